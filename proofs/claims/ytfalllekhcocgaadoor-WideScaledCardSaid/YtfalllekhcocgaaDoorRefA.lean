/-
  The reference's sixteen digits: is a number 0, which is greater, sums, differences.
-/
import Derived.Test.YtfalllekhcocgaaDoorBigs
import Derived.Test.YtfalllekhcocgaaDoorRows
import Derived.Deep.QuietTactic
import Derived.BigQuiet
import Derived.ChangeKeysEq
import Derived.LoopTactic
import Derived.Outline
namespace Go.Proofs.YtfalllekhcocgaaDoor
open Go.RowKit

theorem alloc_sz (w : World) (o : Obj) : (w.alloc o).heap.size = w.heap.size + 1 := by simp
theorem size_D : (Tryd.prog.info? 74).map (·.size) = some 16 := by kernel_rfl
theorem size_Dn (n : Nat) : (Tryd.prog.info? 74).map (·.size) = some (digs n).size := by rw [digs_size]; exact size_D

section
variable {B : Nat} {w a : World} {g g' : Nat} {t : TypeId} {cs : Array Value}
theorem Row.putRow (h : Row w g t cs) (cs' : Array Value) : Row (w.setRow g cs') g t cs' := setRow_heap w g cs cs' t _ h
theorem Row.farRow (h : Row w g t cs) (hne : g ≠ g') (cs' : Array Value) : Row (w.setRow g' cs') g t cs := (setRow_other w g' g cs' hne).trans h
theorem Up.setRow (h : Up B w a) {p : Nat} (hp : B ≤ p) (cs : Array Value) : Up B w (a.setRow p cs) :=
  ⟨h.below.trans ⟨rfl, rfl, rfl, by simp, fun k hk => setRow_other a p k cs (by omega)⟩, by rw [setRow_size]; exact h.size⟩
end
theorem digs_one (n : Nat) : (digs n).all (·.oneCell') = true := by
  rw [Array.all_eq_true]
  intro i hi
  rw [digs_size] at hi
  have h := digs_get n hi
  rw [Array.getElem?_eq_some_iff] at h
  obtain ⟨_, h⟩ := h
  rw [h]
  rfl
theorem cells_u64 : Tryd.prog.cellsOf 22 = 1 := by kernel_rfl
theorem info_u64 : (Tryd.prog.info? 22).map (fun i => (i.zero, i.size, i.bytes)) = some (some (.int .u64 0), 1, 8) := by kernel_rfl
theorem part_D (n i : Nat) (h : i < 16) (W : World) : (part 22 (digs n) i).run Tryd.prog W = .ok (.int .u64 (dg n i : Int)) W := by
  unfold part
  have hg := digs_get n h
  simp [isAgg, Sem.run_bind, run_underlying Tryd.underlying22, hg]
theorem items_D (n : Nat) (W : World) : ∀ is : List Nat, (∀ i ∈ is, i < 16) → (Op.eqItems 9999 22 1 (digs n) (digs 0) is).run Tryd.prog W = .ok (is.all fun i => decide (dg n i = 0)) W
  | [], _ => by simp [Op.eqItems]
  | i :: is, h => by
    have h1 := part_D n i (h i List.mem_cons_self) W
    have h2 := part_D 0 i (h i List.mem_cons_self) W
    have ih := items_D n W is (fun j hj => h j (List.mem_cons_of_mem _ hj))
    have he := run_equalIn_int (P := Tryd.prog) W 9998 22 .u64 .u64 (dg n i : Int) (dg 0 i : Int) Tryd.underlying22
    rw [dg_zero] at he h2
    simp only [Op.eqItems, Sem.run_bind, Nat.mul_one, h1, h2, he, Result.andThen_ok]
    by_cases h0 : dg n i = 0
    · simp [h0, ih]
    · simp [h0]
theorem all_zero {n : Nat} (hn : n < BP 16) : ((List.range 16).all fun i => decide (dg n i = 0)) = decide (n = 0) := by
  rw [Bool.eq_iff_iff]
  simp only [List.all_eq_true, List.mem_range, decide_eq_true_eq]
  constructor
  · intro h
    exact dg_ext hn (BP_pos 16) (fun i hi => by rw [h i hi, dg_zero])
  · rintro rfl i _
    exact dg_zero i
theorem digs_0 : digs 0 = #[.int .u64 0, .int .u64 0, .int .u64 0, .int .u64 0, .int .u64 0, .int .u64 0, .int .u64 0, .int .u64 0, .int .u64 0, .int .u64 0, .int .u64 0, .int .u64 0, .int .u64 0, .int .u64 0, .int .u64 0, .int .u64 0] := by kernel_rfl
theorem eql_D (n : Nat) (hn : n < BP 16) (W : World) : (Op.equalIn 10000 74 (.agg (digs n)) (.agg #[.int .u64 0, .int .u64 0, .int .u64 0, .int .u64 0, .int .u64 0, .int .u64 0, .int .u64 0, .int .u64 0, .int .u64 0, .int .u64 0, .int .u64 0, .int .u64 0, .int .u64 0, .int .u64 0, .int .u64 0, .int .u64 0])).run Tryd.prog W = .ok (decide (n = 0)) W := by
  obtain ⟨i, hi⟩ : ∃ i, Tryd.prog.info? 74 = some i := by
    have := size_D
    cases h : Tryd.prog.info? 74 with
    | none => rw [h] at this; cases this
    | some i => exact ⟨i, rfl⟩
  obtain ⟨j, hj, _⟩ := info_parts info_u64
  rw [← digs_0, run_equalIn_array W 9999 (digs n) (digs 0) Tryd.underlying74 hj, cells_u64, items_D n W _ (fun i hi => by simpa using hi), all_zero hn]

set_option maxRecDepth 100000 in
theorem rzero_any (w : World) (n : Nat) (hn : n < BP 16) : Calls Tryd.prog 64 #[DV n] w fun e w' => e = .returned (.bool (decide (n = 0))) ∧ Below w.heap.size w w' := by
  have hR := Row.new w 74 (digs n)
  have hU := ((Up.refl w).alloc (.cells (digs n) 74))
  have ke := eql_D n hn
  obtain ⟨b, hb⟩ : ∃ b, b = decide (n = 0) := ⟨_, rfl⟩
  rw [← hb] at ke ⊢
  clear hb hn
  unfold DV
  go_enter Tryd.func64, Tryd.ntmps64
  go_wp2_with (refine wpList_load_row rfl 74 _ rfl (w.heap.size) rfl 74 (digs n) (0, 0) _ hR Tryd.underlying74 rfl (size_Dn n) ?_)
  go_ret
  exact ⟨rfl, hU.below⟩

/-- a comparison's answer -/
def cmpN (m n : Nat) : Int := if m < n then -1 else if n < m then 1 else 0

set_option maxRecDepth 100000 in
set_option maxHeartbeats 1000000 in
theorem rcmp_any (w : World) (m n : Nat) (hm : m < BP 16) (hn : n < BP 16) : Calls Tryd.prog 88 #[DV m, DV n] w fun e w' => e = .returned (.int .i64 (cmpN m n)) ∧ Below w.heap.size w w' := by
  have hA := (Row.new w 74 (digs m)).alloc (.cells (digs n) 74)
  have hB := Row.new (w.alloc (.cells (digs m) 74)) 74 (digs n)
  have hU := ((Up.refl w).alloc (.cells (digs m) 74)).alloc (.cells (digs n) 74)
  simp only [alloc_sz] at hB
  have H0 := hid (show m / BP 16 = n / BP 16 by rw [Nat.div_eq_of_lt hm, Nat.div_eq_of_lt hn])
  clear hm hn
  unfold DV
  go_enter Tryd.func88, Tryd.ntmps88
  go_wp2_with fail
  obtain ⟨V, hV⟩ : ∃ V, V = (w.alloc (.cells (digs m) 74)).alloc (.cells (digs n) 74) := ⟨_, rfl⟩
  rw [← hV] at hA hB hU ⊢
  clear hV
  go_loopw [5] (fun i wr => ∃ k : Nat, k ≤ 16 ∧ i = .int .i64 ((k : Int) - 1) ∧ m / BP k = n / BP k ∧ Row wr w.heap.size 74 (digs m) ∧ Row wr (w.heap.size + 1) 74 (digs n) ∧ Up w.heap.size w wr) (fun i _ => (intOf i + 1).toNat)
  case atStart => exact ⟨16, by omega, rfl, H0.out, hA, hB, hU⟩
  case round =>
    clear hA hB hU H0
    obtain ⟨k, hk, rfl, hv, hA, hB, hU⟩ := hrel
    rcases k with _ | j
    · have hmn : m = n := by simpa [BP_zero] using hv
      subst hmn
      go_wp2
      go_ret
      exact ⟨by unfold cmpN; simp, hU.below⟩
    · have ca := hA.cell j
      have cb := hB.cell j
      rw [digs_get _ (by omega)] at ca cb
      have hj : ((j + 1 : Nat) : Int) - 1 = (j : Int) := by omega
      rw [hj]
      have hc := cmp_step hv
      obtain ⟨x, hx⟩ : ∃ x, x = dg m j := ⟨_, rfl⟩
      obtain ⟨y, hy⟩ : ∃ y, y = dg n j := ⟨_, rfl⟩
      rw [← hx] at ca hc
      rw [← hy] at cb hc
      have HC := hid hc
      clear hv hc hj hx hy
      rcases Nat.lt_trichotomy x y with hxy | hxy | hxy
      · have b1 : ((x : Int) != (y : Int)) = true := by simp; omega
        have hres : cmpN m n = -1 := by unfold cmpN; rw [if_pos (HC.out.2.1 hxy)]
        have HR := hid hres
        clear hres
        go_wp2
        go_quiet (fail)
        go_wp2
        clear b1
        go_quiet (fail)
        go_wp2
        go_ret
        exact ⟨by rw [HR.out]; rfl, ((hU.drewN _).drewN _).below⟩
      · subst hxy
        go_wp2
        go_quiet (fail)
        go_wp2
        go_roundw
        case rel => exact ⟨j, by omega, by simp, HC.out.1 (by first | rfl | trivial), hA, hB, hU.drewN _⟩
        case measure => simp [intOf]
      · have b1 : ((x : Int) != (y : Int)) = true := by simp; omega
        have b2 : decide ((x : Int) < (y : Int)) = false := by simp; omega
        have hres : cmpN m n = 1 := by unfold cmpN; have := HC.out.2.2 hxy; rw [if_neg (by omega), if_pos this]
        have HR := hid hres
        clear hres
        go_wp2
        go_quiet (fail)
        go_wp2
        clear b1
        go_quiet (fail)
        go_wp2
        go_ret
        exact ⟨by rw [HR.out]; rfl, ((hU.drewN _).drewN _).below⟩

set_option maxRecDepth 100000 in
set_option maxHeartbeats 1000000 in
theorem radd_any (w : World) (m n : Nat) (hm : m + n < BP 16) : Calls Tryd.prog 87 #[DV m, DV n] w fun e w' => e = .returned (DV (m + n)) ∧ Below w.heap.size w w' := by
  have hA := (((Row.new w 74 (digs m)).alloc (.cells (digs n) 74)).alloc (.cells (digs 0) 74)).alloc (.cells (digs 0) 74)
  have hB := ((Row.new (w.alloc (.cells (digs m) 74)) 74 (digs n)).alloc (.cells (digs 0) 74)).alloc (.cells (digs 0) 74)
  have hO := (Row.new ((w.alloc (.cells (digs m) 74)).alloc (.cells (digs n) 74)) 74 (digs 0)).alloc (.cells (digs 0) 74)
  have hC := Row.new (((w.alloc (.cells (digs m) 74)).alloc (.cells (digs n) 74)).alloc (.cells (digs 0) 74)) 74 (digs 0)
  have hU := ((((Up.refl w).alloc (.cells (digs m) 74)).alloc (.cells (digs n) 74)).alloc (.cells (digs 0) 74)).alloc (.cells (digs 0) 74)
  simp only [alloc_sz] at hB hO hC
  have HM := hid hm
  clear hm
  unfold DV
  go_enter Tryd.func87, Tryd.ntmps87
  go_wp2_with fail
  obtain ⟨V, hV⟩ : ∃ V, V = (((w.alloc (.cells (digs m) 74)).alloc (.cells (digs n) 74)).alloc (.cells (digs 0) 74)).alloc (.cells (digs 0) 74) := ⟨_, rfl⟩
  rw [digs_0] at hV
  rw [← hV]
  rw [← digs_0] at hV
  rw [← hV] at hA hB hO hC hU
  clear hV
  go_loopw [6, 7] (fun c i wr => ∃ k t : Nat, k ≤ 16 ∧ i = .int .i64 (k : Int) ∧ c = .int .u64 (carry m n k : Int) ∧ (∀ j, dg t j = if j < k then dg (m + n) j else 0) ∧ t < BP 16 ∧ Row wr w.heap.size 74 (digs m) ∧ Row wr (w.heap.size + 1) 74 (digs n) ∧ Row wr (w.heap.size + 1 + 1) 74 (digs 0) ∧ Row wr (w.heap.size + 1 + 1 + 1) 74 (digs t) ∧ Up w.heap.size w wr) (fun _ i _ => 16 - (intOf i).toNat)
  case atStart => exact ⟨0, 0, by omega, rfl, by rw [carry_zero]; rfl, fun j => by rw [dg_zero]; simp, BP_pos 16, hA, hB, hO, hC, hU⟩
  case round =>
    clear hA hB hO hC hU
    obtain ⟨k, t, hk, rfl, rfl, ht, htl, hA, hB, hO, hC, hU⟩ := hrel
    by_cases hlt : k < 16
    · have ca := hA.cell k
      have cb := hB.cell k
      have cf := hC.frozen k
      have cc := hC.cell k
      rw [digs_get _ hlt] at ca cb cc
      have hs := add_dg m n k
      have l1 := dg_lt m k
      have l2 := dg_lt n k
      have l3 := carry_le m n k
      have l5 := dg_lt (m + n) k
      obtain ⟨x, hx⟩ : ∃ x, x = dg m k := ⟨_, rfl⟩
      obtain ⟨y, hy⟩ : ∃ y, y = dg n k := ⟨_, rfl⟩
      obtain ⟨c, hc⟩ : ∃ c, c = carry m n k := ⟨_, rfl⟩
      obtain ⟨s, hs1⟩ : ∃ s, s = dg (m + n) k := ⟨_, rfl⟩
      obtain ⟨c', hc'⟩ : ∃ c', c' = carry m n (k + 1) := ⟨_, rfl⟩
      rw [← hx] at ca hs l1
      rw [← hy] at cb hs l2
      rw [← hc] at hs l3 ⊢
      rw [← hs1, ← hc'] at hs
      rw [← hs1] at l5
      have HS := hid hs1
      have HC := hid hc'
      have w1 : IntKind.u64.wrap ((x : Int) + y) = (x : Int) + y := by rw [IntKind.wrap_u64]; omega
      have w2 : IntKind.u64.wrap ((x : Int) + y + c) = (x : Int) + y + c := by rw [IntKind.wrap_u64]; omega
      have w3 : ((x : Int) + y + c) % 4294967296 = (s : Int) := by omega
      have w4 : ((x : Int) + y + c) / 4294967296 = (c' : Int) := by omega
      have HT := hid ht
      have HA := hA.far (p := ⟨w.heap.size + 1 + 1 + 1, k, none⟩) (by first | (simp; done) | (simp; omega)) (.int .u64 (s : Int))
      have HB := hB.far (p := ⟨w.heap.size + 1 + 1 + 1, k, none⟩) (by first | (simp; done) | (simp; omega)) (.int .u64 (s : Int))
      have HO := hO.far (p := ⟨w.heap.size + 1 + 1 + 1, k, none⟩) (by simp) (.int .u64 (s : Int))
      have HR := hC.set k (.int .u64 (s : Int))
      rw [digs_set t l5] at HR
      have HU := hU.setCell (p := w.heap.size + 1 + 1 + 1) (i := k) (by omega) (.int .u64 (s : Int))
      clear hs hx hy hc hs1 hc' ht
      go_wp2
      go_quiet (fail)
      go_wp2
      go_roundw
      case rel =>
        refine ⟨k + 1, put t k s, by omega, by go_num, by rw [w4, HC.out], fun j => ?_, put_lt htl hlt l5, HA, HB, HO, HR, (hU.drewN _).setCell (by omega) _⟩
        rw [dg_put l5, HT.out j, HS.out]
        by_cases hj : j = k
        · subst hj
          rw [if_pos rfl, if_pos (by omega)]
        · rw [if_neg hj]
          by_cases hj' : j < k
          · rw [if_pos hj', if_pos (by omega)]
          · rw [if_neg hj', if_neg (by omega)]
      case measure => simp [intOf]; omega
    · obtain rfl : k = 16 := by omega
      have hts : t = m + n := dg_ext htl HM.out (fun i hi => by rw [ht i, if_pos hi])
      subst hts
      clear ht htl
      go_wp2_with (first | (refine wpList_load_row rfl 74 _ rfl (w.heap.size + 1 + 1 + 1) rfl 74 (digs (m + n)) (0, 0) _ hC Tryd.underlying74 rfl (size_Dn (m + n)) ?_) | (refine wpList_store_row rfl 74 _ _ rfl (w.heap.size + 1 + 1) (digs (m + n)) rfl rfl 74 (digs 0) hO (size_Dn (m + n)) (by rw [digs_size, digs_size]) (digs_one (m + n)) ?_))
      exact bodyPost_ret (v := DV (m + n)) (results_cell_row Tryd.results87 _ _ (w.heap.size + 1 + 1) 74 (digs (m + n)) (0, 0) _ rfl (hO.putRow _) Tryd.underlying74 rfl (size_Dn (m + n))) rfl ⟨rfl, (hU.setRow (by omega) _).below⟩

set_option maxRecDepth 100000 in
set_option maxHeartbeats 1000000 in
theorem rsub_any (w : World) (m n : Nat) (hm : m < BP 16) (hnm : n ≤ m) : Calls Tryd.prog 89 #[DV m, DV n] w fun e w' => e = .returned (DV (m - n)) ∧ Below w.heap.size w w' := by
  have hA := (((Row.new w 74 (digs m)).alloc (.cells (digs n) 74)).alloc (.cells (digs 0) 74)).alloc (.cells (digs 0) 74)
  have hB := ((Row.new (w.alloc (.cells (digs m) 74)) 74 (digs n)).alloc (.cells (digs 0) 74)).alloc (.cells (digs 0) 74)
  have hO := (Row.new ((w.alloc (.cells (digs m) 74)).alloc (.cells (digs n) 74)) 74 (digs 0)).alloc (.cells (digs 0) 74)
  have hC := Row.new (((w.alloc (.cells (digs m) 74)).alloc (.cells (digs n) 74)).alloc (.cells (digs 0) 74)) 74 (digs 0)
  have hU := ((((Up.refl w).alloc (.cells (digs m) 74)).alloc (.cells (digs n) 74)).alloc (.cells (digs 0) 74)).alloc (.cells (digs 0) 74)
  simp only [alloc_sz] at hB hO hC
  have HM := hid hm
  have HN := hid hnm
  clear hm hnm
  unfold DV
  go_enter Tryd.func89, Tryd.ntmps89
  go_wp2_with fail
  obtain ⟨V, hV⟩ : ∃ V, V = (((w.alloc (.cells (digs m) 74)).alloc (.cells (digs n) 74)).alloc (.cells (digs 0) 74)).alloc (.cells (digs 0) 74) := ⟨_, rfl⟩
  rw [digs_0] at hV
  rw [← hV]
  rw [← digs_0] at hV
  rw [← hV] at hA hB hO hC hU
  clear hV
  go_loopw [6, 7] (fun c i wr => ∃ k t : Nat, k ≤ 16 ∧ i = .int .i64 (k : Int) ∧ c = .int .u64 (borrow m n k : Int) ∧ (∀ j, dg t j = if j < k then dg (m - n) j else 0) ∧ t < BP 16 ∧ Row wr w.heap.size 74 (digs m) ∧ Row wr (w.heap.size + 1) 74 (digs n) ∧ Row wr (w.heap.size + 1 + 1) 74 (digs 0) ∧ Row wr (w.heap.size + 1 + 1 + 1) 74 (digs t) ∧ Up w.heap.size w wr) (fun _ i _ => 16 - (intOf i).toNat)
  case atStart => exact ⟨0, 0, by omega, rfl, by rw [borrow_zero]; rfl, fun j => by rw [dg_zero]; simp, BP_pos 16, hA, hB, hO, hC, hU⟩
  case round =>
    clear hA hB hO hC hU
    obtain ⟨k, t, hk, rfl, rfl, ht, htl, hA, hB, hO, hC, hU⟩ := hrel
    by_cases hlt : k < 16
    · have ca := hA.cell k
      have cb := hB.cell k
      have cf := hC.frozen k
      have cc := hC.cell k
      rw [digs_get _ hlt] at ca cb cc
      have hs := sub_dg HN.out k
      have l1 := dg_lt m k
      have l2 := dg_lt n k
      have l3 := borrow_le m n k
      have l5 := dg_lt (m - n) k
      obtain ⟨x, hx⟩ : ∃ x, x = dg m k := ⟨_, rfl⟩
      obtain ⟨y, hy⟩ : ∃ y, y = dg n k := ⟨_, rfl⟩
      obtain ⟨c, hc⟩ : ∃ c, c = borrow m n k := ⟨_, rfl⟩
      obtain ⟨s, hs1⟩ : ∃ s, s = dg (m - n) k := ⟨_, rfl⟩
      obtain ⟨c', hc'⟩ : ∃ c', c' = borrow m n (k + 1) := ⟨_, rfl⟩
      rw [← hx] at ca hs l1
      rw [← hy] at cb hs l2
      rw [← hc] at hs l3 ⊢
      rw [← hs1, ← hc'] at hs
      rw [← hs1] at l5
      have HS := hid hs1
      have HC := hid hc'
      have w1 : IntKind.u64.wrap ((x : Int) + 4294967296) = (x : Int) + 4294967296 := by rw [IntKind.wrap_u64]; omega
      have w2 : IntKind.u64.wrap ((x : Int) + 4294967296 - y) = (x : Int) + 4294967296 - y := by rw [IntKind.wrap_u64]; omega
      have w5 : IntKind.u64.wrap ((x : Int) + 4294967296 - y - c) = (x : Int) + 4294967296 - y - c := by rw [IntKind.wrap_u64]; omega
      have w3 : ((x : Int) + 4294967296 - y - c) % 4294967296 = (s : Int) := by omega
      have w4 : IntKind.u64.wrap (1 - ((x : Int) + 4294967296 - y - c) / 4294967296) = (c' : Int) := by rw [IntKind.wrap_u64]; omega
      have HT := hid ht
      have HA := hA.far (p := ⟨w.heap.size + 1 + 1 + 1, k, none⟩) (by first | (simp; done) | (simp; omega)) (.int .u64 (s : Int))
      have HB := hB.far (p := ⟨w.heap.size + 1 + 1 + 1, k, none⟩) (by first | (simp; done) | (simp; omega)) (.int .u64 (s : Int))
      have HO := hO.far (p := ⟨w.heap.size + 1 + 1 + 1, k, none⟩) (by simp) (.int .u64 (s : Int))
      have HR := hC.set k (.int .u64 (s : Int))
      rw [digs_set t l5] at HR
      have HU := hU.setCell (p := w.heap.size + 1 + 1 + 1) (i := k) (by omega) (.int .u64 (s : Int))
      clear hs hx hy hc hs1 hc' ht
      go_wp2
      go_quiet (fail)
      go_wp2
      go_roundw
      case rel =>
        refine ⟨k + 1, put t k s, by omega, by go_num, by rw [HC.out], fun j => ?_, put_lt htl hlt l5, HA, HB, HO, HR, (hU.drewN _).setCell (by omega) _⟩
        rw [dg_put l5, HT.out j, HS.out]
        by_cases hj : j = k
        · subst hj
          rw [if_pos rfl, if_pos (by omega)]
        · rw [if_neg hj]
          by_cases hj' : j < k
          · rw [if_pos hj', if_pos (by omega)]
          · rw [if_neg hj', if_neg (by omega)]
      case measure => simp [intOf]; omega
    · obtain rfl : k = 16 := by omega
      have hts : t = m - n := dg_ext htl (Nat.lt_of_le_of_lt (Nat.sub_le _ _) HM.out) (fun i hi => by rw [ht i, if_pos hi])
      subst hts
      clear ht htl
      go_wp2_with (first | (refine wpList_load_row rfl 74 _ rfl (w.heap.size + 1 + 1 + 1) rfl 74 (digs (m - n)) (0, 0) _ hC Tryd.underlying74 rfl (size_Dn (m - n)) ?_) | (refine wpList_store_row rfl 74 _ _ rfl (w.heap.size + 1 + 1) (digs (m - n)) rfl rfl 74 (digs 0) hO (size_Dn (m - n)) (by rw [digs_size, digs_size]) (digs_one (m - n)) ?_))
      exact bodyPost_ret (v := DV (m - n)) (results_cell_row Tryd.results89 _ _ (w.heap.size + 1 + 1) 74 (digs (m - n)) (0, 0) _ rfl (hO.putRow _) Tryd.underlying74 rfl (size_Dn (m - n))) rfl ⟨rfl, (hU.setRow (by omega) _).below⟩
end Go.Proofs.YtfalllekhcocgaaDoor
