/-
  RefA · RefB · RefC
-/
import Derived.Test.YtmamedobphlpkaaDoorE08
import Derived.Test.YtmamedobphlpkaaDoorRows
import Derived.Deep.QuietTactic
import Derived.BigQuiet
import Derived.ChangeKeysEq
import Derived.LoopTactic
import Derived.Outline
import Derived.StillTailTactics
import Derived.Deep.RegionHeld3
import Derived.Laws.CopyRow
set_option linter.unusedSimpArgs false
set_option linter.unusedVariables false

namespace Go.Proofs.YtmamedobphlpkaaDoor
open Go.RowKit

theorem alloc_sz (w : World) (o : Obj) : (w.alloc o).heap.size = w.heap.size + 1 := by simp
theorem size_D : (Tryd.prog.info? 53).map (·.size) = some 16 := by kernel_rfl
theorem size_Dn (n : Nat) : (Tryd.prog.info? 53).map (·.size) = some (digs n).size := by rw [digs_size]; exact size_D

section
variable {B : Nat} {w a : World} {g g' : Nat} {t : TypeId} {cs : Array Value}
theorem Row.putRow (h : Row w g t cs) (cs' : Array Value) : Row (w.setRow g cs') g t cs' := setRow_heap w g cs cs' t _ h
theorem Row.farRow (h : Row w g t cs) (hne : g ≠ g') (cs' : Array Value) : Row (w.setRow g' cs') g t cs := (setRow_other w g' g cs' hne).trans h
theorem Up.setRow (h : Up B w a) {p : Nat} (hp : B ≤ p) (cs : Array Value) : Up B w (a.setRow p cs) :=
  ⟨h.below.trans ⟨rfl, rfl, rfl, by simp, fun k hk => setRow_other a p k cs (by omega)⟩, by rw [setRow_size]; exact h.size⟩
end
theorem digs_one (n : Nat) : (digs n).all (·.oneCell') = true := by
  rw [Array.all_eq_true]
  intro i hi
  rw [digs_size] at hi
  have h := digs_get n hi
  rw [Array.getElem?_eq_some_iff] at h
  obtain ⟨_, h⟩ := h
  rw [h]
  rfl
theorem cells_u64 : Tryd.prog.cellsOf 22 = 1 := by kernel_rfl
theorem info_u64 : (Tryd.prog.info? 22).map (fun i => (i.zero, i.size, i.bytes)) = some (some (.int .u64 0), 1, 8) := by kernel_rfl
theorem part_D (n i : Nat) (h : i < 16) (W : World) : (part 22 (digs n) i).run Tryd.prog W = .ok (.int .u64 (dg n i : Int)) W := by
  unfold part
  have hg := digs_get n h
  simp [isAgg, Sem.run_bind, run_underlying Tryd.underlying22, hg]
theorem items_D (n : Nat) (W : World) : ∀ is : List Nat, (∀ i ∈ is, i < 16) → (Op.eqItems 9999 22 1 (digs n) (digs 0) is).run Tryd.prog W = .ok (is.all fun i => decide (dg n i = 0)) W
  | [], _ => by simp [Op.eqItems]
  | i :: is, h => by
    have h1 := part_D n i (h i List.mem_cons_self) W
    have h2 := part_D 0 i (h i List.mem_cons_self) W
    have ih := items_D n W is (fun j hj => h j (List.mem_cons_of_mem _ hj))
    have he := run_equalIn_int (P := Tryd.prog) W 9998 22 .u64 .u64 (dg n i : Int) (dg 0 i : Int) Tryd.underlying22
    rw [dg_zero] at he h2
    simp only [Op.eqItems, Sem.run_bind, Nat.mul_one, h1, h2, he, Result.andThen_ok]
    by_cases h0 : dg n i = 0
    · simp [h0, ih]
    · simp [h0]
theorem all_zero {n : Nat} (hn : n < BP 16) : ((List.range 16).all fun i => decide (dg n i = 0)) = decide (n = 0) := by
  rw [Bool.eq_iff_iff]
  simp only [List.all_eq_true, List.mem_range, decide_eq_true_eq]
  constructor
  · intro h
    exact dg_ext hn (BP_pos 16) (fun i hi => by rw [h i hi, dg_zero])
  · rintro rfl i _
    exact dg_zero i
theorem digs_0 : digs 0 = #[.int .u64 0, .int .u64 0, .int .u64 0, .int .u64 0, .int .u64 0, .int .u64 0, .int .u64 0, .int .u64 0, .int .u64 0, .int .u64 0, .int .u64 0, .int .u64 0, .int .u64 0, .int .u64 0, .int .u64 0, .int .u64 0] := by kernel_rfl
theorem eql_D (n : Nat) (hn : n < BP 16) (W : World) : (Op.equalIn 10000 53 (.agg (digs n)) (.agg #[.int .u64 0, .int .u64 0, .int .u64 0, .int .u64 0, .int .u64 0, .int .u64 0, .int .u64 0, .int .u64 0, .int .u64 0, .int .u64 0, .int .u64 0, .int .u64 0, .int .u64 0, .int .u64 0, .int .u64 0, .int .u64 0])).run Tryd.prog W = .ok (decide (n = 0)) W := by
  obtain ⟨i, hi⟩ : ∃ i, Tryd.prog.info? 53 = some i := by
    have := size_D
    cases h : Tryd.prog.info? 53 with
    | none => rw [h] at this; cases this
    | some i => exact ⟨i, rfl⟩
  obtain ⟨j, hj, _⟩ := info_parts info_u64
  rw [← digs_0, run_equalIn_array W 9999 (digs n) (digs 0) Tryd.underlying53 hj, cells_u64, items_D n W _ (fun i hi => by simpa using hi), all_zero hn]

set_option maxRecDepth 100000 in
theorem rzero_any (w : World) (n : Nat) (hn : n < BP 16) : Calls Tryd.prog 64 #[DV n] w fun e w' => e = .returned (.bool (decide (n = 0))) ∧ Below w.heap.size w w' := by
  have hR := Row.new w 53 (digs n)
  have hU := ((Up.refl w).alloc (.cells (digs n) 53))
  have ke := eql_D n hn
  obtain ⟨b, hb⟩ : ∃ b, b = decide (n = 0) := ⟨_, rfl⟩
  rw [← hb] at ke ⊢
  clear hb hn
  unfold DV
  go_enter Tryd.func64, Tryd.ntmps64
  go_wp2_with (refine wpList_load_row rfl 53 _ rfl (w.heap.size) rfl 53 (digs n) (0, 0) _ hR Tryd.underlying53 rfl (size_Dn n) ?_)
  go_ret
  exact ⟨rfl, hU.below⟩

/-- a comparison's answer -/
def cmpN (m n : Nat) : Int := if m < n then -1 else if n < m then 1 else 0

set_option maxRecDepth 100000 in
set_option maxHeartbeats 1000000 in
theorem rcmp_any (w : World) (m n : Nat) (hm : m < BP 16) (hn : n < BP 16) : Calls Tryd.prog 62 #[DV m, DV n] w fun e w' => e = .returned (.int .i64 (cmpN m n)) ∧ Below w.heap.size w w' := by
  have hA := (Row.new w 53 (digs m)).alloc (.cells (digs n) 53)
  have hB := Row.new (w.alloc (.cells (digs m) 53)) 53 (digs n)
  have hU := ((Up.refl w).alloc (.cells (digs m) 53)).alloc (.cells (digs n) 53)
  simp only [alloc_sz] at hB
  have H0 := hid (show m / BP 16 = n / BP 16 by rw [Nat.div_eq_of_lt hm, Nat.div_eq_of_lt hn])
  clear hm hn
  unfold DV
  go_enter Tryd.func62, Tryd.ntmps62
  go_wp2_with fail
  obtain ⟨V, hV⟩ : ∃ V, V = (w.alloc (.cells (digs m) 53)).alloc (.cells (digs n) 53) := ⟨_, rfl⟩
  rw [← hV] at hA hB hU ⊢
  clear hV
  go_loopw [5] (fun i wr => ∃ k : Nat, k ≤ 16 ∧ i = .int .i64 ((k : Int) - 1) ∧ m / BP k = n / BP k ∧ Row wr w.heap.size 53 (digs m) ∧ Row wr (w.heap.size + 1) 53 (digs n) ∧ Up w.heap.size w wr) (fun i _ => (intOf i + 1).toNat)
  case atStart => exact ⟨16, by omega, rfl, H0.out, hA, hB, hU⟩
  case round =>
    clear hA hB hU H0
    obtain ⟨k, hk, rfl, hv, hA, hB, hU⟩ := hrel
    rcases k with _ | j
    · have hmn : m = n := by simpa [BP_zero] using hv
      subst hmn
      go_wp2
      go_ret
      exact ⟨by unfold cmpN; simp, hU.below⟩
    · have ca := hA.cell j
      have cb := hB.cell j
      rw [digs_get _ (by omega)] at ca cb
      have hj : ((j + 1 : Nat) : Int) - 1 = (j : Int) := by omega
      rw [hj]
      have hc := cmp_step hv
      obtain ⟨x, hx⟩ : ∃ x, x = dg m j := ⟨_, rfl⟩
      obtain ⟨y, hy⟩ : ∃ y, y = dg n j := ⟨_, rfl⟩
      rw [← hx] at ca hc
      rw [← hy] at cb hc
      have HC := hid hc
      clear hv hc hj hx hy
      rcases Nat.lt_trichotomy x y with hxy | hxy | hxy
      · have b1 : ((x : Int) != (y : Int)) = true := by simp; omega
        have hres : cmpN m n = -1 := by unfold cmpN; rw [if_pos (HC.out.2.1 hxy)]
        have HR := hid hres
        clear hres
        go_wp2
        go_quiet (fail)
        go_wp2
        clear b1
        go_quiet (fail)
        go_wp2
        go_ret
        exact ⟨by rw [HR.out]; rfl, ((hU.drewN _).drewN _).below⟩
      · subst hxy
        go_wp2
        go_quiet (fail)
        go_wp2
        go_roundw
        case rel => exact ⟨j, by omega, by simp, HC.out.1 (by first | rfl | trivial), hA, hB, hU.drewN _⟩
        case measure => simp [intOf]
      · have b1 : ((x : Int) != (y : Int)) = true := by simp; omega
        have b2 : decide ((x : Int) < (y : Int)) = false := by simp; omega
        have hres : cmpN m n = 1 := by unfold cmpN; have := HC.out.2.2 hxy; rw [if_neg (by omega), if_pos this]
        have HR := hid hres
        clear hres
        go_wp2
        go_quiet (fail)
        go_wp2
        clear b1
        go_quiet (fail)
        go_wp2
        go_ret
        exact ⟨by rw [HR.out]; rfl, ((hU.drewN _).drewN _).below⟩

set_option maxRecDepth 100000 in
set_option maxHeartbeats 1000000 in
theorem radd_any (w : World) (m n : Nat) (hm : m + n < BP 16) : Calls Tryd.prog 61 #[DV m, DV n] w fun e w' => e = .returned (DV (m + n)) ∧ Below w.heap.size w w' := by
  have hA := (((Row.new w 53 (digs m)).alloc (.cells (digs n) 53)).alloc (.cells (digs 0) 53)).alloc (.cells (digs 0) 53)
  have hB := ((Row.new (w.alloc (.cells (digs m) 53)) 53 (digs n)).alloc (.cells (digs 0) 53)).alloc (.cells (digs 0) 53)
  have hO := (Row.new ((w.alloc (.cells (digs m) 53)).alloc (.cells (digs n) 53)) 53 (digs 0)).alloc (.cells (digs 0) 53)
  have hC := Row.new (((w.alloc (.cells (digs m) 53)).alloc (.cells (digs n) 53)).alloc (.cells (digs 0) 53)) 53 (digs 0)
  have hU := ((((Up.refl w).alloc (.cells (digs m) 53)).alloc (.cells (digs n) 53)).alloc (.cells (digs 0) 53)).alloc (.cells (digs 0) 53)
  simp only [alloc_sz] at hB hO hC
  have HM := hid hm
  clear hm
  unfold DV
  go_enter Tryd.func61, Tryd.ntmps61
  go_wp2_with fail
  obtain ⟨V, hV⟩ : ∃ V, V = (((w.alloc (.cells (digs m) 53)).alloc (.cells (digs n) 53)).alloc (.cells (digs 0) 53)).alloc (.cells (digs 0) 53) := ⟨_, rfl⟩
  rw [digs_0] at hV
  rw [← hV]
  rw [← digs_0] at hV
  rw [← hV] at hA hB hO hC hU
  clear hV
  go_loopw [6, 7] (fun c i wr => ∃ k t : Nat, k ≤ 16 ∧ i = .int .i64 (k : Int) ∧ c = .int .u64 (carry m n k : Int) ∧ (∀ j, dg t j = if j < k then dg (m + n) j else 0) ∧ t < BP 16 ∧ Row wr w.heap.size 53 (digs m) ∧ Row wr (w.heap.size + 1) 53 (digs n) ∧ Row wr (w.heap.size + 1 + 1) 53 (digs 0) ∧ Row wr (w.heap.size + 1 + 1 + 1) 53 (digs t) ∧ Up w.heap.size w wr) (fun _ i _ => 16 - (intOf i).toNat)
  case atStart => exact ⟨0, 0, by omega, rfl, by rw [carry_zero]; rfl, fun j => by rw [dg_zero]; simp, BP_pos 16, hA, hB, hO, hC, hU⟩
  case round =>
    clear hA hB hO hC hU
    obtain ⟨k, t, hk, rfl, rfl, ht, htl, hA, hB, hO, hC, hU⟩ := hrel
    by_cases hlt : k < 16
    · have ca := hA.cell k
      have cb := hB.cell k
      have cf := hC.frozen k
      have cc := hC.cell k
      rw [digs_get _ hlt] at ca cb cc
      have hs := add_dg m n k
      have l1 := dg_lt m k
      have l2 := dg_lt n k
      have l3 := carry_le m n k
      have l5 := dg_lt (m + n) k
      obtain ⟨x, hx⟩ : ∃ x, x = dg m k := ⟨_, rfl⟩
      obtain ⟨y, hy⟩ : ∃ y, y = dg n k := ⟨_, rfl⟩
      obtain ⟨c, hc⟩ : ∃ c, c = carry m n k := ⟨_, rfl⟩
      obtain ⟨s, hs1⟩ : ∃ s, s = dg (m + n) k := ⟨_, rfl⟩
      obtain ⟨c', hc'⟩ : ∃ c', c' = carry m n (k + 1) := ⟨_, rfl⟩
      rw [← hx] at ca hs l1
      rw [← hy] at cb hs l2
      rw [← hc] at hs l3 ⊢
      rw [← hs1, ← hc'] at hs
      rw [← hs1] at l5
      have HS := hid hs1
      have HC := hid hc'
      have w1 : IntKind.u64.wrap ((x : Int) + y) = (x : Int) + y := by rw [IntKind.wrap_u64]; omega
      have w2 : IntKind.u64.wrap ((x : Int) + y + c) = (x : Int) + y + c := by rw [IntKind.wrap_u64]; omega
      have w3 : ((x : Int) + y + c) % 4294967296 = (s : Int) := by omega
      have w4 : ((x : Int) + y + c) / 4294967296 = (c' : Int) := by omega
      have HT := hid ht
      have HA := hA.far (p := ⟨w.heap.size + 1 + 1 + 1, k, none⟩) (by first | (simp; done) | (simp; omega)) (.int .u64 (s : Int))
      have HB := hB.far (p := ⟨w.heap.size + 1 + 1 + 1, k, none⟩) (by first | (simp; done) | (simp; omega)) (.int .u64 (s : Int))
      have HO := hO.far (p := ⟨w.heap.size + 1 + 1 + 1, k, none⟩) (by simp) (.int .u64 (s : Int))
      have HR := hC.set k (.int .u64 (s : Int))
      rw [digs_set t l5] at HR
      have HU := hU.setCell (p := w.heap.size + 1 + 1 + 1) (i := k) (by omega) (.int .u64 (s : Int))
      clear hs hx hy hc hs1 hc' ht
      go_wp2
      go_quiet (fail)
      go_wp2
      go_roundw
      case rel =>
        refine ⟨k + 1, put t k s, by omega, by go_num, by rw [w4, HC.out], fun j => ?_, put_lt htl hlt l5, HA, HB, HO, HR, (hU.drewN _).setCell (by omega) _⟩
        rw [dg_put l5, HT.out j, HS.out]
        by_cases hj : j = k
        · subst hj
          rw [if_pos rfl, if_pos (by omega)]
        · rw [if_neg hj]
          by_cases hj' : j < k
          · rw [if_pos hj', if_pos (by omega)]
          · rw [if_neg hj', if_neg (by omega)]
      case measure => simp [intOf]; omega
    · obtain rfl : k = 16 := by omega
      have hts : t = m + n := dg_ext htl HM.out (fun i hi => by rw [ht i, if_pos hi])
      subst hts
      clear ht htl
      go_wp2_with (first | (refine wpList_load_row rfl 53 _ rfl (w.heap.size + 1 + 1 + 1) rfl 53 (digs (m + n)) (0, 0) _ hC Tryd.underlying53 rfl (size_Dn (m + n)) ?_) | (refine wpList_store_row rfl 53 _ _ rfl (w.heap.size + 1 + 1) (digs (m + n)) rfl rfl 53 (digs 0) hO (size_Dn (m + n)) (by rw [digs_size, digs_size]) (digs_one (m + n)) ?_))
      exact bodyPost_ret (v := DV (m + n)) (results_cell_row Tryd.results61 _ _ (w.heap.size + 1 + 1) 53 (digs (m + n)) (0, 0) _ rfl (hO.putRow _) Tryd.underlying53 rfl (size_Dn (m + n))) rfl ⟨rfl, (hU.setRow (by omega) _).below⟩

set_option maxRecDepth 100000 in
set_option maxHeartbeats 1000000 in
theorem rsub_any (w : World) (m n : Nat) (hm : m < BP 16) (hnm : n ≤ m) : Calls Tryd.prog 63 #[DV m, DV n] w fun e w' => e = .returned (DV (m - n)) ∧ Below w.heap.size w w' := by
  have hA := (((Row.new w 53 (digs m)).alloc (.cells (digs n) 53)).alloc (.cells (digs 0) 53)).alloc (.cells (digs 0) 53)
  have hB := ((Row.new (w.alloc (.cells (digs m) 53)) 53 (digs n)).alloc (.cells (digs 0) 53)).alloc (.cells (digs 0) 53)
  have hO := (Row.new ((w.alloc (.cells (digs m) 53)).alloc (.cells (digs n) 53)) 53 (digs 0)).alloc (.cells (digs 0) 53)
  have hC := Row.new (((w.alloc (.cells (digs m) 53)).alloc (.cells (digs n) 53)).alloc (.cells (digs 0) 53)) 53 (digs 0)
  have hU := ((((Up.refl w).alloc (.cells (digs m) 53)).alloc (.cells (digs n) 53)).alloc (.cells (digs 0) 53)).alloc (.cells (digs 0) 53)
  simp only [alloc_sz] at hB hO hC
  have HM := hid hm
  have HN := hid hnm
  clear hm hnm
  unfold DV
  go_enter Tryd.func63, Tryd.ntmps63
  go_wp2_with fail
  obtain ⟨V, hV⟩ : ∃ V, V = (((w.alloc (.cells (digs m) 53)).alloc (.cells (digs n) 53)).alloc (.cells (digs 0) 53)).alloc (.cells (digs 0) 53) := ⟨_, rfl⟩
  rw [digs_0] at hV
  rw [← hV]
  rw [← digs_0] at hV
  rw [← hV] at hA hB hO hC hU
  clear hV
  go_loopw [6, 7] (fun c i wr => ∃ k t : Nat, k ≤ 16 ∧ i = .int .i64 (k : Int) ∧ c = .int .u64 (borrow m n k : Int) ∧ (∀ j, dg t j = if j < k then dg (m - n) j else 0) ∧ t < BP 16 ∧ Row wr w.heap.size 53 (digs m) ∧ Row wr (w.heap.size + 1) 53 (digs n) ∧ Row wr (w.heap.size + 1 + 1) 53 (digs 0) ∧ Row wr (w.heap.size + 1 + 1 + 1) 53 (digs t) ∧ Up w.heap.size w wr) (fun _ i _ => 16 - (intOf i).toNat)
  case atStart => exact ⟨0, 0, by omega, rfl, by rw [borrow_zero]; rfl, fun j => by rw [dg_zero]; simp, BP_pos 16, hA, hB, hO, hC, hU⟩
  case round =>
    clear hA hB hO hC hU
    obtain ⟨k, t, hk, rfl, rfl, ht, htl, hA, hB, hO, hC, hU⟩ := hrel
    by_cases hlt : k < 16
    · have ca := hA.cell k
      have cb := hB.cell k
      have cf := hC.frozen k
      have cc := hC.cell k
      rw [digs_get _ hlt] at ca cb cc
      have hs := sub_dg HN.out k
      have l1 := dg_lt m k
      have l2 := dg_lt n k
      have l3 := borrow_le m n k
      have l5 := dg_lt (m - n) k
      obtain ⟨x, hx⟩ : ∃ x, x = dg m k := ⟨_, rfl⟩
      obtain ⟨y, hy⟩ : ∃ y, y = dg n k := ⟨_, rfl⟩
      obtain ⟨c, hc⟩ : ∃ c, c = borrow m n k := ⟨_, rfl⟩
      obtain ⟨s, hs1⟩ : ∃ s, s = dg (m - n) k := ⟨_, rfl⟩
      obtain ⟨c', hc'⟩ : ∃ c', c' = borrow m n (k + 1) := ⟨_, rfl⟩
      rw [← hx] at ca hs l1
      rw [← hy] at cb hs l2
      rw [← hc] at hs l3 ⊢
      rw [← hs1, ← hc'] at hs
      rw [← hs1] at l5
      have HS := hid hs1
      have HC := hid hc'
      have w1 : IntKind.u64.wrap ((x : Int) + 4294967296) = (x : Int) + 4294967296 := by rw [IntKind.wrap_u64]; omega
      have w2 : IntKind.u64.wrap ((x : Int) + 4294967296 - y) = (x : Int) + 4294967296 - y := by rw [IntKind.wrap_u64]; omega
      have w5 : IntKind.u64.wrap ((x : Int) + 4294967296 - y - c) = (x : Int) + 4294967296 - y - c := by rw [IntKind.wrap_u64]; omega
      have w3 : ((x : Int) + 4294967296 - y - c) % 4294967296 = (s : Int) := by omega
      have w4 : IntKind.u64.wrap (1 - ((x : Int) + 4294967296 - y - c) / 4294967296) = (c' : Int) := by rw [IntKind.wrap_u64]; omega
      have HT := hid ht
      have HA := hA.far (p := ⟨w.heap.size + 1 + 1 + 1, k, none⟩) (by first | (simp; done) | (simp; omega)) (.int .u64 (s : Int))
      have HB := hB.far (p := ⟨w.heap.size + 1 + 1 + 1, k, none⟩) (by first | (simp; done) | (simp; omega)) (.int .u64 (s : Int))
      have HO := hO.far (p := ⟨w.heap.size + 1 + 1 + 1, k, none⟩) (by simp) (.int .u64 (s : Int))
      have HR := hC.set k (.int .u64 (s : Int))
      rw [digs_set t l5] at HR
      have HU := hU.setCell (p := w.heap.size + 1 + 1 + 1) (i := k) (by omega) (.int .u64 (s : Int))
      clear hs hx hy hc hs1 hc' ht
      go_wp2
      go_quiet (fail)
      go_wp2
      go_roundw
      case rel =>
        refine ⟨k + 1, put t k s, by omega, by go_num, by rw [HC.out], fun j => ?_, put_lt htl hlt l5, HA, HB, HO, HR, (hU.drewN _).setCell (by omega) _⟩
        rw [dg_put l5, HT.out j, HS.out]
        by_cases hj : j = k
        · subst hj
          rw [if_pos rfl, if_pos (by omega)]
        · rw [if_neg hj]
          by_cases hj' : j < k
          · rw [if_pos hj', if_pos (by omega)]
          · rw [if_neg hj', if_neg (by omega)]
      case measure => simp [intOf]; omega
    · obtain rfl : k = 16 := by omega
      have hts : t = m - n := dg_ext htl (Nat.lt_of_le_of_lt (Nat.sub_le _ _) HM.out) (fun i hi => by rw [ht i, if_pos hi])
      subst hts
      clear ht htl
      go_wp2_with (first | (refine wpList_load_row rfl 53 _ rfl (w.heap.size + 1 + 1 + 1) rfl 53 (digs (m - n)) (0, 0) _ hC Tryd.underlying53 rfl (size_Dn (m - n)) ?_) | (refine wpList_store_row rfl 53 _ _ rfl (w.heap.size + 1 + 1) (digs (m - n)) rfl rfl 53 (digs 0) hO (size_Dn (m - n)) (by rw [digs_size, digs_size]) (digs_one (m - n)) ?_))
      exact bodyPost_ret (v := DV (m - n)) (results_cell_row Tryd.results63 _ _ (w.heap.size + 1 + 1) 53 (digs (m - n)) (0, 0) _ rfl (hO.putRow _) Tryd.underlying53 rfl (size_Dn (m - n))) rfl ⟨rfl, (hU.setRow (by omega) _).below⟩
end Go.Proofs.YtmamedobphlpkaaDoor

namespace Go.Proofs.YtmamedobphlpkaaDoor
open Go.RowKit

/-- a row of a product, done -/
theorem mul_row {m n t c i : Nat} (hn : n < BP 7) (h : t + c * BP (i + 8) = m % BP i * n + dg m i * BP i * (n % BP 8)) : t = m % BP (i + 1) * n := by
  have h8 : n % BP 8 = n := Nat.mod_eq_of_lt (Nat.lt_of_lt_of_le hn (BP_le (by omega)))
  rw [h8, Nat.mul_comm (dg m i), ← Nat.add_mul, ← mod_succ] at h
  have hlt : m % BP (i + 1) * n < BP (i + 8) := by
    have h1 := Nat.mod_lt m (BP_pos (i + 1))
    have h2 : m % BP (i + 1) * n ≤ m % BP (i + 1) * BP 7 := Nat.mul_le_mul_left _ (Nat.le_of_lt hn)
    have h3 : m % BP (i + 1) * BP 7 < BP (i + 1) * BP 7 := Nat.mul_lt_mul_of_pos_right h1 (BP_pos 7)
    rw [← BP_add] at h3
    have : i + 1 + 7 = i + 8 := by omega
    rw [this] at h3
    omega
  have hc : c = 0 := by
    rcases Nat.eq_zero_or_pos c with h1 | h1
    · exact h1
    · have := Nat.mul_le_mul_right (BP (i + 8)) h1
      omega
  rw [hc] at h
  omega

set_option maxRecDepth 100000 in
set_option maxHeartbeats 2000000 in
theorem rmul_any (w : World) (m n : Nat) (hm : m < BP 8) (hn : n < BP 7) : Calls Tryd.prog 72 #[DV m, DV n] w fun e w' => e = .returned (DV (m * n)) ∧ Below w.heap.size w w' := by
  have hA := (((Row.new w 53 (digs m)).alloc (.cells (digs n) 53)).alloc (.cells (digs 0) 53)).alloc (.cells (digs 0) 53)
  have hB := ((Row.new (w.alloc (.cells (digs m) 53)) 53 (digs n)).alloc (.cells (digs 0) 53)).alloc (.cells (digs 0) 53)
  have hO := (Row.new ((w.alloc (.cells (digs m) 53)).alloc (.cells (digs n) 53)) 53 (digs 0)).alloc (.cells (digs 0) 53)
  have hC := Row.new (((w.alloc (.cells (digs m) 53)).alloc (.cells (digs n) 53)).alloc (.cells (digs 0) 53)) 53 (digs 0)
  have hU := ((((Up.refl w).alloc (.cells (digs m) 53)).alloc (.cells (digs n) 53)).alloc (.cells (digs 0) 53)).alloc (.cells (digs 0) 53)
  simp only [alloc_sz] at hB hO hC
  have HM := hid hm
  have HN := hid hn
  clear hm hn
  unfold DV
  go_enter Tryd.func72, Tryd.ntmps72
  go_wp2_with fail
  obtain ⟨V, hV⟩ : ∃ V, V = (((w.alloc (.cells (digs m) 53)).alloc (.cells (digs n) 53)).alloc (.cells (digs 0) 53)).alloc (.cells (digs 0) 53) := ⟨_, rfl⟩
  rw [digs_0] at hV
  rw [← hV]
  rw [← digs_0] at hV
  rw [← hV] at hA hB hO hC hU
  clear hV
  go_loopw [6] (fun i wr => ∃ k t : Nat, k ≤ 8 ∧ i = .int .i64 (k : Int) ∧ t = m % BP k * n ∧ t < BP 16 ∧ Row wr w.heap.size 53 (digs m) ∧ Row wr (w.heap.size + 1) 53 (digs n) ∧ Row wr (w.heap.size + 1 + 1) 53 (digs 0) ∧ Row wr (w.heap.size + 1 + 1 + 1) 53 (digs t) ∧ Up w.heap.size w wr) (fun i _ => 8 - (intOf i).toNat)
  case atStart => exact ⟨0, 0, by omega, rfl, by simp [BP_zero, Nat.mod_one], BP_pos 16, hA, hB, hO, hC, hU⟩
  case round =>
    clear hA hB hO hC hU
    obtain ⟨i, t, hk, rfl, ht, htl, hA, hB, hO, hC, hU⟩ := hrel
    by_cases hlt : i < 8
    · obtain ⟨x, hx⟩ : ∃ x, x = dg m i := ⟨_, rfl⟩
      obtain ⟨b0, hb0⟩ : ∃ b0, b0 = m % BP i * n := ⟨_, rfl⟩
      rw [← hb0] at ht
      have lx := dg_lt m i
      rw [← hx] at lx
      have HX := hid hx
      have HB0 := hid hb0
      have HT := hid ht
      clear ht hx hb0
      obtain ⟨wo, hwo⟩ : ∃ wo : World, wo = wr := ⟨_, rfl⟩
      go_wp2
      go_loopw [7, 8] (fun c j wi => ∃ k t c' : Nat, k ≤ 8 ∧ j = .int .i64 (k : Int) ∧ c = .int .u64 (c' : Int) ∧ c' < 4294967296 ∧ t + c' * BP (i + k) = b0 + x * BP i * (n % BP k) ∧ t < BP 16 ∧ Row wi w.heap.size 53 (digs m) ∧ Row wi (w.heap.size + 1) 53 (digs n) ∧ Row wi (w.heap.size + 1 + 1) 53 (digs 0) ∧ Row wi (w.heap.size + 1 + 1 + 1) 53 (digs t) ∧ Up w.heap.size w wi) (fun _ j _ => 8 - (intOf j).toNat)
      case atStart => exact ⟨0, t, 0, by omega, rfl, rfl, by decide, by rw [HT.out, BP_zero, Nat.mod_one]; omega, htl, hA, hB, hO, hC, hU⟩
      case round =>
        clear hA hB hO hC hU HT htl hwo
        obtain ⟨k, t, c, hk, rfl, rfl, lc, ht, htl, hA, hB, hO, hC, hU⟩ := hrel
        by_cases hlk : k < 8
        · have ca := hA.cell i
          have cb := hB.cell k
          have cf := hC.frozen (i + k)
          have cc := hC.cell (i + k)
          rw [digs_get _ (by omega)] at ca cb cc
          rw [← HX.out] at ca
          have l2 := dg_lt n k
          have l4 := dg_lt t (i + k)
          obtain ⟨y, hy⟩ : ∃ y, y = dg n k := ⟨_, rfl⟩
          obtain ⟨d, hd⟩ : ∃ d, d = dg t (i + k) := ⟨_, rfl⟩
          have hs := mul_step (n := t) (b := n) (i := i) (k := k) (x := x) (c := c) (s := d + x * y + c) (by rw [hy, hd])
          have hmod := mod_succ n k
          have hge : n % BP k ≤ n % BP (k + 1) := by omega
          have hge2 : x * BP i * (n % BP k) ≤ x * BP i * (n % BP (k + 1)) := Nat.mul_le_mul_left _ hge
          rw [← hy] at cb l2
          rw [← hd] at cc l4
          have room := digit_room lx l2 l4 lc
          obtain ⟨p, hp⟩ : ∃ p, p = x * y := ⟨_, rfl⟩
          rw [← hp] at hs room
          have hpi : ((x : Int) * (y : Int)) = (p : Int) := by rw [hp]; simp
          have ls := Nat.mod_lt (d + p + c) (show 0 < 4294967296 by decide)
          have lc2 : (d + p + c) / 4294967296 < 4294967296 := by omega
          obtain ⟨s, hs1⟩ : ∃ s, s = (d + p + c) % 4294967296 := ⟨_, rfl⟩
          obtain ⟨c', hc'⟩ : ∃ c', c' = (d + p + c) / 4294967296 := ⟨_, rfl⟩
          rw [← hs1] at hs ls
          rw [← hc'] at hs lc2
          have HV := hid (show put t (i + k) s + c' * BP (i + (k + 1)) = b0 + x * BP i * (n % BP (k + 1)) by omega)
          clear hs hmod hge hge2 ht
          have w1 : IntKind.u64.wrap ((x : Int) * (y : Int)) = (p : Int) := by rw [hpi, IntKind.wrap_u64]; omega
          have w2 : IntKind.u64.wrap ((d : Int) + p) = (d : Int) + p := by rw [IntKind.wrap_u64]; omega
          have w3 : IntKind.u64.wrap ((d : Int) + p + c) = (d : Int) + p + c := by rw [IntKind.wrap_u64]; omega
          have w4 : ((d : Int) + p + c) % 4294967296 = (s : Int) := by omega
          have w5 : ((d : Int) + p + c) / 4294967296 = (c' : Int) := by omega
          have w6 : IntKind.i64.wrap ((i : Int) + k) = (i : Int) + k := by rw [IntKind.wrap_i64]; omega
          have w7 : ((i : Int) + (k : Int)).toNat = i + k := by omega
          have w8 : (0 : Int) ≤ (i : Int) + (k : Int) := by omega
          have w9 : (i : Int) + (k : Int) < 16 := by omega
          have HA := hA.far (p := ⟨w.heap.size + 1 + 1 + 1, i + k, none⟩) (by first | (simp; done) | (simp; omega)) (.int .u64 (s : Int))
          have HB := hB.far (p := ⟨w.heap.size + 1 + 1 + 1, i + k, none⟩) (by first | (simp; done) | (simp; omega)) (.int .u64 (s : Int))
          have HO := hO.far (p := ⟨w.heap.size + 1 + 1 + 1, i + k, none⟩) (by first | (simp; done) | (simp; omega)) (.int .u64 (s : Int))
          have HR := hC.set (i + k) (.int .u64 (s : Int))
          rw [digs_set t ls] at HR
          have HTL := hid (put_lt (j := i + k) (v := s) htl (by omega) ls)
          clear hy hd hp hpi hs1 hc' htl room
          go_wp2
          go_quiet (fail)
          go_wp2
          go_roundw
          case rel => exact ⟨k + 1, put t (i + k) s, c', by omega, by go_num, by first | rfl | rw [w5], lc2, HV.out, HTL.out, HA, HB, HO, HR, (hU.drewN _).setCell (by omega) _⟩
          case measure => simp [intOf]; omega
        · obtain rfl : k = 8 := by omega
          have hrow := mul_row HN.out (by rw [← HX.out, ← HB0.out]; exact ht)
          have HT := hid hrow
          clear ht hrow
          go_wp2
          go_roundw
          case rel => exact ⟨i + 1, t, by omega, by go_num, HT.out, htl, hA, hB, hO, hC, hU⟩
          case measure => simp [intOf]; omega
    · obtain rfl : i = 8 := by omega
      have hts : t = m * n := by rw [ht, Nat.mod_eq_of_lt HM.out]
      clear ht htl
      subst hts
      go_wp2_with (first | (refine wpList_load_row rfl 53 _ rfl (w.heap.size + 1 + 1 + 1) rfl 53 (digs (m * n)) (0, 0) _ hC Tryd.underlying53 rfl (size_Dn (m * n)) ?_) | (refine wpList_store_row rfl 53 _ _ rfl (w.heap.size + 1 + 1) (digs (m * n)) rfl rfl 53 (digs 0) hO (size_Dn (m * n)) (by rw [digs_size, digs_size]) (digs_one (m * n)) ?_))
      exact bodyPost_ret (v := DV (m * n)) (results_cell_row Tryd.results72 _ _ (w.heap.size + 1 + 1) 53 (digs (m * n)) (0, 0) _ rfl (hO.putRow _) Tryd.underlying53 rfl (size_Dn (m * n))) rfl ⟨rfl, (hU.setRow (by omega) _).below⟩
end Go.Proofs.YtmamedobphlpkaaDoor

namespace Go.Proofs.YtmamedobphlpkaaDoor
open Go.RowKit

/-- a row that is loaded, in any world that has it -/
theorem exec_load_row {P : Program} {o : Oper} {a : Act} (ty : TypeId) (x : Operand) (ho : o.op = .load ty x)
    (g : Nat) (hx : a.eval x = .pointer (some ⟨g, 0, none⟩)) (t : TypeId) (cs : Array Value) (d : TypeDesc)
    (hu : P.underlying ty = some d) (hd : (match d with | .struct _ | .array _ _ => true | _ => false) = true) (hi : (P.info? ty).map (·.size) = some cs.size)
    (W : World) (hg : Row W g t cs) : (execOp a.eval o).run P W = .ok (.value (.agg cs)) W := by
  unfold execOp
  simp only [ho, hx, Instr.loadAt, Instr.sureAddr, Sem.run_bind, Sem.run_pure, Result.andThen_ok, run_loadVar_row W g t ty cs (0, 0) d hg hu hd hi]
theorem Row.setRow_same {W : World} {g : Nat} {t : TypeId} {cs : Array Value} (h : Row W g t cs) : W.setRow g cs = W := setRow_self W g cs t (0, 0) h

theorem div_start {m : Nat} (P n : Nat) (h : m / P = 0) : 0 = m / P / n * P ∧ 0 = m / P % n := by
  rw [h]
  simp

set_option maxRecDepth 100000 in
set_option maxHeartbeats 2000000 in
theorem rdiv_any (w : World) (m n : Nat) (hm : m < BP 16) (hn : n < BP 15) (h0 : 0 < n) : Calls Tryd.prog 71 #[DV m, DV n] w fun e w' => e = .returned (.tuple #[DV (m / n), DV (m % n)]) ∧ Below w.heap.size w w' := by
  have hA := (((Row.new w 53 (digs m)).alloc (.cells (digs n) 53)).alloc (.cells (digs 0) 53)).alloc (.cells (digs 0) 53)
  have hB := ((Row.new (w.alloc (.cells (digs m) 53)) 53 (digs n)).alloc (.cells (digs 0) 53)).alloc (.cells (digs 0) 53)
  have hQ := (Row.new ((w.alloc (.cells (digs m) 53)).alloc (.cells (digs n) 53)) 53 (digs 0)).alloc (.cells (digs 0) 53)
  have hR := Row.new (((w.alloc (.cells (digs m) 53)).alloc (.cells (digs n) 53)).alloc (.cells (digs 0) 53)) 53 (digs 0)
  have hU := ((((Up.refl w).alloc (.cells (digs m) 53)).alloc (.cells (digs n) 53)).alloc (.cells (digs 0) 53)).alloc (.cells (digs 0) 53)
  simp only [alloc_sz] at hB hQ hR
  have HM := hid hm
  have HN := hid hn
  have H0 := hid h0
  clear hm hn h0
  unfold DV
  go_enter Tryd.func71, Tryd.ntmps71
  go_wp2_with fail
  obtain ⟨V, hV⟩ : ∃ V, V = (((w.alloc (.cells (digs m) 53)).alloc (.cells (digs n) 53)).alloc (.cells (digs 0) 53)).alloc (.cells (digs 0) 53) := ⟨_, rfl⟩
  rw [digs_0] at hV
  rw [← hV]
  rw [← digs_0] at hV
  rw [← hV] at hA hB hQ hR hU
  clear hV
  go_loopw [6] (fun i wr => ∃ k q r : Nat, k ≤ 512 ∧ i = .int .i64 ((k : Int) - 1) ∧ q = m / 2 ^ k / n * 2 ^ k ∧ r = m / 2 ^ k % n ∧ Row wr w.heap.size 53 (digs m) ∧ Row wr (w.heap.size + 1) 53 (digs n) ∧ Row wr (w.heap.size + 1 + 1) 53 (digs q) ∧ Row wr (w.heap.size + 1 + 1 + 1) 53 (digs r) ∧ Up w.heap.size w wr) (fun i _ => (intOf i + 1).toNat)
  case atStart =>
    have h512 : m / 2 ^ 512 = 0 := Nat.div_eq_of_lt (by have h := HM.out; rw [BP_two, show (32 * 16 : Nat) = 512 from rfl] at h; exact h)
    exact ⟨512, 0, 0, by omega, rfl, (div_start _ n h512).1, (div_start _ n h512).2, hA, hB, hQ, hR, hU⟩
  case round =>
    clear hA hB hQ hR hU
    obtain ⟨k, q, r, hk, rfl, hq, hr, hA, hB, hQ, hR, hU⟩ := hrel
    rcases k with _ | j
    · rw [Nat.pow_zero, Nat.div_one, Nat.mul_one] at hq
      rw [Nat.pow_zero, Nat.div_one] at hr
      subst hq
      subst hr
      go_wp2
      refine wp_region_noPanic ?_
      refine wp_region_held_drew (S := fun W => W = wr.drew) (by kernel_rfl) rfl (fun hHeld => ?_)
      refine wpAnyH_take (i := 0) (oi := { dst := some 46, op := Op.load 53 (Operand.tmp 4), type := 53, pos := "ref.go:98", after := #[], guard := none }) (v := .agg (digs (m / n))) rfl (by kernel_rfl) (by kernel_rfl) (by kernel_rfl) (fun _ _ _ h => h) (Or.inl ⟨by rfl, fun W hW => exec_load_row 53 _ rfl (w.heap.size + 1 + 1) rfl 53 (digs (m / n)) _ Tryd.underlying53 rfl (size_Dn _) W (by rw [hW]; first | exact hQ.drew | exact hR.drew)⟩) hHeld ?_
      try simp only [Act.put, List.setIfInBounds_toArray, List.set_cons_zero, List.set_cons_succ]
      refine wpAnyH_take (i := 1) (oi := { dst := some 47, op := Op.load 53 (Operand.tmp 5), type := 53, pos := "ref.go:98", after := #[{ on := 2, ground := Ground.gcOnly Departure.lateStores }], guard := none }) (v := .agg (digs (m % n))) rfl (by kernel_rfl) (by kernel_rfl) (by kernel_rfl) (fun _ _ _ h => h) (Or.inl ⟨by rfl, fun W hW => exec_load_row 53 _ rfl (w.heap.size + 1 + 1 + 1) rfl 53 (digs (m % n)) _ Tryd.underlying53 rfl (size_Dn _) W (by rw [hW]; first | exact hQ.drew | exact hR.drew)⟩) hHeld ?_
      try simp only [Act.put, List.setIfInBounds_toArray, List.set_cons_zero, List.set_cons_succ]
      refine wpAnyH_ready (rs := [2]) (by kernel_rfl) (by simp) ?_
      refine AllReadyH.cons (o := { dst := none, op := Op.store 53 (Operand.tmp 4) (Operand.tmp 46), type := 0, pos := "ref.go:98", after := #[{ on := 0, ground := Ground.data }, { on := 0, ground := Ground.phase }, { on := 1, ground := Ground.textOnly Departure.lateStores }], guard := none }) rfl (fun K hK => ?_) AllReadyH.nil
      refine (if_pos (by rfl)).mpr ?_
      refine wp_store_row 53 _ _ rfl (w.heap.size + 1 + 1) (digs (m / n)) rfl rfl 53 (digs (m / n)) hQ.drew (size_Dn _) rfl (digs_one _) ?_
      rw [Row.setRow_same hQ.drew]
      refine hK.out _ _ rfl (fun hHeld => ?_)
      clear hK K
      try simp only [Act.put, List.setIfInBounds_toArray, List.set_cons_zero, List.set_cons_succ]
      refine wpAnyH_ready (rs := [3]) (by kernel_rfl) (by simp) ?_
      refine AllReadyH.cons (o := { dst := none, op := Op.store 53 (Operand.tmp 5) (Operand.tmp 47), type := 0, pos := "ref.go:98", after := #[{ on := 1, ground := Ground.data }, { on := 2, ground := Ground.chain }, { on := 0, ground := Ground.phase }, { on := 1, ground := Ground.phase }, { on := 2, ground := Ground.phase }], guard := none }) rfl (fun K hK => ?_) AllReadyH.nil
      refine (if_pos (by rfl)).mpr ?_
      refine wp_store_row 53 _ _ rfl (w.heap.size + 1 + 1 + 1) (digs (m % n)) rfl rfl 53 (digs (m % n)) hR.drew (size_Dn _) rfl (digs_one _) ?_
      rw [Row.setRow_same hR.drew]
      refine hK.out _ _ rfl (fun hHeld => ?_)
      clear hK K
      try simp only [Act.put, List.setIfInBounds_toArray, List.set_cons_zero, List.set_cons_succ]
      refine wpAnyH_done (by kernel_rfl) ?_ _
      refine NoPanic.normal ?_
      go_wp2
      have r1 := run_loadVar_row (P := Tryd.prog) wr.drew (w.heap.size + 1 + 1) 53 53 (digs (m / n)) (0, 0) _ hQ.drew Tryd.underlying53 rfl (size_Dn _)
      have r2 := run_loadVar_row (P := Tryd.prog) wr.drew (w.heap.size + 1 + 1 + 1) 53 53 (digs (m % n)) (0, 0) _ hR.drew Tryd.underlying53 rfl (size_Dn _)
      exact bodyPost_ret (v := .tuple #[.agg (digs (m / n)), .agg (digs (m % n))]) (by simp [results, Tryd.results71, asAddr, r1, r2]) rfl ⟨rfl, hU.drew.below⟩
    · have hj : ((j + 1 : Nat) : Int) - 1 = (j : Int) := by omega
      rw [hj]
      have hrn : r < n := by rw [hr]; exact Nat.mod_lt _ H0.out
      have hrr : r + r < BP 16 := by have := HN.out; have h15 : BP 16 = BP 15 * 4294967296 := BP_succ 15; omega
      have HR := hid hr
      have HQ := hid hq
      clear hj hr hq
      go_wp2_with (refine wpList_load_row rfl 53 _ rfl (w.heap.size + 1 + 1 + 1) rfl 53 (digs r) (0, 0) _ hR Tryd.underlying53 rfl (size_Dn r) ?_)
      refine Calls.mono (radd_any _ r r hrr) ?_; rintro e w1 ⟨rfl, hb⟩
      replace hA := hA.mod (Mod.of_below hb Nil) (fun hf => hf)
      replace hB := hB.mod (Mod.of_below hb Nil) (fun hf => hf)
      replace hQ := hQ.mod (Mod.of_below hb Nil) (fun hf => hf)
      replace hR := hR.mod (Mod.of_below hb Nil) (fun hf => hf)
      replace hU := hU.trans hb
      clear hb
      unfold DV
      go_wp2_with (refine wpList_store_row rfl 53 _ _ rfl (w.heap.size + 1 + 1 + 1) (digs (r + r)) rfl rfl 53 (digs r) hR (size_Dn (r + r)) (by rw [digs_size, digs_size]) (digs_one (r + r)) ?_)
      obtain ⟨w2, hw2⟩ : ∃ w2, w2 = w1.setRow (w.heap.size + 1 + 1 + 1) (digs (r + r)) := ⟨_, rfl⟩
      replace hA := hA.farRow (g' := w.heap.size + 1 + 1 + 1) (by omega) (digs (r + r))
      replace hB := hB.farRow (g' := w.heap.size + 1 + 1 + 1) (by omega) (digs (r + r))
      replace hQ := hQ.farRow (g' := w.heap.size + 1 + 1 + 1) (by omega) (digs (r + r))
      replace hR := hR.putRow (digs (r + r))
      replace hU := hU.setRow (p := w.heap.size + 1 + 1 + 1) (by omega) (digs (r + r))
      rw [← hw2] at hA hB hQ hR hU ⊢
      clear hw2
      have ca := hA.cell (j / 32)
      have cr := hR.cell 0
      have cf := hR.frozen 0
      rw [digs_get _ (by omega)] at ca cr
      have l1 := dg_lt m (j / 32)
      have l2 := dg_lt (r + r) 0
      obtain ⟨x, hx⟩ : ∃ x, x = dg m (j / 32) := ⟨_, rfl⟩
      obtain ⟨y, hy⟩ : ∃ y, y = dg (r + r) 0 := ⟨_, rfl⟩
      rw [← hx] at ca l1
      rw [← hy] at cr l2
      have HX := hid hx
      have HY := hid hy
      clear hx hy
      obtain ⟨a, ha⟩ : ∃ a, a = j / 32 := ⟨_, rfl⟩
      obtain ⟨b, hbb⟩ : ∃ b, b = j % 32 := ⟨_, rfl⟩
      have i1 : (j : Int).tdiv 32 = (a : Int) := by rw [Int.tdiv_eq_ediv_of_nonneg (by omega)]; omega
      have i4 : IntKind.i64.wrap (a : Int) = (a : Int) := by rw [IntKind.wrap_i64]; omega
      have i5 : IntKind.u64.wrap (j : Int) = (j : Int) := by rw [IntKind.wrap_u64]; omega
      have i6 : (j : Int).tmod 32 = (b : Int) := by rw [Int.tmod_eq_emod_of_nonneg (by omega)]; omega
      have i7 : (j : Int) % 32 = (b : Int) := by omega
      have i8 : (j : Int) / 32 = (a : Int) := by omega
      have i3 : a < 16 := by omega
      have i9 : (b : Int) < 32 := by omega
      have i10 : (a : Int) < 16 := by omega
      rw [← ha] at ca
      have EA := hid ha
      have EB := hid hbb
      clear ha hbb
      have hbit := dg_bit m j
      rw [← HX.out, ← EB.out] at hbit
      obtain ⟨e, he⟩ : ∃ e, e = x / 2 ^ b % 2 := ⟨_, rfl⟩
      rw [← he] at hbit
      have le : e < 2 := by rw [he]; exact Nat.mod_lt _ (by decide)
      have hxb : (x : Int) / 2 ^ b = ((x / 2 ^ b : Nat) : Int) := by simp
      obtain ⟨z, hz⟩ : ∃ z, z = x / 2 ^ b := ⟨_, rfl⟩
      rw [← hz] at hxb he
      have ly : y + e < 4294967296 := by
        have h1 := HY.out
        unfold dg at h1
        rw [BP_zero, Nat.div_one] at h1
        omega
      have w1 : IntKind.u64.wrap ((y : Int) + ((x : Int) / 2 ^ b).tmod 2) = ((y + e : Nat) : Int) := by
        rw [hxb, Int.tmod_eq_emod_of_nonneg (by omega), IntKind.wrap_u64]
        omega
      have hput : put (r + r) 0 (y + e) = r + r + e := by
        rw [HY.out, put_more, BP_zero, Nat.mul_one]
      have hg : r + r + e = 2 * (m / 2 ^ (j + 1) % n) + m / 2 ^ j % 2 := by rw [← hbit, ← HR.out]; omega
      obtain ⟨s, hs⟩ : ∃ s, s = y + e := ⟨_, rfl⟩
      rw [← hs] at w1 hput ly
      have hR3 := hR.set 0 (.int .u64 (s : Int))
      rw [digs_set (r + r) ly, hput] at hR3
      have HG := hid hg
      have HE := hid le
      clear hs he hbit hxb hput hg le hz
      obtain ⟨g, hgg⟩ : ∃ g, g = r + r + e := ⟨_, rfl⟩
      have hgl : g < BP 16 := by have := HN.out; have h15 : BP 16 = BP 15 * 4294967296 := BP_succ 15; have := HE.out; omega
      rw [← hgg] at hR3
      have HG2 : Hid (g = 2 * (m / 2 ^ (j + 1) % n) + m / 2 ^ j % 2) := hid (by rw [hgg]; exact HG.out)
      clear hgg
      go_wp2
      go_still_tail 13, (by kernel_rfl)
      change wpList _ _ _ _ _ w2.drew
      replace hA := hA.far (p := ⟨w.heap.size + 1 + 1 + 1, 0, none⟩) (by first | (simp; done) | (simp; omega)) (.int .u64 (s : Int))
      replace hB := hB.far (p := ⟨w.heap.size + 1 + 1 + 1, 0, none⟩) (by first | (simp; done) | (simp; omega)) (.int .u64 (s : Int))
      replace hQ := hQ.far (p := ⟨w.heap.size + 1 + 1 + 1, 0, none⟩) (by first | (simp; done) | (simp; omega)) (.int .u64 (s : Int))
      replace hU := hU.setCell (p := w.heap.size + 1 + 1 + 1) (i := 0) (by omega) (.int .u64 (s : Int))
      replace hR := hR3
      clear hR3
      by_cases hin : n ≤ g
      · have hst := div_in H0.out HG2.out hin
        rw [← HQ.out] at hst
        obtain ⟨c, hc, hc0⟩ : ∃ c : Int, cmpN g n = c ∧ 0 ≤ c := ⟨_, rfl, by unfold cmpN; rw [if_neg (by omega)]; split <;> decide⟩
        have HST := hid hst
        have HCC := hid hc
        clear hst hc
        go_wp2_with (first | (refine wpList_load_row rfl 53 (.tmp 5) rfl (w.heap.size + 1 + 1 + 1) rfl 53 (digs g) (0, 0) _ hR.drew Tryd.underlying53 rfl (size_Dn g) ?_) | (refine wpList_load_row rfl 53 (.tmp 3) rfl (w.heap.size + 1) rfl 53 (digs n) (0, 0) _ hB.drew Tryd.underlying53 rfl (size_Dn n) ?_))
        refine Calls.mono (rcmp_any _ g n hgl (Nat.lt_of_lt_of_le HN.out (BP_le (by decide)))) ?_; rintro e w4 ⟨rfl, hb⟩
        rw [HCC.out]
        replace hA := hA.drew.mod (Mod.of_below hb Nil) (fun hf => hf)
        replace hB := hB.drew.mod (Mod.of_below hb Nil) (fun hf => hf)
        replace hQ := hQ.drew.mod (Mod.of_below hb Nil) (fun hf => hf)
        replace hR := hR.drew.mod (Mod.of_below hb Nil) (fun hf => hf)
        replace hU := hU.drew.trans hb
        clear hb
        go_wp2_with (first | (refine wpList_load_row rfl 53 (.tmp 5) rfl (w.heap.size + 1 + 1 + 1) rfl 53 (digs g) (0, 0) _ hR Tryd.underlying53 rfl (size_Dn g) ?_) | (refine wpList_load_row rfl 53 (.tmp 3) rfl (w.heap.size + 1) rfl 53 (digs n) (0, 0) _ hB Tryd.underlying53 rfl (size_Dn n) ?_))
        refine Calls.mono (rsub_any _ g n hgl hin) ?_; rintro e w5 ⟨rfl, hb⟩
        replace hA := hA.mod (Mod.of_below hb Nil) (fun hf => hf)
        replace hB := hB.mod (Mod.of_below hb Nil) (fun hf => hf)
        replace hQ := hQ.mod (Mod.of_below hb Nil) (fun hf => hf)
        replace hR := hR.mod (Mod.of_below hb Nil) (fun hf => hf)
        replace hU := hU.trans hb
        clear hb
        unfold DV
        have hQ2 := hQ.farRow (g' := w.heap.size + 1 + 1 + 1) (by omega) (digs (g - n))
        have cq := hQ2.cell a
        have fq := hQ2.frozen a
        rw [digs_get _ i3] at cq
        obtain ⟨p, hp⟩ : ∃ p, p = dg q a := ⟨_, rfl⟩
        rw [← hp] at cq
        have HP := hid hp
        clear hp
        go_wp2_with (refine wpList_store_row rfl 53 _ _ rfl (w.heap.size + 1 + 1 + 1) (digs (g - n)) rfl rfl 53 (digs g) hR (size_Dn (g - n)) (by rw [digs_size, digs_size]) (digs_one (g - n)) ?_)
        have hroom := dg_room (m / 2 ^ (j + 1) / n) j
        rw [← HQ.out, ← EA.out, ← EB.out, ← HP.out] at hroom
        have hpb : ((2 : Int) ^ b) = ((2 ^ b : Nat) : Int) := by simp
        have hput : put q a (p + 2 ^ b) = q + 2 ^ j := by
          rw [HP.out, put_more, BP_two, ← Nat.pow_add, EA.out, EB.out]
          congr 2
          omega
        obtain ⟨z, hz⟩ : ∃ z, z = 2 ^ b := ⟨_, rfl⟩
        rw [← hz] at hpb hroom hput
        have hw : IntKind.u64.wrap ((p : Int) + IntKind.u64.wrap (2 ^ b)) = ((p + z : Nat) : Int) := by
          rw [hpb, IntKind.wrap_u64, IntKind.wrap_u64]
          omega
        rw [hw]
        have hQ3 := hQ2.set a (.int .u64 ((p + z : Nat) : Int))
        rw [digs_set q hroom, hput] at hQ3
        go_roundw
        case rel => exact ⟨j, q + 2 ^ j, g - n, by omega, rfl, HST.out.2, HST.out.1, (hA.farRow (by omega) _).far (by simp; omega) _, (hB.farRow (by omega) _).far (by simp) _, hQ3, (hR.putRow _).far (by simp) _, (hU.setRow (by omega) _).setCell (by omega) _⟩
        case measure => simp [intOf]
      · have hst := div_out H0.out HG2.out (by omega)
        rw [← HQ.out] at hst
        have hc : cmpN g n = -1 := by unfold cmpN; rw [if_pos (by omega)]
        have HST := hid hst
        have HCC := hid hc
        clear hst hc
        go_wp2_with (first | (refine wpList_load_row rfl 53 (.tmp 5) rfl (w.heap.size + 1 + 1 + 1) rfl 53 (digs g) (0, 0) _ hR.drew Tryd.underlying53 rfl (size_Dn g) ?_) | (refine wpList_load_row rfl 53 (.tmp 3) rfl (w.heap.size + 1) rfl 53 (digs n) (0, 0) _ hB.drew Tryd.underlying53 rfl (size_Dn n) ?_))
        refine Calls.mono (rcmp_any _ g n hgl (Nat.lt_of_lt_of_le HN.out (BP_le (by decide)))) ?_; rintro e w4 ⟨rfl, hb⟩
        rw [HCC.out]
        replace hA := hA.drew.mod (Mod.of_below hb Nil) (fun hf => hf)
        replace hB := hB.drew.mod (Mod.of_below hb Nil) (fun hf => hf)
        replace hQ := hQ.drew.mod (Mod.of_below hb Nil) (fun hf => hf)
        replace hR := hR.drew.mod (Mod.of_below hb Nil) (fun hf => hf)
        replace hU := hU.drew.trans hb
        clear hb
        go_wp2_with fail
        go_roundw
        case rel => exact ⟨j, q, g, by omega, rfl, HST.out.2, HST.out.1, hA, hB, hQ, hR, hU⟩
        case measure => simp [intOf]
end Go.Proofs.YtmamedobphlpkaaDoor
