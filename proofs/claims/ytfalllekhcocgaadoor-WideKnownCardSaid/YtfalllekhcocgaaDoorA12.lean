/-
  RefC · RefD
-/
import Derived.Test.YtfalllekhcocgaaDoorA02
import Derived.Test.YtfalllekhcocgaaDoorA11
import Derived.StillTailTactics
import Derived.Deep.RegionHeld3
import Derived.Laws.CopyRow
import Derived.Deep.Cut
set_option linter.unusedSimpArgs false
set_option linter.unusedVariables false

namespace Go.Proofs.YtfalllekhcocgaaDoor
open Go.RowKit

/-- a row that is loaded, in any world that has it -/
theorem exec_load_row {P : Program} {o : Oper} {a : Act} (ty : TypeId) (x : Operand) (ho : o.op = .load ty x)
    (g : Nat) (hx : a.eval x = .pointer (some ⟨g, 0, none⟩)) (t : TypeId) (cs : Array Value) (d : TypeDesc)
    (hu : P.underlying ty = some d) (hd : (match d with | .struct _ | .array _ _ => true | _ => false) = true) (hi : (P.info? ty).map (·.size) = some cs.size)
    (W : World) (hg : Row W g t cs) : (execOp a.eval o).run P W = .ok (.value (.agg cs)) W := by
  unfold execOp
  simp only [ho, hx, Instr.loadAt, Instr.sureAddr, Sem.run_bind, Sem.run_pure, Result.andThen_ok, run_loadVar_row W g t ty cs (0, 0) d hg hu hd hi]
theorem Row.setRow_same {W : World} {g : Nat} {t : TypeId} {cs : Array Value} (h : Row W g t cs) : W.setRow g cs = W := setRow_self W g cs t (0, 0) h

theorem div_start {m : Nat} (P n : Nat) (h : m / P = 0) : 0 = m / P / n * P ∧ 0 = m / P % n := by
  rw [h]
  simp

set_option maxRecDepth 100000 in
set_option maxHeartbeats 2000000 in
theorem rdiv_any (w : World) (m n : Nat) (hm : m < BP 16) (hn : n < BP 15) (h0 : 0 < n) : Calls Tryd.prog 65 #[DV m, DV n] w fun e w' => e = .returned (.tuple #[DV (m / n), DV (m % n)]) ∧ Below w.heap.size w w' := by
  have hA := (((Row.new w 74 (digs m)).alloc (.cells (digs n) 74)).alloc (.cells (digs 0) 74)).alloc (.cells (digs 0) 74)
  have hB := ((Row.new (w.alloc (.cells (digs m) 74)) 74 (digs n)).alloc (.cells (digs 0) 74)).alloc (.cells (digs 0) 74)
  have hQ := (Row.new ((w.alloc (.cells (digs m) 74)).alloc (.cells (digs n) 74)) 74 (digs 0)).alloc (.cells (digs 0) 74)
  have hR := Row.new (((w.alloc (.cells (digs m) 74)).alloc (.cells (digs n) 74)).alloc (.cells (digs 0) 74)) 74 (digs 0)
  have hU := ((((Up.refl w).alloc (.cells (digs m) 74)).alloc (.cells (digs n) 74)).alloc (.cells (digs 0) 74)).alloc (.cells (digs 0) 74)
  simp only [alloc_sz] at hB hQ hR
  have HM := hid hm
  have HN := hid hn
  have H0 := hid h0
  clear hm hn h0
  unfold DV
  go_enter Tryd.func65, Tryd.ntmps65
  go_wp2_with fail
  obtain ⟨V, hV⟩ : ∃ V, V = (((w.alloc (.cells (digs m) 74)).alloc (.cells (digs n) 74)).alloc (.cells (digs 0) 74)).alloc (.cells (digs 0) 74) := ⟨_, rfl⟩
  rw [digs_0] at hV
  rw [← hV]
  rw [← digs_0] at hV
  rw [← hV] at hA hB hQ hR hU
  clear hV
  go_loopw [6] (fun i wr => ∃ k q r : Nat, k ≤ 512 ∧ i = .int .i64 ((k : Int) - 1) ∧ q = m / 2 ^ k / n * 2 ^ k ∧ r = m / 2 ^ k % n ∧ Row wr w.heap.size 74 (digs m) ∧ Row wr (w.heap.size + 1) 74 (digs n) ∧ Row wr (w.heap.size + 1 + 1) 74 (digs q) ∧ Row wr (w.heap.size + 1 + 1 + 1) 74 (digs r) ∧ Up w.heap.size w wr) (fun i _ => (intOf i + 1).toNat)
  case atStart =>
    have h512 : m / 2 ^ 512 = 0 := Nat.div_eq_of_lt (by have h := HM.out; rw [BP_two, show (32 * 16 : Nat) = 512 from rfl] at h; exact h)
    exact ⟨512, 0, 0, by omega, rfl, (div_start _ n h512).1, (div_start _ n h512).2, hA, hB, hQ, hR, hU⟩
  case round =>
    clear hA hB hQ hR hU
    obtain ⟨k, q, r, hk, rfl, hq, hr, hA, hB, hQ, hR, hU⟩ := hrel
    rcases k with _ | j
    · rw [Nat.pow_zero, Nat.div_one, Nat.mul_one] at hq
      rw [Nat.pow_zero, Nat.div_one] at hr
      subst hq
      subst hr
      go_wp2
      refine wp_region_noPanic ?_
      refine wp_region_held_drew (S := fun W => W = wr.drew) (by kernel_rfl) rfl (fun hHeld => ?_)
      refine wpAnyH_take (i := 0) (oi := { dst := some 46, op := Op.load 74 (Operand.tmp 4), type := 74, pos := "ref.go:98", after := #[], guard := none }) (v := .agg (digs (m / n))) rfl (by kernel_rfl) (by kernel_rfl) (by kernel_rfl) (fun _ _ _ h => h) (Or.inl ⟨by rfl, fun W hW => exec_load_row 74 _ rfl (w.heap.size + 1 + 1) rfl 74 (digs (m / n)) _ Tryd.underlying74 rfl (size_Dn _) W (by rw [hW]; first | exact hQ.drew | exact hR.drew)⟩) hHeld ?_
      try simp only [Act.put, List.setIfInBounds_toArray, List.set_cons_zero, List.set_cons_succ]
      refine wpAnyH_take (i := 1) (oi := { dst := some 47, op := Op.load 74 (Operand.tmp 5), type := 74, pos := "ref.go:98", after := #[{ on := 2, ground := Ground.gcOnly Departure.lateStores }], guard := none }) (v := .agg (digs (m % n))) rfl (by kernel_rfl) (by kernel_rfl) (by kernel_rfl) (fun _ _ _ h => h) (Or.inl ⟨by rfl, fun W hW => exec_load_row 74 _ rfl (w.heap.size + 1 + 1 + 1) rfl 74 (digs (m % n)) _ Tryd.underlying74 rfl (size_Dn _) W (by rw [hW]; first | exact hQ.drew | exact hR.drew)⟩) hHeld ?_
      try simp only [Act.put, List.setIfInBounds_toArray, List.set_cons_zero, List.set_cons_succ]
      refine wpAnyH_ready (rs := [2]) (by kernel_rfl) (by simp) ?_
      refine AllReadyH.cons (o := { dst := none, op := Op.store 74 (Operand.tmp 4) (Operand.tmp 46), type := 0, pos := "ref.go:98", after := #[{ on := 0, ground := Ground.data }, { on := 0, ground := Ground.phase }, { on := 1, ground := Ground.textOnly Departure.lateStores }], guard := none }) rfl (fun K hK => ?_) AllReadyH.nil
      refine (if_pos (by rfl)).mpr ?_
      refine wp_store_row 74 _ _ rfl (w.heap.size + 1 + 1) (digs (m / n)) rfl rfl 74 (digs (m / n)) hQ.drew (size_Dn _) rfl (digs_one _) ?_
      rw [Row.setRow_same hQ.drew]
      refine hK.out _ _ rfl (fun hHeld => ?_)
      clear hK K
      try simp only [Act.put, List.setIfInBounds_toArray, List.set_cons_zero, List.set_cons_succ]
      refine wpAnyH_ready (rs := [3]) (by kernel_rfl) (by simp) ?_
      refine AllReadyH.cons (o := { dst := none, op := Op.store 74 (Operand.tmp 5) (Operand.tmp 47), type := 0, pos := "ref.go:98", after := #[{ on := 1, ground := Ground.data }, { on := 2, ground := Ground.chain }, { on := 0, ground := Ground.phase }, { on := 1, ground := Ground.phase }, { on := 2, ground := Ground.phase }], guard := none }) rfl (fun K hK => ?_) AllReadyH.nil
      refine (if_pos (by rfl)).mpr ?_
      refine wp_store_row 74 _ _ rfl (w.heap.size + 1 + 1 + 1) (digs (m % n)) rfl rfl 74 (digs (m % n)) hR.drew (size_Dn _) rfl (digs_one _) ?_
      rw [Row.setRow_same hR.drew]
      refine hK.out _ _ rfl (fun hHeld => ?_)
      clear hK K
      try simp only [Act.put, List.setIfInBounds_toArray, List.set_cons_zero, List.set_cons_succ]
      refine wpAnyH_done (by kernel_rfl) ?_ _
      refine NoPanic.normal ?_
      go_wp2
      have r1 := run_loadVar_row (P := Tryd.prog) wr.drew (w.heap.size + 1 + 1) 74 74 (digs (m / n)) (0, 0) _ hQ.drew Tryd.underlying74 rfl (size_Dn _)
      have r2 := run_loadVar_row (P := Tryd.prog) wr.drew (w.heap.size + 1 + 1 + 1) 74 74 (digs (m % n)) (0, 0) _ hR.drew Tryd.underlying74 rfl (size_Dn _)
      exact bodyPost_ret (v := .tuple #[.agg (digs (m / n)), .agg (digs (m % n))]) (by simp [results, Tryd.results65, asAddr, r1, r2]) rfl ⟨rfl, hU.drew.below⟩
    · have hj : ((j + 1 : Nat) : Int) - 1 = (j : Int) := by omega
      rw [hj]
      have hrn : r < n := by rw [hr]; exact Nat.mod_lt _ H0.out
      have hrr : r + r < BP 16 := by have := HN.out; have h15 : BP 16 = BP 15 * 4294967296 := BP_succ 15; omega
      have HR := hid hr
      have HQ := hid hq
      clear hj hr hq
      go_wp2_with (refine wpList_load_row rfl 74 _ rfl (w.heap.size + 1 + 1 + 1) rfl 74 (digs r) (0, 0) _ hR Tryd.underlying74 rfl (size_Dn r) ?_)
      refine Calls.mono (radd_any _ r r hrr) ?_; rintro e w1 ⟨rfl, hb⟩
      replace hA := hA.mod (Mod.of_below hb Nil) (fun hf => hf)
      replace hB := hB.mod (Mod.of_below hb Nil) (fun hf => hf)
      replace hQ := hQ.mod (Mod.of_below hb Nil) (fun hf => hf)
      replace hR := hR.mod (Mod.of_below hb Nil) (fun hf => hf)
      replace hU := hU.trans hb
      clear hb
      unfold DV
      go_wp2_with (refine wpList_store_row rfl 74 _ _ rfl (w.heap.size + 1 + 1 + 1) (digs (r + r)) rfl rfl 74 (digs r) hR (size_Dn (r + r)) (by rw [digs_size, digs_size]) (digs_one (r + r)) ?_)
      obtain ⟨w2, hw2⟩ : ∃ w2, w2 = w1.setRow (w.heap.size + 1 + 1 + 1) (digs (r + r)) := ⟨_, rfl⟩
      replace hA := hA.farRow (g' := w.heap.size + 1 + 1 + 1) (by omega) (digs (r + r))
      replace hB := hB.farRow (g' := w.heap.size + 1 + 1 + 1) (by omega) (digs (r + r))
      replace hQ := hQ.farRow (g' := w.heap.size + 1 + 1 + 1) (by omega) (digs (r + r))
      replace hR := hR.putRow (digs (r + r))
      replace hU := hU.setRow (p := w.heap.size + 1 + 1 + 1) (by omega) (digs (r + r))
      rw [← hw2] at hA hB hQ hR hU ⊢
      clear hw2
      have ca := hA.cell (j / 32)
      have cr := hR.cell 0
      have cf := hR.frozen 0
      rw [digs_get _ (by omega)] at ca cr
      have l1 := dg_lt m (j / 32)
      have l2 := dg_lt (r + r) 0
      obtain ⟨x, hx⟩ : ∃ x, x = dg m (j / 32) := ⟨_, rfl⟩
      obtain ⟨y, hy⟩ : ∃ y, y = dg (r + r) 0 := ⟨_, rfl⟩
      rw [← hx] at ca l1
      rw [← hy] at cr l2
      have HX := hid hx
      have HY := hid hy
      clear hx hy
      obtain ⟨a, ha⟩ : ∃ a, a = j / 32 := ⟨_, rfl⟩
      obtain ⟨b, hbb⟩ : ∃ b, b = j % 32 := ⟨_, rfl⟩
      have i1 : (j : Int).tdiv 32 = (a : Int) := by rw [Int.tdiv_eq_ediv_of_nonneg (by omega)]; omega
      have i4 : IntKind.i64.wrap (a : Int) = (a : Int) := by rw [IntKind.wrap_i64]; omega
      have i5 : IntKind.u64.wrap (j : Int) = (j : Int) := by rw [IntKind.wrap_u64]; omega
      have i6 : (j : Int).tmod 32 = (b : Int) := by rw [Int.tmod_eq_emod_of_nonneg (by omega)]; omega
      have i7 : (j : Int) % 32 = (b : Int) := by omega
      have i8 : (j : Int) / 32 = (a : Int) := by omega
      have i3 : a < 16 := by omega
      have i9 : (b : Int) < 32 := by omega
      have i10 : (a : Int) < 16 := by omega
      rw [← ha] at ca
      have EA := hid ha
      have EB := hid hbb
      clear ha hbb
      have hbit := dg_bit m j
      rw [← HX.out, ← EB.out] at hbit
      obtain ⟨e, he⟩ : ∃ e, e = x / 2 ^ b % 2 := ⟨_, rfl⟩
      rw [← he] at hbit
      have le : e < 2 := by rw [he]; exact Nat.mod_lt _ (by decide)
      have hxb : (x : Int) / 2 ^ b = ((x / 2 ^ b : Nat) : Int) := by simp
      obtain ⟨z, hz⟩ : ∃ z, z = x / 2 ^ b := ⟨_, rfl⟩
      rw [← hz] at hxb he
      have ly : y + e < 4294967296 := by
        have h1 := HY.out
        unfold dg at h1
        rw [BP_zero, Nat.div_one] at h1
        omega
      have w1 : IntKind.u64.wrap ((y : Int) + ((x : Int) / 2 ^ b).tmod 2) = ((y + e : Nat) : Int) := by
        rw [hxb, Int.tmod_eq_emod_of_nonneg (by omega), IntKind.wrap_u64]
        omega
      have hput : put (r + r) 0 (y + e) = r + r + e := by
        rw [HY.out, put_more, BP_zero, Nat.mul_one]
      have hg : r + r + e = 2 * (m / 2 ^ (j + 1) % n) + m / 2 ^ j % 2 := by rw [← hbit, ← HR.out]; omega
      obtain ⟨s, hs⟩ : ∃ s, s = y + e := ⟨_, rfl⟩
      rw [← hs] at w1 hput ly
      have hR3 := hR.set 0 (.int .u64 (s : Int))
      rw [digs_set (r + r) ly, hput] at hR3
      have HG := hid hg
      have HE := hid le
      clear hs he hbit hxb hput hg le hz
      obtain ⟨g, hgg⟩ : ∃ g, g = r + r + e := ⟨_, rfl⟩
      have hgl : g < BP 16 := by have := HN.out; have h15 : BP 16 = BP 15 * 4294967296 := BP_succ 15; have := HE.out; omega
      rw [← hgg] at hR3
      have HG2 : Hid (g = 2 * (m / 2 ^ (j + 1) % n) + m / 2 ^ j % 2) := hid (by rw [hgg]; exact HG.out)
      clear hgg
      go_wp2
      go_still_tail 13, (by kernel_rfl)
      change wpList _ _ _ _ _ w2.drew
      replace hA := hA.far (p := ⟨w.heap.size + 1 + 1 + 1, 0, none⟩) (by first | (simp; done) | (simp; omega)) (.int .u64 (s : Int))
      replace hB := hB.far (p := ⟨w.heap.size + 1 + 1 + 1, 0, none⟩) (by first | (simp; done) | (simp; omega)) (.int .u64 (s : Int))
      replace hQ := hQ.far (p := ⟨w.heap.size + 1 + 1 + 1, 0, none⟩) (by first | (simp; done) | (simp; omega)) (.int .u64 (s : Int))
      replace hU := hU.setCell (p := w.heap.size + 1 + 1 + 1) (i := 0) (by omega) (.int .u64 (s : Int))
      replace hR := hR3
      clear hR3
      by_cases hin : n ≤ g
      · have hst := div_in H0.out HG2.out hin
        rw [← HQ.out] at hst
        obtain ⟨c, hc, hc0⟩ : ∃ c : Int, cmpN g n = c ∧ 0 ≤ c := ⟨_, rfl, by unfold cmpN; rw [if_neg (by omega)]; split <;> decide⟩
        have HST := hid hst
        have HCC := hid hc
        clear hst hc
        go_wp2_with (first | (refine wpList_load_row rfl 74 (.tmp 5) rfl (w.heap.size + 1 + 1 + 1) rfl 74 (digs g) (0, 0) _ hR.drew Tryd.underlying74 rfl (size_Dn g) ?_) | (refine wpList_load_row rfl 74 (.tmp 3) rfl (w.heap.size + 1) rfl 74 (digs n) (0, 0) _ hB.drew Tryd.underlying74 rfl (size_Dn n) ?_))
        refine Calls.mono (rcmp_any _ g n hgl (Nat.lt_of_lt_of_le HN.out (BP_le (by decide)))) ?_; rintro e w4 ⟨rfl, hb⟩
        rw [HCC.out]
        replace hA := hA.drew.mod (Mod.of_below hb Nil) (fun hf => hf)
        replace hB := hB.drew.mod (Mod.of_below hb Nil) (fun hf => hf)
        replace hQ := hQ.drew.mod (Mod.of_below hb Nil) (fun hf => hf)
        replace hR := hR.drew.mod (Mod.of_below hb Nil) (fun hf => hf)
        replace hU := hU.drew.trans hb
        clear hb
        go_wp2_with (first | (refine wpList_load_row rfl 74 (.tmp 5) rfl (w.heap.size + 1 + 1 + 1) rfl 74 (digs g) (0, 0) _ hR Tryd.underlying74 rfl (size_Dn g) ?_) | (refine wpList_load_row rfl 74 (.tmp 3) rfl (w.heap.size + 1) rfl 74 (digs n) (0, 0) _ hB Tryd.underlying74 rfl (size_Dn n) ?_))
        refine Calls.mono (rsub_any _ g n hgl hin) ?_; rintro e w5 ⟨rfl, hb⟩
        replace hA := hA.mod (Mod.of_below hb Nil) (fun hf => hf)
        replace hB := hB.mod (Mod.of_below hb Nil) (fun hf => hf)
        replace hQ := hQ.mod (Mod.of_below hb Nil) (fun hf => hf)
        replace hR := hR.mod (Mod.of_below hb Nil) (fun hf => hf)
        replace hU := hU.trans hb
        clear hb
        unfold DV
        have hQ2 := hQ.farRow (g' := w.heap.size + 1 + 1 + 1) (by omega) (digs (g - n))
        have cq := hQ2.cell a
        have fq := hQ2.frozen a
        rw [digs_get _ i3] at cq
        obtain ⟨p, hp⟩ : ∃ p, p = dg q a := ⟨_, rfl⟩
        rw [← hp] at cq
        have HP := hid hp
        clear hp
        go_wp2_with (refine wpList_store_row rfl 74 _ _ rfl (w.heap.size + 1 + 1 + 1) (digs (g - n)) rfl rfl 74 (digs g) hR (size_Dn (g - n)) (by rw [digs_size, digs_size]) (digs_one (g - n)) ?_)
        have hroom := dg_room (m / 2 ^ (j + 1) / n) j
        rw [← HQ.out, ← EA.out, ← EB.out, ← HP.out] at hroom
        have hpb : ((2 : Int) ^ b) = ((2 ^ b : Nat) : Int) := by simp
        have hput : put q a (p + 2 ^ b) = q + 2 ^ j := by
          rw [HP.out, put_more, BP_two, ← Nat.pow_add, EA.out, EB.out]
          congr 2
          omega
        obtain ⟨z, hz⟩ : ∃ z, z = 2 ^ b := ⟨_, rfl⟩
        rw [← hz] at hpb hroom hput
        have hw : IntKind.u64.wrap ((p : Int) + IntKind.u64.wrap (2 ^ b)) = ((p + z : Nat) : Int) := by
          rw [hpb, IntKind.wrap_u64, IntKind.wrap_u64]
          omega
        rw [hw]
        have hQ3 := hQ2.set a (.int .u64 ((p + z : Nat) : Int))
        rw [digs_set q hroom, hput] at hQ3
        go_roundw
        case rel => exact ⟨j, q + 2 ^ j, g - n, by omega, rfl, HST.out.2, HST.out.1, (hA.farRow (by omega) _).far (by simp; omega) _, (hB.farRow (by omega) _).far (by simp) _, hQ3, (hR.putRow _).far (by simp) _, (hU.setRow (by omega) _).setCell (by omega) _⟩
        case measure => simp [intOf]
      · have hst := div_out H0.out HG2.out (by omega)
        rw [← HQ.out] at hst
        have hc : cmpN g n = -1 := by unfold cmpN; rw [if_pos (by omega)]
        have HST := hid hst
        have HCC := hid hc
        clear hst hc
        go_wp2_with (first | (refine wpList_load_row rfl 74 (.tmp 5) rfl (w.heap.size + 1 + 1 + 1) rfl 74 (digs g) (0, 0) _ hR.drew Tryd.underlying74 rfl (size_Dn g) ?_) | (refine wpList_load_row rfl 74 (.tmp 3) rfl (w.heap.size + 1) rfl 74 (digs n) (0, 0) _ hB.drew Tryd.underlying74 rfl (size_Dn n) ?_))
        refine Calls.mono (rcmp_any _ g n hgl (Nat.lt_of_lt_of_le HN.out (BP_le (by decide)))) ?_; rintro e w4 ⟨rfl, hb⟩
        rw [HCC.out]
        replace hA := hA.drew.mod (Mod.of_below hb Nil) (fun hf => hf)
        replace hB := hB.drew.mod (Mod.of_below hb Nil) (fun hf => hf)
        replace hQ := hQ.drew.mod (Mod.of_below hb Nil) (fun hf => hf)
        replace hR := hR.drew.mod (Mod.of_below hb Nil) (fun hf => hf)
        replace hU := hU.drew.trans hb
        clear hb
        go_wp2_with fail
        go_roundw
        case rel => exact ⟨j, q, g, by omega, rfl, HST.out.2, HST.out.1, hA, hB, hQ, hR, hU⟩
        case measure => simp [intOf]
end Go.Proofs.YtfalllekhcocgaaDoor

namespace Go.Proofs.YtfalllekhcocgaaDoor
open Go.RowKit

theorem size_B : (Tryd.prog.info? 76).map (·.size) = some 17 := by kernel_rfl
theorem size_Bn {C : Array Value} (h : C.size = 17) : (Tryd.prog.info? 76).map (·.size) = some C.size := by rw [h]; exact size_B
theorem bigs_one (b : Bool) (n : Nat) : (bigs b n).all (·.oneCell') = true := by
  unfold bigs
  rw [Array.all_append, digs_one]
  simp [Value.oneCell']
theorem bigs_0 (b : Bool) : bigs b 0 = #[.bool b, .int .u64 0, .int .u64 0, .int .u64 0, .int .u64 0, .int .u64 0, .int .u64 0, .int .u64 0, .int .u64 0, .int .u64 0, .int .u64 0, .int .u64 0, .int .u64 0, .int .u64 0, .int .u64 0, .int .u64 0, .int .u64 0] := by
  unfold bigs
  rw [digs_0]
  rfl
/-- four digits written into a number of none -/
theorem row_four {W : World} {g : Nat} {t : TypeId} {b : Bool} (hR : Row W g t #[.bool b, .int .u64 0, .int .u64 0, .int .u64 0, .int .u64 0, .int .u64 0, .int .u64 0, .int .u64 0, .int .u64 0, .int .u64 0, .int .u64 0, .int .u64 0, .int .u64 0, .int .u64 0, .int .u64 0, .int .u64 0, .int .u64 0]) (h l : Nat) (hh : h < 18446744073709551616) (hl : l < 18446744073709551616) :
    Row ((((W.setCell ⟨g, 1, none⟩ (.int .u64 ((l : Int) % 4294967296))).setCell ⟨g, 2, none⟩ (.int .u64 ((l : Int) / 4294967296))).setCell ⟨g, 3, none⟩ (.int .u64 ((h : Int) % 4294967296))).setCell ⟨g, 4, none⟩ (.int .u64 ((h : Int) / 4294967296))) g t (bigs b (h * 18446744073709551616 + l)) := by
  rw [← bigs_0] at hR
  have e1 : ((l : Int) % 4294967296) = ((l % 4294967296 : Nat) : Int) := by omega
  have e2 : ((l : Int) / 4294967296) = ((l / 4294967296 : Nat) : Int) := by omega
  have e3 : ((h : Int) % 4294967296) = ((h % 4294967296 : Nat) : Int) := by omega
  have e4 : ((h : Int) / 4294967296) = ((h / 4294967296 : Nat) : Int) := by omega
  rw [e1, e2, e3, e4]
  have r1 := hR.set 1 (.int .u64 ((l % 4294967296 : Nat) : Int))
  rw [bigs_set b _ (j := 0) (v := l % 4294967296) (by omega)] at r1
  have r2 := r1.set 2 (.int .u64 ((l / 4294967296 : Nat) : Int))
  rw [bigs_set b _ (j := 1) (v := l / 4294967296) (by omega)] at r2
  have r3 := r2.set 3 (.int .u64 ((h % 4294967296 : Nat) : Int))
  rw [bigs_set b _ (j := 2) (v := h % 4294967296) (by omega)] at r3
  have r4 := r3.set 4 (.int .u64 ((h / 4294967296 : Nat) : Int))
  rw [bigs_set b _ (j := 3) (v := h / 4294967296) (by omega), put_four h l hh hl] at r4
  exact r4

set_option maxRecDepth 100000 in
set_option maxHeartbeats 2000000 in
theorem of_pos (w : World) (h l : Nat) (h1 : h < 9223372036854775808) (hl : l < 18446744073709551616) : Calls Tryd.prog 56 #[.agg #[.int .i64 h, .int .u64 l]] w fun e w' => e = .returned (BigV false (h * 18446744073709551616 + l)) ∧ Below w.heap.size w w' := by
  have hd : decide ((h : Int) < 0) = false := by simp
  obtain ⟨V, hV⟩ : ∃ V, V = (((w.alloc (.cells #[.int .i64 h, .int .u64 l] 24)).alloc (.cells #[.bool false, .int .u64 0, .int .u64 0, .int .u64 0, .int .u64 0, .int .u64 0, .int .u64 0, .int .u64 0, .int .u64 0, .int .u64 0, .int .u64 0, .int .u64 0, .int .u64 0, .int .u64 0, .int .u64 0, .int .u64 0, .int .u64 0] 76)).alloc (.cells #[.bool false, .int .u64 0, .int .u64 0, .int .u64 0, .int .u64 0, .int .u64 0, .int .u64 0, .int .u64 0, .int .u64 0, .int .u64 0, .int .u64 0, .int .u64 0, .int .u64 0, .int .u64 0, .int .u64 0, .int .u64 0, .int .u64 0] 76)) := ⟨_, rfl⟩
  have hT1 : Row V (w.heap.size + 1 + 1) 76 #[.bool false, .int .u64 0, .int .u64 0, .int .u64 0, .int .u64 0, .int .u64 0, .int .u64 0, .int .u64 0, .int .u64 0, .int .u64 0, .int .u64 0, .int .u64 0, .int .u64 0, .int .u64 0, .int .u64 0, .int .u64 0, .int .u64 0] := by
    have h := Row.new ((w.alloc (.cells #[.int .i64 h, .int .u64 l] 24)).alloc (.cells #[.bool false, .int .u64 0, .int .u64 0, .int .u64 0, .int .u64 0, .int .u64 0, .int .u64 0, .int .u64 0, .int .u64 0, .int .u64 0, .int .u64 0, .int .u64 0, .int .u64 0, .int .u64 0, .int .u64 0, .int .u64 0, .int .u64 0] 76)) 76 #[.bool false, .int .u64 0, .int .u64 0, .int .u64 0, .int .u64 0, .int .u64 0, .int .u64 0, .int .u64 0, .int .u64 0, .int .u64 0, .int .u64 0, .int .u64 0, .int .u64 0, .int .u64 0, .int .u64 0, .int .u64 0, .int .u64 0]
    rw [← hV] at h
    simpa only [alloc_sz] using h
  have hS1 : Row V (w.heap.size + 1) 76 #[.bool false, .int .u64 0, .int .u64 0, .int .u64 0, .int .u64 0, .int .u64 0, .int .u64 0, .int .u64 0, .int .u64 0, .int .u64 0, .int .u64 0, .int .u64 0, .int .u64 0, .int .u64 0, .int .u64 0, .int .u64 0, .int .u64 0] := by
    have h := (Row.new (w.alloc (.cells #[.int .i64 h, .int .u64 l] 24)) 76 #[.bool false, .int .u64 0, .int .u64 0, .int .u64 0, .int .u64 0, .int .u64 0, .int .u64 0, .int .u64 0, .int .u64 0, .int .u64 0, .int .u64 0, .int .u64 0, .int .u64 0, .int .u64 0, .int .u64 0, .int .u64 0, .int .u64 0]).alloc (.cells #[.bool false, .int .u64 0, .int .u64 0, .int .u64 0, .int .u64 0, .int .u64 0, .int .u64 0, .int .u64 0, .int .u64 0, .int .u64 0, .int .u64 0, .int .u64 0, .int .u64 0, .int .u64 0, .int .u64 0, .int .u64 0, .int .u64 0] 76)
    rw [← hV] at h
    simpa only [alloc_sz] using h
  have hU1 := ((Up.refl w).alloc (.cells #[.int .i64 h, .int .u64 l] 24)).alloc (.cells #[.bool false, .int .u64 0, .int .u64 0, .int .u64 0, .int .u64 0, .int .u64 0, .int .u64 0, .int .u64 0, .int .u64 0, .int .u64 0, .int .u64 0, .int .u64 0, .int .u64 0, .int .u64 0, .int .u64 0, .int .u64 0, .int .u64 0] 76) |>.alloc (.cells #[.bool false, .int .u64 0, .int .u64 0, .int .u64 0, .int .u64 0, .int .u64 0, .int .u64 0, .int .u64 0, .int .u64 0, .int .u64 0, .int .u64 0, .int .u64 0, .int .u64 0, .int .u64 0, .int .u64 0, .int .u64 0, .int .u64 0] 76)
  rw [← hV] at hU1
  have hF := hT1.frozen
  have hT5 := row_four hT1 h l (by omega) hl
  have hS5 := (((hS1.far (p := ⟨w.heap.size + 1 + 1, 1, none⟩) (by simp) (.int .u64 ((l : Int) % 4294967296))).far (p := ⟨w.heap.size + 1 + 1, 2, none⟩) (by simp) (.int .u64 ((l : Int) / 4294967296))).far (p := ⟨w.heap.size + 1 + 1, 3, none⟩) (by simp) (.int .u64 ((h : Int) % 4294967296))).far (p := ⟨w.heap.size + 1 + 1, 4, none⟩) (by simp) (.int .u64 ((h : Int) / 4294967296))
  have hU5 := (((hU1.setCell (p := w.heap.size + 1 + 1) (i := 1) (by omega) (.int .u64 ((l : Int) % 4294967296))).setCell (p := w.heap.size + 1 + 1) (i := 2) (by omega) (.int .u64 ((l : Int) / 4294967296))).setCell (p := w.heap.size + 1 + 1) (i := 3) (by omega) (.int .u64 ((h : Int) % 4294967296))).setCell (p := w.heap.size + 1 + 1) (i := 4) (by omega) (.int .u64 ((h : Int) / 4294967296))
  have hc1 := hT1.cell 1
  have hc2 := hT1.cell 2
  have hc3 := hT1.cell 3
  have hc4 := hT1.cell 4
  simp at hc1 hc2 hc3 hc4
  clear hT1 hS1 hU1
  unfold BigV
  obtain ⟨C, hC⟩ : ∃ C, C = bigs false (h * 18446744073709551616 + l) := ⟨_, rfl⟩
  have hC1 : C.all (·.oneCell') = true := by rw [hC]; exact bigs_one _ _
  have hC2 : C.size = 17 := by rw [hC]; exact bigs_size _ _
  rw [← hC] at hT5 ⊢
  clear hC
  have HC2 := hid hC2
  have HV := hid hV
  clear hC2 hV
  go_enter Tryd.func56, Tryd.ntmps56
  go_upto_region 11 with fail
  rw [← HV.out]
  go_upto_region 15 with fail
  obtain ⟨V2, hV2⟩ : ∃ V2, V2 = (((V.setCell ⟨w.heap.size + 1 + 1, 1, none⟩ (.int .u64 ((l : Int) % 4294967296))).setCell ⟨w.heap.size + 1 + 1, 2, none⟩ (.int .u64 ((l : Int) / 4294967296))).setCell ⟨w.heap.size + 1 + 1, 3, none⟩ (.int .u64 ((h : Int) % 4294967296))).setCell ⟨w.heap.size + 1 + 1, 4, none⟩ (.int .u64 ((h : Int) / 4294967296)) := ⟨_, rfl⟩
  rw [← hV2] at hT5 hS5 hU5 ⊢
  clear hV2
  go_wp2_with (first | (refine wpList_load_row rfl 76 (.tmp 6) rfl (w.heap.size + 1 + 1) rfl 76 C (0, 0) _ hT5 Tryd.underlying76 rfl (size_Bn HC2.out) ?_) | (refine wpList_store_row rfl 76 (.tmp 2) (.tmp 44) rfl (w.heap.size + 1) C rfl rfl 76 #[.bool false, .int .u64 0, .int .u64 0, .int .u64 0, .int .u64 0, .int .u64 0, .int .u64 0, .int .u64 0, .int .u64 0, .int .u64 0, .int .u64 0, .int .u64 0, .int .u64 0, .int .u64 0, .int .u64 0, .int .u64 0, .int .u64 0] hS5 (size_Bn HC2.out) HC2.out.symm hC1 ?_))
  exact bodyPost_ret (v := .agg C) (results_cell_row Tryd.results56 _ _ (w.heap.size + 1) 76 C (0, 0) _ rfl (hS5.putRow _) Tryd.underlying76 rfl (size_Bn HC2.out)) rfl ⟨rfl, (hU5.setRow (by omega) _).below⟩

set_option maxRecDepth 100000 in
set_option maxHeartbeats 2000000 in
theorem of_negA (w : World) (x : Int) (X y L h l : Nat) (hd : decide (x < 0) = true) (wx : IntKind.u64.wrap x = (X : Int)) (nX : bits .xor .u64 (if IntKind.u64.signed = true then -1 else IntKind.u64.max) (X : Int) = (h : Int)) (nY : bits .xor .u64 (if IntKind.u64.signed = true then -1 else IntKind.u64.max) (y : Int) = (L : Int)) (wl : IntKind.u64.wrap ((L : Int) + 1) = (l : Int)) (hz : ((l : Int) == 0) = false) (hh : h < 18446744073709551616) (hl : l < 18446744073709551616) : Calls Tryd.prog 56 #[.agg #[.int .i64 x, .int .u64 y]] w fun e w' => e = .returned (BigV true (h * 18446744073709551616 + l)) ∧ Below w.heap.size w w' := by
  obtain ⟨V, hV⟩ : ∃ V, V = (((w.alloc (.cells #[.int .i64 x, .int .u64 y] 24)).alloc (.cells #[.bool false, .int .u64 0, .int .u64 0, .int .u64 0, .int .u64 0, .int .u64 0, .int .u64 0, .int .u64 0, .int .u64 0, .int .u64 0, .int .u64 0, .int .u64 0, .int .u64 0, .int .u64 0, .int .u64 0, .int .u64 0, .int .u64 0] 76)).alloc (.cells #[.bool true, .int .u64 0, .int .u64 0, .int .u64 0, .int .u64 0, .int .u64 0, .int .u64 0, .int .u64 0, .int .u64 0, .int .u64 0, .int .u64 0, .int .u64 0, .int .u64 0, .int .u64 0, .int .u64 0, .int .u64 0, .int .u64 0] 76)) := ⟨_, rfl⟩
  have hT1 : Row V (w.heap.size + 1 + 1) 76 #[.bool true, .int .u64 0, .int .u64 0, .int .u64 0, .int .u64 0, .int .u64 0, .int .u64 0, .int .u64 0, .int .u64 0, .int .u64 0, .int .u64 0, .int .u64 0, .int .u64 0, .int .u64 0, .int .u64 0, .int .u64 0, .int .u64 0] := by
    have h := Row.new ((w.alloc (.cells #[.int .i64 x, .int .u64 y] 24)).alloc (.cells #[.bool false, .int .u64 0, .int .u64 0, .int .u64 0, .int .u64 0, .int .u64 0, .int .u64 0, .int .u64 0, .int .u64 0, .int .u64 0, .int .u64 0, .int .u64 0, .int .u64 0, .int .u64 0, .int .u64 0, .int .u64 0, .int .u64 0] 76)) 76 #[.bool true, .int .u64 0, .int .u64 0, .int .u64 0, .int .u64 0, .int .u64 0, .int .u64 0, .int .u64 0, .int .u64 0, .int .u64 0, .int .u64 0, .int .u64 0, .int .u64 0, .int .u64 0, .int .u64 0, .int .u64 0, .int .u64 0]
    rw [← hV] at h
    simpa only [alloc_sz] using h
  have hS1 : Row V (w.heap.size + 1) 76 #[.bool false, .int .u64 0, .int .u64 0, .int .u64 0, .int .u64 0, .int .u64 0, .int .u64 0, .int .u64 0, .int .u64 0, .int .u64 0, .int .u64 0, .int .u64 0, .int .u64 0, .int .u64 0, .int .u64 0, .int .u64 0, .int .u64 0] := by
    have h := (Row.new (w.alloc (.cells #[.int .i64 x, .int .u64 y] 24)) 76 #[.bool false, .int .u64 0, .int .u64 0, .int .u64 0, .int .u64 0, .int .u64 0, .int .u64 0, .int .u64 0, .int .u64 0, .int .u64 0, .int .u64 0, .int .u64 0, .int .u64 0, .int .u64 0, .int .u64 0, .int .u64 0, .int .u64 0]).alloc (.cells #[.bool true, .int .u64 0, .int .u64 0, .int .u64 0, .int .u64 0, .int .u64 0, .int .u64 0, .int .u64 0, .int .u64 0, .int .u64 0, .int .u64 0, .int .u64 0, .int .u64 0, .int .u64 0, .int .u64 0, .int .u64 0, .int .u64 0] 76)
    rw [← hV] at h
    simpa only [alloc_sz] using h
  have hU1 := ((Up.refl w).alloc (.cells #[.int .i64 x, .int .u64 y] 24)).alloc (.cells #[.bool false, .int .u64 0, .int .u64 0, .int .u64 0, .int .u64 0, .int .u64 0, .int .u64 0, .int .u64 0, .int .u64 0, .int .u64 0, .int .u64 0, .int .u64 0, .int .u64 0, .int .u64 0, .int .u64 0, .int .u64 0, .int .u64 0] 76) |>.alloc (.cells #[.bool true, .int .u64 0, .int .u64 0, .int .u64 0, .int .u64 0, .int .u64 0, .int .u64 0, .int .u64 0, .int .u64 0, .int .u64 0, .int .u64 0, .int .u64 0, .int .u64 0, .int .u64 0, .int .u64 0, .int .u64 0, .int .u64 0] 76)
  rw [← hV] at hU1
  have hF := hT1.frozen
  have hT5 := row_four hT1 h l hh hl
  have hS5 := (((hS1.far (p := ⟨w.heap.size + 1 + 1, 1, none⟩) (by simp) (.int .u64 ((l : Int) % 4294967296))).far (p := ⟨w.heap.size + 1 + 1, 2, none⟩) (by simp) (.int .u64 ((l : Int) / 4294967296))).far (p := ⟨w.heap.size + 1 + 1, 3, none⟩) (by simp) (.int .u64 ((h : Int) % 4294967296))).far (p := ⟨w.heap.size + 1 + 1, 4, none⟩) (by simp) (.int .u64 ((h : Int) / 4294967296))
  have hU5 := (((hU1.setCell (p := w.heap.size + 1 + 1) (i := 1) (by omega) (.int .u64 ((l : Int) % 4294967296))).setCell (p := w.heap.size + 1 + 1) (i := 2) (by omega) (.int .u64 ((l : Int) / 4294967296))).setCell (p := w.heap.size + 1 + 1) (i := 3) (by omega) (.int .u64 ((h : Int) % 4294967296))).setCell (p := w.heap.size + 1 + 1) (i := 4) (by omega) (.int .u64 ((h : Int) / 4294967296))
  have hc1 := hT1.cell 1
  have hc2 := hT1.cell 2
  have hc3 := hT1.cell 3
  have hc4 := hT1.cell 4
  simp at hc1 hc2 hc3 hc4
  clear hT1 hS1 hU1
  unfold BigV
  obtain ⟨C, hC⟩ : ∃ C, C = bigs true (h * 18446744073709551616 + l) := ⟨_, rfl⟩
  have hC1 : C.all (·.oneCell') = true := by rw [hC]; exact bigs_one _ _
  have hC2 : C.size = 17 := by rw [hC]; exact bigs_size _ _
  rw [← hC] at hT5 ⊢
  clear hC
  have HC2 := hid hC2
  have HV := hid hV
  clear hC2 hV
  go_enter Tryd.func56, Tryd.ntmps56
  go_upto_region 11 with fail
  rw [← HV.out]
  go_upto_region 15 with fail
  obtain ⟨V2, hV2⟩ : ∃ V2, V2 = (((V.setCell ⟨w.heap.size + 1 + 1, 1, none⟩ (.int .u64 ((l : Int) % 4294967296))).setCell ⟨w.heap.size + 1 + 1, 2, none⟩ (.int .u64 ((l : Int) / 4294967296))).setCell ⟨w.heap.size + 1 + 1, 3, none⟩ (.int .u64 ((h : Int) % 4294967296))).setCell ⟨w.heap.size + 1 + 1, 4, none⟩ (.int .u64 ((h : Int) / 4294967296)) := ⟨_, rfl⟩
  rw [← hV2] at hT5 hS5 hU5 ⊢
  clear hV2
  go_wp2_with (first | (refine wpList_load_row rfl 76 (.tmp 6) rfl (w.heap.size + 1 + 1) rfl 76 C (0, 0) _ hT5 Tryd.underlying76 rfl (size_Bn HC2.out) ?_) | (refine wpList_store_row rfl 76 (.tmp 2) (.tmp 44) rfl (w.heap.size + 1) C rfl rfl 76 #[.bool false, .int .u64 0, .int .u64 0, .int .u64 0, .int .u64 0, .int .u64 0, .int .u64 0, .int .u64 0, .int .u64 0, .int .u64 0, .int .u64 0, .int .u64 0, .int .u64 0, .int .u64 0, .int .u64 0, .int .u64 0, .int .u64 0] hS5 (size_Bn HC2.out) HC2.out.symm hC1 ?_))
  exact bodyPost_ret (v := .agg C) (results_cell_row Tryd.results56 _ _ (w.heap.size + 1) 76 C (0, 0) _ rfl (hS5.putRow _) Tryd.underlying76 rfl (size_Bn HC2.out)) rfl ⟨rfl, (hU5.setRow (by omega) _).below⟩

set_option maxRecDepth 100000 in
set_option maxHeartbeats 2000000 in
theorem of_negB (w : World) (x : Int) (X y L H h l : Nat) (hd : decide (x < 0) = true) (wx : IntKind.u64.wrap x = (X : Int)) (nX : bits .xor .u64 (if IntKind.u64.signed = true then -1 else IntKind.u64.max) (X : Int) = (H : Int)) (wh : IntKind.u64.wrap ((H : Int) + 1) = (h : Int)) (nY : bits .xor .u64 (if IntKind.u64.signed = true then -1 else IntKind.u64.max) (y : Int) = (L : Int)) (wl : IntKind.u64.wrap ((L : Int) + 1) = (l : Int)) (hz : ((l : Int) == 0) = true) (hh : h < 18446744073709551616) (hl : l < 18446744073709551616) : Calls Tryd.prog 56 #[.agg #[.int .i64 x, .int .u64 y]] w fun e w' => e = .returned (BigV true (h * 18446744073709551616 + l)) ∧ Below w.heap.size w w' := by
  obtain ⟨V, hV⟩ : ∃ V, V = (((w.alloc (.cells #[.int .i64 x, .int .u64 y] 24)).alloc (.cells #[.bool false, .int .u64 0, .int .u64 0, .int .u64 0, .int .u64 0, .int .u64 0, .int .u64 0, .int .u64 0, .int .u64 0, .int .u64 0, .int .u64 0, .int .u64 0, .int .u64 0, .int .u64 0, .int .u64 0, .int .u64 0, .int .u64 0] 76)).alloc (.cells #[.bool true, .int .u64 0, .int .u64 0, .int .u64 0, .int .u64 0, .int .u64 0, .int .u64 0, .int .u64 0, .int .u64 0, .int .u64 0, .int .u64 0, .int .u64 0, .int .u64 0, .int .u64 0, .int .u64 0, .int .u64 0, .int .u64 0] 76)) := ⟨_, rfl⟩
  have hT1 : Row V (w.heap.size + 1 + 1) 76 #[.bool true, .int .u64 0, .int .u64 0, .int .u64 0, .int .u64 0, .int .u64 0, .int .u64 0, .int .u64 0, .int .u64 0, .int .u64 0, .int .u64 0, .int .u64 0, .int .u64 0, .int .u64 0, .int .u64 0, .int .u64 0, .int .u64 0] := by
    have h := Row.new ((w.alloc (.cells #[.int .i64 x, .int .u64 y] 24)).alloc (.cells #[.bool false, .int .u64 0, .int .u64 0, .int .u64 0, .int .u64 0, .int .u64 0, .int .u64 0, .int .u64 0, .int .u64 0, .int .u64 0, .int .u64 0, .int .u64 0, .int .u64 0, .int .u64 0, .int .u64 0, .int .u64 0, .int .u64 0] 76)) 76 #[.bool true, .int .u64 0, .int .u64 0, .int .u64 0, .int .u64 0, .int .u64 0, .int .u64 0, .int .u64 0, .int .u64 0, .int .u64 0, .int .u64 0, .int .u64 0, .int .u64 0, .int .u64 0, .int .u64 0, .int .u64 0, .int .u64 0]
    rw [← hV] at h
    simpa only [alloc_sz] using h
  have hS1 : Row V (w.heap.size + 1) 76 #[.bool false, .int .u64 0, .int .u64 0, .int .u64 0, .int .u64 0, .int .u64 0, .int .u64 0, .int .u64 0, .int .u64 0, .int .u64 0, .int .u64 0, .int .u64 0, .int .u64 0, .int .u64 0, .int .u64 0, .int .u64 0, .int .u64 0] := by
    have h := (Row.new (w.alloc (.cells #[.int .i64 x, .int .u64 y] 24)) 76 #[.bool false, .int .u64 0, .int .u64 0, .int .u64 0, .int .u64 0, .int .u64 0, .int .u64 0, .int .u64 0, .int .u64 0, .int .u64 0, .int .u64 0, .int .u64 0, .int .u64 0, .int .u64 0, .int .u64 0, .int .u64 0, .int .u64 0]).alloc (.cells #[.bool true, .int .u64 0, .int .u64 0, .int .u64 0, .int .u64 0, .int .u64 0, .int .u64 0, .int .u64 0, .int .u64 0, .int .u64 0, .int .u64 0, .int .u64 0, .int .u64 0, .int .u64 0, .int .u64 0, .int .u64 0, .int .u64 0] 76)
    rw [← hV] at h
    simpa only [alloc_sz] using h
  have hU1 := ((Up.refl w).alloc (.cells #[.int .i64 x, .int .u64 y] 24)).alloc (.cells #[.bool false, .int .u64 0, .int .u64 0, .int .u64 0, .int .u64 0, .int .u64 0, .int .u64 0, .int .u64 0, .int .u64 0, .int .u64 0, .int .u64 0, .int .u64 0, .int .u64 0, .int .u64 0, .int .u64 0, .int .u64 0, .int .u64 0] 76) |>.alloc (.cells #[.bool true, .int .u64 0, .int .u64 0, .int .u64 0, .int .u64 0, .int .u64 0, .int .u64 0, .int .u64 0, .int .u64 0, .int .u64 0, .int .u64 0, .int .u64 0, .int .u64 0, .int .u64 0, .int .u64 0, .int .u64 0, .int .u64 0] 76)
  rw [← hV] at hU1
  have hF := hT1.frozen
  have hT5 := row_four hT1 h l hh hl
  have hS5 := (((hS1.far (p := ⟨w.heap.size + 1 + 1, 1, none⟩) (by simp) (.int .u64 ((l : Int) % 4294967296))).far (p := ⟨w.heap.size + 1 + 1, 2, none⟩) (by simp) (.int .u64 ((l : Int) / 4294967296))).far (p := ⟨w.heap.size + 1 + 1, 3, none⟩) (by simp) (.int .u64 ((h : Int) % 4294967296))).far (p := ⟨w.heap.size + 1 + 1, 4, none⟩) (by simp) (.int .u64 ((h : Int) / 4294967296))
  have hU5 := (((hU1.setCell (p := w.heap.size + 1 + 1) (i := 1) (by omega) (.int .u64 ((l : Int) % 4294967296))).setCell (p := w.heap.size + 1 + 1) (i := 2) (by omega) (.int .u64 ((l : Int) / 4294967296))).setCell (p := w.heap.size + 1 + 1) (i := 3) (by omega) (.int .u64 ((h : Int) % 4294967296))).setCell (p := w.heap.size + 1 + 1) (i := 4) (by omega) (.int .u64 ((h : Int) / 4294967296))
  have hc1 := hT1.cell 1
  have hc2 := hT1.cell 2
  have hc3 := hT1.cell 3
  have hc4 := hT1.cell 4
  simp at hc1 hc2 hc3 hc4
  clear hT1 hS1 hU1
  unfold BigV
  obtain ⟨C, hC⟩ : ∃ C, C = bigs true (h * 18446744073709551616 + l) := ⟨_, rfl⟩
  have hC1 : C.all (·.oneCell') = true := by rw [hC]; exact bigs_one _ _
  have hC2 : C.size = 17 := by rw [hC]; exact bigs_size _ _
  rw [← hC] at hT5 ⊢
  clear hC
  have HC2 := hid hC2
  have HV := hid hV
  clear hC2 hV
  go_enter Tryd.func56, Tryd.ntmps56
  go_upto_region 11 with fail
  rw [← HV.out]
  go_upto_region 15 with fail
  obtain ⟨V2, hV2⟩ : ∃ V2, V2 = (((V.setCell ⟨w.heap.size + 1 + 1, 1, none⟩ (.int .u64 ((l : Int) % 4294967296))).setCell ⟨w.heap.size + 1 + 1, 2, none⟩ (.int .u64 ((l : Int) / 4294967296))).setCell ⟨w.heap.size + 1 + 1, 3, none⟩ (.int .u64 ((h : Int) % 4294967296))).setCell ⟨w.heap.size + 1 + 1, 4, none⟩ (.int .u64 ((h : Int) / 4294967296)) := ⟨_, rfl⟩
  rw [← hV2] at hT5 hS5 hU5 ⊢
  clear hV2
  go_wp2_with (first | (refine wpList_load_row rfl 76 (.tmp 6) rfl (w.heap.size + 1 + 1) rfl 76 C (0, 0) _ hT5 Tryd.underlying76 rfl (size_Bn HC2.out) ?_) | (refine wpList_store_row rfl 76 (.tmp 2) (.tmp 44) rfl (w.heap.size + 1) C rfl rfl 76 #[.bool false, .int .u64 0, .int .u64 0, .int .u64 0, .int .u64 0, .int .u64 0, .int .u64 0, .int .u64 0, .int .u64 0, .int .u64 0, .int .u64 0, .int .u64 0, .int .u64 0, .int .u64 0, .int .u64 0, .int .u64 0, .int .u64 0] hS5 (size_Bn HC2.out) HC2.out.symm hC1 ?_))
  exact bodyPost_ret (v := .agg C) (results_cell_row Tryd.results56 _ _ (w.heap.size + 1) 76 C (0, 0) _ rfl (hS5.putRow _) Tryd.underlying76 rfl (size_Bn HC2.out)) rfl ⟨rfl, (hU5.setRow (by omega) _).below⟩
end Go.Proofs.YtfalllekhcocgaaDoor
