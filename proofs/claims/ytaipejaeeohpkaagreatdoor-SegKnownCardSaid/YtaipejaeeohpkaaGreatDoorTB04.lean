/-
  RpcC · App · Bld · RpcD · DskS · DskW
-/
import Derived.Test.YtaipejaeeohpkaaGreatDoorTA05
import Derived.Test.YtaipejaeeohpkaaGreatDoorTB02
import Derived.Test.YtaipejaeeohpkaaGreatDoorTB03
set_option linter.unusedSimpArgs false
set_option linter.unusedVariables false

namespace Go.Proofs.YtaipejaeeohpkaaGreatDoor.Sep
open Go.RowKit
open Go.Proofs.YtaipejaeeohpkaaGreatDoor.Mem (Dist Blk Chg below0)

/-- where bytes lie -/
structure SlV where
  A : Option Addr
  c : Nat
theorem decE_is {l : List UInt8} {e e' : EntD} {n n' : Nat} (h : decE l = (e', n')) (hD : decE l = (e, n)) : e' = e ∧ n' = n := by
  have := h.symm.trans hD
  simpa using this
theorem layE_none {e : EntD} (h : e.k = 0) : layE e = [UInt8.ofNat e.k.toNat] ++ layU e.t ++ layU e.i := by
  unfold layE tailE
  rw [if_neg (by omega), if_neg (by omega)]
  simp
theorem layE_cmd {e : EntD} (h : e.k = 1) : layE e = [UInt8.ofNat e.k.toNat] ++ layU e.t ++ layU e.i ++ layT e.d := by
  unfold layE tailE
  rw [if_pos h]
  simp
theorem layE_conf {e : EntD} (h : e.k = 2) : layE e = [UInt8.ofNat e.k.toNat] ++ layU e.t ++ layU e.i ++ [UInt8.ofNat e.c.toNat] := by
  unfold layE tailE
  rw [if_neg (by omega), if_pos h]
  simp

set_option maxRecDepth 100000 in
theorem laye_does (u : World) (x : EntV) (hv : Sl8 u x.v x.e.d) (hr : rightE x.e = true) : DoesU u Tryz.prog 97 #[.agg #[.int .i64 x.e.k, .int .u64 x.e.t, .int .u64 x.e.i, x.v, .int .i64 x.e.c]] [] (fun (v : Value) => .tuple #[v, .int .i64 0]) (fun (v : Value) => [Vec 5 1 encB v (layE x.e)]) := by
  obtain ⟨ht, hi, hk⟩ := rightE_iff hr
  have ht1 := layU_mlen ht.2
  have hi1 := layU_mlen hi.2
  obtain ⟨L0, hL0⟩ : ∃ L0, [UInt8.ofNat x.e.k.toNat] = L0 := ⟨_, rfl⟩
  obtain ⟨L1, hL1⟩ : ∃ L1, L0 ++ layU x.e.t = L1 := ⟨_, rfl⟩
  obtain ⟨L2, hL2⟩ : ∃ L2, L1 ++ layU x.e.i = L2 := ⟨_, rfl⟩
  obtain ⟨L3, hL3⟩ : ∃ L3, layE x.e = L3 := ⟨_, rfl⟩
  have n0 : L0.length = 1 := by rw [← hL0]; rfl
  have n1 : L1.length ≤ 9 := by rw [← hL1, List.length_append]; omega
  have n2 : L2.length ≤ 17 := by rw [← hL2, List.length_append]; omega
  have n3 : L3.length ≤ 147 := by rw [← hL3]; exact layE_len hr
  refine d_insU (args := [.agg #[.int .i64 x.e.k, .int .u64 x.e.t, .int .u64 x.e.i, x.v, .int .i64 x.e.c]]) 39 Tryz.func97 rfl rfl rfl ?_; intro w rs hU hS
  refine d_reg ?_
  refine h_q hflS rfl ?_
  refine h_act (post := fun gx => [cell gx 34 #[.int .i64 x.e.k, .int .u64 x.e.t, .int .u64 x.e.i, x.v, .int .i64 x.e.c]]) rfl (a_box (cs := #[.int .i64 x.e.k, .int .u64 x.e.t, .int .u64 x.e.i, x.v, .int .i64 x.e.c]) rfl rfl rfl) ?_; rintro gx
  refine h_q hflS rfl ?_
  refine h_done (d_seq (d_reg ?_))
  refine h_q hflS rfl ?_
  refine h_val rfl (.agg #[.int .i64 x.e.k, .int .u64 x.e.t, .int .u64 x.e.i, x.v, .int .i64 x.e.c]) (fun b w hb hH => exec_load rfl rfl (reads_agg (cs := [.int .i64 x.e.k, .int .u64 x.e.t, .int .u64 x.e.i, x.v, .int .i64 x.e.c]) ty_api_Entry rfl) (hH.row 0 rfl) hb) ?_
  refine h_act (post := fun _ => [cell gx 34 #[.int .i64 x.e.k, .int .u64 x.e.t, .int .u64 x.e.i, x.v, .int .i64 x.e.c]]) rfl (a_call (ent_of Tryz.func44 (by kernel_rfl) rfl) (fun w hH => rightE_any w x (arg8 hv hU hS hH) true hr) rfl rfl rfl) ?_; rintro ⟨⟩
  refine h_q hflS rfl ?_
  refine h_done (d_else rfl (d_skip (f_to (d_reg ?_))))
  refine h_q hflS rfl ?_
  refine h_act (post := fun g => [WtT g ([]), cell gx 34 #[.int .i64 x.e.k, .int .u64 x.e.t, .int .u64 x.e.i, x.v, .int .i64 x.e.c]]) rfl (a_does (os' := fun g => [WtT g ([]), cell gx 34 #[.int .i64 x.e.k, .int .u64 x.e.t, .int .u64 x.e.i, x.v, .int .i64 x.e.c]]) [] 0 (ent_of Tryz.func141 (by kernel_rfl) rfl) (wt_new) rfl rfl rfl (fun _ => rfl) rfl rfl rfl) ?_; rintro g
  refine h_q hflS rfl ?_
  refine h_done (d_reg ?_)
  refine h_q hflS rfl ?_
  refine h_val rfl (.int .i64 x.e.k) (fun b w hb hH => exec_load rfl rfl (reads_one ty_int rfl) (hH.row 1 rfl) hb) ?_
  refine h_val rfl (.int .u8 x.e.k) (fun b w hb hH => exec_conv Tryz.underlying3 Tryz.underlying5 (IntWalk.u8_in _ (by omega)) rfl rfl hb) ?_
  refine h_act (post := fun _ => [WtT g L0, cell gx 34 #[.int .i64 x.e.k, .int .u64 x.e.t, .int .u64 x.e.i, x.v, .int .i64 x.e.c]]) rfl (a_does (os' := fun _ => [WtT g L0, cell gx 34 #[.int .i64 x.e.k, .int .u64 x.e.t, .int .u64 x.e.i, x.v, .int .i64 x.e.c]]) [0] 0 (ent_of Tryz.func142 (by kernel_rfl) rfl) (wt_byte g ([]) x.e.k (by omega) L0 (by rw [← hL0]; rfl) (by simp)) rfl rfl rfl (fun _ => rfl) rfl rfl rfl) ?_; rintro ⟨⟩
  refine h_done (d_reg ?_)
  refine h_q hflS rfl ?_
  refine h_val rfl (.int .u64 x.e.t) (fun b w hb hH => exec_load rfl rfl (reads_one ty_uint64 rfl) (hH.row 1 rfl) hb) ?_
  refine h_act (post := fun _ => [WtT g L1, cell gx 34 #[.int .i64 x.e.k, .int .u64 x.e.t, .int .u64 x.e.i, x.v, .int .i64 x.e.c]]) rfl (a_does (os' := fun _ => [WtT g L1, cell gx 34 #[.int .i64 x.e.k, .int .u64 x.e.t, .int .u64 x.e.i, x.v, .int .i64 x.e.c]]) [0] 0 (ent_of Tryz.func143 (by kernel_rfl) rfl) (wt_num g L0 x.e.t ⟨by omega, by omega⟩ L1 hL1 (by omega)) rfl rfl rfl (fun _ => rfl) rfl rfl rfl) ?_; rintro ⟨⟩
  refine h_done (d_reg ?_)
  refine h_q hflS rfl ?_
  refine h_val rfl (.int .u64 x.e.i) (fun b w hb hH => exec_load rfl rfl (reads_one ty_uint64 rfl) (hH.row 1 rfl) hb) ?_
  refine h_act (post := fun _ => [WtT g L2, cell gx 34 #[.int .i64 x.e.k, .int .u64 x.e.t, .int .u64 x.e.i, x.v, .int .i64 x.e.c]]) rfl (a_does (os' := fun _ => [WtT g L2, cell gx 34 #[.int .i64 x.e.k, .int .u64 x.e.t, .int .u64 x.e.i, x.v, .int .i64 x.e.c]]) [0] 0 (ent_of Tryz.func143 (by kernel_rfl) rfl) (wt_num g L1 x.e.i ⟨by omega, by omega⟩ L2 hL2 (by omega)) rfl rfl rfl (fun _ => rfl) rfl rfl rfl) ?_; rintro ⟨⟩
  refine h_done (d_seq (d_reg ?_))
  refine h_q hflS rfl ?_
  refine h_val rfl (.int .i64 x.e.k) (fun b w hb hH => exec_load rfl rfl (reads_one ty_int rfl) (hH.row 1 rfl) hb) ?_
  refine h_done (d_block ?_)
  rcases hk with ⟨hk, hd, hc⟩ | ⟨hk, hd, hd2, hc⟩ | ⟨hk, hd, hc, hc2, hc3⟩
  · skip
    obtain rfl : L2 = L3 := by rw [← hL3, layE_none hk, ← hL2, ← hL1, ← hL0]
    refine d_reg ?_
    refine h_q hflS rfl ?_
    refine h_val rfl (.bool false) (fun b w hb hH => exec_cmp rfl rfl rfl (cmp_eql_f (by omega)) hb) ?_
    refine h_q hflS rfl ?_
    refine h_done (d_else rfl (d_reg ?_))
    refine h_q hflS rfl ?_
    refine h_val rfl (.bool false) (fun b w hb hH => exec_cmp rfl rfl rfl (cmp_eql_f (by omega)) hb) ?_
    refine h_q hflS rfl ?_
    refine h_done (d_else rfl (d_skip (f_block (f_to (d_reg ?_)))))
    refine h_q hflS rfl ?_
    refine h_act (post := fun v => [Vec 5 1 encB v L2, WtT g L2, cell gx 34 #[.int .i64 x.e.k, .int .u64 x.e.t, .int .u64 x.e.i, x.v, .int .i64 x.e.c]]) rfl (a_does (os' := fun v => [Vec 5 1 encB v L2, WtT g L2, cell gx 34 #[.int .i64 x.e.k, .int .u64 x.e.t, .int .u64 x.e.i, x.v, .int .i64 x.e.c]]) [0] 0 (ent_of Tryz.func145 (by kernel_rfl) rfl) (wt_bytes g L2 (by omega)) rfl rfl rfl (fun _ => rfl) rfl rfl rfl) ?_; rintro v
    refine h_q hflS rfl ?_
    refine h_done (d_ret ?_)
    exact f_fin2 (.tmp rfl) (.tmp rfl) (fun w h => tells v rfl [0] rfl h (fun z hz => ⟨z, .refl _, by rw [hL3]; exact hz⟩)) rfl
  · skip
    refine d_reg ?_
    refine h_q hflS rfl ?_
    refine h_val rfl (.bool true) (fun b w hb hH => exec_cmp rfl rfl rfl (cmp_eql_t (by omega)) hb) ?_
    refine h_q hflS rfl ?_
    refine h_done (d_then rfl (d_reg1 ?_))
    refine h_q hflS rfl ?_
    refine h_val rfl (x.v) (fun b w hb hH => exec_load rfl rfl (reads_one ty_s_uint8 rfl) (hH.row 1 rfl) hb) ?_
    refine h_act (post := fun _ => [WtT g L3, cell gx 34 #[.int .i64 x.e.k, .int .u64 x.e.t, .int .u64 x.e.i, x.v, .int .i64 x.e.c]]) rfl (a_doesU hU hS (os' := fun _ => [WtT g L3, cell gx 34 #[.int .i64 x.e.k, .int .u64 x.e.t, .int .u64 x.e.i, x.v, .int .i64 x.e.c]]) [0] 0 (ent_of Tryz.func144 (by kernel_rfl) rfl) (wt_textU hv g L2 L3 (by rw [← hL3, layE_cmd hk, ← hL2, ← hL1, ← hL0]) (by omega)) rfl rfl rfl (fun _ => rfl) rfl rfl rfl) ?_; rintro ⟨⟩
    refine h_nil (f_block (f_to (d_reg ?_)))
    refine h_q hflS rfl ?_
    refine h_act (post := fun v => [Vec 5 1 encB v L3, WtT g L3, cell gx 34 #[.int .i64 x.e.k, .int .u64 x.e.t, .int .u64 x.e.i, x.v, .int .i64 x.e.c]]) rfl (a_does (os' := fun v => [Vec 5 1 encB v L3, WtT g L3, cell gx 34 #[.int .i64 x.e.k, .int .u64 x.e.t, .int .u64 x.e.i, x.v, .int .i64 x.e.c]]) [0] 0 (ent_of Tryz.func145 (by kernel_rfl) rfl) (wt_bytes g L3 (by omega)) rfl rfl rfl (fun _ => rfl) rfl rfl rfl) ?_; rintro v
    refine h_q hflS rfl ?_
    refine h_done (d_ret ?_)
    exact f_fin2 (.tmp rfl) (.tmp rfl) (fun w h => tells v rfl [0] rfl h (fun z hz => ⟨z, .refl _, by rw [hL3]; exact hz⟩)) rfl
  · skip
    refine d_reg ?_
    refine h_q hflS rfl ?_
    refine h_val rfl (.bool false) (fun b w hb hH => exec_cmp rfl rfl rfl (cmp_eql_f (by omega)) hb) ?_
    refine h_q hflS rfl ?_
    refine h_done (d_else rfl (d_reg ?_))
    refine h_q hflS rfl ?_
    refine h_val rfl (.bool true) (fun b w hb hH => exec_cmp rfl rfl rfl (cmp_eql_t (by omega)) hb) ?_
    refine h_q hflS rfl ?_
    refine h_done (d_then rfl (d_reg1 ?_))
    refine h_q hflS rfl ?_
    refine h_val rfl (.int .i64 x.e.c) (fun b w hb hH => exec_load rfl rfl (reads_one ty_int rfl) (hH.row 1 rfl) hb) ?_
    refine h_val rfl (.int .u8 x.e.c) (fun b w hb hH => exec_conv Tryz.underlying3 Tryz.underlying5 (IntWalk.u8_in _ (by omega)) rfl rfl hb) ?_
    refine h_act (post := fun _ => [WtT g L3, cell gx 34 #[.int .i64 x.e.k, .int .u64 x.e.t, .int .u64 x.e.i, x.v, .int .i64 x.e.c]]) rfl (a_does (os' := fun _ => [WtT g L3, cell gx 34 #[.int .i64 x.e.k, .int .u64 x.e.t, .int .u64 x.e.i, x.v, .int .i64 x.e.c]]) [0] 0 (ent_of Tryz.func142 (by kernel_rfl) rfl) (wt_byte g L2 x.e.c (by omega) L3 (by rw [← hL3, layE_conf hk, ← hL2, ← hL1, ← hL0]) (by omega)) rfl rfl rfl (fun _ => rfl) rfl rfl rfl) ?_; rintro ⟨⟩
    refine h_nil (f_block (f_to (d_reg ?_)))
    refine h_q hflS rfl ?_
    refine h_act (post := fun v => [Vec 5 1 encB v L3, WtT g L3, cell gx 34 #[.int .i64 x.e.k, .int .u64 x.e.t, .int .u64 x.e.i, x.v, .int .i64 x.e.c]]) rfl (a_does (os' := fun v => [Vec 5 1 encB v L3, WtT g L3, cell gx 34 #[.int .i64 x.e.k, .int .u64 x.e.t, .int .u64 x.e.i, x.v, .int .i64 x.e.c]]) [0] 0 (ent_of Tryz.func145 (by kernel_rfl) rfl) (wt_bytes g L3 (by omega)) rfl rfl rfl (fun _ => rfl) rfl rfl rfl) ?_; rintro v
    refine h_q hflS rfl ?_
    refine h_done (d_ret ?_)
    exact f_fin2 (.tmp rfl) (.tmp rfl) (fun w h => tells v rfl [0] rfl h (fun z hz => ⟨z, .refl _, by rw [hL3]; exact hz⟩)) rfl

end Go.Proofs.YtaipejaeeohpkaaGreatDoor.Sep

namespace Go.Proofs.YtaipejaeeohpkaaGreatDoor.Sep
open Go.RowKit
open Go.Proofs.YtaipejaeeohpkaaGreatDoor.Mem (Dist Blk Chg)
section
variable {P : Program} {t e ty : TypeId} {k : Nat} {α : Type} {enc : α → List Value} {v u : Value} {l m : List α} {w w' : World} {rs : List RowT}
theorem run_appendK {nb : Nat} (hT : SliceT P t e k) (hb : (P.info? e).map (fun i => i.bytes) = some nb) (hb1 : 1 ≤ nb) (he : EncOf k enc) (h : Vec e k enc v l rs) (hr : RowsOf w rs) (hd : Dist rs) (hu : SlRd w k u m.length (flat enc m)) (hlen : (l.length + m.length) * nb ≤ 140737488355328) :
    ∃ v' w', (Builtin.append_ #[t, t] ty #[v, u]).run P w = .ok v' w' ∧ ∃ rs', Vec e k enc v' (l ++ m) rs' ∧ Chg w w' rs rs' := by
  obtain ⟨i, z, hi, hz, hk, hby, hzs, _⟩ := hT.inf
  have hbn : i.bytes = nb := by simpa [hi] using hb
  have hl1 : l.length + m.length ≤ 140737488355328 := Nat.le_trans (Nat.le_mul_of_pos_right _ hb1) hlen
  obtain ⟨hul, A, c, rfl, hA⟩ := hu
  have hu1 := flat_one he m
  rcases hA with ⟨rfl, hm⟩ | ⟨a, rfl, hcells⟩
  · have hm' : m = [] := List.length_eq_zero_iff.1 hm
    subst hm'
    refine ⟨v, w, ?_, rs, by simpa using h, ⟨Mod.refl _ _, hr, hd, fun x hx _ => ⟨x, hx, rfl⟩⟩⟩
    rcases h with ⟨h1, h2, h3⟩ | ⟨g, c', cs, h1, h2, h3, h4, h5, h6⟩
    · subst h1
      simp [Builtin.append_, run_underlying hT.ht, sizeOf, typeInfo, hi, Builtin.lenOf, Builtin.firstCells]
    · subst h1
      simp [Builtin.append_, run_underlying hT.ht, sizeOf, typeInfo, hi, Builtin.lenOf, Builtin.firstCells, h2, storeCells]
  · have hown : w.ownsRow 0 e k v l.length (flat enc l) := by
      refine ⟨flat_len he l, ?_⟩
      rcases h with ⟨h1, h2, h3⟩ | ⟨g, c', cs, h1, h2, h3, h4, h5, h6⟩
      · exact .inl ⟨h1, by rw [h2]; rfl⟩
      · subst h6
        exact .inr ⟨g, c', cs, h1, Nat.zero_le _, hr.1, h2, h3, h4, h5⟩
    obtain ⟨v', w', hrun, h2, h3, _, h5⟩ := run_append_own_at (P := P) w 0 t ty e i z k i.bytes hT.ht hi hz hk rfl hzs hT.pos v l.length (flat enc l) hown a m.length c (flat enc m) hul hcells hu1 (by unfold maxLen; omega)
      (by rw [hbn]; omega) (Nat.zero_le _)
    refine ⟨v', w', hrun, ?_⟩
    have hm : Mod (At v) w w' := Mod.of_grown h3 (fun k hk => hk)
    have hmB : Mod (Blk rs) w w' := hm.weaken fun j _ hj => by
      rcases h with ⟨h1, _, _⟩ | ⟨g, c', cs, h1, _, _, _, _, h6⟩
      · subst h1; unfold At at hj; simp [Value.ownBlock] at hj
      · subst h1; subst h6
        unfold At at hj
        simp [Value.ownBlock] at hj
        exact ⟨(g, tyR e, cs), by simp, hj⟩
    rcases h2.2 with ⟨h1, hn⟩ | ⟨g, c', cs, h1, _, hrow, hle, hmx, hsz, htk⟩
    · have : l ++ m = [] := List.length_eq_zero_iff.1 (by rw [List.length_append]; exact hn)
      exact ⟨[], .inl ⟨h1, this, rfl⟩, ⟨hmB, trivial, trivial, fun x hx => by simp at hx⟩⟩
    · refine ⟨[(g, tyR e, cs)], .inr ⟨g, c', cs, by rw [h1, List.length_append], by rw [List.length_append]; exact hle, hmx, hsz, by rw [List.length_append, flat_app]; exact htk, rfl⟩, ⟨hmB, ⟨hrow, trivial⟩, ⟨(fun _ h => by cases h), trivial⟩, fun x hx hlt => ?_⟩⟩
      have : x = (g, tyR e, cs) := by simpa using hx
      subst this
      rcases h5 with h5 | h5
      · subst h1
        rcases h with ⟨h1, _, _⟩ | ⟨g', c'', cs', h1, _, _, _, _, h6⟩
        · subst h1; simp [Value.ownBlock] at h5
        · subst h1; subst h6
          simp [Value.ownBlock] at h5
          exact ⟨(g', tyR e, cs'), by simp, h5.symm⟩
      · subst h1
        simp [Value.ownBlock] at h5
        exact absurd hlt (by show ¬ g < w.heap.size; omega)
variable {Q : Exit → Act → World → Prop} {n : Nat} {B : Nat → Prop} {w0 : World} {os : List Ass} {env : List (Nat × Value)} {o : Oper}
theorem a_appendK {nb : Nat} (i : Nat) (hT : SliceT P t e k) (he : EncOf k enc) (hb : (P.info? e).map (fun i => i.bytes) = some nb) (hb1 : 1 ≤ nb) (hi : os[i]? = some (Vec e k enc v l)) (m : List α) (hu : ∀ w, Hp B w0 w os → SlRd w k u m.length (flat enc m)) (hlen : (l.length + m.length) * nb ≤ 140737488355328) {x y : Operand} (ho : o.op = .call { callee := .builtin .append, args := #[x, y], argTypes := #[t, t] }) (hx : evs env x = some v) (hy : evs env y = some u) {r : List α} (hr : l ++ m = r) :
    Acts P Q n env B w0 os o (fun v : Value => v) (fun v' => os.set i (Vec e k enc v' r)) := fun act w hH hF K hK => by
  subst hr
  have hH' := hH
  obtain ⟨rs0, hp, hm⟩ := hH
  obtain ⟨a, z, b, e1, hz, hbb⟩ := hp.at_ hi
  subst e1
  have p : (a ++ (z ++ b)).Perm (z ++ (a ++ b)) := by rw [← List.append_assoc, ← List.append_assoc]; exact List.perm_append_comm.append_right b
  have h5 := hp_perm hm p
  have hd := dist_iff.1 h5.apart
  rw [List.map_append] at hd
  obtain ⟨v', w', hr, y', hy', hc⟩ := run_appendK (P := P) (ty := o.type) hT hb hb1 he hz (rows_iff.2 fun z hz => h5.rows.mem z (by simp [hz])) (dist_iff.2 (List.nodup_append.1 hd).1) (hu w hH') hlen
  have p' : (y' ++ (a ++ b)).Perm (a ++ (y' ++ b)) := by rw [← List.append_assoc, ← List.append_assoc]; exact List.perm_append_comm.append_right b
  refine a_val (w0 := w) act (exec_bi ho (vs := [v, u]) (by simp [evl, hx, hy]) (fun cs => ?_) hF) (hK v' w' ⟨_, hbb _ y' hy', hp_perm (hp_chg h5 hc) p'⟩)
  simp only [builtin, Sem.run_bind, Sem.run_pure, Result.andThen_ok, hr]
end
end Go.Proofs.YtaipejaeeohpkaaGreatDoor.Sep

namespace Go.Proofs.YtaipejaeeohpkaaGreatDoor.Sep
open Go.RowKit
open Go.Proofs.YtaipejaeeohpkaaGreatDoor.Mem (Dist Blk Chg)
theorem fold_set : ∀ (ys : List Value) (n : Nat) (cs : Array Value), n + ys.length ≤ cs.size →
    ((ys.zipIdx n).foldl (fun (cs : Array Value) (p : Value × Nat) => cs.setIfInBounds p.2 p.1) cs).toList = cs.toList.take n ++ ys ++ cs.toList.drop (n + ys.length)
  | [], n, cs, _ => by simp
  | y :: ys, n, cs, h => by
    have hl : (y :: ys).length = ys.length + 1 := rfl
    have hn : n < cs.toList.length := by rw [Array.length_toList]; omega
    rw [List.zipIdx_cons, List.foldl_cons, fold_set ys (n + 1) _ (by rw [Array.size_setIfInBounds]; omega), Array.toList_setIfInBounds]
    have e1 : (cs.toList.set n y).take (n + 1) = cs.toList.take n ++ [y] := by
      rw [List.set_eq_take_append_cons_drop, if_pos hn, List.take_append, List.length_take, Nat.min_eq_left (by omega), List.take_of_length_le (by rw [List.length_take]; omega), show n + 1 - n = 1 by omega]
      rfl
    have e2 : (cs.toList.set n y).drop (n + 1 + ys.length) = cs.toList.drop (n + (ys.length + 1)) := by
      rw [List.drop_set, if_pos (by omega)]
      congr 1
      omega
    rw [e1, e2, hl]
    simp
variable {P : Program} {Q : Exit → Act → World → Prop} {n : Nat} {B : Nat → Prop} {w0 : World} {os : List Ass} {env : List (Nat × Value)} {o : Oper}
variable {t e : TypeId} {k : Nat} {α : Type} {enc : α → List Value}
theorem fill_one {v : Value} {cells : Array Value} (h : v.cells.size = cells.size) (hk : v.cells.size = k) : Instr.fill (fun i => some (i * k, k)) cells [(0, v)] = some v.cells := by
  have h1 : ¬ ((v.cells.size ≠ k || 0 * k + v.cells.size > cells.size) = true) := by simp [hk]; omega
  have h2 : (v.cells.zipIdx.foldl (fun (cs : Array Value) (p : Value × Nat) => cs.setIfInBounds (0 * k + p.2) p.1) cells) = v.cells := by
    have hf : (fun (cs : Array Value) (p : Value × Nat) => cs.setIfInBounds (0 * k + p.2) p.1) = fun cs p => cs.setIfInBounds p.2 p.1 := by
      funext cs p
      rw [Nat.zero_mul, Nat.zero_add]
    rw [hf, ← Array.foldl_toList, Array.toList_zipIdx]
    apply Array.toList_inj.1
    rw [fold_set _ 0 _ (by rw [Array.length_toList]; omega), Array.length_toList]
    simp [h]
  unfold Instr.fill
  simp only
  rw [if_neg h1]
  exact congrArg some h2
theorem run_buildK (hT : SliceT P t e k) (hk : k ≤ 4096) {x : Value} (hx : x.cells.size = k) (w : World) : (Instr.buildSlice t 1 #[(0, x)]).run P w = .ok (.slice (some ⟨w.heap.size, 0, none⟩) 1 1) (w.alloc (.cells x.cells e)) := by
  obtain ⟨inf, z, hinf, hz, hsz, _, hzs, _⟩ := hT.inf
  have hp := hT.pos
  have hf : Instr.fill (fun i => some (i * k, k)) ((Array.range k).map (fun j => z.cells[j % z.cells.size]!)) [(0, x)] = some x.cells := fill_one (by simp [hx]) hx
  have h1 : ¬ 1 * k > 2 ^ 24 := by omega
  have h2 : ¬ 1 * k = 0 := by omega
  simp only [Instr.buildSlice, run_underlying hT.ht, hT.sizeOf, Sem.run_bind, Sem.run_pure, Result.andThen_ok, if_neg h1, if_neg h2, zeroValue, typeInfo, hinf, hz]
  simp [newRow, zeroValue, typeInfo, hinf, hz, h1, h2]
  rw [hf]
  simp
theorem a_buildK (hT : SliceT P t e k) (hk : k ≤ 4096) (he : EncOf k enc) {x : Operand} {c : Value} (a : α) (hc : c.cells.toList = enc a) (ho : o.op = .buildSlice t 1 #[(0, x)]) (hx : evs env x = some c) : Acts P Q n env B w0 os o (fun v : Value => v) (fun v => Vec e k enc v [a] :: os) := fun b w hH hF K hK => by
  have hsz : c.cells.size = k := by rw [← he.len a, ← hc, Array.length_toList]
  have hrun : (execOp b.eval o).run P w = .ok (.value (.slice (some ⟨w.heap.size, 0, none⟩) 1 1)) (w.alloc (.cells c.cells e)) := by
    unfold execOp
    simp [ho, hF.evs hx, Sem.run_bind, run_buildK hT hk hsz]
  refine a_val (w0 := w) b hrun (hK _ _ ?_)
  have := hH.new e c.cells
  obtain ⟨rs, ⟨r1, r2, e1, h1, h2⟩, h3⟩ := this
  unfold cell at h1
  exact ⟨rs, ⟨r1, r2, e1, .inr ⟨w.heap.size, 1, c.cells, rfl, Nat.le_refl _, by unfold maxLen; omega, by simp [hsz], by rw [hc]; simp only [flat, List.flatMap_cons, List.flatMap_nil, List.append_nil, List.length_cons, List.length_nil, Nat.zero_add, Nat.one_mul]; exact List.take_of_length_le (by rw [he.len]; exact Nat.le_refl _), h1⟩, h2⟩, h3⟩
end Go.Proofs.YtaipejaeeohpkaaGreatDoor.Sep

namespace Go.Proofs.YtaipejaeeohpkaaGreatDoor.Sep
open Go.RowKit
open Go.Proofs.YtaipejaeeohpkaaGreatDoor.Mem (Dist Blk Chg below0)

section
variable {P : Program} {ops : Array Oper} {Q : Exit → Act → World → Prop} {n : Nat} {env : List (Nat × Value)} {B : Nat → Prop} {w0 : World} {os : List Ass} {t : Ass}
theorem new_thing (h : t []) : ∀ rs, Parts os rs → ∃ _ : Unit, ∃ rs', rs.Perm rs' ∧ Parts (t :: os) rs' := fun rs hr => ⟨(), rs, .refl _, [], rs, rfl, h, hr⟩
theorem d_new (h0 : t []) {c : Code} (h : WC2 P Q n env B w0 (t :: os) c) : WC2 P Q n env B w0 os c := WC2.via (fun _ : Unit => _) (new_thing h0) fun _ => h
theorem fact_add {xs : List Ass} {p : Prop} (hp : p) {z : List RowT} (h : Parts xs z) : Parts (xs ++ [fact p]) z := by
  have := Parts.app h (show Parts [fact p] [] from ⟨[], [], rfl, ⟨rfl, hp⟩, rfl⟩)
  rwa [List.append_nil] at this
end
/-- entries and where they lie -/
structure EsV where
  v : Value
  l : List EntV

set_option maxRecDepth 100000 in
theorem reade_does (u : World) (v : Value) (l : List UInt8) (hv : Sl8 u v l) (hl : l.length ≤ 140737488355328) (e : EntD) (en : Nat) (hD : decE l = (e, en)) : DoesU u Tryz.prog 137 #[v] [] (fun (x : SlV) => .tuple #[.agg #[.int .i64 e.k, .int .u64 e.t, .int .u64 e.i, .slice x.A e.d.length x.c, .int .i64 e.c], .int .i64 (en : Int)]) (fun (x : SlV) => [Vec 5 1 encB (.slice x.A e.d.length x.c) e.d]) := by
  obtain ⟨⟨n0, l0, f0⟩, h0⟩ : ∃ R, rbyte 2 l 0 = R := ⟨_, rfl⟩
  obtain ⟨⟨n1, l1, f1⟩, h1⟩ : ∃ R, rnum 72057594037927935 l0 f0 = R := ⟨_, rfl⟩
  obtain ⟨⟨n2, l2, f2⟩, h2⟩ : ∃ R, rnum 72057594037927935 l1 f1 = R := ⟨_, rfl⟩
  have hn0 := rbyte_le 2 l 0
  rw [h0] at hn0
  have hn0 : n0 ≤ 2 := hn0
  refine d_insU (args := [v]) 47 Tryz.func137 rfl rfl rfl ?_; intro w rs hU hS
  refine d_reg ?_
  refine h_q hflS rfl ?_
  refine h_act (post := fun g2 => [cell g2 34 #[.int .i64 0, .int .u64 0, .int .u64 0, .slice none 0 0, .int .i64 0]]) rfl (a_alloc ze_api_Entry rfl) ?_; rintro g2
  refine h_q hflS rfl ?_
  refine h_done (d_seq ?_)
  by_cases h16 : 160 < l.length
  · skip
    obtain ⟨rfl, rfl⟩ := decE_is (decE_long h16) hD
    refine d_reg ?_
    refine h_q hflS rfl ?_
    refine h_val rfl (.int .i64 (l.length : Int)) (fun b w hb hH => e_slen ((arg8 hv hU hS hH).rd) Tryz.underlying30 rfl rfl hb) ?_
    refine h_val rfl (.bool true) (fun b w hb hH => exec_cmp rfl rfl rfl (cmp_gtr_t (by omega)) hb) ?_
    refine h_done (d_then rfl ?_)
    refine d_nilvec 5 1 encB ?_
    refine d_reg ?_
    refine h_q hflS rfl ?_
    refine h_val rfl (.agg #[.int .i64 0, .int .u64 0, .int .u64 0, .slice none 0 0, .int .i64 0]) (fun b w hb hH => exec_build rfl rfl (by kernel_rfl) hb) ?_
    refine h_acts (post := fun _ => [Vec 5 1 encB (.slice none 0 0) ([]), cell g2 34 #[.int .i64 0, .int .u64 0, .int .u64 0, .slice none 0 0, .int .i64 0]]) rfl rfl (a_store 1 (v := .agg #[.int .i64 0, .int .u64 0, .int .u64 0, .slice none 0 0, .int .i64 0]) #[.int .i64 0, .int .u64 0, .int .u64 0, .slice none 0 0, .int .i64 0] ty_api_Entry.2 rfl rfl rfl rfl rfl rfl rfl rfl rfl) ?_; rintro ⟨⟩
    refine h_q hflS rfl ?_
    refine h_done (d_ret (f_then_ret ?_))
    exact f_fin2 (.cell 1 (v := .agg #[.int .i64 0, .int .u64 0, .int .u64 0, .slice none 0 0, .int .i64 0]) (reads_agg (cs := [.int .i64 0, .int .u64 0, .int .u64 0, .slice none 0 0, .int .i64 0]) ty_api_Entry rfl) rfl rfl) (.tmp rfl) (fun w h => tells (⟨none, 0⟩) rfl [0] rfl h same_parts) rfl
  · skip
    refine d_reg ?_
    refine h_q hflS rfl ?_
    refine h_val rfl (.int .i64 (l.length : Int)) (fun b w hb hH => e_slen ((arg8 hv hU hS hH).rd) Tryz.underlying30 rfl rfl hb) ?_
    refine h_val rfl (.bool false) (fun b w hb hH => exec_cmp rfl rfl rfl (cmp_gtr_f (by omega)) hb) ?_
    refine h_done (d_else rfl (d_skip (f_to (d_reg ?_))))
    refine h_q hflS rfl ?_
    refine h_act (post := fun g => [RdT g l 0, cell g2 34 #[.int .i64 0, .int .u64 0, .int .u64 0, .slice none 0 0, .int .i64 0]]) rfl (a_doesU hU hS (os' := fun g => [RdT g l 0, cell g2 34 #[.int .i64 0, .int .u64 0, .int .u64 0, .slice none 0 0, .int .i64 0]]) [] 0 (ent_of Tryz.func166 (by kernel_rfl) rfl) (rd_new u v l hv hl) rfl rfl rfl (fun _ => rfl) rfl rfl rfl) ?_; rintro g
    refine h_q hflS rfl ?_
    refine h_done (d_reg ?_)
    refine h_q hflS rfl ?_
    refine h_act (post := fun g5 => [cell g5 34 #[.int .i64 0, .int .u64 0, .int .u64 0, .slice none 0 0, .int .i64 0], RdT g l 0, cell g2 34 #[.int .i64 0, .int .u64 0, .int .u64 0, .slice none 0 0, .int .i64 0]]) rfl (a_alloc ze_api_Entry rfl) ?_; rintro g5
    refine h_done (d_reg ?_)
    refine h_q hflS rfl ?_
    refine h_act (post := fun _ => [cell g5 34 #[.int .i64 0, .int .u64 0, .int .u64 0, .slice none 0 0, .int .i64 0], RdT g l0 f0, cell g2 34 #[.int .i64 0, .int .u64 0, .int .u64 0, .slice none 0 0, .int .i64 0]]) rfl (a_does (os' := fun _ => [cell g5 34 #[.int .i64 0, .int .u64 0, .int .u64 0, .slice none 0 0, .int .i64 0], RdT g l0 f0, cell g2 34 #[.int .i64 0, .int .u64 0, .int .u64 0, .slice none 0 0, .int .i64 0]]) [1] 0 (ent_of Tryz.func167 (by kernel_rfl) rfl) (rd_byte g l 0 2 (by decide) (n0, l0, f0) h0) rfl rfl rfl (fun _ => rfl) rfl rfl rfl) ?_; rintro ⟨⟩
    refine h_val rfl (.int .i64 (n0 : Int)) (fun b w hb hH => exec_conv Tryz.underlying5 Tryz.underlying3 (IntWalk.i64_in _ (by omega)) rfl rfl hb) ?_
    refine h_q hflS rfl ?_
    refine h_acts (post := fun _ => [cell g5 34 #[.int .i64 (n0 : Int), .int .u64 0, .int .u64 0, .slice none 0 0, .int .i64 0], RdT g l0 f0, cell g2 34 #[.int .i64 0, .int .u64 0, .int .u64 0, .slice none 0 0, .int .i64 0]]) rfl rfl (a_store 0 (v := .int .i64 (n0 : Int)) #[.int .i64 (n0 : Int), .int .u64 0, .int .u64 0, .slice none 0 0, .int .i64 0] ty_int.2 rfl rfl rfl rfl rfl rfl rfl rfl rfl) ?_; rintro ⟨⟩
    refine h_done (d_reg ?_)
    refine h_q hflS rfl ?_
    refine h_act (post := fun _ => [cell g5 34 #[.int .i64 (n0 : Int), .int .u64 0, .int .u64 0, .slice none 0 0, .int .i64 0], RdT g l1 f1, cell g2 34 #[.int .i64 0, .int .u64 0, .int .u64 0, .slice none 0 0, .int .i64 0]]) rfl (a_does (os' := fun _ => [cell g5 34 #[.int .i64 (n0 : Int), .int .u64 0, .int .u64 0, .slice none 0 0, .int .i64 0], RdT g l1 f1, cell g2 34 #[.int .i64 0, .int .u64 0, .int .u64 0, .slice none 0 0, .int .i64 0]]) [1] 0 (ent_of Tryz.func168 (by kernel_rfl) rfl) (rd_num g l0 f0 72057594037927935 (by decide) (n1, l1, f1) h1) rfl rfl rfl (fun _ => rfl) rfl rfl rfl) ?_; rintro ⟨⟩
    refine h_q hflS rfl ?_
    refine h_acts (post := fun _ => [cell g5 34 #[.int .i64 (n0 : Int), .int .u64 (n1 : Int), .int .u64 0, .slice none 0 0, .int .i64 0], RdT g l1 f1, cell g2 34 #[.int .i64 0, .int .u64 0, .int .u64 0, .slice none 0 0, .int .i64 0]]) rfl rfl (a_store 0 (v := .int .u64 (n1 : Int)) #[.int .i64 (n0 : Int), .int .u64 (n1 : Int), .int .u64 0, .slice none 0 0, .int .i64 0] ty_uint64.2 rfl rfl rfl rfl rfl rfl rfl rfl rfl) ?_; rintro ⟨⟩
    refine h_done (d_reg ?_)
    refine h_q hflS rfl ?_
    refine h_act (post := fun _ => [cell g5 34 #[.int .i64 (n0 : Int), .int .u64 (n1 : Int), .int .u64 0, .slice none 0 0, .int .i64 0], RdT g l2 f2, cell g2 34 #[.int .i64 0, .int .u64 0, .int .u64 0, .slice none 0 0, .int .i64 0]]) rfl (a_does (os' := fun _ => [cell g5 34 #[.int .i64 (n0 : Int), .int .u64 (n1 : Int), .int .u64 0, .slice none 0 0, .int .i64 0], RdT g l2 f2, cell g2 34 #[.int .i64 0, .int .u64 0, .int .u64 0, .slice none 0 0, .int .i64 0]]) [1] 0 (ent_of Tryz.func168 (by kernel_rfl) rfl) (rd_num g l1 f1 72057594037927935 (by decide) (n2, l2, f2) h2) rfl rfl rfl (fun _ => rfl) rfl rfl rfl) ?_; rintro ⟨⟩
    refine h_q hflS rfl ?_
    refine h_acts (post := fun _ => [cell g5 34 #[.int .i64 (n0 : Int), .int .u64 (n1 : Int), .int .u64 (n2 : Int), .slice none 0 0, .int .i64 0], RdT g l2 f2, cell g2 34 #[.int .i64 0, .int .u64 0, .int .u64 0, .slice none 0 0, .int .i64 0]]) rfl rfl (a_store 0 (v := .int .u64 (n2 : Int)) #[.int .i64 (n0 : Int), .int .u64 (n1 : Int), .int .u64 (n2 : Int), .slice none 0 0, .int .i64 0] ty_uint64.2 rfl rfl rfl rfl rfl rfl rfl rfl rfl) ?_; rintro ⟨⟩
    refine h_done (d_seq (d_reg ?_))
    refine h_q hflS rfl ?_
    refine h_val rfl (.int .i64 (n0 : Int)) (fun b w hb hH => exec_load rfl rfl (reads_one ty_int rfl) (hH.row 0 rfl) hb) ?_
    refine h_done (d_block ?_)
    have hk : n0 = 1 ∨ n0 = 2 ∨ (n0 ≠ 1 ∧ n0 ≠ 2) := by omega
    rcases hk with hk | hk | ⟨hk, hk2⟩
    · skip
      obtain ⟨⟨x, l3, f3⟩, ht⟩ : ∃ R, rtext 128 l2 f2 = R := ⟨_, rfl⟩
      have h3 : rtail n0 l2 f2 = ((x, 0), l3, f3) := by rw [hk]; exact rtail_one ht
      have hread := readE_of h0 h1 h2 h3
      refine d_reg ?_
      refine h_q hflS rfl ?_
      refine h_val rfl (.bool true) (fun b w hb hH => exec_cmp rfl rfl rfl (cmp_eql_t (by omega)) hb) ?_
      refine h_q hflS rfl ?_
      refine h_done (d_then rfl (d_reg1 ?_))
      refine h_q hflS rfl ?_
      refine h_act (post := fun v9 => [Vec 5 1 encB v9 x, cell g5 34 #[.int .i64 (n0 : Int), .int .u64 (n1 : Int), .int .u64 (n2 : Int), .slice none 0 0, .int .i64 0], RdT g l3 f3, cell g2 34 #[.int .i64 0, .int .u64 0, .int .u64 0, .slice none 0 0, .int .i64 0]]) rfl (a_does (os' := fun v9 => [Vec 5 1 encB v9 x, cell g5 34 #[.int .i64 (n0 : Int), .int .u64 (n1 : Int), .int .u64 (n2 : Int), .slice none 0 0, .int .i64 0], RdT g l3 f3, cell g2 34 #[.int .i64 0, .int .u64 0, .int .u64 0, .slice none 0 0, .int .i64 0]]) [1] 0 (ent_of Tryz.func169 (by kernel_rfl) rfl) (rd_text g l2 f2 128 (by decide) (x, l3, f3) ht) rfl rfl rfl (fun _ => rfl) rfl rfl rfl) ?_; rintro v9
      refine WL2.fact 0 rfl (fun _ h => Vec.is h) ?_; rintro ⟨A9, c9, rfl⟩
      refine h_q hflS rfl ?_
      refine h_acts (post := fun _ => [Vec 5 1 encB (.slice A9 x.length c9) x, cell g5 34 #[.int .i64 (n0 : Int), .int .u64 (n1 : Int), .int .u64 (n2 : Int), .slice A9 x.length c9, .int .i64 0], RdT g l3 f3, cell g2 34 #[.int .i64 0, .int .u64 0, .int .u64 0, .slice none 0 0, .int .i64 0]]) rfl rfl (a_store 1 (v := .slice A9 x.length c9) #[.int .i64 (n0 : Int), .int .u64 (n1 : Int), .int .u64 (n2 : Int), .slice A9 x.length c9, .int .i64 0] ty_s_uint8.2 rfl rfl rfl rfl rfl rfl rfl rfl rfl) ?_; rintro ⟨⟩
      refine h_nil (f_block (f_to (d_seq ?_)))
      by_cases hf : rend l3 f3 = 0
      · skip
        refine d_reg ?_
        refine h_q hflS rfl ?_
        refine h_act (post := fun _ => [Vec 5 1 encB (.slice A9 x.length c9) x, cell g5 34 #[.int .i64 (n0 : Int), .int .u64 (n1 : Int), .int .u64 (n2 : Int), .slice A9 x.length c9, .int .i64 0], RdT g l3 f3, cell g2 34 #[.int .i64 0, .int .u64 0, .int .u64 0, .slice none 0 0, .int .i64 0]]) rfl (a_does (os' := fun _ => [Vec 5 1 encB (.slice A9 x.length c9) x, cell g5 34 #[.int .i64 (n0 : Int), .int .u64 (n1 : Int), .int .u64 (n2 : Int), .slice A9 x.length c9, .int .i64 0], RdT g l3 f3, cell g2 34 #[.int .i64 0, .int .u64 0, .int .u64 0, .slice none 0 0, .int .i64 0]]) [2] 0 (ent_of Tryz.func170 (by kernel_rfl) rfl) (rd_end g l3 f3 0 hf) rfl rfl rfl (fun _ => rfl) rfl rfl rfl) ?_; rintro ⟨⟩
        refine h_q hflS rfl ?_
        refine h_done (d_reg ?_)
        refine h_q hflS rfl ?_
        refine h_val rfl (.bool false) (fun b w hb hH => exec_cmp rfl rfl rfl (cmp_neq_f rfl) hb) ?_
        refine h_done (d_else rfl (d_skip (f_to (d_seq ?_))))
        rcases Bool.eq_false_or_eq_true (rightE (⟨(n0 : Int), (n1 : Int), (n2 : Int), x, ((0 : Nat) : Int)⟩ : EntD)) with hR | hR
        · skip
          obtain ⟨rfl, rfl⟩ := decE_is (decE_right h16 hread hf hR) hD
          refine d_reg ?_
          refine h_q hflS rfl ?_
          refine h_val rfl (.agg #[.int .i64 (n0 : Int), .int .u64 (n1 : Int), .int .u64 (n2 : Int), .slice A9 x.length c9, .int .i64 0]) (fun b w hb hH => exec_load rfl rfl (reads_agg (cs := [.int .i64 (n0 : Int), .int .u64 (n1 : Int), .int .u64 (n2 : Int), .slice A9 x.length c9, .int .i64 0]) ty_api_Entry rfl) (hH.row 1 rfl) hb) ?_
          refine h_act (post := fun _ => [Vec 5 1 encB (.slice A9 x.length c9) x, cell g5 34 #[.int .i64 (n0 : Int), .int .u64 (n1 : Int), .int .u64 (n2 : Int), .slice A9 x.length c9, .int .i64 0], RdT g l3 f3, cell g2 34 #[.int .i64 0, .int .u64 0, .int .u64 0, .slice none 0 0, .int .i64 0]]) rfl (a_call (ent_of Tryz.func44 (by kernel_rfl) rfl) (fun w hH => rightE_any w ⟨(⟨(n0 : Int), (n1 : Int), (n2 : Int), x, ((0 : Nat) : Int)⟩ : EntD), A9, c9⟩ (hH.sl8 0 rfl) true hR) rfl rfl rfl) ?_; rintro ⟨⟩
          refine h_q hflS rfl ?_
          refine h_done (d_else rfl (d_skip (f_to (d_reg ?_))))
          refine h_q hflS rfl ?_
          refine h_val rfl (.agg #[.int .i64 (n0 : Int), .int .u64 (n1 : Int), .int .u64 (n2 : Int), .slice A9 x.length c9, .int .i64 0]) (fun b w hb hH => exec_load rfl rfl (reads_agg (cs := [.int .i64 (n0 : Int), .int .u64 (n1 : Int), .int .u64 (n2 : Int), .slice A9 x.length c9, .int .i64 0]) ty_api_Entry rfl) (hH.row 1 rfl) hb) ?_
          refine h_acts (post := fun _ => [Vec 5 1 encB (.slice A9 x.length c9) x, cell g5 34 #[.int .i64 (n0 : Int), .int .u64 (n1 : Int), .int .u64 (n2 : Int), .slice A9 x.length c9, .int .i64 0], RdT g l3 f3, cell g2 34 #[.int .i64 (n0 : Int), .int .u64 (n1 : Int), .int .u64 (n2 : Int), .slice A9 x.length c9, .int .i64 0]]) rfl rfl (a_store 3 (v := .agg #[.int .i64 (n0 : Int), .int .u64 (n1 : Int), .int .u64 (n2 : Int), .slice A9 x.length c9, .int .i64 0]) #[.int .i64 (n0 : Int), .int .u64 (n1 : Int), .int .u64 (n2 : Int), .slice A9 x.length c9, .int .i64 0] ty_api_Entry.2 rfl rfl rfl rfl rfl rfl rfl rfl rfl) ?_; rintro ⟨⟩
          refine h_q hflS rfl ?_
          refine h_done (d_ret ?_)
          exact f_fin2 (.cell 3 (v := .agg #[.int .i64 (n0 : Int), .int .u64 (n1 : Int), .int .u64 (n2 : Int), .slice A9 x.length c9, .int .i64 0]) (reads_agg (cs := [.int .i64 (n0 : Int), .int .u64 (n1 : Int), .int .u64 (n2 : Int), .slice A9 x.length c9, .int .i64 0]) ty_api_Entry rfl) rfl rfl) (.tmp rfl) (fun w h => tells (⟨A9, c9⟩) rfl [0] rfl h same_parts) rfl
        · skip
          obtain ⟨rfl, rfl⟩ := decE_is (decE_wrong h16 hread hf hR) hD
          refine d_reg ?_
          refine h_q hflS rfl ?_
          refine h_val rfl (.agg #[.int .i64 (n0 : Int), .int .u64 (n1 : Int), .int .u64 (n2 : Int), .slice A9 x.length c9, .int .i64 0]) (fun b w hb hH => exec_load rfl rfl (reads_agg (cs := [.int .i64 (n0 : Int), .int .u64 (n1 : Int), .int .u64 (n2 : Int), .slice A9 x.length c9, .int .i64 0]) ty_api_Entry rfl) (hH.row 1 rfl) hb) ?_
          refine h_act (post := fun _ => [Vec 5 1 encB (.slice A9 x.length c9) x, cell g5 34 #[.int .i64 (n0 : Int), .int .u64 (n1 : Int), .int .u64 (n2 : Int), .slice A9 x.length c9, .int .i64 0], RdT g l3 f3, cell g2 34 #[.int .i64 0, .int .u64 0, .int .u64 0, .slice none 0 0, .int .i64 0]]) rfl (a_call (ent_of Tryz.func44 (by kernel_rfl) rfl) (fun w hH => rightE_any w ⟨(⟨(n0 : Int), (n1 : Int), (n2 : Int), x, ((0 : Nat) : Int)⟩ : EntD), A9, c9⟩ (hH.sl8 0 rfl) false hR) rfl rfl rfl) ?_; rintro ⟨⟩
          refine h_q hflS rfl ?_
          refine h_done (d_then rfl ?_)
          refine d_nilvec 5 1 encB ?_
          refine d_reg ?_
          refine h_q hflS rfl ?_
          refine h_val rfl (.agg #[.int .i64 0, .int .u64 0, .int .u64 0, .slice none 0 0, .int .i64 0]) (fun b w hb hH => exec_build rfl rfl (by kernel_rfl) hb) ?_
          refine h_acts (post := fun _ => [Vec 5 1 encB (.slice none 0 0) ([]), Vec 5 1 encB (.slice A9 x.length c9) x, cell g5 34 #[.int .i64 (n0 : Int), .int .u64 (n1 : Int), .int .u64 (n2 : Int), .slice A9 x.length c9, .int .i64 0], RdT g l3 f3, cell g2 34 #[.int .i64 0, .int .u64 0, .int .u64 0, .slice none 0 0, .int .i64 0]]) rfl rfl (a_store 4 (v := .agg #[.int .i64 0, .int .u64 0, .int .u64 0, .slice none 0 0, .int .i64 0]) #[.int .i64 0, .int .u64 0, .int .u64 0, .slice none 0 0, .int .i64 0] ty_api_Entry.2 rfl rfl rfl rfl rfl rfl rfl rfl rfl) ?_; rintro ⟨⟩
          refine h_q hflS rfl ?_
          refine h_done (d_ret (f_then_ret ?_))
          exact f_fin2 (.cell 4 (v := .agg #[.int .i64 0, .int .u64 0, .int .u64 0, .slice none 0 0, .int .i64 0]) (reads_agg (cs := [.int .i64 0, .int .u64 0, .int .u64 0, .slice none 0 0, .int .i64 0]) ty_api_Entry rfl) rfl rfl) (.tmp rfl) (fun w h => tells (⟨none, 0⟩) rfl [0] rfl h same_parts) rfl
      · skip
        obtain ⟨rfl, rfl⟩ := decE_is (decE_bad h16 hread hf) hD
        refine d_reg ?_
        refine h_q hflS rfl ?_
        refine h_act (post := fun _ => [Vec 5 1 encB (.slice A9 x.length c9) x, cell g5 34 #[.int .i64 (n0 : Int), .int .u64 (n1 : Int), .int .u64 (n2 : Int), .slice A9 x.length c9, .int .i64 0], RdT g l3 f3, cell g2 34 #[.int .i64 0, .int .u64 0, .int .u64 0, .slice none 0 0, .int .i64 0]]) rfl (a_does (os' := fun _ => [Vec 5 1 encB (.slice A9 x.length c9) x, cell g5 34 #[.int .i64 (n0 : Int), .int .u64 (n1 : Int), .int .u64 (n2 : Int), .slice A9 x.length c9, .int .i64 0], RdT g l3 f3, cell g2 34 #[.int .i64 0, .int .u64 0, .int .u64 0, .slice none 0 0, .int .i64 0]]) [2] 0 (ent_of Tryz.func170 (by kernel_rfl) rfl) (rd_end g l3 f3 (rend l3 f3) rfl) rfl rfl rfl (fun _ => rfl) rfl rfl rfl) ?_; rintro ⟨⟩
        refine h_q hflS rfl ?_
        refine h_done (d_reg ?_)
        refine h_q hflS rfl ?_
        refine h_val rfl (.bool true) (fun b w hb hH => exec_cmp rfl rfl rfl (cmp_neq_t (by omega)) hb) ?_
        refine h_done (d_then rfl ?_)
        refine d_nilvec 5 1 encB ?_
        refine d_reg ?_
        refine h_q hflS rfl ?_
        refine h_val rfl (.agg #[.int .i64 0, .int .u64 0, .int .u64 0, .slice none 0 0, .int .i64 0]) (fun b w hb hH => exec_build rfl rfl (by kernel_rfl) hb) ?_
        refine h_q hflS rfl ?_
        refine h_acts (post := fun _ => [Vec 5 1 encB (.slice none 0 0) ([]), Vec 5 1 encB (.slice A9 x.length c9) x, cell g5 34 #[.int .i64 (n0 : Int), .int .u64 (n1 : Int), .int .u64 (n2 : Int), .slice A9 x.length c9, .int .i64 0], RdT g l3 f3, cell g2 34 #[.int .i64 0, .int .u64 0, .int .u64 0, .slice none 0 0, .int .i64 0]]) rfl rfl (a_store 4 (v := .agg #[.int .i64 0, .int .u64 0, .int .u64 0, .slice none 0 0, .int .i64 0]) #[.int .i64 0, .int .u64 0, .int .u64 0, .slice none 0 0, .int .i64 0] ty_api_Entry.2 rfl rfl rfl rfl rfl rfl rfl rfl rfl) ?_; rintro ⟨⟩
        refine h_q hflS rfl ?_
        refine h_done (d_ret (f_then_ret ?_))
        exact f_fin2 (.cell 4 (v := .agg #[.int .i64 0, .int .u64 0, .int .u64 0, .slice none 0 0, .int .i64 0]) (reads_agg (cs := [.int .i64 0, .int .u64 0, .int .u64 0, .slice none 0 0, .int .i64 0]) ty_api_Entry rfl) rfl rfl) (.tmp rfl) (fun w h => tells (⟨none, 0⟩) rfl [0] rfl h same_parts) rfl
    · skip
      obtain ⟨⟨c0, l3, f3⟩, ht⟩ : ∃ R, rbyte 254 l2 f2 = R := ⟨_, rfl⟩
      have hc0 := rbyte_le 254 l2 f2
      rw [ht] at hc0
      have hc0 : c0 ≤ 254 := hc0
      have h3 : rtail n0 l2 f2 = (([], c0), l3, f3) := by rw [hk]; exact rtail_two ht
      have hread := readE_of h0 h1 h2 h3
      refine d_reg ?_
      refine h_q hflS rfl ?_
      refine h_val rfl (.bool false) (fun b w hb hH => exec_cmp rfl rfl rfl (cmp_eql_f (by omega)) hb) ?_
      refine h_q hflS rfl ?_
      refine h_done (d_else rfl (d_reg ?_))
      refine h_q hflS rfl ?_
      refine h_val rfl (.bool true) (fun b w hb hH => exec_cmp rfl rfl rfl (cmp_eql_t (by omega)) hb) ?_
      refine h_q hflS rfl ?_
      refine h_done (d_then rfl (d_reg1 ?_))
      refine h_q hflS rfl ?_
      refine h_act (post := fun _ => [cell g5 34 #[.int .i64 (n0 : Int), .int .u64 (n1 : Int), .int .u64 (n2 : Int), .slice none 0 0, .int .i64 0], RdT g l3 f3, cell g2 34 #[.int .i64 0, .int .u64 0, .int .u64 0, .slice none 0 0, .int .i64 0]]) rfl (a_does (os' := fun _ => [cell g5 34 #[.int .i64 (n0 : Int), .int .u64 (n1 : Int), .int .u64 (n2 : Int), .slice none 0 0, .int .i64 0], RdT g l3 f3, cell g2 34 #[.int .i64 0, .int .u64 0, .int .u64 0, .slice none 0 0, .int .i64 0]]) [1] 0 (ent_of Tryz.func167 (by kernel_rfl) rfl) (rd_byte g l2 f2 254 (by decide) (c0, l3, f3) ht) rfl rfl rfl (fun _ => rfl) rfl rfl rfl) ?_; rintro ⟨⟩
      refine h_val rfl (.int .i64 (c0 : Int)) (fun b w hb hH => exec_conv Tryz.underlying5 Tryz.underlying3 (IntWalk.i64_in _ (by omega)) rfl rfl hb) ?_
      refine h_q hflS rfl ?_
      refine h_acts (post := fun _ => [cell g5 34 #[.int .i64 (n0 : Int), .int .u64 (n1 : Int), .int .u64 (n2 : Int), .slice none 0 0, .int .i64 (c0 : Int)], RdT g l3 f3, cell g2 34 #[.int .i64 0, .int .u64 0, .int .u64 0, .slice none 0 0, .int .i64 0]]) rfl rfl (a_store 0 (v := .int .i64 (c0 : Int)) #[.int .i64 (n0 : Int), .int .u64 (n1 : Int), .int .u64 (n2 : Int), .slice none 0 0, .int .i64 (c0 : Int)] ty_int.2 rfl rfl rfl rfl rfl rfl rfl rfl rfl) ?_; rintro ⟨⟩
      refine h_nil (f_block (f_to (d_seq ?_)))
      by_cases hf : rend l3 f3 = 0
      · skip
        refine d_reg ?_
        refine h_q hflS rfl ?_
        refine h_act (post := fun _ => [cell g5 34 #[.int .i64 (n0 : Int), .int .u64 (n1 : Int), .int .u64 (n2 : Int), .slice none 0 0, .int .i64 (c0 : Int)], RdT g l3 f3, cell g2 34 #[.int .i64 0, .int .u64 0, .int .u64 0, .slice none 0 0, .int .i64 0]]) rfl (a_does (os' := fun _ => [cell g5 34 #[.int .i64 (n0 : Int), .int .u64 (n1 : Int), .int .u64 (n2 : Int), .slice none 0 0, .int .i64 (c0 : Int)], RdT g l3 f3, cell g2 34 #[.int .i64 0, .int .u64 0, .int .u64 0, .slice none 0 0, .int .i64 0]]) [1] 0 (ent_of Tryz.func170 (by kernel_rfl) rfl) (rd_end g l3 f3 0 hf) rfl rfl rfl (fun _ => rfl) rfl rfl rfl) ?_; rintro ⟨⟩
        refine h_q hflS rfl ?_
        refine h_done (d_reg ?_)
        refine h_q hflS rfl ?_
        refine h_val rfl (.bool false) (fun b w hb hH => exec_cmp rfl rfl rfl (cmp_neq_f rfl) hb) ?_
        refine h_done (d_else rfl (d_skip (f_to (d_seq ?_))))
        rcases Bool.eq_false_or_eq_true (rightE (⟨(n0 : Int), (n1 : Int), (n2 : Int), [], (c0 : Int)⟩ : EntD)) with hR | hR
        · skip
          obtain ⟨rfl, rfl⟩ := decE_is (decE_right h16 hread hf hR) hD
          refine d_reg ?_
          refine h_q hflS rfl ?_
          refine h_val rfl (.agg #[.int .i64 (n0 : Int), .int .u64 (n1 : Int), .int .u64 (n2 : Int), .slice none 0 0, .int .i64 (c0 : Int)]) (fun b w hb hH => exec_load rfl rfl (reads_agg (cs := [.int .i64 (n0 : Int), .int .u64 (n1 : Int), .int .u64 (n2 : Int), .slice none 0 0, .int .i64 (c0 : Int)]) ty_api_Entry rfl) (hH.row 0 rfl) hb) ?_
          refine h_act (post := fun _ => [cell g5 34 #[.int .i64 (n0 : Int), .int .u64 (n1 : Int), .int .u64 (n2 : Int), .slice none 0 0, .int .i64 (c0 : Int)], RdT g l3 f3, cell g2 34 #[.int .i64 0, .int .u64 0, .int .u64 0, .slice none 0 0, .int .i64 0]]) rfl (a_call (ent_of Tryz.func44 (by kernel_rfl) rfl) (fun w hH => rightE_any w ⟨(⟨(n0 : Int), (n1 : Int), (n2 : Int), [], (c0 : Int)⟩ : EntD), none, 0⟩ (sl8_nil w) true hR) rfl rfl rfl) ?_; rintro ⟨⟩
          refine h_q hflS rfl ?_
          refine h_done (d_else rfl (d_skip (f_to ?_)))
          refine d_nilvec 5 1 encB ?_
          refine d_reg ?_
          refine h_q hflS rfl ?_
          refine h_val rfl (.agg #[.int .i64 (n0 : Int), .int .u64 (n1 : Int), .int .u64 (n2 : Int), .slice none 0 0, .int .i64 (c0 : Int)]) (fun b w hb hH => exec_load rfl rfl (reads_agg (cs := [.int .i64 (n0 : Int), .int .u64 (n1 : Int), .int .u64 (n2 : Int), .slice none 0 0, .int .i64 (c0 : Int)]) ty_api_Entry rfl) (hH.row 1 rfl) hb) ?_
          refine h_acts (post := fun _ => [Vec 5 1 encB (.slice none 0 0) ([]), cell g5 34 #[.int .i64 (n0 : Int), .int .u64 (n1 : Int), .int .u64 (n2 : Int), .slice none 0 0, .int .i64 (c0 : Int)], RdT g l3 f3, cell g2 34 #[.int .i64 (n0 : Int), .int .u64 (n1 : Int), .int .u64 (n2 : Int), .slice none 0 0, .int .i64 (c0 : Int)]]) rfl rfl (a_store 3 (v := .agg #[.int .i64 (n0 : Int), .int .u64 (n1 : Int), .int .u64 (n2 : Int), .slice none 0 0, .int .i64 (c0 : Int)]) #[.int .i64 (n0 : Int), .int .u64 (n1 : Int), .int .u64 (n2 : Int), .slice none 0 0, .int .i64 (c0 : Int)] ty_api_Entry.2 rfl rfl rfl rfl rfl rfl rfl rfl rfl) ?_; rintro ⟨⟩
          refine h_q hflS rfl ?_
          refine h_done (d_ret ?_)
          exact f_fin2 (.cell 3 (v := .agg #[.int .i64 (n0 : Int), .int .u64 (n1 : Int), .int .u64 (n2 : Int), .slice none 0 0, .int .i64 (c0 : Int)]) (reads_agg (cs := [.int .i64 (n0 : Int), .int .u64 (n1 : Int), .int .u64 (n2 : Int), .slice none 0 0, .int .i64 (c0 : Int)]) ty_api_Entry rfl) rfl rfl) (.tmp rfl) (fun w h => tells (⟨none, 0⟩) rfl [0] rfl h same_parts) rfl
        · skip
          obtain ⟨rfl, rfl⟩ := decE_is (decE_wrong h16 hread hf hR) hD
          refine d_reg ?_
          refine h_q hflS rfl ?_
          refine h_val rfl (.agg #[.int .i64 (n0 : Int), .int .u64 (n1 : Int), .int .u64 (n2 : Int), .slice none 0 0, .int .i64 (c0 : Int)]) (fun b w hb hH => exec_load rfl rfl (reads_agg (cs := [.int .i64 (n0 : Int), .int .u64 (n1 : Int), .int .u64 (n2 : Int), .slice none 0 0, .int .i64 (c0 : Int)]) ty_api_Entry rfl) (hH.row 0 rfl) hb) ?_
          refine h_act (post := fun _ => [cell g5 34 #[.int .i64 (n0 : Int), .int .u64 (n1 : Int), .int .u64 (n2 : Int), .slice none 0 0, .int .i64 (c0 : Int)], RdT g l3 f3, cell g2 34 #[.int .i64 0, .int .u64 0, .int .u64 0, .slice none 0 0, .int .i64 0]]) rfl (a_call (ent_of Tryz.func44 (by kernel_rfl) rfl) (fun w hH => rightE_any w ⟨(⟨(n0 : Int), (n1 : Int), (n2 : Int), [], (c0 : Int)⟩ : EntD), none, 0⟩ (sl8_nil w) false hR) rfl rfl rfl) ?_; rintro ⟨⟩
          refine h_q hflS rfl ?_
          refine h_done (d_then rfl ?_)
          refine d_nilvec 5 1 encB ?_
          refine d_reg ?_
          refine h_q hflS rfl ?_
          refine h_val rfl (.agg #[.int .i64 0, .int .u64 0, .int .u64 0, .slice none 0 0, .int .i64 0]) (fun b w hb hH => exec_build rfl rfl (by kernel_rfl) hb) ?_
          refine h_acts (post := fun _ => [Vec 5 1 encB (.slice none 0 0) ([]), cell g5 34 #[.int .i64 (n0 : Int), .int .u64 (n1 : Int), .int .u64 (n2 : Int), .slice none 0 0, .int .i64 (c0 : Int)], RdT g l3 f3, cell g2 34 #[.int .i64 0, .int .u64 0, .int .u64 0, .slice none 0 0, .int .i64 0]]) rfl rfl (a_store 3 (v := .agg #[.int .i64 0, .int .u64 0, .int .u64 0, .slice none 0 0, .int .i64 0]) #[.int .i64 0, .int .u64 0, .int .u64 0, .slice none 0 0, .int .i64 0] ty_api_Entry.2 rfl rfl rfl rfl rfl rfl rfl rfl rfl) ?_; rintro ⟨⟩
          refine h_q hflS rfl ?_
          refine h_done (d_ret (f_then_ret ?_))
          exact f_fin2 (.cell 3 (v := .agg #[.int .i64 0, .int .u64 0, .int .u64 0, .slice none 0 0, .int .i64 0]) (reads_agg (cs := [.int .i64 0, .int .u64 0, .int .u64 0, .slice none 0 0, .int .i64 0]) ty_api_Entry rfl) rfl rfl) (.tmp rfl) (fun w h => tells (⟨none, 0⟩) rfl [0] rfl h same_parts) rfl
      · skip
        obtain ⟨rfl, rfl⟩ := decE_is (decE_bad h16 hread hf) hD
        refine d_reg ?_
        refine h_q hflS rfl ?_
        refine h_act (post := fun _ => [cell g5 34 #[.int .i64 (n0 : Int), .int .u64 (n1 : Int), .int .u64 (n2 : Int), .slice none 0 0, .int .i64 (c0 : Int)], RdT g l3 f3, cell g2 34 #[.int .i64 0, .int .u64 0, .int .u64 0, .slice none 0 0, .int .i64 0]]) rfl (a_does (os' := fun _ => [cell g5 34 #[.int .i64 (n0 : Int), .int .u64 (n1 : Int), .int .u64 (n2 : Int), .slice none 0 0, .int .i64 (c0 : Int)], RdT g l3 f3, cell g2 34 #[.int .i64 0, .int .u64 0, .int .u64 0, .slice none 0 0, .int .i64 0]]) [1] 0 (ent_of Tryz.func170 (by kernel_rfl) rfl) (rd_end g l3 f3 (rend l3 f3) rfl) rfl rfl rfl (fun _ => rfl) rfl rfl rfl) ?_; rintro ⟨⟩
        refine h_q hflS rfl ?_
        refine h_done (d_reg ?_)
        refine h_q hflS rfl ?_
        refine h_val rfl (.bool true) (fun b w hb hH => exec_cmp rfl rfl rfl (cmp_neq_t (by omega)) hb) ?_
        refine h_done (d_then rfl ?_)
        refine d_nilvec 5 1 encB ?_
        refine d_reg ?_
        refine h_q hflS rfl ?_
        refine h_val rfl (.agg #[.int .i64 0, .int .u64 0, .int .u64 0, .slice none 0 0, .int .i64 0]) (fun b w hb hH => exec_build rfl rfl (by kernel_rfl) hb) ?_
        refine h_q hflS rfl ?_
        refine h_acts (post := fun _ => [Vec 5 1 encB (.slice none 0 0) ([]), cell g5 34 #[.int .i64 (n0 : Int), .int .u64 (n1 : Int), .int .u64 (n2 : Int), .slice none 0 0, .int .i64 (c0 : Int)], RdT g l3 f3, cell g2 34 #[.int .i64 0, .int .u64 0, .int .u64 0, .slice none 0 0, .int .i64 0]]) rfl rfl (a_store 3 (v := .agg #[.int .i64 0, .int .u64 0, .int .u64 0, .slice none 0 0, .int .i64 0]) #[.int .i64 0, .int .u64 0, .int .u64 0, .slice none 0 0, .int .i64 0] ty_api_Entry.2 rfl rfl rfl rfl rfl rfl rfl rfl rfl) ?_; rintro ⟨⟩
        refine h_q hflS rfl ?_
        refine h_done (d_ret (f_then_ret ?_))
        exact f_fin2 (.cell 3 (v := .agg #[.int .i64 0, .int .u64 0, .int .u64 0, .slice none 0 0, .int .i64 0]) (reads_agg (cs := [.int .i64 0, .int .u64 0, .int .u64 0, .slice none 0 0, .int .i64 0]) ty_api_Entry rfl) rfl rfl) (.tmp rfl) (fun w h => tells (⟨none, 0⟩) rfl [0] rfl h same_parts) rfl
    · skip
      have h3 := rtail_else l2 f2 hk hk2
      have hread := readE_of h0 h1 h2 h3
      refine d_reg ?_
      refine h_q hflS rfl ?_
      refine h_val rfl (.bool false) (fun b w hb hH => exec_cmp rfl rfl rfl (cmp_eql_f (by omega)) hb) ?_
      refine h_q hflS rfl ?_
      refine h_done (d_else rfl (d_reg ?_))
      refine h_q hflS rfl ?_
      refine h_val rfl (.bool false) (fun b w hb hH => exec_cmp rfl rfl rfl (cmp_eql_f (by omega)) hb) ?_
      refine h_q hflS rfl ?_
      refine h_done (d_else rfl (d_skip (f_block (f_to (d_seq ?_)))))
      by_cases hf : rend l2 f2 = 0
      · skip
        refine d_reg ?_
        refine h_q hflS rfl ?_
        refine h_act (post := fun _ => [cell g5 34 #[.int .i64 (n0 : Int), .int .u64 (n1 : Int), .int .u64 (n2 : Int), .slice none 0 0, .int .i64 0], RdT g l2 f2, cell g2 34 #[.int .i64 0, .int .u64 0, .int .u64 0, .slice none 0 0, .int .i64 0]]) rfl (a_does (os' := fun _ => [cell g5 34 #[.int .i64 (n0 : Int), .int .u64 (n1 : Int), .int .u64 (n2 : Int), .slice none 0 0, .int .i64 0], RdT g l2 f2, cell g2 34 #[.int .i64 0, .int .u64 0, .int .u64 0, .slice none 0 0, .int .i64 0]]) [1] 0 (ent_of Tryz.func170 (by kernel_rfl) rfl) (rd_end g l2 f2 0 hf) rfl rfl rfl (fun _ => rfl) rfl rfl rfl) ?_; rintro ⟨⟩
        refine h_q hflS rfl ?_
        refine h_done (d_reg ?_)
        refine h_q hflS rfl ?_
        refine h_val rfl (.bool false) (fun b w hb hH => exec_cmp rfl rfl rfl (cmp_neq_f rfl) hb) ?_
        refine h_done (d_else rfl (d_skip (f_to (d_seq ?_))))
        rcases Bool.eq_false_or_eq_true (rightE (⟨(n0 : Int), (n1 : Int), (n2 : Int), [], ((0 : Nat) : Int)⟩ : EntD)) with hR | hR
        · skip
          obtain ⟨rfl, rfl⟩ := decE_is (decE_right h16 hread hf hR) hD
          refine d_reg ?_
          refine h_q hflS rfl ?_
          refine h_val rfl (.agg #[.int .i64 (n0 : Int), .int .u64 (n1 : Int), .int .u64 (n2 : Int), .slice none 0 0, .int .i64 0]) (fun b w hb hH => exec_load rfl rfl (reads_agg (cs := [.int .i64 (n0 : Int), .int .u64 (n1 : Int), .int .u64 (n2 : Int), .slice none 0 0, .int .i64 0]) ty_api_Entry rfl) (hH.row 0 rfl) hb) ?_
          refine h_act (post := fun _ => [cell g5 34 #[.int .i64 (n0 : Int), .int .u64 (n1 : Int), .int .u64 (n2 : Int), .slice none 0 0, .int .i64 0], RdT g l2 f2, cell g2 34 #[.int .i64 0, .int .u64 0, .int .u64 0, .slice none 0 0, .int .i64 0]]) rfl (a_call (ent_of Tryz.func44 (by kernel_rfl) rfl) (fun w hH => rightE_any w ⟨(⟨(n0 : Int), (n1 : Int), (n2 : Int), [], ((0 : Nat) : Int)⟩ : EntD), none, 0⟩ (sl8_nil w) true hR) rfl rfl rfl) ?_; rintro ⟨⟩
          refine h_q hflS rfl ?_
          refine h_done (d_else rfl (d_skip (f_to ?_)))
          refine d_nilvec 5 1 encB ?_
          refine d_reg ?_
          refine h_q hflS rfl ?_
          refine h_val rfl (.agg #[.int .i64 (n0 : Int), .int .u64 (n1 : Int), .int .u64 (n2 : Int), .slice none 0 0, .int .i64 0]) (fun b w hb hH => exec_load rfl rfl (reads_agg (cs := [.int .i64 (n0 : Int), .int .u64 (n1 : Int), .int .u64 (n2 : Int), .slice none 0 0, .int .i64 0]) ty_api_Entry rfl) (hH.row 1 rfl) hb) ?_
          refine h_acts (post := fun _ => [Vec 5 1 encB (.slice none 0 0) ([]), cell g5 34 #[.int .i64 (n0 : Int), .int .u64 (n1 : Int), .int .u64 (n2 : Int), .slice none 0 0, .int .i64 0], RdT g l2 f2, cell g2 34 #[.int .i64 (n0 : Int), .int .u64 (n1 : Int), .int .u64 (n2 : Int), .slice none 0 0, .int .i64 0]]) rfl rfl (a_store 3 (v := .agg #[.int .i64 (n0 : Int), .int .u64 (n1 : Int), .int .u64 (n2 : Int), .slice none 0 0, .int .i64 0]) #[.int .i64 (n0 : Int), .int .u64 (n1 : Int), .int .u64 (n2 : Int), .slice none 0 0, .int .i64 0] ty_api_Entry.2 rfl rfl rfl rfl rfl rfl rfl rfl rfl) ?_; rintro ⟨⟩
          refine h_q hflS rfl ?_
          refine h_done (d_ret ?_)
          exact f_fin2 (.cell 3 (v := .agg #[.int .i64 (n0 : Int), .int .u64 (n1 : Int), .int .u64 (n2 : Int), .slice none 0 0, .int .i64 0]) (reads_agg (cs := [.int .i64 (n0 : Int), .int .u64 (n1 : Int), .int .u64 (n2 : Int), .slice none 0 0, .int .i64 0]) ty_api_Entry rfl) rfl rfl) (.tmp rfl) (fun w h => tells (⟨none, 0⟩) rfl [0] rfl h same_parts) rfl
        · skip
          obtain ⟨rfl, rfl⟩ := decE_is (decE_wrong h16 hread hf hR) hD
          refine d_reg ?_
          refine h_q hflS rfl ?_
          refine h_val rfl (.agg #[.int .i64 (n0 : Int), .int .u64 (n1 : Int), .int .u64 (n2 : Int), .slice none 0 0, .int .i64 0]) (fun b w hb hH => exec_load rfl rfl (reads_agg (cs := [.int .i64 (n0 : Int), .int .u64 (n1 : Int), .int .u64 (n2 : Int), .slice none 0 0, .int .i64 0]) ty_api_Entry rfl) (hH.row 0 rfl) hb) ?_
          refine h_act (post := fun _ => [cell g5 34 #[.int .i64 (n0 : Int), .int .u64 (n1 : Int), .int .u64 (n2 : Int), .slice none 0 0, .int .i64 0], RdT g l2 f2, cell g2 34 #[.int .i64 0, .int .u64 0, .int .u64 0, .slice none 0 0, .int .i64 0]]) rfl (a_call (ent_of Tryz.func44 (by kernel_rfl) rfl) (fun w hH => rightE_any w ⟨(⟨(n0 : Int), (n1 : Int), (n2 : Int), [], ((0 : Nat) : Int)⟩ : EntD), none, 0⟩ (sl8_nil w) false hR) rfl rfl rfl) ?_; rintro ⟨⟩
          refine h_q hflS rfl ?_
          refine h_done (d_then rfl ?_)
          refine d_nilvec 5 1 encB ?_
          refine d_reg ?_
          refine h_q hflS rfl ?_
          refine h_val rfl (.agg #[.int .i64 0, .int .u64 0, .int .u64 0, .slice none 0 0, .int .i64 0]) (fun b w hb hH => exec_build rfl rfl (by kernel_rfl) hb) ?_
          refine h_acts (post := fun _ => [Vec 5 1 encB (.slice none 0 0) ([]), cell g5 34 #[.int .i64 (n0 : Int), .int .u64 (n1 : Int), .int .u64 (n2 : Int), .slice none 0 0, .int .i64 0], RdT g l2 f2, cell g2 34 #[.int .i64 0, .int .u64 0, .int .u64 0, .slice none 0 0, .int .i64 0]]) rfl rfl (a_store 3 (v := .agg #[.int .i64 0, .int .u64 0, .int .u64 0, .slice none 0 0, .int .i64 0]) #[.int .i64 0, .int .u64 0, .int .u64 0, .slice none 0 0, .int .i64 0] ty_api_Entry.2 rfl rfl rfl rfl rfl rfl rfl rfl rfl) ?_; rintro ⟨⟩
          refine h_q hflS rfl ?_
          refine h_done (d_ret (f_then_ret ?_))
          exact f_fin2 (.cell 3 (v := .agg #[.int .i64 0, .int .u64 0, .int .u64 0, .slice none 0 0, .int .i64 0]) (reads_agg (cs := [.int .i64 0, .int .u64 0, .int .u64 0, .slice none 0 0, .int .i64 0]) ty_api_Entry rfl) rfl rfl) (.tmp rfl) (fun w h => tells (⟨none, 0⟩) rfl [0] rfl h same_parts) rfl
      · skip
        obtain ⟨rfl, rfl⟩ := decE_is (decE_bad h16 hread hf) hD
        refine d_reg ?_
        refine h_q hflS rfl ?_
        refine h_act (post := fun _ => [cell g5 34 #[.int .i64 (n0 : Int), .int .u64 (n1 : Int), .int .u64 (n2 : Int), .slice none 0 0, .int .i64 0], RdT g l2 f2, cell g2 34 #[.int .i64 0, .int .u64 0, .int .u64 0, .slice none 0 0, .int .i64 0]]) rfl (a_does (os' := fun _ => [cell g5 34 #[.int .i64 (n0 : Int), .int .u64 (n1 : Int), .int .u64 (n2 : Int), .slice none 0 0, .int .i64 0], RdT g l2 f2, cell g2 34 #[.int .i64 0, .int .u64 0, .int .u64 0, .slice none 0 0, .int .i64 0]]) [1] 0 (ent_of Tryz.func170 (by kernel_rfl) rfl) (rd_end g l2 f2 (rend l2 f2) rfl) rfl rfl rfl (fun _ => rfl) rfl rfl rfl) ?_; rintro ⟨⟩
        refine h_q hflS rfl ?_
        refine h_done (d_reg ?_)
        refine h_q hflS rfl ?_
        refine h_val rfl (.bool true) (fun b w hb hH => exec_cmp rfl rfl rfl (cmp_neq_t (by omega)) hb) ?_
        refine h_done (d_then rfl ?_)
        refine d_nilvec 5 1 encB ?_
        refine d_reg ?_
        refine h_q hflS rfl ?_
        refine h_val rfl (.agg #[.int .i64 0, .int .u64 0, .int .u64 0, .slice none 0 0, .int .i64 0]) (fun b w hb hH => exec_build rfl rfl (by kernel_rfl) hb) ?_
        refine h_q hflS rfl ?_
        refine h_acts (post := fun _ => [Vec 5 1 encB (.slice none 0 0) ([]), cell g5 34 #[.int .i64 (n0 : Int), .int .u64 (n1 : Int), .int .u64 (n2 : Int), .slice none 0 0, .int .i64 0], RdT g l2 f2, cell g2 34 #[.int .i64 0, .int .u64 0, .int .u64 0, .slice none 0 0, .int .i64 0]]) rfl rfl (a_store 3 (v := .agg #[.int .i64 0, .int .u64 0, .int .u64 0, .slice none 0 0, .int .i64 0]) #[.int .i64 0, .int .u64 0, .int .u64 0, .slice none 0 0, .int .i64 0] ty_api_Entry.2 rfl rfl rfl rfl rfl rfl rfl rfl rfl) ?_; rintro ⟨⟩
        refine h_q hflS rfl ?_
        refine h_done (d_ret (f_then_ret ?_))
        exact f_fin2 (.cell 3 (v := .agg #[.int .i64 0, .int .u64 0, .int .u64 0, .slice none 0 0, .int .i64 0]) (reads_agg (cs := [.int .i64 0, .int .u64 0, .int .u64 0, .slice none 0 0, .int .i64 0]) ty_api_Entry rfl) rfl rfl) (.tmp rfl) (fun w h => tells (⟨none, 0⟩) rfl [0] rfl h same_parts) rfl

end Go.Proofs.YtaipejaeeohpkaaGreatDoor.Sep

namespace Go.Proofs.YtaipejaeeohpkaaGreatDoor.Sep
open Go.RowKit
open Go.Proofs.YtaipejaeeohpkaaGreatDoor.Mem (Dist Blk Chg below0)

end Go.Proofs.YtaipejaeeohpkaaGreatDoor.Sep

namespace Go.Proofs.YtaipejaeeohpkaaGreatDoor.Sep
open Go.RowKit
/-- the bytes of an operation -/
def OpD.size : OpD → Nat
  | .app _ b => b.length
  | _ => 0
/-- a disk whose sizes are within reach -/
def DiskD.fit (d : DiskD) : Prop := usedF d.syn + (d.wait.map OpD.size).sum ≤ 1099511627776 ∧ d.wait.length ≤ 10000
/-! ## Parts cut short -/
def ShortL (m n : Nat) (L : List (List UInt8)) : Prop := L.length ≤ m ∧ ∀ b, b ∈ L → b.length ≤ n
theorem flat_le {n : Nat} : ∀ {L : List (List UInt8)}, (∀ b, b ∈ L → b.length ≤ n) → L.flatten.length ≤ L.length * n
  | [], _ => by simp
  | b :: r, h => by
    have h1 := h b (List.mem_cons_self ..)
    have h2 := flat_le (L := r) fun c hc => h c (List.mem_cons_of_mem _ hc)
    rw [List.flatten_cons, List.length_append, List.length_cons, Nat.succ_mul]
    omega
theorem ShortL.flat {m n : Nat} {L : List (List UInt8)} (h : ShortL m n L) : L.flatten.length ≤ m * n := Nat.le_trans (flat_le h.2) (Nat.mul_le_mul_right n h.1)
theorem ShortL.take {m n : Nat} {L : List (List UInt8)} (h : ShortL m n L) (i : Nat) : ShortL m n (L.take i) := ⟨by have := h.1; rw [List.length_take]; omega, fun b hb => h.2 b (List.mem_of_mem_take hb)⟩
def encKs (s : List UInt8) : List Value := [.string (bs s)]
/-! ## The example -/
end Go.Proofs.YtaipejaeeohpkaaGreatDoor.Sep
