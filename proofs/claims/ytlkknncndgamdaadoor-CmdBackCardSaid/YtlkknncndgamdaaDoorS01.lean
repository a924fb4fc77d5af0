/-
  CmdS
-/
import Derived.Test.YtlkknncndgamdaaDoorC01
import Derived.Lib.AppendStr
set_option linter.unusedSimpArgs false
set_option linter.unusedVariables false

namespace Go.Proofs.YtlkknncndgamdaaDoor.Sep
open Go.RowKit
open Go.Proofs.YtlkknncndgamdaaDoor.Mem (Dist Blk Chg below0)
theorem str_cells (m : List UInt8) : Lib.strCells (bs m) = u8s m := by
  unfold Lib.strCells bs u8s u8v
  rfl
theorem run_appendS {v : Value} {l m : List UInt8} {w : World} {rs : List RowT} {ty : TypeId} (h : Vec 5 1 encB v l rs) (hr : RowsOf w rs) (h0 : 0 < l.length) (hlen : l.length + m.length ≤ 140737488355328) :
    ∃ v' w', (Builtin.append_ #[33, 9] ty #[v, .string (bs m)]).run Tryd.prog w = .ok v' w' ∧ ∃ rs', Vec 5 1 encB v' (l ++ m) rs' ∧ Chg w w' rs rs' := by
  have hown := vec_own h hr
  have hms : (bs m).size = m.length := by unfold bs; simp [ByteArray.size]
  have hinf : (Tryd.prog.info? 5).map (fun i => (i.zero, i.size, i.bytes)) = some (some (.int .u8 0), 1, 1) := by kernel_rfl
  obtain ⟨i, hi, hz, hs1, hby⟩ := info_parts hinf
  obtain ⟨v', w', hrun, hown', hgr, _⟩ := Lib.run_append_own_string (P := Tryd.prog) w 0 33 9 ty 5 i Tryd.underlying33 Tryd.underlying9 hi hz hs1 hby v l.length (u8s l) hown (bs m) (by rw [hms]; unfold maxLen; omega) (by rw [hms]; exact hlen) (Nat.zero_le _)
  rw [hms, str_cells, ← u8s_append] at hown'
  have hO : Own 5 w' 0 v' (l ++ m) := by
    unfold Own
    rw [List.length_append]
    exact hown'
  obtain ⟨rs', hv', hr', hd', hx⟩ := own_vec hO
  refine ⟨v', w', hrun, rs', hv', ?_⟩
  rcases h with ⟨_, e, _⟩ | ⟨g, c, cs, rfl, h2, h3, h4, h5, rfl⟩
  · rw [e] at h0; simp at h0
  · have hm : Mod (Blk [(g, 5, cs)]) w w' := (Mod.of_grown (S := One g) hgr (fun k hk => (Option.some.inj hk).symm)).weaken fun j _ e => ⟨_, List.mem_cons_self, e.symm⟩
    have hat : ∀ k, At v' k → k = g ∨ k = w.heap.size := by
      by_cases hroom : l.length + (bs m).size ≤ c
      · have e := Lib.run_append_room_string (P := Tryd.prog) w 33 9 ty 5 i Tryd.underlying33 Tryd.underlying9 hi hs1 g l.length c cs hr.1 (bs m) hroom (by rw [h4]; omega)
        rw [hrun] at e
        have e1 : v' = .slice (some ⟨g, 0, none⟩) (l.length + (bs m).size) c := by injection e
        intro k hk
        rw [e1] at hk
        exact .inl (At.iff.1 hk)
      · have holds : ∀ j u, (u8s l)[j]? = some u → w.cell? ((⟨g, 0, none⟩ : Addr).add j) = some u := hown.cells (g := g) rfl
        have e := Lib.run_append_grow_string (P := Tryd.prog) w 33 9 ty 5 i (.int .u8 0) Tryd.underlying33 Tryd.underlying9 hi hz ⟨g, 0, none⟩ l.length c (u8s l) (by rw [hs1, u8s_length, Nat.mul_one]) holds (bs m) (by omega) (by rw [hms]; omega) (by rw [hby]; exact growslice_fits (by omega) (by rw [hms]; omega))
        rw [hrun] at e
        have e1 : v' = .slice (some ⟨w.heap.size, 0, none⟩) (l.length + (bs m).size) (grownCap w (l.length + (bs m).size) c 5) := by injection e
        intro k hk
        rw [e1] at hk
        exact .inr (At.iff.1 hk)
    refine ⟨hm, hr', hd', fun x hxm hlt => ?_⟩
    rcases hat _ (hx x hxm).1 with e | e
    · exact ⟨_, List.mem_cons_self, e.symm⟩
    · omega
section
variable {Q : Exit → Act → World → Prop} {n : Nat} {B : Nat → Prop} {w0 : World} {os : List Ass} {env : List (Nat × Value)} {o : Oper} {v : Value} {l m : List UInt8}
theorem a_appendS (i : Nat) (hi : os[i]? = some (Vec 5 1 encB v l)) (h0 : 0 < l.length) (hlen : l.length + m.length ≤ 140737488355328) {x y : Operand} (ho : o.op = .call { callee := .builtin .append, args := #[x, y], argTypes := #[33, 9] }) (hx : evs env x = some v) (hy : evs env y = some (.string (bs m))) {r : List UInt8} (hr : l ++ m = r) :
    Acts Tryd.prog Q n env B w0 os o (fun v : Value => v) (fun v' => os.set i (Vec 5 1 encB v' r)) := fun act w hH hF K hK => by
  subst hr
  obtain ⟨rs0, hp, hm⟩ := hH
  obtain ⟨a, z, b, e1, hz, hb⟩ := hp.at_ hi
  subst e1
  have p : (a ++ (z ++ b)).Perm (z ++ (a ++ b)) := by rw [← List.append_assoc, ← List.append_assoc]; exact List.perm_append_comm.append_right b
  have h5 := hp_perm hm p
  obtain ⟨v', w', hr, y', hy', hc⟩ := run_appendS (ty := o.type) hz (rows_iff.2 fun z hz => h5.rows.mem z (by simp [hz])) h0 hlen
  have p' : (y' ++ (a ++ b)).Perm (a ++ (y' ++ b)) := by rw [← List.append_assoc, ← List.append_assoc]; exact List.perm_append_comm.append_right b
  refine a_val (w0 := w) act (exec_bi ho (vs := [v, .string (bs m)]) (by simp [evl, hx, hy]) (fun cs => ?_) hF) (hK v' w' ⟨_, hb _ y' hy', hp_perm (hp_chg h5 hc) p'⟩)
  simp only [builtin, Sem.run_bind, Sem.run_pure, Result.andThen_ok, hr]
end
section
variable {P : Program} {n : Nat} {w : World} {env : List (Nat × Value)} {o : Oper} {a : Act}
theorem exec_quoI {T T' : TypeId} {x y : Operand} {k : IntKind} {p q r : Int} (hq : q ≠ 0) (hr : k.wrap (p.tdiv q) = r) (ho : o.op = .binOp .quo T x y T') (hx : evs env x = some (.int k p)) (hy : evs env y = some (.int k q)) (hF : Fr n a env) : (execOp a.eval o).run P w = .ok (.value (.int k r)) w := by
  unfold execOp
  simp only [ho, hF.evs hx, hF.evs hy]
  simp [eqGuard, binOp, Op.intArith, Op.intDiv, hq, hr]
theorem exec_wrapadd {T T' : TypeId} {x y : Operand} {k : IntKind} {p q r : Int} (hr : k.wrap (p + q) = r) (ho : o.op = .binOp .add T x y T') (hx : evs env x = some (.int k p)) (hy : evs env y = some (.int k q)) (hF : Fr n a env) : (execOp a.eval o).run P w = .ok (.value (.int k r)) w := by
  unfold execOp
  simp only [ho, hF.evs hx, hF.evs hy]
  simp [eqGuard, binOp, Op.intArith, hr]
theorem exec_gload {T : TypeId} (hO : OneOf P T) {x : Operand} {p : Addr} {v : Value} (h : w.cell? p = some v) (ho : o.op = .load T x) (hx : evs env x = some (.pointer (some p))) (hF : Fr n a env) : (execOp a.eval o).run P w = .ok (.value v) w := by
  unfold execOp
  simp only [ho, hF.evs hx, Instr.loadAt, Instr.sureAddr, Sem.run_bind, Sem.run_pure, Result.andThen_ok, loadVar, hO.1]
  simp [run_load, h]
end
/-! ## Two ways come together, where a value is a letter -/
section
variable {P : Program} {Q : Exit → Act → World → Prop} {n : Nat} {B : Nat → Prop} {w0 : World} {rs : List Ass} {env : List (Nat × Value)}
def MidX {X : Type} (n : Nat) (B : Nat → Prop) (w0 : World) (E : X → List (Nat × Value)) (R : X → List Ass) : Exit → Act → World → Prop := fun e a w => ∃ x, e = .normal ∧ Fr n a (E x) ∧ Hp B w0 w (R x)
theorem d_midx {X : Type} {c : Code} (E : X → List (Nat × Value)) (R : X → List Ass) (h1 : WC2 P (MidX n B w0 E R) n env B w0 rs c) (h2 : ∀ x, WE2 Q n (E x) B w0 (R x) .normal) : WC2 P Q n env B w0 rs c := fun a w hF hH => Code.wp_mono (fun e a' w' (h : MidX n B w0 E R e a' w') => by obtain ⟨x, he, hF', hH'⟩ := h; subst he; exact h2 x a' w' hF' hH') (h1 a w hF hH)
theorem f_midx {X : Type} {E : X → List (Nat × Value)} {R : X → List Ass} (x : X) (k : Nat) (hs : Sub env (E x)) (hr : rs.drop k = R x) : WE2 (MidX n B w0 E R) n env B w0 rs .normal := fun _ _ hF hH => ⟨x, rfl, hF.keep hs, hr ▸ hH.drop k⟩
end
/-- what came in at the outermost call is there -/
theorem cell_arg {u w0 w : World} {p : Addr} {v : Value} {B : Nat → Prop} {os : List Ass} (h : u.cell? p = some v) (hU : Below u.heap.size u w0) (hS : ∀ k, B k → u.heap.size ≤ k) (hH : Hp B w0 w os) : w.cell? p = some v := by
  have hm : Below u.heap.size w0 w := hH.up.below hU.size hS
  have hb := World.block_lt_of_cell? _ _ h
  rw [(hU.trans hm).cell hb]
  exact h
end Go.Proofs.YtlkknncndgamdaaDoor.Sep
