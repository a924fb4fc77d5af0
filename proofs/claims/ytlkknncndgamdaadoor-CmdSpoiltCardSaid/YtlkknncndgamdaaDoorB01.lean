/-
  CmdK · TyC
-/
import Derived.Test.YtlkknncndgamdaaDoorA08
import Derived.Test.YtlkknncndgamdaaDoorChecked
set_option linter.unusedSimpArgs false
set_option linter.unusedVariables false

namespace Go.Proofs.YtlkknncndgamdaaDoor.Sep
open Go.RowKit
open Go.Proofs.YtlkknncndgamdaaDoor.Mem (Dist Blk Chg below0)
section
variable {P : Program} {n : Nat} {B : Nat → Prop} {w0 w : World} {os : List Ass} {env : List (Nat × Value)} {o : Oper} {a : Act}
theorem exec_or {T T' : TypeId} {x y : Operand} {k : IntKind} {p q r : Int} (hr : bits .or k p q = r) (ho : o.op = .binOp .or T x y T') (hx : evs env x = some (.int k p)) (hy : evs env y = some (.int k q)) (hF : Fr n a env) : (execOp a.eval o).run P w = .ok (.value (.int k r)) w := by
  unfold execOp
  simp only [ho, hF.evs hx, hF.evs hy]
  simp [eqGuard, binOp, intBits_or, hr]
theorem exec_and {T T' : TypeId} {x y : Operand} {k : IntKind} {p q r : Int} (hr : bits .and k p q = r) (ho : o.op = .binOp .and T x y T') (hx : evs env x = some (.int k p)) (hy : evs env y = some (.int k q)) (hF : Fr n a env) : (execOp a.eval o).run P w = .ok (.value (.int k r)) w := by
  unfold execOp
  simp only [ho, hF.evs hx, hF.evs hy]
  simp [eqGuard, binOp, intBits_and, hr]
theorem exec_xor {T T' : TypeId} {x y : Operand} {k : IntKind} {p q r : Int} (hr : bits .xor k p q = r) (ho : o.op = .binOp .xor T x y T') (hx : evs env x = some (.int k p)) (hy : evs env y = some (.int k q)) (hF : Fr n a env) : (execOp a.eval o).run P w = .ok (.value (.int k r)) w := by
  unfold execOp
  simp only [ho, hF.evs hx, hF.evs hy]
  simp [eqGuard, binOp, intBits_xor, hr]
theorem idx_arr {T e : TypeId} {N i : Nat} {g off : Nat} (hT : P.underlying T = some (.array N e)) (hs : (P.info? e).map (fun i => i.size) = some 1) (h : i < N) : (Instr.indexAt T (.pointer (some ⟨g, off, none⟩)) (.int .i64 (i : Int))).run P w = .ok (.pointer (some ⟨g, off + i, none⟩)) w := by
  have hz : (sizeOf e).run P w = .ok 1 w := by
    cases hq : P.info? e with
    | none => simp [hq] at hs
    | some j =>
      simp only [hq, Option.map_some, Option.some.injEq] at hs
      simp [sizeOf, typeInfo, hq, hs]
  have hi : (0 : Int) ≤ (i : Int) ∧ (i : Int) < (N : Int) := by omega
  simp only [Instr.indexAt, asIntOf, Sem.run_bind, Sem.run_pure, Result.andThen_ok, run_underlying hT w, Instr.sureAddr, hz]
  simp [hi, hz, Addr.add]
theorem and_i64 {p q : Nat} (hp : p < 128) (hq : q < 128) : bits .and .i64 (p : Int) (q : Int) = ((p &&& q : Nat) : Int) := by
  have e : ∀ z : Nat, z < 128 → (BitVec.ofInt 64 (z : Int)).toNat = z := fun z hz => ofInt_u64 z (by omega)
  show IntKind.i64.wrap ((BitVec.ofInt 64 (p : Int) &&& BitVec.ofInt 64 (q : Int)).toNat : Int) = _
  rw [BitVec.toNat_and, e p hp, e q hq]
  have : p &&& q < 2 ^ 7 := Nat.and_lt_two_pow _ (by omega)
  rw [IntWalk.i64_in _ (by omega)]
/-- 'string(b)', of bytes that can be read -/
theorem exec_str8 {T T' e : TypeId} {v : Value} {l : List UInt8} {x : Operand} (hs : P.underlying T = some (.slice e)) (he : P.underlying e = some (.int .u8)) (hi : (P.info? e).map (fun i => (i.zero, i.size, i.bytes)) = some (some (.int .u8 0), 1, 1)) (hd : P.underlying T' = some .string) (h : Sl8 w v l) (ho : o.op = .convert T T' x) (hx : evs env x = some v) (hF : Fr n a env) : (execOp a.eval o).run P w = .ok (.value (.string (bs l))) w := by
  obtain ⟨A, c, rfl, hb⟩ := h
  have := run_str (P := P) ⟨hs, he, hi⟩ hd hb
  unfold execOp
  simp only [ho, hF.evs hx, Sem.run_bind, Sem.run_pure, Result.andThen_ok, this]
  rfl
/-- 's[:]' of an array of bytes -/
theorem exec_sub_arr {T : TypeId} {x : Operand} {g k : Nat} (hr : ∀ w, (Instr.sliceAt T (.pointer (some ⟨g, 0, none⟩)) none none none).run P w = .ok (.slice (some ⟨g, 0, none⟩) k k) w) (ho : o.op = .slice T x none none none) (hx : evs env x = some (.pointer (some ⟨g, 0, none⟩))) (hF : Fr n a env) : (execOp a.eval o).run P w = .ok (.value (.slice (some ⟨g, 0, none⟩) k k)) w := by
  unfold execOp
  simp only [ho, hF.evs hx]
  simp [hr]
end
theorem varint8 {w : World} {A : Option Addr} {c : Nat} {l : List UInt8} (h : Sl8 w (.slice A l.length c) l) (hl : l.length ≤ 140737488355328) (most : Nat) (hm : most < 18446744073709551616) (R : Nat × Nat × Nat) (hv : vnum most l 0 0 = R) : Calls Tryd.prog 58 #[.slice A l.length c, .int .u64 (most : Int)] w fun e w' => e = .returned (.tuple #[.int .u64 (R.1 : Int), .int .i64 (R.2.1 : Int), .int .i64 (R.2.2 : Int)]) ∧ Below w.heap.size w w' := by
  subst hv
  obtain ⟨A', c', e, hb⟩ := h
  simp only [Value.slice.injEq] at e
  obtain ⟨rfl, _, rfl⟩ := e
  refine (varint_any w A c l most hb hl hm).mono ?_
  rintro e w' ⟨he, rfl⟩
  exact ⟨he, Below.refl _ _⟩
section
variable {P : Program} {n : Nat} {w : World} {env : List (Nat × Value)} {o : Oper} {a : Act}
theorem exec_cutR {T : TypeId} {x : Operand} {lo hi : Option Operand} {l r : List UInt8} {i j : Nat} (hT : P.underlying T = some .string) (he : (l.take j).drop i = r) (hij : i ≤ j) (hj : j ≤ l.length) (ho : o.op = .slice T x lo hi none) (hx : evs env x = some (.string (bs l))) (hlo : loB env lo i) (hhi : hiB env hi j l.length) (hF : Fr n a env) : (execOp a.eval o).run P w = .ok (.value (.string (bs r))) w := he ▸ exec_cut hT ho hx hlo hhi hij hj hF
end
theorem arg80 {w0 w : World} {v : Value} {l : List UInt8} {os : List Ass} (h : Sl8 w0 v l) (hH : Hp Nil w0 w os) : Sl8 w v l := h.below (hH.up.below (Nat.le_refl _) (fun _ h => h.elim))
theorem putIf_len3 {b : Bool} {l x r : List UInt8} {k : Nat} (hr : putIf b l x = r) (h : b = true → x.length ≤ k) : r.length ≤ l.length + k := by
  subst hr
  cases b with
  | true => have := h rfl; simp [putIf]; omega
  | false => simp [putIf]
theorem sl8_nil (w : World) : Sl8 w (.slice none 0 0) [] := ⟨none, 0, rfl, Bs.nil _ _ _ (by decide)⟩
theorem Sl8.drop {w : World} {A : Option Addr} {c k : Nat} {l : List UInt8} (h : Sl8 w (.slice A l.length c) l) (hk : k ≤ l.length) : Sl8 w (.slice (if c = k then A else A.map (·.add k)) (l.drop k).length (c - k)) (l.drop k) := by
  obtain ⟨A', c', e, hb⟩ := h
  simp only [Value.slice.injEq] at e
  obtain ⟨rfl, _, rfl⟩ := e
  exact ⟨_, _, rfl, hb.drop hk⟩
theorem Sl8.takes {w : World} {A : Option Addr} {c k : Nat} {l : List UInt8} (h : Sl8 w (.slice A l.length c) l) (hk : k ≤ l.length) : Sl8 w (.slice A (l.take k).length c) (l.take k) := by
  obtain ⟨A', c', e, hb⟩ := h
  simp only [Value.slice.injEq] at e
  obtain ⟨rfl, _, rfl⟩ := e
  exact ⟨_, _, rfl, hb.take hk⟩
section
variable {P : Program} {n : Nat} {w : World} {env : List (Nat × Value)} {o : Oper} {a : Act}
/-- what remains of a division, of the sign of what is divided -/
theorem exec_remI {T T' : TypeId} {x y : Operand} {k : IntKind} {p q r : Int} (ho : o.op = .binOp .rem T x y T') (hx : evs env x = some (.int k p)) (hy : evs env y = some (.int k q)) (hq : q ≠ 0) (hr : p.tmod q = r) (hF : Fr n a env) : (execOp a.eval o).run P w = .ok (.value (.int k r)) w := by
  unfold execOp
  simp only [ho, hF.evs hx, hF.evs hy]
  simp [eqGuard, binOp, Op.intArith, Op.intDiv, hq, hr]
end
/-! ## append of many bytes -/
section
variable {P : Program} {t e ty : TypeId} {v u : Value} {l m : List UInt8} {w w' : World} {rs : List RowT}
theorem run_append8 (hT : SliceT P t e 1) (h1 : (P.info? e).map (fun i => i.bytes) = some 1) (h : Vec e 1 encB v l rs) (hr : RowsOf w rs) (hd : Dist rs) (hu : SlRd w 1 u m.length (flat encB m)) (hlen : l.length + m.length ≤ 140737488355328) :
    ∃ v' w', (Builtin.append_ #[t, t] ty #[v, u]).run P w = .ok v' w' ∧ ∃ rs', Vec e 1 encB v' (l ++ m) rs' ∧ Chg w w' rs rs' := by
  obtain ⟨i, z, hi, hz, hk, hby, hzs, _⟩ := hT.inf
  have hb1 : i.bytes = 1 := by simpa [hi] using h1
  obtain ⟨hul, A, c, rfl, hA⟩ := hu
  have hu1 := flat_one okB m
  rcases hA with ⟨rfl, hm⟩ | ⟨a, rfl, hcells⟩
  · have hm' : m = [] := List.length_eq_zero_iff.1 hm
    subst hm'
    refine ⟨v, w, ?_, rs, by simpa using h, ⟨Mod.refl _ _, hr, hd, fun x hx _ => ⟨x, hx, rfl⟩⟩⟩
    rcases h with ⟨h1, h2, h3⟩ | ⟨g, c', cs, h1, h2, h3, h4, h5, h6⟩
    · subst h1
      simp [Builtin.append_, run_underlying hT.ht, sizeOf, typeInfo, hi, Builtin.lenOf, Builtin.firstCells]
    · subst h1
      simp [Builtin.append_, run_underlying hT.ht, sizeOf, typeInfo, hi, Builtin.lenOf, Builtin.firstCells, h2, storeCells]
  · have hown : w.ownsRow 0 e 1 v l.length (flat encB l) := by
      refine ⟨flat_len okB l, ?_⟩
      rcases h with ⟨h1, h2, h3⟩ | ⟨g, c', cs, h1, h2, h3, h4, h5, h6⟩
      · exact .inl ⟨h1, by rw [h2]; rfl⟩
      · subst h6
        exact .inr ⟨g, c', cs, h1, Nat.zero_le _, hr.1, h2, h3, h4, h5⟩
    obtain ⟨v', w', hrun, h2, h3, _, h5⟩ := run_append_own_at (P := P) w 0 t ty e i z 1 i.bytes hT.ht hi hz hk rfl hzs hT.pos v l.length (flat encB l) hown a m.length c (flat encB m) hul hcells hu1 (by unfold maxLen; omega)
      (by rw [hb1]; omega) (Nat.zero_le _)
    refine ⟨v', w', hrun, ?_⟩
    have hm : Mod (At v) w w' := Mod.of_grown h3 (fun k hk => hk)
    have hmB : Mod (Blk rs) w w' := hm.weaken fun j _ hj => by
      rcases h with ⟨h1, _, _⟩ | ⟨g, c', cs, h1, _, _, _, _, h6⟩
      · subst h1; unfold At at hj; simp [Value.ownBlock] at hj
      · subst h1; subst h6
        unfold At at hj
        simp [Value.ownBlock] at hj
        exact ⟨(g, e, cs), by simp, hj⟩
    rcases h2.2 with ⟨h1, hn⟩ | ⟨g, c', cs, h1, _, hrow, hle, hmx, hsz, htk⟩
    · have : l ++ m = [] := List.length_eq_zero_iff.1 (by rw [List.length_append]; exact hn)
      exact ⟨[], .inl ⟨h1, this, rfl⟩, ⟨hmB, trivial, trivial, fun x hx => by simp at hx⟩⟩
    · refine ⟨[(g, e, cs)], .inr ⟨g, c', cs, by rw [h1, List.length_append], by rw [List.length_append]; exact hle, hmx, hsz, by rw [List.length_append, flat_app]; exact htk, rfl⟩, ⟨hmB, ⟨hrow, trivial⟩, ⟨(fun _ h => by cases h), trivial⟩, fun x hx hlt => ?_⟩⟩
      have : x = (g, e, cs) := by simpa using hx
      subst this
      rcases h5 with h5 | h5
      · subst h1
        rcases h with ⟨h1, _, _⟩ | ⟨g', c'', cs', h1, _, _, _, _, h6⟩
        · subst h1; simp [Value.ownBlock] at h5
        · subst h1; subst h6
          simp [Value.ownBlock] at h5
          exact ⟨(g', e, cs'), by simp, h5.symm⟩
      · subst h1
        simp [Value.ownBlock] at h5
        exact absurd hlt (by show ¬ g < w.heap.size; omega)
variable {Q : Exit → Act → World → Prop} {n : Nat} {B : Nat → Prop} {w0 : World} {os : List Ass} {env : List (Nat × Value)} {o : Oper}
theorem a_append8 (i : Nat) (hT : SliceT P t e 1) (h1 : (P.info? e).map (fun i => i.bytes) = some 1) (hi : os[i]? = some (Vec e 1 encB v l)) (m : List UInt8) (hu : ∀ w, Hp B w0 w os → SlRd w 1 u m.length (flat encB m)) (hlen : l.length + m.length ≤ 140737488355328) {x y : Operand} (ho : o.op = .call { callee := .builtin .append, args := #[x, y], argTypes := #[t, t] }) (hx : evs env x = some v) (hy : evs env y = some u) {r : List UInt8} (hr : l ++ m = r) :
    Acts P Q n env B w0 os o (fun v : Value => v) (fun v' => os.set i (Vec e 1 encB v' r)) := fun act w hH hF K hK => by
  subst hr
  have hH' := hH
  obtain ⟨rs0, hp, hm⟩ := hH
  obtain ⟨a, z, b, e1, hz, hb⟩ := hp.at_ hi
  subst e1
  have p : (a ++ (z ++ b)).Perm (z ++ (a ++ b)) := by rw [← List.append_assoc, ← List.append_assoc]; exact List.perm_append_comm.append_right b
  have h5 := hp_perm hm p
  have hd := dist_iff.1 h5.apart
  rw [List.map_append] at hd
  obtain ⟨v', w', hr, y', hy', hc⟩ := run_append8 (P := P) (ty := o.type) hT h1 hz (rows_iff.2 fun z hz => h5.rows.mem z (by simp [hz])) (dist_iff.2 (List.nodup_append.1 hd).1) (hu w hH') hlen
  have p' : (y' ++ (a ++ b)).Perm (a ++ (y' ++ b)) := by rw [← List.append_assoc, ← List.append_assoc]; exact List.perm_append_comm.append_right b
  refine a_val (w0 := w) act (exec_bi ho (vs := [v, u]) (by simp [evl, hx, hy]) (fun cs => ?_) hF) (hK v' w' ⟨_, hb _ y' hy', hp_perm (hp_chg h5 hc) p'⟩)
  simp only [builtin, Sem.run_bind, Sem.run_pure, Result.andThen_ok, hr]
end
section
variable {P : Program} {Q : Exit → Act → World → Prop} {n : Nat} {B : Nat → Prop} {w0 : World} {os : List Ass} {env : List (Nat × Value)} {o : Oper} {t e : TypeId}
end
end Go.Proofs.YtlkknncndgamdaaDoor.Sep

namespace Go.Proofs.YtlkknncndgamdaaDoor.Sep
open Go.RowKit
open Go.Proofs.YtlkknncndgamdaaDoor.Mem (Dist Blk Chg below0)
theorem ty_of_12_string : AggOf Tryd.prog 71 12 := aggOf Tryd.underlying71 rfl (by kernel_rfl)
theorem ze_of_12_string : Zero Tryd.prog 71 #[.string { data := #[] }, .string { data := #[] }, .string { data := #[] }, .string { data := #[] }, .string { data := #[] }, .string { data := #[] }, .string { data := #[] }, .string { data := #[] }, .string { data := #[] }, .string { data := #[] }, .string { data := #[] }, .string { data := #[] }] := zero_of (z := .agg #[.string { data := #[] }, .string { data := #[] }, .string { data := #[] }, .string { data := #[] }, .string { data := #[] }, .string { data := #[] }, .string { data := #[] }, .string { data := #[] }, .string { data := #[] }, .string { data := #[] }, .string { data := #[] }, .string { data := #[] }]) (by kernel_rfl) rfl
theorem ze_of_3_uint8 : Zero Tryd.prog 93 #[.int .u8 0, .int .u8 0, .int .u8 0] := zero_of (z := .agg #[.int .u8 0, .int .u8 0, .int .u8 0]) (by kernel_rfl) rfl
theorem ty_s_uint8 : OneOf Tryd.prog 33 := oneOf Tryd.underlying33 rfl (by kernel_rfl)
theorem ty_api_Cmd : AggOf Tryd.prog 28 10 := aggOf Tryd.underlying28 rfl (by kernel_rfl)
theorem ze_api_Cmd : Zero Tryd.prog 28 #[.int .i64 0, .int .u64 0, .int .u64 0, .int .u64 0, .int .u64 0, .int .i64 0, .int .u64 0, .int .i64 0, .string { data := #[] }, .string { data := #[] }] := zero_of (z := .agg #[.int .i64 0, .int .u64 0, .int .u64 0, .int .u64 0, .int .u64 0, .int .i64 0, .int .u64 0, .int .i64 0, .string { data := #[] }, .string { data := #[] }]) (by kernel_rfl) rfl
theorem ty_api_Dec : AggOf Tryd.prog 26 3 := aggOf Tryd.underlying26 rfl (by kernel_rfl)
theorem ze_api_Dec : Zero Tryd.prog 26 #[.int .i64 0, .int .u64 0, .int .i64 0] := zero_of (z := .agg #[.int .i64 0, .int .u64 0, .int .i64 0]) (by kernel_rfl) rfl
theorem ty_api_Errno : OneOf Tryd.prog 34 := oneOf Tryd.underlying34 rfl (by kernel_rfl)
theorem ty_api_Wide : AggOf Tryd.prog 24 2 := aggOf Tryd.underlying24 rfl (by kernel_rfl)
theorem ty_int : OneOf Tryd.prog 3 := oneOf Tryd.underlying3 rfl (by kernel_rfl)
theorem ty_int64 : OneOf Tryd.prog 2 := oneOf Tryd.underlying2 rfl (by kernel_rfl)
theorem ty_string : OneOf Tryd.prog 9 := oneOf Tryd.underlying9 rfl (by kernel_rfl)
theorem ty_uint64 : OneOf Tryd.prog 22 := oneOf Tryd.underlying22 rfl (by kernel_rfl)
theorem ty_uint8 : OneOf Tryd.prog 5 := oneOf Tryd.underlying5 rfl (by kernel_rfl)
theorem fd_api_Cmd_0 : FieldAt Tryd.prog 28 0 0 := fun g off w => by kernel_rfl
theorem fd_api_Cmd_1 : FieldAt Tryd.prog 28 1 1 := fun g off w => by kernel_rfl
theorem fd_api_Cmd_2 : FieldAt Tryd.prog 28 2 2 := fun g off w => by kernel_rfl
theorem fd_api_Cmd_3 : FieldAt Tryd.prog 28 3 3 := fun g off w => by kernel_rfl
theorem fd_api_Cmd_4 : FieldAt Tryd.prog 28 4 4 := fun g off w => by kernel_rfl
theorem fd_api_Cmd_5 : FieldAt Tryd.prog 28 5 5 := fun g off w => by kernel_rfl
theorem fd_api_Cmd_6 : FieldAt Tryd.prog 28 6 8 := fun g off w => by kernel_rfl
theorem fd_api_Cmd_7 : FieldAt Tryd.prog 28 7 9 := fun g off w => by kernel_rfl
theorem fd_api_Dec_0 : FieldAt Tryd.prog 26 0 0 := fun g off w => by kernel_rfl
theorem fd_api_Dec_1 : FieldAt Tryd.prog 26 1 2 := fun g off w => by kernel_rfl
theorem fd_api_Wide_0 : FieldAt Tryd.prog 24 0 0 := fun g off w => by kernel_rfl
theorem fd_api_Wide_1 : FieldAt Tryd.prog 24 1 1 := fun g off w => by kernel_rfl
theorem fd_bursarref1_Reader_0 : FieldAt Tryd.prog 80 0 0 := fun g off w => by kernel_rfl
theorem fd_pack_Reader_0 : FieldAt Tryd.prog 86 0 0 := fun g off w => by kernel_rfl
theorem fd_pack_Reader_1 : FieldAt Tryd.prog 86 1 1 := fun g off w => by kernel_rfl
theorem ix_of_12_string (i : Nat) (h : i < 12) : IdxAt Tryd.prog 71 (i : Int) i := fun g off w => idx_arr Tryd.underlying71 (by kernel_rfl) h
theorem ix_of_3_string (i : Nat) (h : i < 3) : IdxAt Tryd.prog 69 (i : Int) i := fun g off w => idx_arr Tryd.underlying69 (by kernel_rfl) h
theorem ix_of_3_uint8 (i : Nat) (h : i < 3) : IdxAt Tryd.prog 93 (i : Int) i := fun g off w => idx_arr Tryd.underlying93 (by kernel_rfl) h
theorem sl_uint8 : SliceT Tryd.prog 33 5 1 := sliceT_of (z := .int .u8 0) Tryd.underlying33 (by kernel_rfl) rfl rfl (by decide)
def flS : List ((Nat × Nat) × Nat) := [((28, 0), 0), ((28, 1), 1), ((28, 2), 2), ((28, 3), 3), ((28, 4), 4), ((28, 5), 5), ((28, 6), 8), ((28, 7), 9), ((26, 0), 0), ((26, 1), 2), ((24, 0), 0), ((24, 1), 1), ((80, 0), 0), ((86, 0), 0), ((86, 1), 1)]
theorem hflS : Flds Tryd.prog flS := flds_of ⟨fd_api_Cmd_0, fd_api_Cmd_1, fd_api_Cmd_2, fd_api_Cmd_3, fd_api_Cmd_4, fd_api_Cmd_5, fd_api_Cmd_6, fd_api_Cmd_7, fd_api_Dec_0, fd_api_Dec_1, fd_api_Wide_0, fd_api_Wide_1, fd_bursarref1_Reader_0, fd_pack_Reader_0, fd_pack_Reader_1, trivial⟩

theorem eqB (b c : Bool) : EqAt Tryd.prog 4 (.bool b) (.bool c) (b == c) := fun x y w => by
  cases b <;> cases c <;> go_simp
theorem neB (b c : Bool) : NeAt Tryd.prog 4 (.bool b) (.bool c) (b != c) := fun x y w => by
  cases b <;> cases c <;> go_simp
theorem eqB_same (b : Bool) : EqAt Tryd.prog 4 (.bool b) (.bool b) true := by
  have h := eqB b b
  rwa [show (b == b) = true by simp] at h
theorem eqD (a b c d e f : Int) : EqAt Tryd.prog 26 (.agg #[.int .i64 a, .int .u64 b, .int .i64 c]) (.agg #[.int .i64 d, .int .u64 e, .int .i64 f]) (a == d && (b == e && c == f)) := fun x y w => by
  go_simp
  by_cases h1 : a = d <;> by_cases h2 : b = e <;> by_cases h3 : c = f <;> simp [h1, h2, h3]
end Go.Proofs.YtlkknncndgamdaaDoor.Sep
