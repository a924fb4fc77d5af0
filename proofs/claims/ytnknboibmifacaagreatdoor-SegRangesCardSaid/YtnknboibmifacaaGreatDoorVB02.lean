/-
  CmdK · Law · Opz · Prt · DskM · TyC · Fil · CmdA · CmdB
-/
import Derived.Test.YtnknboibmifacaaGreatDoorVA01
import Derived.Test.YtnknboibmifacaaGreatDoorVA06
import Derived.Test.YtnknboibmifacaaGreatDoorVA07
import Derived.Test.YtnknboibmifacaaGreatDoorVB01
import Derived.Test.YtnknboibmifacaaGreatDoorRows
import Derived.ProofKit
import Derived.OpenShut
import Derived.JoinedCond
import Derived.SizedLaws
import Derived.Test.YtnknboibmifacaaGreatDoorChecked
set_option linter.unusedSimpArgs false
set_option linter.unusedVariables false
namespace Go.Proofs.YtnknboibmifacaaGreatDoor.Sep
open Go.RowKit
open Go.Proofs.YtnknboibmifacaaGreatDoor.Mem (AR B3 Chg Av)
section
variable {P : Program} {n : Nat} {B : Nat → Prop} {w0 w : World} {os : List Ass} {env : List (Nat × Value)} {o : Oper} {a : Act}
theorem Kg {T T' : TypeId} {x y : Operand} {k : IntKind} {p q r : Int} (hr : bits .or k p q = r) (ho : o.op = .binOp .or T x y T') (hx : evs env x = some (.int k p)) (hy : evs env y = some (.int k q)) (hF : Fr n a env) : (execOp a.eval o).run P w = .ok (.value (.int k r)) w := by
 unfold execOp
 simp only [ho, hF.evs hx, hF.evs hy]
 simp [eqGuard, binOp, intBits_or, hr]
theorem KL {T T' : TypeId} {x y : Operand} {k : IntKind} {p q r : Int} (hr : bits .and k p q = r) (ho : o.op = .binOp .and T x y T') (hx : evs env x = some (.int k p)) (hy : evs env y = some (.int k q)) (hF : Fr n a env) : (execOp a.eval o).run P w = .ok (.value (.int k r)) w := by
 unfold execOp
 simp only [ho, hF.evs hx, hF.evs hy]
 simp [eqGuard, binOp, intBits_and, hr]
theorem UE {T e : TypeId} {N i : Nat} {g off : Nat} (hT : P.underlying T = some (.array N e)) (hs : (P.info? e).map (fun i => i.size) = some 1) (h : i < N) : (Instr.indexAt T (.pointer (some ⟨g, off, none⟩)) (.int .i64 (i : Int))).run P w = .ok (.pointer (some ⟨g, off + i, none⟩)) w := by
  have hz : (sizeOf e).run P w = .ok 1 w := by
    cases hq : P.info? e with
    | none => simp [hq] at hs
    | some j =>
      simp only [hq, Option.map_some, Option.some.injEq] at hs
      simp [sizeOf, typeInfo, hq, hs]
  have hi : (0 : Int) ≤ (i : Int) ∧ (i : Int) < (N : Int) := by omega
  simp only [Instr.indexAt, asIntOf, Sem.run_bind, Sem.run_pure, Result.andThen_ok, run_underlying hT w, Instr.sureAddr, hz]
  simp [hi, hz, Addr.add]
theorem Jn {T T' e : TypeId} {v : Value} {l : List UInt8} {x : Operand} (hs : P.underlying T = some (.slice e)) (he : P.underlying e = some (.int .u8)) (hi : (P.info? e).map (fun i => (i.zero, i.size, i.bytes)) = some (some (.int .u8 0), 1, 1)) (hd : P.underlying T' = some .string) (h : D9 w v l) (ho : o.op = .convert T T' x) (hx : evs env x = some v) (hF : Fr n a env) : (execOp a.eval o).run P w = .ok (.value (.string (bs l))) w := by
 obtain ⟨A, c, rfl, hb⟩ := h
 have := Um (P := P) ⟨hs, he, hi⟩ hd hb
 unfold execOp
 simp only [ho, hF.evs hx, Sem.run_bind, Sem.run_pure, Result.andThen_ok, this]
 rfl
end
theorem Qu {w : World} {A : Option Addr} {c : Nat} {l : List UInt8} (h : D9 w (.slice A l.length c) l) (hl : l.length ≤ 140737488355328) (most : Nat) (hm : most < 18446744073709551616) (R : Nat × Nat × Nat) (hv : B1 most l 0 0 = R) : Calls Tryz.prog 197 #[.slice A l.length c, .int .u64 (most : Int)] w fun e w' => e = .returned (.tuple #[.int .u64 (R.1 : Int), .int .i64 (R.2.1 : Int), .int .i64 (R.2.2 : Int)]) ∧ Below w.heap.size w w' := by
 subst hv
 obtain ⟨A', c', e, hb⟩ := h
 simp only [Value.slice.injEq] at e
 obtain ⟨rfl, _, rfl⟩ := e
 refine (O4 w A c l most hb hl hm).mono ?_
 rintro e w' ⟨he, rfl⟩
 exact ⟨he, Below.refl _ _⟩
section
variable {P : Program} {n : Nat} {w : World} {env : List (Nat × Value)} {o : Oper} {a : Act}
end
theorem Fz {w0 w : World} {v : Value} {l : List UInt8} {os : List Ass} (h : D9 w0 v l) (hH : Hp Nil w0 w os) : D9 w v l := h.below (hH.up.below (Nat.le_refl _) (fun _ h => h.elim))
theorem Hx (w : World) : D9 w (.slice none 0 0) [] := ⟨none, 0, rfl, Bs.nil _ _ _ (by decide)⟩
theorem D9.drop {w : World} {A : Option Addr} {c k : Nat} {l : List UInt8} (h : D9 w (.slice A l.length c) l) (hk : k ≤ l.length) : D9 w (.slice (if c = k then A else A.map (·.add k)) (l.drop k).length (c - k)) (l.drop k) := by
  obtain ⟨A', c', e, hb⟩ := h
  simp only [Value.slice.injEq] at e
  obtain ⟨rfl, _, rfl⟩ := e
  exact ⟨_, _, rfl, hb.drop hk⟩
theorem D9.takes {w : World} {A : Option Addr} {c k : Nat} {l : List UInt8} (h : D9 w (.slice A l.length c) l) (hk : k ≤ l.length) : D9 w (.slice A (l.take k).length c) (l.take k) := by
 obtain ⟨A', c', e, hb⟩ := h
 simp only [Value.slice.injEq] at e
 obtain ⟨rfl, _, rfl⟩ := e
 exact ⟨_, _, rfl, hb.take hk⟩
section
variable {P : Program} {n : Nat} {w : World} {env : List (Nat × Value)} {o : Oper} {a : Act}
theorem F4 {T T' : TypeId} {x y : Operand} {k : IntKind} {p q r : Int} (ho : o.op = .binOp .rem T x y T') (hx : evs env x = some (.int k p)) (hy : evs env y = some (.int k q)) (hq : q ≠ 0) (hr : p.tmod q = r) (hF : Fr n a env) : (execOp a.eval o).run P w = .ok (.value (.int k r)) w := by
 unfold execOp
 simp only [ho, hF.evs hx, hF.evs hy]
 simp [eqGuard, binOp, Op.intArith, Op.intDiv, hq, hr]
end
section
variable {P : Program} {t e ty : TypeId} {v u : Value} {l m : List UInt8} {w w' : World} {rs : List RowT}
theorem NO (hT : SliceT P t e 1) (h1 : (P.info? e).map (fun i => i.bytes) = some 1) (h : Ak e 1 encB v l rs) (hr : RowsOf w rs) (hd : AR rs) (hu : Dd w 1 u m.length (flat encB m)) (hlen : l.length + m.length ≤ 140737488355328) :
    ∃ v' w', (Builtin.append_ #[t, t] ty #[v, u]).run P w = .ok v' w' ∧ ∃ rs', Ak e 1 encB v' (l ++ m) rs' ∧ Chg w w' rs rs' := by
  obtain ⟨i, z, hi, hz, hk, hby, hzs, _⟩ := hT.inf
  have hb1 : i.bytes = 1 := by simpa [hi] using h1
  obtain ⟨hul, A, c, rfl, hA⟩ := hu
  have hu1 := IF OR m
  rcases hA with ⟨rfl, hm⟩ | ⟨a, rfl, hcells⟩
  · have hm' : m = [] := List.length_eq_zero_iff.1 hm
    subst hm'
    refine ⟨v, w, ?_, rs, by simpa using h, ⟨Mod.refl _ _, hr, hd, fun x hx _ => ⟨x, hx, rfl⟩⟩⟩
    rcases h with ⟨h1, h2, h3⟩ | ⟨g, c', cs, h1, h2, h3, h4, h5, h6⟩
    · subst h1
      simp [Builtin.append_, run_underlying hT.ht, sizeOf, typeInfo, hi, Builtin.lenOf, Builtin.firstCells]
    · subst h1
      simp [Builtin.append_, run_underlying hT.ht, sizeOf, typeInfo, hi, Builtin.lenOf, Builtin.firstCells, h2, storeCells]
  · have hown : w.ownsRow 0 e 1 v l.length (flat encB l) := by
      refine ⟨Dj OR l, ?_⟩
      rcases h with ⟨h1, h2, h3⟩ | ⟨g, c', cs, h1, h2, h3, h4, h5, h6⟩
      · exact .inl ⟨h1, by rw [h2]; rfl⟩
      · subst h6
        exact .inr ⟨g, c', cs, h1, Nat.zero_le _, hr.1, h2, h3, h4, h5⟩
    obtain ⟨v', w', hrun, h2, h3, _, h5⟩ := run_append_own_at (P := P) w 0 t ty e i z 1 i.bytes hT.ht hi hz hk rfl hzs hT.pos v l.length (flat encB l) hown a m.length c (flat encB m) hul hcells hu1 (by unfold maxLen; omega)
      (by rw [hb1]; omega) (Nat.zero_le _)
    refine ⟨v', w', hrun, ?_⟩
    have hm : Mod (At v) w w' := Mod.of_grown h3 (fun k hk => hk)
    have hmB : Mod (B3 rs) w w' := hm.weaken fun j _ hj => by
      rcases h with ⟨h1, _, _⟩ | ⟨g, c', cs, h1, _, _, _, _, h6⟩
      · subst h1; unfold At at hj; simp [Value.ownBlock] at hj
      · subst h1; subst h6
        unfold At at hj
        simp [Value.ownBlock] at hj
        exact ⟨(g, EO e, cs), by simp, hj⟩
    rcases h2.2 with ⟨h1, hn⟩ | ⟨g, c', cs, h1, _, hrow, hle, hmx, hsz, htk⟩
    · have : l ++ m = [] := List.length_eq_zero_iff.1 (by rw [List.length_append]; exact hn)
      exact ⟨[], .inl ⟨h1, this, rfl⟩, ⟨hmB, trivial, trivial, fun x hx => by simp at hx⟩⟩
    · refine ⟨[(g, EO e, cs)], .inr ⟨g, c', cs, by rw [h1, List.length_append], by rw [List.length_append]; exact hle, hmx, hsz, by rw [List.length_append, FX]; exact htk, rfl⟩, ⟨hmB, ⟨hrow, trivial⟩, ⟨(fun _ h => by cases h), trivial⟩, fun x hx hlt => ?_⟩⟩
      have : x = (g, EO e, cs) := by simpa using hx
      subst this
      rcases h5 with h5 | h5
      · subst h1
        rcases h with ⟨h1, _, _⟩ | ⟨g', c'', cs', h1, _, _, _, _, h6⟩
        · subst h1; simp [Value.ownBlock] at h5
        · subst h1; subst h6
          simp [Value.ownBlock] at h5
          exact ⟨(g', EO e, cs'), by simp, h5.symm⟩
      · subst h1
        simp [Value.ownBlock] at h5
        exact absurd hlt (by show ¬ g < w.heap.size; omega)
variable {Q : Exit → Act → World → Prop} {n : Nat} {B : Nat → Prop} {w0 : World} {os : List Ass} {env : List (Nat × Value)} {o : Oper}
theorem F5 (i : Nat) (hT : SliceT P t e 1) (h1 : (P.info? e).map (fun i => i.bytes) = some 1) (hi : os[i]? = some (Ak e 1 encB v l)) (m : List UInt8) (hu : ∀ w, Hp B w0 w os → Dd w 1 u m.length (flat encB m)) (hlen : l.length + m.length ≤ 140737488355328) {x y : Operand} (ho : o.op = .call { callee := .builtin .append, args := #[x, y], argTypes := #[t, t] }) (hx : evs env x = some v) (hy : evs env y = some u) {r : List UInt8} (hr : l ++ m = r) :
  Bm P Q n env B w0 os o (fun v : Value => v) (fun v' => os.set i (Ak e 1 encB v' r)) := fun act w hH hF K hK => by
 subst hr
 have hH' := hH
 obtain ⟨rs0, hp, hm⟩ := hH
 obtain ⟨a, z, b, e1, hz, hb⟩ := hp.at_ hi
 subst e1
 have p : (a ++ (z ++ b)).Perm (z ++ (a ++ b)) := by rw [← List.append_assoc, ← List.append_assoc]; exact List.perm_append_comm.append_right b
 have h5 := CV hm p
 have hd := Bk.1 h5.apart
 rw [List.map_append] at hd
 obtain ⟨v', w', hr, y', hy', hc⟩ := NO (P := P) (ty := o.type) hT h1 hz (Bt.2 fun z hz => h5.rows.mem z (by simp [hz])) (Bk.2 (List.nodup_append.1 hd).1) (hu w hH') hlen
 have p' : (y' ++ (a ++ b)).Perm (a ++ (y' ++ b)) := by rw [← List.append_assoc, ← List.append_assoc]; exact List.perm_append_comm.append_right b
 refine Ft (w0 := w) act (EJ ho (vs := [v, u]) (by simp [evl, hx, hy]) (fun cs => ?_) hF) (hK v' w' ⟨_, hb _ y' hy', CV (Fs h5 hc) p'⟩)
 simp only [builtin, Sem.run_bind, Sem.run_pure, Result.andThen_ok, hr]
end
section
variable {P : Program} {Q : Exit → Act → World → Prop} {n : Nat} {B : Nat → Prop} {w0 : World} {os : List Ass} {env : List (Nat × Value)} {o : Oper} {t e : TypeId}
end
end Go.Proofs.YtnknboibmifacaaGreatDoor.Sep
namespace Go.Proofs.YtnknboibmifacaaGreatDoor
open Go.ChangeShapes Go.WideShapes Go.ChangeAt Go.RowKit
theorem own : ownKnob Tryz.prog.godebug = none := by kernel_rfl
theorem Uj : laidOutB Tryz.prog = true := by kernel_rfl
section
variable {H : Type} {enc : TypeId × Value → H} {P : Program}
theorem H2 (hl : laidOutB P = true) {W W' : World} (hb : Below W.heap.size W W') :
    ∀ {ts : List TypeId} {vs : List Value} {ds : List (DataW H)} {ps : List MemPlace}, (∀ t ∈ ts, P.readableRec t = true ∧ t < P.types.size) → (∀ x ∈ ps, x.block < W.heap.size) →
      DataW.TrodAll enc P W 0 (fun _ => true) true ts vs ds ps → DataW.TrodAll enc P W' 0 (fun b => decide (b < W.heap.size)) true ts vs ds ps
  | [], vs, ds, ps, _, _, h => by
    obtain ⟨rfl, rfl, rfl⟩ := trodAll_nil h
    rfl
  | t :: ts, vs, ds, ps, ht, hp, h => by
    obtain ⟨v, vs1, d, ds1, a, b, rfl, rfl, rfl, h1, h2⟩ := trodAll_cons h
    obtain ⟨hr, hrow⟩ := ht t List.mem_cons_self
    exact ⟨a, b, Below.trod hl hr hrow h1 hb (fun x hx => hp x (List.mem_append_left _ hx)), H2 hl hb (fun t h => ht t (List.mem_cons_of_mem _ h)) (fun x hx => hp x (List.mem_append_right _ hx)) h2, rfl⟩
theorem Sp {f : Func} {s : ChangeSpec} {tb : TypeId} {W W' : World} {args : Array Value} {ds gs : List (DataW H)} {before : List MemPlace}
    (hl : laidOutB P = true) (hr : f.resultTypes = #[tb]) (htb : P.underlying tb = some .bool) (hread : ∀ t ∈ f.params.toList, P.readableRec t = true ∧ t < P.types.size)
    (hvars : s.vars = []) (hs : s.fn H ds = { results := [.lit (.bool true)], args := ds })
    (hW : DataW.Whole enc P f.params.toList s.vars false W args.toList ds gs before) (hb : Below W.heap.size W W') :
    s.post enc P f false true false false W args (.bool true) W' := by
  have hW' := hW
  obtain ⟨p, q, hA, hV, rfl, hfz, hnd⟩ := hW
  rw [hvars] at hV
  obtain ⟨rfl, rfl⟩ := trodVars_none hV
  have hlt : ∀ x ∈ p, x.block < W.heap.size := fun x hx => hW'.lt x (by simpa using hx)
  refine ⟨ds, [], p ++ [], [], p, [], hW', ?_, ?_, ?_, ?_, fun h => by cases h⟩
  · rw [List.append_nil, hs, hr]
    exact trodAll_cons_mk (shut_bool htb true) trodAll_mk0
  · rw [List.append_nil, hs]
    exact H2 hl hb hread hlt hA
  · rw [List.append_nil, hs, hvars]
    rfl
  · exact World.keptBut_mono (fun x hx => ⟨hx, .inr (.inl (by simpa using hx))⟩) (hb.frame (· ∈ p ++ []))
end
section
variable {H : Type} {enc : TypeId × Value → H} {P : Program}
theorem Rt {w : World} {a : Addr} {v : Value} (h : w.cell? a = some v) : a = ⟨a.block, a.off, none⟩ := by
 obtain ⟨b, o, s⟩ := a
 have : s = none := by simpa using World.cell?_spot h
 subst this
 rfl
theorem SV {W : World} {base : Nat} {spare : Nat → Bool} {held : Bool} {t e : TypeId} {fuel : Nat} {cs : List Value} {x : DataW H × List MemPlace} (hu : U8 P t e) (hc : P.cellsOf e = 1)
    (hf : DataW.trod enc P W base spare held fuel t cs = some x) : ∃ A c l, cs = [.slice A l.length c] ∧ Bs (fun k => k < W.heap.size) W A c l ∧ ((x.1 = .nil ∧ l = []) ∨ ∃ es sp, x.1 = .slice es sp ∧ es.length = l.length) := by
  rcases open_ints hu.ht hu.he hc hf with ⟨hcs, hx⟩ | ⟨a, len, cap, zs, hcs, _, hl, hm, hz, hx, hcell, hwz⟩
  · subst hcs
    exact ⟨none, 0, [], rfl, Bs.nil _ _ _ (by simp [maxLen]), .inl ⟨by rw [hx], rfl⟩⟩
  · subst hcs
    have hlz : len ≤ zs.length := by rw [hz]; split <;> omega
    have e0 : ((zs.take len).map (fun z => UInt8.ofNat z.toNat)).length = len := by simp; omega
    refine ⟨some a, cap, (zs.take len).map (fun z => UInt8.ofNat z.toNat), by rw [e0], ⟨by omega, hm, fun hn => ?_⟩, .inr ⟨_, _, by rw [hx], by simp [lits]⟩⟩
    have h0 := hcell 0 (by omega)
    have hs : a = ⟨a.block, a.off, none⟩ := by
      have := h0
      rw [show a.add 0 = a by simp [Addr.add]] at this
      exact Rt this
    have hb := World.block_lt_of_cell? _ _ h0
    rw [hs, Addr.add_lit] at hb
    refine ⟨a.block, a.off, by rw [← hs], hb, fun j b hj => ?_⟩
    have hjl := (List.getElem?_eq_some_iff.1 hj).1
    rw [e0] at hjl
    have hcj := hcell j (by omega)
    rw [hs, Addr.add_lit] at hcj
    rw [hcj]
    have hbj : b = UInt8.ofNat (zs.getD j 0).toNat := by
      rw [List.getElem?_map, List.getElem?_take, if_pos (by omega), List.getElem?_eq_getElem (by omega)] at hj
      simp only [Option.map_some, Option.some.injEq] at hj
      rw [← hj, List.getD, List.getElem?_eq_getElem (by omega)]
      rfl
    have hw : 0 ≤ zs.getD j 0 ∧ zs.getD j 0 ≤ 255 := by
      have hmem : zs.getD j 0 ∈ zs := by
        rw [List.getD, List.getElem?_eq_getElem (show j < zs.length by omega)]
        exact List.getElem_mem _
      simpa [Lit.wf, IntKind.min, IntKind.max, IntKind.signed, IntKind.bits] using hwz _ hmem
    rw [hbj]
    unfold Sn
    simp only [UInt8.toNat_ofNat']
    congr 2
    omega
end
theorem Mw {x : Int} (h : (Lit.int .i64 x).wf = true) : -9223372036854775808 ≤ x ∧ x ≤ 9223372036854775807 := by
 simpa [Lit.wf, IntKind.min, IntKind.max, IntKind.signed, IntKind.bits] using h
theorem OT {x : Int} (h : (Lit.int .u64 x).wf = true) : 0 ≤ x ∧ x ≤ 18446744073709551615 := by
 simpa [Lit.wf, IntKind.min, IntKind.max, IntKind.signed, IntKind.bits] using h
theorem Nl {P : Program} {l : List TypeId} (h : l.all (fun t => P.readableRec t && decide (t < P.types.size)) = true) : ∀ t ∈ l, P.readableRec t = true ∧ t < P.types.size := by
 intro t ht
 have := List.all_eq_true.1 h t ht
 simpa using this
theorem SW : Tryz.prog.cellsOf 5 = 1 := by kernel_rfl
theorem SX : Tryz.prog.bytesOf 5 = 1 := by kernel_rfl
theorem XC {H : Type} {l : List (DataW H)} (hk : Rows.uptoSmall H l = true) : Rows.uptoBulkAll l ≤ 1048576 := of_decide_eq_true hk
end Go.Proofs.YtnknboibmifacaaGreatDoor
namespace Go.Proofs.YtnknboibmifacaaGreatDoor.Sep
open Go.ChangeShapes Go.WideShapes Go.ChangeAt Go.RowKit
section
variable {H : Type} {enc : TypeId × Value → H} {P : Program}
def Dq (P : Program) (t : TypeId) (d : DataW H) : Prop := ∀ n ∈ d.weights P t, n ≤ reachBytes
theorem sized_arg {ts : List TypeId} {ds : List (DataW H)} (h : (DataW.weightsEach P ts ds).all (· ≤ reachBytes) = true) {j : Nat} {t : TypeId} {d : DataW H} (ht : ts[j]? = some t) (hd : ds[j]? = some d) : Dq P t d := fun n hn => by
  have := List.all_eq_true.1 h n (DataW.weights_mem_each ht hd n hn)
  simpa using this
theorem Dq.field {t : TypeId} {fs : Array Field} {parts : List (DataW H)} {j : Nat} {f : Field} {d : DataW H} (h : Dq P t (.agg parts)) (hu : P.underlying t = some (.struct fs)) (hf : fs[j]? = some f) (hd : parts[j]? = some d) : Dq P f.type d := fun n hn => by
  refine h n ?_
  have hm := DataW.weights_mem_each (P := P) (ts := fs.toList.map (·.type)) (ds := parts) (j := j) (t := f.type) (d := d) (by simp [hf]) hd n hn
  simpa [DataW.weights, hu] using hm
theorem Dq.len {t e : TypeId} {es sp : List (DataW H)} (h : Dq P t (.slice es sp)) (hu : P.underlying t = some (.slice e)) : es.length * P.bytesOf e ≤ reachBytes := by
 have := h ((es.length + sp.length) * P.bytesOf e) (by simp [DataW.weights, hu])
 exact Nat.le_trans (Nat.mul_le_mul_right _ (Nat.le_add_right _ _)) this
theorem JQ {e : TypeId} : ∀ {es : List (DataW H)} {j : Nat} {d : DataW H}, es[j]? = some d → ∀ n ∈ d.weights P e, n ∈ DataW.weightsAll P e es
  | [], _, _, h, _, _ => by simp at h
  | d0 :: r, 0, d, h, n, hn => by
    simp only [List.getElem?_cons_zero, Option.some.injEq] at h
    subst h
    simp only [DataW.weightsAll, List.mem_append]
    exact .inl hn
  | d0 :: r, j + 1, d, h, n, hn => by
    simp only [List.getElem?_cons_succ] at h
    simp only [DataW.weightsAll, List.mem_append]
    exact .inr (JQ h n hn)
theorem Dq.elem {t e : TypeId} {es sp : List (DataW H)} (h : Dq P t (.slice es sp)) (hu : P.underlying t = some (.slice e)) {j : Nat} {d : DataW H} (hd : es[j]? = some d) : Dq P e d := fun n hn => by
 refine h n ?_
 have := JQ (P := P) hd n hn
 simp [DataW.weights, hu, this]
theorem MN {α : Type} [Inhabited α] {k : Nat} {enc' : α → List Value} {ok : α → Prop} {t e : TypeId} (he : EncOf k enc') (hk : 0 < k) (hu : P.underlying t = some (.slice e)) (hC : P.cellsOf e = k) {W : World} {base : Nat} {spare : Nat → Bool} {held : Bool} {v : Value} {n0 : Nat} {x0 : DataW H × List MemPlace}
    (hel : ∀ (n : Nat) (cs : List Value) (x : DataW H × List MemPlace), cs.length = k → DataW.trod enc P W base spare held n e cs = some x → Dq P e x.1 → ∃ y : α, cs = enc' y ∧ ok y)
    (hf : DataW.trod enc P W base spare held n0 t [v] = some x0) (hs : Dq P t x0.1) : ∃ A c, ∃ l : List α, v = .slice A l.length c ∧ l.length * P.bytesOf e ≤ reachBytes ∧ Dd W k v l.length (flat enc' l) ∧ ∀ y ∈ l, ok y := by
  rcases DataW.trod_slice hu hf with ⟨hcs, hx⟩ | ⟨a, len, cap, elems, rest, n, _, hcs, hx, _, hl, hm, hlen, hels, _, _⟩
  · simp at hcs
    subst hcs
    exact ⟨none, 0, [], rfl, by simp, ⟨by simp [flat], none, 0, rfl, .inl ⟨rfl, rfl⟩⟩, fun y hy => by cases hy⟩
  · simp at hcs
    subst hcs
    rw [hC] at hels
    rw [(Prod.mk.inj hx).1] at hs
    have hsl := hs.len hu
    rw [List.length_map] at hsl
    have each : ∀ i, i < len → ∃ y : α, ok y ∧ ∀ j x, (enc' y)[j]? = some x → W.cell? ((a.add (i * k)).add j) = some x := by
      intro i hi
      have h1 := hels i hi
      rw [List.getElem?_eq_getElem (show i < elems.length by omega), Option.bind_eq_some_iff] at h1
      obtain ⟨cs', hcs, ht⟩ := h1
      obtain ⟨_, hcl, hat⟩ := World.cells?_some hcs
      obtain ⟨y, rfl, hy⟩ := hel _ _ _ hcl ht (hs.elem hu (j := i) (by rw [List.getElem?_map, List.getElem?_eq_getElem (show i < elems.length by omega)]; rfl))
      exact ⟨y, hy, fun j x hj => (hat j (by rw [← hcl]; exact (List.getElem?_eq_some_iff.1 hj).1)).trans hj⟩
    obtain ⟨f, hf⟩ := Go.Deep.choose_lt each
    have hll : ((List.range len).map f).length = len := by simp
    have hat : ∀ {i : Nat} {y : α}, ((List.range len).map f)[i]? = some y → i < len ∧ y = f i := by
      intro i y hi
      have hil : i < len := by have := (List.getElem?_eq_some_iff.1 hi).1; simpa using this
      rw [List.getElem?_map, List.getElem?_range hil] at hi
      simp only [Option.map_some, Option.some.injEq] at hi
      exact ⟨hil, hi.symm⟩
    refine ⟨some a, cap, (List.range len).map f, by rw [hll], by rw [hll]; rw [show elems.length = len by omega] at hsl; exact hsl, ?_, ?_⟩
    · rw [hll]
      refine ⟨by rw [Dj he, hll], some a, cap, rfl, .inr ⟨a, rfl, fun q x hq => ?_⟩⟩
      obtain ⟨y, hy, hyx⟩ := Rc he hk hq
      obtain ⟨hil, rfl⟩ := hat hy
      have hc := (hf (q / k) hil).2 (q % k) x hyx
      have ha : a = ⟨a.block, a.off, none⟩ := by
        obtain ⟨z, hz⟩ : ∃ z, (enc' (f 0))[0]? = some z := ⟨_, List.getElem?_eq_getElem (by have := he.len (f 0); omega)⟩
        have h0 := (hf 0 (Nat.lt_of_le_of_lt (Nat.zero_le _) hil)).2 0 _ hz
        rw [Nat.zero_mul, show (a.add 0).add 0 = a by simp [Addr.add]] at h0
        exact VD h0
      rw [ha, Addr.add_lit, Addr.add_lit] at hc
      rw [ha, Addr.add_lit]
      have e1 : a.off + q / k * k + q % k = a.off + q := by rw [Nat.add_assoc, Nat.mul_comm]; congr 1; exact Nat.div_add_mod q k
      rw [e1] at hc
      exact hc
    · intro y hy
      obtain ⟨i, hi⟩ := List.getElem?_of_mem hy
      obtain ⟨hil, rfl⟩ := hat hi
      exact (hf i hil).1
theorem UF {W : World} {base : Nat} {spare : Nat → Bool} {held : Bool} {v : Value} {n0 : Nat} {x0 : DataW H × List MemPlace} (hf : DataW.trod enc Tryz.prog W base spare held n0 30 [v] = some x0) (hs : Dq Tryz.prog 30 x0.1) :
    ∃ A c l, v = .slice A l.length c ∧ D9 W (.slice A l.length c) l ∧ l.length ≤ reachBytes := by
  obtain ⟨A, c, l, hcs, hb, hd⟩ := SV Re SW hf
  simp at hcs
  refine ⟨A, c, l, hcs, ⟨A, c, rfl, hb.weaken fun _ _ _ => trivial⟩, ?_⟩
  rcases hd with ⟨_, rfl⟩ | ⟨es, sp, e, he⟩
  · simp
  · rw [e] at hs
    have := hs.len Tryz.underlying30
    rw [SX] at this
    omega
end
end Go.Proofs.YtnknboibmifacaaGreatDoor.Sep
namespace Go.Proofs.YtnknboibmifacaaGreatDoor.Sep
open Go.RowKit
open Go.Proofs.YtnknboibmifacaaGreatDoor.Mem (AR B3 Chg Av)
def Xt (v : Value) : List Value := [if v.oneCell' = true then v else .nilIface]
abbrev PtT := Value × List UInt8
def SY (te : TypeId) (v : Value) (l : List PtT) : Ass := Fq [Ak te 1 Xt v (l.map (·.1)), Bb (fun x : PtT => Ak 5 1 encB x.1 x.2) l]
section
variable {P : Program} {te t : TypeId} {v u : Value} {l : List PtT} {d : List UInt8} {w w0 : World} {rs : List RowT} {B : Nat → Prop} {os : List Ass} {Q : Exit → Act → World → Prop} {n : Nat} {env : List (Nat × Value)} {o : Oper} {act : Act}
theorem SY.at_ (h : SY te v l rs) (hr : RowsOf w rs) {j : Nat} (hj : l[j]? = some (u, d)) : ∃ ys, Ak 5 1 encB u d ys ∧ RowsOf w ys := by
 obtain ⟨a, b, e, h1, h2⟩ := h
 subst e
 exact (Al.one' h2).at_ (f := fun x : PtT => Ak 5 1 encB x.1 x.2) (x := ((u, d) : PtT)) (Bt.2 fun z hz => Bt.1 hr z (by simp [hz])) hj
end
structure PtV where
  A : Option Addr
  c : Nat
  d : List UInt8
def PtV.v (x : PtV) : Value := .slice x.A x.d.length x.c
def Xb (x : PtV) : List Value := [x.v]
instance : Inhabited PtV := ⟨⟨none, 0, []⟩⟩
def SZ (w : World) (v : Value) (l : List PtV) : Prop := Dd w 1 v l.length (flat Xb l) ∧ ∀ x, x ∈ l → D9 w x.v x.d
section
variable {u w w0 : World} {v : Value} {l : List PtV} {B : Nat → Prop} {os : List Ass}
theorem SZ.below (h : SZ u v l) (hb : Below u.heap.size u w) : SZ w v l := ⟨h.1.below hb, fun x hx => (h.2 x hx).below hb⟩
end
theorem UG {A : Option Addr} {n c j : Nat} : Ca 1 (.slice A n c) 0 j = .slice A j c := by
  have e : A.map (·.add 0) = A := by
    cases A with
    | none => rfl
    | some a =>
      have : a.add 0 = a := by obtain ⟨b, o, q⟩ := a; cases q <;> simp [Addr.add]
      simp [this]
  simp [Ca, e]
end Go.Proofs.YtnknboibmifacaaGreatDoor.Sep
namespace Go.Proofs.YtnknboibmifacaaGreatDoor.Sep
abbrev FS := List (List UInt8 × List UInt8)
inductive OpD where
  | app (n b : List UInt8)
  | cut (n : List UInt8) (size : Nat)
  | ren (a b : List UInt8)
  | del (n : List UInt8)
def CP (f : FS) : OpD → FS
  | .app n b => BM f n ((Bq f n).getD [] ++ b)
  | .cut n s => match Bq f n with | some x => BM f n (x.take s) | none => f
  | .ren a b => match Bq f a with | some x => BM (Cp f a) b x | none => f
  | .del n => Cp f n
def Be (f : FS) : Nat := (f.map fun p => p.2.length).sum
theorem Ic {f : FS} (h : (A6 f).Nodup) (o : OpD) : (A6 (CP f o)).Nodup := by
  cases o with
  | app n b => exact C9 h
  | cut n s =>
    show (A6 (match Bq f n with | some x => BM f n (x.take s) | none => f)).Nodup
    split
    · exact C9 h
    · exact h
  | ren a b =>
    show (A6 (match Bq f a with | some x => BM (Cp f a) b x | none => f)).Nodup
    split
    · exact C9 (Dn h)
    · exact h
  | del n => exact Dn h
theorem L8 : ∀ (l : List OpD) {f : FS}, (A6 f).Nodup → (A6 (l.foldl CP f)).Nodup
  | [], _, h => h
  | o :: r, _, h => L8 r (Ic h o)
theorem H3 {f : FS} (h : (A6 f).Nodup) : f.Nodup := (List.Pairwise.of_map (fun p : List UInt8 × List UInt8 => p.1) (fun a b (hab : a.1 ≠ b.1) e => hab (by rw [e])) h)
theorem FJ {f g : FS} (hf : (A6 f).Nodup) (hg : (A6 g).Nodup) (h : ∀ p, p ∈ f ↔ p ∈ g) : f.Perm g :=
 (List.perm_ext_iff_of_nodup (H3 hf) (H3 hg)).2 h
theorem EE {f g : FS} (h : f.Perm g) : (A6 f).Perm (A6 g) := h.map _
theorem FA {f g : FS} (h : f.Perm g) (hf : (A6 f).Nodup) (k : List UInt8) : Bq f k = Bq g k := by
  have hg : (A6 g).Nodup := (EE h).nodup_iff.1 hf
  cases e : Bq g k with
  | none => rw [Fh] at e ⊢; exact fun hm => e ((EE h).mem_iff.1 hm)
  | some x => exact (Cx hf).2 (h.mem_iff.2 ((Cx hg).1 e))
theorem KM {f g : FS} (h : f.Perm g) (hf : (A6 f).Nodup) (k x : List UInt8) : (BM f k x).Perm (BM g k x) := by
 have hg : (A6 g).Nodup := (EE h).nodup_iff.1 hf
 refine FJ (C9 hf) (C9 hg) fun p => ?_
 rw [Gj hf, Gj hg, h.mem_iff]
theorem NP {f g : FS} (h : f.Perm g) (hf : (A6 f).Nodup) (k : List UInt8) : (Cp f k).Perm (Cp g k) := by
 have hg : (A6 g).Nodup := (EE h).nodup_iff.1 hf
 refine FJ (Dn hf) (Dn hg) fun p => ?_
 rw [Gk hf, Gk hg, h.mem_iff]
theorem Ru {f g : FS} (h : f.Perm g) (hf : (A6 f).Nodup) (o : OpD) : (CP f o).Perm (CP g o) := by
  cases o with
  | app n b =>
    show (BM f n _).Perm (BM g n _)
    rw [FA h hf]; exact KM h hf _ _
  | cut n s =>
    show List.Perm (match Bq f n with | some x => BM f n (x.take s) | none => f) (match Bq g n with | some x => BM g n (x.take s) | none => g)
    rw [FA h hf]
    split
    · exact KM h hf _ _
    · exact h
  | ren a b =>
    show List.Perm (match Bq f a with | some x => BM (Cp f a) b x | none => f) (match Bq g a with | some x => BM (Cp g a) b x | none => g)
    rw [FA h hf]
    split
    · exact KM (NP h hf _) (Dn hf) _ _
    · exact h
  | del n => exact NP h hf _
theorem EF {f g : FS} (h : f.Perm g) : Be f = Be g := (h.map _).sum_nat
theorem Jo (p : List UInt8 × List UInt8) (f : FS) : Be (p :: f) = p.2.length + Be f := by simp [Be]
theorem KN (f g : FS) : Be (f ++ g) = Be f + Be g := by simp [Be]
theorem Ph {f : FS} {k x : List UInt8} (hf : (A6 f).Nodup) (h : Bq f k = some x) : f.Perm ((k, x) :: Cp f k) := by
  have hm := (Cx hf).1 h
  have hd := Dn (k := k) hf
  have hn : (A6 ((k, x) :: Cp f k)).Nodup := List.nodup_cons.2 ⟨fun hm => by
    obtain ⟨p, hp, e⟩ := List.mem_map.1 hm
    exact ((Gk hf p).1 hp).2 e, hd⟩
  refine FJ hf hn fun p => ?_
  rw [List.mem_cons, Gk hf]
  constructor
  · intro hp
    by_cases e : p.1 = k
    · left
      have := (Cx (x := p.2) hf).2 (show (k, p.2) ∈ f by rw [← e]; exact hp)
      rw [h] at this
      exact Prod.ext e (Option.some.inj this).symm
    · exact .inr ⟨hp, e⟩
  · rintro (rfl | ⟨hp, _⟩)
    · exact hm
    · exact hp
theorem GY {f : FS} {k x : List UInt8} (hf : (A6 f).Nodup) (h : Bq f k = some x) : Be (Cp f k) + x.length = Be f := by
 rw [EF (Ph hf h), Jo]; simp only; omega
theorem S0 {f : FS} {k : List UInt8} (h : Bq f k = none) : Cp f k = f := by
 unfold Cp
 unfold Bq at h
 rw [Option.map_eq_none_iff.1 h]
theorem IW {f : FS} {k x : List UInt8} (h : Bq f k = none) : Be (BM f k x) = Be f + x.length := by
 rw [E7 h, KN]; simp [Be]
theorem Gn {f : FS} {k x y : List UInt8} (hf : (A6 f).Nodup) (h : Bq f k = some y) : Be (BM f k x) + y.length = Be f + x.length := by
  have hp := C9 (k := k) (x := x) hf
  have h1 : Bq (BM f k x) k = some x := by rw [SQ hf, if_pos rfl]
  have h2 := GY hp h1
  have h3 := GY hf h
  have h4 : (Cp (BM f k x) k).Perm (Cp f k) := FJ (Dn hp) (Dn hf) fun p => by
    rw [Gk hp, Gj hf, Gk hf]
    constructor
    · rintro ⟨rfl | h, h'⟩
      · exact absurd rfl h'
      · exact h
    · rintro ⟨h, h'⟩
      exact ⟨.inr ⟨h, h'⟩, h'⟩
  rw [EF h4] at h2
  omega
theorem NQ {f : FS} (hf : (A6 f).Nodup) (n b : List UInt8) : Be (CP f (.app n b)) = Be f + b.length := by
  show Be (BM f n _) = _
  cases h : Bq f n with
  | none => rw [IW h]; simp
  | some y =>
    have := Gn (x := y ++ b) hf h
    rw [List.length_append] at this
    simp only [Option.getD_some]
    omega
structure DiskD where
  room : Int
  syn : FS
  wait : List OpD
  fuse : Option Nat
  down : Bool
def DiskD.now (d : DiskD) : FS := d.wait.foldl CP d.syn
def Cj (d : DiskD) : DiskD × Nat :=
  if d.down = true ∨ d.fuse = some 0 then ({ d with down := true }, 3) else ({ d with fuse := d.fuse.map (· - 1) }, 0)
def DM (n : List UInt8) : Bool := decide (1 ≤ n.length) && decide (n.length ≤ 16)
def Dk (d : DiskD) (o : OpD) : DiskD := { d with wait := d.wait ++ [o] }
theorem GZ (d : DiskD) (o : OpD) : (Dk d o).now = CP d.now o := by
 show (d.wait ++ [o]).foldl CP d.syn = _
 rw [List.foldl_append]; rfl
def H4 (d : DiskD) (n b : List UInt8) : Bool := decide ((Be d.now : Int) + (b.length : Int) ≤ d.room) && !((Bq d.now n).isNone && decide (64 ≤ d.now.length))
def CO (d : DiskD) (n b : List UInt8) : DiskD × Nat :=
  match Cj d with
  | (d1, e) => if e ≠ 0 then (d1, e) else if DM n = false then (d1, 1) else if H4 d1 n b = false then (d1, 2) else (Dk d1 (.app n b), 0)
def S1 (d : DiskD) (n : List UInt8) (s : Int) : DiskD × Nat :=
  match Cj d with
  | (d1, e) => if e ≠ 0 then (d1, e) else match Bq d1.now n with
    | none => (d1, 4)
    | some x => if s < 0 ∨ (x.length : Int) < s then (d1, 1) else (Dk d1 (.cut n s.toNat), 0)
def Jp (d : DiskD) (n : List UInt8) : DiskD × Nat :=
  match Cj d with
  | (d1, e) => if e ≠ 0 then (d1, e) else match Bq d1.now n with
    | none => (d1, 4)
    | some _ => (Dk d1 (.del n), 0)
def D6 (d : DiskD) (n : List UInt8) : Option (List UInt8) := if d.down = true then none else Bq d.now n
def G0 (room : Int) : DiskD := ⟨room, [], [], none, false⟩
end Go.Proofs.YtnknboibmifacaaGreatDoor.Sep
namespace Go.Proofs.YtnknboibmifacaaGreatDoor.Sep
open Go.RowKit
open Go.Proofs.YtnknboibmifacaaGreatDoor.Mem (AR B3 Chg Av)
theorem CJ : C7 Tryz.prog 52 := Eo Tryz.underlying52 rfl (by kernel_rfl)
theorem G1 : LJ Tryz.prog 52 #[.slice none 0 0] := Hh (z := .slice none 0 0) (by kernel_rfl) rfl
theorem E4 : C7 Tryz.prog 82 := Eo Tryz.underlying82 rfl (by kernel_rfl)
theorem CS : C7 Tryz.prog 30 := Eo Tryz.underlying30 rfl (by kernel_rfl)
theorem Pi : LJ Tryz.prog 30 #[.slice none 0 0] := Hh (z := .slice none 0 0) (by kernel_rfl) rfl
theorem BH : Kl Tryz.prog 34 5 := Ss Tryz.underlying34 rfl (by kernel_rfl)
theorem Bz : LJ Tryz.prog 34 #[.int .i64 0, .int .u64 0, .int .u64 0, .slice none 0 0, .int .i64 0] := Hh (z := .agg #[.int .i64 0, .int .u64 0, .int .u64 0, .slice none 0 0, .int .i64 0]) (by kernel_rfl) rfl
theorem BI : C7 Tryz.prog 23 := Eo Tryz.underlying23 rfl (by kernel_rfl)
theorem IX : C7 Tryz.prog 4 := Eo Tryz.underlying4 rfl (by kernel_rfl)
theorem AX : C7 Tryz.prog 81 := Eo Tryz.underlying81 rfl (by kernel_rfl)
theorem E8 : C7 Tryz.prog 125 := Eo Tryz.underlying125 rfl (by kernel_rfl)
theorem FK : Kl Tryz.prog 127 5 := Ss Tryz.underlying127 rfl (by kernel_rfl)
theorem Cs : C7 Tryz.prog 214 := Eo Tryz.underlying214 rfl (by kernel_rfl)
theorem Bh : C7 Tryz.prog 3 := Eo Tryz.underlying3 rfl (by kernel_rfl)
theorem MO : LJ Tryz.prog 3 #[.int .i64 0] := Hh (z := .int .i64 0) (by kernel_rfl) rfl
theorem CF : C7 Tryz.prog 9 := Eo Tryz.underlying9 rfl (by kernel_rfl)
theorem AO : C7 Tryz.prog 31 := Eo Tryz.underlying31 rfl (by kernel_rfl)
theorem DA : C7 Tryz.prog 5 := Eo Tryz.underlying5 rfl (by kernel_rfl)
theorem G2 : Bx Tryz.prog 34 0 0 := fun g off w => by kernel_rfl
theorem G3 : Bx Tryz.prog 34 1 1 := fun g off w => by kernel_rfl
theorem KO : Bx Tryz.prog 34 2 2 := fun g off w => by kernel_rfl
theorem FB : Bx Tryz.prog 34 3 3 := fun g off w => by kernel_rfl
theorem G4 : Bx Tryz.prog 34 4 4 := fun g off w => by kernel_rfl
theorem Gp : Bx Tryz.prog 210 0 0 := fun g off w => by kernel_rfl
theorem Gq : Bx Tryz.prog 210 2 2 := fun g off w => by kernel_rfl
theorem G5 : Bx Tryz.prog 66 0 0 := fun g off w => by kernel_rfl
theorem G6 : Bx Tryz.prog 66 1 1 := fun g off w => by kernel_rfl
theorem Id : Bx Tryz.prog 131 0 0 := fun g off w => by kernel_rfl
theorem Ie : Bx Tryz.prog 131 1 1 := fun g off w => by kernel_rfl
theorem If : Bx Tryz.prog 131 2 2 := fun g off w => by kernel_rfl
theorem Ig : Bx Tryz.prog 131 3 3 := fun g off w => by kernel_rfl
theorem Ih : Bx Tryz.prog 131 4 4 := fun g off w => by kernel_rfl
theorem KP : Bx Tryz.prog 84 0 0 := fun g off w => by kernel_rfl
theorem KQ : Bx Tryz.prog 84 1 1 := fun g off w => by kernel_rfl
theorem KR : Bx Tryz.prog 84 2 2 := fun g off w => by kernel_rfl
theorem KS : Bx Tryz.prog 84 3 3 := fun g off w => by kernel_rfl
theorem KT : Bx Tryz.prog 84 4 4 := fun g off w => by kernel_rfl
theorem KU : Bx Tryz.prog 84 5 5 := fun g off w => by kernel_rfl
theorem HI : Bx Tryz.prog 127 0 0 := fun g off w => by kernel_rfl
theorem HJ : Bx Tryz.prog 127 1 1 := fun g off w => by kernel_rfl
theorem HK : Bx Tryz.prog 127 2 2 := fun g off w => by kernel_rfl
theorem HO : Bx Tryz.prog 127 3 3 := fun g off w => by kernel_rfl
theorem HP : Bx Tryz.prog 127 4 4 := fun g off w => by kernel_rfl
theorem Jq : Bx Tryz.prog 241 0 0 := fun g off w => by kernel_rfl
theorem Jr : Bx Tryz.prog 241 1 1 := fun g off w => by kernel_rfl
theorem AK : SliceT Tryz.prog 52 34 5 := Ff (z := .agg #[.int .i64 0, .int .u64 0, .int .u64 0, .slice none 0 0, .int .i64 0]) Tryz.underlying52 (by kernel_rfl) rfl rfl (by decide)
theorem FL : SliceT Tryz.prog 82 127 5 := Ff (z := .agg #[.int .i64 0, .string { data := #[] }, .slice none 0 0, .int .i64 0, .string { data := #[] }]) Tryz.underlying82 (by kernel_rfl) rfl rfl (by decide)
theorem Bf : SliceT Tryz.prog 30 5 1 := Ff (z := .int .u8 0) Tryz.underlying30 (by kernel_rfl) rfl rfl (by decide)
def flS : List ((Nat × Nat) × Nat) := [((34, 0), 0), ((34, 1), 1), ((34, 2), 2), ((34, 3), 3), ((34, 4), 4), ((210, 0), 0), ((210, 2), 2), ((66, 0), 0), ((66, 1), 1), ((131, 0), 0), ((131, 1), 1), ((131, 2), 2), ((131, 3), 3), ((131, 4), 4), ((84, 0), 0), ((84, 1), 1), ((84, 2), 2), ((84, 3), 3), ((84, 4), 4), ((84, 5), 5), ((127, 0), 0), ((127, 1), 1), ((127, 2), 2), ((127, 3), 3), ((127, 4), 4), ((241, 0), 0), ((241, 1), 1)]
theorem Ai : LK Tryz.prog flS := ME ⟨G2, G3, KO, FB, G4, Gp, Gq, G5, G6, Id, Ie, If, Ig, Ih, KP, KQ, KR, KS, KT, KU, HI, HJ, HK, HO, HP, Jq, Jr, trivial⟩
end Go.Proofs.YtnknboibmifacaaGreatDoor.Sep
namespace Go.Proofs.YtnknboibmifacaaGreatDoor.Sep
open Go.RowKit
open Go.Proofs.YtnknboibmifacaaGreatDoor.Mem (AR B3 Chg Av)
def encKey (s : List UInt8) : Value := .string (bs s)
def AM (x : PtT) : Value := x.1
abbrev FilL := List (List UInt8 × PtT)
theorem Dg : MapTy Tryz.prog 81 9 30 .string encKey (.slice none 0 0) := Rk Tryz.underlying81 Tryz.underlying9 (fun w => by kernel_rfl)
def BA (L : FilL) : Ass := Bb (fun p : List UInt8 × PtT => Ak 5 1 encB p.2.1 p.2.2) L
def CW (L : FilL) : FS := L.map fun p => (p.1, p.2.2)
theorem FC (L : FilL) : A6 (CW L) = A6 L := by simp [A6, CW]
theorem Kh {L : FilL} {p : List UInt8 × PtT} (h : p ∈ L) : E3 (BA L) p.2.1 p.2.2 := fun rs w h1 h2 => by
 obtain ⟨j, hj⟩ := List.getElem?_of_mem h
 obtain ⟨ys, h3, h4⟩ := Bb.at_ h1 h2 hj
 exact IP h3 h4
theorem Ki {α β γ : Type} [DecidableEq α] (g : β → γ) (k : α) : ∀ (L : List (α × β)) (i : Nat), Fg k (L.map fun p => (p.1, g p.2)) i = (Fg k L i).map fun q => (q.1, g q.2)
  | [], i => rfl
  | p :: L, i => by
    simp only [List.map_cons, Fg]
    split
    · rfl
    · exact Ki g k L (i + 1)
theorem S2 {α β γ : Type} [DecidableEq α] (g : β → γ) (k : α) (L : List (α × β)) : Bq (L.map fun p => (p.1, g p.2)) k = (Bq L k).map g := by
 unfold Bq
 rw [Ki, Option.map_map, Option.map_map]; rfl
theorem S3 {α β γ : Type} [DecidableEq α] (g : β → γ) (k : α) (x : β) (L : List (α × β)) : BM (L.map fun p => (p.1, g p.2)) k (g x) = (BM L k x).map fun p => (p.1, g p.2) := by
  unfold BM
  rw [Ki]
  cases Fg k L 0 with
  | none => simp
  | some q => simp [List.map_set]
theorem S4 {α β γ : Type} [DecidableEq α] (g : β → γ) (k : α) (L : List (α × β)) : Cp (L.map fun p => (p.1, g p.2)) k = (Cp L k).map fun p => (p.1, g p.2) := by
  unfold Cp
  rw [Ki]
  cases Fg k L 0 with
  | none => rfl
  | some q => simp [List.eraseIdx_eq_take_drop_succ, List.map_take, List.map_drop]
theorem Ej (L : FilL) (k : List UInt8) : Bq (CW L) k = (Bq L k).map (·.2) := S2 (fun x : PtT => x.2) k L
theorem IY (L : FilL) (k : List UInt8) (x : PtT) : BM (CW L) k x.2 = CW (BM L k x) := S3 (fun x : PtT => x.2) k x L
theorem NR (L : FilL) (k : List UInt8) : Cp (CW L) k = CW (Cp L k) := S4 (fun x : PtT => x.2) k L
def AJ (v : Value) (f : FS) : Ass := fun rs => ∃ L : FilL, f = CW L ∧ Al [BG encKey AM v L, BA L] rs
theorem Gr {v : Value} {f : FS} : ∀ rs, AJ v f rs → ∃ x : { L : FilL // f = CW L }, Al [BG encKey AM v x.1, BA x.1] rs := fun _ ⟨L, h, h'⟩ => ⟨⟨L, h⟩, h'⟩
theorem Qv {L : FilL} {k : List UInt8} {q : Nat × PtT} (h : Fg k L 0 = some q) : L[q.1]? = some (k, q.2) := (Eg h).2
theorem G7 {L : FilL} {k : List UInt8} {q : Nat × PtT} (h : Fg k L 0 = some q) : ∀ rs, BA L rs → ∃ _ : Unit, Al [BA (L.take q.1), Ak 5 1 encB q.2.1 q.2.2, BA (L.drop (q.1 + 1))] rs := L6 (Qv h)
theorem UH {L : FilL} {k : List UInt8} {q : Nat × PtT} (h : Fg k L 0 = some q) (y : PtT) : ∀ rs, Al [BA (L.take q.1), Ak 5 1 encB y.1 y.2, BA (L.drop (q.1 + 1))] rs → BA (BM L k y) rs := fun rs hr => by
 have h1 := L7 (f := fun p : List UInt8 × PtT => Ak 5 1 encB p.2.1 p.2.2) (y := (k, y)) rs hr
 rw [NN (y := (k, y)) (List.getElem?_eq_some_iff.1 (Qv h)).1] at h1
 unfold BA BM
 rw [h]
 exact h1
theorem UI {L : FilL} {k : List UInt8} (h : Fg k L 0 = none) (y : PtT) : ∀ rs, Al [BA L, Ak 5 1 encB y.1 y.2] rs → BA (BM L k y) rs := fun rs hr => by
 have h1 := Gm (f := fun p : List UInt8 × PtT => Ak 5 1 encB p.2.1 p.2.2) (x := (k, y)) rs hr
 unfold BA BM
 rw [h]
 exact h1
theorem Pj {α : Type} {l : List α} {j : Nat} {x : α} (h : l[j]? = some x) : (l.eraseIdx j).length < l.length := by
 have := (List.getElem?_eq_some_iff.1 h).1
 rw [List.length_eraseIdx, if_pos this]; omega
theorem Pk {l : FilL} {j : Nat} {p : List UInt8 × PtT} (h : l[j]? = some p) : Be (CW (l.eraseIdx j)) + p.2.2.length = Be (CW l) := by
 have hlt := (List.getElem?_eq_some_iff.1 h).1
 have hx := (List.getElem?_eq_some_iff.1 h).2
 have h1 : l = l.take j ++ p :: l.drop (j + 1) := by rw [← hx]; simp
 have h2 : l.eraseIdx j = l.take j ++ l.drop (j + 1) := List.eraseIdx_eq_take_drop_succ ..
 have e1 : CW l = CW (l.take j) ++ (p.1, p.2.2) :: CW (l.drop (j + 1)) := by
  have := congrArg CW h1
  rw [this]; simp [CW]
 have e2 : CW (l.eraseIdx j) = CW (l.take j) ++ CW (l.drop (j + 1)) := by rw [h2]; simp [CW]
 rw [e1, e2, KN, KN, Jo]
 show _ + p.2.2.length = _ + (p.2.2.length + _)
 omega
end Go.Proofs.YtnknboibmifacaaGreatDoor.Sep
namespace Go.Proofs.YtnknboibmifacaaGreatDoor.Sep
open Go.RowKit
open Go.Proofs.YtnknboibmifacaaGreatDoor.Mem (AR B3 Chg Av)
end Go.Proofs.YtnknboibmifacaaGreatDoor.Sep
namespace Go.Proofs.YtnknboibmifacaaGreatDoor.Sep
open Go.RowKit
open Go.Proofs.YtnknboibmifacaaGreatDoor.Mem (AR B3 Chg Av)
end Go.Proofs.YtnknboibmifacaaGreatDoor.Sep
