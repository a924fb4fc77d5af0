/-
  CmdK · Law · Opz · Prt · DskM · TyC · Fil · CmdA · CmdB
-/
import Derived.Test.YtjcfimmcogkopaaGreatDoorWA01
import Derived.Test.YtjcfimmcogkopaaGreatDoorWA06
import Derived.Test.YtjcfimmcogkopaaGreatDoorWA07
import Derived.Test.YtjcfimmcogkopaaGreatDoorWB01
import Derived.Test.YtjcfimmcogkopaaGreatDoorRows
import Derived.ProofKit
import Derived.OpenShut
import Derived.JoinedCond
import Derived.SizedLaws
import Derived.Test.YtjcfimmcogkopaaGreatDoorChecked
set_option linter.unusedSimpArgs false
set_option linter.unusedVariables false
namespace Go.Proofs.YtjcfimmcogkopaaGreatDoor.Sep
open Go.RowKit
open Go.Proofs.YtjcfimmcogkopaaGreatDoor.Mem (Bb Ci Chg Aw)
section
variable {P : Program} {n : Nat} {B : Nat → Prop} {w0 w : World} {os : List Ass} {env : List (Nat × Value)} {o : Oper} {a : Act}
theorem K9 {T T' : TypeId} {x y : Operand} {k : IntKind} {p q r : Int} (hr : bits .or k p q = r) (ho : o.op = .binOp .or T x y T') (hx : evs env x = some (.int k p)) (hy : evs env y = some (.int k q)) (hF : Fr n a env) : (execOp a.eval o).run P w = .ok (.value (.int k r)) w := by
 unfold execOp
 simp only [ho, hF.evs hx, hF.evs hy]
 simp [eqGuard, binOp, intBits_or, hr]
theorem LH {T T' : TypeId} {x y : Operand} {k : IntKind} {p q r : Int} (hr : bits .and k p q = r) (ho : o.op = .binOp .and T x y T') (hx : evs env x = some (.int k p)) (hy : evs env y = some (.int k q)) (hF : Fr n a env) : (execOp a.eval o).run P w = .ok (.value (.int k r)) w := by
 unfold execOp
 simp only [ho, hF.evs hx, hF.evs hy]
 simp [eqGuard, binOp, intBits_and, hr]
theorem Vx {T e : TypeId} {N i : Nat} {g off : Nat} (hT : P.underlying T = some (.array N e)) (hs : (P.info? e).map (fun i => i.size) = some 1) (h : i < N) : (Instr.indexAt T (.pointer (some ⟨g, off, none⟩)) (.int .i64 (i : Int))).run P w = .ok (.pointer (some ⟨g, off + i, none⟩)) w := by
  have hz : (sizeOf e).run P w = .ok 1 w := by
    cases hq : P.info? e with
    | none => simp [hq] at hs
    | some j =>
      simp only [hq, Option.map_some, Option.some.injEq] at hs
      simp [sizeOf, typeInfo, hq, hs]
  have hi : (0 : Int) ≤ (i : Int) ∧ (i : Int) < (N : Int) := by omega
  simp only [Instr.indexAt, asIntOf, Sem.run_bind, Sem.run_pure, Result.andThen_ok, run_underlying hT w, Instr.sureAddr, hz]
  simp [hi, hz, Addr.add]
theorem Kb {T T' e : TypeId} {v : Value} {l : List UInt8} {x : Operand} (hs : P.underlying T = some (.slice e)) (he : P.underlying e = some (.int .u8)) (hi : (P.info? e).map (fun i => (i.zero, i.size, i.bytes)) = some (some (.int .u8 0), 1, 1)) (hd : P.underlying T' = some .string) (h : Ew w v l) (ho : o.op = .convert T T' x) (hx : evs env x = some v) (hF : Fr n a env) : (execOp a.eval o).run P w = .ok (.value (.string (bs l))) w := by
 obtain ⟨A, c, rfl, hb⟩ := h
 have := Vn (P := P) ⟨hs, he, hi⟩ hd hb
 unfold execOp
 simp only [ho, hF.evs hx, Sem.run_bind, Sem.run_pure, Result.andThen_ok, this]
 rfl
end
theorem Rl {w : World} {A : Option Addr} {c : Nat} {l : List UInt8} (h : Ew w (.slice A l.length c) l) (hl : l.length ≤ 140737488355328) (most : Nat) (hm : most < 18446744073709551616) (R : Nat × Nat × Nat) (hv : Cd most l 0 0 = R) : Calls Tryz.prog 173 #[.slice A l.length c, .int .u64 (most : Int)] w fun e w' => e = .returned (.tuple #[.int .u64 (R.1 : Int), .int .i64 (R.2.1 : Int), .int .i64 (R.2.2 : Int)]) ∧ Below w.heap.size w w' := by
 subst hv
 obtain ⟨A', c', e, hb⟩ := h
 simp only [Value.slice.injEq] at e
 obtain ⟨rfl, _, rfl⟩ := e
 refine (PQ w A c l most hb hl hm).mono ?_
 rintro e w' ⟨he, rfl⟩
 exact ⟨he, Below.refl _ _⟩
section
variable {P : Program} {n : Nat} {w : World} {env : List (Nat × Value)} {o : Oper} {a : Act}
end
theorem FX {w0 w : World} {v : Value} {l : List UInt8} {os : List Ass} (h : Ew w0 v l) (hH : Hp Nil w0 w os) : Ew w v l := h.below (hH.up.below (Nat.le_refl _) (fun _ h => h.elim))
theorem Ip (w : World) : Ew w (.slice none 0 0) [] := ⟨none, 0, rfl, Bs.nil _ _ _ (by decide)⟩
theorem Ew.drop {w : World} {A : Option Addr} {c k : Nat} {l : List UInt8} (h : Ew w (.slice A l.length c) l) (hk : k ≤ l.length) : Ew w (.slice (if c = k then A else A.map (·.add k)) (l.drop k).length (c - k)) (l.drop k) := by
  obtain ⟨A', c', e, hb⟩ := h
  simp only [Value.slice.injEq] at e
  obtain ⟨rfl, _, rfl⟩ := e
  exact ⟨_, _, rfl, hb.drop hk⟩
theorem Ew.takes {w : World} {A : Option Addr} {c k : Nat} {l : List UInt8} (h : Ew w (.slice A l.length c) l) (hk : k ≤ l.length) : Ew w (.slice A (l.take k).length c) (l.take k) := by
 obtain ⟨A', c', e, hb⟩ := h
 simp only [Value.slice.injEq] at e
 obtain ⟨rfl, _, rfl⟩ := e
 exact ⟨_, _, rfl, hb.take hk⟩
section
variable {P : Program} {n : Nat} {w : World} {env : List (Nat × Value)} {o : Oper} {a : Act}
theorem Gu {T T' : TypeId} {x y : Operand} {k : IntKind} {p q r : Int} (ho : o.op = .binOp .rem T x y T') (hx : evs env x = some (.int k p)) (hy : evs env y = some (.int k q)) (hq : q ≠ 0) (hr : p.tmod q = r) (hF : Fr n a env) : (execOp a.eval o).run P w = .ok (.value (.int k r)) w := by
 unfold execOp
 simp only [ho, hF.evs hx, hF.evs hy]
 simp [eqGuard, binOp, Op.intArith, Op.intDiv, hq, hr]
end
section
variable {P : Program} {t e ty : TypeId} {v u : Value} {l m : List UInt8} {w w' : World} {rs : List RowT}
theorem OE (hT : SliceT P t e 1) (h1 : (P.info? e).map (fun i => i.bytes) = some 1) (h : Aj e 1 encB v l rs) (hr : RowsOf w rs) (hd : Bb rs) (hu : DP w 1 u m.length (flat encB m)) (hlen : l.length + m.length ≤ 140737488355328) :
    ∃ v' w', (Builtin.append_ #[t, t] ty #[v, u]).run P w = .ok v' w' ∧ ∃ rs', Aj e 1 encB v' (l ++ m) rs' ∧ Chg w w' rs rs' := by
  obtain ⟨i, z, hi, hz, hk, hby, hzs, _⟩ := hT.inf
  have hb1 : i.bytes = 1 := by simpa [hi] using h1
  obtain ⟨hul, A, c, rfl, hA⟩ := hu
  have hu1 := Lp PD m
  rcases hA with ⟨rfl, hm⟩ | ⟨a, rfl, hcells⟩
  · have hm' : m = [] := List.length_eq_zero_iff.1 hm
    subst hm'
    refine ⟨v, w, ?_, rs, by simpa using h, ⟨Mod.refl _ _, hr, hd, fun x hx _ => ⟨x, hx, rfl⟩⟩⟩
    rcases h with ⟨h1, h2, h3⟩ | ⟨g, c', cs, h1, h2, h3, h4, h5, h6⟩
    · subst h1
      simp [Builtin.append_, run_underlying hT.ht, sizeOf, typeInfo, hi, Builtin.lenOf, Builtin.firstCells]
    · subst h1
      simp [Builtin.append_, run_underlying hT.ht, sizeOf, typeInfo, hi, Builtin.lenOf, Builtin.firstCells, h2, storeCells]
  · have hown : w.ownsRow 0 e 1 v l.length (flat encB l) := by
      refine ⟨DU PD l, ?_⟩
      rcases h with ⟨h1, h2, h3⟩ | ⟨g, c', cs, h1, h2, h3, h4, h5, h6⟩
      · exact .inl ⟨h1, by rw [h2]; rfl⟩
      · subst h6
        exact .inr ⟨g, c', cs, h1, Nat.zero_le _, hr.1, h2, h3, h4, h5⟩
    obtain ⟨v', w', hrun, h2, h3, _, h5⟩ := run_append_own_at (P := P) w 0 t ty e i z 1 i.bytes hT.ht hi hz hk rfl hzs hT.pos v l.length (flat encB l) hown a m.length c (flat encB m) hul hcells hu1 (by unfold maxLen; omega)
      (by rw [hb1]; omega) (Nat.zero_le _)
    refine ⟨v', w', hrun, ?_⟩
    have hm : Mod (At v) w w' := Mod.of_grown h3 (fun k hk => hk)
    have hmB : Mod (Ci rs) w w' := hm.weaken fun j _ hj => by
      rcases h with ⟨h1, _, _⟩ | ⟨g, c', cs, h1, _, _, _, _, h6⟩
      · subst h1; unfold At at hj; simp [Value.ownBlock] at hj
      · subst h1; subst h6
        unfold At at hj
        simp [Value.ownBlock] at hj
        exact ⟨(g, Fa e, cs), by simp, hj⟩
    rcases h2.2 with ⟨h1, hn⟩ | ⟨g, c', cs, h1, _, hrow, hle, hmx, hsz, htk⟩
    · have : l ++ m = [] := List.length_eq_zero_iff.1 (by rw [List.length_append]; exact hn)
      exact ⟨[], .inl ⟨h1, this, rfl⟩, ⟨hmB, trivial, trivial, fun x hx => by simp at hx⟩⟩
    · refine ⟨[(g, Fa e, cs)], .inr ⟨g, c', cs, by rw [h1, List.length_append], by rw [List.length_append]; exact hle, hmx, hsz, by rw [List.length_append, Hl]; exact htk, rfl⟩, ⟨hmB, ⟨hrow, trivial⟩, ⟨(fun _ h => by cases h), trivial⟩, fun x hx hlt => ?_⟩⟩
      have : x = (g, Fa e, cs) := by simpa using hx
      subst this
      rcases h5 with h5 | h5
      · subst h1
        rcases h with ⟨h1, _, _⟩ | ⟨g', c'', cs', h1, _, _, _, _, h6⟩
        · subst h1; simp [Value.ownBlock] at h5
        · subst h1; subst h6
          simp [Value.ownBlock] at h5
          exact ⟨(g', Fa e, cs'), by simp, h5.symm⟩
      · subst h1
        simp [Value.ownBlock] at h5
        exact absurd hlt (by show ¬ g < w.heap.size; omega)
variable {Q : Exit → Act → World → Prop} {n : Nat} {B : Nat → Prop} {w0 : World} {os : List Ass} {env : List (Nat × Value)} {o : Oper}
theorem FE (i : Nat) (hT : SliceT P t e 1) (h1 : (P.info? e).map (fun i => i.bytes) = some 1) (hi : os[i]? = some (Aj e 1 encB v l)) (m : List UInt8) (hu : ∀ w, Hp B w0 w os → DP w 1 u m.length (flat encB m)) (hlen : l.length + m.length ≤ 140737488355328) {x y : Operand} (ho : o.op = .call { callee := .builtin .append, args := #[x, y], argTypes := #[t, t] }) (hx : evs env x = some v) (hy : evs env y = some u) {r : List UInt8} (hr : l ++ m = r) :
  Bt P Q n env B w0 os o (fun v : Value => v) (fun v' => os.set i (Aj e 1 encB v' r)) := fun act w hH hF K hK => by
 subst hr
 have hH' := hH
 obtain ⟨rs0, hp, hm⟩ := hH
 obtain ⟨a, z, b, e1, hz, hb⟩ := hp.at_ hi
 subst e1
 have p : (a ++ (z ++ b)).Perm (z ++ (a ++ b)) := by rw [← List.append_assoc, ← List.append_assoc]; exact List.perm_append_comm.append_right b
 have h5 := Dk hm p
 have hd := Bu.1 h5.apart
 rw [List.map_append] at hd
 obtain ⟨v', w', hr, y', hy', hc⟩ := OE (P := P) (ty := o.type) hT h1 hz (BC.2 fun z hz => h5.rows.mem z (by simp [hz])) (Bu.2 (List.nodup_append.1 hd).1) (hu w hH') hlen
 have p' : (y' ++ (a ++ b)).Perm (a ++ (y' ++ b)) := by rw [← List.append_assoc, ← List.append_assoc]; exact List.perm_append_comm.append_right b
 refine FN (w0 := w) act (Gd ho (vs := [v, u]) (by simp [evl, hx, hy]) (fun cs => ?_) hF) (hK v' w' ⟨_, hb _ y' hy', Dk (FL h5 hc) p'⟩)
 simp only [builtin, Sem.run_bind, Sem.run_pure, Result.andThen_ok, hr]
end
section
variable {P : Program} {Q : Exit → Act → World → Prop} {n : Nat} {B : Nat → Prop} {w0 : World} {os : List Ass} {env : List (Nat × Value)} {o : Oper} {t e : TypeId}
end
end Go.Proofs.YtjcfimmcogkopaaGreatDoor.Sep
namespace Go.Proofs.YtjcfimmcogkopaaGreatDoor
open Go.ChangeShapes Go.WideShapes Go.ChangeAt Go.RowKit
theorem own : ownKnob Tryz.prog.godebug = none := by kernel_rfl
theorem Vk : laidOutB Tryz.prog = true := by kernel_rfl
section
variable {H : Type} {enc : TypeId × Value → H} {P : Program}
theorem IJ (hl : laidOutB P = true) {W W' : World} (hb : Below W.heap.size W W') :
    ∀ {ts : List TypeId} {vs : List Value} {ds : List (DataW H)} {ps : List MemPlace}, (∀ t ∈ ts, P.readableRec t = true ∧ t < P.types.size) → (∀ x ∈ ps, x.block < W.heap.size) →
      DataW.TrodAll enc P W 0 (fun _ => true) true ts vs ds ps → DataW.TrodAll enc P W' 0 (fun b => decide (b < W.heap.size)) true ts vs ds ps
  | [], vs, ds, ps, _, _, h => by
    obtain ⟨rfl, rfl, rfl⟩ := trodAll_nil h
    rfl
  | t :: ts, vs, ds, ps, ht, hp, h => by
    obtain ⟨v, vs1, d, ds1, a, b, rfl, rfl, rfl, h1, h2⟩ := trodAll_cons h
    obtain ⟨hr, hrow⟩ := ht t List.mem_cons_self
    exact ⟨a, b, Below.trod hl hr hrow h1 hb (fun x hx => hp x (List.mem_append_left _ hx)), IJ hl hb (fun t h => ht t (List.mem_cons_of_mem _ h)) (fun x hx => hp x (List.mem_append_right _ hx)) h2, rfl⟩
theorem Tg {f : Func} {s : ChangeSpec} {tb : TypeId} {W W' : World} {args : Array Value} {ds gs : List (DataW H)} {before : List MemPlace}
    (hl : laidOutB P = true) (hr : f.resultTypes = #[tb]) (htb : P.underlying tb = some .bool) (hread : ∀ t ∈ f.params.toList, P.readableRec t = true ∧ t < P.types.size)
    (hvars : s.vars = []) (hs : s.fn H ds = { results := [.lit (.bool true)], args := ds })
    (hW : DataW.Whole enc P f.params.toList s.vars false W args.toList ds gs before) (hb : Below W.heap.size W W') :
    s.post enc P f false true false false W args (.bool true) W' := by
  have hW' := hW
  obtain ⟨p, q, hA, hV, rfl, hfz, hnd⟩ := hW
  rw [hvars] at hV
  obtain ⟨rfl, rfl⟩ := trodVars_none hV
  have hlt : ∀ x ∈ p, x.block < W.heap.size := fun x hx => hW'.lt x (by simpa using hx)
  refine ⟨ds, [], p ++ [], [], p, [], hW', ?_, ?_, ?_, ?_, fun h => by cases h⟩
  · rw [List.append_nil, hs, hr]
    exact trodAll_cons_mk (shut_bool htb true) trodAll_mk0
  · rw [List.append_nil, hs]
    exact IJ hl hb hread hlt hA
  · rw [List.append_nil, hs, hvars]
    rfl
  · exact World.keptBut_mono (fun x hx => ⟨hx, .inr (.inl (by simpa using hx))⟩) (hb.frame (· ∈ p ++ []))
end
section
variable {H : Type} {enc : TypeId × Value → H} {P : Program}
theorem So {w : World} {a : Addr} {v : Value} (h : w.cell? a = some v) : a = ⟨a.block, a.off, none⟩ := by
 obtain ⟨b, o, s⟩ := a
 have : s = none := by simpa using World.cell?_spot h
 subst this
 rfl
theorem TP {W : World} {base : Nat} {spare : Nat → Bool} {held : Bool} {t e : TypeId} {fuel : Nat} {cs : List Value} {x : DataW H × List MemPlace} (hu : U8 P t e) (hc : P.cellsOf e = 1)
    (hf : DataW.trod enc P W base spare held fuel t cs = some x) : ∃ A c l, cs = [.slice A l.length c] ∧ Bs (fun k => k < W.heap.size) W A c l ∧ ((x.1 = .nil ∧ l = []) ∨ ∃ es sp, x.1 = .slice es sp ∧ es.length = l.length) := by
  rcases open_ints hu.ht hu.he hc hf with ⟨hcs, hx⟩ | ⟨a, len, cap, zs, hcs, _, hl, hm, hz, hx, hcell, hwz⟩
  · subst hcs
    exact ⟨none, 0, [], rfl, Bs.nil _ _ _ (by simp [maxLen]), .inl ⟨by rw [hx], rfl⟩⟩
  · subst hcs
    have hlz : len ≤ zs.length := by rw [hz]; split <;> omega
    have e0 : ((zs.take len).map (fun z => UInt8.ofNat z.toNat)).length = len := by simp; omega
    refine ⟨some a, cap, (zs.take len).map (fun z => UInt8.ofNat z.toNat), by rw [e0], ⟨by omega, hm, fun hn => ?_⟩, .inr ⟨_, _, by rw [hx], by simp [lits]⟩⟩
    have h0 := hcell 0 (by omega)
    have hs : a = ⟨a.block, a.off, none⟩ := by
      have := h0
      rw [show a.add 0 = a by simp [Addr.add]] at this
      exact So this
    have hb := World.block_lt_of_cell? _ _ h0
    rw [hs, Addr.add_lit] at hb
    refine ⟨a.block, a.off, by rw [← hs], hb, fun j b hj => ?_⟩
    have hjl := (List.getElem?_eq_some_iff.1 hj).1
    rw [e0] at hjl
    have hcj := hcell j (by omega)
    rw [hs, Addr.add_lit] at hcj
    rw [hcj]
    have hbj : b = UInt8.ofNat (zs.getD j 0).toNat := by
      rw [List.getElem?_map, List.getElem?_take, if_pos (by omega), List.getElem?_eq_getElem (by omega)] at hj
      simp only [Option.map_some, Option.some.injEq] at hj
      rw [← hj, List.getD, List.getElem?_eq_getElem (by omega)]
      rfl
    have hw : 0 ≤ zs.getD j 0 ∧ zs.getD j 0 ≤ 255 := by
      have hmem : zs.getD j 0 ∈ zs := by
        rw [List.getD, List.getElem?_eq_getElem (show j < zs.length by omega)]
        exact List.getElem_mem _
      simpa [Lit.wf, IntKind.min, IntKind.max, IntKind.signed, IntKind.bits] using hwz _ hmem
    rw [hbj]
    unfold Te
    simp only [UInt8.toNat_ofNat']
    congr 2
    omega
end
theorem Lf {x : Int} (h : (Lit.int .i64 x).wf = true) : -9223372036854775808 ≤ x ∧ x ≤ 9223372036854775807 := by
 simpa [Lit.wf, IntKind.min, IntKind.max, IntKind.signed, IntKind.bits] using h
theorem TQ {x : Int} (h : (Lit.int .u64 x).wf = true) : 0 ≤ x ∧ x ≤ 18446744073709551615 := by
 simpa [Lit.wf, IntKind.min, IntKind.max, IntKind.signed, IntKind.bits] using h
theorem N8 {P : Program} {l : List TypeId} (h : l.all (fun t => P.readableRec t && decide (t < P.types.size)) = true) : ∀ t ∈ l, P.readableRec t = true ∧ t < P.types.size := by
 intro t ht
 have := List.all_eq_true.1 h t ht
 simpa using this
theorem TR : Tryz.prog.cellsOf 5 = 1 := by kernel_rfl
theorem TS : Tryz.prog.bytesOf 5 = 1 := by kernel_rfl
theorem Yg {H : Type} {l : List (DataW H)} (hk : Rows.uptoSmall H l = true) : Rows.uptoBulkAll l ≤ 1048576 := of_decide_eq_true hk
end Go.Proofs.YtjcfimmcogkopaaGreatDoor
namespace Go.Proofs.YtjcfimmcogkopaaGreatDoor.Sep
open Go.ChangeShapes Go.WideShapes Go.ChangeAt Go.RowKit
section
variable {H : Type} {enc : TypeId × Value → H} {P : Program}
def DL (P : Program) (t : TypeId) (d : DataW H) : Prop := ∀ n ∈ d.weights P t, n ≤ reachBytes
theorem sized_arg {ts : List TypeId} {ds : List (DataW H)} (h : (DataW.weightsEach P ts ds).all (· ≤ reachBytes) = true) {j : Nat} {t : TypeId} {d : DataW H} (ht : ts[j]? = some t) (hd : ds[j]? = some d) : DL P t d := fun n hn => by
  have := List.all_eq_true.1 h n (DataW.weights_mem_each ht hd n hn)
  simpa using this
theorem DL.field {t : TypeId} {fs : Array Field} {parts : List (DataW H)} {j : Nat} {f : Field} {d : DataW H} (h : DL P t (.agg parts)) (hu : P.underlying t = some (.struct fs)) (hf : fs[j]? = some f) (hd : parts[j]? = some d) : DL P f.type d := fun n hn => by
  refine h n ?_
  have hm := DataW.weights_mem_each (P := P) (ts := fs.toList.map (·.type)) (ds := parts) (j := j) (t := f.type) (d := d) (by simp [hf]) hd n hn
  simpa [DataW.weights, hu] using hm
theorem DL.len {t e : TypeId} {es sp : List (DataW H)} (h : DL P t (.slice es sp)) (hu : P.underlying t = some (.slice e)) : es.length * P.bytesOf e ≤ reachBytes := by
 have := h ((es.length + sp.length) * P.bytesOf e) (by simp [DataW.weights, hu])
 exact Nat.le_trans (Nat.mul_le_mul_right _ (Nat.le_add_right _ _)) this
theorem KF {e : TypeId} : ∀ {es : List (DataW H)} {j : Nat} {d : DataW H}, es[j]? = some d → ∀ n ∈ d.weights P e, n ∈ DataW.weightsAll P e es
  | [], _, _, h, _, _ => by simp at h
  | d0 :: r, 0, d, h, n, hn => by
    simp only [List.getElem?_cons_zero, Option.some.injEq] at h
    subst h
    simp only [DataW.weightsAll, List.mem_append]
    exact .inl hn
  | d0 :: r, j + 1, d, h, n, hn => by
    simp only [List.getElem?_cons_succ] at h
    simp only [DataW.weightsAll, List.mem_append]
    exact .inr (KF h n hn)
theorem DL.elem {t e : TypeId} {es sp : List (DataW H)} (h : DL P t (.slice es sp)) (hu : P.underlying t = some (.slice e)) {j : Nat} {d : DataW H} (hd : es[j]? = some d) : DL P e d := fun n hn => by
 refine h n ?_
 have := KF (P := P) hd n hn
 simp [DataW.weights, hu, this]
theorem NC {α : Type} [Inhabited α] {k : Nat} {enc' : α → List Value} {ok : α → Prop} {t e : TypeId} (he : EncOf k enc') (hk : 0 < k) (hu : P.underlying t = some (.slice e)) (hC : P.cellsOf e = k) {W : World} {base : Nat} {spare : Nat → Bool} {held : Bool} {v : Value} {n0 : Nat} {x0 : DataW H × List MemPlace}
    (hel : ∀ (n : Nat) (cs : List Value) (x : DataW H × List MemPlace), cs.length = k → DataW.trod enc P W base spare held n e cs = some x → DL P e x.1 → ∃ y : α, cs = enc' y ∧ ok y)
    (hf : DataW.trod enc P W base spare held n0 t [v] = some x0) (hs : DL P t x0.1) : ∃ A c, ∃ l : List α, v = .slice A l.length c ∧ l.length * P.bytesOf e ≤ reachBytes ∧ DP W k v l.length (flat enc' l) ∧ ∀ y ∈ l, ok y := by
  rcases DataW.trod_slice hu hf with ⟨hcs, hx⟩ | ⟨a, len, cap, elems, rest, n, _, hcs, hx, _, hl, hm, hlen, hels, _, _⟩
  · simp at hcs
    subst hcs
    exact ⟨none, 0, [], rfl, by simp, ⟨by simp [flat], none, 0, rfl, .inl ⟨rfl, rfl⟩⟩, fun y hy => by cases hy⟩
  · simp at hcs
    subst hcs
    rw [hC] at hels
    rw [(Prod.mk.inj hx).1] at hs
    have hsl := hs.len hu
    rw [List.length_map] at hsl
    have each : ∀ i, i < len → ∃ y : α, ok y ∧ ∀ j x, (enc' y)[j]? = some x → W.cell? ((a.add (i * k)).add j) = some x := by
      intro i hi
      have h1 := hels i hi
      rw [List.getElem?_eq_getElem (show i < elems.length by omega), Option.bind_eq_some_iff] at h1
      obtain ⟨cs', hcs, ht⟩ := h1
      obtain ⟨_, hcl, hat⟩ := World.cells?_some hcs
      obtain ⟨y, rfl, hy⟩ := hel _ _ _ hcl ht (hs.elem hu (j := i) (by rw [List.getElem?_map, List.getElem?_eq_getElem (show i < elems.length by omega)]; rfl))
      exact ⟨y, hy, fun j x hj => (hat j (by rw [← hcl]; exact (List.getElem?_eq_some_iff.1 hj).1)).trans hj⟩
    obtain ⟨f, hf⟩ := Go.Deep.choose_lt each
    have hll : ((List.range len).map f).length = len := by simp
    have hat : ∀ {i : Nat} {y : α}, ((List.range len).map f)[i]? = some y → i < len ∧ y = f i := by
      intro i y hi
      have hil : i < len := by have := (List.getElem?_eq_some_iff.1 hi).1; simpa using this
      rw [List.getElem?_map, List.getElem?_range hil] at hi
      simp only [Option.map_some, Option.some.injEq] at hi
      exact ⟨hil, hi.symm⟩
    refine ⟨some a, cap, (List.range len).map f, by rw [hll], by rw [hll]; rw [show elems.length = len by omega] at hsl; exact hsl, ?_, ?_⟩
    · rw [hll]
      refine ⟨by rw [DU he, hll], some a, cap, rfl, .inr ⟨a, rfl, fun q x hq => ?_⟩⟩
      obtain ⟨y, hy, hyx⟩ := Sa he hk hq
      obtain ⟨hil, rfl⟩ := hat hy
      have hc := (hf (q / k) hil).2 (q % k) x hyx
      have ha : a = ⟨a.block, a.off, none⟩ := by
        obtain ⟨z, hz⟩ : ∃ z, (enc' (f 0))[0]? = some z := ⟨_, List.getElem?_eq_getElem (by have := he.len (f 0); omega)⟩
        have h0 := (hf 0 (Nat.lt_of_le_of_lt (Nat.zero_le _) hil)).2 0 _ hz
        rw [Nat.zero_mul, show (a.add 0).add 0 = a by simp [Addr.add]] at h0
        exact Wr h0
      rw [ha, Addr.add_lit, Addr.add_lit] at hc
      rw [ha, Addr.add_lit]
      have e1 : a.off + q / k * k + q % k = a.off + q := by rw [Nat.add_assoc, Nat.mul_comm]; congr 1; exact Nat.div_add_mod q k
      rw [e1] at hc
      exact hc
    · intro y hy
      obtain ⟨i, hi⟩ := List.getElem?_of_mem hy
      obtain ⟨hil, rfl⟩ := hat hi
      exact (hf i hil).1
theorem Vy {W : World} {base : Nat} {spare : Nat → Bool} {held : Bool} {v : Value} {n0 : Nat} {x0 : DataW H × List MemPlace} (hf : DataW.trod enc Tryz.prog W base spare held n0 49 [v] = some x0) (hs : DL Tryz.prog 49 x0.1) :
    ∃ A c l, v = .slice A l.length c ∧ Ew W (.slice A l.length c) l ∧ l.length ≤ reachBytes := by
  obtain ⟨A, c, l, hcs, hb, hd⟩ := TP Sb TR hf
  simp at hcs
  refine ⟨A, c, l, hcs, ⟨A, c, rfl, hb.weaken fun _ _ _ => trivial⟩, ?_⟩
  rcases hd with ⟨_, rfl⟩ | ⟨es, sp, e, he⟩
  · simp
  · rw [e] at hs
    have := hs.len Tryz.underlying49
    rw [TS] at this
    omega
end
end Go.Proofs.YtjcfimmcogkopaaGreatDoor.Sep
namespace Go.Proofs.YtjcfimmcogkopaaGreatDoor.Sep
open Go.RowKit
open Go.Proofs.YtjcfimmcogkopaaGreatDoor.Mem (Bb Ci Chg Aw)
def Ya (v : Value) : List Value := [if v.oneCell' = true then v else .nilIface]
abbrev PtT := Value × List UInt8
def TT (te : TypeId) (v : Value) (l : List PtT) : Ass := Fk [Aj te 1 Ya v (l.map (·.1)), AY (fun x : PtT => Aj 5 1 encB x.1 x.2) l]
section
variable {P : Program} {te t : TypeId} {v u : Value} {l : List PtT} {d : List UInt8} {w w0 : World} {rs : List RowT} {B : Nat → Prop} {os : List Ass} {Q : Exit → Act → World → Prop} {n : Nat} {env : List (Nat × Value)} {o : Oper} {act : Act}
theorem TT.at_ (h : TT te v l rs) (hr : RowsOf w rs) {j : Nat} (hj : l[j]? = some (u, d)) : ∃ ys, Aj 5 1 encB u d ys ∧ RowsOf w ys := by
 obtain ⟨a, b, e, h1, h2⟩ := h
 subst e
 exact (Am.one' h2).at_ (f := fun x : PtT => Aj 5 1 encB x.1 x.2) (x := ((u, d) : PtT)) (BC.2 fun z hz => BC.1 hr z (by simp [hz])) hj
end
structure PtV where
  A : Option Addr
  c : Nat
  d : List UInt8
def PtV.v (x : PtV) : Value := .slice x.A x.d.length x.c
def XR (x : PtV) : List Value := [x.v]
instance : Inhabited PtV := ⟨⟨none, 0, []⟩⟩
def TU (w : World) (v : Value) (l : List PtV) : Prop := DP w 1 v l.length (flat XR l) ∧ ∀ x, x ∈ l → Ew w x.v x.d
section
variable {u w w0 : World} {v : Value} {l : List PtV} {B : Nat → Prop} {os : List Ass}
theorem TU.below (h : TU u v l) (hb : Below u.heap.size u w) : TU w v l := ⟨h.1.below hb, fun x hx => (h.2 x hx).below hb⟩
end
theorem Rm {A : Option Addr} {n c j : Nat} : Cu 1 (.slice A n c) 0 j = .slice A j c := by
  have e : A.map (·.add 0) = A := by
    cases A with
    | none => rfl
    | some a =>
      have : a.add 0 = a := by obtain ⟨b, o, q⟩ := a; cases q <;> simp [Addr.add]
      simp [this]
  simp [Cu, e]
end Go.Proofs.YtjcfimmcogkopaaGreatDoor.Sep
namespace Go.Proofs.YtjcfimmcogkopaaGreatDoor.Sep
abbrev FS := List (List UInt8 × List UInt8)
inductive OpD where
  | app (n b : List UInt8)
  | cut (n : List UInt8) (size : Nat)
  | ren (a b : List UInt8)
  | del (n : List UInt8)
def BJ (f : FS) : OpD → FS
  | .app n b => BM f n ((Bw f n).getD [] ++ b)
  | .cut n s => match Bw f n with | some x => BM f n (x.take s) | none => f
  | .ren a b => match Bw f a with | some x => BM (CO f a) b x | none => f
  | .del n => CO f n
def AT (f : FS) : Nat := (f.map fun p => p.2.length).sum
theorem IX {f : FS} (h : (AW f).Nodup) (o : OpD) : (AW (BJ f o)).Nodup := by
  cases o with
  | app n b => exact Dw h
  | cut n s =>
    show (AW (match Bw f n with | some x => BM f n (x.take s) | none => f)).Nodup
    split
    · exact Dw h
    · exact h
  | ren a b =>
    show (AW (match Bw f a with | some x => BM (CO f a) b x | none => f)).Nodup
    split
    · exact Dw (DH h)
    · exact h
  | del n => exact DH h
theorem Iq : ∀ (l : List OpD) {f : FS}, (AW f).Nodup → (AW (l.foldl BJ f)).Nodup
  | [], _, h => h
  | o :: r, _, h => Iq r (IX h o)
theorem IK {f : FS} (h : (AW f).Nodup) : f.Nodup := (List.Pairwise.of_map (fun p : List UInt8 × List UInt8 => p.1) (fun a b (hab : a.1 ≠ b.1) e => hab (by rw [e])) h)
theorem Ge {f g : FS} (hf : (AW f).Nodup) (hg : (AW g).Nodup) (h : ∀ p, p ∈ f ↔ p ∈ g) : f.Perm g :=
 (List.perm_ext_iff_of_nodup (IK hf) (IK hg)).2 h
theorem Ep {f g : FS} (h : f.Perm g) : (AW f).Perm (AW g) := h.map _
theorem FY {f g : FS} (h : f.Perm g) (hf : (AW f).Nodup) (k : List UInt8) : Bw f k = Bw g k := by
  have hg : (AW g).Nodup := (Ep h).nodup_iff.1 hf
  cases e : Bw g k with
  | none => rw [FD] at e ⊢; exact fun hm => e ((Ep h).mem_iff.1 hm)
  | some x => exact (Cc hf).2 (h.mem_iff.2 ((Cc hg).1 e))
theorem LI {f g : FS} (h : f.Perm g) (hf : (AW f).Nodup) (k x : List UInt8) : (BM f k x).Perm (BM g k x) := by
 have hg : (AW g).Nodup := (Ep h).nodup_iff.1 hf
 refine Ge (Dw hf) (Dw hg) fun p => ?_
 rw [GN hf, GN hg, h.mem_iff]
theorem OF {f g : FS} (h : f.Perm g) (hf : (AW f).Nodup) (k : List UInt8) : (CO f k).Perm (CO g k) := by
 have hg : (AW g).Nodup := (Ep h).nodup_iff.1 hf
 refine Ge (DH hf) (DH hg) fun p => ?_
 rw [GO hf, GO hg, h.mem_iff]
theorem Sp {f g : FS} (h : f.Perm g) (hf : (AW f).Nodup) (o : OpD) : (BJ f o).Perm (BJ g o) := by
  cases o with
  | app n b =>
    show (BM f n _).Perm (BM g n _)
    rw [FY h hf]; exact LI h hf _ _
  | cut n s =>
    show List.Perm (match Bw f n with | some x => BM f n (x.take s) | none => f) (match Bw g n with | some x => BM g n (x.take s) | none => g)
    rw [FY h hf]
    split
    · exact LI h hf _ _
    · exact h
  | ren a b =>
    show List.Perm (match Bw f a with | some x => BM (CO f a) b x | none => f) (match Bw g a with | some x => BM (CO g a) b x | none => g)
    rw [FY h hf]
    split
    · exact LI (OF h hf _) (DH hf) _ _
    · exact h
  | del n => exact OF h hf _
theorem E2 {f g : FS} (h : f.Perm g) : AT f = AT g := (h.map _).sum_nat
theorem Kc (p : List UInt8 × List UInt8) (f : FS) : AT (p :: f) = p.2.length + AT f := by simp [AT]
theorem LJ (f g : FS) : AT (f ++ g) = AT f + AT g := by simp [AT]
theorem P3 {f : FS} {k x : List UInt8} (hf : (AW f).Nodup) (h : Bw f k = some x) : f.Perm ((k, x) :: CO f k) := by
  have hm := (Cc hf).1 h
  have hd := DH (k := k) hf
  have hn : (AW ((k, x) :: CO f k)).Nodup := List.nodup_cons.2 ⟨fun hm => by
    obtain ⟨p, hp, e⟩ := List.mem_map.1 hm
    exact ((GO hf p).1 hp).2 e, hd⟩
  refine Ge hf hn fun p => ?_
  rw [List.mem_cons, GO hf]
  constructor
  · intro hp
    by_cases e : p.1 = k
    · left
      have := (Cc (x := p.2) hf).2 (show (k, p.2) ∈ f by rw [← e]; exact hp)
      rw [h] at this
      exact Prod.ext e (Option.some.inj this).symm
    · exact .inr ⟨hp, e⟩
  · rintro (rfl | ⟨hp, _⟩)
    · exact hm
    · exact hp
theorem Hu {f : FS} {k x : List UInt8} (hf : (AW f).Nodup) (h : Bw f k = some x) : AT (CO f k) + x.length = AT f := by
 rw [E2 (P3 hf h), Kc]; simp only; omega
theorem TV {f : FS} {k : List UInt8} (h : Bw f k = none) : CO f k = f := by
 unfold CO
 unfold Bw at h
 rw [Option.map_eq_none_iff.1 h]
theorem JC {f : FS} {k x : List UInt8} (h : Bw f k = none) : AT (BM f k x) = AT f + x.length := by
 rw [ED h, LJ]; simp [AT]
theorem GR {f : FS} {k x y : List UInt8} (hf : (AW f).Nodup) (h : Bw f k = some y) : AT (BM f k x) + y.length = AT f + x.length := by
  have hp := Dw (k := k) (x := x) hf
  have h1 : Bw (BM f k x) k = some x := by rw [TL hf, if_pos rfl]
  have h2 := Hu hp h1
  have h3 := Hu hf h
  have h4 : (CO (BM f k x) k).Perm (CO f k) := Ge (DH hp) (DH hf) fun p => by
    rw [GO hp, GN hf, GO hf]
    constructor
    · rintro ⟨rfl | h, h'⟩
      · exact absurd rfl h'
      · exact h
    · rintro ⟨h, h'⟩
      exact ⟨.inr ⟨h, h'⟩, h'⟩
  rw [E2 h4] at h2
  omega
theorem KG {f : FS} (hf : (AW f).Nodup) (n b : List UInt8) : AT (BJ f (.app n b)) = AT f + b.length := by
  show AT (BM f n _) = _
  cases h : Bw f n with
  | none => rw [JC h]; simp
  | some y =>
    have := GR (x := y ++ b) hf h
    rw [List.length_append] at this
    simp only [Option.getD_some]
    omega
structure DiskD where
  room : Int
  syn : FS
  wait : List OpD
  fuse : Option Nat
  down : Bool
def DiskD.now (d : DiskD) : FS := d.wait.foldl BJ d.syn
def Ce (d : DiskD) : DiskD × Nat :=
  if d.down = true ∨ d.fuse = some 0 then ({ d with down := true }, 3) else ({ d with fuse := d.fuse.map (· - 1) }, 0)
def D9 (n : List UInt8) : Bool := decide (1 ≤ n.length) && decide (n.length ≤ 16)
def Cw (d : DiskD) (o : OpD) : DiskD := { d with wait := d.wait ++ [o] }
theorem Gv (d : DiskD) (o : OpD) : (Cw d o).now = BJ d.now o := by
 show (d.wait ++ [o]).foldl BJ d.syn = _
 rw [List.foldl_append]; rfl
def IL (d : DiskD) (n b : List UInt8) : Bool := decide ((AT d.now : Int) + (b.length : Int) ≤ d.room) && !((Bw d.now n).isNone && decide (64 ≤ d.now.length))
def CD (d : DiskD) (n b : List UInt8) : DiskD × Nat :=
  match Ce d with
  | (d1, e) => if e ≠ 0 then (d1, e) else if D9 n = false then (d1, 1) else if IL d1 n b = false then (d1, 2) else (Cw d1 (.app n b), 0)
def OG (d : DiskD) (n : List UInt8) (s : Int) : DiskD × Nat :=
  match Ce d with
  | (d1, e) => if e ≠ 0 then (d1, e) else match Bw d1.now n with
    | none => (d1, 4)
    | some x => if s < 0 ∨ (x.length : Int) < s then (d1, 1) else (Cw d1 (.cut n s.toNat), 0)
def Iy (d : DiskD) (n : List UInt8) : DiskD × Nat :=
  match Ce d with
  | (d1, e) => if e ≠ 0 then (d1, e) else match Bw d1.now n with
    | none => (d1, 4)
    | some _ => (Cw d1 (.del n), 0)
def Rn (d : DiskD) : DiskD × Nat :=
  match Ce d with
  | (d1, e) => if e ≠ 0 then (d1, e) else ({ d1 with syn := d1.now, wait := [] }, 0)
def Cn (d : DiskD) (n : List UInt8) : Option (List UInt8) := if d.down = true then none else Bw d.now n
def Dr (d : DiskD) (keep : Int) : Nat := (keep % ((d.wait.length : Int) + 1)).toNat
def Ds (d : DiskD) (keep torn : Int) : FS :=
  match d.wait[Dr d keep]? with
  | some (.app n b) => if (torn % (b.length : Int)).toNat = 0 ∨ b = [] then (d.wait.take (Dr d keep)).foldl BJ d.syn else BJ ((d.wait.take (Dr d keep)).foldl BJ d.syn) (.app n (b.take (torn % (b.length : Int)).toNat))
  | _ => (d.wait.take (Dr d keep)).foldl BJ d.syn
def FZ (d : DiskD) (keep torn : Int) : DiskD := ⟨d.room, Ds d keep torn, [], none, false⟩
def Hv (room : Int) : DiskD := ⟨room, [], [], none, false⟩
theorem OH (d : DiskD) (keep : Int) : Dr d keep ≤ d.wait.length := by
 unfold Dr
 have h1 := Int.emod_nonneg keep (show ((d.wait.length : Int) + 1) ≠ 0 by omega)
 have h2 := Int.emod_lt_of_pos keep (show 0 < (d.wait.length : Int) + 1 by omega)
 omega
end Go.Proofs.YtjcfimmcogkopaaGreatDoor.Sep
namespace Go.Proofs.YtjcfimmcogkopaaGreatDoor.Sep
open Go.RowKit
open Go.Proofs.YtjcfimmcogkopaaGreatDoor.Mem (Bb Ci Chg Aw)
theorem B8 : Dv Tryz.prog 24 := EP Tryz.underlying24 rfl (by kernel_rfl)
theorem Dl : Dv Tryz.prog 29 := EP Tryz.underlying29 rfl (by kernel_rfl)
theorem BS : Dv Tryz.prog 124 := EP Tryz.underlying124 rfl (by kernel_rfl)
theorem Kd : Lh Tryz.prog 124 #[.pointer none] := GH (z := .pointer none) (by kernel_rfl) rfl
theorem LK : Lh Tryz.prog 227 #[.int .u8 0, .int .u8 0, .int .u8 0, .int .u8 0, .int .u8 0, .int .u8 0, .int .u8 0, .int .u8 0, .int .u8 0, .int .u8 0, .int .u8 0, .int .u8 0, .int .u8 0, .int .u8 0, .int .u8 0, .int .u8 0, .int .u8 0, .int .u8 0, .int .u8 0, .int .u8 0, .int .u8 0, .int .u8 0, .int .u8 0, .int .u8 0, .int .u8 0, .int .u8 0, .int .u8 0, .int .u8 0, .int .u8 0, .int .u8 0, .int .u8 0, .int .u8 0, .int .u8 0, .int .u8 0, .int .u8 0, .int .u8 0, .int .u8 0, .int .u8 0, .int .u8 0, .int .u8 0, .int .u8 0, .int .u8 0, .int .u8 0, .int .u8 0, .int .u8 0, .int .u8 0, .int .u8 0, .int .u8 0, .int .u8 0, .int .u8 0, .int .u8 0, .int .u8 0, .int .u8 0, .int .u8 0, .int .u8 0, .int .u8 0, .int .u8 0, .int .u8 0, .int .u8 0, .int .u8 0, .int .u8 0, .int .u8 0, .int .u8 0, .int .u8 0, .int .u8 0] := GH (z := .agg #[.int .u8 0, .int .u8 0, .int .u8 0, .int .u8 0, .int .u8 0, .int .u8 0, .int .u8 0, .int .u8 0, .int .u8 0, .int .u8 0, .int .u8 0, .int .u8 0, .int .u8 0, .int .u8 0, .int .u8 0, .int .u8 0, .int .u8 0, .int .u8 0, .int .u8 0, .int .u8 0, .int .u8 0, .int .u8 0, .int .u8 0, .int .u8 0, .int .u8 0, .int .u8 0, .int .u8 0, .int .u8 0, .int .u8 0, .int .u8 0, .int .u8 0, .int .u8 0, .int .u8 0, .int .u8 0, .int .u8 0, .int .u8 0, .int .u8 0, .int .u8 0, .int .u8 0, .int .u8 0, .int .u8 0, .int .u8 0, .int .u8 0, .int .u8 0, .int .u8 0, .int .u8 0, .int .u8 0, .int .u8 0, .int .u8 0, .int .u8 0, .int .u8 0, .int .u8 0, .int .u8 0, .int .u8 0, .int .u8 0, .int .u8 0, .int .u8 0, .int .u8 0, .int .u8 0, .int .u8 0, .int .u8 0, .int .u8 0, .int .u8 0, .int .u8 0, .int .u8 0]) (by kernel_rfl) rfl
theorem F0 : Dv Tryz.prog 39 := EP Tryz.underlying39 rfl (by kernel_rfl)
theorem LL : Lh Tryz.prog 39 #[.slice none 0 0] := GH (z := .slice none 0 0) (by kernel_rfl) rfl
theorem Cf : Dv Tryz.prog 97 := EP Tryz.underlying97 rfl (by kernel_rfl)
theorem Bm : Dv Tryz.prog 81 := EP Tryz.underlying81 rfl (by kernel_rfl)
theorem C6 : Dv Tryz.prog 74 := EP Tryz.underlying74 rfl (by kernel_rfl)
theorem CI : Dv Tryz.prog 49 := EP Tryz.underlying49 rfl (by kernel_rfl)
theorem P4 : Lh Tryz.prog 49 #[.slice none 0 0] := GH (z := .slice none 0 0) (by kernel_rfl) rfl
theorem B0 : Lg Tryz.prog 53 5 := Tj Tryz.underlying53 rfl (by kernel_rfl)
theorem BQ : Lh Tryz.prog 53 #[.int .i64 0, .int .u64 0, .int .u64 0, .slice none 0 0, .int .i64 0] := GH (z := .agg #[.int .i64 0, .int .u64 0, .int .u64 0, .slice none 0 0, .int .i64 0]) (by kernel_rfl) rfl
theorem BR : Dv Tryz.prog 30 := EP Tryz.underlying30 rfl (by kernel_rfl)
theorem GS : Dv Tryz.prog 4 := EP Tryz.underlying4 rfl (by kernel_rfl)
theorem AO : Dv Tryz.prog 99 := EP Tryz.underlying99 rfl (by kernel_rfl)
theorem Fy : Dv Tryz.prog 104 := EP Tryz.underlying104 rfl (by kernel_rfl)
theorem Cx : Lg Tryz.prog 106 5 := Tj Tryz.underlying106 rfl (by kernel_rfl)
theorem JD : Lh Tryz.prog 106 #[.int .i64 0, .string { data := #[] }, .slice none 0 0, .int .i64 0, .string { data := #[] }] := GH (z := .agg #[.int .i64 0, .string { data := #[] }, .slice none 0 0, .int .i64 0, .string { data := #[] }]) (by kernel_rfl) rfl
theorem CK : Dv Tryz.prog 195 := EP Tryz.underlying195 rfl (by kernel_rfl)
theorem DY : Dv Tryz.prog 167 := EP Tryz.underlying167 rfl (by kernel_rfl)
theorem Br : Dv Tryz.prog 3 := EP Tryz.underlying3 rfl (by kernel_rfl)
theorem ND : Lh Tryz.prog 3 #[.int .i64 0] := GH (z := .int .i64 0) (by kernel_rfl) rfl
theorem B1 : Lg Tryz.prog 83 2 := Tj Tryz.underlying83 rfl (by kernel_rfl)
theorem CR : Dv Tryz.prog 9 := EP Tryz.underlying9 rfl (by kernel_rfl)
theorem AQ : Dv Tryz.prog 38 := EP Tryz.underlying38 rfl (by kernel_rfl)
theorem DZ : Dv Tryz.prog 5 := EP Tryz.underlying5 rfl (by kernel_rfl)
theorem Hw : Bp Tryz.prog 53 0 0 := fun g off w => by kernel_rfl
theorem F2 : Bp Tryz.prog 53 1 1 := fun g off w => by kernel_rfl
theorem LM : Bp Tryz.prog 53 2 2 := fun g off w => by kernel_rfl
theorem EG : Bp Tryz.prog 53 3 3 := fun g off w => by kernel_rfl
theorem Hx : Bp Tryz.prog 53 4 4 := fun g off w => by kernel_rfl
theorem Hy : Bp Tryz.prog 41 0 0 := fun g off w => by kernel_rfl
theorem Hz : Bp Tryz.prog 41 1 1 := fun g off w => by kernel_rfl
theorem HE : Bp Tryz.prog 41 2 2 := fun g off w => by kernel_rfl
theorem GT : Bp Tryz.prog 184 0 0 := fun g off w => by kernel_rfl
theorem GU : Bp Tryz.prog 184 2 2 := fun g off w => by kernel_rfl
theorem HF : Bp Tryz.prog 69 0 0 := fun g off w => by kernel_rfl
theorem HG : Bp Tryz.prog 69 1 1 := fun g off w => by kernel_rfl
theorem HH : Bp Tryz.prog 69 2 2 := fun g off w => by kernel_rfl
theorem HI : Bp Tryz.prog 69 3 3 := fun g off w => by kernel_rfl
theorem HJ : Bp Tryz.prog 69 4 4 := fun g off w => by kernel_rfl
theorem HK : Bp Tryz.prog 69 5 5 := fun g off w => by kernel_rfl
theorem HO : Bp Tryz.prog 69 6 6 := fun g off w => by kernel_rfl
theorem HP : Bp Tryz.prog 57 0 0 := fun g off w => by kernel_rfl
theorem HS : Bp Tryz.prog 57 1 1 := fun g off w => by kernel_rfl
theorem IY : Bp Tryz.prog 110 0 0 := fun g off w => by kernel_rfl
theorem IZ : Bp Tryz.prog 110 1 1 := fun g off w => by kernel_rfl
theorem I0 : Bp Tryz.prog 110 2 2 := fun g off w => by kernel_rfl
theorem I1 : Bp Tryz.prog 110 3 3 := fun g off w => by kernel_rfl
theorem I2 : Bp Tryz.prog 110 4 4 := fun g off w => by kernel_rfl
theorem LN : Bp Tryz.prog 101 0 0 := fun g off w => by kernel_rfl
theorem LO : Bp Tryz.prog 101 1 1 := fun g off w => by kernel_rfl
theorem LP : Bp Tryz.prog 101 2 2 := fun g off w => by kernel_rfl
theorem LQ : Bp Tryz.prog 101 3 3 := fun g off w => by kernel_rfl
theorem LR : Bp Tryz.prog 101 4 4 := fun g off w => by kernel_rfl
theorem LS : Bp Tryz.prog 101 5 5 := fun g off w => by kernel_rfl
theorem Iz : Bp Tryz.prog 106 0 0 := fun g off w => by kernel_rfl
theorem IA : Bp Tryz.prog 106 1 1 := fun g off w => by kernel_rfl
theorem IB : Bp Tryz.prog 106 2 2 := fun g off w => by kernel_rfl
theorem IC : Bp Tryz.prog 106 3 3 := fun g off w => by kernel_rfl
theorem ID : Bp Tryz.prog 106 4 4 := fun g off w => by kernel_rfl
theorem Ke : Bp Tryz.prog 221 0 0 := fun g off w => by kernel_rfl
theorem Kf : Bp Tryz.prog 221 1 1 := fun g off w => by kernel_rfl
theorem NE : Bp Tryz.prog 76 0 0 := fun g off w => by kernel_rfl
theorem NF : Bp Tryz.prog 76 1 1 := fun g off w => by kernel_rfl
theorem NG : Bp Tryz.prog 76 2 2 := fun g off w => by kernel_rfl
theorem IM : Bp Tryz.prog 137 0 0 := fun g off w => by kernel_rfl
theorem Gk : Bp Tryz.prog 137 1 1 := fun g off w => by kernel_rfl
theorem Bf : Bp Tryz.prog 83 0 0 := fun g off w => by kernel_rfl
theorem A7 : Bp Tryz.prog 83 1 1 := fun g off w => by kernel_rfl
theorem HU (i : Nat) (h : i < 65) : Tr Tryz.prog 227 (i : Int) i := fun g off w => Vx Tryz.underlying227 (by kernel_rfl) h
theorem AP : SliceT Tryz.prog 39 53 5 := FC (z := .agg #[.int .i64 0, .int .u64 0, .int .u64 0, .slice none 0 0, .int .i64 0]) Tryz.underlying39 (by kernel_rfl) rfl rfl (by decide)
theorem CS : SliceT Tryz.prog 97 106 5 := FC (z := .agg #[.int .i64 0, .string { data := #[] }, .slice none 0 0, .int .i64 0, .string { data := #[] }]) Tryz.underlying97 (by kernel_rfl) rfl rfl (by decide)
theorem CY : SliceT Tryz.prog 81 137 2 := FC (z := .agg #[.int .u64 0, .int .i64 0]) Tryz.underlying81 (by kernel_rfl) rfl rfl (by decide)
theorem BT : SliceT Tryz.prog 74 83 2 := FC (z := .agg #[.int .u64 0, .slice none 0 0]) Tryz.underlying74 (by kernel_rfl) rfl rfl (by decide)
theorem MX : SliceT Tryz.prog 77 9 1 := FC (z := .string { data := #[] }) Tryz.underlying77 (by kernel_rfl) rfl rfl (by decide)
theorem Bh : SliceT Tryz.prog 49 5 1 := FC (z := .int .u8 0) Tryz.underlying49 (by kernel_rfl) rfl rfl (by decide)
def flS : List ((Nat × Nat) × Nat) := [((53, 0), 0), ((53, 1), 1), ((53, 2), 2), ((53, 3), 3), ((53, 4), 4), ((41, 0), 0), ((41, 1), 1), ((41, 2), 2), ((184, 0), 0), ((184, 2), 2), ((69, 0), 0), ((69, 1), 1), ((69, 2), 2), ((69, 3), 3), ((69, 4), 4), ((69, 5), 5), ((69, 6), 6), ((57, 0), 0), ((57, 1), 1), ((110, 0), 0), ((110, 1), 1), ((110, 2), 2), ((110, 3), 3), ((110, 4), 4), ((101, 0), 0), ((101, 1), 1), ((101, 2), 2), ((101, 3), 3), ((101, 4), 4), ((101, 5), 5), ((106, 0), 0), ((106, 1), 1), ((106, 2), 2), ((106, 3), 3), ((106, 4), 4), ((221, 0), 0), ((221, 1), 1), ((76, 0), 0), ((76, 1), 1), ((76, 2), 2), ((137, 0), 0), ((137, 1), 1), ((83, 0), 0), ((83, 1), 1)]
theorem Ak : Og Tryz.prog flS := Nt ⟨Hw, F2, LM, EG, Hx, Hy, Hz, HE, GT, GU, HF, HG, HH, HI, HJ, HK, HO, HP, HS, IY, IZ, I0, I1, I2, LN, LO, LP, LQ, LR, LS, Iz, IA, IB, IC, ID, Ke, Kf, NE, NF, NG, IM, Gk, Bf, A7, trivial⟩
end Go.Proofs.YtjcfimmcogkopaaGreatDoor.Sep
namespace Go.Proofs.YtjcfimmcogkopaaGreatDoor.Sep
open Go.RowKit
open Go.Proofs.YtjcfimmcogkopaaGreatDoor.Mem (Bb Ci Chg Aw)
def encKey (s : List UInt8) : Value := .string (bs s)
def AI (x : PtT) : Value := x.1
abbrev FilL := List (List UInt8 × PtT)
theorem Dx : MapTy Tryz.prog 99 9 49 .string encKey (.slice none 0 0) := Sh Tryz.underlying99 Tryz.underlying9 (fun w => by kernel_rfl)
def Bx (L : FilL) : Ass := AY (fun p : List UInt8 × PtT => Aj 5 1 encB p.2.1 p.2.2) L
def Cs (L : FilL) : FS := L.map fun p => (p.1, p.2.2)
theorem EH (L : FilL) : AW (Cs L) = AW L := by simp [AW, Cs]
theorem JE {L : FilL} {p : List UInt8 × PtT} (h : p ∈ L) : EN (Bx L) p.2.1 p.2.2 := fun rs w h1 h2 => by
 obtain ⟨j, hj⟩ := List.getElem?_of_mem h
 obtain ⟨ys, h3, h4⟩ := AY.at_ h1 h2 hj
 exact In h3 h4
theorem La {α β γ : Type} [DecidableEq α] (g : β → γ) (k : α) : ∀ (L : List (α × β)) (i : Nat), Fj k (L.map fun p => (p.1, g p.2)) i = (Fj k L i).map fun q => (q.1, g q.2)
  | [], i => rfl
  | p :: L, i => by
    simp only [List.map_cons, Fj]
    split
    · rfl
    · exact La g k L (i + 1)
theorem TW {α β γ : Type} [DecidableEq α] (g : β → γ) (k : α) (L : List (α × β)) : Bw (L.map fun p => (p.1, g p.2)) k = (Bw L k).map g := by
 unfold Bw
 rw [La, Option.map_map, Option.map_map]; rfl
theorem TX {α β γ : Type} [DecidableEq α] (g : β → γ) (k : α) (x : β) (L : List (α × β)) : BM (L.map fun p => (p.1, g p.2)) k (g x) = (BM L k x).map fun p => (p.1, g p.2) := by
  unfold BM
  rw [La]
  cases Fj k L 0 with
  | none => simp
  | some q => simp [List.map_set]
theorem TY {α β γ : Type} [DecidableEq α] (g : β → γ) (k : α) (L : List (α × β)) : CO (L.map fun p => (p.1, g p.2)) k = (CO L k).map fun p => (p.1, g p.2) := by
  unfold CO
  rw [La]
  cases Fj k L 0 with
  | none => rfl
  | some q => simp [List.eraseIdx_eq_take_drop_succ, List.map_take, List.map_drop]
theorem EI (L : FilL) (k : List UInt8) : Bw (Cs L) k = (Bw L k).map (·.2) := TW (fun x : PtT => x.2) k L
theorem JF (L : FilL) (k : List UInt8) (x : PtT) : BM (Cs L) k x.2 = Cs (BM L k x) := TX (fun x : PtT => x.2) k x L
theorem OI (L : FilL) (k : List UInt8) : CO (Cs L) k = Cs (CO L k) := TY (fun x : PtT => x.2) k L
def Az (v : Value) (f : FS) : Ass := fun rs => ∃ L : FilL, f = Cs L ∧ Am [BF encKey AI v L, Bx L] rs
theorem F3 {v : Value} {f : FS} : ∀ rs, Az v f rs → ∃ x : { L : FilL // f = Cs L }, Am [BF encKey AI v x.1, Bx x.1] rs := fun _ ⟨L, h, h'⟩ => ⟨⟨L, h⟩, h'⟩
theorem Ro {L : FilL} {k : List UInt8} {q : Nat × PtT} (h : Fj k L 0 = some q) : L[q.1]? = some (k, q.2) := (Eg h).2
theorem HW {L : FilL} {k : List UInt8} {q : Nat × PtT} (h : Fj k L 0 = some q) : ∀ rs, Bx L rs → ∃ _ : Unit, Am [Bx (L.take q.1), Aj 5 1 encB q.2.1 q.2.2, Bx (L.drop (q.1 + 1))] rs := MU (Ro h)
theorem Vz {L : FilL} {k : List UInt8} {q : Nat × PtT} (h : Fj k L 0 = some q) (y : PtT) : ∀ rs, Am [Bx (L.take q.1), Aj 5 1 encB y.1 y.2, Bx (L.drop (q.1 + 1))] rs → Bx (BM L k y) rs := fun rs hr => by
 have h1 := MV (f := fun p : List UInt8 × PtT => Aj 5 1 encB p.2.1 p.2.2) (y := (k, y)) rs hr
 rw [OD (y := (k, y)) (List.getElem?_eq_some_iff.1 (Ro h)).1] at h1
 unfold Bx BM
 rw [h]
 exact h1
theorem Rp {L : FilL} {k : List UInt8} (h : Fj k L 0 = none) (y : PtT) : ∀ rs, Am [Bx L, Aj 5 1 encB y.1 y.2] rs → Bx (BM L k y) rs := fun rs hr => by
 have h1 := GQ (f := fun p : List UInt8 × PtT => Aj 5 1 encB p.2.1 p.2.2) (x := (k, y)) rs hr
 unfold Bx BM
 rw [h]
 exact h1
theorem LT {α : Type} {l : List α} {j : Nat} {x : α} (h : l[j]? = some x) : (l.eraseIdx j).length < l.length := by
 have := (List.getElem?_eq_some_iff.1 h).1
 rw [List.length_eraseIdx, if_pos this]; omega
theorem P5 {l : FilL} {j : Nat} {p : List UInt8 × PtT} (h : l[j]? = some p) : AT (Cs (l.eraseIdx j)) + p.2.2.length = AT (Cs l) := by
 have hlt := (List.getElem?_eq_some_iff.1 h).1
 have hx := (List.getElem?_eq_some_iff.1 h).2
 have h1 : l = l.take j ++ p :: l.drop (j + 1) := by rw [← hx]; simp
 have h2 : l.eraseIdx j = l.take j ++ l.drop (j + 1) := List.eraseIdx_eq_take_drop_succ ..
 have e1 : Cs l = Cs (l.take j) ++ (p.1, p.2.2) :: Cs (l.drop (j + 1)) := by
  have := congrArg Cs h1
  rw [this]; simp [Cs]
 have e2 : Cs (l.eraseIdx j) = Cs (l.take j) ++ Cs (l.drop (j + 1)) := by rw [h2]; simp [Cs]
 rw [e1, e2, LJ, LJ, Kc]
 show _ + p.2.2.length = _ + (p.2.2.length + _)
 omega
end Go.Proofs.YtjcfimmcogkopaaGreatDoor.Sep
namespace Go.Proofs.YtjcfimmcogkopaaGreatDoor.Sep
open Go.RowKit
open Go.Proofs.YtjcfimmcogkopaaGreatDoor.Mem (Bb Ci Chg Aw)
end Go.Proofs.YtjcfimmcogkopaaGreatDoor.Sep
namespace Go.Proofs.YtjcfimmcogkopaaGreatDoor.Sep
open Go.RowKit
open Go.Proofs.YtjcfimmcogkopaaGreatDoor.Mem (Bb Ci Chg Aw)
end Go.Proofs.YtjcfimmcogkopaaGreatDoor.Sep
