/-
  CmdK · Law · Opz · Prt · DskM · TyC · Fil · CmdA · CmdB
-/
import Derived.Test.YtjcfimmcogkopaaGreatDoorWA01
import Derived.Test.YtjcfimmcogkopaaGreatDoorWA06
import Derived.Test.YtjcfimmcogkopaaGreatDoorWA07
import Derived.Test.YtjcfimmcogkopaaGreatDoorWB01
import Derived.Test.YtjcfimmcogkopaaGreatDoorRows
import Derived.ProofKit
import Derived.OpenShut
import Derived.JoinedCond
import Derived.SizedLaws
import Derived.Test.YtjcfimmcogkopaaGreatDoorChecked
set_option linter.unusedSimpArgs false
set_option linter.unusedVariables false
namespace Go.Proofs.YtjcfimmcogkopaaGreatDoor.Sep
variable {A : Option Addr} {T T' : TypeId} {k : IntKind} {l : List UInt8} {p q r : Int} {x y : Operand}
open Go.RowKit
open Go.Proofs.YtjcfimmcogkopaaGreatDoor.Mem (AG BC Chg Ak)
section
variable {P : Program} {n : Nat} {B : Nat → Prop} {w0 w : World} {os : List Ass} {env : List (Nat × Value)} {o : Oper} {a : Act}
theorem Lc (hr : bits .or k p q = r) (ho : o.op = .binOp .or T x y T') (hx : evs env x = some (.int k p)) (hy : evs env y = some (.int k q)) (hF : Fr n a env) : (execOp a.eval o).run P w = .ok (.value (.int k r)) w := by
 unfold execOp
 simp only [ho, hF.evs hx, hF.evs hy]
 simp [eqGuard, binOp, intBits_or, hr]
theorem LJ (hr : bits .and k p q = r) (ho : o.op = .binOp .and T x y T') (hx : evs env x = some (.int k p)) (hy : evs env y = some (.int k q)) (hF : Fr n a env) : (execOp a.eval o).run P w = .ok (.value (.int k r)) w := by
 unfold execOp
 simp only [ho, hF.evs hx, hF.evs hy]
 simp [eqGuard, binOp, intBits_and, hr]
theorem VP {e : TypeId} {N i : Nat} {g off : Nat} (hT : P.underlying T = some (.array N e)) (hs : (P.info? e).map (fun i => i.size) = some 1) (h : i < N) : (Instr.indexAt T (.pointer (some ⟨g, off, none⟩)) (.int .i64 (i : Int))).run P w = .ok (.pointer (some ⟨g, off + i, none⟩)) w := by
  have hz : (sizeOf e).run P w = .ok 1 w := by
    cases hq : P.info? e with
    | none => simp [hq] at hs
    | some j =>
      simp only [hq, Option.map_some, Option.some.injEq] at hs
      simp [sizeOf, typeInfo, hq, hs]
  have hi : (0 : Int) ≤ (i : Int) ∧ (i : Int) < (N : Int) := by omega
  simp only [Instr.indexAt, asIntOf, Sem.run_bind, Sem.run_pure, Result.andThen_ok, run_underlying hT w, Instr.sureAddr, hz]
  simp [hi, hz, Addr.add]
theorem J6 {e : TypeId} {v : Value} (hs : P.underlying T = some (.slice e)) (he : P.underlying e = some (.int .u8)) (hi : (P.info? e).map (fun i => (i.zero, i.size, i.bytes)) = some (some (.int .u8 0), 1, 1)) (hd : P.underlying T' = some .string) (h : D1 w v l) (ho : o.op = .convert T T' x) (hx : evs env x = some v) (hF : Fr n a env) : (execOp a.eval o).run P w = .ok (.value (.string (bs l))) w := by
 obtain ⟨A, c, rfl, hb⟩ := h
 have := VC (P := P) ⟨hs, he, hi⟩ hd hb
 unfold execOp
 simp only [ho, hF.evs hx, Sem.run_bind, Sem.run_pure, Result.andThen_ok, this]
 rfl
end
theorem Rp {w : World} {c : Nat} (h : D1 w (.slice A l.length c) l) (hl : l.length ≤ 140737488355328) (most : Nat) (hm : most < 18446744073709551616) (R : Nat × Nat × Nat) (hv : By most l 0 0 = R) : Calls Tryz.prog 173 #[.slice A l.length c, .int .u64 (most : Int)] w fun e w' => e = .returned (.tuple #[.int .u64 (R.1 : Int), .int .i64 (R.2.1 : Int), .int .i64 (R.2.2 : Int)]) ∧ Below w.heap.size w w' := by
 subst hv
 obtain ⟨A', c', e, hb⟩ := h
 simp only [Value.slice.injEq] at e
 obtain ⟨rfl, _, rfl⟩ := e
 refine (PU w A c l most hb hl hm).mono ?_
 rintro e w' ⟨he, rfl⟩
 exact ⟨he, Below.refl _ _⟩
section
variable {P : Program} {n : Nat} {w : World} {env : List (Nat × Value)} {o : Oper} {a : Act}
end
theorem Fw {w0 w : World} {v : Value} {os : List Ass} (h : D1 w0 v l) (hH : Hp Nil w0 w os) : D1 w v l := h.below (hH.up.below (Nat.le_refl _) (fun _ h => h.elim))
theorem Ia (w : World) : D1 w (.slice none 0 0) [] := ⟨none, 0, rfl, Bs.nil _ _ _ (by decide)⟩
theorem D1.drop {w : World} {A : Option Addr} {c k : Nat} {l : List UInt8} (h : D1 w (.slice A l.length c) l) (hk : k ≤ l.length) : D1 w (.slice (if c = k then A else A.map (·.add k)) (l.drop k).length (c - k)) (l.drop k) := by
  obtain ⟨A', c', e, hb⟩ := h
  simp only [Value.slice.injEq] at e
  obtain ⟨rfl, _, rfl⟩ := e
  exact ⟨_, _, rfl, hb.drop hk⟩
theorem D1.takes {w : World} {c k : Nat} (h : D1 w (.slice A l.length c) l) (hk : k ≤ l.length) : D1 w (.slice A (l.take k).length c) (l.take k) := by
 obtain ⟨A', c', e, hb⟩ := h
 simp only [Value.slice.injEq] at e
 obtain ⟨rfl, _, rfl⟩ := e
 exact ⟨_, _, rfl, hb.take hk⟩
section
variable {P : Program} {n : Nat} {w : World} {env : List (Nat × Value)} {o : Oper} {a : Act}
theorem F3 (ho : o.op = .binOp .rem T x y T') (hx : evs env x = some (.int k p)) (hy : evs env y = some (.int k q)) (hq : q ≠ 0) (hr : p.tmod q = r) (hF : Fr n a env) : (execOp a.eval o).run P w = .ok (.value (.int k r)) w := by
 unfold execOp
 simp only [ho, hF.evs hx, hF.evs hy]
 simp [eqGuard, binOp, Op.intArith, Op.intDiv, hq, hr]
end
section
variable {P : Program} {t e ty : TypeId} {v u : Value} {l m : List UInt8} {w w' : World} {rs : List RowT}
theorem OI (hT : SliceT P t e 1) (h1 : (P.info? e).map (fun i => i.bytes) = some 1) (h : Af e 1 encB v l rs) (hr : RowsOf w rs) (hd : AG rs) (hu : Dh w 1 u m.length (flat encB m)) (hlen : l.length + m.length ≤ 140737488355328) :
    ∃ v' w', (Builtin.append_ #[t, t] ty #[v, u]).run P w = .ok v' w' ∧ ∃ rs', Af e 1 encB v' (l ++ m) rs' ∧ Chg w w' rs rs' := by
  obtain ⟨i, z, hi, hz, hk, hby, hzs, _⟩ := hT.inf
  have hb1 : i.bytes = 1 := by simpa [hi] using h1
  obtain ⟨hul, A, c, rfl, hA⟩ := hu
  have hu1 := Lr Ou m
  rcases hA with ⟨rfl, hm⟩ | ⟨a, rfl, hcells⟩
  · have hm' : m = [] := List.length_eq_zero_iff.1 hm
    subst hm'
    refine ⟨v, w, ?_, rs, by simpa using h, ⟨Mod.refl _ _, hr, hd, fun x hx _ => ⟨x, hx, rfl⟩⟩⟩
    rcases h with ⟨h1, h2, h3⟩ | ⟨g, c', cs, h1, h2, h3, h4, h5, h6⟩
    · subst h1
      simp [Builtin.append_, run_underlying hT.ht, sizeOf, typeInfo, hi, Builtin.lenOf, Builtin.firstCells]
    · subst h1
      simp [Builtin.append_, run_underlying hT.ht, sizeOf, typeInfo, hi, Builtin.lenOf, Builtin.firstCells, h2, storeCells]
  · have hown : w.ownsRow 0 e 1 v l.length (flat encB l) := by
      refine ⟨Dn Ou l, ?_⟩
      rcases h with ⟨h1, h2, h3⟩ | ⟨g, c', cs, h1, h2, h3, h4, h5, h6⟩
      · exact .inl ⟨h1, by rw [h2]; rfl⟩
      · subst h6
        exact .inr ⟨g, c', cs, h1, Nat.zero_le _, hr.1, h2, h3, h4, h5⟩
    obtain ⟨v', w', hrun, h2, h3, _, h5⟩ := run_append_own_at (P := P) w 0 t ty e i z 1 i.bytes hT.ht hi hz hk rfl hzs hT.pos v l.length (flat encB l) hown a m.length c (flat encB m) hul hcells hu1 (by unfold maxLen; omega)
      (by rw [hb1]; omega) (Nat.zero_le _)
    refine ⟨v', w', hrun, ?_⟩
    have hm : Mod (At v) w w' := Mod.of_grown h3 (fun k hk => hk)
    have hmB : Mod (BC rs) w w' := hm.weaken fun j _ hj => by
      rcases h with ⟨h1, _, _⟩ | ⟨g, c', cs, h1, _, _, _, _, h6⟩
      · subst h1; unfold At at hj; simp [Value.ownBlock] at hj
      · subst h1; subst h6
        unfold At at hj
        simp [Value.ownBlock] at hj
        exact ⟨(g, EO e, cs), by simp, hj⟩
    rcases h2.2 with ⟨h1, hn⟩ | ⟨g, c', cs, h1, _, hrow, hle, hmx, hsz, htk⟩
    · have : l ++ m = [] := List.length_eq_zero_iff.1 (by rw [List.length_append]; exact hn)
      exact ⟨[], .inl ⟨h1, this, rfl⟩, ⟨hmB, trivial, trivial, fun x hx => by simp at hx⟩⟩
    · refine ⟨[(g, EO e, cs)], .inr ⟨g, c', cs, by rw [h1, List.length_append], by rw [List.length_append]; exact hle, hmx, hsz, by rw [List.length_append, G4]; exact htk, rfl⟩, ⟨hmB, ⟨hrow, trivial⟩, ⟨(fun _ h => by cases h), trivial⟩, fun x hx hlt => ?_⟩⟩
      have : x = (g, EO e, cs) := by simpa using hx
      subst this
      rcases h5 with h5 | h5
      · subst h1
        rcases h with ⟨h1, _, _⟩ | ⟨g', c'', cs', h1, _, _, _, _, h6⟩
        · subst h1; simp [Value.ownBlock] at h5
        · subst h1; subst h6
          simp [Value.ownBlock] at h5
          exact ⟨(g', EO e, cs'), by simp, h5.symm⟩
      · subst h1
        simp [Value.ownBlock] at h5
        exact absurd hlt (by show ¬ g < w.heap.size; omega)
variable {Q : Exit → Act → World → Prop} {n : Nat} {B : Nat → Prop} {w0 : World} {os : List Ass} {env : List (Nat × Value)} {o : Oper}
theorem Fd (i : Nat) (hT : SliceT P t e 1) (h1 : (P.info? e).map (fun i => i.bytes) = some 1) (hi : os[i]? = some (Af e 1 encB v l)) (m : List UInt8) (hu : ∀ w, Hp B w0 w os → Dh w 1 u m.length (flat encB m)) (hlen : l.length + m.length ≤ 140737488355328) (ho : o.op = .call { callee := .builtin .append, args := #[x, y], argTypes := #[t, t] }) (hx : evs env x = some v) (hy : evs env y = some u) {r : List UInt8} (hr : l ++ m = r) :
  AR P Q n env B w0 os o (fun v : Value => v) (fun v' => os.set i (Af e 1 encB v' r)) := fun act w hH hF K hK => by
 subst hr
 have hH' := hH
 obtain ⟨rs0, hp, hm⟩ := hH
 obtain ⟨a, z, b, e1, hz, hb⟩ := hp.at_ hi
 subst e1
 have p : (a ++ (z ++ b)).Perm (z ++ (a ++ b)) := by rw [← List.append_assoc, ← List.append_assoc]; exact List.perm_append_comm.append_right b
 have h5 := Cz hm p
 have hd := AT.1 h5.apart
 rw [List.map_append] at hd
 obtain ⟨v', w', hr, y', hy', hc⟩ := OI (P := P) (ty := o.type) hT h1 hz (AZ.2 fun z hz => h5.rows.mem z (by simp [hz])) (AT.2 (List.nodup_append.1 hd).1) (hu w hH') hlen
 have p' : (y' ++ (a ++ b)).Perm (a ++ (y' ++ b)) := by rw [← List.append_assoc, ← List.append_assoc]; exact List.perm_append_comm.append_right b
 refine Fm (w0 := w) act (FM ho (vs := [v, u]) (by simp [evl, hx, hy]) (fun cs => ?_) hF) (hK v' w' ⟨_, hb _ y' hy', Cz (Fl h5 hc) p'⟩)
 simp only [builtin, Sem.run_bind, Sem.run_pure, Result.andThen_ok, hr]
end
section
variable {P : Program} {Q : Exit → Act → World → Prop} {n : Nat} {B : Nat → Prop} {w0 : World} {os : List Ass} {env : List (Nat × Value)} {o : Oper} {t e : TypeId}
end
end Go.Proofs.YtjcfimmcogkopaaGreatDoor.Sep
namespace Go.Proofs.YtjcfimmcogkopaaGreatDoor
variable {W : World} {x : Int}
open Go.ChangeShapes Go.WideShapes Go.ChangeAt Go.RowKit
theorem own : ownKnob Tryz.prog.godebug = none := by kernel_rfl
theorem Vz : laidOutB Tryz.prog = true := by kernel_rfl
section
variable {H : Type} {enc : TypeId × Value → H} {P : Program}
theorem Iw (hl : laidOutB P = true) {W W' : World} (hb : Below W.heap.size W W') :
    ∀ {ts : List TypeId} {vs : List Value} {ds : List (DataW H)} {ps : List MemPlace}, (∀ t ∈ ts, P.readableRec t = true ∧ t < P.types.size) → (∀ x ∈ ps, x.block < W.heap.size) →
      DataW.TrodAll enc P W 0 (fun _ => true) true ts vs ds ps → DataW.TrodAll enc P W' 0 (fun b => decide (b < W.heap.size)) true ts vs ds ps
  | [], vs, ds, ps, _, _, h => by
    obtain ⟨rfl, rfl, rfl⟩ := trodAll_nil h
    rfl
  | t :: ts, vs, ds, ps, ht, hp, h => by
    obtain ⟨v, vs1, d, ds1, a, b, rfl, rfl, rfl, h1, h2⟩ := trodAll_cons h
    obtain ⟨hr, hrow⟩ := ht t List.mem_cons_self
    exact ⟨a, b, Below.trod hl hr hrow h1 hb (fun x hx => hp x (List.mem_append_left _ hx)), Iw hl hb (fun t h => ht t (List.mem_cons_of_mem _ h)) (fun x hx => hp x (List.mem_append_right _ hx)) h2, rfl⟩
theorem Tr {f : Func} {s : ChangeSpec} {tb : TypeId} {W' : World} {args : Array Value} {ds gs : List (DataW H)} {before : List MemPlace}
    (hl : laidOutB P = true) (hr : f.resultTypes = #[tb]) (htb : P.underlying tb = some .bool) (hread : ∀ t ∈ f.params.toList, P.readableRec t = true ∧ t < P.types.size)
    (hvars : s.vars = []) (hs : s.fn H ds = { results := [.lit (.bool true)], args := ds })
    (hW : DataW.Whole enc P f.params.toList s.vars false W args.toList ds gs before) (hb : Below W.heap.size W W') :
    s.post enc P f false true false false W args (.bool true) W' := by
  have hW' := hW
  obtain ⟨p, q, hA, hV, rfl, hfz, hnd⟩ := hW
  rw [hvars] at hV
  obtain ⟨rfl, rfl⟩ := trodVars_none hV
  have hlt : ∀ x ∈ p, x.block < W.heap.size := fun x hx => hW'.lt x (by simpa using hx)
  refine ⟨ds, [], p ++ [], [], p, [], hW', ?_, ?_, ?_, ?_, fun h => by cases h⟩
  · rw [List.append_nil, hs, hr]
    exact trodAll_cons_mk (shut_bool htb true) trodAll_mk0
  · rw [List.append_nil, hs]
    exact Iw hl hb hread hlt hA
  · rw [List.append_nil, hs, hvars]
    rfl
  · exact World.keptBut_mono (fun x hx => ⟨hx, .inr (.inl (by simpa using hx))⟩) (hb.frame (· ∈ p ++ []))
end
section
variable {H : Type} {enc : TypeId × Value → H} {P : Program}
theorem Su {w : World} {a : Addr} {v : Value} (h : w.cell? a = some v) : a = ⟨a.block, a.off, none⟩ := by
 obtain ⟨b, o, s⟩ := a
 have : s = none := by simpa using World.cell?_spot h
 subst this
 rfl
theorem T3 {base : Nat} {spare : Nat → Bool} {held : Bool} {t e : TypeId} {fuel : Nat} {cs : List Value} {x : DataW H × List MemPlace} (hu : U8 P t e) (hc : P.cellsOf e = 1)
    (hf : DataW.trod enc P W base spare held fuel t cs = some x) : ∃ A c l, cs = [.slice A l.length c] ∧ Bs (fun k => k < W.heap.size) W A c l ∧ ((x.1 = .nil ∧ l = []) ∨ ∃ es sp, x.1 = .slice es sp ∧ es.length = l.length) := by
  rcases open_ints hu.ht hu.he hc hf with ⟨hcs, hx⟩ | ⟨a, len, cap, zs, hcs, _, hl, hm, hz, hx, hcell, hwz⟩
  · subst hcs
    exact ⟨none, 0, [], rfl, Bs.nil _ _ _ (by simp [maxLen]), .inl ⟨by rw [hx], rfl⟩⟩
  · subst hcs
    have hlz : len ≤ zs.length := by rw [hz]; split <;> omega
    have e0 : ((zs.take len).map (fun z => UInt8.ofNat z.toNat)).length = len := by simp; omega
    refine ⟨some a, cap, (zs.take len).map (fun z => UInt8.ofNat z.toNat), by rw [e0], ⟨by omega, hm, fun hn => ?_⟩, .inr ⟨_, _, by rw [hx], by simp [lits]⟩⟩
    have h0 := hcell 0 (by omega)
    have hs : a = ⟨a.block, a.off, none⟩ := by
      have := h0
      rw [show a.add 0 = a by simp [Addr.add]] at this
      exact Su this
    have hb := World.block_lt_of_cell? _ _ h0
    rw [hs, Addr.add_lit] at hb
    refine ⟨a.block, a.off, by rw [← hs], hb, fun j b hj => ?_⟩
    have hjl := (List.getElem?_eq_some_iff.1 hj).1
    rw [e0] at hjl
    have hcj := hcell j (by omega)
    rw [hs, Addr.add_lit] at hcj
    rw [hcj]
    have hbj : b = UInt8.ofNat (zs.getD j 0).toNat := by
      rw [List.getElem?_map, List.getElem?_take, if_pos (by omega), List.getElem?_eq_getElem (by omega)] at hj
      simp only [Option.map_some, Option.some.injEq] at hj
      rw [← hj, List.getD, List.getElem?_eq_getElem (by omega)]
      rfl
    have hw : 0 ≤ zs.getD j 0 ∧ zs.getD j 0 ≤ 255 := by
      have hmem : zs.getD j 0 ∈ zs := by
        rw [List.getD, List.getElem?_eq_getElem (show j < zs.length by omega)]
        exact List.getElem_mem _
      simpa [Lit.wf, IntKind.min, IntKind.max, IntKind.signed, IntKind.bits] using hwz _ hmem
    rw [hbj]
    unfold To
    simp only [UInt8.toNat_ofNat']
    congr 2
    omega
end
theorem Li (h : (Lit.int .i64 x).wf = true) : -9223372036854775808 ≤ x ∧ x ≤ 9223372036854775807 := by
 simpa [Lit.wf, IntKind.min, IntKind.max, IntKind.signed, IntKind.bits] using h
theorem T4 (h : (Lit.int .u64 x).wf = true) : 0 ≤ x ∧ x ≤ 18446744073709551615 := by
 simpa [Lit.wf, IntKind.min, IntKind.max, IntKind.signed, IntKind.bits] using h
theorem Oc {P : Program} {l : List TypeId} (h : l.all (fun t => P.readableRec t && decide (t < P.types.size)) = true) : ∀ t ∈ l, P.readableRec t = true ∧ t < P.types.size := by
 intro t ht
 have := List.all_eq_true.1 h t ht
 simpa using this
theorem T5 : Tryz.prog.cellsOf 5 = 1 := by kernel_rfl
theorem T6 : Tryz.prog.bytesOf 5 = 1 := by kernel_rfl
end Go.Proofs.YtjcfimmcogkopaaGreatDoor
namespace Go.Proofs.YtjcfimmcogkopaaGreatDoor.Sep
variable {W : World} {base j n0 : Nat} {e t : TypeId} {held : Bool} {spare : Nat → Bool}
open Go.ChangeShapes Go.WideShapes Go.ChangeAt Go.RowKit
section
variable {H : Type} {enc : TypeId × Value → H} {P : Program}
def Db (P : Program) (t : TypeId) (d : DataW H) : Prop := ∀ n ∈ d.weights P t, n ≤ reachBytes
theorem sized_arg {ts : List TypeId} {ds : List (DataW H)} (h : (DataW.weightsEach P ts ds).all (· ≤ reachBytes) = true) {d : DataW H} (ht : ts[j]? = some t) (hd : ds[j]? = some d) : Db P t d := fun n hn => by
  have := List.all_eq_true.1 h n (DataW.weights_mem_each ht hd n hn)
  simpa using this
theorem Db.field {fs : Array Field} {parts : List (DataW H)} {f : Field} {d : DataW H} (h : Db P t (.agg parts)) (hu : P.underlying t = some (.struct fs)) (hf : fs[j]? = some f) (hd : parts[j]? = some d) : Db P f.type d := fun n hn => by
  refine h n ?_
  have hm := DataW.weights_mem_each (P := P) (ts := fs.toList.map (·.type)) (ds := parts) (j := j) (t := f.type) (d := d) (by simp [hf]) hd n hn
  simpa [DataW.weights, hu] using hm
theorem Db.len {es sp : List (DataW H)} (h : Db P t (.slice es sp)) (hu : P.underlying t = some (.slice e)) : es.length * P.bytesOf e ≤ reachBytes := by
 have := h ((es.length + sp.length) * P.bytesOf e) (by simp [DataW.weights, hu])
 exact Nat.le_trans (Nat.mul_le_mul_right _ (Nat.le_add_right _ _)) this
theorem KE {e : TypeId} : ∀ {es : List (DataW H)} {j : Nat} {d : DataW H}, es[j]? = some d → ∀ n ∈ d.weights P e, n ∈ DataW.weightsAll P e es
  | [], _, _, h, _, _ => by simp at h
  | d0 :: r, 0, d, h, n, hn => by
    simp only [List.getElem?_cons_zero, Option.some.injEq] at h
    subst h
    simp only [DataW.weightsAll, List.mem_append]
    exact .inl hn
  | d0 :: r, j + 1, d, h, n, hn => by
    simp only [List.getElem?_cons_succ] at h
    simp only [DataW.weightsAll, List.mem_append]
    exact .inr (KE h n hn)
theorem Db.elem {es sp : List (DataW H)} (h : Db P t (.slice es sp)) (hu : P.underlying t = some (.slice e)) {d : DataW H} (hd : es[j]? = some d) : Db P e d := fun n hn => by
 refine h n ?_
 have := KE (P := P) hd n hn
 simp [DataW.weights, hu, this]
theorem ND {α : Type} [Inhabited α] {k : Nat} {enc' : α → List Value} {ok : α → Prop} (he : EncOf k enc') (hk : 0 < k) (hu : P.underlying t = some (.slice e)) (hC : P.cellsOf e = k) {v : Value} {x0 : DataW H × List MemPlace}
    (hel : ∀ (n : Nat) (cs : List Value) (x : DataW H × List MemPlace), cs.length = k → DataW.trod enc P W base spare held n e cs = some x → Db P e x.1 → ∃ y : α, cs = enc' y ∧ ok y)
    (hf : DataW.trod enc P W base spare held n0 t [v] = some x0) (hs : Db P t x0.1) : ∃ A c, ∃ l : List α, v = .slice A l.length c ∧ l.length * P.bytesOf e ≤ reachBytes ∧ Dh W k v l.length (flat enc' l) ∧ ∀ y ∈ l, ok y := by
  rcases DataW.trod_slice hu hf with ⟨hcs, hx⟩ | ⟨a, len, cap, elems, rest, n, _, hcs, hx, _, hl, hm, hlen, hels, _, _⟩
  · simp at hcs
    subst hcs
    exact ⟨none, 0, [], rfl, by simp, ⟨by simp [flat], none, 0, rfl, .inl ⟨rfl, rfl⟩⟩, fun y hy => by cases hy⟩
  · simp at hcs
    subst hcs
    rw [hC] at hels
    rw [(Prod.mk.inj hx).1] at hs
    have hsl := hs.len hu
    rw [List.length_map] at hsl
    have each : ∀ i, i < len → ∃ y : α, ok y ∧ ∀ j x, (enc' y)[j]? = some x → W.cell? ((a.add (i * k)).add j) = some x := by
      intro i hi
      have h1 := hels i hi
      rw [List.getElem?_eq_getElem (show i < elems.length by omega), Option.bind_eq_some_iff] at h1
      obtain ⟨cs', hcs, ht⟩ := h1
      obtain ⟨_, hcl, hat⟩ := World.cells?_some hcs
      obtain ⟨y, rfl, hy⟩ := hel _ _ _ hcl ht (hs.elem hu (j := i) (by rw [List.getElem?_map, List.getElem?_eq_getElem (show i < elems.length by omega)]; rfl))
      exact ⟨y, hy, fun j x hj => (hat j (by rw [← hcl]; exact (List.getElem?_eq_some_iff.1 hj).1)).trans hj⟩
    obtain ⟨f, hf⟩ := Go.Deep.choose_lt each
    have hll : ((List.range len).map f).length = len := by simp
    have hat : ∀ {i : Nat} {y : α}, ((List.range len).map f)[i]? = some y → i < len ∧ y = f i := by
      intro i y hi
      have hil : i < len := by have := (List.getElem?_eq_some_iff.1 hi).1; simpa using this
      rw [List.getElem?_map, List.getElem?_range hil] at hi
      simp only [Option.map_some, Option.some.injEq] at hi
      exact ⟨hil, hi.symm⟩
    refine ⟨some a, cap, (List.range len).map f, by rw [hll], by rw [hll]; rw [show elems.length = len by omega] at hsl; exact hsl, ?_, ?_⟩
    · rw [hll]
      refine ⟨by rw [Dn he, hll], some a, cap, rfl, .inr ⟨a, rfl, fun q x hq => ?_⟩⟩
      obtain ⟨y, hy, hyx⟩ := Sg he hk hq
      obtain ⟨hil, rfl⟩ := hat hy
      have hc := (hf (q / k) hil).2 (q % k) x hyx
      have ha : a = ⟨a.block, a.off, none⟩ := by
        obtain ⟨z, hz⟩ : ∃ z, (enc' (f 0))[0]? = some z := ⟨_, List.getElem?_eq_getElem (by have := he.len (f 0); omega)⟩
        have h0 := (hf 0 (Nat.lt_of_le_of_lt (Nat.zero_le _) hil)).2 0 _ hz
        rw [Nat.zero_mul, show (a.add 0).add 0 = a by simp [Addr.add]] at h0
        exact WV h0
      rw [ha, Addr.add_lit, Addr.add_lit] at hc
      rw [ha, Addr.add_lit]
      have e1 : a.off + q / k * k + q % k = a.off + q := by rw [Nat.add_assoc, Nat.mul_comm]; congr 1; exact Nat.div_add_mod q k
      rw [e1] at hc
      exact hc
    · intro y hy
      obtain ⟨i, hi⟩ := List.getElem?_of_mem hy
      obtain ⟨hil, rfl⟩ := hat hi
      exact (hf i hil).1
theorem VQ {v : Value} {x0 : DataW H × List MemPlace} (hf : DataW.trod enc Tryz.prog W base spare held n0 49 [v] = some x0) (hs : Db Tryz.prog 49 x0.1) :
    ∃ A c l, v = .slice A l.length c ∧ D1 W (.slice A l.length c) l ∧ l.length ≤ reachBytes := by
  obtain ⟨A, c, l, hcs, hb, hd⟩ := T3 Sh T5 hf
  simp at hcs
  refine ⟨A, c, l, hcs, ⟨A, c, rfl, hb.weaken fun _ _ _ => trivial⟩, ?_⟩
  rcases hd with ⟨_, rfl⟩ | ⟨es, sp, e, he⟩
  · simp
  · rw [e] at hs
    have := hs.len Tryz.underlying49
    rw [T6] at this
    omega
end
end Go.Proofs.YtjcfimmcogkopaaGreatDoor.Sep
namespace Go.Proofs.YtjcfimmcogkopaaGreatDoor.Sep
open Go.RowKit
open Go.Proofs.YtjcfimmcogkopaaGreatDoor.Mem (AG BC Chg Ak)
abbrev PtT := Value × List UInt8
section
variable {P : Program} {te t : TypeId} {v u : Value} {l : List PtT} {d : List UInt8} {w w0 : World} {rs : List RowT} {B : Nat → Prop} {os : List Ass} {Q : Exit → Act → World → Prop} {n : Nat} {env : List (Nat × Value)} {o : Oper} {act : Act}
end
section
variable {u w w0 : World} {v : Value} {B : Nat → Prop} {os : List Ass}
end
theorem Rq {A : Option Addr} {n c j : Nat} : BN 1 (.slice A n c) 0 j = .slice A j c := by
  have e : A.map (·.add 0) = A := by
    cases A with
    | none => rfl
    | some a =>
      have : a.add 0 = a := by obtain ⟨b, o, q⟩ := a; cases q <;> simp [Addr.add]
      simp [this]
  simp [BN, e]
end Go.Proofs.YtjcfimmcogkopaaGreatDoor.Sep
namespace Go.Proofs.YtjcfimmcogkopaaGreatDoor.Sep
variable {k x : List UInt8}
abbrev FS := List (List UInt8 × List UInt8)
inductive OpD where
  | app (n b : List UInt8)
  | cut (n : List UInt8) (size : Nat)
  | ren (a b : List UInt8)
  | del (n : List UInt8)
def Bf (f : FS) : OpD → FS
  | .app n b => Bd f n ((AW f n).getD [] ++ b)
  | .cut n s => match AW f n with | some x => Bd f n (x.take s) | none => f
  | .ren a b => match AW f a with | some x => Bd (B8 f a) b x | none => f
  | .del n => B8 f n
def Az (f : FS) : Nat := (f.map fun p => p.2.length).sum
theorem IL {f : FS} (h : (AC f).Nodup) (o : OpD) : (AC (Bf f o)).Nodup := by
  cases o with
  | app n b => exact CN h
  | cut n s =>
    show (AC (match AW f n with | some x => Bd f n (x.take s) | none => f)).Nodup
    split
    · exact CN h
    · exact h
  | ren a b =>
    show (AC (match AW f a with | some x => Bd (B8 f a) b x | none => f)).Nodup
    split
    · exact CN (C6 h)
    · exact h
  | del n => exact C6 h
theorem Ib : ∀ (l : List OpD) {f : FS}, (AC f).Nodup → (AC (l.foldl Bf f)).Nodup
  | [], _, h => h
  | o :: r, _, h => Ib r (IL h o)
theorem Ix {f : FS} (h : (AC f).Nodup) : f.Nodup := (List.Pairwise.of_map (fun p : List UInt8 × List UInt8 => p.1) (fun a b (hab : a.1 ≠ b.1) e => hab (by rw [e])) h)
theorem FN {f g : FS} (hf : (AC f).Nodup) (hg : (AC g).Nodup) (h : ∀ p, p ∈ f ↔ p ∈ g) : f.Perm g :=
 (List.perm_ext_iff_of_nodup (Ix hf) (Ix hg)).2 h
theorem DP {f g : FS} (h : f.Perm g) : (AC f).Perm (AC g) := h.map _
theorem Fx {f g : FS} (h : f.Perm g) (hf : (AC f).Nodup) (k : List UInt8) : AW f k = AW g k := by
  have hg : (AC g).Nodup := (DP h).nodup_iff.1 hf
  cases e : AW g k with
  | none => rw [Fc] at e ⊢; exact fun hm => e ((DP h).mem_iff.1 hm)
  | some x => exact (Bw hf).2 (h.mem_iff.2 ((Bw hg).1 e))
theorem LK {f g : FS} (h : f.Perm g) (hf : (AC f).Nodup) (k x : List UInt8) : (Bd f k x).Perm (Bd g k x) := by
 have hg : (AC g).Nodup := (DP h).nodup_iff.1 hf
 refine FN (CN hf) (CN hg) fun p => ?_
 rw [Gq hf, Gq hg, h.mem_iff]
theorem OJ {f g : FS} (h : f.Perm g) (hf : (AC f).Nodup) (k : List UInt8) : (B8 f k).Perm (B8 g k) := by
 have hg : (AC g).Nodup := (DP h).nodup_iff.1 hf
 refine FN (C6 hf) (C6 hg) fun p => ?_
 rw [Gr hf, Gr hg, h.mem_iff]
theorem Sv {f g : FS} (h : f.Perm g) (hf : (AC f).Nodup) (o : OpD) : (Bf f o).Perm (Bf g o) := by
  cases o with
  | app n b =>
    show (Bd f n _).Perm (Bd g n _)
    rw [Fx h hf]; exact LK h hf _ _
  | cut n s =>
    show List.Perm (match AW f n with | some x => Bd f n (x.take s) | none => f) (match AW g n with | some x => Bd g n (x.take s) | none => g)
    rw [Fx h hf]
    split
    · exact LK h hf _ _
    · exact h
  | ren a b =>
    show List.Perm (match AW f a with | some x => Bd (B8 f a) b x | none => f) (match AW g a with | some x => Bd (B8 g a) b x | none => g)
    rw [Fx h hf]
    split
    · exact LK (OJ h hf _) (C6 hf) _ _
    · exact h
  | del n => exact OJ h hf _
theorem EC {f g : FS} (h : f.Perm g) : Az f = Az g := (h.map _).sum_nat
theorem J7 (p : List UInt8 × List UInt8) (f : FS) : Az (p :: f) = p.2.length + Az f := by simp [Az]
theorem LL (f g : FS) : Az (f ++ g) = Az f + Az g := by simp [Az]
theorem P7 {f : FS} (hf : (AC f).Nodup) (h : AW f k = some x) : f.Perm ((k, x) :: B8 f k) := by
  have hm := (Bw hf).1 h
  have hd := C6 (k := k) hf
  have hn : (AC ((k, x) :: B8 f k)).Nodup := List.nodup_cons.2 ⟨fun hm => by
    obtain ⟨p, hp, e⟩ := List.mem_map.1 hm
    exact ((Gr hf p).1 hp).2 e, hd⟩
  refine FN hf hn fun p => ?_
  rw [List.mem_cons, Gr hf]
  constructor
  · intro hp
    by_cases e : p.1 = k
    · left
      have := (Bw (x := p.2) hf).2 (show (k, p.2) ∈ f by rw [← e]; exact hp)
      rw [h] at this
      exact Prod.ext e (Option.some.inj this).symm
    · exact .inr ⟨hp, e⟩
  · rintro (rfl | ⟨hp, _⟩)
    · exact hm
    · exact hp
theorem Hb {f : FS} (hf : (AC f).Nodup) (h : AW f k = some x) : Az (B8 f k) + x.length = Az f := by
 rw [EC (P7 hf h), J7]; simp only; omega
theorem T9 {f : FS} (h : AW f k = none) : B8 f k = f := by
 unfold B8
 unfold AW at h
 rw [Option.map_eq_none_iff.1 h]
theorem Jt {f : FS} (h : AW f k = none) : Az (Bd f k x) = Az f + x.length := by
 rw [Eb h, LL]; simp [Az]
theorem Gu {f : FS} {y : List UInt8} (hf : (AC f).Nodup) (h : AW f k = some y) : Az (Bd f k x) + y.length = Az f + x.length := by
  have hp := CN (k := k) (x := x) hf
  have h1 : AW (Bd f k x) k = some x := by rw [TY hf, if_pos rfl]
  have h2 := Hb hp h1
  have h3 := Hb hf h
  have h4 : (B8 (Bd f k x) k).Perm (B8 f k) := FN (C6 hp) (C6 hf) fun p => by
    rw [Gr hp, Gq hf, Gr hf]
    constructor
    · rintro ⟨rfl | h, h'⟩
      · exact absurd rfl h'
      · exact h
    · rintro ⟨h, h'⟩
      exact ⟨.inr ⟨h, h'⟩, h'⟩
  rw [EC h4] at h2
  omega
theorem KF {f : FS} (hf : (AC f).Nodup) (n b : List UInt8) : Az (Bf f (.app n b)) = Az f + b.length := by
  show Az (Bd f n _) = _
  cases h : AW f n with
  | none => rw [Jt h]; simp
  | some y =>
    have := Gu (x := y ++ b) hf h
    rw [List.length_append] at this
    simp only [Option.getD_some]
    omega
structure DiskD where
  room : Int
  syn : FS
  wait : List OpD
  fuse : Option Nat
  down : Bool
def DiskD.now (d : DiskD) : FS := d.wait.foldl Bf d.syn
def Bz (d : DiskD) : DiskD × Nat :=
  if d.down = true ∨ d.fuse = some 0 then ({ d with down := true }, 3) else ({ d with fuse := d.fuse.map (· - 1) }, 0)
def Dz (n : List UInt8) : Bool := decide (1 ≤ n.length) && decide (n.length ≤ 16)
def B3 (d : DiskD) (o : OpD) : DiskD := { d with wait := d.wait ++ [o] }
theorem F4 (d : DiskD) (o : OpD) : (B3 d o).now = Bf d.now o := by
 show (d.wait ++ [o]).foldl Bf d.syn = _
 rw [List.foldl_append]; rfl
def Iy (d : DiskD) (n b : List UInt8) : Bool := decide ((Az d.now : Int) + (b.length : Int) ≤ d.room) && !((AW d.now n).isNone && decide (64 ≤ d.now.length))
def BU (d : DiskD) (n b : List UInt8) : DiskD × Nat :=
  match Bz d with
  | (d1, e) => if e ≠ 0 then (d1, e) else if Dz n = false then (d1, 1) else if Iy d1 n b = false then (d1, 2) else (B3 d1 (.app n b), 0)
def OK (d : DiskD) (n : List UInt8) (s : Int) : DiskD × Nat :=
  match Bz d with
  | (d1, e) => if e ≠ 0 then (d1, e) else match AW d1.now n with
    | none => (d1, 4)
    | some x => if s < 0 ∨ (x.length : Int) < s then (d1, 1) else (B3 d1 (.cut n s.toNat), 0)
def Ik (d : DiskD) (n : List UInt8) : DiskD × Nat :=
  match Bz d with
  | (d1, e) => if e ≠ 0 then (d1, e) else match AW d1.now n with
    | none => (d1, 4)
    | some _ => (B3 d1 (.del n), 0)
def Rr (d : DiskD) : DiskD × Nat :=
  match Bz d with
  | (d1, e) => if e ≠ 0 then (d1, e) else ({ d1 with syn := d1.now, wait := [] }, 0)
def BH (d : DiskD) (n : List UInt8) : Option (List UInt8) := if d.down = true then none else AW d.now n
def CG (d : DiskD) (keep : Int) : Nat := (keep % ((d.wait.length : Int) + 1)).toNat
def DZ (d : DiskD) (keep torn : Int) : FS :=
  match d.wait[CG d keep]? with
  | some (.app n b) => if (torn % (b.length : Int)).toNat = 0 ∨ b = [] then (d.wait.take (CG d keep)).foldl Bf d.syn else Bf ((d.wait.take (CG d keep)).foldl Bf d.syn) (.app n (b.take (torn % (b.length : Int)).toNat))
  | _ => (d.wait.take (CG d keep)).foldl Bf d.syn
def Fy (d : DiskD) (keep torn : Int) : DiskD := ⟨d.room, DZ d keep torn, [], none, false⟩
def K4 (room : Int) : DiskD := ⟨room, [], [], none, false⟩
theorem OL (d : DiskD) (keep : Int) : CG d keep ≤ d.wait.length := by
 unfold CG
 have h1 := Int.emod_nonneg keep (show ((d.wait.length : Int) + 1) ≠ 0 by omega)
 have h2 := Int.emod_lt_of_pos keep (show 0 < (d.wait.length : Int) + 1 by omega)
 omega
end Go.Proofs.YtjcfimmcogkopaaGreatDoor.Sep
namespace Go.Proofs.YtjcfimmcogkopaaGreatDoor.Sep
open Go.RowKit
open Go.Proofs.YtjcfimmcogkopaaGreatDoor.Mem (AG BC Chg Ak)
theorem LM : Co Tryz.prog 24 := En Tryz.underlying24 rfl (by kernel_rfl)
theorem NE : Co Tryz.prog 29 := En Tryz.underlying29 rfl (by kernel_rfl)
theorem F5 : Co Tryz.prog 124 := En Tryz.underlying124 rfl (by kernel_rfl)
theorem J8 : K0 Tryz.prog 124 #[.pointer none] := Gh (z := .pointer none) (by kernel_rfl) rfl
theorem LN : K0 Tryz.prog 227 #[.int .u8 0, .int .u8 0, .int .u8 0, .int .u8 0, .int .u8 0, .int .u8 0, .int .u8 0, .int .u8 0, .int .u8 0, .int .u8 0, .int .u8 0, .int .u8 0, .int .u8 0, .int .u8 0, .int .u8 0, .int .u8 0, .int .u8 0, .int .u8 0, .int .u8 0, .int .u8 0, .int .u8 0, .int .u8 0, .int .u8 0, .int .u8 0, .int .u8 0, .int .u8 0, .int .u8 0, .int .u8 0, .int .u8 0, .int .u8 0, .int .u8 0, .int .u8 0, .int .u8 0, .int .u8 0, .int .u8 0, .int .u8 0, .int .u8 0, .int .u8 0, .int .u8 0, .int .u8 0, .int .u8 0, .int .u8 0, .int .u8 0, .int .u8 0, .int .u8 0, .int .u8 0, .int .u8 0, .int .u8 0, .int .u8 0, .int .u8 0, .int .u8 0, .int .u8 0, .int .u8 0, .int .u8 0, .int .u8 0, .int .u8 0, .int .u8 0, .int .u8 0, .int .u8 0, .int .u8 0, .int .u8 0, .int .u8 0, .int .u8 0, .int .u8 0, .int .u8 0] := Gh (z := .agg #[.int .u8 0, .int .u8 0, .int .u8 0, .int .u8 0, .int .u8 0, .int .u8 0, .int .u8 0, .int .u8 0, .int .u8 0, .int .u8 0, .int .u8 0, .int .u8 0, .int .u8 0, .int .u8 0, .int .u8 0, .int .u8 0, .int .u8 0, .int .u8 0, .int .u8 0, .int .u8 0, .int .u8 0, .int .u8 0, .int .u8 0, .int .u8 0, .int .u8 0, .int .u8 0, .int .u8 0, .int .u8 0, .int .u8 0, .int .u8 0, .int .u8 0, .int .u8 0, .int .u8 0, .int .u8 0, .int .u8 0, .int .u8 0, .int .u8 0, .int .u8 0, .int .u8 0, .int .u8 0, .int .u8 0, .int .u8 0, .int .u8 0, .int .u8 0, .int .u8 0, .int .u8 0, .int .u8 0, .int .u8 0, .int .u8 0, .int .u8 0, .int .u8 0, .int .u8 0, .int .u8 0, .int .u8 0, .int .u8 0, .int .u8 0, .int .u8 0, .int .u8 0, .int .u8 0, .int .u8 0, .int .u8 0, .int .u8 0, .int .u8 0, .int .u8 0, .int .u8 0]) (by kernel_rfl) rfl
theorem Fz : Co Tryz.prog 39 := En Tryz.underlying39 rfl (by kernel_rfl)
theorem LO : K0 Tryz.prog 39 #[.slice none 0 0] := Gh (z := .slice none 0 0) (by kernel_rfl) rfl
theorem DB : Co Tryz.prog 97 := En Tryz.underlying97 rfl (by kernel_rfl)
theorem EK : Co Tryz.prog 81 := En Tryz.underlying81 rfl (by kernel_rfl)
theorem Sw : Co Tryz.prog 74 := En Tryz.underlying74 rfl (by kernel_rfl)
theorem GQ : Co Tryz.prog 49 := En Tryz.underlying49 rfl (by kernel_rfl)
theorem P8 : K0 Tryz.prog 49 #[.slice none 0 0] := Gh (z := .slice none 0 0) (by kernel_rfl) rfl
theorem Em : I6 Tryz.prog 53 5 := Tu Tryz.underlying53 rfl (by kernel_rfl)
theorem NF : K0 Tryz.prog 53 #[.int .i64 0, .int .u64 0, .int .u64 0, .slice none 0 0, .int .i64 0] := Gh (z := .agg #[.int .i64 0, .int .u64 0, .int .u64 0, .slice none 0 0, .int .i64 0]) (by kernel_rfl) rfl
theorem Bx : Co Tryz.prog 30 := En Tryz.underlying30 rfl (by kernel_rfl)
theorem VR : Co Tryz.prog 4 := En Tryz.underlying4 rfl (by kernel_rfl)
theorem EL : Co Tryz.prog 99 := En Tryz.underlying99 rfl (by kernel_rfl)
theorem NG : Co Tryz.prog 104 := En Tryz.underlying104 rfl (by kernel_rfl)
theorem Cc : I6 Tryz.prog 106 5 := Tu Tryz.underlying106 rfl (by kernel_rfl)
theorem Ju : K0 Tryz.prog 106 #[.int .i64 0, .string { data := #[] }, .slice none 0 0, .int .i64 0, .string { data := #[] }] := Gh (z := .agg #[.int .i64 0, .string { data := #[] }, .slice none 0 0, .int .i64 0, .string { data := #[] }]) (by kernel_rfl) rfl
theorem Hc : Co Tryz.prog 195 := En Tryz.underlying195 rfl (by kernel_rfl)
theorem FA : Co Tryz.prog 167 := En Tryz.underlying167 rfl (by kernel_rfl)
theorem Hd : Co Tryz.prog 3 := En Tryz.underlying3 rfl (by kernel_rfl)
theorem XA : K0 Tryz.prog 3 #[.int .i64 0] := Gh (z := .int .i64 0) (by kernel_rfl) rfl
theorem Bj : I6 Tryz.prog 83 2 := Tu Tryz.underlying83 rfl (by kernel_rfl)
theorem J9 : Co Tryz.prog 9 := En Tryz.underlying9 rfl (by kernel_rfl)
theorem F6 : Co Tryz.prog 38 := En Tryz.underlying38 rfl (by kernel_rfl)
theorem C5 : Co Tryz.prog 5 := En Tryz.underlying5 rfl (by kernel_rfl)
theorem He : AO Tryz.prog 53 0 0 := fun g off w => by kernel_rfl
theorem FB : AO Tryz.prog 53 1 1 := fun g off w => by kernel_rfl
theorem LP : AO Tryz.prog 53 2 2 := fun g off w => by kernel_rfl
theorem Ee : AO Tryz.prog 53 3 3 := fun g off w => by kernel_rfl
theorem Hf : AO Tryz.prog 53 4 4 := fun g off w => by kernel_rfl
theorem Hg : AO Tryz.prog 41 0 0 := fun g off w => by kernel_rfl
theorem Hh : AO Tryz.prog 41 1 1 := fun g off w => by kernel_rfl
theorem Hi : AO Tryz.prog 41 2 2 := fun g off w => by kernel_rfl
theorem Gv : AO Tryz.prog 184 0 0 := fun g off w => by kernel_rfl
theorem Gw : AO Tryz.prog 184 2 2 := fun g off w => by kernel_rfl
theorem Hj : AO Tryz.prog 69 0 0 := fun g off w => by kernel_rfl
theorem Hk : AO Tryz.prog 69 1 1 := fun g off w => by kernel_rfl
theorem Hl : AO Tryz.prog 69 2 2 := fun g off w => by kernel_rfl
theorem Hm : AO Tryz.prog 69 3 3 := fun g off w => by kernel_rfl
theorem Hn : AO Tryz.prog 69 4 4 := fun g off w => by kernel_rfl
theorem Ho : AO Tryz.prog 69 5 5 := fun g off w => by kernel_rfl
theorem Hq : AO Tryz.prog 69 6 6 := fun g off w => by kernel_rfl
theorem Hr : AO Tryz.prog 57 0 0 := fun g off w => by kernel_rfl
theorem Hs : AO Tryz.prog 57 1 1 := fun g off w => by kernel_rfl
theorem IM : AO Tryz.prog 110 0 0 := fun g off w => by kernel_rfl
theorem IN : AO Tryz.prog 110 1 1 := fun g off w => by kernel_rfl
theorem IP : AO Tryz.prog 110 2 2 := fun g off w => by kernel_rfl
theorem IQ : AO Tryz.prog 110 3 3 := fun g off w => by kernel_rfl
theorem IR : AO Tryz.prog 110 4 4 := fun g off w => by kernel_rfl
theorem LQ : AO Tryz.prog 101 0 0 := fun g off w => by kernel_rfl
theorem LR : AO Tryz.prog 101 1 1 := fun g off w => by kernel_rfl
theorem LS : AO Tryz.prog 101 2 2 := fun g off w => by kernel_rfl
theorem LT : AO Tryz.prog 101 3 3 := fun g off w => by kernel_rfl
theorem LU : AO Tryz.prog 101 4 4 := fun g off w => by kernel_rfl
theorem LV : AO Tryz.prog 101 5 5 := fun g off w => by kernel_rfl
theorem Il : AO Tryz.prog 106 0 0 := fun g off w => by kernel_rfl
theorem Im : AO Tryz.prog 106 1 1 := fun g off w => by kernel_rfl
theorem In : AO Tryz.prog 106 2 2 := fun g off w => by kernel_rfl
theorem Io : AO Tryz.prog 106 3 3 := fun g off w => by kernel_rfl
theorem Ip : AO Tryz.prog 106 4 4 := fun g off w => by kernel_rfl
theorem Ka : AO Tryz.prog 221 0 0 := fun g off w => by kernel_rfl
theorem Kb : AO Tryz.prog 221 1 1 := fun g off w => by kernel_rfl
theorem NH : AO Tryz.prog 76 0 0 := fun g off w => by kernel_rfl
theorem NI : AO Tryz.prog 76 1 1 := fun g off w => by kernel_rfl
theorem NJ : AO Tryz.prog 76 2 2 := fun g off w => by kernel_rfl
theorem Iz : AO Tryz.prog 137 0 0 := fun g off w => by kernel_rfl
theorem IA : AO Tryz.prog 137 1 1 := fun g off w => by kernel_rfl
theorem Kc : AO Tryz.prog 83 0 0 := fun g off w => by kernel_rfl
theorem F7 : AO Tryz.prog 83 1 1 := fun g off w => by kernel_rfl
theorem Ht (i : Nat) (h : i < 65) : TD Tryz.prog 227 (i : Int) i := fun g off w => VP Tryz.underlying227 (by kernel_rfl) h
theorem Av : SliceT Tryz.prog 39 53 5 := Fb (z := .agg #[.int .i64 0, .int .u64 0, .int .u64 0, .slice none 0 0, .int .i64 0]) Tryz.underlying39 (by kernel_rfl) rfl rfl (by decide)
theorem BO : SliceT Tryz.prog 97 106 5 := Fb (z := .agg #[.int .i64 0, .string { data := #[] }, .slice none 0 0, .int .i64 0, .string { data := #[] }]) Tryz.underlying97 (by kernel_rfl) rfl rfl (by decide)
theorem B4 : SliceT Tryz.prog 81 137 2 := Fb (z := .agg #[.int .u64 0, .int .i64 0]) Tryz.underlying81 (by kernel_rfl) rfl rfl (by decide)
theorem Bg : SliceT Tryz.prog 74 83 2 := Fb (z := .agg #[.int .u64 0, .slice none 0 0]) Tryz.underlying74 (by kernel_rfl) rfl rfl (by decide)
theorem Kd : SliceT Tryz.prog 77 9 1 := Fb (z := .string { data := #[] }) Tryz.underlying77 (by kernel_rfl) rfl rfl (by decide)
theorem AL : SliceT Tryz.prog 49 5 1 := Fb (z := .int .u8 0) Tryz.underlying49 (by kernel_rfl) rfl rfl (by decide)
def flS : List ((Nat × Nat) × Nat) := [((53, 0), 0), ((53, 1), 1), ((53, 2), 2), ((53, 3), 3), ((53, 4), 4), ((41, 0), 0), ((41, 1), 1), ((41, 2), 2), ((184, 0), 0), ((184, 2), 2), ((69, 0), 0), ((69, 1), 1), ((69, 2), 2), ((69, 3), 3), ((69, 4), 4), ((69, 5), 5), ((69, 6), 6), ((57, 0), 0), ((57, 1), 1), ((110, 0), 0), ((110, 1), 1), ((110, 2), 2), ((110, 3), 3), ((110, 4), 4), ((101, 0), 0), ((101, 1), 1), ((101, 2), 2), ((101, 3), 3), ((101, 4), 4), ((101, 5), 5), ((106, 0), 0), ((106, 1), 1), ((106, 2), 2), ((106, 3), 3), ((106, 4), 4), ((221, 0), 0), ((221, 1), 1), ((76, 0), 0), ((76, 1), 1), ((76, 2), 2), ((137, 0), 0), ((137, 1), 1), ((83, 0), 0), ((83, 1), 1)]
theorem Ac : Oj Tryz.prog flS := Nw ⟨He, FB, LP, Ee, Hf, Hg, Hh, Hi, Gv, Gw, Hj, Hk, Hl, Hm, Hn, Ho, Hq, Hr, Hs, IM, IN, IP, IQ, IR, LQ, LR, LS, LT, LU, LV, Il, Im, In, Io, Ip, Ka, Kb, NH, NI, NJ, Iz, IA, Kc, F7, trivial⟩
end Go.Proofs.YtjcfimmcogkopaaGreatDoor.Sep
namespace Go.Proofs.YtjcfimmcogkopaaGreatDoor.Sep
variable {j : Nat} {k : List UInt8} {α : Type}
open Go.RowKit
open Go.Proofs.YtjcfimmcogkopaaGreatDoor.Mem (AG BC Chg Ak)
def encKey (s : List UInt8) : Value := .string (bs s)
def AD (x : PtT) : Value := x.1
abbrev FilL := List (List UInt8 × PtT)
theorem CO : MapTy Tryz.prog 99 9 49 .string encKey (.slice none 0 0) := Sn Tryz.underlying99 Tryz.underlying9 (fun w => by kernel_rfl)
def Bc (L : FilL) : Ass := AE (fun p : List UInt8 × PtT => Af 5 1 encB p.2.1 p.2.2) L
def BM (L : FilL) : FS := L.map fun p => (p.1, p.2.2)
theorem Ef (L : FilL) : AC (BM L) = AC L := by simp [AC, BM]
theorem Jv {L : FilL} {p : List UInt8 × PtT} (h : p ∈ L) : El (Bc L) p.2.1 p.2.2 := fun rs w h1 h2 => by
 obtain ⟨j, hj⟩ := List.getElem?_of_mem h
 obtain ⟨ys, h3, h4⟩ := AE.at_ h1 h2 hj
 exact H8 h3 h4
theorem Ld {α β γ : Type} [DecidableEq α] (g : β → γ) (k : α) : ∀ (L : List (α × β)) (i : Nat), EY k (L.map fun p => (p.1, g p.2)) i = (EY k L i).map fun q => (q.1, g q.2)
  | [], i => rfl
  | p :: L, i => by
    simp only [List.map_cons, EY]
    split
    · rfl
    · exact Ld g k L (i + 1)
theorem Ua {β γ : Type} [DecidableEq α] (g : β → γ) (k : α) (L : List (α × β)) : AW (L.map fun p => (p.1, g p.2)) k = (AW L k).map g := by
 unfold AW
 rw [Ld, Option.map_map, Option.map_map]; rfl
theorem Ub {β γ : Type} [DecidableEq α] (g : β → γ) (k : α) (x : β) (L : List (α × β)) : Bd (L.map fun p => (p.1, g p.2)) k (g x) = (Bd L k x).map fun p => (p.1, g p.2) := by
  unfold Bd
  rw [Ld]
  cases EY k L 0 with
  | none => simp
  | some q => simp [List.map_set]
theorem Uc {β γ : Type} [DecidableEq α] (g : β → γ) (k : α) (L : List (α × β)) : B8 (L.map fun p => (p.1, g p.2)) k = (B8 L k).map fun p => (p.1, g p.2) := by
  unfold B8
  rw [Ld]
  cases EY k L 0 with
  | none => rfl
  | some q => simp [List.eraseIdx_eq_take_drop_succ, List.map_take, List.map_drop]
theorem Eg (L : FilL) (k : List UInt8) : AW (BM L) k = (AW L k).map (·.2) := Ua (fun x : PtT => x.2) k L
theorem Jw (L : FilL) (k : List UInt8) (x : PtT) : Bd (BM L) k x.2 = BM (Bd L k x) := Ub (fun x : PtT => x.2) k x L
theorem OM (L : FilL) (k : List UInt8) : B8 (BM L) k = BM (B8 L k) := Uc (fun x : PtT => x.2) k L
def Au (v : Value) (f : FS) : Ass := fun rs => ∃ L : FilL, f = BM L ∧ Ae [Bn encKey AD v L, Bc L] rs
theorem FC {v : Value} {f : FS} : ∀ rs, Au v f rs → ∃ x : { L : FilL // f = BM L }, Ae [Bn encKey AD v x.1, Bc x.1] rs := fun _ ⟨L, h, h'⟩ => ⟨⟨L, h⟩, h'⟩
theorem Rs {L : FilL} {q : Nat × PtT} (h : EY k L 0 = some q) : L[q.1]? = some (k, q.2) := (DG h).2
theorem Hu {L : FilL} {q : Nat × PtT} (h : EY k L 0 = some q) : ∀ rs, Bc L rs → ∃ _ : Unit, Ae [Bc (L.take q.1), Af 5 1 encB q.2.1 q.2.2, Bc (L.drop (q.1 + 1))] rs := MW (Rs h)
theorem VS {L : FilL} {q : Nat × PtT} (h : EY k L 0 = some q) (y : PtT) : ∀ rs, Ae [Bc (L.take q.1), Af 5 1 encB y.1 y.2, Bc (L.drop (q.1 + 1))] rs → Bc (Bd L k y) rs := fun rs hr => by
 have h1 := MX (f := fun p : List UInt8 × PtT => Af 5 1 encB p.2.1 p.2.2) (y := (k, y)) rs hr
 rw [OH (y := (k, y)) (List.getElem?_eq_some_iff.1 (Rs h)).1] at h1
 unfold Bc Bd
 rw [h]
 exact h1
theorem Rt {L : FilL} (h : EY k L 0 = none) (y : PtT) : ∀ rs, Ae [Bc L, Af 5 1 encB y.1 y.2] rs → Bc (Bd L k y) rs := fun rs hr => by
 have h1 := Gt (f := fun p : List UInt8 × PtT => Af 5 1 encB p.2.1 p.2.2) (x := (k, y)) rs hr
 unfold Bc Bd
 rw [h]
 exact h1
theorem LW {l : List α} {x : α} (h : l[j]? = some x) : (l.eraseIdx j).length < l.length := by
 have := (List.getElem?_eq_some_iff.1 h).1
 rw [List.length_eraseIdx, if_pos this]; omega
theorem P9 {l : FilL} {p : List UInt8 × PtT} (h : l[j]? = some p) : Az (BM (l.eraseIdx j)) + p.2.2.length = Az (BM l) := by
 have hlt := (List.getElem?_eq_some_iff.1 h).1
 have hx := (List.getElem?_eq_some_iff.1 h).2
 have h1 : l = l.take j ++ p :: l.drop (j + 1) := by rw [← hx]; simp
 have h2 : l.eraseIdx j = l.take j ++ l.drop (j + 1) := List.eraseIdx_eq_take_drop_succ ..
 have e1 : BM l = BM (l.take j) ++ (p.1, p.2.2) :: BM (l.drop (j + 1)) := by
  have := congrArg BM h1
  rw [this]; simp [BM]
 have e2 : BM (l.eraseIdx j) = BM (l.take j) ++ BM (l.drop (j + 1)) := by rw [h2]; simp [BM]
 rw [e1, e2, LL, LL, J7]
 show _ + p.2.2.length = _ + (p.2.2.length + _)
 omega
end Go.Proofs.YtjcfimmcogkopaaGreatDoor.Sep
namespace Go.Proofs.YtjcfimmcogkopaaGreatDoor.Sep
open Go.RowKit
open Go.Proofs.YtjcfimmcogkopaaGreatDoor.Mem (AG BC Chg Ak)
end Go.Proofs.YtjcfimmcogkopaaGreatDoor.Sep
namespace Go.Proofs.YtjcfimmcogkopaaGreatDoor.Sep
open Go.RowKit
open Go.Proofs.YtjcfimmcogkopaaGreatDoor.Mem (AG BC Chg Ak)
end Go.Proofs.YtjcfimmcogkopaaGreatDoor.Sep
