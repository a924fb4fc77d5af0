/-
  Kit · Arg · Und · Clone · Math · Bits · Writer · Varint · RefLay · RefRead · OneMath · Read
-/
import Derived.Test.YtnknboibmifacaaAA01
import Derived.Test.YtnknboibmifacaaAA05
import Derived.ProofKit
import Derived.OpenShut
import Derived.JoinedCond
import Derived.Test.YtnknboibmifacaaRows
import Derived.WalkKit
import Derived.Deep.QuietTactic
import Derived.BigQuiet
set_option linter.unusedSimpArgs false
set_option linter.unusedVariables false

namespace Go.Proofs.Ytnknboibmifacaa.Sep
open Go.RowKit
open Go.Proofs.Ytnknboibmifacaa.Mem (Dist Blk Chg)
open Go.Proofs.Ytnknboibmifacaa.Mem (below0)
theorem cmp_lss_t {p q : Int} (h : p < q) : cmpB .lss p q = some true := congrArg some (decide_eq_true h)
theorem cmp_lss_f {p q : Int} (h : ¬ p < q) : cmpB .lss p q = some false := congrArg some (decide_eq_false h)
theorem cmp_leq_t {p q : Int} (h : p ≤ q) : cmpB .leq p q = some true := congrArg some (decide_eq_true h)
theorem cmp_leq_f {p q : Int} (h : ¬ p ≤ q) : cmpB .leq p q = some false := congrArg some (decide_eq_false h)
theorem cmp_gtr_t {p q : Int} (h : p > q) : cmpB .gtr p q = some true := congrArg some (decide_eq_true h)
theorem cmp_gtr_f {p q : Int} (h : ¬ p > q) : cmpB .gtr p q = some false := congrArg some (decide_eq_false h)
theorem cmp_geq_t {p q : Int} (h : p ≥ q) : cmpB .geq p q = some true := congrArg some (decide_eq_true h)
theorem cmp_geq_f {p q : Int} (h : ¬ p ≥ q) : cmpB .geq p q = some false := congrArg some (decide_eq_false h)
theorem cmp_eql_t {p q : Int} (h : p = q) : cmpB .eql p q = some true := by subst h; simp [cmpB]
theorem cmp_eql_f {p q : Int} (h : p ≠ q) : cmpB .eql p q = some false := by simp [cmpB, h]
theorem cmp_neq_t {p q : Int} (h : p ≠ q) : cmpB .neq p q = some true := by simp [cmpB, h]
theorem cmp_neq_f {p q : Int} (h : p = q) : cmpB .neq p q = some false := by subst h; simp [cmpB]
theorem sliceT_of {P : Program} {t e : TypeId} {k : Nat} {z : Value} (hu : P.underlying t = some (.slice e)) (hi : (P.info? e).map (fun i => (i.zero, i.size, Nat.ble i.bytes 4096)) = some (some z, k, true)) (hz : z.cells.size = k) (h1 : oneL z.cells.toList = true) (hp : 0 < k) : SliceT P t e k := by
  refine ⟨hu, ?_, hp⟩
  cases hq : P.info? e with
  | none => simp [hq] at hi
  | some i =>
    simp only [hq, Option.map_some, Option.some.injEq, Prod.mk.injEq] at hi
    exact ⟨i, z, rfl, hi.1, hi.2.1, Nat.le_of_ble_eq_true hi.2.2, hz, fun u hu => List.all_eq_true.1 (oneL_all h1) u hu⟩
section
variable {P : Program} {Q : Exit → Act → World → Prop} {n : Nat} {B : Nat → Prop} {w0 w : World} {os : List Ass} {env : List (Nat × Value)} {o : Oper} {a : Act}
theorem Acts.place {X : Type} {val : X → Value} {t : X → Ass} {os' : X → List Ass} (pl : Nat) (hi : os[pl]? = some emp) (h : Acts P Q n env B w0 os o val (fun x => t x :: os)) (he : ∀ x, os.set pl (t x) = os' x) : Acts P Q n env B w0 os o val os' := h.imp fun x rs hp => by
  obtain ⟨a, b, e, h1, h2⟩ := hp
  obtain ⟨c, d, f, e2, h3, h4⟩ := h2.at_ hi
  unfold emp at h3
  subst h3; subst e2; subst e
  refine ⟨c ++ (a ++ f), ?_, he x ▸ h4 _ a h1⟩
  rw [List.nil_append, ← List.append_assoc, ← List.append_assoc]
  exact List.perm_append_comm.append_right f
theorem exec_pnil_eql {T T' : TypeId} (hT : P.underlying T = some (.pointer (P.pointee T))) {x y : Operand} {p : Addr} (ho : o.op = .binOp .eql T x y T') (hx : evs env x = some (.pointer (some p))) (hy : evs env y = some (.pointer none)) (hF : Fr n a env) : (execOp a.eval o).run P w = .ok (.value (.bool false)) w := by
  unfold execOp
  simp only [ho, hF.evs hx, hF.evs hy]
  simp [eqGuard, run_eql_pointer_nil w T (some p) hT]
theorem exec_pnil2_eql {T T' : TypeId} (hT : P.underlying T = some (.pointer (P.pointee T))) {x y : Operand} (ho : o.op = .binOp .eql T x y T') (hx : evs env x = some (.pointer none)) (hy : evs env y = some (.pointer none)) (hF : Fr n a env) : (execOp a.eval o).run P w = .ok (.value (.bool true)) w := by
  unfold execOp
  simp only [ho, hF.evs hx, hF.evs hy]
  simp [eqGuard, run_eql_pointer_nil w T none hT]
end
/-- the address of a slice's cell, whatever its block -/
def elp' : Value → Nat → Value
  | .slice (some a) _ _, i => .pointer (some (a.add i))
  | _, _ => undef
section
variable {P : Program} {Q : Exit → Act → World → Prop} {n : Nat} {B : Nat → Prop} {w0 w : World} {os : List Ass} {env : List (Nat × Value)} {o : Oper} {act : Act}
variable {t e : TypeId} {k : Nat} {α : Type} {enc : α → List Value} {u : Value} {m : List α} {X : Ass}
/-- what a slice reads as, where it lies in a thing X -/
def Rd (X : Ass) (k : Nat) (enc : α → List Value) (u : Value) (m : List α) : Prop := ∀ rs w, X rs → RowsOf w rs → SlRd w k u m.length (flat enc m)
theorem Hp.rd (h : Hp B w0 w os) (i : Nat) (hi : os[i]? = some X) (hu : Rd X k enc u m) : SlRd w k u m.length (flat enc m) := by
  obtain ⟨rs, h1, h2⟩ := h.thing i hi
  exact hu rs w h1 h2
theorem e_ridx (i : Nat) (hu : Rd X k enc u m) (hT : SliceT P t e k) (hi : os[i]? = some X) (j : Nat) (hj : j < m.length) {x y : Operand} {kk : IntKind} (ho : o.op = .indexAddr t x y) (hx : evs env x = some u) (hy : evs env y = some (.int kk (j : Int))) (hH : Hp B w0 w os) (hF : Fr n act env) : (execOp act.eval o).run P w = .ok (.value (elp' u (j * k))) w := by
  obtain ⟨_, A, c, rfl, hA⟩ := hH.rd i hi hu
  rcases hA with ⟨_, h0⟩ | ⟨a, rfl, _⟩
  · omega
  · have hs : (sizeOf e).run P w = .ok k w := hT.sizeOf w
    have hlt : (0 : Int) ≤ (j : Int) ∧ (j : Int) < (m.length : Int) := by omega
    unfold execOp
    simp only [ho, hF.evs hx, hF.evs hy, Instr.indexAt, asIntOf, Sem.run_bind, Sem.run_pure, Result.andThen_ok, run_underlying hT.ht w]
    simp [hlt, hs, elp']
theorem e_rload1 (i : Nat) (hu : Rd X 1 enc u m) (hO : OneOf P e) (he : EncOf 1 enc) (hi : os[i]? = some X) (j : Nat) {a : α} (hj : m[j]? = some a) {c : Value} (hc : enc a = [c]) {x : Operand} (ho : o.op = .load e x) (hx : evs env x = some (elp' u (j * 1))) (hH : Hp B w0 w os) (hF : Fr n act env) : (execOp act.eval o).run P w = .ok (.value c) w := by
  obtain ⟨_, A, cap, rfl, hA⟩ := hH.rd i hi hu
  rcases hA with ⟨_, h0⟩ | ⟨p, rfl, hcell⟩
  · rw [List.length_eq_zero_iff.1 h0] at hj; simp at hj
  · have h1 : w.cell? (p.add (j * 1)) = some c := by
      refine hcell _ _ ?_
      have := flat_get he hj (j := 0) (by decide)
      rw [Nat.add_zero] at this
      rw [this, hc]; rfl
    rw [Nat.mul_one] at h1
    unfold execOp
    simp only [ho, hF.evs hx, elp', Instr.loadAt, Instr.sureAddr, Sem.run_bind, Sem.run_pure, Result.andThen_ok, loadVar, hO.1]
    simp [run_load, h1]
end
/-! ## Encodings of one cell -/
def encB (b : UInt8) : List Value := [.int .u8 (b.toNat : Int)]
theorem okB : EncOf 1 encB := ⟨fun _ => rfl, fun x v h => by unfold encB at h; simp at h; subst h; rfl⟩
end Go.Proofs.Ytnknboibmifacaa.Sep

namespace Go.Proofs.Ytnknboibmifacaa.Sep
open Go.ChangeShapes Go.WideShapes Go.ChangeAt Go.RowKit
section
variable {H : Type} {enc : TypeId × Value → H} {P : Program}
theorem spot0 {w : World} {a : Addr} {v : Value} (h : w.cell? a = some v) : a = ⟨a.block, a.off, none⟩ := by
  obtain ⟨b, o, s⟩ := a
  have : s = none := by simpa using World.cell?_spot h
  subst this
  rfl
theorem flat_pick {α : Type} {k : Nat} {enc' : α → List Value} (he : EncOf k enc') (hk : 0 < k) {l : List α} {q : Nat} {x : Value} (h : (flat enc' l)[q]? = some x) : ∃ y, l[q / k]? = some y ∧ (enc' y)[q % k]? = some x := by
  have hlt : q < l.length * k := by rw [← flat_len he]; exact (List.getElem?_eq_some_iff.1 h).1
  have hi : q / k < l.length := Nat.div_lt_of_lt_mul (by rwa [Nat.mul_comm])
  refine ⟨l[q / k], List.getElem?_eq_getElem hi, ?_⟩
  rw [← flat_get he (List.getElem?_eq_getElem hi) (Nat.mod_lt q hk), ← h]
  congr 1
  rw [Nat.mul_comm]
  exact Nat.div_add_mod q k
theorem open_slice {α : Type} [Inhabited α] {k : Nat} {enc' : α → List Value} {ok : α → Prop} {t e : TypeId} (he : EncOf k enc') (hk : 0 < k) (hu : P.underlying t = some (.slice e)) (hC : P.cellsOf e = k) {W : World} {base b0 : Nat} {r : Reach} {spare : Nat → Bool} {held : Bool} {v : Value} {d : DataW H} {p : List MemPlace}
    (hel : ∀ (n : Nat) (cs : List Value) (x : DataW H × List MemPlace), cs.length = k → DataW.trod enc P W base spare held n e cs = some x → ∃ y : α, cs = enc' y ∧ ok y)
    (hval : Value.okWide P W r b0 t v) (h : DataW.Trod enc P W base spare held t v d p) : ∃ A c, ∃ l : List α, v = .slice A l.length c ∧ l.length ≤ maxLen ∧ SlRd W k v l.length (flat enc' l) ∧ ∀ y ∈ l, ok y := by
  obtain ⟨a, len, cap, rfl⟩ := okWide_slice hu hval
  obtain ⟨fuel, hf⟩ := h
  rcases DataW.trod_slice hu hf with ⟨hcs, hx⟩ | ⟨a, len', cap', elems, rest, n, _, hcs, hx, _, hl, hm, hlen, hels, _, _⟩
  · simp [Value.cells] at hcs
    obtain ⟨rfl, rfl, rfl⟩ := hcs
    exact ⟨none, 0, [], rfl, Nat.zero_le _, ⟨by simp [flat], none, 0, rfl, .inl ⟨rfl, rfl⟩⟩, fun y hy => by cases hy⟩
  · simp [Value.cells] at hcs
    obtain ⟨rfl, rfl, rfl⟩ := hcs
    rw [hC] at hels
    have each : ∀ i, i < len → ∃ y : α, ok y ∧ ∀ j x, (enc' y)[j]? = some x → W.cell? ((a.add (i * k)).add j) = some x := by
      intro i hi
      have h1 := hels i hi
      rw [List.getElem?_eq_getElem (show i < elems.length by omega), Option.bind_eq_some_iff] at h1
      obtain ⟨cs', hcs, ht⟩ := h1
      obtain ⟨_, hcl, hat⟩ := World.cells?_some hcs
      obtain ⟨y, rfl, hy⟩ := hel _ _ _ hcl ht
      exact ⟨y, hy, fun j x hj => (hat j (by rw [← hcl]; exact (List.getElem?_eq_some_iff.1 hj).1)).trans hj⟩
    obtain ⟨f, hf⟩ := Go.Deep.choose_lt each
    have hll : ((List.range len).map f).length = len := by simp
    have hat : ∀ {i : Nat} {y : α}, ((List.range len).map f)[i]? = some y → i < len ∧ y = f i := by
      intro i y hi
      have hil : i < len := by have := (List.getElem?_eq_some_iff.1 hi).1; simpa using this
      rw [List.getElem?_map, List.getElem?_range hil] at hi
      simp only [Option.map_some, Option.some.injEq] at hi
      exact ⟨hil, hi.symm⟩
    refine ⟨some a, cap, (List.range len).map f, by rw [hll], by rw [hll]; omega, ?_, ?_⟩
    · rw [hll]
      refine ⟨by rw [flat_len he, hll], some a, cap, rfl, .inr ⟨a, rfl, fun q x hq => ?_⟩⟩
      obtain ⟨y, hy, hyx⟩ := flat_pick he hk hq
      obtain ⟨hil, rfl⟩ := hat hy
      have hc := (hf (q / k) hil).2 (q % k) x hyx
      have ha : a = ⟨a.block, a.off, none⟩ := by
        obtain ⟨z, hz⟩ : ∃ z, (enc' (f 0))[0]? = some z := ⟨_, List.getElem?_eq_getElem (by have := he.len (f 0); omega)⟩
        have h0 := (hf 0 (Nat.lt_of_le_of_lt (Nat.zero_le _) hil)).2 0 _ hz
        rw [Nat.zero_mul, show (a.add 0).add 0 = a by simp [Addr.add]] at h0
        exact spot0 h0
      rw [ha, Addr.add_lit, Addr.add_lit] at hc
      rw [ha, Addr.add_lit]
      have e1 : a.off + q / k * k + q % k = a.off + q := by rw [Nat.add_assoc, Nat.mul_comm]; congr 1; exact Nat.div_add_mod q k
      rw [e1] at hc
      exact hc
    · intro y hy
      obtain ⟨i, hi⟩ := List.getElem?_of_mem hy
      obtain ⟨hil, rfl⟩ := hat hi
      exact (hf i hil).1
/-- what has only been added to leaves what is read -/
theorem arg_rd {w0 w : World} {os : List Ass} {k m : Nat} {u : Value} {ys : List Value} (h : SlRd w0 k u m ys) (hH : Hp Nil w0 w os) : SlRd w k u m ys := by
  obtain ⟨h1, A, c, e, hA⟩ := h
  refine ⟨h1, A, c, e, hA.imp id fun ⟨a, ha, hc⟩ => ⟨a, ha, fun j x hx => ?_⟩⟩
  have h0 := hc j x hx
  have hb := World.block_lt_of_cell? _ _ h0
  rw [hH.up.cell hb (fun hn => hn.elim)]
  exact h0
end
section
variable {P : Program} {n : Nat} {w : World} {env : List (Nat × Value)} {o : Oper} {act : Act} {t e : TypeId} {k : Nat} {α : Type} {enc : α → List Value} {u : Value} {m : List α}
theorem SlRd.at_ (he : EncOf k enc) (hk : 0 < k) (hu : SlRd w k u m.length (flat enc m)) {j : Nat} {a : α} (hj : m[j]? = some a) : ∃ g off c, u = .slice (some ⟨g, off, none⟩) m.length c ∧ ∀ q x, (enc a)[q]? = some x → w.cell? ⟨g, off + j * k + q, none⟩ = some x := by
  obtain ⟨_, A, c, rfl, hA⟩ := hu
  rcases hA with ⟨_, h0⟩ | ⟨b, rfl, hc⟩
  · rw [List.length_eq_zero_iff.1 h0] at hj; simp at hj
  · obtain ⟨z, hz⟩ : ∃ z, (flat enc m)[0]? = some z := ⟨_, List.getElem?_eq_getElem (by
      rw [flat_len he]
      have := (List.getElem?_eq_some_iff.1 hj).1
      exact Nat.mul_pos (by omega) hk)⟩
    have h0 := hc 0 z hz
    rw [show b.add 0 = b by simp [Addr.add]] at h0
    have hb := spot0 h0
    refine ⟨b.block, b.off, c, by rw [← hb], fun q x hx => ?_⟩
    have hq : q < k := by rw [← he.len a]; exact (List.getElem?_eq_some_iff.1 hx).1
    have := hc (j * k + q) x ((flat_get he hj hq).trans hx)
    rw [hb, Addr.add_lit] at this
    rw [Nat.add_assoc]
    exact this
theorem e_slen (hu : SlRd w k u m.length (flat enc m)) (hT : P.underlying t = some (.slice e)) {x : Operand} (ho : o.op = .call { callee := .builtin .len, args := #[x], argTypes := #[t] }) (hx : evs env x = some u) (hF : Fr n act env) : (execOp act.eval o).run P w = .ok (.value (.int .i64 (m.length : Int))) w := by
  obtain ⟨_, A, c, rfl, _⟩ := hu
  exact exec_bi ho (vs := [.slice A m.length c]) (by simp [evl, hx]) (fun cs => run_len_slice hT A _ c _ w cs) hF
theorem e_sidx (he : EncOf k enc) (hu : SlRd w k u m.length (flat enc m)) (hT : SliceT P t e k) {j : Nat} {a : α} (hj : m[j]? = some a) {x y : Operand} {kk : IntKind} (ho : o.op = .indexAddr t x y) (hx : evs env x = some u) (hy : evs env y = some (.int kk (j : Int))) (hF : Fr n act env) : (execOp act.eval o).run P w = .ok (.value (elp u (j * k))) w := by
  obtain ⟨g, off, c, rfl, _⟩ := hu.at_ he hT.pos hj
  have hs : (sizeOf e).run P w = .ok k w := hT.sizeOf w
  have hlt : (0 : Int) ≤ (j : Int) ∧ (j : Int) < (m.length : Int) := by have := (List.getElem?_eq_some_iff.1 hj).1; omega
  unfold execOp
  simp only [ho, hF.evs hx, hF.evs hy, Instr.indexAt, asIntOf, Sem.run_bind, Sem.run_pure, Result.andThen_ok, run_underlying hT.ht w]
  simp [hlt, hs, elp, Addr.add_lit]
theorem e_sload (he : EncOf k enc) (hk : 0 < k) (hu : SlRd w k u m.length (flat enc m)) {j : Nat} {a : α} (hj : m[j]? = some a) {T : TypeId} (hO : OneOf P T) {off : Nat} {c : Value} (hc : (enc a)[off]? = some c) {x : Operand} (ho : o.op = .load T x) (hx : evs env x = some (elp u (j * k + off))) (hF : Fr n act env) : (execOp act.eval o).run P w = .ok (.value c) w := by
  obtain ⟨g, b, cap, rfl, hcell⟩ := hu.at_ he hk hj
  have h1 := hcell off c hc
  have hx' : evs env x = some (.pointer (some ⟨g, b + j * k + off, none⟩)) := by rw [hx]; simp [elp, Nat.add_assoc]
  unfold execOp
  simp only [ho, hF.evs hx', Instr.loadAt, Instr.sureAddr, Sem.run_bind, Sem.run_pure, Result.andThen_ok, loadVar, hO.1]
  simp [run_load, h1]
theorem e_sagg (he : EncOf k enc) (hk : 0 < k) (hu : SlRd w k u m.length (flat enc m)) {j : Nat} {a : α} (hj : m[j]? = some a) {T : TypeId} (hA : AggOf P T k) {x : Operand} (ho : o.op = .load T x) (hx : evs env x = some (elp u (j * k))) (hF : Fr n act env) : (execOp act.eval o).run P w = .ok (.value (.agg (enc a).toArray)) w := by
  obtain ⟨g, b, cap, rfl, hcell⟩ := hu.at_ he hk hj
  have hx' : evs env x = some (.pointer (some ⟨g, b + j * k, none⟩)) := by rw [hx]; simp [elp]
  have h := run_loadCells_list (P := P) w ⟨g, b + j * k, none⟩ (enc a) (fun q v hv => by rw [Addr.add_lit]; exact hcell q v hv)
  rw [he.len a] at h
  have hl : (loadVar T ⟨g, b + j * k, none⟩).run P w = .ok (.agg (enc a).toArray) w := by
    simp [loadVar, Sem.run_bind, hA.1, hA.2, h]
  unfold execOp
  simp only [ho, hF.evs hx', Instr.loadAt, Instr.sureAddr, Sem.run_bind, Sem.run_pure, Result.andThen_ok, hl]
end
end Go.Proofs.Ytnknboibmifacaa.Sep

namespace Go.Proofs.Ytnknboibmifacaa.Sep
open Go.RowKit
open Go.Proofs.Ytnknboibmifacaa.Mem (Dist Blk Chg)
def DoesU {X : Type} (u : World) (P : Program) (F : FuncId) (args : Array Value) (pre : List Ass) (val : X → Value) (post : X → List Ass) : Prop :=
  ∀ w rs, Below u.heap.size u w → (∀ x ∈ rs, u.heap.size ≤ x.1) → Parts pre rs → RowsOf w rs → Dist rs → Calls P F args w fun e w' => ∃ x, e = .returned (val x) ∧ ∃ rs', Parts (post x) rs' ∧ Chg w w' rs rs'
section
variable {P : Program} {B : Nat → Prop} {u w0 w w' : World} {os : List Ass}
theorem Hp.give2 (h : Hp B w0 w os) (ids : List Nat) (hn : ids.Nodup) : ∃ x, (∀ r ∈ x, r.1 < w0.heap.size → B r.1) ∧ Parts (selA ids os) x ∧ RowsOf w x ∧ Dist x ∧ ∀ (post : List Ass) (y : List RowT) (w' : World), Parts post y → Chg w w' x y → Hp B w0 w' (post ++ rstA ids os) := by
  obtain ⟨rs, h1, h2⟩ := h.perm (perm_sel (os := os) hn).symm
  obtain ⟨a, b, e, h3, h4⟩ := h1.split
  subst e
  have hd := dist_iff.1 h2.apart
  rw [List.map_append] at hd
  exact ⟨a, fun r hr => h2.own r (by simp [hr]), h3, rows_iff.2 fun z hz => h2.rows.mem z (by simp [hz]), dist_iff.2 (List.nodup_append.1 hd).1, fun post y w' hy hch => ⟨y ++ b, hy.app h4, hp_chg h2 hch⟩⟩
theorem DoesU.pad {X : Type} {F : FuncId} {args : Array Value} {pre : List Ass} {val : X → Value} {post : X → List Ass} (h : DoesU u P F args pre val post) (k : Nat) : DoesU u P F args (pre ++ List.replicate k emp) val post := fun w rs hu hs h1 h2 h3 => by
  obtain ⟨a, b, e, ha, hb⟩ := h1.split
  have := parts_emp.1 hb
  subst this
  rw [List.append_nil] at e
  subst e
  exact h w _ hu hs ha h2 h3
theorem DoesU.calls {X : Type} {F : FuncId} {vs : List Value} {pre : List Ass} {val : X → Value} {post : X → List Ass} (hU : Below u.heap.size u w0) (hS : ∀ k, B k → u.heap.size ≤ k) (ids : List Nat) (hc : DoesU u P F vs.toArray pre val post) (hp : selA ids os = pre) (hn : ids.Nodup) (h : Hp B w0 w os) : Calls P F vs.toArray w fun e w' => ∃ x, e = .returned (val x) ∧ Hp B w0 w' (post x ++ rstA ids os) := by
  subst hp
  have hm : Below u.heap.size w0 w := h.up.below hU.size hS
  obtain ⟨x, h0, h1, h2, h3, h4⟩ := h.give2 ids hn
  refine (hc w x (hU.trans hm) (fun r hr => ?_) h1 h2 h3).mono fun e w' ⟨v, he, y, hy, hch⟩ => ⟨v, he, h4 _ y w' hy hch⟩
  by_cases hlt : r.1 < w0.heap.size
  · exact hS _ (h0 r hr hlt)
  · have := hU.size
    omega
variable {Q : Exit → Act → World → Prop} {n : Nat} {env : List (Nat × Value)} {o : Oper}
theorem a_doesU {X : Type} {F : FuncId} {f : Operand} {args : Array Operand} {ats : Array TypeId} {vs : List Value} {pre : List Ass} {val : X → Value} {post : X → List Ass} {os' : X → List Ass} (hU : Below u.heap.size u w0) (hS : ∀ k, B k → u.heap.size ≤ k) (ids : List Nat) (pads : Nat) (hE : Ent P F) (hc : DoesU u P F vs.toArray pre val post) (hp : selA ids os = pre ++ List.replicate pads emp) (hn : nodupB ids = true) (hb : (ids.all fun i => Nat.blt i os.length) = true) (he : ∀ x, (post x).drop ids.length ++ replA ids (padTo ids.length (post x)) os = os' x) (ho : o.op = .call { callee := .value f, args := args, argTypes := ats }) (hf : evs env f = some (.func (.func F) #[] #[])) (hx : evl env args.toList = some vs) :
    Acts P Q n env B w0 os o val os' := fun b w hH hb' K hK => by
  unfold Oper.wp
  rw [exec_call hE ho hf hx hb', Oper.upon_enter]
  refine (DoesU.calls hU hS ids (hc.pad pads) hp (nodupB_iff hn) hH).mono ?_
  rintro e w' ⟨x, rfl, hq⟩
  refine hK x w' (he x ▸ Hp.imp hq fun rs h => ?_)
  obtain ⟨a, c, e, ha, hc'⟩ := h.split
  obtain ⟨a', p, ha'⟩ := padTo_parts (k := ids.length) ha
  have h2 := Parts.app ha' hc'
  rw [List.append_assoc] at h2
  obtain ⟨r2, p2, h3⟩ := h2.perm ((repl_perm (xs := post x) (nodupB_iff hn) hb).append_left _)
  exact ⟨r2, e ▸ (p.append_right c).trans p2, h3⟩
theorem d_insU {X : Type} {fn : Func} {f : FuncId} {c : Code} {args : List Value} {pre : List Ass} {val : X → Value} {post : X → List Ass} (n : Nat) (hf : P.funcs[f]? = some fn) (hb : fn.body = some c) (hn : fn.ntmps = n) (hs : Nat.ble args.length n = true)
    (h : ∀ (w : World) (rs : List RowT), Below u.heap.size u w → (∀ k, Blk rs k → u.heap.size ≤ k) → WC2 P (bodyPost P fn fun e w' => ∃ x, e = .returned (val x) ∧ ∃ rs', Parts (post x) rs' ∧ Chg w w' rs rs') n (argEnv 0 args) (Blk rs) w pre c) : DoesU u P f args.toArray pre val post :=
  fun w rs hU hS h1 h2 h3 => calls_in n hf hb hn (Nat.le_of_ble_eq_true hs) fun a hF => h w rs hU (fun k ⟨x, hx, e⟩ => e ▸ hS x hx) a w hF (Hp.given h1 h2 h3)
end
end Go.Proofs.Ytnknboibmifacaa.Sep

namespace Go.Proofs.Ytnknboibmifacaa
open Go.RowKit

theorem tyU8 : U8 Try.prog 50 5 := ⟨Try.underlying50, Try.underlying5, by kernel_rfl⟩

theorem clone_any {S : Nat → Prop} (w : World) (A : Option Addr) (c : Nat) (l : List UInt8) (h : Bs S w A c l) (hl : l.length ≤ 140737488355328) :
    Calls Try.prog 29 #[.slice A l.length c] w fun e w' => ∃ v', e = .returned v' ∧ Own 5 w' w.heap.size v' l ∧ Below w.heap.size w w' := by
  have q : ∀ (W : World) (a : Option Addr) (n c : Nat), (binOp .eql 50 (.slice a n c) (.slice none 0 0)).run Try.prog W = .ok (.bool a.isNone) W :=
    fun W a n c => Lib.run_eql_slice_nil W _ _ a n c 0 0 Try.underlying50
  cases A with
  | none =>
    have hm : l = [] := h.of_none
    subst hm
    go_enter Try.func29, Try.ntmps29
    go_wp2
    go_ret
    exact ⟨_, rfl, Own.nil _ _ _, Below.refl _ _⟩
  | some a =>
    go_enter Try.func29, Try.ntmps29
    have own0 : Own 5 (w.alloc (.cells #[] 5)) w.heap.size (.slice (some ⟨w.heap.size, 0, none⟩) 0 0) [] := World.ownsRow_made w #[] 0 (Nat.le_refl _) (by simp [maxLen]) rfl
    have src : Bs (fun k => S k ∧ k < w.heap.size) (w.alloc (.cells #[] 5)) (some a) c l := (h.cut_old).mod ((Mod.refl Nil w).alloc _) (fun _ _ hf => hf)
    go_wp2_with (at_builtin; refine wpList_append_bs (t := 50) tyU8 rfl (.tmp 5) (.tmp 6) rfl own0 (by simp) src l.length (by simp) rfl rfl hl ?_; intro A' c' w' ho hm ha)
    go_ret
    refine ⟨_, rfl, by simpa using ho, ?_⟩
    exact ((Mod.refl Nil w).alloc _ |>.trans hm (fun i hi e => by rw [At.iff] at e; omega)).below (Nat.le_refl _) (fun _ hf => hf.elim)
end Go.Proofs.Ytnknboibmifacaa

namespace Go.Proofs.Ytnknboibmifacaa

/-- What is read of l, whose first byte is number k of the varint, a being what the bytes ahead have given: the number, how many bytes it takes, what is wrong (10 short, 11 form, 12 long). -/
def vnum (most : Nat) : List UInt8 → Nat → Nat → Nat × Nat × Nat
  | [], _, _ => (0, 0, 10)
  | c :: r, k, a =>
    if k = 9 ∧ 1 < c.toNat then (0, 0, 11)
    else if 128 ≤ c.toNat then vnum most r (k + 1) (a + c.toNat % 128 * 2 ^ (7 * k))
    else if c.toNat = 0 ∧ 0 < k then (0, 0, 11)
    else if most < a + c.toNat % 128 * 2 ^ (7 * k) then (0, 0, 12)
    else (a + c.toNat % 128 * 2 ^ (7 * k), k + 1, 0)

/-- what is read ends well, or is all 0 -/
theorem vnum_ends (most : Nat) : ∀ (l : List UInt8) (k a : Nat), k ≤ 9 → a < 2 ^ (7 * k) →
    ((vnum most l k a).2.2 = 0 ∧ k < (vnum most l k a).2.1 ∧ (vnum most l k a).2.1 ≤ k + l.length ∧ (vnum most l k a).1 ≤ most ∧ (vnum most l k a).1 < 18446744073709551616) ∨
    ((vnum most l k a).1 = 0 ∧ (vnum most l k a).2.1 = 0 ∧ ((vnum most l k a).2.2 = 10 ∨ (vnum most l k a).2.2 = 11 ∨ (vnum most l k a).2.2 = 12))
  | [], k, a, _, _ => .inr ⟨rfl, rfl, .inl rfl⟩
  | c :: r, k, a, hk, ha => by
    unfold vnum
    by_cases h1 : k = 9 ∧ 1 < c.toNat
    · rw [if_pos h1]; exact .inr ⟨rfl, rfl, .inr (.inl rfl)⟩
    rw [if_neg h1]
    have hp : (2 : Nat) ^ (7 * (k + 1)) = 128 * 2 ^ (7 * k) := by rw [Nat.mul_add, Nat.pow_add]; omega
    have hc : c.toNat % 128 * 2 ^ (7 * k) ≤ 127 * 2 ^ (7 * k) := Nat.mul_le_mul_right _ (by omega)
    by_cases h2 : 128 ≤ c.toNat
    · rw [if_pos h2]
      have := vnum_ends most r (k + 1) (a + c.toNat % 128 * 2 ^ (7 * k)) (by omega) (by rw [hp]; omega)
      rcases this with ⟨a1, a2, a3, a4, a5⟩ | h
      · exact .inl ⟨a1, by omega, by rw [List.length_cons]; omega, a4, a5⟩
      · exact .inr h
    rw [if_neg h2]
    by_cases h3 : c.toNat = 0 ∧ 0 < k
    · rw [if_pos h3]; exact .inr ⟨rfl, rfl, .inr (.inl rfl)⟩
    rw [if_neg h3]
    by_cases h4 : most < a + c.toNat % 128 * 2 ^ (7 * k)
    · rw [if_pos h4]; exact .inr ⟨rfl, rfl, .inr (.inr rfl)⟩
    rw [if_neg h4]
    refine .inl ⟨rfl, by show k < k + 1; omega, by rw [List.length_cons]; show k + 1 ≤ _; omega, by show a + _ ≤ _; omega, ?_⟩
    show a + c.toNat % 128 * 2 ^ (7 * k) < 18446744073709551616
    by_cases h9 : k = 9
    · subst h9
      have hc1 : c.toNat % 128 * 2 ^ (7 * 9) ≤ 1 * 2 ^ (7 * 9) := Nat.mul_le_mul_right _ (by omega)
      omega
    · have : (2 : Nat) ^ (7 * k) ≤ 2 ^ 56 := Nat.pow_le_pow_right (by omega) (by omega)
      omega

/-- A number's bytes. -/
def vlay (n : Nat) : List UInt8 := if n < 128 then [UInt8.ofNat n] else UInt8.ofNat (n % 128 + 128) :: vlay (n / 128)
termination_by n
decreasing_by omega
theorem vlay_small {n : Nat} (h : n < 128) : vlay n = [UInt8.ofNat n] := by rw [vlay, if_pos h]
theorem vlay_more {n : Nat} (h : 128 ≤ n) : vlay n = UInt8.ofNat (n % 128 + 128) :: vlay (n / 128) := by rw [vlay, if_neg (by omega)]
theorem vlay_length_pow : ∀ (k n : Nat), n < 128 ^ (k + 1) → (vlay n).length ≤ k + 1
  | 0, n, h => by rw [vlay_small (by simpa using h)]; simp
  | k + 1, n, h => by
    by_cases h1 : n < 128
    · rw [vlay_small h1]; simp
    · rw [vlay_more (by omega), List.length_cons]
      have := vlay_length_pow k (n / 128) (by rw [Nat.div_lt_iff_lt_mul (by omega)]; rw [Nat.pow_succ] at h; exact h)
      omega
theorem vlay_length (n : Nat) (h : n < 18446744073709551616) : (vlay n).length ≤ 10 := vlay_length_pow 9 n (by omega)
theorem vlay_pos (n : Nat) : 0 < (vlay n).length := by
  rw [vlay]; split <;> simp
/-! A reader: the bytes that are left, and what was wrong first (0: nothing). Each answers the value, then these two. -/
def rbyte (most : Nat) (l : List UInt8) (f : Nat) : Nat × List UInt8 × Nat :=
  if f ≠ 0 then (0, l, f)
  else match l with
    | [] => (0, [], 10)
    | b :: r => if most < b.toNat then (0, b :: r, 12) else (b.toNat, r, 0)
def rnum (most : Nat) (l : List UInt8) (f : Nat) : Nat × List UInt8 × Nat :=
  if f ≠ 0 then (0, l, f) else ((vnum most l 0 0).1, l.drop (vnum most l 0 0).2.1, (vnum most l 0 0).2.2)
/-- the number that a varint stands for -/
def unzig (n : Nat) : Int := if n % 2 = 0 then (n / 2 : Nat) else -((n / 2 : Nat) : Int) - 1
def rint (l : List UInt8) (f : Nat) : Int × List UInt8 × Nat := (unzig (rnum 18446744073709551615 l f).1, (rnum 18446744073709551615 l f).2)
def rtext (most : Int) (l : List UInt8) (f : Nat) : List UInt8 × List UInt8 × Nat :=
  if f ≠ 0 then ([], l, f)
  else if (vnum most.toNat l 0 0).2.2 ≠ 0 then ([], l, (vnum most.toNat l 0 0).2.2)
  else if l.length - (vnum most.toNat l 0 0).2.1 < (vnum most.toNat l 0 0).1 then ([], l, 10)
  else ((l.drop (vnum most.toNat l 0 0).2.1).take (vnum most.toNat l 0 0).1, l.drop ((vnum most.toNat l 0 0).2.1 + (vnum most.toNat l 0 0).1), 0)
def rend (l : List UInt8) (f : Nat) : Nat := if f = 0 ∧ 0 < l.length then 11 else f

end Go.Proofs.Ytnknboibmifacaa

namespace Go.Proofs.Ytnknboibmifacaa
open Go.RowKit

theorem andNot_128 (b : Nat) (h : b < 256) : bits .andNot .u8 (b : Int) 128 = ((b % 128 : Nat) : Int) := by
  have : ∀ x : Fin 256, bits .andNot .u8 ((x.val : Nat) : Int) 128 = ((x.val % 128 : Nat) : Int) := by decide +kernel
  exact this ⟨b, h⟩

theorem ofInt_u64 (a : Nat) (ha : a < 18446744073709551616) : (BitVec.ofInt 64 (a : Int)).toNat = a := by
  rw [BitVec.ofInt_natCast, BitVec.toNat_ofNat]; exact Nat.mod_eq_of_lt (by omega)

theorem u64_wrap_nat (a : Nat) (ha : a < 18446744073709551616) : IntKind.u64.wrap (a : Int) = (a : Int) := by
  simp [IntKind.wrap, IntKind.signed, IntKind.bits]
  omega

theorem u64_or_nat (a b : Nat) (ha : a < 18446744073709551616) (hb : b < 18446744073709551616) : bits .or .u64 (a : Int) (b : Int) = ((a ||| b : Nat) : Int) := by
  have hx : a ||| b < 2 ^ 64 := Nat.or_lt_two_pow (by omega) (by omega)
  show IntKind.u64.wrap ((BitVec.ofInt 64 (a : Int) ||| BitVec.ofInt 64 (b : Int)).toNat : Int) = _
  rw [BitVec.toNat_or, ofInt_u64 a ha, ofInt_u64 b hb]
  exact u64_wrap_nat _ hx

/-- the next digit of a varint -/
theorem next_digit (a b k : Nat) (hb : b < 256) (hk : k ≤ 9) (ha : a < 2 ^ (7 * k)) (h9 : ¬ (k = 9 ∧ 1 < b)) (h1 : k = 9 → b < 128) :
    bits .or .u64 (a : Int) (IntKind.u64.wrap (IntKind.u64.wrap (bits .andNot .u8 (b : Int) 128) * 2 ^ (7 * k))) = ((a + b % 128 * 2 ^ (7 * k) : Nat) : Int) := by
  have hm : b % 128 * 2 ^ (7 * k) + a < 18446744073709551616 := by
    by_cases h : k = 9
    · subst h
      have hc1 : b % 128 * 2 ^ (7 * 9) ≤ 1 * 2 ^ (7 * 9) := Nat.mul_le_mul_right _ (by omega)
      omega
    · have : (2 : Nat) ^ (7 * k) ≤ 2 ^ 56 := Nat.pow_le_pow_right (by omega) (by omega)
      have hc1 : b % 128 * 2 ^ (7 * k) ≤ 127 * 2 ^ (7 * k) := Nat.mul_le_mul_right _ (by omega)
      omega
  rw [andNot_128 b hb, u64_wrap_nat _ (by omega)]
  have e : ((b % 128 : Nat) : Int) * 2 ^ (7 * k) = ((b % 128 * 2 ^ (7 * k) : Nat) : Int) := by
    rw [Int.natCast_mul, Int.natCast_pow]; rfl
  rw [e, u64_wrap_nat _ (by omega), u64_or_nat _ _ (by omega) (by omega)]
  congr 1
  rw [Nat.or_comm, Nat.add_comm, ← Nat.shiftLeft_eq, Nat.shiftLeft_add_eq_or_of_lt ha]

theorem ret_int {k : IntKind} {a b : Int} (h : a = b) : Ending.returned (.int k a) = .returned (.int k b) := by rw [h]

end Go.Proofs.Ytnknboibmifacaa

namespace Go.Proofs.Ytnknboibmifacaa
open Go.RowKit

/-- At block p lies a Writer that holds the bytes l, in the slice v. -/
def Wtr (w : World) (p : Nat) (v : Value) (l : List UInt8) : Prop := Row w p 92 #[v] ∧ Own 5 w 0 v l
/-- its blocks -/
def Foot (p : Nat) (v : Value) : Nat → Prop := fun k => k = p ∨ At v k

theorem Wtr.mod {S : Nat → Prop} {w w' : World} {p : Nat} {v : Value} {l : List UInt8} (h : Wtr w p v l) (hm : Mod S w w') (hn : ∀ k, Foot p v k → ¬ S k) : Wtr w' p v l :=
  ⟨h.1.mod hm (hn p (.inl rfl)), h.2.mod hm (fun k hk => hn k (.inr hk))⟩
theorem Wtr.lt {w : World} {p : Nat} {v : Value} {l : List UInt8} (h : Wtr w p v l) : ∀ k, Foot p v k → k < w.heap.size := by
  rintro k (rfl | hk)
  · exact h.1.lt
  · exact (h.2.lt k hk).2

theorem newWriter_any (w : World) :
    Calls Try.prog 36 #[] w fun e w' => ∃ p, e = .returned (.pointer (some ⟨p, 0, none⟩)) ∧ w.heap.size ≤ p ∧ Wtr w' p (.slice none 0 0) [] ∧ Below w.heap.size w w' := by
  go_enter Try.func36, Try.ntmps36
  go_wp2
  go_ret
  exact ⟨w.heap.size, rfl, Nat.le_refl _, ⟨Row.new _ _ _, Own.nil _ _ _⟩, (Below.refl _ _).alloc (Nat.le_refl _) _⟩

theorem writerByte_any (w : World) (p : Nat) (v : Value) (l : List UInt8) (b : UInt8) (h : Wtr w p v l) (hl : l.length + 1 ≤ 140737488355328) :
    Calls Try.prog 38 #[.pointer (some ⟨p, 0, none⟩), .int .u8 (b.toNat : Int)] w fun e w' =>
      ∃ v', e = .returned (.tuple #[]) ∧ Wtr w' p v' (l ++ [b]) ∧ Mod (Foot p v) w w' ∧ ∀ k, At v' k → At v k ∨ w.heap.size ≤ k := by
  obtain ⟨hr, ho⟩ := h
  have hp := hr.lt
  have hne := ho.ne_row hr (by decide)
  obtain ⟨A, c, rfl, hs⟩ := ho.form
  have h0 := hr.cell 0
  have f0 := hr.frozen 0
  simp at h0
  go_enter Try.func38, Try.ntmps38
  have own1 : Own 5 (w.alloc (.cells #[.int .u8 (b.toNat : Int)] 5)) 0 (.slice A l.length c) l := ho.mod ((Mod.refl Nil w).alloc _) (fun _ _ hf => hf)
  have hr1 := hr.alloc (.cells #[.int .u8 (b.toNat : Int)] 5)
  have hsz : w.heap.size < (w.alloc (.cells #[.int .u8 (b.toNat : Int)] 5)).heap.size := by simp
  go_wp2_with (at_builtin; refine wpList_append_bs (t := 50) tyU8 rfl (.tmp 8) (.tmp 10) rfl own1 (Nat.zero_le _) (one_src w 5 b rfl) (l.length + 1) rfl rfl rfl hl ?_; intro A1 c1 w1 ho1 hm1 ha1; have hr2 := hr1.mod hm1 hne; have k0 := hr2.cell 0; have g0 := hr2.frozen 0; simp at k0; have hne1 := ho1.ne_row hr2 (by decide))
  go_end0
  refine ⟨_, rfl, ⟨hr2.set 0 _, ho1.mod (Mod.one _ _ _ _) (fun k hk e => by subst e; exact hne1 hk)⟩, ?_, fun k hk => ?_⟩
  · refine (((Mod.refl (Foot p (.slice A l.length c)) w).alloc _).trans hm1 (fun k _ hk => .inr hk)).trans (Mod.one _ _ _ _) (fun k _ hk => .inl hk)
  · rcases ha1 k hk with h | h
    · exact .inl h
    · right; simp at h; omega

theorem u8_byte (n : Nat) (h : n < 256) : (UInt8.ofNat n).toNat = n := by simp [UInt8.toNat_ofNat']; omega
theorem or_128 (b : Nat) (h : b < 256) : bits .or .u8 (b : Int) 128 = ((b % 128 + 128 : Nat) : Int) := by
  have : ∀ x : Fin 256, bits .or .u8 ((x.val : Nat) : Int) 128 = ((x.val % 128 + 128 : Nat) : Int) := by decide +kernel
  exact this ⟨b, h⟩

set_option maxRecDepth 100000 in
theorem writerNum_any (w : World) (p : Nat) (v : Value) (l : List UInt8) (n : Nat) (h : Wtr w p v l) (hn : n < 18446744073709551616) (hl : l.length + 10 ≤ 140737488355328) :
    Calls Try.prog 37 #[.pointer (some ⟨p, 0, none⟩), .int .u64 (n : Int)] w fun e w' =>
      ∃ v', e = .returned (.tuple #[]) ∧ Wtr w' p v' (l ++ vlay n) ∧ Mod (Foot p v) w w' ∧ ∀ k, At v' k → At v k ∨ w.heap.size ≤ k := by
  have hvl := vlay_length n hn
  obtain ⟨N, hN⟩ : ∃ N, N = vlay n := ⟨_, rfl⟩
  rw [← hN] at hvl ⊢
  have HN := hid hN
  have HNB := hid hn
  clear hN hn
  go_enter Try.func37, Try.ntmps37
  go_wp2
  go_loopw [1] (fun x wr => ∃ (y : Nat) (v1 : Value) (l1 : List UInt8), x = .int .u64 (y : Int) ∧ y < 18446744073709551616 ∧ N = l1 ++ vlay y ∧ Wtr wr p v1 (l ++ l1) ∧ Mod (Foot p v) w wr ∧ ∀ k, At v1 k → At v k ∨ w.heap.size ≤ k) (fun x _ => (intOf x).toNat)
  case atStart => exact ⟨n, v, [], rfl, HNB.out, by rw [HN.out]; rfl, by simpa using h, Mod.refl _ _, fun k hk => .inl hk⟩
  case round =>
    obtain ⟨y, v1, l1, rfl, hy, hN, hw, hm, ha⟩ := hrel
    have hpos := vlay_pos y
    have hlN : N.length = l1.length + (vlay y).length := by rw [hN]; simp
    obtain ⟨L, hL⟩ : ∃ L, L = l ++ l1 := ⟨_, rfl⟩
    have hll : L.length + 1 ≤ 140737488355328 := by rw [hL, List.length_append]; omega
    rw [← hL] at hw
    clear hlN
    have HL := hid hL
    have HNN := hid hN
    have HY := hid hy
    clear hN hy hL hpos
    obtain ⟨hr, ho⟩ := hw
    have hp := hr.lt
    have hne := ho.ne_row hr (by decide)
    obtain ⟨A, c, rfl, hs⟩ := ho.form
    have h0 := hr.cell 0
    have f0 := hr.frozen 0
    simp only [List.getElem?_toArray, List.getElem?_cons_zero] at h0
    by_cases h128 : 128 ≤ y
    · have hx : bits .or .u8 ((y : Int) % 256) 128 = ((UInt8.ofNat (y % 128 + 128)).toNat : Int) := by
        rw [u8_byte _ (by omega), show (y : Int) % 256 = ((y % 256 : Nat) : Int) by omega, or_128 _ (by omega)]
        congr 2; omega
      obtain ⟨b, hb⟩ : ∃ b, b = UInt8.ofNat (y % 128 + 128) := ⟨_, rfl⟩
      rw [← hb] at hx
      have HB := hid hb
      have own1 : Own 5 (wr.alloc (.cells #[.int .u8 (b.toNat : Int)] 5)) 0 (.slice A L.length c) L := ho.mod ((Mod.refl Nil wr).alloc _) (fun _ _ hf => hf)
      have hr1 := hr.alloc (.cells #[.int .u8 (b.toNat : Int)] 5)
      clear hb
      go_wp2_with (at_builtin; refine wpList_append_bs (t := 50) tyU8 rfl (.tmp 10) (.tmp 14) rfl own1 (Nat.zero_le _) (one_src wr 5 b rfl) (L.length + 1) rfl rfl rfl hll ?_; intro A1 c1 w1 ho1 hm1 ha1; have hr2 := hr1.mod hm1 hne; have k0 := hr2.cell 0; have g0 := hr2.frozen 0; simp at k0; have hne1 := ho1.ne_row hr2 (by decide))
      have hfoot : Mod (Foot p v) w (w1.setCell ⟨p, 0, none⟩ (.slice A1 (L.length + 1) c1)) := hm.trans ((((Mod.refl (Foot p (.slice A L.length c)) wr).alloc _).trans hm1 (fun k _ hk => .inr hk)).trans (Mod.one _ _ _ _) (fun k _ hk => .inl hk)) (fun k hk hf => by
        rcases hf with hf | hf
        · exact .inl hf
        · rcases ha k hf with hf | hf
          · exact .inr hf
          · omega)
      have hws : w.heap.size ≤ wr.heap.size := hm.size
      go_roundw
      case rel =>
        refine ⟨y / 128, .slice A1 (L.length + 1) c1, l1 ++ [b], by go_num, by have := HY.out; omega, ?_, ⟨?_, ?_⟩, hfoot, ?_⟩
        · rw [HNN.out, vlay_more h128, ← HB.out]; simp
        · exact hr2.set 0 _
        · rw [← List.append_assoc, ← HL.out]
          exact ho1.mod (Mod.one _ _ _ _) (fun k hk e => by subst e; exact hne1 hk)
        · intro k hk
          rcases ha1 k hk with h | h
          · exact ha k h
          · right; simp at h; omega
      case measure => simp [intOf]; omega
    · have hyb : y < 128 := by omega
      obtain ⟨b, hb⟩ : ∃ b, b = UInt8.ofNat y := ⟨_, rfl⟩
      have hx : (y : Int) = (b.toNat : Int) := by rw [hb, u8_byte _ (by omega)]
      have HB := hid hb
      have HX := hid hx
      have own1 : Own 5 (wr.alloc (.cells #[.int .u8 (y : Int)] 5)) 0 (.slice A L.length c) L := ho.mod ((Mod.refl Nil wr).alloc _) (fun _ _ hf => hf)
      have hr1 := hr.alloc (.cells #[.int .u8 (y : Int)] 5)
      clear hb hx
      go_wp2_with (at_builtin; refine wpList_append_bs (t := 50) tyU8 rfl (.tmp 24) (.tmp 27) rfl own1 (Nat.zero_le _) (one_src wr 5 b HX.out) (L.length + 1) rfl rfl rfl hll ?_; intro A1 c1 w1 ho1 hm1 ha1; have hr2 := hr1.mod hm1 hne; have k0 := hr2.cell 0; have g0 := hr2.frozen 0; simp at k0; have hne1 := ho1.ne_row hr2 (by decide))
      have hfoot : Mod (Foot p v) w (w1.setCell ⟨p, 0, none⟩ (.slice A1 (L.length + 1) c1)) := hm.trans ((((Mod.refl (Foot p (.slice A L.length c)) wr).alloc _).trans hm1 (fun k _ hk => .inr hk)).trans (Mod.one _ _ _ _) (fun k _ hk => .inl hk)) (fun k hk hf => by
        rcases hf with hf | hf
        · exact .inl hf
        · rcases ha k hf with hf | hf
          · exact .inr hf
          · omega)
      have hws : w.heap.size ≤ wr.heap.size := hm.size
      go_end0
      refine ⟨_, rfl, ⟨hr2.set 0 _, ?_⟩, hfoot, ?_⟩
      · rw [HNN.out, vlay_small hyb, ← HB.out, ← List.append_assoc, ← HL.out]
        exact ho1.mod (Mod.one _ _ _ _) (fun k hk e => by subst e; exact hne1 hk)
      · intro k hk
        rcases ha1 k hk with h | h
        · exact ha k h
        · right; simp at h; omega

theorem writerBytes_any (w : World) (p : Nat) (v : Value) (l : List UInt8) (h : Wtr w p v l) (hl : l.length ≤ 140737488355328) :
    Calls Try.prog 39 #[.pointer (some ⟨p, 0, none⟩)] w fun e w' => ∃ v', e = .returned v' ∧ Own 5 w' w.heap.size v' l ∧ Below w.heap.size w w' := by
  obtain ⟨hr, ho⟩ := h
  obtain ⟨A, c, rfl, hs⟩ := ho.form
  have h0 := hr.cell 0
  have f0 := hr.frozen 0
  simp only [List.getElem?_toArray, List.getElem?_cons_zero] at h0
  go_enter Try.func39, Try.ntmps39
  go_wp2_with (go_at_call 29; refine (clone_any w A c l hs hl).mono ?_; rintro e w' ⟨v', rfl, ho', hb⟩)
  go_ret
  exact ⟨_, rfl, ho', hb⟩
end Go.Proofs.Ytnknboibmifacaa

namespace Go.Proofs.Ytnknboibmifacaa
open Go.RowKit

set_option maxRecDepth 100000 in
theorem varint_any {S : Nat → Prop} (w : World) (A : Option Addr) (c : Nat) (l : List UInt8) (most : Nat) (h : Bs S w A c l) (hl : l.length ≤ 140737488355328) (hm : most < 18446744073709551616) :
    Calls Try.prog 52 #[.slice A l.length c, .int .u64 (most : Int)] w fun e w' =>
      e = .returned (.tuple #[.int .u64 ((vnum most l 0 0).1 : Int), .int .i64 ((vnum most l 0 0).2.1 : Int), .int .i64 ((vnum most l 0 0).2.2 : Int)]) ∧ w = w' := by
  go_enter Try.func52, Try.ntmps52
  go_wp2
  go_loop [4, 7, 8, 11] (fun n _ _ i => ∃ k a : Nat, k ≤ l.length ∧ k ≤ 9 ∧ a < 2 ^ (7 * k) ∧ vnum most l 0 0 = vnum most (l.drop k) k a ∧ i = .int .i64 k ∧ n = .int .u64 a) (fun _ _ _ i => l.length - (intOf i).toNat)
  case atStart => exact ⟨0, 0, Nat.zero_le _, by omega, by decide, rfl, rfl, rfl⟩
  case round =>
    obtain ⟨k, a, hk, hk9, ha, hv, rfl, rfl⟩ := hrel
    have HV := hid hv
    clear hv
    by_cases hlt : k < l.length
    · obtain ⟨g, o, rfl, hs, hc⟩ := h.2.2 (by omega)
      have hb := hc k l[k] (List.getElem?_eq_getElem hlt)
      unfold u8v at hb
      clear hc
      obtain ⟨b, hbb⟩ : ∃ b : Nat, b = (l[k]).toNat := ⟨_, rfl⟩
      have hb2 : b < 256 := by rw [hbb]; exact UInt8.toNat_lt _
      rw [← hbb] at hb
      have HB := hid hbb
      clear hbb
      have hd : l.drop k = l[k] :: l.drop (k + 1) := List.drop_eq_getElem_cons hlt
      have HD := hid hd
      clear hd
      have HA := hid ha
      have HM := hid hm
      clear hm
      by_cases h9 : k = 9 ∧ 1 < b
      · obtain ⟨rfl, hb1⟩ := h9
        clear ha
        go_wp2
        refine bodyPost_ret (results_tmp3 rfl _ _ _) rfl ⟨?_, rfl⟩
        rw [HV.out, HD.out]
        unfold vnum
        rw [← HB.out, if_pos ⟨rfl, hb1⟩]
        rfl
      obtain ⟨X, hX⟩ : ∃ X : Nat, X = a + b % 128 * 2 ^ (7 * k) := ⟨_, rfl⟩
      by_cases h1 : 128 ≤ b
      · have hk8 : k ≤ 8 := by omega
        have hN := next_digit a b k hb2 hk9 ha h9 (by omega)
        rw [← hX] at hN
        have HX := hid hX
        clear ha hX
        go_wp2
        go_round
        case rel =>
          refine ⟨k + 1, X, by omega, by omega, ?_, ?_, by go_num, rfl⟩
          · have hp : (2 : Nat) ^ (7 * (k + 1)) = 128 * 2 ^ (7 * k) := by rw [Nat.mul_add, Nat.pow_add]; omega
            have hc : b % 128 * 2 ^ (7 * k) ≤ 127 * 2 ^ (7 * k) := Nat.mul_le_mul_right _ (by omega)
            have := HA.out
            have := HX.out
            omega
          · rw [HV.out, HD.out]
            conv => lhs; unfold vnum
            rw [← HB.out, if_neg h9, if_pos h1, ← HX.out]
        case measure => simp [intOf]; omega
      have h1' : b < 128 := by omega
      by_cases h0 : b = 0 ∧ 0 < k
      · obtain ⟨rfl, hk0⟩ := h0
        clear ha hX
        go_wp2
        all_goals
          refine bodyPost_ret (results_tmp3 rfl _ _ _) rfl ⟨?_, rfl⟩
          rw [HV.out, HD.out]
          unfold vnum
          rw [← HB.out, if_neg h9, if_neg h1, if_pos ⟨rfl, hk0⟩]
          rfl
      have hN := next_digit a b k hb2 hk9 ha h9 (by omega)
      rw [← hX] at hN
      have HX := hid hX
      clear ha hX
      by_cases e9 : k = 9
      · subst e9
        rw [show (2 : Int) ^ (7 * 9) = 9223372036854775808 from rfl] at hN
        have hb1 : b ≤ 1 := by omega
        by_cases hl2 : most < X
        · go_wp2
          all_goals
            refine bodyPost_ret (results_tmp3 rfl _ _ _) rfl ⟨?_, rfl⟩
            rw [HV.out, HD.out]
            unfold vnum
            rw [← HB.out, if_neg (by omega), if_neg h1, if_neg (by omega), ← HX.out, if_pos hl2]
            rfl
        · go_wp2
          all_goals
            refine bodyPost_ret (results_tmp3 rfl _ _ _) rfl ⟨?_, rfl⟩
            rw [HV.out, HD.out]
            unfold vnum
            rw [← HB.out, if_neg (by omega), if_neg h1, if_neg (by omega), ← HX.out, if_neg hl2]
            rfl
      have hk8 : k ≤ 8 := by omega
      by_cases hl2 : most < X
      · go_wp2
        all_goals
          refine bodyPost_ret (results_tmp3 rfl _ _ _) rfl ⟨?_, rfl⟩
          rw [HV.out, HD.out]
          unfold vnum
          rw [← HB.out, if_neg h9, if_neg h1, if_neg h0, ← HX.out, if_pos hl2]
          rfl
      · go_wp2
        all_goals
          refine bodyPost_ret (results_tmp3 rfl _ _ _) rfl ⟨?_, rfl⟩
          rw [HV.out, HD.out]
          unfold vnum
          rw [← HB.out, if_neg h9, if_neg h1, if_neg h0, ← HX.out, if_neg hl2]
          rfl
    · have hk' : k = l.length := by omega
      have hd : l.drop k = [] := by rw [hk']; exact List.drop_length
      have HD := hid hd
      clear hd hk' ha hm
      go_wp2
      refine bodyPost_ret (results_tmp3 rfl _ _ _) rfl ⟨?_, rfl⟩
      rw [HV.out, HD.out]
      rfl
end Go.Proofs.Ytnknboibmifacaa

namespace Go.Proofs.Ytnknboibmifacaa
open Go.RowKit

end Go.Proofs.Ytnknboibmifacaa

namespace Go.Proofs.Ytnknboibmifacaa
open Go.RowKit

end Go.Proofs.Ytnknboibmifacaa

namespace Go.Proofs.Ytnknboibmifacaa

theorem vnum_conv (most : Nat) : ∀ (l : List UInt8) (k a : Nat), (vnum most l k a).2.2 = 0 →
    ∃ m, (vnum most l k a).1 = a + m * 2 ^ (7 * k) ∧ (0 < k → m ≠ 0) ∧ k < (vnum most l k a).2.1 ∧ l.take ((vnum most l k a).2.1 - k) = vlay m
  | [], k, a, h => by cases h
  | c :: r, k, a, h => by
    unfold vnum at h ⊢
    by_cases h1 : k = 9 ∧ 1 < c.toNat
    · rw [if_pos h1] at h; cases h
    rw [if_neg h1] at h ⊢
    have hc := UInt8.toNat_lt c
    by_cases h2 : 128 ≤ c.toNat
    · rw [if_pos h2] at h ⊢
      obtain ⟨m, e, hm, hk, ht⟩ := vnum_conv most r (k + 1) _ h
      have hm := hm (by omega)
      refine ⟨c.toNat % 128 + 128 * m, ?_, fun _ => by omega, by omega, ?_⟩
      · rw [e, show 7 * (k + 1) = 7 * k + 7 by omega, Nat.pow_add, Nat.add_mul, Nat.add_assoc]
        congr 2
        rw [show (2 : Nat) ^ 7 = 128 by decide, Nat.mul_comm (2 ^ (7 * k)) 128, ← Nat.mul_assoc, Nat.mul_comm m 128]
      · rw [vlay_more (by omega), show (c.toNat % 128 + 128 * m) / 128 = m by omega, ← ht]
        obtain ⟨j, hj⟩ : ∃ j, (vnum most r (k + 1) (a + c.toNat % 128 * 2 ^ (7 * k))).2.1 = k + 1 + (j + 1) := ⟨(vnum most r (k + 1) (a + c.toNat % 128 * 2 ^ (7 * k))).2.1 - (k + 2), by omega⟩
        rw [hj, show k + 1 + (j + 1) - k = (j + 1) + 1 by omega, show k + 1 + (j + 1) - (k + 1) = j + 1 by omega, List.take_succ_cons]
        congr 1
        apply UInt8.toNat_inj.1
        rw [UInt8.toNat_ofNat']
        omega
    rw [if_neg h2] at h ⊢
    by_cases h3 : c.toNat = 0 ∧ 0 < k
    · rw [if_pos h3] at h; cases h
    rw [if_neg h3] at h ⊢
    by_cases h4 : most < a + c.toNat % 128 * 2 ^ (7 * k)
    · rw [if_pos h4] at h; cases h
    rw [if_neg h4] at h ⊢
    refine ⟨c.toNat, by rw [Nat.mod_eq_of_lt (by omega)], fun hk => by omega, by show k < k + 1; omega, ?_⟩
    show (c :: r).take (k + 1 - k) = _
    rw [show k + 1 - k = 0 + 1 by omega, List.take_succ_cons, vlay_small (by omega)]
    simp

theorem rnum_conv {most : Nat} {l : List UInt8} (h : (rnum most l 0).2.2 = 0) : l = vlay (rnum most l 0).1 ++ (rnum most l 0).2.1 := by
  have e : rnum most l 0 = ((vnum most l 0 0).1, l.drop (vnum most l 0 0).2.1, (vnum most l 0 0).2.2) := by
    unfold rnum; rw [if_neg (by simp)]
  rw [e] at h ⊢
  obtain ⟨m, e1, _, _, e2⟩ := vnum_conv most l 0 0 h
  show l = vlay (vnum most l 0 0).1 ++ l.drop (vnum most l 0 0).2.1
  rw [show (vnum most l 0 0).1 = m by rw [e1]; simp, ← e2, Nat.sub_zero, List.take_append_drop]
theorem unzig_range {n : Nat} (h : n < 18446744073709551616) : -9223372036854775808 ≤ unzig n ∧ unzig n ≤ 9223372036854775807 := by
  unfold unzig
  split <;> omega
theorem rnum_lt (most : Nat) (l : List UInt8) (f : Nat) : (rnum most l f).1 < 18446744073709551616 := by
  unfold rnum
  split
  · show (0 : Nat) < _; decide
  · rcases vnum_ends most l 0 0 (by omega) (by decide) with ⟨_, _, _, _, h⟩ | ⟨h, _⟩
    · exact h
    · show (vnum most l 0 0).1 < _
      rw [h]; decide
theorem rint_range (l : List UInt8) (f : Nat) : -9223372036854775808 ≤ (rint l f).1 ∧ (rint l f).1 ≤ 9223372036854775807 := unzig_range (rnum_lt _ _ _)
theorem rbyte_lt (most : Nat) (l : List UInt8) (f : Nat) : (rbyte most l f).1 < 256 := by
  unfold rbyte
  split
  · show (0 : Nat) < _; decide
  · cases l with
    | nil => show (0 : Nat) < _; decide
    | cons b r =>
      have hb := UInt8.toNat_lt b
      simp only
      split
      · show (0 : Nat) < _; decide
      · exact hb
theorem rtext_conv {most : Int} {l : List UInt8} (h : (rtext most l 0).2.2 = 0) : l = vlay (rtext most l 0).1.length ++ (rtext most l 0).1 ++ (rtext most l 0).2.1 := by
  unfold rtext at h ⊢
  rw [if_neg (by simp)] at h ⊢
  by_cases h1 : (vnum most.toNat l 0 0).2.2 ≠ 0
  · rw [if_pos h1] at h; exact absurd h h1
  rw [if_neg h1] at h ⊢
  by_cases h2 : l.length - (vnum most.toNat l 0 0).2.1 < (vnum most.toNat l 0 0).1
  · rw [if_pos h2] at h; cases h
  rw [if_neg h2]
  obtain ⟨m, e1, _, _, e2⟩ := vnum_conv most.toNat l 0 0 (by omega)
  obtain ⟨j, hj⟩ : ∃ j, j = (vnum most.toNat l 0 0).2.1 := ⟨_, rfl⟩
  obtain ⟨n, hn⟩ : ∃ n, n = (vnum most.toNat l 0 0).1 := ⟨_, rfl⟩
  rw [← hj, Nat.sub_zero] at e2
  rw [← hn] at e1
  rw [← hj, ← hn] at h2 ⊢
  have hm : m = n := by rw [e1]; simp
  subst hm
  show l = vlay ((l.drop j).take m).length ++ (l.drop j).take m ++ l.drop (j + m)
  rw [List.length_take, List.length_drop, Nat.min_eq_left (by omega), ← e2, List.append_assoc, ← List.drop_drop, List.take_append_drop, List.take_append_drop]
/-- what was wrong stays so -/
theorem rbyte_wrong {most f : Nat} {l : List UInt8} (h : f ≠ 0) : (rbyte most l f).2.2 = f := by unfold rbyte; rw [if_pos h]
theorem rnum_wrong {most f : Nat} {l : List UInt8} (h : f ≠ 0) : (rnum most l f).2.2 = f := by unfold rnum; rw [if_pos h]
theorem rtext_wrong {most : Int} {f : Nat} {l : List UInt8} (h : f ≠ 0) : (rtext most l f).2.2 = f := by unfold rtext; rw [if_pos h]
theorem rnum_back {most : Nat} {l : List UInt8} {f : Nat} (h : (rnum most l f).2.2 = 0) : f = 0 ∧ l = vlay (rnum most l f).1 ++ (rnum most l f).2.1 := by
  by_cases hf : f = 0
  · subst hf; exact ⟨rfl, rnum_conv h⟩
  · rw [rnum_wrong hf] at h; exact absurd h hf
theorem rtext_back {most : Int} {l : List UInt8} {f : Nat} (h : (rtext most l f).2.2 = 0) : f = 0 ∧ l = vlay (rtext most l f).1.length ++ (rtext most l f).1 ++ (rtext most l f).2.1 := by
  by_cases hf : f = 0
  · subst hf; exact ⟨rfl, rtext_conv h⟩
  · rw [rtext_wrong hf] at h; exact absurd h hf
end Go.Proofs.Ytnknboibmifacaa

namespace Go.Proofs.Ytnknboibmifacaa

theorem pow_step (k : Nat) : (2 : Nat) ^ (7 * (k + 1)) = 128 * 2 ^ (7 * k) := by rw [Nat.mul_add, Nat.pow_add]; omega
theorem byte_of (n : Nat) (h : n < 256) : (UInt8.ofNat n).toNat = n := by simp [UInt8.toNat_ofNat']; omega
theorem digit_sum (n k a : Nat) : a + n % 128 * 2 ^ (7 * k) + n / 128 * 2 ^ (7 * (k + 1)) = a + n * 2 ^ (7 * k) := by
  rw [pow_step]
  have h : n = 128 * (n / 128) + n % 128 := by omega
  have h2 : n * 2 ^ (7 * k) = (128 * (n / 128) + n % 128) * 2 ^ (7 * k) := by rw [← h]
  rw [h2, Nat.add_mul, Nat.mul_comm 128 (n / 128), Nat.mul_assoc]
  omega
theorem small_k {n k a : Nat} (hs : a + n * 2 ^ (7 * k) < 18446744073709551616) (hk : k ≤ 9) (hn : 2 ≤ n) : k < 9 := by
  rcases Nat.lt_or_ge k 9 with h | h
  · exact h
  · have : k = 9 := by omega
    subst this
    have : 2 * 2 ^ (7 * 9) ≤ n * 2 ^ (7 * 9) := Nat.mul_le_mul_right _ hn
    omega

theorem vnum_lay (most : Nat) (n : Nat) : ∀ (k a : Nat) (r : List UInt8), (0 < k → 0 < n) → a + n * 2 ^ (7 * k) ≤ most → a + n * 2 ^ (7 * k) < 18446744073709551616 → k ≤ 9 →
    vnum most (vlay n ++ r) k a = (a + n * 2 ^ (7 * k), k + (vlay n).length, 0) := by
  induction n using Nat.strongRecOn with
  | _ n ih =>
    intro k a r h0 hm hs hk
    by_cases hn : n < 128
    · rw [vlay_small hn]
      simp only [List.cons_append, List.nil_append, List.length_cons, List.length_nil]
      unfold vnum
      rw [byte_of n (by omega), if_neg, if_neg (by omega), if_neg (by omega), Nat.mod_eq_of_lt hn, if_neg (by omega)]
      rintro ⟨rfl, h1⟩
      have := small_k hs hk h1
      omega
    · have hk9 := small_k hs hk (show 2 ≤ n by omega)
      rw [vlay_more (by omega)]
      simp only [List.cons_append, List.length_cons]
      unfold vnum
      rw [byte_of _ (by omega), if_neg (by omega), if_pos (by omega), show (n % 128 + 128) % 128 = n % 128 by omega]
      rw [ih (n / 128) (by omega) (k + 1) _ r (fun _ => by omega) (by rw [digit_sum]; exact hm) (by rw [digit_sum]; exact hs) (by omega), digit_sum]
      congr 2
      omega

theorem vnum_lay0 (most n : Nat) (r : List UInt8) (hm : n ≤ most) (hs : n < 18446744073709551616) : vnum most (vlay n ++ r) 0 0 = (n, (vlay n).length, 0) := by
  have := vnum_lay most n 0 0 r (by omega) (by simpa using hm) (by simpa using hs) (by omega)
  simpa using this
/-! ## whole -/
theorem rbyte_lay (most : Nat) (b : UInt8) (r : List UInt8) (h : b.toNat ≤ most) : rbyte most (b :: r) 0 = (b.toNat, r, 0) := by
  simp only [rbyte]
  rw [if_neg (by simp), if_neg (by omega)]
theorem rnum_lay (most n : Nat) (r : List UInt8) (hm : n ≤ most) (hs : n < 18446744073709551616) : rnum most (vlay n ++ r) 0 = (n, r, 0) := by
  unfold rnum
  rw [if_neg (by simp), vnum_lay0 most n r hm hs]
  simp
theorem rtext_lay (most : Int) (t r : List UInt8) (hm : (t.length : Int) ≤ most) (hs : t.length < 18446744073709551616) : rtext most (vlay t.length ++ t ++ r) 0 = (t, r, 0) := by
  unfold rtext
  rw [if_neg (by simp), List.append_assoc, vnum_lay0 most.toNat t.length (t ++ r) (by omega) hs]
  simp only [List.length_append, List.drop_append_of_le_length (Nat.le_refl _), List.drop_length, List.nil_append]
  rw [if_neg (by simp), if_neg (by omega)]
  simp [List.drop_append, Nat.add_sub_cancel_left]

/-! ## cut off -/
/-! ## a fault stays -/
theorem rbyte_stuck {most f : Nat} {l : List UInt8} (h : f ≠ 0) : rbyte most l f = (0, l, f) := by simp [rbyte, h]
theorem rnum_stuck {most f : Nat} {l : List UInt8} (h : f ≠ 0) : rnum most l f = (0, l, f) := by simp [rnum, h]
/-! ## a beginning of D, cut off, or a fault that says so -/
def CutInv (D l : List UInt8) (f : Nat) : Prop := f = 10 ∨ (f = 0 ∧ ∃ m, m < D.length ∧ l = D.take m)
theorem CutInv.parts {B R l : List UInt8} {f : Nat} (h : CutInv (B ++ R) l f) : f = 10 ∨ (f = 0 ∧ ∃ m, m < B.length ∧ l = B.take m) ∨ (f = 0 ∧ ∃ m, m < R.length ∧ l = B ++ R.take m) := by
  rcases h with h | ⟨h, m, hm, rfl⟩
  · exact .inl h
  · rw [List.length_append] at hm
    by_cases hb : m < B.length
    · exact .inr (.inl ⟨h, m, hb, List.take_append_of_le_length (by omega)⟩)
    · obtain ⟨j, rfl⟩ : ∃ j, m = B.length + j := ⟨m - B.length, by omega⟩
      exact .inr (.inr ⟨h, j, by omega, List.take_length_add_append ..⟩)
end Go.Proofs.Ytnknboibmifacaa
