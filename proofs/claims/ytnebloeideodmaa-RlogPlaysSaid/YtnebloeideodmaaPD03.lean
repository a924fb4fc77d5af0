/-
  Vec · Slc · ParS
-/
import Derived.Test.YtnebloeideodmaaPD02
import Derived.Lib.Overlaps
import Derived.Lib.AppendZerosOnto
import Derived.Maps.AppendAt
import Derived.Lib.SliceRun
set_option linter.unusedSimpArgs false
set_option linter.unusedVariables false
namespace Go.Proofs.Ytnebloeideodmaa.Sep
open Go.RowKit
open Go.Proofs.Ytnebloeideodmaa.Mem (AM BA Chg)
structure SliceT (P : Program) (t e : TypeId) (k : Nat) : Prop where
  ht : P.underlying t = some (.slice e)
  inf : ∃ i z, P.info? e = some i ∧ i.zero = some z ∧ i.size = k ∧ i.bytes ≤ 4096 ∧ z.cells.size = k ∧ ∀ u ∈ z.cells.toList, u.oneCell' = true
  pos : 0 < k
structure EncOf {α : Type} (k : Nat) (enc : α → List Value) : Prop where
  len : ∀ x, (enc x).length = k
  one : ∀ x, ∀ v ∈ enc x, v.oneCell' = true
def A6 {α : Type} (enc : α → List Value) (l : List α) : List Value := l.flatMap enc
section flats
variable {α : Type} {k : Nat} {enc : α → List Value}
theorem DD (x : α) (l : List α) : A6 enc (x :: l) = enc x ++ A6 enc l := rfl
theorem G6 (l m : List α) : A6 enc (l ++ m) = A6 enc l ++ A6 enc m := by simp [A6]
theorem B1 (h : EncOf k enc) : ∀ l : List α, (A6 enc l).length = l.length * k
  | [] => by simp [A6]
  | x :: l => by rw [DD, List.length_append, h.len, B1 h l, List.length_cons, Nat.add_mul]; omega
theorem IP (h : EncOf k enc) (l : List α) : ∀ v ∈ A6 enc l, v.oneCell' = true := fun v hv => by
 obtain ⟨x, _, hx⟩ := List.mem_flatMap.1 hv
 exact h.one x v hx
theorem Gr (h : EncOf k enc) : ∀ (l : List α) (i : Nat), (A6 enc l).take (i * k) = A6 enc (l.take i)
  | [], i => by simp [A6]
  | x :: l, 0 => by simp [A6]
  | x :: l, i + 1 => by
    rw [DD, List.take_succ_cons, DD, Nat.add_mul, Nat.one_mul, Nat.add_comm, List.take_append, h.len, Nat.add_sub_cancel_left, Gr h l i, List.take_of_length_le (by rw [h.len]; omega)]
theorem EW (h : EncOf k enc) : ∀ (l : List α) (i : Nat), (A6 enc l).drop (i * k) = A6 enc (l.drop i)
  | [], i => by simp [A6]
  | x :: l, 0 => by simp [A6]
  | x :: l, i + 1 => by
    rw [DD, List.drop_succ_cons, Nat.add_mul, Nat.one_mul, Nat.add_comm, List.drop_append, h.len, Nat.add_sub_cancel_left, EW h l i, List.drop_of_length_le (by rw [h.len]; omega), List.nil_append]
theorem KJ (h : EncOf k enc) {l : List α} {i : Nat} {x : α} (hi : l[i]? = some x) : ((A6 enc l).drop (i * k)).take k = enc x := by
 rw [EW h, List.drop_eq_getElem_cons (List.getElem?_eq_some_iff.1 hi).1, (List.getElem?_eq_some_iff.1 hi).2, DD, List.take_append_of_le_length (by rw [h.len]; exact Nat.le_refl _), List.take_of_length_le (by rw [h.len]; exact Nat.le_refl _)]
theorem IQ (h : EncOf k enc) {l : List α} {i : Nat} (hi : i < l.length) (x : α) : (A6 enc l).take (i * k) ++ enc x ++ (A6 enc l).drop (i * k + k) = A6 enc (l.set i x) := by
 rw [Gr h, show i * k + k = (i + 1) * k by rw [Nat.add_mul]; omega, EW h, List.set_eq_take_append_cons_drop, if_pos hi, G6, DD, List.append_assoc]
theorem LQ (h : EncOf k enc) {l : List α} {i : Nat} {x : α} (hi : l[i]? = some x) {j : Nat} (hj : j < k) : (A6 enc l)[i * k + j]? = (enc x)[j]? := by
 rw [← KJ h hi, List.getElem?_take, if_pos hj, List.getElem?_drop]
end flats
def As (e : TypeId) (k : Nat) {α : Type} (enc : α → List Value) (v : Value) (l : List α) : Ass := fun rs =>
  (v = .slice none 0 0 ∧ l = [] ∧ rs = []) ∨
  ∃ g c cs, v = .slice (some ⟨g, 0, none⟩) l.length c ∧ l.length ≤ c ∧ c ≤ maxLen ∧ cs.size = c * k ∧ cs.toList.take (l.length * k) = A6 enc l ∧ rs = [(g, EC e, cs)]
def Cg (w : World) (k : Nat) (u : Value) (m : Nat) (ys : List Value) : Prop := ys.length = m * k ∧ ∃ A c, u = .slice A m c ∧ ((A = none ∧ m = 0) ∨ ∃ a, A = some a ∧ ∀ j x, ys[j]? = some x → w.cell? (a.add j) = some x)
def AW : Value → Nat → Value
  | .slice (some ⟨g, off, _⟩) _ _, i => .pointer (some ⟨g, off + i, none⟩)
  | _, _ => undef
def DS (k : Nat) : Value → Nat → Nat → Value
  | .slice A _ c, i, j => .slice (if c = i then A else A.map (·.add (i * k))) (j - i) (c - i)
  | _, _, _ => undef
theorem M6 (e : TypeId) (k : Nat) {α : Type} (enc : α → List Value) : As e k enc (.slice none 0 0) [] [] := .inl ⟨rfl, rfl, rfl⟩
section vecs
variable {P : Program} {t e ty : TypeId} {k : Nat} {α : Type} {enc : α → List Value} {v u : Value} {l m : List α} {w w' : World} {rs : List RowT}
theorem As.is (h : As e k enc v l rs) : ∃ A c, v = .slice A l.length c := by
  rcases h with ⟨h1, h2, _⟩ | ⟨g, c, cs, h1, _⟩
  · exact ⟨none, 0, by rw [h1, h2]; rfl⟩
  · exact ⟨_, c, h1⟩
theorem As.c1 (h : As e k enc v l rs) : v.cells = #[v] ∧ v.oneCell' = true := by
 obtain ⟨A, c, rfl⟩ := h.is
 exact ⟨rfl, rfl⟩
theorem As.take_ (he : EncOf k enc) {cs : Array Value} (h : cs.toList.take (l.length * k) = A6 enc l) {j : Nat} {x : Value} (hj : (A6 enc l)[j]? = some x) : cs[j]? = some x := by
  rw [← h] at hj
  rw [List.getElem?_take] at hj
  split at hj
  · simpa using hj
  · cases hj
theorem As.part (he : EncOf k enc) (h : As e k enc v l rs) (hr : RowsOf w rs) {i j : Nat} (hij : i ≤ j) (hj : j ≤ l.length) : Cg w k (DS k v i j) (j - i) (A6 enc ((l.take j).drop i)) := by
  refine ⟨by rw [B1 he, List.length_drop, List.length_take]; congr 1; omega, ?_⟩
  rcases h with ⟨h1, h2, h3⟩ | ⟨g, c, cs, h1, h2, h3, h4, h5, h6⟩
  · subst h1; subst h2
    have : j = 0 := by simpa using hj
    subst this
    have : i = 0 := by omega
    subst this
    exact ⟨none, 0, rfl, .inl ⟨rfl, rfl⟩⟩
  · subst h1; subst h6
    by_cases hc : c = i
    · subst hc
      have : j = c := by omega
      subst this
      refine ⟨some ⟨g, 0, none⟩, j - j, by simp [DS], .inr ⟨_, rfl, fun q x hx => ?_⟩⟩
      rw [List.drop_of_length_le (by rw [List.length_take]; omega)] at hx
      simp [A6] at hx
    · refine ⟨some ⟨g, i * k, none⟩, c - i, by simp only [DS, if_neg hc, Option.map_some, Addr.add_lit, Nat.zero_add], .inr ⟨_, rfl, fun q x hx => ?_⟩⟩
      rw [Addr.add_lit, hr.1.cell]
      refine As.take_ he h5 (l := l) ?_
      rw [← EW he, ← Gr he, List.getElem?_drop] at hx
      rw [List.getElem?_take] at hx
      split at hx
      · exact hx
      · cases hx
theorem As.all (he : EncOf k enc) (h : As e k enc v l rs) (hr : RowsOf w rs) : Cg w k v l.length (A6 enc l) := by
  refine ⟨B1 he l, ?_⟩
  rcases h with ⟨h1, h2, h3⟩ | ⟨g, c, cs, h1, h2, h3, h4, h5, h6⟩
  · subst h1; subst h2; exact ⟨none, 0, rfl, .inl ⟨rfl, rfl⟩⟩
  · subst h1; subst h6
    exact ⟨_, c, rfl, .inr ⟨_, rfl, fun q x hx => by rw [Addr.add_lit, Nat.zero_add, hr.1.cell]; exact As.take_ he h5 hx⟩⟩
theorem Cg.small (h : Cg w k u 0 []) : ∃ A c, u = .slice A 0 c := by obtain ⟨_, A, c, e, _⟩ := h; exact ⟨A, c, e⟩
end vecs
section walk
variable {P : Program} {ops : Array Oper} {Q : Exit → Act → World → Prop} {n d : Nat} {B : Nat → Prop} {w0 : World} {os : List Ass} {env : List (Nat × Value)} {rest : List Oper} {o : Oper}
variable {t e : TypeId} {k : Nat} {α : Type} {enc : α → List Value} {v u : Value} {l m : List α} {act : Act} {w : World}
theorem EI {a : Act} {w' : World} {bi : Builtin} {args : Array Operand} {ats : Array TypeId} {vs : List Value} {v : Value} (ho : o.op = .call { callee := .builtin bi, args := args, argTypes := ats }) (hx : evl env args.toList = some vs) (hr : ∀ cs, (builtin bi ats o.type cs vs.toArray).run P w = .ok (.value v) w') (hF : Fr n a env) : (execOp a.eval o).run P w = .ok (.value v) w' := by
 have h1 : args.map a.eval = vs.toArray := by
  have := hF.evl hx
  rw [← this]
  cases args; simp
 unfold execOp
 simp only [ho, resolve, invoke, Sem.run_bind, Sem.run_pure, Result.andThen_ok, h1]
 exact hr _
theorem DT (i j : Nat) {T : TypeId} {x y : Operand} {g off : Nat} {t : TypeId} {cs : Array Value} {v : Value} {th : Ass} (c : Array Value) (hs : ∀ w, (sizeOf T).run P w = .ok 1 w) (hj : os[j]? = some th) (ht : ∀ rs, th rs → v.cells = #[v] ∧ v.oneCell' = true) (hl : Nat.ble (off + 1) cs.size = true) (hc : (over? cs.toList off [v]).toArray = c) (hd : o.dst = none) (ho : o.op = .store T x y)
  (hx : evs env x = some (.pointer (some ⟨g, off, none⟩))) (hy : evs env y = some v) (hi : os[i]? = some (cell g t cs)) : AZ P Q n env B w0 os o (fun _ : Unit => undef) (fun _ => os.set i (cell g t c)) := fun a w hH hF K hK => by
 obtain ⟨hv, h1⟩ := DR j hj ht hH
 refine AP i c hs (k := 1) (by rw [hv]; rfl) hl ?_ (by rw [hv]; exact hc) hd ho hx hy hi a w hH hF K hK
 rw [hv]
 show GK [v] = true
 cases v <;> simp_all [GK, Value.oneCell']
theorem Hp.vec {w : World} (h : Hp B w0 w os) (i : Nat) (hi : os[i]? = some (As e k enc v l)) (he : EncOf k enc) : Cg w k v l.length (A6 enc l) := by
 obtain ⟨rs, h1, h2⟩ := h.thing i hi
 exact h1.all he h2
theorem HD (i : Nat) (hu : P.underlying t = some (.slice e)) (hi : os[i]? = some (As e k enc v l)) {x : Operand} (ho : o.op = .call { callee := .builtin .len, args := #[x], argTypes := #[t] }) (hx : evs env x = some v) (hH : Hp B w0 w os) (hF : Fr n act env) : (execOp act.eval o).run P w = .ok (.value (.int .i64 (l.length : Int))) w := by
 obtain ⟨rs, hv, _⟩ := hH.thing i hi
 obtain ⟨A, c, rfl⟩ := hv.is
 exact EI ho (vs := [.slice A l.length c]) (by simp [evl, hx]) (fun cs => EP hu A _ c _ w cs) hF
theorem C4 (i : Nat) (hT : SliceT P t e k) (he : EncOf k enc) (hi : os[i]? = some (As e k enc v l)) (j : Nat) (hj : j < l.length) {x y : Operand} {kk : IntKind} (ho : o.op = .indexAddr t x y) (hx : evs env x = some v) (hy : evs env y = some (.int kk (j : Int))) (hH : Hp B w0 w os) (hF : Fr n act env) : (execOp act.eval o).run P w = .ok (.value (AW v (j * k))) w := by
    obtain ⟨rs, hv, _⟩ := hH.thing i hi
    obtain ⟨inf, z, hinf, _, hk, _⟩ := hT.inf
    rcases hv with ⟨_, h2, _⟩ | ⟨g, c, cs, h2, _⟩
    · subst h2; exact absurd hj (Nat.not_lt_zero _)
    · subst h2
      have hs : (sizeOf e).run P w = .ok k w := by simp [sizeOf, typeInfo, hinf, hk]
      have hlt : (0 : Int) ≤ (j : Int) ∧ (j : Int) < (l.length : Int) := by omega
      unfold execOp
      simp only [ho, hF.evs hx, hF.evs hy, Instr.indexAt, asIntOf, Sem.run_bind, Sem.run_pure, Result.andThen_ok, run_underlying hT.ht w]
      simp [hlt, hs, AW, Addr.add_lit]
theorem Pm (i : Nat) (hO : Fo P e) (he : EncOf 1 enc) (hi : os[i]? = some (As e 1 enc v l)) (j : Nat) (hj : j < l.length) (a : α) {c : Value} (hc : enc a = [c]) (hd : o.dst = none) {x y : Operand} (ho : o.op = .store e x y) (hx : evs env x = some (AW v (j * 1))) (hy : evs env y = some c) : AZ P Q n env B w0 os o (fun _ : Unit => undef) (fun _ => os.set i (As e 1 enc v (l.set j a))) := fun act w hH hF K hK => by
  obtain ⟨rs, hv, hr⟩ := hH.thing i hi
  have h1c : c.oneCell' = true := he.one a c (by rw [hc]; simp)
  have hcc : c.cells = #[c] := by cases c <;> simp_all [Value.oneCell', Value.cells]
  rcases hv with ⟨_, h2, _⟩ | ⟨g, cap, cs, h2, hle, hmx, hsz, h5, h6⟩
  · subst h2; exact absurd hj (Nat.not_lt_zero _)
  · subst h6
    have hlt : j < cs.size := by rw [hsz]; omega
    subst h2
    obtain ⟨w', hrs, hR', hM⟩ := B7 (P := P) g e c.cells.toList 0 cs w j hr.1 (by rw [hcc]; simp; omega) (fun u hu => by rw [hcc] at hu; simp at hu; subst hu; exact h1c)
    have hx' : evs env x = some (.pointer (some ⟨g, j, none⟩)) := by rw [hx]; simp [AW]
    have hR : CF w' g e (over? cs.toList j c.cells.toList).toArray := by simpa [over?] using hR'
    have hsz1 : c.cells.size = 1 := by rw [hcc]; rfl
    have hrun : (execOp act.eval o).run P w = .ok .skip w' := by
      unfold execOp
      simp [ho, hF.evs hx', hF.evs hy, Instr.storeAt, Instr.sureAddr, storeVar, hO.2, hsz1, hrs]
    unfold Oper.wp
    rw [hrun, Oper.upon_skip]
    refine (fun hp => (by have := hK () w' hp; rw [hd] at this ⊢; exact this)) (hH.turn i hi fun x hx _ _ => ?_)
    have hxe : x = [(g, EC e, cs)] ∨ True := .inr trivial
    rcases hx with ⟨h0, _, _⟩ | ⟨g', cap', cs', h0, _, _, hsz', h5', h6'⟩
    · simp at h0
    · simp at h0
      obtain ⟨rfl, rfl⟩ := h0
      subst h6'
      have hrow : cs' = cs := by
        have hr0 : RowsOf w [(g, EC e, cs')] := ‹_›
        have e1 : w.heap[g]? = some (.cells cs' e (0, 0)) := hr0.1
        have e2 : w.heap[g]? = some (.cells cs e (0, 0)) := hr.1
        rw [e1] at e2
        simpa using e2
      subst hrow
      refine ⟨[(g, EC e, (over? cs'.toList j c.cells.toList).toArray)], .inr ⟨g, cap, _, by simp, by simpa using hle, hmx, ?_, ?_, rfl⟩, ⟨hM.weaken fun q _ e' => ⟨(g, EC e, cs'), by simp, e'.symm⟩, ⟨hR, trivial⟩, ⟨(fun _ h => by cases h), trivial⟩, fun x hx _ => ?_⟩⟩
      · rw [hcc]; simp [over?]; omega
      · have e1 : A6 enc (l.set j a) = (A6 enc l).set j c := by
          rw [← IQ he hj a, Nat.mul_one, hc, List.set_eq_take_append_cons_drop, if_pos (by rw [B1 he]; omega), List.append_assoc]
          rfl
        have e2 : over? cs'.toList j c.cells.toList = cs'.toList.set j c := by
          rw [List.set_eq_take_append_cons_drop, if_pos (by simpa using hlt), hcc]
          simp [over?]
        rw [List.length_set, e1, ← h5, e2, List.toList_toArray, List.take_set]
      · have : x = (g, EC e, (over? cs'.toList j c.cells.toList).toArray) := by simpa using hx
        subst this
        exact ⟨(g, EC e, cs'), by simp, rfl⟩
end walk
end Go.Proofs.Ytnebloeideodmaa.Sep
namespace Go.Proofs.Ytnebloeideodmaa.Sep
open Go.RowKit
open Go.Proofs.Ytnebloeideodmaa.Mem (AM BA Chg)
section slc
variable {P : Program} {ops : Array Oper} {Q : Exit → Act → World → Prop} {n d : Nat} {B : Nat → Prop} {w0 : World} {os : List Ass} {env : List (Nat × Value)} {rest : List Oper} {o : Oper}
variable {t t' e : TypeId} {k : Nat} {α : Type} {enc : α → List Value} {v u : Value} {l m : List α} {act : Act} {w : World}
theorem SliceT.sizeOf (hT : SliceT P t e k) (w : World) : (Go.sizeOf e).run P w = .ok k w := by
 obtain ⟨i, z, hi, _, hk, _⟩ := hT.inf
 simp [Go.sizeOf, typeInfo, hi, hk]
theorem S9 (hT : SliceT P t e k) {A : Option Addr} {sn c i j : Nat} {ki kj : IntKind} (hij : i ≤ j) (hj : j ≤ c) (w : World) :
  (Instr.sliceAt t (.slice A sn c) (some (.int ki (i : Int))) (some (.int kj (j : Int))) none).run P w = .ok (DS k (.slice A sn c) i j) w := by
 have h1 : (0 : Int) ≤ (i : Int) ∧ (i : Int) ≤ (j : Int) := by omega
 have h2 : (0 : Int) ≤ (j : Int) ∧ (j : Int) ≤ (c : Int) := by omega
 simp [Instr.sliceAt, Instr.slice, Instr.sliceBounds, Instr.sliceBound, run_underlying hT.ht, asIntOf, hij, hj, hT.sizeOf, DS]
theorem M7 (hT : SliceT P t e k) {A : Option Addr} {sn c i : Nat} {ki : IntKind} (hij : i ≤ sn) (w : World) :
  (Instr.sliceAt t (.slice A sn c) (some (.int ki (i : Int))) none none).run P w = .ok (DS k (.slice A sn c) i sn) w := by
 have h1 : (0 : Int) ≤ (i : Int) ∧ (i : Int) ≤ (sn : Int) := by omega
 simp [Instr.sliceAt, Instr.slice, Instr.sliceBounds, Instr.sliceBound, run_underlying hT.ht, asIntOf, hij, hT.sizeOf, DS]
theorem M8 (hT : SliceT P t e k) {A : Option Addr} {sn c j : Nat} {kj : IntKind} (hj : j ≤ c) (w : World) :
  (Instr.sliceAt t (.slice A sn c) none (some (.int kj (j : Int))) none).run P w = .ok (DS k (.slice A sn c) 0 j) w := by
 have h2 : (0 : Int) ≤ (j : Int) ∧ (j : Int) ≤ (c : Int) := by omega
 simp [Instr.sliceAt, Instr.slice, Instr.sliceBounds, Instr.sliceBound, run_underlying hT.ht, asIntOf, hj, hT.sizeOf, DS]
theorem Wf {x y z : Operand} {A : Option Addr} {sn c i j : Nat} {ki kj : IntKind} {r : Value} (hT : SliceT P t e k) (hr : DS k (.slice A sn c) i j = r) (hij : i ≤ j) (hj : j ≤ c) (ho : o.op = .slice t x (some y) (some z) none) (hx : evs env x = some (.slice A sn c)) (hy : evs env y = some (.int ki (i : Int))) (hz : evs env z = some (.int kj (j : Int))) (hH : Hp B w0 w os) (hF : Fr n act env) : (execOp act.eval o).run P w = .ok (.value (r)) w := by
 unfold execOp
 simp only [ho, Option.map_some, Option.map_none, hF.evs hx, hF.evs hy, hF.evs hz, Sem.run_bind, S9 hT hij hj, Result.andThen_ok, Sem.run_pure, hr]
theorem FM {x y : Operand} {A : Option Addr} {sn c i : Nat} {ki : IntKind} {r : Value} (hT : SliceT P t e k) (hr : DS k (.slice A sn c) i sn = r) (hij : i ≤ sn) (ho : o.op = .slice t x (some y) none none) (hx : evs env x = some (.slice A sn c)) (hy : evs env y = some (.int ki (i : Int))) (hH : Hp B w0 w os) (hF : Fr n act env) : (execOp act.eval o).run P w = .ok (.value (r)) w := by
 unfold execOp
 simp only [ho, Option.map_some, Option.map_none, hF.evs hx, hF.evs hy, Sem.run_bind, M7 hT hij, Result.andThen_ok, Sem.run_pure, hr]
theorem FN {x z : Operand} {A : Option Addr} {sn c j : Nat} {kj : IntKind} {r : Value} (hT : SliceT P t e k) (hr : DS k (.slice A sn c) 0 j = r) (hj : j ≤ c) (ho : o.op = .slice t x none (some z) none) (hx : evs env x = some (.slice A sn c)) (hz : evs env z = some (.int kj (j : Int))) (hH : Hp B w0 w os) (hF : Fr n act env) : (execOp act.eval o).run P w = .ok (.value (r)) w := by
 unfold execOp
 simp only [ho, Option.map_some, Option.map_none, hF.evs hx, hF.evs hz, Sem.run_bind, M8 hT hj, Result.andThen_ok, Sem.run_pure, hr]
theorem Wg {x : Operand} {A : Option Addr} {sn c : Nat} (hT : SliceT P t e k) (ho : o.op = .call { callee := .builtin .cap, args := #[x], argTypes := #[t] }) (hx : evs env x = some (.slice A sn c)) (hH : Hp B w0 w os) (hF : Fr n act env) : (execOp act.eval o).run P w = .ok (.value (.int .i64 (c : Int))) w := EI ho (vs := [.slice A sn c]) (by simp [evl, hx]) (fun cs => by simp [builtin, Builtin.cap_, run_underlying hT.ht, goInt]) hF
theorem D8 {x : Operand} {A : Option Addr} {sn c : Nat} (hT : SliceT P t e k) (ho : o.op = .call { callee := .builtin .len, args := #[x], argTypes := #[t] }) (hx : evs env x = some (.slice A sn c)) (hH : Hp B w0 w os) (hF : Fr n act env) : (execOp act.eval o).run P w = .ok (.value (.int .i64 (sn : Int))) w := EI ho (vs := [.slice A sn c]) (by simp [evl, hx]) (fun cs => EP hT.ht A sn c _ w cs) hF
theorem IR {β : Type} (f : Nat → β) : (Array.map f (Array.range 0)) = #[] := Array.eq_empty_of_size_eq_zero (by simp)
theorem M9 (hT : SliceT P t e 1) {x : Value} (hx : x.cells = #[x]) (w : World) : (Instr.buildSlice t 1 #[(0, x)]).run P w = .ok (.slice (some ⟨w.heap.size, 0, none⟩) 1 1) (w.alloc (.cells #[x] e)) := by
 obtain ⟨inf, z, hinf, hz, hk, _, hzs, _⟩ := hT.inf
 simp [Instr.buildSlice, run_underlying hT.ht, hT.sizeOf, zeroValue, typeInfo, hinf, hz, Instr.fill, hx, newRow, Array.range_succ, IR]
theorem Na (hT : SliceT P t e k) (w : World) : (Instr.buildSlice t 0 #[]).run P w = .ok (.slice (some ⟨w.heap.size, 0, none⟩) 0 0) (w.alloc (.cells #[] e)) := by
 simp [Instr.buildSlice, run_underlying hT.ht, hT.sizeOf, Instr.fill, newRow, IR]
theorem Rp (hT : SliceT P t e 1) (he : EncOf 1 enc) {x : Operand} {c : Value} (a : α) (hc : enc a = [c]) (ho : o.op = .buildSlice t 1 #[(0, x)]) (hx : evs env x = some c) : AZ P Q n env B w0 os o (fun v : Value => v) (fun v => As e 1 enc v [a] :: os) := fun b w hH hF K hK => by
 have h1c : c.oneCell' = true := he.one a c (by rw [hc]; simp)
 have hcc : c.cells = #[c] := by cases c <;> simp_all [Value.oneCell', Value.cells]
 have hrun : (execOp b.eval o).run P w = .ok (.value (.slice (some ⟨w.heap.size, 0, none⟩) 1 1)) (w.alloc (.cells #[c] e)) := by
  unfold execOp
  simp [ho, hF.evs hx, Sem.run_bind, M9 hT hcc]
 refine HV (w0 := w) b hrun (hK _ _ ?_)
 have := hH.new e #[c]
 obtain ⟨rs, ⟨r1, r2, e1, h1, h2⟩, h3⟩ := this
 unfold cell at h1
 exact ⟨rs, ⟨r1, r2, e1, .inr ⟨w.heap.size, 1, #[c], rfl, Nat.le_refl _, by unfold maxLen; omega, rfl, by simp [A6, hc], h1⟩, h2⟩, h3⟩
theorem Rq (hT : SliceT P t e k) (ho : o.op = .buildSlice t 0 #[]) : AZ P Q n env B w0 os o (fun v : Value => v) (fun v => As e k enc v [] :: os) := fun b w hH hF K hK => by
 have hrun : (execOp b.eval o).run P w = .ok (.value (.slice (some ⟨w.heap.size, 0, none⟩) 0 0)) (w.alloc (.cells #[] e)) := by
  unfold execOp
  simp [ho, Sem.run_bind, Na hT]
 refine HV (w0 := w) b hrun (hK _ _ ?_)
 have := hH.new e #[]
 obtain ⟨rs, ⟨r1, r2, e1, h1, h2⟩, h3⟩ := this
 unfold cell at h1
 exact ⟨rs, ⟨r1, r2, e1, .inr ⟨w.heap.size, 0, #[], rfl, Nat.le_refl _, by unfold maxLen; omega, by simp, by simp [A6], h1⟩, h2⟩, h3⟩
theorem Pn {os : List Ass} (e : TypeId) (k : Nat) {α : Type} (enc : α → List Value) : ∀ rs, Am os rs → ∃ _ : Unit, ∃ rs', rs.Perm rs' ∧ Am (As e k enc (.slice none 0 0) [] :: os) rs' := fun rs h => ⟨(), rs, .refl _, [], rs, rfl, M6 e k enc, h⟩
theorem G7 (e : TypeId) (k : Nat) {α : Type} (enc : α → List Value) {c : Code} (h : AY P Q n env B w0 (As e k enc (.slice none 0 0) [] :: os) c) : AY P Q n env B w0 os c := AY.via (fun _ : Unit => _) (Pn e k enc) fun _ => h
theorem UD {F : FuncId} {caps : Array Operand} {vs : List Value} (ho : o.op = .makeFunc (.func F) #[] caps) (hx : evl env caps.toList = some vs) (hF : Fr n act env) : (execOp act.eval o).run P w = .ok (.value (.func (.func F) #[] vs.toArray)) w := by
 have h1 : caps.map act.eval = vs.toArray := by
  have := hF.evl hx
  rw [← this]
  cases caps; simp
 unfold execOp
 simp [ho, Instr.makeFunc, h1]
theorem Nb {F : FuncId} (hE : Qm P F) {f : Operand} {args : Array Operand} {ats : Array TypeId} {vs caps : List Value} (ho : o.op = .call { callee := .value f, args := args, argTypes := ats })
  (hf : evs env f = some (.func (.func F) #[] caps.toArray)) (hx : evl env args.toList = some vs) (hF : Fr n act env) : (execOp act.eval o).run P w = .ok (.enter F (vs ++ caps).toArray) w := by
 have h1 : args.map act.eval = vs.toArray := by
  have := hF.evl hx
  rw [← this]
  cases args; simp
 unfold execOp
 have h2 := hE (vs ++ caps).toArray w
 simp [ho, resolve, h1, hF.evs hf, Deferred.ofValue, invoke]
 simpa using h2
end slc
end Go.Proofs.Ytnebloeideodmaa.Sep
namespace Go.Proofs.Ytnebloeideodmaa.Sep
open Go.RowKit
open Go.Proofs.Ytnebloeideodmaa.Mem (AM BA Chg)
inductive KindS
  | quiet
  | skip
  | act (q : Nat)
  | actv (q : Nat)
structure JobS where
  kind : KindS
  pat : List (Option Bool)
  f : List (Option Value) → Value
  deps : List Nat
def JobS.actOf (j : JobS) : Option Nat := match j.kind with | .act q => some q | .actv q => some q | _ => none
def Wh : List (Option Value) → Nat → Value
  | [], _ => undef
  | r :: _, 0 => match r with | some v => v | none => undef
  | _ :: ρ, q + 1 => Wh ρ q
def Cd : List (Option Bool) → Nat → Option Bool
  | [], _ => none
  | p :: _, 0 => p
  | _ :: ps, q + 1 => Cd ps q
def FO : List (Option Value) → Nat → Value → List (Option Value)
  | [], _, _ => []
  | _ :: ρ, 0, v => some v :: ρ
  | r :: ρ, q + 1, v => r :: FO ρ q v
def G8 : List (Option Bool) → List (Option Value) → List (Option Value)
  | p :: ps, r :: ρ => (match p with | some true => r | _ => none) :: G8 ps ρ
  | _, _ => []
def JobS.val (j : JobS) (ρ : List (Option Value)) : Value := match j.kind with | .act q => Wh ρ q | _ => j.f (G8 j.pat ρ)
def FP : List (Option Bool) → (List (Option Value) → Prop) → Prop
  | [], C => C []
  | some true :: ps, C => ∀ v, FP ps fun ρ => C (some v :: ρ)
  | some false :: ps, C => FP ps fun ρ => C (none :: ρ)
  | none :: ps, C => ∀ r, FP ps fun ρ => C (r :: ρ)
def IS : List (Option Bool) → List (Option Value) → Prop
  | [], [] => True
  | p :: ps, r :: ρ => (match p with | some true => ∃ v, r = some v | some false => r = none | none => True) ∧ IS ps ρ
  | _, _ => False
theorem FP.fit : ∀ {p : List (Option Bool)} {C : List (Option Value) → Prop} {ρ : List (Option Value)}, FP p C → IS p ρ → C ρ
  | [], _, [], h, _ => h
  | some true :: ps, C, r :: ρ, h, ⟨⟨v, hv⟩, hf⟩ => by subst hv; exact FP.fit (p := ps) (C := fun ρ => C (some v :: ρ)) (h v) hf
  | some false :: ps, C, r :: ρ, h, ⟨hv, hf⟩ => by
    have hv' : r = none := hv
    subst hv'
    exact FP.fit (p := ps) (C := fun ρ => C (none :: ρ)) h hf
  | none :: ps, C, r :: ρ, h, ⟨_, hf⟩ => FP.fit (p := ps) (C := fun ρ => C (r :: ρ)) (h r) hf
  | [], _, _ :: _, _, hf => hf.elim
  | _ :: _, _, [], _, hf => hf.elim
theorem G9 : ∀ {p : List (Option Bool)} {ρ : List (Option Value)}, ρ.length = p.length → (∀ q, Cd p q = some true → ∃ v, ρ[q]? = some (some v)) → (∀ q, Cd p q = some false → ρ[q]? = some none) → IS p ρ
  | [], [], _, _, _ => trivial
  | p :: ps, r :: ρ, hl, h1, h2 => by
    refine ⟨?_, G9 (by simpa using hl) (fun q hq => by simpa using h1 (q + 1) hq) (fun q hq => by simpa using h2 (q + 1) hq)⟩
    cases p with
    | none => trivial
    | some b =>
      cases b with
      | true => obtain ⟨v, hv⟩ := h1 0 rfl; exact ⟨v, by simpa using hv⟩
      | false => have := h2 0 rfl; simpa using this
  | [], _ :: _, hl, _, _ => by simp at hl
  | _ :: _, [], hl, _, _ => by simp at hl
theorem FQ : ∀ (ρ : List (Option Value)) (q : Nat) (v : Value), (FO ρ q v).length = ρ.length
  | [], _, _ => rfl
  | _ :: _, 0, _ => rfl
  | _ :: ρ, q + 1, v => by simp [FO, FQ ρ q v]
theorem Dk : ∀ (ρ : List (Option Value)) (q : Nat) (v : Value) (k : Nat), (FO ρ q v)[k]? = if k = q then (if q < ρ.length then some (some v) else none) else ρ[k]?
  | [], q, v, k => by simp [FO]
  | r :: ρ, 0, v, k => by cases k <;> simp [FO]
  | r :: ρ, q + 1, v, k => by
    cases k with
    | zero => simp [FO]
    | succ k =>
      have := Dk ρ q v k
      simp only [FO, List.getElem?_cons_succ, this, List.length_cons, Nat.add_lt_add_iff_right, Nat.add_right_cancel_iff]
theorem Nc : ∀ {ρ : List (Option Value)} {q : Nat} {v : Value}, ρ[q]? = some (some v) → Wh ρ q = v
  | [], q, v, h => by simp at h
  | r :: ρ, 0, v, h => by simp at h; subst h; rfl
  | r :: ρ, q + 1, v, h => by simp at h; exact Nc (ρ := ρ) h
theorem B2 : ∀ {p : List (Option Bool)} {ρ : List (Option Value)} {q : Nat} {v : Value}, Cd p q ≠ some true → G8 p (FO ρ q v) = G8 p ρ
  | [], ρ, q, v, _ => by cases ρ <;> cases q <;> rfl
  | p :: ps, [], q, v, _ => rfl
  | p :: ps, r :: ρ, 0, v, h => by
    cases p with
    | none => rfl
    | some b => cases b with
      | true => exact absurd rfl h
      | false => rfl
  | p :: ps, r :: ρ, q + 1, v, h => by
    show _ :: G8 ps (FO ρ q v) = _ :: G8 ps ρ
    rw [B2 (p := ps) h]
theorem Ha : ∀ {ρ : List (Option Value)} {q k : Nat} {v : Value}, k ≠ q → Wh (FO ρ q v) k = Wh ρ k
  | [], q, k, v, _ => rfl
  | r :: ρ, 0, 0, v, h => absurd rfl h
  | r :: ρ, 0, k + 1, v, h => rfl
  | r :: ρ, q + 1, 0, v, h => rfl
  | r :: ρ, q + 1, k + 1, v, h => Ha (ρ := ρ) (by omega)
def CA (ops : Array Oper) (jobs : List JobS) (ρ : List (Option Value)) : List Nat → List (Nat × Value)
  | [] => []
  | j :: r => match GY ops j, jobs[j]? with
    | some d, some J => (d, J.val ρ) :: CA ops jobs ρ r
    | _, _ => CA ops jobs ρ r
def JN (J : JobS) (q : Nat) : Bool := match J.actOf with | some q' => Nat.beq q' q | none => false
def Wi : Option Bool → Bool
  | some true => true
  | _ => false
def Ul (ops : Array Oper) (jobs : List JobS) (D i : Nat) (j : JobS) (q : Nat) : Bool := match Cd j.pat q with
  | some true => (List.range D).any fun p => E5 ops i p && (match jobs[p]? with | some J => JN J q || Wi (Cd J.pat q) | none => false)
  | some false => (match j.actOf with | some qi => Nat.beq qi q || jobs.any fun J => JN J q && Wi (Cd J.pat qi) | none => false)
  | none => true
def KK (ops : Array Oper) (jobs : List JobS) (n D m : Nat) (keys : List Nat) (i : Nat) : Bool :=
  match ops[i]?, jobs[i]? with
  | some o, some j =>
    (match o.dst with
      | some d => Nat.blt d n && !keys.contains d && (List.range D).all fun i' => Nat.beq i i' || GY ops i' != some d
      | none => (match j.actOf with | some _ => true | none => false)) &&
    o.after.all (fun e => !Region.binds .any e || Nat.blt e.on i) &&
    j.deps.all (fun e => Nat.blt e D && E5 ops i e) &&
    Nat.beq j.pat.length m && (List.range m).all (Ul ops jobs D i j) &&
    (match j.actOf with | some q => Nat.blt q m && (match Cd j.pat q with | some false => true | _ => false) && (List.range D).all fun i' => Nat.beq i i' || (match jobs[i']? with | some J => !JN J q | none => true) | none => true)
  | _, _ => false
def Hb (ops : Array Oper) (i : Nat) : List Nat := match ops[i]? with | some o => (o.after.toList.filter fun e => Region.binds .any e).map (·.on) | none => []
def Nd (ops : Array Oper) : Nat → List Nat → List Nat
  | 0, S => S
  | j + 1, S => Nd ops j (match S.elem j with | true => Hb ops j ++ S | false => S)
def Oz (ops : Array Oper) (D N i : Nat) : Bool :=
  (match Nd ops D (Hb ops i) with | l => (List.range D).all fun j => l.elem j) || (List.range N).any fun j => Nat.ble D j && E5 ops i j
def IT (ops : Array Oper) (jobs : List JobS) (n D m : Nat) (keys : List Nat) : Bool :=
  Nat.ble D ops.size && Nat.beq jobs.length D && (List.range D).all (KK ops jobs n D m keys) && (List.range ops.size).all (fun i => Nat.blt i D || Oz ops D ops.size i) &&
  (List.range (ops.size - D)).all (fun t => Region.ready .any ops (B0 (D + t) ops.size) == [D + t]) && (List.range m).all (fun q => jobs.any fun J => JN J q)
structure JobOKS (ops : Array Oper) (jobs : List JobS) (n D m : Nat) (keys : List Nat) (i : Nat) (o : Oper) (j : JobS) : Prop where
  dst : (∃ d, o.dst = some d ∧ d < n ∧ d ∉ keys ∧ ∀ i', i' < D → i' ≠ i → GY ops i' ≠ some d) ∨ (o.dst = none ∧ ∃ q, j.actOf = some q)
  edges : ∀ e ∈ o.after, Region.binds .any e = true → e.on < i
  deps : ∀ e ∈ j.deps, e < D ∧ E5 ops i e = true
  len : j.pat.length = m
  t : ∀ q, q < m → Cd j.pat q = some true → ∃ p J, p < D ∧ E5 ops i p = true ∧ jobs[p]? = some J ∧ (J.actOf = some q ∨ Cd J.pat q = some true)
  f : ∀ q, q < m → Cd j.pat q = some false → ∃ qi, j.actOf = some qi ∧ (qi = q ∨ ∃ J ∈ jobs, J.actOf = some q ∧ Cd J.pat qi = some true)
  act : ∀ q, j.actOf = some q → q < m ∧ Cd j.pat q = some false ∧ ∀ i' J, i' < D → i' ≠ i → jobs[i']? = some J → J.actOf ≠ some q
theorem Gs {J : JobS} {q : Nat} : JN J q = true ↔ J.actOf = some q := by
  unfold JN
  cases J.actOf with
  | none => simp
  | some q' => simp [E7]
theorem OA {x : Option Bool} : Wi x = true ↔ x = some true := by
  cases x with
  | none => simp [Wi]
  | some b => cases b <;> simp [Wi]
theorem Fh {ops : Array Oper} {jobs : List JobS} {n D m : Nat} {keys : List Nat} {i : Nat} (h : KK ops jobs n D m keys i = true) : ∃ o j, ops[i]? = some o ∧ jobs[i]? = some j ∧ JobOKS ops jobs n D m keys i o j := by
  unfold KK at h
  cases ho : ops[i]? with
  | none => simp [ho] at h
  | some o =>
    cases hj : jobs[i]? with
    | none => simp [ho, hj] at h
    | some j =>
      simp only [ho, hj, Bool.and_eq_true] at h
      obtain ⟨⟨⟨⟨⟨h1, h2⟩, h3⟩, h4⟩, h5⟩, h6⟩ := h
      refine ⟨o, j, rfl, rfl, ?_, ?_, ?_, E7.1 h4, ?_, ?_, ?_⟩
      · cases hd : o.dst with
        | some d =>
          simp only [hd, Bool.and_eq_true] at h1
          obtain ⟨⟨ha, hb⟩, hc⟩ := h1
          refine .inl ⟨d, rfl, DA ha, by simpa using hb, fun i' hi' hne he => ?_⟩
          have := List.all_eq_true.1 hc i' (by simpa using hi')
          simp only [Bool.or_eq_true] at this
          rcases this with h | h
          · exact hne (E7.1 h).symm
          · simp [he] at h
        | none =>
          simp only [hd] at h1
          refine .inr ⟨rfl, ?_⟩
          cases ha : j.actOf with
          | none => simp [ha] at h1
          | some q => exact ⟨q, rfl⟩
      · intro e he hb
        have := Array.all_eq_true_iff_forall_mem.1 h2 e he
        simp only [hb, Bool.not_true, Bool.false_or] at this
        exact DA this
      · intro e he
        have := List.all_eq_true.1 h3 e he
        simp only [Bool.and_eq_true] at this
        exact ⟨DA this.1, this.2⟩
      · intro q hq hp
        have := List.all_eq_true.1 h5 q (by simpa using hq)
        unfold Ul at this
        simp only [hp] at this
        obtain ⟨p, hp1, hp2⟩ := List.any_eq_true.1 this
        simp only [Bool.and_eq_true] at hp2
        cases hJ : jobs[p]? with
        | none => simp [hJ] at hp2
        | some J =>
          simp only [hJ, Bool.or_eq_true] at hp2
          exact ⟨p, J, by simpa using hp1, hp2.1, hJ, hp2.2.imp Gs.1 OA.1⟩
      · intro q hq hp
        have := List.all_eq_true.1 h5 q (by simpa using hq)
        unfold Ul at this
        simp only [hp] at this
        cases ha : j.actOf with
        | none => simp [ha] at this
        | some qi =>
          simp only [ha, Bool.or_eq_true] at this
          refine ⟨qi, rfl, this.imp E7.1 fun h => ?_⟩
          obtain ⟨J, hJ1, hJ2⟩ := List.any_eq_true.1 h
          simp only [Bool.and_eq_true] at hJ2
          exact ⟨J, hJ1, Gs.1 hJ2.1, OA.1 hJ2.2⟩
      · intro q hq
        simp only [hq, Bool.and_eq_true] at h6
        obtain ⟨⟨ha, hb⟩, hc⟩ := h6
        refine ⟨DA ha, ?_, fun i' J hi' hne hJ hk => ?_⟩
        · cases hp : Cd j.pat q with
          | none => simp [hp] at hb
          | some b => cases b with
            | true => simp [hp] at hb
            | false => rfl
        · have := List.all_eq_true.1 hc i' (by simpa using hi')
          simp only [hJ, Bool.or_eq_true] at this
          rcases this with h | h
          · exact hne (E7.1 h).symm
          · rw [Gs.2 hk] at h; cases h
section
variable (P : Program) (ops : Array Oper) (Q : Exit → Act → World → Prop) (n : Nat) (jobs : List JobS) (env0 : List (Nat × Value)) (B : Nat → Prop) (w0 : World) (S : List (Option Value) → List Ass)
def Rr (o : Oper) (j : JobS) : Prop :=
  match j.kind with
  | .quiet => FP j.pat fun ρ => wants ops o (CA ops jobs ρ j.deps ++ env0) = some true ∧ ∀ (b : Act) (w : World), Hp B w0 w (S ρ) → Fr n b (CA ops jobs ρ j.deps ++ env0) → (execOp b.eval o).run P w = .ok (.value (j.f (G8 j.pat ρ))) w
  | .skip => FP j.pat fun ρ => wants ops o (CA ops jobs ρ j.deps ++ env0) = some false ∧ j.f (G8 j.pat ρ) = undef
  | .act q => FP j.pat fun ρ => wants ops o (CA ops jobs ρ j.deps ++ env0) = some true ∧ ∀ (b : Act) (w : World), Hp B w0 w (S ρ) → Fr n b (CA ops jobs ρ j.deps ++ env0) → ∀ K : Act → World → Prop, (∀ v w', Hp B w0 w' (S (FO ρ q v)) → K (b.put o.dst v) w') → o.wp P b w K Q
  | .actv q => FP j.pat fun ρ => wants ops o (CA ops jobs ρ j.deps ++ env0) = some true ∧ ∀ (b : Act) (w : World), Hp B w0 w (S ρ) → Fr n b (CA ops jobs ρ j.deps ++ env0) → ∀ K : Act → World → Prop, (∀ v w', Hp B w0 w' (S (FO ρ q v)) → K (b.put o.dst (j.f (G8 j.pat ρ))) w') → o.wp P b w K Q
def D5 : List Oper → List JobS → Prop
  | o :: os, j :: js => Rr P ops Q n jobs env0 B w0 S o j ∧ D5 os js
  | _, _ => True
end
structure InvS (ops : Array Oper) (n : Nat) (jobs : List JobS) (env0 : List (Nat × Value)) (B : Nat → Prop) (w0 : World) (S : List (Option Value) → List Ass) (D m : Nat) (listed : Array Bool) (a : Act) (ρ : List (Option Value)) (w : World) : Prop where
  size : listed.size = ops.size
  late : ∀ i, D ≤ i → i < ops.size → listed.getD i true = false
  closed : ∀ i e, i < D → listed.getD i true = true → E5 ops i e = true → e < ops.size → listed.getD e true = true
  fr : Fr n a env0
  len : ρ.length = m
  yes : ∀ i j q, jobs[i]? = some j → j.actOf = some q → listed.getD i true = true → ∃ v, ρ[q]? = some (some v)
  no : ∀ i j q, jobs[i]? = some j → j.actOf = some q → listed.getD i true = false → ρ[q]? = some none
  vals : ∀ i j d, jobs[i]? = some j → GY ops i = some d → listed.getD i true = true → a.tmps[d]? = some (j.val ρ)
  hp : Hp B w0 w (S ρ)
section
variable {P : Program} {ops : Array Oper} {Q : Exit → Act → World → Prop} {n D m : Nat} {jobs : List JobS} {env0 : List (Nat × Value)} {B : Nat → Prop} {w0 : World} {S : List (Option Value) → List Ass}
theorem D5.at_ : ∀ {os : List Oper} {js : List JobS}, D5 P ops Q n jobs env0 B w0 S os js → ∀ (i : Nat) (o : Oper) (j : JobS), os[i]? = some o → js[i]? = some j → Rr P ops Q n jobs env0 B w0 S o j
  | [], _, _, i, o, j, h, _ => by simp at h
  | _ :: _, [], _, i, o, j, _, h => by simp at h
  | o' :: os, j' :: js, h, 0, o, j, h1, h2 => by
    simp only [List.getElem?_cons_zero, Option.some.injEq] at h1 h2
    subst h1; subst h2
    exact h.1
  | o' :: os, j' :: js, h, i + 1, o, j, h1, h2 => by
    simp only [List.getElem?_cons_succ] at h1 h2
    exact D5.at_ h.2 i o j h1 h2
theorem Ad {o : Oper} {os : List Oper} {j : JobS} {js : List JobS} (h : Rr P ops Q n jobs env0 B w0 S o j) (hs : D5 P ops Q n jobs env0 B w0 S os js) : D5 P ops Q n jobs env0 B w0 S (o :: os) (j :: js) := ⟨h, hs⟩
theorem Bx {os : List Oper} : D5 P ops Q n jobs env0 B w0 S os [] := by cases os <;> trivial
theorem Hc {listed : Array Bool} {a : Act} {ρ : List (Option Value)} {w : World} (hI : InvS ops n jobs env0 B w0 S D m listed a ρ w) : ∀ l : List Nat, (∀ e ∈ l, listed.getD e true = true) → Fr n a (CA ops jobs ρ l)
  | [], _ => ⟨hI.fr.size, fun s v h => (by cases h), hI.fr.defers⟩
  | e :: l, h => by
    have ih := Hc hI l (fun x hx => h x (List.mem_cons_of_mem _ hx))
    unfold CA
    cases hd : GY ops e with
    | none => exact ih
    | some d =>
      cases hj : jobs[e]? with
      | none => exact ih
      | some J =>
        refine ⟨hI.fr.size, fun s v hs => ?_, hI.fr.defers⟩
        simp only at hs
        rw [Dx] at hs
        split at hs
        · rename_i he
          subst he
          cases hs
          exact hI.vals e J d hj hd (h e (by simp))
        · exact ih.get s v hs
theorem CI (hJ : ∀ i, i < D → ∃ o j, ops[i]? = some o ∧ jobs[i]? = some j ∧ JobOKS ops jobs n D m (env0.map (·.1)) i o j) (hDN : D ≤ ops.size) {listed : Array Bool} (hc : ∀ i e, i < D → listed.getD i true = true → E5 ops i e = true → e < ops.size → listed.getD e true = true) {q : Nat} (hq : q < m) :
    ∀ (k i : Nat) (j : JobS), i ≤ k → i < D → jobs[i]? = some j → Cd j.pat q = some true → (∀ e, E5 ops i e = true → e < ops.size → listed.getD e true = true) → ∃ p J, jobs[p]? = some J ∧ p < i ∧ J.actOf = some q ∧ listed.getD p true = true := by
  intro k
  induction k with
  | zero =>
    intro i j hik hi hj hp hl
    obtain ⟨o, j', ho, hj', hok⟩ := hJ i hi
    rw [hj] at hj'; cases hj'
    obtain ⟨p, J, hpD, he, hJp, _⟩ := hok.t q hq hp
    obtain ⟨o', ho', e, hm, hb, rfl⟩ := GZ.1 he
    rw [ho] at ho'; cases ho'
    have := hok.edges e hm hb
    omega
  | succ k ih =>
    intro i j hik hi hj hp hl
    obtain ⟨o, j', ho, hj', hok⟩ := hJ i hi
    rw [hj] at hj'; cases hj'
    obtain ⟨p, J, hpD, he, hJp, hor⟩ := hok.t q hq hp
    have hlt : p < i := by
      obtain ⟨o', ho', e, hm, hb, rfl⟩ := GZ.1 he
      rw [ho] at ho'; cases ho'
      exact hok.edges e hm hb
    have hlp := hl p he (by omega)
    rcases hor with h | h
    · exact ⟨p, J, hJp, hlt, h, hlp⟩
    · obtain ⟨p', J', h1, h2, h3, h4⟩ := ih p J (by omega) hpD hJp h (fun e he' heN => hc p e hpD hlp he' heN)
      exact ⟨p', J', h1, by omega, h3, h4⟩
theorem DU {listed : Array Bool} {a : Act} {ρ ρ' : List (Option Value)} {w w' : World} {i : Nat} {o : Oper} {j : JobS} {v : Value} (hI : InvS ops n jobs env0 B w0 S D m listed a ρ w) (hiD : i < D) (hDN : D ≤ ops.size) (hlen : jobs.length = D)
    (ho : ops[i]? = some o) (hj : jobs[i]? = some j) (hok : JobOKS ops jobs n D m (env0.map (·.1)) i o j) (hun : listed.getD i true = false) (hpre : ∀ e, E5 ops i e = true → e < ops.size → listed.getD e true = true)
    (hv : o.dst.isSome = true → j.val ρ' = v) (hold : ∀ (i' : Nat) J, jobs[i']? = some J → i' ≠ i → listed.getD i' true = true → J.val ρ' = J.val ρ)
    (hl' : ρ'.length = m) (hy : ∀ q, j.actOf = some q → ∃ v, ρ'[q]? = some (some v)) (hn : ∀ (i' : Nat) J q, jobs[i']? = some J → J.actOf = some q → i' ≠ i → ρ'[q]? = ρ[q]?) (hp : Hp B w0 w' (S ρ')) :
    InvS ops n jobs env0 B w0 S D m (listed.setIfInBounds i true) (a.put o.dst v) ρ' w' := by
  have hsz : i < listed.size := by rw [hI.size]; omega
  have hlist : ∀ k, (listed.setIfInBounds i true).getD k true = if k = i then true else listed.getD k true := fun k => DM _ _ _ hsz
  have hjD : ∀ (i' : Nat) J, jobs[i']? = some J → i' < D := fun i' J h => by rw [← hlen]; exact (List.getElem?_eq_some_iff.1 h).1
  refine ⟨by simpa using hI.size, fun k hk hk' => ?_, fun k e hkD hk he heN => ?_, ?_, hl', fun i' J q hJ hk hl => ?_, fun i' J q hJ hk hl => ?_, fun i' J d' hJ hd' hl => ?_, hp⟩
  · rw [hlist, if_neg (by omega)]; exact hI.late k hk hk'
  · rw [hlist] at hk ⊢
    split
    · rfl
    · by_cases hki : k = i
      · subst hki; exact hpre e he heN
      · rw [if_neg hki] at hk; exact hI.closed k e hkD hk he heN
  · rcases hok.dst with ⟨d, hd, hdn, hkey, _⟩ | ⟨hd, _⟩
    · rw [hd]
      refine ⟨by simp [Act.put, hI.fr.size], fun s u hs => ?_, hI.fr.defers⟩
      have hne : d ≠ s := by
        rintro rfl
        apply hkey
        clear hkey
        revert hs
        generalize env0 = l
        induction l with
        | nil => intro hs; cases hs
        | cons p r ih =>
          obtain ⟨k, x⟩ := p
          intro hs
          rw [Dx] at hs
          split at hs
          · rename_i he; subst he; simp
          · exact List.mem_cons_of_mem _ (ih hs)
      show (a.tmps.setIfInBounds d v)[s]? = some u
      rw [Array.getElem?_setIfInBounds_ne hne]
      exact hI.fr.get s u hs
    · rw [hd]; exact hI.fr
  · rw [hlist] at hl
    by_cases hi : i' = i
    · subst hi
      rw [hj] at hJ; cases hJ
      exact hy q hk
    · rw [if_neg hi] at hl
      rw [hn i' J q hJ hk hi]
      exact hI.yes i' J q hJ hk hl
  · rw [hlist] at hl
    by_cases hi : i' = i
    · rw [if_pos hi] at hl; cases hl
    · rw [if_neg hi] at hl
      rw [hn i' J q hJ hk hi]
      exact hI.no i' J q hJ hk hl
  · rw [hlist] at hl
    by_cases hi : i' = i
    · subst hi
      have e1 : GY ops i' = o.dst := by unfold GY; rw [ho]; rfl
      rw [e1] at hd'
      rw [hj] at hJ
      cases hJ
      rcases hok.dst with ⟨d, hd, hdn, _⟩ | ⟨hd, _⟩
      · rw [hd] at hd'
        cases hd'
        rw [hd]
        show (a.tmps.setIfInBounds d' v)[d']? = _
        rw [Array.getElem?_setIfInBounds_self_of_lt (by rw [hI.fr.size]; exact hdn), hv (by rw [hd]; rfl)]
      · rw [hd] at hd'; cases hd'
    · rw [if_neg hi] at hl
      rw [hold i' J hJ hi hl]
      rcases hok.dst with ⟨d, hd, hdn, _, hdis⟩ | ⟨hd, _⟩
      · have hne : d ≠ d' := fun e => hdis i' (hjD i' J hJ) hi (e ▸ hd')
        rw [hd]
        show (a.tmps.setIfInBounds d v)[d']? = _
        rw [Array.getElem?_setIfInBounds_ne hne]
        exact hI.vals i' J d' hJ hd' hl
      · rw [hd]; exact hI.vals i' J d' hJ hd' hl
theorem GQ {i e : Nat} (h : e ∈ Hb ops i) : E5 ops i e = true := by
  unfold Hb at h
  cases ho : ops[i]? with
  | none => simp [ho] at h
  | some o =>
    simp only [ho, List.mem_map, List.mem_filter] at h
    obtain ⟨x, ⟨h1, h2⟩, rfl⟩ := h
    exact GZ.2 ⟨o, ho, x, by simpa using h1, h2, rfl⟩
theorem FR {listed : Array Bool} (hDN : D ≤ ops.size) (hc : ∀ i e, i < D → listed.getD i true = true → E5 ops i e = true → e < ops.size → listed.getD e true = true) : ∀ (k : Nat) (S : List Nat), k ≤ D → (∀ e ∈ S, e < ops.size → listed.getD e true = true) → ∀ e ∈ Nd ops k S, e < ops.size → listed.getD e true = true
  | 0, S, _, h, e, he, heN => h e he heN
  | k + 1, S, hk, h, e, he, heN => by
    unfold Nd at he
    refine FR hDN hc k _ (by omega) (fun e he heN => ?_) e he heN
    cases hS : S.elem k with
    | false => rw [hS] at he; exact h e he heN
    | true =>
      rw [hS] at he
      rcases List.mem_append.1 he with he | he
      · exact hc k e (by omega) (h k (List.elem_iff.1 hS) (by omega)) (GQ he) heN
      · exact h e he heN
theorem Po (hDN : D ≤ ops.size) (hlen : jobs.length = D) (hJ : ∀ i, i < D → ∃ o j, ops[i]? = some o ∧ jobs[i]? = some j ∧ JobOKS ops jobs n D m (env0.map (·.1)) i o j)
    (hlate : ∀ i, D ≤ i → i < ops.size → (∀ j, j < D → j ∈ Nd ops D (Hb ops i)) ∨ ∃ j, D ≤ j ∧ j < ops.size ∧ E5 ops i j = true)
    (hOb : D5 P ops Q n jobs env0 B w0 S ops.toList jobs) 
    (hend : ∀ a ρ w, InvS ops n jobs env0 B w0 S D m (B0 D ops.size) a ρ w → wpAny P .any ops Q (ops.size - D) (B0 D ops.size) a w) :
    ∀ (f : Nat) (listed : Array Bool) (a : Act) (ρ : List (Option Value)) (w : World), Ik listed ops.size = f → InvS ops n jobs env0 B w0 S D m listed a ρ w → wpAny P .any ops Q f listed a w := by
  have hjD : ∀ (i' : Nat) J, jobs[i']? = some J → i' < D := fun i' J h => by rw [← hlen]; exact (List.getElem?_eq_some_iff.1 h).1
  have fin : ∀ (f : Nat) (listed : Array Bool) (a : Act) (ρ : List (Option Value)) (w : World), Ik listed ops.size = f → InvS ops n jobs env0 B w0 S D m listed a ρ w → (∀ i, i < D → listed.getD i true = true) → wpAny P .any ops Q f listed a w := by
    intro f listed a ρ w hf hI hall
    have he := Gf hI.size hDN hall hI.late
    have hun := Ge listed D hall (fun i h1 h2 => hI.late i h1 (by rw [← hI.size]; exact h2)) ops.size (by rw [hI.size]; exact Nat.le_refl _)
    rw [hun] at hf
    subst hf
    rw [he] at hI ⊢
    exact hend a ρ w hI
  intro f
  induction f with
  | zero =>
    intro listed a ρ w hf hI
    refine fin 0 listed a ρ w hf hI (fun i hi => ?_)
    cases hc : listed.getD i true with
    | true => rfl
    | false =>
      have := E6 listed i hc ops.size (by omega)
      omega
  | succ f ih =>
    intro listed a ρ w hf hI
    by_cases hall : ∀ i, i < D → listed.getD i true = true
    · exact fin (f + 1) listed a ρ w hf hI hall
    have hex : ∃ i, i < D ∧ listed.getD i true = false := by
      apply Classical.byContradiction
      intro hno
      apply hall
      intro i hi
      cases hc : listed.getD i true with
      | true => rfl
      | false => exact absurd ⟨i, hi, hc⟩ hno
    have hready : ∃ i, i ∈ Region.ready .any ops listed := by
      obtain ⟨i0, hi0, hu0⟩ := hex
      have key : ∀ k i, i ≤ k → i < D → listed.getD i true = false → ∃ i, i ∈ Region.ready .any ops listed := by
        intro k
        induction k with
        | zero =>
          intro i hik hi hu
          obtain ⟨o, j, ho, hj, hok⟩ := hJ i hi
          exact ⟨i, mem_ready.2 ⟨hu, o, ho, fun e he hb => by have := hok.edges e he hb; omega⟩⟩
        | succ k ihk =>
          intro i hik hi hu
          obtain ⟨o, j, ho, hj, hok⟩ := hJ i hi
          by_cases hr : ∀ e ∈ o.after, Region.binds .any e = true → listed.getD e.on false = true
          · exact ⟨i, mem_ready.2 ⟨hu, o, ho, hr⟩⟩
          · have : ∃ e ∈ o.after, Region.binds .any e = true ∧ listed.getD e.on false = false := by
              apply Classical.byContradiction
              intro hno
              apply hr
              intro e he hb
              cases hc : listed.getD e.on false with
              | true => rfl
              | false => exact absurd ⟨e, he, hb, hc⟩ hno
            obtain ⟨e, he, hb, hc⟩ := this
            have hlt := hok.edges e he hb
            have hin : e.on < listed.size := by rw [hI.size]; omega
            refine ihk e.on (by omega) (by omega) ?_
            simpa [hin] using hc
      exact key i0 i0 (Nat.le_refl _) hi0 hu0
    refine ⟨fun h0 => (by obtain ⟨i, hi⟩ := hready; rw [h0] at hi; simp at hi), fun i hi => ?_⟩
    have hun : listed.getD i true = false := (mem_ready.1 hi).1
    have hiN : i < ops.size := by
      obtain ⟨_, o, ho, _⟩ := mem_ready.1 hi
      exact (Array.getElem?_eq_some_iff.1 ho).1
    have hlt : ∀ e, e < ops.size → listed.getD e false = listed.getD e true := fun e he => by
      have : e < listed.size := by rw [hI.size]; exact he
      simp [this]
    have hdepl : ∀ e, E5 ops i e = true → e < ops.size → listed.getD e true = true := fun e he heN => by
      rw [← hlt e heN]; exact G0 hi he
    have hiD : i < D := by
      apply Classical.byContradiction
      intro hge
      rcases hlate i (by omega) hiN with h | ⟨j, hjD', hjN, he⟩
      · obtain ⟨k, hk, hku⟩ := hex
        have := FR (D := D) (ops := ops) hDN hI.closed D (Hb ops i) (Nat.le_refl _) (fun e he heN => hdepl e (GQ he) heN) k (h k hk) (by omega)
        rw [hku] at this
        cases this
      · have h1 := hdepl j he hjN
        rw [hI.late j hjD' hjN] at h1
        cases h1
    obtain ⟨o, j, ho, hj, hok⟩ := hJ i hiD
    have hob := hOb.at_ i o j (by simpa using ho) hj
    have hFr : Fr n a (CA ops jobs ρ j.deps ++ env0) := Fr.app (Hc hI j.deps (fun e he => hdepl e (hok.deps e he).2 (by have := (hok.deps e he).1; omega))) hI.fr
    have hf' : Ik (listed.setIfInBounds i true) ops.size = f := by
      have := E6 listed i hun ops.size hiN
      omega
    have hm_of : ∀ q, Cd j.pat q ≠ none → q < m := by
      intro q hq
      rw [← hok.len]
      revert hq
      generalize j.pat = l
      intro hq
      apply Classical.byContradiction
      intro hge
      apply hq
      have : ∀ (l : List (Option Bool)) (q : Nat), l.length ≤ q → Cd l q = none := by
        intro l
        induction l with
        | nil => intro q _; rfl
        | cons x r ih =>
          intro q h
          cases q with
          | zero => simp at h
          | succ q => exact ih q (by simpa using h)
      exact this l q (by omega)
    have hfit : IS j.pat ρ := by
      refine G9 (by rw [hI.len, hok.len]) (fun q hq => ?_) (fun q hq => ?_)
      · obtain ⟨p, J, h1, _, h3, h4⟩ := CI hJ hDN hI.closed (hm_of q (by rw [hq]; simp)) i i j (Nat.le_refl _) hiD hj hq hdepl
        exact hI.yes p J q h1 h3 h4
      · obtain ⟨qi, hk, hor⟩ := hok.f q (hm_of q (by rw [hq]; simp)) hq
        rcases hor with rfl | ⟨J, hJm, hJk, hJp⟩
        · exact hI.no i j qi hj hk hun
        · obtain ⟨p, hp⟩ := List.getElem?_of_mem hJm
          refine hI.no p J q hp hJk ?_
          cases hl : listed.getD p true with
          | false => rfl
          | true =>
            obtain ⟨o', J', ho', hJ', hok'⟩ := hJ p (hjD p J hp)
            obtain ⟨p', J2, h1, _, h3, h4⟩ := CI hJ hDN hI.closed (hok.act qi hk).1 p p J (Nat.le_refl _) (hjD p J hp) hp hJp (fun e he heN => hI.closed p e (hjD p J hp) hl he heN)
            by_cases hpi : p' = i
            · subst hpi; rw [hun] at h4; cases h4
            · exact absurd h3 ((hok.act qi hk).2.2 p' J2 (hjD p' J2 h1) hpi h1)
    unfold wpOp
    simp only [ho]
    cases hk : j.kind with
    | quiet =>
      unfold Rr at hob
      simp only [hk] at hob
      obtain ⟨hw, hrun⟩ := hob.fit hfit
      rw [if_pos (hFr.wants hw)]
      refine .inl ?_
      unfold Oper.wp
      rw [hrun a w hI.hp hFr, Oper.upon_value]
      exact ih _ _ ρ w hf' (DU hI hiD hDN hlen ho hj hok hun hdepl (fun _ => by simp [JobS.val, hk]) (fun _ _ _ _ _ => rfl) hI.len (fun q h => by simp [JobS.actOf, hk] at h) (fun _ _ _ _ _ _ => rfl) hI.hp)
    | skip =>
      unfold Rr at hob
      simp only [hk] at hob
      obtain ⟨hw, hv⟩ := hob.fit hfit
      rw [if_neg (by rw [hFr.wants hw]; simp)]
      exact ih _ _ ρ w hf' (DU hI hiD hDN hlen ho hj hok hun hdepl (fun _ => by simp [JobS.val, hk, hv]) (fun _ _ _ _ _ => rfl) hI.len (fun q h => by simp [JobS.actOf, hk] at h) (fun _ _ _ _ _ _ => rfl) hI.hp)
    | act q =>
      unfold Rr at hob
      simp only [hk] at hob
      obtain ⟨hw, hrun⟩ := hob.fit hfit
      rw [if_pos (hFr.wants hw)]
      have hka : j.actOf = some q := by simp [JobS.actOf, hk]
      obtain ⟨hqm, hqf, huniq⟩ := hok.act q hka
      refine .inl (hrun a w hI.hp hFr _ fun v w' hp => ?_)
      have hql : q < ρ.length := by rw [hI.len]; exact hqm
      refine ih _ _ (FO ρ q v) w' hf' (DU hI hiD hDN hlen ho hj hok hun hdepl (fun _ => ?_) (fun i' J hJ' hne hl => ?_) (by rw [FQ]; exact hI.len) (fun q' h => ?_) (fun i' J q' hJ' hk' hne => ?_) hp)
      · unfold JobS.val
        simp only [hk]
        exact Nc (by rw [Dk, if_pos rfl, if_pos hql])
      · -- what is listed does not lean on it
        have hnt : Cd J.pat q ≠ some true := fun hp => by
          obtain ⟨p', J2, h1, h2, h3, h4⟩ := CI hJ hDN hI.closed hqm i' i' J (Nat.le_refl _) (hjD i' J hJ') hJ' hp (fun e he heN => hI.closed i' e (hjD i' J hJ') hl he heN)
          by_cases hpi : p' = i
          · subst hpi; rw [hun] at h4; cases h4
          · exact huniq p' J2 (hjD p' J2 h1) hpi h1 h3
        unfold JobS.val
        cases hk2 : J.kind with
        | act q2 =>
          have : q2 ≠ q := fun e => by subst e; exact huniq i' J (hjD i' J hJ') hne hJ' (by simp [JobS.actOf, hk2])
          exact Ha this
        | actv q2 => simp only [B2 hnt]
        | quiet => simp only [B2 hnt]
        | skip => simp only [B2 hnt]
      · rw [hka] at h; cases h
        exact ⟨v, by rw [Dk, if_pos rfl, if_pos hql]⟩
      · rw [Dk, if_neg (fun e => by subst e; exact huniq i' J (hjD i' J hJ') hne hJ' hk')]
    | actv q =>
      unfold Rr at hob
      simp only [hk] at hob
      obtain ⟨hw, hrun⟩ := hob.fit hfit
      rw [if_pos (hFr.wants hw)]
      have hka : j.actOf = some q := by simp [JobS.actOf, hk]
      obtain ⟨hqm, hqf, huniq⟩ := hok.act q hka
      refine .inl (hrun a w hI.hp hFr _ fun v w' hp => ?_)
      have hql : q < ρ.length := by rw [hI.len]; exact hqm
      refine ih _ _ (FO ρ q v) w' hf' (DU hI hiD hDN hlen ho hj hok hun hdepl (fun _ => ?_) (fun i' J hJ' hne hl => ?_) (by rw [FQ]; exact hI.len) (fun q' h => ?_) (fun i' J q' hJ' hk' hne => ?_) hp)
      · unfold JobS.val
        simp only [hk]
        rw [B2 (by rw [hqf]; simp)]
      · -- what is listed does not lean on it
        have hnt : Cd J.pat q ≠ some true := fun hp => by
          obtain ⟨p', J2, h1, h2, h3, h4⟩ := CI hJ hDN hI.closed hqm i' i' J (Nat.le_refl _) (hjD i' J hJ') hJ' hp (fun e he heN => hI.closed i' e (hjD i' J hJ') hl he heN)
          by_cases hpi : p' = i
          · subst hpi; rw [hun] at h4; cases h4
          · exact huniq p' J2 (hjD p' J2 h1) hpi h1 h3
        unfold JobS.val
        cases hk2 : J.kind with
        | act q2 =>
          have : q2 ≠ q := fun e => by subst e; exact huniq i' J (hjD i' J hJ') hne hJ' (by simp [JobS.actOf, hk2])
          exact Ha this
        | actv q2 => simp only [B2 hnt]
        | quiet => simp only [B2 hnt]
        | skip => simp only [B2 hnt]
      · rw [hka] at h; cases h
        exact ⟨v, by rw [Dk, if_pos rfl, if_pos hql]⟩
      · rw [Dk, if_neg (fun e => by subst e; exact huniq i' J (hjD i' J hJ') hne hJ' hk')]
theorem Hd {keys : List Nat} (h : IT ops jobs n D m keys = true) : D ≤ ops.size ∧ jobs.length = D ∧ (∀ i, i < D → KK ops jobs n D m keys i = true) ∧ (∀ i, D ≤ i → i < ops.size → (∀ j, j < D → j ∈ Nd ops D (Hb ops i)) ∨ ∃ j, D ≤ j ∧ j < ops.size ∧ E5 ops i j = true) ∧
    (∀ t, D ≤ t → t < ops.size → Region.ready .any ops (B0 t ops.size) = [t]) ∧ (∀ q, q < m → ∃ (p : Nat) (J : JobS), jobs[p]? = some J ∧ J.actOf = some q) := by
  unfold IT at h
  simp only [Bool.and_eq_true] at h
  obtain ⟨⟨⟨⟨⟨h1, h2⟩, h3⟩, h4⟩, h5⟩, h6⟩ := h
  refine ⟨Nat.le_of_ble_eq_true h1, E7.1 h2, fun i hi => List.all_eq_true.1 h3 i (by simpa using hi), fun i hiD hiN => ?_, fun t htD htN => ?_, fun q hq => ?_⟩
  · have := List.all_eq_true.1 h4 i (by simpa using hiN)
    simp only [Bool.or_eq_true] at this
    rcases this with h | h
    · have := DA h; omega
    · unfold Oz at h
      simp only [Bool.or_eq_true] at h
      rcases h with h | h
      · exact .inl fun j hj => List.elem_iff.1 (List.all_eq_true.1 h j (by simpa using hj))
      · obtain ⟨j, hj1, hj2⟩ := List.any_eq_true.1 h
        simp only [Bool.and_eq_true] at hj2
        exact .inr ⟨j, Nat.le_of_ble_eq_true hj2.1, by simpa using hj1, hj2.2⟩
  · have := List.all_eq_true.1 h5 (t - D) (by simp; omega)
    rw [show D + (t - D) = t by omega] at this
    exact eq_of_beq this
  · obtain ⟨J, hJ1, hJ2⟩ := List.any_eq_true.1 (List.all_eq_true.1 h6 q (by simpa using hq))
    obtain ⟨p, hp⟩ := List.getElem?_of_mem hJ1
    exact ⟨p, J, hp, Gs.1 hJ2⟩
def KL (ops : Array Oper) (jobs : List JobS) (ρ : List (Option Value)) (D : Nat) : List (Nat × Value) := CA ops jobs ρ (List.range D)
theorem HE : ∀ (m q : Nat), Cd (List.replicate m (some true)) q = some true → q < m
  | 0, q, h => by simp [Cd] at h
  | m + 1, 0, _ => by omega
  | m + 1, q + 1, h => by have := HE m q h; omega
theorem GR : ∀ (m q : Nat), Cd (List.replicate m (some true)) q ≠ some false
  | 0, q => by simp [Cd]
  | m + 1, 0 => by simp [List.replicate_succ, Cd]
  | m + 1, q + 1 => GR m q
theorem Bi {id : Nat} {env : List (Nat × Value)} {os : List Ass} (D m : Nat) (jobs : List JobS) (env0 : List (Nat × Value)) (S : List (Option Value) → List Ass) (hmix : P.follows .mixedOrders = true) (hok : IT ops jobs n D m (env0.map (·.1)) = true) (hs : Dy env env0) (hS : os = S (List.replicate m none))
    (hOb : D5 P ops Q n jobs env0 B w0 S ops.toList jobs)
    (hend : FP (List.replicate m (some true)) fun ρ => BM P ops Q n (KL ops jobs ρ D ++ env0) B w0 (S ρ) (ops.toList.drop D)) : AY P Q n env B w0 os (.region id ops true) := fun a w hF hH => by
  obtain ⟨hDN, hlen, hJ, hlate, hr, hm⟩ := Hd hok
  refine wp_region_any hmix ?_
  have hz : ∀ i, i < ops.size → (Array.replicate ops.size false).getD i true = false := fun i hi => by simp [hi]
  have hjN : ∀ (i : Nat) j, jobs[i]? = some j → i < ops.size := fun i j h => by have := (List.getElem?_eq_some_iff.1 h).1; omega
  have hinit : InvS ops n jobs env0 B w0 S D m (Array.replicate ops.size false) a (List.replicate m none) w.drew := by
    refine ⟨by simp, fun i _ hi => hz i hi, fun i e hi hl => ?_, hF.keep hs, by simp, fun i j q hj _ hl => ?_, fun i j q hj hk _ => ?_, fun i j d hj _ hl => ?_, by rw [← hS]; exact hH.drew⟩
    · rw [hz i (by omega)] at hl; cases hl
    · rw [hz i (hjN i j hj)] at hl; cases hl
    · obtain ⟨o, j', ho, hj', hok'⟩ := Fh (hJ i (by rw [← hlen]; exact (List.getElem?_eq_some_iff.1 hj).1))
      rw [hj] at hj'; cases hj'
      have := (hok'.act q hk).1
      simp [this]
    · rw [hz i (hjN i j hj)] at hl; cases hl
  have hunl : Ik (Array.replicate ops.size false) ops.size = ops.size := by
    have := Ge (Array.replicate ops.size false) 0 (fun i h => by omega) (fun i _ h => hz i (by simpa using h)) ops.size (by simp)
    simpa using this
  refine Po hDN hlen (fun i hi => Fh (hJ i hi)) hlate hOb (fun a ρ w hI => ?_) ops.size _ a _ w.drew hunl hinit
  refine Im hr (ops.size - D) D a w (by omega) (Nat.le_refl _) ?_
  have hl : ∀ i, i < D → (B0 D ops.size).getD i true = true := fun i hi => by rw [Cp (by omega)]; simpa using hi
  have hjD : ∀ (i : Nat) j, jobs[i]? = some j → i < D := fun i j h => by rw [← hlen]; exact (List.getElem?_eq_some_iff.1 h).1
  have hfit : IS (List.replicate m (some true)) ρ := G9 (by rw [hI.len]; simp) (fun q hq => by
    obtain ⟨p, J, hp, hk⟩ := hm q (HE m q hq)
    exact hI.yes p J q hp hk (hl p (hjD p J hp))) (fun q hq => absurd hq (GR m q))
  exact hend.fit hfit a w (Fr.app (Hc hI _ (fun e he => hl e (by simpa using he))) hI.fr) hI.hp
end
end Go.Proofs.Ytnebloeideodmaa.Sep
