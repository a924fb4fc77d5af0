/-
  Vec · Slc · ParS
-/
import Derived.Test.YtnebloeideodmaaOD02
import Derived.Lib.Overlaps
import Derived.Lib.AppendZerosOnto
import Derived.Maps.AppendAt
import Derived.Lib.SliceRun
set_option linter.unusedSimpArgs false
set_option linter.unusedVariables false

namespace Go.Proofs.Ytnebloeideodmaa.Sep
open Go.RowKit
open Go.Proofs.Ytnebloeideodmaa.Mem (Dist Blk Chg)

/-- t is []e, and e takes k cells -/
structure SliceT (P : Program) (t e : TypeId) (k : Nat) : Prop where
  ht : P.underlying t = some (.slice e)
  inf : ∃ i z, P.info? e = some i ∧ i.zero = some z ∧ i.size = k ∧ i.bytes ≤ 4096 ∧ z.cells.size = k ∧ ∀ u ∈ z.cells.toList, u.oneCell' = true
  pos : 0 < k
structure EncOf {α : Type} (k : Nat) (enc : α → List Value) : Prop where
  len : ∀ x, (enc x).length = k
  one : ∀ x, ∀ v ∈ enc x, v.oneCell' = true
def flat {α : Type} (enc : α → List Value) (l : List α) : List Value := l.flatMap enc
section flats
variable {α : Type} {k : Nat} {enc : α → List Value}
theorem flat_cons (x : α) (l : List α) : flat enc (x :: l) = enc x ++ flat enc l := rfl
theorem flat_app (l m : List α) : flat enc (l ++ m) = flat enc l ++ flat enc m := by simp [flat]
theorem flat_len (h : EncOf k enc) : ∀ l : List α, (flat enc l).length = l.length * k
  | [] => by simp [flat]
  | x :: l => by rw [flat_cons, List.length_append, h.len, flat_len h l, List.length_cons, Nat.add_mul]; omega
theorem flat_one (h : EncOf k enc) (l : List α) : ∀ v ∈ flat enc l, v.oneCell' = true := fun v hv => by
  obtain ⟨x, _, hx⟩ := List.mem_flatMap.1 hv
  exact h.one x v hx
theorem flat_take (h : EncOf k enc) : ∀ (l : List α) (i : Nat), (flat enc l).take (i * k) = flat enc (l.take i)
  | [], i => by simp [flat]
  | x :: l, 0 => by simp [flat]
  | x :: l, i + 1 => by
    rw [flat_cons, List.take_succ_cons, flat_cons, Nat.add_mul, Nat.one_mul, Nat.add_comm, List.take_append, h.len, Nat.add_sub_cancel_left, flat_take h l i, List.take_of_length_le (by rw [h.len]; omega)]
theorem flat_drop (h : EncOf k enc) : ∀ (l : List α) (i : Nat), (flat enc l).drop (i * k) = flat enc (l.drop i)
  | [], i => by simp [flat]
  | x :: l, 0 => by simp [flat]
  | x :: l, i + 1 => by
    rw [flat_cons, List.drop_succ_cons, Nat.add_mul, Nat.one_mul, Nat.add_comm, List.drop_append, h.len, Nat.add_sub_cancel_left, flat_drop h l i, List.drop_of_length_le (by rw [h.len]; omega), List.nil_append]
theorem flat_at (h : EncOf k enc) {l : List α} {i : Nat} {x : α} (hi : l[i]? = some x) : ((flat enc l).drop (i * k)).take k = enc x := by
  rw [flat_drop h, List.drop_eq_getElem_cons (List.getElem?_eq_some_iff.1 hi).1, (List.getElem?_eq_some_iff.1 hi).2, flat_cons, List.take_append_of_le_length (by rw [h.len]; exact Nat.le_refl _), List.take_of_length_le (by rw [h.len]; exact Nat.le_refl _)]
theorem flat_set (h : EncOf k enc) {l : List α} {i : Nat} (hi : i < l.length) (x : α) : (flat enc l).take (i * k) ++ enc x ++ (flat enc l).drop (i * k + k) = flat enc (l.set i x) := by
  rw [flat_take h, show i * k + k = (i + 1) * k by rw [Nat.add_mul]; omega, flat_drop h, List.set_eq_take_append_cons_drop, if_pos hi, flat_app, flat_cons, List.append_assoc]
theorem flat_get (h : EncOf k enc) {l : List α} {i : Nat} {x : α} (hi : l[i]? = some x) {j : Nat} (hj : j < k) : (flat enc l)[i * k + j]? = (enc x)[j]? := by
  rw [← flat_at h hi, List.getElem?_take, if_pos hj, List.getElem?_drop]
end flats

/-- v is a slice in a row of its own, or nil, and holds l -/
def Vec (e : TypeId) (k : Nat) {α : Type} (enc : α → List Value) (v : Value) (l : List α) : Ass := fun rs =>
  (v = .slice none 0 0 ∧ l = [] ∧ rs = []) ∨
  ∃ g c cs, v = .slice (some ⟨g, 0, none⟩) l.length c ∧ l.length ≤ c ∧ c ≤ maxLen ∧ cs.size = c * k ∧ cs.toList.take (l.length * k) = flat enc l ∧ rs = [(g, tyR e, cs)]
/-- u is a slice that reads as the cells ys, m elements -/
def SlRd (w : World) (k : Nat) (u : Value) (m : Nat) (ys : List Value) : Prop := ys.length = m * k ∧ ∃ A c, u = .slice A m c ∧ ((A = none ∧ m = 0) ∨ ∃ a, A = some a ∧ ∀ j x, ys[j]? = some x → w.cell? (a.add j) = some x)
/-- the address of a slice's cell -/
def elp : Value → Nat → Value
  | .slice (some ⟨g, off, _⟩) _ _, i => .pointer (some ⟨g, off + i, none⟩)
  | _, _ => undef
/-- a part of a slice -/
def subv (k : Nat) : Value → Nat → Nat → Value
  | .slice A _ c, i, j => .slice (if c = i then A else A.map (·.add (i * k))) (j - i) (c - i)
  | _, _, _ => undef
theorem nilVec (e : TypeId) (k : Nat) {α : Type} (enc : α → List Value) : Vec e k enc (.slice none 0 0) [] [] := .inl ⟨rfl, rfl, rfl⟩

section vecs
variable {P : Program} {t e ty : TypeId} {k : Nat} {α : Type} {enc : α → List Value} {v u : Value} {l m : List α} {w w' : World} {rs : List RowT}
theorem Vec.is (h : Vec e k enc v l rs) : ∃ A c, v = .slice A l.length c := by
  rcases h with ⟨h1, h2, _⟩ | ⟨g, c, cs, h1, _⟩
  · exact ⟨none, 0, by rw [h1, h2]; rfl⟩
  · exact ⟨_, c, h1⟩
theorem Vec.c1 (h : Vec e k enc v l rs) : v.cells = #[v] ∧ v.oneCell' = true := by
  obtain ⟨A, c, rfl⟩ := h.is
  exact ⟨rfl, rfl⟩
theorem Vec.take_ (he : EncOf k enc) {cs : Array Value} (h : cs.toList.take (l.length * k) = flat enc l) {j : Nat} {x : Value} (hj : (flat enc l)[j]? = some x) : cs[j]? = some x := by
  rw [← h] at hj
  rw [List.getElem?_take] at hj
  split at hj
  · simpa using hj
  · cases hj
/-- what it reads as, from number i on up to number j -/
theorem Vec.part (he : EncOf k enc) (h : Vec e k enc v l rs) (hr : RowsOf w rs) {i j : Nat} (hij : i ≤ j) (hj : j ≤ l.length) : SlRd w k (subv k v i j) (j - i) (flat enc ((l.take j).drop i)) := by
  refine ⟨by rw [flat_len he, List.length_drop, List.length_take]; congr 1; omega, ?_⟩
  rcases h with ⟨h1, h2, h3⟩ | ⟨g, c, cs, h1, h2, h3, h4, h5, h6⟩
  · subst h1; subst h2
    have : j = 0 := by simpa using hj
    subst this
    have : i = 0 := by omega
    subst this
    exact ⟨none, 0, rfl, .inl ⟨rfl, rfl⟩⟩
  · subst h1; subst h6
    by_cases hc : c = i
    · subst hc
      have : j = c := by omega
      subst this
      refine ⟨some ⟨g, 0, none⟩, j - j, by simp [subv], .inr ⟨_, rfl, fun q x hx => ?_⟩⟩
      rw [List.drop_of_length_le (by rw [List.length_take]; omega)] at hx
      simp [flat] at hx
    · refine ⟨some ⟨g, i * k, none⟩, c - i, by simp only [subv, if_neg hc, Option.map_some, Addr.add_lit, Nat.zero_add], .inr ⟨_, rfl, fun q x hx => ?_⟩⟩
      rw [Addr.add_lit, hr.1.cell]
      refine Vec.take_ he h5 (l := l) ?_
      rw [← flat_drop he, ← flat_take he, List.getElem?_drop] at hx
      rw [List.getElem?_take] at hx
      split at hx
      · exact hx
      · cases hx
theorem Vec.all (he : EncOf k enc) (h : Vec e k enc v l rs) (hr : RowsOf w rs) : SlRd w k v l.length (flat enc l) := by
  refine ⟨flat_len he l, ?_⟩
  rcases h with ⟨h1, h2, h3⟩ | ⟨g, c, cs, h1, h2, h3, h4, h5, h6⟩
  · subst h1; subst h2; exact ⟨none, 0, rfl, .inl ⟨rfl, rfl⟩⟩
  · subst h1; subst h6
    exact ⟨_, c, rfl, .inr ⟨_, rfl, fun q x hx => by rw [Addr.add_lit, Nat.zero_add, hr.1.cell]; exact Vec.take_ he h5 hx⟩⟩
theorem SlRd.small (h : SlRd w k u 0 []) : ∃ A c, u = .slice A 0 c := by obtain ⟨_, A, c, e, _⟩ := h; exact ⟨A, c, e⟩
end vecs

section walk
variable {P : Program} {ops : Array Oper} {Q : Exit → Act → World → Prop} {n d : Nat} {B : Nat → Prop} {w0 : World} {os : List Ass} {env : List (Nat × Value)} {rest : List Oper} {o : Oper}
variable {t e : TypeId} {k : Nat} {α : Type} {enc : α → List Value} {v u : Value} {l m : List α} {act : Act} {w : World}
theorem exec_bi {a : Act} {w' : World} {bi : Builtin} {args : Array Operand} {ats : Array TypeId} {vs : List Value} {v : Value} (ho : o.op = .call { callee := .builtin bi, args := args, argTypes := ats }) (hx : evl env args.toList = some vs) (hr : ∀ cs, (builtin bi ats o.type cs vs.toArray).run P w = .ok (.value v) w') (hF : Fr n a env) : (execOp a.eval o).run P w = .ok (.value v) w' := by
  have h1 : args.map a.eval = vs.toArray := by
    have := hF.evl hx
    rw [← this]
    cases args; simp
  unfold execOp
  simp only [ho, resolve, invoke, Sem.run_bind, Sem.run_pure, Result.andThen_ok, h1]
  exact hr _
/-- a value of one cell stored, of which a thing tells that it is one -/
theorem a_storev (i j : Nat) {T : TypeId} {x y : Operand} {g off : Nat} {t : TypeId} {cs : Array Value} {v : Value} {th : Ass} (c : Array Value) (hs : ∀ w, (sizeOf T).run P w = .ok 1 w) (hj : os[j]? = some th) (ht : ∀ rs, th rs → v.cells = #[v] ∧ v.oneCell' = true) (hl : Nat.ble (off + 1) cs.size = true) (hc : (over? cs.toList off [v]).toArray = c) (hd : o.dst = none) (ho : o.op = .store T x y)
    (hx : evs env x = some (.pointer (some ⟨g, off, none⟩))) (hy : evs env y = some v) (hi : os[i]? = some (cell g t cs)) : Acts P Q n env B w0 os o (fun _ : Unit => undef) (fun _ => os.set i (cell g t c)) := fun a w hH hF K hK => by
  obtain ⟨hv, h1⟩ := thing_is j hj ht hH
  refine a_store i c hs (k := 1) (by rw [hv]; rfl) hl ?_ (by rw [hv]; exact hc) hd ho hx hy hi a w hH hF K hK
  rw [hv]
  show oneL [v] = true
  cases v <;> simp_all [oneL, Value.oneCell']
theorem Hp.vec {w : World} (h : Hp B w0 w os) (i : Nat) (hi : os[i]? = some (Vec e k enc v l)) (he : EncOf k enc) : SlRd w k v l.length (flat enc l) := by
  obtain ⟨rs, h1, h2⟩ := h.thing i hi
  exact h1.all he h2
theorem e_vlen (i : Nat) (hu : P.underlying t = some (.slice e)) (hi : os[i]? = some (Vec e k enc v l)) {x : Operand} (ho : o.op = .call { callee := .builtin .len, args := #[x], argTypes := #[t] }) (hx : evs env x = some v) (hH : Hp B w0 w os) (hF : Fr n act env) : (execOp act.eval o).run P w = .ok (.value (.int .i64 (l.length : Int))) w := by
    obtain ⟨rs, hv, _⟩ := hH.thing i hi
    obtain ⟨A, c, rfl⟩ := hv.is
    exact exec_bi ho (vs := [.slice A l.length c]) (by simp [evl, hx]) (fun cs => run_len_slice hu A _ c _ w cs) hF
/-- the address of element j -/
theorem e_vidx (i : Nat) (hT : SliceT P t e k) (he : EncOf k enc) (hi : os[i]? = some (Vec e k enc v l)) (j : Nat) (hj : j < l.length) {x y : Operand} {kk : IntKind} (ho : o.op = .indexAddr t x y) (hx : evs env x = some v) (hy : evs env y = some (.int kk (j : Int))) (hH : Hp B w0 w os) (hF : Fr n act env) : (execOp act.eval o).run P w = .ok (.value (elp v (j * k))) w := by
    obtain ⟨rs, hv, _⟩ := hH.thing i hi
    obtain ⟨inf, z, hinf, _, hk, _⟩ := hT.inf
    rcases hv with ⟨_, h2, _⟩ | ⟨g, c, cs, h2, _⟩
    · subst h2; exact absurd hj (Nat.not_lt_zero _)
    · subst h2
      have hs : (sizeOf e).run P w = .ok k w := by simp [sizeOf, typeInfo, hinf, hk]
      have hlt : (0 : Int) ≤ (j : Int) ∧ (j : Int) < (l.length : Int) := by omega
      unfold execOp
      simp only [ho, hF.evs hx, hF.evs hy, Instr.indexAt, asIntOf, Sem.run_bind, Sem.run_pure, Result.andThen_ok, run_underlying hT.ht w]
      simp [hlt, hs, elp, Addr.add_lit]
theorem a_vstore1 (i : Nat) (hO : OneOf P e) (he : EncOf 1 enc) (hi : os[i]? = some (Vec e 1 enc v l)) (j : Nat) (hj : j < l.length) (a : α) {c : Value} (hc : enc a = [c]) (hd : o.dst = none) {x y : Operand} (ho : o.op = .store e x y) (hx : evs env x = some (elp v (j * 1))) (hy : evs env y = some c) : Acts P Q n env B w0 os o (fun _ : Unit => undef) (fun _ => os.set i (Vec e 1 enc v (l.set j a))) := fun act w hH hF K hK => by
  obtain ⟨rs, hv, hr⟩ := hH.thing i hi
  have h1c : c.oneCell' = true := he.one a c (by rw [hc]; simp)
  have hcc : c.cells = #[c] := by cases c <;> simp_all [Value.oneCell', Value.cells]
  rcases hv with ⟨_, h2, _⟩ | ⟨g, cap, cs, h2, hle, hmx, hsz, h5, h6⟩
  · subst h2; exact absurd hj (Nat.not_lt_zero _)
  · subst h6
    have hlt : j < cs.size := by rw [hsz]; omega
    subst h2
    obtain ⟨w', hrs, hR', hM⟩ := run_storeCells_at (P := P) g e c.cells.toList 0 cs w j hr.1 (by rw [hcc]; simp; omega) (fun u hu => by rw [hcc] at hu; simp at hu; subst hu; exact h1c)
    have hx' : evs env x = some (.pointer (some ⟨g, j, none⟩)) := by rw [hx]; simp [elp]
    have hR : Row w' g e (over? cs.toList j c.cells.toList).toArray := by simpa [over?] using hR'
    have hsz1 : c.cells.size = 1 := by rw [hcc]; rfl
    have hrun : (execOp act.eval o).run P w = .ok .skip w' := by
      unfold execOp
      simp [ho, hF.evs hx', hF.evs hy, Instr.storeAt, Instr.sureAddr, storeVar, hO.2, hsz1, hrs]
    unfold Oper.wp
    rw [hrun, Oper.upon_skip]
    refine (fun hp => (by have := hK () w' hp; rw [hd] at this ⊢; exact this)) ?_
    refine hH.turn i hi fun x hx _ _ => ?_
    have hxe : x = [(g, tyR e, cs)] ∨ True := .inr trivial
    rcases hx with ⟨h0, _, _⟩ | ⟨g', cap', cs', h0, _, _, hsz', h5', h6'⟩
    · simp at h0
    · simp at h0
      obtain ⟨rfl, rfl⟩ := h0
      subst h6'
      have hrow : cs' = cs := by
        have hr0 : RowsOf w [(g, tyR e, cs')] := ‹_›
        have e1 : w.heap[g]? = some (.cells cs' e (0, 0)) := hr0.1
        have e2 : w.heap[g]? = some (.cells cs e (0, 0)) := hr.1
        rw [e1] at e2
        simpa using e2
      subst hrow
      refine ⟨[(g, tyR e, (over? cs'.toList j c.cells.toList).toArray)], .inr ⟨g, cap, _, by simp, by simpa using hle, hmx, ?_, ?_, rfl⟩, ⟨hM.weaken fun q _ e' => ⟨(g, tyR e, cs'), by simp, e'.symm⟩, ⟨hR, trivial⟩, ⟨(fun _ h => by cases h), trivial⟩, fun x hx _ => ?_⟩⟩
      · rw [hcc]; simp [over?]; omega
      · have e1 : flat enc (l.set j a) = (flat enc l).set j c := by
          rw [← flat_set he hj a, Nat.mul_one, hc, List.set_eq_take_append_cons_drop, if_pos (by rw [flat_len he]; omega), List.append_assoc]
          rfl
        have e2 : over? cs'.toList j c.cells.toList = cs'.toList.set j c := by
          rw [List.set_eq_take_append_cons_drop, if_pos (by simpa using hlt), hcc]
          simp [over?]
        rw [List.length_set, e1, ← h5, e2, List.toList_toArray, List.take_set]
      · have : x = (g, tyR e, (over? cs'.toList j c.cells.toList).toArray) := by simpa using hx
        subst this
        exact ⟨(g, tyR e, cs'), by simp, rfl⟩
end walk
end Go.Proofs.Ytnebloeideodmaa.Sep

namespace Go.Proofs.Ytnebloeideodmaa.Sep
open Go.RowKit
open Go.Proofs.Ytnebloeideodmaa.Mem (Dist Blk Chg)

section slc
variable {P : Program} {ops : Array Oper} {Q : Exit → Act → World → Prop} {n d : Nat} {B : Nat → Prop} {w0 : World} {os : List Ass} {env : List (Nat × Value)} {rest : List Oper} {o : Oper}
variable {t t' e : TypeId} {k : Nat} {α : Type} {enc : α → List Value} {v u : Value} {l m : List α} {act : Act} {w : World}
theorem SliceT.sizeOf (hT : SliceT P t e k) (w : World) : (Go.sizeOf e).run P w = .ok k w := by
  obtain ⟨i, z, hi, _, hk, _⟩ := hT.inf
  simp [Go.sizeOf, typeInfo, hi, hk]
theorem run_sub_hi (hT : SliceT P t e k) {A : Option Addr} {sn c j : Nat} {kj : IntKind} (hj : j ≤ c) (w : World) :
    (Instr.sliceAt t (.slice A sn c) none (some (.int kj (j : Int))) none).run P w = .ok (subv k (.slice A sn c) 0 j) w := by
  have h2 : (0 : Int) ≤ (j : Int) ∧ (j : Int) ≤ (c : Int) := by omega
  simp [Instr.sliceAt, Instr.slice, Instr.sliceBounds, Instr.sliceBound, run_underlying hT.ht, asIntOf, hj, hT.sizeOf, subv]
theorem e_sub_hi {x z : Operand} {A : Option Addr} {sn c j : Nat} {kj : IntKind} {r : Value} (hT : SliceT P t e k) (hr : subv k (.slice A sn c) 0 j = r) (hj : j ≤ c) (ho : o.op = .slice t x none (some z) none) (hx : evs env x = some (.slice A sn c)) (hz : evs env z = some (.int kj (j : Int))) (hH : Hp B w0 w os) (hF : Fr n act env) : (execOp act.eval o).run P w = .ok (.value (r)) w := by
  unfold execOp
  simp only [ho, Option.map_some, Option.map_none, hF.evs hx, hF.evs hz, Sem.run_bind, run_sub_hi hT hj, Result.andThen_ok, Sem.run_pure, hr]
theorem e_cap {x : Operand} {A : Option Addr} {sn c : Nat} (hT : SliceT P t e k) (ho : o.op = .call { callee := .builtin .cap, args := #[x], argTypes := #[t] }) (hx : evs env x = some (.slice A sn c)) (hH : Hp B w0 w os) (hF : Fr n act env) : (execOp act.eval o).run P w = .ok (.value (.int .i64 (c : Int))) w := exec_bi ho (vs := [.slice A sn c]) (by simp [evl, hx]) (fun cs => by simp [builtin, Builtin.cap_, run_underlying hT.ht, goInt]) hF
theorem e_len {x : Operand} {A : Option Addr} {sn c : Nat} (hT : SliceT P t e k) (ho : o.op = .call { callee := .builtin .len, args := #[x], argTypes := #[t] }) (hx : evs env x = some (.slice A sn c)) (hH : Hp B w0 w os) (hF : Fr n act env) : (execOp act.eval o).run P w = .ok (.value (.int .i64 (sn : Int))) w := exec_bi ho (vs := [.slice A sn c]) (by simp [evl, hx]) (fun cs => run_len_slice hT.ht A sn c _ w cs) hF

/-! ## What writes into a row -/
/-! ## New slices, closures -/
theorem map_range0 {β : Type} (f : Nat → β) : (Array.map f (Array.range 0)) = #[] := Array.eq_empty_of_size_eq_zero (by simp)
theorem run_build1 (hT : SliceT P t e 1) {x : Value} (hx : x.cells = #[x]) (w : World) : (Instr.buildSlice t 1 #[(0, x)]).run P w = .ok (.slice (some ⟨w.heap.size, 0, none⟩) 1 1) (w.alloc (.cells #[x] e)) := by
  obtain ⟨inf, z, hinf, hz, hk, _, hzs, _⟩ := hT.inf
  simp [Instr.buildSlice, run_underlying hT.ht, hT.sizeOf, zeroValue, typeInfo, hinf, hz, Instr.fill, hx, newRow, Array.range_succ, map_range0]
theorem run_build0 (hT : SliceT P t e k) (w : World) : (Instr.buildSlice t 0 #[]).run P w = .ok (.slice (some ⟨w.heap.size, 0, none⟩) 0 0) (w.alloc (.cells #[] e)) := by
  simp [Instr.buildSlice, run_underlying hT.ht, hT.sizeOf, Instr.fill, newRow, map_range0]
theorem a_build1 (hT : SliceT P t e 1) (he : EncOf 1 enc) {x : Operand} {c : Value} (a : α) (hc : enc a = [c]) (ho : o.op = .buildSlice t 1 #[(0, x)]) (hx : evs env x = some c) : Acts P Q n env B w0 os o (fun v : Value => v) (fun v => Vec e 1 enc v [a] :: os) := fun b w hH hF K hK => by
  have h1c : c.oneCell' = true := he.one a c (by rw [hc]; simp)
  have hcc : c.cells = #[c] := by cases c <;> simp_all [Value.oneCell', Value.cells]
  have hrun : (execOp b.eval o).run P w = .ok (.value (.slice (some ⟨w.heap.size, 0, none⟩) 1 1)) (w.alloc (.cells #[c] e)) := by
    unfold execOp
    simp [ho, hF.evs hx, Sem.run_bind, run_build1 hT hcc]
  refine a_val (w0 := w) b hrun (hK _ _ ?_)
  have := hH.new e #[c]
  obtain ⟨rs, ⟨r1, r2, e1, h1, h2⟩, h3⟩ := this
  unfold cell at h1
  exact ⟨rs, ⟨r1, r2, e1, .inr ⟨w.heap.size, 1, #[c], rfl, Nat.le_refl _, by unfold maxLen; omega, rfl, by simp [flat, hc], h1⟩, h2⟩, h3⟩
theorem a_build0 (hT : SliceT P t e k) (ho : o.op = .buildSlice t 0 #[]) : Acts P Q n env B w0 os o (fun v : Value => v) (fun v => Vec e k enc v [] :: os) := fun b w hH hF K hK => by
  have hrun : (execOp b.eval o).run P w = .ok (.value (.slice (some ⟨w.heap.size, 0, none⟩) 0 0)) (w.alloc (.cells #[] e)) := by
    unfold execOp
    simp [ho, Sem.run_bind, run_build0 hT]
  refine a_val (w0 := w) b hrun (hK _ _ ?_)
  have := hH.new e #[]
  obtain ⟨rs, ⟨r1, r2, e1, h1, h2⟩, h3⟩ := this
  unfold cell at h1
  exact ⟨rs, ⟨r1, r2, e1, .inr ⟨w.heap.size, 0, #[], rfl, Nat.le_refl _, by unfold maxLen; omega, by simp, by simp [flat], h1⟩, h2⟩, h3⟩
/-- a nil slice is a thing at any time -/
theorem nil_thing {os : List Ass} (e : TypeId) (k : Nat) {α : Type} (enc : α → List Value) : ∀ rs, Parts os rs → ∃ _ : Unit, ∃ rs', rs.Perm rs' ∧ Parts (Vec e k enc (.slice none 0 0) [] :: os) rs' := fun rs h => ⟨(), rs, .refl _, [], rs, rfl, nilVec e k enc, h⟩
theorem d_nilvec (e : TypeId) (k : Nat) {α : Type} (enc : α → List Value) {c : Code} (h : WC2 P Q n env B w0 (Vec e k enc (.slice none 0 0) [] :: os) c) : WC2 P Q n env B w0 os c := WC2.via (fun _ : Unit => _) (nil_thing e k enc) fun _ => h
theorem e_func {F : FuncId} {caps : Array Operand} {vs : List Value} (ho : o.op = .makeFunc (.func F) #[] caps) (hx : evl env caps.toList = some vs) (hF : Fr n act env) : (execOp act.eval o).run P w = .ok (.value (.func (.func F) #[] vs.toArray)) w := by
  have h1 : caps.map act.eval = vs.toArray := by
    have := hF.evl hx
    rw [← this]
    cases caps; simp
  unfold execOp
  simp [ho, Instr.makeFunc, h1]
/-- a closure called: what it has captured comes behind the arguments -/
theorem exec_callc {F : FuncId} (hE : Ent P F) {f : Operand} {args : Array Operand} {ats : Array TypeId} {vs caps : List Value} (ho : o.op = .call { callee := .value f, args := args, argTypes := ats })
    (hf : evs env f = some (.func (.func F) #[] caps.toArray)) (hx : evl env args.toList = some vs) (hF : Fr n act env) : (execOp act.eval o).run P w = .ok (.enter F (vs ++ caps).toArray) w := by
  have h1 : args.map act.eval = vs.toArray := by
    have := hF.evl hx
    rw [← this]
    cases args; simp
  unfold execOp
  have h2 := hE (vs ++ caps).toArray w
  simp [ho, resolve, h1, hF.evs hf, Deferred.ofValue, invoke]
  simpa using h2
end slc
end Go.Proofs.Ytnebloeideodmaa.Sep

namespace Go.Proofs.Ytnebloeideodmaa.Sep
open Go.RowKit
open Go.Proofs.Ytnebloeideodmaa.Mem (Dist Blk Chg)

inductive KindS
  | quiet
  | skip
  | act (q : Nat)
  | actv (q : Nat)
/-- One operation. pat: of each that acts whether it has acted when this one comes (some true), has not (some false), or may have (none). f: its value, out of the results of those that have. -/
structure JobS where
  kind : KindS
  pat : List (Option Bool)
  f : List (Option Value) → Value
  deps : List Nat
def JobS.actOf (j : JobS) : Option Nat := match j.kind with | .act q => some q | .actv q => some q | _ => none
def atq : List (Option Value) → Nat → Value
  | [], _ => undef
  | r :: _, 0 => match r with | some v => v | none => undef
  | _ :: ρ, q + 1 => atq ρ q
def patAt : List (Option Bool) → Nat → Option Bool
  | [], _ => none
  | p :: _, 0 => p
  | _ :: ps, q + 1 => patAt ps q
def setq : List (Option Value) → Nat → Value → List (Option Value)
  | [], _, _ => []
  | _ :: ρ, 0, v => some v :: ρ
  | r :: ρ, q + 1, v => r :: setq ρ q v
def maskP : List (Option Bool) → List (Option Value) → List (Option Value)
  | p :: ps, r :: ρ => (match p with | some true => r | _ => none) :: maskP ps ρ
  | _, _ => []
def JobS.val (j : JobS) (ρ : List (Option Value)) : Value := match j.kind with | .act q => atq ρ q | _ => j.f (maskP j.pat ρ)
def AllP : List (Option Bool) → (List (Option Value) → Prop) → Prop
  | [], C => C []
  | some true :: ps, C => ∀ v, AllP ps fun ρ => C (some v :: ρ)
  | some false :: ps, C => AllP ps fun ρ => C (none :: ρ)
  | none :: ps, C => ∀ r, AllP ps fun ρ => C (r :: ρ)
def FitsP : List (Option Bool) → List (Option Value) → Prop
  | [], [] => True
  | p :: ps, r :: ρ => (match p with | some true => ∃ v, r = some v | some false => r = none | none => True) ∧ FitsP ps ρ
  | _, _ => False
theorem AllP.fit : ∀ {p : List (Option Bool)} {C : List (Option Value) → Prop} {ρ : List (Option Value)}, AllP p C → FitsP p ρ → C ρ
  | [], _, [], h, _ => h
  | some true :: ps, C, r :: ρ, h, ⟨⟨v, hv⟩, hf⟩ => by subst hv; exact AllP.fit (p := ps) (C := fun ρ => C (some v :: ρ)) (h v) hf
  | some false :: ps, C, r :: ρ, h, ⟨hv, hf⟩ => by
    have hv' : r = none := hv
    subst hv'
    exact AllP.fit (p := ps) (C := fun ρ => C (none :: ρ)) h hf
  | none :: ps, C, r :: ρ, h, ⟨_, hf⟩ => AllP.fit (p := ps) (C := fun ρ => C (r :: ρ)) (h r) hf
  | [], _, _ :: _, _, hf => hf.elim
  | _ :: _, _, [], _, hf => hf.elim
theorem fits_of : ∀ {p : List (Option Bool)} {ρ : List (Option Value)}, ρ.length = p.length → (∀ q, patAt p q = some true → ∃ v, ρ[q]? = some (some v)) → (∀ q, patAt p q = some false → ρ[q]? = some none) → FitsP p ρ
  | [], [], _, _, _ => trivial
  | p :: ps, r :: ρ, hl, h1, h2 => by
    refine ⟨?_, fits_of (by simpa using hl) (fun q hq => by simpa using h1 (q + 1) hq) (fun q hq => by simpa using h2 (q + 1) hq)⟩
    cases p with
    | none => trivial
    | some b =>
      cases b with
      | true => obtain ⟨v, hv⟩ := h1 0 rfl; exact ⟨v, by simpa using hv⟩
      | false => have := h2 0 rfl; simpa using this
  | [], _ :: _, hl, _, _ => by simp at hl
  | _ :: _, [], hl, _, _ => by simp at hl
theorem setq_len : ∀ (ρ : List (Option Value)) (q : Nat) (v : Value), (setq ρ q v).length = ρ.length
  | [], _, _ => rfl
  | _ :: _, 0, _ => rfl
  | _ :: ρ, q + 1, v => by simp [setq, setq_len ρ q v]
theorem setq_at : ∀ (ρ : List (Option Value)) (q : Nat) (v : Value) (k : Nat), (setq ρ q v)[k]? = if k = q then (if q < ρ.length then some (some v) else none) else ρ[k]?
  | [], q, v, k => by simp [setq]
  | r :: ρ, 0, v, k => by cases k <;> simp [setq]
  | r :: ρ, q + 1, v, k => by
    cases k with
    | zero => simp [setq]
    | succ k =>
      have := setq_at ρ q v k
      simp only [setq, List.getElem?_cons_succ, this, List.length_cons, Nat.add_lt_add_iff_right, Nat.add_right_cancel_iff]
theorem atq_of : ∀ {ρ : List (Option Value)} {q : Nat} {v : Value}, ρ[q]? = some (some v) → atq ρ q = v
  | [], q, v, h => by simp at h
  | r :: ρ, 0, v, h => by simp at h; subst h; rfl
  | r :: ρ, q + 1, v, h => by simp at h; exact atq_of (ρ := ρ) h
theorem mask_set : ∀ {p : List (Option Bool)} {ρ : List (Option Value)} {q : Nat} {v : Value}, patAt p q ≠ some true → maskP p (setq ρ q v) = maskP p ρ
  | [], ρ, q, v, _ => by cases ρ <;> cases q <;> rfl
  | p :: ps, [], q, v, _ => rfl
  | p :: ps, r :: ρ, 0, v, h => by
    cases p with
    | none => rfl
    | some b => cases b with
      | true => exact absurd rfl h
      | false => rfl
  | p :: ps, r :: ρ, q + 1, v, h => by
    show _ :: maskP ps (setq ρ q v) = _ :: maskP ps ρ
    rw [mask_set (p := ps) h]
theorem atq_set : ∀ {ρ : List (Option Value)} {q k : Nat} {v : Value}, k ≠ q → atq (setq ρ q v) k = atq ρ k
  | [], q, k, v, _ => rfl
  | r :: ρ, 0, 0, v, h => absurd rfl h
  | r :: ρ, 0, k + 1, v, h => rfl
  | r :: ρ, q + 1, 0, v, h => rfl
  | r :: ρ, q + 1, k + 1, v, h => atq_set (ρ := ρ) (by omega)

def depEnvS (ops : Array Oper) (jobs : List JobS) (ρ : List (Option Value)) : List Nat → List (Nat × Value)
  | [] => []
  | j :: r => match dstOf ops j, jobs[j]? with
    | some d, some J => (d, J.val ρ) :: depEnvS ops jobs ρ r
    | _, _ => depEnvS ops jobs ρ r
def eqAct (J : JobS) (q : Nat) : Bool := match J.actOf with | some q' => Nat.beq q' q | none => false
def isT : Option Bool → Bool
  | some true => true
  | _ => false
def okP (ops : Array Oper) (jobs : List JobS) (D i : Nat) (j : JobS) (q : Nat) : Bool := match patAt j.pat q with
  | some true => (List.range D).any fun p => edge ops i p && (match jobs[p]? with | some J => eqAct J q || isT (patAt J.pat q) | none => false)
  | some false => (match j.actOf with | some qi => Nat.beq qi q || jobs.any fun J => eqAct J q && isT (patAt J.pat qi) | none => false)
  | none => true
def jobOKS (ops : Array Oper) (jobs : List JobS) (n D m : Nat) (keys : List Nat) (i : Nat) : Bool :=
  match ops[i]?, jobs[i]? with
  | some o, some j =>
    (match o.dst with
      | some d => Nat.blt d n && !keys.contains d && (List.range D).all fun i' => Nat.beq i i' || dstOf ops i' != some d
      | none => (match j.actOf with | some _ => true | none => false)) &&
    o.after.all (fun e => !Region.binds .any e || Nat.blt e.on i) &&
    j.deps.all (fun e => Nat.blt e D && edge ops i e) &&
    Nat.beq j.pat.length m && (List.range m).all (okP ops jobs D i j) &&
    (match j.actOf with | some q => Nat.blt q m && (match patAt j.pat q with | some false => true | _ => false) && (List.range D).all fun i' => Nat.beq i i' || (match jobs[i']? with | some J => !eqAct J q | none => true) | none => true)
  | _, _ => false
def preds (ops : Array Oper) (i : Nat) : List Nat := match ops[i]? with | some o => (o.after.toList.filter fun e => Region.binds .any e).map (·.on) | none => []
def clos (ops : Array Oper) : Nat → List Nat → List Nat
  | 0, S => S
  | j + 1, S => clos ops j (match S.elem j with | true => preds ops j ++ S | false => S)
/-- a late operation comes behind all of the first part, or behind a late one -/
def lateOKS (ops : Array Oper) (D N i : Nat) : Bool :=
  (match clos ops D (preds ops i) with | l => (List.range D).all fun j => l.elem j) || (List.range N).any fun j => Nat.ble D j && edge ops i j
def parOKS (ops : Array Oper) (jobs : List JobS) (n D m : Nat) (keys : List Nat) : Bool :=
  Nat.ble D ops.size && Nat.beq jobs.length D && (List.range D).all (jobOKS ops jobs n D m keys) && (List.range ops.size).all (fun i => Nat.blt i D || lateOKS ops D ops.size i) &&
  (List.range (ops.size - D)).all (fun t => Region.ready .any ops (firstK (D + t) ops.size) == [D + t]) && (List.range m).all (fun q => jobs.any fun J => eqAct J q)
structure JobOKS (ops : Array Oper) (jobs : List JobS) (n D m : Nat) (keys : List Nat) (i : Nat) (o : Oper) (j : JobS) : Prop where
  dst : (∃ d, o.dst = some d ∧ d < n ∧ d ∉ keys ∧ ∀ i', i' < D → i' ≠ i → dstOf ops i' ≠ some d) ∨ (o.dst = none ∧ ∃ q, j.actOf = some q)
  edges : ∀ e ∈ o.after, Region.binds .any e = true → e.on < i
  deps : ∀ e ∈ j.deps, e < D ∧ edge ops i e = true
  len : j.pat.length = m
  t : ∀ q, q < m → patAt j.pat q = some true → ∃ p J, p < D ∧ edge ops i p = true ∧ jobs[p]? = some J ∧ (J.actOf = some q ∨ patAt J.pat q = some true)
  f : ∀ q, q < m → patAt j.pat q = some false → ∃ qi, j.actOf = some qi ∧ (qi = q ∨ ∃ J ∈ jobs, J.actOf = some q ∧ patAt J.pat qi = some true)
  act : ∀ q, j.actOf = some q → q < m ∧ patAt j.pat q = some false ∧ ∀ i' J, i' < D → i' ≠ i → jobs[i']? = some J → J.actOf ≠ some q
theorem eqAct_iff {J : JobS} {q : Nat} : eqAct J q = true ↔ J.actOf = some q := by
  unfold eqAct
  cases J.actOf with
  | none => simp
  | some q' => simp [beq_iff]
theorem isT_iff {x : Option Bool} : isT x = true ↔ x = some true := by
  cases x with
  | none => simp [isT]
  | some b => cases b <;> simp [isT]
theorem jobOKS_iff {ops : Array Oper} {jobs : List JobS} {n D m : Nat} {keys : List Nat} {i : Nat} (h : jobOKS ops jobs n D m keys i = true) : ∃ o j, ops[i]? = some o ∧ jobs[i]? = some j ∧ JobOKS ops jobs n D m keys i o j := by
  unfold jobOKS at h
  cases ho : ops[i]? with
  | none => simp [ho] at h
  | some o =>
    cases hj : jobs[i]? with
    | none => simp [ho, hj] at h
    | some j =>
      simp only [ho, hj, Bool.and_eq_true] at h
      obtain ⟨⟨⟨⟨⟨h1, h2⟩, h3⟩, h4⟩, h5⟩, h6⟩ := h
      refine ⟨o, j, rfl, rfl, ?_, ?_, ?_, beq_iff.1 h4, ?_, ?_, ?_⟩
      · cases hd : o.dst with
        | some d =>
          simp only [hd, Bool.and_eq_true] at h1
          obtain ⟨⟨ha, hb⟩, hc⟩ := h1
          refine .inl ⟨d, rfl, blt_lt ha, by simpa using hb, fun i' hi' hne he => ?_⟩
          have := List.all_eq_true.1 hc i' (by simpa using hi')
          simp only [Bool.or_eq_true] at this
          rcases this with h | h
          · exact hne (beq_iff.1 h).symm
          · simp [he] at h
        | none =>
          simp only [hd] at h1
          refine .inr ⟨rfl, ?_⟩
          cases ha : j.actOf with
          | none => simp [ha] at h1
          | some q => exact ⟨q, rfl⟩
      · intro e he hb
        have := Array.all_eq_true_iff_forall_mem.1 h2 e he
        simp only [hb, Bool.not_true, Bool.false_or] at this
        exact blt_lt this
      · intro e he
        have := List.all_eq_true.1 h3 e he
        simp only [Bool.and_eq_true] at this
        exact ⟨blt_lt this.1, this.2⟩
      · intro q hq hp
        have := List.all_eq_true.1 h5 q (by simpa using hq)
        unfold okP at this
        simp only [hp] at this
        obtain ⟨p, hp1, hp2⟩ := List.any_eq_true.1 this
        simp only [Bool.and_eq_true] at hp2
        cases hJ : jobs[p]? with
        | none => simp [hJ] at hp2
        | some J =>
          simp only [hJ, Bool.or_eq_true] at hp2
          exact ⟨p, J, by simpa using hp1, hp2.1, hJ, hp2.2.imp eqAct_iff.1 isT_iff.1⟩
      · intro q hq hp
        have := List.all_eq_true.1 h5 q (by simpa using hq)
        unfold okP at this
        simp only [hp] at this
        cases ha : j.actOf with
        | none => simp [ha] at this
        | some qi =>
          simp only [ha, Bool.or_eq_true] at this
          refine ⟨qi, rfl, this.imp beq_iff.1 fun h => ?_⟩
          obtain ⟨J, hJ1, hJ2⟩ := List.any_eq_true.1 h
          simp only [Bool.and_eq_true] at hJ2
          exact ⟨J, hJ1, eqAct_iff.1 hJ2.1, isT_iff.1 hJ2.2⟩
      · intro q hq
        simp only [hq, Bool.and_eq_true] at h6
        obtain ⟨⟨ha, hb⟩, hc⟩ := h6
        refine ⟨blt_lt ha, ?_, fun i' J hi' hne hJ hk => ?_⟩
        · cases hp : patAt j.pat q with
          | none => simp [hp] at hb
          | some b => cases b with
            | true => simp [hp] at hb
            | false => rfl
        · have := List.all_eq_true.1 hc i' (by simpa using hi')
          simp only [hJ, Bool.or_eq_true] at this
          rcases this with h | h
          · exact hne (beq_iff.1 h).symm
          · rw [eqAct_iff.2 hk] at h; cases h

section
variable (P : Program) (ops : Array Oper) (Q : Exit → Act → World → Prop) (n : Nat) (jobs : List JobS) (env0 : List (Nat × Value)) (B : Nat → Prop) (w0 : World) (S : List (Option Value) → List Ass)
/-- what is to be shown of one operation -/
def ObS (o : Oper) (j : JobS) : Prop :=
  match j.kind with
  | .quiet => AllP j.pat fun ρ => wants ops o (depEnvS ops jobs ρ j.deps ++ env0) = some true ∧ ∀ (b : Act) (w : World), Hp B w0 w (S ρ) → Fr n b (depEnvS ops jobs ρ j.deps ++ env0) → (execOp b.eval o).run P w = .ok (.value (j.f (maskP j.pat ρ))) w
  | .skip => AllP j.pat fun ρ => wants ops o (depEnvS ops jobs ρ j.deps ++ env0) = some false ∧ j.f (maskP j.pat ρ) = undef
  | .act q => AllP j.pat fun ρ => wants ops o (depEnvS ops jobs ρ j.deps ++ env0) = some true ∧ ∀ (b : Act) (w : World), Hp B w0 w (S ρ) → Fr n b (depEnvS ops jobs ρ j.deps ++ env0) → ∀ K : Act → World → Prop, (∀ v w', Hp B w0 w' (S (setq ρ q v)) → K (b.put o.dst v) w') → o.wp P b w K Q
  | .actv q => AllP j.pat fun ρ => wants ops o (depEnvS ops jobs ρ j.deps ++ env0) = some true ∧ ∀ (b : Act) (w : World), Hp B w0 w (S ρ) → Fr n b (depEnvS ops jobs ρ j.deps ++ env0) → ∀ K : Act → World → Prop, (∀ v w', Hp B w0 w' (S (setq ρ q v)) → K (b.put o.dst (j.f (maskP j.pat ρ))) w') → o.wp P b w K Q
def AllObS : List Oper → List JobS → Prop
  | o :: os, j :: js => ObS P ops Q n jobs env0 B w0 S o j ∧ AllObS os js
  | _, _ => True
end
/-- what holds while the first part is under way -/
structure InvS (ops : Array Oper) (n : Nat) (jobs : List JobS) (env0 : List (Nat × Value)) (B : Nat → Prop) (w0 : World) (S : List (Option Value) → List Ass) (D m : Nat) (listed : Array Bool) (a : Act) (ρ : List (Option Value)) (w : World) : Prop where
  size : listed.size = ops.size
  late : ∀ i, D ≤ i → i < ops.size → listed.getD i true = false
  closed : ∀ i e, i < D → listed.getD i true = true → edge ops i e = true → e < ops.size → listed.getD e true = true
  fr : Fr n a env0
  len : ρ.length = m
  yes : ∀ i j q, jobs[i]? = some j → j.actOf = some q → listed.getD i true = true → ∃ v, ρ[q]? = some (some v)
  no : ∀ i j q, jobs[i]? = some j → j.actOf = some q → listed.getD i true = false → ρ[q]? = some none
  vals : ∀ i j d, jobs[i]? = some j → dstOf ops i = some d → listed.getD i true = true → a.tmps[d]? = some (j.val ρ)
  hp : Hp B w0 w (S ρ)
section
variable {P : Program} {ops : Array Oper} {Q : Exit → Act → World → Prop} {n D m : Nat} {jobs : List JobS} {env0 : List (Nat × Value)} {B : Nat → Prop} {w0 : World} {S : List (Option Value) → List Ass}
theorem AllObS.at_ : ∀ {os : List Oper} {js : List JobS}, AllObS P ops Q n jobs env0 B w0 S os js → ∀ (i : Nat) (o : Oper) (j : JobS), os[i]? = some o → js[i]? = some j → ObS P ops Q n jobs env0 B w0 S o j
  | [], _, _, i, o, j, h, _ => by simp at h
  | _ :: _, [], _, i, o, j, _, h => by simp at h
  | o' :: os, j' :: js, h, 0, o, j, h1, h2 => by
    simp only [List.getElem?_cons_zero, Option.some.injEq] at h1 h2
    subst h1; subst h2
    exact h.1
  | o' :: os, j' :: js, h, i + 1, o, j, h1, h2 => by
    simp only [List.getElem?_cons_succ] at h1 h2
    exact AllObS.at_ h.2 i o j h1 h2
theorem s_cons {o : Oper} {os : List Oper} {j : JobS} {js : List JobS} (h : ObS P ops Q n jobs env0 B w0 S o j) (hs : AllObS P ops Q n jobs env0 B w0 S os js) : AllObS P ops Q n jobs env0 B w0 S (o :: os) (j :: js) := ⟨h, hs⟩
theorem s_nil {os : List Oper} : AllObS P ops Q n jobs env0 B w0 S os [] := by cases os <;> trivial
theorem fr_depS {listed : Array Bool} {a : Act} {ρ : List (Option Value)} {w : World} (hI : InvS ops n jobs env0 B w0 S D m listed a ρ w) : ∀ l : List Nat, (∀ e ∈ l, listed.getD e true = true) → Fr n a (depEnvS ops jobs ρ l)
  | [], _ => ⟨hI.fr.size, fun s v h => (by cases h), hI.fr.defers⟩
  | e :: l, h => by
    have ih := fr_depS hI l (fun x hx => h x (List.mem_cons_of_mem _ hx))
    unfold depEnvS
    cases hd : dstOf ops e with
    | none => exact ih
    | some d =>
      cases hj : jobs[e]? with
      | none => exact ih
      | some J =>
        refine ⟨hI.fr.size, fun s v hs => ?_, hI.fr.defers⟩
        simp only at hs
        rw [look_cons] at hs
        split at hs
        · rename_i he
          subst he
          cases hs
          exact hI.vals e J d hj hd (h e (by simp))
        · exact ih.get s v hs
/-- of those that the pattern says have acted, each has -/
theorem pat_listed (hJ : ∀ i, i < D → ∃ o j, ops[i]? = some o ∧ jobs[i]? = some j ∧ JobOKS ops jobs n D m (env0.map (·.1)) i o j) (hDN : D ≤ ops.size) {listed : Array Bool} (hc : ∀ i e, i < D → listed.getD i true = true → edge ops i e = true → e < ops.size → listed.getD e true = true) {q : Nat} (hq : q < m) :
    ∀ (k i : Nat) (j : JobS), i ≤ k → i < D → jobs[i]? = some j → patAt j.pat q = some true → (∀ e, edge ops i e = true → e < ops.size → listed.getD e true = true) → ∃ p J, jobs[p]? = some J ∧ p < i ∧ J.actOf = some q ∧ listed.getD p true = true := by
  intro k
  induction k with
  | zero =>
    intro i j hik hi hj hp hl
    obtain ⟨o, j', ho, hj', hok⟩ := hJ i hi
    rw [hj] at hj'; cases hj'
    obtain ⟨p, J, hpD, he, hJp, _⟩ := hok.t q hq hp
    obtain ⟨o', ho', e, hm, hb, rfl⟩ := edge_iff.1 he
    rw [ho] at ho'; cases ho'
    have := hok.edges e hm hb
    omega
  | succ k ih =>
    intro i j hik hi hj hp hl
    obtain ⟨o, j', ho, hj', hok⟩ := hJ i hi
    rw [hj] at hj'; cases hj'
    obtain ⟨p, J, hpD, he, hJp, hor⟩ := hok.t q hq hp
    have hlt : p < i := by
      obtain ⟨o', ho', e, hm, hb, rfl⟩ := edge_iff.1 he
      rw [ho] at ho'; cases ho'
      exact hok.edges e hm hb
    have hlp := hl p he (by omega)
    rcases hor with h | h
    · exact ⟨p, J, hJp, hlt, h, hlp⟩
    · obtain ⟨p', J', h1, h2, h3, h4⟩ := ih p J (by omega) hpD hJp h (fun e he' heN => hc p e hpD hlp he' heN)
      exact ⟨p', J', h1, by omega, h3, h4⟩
theorem inv_putS {listed : Array Bool} {a : Act} {ρ ρ' : List (Option Value)} {w w' : World} {i : Nat} {o : Oper} {j : JobS} {v : Value} (hI : InvS ops n jobs env0 B w0 S D m listed a ρ w) (hiD : i < D) (hDN : D ≤ ops.size) (hlen : jobs.length = D)
    (ho : ops[i]? = some o) (hj : jobs[i]? = some j) (hok : JobOKS ops jobs n D m (env0.map (·.1)) i o j) (hun : listed.getD i true = false) (hpre : ∀ e, edge ops i e = true → e < ops.size → listed.getD e true = true)
    (hv : o.dst.isSome = true → j.val ρ' = v) (hold : ∀ (i' : Nat) J, jobs[i']? = some J → i' ≠ i → listed.getD i' true = true → J.val ρ' = J.val ρ)
    (hl' : ρ'.length = m) (hy : ∀ q, j.actOf = some q → ∃ v, ρ'[q]? = some (some v)) (hn : ∀ (i' : Nat) J q, jobs[i']? = some J → J.actOf = some q → i' ≠ i → ρ'[q]? = ρ[q]?) (hp : Hp B w0 w' (S ρ')) :
    InvS ops n jobs env0 B w0 S D m (listed.setIfInBounds i true) (a.put o.dst v) ρ' w' := by
  have hsz : i < listed.size := by rw [hI.size]; omega
  have hlist : ∀ k, (listed.setIfInBounds i true).getD k true = if k = i then true else listed.getD k true := fun k => getD_set _ _ _ hsz
  have hjD : ∀ (i' : Nat) J, jobs[i']? = some J → i' < D := fun i' J h => by rw [← hlen]; exact (List.getElem?_eq_some_iff.1 h).1
  refine ⟨by simpa using hI.size, fun k hk hk' => ?_, fun k e hkD hk he heN => ?_, ?_, hl', fun i' J q hJ hk hl => ?_, fun i' J q hJ hk hl => ?_, fun i' J d' hJ hd' hl => ?_, hp⟩
  · rw [hlist, if_neg (by omega)]; exact hI.late k hk hk'
  · rw [hlist] at hk ⊢
    split
    · rfl
    · by_cases hki : k = i
      · subst hki; exact hpre e he heN
      · rw [if_neg hki] at hk; exact hI.closed k e hkD hk he heN
  · rcases hok.dst with ⟨d, hd, hdn, hkey, _⟩ | ⟨hd, _⟩
    · rw [hd]
      refine ⟨by simp [Act.put, hI.fr.size], fun s u hs => ?_, hI.fr.defers⟩
      have hne : d ≠ s := by
        rintro rfl
        apply hkey
        clear hkey
        revert hs
        generalize env0 = l
        induction l with
        | nil => intro hs; cases hs
        | cons p r ih =>
          obtain ⟨k, x⟩ := p
          intro hs
          rw [look_cons] at hs
          split at hs
          · rename_i he; subst he; simp
          · exact List.mem_cons_of_mem _ (ih hs)
      show (a.tmps.setIfInBounds d v)[s]? = some u
      rw [Array.getElem?_setIfInBounds_ne hne]
      exact hI.fr.get s u hs
    · rw [hd]; exact hI.fr
  · rw [hlist] at hl
    by_cases hi : i' = i
    · subst hi
      rw [hj] at hJ; cases hJ
      exact hy q hk
    · rw [if_neg hi] at hl
      rw [hn i' J q hJ hk hi]
      exact hI.yes i' J q hJ hk hl
  · rw [hlist] at hl
    by_cases hi : i' = i
    · rw [if_pos hi] at hl; cases hl
    · rw [if_neg hi] at hl
      rw [hn i' J q hJ hk hi]
      exact hI.no i' J q hJ hk hl
  · rw [hlist] at hl
    by_cases hi : i' = i
    · subst hi
      have e1 : dstOf ops i' = o.dst := by unfold dstOf; rw [ho]; rfl
      rw [e1] at hd'
      rw [hj] at hJ
      cases hJ
      rcases hok.dst with ⟨d, hd, hdn, _⟩ | ⟨hd, _⟩
      · rw [hd] at hd'
        cases hd'
        rw [hd]
        show (a.tmps.setIfInBounds d' v)[d']? = _
        rw [Array.getElem?_setIfInBounds_self_of_lt (by rw [hI.fr.size]; exact hdn), hv (by rw [hd]; rfl)]
      · rw [hd] at hd'; cases hd'
    · rw [if_neg hi] at hl
      rw [hold i' J hJ hi hl]
      rcases hok.dst with ⟨d, hd, hdn, _, hdis⟩ | ⟨hd, _⟩
      · have hne : d ≠ d' := fun e => hdis i' (hjD i' J hJ) hi (e ▸ hd')
        rw [hd]
        show (a.tmps.setIfInBounds d v)[d']? = _
        rw [Array.getElem?_setIfInBounds_ne hne]
        exact hI.vals i' J d' hJ hd' hl
      · rw [hd]; exact hI.vals i' J d' hJ hd' hl
theorem preds_edge {i e : Nat} (h : e ∈ preds ops i) : edge ops i e = true := by
  unfold preds at h
  cases ho : ops[i]? with
  | none => simp [ho] at h
  | some o =>
    simp only [ho, List.mem_map, List.mem_filter] at h
    obtain ⟨x, ⟨h1, h2⟩, rfl⟩ := h
    exact edge_iff.2 ⟨o, ho, x, by simpa using h1, h2, rfl⟩
theorem clos_listed {listed : Array Bool} (hDN : D ≤ ops.size) (hc : ∀ i e, i < D → listed.getD i true = true → edge ops i e = true → e < ops.size → listed.getD e true = true) : ∀ (k : Nat) (S : List Nat), k ≤ D → (∀ e ∈ S, e < ops.size → listed.getD e true = true) → ∀ e ∈ clos ops k S, e < ops.size → listed.getD e true = true
  | 0, S, _, h, e, he, heN => h e he heN
  | k + 1, S, hk, h, e, he, heN => by
    unfold clos at he
    refine clos_listed hDN hc k _ (by omega) (fun e he heN => ?_) e he heN
    cases hS : S.elem k with
    | false => rw [hS] at he; exact h e he heN
    | true =>
      rw [hS] at he
      rcases List.mem_append.1 he with he | he
      · exact hc k e (by omega) (h k (List.elem_iff.1 hS) (by omega)) (preds_edge he) heN
      · exact h e he heN
theorem par_mainS (hDN : D ≤ ops.size) (hlen : jobs.length = D) (hJ : ∀ i, i < D → ∃ o j, ops[i]? = some o ∧ jobs[i]? = some j ∧ JobOKS ops jobs n D m (env0.map (·.1)) i o j)
    (hlate : ∀ i, D ≤ i → i < ops.size → (∀ j, j < D → j ∈ clos ops D (preds ops i)) ∨ ∃ j, D ≤ j ∧ j < ops.size ∧ edge ops i j = true)
    (hOb : AllObS P ops Q n jobs env0 B w0 S ops.toList jobs) 
    (hend : ∀ a ρ w, InvS ops n jobs env0 B w0 S D m (firstK D ops.size) a ρ w → wpAny P .any ops Q (ops.size - D) (firstK D ops.size) a w) :
    ∀ (f : Nat) (listed : Array Bool) (a : Act) (ρ : List (Option Value)) (w : World), unl listed ops.size = f → InvS ops n jobs env0 B w0 S D m listed a ρ w → wpAny P .any ops Q f listed a w := by
  have hjD : ∀ (i' : Nat) J, jobs[i']? = some J → i' < D := fun i' J h => by rw [← hlen]; exact (List.getElem?_eq_some_iff.1 h).1
  have fin : ∀ (f : Nat) (listed : Array Bool) (a : Act) (ρ : List (Option Value)) (w : World), unl listed ops.size = f → InvS ops n jobs env0 B w0 S D m listed a ρ w → (∀ i, i < D → listed.getD i true = true) → wpAny P .any ops Q f listed a w := by
    intro f listed a ρ w hf hI hall
    have he := eq_firstK hI.size hDN hall hI.late
    have hun := unl_all listed D hall (fun i h1 h2 => hI.late i h1 (by rw [← hI.size]; exact h2)) ops.size (by rw [hI.size]; exact Nat.le_refl _)
    rw [hun] at hf
    subst hf
    rw [he] at hI ⊢
    exact hend a ρ w hI
  intro f
  induction f with
  | zero =>
    intro listed a ρ w hf hI
    refine fin 0 listed a ρ w hf hI (fun i hi => ?_)
    cases hc : listed.getD i true with
    | true => rfl
    | false =>
      have := unl_set listed i hc ops.size (by omega)
      omega
  | succ f ih =>
    intro listed a ρ w hf hI
    by_cases hall : ∀ i, i < D → listed.getD i true = true
    · exact fin (f + 1) listed a ρ w hf hI hall
    have hex : ∃ i, i < D ∧ listed.getD i true = false := by
      apply Classical.byContradiction
      intro hno
      apply hall
      intro i hi
      cases hc : listed.getD i true with
      | true => rfl
      | false => exact absurd ⟨i, hi, hc⟩ hno
    have hready : ∃ i, i ∈ Region.ready .any ops listed := by
      obtain ⟨i0, hi0, hu0⟩ := hex
      have key : ∀ k i, i ≤ k → i < D → listed.getD i true = false → ∃ i, i ∈ Region.ready .any ops listed := by
        intro k
        induction k with
        | zero =>
          intro i hik hi hu
          obtain ⟨o, j, ho, hj, hok⟩ := hJ i hi
          exact ⟨i, mem_ready.2 ⟨hu, o, ho, fun e he hb => by have := hok.edges e he hb; omega⟩⟩
        | succ k ihk =>
          intro i hik hi hu
          obtain ⟨o, j, ho, hj, hok⟩ := hJ i hi
          by_cases hr : ∀ e ∈ o.after, Region.binds .any e = true → listed.getD e.on false = true
          · exact ⟨i, mem_ready.2 ⟨hu, o, ho, hr⟩⟩
          · have : ∃ e ∈ o.after, Region.binds .any e = true ∧ listed.getD e.on false = false := by
              apply Classical.byContradiction
              intro hno
              apply hr
              intro e he hb
              cases hc : listed.getD e.on false with
              | true => rfl
              | false => exact absurd ⟨e, he, hb, hc⟩ hno
            obtain ⟨e, he, hb, hc⟩ := this
            have hlt := hok.edges e he hb
            have hin : e.on < listed.size := by rw [hI.size]; omega
            refine ihk e.on (by omega) (by omega) ?_
            simpa [hin] using hc
      exact key i0 i0 (Nat.le_refl _) hi0 hu0
    refine ⟨fun h0 => (by obtain ⟨i, hi⟩ := hready; rw [h0] at hi; simp at hi), fun i hi => ?_⟩
    have hun : listed.getD i true = false := (mem_ready.1 hi).1
    have hiN : i < ops.size := by
      obtain ⟨_, o, ho, _⟩ := mem_ready.1 hi
      exact (Array.getElem?_eq_some_iff.1 ho).1
    have hlt : ∀ e, e < ops.size → listed.getD e false = listed.getD e true := fun e he => by
      have : e < listed.size := by rw [hI.size]; exact he
      simp [this]
    have hdepl : ∀ e, edge ops i e = true → e < ops.size → listed.getD e true = true := fun e he heN => by
      rw [← hlt e heN]; exact ready_listed hi he
    have hiD : i < D := by
      apply Classical.byContradiction
      intro hge
      rcases hlate i (by omega) hiN with h | ⟨j, hjD', hjN, he⟩
      · obtain ⟨k, hk, hku⟩ := hex
        have := clos_listed (D := D) (ops := ops) hDN hI.closed D (preds ops i) (Nat.le_refl _) (fun e he heN => hdepl e (preds_edge he) heN) k (h k hk) (by omega)
        rw [hku] at this
        cases this
      · have h1 := hdepl j he hjN
        rw [hI.late j hjD' hjN] at h1
        cases h1
    obtain ⟨o, j, ho, hj, hok⟩ := hJ i hiD
    have hob := hOb.at_ i o j (by simpa using ho) hj
    have hFr : Fr n a (depEnvS ops jobs ρ j.deps ++ env0) := Fr.app (fr_depS hI j.deps (fun e he => hdepl e (hok.deps e he).2 (by have := (hok.deps e he).1; omega))) hI.fr
    have hf' : unl (listed.setIfInBounds i true) ops.size = f := by
      have := unl_set listed i hun ops.size hiN
      omega
    have hm_of : ∀ q, patAt j.pat q ≠ none → q < m := by
      intro q hq
      rw [← hok.len]
      revert hq
      generalize j.pat = l
      intro hq
      apply Classical.byContradiction
      intro hge
      apply hq
      have : ∀ (l : List (Option Bool)) (q : Nat), l.length ≤ q → patAt l q = none := by
        intro l
        induction l with
        | nil => intro q _; rfl
        | cons x r ih =>
          intro q h
          cases q with
          | zero => simp at h
          | succ q => exact ih q (by simpa using h)
      exact this l q (by omega)
    have hfit : FitsP j.pat ρ := by
      refine fits_of (by rw [hI.len, hok.len]) (fun q hq => ?_) (fun q hq => ?_)
      · obtain ⟨p, J, h1, _, h3, h4⟩ := pat_listed hJ hDN hI.closed (hm_of q (by rw [hq]; simp)) i i j (Nat.le_refl _) hiD hj hq hdepl
        exact hI.yes p J q h1 h3 h4
      · obtain ⟨qi, hk, hor⟩ := hok.f q (hm_of q (by rw [hq]; simp)) hq
        rcases hor with rfl | ⟨J, hJm, hJk, hJp⟩
        · exact hI.no i j qi hj hk hun
        · obtain ⟨p, hp⟩ := List.getElem?_of_mem hJm
          refine hI.no p J q hp hJk ?_
          cases hl : listed.getD p true with
          | false => rfl
          | true =>
            obtain ⟨o', J', ho', hJ', hok'⟩ := hJ p (hjD p J hp)
            obtain ⟨p', J2, h1, _, h3, h4⟩ := pat_listed hJ hDN hI.closed (hok.act qi hk).1 p p J (Nat.le_refl _) (hjD p J hp) hp hJp (fun e he heN => hI.closed p e (hjD p J hp) hl he heN)
            by_cases hpi : p' = i
            · subst hpi; rw [hun] at h4; cases h4
            · exact absurd h3 ((hok.act qi hk).2.2 p' J2 (hjD p' J2 h1) hpi h1)
    unfold wpOp
    simp only [ho]
    cases hk : j.kind with
    | quiet =>
      unfold ObS at hob
      simp only [hk] at hob
      obtain ⟨hw, hrun⟩ := hob.fit hfit
      rw [if_pos (hFr.wants hw)]
      refine .inl ?_
      unfold Oper.wp
      rw [hrun a w hI.hp hFr, Oper.upon_value]
      exact ih _ _ ρ w hf' (inv_putS hI hiD hDN hlen ho hj hok hun hdepl (fun _ => by simp [JobS.val, hk]) (fun _ _ _ _ _ => rfl) hI.len (fun q h => by simp [JobS.actOf, hk] at h) (fun _ _ _ _ _ _ => rfl) hI.hp)
    | skip =>
      unfold ObS at hob
      simp only [hk] at hob
      obtain ⟨hw, hv⟩ := hob.fit hfit
      rw [if_neg (by rw [hFr.wants hw]; simp)]
      exact ih _ _ ρ w hf' (inv_putS hI hiD hDN hlen ho hj hok hun hdepl (fun _ => by simp [JobS.val, hk, hv]) (fun _ _ _ _ _ => rfl) hI.len (fun q h => by simp [JobS.actOf, hk] at h) (fun _ _ _ _ _ _ => rfl) hI.hp)
    | act q =>
      unfold ObS at hob
      simp only [hk] at hob
      obtain ⟨hw, hrun⟩ := hob.fit hfit
      rw [if_pos (hFr.wants hw)]
      have hka : j.actOf = some q := by simp [JobS.actOf, hk]
      obtain ⟨hqm, hqf, huniq⟩ := hok.act q hka
      refine .inl (hrun a w hI.hp hFr _ fun v w' hp => ?_)
      have hql : q < ρ.length := by rw [hI.len]; exact hqm
      refine ih _ _ (setq ρ q v) w' hf' (inv_putS hI hiD hDN hlen ho hj hok hun hdepl (fun _ => ?_) (fun i' J hJ' hne hl => ?_) (by rw [setq_len]; exact hI.len) (fun q' h => ?_) (fun i' J q' hJ' hk' hne => ?_) hp)
      · unfold JobS.val
        simp only [hk]
        exact atq_of (by rw [setq_at, if_pos rfl, if_pos hql])
      · -- what is listed does not lean on it
        have hnt : patAt J.pat q ≠ some true := fun hp => by
          obtain ⟨p', J2, h1, h2, h3, h4⟩ := pat_listed hJ hDN hI.closed hqm i' i' J (Nat.le_refl _) (hjD i' J hJ') hJ' hp (fun e he heN => hI.closed i' e (hjD i' J hJ') hl he heN)
          by_cases hpi : p' = i
          · subst hpi; rw [hun] at h4; cases h4
          · exact huniq p' J2 (hjD p' J2 h1) hpi h1 h3
        unfold JobS.val
        cases hk2 : J.kind with
        | act q2 =>
          have : q2 ≠ q := fun e => by subst e; exact huniq i' J (hjD i' J hJ') hne hJ' (by simp [JobS.actOf, hk2])
          exact atq_set this
        | actv q2 => simp only [mask_set hnt]
        | quiet => simp only [mask_set hnt]
        | skip => simp only [mask_set hnt]
      · rw [hka] at h; cases h
        exact ⟨v, by rw [setq_at, if_pos rfl, if_pos hql]⟩
      · rw [setq_at, if_neg (fun e => by subst e; exact huniq i' J (hjD i' J hJ') hne hJ' hk')]
    | actv q =>
      unfold ObS at hob
      simp only [hk] at hob
      obtain ⟨hw, hrun⟩ := hob.fit hfit
      rw [if_pos (hFr.wants hw)]
      have hka : j.actOf = some q := by simp [JobS.actOf, hk]
      obtain ⟨hqm, hqf, huniq⟩ := hok.act q hka
      refine .inl (hrun a w hI.hp hFr _ fun v w' hp => ?_)
      have hql : q < ρ.length := by rw [hI.len]; exact hqm
      refine ih _ _ (setq ρ q v) w' hf' (inv_putS hI hiD hDN hlen ho hj hok hun hdepl (fun _ => ?_) (fun i' J hJ' hne hl => ?_) (by rw [setq_len]; exact hI.len) (fun q' h => ?_) (fun i' J q' hJ' hk' hne => ?_) hp)
      · unfold JobS.val
        simp only [hk]
        rw [mask_set (by rw [hqf]; simp)]
      · -- what is listed does not lean on it
        have hnt : patAt J.pat q ≠ some true := fun hp => by
          obtain ⟨p', J2, h1, h2, h3, h4⟩ := pat_listed hJ hDN hI.closed hqm i' i' J (Nat.le_refl _) (hjD i' J hJ') hJ' hp (fun e he heN => hI.closed i' e (hjD i' J hJ') hl he heN)
          by_cases hpi : p' = i
          · subst hpi; rw [hun] at h4; cases h4
          · exact huniq p' J2 (hjD p' J2 h1) hpi h1 h3
        unfold JobS.val
        cases hk2 : J.kind with
        | act q2 =>
          have : q2 ≠ q := fun e => by subst e; exact huniq i' J (hjD i' J hJ') hne hJ' (by simp [JobS.actOf, hk2])
          exact atq_set this
        | actv q2 => simp only [mask_set hnt]
        | quiet => simp only [mask_set hnt]
        | skip => simp only [mask_set hnt]
      · rw [hka] at h; cases h
        exact ⟨v, by rw [setq_at, if_pos rfl, if_pos hql]⟩
      · rw [setq_at, if_neg (fun e => by subst e; exact huniq i' J (hjD i' J hJ') hne hJ' hk')]
theorem parOKS_parts {keys : List Nat} (h : parOKS ops jobs n D m keys = true) : D ≤ ops.size ∧ jobs.length = D ∧ (∀ i, i < D → jobOKS ops jobs n D m keys i = true) ∧ (∀ i, D ≤ i → i < ops.size → (∀ j, j < D → j ∈ clos ops D (preds ops i)) ∨ ∃ j, D ≤ j ∧ j < ops.size ∧ edge ops i j = true) ∧
    (∀ t, D ≤ t → t < ops.size → Region.ready .any ops (firstK t ops.size) = [t]) ∧ (∀ q, q < m → ∃ (p : Nat) (J : JobS), jobs[p]? = some J ∧ J.actOf = some q) := by
  unfold parOKS at h
  simp only [Bool.and_eq_true] at h
  obtain ⟨⟨⟨⟨⟨h1, h2⟩, h3⟩, h4⟩, h5⟩, h6⟩ := h
  refine ⟨Nat.le_of_ble_eq_true h1, beq_iff.1 h2, fun i hi => List.all_eq_true.1 h3 i (by simpa using hi), fun i hiD hiN => ?_, fun t htD htN => ?_, fun q hq => ?_⟩
  · have := List.all_eq_true.1 h4 i (by simpa using hiN)
    simp only [Bool.or_eq_true] at this
    rcases this with h | h
    · have := blt_lt h; omega
    · unfold lateOKS at h
      simp only [Bool.or_eq_true] at h
      rcases h with h | h
      · exact .inl fun j hj => List.elem_iff.1 (List.all_eq_true.1 h j (by simpa using hj))
      · obtain ⟨j, hj1, hj2⟩ := List.any_eq_true.1 h
        simp only [Bool.and_eq_true] at hj2
        exact .inr ⟨j, Nat.le_of_ble_eq_true hj2.1, by simpa using hj1, hj2.2⟩
  · have := List.all_eq_true.1 h5 (t - D) (by simp; omega)
    rw [show D + (t - D) = t by omega] at this
    exact eq_of_beq this
  · obtain ⟨J, hJ1, hJ2⟩ := List.any_eq_true.1 (List.all_eq_true.1 h6 q (by simpa using hq))
    obtain ⟨p, hp⟩ := List.getElem?_of_mem hJ1
    exact ⟨p, J, hp, eqAct_iff.1 hJ2⟩
def finEnvS (ops : Array Oper) (jobs : List JobS) (ρ : List (Option Value)) (D : Nat) : List (Nat × Value) := depEnvS ops jobs ρ (List.range D)
theorem patAt_rep : ∀ (m q : Nat), patAt (List.replicate m (some true)) q = some true → q < m
  | 0, q, h => by simp [patAt] at h
  | m + 1, 0, _ => by omega
  | m + 1, q + 1, h => by have := patAt_rep m q h; omega
theorem patAt_repF : ∀ (m q : Nat), patAt (List.replicate m (some true)) q ≠ some false
  | 0, q => by simp [patAt]
  | m + 1, 0 => by simp [List.replicate_succ, patAt]
  | m + 1, q + 1 => patAt_repF m q
/-- THE REGION -/
theorem d_parS {id : Nat} {env : List (Nat × Value)} {os : List Ass} (D m : Nat) (jobs : List JobS) (env0 : List (Nat × Value)) (S : List (Option Value) → List Ass) (hmix : P.follows .mixedOrders = true) (hok : parOKS ops jobs n D m (env0.map (·.1)) = true) (hs : Sub env env0) (hS : os = S (List.replicate m none))
    (hOb : AllObS P ops Q n jobs env0 B w0 S ops.toList jobs)
    (hend : AllP (List.replicate m (some true)) fun ρ => WL2 P ops Q n (finEnvS ops jobs ρ D ++ env0) B w0 (S ρ) (ops.toList.drop D)) : WC2 P Q n env B w0 os (.region id ops true) := fun a w hF hH => by
  obtain ⟨hDN, hlen, hJ, hlate, hr, hm⟩ := parOKS_parts hok
  refine wp_region_any hmix ?_
  have hz : ∀ i, i < ops.size → (Array.replicate ops.size false).getD i true = false := fun i hi => by simp [hi]
  have hjN : ∀ (i : Nat) j, jobs[i]? = some j → i < ops.size := fun i j h => by have := (List.getElem?_eq_some_iff.1 h).1; omega
  have hinit : InvS ops n jobs env0 B w0 S D m (Array.replicate ops.size false) a (List.replicate m none) w.drew := by
    refine ⟨by simp, fun i _ hi => hz i hi, fun i e hi hl => ?_, hF.keep hs, by simp, fun i j q hj _ hl => ?_, fun i j q hj hk _ => ?_, fun i j d hj _ hl => ?_, by rw [← hS]; exact hH.drew⟩
    · rw [hz i (by omega)] at hl; cases hl
    · rw [hz i (hjN i j hj)] at hl; cases hl
    · obtain ⟨o, j', ho, hj', hok'⟩ := jobOKS_iff (hJ i (by rw [← hlen]; exact (List.getElem?_eq_some_iff.1 hj).1))
      rw [hj] at hj'; cases hj'
      have := (hok'.act q hk).1
      simp [this]
    · rw [hz i (hjN i j hj)] at hl; cases hl
  have hunl : unl (Array.replicate ops.size false) ops.size = ops.size := by
    have := unl_all (Array.replicate ops.size false) 0 (fun i h => by omega) (fun i _ h => hz i (by simpa using h)) ops.size (by simp)
    simpa using this
  refine par_mainS hDN hlen (fun i hi => jobOKS_iff (hJ i hi)) hlate hOb (fun a ρ w hI => ?_) ops.size _ a _ w.drew hunl hinit
  refine any_list hr (ops.size - D) D a w (by omega) (Nat.le_refl _) ?_
  have hl : ∀ i, i < D → (firstK D ops.size).getD i true = true := fun i hi => by rw [firstK_get (by omega)]; simpa using hi
  have hjD : ∀ (i : Nat) j, jobs[i]? = some j → i < D := fun i j h => by rw [← hlen]; exact (List.getElem?_eq_some_iff.1 h).1
  have hfit : FitsP (List.replicate m (some true)) ρ := fits_of (by rw [hI.len]; simp) (fun q hq => by
    obtain ⟨p, J, hp, hk⟩ := hm q (patAt_rep m q hq)
    exact hI.yes p J q hp hk (hl p (hjD p J hp))) (fun q hq => absurd hq (patAt_repF m q))
  exact hend.fit hfit a w (Fr.app (fr_depS hI _ (fun e he => hl e (by simpa using he))) hI.fr) hI.hp
end
end Go.Proofs.Ytnebloeideodmaa.Sep
