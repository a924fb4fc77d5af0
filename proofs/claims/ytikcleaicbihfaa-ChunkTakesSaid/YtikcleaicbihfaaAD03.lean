/-
  Vec · Slc
-/
import Derived.Test.YtikcleaicbihfaaAD02
import Derived.Lib.Overlaps
import Derived.Lib.AppendZerosOnto
import Derived.Maps.AppendAt
import Derived.Lib.SliceRun
set_option linter.unusedSimpArgs false
set_option linter.unusedVariables false

namespace Go.Proofs.Ytikcleaicbihfaa.Sep
open Go.RowKit
open Go.Proofs.Ytikcleaicbihfaa.Mem (Dist Blk Chg)

/-- t is []e, and e takes k cells -/
structure SliceT (P : Program) (t e : TypeId) (k : Nat) : Prop where
  ht : P.underlying t = some (.slice e)
  inf : ∃ i z, P.info? e = some i ∧ i.zero = some z ∧ i.size = k ∧ i.bytes ≤ 4096 ∧ z.cells.size = k ∧ ∀ u ∈ z.cells.toList, u.oneCell' = true
  pos : 0 < k
structure EncOf {α : Type} (k : Nat) (enc : α → List Value) : Prop where
  len : ∀ x, (enc x).length = k
  one : ∀ x, ∀ v ∈ enc x, v.oneCell' = true
def flat {α : Type} (enc : α → List Value) (l : List α) : List Value := l.flatMap enc
section flats
variable {α : Type} {k : Nat} {enc : α → List Value}
theorem flat_cons (x : α) (l : List α) : flat enc (x :: l) = enc x ++ flat enc l := rfl
theorem flat_app (l m : List α) : flat enc (l ++ m) = flat enc l ++ flat enc m := by simp [flat]
theorem flat_len (h : EncOf k enc) : ∀ l : List α, (flat enc l).length = l.length * k
  | [] => by simp [flat]
  | x :: l => by rw [flat_cons, List.length_append, h.len, flat_len h l, List.length_cons, Nat.add_mul]; omega
theorem flat_one (h : EncOf k enc) (l : List α) : ∀ v ∈ flat enc l, v.oneCell' = true := fun v hv => by
  obtain ⟨x, _, hx⟩ := List.mem_flatMap.1 hv
  exact h.one x v hx
theorem flat_take (h : EncOf k enc) : ∀ (l : List α) (i : Nat), (flat enc l).take (i * k) = flat enc (l.take i)
  | [], i => by simp [flat]
  | x :: l, 0 => by simp [flat]
  | x :: l, i + 1 => by
    rw [flat_cons, List.take_succ_cons, flat_cons, Nat.add_mul, Nat.one_mul, Nat.add_comm, List.take_append, h.len, Nat.add_sub_cancel_left, flat_take h l i, List.take_of_length_le (by rw [h.len]; omega)]
theorem flat_drop (h : EncOf k enc) : ∀ (l : List α) (i : Nat), (flat enc l).drop (i * k) = flat enc (l.drop i)
  | [], i => by simp [flat]
  | x :: l, 0 => by simp [flat]
  | x :: l, i + 1 => by
    rw [flat_cons, List.drop_succ_cons, Nat.add_mul, Nat.one_mul, Nat.add_comm, List.drop_append, h.len, Nat.add_sub_cancel_left, flat_drop h l i, List.drop_of_length_le (by rw [h.len]; omega), List.nil_append]
theorem flat_at (h : EncOf k enc) {l : List α} {i : Nat} {x : α} (hi : l[i]? = some x) : ((flat enc l).drop (i * k)).take k = enc x := by
  rw [flat_drop h, List.drop_eq_getElem_cons (List.getElem?_eq_some_iff.1 hi).1, (List.getElem?_eq_some_iff.1 hi).2, flat_cons, List.take_append_of_le_length (by rw [h.len]; exact Nat.le_refl _), List.take_of_length_le (by rw [h.len]; exact Nat.le_refl _)]
theorem flat_set (h : EncOf k enc) {l : List α} {i : Nat} (hi : i < l.length) (x : α) : (flat enc l).take (i * k) ++ enc x ++ (flat enc l).drop (i * k + k) = flat enc (l.set i x) := by
  rw [flat_take h, show i * k + k = (i + 1) * k by rw [Nat.add_mul]; omega, flat_drop h, List.set_eq_take_append_cons_drop, if_pos hi, flat_app, flat_cons, List.append_assoc]
theorem flat_get (h : EncOf k enc) {l : List α} {i : Nat} {x : α} (hi : l[i]? = some x) {j : Nat} (hj : j < k) : (flat enc l)[i * k + j]? = (enc x)[j]? := by
  rw [← flat_at h hi, List.getElem?_take, if_pos hj, List.getElem?_drop]
end flats

/-- v is a slice in a row of its own, or nil, and holds l -/
def Vec (e : TypeId) (k : Nat) {α : Type} (enc : α → List Value) (v : Value) (l : List α) : Ass := fun rs =>
  (v = .slice none 0 0 ∧ l = [] ∧ rs = []) ∨
  ∃ g c cs, v = .slice (some ⟨g, 0, none⟩) l.length c ∧ l.length ≤ c ∧ c ≤ maxLen ∧ cs.size = c * k ∧ cs.toList.take (l.length * k) = flat enc l ∧ rs = [(g, tyR e, cs)]
/-- u is a slice that reads as the cells ys, m elements -/
def SlRd (w : World) (k : Nat) (u : Value) (m : Nat) (ys : List Value) : Prop := ys.length = m * k ∧ ∃ A c, u = .slice A m c ∧ ((A = none ∧ m = 0) ∨ ∃ a, A = some a ∧ ∀ j x, ys[j]? = some x → w.cell? (a.add j) = some x)
/-- the address of a slice's cell -/
def elp : Value → Nat → Value
  | .slice (some ⟨g, off, _⟩) _ _, i => .pointer (some ⟨g, off + i, none⟩)
  | _, _ => undef
/-- a part of a slice -/
def subv (k : Nat) : Value → Nat → Nat → Value
  | .slice A _ c, i, j => .slice (if c = i then A else A.map (·.add (i * k))) (j - i) (c - i)
  | _, _, _ => undef
theorem nilVec (e : TypeId) (k : Nat) {α : Type} (enc : α → List Value) : Vec e k enc (.slice none 0 0) [] [] := .inl ⟨rfl, rfl, rfl⟩

section vecs
variable {P : Program} {t e ty : TypeId} {k : Nat} {α : Type} {enc : α → List Value} {v u : Value} {l m : List α} {w w' : World} {rs : List RowT}
theorem Vec.is (h : Vec e k enc v l rs) : ∃ A c, v = .slice A l.length c := by
  rcases h with ⟨h1, h2, _⟩ | ⟨g, c, cs, h1, _⟩
  · exact ⟨none, 0, by rw [h1, h2]; rfl⟩
  · exact ⟨_, c, h1⟩
theorem Vec.c1 (h : Vec e k enc v l rs) : v.cells = #[v] ∧ v.oneCell' = true := by
  obtain ⟨A, c, rfl⟩ := h.is
  exact ⟨rfl, rfl⟩
theorem Vec.take_ (he : EncOf k enc) {cs : Array Value} (h : cs.toList.take (l.length * k) = flat enc l) {j : Nat} {x : Value} (hj : (flat enc l)[j]? = some x) : cs[j]? = some x := by
  rw [← h] at hj
  rw [List.getElem?_take] at hj
  split at hj
  · simpa using hj
  · cases hj
/-- what it reads as, from number i on up to number j -/
theorem Vec.part (he : EncOf k enc) (h : Vec e k enc v l rs) (hr : RowsOf w rs) {i j : Nat} (hij : i ≤ j) (hj : j ≤ l.length) : SlRd w k (subv k v i j) (j - i) (flat enc ((l.take j).drop i)) := by
  refine ⟨by rw [flat_len he, List.length_drop, List.length_take]; congr 1; omega, ?_⟩
  rcases h with ⟨h1, h2, h3⟩ | ⟨g, c, cs, h1, h2, h3, h4, h5, h6⟩
  · subst h1; subst h2
    have : j = 0 := by simpa using hj
    subst this
    have : i = 0 := by omega
    subst this
    exact ⟨none, 0, rfl, .inl ⟨rfl, rfl⟩⟩
  · subst h1; subst h6
    by_cases hc : c = i
    · subst hc
      have : j = c := by omega
      subst this
      refine ⟨some ⟨g, 0, none⟩, j - j, by simp [subv], .inr ⟨_, rfl, fun q x hx => ?_⟩⟩
      rw [List.drop_of_length_le (by rw [List.length_take]; omega)] at hx
      simp [flat] at hx
    · refine ⟨some ⟨g, i * k, none⟩, c - i, by simp only [subv, if_neg hc, Option.map_some, Addr.add_lit, Nat.zero_add], .inr ⟨_, rfl, fun q x hx => ?_⟩⟩
      rw [Addr.add_lit, hr.1.cell]
      refine Vec.take_ he h5 (l := l) ?_
      rw [← flat_drop he, ← flat_take he, List.getElem?_drop] at hx
      rw [List.getElem?_take] at hx
      split at hx
      · exact hx
      · cases hx
theorem Vec.all (he : EncOf k enc) (h : Vec e k enc v l rs) (hr : RowsOf w rs) : SlRd w k v l.length (flat enc l) := by
  refine ⟨flat_len he l, ?_⟩
  rcases h with ⟨h1, h2, h3⟩ | ⟨g, c, cs, h1, h2, h3, h4, h5, h6⟩
  · subst h1; subst h2; exact ⟨none, 0, rfl, .inl ⟨rfl, rfl⟩⟩
  · subst h1; subst h6
    exact ⟨_, c, rfl, .inr ⟨_, rfl, fun q x hx => by rw [Addr.add_lit, Nat.zero_add, hr.1.cell]; exact Vec.take_ he h5 hx⟩⟩
theorem SlRd.small (h : SlRd w k u 0 []) : ∃ A c, u = .slice A 0 c := by obtain ⟨_, A, c, e, _⟩ := h; exact ⟨A, c, e⟩
/-- append onto it -/
theorem run_append_vec (hT : SliceT P t e k) (he : EncOf k enc) (h : Vec e k enc v l rs) (hr : RowsOf w rs) (hd : Dist rs) (hu : SlRd w k u m.length (flat enc m)) (hlen : l.length + m.length ≤ 34359738368) :
    ∃ v' w', (Builtin.append_ #[t, t] ty #[v, u]).run P w = .ok v' w' ∧ ∃ rs', Vec e k enc v' (l ++ m) rs' ∧ Chg w w' rs rs' := by
  obtain ⟨i, z, hi, hz, hk, hby, hzs, _⟩ := hT.inf
  obtain ⟨hul, A, c, rfl, hA⟩ := hu
  have hu1 := flat_one he m
  rcases hA with ⟨rfl, hm⟩ | ⟨a, rfl, hcells⟩
  · have hm' : m = [] := List.length_eq_zero_iff.1 hm
    subst hm'
    refine ⟨v, w, ?_, rs, by simpa using h, ⟨Mod.refl _ _, hr, hd, fun x hx _ => ⟨x, hx, rfl⟩⟩⟩
    rcases h with ⟨h1, h2, h3⟩ | ⟨g, c', cs, h1, h2, h3, h4, h5, h6⟩
    · subst h1
      simp [Builtin.append_, run_underlying hT.ht, sizeOf, typeInfo, hi, Builtin.lenOf, Builtin.firstCells]
    · subst h1
      simp [Builtin.append_, run_underlying hT.ht, sizeOf, typeInfo, hi, Builtin.lenOf, Builtin.firstCells, h2, storeCells]
  · have hown : w.ownsRow 0 e k v l.length (flat enc l) := by
      refine ⟨flat_len he l, ?_⟩
      rcases h with ⟨h1, h2, h3⟩ | ⟨g, c', cs, h1, h2, h3, h4, h5, h6⟩
      · exact .inl ⟨h1, by rw [h2]; rfl⟩
      · subst h6
        exact .inr ⟨g, c', cs, h1, Nat.zero_le _, hr.1, h2, h3, h4, h5⟩
    obtain ⟨v', w', hrun, h2, h3, _, h5⟩ := run_append_own_at (P := P) w 0 t ty e i z k i.bytes hT.ht hi hz hk rfl hzs hT.pos v l.length (flat enc l) hown a m.length c (flat enc m) hul hcells hu1 (by unfold maxLen; omega)
      (by have := Nat.mul_le_mul (show l.length + m.length ≤ 34359738368 from hlen) hby; omega) (Nat.zero_le _)
    refine ⟨v', w', hrun, ?_⟩
    have hm : Mod (At v) w w' := Mod.of_grown h3 (fun k hk => hk)
    have hmB : Mod (Blk rs) w w' := hm.weaken fun j _ hj => by
      rcases h with ⟨h1, _, _⟩ | ⟨g, c', cs, h1, _, _, _, _, h6⟩
      · subst h1; unfold At at hj; simp [Value.ownBlock] at hj
      · subst h1; subst h6
        unfold At at hj
        simp [Value.ownBlock] at hj
        exact ⟨(g, tyR e, cs), by simp, hj⟩
    rcases h2.2 with ⟨h1, hn⟩ | ⟨g, c', cs, h1, _, hrow, hle, hmx, hsz, htk⟩
    · have : l ++ m = [] := List.length_eq_zero_iff.1 (by rw [List.length_append]; exact hn)
      exact ⟨[], .inl ⟨h1, this, rfl⟩, ⟨hmB, trivial, trivial, fun x hx => by simp at hx⟩⟩
    · refine ⟨[(g, tyR e, cs)], .inr ⟨g, c', cs, by rw [h1, List.length_append], by rw [List.length_append]; exact hle, hmx, hsz, by rw [List.length_append, flat_app]; exact htk, rfl⟩, ⟨hmB, ⟨hrow, trivial⟩, ⟨(fun _ h => by cases h), trivial⟩, fun x hx hlt => ?_⟩⟩
      have : x = (g, tyR e, cs) := by simpa using hx
      subst this
      rcases h5 with h5 | h5
      · subst h1
        rcases h with ⟨h1, _, _⟩ | ⟨g', c'', cs', h1, _, _, _, _, h6⟩
        · subst h1; simp [Value.ownBlock] at h5
        · subst h1; subst h6
          simp [Value.ownBlock] at h5
          exact ⟨(g', tyR e, cs'), by simp, h5.symm⟩
      · subst h1
        simp [Value.ownBlock] at h5
        exact absurd hlt (by show ¬ g < w.heap.size; omega)
end vecs

section walk
variable {P : Program} {ops : Array Oper} {Q : Exit → Act → World → Prop} {n d : Nat} {B : Nat → Prop} {w0 : World} {os : List Ass} {env : List (Nat × Value)} {rest : List Oper} {o : Oper}
variable {t e : TypeId} {k : Nat} {α : Type} {enc : α → List Value} {v u : Value} {l m : List α} {act : Act} {w : World}
theorem exec_bi {a : Act} {w' : World} {bi : Builtin} {args : Array Operand} {ats : Array TypeId} {vs : List Value} {v : Value} (ho : o.op = .call { callee := .builtin bi, args := args, argTypes := ats }) (hx : evl env args.toList = some vs) (hr : ∀ cs, (builtin bi ats o.type cs vs.toArray).run P w = .ok (.value v) w') (hF : Fr n a env) : (execOp a.eval o).run P w = .ok (.value v) w' := by
  have h1 : args.map a.eval = vs.toArray := by
    have := hF.evl hx
    rw [← this]
    cases args; simp
  unfold execOp
  simp only [ho, resolve, invoke, Sem.run_bind, Sem.run_pure, Result.andThen_ok, h1]
  exact hr _
theorem a_append (i : Nat) (hT : SliceT P t e k) (he : EncOf k enc) (hi : os[i]? = some (Vec e k enc v l)) (m : List α) (hu : ∀ w, Hp B w0 w os → SlRd w k u m.length (flat enc m)) (hlen : l.length + m.length ≤ 34359738368) {x y : Operand} (ho : o.op = .call { callee := .builtin .append, args := #[x, y], argTypes := #[t, t] }) (hx : evs env x = some v) (hy : evs env y = some u) {r : List α} (hr : l ++ m = r) :
    Acts P Q n env B w0 os o (fun v : Value => v) (fun v' => os.set i (Vec e k enc v' r)) := fun act w hH hF K hK => by
  subst hr
  have hH' := hH
  obtain ⟨rs0, hp, hm⟩ := hH
  obtain ⟨a, z, b, e1, hz, hb⟩ := hp.at_ hi
  subst e1
  have p : (a ++ (z ++ b)).Perm (z ++ (a ++ b)) := by rw [← List.append_assoc, ← List.append_assoc]; exact List.perm_append_comm.append_right b
  have h5 := hp_perm hm p
  have hd := dist_iff.1 h5.apart
  rw [List.map_append] at hd
  obtain ⟨v', w', hr, y', hy', hc⟩ := run_append_vec (P := P) (ty := o.type) hT he hz (rows_iff.2 fun z hz => h5.rows.mem z (by simp [hz])) (dist_iff.2 (List.nodup_append.1 hd).1) (hu w hH') hlen
  have p' : (y' ++ (a ++ b)).Perm (a ++ (y' ++ b)) := by rw [← List.append_assoc, ← List.append_assoc]; exact List.perm_append_comm.append_right b
  refine a_val (w0 := w) act (exec_bi ho (vs := [v, u]) (by simp [evl, hx, hy]) (fun cs => ?_) hF) (hK v' w' ⟨_, hb _ y' hy', hp_perm (hp_chg h5 hc) p'⟩)
  simp only [builtin, Sem.run_bind, Sem.run_pure, Result.andThen_ok, hr]
/-- a value of one cell stored, of which a thing tells that it is one -/
theorem a_storev (i j : Nat) {T : TypeId} {x y : Operand} {g off : Nat} {t : TypeId} {cs : Array Value} {v : Value} {th : Ass} (c : Array Value) (hs : ∀ w, (sizeOf T).run P w = .ok 1 w) (hj : os[j]? = some th) (ht : ∀ rs, th rs → v.cells = #[v] ∧ v.oneCell' = true) (hl : Nat.ble (off + 1) cs.size = true) (hc : (over? cs.toList off [v]).toArray = c) (hd : o.dst = none) (ho : o.op = .store T x y)
    (hx : evs env x = some (.pointer (some ⟨g, off, none⟩))) (hy : evs env y = some v) (hi : os[i]? = some (cell g t cs)) : Acts P Q n env B w0 os o (fun _ : Unit => undef) (fun _ => os.set i (cell g t c)) := fun a w hH hF K hK => by
  obtain ⟨hv, h1⟩ := thing_is j hj ht hH
  refine a_store i c hs (k := 1) (by rw [hv]; rfl) hl ?_ (by rw [hv]; exact hc) hd ho hx hy hi a w hH hF K hK
  rw [hv]
  show oneL [v] = true
  cases v <;> simp_all [oneL, Value.oneCell']
theorem Hp.vec {w : World} (h : Hp B w0 w os) (i : Nat) (hi : os[i]? = some (Vec e k enc v l)) (he : EncOf k enc) : SlRd w k v l.length (flat enc l) := by
  obtain ⟨rs, h1, h2⟩ := h.thing i hi
  exact h1.all he h2
theorem e_vlen (i : Nat) (hu : P.underlying t = some (.slice e)) (hi : os[i]? = some (Vec e k enc v l)) {x : Operand} (ho : o.op = .call { callee := .builtin .len, args := #[x], argTypes := #[t] }) (hx : evs env x = some v) (hH : Hp B w0 w os) (hF : Fr n act env) : (execOp act.eval o).run P w = .ok (.value (.int .i64 (l.length : Int))) w := by
    obtain ⟨rs, hv, _⟩ := hH.thing i hi
    obtain ⟨A, c, rfl⟩ := hv.is
    exact exec_bi ho (vs := [.slice A l.length c]) (by simp [evl, hx]) (fun cs => run_len_slice hu A _ c _ w cs) hF
/-- the address of element j -/
theorem e_vidx (i : Nat) (hT : SliceT P t e k) (he : EncOf k enc) (hi : os[i]? = some (Vec e k enc v l)) (j : Nat) (hj : j < l.length) {x y : Operand} {kk : IntKind} (ho : o.op = .indexAddr t x y) (hx : evs env x = some v) (hy : evs env y = some (.int kk (j : Int))) (hH : Hp B w0 w os) (hF : Fr n act env) : (execOp act.eval o).run P w = .ok (.value (elp v (j * k))) w := by
    obtain ⟨rs, hv, _⟩ := hH.thing i hi
    obtain ⟨inf, z, hinf, _, hk, _⟩ := hT.inf
    rcases hv with ⟨_, h2, _⟩ | ⟨g, c, cs, h2, _⟩
    · subst h2; exact absurd hj (Nat.not_lt_zero _)
    · subst h2
      have hs : (sizeOf e).run P w = .ok k w := by simp [sizeOf, typeInfo, hinf, hk]
      have hlt : (0 : Int) ≤ (j : Int) ∧ (j : Int) < (l.length : Int) := by omega
      unfold execOp
      simp only [ho, hF.evs hx, hF.evs hy, Instr.indexAt, asIntOf, Sem.run_bind, Sem.run_pure, Result.andThen_ok, run_underlying hT.ht w]
      simp [hlt, hs, elp, Addr.add_lit]
theorem e_vload1 (i : Nat) (hO : OneOf P e) (he : EncOf 1 enc) (hi : os[i]? = some (Vec e 1 enc v l)) (j : Nat) {a : α} (hj : l[j]? = some a) {c : Value} (hc : enc a = [c]) {x : Operand} (ho : o.op = .load e x) (hx : evs env x = some (elp v (j * 1))) (hH : Hp B w0 w os) (hF : Fr n act env) : (execOp act.eval o).run P w = .ok (.value (c)) w := by
    obtain ⟨rs, hv, hr⟩ := hH.thing i hi
    rcases hv with ⟨_, h2, _⟩ | ⟨g, cap, cs, h2, _, _, _, h5, h6⟩
    · subst h2; simp at hj
    · subst h2; subst h6
      have hcell : cs[j]? = some c := by
        refine Vec.take_ he h5 ?_
        have := flat_get he hj (j := 0) (by decide)
        rw [Nat.mul_one, Nat.add_zero] at this
        rw [this, hc]; rfl
      refine exec_load ho (off := j) (t := e) (g := g) (cs := cs) ?_ (reads_one hO hcell) hr.1 hF
      rw [hx]; simp [elp]
theorem a_vstore1 (i : Nat) (hO : OneOf P e) (he : EncOf 1 enc) (hi : os[i]? = some (Vec e 1 enc v l)) (j : Nat) (hj : j < l.length) (a : α) {c : Value} (hc : enc a = [c]) (hd : o.dst = none) {x y : Operand} (ho : o.op = .store e x y) (hx : evs env x = some (elp v (j * 1))) (hy : evs env y = some c) : Acts P Q n env B w0 os o (fun _ : Unit => undef) (fun _ => os.set i (Vec e 1 enc v (l.set j a))) := fun act w hH hF K hK => by
  obtain ⟨rs, hv, hr⟩ := hH.thing i hi
  have h1c : c.oneCell' = true := he.one a c (by rw [hc]; simp)
  have hcc : c.cells = #[c] := by cases c <;> simp_all [Value.oneCell', Value.cells]
  rcases hv with ⟨_, h2, _⟩ | ⟨g, cap, cs, h2, hle, hmx, hsz, h5, h6⟩
  · subst h2; exact absurd hj (Nat.not_lt_zero _)
  · subst h6
    have hlt : j < cs.size := by rw [hsz]; omega
    subst h2
    obtain ⟨w', hrs, hR', hM⟩ := run_storeCells_at (P := P) g e c.cells.toList 0 cs w j hr.1 (by rw [hcc]; simp; omega) (fun u hu => by rw [hcc] at hu; simp at hu; subst hu; exact h1c)
    have hx' : evs env x = some (.pointer (some ⟨g, j, none⟩)) := by rw [hx]; simp [elp]
    have hR : Row w' g e (over? cs.toList j c.cells.toList).toArray := by simpa [over?] using hR'
    have hsz1 : c.cells.size = 1 := by rw [hcc]; rfl
    have hrun : (execOp act.eval o).run P w = .ok .skip w' := by
      unfold execOp
      simp [ho, hF.evs hx', hF.evs hy, Instr.storeAt, Instr.sureAddr, storeVar, hO.2, hsz1, hrs]
    unfold Oper.wp
    rw [hrun, Oper.upon_skip]
    refine (fun hp => (by have := hK () w' hp; rw [hd] at this ⊢; exact this)) ?_
    refine hH.turn i hi fun x hx _ _ => ?_
    have hxe : x = [(g, tyR e, cs)] ∨ True := .inr trivial
    rcases hx with ⟨h0, _, _⟩ | ⟨g', cap', cs', h0, _, _, hsz', h5', h6'⟩
    · simp at h0
    · simp at h0
      obtain ⟨rfl, rfl⟩ := h0
      subst h6'
      have hrow : cs' = cs := by
        have hr0 : RowsOf w [(g, tyR e, cs')] := ‹_›
        have e1 : w.heap[g]? = some (.cells cs' e (0, 0)) := hr0.1
        have e2 : w.heap[g]? = some (.cells cs e (0, 0)) := hr.1
        rw [e1] at e2
        simpa using e2
      subst hrow
      refine ⟨[(g, tyR e, (over? cs'.toList j c.cells.toList).toArray)], .inr ⟨g, cap, _, by simp, by simpa using hle, hmx, ?_, ?_, rfl⟩, ⟨hM.weaken fun q _ e' => ⟨(g, tyR e, cs'), by simp, e'.symm⟩, ⟨hR, trivial⟩, ⟨(fun _ h => by cases h), trivial⟩, fun x hx _ => ?_⟩⟩
      · rw [hcc]; simp [over?]; omega
      · have e1 : flat enc (l.set j a) = (flat enc l).set j c := by
          rw [← flat_set he hj a, Nat.mul_one, hc, List.set_eq_take_append_cons_drop, if_pos (by rw [flat_len he]; omega), List.append_assoc]
          rfl
        have e2 : over? cs'.toList j c.cells.toList = cs'.toList.set j c := by
          rw [List.set_eq_take_append_cons_drop, if_pos (by simpa using hlt), hcc]
          simp [over?]
        rw [List.length_set, e1, ← h5, e2, List.toList_toArray, List.take_set]
      · have : x = (g, tyR e, (over? cs'.toList j c.cells.toList).toArray) := by simpa using hx
        subst this
        exact ⟨(g, tyR e, cs'), by simp, rfl⟩
end walk
end Go.Proofs.Ytikcleaicbihfaa.Sep

namespace Go.Proofs.Ytikcleaicbihfaa.Sep
open Go.RowKit
open Go.Proofs.Ytikcleaicbihfaa.Mem (Dist Blk Chg)

section slc
variable {P : Program} {ops : Array Oper} {Q : Exit → Act → World → Prop} {n d : Nat} {B : Nat → Prop} {w0 : World} {os : List Ass} {env : List (Nat × Value)} {rest : List Oper} {o : Oper}
variable {t t' e : TypeId} {k : Nat} {α : Type} {enc : α → List Value} {v u : Value} {l m : List α} {act : Act} {w : World}
theorem SliceT.sizeOf (hT : SliceT P t e k) (w : World) : (Go.sizeOf e).run P w = .ok k w := by
  obtain ⟨i, z, hi, _, hk, _⟩ := hT.inf
  simp [Go.sizeOf, typeInfo, hi, hk]
theorem run_sub (hT : SliceT P t e k) {A : Option Addr} {sn c i j : Nat} {ki kj : IntKind} (hij : i ≤ j) (hj : j ≤ c) (w : World) :
    (Instr.sliceAt t (.slice A sn c) (some (.int ki (i : Int))) (some (.int kj (j : Int))) none).run P w = .ok (subv k (.slice A sn c) i j) w := by
  have h1 : (0 : Int) ≤ (i : Int) ∧ (i : Int) ≤ (j : Int) := by omega
  have h2 : (0 : Int) ≤ (j : Int) ∧ (j : Int) ≤ (c : Int) := by omega
  simp [Instr.sliceAt, Instr.slice, Instr.sliceBounds, Instr.sliceBound, run_underlying hT.ht, asIntOf, hij, hj, hT.sizeOf, subv]
theorem run_sub_lo (hT : SliceT P t e k) {A : Option Addr} {sn c i : Nat} {ki : IntKind} (hij : i ≤ sn) (w : World) :
    (Instr.sliceAt t (.slice A sn c) (some (.int ki (i : Int))) none none).run P w = .ok (subv k (.slice A sn c) i sn) w := by
  have h1 : (0 : Int) ≤ (i : Int) ∧ (i : Int) ≤ (sn : Int) := by omega
  simp [Instr.sliceAt, Instr.slice, Instr.sliceBounds, Instr.sliceBound, run_underlying hT.ht, asIntOf, hij, hT.sizeOf, subv]
theorem run_sub_hi (hT : SliceT P t e k) {A : Option Addr} {sn c j : Nat} {kj : IntKind} (hj : j ≤ c) (w : World) :
    (Instr.sliceAt t (.slice A sn c) none (some (.int kj (j : Int))) none).run P w = .ok (subv k (.slice A sn c) 0 j) w := by
  have h2 : (0 : Int) ≤ (j : Int) ∧ (j : Int) ≤ (c : Int) := by omega
  simp [Instr.sliceAt, Instr.slice, Instr.sliceBounds, Instr.sliceBound, run_underlying hT.ht, asIntOf, hj, hT.sizeOf, subv]
theorem e_sub {x y z : Operand} {A : Option Addr} {sn c i j : Nat} {ki kj : IntKind} {r : Value} (hT : SliceT P t e k) (hr : subv k (.slice A sn c) i j = r) (hij : i ≤ j) (hj : j ≤ c) (ho : o.op = .slice t x (some y) (some z) none) (hx : evs env x = some (.slice A sn c)) (hy : evs env y = some (.int ki (i : Int))) (hz : evs env z = some (.int kj (j : Int))) (hH : Hp B w0 w os) (hF : Fr n act env) : (execOp act.eval o).run P w = .ok (.value (r)) w := by
  unfold execOp
  simp only [ho, Option.map_some, Option.map_none, hF.evs hx, hF.evs hy, hF.evs hz, Sem.run_bind, run_sub hT hij hj, Result.andThen_ok, Sem.run_pure, hr]
theorem e_sub_lo {x y : Operand} {A : Option Addr} {sn c i : Nat} {ki : IntKind} {r : Value} (hT : SliceT P t e k) (hr : subv k (.slice A sn c) i sn = r) (hij : i ≤ sn) (ho : o.op = .slice t x (some y) none none) (hx : evs env x = some (.slice A sn c)) (hy : evs env y = some (.int ki (i : Int))) (hH : Hp B w0 w os) (hF : Fr n act env) : (execOp act.eval o).run P w = .ok (.value (r)) w := by
  unfold execOp
  simp only [ho, Option.map_some, Option.map_none, hF.evs hx, hF.evs hy, Sem.run_bind, run_sub_lo hT hij, Result.andThen_ok, Sem.run_pure, hr]
theorem e_sub_hi {x z : Operand} {A : Option Addr} {sn c j : Nat} {kj : IntKind} {r : Value} (hT : SliceT P t e k) (hr : subv k (.slice A sn c) 0 j = r) (hj : j ≤ c) (ho : o.op = .slice t x none (some z) none) (hx : evs env x = some (.slice A sn c)) (hz : evs env z = some (.int kj (j : Int))) (hH : Hp B w0 w os) (hF : Fr n act env) : (execOp act.eval o).run P w = .ok (.value (r)) w := by
  unfold execOp
  simp only [ho, Option.map_some, Option.map_none, hF.evs hx, hF.evs hz, Sem.run_bind, run_sub_hi hT hj, Result.andThen_ok, Sem.run_pure, hr]
theorem e_len {x : Operand} {A : Option Addr} {sn c : Nat} (hT : SliceT P t e k) (ho : o.op = .call { callee := .builtin .len, args := #[x], argTypes := #[t] }) (hx : evs env x = some (.slice A sn c)) (hH : Hp B w0 w os) (hF : Fr n act env) : (execOp act.eval o).run P w = .ok (.value (.int .i64 (sn : Int))) w := exec_bi ho (vs := [.slice A sn c]) (by simp [evl, hx]) (fun cs => run_len_slice hT.ht A sn c _ w cs) hF

/-! ## What writes into a row -/
/-! ## New slices, closures -/
theorem map_range0 {β : Type} (f : Nat → β) : (Array.map f (Array.range 0)) = #[] := Array.eq_empty_of_size_eq_zero (by simp)
theorem run_build1 (hT : SliceT P t e 1) {x : Value} (hx : x.cells = #[x]) (w : World) : (Instr.buildSlice t 1 #[(0, x)]).run P w = .ok (.slice (some ⟨w.heap.size, 0, none⟩) 1 1) (w.alloc (.cells #[x] e)) := by
  obtain ⟨inf, z, hinf, hz, hk, _, hzs, _⟩ := hT.inf
  simp [Instr.buildSlice, run_underlying hT.ht, hT.sizeOf, zeroValue, typeInfo, hinf, hz, Instr.fill, hx, newRow, Array.range_succ, map_range0]
theorem run_build0 (hT : SliceT P t e k) (w : World) : (Instr.buildSlice t 0 #[]).run P w = .ok (.slice (some ⟨w.heap.size, 0, none⟩) 0 0) (w.alloc (.cells #[] e)) := by
  simp [Instr.buildSlice, run_underlying hT.ht, hT.sizeOf, Instr.fill, newRow, map_range0]
theorem a_build1 (hT : SliceT P t e 1) (he : EncOf 1 enc) {x : Operand} {c : Value} (a : α) (hc : enc a = [c]) (ho : o.op = .buildSlice t 1 #[(0, x)]) (hx : evs env x = some c) : Acts P Q n env B w0 os o (fun v : Value => v) (fun v => Vec e 1 enc v [a] :: os) := fun b w hH hF K hK => by
  have h1c : c.oneCell' = true := he.one a c (by rw [hc]; simp)
  have hcc : c.cells = #[c] := by cases c <;> simp_all [Value.oneCell', Value.cells]
  have hrun : (execOp b.eval o).run P w = .ok (.value (.slice (some ⟨w.heap.size, 0, none⟩) 1 1)) (w.alloc (.cells #[c] e)) := by
    unfold execOp
    simp [ho, hF.evs hx, Sem.run_bind, run_build1 hT hcc]
  refine a_val (w0 := w) b hrun (hK _ _ ?_)
  have := hH.new e #[c]
  obtain ⟨rs, ⟨r1, r2, e1, h1, h2⟩, h3⟩ := this
  unfold cell at h1
  exact ⟨rs, ⟨r1, r2, e1, .inr ⟨w.heap.size, 1, #[c], rfl, Nat.le_refl _, by unfold maxLen; omega, rfl, by simp [flat, hc], h1⟩, h2⟩, h3⟩
theorem a_build0 (hT : SliceT P t e k) (ho : o.op = .buildSlice t 0 #[]) : Acts P Q n env B w0 os o (fun v : Value => v) (fun v => Vec e k enc v [] :: os) := fun b w hH hF K hK => by
  have hrun : (execOp b.eval o).run P w = .ok (.value (.slice (some ⟨w.heap.size, 0, none⟩) 0 0)) (w.alloc (.cells #[] e)) := by
    unfold execOp
    simp [ho, Sem.run_bind, run_build0 hT]
  refine a_val (w0 := w) b hrun (hK _ _ ?_)
  have := hH.new e #[]
  obtain ⟨rs, ⟨r1, r2, e1, h1, h2⟩, h3⟩ := this
  unfold cell at h1
  exact ⟨rs, ⟨r1, r2, e1, .inr ⟨w.heap.size, 0, #[], rfl, Nat.le_refl _, by unfold maxLen; omega, by simp, by simp [flat], h1⟩, h2⟩, h3⟩
/-- a nil slice is a thing at any time -/
theorem nil_thing {os : List Ass} (e : TypeId) (k : Nat) {α : Type} (enc : α → List Value) : ∀ rs, Parts os rs → ∃ _ : Unit, ∃ rs', rs.Perm rs' ∧ Parts (Vec e k enc (.slice none 0 0) [] :: os) rs' := fun rs h => ⟨(), rs, .refl _, [], rs, rfl, nilVec e k enc, h⟩
theorem d_nilvec (e : TypeId) (k : Nat) {α : Type} (enc : α → List Value) {c : Code} (h : WC2 P Q n env B w0 (Vec e k enc (.slice none 0 0) [] :: os) c) : WC2 P Q n env B w0 os c := WC2.via (fun _ : Unit => _) (nil_thing e k enc) fun _ => h
/-- a closure called: what it has captured comes behind the arguments -/
theorem exec_callc {F : FuncId} (hE : Ent P F) {f : Operand} {args : Array Operand} {ats : Array TypeId} {vs caps : List Value} (ho : o.op = .call { callee := .value f, args := args, argTypes := ats })
    (hf : evs env f = some (.func (.func F) #[] caps.toArray)) (hx : evl env args.toList = some vs) (hF : Fr n act env) : (execOp act.eval o).run P w = .ok (.enter F (vs ++ caps).toArray) w := by
  have h1 : args.map act.eval = vs.toArray := by
    have := hF.evl hx
    rw [← this]
    cases args; simp
  unfold execOp
  have h2 := hE (vs ++ caps).toArray w
  simp [ho, resolve, h1, hF.evs hf, Deferred.ofValue, invoke]
  simpa using h2
end slc
end Go.Proofs.Ytikcleaicbihfaa.Sep
