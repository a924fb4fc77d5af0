/-
  RpcF
-/
import Derived.Test.YtnhcbjlaeaohjaaCB02
set_option linter.unusedSimpArgs false
set_option linter.unusedVariables false

namespace Go.Proofs.Ytnhcbjlaeaohjaa

theorem drop_at {α : Type} {es : List α} {j : Nat} {e : α} (hj : es[j]? = some e) : es.drop j = e :: es.drop (j + 1) := by
  have hlt := (List.getElem?_eq_some_iff.1 hj).1
  have hx := (List.getElem?_eq_some_iff.1 hj).2
  rw [← hx, ← List.drop_eq_getElem_cons hlt]
theorem take_at {α : Type} {es : List α} {j : Nat} {e : α} (hj : es[j]? = some e) : es.take (j + 1) = es.take j ++ [e] := by
  have hlt := (List.getElem?_eq_some_iff.1 hj).1
  have hx := (List.getElem?_eq_some_iff.1 hj).2
  rw [← hx, List.take_succ_eq_append_getElem hlt]
/-- entry j: does it follow? -/
def follow1 (t i p : Int) (e : EntD) : Bool := rightE e && e.i == i + 1 && decide (p ≤ e.t) && decide (e.t ≤ t)
theorem follow_cons (t i p : Int) (e : EntD) (r : List EntD) : follow t i p (e :: r) = (follow1 t i p e && follow t (i + 1) e.t r) := rfl
theorem follow_at {t i p : Int} {es : List EntD} {j : Nat} {e : EntD} (hj : es[j]? = some e) : follow t (i + (j : Int)) p (es.drop j) = (follow1 t (i + (j : Int)) p e && follow t (i + ((j + 1 : Nat) : Int)) e.t (es.drop (j + 1))) := by
  rw [drop_at hj, follow_cons, show i + ((j + 1 : Nat) : Int) = i + (j : Int) + 1 by omega]
theorem follow_end {t i p : Int} {es : List EntD} {j : Nat} (hj : es.length ≤ j) : follow t i p (es.drop j) = true := by
  rw [List.drop_of_length_le hj]; rfl
theorem follow_no {t i p : Int} {es : List EntD} {j : Nat} {e : EntD} (hj : es[j]? = some e) (h : follow1 t (i + (j : Int)) p e = false) : follow t (i + (j : Int)) p (es.drop j) = false := by
  rw [follow_at hj, h]; rfl
theorem follow_yes {t i p : Int} {es : List EntD} {j : Nat} {e : EntD} (hj : es[j]? = some e) (h : follow1 t (i + (j : Int)) p e = true) : follow t (i + (j : Int)) p (es.drop j) = follow t (i + ((j + 1 : Nat) : Int)) e.t (es.drop (j + 1)) := by
  rw [follow_at hj, h]; rfl
theorem follow1_iff {t i p : Int} {e : EntD} : follow1 t i p e = true ↔ rightE e = true ∧ e.i = i + 1 ∧ p ≤ e.t ∧ e.t ≤ t := by
  unfold follow1
  simp only [Bool.and_eq_true, beq_iff_eq, decide_eq_true_eq, and_assoc]
theorem layEs_app (a b : List EntD) : layEs (a ++ b) = layEs a ++ layEs b := by simp [layEs]
theorem layEs_one (e : EntD) : layEs [e] = layT (layE e) := by simp [layEs]
theorem layEs_at {es : List EntD} {j : Nat} {e : EntD} (hj : es[j]? = some e) : layEs (es.take (j + 1)) = layEs (es.take j) ++ layT (layE e) := by
  rw [take_at hj, layEs_app, layEs_one]
/-! ## A fault stays -/
theorem rnum_stays {most f : Nat} {l : List UInt8} (h : f ≠ 0) : rnum most l f = (0, l, f) := by unfold rnum; rw [if_pos h]
/-- the entries that are read one by one: what has been read, what is left -/
structure RentsAt (n : Nat) (l : List UInt8) (f : Nat) (es : List EntD) (j : Nat) (l1 : List UInt8) : Prop where
  le : j ≤ n
  len : es.length = j
  right : ∀ e, e ∈ es → rightE e = true
  rest : ∀ es' l' f', rents (n - j) l1 0 = (es', l', f') → rents n l f = (es ++ es', l', f')
theorem RentsAt.step {n j : Nat} {l l1 l2 : List UInt8} {f : Nat} {es : List EntD} {e : EntD} (h : RentsAt n l f es j l1) (hj : j < n) (he : rent l1 0 = (e, l2, 0)) : RentsAt n l f (es ++ [e]) (j + 1) l2 where
  le := hj
  len := by rw [List.length_append, h.len]; rfl
  right x hx := by
    rcases List.mem_append.1 hx with hx | hx
    · exact h.right x hx
    · rw [List.mem_singleton.1 hx]; exact rent_right he
  rest es' l' f' hr := by
    have e1 : n - j = (n - (j + 1)) + 1 := by omega
    have := h.rest (e :: es') l' f' (by rw [e1]; exact rents_of he hr)
    rw [this, List.append_assoc]; rfl
theorem RentsAt.done {n : Nat} {l l1 : List UInt8} {f : Nat} {es : List EntD} (h : RentsAt n l f es n l1) : rents n l f = (es, l1, 0) := by
  have := h.rest [] l1 0 (by rw [Nat.sub_self]; rfl)
  rwa [List.append_nil] at this
end Go.Proofs.Ytnhcbjlaeaohjaa
