/-
  RpcF
-/
import Derived.Test.YtnhcbjlaeaohjaaBB03
set_option linter.unusedSimpArgs false
set_option linter.unusedVariables false

namespace Go.Proofs.Ytnhcbjlaeaohjaa

theorem drop_at {α : Type} {es : List α} {j : Nat} {e : α} (hj : es[j]? = some e) : es.drop j = e :: es.drop (j + 1) := by
  have hlt := (List.getElem?_eq_some_iff.1 hj).1
  have hx := (List.getElem?_eq_some_iff.1 hj).2
  rw [← hx, ← List.drop_eq_getElem_cons hlt]
theorem take_at {α : Type} {es : List α} {j : Nat} {e : α} (hj : es[j]? = some e) : es.take (j + 1) = es.take j ++ [e] := by
  have hlt := (List.getElem?_eq_some_iff.1 hj).1
  have hx := (List.getElem?_eq_some_iff.1 hj).2
  rw [← hx, List.take_succ_eq_append_getElem hlt]
/-- entry j: does it follow? -/
def follow1 (t i p : Int) (e : EntD) : Bool := rightE e && e.i == i + 1 && decide (p ≤ e.t) && decide (e.t ≤ t)
theorem follow_cons (t i p : Int) (e : EntD) (r : List EntD) : follow t i p (e :: r) = (follow1 t i p e && follow t (i + 1) e.t r) := rfl
theorem follow_at {t i p : Int} {es : List EntD} {j : Nat} {e : EntD} (hj : es[j]? = some e) : follow t (i + (j : Int)) p (es.drop j) = (follow1 t (i + (j : Int)) p e && follow t (i + ((j + 1 : Nat) : Int)) e.t (es.drop (j + 1))) := by
  rw [drop_at hj, follow_cons, show i + ((j + 1 : Nat) : Int) = i + (j : Int) + 1 by omega]
theorem follow_end {t i p : Int} {es : List EntD} {j : Nat} (hj : es.length ≤ j) : follow t i p (es.drop j) = true := by
  rw [List.drop_of_length_le hj]; rfl
theorem follow_no {t i p : Int} {es : List EntD} {j : Nat} {e : EntD} (hj : es[j]? = some e) (h : follow1 t (i + (j : Int)) p e = false) : follow t (i + (j : Int)) p (es.drop j) = false := by
  rw [follow_at hj, h]; rfl
theorem follow_yes {t i p : Int} {es : List EntD} {j : Nat} {e : EntD} (hj : es[j]? = some e) (h : follow1 t (i + (j : Int)) p e = true) : follow t (i + (j : Int)) p (es.drop j) = follow t (i + ((j + 1 : Nat) : Int)) e.t (es.drop (j + 1)) := by
  rw [follow_at hj, h]; rfl
theorem follow1_iff {t i p : Int} {e : EntD} : follow1 t i p e = true ↔ rightE e = true ∧ e.i = i + 1 ∧ p ≤ e.t ∧ e.t ≤ t := by
  unfold follow1
  simp only [Bool.and_eq_true, beq_iff_eq, decide_eq_true_eq, and_assoc]
theorem layEs_app (a b : List EntD) : layEs (a ++ b) = layEs a ++ layEs b := by simp [layEs]
theorem layEs_one (e : EntD) : layEs [e] = layT (layE e) := by simp [layEs]
theorem layEs_at {es : List EntD} {j : Nat} {e : EntD} (hj : es[j]? = some e) : layEs (es.take (j + 1)) = layEs (es.take j) ++ layT (layE e) := by
  rw [take_at hj, layEs_app, layEs_one]
/-! ## A fault stays -/
theorem rbyte_stays {most f : Nat} {l : List UInt8} (h : f ≠ 0) : rbyte most l f = (0, l, f) := by unfold rbyte; rw [if_pos h]
theorem rnum_stays {most f : Nat} {l : List UInt8} (h : f ≠ 0) : rnum most l f = (0, l, f) := by unfold rnum; rw [if_pos h]
theorem rtext_stays {most : Int} {f : Nat} {l : List UInt8} (h : f ≠ 0) : rtext most l f = ([], l, f) := by unfold rtext; rw [if_pos h]
theorem rbase_stays {f : Nat} {l : List UInt8} (h : f ≠ 0) : rbase l f = ((0, 0, 0), l, f) := rbase_of (rnum_stays h) (rnum_stays h) (rbyte_stays h)
theorem rI_stays {α : Type} {b : Bool} {z : α} {r : α × List UInt8 × Nat} {l : List UInt8} {f : Nat} (h : r = (z, l, f)) : rI b z r l f = (z, l, f) := by
  cases b with
  | true => exact h
  | false => rfl
/-- after the entries, a fault stays -/
theorem late_stays {k : Nat} {l7 l8 l9 l10 l11 l12 : List UInt8} {f7 f8 f9 f10 f11 f12 rf o la : Nat} {b : Int × Int × Int} {d : List UInt8} (hf : f7 ≠ 0)
    (h8 : rI (wth (fm (k : Int)) 16) 0 (rbyte 1 l7 f7) l7 f7 = (rf, l8, f8)) (h9 : rI (wth (fm (k : Int)) 32) (0, 0, 0) (rbase l8 f8) l8 f8 = (b, l9, f9)) (h10 : rI (wth (fm (k : Int)) 64) 0 (rnum 32768 l9 f9) l9 f9 = (o, l10, f10))
    (h11 : rI (wth (fm (k : Int)) 128) 0 (rbyte 1 l10 f10) l10 f10 = (la, l11, f11)) (h12 : rI (wth (fm (k : Int)) 256) [] (rtext 256 l11 f11) l11 f11 = (d, l12, f12)) : l12 = l7 ∧ f12 = f7 := by
  have e8 := (rI_stays (b := wth (fm (k : Int)) 16) (rbyte_stays (most := 1) (l := l7) hf)).symm.trans h8
  simp only [Prod.mk.injEq] at e8
  obtain ⟨_, rfl, rfl⟩ := e8
  have e9 := (rI_stays (b := wth (fm (k : Int)) 32) (rbase_stays (l := l7) hf)).symm.trans h9
  simp only [Prod.mk.injEq] at e9
  obtain ⟨_, rfl, rfl⟩ := e9
  have e10 := (rI_stays (b := wth (fm (k : Int)) 64) (rnum_stays (most := 32768) (l := l7) hf)).symm.trans h10
  simp only [Prod.mk.injEq] at e10
  obtain ⟨_, rfl, rfl⟩ := e10
  have e11 := (rI_stays (b := wth (fm (k : Int)) 128) (rbyte_stays (most := 1) (l := l7) hf)).symm.trans h11
  simp only [Prod.mk.injEq] at e11
  obtain ⟨_, rfl, rfl⟩ := e11
  have e12 := (rI_stays (b := wth (fm (k : Int)) 256) (rtext_stays (most := 256) (l := l7) hf)).symm.trans h12
  simp only [Prod.mk.injEq] at e12
  obtain ⟨_, rfl, rfl⟩ := e12
  exact ⟨rfl, rfl⟩
theorem rend_fault {l : List UInt8} {f : Nat} (h : f ≠ 0) : rend l f = f := by
  unfold rend
  rw [if_neg (fun h' => h h'.1)]
/-- the entries that are read one by one: what has been read, what is left -/
structure RentsAt (n : Nat) (l : List UInt8) (f : Nat) (es : List EntD) (j : Nat) (l1 : List UInt8) : Prop where
  le : j ≤ n
  len : es.length = j
  right : ∀ e, e ∈ es → rightE e = true
  rest : ∀ es' l' f', rents (n - j) l1 0 = (es', l', f') → rents n l f = (es ++ es', l', f')
theorem rentsAt_0 (n : Nat) (l : List UInt8) : RentsAt n l 0 [] 0 l := ⟨Nat.zero_le _, rfl, (fun e he => by cases he), fun es' l' f' h => h⟩
theorem RentsAt.step {n j : Nat} {l l1 l2 : List UInt8} {f : Nat} {es : List EntD} {e : EntD} (h : RentsAt n l f es j l1) (hj : j < n) (he : rent l1 0 = (e, l2, 0)) : RentsAt n l f (es ++ [e]) (j + 1) l2 where
  le := hj
  len := by rw [List.length_append, h.len]; rfl
  right x hx := by
    rcases List.mem_append.1 hx with hx | hx
    · exact h.right x hx
    · rw [List.mem_singleton.1 hx]; exact rent_right he
  rest es' l' f' hr := by
    have e1 : n - j = (n - (j + 1)) + 1 := by omega
    have := h.rest (e :: es') l' f' (by rw [e1]; exact rents_of he hr)
    rw [this, List.append_assoc]; rfl
theorem RentsAt.stop {n j : Nat} {l l1 l2 : List UInt8} {f f2 : Nat} {es : List EntD} {e : EntD} (h : RentsAt n l f es j l1) (hj : j < n) (he : rent l1 0 = (e, l2, f2)) (hf : f2 ≠ 0) : rents n l f = (es, l2, f2) := by
  have e1 : n - j = (n - (j + 1)) + 1 := by omega
  have := h.rest [] l2 f2 (by rw [e1]; exact rents_bad he hf)
  rwa [List.append_nil] at this
theorem RentsAt.done {n : Nat} {l l1 : List UInt8} {f : Nat} {es : List EntD} (h : RentsAt n l f es n l1) : rents n l f = (es, l1, 0) := by
  have := h.rest [] l1 0 (by rw [Nat.sub_self]; rfl)
  rwa [List.append_nil] at this
end Go.Proofs.Ytnhcbjlaeaohjaa
