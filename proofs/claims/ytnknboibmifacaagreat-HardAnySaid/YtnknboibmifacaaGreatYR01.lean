/-
  HdL · HdZ
-/
import Derived.Test.YtnknboibmifacaaGreatYA06
import Derived.Test.YtnknboibmifacaaGreatYB02
import Derived.Test.YtnknboibmifacaaGreatYK01
import Derived.Test.YtnknboibmifacaaGreatYP02
set_option linter.unusedSimpArgs false
set_option linter.unusedVariables false
namespace Go.Proofs.YtnknboibmifacaaGreat.Sep
open Go.RowKit
open Go.Proofs.YtnknboibmifacaaGreat.Mem (Bd Cj Chg AF)
section
variable {P : Program} {n k : Nat} {α : Type} {enc : α → List Value} {env : List (Nat × Value)} {o : Oper} {act : Act} {w : World} {u : Value} {m : List α}
end
def DiskD.tot (d : DiskD) : Nat := AE d.syn + (d.wait.map OpD.size).sum
structure PlayOk (T W : Nat) (d : DiskD) : Prop where
  rm : 0 ≤ d.room ∧ d.room ≤ 1048576
  tt : d.tot ≤ T
  wl : d.wait.length ≤ W
theorem PlayOk.fitK {T W k : Nat} {d : DiskD} (h : PlayOk T W d) (hT : T ≤ 10000000) (hW : W + k ≤ 10000) : d.fitK k := by
 have h1 := h.tt
 have h2 := h.wl
 unfold DiskD.tot at h1
 exact ⟨by omega, by omega⟩
theorem PlayOk.mono {T W T' W' : Nat} {d : DiskD} (h : PlayOk T W d) (h1 : T ≤ T') (h2 : W ≤ W') : PlayOk T' W' d := ⟨h.rm, Nat.le_trans h.tt h1, Nat.le_trans h.wl h2⟩
theorem PlayOk.does {T W : Nat} {d : DiskD} (h : PlayOk T W d) (o : OpD) {s : Nat} (hs : o.size ≤ s) : PlayOk (T + s) (W + 1) (Cn d o) := by
  refine ⟨h.rm, ?_, ?_⟩
  · show AE d.syn + ((d.wait ++ [o]).map OpD.size).sum ≤ _
    have := h.tt
    unfold DiskD.tot at this
    rw [List.map_append, List.sum_append]
    simp only [List.map_cons, List.map_nil, List.sum_cons, List.sum_nil]
    omega
  · show (d.wait ++ [o]).length ≤ _
    have := h.wl
    rw [List.length_append]; simp only [List.length_cons, List.length_nil]; omega
theorem PlayOk.begin_ {T W : Nat} {d : DiskD} (h : PlayOk T W d) : PlayOk T W (Ba d).1 := by
  unfold Ba
  split
  · exact ⟨h.rm, h.tt, h.wl⟩
  · exact ⟨h.rm, h.tt, h.wl⟩
theorem PlayOk.append {T W : Nat} {d : DiskD} (h : PlayOk T W d) (n b : List UInt8) {s : Nat} (hs : b.length ≤ s) : PlayOk (T + s) (W + 1) (Cl d n b).1 := by
  have h1 := h.begin_
  have h2 := h1.mono (Nat.le_add_right T s) (Nat.le_succ W)
  unfold Cl
  cases e : Ba d with
  | mk d1 e1 =>
    rw [e] at h1 h2
    simp only
    split
    · exact h2
    · split
      · exact h2
      · split
        · exact h2
        · exact h1.does _ hs
theorem PlayOk.cut {T W : Nat} {d : DiskD} (h : PlayOk T W d) (n : List UInt8) (s : Int) : PlayOk T (W + 1) (IG d n s).1 := by
  have h1 := h.begin_
  have h2 := h1.mono (Nat.le_refl T) (Nat.le_succ W)
  unfold IG
  cases e : Ba d with
  | mk d1 e1 =>
    rw [e] at h1 h2
    simp only
    split
    · exact h2
    · split
      · exact h2
      · split
        · exact h2
        · exact h1.does (s := 0) _ (Nat.zero_le _)
theorem PlayOk.del {T W : Nat} {d : DiskD} (h : PlayOk T W d) (n : List UInt8) : PlayOk T (W + 1) (Hq d n).1 := by
  have h1 := h.begin_
  have h2 := h1.mono (Nat.le_refl T) (Nat.le_succ W)
  unfold Hq
  cases e : Ba d with
  | mk d1 e1 =>
    rw [e] at h1 h2
    simp only
    split
    · exact h2
    · split
      · exact h2
      · exact h1.does (s := 0) _ (Nat.zero_le _)
theorem PlayOk.ren {T W : Nat} {d : DiskD} (h : PlayOk T W d) (a b : List UInt8) : PlayOk T (W + 1) (Ll d a b).1 := by
  have h1 := h.begin_
  have h2 := h1.mono (Nat.le_refl T) (Nat.le_succ W)
  unfold Ll
  cases e : Ba d with
  | mk d1 e1 =>
    rw [e] at h1 h2
    simp only
    split
    · exact h2
    · split
      · exact h2
      · split
        · exact h2
        · exact h1.does (s := 0) _ (Nat.zero_le _)
theorem PlayOk.rmNew {T W : Nat} {d : DiskD} (h : PlayOk T W d) : PlayOk T (W + 1) (Bb d).1 := by
  unfold Bb
  split
  · exact h.del _
  · exact h.mono (Nat.le_refl _) (Nat.le_succ _)
theorem PlayOk.save {T W : Nat} {d : DiskD} (h : PlayOk T W d) {x : HV} (hx : Fz x) : PlayOk (T + 40) (W + 3) (Fg d x).1 := by
  have hl := MH hx
  unfold Fg
  split
  · exact (h.append hardN (Be (layH x)) (s := 40) (by omega)).mono (Nat.le_refl _) (by omega)
  · unfold Hi
    have h1 := h.rmNew
    split
    · exact h1.mono (by omega) (by omega)
    · have h2 := h1.append newN (Be (layH x)) (s := 40) (by omega)
      split
      · exact h2.mono (Nat.le_refl _) (by omega)
      · exact h2.ren _ _
theorem PlayOk.openH {T W : Nat} {d : DiskD} (h : PlayOk T W d) : PlayOk T (W + 2) (C5 d).1 := by
  have h1 := h.rmNew
  have h2 := h1.mono (Nat.le_refl T) (Nat.le_succ (W + 1))
  unfold C5
  split
  · exact h2
  · split
    · split
      · exact h1.cut _ _
      · exact h1.cut _ _
    · exact h2
theorem Qy {d : DiskD} (hn : (AI d.syn).Nodup) (ho : Fe d.syn d.wait) : AE d.now ≤ d.tot := ED d.wait hn ho
theorem PlayOk.sync {T W : Nat} {d : DiskD} (h : PlayOk T W d) (hn : (AI d.syn).Nodup) (ho : Fe d.syn d.wait) : PlayOk T W (Ge d).1 := by
  have h0 := Qy hn ho
  unfold Ge
  rcases Fi d with ⟨_, hb⟩ | ⟨_, _, hb⟩ | ⟨_, k, _, hb⟩ | ⟨_, _, hb⟩ <;> rw [hb] <;> simp only
  · rw [if_pos (by simp)]; exact h
  · rw [if_pos (by simp)]; exact ⟨h.rm, h.tt, h.wl⟩
  · rw [if_neg (by simp)]
    exact ⟨h.rm, by have := h.tt; show AE d.now + 0 ≤ T; omega, Nat.zero_le _⟩
  · rw [if_neg (by simp)]
    exact ⟨h.rm, by have := h.tt; show AE d.now + 0 ≤ T; omega, Nat.zero_le _⟩
theorem Kb {T W : Nat} {d : DiskD} (h : PlayOk T W d) (hT : T ≤ 10000000) (hn : (AI d.syn).Nodup) (ho : Fe d.syn d.wait) {b : List UInt8} (hb : (BB (Bb d).1 hardN).getD [] = b) : b.length ≤ 137438953472 := by
  have hnn := LG hn
  have h0 := Qy hn ho
  have h1 := h.tt
  have key : ∀ d1 : DiskD, (d1.now = d.now ∨ d1.now = BS d.now newN) → ((BB d1 hardN).getD []).length ≤ AE d.now := fun d1 h2 => by
    unfold BB
    split
    · simp
    · rcases h2 with h2 | h2
      · rw [h2]; exact LA hnn
      · rw [h2, IB hnn, if_neg Fu]; exact LA hnn
  have h3 : (Bb d).1.now = d.now ∨ (Bb d).1.now = BS d.now newN := by
    unfold Bb
    split
    · unfold Hq
      rcases Fi d with ⟨_, hb⟩ | ⟨_, _, hb⟩ | ⟨_, k, _, hb⟩ | ⟨_, _, hb⟩ <;> rw [hb] <;> simp only
      · left; rw [if_pos (by simp)]
      · left; rw [if_pos (by simp)]; rfl
      · rw [if_neg (by simp)]
        split
        · left; rfl
        · right; rw [CJ]; rfl
      · rw [if_neg (by simp)]
        split
        · left; rfl
        · right; rw [CJ]; rfl
    · left; rfl
  have := key _ h3
  rw [hb] at this
  omega
structure StH where
  what : Int
  y : Int × Int
  near : Bool
  h : HarmD
instance : Inhabited StH := ⟨⟨0, (0, 0), false, ⟨0, 0, 0⟩⟩⟩
structure StH.ok (x : StH) : Prop where
  w : -9223372036854775808 ≤ x.what ∧ x.what ≤ 9223372036854775807
  y : Vu x.y
  h : x.h.ok
end Go.Proofs.YtnknboibmifacaaGreat.Sep
namespace Go.Proofs.YtnknboibmifacaaGreat.Sep
open Go.RowKit
open Go.Proofs.YtnknboibmifacaaGreat.Mem (Bd Cj Chg AF)
open Go.ChangeShapes Go.WideShapes Go.ChangeAt
section
variable {H : Type} {enc : TypeId × Value → H} {W : World} {base b0 : Nat} {r : Reach} {spare : Nat → Bool} {held : Bool} {v : Value} {d : DataW H} {p : List MemPlace}
theorem UR {P : Program} {n j : Nat} {f : Field} {cs : List Value} {ys : List (DataW H × List MemPlace)} {a : Value} {y : DataW H × List MemPlace} (hc : P.cellsOf f.type = 1) (ho : f.offset = j) (h : DataW.trod enc P W base spare held n f.type ((cs.drop f.offset).take (P.cellsOf f.type)) = ys[j]?) (ha : cs[j]? = some a) (hy : ys[j]? = some y) : DataW.trod enc P W base spare held n f.type [a] = some y := by
 rw [ho, hc, hy] at h
 obtain ⟨hj, ha⟩ := List.getElem?_eq_some_iff.1 ha
 rw [List.drop_eq_getElem_cons hj, ha] at h
 exact h
set_option maxRecDepth 100000 in
theorem open_hards (hval : Value.okWide Tryz.prog W r b0 49 v) (h : DataW.Trod enc Tryz.prog W base spare held 49 v d p) : ∃ A c, ∃ l : List (Int × Int), v = .slice A l.length c ∧ l.length ≤ maxLen ∧ Di W 2 v l.length (flat encHv l) ∧ ∀ y ∈ l, Vu y :=
  Oi Ps (by decide) Tryz.underlying49 (by kernel_rfl) (fun n cs x hcl h => by
    obtain ⟨ys, n', _, hx, _, hyl, hf⟩ := DataW.trod_struct Tryz.underlying31 h
    have hyl : ys.length = 2 := hyl
    match cs, hcl with
    | [a0, a1], _ =>
      obtain ⟨y0, g0⟩ : ∃ y, ys[0]? = some y := ⟨_, List.getElem?_eq_getElem (by omega)⟩
      obtain ⟨y1, g1⟩ : ∃ y, ys[1]? = some y := ⟨_, List.getElem?_eq_getElem (by omega)⟩
      have h0 := UR (by kernel_rfl) rfl (hf 0 _ rfl) rfl g0
      have h1 := UR (by kernel_rfl) rfl (hf 1 _ rfl) rfl g1
      obtain ⟨z0, e0, _, w0⟩ := DataW.trod_int Tryz.underlying29 h0
      obtain ⟨z1, e1, _, w1⟩ := DataW.trod_int Tryz.underlying3 h1
      simp at e0 e1
      subst e0; subst e1
      exact ⟨(z0, z1), rfl, Va w0, RS w1⟩) hval h
end
end Go.Proofs.YtnknboibmifacaaGreat.Sep
