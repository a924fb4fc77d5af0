/-
  EntM · Each · CmdK · TyC · CmdA · CmdB · CmdR · CmdL
-/
import Derived.Test.YtnhcbjlaeaohjaaCA08
import Derived.Test.YtnhcbjlaeaohjaaCA09
import Derived.Test.YtnhcbjlaeaohjaaChecked
set_option linter.unusedSimpArgs false
set_option linter.unusedVariables false

namespace Go.Proofs.Ytnhcbjlaeaohjaa

/-! ## Readers -/
/-- a reader undoes what is laid, and what it reads was laid so -/
structure Good {α : Type} (P : List UInt8 → Nat → α × List UInt8 × Nat) (enc : α → List UInt8) (dom rng : α → Prop) : Prop where
  lay : ∀ x r, dom x → P (enc x ++ r) 0 = (x, r, 0)
  back : ∀ l f, (P l f).2.2 = 0 → f = 0 ∧ l = enc (P l f).1 ++ (P l f).2.1
  ok : ∀ l f, rng (P l f).1
theorem Good.back_of {α : Type} {P : List UInt8 → Nat → α × List UInt8 × Nat} {enc : α → List UInt8} {dom rng : α → Prop} (h : Good P enc dom rng) {l l' : List UInt8} {f : Nat} {x : α} (e : P l f = (x, l', 0)) : f = 0 ∧ l = enc x ++ l' := by
  have := h.back l f (by rw [e])
  rwa [e] at this
theorem good_byte (most : Nat) : Good (rbyte most) (fun n => [UInt8.ofNat n]) (fun n => n ≤ most ∧ n < 256) (fun n => n < 256) where
  lay n r h := by
    have e := byte_of n (by omega)
    exact (rbyte_lay most _ r (by omega)).trans (by rw [e])
  back l f h := by
    obtain ⟨h1, _, _, h2⟩ := rbyte_back' h
    exact ⟨h1, h2⟩
  ok l f := rbyte_lt most l f
theorem good_num (most : Nat) : Good (rnum most) vlay (fun n => n ≤ most ∧ n < 18446744073709551616) (fun n => n < 18446744073709551616) where
  lay n r h := rnum_lay most n r h.1 h.2
  back _ _ h := rnum_back h
  ok l f := rnum_lt most l f
def layT (t : List UInt8) : List UInt8 := vlay t.length ++ t
theorem good_text (most : Int) : Good (rtext most) layT (fun t => (t.length : Int) ≤ most ∧ t.length < 18446744073709551616) (fun _ => True) where
  lay t r h := rtext_lay most t r h.1 h.2
  back _ _ h := rtext_back h
  ok _ _ := trivial
/-- read, where the kind has it -/
def rI {α : Type} (b : Bool) (z : α) (r : α × List UInt8 × Nat) (l : List UInt8) (f : Nat) : α × List UInt8 × Nat := match b with | true => r | false => (z, l, f)
/-! ## An entry -/
structure EntD where
  k : Int
  t : Int
  i : Int
  d : List UInt8
  c : Int
deriving DecidableEq
def EntD.zero : EntD := ⟨0, 0, 0, [], 0⟩
structure EntD.ok (e : EntD) : Prop where
  k : I64 e.k
  t : U64 e.t
  i : U64 e.i
  d : e.d.length ≤ 9223372036854775807
  c : I64 e.c
/-- a right set of nodes -/
def setB (c : Int) : Bool := decide (c ≥ 0) && decide (c ≤ 254) && decide (c % 2 = 0)
theorem setB_iff {c : Int} (h : setB c = true) : 0 ≤ c ∧ c ≤ 254 ∧ c % 2 = 0 := by
  unfold setB at h
  simp at h
  omega
def kindE (e : EntD) : Bool :=
  if e.k = 0 then e.d == [] && e.c == 0
  else if e.k = 1 then decide (1 ≤ e.d.length) && decide (e.d.length ≤ 128) && e.c == 0
  else if e.k = 2 then e.d == [] && setB e.c && e.c != 0
  else false
def rightE (e : EntD) : Bool := numB e.t && (numB e.i && kindE e)
theorem rightE_iff {e : EntD} (h : rightE e = true) : (1 ≤ e.t ∧ e.t ≤ 72057594037927935) ∧ (1 ≤ e.i ∧ e.i ≤ 72057594037927935) ∧ ((e.k = 0 ∧ e.d = [] ∧ e.c = 0) ∨ (e.k = 1 ∧ 1 ≤ e.d.length ∧ e.d.length ≤ 128 ∧ e.c = 0) ∨ (e.k = 2 ∧ e.d = [] ∧ 0 < e.c ∧ e.c ≤ 254 ∧ e.c % 2 = 0)) := by
  unfold rightE at h
  simp only [Bool.and_eq_true] at h
  obtain ⟨h1, h2, h3⟩ := h
  refine ⟨numB_iff h1, numB_iff h2, ?_⟩
  unfold kindE at h3
  split at h3
  · rename_i hk
    simp at h3
    exact .inl ⟨hk, h3.1, h3.2⟩
  · split at h3
    · rename_i hk
      simp at h3
      exact .inr (.inl ⟨hk, by omega, by omega, h3.2⟩)
    · split at h3
      · rename_i hk
        simp only [Bool.and_eq_true, beq_iff_eq, bne_iff_ne, ne_eq] at h3
        have hs := setB_iff h3.1.2
        have hn := h3.2
        exact .inr (.inr ⟨hk, h3.1.1, by omega, hs.2.1, hs.2.2⟩)
      · cases h3
/-- what is laid behind the numbers -/
def tailE (e : EntD) : List UInt8 := if e.k = 1 then layT e.d else if e.k = 2 then [UInt8.ofNat e.c.toNat] else []
def layE (e : EntD) : List UInt8 := UInt8.ofNat e.k.toNat :: (layU e.t ++ (layU e.i ++ tailE e))
theorem layT_len {t : List UInt8} (h : t.length ≤ 128) : (layT t).length ≤ 130 := by
  unfold layT
  have := vlay_length_pow 1 t.length (by omega)
  rw [List.length_append]
  omega
theorem layE_len {e : EntD} (h : rightE e = true) : (layE e).length ≤ 147 := by
  obtain ⟨h1, h2, h3⟩ := rightE_iff h
  have a1 := layU_mlen h1.2
  have a2 := layU_mlen h2.2
  have a3 : (tailE e).length ≤ 130 := by
    unfold tailE
    split
    · refine layT_len ?_
      rcases h3 with ⟨_, h, _⟩ | ⟨_, _, h, _⟩ | ⟨_, h, _⟩
      · rw [h]; simp
      · exact h
      · rw [h]; simp
    · split <;> simp
  unfold layE
  simp only [List.length_cons, List.length_append]
  omega

/-- what is read behind the numbers -/
def rtail (n : Nat) (l : List UInt8) (f : Nat) : (List UInt8 × Nat) × List UInt8 × Nat :=
  if n = 1 then (((rtext 128 l f).1, 0), (rtext 128 l f).2) else if n = 2 then (([], (rbyte 254 l f).1), (rbyte 254 l f).2) else (([], 0), l, f)
theorem rtail_one {l l' : List UInt8} {f f' : Nat} {x : List UInt8} (h : rtext 128 l f = (x, l', f')) : rtail 1 l f = ((x, 0), l', f') := by
  unfold rtail
  rw [if_pos rfl, h]
theorem rtail_two {l l' : List UInt8} {f f' c : Nat} (h : rbyte 254 l f = (c, l', f')) : rtail 2 l f = (([], c), l', f') := by
  unfold rtail
  rw [if_neg (by omega), if_pos rfl, h]
theorem rtail_else {n : Nat} (l : List UInt8) (f : Nat) (h1 : n ≠ 1) (h2 : n ≠ 2) : rtail n l f = (([], 0), l, f) := by
  unfold rtail
  rw [if_neg h1, if_neg h2]
def readE (l : List UInt8) : EntD × List UInt8 × Nat :=
  match rbyte 2 l 0 with
  | (n0, l0, f0) => match rnum 72057594037927935 l0 f0 with
    | (n1, l1, f1) => match rnum 72057594037927935 l1 f1 with
      | (n2, l2, f2) => match rtail n0 l2 f2 with
        | ((x, c), l3, f3) => (⟨(n0 : Int), (n1 : Int), (n2 : Int), x, (c : Int)⟩, l3, f3)
theorem readE_of {l l0 l1 l2 l3 x : List UInt8} {n0 n1 n2 c f0 f1 f2 f3 : Nat} (h0 : rbyte 2 l 0 = (n0, l0, f0)) (h1 : rnum 72057594037927935 l0 f0 = (n1, l1, f1)) (h2 : rnum 72057594037927935 l1 f1 = (n2, l2, f2)) (h3 : rtail n0 l2 f2 = ((x, c), l3, f3)) :
    readE l = (⟨(n0 : Int), (n1 : Int), (n2 : Int), x, (c : Int)⟩, l3, f3) := by
  simp only [readE, h0, h1, h2, h3]
/-- what ReadEntry answers -/
def decE (l : List UInt8) : EntD × Nat :=
  if 160 < l.length then (.zero, 12)
  else match readE l with
    | (e, l', f') => if rend l' f' ≠ 0 then (.zero, rend l' f') else if rightE e then (e, 0) else (.zero, 11)
theorem decE_long {l : List UInt8} (h : 160 < l.length) : decE l = (.zero, 12) := by
  unfold decE
  rw [if_pos h]
theorem decE_bad {l l' : List UInt8} {e : EntD} {f' : Nat} (h : ¬ 160 < l.length) (hr : readE l = (e, l', f')) (hf : rend l' f' ≠ 0) : decE l = (.zero, rend l' f') := by
  unfold decE
  rw [if_neg h, hr]
  simp only
  rw [if_pos hf]
theorem decE_wrong {l l' : List UInt8} {e : EntD} {f' : Nat} (h : ¬ 160 < l.length) (hr : readE l = (e, l', f')) (hf : rend l' f' = 0) (hR : rightE e = false) : decE l = (.zero, 11) := by
  unfold decE
  rw [if_neg h, hr]
  simp only
  rw [if_neg (by simp [hf]), hR]
  rfl
theorem decE_right {l l' : List UInt8} {e : EntD} {f' : Nat} (h : ¬ 160 < l.length) (hr : readE l = (e, l', f')) (hf : rend l' f' = 0) (hR : rightE e = true) : decE l = (e, 0) := by
  unfold decE
  rw [if_neg h, hr]
  simp only
  rw [if_neg (by simp [hf]), hR]
  rfl
theorem rend_zero {l : List UInt8} {f : Nat} (h : rend l f = 0) : f = 0 ∧ l = [] := by
  unfold rend at h
  split at h
  · omega
  · rename_i hn
    refine ⟨h, ?_⟩
    rcases Nat.eq_zero_or_pos l.length with h0 | h0
    · exact List.eq_nil_of_length_eq_zero h0
    · exact absurd ⟨h, h0⟩ hn
/-- what was laid of an entry that may be is read -/
theorem readE_lay {e : EntD} (h : rightE e = true) : readE (layE e) = (e, [], 0) := by
  obtain ⟨h1, h2, h3⟩ := rightE_iff h
  have hk : e.k = 0 ∨ e.k = 1 ∨ e.k = 2 := by omega
  have e0 : rbyte 2 (layE e) 0 = (e.k.toNat, layU e.t ++ (layU e.i ++ tailE e), 0) := (good_byte 2).lay e.k.toNat _ (by omega)
  have e1 : rnum 72057594037927935 (layU e.t ++ (layU e.i ++ tailE e)) 0 = (e.t.toNat, layU e.i ++ tailE e, 0) := (good_num _).lay e.t.toNat _ (by omega)
  have e2 : rnum 72057594037927935 (layU e.i ++ tailE e) 0 = (e.i.toNat, tailE e, 0) := (good_num _).lay e.i.toNat _ (by omega)
  have e3 : rtail e.k.toNat (tailE e) 0 = ((e.d, e.c.toNat), [], 0) := by
    rcases h3 with ⟨hk, hd, hc⟩ | ⟨hk, hd, hd', hc⟩ | ⟨hk, hd, hc, hc', _⟩
    · rw [rtail_else _ _ (by omega) (by omega), hd, hc]
      unfold tailE
      rw [if_neg (by omega), if_neg (by omega)]
      rfl
    · rw [show e.k.toNat = 1 by omega, hc]
      refine rtail_one ?_
      unfold tailE
      rw [if_pos hk]
      have := (good_text 128).lay e.d [] ⟨by omega, by omega⟩
      rwa [List.append_nil] at this
    · rw [show e.k.toNat = 2 by omega, hd]
      refine rtail_two ?_
      unfold tailE
      rw [if_neg (by omega), if_pos hk]
      exact (good_byte 254).lay e.c.toNat [] (by omega)
  have hc : 0 ≤ e.c := by omega
  rw [readE_of e0 e1 e2 e3]
  rw [show ((e.k.toNat : Nat) : Int) = e.k by omega, show ((e.t.toNat : Nat) : Int) = e.t by omega, show ((e.i.toNat : Nat) : Int) = e.i by omega, show ((e.c.toNat : Nat) : Int) = e.c by omega]
theorem decE_lay {e : EntD} (h : rightE e = true) : decE (layE e) = (e, 0) :=
  decE_right (by have := layE_len h; omega) (readE_lay h) rfl h
/-- what is read was laid so -/
theorem readE_back {l : List UInt8} {e : EntD} (h : readE l = (e, [], 0)) : l = layE e := by
  obtain ⟨⟨n0, l0, f0⟩, h0⟩ : ∃ R, rbyte 2 l 0 = R := ⟨_, rfl⟩
  obtain ⟨⟨n1, l1, f1⟩, h1⟩ : ∃ R, rnum 72057594037927935 l0 f0 = R := ⟨_, rfl⟩
  obtain ⟨⟨n2, l2, f2⟩, h2⟩ : ∃ R, rnum 72057594037927935 l1 f1 = R := ⟨_, rfl⟩
  obtain ⟨⟨⟨x, c⟩, l3, f3⟩, h3⟩ : ∃ R, rtail n0 l2 f2 = R := ⟨_, rfl⟩
  have e' := (readE_of h0 h1 h2 h3).symm.trans h
  simp only [Prod.mk.injEq] at e'
  obtain ⟨rfl, rfl, rfl⟩ := e'
  have b3 : f2 = 0 ∧ l2 = tailE ⟨(n0 : Int), (n1 : Int), (n2 : Int), x, (c : Int)⟩ := by
    by_cases hn : n0 = 1
    · subst hn
      obtain ⟨⟨y, l4, f4⟩, h4⟩ : ∃ R, rtext 128 l2 f2 = R := ⟨_, rfl⟩
      have e4 := (rtail_one h4).symm.trans h3
      simp only [Prod.mk.injEq] at e4
      obtain ⟨⟨rfl, rfl⟩, rfl, rfl⟩ := e4
      obtain ⟨a, b⟩ := (good_text 128).back_of h4
      refine ⟨a, ?_⟩
      unfold tailE
      simp only
      rw [if_pos (by rfl), b, List.append_nil]
    · by_cases hn2 : n0 = 2
      · subst hn2
        obtain ⟨⟨y, l4, f4⟩, h4⟩ : ∃ R, rbyte 254 l2 f2 = R := ⟨_, rfl⟩
        have e4 := (rtail_two h4).symm.trans h3
        simp only [Prod.mk.injEq] at e4
        obtain ⟨⟨rfl, rfl⟩, rfl, rfl⟩ := e4
        obtain ⟨a, b⟩ := (good_byte 254).back_of h4
        refine ⟨a, ?_⟩
        unfold tailE
        simp only
        rw [if_neg (by decide), if_pos (by rfl), b, List.append_nil]
        rfl
      · rw [rtail_else _ _ hn hn2] at h3
        simp only [Prod.mk.injEq] at h3
        obtain ⟨⟨rfl, rfl⟩, rfl, rfl⟩ := h3
        refine ⟨rfl, ?_⟩
        unfold tailE
        simp only
        rw [if_neg (by omega), if_neg (by omega)]
  obtain ⟨rfl, b3⟩ := b3
  obtain ⟨rfl, b2⟩ := (good_num _).back_of h2
  obtain ⟨rfl, b1⟩ := (good_num _).back_of h1
  obtain ⟨_, b0⟩ := (good_byte _).back_of h0
  rw [b0, b1, b2, b3]
  simp [layE, layU]
theorem decE_back (l : List UInt8) : ((decE l).2 ≠ 0 ∧ (decE l).1 = .zero) ∨ ((decE l).2 = 0 ∧ rightE (decE l).1 = true ∧ layE (decE l).1 = l) := by
  by_cases h : 160 < l.length
  · rw [decE_long h]; exact .inl ⟨by simp, rfl⟩
  · obtain ⟨⟨e, l', f'⟩, hr⟩ : ∃ R, readE l = R := ⟨_, rfl⟩
    by_cases hf : rend l' f' = 0
    · cases hR : rightE e
      · rw [decE_wrong h hr hf hR]; exact .inl ⟨by simp, rfl⟩
      · rw [decE_right h hr hf hR]
        obtain ⟨rfl, rfl⟩ := rend_zero hf
        exact .inr ⟨rfl, hR, (readE_back hr).symm⟩
    · rw [decE_bad h hr hf]; exact .inl ⟨hf, rfl⟩
end Go.Proofs.Ytnhcbjlaeaohjaa

namespace Go.Proofs.Ytnhcbjlaeaohjaa.Sep
open Go.RowKit
open Go.Proofs.Ytnhcbjlaeaohjaa.Mem (Dist Blk Chg)

/-- a thing for each element -/
def Each {α : Type} (f : α → Ass) (l : List α) : Ass := fun rs => Parts (l.map f) rs
section
variable {α : Type} {f : α → Ass} {l : List α} {B : Nat → Prop} {w0 w w' : World} {os : List Ass}
theorem each_nil : Each f [] [] := rfl
theorem Each.push {x : α} {a b : List RowT} (h : Each f l a) (h' : f x b) : Each f (l ++ [x]) (a ++ b) := by
  unfold Each
  rw [List.map_append]
  exact Parts.app h (Parts.one h')
/-- for the step 'close': what a list's things and one more are -/
theorem each_close {x : α} : ∀ rs, Parts [Each f l, f x] rs → Each f (l ++ [x]) rs := fun rs h => by
  obtain ⟨a, b, e, h1, h2⟩ := h
  subst e
  exact h1.push (Parts.one' h2)
theorem Each.at_ {j : Nat} {x : α} {rs : List RowT} (h : Each f l rs) (hr : RowsOf w rs) (hj : l[j]? = some x) : ∃ ys, f x ys ∧ RowsOf w ys := by
  obtain ⟨a, y, b, e, h1, _⟩ := Parts.at_ (i := j) (o := f x) h (by simp [hj])
  exact ⟨y, h1, rows_iff.2 fun z hz => rows_iff.1 hr z (by rw [e]; simp [hz])⟩
theorem Hp.each (h : Hp B w0 w os) (i : Nat) (hi : os[i]? = some (Each f l)) {j : Nat} {x : α} (hj : l[j]? = some x) : ∃ ys, f x ys ∧ RowsOf w ys := by
  obtain ⟨rs, h1, h2⟩ := h.thing i hi
  exact h1.at_ h2 hj
end
section
variable {P : Program} {ops : Array Oper} {Q : Exit → Act → World → Prop} {n : Nat} {env : List (Nat × Value)} {B : Nat → Prop} {w0 : World} {os : List Ass} {α : Type}
end

/-! ## A store into an element of several cells -/
section
variable {P : Program} {Q : Exit → Act → World → Prop} {n : Nat} {env : List (Nat × Value)} {B : Nat → Prop} {w0 : World} {os : List Ass} {o : Oper} {e : TypeId} {k : Nat} {α : Type} {enc : α → List Value} {v : Value} {l : List α}
end

/-! ## Entries -/
/-- an entry and where its bytes lie -/
structure EntV where
  e : EntD
  A : Option Addr
  c : Nat
def EntV.v (x : EntV) : Value := .slice x.A x.e.d.length x.c
def encV (x : EntV) : List Value := [.int .i64 x.e.k, .int .u64 x.e.t, .int .u64 x.e.i, x.v, .int .i64 x.e.c]
theorem okV : EncOf 5 encV := ⟨fun _ => rfl, fun x v h => by unfold encV EntV.v at h; simp at h; rcases h with rfl | rfl | rfl | rfl | rfl <;> rfl⟩
/-- v is a slice that reads as these entries -/
def EntsRd (w : World) (v : Value) (l : List EntV) : Prop := SlRd w 5 v l.length (flat encV l) ∧ ∀ x, x ∈ l → Sl8 w x.v x.e.d
section
variable {u w w0 : World} {v : Value} {l : List EntV} {X : Ass} {B : Nat → Prop} {os : List Ass} {rs : List RowT} {te : TypeId}
theorem SlRd.below {k m : Nat} {a : Value} {ys : List Value} (h : SlRd u k a m ys) (hb : Below u.heap.size u w) : SlRd w k a m ys := by
  obtain ⟨h1, A, c, e, hA⟩ := h
  refine ⟨h1, A, c, e, hA.imp id fun ⟨a, ha, hc⟩ => ⟨a, ha, fun j x hx => ?_⟩⟩
  have h0 := hc j x hx
  rw [hb.cell (World.block_lt_of_cell? _ _ h0)]
  exact h0
theorem EntsRd.below (h : EntsRd u v l) (hb : Below u.heap.size u w) : EntsRd w v l := ⟨h.1.below hb, fun x hx => (h.2 x hx).below hb⟩
theorem argEs (h : EntsRd u v l) (hU : Below u.heap.size u w0) (hS : ∀ k, B k → u.heap.size ≤ k) (hH : Hp B w0 w os) : EntsRd w v l := ⟨arg_rdU h.1 hU hS hH, fun x hx => arg8 (h.2 x hx) hU hS hH⟩
theorem entsNil (w : World) : EntsRd w (.slice none 0 0) [] := ⟨⟨rfl, none, 0, rfl, .inl ⟨rfl, rfl⟩⟩, fun x hx => by cases hx⟩
/-- entries in rows of their own, each one's bytes too -/
def Ents (te : TypeId) (v : Value) (l : List EntV) : Ass := star [Vec te 5 encV v l, Each (fun x : EntV => Vec 5 1 encB x.v x.e.d) l]
theorem Ents.rd (h : Ents te v l rs) (hr : RowsOf w rs) : EntsRd w v l := by
  obtain ⟨a, b, e, h1, h2⟩ := h
  subst e
  have ha : RowsOf w a := rows_iff.2 fun z hz => rows_iff.1 hr z (by simp [hz])
  have hb : RowsOf w b := rows_iff.2 fun z hz => rows_iff.1 hr z (by simp [hz])
  refine ⟨h1.all okV ha, fun x hx => ?_⟩
  obtain ⟨j, hj⟩ := List.getElem?_of_mem hx
  obtain ⟨ys, h3, h4⟩ := (Parts.one' h2).at_ hb hj
  exact vec_sl8 h3 h4
def RdEs (X : Ass) (v : Value) (l : List EntV) : Prop := ∀ rs w, X rs → RowsOf w rs → EntsRd w v l
theorem rdEs_ents : RdEs (Ents te v l) v l := fun _ _ h1 h2 => h1.rd h2
theorem Hp.rdEs (h : Hp B w0 w os) (i : Nat) (hi : os[i]? = some X) (hu : RdEs X v l) : EntsRd w v l := by
  obtain ⟨rs, h1, h2⟩ := h.thing i hi
  exact hu rs w h1 h2
theorem Hp.ents (h : Hp B w0 w os) (i : Nat) (hi : os[i]? = some (Ents te v l)) : EntsRd w v l := h.rdEs i hi rdEs_ents
/-- for 'open' and 'close' -/
theorem ents_open : ∀ rs, Ents te v l rs → ∃ _ : Unit, Parts [Vec te 5 encV v l, Each (fun x : EntV => Vec 5 1 encB x.v x.e.d) l] rs := fun _ h => ⟨(), h⟩
/-- one more: the slice that append has answered, the others' bytes, and its own -/
theorem ents_push {x : EntV} : ∀ rs, Parts [Vec te 5 encV v (l ++ [x]), Each (fun x : EntV => Vec 5 1 encB x.v x.e.d) l, Vec 5 1 encB x.v x.e.d] rs → Ents te v (l ++ [x]) rs := fun rs h => by
  obtain ⟨a, b, e, h1, h2⟩ := h
  exact ⟨a, b, e, h1, Parts.one (each_close _ h2)⟩
theorem entsT_nil : Ents te (.slice none 0 0) [] [] := ⟨[], [], rfl, nilVec _ _ _, [], [], rfl, each_nil, rfl⟩
end

/-! ## A message -/
def cellsM (k a b t i lt : Int) (ev : Value) (co : Int) (rf : Bool) (bi bt bc o : Int) (dv : Value) (la : Bool) : List Value :=
  [.int .i64 k, .int .i64 a, .int .i64 b, .int .u64 t, .int .u64 i, .int .u64 lt, ev, .int .u64 co, .bool rf, .int .u64 bi, .int .u64 bt, .int .i64 bc, .int .i64 o, dv, .bool la]
end Go.Proofs.Ytnhcbjlaeaohjaa.Sep

namespace Go.Proofs.Ytnhcbjlaeaohjaa.Sep
open Go.RowKit
open Go.Proofs.Ytnhcbjlaeaohjaa.Mem (Dist Blk Chg below0)
section
variable {P : Program} {n : Nat} {B : Nat → Prop} {w0 w : World} {os : List Ass} {env : List (Nat × Value)} {o : Oper} {a : Act}
theorem exec_or {T T' : TypeId} {x y : Operand} {k : IntKind} {p q r : Int} (hr : bits .or k p q = r) (ho : o.op = .binOp .or T x y T') (hx : evs env x = some (.int k p)) (hy : evs env y = some (.int k q)) (hF : Fr n a env) : (execOp a.eval o).run P w = .ok (.value (.int k r)) w := by
  unfold execOp
  simp only [ho, hF.evs hx, hF.evs hy]
  simp [eqGuard, binOp, intBits_or, hr]
theorem exec_and {T T' : TypeId} {x y : Operand} {k : IntKind} {p q r : Int} (hr : bits .and k p q = r) (ho : o.op = .binOp .and T x y T') (hx : evs env x = some (.int k p)) (hy : evs env y = some (.int k q)) (hF : Fr n a env) : (execOp a.eval o).run P w = .ok (.value (.int k r)) w := by
  unfold execOp
  simp only [ho, hF.evs hx, hF.evs hy]
  simp [eqGuard, binOp, intBits_and, hr]
/-- 'string(b)', of bytes that can be read -/
theorem exec_str8 {T T' e : TypeId} {v : Value} {l : List UInt8} {x : Operand} (hs : P.underlying T = some (.slice e)) (he : P.underlying e = some (.int .u8)) (hi : (P.info? e).map (fun i => (i.zero, i.size, i.bytes)) = some (some (.int .u8 0), 1, 1)) (hd : P.underlying T' = some .string) (h : Sl8 w v l) (ho : o.op = .convert T T' x) (hx : evs env x = some v) (hF : Fr n a env) : (execOp a.eval o).run P w = .ok (.value (.string (bs l))) w := by
  obtain ⟨A, c, rfl, hb⟩ := h
  have := run_str (P := P) ⟨hs, he, hi⟩ hd hb
  unfold execOp
  simp only [ho, hF.evs hx, Sem.run_bind, Sem.run_pure, Result.andThen_ok, this]
  rfl
end
theorem varint8 {w : World} {A : Option Addr} {c : Nat} {l : List UInt8} (h : Sl8 w (.slice A l.length c) l) (hl : l.length ≤ 140737488355328) (most : Nat) (hm : most < 18446744073709551616) (R : Nat × Nat × Nat) (hv : vnum most l 0 0 = R) : Calls Try.prog 84 #[.slice A l.length c, .int .u64 (most : Int)] w fun e w' => e = .returned (.tuple #[.int .u64 (R.1 : Int), .int .i64 (R.2.1 : Int), .int .i64 (R.2.2 : Int)]) ∧ Below w.heap.size w w' := by
  subst hv
  obtain ⟨A', c', e, hb⟩ := h
  simp only [Value.slice.injEq] at e
  obtain ⟨rfl, _, rfl⟩ := e
  refine (varint_any w A c l most hb hl hm).mono ?_
  rintro e w' ⟨he, rfl⟩
  exact ⟨he, Below.refl _ _⟩
section
variable {P : Program} {n : Nat} {w : World} {env : List (Nat × Value)} {o : Oper} {a : Act}
end
theorem arg80 {w0 w : World} {v : Value} {l : List UInt8} {os : List Ass} (h : Sl8 w0 v l) (hH : Hp Nil w0 w os) : Sl8 w v l := h.below (hH.up.below (Nat.le_refl _) (fun _ h => h.elim))
theorem putIf_len3 {b : Bool} {l x r : List UInt8} {k : Nat} (hr : putIf b l x = r) (h : b = true → x.length ≤ k) : r.length ≤ l.length + k := by
  subst hr
  cases b with
  | true => have := h rfl; simp [putIf]; omega
  | false => simp [putIf]
theorem sl8_nil (w : World) : Sl8 w (.slice none 0 0) [] := ⟨none, 0, rfl, Bs.nil _ _ _ (by decide)⟩
theorem Sl8.drop {w : World} {A : Option Addr} {c k : Nat} {l : List UInt8} (h : Sl8 w (.slice A l.length c) l) (hk : k ≤ l.length) : Sl8 w (.slice (if c = k then A else A.map (·.add k)) (l.drop k).length (c - k)) (l.drop k) := by
  obtain ⟨A', c', e, hb⟩ := h
  simp only [Value.slice.injEq] at e
  obtain ⟨rfl, _, rfl⟩ := e
  exact ⟨_, _, rfl, hb.drop hk⟩
theorem Sl8.takes {w : World} {A : Option Addr} {c k : Nat} {l : List UInt8} (h : Sl8 w (.slice A l.length c) l) (hk : k ≤ l.length) : Sl8 w (.slice A (l.take k).length c) (l.take k) := by
  obtain ⟨A', c', e, hb⟩ := h
  simp only [Value.slice.injEq] at e
  obtain ⟨rfl, _, rfl⟩ := e
  exact ⟨_, _, rfl, hb.take hk⟩
section
variable {P : Program} {n : Nat} {w : World} {env : List (Nat × Value)} {o : Oper} {a : Act}
/-- what remains of a division, of the sign of what is divided -/
theorem exec_remI {T T' : TypeId} {x y : Operand} {k : IntKind} {p q r : Int} (ho : o.op = .binOp .rem T x y T') (hx : evs env x = some (.int k p)) (hy : evs env y = some (.int k q)) (hq : q ≠ 0) (hr : p.tmod q = r) (hF : Fr n a env) : (execOp a.eval o).run P w = .ok (.value (.int k r)) w := by
  unfold execOp
  simp only [ho, hF.evs hx, hF.evs hy]
  simp [eqGuard, binOp, Op.intArith, Op.intDiv, hq, hr]
end
/-! ## append of many bytes -/
section
variable {P : Program} {t e ty : TypeId} {v u : Value} {l m : List UInt8} {w w' : World} {rs : List RowT}
theorem run_append8 (hT : SliceT P t e 1) (h1 : (P.info? e).map (fun i => i.bytes) = some 1) (h : Vec e 1 encB v l rs) (hr : RowsOf w rs) (hd : Dist rs) (hu : SlRd w 1 u m.length (flat encB m)) (hlen : l.length + m.length ≤ 140737488355328) :
    ∃ v' w', (Builtin.append_ #[t, t] ty #[v, u]).run P w = .ok v' w' ∧ ∃ rs', Vec e 1 encB v' (l ++ m) rs' ∧ Chg w w' rs rs' := by
  obtain ⟨i, z, hi, hz, hk, hby, hzs, _⟩ := hT.inf
  have hb1 : i.bytes = 1 := by simpa [hi] using h1
  obtain ⟨hul, A, c, rfl, hA⟩ := hu
  have hu1 := flat_one okB m
  rcases hA with ⟨rfl, hm⟩ | ⟨a, rfl, hcells⟩
  · have hm' : m = [] := List.length_eq_zero_iff.1 hm
    subst hm'
    refine ⟨v, w, ?_, rs, by simpa using h, ⟨Mod.refl _ _, hr, hd, fun x hx _ => ⟨x, hx, rfl⟩⟩⟩
    rcases h with ⟨h1, h2, h3⟩ | ⟨g, c', cs, h1, h2, h3, h4, h5, h6⟩
    · subst h1
      simp [Builtin.append_, run_underlying hT.ht, sizeOf, typeInfo, hi, Builtin.lenOf, Builtin.firstCells]
    · subst h1
      simp [Builtin.append_, run_underlying hT.ht, sizeOf, typeInfo, hi, Builtin.lenOf, Builtin.firstCells, h2, storeCells]
  · have hown : w.ownsRow 0 e 1 v l.length (flat encB l) := by
      refine ⟨flat_len okB l, ?_⟩
      rcases h with ⟨h1, h2, h3⟩ | ⟨g, c', cs, h1, h2, h3, h4, h5, h6⟩
      · exact .inl ⟨h1, by rw [h2]; rfl⟩
      · subst h6
        exact .inr ⟨g, c', cs, h1, Nat.zero_le _, hr.1, h2, h3, h4, h5⟩
    obtain ⟨v', w', hrun, h2, h3, _, h5⟩ := run_append_own_at (P := P) w 0 t ty e i z 1 i.bytes hT.ht hi hz hk rfl hzs hT.pos v l.length (flat encB l) hown a m.length c (flat encB m) hul hcells hu1 (by unfold maxLen; omega)
      (by rw [hb1]; omega) (Nat.zero_le _)
    refine ⟨v', w', hrun, ?_⟩
    have hm : Mod (At v) w w' := Mod.of_grown h3 (fun k hk => hk)
    have hmB : Mod (Blk rs) w w' := hm.weaken fun j _ hj => by
      rcases h with ⟨h1, _, _⟩ | ⟨g, c', cs, h1, _, _, _, _, h6⟩
      · subst h1; unfold At at hj; simp [Value.ownBlock] at hj
      · subst h1; subst h6
        unfold At at hj
        simp [Value.ownBlock] at hj
        exact ⟨(g, e, cs), by simp, hj⟩
    rcases h2.2 with ⟨h1, hn⟩ | ⟨g, c', cs, h1, _, hrow, hle, hmx, hsz, htk⟩
    · have : l ++ m = [] := List.length_eq_zero_iff.1 (by rw [List.length_append]; exact hn)
      exact ⟨[], .inl ⟨h1, this, rfl⟩, ⟨hmB, trivial, trivial, fun x hx => by simp at hx⟩⟩
    · refine ⟨[(g, e, cs)], .inr ⟨g, c', cs, by rw [h1, List.length_append], by rw [List.length_append]; exact hle, hmx, hsz, by rw [List.length_append, flat_app]; exact htk, rfl⟩, ⟨hmB, ⟨hrow, trivial⟩, ⟨(fun _ h => by cases h), trivial⟩, fun x hx hlt => ?_⟩⟩
      have : x = (g, e, cs) := by simpa using hx
      subst this
      rcases h5 with h5 | h5
      · subst h1
        rcases h with ⟨h1, _, _⟩ | ⟨g', c'', cs', h1, _, _, _, _, h6⟩
        · subst h1; simp [Value.ownBlock] at h5
        · subst h1; subst h6
          simp [Value.ownBlock] at h5
          exact ⟨(g', e, cs'), by simp, h5.symm⟩
      · subst h1
        simp [Value.ownBlock] at h5
        exact absurd hlt (by show ¬ g < w.heap.size; omega)
variable {Q : Exit → Act → World → Prop} {n : Nat} {B : Nat → Prop} {w0 : World} {os : List Ass} {env : List (Nat × Value)} {o : Oper}
theorem a_append8 (i : Nat) (hT : SliceT P t e 1) (h1 : (P.info? e).map (fun i => i.bytes) = some 1) (hi : os[i]? = some (Vec e 1 encB v l)) (m : List UInt8) (hu : ∀ w, Hp B w0 w os → SlRd w 1 u m.length (flat encB m)) (hlen : l.length + m.length ≤ 140737488355328) {x y : Operand} (ho : o.op = .call { callee := .builtin .append, args := #[x, y], argTypes := #[t, t] }) (hx : evs env x = some v) (hy : evs env y = some u) {r : List UInt8} (hr : l ++ m = r) :
    Acts P Q n env B w0 os o (fun v : Value => v) (fun v' => os.set i (Vec e 1 encB v' r)) := fun act w hH hF K hK => by
  subst hr
  have hH' := hH
  obtain ⟨rs0, hp, hm⟩ := hH
  obtain ⟨a, z, b, e1, hz, hb⟩ := hp.at_ hi
  subst e1
  have p : (a ++ (z ++ b)).Perm (z ++ (a ++ b)) := by rw [← List.append_assoc, ← List.append_assoc]; exact List.perm_append_comm.append_right b
  have h5 := hp_perm hm p
  have hd := dist_iff.1 h5.apart
  rw [List.map_append] at hd
  obtain ⟨v', w', hr, y', hy', hc⟩ := run_append8 (P := P) (ty := o.type) hT h1 hz (rows_iff.2 fun z hz => h5.rows.mem z (by simp [hz])) (dist_iff.2 (List.nodup_append.1 hd).1) (hu w hH') hlen
  have p' : (y' ++ (a ++ b)).Perm (a ++ (y' ++ b)) := by rw [← List.append_assoc, ← List.append_assoc]; exact List.perm_append_comm.append_right b
  refine a_val (w0 := w) act (exec_bi ho (vs := [v, u]) (by simp [evl, hx, hy]) (fun cs => ?_) hF) (hK v' w' ⟨_, hb _ y' hy', hp_perm (hp_chg h5 hc) p'⟩)
  simp only [builtin, Sem.run_bind, Sem.run_pure, Result.andThen_ok, hr]
end
section
variable {P : Program} {Q : Exit → Act → World → Prop} {n : Nat} {B : Nat → Prop} {w0 : World} {os : List Ass} {env : List (Nat × Value)} {o : Oper} {t e : TypeId}
end
end Go.Proofs.Ytnhcbjlaeaohjaa.Sep

namespace Go.Proofs.Ytnhcbjlaeaohjaa.Sep
open Go.RowKit
open Go.Proofs.Ytnhcbjlaeaohjaa.Mem (Dist Blk Chg below0)
theorem ty_s_api_Entry : OneOf Try.prog 23 := oneOf Try.underlying23 rfl (by kernel_rfl)
theorem ty_s_uint8 : OneOf Try.prog 26 := oneOf Try.underlying26 rfl (by kernel_rfl)
theorem ty_api_Base : AggOf Try.prog 25 3 := aggOf Try.underlying25 rfl (by kernel_rfl)
theorem ty_api_Entry : AggOf Try.prog 36 5 := aggOf Try.underlying36 rfl (by kernel_rfl)
theorem ze_api_Entry : Zero Try.prog 36 #[.int .i64 0, .int .u64 0, .int .u64 0, .slice none 0 0, .int .i64 0] := zero_of (z := .agg #[.int .i64 0, .int .u64 0, .int .u64 0, .slice none 0 0, .int .i64 0]) (by kernel_rfl) rfl
theorem ty_api_Errno : OneOf Try.prog 29 := oneOf Try.underlying29 rfl (by kernel_rfl)
theorem ty_api_Msg : AggOf Try.prog 28 15 := aggOf Try.underlying28 rfl (by kernel_rfl)
theorem ty_bool : OneOf Try.prog 4 := oneOf Try.underlying4 rfl (by kernel_rfl)
theorem ty_int : OneOf Try.prog 3 := oneOf Try.underlying3 rfl (by kernel_rfl)
theorem ty_uint64 : OneOf Try.prog 22 := oneOf Try.underlying22 rfl (by kernel_rfl)
theorem ty_uint8 : OneOf Try.prog 5 := oneOf Try.underlying5 rfl (by kernel_rfl)
theorem fd_api_Base_0 : FieldAt Try.prog 25 0 0 := fun g off w => by kernel_rfl
theorem fd_api_Base_1 : FieldAt Try.prog 25 1 1 := fun g off w => by kernel_rfl
theorem fd_api_Base_2 : FieldAt Try.prog 25 2 2 := fun g off w => by kernel_rfl
theorem fd_api_Entry_0 : FieldAt Try.prog 36 0 0 := fun g off w => by kernel_rfl
theorem fd_api_Entry_1 : FieldAt Try.prog 36 1 1 := fun g off w => by kernel_rfl
theorem fd_api_Entry_2 : FieldAt Try.prog 36 2 2 := fun g off w => by kernel_rfl
theorem fd_api_Entry_3 : FieldAt Try.prog 36 3 3 := fun g off w => by kernel_rfl
theorem fd_api_Entry_4 : FieldAt Try.prog 36 4 4 := fun g off w => by kernel_rfl
theorem fd_api_Msg_0 : FieldAt Try.prog 28 0 0 := fun g off w => by kernel_rfl
theorem fd_api_Msg_1 : FieldAt Try.prog 28 1 1 := fun g off w => by kernel_rfl
theorem fd_api_Msg_2 : FieldAt Try.prog 28 2 2 := fun g off w => by kernel_rfl
theorem fd_api_Msg_3 : FieldAt Try.prog 28 3 3 := fun g off w => by kernel_rfl
theorem fd_api_Msg_4 : FieldAt Try.prog 28 4 4 := fun g off w => by kernel_rfl
theorem fd_api_Msg_5 : FieldAt Try.prog 28 5 5 := fun g off w => by kernel_rfl
theorem fd_api_Msg_6 : FieldAt Try.prog 28 6 6 := fun g off w => by kernel_rfl
theorem fd_api_Msg_7 : FieldAt Try.prog 28 7 7 := fun g off w => by kernel_rfl
theorem fd_api_Msg_8 : FieldAt Try.prog 28 8 8 := fun g off w => by kernel_rfl
theorem fd_api_Msg_9 : FieldAt Try.prog 28 9 9 := fun g off w => by kernel_rfl
theorem fd_api_Msg_10 : FieldAt Try.prog 28 10 12 := fun g off w => by kernel_rfl
theorem fd_api_Msg_11 : FieldAt Try.prog 28 11 13 := fun g off w => by kernel_rfl
theorem fd_api_Msg_12 : FieldAt Try.prog 28 12 14 := fun g off w => by kernel_rfl
theorem fd_bursarref1_Reader_0 : FieldAt Try.prog 82 0 0 := fun g off w => by kernel_rfl
theorem fd_bursarref1_Reader_2 : FieldAt Try.prog 82 2 2 := fun g off w => by kernel_rfl
theorem fd_pack_Reader_0 : FieldAt Try.prog 99 0 0 := fun g off w => by kernel_rfl
theorem fd_pack_Reader_1 : FieldAt Try.prog 99 1 1 := fun g off w => by kernel_rfl
theorem sl_api_Entry : SliceT Try.prog 23 36 5 := sliceT_of (z := .agg #[.int .i64 0, .int .u64 0, .int .u64 0, .slice none 0 0, .int .i64 0]) Try.underlying23 (by kernel_rfl) rfl rfl (by decide)
theorem sl_uint8 : SliceT Try.prog 26 5 1 := sliceT_of (z := .int .u8 0) Try.underlying26 (by kernel_rfl) rfl rfl (by decide)
def flS : List ((Nat × Nat) × Nat) := [((25, 0), 0), ((25, 1), 1), ((25, 2), 2), ((36, 0), 0), ((36, 1), 1), ((36, 2), 2), ((36, 3), 3), ((36, 4), 4), ((28, 0), 0), ((28, 1), 1), ((28, 2), 2), ((28, 3), 3), ((28, 4), 4), ((28, 5), 5), ((28, 6), 6), ((28, 7), 7), ((28, 8), 8), ((28, 9), 9), ((28, 10), 12), ((28, 11), 13), ((28, 12), 14), ((82, 0), 0), ((82, 2), 2), ((99, 0), 0), ((99, 1), 1)]
theorem hflS : Flds Try.prog flS := flds_of ⟨fd_api_Base_0, fd_api_Base_1, fd_api_Base_2, fd_api_Entry_0, fd_api_Entry_1, fd_api_Entry_2, fd_api_Entry_3, fd_api_Entry_4, fd_api_Msg_0, fd_api_Msg_1, fd_api_Msg_2, fd_api_Msg_3, fd_api_Msg_4, fd_api_Msg_5, fd_api_Msg_6, fd_api_Msg_7, fd_api_Msg_8, fd_api_Msg_9, fd_api_Msg_10, fd_api_Msg_11, fd_api_Msg_12, fd_bursarref1_Reader_0, fd_bursarref1_Reader_2, fd_pack_Reader_0, fd_pack_Reader_1, trivial⟩

theorem neB (b c : Bool) : NeAt Try.prog 4 (.bool b) (.bool c) (b != c) := fun x y w => by
  cases b <;> cases c <;> go_simp
theorem eqBase (a b c d e f : Int) : EqAt Try.prog 25 (.agg #[.int .u64 a, .int .u64 b, .int .i64 c]) (.agg #[.int .u64 d, .int .u64 e, .int .i64 f]) (a == d && (b == e && c == f)) := fun x y w => by
  go_simp
  by_cases h1 : a = d <;> by_cases h2 : b = e <;> by_cases h3 : c = f <;> simp [h1, h2, h3]
end Go.Proofs.Ytnhcbjlaeaohjaa.Sep

namespace Go.Proofs.Ytnhcbjlaeaohjaa.Sep
open Go.RowKit
open Go.Proofs.Ytnhcbjlaeaohjaa.Mem (Dist Blk Chg below0)

set_option maxRecDepth 100000 in
theorem rnumber_f (w : World) (n : Int) (r : Bool) (hr : (n == 0) = r) : Calls Try.prog 57 #[.bool false, .int .u64 n] w fun e w' => e = .returned (.bool r) ∧ Below w.heap.size w w' := by
  refine d_in (args := [.bool false, .int .u64 n]) 15 Try.func57 rfl rfl rfl ?_
  refine d_reg ?_
  refine h_q hflS rfl ?_
  refine h_done (d_seq (d_reg ?_))
  refine h_q hflS rfl ?_
  refine h_done (d_then rfl ?_)
  by_cases h0 : n = 0
  · skip
    obtain rfl : r = true := by rw [← hr]; simp [h0]
    refine d_reg ?_
    refine h_q hflS rfl ?_
    refine h_val rfl (.bool true) (fun b w hb hH => exec_cmp rfl rfl rfl (cmp_eql_t h0) hb) ?_
    refine h_q hflS rfl ?_
    refine h_done (d_ret (f_then_ret ?_))
    exact f_fin1 (.tmp rfl) (fun w h => ⟨rfl, below0 h.up⟩) rfl
  · skip
    obtain rfl : r = false := by rw [← hr]; simp [h0]
    refine d_reg ?_
    refine h_q hflS rfl ?_
    refine h_val rfl (.bool false) (fun b w hb hH => exec_cmp rfl rfl rfl (cmp_eql_f h0) hb) ?_
    refine h_q hflS rfl ?_
    refine h_done (d_ret (f_then_ret ?_))
    exact f_fin1 (.tmp rfl) (fun w h => ⟨rfl, below0 h.up⟩) rfl

set_option maxRecDepth 100000 in
theorem rnumber_t (w : World) (n : Int) (r : Bool) (hr : numB n = r) : Calls Try.prog 57 #[.bool true, .int .u64 n] w fun e w' => e = .returned (.bool r) ∧ Below w.heap.size w w' := by
  refine d_in (args := [.bool true, .int .u64 n]) 15 Try.func57 rfl rfl rfl ?_
  refine d_reg ?_
  refine h_q hflS rfl ?_
  refine h_done (d_seq (d_reg ?_))
  refine h_q hflS rfl ?_
  refine h_done (d_else rfl (d_skip (f_to ?_)))
  have hc : n < 1 ∨ (1 ≤ n ∧ n ≤ 72057594037927935) ∨ 72057594037927935 < n := by omega
  rcases hc with h1 | ⟨h1, h2⟩ | h1
  · skip
    obtain rfl : r = false := by rw [← hr]; simp [numB]; omega
    refine d_reg ?_
    refine h_q hflS rfl ?_
    refine h_val rfl (.bool false) (fun b w hb hH => exec_cmp rfl rfl rfl (cmp_geq_f (by omega)) hb) ?_
    refine h_q hflS rfl ?_
    refine h_done (d_ret ?_)
    exact f_fin1 (.tmp rfl) (fun w h => ⟨rfl, below0 h.up⟩) rfl
  · skip
    obtain rfl : r = true := by rw [← hr]; simp [numB]; omega
    refine d_reg ?_
    refine h_q hflS rfl ?_
    refine h_val rfl (.bool true) (fun b w hb hH => exec_cmp rfl rfl rfl (cmp_geq_t (by omega)) hb) ?_
    refine h_q hflS rfl ?_
    refine h_val rfl (.bool true) (fun b w hb hH => exec_cmp rfl rfl rfl (cmp_leq_t (by omega)) hb) ?_
    refine h_q hflS rfl ?_
    refine h_done (d_ret ?_)
    exact f_fin1 (.tmp rfl) (fun w h => ⟨rfl, below0 h.up⟩) rfl
  · skip
    obtain rfl : r = false := by rw [← hr]; simp [numB]; omega
    refine d_reg ?_
    refine h_q hflS rfl ?_
    refine h_val rfl (.bool true) (fun b w hb hH => exec_cmp rfl rfl rfl (cmp_geq_t (by omega)) hb) ?_
    refine h_q hflS rfl ?_
    refine h_val rfl (.bool false) (fun b w hb hH => exec_cmp rfl rfl rfl (cmp_leq_f (by omega)) hb) ?_
    refine h_q hflS rfl ?_
    refine h_done (d_ret ?_)
    exact f_fin1 (.tmp rfl) (fun w h => ⟨rfl, below0 h.up⟩) rfl

theorem rnumber_any (w : World) (there : Bool) (n : Int) (r : Bool) (hr : mayB there (numB n) (n == 0) = r) : Calls Try.prog 57 #[.bool there, .int .u64 n] w fun e w' => e = .returned (.bool r) ∧ Below w.heap.size w w' := by
  cases there
  · exact rnumber_f w n r hr
  · exact rnumber_t w n r hr

end Go.Proofs.Ytnhcbjlaeaohjaa.Sep

namespace Go.Proofs.Ytnhcbjlaeaohjaa.Sep
open Go.RowKit
open Go.Proofs.Ytnhcbjlaeaohjaa.Mem (Dist Blk Chg below0)

end Go.Proofs.Ytnhcbjlaeaohjaa.Sep

namespace Go.Proofs.Ytnhcbjlaeaohjaa.Sep
open Go.RowKit
open Go.Proofs.Ytnhcbjlaeaohjaa.Mem (Dist Blk Chg below0)

theorem rbyte_stop {most f : Nat} {l : List UInt8} (h : f ≠ 0) : rbyte most l f = (0, l, f) := rbyte_stuck h
theorem rbyte_nil {most f : Nat} {l : List UInt8} (hf : f = 0) (h : l.length = 0) : rbyte most l f = (0, l, 10) := by
  subst hf
  rw [List.eq_nil_of_length_eq_zero h]; rfl
theorem rbyte_big {most f : Nat} {l : List UInt8} {x : UInt8} (hf : f = 0) (hx : l[0]? = some x) (h : most < x.toNat) : rbyte most l f = (0, l, 12) := by
  subst hf
  cases l with
  | nil => simp at hx
  | cons b r =>
    simp only [List.getElem?_cons_zero, Option.some.injEq] at hx
    subst hx
    simp only [rbyte]
    rw [if_neg (by simp), if_pos h]
theorem rbyte_fine {most f : Nat} {l : List UInt8} {x : UInt8} (hf : f = 0) (hx : l[0]? = some x) (h : ¬ most < x.toNat) : rbyte most l f = (x.toNat, l.drop 1, f) := by
  subst hf
  cases l with
  | nil => simp at hx
  | cons b r =>
    simp only [List.getElem?_cons_zero, Option.some.injEq] at hx
    subst hx
    simp only [rbyte]
    rw [if_neg (by simp), if_neg h]; rfl
theorem vnum_sz (most : Nat) (l : List UInt8) : (vnum most l 0 0).2.1 ≤ l.length := by
  rcases vnum_ends most l 0 0 (by omega) (by decide) with h | h <;> omega
section
variable {P : Program} {n : Nat} {B : Nat → Prop} {w0 w : World} {os : List Ass} {env : List (Nat × Value)} {o : Oper} {a : Act}
end

set_option maxRecDepth 100000 in
theorem rd_new (u : World) (v : Value) (l : List UInt8) (hv : Sl8 u v l) (hl : l.length ≤ 140737488355328) : DoesU u Try.prog 41 #[v] [] (fun (g : Nat) => .pointer (some ⟨g, 0, none⟩)) (fun (g : Nat) => [RdT g l 0]) := by
  refine d_insU (args := [v]) 7 Try.func41 rfl rfl rfl ?_; intro w rs hU hS
  refine d_reg ?_
  refine h_q hflS rfl ?_
  refine h_done (d_reg ?_)
  refine h_q hflS rfl ?_
  refine h_act (post := fun v2 => [Vec 5 1 encB v2 l]) rfl (a_doesU hU hS (os' := fun v2 => [Vec 5 1 encB v2 l]) [] 0 (ent_of Try.func80 (by kernel_rfl) rfl) (clone8U u hv hl) rfl rfl rfl (fun _ => rfl) rfl rfl rfl) ?_; rintro v2
  refine WL2.fact 0 rfl (fun _ h => Vec.is h) ?_; rintro ⟨A, c, rfl⟩
  refine h_val rfl (.agg #[.slice A l.length c, .int .i64 0]) (fun b w hb hH => exec_build rfl rfl (by kernel_rfl) hb) ?_
  refine h_act (post := fun g1 => [cell g1 99 #[.slice A l.length c, .int .i64 0], Vec 5 1 encB (.slice A l.length c) l]) rfl (a_box (cs := #[.slice A l.length c, .int .i64 0]) rfl rfl rfl) ?_; rintro g1
  refine h_q hflS rfl ?_
  refine h_done (d_ret ?_)
  exact f_fin1 (.tmp rfl) (fun w h => tells g1 rfl [0, 1] rfl h (fun z hz => ⟨z, .refl _, Parts.one (RdT.mk_ rfl rd8_vec hl z hz)⟩)) rfl

set_option maxRecDepth 100000 in
theorem rd_byte (g : Nat) (l : List UInt8) (f most : Nat) (hm : most < 256) (R : Nat × List UInt8 × Nat) (h : rbyte most l f = R) : Does Try.prog 59 #[.pointer (some ⟨g, 0, none⟩), .int .u8 (most : Int)] [RdT g l f] (fun (_ : Unit) => .int .u8 (R.1 : Int)) (fun (_ : Unit) => [RdT g R.2.1 R.2.2]) := by
  refine d_ins (args := [.pointer (some ⟨g, 0, none⟩), .int .u8 (most : Int)]) 41 Try.func59 rfl rfl rfl ?_; intro w rs
  refine d_open 0 rfl RdT.open_ (fun _ => rfl) ?_; rintro ⟨⟨X, A, c⟩, hR, hL⟩
  refine WC2.keep (env' := [(0, .pointer (some ⟨g, 0, none⟩)), (1, .int .u8 (most : Int))]) ⟨rfl, rfl, trivial⟩ ?_
  refine WC2.mid [cell g 99 #[.slice A l.length c, .int .i64 (f : Int)], X] (.refl _) ?_
  refine d_reg ?_
  refine h_q hflS rfl ?_
  refine h_done (d_seq ?_)
  by_cases hf : f = 0
  · skip
    refine d_reg ?_
    refine h_q hflS rfl ?_
    refine h_val rfl (.pointer (some ⟨g, 0, none⟩)) (fun b w hb hH => by exact exec_nilCheck rfl rfl hb) ?_
    refine h_q hflS rfl ?_
    refine h_val rfl (.int .i64 (f : Int)) (fun b w hb hH => exec_load rfl rfl (reads_one ty_api_Errno rfl) (hH.row 0 rfl) hb) ?_
    refine h_val rfl (.bool false) (fun b w hb hH => exec_cmp rfl rfl rfl (cmp_neq_f (by omega)) hb) ?_
    refine h_done (d_else rfl (d_skip (f_to (d_seq ?_))))
    rcases Nat.eq_zero_or_pos l.length with h0 | h0
    · skip
      obtain rfl : R = (0, l, 10) := h.symm.trans (rbyte_nil hf h0)
      refine d_reg ?_
      refine h_q hflS rfl ?_
      refine h_val rfl (.pointer (some ⟨g, 0, none⟩)) (fun b w hb hH => by exact exec_nilCheck rfl rfl hb) ?_
      refine h_q hflS rfl ?_
      refine h_val rfl (.slice A l.length c) (fun b w hb hH => exec_load rfl rfl (reads_one ty_s_uint8 rfl) (hH.row 0 rfl) hb) ?_
      refine h_val rfl (.int .i64 (l.length : Int)) (fun b w hb hH => e_len sl_uint8 rfl rfl hH hb) ?_
      refine h_val rfl (.bool true) (fun b w hb hH => exec_cmp rfl rfl rfl (cmp_eql_t (by omega)) hb) ?_
      refine h_done (d_then rfl (d_reg ?_))
      refine h_q hflS rfl ?_
      refine h_val rfl (.pointer (some ⟨g, 0, none⟩)) (fun b w hb hH => by exact exec_nilCheck rfl rfl hb) ?_
      refine h_q hflS rfl ?_
      refine h_acts (post := fun _ => [cell g 99 #[.slice A l.length c, .int .i64 10], X]) rfl rfl (a_store 0 (v := .int .i64 10) #[.slice A l.length c, .int .i64 10] ty_api_Errno.2 rfl rfl rfl rfl rfl rfl rfl rfl rfl) ?_; rintro ⟨⟩
      refine h_done (d_reg ?_)
      refine h_q hflS rfl ?_
      refine h_done (d_ret (f_then_ret ?_))
      exact f_fin1 (.tmp rfl) (fun w h => tells () rfl [0, 1] rfl h (fun z hz => ⟨z, .refl _, Parts.one (RdT.mk_ rfl hR hL z hz)⟩)) rfl
    · skip
      obtain ⟨x, hx⟩ : ∃ x, l[0]? = some x := ⟨_, List.getElem?_eq_getElem h0⟩
      refine d_reg ?_
      refine h_q hflS rfl ?_
      refine h_val rfl (.pointer (some ⟨g, 0, none⟩)) (fun b w hb hH => by exact exec_nilCheck rfl rfl hb) ?_
      refine h_q hflS rfl ?_
      refine h_val rfl (.slice A l.length c) (fun b w hb hH => exec_load rfl rfl (reads_one ty_s_uint8 rfl) (hH.row 0 rfl) hb) ?_
      refine h_val rfl (.int .i64 (l.length : Int)) (fun b w hb hH => e_len sl_uint8 rfl rfl hH hb) ?_
      refine h_val rfl (.bool false) (fun b w hb hH => exec_cmp rfl rfl rfl (cmp_eql_f (by omega)) hb) ?_
      refine h_done (d_else rfl (d_skip (f_to (d_reg ?_))))
      refine h_q hflS rfl ?_
      refine h_val rfl (.pointer (some ⟨g, 0, none⟩)) (fun b w hb hH => by exact exec_nilCheck rfl rfl hb) ?_
      refine h_q hflS rfl ?_
      refine h_val rfl (.slice A l.length c) (fun b w hb hH => exec_load rfl rfl (reads_one ty_s_uint8 rfl) (hH.row 0 rfl) hb) ?_
      refine h_val rfl (elp' (.slice A l.length c) (0 * 1)) (fun b w hb hH => e_ridx 1 hR.rd sl_uint8 rfl 0 h0 rfl rfl rfl hH hb) ?_
      refine h_val rfl (.int .u8 ((x).toNat : Int)) (fun b w hb hH => e_rload1 1 hR.rd ty_uint8 okB rfl 0 (a := x) hx rfl rfl rfl hH hb) ?_
      refine h_q hflS rfl ?_
      refine h_done (d_seq ?_)
      by_cases hb : most < x.toNat
      · skip
        obtain rfl : R = (0, l, 12) := h.symm.trans (rbyte_big hf hx hb)
        refine d_reg ?_
        refine h_q hflS rfl ?_
        refine h_val rfl (.bool true) (fun b w hb hH => exec_cmp rfl rfl rfl (cmp_gtr_t (by omega)) hb) ?_
        refine h_done (d_then rfl (d_reg ?_))
        refine h_q hflS rfl ?_
        refine h_val rfl (.pointer (some ⟨g, 0, none⟩)) (fun b w hb hH => by exact exec_nilCheck rfl rfl hb) ?_
        refine h_q hflS rfl ?_
        refine h_acts (post := fun _ => [cell g 99 #[.slice A l.length c, .int .i64 12], X]) rfl rfl (a_store 0 (v := .int .i64 12) #[.slice A l.length c, .int .i64 12] ty_api_Errno.2 rfl rfl rfl rfl rfl rfl rfl rfl rfl) ?_; rintro ⟨⟩
        refine h_done (d_reg ?_)
        refine h_q hflS rfl ?_
        refine h_done (d_ret (f_then_ret ?_))
        exact f_fin1 (.tmp rfl) (fun w h => tells () rfl [0, 1] rfl h (fun z hz => ⟨z, .refl _, Parts.one (RdT.mk_ rfl hR hL z hz)⟩)) rfl
      · skip
        obtain ⟨A2, hA2⟩ : ∃ A2, (if c = 1 then A else A.map (·.add 1)) = A2 := ⟨_, rfl⟩
        obtain ⟨l2, hl2⟩ : ∃ l2, l.drop 1 = l2 := ⟨_, rfl⟩
        have hR2 : Rd8 X (.slice A2 l2.length (c - 1)) l2 := by rw [← hA2, ← hl2]; exact hR.drop (by omega)
        have hn2 : l2.length = l.length - 1 := by rw [← hl2, List.length_drop]
        have hL2 : l2.length ≤ 140737488355328 := by omega
        have hsub : subv 1 (.slice A l.length c) 1 l.length = .slice A2 l2.length (c - 1) := by rw [← hA2]; exact sub_drop (by omega) (by omega)
        obtain rfl : R = (x.toNat, l2, f) := by rw [← h, ← hl2]; exact rbyte_fine hf hx hb
        refine d_reg ?_
        refine h_q hflS rfl ?_
        refine h_val rfl (.bool false) (fun b w hb hH => exec_cmp rfl rfl rfl (cmp_gtr_f (by omega)) hb) ?_
        refine h_done (d_else rfl (d_skip (f_to (d_reg ?_))))
        refine h_q hflS rfl ?_
        refine h_val rfl (.pointer (some ⟨g, 0, none⟩)) (fun b w hb hH => by exact exec_nilCheck rfl rfl hb) ?_
        refine h_q hflS rfl ?_
        refine h_val rfl (.slice A l.length c) (fun b w hb hH => exec_load rfl rfl (reads_one ty_s_uint8 rfl) (hH.row 0 rfl) hb) ?_
        refine h_val rfl (.slice A2 l2.length (c - 1)) (fun b w hb hH => e_sub_lo (i := 1) sl_uint8 hsub h0 rfl rfl rfl hH hb) ?_
        refine h_val rfl (.pointer (some ⟨g, 0, none⟩)) (fun b w hb hH => by exact exec_nilCheck rfl rfl hb) ?_
        refine h_q hflS rfl ?_
        refine h_acts (post := fun _ => [cell g 99 #[.slice A2 l2.length (c - 1), .int .i64 (f : Int)], X]) rfl rfl (a_store 0 (v := .slice A2 l2.length (c - 1)) #[.slice A2 l2.length (c - 1), .int .i64 (f : Int)] ty_s_uint8.2 rfl rfl rfl rfl rfl rfl rfl rfl rfl) ?_; rintro ⟨⟩
        refine h_done (d_reg ?_)
        refine h_q hflS rfl ?_
        refine h_done (d_ret ?_)
        exact f_fin1 (.tmp rfl) (fun w h => tells () rfl [0, 1] rfl h (fun z hz => ⟨z, .refl _, Parts.one (RdT.mk_ rfl hR2 hL2 z hz)⟩)) rfl
  · skip
    obtain rfl : R = (0, l, f) := h.symm.trans (rbyte_stop hf)
    refine d_reg ?_
    refine h_q hflS rfl ?_
    refine h_val rfl (.pointer (some ⟨g, 0, none⟩)) (fun b w hb hH => by exact exec_nilCheck rfl rfl hb) ?_
    refine h_q hflS rfl ?_
    refine h_val rfl (.int .i64 (f : Int)) (fun b w hb hH => exec_load rfl rfl (reads_one ty_api_Errno rfl) (hH.row 0 rfl) hb) ?_
    refine h_val rfl (.bool true) (fun b w hb hH => exec_cmp rfl rfl rfl (cmp_neq_t (by omega)) hb) ?_
    refine h_done (d_then rfl (d_reg ?_))
    refine h_q hflS rfl ?_
    refine h_done (d_ret (f_then_ret ?_))
    exact f_fin1 (.tmp rfl) (fun w h => tells () rfl [0, 1] rfl h (fun z hz => ⟨z, .refl _, Parts.one (RdT.mk_ rfl hR hL z hz)⟩)) rfl

set_option maxRecDepth 100000 in
theorem rd_num (g : Nat) (l : List UInt8) (f most : Nat) (hm : most < 18446744073709551616) (R : Nat × List UInt8 × Nat) (h : rnum most l f = R) : Does Try.prog 60 #[.pointer (some ⟨g, 0, none⟩), .int .u64 (most : Int)] [RdT g l f] (fun (_ : Unit) => .int .u64 (R.1 : Int)) (fun (_ : Unit) => [RdT g R.2.1 R.2.2]) := by
  refine d_ins (args := [.pointer (some ⟨g, 0, none⟩), .int .u64 (most : Int)]) 37 Try.func60 rfl rfl rfl ?_; intro w rs
  refine d_open 0 rfl RdT.open_ (fun _ => rfl) ?_; rintro ⟨⟨X, A, c⟩, hR, hL⟩
  refine WC2.keep (env' := [(0, .pointer (some ⟨g, 0, none⟩)), (1, .int .u64 (most : Int))]) ⟨rfl, rfl, trivial⟩ ?_
  refine WC2.mid [cell g 99 #[.slice A l.length c, .int .i64 (f : Int)], X] (.refl _) ?_
  refine d_reg ?_
  refine h_q hflS rfl ?_
  refine h_done (d_seq ?_)
  by_cases hf : f = 0
  · skip
    have hz := vnum_sz most l
    obtain ⟨⟨n, sz, e2⟩, hv⟩ : ∃ R, vnum most l 0 0 = R := ⟨_, rfl⟩
    rw [hv] at hz
    simp only at hz
    obtain ⟨A2, hA2⟩ : ∃ A2, (if c = sz then A else A.map (·.add sz)) = A2 := ⟨_, rfl⟩
    obtain ⟨l2, hl2⟩ : ∃ l2, l.drop sz = l2 := ⟨_, rfl⟩
    have hR2 : Rd8 X (.slice A2 l2.length (c - sz)) l2 := by rw [← hA2, ← hl2]; exact hR.drop (by omega)
    have hn2 : l2.length = l.length - sz := by rw [← hl2, List.length_drop]
    have hL2 : l2.length ≤ 140737488355328 := by omega
    have hsub : subv 1 (.slice A l.length c) sz l.length = .slice A2 l2.length (c - sz) := by rw [← hA2]; exact sub_drop (by omega) (by omega)
    obtain rfl : R = (n, l2, e2) := by rw [← h, ← hl2]; unfold rnum; rw [if_neg (by simp [hf]), hv]
    refine d_reg ?_
    refine h_q hflS rfl ?_
    refine h_val rfl (.pointer (some ⟨g, 0, none⟩)) (fun b w hb hH => by exact exec_nilCheck rfl rfl hb) ?_
    refine h_q hflS rfl ?_
    refine h_val rfl (.int .i64 (f : Int)) (fun b w hb hH => exec_load rfl rfl (reads_one ty_api_Errno rfl) (hH.row 0 rfl) hb) ?_
    refine h_val rfl (.bool false) (fun b w hb hH => exec_cmp rfl rfl rfl (cmp_neq_f (by omega)) hb) ?_
    refine h_done (d_else rfl (d_skip (f_to (d_reg ?_))))
    refine h_q hflS rfl ?_
    refine h_val rfl (.pointer (some ⟨g, 0, none⟩)) (fun b w hb hH => by exact exec_nilCheck rfl rfl hb) ?_
    refine h_q hflS rfl ?_
    refine h_val rfl (.slice A l.length c) (fun b w hb hH => exec_load rfl rfl (reads_one ty_s_uint8 rfl) (hH.row 0 rfl) hb) ?_
    refine h_q hflS rfl ?_
    refine h_act (post := fun _ => [cell g 99 #[.slice A l.length c, .int .i64 (f : Int)], X]) rfl (a_call (ent_of Try.func84 (by kernel_rfl) rfl) (fun w hH => varint8 (hH.rd8 1 rfl hR) hL most hm (n, sz, e2) hv) rfl rfl rfl) ?_; rintro ⟨⟩
    refine h_q hflS rfl ?_
    refine h_done (d_reg ?_)
    refine h_q hflS rfl ?_
    refine h_val rfl (.pointer (some ⟨g, 0, none⟩)) (fun b w hb hH => by exact exec_nilCheck rfl rfl hb) ?_
    refine h_q hflS rfl ?_
    refine h_acts (post := fun _ => [cell g 99 #[.slice A l.length c, .int .i64 (e2 : Int)], X]) rfl rfl (a_store 0 (v := .int .i64 (e2 : Int)) #[.slice A l.length c, .int .i64 (e2 : Int)] ty_api_Errno.2 rfl rfl rfl rfl rfl rfl rfl rfl rfl) ?_; rintro ⟨⟩
    refine h_done (d_reg ?_)
    refine h_q hflS rfl ?_
    refine h_val rfl (.pointer (some ⟨g, 0, none⟩)) (fun b w hb hH => by exact exec_nilCheck rfl rfl hb) ?_
    refine h_q hflS rfl ?_
    refine h_val rfl (.slice A l.length c) (fun b w hb hH => exec_load rfl rfl (reads_one ty_s_uint8 rfl) (hH.row 0 rfl) hb) ?_
    refine h_q hflS rfl ?_
    refine h_val rfl (.slice A2 l2.length (c - sz)) (fun b w hb hH => e_sub_lo (i := sz) sl_uint8 hsub hz rfl rfl rfl hH hb) ?_
    refine h_val rfl (.pointer (some ⟨g, 0, none⟩)) (fun b w hb hH => by exact exec_nilCheck rfl rfl hb) ?_
    refine h_q hflS rfl ?_
    refine h_acts (post := fun _ => [cell g 99 #[.slice A2 l2.length (c - sz), .int .i64 (e2 : Int)], X]) rfl rfl (a_store 0 (v := .slice A2 l2.length (c - sz)) #[.slice A2 l2.length (c - sz), .int .i64 (e2 : Int)] ty_s_uint8.2 rfl rfl rfl rfl rfl rfl rfl rfl rfl) ?_; rintro ⟨⟩
    refine h_done (d_reg ?_)
    refine h_q hflS rfl ?_
    refine h_done (d_ret ?_)
    exact f_fin1 (.tmp rfl) (fun w h => tells () rfl [0, 1] rfl h (fun z hz => ⟨z, .refl _, Parts.one (RdT.mk_ rfl hR2 hL2 z hz)⟩)) rfl
  · skip
    obtain rfl : R = (0, l, f) := h.symm.trans (rnum_stuck hf)
    refine d_reg ?_
    refine h_q hflS rfl ?_
    refine h_val rfl (.pointer (some ⟨g, 0, none⟩)) (fun b w hb hH => by exact exec_nilCheck rfl rfl hb) ?_
    refine h_q hflS rfl ?_
    refine h_val rfl (.int .i64 (f : Int)) (fun b w hb hH => exec_load rfl rfl (reads_one ty_api_Errno rfl) (hH.row 0 rfl) hb) ?_
    refine h_val rfl (.bool true) (fun b w hb hH => exec_cmp rfl rfl rfl (cmp_neq_t (by omega)) hb) ?_
    refine h_done (d_then rfl (d_reg ?_))
    refine h_q hflS rfl ?_
    refine h_done (d_ret (f_then_ret ?_))
    exact f_fin1 (.tmp rfl) (fun w h => tells () rfl [0, 1] rfl h (fun z hz => ⟨z, .refl _, Parts.one (RdT.mk_ rfl hR hL z hz)⟩)) rfl

set_option maxRecDepth 100000 in
theorem rd_end (g : Nat) (l : List UInt8) (f r : Nat) (h : rend l f = r) : Does Try.prog 43 #[.pointer (some ⟨g, 0, none⟩)] [RdT g l f] (fun (_ : Unit) => .int .i64 (r : Int)) (fun (_ : Unit) => [RdT g l f]) := by
  refine d_ins (args := [.pointer (some ⟨g, 0, none⟩)]) 20 Try.func43 rfl rfl rfl ?_; intro w rs
  refine d_open 0 rfl RdT.open_ (fun _ => rfl) ?_; rintro ⟨⟨X, A, c⟩, hR, hL⟩
  refine WC2.keep (env' := [(0, .pointer (some ⟨g, 0, none⟩))]) ⟨rfl, trivial⟩ ?_
  refine WC2.mid [cell g 99 #[.slice A l.length c, .int .i64 (f : Int)], X] (.refl _) ?_
  refine d_reg ?_
  refine h_q hflS rfl ?_
  refine h_done (d_seq ?_)
  have hc : (f = 0 ∧ 0 < l.length) ∨ (f = 0 ∧ ¬ 0 < l.length) ∨ f ≠ 0 := by omega
  rcases hc with ⟨hf, h0⟩ | ⟨hf, h0⟩ | hf
  · skip
    obtain rfl : r = 11 := by rw [← h]; unfold rend; rw [if_pos ⟨hf, h0⟩]
    refine d_reg ?_
    refine h_q hflS rfl ?_
    refine h_val rfl (.pointer (some ⟨g, 0, none⟩)) (fun b w hb hH => by exact exec_nilCheck rfl rfl hb) ?_
    refine h_q hflS rfl ?_
    refine h_val rfl (.int .i64 (f : Int)) (fun b w hb hH => exec_load rfl rfl (reads_one ty_api_Errno rfl) (hH.row 0 rfl) hb) ?_
    refine h_val rfl (.bool true) (fun b w hb hH => exec_cmp rfl rfl rfl (cmp_eql_t (by omega)) hb) ?_
    refine h_q hflS rfl ?_
    refine h_val rfl (.pointer (some ⟨g, 0, none⟩)) (fun b w hb hH => by exact exec_nilCheck rfl rfl hb) ?_
    refine h_q hflS rfl ?_
    refine h_val rfl (.slice A l.length c) (fun b w hb hH => exec_load rfl rfl (reads_one ty_s_uint8 rfl) (hH.row 0 rfl) hb) ?_
    refine h_val rfl (.int .i64 (l.length : Int)) (fun b w hb hH => e_len sl_uint8 rfl rfl hH hb) ?_
    refine h_val rfl (.bool true) (fun b w hb hH => exec_cmp rfl rfl rfl (cmp_gtr_t (by omega)) hb) ?_
    refine h_q hflS rfl ?_
    refine h_done (d_then rfl (d_reg ?_))
    refine h_q hflS rfl ?_
    refine h_done (d_ret (f_then_ret ?_))
    exact f_fin1 (.tmp rfl) (fun w h => tells () rfl [0, 1] rfl h (fun z hz => ⟨z, .refl _, Parts.one (RdT.mk_ rfl hR hL z hz)⟩)) rfl
  · skip
    have hr : r = f := by rw [← h]; unfold rend; rw [if_neg (fun hh => h0 hh.2)]
    refine d_reg ?_
    refine h_q hflS rfl ?_
    refine h_val rfl (.pointer (some ⟨g, 0, none⟩)) (fun b w hb hH => by exact exec_nilCheck rfl rfl hb) ?_
    refine h_q hflS rfl ?_
    refine h_val rfl (.int .i64 (f : Int)) (fun b w hb hH => exec_load rfl rfl (reads_one ty_api_Errno rfl) (hH.row 0 rfl) hb) ?_
    refine h_val rfl (.bool true) (fun b w hb hH => exec_cmp rfl rfl rfl (cmp_eql_t (by omega)) hb) ?_
    refine h_q hflS rfl ?_
    refine h_val rfl (.pointer (some ⟨g, 0, none⟩)) (fun b w hb hH => by exact exec_nilCheck rfl rfl hb) ?_
    refine h_q hflS rfl ?_
    refine h_val rfl (.slice A l.length c) (fun b w hb hH => exec_load rfl rfl (reads_one ty_s_uint8 rfl) (hH.row 0 rfl) hb) ?_
    refine h_val rfl (.int .i64 (l.length : Int)) (fun b w hb hH => e_len sl_uint8 rfl rfl hH hb) ?_
    refine h_val rfl (.bool false) (fun b w hb hH => exec_cmp rfl rfl rfl (cmp_gtr_f (by omega)) hb) ?_
    refine h_q hflS rfl ?_
    refine h_done (d_else rfl (d_skip (f_to (d_reg ?_))))
    refine h_q hflS rfl ?_
    refine h_val rfl (.pointer (some ⟨g, 0, none⟩)) (fun b w hb hH => by exact exec_nilCheck rfl rfl hb) ?_
    refine h_q hflS rfl ?_
    refine h_val rfl (.int .i64 (f : Int)) (fun b w hb hH => exec_load rfl rfl (reads_one ty_api_Errno rfl) (hH.row 0 rfl) hb) ?_
    refine h_q hflS rfl ?_
    refine h_done (d_ret ?_)
    exact f_fin1 (.tmp rfl) (fun w h => tells () (by rw [hr]) [0, 1] rfl h (fun z hz => ⟨z, .refl _, Parts.one (RdT.mk_ rfl hR hL z hz)⟩)) rfl
  · skip
    have hr : r = f := by rw [← h]; unfold rend; rw [if_neg (fun hh => hf hh.1)]
    refine d_reg ?_
    refine h_q hflS rfl ?_
    refine h_val rfl (.pointer (some ⟨g, 0, none⟩)) (fun b w hb hH => by exact exec_nilCheck rfl rfl hb) ?_
    refine h_q hflS rfl ?_
    refine h_val rfl (.int .i64 (f : Int)) (fun b w hb hH => exec_load rfl rfl (reads_one ty_api_Errno rfl) (hH.row 0 rfl) hb) ?_
    refine h_val rfl (.bool false) (fun b w hb hH => exec_cmp rfl rfl rfl (cmp_eql_f (by omega)) hb) ?_
    refine h_q hflS rfl ?_
    refine h_done (d_else rfl (d_skip (f_to (d_reg ?_))))
    refine h_q hflS rfl ?_
    refine h_val rfl (.pointer (some ⟨g, 0, none⟩)) (fun b w hb hH => by exact exec_nilCheck rfl rfl hb) ?_
    refine h_q hflS rfl ?_
    refine h_val rfl (.int .i64 (f : Int)) (fun b w hb hH => exec_load rfl rfl (reads_one ty_api_Errno rfl) (hH.row 0 rfl) hb) ?_
    refine h_q hflS rfl ?_
    refine h_done (d_ret ?_)
    exact f_fin1 (.tmp rfl) (fun w h => tells () (by rw [hr]) [0, 1] rfl h (fun z hz => ⟨z, .refl _, Parts.one (RdT.mk_ rfl hR hL z hz)⟩)) rfl
end Go.Proofs.Ytnhcbjlaeaohjaa.Sep

namespace Go.Proofs.Ytnhcbjlaeaohjaa.Sep
open Go.RowKit
open Go.Proofs.Ytnhcbjlaeaohjaa.Mem (Dist Blk Chg below0)

end Go.Proofs.Ytnhcbjlaeaohjaa.Sep
