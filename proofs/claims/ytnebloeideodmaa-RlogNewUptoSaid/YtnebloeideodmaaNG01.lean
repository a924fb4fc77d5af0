/-
  EntM · Each · CmdA · CmdB · CmdR · CmdL · CmdO · CmdP · CmdQ · CmdE · CmdF · CmdG · CmdN · CmdI · Crc · Sum · Seal · RefSum · RefText · Reader · Mk · RpcM · RpcN · RpcF
-/
import Derived.Test.YtnebloeideodmaaNC01
import Derived.Test.YtnebloeideodmaaND04
import Derived.Test.YtnebloeideodmaaNE01
import Derived.Lib.SmallJoins
import Derived.ChangeMaps5
import Derived.SizedLaws
import Derived.Deep.QuietTactic
import Derived.BigQuiet
import Derived.Deep.RegionHeld3
set_option linter.unusedSimpArgs false
set_option linter.unusedVariables false

namespace Go.Proofs.Ytnebloeideodmaa

/-! ## Readers -/
/-- a reader undoes what is laid, and what it reads was laid so -/
structure Good {α : Type} (P : List UInt8 → Nat → α × List UInt8 × Nat) (enc : α → List UInt8) (dom rng : α → Prop) : Prop where
  lay : ∀ x r, dom x → P (enc x ++ r) 0 = (x, r, 0)
  back : ∀ l f, (P l f).2.2 = 0 → f = 0 ∧ l = enc (P l f).1 ++ (P l f).2.1
  ok : ∀ l f, rng (P l f).1
theorem Good.back_of {α : Type} {P : List UInt8 → Nat → α × List UInt8 × Nat} {enc : α → List UInt8} {dom rng : α → Prop} (h : Good P enc dom rng) {l l' : List UInt8} {f : Nat} {x : α} (e : P l f = (x, l', 0)) : f = 0 ∧ l = enc x ++ l' := by
  have := h.back l f (by rw [e])
  rwa [e] at this
theorem good_byte (most : Nat) : Good (rbyte most) (fun n => [UInt8.ofNat n]) (fun n => n ≤ most ∧ n < 256) (fun n => n < 256) where
  lay n r h := by
    have e := byte_of n (by omega)
    exact (rbyte_lay most _ r (by omega)).trans (by rw [e])
  back l f h := by
    obtain ⟨h1, _, _, h2⟩ := rbyte_back' h
    exact ⟨h1, h2⟩
  ok l f := rbyte_lt most l f
theorem good_num (most : Nat) : Good (rnum most) vlay (fun n => n ≤ most ∧ n < 18446744073709551616) (fun n => n < 18446744073709551616) where
  lay n r h := rnum_lay most n r h.1 h.2
  back _ _ h := rnum_back h
  ok l f := rnum_lt most l f
def layT (t : List UInt8) : List UInt8 := vlay t.length ++ t
theorem good_text (most : Int) : Good (rtext most) layT (fun t => (t.length : Int) ≤ most ∧ t.length < 18446744073709551616) (fun _ => True) where
  lay t r h := rtext_lay most t r h.1 h.2
  back _ _ h := rtext_back h
  ok _ _ := trivial
/-- read, where the kind has it -/
def rI {α : Type} (b : Bool) (z : α) (r : α × List UInt8 × Nat) (l : List UInt8) (f : Nat) : α × List UInt8 × Nat := match b with | true => r | false => (z, l, f)
/-! ## An entry -/
structure EntD where
  k : Int
  t : Int
  i : Int
  d : List UInt8
  c : Int
deriving DecidableEq
def EntD.zero : EntD := ⟨0, 0, 0, [], 0⟩
structure EntD.ok (e : EntD) : Prop where
  k : I64 e.k
  t : U64 e.t
  i : U64 e.i
  d : e.d.length ≤ 9223372036854775807
  c : I64 e.c
/-- a right set of nodes -/
def setB (c : Int) : Bool := decide (c ≥ 0) && decide (c ≤ 254) && decide (c % 2 = 0)
theorem setB_iff {c : Int} (h : setB c = true) : 0 ≤ c ∧ c ≤ 254 ∧ c % 2 = 0 := by
  unfold setB at h
  simp at h
  omega
def kindE (e : EntD) : Bool :=
  if e.k = 0 then e.d == [] && e.c == 0
  else if e.k = 1 then decide (1 ≤ e.d.length) && decide (e.d.length ≤ 128) && e.c == 0
  else if e.k = 2 then e.d == [] && setB e.c && e.c != 0
  else false
def rightE (e : EntD) : Bool := numB e.t && (numB e.i && kindE e)
theorem rightE_iff {e : EntD} (h : rightE e = true) : (1 ≤ e.t ∧ e.t ≤ 72057594037927935) ∧ (1 ≤ e.i ∧ e.i ≤ 72057594037927935) ∧ ((e.k = 0 ∧ e.d = [] ∧ e.c = 0) ∨ (e.k = 1 ∧ 1 ≤ e.d.length ∧ e.d.length ≤ 128 ∧ e.c = 0) ∨ (e.k = 2 ∧ e.d = [] ∧ 0 < e.c ∧ e.c ≤ 254 ∧ e.c % 2 = 0)) := by
  unfold rightE at h
  simp only [Bool.and_eq_true] at h
  obtain ⟨h1, h2, h3⟩ := h
  refine ⟨numB_iff h1, numB_iff h2, ?_⟩
  unfold kindE at h3
  split at h3
  · rename_i hk
    simp at h3
    exact .inl ⟨hk, h3.1, h3.2⟩
  · split at h3
    · rename_i hk
      simp at h3
      exact .inr (.inl ⟨hk, by omega, by omega, h3.2⟩)
    · split at h3
      · rename_i hk
        simp only [Bool.and_eq_true, beq_iff_eq, bne_iff_ne, ne_eq] at h3
        have hs := setB_iff h3.1.2
        have hn := h3.2
        exact .inr (.inr ⟨hk, h3.1.1, by omega, hs.2.1, hs.2.2⟩)
      · cases h3
/-- what is laid behind the numbers -/
def tailE (e : EntD) : List UInt8 := if e.k = 1 then layT e.d else if e.k = 2 then [UInt8.ofNat e.c.toNat] else []
def layE (e : EntD) : List UInt8 := UInt8.ofNat e.k.toNat :: (layU e.t ++ (layU e.i ++ tailE e))
/-- what is read behind the numbers -/
def rtail (n : Nat) (l : List UInt8) (f : Nat) : (List UInt8 × Nat) × List UInt8 × Nat :=
  if n = 1 then (((rtext 128 l f).1, 0), (rtext 128 l f).2) else if n = 2 then (([], (rbyte 254 l f).1), (rbyte 254 l f).2) else (([], 0), l, f)
theorem rtail_one {l l' : List UInt8} {f f' : Nat} {x : List UInt8} (h : rtext 128 l f = (x, l', f')) : rtail 1 l f = ((x, 0), l', f') := by
  unfold rtail
  rw [if_pos rfl, h]
theorem rtail_two {l l' : List UInt8} {f f' c : Nat} (h : rbyte 254 l f = (c, l', f')) : rtail 2 l f = (([], c), l', f') := by
  unfold rtail
  rw [if_neg (by omega), if_pos rfl, h]
theorem rtail_else {n : Nat} (l : List UInt8) (f : Nat) (h1 : n ≠ 1) (h2 : n ≠ 2) : rtail n l f = (([], 0), l, f) := by
  unfold rtail
  rw [if_neg h1, if_neg h2]
def readE (l : List UInt8) : EntD × List UInt8 × Nat :=
  match rbyte 2 l 0 with
  | (n0, l0, f0) => match rnum 72057594037927935 l0 f0 with
    | (n1, l1, f1) => match rnum 72057594037927935 l1 f1 with
      | (n2, l2, f2) => match rtail n0 l2 f2 with
        | ((x, c), l3, f3) => (⟨(n0 : Int), (n1 : Int), (n2 : Int), x, (c : Int)⟩, l3, f3)
theorem readE_of {l l0 l1 l2 l3 x : List UInt8} {n0 n1 n2 c f0 f1 f2 f3 : Nat} (h0 : rbyte 2 l 0 = (n0, l0, f0)) (h1 : rnum 72057594037927935 l0 f0 = (n1, l1, f1)) (h2 : rnum 72057594037927935 l1 f1 = (n2, l2, f2)) (h3 : rtail n0 l2 f2 = ((x, c), l3, f3)) :
    readE l = (⟨(n0 : Int), (n1 : Int), (n2 : Int), x, (c : Int)⟩, l3, f3) := by
  simp only [readE, h0, h1, h2, h3]
/-- what ReadEntry answers -/
def decE (l : List UInt8) : EntD × Nat :=
  if 160 < l.length then (.zero, 12)
  else match readE l with
    | (e, l', f') => if rend l' f' ≠ 0 then (.zero, rend l' f') else if rightE e then (e, 0) else (.zero, 11)
theorem decE_long {l : List UInt8} (h : 160 < l.length) : decE l = (.zero, 12) := by
  unfold decE
  rw [if_pos h]
theorem decE_bad {l l' : List UInt8} {e : EntD} {f' : Nat} (h : ¬ 160 < l.length) (hr : readE l = (e, l', f')) (hf : rend l' f' ≠ 0) : decE l = (.zero, rend l' f') := by
  unfold decE
  rw [if_neg h, hr]
  simp only
  rw [if_pos hf]
theorem decE_wrong {l l' : List UInt8} {e : EntD} {f' : Nat} (h : ¬ 160 < l.length) (hr : readE l = (e, l', f')) (hf : rend l' f' = 0) (hR : rightE e = false) : decE l = (.zero, 11) := by
  unfold decE
  rw [if_neg h, hr]
  simp only
  rw [if_neg (by simp [hf]), hR]
  rfl
theorem decE_right {l l' : List UInt8} {e : EntD} {f' : Nat} (h : ¬ 160 < l.length) (hr : readE l = (e, l', f')) (hf : rend l' f' = 0) (hR : rightE e = true) : decE l = (e, 0) := by
  unfold decE
  rw [if_neg h, hr]
  simp only
  rw [if_neg (by simp [hf]), hR]
  rfl
theorem rend_zero {l : List UInt8} {f : Nat} (h : rend l f = 0) : f = 0 ∧ l = [] := by
  unfold rend at h
  split at h
  · omega
  · rename_i hn
    refine ⟨h, ?_⟩
    rcases Nat.eq_zero_or_pos l.length with h0 | h0
    · exact List.eq_nil_of_length_eq_zero h0
    · exact absurd ⟨h, h0⟩ hn
/-- what is read was laid so -/
theorem readE_back {l : List UInt8} {e : EntD} (h : readE l = (e, [], 0)) : l = layE e := by
  obtain ⟨⟨n0, l0, f0⟩, h0⟩ : ∃ R, rbyte 2 l 0 = R := ⟨_, rfl⟩
  obtain ⟨⟨n1, l1, f1⟩, h1⟩ : ∃ R, rnum 72057594037927935 l0 f0 = R := ⟨_, rfl⟩
  obtain ⟨⟨n2, l2, f2⟩, h2⟩ : ∃ R, rnum 72057594037927935 l1 f1 = R := ⟨_, rfl⟩
  obtain ⟨⟨⟨x, c⟩, l3, f3⟩, h3⟩ : ∃ R, rtail n0 l2 f2 = R := ⟨_, rfl⟩
  have e' := (readE_of h0 h1 h2 h3).symm.trans h
  simp only [Prod.mk.injEq] at e'
  obtain ⟨rfl, rfl, rfl⟩ := e'
  have b3 : f2 = 0 ∧ l2 = tailE ⟨(n0 : Int), (n1 : Int), (n2 : Int), x, (c : Int)⟩ := by
    by_cases hn : n0 = 1
    · subst hn
      obtain ⟨⟨y, l4, f4⟩, h4⟩ : ∃ R, rtext 128 l2 f2 = R := ⟨_, rfl⟩
      have e4 := (rtail_one h4).symm.trans h3
      simp only [Prod.mk.injEq] at e4
      obtain ⟨⟨rfl, rfl⟩, rfl, rfl⟩ := e4
      obtain ⟨a, b⟩ := (good_text 128).back_of h4
      refine ⟨a, ?_⟩
      unfold tailE
      simp only
      rw [if_pos (by rfl), b, List.append_nil]
    · by_cases hn2 : n0 = 2
      · subst hn2
        obtain ⟨⟨y, l4, f4⟩, h4⟩ : ∃ R, rbyte 254 l2 f2 = R := ⟨_, rfl⟩
        have e4 := (rtail_two h4).symm.trans h3
        simp only [Prod.mk.injEq] at e4
        obtain ⟨⟨rfl, rfl⟩, rfl, rfl⟩ := e4
        obtain ⟨a, b⟩ := (good_byte 254).back_of h4
        refine ⟨a, ?_⟩
        unfold tailE
        simp only
        rw [if_neg (by decide), if_pos (by rfl), b, List.append_nil]
        rfl
      · rw [rtail_else _ _ hn hn2] at h3
        simp only [Prod.mk.injEq] at h3
        obtain ⟨⟨rfl, rfl⟩, rfl, rfl⟩ := h3
        refine ⟨rfl, ?_⟩
        unfold tailE
        simp only
        rw [if_neg (by omega), if_neg (by omega)]
  obtain ⟨rfl, b3⟩ := b3
  obtain ⟨rfl, b2⟩ := (good_num _).back_of h2
  obtain ⟨rfl, b1⟩ := (good_num _).back_of h1
  obtain ⟨_, b0⟩ := (good_byte _).back_of h0
  rw [b0, b1, b2, b3]
  simp [layE, layU]
theorem decE_back (l : List UInt8) : ((decE l).2 ≠ 0 ∧ (decE l).1 = .zero) ∨ ((decE l).2 = 0 ∧ rightE (decE l).1 = true ∧ layE (decE l).1 = l) := by
  by_cases h : 160 < l.length
  · rw [decE_long h]; exact .inl ⟨by simp, rfl⟩
  · obtain ⟨⟨e, l', f'⟩, hr⟩ : ∃ R, readE l = R := ⟨_, rfl⟩
    by_cases hf : rend l' f' = 0
    · cases hR : rightE e
      · rw [decE_wrong h hr hf hR]; exact .inl ⟨by simp, rfl⟩
      · rw [decE_right h hr hf hR]
        obtain ⟨rfl, rfl⟩ := rend_zero hf
        exact .inr ⟨rfl, hR, (readE_back hr).symm⟩
    · rw [decE_bad h hr hf]; exact .inl ⟨hf, rfl⟩
end Go.Proofs.Ytnebloeideodmaa

namespace Go.Proofs.Ytnebloeideodmaa.Sep
open Go.RowKit
open Go.Proofs.Ytnebloeideodmaa.Mem (Dist Blk Chg)

/-- a thing for each element -/
def Each {α : Type} (f : α → Ass) (l : List α) : Ass := fun rs => Parts (l.map f) rs
section
variable {α : Type} {f : α → Ass} {l : List α} {B : Nat → Prop} {w0 w w' : World} {os : List Ass}
theorem each_nil : Each f [] [] := rfl
theorem Each.push {x : α} {a b : List RowT} (h : Each f l a) (h' : f x b) : Each f (l ++ [x]) (a ++ b) := by
  unfold Each
  rw [List.map_append]
  exact Parts.app h (Parts.one h')
/-- for the step 'close': what a list's things and one more are -/
theorem each_close {x : α} : ∀ rs, Parts [Each f l, f x] rs → Each f (l ++ [x]) rs := fun rs h => by
  obtain ⟨a, b, e, h1, h2⟩ := h
  subst e
  exact h1.push (Parts.one' h2)
/-- for the step 'open': the element j taken out -/
theorem each_open {j : Nat} {x : α} (hj : l[j]? = some x) : ∀ rs, Each f l rs → ∃ _ : Unit, Parts [Each f (l.take j), f x, Each f (l.drop (j + 1))] rs := fun rs h => by
  have e : l = l.take j ++ (x :: l.drop (j + 1)) := by
    have hlt := (List.getElem?_eq_some_iff.1 hj).1
    have hx := (List.getElem?_eq_some_iff.1 hj).2
    rw [← hx, ← List.drop_eq_getElem_cons hlt, List.take_append_drop]
  unfold Each at h
  rw [e, List.map_append] at h
  obtain ⟨a, b, rfl, h1, h2⟩ := h.split
  obtain ⟨c, d, rfl, h3, h4⟩ := h2
  refine ⟨(), a, c ++ d, rfl, ?_, c, d, rfl, h3, d, [], by simp, ?_, rfl⟩
  · exact h1
  · exact h4
/-- for the step 'close': an element put back, or another in its place -/
theorem each_back {a b : List α} {y : α} : ∀ rs, Parts [Each f a, f y, Each f b] rs → Each f (a ++ y :: b) rs := fun rs h => by
  obtain ⟨p, q, rfl, h1, c, d, rfl, h2, h3⟩ := h
  have h3 := Parts.one' h3
  unfold Each
  rw [List.map_append]
  exact Parts.app h1 ⟨c, d, rfl, h2, h3⟩
theorem each_set {j : Nat} {y : α} (hj : j < l.length) : l.take j ++ y :: l.drop (j + 1) = l.set j y := by
  rw [List.set_eq_take_append_cons_drop, if_pos hj]
theorem Each.at_ {j : Nat} {x : α} {rs : List RowT} (h : Each f l rs) (hr : RowsOf w rs) (hj : l[j]? = some x) : ∃ ys, f x ys ∧ RowsOf w ys := by
  obtain ⟨a, y, b, e, h1, _⟩ := Parts.at_ (i := j) (o := f x) h (by simp [hj])
  exact ⟨y, h1, rows_iff.2 fun z hz => rows_iff.1 hr z (by rw [e]; simp [hz])⟩
theorem Hp.each (h : Hp B w0 w os) (i : Nat) (hi : os[i]? = some (Each f l)) {j : Nat} {x : α} (hj : l[j]? = some x) : ∃ ys, f x ys ∧ RowsOf w ys := by
  obtain ⟨rs, h1, h2⟩ := h.thing i hi
  exact h1.at_ h2 hj
end
section
variable {P : Program} {ops : Array Oper} {Q : Exit → Act → World → Prop} {n : Nat} {env : List (Nat × Value)} {B : Nat → Prop} {w0 : World} {os : List Ass} {α : Type}
end

/-! ## A store into an element of several cells -/
section
variable {P : Program} {Q : Exit → Act → World → Prop} {n : Nat} {env : List (Nat × Value)} {B : Nat → Prop} {w0 : World} {os : List Ass} {o : Oper} {e : TypeId} {k : Nat} {α : Type} {enc : α → List Value} {v : Value} {l : List α}
theorem over_flat (he : EncOf k enc) {j off : Nat} {a b : α} (hj : l[j]? = some a) {ys : List Value} (hoff : off + ys.length ≤ k) (hb : over? (enc a) off ys = enc b) :
    (flat enc l).take (j * k + off) ++ ys ++ (flat enc l).drop (j * k + off + ys.length) = flat enc (l.set j b) := by
  have hlt := (List.getElem?_eq_some_iff.1 hj).1
  have hx := (List.getElem?_eq_some_iff.1 hj).2
  rw [← flat_set he hlt b, ← hb]
  unfold over?
  have e1 : (flat enc l).take (j * k + off) = (flat enc l).take (j * k) ++ (enc a).take off := by
    rw [List.take_add, ← flat_at he hj, List.take_take, Nat.min_eq_left (by omega)]
  have e2 : (flat enc l).drop (j * k + off + ys.length) = (enc a).drop (off + ys.length) ++ (flat enc l).drop (j * k + k) := by
    rw [← flat_at he hj, List.drop_take, List.drop_drop, Nat.add_assoc]
    have h1 : (flat enc l).drop (j * k + k) = ((flat enc l).drop (j * k + (off + ys.length))).drop (k - (off + ys.length)) := by
      rw [List.drop_drop]; congr 1; omega
    rw [h1, List.take_append_drop]
  rw [e1, e2]
  simp only [List.append_assoc]
theorem over_take {cs ys : List Value} {p q : Nat} (h : p + ys.length ≤ q) (hq : q ≤ cs.length) : (over? cs p ys).take q = over? (cs.take q) p ys := by
  unfold over?
  have hA : (cs.take p ++ ys).length = p + ys.length := by rw [List.length_append, List.length_take]; omega
  rw [List.take_append, hA, List.take_of_length_le (by omega), List.take_take, Nat.min_eq_left (by omega), List.drop_take]
theorem a_vstore (i : Nat) (he : EncOf k enc) (hi : os[i]? = some (Vec e k enc v l)) (j : Nat) {a b : α} (hj : l[j]? = some a) {T : TypeId} {off q : Nat} (hs : ∀ w, (sizeOf T).run P w = .ok q w) {c : Value} (hq : c.cells.size = q) (hone : oneL c.cells.toList = true) (hoff : off + q ≤ k) (hb : over? (enc a) off c.cells.toList = enc b)
    (hd : o.dst = none) {x y : Operand} (ho : o.op = .store T x y) (hx : evs env x = some (elp v (j * k + off))) (hy : evs env y = some c) : Acts P Q n env B w0 os o (fun _ : Unit => undef) (fun _ => os.set i (Vec e k enc v (l.set j b))) := fun act w hH hF K hK => by
  obtain ⟨rs, hv, hr⟩ := hH.thing i hi
  have hlt := (List.getElem?_eq_some_iff.1 hj).1
  have hql : c.cells.toList.length = q := by simpa using hq
  rcases hv with ⟨_, h2, _⟩ | ⟨g, cap, cs, h2, hle, hmx, hsz, h5, h6⟩
  · subst h2; exact absurd hlt (Nat.not_lt_zero _)
  · subst h6
    have hjk : j * k + k ≤ l.length * k := by
      have := Nat.mul_le_mul_right k (show j + 1 ≤ l.length by omega)
      rwa [Nat.add_mul, Nat.one_mul] at this
    have hlk : l.length * k ≤ cap * k := Nat.mul_le_mul_right k hle
    subst h2
    obtain ⟨w', hrs, hR', hM⟩ := run_storeCells_at (P := P) g e c.cells.toList 0 cs w (j * k + off) hr.1 (by simp only [Array.length_toList] at hql ⊢; omega) (fun u hu => (List.all_eq_true.1 (oneL_all hone)) u hu)
    have hx' : evs env x = some (.pointer (some ⟨g, j * k + off, none⟩)) := by rw [hx]; simp [elp]
    have hR : Row w' g e (over? cs.toList (j * k + off) c.cells.toList).toArray := by simpa [over?] using hR'
    have hrun : (execOp act.eval o).run P w = .ok .skip w' := by
      unfold execOp
      simp [ho, hF.evs hx', hF.evs hy, Instr.storeAt, Instr.sureAddr, storeVar, hs, hq, hrs]
    unfold Oper.wp
    rw [hrun, Oper.upon_skip]
    refine (fun hp => (by have := hK () w' hp; rw [hd] at this ⊢; exact this)) ?_
    refine hH.turn i hi fun x hx _ _ => ?_
    rcases hx with ⟨h0, _, _⟩ | ⟨g', cap', cs', h0, _, _, hsz', h5', h6'⟩
    · simp at h0
    · simp at h0
      obtain ⟨rfl, rfl⟩ := h0
      subst h6'
      have hrow : cs' = cs := by
        have hr0 : RowsOf w [(g, tyR e, cs')] := ‹_›
        have e1 : w.heap[g]? = some (.cells cs' e (0, 0)) := hr0.1
        have e2 : w.heap[g]? = some (.cells cs e (0, 0)) := hr.1
        rw [e1] at e2
        simpa using e2
      subst hrow
      have hcl : cs'.toList.length = cap * k := by simpa using hsz
      refine ⟨[(g, tyR e, (over? cs'.toList (j * k + off) c.cells.toList).toArray)], .inr ⟨g, cap, _, by simp, by simpa using hle, hmx, ?_, ?_, rfl⟩, ⟨hM.weaken fun q _ e' => ⟨(g, tyR e, cs'), by simp, e'.symm⟩, ⟨hR, trivial⟩, ⟨(fun _ h => by cases h), trivial⟩, fun x hx _ => ?_⟩⟩
      · show (over? cs'.toList (j * k + off) c.cells.toList).length = cap * k
        unfold over?
        simp only [List.length_append, List.length_take, List.length_drop, hcl, hql]
        omega
      · show (over? cs'.toList (j * k + off) c.cells.toList).take ((l.set j b).length * k) = _
        rw [List.length_set, over_take (by omega) (by omega), h5]
        exact over_flat he hj (by omega) hb
      · have : x = (g, tyR e, (over? cs'.toList (j * k + off) c.cells.toList).toArray) := by simpa using hx
        subst this
        exact ⟨(g, tyR e, cs'), by simp, rfl⟩
end

/-! ## Entries -/
/-- an entry and where its bytes lie -/
structure EntV where
  e : EntD
  A : Option Addr
  c : Nat
def EntV.v (x : EntV) : Value := .slice x.A x.e.d.length x.c
def encV (x : EntV) : List Value := [.int .i64 x.e.k, .int .u64 x.e.t, .int .u64 x.e.i, x.v, .int .i64 x.e.c]
theorem okV : EncOf 5 encV := ⟨fun _ => rfl, fun x v h => by unfold encV EntV.v at h; simp at h; rcases h with rfl | rfl | rfl | rfl | rfl <;> rfl⟩
/-- v is a slice that reads as these entries -/
def EntsRd (w : World) (v : Value) (l : List EntV) : Prop := SlRd w 5 v l.length (flat encV l) ∧ ∀ x, x ∈ l → Sl8 w x.v x.e.d
section
variable {u w w0 : World} {v : Value} {l : List EntV} {X : Ass} {B : Nat → Prop} {os : List Ass} {rs : List RowT} {te : TypeId}
theorem SlRd.below {k m : Nat} {a : Value} {ys : List Value} (h : SlRd u k a m ys) (hb : Below u.heap.size u w) : SlRd w k a m ys := by
  obtain ⟨h1, A, c, e, hA⟩ := h
  refine ⟨h1, A, c, e, hA.imp id fun ⟨a, ha, hc⟩ => ⟨a, ha, fun j x hx => ?_⟩⟩
  have h0 := hc j x hx
  rw [hb.cell (World.block_lt_of_cell? _ _ h0)]
  exact h0
theorem EntsRd.below (h : EntsRd u v l) (hb : Below u.heap.size u w) : EntsRd w v l := ⟨h.1.below hb, fun x hx => (h.2 x hx).below hb⟩
theorem argEs (h : EntsRd u v l) (hU : Below u.heap.size u w0) (hS : ∀ k, B k → u.heap.size ≤ k) (hH : Hp B w0 w os) : EntsRd w v l := ⟨arg_rdU h.1 hU hS hH, fun x hx => arg8 (h.2 x hx) hU hS hH⟩
/-- entries in rows of their own, each one's bytes too -/
def Ents (te : TypeId) (v : Value) (l : List EntV) : Ass := star [Vec te 5 encV v l, Each (fun x : EntV => Vec 5 1 encB x.v x.e.d) l]
theorem Ents.rd (h : Ents te v l rs) (hr : RowsOf w rs) : EntsRd w v l := by
  obtain ⟨a, b, e, h1, h2⟩ := h
  subst e
  have ha : RowsOf w a := rows_iff.2 fun z hz => rows_iff.1 hr z (by simp [hz])
  have hb : RowsOf w b := rows_iff.2 fun z hz => rows_iff.1 hr z (by simp [hz])
  refine ⟨h1.all okV ha, fun x hx => ?_⟩
  obtain ⟨j, hj⟩ := List.getElem?_of_mem hx
  obtain ⟨ys, h3, h4⟩ := (Parts.one' h2).at_ hb hj
  exact vec_sl8 h3 h4
def RdEs (X : Ass) (v : Value) (l : List EntV) : Prop := ∀ rs w, X rs → RowsOf w rs → EntsRd w v l
theorem rdEs_ents : RdEs (Ents te v l) v l := fun _ _ h1 h2 => h1.rd h2
theorem Hp.rdEs (h : Hp B w0 w os) (i : Nat) (hi : os[i]? = some X) (hu : RdEs X v l) : EntsRd w v l := by
  obtain ⟨rs, h1, h2⟩ := h.thing i hi
  exact hu rs w h1 h2
/-- for 'open' and 'close' -/
theorem ents_open : ∀ rs, Ents te v l rs → ∃ _ : Unit, Parts [Vec te 5 encV v l, Each (fun x : EntV => Vec 5 1 encB x.v x.e.d) l] rs := fun _ h => ⟨(), h⟩
theorem ents_close : ∀ rs, Parts [Vec te 5 encV v l, Each (fun x : EntV => Vec 5 1 encB x.v x.e.d) l] rs → Ents te v l rs := fun _ h => h
/-- one more: the slice that append has answered, the others' bytes, and its own -/
theorem ents_push {x : EntV} : ∀ rs, Parts [Vec te 5 encV v (l ++ [x]), Each (fun x : EntV => Vec 5 1 encB x.v x.e.d) l, Vec 5 1 encB x.v x.e.d] rs → Ents te v (l ++ [x]) rs := fun rs h => by
  obtain ⟨a, b, e, h1, h2⟩ := h
  exact ⟨a, b, e, h1, Parts.one (each_close _ h2)⟩
theorem entsT_nil : Ents te (.slice none 0 0) [] [] := ⟨[], [], rfl, nilVec _ _ _, [], [], rfl, each_nil, rfl⟩
end

/-! ## A message -/
def cellsM (k a b t i lt : Int) (ev : Value) (co : Int) (rf : Bool) (bi bt bc o : Int) (dv : Value) (la : Bool) : List Value :=
  [.int .i64 k, .int .i64 a, .int .i64 b, .int .u64 t, .int .u64 i, .int .u64 lt, ev, .int .u64 co, .bool rf, .int .u64 bi, .int .u64 bt, .int .i64 bc, .int .i64 o, dv, .bool la]
end Go.Proofs.Ytnebloeideodmaa.Sep

namespace Go.Proofs.Ytnebloeideodmaa.Sep
open Go.RowKit
open Go.Proofs.Ytnebloeideodmaa.Mem (Dist Blk Chg below0)

set_option maxRecDepth 100000 in
theorem rnumber_f (w : World) (n : Int) (r : Bool) (hr : (n == 0) = r) : Calls Try.prog 74 #[.bool false, .int .u64 n] w fun e w' => e = .returned (.bool r) ∧ Below w.heap.size w w' := by
  refine d_in (args := [.bool false, .int .u64 n]) 15 Try.func74 rfl rfl rfl ?_
  refine d_reg ?_
  refine h_q hflS rfl ?_
  refine h_done (d_seq (d_reg ?_))
  refine h_q hflS rfl ?_
  refine h_done (d_then rfl ?_)
  by_cases h0 : n = 0
  · skip
    obtain rfl : r = true := by rw [← hr]; simp [h0]
    refine d_reg ?_
    refine h_q hflS rfl ?_
    refine h_val rfl (.bool true) (fun b w hb hH => exec_cmp rfl rfl rfl (cmp_eql_t h0) hb) ?_
    refine h_q hflS rfl ?_
    refine h_done (d_ret (f_then_ret ?_))
    exact f_fin1 (.tmp rfl) (fun w h => ⟨rfl, below0 h.up⟩) rfl
  · skip
    obtain rfl : r = false := by rw [← hr]; simp [h0]
    refine d_reg ?_
    refine h_q hflS rfl ?_
    refine h_val rfl (.bool false) (fun b w hb hH => exec_cmp rfl rfl rfl (cmp_eql_f h0) hb) ?_
    refine h_q hflS rfl ?_
    refine h_done (d_ret (f_then_ret ?_))
    exact f_fin1 (.tmp rfl) (fun w h => ⟨rfl, below0 h.up⟩) rfl

set_option maxRecDepth 100000 in
theorem rnumber_t (w : World) (n : Int) (r : Bool) (hr : numB n = r) : Calls Try.prog 74 #[.bool true, .int .u64 n] w fun e w' => e = .returned (.bool r) ∧ Below w.heap.size w w' := by
  refine d_in (args := [.bool true, .int .u64 n]) 15 Try.func74 rfl rfl rfl ?_
  refine d_reg ?_
  refine h_q hflS rfl ?_
  refine h_done (d_seq (d_reg ?_))
  refine h_q hflS rfl ?_
  refine h_done (d_else rfl (d_skip (f_to ?_)))
  have hc : n < 1 ∨ (1 ≤ n ∧ n ≤ 72057594037927935) ∨ 72057594037927935 < n := by omega
  rcases hc with h1 | ⟨h1, h2⟩ | h1
  · skip
    obtain rfl : r = false := by rw [← hr]; simp [numB]; omega
    refine d_reg ?_
    refine h_q hflS rfl ?_
    refine h_val rfl (.bool false) (fun b w hb hH => exec_cmp rfl rfl rfl (cmp_geq_f (by omega)) hb) ?_
    refine h_q hflS rfl ?_
    refine h_done (d_ret ?_)
    exact f_fin1 (.tmp rfl) (fun w h => ⟨rfl, below0 h.up⟩) rfl
  · skip
    obtain rfl : r = true := by rw [← hr]; simp [numB]; omega
    refine d_reg ?_
    refine h_q hflS rfl ?_
    refine h_val rfl (.bool true) (fun b w hb hH => exec_cmp rfl rfl rfl (cmp_geq_t (by omega)) hb) ?_
    refine h_q hflS rfl ?_
    refine h_val rfl (.bool true) (fun b w hb hH => exec_cmp rfl rfl rfl (cmp_leq_t (by omega)) hb) ?_
    refine h_q hflS rfl ?_
    refine h_done (d_ret ?_)
    exact f_fin1 (.tmp rfl) (fun w h => ⟨rfl, below0 h.up⟩) rfl
  · skip
    obtain rfl : r = false := by rw [← hr]; simp [numB]; omega
    refine d_reg ?_
    refine h_q hflS rfl ?_
    refine h_val rfl (.bool true) (fun b w hb hH => exec_cmp rfl rfl rfl (cmp_geq_t (by omega)) hb) ?_
    refine h_q hflS rfl ?_
    refine h_val rfl (.bool false) (fun b w hb hH => exec_cmp rfl rfl rfl (cmp_leq_f (by omega)) hb) ?_
    refine h_q hflS rfl ?_
    refine h_done (d_ret ?_)
    exact f_fin1 (.tmp rfl) (fun w h => ⟨rfl, below0 h.up⟩) rfl

theorem rnumber_any (w : World) (there : Bool) (n : Int) (r : Bool) (hr : mayB there (numB n) (n == 0) = r) : Calls Try.prog 74 #[.bool there, .int .u64 n] w fun e w' => e = .returned (.bool r) ∧ Below w.heap.size w w' := by
  cases there
  · exact rnumber_f w n r hr
  · exact rnumber_t w n r hr

end Go.Proofs.Ytnebloeideodmaa.Sep

namespace Go.Proofs.Ytnebloeideodmaa.Sep
open Go.RowKit
open Go.Proofs.Ytnebloeideodmaa.Mem (Dist Blk Chg below0)

end Go.Proofs.Ytnebloeideodmaa.Sep

namespace Go.Proofs.Ytnebloeideodmaa.Sep
open Go.RowKit
open Go.Proofs.Ytnebloeideodmaa.Mem (Dist Blk Chg below0)

section
variable {P : Program} {n : Nat} {B : Nat → Prop} {w0 w : World} {os : List Ass} {env : List (Nat × Value)} {o : Oper} {a : Act}
end

end Go.Proofs.Ytnebloeideodmaa.Sep

namespace Go.Proofs.Ytnebloeideodmaa.Sep
open Go.RowKit
open Go.Proofs.Ytnebloeideodmaa.Mem (Dist Blk Chg below0)

end Go.Proofs.Ytnebloeideodmaa.Sep

namespace Go.Proofs.Ytnebloeideodmaa.Sep
open Go.ChangeShapes Go.WideShapes Go.ChangeAt Go.RowKit
section
variable {H : Type} {enc : TypeId × Value → H} {W : World} {base b0 : Nat} {r : Reach} {spare : Nat → Bool} {held : Bool} {v : Value} {d : DataW H} {p : List MemPlace}
end
end Go.Proofs.Ytnebloeideodmaa.Sep

namespace Go.Proofs.Ytnebloeideodmaa.Sep
open Go.RowKit
open Go.Proofs.Ytnebloeideodmaa.Mem (Dist Blk Chg below0)

end Go.Proofs.Ytnebloeideodmaa.Sep

namespace Go.Proofs.Ytnebloeideodmaa.Sep
open Go.RowKit
open Go.Proofs.Ytnebloeideodmaa.Mem (Dist Blk Chg below0)

end Go.Proofs.Ytnebloeideodmaa.Sep

namespace Go.Proofs.Ytnebloeideodmaa.Sep
open Go.RowKit
open Go.Proofs.Ytnebloeideodmaa.Mem (Dist Blk Chg below0)

end Go.Proofs.Ytnebloeideodmaa.Sep

namespace Go.Proofs.Ytnebloeideodmaa.Sep
open Go.RowKit
open Go.Proofs.Ytnebloeideodmaa.Mem (Dist Blk Chg below0)

end Go.Proofs.Ytnebloeideodmaa.Sep

namespace Go.Proofs.Ytnebloeideodmaa.Sep
open Go.RowKit
open Go.Proofs.Ytnebloeideodmaa.Mem (Dist Blk Chg below0)

structure RepD where
  code : Int
  val : Int
  hi : Int
  lo : Int
  sc : Int
deriving DecidableEq
structure RepD.ok (r : RepD) : Prop where
  code : I64 r.code
  val : U64 r.val
  hi : I64 r.hi
  lo : U64 r.lo
  sc : I64 r.sc
def RepD.right (r : RepD) : Bool := (decide (0 ≤ r.code) && decide (r.code ≤ 99)) && scB r.sc
end Go.Proofs.Ytnebloeideodmaa.Sep

namespace Go.Proofs.Ytnebloeideodmaa.Sep
open Go.RowKit
open Go.Proofs.Ytnebloeideodmaa.Mem (Dist Blk Chg below0)

end Go.Proofs.Ytnebloeideodmaa.Sep

namespace Go.Proofs.Ytnebloeideodmaa.Sep
open Go.RowKit
open Go.Proofs.Ytnebloeideodmaa.Mem (Dist Blk Chg below0)

set_option maxRecDepth 100000 in
theorem pick (w : World) (a m : Int) (ha : -9223372036854775808 ≤ a ∧ a ≤ 9223372036854775807) (hm : 1 ≤ m ∧ m ≤ 9223372036854775807) {r : Int} (hr : a % m = r) : Calls Try.prog 19 #[.int .i64 a, .int .i64 m] w fun e w' => e = .returned (.int .i64 r) ∧ Below w.heap.size w w' := by
  have hlt := Int.emod_lt_of_pos a (show 0 < m by omega)
  have hge := Int.emod_nonneg a (show m ≠ 0 by omega)
  have ht : (0 ≤ a.tmod m ∧ a.tmod m = r) ∨ (a.tmod m < 0 ∧ a.tmod m + m = r) := by
    rw [Int.tmod_eq_emod, ← hr]
    split
    · left; omega
    · rename_i h
      right
      have hne : a % m ≠ 0 := fun e => h (.inr (Int.dvd_of_emod_eq_zero e))
      omega
  rw [hr] at hlt hge
  obtain ⟨t, htm⟩ : ∃ t, a.tmod m = t := ⟨_, rfl⟩
  rw [htm] at ht
  refine d_in (args := [.int .i64 a, .int .i64 m]) 14 Try.func19 rfl rfl rfl ?_
  refine d_reg ?_
  refine h_q hflS rfl ?_
  refine h_done (d_reg ?_)
  refine h_q hflS rfl ?_
  refine h_val rfl (.int .i64 t) (fun b w hb hH => exec_remI rfl rfl rfl (by omega) htm hb) ?_
  refine h_q hflS rfl ?_
  refine h_done (d_seq ?_)
  rcases ht with ⟨h1, h2⟩ | ⟨h1, h2⟩
  · skip
    subst h2
    refine d_reg ?_
    refine h_q hflS rfl ?_
    refine h_val rfl (.bool false) (fun b w hb hH => exec_cmp rfl rfl rfl (cmp_lss_f (by omega)) hb) ?_
    refine h_done (d_else rfl (d_skip (f_to (d_reg ?_))))
    refine h_q hflS rfl ?_
    refine h_done (d_ret ?_)
    exact f_fin1 (.tmp rfl) (fun w h => ⟨rfl, below0 h.up⟩) rfl
  · skip
    refine d_reg ?_
    refine h_q hflS rfl ?_
    refine h_val rfl (.bool true) (fun b w hb hH => exec_cmp rfl rfl rfl (cmp_lss_t (by omega)) hb) ?_
    refine h_done (d_then rfl (d_reg1 ?_))
    refine h_q hflS rfl ?_
    refine h_val rfl (.int .i64 r) (fun b w hb hH => exec_ar rfl rfl rfl rfl (by rw [IntWalk.i64_in _ (by omega)]; omega) hb) ?_
    refine h_q hflS rfl ?_
    refine h_nil (f_to (d_reg ?_))
    refine h_q hflS rfl ?_
    refine h_done (d_ret ?_)
    exact f_fin1 (.tmp rfl) (fun w h => ⟨rfl, below0 h.up⟩) rfl
end Go.Proofs.Ytnebloeideodmaa.Sep

namespace Go.Proofs.Ytnebloeideodmaa
open Go.RowKit

/-! ## the model's words -/
end Go.Proofs.Ytnebloeideodmaa

namespace Go.Proofs.Ytnebloeideodmaa
open Go.RowKit

end Go.Proofs.Ytnebloeideodmaa

namespace Go.Proofs.Ytnebloeideodmaa
open Go.RowKit

end Go.Proofs.Ytnebloeideodmaa

namespace Go.Proofs.Ytnebloeideodmaa
open Go.RowKit

end Go.Proofs.Ytnebloeideodmaa

namespace Go.Proofs.Ytnebloeideodmaa
open Go.RowKit

end Go.Proofs.Ytnebloeideodmaa

namespace Go.Proofs.Ytnebloeideodmaa
open Go.RowKit

abbrev ptr (p : Nat) : Value := .pointer (some ⟨p, 0, none⟩)

end Go.Proofs.Ytnebloeideodmaa

namespace Go.Proofs.Ytnebloeideodmaa.Sep
open Go.RowKit
open Go.Proofs.Ytnebloeideodmaa.Mem (Dist Blk Chg below0)
section
variable {P : Program} {Q : Exit → Act → World → Prop} {n : Nat} {env : List (Nat × Value)} {B : Nat → Prop} {w0 w : World} {os : List Ass} {o : Oper}
/-- a call that reads what can be read in the present world, and answers new things -/
theorem a_makes {X : Type} {F : FuncId} {f : Operand} {args : Array Operand} {ats : Array TypeId} {vs : List Value} {val : X → Value} {post : X → List Ass} {os' : X → List Ass} (ids : List Nat) (pads : Nat) (hE : Ent P F) (hc : ∀ w, Hp B w0 w os → DoesU w P F vs.toArray [] val post) (hp : selA ids os = List.replicate pads emp) (hn : nodupB ids = true) (hb : (ids.all fun i => Nat.blt i os.length) = true) (he : ∀ x, (post x).drop ids.length ++ replA ids (padTo ids.length (post x)) os = os' x) (ho : o.op = .call { callee := .value f, args := args, argTypes := ats }) (hf : evs env f = some (.func (.func F) #[] #[])) (hx : evl env args.toList = some vs) :
    Acts P Q n env B w0 os o val os' := fun b w hH hb' K hK => by
  unfold Oper.wp
  rw [exec_call hE ho hf hx hb', Oper.upon_enter]
  obtain ⟨x, h0, h1, h2, h3, h4⟩ := hH.give2 ids (nodupB_iff hn)
  rw [hp] at h1
  have hx0 : x = [] := parts_emp.1 h1
  subst hx0
  refine (hc w hH w [] (Below.refl _ _) (fun x hx => by cases hx) rfl trivial trivial).mono ?_
  rintro e w' ⟨x, rfl, rs', hpx, hch⟩
  have hq := h4 (post x) rs' w' hpx hch
  refine hK x w' (he x ▸ Hp.imp hq fun rs h => ?_)
  obtain ⟨a, c, e, ha, hc'⟩ := h.split
  obtain ⟨a', p, ha'⟩ := padTo_parts (k := ids.length) ha
  have h2 := Parts.app ha' hc'
  rw [List.append_assoc] at h2
  obtain ⟨r2, p2, h3⟩ := h2.perm ((repl_perm (xs := post x) (nodupB_iff hn) hb).append_left _)
  exact ⟨r2, e ▸ (p.append_right c).trans p2, h3⟩
end
section
variable {P : Program} {F : FuncId} {args : Array Value} {l m b l' : List UInt8} {u : World} {g f f' : Nat} {v B : Value} {val : Value}
end
end Go.Proofs.Ytnebloeideodmaa.Sep

namespace Go.Proofs.Ytnebloeideodmaa

/-- a message -/
structure MsgD where
  k : Int
  a : Int
  b : Int
  t : Int
  i : Int
  lt : Int
  es : List EntD
  co : Int
  rf : Bool
  bi : Int
  bt : Int
  bc : Int
  o : Int
  d : List UInt8
  la : Bool
deriving DecidableEq
def MsgD.zero : MsgD := ⟨0, 0, 0, 0, 0, 0, [], 0, false, 0, 0, 0, 0, [], false⟩
structure MsgD.ok (m : MsgD) : Prop where
  k : I64 m.k
  a : I64 m.a
  b : I64 m.b
  t : U64 m.t
  i : U64 m.i
  lt : U64 m.lt
  es : m.es.length ≤ 9223372036854775807 ∧ ∀ e, e ∈ m.es → e.ok
  co : U64 m.co
  bi : U64 m.bi
  bt : U64 m.bt
  bc : I64 m.bc
  o : I64 m.o
  d : m.d.length ≤ 9223372036854775807

/-- the fields of a kind, as a sum of 1 (index), 2 (logterm), 4 (commit), 8 (entries), 16 (refused), 32 (base), 64 (offset), 128 (last), 256 (data) -/
def fm (k : Int) : Nat := if k = 1 then 131 else if k = 2 then 144 else if k = 3 then 15 else if k = 4 then 17 else if k = 5 then 480 else if k = 6 then 96 else 0
/-- do the entries follow? t: the message's term; i: the index before; p: the term before -/
def follow (t : Int) : Int → Int → List EntD → Bool
  | _, _, [] => true
  | i, p, e :: r => rightE e && e.i == i + 1 && decide (p ≤ e.t) && decide (e.t ≤ t) && follow t (i + 1) e.t r
/-! ## What is laid -/
/-! ## What is read -/
/-- an entry of a message -/
def rent (l : List UInt8) (f : Nat) : EntD × List UInt8 × Nat :=
  match rtext 160 l f with
  | (x, l1, f1) => if f1 ≠ 0 then (.zero, l1, f1) else ((decE x).1, l1, (decE x).2)
theorem rent_text {l l1 x : List UInt8} {f f1 : Nat} (h : rtext 160 l f = (x, l1, f1)) (hf : f1 ≠ 0) : rent l f = (.zero, l1, f1) := by
  unfold rent
  rw [h]
  simp only
  rw [if_pos hf]
theorem rent_of {l l1 x : List UInt8} {f e : Nat} {y : EntD} (h : rtext 160 l f = (x, l1, 0)) (he : decE x = (y, e)) : rent l f = (y, l1, e) := by
  unfold rent
  rw [h]
  simp only
  rw [if_neg (by simp), he]
theorem rent_right {l l' : List UInt8} {f : Nat} {e : EntD} (h : rent l f = (e, l', 0)) : rightE e = true := by
  obtain ⟨⟨x, l1, f1⟩, h1⟩ : ∃ R, rtext 160 l f = R := ⟨_, rfl⟩
  by_cases hf : f1 = 0
  · subst hf
    obtain ⟨⟨y, e'⟩, h2⟩ : ∃ R, decE x = R := ⟨_, rfl⟩
    have e1 := (rent_of h1 h2).symm.trans h
    simp only [Prod.mk.injEq] at e1
    obtain ⟨rfl, rfl, rfl⟩ := e1
    have hb := decE_back x
    rw [h2] at hb
    rcases hb with ⟨hb, _⟩ | ⟨_, hb, _⟩
    · exact absurd rfl hb
    · exact hb
  · have e1 := (rent_text h1 hf).symm.trans h
    simp only [Prod.mk.injEq] at e1
    exact absurd e1.2.2 hf
/-- n entries -/
def rents : Nat → List UInt8 → Nat → List EntD × List UInt8 × Nat
  | 0, l, f => ([], l, f)
  | n + 1, l, f => match rent l f with
    | (e, l1, f1) => if f1 ≠ 0 then ([], l1, f1) else match rents n l1 0 with
      | (es, l2, f2) => (e :: es, l2, f2)
theorem rents_of {n : Nat} {l l1 l2 : List UInt8} {f f2 : Nat} {e : EntD} {es : List EntD} (h : rent l f = (e, l1, 0)) (h2 : rents n l1 0 = (es, l2, f2)) : rents (n + 1) l f = (e :: es, l2, f2) := by
  rw [rents, h]
  simp only
  rw [if_neg (by simp), h2]
/-- a message's entries: their number, then each -/
def rlist (l : List UInt8) (f : Nat) : List EntD × List UInt8 × Nat :=
  match rnum 4 l f with
  | (n, l1, f1) => rents n l1 f1
/-- a base -/
def rbase (l : List UInt8) (f : Nat) : (Int × Int × Int) × List UInt8 × Nat :=
  match rnum 72057594037927935 l f with
  | (x, l1, f1) => match rnum 72057594037927935 l1 f1 with
    | (y, l2, f2) => match rbyte 254 l2 f2 with
      | (z, l3, f3) => (((x : Int), (y : Int), (z : Int)), l3, f3)
/-- what is read of l: the message, the rest, what was wrong -/
def readM (l : List UInt8) : MsgD × List UInt8 × Nat :=
  match rbyte 6 l 0 with
  | (k, l0, f0) => match rI (k != 0) 0 (rbyte 7 l0 f0) l0 f0 with
  | (a, l1, f1) => match rI (k != 0) 0 (rbyte 7 l1 f1) l1 f1 with
  | (b, l2, f2) => match rI (k != 0) 0 (rnum 72057594037927935 l2 f2) l2 f2 with
  | (t, l3, f3) => match rI (wth (fm (k : Int)) 1) 0 (rnum 72057594037927935 l3 f3) l3 f3 with
  | (i, l4, f4) => match rI (wth (fm (k : Int)) 2) 0 (rnum 72057594037927935 l4 f4) l4 f4 with
  | (lt, l5, f5) => match rI (wth (fm (k : Int)) 4) 0 (rnum 72057594037927935 l5 f5) l5 f5 with
  | (co, l6, f6) => match rI (wth (fm (k : Int)) 8) [] (rlist l6 f6) l6 f6 with
  | (es, l7, f7) => match rI (wth (fm (k : Int)) 16) 0 (rbyte 1 l7 f7) l7 f7 with
  | (rf, l8, f8) => match rI (wth (fm (k : Int)) 32) (0, 0, 0) (rbase l8 f8) l8 f8 with
  | ((bi, bt, bc), l9, f9) => match rI (wth (fm (k : Int)) 64) 0 (rnum 32768 l9 f9) l9 f9 with
  | (o, l10, f10) => match rI (wth (fm (k : Int)) 128) 0 (rbyte 1 l10 f10) l10 f10 with
  | (la, l11, f11) => match rI (wth (fm (k : Int)) 256) [] (rtext 256 l11 f11) l11 f11 with
  | (d, l12, f12) => (⟨(k : Int), (a : Int), (b : Int), (t : Int), (i : Int), (lt : Int), es, (co : Int), rf == 1, bi, bt, bc, (o : Int), d, la == 1⟩, l12, f12)
/-- the same, step by step -/
structure ReadM (l : List UInt8) (m : MsgD) (l' : List UInt8) (f' : Nat) where
  mk ::
  k : Nat
  l0 : List UInt8
  f0 : Nat
  h0 : rbyte 6 l 0 = (k, l0, f0)
  a : Nat
  l1 : List UInt8
  f1 : Nat
  h1 : rI (k != 0) 0 (rbyte 7 l0 f0) l0 f0 = (a, l1, f1)
  b : Nat
  l2 : List UInt8
  f2 : Nat
  h2 : rI (k != 0) 0 (rbyte 7 l1 f1) l1 f1 = (b, l2, f2)
  t : Nat
  l3 : List UInt8
  f3 : Nat
  h3 : rI (k != 0) 0 (rnum 72057594037927935 l2 f2) l2 f2 = (t, l3, f3)
  i : Nat
  l4 : List UInt8
  f4 : Nat
  h4 : rI (wth (fm (k : Int)) 1) 0 (rnum 72057594037927935 l3 f3) l3 f3 = (i, l4, f4)
  lt : Nat
  l5 : List UInt8
  f5 : Nat
  h5 : rI (wth (fm (k : Int)) 2) 0 (rnum 72057594037927935 l4 f4) l4 f4 = (lt, l5, f5)
  co : Nat
  l6 : List UInt8
  f6 : Nat
  h6 : rI (wth (fm (k : Int)) 4) 0 (rnum 72057594037927935 l5 f5) l5 f5 = (co, l6, f6)
  es : List EntD
  l7 : List UInt8
  f7 : Nat
  h7 : rI (wth (fm (k : Int)) 8) [] (rlist l6 f6) l6 f6 = (es, l7, f7)
  rf : Nat
  l8 : List UInt8
  f8 : Nat
  h8 : rI (wth (fm (k : Int)) 16) 0 (rbyte 1 l7 f7) l7 f7 = (rf, l8, f8)
  bi : Int
  bt : Int
  bc : Int
  l9 : List UInt8
  f9 : Nat
  h9 : rI (wth (fm (k : Int)) 32) (0, 0, 0) (rbase l8 f8) l8 f8 = ((bi, bt, bc), l9, f9)
  o : Nat
  l10 : List UInt8
  f10 : Nat
  h10 : rI (wth (fm (k : Int)) 64) 0 (rnum 32768 l9 f9) l9 f9 = (o, l10, f10)
  la : Nat
  l11 : List UInt8
  f11 : Nat
  h11 : rI (wth (fm (k : Int)) 128) 0 (rbyte 1 l10 f10) l10 f10 = (la, l11, f11)
  d : List UInt8
  h12 : rI (wth (fm (k : Int)) 256) [] (rtext 256 l11 f11) l11 f11 = (d, l', f')
  hm : m = ⟨(k : Int), (a : Int), (b : Int), (t : Int), (i : Int), (lt : Int), es, (co : Int), rf == 1, bi, bt, bc, (o : Int), d, la == 1⟩
theorem ReadM.is {l l' : List UInt8} {m : MsgD} {f' : Nat} (h : ReadM l m l' f') : readM l = (m, l', f') := by
  obtain ⟨k, l0, f0, h0, a, l1, f1, h1, b, l2, f2, h2, t, l3, f3, h3, i, l4, f4, h4, lt, l5, f5, h5, co, l6, f6, h6, es, l7, f7, h7, rf, l8, f8, h8, bi, bt, bc, l9, f9, h9, o, l10, f10, h10, la, l11, f11, h11, d, h12, rfl⟩ := h
  simp only [readM, h0, h1, h2, h3, h4, h5, h6, h7, h8, h9, h10, h11, h12]
end Go.Proofs.Ytnebloeideodmaa

namespace Go.Proofs.Ytnebloeideodmaa

/-! ## Its bytes are few -/
/-! ## What was read is laid so -/
/-! ## Decode -/
end Go.Proofs.Ytnebloeideodmaa

namespace Go.Proofs.Ytnebloeideodmaa

/-! ## A fault stays -/
/-- the entries that are read one by one: what has been read, what is left -/
structure RentsAt (n : Nat) (l : List UInt8) (f : Nat) (es : List EntD) (j : Nat) (l1 : List UInt8) : Prop where
  le : j ≤ n
  len : es.length = j
  right : ∀ e, e ∈ es → rightE e = true
  rest : ∀ es' l' f', rents (n - j) l1 0 = (es', l', f') → rents n l f = (es ++ es', l', f')
theorem RentsAt.step {n j : Nat} {l l1 l2 : List UInt8} {f : Nat} {es : List EntD} {e : EntD} (h : RentsAt n l f es j l1) (hj : j < n) (he : rent l1 0 = (e, l2, 0)) : RentsAt n l f (es ++ [e]) (j + 1) l2 where
  le := hj
  len := by rw [List.length_append, h.len]; rfl
  right x hx := by
    rcases List.mem_append.1 hx with hx | hx
    · exact h.right x hx
    · rw [List.mem_singleton.1 hx]; exact rent_right he
  rest es' l' f' hr := by
    have e1 : n - j = (n - (j + 1)) + 1 := by omega
    have := h.rest (e :: es') l' f' (by rw [e1]; exact rents_of he hr)
    rw [this, List.append_assoc]; rfl
theorem RentsAt.done {n : Nat} {l l1 : List UInt8} {f : Nat} {es : List EntD} (h : RentsAt n l f es n l1) : rents n l f = (es, l1, 0) := by
  have := h.rest [] l1 0 (by rw [Nat.sub_self]; rfl)
  rwa [List.append_nil] at this
end Go.Proofs.Ytnebloeideodmaa
