/-
  EntM · Each · CmdK · Law · Opz · Prt · TyC · CmdA · CmdB · CmdR · CmdL · CmdO · CmdP · CmdQ · CmdE · CmdF · CmdG · CmdN · CmdI · Crc · Sum · Seal
-/
import Derived.Test.YthamiglbifgepaaAA01
import Derived.Test.YthamiglbifgepaaAA05
import Derived.Test.YthamiglbifgepaaAA06
import Derived.Test.YthamiglbifgepaaRows
import Derived.ProofKit
import Derived.OpenShut
import Derived.JoinedCond
import Derived.SizedLaws
import Derived.Test.YthamiglbifgepaaChecked
import Derived.Lib.SmallJoins
import Derived.ChangeMaps5
import Derived.Deep.QuietTactic
import Derived.BigQuiet
set_option linter.unusedSimpArgs false
set_option linter.unusedVariables false

namespace Go.Proofs.Ythamiglbifgepaa

/-! ## Readers -/
/-- a reader undoes what is laid, and what it reads was laid so -/
structure Good {α : Type} (P : List UInt8 → Nat → α × List UInt8 × Nat) (enc : α → List UInt8) (dom rng : α → Prop) : Prop where
  lay : ∀ x r, dom x → P (enc x ++ r) 0 = (x, r, 0)
  back : ∀ l f, (P l f).2.2 = 0 → f = 0 ∧ l = enc (P l f).1 ++ (P l f).2.1
  ok : ∀ l f, rng (P l f).1
theorem Good.back_of {α : Type} {P : List UInt8 → Nat → α × List UInt8 × Nat} {enc : α → List UInt8} {dom rng : α → Prop} (h : Good P enc dom rng) {l l' : List UInt8} {f : Nat} {x : α} (e : P l f = (x, l', 0)) : f = 0 ∧ l = enc x ++ l' := by
  have := h.back l f (by rw [e])
  rwa [e] at this
theorem good_byte (most : Nat) : Good (rbyte most) (fun n => [UInt8.ofNat n]) (fun n => n ≤ most ∧ n < 256) (fun n => n < 256) where
  lay n r h := by
    have e := byte_of n (by omega)
    exact (rbyte_lay most _ r (by omega)).trans (by rw [e])
  back l f h := by
    obtain ⟨h1, _, _, h2⟩ := rbyte_back' h
    exact ⟨h1, h2⟩
  ok l f := rbyte_lt most l f
theorem good_num (most : Nat) : Good (rnum most) vlay (fun n => n ≤ most ∧ n < 18446744073709551616) (fun n => n < 18446744073709551616) where
  lay n r h := rnum_lay most n r h.1 h.2
  back _ _ h := rnum_back h
  ok l f := rnum_lt most l f
def layT (t : List UInt8) : List UInt8 := vlay t.length ++ t
theorem good_text (most : Int) : Good (rtext most) layT (fun t => (t.length : Int) ≤ most ∧ t.length < 18446744073709551616) (fun _ => True) where
  lay t r h := rtext_lay most t r h.1 h.2
  back _ _ h := rtext_back h
  ok _ _ := trivial
/-- read, where the kind has it -/
def rI {α : Type} (b : Bool) (z : α) (r : α × List UInt8 × Nat) (l : List UInt8) (f : Nat) : α × List UInt8 × Nat := match b with | true => r | false => (z, l, f)
/-! ## An entry -/
structure EntD where
  k : Int
  t : Int
  i : Int
  d : List UInt8
  c : Int
deriving DecidableEq
def EntD.zero : EntD := ⟨0, 0, 0, [], 0⟩
structure EntD.ok (e : EntD) : Prop where
  k : I64 e.k
  t : U64 e.t
  i : U64 e.i
  d : e.d.length ≤ 9223372036854775807
  c : I64 e.c
/-- a right set of nodes -/
def setB (c : Int) : Bool := decide (c ≥ 0) && decide (c ≤ 254) && decide (c % 2 = 0)
def kindE (e : EntD) : Bool :=
  if e.k = 0 then e.d == [] && e.c == 0
  else if e.k = 1 then decide (1 ≤ e.d.length) && decide (e.d.length ≤ 128) && e.c == 0
  else if e.k = 2 then e.d == [] && setB e.c && e.c != 0
  else false
def rightE (e : EntD) : Bool := numB e.t && (numB e.i && kindE e)
/-- what is laid behind the numbers -/
def tailE (e : EntD) : List UInt8 := if e.k = 1 then layT e.d else if e.k = 2 then [UInt8.ofNat e.c.toNat] else []
def layE (e : EntD) : List UInt8 := UInt8.ofNat e.k.toNat :: (layU e.t ++ (layU e.i ++ tailE e))
/-- what is read behind the numbers -/
def rtail (n : Nat) (l : List UInt8) (f : Nat) : (List UInt8 × Nat) × List UInt8 × Nat :=
  if n = 1 then (((rtext 128 l f).1, 0), (rtext 128 l f).2) else if n = 2 then (([], (rbyte 254 l f).1), (rbyte 254 l f).2) else (([], 0), l, f)
theorem rtail_one {l l' : List UInt8} {f f' : Nat} {x : List UInt8} (h : rtext 128 l f = (x, l', f')) : rtail 1 l f = ((x, 0), l', f') := by
  unfold rtail
  rw [if_pos rfl, h]
theorem rtail_two {l l' : List UInt8} {f f' c : Nat} (h : rbyte 254 l f = (c, l', f')) : rtail 2 l f = (([], c), l', f') := by
  unfold rtail
  rw [if_neg (by omega), if_pos rfl, h]
theorem rtail_else {n : Nat} (l : List UInt8) (f : Nat) (h1 : n ≠ 1) (h2 : n ≠ 2) : rtail n l f = (([], 0), l, f) := by
  unfold rtail
  rw [if_neg h1, if_neg h2]
def readE (l : List UInt8) : EntD × List UInt8 × Nat :=
  match rbyte 2 l 0 with
  | (n0, l0, f0) => match rnum 72057594037927935 l0 f0 with
    | (n1, l1, f1) => match rnum 72057594037927935 l1 f1 with
      | (n2, l2, f2) => match rtail n0 l2 f2 with
        | ((x, c), l3, f3) => (⟨(n0 : Int), (n1 : Int), (n2 : Int), x, (c : Int)⟩, l3, f3)
theorem readE_of {l l0 l1 l2 l3 x : List UInt8} {n0 n1 n2 c f0 f1 f2 f3 : Nat} (h0 : rbyte 2 l 0 = (n0, l0, f0)) (h1 : rnum 72057594037927935 l0 f0 = (n1, l1, f1)) (h2 : rnum 72057594037927935 l1 f1 = (n2, l2, f2)) (h3 : rtail n0 l2 f2 = ((x, c), l3, f3)) :
    readE l = (⟨(n0 : Int), (n1 : Int), (n2 : Int), x, (c : Int)⟩, l3, f3) := by
  simp only [readE, h0, h1, h2, h3]
/-- what ReadEntry answers -/
def decE (l : List UInt8) : EntD × Nat :=
  if 160 < l.length then (.zero, 12)
  else match readE l with
    | (e, l', f') => if rend l' f' ≠ 0 then (.zero, rend l' f') else if rightE e then (e, 0) else (.zero, 11)
theorem decE_long {l : List UInt8} (h : 160 < l.length) : decE l = (.zero, 12) := by
  unfold decE
  rw [if_pos h]
theorem decE_bad {l l' : List UInt8} {e : EntD} {f' : Nat} (h : ¬ 160 < l.length) (hr : readE l = (e, l', f')) (hf : rend l' f' ≠ 0) : decE l = (.zero, rend l' f') := by
  unfold decE
  rw [if_neg h, hr]
  simp only
  rw [if_pos hf]
theorem decE_wrong {l l' : List UInt8} {e : EntD} {f' : Nat} (h : ¬ 160 < l.length) (hr : readE l = (e, l', f')) (hf : rend l' f' = 0) (hR : rightE e = false) : decE l = (.zero, 11) := by
  unfold decE
  rw [if_neg h, hr]
  simp only
  rw [if_neg (by simp [hf]), hR]
  rfl
theorem decE_right {l l' : List UInt8} {e : EntD} {f' : Nat} (h : ¬ 160 < l.length) (hr : readE l = (e, l', f')) (hf : rend l' f' = 0) (hR : rightE e = true) : decE l = (e, 0) := by
  unfold decE
  rw [if_neg h, hr]
  simp only
  rw [if_neg (by simp [hf]), hR]
  rfl
theorem rend_zero {l : List UInt8} {f : Nat} (h : rend l f = 0) : f = 0 ∧ l = [] := by
  unfold rend at h
  split at h
  · omega
  · rename_i hn
    refine ⟨h, ?_⟩
    rcases Nat.eq_zero_or_pos l.length with h0 | h0
    · exact List.eq_nil_of_length_eq_zero h0
    · exact absurd ⟨h, h0⟩ hn
/-- what is read was laid so -/
theorem readE_back {l : List UInt8} {e : EntD} (h : readE l = (e, [], 0)) : l = layE e := by
  obtain ⟨⟨n0, l0, f0⟩, h0⟩ : ∃ R, rbyte 2 l 0 = R := ⟨_, rfl⟩
  obtain ⟨⟨n1, l1, f1⟩, h1⟩ : ∃ R, rnum 72057594037927935 l0 f0 = R := ⟨_, rfl⟩
  obtain ⟨⟨n2, l2, f2⟩, h2⟩ : ∃ R, rnum 72057594037927935 l1 f1 = R := ⟨_, rfl⟩
  obtain ⟨⟨⟨x, c⟩, l3, f3⟩, h3⟩ : ∃ R, rtail n0 l2 f2 = R := ⟨_, rfl⟩
  have e' := (readE_of h0 h1 h2 h3).symm.trans h
  simp only [Prod.mk.injEq] at e'
  obtain ⟨rfl, rfl, rfl⟩ := e'
  have b3 : f2 = 0 ∧ l2 = tailE ⟨(n0 : Int), (n1 : Int), (n2 : Int), x, (c : Int)⟩ := by
    by_cases hn : n0 = 1
    · subst hn
      obtain ⟨⟨y, l4, f4⟩, h4⟩ : ∃ R, rtext 128 l2 f2 = R := ⟨_, rfl⟩
      have e4 := (rtail_one h4).symm.trans h3
      simp only [Prod.mk.injEq] at e4
      obtain ⟨⟨rfl, rfl⟩, rfl, rfl⟩ := e4
      obtain ⟨a, b⟩ := (good_text 128).back_of h4
      refine ⟨a, ?_⟩
      unfold tailE
      simp only
      rw [if_pos (by rfl), b, List.append_nil]
    · by_cases hn2 : n0 = 2
      · subst hn2
        obtain ⟨⟨y, l4, f4⟩, h4⟩ : ∃ R, rbyte 254 l2 f2 = R := ⟨_, rfl⟩
        have e4 := (rtail_two h4).symm.trans h3
        simp only [Prod.mk.injEq] at e4
        obtain ⟨⟨rfl, rfl⟩, rfl, rfl⟩ := e4
        obtain ⟨a, b⟩ := (good_byte 254).back_of h4
        refine ⟨a, ?_⟩
        unfold tailE
        simp only
        rw [if_neg (by decide), if_pos (by rfl), b, List.append_nil]
        rfl
      · rw [rtail_else _ _ hn hn2] at h3
        simp only [Prod.mk.injEq] at h3
        obtain ⟨⟨rfl, rfl⟩, rfl, rfl⟩ := h3
        refine ⟨rfl, ?_⟩
        unfold tailE
        simp only
        rw [if_neg (by omega), if_neg (by omega)]
  obtain ⟨rfl, b3⟩ := b3
  obtain ⟨rfl, b2⟩ := (good_num _).back_of h2
  obtain ⟨rfl, b1⟩ := (good_num _).back_of h1
  obtain ⟨_, b0⟩ := (good_byte _).back_of h0
  rw [b0, b1, b2, b3]
  simp [layE, layU]
theorem decE_back (l : List UInt8) : ((decE l).2 ≠ 0 ∧ (decE l).1 = .zero) ∨ ((decE l).2 = 0 ∧ rightE (decE l).1 = true ∧ layE (decE l).1 = l) := by
  by_cases h : 160 < l.length
  · rw [decE_long h]; exact .inl ⟨by simp, rfl⟩
  · obtain ⟨⟨e, l', f'⟩, hr⟩ : ∃ R, readE l = R := ⟨_, rfl⟩
    by_cases hf : rend l' f' = 0
    · cases hR : rightE e
      · rw [decE_wrong h hr hf hR]; exact .inl ⟨by simp, rfl⟩
      · rw [decE_right h hr hf hR]
        obtain ⟨rfl, rfl⟩ := rend_zero hf
        exact .inr ⟨rfl, hR, (readE_back hr).symm⟩
    · rw [decE_bad h hr hf]; exact .inl ⟨hf, rfl⟩
end Go.Proofs.Ythamiglbifgepaa

namespace Go.Proofs.Ythamiglbifgepaa.Sep
open Go.RowKit
open Go.Proofs.Ythamiglbifgepaa.Mem (Dist Blk Chg)

/-- a thing for each element -/
def Each {α : Type} (f : α → Ass) (l : List α) : Ass := fun rs => Parts (l.map f) rs
section
variable {α : Type} {f : α → Ass} {l : List α} {B : Nat → Prop} {w0 w w' : World} {os : List Ass}
theorem each_nil : Each f [] [] := rfl
theorem Each.push {x : α} {a b : List RowT} (h : Each f l a) (h' : f x b) : Each f (l ++ [x]) (a ++ b) := by
  unfold Each
  rw [List.map_append]
  exact Parts.app h (Parts.one h')
/-- for the step 'close': what a list's things and one more are -/
theorem each_close {x : α} : ∀ rs, Parts [Each f l, f x] rs → Each f (l ++ [x]) rs := fun rs h => by
  obtain ⟨a, b, e, h1, h2⟩ := h
  subst e
  exact h1.push (Parts.one' h2)
/-- for the step 'open': the element j taken out -/
theorem each_open {j : Nat} {x : α} (hj : l[j]? = some x) : ∀ rs, Each f l rs → ∃ _ : Unit, Parts [Each f (l.take j), f x, Each f (l.drop (j + 1))] rs := fun rs h => by
  have e : l = l.take j ++ (x :: l.drop (j + 1)) := by
    have hlt := (List.getElem?_eq_some_iff.1 hj).1
    have hx := (List.getElem?_eq_some_iff.1 hj).2
    rw [← hx, ← List.drop_eq_getElem_cons hlt, List.take_append_drop]
  unfold Each at h
  rw [e, List.map_append] at h
  obtain ⟨a, b, rfl, h1, h2⟩ := h.split
  obtain ⟨c, d, rfl, h3, h4⟩ := h2
  refine ⟨(), a, c ++ d, rfl, ?_, c, d, rfl, h3, d, [], by simp, ?_, rfl⟩
  · exact h1
  · exact h4
/-- for the step 'close': an element put back, or another in its place -/
theorem each_back {a b : List α} {y : α} : ∀ rs, Parts [Each f a, f y, Each f b] rs → Each f (a ++ y :: b) rs := fun rs h => by
  obtain ⟨p, q, rfl, h1, c, d, rfl, h2, h3⟩ := h
  have h3 := Parts.one' h3
  unfold Each
  rw [List.map_append]
  exact Parts.app h1 ⟨c, d, rfl, h2, h3⟩
theorem each_set {j : Nat} {y : α} (hj : j < l.length) : l.take j ++ y :: l.drop (j + 1) = l.set j y := by
  rw [List.set_eq_take_append_cons_drop, if_pos hj]
theorem Each.at_ {j : Nat} {x : α} {rs : List RowT} (h : Each f l rs) (hr : RowsOf w rs) (hj : l[j]? = some x) : ∃ ys, f x ys ∧ RowsOf w ys := by
  obtain ⟨a, y, b, e, h1, _⟩ := Parts.at_ (i := j) (o := f x) h (by simp [hj])
  exact ⟨y, h1, rows_iff.2 fun z hz => rows_iff.1 hr z (by rw [e]; simp [hz])⟩
theorem Hp.each (h : Hp B w0 w os) (i : Nat) (hi : os[i]? = some (Each f l)) {j : Nat} {x : α} (hj : l[j]? = some x) : ∃ ys, f x ys ∧ RowsOf w ys := by
  obtain ⟨rs, h1, h2⟩ := h.thing i hi
  exact h1.at_ h2 hj
end
section
variable {P : Program} {ops : Array Oper} {Q : Exit → Act → World → Prop} {n : Nat} {env : List (Nat × Value)} {B : Nat → Prop} {w0 : World} {os : List Ass} {α : Type}
end

/-! ## A store into an element of several cells -/
section
variable {P : Program} {Q : Exit → Act → World → Prop} {n : Nat} {env : List (Nat × Value)} {B : Nat → Prop} {w0 : World} {os : List Ass} {o : Oper} {e : TypeId} {k : Nat} {α : Type} {enc : α → List Value} {v : Value} {l : List α}
end

/-! ## Entries -/
/-- an entry and where its bytes lie -/
structure EntV where
  e : EntD
  A : Option Addr
  c : Nat
def EntV.v (x : EntV) : Value := .slice x.A x.e.d.length x.c
def encV (x : EntV) : List Value := [.int .i64 x.e.k, .int .u64 x.e.t, .int .u64 x.e.i, x.v, .int .i64 x.e.c]
theorem okV : EncOf 5 encV := ⟨fun _ => rfl, fun x v h => by unfold encV EntV.v at h; simp at h; rcases h with rfl | rfl | rfl | rfl | rfl <;> rfl⟩
/-- v is a slice that reads as these entries -/
def EntsRd (w : World) (v : Value) (l : List EntV) : Prop := SlRd w 5 v l.length (flat encV l) ∧ ∀ x, x ∈ l → Sl8 w x.v x.e.d
section
variable {u w w0 : World} {v : Value} {l : List EntV} {X : Ass} {B : Nat → Prop} {os : List Ass} {rs : List RowT} {te : TypeId}
theorem SlRd.below {k m : Nat} {a : Value} {ys : List Value} (h : SlRd u k a m ys) (hb : Below u.heap.size u w) : SlRd w k a m ys := by
  obtain ⟨h1, A, c, e, hA⟩ := h
  refine ⟨h1, A, c, e, hA.imp id fun ⟨a, ha, hc⟩ => ⟨a, ha, fun j x hx => ?_⟩⟩
  have h0 := hc j x hx
  rw [hb.cell (World.block_lt_of_cell? _ _ h0)]
  exact h0
theorem EntsRd.below (h : EntsRd u v l) (hb : Below u.heap.size u w) : EntsRd w v l := ⟨h.1.below hb, fun x hx => (h.2 x hx).below hb⟩
/-- entries in rows of their own, each one's bytes too -/
def Ents (te : TypeId) (v : Value) (l : List EntV) : Ass := star [Vec te 5 encV v l, Each (fun x : EntV => Vec 5 1 encB x.v x.e.d) l]
theorem Ents.rd (h : Ents te v l rs) (hr : RowsOf w rs) : EntsRd w v l := by
  obtain ⟨a, b, e, h1, h2⟩ := h
  subst e
  have ha : RowsOf w a := rows_iff.2 fun z hz => rows_iff.1 hr z (by simp [hz])
  have hb : RowsOf w b := rows_iff.2 fun z hz => rows_iff.1 hr z (by simp [hz])
  refine ⟨h1.all okV ha, fun x hx => ?_⟩
  obtain ⟨j, hj⟩ := List.getElem?_of_mem hx
  obtain ⟨ys, h3, h4⟩ := (Parts.one' h2).at_ hb hj
  exact vec_sl8 h3 h4
end

/-! ## A message -/
end Go.Proofs.Ythamiglbifgepaa.Sep

namespace Go.Proofs.Ythamiglbifgepaa.Sep
open Go.RowKit
open Go.Proofs.Ythamiglbifgepaa.Mem (Dist Blk Chg below0)
section
variable {P : Program} {n : Nat} {B : Nat → Prop} {w0 w : World} {os : List Ass} {env : List (Nat × Value)} {o : Oper} {a : Act}
theorem exec_or {T T' : TypeId} {x y : Operand} {k : IntKind} {p q r : Int} (hr : bits .or k p q = r) (ho : o.op = .binOp .or T x y T') (hx : evs env x = some (.int k p)) (hy : evs env y = some (.int k q)) (hF : Fr n a env) : (execOp a.eval o).run P w = .ok (.value (.int k r)) w := by
  unfold execOp
  simp only [ho, hF.evs hx, hF.evs hy]
  simp [eqGuard, binOp, intBits_or, hr]
/-- 'string(b)', of bytes that can be read -/
theorem exec_str8 {T T' e : TypeId} {v : Value} {l : List UInt8} {x : Operand} (hs : P.underlying T = some (.slice e)) (he : P.underlying e = some (.int .u8)) (hi : (P.info? e).map (fun i => (i.zero, i.size, i.bytes)) = some (some (.int .u8 0), 1, 1)) (hd : P.underlying T' = some .string) (h : Sl8 w v l) (ho : o.op = .convert T T' x) (hx : evs env x = some v) (hF : Fr n a env) : (execOp a.eval o).run P w = .ok (.value (.string (bs l))) w := by
  obtain ⟨A, c, rfl, hb⟩ := h
  have := run_str (P := P) ⟨hs, he, hi⟩ hd hb
  unfold execOp
  simp only [ho, hF.evs hx, Sem.run_bind, Sem.run_pure, Result.andThen_ok, this]
  rfl
end
section
variable {P : Program} {n : Nat} {w : World} {env : List (Nat × Value)} {o : Oper} {a : Act}
end
theorem Sl8.drop {w : World} {A : Option Addr} {c k : Nat} {l : List UInt8} (h : Sl8 w (.slice A l.length c) l) (hk : k ≤ l.length) : Sl8 w (.slice (if c = k then A else A.map (·.add k)) (l.drop k).length (c - k)) (l.drop k) := by
  obtain ⟨A', c', e, hb⟩ := h
  simp only [Value.slice.injEq] at e
  obtain ⟨rfl, _, rfl⟩ := e
  exact ⟨_, _, rfl, hb.drop hk⟩
theorem Sl8.takes {w : World} {A : Option Addr} {c k : Nat} {l : List UInt8} (h : Sl8 w (.slice A l.length c) l) (hk : k ≤ l.length) : Sl8 w (.slice A (l.take k).length c) (l.take k) := by
  obtain ⟨A', c', e, hb⟩ := h
  simp only [Value.slice.injEq] at e
  obtain ⟨rfl, _, rfl⟩ := e
  exact ⟨_, _, rfl, hb.take hk⟩
section
variable {P : Program} {n : Nat} {w : World} {env : List (Nat × Value)} {o : Oper} {a : Act}
/-- what remains of a division, of the sign of what is divided -/
theorem exec_remI {T T' : TypeId} {x y : Operand} {k : IntKind} {p q r : Int} (ho : o.op = .binOp .rem T x y T') (hx : evs env x = some (.int k p)) (hy : evs env y = some (.int k q)) (hq : q ≠ 0) (hr : p.tmod q = r) (hF : Fr n a env) : (execOp a.eval o).run P w = .ok (.value (.int k r)) w := by
  unfold execOp
  simp only [ho, hF.evs hx, hF.evs hy]
  simp [eqGuard, binOp, Op.intArith, Op.intDiv, hq, hr]
end
/-! ## append of many bytes -/
section
variable {P : Program} {t e ty : TypeId} {v u : Value} {l m : List UInt8} {w w' : World} {rs : List RowT}
theorem run_append8 (hT : SliceT P t e 1) (h1 : (P.info? e).map (fun i => i.bytes) = some 1) (h : Vec e 1 encB v l rs) (hr : RowsOf w rs) (hd : Dist rs) (hu : SlRd w 1 u m.length (flat encB m)) (hlen : l.length + m.length ≤ 140737488355328) :
    ∃ v' w', (Builtin.append_ #[t, t] ty #[v, u]).run P w = .ok v' w' ∧ ∃ rs', Vec e 1 encB v' (l ++ m) rs' ∧ Chg w w' rs rs' := by
  obtain ⟨i, z, hi, hz, hk, hby, hzs, _⟩ := hT.inf
  have hb1 : i.bytes = 1 := by simpa [hi] using h1
  obtain ⟨hul, A, c, rfl, hA⟩ := hu
  have hu1 := flat_one okB m
  rcases hA with ⟨rfl, hm⟩ | ⟨a, rfl, hcells⟩
  · have hm' : m = [] := List.length_eq_zero_iff.1 hm
    subst hm'
    refine ⟨v, w, ?_, rs, by simpa using h, ⟨Mod.refl _ _, hr, hd, fun x hx _ => ⟨x, hx, rfl⟩⟩⟩
    rcases h with ⟨h1, h2, h3⟩ | ⟨g, c', cs, h1, h2, h3, h4, h5, h6⟩
    · subst h1
      simp [Builtin.append_, run_underlying hT.ht, sizeOf, typeInfo, hi, Builtin.lenOf, Builtin.firstCells]
    · subst h1
      simp [Builtin.append_, run_underlying hT.ht, sizeOf, typeInfo, hi, Builtin.lenOf, Builtin.firstCells, h2, storeCells]
  · have hown : w.ownsRow 0 e 1 v l.length (flat encB l) := by
      refine ⟨flat_len okB l, ?_⟩
      rcases h with ⟨h1, h2, h3⟩ | ⟨g, c', cs, h1, h2, h3, h4, h5, h6⟩
      · exact .inl ⟨h1, by rw [h2]; rfl⟩
      · subst h6
        exact .inr ⟨g, c', cs, h1, Nat.zero_le _, hr.1, h2, h3, h4, h5⟩
    obtain ⟨v', w', hrun, h2, h3, _, h5⟩ := run_append_own_at (P := P) w 0 t ty e i z 1 i.bytes hT.ht hi hz hk rfl hzs hT.pos v l.length (flat encB l) hown a m.length c (flat encB m) hul hcells hu1 (by unfold maxLen; omega)
      (by rw [hb1]; omega) (Nat.zero_le _)
    refine ⟨v', w', hrun, ?_⟩
    have hm : Mod (At v) w w' := Mod.of_grown h3 (fun k hk => hk)
    have hmB : Mod (Blk rs) w w' := hm.weaken fun j _ hj => by
      rcases h with ⟨h1, _, _⟩ | ⟨g, c', cs, h1, _, _, _, _, h6⟩
      · subst h1; unfold At at hj; simp [Value.ownBlock] at hj
      · subst h1; subst h6
        unfold At at hj
        simp [Value.ownBlock] at hj
        exact ⟨(g, some e, cs), by simp, hj⟩
    rcases h2.2 with ⟨h1, hn⟩ | ⟨g, c', cs, h1, _, hrow, hle, hmx, hsz, htk⟩
    · have : l ++ m = [] := List.length_eq_zero_iff.1 (by rw [List.length_append]; exact hn)
      exact ⟨[], .inl ⟨h1, this, rfl⟩, ⟨hmB, trivial, trivial, fun x hx => by simp at hx⟩⟩
    · refine ⟨[(g, some e, cs)], .inr ⟨g, c', cs, by rw [h1, List.length_append], by rw [List.length_append]; exact hle, hmx, hsz, by rw [List.length_append, flat_app]; exact htk, rfl⟩, ⟨hmB, ⟨hrow, trivial⟩, ⟨(fun _ h => by cases h), trivial⟩, fun x hx hlt => ?_⟩⟩
      have : x = (g, some e, cs) := by simpa using hx
      subst this
      rcases h5 with h5 | h5
      · subst h1
        rcases h with ⟨h1, _, _⟩ | ⟨g', c'', cs', h1, _, _, _, _, h6⟩
        · subst h1; simp [Value.ownBlock] at h5
        · subst h1; subst h6
          simp [Value.ownBlock] at h5
          exact ⟨(g', some e, cs'), by simp, h5.symm⟩
      · subst h1
        simp [Value.ownBlock] at h5
        exact absurd hlt (by show ¬ g < w.heap.size; omega)
variable {Q : Exit → Act → World → Prop} {n : Nat} {B : Nat → Prop} {w0 : World} {os : List Ass} {env : List (Nat × Value)} {o : Oper}
theorem a_append8 (i : Nat) (hT : SliceT P t e 1) (h1 : (P.info? e).map (fun i => i.bytes) = some 1) (hi : os[i]? = some (Vec e 1 encB v l)) (m : List UInt8) (hu : ∀ w, Hp B w0 w os → SlRd w 1 u m.length (flat encB m)) (hlen : l.length + m.length ≤ 140737488355328) {x y : Operand} (ho : o.op = .call { callee := .builtin .append, args := #[x, y], argTypes := #[t, t] }) (hx : evs env x = some v) (hy : evs env y = some u) {r : List UInt8} (hr : l ++ m = r) :
    Acts P Q n env B w0 os o (fun v : Value => v) (fun v' => os.set i (Vec e 1 encB v' r)) := fun act w hH hF K hK => by
  subst hr
  have hH' := hH
  obtain ⟨rs0, hp, hm⟩ := hH
  obtain ⟨a, z, b, e1, hz, hb⟩ := hp.at_ hi
  subst e1
  have p : (a ++ (z ++ b)).Perm (z ++ (a ++ b)) := by rw [← List.append_assoc, ← List.append_assoc]; exact List.perm_append_comm.append_right b
  have h5 := hp_perm hm p
  have hd := dist_iff.1 h5.apart
  rw [List.map_append] at hd
  obtain ⟨v', w', hr, y', hy', hc⟩ := run_append8 (P := P) (ty := o.type) hT h1 hz (rows_iff.2 fun z hz => h5.rows.mem z (by simp [hz])) (dist_iff.2 (List.nodup_append.1 hd).1) (hu w hH') hlen
  have p' : (y' ++ (a ++ b)).Perm (a ++ (y' ++ b)) := by rw [← List.append_assoc, ← List.append_assoc]; exact List.perm_append_comm.append_right b
  refine a_val (w0 := w) act (exec_bi ho (vs := [v, u]) (by simp [evl, hx, hy]) (fun cs => ?_) hF) (hK v' w' ⟨_, hb _ y' hy', hp_perm (hp_chg h5 hc) p'⟩)
  simp only [builtin, Sem.run_bind, Sem.run_pure, Result.andThen_ok, hr]
end
section
variable {P : Program} {Q : Exit → Act → World → Prop} {n : Nat} {B : Nat → Prop} {w0 : World} {os : List Ass} {env : List (Nat × Value)} {o : Oper} {t e : TypeId}
theorem run_build2 (hT : SliceT P t e 1) {c0 c1 : Value} (h0 : c0.cells = #[c0]) (h1 : c1.cells = #[c1]) (w : World) : (Instr.buildSlice t 2 #[(0, c0), (1, c1)]).run P w = .ok (.slice (some ⟨w.heap.size, 0, none⟩) 2 2) (w.alloc (.cells #[c0, c1] e)) := by
  obtain ⟨inf, z, hinf, hz, hk, _, hzs, _⟩ := hT.inf
  simp [Instr.buildSlice, run_underlying hT.ht, hT.sizeOf, zeroValue, typeInfo, hinf, hz, Instr.fill, h0, h1, newRow, Array.range_succ, map_range0]
theorem a_build2 (hT : SliceT P t e 1) {x0 x1 : Operand} (a0 a1 : UInt8) (ho : o.op = .buildSlice t 2 #[(0, x0), (1, x1)]) (h0 : evs env x0 = some (.int .u8 (a0.toNat : Int))) (h1 : evs env x1 = some (.int .u8 (a1.toNat : Int))) : Acts P Q n env B w0 os o (fun v : Value => v) (fun v => Vec e 1 encB v [a0, a1] :: os) := fun b w hH hF K hK => by
  have hrun : (execOp b.eval o).run P w = .ok (.value (.slice (some ⟨w.heap.size, 0, none⟩) 2 2)) (w.alloc (.cells #[.int .u8 (a0.toNat : Int), .int .u8 (a1.toNat : Int)] e)) := by
    unfold execOp
    simp [ho, hF.evs h0, hF.evs h1, Sem.run_bind, run_build2 hT (c0 := .int .u8 (a0.toNat : Int)) (c1 := .int .u8 (a1.toNat : Int)) rfl rfl]
  refine a_val (w0 := w) b hrun (hK _ _ ?_)
  have := hH.new e #[.int .u8 (a0.toNat : Int), .int .u8 (a1.toNat : Int)]
  obtain ⟨rs, ⟨r1, r2, e1, h1, h2⟩, h3⟩ := this
  unfold cell at h1
  exact ⟨rs, ⟨r1, r2, e1, .inr ⟨w.heap.size, 2, #[.int .u8 (a0.toNat : Int), .int .u8 (a1.toNat : Int)], rfl, Nat.le_refl _, by unfold maxLen; omega, rfl, by simp [flat, encB], h1⟩, h2⟩, h3⟩
end
end Go.Proofs.Ythamiglbifgepaa.Sep

namespace Go.Proofs.Ythamiglbifgepaa
open Go.ChangeShapes Go.WideShapes Go.ChangeAt Go.RowKit

theorem own : ownKnob Try.prog.godebug = none := by kernel_rfl
theorem laidOut : laidOutB Try.prog = true := by kernel_rfl

section
variable {H : Type} {enc : TypeId × Value → H} {P : Program}

/-- what the arguments read as stays, where nothing that was there has changed -/
theorem trodAll_stays (hl : laidOutB P = true) {W W' : World} (hb : Below W.heap.size W W') :
    ∀ {ts : List TypeId} {vs : List Value} {ds : List (DataW H)} {ps : List MemPlace}, (∀ t ∈ ts, P.readableRec t = true ∧ t < P.types.size) → (∀ x ∈ ps, x.block < W.heap.size) →
      DataW.TrodAll enc P W 0 (fun _ => true) true ts vs ds ps → DataW.TrodAll enc P W' 0 (fun b => decide (b < W.heap.size)) true ts vs ds ps
  | [], vs, ds, ps, _, _, h => by
    obtain ⟨rfl, rfl, rfl⟩ := trodAll_nil h
    rfl
  | t :: ts, vs, ds, ps, ht, hp, h => by
    obtain ⟨v, vs1, d, ds1, a, b, rfl, rfl, rfl, h1, h2⟩ := trodAll_cons h
    obtain ⟨hr, hrow⟩ := ht t List.mem_cons_self
    exact ⟨a, b, Below.trod hl hr hrow h1 hb (fun x hx => hp x (List.mem_append_left _ hx)), trodAll_stays hl hb (fun t h => ht t (List.mem_cons_of_mem _ h)) (fun x hx => hp x (List.mem_append_right _ hx)) h2, rfl⟩

theorem law_post {f : Func} {s : ChangeSpec} {tb : TypeId} {W W' : World} {args : Array Value} {ds gs : List (DataW H)} {before : List MemPlace}
    (hl : laidOutB P = true) (hr : f.resultTypes = #[tb]) (htb : P.underlying tb = some .bool) (hread : ∀ t ∈ f.params.toList, P.readableRec t = true ∧ t < P.types.size)
    (hvars : s.vars = []) (hs : s.fn H ds = { results := [.lit (.bool true)], args := ds })
    (hW : DataW.Whole enc P f.params.toList s.vars false W args.toList ds gs before) (hb : Below W.heap.size W W') :
    s.post enc P f false true false false W args (.bool true) W' := by
  have hW' := hW
  obtain ⟨p, q, hA, hV, rfl, hfz, hnd⟩ := hW
  rw [hvars] at hV
  obtain ⟨rfl, rfl⟩ := trodVars_none hV
  have hlt : ∀ x ∈ p, x.block < W.heap.size := fun x hx => hW'.lt x (by simpa using hx)
  refine ⟨ds, [], p ++ [], [], p, [], hW', ?_, ?_, ?_, ?_, fun h => by cases h⟩
  · rw [List.append_nil, hs, hr]
    exact trodAll_cons_mk (shut_bool htb true) trodAll_mk0
  · rw [List.append_nil, hs]
    exact trodAll_stays hl hb hread hlt hA
  · rw [List.append_nil, hs, hvars]
    rfl
  · exact World.keptBut_mono (fun x hx => ⟨hx, .inr (.inl (by simpa using hx))⟩) (hb.frame (· ∈ p ++ []))
end

/-! ## Arguments, opened -/
section
variable {H : Type} {enc : TypeId × Value → H} {P : Program}

theorem spot_none {w : World} {a : Addr} {v : Value} (h : w.cell? a = some v) : a = ⟨a.block, a.off, none⟩ := by
  obtain ⟨b, o, s⟩ := a
  have : s = none := by simpa using World.cell?_spot h
  subst this
  rfl

/-- a []byte, wherever it is met -/
theorem trod_u8s {W : World} {base : Nat} {spare : Nat → Bool} {held : Bool} {t e : TypeId} {fuel : Nat} {cs : List Value} {x : DataW H × List MemPlace} (hu : U8 P t e) (hc : P.cellsOf e = 1)
    (hf : DataW.trod enc P W base spare held fuel t cs = some x) : ∃ A c l, cs = [.slice A l.length c] ∧ Bs (fun k => k < W.heap.size) W A c l ∧ ((x.1 = .nil ∧ l = []) ∨ ∃ es sp, x.1 = .slice es sp ∧ es.length = l.length) := by
  rcases open_ints hu.ht hu.he hc hf with ⟨hcs, hx⟩ | ⟨a, len, cap, zs, hcs, _, hl, hm, hz, hx, hcell, hwz⟩
  · subst hcs
    exact ⟨none, 0, [], rfl, Bs.nil _ _ _ (by simp [maxLen]), .inl ⟨by rw [hx], rfl⟩⟩
  · subst hcs
    have hlz : len ≤ zs.length := by rw [hz]; split <;> omega
    have e0 : ((zs.take len).map (fun z => UInt8.ofNat z.toNat)).length = len := by simp; omega
    refine ⟨some a, cap, (zs.take len).map (fun z => UInt8.ofNat z.toNat), by rw [e0], ⟨by omega, hm, fun hn => ?_⟩, .inr ⟨_, _, by rw [hx], by simp [lits]⟩⟩
    have h0 := hcell 0 (by omega)
    have hs : a = ⟨a.block, a.off, none⟩ := by
      have := h0
      rw [show a.add 0 = a by simp [Addr.add]] at this
      exact spot_none this
    have hb := World.block_lt_of_cell? _ _ h0
    rw [hs, Addr.add_lit] at hb
    refine ⟨a.block, a.off, by rw [← hs], hb, fun j b hj => ?_⟩
    have hjl := (List.getElem?_eq_some_iff.1 hj).1
    rw [e0] at hjl
    have hcj := hcell j (by omega)
    rw [hs, Addr.add_lit] at hcj
    rw [hcj]
    have hbj : b = UInt8.ofNat (zs.getD j 0).toNat := by
      rw [List.getElem?_map, List.getElem?_take, if_pos (by omega), List.getElem?_eq_getElem (by omega)] at hj
      simp only [Option.map_some, Option.some.injEq] at hj
      rw [← hj, List.getD, List.getElem?_eq_getElem (by omega)]
      rfl
    have hw : 0 ≤ zs.getD j 0 ∧ zs.getD j 0 ≤ 255 := by
      have hmem : zs.getD j 0 ∈ zs := by
        rw [List.getD, List.getElem?_eq_getElem (show j < zs.length by omega)]
        exact List.getElem_mem _
      simpa [Lit.wf, IntKind.min, IntKind.max, IntKind.signed, IntKind.bits] using hwz _ hmem
    rw [hbj]
    unfold u8v
    simp only [UInt8.toNat_ofNat']
    congr 2
    omega
/-- a []byte that comes in -/
theorem open_u8s {W : World} {base : Nat} {spare : Nat → Bool} {held : Bool} {r : Reach} {b0 : Nat} {t e : TypeId} {v : Value} {d : DataW H} {p : List MemPlace} (hu : U8 P t e) (hc : P.cellsOf e = 1)
    (hval : Value.okWide P W r b0 t v) (h : DataW.Trod enc P W base spare held t v d p) : ∃ A c l, v = .slice A l.length c ∧ Bs (fun k => k < W.heap.size) W A c l ∧ ((d = .nil ∧ l = []) ∨ ∃ es sp, d = .slice es sp ∧ es.length = l.length) := by
  obtain ⟨a, len, cap, rfl⟩ := okWide_slice hu.ht hval
  obtain ⟨fuel, hf⟩ := h
  obtain ⟨A, c, l, hcs, hb, hd⟩ := trod_u8s hu hc hf
  simp [Value.cells] at hcs
  obtain ⟨rfl, rfl, rfl⟩ := hcs
  exact ⟨a, cap, l, rfl, hb, hd⟩
end


theorem wf_i64 {x : Int} (h : (Lit.int .i64 x).wf = true) : -9223372036854775808 ≤ x ∧ x ≤ 9223372036854775807 := by
  simpa [Lit.wf, IntKind.min, IntKind.max, IntKind.signed, IntKind.bits] using h
theorem readable_of {P : Program} {l : List TypeId} (h : l.all (fun t => P.readableRec t && decide (t < P.types.size)) = true) : ∀ t ∈ l, P.readableRec t = true ∧ t < P.types.size := by
  intro t ht
  have := List.all_eq_true.1 h t ht
  simpa using this
theorem cells_u8 : Try.prog.cellsOf 5 = 1 := by kernel_rfl
theorem bytes_u8 : Try.prog.bytesOf 5 = 1 := by kernel_rfl

/-! ## The bound of the second form -/
theorem bulk_pos {H : Type} (d : DataW H) : 1 ≤ Rows.uptoBulk d := by
  cases d with
  | lit l => cases l <;> simp [Rows.uptoBulk]
  | _ => simp [Rows.uptoBulk]
theorem bulk_length {H : Type} : ∀ l : List (DataW H), l.length ≤ Rows.uptoBulkAll l
  | [] => by simp [Rows.uptoBulkAll]
  | d :: l => by
    have := bulk_pos d
    have := bulk_length l
    simp only [Rows.uptoBulkAll, List.length_cons]
    omega
theorem bulk_bytes {H : Type} {d : DataW H} {l : List UInt8} (h : (d = .nil ∧ l = []) ∨ ∃ es sp, d = .slice es sp ∧ es.length = l.length) : l.length + 1 ≤ Rows.uptoBulk d := by
  rcases h with ⟨rfl, rfl⟩ | ⟨es, sp, rfl, he⟩
  · simp [Rows.uptoBulk]
  · have := bulk_length es
    simp only [Rows.uptoBulk]
    omega
theorem bulk_map {H α : Type} (f : α → Nat) (g : α → DataW H) : ∀ l : List α, (∀ x ∈ l, f x ≤ Rows.uptoBulk (g x)) → (l.map f).sum ≤ Rows.uptoBulkAll (l.map g)
  | [], _ => by simp
  | x :: l, h => by
    have h1 := h x List.mem_cons_self
    have h2 := bulk_map f g l (fun y hy => h y (List.mem_cons_of_mem _ hy))
    simp only [List.map_cons, List.sum_cons, Rows.uptoBulkAll]
    omega
theorem bound {H : Type} {l : List (DataW H)} (hk : Rows.uptoSmall H l = true) : Rows.uptoBulkAll l ≤ 1048576 := of_decide_eq_true hk
end Go.Proofs.Ythamiglbifgepaa

namespace Go.Proofs.Ythamiglbifgepaa.Sep
open Go.ChangeShapes Go.WideShapes Go.ChangeAt Go.RowKit
section
variable {H : Type} {enc : TypeId × Value → H} {P : Program}
/-- no slice or string in it is greater than memory may be -/
def SizedD (P : Program) (t : TypeId) (d : DataW H) : Prop := ∀ n ∈ d.weights P t, n ≤ reachBytes
theorem sized_arg {ts : List TypeId} {ds : List (DataW H)} (h : (DataW.weightsEach P ts ds).all (· ≤ reachBytes) = true) {j : Nat} {t : TypeId} {d : DataW H} (ht : ts[j]? = some t) (hd : ds[j]? = some d) : SizedD P t d := fun n hn => by
  have := List.all_eq_true.1 h n (DataW.weights_mem_each ht hd n hn)
  simpa using this
theorem SizedD.len {t e : TypeId} {es sp : List (DataW H)} (h : SizedD P t (.slice es sp)) (hu : P.underlying t = some (.slice e)) : es.length * P.bytesOf e ≤ reachBytes := by
  have := h ((es.length + sp.length) * P.bytesOf e) (by simp [DataW.weights, hu])
  exact Nat.le_trans (Nat.mul_le_mul_right _ (Nat.le_add_right _ _)) this
theorem weights_all {e : TypeId} : ∀ {es : List (DataW H)} {j : Nat} {d : DataW H}, es[j]? = some d → ∀ n ∈ d.weights P e, n ∈ DataW.weightsAll P e es
  | [], _, _, h, _, _ => by simp at h
  | d0 :: r, 0, d, h, n, hn => by
    simp only [List.getElem?_cons_zero, Option.some.injEq] at h
    subst h
    simp only [DataW.weightsAll, List.mem_append]
    exact .inl hn
  | d0 :: r, j + 1, d, h, n, hn => by
    simp only [List.getElem?_cons_succ] at h
    simp only [DataW.weightsAll, List.mem_append]
    exact .inr (weights_all h n hn)
theorem SizedD.elem {t e : TypeId} {es sp : List (DataW H)} (h : SizedD P t (.slice es sp)) (hu : P.underlying t = some (.slice e)) {j : Nat} {d : DataW H} (hd : es[j]? = some d) : SizedD P e d := fun n hn => by
  refine h n ?_
  have := weights_all (P := P) hd n hn
  simp [DataW.weights, hu, this]
theorem open_slice_s {α : Type} [Inhabited α] {k : Nat} {enc' : α → List Value} {ok : α → Prop} {t e : TypeId} (he : EncOf k enc') (hk : 0 < k) (hu : P.underlying t = some (.slice e)) (hC : P.cellsOf e = k) {W : World} {base : Nat} {spare : Nat → Bool} {held : Bool} {v : Value} {n0 : Nat} {x0 : DataW H × List MemPlace}
    (hel : ∀ (n : Nat) (cs : List Value) (x : DataW H × List MemPlace), cs.length = k → DataW.trod enc P W base spare held n e cs = some x → SizedD P e x.1 → ∃ y : α, cs = enc' y ∧ ok y)
    (hf : DataW.trod enc P W base spare held n0 t [v] = some x0) (hs : SizedD P t x0.1) : ∃ A c, ∃ l : List α, v = .slice A l.length c ∧ l.length * P.bytesOf e ≤ reachBytes ∧ SlRd W k v l.length (flat enc' l) ∧ ∀ y ∈ l, ok y := by
  rcases DataW.trod_slice hu hf with ⟨hcs, hx⟩ | ⟨a, len, cap, elems, rest, n, _, hcs, hx, _, hl, hm, hlen, hels, _, _⟩
  · simp at hcs
    subst hcs
    exact ⟨none, 0, [], rfl, by simp, ⟨by simp [flat], none, 0, rfl, .inl ⟨rfl, rfl⟩⟩, fun y hy => by cases hy⟩
  · simp at hcs
    subst hcs
    rw [hC] at hels
    rw [(Prod.mk.inj hx).1] at hs
    have hsl := hs.len hu
    rw [List.length_map] at hsl
    have each : ∀ i, i < len → ∃ y : α, ok y ∧ ∀ j x, (enc' y)[j]? = some x → W.cell? ((a.add (i * k)).add j) = some x := by
      intro i hi
      have h1 := hels i hi
      rw [List.getElem?_eq_getElem (show i < elems.length by omega), Option.bind_eq_some_iff] at h1
      obtain ⟨cs', hcs, ht⟩ := h1
      obtain ⟨_, hcl, hat⟩ := World.cells?_some hcs
      obtain ⟨y, rfl, hy⟩ := hel _ _ _ hcl ht (hs.elem hu (j := i) (by rw [List.getElem?_map, List.getElem?_eq_getElem (show i < elems.length by omega)]; rfl))
      exact ⟨y, hy, fun j x hj => (hat j (by rw [← hcl]; exact (List.getElem?_eq_some_iff.1 hj).1)).trans hj⟩
    obtain ⟨f, hf⟩ := Go.Deep.choose_lt each
    have hll : ((List.range len).map f).length = len := by simp
    have hat : ∀ {i : Nat} {y : α}, ((List.range len).map f)[i]? = some y → i < len ∧ y = f i := by
      intro i y hi
      have hil : i < len := by have := (List.getElem?_eq_some_iff.1 hi).1; simpa using this
      rw [List.getElem?_map, List.getElem?_range hil] at hi
      simp only [Option.map_some, Option.some.injEq] at hi
      exact ⟨hil, hi.symm⟩
    refine ⟨some a, cap, (List.range len).map f, by rw [hll], by rw [hll]; rw [show elems.length = len by omega] at hsl; exact hsl, ?_, ?_⟩
    · rw [hll]
      refine ⟨by rw [flat_len he, hll], some a, cap, rfl, .inr ⟨a, rfl, fun q x hq => ?_⟩⟩
      obtain ⟨y, hy, hyx⟩ := flat_pick he hk hq
      obtain ⟨hil, rfl⟩ := hat hy
      have hc := (hf (q / k) hil).2 (q % k) x hyx
      have ha : a = ⟨a.block, a.off, none⟩ := by
        obtain ⟨z, hz⟩ : ∃ z, (enc' (f 0))[0]? = some z := ⟨_, List.getElem?_eq_getElem (by have := he.len (f 0); omega)⟩
        have h0 := (hf 0 (Nat.lt_of_le_of_lt (Nat.zero_le _) hil)).2 0 _ hz
        rw [Nat.zero_mul, show (a.add 0).add 0 = a by simp [Addr.add]] at h0
        exact spot0 h0
      rw [ha, Addr.add_lit, Addr.add_lit] at hc
      rw [ha, Addr.add_lit]
      have e1 : a.off + q / k * k + q % k = a.off + q := by rw [Nat.add_assoc, Nat.mul_comm]; congr 1; exact Nat.div_add_mod q k
      rw [e1] at hc
      exact hc
    · intro y hy
      obtain ⟨i, hi⟩ := List.getElem?_of_mem hy
      obtain ⟨hil, rfl⟩ := hat hi
      exact (hf i hil).1
/-- a []byte, met anywhere -/
theorem open_8s {W : World} {base : Nat} {spare : Nat → Bool} {held : Bool} {v : Value} {n0 : Nat} {x0 : DataW H × List MemPlace} (hf : DataW.trod enc Try.prog W base spare held n0 23 [v] = some x0) (hs : SizedD Try.prog 23 x0.1) :
    ∃ A c l, v = .slice A l.length c ∧ Sl8 W (.slice A l.length c) l ∧ l.length ≤ reachBytes := by
  obtain ⟨A, c, l, hcs, hb, hd⟩ := trod_u8s tyU8 cells_u8 hf
  simp at hcs
  refine ⟨A, c, l, hcs, ⟨A, c, rfl, hb.weaken fun _ _ _ => trivial⟩, ?_⟩
  rcases hd with ⟨_, rfl⟩ | ⟨es, sp, e, he⟩
  · simp
  · rw [e] at hs
    have := hs.len Try.underlying23
    rw [bytes_u8] at this
    omega
end
end Go.Proofs.Ythamiglbifgepaa.Sep

namespace Go.Proofs.Ythamiglbifgepaa.Sep
open Go.RowKit
open Go.Proofs.Ythamiglbifgepaa.Mem (Dist Blk Chg below0)

/-- a value of one cell, as itself -/
def encW (v : Value) : List Value := [if v.oneCell' = true then v else .nilIface]
theorem okW : EncOf 1 encW := ⟨fun _ => rfl, fun v x h => by
  unfold encW at h
  rw [List.mem_singleton] at h
  subst h
  split
  · assumption
  · rfl⟩
theorem encW_one {v : Value} (h : v.oneCell' = true) : encW v = [v] := by unfold encW; rw [if_pos h]
/-- a slice, and its bytes -/
abbrev PtT := Value × List UInt8
def PartsT (te : TypeId) (v : Value) (l : List PtT) : Ass := star [Vec te 1 encW v (l.map (·.1)), Each (fun x : PtT => Vec 5 1 encB x.1 x.2) l]
section
variable {P : Program} {te t : TypeId} {v u : Value} {l : List PtT} {d : List UInt8} {w w0 : World} {rs : List RowT} {B : Nat → Prop} {os : List Ass} {Q : Exit → Act → World → Prop} {n : Nat} {env : List (Nat × Value)} {o : Oper} {act : Act}
theorem prts_open : ∀ rs, PartsT te v l rs → ∃ _ : Unit, Parts [Vec te 1 encW v (l.map (·.1)), Each (fun x : PtT => Vec 5 1 encB x.1 x.2) l] rs := fun _ h => ⟨(), h⟩
theorem prts_push : ∀ rs, Parts [Vec te 1 encW v (l.map (·.1) ++ [u]), Each (fun x : PtT => Vec 5 1 encB x.1 x.2) l, Vec 5 1 encB u d] rs → PartsT te v (l ++ [(u, d)]) rs := fun rs h => by
  obtain ⟨a, b, e, h1, h2⟩ := h
  refine ⟨a, b, e, ?_, Parts.one (each_close (x := ((u, d) : PtT)) _ h2)⟩
  rw [List.map_append]; exact h1
theorem prts_nil : PartsT te (.slice none 0 0) [] [] := ⟨[], [], rfl, nilVec _ _ _, [], [], rfl, each_nil, rfl⟩
theorem PartsT.at_ (h : PartsT te v l rs) (hr : RowsOf w rs) {j : Nat} (hj : l[j]? = some (u, d)) : ∃ ys, Vec 5 1 encB u d ys ∧ RowsOf w ys := by
  obtain ⟨a, b, e, h1, h2⟩ := h
  subst e
  exact (Parts.one' h2).at_ (f := fun x : PtT => Vec 5 1 encB x.1 x.2) (x := ((u, d) : PtT)) (rows_iff.2 fun z hz => rows_iff.1 hr z (by simp [hz])) hj
theorem prt_rd8 {j : Nat} (hj : l[j]? = some (u, d)) : Rd8 (PartsT te v l) u d := fun rs w h1 h2 => by
  obtain ⟨ys, h3, h4⟩ := h1.at_ h2 hj
  exact vec_sl8 h3 h4
theorem Hp.prtVec (h : Hp B w0 w os) (i : Nat) (hi : os[i]? = some (PartsT te v l)) : ∃ rs, Vec te 1 encW v (l.map (·.1)) rs ∧ RowsOf w rs := by
  obtain ⟨rs, ⟨a, b, e, h1, _⟩, h2⟩ := h.thing i hi
  exact ⟨a, h1, rows_iff.2 fun z hz => rows_iff.1 h2 z (by rw [e]; simp [hz])⟩
theorem e_plen (i : Nat) (hu : P.underlying t = some (.slice te)) (hi : os[i]? = some (PartsT te v l)) {x : Operand} (ho : o.op = .call { callee := .builtin .len, args := #[x], argTypes := #[t] }) (hx : evs env x = some v) (hH : Hp B w0 w os) (hF : Fr n act env) : (execOp act.eval o).run P w = .ok (.value (.int .i64 (l.length : Int))) w := by
  obtain ⟨rs, hv, _⟩ := hH.prtVec i hi
  obtain ⟨A, c, rfl⟩ := hv.is
  rw [List.length_map] at hx
  exact exec_bi ho (vs := [.slice A l.length c]) (by simp [evl, hx]) (fun cs => run_len_slice hu A _ c _ w cs) hF
/-- a load out of an element, where the slice is a thing by itself -/
theorem vec_loadW {a : List Value} (hO : OneOf P te) (hv : Vec te 1 encW v a rs) (hr : RowsOf w rs) {j : Nat} (hj : a[j]? = some u) (h1 : u.oneCell' = true) {x : Operand} (ho : o.op = .load te x) (hx : evs env x = some (elp v (j * 1))) (hF : Fr n act env) : (execOp act.eval o).run P w = .ok (.value u) w := by
  rcases hv with ⟨_, h2, _⟩ | ⟨g, cap, cs, h2, _, _, _, h5, h6⟩
  · subst h2; simp at hj
  · subst h2; subst h6
    have hcell : cs[j]? = some u := by
      refine Vec.take_ okW h5 ?_
      have := flat_get okW hj (j := 0) (by decide)
      rw [Nat.mul_one, Nat.add_zero] at this
      rw [this, encW_one h1]; rfl
    refine exec_load ho (off := j) (t := te) (g := g) (cs := cs) ?_ (reads_one hO hcell) hr.1 hF
    rw [hx]; simp [elp]
theorem e_pidx (i : Nat) (hT : SliceT P t te 1) (hi : os[i]? = some (PartsT te v l)) (j : Nat) (hj : j < l.length) {x y : Operand} {kk : IntKind} (ho : o.op = .indexAddr t x y) (hx : evs env x = some v) (hy : evs env y = some (.int kk (j : Int))) (hH : Hp B w0 w os) (hF : Fr n act env) : (execOp act.eval o).run P w = .ok (.value (elp v (j * 1))) w := by
  obtain ⟨rs, h1, h2⟩ := hH
  obtain ⟨a, y', b, e, h3, h4⟩ := Parts.at_ h1 hi
  obtain ⟨c, z, e2, h5, h6⟩ := h3
  have hH2 : Hp B w0 w [Vec te 1 encW v (l.map (·.1)), fun r => ∃ p q, r = p ++ q ∧ p = a ∧ (Parts [Each (fun x : PtT => Vec 5 1 encB x.1 x.2) l] z ∧ q = z ++ b)] := by
    refine ⟨c ++ (a ++ (z ++ b)), ⟨c, a ++ (z ++ b), rfl, h5, a ++ (z ++ b), [], by simp, ⟨a, z ++ b, rfl, rfl, h6, rfl⟩, rfl⟩, hp_perm h2 ?_⟩
    rw [e, e2]
    have : (a ++ (c ++ z ++ b)).Perm (c ++ (a ++ (z ++ b))) := by
      rw [List.append_assoc, ← List.append_assoc, ← List.append_assoc c a]
      exact List.perm_append_comm.append_right _
    simpa using this
  exact e_vidx 0 hT okW rfl j (by rw [List.length_map]; exact hj) ho hx hy hH2 hF
theorem e_pload (i : Nat) (hO : OneOf P te) (hi : os[i]? = some (PartsT te v l)) (j : Nat) (hj : l[j]? = some (u, d)) {x : Operand} (ho : o.op = .load te x) (hx : evs env x = some (elp v (j * 1))) (hH : Hp B w0 w os) (hF : Fr n act env) : (execOp act.eval o).run P w = .ok (.value u) w := by
  obtain ⟨rs, h1, h2⟩ := hH.thing i hi
  obtain ⟨ys, h3, _⟩ := h1.at_ h2 hj
  obtain ⟨rs2, h4, h5⟩ := hH.prtVec i hi
  exact vec_loadW hO h4 h5 (j := j) (by rw [List.getElem?_map, hj]; rfl) h3.c1.2 ho hx hF
/-- a slice of one slice -/
theorem a_buildV (q : Nat) {e' : TypeId} {k' : Nat} {α : Type} {enc' : α → List Value} {l' : List α} (hT : SliceT P t te 1) (hq : os[q]? = some (Vec e' k' enc' u l')) {x : Operand} (ho : o.op = .buildSlice t 1 #[(0, x)]) (hx : evs env x = some u) : Acts P Q n env B w0 os o (fun v : Value => v) (fun v => Vec te 1 encW v [u] :: os) := fun b w hH hF K hK => by
  obtain ⟨rs, h1, _⟩ := hH.thing q hq
  exact a_build1 hT okW u (encW_one h1.c1.2) ho hx b w hH hF K hK
end

/-! ## Such as came in -/
structure PtV where
  A : Option Addr
  c : Nat
  d : List UInt8
def PtV.v (x : PtV) : Value := .slice x.A x.d.length x.c
def encPt (x : PtV) : List Value := [x.v]
theorem okPt : EncOf 1 encPt := ⟨fun _ => rfl, fun x v h => by unfold encPt PtV.v at h; simp at h; subst h; rfl⟩
instance : Inhabited PtV := ⟨⟨none, 0, []⟩⟩
def PtsRd (w : World) (v : Value) (l : List PtV) : Prop := SlRd w 1 v l.length (flat encPt l) ∧ ∀ x, x ∈ l → Sl8 w x.v x.d
section
variable {u w w0 : World} {v : Value} {l : List PtV} {B : Nat → Prop} {os : List Ass}
theorem PtsRd.below (h : PtsRd u v l) (hb : Below u.heap.size u w) : PtsRd w v l := ⟨h.1.below hb, fun x hx => (h.2 x hx).below hb⟩
theorem argPs (h : PtsRd u v l) (hU : Below u.heap.size u w0) (hS : ∀ k, B k → u.heap.size ≤ k) (hH : Hp B w0 w os) : PtsRd w v l := h.below (hU.trans (hH.up.below hU.size hS))
theorem argPs0 (h : PtsRd w0 v l) (hH : Hp Nil w0 w os) : PtsRd w v l := h.below (hH.up.below (Nat.le_refl _) (fun _ h => h.elim))
end
theorem subTake {A : Option Addr} {n c j : Nat} : subv 1 (.slice A n c) 0 j = .slice A j c := by
  have e : A.map (·.add 0) = A := by
    cases A with
    | none => rfl
    | some a =>
      have : a.add 0 = a := by obtain ⟨b, o, q⟩ := a; cases q <;> simp [Addr.add]
      simp [this]
  simp [subv, e]
theorem takeMin {l : List UInt8} (n : Nat) : ((l.take n).length : Int) = min (l.length : Int) (n : Int) := by
  rw [List.length_take]; omega
theorem Sl8.takesN {w : World} {A : Option Addr} {c : Nat} {l : List UInt8} (k : Nat) (h : Sl8 w (.slice A l.length c) l) : Sl8 w (.slice A (l.take k).length c) (l.take k) := by
  rcases Nat.lt_or_ge l.length k with hk | hk
  · rw [List.take_of_length_le (by omega)]; exact h
  · exact h.takes hk
theorem sl8_capN {w : World} {A : Option Addr} {n c : Nat} {l : List UInt8} (h : Sl8 w (.slice A n c) l) : l.length ≤ c := by
  obtain ⟨A', c', e, hb⟩ := h
  simp only [Value.slice.injEq] at e
  obtain ⟨_, _, rfl⟩ := e
  exact hb.1
/-! ## A list of parts, and its value -/
structure PsV where
  v : Value
  l : List PtT
end Go.Proofs.Ythamiglbifgepaa.Sep

namespace Go.Proofs.Ythamiglbifgepaa.Sep
open Go.RowKit
open Go.Proofs.Ythamiglbifgepaa.Mem (Dist Blk Chg below0)
theorem ty_s_uint8 : OneOf Try.prog 23 := oneOf Try.underlying23 rfl (by kernel_rfl)
theorem ze_s_uint8 : Zero Try.prog 23 #[.slice none 0 0] := zero_of (z := .slice none 0 0) (by kernel_rfl) rfl
theorem ty_int : OneOf Try.prog 3 := oneOf Try.underlying3 rfl (by kernel_rfl)
theorem ze_int : Zero Try.prog 3 #[.int .i64 0] := zero_of (z := .int .i64 0) (by kernel_rfl) rfl
theorem ty_uint8 : OneOf Try.prog 5 := oneOf Try.underlying5 rfl (by kernel_rfl)
theorem sl_s_uint8 : SliceT Try.prog 25 23 1 := sliceT_of (z := .slice none 0 0) Try.underlying25 (by kernel_rfl) rfl rfl (by decide)
theorem sl_int : SliceT Try.prog 33 3 1 := sliceT_of (z := .int .i64 0) Try.underlying33 (by kernel_rfl) rfl rfl (by decide)
theorem sl_uint8 : SliceT Try.prog 23 5 1 := sliceT_of (z := .int .u8 0) Try.underlying23 (by kernel_rfl) rfl rfl (by decide)
def flS : List ((Nat × Nat) × Nat) := []
theorem hflS : Flds Try.prog flS := flds_of (fl := []) trivial

end Go.Proofs.Ythamiglbifgepaa.Sep

namespace Go.Proofs.Ythamiglbifgepaa.Sep
open Go.RowKit
open Go.Proofs.Ythamiglbifgepaa.Mem (Dist Blk Chg below0)

end Go.Proofs.Ythamiglbifgepaa.Sep

namespace Go.Proofs.Ythamiglbifgepaa.Sep
open Go.RowKit
open Go.Proofs.Ythamiglbifgepaa.Mem (Dist Blk Chg below0)

end Go.Proofs.Ythamiglbifgepaa.Sep

namespace Go.Proofs.Ythamiglbifgepaa.Sep
open Go.RowKit
open Go.Proofs.Ythamiglbifgepaa.Mem (Dist Blk Chg below0)

section
variable {P : Program} {n : Nat} {B : Nat → Prop} {w0 w : World} {os : List Ass} {env : List (Nat × Value)} {o : Oper} {a : Act}
end

end Go.Proofs.Ythamiglbifgepaa.Sep

namespace Go.Proofs.Ythamiglbifgepaa.Sep
open Go.RowKit
open Go.Proofs.Ythamiglbifgepaa.Mem (Dist Blk Chg below0)

end Go.Proofs.Ythamiglbifgepaa.Sep

namespace Go.Proofs.Ythamiglbifgepaa.Sep
open Go.ChangeShapes Go.WideShapes Go.ChangeAt Go.RowKit
section
variable {H : Type} {enc : TypeId × Value → H} {W : World} {base b0 : Nat} {r : Reach} {spare : Nat → Bool} {held : Bool} {v : Value} {d : DataW H} {p : List MemPlace}
theorem open_8 {A : Option Addr} {c : Nat} {l : List UInt8} (hb : Bs (fun k => k < W.heap.size) W A c l) : Sl8 W (.slice A l.length c) l := ⟨A, c, rfl, hb.weaken fun _ _ _ => trivial⟩
end
end Go.Proofs.Ythamiglbifgepaa.Sep

namespace Go.Proofs.Ythamiglbifgepaa.Sep
open Go.RowKit
open Go.Proofs.Ythamiglbifgepaa.Mem (Dist Blk Chg below0)

end Go.Proofs.Ythamiglbifgepaa.Sep

namespace Go.Proofs.Ythamiglbifgepaa.Sep
open Go.RowKit
open Go.Proofs.Ythamiglbifgepaa.Mem (Dist Blk Chg below0)

end Go.Proofs.Ythamiglbifgepaa.Sep

namespace Go.Proofs.Ythamiglbifgepaa.Sep
open Go.RowKit
open Go.Proofs.Ythamiglbifgepaa.Mem (Dist Blk Chg below0)

end Go.Proofs.Ythamiglbifgepaa.Sep

namespace Go.Proofs.Ythamiglbifgepaa.Sep
open Go.RowKit
open Go.Proofs.Ythamiglbifgepaa.Mem (Dist Blk Chg below0)

end Go.Proofs.Ythamiglbifgepaa.Sep

namespace Go.Proofs.Ythamiglbifgepaa.Sep
open Go.RowKit
open Go.Proofs.Ythamiglbifgepaa.Mem (Dist Blk Chg below0)

structure RepD where
  code : Int
  val : Int
  hi : Int
  lo : Int
  sc : Int
deriving DecidableEq
structure RepD.ok (r : RepD) : Prop where
  code : I64 r.code
  val : U64 r.val
  hi : I64 r.hi
  lo : U64 r.lo
  sc : I64 r.sc
def RepD.right (r : RepD) : Bool := (decide (0 ≤ r.code) && decide (r.code ≤ 99)) && scB r.sc
end Go.Proofs.Ythamiglbifgepaa.Sep

namespace Go.Proofs.Ythamiglbifgepaa.Sep
open Go.RowKit
open Go.Proofs.Ythamiglbifgepaa.Mem (Dist Blk Chg below0)

end Go.Proofs.Ythamiglbifgepaa.Sep

namespace Go.Proofs.Ythamiglbifgepaa.Sep
open Go.RowKit
open Go.Proofs.Ythamiglbifgepaa.Mem (Dist Blk Chg below0)

set_option maxRecDepth 100000 in
theorem pick (w : World) (a m : Int) (ha : -9223372036854775808 ≤ a ∧ a ≤ 9223372036854775807) (hm : 1 ≤ m ∧ m ≤ 9223372036854775807) {r : Int} (hr : a % m = r) : Calls Try.prog 11 #[.int .i64 a, .int .i64 m] w fun e w' => e = .returned (.int .i64 r) ∧ Below w.heap.size w w' := by
  have hlt := Int.emod_lt_of_pos a (show 0 < m by omega)
  have hge := Int.emod_nonneg a (show m ≠ 0 by omega)
  have ht : (0 ≤ a.tmod m ∧ a.tmod m = r) ∨ (a.tmod m < 0 ∧ a.tmod m + m = r) := by
    rw [Int.tmod_eq_emod, ← hr]
    split
    · left; omega
    · rename_i h
      right
      have hne : a % m ≠ 0 := fun e => h (.inr (Int.dvd_of_emod_eq_zero e))
      omega
  rw [hr] at hlt hge
  obtain ⟨t, htm⟩ : ∃ t, a.tmod m = t := ⟨_, rfl⟩
  rw [htm] at ht
  refine d_in (args := [.int .i64 a, .int .i64 m]) 14 Try.func11 rfl rfl rfl ?_
  refine d_reg ?_
  refine h_q hflS rfl ?_
  refine h_done (d_reg ?_)
  refine h_q hflS rfl ?_
  refine h_val rfl (.int .i64 t) (fun b w hb hH => exec_remI rfl rfl rfl (by omega) htm hb) ?_
  refine h_q hflS rfl ?_
  refine h_done (d_seq ?_)
  rcases ht with ⟨h1, h2⟩ | ⟨h1, h2⟩
  · skip
    subst h2
    refine d_reg ?_
    refine h_q hflS rfl ?_
    refine h_val rfl (.bool false) (fun b w hb hH => exec_cmp rfl rfl rfl (cmp_lss_f (by omega)) hb) ?_
    refine h_done (d_else rfl (d_skip (f_to (d_reg ?_))))
    refine h_q hflS rfl ?_
    refine h_done (d_ret ?_)
    exact f_fin1 (.tmp rfl) (fun w h => ⟨rfl, below0 h.up⟩) rfl
  · skip
    refine d_reg ?_
    refine h_q hflS rfl ?_
    refine h_val rfl (.bool true) (fun b w hb hH => exec_cmp rfl rfl rfl (cmp_lss_t (by omega)) hb) ?_
    refine h_done (d_then rfl (d_reg1 ?_))
    refine h_q hflS rfl ?_
    refine h_val rfl (.int .i64 r) (fun b w hb hH => exec_ar rfl rfl rfl rfl (by rw [IntWalk.i64_in _ (by omega)]; omega) hb) ?_
    refine h_q hflS rfl ?_
    refine h_nil (f_to (d_reg ?_))
    refine h_q hflS rfl ?_
    refine h_done (d_ret ?_)
    exact f_fin1 (.tmp rfl) (fun w h => ⟨rfl, below0 h.up⟩) rfl
end Go.Proofs.Ythamiglbifgepaa.Sep

namespace Go.Proofs.Ythamiglbifgepaa
open Go.RowKit

def crcMask : BitVec 32 := 2197175160#32
/-- one bit -/
def crcBit (h : BitVec 32) : BitVec 32 := (h >>> 1) ^^^ (if h.getLsbD 0 then crcMask else 0#32)
def crcBits : Nat → BitVec 32 → BitVec 32
  | 0, h => h
  | n + 1, h => crcBit (crcBits n h)
/-- one byte -/
def crcByte (h : BitVec 32) (c : UInt8) : BitVec 32 := crcBits 8 (h ^^^ BitVec.ofNat 32 c.toNat)
def crcRun (h : BitVec 32) (l : List UInt8) : BitVec 32 := l.foldl crcByte h
def crcSum (l : List UInt8) : Nat := (~~~ crcRun (BitVec.allOnes 32) l).toNat

/-! ## the model's words -/
theorem ofInt_u32 (a : Nat) (ha : a < 4294967296) : BitVec.ofInt 32 (a : Int) = BitVec.ofNat 32 a := BitVec.ofInt_natCast ..
theorem u32_xor (a b : BitVec 32) : bits .xor .u32 (a.toNat : Int) (b.toNat : Int) = ((a ^^^ b).toNat : Int) := by
  show IntKind.u32.wrap ((BitVec.ofInt 32 (a.toNat : Int) ^^^ BitVec.ofInt 32 (b.toNat : Int)).toNat : Int) = _
  rw [BitVec.ofInt_natCast, BitVec.ofInt_natCast, BitVec.ofNat_toNat, BitVec.ofNat_toNat, BitVec.setWidth_eq, BitVec.setWidth_eq, IntKind.wrap_u32]
  have := (a ^^^ b).isLt
  omega
theorem u32_and_one (a : BitVec 32) : bits .and .u32 (a.toNat : Int) 1 = if a.getLsbD 0 then 1 else 0 := by
  show IntKind.u32.wrap ((BitVec.ofInt 32 (a.toNat : Int) &&& BitVec.ofInt 32 1).toNat : Int) = _
  have h1 : BitVec.ofInt 32 1 = 1#32 := by decide
  rw [BitVec.ofInt_natCast, BitVec.ofNat_toNat, BitVec.setWidth_eq, h1, BitVec.toNat_and, IntKind.wrap_u32]
  have e : a.toNat &&& (1#32).toNat = a.toNat % 2 := Nat.and_one_is_mod _
  rw [e]
  have e2 : a.getLsbD 0 = decide (a.toNat % 2 = 1) := by simp [BitVec.getLsbD, Nat.testBit_zero]
  rw [e2]
  by_cases h : a.toNat % 2 = 1
  · simp [h]
  · have : a.toNat % 2 = 0 := by omega
    simp [this]
/-- a step as the program's Sum reckons it -/
theorem u32_bit (a : BitVec 32) : bits .xor .u32 ((a.toNat : Int) / 2) (IntKind.u32.wrap (bits .and .u32 (a.toNat : Int) 1 * 2197175160)) = ((crcBit a).toNat : Int) := by
  have e1 : (a.toNat : Int) / (2 : Int) = ((a >>> 1).toNat : Int) := by
    rw [BitVec.toNat_ushiftRight, Nat.shiftRight_eq_div_pow]; omega
  have e2 : IntKind.u32.wrap (bits .and .u32 (a.toNat : Int) 1 * 2197175160) = ((if a.getLsbD 0 then crcMask else 0#32).toNat : Int) := by
    rw [u32_and_one, IntKind.wrap_u32]
    cases a.getLsbD 0
    · rfl
    · rfl
  rw [e1, e2, u32_xor]
  rfl
/-- a step as the reference reckons it, where the bit is set -/
theorem u32_odd (a : BitVec 32) (h : a.getLsbD 0 = true) : bits .xor .u32 ((a.toNat : Int) / 2) 2197175160 = ((crcBit a).toNat : Int) := by
  have := u32_bit a
  rw [u32_and_one, h] at this
  exact this
theorem u32_even (a : BitVec 32) (h : a.getLsbD 0 = false) : (a.toNat : Int) / 2 = ((crcBit a).toNat : Int) := by
  have e1 : (a.toNat : Int) / (2 : Int) = ((a >>> 1).toNat : Int) := by
    rw [BitVec.toNat_ushiftRight, Nat.shiftRight_eq_div_pow]; omega
  rw [e1]
  unfold crcBit
  rw [h]
  simp
theorem u32_in (a : BitVec 32) (c : UInt8) : bits .xor .u32 (a.toNat : Int) (c.toNat : Int) = ((a ^^^ BitVec.ofNat 32 c.toNat).toNat : Int) := by
  rw [← u32_xor]
  have := UInt8.toNat_lt c
  rw [BitVec.toNat_ofNat, Nat.mod_eq_of_lt (by omega)]
theorem u32_or_nat (a b : Nat) (ha : a < 4294967296) (hb : b < 4294967296) : bits .or .u32 (a : Int) (b : Int) = ((a ||| b : Nat) : Int) := by
  have hx : a ||| b < 2 ^ 32 := Nat.or_lt_two_pow (by omega) (by omega)
  show IntKind.u32.wrap ((BitVec.ofInt 32 (a : Int) ||| BitVec.ofInt 32 (b : Int)).toNat : Int) = _
  rw [BitVec.toNat_or, ofInt_u32 a ha, ofInt_u32 b hb, BitVec.toNat_ofNat, BitVec.toNat_ofNat, Nat.mod_eq_of_lt (by omega), Nat.mod_eq_of_lt (by omega), IntKind.wrap_u32]
  omega
theorem u32_not (r : BitVec 32) : bits .xor .u32 IntKind.u32.max (r.toNat : Int) = ((~~~ r).toNat : Int) := by
  have h : IntKind.u32.max = ((BitVec.allOnes 32).toNat : Int) := by decide
  rw [h, u32_xor, BitVec.allOnes_xor]
theorem u32_not' (r : BitVec 32) : bits .xor .u32 (r.toNat : Int) 4294967295 = ((~~~ r).toNat : Int) := by
  have h : (4294967295 : Int) = ((BitVec.allOnes 32).toNat : Int) := by decide
  rw [h, u32_xor, BitVec.xor_allOnes]
end Go.Proofs.Ythamiglbifgepaa

namespace Go.Proofs.Ythamiglbifgepaa
open Go.RowKit

theorem sum_any {S : Nat → Prop} (w : World) (A : Option Addr) (c : Nat) (l : List UInt8) (h : Bs S w A c l) (hl : l.length ≤ 140737488355328) :
    Calls Try.prog 19 #[.slice A l.length c] w fun e w' => e = .returned (.int .u32 (crcSum l : Int)) ∧ w = w' := by
  go_enter Try.func19, Try.ntmps19
  go_wp2
  go_loop [3, 5, 6, 9] (fun h _ _ i => ∃ k : Nat, k ≤ l.length ∧ i = .int .i64 k ∧ h = .int .u32 ((crcRun (BitVec.allOnes 32) (l.take k)).toNat : Int)) (fun _ _ _ i => l.length - (intOf i).toNat)
  case atStart => exact ⟨0, Nat.zero_le _, rfl, rfl⟩
  case round =>
    obtain ⟨k, hk, rfl, rfl⟩ := hrel
    by_cases hlt : k < l.length
    · obtain ⟨g, o, rfl, hs, hc⟩ := h.2.2 (by omega)
      have hb := hc k l[k] (List.getElem?_eq_getElem hlt)
      unfold u8v at hb
      clear hc
      have ht : crcRun (BitVec.allOnes 32) (l.take (k + 1)) = crcByte (crcRun (BitVec.allOnes 32) (l.take k)) l[k] := by
        rw [List.take_succ_eq_append_getElem hlt]; unfold crcRun; rw [List.foldl_append]; rfl
      have HT := hid ht
      clear ht
      obtain ⟨b, hbb⟩ : ∃ b, b = l[k] := ⟨_, rfl⟩
      rw [← hbb] at hb HT
      have HB := hid hbb
      clear hbb
      obtain ⟨x, hx⟩ : ∃ x, x = crcRun (BitVec.allOnes 32) (l.take k) := ⟨_, rfl⟩
      rw [← hx] at HT ⊢
      have HX := hid hx
      clear hx
      have hin := u32_in x b
      obtain ⟨y, hy⟩ : ∃ y, y = x ^^^ BitVec.ofNat 32 b.toNat := ⟨_, rfl⟩
      rw [← hy] at hin
      have HY := hid hy
      clear hy
      obtain ⟨n, hn⟩ : ∃ n, n = b.toNat := ⟨_, rfl⟩
      have hn2 : n < 256 := by rw [hn]; exact UInt8.toNat_lt _
      rw [← hn] at hin hb
      clear hn
      go_wp2
      go_loop [3, 6, 17] (fun h _ j => ∃ i : Nat, i ≤ 8 ∧ j = .int .i64 i ∧ h = .int .u32 ((crcBits i y).toNat : Int)) (fun _ _ j => 8 - (intOf j).toNat)
      case atStart => exact ⟨0, by omega, rfl, rfl⟩
      case round =>
        obtain ⟨i, hi, rfl, rfl⟩ := hrel
        by_cases hi8 : i < 8
        · have hbit := u32_bit (crcBits i y)
          rw [IntKind.wrap_u32] at hbit
          obtain ⟨z, hz⟩ : ∃ z, z = crcBits i y := ⟨_, rfl⟩
          rw [← hz] at hbit ⊢
          have HZ := hid hz
          clear hz
          obtain ⟨z', hz'⟩ : ∃ z', z' = crcBit z := ⟨_, rfl⟩
          rw [← hz'] at hbit
          have HZ' := hid hz'
          clear hz'
          go_wp2
          go_round
          case rel => exact ⟨i + 1, by omega, by go_num, by rw [HZ'.out, HZ.out]; rfl⟩
          case measure => simp [intOf]; omega
        · have e8 : i = 8 := by omega
          subst e8
          obtain ⟨z, hz⟩ : ∃ z, z = crcBits 8 y := ⟨_, rfl⟩
          rw [← hz]
          have HZ := hid hz
          clear hz
          go_wp2
          go_round
          case rel => exact ⟨k + 1, by omega, by go_num, by rw [HT.out, HZ.out, HY.out]; rfl⟩
          case measure => simp [intOf]; omega
    · have e : l.take k = l := List.take_of_length_le (by omega)
      rw [e]
      clear e
      obtain ⟨r, hr⟩ : ∃ r, r = crcRun (BitVec.allOnes 32) l := ⟨_, rfl⟩
      rw [← hr]
      have HR := hid hr
      clear hr
      have hnot := u32_not r
      obtain ⟨q, hq⟩ : ∃ q : Nat, q = (~~~ r).toNat := ⟨_, rfl⟩
      rw [← hq] at hnot
      have HQ := hid hq
      clear hq
      go_wp2
      all_goals
        go_ret
        refine ⟨ret_int ?_, rfl⟩
        unfold crcSum
        rw [← HR.out, ← HQ.out]
end Go.Proofs.Ythamiglbifgepaa

namespace Go.Proofs.Ythamiglbifgepaa
open Go.RowKit

end Go.Proofs.Ythamiglbifgepaa
