/-
  RdkS · RdkM · TyG · Lit · RdkA
-/
import Derived.Test.YtnknboibmifacaaGreatYA06
import Derived.Test.YtnknboibmifacaaGreatYA08
import Derived.Test.YtnknboibmifacaaGreatYB01
import Derived.Test.YtnknboibmifacaaGreatYB02
import Derived.Test.YtnknboibmifacaaGreatYB03
import Derived.Test.YtnknboibmifacaaGreatYC01
set_option linter.unusedSimpArgs false
set_option linter.unusedVariables false
set_option maxRecDepth 100000
namespace Go.Proofs.YtnknboibmifacaaGreat.Sep
def Ie (a b : List UInt8) : Bool := Op.bytesLess a b
theorem MJ : ∀ a, Ie a a = false
  | [] => rfl
  | x :: a => by
    show (decide (x < x) || (x == x && Ie a a)) = false
    rw [MJ a]; simp
theorem Tk : ∀ a b c, Ie a b = true → Ie b c = true → Ie a c = true
  | a, [], c, h, _ => by cases a <;> cases h
  | _, _ :: _, [], _, h => by cases h
  | [], _ :: _, _ :: _, _, _ => rfl
  | x :: a, y :: b, z :: c, h, h' => by
    have h1 : (decide (x < y) || (x == y && Ie a b)) = true := h
    have h2 : (decide (y < z) || (y == z && Ie b c)) = true := h'
    show (decide (x < z) || (x == z && Ie a c)) = true
    simp only [Bool.or_eq_true, Bool.and_eq_true, decide_eq_true_eq, beq_iff_eq] at *
    rcases h1 with h1 | ⟨rfl, h1⟩
    · rcases h2 with h2 | ⟨rfl, h2⟩
      · exact .inl (UInt8.lt_trans h1 h2)
      · exact .inl h1
    · rcases h2 with h2 | ⟨rfl, h2⟩
      · exact .inl h2
      · exact .inr ⟨rfl, Tk a b c h1 h2⟩
theorem Qm : ∀ a b, Ie a b = false → Ie b a = false → a = b
  | [], [], _, _ => rfl
  | [], _ :: _, h, _ => by cases h
  | _ :: _, [], _, h => by cases h
  | x :: a, y :: b, h, h' => by
    have h1 : (decide (x < y) || (x == y && Ie a b)) = false := h
    have h2 : (decide (y < x) || (y == x && Ie b a)) = false := h'
    simp only [Bool.or_eq_false_iff, Bool.and_eq_false_iff, decide_eq_false_iff_not, beq_eq_false_iff_ne] at *
    have hxy : x = y := UInt8.le_antisymm (UInt8.not_lt.1 h2.1) (UInt8.not_lt.1 h1.1)
    subst hxy
    rcases h1.2 with h | h
    · exact absurd rfl h
    · rcases h2.2 with h' | h'
      · exact absurd rfl h'
      · rw [Qm a b h h']
end Go.Proofs.YtnknboibmifacaaGreat.Sep
namespace Go.Proofs.YtnknboibmifacaaGreat.Sep
open Go.RowKit
structure RFl where
  n : List UInt8
  A : Option Addr
  c : Nat
  d : List UInt8
def RFl.v (x : RFl) : Value := .slice x.A x.d.length x.c
def encRF (x : RFl) : List Value := [.string (bs x.n), x.v]
theorem BH : EncOf 2 encRF := ⟨fun _ => rfl, fun x v h => by unfold encRF RFl.v at h; simp at h; rcases h with rfl | rfl <;> rfl⟩
instance : Inhabited RFl := ⟨⟨[], none, 0, []⟩⟩
def FO (l : List RFl) : FS := l.map fun x => (x.n, x.d)
def Ei (l : List RFl) : Prop := l.Pairwise fun x y => Ie x.n y.n = true
def DH (l : List RFl) (n : List UInt8) : List RFl := l.filter fun x => decide (x.n ≠ n)
def NY (l : List RFl) (f : RFl) : List RFl := (l.takeWhile fun x => Ie x.n f.n) ++ f :: l.dropWhile fun x => Ie x.n f.n
def DO (l : List RFl) (f : RFl) : List RFl := NY (DH l f.n) f
theorem K7 (l : List RFl) : AI (FO l) = l.map (·.n) := by unfold AI FO; rw [List.map_map]; rfl
theorem DB {l : List RFl} (h : Ei l) : (AI (FO l)).Nodup := by
 rw [K7]
 exact List.Pairwise.map _ (fun x y hxy e => by rw [e, MJ] at hxy; cases hxy) h
theorem J9 {l : List RFl} {n : List UInt8} (h : Ei l) : Ei (DH l n) := h.filter _
theorem F9 {l : List RFl} {n : List UInt8} {x : RFl} : x ∈ DH l n ↔ x ∈ l ∧ x.n ≠ n := by unfold DH; rw [List.mem_filter, decide_eq_true_eq]
theorem IT {l : List RFl} {f x : RFl} : x ∈ NY l f ↔ x = f ∨ x ∈ l := by
  have e : l = (l.takeWhile fun x => Ie x.n f.n) ++ l.dropWhile fun x => Ie x.n f.n := (List.takeWhile_append_dropWhile ..).symm
  unfold NY
  rw [List.mem_append, List.mem_cons]
  constructor
  · rintro (h | rfl | h)
    · right; rw [e]; exact List.mem_append.2 (.inl h)
    · exact .inl rfl
    · right; rw [e]; exact List.mem_append.2 (.inr h)
  · rintro (rfl | h)
    · exact .inr (.inl rfl)
    · rw [e] at h
      rcases List.mem_append.1 h with h | h
      · exact .inl h
      · exact .inr (.inr h)
theorem Qn : ∀ {l : List RFl} {f : RFl}, Ei l → (∀ x, x ∈ l → x.n ≠ f.n) → Ei (NY l f)
  | [], f, _, _ => List.pairwise_singleton _ _
  | y :: l, f, h, hn => by
    have h1 := List.pairwise_cons.1 h
    unfold NY
    cases hy : Ie y.n f.n
    · rw [List.takeWhile_cons, List.dropWhile_cons, if_neg (by simp [hy]), if_neg (by simp [hy])]
      have hfy : Ie f.n y.n = true := by
        cases hf : Ie f.n y.n
        · exact absurd (Qm _ _ hy hf) (hn y (List.mem_cons_self ..))
        · rfl
      refine List.pairwise_cons.2 ⟨fun x hx => ?_, h⟩
      rcases List.mem_cons.1 hx with rfl | hx
      · exact hfy
      · exact Tk _ _ _ hfy (h1.1 x hx)
    · rw [List.takeWhile_cons, List.dropWhile_cons, if_pos hy, if_pos hy]
      have ih := Qn (f := f) h1.2 (fun x hx => hn x (List.mem_cons_of_mem _ hx))
      refine List.pairwise_cons.2 ⟨fun x hx => ?_, ih⟩
      rcases IT.1 (show x ∈ NY l f from hx) with rfl | hx
      · exact hy
      · exact h1.1 x hx
theorem NZ {l : List RFl} {f : RFl} (h : Ei l) : Ei (DO l f) := Qn (J9 h) fun x hx => (F9.1 hx).2
theorem Tl {l : List RFl} {g : FS} {n : List UInt8} (hl : Ei l) (h : (FO l).Perm g) : (FO (DH l n)).Perm (BS g n) := by
  have h1 := DB hl
  have hg : (AI g).Nodup := (CD h).nodup_iff.1 h1
  refine DZ (DB (J9 hl)) (B9 hg) fun p => ?_
  rw [Dh hg, ← h.mem_iff]
  unfold FO
  simp only [List.mem_map, F9]
  constructor
  · rintro ⟨x, ⟨hx, hn⟩, rfl⟩; exact ⟨⟨x, hx, rfl⟩, hn⟩
  · rintro ⟨⟨x, hx, rfl⟩, hn⟩; exact ⟨x, ⟨hx, hn⟩, rfl⟩
theorem Uv {l : List RFl} {g : FS} {f : RFl} (hl : Ei l) (h : (FO l).Perm g) : (FO (DO l f)).Perm (Bz g f.n f.d) := by
  have h1 := DB hl
  have hg : (AI g).Nodup := (CD h).nodup_iff.1 h1
  refine DZ (DB (NZ hl)) (Cf hg) fun p => ?_
  rw [EW hg, ← h.mem_iff]
  unfold FO
  simp only [List.mem_map]
  constructor
  · rintro ⟨x, hx, rfl⟩
    rcases IT.1 hx with rfl | hx
    · exact .inl rfl
    · have := F9.1 hx
      exact .inr ⟨⟨x, this.1, rfl⟩, this.2⟩
  · rintro (rfl | ⟨⟨x, hx, rfl⟩, hn⟩)
    · exact ⟨f, IT.2 (.inl rfl), rfl⟩
    · exact ⟨x, IT.2 (.inr (F9.2 ⟨hx, hn⟩)), rfl⟩
theorem N0 {l : List RFl} {f : RFl} {i : Nat} (hi : i ≤ l.length) (h1 : ∀ j x, j < i → l[j]? = some x → Ie x.n f.n = true) (h2 : ∀ x, l[i]? = some x → Ie x.n f.n = false) : NY l f = l.take i ++ [f] ++ l.drop i := by
  have e1 : (l.takeWhile fun x => Ie x.n f.n) = l.take i ∧ (l.dropWhile fun x => Ie x.n f.n) = l.drop i := by
    induction l generalizing i with
    | nil => simp
    | cons y l ih =>
      cases i with
      | zero =>
        have := h2 y rfl
        rw [List.takeWhile_cons, List.dropWhile_cons, if_neg (by simp [this]), if_neg (by simp [this])]
        exact ⟨rfl, rfl⟩
      | succ i =>
        have := h1 0 y (Nat.succ_pos _) rfl
        rw [List.takeWhile_cons, List.dropWhile_cons, if_pos this, if_pos this]
        obtain ⟨h3, h4⟩ := ih (i := i) (by simpa using hi) (fun j x hj hx => h1 (j + 1) x (by omega) (by simpa using hx)) (fun x hx => h2 x (by simpa using hx))
        rw [h3, h4]
        exact ⟨rfl, rfl⟩
  unfold NY
  rw [e1.1, e1.2]; simp
theorem Tm {l : List RFl} {n : List UInt8} {i : Nat} {x : RFl} (h : l[i]? = some x) : DH (l.take (i + 1)) n = if x.n = n then DH (l.take i) n else DH (l.take i) n ++ [x] := by
  rw [← F1 h]
  unfold DH
  rw [List.filter_append]
  by_cases hx : x.n = n
  · rw [if_pos hx]; simp [hx]
  · rw [if_neg hx]; simp [hx]
theorem GQ {l : List RFl} (hs : Ei l) (n : List UInt8) : (∃ (j : Nat) (x : RFl), l[j]? = some x ∧ x.n = n ∧ (∀ (k : Nat) (y : RFl), k < j → l[k]? = some y → y.n ≠ n) ∧ AL (FO l) n = some x.d) ∨ ((∀ x : RFl, x ∈ l → x.n ≠ n) ∧ AL (FO l) n = none) := by
  by_cases h : ∃ x, x ∈ l ∧ x.n = n
  · left
    obtain ⟨x, hx, hn⟩ := h
    obtain ⟨j, hj⟩ := List.getElem?_of_mem hx
    refine ⟨j, x, hj, hn, fun k y hk hy e => ?_, ?_⟩
    · have hlt := (List.getElem?_eq_some_iff.1 hj).1
      have h1 := List.pairwise_iff_getElem.1 hs k j (by omega) hlt hk
      have e1 := (List.getElem?_eq_some_iff.1 hy).2
      have e2 := (List.getElem?_eq_some_iff.1 hj).2
      rw [e1, e2, e, hn, MJ] at h1
      cases h1
    · exact (B3 (DB hs)).2 (List.mem_map.2 ⟨x, hx, by rw [hn]⟩)
  · right
    have h1 : ∀ x, x ∈ l → x.n ≠ n := fun x hx e => h ⟨x, hx, e⟩
    refine ⟨h1, ?_⟩
    rw [CF, K7]
    intro hm
    obtain ⟨x, hx, e⟩ := List.mem_map.1 hm
    exact h1 x hx e
end Go.Proofs.YtnknboibmifacaaGreat.Sep
namespace Go.Proofs.YtnknboibmifacaaGreat.Sep
open Go.RowKit
open Go.Proofs.YtnknboibmifacaaGreat.Mem (Bd Cj Chg AF)
theorem Aw : DI Tryz.prog 53 := Fl Tryz.underlying53 rfl (by kernel_rfl)
theorem FM : If Tryz.prog 103 5 := MQ Tryz.underlying103 rfl (by kernel_rfl)
theorem Ck : DI Tryz.prog 57 := Fl Tryz.underlying57 rfl (by kernel_rfl)
theorem An : If Tryz.prog 31 2 := MQ Tryz.underlying31 rfl (by kernel_rfl)
theorem Bk : L9 Tryz.prog 31 #[.int .u64 0, .int .i64 0] := Ig (z := .agg #[.int .u64 0, .int .i64 0]) (by kernel_rfl) rfl
theorem Dv : AZ Tryz.prog 59 6 6 := fun g off w => by kernel_rfl
theorem GR : AZ Tryz.prog 59 4 4 := fun g off w => by kernel_rfl
theorem GS : AZ Tryz.prog 59 5 5 := fun g off w => by kernel_rfl
theorem GT : AZ Tryz.prog 59 2 2 := fun g off w => by kernel_rfl
theorem Du : AZ Tryz.prog 59 3 3 := fun g off w => by kernel_rfl
theorem Ds : AZ Tryz.prog 59 0 0 := fun g off w => by kernel_rfl
theorem GU : AZ Tryz.prog 59 1 1 := fun g off w => by kernel_rfl
theorem Dq : AZ Tryz.prog 33 0 0 := fun g off w => by kernel_rfl
theorem Dr : AZ Tryz.prog 33 1 1 := fun g off w => by kernel_rfl
theorem Dt : AZ Tryz.prog 33 2 2 := fun g off w => by kernel_rfl
theorem Ew : AZ Tryz.prog 31 0 0 := fun g off w => by kernel_rfl
theorem Ex : AZ Tryz.prog 31 1 1 := fun g off w => by kernel_rfl
theorem Db : AZ Tryz.prog 35 2 3 := fun g off w => by kernel_rfl
theorem Dc : AZ Tryz.prog 35 1 1 := fun g off w => by kernel_rfl
theorem Dd : AZ Tryz.prog 35 3 4 := fun g off w => by kernel_rfl
theorem De : AZ Tryz.prog 35 0 0 := fun g off w => by kernel_rfl
theorem DC : SliceT Tryz.prog 57 103 5 := DY (z := .agg #[.int .i64 0, .string { data := #[] }, .string { data := #[] }, .slice none 0 0, .int .i64 0]) Tryz.underlying57 (by kernel_rfl) rfl rfl (by decide)
theorem GO : SliceT Tryz.prog 49 31 2 := DY (z := .agg #[.int .u64 0, .int .i64 0]) Tryz.underlying49 (by kernel_rfl) rfl rfl (by decide)
def flG : List ((Nat × Nat) × Nat) := [((59, 6), 6), ((59, 4), 4), ((59, 5), 5), ((59, 2), 2), ((59, 3), 3), ((59, 0), 0), ((59, 1), 1), ((33, 0), 0), ((33, 1), 1), ((33, 2), 2), ((31, 0), 0), ((31, 1), 1), ((35, 2), 3), ((35, 1), 1), ((35, 3), 4), ((35, 0), 0)] ++ flS
theorem Jz {P : Program} {b : List ((Nat × Nat) × Nat)} (hb : I2 P b) : ∀ {a : List ((Nat × Nat) × Nat)}, JU P a → I2 P (a ++ b)
  | [], _ => hb
  | ((s, f), k) :: r, ha => fun S g q h => by
    simp only [List.cons_append] at h
    unfold UY at h
    cases h1 : Nat.beq s S with
    | false => simp only [h1] at h; exact Jz hb ha.2 S g q h
    | true =>
      cases h2 : Nat.beq f g with
      | false => simp only [h1, h2] at h; exact Jz hb ha.2 S g q h
      | true =>
        simp only [h1, h2, Option.some.injEq] at h
        have e1 := Nat.eq_of_beq_eq_true h1
        have e2 := Nat.eq_of_beq_eq_true h2
        subst e1; subst e2; subst h
        exact ha.1
theorem Ag : I2 Tryz.prog flG := Jz As ⟨Dv, GR, GS, GT, Du, Ds, GU, Dq, Dr, Dt, Ew, Ex, Db, Dc, Dd, De, trivial⟩
end Go.Proofs.YtnknboibmifacaaGreat.Sep
namespace Go.Proofs.YtnknboibmifacaaGreat.Sep
open Go.RowKit
open Go.Proofs.YtnknboibmifacaaGreat.Mem (Bd Cj Chg AF)
section lit
variable {P : Program} {e t : TypeId} {l : List UInt8} {v : Value} {B : Nat → Prop} {w0 w w' : World} {os : List Ass} {n : Nat} {env : List (Nat × Value)} {Q : Exit → Act → World → Prop} {o : Oper} {act : Act}
theorem Hl {T T' : TypeId} {x y : Operand} {l m : List UInt8} {c : Bool} (hc : (l != m) = c) (ho : o.op = .binOp .neq T x y T') (hx : evs env x = some (.string (bs l))) (hy : evs env y = some (.string (bs m))) (hF : Fr n act env) : (execOp act.eval o).run P w = .ok (.value (.bool c)) w := by
 unfold execOp
 subst hc
 simp only [ho, hF.evs hx, hF.evs hy]
 simp [eqGuard, binOp, Op.stringOp, Mf, bne]
end lit
theorem LT {A : Option Addr} {n c j : Nat} : Ci 1 (.slice A n c) 0 j = .slice A j c := by
  show Value.slice (if c = 0 then A else A.map (·.add (0 * 1))) (j - 0) (c - 0) = _
  cases A <;> simp [Addr.add]
end Go.Proofs.YtnknboibmifacaaGreat.Sep
namespace Go.Proofs.YtnknboibmifacaaGreat.Sep
open Go.RowKit
open Go.Proofs.YtnknboibmifacaaGreat.Mem (Bd Cj Chg AF)
def Fh (X : Ass) (v : Value) (l : List RFl) : Prop := ∀ rs w, X rs → RowsOf w rs → Di w 2 v l.length (flat encRF l)
theorem Hp.rdFs {B : Nat → Prop} {w0 w : World} {os : List Ass} {X : Ass} {v : Value} {l : List RFl} (h : Hp B w0 w os) (i : Nat) (hi : os[i]? = some X) (hu : Fh X v l) : Di w 2 v l.length (flat encRF l) := by
 obtain ⟨rs, h1, h2⟩ := h.thing i hi
 exact hu rs w h1 h2
theorem Cq {v : Value} {l : List RFl} : Fh (Ao 52 2 encRF v l) v l := fun _ _ h1 h2 => h1.all BH h2
theorem C6 {X : Ass} {v : Value} {l : List RFl} {n : List UInt8} {j : Nat} {y : RFl} (hX : Fh X v l) (hl : l.length ≤ 1000000) (hj : l[j]? = some y) (hy : y.n = n) (hlt : ∀ (k : Nat) (y : RFl), k < j → l[k]? = some y → y.n ≠ n) : AS Tryz.prog 61 #[v, .string (bs n)] [X] (fun (_ : Unit) => .int .i64 (j : Int)) (fun (_ : Unit) => [X]) := by
  have hjl := (List.getElem?_eq_some_iff.1 hj).1
  refine A6 (args := [v, .string (bs n)]) 20 Tryz.func61 rfl rfl rfl ?_; intro w rs
  refine Ad ?_
  refine Af Ag rfl ?_
  refine Ab (Aq (Ad ?_))
  refine Af Ag rfl ?_
  refine Ab (AX ?_)
  refine CE (α := Nat) (fun i => [(0, v), (1, .string (bs n)), (4, .int .i64 0), (5, .int .i64 ((i : Nat) : Int))]) (fun i => [X]) (fun i => i ≤ j) (fun i => l.length - i) 0 (by omega) ⟨rfl, rfl, rfl, rfl, trivial⟩ rfl ?_
  rintro i hI
  refine Bo.at_ (env' := [(0, v), (1, .string (bs n)), (4, .int .i64 0), (5, .int .i64 ((i : Nat) : Int))]) (rs' := [X]) ⟨rfl, rfl, rfl, rfl, trivial⟩ rfl ?_
  refine Aq ?_
  rcases Nat.lt_or_ge i j with hi | hi
  · skip
    obtain ⟨x, hx⟩ : ∃ x, l[i]? = some x := ⟨_, List.getElem?_eq_getElem (by omega)⟩
    refine Ad ?_
    refine Af Ag rfl ?_
    refine Ac rfl (.int .i64 (l.length : Int)) (fun b w hb hH => AQ ((hH.rdFs 0 rfl hX)) Tryz.underlying53 rfl rfl hb) ?_
    refine Ac rfl (.bool true) (fun b w hb hH => Bh rfl rfl rfl (Bl (by omega)) hb) ?_
    refine Ab (AD rfl (Ax (AG (Aq (AX (Ad ?_))))))
    refine Af Ag rfl ?_
    refine Ac rfl (Cc v (i * 2)) (fun b w hb hH => BA BH ((hH.rdFs 0 rfl hX)) Ar (j := i) hx rfl rfl rfl hb) ?_
    refine Ac rfl (Cc v (i * 2 + 0)) (fun b w hb hH => Lf BH (by decide) ((hH.rdFs 0 rfl hX)) (j := i) hx Bv rfl rfl hb) ?_
    refine Ac rfl (.string (bs x.n)) (fun b w hb hH => Bp BH (by decide) ((hH.rdFs 0 rfl hX)) (j := i) hx AR (off := 0) rfl rfl rfl hb) ?_
    refine Af Ag rfl ?_
    refine Ac rfl (.bool false) (fun b w hb hH => I3 rfl rfl rfl (by simpa using hlt i x hi hx) hb) ?_
    refine Ab (Au rfl (Ax (BJ (AG (BI ?_)))))
    refine Af Ag rfl ?_
    refine Ac rfl (.int .i64 ((i + 1 : Nat) : Int)) (fun b w hb hH => AK rfl rfl rfl rfl (by rw [IntWalk.i64_in _ (by omega)]; omega) hb) ?_
    refine Af Ag rfl ?_
    refine AP ?_
    exact Cr (i + 1) 0 hi (show l.length - (i + 1) < l.length - i by omega) ⟨rfl, rfl, rfl, rfl, trivial⟩ rfl
  · skip
    obtain rfl : i = j := by omega
    refine Ad ?_
    refine Af Ag rfl ?_
    refine Ac rfl (.int .i64 (l.length : Int)) (fun b w hb hH => AQ ((hH.rdFs 0 rfl hX)) Tryz.underlying53 rfl rfl hb) ?_
    refine Ac rfl (.bool true) (fun b w hb hH => Bh rfl rfl rfl (Bl (by omega)) hb) ?_
    refine Ab (AD rfl (Ax (AG (Aq (AX (Ad ?_))))))
    refine Af Ag rfl ?_
    refine Ac rfl (Cc v (i * 2)) (fun b w hb hH => BA BH ((hH.rdFs 0 rfl hX)) Ar (j := i) hj rfl rfl rfl hb) ?_
    refine Ac rfl (Cc v (i * 2 + 0)) (fun b w hb hH => Lf BH (by decide) ((hH.rdFs 0 rfl hX)) (j := i) hj Bv rfl rfl hb) ?_
    refine Ac rfl (.string (bs y.n)) (fun b w hb hH => Bp BH (by decide) ((hH.rdFs 0 rfl hX)) (j := i) hj AR (off := 0) rfl rfl rfl hb) ?_
    refine Af Ag rfl ?_
    refine Ac rfl (.bool true) (fun b w hb hH => I3 rfl rfl rfl (by rw [hy]; simp) hb) ?_
    refine Ab (AD rfl (Ad ?_))
    refine Af Ag rfl ?_
    refine Ab (Az (Bm (CO (CO (Bm (CO ?_))))))
    exact Ay (.tmp rfl) (fun w h => AB () rfl [0] rfl h Cz) rfl
theorem Dw {X : Ass} {v : Value} {l : List RFl} {n : List UInt8} (hX : Fh X v l) (hl : l.length ≤ 1000000) (hn : ∀ x : RFl, x ∈ l → x.n ≠ n) : AS Tryz.prog 61 #[v, .string (bs n)] [X] (fun (_ : Unit) => .int .i64 (-1)) (fun (_ : Unit) => [X]) := by
  refine A6 (args := [v, .string (bs n)]) 20 Tryz.func61 rfl rfl rfl ?_; intro w rs
  refine Ad ?_
  refine Af Ag rfl ?_
  refine Ab (Aq (Ad ?_))
  refine Af Ag rfl ?_
  refine Ab (AX ?_)
  refine CE (α := Nat) (fun i => [(0, v), (1, .string (bs n)), (4, .int .i64 0), (5, .int .i64 ((i : Nat) : Int))]) (fun i => [X]) (fun i => i ≤ l.length) (fun i => l.length - i) 0 (by omega) ⟨rfl, rfl, rfl, rfl, trivial⟩ rfl ?_
  rintro i hI
  refine Bo.at_ (env' := [(0, v), (1, .string (bs n)), (4, .int .i64 0), (5, .int .i64 ((i : Nat) : Int))]) (rs' := [X]) ⟨rfl, rfl, rfl, rfl, trivial⟩ rfl ?_
  refine Aq ?_
  rcases Nat.lt_or_ge i l.length with hi | hi
  · skip
    obtain ⟨x, hx⟩ : ∃ x, l[i]? = some x := ⟨_, List.getElem?_eq_getElem (by omega)⟩
    refine Ad ?_
    refine Af Ag rfl ?_
    refine Ac rfl (.int .i64 (l.length : Int)) (fun b w hb hH => AQ ((hH.rdFs 0 rfl hX)) Tryz.underlying53 rfl rfl hb) ?_
    refine Ac rfl (.bool true) (fun b w hb hH => Bh rfl rfl rfl (Bl (by omega)) hb) ?_
    refine Ab (AD rfl (Ax (AG (Aq (AX (Ad ?_))))))
    refine Af Ag rfl ?_
    refine Ac rfl (Cc v (i * 2)) (fun b w hb hH => BA BH ((hH.rdFs 0 rfl hX)) Ar (j := i) hx rfl rfl rfl hb) ?_
    refine Ac rfl (Cc v (i * 2 + 0)) (fun b w hb hH => Lf BH (by decide) ((hH.rdFs 0 rfl hX)) (j := i) hx Bv rfl rfl hb) ?_
    refine Ac rfl (.string (bs x.n)) (fun b w hb hH => Bp BH (by decide) ((hH.rdFs 0 rfl hX)) (j := i) hx AR (off := 0) rfl rfl rfl hb) ?_
    refine Af Ag rfl ?_
    refine Ac rfl (.bool false) (fun b w hb hH => I3 rfl rfl rfl (by simpa using hn x (List.mem_of_getElem? hx)) hb) ?_
    refine Ab (Au rfl (Ax (BJ (AG (BI ?_)))))
    refine Af Ag rfl ?_
    refine Ac rfl (.int .i64 ((i + 1 : Nat) : Int)) (fun b w hb hH => AK rfl rfl rfl rfl (by rw [IntWalk.i64_in _ (by omega)]; omega) hb) ?_
    refine Af Ag rfl ?_
    refine AP ?_
    exact Cr (i + 1) 0 hi (show l.length - (i + 1) < l.length - i by omega) ⟨rfl, rfl, rfl, rfl, trivial⟩ rfl
  · skip
    refine Ad ?_
    refine Af Ag rfl ?_
    refine Ac rfl (.int .i64 (l.length : Int)) (fun b w hb hH => AQ ((hH.rdFs 0 rfl hX)) Tryz.underlying53 rfl rfl hb) ?_
    refine Ac rfl (.bool false) (fun b w hb hH => Bh rfl rfl rfl (Bu (by omega)) hb) ?_
    refine Ab (Au rfl (Cu (EO (EO (Bc (AG (Ad ?_)))))))
    refine Af Ag rfl ?_
    refine Ab (Az ?_)
    exact Ay (.tmp rfl) (fun w h => AB () rfl [0] rfl h Cz) rfl
theorem IU {X : Ass} {v : Value} {l m : List RFl} {n : List UInt8} (hX : Fh X v l) (hl : l.length ≤ 1000000) (hm : DH l n = m) : AS Tryz.prog 83 #[v, .string (bs n)] [X] (fun (r : Value) => r) (fun (r : Value) => [X, Ao 52 2 encRF r m]) := by
  refine A6 (args := [v, .string (bs n)]) 28 Tryz.func83 rfl rfl rfl ?_; intro w rs
  refine Ad ?_
  refine Af Ag rfl ?_
  refine Ab (Ad ?_)
  refine Af Ag rfl ?_
  refine Ab (Aq (Ad ?_))
  refine Af Ag rfl ?_
  refine Ab (AX ?_)
  refine BZ 52 2 encRF ?_
  refine CE (α := Nat × Value) (fun ⟨i, ov⟩ => [(0, v), (1, .string (bs n)), (4, .slice none 0 0), (5, ov), (6, .int .i64 ((i : Nat) : Int))]) (fun ⟨i, ov⟩ => [Ao 52 2 encRF ov (DH (l.take i) n), X]) (fun ⟨i, ov⟩ => i ≤ l.length) (fun ⟨i, ov⟩ => l.length - i) (0, .slice none 0 0) (Nat.zero_le _) ⟨rfl, rfl, rfl, rfl, rfl, trivial⟩ rfl ?_
  rintro ⟨i, ov⟩ hI
  refine Bo.at_ (env' := [(0, v), (1, .string (bs n)), (4, .slice none 0 0), (5, ov), (6, .int .i64 ((i : Nat) : Int))]) (rs' := [Ao 52 2 encRF ov (DH (l.take i) n), X]) ⟨rfl, rfl, rfl, rfl, rfl, trivial⟩ rfl ?_
  refine Aq ?_
  rcases Nat.lt_or_ge i l.length with hi | hi
  · skip
    obtain ⟨x, hx⟩ : ∃ x, l[i]? = some x := ⟨_, List.getElem?_eq_getElem hi⟩
    have hnx := Tm (n := n) hx
    have hol : (DH (l.take i) n).length ≤ 1000000 := by have h1 := List.length_filter_le (fun x : RFl => decide (x.n ≠ n)) (l.take i); rw [List.length_take] at h1; unfold DH; omega
    refine Ad ?_
    refine Af Ag rfl ?_
    refine Ac rfl (.int .i64 (l.length : Int)) (fun b w hb hH => AQ ((hH.rdFs 1 rfl hX)) Tryz.underlying53 rfl rfl hb) ?_
    refine Ac rfl (.bool true) (fun b w hb hH => Bh rfl rfl rfl (Bl (by omega)) hb) ?_
    refine Ab (AD rfl (Ax (AG (Aq (AX ?_)))))
    rcases Classical.em (x.n = n) with he | he
    · skip
      rw [if_pos he] at hnx
      rw [← hnx]
      refine Ad ?_
      refine Af Ag rfl ?_
      refine Ac rfl (Cc v (i * 2)) (fun b w hb hH => BA BH ((hH.rdFs 1 rfl hX)) Ar (j := i) hx rfl rfl rfl hb) ?_
      refine Ac rfl (Cc v (i * 2 + 0)) (fun b w hb hH => Lf BH (by decide) ((hH.rdFs 1 rfl hX)) (j := i) hx Bv rfl rfl hb) ?_
      refine Ac rfl (.string (bs x.n)) (fun b w hb hH => Bp BH (by decide) ((hH.rdFs 1 rfl hX)) (j := i) hx AR (off := 0) rfl rfl rfl hb) ?_
      refine Af Ag rfl ?_
      refine Ac rfl (.bool false) (fun b w hb hH => Hl (by simpa using he) rfl rfl rfl hb) ?_
      refine Ab (Au rfl (Ax (BJ (AG (BI ?_)))))
      refine Af Ag rfl ?_
      refine Ac rfl (.int .i64 ((i + 1 : Nat) : Int)) (fun b w hb hH => AK rfl rfl rfl rfl (by rw [IntWalk.i64_in _ (by omega)]; omega) hb) ?_
      refine Af Ag rfl ?_
      refine AP ?_
      exact Cr (i + 1, ov) 0 hi (show l.length - (i + 1) < l.length - i by omega) ⟨rfl, rfl, rfl, rfl, rfl, trivial⟩ rfl
    · skip
      rw [if_neg he] at hnx
      refine Ad ?_
      refine Af Ag rfl ?_
      refine Ac rfl (Cc v (i * 2)) (fun b w hb hH => BA BH ((hH.rdFs 1 rfl hX)) Ar (j := i) hx rfl rfl rfl hb) ?_
      refine Ac rfl (Cc v (i * 2 + 0)) (fun b w hb hH => Lf BH (by decide) ((hH.rdFs 1 rfl hX)) (j := i) hx Bv rfl rfl hb) ?_
      refine Ac rfl (.string (bs x.n)) (fun b w hb hH => Bp BH (by decide) ((hH.rdFs 1 rfl hX)) (j := i) hx AR (off := 0) rfl rfl rfl hb) ?_
      refine Af Ag rfl ?_
      refine Ac rfl (.bool true) (fun b w hb hH => Hl (by simpa using he) rfl rfl rfl hb) ?_
      refine Ab (AD rfl (BI ?_))
      refine Af Ag rfl ?_
      refine Ac rfl (Cc v (i * 2)) (fun b w hb hH => BA BH ((hH.rdFs 1 rfl hX)) Ar (j := i) hx rfl rfl rfl hb) ?_
      refine Ac rfl (.agg (encRF x).toArray) (fun b w hb hH => Oj BH (by decide) ((hH.rdFs 1 rfl hX)) (j := i) hx DV rfl rfl hb) ?_
      refine Ai (X := Value) (val := fun v : Value => v) (post := fun ub => [Ao 52 2 encRF ub ([x]), Ao 52 2 encRF ov (DH (l.take i) n), X]) rfl (by refine Ec (e := 52) (t := 53) (k := 2) (enc := encRF) (x := .tmp 24) (c := .agg (encRF x).toArray) ?_ ?_ ?_ x ?_ ?_ ?_; exact Ar; exact (by decide); exact BH; exact rfl; exact rfl; exact rfl) ?_; rintro ub
      refine Ai (post := fun ov2 => [Ao 52 2 encRF ub ([x]), Ao 52 2 encRF ov2 (DH (l.take (i + 1)) n), X]) rfl (DK 1 Ar BH rfl ([x]) (fun w hH => hH.vec 0 rfl BH) (by simp only [List.length_cons, List.length_nil]; omega) rfl rfl rfl hnx.symm) ?_; rintro ov2
      refine Af Ag rfl ?_
      refine AP (BJ (AG ?_))
      refine Bo.leave [0] rfl rfl ?_
      refine BI ?_
      refine Af Ag rfl ?_
      refine Ac rfl (.int .i64 ((i + 1 : Nat) : Int)) (fun b w hb hH => AK rfl rfl rfl rfl (by rw [IntWalk.i64_in _ (by omega)]; omega) hb) ?_
      refine Af Ag rfl ?_
      refine AP ?_
      exact Cr (i + 1, ov2) 0 hi (show l.length - (i + 1) < l.length - i by omega) ⟨rfl, rfl, rfl, rfl, rfl, trivial⟩ rfl
  · skip
    have ho : DH (l.take i) n = m := by rw [List.take_of_length_le hi]; exact hm
    rw [ho]
    refine Ad ?_
    refine Af Ag rfl ?_
    refine Ac rfl (.int .i64 (l.length : Int)) (fun b w hb hH => AQ ((hH.rdFs 1 rfl hX)) Tryz.underlying53 rfl rfl hb) ?_
    refine Ac rfl (.bool false) (fun b w hb hH => Bh rfl rfl rfl (Bu (by omega)) hb) ?_
    refine Ab (Au rfl (Cu (EO (EO (Bc (AG (Ad ?_)))))))
    refine Af Ag rfl ?_
    refine Ab (Az ?_)
    exact Ay (.tmp rfl) (fun w h => AB ov rfl [1, 0] rfl h Cz) rfl
def GV (l : List RFl) (n d : List UInt8) (fv rv : Value) : Ass := fun rs => ∃ A c, fv = .slice A d.length c ∧ Ao 52 2 encRF rv (DO l ⟨n, A, c, d⟩) rs
theorem LU {X : Ass} {l : List RFl} {n d : List UInt8} {A : Option Addr} {c : Nat} {rv : Value} : ∀ rs, Al [X, Ao 5 1 encB (.slice A d.length c) d, Ao 52 2 encRF rv (DO l ⟨n, A, c, d⟩)] rs → ∃ z, rs.Perm z ∧ Al [X, Ao 5 1 encB (.slice A d.length c) d, GV l n d (.slice A d.length c) rv] z := fun rs h => by
 obtain ⟨a, _, rfl, h1, b, _, rfl, h2, h3⟩ := h
 exact ⟨_, .refl _, a, _, rfl, h1, b, _, rfl, h2, Al.one ⟨A, c, rfl, Al.one' h3⟩⟩
theorem Rx (m : List RFl) (f : RFl) (i : Nat) : (∃ x, m[i]? = some x ∧ Ie x.n f.n = true) ∨ (∃ x, m[i]? = some x ∧ Ie x.n f.n = false) ∨ m.length ≤ i := by
  rcases Nat.lt_or_ge i m.length with h | h
  · obtain ⟨x, hx⟩ : ∃ x, m[i]? = some x := ⟨_, List.getElem?_eq_getElem h⟩
    cases hl : Ie x.n f.n
    · exact .inr (.inl ⟨x, hx, hl⟩)
    · exact .inl ⟨x, hx, hl⟩
  · exact .inr (.inr h)
theorem MK {X : Ass} {v fv : Value} {l : List RFl} {n d : List UInt8} (hX : Fh X v l) (hl : l.length ≤ 1000000) : AS Tryz.prog 82 #[v, .agg #[.string (bs n), fv]] [X, Ao 5 1 encB fv d] (fun (rv : Value) => rv) (fun (rv : Value) => [X, Ao 5 1 encB fv d, GV l n d fv rv]) := by
  refine A6 (args := [v, .agg #[.string (bs n), fv]]) 39 Tryz.func82 rfl rfl rfl ?_; intro w rs
  refine Bo.fact 1 rfl (fun _ h => Ao.is h) ?_; rintro ⟨A, c, rfl⟩
  refine Ad ?_
  refine Af Ag rfl ?_
  refine Ai (post := fun g3 => [cell g3 52 #[.string (bs n), .slice A d.length c], X, Ao 5 1 encB (.slice A d.length c) d]) rfl (CZ (cs := #[.string (bs n), .slice A d.length c]) rfl rfl rfl) ?_; rintro g3
  refine Af Ag rfl ?_
  refine Ab (Ad ?_)
  refine Af Ag rfl ?_
  refine Ac rfl (.string (bs n)) (fun b w hb hH => Bg rfl rfl (Bt AR rfl) (hH.row 0 rfl) hb) ?_
  refine Ai rfl (Am (os' := fun v1 => [Ao 52 2 encRF v1 (DH l n), cell g3 52 #[.string (bs n), .slice A d.length c], X, Ao 5 1 encB (.slice A d.length c) d]) [1] 0 (Ah Tryz.func83 (by kernel_rfl) rfl) (IU hX hl rfl) rfl rfl rfl (fun _ => rfl) rfl rfl rfl) ?_; rintro v1
  obtain ⟨m, hm⟩ : ∃ m, DH l n = m := ⟨_, rfl⟩
  have hml : m.length ≤ 1000000 := by rw [← hm]; exact Nat.le_trans (List.length_filter_le ..) hl
  rw [hm]
  refine Af Ag rfl ?_
  refine Ab (Ad ?_)
  refine Af Ag rfl ?_
  refine Ab (Aq (AX ?_))
  refine CE (α := Nat) (fun i => [(3, .pointer (some ⟨g3, 0, none⟩)), (4, .slice none 0 0), (0, v1), (5, .int .i64 ((i : Nat) : Int))]) (fun i => [Ao 52 2 encRF v1 m, cell g3 52 #[.string (bs n), .slice A d.length c], X, Ao 5 1 encB (.slice A d.length c) d]) (fun i => i ≤ m.length ∧ ∀ (j : Nat) (x : RFl), j < i → m[j]? = some x → Ie x.n n = true) (fun i => m.length - i) 0 ⟨Nat.zero_le _, fun j x h => absurd h (Nat.not_lt_zero j)⟩ ⟨rfl, rfl, rfl, rfl, trivial⟩ rfl ?_
  rintro i hI
  refine Bo.at_ (env' := [(3, .pointer (some ⟨g3, 0, none⟩)), (4, .slice none 0 0), (0, v1), (5, .int .i64 ((i : Nat) : Int))]) (rs' := [Ao 52 2 encRF v1 m, cell g3 52 #[.string (bs n), .slice A d.length c], X, Ao 5 1 encB (.slice A d.length c) d]) ⟨rfl, rfl, rfl, rfl, trivial⟩ rfl ?_
  have hI1 := hI.1
  have hI2 := hI.2
  refine Aq ?_
  rcases Rx m (⟨n, A, c, d⟩ : RFl) i with ⟨x, hx, hlt⟩ | ⟨x, hx, hlt⟩ | hi
  · skip
    have hi := (List.getElem?_eq_some_iff.1 hx).1
    refine Aq ?_
    refine BM 14 0 [⟨.quiet, [], fun _ => .int .i64 ((i : Nat) : Int), []⟩, ⟨.quiet, [], fun _ => v1, []⟩, ⟨.quiet, [], fun _ => .int .i64 (m.length : Int), [1]⟩, ⟨.quiet, [], fun _ => .bool true, [0, 2]⟩, ⟨.quiet, [], fun _ => .bool true, [3]⟩, ⟨.quiet, [], fun _ => v1, [4]⟩, ⟨.quiet, [], fun _ => .int .i64 ((i : Nat) : Int), [4]⟩, ⟨.quiet, [], fun _ => Cc v1 (i * 2), [5, 6, 4]⟩, ⟨.quiet, [], fun _ => Cc v1 (i * 2 + 0), [7, 4]⟩, ⟨.quiet, [], fun _ => .string (bs x.n), [8, 4]⟩, ⟨.quiet, [], fun _ => .pointer (some ⟨g3, 0, none⟩), [4]⟩, ⟨.quiet, [], fun _ => .string (bs n), [10, 4]⟩, ⟨.quiet, [], fun _ => .bool true, [9, 11, 4]⟩, ⟨.quiet, [], fun _ => .bool true, [4, 12]⟩] [(3, .pointer (some ⟨g3, 0, none⟩)), (4, .slice none 0 0), (0, v1), (5, .int .i64 ((i : Nat) : Int))] (fun _ => [Ao 52 2 encRF v1 m, cell g3 52 #[.string (bs n), .slice A d.length c], X, Ao 5 1 encB (.slice A d.length c) d]) (by kernel_rfl) (by kernel_rfl) ⟨rfl, rfl, rfl, rfl, trivial⟩ rfl ?_ ?_
    · skip
      refine Aa (by exact ⟨rfl, fun b w hH hb => Ae Ag rfl hb⟩) ?_
      refine Aa (by exact ⟨rfl, fun b w hH hb => Ae Ag rfl hb⟩) ?_
      refine Aa (by exact ⟨rfl, fun b w hH hb => AQ ((hH.rdFs 0 rfl Cq)) Tryz.underlying53 rfl rfl hb⟩) ?_
      refine Aa (by exact ⟨rfl, fun b w hH hb => Bh rfl rfl rfl (Bl (by omega)) hb⟩) ?_
      refine Aa (by exact ⟨rfl, fun b w hH hb => Ae Ag rfl hb⟩) ?_
      refine Aa (by exact ⟨rfl, fun b w hH hb => Ae Ag rfl hb⟩) ?_
      refine Aa (by exact ⟨rfl, fun b w hH hb => Ae Ag rfl hb⟩) ?_
      refine Aa (by exact ⟨rfl, fun b w hH hb => BA BH ((hH.rdFs 0 rfl Cq)) Ar (j := i) hx rfl rfl rfl hb⟩) ?_
      refine Aa (by exact ⟨rfl, fun b w hH hb => Lf BH (by decide) ((hH.rdFs 0 rfl Cq)) (j := i) hx Bv rfl rfl hb⟩) ?_
      refine Aa (by exact ⟨rfl, fun b w hH hb => Bp BH (by decide) ((hH.rdFs 0 rfl Cq)) (j := i) hx AR (off := 0) rfl rfl rfl hb⟩) ?_
      refine Aa (by exact ⟨rfl, fun b w hH hb => Ae Ag rfl hb⟩) ?_
      refine Aa (by exact ⟨rfl, fun b w hH hb => Bg rfl rfl (Bt AR rfl) (hH.row 1 rfl) hb⟩) ?_
      refine Aa (by exact ⟨rfl, fun b w hH hb => (Lr rfl rfl rfl hb).trans (by rw [show Op.bytesLess x.n n = true from hlt])⟩) ?_
      refine Aa (by exact ⟨rfl, fun b w hH hb => Ae Ag rfl hb⟩) ?_
      exact B7
    refine Ch.keep (env' := [(3, .pointer (some ⟨g3, 0, none⟩)), (4, .slice none 0 0), (0, v1), (5, .int .i64 ((i : Nat) : Int)), (11, .int .i64 ((i : Nat) : Int)), (12, v1), (13, .int .i64 (m.length : Int)), (14, .bool true), (15, .bool true), (16, v1), (17, .int .i64 ((i : Nat) : Int)), (18, Cc v1 (i * 2)), (19, Cc v1 (i * 2 + 0)), (20, .string (bs x.n)), (21, .pointer (some ⟨g3, 0, none⟩)), (22, .string (bs n)), (23, .bool true), (24, .bool true)]) ⟨rfl, rfl, rfl, rfl, rfl, rfl, rfl, rfl, rfl, rfl, rfl, rfl, rfl, rfl, rfl, rfl, rfl, rfl, trivial⟩ ?_
    refine AP (AG (AD rfl (Ax (AG (AX (BI ?_))))))
    refine Af Ag rfl ?_
    refine Ac rfl (.int .i64 ((i + 1 : Nat) : Int)) (fun b w hb hH => AK rfl rfl rfl rfl (by rw [IntWalk.i64_in _ (by omega)]; omega) hb) ?_
    refine Af Ag rfl ?_
    refine AP (BJ ?_)
    exact Cr (i + 1) 0 ⟨hi, fun j y hj hy => by rcases Nat.lt_or_ge j i with h | h; exact hI2 j y h hy; (obtain rfl : j = i := by omega); rw [hx] at hy; cases hy; exact hlt⟩ (show m.length - (i + 1) < m.length - i by omega) ⟨rfl, rfl, rfl, rfl, trivial⟩ rfl
  · skip
    have hfin : m.take i ++ [(⟨n, A, c, d⟩ : RFl)] ++ m.drop i = DO l (⟨n, A, c, d⟩ : RFl) := by unfold DO; rw [show DH l (⟨n, A, c, d⟩ : RFl).n = m from hm]; exact (N0 (f := (⟨n, A, c, d⟩ : RFl)) hI1 hI2 (fun y hy => by rw [hx] at hy; cases hy; exact hlt)).symm
    refine Aq ?_
    refine BM 14 0 [⟨.quiet, [], fun _ => .int .i64 ((i : Nat) : Int), []⟩, ⟨.quiet, [], fun _ => v1, []⟩, ⟨.quiet, [], fun _ => .int .i64 (m.length : Int), [1]⟩, ⟨.quiet, [], fun _ => .bool true, [0, 2]⟩, ⟨.quiet, [], fun _ => .bool true, [3]⟩, ⟨.quiet, [], fun _ => v1, [4]⟩, ⟨.quiet, [], fun _ => .int .i64 ((i : Nat) : Int), [4]⟩, ⟨.quiet, [], fun _ => Cc v1 (i * 2), [5, 6, 4]⟩, ⟨.quiet, [], fun _ => Cc v1 (i * 2 + 0), [7, 4]⟩, ⟨.quiet, [], fun _ => .string (bs x.n), [8, 4]⟩, ⟨.quiet, [], fun _ => .pointer (some ⟨g3, 0, none⟩), [4]⟩, ⟨.quiet, [], fun _ => .string (bs n), [10, 4]⟩, ⟨.quiet, [], fun _ => .bool false, [9, 11, 4]⟩, ⟨.quiet, [], fun _ => .bool false, [4, 12]⟩] [(3, .pointer (some ⟨g3, 0, none⟩)), (4, .slice none 0 0), (0, v1), (5, .int .i64 ((i : Nat) : Int))] (fun _ => [Ao 52 2 encRF v1 m, cell g3 52 #[.string (bs n), .slice A d.length c], X, Ao 5 1 encB (.slice A d.length c) d]) (by kernel_rfl) (by kernel_rfl) ⟨rfl, rfl, rfl, rfl, trivial⟩ rfl ?_ ?_
    · skip
      refine Aa (by exact ⟨rfl, fun b w hH hb => Ae Ag rfl hb⟩) ?_
      refine Aa (by exact ⟨rfl, fun b w hH hb => Ae Ag rfl hb⟩) ?_
      refine Aa (by exact ⟨rfl, fun b w hH hb => AQ ((hH.rdFs 0 rfl Cq)) Tryz.underlying53 rfl rfl hb⟩) ?_
      refine Aa (by exact ⟨rfl, fun b w hH hb => Bh rfl rfl rfl (Bl (by have := (List.getElem?_eq_some_iff.1 hx).1; omega)) hb⟩) ?_
      refine Aa (by exact ⟨rfl, fun b w hH hb => Ae Ag rfl hb⟩) ?_
      refine Aa (by exact ⟨rfl, fun b w hH hb => Ae Ag rfl hb⟩) ?_
      refine Aa (by exact ⟨rfl, fun b w hH hb => Ae Ag rfl hb⟩) ?_
      refine Aa (by exact ⟨rfl, fun b w hH hb => BA BH ((hH.rdFs 0 rfl Cq)) Ar (j := i) hx rfl rfl rfl hb⟩) ?_
      refine Aa (by exact ⟨rfl, fun b w hH hb => Lf BH (by decide) ((hH.rdFs 0 rfl Cq)) (j := i) hx Bv rfl rfl hb⟩) ?_
      refine Aa (by exact ⟨rfl, fun b w hH hb => Bp BH (by decide) ((hH.rdFs 0 rfl Cq)) (j := i) hx AR (off := 0) rfl rfl rfl hb⟩) ?_
      refine Aa (by exact ⟨rfl, fun b w hH hb => Ae Ag rfl hb⟩) ?_
      refine Aa (by exact ⟨rfl, fun b w hH hb => Bg rfl rfl (Bt AR rfl) (hH.row 1 rfl) hb⟩) ?_
      refine Aa (by exact ⟨rfl, fun b w hH hb => (Lr rfl rfl rfl hb).trans (by rw [show Op.bytesLess x.n n = false from hlt])⟩) ?_
      refine Aa (by exact ⟨rfl, fun b w hH hb => Ae Ag rfl hb⟩) ?_
      exact B7
    refine Ch.keep (env' := [(3, .pointer (some ⟨g3, 0, none⟩)), (4, .slice none 0 0), (0, v1), (5, .int .i64 ((i : Nat) : Int)), (11, .int .i64 ((i : Nat) : Int)), (12, v1), (13, .int .i64 (m.length : Int)), (14, .bool true), (15, .bool true), (16, v1), (17, .int .i64 ((i : Nat) : Int)), (18, Cc v1 (i * 2)), (19, Cc v1 (i * 2 + 0)), (20, .string (bs x.n)), (21, .pointer (some ⟨g3, 0, none⟩)), (22, .string (bs n)), (23, .bool false), (24, .bool false)]) ⟨rfl, rfl, rfl, rfl, rfl, rfl, rfl, rfl, rfl, rfl, rfl, rfl, rfl, rfl, rfl, rfl, rfl, rfl, trivial⟩ ?_
    refine AP (AG (Au rfl (Cu (EO (EO (Bc (AG (Ad ?_))))))))
    refine Af Ag rfl ?_
    refine Ab ?_
    refine BZ 52 2 encRF ?_
    refine Aq ?_
    refine EL 1 rfl ?_
    refine BM 12 4 [⟨.quiet, [none, none, none, none], fun _ => .slice none 0 0, []⟩, ⟨.quiet, [none, none, none, none], fun _ => v1, []⟩, ⟨.quiet, [none, none, none, none], fun _ => .int .i64 ((i : Nat) : Int), []⟩, ⟨.quiet, [none, none, none, none], fun _ => Ci 2 v1 0 i, [1, 2]⟩, ⟨.act 0, [some false, none, some false, some false], fun _ => undef, [0, 3]⟩, ⟨.quiet, [none, none, none, none], fun _ => .agg #[.string (bs n), .slice A d.length c], []⟩, ⟨.act 1, [none, some false, some false, some false], fun _ => undef, [5]⟩, ⟨.act 2, [some true, some true, some false, some false], fun _ => undef, [4, 6]⟩, ⟨.quiet, [none, none, none, none], fun _ => v1, []⟩, ⟨.quiet, [none, none, none, none], fun _ => .int .i64 ((i : Nat) : Int), []⟩, ⟨.quiet, [none, none, none, none], fun _ => Ci 2 v1 i m.length, [8, 9]⟩, ⟨.act 3, [some true, some true, some true, some false], fun _ => undef, [7, 10]⟩] [(3, .pointer (some ⟨g3, 0, none⟩)), (4, .slice none 0 0), (0, v1), (5, .int .i64 ((i : Nat) : Int)), (6, .slice none 0 0)] (fun ρ => match ρ with | [r0, r1, r2, r3] => [CP r1 (fun fb => Ao 52 2 encRF fb ([(⟨n, A, c, d⟩ : RFl)])) (E0), CP r3 (fun w3 => Ao 52 2 encRF w3 (DO l (⟨n, A, c, d⟩ : RFl))) (CP r2 (fun w2 => Ao 52 2 encRF w2 (m.take i ++ [(⟨n, A, c, d⟩ : RFl)])) (CP r0 (fun w1 => Ao 52 2 encRF w1 (m.take i)) (Ao 52 2 encRF (.slice none 0 0) ([])))), Ao 52 2 encRF v1 m, cell g3 52 #[.string (bs n), .slice A d.length c], X, Ao 5 1 encB (.slice A d.length c) d] | _ => []) (by kernel_rfl) (by kernel_rfl) ⟨rfl, rfl, rfl, rfl, rfl, trivial⟩ rfl ?_ ?_
    · skip
      refine Aa (by intro r0_ r1_ r2_ r3_; exact ⟨rfl, fun b w hH hb => Ae Ag rfl hb⟩) ?_
      refine Aa (by intro r0_ r1_ r2_ r3_; exact ⟨rfl, fun b w hH hb => Ae Ag rfl hb⟩) ?_
      refine Aa (by intro r0_ r1_ r2_ r3_; exact ⟨rfl, fun b w hH hb => Ae Ag rfl hb⟩) ?_
      refine Aa (by intro r0_ r1_ r2_ r3_; exact ⟨rfl, fun b w hH hb => G2 2 (b := i) Ar rfl hI1 rfl rfl rfl hH hb⟩) ?_
      refine Aa (by intro r1_; exact ⟨rfl, Br.s (DK 1 Ar BH rfl (m.take i) (fun w hH => hH.vecq 2 rfl BH (Nat.zero_le _) hI1 (m := m.take i) (by simp)) (by simp only [List.length_nil, List.length_take]; omega) rfl rfl rfl (List.nil_append _)) (fun _ => rfl)⟩) ?_
      refine Aa (by intro r0_ r1_ r2_ r3_; exact ⟨rfl, fun b w hH hb => Bg rfl rfl (EH (cs := [.string (bs n), .slice A d.length c]) DV rfl) (hH.row 3 rfl) hb⟩) ?_
      refine Aa (by intro r0_; exact ⟨rfl, Br.s (Br.place (val := fun fb : Value => fb) (t := fun fb => Ao 52 2 encRF fb ([(⟨n, A, c, d⟩ : RFl)])) (os' := fun fb => [Ao 52 2 encRF fb ([(⟨n, A, c, d⟩ : RFl)]), CP r0_ (fun w1 => Ao 52 2 encRF w1 (m.take i)) (Ao 52 2 encRF (.slice none 0 0) ([])), Ao 52 2 encRF v1 m, cell g3 52 #[.string (bs n), .slice A d.length c], X, Ao 5 1 encB (.slice A d.length c) d]) 0 rfl (by refine Ec (e := 52) (t := 53) (k := 2) (enc := encRF) (x := .tmp 32) (c := .agg #[.string (bs n), .slice A d.length c]) ?_ ?_ ?_ (⟨n, A, c, d⟩ : RFl) ?_ ?_ ?_; exact Ar; exact (by decide); exact BH; exact rfl; exact rfl; exact rfl) (fun _ => rfl)) (fun _ => rfl)⟩) ?_
      refine Aa (by intro w1 fb; exact ⟨rfl, Br.s (DK 1 Ar BH rfl ([(⟨n, A, c, d⟩ : RFl)]) (fun w hH => hH.vec 0 rfl BH) (by simp only [List.length_cons, List.length_nil, List.length_take]; omega) rfl rfl rfl rfl) (fun _ => rfl)⟩) ?_
      refine Aa (by intro r0_ r1_ r2_ r3_; exact ⟨rfl, fun b w hH hb => Ae Ag rfl hb⟩) ?_
      refine Aa (by intro r0_ r1_ r2_ r3_; exact ⟨rfl, fun b w hH hb => Ae Ag rfl hb⟩) ?_
      refine Aa (by intro r0_ r1_ r2_ r3_; exact ⟨rfl, fun b w hH hb => I8 2 (a := i) Ar rfl hI1 rfl rfl rfl hH hb⟩) ?_
      refine Aa (by intro w1 fb w2; exact ⟨rfl, Br.s (DK 1 Ar BH rfl (m.drop i) (fun w hH => hH.vecq 2 rfl BH hI1 (Nat.le_refl _) (m := m.drop i) (by simp)) (by simp only [List.length_append, List.length_cons, List.length_nil, List.length_take, List.length_drop]; omega) rfl rfl rfl hfin) (fun _ => rfl)⟩) ?_
      exact B7
    intro w1 fb w2 w3
    refine Ch.keep (env' := [(4, .slice none 0 0), (38, w3)]) ⟨rfl, rfl, trivial⟩ ?_
    refine Af Ag rfl ?_
    refine AP (AG (Az ?_))
    exact Ay (.tmp rfl) (fun w h => AB w3 rfl [4, 5, 1] rfl h LU) rfl
  · skip
    have hfin : m.take i ++ [(⟨n, A, c, d⟩ : RFl)] ++ m.drop i = DO l (⟨n, A, c, d⟩ : RFl) := by unfold DO; rw [show DH l (⟨n, A, c, d⟩ : RFl).n = m from hm]; exact (N0 (f := (⟨n, A, c, d⟩ : RFl)) hI1 hI2 (fun y hy => by rw [List.getElem?_eq_none hi] at hy; cases hy)).symm
    refine Aq ?_
    refine BM 14 0 [⟨.quiet, [], fun _ => .int .i64 ((i : Nat) : Int), []⟩, ⟨.quiet, [], fun _ => v1, []⟩, ⟨.quiet, [], fun _ => .int .i64 (m.length : Int), [1]⟩, ⟨.quiet, [], fun _ => .bool false, [0, 2]⟩, ⟨.quiet, [], fun _ => .bool false, [3]⟩, ⟨.skip, [], fun _ => undef, [4]⟩, ⟨.skip, [], fun _ => undef, [4]⟩, ⟨.skip, [], fun _ => undef, [5, 6, 4]⟩, ⟨.skip, [], fun _ => undef, [7, 4]⟩, ⟨.skip, [], fun _ => undef, [8, 4]⟩, ⟨.skip, [], fun _ => undef, [4]⟩, ⟨.skip, [], fun _ => undef, [10, 4]⟩, ⟨.skip, [], fun _ => undef, [9, 11, 4]⟩, ⟨.quiet, [], fun _ => .bool false, [4, 12]⟩] [(3, .pointer (some ⟨g3, 0, none⟩)), (4, .slice none 0 0), (0, v1), (5, .int .i64 ((i : Nat) : Int))] (fun _ => [Ao 52 2 encRF v1 m, cell g3 52 #[.string (bs n), .slice A d.length c], X, Ao 5 1 encB (.slice A d.length c) d]) (by kernel_rfl) (by kernel_rfl) ⟨rfl, rfl, rfl, rfl, trivial⟩ rfl ?_ ?_
    · skip
      refine Aa (by exact ⟨rfl, fun b w hH hb => Ae Ag rfl hb⟩) ?_
      refine Aa (by exact ⟨rfl, fun b w hH hb => Ae Ag rfl hb⟩) ?_
      refine Aa (by exact ⟨rfl, fun b w hH hb => AQ ((hH.rdFs 0 rfl Cq)) Tryz.underlying53 rfl rfl hb⟩) ?_
      refine Aa (by exact ⟨rfl, fun b w hH hb => Bh rfl rfl rfl (Bu (by omega)) hb⟩) ?_
      refine Aa (by exact ⟨rfl, fun b w hH hb => Ae Ag rfl hb⟩) ?_
      refine Aa (by exact ⟨rfl, rfl⟩) ?_
      refine Aa (by exact ⟨rfl, rfl⟩) ?_
      refine Aa (by exact ⟨rfl, rfl⟩) ?_
      refine Aa (by exact ⟨rfl, rfl⟩) ?_
      refine Aa (by exact ⟨rfl, rfl⟩) ?_
      refine Aa (by exact ⟨rfl, rfl⟩) ?_
      refine Aa (by exact ⟨rfl, rfl⟩) ?_
      refine Aa (by exact ⟨rfl, rfl⟩) ?_
      refine Aa (by exact ⟨rfl, fun b w hH hb => Ae Ag rfl hb⟩) ?_
      exact B7
    refine Ch.keep (env' := [(3, .pointer (some ⟨g3, 0, none⟩)), (4, .slice none 0 0), (0, v1), (5, .int .i64 ((i : Nat) : Int)), (11, .int .i64 ((i : Nat) : Int)), (12, v1), (13, .int .i64 (m.length : Int)), (14, .bool false), (15, .bool false), (16, undef), (17, undef), (18, undef), (19, undef), (20, undef), (21, undef), (22, undef), (23, undef), (24, .bool false)]) ⟨rfl, rfl, rfl, rfl, rfl, rfl, rfl, rfl, rfl, rfl, rfl, rfl, rfl, rfl, rfl, rfl, rfl, rfl, trivial⟩ ?_
    refine AP (AG (Au rfl (Cu (EO (EO (Bc (AG (Ad ?_))))))))
    refine Af Ag rfl ?_
    refine Ab ?_
    refine BZ 52 2 encRF ?_
    refine Aq ?_
    refine EL 1 rfl ?_
    refine BM 12 4 [⟨.quiet, [none, none, none, none], fun _ => .slice none 0 0, []⟩, ⟨.quiet, [none, none, none, none], fun _ => v1, []⟩, ⟨.quiet, [none, none, none, none], fun _ => .int .i64 ((i : Nat) : Int), []⟩, ⟨.quiet, [none, none, none, none], fun _ => Ci 2 v1 0 i, [1, 2]⟩, ⟨.act 0, [some false, none, some false, some false], fun _ => undef, [0, 3]⟩, ⟨.quiet, [none, none, none, none], fun _ => .agg #[.string (bs n), .slice A d.length c], []⟩, ⟨.act 1, [none, some false, some false, some false], fun _ => undef, [5]⟩, ⟨.act 2, [some true, some true, some false, some false], fun _ => undef, [4, 6]⟩, ⟨.quiet, [none, none, none, none], fun _ => v1, []⟩, ⟨.quiet, [none, none, none, none], fun _ => .int .i64 ((i : Nat) : Int), []⟩, ⟨.quiet, [none, none, none, none], fun _ => Ci 2 v1 i m.length, [8, 9]⟩, ⟨.act 3, [some true, some true, some true, some false], fun _ => undef, [7, 10]⟩] [(3, .pointer (some ⟨g3, 0, none⟩)), (4, .slice none 0 0), (0, v1), (5, .int .i64 ((i : Nat) : Int)), (6, .slice none 0 0)] (fun ρ => match ρ with | [r0, r1, r2, r3] => [CP r1 (fun fb => Ao 52 2 encRF fb ([(⟨n, A, c, d⟩ : RFl)])) (E0), CP r3 (fun w3 => Ao 52 2 encRF w3 (DO l (⟨n, A, c, d⟩ : RFl))) (CP r2 (fun w2 => Ao 52 2 encRF w2 (m.take i ++ [(⟨n, A, c, d⟩ : RFl)])) (CP r0 (fun w1 => Ao 52 2 encRF w1 (m.take i)) (Ao 52 2 encRF (.slice none 0 0) ([])))), Ao 52 2 encRF v1 m, cell g3 52 #[.string (bs n), .slice A d.length c], X, Ao 5 1 encB (.slice A d.length c) d] | _ => []) (by kernel_rfl) (by kernel_rfl) ⟨rfl, rfl, rfl, rfl, rfl, trivial⟩ rfl ?_ ?_
    · skip
      refine Aa (by intro r0_ r1_ r2_ r3_; exact ⟨rfl, fun b w hH hb => Ae Ag rfl hb⟩) ?_
      refine Aa (by intro r0_ r1_ r2_ r3_; exact ⟨rfl, fun b w hH hb => Ae Ag rfl hb⟩) ?_
      refine Aa (by intro r0_ r1_ r2_ r3_; exact ⟨rfl, fun b w hH hb => Ae Ag rfl hb⟩) ?_
      refine Aa (by intro r0_ r1_ r2_ r3_; exact ⟨rfl, fun b w hH hb => G2 2 (b := i) Ar rfl hI1 rfl rfl rfl hH hb⟩) ?_
      refine Aa (by intro r1_; exact ⟨rfl, Br.s (DK 1 Ar BH rfl (m.take i) (fun w hH => hH.vecq 2 rfl BH (Nat.zero_le _) hI1 (m := m.take i) (by simp)) (by simp only [List.length_nil, List.length_take]; omega) rfl rfl rfl (List.nil_append _)) (fun _ => rfl)⟩) ?_
      refine Aa (by intro r0_ r1_ r2_ r3_; exact ⟨rfl, fun b w hH hb => Bg rfl rfl (EH (cs := [.string (bs n), .slice A d.length c]) DV rfl) (hH.row 3 rfl) hb⟩) ?_
      refine Aa (by intro r0_; exact ⟨rfl, Br.s (Br.place (val := fun fb : Value => fb) (t := fun fb => Ao 52 2 encRF fb ([(⟨n, A, c, d⟩ : RFl)])) (os' := fun fb => [Ao 52 2 encRF fb ([(⟨n, A, c, d⟩ : RFl)]), CP r0_ (fun w1 => Ao 52 2 encRF w1 (m.take i)) (Ao 52 2 encRF (.slice none 0 0) ([])), Ao 52 2 encRF v1 m, cell g3 52 #[.string (bs n), .slice A d.length c], X, Ao 5 1 encB (.slice A d.length c) d]) 0 rfl (by refine Ec (e := 52) (t := 53) (k := 2) (enc := encRF) (x := .tmp 32) (c := .agg #[.string (bs n), .slice A d.length c]) ?_ ?_ ?_ (⟨n, A, c, d⟩ : RFl) ?_ ?_ ?_; exact Ar; exact (by decide); exact BH; exact rfl; exact rfl; exact rfl) (fun _ => rfl)) (fun _ => rfl)⟩) ?_
      refine Aa (by intro w1 fb; exact ⟨rfl, Br.s (DK 1 Ar BH rfl ([(⟨n, A, c, d⟩ : RFl)]) (fun w hH => hH.vec 0 rfl BH) (by simp only [List.length_cons, List.length_nil, List.length_take]; omega) rfl rfl rfl rfl) (fun _ => rfl)⟩) ?_
      refine Aa (by intro r0_ r1_ r2_ r3_; exact ⟨rfl, fun b w hH hb => Ae Ag rfl hb⟩) ?_
      refine Aa (by intro r0_ r1_ r2_ r3_; exact ⟨rfl, fun b w hH hb => Ae Ag rfl hb⟩) ?_
      refine Aa (by intro r0_ r1_ r2_ r3_; exact ⟨rfl, fun b w hH hb => I8 2 (a := i) Ar rfl hI1 rfl rfl rfl hH hb⟩) ?_
      refine Aa (by intro w1 fb w2; exact ⟨rfl, Br.s (DK 1 Ar BH rfl (m.drop i) (fun w hH => hH.vecq 2 rfl BH hI1 (Nat.le_refl _) (m := m.drop i) (by simp)) (by simp only [List.length_append, List.length_cons, List.length_nil, List.length_take, List.length_drop]; omega) rfl rfl rfl hfin) (fun _ => rfl)⟩) ?_
      exact B7
    intro w1 fb w2 w3
    refine Ch.keep (env' := [(4, .slice none 0 0), (38, w3)]) ⟨rfl, rfl, trivial⟩ ?_
    refine Af Ag rfl ?_
    refine AP (AG (Az ?_))
    exact Ay (.tmp rfl) (fun w h => AB w3 rfl [4, 5, 1] rfl h LU) rfl
end Go.Proofs.YtnknboibmifacaaGreat.Sep
