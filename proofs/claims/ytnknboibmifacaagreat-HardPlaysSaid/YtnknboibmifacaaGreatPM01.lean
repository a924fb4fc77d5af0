/-
  RdkS · RdkM · TyG · Lit · RdkA
-/
import Derived.Test.YtnknboibmifacaaGreatPA06
import Derived.Test.YtnknboibmifacaaGreatPA08
import Derived.Test.YtnknboibmifacaaGreatPB01
import Derived.Test.YtnknboibmifacaaGreatPB02
import Derived.Test.YtnknboibmifacaaGreatPB03
import Derived.Test.YtnknboibmifacaaGreatPC01
set_option linter.unusedSimpArgs false
set_option linter.unusedVariables false
set_option maxRecDepth 100000
namespace Go.Proofs.YtnknboibmifacaaGreat.Sep
def Ix (a b : List UInt8) : Bool := Op.bytesLess a b
theorem MW : ∀ a, Ix a a = false
  | [] => rfl
  | x :: a => by
    show (decide (x < x) || (x == x && Ix a a)) = false
    rw [MW a]; simp
theorem TB : ∀ a b c, Ix a b = true → Ix b c = true → Ix a c = true
  | a, [], c, h, _ => by cases a <;> cases h
  | _, _ :: _, [], _, h => by cases h
  | [], _ :: _, _ :: _, _, _ => rfl
  | x :: a, y :: b, z :: c, h, h' => by
    have h1 : (decide (x < y) || (x == y && Ix a b)) = true := h
    have h2 : (decide (y < z) || (y == z && Ix b c)) = true := h'
    show (decide (x < z) || (x == z && Ix a c)) = true
    simp only [Bool.or_eq_true, Bool.and_eq_true, decide_eq_true_eq, beq_iff_eq] at *
    rcases h1 with h1 | ⟨rfl, h1⟩
    · rcases h2 with h2 | ⟨rfl, h2⟩
      · exact .inl (UInt8.lt_trans h1 h2)
      · exact .inl h1
    · rcases h2 with h2 | ⟨rfl, h2⟩
      · exact .inl h2
      · exact .inr ⟨rfl, TB a b c h1 h2⟩
theorem QD : ∀ a b, Ix a b = false → Ix b a = false → a = b
  | [], [], _, _ => rfl
  | [], _ :: _, h, _ => by cases h
  | _ :: _, [], _, h => by cases h
  | x :: a, y :: b, h, h' => by
    have h1 : (decide (x < y) || (x == y && Ix a b)) = false := h
    have h2 : (decide (y < x) || (y == x && Ix b a)) = false := h'
    simp only [Bool.or_eq_false_iff, Bool.and_eq_false_iff, decide_eq_false_iff_not, beq_eq_false_iff_ne] at *
    have hxy : x = y := UInt8.le_antisymm (UInt8.not_lt.1 h2.1) (UInt8.not_lt.1 h1.1)
    subst hxy
    rcases h1.2 with h | h
    · exact absurd rfl h
    · rcases h2.2 with h' | h'
      · exact absurd rfl h'
      · rw [QD a b h h']
end Go.Proofs.YtnknboibmifacaaGreat.Sep
namespace Go.Proofs.YtnknboibmifacaaGreat.Sep
open Go.RowKit
structure RFl where
  n : List UInt8
  A : Option Addr
  c : Nat
  d : List UInt8
def RFl.v (x : RFl) : Value := .slice x.A x.d.length x.c
def encRF (x : RFl) : List Value := [.string (bs x.n), x.v]
theorem BT : EncOf 2 encRF := ⟨fun _ => rfl, fun x v h => by unfold encRF RFl.v at h; simp at h; rcases h with rfl | rfl <;> rfl⟩
instance : Inhabited RFl := ⟨⟨[], none, 0, []⟩⟩
def FU (l : List RFl) : FS := l.map fun x => (x.n, x.d)
def Ex (l : List RFl) : Prop := l.Pairwise fun x y => Ix x.n y.n = true
def DV (l : List RFl) (n : List UInt8) : List RFl := l.filter fun x => decide (x.n ≠ n)
def Oh (l : List RFl) (f : RFl) : List RFl := (l.takeWhile fun x => Ix x.n f.n) ++ f :: l.dropWhile fun x => Ix x.n f.n
def D0 (l : List RFl) (f : RFl) : List RFl := Oh (DV l f.n) f
theorem Ls (l : List RFl) : AL (FU l) = l.map (·.n) := by unfold AL FU; rw [List.map_map]; rfl
theorem DP {l : List RFl} (h : Ex l) : (AL (FU l)).Nodup := by
 rw [Ls]
 exact List.Pairwise.map _ (fun x y hxy e => by rw [e, MW] at hxy; cases hxy) h
theorem Kr {l : List RFl} {n : List UInt8} (h : Ex l) : Ex (DV l n) := h.filter _
theorem GE {l : List RFl} {n : List UInt8} {x : RFl} : x ∈ DV l n ↔ x ∈ l ∧ x.n ≠ n := by unfold DV; rw [List.mem_filter, decide_eq_true_eq]
theorem Jh {l : List RFl} {f x : RFl} : x ∈ Oh l f ↔ x = f ∨ x ∈ l := by
  have e : l = (l.takeWhile fun x => Ix x.n f.n) ++ l.dropWhile fun x => Ix x.n f.n := (List.takeWhile_append_dropWhile ..).symm
  unfold Oh
  rw [List.mem_append, List.mem_cons]
  constructor
  · rintro (h | rfl | h)
    · right; rw [e]; exact List.mem_append.2 (.inl h)
    · exact .inl rfl
    · right; rw [e]; exact List.mem_append.2 (.inr h)
  · rintro (rfl | h)
    · exact .inr (.inl rfl)
    · rw [e] at h
      rcases List.mem_append.1 h with h | h
      · exact .inl h
      · exact .inr (.inr h)
theorem QE : ∀ {l : List RFl} {f : RFl}, Ex l → (∀ x, x ∈ l → x.n ≠ f.n) → Ex (Oh l f)
  | [], f, _, _ => List.pairwise_singleton _ _
  | y :: l, f, h, hn => by
    have h1 := List.pairwise_cons.1 h
    unfold Oh
    cases hy : Ix y.n f.n
    · rw [List.takeWhile_cons, List.dropWhile_cons, if_neg (by simp [hy]), if_neg (by simp [hy])]
      have hfy : Ix f.n y.n = true := by
        cases hf : Ix f.n y.n
        · exact absurd (QD _ _ hy hf) (hn y (List.mem_cons_self ..))
        · rfl
      refine List.pairwise_cons.2 ⟨fun x hx => ?_, h⟩
      rcases List.mem_cons.1 hx with rfl | hx
      · exact hfy
      · exact TB _ _ _ hfy (h1.1 x hx)
    · rw [List.takeWhile_cons, List.dropWhile_cons, if_pos hy, if_pos hy]
      have ih := QE (f := f) h1.2 (fun x hx => hn x (List.mem_cons_of_mem _ hx))
      refine List.pairwise_cons.2 ⟨fun x hx => ?_, ih⟩
      rcases Jh.1 (show x ∈ Oh l f from hx) with rfl | hx
      · exact hy
      · exact h1.1 x hx
theorem Oi {l : List RFl} {f : RFl} (h : Ex l) : Ex (D0 l f) := QE (Kr h) fun x hx => (GE.1 hx).2
theorem TC {l : List RFl} {g : FS} {n : List UInt8} (hl : Ex l) (h : (FU l).Perm g) : (FU (DV l n)).Perm (BX g n) := by
  have h1 := DP hl
  have hg : (AL g).Nodup := (CQ h).nodup_iff.1 h1
  refine Ec (DP (Kr hl)) (Cf hg) fun p => ?_
  rw [Dv hg, ← h.mem_iff]
  unfold FU
  simp only [List.mem_map, GE]
  constructor
  · rintro ⟨x, ⟨hx, hn⟩, rfl⟩; exact ⟨⟨x, hx, rfl⟩, hn⟩
  · rintro ⟨⟨x, hx, rfl⟩, hn⟩; exact ⟨x, ⟨hx, hn⟩, rfl⟩
theorem US {l : List RFl} {g : FS} {f : RFl} (hl : Ex l) (h : (FU l).Perm g) : (FU (D0 l f)).Perm (BG g f.n f.d) := by
  have h1 := DP hl
  have hg : (AL g).Nodup := (CQ h).nodup_iff.1 h1
  refine Ec (DP (Oi hl)) (Ck hg) fun p => ?_
  rw [Fd hg, ← h.mem_iff]
  unfold FU
  simp only [List.mem_map]
  constructor
  · rintro ⟨x, hx, rfl⟩
    rcases Jh.1 hx with rfl | hx
    · exact .inl rfl
    · have := GE.1 hx
      exact .inr ⟨⟨x, this.1, rfl⟩, this.2⟩
  · rintro (rfl | ⟨⟨x, hx, rfl⟩, hn⟩)
    · exact ⟨f, Jh.2 (.inl rfl), rfl⟩
    · exact ⟨x, Jh.2 (.inr (GE.2 ⟨hx, hn⟩)), rfl⟩
theorem Oj {l : List RFl} {f : RFl} {i : Nat} (hi : i ≤ l.length) (h1 : ∀ j x, j < i → l[j]? = some x → Ix x.n f.n = true) (h2 : ∀ x, l[i]? = some x → Ix x.n f.n = false) : Oh l f = l.take i ++ [f] ++ l.drop i := by
  have e1 : (l.takeWhile fun x => Ix x.n f.n) = l.take i ∧ (l.dropWhile fun x => Ix x.n f.n) = l.drop i := by
    induction l generalizing i with
    | nil => simp
    | cons y l ih =>
      cases i with
      | zero =>
        have := h2 y rfl
        rw [List.takeWhile_cons, List.dropWhile_cons, if_neg (by simp [this]), if_neg (by simp [this])]
        exact ⟨rfl, rfl⟩
      | succ i =>
        have := h1 0 y (Nat.succ_pos _) rfl
        rw [List.takeWhile_cons, List.dropWhile_cons, if_pos this, if_pos this]
        obtain ⟨h3, h4⟩ := ih (i := i) (by simpa using hi) (fun j x hj hx => h1 (j + 1) x (by omega) (by simpa using hx)) (fun x hx => h2 x (by simpa using hx))
        rw [h3, h4]
        exact ⟨rfl, rfl⟩
  unfold Oh
  rw [e1.1, e1.2]; simp
theorem TD {l : List RFl} {n : List UInt8} {i : Nat} {x : RFl} (h : l[i]? = some x) : DV (l.take (i + 1)) n = if x.n = n then DV (l.take i) n else DV (l.take i) n ++ [x] := by
  rw [← Gt h]
  unfold DV
  rw [List.filter_append]
  by_cases hx : x.n = n
  · rw [if_pos hx]; simp [hx]
  · rw [if_neg hx]; simp [hx]
theorem Ha {l : List RFl} (hs : Ex l) (n : List UInt8) : (∃ (j : Nat) (x : RFl), l[j]? = some x ∧ x.n = n ∧ (∀ (k : Nat) (y : RFl), k < j → l[k]? = some y → y.n ≠ n) ∧ AQ (FU l) n = some x.d) ∨ ((∀ x : RFl, x ∈ l → x.n ≠ n) ∧ AQ (FU l) n = none) := by
  by_cases h : ∃ x, x ∈ l ∧ x.n = n
  · left
    obtain ⟨x, hx, hn⟩ := h
    obtain ⟨j, hj⟩ := List.getElem?_of_mem hx
    refine ⟨j, x, hj, hn, fun k y hk hy e => ?_, ?_⟩
    · have hlt := (List.getElem?_eq_some_iff.1 hj).1
      have h1 := List.pairwise_iff_getElem.1 hs k j (by omega) hlt hk
      have e1 := (List.getElem?_eq_some_iff.1 hy).2
      have e2 := (List.getElem?_eq_some_iff.1 hj).2
      rw [e1, e2, e, hn, MW] at h1
      cases h1
    · exact (B8 (DP hs)).2 (List.mem_map.2 ⟨x, hx, by rw [hn]⟩)
  · right
    have h1 : ∀ x, x ∈ l → x.n ≠ n := fun x hx e => h ⟨x, hx, e⟩
    refine ⟨h1, ?_⟩
    rw [CZ, Ls]
    intro hm
    obtain ⟨x, hx, e⟩ := List.mem_map.1 hm
    exact h1 x hx e
end Go.Proofs.YtnknboibmifacaaGreat.Sep
namespace Go.Proofs.YtnknboibmifacaaGreat.Sep
open Go.RowKit
open Go.Proofs.YtnknboibmifacaaGreat.Mem (Bl Co Chg AG)
theorem An : DW Tryz.prog 53 := FC Tryz.underlying53 rfl (by kernel_rfl)
theorem CL : FB Tryz.prog 103 5 := Iz Tryz.underlying103 rfl (by kernel_rfl)
theorem JS : LE Tryz.prog 103 #[.int .i64 0, .string { data := #[] }, .string { data := #[] }, .slice none 0 0, .int .i64 0] := Hj (z := .agg #[.int .i64 0, .string { data := #[] }, .string { data := #[] }, .slice none 0 0, .int .i64 0]) (by kernel_rfl) rfl
theorem AF : DW Tryz.prog 57 := FC Tryz.underlying57 rfl (by kernel_rfl)
theorem Am : FB Tryz.prog 31 2 := Iz Tryz.underlying31 rfl (by kernel_rfl)
theorem Bq : LE Tryz.prog 31 #[.int .u64 0, .int .i64 0] := Hj (z := .agg #[.int .u64 0, .int .i64 0]) (by kernel_rfl) rfl
theorem Ft : FB Tryz.prog 33 3 := Iz Tryz.underlying33 rfl (by kernel_rfl)
theorem DT : FB Tryz.prog 35 7 := Iz Tryz.underlying35 rfl (by kernel_rfl)
theorem DL : Bf Tryz.prog 59 6 6 := fun g off w => by kernel_rfl
theorem Hb : Bf Tryz.prog 59 4 4 := fun g off w => by kernel_rfl
theorem Hc : Bf Tryz.prog 59 5 5 := fun g off w => by kernel_rfl
theorem Hd : Bf Tryz.prog 59 2 2 := fun g off w => by kernel_rfl
theorem DK : Bf Tryz.prog 59 3 3 := fun g off w => by kernel_rfl
theorem DI : Bf Tryz.prog 59 0 0 := fun g off w => by kernel_rfl
theorem He : Bf Tryz.prog 59 1 1 := fun g off w => by kernel_rfl
theorem DG : Bf Tryz.prog 33 0 0 := fun g off w => by kernel_rfl
theorem DH : Bf Tryz.prog 33 1 1 := fun g off w => by kernel_rfl
theorem DJ : Bf Tryz.prog 33 2 2 := fun g off w => by kernel_rfl
theorem FR : Bf Tryz.prog 31 0 0 := fun g off w => by kernel_rfl
theorem FT : Bf Tryz.prog 31 1 1 := fun g off w => by kernel_rfl
theorem Dr : Bf Tryz.prog 35 2 3 := fun g off w => by kernel_rfl
theorem Ds : Bf Tryz.prog 35 1 1 := fun g off w => by kernel_rfl
theorem CV : Bf Tryz.prog 35 3 4 := fun g off w => by kernel_rfl
theorem CW : Bf Tryz.prog 35 0 0 := fun g off w => by kernel_rfl
theorem BI : SliceT Tryz.prog 57 103 5 := Eb (z := .agg #[.int .i64 0, .string { data := #[] }, .string { data := #[] }, .slice none 0 0, .int .i64 0]) Tryz.underlying57 (by kernel_rfl) rfl rfl (by decide)
theorem CF : SliceT Tryz.prog 22 35 7 := Eb (z := .agg #[.int .i64 0, .int .u64 0, .int .i64 0, .bool false, .int .i64 0, .int .i64 0, .int .i64 0]) Tryz.underlying22 (by kernel_rfl) rfl rfl (by decide)
def flG : List ((Nat × Nat) × Nat) := [((59, 6), 6), ((59, 4), 4), ((59, 5), 5), ((59, 2), 2), ((59, 3), 3), ((59, 0), 0), ((59, 1), 1), ((33, 0), 0), ((33, 1), 1), ((33, 2), 2), ((31, 0), 0), ((31, 1), 1), ((35, 2), 3), ((35, 1), 1), ((35, 3), 4), ((35, 0), 0)] ++ flS
theorem JT {P : Program} {b : List ((Nat × Nat) × Nat)} (hb : Jm P b) : ∀ {a : List ((Nat × Nat) × Nat)}, Kf P a → Jm P (a ++ b)
  | [], _ => hb
  | ((s, f), k) :: r, ha => fun S g q h => by
    simp only [List.cons_append] at h
    unfold Vk at h
    cases h1 : Nat.beq s S with
    | false => simp only [h1] at h; exact JT hb ha.2 S g q h
    | true =>
      cases h2 : Nat.beq f g with
      | false => simp only [h1, h2] at h; exact JT hb ha.2 S g q h
      | true =>
        simp only [h1, h2, Option.some.injEq] at h
        have e1 := Nat.eq_of_beq_eq_true h1
        have e2 := Nat.eq_of_beq_eq_true h2
        subst e1; subst e2; subst h
        exact ha.1
theorem Ag : Jm Tryz.prog flG := JT Aw ⟨DL, Hb, Hc, Hd, DK, DI, He, DG, DH, DJ, FR, FT, Dr, Ds, CV, CW, trivial⟩
end Go.Proofs.YtnknboibmifacaaGreat.Sep
namespace Go.Proofs.YtnknboibmifacaaGreat.Sep
open Go.RowKit
open Go.Proofs.YtnknboibmifacaaGreat.Mem (Bl Co Chg AG)
section lit
variable {P : Program} {e t : TypeId} {l : List UInt8} {v : Value} {B : Nat → Prop} {w0 w w' : World} {os : List Ass} {n : Nat} {env : List (Nat × Value)} {Q : Exit → Act → World → Prop} {o : Oper} {act : Act}
theorem HP {T T' : TypeId} {x y : Operand} {l m : List UInt8} {c : Bool} (hc : (l != m) = c) (ho : o.op = .binOp .neq T x y T') (hx : evs env x = some (.string (bs l))) (hy : evs env y = some (.string (bs m))) (hF : Fr n act env) : (execOp act.eval o).run P w = .ok (.value (.bool c)) w := by
 unfold execOp
 subst hc
 simp only [ho, hF.evs hx, hF.evs hy]
 simp [eqGuard, binOp, Op.stringOp, Mu, bne]
end lit
end Go.Proofs.YtnknboibmifacaaGreat.Sep
namespace Go.Proofs.YtnknboibmifacaaGreat.Sep
open Go.RowKit
open Go.Proofs.YtnknboibmifacaaGreat.Mem (Bl Co Chg AG)
def Ff (X : Ass) (v : Value) (l : List RFl) : Prop := ∀ rs w, X rs → RowsOf w rs → Dx w 2 v l.length (flat encRF l)
theorem Hp.rdFs {B : Nat → Prop} {w0 w : World} {os : List Ass} {X : Ass} {v : Value} {l : List RFl} (h : Hp B w0 w os) (i : Nat) (hi : os[i]? = some X) (hu : Ff X v l) : Dx w 2 v l.length (flat encRF l) := by
 obtain ⟨rs, h1, h2⟩ := h.thing i hi
 exact hu rs w h1 h2
theorem CT {v : Value} {l : List RFl} : Ff (As 52 2 encRF v l) v l := fun _ _ h1 h2 => h1.all BT h2
theorem C7 {X : Ass} {v : Value} {l : List RFl} {n : List UInt8} {j : Nat} {y : RFl} (hX : Ff X v l) (hl : l.length ≤ 1000000) (hj : l[j]? = some y) (hy : y.n = n) (hlt : ∀ (k : Nat) (y : RFl), k < j → l[k]? = some y → y.n ≠ n) : AU Tryz.prog 61 #[v, .string (bs n)] [X] (fun (_ : Unit) => .int .i64 (j : Int)) (fun (_ : Unit) => [X]) := by
  have hjl := (List.getElem?_eq_some_iff.1 hj).1
  refine Bd (args := [v, .string (bs n)]) 20 Tryz.func61 rfl rfl rfl ?_; intro w rs
  refine Ad ?_
  refine Ae Ag rfl ?_
  refine Aa (Aq (Ad ?_))
  refine Ae Ag rfl ?_
  refine Aa (Bb ?_)
  refine CO (α := Nat) (fun i => [(0, v), (1, .string (bs n)), (4, .int .i64 0), (5, .int .i64 ((i : Nat) : Int))]) (fun i => [X]) (fun i => i ≤ j) (fun i => l.length - i) 0 (by omega) ⟨rfl, rfl, rfl, rfl, trivial⟩ rfl ?_
  rintro i hI
  refine Bv.at_ (env' := [(0, v), (1, .string (bs n)), (4, .int .i64 0), (5, .int .i64 ((i : Nat) : Int))]) (rs' := [X]) ⟨rfl, rfl, rfl, rfl, trivial⟩ rfl ?_
  refine Aq ?_
  rcases Nat.lt_or_ge i j with hi | hi
  · skip
    obtain ⟨x, hx⟩ : ∃ x, l[i]? = some x := ⟨_, List.getElem?_eq_getElem (by omega)⟩
    refine Ad ?_
    refine Ae Ag rfl ?_
    refine Ab rfl (.int .i64 (l.length : Int)) (fun b w hb hH => AT ((hH.rdFs 0 rfl hX)) Tryz.underlying53 rfl rfl hb) ?_
    refine Ab rfl (.bool true) (fun b w hb hH => AV rfl rfl rfl (A7 (by omega)) hb) ?_
    refine Aa (AC rfl (Ax (AE (Aq (Bb (Ad ?_))))))
    refine Ae Ag rfl ?_
    refine Ab rfl (BP v (i * 2)) (fun b w hb hH => BF BT ((hH.rdFs 0 rfl hX)) Az (j := i) hx rfl rfl rfl hb) ?_
    refine Ab rfl (BP v (i * 2 + 0)) (fun b w hb hH => IS BT (by decide) ((hH.rdFs 0 rfl hX)) (j := i) hx BB rfl rfl hb) ?_
    refine Ab rfl (.string (bs x.n)) (fun b w hb hH => Bm BT (by decide) ((hH.rdFs 0 rfl hX)) (j := i) hx Ba (off := 0) rfl rfl rfl hb) ?_
    refine Ae Ag rfl ?_
    refine Ab rfl (.bool false) (fun b w hb hH => Jn rfl rfl rfl (by simpa using hlt i x hi hx) hb) ?_
    refine Aa (Ar rfl (Ax (Bt (AE (Br ?_)))))
    refine Ae Ag rfl ?_
    refine Ab rfl (.int .i64 ((i + 1 : Nat) : Int)) (fun b w hb hH => AN rfl rfl rfl rfl (by rw [IntWalk.i64_in _ (by omega)]; omega) hb) ?_
    refine Ae Ag rfl ?_
    refine AP ?_
    exact Cc (i + 1) 0 hi (show l.length - (i + 1) < l.length - i by omega) ⟨rfl, rfl, rfl, rfl, trivial⟩ rfl
  · skip
    obtain rfl : i = j := by omega
    refine Ad ?_
    refine Ae Ag rfl ?_
    refine Ab rfl (.int .i64 (l.length : Int)) (fun b w hb hH => AT ((hH.rdFs 0 rfl hX)) Tryz.underlying53 rfl rfl hb) ?_
    refine Ab rfl (.bool true) (fun b w hb hH => AV rfl rfl rfl (A7 (by omega)) hb) ?_
    refine Aa (AC rfl (Ax (AE (Aq (Bb (Ad ?_))))))
    refine Ae Ag rfl ?_
    refine Ab rfl (BP v (i * 2)) (fun b w hb hH => BF BT ((hH.rdFs 0 rfl hX)) Az (j := i) hj rfl rfl rfl hb) ?_
    refine Ab rfl (BP v (i * 2 + 0)) (fun b w hb hH => IS BT (by decide) ((hH.rdFs 0 rfl hX)) (j := i) hj BB rfl rfl hb) ?_
    refine Ab rfl (.string (bs y.n)) (fun b w hb hH => Bm BT (by decide) ((hH.rdFs 0 rfl hX)) (j := i) hj Ba (off := 0) rfl rfl rfl hb) ?_
    refine Ae Ag rfl ?_
    refine Ab rfl (.bool true) (fun b w hb hH => Jn rfl rfl rfl (by rw [hy]; simp) hb) ?_
    refine Aa (AC rfl (Ad ?_))
    refine Ae Ag rfl ?_
    refine Aa (Ay (Bw (CM (CM (Bw (CM ?_))))))
    exact Av (.tmp rfl) (fun w h => AB () rfl [0] rfl h Cl) rfl
theorem Dn {X : Ass} {v : Value} {l : List RFl} {n : List UInt8} (hX : Ff X v l) (hl : l.length ≤ 1000000) (hn : ∀ x : RFl, x ∈ l → x.n ≠ n) : AU Tryz.prog 61 #[v, .string (bs n)] [X] (fun (_ : Unit) => .int .i64 (-1)) (fun (_ : Unit) => [X]) := by
  refine Bd (args := [v, .string (bs n)]) 20 Tryz.func61 rfl rfl rfl ?_; intro w rs
  refine Ad ?_
  refine Ae Ag rfl ?_
  refine Aa (Aq (Ad ?_))
  refine Ae Ag rfl ?_
  refine Aa (Bb ?_)
  refine CO (α := Nat) (fun i => [(0, v), (1, .string (bs n)), (4, .int .i64 0), (5, .int .i64 ((i : Nat) : Int))]) (fun i => [X]) (fun i => i ≤ l.length) (fun i => l.length - i) 0 (by omega) ⟨rfl, rfl, rfl, rfl, trivial⟩ rfl ?_
  rintro i hI
  refine Bv.at_ (env' := [(0, v), (1, .string (bs n)), (4, .int .i64 0), (5, .int .i64 ((i : Nat) : Int))]) (rs' := [X]) ⟨rfl, rfl, rfl, rfl, trivial⟩ rfl ?_
  refine Aq ?_
  rcases Nat.lt_or_ge i l.length with hi | hi
  · skip
    obtain ⟨x, hx⟩ : ∃ x, l[i]? = some x := ⟨_, List.getElem?_eq_getElem (by omega)⟩
    refine Ad ?_
    refine Ae Ag rfl ?_
    refine Ab rfl (.int .i64 (l.length : Int)) (fun b w hb hH => AT ((hH.rdFs 0 rfl hX)) Tryz.underlying53 rfl rfl hb) ?_
    refine Ab rfl (.bool true) (fun b w hb hH => AV rfl rfl rfl (A7 (by omega)) hb) ?_
    refine Aa (AC rfl (Ax (AE (Aq (Bb (Ad ?_))))))
    refine Ae Ag rfl ?_
    refine Ab rfl (BP v (i * 2)) (fun b w hb hH => BF BT ((hH.rdFs 0 rfl hX)) Az (j := i) hx rfl rfl rfl hb) ?_
    refine Ab rfl (BP v (i * 2 + 0)) (fun b w hb hH => IS BT (by decide) ((hH.rdFs 0 rfl hX)) (j := i) hx BB rfl rfl hb) ?_
    refine Ab rfl (.string (bs x.n)) (fun b w hb hH => Bm BT (by decide) ((hH.rdFs 0 rfl hX)) (j := i) hx Ba (off := 0) rfl rfl rfl hb) ?_
    refine Ae Ag rfl ?_
    refine Ab rfl (.bool false) (fun b w hb hH => Jn rfl rfl rfl (by simpa using hn x (List.mem_of_getElem? hx)) hb) ?_
    refine Aa (Ar rfl (Ax (Bt (AE (Br ?_)))))
    refine Ae Ag rfl ?_
    refine Ab rfl (.int .i64 ((i + 1 : Nat) : Int)) (fun b w hb hH => AN rfl rfl rfl rfl (by rw [IntWalk.i64_in _ (by omega)]; omega) hb) ?_
    refine Ae Ag rfl ?_
    refine AP ?_
    exact Cc (i + 1) 0 hi (show l.length - (i + 1) < l.length - i by omega) ⟨rfl, rfl, rfl, rfl, trivial⟩ rfl
  · skip
    refine Ad ?_
    refine Ae Ag rfl ?_
    refine Ab rfl (.int .i64 (l.length : Int)) (fun b w hb hH => AT ((hH.rdFs 0 rfl hX)) Tryz.underlying53 rfl rfl hb) ?_
    refine Ab rfl (.bool false) (fun b w hb hH => AV rfl rfl rfl (Bn (by omega)) hb) ?_
    refine Aa (Ar rfl (Cu (E0 (E0 (Bh (AE (Ad ?_)))))))
    refine Ae Ag rfl ?_
    refine Aa (Ay ?_)
    exact Av (.tmp rfl) (fun w h => AB () rfl [0] rfl h Cl) rfl
theorem Ji {X : Ass} {v : Value} {l m : List RFl} {n : List UInt8} (hX : Ff X v l) (hl : l.length ≤ 1000000) (hm : DV l n = m) : AU Tryz.prog 83 #[v, .string (bs n)] [X] (fun (r : Value) => r) (fun (r : Value) => [X, As 52 2 encRF r m]) := by
  refine Bd (args := [v, .string (bs n)]) 28 Tryz.func83 rfl rfl rfl ?_; intro w rs
  refine Ad ?_
  refine Ae Ag rfl ?_
  refine Aa (Ad ?_)
  refine Ae Ag rfl ?_
  refine Aa (Aq (Ad ?_))
  refine Ae Ag rfl ?_
  refine Aa (Bb ?_)
  refine B4 52 2 encRF ?_
  refine CO (α := Nat × Value) (fun ⟨i, ov⟩ => [(0, v), (1, .string (bs n)), (4, .slice none 0 0), (5, ov), (6, .int .i64 ((i : Nat) : Int))]) (fun ⟨i, ov⟩ => [As 52 2 encRF ov (DV (l.take i) n), X]) (fun ⟨i, ov⟩ => i ≤ l.length) (fun ⟨i, ov⟩ => l.length - i) (0, .slice none 0 0) (Nat.zero_le _) ⟨rfl, rfl, rfl, rfl, rfl, trivial⟩ rfl ?_
  rintro ⟨i, ov⟩ hI
  refine Bv.at_ (env' := [(0, v), (1, .string (bs n)), (4, .slice none 0 0), (5, ov), (6, .int .i64 ((i : Nat) : Int))]) (rs' := [As 52 2 encRF ov (DV (l.take i) n), X]) ⟨rfl, rfl, rfl, rfl, rfl, trivial⟩ rfl ?_
  refine Aq ?_
  rcases Nat.lt_or_ge i l.length with hi | hi
  · skip
    obtain ⟨x, hx⟩ : ∃ x, l[i]? = some x := ⟨_, List.getElem?_eq_getElem hi⟩
    have hnx := TD (n := n) hx
    have hol : (DV (l.take i) n).length ≤ 1000000 := by have h1 := List.length_filter_le (fun x : RFl => decide (x.n ≠ n)) (l.take i); rw [List.length_take] at h1; unfold DV; omega
    refine Ad ?_
    refine Ae Ag rfl ?_
    refine Ab rfl (.int .i64 (l.length : Int)) (fun b w hb hH => AT ((hH.rdFs 1 rfl hX)) Tryz.underlying53 rfl rfl hb) ?_
    refine Ab rfl (.bool true) (fun b w hb hH => AV rfl rfl rfl (A7 (by omega)) hb) ?_
    refine Aa (AC rfl (Ax (AE (Aq (Bb ?_)))))
    rcases Classical.em (x.n = n) with he | he
    · skip
      rw [if_pos he] at hnx
      rw [← hnx]
      refine Ad ?_
      refine Ae Ag rfl ?_
      refine Ab rfl (BP v (i * 2)) (fun b w hb hH => BF BT ((hH.rdFs 1 rfl hX)) Az (j := i) hx rfl rfl rfl hb) ?_
      refine Ab rfl (BP v (i * 2 + 0)) (fun b w hb hH => IS BT (by decide) ((hH.rdFs 1 rfl hX)) (j := i) hx BB rfl rfl hb) ?_
      refine Ab rfl (.string (bs x.n)) (fun b w hb hH => Bm BT (by decide) ((hH.rdFs 1 rfl hX)) (j := i) hx Ba (off := 0) rfl rfl rfl hb) ?_
      refine Ae Ag rfl ?_
      refine Ab rfl (.bool false) (fun b w hb hH => HP (by simpa using he) rfl rfl rfl hb) ?_
      refine Aa (Ar rfl (Ax (Bt (AE (Br ?_)))))
      refine Ae Ag rfl ?_
      refine Ab rfl (.int .i64 ((i + 1 : Nat) : Int)) (fun b w hb hH => AN rfl rfl rfl rfl (by rw [IntWalk.i64_in _ (by omega)]; omega) hb) ?_
      refine Ae Ag rfl ?_
      refine AP ?_
      exact Cc (i + 1, ov) 0 hi (show l.length - (i + 1) < l.length - i by omega) ⟨rfl, rfl, rfl, rfl, rfl, trivial⟩ rfl
    · skip
      rw [if_neg he] at hnx
      refine Ad ?_
      refine Ae Ag rfl ?_
      refine Ab rfl (BP v (i * 2)) (fun b w hb hH => BF BT ((hH.rdFs 1 rfl hX)) Az (j := i) hx rfl rfl rfl hb) ?_
      refine Ab rfl (BP v (i * 2 + 0)) (fun b w hb hH => IS BT (by decide) ((hH.rdFs 1 rfl hX)) (j := i) hx BB rfl rfl hb) ?_
      refine Ab rfl (.string (bs x.n)) (fun b w hb hH => Bm BT (by decide) ((hH.rdFs 1 rfl hX)) (j := i) hx Ba (off := 0) rfl rfl rfl hb) ?_
      refine Ae Ag rfl ?_
      refine Ab rfl (.bool true) (fun b w hb hH => HP (by simpa using he) rfl rfl rfl hb) ?_
      refine Aa (AC rfl (Br ?_))
      refine Ae Ag rfl ?_
      refine Ab rfl (BP v (i * 2)) (fun b w hb hH => BF BT ((hH.rdFs 1 rfl hX)) Az (j := i) hx rfl rfl rfl hb) ?_
      refine Ab rfl (.agg (encRF x).toArray) (fun b w hb hH => Ih BT (by decide) ((hH.rdFs 1 rfl hX)) (j := i) hx D7 rfl rfl hb) ?_
      refine Aj (X := Value) (val := fun v : Value => v) (post := fun ub => [As 52 2 encRF ub ([x]), As 52 2 encRF ov (DV (l.take i) n), X]) rfl (by refine GZ (e := 52) (t := 53) (k := 2) (enc := encRF) (x := .tmp 24) (c := .agg (encRF x).toArray) ?_ ?_ ?_ x ?_ ?_ ?_; exact Az; exact (by decide); exact BT; exact rfl; exact rfl; exact rfl) ?_; rintro ub
      refine Aj (post := fun ov2 => [As 52 2 encRF ub ([x]), As 52 2 encRF ov2 (DV (l.take (i + 1)) n), X]) rfl (DB 1 Az BT rfl ([x]) (fun w hH => hH.vec 0 rfl BT) (by simp only [List.length_cons, List.length_nil]; omega) rfl rfl rfl hnx.symm) ?_; rintro ov2
      refine Ae Ag rfl ?_
      refine AP (Bt (AE ?_))
      refine Bv.leave [0] rfl rfl ?_
      refine Br ?_
      refine Ae Ag rfl ?_
      refine Ab rfl (.int .i64 ((i + 1 : Nat) : Int)) (fun b w hb hH => AN rfl rfl rfl rfl (by rw [IntWalk.i64_in _ (by omega)]; omega) hb) ?_
      refine Ae Ag rfl ?_
      refine AP ?_
      exact Cc (i + 1, ov2) 0 hi (show l.length - (i + 1) < l.length - i by omega) ⟨rfl, rfl, rfl, rfl, rfl, trivial⟩ rfl
  · skip
    have ho : DV (l.take i) n = m := by rw [List.take_of_length_le hi]; exact hm
    rw [ho]
    refine Ad ?_
    refine Ae Ag rfl ?_
    refine Ab rfl (.int .i64 (l.length : Int)) (fun b w hb hH => AT ((hH.rdFs 1 rfl hX)) Tryz.underlying53 rfl rfl hb) ?_
    refine Ab rfl (.bool false) (fun b w hb hH => AV rfl rfl rfl (Bn (by omega)) hb) ?_
    refine Aa (Ar rfl (Cu (E0 (E0 (Bh (AE (Ad ?_)))))))
    refine Ae Ag rfl ?_
    refine Aa (Ay ?_)
    exact Av (.tmp rfl) (fun w h => AB ov rfl [1, 0] rfl h Cl) rfl
def Hf (l : List RFl) (n d : List UInt8) (fv rv : Value) : Ass := fun rs => ∃ A c, fv = .slice A d.length c ∧ As 52 2 encRF rv (D0 l ⟨n, A, c, d⟩) rs
theorem Mg {X : Ass} {l : List RFl} {n d : List UInt8} {A : Option Addr} {c : Nat} {rv : Value} : ∀ rs, Ap [X, As 5 1 encB (.slice A d.length c) d, As 52 2 encRF rv (D0 l ⟨n, A, c, d⟩)] rs → ∃ z, rs.Perm z ∧ Ap [X, As 5 1 encB (.slice A d.length c) d, Hf l n d (.slice A d.length c) rv] z := fun rs h => by
 obtain ⟨a, _, rfl, h1, b, _, rfl, h2, h3⟩ := h
 exact ⟨_, .refl _, a, _, rfl, h1, b, _, rfl, h2, Ap.one ⟨A, c, rfl, Ap.one' h3⟩⟩
theorem RP (m : List RFl) (f : RFl) (i : Nat) : (∃ x, m[i]? = some x ∧ Ix x.n f.n = true) ∨ (∃ x, m[i]? = some x ∧ Ix x.n f.n = false) ∨ m.length ≤ i := by
  rcases Nat.lt_or_ge i m.length with h | h
  · obtain ⟨x, hx⟩ : ∃ x, m[i]? = some x := ⟨_, List.getElem?_eq_getElem h⟩
    cases hl : Ix x.n f.n
    · exact .inr (.inl ⟨x, hx, hl⟩)
    · exact .inl ⟨x, hx, hl⟩
  · exact .inr (.inr h)
theorem MX {X : Ass} {v fv : Value} {l : List RFl} {n d : List UInt8} (hX : Ff X v l) (hl : l.length ≤ 1000000) : AU Tryz.prog 82 #[v, .agg #[.string (bs n), fv]] [X, As 5 1 encB fv d] (fun (rv : Value) => rv) (fun (rv : Value) => [X, As 5 1 encB fv d, Hf l n d fv rv]) := by
  refine Bd (args := [v, .agg #[.string (bs n), fv]]) 39 Tryz.func82 rfl rfl rfl ?_; intro w rs
  refine Bv.fact 1 rfl (fun _ h => As.is h) ?_; rintro ⟨A, c, rfl⟩
  refine Ad ?_
  refine Ae Ag rfl ?_
  refine Aj (post := fun g3 => [cell g3 52 #[.string (bs n), .slice A d.length c], X, As 5 1 encB (.slice A d.length c) d]) rfl (CC (cs := #[.string (bs n), .slice A d.length c]) rfl rfl rfl) ?_; rintro g3
  refine Ae Ag rfl ?_
  refine Aa (Ad ?_)
  refine Ae Ag rfl ?_
  refine Ab rfl (.string (bs n)) (fun b w hb hH => A6 rfl rfl (Bk Ba rfl) (hH.row 0 rfl) hb) ?_
  refine Aj rfl (Al (os' := fun v1 => [As 52 2 encRF v1 (DV l n), cell g3 52 #[.string (bs n), .slice A d.length c], X, As 5 1 encB (.slice A d.length c) d]) [1] 0 (Ah Tryz.func83 (by kernel_rfl) rfl) (Ji hX hl rfl) rfl rfl rfl (fun _ => rfl) rfl rfl rfl) ?_; rintro v1
  obtain ⟨m, hm⟩ : ∃ m, DV l n = m := ⟨_, rfl⟩
  have hml : m.length ≤ 1000000 := by rw [← hm]; exact Nat.le_trans (List.length_filter_le ..) hl
  rw [hm]
  refine Ae Ag rfl ?_
  refine Aa (Ad ?_)
  refine Ae Ag rfl ?_
  refine Aa (Aq (Bb ?_))
  refine CO (α := Nat) (fun i => [(3, .pointer (some ⟨g3, 0, none⟩)), (4, .slice none 0 0), (0, v1), (5, .int .i64 ((i : Nat) : Int))]) (fun i => [As 52 2 encRF v1 m, cell g3 52 #[.string (bs n), .slice A d.length c], X, As 5 1 encB (.slice A d.length c) d]) (fun i => i ≤ m.length ∧ ∀ (j : Nat) (x : RFl), j < i → m[j]? = some x → Ix x.n n = true) (fun i => m.length - i) 0 ⟨Nat.zero_le _, fun j x h => absurd h (Nat.not_lt_zero j)⟩ ⟨rfl, rfl, rfl, rfl, trivial⟩ rfl ?_
  rintro i hI
  refine Bv.at_ (env' := [(3, .pointer (some ⟨g3, 0, none⟩)), (4, .slice none 0 0), (0, v1), (5, .int .i64 ((i : Nat) : Int))]) (rs' := [As 52 2 encRF v1 m, cell g3 52 #[.string (bs n), .slice A d.length c], X, As 5 1 encB (.slice A d.length c) d]) ⟨rfl, rfl, rfl, rfl, trivial⟩ rfl ?_
  have hI1 := hI.1
  have hI2 := hI.2
  refine Aq ?_
  rcases RP m (⟨n, A, c, d⟩ : RFl) i with ⟨x, hx, hlt⟩ | ⟨x, hx, hlt⟩ | hi
  · skip
    have hi := (List.getElem?_eq_some_iff.1 hx).1
    refine Aq ?_
    refine BO 14 0 [⟨.quiet, [], fun _ => .int .i64 ((i : Nat) : Int), []⟩, ⟨.quiet, [], fun _ => v1, []⟩, ⟨.quiet, [], fun _ => .int .i64 (m.length : Int), [1]⟩, ⟨.quiet, [], fun _ => .bool true, [0, 2]⟩, ⟨.quiet, [], fun _ => .bool true, [3]⟩, ⟨.quiet, [], fun _ => v1, [4]⟩, ⟨.quiet, [], fun _ => .int .i64 ((i : Nat) : Int), [4]⟩, ⟨.quiet, [], fun _ => BP v1 (i * 2), [5, 6, 4]⟩, ⟨.quiet, [], fun _ => BP v1 (i * 2 + 0), [7, 4]⟩, ⟨.quiet, [], fun _ => .string (bs x.n), [8, 4]⟩, ⟨.quiet, [], fun _ => .pointer (some ⟨g3, 0, none⟩), [4]⟩, ⟨.quiet, [], fun _ => .string (bs n), [10, 4]⟩, ⟨.quiet, [], fun _ => .bool true, [9, 11, 4]⟩, ⟨.quiet, [], fun _ => .bool true, [4, 12]⟩] [(3, .pointer (some ⟨g3, 0, none⟩)), (4, .slice none 0 0), (0, v1), (5, .int .i64 ((i : Nat) : Int))] (fun _ => [As 52 2 encRF v1 m, cell g3 52 #[.string (bs n), .slice A d.length c], X, As 5 1 encB (.slice A d.length c) d]) (by kernel_rfl) (by kernel_rfl) ⟨rfl, rfl, rfl, rfl, trivial⟩ rfl ?_ ?_
    · skip
      refine Ac (by exact ⟨rfl, fun b w hH hb => Af Ag rfl hb⟩) ?_
      refine Ac (by exact ⟨rfl, fun b w hH hb => Af Ag rfl hb⟩) ?_
      refine Ac (by exact ⟨rfl, fun b w hH hb => AT ((hH.rdFs 0 rfl CT)) Tryz.underlying53 rfl rfl hb⟩) ?_
      refine Ac (by exact ⟨rfl, fun b w hH hb => AV rfl rfl rfl (A7 (by omega)) hb⟩) ?_
      refine Ac (by exact ⟨rfl, fun b w hH hb => Af Ag rfl hb⟩) ?_
      refine Ac (by exact ⟨rfl, fun b w hH hb => Af Ag rfl hb⟩) ?_
      refine Ac (by exact ⟨rfl, fun b w hH hb => Af Ag rfl hb⟩) ?_
      refine Ac (by exact ⟨rfl, fun b w hH hb => BF BT ((hH.rdFs 0 rfl CT)) Az (j := i) hx rfl rfl rfl hb⟩) ?_
      refine Ac (by exact ⟨rfl, fun b w hH hb => IS BT (by decide) ((hH.rdFs 0 rfl CT)) (j := i) hx BB rfl rfl hb⟩) ?_
      refine Ac (by exact ⟨rfl, fun b w hH hb => Bm BT (by decide) ((hH.rdFs 0 rfl CT)) (j := i) hx Ba (off := 0) rfl rfl rfl hb⟩) ?_
      refine Ac (by exact ⟨rfl, fun b w hH hb => Af Ag rfl hb⟩) ?_
      refine Ac (by exact ⟨rfl, fun b w hH hb => A6 rfl rfl (Bk Ba rfl) (hH.row 1 rfl) hb⟩) ?_
      refine Ac (by exact ⟨rfl, fun b w hH hb => (LN rfl rfl rfl hb).trans (by rw [show Op.bytesLess x.n n = true from hlt])⟩) ?_
      refine Ac (by exact ⟨rfl, fun b w hH hb => Af Ag rfl hb⟩) ?_
      exact B2
    refine Cg.keep (env' := [(3, .pointer (some ⟨g3, 0, none⟩)), (4, .slice none 0 0), (0, v1), (5, .int .i64 ((i : Nat) : Int)), (11, .int .i64 ((i : Nat) : Int)), (12, v1), (13, .int .i64 (m.length : Int)), (14, .bool true), (15, .bool true), (16, v1), (17, .int .i64 ((i : Nat) : Int)), (18, BP v1 (i * 2)), (19, BP v1 (i * 2 + 0)), (20, .string (bs x.n)), (21, .pointer (some ⟨g3, 0, none⟩)), (22, .string (bs n)), (23, .bool true), (24, .bool true)]) ⟨rfl, rfl, rfl, rfl, rfl, rfl, rfl, rfl, rfl, rfl, rfl, rfl, rfl, rfl, rfl, rfl, rfl, rfl, trivial⟩ ?_
    refine AP (AE (AC rfl (Ax (AE (Bb (Br ?_))))))
    refine Ae Ag rfl ?_
    refine Ab rfl (.int .i64 ((i + 1 : Nat) : Int)) (fun b w hb hH => AN rfl rfl rfl rfl (by rw [IntWalk.i64_in _ (by omega)]; omega) hb) ?_
    refine Ae Ag rfl ?_
    refine AP (Bt ?_)
    exact Cc (i + 1) 0 ⟨hi, fun j y hj hy => by rcases Nat.lt_or_ge j i with h | h; exact hI2 j y h hy; (obtain rfl : j = i := by omega); rw [hx] at hy; cases hy; exact hlt⟩ (show m.length - (i + 1) < m.length - i by omega) ⟨rfl, rfl, rfl, rfl, trivial⟩ rfl
  · skip
    have hfin : m.take i ++ [(⟨n, A, c, d⟩ : RFl)] ++ m.drop i = D0 l (⟨n, A, c, d⟩ : RFl) := by unfold D0; rw [show DV l (⟨n, A, c, d⟩ : RFl).n = m from hm]; exact (Oj (f := (⟨n, A, c, d⟩ : RFl)) hI1 hI2 (fun y hy => by rw [hx] at hy; cases hy; exact hlt)).symm
    refine Aq ?_
    refine BO 14 0 [⟨.quiet, [], fun _ => .int .i64 ((i : Nat) : Int), []⟩, ⟨.quiet, [], fun _ => v1, []⟩, ⟨.quiet, [], fun _ => .int .i64 (m.length : Int), [1]⟩, ⟨.quiet, [], fun _ => .bool true, [0, 2]⟩, ⟨.quiet, [], fun _ => .bool true, [3]⟩, ⟨.quiet, [], fun _ => v1, [4]⟩, ⟨.quiet, [], fun _ => .int .i64 ((i : Nat) : Int), [4]⟩, ⟨.quiet, [], fun _ => BP v1 (i * 2), [5, 6, 4]⟩, ⟨.quiet, [], fun _ => BP v1 (i * 2 + 0), [7, 4]⟩, ⟨.quiet, [], fun _ => .string (bs x.n), [8, 4]⟩, ⟨.quiet, [], fun _ => .pointer (some ⟨g3, 0, none⟩), [4]⟩, ⟨.quiet, [], fun _ => .string (bs n), [10, 4]⟩, ⟨.quiet, [], fun _ => .bool false, [9, 11, 4]⟩, ⟨.quiet, [], fun _ => .bool false, [4, 12]⟩] [(3, .pointer (some ⟨g3, 0, none⟩)), (4, .slice none 0 0), (0, v1), (5, .int .i64 ((i : Nat) : Int))] (fun _ => [As 52 2 encRF v1 m, cell g3 52 #[.string (bs n), .slice A d.length c], X, As 5 1 encB (.slice A d.length c) d]) (by kernel_rfl) (by kernel_rfl) ⟨rfl, rfl, rfl, rfl, trivial⟩ rfl ?_ ?_
    · skip
      refine Ac (by exact ⟨rfl, fun b w hH hb => Af Ag rfl hb⟩) ?_
      refine Ac (by exact ⟨rfl, fun b w hH hb => Af Ag rfl hb⟩) ?_
      refine Ac (by exact ⟨rfl, fun b w hH hb => AT ((hH.rdFs 0 rfl CT)) Tryz.underlying53 rfl rfl hb⟩) ?_
      refine Ac (by exact ⟨rfl, fun b w hH hb => AV rfl rfl rfl (A7 (by have := (List.getElem?_eq_some_iff.1 hx).1; omega)) hb⟩) ?_
      refine Ac (by exact ⟨rfl, fun b w hH hb => Af Ag rfl hb⟩) ?_
      refine Ac (by exact ⟨rfl, fun b w hH hb => Af Ag rfl hb⟩) ?_
      refine Ac (by exact ⟨rfl, fun b w hH hb => Af Ag rfl hb⟩) ?_
      refine Ac (by exact ⟨rfl, fun b w hH hb => BF BT ((hH.rdFs 0 rfl CT)) Az (j := i) hx rfl rfl rfl hb⟩) ?_
      refine Ac (by exact ⟨rfl, fun b w hH hb => IS BT (by decide) ((hH.rdFs 0 rfl CT)) (j := i) hx BB rfl rfl hb⟩) ?_
      refine Ac (by exact ⟨rfl, fun b w hH hb => Bm BT (by decide) ((hH.rdFs 0 rfl CT)) (j := i) hx Ba (off := 0) rfl rfl rfl hb⟩) ?_
      refine Ac (by exact ⟨rfl, fun b w hH hb => Af Ag rfl hb⟩) ?_
      refine Ac (by exact ⟨rfl, fun b w hH hb => A6 rfl rfl (Bk Ba rfl) (hH.row 1 rfl) hb⟩) ?_
      refine Ac (by exact ⟨rfl, fun b w hH hb => (LN rfl rfl rfl hb).trans (by rw [show Op.bytesLess x.n n = false from hlt])⟩) ?_
      refine Ac (by exact ⟨rfl, fun b w hH hb => Af Ag rfl hb⟩) ?_
      exact B2
    refine Cg.keep (env' := [(3, .pointer (some ⟨g3, 0, none⟩)), (4, .slice none 0 0), (0, v1), (5, .int .i64 ((i : Nat) : Int)), (11, .int .i64 ((i : Nat) : Int)), (12, v1), (13, .int .i64 (m.length : Int)), (14, .bool true), (15, .bool true), (16, v1), (17, .int .i64 ((i : Nat) : Int)), (18, BP v1 (i * 2)), (19, BP v1 (i * 2 + 0)), (20, .string (bs x.n)), (21, .pointer (some ⟨g3, 0, none⟩)), (22, .string (bs n)), (23, .bool false), (24, .bool false)]) ⟨rfl, rfl, rfl, rfl, rfl, rfl, rfl, rfl, rfl, rfl, rfl, rfl, rfl, rfl, rfl, rfl, rfl, rfl, trivial⟩ ?_
    refine AP (AE (Ar rfl (Cu (E0 (E0 (Bh (AE (Ad ?_))))))))
    refine Ae Ag rfl ?_
    refine Aa ?_
    refine B4 52 2 encRF ?_
    refine Aq ?_
    refine EF 1 rfl ?_
    refine BO 12 4 [⟨.quiet, [none, none, none, none], fun _ => .slice none 0 0, []⟩, ⟨.quiet, [none, none, none, none], fun _ => v1, []⟩, ⟨.quiet, [none, none, none, none], fun _ => .int .i64 ((i : Nat) : Int), []⟩, ⟨.quiet, [none, none, none, none], fun _ => Cm 2 v1 0 i, [1, 2]⟩, ⟨.act 0, [some false, none, some false, some false], fun _ => undef, [0, 3]⟩, ⟨.quiet, [none, none, none, none], fun _ => .agg #[.string (bs n), .slice A d.length c], []⟩, ⟨.act 1, [none, some false, some false, some false], fun _ => undef, [5]⟩, ⟨.act 2, [some true, some true, some false, some false], fun _ => undef, [4, 6]⟩, ⟨.quiet, [none, none, none, none], fun _ => v1, []⟩, ⟨.quiet, [none, none, none, none], fun _ => .int .i64 ((i : Nat) : Int), []⟩, ⟨.quiet, [none, none, none, none], fun _ => Cm 2 v1 i m.length, [8, 9]⟩, ⟨.act 3, [some true, some true, some true, some false], fun _ => undef, [7, 10]⟩] [(3, .pointer (some ⟨g3, 0, none⟩)), (4, .slice none 0 0), (0, v1), (5, .int .i64 ((i : Nat) : Int)), (6, .slice none 0 0)] (fun ρ => match ρ with | [r0, r1, r2, r3] => [CD r1 (fun fb => As 52 2 encRF fb ([(⟨n, A, c, d⟩ : RFl)])) (D1), CD r3 (fun w3 => As 52 2 encRF w3 (D0 l (⟨n, A, c, d⟩ : RFl))) (CD r2 (fun w2 => As 52 2 encRF w2 (m.take i ++ [(⟨n, A, c, d⟩ : RFl)])) (CD r0 (fun w1 => As 52 2 encRF w1 (m.take i)) (As 52 2 encRF (.slice none 0 0) ([])))), As 52 2 encRF v1 m, cell g3 52 #[.string (bs n), .slice A d.length c], X, As 5 1 encB (.slice A d.length c) d] | _ => []) (by kernel_rfl) (by kernel_rfl) ⟨rfl, rfl, rfl, rfl, rfl, trivial⟩ rfl ?_ ?_
    · skip
      refine Ac (by intro r0_ r1_ r2_ r3_; exact ⟨rfl, fun b w hH hb => Af Ag rfl hb⟩) ?_
      refine Ac (by intro r0_ r1_ r2_ r3_; exact ⟨rfl, fun b w hH hb => Af Ag rfl hb⟩) ?_
      refine Ac (by intro r0_ r1_ r2_ r3_; exact ⟨rfl, fun b w hH hb => Af Ag rfl hb⟩) ?_
      refine Ac (by intro r0_ r1_ r2_ r3_; exact ⟨rfl, fun b w hH hb => Ho 2 (b := i) Az rfl hI1 rfl rfl rfl hH hb⟩) ?_
      refine Ac (by intro r1_; exact ⟨rfl, Bp.s (DB 1 Az BT rfl (m.take i) (fun w hH => hH.vecq 2 rfl BT (Nat.zero_le _) hI1 (m := m.take i) (by simp)) (by simp only [List.length_nil, List.length_take]; omega) rfl rfl rfl (List.nil_append _)) (fun _ => rfl)⟩) ?_
      refine Ac (by intro r0_ r1_ r2_ r3_; exact ⟨rfl, fun b w hH hb => A6 rfl rfl (D3 (cs := [.string (bs n), .slice A d.length c]) D7 rfl) (hH.row 3 rfl) hb⟩) ?_
      refine Ac (by intro r0_; exact ⟨rfl, Bp.s (Bp.place (val := fun fb : Value => fb) (t := fun fb => As 52 2 encRF fb ([(⟨n, A, c, d⟩ : RFl)])) (os' := fun fb => [As 52 2 encRF fb ([(⟨n, A, c, d⟩ : RFl)]), CD r0_ (fun w1 => As 52 2 encRF w1 (m.take i)) (As 52 2 encRF (.slice none 0 0) ([])), As 52 2 encRF v1 m, cell g3 52 #[.string (bs n), .slice A d.length c], X, As 5 1 encB (.slice A d.length c) d]) 0 rfl (by refine GZ (e := 52) (t := 53) (k := 2) (enc := encRF) (x := .tmp 32) (c := .agg #[.string (bs n), .slice A d.length c]) ?_ ?_ ?_ (⟨n, A, c, d⟩ : RFl) ?_ ?_ ?_; exact Az; exact (by decide); exact BT; exact rfl; exact rfl; exact rfl) (fun _ => rfl)) (fun _ => rfl)⟩) ?_
      refine Ac (by intro w1 fb; exact ⟨rfl, Bp.s (DB 1 Az BT rfl ([(⟨n, A, c, d⟩ : RFl)]) (fun w hH => hH.vec 0 rfl BT) (by simp only [List.length_cons, List.length_nil, List.length_take]; omega) rfl rfl rfl rfl) (fun _ => rfl)⟩) ?_
      refine Ac (by intro r0_ r1_ r2_ r3_; exact ⟨rfl, fun b w hH hb => Af Ag rfl hb⟩) ?_
      refine Ac (by intro r0_ r1_ r2_ r3_; exact ⟨rfl, fun b w hH hb => Af Ag rfl hb⟩) ?_
      refine Ac (by intro r0_ r1_ r2_ r3_; exact ⟨rfl, fun b w hH hb => Js 2 (a := i) Az rfl hI1 rfl rfl rfl hH hb⟩) ?_
      refine Ac (by intro w1 fb w2; exact ⟨rfl, Bp.s (DB 1 Az BT rfl (m.drop i) (fun w hH => hH.vecq 2 rfl BT hI1 (Nat.le_refl _) (m := m.drop i) (by simp)) (by simp only [List.length_append, List.length_cons, List.length_nil, List.length_take, List.length_drop]; omega) rfl rfl rfl hfin) (fun _ => rfl)⟩) ?_
      exact B2
    intro w1 fb w2 w3
    refine Cg.keep (env' := [(4, .slice none 0 0), (38, w3)]) ⟨rfl, rfl, trivial⟩ ?_
    refine Ae Ag rfl ?_
    refine AP (AE (Ay ?_))
    exact Av (.tmp rfl) (fun w h => AB w3 rfl [4, 5, 1] rfl h Mg) rfl
  · skip
    have hfin : m.take i ++ [(⟨n, A, c, d⟩ : RFl)] ++ m.drop i = D0 l (⟨n, A, c, d⟩ : RFl) := by unfold D0; rw [show DV l (⟨n, A, c, d⟩ : RFl).n = m from hm]; exact (Oj (f := (⟨n, A, c, d⟩ : RFl)) hI1 hI2 (fun y hy => by rw [List.getElem?_eq_none hi] at hy; cases hy)).symm
    refine Aq ?_
    refine BO 14 0 [⟨.quiet, [], fun _ => .int .i64 ((i : Nat) : Int), []⟩, ⟨.quiet, [], fun _ => v1, []⟩, ⟨.quiet, [], fun _ => .int .i64 (m.length : Int), [1]⟩, ⟨.quiet, [], fun _ => .bool false, [0, 2]⟩, ⟨.quiet, [], fun _ => .bool false, [3]⟩, ⟨.skip, [], fun _ => undef, [4]⟩, ⟨.skip, [], fun _ => undef, [4]⟩, ⟨.skip, [], fun _ => undef, [5, 6, 4]⟩, ⟨.skip, [], fun _ => undef, [7, 4]⟩, ⟨.skip, [], fun _ => undef, [8, 4]⟩, ⟨.skip, [], fun _ => undef, [4]⟩, ⟨.skip, [], fun _ => undef, [10, 4]⟩, ⟨.skip, [], fun _ => undef, [9, 11, 4]⟩, ⟨.quiet, [], fun _ => .bool false, [4, 12]⟩] [(3, .pointer (some ⟨g3, 0, none⟩)), (4, .slice none 0 0), (0, v1), (5, .int .i64 ((i : Nat) : Int))] (fun _ => [As 52 2 encRF v1 m, cell g3 52 #[.string (bs n), .slice A d.length c], X, As 5 1 encB (.slice A d.length c) d]) (by kernel_rfl) (by kernel_rfl) ⟨rfl, rfl, rfl, rfl, trivial⟩ rfl ?_ ?_
    · skip
      refine Ac (by exact ⟨rfl, fun b w hH hb => Af Ag rfl hb⟩) ?_
      refine Ac (by exact ⟨rfl, fun b w hH hb => Af Ag rfl hb⟩) ?_
      refine Ac (by exact ⟨rfl, fun b w hH hb => AT ((hH.rdFs 0 rfl CT)) Tryz.underlying53 rfl rfl hb⟩) ?_
      refine Ac (by exact ⟨rfl, fun b w hH hb => AV rfl rfl rfl (Bn (by omega)) hb⟩) ?_
      refine Ac (by exact ⟨rfl, fun b w hH hb => Af Ag rfl hb⟩) ?_
      refine Ac (by exact ⟨rfl, rfl⟩) ?_
      refine Ac (by exact ⟨rfl, rfl⟩) ?_
      refine Ac (by exact ⟨rfl, rfl⟩) ?_
      refine Ac (by exact ⟨rfl, rfl⟩) ?_
      refine Ac (by exact ⟨rfl, rfl⟩) ?_
      refine Ac (by exact ⟨rfl, rfl⟩) ?_
      refine Ac (by exact ⟨rfl, rfl⟩) ?_
      refine Ac (by exact ⟨rfl, rfl⟩) ?_
      refine Ac (by exact ⟨rfl, fun b w hH hb => Af Ag rfl hb⟩) ?_
      exact B2
    refine Cg.keep (env' := [(3, .pointer (some ⟨g3, 0, none⟩)), (4, .slice none 0 0), (0, v1), (5, .int .i64 ((i : Nat) : Int)), (11, .int .i64 ((i : Nat) : Int)), (12, v1), (13, .int .i64 (m.length : Int)), (14, .bool false), (15, .bool false), (16, undef), (17, undef), (18, undef), (19, undef), (20, undef), (21, undef), (22, undef), (23, undef), (24, .bool false)]) ⟨rfl, rfl, rfl, rfl, rfl, rfl, rfl, rfl, rfl, rfl, rfl, rfl, rfl, rfl, rfl, rfl, rfl, rfl, trivial⟩ ?_
    refine AP (AE (Ar rfl (Cu (E0 (E0 (Bh (AE (Ad ?_))))))))
    refine Ae Ag rfl ?_
    refine Aa ?_
    refine B4 52 2 encRF ?_
    refine Aq ?_
    refine EF 1 rfl ?_
    refine BO 12 4 [⟨.quiet, [none, none, none, none], fun _ => .slice none 0 0, []⟩, ⟨.quiet, [none, none, none, none], fun _ => v1, []⟩, ⟨.quiet, [none, none, none, none], fun _ => .int .i64 ((i : Nat) : Int), []⟩, ⟨.quiet, [none, none, none, none], fun _ => Cm 2 v1 0 i, [1, 2]⟩, ⟨.act 0, [some false, none, some false, some false], fun _ => undef, [0, 3]⟩, ⟨.quiet, [none, none, none, none], fun _ => .agg #[.string (bs n), .slice A d.length c], []⟩, ⟨.act 1, [none, some false, some false, some false], fun _ => undef, [5]⟩, ⟨.act 2, [some true, some true, some false, some false], fun _ => undef, [4, 6]⟩, ⟨.quiet, [none, none, none, none], fun _ => v1, []⟩, ⟨.quiet, [none, none, none, none], fun _ => .int .i64 ((i : Nat) : Int), []⟩, ⟨.quiet, [none, none, none, none], fun _ => Cm 2 v1 i m.length, [8, 9]⟩, ⟨.act 3, [some true, some true, some true, some false], fun _ => undef, [7, 10]⟩] [(3, .pointer (some ⟨g3, 0, none⟩)), (4, .slice none 0 0), (0, v1), (5, .int .i64 ((i : Nat) : Int)), (6, .slice none 0 0)] (fun ρ => match ρ with | [r0, r1, r2, r3] => [CD r1 (fun fb => As 52 2 encRF fb ([(⟨n, A, c, d⟩ : RFl)])) (D1), CD r3 (fun w3 => As 52 2 encRF w3 (D0 l (⟨n, A, c, d⟩ : RFl))) (CD r2 (fun w2 => As 52 2 encRF w2 (m.take i ++ [(⟨n, A, c, d⟩ : RFl)])) (CD r0 (fun w1 => As 52 2 encRF w1 (m.take i)) (As 52 2 encRF (.slice none 0 0) ([])))), As 52 2 encRF v1 m, cell g3 52 #[.string (bs n), .slice A d.length c], X, As 5 1 encB (.slice A d.length c) d] | _ => []) (by kernel_rfl) (by kernel_rfl) ⟨rfl, rfl, rfl, rfl, rfl, trivial⟩ rfl ?_ ?_
    · skip
      refine Ac (by intro r0_ r1_ r2_ r3_; exact ⟨rfl, fun b w hH hb => Af Ag rfl hb⟩) ?_
      refine Ac (by intro r0_ r1_ r2_ r3_; exact ⟨rfl, fun b w hH hb => Af Ag rfl hb⟩) ?_
      refine Ac (by intro r0_ r1_ r2_ r3_; exact ⟨rfl, fun b w hH hb => Af Ag rfl hb⟩) ?_
      refine Ac (by intro r0_ r1_ r2_ r3_; exact ⟨rfl, fun b w hH hb => Ho 2 (b := i) Az rfl hI1 rfl rfl rfl hH hb⟩) ?_
      refine Ac (by intro r1_; exact ⟨rfl, Bp.s (DB 1 Az BT rfl (m.take i) (fun w hH => hH.vecq 2 rfl BT (Nat.zero_le _) hI1 (m := m.take i) (by simp)) (by simp only [List.length_nil, List.length_take]; omega) rfl rfl rfl (List.nil_append _)) (fun _ => rfl)⟩) ?_
      refine Ac (by intro r0_ r1_ r2_ r3_; exact ⟨rfl, fun b w hH hb => A6 rfl rfl (D3 (cs := [.string (bs n), .slice A d.length c]) D7 rfl) (hH.row 3 rfl) hb⟩) ?_
      refine Ac (by intro r0_; exact ⟨rfl, Bp.s (Bp.place (val := fun fb : Value => fb) (t := fun fb => As 52 2 encRF fb ([(⟨n, A, c, d⟩ : RFl)])) (os' := fun fb => [As 52 2 encRF fb ([(⟨n, A, c, d⟩ : RFl)]), CD r0_ (fun w1 => As 52 2 encRF w1 (m.take i)) (As 52 2 encRF (.slice none 0 0) ([])), As 52 2 encRF v1 m, cell g3 52 #[.string (bs n), .slice A d.length c], X, As 5 1 encB (.slice A d.length c) d]) 0 rfl (by refine GZ (e := 52) (t := 53) (k := 2) (enc := encRF) (x := .tmp 32) (c := .agg #[.string (bs n), .slice A d.length c]) ?_ ?_ ?_ (⟨n, A, c, d⟩ : RFl) ?_ ?_ ?_; exact Az; exact (by decide); exact BT; exact rfl; exact rfl; exact rfl) (fun _ => rfl)) (fun _ => rfl)⟩) ?_
      refine Ac (by intro w1 fb; exact ⟨rfl, Bp.s (DB 1 Az BT rfl ([(⟨n, A, c, d⟩ : RFl)]) (fun w hH => hH.vec 0 rfl BT) (by simp only [List.length_cons, List.length_nil, List.length_take]; omega) rfl rfl rfl rfl) (fun _ => rfl)⟩) ?_
      refine Ac (by intro r0_ r1_ r2_ r3_; exact ⟨rfl, fun b w hH hb => Af Ag rfl hb⟩) ?_
      refine Ac (by intro r0_ r1_ r2_ r3_; exact ⟨rfl, fun b w hH hb => Af Ag rfl hb⟩) ?_
      refine Ac (by intro r0_ r1_ r2_ r3_; exact ⟨rfl, fun b w hH hb => Js 2 (a := i) Az rfl hI1 rfl rfl rfl hH hb⟩) ?_
      refine Ac (by intro w1 fb w2; exact ⟨rfl, Bp.s (DB 1 Az BT rfl (m.drop i) (fun w hH => hH.vecq 2 rfl BT hI1 (Nat.le_refl _) (m := m.drop i) (by simp)) (by simp only [List.length_append, List.length_cons, List.length_nil, List.length_take, List.length_drop]; omega) rfl rfl rfl hfin) (fun _ => rfl)⟩) ?_
      exact B2
    intro w1 fb w2 w3
    refine Cg.keep (env' := [(4, .slice none 0 0), (38, w3)]) ⟨rfl, rfl, trivial⟩ ?_
    refine Ae Ag rfl ?_
    refine AP (AE (Ay ?_))
    exact Av (.tmp rfl) (fun w h => AB w3 rfl [4, 5, 1] rfl h Mg) rfl
end Go.Proofs.YtnknboibmifacaaGreat.Sep
