/-
  RdkS · RdkM · TyG · Lit · RdkA
-/
import Derived.Test.YtjcfimmcogkopaaGreatYA06
import Derived.Test.YtjcfimmcogkopaaGreatYA08
import Derived.Test.YtjcfimmcogkopaaGreatYB01
import Derived.Test.YtjcfimmcogkopaaGreatYB02
import Derived.Test.YtjcfimmcogkopaaGreatYB04
import Derived.Test.YtjcfimmcogkopaaGreatYC01
set_option linter.unusedSimpArgs false
set_option linter.unusedVariables false
set_option maxRecDepth 100000
namespace Go.Proofs.YtjcfimmcogkopaaGreat.Sep
def Ie (a b : List UInt8) : Bool := Op.bytesLess a b
theorem MY : ∀ a, Ie a a = false
  | [] => rfl
  | x :: a => by
    show (decide (x < x) || (x == x && Ie a a)) = false
    rw [MY a]; simp
theorem T0 : ∀ a b c, Ie a b = true → Ie b c = true → Ie a c = true
  | a, [], c, h, _ => by cases a <;> cases h
  | _, _ :: _, [], _, h => by cases h
  | [], _ :: _, _ :: _, _, _ => rfl
  | x :: a, y :: b, z :: c, h, h' => by
    have h1 : (decide (x < y) || (x == y && Ie a b)) = true := h
    have h2 : (decide (y < z) || (y == z && Ie b c)) = true := h'
    show (decide (x < z) || (x == z && Ie a c)) = true
    simp only [Bool.or_eq_true, Bool.and_eq_true, decide_eq_true_eq, beq_iff_eq] at *
    rcases h1 with h1 | ⟨rfl, h1⟩
    · rcases h2 with h2 | ⟨rfl, h2⟩
      · exact .inl (UInt8.lt_trans h1 h2)
      · exact .inl h1
    · rcases h2 with h2 | ⟨rfl, h2⟩
      · exact .inl h2
      · exact .inr ⟨rfl, T0 a b c h1 h2⟩
theorem Q3 : ∀ a b, Ie a b = false → Ie b a = false → a = b
  | [], [], _, _ => rfl
  | [], _ :: _, h, _ => by cases h
  | _ :: _, [], _, h => by cases h
  | x :: a, y :: b, h, h' => by
    have h1 : (decide (x < y) || (x == y && Ie a b)) = false := h
    have h2 : (decide (y < x) || (y == x && Ie b a)) = false := h'
    simp only [Bool.or_eq_false_iff, Bool.and_eq_false_iff, decide_eq_false_iff_not, beq_eq_false_iff_ne] at *
    have hxy : x = y := UInt8.le_antisymm (UInt8.not_lt.1 h2.1) (UInt8.not_lt.1 h1.1)
    subst hxy
    rcases h1.2 with h | h
    · exact absurd rfl h
    · rcases h2.2 with h' | h'
      · exact absurd rfl h'
      · rw [Q3 a b h h']
end Go.Proofs.YtjcfimmcogkopaaGreat.Sep
namespace Go.Proofs.YtjcfimmcogkopaaGreat.Sep
open Go.RowKit
structure RFl where
  n : List UInt8
  A : Option Addr
  c : Nat
  d : List UInt8
def RFl.v (x : RFl) : Value := .slice x.A x.d.length x.c
def encRF (x : RFl) : List Value := [.string (bs x.n), x.v]
theorem BS : EncOf 2 encRF := ⟨fun _ => rfl, fun x v h => by unfold encRF RFl.v at h; simp at h; rcases h with rfl | rfl <;> rfl⟩
instance : Inhabited RFl := ⟨⟨[], none, 0, []⟩⟩
def FT (l : List RFl) : FS := l.map fun x => (x.n, x.d)
def Eg (l : List RFl) : Prop := l.Pairwise fun x y => Ie x.n y.n = true
def DF (l : List RFl) (n : List UInt8) : List RFl := l.filter fun x => decide (x.n ≠ n)
def OA (l : List RFl) (f : RFl) : List RFl := (l.takeWhile fun x => Ie x.n f.n) ++ f :: l.dropWhile fun x => Ie x.n f.n
def DL (l : List RFl) (f : RFl) : List RFl := OA (DF l f.n) f
theorem La (l : List RFl) : AH (FT l) = l.map (·.n) := by unfold AH FT; rw [List.map_map]; rfl
theorem DD {l : List RFl} (h : Eg l) : (AH (FT l)).Nodup := by
 rw [La]
 exact List.Pairwise.map _ (fun x y hxy e => by rw [e, MY] at hxy; cases hxy) h
theorem J9 {l : List RFl} {n : List UInt8} (h : Eg l) : Eg (DF l n) := h.filter _
theorem Gc {l : List RFl} {n : List UInt8} {x : RFl} : x ∈ DF l n ↔ x ∈ l ∧ x.n ≠ n := by unfold DF; rw [List.mem_filter, decide_eq_true_eq]
theorem IY {l : List RFl} {f x : RFl} : x ∈ OA l f ↔ x = f ∨ x ∈ l := by
  have e : l = (l.takeWhile fun x => Ie x.n f.n) ++ l.dropWhile fun x => Ie x.n f.n := (List.takeWhile_append_dropWhile ..).symm
  unfold OA
  rw [List.mem_append, List.mem_cons]
  constructor
  · rintro (h | rfl | h)
    · right; rw [e]; exact List.mem_append.2 (.inl h)
    · exact .inl rfl
    · right; rw [e]; exact List.mem_append.2 (.inr h)
  · rintro (rfl | h)
    · exact .inr (.inl rfl)
    · rw [e] at h
      rcases List.mem_append.1 h with h | h
      · exact .inl h
      · exact .inr (.inr h)
theorem Q4 : ∀ {l : List RFl} {f : RFl}, Eg l → (∀ x, x ∈ l → x.n ≠ f.n) → Eg (OA l f)
  | [], f, _, _ => List.pairwise_singleton _ _
  | y :: l, f, h, hn => by
    have h1 := List.pairwise_cons.1 h
    unfold OA
    cases hy : Ie y.n f.n
    · rw [List.takeWhile_cons, List.dropWhile_cons, if_neg (by simp [hy]), if_neg (by simp [hy])]
      have hfy : Ie f.n y.n = true := by
        cases hf : Ie f.n y.n
        · exact absurd (Q3 _ _ hy hf) (hn y (List.mem_cons_self ..))
        · rfl
      refine List.pairwise_cons.2 ⟨fun x hx => ?_, h⟩
      rcases List.mem_cons.1 hx with rfl | hx
      · exact hfy
      · exact T0 _ _ _ hfy (h1.1 x hx)
    · rw [List.takeWhile_cons, List.dropWhile_cons, if_pos hy, if_pos hy]
      have ih := Q4 (f := f) h1.2 (fun x hx => hn x (List.mem_cons_of_mem _ hx))
      refine List.pairwise_cons.2 ⟨fun x hx => ?_, ih⟩
      rcases IY.1 (show x ∈ OA l f from hx) with rfl | hx
      · exact hy
      · exact h1.1 x hx
theorem OC {l : List RFl} {f : RFl} (h : Eg l) : Eg (DL l f) := Q4 (J9 h) fun x hx => (Gc.1 hx).2
theorem T1 {l : List RFl} {g : FS} {n : List UInt8} (hl : Eg l) (h : (FT l).Perm g) : (FT (DF l n)).Perm (BR g n) := by
  have h1 := DD hl
  have hg : (AH g).Nodup := (CD h).nodup_iff.1 h1
  refine DU (DD (J9 hl)) (BW hg) fun p => ?_
  rw [Dn hg, ← h.mem_iff]
  unfold FT
  simp only [List.mem_map, Gc]
  constructor
  · rintro ⟨x, ⟨hx, hn⟩, rfl⟩; exact ⟨⟨x, hx, rfl⟩, hn⟩
  · rintro ⟨⟨x, hx, rfl⟩, hn⟩; exact ⟨x, ⟨hx, hn⟩, rfl⟩
theorem Vf {l : List RFl} {g : FS} {f : RFl} (hl : Eg l) (h : (FT l).Perm g) : (FT (DL l f)).Perm (Bx g f.n f.d) := by
  have h1 := DD hl
  have hg : (AH g).Nodup := (CD h).nodup_iff.1 h1
  refine DU (DD (OC hl)) (B6 hg) fun p => ?_
  rw [ET hg, ← h.mem_iff]
  unfold FT
  simp only [List.mem_map]
  constructor
  · rintro ⟨x, hx, rfl⟩
    rcases IY.1 hx with rfl | hx
    · exact .inl rfl
    · have := Gc.1 hx
      exact .inr ⟨⟨x, this.1, rfl⟩, this.2⟩
  · rintro (rfl | ⟨⟨x, hx, rfl⟩, hn⟩)
    · exact ⟨f, IY.2 (.inl rfl), rfl⟩
    · exact ⟨x, IY.2 (.inr (Gc.2 ⟨hx, hn⟩)), rfl⟩
theorem OD {l : List RFl} {f : RFl} {i : Nat} (hi : i ≤ l.length) (h1 : ∀ j x, j < i → l[j]? = some x → Ie x.n f.n = true) (h2 : ∀ x, l[i]? = some x → Ie x.n f.n = false) : OA l f = l.take i ++ [f] ++ l.drop i := by
  have e1 : (l.takeWhile fun x => Ie x.n f.n) = l.take i ∧ (l.dropWhile fun x => Ie x.n f.n) = l.drop i := by
    induction l generalizing i with
    | nil => simp
    | cons y l ih =>
      cases i with
      | zero =>
        have := h2 y rfl
        rw [List.takeWhile_cons, List.dropWhile_cons, if_neg (by simp [this]), if_neg (by simp [this])]
        exact ⟨rfl, rfl⟩
      | succ i =>
        have := h1 0 y (Nat.succ_pos _) rfl
        rw [List.takeWhile_cons, List.dropWhile_cons, if_pos this, if_pos this]
        obtain ⟨h3, h4⟩ := ih (i := i) (by simpa using hi) (fun j x hj hx => h1 (j + 1) x (by omega) (by simpa using hx)) (fun x hx => h2 x (by simpa using hx))
        rw [h3, h4]
        exact ⟨rfl, rfl⟩
  unfold OA
  rw [e1.1, e1.2]; simp
theorem T2 {l : List RFl} {n : List UInt8} {i : Nat} {x : RFl} (h : l[i]? = some x) : DF (l.take (i + 1)) n = if x.n = n then DF (l.take i) n else DF (l.take i) n ++ [x] := by
  rw [← F5 h]
  unfold DF
  rw [List.filter_append]
  by_cases hx : x.n = n
  · rw [if_pos hx]; simp [hx]
  · rw [if_neg hx]; simp [hx]
theorem GU {l : List RFl} (hs : Eg l) (n : List UInt8) : (∃ (j : Nat) (x : RFl), l[j]? = some x ∧ x.n = n ∧ (∀ (k : Nat) (y : RFl), k < j → l[k]? = some y → y.n ≠ n) ∧ AL (FT l) n = some x.d) ∨ ((∀ x : RFl, x ∈ l → x.n ≠ n) ∧ AL (FT l) n = none) := by
  by_cases h : ∃ x, x ∈ l ∧ x.n = n
  · left
    obtain ⟨x, hx, hn⟩ := h
    obtain ⟨j, hj⟩ := List.getElem?_of_mem hx
    refine ⟨j, x, hj, hn, fun k y hk hy e => ?_, ?_⟩
    · have hlt := (List.getElem?_eq_some_iff.1 hj).1
      have h1 := List.pairwise_iff_getElem.1 hs k j (by omega) hlt hk
      have e1 := (List.getElem?_eq_some_iff.1 hy).2
      have e2 := (List.getElem?_eq_some_iff.1 hj).2
      rw [e1, e2, e, hn, MY] at h1
      cases h1
    · exact (Cn (DD hs)).2 (List.mem_map.2 ⟨x, hx, by rw [hn]⟩)
  · right
    have h1 : ∀ x, x ∈ l → x.n ≠ n := fun x hx e => h ⟨x, hx, e⟩
    refine ⟨h1, ?_⟩
    rw [Cw, La]
    intro hm
    obtain ⟨x, hx, e⟩ := List.mem_map.1 hm
    exact h1 x hx e
end Go.Proofs.YtjcfimmcogkopaaGreat.Sep
namespace Go.Proofs.YtjcfimmcogkopaaGreat.Sep
open Go.RowKit
open Go.Proofs.YtjcfimmcogkopaaGreat.Mem (AZ Ci Chg Au)
def flG : List ((Nat × Nat) × Nat) := flS
theorem Ai : Ke Tryz.prog flG := An
end Go.Proofs.YtjcfimmcogkopaaGreat.Sep
namespace Go.Proofs.YtjcfimmcogkopaaGreat.Sep
open Go.RowKit
open Go.Proofs.YtjcfimmcogkopaaGreat.Mem (AZ Ci Chg Au)
section lit
variable {P : Program} {e t : TypeId} {l : List UInt8} {v : Value} {B : Nat → Prop} {w0 w w' : World} {os : List Ass} {n : Nat} {env : List (Nat × Value)} {Q : Exit → Act → World → Prop} {o : Oper} {act : Act}
theorem Hf {T T' : TypeId} {x y : Operand} {l m : List UInt8} {c : Bool} (hc : (l != m) = c) (ho : o.op = .binOp .neq T x y T') (hx : evs env x = some (.string (bs l))) (hy : evs env y = some (.string (bs m))) (hF : Fr n act env) : (execOp act.eval o).run P w = .ok (.value (.bool c)) w := by
 unfold execOp
 subst hc
 simp only [ho, hF.evs hx, hF.evs hy]
 simp [eqGuard, binOp, Op.stringOp, Mq, bne]
end lit
theorem Sj {A : Option Addr} {n c j : Nat} : Cp 1 (.slice A n c) 0 j = .slice A j c := by
  show Value.slice (if c = 0 then A else A.map (·.add (0 * 1))) (j - 0) (c - 0) = _
  cases A <;> simp [Addr.add]
end Go.Proofs.YtjcfimmcogkopaaGreat.Sep
namespace Go.Proofs.YtjcfimmcogkopaaGreat.Sep
open Go.RowKit
open Go.Proofs.YtjcfimmcogkopaaGreat.Mem (AZ Ci Chg Au)
def Fh (X : Ass) (v : Value) (l : List RFl) : Prop := ∀ rs w, X rs → RowsOf w rs → DX w 2 v l.length (flat encRF l)
theorem Hp.rdFs {B : Nat → Prop} {w0 w : World} {os : List Ass} {X : Ass} {v : Value} {l : List RFl} (h : Hp B w0 w os) (i : Nat) (hi : os[i]? = some X) (hu : Fh X v l) : DX w 2 v l.length (flat encRF l) := by
 obtain ⟨rs, h1, h2⟩ := h.thing i hi
 exact hu rs w h1 h2
theorem CI {v : Value} {l : List RFl} : Fh (Ap 54 2 encRF v l) v l := fun _ _ h1 h2 => h1.all BS h2
theorem Dw {X : Ass} {v : Value} {l : List RFl} {n : List UInt8} {j : Nat} {y : RFl} (hX : Fh X v l) (hl : l.length ≤ 1000000) (hj : l[j]? = some y) (hy : y.n = n) (hlt : ∀ (k : Nat) (y : RFl), k < j → l[k]? = some y → y.n ≠ n) : AW Tryz.prog 66 #[v, .string (bs n)] [X] (fun (_ : Unit) => .int .i64 (j : Int)) (fun (_ : Unit) => [X]) := by
 have hjl := (List.getElem?_eq_some_iff.1 hj).1
 refine Be (args := [v, .string (bs n)]) 20 Tryz.func66 rfl rfl rfl ?_; intro w rs
 refine Ad (Af Ai rfl (Ab (Aq (Ad (Af Ai rfl (Ab (Bm (C9 (α := Nat) (fun i => [(0, v), (1, .string (bs n)), (4, .int .i64 0), (5, .int .i64 ((i : Nat) : Int))]) (fun i => [X]) (fun i => i ≤ j) (fun i => l.length - i) 0 (by omega) ⟨rfl, rfl, rfl, rfl, trivial⟩ rfl ?_))))))))
 rintro i hI
 refine Bv.at_ (env' := [(0, v), (1, .string (bs n)), (4, .int .i64 0), (5, .int .i64 ((i : Nat) : Int))]) (rs' := [X]) ⟨rfl, rfl, rfl, rfl, trivial⟩ rfl (Aq ?_)
 rcases Nat.lt_or_ge i j with hi | hi
 obtain ⟨x, hx⟩ : ∃ x, l[i]? = some x := ⟨_, List.getElem?_eq_getElem (by omega)⟩
 refine Ad (Af Ai rfl (Ac rfl (.int .i64 (l.length : Int)) (fun b w hb hH => AY ((hH.rdFs 0 rfl hX)) Tryz.underlying55 rfl rfl hb) (Ac rfl (.bool true) (fun b w hb hH => Bc rfl rfl rfl (BN (by omega)) hb) (Ab (AI rfl (AC (AO (Aq (Bm (Ad (Af Ai rfl (Ac rfl (Cs v (i * 2)) (fun b w hb hH => BH BS ((hH.rdFs 0 rfl hX)) Ar (j := i) hx rfl rfl rfl hb) (Ac rfl (Cs v (i * 2 + 0)) (fun b w hb hH => M8 BS (by decide) ((hH.rdFs 0 rfl hX)) (j := i) hx Bu rfl rfl hb) (Ac rfl (.string (bs x.n)) (fun b w hb hH => By BS (by decide) ((hH.rdFs 0 rfl hX)) (j := i) hx AX (off := 0) rfl rfl rfl hb) (Af Ai rfl ?_)))))))))))))))
 refine Ac rfl (.bool false) (fun b w hb hH => G0 rfl rfl rfl (by simpa using hlt i x hi hx) hb) (Ab (Aw rfl (AC (B3 (AO (BV (Af Ai rfl (Ac rfl (.int .i64 ((i + 1 : Nat) : Int)) (fun b w hb hH => AS rfl rfl rfl rfl (by rw [IntWalk.i64_in _ (by omega)]; omega) hb) (Af Ai rfl (Bi ?_))))))))))
 exact CM (i + 1) 0 hi (show l.length - (i + 1) < l.length - i by omega) ⟨rfl, rfl, rfl, rfl, trivial⟩ rfl
 obtain rfl : i = j := by omega
 refine Ad (Af Ai rfl (Ac rfl (.int .i64 (l.length : Int)) (fun b w hb hH => AY ((hH.rdFs 0 rfl hX)) Tryz.underlying55 rfl rfl hb) (Ac rfl (.bool true) (fun b w hb hH => Bc rfl rfl rfl (BN (by omega)) hb) (Ab (AI rfl (AC (AO (Aq (Bm (Ad (Af Ai rfl (Ac rfl (Cs v (i * 2)) (fun b w hb hH => BH BS ((hH.rdFs 0 rfl hX)) Ar (j := i) hj rfl rfl rfl hb) (Ac rfl (Cs v (i * 2 + 0)) (fun b w hb hH => M8 BS (by decide) ((hH.rdFs 0 rfl hX)) (j := i) hj Bu rfl rfl hb) (Ac rfl (.string (bs y.n)) (fun b w hb hH => By BS (by decide) ((hH.rdFs 0 rfl hX)) (j := i) hj AX (off := 0) rfl rfl rfl hb) (Af Ai rfl ?_)))))))))))))))
 refine Ac rfl (.bool true) (fun b w hb hH => G0 rfl rfl rfl (by rw [hy]; simp) hb) (Ab (AI rfl (Ad (Af Ai rfl (Ab (Av (Bw (C0 (C0 (Bw (C0 ?_)))))))))))
 exact As (.tmp rfl) (fun w h => AG () rfl [0] rfl h CV) rfl
theorem DP {X : Ass} {v : Value} {l : List RFl} {n : List UInt8} (hX : Fh X v l) (hl : l.length ≤ 1000000) (hn : ∀ x : RFl, x ∈ l → x.n ≠ n) : AW Tryz.prog 66 #[v, .string (bs n)] [X] (fun (_ : Unit) => .int .i64 (-1)) (fun (_ : Unit) => [X]) := by
 refine Be (args := [v, .string (bs n)]) 20 Tryz.func66 rfl rfl rfl ?_; intro w rs
 refine Ad (Af Ai rfl (Ab (Aq (Ad (Af Ai rfl (Ab (Bm (C9 (α := Nat) (fun i => [(0, v), (1, .string (bs n)), (4, .int .i64 0), (5, .int .i64 ((i : Nat) : Int))]) (fun i => [X]) (fun i => i ≤ l.length) (fun i => l.length - i) 0 (by omega) ⟨rfl, rfl, rfl, rfl, trivial⟩ rfl ?_))))))))
 rintro i hI
 refine Bv.at_ (env' := [(0, v), (1, .string (bs n)), (4, .int .i64 0), (5, .int .i64 ((i : Nat) : Int))]) (rs' := [X]) ⟨rfl, rfl, rfl, rfl, trivial⟩ rfl (Aq ?_)
 rcases Nat.lt_or_ge i l.length with hi | hi
 obtain ⟨x, hx⟩ : ∃ x, l[i]? = some x := ⟨_, List.getElem?_eq_getElem (by omega)⟩
 refine Ad (Af Ai rfl (Ac rfl (.int .i64 (l.length : Int)) (fun b w hb hH => AY ((hH.rdFs 0 rfl hX)) Tryz.underlying55 rfl rfl hb) (Ac rfl (.bool true) (fun b w hb hH => Bc rfl rfl rfl (BN (by omega)) hb) (Ab (AI rfl (AC (AO (Aq (Bm (Ad (Af Ai rfl (Ac rfl (Cs v (i * 2)) (fun b w hb hH => BH BS ((hH.rdFs 0 rfl hX)) Ar (j := i) hx rfl rfl rfl hb) (Ac rfl (Cs v (i * 2 + 0)) (fun b w hb hH => M8 BS (by decide) ((hH.rdFs 0 rfl hX)) (j := i) hx Bu rfl rfl hb) (Ac rfl (.string (bs x.n)) (fun b w hb hH => By BS (by decide) ((hH.rdFs 0 rfl hX)) (j := i) hx AX (off := 0) rfl rfl rfl hb) (Af Ai rfl ?_)))))))))))))))
 refine Ac rfl (.bool false) (fun b w hb hH => G0 rfl rfl rfl (by simpa using hn x (List.mem_of_getElem? hx)) hb) (Ab (Aw rfl (AC (B3 (AO (BV (Af Ai rfl (Ac rfl (.int .i64 ((i + 1 : Nat) : Int)) (fun b w hb hH => AS rfl rfl rfl rfl (by rw [IntWalk.i64_in _ (by omega)]; omega) hb) (Af Ai rfl (Bi ?_))))))))))
 exact CM (i + 1) 0 hi (show l.length - (i + 1) < l.length - i by omega) ⟨rfl, rfl, rfl, rfl, trivial⟩ rfl
 refine Ad (Af Ai rfl (Ac rfl (.int .i64 (l.length : Int)) (fun b w hb hH => AY ((hH.rdFs 0 rfl hX)) Tryz.underlying55 rfl rfl hb) (Ac rfl (.bool false) (fun b w hb hH => Bc rfl rfl rfl (B9 (by omega)) hb) (Ab (Aw rfl (CQ (FR (FR (Br (AO (Ad (Af Ai rfl (Ab (Av ?_))))))))))))))
 exact As (.tmp rfl) (fun w h => AG () rfl [0] rfl h CV) rfl
theorem IZ {X : Ass} {v : Value} {l m : List RFl} {n : List UInt8} (hX : Fh X v l) (hl : l.length ≤ 1000000) (hm : DF l n = m) : AW Tryz.prog 90 #[v, .string (bs n)] [X] (fun (r : Value) => r) (fun (r : Value) => [X, Ap 54 2 encRF r m]) := by
 refine Be (args := [v, .string (bs n)]) 28 Tryz.func90 rfl rfl rfl ?_; intro w rs
 refine Ad (Af Ai rfl (Ab (Ad (Af Ai rfl (Ab (Aq (Ad (Af Ai rfl (Ab (Bm (BY 54 2 encRF (C9 (α := Nat × Value) (fun ⟨i, ov⟩ => [(0, v), (1, .string (bs n)), (4, .slice none 0 0), (5, ov), (6, .int .i64 ((i : Nat) : Int))]) (fun ⟨i, ov⟩ => [Ap 54 2 encRF ov (DF (l.take i) n), X]) (fun ⟨i, ov⟩ => i ≤ l.length) (fun ⟨i, ov⟩ => l.length - i) (0, .slice none 0 0) (Nat.zero_le _) ⟨rfl, rfl, rfl, rfl, rfl, trivial⟩ rfl ?_))))))))))))
 rintro ⟨i, ov⟩ hI
 refine Bv.at_ (env' := [(0, v), (1, .string (bs n)), (4, .slice none 0 0), (5, ov), (6, .int .i64 ((i : Nat) : Int))]) (rs' := [Ap 54 2 encRF ov (DF (l.take i) n), X]) ⟨rfl, rfl, rfl, rfl, rfl, trivial⟩ rfl (Aq ?_)
 rcases Nat.lt_or_ge i l.length with hi | hi
 obtain ⟨x, hx⟩ : ∃ x, l[i]? = some x := ⟨_, List.getElem?_eq_getElem hi⟩
 have hnx := T2 (n := n) hx
 have hol : (DF (l.take i) n).length ≤ 1000000 := by have h1 := List.length_filter_le (fun x : RFl => decide (x.n ≠ n)) (l.take i); rw [List.length_take] at h1; unfold DF; omega
 refine Ad (Af Ai rfl (Ac rfl (.int .i64 (l.length : Int)) (fun b w hb hH => AY ((hH.rdFs 1 rfl hX)) Tryz.underlying55 rfl rfl hb) (Ac rfl (.bool true) (fun b w hb hH => Bc rfl rfl rfl (BN (by omega)) hb) (Ab (AI rfl (AC (AO (Aq (Bm ?_)))))))))
 rcases Classical.em (x.n = n) with he | he
 rw [if_pos he] at hnx
 rw [← hnx]
 refine Ad (Af Ai rfl (Ac rfl (Cs v (i * 2)) (fun b w hb hH => BH BS ((hH.rdFs 1 rfl hX)) Ar (j := i) hx rfl rfl rfl hb) (Ac rfl (Cs v (i * 2 + 0)) (fun b w hb hH => M8 BS (by decide) ((hH.rdFs 1 rfl hX)) (j := i) hx Bu rfl rfl hb) (Ac rfl (.string (bs x.n)) (fun b w hb hH => By BS (by decide) ((hH.rdFs 1 rfl hX)) (j := i) hx AX (off := 0) rfl rfl rfl hb) (Af Ai rfl (Ac rfl (.bool false) (fun b w hb hH => Hf (by simpa using he) rfl rfl rfl hb) (Ab (Aw rfl (AC (B3 (AO (BV (Af Ai rfl (Ac rfl (.int .i64 ((i + 1 : Nat) : Int)) (fun b w hb hH => AS rfl rfl rfl rfl (by rw [IntWalk.i64_in _ (by omega)]; omega) hb) ?_))))))))))))))
 refine Af Ai rfl (Bi ?_)
 exact CM (i + 1, ov) 0 hi (show l.length - (i + 1) < l.length - i by omega) ⟨rfl, rfl, rfl, rfl, rfl, trivial⟩ rfl
 rw [if_neg he] at hnx
 refine Ad (Af Ai rfl (Ac rfl (Cs v (i * 2)) (fun b w hb hH => BH BS ((hH.rdFs 1 rfl hX)) Ar (j := i) hx rfl rfl rfl hb) (Ac rfl (Cs v (i * 2 + 0)) (fun b w hb hH => M8 BS (by decide) ((hH.rdFs 1 rfl hX)) (j := i) hx Bu rfl rfl hb) (Ac rfl (.string (bs x.n)) (fun b w hb hH => By BS (by decide) ((hH.rdFs 1 rfl hX)) (j := i) hx AX (off := 0) rfl rfl rfl hb) (Af Ai rfl (Ac rfl (.bool true) (fun b w hb hH => Hf (by simpa using he) rfl rfl rfl hb) (Ab (AI rfl (BV (Af Ai rfl (Ac rfl (Cs v (i * 2)) (fun b w hb hH => BH BS ((hH.rdFs 1 rfl hX)) Ar (j := i) hx rfl rfl rfl hb) ?_)))))))))))
 refine Ac rfl (.agg (encRF x).toArray) (fun b w hb hH => OR BS (by decide) ((hH.rdFs 1 rfl hX)) (j := i) hx DO rfl rfl hb) ?_
 refine Aj (X := Value) (val := fun v : Value => v) (post := fun ub => [Ap 54 2 encRF ub ([x]), Ap 54 2 encRF ov (DF (l.take i) n), X]) rfl (by refine Fd (e := 54) (t := 55) (k := 2) (enc := encRF) (x := .tmp 24) (c := .agg (encRF x).toArray) ?_ ?_ ?_ x ?_ ?_ ?_; exact Ar; exact (by decide); exact BS; exact rfl; exact rfl; exact rfl) ?_; rintro ub
 refine Aj (post := fun ov2 => [Ap 54 2 encRF ub ([x]), Ap 54 2 encRF ov2 (DF (l.take (i + 1)) n), X]) rfl (Dr 1 Ar BS rfl ([x]) (fun w hH => hH.vec 0 rfl BS) (by simp only [List.length_cons, List.length_nil]; omega) rfl rfl rfl hnx.symm) ?_; rintro ov2
 refine Af Ai rfl (Bi (B3 (AO (Bv.leave [0] rfl rfl (BV (Af Ai rfl (Ac rfl (.int .i64 ((i + 1 : Nat) : Int)) (fun b w hb hH => AS rfl rfl rfl rfl (by rw [IntWalk.i64_in _ (by omega)]; omega) hb) (Af Ai rfl (Bi ?_)))))))))
 exact CM (i + 1, ov2) 0 hi (show l.length - (i + 1) < l.length - i by omega) ⟨rfl, rfl, rfl, rfl, rfl, trivial⟩ rfl
 have ho : DF (l.take i) n = m := by rw [List.take_of_length_le hi]; exact hm
 rw [ho]
 refine Ad (Af Ai rfl (Ac rfl (.int .i64 (l.length : Int)) (fun b w hb hH => AY ((hH.rdFs 1 rfl hX)) Tryz.underlying55 rfl rfl hb) (Ac rfl (.bool false) (fun b w hb hH => Bc rfl rfl rfl (B9 (by omega)) hb) (Ab (Aw rfl (CQ (FR (FR (Br (AO (Ad (Af Ai rfl (Ab (Av ?_))))))))))))))
 exact As (.tmp rfl) (fun w h => AG ov rfl [1, 0] rfl h CV) rfl
def GV (l : List RFl) (n d : List UInt8) (fv rv : Value) : Ass := fun rs => ∃ A c, fv = .slice A d.length c ∧ Ap 54 2 encRF rv (DL l ⟨n, A, c, d⟩) rs
theorem L0 {X : Ass} {l : List RFl} {n d : List UInt8} {A : Option Addr} {c : Nat} {rv : Value} : ∀ rs, Ak [X, Ap 5 1 encB (.slice A d.length c) d, Ap 54 2 encRF rv (DL l ⟨n, A, c, d⟩)] rs → ∃ z, rs.Perm z ∧ Ak [X, Ap 5 1 encB (.slice A d.length c) d, GV l n d (.slice A d.length c) rv] z := fun rs h => by
 obtain ⟨a, _, rfl, h1, b, _, rfl, h2, h3⟩ := h
 exact ⟨_, .refl _, a, _, rfl, h1, b, _, rfl, h2, Ak.one ⟨A, c, rfl, Ak.one' h3⟩⟩
theorem Sk (m : List RFl) (f : RFl) (i : Nat) : (∃ x, m[i]? = some x ∧ Ie x.n f.n = true) ∨ (∃ x, m[i]? = some x ∧ Ie x.n f.n = false) ∨ m.length ≤ i := by
  rcases Nat.lt_or_ge i m.length with h | h
  · obtain ⟨x, hx⟩ : ∃ x, m[i]? = some x := ⟨_, List.getElem?_eq_getElem h⟩
    cases hl : Ie x.n f.n
    · exact .inr (.inl ⟨x, hx, hl⟩)
    · exact .inl ⟨x, hx, hl⟩
  · exact .inr (.inr h)
theorem MZ {X : Ass} {v fv : Value} {l : List RFl} {n d : List UInt8} (hX : Fh X v l) (hl : l.length ≤ 1000000) : AW Tryz.prog 89 #[v, .agg #[.string (bs n), fv]] [X, Ap 5 1 encB fv d] (fun (rv : Value) => rv) (fun (rv : Value) => [X, Ap 5 1 encB fv d, GV l n d fv rv]) := by
  refine Be (args := [v, .agg #[.string (bs n), fv]]) 39 Tryz.func89 rfl rfl rfl ?_; intro w rs
  refine Bv.fact 1 rfl (fun _ h => Ap.is h) ?_; rintro ⟨A, c, rfl⟩
  refine Ad (Af Ai rfl (Aj (post := fun g3 => [cell g3 54 #[.string (bs n), .slice A d.length c], X, Ap 5 1 encB (.slice A d.length c) d]) rfl (CU (cs := #[.string (bs n), .slice A d.length c]) rfl rfl rfl) ?_)); rintro g3
  refine Af Ai rfl (Ab (Ad (Af Ai rfl (Ac rfl (.string (bs n)) (fun b w hb hH => Bb rfl rfl (Bn AX rfl) (hH.row 0 rfl) hb) (Aj rfl (Am (os' := fun v1 => [Ap 54 2 encRF v1 (DF l n), cell g3 54 #[.string (bs n), .slice A d.length c], X, Ap 5 1 encB (.slice A d.length c) d]) [1] 0 (Ag Tryz.func90 (by kernel_rfl) rfl) (IZ hX hl rfl) rfl rfl rfl (fun _ => rfl) rfl rfl rfl) ?_))))); rintro v1
  obtain ⟨m, hm⟩ : ∃ m, DF l n = m := ⟨_, rfl⟩
  have hml : m.length ≤ 1000000 := by rw [← hm]; exact Nat.le_trans (List.length_filter_le ..) hl
  rw [hm]
  refine Af Ai rfl (Ab (Ad (Af Ai rfl (Ab (Aq (Bm (C9 (α := Nat) (fun i => [(3, .pointer (some ⟨g3, 0, none⟩)), (4, .slice none 0 0), (0, v1), (5, .int .i64 ((i : Nat) : Int))]) (fun i => [Ap 54 2 encRF v1 m, cell g3 54 #[.string (bs n), .slice A d.length c], X, Ap 5 1 encB (.slice A d.length c) d]) (fun i => i ≤ m.length ∧ ∀ (j : Nat) (x : RFl), j < i → m[j]? = some x → Ie x.n n = true) (fun i => m.length - i) 0 ⟨Nat.zero_le _, fun j x h => absurd h (Nat.not_lt_zero j)⟩ ⟨rfl, rfl, rfl, rfl, trivial⟩ rfl ?_)))))))
  rintro i hI
  refine Bv.at_ (env' := [(3, .pointer (some ⟨g3, 0, none⟩)), (4, .slice none 0 0), (0, v1), (5, .int .i64 ((i : Nat) : Int))]) (rs' := [Ap 54 2 encRF v1 m, cell g3 54 #[.string (bs n), .slice A d.length c], X, Ap 5 1 encB (.slice A d.length c) d]) ⟨rfl, rfl, rfl, rfl, trivial⟩ rfl ?_
  have hI1 := hI.1
  have hI2 := hI.2
  refine Aq ?_
  rcases Sk m (⟨n, A, c, d⟩ : RFl) i with ⟨x, hx, hlt⟩ | ⟨x, hx, hlt⟩ | hi
  have hi := (List.getElem?_eq_some_iff.1 hx).1
  refine Aq ?_
  refine BK 14 0 [⟨.quiet, [], fun _ => .int .i64 ((i : Nat) : Int), []⟩, ⟨.quiet, [], fun _ => v1, []⟩, ⟨.quiet, [], fun _ => .int .i64 (m.length : Int), [1]⟩, ⟨.quiet, [], fun _ => .bool true, [0, 2]⟩, ⟨.quiet, [], fun _ => .bool true, [3]⟩, ⟨.quiet, [], fun _ => v1, [4]⟩, ⟨.quiet, [], fun _ => .int .i64 ((i : Nat) : Int), [4]⟩, ⟨.quiet, [], fun _ => Cs v1 (i * 2), [5, 6, 4]⟩, ⟨.quiet, [], fun _ => Cs v1 (i * 2 + 0), [7, 4]⟩, ⟨.quiet, [], fun _ => .string (bs x.n), [8, 4]⟩, ⟨.quiet, [], fun _ => .pointer (some ⟨g3, 0, none⟩), [4]⟩, ⟨.quiet, [], fun _ => .string (bs n), [10, 4]⟩, ⟨.quiet, [], fun _ => .bool true, [9, 11, 4]⟩, ⟨.quiet, [], fun _ => .bool true, [4, 12]⟩] [(3, .pointer (some ⟨g3, 0, none⟩)), (4, .slice none 0 0), (0, v1), (5, .int .i64 ((i : Nat) : Int))] (fun _ => [Ap 54 2 encRF v1 m, cell g3 54 #[.string (bs n), .slice A d.length c], X, Ap 5 1 encB (.slice A d.length c) d]) (by kernel_rfl) (by kernel_rfl) ⟨rfl, rfl, rfl, rfl, trivial⟩ rfl ?_ ?_
  refine Aa (by exact ⟨rfl, fun b w hH hb => Ae Ai rfl hb⟩) (Aa (by exact ⟨rfl, fun b w hH hb => Ae Ai rfl hb⟩) (Aa (by exact ⟨rfl, fun b w hH hb => AY ((hH.rdFs 0 rfl CI)) Tryz.underlying55 rfl rfl hb⟩) (Aa (by exact ⟨rfl, fun b w hH hb => Bc rfl rfl rfl (BN (by omega)) hb⟩) (Aa (by exact ⟨rfl, fun b w hH hb => Ae Ai rfl hb⟩) (Aa (by exact ⟨rfl, fun b w hH hb => Ae Ai rfl hb⟩) (Aa (by exact ⟨rfl, fun b w hH hb => Ae Ai rfl hb⟩) (Aa (by exact ⟨rfl, fun b w hH hb => BH BS ((hH.rdFs 0 rfl CI)) Ar (j := i) hx rfl rfl rfl hb⟩) (Aa (by exact ⟨rfl, fun b w hH hb => M8 BS (by decide) ((hH.rdFs 0 rfl CI)) (j := i) hx Bu rfl rfl hb⟩) (Aa (by exact ⟨rfl, fun b w hH hb => By BS (by decide) ((hH.rdFs 0 rfl CI)) (j := i) hx AX (off := 0) rfl rfl rfl hb⟩) ?_)))))))))
  refine Aa (by exact ⟨rfl, fun b w hH hb => Ae Ai rfl hb⟩) (Aa (by exact ⟨rfl, fun b w hH hb => Bb rfl rfl (Bn AX rfl) (hH.row 1 rfl) hb⟩) (Aa (by exact ⟨rfl, fun b w hH hb => (Lx rfl rfl rfl hb).trans (by rw [show Op.bytesLess x.n n = true from hlt])⟩) (Aa (by exact ⟨rfl, fun b w hH hb => Ae Ai rfl hb⟩) ?_)))
  exact Cf
  refine Ce.keep (env' := [(3, .pointer (some ⟨g3, 0, none⟩)), (4, .slice none 0 0), (0, v1), (5, .int .i64 ((i : Nat) : Int)), (11, .int .i64 ((i : Nat) : Int)), (12, v1), (13, .int .i64 (m.length : Int)), (14, .bool true), (15, .bool true), (16, v1), (17, .int .i64 ((i : Nat) : Int)), (18, Cs v1 (i * 2)), (19, Cs v1 (i * 2 + 0)), (20, .string (bs x.n)), (21, .pointer (some ⟨g3, 0, none⟩)), (22, .string (bs n)), (23, .bool true), (24, .bool true)]) ⟨rfl, rfl, rfl, rfl, rfl, rfl, rfl, rfl, rfl, rfl, rfl, rfl, rfl, rfl, rfl, rfl, rfl, rfl, trivial⟩ (Bi (AO (AI rfl (AC (AO (Bm (BV (Af Ai rfl (Ac rfl (.int .i64 ((i + 1 : Nat) : Int)) (fun b w hb hH => AS rfl rfl rfl rfl (by rw [IntWalk.i64_in _ (by omega)]; omega) hb) (Af Ai rfl (Bi (B3 ?_))))))))))))
  exact CM (i + 1) 0 ⟨hi, fun j y hj hy => by rcases Nat.lt_or_ge j i with h | h; exact hI2 j y h hy; (obtain rfl : j = i := by omega); rw [hx] at hy; cases hy; exact hlt⟩ (show m.length - (i + 1) < m.length - i by omega) ⟨rfl, rfl, rfl, rfl, trivial⟩ rfl
  have hfin : m.take i ++ [(⟨n, A, c, d⟩ : RFl)] ++ m.drop i = DL l (⟨n, A, c, d⟩ : RFl) := by unfold DL; rw [show DF l (⟨n, A, c, d⟩ : RFl).n = m from hm]; exact (OD (f := (⟨n, A, c, d⟩ : RFl)) hI1 hI2 (fun y hy => by rw [hx] at hy; cases hy; exact hlt)).symm
  refine Aq ?_
  refine BK 14 0 [⟨.quiet, [], fun _ => .int .i64 ((i : Nat) : Int), []⟩, ⟨.quiet, [], fun _ => v1, []⟩, ⟨.quiet, [], fun _ => .int .i64 (m.length : Int), [1]⟩, ⟨.quiet, [], fun _ => .bool true, [0, 2]⟩, ⟨.quiet, [], fun _ => .bool true, [3]⟩, ⟨.quiet, [], fun _ => v1, [4]⟩, ⟨.quiet, [], fun _ => .int .i64 ((i : Nat) : Int), [4]⟩, ⟨.quiet, [], fun _ => Cs v1 (i * 2), [5, 6, 4]⟩, ⟨.quiet, [], fun _ => Cs v1 (i * 2 + 0), [7, 4]⟩, ⟨.quiet, [], fun _ => .string (bs x.n), [8, 4]⟩, ⟨.quiet, [], fun _ => .pointer (some ⟨g3, 0, none⟩), [4]⟩, ⟨.quiet, [], fun _ => .string (bs n), [10, 4]⟩, ⟨.quiet, [], fun _ => .bool false, [9, 11, 4]⟩, ⟨.quiet, [], fun _ => .bool false, [4, 12]⟩] [(3, .pointer (some ⟨g3, 0, none⟩)), (4, .slice none 0 0), (0, v1), (5, .int .i64 ((i : Nat) : Int))] (fun _ => [Ap 54 2 encRF v1 m, cell g3 54 #[.string (bs n), .slice A d.length c], X, Ap 5 1 encB (.slice A d.length c) d]) (by kernel_rfl) (by kernel_rfl) ⟨rfl, rfl, rfl, rfl, trivial⟩ rfl ?_ ?_
  refine Aa (by exact ⟨rfl, fun b w hH hb => Ae Ai rfl hb⟩) (Aa (by exact ⟨rfl, fun b w hH hb => Ae Ai rfl hb⟩) (Aa (by exact ⟨rfl, fun b w hH hb => AY ((hH.rdFs 0 rfl CI)) Tryz.underlying55 rfl rfl hb⟩) ?_))
  refine Aa (by exact ⟨rfl, fun b w hH hb => Bc rfl rfl rfl (BN (by have := (List.getElem?_eq_some_iff.1 hx).1; omega)) hb⟩) ?_
  refine Aa (by exact ⟨rfl, fun b w hH hb => Ae Ai rfl hb⟩) (Aa (by exact ⟨rfl, fun b w hH hb => Ae Ai rfl hb⟩) (Aa (by exact ⟨rfl, fun b w hH hb => Ae Ai rfl hb⟩) (Aa (by exact ⟨rfl, fun b w hH hb => BH BS ((hH.rdFs 0 rfl CI)) Ar (j := i) hx rfl rfl rfl hb⟩) (Aa (by exact ⟨rfl, fun b w hH hb => M8 BS (by decide) ((hH.rdFs 0 rfl CI)) (j := i) hx Bu rfl rfl hb⟩) (Aa (by exact ⟨rfl, fun b w hH hb => By BS (by decide) ((hH.rdFs 0 rfl CI)) (j := i) hx AX (off := 0) rfl rfl rfl hb⟩) (Aa (by exact ⟨rfl, fun b w hH hb => Ae Ai rfl hb⟩) (Aa (by exact ⟨rfl, fun b w hH hb => Bb rfl rfl (Bn AX rfl) (hH.row 1 rfl) hb⟩) (Aa (by exact ⟨rfl, fun b w hH hb => (Lx rfl rfl rfl hb).trans (by rw [show Op.bytesLess x.n n = false from hlt])⟩) (Aa (by exact ⟨rfl, fun b w hH hb => Ae Ai rfl hb⟩) ?_)))))))))
  exact Cf
  refine Ce.keep (env' := [(3, .pointer (some ⟨g3, 0, none⟩)), (4, .slice none 0 0), (0, v1), (5, .int .i64 ((i : Nat) : Int)), (11, .int .i64 ((i : Nat) : Int)), (12, v1), (13, .int .i64 (m.length : Int)), (14, .bool true), (15, .bool true), (16, v1), (17, .int .i64 ((i : Nat) : Int)), (18, Cs v1 (i * 2)), (19, Cs v1 (i * 2 + 0)), (20, .string (bs x.n)), (21, .pointer (some ⟨g3, 0, none⟩)), (22, .string (bs n)), (23, .bool false), (24, .bool false)]) ⟨rfl, rfl, rfl, rfl, rfl, rfl, rfl, rfl, rfl, rfl, rfl, rfl, rfl, rfl, rfl, rfl, rfl, rfl, trivial⟩ (Bi (AO (Aw rfl (CQ (FR (FR (Br (AO (Ad (Af Ai rfl (Ab (BY 54 2 encRF (Aq (Ep 1 rfl ?_))))))))))))))
  refine BK 12 4 [⟨.quiet, [none, none, none, none], fun _ => .slice none 0 0, []⟩, ⟨.quiet, [none, none, none, none], fun _ => v1, []⟩, ⟨.quiet, [none, none, none, none], fun _ => .int .i64 ((i : Nat) : Int), []⟩, ⟨.quiet, [none, none, none, none], fun _ => Cp 2 v1 0 i, [1, 2]⟩, ⟨.act 0, [some false, none, some false, some false], fun _ => undef, [0, 3]⟩, ⟨.quiet, [none, none, none, none], fun _ => .agg #[.string (bs n), .slice A d.length c], []⟩, ⟨.act 1, [none, some false, some false, some false], fun _ => undef, [5]⟩, ⟨.act 2, [some true, some true, some false, some false], fun _ => undef, [4, 6]⟩, ⟨.quiet, [none, none, none, none], fun _ => v1, []⟩, ⟨.quiet, [none, none, none, none], fun _ => .int .i64 ((i : Nat) : Int), []⟩, ⟨.quiet, [none, none, none, none], fun _ => Cp 2 v1 i m.length, [8, 9]⟩, ⟨.act 3, [some true, some true, some true, some false], fun _ => undef, [7, 10]⟩] [(3, .pointer (some ⟨g3, 0, none⟩)), (4, .slice none 0 0), (0, v1), (5, .int .i64 ((i : Nat) : Int)), (6, .slice none 0 0)] (fun ρ => match ρ with | [r0, r1, r2, r3] => [CJ r1 (fun fb => Ap 54 2 encRF fb ([(⟨n, A, c, d⟩ : RFl)])) (EF), CJ r3 (fun w3 => Ap 54 2 encRF w3 (DL l (⟨n, A, c, d⟩ : RFl))) (CJ r2 (fun w2 => Ap 54 2 encRF w2 (m.take i ++ [(⟨n, A, c, d⟩ : RFl)])) (CJ r0 (fun w1 => Ap 54 2 encRF w1 (m.take i)) (Ap 54 2 encRF (.slice none 0 0) ([])))), Ap 54 2 encRF v1 m, cell g3 54 #[.string (bs n), .slice A d.length c], X, Ap 5 1 encB (.slice A d.length c) d] | _ => []) (by kernel_rfl) (by kernel_rfl) ⟨rfl, rfl, rfl, rfl, rfl, trivial⟩ rfl ?_ ?_
  refine Aa (by intro r0_ r1_ r2_ r3_; exact ⟨rfl, fun b w hH hb => Ae Ai rfl hb⟩) (Aa (by intro r0_ r1_ r2_ r3_; exact ⟨rfl, fun b w hH hb => Ae Ai rfl hb⟩) (Aa (by intro r0_ r1_ r2_ r3_; exact ⟨rfl, fun b w hH hb => Ae Ai rfl hb⟩) (Aa (by intro r0_ r1_ r2_ r3_; exact ⟨rfl, fun b w hH hb => G2 2 (b := i) Ar rfl hI1 rfl rfl rfl hH hb⟩) (Aa (by intro r1_; exact ⟨rfl, Bq.s (Dr 1 Ar BS rfl (m.take i) (fun w hH => hH.vecq 2 rfl BS (Nat.zero_le _) hI1 (m := m.take i) (by simp)) (by simp only [List.length_nil, List.length_take]; omega) rfl rfl rfl (List.nil_append _)) (fun _ => rfl)⟩) (Aa (by intro r0_ r1_ r2_ r3_; exact ⟨rfl, fun b w hH hb => Bb rfl rfl (EX (cs := [.string (bs n), .slice A d.length c]) DO rfl) (hH.row 3 rfl) hb⟩) ?_)))))
  refine Aa (by intro r0_; exact ⟨rfl, Bq.s (Bq.place (val := fun fb : Value => fb) (t := fun fb => Ap 54 2 encRF fb ([(⟨n, A, c, d⟩ : RFl)])) (os' := fun fb => [Ap 54 2 encRF fb ([(⟨n, A, c, d⟩ : RFl)]), CJ r0_ (fun w1 => Ap 54 2 encRF w1 (m.take i)) (Ap 54 2 encRF (.slice none 0 0) ([])), Ap 54 2 encRF v1 m, cell g3 54 #[.string (bs n), .slice A d.length c], X, Ap 5 1 encB (.slice A d.length c) d]) 0 rfl (by refine Fd (e := 54) (t := 55) (k := 2) (enc := encRF) (x := .tmp 32) (c := .agg #[.string (bs n), .slice A d.length c]) ?_ ?_ ?_ (⟨n, A, c, d⟩ : RFl) ?_ ?_ ?_; exact Ar; exact (by decide); exact BS; exact rfl; exact rfl; exact rfl) (fun _ => rfl)) (fun _ => rfl)⟩) ?_
  refine Aa (by intro w1 fb; exact ⟨rfl, Bq.s (Dr 1 Ar BS rfl ([(⟨n, A, c, d⟩ : RFl)]) (fun w hH => hH.vec 0 rfl BS) (by simp only [List.length_cons, List.length_nil, List.length_take]; omega) rfl rfl rfl rfl) (fun _ => rfl)⟩) (Aa (by intro r0_ r1_ r2_ r3_; exact ⟨rfl, fun b w hH hb => Ae Ai rfl hb⟩) (Aa (by intro r0_ r1_ r2_ r3_; exact ⟨rfl, fun b w hH hb => Ae Ai rfl hb⟩) (Aa (by intro r0_ r1_ r2_ r3_; exact ⟨rfl, fun b w hH hb => I7 2 (a := i) Ar rfl hI1 rfl rfl rfl hH hb⟩) (Aa (by intro w1 fb w2; exact ⟨rfl, Bq.s (Dr 1 Ar BS rfl (m.drop i) (fun w hH => hH.vecq 2 rfl BS hI1 (Nat.le_refl _) (m := m.drop i) (by simp)) (by simp only [List.length_append, List.length_cons, List.length_nil, List.length_take, List.length_drop]; omega) rfl rfl rfl hfin) (fun _ => rfl)⟩) ?_))))
  exact Cf
  intro w1 fb w2 w3
  refine Ce.keep (env' := [(4, .slice none 0 0), (38, w3)]) ⟨rfl, rfl, trivial⟩ (Af Ai rfl (Bi (AO (Av ?_))))
  exact As (.tmp rfl) (fun w h => AG w3 rfl [4, 5, 1] rfl h L0) rfl
  have hfin : m.take i ++ [(⟨n, A, c, d⟩ : RFl)] ++ m.drop i = DL l (⟨n, A, c, d⟩ : RFl) := by unfold DL; rw [show DF l (⟨n, A, c, d⟩ : RFl).n = m from hm]; exact (OD (f := (⟨n, A, c, d⟩ : RFl)) hI1 hI2 (fun y hy => by rw [List.getElem?_eq_none hi] at hy; cases hy)).symm
  refine Aq ?_
  refine BK 14 0 [⟨.quiet, [], fun _ => .int .i64 ((i : Nat) : Int), []⟩, ⟨.quiet, [], fun _ => v1, []⟩, ⟨.quiet, [], fun _ => .int .i64 (m.length : Int), [1]⟩, ⟨.quiet, [], fun _ => .bool false, [0, 2]⟩, ⟨.quiet, [], fun _ => .bool false, [3]⟩, ⟨.skip, [], fun _ => undef, [4]⟩, ⟨.skip, [], fun _ => undef, [4]⟩, ⟨.skip, [], fun _ => undef, [5, 6, 4]⟩, ⟨.skip, [], fun _ => undef, [7, 4]⟩, ⟨.skip, [], fun _ => undef, [8, 4]⟩, ⟨.skip, [], fun _ => undef, [4]⟩, ⟨.skip, [], fun _ => undef, [10, 4]⟩, ⟨.skip, [], fun _ => undef, [9, 11, 4]⟩, ⟨.quiet, [], fun _ => .bool false, [4, 12]⟩] [(3, .pointer (some ⟨g3, 0, none⟩)), (4, .slice none 0 0), (0, v1), (5, .int .i64 ((i : Nat) : Int))] (fun _ => [Ap 54 2 encRF v1 m, cell g3 54 #[.string (bs n), .slice A d.length c], X, Ap 5 1 encB (.slice A d.length c) d]) (by kernel_rfl) (by kernel_rfl) ⟨rfl, rfl, rfl, rfl, trivial⟩ rfl ?_ ?_
  refine Aa (by exact ⟨rfl, fun b w hH hb => Ae Ai rfl hb⟩) (Aa (by exact ⟨rfl, fun b w hH hb => Ae Ai rfl hb⟩) (Aa (by exact ⟨rfl, fun b w hH hb => AY ((hH.rdFs 0 rfl CI)) Tryz.underlying55 rfl rfl hb⟩) (Aa (by exact ⟨rfl, fun b w hH hb => Bc rfl rfl rfl (B9 (by omega)) hb⟩) (Aa (by exact ⟨rfl, fun b w hH hb => Ae Ai rfl hb⟩) (Aa (by exact ⟨rfl, rfl⟩) (Aa (by exact ⟨rfl, rfl⟩) (Aa (by exact ⟨rfl, rfl⟩) (Aa (by exact ⟨rfl, rfl⟩) (Aa (by exact ⟨rfl, rfl⟩) ?_)))))))))
  refine Aa (by exact ⟨rfl, rfl⟩) (Aa (by exact ⟨rfl, rfl⟩) (Aa (by exact ⟨rfl, rfl⟩) (Aa (by exact ⟨rfl, fun b w hH hb => Ae Ai rfl hb⟩) ?_)))
  exact Cf
  refine Ce.keep (env' := [(3, .pointer (some ⟨g3, 0, none⟩)), (4, .slice none 0 0), (0, v1), (5, .int .i64 ((i : Nat) : Int)), (11, .int .i64 ((i : Nat) : Int)), (12, v1), (13, .int .i64 (m.length : Int)), (14, .bool false), (15, .bool false), (16, undef), (17, undef), (18, undef), (19, undef), (20, undef), (21, undef), (22, undef), (23, undef), (24, .bool false)]) ⟨rfl, rfl, rfl, rfl, rfl, rfl, rfl, rfl, rfl, rfl, rfl, rfl, rfl, rfl, rfl, rfl, rfl, rfl, trivial⟩ (Bi (AO (Aw rfl (CQ (FR (FR (Br (AO (Ad (Af Ai rfl (Ab (BY 54 2 encRF (Aq (Ep 1 rfl ?_))))))))))))))
  refine BK 12 4 [⟨.quiet, [none, none, none, none], fun _ => .slice none 0 0, []⟩, ⟨.quiet, [none, none, none, none], fun _ => v1, []⟩, ⟨.quiet, [none, none, none, none], fun _ => .int .i64 ((i : Nat) : Int), []⟩, ⟨.quiet, [none, none, none, none], fun _ => Cp 2 v1 0 i, [1, 2]⟩, ⟨.act 0, [some false, none, some false, some false], fun _ => undef, [0, 3]⟩, ⟨.quiet, [none, none, none, none], fun _ => .agg #[.string (bs n), .slice A d.length c], []⟩, ⟨.act 1, [none, some false, some false, some false], fun _ => undef, [5]⟩, ⟨.act 2, [some true, some true, some false, some false], fun _ => undef, [4, 6]⟩, ⟨.quiet, [none, none, none, none], fun _ => v1, []⟩, ⟨.quiet, [none, none, none, none], fun _ => .int .i64 ((i : Nat) : Int), []⟩, ⟨.quiet, [none, none, none, none], fun _ => Cp 2 v1 i m.length, [8, 9]⟩, ⟨.act 3, [some true, some true, some true, some false], fun _ => undef, [7, 10]⟩] [(3, .pointer (some ⟨g3, 0, none⟩)), (4, .slice none 0 0), (0, v1), (5, .int .i64 ((i : Nat) : Int)), (6, .slice none 0 0)] (fun ρ => match ρ with | [r0, r1, r2, r3] => [CJ r1 (fun fb => Ap 54 2 encRF fb ([(⟨n, A, c, d⟩ : RFl)])) (EF), CJ r3 (fun w3 => Ap 54 2 encRF w3 (DL l (⟨n, A, c, d⟩ : RFl))) (CJ r2 (fun w2 => Ap 54 2 encRF w2 (m.take i ++ [(⟨n, A, c, d⟩ : RFl)])) (CJ r0 (fun w1 => Ap 54 2 encRF w1 (m.take i)) (Ap 54 2 encRF (.slice none 0 0) ([])))), Ap 54 2 encRF v1 m, cell g3 54 #[.string (bs n), .slice A d.length c], X, Ap 5 1 encB (.slice A d.length c) d] | _ => []) (by kernel_rfl) (by kernel_rfl) ⟨rfl, rfl, rfl, rfl, rfl, trivial⟩ rfl ?_ ?_
  refine Aa (by intro r0_ r1_ r2_ r3_; exact ⟨rfl, fun b w hH hb => Ae Ai rfl hb⟩) (Aa (by intro r0_ r1_ r2_ r3_; exact ⟨rfl, fun b w hH hb => Ae Ai rfl hb⟩) (Aa (by intro r0_ r1_ r2_ r3_; exact ⟨rfl, fun b w hH hb => Ae Ai rfl hb⟩) (Aa (by intro r0_ r1_ r2_ r3_; exact ⟨rfl, fun b w hH hb => G2 2 (b := i) Ar rfl hI1 rfl rfl rfl hH hb⟩) (Aa (by intro r1_; exact ⟨rfl, Bq.s (Dr 1 Ar BS rfl (m.take i) (fun w hH => hH.vecq 2 rfl BS (Nat.zero_le _) hI1 (m := m.take i) (by simp)) (by simp only [List.length_nil, List.length_take]; omega) rfl rfl rfl (List.nil_append _)) (fun _ => rfl)⟩) (Aa (by intro r0_ r1_ r2_ r3_; exact ⟨rfl, fun b w hH hb => Bb rfl rfl (EX (cs := [.string (bs n), .slice A d.length c]) DO rfl) (hH.row 3 rfl) hb⟩) ?_)))))
  refine Aa (by intro r0_; exact ⟨rfl, Bq.s (Bq.place (val := fun fb : Value => fb) (t := fun fb => Ap 54 2 encRF fb ([(⟨n, A, c, d⟩ : RFl)])) (os' := fun fb => [Ap 54 2 encRF fb ([(⟨n, A, c, d⟩ : RFl)]), CJ r0_ (fun w1 => Ap 54 2 encRF w1 (m.take i)) (Ap 54 2 encRF (.slice none 0 0) ([])), Ap 54 2 encRF v1 m, cell g3 54 #[.string (bs n), .slice A d.length c], X, Ap 5 1 encB (.slice A d.length c) d]) 0 rfl (by refine Fd (e := 54) (t := 55) (k := 2) (enc := encRF) (x := .tmp 32) (c := .agg #[.string (bs n), .slice A d.length c]) ?_ ?_ ?_ (⟨n, A, c, d⟩ : RFl) ?_ ?_ ?_; exact Ar; exact (by decide); exact BS; exact rfl; exact rfl; exact rfl) (fun _ => rfl)) (fun _ => rfl)⟩) ?_
  refine Aa (by intro w1 fb; exact ⟨rfl, Bq.s (Dr 1 Ar BS rfl ([(⟨n, A, c, d⟩ : RFl)]) (fun w hH => hH.vec 0 rfl BS) (by simp only [List.length_cons, List.length_nil, List.length_take]; omega) rfl rfl rfl rfl) (fun _ => rfl)⟩) (Aa (by intro r0_ r1_ r2_ r3_; exact ⟨rfl, fun b w hH hb => Ae Ai rfl hb⟩) (Aa (by intro r0_ r1_ r2_ r3_; exact ⟨rfl, fun b w hH hb => Ae Ai rfl hb⟩) (Aa (by intro r0_ r1_ r2_ r3_; exact ⟨rfl, fun b w hH hb => I7 2 (a := i) Ar rfl hI1 rfl rfl rfl hH hb⟩) (Aa (by intro w1 fb w2; exact ⟨rfl, Bq.s (Dr 1 Ar BS rfl (m.drop i) (fun w hH => hH.vecq 2 rfl BS hI1 (Nat.le_refl _) (m := m.drop i) (by simp)) (by simp only [List.length_append, List.length_cons, List.length_nil, List.length_take, List.length_drop]; omega) rfl rfl rfl hfin) (fun _ => rfl)⟩) ?_))))
  exact Cf
  intro w1 fb w2 w3
  refine Ce.keep (env' := [(4, .slice none 0 0), (38, w3)]) ⟨rfl, rfl, trivial⟩ (Af Ai rfl (Bi (AO (Av ?_))))
  exact As (.tmp rfl) (fun w h => AG w3 rfl [4, 5, 1] rfl h L0) rfl
end Go.Proofs.YtjcfimmcogkopaaGreat.Sep
