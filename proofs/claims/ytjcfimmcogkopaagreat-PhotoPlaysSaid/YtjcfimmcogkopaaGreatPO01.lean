/-
  RdkS · RdkM · TyG · Lit · RdkA
-/
import Derived.Test.YtjcfimmcogkopaaGreatPA06
import Derived.Test.YtjcfimmcogkopaaGreatPA08
import Derived.Test.YtjcfimmcogkopaaGreatPB01
import Derived.Test.YtjcfimmcogkopaaGreatPB02
import Derived.Test.YtjcfimmcogkopaaGreatPB04
import Derived.Test.YtjcfimmcogkopaaGreatPC01
set_option linter.unusedSimpArgs false
set_option linter.unusedVariables false
set_option maxRecDepth 100000
namespace Go.Proofs.YtjcfimmcogkopaaGreat.Sep
def IQ (a b : List UInt8) : Bool := Op.bytesLess a b
theorem Nt : ∀ a, IQ a a = false
  | [] => rfl
  | x :: a => by
    show (decide (x < x) || (x == x && IQ a a)) = false
    rw [Nt a]; simp
theorem UJ : ∀ a b c, IQ a b = true → IQ b c = true → IQ a c = true
  | a, [], c, h, _ => by cases a <;> cases h
  | _, _ :: _, [], _, h => by cases h
  | [], _ :: _, _ :: _, _, _ => rfl
  | x :: a, y :: b, z :: c, h, h' => by
    have h1 : (decide (x < y) || (x == y && IQ a b)) = true := h
    have h2 : (decide (y < z) || (y == z && IQ b c)) = true := h'
    show (decide (x < z) || (x == z && IQ a c)) = true
    simp only [Bool.or_eq_true, Bool.and_eq_true, decide_eq_true_eq, beq_iff_eq] at *
    rcases h1 with h1 | ⟨rfl, h1⟩
    · rcases h2 with h2 | ⟨rfl, h2⟩
      · exact .inl (UInt8.lt_trans h1 h2)
      · exact .inl h1
    · rcases h2 with h2 | ⟨rfl, h2⟩
      · exact .inl h2
      · exact .inr ⟨rfl, UJ a b c h1 h2⟩
theorem Rw : ∀ a b, IQ a b = false → IQ b a = false → a = b
  | [], [], _, _ => rfl
  | [], _ :: _, h, _ => by cases h
  | _ :: _, [], _, h => by cases h
  | x :: a, y :: b, h, h' => by
    have h1 : (decide (x < y) || (x == y && IQ a b)) = false := h
    have h2 : (decide (y < x) || (y == x && IQ b a)) = false := h'
    simp only [Bool.or_eq_false_iff, Bool.and_eq_false_iff, decide_eq_false_iff_not, beq_eq_false_iff_ne] at *
    have hxy : x = y := UInt8.le_antisymm (UInt8.not_lt.1 h2.1) (UInt8.not_lt.1 h1.1)
    subst hxy
    rcases h1.2 with h | h
    · exact absurd rfl h
    · rcases h2.2 with h' | h'
      · exact absurd rfl h'
      · rw [Rw a b h h']
end Go.Proofs.YtjcfimmcogkopaaGreat.Sep
namespace Go.Proofs.YtjcfimmcogkopaaGreat.Sep
open Go.RowKit
structure RFl where
  n : List UInt8
  A : Option Addr
  c : Nat
  d : List UInt8
def RFl.v (x : RFl) : Value := .slice x.A x.d.length x.c
def encRF (x : RFl) : List Value := [.string (bs x.n), x.v]
theorem B3 : EncOf 2 encRF := ⟨fun _ => rfl, fun x v h => by unfold encRF RFl.v at h; simp at h; rcases h with rfl | rfl <;> rfl⟩
instance : Inhabited RFl := ⟨⟨[], none, 0, []⟩⟩
def F7 (l : List RFl) : FS := l.map fun x => (x.n, x.d)
def ED (l : List RFl) : Prop := l.Pairwise fun x y => IQ x.n y.n = true
def DX (l : List RFl) (n : List UInt8) : List RFl := l.filter fun x => decide (x.n ≠ n)
def O0 (l : List RFl) (f : RFl) : List RFl := (l.takeWhile fun x => IQ x.n f.n) ++ f :: l.dropWhile fun x => IQ x.n f.n
def D4 (l : List RFl) (f : RFl) : List RFl := O0 (DX l f.n) f
theorem LO (l : List RFl) : AO (F7 l) = l.map (·.n) := by unfold AO F7; rw [List.map_map]; rfl
theorem DV {l : List RFl} (h : ED l) : (AO (F7 l)).Nodup := by
 rw [LO]
 exact List.Pairwise.map _ (fun x y hxy e => by rw [e, Nt] at hxy; cases hxy) h
theorem KE {l : List RFl} {n : List UInt8} (h : ED l) : ED (DX l n) := h.filter _
theorem GO {l : List RFl} {n : List UInt8} {x : RFl} : x ∈ DX l n ↔ x ∈ l ∧ x.n ≠ n := by unfold DX; rw [List.mem_filter, decide_eq_true_eq]
theorem Jw {l : List RFl} {f x : RFl} : x ∈ O0 l f ↔ x = f ∨ x ∈ l := by
  have e : l = (l.takeWhile fun x => IQ x.n f.n) ++ l.dropWhile fun x => IQ x.n f.n := (List.takeWhile_append_dropWhile ..).symm
  unfold O0
  rw [List.mem_append, List.mem_cons]
  constructor
  · rintro (h | rfl | h)
    · right; rw [e]; exact List.mem_append.2 (.inl h)
    · exact .inl rfl
    · right; rw [e]; exact List.mem_append.2 (.inr h)
  · rintro (rfl | h)
    · exact .inr (.inl rfl)
    · rw [e] at h
      rcases List.mem_append.1 h with h | h
      · exact .inl h
      · exact .inr (.inr h)
theorem Rx : ∀ {l : List RFl} {f : RFl}, ED l → (∀ x, x ∈ l → x.n ≠ f.n) → ED (O0 l f)
  | [], f, _, _ => List.pairwise_singleton _ _
  | y :: l, f, h, hn => by
    have h1 := List.pairwise_cons.1 h
    unfold O0
    cases hy : IQ y.n f.n
    · rw [List.takeWhile_cons, List.dropWhile_cons, if_neg (by simp [hy]), if_neg (by simp [hy])]
      have hfy : IQ f.n y.n = true := by
        cases hf : IQ f.n y.n
        · exact absurd (Rw _ _ hy hf) (hn y (List.mem_cons_self ..))
        · rfl
      refine List.pairwise_cons.2 ⟨fun x hx => ?_, h⟩
      rcases List.mem_cons.1 hx with rfl | hx
      · exact hfy
      · exact UJ _ _ _ hfy (h1.1 x hx)
    · rw [List.takeWhile_cons, List.dropWhile_cons, if_pos hy, if_pos hy]
      have ih := Rx (f := f) h1.2 (fun x hx => hn x (List.mem_cons_of_mem _ hx))
      refine List.pairwise_cons.2 ⟨fun x hx => ?_, ih⟩
      rcases Jw.1 (show x ∈ O0 l f from hx) with rfl | hx
      · exact hy
      · exact h1.1 x hx
theorem O1 {l : List RFl} {f : RFl} (h : ED l) : ED (D4 l f) := Rx (KE h) fun x hx => (GO.1 hx).2
theorem UK {l : List RFl} {g : FS} {n : List UInt8} (hl : ED l) (h : (F7 l).Perm g) : (F7 (DX l n)).Perm (BY g n) := by
  have h1 := DV hl
  have hg : (AO g).Nodup := (CY h).nodup_iff.1 h1
  refine Ee (DV (KE hl)) (B4 hg) fun p => ?_
  rw [DB hg, ← h.mem_iff]
  unfold F7
  simp only [List.mem_map, GO]
  constructor
  · rintro ⟨x, ⟨hx, hn⟩, rfl⟩; exact ⟨⟨x, hx, rfl⟩, hn⟩
  · rintro ⟨⟨x, hx, rfl⟩, hn⟩; exact ⟨x, ⟨hx, hn⟩, rfl⟩
theorem Wa {l : List RFl} {g : FS} {f : RFl} (hl : ED l) (h : (F7 l).Perm g) : (F7 (D4 l f)).Perm (BF g f.n f.d) := by
  have h1 := DV hl
  have hg : (AO g).Nodup := (CY h).nodup_iff.1 h1
  refine Ee (DV (O1 hl)) (Cd hg) fun p => ?_
  rw [Fo hg, ← h.mem_iff]
  unfold F7
  simp only [List.mem_map]
  constructor
  · rintro ⟨x, hx, rfl⟩
    rcases Jw.1 hx with rfl | hx
    · exact .inl rfl
    · have := GO.1 hx
      exact .inr ⟨⟨x, this.1, rfl⟩, this.2⟩
  · rintro (rfl | ⟨⟨x, hx, rfl⟩, hn⟩)
    · exact ⟨f, Jw.2 (.inl rfl), rfl⟩
    · exact ⟨x, Jw.2 (.inr (GO.2 ⟨hx, hn⟩)), rfl⟩
theorem O2 {l : List RFl} {f : RFl} {i : Nat} (hi : i ≤ l.length) (h1 : ∀ j x, j < i → l[j]? = some x → IQ x.n f.n = true) (h2 : ∀ x, l[i]? = some x → IQ x.n f.n = false) : O0 l f = l.take i ++ [f] ++ l.drop i := by
  have e1 : (l.takeWhile fun x => IQ x.n f.n) = l.take i ∧ (l.dropWhile fun x => IQ x.n f.n) = l.drop i := by
    induction l generalizing i with
    | nil => simp
    | cons y l ih =>
      cases i with
      | zero =>
        have := h2 y rfl
        rw [List.takeWhile_cons, List.dropWhile_cons, if_neg (by simp [this]), if_neg (by simp [this])]
        exact ⟨rfl, rfl⟩
      | succ i =>
        have := h1 0 y (Nat.succ_pos _) rfl
        rw [List.takeWhile_cons, List.dropWhile_cons, if_pos this, if_pos this]
        obtain ⟨h3, h4⟩ := ih (i := i) (by simpa using hi) (fun j x hj hx => h1 (j + 1) x (by omega) (by simpa using hx)) (fun x hx => h2 x (by simpa using hx))
        rw [h3, h4]
        exact ⟨rfl, rfl⟩
  unfold O0
  rw [e1.1, e1.2]; simp
theorem UL {l : List RFl} {n : List UInt8} {i : Nat} {x : RFl} (h : l[i]? = some x) : DX (l.take (i + 1)) n = if x.n = n then DX (l.take i) n else DX (l.take i) n ++ [x] := by
  rw [← GJ h]
  unfold DX
  rw [List.filter_append]
  by_cases hx : x.n = n
  · rw [if_pos hx]; simp [hx]
  · rw [if_neg hx]; simp [hx]
theorem Hz {l : List RFl} (hs : ED l) (n : List UInt8) : (∃ (j : Nat) (x : RFl), l[j]? = some x ∧ x.n = n ∧ (∀ (k : Nat) (y : RFl), k < j → l[k]? = some y → y.n ≠ n) ∧ AS (F7 l) n = some x.d) ∨ ((∀ x : RFl, x ∈ l → x.n ≠ n) ∧ AS (F7 l) n = none) := by
  by_cases h : ∃ x, x ∈ l ∧ x.n = n
  · left
    obtain ⟨x, hx, hn⟩ := h
    obtain ⟨j, hj⟩ := List.getElem?_of_mem hx
    refine ⟨j, x, hj, hn, fun k y hk hy e => ?_, ?_⟩
    · have hlt := (List.getElem?_eq_some_iff.1 hj).1
      have h1 := List.pairwise_iff_getElem.1 hs k j (by omega) hlt hk
      have e1 := (List.getElem?_eq_some_iff.1 hy).2
      have e2 := (List.getElem?_eq_some_iff.1 hj).2
      rw [e1, e2, e, hn, Nt] at h1
      cases h1
    · exact (Cz (DV hs)).2 (List.mem_map.2 ⟨x, hx, by rw [hn]⟩)
  · right
    have h1 : ∀ x, x ∈ l → x.n ≠ n := fun x hx e => h ⟨x, hx, e⟩
    refine ⟨h1, ?_⟩
    rw [CM, LO]
    intro hm
    obtain ⟨x, hx, e⟩ := List.mem_map.1 hm
    exact h1 x hx e
end Go.Proofs.YtjcfimmcogkopaaGreat.Sep
namespace Go.Proofs.YtjcfimmcogkopaaGreat.Sep
open Go.RowKit
open Go.Proofs.YtjcfimmcogkopaaGreat.Mem (Bh Cs Chg AA)
def flG : List ((Nat × Nat) × Nat) := flS
theorem Ah : KP Tryz.prog flG := Au
end Go.Proofs.YtjcfimmcogkopaaGreat.Sep
namespace Go.Proofs.YtjcfimmcogkopaaGreat.Sep
open Go.RowKit
open Go.Proofs.YtjcfimmcogkopaaGreat.Mem (Bh Cs Chg AA)
section lit
variable {P : Program} {e t : TypeId} {l : List UInt8} {v : Value} {B : Nat → Prop} {w0 w w' : World} {os : List Ass} {n : Nat} {env : List (Nat × Value)} {Q : Exit → Act → World → Prop} {o : Oper} {act : Act}
theorem H9 {T T' : TypeId} {x y : Operand} {l m : List UInt8} {c : Bool} (hc : (l != m) = c) (ho : o.op = .binOp .neq T x y T') (hx : evs env x = some (.string (bs l))) (hy : evs env y = some (.string (bs m))) (hF : Fr n act env) : (execOp act.eval o).run P w = .ok (.value (.bool c)) w := by
 unfold execOp
 subst hc
 simp only [ho, hF.evs hx, hF.evs hy]
 simp [eqGuard, binOp, Op.stringOp, MW, bne]
end lit
end Go.Proofs.YtjcfimmcogkopaaGreat.Sep
namespace Go.Proofs.YtjcfimmcogkopaaGreat.Sep
open Go.RowKit
open Go.Proofs.YtjcfimmcogkopaaGreat.Mem (Bh Cs Chg AA)
def Ft (X : Ass) (v : Value) (l : List RFl) : Prop := ∀ rs w, X rs → RowsOf w rs → Dy w 2 v l.length (flat encRF l)
theorem Hp.rdFs {B : Nat → Prop} {w0 w : World} {os : List Ass} {X : Ass} {v : Value} {l : List RFl} (h : Hp B w0 w os) (i : Nat) (hi : os[i]? = some X) (hu : Ft X v l) : Dy w 2 v l.length (flat encRF l) := by
 obtain ⟨rs, h1, h2⟩ := h.thing i hi
 exact hu rs w h1 h2
theorem C1 {v : Value} {l : List RFl} : Ft (Ar 54 2 encRF v l) v l := fun _ _ h1 h2 => h1.all B3 h2
theorem Dv {X : Ass} {v : Value} {l : List RFl} {n : List UInt8} {j : Nat} {y : RFl} (hX : Ft X v l) (hl : l.length ≤ 1000000) (hj : l[j]? = some y) (hy : y.n = n) (hlt : ∀ (k : Nat) (y : RFl), k < j → l[k]? = some y → y.n ≠ n) : AX Tryz.prog 66 #[v, .string (bs n)] [X] (fun (_ : Unit) => .int .i64 (j : Int)) (fun (_ : Unit) => [X]) := by
 have hjl := (List.getElem?_eq_some_iff.1 hj).1
 refine Bg (args := [v, .string (bs n)]) 20 Tryz.func66 rfl rfl rfl ?_; intro w rs
 refine Ad (Ae Ah rfl (Ab (Av (Ad (Ae Ah rfl (Ab (Bo (Dd (α := Nat) (fun i => [(0, v), (1, .string (bs n)), (4, .int .i64 0), (5, .int .i64 ((i : Nat) : Int))]) (fun i => [X]) (fun i => i ≤ j) (fun i => l.length - i) 0 (by omega) ⟨rfl, rfl, rfl, rfl, trivial⟩ rfl ?_))))))))
 rintro i hI
 refine BB.at_ (env' := [(0, v), (1, .string (bs n)), (4, .int .i64 0), (5, .int .i64 ((i : Nat) : Int))]) (rs' := [X]) ⟨rfl, rfl, rfl, rfl, trivial⟩ rfl (Av ?_)
 rcases Nat.lt_or_ge i j with hi | hi
 obtain ⟨x, hx⟩ : ∃ x, l[i]? = some x := ⟨_, List.getElem?_eq_getElem (by omega)⟩
 refine Ad (Ae Ah rfl (Aa rfl (.int .i64 (l.length : Int)) (fun b w hb hH => Bf ((hH.rdFs 0 rfl hX)) Tryz.underlying55 rfl rfl hb) (Aa rfl (.bool true) (fun b w hb hH => AZ rfl rfl rfl (Bw (by omega)) hb) (Ab (AI rfl (AB (AL (Av (Bo (Ad (Ae Ah rfl (Aa rfl (BN v (i * 2)) (fun b w hb hH => BH B3 ((hH.rdFs 0 rfl hX)) AD (j := i) hx rfl rfl rfl hb) (Aa rfl (BN v (i * 2 + 0)) (fun b w hb hH => JH B3 (by decide) ((hH.rdFs 0 rfl hX)) (j := i) hx BE rfl rfl hb) (Aa rfl (.string (bs x.n)) (fun b w hb hH => Bu B3 (by decide) ((hH.rdFs 0 rfl hX)) (j := i) hx Bd (off := 0) rfl rfl rfl hb) (Ae Ah rfl ?_)))))))))))))))
 refine Aa rfl (.bool false) (fun b w hb hH => HO rfl rfl rfl (by simpa using hlt i x hi hx) hb) (Ab (As rfl (AB (BC (AL (Bp (Ae Ah rfl (Aa rfl (.int .i64 ((i + 1 : Nat) : Int)) (fun b w hb hH => AQ rfl rfl rfl rfl (by rw [IntWalk.i64_in _ (by omega)]; omega) hb) (Ae Ah rfl (AV ?_))))))))))
 exact Cr (i + 1) 0 hi (show l.length - (i + 1) < l.length - i by omega) ⟨rfl, rfl, rfl, rfl, trivial⟩ rfl
 obtain rfl : i = j := by omega
 refine Ad (Ae Ah rfl (Aa rfl (.int .i64 (l.length : Int)) (fun b w hb hH => Bf ((hH.rdFs 0 rfl hX)) Tryz.underlying55 rfl rfl hb) (Aa rfl (.bool true) (fun b w hb hH => AZ rfl rfl rfl (Bw (by omega)) hb) (Ab (AI rfl (AB (AL (Av (Bo (Ad (Ae Ah rfl (Aa rfl (BN v (i * 2)) (fun b w hb hH => BH B3 ((hH.rdFs 0 rfl hX)) AD (j := i) hj rfl rfl rfl hb) (Aa rfl (BN v (i * 2 + 0)) (fun b w hb hH => JH B3 (by decide) ((hH.rdFs 0 rfl hX)) (j := i) hj BE rfl rfl hb) (Aa rfl (.string (bs y.n)) (fun b w hb hH => Bu B3 (by decide) ((hH.rdFs 0 rfl hX)) (j := i) hj Bd (off := 0) rfl rfl rfl hb) (Ae Ah rfl ?_)))))))))))))))
 refine Aa rfl (.bool true) (fun b w hb hH => HO rfl rfl rfl (by rw [hy]; simp) hb) (Ab (AI rfl (Ad (Ae Ah rfl (Ab (Ax (BG (C4 (C4 (BG (C4 ?_)))))))))))
 exact Aw (.tmp rfl) (fun w h => AH () rfl [0] rfl h CK) rfl
theorem DK {X : Ass} {v : Value} {l : List RFl} {n : List UInt8} (hX : Ft X v l) (hl : l.length ≤ 1000000) (hn : ∀ x : RFl, x ∈ l → x.n ≠ n) : AX Tryz.prog 66 #[v, .string (bs n)] [X] (fun (_ : Unit) => .int .i64 (-1)) (fun (_ : Unit) => [X]) := by
 refine Bg (args := [v, .string (bs n)]) 20 Tryz.func66 rfl rfl rfl ?_; intro w rs
 refine Ad (Ae Ah rfl (Ab (Av (Ad (Ae Ah rfl (Ab (Bo (Dd (α := Nat) (fun i => [(0, v), (1, .string (bs n)), (4, .int .i64 0), (5, .int .i64 ((i : Nat) : Int))]) (fun i => [X]) (fun i => i ≤ l.length) (fun i => l.length - i) 0 (by omega) ⟨rfl, rfl, rfl, rfl, trivial⟩ rfl ?_))))))))
 rintro i hI
 refine BB.at_ (env' := [(0, v), (1, .string (bs n)), (4, .int .i64 0), (5, .int .i64 ((i : Nat) : Int))]) (rs' := [X]) ⟨rfl, rfl, rfl, rfl, trivial⟩ rfl (Av ?_)
 rcases Nat.lt_or_ge i l.length with hi | hi
 obtain ⟨x, hx⟩ : ∃ x, l[i]? = some x := ⟨_, List.getElem?_eq_getElem (by omega)⟩
 refine Ad (Ae Ah rfl (Aa rfl (.int .i64 (l.length : Int)) (fun b w hb hH => Bf ((hH.rdFs 0 rfl hX)) Tryz.underlying55 rfl rfl hb) (Aa rfl (.bool true) (fun b w hb hH => AZ rfl rfl rfl (Bw (by omega)) hb) (Ab (AI rfl (AB (AL (Av (Bo (Ad (Ae Ah rfl (Aa rfl (BN v (i * 2)) (fun b w hb hH => BH B3 ((hH.rdFs 0 rfl hX)) AD (j := i) hx rfl rfl rfl hb) (Aa rfl (BN v (i * 2 + 0)) (fun b w hb hH => JH B3 (by decide) ((hH.rdFs 0 rfl hX)) (j := i) hx BE rfl rfl hb) (Aa rfl (.string (bs x.n)) (fun b w hb hH => Bu B3 (by decide) ((hH.rdFs 0 rfl hX)) (j := i) hx Bd (off := 0) rfl rfl rfl hb) (Ae Ah rfl ?_)))))))))))))))
 refine Aa rfl (.bool false) (fun b w hb hH => HO rfl rfl rfl (by simpa using hn x (List.mem_of_getElem? hx)) hb) (Ab (As rfl (AB (BC (AL (Bp (Ae Ah rfl (Aa rfl (.int .i64 ((i + 1 : Nat) : Int)) (fun b w hb hH => AQ rfl rfl rfl rfl (by rw [IntWalk.i64_in _ (by omega)]; omega) hb) (Ae Ah rfl (AV ?_))))))))))
 exact Cr (i + 1) 0 hi (show l.length - (i + 1) < l.length - i by omega) ⟨rfl, rfl, rfl, rfl, trivial⟩ rfl
 refine Ad (Ae Ah rfl (Aa rfl (.int .i64 (l.length : Int)) (fun b w hb hH => Bf ((hH.rdFs 0 rfl hX)) Tryz.underlying55 rfl rfl hb) (Aa rfl (.bool false) (fun b w hb hH => AZ rfl rfl rfl (BS (by omega)) hb) (Ab (As rfl (CP (FP (FP (Br (AL (Ad (Ae Ah rfl (Ab (Ax ?_))))))))))))))
 exact Aw (.tmp rfl) (fun w h => AH () rfl [0] rfl h CK) rfl
theorem Jx {X : Ass} {v : Value} {l m : List RFl} {n : List UInt8} (hX : Ft X v l) (hl : l.length ≤ 1000000) (hm : DX l n = m) : AX Tryz.prog 90 #[v, .string (bs n)] [X] (fun (r : Value) => r) (fun (r : Value) => [X, Ar 54 2 encRF r m]) := by
 refine Bg (args := [v, .string (bs n)]) 28 Tryz.func90 rfl rfl rfl ?_; intro w rs
 refine Ad (Ae Ah rfl (Ab (Ad (Ae Ah rfl (Ab (Av (Ad (Ae Ah rfl (Ab (Bo (B6 54 2 encRF (Dd (α := Nat × Value) (fun ⟨i, ov⟩ => [(0, v), (1, .string (bs n)), (4, .slice none 0 0), (5, ov), (6, .int .i64 ((i : Nat) : Int))]) (fun ⟨i, ov⟩ => [Ar 54 2 encRF ov (DX (l.take i) n), X]) (fun ⟨i, ov⟩ => i ≤ l.length) (fun ⟨i, ov⟩ => l.length - i) (0, .slice none 0 0) (Nat.zero_le _) ⟨rfl, rfl, rfl, rfl, rfl, trivial⟩ rfl ?_))))))))))))
 rintro ⟨i, ov⟩ hI
 refine BB.at_ (env' := [(0, v), (1, .string (bs n)), (4, .slice none 0 0), (5, ov), (6, .int .i64 ((i : Nat) : Int))]) (rs' := [Ar 54 2 encRF ov (DX (l.take i) n), X]) ⟨rfl, rfl, rfl, rfl, rfl, trivial⟩ rfl (Av ?_)
 rcases Nat.lt_or_ge i l.length with hi | hi
 obtain ⟨x, hx⟩ : ∃ x, l[i]? = some x := ⟨_, List.getElem?_eq_getElem hi⟩
 have hnx := UL (n := n) hx
 have hol : (DX (l.take i) n).length ≤ 1000000 := by have h1 := List.length_filter_le (fun x : RFl => decide (x.n ≠ n)) (l.take i); rw [List.length_take] at h1; unfold DX; omega
 refine Ad (Ae Ah rfl (Aa rfl (.int .i64 (l.length : Int)) (fun b w hb hH => Bf ((hH.rdFs 1 rfl hX)) Tryz.underlying55 rfl rfl hb) (Aa rfl (.bool true) (fun b w hb hH => AZ rfl rfl rfl (Bw (by omega)) hb) (Ab (AI rfl (AB (AL (Av (Bo ?_)))))))))
 rcases Classical.em (x.n = n) with he | he
 rw [if_pos he] at hnx
 rw [← hnx]
 refine Ad (Ae Ah rfl (Aa rfl (BN v (i * 2)) (fun b w hb hH => BH B3 ((hH.rdFs 1 rfl hX)) AD (j := i) hx rfl rfl rfl hb) (Aa rfl (BN v (i * 2 + 0)) (fun b w hb hH => JH B3 (by decide) ((hH.rdFs 1 rfl hX)) (j := i) hx BE rfl rfl hb) (Aa rfl (.string (bs x.n)) (fun b w hb hH => Bu B3 (by decide) ((hH.rdFs 1 rfl hX)) (j := i) hx Bd (off := 0) rfl rfl rfl hb) (Ae Ah rfl (Aa rfl (.bool false) (fun b w hb hH => H9 (by simpa using he) rfl rfl rfl hb) (Ab (As rfl (AB (BC (AL (Bp (Ae Ah rfl (Aa rfl (.int .i64 ((i + 1 : Nat) : Int)) (fun b w hb hH => AQ rfl rfl rfl rfl (by rw [IntWalk.i64_in _ (by omega)]; omega) hb) ?_))))))))))))))
 refine Ae Ah rfl (AV ?_)
 exact Cr (i + 1, ov) 0 hi (show l.length - (i + 1) < l.length - i by omega) ⟨rfl, rfl, rfl, rfl, rfl, trivial⟩ rfl
 rw [if_neg he] at hnx
 refine Ad (Ae Ah rfl (Aa rfl (BN v (i * 2)) (fun b w hb hH => BH B3 ((hH.rdFs 1 rfl hX)) AD (j := i) hx rfl rfl rfl hb) (Aa rfl (BN v (i * 2 + 0)) (fun b w hb hH => JH B3 (by decide) ((hH.rdFs 1 rfl hX)) (j := i) hx BE rfl rfl hb) (Aa rfl (.string (bs x.n)) (fun b w hb hH => Bu B3 (by decide) ((hH.rdFs 1 rfl hX)) (j := i) hx Bd (off := 0) rfl rfl rfl hb) (Ae Ah rfl (Aa rfl (.bool true) (fun b w hb hH => H9 (by simpa using he) rfl rfl rfl hb) (Ab (AI rfl (Bp (Ae Ah rfl (Aa rfl (BN v (i * 2)) (fun b w hb hH => BH B3 ((hH.rdFs 1 rfl hX)) AD (j := i) hx rfl rfl rfl hb) ?_)))))))))))
 refine Aa rfl (.agg (encRF x).toArray) (fun b w hb hH => GC B3 (by decide) ((hH.rdFs 1 rfl hX)) (j := i) hx D7 rfl rfl hb) ?_
 refine Aj (X := Value) (val := fun v : Value => v) (post := fun ub => [Ar 54 2 encRF ub ([x]), Ar 54 2 encRF ov (DX (l.take i) n), X]) rfl (by refine Hr (e := 54) (t := 55) (k := 2) (enc := encRF) (x := .tmp 24) (c := .agg (encRF x).toArray) ?_ ?_ ?_ x ?_ ?_ ?_; exact AD; exact (by decide); exact B3; exact rfl; exact rfl; exact rfl) ?_; rintro ub
 refine Aj (post := fun ov2 => [Ar 54 2 encRF ub ([x]), Ar 54 2 encRF ov2 (DX (l.take (i + 1)) n), X]) rfl (C8 1 AD B3 rfl ([x]) (fun w hH => hH.vec 0 rfl B3) (by simp only [List.length_cons, List.length_nil]; omega) rfl rfl rfl hnx.symm) ?_; rintro ov2
 refine Ae Ah rfl (AV (BC (AL (BB.leave [0] rfl rfl (Bp (Ae Ah rfl (Aa rfl (.int .i64 ((i + 1 : Nat) : Int)) (fun b w hb hH => AQ rfl rfl rfl rfl (by rw [IntWalk.i64_in _ (by omega)]; omega) hb) (Ae Ah rfl (AV ?_)))))))))
 exact Cr (i + 1, ov2) 0 hi (show l.length - (i + 1) < l.length - i by omega) ⟨rfl, rfl, rfl, rfl, rfl, trivial⟩ rfl
 have ho : DX (l.take i) n = m := by rw [List.take_of_length_le hi]; exact hm
 rw [ho]
 refine Ad (Ae Ah rfl (Aa rfl (.int .i64 (l.length : Int)) (fun b w hb hH => Bf ((hH.rdFs 1 rfl hX)) Tryz.underlying55 rfl rfl hb) (Aa rfl (.bool false) (fun b w hb hH => AZ rfl rfl rfl (BS (by omega)) hb) (Ab (As rfl (CP (FP (FP (Br (AL (Ad (Ae Ah rfl (Ab (Ax ?_))))))))))))))
 exact Aw (.tmp rfl) (fun w h => AH ov rfl [1, 0] rfl h CK) rfl
def HF (l : List RFl) (n d : List UInt8) (fv rv : Value) : Ass := fun rs => ∃ A c, fv = .slice A d.length c ∧ Ar 54 2 encRF rv (D4 l ⟨n, A, c, d⟩) rs
theorem MB {X : Ass} {l : List RFl} {n d : List UInt8} {A : Option Addr} {c : Nat} {rv : Value} : ∀ rs, Al [X, Ar 5 1 encB (.slice A d.length c) d, Ar 54 2 encRF rv (D4 l ⟨n, A, c, d⟩)] rs → ∃ z, rs.Perm z ∧ Al [X, Ar 5 1 encB (.slice A d.length c) d, HF l n d (.slice A d.length c) rv] z := fun rs h => by
 obtain ⟨a, _, rfl, h1, b, _, rfl, h2, h3⟩ := h
 exact ⟨_, .refl _, a, _, rfl, h1, b, _, rfl, h2, Al.one ⟨A, c, rfl, Al.one' h3⟩⟩
theorem SW (m : List RFl) (f : RFl) (i : Nat) : (∃ x, m[i]? = some x ∧ IQ x.n f.n = true) ∨ (∃ x, m[i]? = some x ∧ IQ x.n f.n = false) ∨ m.length ≤ i := by
  rcases Nat.lt_or_ge i m.length with h | h
  · obtain ⟨x, hx⟩ : ∃ x, m[i]? = some x := ⟨_, List.getElem?_eq_getElem h⟩
    cases hl : IQ x.n f.n
    · exact .inr (.inl ⟨x, hx, hl⟩)
    · exact .inl ⟨x, hx, hl⟩
  · exact .inr (.inr h)
theorem Nu {X : Ass} {v fv : Value} {l : List RFl} {n d : List UInt8} (hX : Ft X v l) (hl : l.length ≤ 1000000) : AX Tryz.prog 89 #[v, .agg #[.string (bs n), fv]] [X, Ar 5 1 encB fv d] (fun (rv : Value) => rv) (fun (rv : Value) => [X, Ar 5 1 encB fv d, HF l n d fv rv]) := by
  refine Bg (args := [v, .agg #[.string (bs n), fv]]) 39 Tryz.func89 rfl rfl rfl ?_; intro w rs
  refine BB.fact 1 rfl (fun _ h => Ar.is h) ?_; rintro ⟨A, c, rfl⟩
  refine Ad (Ae Ah rfl (Aj (post := fun g3 => [cell g3 54 #[.string (bs n), .slice A d.length c], X, Ar 5 1 encB (.slice A d.length c) d]) rfl (CL (cs := #[.string (bs n), .slice A d.length c]) rfl rfl rfl) ?_)); rintro g3
  refine Ae Ah rfl (Ab (Ad (Ae Ah rfl (Aa rfl (.string (bs n)) (fun b w hb hH => Ba rfl rfl (Bm Bd rfl) (hH.row 0 rfl) hb) (Aj rfl (Ak (os' := fun v1 => [Ar 54 2 encRF v1 (DX l n), cell g3 54 #[.string (bs n), .slice A d.length c], X, Ar 5 1 encB (.slice A d.length c) d]) [1] 0 (Ai Tryz.func90 (by kernel_rfl) rfl) (Jx hX hl rfl) rfl rfl rfl (fun _ => rfl) rfl rfl rfl) ?_))))); rintro v1
  obtain ⟨m, hm⟩ : ∃ m, DX l n = m := ⟨_, rfl⟩
  have hml : m.length ≤ 1000000 := by rw [← hm]; exact Nat.le_trans (List.length_filter_le ..) hl
  rw [hm]
  refine Ae Ah rfl (Ab (Ad (Ae Ah rfl (Ab (Av (Bo (Dd (α := Nat) (fun i => [(3, .pointer (some ⟨g3, 0, none⟩)), (4, .slice none 0 0), (0, v1), (5, .int .i64 ((i : Nat) : Int))]) (fun i => [Ar 54 2 encRF v1 m, cell g3 54 #[.string (bs n), .slice A d.length c], X, Ar 5 1 encB (.slice A d.length c) d]) (fun i => i ≤ m.length ∧ ∀ (j : Nat) (x : RFl), j < i → m[j]? = some x → IQ x.n n = true) (fun i => m.length - i) 0 ⟨Nat.zero_le _, fun j x h => absurd h (Nat.not_lt_zero j)⟩ ⟨rfl, rfl, rfl, rfl, trivial⟩ rfl ?_)))))))
  rintro i hI
  refine BB.at_ (env' := [(3, .pointer (some ⟨g3, 0, none⟩)), (4, .slice none 0 0), (0, v1), (5, .int .i64 ((i : Nat) : Int))]) (rs' := [Ar 54 2 encRF v1 m, cell g3 54 #[.string (bs n), .slice A d.length c], X, Ar 5 1 encB (.slice A d.length c) d]) ⟨rfl, rfl, rfl, rfl, trivial⟩ rfl ?_
  have hI1 := hI.1
  have hI2 := hI.2
  refine Av ?_
  rcases SW m (⟨n, A, c, d⟩ : RFl) i with ⟨x, hx, hlt⟩ | ⟨x, hx, hlt⟩ | hi
  have hi := (List.getElem?_eq_some_iff.1 hx).1
  refine Av ?_
  refine BL 14 0 [⟨.quiet, [], fun _ => .int .i64 ((i : Nat) : Int), []⟩, ⟨.quiet, [], fun _ => v1, []⟩, ⟨.quiet, [], fun _ => .int .i64 (m.length : Int), [1]⟩, ⟨.quiet, [], fun _ => .bool true, [0, 2]⟩, ⟨.quiet, [], fun _ => .bool true, [3]⟩, ⟨.quiet, [], fun _ => v1, [4]⟩, ⟨.quiet, [], fun _ => .int .i64 ((i : Nat) : Int), [4]⟩, ⟨.quiet, [], fun _ => BN v1 (i * 2), [5, 6, 4]⟩, ⟨.quiet, [], fun _ => BN v1 (i * 2 + 0), [7, 4]⟩, ⟨.quiet, [], fun _ => .string (bs x.n), [8, 4]⟩, ⟨.quiet, [], fun _ => .pointer (some ⟨g3, 0, none⟩), [4]⟩, ⟨.quiet, [], fun _ => .string (bs n), [10, 4]⟩, ⟨.quiet, [], fun _ => .bool true, [9, 11, 4]⟩, ⟨.quiet, [], fun _ => .bool true, [4, 12]⟩] [(3, .pointer (some ⟨g3, 0, none⟩)), (4, .slice none 0 0), (0, v1), (5, .int .i64 ((i : Nat) : Int))] (fun _ => [Ar 54 2 encRF v1 m, cell g3 54 #[.string (bs n), .slice A d.length c], X, Ar 5 1 encB (.slice A d.length c) d]) (by kernel_rfl) (by kernel_rfl) ⟨rfl, rfl, rfl, rfl, trivial⟩ rfl ?_ ?_
  refine Ac (by exact ⟨rfl, fun b w hH hb => Af Ah rfl hb⟩) (Ac (by exact ⟨rfl, fun b w hH hb => Af Ah rfl hb⟩) (Ac (by exact ⟨rfl, fun b w hH hb => Bf ((hH.rdFs 0 rfl C1)) Tryz.underlying55 rfl rfl hb⟩) (Ac (by exact ⟨rfl, fun b w hH hb => AZ rfl rfl rfl (Bw (by omega)) hb⟩) (Ac (by exact ⟨rfl, fun b w hH hb => Af Ah rfl hb⟩) (Ac (by exact ⟨rfl, fun b w hH hb => Af Ah rfl hb⟩) (Ac (by exact ⟨rfl, fun b w hH hb => Af Ah rfl hb⟩) (Ac (by exact ⟨rfl, fun b w hH hb => BH B3 ((hH.rdFs 0 rfl C1)) AD (j := i) hx rfl rfl rfl hb⟩) (Ac (by exact ⟨rfl, fun b w hH hb => JH B3 (by decide) ((hH.rdFs 0 rfl C1)) (j := i) hx BE rfl rfl hb⟩) (Ac (by exact ⟨rfl, fun b w hH hb => Bu B3 (by decide) ((hH.rdFs 0 rfl C1)) (j := i) hx Bd (off := 0) rfl rfl rfl hb⟩) ?_)))))))))
  refine Ac (by exact ⟨rfl, fun b w hH hb => Af Ah rfl hb⟩) (Ac (by exact ⟨rfl, fun b w hH hb => Ba rfl rfl (Bm Bd rfl) (hH.row 1 rfl) hb⟩) (Ac (by exact ⟨rfl, fun b w hH hb => (Mb rfl rfl rfl hb).trans (by rw [show Op.bytesLess x.n n = true from hlt])⟩) (Ac (by exact ⟨rfl, fun b w hH hb => Af Ah rfl hb⟩) ?_)))
  exact B7
  refine Cf.keep (env' := [(3, .pointer (some ⟨g3, 0, none⟩)), (4, .slice none 0 0), (0, v1), (5, .int .i64 ((i : Nat) : Int)), (11, .int .i64 ((i : Nat) : Int)), (12, v1), (13, .int .i64 (m.length : Int)), (14, .bool true), (15, .bool true), (16, v1), (17, .int .i64 ((i : Nat) : Int)), (18, BN v1 (i * 2)), (19, BN v1 (i * 2 + 0)), (20, .string (bs x.n)), (21, .pointer (some ⟨g3, 0, none⟩)), (22, .string (bs n)), (23, .bool true), (24, .bool true)]) ⟨rfl, rfl, rfl, rfl, rfl, rfl, rfl, rfl, rfl, rfl, rfl, rfl, rfl, rfl, rfl, rfl, rfl, rfl, trivial⟩ (AV (AL (AI rfl (AB (AL (Bo (Bp (Ae Ah rfl (Aa rfl (.int .i64 ((i + 1 : Nat) : Int)) (fun b w hb hH => AQ rfl rfl rfl rfl (by rw [IntWalk.i64_in _ (by omega)]; omega) hb) (Ae Ah rfl (AV (BC ?_))))))))))))
  exact Cr (i + 1) 0 ⟨hi, fun j y hj hy => by rcases Nat.lt_or_ge j i with h | h; exact hI2 j y h hy; (obtain rfl : j = i := by omega); rw [hx] at hy; cases hy; exact hlt⟩ (show m.length - (i + 1) < m.length - i by omega) ⟨rfl, rfl, rfl, rfl, trivial⟩ rfl
  have hfin : m.take i ++ [(⟨n, A, c, d⟩ : RFl)] ++ m.drop i = D4 l (⟨n, A, c, d⟩ : RFl) := by unfold D4; rw [show DX l (⟨n, A, c, d⟩ : RFl).n = m from hm]; exact (O2 (f := (⟨n, A, c, d⟩ : RFl)) hI1 hI2 (fun y hy => by rw [hx] at hy; cases hy; exact hlt)).symm
  refine Av ?_
  refine BL 14 0 [⟨.quiet, [], fun _ => .int .i64 ((i : Nat) : Int), []⟩, ⟨.quiet, [], fun _ => v1, []⟩, ⟨.quiet, [], fun _ => .int .i64 (m.length : Int), [1]⟩, ⟨.quiet, [], fun _ => .bool true, [0, 2]⟩, ⟨.quiet, [], fun _ => .bool true, [3]⟩, ⟨.quiet, [], fun _ => v1, [4]⟩, ⟨.quiet, [], fun _ => .int .i64 ((i : Nat) : Int), [4]⟩, ⟨.quiet, [], fun _ => BN v1 (i * 2), [5, 6, 4]⟩, ⟨.quiet, [], fun _ => BN v1 (i * 2 + 0), [7, 4]⟩, ⟨.quiet, [], fun _ => .string (bs x.n), [8, 4]⟩, ⟨.quiet, [], fun _ => .pointer (some ⟨g3, 0, none⟩), [4]⟩, ⟨.quiet, [], fun _ => .string (bs n), [10, 4]⟩, ⟨.quiet, [], fun _ => .bool false, [9, 11, 4]⟩, ⟨.quiet, [], fun _ => .bool false, [4, 12]⟩] [(3, .pointer (some ⟨g3, 0, none⟩)), (4, .slice none 0 0), (0, v1), (5, .int .i64 ((i : Nat) : Int))] (fun _ => [Ar 54 2 encRF v1 m, cell g3 54 #[.string (bs n), .slice A d.length c], X, Ar 5 1 encB (.slice A d.length c) d]) (by kernel_rfl) (by kernel_rfl) ⟨rfl, rfl, rfl, rfl, trivial⟩ rfl ?_ ?_
  refine Ac (by exact ⟨rfl, fun b w hH hb => Af Ah rfl hb⟩) (Ac (by exact ⟨rfl, fun b w hH hb => Af Ah rfl hb⟩) (Ac (by exact ⟨rfl, fun b w hH hb => Bf ((hH.rdFs 0 rfl C1)) Tryz.underlying55 rfl rfl hb⟩) ?_))
  refine Ac (by exact ⟨rfl, fun b w hH hb => AZ rfl rfl rfl (Bw (by have := (List.getElem?_eq_some_iff.1 hx).1; omega)) hb⟩) ?_
  refine Ac (by exact ⟨rfl, fun b w hH hb => Af Ah rfl hb⟩) (Ac (by exact ⟨rfl, fun b w hH hb => Af Ah rfl hb⟩) (Ac (by exact ⟨rfl, fun b w hH hb => Af Ah rfl hb⟩) (Ac (by exact ⟨rfl, fun b w hH hb => BH B3 ((hH.rdFs 0 rfl C1)) AD (j := i) hx rfl rfl rfl hb⟩) (Ac (by exact ⟨rfl, fun b w hH hb => JH B3 (by decide) ((hH.rdFs 0 rfl C1)) (j := i) hx BE rfl rfl hb⟩) (Ac (by exact ⟨rfl, fun b w hH hb => Bu B3 (by decide) ((hH.rdFs 0 rfl C1)) (j := i) hx Bd (off := 0) rfl rfl rfl hb⟩) (Ac (by exact ⟨rfl, fun b w hH hb => Af Ah rfl hb⟩) (Ac (by exact ⟨rfl, fun b w hH hb => Ba rfl rfl (Bm Bd rfl) (hH.row 1 rfl) hb⟩) (Ac (by exact ⟨rfl, fun b w hH hb => (Mb rfl rfl rfl hb).trans (by rw [show Op.bytesLess x.n n = false from hlt])⟩) (Ac (by exact ⟨rfl, fun b w hH hb => Af Ah rfl hb⟩) ?_)))))))))
  exact B7
  refine Cf.keep (env' := [(3, .pointer (some ⟨g3, 0, none⟩)), (4, .slice none 0 0), (0, v1), (5, .int .i64 ((i : Nat) : Int)), (11, .int .i64 ((i : Nat) : Int)), (12, v1), (13, .int .i64 (m.length : Int)), (14, .bool true), (15, .bool true), (16, v1), (17, .int .i64 ((i : Nat) : Int)), (18, BN v1 (i * 2)), (19, BN v1 (i * 2 + 0)), (20, .string (bs x.n)), (21, .pointer (some ⟨g3, 0, none⟩)), (22, .string (bs n)), (23, .bool false), (24, .bool false)]) ⟨rfl, rfl, rfl, rfl, rfl, rfl, rfl, rfl, rfl, rfl, rfl, rfl, rfl, rfl, rfl, rfl, rfl, rfl, trivial⟩ (AV (AL (As rfl (CP (FP (FP (Br (AL (Ad (Ae Ah rfl (Ab (B6 54 2 encRF (Av (DW 1 rfl ?_))))))))))))))
  refine BL 12 4 [⟨.quiet, [none, none, none, none], fun _ => .slice none 0 0, []⟩, ⟨.quiet, [none, none, none, none], fun _ => v1, []⟩, ⟨.quiet, [none, none, none, none], fun _ => .int .i64 ((i : Nat) : Int), []⟩, ⟨.quiet, [none, none, none, none], fun _ => CB 2 v1 0 i, [1, 2]⟩, ⟨.act 0, [some false, none, some false, some false], fun _ => undef, [0, 3]⟩, ⟨.quiet, [none, none, none, none], fun _ => .agg #[.string (bs n), .slice A d.length c], []⟩, ⟨.act 1, [none, some false, some false, some false], fun _ => undef, [5]⟩, ⟨.act 2, [some true, some true, some false, some false], fun _ => undef, [4, 6]⟩, ⟨.quiet, [none, none, none, none], fun _ => v1, []⟩, ⟨.quiet, [none, none, none, none], fun _ => .int .i64 ((i : Nat) : Int), []⟩, ⟨.quiet, [none, none, none, none], fun _ => CB 2 v1 i m.length, [8, 9]⟩, ⟨.act 3, [some true, some true, some true, some false], fun _ => undef, [7, 10]⟩] [(3, .pointer (some ⟨g3, 0, none⟩)), (4, .slice none 0 0), (0, v1), (5, .int .i64 ((i : Nat) : Int)), (6, .slice none 0 0)] (fun ρ => match ρ with | [r0, r1, r2, r3] => [Co r1 (fun fb => Ar 54 2 encRF fb ([(⟨n, A, c, d⟩ : RFl)])) (DN), Co r3 (fun w3 => Ar 54 2 encRF w3 (D4 l (⟨n, A, c, d⟩ : RFl))) (Co r2 (fun w2 => Ar 54 2 encRF w2 (m.take i ++ [(⟨n, A, c, d⟩ : RFl)])) (Co r0 (fun w1 => Ar 54 2 encRF w1 (m.take i)) (Ar 54 2 encRF (.slice none 0 0) ([])))), Ar 54 2 encRF v1 m, cell g3 54 #[.string (bs n), .slice A d.length c], X, Ar 5 1 encB (.slice A d.length c) d] | _ => []) (by kernel_rfl) (by kernel_rfl) ⟨rfl, rfl, rfl, rfl, rfl, trivial⟩ rfl ?_ ?_
  refine Ac (by intro r0_ r1_ r2_ r3_; exact ⟨rfl, fun b w hH hb => Af Ah rfl hb⟩) (Ac (by intro r0_ r1_ r2_ r3_; exact ⟨rfl, fun b w hH hb => Af Ah rfl hb⟩) (Ac (by intro r0_ r1_ r2_ r3_; exact ⟨rfl, fun b w hH hb => Af Ah rfl hb⟩) (Ac (by intro r0_ r1_ r2_ r3_; exact ⟨rfl, fun b w hH hb => HU 2 (b := i) AD rfl hI1 rfl rfl rfl hH hb⟩) (Ac (by intro r1_; exact ⟨rfl, Bk.s (C8 1 AD B3 rfl (m.take i) (fun w hH => hH.vecq 2 rfl B3 (Nat.zero_le _) hI1 (m := m.take i) (by simp)) (by simp only [List.length_nil, List.length_take]; omega) rfl rfl rfl (List.nil_append _)) (fun _ => rfl)⟩) (Ac (by intro r0_ r1_ r2_ r3_; exact ⟨rfl, fun b w hH hb => Ba rfl rfl (DM (cs := [.string (bs n), .slice A d.length c]) D7 rfl) (hH.row 3 rfl) hb⟩) ?_)))))
  refine Ac (by intro r0_; exact ⟨rfl, Bk.s (Bk.place (val := fun fb : Value => fb) (t := fun fb => Ar 54 2 encRF fb ([(⟨n, A, c, d⟩ : RFl)])) (os' := fun fb => [Ar 54 2 encRF fb ([(⟨n, A, c, d⟩ : RFl)]), Co r0_ (fun w1 => Ar 54 2 encRF w1 (m.take i)) (Ar 54 2 encRF (.slice none 0 0) ([])), Ar 54 2 encRF v1 m, cell g3 54 #[.string (bs n), .slice A d.length c], X, Ar 5 1 encB (.slice A d.length c) d]) 0 rfl (by refine Hr (e := 54) (t := 55) (k := 2) (enc := encRF) (x := .tmp 32) (c := .agg #[.string (bs n), .slice A d.length c]) ?_ ?_ ?_ (⟨n, A, c, d⟩ : RFl) ?_ ?_ ?_; exact AD; exact (by decide); exact B3; exact rfl; exact rfl; exact rfl) (fun _ => rfl)) (fun _ => rfl)⟩) ?_
  refine Ac (by intro w1 fb; exact ⟨rfl, Bk.s (C8 1 AD B3 rfl ([(⟨n, A, c, d⟩ : RFl)]) (fun w hH => hH.vec 0 rfl B3) (by simp only [List.length_cons, List.length_nil, List.length_take]; omega) rfl rfl rfl rfl) (fun _ => rfl)⟩) (Ac (by intro r0_ r1_ r2_ r3_; exact ⟨rfl, fun b w hH hb => Af Ah rfl hb⟩) (Ac (by intro r0_ r1_ r2_ r3_; exact ⟨rfl, fun b w hH hb => Af Ah rfl hb⟩) (Ac (by intro r0_ r1_ r2_ r3_; exact ⟨rfl, fun b w hH hb => JF 2 (a := i) AD rfl hI1 rfl rfl rfl hH hb⟩) (Ac (by intro w1 fb w2; exact ⟨rfl, Bk.s (C8 1 AD B3 rfl (m.drop i) (fun w hH => hH.vecq 2 rfl B3 hI1 (Nat.le_refl _) (m := m.drop i) (by simp)) (by simp only [List.length_append, List.length_cons, List.length_nil, List.length_take, List.length_drop]; omega) rfl rfl rfl hfin) (fun _ => rfl)⟩) ?_))))
  exact B7
  intro w1 fb w2 w3
  refine Cf.keep (env' := [(4, .slice none 0 0), (38, w3)]) ⟨rfl, rfl, trivial⟩ (Ae Ah rfl (AV (AL (Ax ?_))))
  exact Aw (.tmp rfl) (fun w h => AH w3 rfl [4, 5, 1] rfl h MB) rfl
  have hfin : m.take i ++ [(⟨n, A, c, d⟩ : RFl)] ++ m.drop i = D4 l (⟨n, A, c, d⟩ : RFl) := by unfold D4; rw [show DX l (⟨n, A, c, d⟩ : RFl).n = m from hm]; exact (O2 (f := (⟨n, A, c, d⟩ : RFl)) hI1 hI2 (fun y hy => by rw [List.getElem?_eq_none hi] at hy; cases hy)).symm
  refine Av ?_
  refine BL 14 0 [⟨.quiet, [], fun _ => .int .i64 ((i : Nat) : Int), []⟩, ⟨.quiet, [], fun _ => v1, []⟩, ⟨.quiet, [], fun _ => .int .i64 (m.length : Int), [1]⟩, ⟨.quiet, [], fun _ => .bool false, [0, 2]⟩, ⟨.quiet, [], fun _ => .bool false, [3]⟩, ⟨.skip, [], fun _ => undef, [4]⟩, ⟨.skip, [], fun _ => undef, [4]⟩, ⟨.skip, [], fun _ => undef, [5, 6, 4]⟩, ⟨.skip, [], fun _ => undef, [7, 4]⟩, ⟨.skip, [], fun _ => undef, [8, 4]⟩, ⟨.skip, [], fun _ => undef, [4]⟩, ⟨.skip, [], fun _ => undef, [10, 4]⟩, ⟨.skip, [], fun _ => undef, [9, 11, 4]⟩, ⟨.quiet, [], fun _ => .bool false, [4, 12]⟩] [(3, .pointer (some ⟨g3, 0, none⟩)), (4, .slice none 0 0), (0, v1), (5, .int .i64 ((i : Nat) : Int))] (fun _ => [Ar 54 2 encRF v1 m, cell g3 54 #[.string (bs n), .slice A d.length c], X, Ar 5 1 encB (.slice A d.length c) d]) (by kernel_rfl) (by kernel_rfl) ⟨rfl, rfl, rfl, rfl, trivial⟩ rfl ?_ ?_
  refine Ac (by exact ⟨rfl, fun b w hH hb => Af Ah rfl hb⟩) (Ac (by exact ⟨rfl, fun b w hH hb => Af Ah rfl hb⟩) (Ac (by exact ⟨rfl, fun b w hH hb => Bf ((hH.rdFs 0 rfl C1)) Tryz.underlying55 rfl rfl hb⟩) (Ac (by exact ⟨rfl, fun b w hH hb => AZ rfl rfl rfl (BS (by omega)) hb⟩) (Ac (by exact ⟨rfl, fun b w hH hb => Af Ah rfl hb⟩) (Ac (by exact ⟨rfl, rfl⟩) (Ac (by exact ⟨rfl, rfl⟩) (Ac (by exact ⟨rfl, rfl⟩) (Ac (by exact ⟨rfl, rfl⟩) (Ac (by exact ⟨rfl, rfl⟩) ?_)))))))))
  refine Ac (by exact ⟨rfl, rfl⟩) (Ac (by exact ⟨rfl, rfl⟩) (Ac (by exact ⟨rfl, rfl⟩) (Ac (by exact ⟨rfl, fun b w hH hb => Af Ah rfl hb⟩) ?_)))
  exact B7
  refine Cf.keep (env' := [(3, .pointer (some ⟨g3, 0, none⟩)), (4, .slice none 0 0), (0, v1), (5, .int .i64 ((i : Nat) : Int)), (11, .int .i64 ((i : Nat) : Int)), (12, v1), (13, .int .i64 (m.length : Int)), (14, .bool false), (15, .bool false), (16, undef), (17, undef), (18, undef), (19, undef), (20, undef), (21, undef), (22, undef), (23, undef), (24, .bool false)]) ⟨rfl, rfl, rfl, rfl, rfl, rfl, rfl, rfl, rfl, rfl, rfl, rfl, rfl, rfl, rfl, rfl, rfl, rfl, trivial⟩ (AV (AL (As rfl (CP (FP (FP (Br (AL (Ad (Ae Ah rfl (Ab (B6 54 2 encRF (Av (DW 1 rfl ?_))))))))))))))
  refine BL 12 4 [⟨.quiet, [none, none, none, none], fun _ => .slice none 0 0, []⟩, ⟨.quiet, [none, none, none, none], fun _ => v1, []⟩, ⟨.quiet, [none, none, none, none], fun _ => .int .i64 ((i : Nat) : Int), []⟩, ⟨.quiet, [none, none, none, none], fun _ => CB 2 v1 0 i, [1, 2]⟩, ⟨.act 0, [some false, none, some false, some false], fun _ => undef, [0, 3]⟩, ⟨.quiet, [none, none, none, none], fun _ => .agg #[.string (bs n), .slice A d.length c], []⟩, ⟨.act 1, [none, some false, some false, some false], fun _ => undef, [5]⟩, ⟨.act 2, [some true, some true, some false, some false], fun _ => undef, [4, 6]⟩, ⟨.quiet, [none, none, none, none], fun _ => v1, []⟩, ⟨.quiet, [none, none, none, none], fun _ => .int .i64 ((i : Nat) : Int), []⟩, ⟨.quiet, [none, none, none, none], fun _ => CB 2 v1 i m.length, [8, 9]⟩, ⟨.act 3, [some true, some true, some true, some false], fun _ => undef, [7, 10]⟩] [(3, .pointer (some ⟨g3, 0, none⟩)), (4, .slice none 0 0), (0, v1), (5, .int .i64 ((i : Nat) : Int)), (6, .slice none 0 0)] (fun ρ => match ρ with | [r0, r1, r2, r3] => [Co r1 (fun fb => Ar 54 2 encRF fb ([(⟨n, A, c, d⟩ : RFl)])) (DN), Co r3 (fun w3 => Ar 54 2 encRF w3 (D4 l (⟨n, A, c, d⟩ : RFl))) (Co r2 (fun w2 => Ar 54 2 encRF w2 (m.take i ++ [(⟨n, A, c, d⟩ : RFl)])) (Co r0 (fun w1 => Ar 54 2 encRF w1 (m.take i)) (Ar 54 2 encRF (.slice none 0 0) ([])))), Ar 54 2 encRF v1 m, cell g3 54 #[.string (bs n), .slice A d.length c], X, Ar 5 1 encB (.slice A d.length c) d] | _ => []) (by kernel_rfl) (by kernel_rfl) ⟨rfl, rfl, rfl, rfl, rfl, trivial⟩ rfl ?_ ?_
  refine Ac (by intro r0_ r1_ r2_ r3_; exact ⟨rfl, fun b w hH hb => Af Ah rfl hb⟩) (Ac (by intro r0_ r1_ r2_ r3_; exact ⟨rfl, fun b w hH hb => Af Ah rfl hb⟩) (Ac (by intro r0_ r1_ r2_ r3_; exact ⟨rfl, fun b w hH hb => Af Ah rfl hb⟩) (Ac (by intro r0_ r1_ r2_ r3_; exact ⟨rfl, fun b w hH hb => HU 2 (b := i) AD rfl hI1 rfl rfl rfl hH hb⟩) (Ac (by intro r1_; exact ⟨rfl, Bk.s (C8 1 AD B3 rfl (m.take i) (fun w hH => hH.vecq 2 rfl B3 (Nat.zero_le _) hI1 (m := m.take i) (by simp)) (by simp only [List.length_nil, List.length_take]; omega) rfl rfl rfl (List.nil_append _)) (fun _ => rfl)⟩) (Ac (by intro r0_ r1_ r2_ r3_; exact ⟨rfl, fun b w hH hb => Ba rfl rfl (DM (cs := [.string (bs n), .slice A d.length c]) D7 rfl) (hH.row 3 rfl) hb⟩) ?_)))))
  refine Ac (by intro r0_; exact ⟨rfl, Bk.s (Bk.place (val := fun fb : Value => fb) (t := fun fb => Ar 54 2 encRF fb ([(⟨n, A, c, d⟩ : RFl)])) (os' := fun fb => [Ar 54 2 encRF fb ([(⟨n, A, c, d⟩ : RFl)]), Co r0_ (fun w1 => Ar 54 2 encRF w1 (m.take i)) (Ar 54 2 encRF (.slice none 0 0) ([])), Ar 54 2 encRF v1 m, cell g3 54 #[.string (bs n), .slice A d.length c], X, Ar 5 1 encB (.slice A d.length c) d]) 0 rfl (by refine Hr (e := 54) (t := 55) (k := 2) (enc := encRF) (x := .tmp 32) (c := .agg #[.string (bs n), .slice A d.length c]) ?_ ?_ ?_ (⟨n, A, c, d⟩ : RFl) ?_ ?_ ?_; exact AD; exact (by decide); exact B3; exact rfl; exact rfl; exact rfl) (fun _ => rfl)) (fun _ => rfl)⟩) ?_
  refine Ac (by intro w1 fb; exact ⟨rfl, Bk.s (C8 1 AD B3 rfl ([(⟨n, A, c, d⟩ : RFl)]) (fun w hH => hH.vec 0 rfl B3) (by simp only [List.length_cons, List.length_nil, List.length_take]; omega) rfl rfl rfl rfl) (fun _ => rfl)⟩) (Ac (by intro r0_ r1_ r2_ r3_; exact ⟨rfl, fun b w hH hb => Af Ah rfl hb⟩) (Ac (by intro r0_ r1_ r2_ r3_; exact ⟨rfl, fun b w hH hb => Af Ah rfl hb⟩) (Ac (by intro r0_ r1_ r2_ r3_; exact ⟨rfl, fun b w hH hb => JF 2 (a := i) AD rfl hI1 rfl rfl rfl hH hb⟩) (Ac (by intro w1 fb w2; exact ⟨rfl, Bk.s (C8 1 AD B3 rfl (m.drop i) (fun w hH => hH.vecq 2 rfl B3 hI1 (Nat.le_refl _) (m := m.drop i) (by simp)) (by simp only [List.length_append, List.length_cons, List.length_nil, List.length_take, List.length_drop]; omega) rfl rfl rfl hfin) (fun _ => rfl)⟩) ?_))))
  exact B7
  intro w1 fb w2 w3
  refine Cf.keep (env' := [(4, .slice none 0 0), (38, w3)]) ⟨rfl, rfl, trivial⟩ (Ae Ah rfl (AV (AL (Ax ?_))))
  exact Aw (.tmp rfl) (fun w h => AH w3 rfl [4, 5, 1] rfl h MB) rfl
end Go.Proofs.YtjcfimmcogkopaaGreat.Sep
