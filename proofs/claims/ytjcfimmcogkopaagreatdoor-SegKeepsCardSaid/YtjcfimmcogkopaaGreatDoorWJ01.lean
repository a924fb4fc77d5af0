/-
  SgA · SgB · SgM · TyS
-/
import Derived.Test.YtjcfimmcogkopaaGreatDoorWX01
import Derived.Test.YtjcfimmcogkopaaGreatDoorWB01
import Derived.Test.YtjcfimmcogkopaaGreatDoorWB02
import Derived.Test.YtjcfimmcogkopaaGreatDoorWH01
import Derived.Test.YtjcfimmcogkopaaGreatDoorWI01
set_option linter.unusedSimpArgs false
set_option linter.unusedVariables false
set_option maxHeartbeats 4000000
set_option maxRecDepth 100000
namespace Go.Proofs.YtjcfimmcogkopaaGreatDoor.Sep
variable {A A0 : Option Addr} {N c0 j : Nat} {X : Ass} {ps : List (List UInt8)} {x y : List UInt8}
open Go.RowKit
open Go.Proofs.YtjcfimmcogkopaaGreatDoor.Mem (AG BC Chg Ak)
theorem QL {w : World} {c : Nat} (hn : CH y = none) (hv : D1 w (.slice A y.length c) y) (hl : y.length ≤ 137438953472) : Calls Tryz.prog 172 #[.slice A y.length c] w fun e w' => e = .returned (.tuple #[QC A c y, .bool false]) ∧ Below w.heap.size w w' := by
 have h := RF w hv hl
 rwa [hn] at h
theorem JE {c : Nat} (hn : CH y = some x) : QC A c y = .slice (if c = 8 then A else A.map (·.add 8)) x.length (c - 8) ∧ x = (y.drop 8).take x.length ∧ 8 + x.length ≤ y.length := by
  have hx := Hy hn
  unfold CH at hn
  split at hn
  · rename_i h
    cases hn
    refine ⟨?_, ?_, hx.1⟩
    · unfold QC
      rw [if_pos ⟨h.1, h.2.1, h.2.2.1⟩, List.length_take, List.length_drop, Nat.min_eq_left (by omega)]
    · rw [List.length_take, List.length_drop, Nat.min_eq_left (by omega)]
  · cases hn
theorem I1 {w : World} {A8 : Option Addr} {c : Nat} (hn : CH y = some x) (hA : (if c = 8 then A else A.map (·.add 8)) = A8) (hv : D1 w (.slice A y.length c) y) (hl : y.length ≤ 137438953472) : Calls Tryz.prog 172 #[.slice A y.length c] w fun e w' => e = .returned (.tuple #[.slice A8 x.length (c - 8), .bool true]) ∧ Below w.heap.size w w' := by
  have h := RF w hv hl
  rwa [(JE hn).1, hn, hA] at h
theorem El.first {c : Nat} (hX : El X (.slice A y.length c) y) (hn : CH y = some x) : El X (.slice (if c = 8 then A else A.map (·.add 8)) x.length (c - 8)) x := fun rs w h1 h2 => by
  obtain ⟨_, h3, h4⟩ := JE (A := A) (c := c) hn
  have h5 := Pb (Mc (hX rs w h1 h2) (i := 8) (by omega)) (k := x.length) (by rw [List.length_drop]; omega)
  rwa [← h3] at h5
theorem Nd {q : List (List UInt8)} (h : x :: q = ps.drop j) : ps[j]? = some x ∧ q = ps.drop (j + 1) ∧ j < ps.length := by
  have h1 : ps[j]? = some x := by
    have := congrArg (·[0]?) h
    simpa using this.symm
  have hlt := (List.getElem?_eq_some_iff.1 h1).1
  refine ⟨h1, ?_, hlt⟩
  rw [List.drop_eq_getElem_cons hlt] at h
  exact (List.cons.inj h).2
theorem Nf (h : [] = ps.drop j) (hj : j ≤ ps.length) : j = ps.length := by
 have := congrArg List.length h
 rw [List.length_nil, List.length_drop] at this
 omega
theorem UO {c k : Nat} {l : List UInt8} : BN 1 (.slice A l.length c) k l.length = .slice (if c = k then A else A.map (·.add k)) (l.drop k).length (c - k) := by
  rw [List.length_drop]; exact Jx
theorem SW (k : Fn) (caps : Array Value) (g : Nat) (X : Ass) (T : Nat → Ass) (hX : El X (.slice A0 y.length c0) y) (hl : y.length ≤ 137438953472) (hr : (Cs y).1 = ps) (hN : ps.length = N) (hy : (∀ j A c x, ps[j]? = some x → El X (.slice A x.length c) x → CB Tryz.prog (.func k #[] caps) [.slice A x.length c] [T j, X] (fun _ : Unit => .bool true) (fun _ => [T (j + 1), X]))) : AA Tryz.prog 171 #[.func k #[] caps, .pointer (some ⟨g, 0, none⟩)] [T 0, X, cell g 49 #[.slice A0 y.length c0]] (fun (_ : Unit) => .tuple #[]) (fun (_ : Unit) => [T N, X, cell g 49 #[.slice A0 y.length c0]]) := by
  refine AP (args := [.func k #[] caps, .pointer (some ⟨g, 0, none⟩)]) 25 Tryz.func171 rfl rfl rfl ?_; intro w rs
  refine AV ?_
  refine BT (α := Nat × List UInt8 × Option Addr × Nat) (fun ⟨j, l, A, c⟩ => [(0, .func k #[] caps), (3, .slice A l.length c)]) (fun ⟨j, l, A, c⟩ => [T j, X, cell g 49 #[.slice A0 y.length c0]]) (fun ⟨j, l, A, c⟩ => j ≤ ps.length ∧ El X (.slice A l.length c) l ∧ (Cs l).1 = ps.drop j ∧ l.length ≤ 137438953472) (fun ⟨j, l, A, c⟩ => ps.length - j) (0, y, A0, c0) ⟨Nat.zero_le _, hX, by rw [hr]; rfl, hl⟩ ⟨rfl, rfl, trivial⟩ rfl ?_
  rintro ⟨j, l, A, c⟩ hI
  refine AH.at_ (env' := [(0, .func k #[] caps), (3, .slice A l.length c)]) (rs' := [T j, X, cell g 49 #[.slice A0 y.length c0]]) ⟨rfl, rfl, trivial⟩ rfl ?_
  have hI1 := hI.1
  have hXl : El X (.slice A l.length c) l := hI.2.1
  have hI3 : (Cs l).1 = ps.drop j := hI.2.2.1
  have hI4 : l.length ≤ 137438953472 := hI.2.2.2
  clear hI
  refine E4 ?_
  rcases hn : CH l with _ | x
  rw [IU hn] at hI3
  obtain rfl : j = N := (Nf hI3 hI1).trans hN
  refine Al (Am Ac rfl (FD (fun w hH => QL hn (hH.rd8 1 rfl hXl) hI4) ?_))
  refine GK ?_
  exact JQ  (fun w h => As () rfl [0, 1, 2] rfl h DK) rfl
  obtain ⟨A8, hA8⟩ : ∃ A8, (if c = 8 then A else A.map (·.add 8)) = A8 := ⟨_, rfl⟩
  have hXx : El X (.slice A8 x.length (c - 8)) x := by have h3 := hXl.first hn; rwa [hA8] at h3
  have hx3 := (JE (A := A) (c := c) hn).2.2
  rw [IV hn] at hI3
  obtain ⟨hpj, hq, hjl⟩ := Nd hI3
  have hyj := hy j A8 (c - 8) x hpj hXx
  obtain ⟨l1, hl1⟩ : ∃ l1, l.drop (8 + x.length) = l1 := ⟨_, rfl⟩
  obtain ⟨A1, hA1⟩ : ∃ A1, (if c = 8 + x.length then A else A.map (·.add (8 + x.length))) = A1 := ⟨_, rfl⟩
  obtain ⟨c1, hc1⟩ : ∃ c1, c - (8 + x.length) = c1 := ⟨_, rfl⟩
  have hs1 : BN 1 (.slice A l.length c) (8 + x.length) l.length = .slice A1 l1.length c1 := by rw [UO, hl1, hA1, hc1]
  have hX1 : El X (.slice A1 l1.length c1) l1 := by have h3 := hXl.drop (k := 8 + x.length) (by omega); rwa [hl1, hA1, hc1] at h3
  have hl2 : l1.length ≤ 137438953472 := by rw [← hl1, List.length_drop]; omega
  rw [hl1] at hq
  refine Al (Am Ac rfl (FD (fun w hH => I1 hn hA8 (hH.rd8 1 rfl hXl) hI4) ?_))
  refine Aq ?_
  refine Bu (Kp (KM GS 5 (by rintro ⟨a, w, h⟩; first | exact h.elim | exact nomatch h.1 | (obtain ⟨_, h, _⟩ := h; exact nomatch h)) (by kernel_rfl) (Am Ac rfl (Pd (FF (X := Unit) (post := fun _ => [T (j + 1), X]) (os' := fun _ => [T (j + 1), X, cell g 49 #[.slice A0 y.length c0]]) GS [0, 1] (hyj) rfl rfl rfl rfl rfl rfl (fun _ => rfl) ?_))))); rintro ⟨⟩
  refine EE GS (by rintro ⟨a, w, h⟩; first | exact h.elim | exact nomatch h.1 | (obtain ⟨_, h, _⟩ := h; exact nomatch h)) (by kernel_rfl) (BD ?_)
  refine Am Ac rfl (Aa rfl (.int .i64 (x.length : Int)) (fun b w hb hH => AJ ((hH.rd8 1 rfl hXx).rd) Tryz.underlying49 rfl rfl hb) (Aa rfl (.int .i64 ((8 + x.length : Nat) : Int)) (fun b w hb hH => Ay rfl rfl rfl rfl (by rw [IntWalk.i64_in _ (by omega)]; omega) hb) (Aa rfl (.slice A1 l1.length c1) (fun b w hb hH => Fp (i := (8 + x.length)) AL hs1 hx3 rfl rfl rfl hH hb) (Aq ?_))))
  exact Br (j + 1, l1, A1, c1) 0 ⟨hjl, hX1, hq, hl2⟩ (show ps.length - (j + 1) < ps.length - j by omega) ⟨rfl, rfl, trivial⟩ rfl
theorem QM (k : Fn) (caps : Array Value) (g : Nat) (X : Ass) (T : Nat → Ass) (Z : Ass) (hX : El X (.slice A0 y.length c0) y) (hl : y.length ≤ 137438953472) (hr : (Cs y).1 = ps) (hN : N < ps.length) (hy : (∀ j A c x, ps[j]? = some x → j < N → El X (.slice A x.length c) x → CB Tryz.prog (.func k #[] caps) [.slice A x.length c] [T j, X] (fun _ : Unit => .bool true) (fun _ => [T (j + 1), X]))) (hz : (∀ j A c x, ps[j]? = some x → j = N → El X (.slice A x.length c) x → CB Tryz.prog (.func k #[] caps) [.slice A x.length c] [T j, X] (fun _ : Unit => .bool false) (fun _ => [Z, X]))) : AA Tryz.prog 171 #[.func k #[] caps, .pointer (some ⟨g, 0, none⟩)] [T 0, X, cell g 49 #[.slice A0 y.length c0]] (fun (_ : Unit) => .tuple #[]) (fun (_ : Unit) => [Z, X, cell g 49 #[.slice A0 y.length c0]]) := by
  refine AP (args := [.func k #[] caps, .pointer (some ⟨g, 0, none⟩)]) 25 Tryz.func171 rfl rfl rfl ?_; intro w rs
  refine AV ?_
  refine BT (α := Nat × List UInt8 × Option Addr × Nat) (fun ⟨j, l, A, c⟩ => [(0, .func k #[] caps), (3, .slice A l.length c)]) (fun ⟨j, l, A, c⟩ => [T j, X, cell g 49 #[.slice A0 y.length c0]]) (fun ⟨j, l, A, c⟩ => j ≤ N ∧ El X (.slice A l.length c) l ∧ (Cs l).1 = ps.drop j ∧ l.length ≤ 137438953472) (fun ⟨j, l, A, c⟩ => ps.length - j) (0, y, A0, c0) ⟨Nat.zero_le _, hX, by rw [hr]; rfl, hl⟩ ⟨rfl, rfl, trivial⟩ rfl ?_
  rintro ⟨j, l, A, c⟩ hI
  refine AH.at_ (env' := [(0, .func k #[] caps), (3, .slice A l.length c)]) (rs' := [T j, X, cell g 49 #[.slice A0 y.length c0]]) ⟨rfl, rfl, trivial⟩ rfl ?_
  have hI1 := hI.1
  have hXl : El X (.slice A l.length c) l := hI.2.1
  have hI3 : (Cs l).1 = ps.drop j := hI.2.2.1
  have hI4 : l.length ≤ 137438953472 := hI.2.2.2
  clear hI
  refine E4 ?_
  rcases hn : CH l with _ | x
  · exact absurd (Nf (by rw [IU hn] at hI3; exact hI3) (by omega)) (by omega)
  obtain ⟨A8, hA8⟩ : ∃ A8, (if c = 8 then A else A.map (·.add 8)) = A8 := ⟨_, rfl⟩
  have hXx : El X (.slice A8 x.length (c - 8)) x := by have h3 := hXl.first hn; rwa [hA8] at h3
  have hx3 := (JE (A := A) (c := c) hn).2.2
  rw [IV hn] at hI3
  obtain ⟨hpj, hq, hjl⟩ := Nd hI3
  rcases Nat.lt_or_ge j N with hjN | hjN
  have hyj := hy j A8 (c - 8) x hpj hjN hXx
  obtain ⟨l1, hl1⟩ : ∃ l1, l.drop (8 + x.length) = l1 := ⟨_, rfl⟩
  obtain ⟨A1, hA1⟩ : ∃ A1, (if c = 8 + x.length then A else A.map (·.add (8 + x.length))) = A1 := ⟨_, rfl⟩
  obtain ⟨c1, hc1⟩ : ∃ c1, c - (8 + x.length) = c1 := ⟨_, rfl⟩
  have hs1 : BN 1 (.slice A l.length c) (8 + x.length) l.length = .slice A1 l1.length c1 := by rw [UO, hl1, hA1, hc1]
  have hX1 : El X (.slice A1 l1.length c1) l1 := by have h3 := hXl.drop (k := 8 + x.length) (by omega); rwa [hl1, hA1, hc1] at h3
  have hl2 : l1.length ≤ 137438953472 := by rw [← hl1, List.length_drop]; omega
  rw [hl1] at hq
  refine Al (Am Ac rfl (FD (fun w hH => I1 hn hA8 (hH.rd8 1 rfl hXl) hI4) ?_))
  refine Aq ?_
  refine Bu (Kp (KM GS 5 (by rintro ⟨a, w, h⟩; first | exact h.elim | exact nomatch h.1 | (obtain ⟨_, h, _⟩ := h; exact nomatch h)) (by kernel_rfl) (Am Ac rfl (Pd (FF (X := Unit) (post := fun _ => [T (j + 1), X]) (os' := fun _ => [T (j + 1), X, cell g 49 #[.slice A0 y.length c0]]) GS [0, 1] (hyj) rfl rfl rfl rfl rfl rfl (fun _ => rfl) ?_))))); rintro ⟨⟩
  refine EE GS (by rintro ⟨a, w, h⟩; first | exact h.elim | exact nomatch h.1 | (obtain ⟨_, h, _⟩ := h; exact nomatch h)) (by kernel_rfl) (BD ?_)
  refine Am Ac rfl (Aa rfl (.int .i64 (x.length : Int)) (fun b w hb hH => AJ ((hH.rd8 1 rfl hXx).rd) Tryz.underlying49 rfl rfl hb) (Aa rfl (.int .i64 ((8 + x.length : Nat) : Int)) (fun b w hb hH => Ay rfl rfl rfl rfl (by rw [IntWalk.i64_in _ (by omega)]; omega) hb) (Aa rfl (.slice A1 l1.length c1) (fun b w hb hH => Fp (i := (8 + x.length)) AL hs1 hx3 rfl rfl rfl hH hb) (Aq ?_))))
  exact Br (j + 1, l1, A1, c1) 0 ⟨hjN, hX1, hq, hl2⟩ (show ps.length - (j + 1) < ps.length - j by omega) ⟨rfl, rfl, trivial⟩ rfl
  obtain rfl : j = N := by omega
  have hyj := hz j A8 (c - 8) x hpj rfl hXx
  refine Al (Am Ac rfl (FD (fun w hH => I1 hn hA8 (hH.rd8 1 rfl hXl) hI4) ?_))
  refine Aq ?_
  refine Bu (Kp (KM GS 5 (by rintro ⟨a, w, h⟩; first | exact h.elim | exact nomatch h.1 | (obtain ⟨_, h, _⟩ := h; exact nomatch h)) (by kernel_rfl) (Am Ac rfl (Pd (FF (X := Unit) (post := fun _ => [Z, X]) (os' := fun _ => [Z, X, cell g 49 #[.slice A0 y.length c0]]) GS [0, 1] (hyj) rfl rfl rfl rfl rfl rfl (fun _ => rfl) ?_))))); rintro ⟨⟩
  refine EE GS (by rintro ⟨a, w, h⟩; first | exact h.elim | exact nomatch h.1 | (obtain ⟨_, h, _⟩ := h; exact nomatch h)) (by kernel_rfl) (Dc ?_)
  exact JQ  (fun w h => As () rfl [0, 1, 2] rfl h DK) rfl
theorem ID {n : Nat} : AA Tryz.prog 146 #[.slice A0 n c0] [] (fun (g : Nat) => .func (.func 171) #[] #[.pointer (some ⟨g, 0, none⟩)]) (fun (g : Nat) => [cell g 49 #[.slice A0 n c0]]) := by
 refine AP (args := [.slice A0 n c0]) 4 Tryz.func146 rfl rfl rfl ?_; intro w rs
 refine Al (Am Ac rfl (I5 ?_)); rintro g
 refine BD ?_
 exact An (.tmp rfl) (fun w h => As g rfl [0] rfl h DK) rfl
theorem Pf {v : Value} (hX : El X v y) (hl : y.length ≤ 137438953472) : AA Tryz.prog 119 #[v] [X] (fun (x : Nat × Value) => .func (.func 145) #[] #[.pointer (some ⟨x.1, 0, none⟩)]) (fun (x : Nat × Value) => [X, cell x.1 49 #[x.2], Af 5 1 encB x.2 y]) := by
 refine AP (args := [v]) 7 Tryz.func119 rfl rfl rfl ?_; intro w rs
 refine AK ?_
 refine Am Ac rfl (GI [0] (Ft hX (by omega)) ?_); rintro v9
 refine K5 ?_; rintro g
 refine Bt (post := fun _ => [cell g 49 #[v9], Af 5 1 encB v9 y, X]) rfl rfl (D8 0 1 (v := v9) #[v9] GQ.2 rfl (fun _ h => Af.c1 h) rfl rfl rfl rfl rfl rfl rfl) ?_; rintro ⟨⟩
 refine BD ?_
 exact An (.tmp rfl) (fun w h => As (g, v9) rfl [2, 0, 1] rfl h DK) rfl
end Go.Proofs.YtjcfimmcogkopaaGreatDoor.Sep
namespace Go.Proofs.YtjcfimmcogkopaaGreatDoor.Sep
variable {A0 : Option Addr} {N c0 gy : Nat} {f : Value} {ps : List (List UInt8)} {y : List UInt8}
open Go.RowKit
open Go.Proofs.YtjcfimmcogkopaaGreatDoor.Mem (AG BC Chg Ak)
def HE (gy : Nat) (f : Value) (X : Ass) : Ass := fun rs => Ae [cell gy 195 #[f], X] rs
theorem HE.open_ {X : Ass} : ∀ rs, HE gy f X rs → ∃ _ : Unit, Ae [cell gy 195 #[f], X] rs := fun _ h => ⟨(), h⟩
theorem JF (X : Ass) : ∀ rs, Ae [cell gy 195 #[f], X] rs → HE gy f X rs := fun _ h => h
theorem YO (k : Fn) (caps : Array Value) (g : Nat) (T : Nat → Ass) (hl : y.length ≤ 137438953472) (hr : (Cs y).1 = ps) (hlen : ∀ x, x ∈ ps → x.length ≤ 65536) (hN : ps.length = N) (hyy : ∀ j x d, ps[j]? = some x → CB Tryz.prog (.func k #[] caps) [d] [T j, Af 5 1 encB d x] (fun _ : Unit => .bool true) (fun _ : Unit => [T (j + 1)])) : AA Tryz.prog 145 #[.func k #[] caps, .pointer (some ⟨g, 0, none⟩)] [T 0, Af 5 1 encB (.slice A0 y.length c0) y, cell g 49 #[.slice A0 y.length c0]] (fun (_ : Unit) => .tuple #[]) (fun (_ : Unit) => [T N, Af 5 1 encB (.slice A0 y.length c0) y, cell g 49 #[.slice A0 y.length c0]]) := by
  refine Kr (args := [.func k #[] caps, .pointer (some ⟨g, 0, none⟩)]) 14 Tryz.func145 rfl rfl rfl ?_; intro w rs
  refine Al (Am Ac rfl (I5 ?_)); rintro gy
  refine AV ?_
  refine Aa rfl (.bool false) (fun b w hb hH => IC Tryz.underlying195 rfl rfl rfl hb) (AV ?_)
  refine cC [0, 1] (JF (T 0)) ?_
  refine Aq ?_
  refine GI [] (ID) ?_; rintro g2
  refine Aq ?_
  refine kC [0, 1, 2, 4, 5, 6, 7] ?_
  refine AH.mid [cell g2 49 #[.slice A0 y.length c0], HE gy (.func k #[] caps) (T 0), Af 5 1 encB (.slice A0 y.length c0) y, cell g 49 #[.slice A0 y.length c0]] (.refl _) ?_
  refine Fe (caps := [.pointer (some ⟨g2, 0, none⟩)]) (post := [HE gy (.func k #[] caps) (T N), Af 5 1 encB (.slice A0 y.length c0) y, cell g2 49 #[.slice A0 y.length c0]]) (os' := [HE gy (.func k #[] caps) (T N), Af 5 1 encB (.slice A0 y.length c0) y, cell g2 49 #[.slice A0 y.length c0], cell g 49 #[.slice A0 y.length c0]]) (.normal) [1, 2, 0] rfl (Ah Tryz.func171 (by kernel_rfl) rfl) (fun L1 fn1 tm1 hf1 r1 k11 k12 k13 k14 k15 k16 => Na (SW (.yield L1) #[] g2 (Af 5 1 encB (.slice A0 y.length c0) y) (fun j => DD L1 r1 (HE gy (.func k #[] caps) (T j))) Dx hl hr hN ?_)) rfl rfl rfl ?_
  intro j A c x hpj hXx
  have hxl : x.length ≤ 65536 := hlen x (List.mem_of_getElem? hpj)
  refine KN (Cj (n := 14) (env := [(8, .slice A x.length c), (0, .func k #[] caps), (1, .pointer (some ⟨g, 0, none⟩)), (2, .pointer (some ⟨gy, 0, none⟩)), (4, .func k #[] caps), (5, .bool false), (6, .slice A0 y.length c0), (7, .func (.func 171) #[] #[.pointer (some ⟨g2, 0, none⟩)])]) (.normal) k12 k11 (by rw [k14]; rfl) ?_ ?_)
  · rw [k14, k13]
    refine (congrArg (fun t => Fr 14 { tmps := t, defers := [] } _) (?_ : _ = (tm1.setIfInBounds 8 (.slice A x.length c)))).mpr (hf1.put (d := 8) (by decide) _)
    simp
  · intro w0 rs
    rw [k15]
    refine CS (by kernel_rfl) (by rintro ⟨a, w, h⟩; first | exact h.elim | exact nomatch h.1 | (obtain ⟨_, h, _⟩ := h; exact nomatch h)) (Ai ?_)
    refine EN 0 rfl k11 ?_
    rw [k16]
    refine DQ 1 rfl HE.open_ (fun _ => rfl) ?_; rintro ⟨⟩
    refine DN (Dg (NV 1 rfl ?_))
    refine QI 3 1 [⟨.quiet, [none], fun _ => .func k #[] caps, []⟩, ⟨.quiet, [none], fun _ => .slice A x.length c, []⟩, ⟨.act 0, [some false], fun _ => undef, [1]⟩] [(2, .pointer (some ⟨gy, 0, none⟩)), (3, .slice A x.length c)] (fun ρ => match ρ with | [r0] => [Dm r0 (fun d1 => Af 5 1 encB d1 x) (emp), cell gy 195 #[.func k #[] caps], T j, Bq L1 (BV r1), Af 5 1 encB (.slice A0 y.length c0) y] | _ => []) (by kernel_rfl) (by kernel_rfl) (by kernel_rfl) ⟨rfl, rfl, trivial⟩ rfl ?_ ?_
    refine Aq ?_
    refine Ad (by exact ⟨rfl, AR.s (AM (os' := fun d1 => [Af 5 1 encB d1 x, cell gy 195 #[.func k #[] caps], T j, Bq L1 (BV r1), Af 5 1 encB (.slice A0 y.length c0) y]) [4, 0] 1 (Ah Tryz.func78 (by kernel_rfl) rfl) (Ft hXx (by omega)) rfl rfl rfl (fun _ => rfl) rfl rfl rfl) (fun _ => rfl)⟩) ?_
    exact Bv
    intro d1
    refine Oa.keep (env' := [(9, .func k #[] caps), (11, d1)]) ⟨rfl, rfl, trivial⟩ (FF (X := Unit) (post := fun _ => [T (j + 1)]) (os' := fun _ => [T (j + 1), cell gy 195 #[.func k #[] caps], Bq L1 (BV r1), Af 5 1 encB (.slice A0 y.length c0) y]) Iq [2, 0] (hyy j x d1 hpj) rfl rfl rfl rfl rfl rfl (fun _ => rfl) ?_); rintro ⟨⟩
    refine EE Iq (by rintro ⟨a, w, h⟩; first | exact h.elim | exact nomatch h.1 | (obtain ⟨_, h, _⟩ := h; exact nomatch h)) (by kernel_rfl) (Ai ?_)
    refine E8 (IY rfl (IZ (D4 (Cg [1, 0] rfl (JF (T (j + 1))) rfl ?_))))
    exact E0 [1, 0, 2] rfl rfl
  intro D aT wT hD hD0 hd hF hH
  obtain ⟨_, hH⟩ := E9 0 rfl HE.open_ hH
  exact Ks (e := .normal) rfl (fun w' h => As (X := Unit) (val := fun _ => .tuple #[]) (post := fun _ => [T N, Af 5 1 encB (.slice A0 y.length c0) y, cell g 49 #[.slice A0 y.length c0]]) (os := [cell gy 195 #[.func k #[] caps], T N, Af 5 1 encB (.slice A0 y.length c0) y, cell g2 49 #[.slice A0 y.length c0], cell g 49 #[.slice A0 y.length c0]]) () rfl [1, 2, 4] rfl h DK) (by simp) D aT wT hD hD0 hd hF hH
theorem Yr (k : Fn) (caps : Array Value) (g : Nat) (T : Nat → Ass) (Z : Ass) (hl : y.length ≤ 137438953472) (hr : (Cs y).1 = ps) (hlen : ∀ x, x ∈ ps → x.length ≤ 65536) (hN : N < ps.length) (hyy : ∀ j x d, ps[j]? = some x → j < N → CB Tryz.prog (.func k #[] caps) [d] [T j, Af 5 1 encB d x] (fun _ : Unit => .bool true) (fun _ : Unit => [T (j + 1)])) (hzz : ∀ j x d, ps[j]? = some x → j = N → CB Tryz.prog (.func k #[] caps) [d] [T j, Af 5 1 encB d x] (fun _ : Unit => .bool false) (fun _ : Unit => [Z])) : AA Tryz.prog 145 #[.func k #[] caps, .pointer (some ⟨g, 0, none⟩)] [T 0, Af 5 1 encB (.slice A0 y.length c0) y, cell g 49 #[.slice A0 y.length c0]] (fun (_ : Unit) => .tuple #[]) (fun (_ : Unit) => [Z, Af 5 1 encB (.slice A0 y.length c0) y, cell g 49 #[.slice A0 y.length c0]]) := by
  refine Kr (args := [.func k #[] caps, .pointer (some ⟨g, 0, none⟩)]) 14 Tryz.func145 rfl rfl rfl ?_; intro w rs
  refine Al (Am Ac rfl (I5 ?_)); rintro gy
  refine AV ?_
  refine Aa rfl (.bool false) (fun b w hb hH => IC Tryz.underlying195 rfl rfl rfl hb) (AV ?_)
  refine cC [0, 1] (JF (T 0)) ?_
  refine Aq ?_
  refine GI [] (ID) ?_; rintro g2
  refine Aq ?_
  refine kC [0, 1, 2, 4, 5, 6, 7] ?_
  refine AH.mid [cell g2 49 #[.slice A0 y.length c0], HE gy (.func k #[] caps) (T 0), Af 5 1 encB (.slice A0 y.length c0) y, cell g 49 #[.slice A0 y.length c0]] (.refl _) ?_
  refine Fe (caps := [.pointer (some ⟨g2, 0, none⟩)]) (post := [HE gy (.func k #[] caps) Z, Af 5 1 encB (.slice A0 y.length c0) y, cell g2 49 #[.slice A0 y.length c0]]) (os' := [HE gy (.func k #[] caps) Z, Af 5 1 encB (.slice A0 y.length c0) y, cell g2 49 #[.slice A0 y.length c0], cell g 49 #[.slice A0 y.length c0]]) (.ret) [1, 2, 0] rfl (Ah Tryz.func171 (by kernel_rfl) rfl) (fun L1 fn1 tm1 hf1 r1 k11 k12 k13 k14 k15 k16 => Na (QM (.yield L1) #[] g2 (Af 5 1 encB (.slice A0 y.length c0) y) (fun j => DD L1 r1 (HE gy (.func k #[] caps) (T j))) (DD L1 (GT .ret r1) (HE gy (.func k #[] caps) Z)) Dx hl hr hN ?_ ?_)) rfl rfl rfl ?_
  intro j A c x hpj hjN hXx
  have hxl : x.length ≤ 65536 := hlen x (List.mem_of_getElem? hpj)
  refine KN (Cj (n := 14) (env := [(8, .slice A x.length c), (0, .func k #[] caps), (1, .pointer (some ⟨g, 0, none⟩)), (2, .pointer (some ⟨gy, 0, none⟩)), (4, .func k #[] caps), (5, .bool false), (6, .slice A0 y.length c0), (7, .func (.func 171) #[] #[.pointer (some ⟨g2, 0, none⟩)])]) (.normal) k12 k11 (by rw [k14]; rfl) ?_ ?_)
  · rw [k14, k13]
    refine (congrArg (fun t => Fr 14 { tmps := t, defers := [] } _) (?_ : _ = (tm1.setIfInBounds 8 (.slice A x.length c)))).mpr (hf1.put (d := 8) (by decide) _)
    simp
  · intro w0 rs
    rw [k15]
    refine CS (by kernel_rfl) (by rintro ⟨a, w, h⟩; first | exact h.elim | exact nomatch h.1 | (obtain ⟨_, h, _⟩ := h; exact nomatch h)) (Ai ?_)
    refine EN 0 rfl k11 ?_
    rw [k16]
    refine DQ 1 rfl HE.open_ (fun _ => rfl) ?_; rintro ⟨⟩
    refine DN (Dg (NV 1 rfl ?_))
    refine QI 3 1 [⟨.quiet, [none], fun _ => .func k #[] caps, []⟩, ⟨.quiet, [none], fun _ => .slice A x.length c, []⟩, ⟨.act 0, [some false], fun _ => undef, [1]⟩] [(2, .pointer (some ⟨gy, 0, none⟩)), (3, .slice A x.length c)] (fun ρ => match ρ with | [r0] => [Dm r0 (fun d1 => Af 5 1 encB d1 x) (emp), cell gy 195 #[.func k #[] caps], T j, Bq L1 (BV r1), Af 5 1 encB (.slice A0 y.length c0) y] | _ => []) (by kernel_rfl) (by kernel_rfl) (by kernel_rfl) ⟨rfl, rfl, trivial⟩ rfl ?_ ?_
    refine Aq ?_
    refine Ad (by exact ⟨rfl, AR.s (AM (os' := fun d1 => [Af 5 1 encB d1 x, cell gy 195 #[.func k #[] caps], T j, Bq L1 (BV r1), Af 5 1 encB (.slice A0 y.length c0) y]) [4, 0] 1 (Ah Tryz.func78 (by kernel_rfl) rfl) (Ft hXx (by omega)) rfl rfl rfl (fun _ => rfl) rfl rfl rfl) (fun _ => rfl)⟩) ?_
    exact Bv
    intro d1
    refine Oa.keep (env' := [(9, .func k #[] caps), (11, d1)]) ⟨rfl, rfl, trivial⟩ (FF (X := Unit) (post := fun _ => [T (j + 1)]) (os' := fun _ => [T (j + 1), cell gy 195 #[.func k #[] caps], Bq L1 (BV r1), Af 5 1 encB (.slice A0 y.length c0) y]) Iq [2, 0] (hyy j x d1 hpj hjN) rfl rfl rfl rfl rfl rfl (fun _ => rfl) ?_); rintro ⟨⟩
    refine EE Iq (by rintro ⟨a, w, h⟩; first | exact h.elim | exact nomatch h.1 | (obtain ⟨_, h, _⟩ := h; exact nomatch h)) (by kernel_rfl) (Ai ?_)
    refine E8 (IY rfl (IZ (D4 (Cg [1, 0] rfl (JF (T (j + 1))) rfl ?_))))
    exact E0 [1, 0, 2] rfl rfl
  intro j A c x hpj hjN hXx
  have hxl : x.length ≤ 65536 := hlen x (List.mem_of_getElem? hpj)
  refine KN (Cj (n := 14) (env := [(8, .slice A x.length c), (0, .func k #[] caps), (1, .pointer (some ⟨g, 0, none⟩)), (2, .pointer (some ⟨gy, 0, none⟩)), (4, .func k #[] caps), (5, .bool false), (6, .slice A0 y.length c0), (7, .func (.func 171) #[] #[.pointer (some ⟨g2, 0, none⟩)])]) (.ret) k12 k11 (by rw [k14]; rfl) ?_ ?_)
  · rw [k14, k13]
    refine (congrArg (fun t => Fr 14 { tmps := t, defers := [] } _) (?_ : _ = (tm1.setIfInBounds 8 (.slice A x.length c)))).mpr (hf1.put (d := 8) (by decide) _)
    simp
  · intro w0 rs
    rw [k15]
    refine CS (by kernel_rfl) (by rintro ⟨a, w, h⟩; first | exact h.elim | exact nomatch h.1 | (obtain ⟨_, h, _⟩ := h; exact nomatch h)) (Ai ?_)
    refine EN 0 rfl k11 ?_
    rw [k16]
    refine DQ 1 rfl HE.open_ (fun _ => rfl) ?_; rintro ⟨⟩
    refine DN (Dg (NV 1 rfl ?_))
    refine QI 3 1 [⟨.quiet, [none], fun _ => .func k #[] caps, []⟩, ⟨.quiet, [none], fun _ => .slice A x.length c, []⟩, ⟨.act 0, [some false], fun _ => undef, [1]⟩] [(2, .pointer (some ⟨gy, 0, none⟩)), (3, .slice A x.length c)] (fun ρ => match ρ with | [r0] => [Dm r0 (fun d1 => Af 5 1 encB d1 x) (emp), cell gy 195 #[.func k #[] caps], T j, Bq L1 (BV r1), Af 5 1 encB (.slice A0 y.length c0) y] | _ => []) (by kernel_rfl) (by kernel_rfl) (by kernel_rfl) ⟨rfl, rfl, trivial⟩ rfl ?_ ?_
    refine Aq ?_
    refine Ad (by exact ⟨rfl, AR.s (AM (os' := fun d1 => [Af 5 1 encB d1 x, cell gy 195 #[.func k #[] caps], T j, Bq L1 (BV r1), Af 5 1 encB (.slice A0 y.length c0) y]) [4, 0] 1 (Ah Tryz.func78 (by kernel_rfl) rfl) (Ft hXx (by omega)) rfl rfl rfl (fun _ => rfl) rfl rfl rfl) (fun _ => rfl)⟩) ?_
    exact Bv
    intro d1
    refine Oa.keep (env' := [(9, .func k #[] caps), (11, d1)]) ⟨rfl, rfl, trivial⟩ (FF (X := Unit) (post := fun _ => [Z]) (os' := fun _ => [Z, cell gy 195 #[.func k #[] caps], Bq L1 (BV r1), Af 5 1 encB (.slice A0 y.length c0) y]) Iq [2, 0] (hzz j x d1 hpj hjN) rfl rfl rfl rfl rfl rfl (fun _ => rfl) ?_); rintro ⟨⟩
    refine EE Iq (by rintro ⟨a, w, h⟩; first | exact h.elim | exact nomatch h.1 | (obtain ⟨_, h, _⟩ := h; exact nomatch h)) (by kernel_rfl) (Ai ?_)
    refine E8 (NU rfl (W7 (EP (Cg [1, 0] rfl (JF Z) rfl ?_))))
    exact E0 [1, 0, 2] rfl rfl
  intro D aT wT hD hD0 hd hF hH
  obtain ⟨_, hH⟩ := E9 0 rfl HE.open_ hH
  exact Ks (e := .ret) rfl (fun w' h => As (X := Unit) (val := fun _ => .tuple #[]) (post := fun _ => [Z, Af 5 1 encB (.slice A0 y.length c0) y, cell g 49 #[.slice A0 y.length c0]]) (os := [cell gy 195 #[.func k #[] caps], Z, Af 5 1 encB (.slice A0 y.length c0) y, cell g2 49 #[.slice A0 y.length c0], cell g 49 #[.slice A0 y.length c0]]) () rfl [1, 2, 4] rfl h DK) (by simp) D aT wT hD hD0 hd hF hH
end Go.Proofs.YtjcfimmcogkopaaGreatDoor.Sep
namespace Go.Proofs.YtjcfimmcogkopaaGreatDoor.Sep
def Cf (ps : List (List UInt8)) : Nat := (ps.map fun x => 8 + x.length).sum
theorem Kt {ps : List (List UInt8)} {j : Nat} {x : List UInt8} (h : ps[j]? = some x) : Cf (ps.take (j + 1)) = Cf (ps.take j) + (8 + x.length) := by
 unfold Cf
 have hlt := (List.getElem?_eq_some_iff.1 h).1
 rw [List.take_add_one, h]
 simp
theorem RH (ps : List (List UInt8)) (j : Nat) : Cf (ps.take j) ≤ Cf ps := by
 have h : Cf ps = Cf (ps.take j) + Cf (ps.drop j) := by
  unfold Cf
  rw [← List.sum_append, ← List.map_append, List.take_append_drop]
 omega
theorem Ng (x : List UInt8) (ps : List (List UInt8)) : Cf (x :: ps) = 8 + x.length + Cf ps := by simp [Cf]
theorem Ku : ∀ (k : Nat) (b : List UInt8), (EU k b).2 = Cf (EU k b).1
  | 0, _ => rfl
  | k + 1, b => by
    simp only [EU]
    cases h : CH b with
    | none => rfl
    | some x => rw [Ng]; simp only [← Ku k]
def FG : Nat → List (List UInt8) → List (EntD × Nat)
  | _, [] => []
  | o, p :: ps => if (Ed p).2 = 0 then ((Ed p).1, o + (8 + p.length)) :: FG (o + (8 + p.length)) ps else []
theorem If : ∀ (ps : List (List UInt8)) (o : Nat), (FG o ps).length ≤ ps.length
  | [], _ => Nat.le_refl _
  | p :: ps, o => by
    unfold FG
    split
    · simpa using If ps _
    · simp
theorem Mf : ∀ {ps : List (List UInt8)} {o j : Nat} {e : EntD} {n : Nat}, (FG o ps)[j]? = some (e, n) → ∃ p, ps[j]? = some p ∧ Ed p = (e, 0) ∧ n = o + Cf (ps.take (j + 1))
  | [], _, j, _, _, h => by simp [FG] at h
  | p :: ps, o, j, e, n, h => by
    unfold FG at h
    split at h
    · rename_i h0
      cases j with
      | zero =>
        simp only [List.getElem?_cons_zero, Option.some.injEq, Prod.mk.injEq] at h
        refine ⟨p, rfl, Prod.ext h.1 h0, ?_⟩
        simp only [List.take_succ_cons, List.take_zero, Cf, List.map_cons, List.map_nil, List.sum_cons, List.sum_nil]
        omega
      | succ j =>
        simp only [List.getElem?_cons_succ] at h
        obtain ⟨q, h1, h2, h3⟩ := Mf h
        refine ⟨q, by simpa using h1, h2, ?_⟩
        rw [List.take_succ_cons, Ng]
        omega
    · simp at h
theorem Mg : ∀ {ps : List (List UInt8)} {o : Nat} {p : List UInt8}, ps[(FG o ps).length]? = some p → (Ed p).2 ≠ 0
  | [], _, _, h => by simp at h
  | q :: ps, o, p, h => by
    unfold FG at h
    split at h
    · rename_i h0
      simp only [List.length_cons, List.getElem?_cons_succ] at h
      exact Mg h
    · rename_i h0
      simp only [List.length_nil, List.getElem?_cons_zero, Option.some.injEq] at h
      rw [← h]; exact h0
def HF (b : List UInt8) : List (EntD × Nat) := FG 0 (Cs b).1
end Go.Proofs.YtjcfimmcogkopaaGreatDoor.Sep
namespace Go.Proofs.YtjcfimmcogkopaaGreatDoor.Sep
open Go.RowKit
open Go.Proofs.YtjcfimmcogkopaaGreatDoor.Mem (AG BC Chg Ak)
def flT : List ((Nat × Nat) × Nat) := flS
theorem NW : Oj Tryz.prog flT := Ac
end Go.Proofs.YtjcfimmcogkopaaGreatDoor.Sep
