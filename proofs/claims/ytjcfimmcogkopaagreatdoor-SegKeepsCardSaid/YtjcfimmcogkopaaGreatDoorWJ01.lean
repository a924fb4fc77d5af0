/-
  SgA · SgB · SgM · TyS
-/
import Derived.Test.YtjcfimmcogkopaaGreatDoorWB01
import Derived.Test.YtjcfimmcogkopaaGreatDoorWB02
import Derived.Test.YtjcfimmcogkopaaGreatDoorWH01
import Derived.Test.YtjcfimmcogkopaaGreatDoorWI01
set_option linter.unusedSimpArgs false
set_option linter.unusedVariables false
set_option maxRecDepth 100000
namespace Go.Proofs.YtjcfimmcogkopaaGreatDoor.Sep
open Go.RowKit
open Go.Proofs.YtjcfimmcogkopaaGreatDoor.Mem (Bb Ci Chg Aw)
theorem QG {w : World} {y : List UInt8} {A : Option Addr} {c : Nat} (hn : Dt y = none) (hv : Ew w (.slice A y.length c) y) (hl : y.length ≤ 137438953472) : Calls Tryz.prog 172 #[.slice A y.length c] w fun e w' => e = .returned (.tuple #[Qx A c y, .bool false]) ∧ Below w.heap.size w w' := by
 have h := RD w hv hl
 rwa [hn] at h
theorem JN {A : Option Addr} {c : Nat} {y x : List UInt8} (hn : Dt y = some x) : Qx A c y = .slice (if c = 8 then A else A.map (·.add 8)) x.length (c - 8) ∧ x = (y.drop 8).take x.length ∧ 8 + x.length ≤ y.length := by
  have hx := H3 hn
  unfold Dt at hn
  split at hn
  · rename_i h
    cases hn
    refine ⟨?_, ?_, hx.1⟩
    · unfold Qx
      rw [if_pos ⟨h.1, h.2.1, h.2.2.1⟩, List.length_take, List.length_drop, Nat.min_eq_left (by omega)]
    · rw [List.length_take, List.length_drop, Nat.min_eq_left (by omega)]
  · cases hn
theorem Jc {w : World} {y x : List UInt8} {A A8 : Option Addr} {c : Nat} (hn : Dt y = some x) (hA : (if c = 8 then A else A.map (·.add 8)) = A8) (hv : Ew w (.slice A y.length c) y) (hl : y.length ≤ 137438953472) : Calls Tryz.prog 172 #[.slice A y.length c] w fun e w' => e = .returned (.tuple #[.slice A8 x.length (c - 8), .bool true]) ∧ Below w.heap.size w w' := by
  have h := RD w hv hl
  rwa [(JN hn).1, hn, hA] at h
theorem EN.first {X : Ass} {y x : List UInt8} {A : Option Addr} {c : Nat} (hX : EN X (.slice A y.length c) y) (hn : Dt y = some x) : EN X (.slice (if c = 8 then A else A.map (·.add 8)) x.length (c - 8)) x := fun rs w h1 h2 => by
  obtain ⟨_, h3, h4⟩ := JN (A := A) (c := c) hn
  have h5 := O7 (L9 (hX rs w h1 h2) (i := 8) (by omega)) (k := x.length) (by rw [List.length_drop]; omega)
  rwa [← h3] at h5
theorem Nb {ps q : List (List UInt8)} {x : List UInt8} {j : Nat} (h : x :: q = ps.drop j) : ps[j]? = some x ∧ q = ps.drop (j + 1) ∧ j < ps.length := by
  have h1 : ps[j]? = some x := by
    have := congrArg (·[0]?) h
    simpa using this.symm
  have hlt := (List.getElem?_eq_some_iff.1 h1).1
  refine ⟨h1, ?_, hlt⟩
  rw [List.drop_eq_getElem_cons hlt] at h
  exact (List.cons.inj h).2
theorem Nc {ps : List (List UInt8)} {j : Nat} (h : [] = ps.drop j) (hj : j ≤ ps.length) : j = ps.length := by
 have := congrArg List.length h
 rw [List.length_nil, List.length_drop] at this
 omega
theorem UB {A : Option Addr} {c k : Nat} {l : List UInt8} : Cu 1 (.slice A l.length c) k l.length = .slice (if c = k then A else A.map (·.add k)) (l.drop k).length (c - k) := by
  rw [List.length_drop]; exact JG
theorem SP (k : Fn) (caps : Array Value) (g : Nat) (X : Ass) (T : Nat → Ass) {A0 : Option Addr} {c0 : Nat} {y : List UInt8} {ps : List (List UInt8)} (hX : EN X (.slice A0 y.length c0) y) (hl : y.length ≤ 137438953472) (hr : (Db y).1 = ps) {N : Nat} (hN : ps.length = N) (hy : (∀ j A c x, ps[j]? = some x → EN X (.slice A x.length c) x → Dn Tryz.prog (.func k #[] caps) [.slice A x.length c] [T j, X] (fun _ : Unit => .bool true) (fun _ => [T (j + 1), X]))) : AV Tryz.prog 171 #[.func k #[] caps, .pointer (some ⟨g, 0, none⟩)] [T 0, X, cell g 49 #[.slice A0 y.length c0]] (fun (_ : Unit) => .tuple #[]) (fun (_ : Unit) => [T N, X, cell g 49 #[.slice A0 y.length c0]]) := by
  refine Bo (args := [.func k #[] caps, .pointer (some ⟨g, 0, none⟩)]) 25 Tryz.func171 rfl rfl rfl ?_; intro w rs
  refine Ad (Af Ak rfl (Aa rfl (.slice A0 y.length c0) (fun b w hb hH => Ba rfl rfl (Bl CI rfl) (hH.row 2 rfl) hb) (Af Ak rfl (Ab (AK (CC (α := Nat × List UInt8 × Option Addr × Nat) (fun ⟨j, l, A, c⟩ => [(0, .func k #[] caps), (3, .slice A l.length c)]) (fun ⟨j, l, A, c⟩ => [T j, X, cell g 49 #[.slice A0 y.length c0]]) (fun ⟨j, l, A, c⟩ => j ≤ ps.length ∧ EN X (.slice A l.length c) l ∧ (Db l).1 = ps.drop j ∧ l.length ≤ 137438953472) (fun ⟨j, l, A, c⟩ => ps.length - j) (0, y, A0, c0) ⟨Nat.zero_le _, hX, by rw [hr]; rfl, hl⟩ ⟨rfl, rfl, trivial⟩ rfl ?_))))))
  rintro ⟨j, l, A, c⟩ hI
  refine AL.at_ (env' := [(0, .func k #[] caps), (3, .slice A l.length c)]) (rs' := [T j, X, cell g 49 #[.slice A0 y.length c0]]) ⟨rfl, rfl, trivial⟩ rfl ?_
  have hI1 := hI.1
  have hXl : EN X (.slice A l.length c) l := hI.2.1
  have hI3 : (Db l).1 = ps.drop j := hI.2.2.1
  have hI4 : l.length ≤ 137438953472 := hI.2.2.2
  clear hI
  refine AK ?_
  rcases hn : Dt l with _ | x
  rw [I5 hn] at hI3
  obtain rfl : j = N := (Nc hI3 hI1).trans hN
  refine Ad (Af Ak rfl (Al (post := fun _ => [T j, X, cell g 49 #[.slice A0 y.length c0]]) rfl (Bk (Ai Tryz.func172 (by kernel_rfl) rfl) (fun w hH => QG hn (hH.rd8 1 rfl hXl) hI4) rfl rfl rfl) ?_)); rintro ⟨⟩
  refine Af Ak rfl (Ab (Ar (Ad (Af Ak rfl (Ab (AE rfl (AB (Ek (BH (Ek (BH ?_)))))))))))
  exact JY  (fun w h => AH () rfl [0, 1, 2] rfl h El) rfl
  obtain ⟨A8, hA8⟩ : ∃ A8, (if c = 8 then A else A.map (·.add 8)) = A8 := ⟨_, rfl⟩
  have hXx : EN X (.slice A8 x.length (c - 8)) x := by have h3 := hXl.first hn; rwa [hA8] at h3
  have hx3 := (JN (A := A) (c := c) hn).2.2
  rw [I6 hn] at hI3
  obtain ⟨hpj, hq, hjl⟩ := Nb hI3
  have hyj := hy j A8 (c - 8) x hpj hXx
  obtain ⟨l1, hl1⟩ : ∃ l1, l.drop (8 + x.length) = l1 := ⟨_, rfl⟩
  obtain ⟨A1, hA1⟩ : ∃ A1, (if c = 8 + x.length then A else A.map (·.add (8 + x.length))) = A1 := ⟨_, rfl⟩
  obtain ⟨c1, hc1⟩ : ∃ c1, c - (8 + x.length) = c1 := ⟨_, rfl⟩
  have hs1 : Cu 1 (.slice A l.length c) (8 + x.length) l.length = .slice A1 l1.length c1 := by rw [UB, hl1, hA1, hc1]
  have hX1 : EN X (.slice A1 l1.length c1) l1 := by have h3 := hXl.drop (k := 8 + x.length) (by omega); rwa [hl1, hA1, hc1] at h3
  have hl2 : l1.length ≤ 137438953472 := by rw [← hl1, List.length_drop]; omega
  rw [hl1] at hq
  refine Ad (Af Ak rfl (Al (post := fun _ => [T j, X, cell g 49 #[.slice A0 y.length c0]]) rfl (Bk (Ai Tryz.func172 (by kernel_rfl) rfl) (fun w hH => Jc hn hA8 (hH.rd8 1 rfl hXl) hI4) rfl rfl rfl) ?_)); rintro ⟨⟩
  refine Af Ak rfl (Ab (Ar (Ar (Kq (KN Hb 5 (by rintro ⟨a, w, h⟩; first | exact h.elim | exact nomatch h.1 | (obtain ⟨_, h, _⟩ := h; exact nomatch h)) (by kernel_rfl) (Af Ak rfl (O9 (F5 (X := Unit) (post := fun _ => [T (j + 1), X]) (os' := fun _ => [T (j + 1), X, cell g 49 #[.slice A0 y.length c0]]) Hb [0, 1] (hyj) rfl rfl rfl rfl rfl rfl (fun _ => rfl) ?_)))))))); rintro ⟨⟩
  refine E3 Hb (by rintro ⟨a, w, h⟩; first | exact h.elim | exact nomatch h.1 | (obtain ⟨_, h, _⟩ := h; exact nomatch h)) (by kernel_rfl) (Af Ak rfl (AG (AC (Au rfl (Av (AC (BB (Af Ak rfl (Aa rfl (.int .i64 (x.length : Int)) (fun b w hb hH => Be ((hH.rd8 1 rfl hXx).rd) Tryz.underlying49 rfl rfl hb) (Aa rfl (.int .i64 ((8 + x.length : Nat) : Int)) (fun b w hb hH => AJ rfl rfl rfl rfl (by rw [IntWalk.i64_in _ (by omega)]; omega) hb) (Aa rfl (.slice A1 l1.length c1) (fun b w hb hH => FP (i := (8 + x.length)) Bh hs1 hx3 rfl rfl rfl hH hb) (Af Ak rfl (AG (A6 ?_))))))))))))))
  exact B6 (j + 1, l1, A1, c1) 0 ⟨hjl, hX1, hq, hl2⟩ (show ps.length - (j + 1) < ps.length - j by omega) ⟨rfl, rfl, trivial⟩ rfl
theorem QH (k : Fn) (caps : Array Value) (g : Nat) (X : Ass) (T : Nat → Ass) (Z : Ass) {A0 : Option Addr} {c0 : Nat} {y : List UInt8} {ps : List (List UInt8)} (hX : EN X (.slice A0 y.length c0) y) (hl : y.length ≤ 137438953472) (hr : (Db y).1 = ps) {N : Nat} (hN : N < ps.length) (hy : (∀ j A c x, ps[j]? = some x → j < N → EN X (.slice A x.length c) x → Dn Tryz.prog (.func k #[] caps) [.slice A x.length c] [T j, X] (fun _ : Unit => .bool true) (fun _ => [T (j + 1), X]))) (hz : (∀ j A c x, ps[j]? = some x → j = N → EN X (.slice A x.length c) x → Dn Tryz.prog (.func k #[] caps) [.slice A x.length c] [T j, X] (fun _ : Unit => .bool false) (fun _ => [Z, X]))) : AV Tryz.prog 171 #[.func k #[] caps, .pointer (some ⟨g, 0, none⟩)] [T 0, X, cell g 49 #[.slice A0 y.length c0]] (fun (_ : Unit) => .tuple #[]) (fun (_ : Unit) => [Z, X, cell g 49 #[.slice A0 y.length c0]]) := by
  refine Bo (args := [.func k #[] caps, .pointer (some ⟨g, 0, none⟩)]) 25 Tryz.func171 rfl rfl rfl ?_; intro w rs
  refine Ad (Af Ak rfl (Aa rfl (.slice A0 y.length c0) (fun b w hb hH => Ba rfl rfl (Bl CI rfl) (hH.row 2 rfl) hb) (Af Ak rfl (Ab (AK (CC (α := Nat × List UInt8 × Option Addr × Nat) (fun ⟨j, l, A, c⟩ => [(0, .func k #[] caps), (3, .slice A l.length c)]) (fun ⟨j, l, A, c⟩ => [T j, X, cell g 49 #[.slice A0 y.length c0]]) (fun ⟨j, l, A, c⟩ => j ≤ N ∧ EN X (.slice A l.length c) l ∧ (Db l).1 = ps.drop j ∧ l.length ≤ 137438953472) (fun ⟨j, l, A, c⟩ => ps.length - j) (0, y, A0, c0) ⟨Nat.zero_le _, hX, by rw [hr]; rfl, hl⟩ ⟨rfl, rfl, trivial⟩ rfl ?_))))))
  rintro ⟨j, l, A, c⟩ hI
  refine AL.at_ (env' := [(0, .func k #[] caps), (3, .slice A l.length c)]) (rs' := [T j, X, cell g 49 #[.slice A0 y.length c0]]) ⟨rfl, rfl, trivial⟩ rfl ?_
  have hI1 := hI.1
  have hXl : EN X (.slice A l.length c) l := hI.2.1
  have hI3 : (Db l).1 = ps.drop j := hI.2.2.1
  have hI4 : l.length ≤ 137438953472 := hI.2.2.2
  clear hI
  refine AK ?_
  rcases hn : Dt l with _ | x
  · exact absurd (Nc (by rw [I5 hn] at hI3; exact hI3) (by omega)) (by omega)
  obtain ⟨A8, hA8⟩ : ∃ A8, (if c = 8 then A else A.map (·.add 8)) = A8 := ⟨_, rfl⟩
  have hXx : EN X (.slice A8 x.length (c - 8)) x := by have h3 := hXl.first hn; rwa [hA8] at h3
  have hx3 := (JN (A := A) (c := c) hn).2.2
  rw [I6 hn] at hI3
  obtain ⟨hpj, hq, hjl⟩ := Nb hI3
  rcases Nat.lt_or_ge j N with hjN | hjN
  have hyj := hy j A8 (c - 8) x hpj hjN hXx
  obtain ⟨l1, hl1⟩ : ∃ l1, l.drop (8 + x.length) = l1 := ⟨_, rfl⟩
  obtain ⟨A1, hA1⟩ : ∃ A1, (if c = 8 + x.length then A else A.map (·.add (8 + x.length))) = A1 := ⟨_, rfl⟩
  obtain ⟨c1, hc1⟩ : ∃ c1, c - (8 + x.length) = c1 := ⟨_, rfl⟩
  have hs1 : Cu 1 (.slice A l.length c) (8 + x.length) l.length = .slice A1 l1.length c1 := by rw [UB, hl1, hA1, hc1]
  have hX1 : EN X (.slice A1 l1.length c1) l1 := by have h3 := hXl.drop (k := 8 + x.length) (by omega); rwa [hl1, hA1, hc1] at h3
  have hl2 : l1.length ≤ 137438953472 := by rw [← hl1, List.length_drop]; omega
  rw [hl1] at hq
  refine Ad (Af Ak rfl (Al (post := fun _ => [T j, X, cell g 49 #[.slice A0 y.length c0]]) rfl (Bk (Ai Tryz.func172 (by kernel_rfl) rfl) (fun w hH => Jc hn hA8 (hH.rd8 1 rfl hXl) hI4) rfl rfl rfl) ?_)); rintro ⟨⟩
  refine Af Ak rfl (Ab (Ar (Ar (Kq (KN Hb 5 (by rintro ⟨a, w, h⟩; first | exact h.elim | exact nomatch h.1 | (obtain ⟨_, h, _⟩ := h; exact nomatch h)) (by kernel_rfl) (Af Ak rfl (O9 (F5 (X := Unit) (post := fun _ => [T (j + 1), X]) (os' := fun _ => [T (j + 1), X, cell g 49 #[.slice A0 y.length c0]]) Hb [0, 1] (hyj) rfl rfl rfl rfl rfl rfl (fun _ => rfl) ?_)))))))); rintro ⟨⟩
  refine E3 Hb (by rintro ⟨a, w, h⟩; first | exact h.elim | exact nomatch h.1 | (obtain ⟨_, h, _⟩ := h; exact nomatch h)) (by kernel_rfl) (Af Ak rfl (AG (AC (Au rfl (Av (AC (BB (Af Ak rfl (Aa rfl (.int .i64 (x.length : Int)) (fun b w hb hH => Be ((hH.rd8 1 rfl hXx).rd) Tryz.underlying49 rfl rfl hb) (Aa rfl (.int .i64 ((8 + x.length : Nat) : Int)) (fun b w hb hH => AJ rfl rfl rfl rfl (by rw [IntWalk.i64_in _ (by omega)]; omega) hb) (Aa rfl (.slice A1 l1.length c1) (fun b w hb hH => FP (i := (8 + x.length)) Bh hs1 hx3 rfl rfl rfl hH hb) (Af Ak rfl (AG (A6 ?_))))))))))))))
  exact B6 (j + 1, l1, A1, c1) 0 ⟨hjN, hX1, hq, hl2⟩ (show ps.length - (j + 1) < ps.length - j by omega) ⟨rfl, rfl, trivial⟩ rfl
  obtain rfl : j = N := by omega
  have hyj := hz j A8 (c - 8) x hpj rfl hXx
  refine Ad (Af Ak rfl (Al (post := fun _ => [T j, X, cell g 49 #[.slice A0 y.length c0]]) rfl (Bk (Ai Tryz.func172 (by kernel_rfl) rfl) (fun w hH => Jc hn hA8 (hH.rd8 1 rfl hXl) hI4) rfl rfl rfl) ?_)); rintro ⟨⟩
  refine Af Ak rfl (Ab (Ar (Ar (Kq (KN Hb 5 (by rintro ⟨a, w, h⟩; first | exact h.elim | exact nomatch h.1 | (obtain ⟨_, h, _⟩ := h; exact nomatch h)) (by kernel_rfl) (Af Ak rfl (O9 (F5 (X := Unit) (post := fun _ => [Z, X]) (os' := fun _ => [Z, X, cell g 49 #[.slice A0 y.length c0]]) Hb [0, 1] (hyj) rfl rfl rfl rfl rfl rfl (fun _ => rfl) ?_)))))))); rintro ⟨⟩
  refine E3 Hb (by rintro ⟨a, w, h⟩; first | exact h.elim | exact nomatch h.1 | (obtain ⟨_, h, _⟩ := h; exact nomatch h)) (by kernel_rfl) (Af Ak rfl (AG (AC (AE rfl (AB (Ek (BH (Ek (BH ?_)))))))))
  exact JY  (fun w h => AH () rfl [0, 1, 2] rfl h El) rfl
theorem IQ {A0 : Option Addr} {n c0 : Nat} : AV Tryz.prog 146 #[.slice A0 n c0] [] (fun (g : Nat) => .func (.func 171) #[] #[.pointer (some ⟨g, 0, none⟩)]) (fun (g : Nat) => [cell g 49 #[.slice A0 n c0]]) := by
 refine Bo (args := [.slice A0 n c0]) 4 Tryz.func146 rfl rfl rfl ?_; intro w rs
 refine Ad (Af Ak rfl (Al (post := fun g => [cell g 49 #[.slice A0 n c0]]) rfl (CW (cs := #[.slice A0 n c0]) rfl rfl rfl) ?_)); rintro g
 refine Af Ak rfl (Ab (Ad (Af Ak rfl (Aa rfl (.func (.func 171) #[] #[.pointer (some ⟨g, 0, none⟩)]) (fun b w hb hH => Nw rfl rfl hb) (Af Ak rfl (Ab (AB ?_)))))))
 exact AA (.tmp rfl) (fun w h => AH g rfl [0] rfl h El) rfl
theorem Pb {X : Ass} {v : Value} {y : List UInt8} (hX : EN X v y) (hl : y.length ≤ 137438953472) : AV Tryz.prog 119 #[v] [X] (fun (x : Nat × Value) => .func (.func 145) #[] #[.pointer (some ⟨x.1, 0, none⟩)]) (fun (x : Nat × Value) => [X, cell x.1 49 #[x.2], Aj 5 1 encB x.2 y]) := by
 refine Bo (args := [v]) 7 Tryz.func119 rfl rfl rfl ?_; intro w rs
 refine Ad (Af Ak rfl (Ab (Ad (Af Ak rfl (Al rfl (As (os' := fun v9 => [Aj 5 1 encB v9 y, X]) [0] 0 (Ai Tryz.func78 (by kernel_rfl) rfl) (FU hX (by omega)) rfl rfl rfl (fun _ => rfl) rfl rfl rfl) ?_))))); rintro v9
 refine Al (post := fun g => [cell g 49 #[.slice none 0 0], Aj 5 1 encB v9 y, X]) rfl (Cl P4 rfl) ?_; rintro g
 refine AR (post := fun _ => [cell g 49 #[v9], Aj 5 1 encB v9 y, X]) rfl rfl (Ez 0 1 (v := v9) #[v9] CI.2 rfl (fun _ h => Aj.c1 h) rfl rfl rfl rfl rfl rfl rfl) ?_; rintro ⟨⟩
 refine Ab (Ad (Af Ak rfl (Aa rfl (.func (.func 145) #[] #[.pointer (some ⟨g, 0, none⟩)]) (fun b w hb hH => Nw rfl rfl hb) (Af Ak rfl (Ab (AB ?_))))))
 exact AA (.tmp rfl) (fun w h => AH (g, v9) rfl [2, 0, 1] rfl h El) rfl
end Go.Proofs.YtjcfimmcogkopaaGreatDoor.Sep
namespace Go.Proofs.YtjcfimmcogkopaaGreatDoor.Sep
open Go.RowKit
open Go.Proofs.YtjcfimmcogkopaaGreatDoor.Mem (Bb Ci Chg Aw)
def GY (gy : Nat) (f : Value) (X : Ass) : Ass := fun rs => Am [cell gy 195 #[f], X] rs
theorem GY.open_ {gy : Nat} {f : Value} {X : Ass} : ∀ rs, GY gy f X rs → ∃ _ : Unit, Am [cell gy 195 #[f], X] rs := fun _ h => ⟨(), h⟩
theorem JO {gy : Nat} {f : Value} (X : Ass) : ∀ rs, Am [cell gy 195 #[f], X] rs → GY gy f X rs := fun _ h => h
theorem Yb (k : Fn) (caps : Array Value) (g : Nat) (T : Nat → Ass) {A0 : Option Addr} {c0 : Nat} {y : List UInt8} {ps : List (List UInt8)} {N : Nat} (hl : y.length ≤ 137438953472) (hr : (Db y).1 = ps) (hlen : ∀ x, x ∈ ps → x.length ≤ 65536) (hN : ps.length = N) (hyy : ∀ j x d, ps[j]? = some x → Dn Tryz.prog (.func k #[] caps) [d] [T j, Aj 5 1 encB d x] (fun _ : Unit => .bool true) (fun _ : Unit => [T (j + 1)])) : AV Tryz.prog 145 #[.func k #[] caps, .pointer (some ⟨g, 0, none⟩)] [T 0, Aj 5 1 encB (.slice A0 y.length c0) y, cell g 49 #[.slice A0 y.length c0]] (fun (_ : Unit) => .tuple #[]) (fun (_ : Unit) => [T N, Aj 5 1 encB (.slice A0 y.length c0) y, cell g 49 #[.slice A0 y.length c0]]) := by
  refine Ks (args := [.func k #[] caps, .pointer (some ⟨g, 0, none⟩)]) 14 Tryz.func145 rfl rfl rfl ?_; intro w rs
  refine Ad (Af Ak rfl (Al (post := fun gy => [cell gy 195 #[.func k #[] caps], T 0, Aj 5 1 encB (.slice A0 y.length c0) y, cell g 49 #[.slice A0 y.length c0]]) rfl (CW (cs := #[.func k #[] caps]) rfl rfl rfl) ?_)); rintro gy
  refine Ab (Ar (Ad (Af Ak rfl (Aa rfl (.func k #[] caps) (fun b w hb hH => Ba rfl rfl (Bl CK rfl) (hH.row 0 rfl) hb) (Aa rfl (.bool false) (fun b w hb hH => IP Tryz.underlying195 rfl rfl rfl hb) (Ab (Au rfl (Av (AC (Bj [0, 1] rfl (JO (T 0)) rfl (Ad (Af Ak rfl (Aa rfl (.slice A0 y.length c0) (fun b w hb hH => Ba rfl rfl (Bl CI rfl) (hH.row 2 rfl) hb) (Al rfl (As (os' := fun g2 => [cell g2 49 #[.slice A0 y.length c0], GY gy (.func k #[] caps) (T 0), Aj 5 1 encB (.slice A0 y.length c0) y, cell g 49 #[.slice A0 y.length c0]]) [] 0 (Ai Tryz.func146 (by kernel_rfl) rfl) (IQ) rfl rfl rfl (fun _ => rfl) rfl rfl rfl) ?_)))))))))))))); rintro g2
  refine Ab (AK (AL.keep (env' := [(0, .func k #[] caps), (1, .pointer (some ⟨g, 0, none⟩)), (2, .pointer (some ⟨gy, 0, none⟩)), (4, .func k #[] caps), (5, .bool false), (6, .slice A0 y.length c0), (7, .func (.func 171) #[] #[.pointer (some ⟨g2, 0, none⟩)])]) ⟨rfl, rfl, rfl, rfl, rfl, rfl, rfl, trivial⟩ (AL.mid [cell g2 49 #[.slice A0 y.length c0], GY gy (.func k #[] caps) (T 0), Aj 5 1 encB (.slice A0 y.length c0) y, cell g 49 #[.slice A0 y.length c0]] (.refl _) ?_)))
  refine FF (caps := [.pointer (some ⟨g2, 0, none⟩)]) (post := [GY gy (.func k #[] caps) (T N), Aj 5 1 encB (.slice A0 y.length c0) y, cell g2 49 #[.slice A0 y.length c0]]) (os' := [GY gy (.func k #[] caps) (T N), Aj 5 1 encB (.slice A0 y.length c0) y, cell g2 49 #[.slice A0 y.length c0], cell g 49 #[.slice A0 y.length c0]]) (.normal) [1, 2, 0] rfl (Ai Tryz.func171 (by kernel_rfl) rfl) (fun L1 fn1 tm1 hf1 r1 k11 k12 k13 k14 k15 k16 => M8 (SP (.yield L1) #[] g2 (Aj 5 1 encB (.slice A0 y.length c0) y) (fun j => Ed L1 r1 (GY gy (.func k #[] caps) (T j))) D7 hl hr hN ?_)) rfl rfl rfl ?_
  intro j A c x hpj hXx
  have hxl : x.length ≤ 65536 := hlen x (List.mem_of_getElem? hpj)
  refine KO (CZ (n := 14) (env := [(8, .slice A x.length c), (0, .func k #[] caps), (1, .pointer (some ⟨g, 0, none⟩)), (2, .pointer (some ⟨gy, 0, none⟩)), (4, .func k #[] caps), (5, .bool false), (6, .slice A0 y.length c0), (7, .func (.func 171) #[] #[.pointer (some ⟨g2, 0, none⟩)])]) (.normal) k12 k11 (by rw [k14]; rfl) ?_ ?_)
  · rw [k14, k13]
    refine (congrArg (fun t => Fr 14 { tmps := t, defers := [] } _) (?_ : _ = (tm1.setIfInBounds 8 (.slice A x.length c)))).mpr (hf1.put (d := 8) (by decide) _)
    simp
  · intro w0 rs
    rw [k15]
    refine Dz (by kernel_rfl) (by rintro ⟨a, w, h⟩; first | exact h.elim | exact nomatch h.1 | (obtain ⟨_, h, _⟩ := h; exact nomatch h)) (Af Ak rfl (AG (E9 0 rfl k11 ?_)))
    rw [k16]
    refine Er 1 rfl GY.open_ (fun _ => rfl) ?_; rintro ⟨⟩
    refine Eo (DO (NS 1 rfl ?_))
    refine QD 3 1 [⟨.quiet, [none], fun _ => .func k #[] caps, []⟩, ⟨.quiet, [none], fun _ => .slice A x.length c, []⟩, ⟨.act 0, [some false], fun _ => undef, [1]⟩] [(2, .pointer (some ⟨gy, 0, none⟩)), (3, .slice A x.length c)] (fun ρ => match ρ with | [r0] => [DT r0 (fun d1 => Aj 5 1 encB d1 x) (Gj), cell gy 195 #[.func k #[] caps], T j, BL L1 (B7 r1), Aj 5 1 encB (.slice A0 y.length c0) y] | _ => []) (by kernel_rfl) (by kernel_rfl) (by kernel_rfl) ⟨rfl, rfl, trivial⟩ rfl ?_ ?_
    refine Ac (by intro r0_; exact ⟨rfl, fun b w hH hb => Ba rfl rfl (Bl CK rfl) (hH.row 1 rfl) hb⟩) (Ac (by intro r0_; exact ⟨rfl, fun b w hH hb => Ah Ak rfl hb⟩) (Ac (by exact ⟨rfl, Bt.s (As (os' := fun d1 => [Aj 5 1 encB d1 x, cell gy 195 #[.func k #[] caps], T j, BL L1 (B7 r1), Aj 5 1 encB (.slice A0 y.length c0) y]) [4, 0] 1 (Ai Tryz.func78 (by kernel_rfl) rfl) (FU hXx (by omega)) rfl rfl rfl (fun _ => rfl) rfl rfl rfl) (fun _ => rfl)⟩) ?_))
    exact B9
    intro d1
    refine N7.keep (env' := [(9, .func k #[] caps), (11, d1)]) ⟨rfl, rfl, trivial⟩ (F5 (X := Unit) (post := fun _ => [T (j + 1)]) (os' := fun _ => [T (j + 1), cell gy 195 #[.func k #[] caps], BL L1 (B7 r1), Aj 5 1 encB (.slice A0 y.length c0) y]) IE [2, 0] (hyy j x d1 hpj) rfl rfl rfl rfl rfl rfl (fun _ => rfl) ?_); rintro ⟨⟩
    refine E3 IE (by rintro ⟨a, w, h⟩; first | exact h.elim | exact nomatch h.1 | (obtain ⟨_, h, _⟩ := h; exact nomatch h)) (by kernel_rfl) (Af Ak rfl (AG (FA (I9 rfl (Ja (A6 (CU [1, 0] rfl (JO (T (j + 1))) rfl ?_)))))))
    exact Fm [1, 0, 2] rfl rfl
  intro D aT wT hD hD0 hd hF hH
  obtain ⟨_, hH⟩ := FB 0 rfl GY.open_ hH
  exact Kt (e := .normal) rfl (fun w' h => AH (X := Unit) (val := fun _ => .tuple #[]) (post := fun _ => [T N, Aj 5 1 encB (.slice A0 y.length c0) y, cell g 49 #[.slice A0 y.length c0]]) (os := [cell gy 195 #[.func k #[] caps], T N, Aj 5 1 encB (.slice A0 y.length c0) y, cell g2 49 #[.slice A0 y.length c0], cell g 49 #[.slice A0 y.length c0]]) () rfl [1, 2, 4] rfl h El) (by simp) D aT wT hD hD0 hd hF hH
theorem XW (k : Fn) (caps : Array Value) (g : Nat) (T : Nat → Ass) (Z : Ass) {A0 : Option Addr} {c0 : Nat} {y : List UInt8} {ps : List (List UInt8)} {N : Nat} (hl : y.length ≤ 137438953472) (hr : (Db y).1 = ps) (hlen : ∀ x, x ∈ ps → x.length ≤ 65536) (hN : N < ps.length) (hyy : ∀ j x d, ps[j]? = some x → j < N → Dn Tryz.prog (.func k #[] caps) [d] [T j, Aj 5 1 encB d x] (fun _ : Unit => .bool true) (fun _ : Unit => [T (j + 1)])) (hzz : ∀ j x d, ps[j]? = some x → j = N → Dn Tryz.prog (.func k #[] caps) [d] [T j, Aj 5 1 encB d x] (fun _ : Unit => .bool false) (fun _ : Unit => [Z])) : AV Tryz.prog 145 #[.func k #[] caps, .pointer (some ⟨g, 0, none⟩)] [T 0, Aj 5 1 encB (.slice A0 y.length c0) y, cell g 49 #[.slice A0 y.length c0]] (fun (_ : Unit) => .tuple #[]) (fun (_ : Unit) => [Z, Aj 5 1 encB (.slice A0 y.length c0) y, cell g 49 #[.slice A0 y.length c0]]) := by
  refine Ks (args := [.func k #[] caps, .pointer (some ⟨g, 0, none⟩)]) 14 Tryz.func145 rfl rfl rfl ?_; intro w rs
  refine Ad (Af Ak rfl (Al (post := fun gy => [cell gy 195 #[.func k #[] caps], T 0, Aj 5 1 encB (.slice A0 y.length c0) y, cell g 49 #[.slice A0 y.length c0]]) rfl (CW (cs := #[.func k #[] caps]) rfl rfl rfl) ?_)); rintro gy
  refine Ab (Ar (Ad (Af Ak rfl (Aa rfl (.func k #[] caps) (fun b w hb hH => Ba rfl rfl (Bl CK rfl) (hH.row 0 rfl) hb) (Aa rfl (.bool false) (fun b w hb hH => IP Tryz.underlying195 rfl rfl rfl hb) (Ab (Au rfl (Av (AC (Bj [0, 1] rfl (JO (T 0)) rfl (Ad (Af Ak rfl (Aa rfl (.slice A0 y.length c0) (fun b w hb hH => Ba rfl rfl (Bl CI rfl) (hH.row 2 rfl) hb) (Al rfl (As (os' := fun g2 => [cell g2 49 #[.slice A0 y.length c0], GY gy (.func k #[] caps) (T 0), Aj 5 1 encB (.slice A0 y.length c0) y, cell g 49 #[.slice A0 y.length c0]]) [] 0 (Ai Tryz.func146 (by kernel_rfl) rfl) (IQ) rfl rfl rfl (fun _ => rfl) rfl rfl rfl) ?_)))))))))))))); rintro g2
  refine Ab (AK (AL.keep (env' := [(0, .func k #[] caps), (1, .pointer (some ⟨g, 0, none⟩)), (2, .pointer (some ⟨gy, 0, none⟩)), (4, .func k #[] caps), (5, .bool false), (6, .slice A0 y.length c0), (7, .func (.func 171) #[] #[.pointer (some ⟨g2, 0, none⟩)])]) ⟨rfl, rfl, rfl, rfl, rfl, rfl, rfl, trivial⟩ (AL.mid [cell g2 49 #[.slice A0 y.length c0], GY gy (.func k #[] caps) (T 0), Aj 5 1 encB (.slice A0 y.length c0) y, cell g 49 #[.slice A0 y.length c0]] (.refl _) ?_)))
  refine FF (caps := [.pointer (some ⟨g2, 0, none⟩)]) (post := [GY gy (.func k #[] caps) Z, Aj 5 1 encB (.slice A0 y.length c0) y, cell g2 49 #[.slice A0 y.length c0]]) (os' := [GY gy (.func k #[] caps) Z, Aj 5 1 encB (.slice A0 y.length c0) y, cell g2 49 #[.slice A0 y.length c0], cell g 49 #[.slice A0 y.length c0]]) (.ret) [1, 2, 0] rfl (Ai Tryz.func171 (by kernel_rfl) rfl) (fun L1 fn1 tm1 hf1 r1 k11 k12 k13 k14 k15 k16 => M8 (QH (.yield L1) #[] g2 (Aj 5 1 encB (.slice A0 y.length c0) y) (fun j => Ed L1 r1 (GY gy (.func k #[] caps) (T j))) (Ed L1 (Hc .ret r1) (GY gy (.func k #[] caps) Z)) D7 hl hr hN ?_ ?_)) rfl rfl rfl ?_
  intro j A c x hpj hjN hXx
  have hxl : x.length ≤ 65536 := hlen x (List.mem_of_getElem? hpj)
  refine KO (CZ (n := 14) (env := [(8, .slice A x.length c), (0, .func k #[] caps), (1, .pointer (some ⟨g, 0, none⟩)), (2, .pointer (some ⟨gy, 0, none⟩)), (4, .func k #[] caps), (5, .bool false), (6, .slice A0 y.length c0), (7, .func (.func 171) #[] #[.pointer (some ⟨g2, 0, none⟩)])]) (.normal) k12 k11 (by rw [k14]; rfl) ?_ ?_)
  · rw [k14, k13]
    refine (congrArg (fun t => Fr 14 { tmps := t, defers := [] } _) (?_ : _ = (tm1.setIfInBounds 8 (.slice A x.length c)))).mpr (hf1.put (d := 8) (by decide) _)
    simp
  · intro w0 rs
    rw [k15]
    refine Dz (by kernel_rfl) (by rintro ⟨a, w, h⟩; first | exact h.elim | exact nomatch h.1 | (obtain ⟨_, h, _⟩ := h; exact nomatch h)) (Af Ak rfl (AG (E9 0 rfl k11 ?_)))
    rw [k16]
    refine Er 1 rfl GY.open_ (fun _ => rfl) ?_; rintro ⟨⟩
    refine Eo (DO (NS 1 rfl ?_))
    refine QD 3 1 [⟨.quiet, [none], fun _ => .func k #[] caps, []⟩, ⟨.quiet, [none], fun _ => .slice A x.length c, []⟩, ⟨.act 0, [some false], fun _ => undef, [1]⟩] [(2, .pointer (some ⟨gy, 0, none⟩)), (3, .slice A x.length c)] (fun ρ => match ρ with | [r0] => [DT r0 (fun d1 => Aj 5 1 encB d1 x) (Gj), cell gy 195 #[.func k #[] caps], T j, BL L1 (B7 r1), Aj 5 1 encB (.slice A0 y.length c0) y] | _ => []) (by kernel_rfl) (by kernel_rfl) (by kernel_rfl) ⟨rfl, rfl, trivial⟩ rfl ?_ ?_
    refine Ac (by intro r0_; exact ⟨rfl, fun b w hH hb => Ba rfl rfl (Bl CK rfl) (hH.row 1 rfl) hb⟩) (Ac (by intro r0_; exact ⟨rfl, fun b w hH hb => Ah Ak rfl hb⟩) (Ac (by exact ⟨rfl, Bt.s (As (os' := fun d1 => [Aj 5 1 encB d1 x, cell gy 195 #[.func k #[] caps], T j, BL L1 (B7 r1), Aj 5 1 encB (.slice A0 y.length c0) y]) [4, 0] 1 (Ai Tryz.func78 (by kernel_rfl) rfl) (FU hXx (by omega)) rfl rfl rfl (fun _ => rfl) rfl rfl rfl) (fun _ => rfl)⟩) ?_))
    exact B9
    intro d1
    refine N7.keep (env' := [(9, .func k #[] caps), (11, d1)]) ⟨rfl, rfl, trivial⟩ (F5 (X := Unit) (post := fun _ => [T (j + 1)]) (os' := fun _ => [T (j + 1), cell gy 195 #[.func k #[] caps], BL L1 (B7 r1), Aj 5 1 encB (.slice A0 y.length c0) y]) IE [2, 0] (hyy j x d1 hpj hjN) rfl rfl rfl rfl rfl rfl (fun _ => rfl) ?_); rintro ⟨⟩
    refine E3 IE (by rintro ⟨a, w, h⟩; first | exact h.elim | exact nomatch h.1 | (obtain ⟨_, h, _⟩ := h; exact nomatch h)) (by kernel_rfl) (Af Ak rfl (AG (FA (I9 rfl (Ja (A6 (CU [1, 0] rfl (JO (T (j + 1))) rfl ?_)))))))
    exact Fm [1, 0, 2] rfl rfl
  intro j A c x hpj hjN hXx
  have hxl : x.length ≤ 65536 := hlen x (List.mem_of_getElem? hpj)
  refine KO (CZ (n := 14) (env := [(8, .slice A x.length c), (0, .func k #[] caps), (1, .pointer (some ⟨g, 0, none⟩)), (2, .pointer (some ⟨gy, 0, none⟩)), (4, .func k #[] caps), (5, .bool false), (6, .slice A0 y.length c0), (7, .func (.func 171) #[] #[.pointer (some ⟨g2, 0, none⟩)])]) (.ret) k12 k11 (by rw [k14]; rfl) ?_ ?_)
  · rw [k14, k13]
    refine (congrArg (fun t => Fr 14 { tmps := t, defers := [] } _) (?_ : _ = (tm1.setIfInBounds 8 (.slice A x.length c)))).mpr (hf1.put (d := 8) (by decide) _)
    simp
  · intro w0 rs
    rw [k15]
    refine Dz (by kernel_rfl) (by rintro ⟨a, w, h⟩; first | exact h.elim | exact nomatch h.1 | (obtain ⟨_, h, _⟩ := h; exact nomatch h)) (Af Ak rfl (AG (E9 0 rfl k11 ?_)))
    rw [k16]
    refine Er 1 rfl GY.open_ (fun _ => rfl) ?_; rintro ⟨⟩
    refine Eo (DO (NS 1 rfl ?_))
    refine QD 3 1 [⟨.quiet, [none], fun _ => .func k #[] caps, []⟩, ⟨.quiet, [none], fun _ => .slice A x.length c, []⟩, ⟨.act 0, [some false], fun _ => undef, [1]⟩] [(2, .pointer (some ⟨gy, 0, none⟩)), (3, .slice A x.length c)] (fun ρ => match ρ with | [r0] => [DT r0 (fun d1 => Aj 5 1 encB d1 x) (Gj), cell gy 195 #[.func k #[] caps], T j, BL L1 (B7 r1), Aj 5 1 encB (.slice A0 y.length c0) y] | _ => []) (by kernel_rfl) (by kernel_rfl) (by kernel_rfl) ⟨rfl, rfl, trivial⟩ rfl ?_ ?_
    refine Ac (by intro r0_; exact ⟨rfl, fun b w hH hb => Ba rfl rfl (Bl CK rfl) (hH.row 1 rfl) hb⟩) (Ac (by intro r0_; exact ⟨rfl, fun b w hH hb => Ah Ak rfl hb⟩) (Ac (by exact ⟨rfl, Bt.s (As (os' := fun d1 => [Aj 5 1 encB d1 x, cell gy 195 #[.func k #[] caps], T j, BL L1 (B7 r1), Aj 5 1 encB (.slice A0 y.length c0) y]) [4, 0] 1 (Ai Tryz.func78 (by kernel_rfl) rfl) (FU hXx (by omega)) rfl rfl rfl (fun _ => rfl) rfl rfl rfl) (fun _ => rfl)⟩) ?_))
    exact B9
    intro d1
    refine N7.keep (env' := [(9, .func k #[] caps), (11, d1)]) ⟨rfl, rfl, trivial⟩ (F5 (X := Unit) (post := fun _ => [Z]) (os' := fun _ => [Z, cell gy 195 #[.func k #[] caps], BL L1 (B7 r1), Aj 5 1 encB (.slice A0 y.length c0) y]) IE [2, 0] (hzz j x d1 hpj hjN) rfl rfl rfl rfl rfl rfl (fun _ => rfl) ?_); rintro ⟨⟩
    refine E3 IE (by rintro ⟨a, w, h⟩; first | exact h.elim | exact nomatch h.1 | (obtain ⟨_, h, _⟩ := h; exact nomatch h)) (by kernel_rfl) (Af Ak rfl (AG (FA (NR rfl (WD (BH (CU [1, 0] rfl (JO Z) rfl ?_)))))))
    exact Fm [1, 0, 2] rfl rfl
  intro D aT wT hD hD0 hd hF hH
  obtain ⟨_, hH⟩ := FB 0 rfl GY.open_ hH
  exact Kt (e := .ret) rfl (fun w' h => AH (X := Unit) (val := fun _ => .tuple #[]) (post := fun _ => [Z, Aj 5 1 encB (.slice A0 y.length c0) y, cell g 49 #[.slice A0 y.length c0]]) (os := [cell gy 195 #[.func k #[] caps], Z, Aj 5 1 encB (.slice A0 y.length c0) y, cell g2 49 #[.slice A0 y.length c0], cell g 49 #[.slice A0 y.length c0]]) () rfl [1, 2, 4] rfl h El) (by simp) D aT wT hD hD0 hd hF hH
end Go.Proofs.YtjcfimmcogkopaaGreatDoor.Sep
namespace Go.Proofs.YtjcfimmcogkopaaGreatDoor.Sep
def Cp (ps : List (List UInt8)) : Nat := (ps.map fun x => 8 + x.length).sum
theorem Ku {ps : List (List UInt8)} {j : Nat} {x : List UInt8} (h : ps[j]? = some x) : Cp (ps.take (j + 1)) = Cp (ps.take j) + (8 + x.length) := by
 unfold Cp
 have hlt := (List.getElem?_eq_some_iff.1 h).1
 rw [List.take_add_one, h]
 simp
theorem RF (ps : List (List UInt8)) (j : Nat) : Cp (ps.take j) ≤ Cp ps := by
 have h : Cp ps = Cp (ps.take j) + Cp (ps.drop j) := by
  unfold Cp
  rw [← List.sum_append, ← List.map_append, List.take_append_drop]
 omega
theorem Nd (x : List UInt8) (ps : List (List UInt8)) : Cp (x :: ps) = 8 + x.length + Cp ps := by simp [Cp]
theorem Kv : ∀ (k : Nat) (b : List UInt8), (Ff k b).2 = Cp (Ff k b).1
  | 0, _ => rfl
  | k + 1, b => by
    simp only [Ff]
    cases h : Dt b with
    | none => rfl
    | some x => rw [Nd]; simp only [← Kv k]
def F6 : Nat → List (List UInt8) → List (EntD × Nat)
  | _, [] => []
  | o, p :: ps => if (EF p).2 = 0 then ((EF p).1, o + (8 + p.length)) :: F6 (o + (8 + p.length)) ps else []
theorem Iu : ∀ (ps : List (List UInt8)) (o : Nat), (F6 o ps).length ≤ ps.length
  | [], _ => Nat.le_refl _
  | p :: ps, o => by
    unfold F6
    split
    · simpa using Iu ps _
    · simp
theorem Mc : ∀ {ps : List (List UInt8)} {o j : Nat} {e : EntD} {n : Nat}, (F6 o ps)[j]? = some (e, n) → ∃ p, ps[j]? = some p ∧ EF p = (e, 0) ∧ n = o + Cp (ps.take (j + 1))
  | [], _, j, _, _, h => by simp [F6] at h
  | p :: ps, o, j, e, n, h => by
    unfold F6 at h
    split at h
    · rename_i h0
      cases j with
      | zero =>
        simp only [List.getElem?_cons_zero, Option.some.injEq, Prod.mk.injEq] at h
        refine ⟨p, rfl, Prod.ext h.1 h0, ?_⟩
        simp only [List.take_succ_cons, List.take_zero, Cp, List.map_cons, List.map_nil, List.sum_cons, List.sum_nil]
        omega
      | succ j =>
        simp only [List.getElem?_cons_succ] at h
        obtain ⟨q, h1, h2, h3⟩ := Mc h
        refine ⟨q, by simpa using h1, h2, ?_⟩
        rw [List.take_succ_cons, Nd]
        omega
    · simp at h
theorem Md : ∀ {ps : List (List UInt8)} {o : Nat} {p : List UInt8}, ps[(F6 o ps).length]? = some p → (EF p).2 ≠ 0
  | [], _, _, h => by simp at h
  | q :: ps, o, p, h => by
    unfold F6 at h
    split at h
    · rename_i h0
      simp only [List.length_cons, List.getElem?_cons_succ] at h
      exact Md h
    · rename_i h0
      simp only [List.length_nil, List.getElem?_cons_zero, Option.some.injEq] at h
      rw [← h]; exact h0
def H5 (b : List UInt8) : List (EntD × Nat) := F6 0 (Db b).1
end Go.Proofs.YtjcfimmcogkopaaGreatDoor.Sep
namespace Go.Proofs.YtjcfimmcogkopaaGreatDoor.Sep
open Go.RowKit
open Go.Proofs.YtjcfimmcogkopaaGreatDoor.Mem (Bb Ci Chg Aw)
def flT : List ((Nat × Nat) × Nat) := flS
theorem Ae : Og Tryz.prog flT := Ak
end Go.Proofs.YtjcfimmcogkopaaGreatDoor.Sep
