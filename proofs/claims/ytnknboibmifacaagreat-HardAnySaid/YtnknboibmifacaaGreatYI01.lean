/-
  SgA · SgB · SgM · TyS · SgC
-/
import Derived.Test.YtnknboibmifacaaGreatYB01
import Derived.Test.YtnknboibmifacaaGreatYB02
import Derived.Test.YtnknboibmifacaaGreatYG01
import Derived.Test.YtnknboibmifacaaGreatYH01
set_option linter.unusedSimpArgs false
set_option linter.unusedVariables false
set_option maxRecDepth 100000
namespace Go.Proofs.YtnknboibmifacaaGreat.Sep
open Go.RowKit
open Go.Proofs.YtnknboibmifacaaGreat.Mem (Bd Cj Chg AF)
theorem Pn {w : World} {y : List UInt8} {A : Option Addr} {c : Nat} (hn : BV y = none) (hv : EQ w (.slice A y.length c) y) (hl : y.length ≤ 137438953472) : Calls Tryz.prog 94 #[.slice A y.length c] w fun e w' => e = .returned (.tuple #[Pc A c y, .bool false]) ∧ Below w.heap.size w w' := by
 have h := Qd w hv hl
 rwa [hn] at h
theorem IQ {A : Option Addr} {c : Nat} {y x : List UInt8} (hn : BV y = some x) : Pc A c y = .slice (if c = 8 then A else A.map (·.add 8)) x.length (c - 8) ∧ x = (y.drop 8).take x.length ∧ 8 + x.length ≤ y.length := by
  have hx := GG hn
  unfold BV at hn
  split at hn
  · rename_i h
    cases hn
    refine ⟨?_, ?_, hx.1⟩
    · unfold Pc
      rw [if_pos ⟨h.1, h.2.1, h.2.2.1⟩, List.length_take, List.length_drop, Nat.min_eq_left (by omega)]
    · rw [List.length_take, List.length_drop, Nat.min_eq_left (by omega)]
  · cases hn
theorem H9 {w : World} {y x : List UInt8} {A A8 : Option Addr} {c : Nat} (hn : BV y = some x) (hA : (if c = 8 then A else A.map (·.add 8)) = A8) (hv : EQ w (.slice A y.length c) y) (hl : y.length ≤ 137438953472) : Calls Tryz.prog 94 #[.slice A y.length c] w fun e w' => e = .returned (.tuple #[.slice A8 x.length (c - 8), .bool true]) ∧ Below w.heap.size w w' := by
  have h := Qd w hv hl
  rwa [(IQ hn).1, hn, hA] at h
theorem Cw.first {X : Ass} {y x : List UInt8} {A : Option Addr} {c : Nat} (hX : Cw X (.slice A y.length c) y) (hn : BV y = some x) : Cw X (.slice (if c = 8 then A else A.map (·.add 8)) x.length (c - 8)) x := fun rs w h1 h2 => by
  obtain ⟨_, h3, h4⟩ := IQ (A := A) (c := c) hn
  have h5 := NM (KV (hX rs w h1 h2) (i := 8) (by omega)) (k := x.length) (by rw [List.length_drop]; omega)
  rwa [← h3] at h5
theorem LM {ps q : List (List UInt8)} {x : List UInt8} {j : Nat} (h : x :: q = ps.drop j) : ps[j]? = some x ∧ q = ps.drop (j + 1) ∧ j < ps.length := by
  have h1 : ps[j]? = some x := by
    have := congrArg (·[0]?) h
    simpa using this.symm
  have hlt := (List.getElem?_eq_some_iff.1 h1).1
  refine ⟨h1, ?_, hlt⟩
  rw [List.drop_eq_getElem_cons hlt] at h
  exact (List.cons.inj h).2
theorem LN {ps : List (List UInt8)} {j : Nat} (h : [] = ps.drop j) (hj : j ≤ ps.length) : j = ps.length := by
 have := congrArg List.length h
 rw [List.length_nil, List.length_drop] at this
 omega
theorem S6 {A : Option Addr} {c k : Nat} {l : List UInt8} : Ci 1 (.slice A l.length c) k l.length = .slice (if c = k then A else A.map (·.add k)) (l.drop k).length (c - k) := by
  rw [List.length_drop]; exact J1
theorem Rr (k : Fn) (caps : Array Value) (g : Nat) (X : Ass) (T : Nat → Ass) {A0 : Option Addr} {c0 : Nat} {y : List UInt8} {ps : List (List UInt8)} (hX : Cw X (.slice A0 y.length c0) y) (hl : y.length ≤ 137438953472) (hr : (BD y).1 = ps) {N : Nat} (hN : ps.length = N) (hy : (∀ j A c x, ps[j]? = some x → Cw X (.slice A x.length c) x → Ee Tryz.prog (.func k #[] caps) [.slice A x.length c] [T j, X] (fun _ : Unit => .bool true) (fun _ => [T (j + 1), X]))) : AS Tryz.prog 93 #[.func k #[] caps, .pointer (some ⟨g, 0, none⟩)] [T 0, X, cell g 48 #[.slice A0 y.length c0]] (fun (_ : Unit) => .tuple #[]) (fun (_ : Unit) => [T N, X, cell g 48 #[.slice A0 y.length c0]]) := by
  refine A6 (args := [.func k #[] caps, .pointer (some ⟨g, 0, none⟩)]) 25 Tryz.func93 rfl rfl rfl ?_; intro w rs
  refine Ad ?_
  refine Af As rfl ?_
  refine Ac rfl (.slice A0 y.length c0) (fun b w hb hH => Bg rfl rfl (Bt C3 rfl) (hH.row 2 rfl) hb) ?_
  refine Af As rfl ?_
  refine Ab (AX ?_)
  refine CE (α := Nat × List UInt8 × Option Addr × Nat) (fun ⟨j, l, A, c⟩ => [(0, .func k #[] caps), (3, .slice A l.length c)]) (fun ⟨j, l, A, c⟩ => [T j, X, cell g 48 #[.slice A0 y.length c0]]) (fun ⟨j, l, A, c⟩ => j ≤ ps.length ∧ Cw X (.slice A l.length c) l ∧ (BD l).1 = ps.drop j ∧ l.length ≤ 137438953472) (fun ⟨j, l, A, c⟩ => ps.length - j) (0, y, A0, c0) ⟨Nat.zero_le _, hX, by rw [hr]; rfl, hl⟩ ⟨rfl, rfl, trivial⟩ rfl ?_
  rintro ⟨j, l, A, c⟩ hI
  refine Bo.at_ (env' := [(0, .func k #[] caps), (3, .slice A l.length c)]) (rs' := [T j, X, cell g 48 #[.slice A0 y.length c0]]) ⟨rfl, rfl, trivial⟩ rfl ?_
  have hI1 := hI.1
  have hXl : Cw X (.slice A l.length c) l := hI.2.1
  have hI3 : (BD l).1 = ps.drop j := hI.2.2.1
  have hI4 : l.length ≤ 137438953472 := hI.2.2.2
  clear hI
  refine AX ?_
  rcases hn : BV l with _ | x
  · skip
    rw [CL hn] at hI3
    obtain rfl : j = N := (LN hI3 hI1).trans hN
    refine Ad ?_
    refine Af As rfl ?_
    refine Ai (post := fun _ => [T j, X, cell g 48 #[.slice A0 y.length c0]]) rfl (BQ (Ah Tryz.func94 (by kernel_rfl) rfl) (fun w hH => Pn hn (hH.rd8 1 rfl hXl) hI4) rfl rfl rfl) ?_; rintro ⟨⟩
    refine Af As rfl ?_
    refine Ab (Aq (Ad ?_))
    refine Af As rfl ?_
    refine Ab (AD rfl (Az (CO (Bm (CO (Bm ?_))))))
    exact Kh  (fun w h => AB () rfl [0, 1, 2] rfl h Cz) rfl
  · skip
    obtain ⟨A8, hA8⟩ : ∃ A8, (if c = 8 then A else A.map (·.add 8)) = A8 := ⟨_, rfl⟩
    have hXx : Cw X (.slice A8 x.length (c - 8)) x := by have h3 := hXl.first hn; rwa [hA8] at h3
    have hx3 := (IQ (A := A) (c := c) hn).2.2
    rw [F4 hn] at hI3
    obtain ⟨hpj, hq, hjl⟩ := LM hI3
    have hyj := hy j A8 (c - 8) x hpj hXx
    obtain ⟨l1, hl1⟩ : ∃ l1, l.drop (8 + x.length) = l1 := ⟨_, rfl⟩
    obtain ⟨A1, hA1⟩ : ∃ A1, (if c = 8 + x.length then A else A.map (·.add (8 + x.length))) = A1 := ⟨_, rfl⟩
    obtain ⟨c1, hc1⟩ : ∃ c1, c - (8 + x.length) = c1 := ⟨_, rfl⟩
    have hs1 : Ci 1 (.slice A l.length c) (8 + x.length) l.length = .slice A1 l1.length c1 := by rw [S6, hl1, hA1, hc1]
    have hX1 : Cw X (.slice A1 l1.length c1) l1 := by have h3 := hXl.drop (k := 8 + x.length) (by omega); rwa [hl1, hA1, hc1] at h3
    have hl2 : l1.length ≤ 137438953472 := by rw [← hl1, List.length_drop]; omega
    rw [hl1] at hq
    refine Ad ?_
    refine Af As rfl ?_
    refine Ai (post := fun _ => [T j, X, cell g 48 #[.slice A0 y.length c0]]) rfl (BQ (Ah Tryz.func94 (by kernel_rfl) rfl) (fun w hH => H9 hn hA8 (hH.rd8 1 rfl hXl) hI4) rfl rfl rfl) ?_; rintro ⟨⟩
    refine Af As rfl ?_
    refine Ab (Aq (Aq ?_))
    refine Pi (S0 MA 5 (by rintro ⟨a, w, h⟩; first | exact h.elim | exact nomatch h.1 | (obtain ⟨_, h, _⟩ := h; exact nomatch h)) (by kernel_rfl) ?_)
    refine Af As rfl ?_
    refine Vl ?_
    refine Jr (X := Unit) (post := fun _ => [T (j + 1), X]) (os' := fun _ => [T (j + 1), X, cell g 48 #[.slice A0 y.length c0]]) MA [0, 1] (hyj) rfl rfl rfl rfl rfl rfl (fun _ => rfl) ?_; rintro ⟨⟩
    refine H8 MA (by rintro ⟨a, w, h⟩; first | exact h.elim | exact nomatch h.1 | (obtain ⟨_, h, _⟩ := h; exact nomatch h)) (by kernel_rfl) ?_
    refine Af As rfl ?_
    refine AP (AG (Au rfl (Ax (AG (BI ?_)))))
    refine Af As rfl ?_
    refine Ac rfl (.int .i64 (x.length : Int)) (fun b w hb hH => AQ ((hH.rd8 1 rfl hXx).rd) Tryz.underlying48 rfl rfl hb) ?_
    refine Ac rfl (.int .i64 ((8 + x.length : Nat) : Int)) (fun b w hb hH => AK rfl rfl rfl rfl (by rw [IntWalk.i64_in _ (by omega)]; omega) hb) ?_
    refine Ac rfl (.slice A1 l1.length c1) (fun b w hb hH => FB (i := (8 + x.length)) AC hs1 hx3 rfl rfl rfl hH hb) ?_
    refine Af As rfl ?_
    refine AP (BJ ?_)
    exact Cr (j + 1, l1, A1, c1) 0 ⟨hjl, hX1, hq, hl2⟩ (show ps.length - (j + 1) < ps.length - j by omega) ⟨rfl, rfl, trivial⟩ rfl
theorem Po (k : Fn) (caps : Array Value) (g : Nat) (X : Ass) (T : Nat → Ass) (Z : Ass) {A0 : Option Addr} {c0 : Nat} {y : List UInt8} {ps : List (List UInt8)} (hX : Cw X (.slice A0 y.length c0) y) (hl : y.length ≤ 137438953472) (hr : (BD y).1 = ps) {N : Nat} (hN : N < ps.length) (hy : (∀ j A c x, ps[j]? = some x → j < N → Cw X (.slice A x.length c) x → Ee Tryz.prog (.func k #[] caps) [.slice A x.length c] [T j, X] (fun _ : Unit => .bool true) (fun _ => [T (j + 1), X]))) (hz : (∀ j A c x, ps[j]? = some x → j = N → Cw X (.slice A x.length c) x → Ee Tryz.prog (.func k #[] caps) [.slice A x.length c] [T j, X] (fun _ : Unit => .bool false) (fun _ => [Z, X]))) : AS Tryz.prog 93 #[.func k #[] caps, .pointer (some ⟨g, 0, none⟩)] [T 0, X, cell g 48 #[.slice A0 y.length c0]] (fun (_ : Unit) => .tuple #[]) (fun (_ : Unit) => [Z, X, cell g 48 #[.slice A0 y.length c0]]) := by
  refine A6 (args := [.func k #[] caps, .pointer (some ⟨g, 0, none⟩)]) 25 Tryz.func93 rfl rfl rfl ?_; intro w rs
  refine Ad ?_
  refine Af As rfl ?_
  refine Ac rfl (.slice A0 y.length c0) (fun b w hb hH => Bg rfl rfl (Bt C3 rfl) (hH.row 2 rfl) hb) ?_
  refine Af As rfl ?_
  refine Ab (AX ?_)
  refine CE (α := Nat × List UInt8 × Option Addr × Nat) (fun ⟨j, l, A, c⟩ => [(0, .func k #[] caps), (3, .slice A l.length c)]) (fun ⟨j, l, A, c⟩ => [T j, X, cell g 48 #[.slice A0 y.length c0]]) (fun ⟨j, l, A, c⟩ => j ≤ N ∧ Cw X (.slice A l.length c) l ∧ (BD l).1 = ps.drop j ∧ l.length ≤ 137438953472) (fun ⟨j, l, A, c⟩ => ps.length - j) (0, y, A0, c0) ⟨Nat.zero_le _, hX, by rw [hr]; rfl, hl⟩ ⟨rfl, rfl, trivial⟩ rfl ?_
  rintro ⟨j, l, A, c⟩ hI
  refine Bo.at_ (env' := [(0, .func k #[] caps), (3, .slice A l.length c)]) (rs' := [T j, X, cell g 48 #[.slice A0 y.length c0]]) ⟨rfl, rfl, trivial⟩ rfl ?_
  have hI1 := hI.1
  have hXl : Cw X (.slice A l.length c) l := hI.2.1
  have hI3 : (BD l).1 = ps.drop j := hI.2.2.1
  have hI4 : l.length ≤ 137438953472 := hI.2.2.2
  clear hI
  refine AX ?_
  rcases hn : BV l with _ | x
  · exact absurd (LN (by rw [CL hn] at hI3; exact hI3) (by omega)) (by omega)
  obtain ⟨A8, hA8⟩ : ∃ A8, (if c = 8 then A else A.map (·.add 8)) = A8 := ⟨_, rfl⟩
  have hXx : Cw X (.slice A8 x.length (c - 8)) x := by have h3 := hXl.first hn; rwa [hA8] at h3
  have hx3 := (IQ (A := A) (c := c) hn).2.2
  rw [F4 hn] at hI3
  obtain ⟨hpj, hq, hjl⟩ := LM hI3
  rcases Nat.lt_or_ge j N with hjN | hjN
  · skip
    have hyj := hy j A8 (c - 8) x hpj hjN hXx
    obtain ⟨l1, hl1⟩ : ∃ l1, l.drop (8 + x.length) = l1 := ⟨_, rfl⟩
    obtain ⟨A1, hA1⟩ : ∃ A1, (if c = 8 + x.length then A else A.map (·.add (8 + x.length))) = A1 := ⟨_, rfl⟩
    obtain ⟨c1, hc1⟩ : ∃ c1, c - (8 + x.length) = c1 := ⟨_, rfl⟩
    have hs1 : Ci 1 (.slice A l.length c) (8 + x.length) l.length = .slice A1 l1.length c1 := by rw [S6, hl1, hA1, hc1]
    have hX1 : Cw X (.slice A1 l1.length c1) l1 := by have h3 := hXl.drop (k := 8 + x.length) (by omega); rwa [hl1, hA1, hc1] at h3
    have hl2 : l1.length ≤ 137438953472 := by rw [← hl1, List.length_drop]; omega
    rw [hl1] at hq
    refine Ad ?_
    refine Af As rfl ?_
    refine Ai (post := fun _ => [T j, X, cell g 48 #[.slice A0 y.length c0]]) rfl (BQ (Ah Tryz.func94 (by kernel_rfl) rfl) (fun w hH => H9 hn hA8 (hH.rd8 1 rfl hXl) hI4) rfl rfl rfl) ?_; rintro ⟨⟩
    refine Af As rfl ?_
    refine Ab (Aq (Aq ?_))
    refine Pi (S0 MA 5 (by rintro ⟨a, w, h⟩; first | exact h.elim | exact nomatch h.1 | (obtain ⟨_, h, _⟩ := h; exact nomatch h)) (by kernel_rfl) ?_)
    refine Af As rfl ?_
    refine Vl ?_
    refine Jr (X := Unit) (post := fun _ => [T (j + 1), X]) (os' := fun _ => [T (j + 1), X, cell g 48 #[.slice A0 y.length c0]]) MA [0, 1] (hyj) rfl rfl rfl rfl rfl rfl (fun _ => rfl) ?_; rintro ⟨⟩
    refine H8 MA (by rintro ⟨a, w, h⟩; first | exact h.elim | exact nomatch h.1 | (obtain ⟨_, h, _⟩ := h; exact nomatch h)) (by kernel_rfl) ?_
    refine Af As rfl ?_
    refine AP (AG (Au rfl (Ax (AG (BI ?_)))))
    refine Af As rfl ?_
    refine Ac rfl (.int .i64 (x.length : Int)) (fun b w hb hH => AQ ((hH.rd8 1 rfl hXx).rd) Tryz.underlying48 rfl rfl hb) ?_
    refine Ac rfl (.int .i64 ((8 + x.length : Nat) : Int)) (fun b w hb hH => AK rfl rfl rfl rfl (by rw [IntWalk.i64_in _ (by omega)]; omega) hb) ?_
    refine Ac rfl (.slice A1 l1.length c1) (fun b w hb hH => FB (i := (8 + x.length)) AC hs1 hx3 rfl rfl rfl hH hb) ?_
    refine Af As rfl ?_
    refine AP (BJ ?_)
    exact Cr (j + 1, l1, A1, c1) 0 ⟨hjN, hX1, hq, hl2⟩ (show ps.length - (j + 1) < ps.length - j by omega) ⟨rfl, rfl, trivial⟩ rfl
  · skip
    obtain rfl : j = N := by omega
    have hyj := hz j A8 (c - 8) x hpj rfl hXx
    refine Ad ?_
    refine Af As rfl ?_
    refine Ai (post := fun _ => [T j, X, cell g 48 #[.slice A0 y.length c0]]) rfl (BQ (Ah Tryz.func94 (by kernel_rfl) rfl) (fun w hH => H9 hn hA8 (hH.rd8 1 rfl hXl) hI4) rfl rfl rfl) ?_; rintro ⟨⟩
    refine Af As rfl ?_
    refine Ab (Aq (Aq ?_))
    refine Pi (S0 MA 5 (by rintro ⟨a, w, h⟩; first | exact h.elim | exact nomatch h.1 | (obtain ⟨_, h, _⟩ := h; exact nomatch h)) (by kernel_rfl) ?_)
    refine Af As rfl ?_
    refine Vl ?_
    refine Jr (X := Unit) (post := fun _ => [Z, X]) (os' := fun _ => [Z, X, cell g 48 #[.slice A0 y.length c0]]) MA [0, 1] (hyj) rfl rfl rfl rfl rfl rfl (fun _ => rfl) ?_; rintro ⟨⟩
    refine H8 MA (by rintro ⟨a, w, h⟩; first | exact h.elim | exact nomatch h.1 | (obtain ⟨_, h, _⟩ := h; exact nomatch h)) (by kernel_rfl) ?_
    refine Af As rfl ?_
    refine AP (AG (AD rfl (Az (CO (Bm (CO (Bm ?_)))))))
    exact Kh  (fun w h => AB () rfl [0, 1, 2] rfl h Cz) rfl
theorem HH {A0 : Option Addr} {n c0 : Nat} : AS Tryz.prog 85 #[.slice A0 n c0] [] (fun (g : Nat) => .func (.func 93) #[] #[.pointer (some ⟨g, 0, none⟩)]) (fun (g : Nat) => [cell g 48 #[.slice A0 n c0]]) := by
 refine A6 (args := [.slice A0 n c0]) 4 Tryz.func85 rfl rfl rfl ?_; intro w rs
 refine Ad ?_
 refine Af As rfl ?_
 refine Ai (post := fun g => [cell g 48 #[.slice A0 n c0]]) rfl (CZ (cs := #[.slice A0 n c0]) rfl rfl rfl) ?_; rintro g
 refine Af As rfl ?_
 refine Ab (Ad ?_)
 refine Af As rfl ?_
 refine Ac rfl (.func (.func 93) #[] #[.pointer (some ⟨g, 0, none⟩)]) (fun b w hb hH => R2 rfl rfl hb) ?_
 refine Af As rfl ?_
 refine Ab (Az ?_)
 exact Ay (.tmp rfl) (fun w h => AB g rfl [0] rfl h Cz) rfl
theorem NS {X : Ass} {v : Value} {y : List UInt8} (hX : Cw X v y) (hl : y.length ≤ 137438953472) : AS Tryz.prog 70 #[v] [X] (fun (x : Nat × Value) => .func (.func 84) #[] #[.pointer (some ⟨x.1, 0, none⟩)]) (fun (x : Nat × Value) => [X, cell x.1 48 #[x.2], Ao 5 1 encB x.2 y]) := by
 refine A6 (args := [v]) 7 Tryz.func70 rfl rfl rfl ?_; intro w rs
 refine Ad ?_
 refine Af As rfl ?_
 refine Ab (Ad ?_)
 refine Af As rfl ?_
 refine Ai rfl (Am (os' := fun v9 => [Ao 5 1 encB v9 y, X]) [0] 0 (Ah Tryz.func59 (by kernel_rfl) rfl) (Fx hX (by omega)) rfl rfl rfl (fun _ => rfl) rfl rfl rfl) ?_; rintro v9
 refine Ai (post := fun g => [cell g 48 #[.slice none 0 0], Ao 5 1 encB v9 y, X]) rfl (BL OL rfl) ?_; rintro g
 refine AT (post := fun _ => [cell g 48 #[v9], Ao 5 1 encB v9 y, X]) rfl rfl (Gq 0 1 (v := v9) #[v9] C3.2 rfl (fun _ h => Ao.c1 h) rfl rfl rfl rfl rfl rfl rfl) ?_; rintro ⟨⟩
 refine Ab (Ad ?_)
 refine Af As rfl ?_
 refine Ac rfl (.func (.func 84) #[] #[.pointer (some ⟨g, 0, none⟩)]) (fun b w hb hH => R2 rfl rfl hb) ?_
 refine Af As rfl ?_
 refine Ab (Az ?_)
 exact Ay (.tmp rfl) (fun w h => AB (g, v9) rfl [2, 0, 1] rfl h Cz) rfl
end Go.Proofs.YtnknboibmifacaaGreat.Sep
namespace Go.Proofs.YtnknboibmifacaaGreat.Sep
open Go.RowKit
open Go.Proofs.YtnknboibmifacaaGreat.Mem (Bd Cj Chg AF)
def F8 (gy : Nat) (f : Value) (X : Ass) : Ass := fun rs => Al [cell gy 126 #[f], X] rs
theorem F8.open_ {gy : Nat} {f : Value} {X : Ass} : ∀ rs, F8 gy f X rs → ∃ _ : Unit, Al [cell gy 126 #[f], X] rs := fun _ h => ⟨(), h⟩
theorem IR {gy : Nat} {f : Value} (X : Ass) : ∀ rs, Al [cell gy 126 #[f], X] rs → F8 gy f X rs := fun _ h => h
theorem V6 (k : Fn) (caps : Array Value) (g : Nat) (T : Nat → Ass) {A0 : Option Addr} {c0 : Nat} {y : List UInt8} {ps : List (List UInt8)} {N : Nat} (hl : y.length ≤ 137438953472) (hr : (BD y).1 = ps) (hlen : ∀ x, x ∈ ps → x.length ≤ 65536) (hN : ps.length = N) (hyy : ∀ j x d, ps[j]? = some x → Ee Tryz.prog (.func k #[] caps) [d] [T j, Ao 5 1 encB d x] (fun _ : Unit => .bool true) (fun _ : Unit => [T (j + 1)])) : AS Tryz.prog 84 #[.func k #[] caps, .pointer (some ⟨g, 0, none⟩)] [T 0, Ao 5 1 encB (.slice A0 y.length c0) y, cell g 48 #[.slice A0 y.length c0]] (fun (_ : Unit) => .tuple #[]) (fun (_ : Unit) => [T N, Ao 5 1 encB (.slice A0 y.length c0) y, cell g 48 #[.slice A0 y.length c0]]) := by
  refine ME (args := [.func k #[] caps, .pointer (some ⟨g, 0, none⟩)]) 14 Tryz.func84 rfl rfl rfl ?_; intro w rs
  refine Ad ?_
  refine Af As rfl ?_
  refine Ai (post := fun gy => [cell gy 126 #[.func k #[] caps], T 0, Ao 5 1 encB (.slice A0 y.length c0) y, cell g 48 #[.slice A0 y.length c0]]) rfl (CZ (cs := #[.func k #[] caps]) rfl rfl rfl) ?_; rintro gy
  refine Ab (Aq (Ad ?_))
  refine Af As rfl ?_
  refine Ac rfl (.func k #[] caps) (fun b w hb hH => Bg rfl rfl (Bt Co rfl) (hH.row 0 rfl) hb) ?_
  refine Ac rfl (.bool false) (fun b w hb hH => HG Tryz.underlying126 rfl rfl rfl hb) ?_
  refine Ab (Au rfl (Ax (AG ?_)))
  refine Bf [0, 1] rfl (IR (T 0)) rfl ?_
  refine Ad ?_
  refine Af As rfl ?_
  refine Ac rfl (.slice A0 y.length c0) (fun b w hb hH => Bg rfl rfl (Bt C3 rfl) (hH.row 2 rfl) hb) ?_
  refine Ai rfl (Am (os' := fun g2 => [cell g2 48 #[.slice A0 y.length c0], F8 gy (.func k #[] caps) (T 0), Ao 5 1 encB (.slice A0 y.length c0) y, cell g 48 #[.slice A0 y.length c0]]) [] 0 (Ah Tryz.func85 (by kernel_rfl) rfl) (HH) rfl rfl rfl (fun _ => rfl) rfl rfl rfl) ?_; rintro g2
  refine Ab (AX ?_)
  refine Bo.keep (env' := [(0, .func k #[] caps), (1, .pointer (some ⟨g, 0, none⟩)), (2, .pointer (some ⟨gy, 0, none⟩)), (4, .func k #[] caps), (5, .bool false), (6, .slice A0 y.length c0), (7, .func (.func 93) #[] #[.pointer (some ⟨g2, 0, none⟩)])]) ⟨rfl, rfl, rfl, rfl, rfl, rfl, rfl, trivial⟩ ?_
  refine Bo.mid [cell g2 48 #[.slice A0 y.length c0], F8 gy (.func k #[] caps) (T 0), Ao 5 1 encB (.slice A0 y.length c0) y, cell g 48 #[.slice A0 y.length c0]] (.refl _) ?_
  refine Hg (caps := [.pointer (some ⟨g2, 0, none⟩)]) (post := [F8 gy (.func k #[] caps) (T N), Ao 5 1 encB (.slice A0 y.length c0) y, cell g2 48 #[.slice A0 y.length c0]]) (os' := [F8 gy (.func k #[] caps) (T N), Ao 5 1 encB (.slice A0 y.length c0) y, cell g2 48 #[.slice A0 y.length c0], cell g 48 #[.slice A0 y.length c0]]) (.normal) [1, 2, 0] rfl (Ah Tryz.func93 (by kernel_rfl) rfl) (fun L1 fn1 tm1 hf1 r1 k11 k12 k13 k14 k15 k16 => Qf (Rr (.yield L1) #[] g2 (Ao 5 1 encB (.slice A0 y.length c0) y) (fun j => JT L1 r1 (F8 gy (.func k #[] caps) (T j))) CQ hl hr hN ?_)) rfl rfl rfl ?_
  · skip
    intro j A c x hpj hXx
    have hxl : x.length ≤ 65536 := hlen x (List.mem_of_getElem? hpj)
    refine LK (D2 (n := 14) (env := [(8, .slice A x.length c), (0, .func k #[] caps), (1, .pointer (some ⟨g, 0, none⟩)), (2, .pointer (some ⟨gy, 0, none⟩)), (4, .func k #[] caps), (5, .bool false), (6, .slice A0 y.length c0), (7, .func (.func 93) #[] #[.pointer (some ⟨g2, 0, none⟩)])]) (.normal) k12 k11 (by rw [k14]; rfl) ?_ ?_)
    · rw [k14, k13]
      refine (congrArg (fun t => Fr 14 { tmps := t, defers := [] } _) (?_ : _ = (tm1.setIfInBounds 8 (.slice A x.length c)))).mpr (hf1.put (d := 8) (by decide) _)
      simp
    · intro w0 rs
      rw [k15]
      refine ER (by kernel_rfl) (by rintro ⟨a, w, h⟩; first | exact h.elim | exact nomatch h.1 | (obtain ⟨_, h, _⟩ := h; exact nomatch h)) ?_
      refine Af As rfl ?_
      refine AP ?_
      refine Hf 0 rfl k11 ?_
      rw [k16]
      refine KX 1 rfl F8.open_ (fun _ => rfl) ?_; rintro ⟨⟩
      refine He ?_
      refine Ft ?_
      refine Pk 1 rfl ?_
      refine Pj 3 1 [⟨.quiet, [none], fun _ => .func k #[] caps, []⟩, ⟨.quiet, [none], fun _ => .slice A x.length c, []⟩, ⟨.act 0, [some false], fun _ => undef, [1]⟩] [(2, .pointer (some ⟨gy, 0, none⟩)), (3, .slice A x.length c)] (fun ρ => match ρ with | [r0] => [CP r0 (fun d1 => Ao 5 1 encB d1 x) (E0), cell gy 126 #[.func k #[] caps], T j, Cy L1 (CN r1), Ao 5 1 encB (.slice A0 y.length c0) y] | _ => []) (by kernel_rfl) (by kernel_rfl) (by kernel_rfl) ⟨rfl, rfl, trivial⟩ rfl ?_ ?_
      · skip
        refine Aa (by intro r0_; exact ⟨rfl, fun b w hH hb => Bg rfl rfl (Bt Co rfl) (hH.row 1 rfl) hb⟩) ?_
        refine Aa (by intro r0_; exact ⟨rfl, fun b w hH hb => Ae As rfl hb⟩) ?_
        refine Aa (by exact ⟨rfl, Br.s (Am (os' := fun d1 => [Ao 5 1 encB d1 x, cell gy 126 #[.func k #[] caps], T j, Cy L1 (CN r1), Ao 5 1 encB (.slice A0 y.length c0) y]) [4, 0] 1 (Ah Tryz.func59 (by kernel_rfl) rfl) (Fx hXx (by omega)) rfl rfl rfl (fun _ => rfl) rfl rfl rfl) (fun _ => rfl)⟩) ?_
        exact B7
      intro d1
      refine NP.keep (env' := [(9, .func k #[] caps), (11, d1)]) ⟨rfl, rfl, trivial⟩ ?_
      refine Jr (X := Unit) (post := fun _ => [T (j + 1)]) (os' := fun _ => [T (j + 1), cell gy 126 #[.func k #[] caps], Cy L1 (CN r1), Ao 5 1 encB (.slice A0 y.length c0) y]) NN [2, 0] (hyy j x d1 hpj) rfl rfl rfl rfl rfl rfl (fun _ => rfl) ?_; rintro ⟨⟩
      refine H8 NN (by rintro ⟨a, w, h⟩; first | exact h.elim | exact nomatch h.1 | (obtain ⟨_, h, _⟩ := h; exact nomatch h)) (by kernel_rfl) ?_
      refine Af As rfl ?_
      refine AP ?_
      refine Jt ?_
      refine MB rfl ?_
      refine MC ?_
      refine BJ ?_
      refine Ip [1, 0] rfl (IR (T (j + 1))) rfl ?_
      exact Ju [1, 0, 2] rfl rfl
  intro D aT wT hD hD0 hd hF hH
  obtain ⟨_, hH⟩ := J5 0 rfl F8.open_ hH
  exact S5 (e := .normal) rfl (fun w' h => AB (X := Unit) (val := fun _ => .tuple #[]) (post := fun _ => [T N, Ao 5 1 encB (.slice A0 y.length c0) y, cell g 48 #[.slice A0 y.length c0]]) (os := [cell gy 126 #[.func k #[] caps], T N, Ao 5 1 encB (.slice A0 y.length c0) y, cell g2 48 #[.slice A0 y.length c0], cell g 48 #[.slice A0 y.length c0]]) () rfl [1, 2, 4] rfl h Cz) (by simp) D aT wT hD hD0 hd hF hH
theorem VZ (k : Fn) (caps : Array Value) (g : Nat) (T : Nat → Ass) (Z : Ass) {A0 : Option Addr} {c0 : Nat} {y : List UInt8} {ps : List (List UInt8)} {N : Nat} (hl : y.length ≤ 137438953472) (hr : (BD y).1 = ps) (hlen : ∀ x, x ∈ ps → x.length ≤ 65536) (hN : N < ps.length) (hyy : ∀ j x d, ps[j]? = some x → j < N → Ee Tryz.prog (.func k #[] caps) [d] [T j, Ao 5 1 encB d x] (fun _ : Unit => .bool true) (fun _ : Unit => [T (j + 1)])) (hzz : ∀ j x d, ps[j]? = some x → j = N → Ee Tryz.prog (.func k #[] caps) [d] [T j, Ao 5 1 encB d x] (fun _ : Unit => .bool false) (fun _ : Unit => [Z])) : AS Tryz.prog 84 #[.func k #[] caps, .pointer (some ⟨g, 0, none⟩)] [T 0, Ao 5 1 encB (.slice A0 y.length c0) y, cell g 48 #[.slice A0 y.length c0]] (fun (_ : Unit) => .tuple #[]) (fun (_ : Unit) => [Z, Ao 5 1 encB (.slice A0 y.length c0) y, cell g 48 #[.slice A0 y.length c0]]) := by
  refine ME (args := [.func k #[] caps, .pointer (some ⟨g, 0, none⟩)]) 14 Tryz.func84 rfl rfl rfl ?_; intro w rs
  refine Ad ?_
  refine Af As rfl ?_
  refine Ai (post := fun gy => [cell gy 126 #[.func k #[] caps], T 0, Ao 5 1 encB (.slice A0 y.length c0) y, cell g 48 #[.slice A0 y.length c0]]) rfl (CZ (cs := #[.func k #[] caps]) rfl rfl rfl) ?_; rintro gy
  refine Ab (Aq (Ad ?_))
  refine Af As rfl ?_
  refine Ac rfl (.func k #[] caps) (fun b w hb hH => Bg rfl rfl (Bt Co rfl) (hH.row 0 rfl) hb) ?_
  refine Ac rfl (.bool false) (fun b w hb hH => HG Tryz.underlying126 rfl rfl rfl hb) ?_
  refine Ab (Au rfl (Ax (AG ?_)))
  refine Bf [0, 1] rfl (IR (T 0)) rfl ?_
  refine Ad ?_
  refine Af As rfl ?_
  refine Ac rfl (.slice A0 y.length c0) (fun b w hb hH => Bg rfl rfl (Bt C3 rfl) (hH.row 2 rfl) hb) ?_
  refine Ai rfl (Am (os' := fun g2 => [cell g2 48 #[.slice A0 y.length c0], F8 gy (.func k #[] caps) (T 0), Ao 5 1 encB (.slice A0 y.length c0) y, cell g 48 #[.slice A0 y.length c0]]) [] 0 (Ah Tryz.func85 (by kernel_rfl) rfl) (HH) rfl rfl rfl (fun _ => rfl) rfl rfl rfl) ?_; rintro g2
  refine Ab (AX ?_)
  refine Bo.keep (env' := [(0, .func k #[] caps), (1, .pointer (some ⟨g, 0, none⟩)), (2, .pointer (some ⟨gy, 0, none⟩)), (4, .func k #[] caps), (5, .bool false), (6, .slice A0 y.length c0), (7, .func (.func 93) #[] #[.pointer (some ⟨g2, 0, none⟩)])]) ⟨rfl, rfl, rfl, rfl, rfl, rfl, rfl, trivial⟩ ?_
  refine Bo.mid [cell g2 48 #[.slice A0 y.length c0], F8 gy (.func k #[] caps) (T 0), Ao 5 1 encB (.slice A0 y.length c0) y, cell g 48 #[.slice A0 y.length c0]] (.refl _) ?_
  refine Hg (caps := [.pointer (some ⟨g2, 0, none⟩)]) (post := [F8 gy (.func k #[] caps) Z, Ao 5 1 encB (.slice A0 y.length c0) y, cell g2 48 #[.slice A0 y.length c0]]) (os' := [F8 gy (.func k #[] caps) Z, Ao 5 1 encB (.slice A0 y.length c0) y, cell g2 48 #[.slice A0 y.length c0], cell g 48 #[.slice A0 y.length c0]]) (.ret) [1, 2, 0] rfl (Ah Tryz.func93 (by kernel_rfl) rfl) (fun L1 fn1 tm1 hf1 r1 k11 k12 k13 k14 k15 k16 => Qf (Po (.yield L1) #[] g2 (Ao 5 1 encB (.slice A0 y.length c0) y) (fun j => JT L1 r1 (F8 gy (.func k #[] caps) (T j))) (JT L1 (KY .ret r1) (F8 gy (.func k #[] caps) Z)) CQ hl hr hN ?_ ?_)) rfl rfl rfl ?_
  · skip
    intro j A c x hpj hjN hXx
    have hxl : x.length ≤ 65536 := hlen x (List.mem_of_getElem? hpj)
    refine LK (D2 (n := 14) (env := [(8, .slice A x.length c), (0, .func k #[] caps), (1, .pointer (some ⟨g, 0, none⟩)), (2, .pointer (some ⟨gy, 0, none⟩)), (4, .func k #[] caps), (5, .bool false), (6, .slice A0 y.length c0), (7, .func (.func 93) #[] #[.pointer (some ⟨g2, 0, none⟩)])]) (.normal) k12 k11 (by rw [k14]; rfl) ?_ ?_)
    · rw [k14, k13]
      refine (congrArg (fun t => Fr 14 { tmps := t, defers := [] } _) (?_ : _ = (tm1.setIfInBounds 8 (.slice A x.length c)))).mpr (hf1.put (d := 8) (by decide) _)
      simp
    · intro w0 rs
      rw [k15]
      refine ER (by kernel_rfl) (by rintro ⟨a, w, h⟩; first | exact h.elim | exact nomatch h.1 | (obtain ⟨_, h, _⟩ := h; exact nomatch h)) ?_
      refine Af As rfl ?_
      refine AP ?_
      refine Hf 0 rfl k11 ?_
      rw [k16]
      refine KX 1 rfl F8.open_ (fun _ => rfl) ?_; rintro ⟨⟩
      refine He ?_
      refine Ft ?_
      refine Pk 1 rfl ?_
      refine Pj 3 1 [⟨.quiet, [none], fun _ => .func k #[] caps, []⟩, ⟨.quiet, [none], fun _ => .slice A x.length c, []⟩, ⟨.act 0, [some false], fun _ => undef, [1]⟩] [(2, .pointer (some ⟨gy, 0, none⟩)), (3, .slice A x.length c)] (fun ρ => match ρ with | [r0] => [CP r0 (fun d1 => Ao 5 1 encB d1 x) (E0), cell gy 126 #[.func k #[] caps], T j, Cy L1 (CN r1), Ao 5 1 encB (.slice A0 y.length c0) y] | _ => []) (by kernel_rfl) (by kernel_rfl) (by kernel_rfl) ⟨rfl, rfl, trivial⟩ rfl ?_ ?_
      · skip
        refine Aa (by intro r0_; exact ⟨rfl, fun b w hH hb => Bg rfl rfl (Bt Co rfl) (hH.row 1 rfl) hb⟩) ?_
        refine Aa (by intro r0_; exact ⟨rfl, fun b w hH hb => Ae As rfl hb⟩) ?_
        refine Aa (by exact ⟨rfl, Br.s (Am (os' := fun d1 => [Ao 5 1 encB d1 x, cell gy 126 #[.func k #[] caps], T j, Cy L1 (CN r1), Ao 5 1 encB (.slice A0 y.length c0) y]) [4, 0] 1 (Ah Tryz.func59 (by kernel_rfl) rfl) (Fx hXx (by omega)) rfl rfl rfl (fun _ => rfl) rfl rfl rfl) (fun _ => rfl)⟩) ?_
        exact B7
      intro d1
      refine NP.keep (env' := [(9, .func k #[] caps), (11, d1)]) ⟨rfl, rfl, trivial⟩ ?_
      refine Jr (X := Unit) (post := fun _ => [T (j + 1)]) (os' := fun _ => [T (j + 1), cell gy 126 #[.func k #[] caps], Cy L1 (CN r1), Ao 5 1 encB (.slice A0 y.length c0) y]) NN [2, 0] (hyy j x d1 hpj hjN) rfl rfl rfl rfl rfl rfl (fun _ => rfl) ?_; rintro ⟨⟩
      refine H8 NN (by rintro ⟨a, w, h⟩; first | exact h.elim | exact nomatch h.1 | (obtain ⟨_, h, _⟩ := h; exact nomatch h)) (by kernel_rfl) ?_
      refine Af As rfl ?_
      refine AP ?_
      refine Jt ?_
      refine MB rfl ?_
      refine MC ?_
      refine BJ ?_
      refine Ip [1, 0] rfl (IR (T (j + 1))) rfl ?_
      exact Ju [1, 0, 2] rfl rfl
  · skip
    intro j A c x hpj hjN hXx
    have hxl : x.length ≤ 65536 := hlen x (List.mem_of_getElem? hpj)
    refine LK (D2 (n := 14) (env := [(8, .slice A x.length c), (0, .func k #[] caps), (1, .pointer (some ⟨g, 0, none⟩)), (2, .pointer (some ⟨gy, 0, none⟩)), (4, .func k #[] caps), (5, .bool false), (6, .slice A0 y.length c0), (7, .func (.func 93) #[] #[.pointer (some ⟨g2, 0, none⟩)])]) (.ret) k12 k11 (by rw [k14]; rfl) ?_ ?_)
    · rw [k14, k13]
      refine (congrArg (fun t => Fr 14 { tmps := t, defers := [] } _) (?_ : _ = (tm1.setIfInBounds 8 (.slice A x.length c)))).mpr (hf1.put (d := 8) (by decide) _)
      simp
    · intro w0 rs
      rw [k15]
      refine ER (by kernel_rfl) (by rintro ⟨a, w, h⟩; first | exact h.elim | exact nomatch h.1 | (obtain ⟨_, h, _⟩ := h; exact nomatch h)) ?_
      refine Af As rfl ?_
      refine AP ?_
      refine Hf 0 rfl k11 ?_
      rw [k16]
      refine KX 1 rfl F8.open_ (fun _ => rfl) ?_; rintro ⟨⟩
      refine He ?_
      refine Ft ?_
      refine Pk 1 rfl ?_
      refine Pj 3 1 [⟨.quiet, [none], fun _ => .func k #[] caps, []⟩, ⟨.quiet, [none], fun _ => .slice A x.length c, []⟩, ⟨.act 0, [some false], fun _ => undef, [1]⟩] [(2, .pointer (some ⟨gy, 0, none⟩)), (3, .slice A x.length c)] (fun ρ => match ρ with | [r0] => [CP r0 (fun d1 => Ao 5 1 encB d1 x) (E0), cell gy 126 #[.func k #[] caps], T j, Cy L1 (CN r1), Ao 5 1 encB (.slice A0 y.length c0) y] | _ => []) (by kernel_rfl) (by kernel_rfl) (by kernel_rfl) ⟨rfl, rfl, trivial⟩ rfl ?_ ?_
      · skip
        refine Aa (by intro r0_; exact ⟨rfl, fun b w hH hb => Bg rfl rfl (Bt Co rfl) (hH.row 1 rfl) hb⟩) ?_
        refine Aa (by intro r0_; exact ⟨rfl, fun b w hH hb => Ae As rfl hb⟩) ?_
        refine Aa (by exact ⟨rfl, Br.s (Am (os' := fun d1 => [Ao 5 1 encB d1 x, cell gy 126 #[.func k #[] caps], T j, Cy L1 (CN r1), Ao 5 1 encB (.slice A0 y.length c0) y]) [4, 0] 1 (Ah Tryz.func59 (by kernel_rfl) rfl) (Fx hXx (by omega)) rfl rfl rfl (fun _ => rfl) rfl rfl rfl) (fun _ => rfl)⟩) ?_
        exact B7
      intro d1
      refine NP.keep (env' := [(9, .func k #[] caps), (11, d1)]) ⟨rfl, rfl, trivial⟩ ?_
      refine Jr (X := Unit) (post := fun _ => [Z]) (os' := fun _ => [Z, cell gy 126 #[.func k #[] caps], Cy L1 (CN r1), Ao 5 1 encB (.slice A0 y.length c0) y]) NN [2, 0] (hzz j x d1 hpj hjN) rfl rfl rfl rfl rfl rfl (fun _ => rfl) ?_; rintro ⟨⟩
      refine H8 NN (by rintro ⟨a, w, h⟩; first | exact h.elim | exact nomatch h.1 | (obtain ⟨_, h, _⟩ := h; exact nomatch h)) (by kernel_rfl) ?_
      refine Af As rfl ?_
      refine AP ?_
      refine Jt ?_
      refine S1 rfl ?_
      refine VX ?_
      refine Bm ?_
      refine Ip [1, 0] rfl (IR Z) rfl ?_
      exact Ju [1, 0, 2] rfl rfl
  intro D aT wT hD hD0 hd hF hH
  obtain ⟨_, hH⟩ := J5 0 rfl F8.open_ hH
  exact S5 (e := .ret) rfl (fun w' h => AB (X := Unit) (val := fun _ => .tuple #[]) (post := fun _ => [Z, Ao 5 1 encB (.slice A0 y.length c0) y, cell g 48 #[.slice A0 y.length c0]]) (os := [cell gy 126 #[.func k #[] caps], Z, Ao 5 1 encB (.slice A0 y.length c0) y, cell g2 48 #[.slice A0 y.length c0], cell g 48 #[.slice A0 y.length c0]]) () rfl [1, 2, 4] rfl h Cz) (by simp) D aT wT hD hD0 hd hF hH
end Go.Proofs.YtnknboibmifacaaGreat.Sep
namespace Go.Proofs.YtnknboibmifacaaGreat.Sep
def Cp (ps : List (List UInt8)) : Nat := (ps.map fun x => 8 + x.length).sum
theorem Hh {ps : List (List UInt8)} {j : Nat} {x : List UInt8} (h : ps[j]? = some x) : Cp (ps.take (j + 1)) = Cp (ps.take j) + (8 + x.length) := by
 unfold Cp
 have hlt := (List.getElem?_eq_some_iff.1 h).1
 rw [List.take_add_one, h]
 simp
theorem J6 (ps : List (List UInt8)) (j : Nat) : Cp (ps.take j) ≤ Cp ps := by
 have h : Cp ps = Cp (ps.take j) + Cp (ps.drop j) := by
  unfold Cp
  rw [← List.sum_append, ← List.map_append, List.take_append_drop]
 omega
theorem LO (x : List UInt8) (ps : List (List UInt8)) : Cp (x :: ps) = 8 + x.length + Cp ps := by simp [Cp]
theorem FK : ∀ (k : Nat) (b : List UInt8), (D0 k b).2 = Cp (D0 k b).1
  | 0, _ => rfl
  | k + 1, b => by
    simp only [D0]
    cases h : BV b with
    | none => rfl
    | some x => rw [LO]; simp only [← FK k]
end Go.Proofs.YtnknboibmifacaaGreat.Sep
namespace Go.Proofs.YtnknboibmifacaaGreat.Sep
open Go.RowKit
open Go.Proofs.YtnknboibmifacaaGreat.Mem (Bd Cj Chg AF)
end Go.Proofs.YtnknboibmifacaaGreat.Sep
namespace Go.Proofs.YtnknboibmifacaaGreat.Sep
open Go.RowKit
open Go.Proofs.YtnknboibmifacaaGreat.Mem (Bd Cj Chg AF)
theorem Vp : ((Be []).length : Int) = 8 := by rw [D1 (by simp)]; rfl
section
variable {P : Program} {n : Nat} {B : Nat → Prop} {w0 w : World} {os : List Ass} {env : List (Nat × Value)} {o : Oper} {act : Act}
theorem Qh (i : Nat) {t e : TypeId} {v : Value} (hu : P.underlying t = some (.slice e)) (hi : os[i]? = some (Ao e 1 encB v (Be []))) {x : Operand} (ho : o.op = .call { callee := .builtin .len, args := #[x], argTypes := #[t] }) (hx : evs env x = some v) (hH : Hp B w0 w os) (hF : Fr n act env) : (execOp act.eval o).run P w = .ok (.value (.int .i64 8)) w := by
 have h := C2 i hu hi ho hx hH hF
 rw [Vp] at h
 exact h
end
end Go.Proofs.YtnknboibmifacaaGreat.Sep
