/-
  SgA · SgB · SgM · TyS · SgC
-/
import Derived.Test.YtnknboibmifacaaGreatPB01
import Derived.Test.YtnknboibmifacaaGreatPB02
import Derived.Test.YtnknboibmifacaaGreatPG01
import Derived.Test.YtnknboibmifacaaGreatPH01
set_option linter.unusedSimpArgs false
set_option linter.unusedVariables false
set_option maxRecDepth 100000
namespace Go.Proofs.YtnknboibmifacaaGreat.Sep
open Go.RowKit
open Go.Proofs.YtnknboibmifacaaGreat.Mem (Bl Co Chg AG)
theorem PB {w : World} {y : List UInt8} {A : Option Addr} {c : Nat} (hn : B1 y = none) (hv : Fw w (.slice A y.length c) y) (hl : y.length ≤ 137438953472) : Calls Tryz.prog 94 #[.slice A y.length c] w fun e w' => e = .returned (.tuple #[Pq A c y, .bool false]) ∧ Below w.heap.size w w' := by
 have h := Qu w hv hl
 rwa [hn] at h
theorem Jd {A : Option Addr} {c : Nat} {y x : List UInt8} (hn : B1 y = some x) : Pq A c y = .slice (if c = 8 then A else A.map (·.add 8)) x.length (c - 8) ∧ x = (y.drop 8).take x.length ∧ 8 + x.length ≤ y.length := by
  have hx := G3 hn
  unfold B1 at hn
  split at hn
  · rename_i h
    cases hn
    refine ⟨?_, ?_, hx.1⟩
    · unfold Pq
      rw [if_pos ⟨h.1, h.2.1, h.2.2.1⟩, List.length_take, List.length_drop, Nat.min_eq_left (by omega)]
    · rw [List.length_take, List.length_drop, Nat.min_eq_left (by omega)]
  · cases hn
theorem Ir {w : World} {y x : List UInt8} {A A8 : Option Addr} {c : Nat} (hn : B1 y = some x) (hA : (if c = 8 then A else A.map (·.add 8)) = A8) (hv : Fw w (.slice A y.length c) y) (hl : y.length ≤ 137438953472) : Calls Tryz.prog 94 #[.slice A y.length c] w fun e w' => e = .returned (.tuple #[.slice A8 x.length (c - 8), .bool true]) ∧ Below w.heap.size w w' := by
  have h := Qu w hv hl
  rwa [(Jd hn).1, hn, hA] at h
theorem CX.first {X : Ass} {y x : List UInt8} {A : Option Addr} {c : Nat} (hX : CX X (.slice A y.length c) y) (hn : B1 y = some x) : CX X (.slice (if c = 8 then A else A.map (·.add 8)) x.length (c - 8)) x := fun rs w h1 h2 => by
  obtain ⟨_, h3, h4⟩ := Jd (A := A) (c := c) hn
  have h5 := N3 (Lf (hX rs w h1 h2) (i := 8) (by omega)) (k := x.length) (by rw [List.length_drop]; omega)
  rwa [← h3] at h5
theorem L8 {ps q : List (List UInt8)} {x : List UInt8} {j : Nat} (h : x :: q = ps.drop j) : ps[j]? = some x ∧ q = ps.drop (j + 1) ∧ j < ps.length := by
  have h1 : ps[j]? = some x := by
    have := congrArg (·[0]?) h
    simpa using this.symm
  have hlt := (List.getElem?_eq_some_iff.1 h1).1
  refine ⟨h1, ?_, hlt⟩
  rw [List.drop_eq_getElem_cons hlt] at h
  exact (List.cons.inj h).2
theorem L9 {ps : List (List UInt8)} {j : Nat} (h : [] = ps.drop j) (hj : j ≤ ps.length) : j = ps.length := by
 have := congrArg List.length h
 rw [List.length_nil, List.length_drop] at this
 omega
theorem Tl {A : Option Addr} {c k : Nat} {l : List UInt8} : Cm 1 (.slice A l.length c) k l.length = .slice (if c = k then A else A.map (·.add k)) (l.drop k).length (c - k) := by
  rw [List.length_drop]; exact Kk
theorem RJ (k : Fn) (caps : Array Value) (g : Nat) (X : Ass) (T : Nat → Ass) {A0 : Option Addr} {c0 : Nat} {y : List UInt8} {ps : List (List UInt8)} (hX : CX X (.slice A0 y.length c0) y) (hl : y.length ≤ 137438953472) (hr : (BK y).1 = ps) {N : Nat} (hN : ps.length = N) (hy : (∀ j A c x, ps[j]? = some x → CX X (.slice A x.length c) x → Er Tryz.prog (.func k #[] caps) [.slice A x.length c] [T j, X] (fun _ : Unit => .bool true) (fun _ => [T (j + 1), X]))) : AU Tryz.prog 93 #[.func k #[] caps, .pointer (some ⟨g, 0, none⟩)] [T 0, X, cell g 48 #[.slice A0 y.length c0]] (fun (_ : Unit) => .tuple #[]) (fun (_ : Unit) => [T N, X, cell g 48 #[.slice A0 y.length c0]]) := by
  refine Bd (args := [.func k #[] caps, .pointer (some ⟨g, 0, none⟩)]) 25 Tryz.func93 rfl rfl rfl ?_; intro w rs
  refine Ad ?_
  refine Ae Aw rfl ?_
  refine Ab rfl (.slice A0 y.length c0) (fun b w hb hH => A6 rfl rfl (Bk C3 rfl) (hH.row 2 rfl) hb) ?_
  refine Ae Aw rfl ?_
  refine Aa (Bb ?_)
  refine CO (α := Nat × List UInt8 × Option Addr × Nat) (fun ⟨j, l, A, c⟩ => [(0, .func k #[] caps), (3, .slice A l.length c)]) (fun ⟨j, l, A, c⟩ => [T j, X, cell g 48 #[.slice A0 y.length c0]]) (fun ⟨j, l, A, c⟩ => j ≤ ps.length ∧ CX X (.slice A l.length c) l ∧ (BK l).1 = ps.drop j ∧ l.length ≤ 137438953472) (fun ⟨j, l, A, c⟩ => ps.length - j) (0, y, A0, c0) ⟨Nat.zero_le _, hX, by rw [hr]; rfl, hl⟩ ⟨rfl, rfl, trivial⟩ rfl ?_
  rintro ⟨j, l, A, c⟩ hI
  refine Bv.at_ (env' := [(0, .func k #[] caps), (3, .slice A l.length c)]) (rs' := [T j, X, cell g 48 #[.slice A0 y.length c0]]) ⟨rfl, rfl, trivial⟩ rfl ?_
  have hI1 := hI.1
  have hXl : CX X (.slice A l.length c) l := hI.2.1
  have hI3 : (BK l).1 = ps.drop j := hI.2.2.1
  have hI4 : l.length ≤ 137438953472 := hI.2.2.2
  clear hI
  refine Bb ?_
  rcases hn : B1 l with _ | x
  · skip
    rw [C6 hn] at hI3
    obtain rfl : j = N := (L9 hI3 hI1).trans hN
    refine Ad ?_
    refine Ae Aw rfl ?_
    refine Aj (post := fun _ => [T j, X, cell g 48 #[.slice A0 y.length c0]]) rfl (By (Ah Tryz.func94 (by kernel_rfl) rfl) (fun w hH => PB hn (hH.rd8 1 rfl hXl) hI4) rfl rfl rfl) ?_; rintro ⟨⟩
    refine Ae Aw rfl ?_
    refine Aa (Aq (Ad ?_))
    refine Ae Aw rfl ?_
    refine Aa (AC rfl (Ay (CM (Bw (CM (Bw ?_))))))
    exact Kz  (fun w h => AB () rfl [0, 1, 2] rfl h Cl) rfl
  · skip
    obtain ⟨A8, hA8⟩ : ∃ A8, (if c = 8 then A else A.map (·.add 8)) = A8 := ⟨_, rfl⟩
    have hXx : CX X (.slice A8 x.length (c - 8)) x := by have h3 := hXl.first hn; rwa [hA8] at h3
    have hx3 := (Jd (A := A) (c := c) hn).2.2
    rw [Gx hn] at hI3
    obtain ⟨hpj, hq, hjl⟩ := L8 hI3
    have hyj := hy j A8 (c - 8) x hpj hXx
    obtain ⟨l1, hl1⟩ : ∃ l1, l.drop (8 + x.length) = l1 := ⟨_, rfl⟩
    obtain ⟨A1, hA1⟩ : ∃ A1, (if c = 8 + x.length then A else A.map (·.add (8 + x.length))) = A1 := ⟨_, rfl⟩
    obtain ⟨c1, hc1⟩ : ∃ c1, c - (8 + x.length) = c1 := ⟨_, rfl⟩
    have hs1 : Cm 1 (.slice A l.length c) (8 + x.length) l.length = .slice A1 l1.length c1 := by rw [Tl, hl1, hA1, hc1]
    have hX1 : CX X (.slice A1 l1.length c1) l1 := by have h3 := hXl.drop (k := 8 + x.length) (by omega); rwa [hl1, hA1, hc1] at h3
    have hl2 : l1.length ≤ 137438953472 := by rw [← hl1, List.length_drop]; omega
    rw [hl1] at hq
    refine Ad ?_
    refine Ae Aw rfl ?_
    refine Aj (post := fun _ => [T j, X, cell g 48 #[.slice A0 y.length c0]]) rfl (By (Ah Tryz.func94 (by kernel_rfl) rfl) (fun w hH => Ir hn hA8 (hH.rd8 1 rfl hXl) hI4) rfl rfl rfl) ?_; rintro ⟨⟩
    refine Ae Aw rfl ?_
    refine Aa (Aq (Aq ?_))
    refine Pw (Tf MO 5 (by rintro ⟨a, w, h⟩; first | exact h.elim | exact nomatch h.1 | (obtain ⟨_, h, _⟩ := h; exact nomatch h)) (by kernel_rfl) ?_)
    refine Ae Aw rfl ?_
    refine VH ?_
    refine JK (X := Unit) (post := fun _ => [T (j + 1), X]) (os' := fun _ => [T (j + 1), X, cell g 48 #[.slice A0 y.length c0]]) MO [0, 1] (hyj) rfl rfl rfl rfl rfl rfl (fun _ => rfl) ?_; rintro ⟨⟩
    refine Iq MO (by rintro ⟨a, w, h⟩; first | exact h.elim | exact nomatch h.1 | (obtain ⟨_, h, _⟩ := h; exact nomatch h)) (by kernel_rfl) ?_
    refine Ae Aw rfl ?_
    refine AP (AE (Ar rfl (Ax (AE (Br ?_)))))
    refine Ae Aw rfl ?_
    refine Ab rfl (.int .i64 (x.length : Int)) (fun b w hb hH => AT ((hH.rd8 1 rfl hXx).rd) Tryz.underlying48 rfl rfl hb) ?_
    refine Ab rfl (.int .i64 ((8 + x.length : Nat) : Int)) (fun b w hb hH => AN rfl rfl rfl rfl (by rw [IntWalk.i64_in _ (by omega)]; omega) hb) ?_
    refine Ab rfl (.slice A1 l1.length c1) (fun b w hb hH => FW (i := (8 + x.length)) AJ hs1 hx3 rfl rfl rfl hH hb) ?_
    refine Ae Aw rfl ?_
    refine AP (Bt ?_)
    exact Cc (j + 1, l1, A1, c1) 0 ⟨hjl, hX1, hq, hl2⟩ (show ps.length - (j + 1) < ps.length - j by omega) ⟨rfl, rfl, trivial⟩ rfl
theorem PC (k : Fn) (caps : Array Value) (g : Nat) (X : Ass) (T : Nat → Ass) (Z : Ass) {A0 : Option Addr} {c0 : Nat} {y : List UInt8} {ps : List (List UInt8)} (hX : CX X (.slice A0 y.length c0) y) (hl : y.length ≤ 137438953472) (hr : (BK y).1 = ps) {N : Nat} (hN : N < ps.length) (hy : (∀ j A c x, ps[j]? = some x → j < N → CX X (.slice A x.length c) x → Er Tryz.prog (.func k #[] caps) [.slice A x.length c] [T j, X] (fun _ : Unit => .bool true) (fun _ => [T (j + 1), X]))) (hz : (∀ j A c x, ps[j]? = some x → j = N → CX X (.slice A x.length c) x → Er Tryz.prog (.func k #[] caps) [.slice A x.length c] [T j, X] (fun _ : Unit => .bool false) (fun _ => [Z, X]))) : AU Tryz.prog 93 #[.func k #[] caps, .pointer (some ⟨g, 0, none⟩)] [T 0, X, cell g 48 #[.slice A0 y.length c0]] (fun (_ : Unit) => .tuple #[]) (fun (_ : Unit) => [Z, X, cell g 48 #[.slice A0 y.length c0]]) := by
  refine Bd (args := [.func k #[] caps, .pointer (some ⟨g, 0, none⟩)]) 25 Tryz.func93 rfl rfl rfl ?_; intro w rs
  refine Ad ?_
  refine Ae Aw rfl ?_
  refine Ab rfl (.slice A0 y.length c0) (fun b w hb hH => A6 rfl rfl (Bk C3 rfl) (hH.row 2 rfl) hb) ?_
  refine Ae Aw rfl ?_
  refine Aa (Bb ?_)
  refine CO (α := Nat × List UInt8 × Option Addr × Nat) (fun ⟨j, l, A, c⟩ => [(0, .func k #[] caps), (3, .slice A l.length c)]) (fun ⟨j, l, A, c⟩ => [T j, X, cell g 48 #[.slice A0 y.length c0]]) (fun ⟨j, l, A, c⟩ => j ≤ N ∧ CX X (.slice A l.length c) l ∧ (BK l).1 = ps.drop j ∧ l.length ≤ 137438953472) (fun ⟨j, l, A, c⟩ => ps.length - j) (0, y, A0, c0) ⟨Nat.zero_le _, hX, by rw [hr]; rfl, hl⟩ ⟨rfl, rfl, trivial⟩ rfl ?_
  rintro ⟨j, l, A, c⟩ hI
  refine Bv.at_ (env' := [(0, .func k #[] caps), (3, .slice A l.length c)]) (rs' := [T j, X, cell g 48 #[.slice A0 y.length c0]]) ⟨rfl, rfl, trivial⟩ rfl ?_
  have hI1 := hI.1
  have hXl : CX X (.slice A l.length c) l := hI.2.1
  have hI3 : (BK l).1 = ps.drop j := hI.2.2.1
  have hI4 : l.length ≤ 137438953472 := hI.2.2.2
  clear hI
  refine Bb ?_
  rcases hn : B1 l with _ | x
  · exact absurd (L9 (by rw [C6 hn] at hI3; exact hI3) (by omega)) (by omega)
  obtain ⟨A8, hA8⟩ : ∃ A8, (if c = 8 then A else A.map (·.add 8)) = A8 := ⟨_, rfl⟩
  have hXx : CX X (.slice A8 x.length (c - 8)) x := by have h3 := hXl.first hn; rwa [hA8] at h3
  have hx3 := (Jd (A := A) (c := c) hn).2.2
  rw [Gx hn] at hI3
  obtain ⟨hpj, hq, hjl⟩ := L8 hI3
  rcases Nat.lt_or_ge j N with hjN | hjN
  · skip
    have hyj := hy j A8 (c - 8) x hpj hjN hXx
    obtain ⟨l1, hl1⟩ : ∃ l1, l.drop (8 + x.length) = l1 := ⟨_, rfl⟩
    obtain ⟨A1, hA1⟩ : ∃ A1, (if c = 8 + x.length then A else A.map (·.add (8 + x.length))) = A1 := ⟨_, rfl⟩
    obtain ⟨c1, hc1⟩ : ∃ c1, c - (8 + x.length) = c1 := ⟨_, rfl⟩
    have hs1 : Cm 1 (.slice A l.length c) (8 + x.length) l.length = .slice A1 l1.length c1 := by rw [Tl, hl1, hA1, hc1]
    have hX1 : CX X (.slice A1 l1.length c1) l1 := by have h3 := hXl.drop (k := 8 + x.length) (by omega); rwa [hl1, hA1, hc1] at h3
    have hl2 : l1.length ≤ 137438953472 := by rw [← hl1, List.length_drop]; omega
    rw [hl1] at hq
    refine Ad ?_
    refine Ae Aw rfl ?_
    refine Aj (post := fun _ => [T j, X, cell g 48 #[.slice A0 y.length c0]]) rfl (By (Ah Tryz.func94 (by kernel_rfl) rfl) (fun w hH => Ir hn hA8 (hH.rd8 1 rfl hXl) hI4) rfl rfl rfl) ?_; rintro ⟨⟩
    refine Ae Aw rfl ?_
    refine Aa (Aq (Aq ?_))
    refine Pw (Tf MO 5 (by rintro ⟨a, w, h⟩; first | exact h.elim | exact nomatch h.1 | (obtain ⟨_, h, _⟩ := h; exact nomatch h)) (by kernel_rfl) ?_)
    refine Ae Aw rfl ?_
    refine VH ?_
    refine JK (X := Unit) (post := fun _ => [T (j + 1), X]) (os' := fun _ => [T (j + 1), X, cell g 48 #[.slice A0 y.length c0]]) MO [0, 1] (hyj) rfl rfl rfl rfl rfl rfl (fun _ => rfl) ?_; rintro ⟨⟩
    refine Iq MO (by rintro ⟨a, w, h⟩; first | exact h.elim | exact nomatch h.1 | (obtain ⟨_, h, _⟩ := h; exact nomatch h)) (by kernel_rfl) ?_
    refine Ae Aw rfl ?_
    refine AP (AE (Ar rfl (Ax (AE (Br ?_)))))
    refine Ae Aw rfl ?_
    refine Ab rfl (.int .i64 (x.length : Int)) (fun b w hb hH => AT ((hH.rd8 1 rfl hXx).rd) Tryz.underlying48 rfl rfl hb) ?_
    refine Ab rfl (.int .i64 ((8 + x.length : Nat) : Int)) (fun b w hb hH => AN rfl rfl rfl rfl (by rw [IntWalk.i64_in _ (by omega)]; omega) hb) ?_
    refine Ab rfl (.slice A1 l1.length c1) (fun b w hb hH => FW (i := (8 + x.length)) AJ hs1 hx3 rfl rfl rfl hH hb) ?_
    refine Ae Aw rfl ?_
    refine AP (Bt ?_)
    exact Cc (j + 1, l1, A1, c1) 0 ⟨hjN, hX1, hq, hl2⟩ (show ps.length - (j + 1) < ps.length - j by omega) ⟨rfl, rfl, trivial⟩ rfl
  · skip
    obtain rfl : j = N := by omega
    have hyj := hz j A8 (c - 8) x hpj rfl hXx
    refine Ad ?_
    refine Ae Aw rfl ?_
    refine Aj (post := fun _ => [T j, X, cell g 48 #[.slice A0 y.length c0]]) rfl (By (Ah Tryz.func94 (by kernel_rfl) rfl) (fun w hH => Ir hn hA8 (hH.rd8 1 rfl hXl) hI4) rfl rfl rfl) ?_; rintro ⟨⟩
    refine Ae Aw rfl ?_
    refine Aa (Aq (Aq ?_))
    refine Pw (Tf MO 5 (by rintro ⟨a, w, h⟩; first | exact h.elim | exact nomatch h.1 | (obtain ⟨_, h, _⟩ := h; exact nomatch h)) (by kernel_rfl) ?_)
    refine Ae Aw rfl ?_
    refine VH ?_
    refine JK (X := Unit) (post := fun _ => [Z, X]) (os' := fun _ => [Z, X, cell g 48 #[.slice A0 y.length c0]]) MO [0, 1] (hyj) rfl rfl rfl rfl rfl rfl (fun _ => rfl) ?_; rintro ⟨⟩
    refine Iq MO (by rintro ⟨a, w, h⟩; first | exact h.elim | exact nomatch h.1 | (obtain ⟨_, h, _⟩ := h; exact nomatch h)) (by kernel_rfl) ?_
    refine Ae Aw rfl ?_
    refine AP (AE (AC rfl (Ay (CM (Bw (CM (Bw ?_)))))))
    exact Kz  (fun w h => AB () rfl [0, 1, 2] rfl h Cl) rfl
theorem Ic {A0 : Option Addr} {n c0 : Nat} : AU Tryz.prog 85 #[.slice A0 n c0] [] (fun (g : Nat) => .func (.func 93) #[] #[.pointer (some ⟨g, 0, none⟩)]) (fun (g : Nat) => [cell g 48 #[.slice A0 n c0]]) := by
 refine Bd (args := [.slice A0 n c0]) 4 Tryz.func85 rfl rfl rfl ?_; intro w rs
 refine Ad ?_
 refine Ae Aw rfl ?_
 refine Aj (post := fun g => [cell g 48 #[.slice A0 n c0]]) rfl (CC (cs := #[.slice A0 n c0]) rfl rfl rfl) ?_; rintro g
 refine Ae Aw rfl ?_
 refine Aa (Ad ?_)
 refine Ae Aw rfl ?_
 refine Ab rfl (.func (.func 93) #[] #[.pointer (some ⟨g, 0, none⟩)]) (fun b w hb hH => Si rfl rfl hb) ?_
 refine Ae Aw rfl ?_
 refine Aa (Ay ?_)
 exact Av (.tmp rfl) (fun w h => AB g rfl [0] rfl h Cl) rfl
theorem N9 {X : Ass} {v : Value} {y : List UInt8} (hX : CX X v y) (hl : y.length ≤ 137438953472) : AU Tryz.prog 70 #[v] [X] (fun (x : Nat × Value) => .func (.func 84) #[] #[.pointer (some ⟨x.1, 0, none⟩)]) (fun (x : Nat × Value) => [X, cell x.1 48 #[x.2], As 5 1 encB x.2 y]) := by
 refine Bd (args := [v]) 7 Tryz.func70 rfl rfl rfl ?_; intro w rs
 refine Ad ?_
 refine Ae Aw rfl ?_
 refine Aa (Ad ?_)
 refine Ae Aw rfl ?_
 refine Aj rfl (Al (os' := fun v9 => [As 5 1 encB v9 y, X]) [0] 0 (Ah Tryz.func59 (by kernel_rfl) rfl) (FP hX (by omega)) rfl rfl rfl (fun _ => rfl) rfl rfl rfl) ?_; rintro v9
 refine Aj (post := fun g => [cell g 48 #[.slice none 0 0], As 5 1 encB v9 y, X]) rfl (BS O1 rfl) ?_; rintro g
 refine AH (post := fun _ => [cell g 48 #[v9], As 5 1 encB v9 y, X]) rfl rfl (Ci 0 1 (v := v9) #[v9] C3.2 rfl (fun _ h => As.c1 h) rfl rfl rfl rfl rfl rfl rfl) ?_; rintro ⟨⟩
 refine Aa (Ad ?_)
 refine Ae Aw rfl ?_
 refine Ab rfl (.func (.func 84) #[] #[.pointer (some ⟨g, 0, none⟩)]) (fun b w hb hH => Si rfl rfl hb) ?_
 refine Ae Aw rfl ?_
 refine Aa (Ay ?_)
 exact Av (.tmp rfl) (fun w h => AB (g, v9) rfl [2, 0, 1] rfl h Cl) rfl
end Go.Proofs.YtnknboibmifacaaGreat.Sep
namespace Go.Proofs.YtnknboibmifacaaGreat.Sep
open Go.RowKit
open Go.Proofs.YtnknboibmifacaaGreat.Mem (Bl Co Chg AG)
def GB (gy : Nat) (f : Value) (X : Ass) : Ass := fun rs => Ap [cell gy 126 #[f], X] rs
theorem GB.open_ {gy : Nat} {f : Value} {X : Ass} : ∀ rs, GB gy f X rs → ∃ _ : Unit, Ap [cell gy 126 #[f], X] rs := fun _ h => ⟨(), h⟩
theorem Je {gy : Nat} {f : Value} (X : Ass) : ∀ rs, Ap [cell gy 126 #[f], X] rs → GB gy f X rs := fun _ h => h
theorem Wu (k : Fn) (caps : Array Value) (g : Nat) (T : Nat → Ass) {A0 : Option Addr} {c0 : Nat} {y : List UInt8} {ps : List (List UInt8)} {N : Nat} (hl : y.length ≤ 137438953472) (hr : (BK y).1 = ps) (hlen : ∀ x, x ∈ ps → x.length ≤ 65536) (hN : ps.length = N) (hyy : ∀ j x d, ps[j]? = some x → Er Tryz.prog (.func k #[] caps) [d] [T j, As 5 1 encB d x] (fun _ : Unit => .bool true) (fun _ : Unit => [T (j + 1)])) : AU Tryz.prog 84 #[.func k #[] caps, .pointer (some ⟨g, 0, none⟩)] [T 0, As 5 1 encB (.slice A0 y.length c0) y, cell g 48 #[.slice A0 y.length c0]] (fun (_ : Unit) => .tuple #[]) (fun (_ : Unit) => [T N, As 5 1 encB (.slice A0 y.length c0) y, cell g 48 #[.slice A0 y.length c0]]) := by
  refine MS (args := [.func k #[] caps, .pointer (some ⟨g, 0, none⟩)]) 14 Tryz.func84 rfl rfl rfl ?_; intro w rs
  refine Ad ?_
  refine Ae Aw rfl ?_
  refine Aj (post := fun gy => [cell gy 126 #[.func k #[] caps], T 0, As 5 1 encB (.slice A0 y.length c0) y, cell g 48 #[.slice A0 y.length c0]]) rfl (CC (cs := #[.func k #[] caps]) rfl rfl rfl) ?_; rintro gy
  refine Aa (Aq (Ad ?_))
  refine Ae Aw rfl ?_
  refine Ab rfl (.func k #[] caps) (fun b w hb hH => A6 rfl rfl (Bk Cw rfl) (hH.row 0 rfl) hb) ?_
  refine Ab rfl (.bool false) (fun b w hb hH => Ib Tryz.underlying126 rfl rfl rfl hb) ?_
  refine Aa (Ar rfl (Ax (AE ?_)))
  refine AX [0, 1] rfl (Je (T 0)) rfl ?_
  refine Ad ?_
  refine Ae Aw rfl ?_
  refine Ab rfl (.slice A0 y.length c0) (fun b w hb hH => A6 rfl rfl (Bk C3 rfl) (hH.row 2 rfl) hb) ?_
  refine Aj rfl (Al (os' := fun g2 => [cell g2 48 #[.slice A0 y.length c0], GB gy (.func k #[] caps) (T 0), As 5 1 encB (.slice A0 y.length c0) y, cell g 48 #[.slice A0 y.length c0]]) [] 0 (Ah Tryz.func85 (by kernel_rfl) rfl) (Ic) rfl rfl rfl (fun _ => rfl) rfl rfl rfl) ?_; rintro g2
  refine Aa (Bb ?_)
  refine Bv.keep (env' := [(0, .func k #[] caps), (1, .pointer (some ⟨g, 0, none⟩)), (2, .pointer (some ⟨gy, 0, none⟩)), (4, .func k #[] caps), (5, .bool false), (6, .slice A0 y.length c0), (7, .func (.func 93) #[] #[.pointer (some ⟨g2, 0, none⟩)])]) ⟨rfl, rfl, rfl, rfl, rfl, rfl, rfl, trivial⟩ ?_
  refine Bv.mid [cell g2 48 #[.slice A0 y.length c0], GB gy (.func k #[] caps) (T 0), As 5 1 encB (.slice A0 y.length c0) y, cell g 48 #[.slice A0 y.length c0]] (.refl _) ?_
  refine HI (caps := [.pointer (some ⟨g2, 0, none⟩)]) (post := [GB gy (.func k #[] caps) (T N), As 5 1 encB (.slice A0 y.length c0) y, cell g2 48 #[.slice A0 y.length c0]]) (os' := [GB gy (.func k #[] caps) (T N), As 5 1 encB (.slice A0 y.length c0) y, cell g2 48 #[.slice A0 y.length c0], cell g 48 #[.slice A0 y.length c0]]) (.normal) [1, 2, 0] rfl (Ah Tryz.func93 (by kernel_rfl) rfl) (fun L1 fn1 tm1 hf1 r1 k11 k12 k13 k14 k15 k16 => Qw (RJ (.yield L1) #[] g2 (As 5 1 encB (.slice A0 y.length c0) y) (fun j => Ke L1 r1 (GB gy (.func k #[] caps) (T j))) CU hl hr hN ?_)) rfl rfl rfl ?_
  · skip
    intro j A c x hpj hXx
    have hxl : x.length ≤ 65536 := hlen x (List.mem_of_getElem? hpj)
    refine L6 (Ef (n := 14) (env := [(8, .slice A x.length c), (0, .func k #[] caps), (1, .pointer (some ⟨g, 0, none⟩)), (2, .pointer (some ⟨gy, 0, none⟩)), (4, .func k #[] caps), (5, .bool false), (6, .slice A0 y.length c0), (7, .func (.func 93) #[] #[.pointer (some ⟨g2, 0, none⟩)])]) (.normal) k12 k11 (by rw [k14]; rfl) ?_ ?_)
    · rw [k14, k13]
      refine (congrArg (fun t => Fr 14 { tmps := t, defers := [] } _) (?_ : _ = (tm1.setIfInBounds 8 (.slice A x.length c)))).mpr (hf1.put (d := 8) (by decide) _)
      simp
    · intro w0 rs
      rw [k15]
      refine E8 (by kernel_rfl) (by rintro ⟨a, w, h⟩; first | exact h.elim | exact nomatch h.1 | (obtain ⟨_, h, _⟩ := h; exact nomatch h)) ?_
      refine Ae Aw rfl ?_
      refine AP ?_
      refine HH 0 rfl k11 ?_
      rw [k16]
      refine Lh 1 rfl GB.open_ (fun _ => rfl) ?_; rintro ⟨⟩
      refine HG ?_
      refine FK ?_
      refine Py 1 rfl ?_
      refine Px 3 1 [⟨.quiet, [none], fun _ => .func k #[] caps, []⟩, ⟨.quiet, [none], fun _ => .slice A x.length c, []⟩, ⟨.act 0, [some false], fun _ => undef, [1]⟩] [(2, .pointer (some ⟨gy, 0, none⟩)), (3, .slice A x.length c)] (fun ρ => match ρ with | [r0] => [CD r0 (fun d1 => As 5 1 encB d1 x) (D1), cell gy 126 #[.func k #[] caps], T j, CI L1 (Da r1), As 5 1 encB (.slice A0 y.length c0) y] | _ => []) (by kernel_rfl) (by kernel_rfl) (by kernel_rfl) ⟨rfl, rfl, trivial⟩ rfl ?_ ?_
      · skip
        refine Ac (by intro r0_; exact ⟨rfl, fun b w hH hb => A6 rfl rfl (Bk Cw rfl) (hH.row 1 rfl) hb⟩) ?_
        refine Ac (by intro r0_; exact ⟨rfl, fun b w hH hb => Af Aw rfl hb⟩) ?_
        refine Ac (by exact ⟨rfl, Bp.s (Al (os' := fun d1 => [As 5 1 encB d1 x, cell gy 126 #[.func k #[] caps], T j, CI L1 (Da r1), As 5 1 encB (.slice A0 y.length c0) y]) [4, 0] 1 (Ah Tryz.func59 (by kernel_rfl) rfl) (FP hXx (by omega)) rfl rfl rfl (fun _ => rfl) rfl rfl rfl) (fun _ => rfl)⟩) ?_
        exact B2
      intro d1
      refine N6.keep (env' := [(9, .func k #[] caps), (11, d1)]) ⟨rfl, rfl, trivial⟩ ?_
      refine JK (X := Unit) (post := fun _ => [T (j + 1)]) (os' := fun _ => [T (j + 1), cell gy 126 #[.func k #[] caps], CI L1 (Da r1), As 5 1 encB (.slice A0 y.length c0) y]) N4 [2, 0] (hyy j x d1 hpj) rfl rfl rfl rfl rfl rfl (fun _ => rfl) ?_; rintro ⟨⟩
      refine Iq N4 (by rintro ⟨a, w, h⟩; first | exact h.elim | exact nomatch h.1 | (obtain ⟨_, h, _⟩ := h; exact nomatch h)) (by kernel_rfl) ?_
      refine Ae Aw rfl ?_
      refine AP ?_
      refine JM ?_
      refine MP rfl ?_
      refine MQ ?_
      refine Bt ?_
      refine IH [1, 0] rfl (Je (T (j + 1))) rfl ?_
      exact JN [1, 0, 2] rfl rfl
  intro D aT wT hD hD0 hd hF hH
  obtain ⟨_, hH⟩ := Ko 0 rfl GB.open_ hH
  exact Tk (e := .normal) rfl (fun w' h => AB (X := Unit) (val := fun _ => .tuple #[]) (post := fun _ => [T N, As 5 1 encB (.slice A0 y.length c0) y, cell g 48 #[.slice A0 y.length c0]]) (os := [cell gy 126 #[.func k #[] caps], T N, As 5 1 encB (.slice A0 y.length c0) y, cell g2 48 #[.slice A0 y.length c0], cell g 48 #[.slice A0 y.length c0]]) () rfl [1, 2, 4] rfl h Cl) (by simp) D aT wT hD hD0 hd hF hH
theorem Wm (k : Fn) (caps : Array Value) (g : Nat) (T : Nat → Ass) (Z : Ass) {A0 : Option Addr} {c0 : Nat} {y : List UInt8} {ps : List (List UInt8)} {N : Nat} (hl : y.length ≤ 137438953472) (hr : (BK y).1 = ps) (hlen : ∀ x, x ∈ ps → x.length ≤ 65536) (hN : N < ps.length) (hyy : ∀ j x d, ps[j]? = some x → j < N → Er Tryz.prog (.func k #[] caps) [d] [T j, As 5 1 encB d x] (fun _ : Unit => .bool true) (fun _ : Unit => [T (j + 1)])) (hzz : ∀ j x d, ps[j]? = some x → j = N → Er Tryz.prog (.func k #[] caps) [d] [T j, As 5 1 encB d x] (fun _ : Unit => .bool false) (fun _ : Unit => [Z])) : AU Tryz.prog 84 #[.func k #[] caps, .pointer (some ⟨g, 0, none⟩)] [T 0, As 5 1 encB (.slice A0 y.length c0) y, cell g 48 #[.slice A0 y.length c0]] (fun (_ : Unit) => .tuple #[]) (fun (_ : Unit) => [Z, As 5 1 encB (.slice A0 y.length c0) y, cell g 48 #[.slice A0 y.length c0]]) := by
  refine MS (args := [.func k #[] caps, .pointer (some ⟨g, 0, none⟩)]) 14 Tryz.func84 rfl rfl rfl ?_; intro w rs
  refine Ad ?_
  refine Ae Aw rfl ?_
  refine Aj (post := fun gy => [cell gy 126 #[.func k #[] caps], T 0, As 5 1 encB (.slice A0 y.length c0) y, cell g 48 #[.slice A0 y.length c0]]) rfl (CC (cs := #[.func k #[] caps]) rfl rfl rfl) ?_; rintro gy
  refine Aa (Aq (Ad ?_))
  refine Ae Aw rfl ?_
  refine Ab rfl (.func k #[] caps) (fun b w hb hH => A6 rfl rfl (Bk Cw rfl) (hH.row 0 rfl) hb) ?_
  refine Ab rfl (.bool false) (fun b w hb hH => Ib Tryz.underlying126 rfl rfl rfl hb) ?_
  refine Aa (Ar rfl (Ax (AE ?_)))
  refine AX [0, 1] rfl (Je (T 0)) rfl ?_
  refine Ad ?_
  refine Ae Aw rfl ?_
  refine Ab rfl (.slice A0 y.length c0) (fun b w hb hH => A6 rfl rfl (Bk C3 rfl) (hH.row 2 rfl) hb) ?_
  refine Aj rfl (Al (os' := fun g2 => [cell g2 48 #[.slice A0 y.length c0], GB gy (.func k #[] caps) (T 0), As 5 1 encB (.slice A0 y.length c0) y, cell g 48 #[.slice A0 y.length c0]]) [] 0 (Ah Tryz.func85 (by kernel_rfl) rfl) (Ic) rfl rfl rfl (fun _ => rfl) rfl rfl rfl) ?_; rintro g2
  refine Aa (Bb ?_)
  refine Bv.keep (env' := [(0, .func k #[] caps), (1, .pointer (some ⟨g, 0, none⟩)), (2, .pointer (some ⟨gy, 0, none⟩)), (4, .func k #[] caps), (5, .bool false), (6, .slice A0 y.length c0), (7, .func (.func 93) #[] #[.pointer (some ⟨g2, 0, none⟩)])]) ⟨rfl, rfl, rfl, rfl, rfl, rfl, rfl, trivial⟩ ?_
  refine Bv.mid [cell g2 48 #[.slice A0 y.length c0], GB gy (.func k #[] caps) (T 0), As 5 1 encB (.slice A0 y.length c0) y, cell g 48 #[.slice A0 y.length c0]] (.refl _) ?_
  refine HI (caps := [.pointer (some ⟨g2, 0, none⟩)]) (post := [GB gy (.func k #[] caps) Z, As 5 1 encB (.slice A0 y.length c0) y, cell g2 48 #[.slice A0 y.length c0]]) (os' := [GB gy (.func k #[] caps) Z, As 5 1 encB (.slice A0 y.length c0) y, cell g2 48 #[.slice A0 y.length c0], cell g 48 #[.slice A0 y.length c0]]) (.ret) [1, 2, 0] rfl (Ah Tryz.func93 (by kernel_rfl) rfl) (fun L1 fn1 tm1 hf1 r1 k11 k12 k13 k14 k15 k16 => Qw (PC (.yield L1) #[] g2 (As 5 1 encB (.slice A0 y.length c0) y) (fun j => Ke L1 r1 (GB gy (.func k #[] caps) (T j))) (Ke L1 (Li .ret r1) (GB gy (.func k #[] caps) Z)) CU hl hr hN ?_ ?_)) rfl rfl rfl ?_
  · skip
    intro j A c x hpj hjN hXx
    have hxl : x.length ≤ 65536 := hlen x (List.mem_of_getElem? hpj)
    refine L6 (Ef (n := 14) (env := [(8, .slice A x.length c), (0, .func k #[] caps), (1, .pointer (some ⟨g, 0, none⟩)), (2, .pointer (some ⟨gy, 0, none⟩)), (4, .func k #[] caps), (5, .bool false), (6, .slice A0 y.length c0), (7, .func (.func 93) #[] #[.pointer (some ⟨g2, 0, none⟩)])]) (.normal) k12 k11 (by rw [k14]; rfl) ?_ ?_)
    · rw [k14, k13]
      refine (congrArg (fun t => Fr 14 { tmps := t, defers := [] } _) (?_ : _ = (tm1.setIfInBounds 8 (.slice A x.length c)))).mpr (hf1.put (d := 8) (by decide) _)
      simp
    · intro w0 rs
      rw [k15]
      refine E8 (by kernel_rfl) (by rintro ⟨a, w, h⟩; first | exact h.elim | exact nomatch h.1 | (obtain ⟨_, h, _⟩ := h; exact nomatch h)) ?_
      refine Ae Aw rfl ?_
      refine AP ?_
      refine HH 0 rfl k11 ?_
      rw [k16]
      refine Lh 1 rfl GB.open_ (fun _ => rfl) ?_; rintro ⟨⟩
      refine HG ?_
      refine FK ?_
      refine Py 1 rfl ?_
      refine Px 3 1 [⟨.quiet, [none], fun _ => .func k #[] caps, []⟩, ⟨.quiet, [none], fun _ => .slice A x.length c, []⟩, ⟨.act 0, [some false], fun _ => undef, [1]⟩] [(2, .pointer (some ⟨gy, 0, none⟩)), (3, .slice A x.length c)] (fun ρ => match ρ with | [r0] => [CD r0 (fun d1 => As 5 1 encB d1 x) (D1), cell gy 126 #[.func k #[] caps], T j, CI L1 (Da r1), As 5 1 encB (.slice A0 y.length c0) y] | _ => []) (by kernel_rfl) (by kernel_rfl) (by kernel_rfl) ⟨rfl, rfl, trivial⟩ rfl ?_ ?_
      · skip
        refine Ac (by intro r0_; exact ⟨rfl, fun b w hH hb => A6 rfl rfl (Bk Cw rfl) (hH.row 1 rfl) hb⟩) ?_
        refine Ac (by intro r0_; exact ⟨rfl, fun b w hH hb => Af Aw rfl hb⟩) ?_
        refine Ac (by exact ⟨rfl, Bp.s (Al (os' := fun d1 => [As 5 1 encB d1 x, cell gy 126 #[.func k #[] caps], T j, CI L1 (Da r1), As 5 1 encB (.slice A0 y.length c0) y]) [4, 0] 1 (Ah Tryz.func59 (by kernel_rfl) rfl) (FP hXx (by omega)) rfl rfl rfl (fun _ => rfl) rfl rfl rfl) (fun _ => rfl)⟩) ?_
        exact B2
      intro d1
      refine N6.keep (env' := [(9, .func k #[] caps), (11, d1)]) ⟨rfl, rfl, trivial⟩ ?_
      refine JK (X := Unit) (post := fun _ => [T (j + 1)]) (os' := fun _ => [T (j + 1), cell gy 126 #[.func k #[] caps], CI L1 (Da r1), As 5 1 encB (.slice A0 y.length c0) y]) N4 [2, 0] (hyy j x d1 hpj hjN) rfl rfl rfl rfl rfl rfl (fun _ => rfl) ?_; rintro ⟨⟩
      refine Iq N4 (by rintro ⟨a, w, h⟩; first | exact h.elim | exact nomatch h.1 | (obtain ⟨_, h, _⟩ := h; exact nomatch h)) (by kernel_rfl) ?_
      refine Ae Aw rfl ?_
      refine AP ?_
      refine JM ?_
      refine MP rfl ?_
      refine MQ ?_
      refine Bt ?_
      refine IH [1, 0] rfl (Je (T (j + 1))) rfl ?_
      exact JN [1, 0, 2] rfl rfl
  · skip
    intro j A c x hpj hjN hXx
    have hxl : x.length ≤ 65536 := hlen x (List.mem_of_getElem? hpj)
    refine L6 (Ef (n := 14) (env := [(8, .slice A x.length c), (0, .func k #[] caps), (1, .pointer (some ⟨g, 0, none⟩)), (2, .pointer (some ⟨gy, 0, none⟩)), (4, .func k #[] caps), (5, .bool false), (6, .slice A0 y.length c0), (7, .func (.func 93) #[] #[.pointer (some ⟨g2, 0, none⟩)])]) (.ret) k12 k11 (by rw [k14]; rfl) ?_ ?_)
    · rw [k14, k13]
      refine (congrArg (fun t => Fr 14 { tmps := t, defers := [] } _) (?_ : _ = (tm1.setIfInBounds 8 (.slice A x.length c)))).mpr (hf1.put (d := 8) (by decide) _)
      simp
    · intro w0 rs
      rw [k15]
      refine E8 (by kernel_rfl) (by rintro ⟨a, w, h⟩; first | exact h.elim | exact nomatch h.1 | (obtain ⟨_, h, _⟩ := h; exact nomatch h)) ?_
      refine Ae Aw rfl ?_
      refine AP ?_
      refine HH 0 rfl k11 ?_
      rw [k16]
      refine Lh 1 rfl GB.open_ (fun _ => rfl) ?_; rintro ⟨⟩
      refine HG ?_
      refine FK ?_
      refine Py 1 rfl ?_
      refine Px 3 1 [⟨.quiet, [none], fun _ => .func k #[] caps, []⟩, ⟨.quiet, [none], fun _ => .slice A x.length c, []⟩, ⟨.act 0, [some false], fun _ => undef, [1]⟩] [(2, .pointer (some ⟨gy, 0, none⟩)), (3, .slice A x.length c)] (fun ρ => match ρ with | [r0] => [CD r0 (fun d1 => As 5 1 encB d1 x) (D1), cell gy 126 #[.func k #[] caps], T j, CI L1 (Da r1), As 5 1 encB (.slice A0 y.length c0) y] | _ => []) (by kernel_rfl) (by kernel_rfl) (by kernel_rfl) ⟨rfl, rfl, trivial⟩ rfl ?_ ?_
      · skip
        refine Ac (by intro r0_; exact ⟨rfl, fun b w hH hb => A6 rfl rfl (Bk Cw rfl) (hH.row 1 rfl) hb⟩) ?_
        refine Ac (by intro r0_; exact ⟨rfl, fun b w hH hb => Af Aw rfl hb⟩) ?_
        refine Ac (by exact ⟨rfl, Bp.s (Al (os' := fun d1 => [As 5 1 encB d1 x, cell gy 126 #[.func k #[] caps], T j, CI L1 (Da r1), As 5 1 encB (.slice A0 y.length c0) y]) [4, 0] 1 (Ah Tryz.func59 (by kernel_rfl) rfl) (FP hXx (by omega)) rfl rfl rfl (fun _ => rfl) rfl rfl rfl) (fun _ => rfl)⟩) ?_
        exact B2
      intro d1
      refine N6.keep (env' := [(9, .func k #[] caps), (11, d1)]) ⟨rfl, rfl, trivial⟩ ?_
      refine JK (X := Unit) (post := fun _ => [Z]) (os' := fun _ => [Z, cell gy 126 #[.func k #[] caps], CI L1 (Da r1), As 5 1 encB (.slice A0 y.length c0) y]) N4 [2, 0] (hzz j x d1 hpj hjN) rfl rfl rfl rfl rfl rfl (fun _ => rfl) ?_; rintro ⟨⟩
      refine Iq N4 (by rintro ⟨a, w, h⟩; first | exact h.elim | exact nomatch h.1 | (obtain ⟨_, h, _⟩ := h; exact nomatch h)) (by kernel_rfl) ?_
      refine Ae Aw rfl ?_
      refine AP ?_
      refine JM ?_
      refine Tg rfl ?_
      refine Wk ?_
      refine Bw ?_
      refine IH [1, 0] rfl (Je Z) rfl ?_
      exact JN [1, 0, 2] rfl rfl
  intro D aT wT hD hD0 hd hF hH
  obtain ⟨_, hH⟩ := Ko 0 rfl GB.open_ hH
  exact Tk (e := .ret) rfl (fun w' h => AB (X := Unit) (val := fun _ => .tuple #[]) (post := fun _ => [Z, As 5 1 encB (.slice A0 y.length c0) y, cell g 48 #[.slice A0 y.length c0]]) (os := [cell gy 126 #[.func k #[] caps], Z, As 5 1 encB (.slice A0 y.length c0) y, cell g2 48 #[.slice A0 y.length c0], cell g 48 #[.slice A0 y.length c0]]) () rfl [1, 2, 4] rfl h Cl) (by simp) D aT wT hD hD0 hd hF hH
end Go.Proofs.YtnknboibmifacaaGreat.Sep
namespace Go.Proofs.YtnknboibmifacaaGreat.Sep
def Cx (ps : List (List UInt8)) : Nat := (ps.map fun x => 8 + x.length).sum
theorem HJ {ps : List (List UInt8)} {j : Nat} {x : List UInt8} (h : ps[j]? = some x) : Cx (ps.take (j + 1)) = Cx (ps.take j) + (8 + x.length) := by
 unfold Cx
 have hlt := (List.getElem?_eq_some_iff.1 h).1
 rw [List.take_add_one, h]
 simp
theorem Kp (ps : List (List UInt8)) (j : Nat) : Cx (ps.take j) ≤ Cx ps := by
 have h : Cx ps = Cx (ps.take j) + Cx (ps.drop j) := by
  unfold Cx
  rw [← List.sum_append, ← List.map_append, List.take_append_drop]
 omega
theorem Ma (x : List UInt8) (ps : List (List UInt8)) : Cx (x :: ps) = 8 + x.length + Cx ps := by simp [Cx]
theorem F7 : ∀ (k : Nat) (b : List UInt8), (Ee k b).2 = Cx (Ee k b).1
  | 0, _ => rfl
  | k + 1, b => by
    simp only [Ee]
    cases h : B1 b with
    | none => rfl
    | some x => rw [Ma]; simp only [← F7 k]
end Go.Proofs.YtnknboibmifacaaGreat.Sep
namespace Go.Proofs.YtnknboibmifacaaGreat.Sep
open Go.RowKit
open Go.Proofs.YtnknboibmifacaaGreat.Mem (Bl Co Chg AG)
end Go.Proofs.YtnknboibmifacaaGreat.Sep
namespace Go.Proofs.YtnknboibmifacaaGreat.Sep
open Go.RowKit
open Go.Proofs.YtnknboibmifacaaGreat.Mem (Bl Co Chg AG)
theorem VL : ((Bc []).length : Int) = 8 := by rw [EL (by simp)]; rfl
section
variable {P : Program} {n : Nat} {B : Nat → Prop} {w0 w : World} {os : List Ass} {env : List (Nat × Value)} {o : Oper} {act : Act}
theorem Qy (i : Nat) {t e : TypeId} {v : Value} (hu : P.underlying t = some (.slice e)) (hi : os[i]? = some (As e 1 encB v (Bc []))) {x : Operand} (ho : o.op = .call { callee := .builtin .len, args := #[x], argTypes := #[t] }) (hx : evs env x = some v) (hH : Hp B w0 w os) (hF : Fr n act env) : (execOp act.eval o).run P w = .ok (.value (.int .i64 8)) w := by
 have h := Cv i hu hi ho hx hH hF
 rw [VL] at h
 exact h
end
end Go.Proofs.YtnknboibmifacaaGreat.Sep
