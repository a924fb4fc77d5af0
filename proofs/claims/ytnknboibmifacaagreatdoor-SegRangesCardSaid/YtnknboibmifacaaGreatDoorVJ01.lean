/-
  SgA · SgB · SgM · TyS
-/
import Derived.Test.YtnknboibmifacaaGreatDoorVB01
import Derived.Test.YtnknboibmifacaaGreatDoorVB02
import Derived.Test.YtnknboibmifacaaGreatDoorVH01
import Derived.Test.YtnknboibmifacaaGreatDoorVI01
set_option linter.unusedSimpArgs false
set_option linter.unusedVariables false
set_option maxRecDepth 100000
namespace Go.Proofs.YtnknboibmifacaaGreatDoor.Sep
open Go.RowKit
open Go.Proofs.YtnknboibmifacaaGreatDoor.Mem (AR B3 Chg Av)
theorem PS {w : World} {y : List UInt8} {A : Option Addr} {c : Nat} (hn : DC y = none) (hv : D9 w (.slice A y.length c) y) (hl : y.length ≤ 137438953472) : Calls Tryz.prog 196 #[.slice A y.length c] w fun e w' => e = .returned (.tuple #[PK A c y, .bool false]) ∧ Below w.heap.size w w' := by
 have h := QG w hv hl
 rwa [hn] at h
theorem I4 {A : Option Addr} {c : Nat} {y x : List UInt8} (hn : DC y = some x) : PK A c y = .slice (if c = 8 then A else A.map (·.add 8)) x.length (c - 8) ∧ x = (y.drop 8).take x.length ∧ 8 + x.length ≤ y.length := by
  have hx := Ha hn
  unfold DC at hn
  split at hn
  · rename_i h
    cases hn
    refine ⟨?_, ?_, hx.1⟩
    · unfold PK
      rw [if_pos ⟨h.1, h.2.1, h.2.2.1⟩, List.length_take, List.length_drop, Nat.min_eq_left (by omega)]
    · rw [List.length_take, List.length_drop, Nat.min_eq_left (by omega)]
  · cases hn
theorem Iu {w : World} {y x : List UInt8} {A A8 : Option Addr} {c : Nat} (hn : DC y = some x) (hA : (if c = 8 then A else A.map (·.add 8)) = A8) (hv : D9 w (.slice A y.length c) y) (hl : y.length ≤ 137438953472) : Calls Tryz.prog 196 #[.slice A y.length c] w fun e w' => e = .returned (.tuple #[.slice A8 x.length (c - 8), .bool true]) ∧ Below w.heap.size w w' := by
  have h := QG w hv hl
  rwa [(I4 hn).1, hn, hA] at h
theorem E3.first {X : Ass} {y x : List UInt8} {A : Option Addr} {c : Nat} (hX : E3 X (.slice A y.length c) y) (hn : DC y = some x) : E3 X (.slice (if c = 8 then A else A.map (·.add 8)) x.length (c - 8)) x := fun rs w h1 h2 => by
  obtain ⟨_, h3, h4⟩ := I4 (A := A) (c := c) hn
  have h5 := Of (K4 (hX rs w h1 h2) (i := 8) (by omega)) (k := x.length) (by rw [List.length_drop]; omega)
  rwa [← h3] at h5
theorem Mj {ps q : List (List UInt8)} {x : List UInt8} {j : Nat} (h : x :: q = ps.drop j) : ps[j]? = some x ∧ q = ps.drop (j + 1) ∧ j < ps.length := by
  have h1 : ps[j]? = some x := by
    have := congrArg (·[0]?) h
    simpa using this.symm
  have hlt := (List.getElem?_eq_some_iff.1 h1).1
  refine ⟨h1, ?_, hlt⟩
  rw [List.drop_eq_getElem_cons hlt] at h
  exact (List.cons.inj h).2
theorem Mk {ps : List (List UInt8)} {j : Nat} (h : [] = ps.drop j) (hj : j ≤ ps.length) : j = ps.length := by
 have := congrArg List.length h
 rw [List.length_nil, List.length_drop] at this
 omega
theorem Ty {A : Option Addr} {c k : Nat} {l : List UInt8} : Ca 1 (.slice A l.length c) k l.length = .slice (if c = k then A else A.map (·.add k)) (l.drop k).length (c - k) := by
  rw [List.length_drop]; exact IZ
theorem RS (k : Fn) (caps : Array Value) (g : Nat) (X : Ass) (T : Nat → Ass) {A0 : Option Addr} {c0 : Nat} {y : List UInt8} {ps : List (List UInt8)} (hX : E3 X (.slice A0 y.length c0) y) (hl : y.length ≤ 137438953472) (hr : (CK y).1 = ps) {N : Nat} (hN : ps.length = N) (hy : (∀ j A c x, ps[j]? = some x → E3 X (.slice A x.length c) x → CQ Tryz.prog (.func k #[] caps) [.slice A x.length c] [T j, X] (fun _ : Unit => .bool true) (fun _ => [T (j + 1), X]))) : AP Tryz.prog 195 #[.func k #[] caps, .pointer (some ⟨g, 0, none⟩)] [T 0, X, cell g 30 #[.slice A0 y.length c0]] (fun (_ : Unit) => .tuple #[]) (fun (_ : Unit) => [T N, X, cell g 30 #[.slice A0 y.length c0]]) := by
  refine Bj (args := [.func k #[] caps, .pointer (some ⟨g, 0, none⟩)]) 25 Tryz.func195 rfl rfl rfl ?_; intro w rs
  refine Ad ?_
  refine Af Ai rfl ?_
  refine Aa rfl (.slice A0 y.length c0) (fun b w hb hH => AY rfl rfl (Bi CS rfl) (hH.row 2 rfl) hb) ?_
  refine Af Ai rfl ?_
  refine Ab (AQ ?_)
  refine CY (α := Nat × List UInt8 × Option Addr × Nat) (fun ⟨j, l, A, c⟩ => [(0, .func k #[] caps), (3, .slice A l.length c)]) (fun ⟨j, l, A, c⟩ => [T j, X, cell g 30 #[.slice A0 y.length c0]]) (fun ⟨j, l, A, c⟩ => j ≤ ps.length ∧ E3 X (.slice A l.length c) l ∧ (CK l).1 = ps.drop j ∧ l.length ≤ 137438953472) (fun ⟨j, l, A, c⟩ => ps.length - j) (0, y, A0, c0) ⟨Nat.zero_le _, hX, by rw [hr]; rfl, hl⟩ ⟨rfl, rfl, trivial⟩ rfl ?_
  rintro ⟨j, l, A, c⟩ hI
  refine AN.at_ (env' := [(0, .func k #[] caps), (3, .slice A l.length c)]) (rs' := [T j, X, cell g 30 #[.slice A0 y.length c0]]) ⟨rfl, rfl, trivial⟩ rfl ?_
  have hI1 := hI.1
  have hXl : E3 X (.slice A l.length c) l := hI.2.1
  have hI3 : (CK l).1 = ps.drop j := hI.2.2.1
  have hI4 : l.length ≤ 137438953472 := hI.2.2.2
  clear hI
  refine AQ ?_
  rcases hn : DC l with _ | x
  · skip
    rw [K3 hn] at hI3
    obtain rfl : j = N := (Mk hI3 hI1).trans hN
    refine Ad ?_
    refine Af Ai rfl ?_
    refine Am (post := fun _ => [T j, X, cell g 30 #[.slice A0 y.length c0]]) rfl (Bc (Aj Tryz.func196 (by kernel_rfl) rfl) (fun w hH => PS hn (hH.rd8 1 rfl hXl) hI4) rfl rfl rfl) ?_; rintro ⟨⟩
    refine Af Ai rfl ?_
    refine Ab (An (Ad ?_))
    refine Af Ai rfl ?_
    refine Ab (AI rfl (Az (D8 (BC (D8 (BC ?_))))))
    exact Kq  (fun w h => AC () rfl [0, 1, 2] rfl h Ed) rfl
  · skip
    obtain ⟨A8, hA8⟩ : ∃ A8, (if c = 8 then A else A.map (·.add 8)) = A8 := ⟨_, rfl⟩
    have hXx : E3 X (.slice A8 x.length (c - 8)) x := by have h3 := hXl.first hn; rwa [hA8] at h3
    have hx3 := (I4 (A := A) (c := c) hn).2.2
    rw [Il hn] at hI3
    obtain ⟨hpj, hq, hjl⟩ := Mj hI3
    have hyj := hy j A8 (c - 8) x hpj hXx
    obtain ⟨l1, hl1⟩ : ∃ l1, l.drop (8 + x.length) = l1 := ⟨_, rfl⟩
    obtain ⟨A1, hA1⟩ : ∃ A1, (if c = 8 + x.length then A else A.map (·.add (8 + x.length))) = A1 := ⟨_, rfl⟩
    obtain ⟨c1, hc1⟩ : ∃ c1, c - (8 + x.length) = c1 := ⟨_, rfl⟩
    have hs1 : Ca 1 (.slice A l.length c) (8 + x.length) l.length = .slice A1 l1.length c1 := by rw [Ty, hl1, hA1, hc1]
    have hX1 : E3 X (.slice A1 l1.length c1) l1 := by have h3 := hXl.drop (k := 8 + x.length) (by omega); rwa [hl1, hA1, hc1] at h3
    have hl2 : l1.length ≤ 137438953472 := by rw [← hl1, List.length_drop]; omega
    rw [hl1] at hq
    refine Ad ?_
    refine Af Ai rfl ?_
    refine Am (post := fun _ => [T j, X, cell g 30 #[.slice A0 y.length c0]]) rfl (Bc (Aj Tryz.func196 (by kernel_rfl) rfl) (fun w hH => Iu hn hA8 (hH.rd8 1 rfl hXl) hI4) rfl rfl rfl) ?_; rintro ⟨⟩
    refine Af Ai rfl ?_
    refine Ab (An (An ?_))
    refine Ip (I3 FR 5 (by rintro ⟨a, w, h⟩; first | exact h.elim | exact nomatch h.1 | (obtain ⟨_, h, _⟩ := h; exact nomatch h)) (by kernel_rfl) ?_)
    refine Af Ai rfl ?_
    refine MX ?_
    refine E0 (X := Unit) (post := fun _ => [T (j + 1), X]) (os' := fun _ => [T (j + 1), X, cell g 30 #[.slice A0 y.length c0]]) FR [0, 1] (hyj) rfl rfl rfl rfl rfl rfl (fun _ => rfl) ?_; rintro ⟨⟩
    refine El FR (by rintro ⟨a, w, h⟩; first | exact h.elim | exact nomatch h.1 | (obtain ⟨_, h, _⟩ := h; exact nomatch h)) (by kernel_rfl) ?_
    refine Af Ai rfl ?_
    refine AD (AB (As rfl (Aw (AB (BJ ?_)))))
    refine Af Ai rfl ?_
    refine Aa rfl (.int .i64 (x.length : Int)) (fun b w hb hH => Bp ((hH.rd8 1 rfl hXx).rd) Tryz.underlying30 rfl rfl hb) ?_
    refine Aa rfl (.int .i64 ((8 + x.length : Nat) : Int)) (fun b w hb hH => AH rfl rfl rfl rfl (by rw [IntWalk.i64_in _ (by omega)]; omega) hb) ?_
    refine Aa rfl (.slice A1 l1.length c1) (fun b w hb hH => DS (i := (8 + x.length)) Bf hs1 hx3 rfl rfl rfl hH hb) ?_
    refine Af Ai rfl ?_
    refine AD (AW ?_)
    exact Cm (j + 1, l1, A1, c1) 0 ⟨hjl, hX1, hq, hl2⟩ (show ps.length - (j + 1) < ps.length - j by omega) ⟨rfl, rfl, trivial⟩ rfl
theorem PT (k : Fn) (caps : Array Value) (g : Nat) (X : Ass) (T : Nat → Ass) (Z : Ass) {A0 : Option Addr} {c0 : Nat} {y : List UInt8} {ps : List (List UInt8)} (hX : E3 X (.slice A0 y.length c0) y) (hl : y.length ≤ 137438953472) (hr : (CK y).1 = ps) {N : Nat} (hN : N < ps.length) (hy : (∀ j A c x, ps[j]? = some x → j < N → E3 X (.slice A x.length c) x → CQ Tryz.prog (.func k #[] caps) [.slice A x.length c] [T j, X] (fun _ : Unit => .bool true) (fun _ => [T (j + 1), X]))) (hz : (∀ j A c x, ps[j]? = some x → j = N → E3 X (.slice A x.length c) x → CQ Tryz.prog (.func k #[] caps) [.slice A x.length c] [T j, X] (fun _ : Unit => .bool false) (fun _ => [Z, X]))) : AP Tryz.prog 195 #[.func k #[] caps, .pointer (some ⟨g, 0, none⟩)] [T 0, X, cell g 30 #[.slice A0 y.length c0]] (fun (_ : Unit) => .tuple #[]) (fun (_ : Unit) => [Z, X, cell g 30 #[.slice A0 y.length c0]]) := by
  refine Bj (args := [.func k #[] caps, .pointer (some ⟨g, 0, none⟩)]) 25 Tryz.func195 rfl rfl rfl ?_; intro w rs
  refine Ad ?_
  refine Af Ai rfl ?_
  refine Aa rfl (.slice A0 y.length c0) (fun b w hb hH => AY rfl rfl (Bi CS rfl) (hH.row 2 rfl) hb) ?_
  refine Af Ai rfl ?_
  refine Ab (AQ ?_)
  refine CY (α := Nat × List UInt8 × Option Addr × Nat) (fun ⟨j, l, A, c⟩ => [(0, .func k #[] caps), (3, .slice A l.length c)]) (fun ⟨j, l, A, c⟩ => [T j, X, cell g 30 #[.slice A0 y.length c0]]) (fun ⟨j, l, A, c⟩ => j ≤ N ∧ E3 X (.slice A l.length c) l ∧ (CK l).1 = ps.drop j ∧ l.length ≤ 137438953472) (fun ⟨j, l, A, c⟩ => ps.length - j) (0, y, A0, c0) ⟨Nat.zero_le _, hX, by rw [hr]; rfl, hl⟩ ⟨rfl, rfl, trivial⟩ rfl ?_
  rintro ⟨j, l, A, c⟩ hI
  refine AN.at_ (env' := [(0, .func k #[] caps), (3, .slice A l.length c)]) (rs' := [T j, X, cell g 30 #[.slice A0 y.length c0]]) ⟨rfl, rfl, trivial⟩ rfl ?_
  have hI1 := hI.1
  have hXl : E3 X (.slice A l.length c) l := hI.2.1
  have hI3 : (CK l).1 = ps.drop j := hI.2.2.1
  have hI4 : l.length ≤ 137438953472 := hI.2.2.2
  clear hI
  refine AQ ?_
  rcases hn : DC l with _ | x
  · exact absurd (Mk (by rw [K3 hn] at hI3; exact hI3) (by omega)) (by omega)
  obtain ⟨A8, hA8⟩ : ∃ A8, (if c = 8 then A else A.map (·.add 8)) = A8 := ⟨_, rfl⟩
  have hXx : E3 X (.slice A8 x.length (c - 8)) x := by have h3 := hXl.first hn; rwa [hA8] at h3
  have hx3 := (I4 (A := A) (c := c) hn).2.2
  rw [Il hn] at hI3
  obtain ⟨hpj, hq, hjl⟩ := Mj hI3
  rcases Nat.lt_or_ge j N with hjN | hjN
  · skip
    have hyj := hy j A8 (c - 8) x hpj hjN hXx
    obtain ⟨l1, hl1⟩ : ∃ l1, l.drop (8 + x.length) = l1 := ⟨_, rfl⟩
    obtain ⟨A1, hA1⟩ : ∃ A1, (if c = 8 + x.length then A else A.map (·.add (8 + x.length))) = A1 := ⟨_, rfl⟩
    obtain ⟨c1, hc1⟩ : ∃ c1, c - (8 + x.length) = c1 := ⟨_, rfl⟩
    have hs1 : Ca 1 (.slice A l.length c) (8 + x.length) l.length = .slice A1 l1.length c1 := by rw [Ty, hl1, hA1, hc1]
    have hX1 : E3 X (.slice A1 l1.length c1) l1 := by have h3 := hXl.drop (k := 8 + x.length) (by omega); rwa [hl1, hA1, hc1] at h3
    have hl2 : l1.length ≤ 137438953472 := by rw [← hl1, List.length_drop]; omega
    rw [hl1] at hq
    refine Ad ?_
    refine Af Ai rfl ?_
    refine Am (post := fun _ => [T j, X, cell g 30 #[.slice A0 y.length c0]]) rfl (Bc (Aj Tryz.func196 (by kernel_rfl) rfl) (fun w hH => Iu hn hA8 (hH.rd8 1 rfl hXl) hI4) rfl rfl rfl) ?_; rintro ⟨⟩
    refine Af Ai rfl ?_
    refine Ab (An (An ?_))
    refine Ip (I3 FR 5 (by rintro ⟨a, w, h⟩; first | exact h.elim | exact nomatch h.1 | (obtain ⟨_, h, _⟩ := h; exact nomatch h)) (by kernel_rfl) ?_)
    refine Af Ai rfl ?_
    refine MX ?_
    refine E0 (X := Unit) (post := fun _ => [T (j + 1), X]) (os' := fun _ => [T (j + 1), X, cell g 30 #[.slice A0 y.length c0]]) FR [0, 1] (hyj) rfl rfl rfl rfl rfl rfl (fun _ => rfl) ?_; rintro ⟨⟩
    refine El FR (by rintro ⟨a, w, h⟩; first | exact h.elim | exact nomatch h.1 | (obtain ⟨_, h, _⟩ := h; exact nomatch h)) (by kernel_rfl) ?_
    refine Af Ai rfl ?_
    refine AD (AB (As rfl (Aw (AB (BJ ?_)))))
    refine Af Ai rfl ?_
    refine Aa rfl (.int .i64 (x.length : Int)) (fun b w hb hH => Bp ((hH.rd8 1 rfl hXx).rd) Tryz.underlying30 rfl rfl hb) ?_
    refine Aa rfl (.int .i64 ((8 + x.length : Nat) : Int)) (fun b w hb hH => AH rfl rfl rfl rfl (by rw [IntWalk.i64_in _ (by omega)]; omega) hb) ?_
    refine Aa rfl (.slice A1 l1.length c1) (fun b w hb hH => DS (i := (8 + x.length)) Bf hs1 hx3 rfl rfl rfl hH hb) ?_
    refine Af Ai rfl ?_
    refine AD (AW ?_)
    exact Cm (j + 1, l1, A1, c1) 0 ⟨hjN, hX1, hq, hl2⟩ (show ps.length - (j + 1) < ps.length - j by omega) ⟨rfl, rfl, trivial⟩ rfl
  · skip
    obtain rfl : j = N := by omega
    have hyj := hz j A8 (c - 8) x hpj rfl hXx
    refine Ad ?_
    refine Af Ai rfl ?_
    refine Am (post := fun _ => [T j, X, cell g 30 #[.slice A0 y.length c0]]) rfl (Bc (Aj Tryz.func196 (by kernel_rfl) rfl) (fun w hH => Iu hn hA8 (hH.rd8 1 rfl hXl) hI4) rfl rfl rfl) ?_; rintro ⟨⟩
    refine Af Ai rfl ?_
    refine Ab (An (An ?_))
    refine Ip (I3 FR 5 (by rintro ⟨a, w, h⟩; first | exact h.elim | exact nomatch h.1 | (obtain ⟨_, h, _⟩ := h; exact nomatch h)) (by kernel_rfl) ?_)
    refine Af Ai rfl ?_
    refine MX ?_
    refine E0 (X := Unit) (post := fun _ => [Z, X]) (os' := fun _ => [Z, X, cell g 30 #[.slice A0 y.length c0]]) FR [0, 1] (hyj) rfl rfl rfl rfl rfl rfl (fun _ => rfl) ?_; rintro ⟨⟩
    refine El FR (by rintro ⟨a, w, h⟩; first | exact h.elim | exact nomatch h.1 | (obtain ⟨_, h, _⟩ := h; exact nomatch h)) (by kernel_rfl) ?_
    refine Af Ai rfl ?_
    refine AD (AB (AI rfl (Az (D8 (BC (D8 (BC ?_)))))))
    exact Kq  (fun w h => AC () rfl [0, 1, 2] rfl h Ed) rfl
theorem H5 {A0 : Option Addr} {n c0 : Nat} : AP Tryz.prog 165 #[.slice A0 n c0] [] (fun (g : Nat) => .func (.func 195) #[] #[.pointer (some ⟨g, 0, none⟩)]) (fun (g : Nat) => [cell g 30 #[.slice A0 n c0]]) := by
 refine Bj (args := [.slice A0 n c0]) 4 Tryz.func165 rfl rfl rfl ?_; intro w rs
 refine Ad ?_
 refine Af Ai rfl ?_
 refine Am (post := fun g => [cell g 30 #[.slice A0 n c0]]) rfl (CD (cs := #[.slice A0 n c0]) rfl rfl rfl) ?_; rintro g
 refine Af Ai rfl ?_
 refine Ab (Ad ?_)
 refine Af Ai rfl ?_
 refine Aa rfl (.func (.func 195) #[] #[.pointer (some ⟨g, 0, none⟩)]) (fun b w hb hH => Je rfl rfl hb) ?_
 refine Af Ai rfl ?_
 refine Ab (Az ?_)
 exact Ay (.tmp rfl) (fun w h => AC g rfl [0] rfl h Ed) rfl
theorem Oi {X : Ass} {v : Value} {y : List UInt8} (hX : E3 X v y) (hl : y.length ≤ 137438953472) : AP Tryz.prog 136 #[v] [X] (fun (x : Nat × Value) => .func (.func 164) #[] #[.pointer (some ⟨x.1, 0, none⟩)]) (fun (x : Nat × Value) => [X, cell x.1 30 #[x.2], Ak 5 1 encB x.2 y]) := by
 refine Bj (args := [v]) 7 Tryz.func136 rfl rfl rfl ?_; intro w rs
 refine Ad ?_
 refine Af Ai rfl ?_
 refine Ab (Ad ?_)
 refine Af Ai rfl ?_
 refine Am rfl (Au (os' := fun v9 => [Ak 5 1 encB v9 y, X]) [0] 0 (Aj Tryz.func114 (by kernel_rfl) rfl) (FQ hX (by omega)) rfl rfl rfl (fun _ => rfl) rfl rfl rfl) ?_; rintro v9
 refine Am (post := fun g => [cell g 30 #[.slice none 0 0], Ak 5 1 encB v9 y, X]) rfl (BW Pi rfl) ?_; rintro g
 refine AL (post := fun _ => [cell g 30 #[v9], Ak 5 1 encB v9 y, X]) rfl rfl (Ee 0 1 (v := v9) #[v9] CS.2 rfl (fun _ h => Ak.c1 h) rfl rfl rfl rfl rfl rfl rfl) ?_; rintro ⟨⟩
 refine Ab (Ad ?_)
 refine Af Ai rfl ?_
 refine Aa rfl (.func (.func 164) #[] #[.pointer (some ⟨g, 0, none⟩)]) (fun b w hb hH => Je rfl rfl hb) ?_
 refine Af Ai rfl ?_
 refine Ab (Az ?_)
 exact Ay (.tmp rfl) (fun w h => AC (g, v9) rfl [2, 0, 1] rfl h Ed) rfl
end Go.Proofs.YtnknboibmifacaaGreatDoor.Sep
namespace Go.Proofs.YtnknboibmifacaaGreatDoor.Sep
open Go.RowKit
open Go.Proofs.YtnknboibmifacaaGreatDoor.Mem (AR B3 Chg Av)
def Gt (gy : Nat) (f : Value) (X : Ass) : Ass := fun rs => Al [cell gy 214 #[f], X] rs
theorem Gt.open_ {gy : Nat} {f : Value} {X : Ass} : ∀ rs, Gt gy f X rs → ∃ _ : Unit, Al [cell gy 214 #[f], X] rs := fun _ h => ⟨(), h⟩
theorem I5 {gy : Nat} {f : Value} (X : Ass) : ∀ rs, Al [cell gy 214 #[f], X] rs → Gt gy f X rs := fun _ h => h
theorem Xv (k : Fn) (caps : Array Value) (g : Nat) (T : Nat → Ass) {A0 : Option Addr} {c0 : Nat} {y : List UInt8} {ps : List (List UInt8)} {N : Nat} (hl : y.length ≤ 137438953472) (hr : (CK y).1 = ps) (hlen : ∀ x, x ∈ ps → x.length ≤ 65536) (hN : ps.length = N) (hyy : ∀ j x d, ps[j]? = some x → CQ Tryz.prog (.func k #[] caps) [d] [T j, Ak 5 1 encB d x] (fun _ : Unit => .bool true) (fun _ : Unit => [T (j + 1)])) : AP Tryz.prog 164 #[.func k #[] caps, .pointer (some ⟨g, 0, none⟩)] [T 0, Ak 5 1 encB (.slice A0 y.length c0) y, cell g 30 #[.slice A0 y.length c0]] (fun (_ : Unit) => .tuple #[]) (fun (_ : Unit) => [T N, Ak 5 1 encB (.slice A0 y.length c0) y, cell g 30 #[.slice A0 y.length c0]]) := by
  refine JC (args := [.func k #[] caps, .pointer (some ⟨g, 0, none⟩)]) 14 Tryz.func164 rfl rfl rfl ?_; intro w rs
  refine Ad ?_
  refine Af Ai rfl ?_
  refine Am (post := fun gy => [cell gy 214 #[.func k #[] caps], T 0, Ak 5 1 encB (.slice A0 y.length c0) y, cell g 30 #[.slice A0 y.length c0]]) rfl (CD (cs := #[.func k #[] caps]) rfl rfl rfl) ?_; rintro gy
  refine Ab (An (Ad ?_))
  refine Af Ai rfl ?_
  refine Aa rfl (.func k #[] caps) (fun b w hb hH => AY rfl rfl (Bi Cs rfl) (hH.row 0 rfl) hb) ?_
  refine Aa rfl (.bool false) (fun b w hb hH => EN Tryz.underlying214 rfl rfl rfl hb) ?_
  refine Ab (As rfl (Aw (AB ?_)))
  refine Bg [0, 1] rfl (I5 (T 0)) rfl ?_
  refine Ad ?_
  refine Af Ai rfl ?_
  refine Aa rfl (.slice A0 y.length c0) (fun b w hb hH => AY rfl rfl (Bi CS rfl) (hH.row 2 rfl) hb) ?_
  refine Am rfl (Au (os' := fun g2 => [cell g2 30 #[.slice A0 y.length c0], Gt gy (.func k #[] caps) (T 0), Ak 5 1 encB (.slice A0 y.length c0) y, cell g 30 #[.slice A0 y.length c0]]) [] 0 (Aj Tryz.func165 (by kernel_rfl) rfl) (H5) rfl rfl rfl (fun _ => rfl) rfl rfl rfl) ?_; rintro g2
  refine Ab (AQ ?_)
  refine AN.keep (env' := [(0, .func k #[] caps), (1, .pointer (some ⟨g, 0, none⟩)), (2, .pointer (some ⟨gy, 0, none⟩)), (4, .func k #[] caps), (5, .bool false), (6, .slice A0 y.length c0), (7, .func (.func 195) #[] #[.pointer (some ⟨g2, 0, none⟩)])]) ⟨rfl, rfl, rfl, rfl, rfl, rfl, rfl, trivial⟩ ?_
  refine AN.mid [cell g2 30 #[.slice A0 y.length c0], Gt gy (.func k #[] caps) (T 0), Ak 5 1 encB (.slice A0 y.length c0) y, cell g 30 #[.slice A0 y.length c0]] (.refl _) ?_
  refine Fi (caps := [.pointer (some ⟨g2, 0, none⟩)]) (post := [Gt gy (.func k #[] caps) (T N), Ak 5 1 encB (.slice A0 y.length c0) y, cell g2 30 #[.slice A0 y.length c0]]) (os' := [Gt gy (.func k #[] caps) (T N), Ak 5 1 encB (.slice A0 y.length c0) y, cell g2 30 #[.slice A0 y.length c0], cell g 30 #[.slice A0 y.length c0]]) (.normal) [1, 2, 0] rfl (Aj Tryz.func195 (by kernel_rfl) rfl) (fun L1 fn1 tm1 hf1 r1 k11 k12 k13 k14 k15 k16 => Mg (RS (.yield L1) #[] g2 (Ak 5 1 encB (.slice A0 y.length c0) y) (fun j => EH L1 r1 (Gt gy (.func k #[] caps) (T j))) DI hl hr hN ?_)) rfl rfl rfl ?_
  · skip
    intro j A c x hpj hXx
    have hxl : x.length ≤ 65536 := hlen x (List.mem_of_getElem? hpj)
    refine JZ (CE (n := 14) (env := [(8, .slice A x.length c), (0, .func k #[] caps), (1, .pointer (some ⟨g, 0, none⟩)), (2, .pointer (some ⟨gy, 0, none⟩)), (4, .func k #[] caps), (5, .bool false), (6, .slice A0 y.length c0), (7, .func (.func 195) #[] #[.pointer (some ⟨g2, 0, none⟩)])]) (.normal) k12 k11 (by rw [k14]; rfl) ?_ ?_)
    · rw [k14, k13]
      refine (congrArg (fun t => Fr 14 { tmps := t, defers := [] } _) (?_ : _ = (tm1.setIfInBounds 8 (.slice A x.length c)))).mpr (hf1.put (d := 8) (by decide) _)
      simp
    · intro w0 rs
      rw [k15]
      refine Dm (by kernel_rfl) (by rintro ⟨a, w, h⟩; first | exact h.elim | exact nomatch h.1 | (obtain ⟨_, h, _⟩ := h; exact nomatch h)) ?_
      refine Af Ai rfl ?_
      refine AD ?_
      refine EM 0 rfl k11 ?_
      rw [k16]
      refine DP 1 rfl Gt.open_ (fun _ => rfl) ?_; rintro ⟨⟩
      refine D1 ?_
      refine DD ?_
      refine K6 1 rfl ?_
      refine PP 3 1 [⟨.quiet, [none], fun _ => .func k #[] caps, []⟩, ⟨.quiet, [none], fun _ => .slice A x.length c, []⟩, ⟨.act 0, [some false], fun _ => undef, [1]⟩] [(2, .pointer (some ⟨gy, 0, none⟩)), (3, .slice A x.length c)] (fun ρ => match ρ with | [r0] => [DR r0 (fun d1 => Ak 5 1 encB d1 x) (GE), cell gy 214 #[.func k #[] caps], T j, BB L1 (BP r1), Ak 5 1 encB (.slice A0 y.length c0) y] | _ => []) (by kernel_rfl) (by kernel_rfl) (by kernel_rfl) ⟨rfl, rfl, trivial⟩ rfl ?_ ?_
      · skip
        refine Ac (by intro r0_; exact ⟨rfl, fun b w hH hb => AY rfl rfl (Bi Cs rfl) (hH.row 1 rfl) hb⟩) ?_
        refine Ac (by intro r0_; exact ⟨rfl, fun b w hH hb => Ah Ai rfl hb⟩) ?_
        refine Ac (by exact ⟨rfl, Bm.s (Au (os' := fun d1 => [Ak 5 1 encB d1 x, cell gy 214 #[.func k #[] caps], T j, BB L1 (BP r1), Ak 5 1 encB (.slice A0 y.length c0) y]) [4, 0] 1 (Aj Tryz.func114 (by kernel_rfl) rfl) (FQ hXx (by omega)) rfl rfl rfl (fun _ => rfl) rfl rfl rfl) (fun _ => rfl)⟩) ?_
        exact B7
      intro d1
      refine Nk.keep (env' := [(9, .func k #[] caps), (11, d1)]) ⟨rfl, rfl, trivial⟩ ?_
      refine E0 (X := Unit) (post := fun _ => [T (j + 1)]) (os' := fun _ => [T (j + 1), cell gy 214 #[.func k #[] caps], BB L1 (BP r1), Ak 5 1 encB (.slice A0 y.length c0) y]) HS [2, 0] (hyy j x d1 hpj) rfl rfl rfl rfl rfl rfl (fun _ => rfl) ?_; rintro ⟨⟩
      refine El HS (by rintro ⟨a, w, h⟩; first | exact h.elim | exact nomatch h.1 | (obtain ⟨_, h, _⟩ := h; exact nomatch h)) (by kernel_rfl) ?_
      refine Af Ai rfl ?_
      refine AD ?_
      refine Fb ?_
      refine Iq rfl ?_
      refine Ir ?_
      refine AW ?_
      refine CN [1, 0] rfl (I5 (T (j + 1))) rfl ?_
      exact FE [1, 0, 2] rfl rfl
  intro D aT wT hD hD0 hd hF hH
  obtain ⟨_, hH⟩ := Fc 0 rfl Gt.open_ hH
  exact K8 (e := .normal) rfl (fun w' h => AC (X := Unit) (val := fun _ => .tuple #[]) (post := fun _ => [T N, Ak 5 1 encB (.slice A0 y.length c0) y, cell g 30 #[.slice A0 y.length c0]]) (os := [cell gy 214 #[.func k #[] caps], T N, Ak 5 1 encB (.slice A0 y.length c0) y, cell g2 30 #[.slice A0 y.length c0], cell g 30 #[.slice A0 y.length c0]]) () rfl [1, 2, 4] rfl h Ed) (by simp) D aT wT hD hD0 hd hF hH
theorem Xf (k : Fn) (caps : Array Value) (g : Nat) (T : Nat → Ass) (Z : Ass) {A0 : Option Addr} {c0 : Nat} {y : List UInt8} {ps : List (List UInt8)} {N : Nat} (hl : y.length ≤ 137438953472) (hr : (CK y).1 = ps) (hlen : ∀ x, x ∈ ps → x.length ≤ 65536) (hN : N < ps.length) (hyy : ∀ j x d, ps[j]? = some x → j < N → CQ Tryz.prog (.func k #[] caps) [d] [T j, Ak 5 1 encB d x] (fun _ : Unit => .bool true) (fun _ : Unit => [T (j + 1)])) (hzz : ∀ j x d, ps[j]? = some x → j = N → CQ Tryz.prog (.func k #[] caps) [d] [T j, Ak 5 1 encB d x] (fun _ : Unit => .bool false) (fun _ : Unit => [Z])) : AP Tryz.prog 164 #[.func k #[] caps, .pointer (some ⟨g, 0, none⟩)] [T 0, Ak 5 1 encB (.slice A0 y.length c0) y, cell g 30 #[.slice A0 y.length c0]] (fun (_ : Unit) => .tuple #[]) (fun (_ : Unit) => [Z, Ak 5 1 encB (.slice A0 y.length c0) y, cell g 30 #[.slice A0 y.length c0]]) := by
  refine JC (args := [.func k #[] caps, .pointer (some ⟨g, 0, none⟩)]) 14 Tryz.func164 rfl rfl rfl ?_; intro w rs
  refine Ad ?_
  refine Af Ai rfl ?_
  refine Am (post := fun gy => [cell gy 214 #[.func k #[] caps], T 0, Ak 5 1 encB (.slice A0 y.length c0) y, cell g 30 #[.slice A0 y.length c0]]) rfl (CD (cs := #[.func k #[] caps]) rfl rfl rfl) ?_; rintro gy
  refine Ab (An (Ad ?_))
  refine Af Ai rfl ?_
  refine Aa rfl (.func k #[] caps) (fun b w hb hH => AY rfl rfl (Bi Cs rfl) (hH.row 0 rfl) hb) ?_
  refine Aa rfl (.bool false) (fun b w hb hH => EN Tryz.underlying214 rfl rfl rfl hb) ?_
  refine Ab (As rfl (Aw (AB ?_)))
  refine Bg [0, 1] rfl (I5 (T 0)) rfl ?_
  refine Ad ?_
  refine Af Ai rfl ?_
  refine Aa rfl (.slice A0 y.length c0) (fun b w hb hH => AY rfl rfl (Bi CS rfl) (hH.row 2 rfl) hb) ?_
  refine Am rfl (Au (os' := fun g2 => [cell g2 30 #[.slice A0 y.length c0], Gt gy (.func k #[] caps) (T 0), Ak 5 1 encB (.slice A0 y.length c0) y, cell g 30 #[.slice A0 y.length c0]]) [] 0 (Aj Tryz.func165 (by kernel_rfl) rfl) (H5) rfl rfl rfl (fun _ => rfl) rfl rfl rfl) ?_; rintro g2
  refine Ab (AQ ?_)
  refine AN.keep (env' := [(0, .func k #[] caps), (1, .pointer (some ⟨g, 0, none⟩)), (2, .pointer (some ⟨gy, 0, none⟩)), (4, .func k #[] caps), (5, .bool false), (6, .slice A0 y.length c0), (7, .func (.func 195) #[] #[.pointer (some ⟨g2, 0, none⟩)])]) ⟨rfl, rfl, rfl, rfl, rfl, rfl, rfl, trivial⟩ ?_
  refine AN.mid [cell g2 30 #[.slice A0 y.length c0], Gt gy (.func k #[] caps) (T 0), Ak 5 1 encB (.slice A0 y.length c0) y, cell g 30 #[.slice A0 y.length c0]] (.refl _) ?_
  refine Fi (caps := [.pointer (some ⟨g2, 0, none⟩)]) (post := [Gt gy (.func k #[] caps) Z, Ak 5 1 encB (.slice A0 y.length c0) y, cell g2 30 #[.slice A0 y.length c0]]) (os' := [Gt gy (.func k #[] caps) Z, Ak 5 1 encB (.slice A0 y.length c0) y, cell g2 30 #[.slice A0 y.length c0], cell g 30 #[.slice A0 y.length c0]]) (.ret) [1, 2, 0] rfl (Aj Tryz.func195 (by kernel_rfl) rfl) (fun L1 fn1 tm1 hf1 r1 k11 k12 k13 k14 k15 k16 => Mg (PT (.yield L1) #[] g2 (Ak 5 1 encB (.slice A0 y.length c0) y) (fun j => EH L1 r1 (Gt gy (.func k #[] caps) (T j))) (EH L1 (Is .ret r1) (Gt gy (.func k #[] caps) Z)) DI hl hr hN ?_ ?_)) rfl rfl rfl ?_
  · skip
    intro j A c x hpj hjN hXx
    have hxl : x.length ≤ 65536 := hlen x (List.mem_of_getElem? hpj)
    refine JZ (CE (n := 14) (env := [(8, .slice A x.length c), (0, .func k #[] caps), (1, .pointer (some ⟨g, 0, none⟩)), (2, .pointer (some ⟨gy, 0, none⟩)), (4, .func k #[] caps), (5, .bool false), (6, .slice A0 y.length c0), (7, .func (.func 195) #[] #[.pointer (some ⟨g2, 0, none⟩)])]) (.normal) k12 k11 (by rw [k14]; rfl) ?_ ?_)
    · rw [k14, k13]
      refine (congrArg (fun t => Fr 14 { tmps := t, defers := [] } _) (?_ : _ = (tm1.setIfInBounds 8 (.slice A x.length c)))).mpr (hf1.put (d := 8) (by decide) _)
      simp
    · intro w0 rs
      rw [k15]
      refine Dm (by kernel_rfl) (by rintro ⟨a, w, h⟩; first | exact h.elim | exact nomatch h.1 | (obtain ⟨_, h, _⟩ := h; exact nomatch h)) ?_
      refine Af Ai rfl ?_
      refine AD ?_
      refine EM 0 rfl k11 ?_
      rw [k16]
      refine DP 1 rfl Gt.open_ (fun _ => rfl) ?_; rintro ⟨⟩
      refine D1 ?_
      refine DD ?_
      refine K6 1 rfl ?_
      refine PP 3 1 [⟨.quiet, [none], fun _ => .func k #[] caps, []⟩, ⟨.quiet, [none], fun _ => .slice A x.length c, []⟩, ⟨.act 0, [some false], fun _ => undef, [1]⟩] [(2, .pointer (some ⟨gy, 0, none⟩)), (3, .slice A x.length c)] (fun ρ => match ρ with | [r0] => [DR r0 (fun d1 => Ak 5 1 encB d1 x) (GE), cell gy 214 #[.func k #[] caps], T j, BB L1 (BP r1), Ak 5 1 encB (.slice A0 y.length c0) y] | _ => []) (by kernel_rfl) (by kernel_rfl) (by kernel_rfl) ⟨rfl, rfl, trivial⟩ rfl ?_ ?_
      · skip
        refine Ac (by intro r0_; exact ⟨rfl, fun b w hH hb => AY rfl rfl (Bi Cs rfl) (hH.row 1 rfl) hb⟩) ?_
        refine Ac (by intro r0_; exact ⟨rfl, fun b w hH hb => Ah Ai rfl hb⟩) ?_
        refine Ac (by exact ⟨rfl, Bm.s (Au (os' := fun d1 => [Ak 5 1 encB d1 x, cell gy 214 #[.func k #[] caps], T j, BB L1 (BP r1), Ak 5 1 encB (.slice A0 y.length c0) y]) [4, 0] 1 (Aj Tryz.func114 (by kernel_rfl) rfl) (FQ hXx (by omega)) rfl rfl rfl (fun _ => rfl) rfl rfl rfl) (fun _ => rfl)⟩) ?_
        exact B7
      intro d1
      refine Nk.keep (env' := [(9, .func k #[] caps), (11, d1)]) ⟨rfl, rfl, trivial⟩ ?_
      refine E0 (X := Unit) (post := fun _ => [T (j + 1)]) (os' := fun _ => [T (j + 1), cell gy 214 #[.func k #[] caps], BB L1 (BP r1), Ak 5 1 encB (.slice A0 y.length c0) y]) HS [2, 0] (hyy j x d1 hpj hjN) rfl rfl rfl rfl rfl rfl (fun _ => rfl) ?_; rintro ⟨⟩
      refine El HS (by rintro ⟨a, w, h⟩; first | exact h.elim | exact nomatch h.1 | (obtain ⟨_, h, _⟩ := h; exact nomatch h)) (by kernel_rfl) ?_
      refine Af Ai rfl ?_
      refine AD ?_
      refine Fb ?_
      refine Iq rfl ?_
      refine Ir ?_
      refine AW ?_
      refine CN [1, 0] rfl (I5 (T (j + 1))) rfl ?_
      exact FE [1, 0, 2] rfl rfl
  · skip
    intro j A c x hpj hjN hXx
    have hxl : x.length ≤ 65536 := hlen x (List.mem_of_getElem? hpj)
    refine JZ (CE (n := 14) (env := [(8, .slice A x.length c), (0, .func k #[] caps), (1, .pointer (some ⟨g, 0, none⟩)), (2, .pointer (some ⟨gy, 0, none⟩)), (4, .func k #[] caps), (5, .bool false), (6, .slice A0 y.length c0), (7, .func (.func 195) #[] #[.pointer (some ⟨g2, 0, none⟩)])]) (.ret) k12 k11 (by rw [k14]; rfl) ?_ ?_)
    · rw [k14, k13]
      refine (congrArg (fun t => Fr 14 { tmps := t, defers := [] } _) (?_ : _ = (tm1.setIfInBounds 8 (.slice A x.length c)))).mpr (hf1.put (d := 8) (by decide) _)
      simp
    · intro w0 rs
      rw [k15]
      refine Dm (by kernel_rfl) (by rintro ⟨a, w, h⟩; first | exact h.elim | exact nomatch h.1 | (obtain ⟨_, h, _⟩ := h; exact nomatch h)) ?_
      refine Af Ai rfl ?_
      refine AD ?_
      refine EM 0 rfl k11 ?_
      rw [k16]
      refine DP 1 rfl Gt.open_ (fun _ => rfl) ?_; rintro ⟨⟩
      refine D1 ?_
      refine DD ?_
      refine K6 1 rfl ?_
      refine PP 3 1 [⟨.quiet, [none], fun _ => .func k #[] caps, []⟩, ⟨.quiet, [none], fun _ => .slice A x.length c, []⟩, ⟨.act 0, [some false], fun _ => undef, [1]⟩] [(2, .pointer (some ⟨gy, 0, none⟩)), (3, .slice A x.length c)] (fun ρ => match ρ with | [r0] => [DR r0 (fun d1 => Ak 5 1 encB d1 x) (GE), cell gy 214 #[.func k #[] caps], T j, BB L1 (BP r1), Ak 5 1 encB (.slice A0 y.length c0) y] | _ => []) (by kernel_rfl) (by kernel_rfl) (by kernel_rfl) ⟨rfl, rfl, trivial⟩ rfl ?_ ?_
      · skip
        refine Ac (by intro r0_; exact ⟨rfl, fun b w hH hb => AY rfl rfl (Bi Cs rfl) (hH.row 1 rfl) hb⟩) ?_
        refine Ac (by intro r0_; exact ⟨rfl, fun b w hH hb => Ah Ai rfl hb⟩) ?_
        refine Ac (by exact ⟨rfl, Bm.s (Au (os' := fun d1 => [Ak 5 1 encB d1 x, cell gy 214 #[.func k #[] caps], T j, BB L1 (BP r1), Ak 5 1 encB (.slice A0 y.length c0) y]) [4, 0] 1 (Aj Tryz.func114 (by kernel_rfl) rfl) (FQ hXx (by omega)) rfl rfl rfl (fun _ => rfl) rfl rfl rfl) (fun _ => rfl)⟩) ?_
        exact B7
      intro d1
      refine Nk.keep (env' := [(9, .func k #[] caps), (11, d1)]) ⟨rfl, rfl, trivial⟩ ?_
      refine E0 (X := Unit) (post := fun _ => [Z]) (os' := fun _ => [Z, cell gy 214 #[.func k #[] caps], BB L1 (BP r1), Ak 5 1 encB (.slice A0 y.length c0) y]) HS [2, 0] (hzz j x d1 hpj hjN) rfl rfl rfl rfl rfl rfl (fun _ => rfl) ?_; rintro ⟨⟩
      refine El HS (by rintro ⟨a, w, h⟩; first | exact h.elim | exact nomatch h.1 | (obtain ⟨_, h, _⟩ := h; exact nomatch h)) (by kernel_rfl) ?_
      refine Af Ai rfl ?_
      refine AD ?_
      refine Fb ?_
      refine Tu rfl ?_
      refine VP ?_
      refine BC ?_
      refine CN [1, 0] rfl (I5 Z) rfl ?_
      exact FE [1, 0, 2] rfl rfl
  intro D aT wT hD hD0 hd hF hH
  obtain ⟨_, hH⟩ := Fc 0 rfl Gt.open_ hH
  exact K8 (e := .ret) rfl (fun w' h => AC (X := Unit) (val := fun _ => .tuple #[]) (post := fun _ => [Z, Ak 5 1 encB (.slice A0 y.length c0) y, cell g 30 #[.slice A0 y.length c0]]) (os := [cell gy 214 #[.func k #[] caps], Z, Ak 5 1 encB (.slice A0 y.length c0) y, cell g2 30 #[.slice A0 y.length c0], cell g 30 #[.slice A0 y.length c0]]) () rfl [1, 2, 4] rfl h Ed) (by simp) D aT wT hD hD0 hd hF hH
end Go.Proofs.YtnknboibmifacaaGreatDoor.Sep
namespace Go.Proofs.YtnknboibmifacaaGreatDoor.Sep
def Cd (ps : List (List UInt8)) : Nat := (ps.map fun x => 8 + x.length).sum
theorem JD {ps : List (List UInt8)} {j : Nat} {x : List UInt8} (h : ps[j]? = some x) : Cd (ps.take (j + 1)) = Cd (ps.take j) + (8 + x.length) := by
 unfold Cd
 have hlt := (List.getElem?_eq_some_iff.1 h).1
 rw [List.take_add_one, h]
 simp
theorem QI (ps : List (List UInt8)) (j : Nat) : Cd (ps.take j) ≤ Cd ps := by
 have h : Cd ps = Cd (ps.take j) + Cd (ps.drop j) := by
  unfold Cd
  rw [← List.sum_append, ← List.map_append, List.take_append_drop]
 omega
theorem Ml (x : List UInt8) (ps : List (List UInt8)) : Cd (x :: ps) = 8 + x.length + Cd ps := by simp [Cd]
theorem JE : ∀ (k : Nat) (b : List UInt8), (EW k b).2 = Cd (EW k b).1
  | 0, _ => rfl
  | k + 1, b => by
    simp only [EW]
    cases h : DC b with
    | none => rfl
    | some x => rw [Ml]; simp only [← JE k]
def FN : Nat → List (List UInt8) → List (EntD × Nat)
  | _, [] => []
  | o, p :: ps => if (Ei p).2 = 0 then ((Ei p).1, o + (8 + p.length)) :: FN (o + (8 + p.length)) ps else []
theorem HE : ∀ (ps : List (List UInt8)) (o : Nat), (FN o ps).length ≤ ps.length
  | [], _ => Nat.le_refl _
  | p :: ps, o => by
    unfold FN
    split
    · simpa using HE ps _
    · simp
theorem K9 : ∀ {ps : List (List UInt8)} {o j : Nat} {e : EntD} {n : Nat}, (FN o ps)[j]? = some (e, n) → ∃ p, ps[j]? = some p ∧ Ei p = (e, 0) ∧ n = o + Cd (ps.take (j + 1))
  | [], _, j, _, _, h => by simp [FN] at h
  | p :: ps, o, j, e, n, h => by
    unfold FN at h
    split at h
    · rename_i h0
      cases j with
      | zero =>
        simp only [List.getElem?_cons_zero, Option.some.injEq, Prod.mk.injEq] at h
        refine ⟨p, rfl, Prod.ext h.1 h0, ?_⟩
        simp only [List.take_succ_cons, List.take_zero, Cd, List.map_cons, List.map_nil, List.sum_cons, List.sum_nil]
        omega
      | succ j =>
        simp only [List.getElem?_cons_succ] at h
        obtain ⟨q, h1, h2, h3⟩ := K9 h
        refine ⟨q, by simpa using h1, h2, ?_⟩
        rw [List.take_succ_cons, Ml]
        omega
    · simp at h
theorem La : ∀ {ps : List (List UInt8)} {o : Nat} {p : List UInt8}, ps[(FN o ps).length]? = some p → (Ei p).2 ≠ 0
  | [], _, _, h => by simp at h
  | q :: ps, o, p, h => by
    unfold FN at h
    split at h
    · rename_i h0
      simp only [List.length_cons, List.getElem?_cons_succ] at h
      exact La h
    · rename_i h0
      simp only [List.length_nil, List.getElem?_cons_zero, Option.some.injEq] at h
      rw [← h]; exact h0
def J4 (b : List UInt8) : List (EntD × Nat) := FN 0 (CK b).1
end Go.Proofs.YtnknboibmifacaaGreatDoor.Sep
namespace Go.Proofs.YtnknboibmifacaaGreatDoor.Sep
open Go.RowKit
open Go.Proofs.YtnknboibmifacaaGreatDoor.Mem (AR B3 Chg Av)
theorem DE : C7 Tryz.prog 182 := Eo Tryz.underlying182 rfl (by kernel_rfl)
theorem Lb : LJ Tryz.prog 235 #[.int .u8 0, .int .u8 0, .int .u8 0, .int .u8 0, .int .u8 0, .int .u8 0, .int .u8 0, .int .u8 0, .int .u8 0, .int .u8 0, .int .u8 0, .int .u8 0, .int .u8 0, .int .u8 0, .int .u8 0, .int .u8 0, .int .u8 0, .int .u8 0, .int .u8 0, .int .u8 0, .int .u8 0, .int .u8 0, .int .u8 0, .int .u8 0, .int .u8 0, .int .u8 0, .int .u8 0, .int .u8 0, .int .u8 0, .int .u8 0, .int .u8 0, .int .u8 0, .int .u8 0, .int .u8 0, .int .u8 0, .int .u8 0, .int .u8 0, .int .u8 0, .int .u8 0, .int .u8 0, .int .u8 0, .int .u8 0, .int .u8 0, .int .u8 0, .int .u8 0, .int .u8 0, .int .u8 0, .int .u8 0, .int .u8 0, .int .u8 0, .int .u8 0, .int .u8 0, .int .u8 0, .int .u8 0, .int .u8 0, .int .u8 0, .int .u8 0, .int .u8 0, .int .u8 0, .int .u8 0, .int .u8 0, .int .u8 0, .int .u8 0, .int .u8 0, .int .u8 0] := Hh (z := .agg #[.int .u8 0, .int .u8 0, .int .u8 0, .int .u8 0, .int .u8 0, .int .u8 0, .int .u8 0, .int .u8 0, .int .u8 0, .int .u8 0, .int .u8 0, .int .u8 0, .int .u8 0, .int .u8 0, .int .u8 0, .int .u8 0, .int .u8 0, .int .u8 0, .int .u8 0, .int .u8 0, .int .u8 0, .int .u8 0, .int .u8 0, .int .u8 0, .int .u8 0, .int .u8 0, .int .u8 0, .int .u8 0, .int .u8 0, .int .u8 0, .int .u8 0, .int .u8 0, .int .u8 0, .int .u8 0, .int .u8 0, .int .u8 0, .int .u8 0, .int .u8 0, .int .u8 0, .int .u8 0, .int .u8 0, .int .u8 0, .int .u8 0, .int .u8 0, .int .u8 0, .int .u8 0, .int .u8 0, .int .u8 0, .int .u8 0, .int .u8 0, .int .u8 0, .int .u8 0, .int .u8 0, .int .u8 0, .int .u8 0, .int .u8 0, .int .u8 0, .int .u8 0, .int .u8 0, .int .u8 0, .int .u8 0, .int .u8 0, .int .u8 0, .int .u8 0, .int .u8 0]) (by kernel_rfl) rfl
theorem Em : C7 Tryz.prog 26 := Eo Tryz.underlying26 rfl (by kernel_rfl)
theorem C4 : C7 Tryz.prog 85 := Eo Tryz.underlying85 rfl (by kernel_rfl)
theorem CL : C7 Tryz.prog 22 := Eo Tryz.underlying22 rfl (by kernel_rfl)
theorem Bw : C7 Tryz.prog 90 := Eo Tryz.underlying90 rfl (by kernel_rfl)
theorem B5 : Kl Tryz.prog 92 2 := Ss Tryz.underlying92 rfl (by kernel_rfl)
theorem BQ : C7 Tryz.prog 100 := Eo Tryz.underlying100 rfl (by kernel_rfl)
theorem JF : LJ Tryz.prog 100 #[.pointer none] := Hh (z := .pointer none) (by kernel_rfl) rfl
theorem MZ : Bx Tryz.prog 87 2 2 := fun g off w => by kernel_rfl
theorem M1 : Bx Tryz.prog 87 0 0 := fun g off w => by kernel_rfl
theorem Bn : Bx Tryz.prog 92 0 0 := fun g off w => by kernel_rfl
theorem Bo : Bx Tryz.prog 92 1 1 := fun g off w => by kernel_rfl
theorem FT : Bx Tryz.prog 104 1 1 := fun g off w => by kernel_rfl
theorem H6 : Bx Tryz.prog 104 0 0 := fun g off w => by kernel_rfl
theorem M2 : Bx Tryz.prog 87 1 1 := fun g off w => by kernel_rfl
theorem Hb (i : Nat) (h : i < 65) : Sy Tryz.prog 235 (i : Int) i := fun g off w => UE Tryz.underlying235 (by kernel_rfl) h
theorem Ba : SliceT Tryz.prog 85 92 2 := Ff (z := .agg #[.int .u64 0, .slice none 0 0]) Tryz.underlying85 (by kernel_rfl) rfl rfl (by decide)
theorem Cl : SliceT Tryz.prog 90 104 2 := Ff (z := .agg #[.int .u64 0, .int .i64 0]) Tryz.underlying90 (by kernel_rfl) rfl rfl (by decide)
theorem RT : SliceT Tryz.prog 35 9 1 := Ff (z := .string { data := #[] }) Tryz.underlying35 (by kernel_rfl) rfl rfl (by decide)
def flT : List ((Nat × Nat) × Nat) := [((87, 2), 2), ((87, 0), 0), ((92, 0), 0), ((92, 1), 1), ((104, 1), 1), ((104, 0), 0), ((87, 1), 1)] ++ flS
theorem Lc {P : Program} {b : List ((Nat × Nat) × Nat)} (hb : LK P b) : ∀ {a : List ((Nat × Nat) × Nat)}, MD P a → LK P (a ++ b)
  | [], _ => hb
  | ((s, f), k) :: r, ha => fun S g q h => by
    simp only [List.cons_append] at h
    unfold WU at h
    cases h1 : Nat.beq s S with
    | false => simp only [h1] at h; exact Lc hb ha.2 S g q h
    | true =>
      cases h2 : Nat.beq f g with
      | false => simp only [h1, h2] at h; exact Lc hb ha.2 S g q h
      | true =>
        simp only [h1, h2, Option.some.injEq] at h
        have e1 := Nat.eq_of_beq_eq_true h1
        have e2 := Nat.eq_of_beq_eq_true h2
        subst e1; subst e2; subst h
        exact ha.1
theorem Ae : LK Tryz.prog flT := Lc Ai ⟨MZ, M1, Bn, Bo, FT, H6, M2, trivial⟩
end Go.Proofs.YtnknboibmifacaaGreatDoor.Sep
