/-
  SgA · SgM · Beh · TyU · PhL
-/
import Derived.Test.YtjcfimmcogkopaaGreatPB01
import Derived.Test.YtjcfimmcogkopaaGreatPB02
import Derived.Test.YtjcfimmcogkopaaGreatPG01
import Derived.Test.YtjcfimmcogkopaaGreatPH01
import Derived.OrdersIn
set_option linter.unusedSimpArgs false
set_option linter.unusedVariables false
set_option maxRecDepth 100000
namespace Go.Proofs.YtjcfimmcogkopaaGreat.Sep
open Go.RowKit
open Go.Proofs.YtjcfimmcogkopaaGreat.Mem (Bh Cs Chg AA)
theorem Qi {w : World} {y : List UInt8} {A : Option Addr} {c : Nat} (hn : Cc y = none) (hv : D6 w (.slice A y.length c) y) (hl : y.length ≤ 137438953472) : Calls Tryz.prog 101 #[.slice A y.length c] w fun e w' => e = .returned (.tuple #[P7 A c y, .bool false]) ∧ Below w.heap.size w w' := by
 have h := Rm w hv hl
 rwa [hn] at h
theorem LD {A : Option Addr} {c : Nat} {y x : List UInt8} (hn : Cc y = some x) : P7 A c y = .slice (if c = 8 then A else A.map (·.add 8)) x.length (c - 8) ∧ x = (y.drop 8).take x.length ∧ 8 + x.length ≤ y.length := by
  have hx := Ht hn
  unfold Cc at hn
  split at hn
  · rename_i h
    cases hn
    refine ⟨?_, ?_, hx.1⟩
    · unfold P7
      rw [if_pos ⟨h.1, h.2.1, h.2.2.1⟩, List.length_take, List.length_drop, Nat.min_eq_left (by omega)]
    · rw [List.length_take, List.length_drop, Nat.min_eq_left (by omega)]
  · cases hn
theorem Qj {w : World} {y x : List UInt8} {A A8 : Option Addr} {c : Nat} (hn : Cc y = some x) (hA : (if c = 8 then A else A.map (·.add 8)) = A8) (hv : D6 w (.slice A y.length c) y) (hl : y.length ≤ 137438953472) : Calls Tryz.prog 101 #[.slice A y.length c] w fun e w' => e = .returned (.tuple #[.slice A8 x.length (c - 8), .bool true]) ∧ Below w.heap.size w w' := by
  have h := Rm w hv hl
  rwa [(LD hn).1, hn, hA] at h
theorem CO.first {X : Ass} {y x : List UInt8} {A : Option Addr} {c : Nat} (hX : CO X (.slice A y.length c) y) (hn : Cc y = some x) : CO X (.slice (if c = 8 then A else A.map (·.add 8)) x.length (c - 8)) x := fun rs w h1 h2 => by
  obtain ⟨_, h3, h4⟩ := LD (A := A) (c := c) hn
  have h5 := OJ (LA (hX rs w h1 h2) (i := 8) (by omega)) (k := x.length) (by rw [List.length_drop]; omega)
  rwa [← h3] at h5
theorem SD {ps q : List (List UInt8)} {x : List UInt8} {j : Nat} (h : x :: q = ps.drop j) : ps[j]? = some x ∧ q = ps.drop (j + 1) ∧ j < ps.length := by
  have h1 : ps[j]? = some x := by
    have := congrArg (·[0]?) h
    simpa using this.symm
  have hlt := (List.getElem?_eq_some_iff.1 h1).1
  refine ⟨h1, ?_, hlt⟩
  rw [List.drop_eq_getElem_cons hlt] at h
  exact (List.cons.inj h).2
theorem SE {ps : List (List UInt8)} {j : Nat} (h : [] = ps.drop j) (hj : j ≤ ps.length) : j = ps.length := by
 have := congrArg List.length h
 rw [List.length_nil, List.length_drop] at this
 omega
theorem Xj {A : Option Addr} {c k : Nat} {l : List UInt8} : CB 1 (.slice A l.length c) k l.length = .slice (if c = k then A else A.map (·.add k)) (l.drop k).length (c - k) := by
  rw [List.length_drop]; exact Jj
theorem SF (k : Fn) (caps : Array Value) (g : Nat) (X : Ass) (T : Nat → Ass) {A0 : Option Addr} {c0 : Nat} {y : List UInt8} {ps : List (List UInt8)} (hX : CO X (.slice A0 y.length c0) y) (hl : y.length ≤ 137438953472) (hr : (Ca y).1 = ps) {N : Nat} (hN : ps.length = N) (hy : (∀ j A c x, ps[j]? = some x → CO X (.slice A x.length c) x → F0 Tryz.prog (.func k #[] caps) [.slice A x.length c] [T j, X] (fun _ : Unit => .bool true) (fun _ => [T (j + 1), X]))) : AX Tryz.prog 100 #[.func k #[] caps, .pointer (some ⟨g, 0, none⟩)] [T 0, X, cell g 32 #[.slice A0 y.length c0]] (fun (_ : Unit) => .tuple #[]) (fun (_ : Unit) => [T N, X, cell g 32 #[.slice A0 y.length c0]]) := by
  refine Bg (args := [.func k #[] caps, .pointer (some ⟨g, 0, none⟩)]) 25 Tryz.func100 rfl rfl rfl ?_; intro w rs
  refine Ad (Ae Au rfl (Aa rfl (.slice A0 y.length c0) (fun b w hb hH => Ba rfl rfl (Bm Cx rfl) (hH.row 2 rfl) hb) (Ae Au rfl (Ab (Bo (Dd (α := Nat × List UInt8 × Option Addr × Nat) (fun ⟨j, l, A, c⟩ => [(0, .func k #[] caps), (3, .slice A l.length c)]) (fun ⟨j, l, A, c⟩ => [T j, X, cell g 32 #[.slice A0 y.length c0]]) (fun ⟨j, l, A, c⟩ => j ≤ ps.length ∧ CO X (.slice A l.length c) l ∧ (Ca l).1 = ps.drop j ∧ l.length ≤ 137438953472) (fun ⟨j, l, A, c⟩ => ps.length - j) (0, y, A0, c0) ⟨Nat.zero_le _, hX, by rw [hr]; rfl, hl⟩ ⟨rfl, rfl, trivial⟩ rfl ?_))))))
  rintro ⟨j, l, A, c⟩ hI
  refine BB.at_ (env' := [(0, .func k #[] caps), (3, .slice A l.length c)]) (rs' := [T j, X, cell g 32 #[.slice A0 y.length c0]]) ⟨rfl, rfl, trivial⟩ rfl ?_
  have hI1 := hI.1
  have hXl : CO X (.slice A l.length c) l := hI.2.1
  have hI3 : (Ca l).1 = ps.drop j := hI.2.2.1
  have hI4 : l.length ≤ 137438953472 := hI.2.2.2
  clear hI
  refine Bo ?_
  rcases hn : Cc l with _ | x
  rw [CZ hn] at hI3
  obtain rfl : j = N := (SE hI3 hI1).trans hN
  refine Ad (Ae Au rfl (Aj (post := fun _ => [T j, X, cell g 32 #[.slice A0 y.length c0]]) rfl (AU (Ai Tryz.func101 (by kernel_rfl) rfl) (fun w hH => Qi hn (hH.rd8 1 rfl hXl) hI4) rfl rfl rfl) ?_)); rintro ⟨⟩
  refine Ae Au rfl (Ab (Av (Ad (Ae Au rfl (Ab (AI rfl (Ax (C4 (BG (C4 (BG ?_)))))))))))
  exact MV  (fun w h => AH () rfl [0, 1, 2] rfl h CK) rfl
  obtain ⟨A8, hA8⟩ : ∃ A8, (if c = 8 then A else A.map (·.add 8)) = A8 := ⟨_, rfl⟩
  have hXx : CO X (.slice A8 x.length (c - 8)) x := by have h3 := hXl.first hn; rwa [hA8] at h3
  have hx3 := (LD (A := A) (c := c) hn).2.2
  rw [II hn] at hI3
  obtain ⟨hpj, hq, hjl⟩ := SD hI3
  have hyj := hy j A8 (c - 8) x hpj hXx
  obtain ⟨l1, hl1⟩ : ∃ l1, l.drop (8 + x.length) = l1 := ⟨_, rfl⟩
  obtain ⟨A1, hA1⟩ : ∃ A1, (if c = 8 + x.length then A else A.map (·.add (8 + x.length))) = A1 := ⟨_, rfl⟩
  obtain ⟨c1, hc1⟩ : ∃ c1, c - (8 + x.length) = c1 := ⟨_, rfl⟩
  have hs1 : CB 1 (.slice A l.length c) (8 + x.length) l.length = .slice A1 l1.length c1 := by rw [Xj, hl1, hA1, hc1]
  have hX1 : CO X (.slice A1 l1.length c1) l1 := by have h3 := hXl.drop (k := 8 + x.length) (by omega); rwa [hl1, hA1, hc1] at h3
  have hl2 : l1.length ≤ 137438953472 := by rw [← hl1, List.length_drop]; omega
  rw [hl1] at hq
  refine Ad (Ae Au rfl (Aj (post := fun _ => [T j, X, cell g 32 #[.slice A0 y.length c0]]) rfl (AU (Ai Tryz.func101 (by kernel_rfl) rfl) (fun w hH => Qj hn hA8 (hH.rd8 1 rfl hXl) hI4) rfl rfl rfl) ?_)); rintro ⟨⟩
  refine Ae Au rfl (Ab (Av (Av (Xb (XW W8 5 (by rintro ⟨a, w, h⟩; first | exact h.elim | exact nomatch h.1 | (obtain ⟨_, h, _⟩ := h; exact nomatch h)) (by kernel_rfl) (Ae Au rfl (Ye (Xa (X := Unit) (post := fun _ => [T (j + 1), X]) (os' := fun _ => [T (j + 1), X, cell g 32 #[.slice A0 y.length c0]]) W8 [0, 1] (hyj) rfl rfl rfl rfl rfl rfl (fun _ => rfl) ?_)))))))); rintro ⟨⟩
  refine Qd W8 (by rintro ⟨a, w, h⟩; first | exact h.elim | exact nomatch h.1 | (obtain ⟨_, h, _⟩ := h; exact nomatch h)) (by kernel_rfl) (Ae Au rfl (AV (AL (As rfl (AB (AL (Bp (Ae Au rfl (Aa rfl (.int .i64 (x.length : Int)) (fun b w hb hH => Bf ((hH.rd8 1 rfl hXx).rd) Tryz.underlying32 rfl rfl hb) (Aa rfl (.int .i64 ((8 + x.length : Nat) : Int)) (fun b w hb hH => AQ rfl rfl rfl rfl (by rw [IntWalk.i64_in _ (by omega)]; omega) hb) (Aa rfl (.slice A1 l1.length c1) (fun b w hb hH => Gb (i := (8 + x.length)) AJ hs1 hx3 rfl rfl rfl hH hb) (Ae Au rfl (AV (BC ?_))))))))))))))
  exact Cr (j + 1, l1, A1, c1) 0 ⟨hjl, hX1, hq, hl2⟩ (show ps.length - (j + 1) < ps.length - j by omega) ⟨rfl, rfl, trivial⟩ rfl
theorem L3 {A0 : Option Addr} {n c0 : Nat} : AX Tryz.prog 91 #[.slice A0 n c0] [] (fun (g : Nat) => .func (.func 100) #[] #[.pointer (some ⟨g, 0, none⟩)]) (fun (g : Nat) => [cell g 32 #[.slice A0 n c0]]) := by
 refine Bg (args := [.slice A0 n c0]) 4 Tryz.func91 rfl rfl rfl ?_; intro w rs
 refine Ad (Ae Au rfl (Aj (post := fun g => [cell g 32 #[.slice A0 n c0]]) rfl (CL (cs := #[.slice A0 n c0]) rfl rfl rfl) ?_)); rintro g
 refine Ae Au rfl (Ab (Ad (Ae Au rfl (Aa rfl (.func (.func 100) #[] #[.pointer (some ⟨g, 0, none⟩)]) (fun b w hb hH => WG rfl rfl hb) (Ae Au rfl (Ab (Ax ?_)))))))
 exact Aw (.tmp rfl) (fun w h => AH g rfl [0] rfl h CK) rfl
end Go.Proofs.YtjcfimmcogkopaaGreat.Sep
namespace Go.Proofs.YtjcfimmcogkopaaGreat.Sep
def C0 (ps : List (List UInt8)) : Nat := (ps.map fun x => 8 + x.length).sum
theorem SG {ps : List (List UInt8)} {j : Nat} {x : List UInt8} (h : ps[j]? = some x) : C0 (ps.take (j + 1)) = C0 (ps.take j) + (8 + x.length) := by
 unfold C0
 have hlt := (List.getElem?_eq_some_iff.1 h).1
 rw [List.take_add_one, h]
 simp
theorem V3 (ps : List (List UInt8)) (j : Nat) : C0 (ps.take j) ≤ C0 ps := by
 have h : C0 ps = C0 (ps.take j) + C0 (ps.drop j) := by
  unfold C0
  rw [← List.sum_append, ← List.map_append, List.take_append_drop]
 omega
theorem Mu (x : List UInt8) (ps : List (List UInt8)) : C0 (x :: ps) = 8 + x.length + C0 ps := by simp [C0]
theorem Mv : ∀ (k : Nat) (b : List UInt8), (Eg k b).2 = C0 (Eg k b).1
  | 0, _ => rfl
  | k + 1, b => by
    simp only [Eg]
    cases h : Cc b with
    | none => rfl
    | some x => rw [Mu]; simp only [← Mv k]
end Go.Proofs.YtjcfimmcogkopaaGreat.Sep
namespace Go.Proofs.YtjcfimmcogkopaaGreat.Sep
open Go.RowKit
open Go.Proofs.YtjcfimmcogkopaaGreat.Mem (Bh Cs Chg AA)
section
variable {P : Program} {ops : Array Oper} {Q : Exit → Act → World → Prop} {n d D : Nat} {env : List (Nat × Value)} {B : Nat → Prop} {w0 w : World} {os : List Ass} {o : Oper} {a : Act} {rest : List Oper}
theorem X2 {x y : Code} (h : Te D P (Exit.then (fun a w => y.wp P Q a w) Q) n env B w0 os x) : Te D P Q n env B w0 os (.seq x y) := fun a w hD h0 hd hF hH => wp_seq (h a w hD h0 hd hF hH)
theorem V4 {y : Code} (h : Te D P Q n env B w0 os y) (a : Act) (w : World) (hD : w.heap[D]? = some (.deferred (some []))) (h0 : w0.heap.size ≤ D) (hd : a.defers = [It D]) (hF : Fr n { a with defers := [] } env) (hH : Hp B w0 w os) : Exit.then (fun a w => y.wp P Q a w) Q .normal a w := h a w hD h0 hd hF hH
def Xk (D : Nat) (P : Program) (ops : Array Oper) (Q : Exit → Act → World → Prop) (n : Nat) (env : List (Nat × Value)) (B : Nat → Prop) (w0 : World) (os : List Ass) (f : Nat) (listed : Array Bool) : Prop := ∀ a w, w.heap[D]? = some (.deferred (some [])) → w0.heap.size ≤ D → a.defers = [It D] → Fr n { a with defers := [] } env → Hp B w0 w os → wpAny P .any ops Q f listed a w
def X3 (D : Nat) (P : Program) (ops : Array Oper) (Q : Exit → Act → World → Prop) (n : Nat) (env : List (Nat × Value)) (B : Nat → Prop) (w0 : World) (os : List Ass) (f : Nat) (listed : Array Bool) (i : Nat) : Prop := ∀ a w, w.heap[D]? = some (.deferred (some [])) → w0.heap.size ≤ D → a.defers = [It D] → Fr n { a with defers := [] } env → Hp B w0 w os → wpOp P ops Q i (wpAny P .any ops Q f (listed.setIfInBounds i true)) a w
variable {f i : Nat} {listed : Array Bool}
theorem OO (l : List Nat) (hr : Region.ready .any ops listed = l) (hne : l ≠ []) (h : ∀ i ∈ l, X3 D P ops Q n env B w0 os f listed i) : Xk D P ops Q n env B w0 os (f + 1) listed := fun a w hD h0 hd hF hH => ⟨fun h1 => absurd (hr ▸ h1) hne, fun i hi => h i (hr ▸ hi) a w hD h0 hd hF hH⟩
theorem FM (ho : ops[i]? = some o) (h1 : Wj ops n o env = some d) (v : Value) (hrun : ∀ b w, Fr n b env → Hp B w0 w os → (execOp b.eval o).run P w = .ok (.value v) w) (h : Xk D P ops Q n ((d, v) :: env) B w0 os f (listed.setIfInBounds i true)) : X3 D P ops Q n env B w0 os f listed i := fun a w hD h0 hd hF hH => by
 unfold wpOp
 simp only [ho]
 have hw : Region.wanted o (yielded ops a.tmps) = true := hF.wants (Cj h1).1
 rw [if_pos hw]
 refine .inl ?_
 unfold Oper.wp
 rw [V2, hrun _ w hF hH, Oper.upon_value]
 refine h _ _ hD h0 ((Qg _ _ _).trans hd) ?_ hH
 rw [Xi, (Cj h1).2.1]
 exact hF.put (Cj h1).2.2 _
theorem No (hr : Region.ready .any ops listed = []) (h : ∀ a w, w.heap[D]? = some (.deferred (some [])) → w0.heap.size ≤ D → a.defers = [It D] → Fr n { a with defers := [] } env → Hp B w0 w os → Q .normal a w) : Xk D P ops Q n env B w0 os f listed := fun a w hD h0 hd hF hH => by
  cases f with
  | zero => exact ⟨hr, h a w hD h0 hd hF hH⟩
  | succ f => exact ⟨fun _ => h a w hD h0 hd hF hH, fun i hi => (by rw [hr] at hi; cases hi)⟩
theorem IJ (i : Nat) (hr : Region.ready .any ops listed = [i]) (h : X3 D P ops Q n env B w0 os f listed i) : Xk D P ops Q n env B w0 os (f + 1) listed := OO [i] hr (by simp) (fun j hj => by
 have : j = i := by simpa using hj
 subst this
 exact h)
theorem Ur (i j : Nat) (hr : Region.ready .any ops listed = [i, j]) (h : X3 D P ops Q n env B w0 os f listed i) (h' : X3 D P ops Q n env B w0 os f listed j) : Xk D P ops Q n env B w0 os (f + 1) listed := OO [i, j] hr (by simp) (fun k hk => by
  have : k = i ∨ k = j := by simpa using hk
  rcases this with rfl | rfl
  · exact h
  · exact h')
theorem X4 {id : Nat} (hmix : P.follows .mixedOrders = true) (h : Xk D P ops Q n env B w0 os ops.size (Array.replicate ops.size false)) : Te D P Q n env B w0 os (.region id ops true) := fun a w hD h0 hd hF hH => wp_region_any hmix (h a w.drew hD h0 hd hF hH.drew)
theorem Xl {id : Nat} {y : Code} (hmix : P.follows .mixedOrders = true) (h : Xk D P ops (Exit.then (fun a w => y.wp P Q a w) Q) n env B w0 os ops.size (Array.replicate ops.size false)) : Te D P Q n env B w0 os (.seq (.region id ops true) y) := X2 (X4 hmix h)
end
end Go.Proofs.YtjcfimmcogkopaaGreat.Sep
namespace Go.Proofs.YtjcfimmcogkopaaGreat.Sep
open Go.RowKit
open Go.Proofs.YtjcfimmcogkopaaGreat.Mem (Bh Cs Chg AA)
theorem Aq : GQ Tryz.prog 34 4 := KK Tryz.underlying34 rfl (by kernel_rfl)
theorem Bl : MP Tryz.prog 34 #[.int .u64 0, .int .u64 0, .int .i64 0, .slice none 0 0] := IS (z := .agg #[.int .u64 0, .int .u64 0, .int .i64 0, .slice none 0 0]) (by kernel_rfl) rfl
theorem Dh : GQ Tryz.prog 38 9 := KK Tryz.underlying38 rfl (by kernel_rfl)
theorem L4 : Bz Tryz.prog 34 0 0 := fun g off w => by kernel_rfl
theorem L5 : Bz Tryz.prog 34 1 3 := fun g off w => by kernel_rfl
theorem EH : Bz Tryz.prog 38 3 6 := fun g off w => by kernel_rfl
theorem EI : Bz Tryz.prog 38 0 0 := fun g off w => by kernel_rfl
theorem GV : Bz Tryz.prog 38 1 1 := fun g off w => by kernel_rfl
theorem GW : Bz Tryz.prog 38 2 5 := fun g off w => by kernel_rfl
theorem CA : SliceT Tryz.prog 22 38 9 := EP (z := .agg #[.int .i64 0, .int .u64 0, .int .u64 0, .int .i64 0, .slice none 0 0, .bool false, .int .i64 0, .int .i64 0, .int .i64 0]) Tryz.underlying22 (by kernel_rfl) rfl rfl (by decide)
def flU : List ((Nat × Nat) × Nat) := [((34, 0), 0), ((34, 1), 3), ((38, 3), 6), ((38, 0), 0), ((38, 1), 1), ((38, 2), 5)] ++ flS
theorem J3 {P : Program} {b : List ((Nat × Nat) × Nat)} (hb : KP P b) : ∀ {a : List ((Nat × Nat) × Nat)}, MT P a → KP P (a ++ b)
  | [], _ => hb
  | ((s, f), k) :: r, ha => fun S g q h => by
    simp only [List.cons_append] at h
    unfold XG at h
    cases h1 : Nat.beq s S with
    | false => simp only [h1] at h; exact J3 hb ha.2 S g q h
    | true =>
      cases h2 : Nat.beq f g with
      | false => simp only [h1, h2] at h; exact J3 hb ha.2 S g q h
      | true =>
        simp only [h1, h2, Option.some.injEq] at h
        have e1 := Nat.eq_of_beq_eq_true h1
        have e2 := Nat.eq_of_beq_eq_true h2
        subst e1; subst e2; subst h
        exact ha.1
theorem Ag : KP Tryz.prog flU := J3 Au ⟨L4, L5, EH, EI, GV, GW, trivial⟩
end Go.Proofs.YtjcfimmcogkopaaGreat.Sep
namespace Go.Proofs.YtjcfimmcogkopaaGreat.Sep
open Go.RowKit
open Go.Proofs.YtjcfimmcogkopaaGreat.Mem (Bh Cs Chg AA)
theorem Qk {α : Type} {L : List α} {i : Nat} {b : α} (h : L[i]? = some b) : L.take i ++ [b] = L.take (i + 1) := by
 rw [List.take_add_one, h]; rfl
def LE (gp ge : Nat) (ps : List (List UInt8)) (j : Nat) : Ass := fun rs => ∃ x : PsV, Al [cell gp 78 #[x.v], Bb 32 x.v x.l, cell ge 3 #[.int .i64 ((C0 (ps.take j) : Nat) : Int)], fact (x.l.map (·.2) = ps.take j)] rs
theorem LE.open_ {gp ge : Nat} {ps : List (List UInt8)} {j : Nat} : ∀ rs, LE gp ge ps j rs → ∃ x : PsV, Al [cell gp 78 #[x.v], Bb 32 x.v x.l, cell ge 3 #[.int .i64 ((C0 (ps.take j) : Nat) : Int)], fact (x.l.map (·.2) = ps.take j)] rs := fun _ h => h
theorem Us {gp ge : Nat} {ps : List (List UInt8)} {j : Nat} (x : PsV) (h : x.l.map (·.2) = ps.take j) : ∀ rs, Al [cell gp 78 #[x.v], Bb 32 x.v x.l, cell ge 3 #[.int .i64 ((C0 (ps.take j) : Nat) : Int)]] rs → LE gp ge ps j rs := fun _ hz => ⟨x, Dm h hz⟩
theorem X5 {gp ge : Nat} {ps : List (List UInt8)} : ∀ rs, Al [cell gp 78 #[.slice none 0 0], Bb 32 (.slice none 0 0) [], cell ge 3 #[.int .i64 0]] rs → LE gp ge ps 0 rs := fun rs hz => Us (j := 0) ⟨.slice none 0 0, []⟩ rfl rs (by have e : ((C0 (ps.take 0) : Nat) : Int) = 0 := rfl; rw [e]; exact hz)
theorem SH {X : Ass} {y : List UInt8} {ps : List (List UInt8)} {k N : Nat} {A0 : Option Addr} {c0 : Nat} (hX : CO X (.slice A0 y.length c0) y) (hl : y.length ≤ 137438953472) (hr1 : (Ca y).1 = ps) (hk : C0 ps = k) (hkl : k ≤ y.length) (hN : ps.length = N) (hNk : N * 8 ≤ k) (hlen : ∀ x, x ∈ ps → x.length ≤ 65536) : AX Tryz.prog 75 #[.slice A0 y.length c0] [X] (fun (x : PsV) => .tuple #[x.v, .int .i64 (k : Int)]) (fun (x : PsV) => [X, Bb 32 x.v x.l, fact (x.l.map (·.2) = ps)]) := by
  refine Xh (args := [.slice A0 y.length c0]) 22 Tryz.func75 rfl rfl rfl ?_; intro w rs
  refine Ad (Ae Ag rfl (Ab (Ad (Ae Ag rfl (Aj (post := fun gp => [cell gp 78 #[.slice none 0 0], X]) rfl (BT Nb rfl) ?_))))); rintro gp
  refine Ab (Ad (Ae Ag rfl (Aj (post := fun ge => [cell ge 3 #[.int .i64 0], cell gp 78 #[.slice none 0 0], X]) rfl (BT WT rfl) ?_))); rintro ge
  refine AF (post := fun _ => [cell ge 3 #[.int .i64 0], cell gp 78 #[.slice none 0 0], X]) rfl rfl (AE 0 (v := .int .i64 0) #[.int .i64 0] Bc.2 rfl rfl rfl rfl rfl rfl rfl rfl rfl) ?_; rintro ⟨⟩
  refine Ab (Av (Gh (t := Bb 32 (.slice none 0 0) ([])) (N8) (Bi [2, 0, 1] rfl (X5 (ps := ps)) rfl (Ad (Ae Ag rfl (Aj rfl (Ak (os' := fun g => [cell g 32 #[.slice A0 y.length c0], LE gp ge ps 0, X]) [] 0 (Ai Tryz.func91 (by kernel_rfl) rfl) (L3) rfl rfl rfl (fun _ => rfl) rfl rfl rfl) ?_)))))); rintro g
  refine Ab (Bo (BB.keep (env' := [(0, .slice A0 y.length c0), (2, .slice none 0 0), (3, .int .i64 0), (4, .pointer (some ⟨gp, 0, none⟩)), (5, .pointer (some ⟨ge, 0, none⟩)), (7, .slice A0 y.length c0), (8, .func (.func 100) #[] #[.pointer (some ⟨g, 0, none⟩)])]) ⟨rfl, rfl, rfl, rfl, rfl, rfl, rfl, trivial⟩ (BB.mid [cell g 32 #[.slice A0 y.length c0], LE gp ge ps 0, X] (.refl _) ?_)))
  refine SC (caps := [.pointer (some ⟨g, 0, none⟩)]) (post := [LE gp ge ps N, X, cell g 32 #[.slice A0 y.length c0]]) (os' := [LE gp ge ps N, X, cell g 32 #[.slice A0 y.length c0]]) (.normal) [1, 2, 0] rfl (Ai Tryz.func100 (by kernel_rfl) rfl) (fun L1 fn1 tm1 hf1 r1 k11 k12 k13 k14 k15 k16 => X0 (SF (.yield L1) #[] g X (fun j => Qe L1 r1 (LE gp ge ps j)) hX hl hr1 hN ?_)) rfl rfl rfl ?_
  intro j A c x hpj hXx
  have hjN : j < N := by have := (List.getElem?_eq_some_iff.1 hpj).1; omega
  have hxl : x.length ≤ 65536 := hlen x (List.mem_of_getElem? hpj)
  have hst := SG hpj
  have hsl := V3 ps (j + 1)
  refine X1 (OL (n := 22) (env := [(9, .slice A x.length c), (0, .slice A0 y.length c0), (2, .slice none 0 0), (3, .int .i64 0), (4, .pointer (some ⟨gp, 0, none⟩)), (5, .pointer (some ⟨ge, 0, none⟩)), (7, .slice A0 y.length c0), (8, .func (.func 100) #[] #[.pointer (some ⟨g, 0, none⟩)])]) (.normal) k12 k11 (by rw [k14]; rfl) ?_ ?_)
  · rw [k14, k13]
    refine (congrArg (fun t => Fr 22 { tmps := t, defers := [] } _) (?_ : _ = (tm1.setIfInBounds 9 (.slice A x.length c)))).mpr (hf1.put (d := 9) (by decide) _)
    simp
  · intro w0 rs
    rw [k15]
    refine Ws (by kernel_rfl) (by rintro ⟨a, w, h⟩; first | exact h.elim | exact nomatch h.1 | (obtain ⟨_, h, _⟩ := h; exact nomatch h)) (Ae Ag rfl (AV (V1 0 rfl k11 ?_)))
    rw [k16]
    refine Ul 1 rfl LE.open_ (fun _ => rfl) ?_; rintro p
    refine Ik.fact 3 rfl (fun _ h => h.2) ?_; rintro hfact
    refine Ik.leave [3] rfl rfl ?_
    have hpl : p.l.length ≤ N := by have := congrArg List.length hfact; rw [List.length_map, List.length_take] at this; omega
    refine Ul 1 rfl Mg (fun _ => rfl) ?_; rintro ⟨⟩
    refine VY (XY (Xd 2 rfl ?_))
    refine Xc (by rintro ⟨a, w, h⟩; first | exact h.elim | exact nomatch h.1 | (obtain ⟨_, h, _⟩ := h; exact nomatch h)) 5 3 [⟨.quiet, [none, none, none], fun _ => p.v, []⟩, ⟨.quiet, [none, none, none], fun _ => .slice A x.length c, []⟩, ⟨.act 0, [some false, some false, some false], fun _ => undef, [1]⟩, ⟨.act 1, [some true, some false, some false], fun _ => undef, [2]⟩, ⟨.act 2, [some true, some true, some false], fun _ => undef, [0, 3]⟩] [(2, .slice none 0 0), (3, .int .i64 0), (4, .pointer (some ⟨gp, 0, none⟩)), (5, .pointer (some ⟨ge, 0, none⟩)), (6, .slice A x.length c)] (fun ρ => match ρ with | [rq0, rq1, rq2] => [Co rq1 (fun b1 => Co rq0 (fun d1 => Ar 32 1 encW b1 ([d1])) (DN)) (DN), Co rq0 (fun d1 => Ar 5 1 encB d1 x) (DN), Co rq2 (fun p1 => Co rq0 (fun d1 => Ar 32 1 encW p1 (p.l.map (·.1) ++ [d1])) (DN)) (Ar 32 1 encW p.v (p.l.map (·.1))), Dw (fun x : PtT => Ar 5 1 encB x.1 x.2) p.l, cell gp 78 #[p.v], cell ge 3 #[.int .i64 ((C0 (ps.take j) : Nat) : Int)], D3 L1 (Hv r1), X] | _ => []) (by kernel_rfl) (by kernel_rfl) (by kernel_rfl) ⟨rfl, rfl, rfl, rfl, rfl, trivial⟩ rfl ?_ ?_
    refine Ac (by intro r0_ r1_ r2_; exact ⟨rfl, fun b w hH hb => Ba rfl rfl (Bm Fq rfl) (hH.row 4 rfl) hb⟩) (Ac (by intro r0_ r1_ r2_; exact ⟨rfl, fun b w hH hb => Af Ag rfl hb⟩) (Ac (by exact ⟨rfl, Bk.s (Ak (os' := fun d1 => [DN, Ar 5 1 encB d1 x, Ar 32 1 encW p.v (p.l.map (·.1)), Dw (fun x : PtT => Ar 5 1 encB x.1 x.2) p.l, cell gp 78 #[p.v], cell ge 3 #[.int .i64 ((C0 (ps.take j) : Nat) : Int)], D3 L1 (Hv r1), X]) [7, 1] 1 (Ai Tryz.func64 (by kernel_rfl) rfl) (G7 hXx (by omega)) rfl rfl rfl (fun _ => rfl) rfl rfl rfl) (fun _ => rfl)⟩) (Ac (by intro d1; exact ⟨rfl, Bk.s (Bk.place (val := fun b1 : Value => b1) (t := fun b1 => Ar 32 1 encW b1 ([d1])) (os' := fun b1 => [Ar 32 1 encW b1 ([d1]), Ar 5 1 encB d1 x, Ar 32 1 encW p.v (p.l.map (·.1)), Dw (fun x : PtT => Ar 5 1 encB x.1 x.2) p.l, cell gp 78 #[p.v], cell ge 3 #[.int .i64 ((C0 (ps.take j) : Nat) : Int)], D3 L1 (Hv r1), X]) 0 rfl (by exact N9 1 DJ rfl rfl rfl) (fun _ => rfl)) (fun _ => rfl)⟩) (Ac (by intro d1 b1; exact ⟨rfl, Bk.s (C8 2 DJ Wm rfl ([d1]) (fun w hH => hH.vec 0 rfl Wm) (by simp only [List.length_map, List.length_cons, List.length_nil]; omega) rfl rfl rfl rfl) (fun _ => rfl)⟩) ?_))))
    exact B7
    intro d1 b1 p1
    refine Cf.keep (env' := [(2, .slice none 0 0), (3, .int .i64 0), (4, .pointer (some ⟨gp, 0, none⟩)), (5, .pointer (some ⟨ge, 0, none⟩)), (6, .slice A x.length c), (14, p1)]) ⟨rfl, rfl, rfl, rfl, rfl, rfl, trivial⟩ (Ae Ag rfl (AF (post := fun _ => [Ar 32 1 encW b1 ([d1]), Ar 5 1 encB d1 x, Ar 32 1 encW p1 (p.l.map (·.1) ++ [d1]), Dw (fun x : PtT => Ar 5 1 encB x.1 x.2) p.l, cell gp 78 #[p1], cell ge 3 #[.int .i64 ((C0 (ps.take j) : Nat) : Int)], D3 L1 (Hv r1), X]) rfl rfl (Cv 4 2 (v := p1) #[p1] Fq.2 rfl (fun _ h => Ar.c1 h) rfl rfl rfl rfl rfl rfl rfl) ?_)); rintro ⟨⟩
    refine AV (Yf (Ik.leave [0] rfl rfl (Ws (by kernel_rfl) (by rintro ⟨a, w, h⟩; first | exact h.elim | exact nomatch h.1 | (obtain ⟨_, h, _⟩ := h; exact nomatch h)) (Ae Ag rfl (Aa rfl (.int .i64 ((C0 (ps.take j) : Nat) : Int)) (fun b w hb hH => Ba rfl rfl (Bm Bc rfl) (hH.row 4 rfl) hb) (Ae Ag rfl (Aa rfl (.int .i64 (x.length : Int)) (fun b w hb hH => Bf ((hH.rd8 6 rfl hXx).rd) Tryz.underlying32 rfl rfl hb) (Aa rfl (.int .i64 ((8 + x.length : Nat) : Int)) (fun b w hb hH => AQ rfl rfl rfl rfl (by rw [IntWalk.i64_in _ (by omega)]; omega) hb) (Aa rfl (.int .i64 ((C0 (ps.take (j + 1)) : Nat) : Int)) (fun b w hb hH => AQ rfl rfl rfl rfl (by rw [IntWalk.i64_in _ (by omega)]; omega) hb) ?_)))))))))
    refine AF (post := fun _ => [Ar 5 1 encB d1 x, Ar 32 1 encW p1 (p.l.map (·.1) ++ [d1]), Dw (fun x : PtT => Ar 5 1 encB x.1 x.2) p.l, cell gp 78 #[p1], cell ge 3 #[.int .i64 ((C0 (ps.take (j + 1)) : Nat) : Int)], D3 L1 (Hv r1), X]) rfl rfl (AE 4 (v := .int .i64 ((C0 (ps.take (j + 1)) : Nat) : Int)) #[.int .i64 ((C0 (ps.take (j + 1)) : Nat) : Int)] Bc.2 rfl rfl rfl rfl rfl rfl rfl rfl rfl) ?_; rintro ⟨⟩
    refine AV (BC (QN [1, 2, 0] rfl Mh rfl (QN [1, 0, 2] rfl (Us ⟨p1, p.l ++ [(d1, x)]⟩ (by rw [List.map_append, hfact]; exact Qk hpj)) rfl ?_)))
    exact Xf [1, 0, 2] rfl rfl
  intro D aT wT hDm hD0 hdf hF hH
  obtain ⟨p, hH⟩ := VZ 0 rfl LE.open_ hH
  have hfact := Ga (p := (p.l.map (·.2) = ps.take N)) 3 rfl (fun _ h => h.2) hH
  have hps : p.l.map (·.2) = ps := by rw [hfact, ← hN, List.take_length]
  have hsum : ((C0 (ps.take N) : Nat) : Int) = (k : Int) := by rw [← hN, List.take_length, ← hk]
  refine V4 (env := [(2, .slice none 0 0), (3, .int .i64 0), (4, .pointer (some ⟨gp, 0, none⟩)), (5, .pointer (some ⟨ge, 0, none⟩))]) (os := [cell gp 78 #[p.v], Bb 32 p.v p.l, cell ge 3 #[.int .i64 ((C0 (ps.take N) : Nat) : Int)], fact (p.l.map (·.2) = ps.take N), X, cell g 32 #[.slice A0 y.length c0]]) ?_ aT wT hDm hD0 hdf (hF.keep ⟨rfl, rfl, rfl, rfl, trivial⟩) hH
  refine Xl (by kernel_rfl) ?_
  refine Ur 0 1 (by kernel_rfl) ?_ ?_
  refine FM rfl rfl (p.v) (fun b w hb hH => Ba rfl rfl (Bm Fq rfl) (hH.row 0 rfl) hb) ?_
  refine Ur 1 2 (by kernel_rfl) ?_ ?_
  refine FM rfl rfl (.int .i64 ((C0 (ps.take N) : Nat) : Int)) (fun b w hb hH => Ba rfl rfl (Bm Bc rfl) (hH.row 2 rfl) hb) (IJ 2 (by kernel_rfl) (FM rfl rfl (p.v) (fun b w hb hH => Af Ag rfl hb) (IJ 3 (by kernel_rfl) (FM rfl rfl (.int .i64 ((C0 (ps.take N) : Nat) : Int)) (fun b w hb hH => Af Ag rfl hb) (No (by kernel_rfl) (V4 (Te.keep (env' := [(2, p.v), (3, .int .i64 ((C0 (ps.take N) : Nat) : Int))]) ⟨rfl, rfl, trivial⟩ ?_)))))))
  exact Uq (fun a w hD hD0 hd hF hH => Qh (os := [cell gp 78 #[p.v], Bb 32 p.v p.l, cell ge 3 #[.int .i64 ((C0 (ps.take N) : Nat) : Int)], fact (p.l.map (·.2) = ps.take N), X, cell g 32 #[.slice A0 y.length c0]]) (.tmp rfl) (.tmp rfl) rfl (fun w' h => AH (X := PsV) (val := fun x : PsV => .tuple #[x.v, .int .i64 (k : Int)]) (post := fun x : PsV => [X, Bb 32 x.v x.l, fact (x.l.map (·.2) = ps)]) (os := [cell gp 78 #[p.v], Bb 32 p.v p.l, cell ge 3 #[.int .i64 ((C0 (ps.take N) : Nat) : Int)], fact (p.l.map (·.2) = ps.take N), X, cell g 32 #[.slice A0 y.length c0]]) p (by rw [hsum]) [4, 1] rfl h (fun z hz => ⟨z, .refl _, Dm (xs := [X, Bb 32 p.v p.l]) hps hz⟩)) D a w hD hD0 hd hF hH)
  refine FM rfl rfl (p.v) (fun b w hb hH => Af Ag rfl hb) (IJ 1 (by kernel_rfl) (FM rfl rfl (.int .i64 ((C0 (ps.take N) : Nat) : Int)) (fun b w hb hH => Ba rfl rfl (Bm Bc rfl) (hH.row 2 rfl) hb) (IJ 3 (by kernel_rfl) (FM rfl rfl (.int .i64 ((C0 (ps.take N) : Nat) : Int)) (fun b w hb hH => Af Ag rfl hb) (No (by kernel_rfl) (V4 (Te.keep (env' := [(2, p.v), (3, .int .i64 ((C0 (ps.take N) : Nat) : Int))]) ⟨rfl, rfl, trivial⟩ ?_)))))))
  exact Uq (fun a w hD hD0 hd hF hH => Qh (os := [cell gp 78 #[p.v], Bb 32 p.v p.l, cell ge 3 #[.int .i64 ((C0 (ps.take N) : Nat) : Int)], fact (p.l.map (·.2) = ps.take N), X, cell g 32 #[.slice A0 y.length c0]]) (.tmp rfl) (.tmp rfl) rfl (fun w' h => AH (X := PsV) (val := fun x : PsV => .tuple #[x.v, .int .i64 (k : Int)]) (post := fun x : PsV => [X, Bb 32 x.v x.l, fact (x.l.map (·.2) = ps)]) (os := [cell gp 78 #[p.v], Bb 32 p.v p.l, cell ge 3 #[.int .i64 ((C0 (ps.take N) : Nat) : Int)], fact (p.l.map (·.2) = ps.take N), X, cell g 32 #[.slice A0 y.length c0]]) p (by rw [hsum]) [4, 1] rfl h (fun z hz => ⟨z, .refl _, Dm (xs := [X, Bb 32 p.v p.l]) hps hz⟩)) D a w hD hD0 hd hF hH)
  refine FM rfl rfl (.int .i64 ((C0 (ps.take N) : Nat) : Int)) (fun b w hb hH => Ba rfl rfl (Bm Bc rfl) (hH.row 2 rfl) hb) (IJ 0 (by kernel_rfl) (FM rfl rfl (p.v) (fun b w hb hH => Ba rfl rfl (Bm Fq rfl) (hH.row 0 rfl) hb) (IJ 2 (by kernel_rfl) (FM rfl rfl (p.v) (fun b w hb hH => Af Ag rfl hb) (IJ 3 (by kernel_rfl) (FM rfl rfl (.int .i64 ((C0 (ps.take N) : Nat) : Int)) (fun b w hb hH => Af Ag rfl hb) (No (by kernel_rfl) (V4 (Te.keep (env' := [(2, p.v), (3, .int .i64 ((C0 (ps.take N) : Nat) : Int))]) ⟨rfl, rfl, trivial⟩ ?_)))))))))
  exact Uq (fun a w hD hD0 hd hF hH => Qh (os := [cell gp 78 #[p.v], Bb 32 p.v p.l, cell ge 3 #[.int .i64 ((C0 (ps.take N) : Nat) : Int)], fact (p.l.map (·.2) = ps.take N), X, cell g 32 #[.slice A0 y.length c0]]) (.tmp rfl) (.tmp rfl) rfl (fun w' h => AH (X := PsV) (val := fun x : PsV => .tuple #[x.v, .int .i64 (k : Int)]) (post := fun x : PsV => [X, Bb 32 x.v x.l, fact (x.l.map (·.2) = ps)]) (os := [cell gp 78 #[p.v], Bb 32 p.v p.l, cell ge 3 #[.int .i64 ((C0 (ps.take N) : Nat) : Int)], fact (p.l.map (·.2) = ps.take N), X, cell g 32 #[.slice A0 y.length c0]]) p (by rw [hsum]) [4, 1] rfl h (fun z hz => ⟨z, .refl _, Dm (xs := [X, Bb 32 p.v p.l]) hps hz⟩)) D a w hD hD0 hd hF hH)
theorem LF {X : Ass} {v : Value} {y : List UInt8} {ps : List (List UInt8)} {k : Nat} (hX : CO X v y) (hl : y.length ≤ 137438953472) (hr : Ca y = (ps, k)) : AX Tryz.prog 75 #[v] [X] (fun x : PsV => .tuple #[x.v, .int .i64 (k : Int)]) (fun x => [X, Bb 32 x.v x.l, fact (x.l.map (·.2) = ps)]) := fun w rs h1 h2 h3 => by
  have hXr := Al.one' h1
  obtain ⟨A0, c0, rfl, _⟩ := hX rs w hXr h2
  have e1 : (Ca y).1 = ps := congrArg Prod.fst hr
  have e2 : (Ca y).2 = k := congrArg Prod.snd hr
  have h4 := Mv y.length y
  have h5 := Rk y.length y
  have h6 := Lz y.length y
  have h7 := ET y.length y
  change (Ca y).2 = C0 (Ca y).1 at h4
  change (Ca y).2 ≤ y.length at h5
  change (Ca y).1.length * 8 ≤ (Ca y).2 at h6
  change ∀ x, x ∈ (Ca y).1 → x.length ≤ 65536 at h7
  rw [e1, e2] at h4
  rw [e2] at h5
  rw [e1, e2] at h6
  rw [e1] at h7
  exact SH hX hl e1 h4.symm h5 rfl h6 h7 w rs h1 h2 h3
end Go.Proofs.YtjcfimmcogkopaaGreat.Sep
