/-
  SgA · SgM · Beh · TyU · PhL
-/
import Derived.Test.YtjcfimmcogkopaaGreatYB01
import Derived.Test.YtjcfimmcogkopaaGreatYB02
import Derived.Test.YtjcfimmcogkopaaGreatYG01
import Derived.Test.YtjcfimmcogkopaaGreatYH01
import Derived.OrdersIn
set_option linter.unusedSimpArgs false
set_option linter.unusedVariables false
set_option maxRecDepth 100000
namespace Go.Proofs.YtjcfimmcogkopaaGreat.Sep
open Go.RowKit
open Go.Proofs.YtjcfimmcogkopaaGreat.Mem (AZ Ci Chg Au)
theorem PT {w : World} {y : List UInt8} {A : Option Addr} {c : Nat} (hn : B2 y = none) (hv : D6 w (.slice A y.length c) y) (hl : y.length ≤ 137438953472) : Calls Tryz.prog 101 #[.slice A y.length c] w fun e w' => e = .returned (.tuple #[PF A c y, .bool false]) ∧ Below w.heap.size w w' := by
 have h := QV w hv hl
 rwa [hn] at h
theorem KZ {A : Option Addr} {c : Nat} {y x : List UInt8} (hn : B2 y = some x) : PF A c y = .slice (if c = 8 then A else A.map (·.add 8)) x.length (c - 8) ∧ x = (y.drop 8).take x.length ∧ 8 + x.length ≤ y.length := by
  have hx := GP hn
  unfold B2 at hn
  split at hn
  · rename_i h
    cases hn
    refine ⟨?_, ?_, hx.1⟩
    · unfold PF
      rw [if_pos ⟨h.1, h.2.1, h.2.2.1⟩, List.length_take, List.length_drop, Nat.min_eq_left (by omega)]
    · rw [List.length_take, List.length_drop, Nat.min_eq_left (by omega)]
  · cases hn
theorem PU {w : World} {y x : List UInt8} {A A8 : Option Addr} {c : Nat} (hn : B2 y = some x) (hA : (if c = 8 then A else A.map (·.add 8)) = A8) (hv : D6 w (.slice A y.length c) y) (hl : y.length ≤ 137438953472) : Calls Tryz.prog 101 #[.slice A y.length c] w fun e w' => e = .returned (.tuple #[.slice A8 x.length (c - 8), .bool true]) ∧ Below w.heap.size w w' := by
  have h := QV w hv hl
  rwa [(KZ hn).1, hn, hA] at h
theorem Cu.first {X : Ass} {y x : List UInt8} {A : Option Addr} {c : Nat} (hX : Cu X (.slice A y.length c) y) (hn : B2 y = some x) : Cu X (.slice (if c = 8 then A else A.map (·.add 8)) x.length (c - 8)) x := fun rs w h1 h2 => by
  obtain ⟨_, h3, h4⟩ := KZ (A := A) (c := c) hn
  have h5 := Oj (KW (hX rs w h1 h2) (i := 8) (by omega)) (k := x.length) (by rw [List.length_drop]; omega)
  rwa [← h3] at h5
theorem R3 {ps q : List (List UInt8)} {x : List UInt8} {j : Nat} (h : x :: q = ps.drop j) : ps[j]? = some x ∧ q = ps.drop (j + 1) ∧ j < ps.length := by
  have h1 : ps[j]? = some x := by
    have := congrArg (·[0]?) h
    simpa using this.symm
  have hlt := (List.getElem?_eq_some_iff.1 h1).1
  refine ⟨h1, ?_, hlt⟩
  rw [List.drop_eq_getElem_cons hlt] at h
  exact (List.cons.inj h).2
theorem R4 {ps : List (List UInt8)} {j : Nat} (h : [] = ps.drop j) (hj : j ≤ ps.length) : j = ps.length := by
 have := congrArg List.length h
 rw [List.length_nil, List.length_drop] at this
 omega
theorem Wk {A : Option Addr} {c k : Nat} {l : List UInt8} : Cp 1 (.slice A l.length c) k l.length = .slice (if c = k then A else A.map (·.add k)) (l.drop k).length (c - k) := by
  rw [List.length_drop]; exact II
theorem R5 (k : Fn) (caps : Array Value) (g : Nat) (X : Ass) (T : Nat → Ass) {A0 : Option Addr} {c0 : Nat} {y : List UInt8} {ps : List (List UInt8)} (hX : Cu X (.slice A0 y.length c0) y) (hl : y.length ≤ 137438953472) (hr : (B1 y).1 = ps) {N : Nat} (hN : ps.length = N) (hy : (∀ j A c x, ps[j]? = some x → Cu X (.slice A x.length c) x → Fo Tryz.prog (.func k #[] caps) [.slice A x.length c] [T j, X] (fun _ : Unit => .bool true) (fun _ => [T (j + 1), X]))) : AW Tryz.prog 100 #[.func k #[] caps, .pointer (some ⟨g, 0, none⟩)] [T 0, X, cell g 32 #[.slice A0 y.length c0]] (fun (_ : Unit) => .tuple #[]) (fun (_ : Unit) => [T N, X, cell g 32 #[.slice A0 y.length c0]]) := by
  refine Be (args := [.func k #[] caps, .pointer (some ⟨g, 0, none⟩)]) 25 Tryz.func100 rfl rfl rfl ?_; intro w rs
  refine Ad (Af An rfl (Ac rfl (.slice A0 y.length c0) (fun b w hb hH => Bb rfl rfl (Bn Cy rfl) (hH.row 2 rfl) hb) (Af An rfl (Ab (Bm (C9 (α := Nat × List UInt8 × Option Addr × Nat) (fun ⟨j, l, A, c⟩ => [(0, .func k #[] caps), (3, .slice A l.length c)]) (fun ⟨j, l, A, c⟩ => [T j, X, cell g 32 #[.slice A0 y.length c0]]) (fun ⟨j, l, A, c⟩ => j ≤ ps.length ∧ Cu X (.slice A l.length c) l ∧ (B1 l).1 = ps.drop j ∧ l.length ≤ 137438953472) (fun ⟨j, l, A, c⟩ => ps.length - j) (0, y, A0, c0) ⟨Nat.zero_le _, hX, by rw [hr]; rfl, hl⟩ ⟨rfl, rfl, trivial⟩ rfl ?_))))))
  rintro ⟨j, l, A, c⟩ hI
  refine Bv.at_ (env' := [(0, .func k #[] caps), (3, .slice A l.length c)]) (rs' := [T j, X, cell g 32 #[.slice A0 y.length c0]]) ⟨rfl, rfl, trivial⟩ rfl ?_
  have hI1 := hI.1
  have hXl : Cu X (.slice A l.length c) l := hI.2.1
  have hI3 : (B1 l).1 = ps.drop j := hI.2.2.1
  have hI4 : l.length ≤ 137438953472 := hI.2.2.2
  clear hI
  refine Bm ?_
  rcases hn : B2 l with _ | x
  rw [CF hn] at hI3
  obtain rfl : j = N := (R4 hI3 hI1).trans hN
  refine Ad (Af An rfl (Aj (post := fun _ => [T j, X, cell g 32 #[.slice A0 y.length c0]]) rfl (Bg (Ag Tryz.func101 (by kernel_rfl) rfl) (fun w hH => PT hn (hH.rd8 1 rfl hXl) hI4) rfl rfl rfl) ?_)); rintro ⟨⟩
  refine Af An rfl (Ab (Aq (Ad (Af An rfl (Ab (AI rfl (Av (C0 (Bw (C0 (Bw ?_)))))))))))
  exact Mp  (fun w h => AG () rfl [0, 1, 2] rfl h CV) rfl
  obtain ⟨A8, hA8⟩ : ∃ A8, (if c = 8 then A else A.map (·.add 8)) = A8 := ⟨_, rfl⟩
  have hXx : Cu X (.slice A8 x.length (c - 8)) x := by have h3 := hXl.first hn; rwa [hA8] at h3
  have hx3 := (KZ (A := A) (c := c) hn).2.2
  rw [H6 hn] at hI3
  obtain ⟨hpj, hq, hjl⟩ := R3 hI3
  have hyj := hy j A8 (c - 8) x hpj hXx
  obtain ⟨l1, hl1⟩ : ∃ l1, l.drop (8 + x.length) = l1 := ⟨_, rfl⟩
  obtain ⟨A1, hA1⟩ : ∃ A1, (if c = 8 + x.length then A else A.map (·.add (8 + x.length))) = A1 := ⟨_, rfl⟩
  obtain ⟨c1, hc1⟩ : ∃ c1, c - (8 + x.length) = c1 := ⟨_, rfl⟩
  have hs1 : Cp 1 (.slice A l.length c) (8 + x.length) l.length = .slice A1 l1.length c1 := by rw [Wk, hl1, hA1, hc1]
  have hX1 : Cu X (.slice A1 l1.length c1) l1 := by have h3 := hXl.drop (k := 8 + x.length) (by omega); rwa [hl1, hA1, hc1] at h3
  have hl2 : l1.length ≤ 137438953472 := by rw [← hl1, List.length_drop]; omega
  rw [hl1] at hq
  refine Ad (Af An rfl (Aj (post := fun _ => [T j, X, cell g 32 #[.slice A0 y.length c0]]) rfl (Bg (Ag Tryz.func101 (by kernel_rfl) rfl) (fun w hH => PU hn hA8 (hH.rd8 1 rfl hXl) hI4) rfl rfl rfl) ?_)); rintro ⟨⟩
  refine Af An rfl (Ab (Aq (Aq (Wc (WZ V9 5 (by rintro ⟨a, w, h⟩; first | exact h.elim | exact nomatch h.1 | (obtain ⟨_, h, _⟩ := h; exact nomatch h)) (by kernel_rfl) (Af An rfl (Xi (Wb (X := Unit) (post := fun _ => [T (j + 1), X]) (os' := fun _ => [T (j + 1), X, cell g 32 #[.slice A0 y.length c0]]) V9 [0, 1] (hyj) rfl rfl rfl rfl rfl rfl (fun _ => rfl) ?_)))))))); rintro ⟨⟩
  refine PM V9 (by rintro ⟨a, w, h⟩; first | exact h.elim | exact nomatch h.1 | (obtain ⟨_, h, _⟩ := h; exact nomatch h)) (by kernel_rfl) (Af An rfl (Bi (AO (Aw rfl (AC (AO (BV (Af An rfl (Ac rfl (.int .i64 (x.length : Int)) (fun b w hb hH => AY ((hH.rd8 1 rfl hXx).rd) Tryz.underlying32 rfl rfl hb) (Ac rfl (.int .i64 ((8 + x.length : Nat) : Int)) (fun b w hb hH => AS rfl rfl rfl rfl (by rw [IntWalk.i64_in _ (by omega)]; omega) hb) (Ac rfl (.slice A1 l1.length c1) (fun b w hb hH => FB (i := (8 + x.length)) AE hs1 hx3 rfl rfl rfl hH hb) (Af An rfl (Bi (B3 ?_))))))))))))))
  exact CM (j + 1, l1, A1, c1) 0 ⟨hjl, hX1, hq, hl2⟩ (show ps.length - (j + 1) < ps.length - j by omega) ⟨rfl, rfl, trivial⟩ rfl
theorem Lo {A0 : Option Addr} {n c0 : Nat} : AW Tryz.prog 91 #[.slice A0 n c0] [] (fun (g : Nat) => .func (.func 100) #[] #[.pointer (some ⟨g, 0, none⟩)]) (fun (g : Nat) => [cell g 32 #[.slice A0 n c0]]) := by
 refine Be (args := [.slice A0 n c0]) 4 Tryz.func91 rfl rfl rfl ?_; intro w rs
 refine Ad (Af An rfl (Aj (post := fun g => [cell g 32 #[.slice A0 n c0]]) rfl (CU (cs := #[.slice A0 n c0]) rfl rfl rfl) ?_)); rintro g
 refine Af An rfl (Ab (Ad (Af An rfl (Ac rfl (.func (.func 100) #[] #[.pointer (some ⟨g, 0, none⟩)]) (fun b w hb hH => VJ rfl rfl hb) (Af An rfl (Ab (Av ?_)))))))
 exact As (.tmp rfl) (fun w h => AG g rfl [0] rfl h CV) rfl
end Go.Proofs.YtjcfimmcogkopaaGreat.Sep
namespace Go.Proofs.YtjcfimmcogkopaaGreat.Sep
def CG (ps : List (List UInt8)) : Nat := (ps.map fun x => 8 + x.length).sum
theorem R6 {ps : List (List UInt8)} {j : Nat} {x : List UInt8} (h : ps[j]? = some x) : CG (ps.take (j + 1)) = CG (ps.take j) + (8 + x.length) := by
 unfold CG
 have hlt := (List.getElem?_eq_some_iff.1 h).1
 rw [List.take_add_one, h]
 simp
theorem U6 (ps : List (List UInt8)) (j : Nat) : CG (ps.take j) ≤ CG ps := by
 have h : CG ps = CG (ps.take j) + CG (ps.drop j) := by
  unfold CG
  rw [← List.sum_append, ← List.map_append, List.take_append_drop]
 omega
theorem LR (x : List UInt8) (ps : List (List UInt8)) : CG (x :: ps) = 8 + x.length + CG ps := by simp [CG]
theorem LS : ∀ (k : Nat) (b : List UInt8), (DV k b).2 = CG (DV k b).1
  | 0, _ => rfl
  | k + 1, b => by
    simp only [DV]
    cases h : B2 b with
    | none => rfl
    | some x => rw [LR]; simp only [← LS k]
end Go.Proofs.YtjcfimmcogkopaaGreat.Sep
namespace Go.Proofs.YtjcfimmcogkopaaGreat.Sep
open Go.RowKit
open Go.Proofs.YtjcfimmcogkopaaGreat.Mem (AZ Ci Chg Au)
section
variable {P : Program} {ops : Array Oper} {Q : Exit → Act → World → Prop} {n d D : Nat} {env : List (Nat × Value)} {B : Nat → Prop} {w0 w : World} {os : List Ass} {o : Oper} {a : Act} {rest : List Oper}
theorem W7 {x y : Code} (h : Sz D P (Exit.then (fun a w => y.wp P Q a w) Q) n env B w0 os x) : Sz D P Q n env B w0 os (.seq x y) := fun a w hD h0 hd hF hH => wp_seq (h a w hD h0 hd hF hH)
theorem U7 {y : Code} (h : Sz D P Q n env B w0 os y) (a : Act) (w : World) (hD : w.heap[D]? = some (.deferred (some []))) (h0 : w0.heap.size ≤ D) (hd : a.defers = [Hz D]) (hF : Fr n { a with defers := [] } env) (hH : Hp B w0 w os) : Exit.then (fun a w => y.wp P Q a w) Q .normal a w := h a w hD h0 hd hF hH
def Wl (D : Nat) (P : Program) (ops : Array Oper) (Q : Exit → Act → World → Prop) (n : Nat) (env : List (Nat × Value)) (B : Nat → Prop) (w0 : World) (os : List Ass) (f : Nat) (listed : Array Bool) : Prop := ∀ a w, w.heap[D]? = some (.deferred (some [])) → w0.heap.size ≤ D → a.defers = [Hz D] → Fr n { a with defers := [] } env → Hp B w0 w os → wpAny P .any ops Q f listed a w
def W8 (D : Nat) (P : Program) (ops : Array Oper) (Q : Exit → Act → World → Prop) (n : Nat) (env : List (Nat × Value)) (B : Nat → Prop) (w0 : World) (os : List Ass) (f : Nat) (listed : Array Bool) (i : Nat) : Prop := ∀ a w, w.heap[D]? = some (.deferred (some [])) → w0.heap.size ≤ D → a.defers = [Hz D] → Fr n { a with defers := [] } env → Hp B w0 w os → wpOp P ops Q i (wpAny P .any ops Q f (listed.setIfInBounds i true)) a w
variable {f i : Nat} {listed : Array Bool}
theorem Oo (l : List Nat) (hr : Region.ready .any ops listed = l) (hne : l ≠ []) (h : ∀ i ∈ l, W8 D P ops Q n env B w0 os f listed i) : Wl D P ops Q n env B w0 os (f + 1) listed := fun a w hD h0 hd hF hH => ⟨fun h1 => absurd (hr ▸ h1) hne, fun i hi => h i (hr ▸ hi) a w hD h0 hd hF hH⟩
theorem Fg (ho : ops[i]? = some o) (h1 : Vq ops n o env = some d) (v : Value) (hrun : ∀ b w, Fr n b env → Hp B w0 w os → (execOp b.eval o).run P w = .ok (.value v) w) (h : Wl D P ops Q n ((d, v) :: env) B w0 os f (listed.setIfInBounds i true)) : W8 D P ops Q n env B w0 os f listed i := fun a w hD h0 hd hF hH => by
 unfold wpOp
 simp only [ho]
 have hw : Region.wanted o (yielded ops a.tmps) = true := hF.wants (B8 h1).1
 rw [if_pos hw]
 refine .inl ?_
 unfold Oper.wp
 rw [U5, hrun _ w hF hH, Oper.upon_value]
 refine h _ _ hD h0 ((PP _ _ _).trans hd) ?_ hH
 rw [Wj, (B8 h1).2.1]
 exact hF.put (B8 h1).2.2 _
theorem MU (hr : Region.ready .any ops listed = []) (h : ∀ a w, w.heap[D]? = some (.deferred (some [])) → w0.heap.size ≤ D → a.defers = [Hz D] → Fr n { a with defers := [] } env → Hp B w0 w os → Q .normal a w) : Wl D P ops Q n env B w0 os f listed := fun a w hD h0 hd hF hH => by
  cases f with
  | zero => exact ⟨hr, h a w hD h0 hd hF hH⟩
  | succ f => exact ⟨fun _ => h a w hD h0 hd hF hH, fun i hi => (by rw [hr] at hi; cases hi)⟩
theorem H7 (i : Nat) (hr : Region.ready .any ops listed = [i]) (h : W8 D P ops Q n env B w0 os f listed i) : Wl D P ops Q n env B w0 os (f + 1) listed := Oo [i] hr (by simp) (fun j hj => by
 have : j = i := by simpa using hj
 subst this
 exact h)
theorem TI (i j : Nat) (hr : Region.ready .any ops listed = [i, j]) (h : W8 D P ops Q n env B w0 os f listed i) (h' : W8 D P ops Q n env B w0 os f listed j) : Wl D P ops Q n env B w0 os (f + 1) listed := Oo [i, j] hr (by simp) (fun k hk => by
  have : k = i ∨ k = j := by simpa using hk
  rcases this with rfl | rfl
  · exact h
  · exact h')
theorem W9 {id : Nat} (hmix : P.follows .mixedOrders = true) (h : Wl D P ops Q n env B w0 os ops.size (Array.replicate ops.size false)) : Sz D P Q n env B w0 os (.region id ops true) := fun a w hD h0 hd hF hH => wp_region_any hmix (h a w.drew hD h0 hd hF hH.drew)
theorem Wm {id : Nat} {y : Code} (hmix : P.follows .mixedOrders = true) (h : Wl D P ops (Exit.then (fun a w => y.wp P Q a w) Q) n env B w0 os ops.size (Array.replicate ops.size false)) : Sz D P Q n env B w0 os (.seq (.region id ops true) y) := W7 (W9 hmix h)
end
end Go.Proofs.YtjcfimmcogkopaaGreat.Sep
namespace Go.Proofs.YtjcfimmcogkopaaGreat.Sep
open Go.RowKit
open Go.Proofs.YtjcfimmcogkopaaGreat.Mem (AZ Ci Chg Au)
theorem AA : If Tryz.prog 34 4 := Nf Tryz.underlying34 rfl (by kernel_rfl)
theorem BA : Nh Tryz.prog 34 #[.int .u64 0, .int .u64 0, .int .i64 0, .slice none 0 0] := JU (z := .agg #[.int .u64 0, .int .u64 0, .int .i64 0, .slice none 0 0]) (by kernel_rfl) rfl
theorem Lp : Bl Tryz.prog 34 0 0 := fun g off w => by kernel_rfl
theorem Lq : Bl Tryz.prog 34 1 3 := fun g off w => by kernel_rfl
theorem Gf : Bl Tryz.prog 38 3 6 := fun g off w => by kernel_rfl
theorem Gg : Bl Tryz.prog 38 0 0 := fun g off w => by kernel_rfl
theorem Gh : Bl Tryz.prog 38 1 1 := fun g off w => by kernel_rfl
theorem Gi : Bl Tryz.prog 38 2 5 := fun g off w => by kernel_rfl
def flU : List ((Nat × Nat) × Nat) := [((34, 0), 0), ((34, 1), 3), ((38, 3), 6), ((38, 0), 0), ((38, 1), 1), ((38, 2), 5)] ++ flS
theorem Ju {P : Program} {b : List ((Nat × Nat) × Nat)} (hb : Ke P b) : ∀ {a : List ((Nat × Nat) × Nat)}, Mn P a → Ke P (a ++ b)
  | [], _ => hb
  | ((s, f), k) :: r, ha => fun S g q h => by
    simp only [List.cons_append] at h
    unfold WG at h
    cases h1 : Nat.beq s S with
    | false => simp only [h1] at h; exact Ju hb ha.2 S g q h
    | true =>
      cases h2 : Nat.beq f g with
      | false => simp only [h1, h2] at h; exact Ju hb ha.2 S g q h
      | true =>
        simp only [h1, h2, Option.some.injEq] at h
        have e1 := Nat.eq_of_beq_eq_true h1
        have e2 := Nat.eq_of_beq_eq_true h2
        subst e1; subst e2; subst h
        exact ha.1
theorem Ah : Ke Tryz.prog flU := Ju An ⟨Lp, Lq, Gf, Gg, Gh, Gi, trivial⟩
end Go.Proofs.YtjcfimmcogkopaaGreat.Sep
namespace Go.Proofs.YtjcfimmcogkopaaGreat.Sep
open Go.RowKit
open Go.Proofs.YtjcfimmcogkopaaGreat.Mem (AZ Ci Chg Au)
theorem PV {α : Type} {L : List α} {i : Nat} {b : α} (h : L[i]? = some b) : L.take i ++ [b] = L.take (i + 1) := by
 rw [List.take_add_one, h]; rfl
def K0 (gp ge : Nat) (ps : List (List UInt8)) (j : Nat) : Ass := fun rs => ∃ x : PsV, Ak [cell gp 78 #[x.v], AV 32 x.v x.l, cell ge 3 #[.int .i64 ((CG (ps.take j) : Nat) : Int)], fact (x.l.map (·.2) = ps.take j)] rs
theorem K0.open_ {gp ge : Nat} {ps : List (List UInt8)} {j : Nat} : ∀ rs, K0 gp ge ps j rs → ∃ x : PsV, Ak [cell gp 78 #[x.v], AV 32 x.v x.l, cell ge 3 #[.int .i64 ((CG (ps.take j) : Nat) : Int)], fact (x.l.map (·.2) = ps.take j)] rs := fun _ h => h
theorem TJ {gp ge : Nat} {ps : List (List UInt8)} {j : Nat} (x : PsV) (h : x.l.map (·.2) = ps.take j) : ∀ rs, Ak [cell gp 78 #[x.v], AV 32 x.v x.l, cell ge 3 #[.int .i64 ((CG (ps.take j) : Nat) : Int)]] rs → K0 gp ge ps j rs := fun _ hz => ⟨x, C5 h hz⟩
theorem Xa {gp ge : Nat} {ps : List (List UInt8)} : ∀ rs, Ak [cell gp 78 #[.slice none 0 0], AV 32 (.slice none 0 0) [], cell ge 3 #[.int .i64 0]] rs → K0 gp ge ps 0 rs := fun rs hz => TJ (j := 0) ⟨.slice none 0 0, []⟩ rfl rs (by have e : ((CG (ps.take 0) : Nat) : Int) = 0 := rfl; rw [e]; exact hz)
theorem R7 {X : Ass} {y : List UInt8} {ps : List (List UInt8)} {k N : Nat} {A0 : Option Addr} {c0 : Nat} (hX : Cu X (.slice A0 y.length c0) y) (hl : y.length ≤ 137438953472) (hr1 : (B1 y).1 = ps) (hk : CG ps = k) (hkl : k ≤ y.length) (hN : ps.length = N) (hNk : N * 8 ≤ k) (hlen : ∀ x, x ∈ ps → x.length ≤ 65536) : AW Tryz.prog 75 #[.slice A0 y.length c0] [X] (fun (x : PsV) => .tuple #[x.v, .int .i64 (k : Int)]) (fun (x : PsV) => [X, AV 32 x.v x.l, fact (x.l.map (·.2) = ps)]) := by
  refine Wi (args := [.slice A0 y.length c0]) 22 Tryz.func75 rfl rfl rfl ?_; intro w rs
  refine Ad (Af Ah rfl (Ab (Ad (Af Ah rfl (Aj (post := fun gp => [cell gp 78 #[.slice none 0 0], X]) rfl (Ch ME rfl) ?_))))); rintro gp
  refine Ab (Ad (Af Ah rfl (Aj (post := fun ge => [cell ge 3 #[.int .i64 0], cell gp 78 #[.slice none 0 0], X]) rfl (Ch VU rfl) ?_))); rintro ge
  refine AU (post := fun _ => [cell ge 3 #[.int .i64 0], cell gp 78 #[.slice none 0 0], X]) rfl rfl (AQ 0 (v := .int .i64 0) #[.int .i64 0] Bt.2 rfl rfl rfl rfl rfl rfl rfl rfl rfl) ?_; rintro ⟨⟩
  refine Ab (Aq (Hy (t := AV 32 (.slice none 0 0) ([])) (NK) (Bk [2, 0, 1] rfl (Xa (ps := ps)) rfl (Ad (Af Ah rfl (Aj rfl (Am (os' := fun g => [cell g 32 #[.slice A0 y.length c0], K0 gp ge ps 0, X]) [] 0 (Ag Tryz.func91 (by kernel_rfl) rfl) (Lo) rfl rfl rfl (fun _ => rfl) rfl rfl rfl) ?_)))))); rintro g
  refine Ab (Bm (Bv.keep (env' := [(0, .slice A0 y.length c0), (2, .slice none 0 0), (3, .int .i64 0), (4, .pointer (some ⟨gp, 0, none⟩)), (5, .pointer (some ⟨ge, 0, none⟩)), (7, .slice A0 y.length c0), (8, .func (.func 100) #[] #[.pointer (some ⟨g, 0, none⟩)])]) ⟨rfl, rfl, rfl, rfl, rfl, rfl, rfl, trivial⟩ (Bv.mid [cell g 32 #[.slice A0 y.length c0], K0 gp ge ps 0, X] (.refl _) ?_)))
  refine R2 (caps := [.pointer (some ⟨g, 0, none⟩)]) (post := [K0 gp ge ps N, X, cell g 32 #[.slice A0 y.length c0]]) (os' := [K0 gp ge ps N, X, cell g 32 #[.slice A0 y.length c0]]) (.normal) [1, 2, 0] rfl (Ag Tryz.func100 (by kernel_rfl) rfl) (fun L1 fn1 tm1 hf1 r1 k11 k12 k13 k14 k15 k16 => W5 (R5 (.yield L1) #[] g X (fun j => PN L1 r1 (K0 gp ge ps j)) hX hl hr1 hN ?_)) rfl rfl rfl ?_
  intro j A c x hpj hXx
  have hjN : j < N := by have := (List.getElem?_eq_some_iff.1 hpj).1; omega
  have hxl : x.length ≤ 65536 := hlen x (List.mem_of_getElem? hpj)
  have hst := R6 hpj
  have hsl := U6 ps (j + 1)
  refine W6 (Ol (n := 22) (env := [(9, .slice A x.length c), (0, .slice A0 y.length c0), (2, .slice none 0 0), (3, .int .i64 0), (4, .pointer (some ⟨gp, 0, none⟩)), (5, .pointer (some ⟨ge, 0, none⟩)), (7, .slice A0 y.length c0), (8, .func (.func 100) #[] #[.pointer (some ⟨g, 0, none⟩)])]) (.normal) k12 k11 (by rw [k14]; rfl) ?_ ?_)
  · rw [k14, k13]
    refine (congrArg (fun t => Fr 22 { tmps := t, defers := [] } _) (?_ : _ = (tm1.setIfInBounds 9 (.slice A x.length c)))).mpr (hf1.put (d := 9) (by decide) _)
    simp
  · intro w0 rs
    rw [k15]
    refine Vy (by kernel_rfl) (by rintro ⟨a, w, h⟩; first | exact h.elim | exact nomatch h.1 | (obtain ⟨_, h, _⟩ := h; exact nomatch h)) (Af Ah rfl (Bi (U4 0 rfl k11 ?_)))
    rw [k16]
    refine TD 1 rfl K0.open_ (fun _ => rfl) ?_; rintro p
    refine Ho.fact 3 rfl (fun _ h => h.2) ?_; rintro hfact
    refine Ho.leave [3] rfl rfl ?_
    have hpl : p.l.length ≤ N := by have := congrArg List.length hfact; rw [List.length_map, List.length_take] at this; omega
    refine TD 1 rfl LC (fun _ => rfl) ?_; rintro ⟨⟩
    refine U2 (W3 (We 2 rfl ?_))
    refine Wd (by rintro ⟨a, w, h⟩; first | exact h.elim | exact nomatch h.1 | (obtain ⟨_, h, _⟩ := h; exact nomatch h)) 5 3 [⟨.quiet, [none, none, none], fun _ => p.v, []⟩, ⟨.quiet, [none, none, none], fun _ => .slice A x.length c, []⟩, ⟨.act 0, [some false, some false, some false], fun _ => undef, [1]⟩, ⟨.act 1, [some true, some false, some false], fun _ => undef, [2]⟩, ⟨.act 2, [some true, some true, some false], fun _ => undef, [0, 3]⟩] [(2, .slice none 0 0), (3, .int .i64 0), (4, .pointer (some ⟨gp, 0, none⟩)), (5, .pointer (some ⟨ge, 0, none⟩)), (6, .slice A x.length c)] (fun ρ => match ρ with | [rq0, rq1, rq2] => [CJ rq1 (fun b1 => CJ rq0 (fun d1 => Ap 32 1 encW b1 ([d1])) (EF)) (EF), CJ rq0 (fun d1 => Ap 5 1 encB d1 x) (EF), CJ rq2 (fun p1 => CJ rq0 (fun d1 => Ap 32 1 encW p1 (p.l.map (·.1) ++ [d1])) (EF)) (Ap 32 1 encW p.v (p.l.map (·.1))), De (fun x : PtT => Ap 5 1 encB x.1 x.2) p.l, cell gp 78 #[p.v], cell ge 3 #[.int .i64 ((CG (ps.take j) : Nat) : Int)], DK L1 (GR r1), X] | _ => []) (by kernel_rfl) (by kernel_rfl) (by kernel_rfl) ⟨rfl, rfl, rfl, rfl, rfl, trivial⟩ rfl ?_ ?_
    refine Aa (by intro r0_ r1_ r2_; exact ⟨rfl, fun b w hH hb => Bb rfl rfl (Bn EU rfl) (hH.row 4 rfl) hb⟩) (Aa (by intro r0_ r1_ r2_; exact ⟨rfl, fun b w hH hb => Ae Ah rfl hb⟩) (Aa (by exact ⟨rfl, Bq.s (Am (os' := fun d1 => [EF, Ap 5 1 encB d1 x, Ap 32 1 encW p.v (p.l.map (·.1)), De (fun x : PtT => Ap 5 1 encB x.1 x.2) p.l, cell gp 78 #[p.v], cell ge 3 #[.int .i64 ((CG (ps.take j) : Nat) : Int)], DK L1 (GR r1), X]) [7, 1] 1 (Ag Tryz.func64 (by kernel_rfl) rfl) (Gv hXx (by omega)) rfl rfl rfl (fun _ => rfl) rfl rfl rfl) (fun _ => rfl)⟩) (Aa (by intro d1; exact ⟨rfl, Bq.s (Bq.place (val := fun b1 : Value => b1) (t := fun b1 => Ap 32 1 encW b1 ([d1])) (os' := fun b1 => [Ap 32 1 encW b1 ([d1]), Ap 5 1 encB d1 x, Ap 32 1 encW p.v (p.l.map (·.1)), De (fun x : PtT => Ap 5 1 encB x.1 x.2) p.l, cell gp 78 #[p.v], cell ge 3 #[.int .i64 ((CG (ps.take j) : Nat) : Int)], DK L1 (GR r1), X]) 0 rfl (by exact NL 1 Dv rfl rfl rfl) (fun _ => rfl)) (fun _ => rfl)⟩) (Aa (by intro d1 b1; exact ⟨rfl, Bq.s (Dr 2 Dv Vs rfl ([d1]) (fun w hH => hH.vec 0 rfl Vs) (by simp only [List.length_map, List.length_cons, List.length_nil]; omega) rfl rfl rfl rfl) (fun _ => rfl)⟩) ?_))))
    exact Cf
    intro d1 b1 p1
    refine Ce.keep (env' := [(2, .slice none 0 0), (3, .int .i64 0), (4, .pointer (some ⟨gp, 0, none⟩)), (5, .pointer (some ⟨ge, 0, none⟩)), (6, .slice A x.length c), (14, p1)]) ⟨rfl, rfl, rfl, rfl, rfl, rfl, trivial⟩ (Af Ah rfl (AU (post := fun _ => [Ap 32 1 encW b1 ([d1]), Ap 5 1 encB d1 x, Ap 32 1 encW p1 (p.l.map (·.1) ++ [d1]), De (fun x : PtT => Ap 5 1 encB x.1 x.2) p.l, cell gp 78 #[p1], cell ge 3 #[.int .i64 ((CG (ps.take j) : Nat) : Int)], DK L1 (GR r1), X]) rfl rfl (Gn 4 2 (v := p1) #[p1] EU.2 rfl (fun _ h => Ap.c1 h) rfl rfl rfl rfl rfl rfl rfl) ?_)); rintro ⟨⟩
    refine Bi (Xj (Ho.leave [0] rfl rfl (Vy (by kernel_rfl) (by rintro ⟨a, w, h⟩; first | exact h.elim | exact nomatch h.1 | (obtain ⟨_, h, _⟩ := h; exact nomatch h)) (Af Ah rfl (Ac rfl (.int .i64 ((CG (ps.take j) : Nat) : Int)) (fun b w hb hH => Bb rfl rfl (Bn Bt rfl) (hH.row 4 rfl) hb) (Af Ah rfl (Ac rfl (.int .i64 (x.length : Int)) (fun b w hb hH => AY ((hH.rd8 6 rfl hXx).rd) Tryz.underlying32 rfl rfl hb) (Ac rfl (.int .i64 ((8 + x.length : Nat) : Int)) (fun b w hb hH => AS rfl rfl rfl rfl (by rw [IntWalk.i64_in _ (by omega)]; omega) hb) (Ac rfl (.int .i64 ((CG (ps.take (j + 1)) : Nat) : Int)) (fun b w hb hH => AS rfl rfl rfl rfl (by rw [IntWalk.i64_in _ (by omega)]; omega) hb) ?_)))))))))
    refine AU (post := fun _ => [Ap 5 1 encB d1 x, Ap 32 1 encW p1 (p.l.map (·.1) ++ [d1]), De (fun x : PtT => Ap 5 1 encB x.1 x.2) p.l, cell gp 78 #[p1], cell ge 3 #[.int .i64 ((CG (ps.take (j + 1)) : Nat) : Int)], DK L1 (GR r1), X]) rfl rfl (AQ 4 (v := .int .i64 ((CG (ps.take (j + 1)) : Nat) : Int)) #[.int .i64 ((CG (ps.take (j + 1)) : Nat) : Int)] Bt.2 rfl rfl rfl rfl rfl rfl rfl rfl rfl) ?_; rintro ⟨⟩
    refine Bi (B3 (Qo [1, 2, 0] rfl LD rfl (Qo [1, 0, 2] rfl (TJ ⟨p1, p.l ++ [(d1, x)]⟩ (by rw [List.map_append, hfact]; exact PV hpj)) rfl ?_)))
    exact Wg [1, 0, 2] rfl rfl
  intro D aT wT hDm hD0 hdf hF hH
  obtain ⟨p, hH⟩ := U3 0 rfl K0.open_ hH
  have hfact := FA (p := (p.l.map (·.2) = ps.take N)) 3 rfl (fun _ h => h.2) hH
  have hps : p.l.map (·.2) = ps := by rw [hfact, ← hN, List.take_length]
  have hsum : ((CG (ps.take N) : Nat) : Int) = (k : Int) := by rw [← hN, List.take_length, ← hk]
  refine U7 (env := [(2, .slice none 0 0), (3, .int .i64 0), (4, .pointer (some ⟨gp, 0, none⟩)), (5, .pointer (some ⟨ge, 0, none⟩))]) (os := [cell gp 78 #[p.v], AV 32 p.v p.l, cell ge 3 #[.int .i64 ((CG (ps.take N) : Nat) : Int)], fact (p.l.map (·.2) = ps.take N), X, cell g 32 #[.slice A0 y.length c0]]) ?_ aT wT hDm hD0 hdf (hF.keep ⟨rfl, rfl, rfl, rfl, trivial⟩) hH
  refine Wm (by kernel_rfl) ?_
  refine TI 0 1 (by kernel_rfl) ?_ ?_
  refine Fg rfl rfl (p.v) (fun b w hb hH => Bb rfl rfl (Bn EU rfl) (hH.row 0 rfl) hb) ?_
  refine TI 1 2 (by kernel_rfl) ?_ ?_
  refine Fg rfl rfl (.int .i64 ((CG (ps.take N) : Nat) : Int)) (fun b w hb hH => Bb rfl rfl (Bn Bt rfl) (hH.row 2 rfl) hb) (H7 2 (by kernel_rfl) (Fg rfl rfl (p.v) (fun b w hb hH => Ae Ah rfl hb) (H7 3 (by kernel_rfl) (Fg rfl rfl (.int .i64 ((CG (ps.take N) : Nat) : Int)) (fun b w hb hH => Ae Ah rfl hb) (MU (by kernel_rfl) (U7 (Sz.keep (env' := [(2, p.v), (3, .int .i64 ((CG (ps.take N) : Nat) : Int))]) ⟨rfl, rfl, trivial⟩ ?_)))))))
  exact TH (fun a w hD hD0 hd hF hH => PQ (os := [cell gp 78 #[p.v], AV 32 p.v p.l, cell ge 3 #[.int .i64 ((CG (ps.take N) : Nat) : Int)], fact (p.l.map (·.2) = ps.take N), X, cell g 32 #[.slice A0 y.length c0]]) (.tmp rfl) (.tmp rfl) rfl (fun w' h => AG (X := PsV) (val := fun x : PsV => .tuple #[x.v, .int .i64 (k : Int)]) (post := fun x : PsV => [X, AV 32 x.v x.l, fact (x.l.map (·.2) = ps)]) (os := [cell gp 78 #[p.v], AV 32 p.v p.l, cell ge 3 #[.int .i64 ((CG (ps.take N) : Nat) : Int)], fact (p.l.map (·.2) = ps.take N), X, cell g 32 #[.slice A0 y.length c0]]) p (by rw [hsum]) [4, 1] rfl h (fun z hz => ⟨z, .refl _, C5 (xs := [X, AV 32 p.v p.l]) hps hz⟩)) D a w hD hD0 hd hF hH)
  refine Fg rfl rfl (p.v) (fun b w hb hH => Ae Ah rfl hb) (H7 1 (by kernel_rfl) (Fg rfl rfl (.int .i64 ((CG (ps.take N) : Nat) : Int)) (fun b w hb hH => Bb rfl rfl (Bn Bt rfl) (hH.row 2 rfl) hb) (H7 3 (by kernel_rfl) (Fg rfl rfl (.int .i64 ((CG (ps.take N) : Nat) : Int)) (fun b w hb hH => Ae Ah rfl hb) (MU (by kernel_rfl) (U7 (Sz.keep (env' := [(2, p.v), (3, .int .i64 ((CG (ps.take N) : Nat) : Int))]) ⟨rfl, rfl, trivial⟩ ?_)))))))
  exact TH (fun a w hD hD0 hd hF hH => PQ (os := [cell gp 78 #[p.v], AV 32 p.v p.l, cell ge 3 #[.int .i64 ((CG (ps.take N) : Nat) : Int)], fact (p.l.map (·.2) = ps.take N), X, cell g 32 #[.slice A0 y.length c0]]) (.tmp rfl) (.tmp rfl) rfl (fun w' h => AG (X := PsV) (val := fun x : PsV => .tuple #[x.v, .int .i64 (k : Int)]) (post := fun x : PsV => [X, AV 32 x.v x.l, fact (x.l.map (·.2) = ps)]) (os := [cell gp 78 #[p.v], AV 32 p.v p.l, cell ge 3 #[.int .i64 ((CG (ps.take N) : Nat) : Int)], fact (p.l.map (·.2) = ps.take N), X, cell g 32 #[.slice A0 y.length c0]]) p (by rw [hsum]) [4, 1] rfl h (fun z hz => ⟨z, .refl _, C5 (xs := [X, AV 32 p.v p.l]) hps hz⟩)) D a w hD hD0 hd hF hH)
  refine Fg rfl rfl (.int .i64 ((CG (ps.take N) : Nat) : Int)) (fun b w hb hH => Bb rfl rfl (Bn Bt rfl) (hH.row 2 rfl) hb) (H7 0 (by kernel_rfl) (Fg rfl rfl (p.v) (fun b w hb hH => Bb rfl rfl (Bn EU rfl) (hH.row 0 rfl) hb) (H7 2 (by kernel_rfl) (Fg rfl rfl (p.v) (fun b w hb hH => Ae Ah rfl hb) (H7 3 (by kernel_rfl) (Fg rfl rfl (.int .i64 ((CG (ps.take N) : Nat) : Int)) (fun b w hb hH => Ae Ah rfl hb) (MU (by kernel_rfl) (U7 (Sz.keep (env' := [(2, p.v), (3, .int .i64 ((CG (ps.take N) : Nat) : Int))]) ⟨rfl, rfl, trivial⟩ ?_)))))))))
  exact TH (fun a w hD hD0 hd hF hH => PQ (os := [cell gp 78 #[p.v], AV 32 p.v p.l, cell ge 3 #[.int .i64 ((CG (ps.take N) : Nat) : Int)], fact (p.l.map (·.2) = ps.take N), X, cell g 32 #[.slice A0 y.length c0]]) (.tmp rfl) (.tmp rfl) rfl (fun w' h => AG (X := PsV) (val := fun x : PsV => .tuple #[x.v, .int .i64 (k : Int)]) (post := fun x : PsV => [X, AV 32 x.v x.l, fact (x.l.map (·.2) = ps)]) (os := [cell gp 78 #[p.v], AV 32 p.v p.l, cell ge 3 #[.int .i64 ((CG (ps.take N) : Nat) : Int)], fact (p.l.map (·.2) = ps.take N), X, cell g 32 #[.slice A0 y.length c0]]) p (by rw [hsum]) [4, 1] rfl h (fun z hz => ⟨z, .refl _, C5 (xs := [X, AV 32 p.v p.l]) hps hz⟩)) D a w hD hD0 hd hF hH)
theorem K1 {X : Ass} {v : Value} {y : List UInt8} {ps : List (List UInt8)} {k : Nat} (hX : Cu X v y) (hl : y.length ≤ 137438953472) (hr : B1 y = (ps, k)) : AW Tryz.prog 75 #[v] [X] (fun x : PsV => .tuple #[x.v, .int .i64 (k : Int)]) (fun x => [X, AV 32 x.v x.l, fact (x.l.map (·.2) = ps)]) := fun w rs h1 h2 h3 => by
  have hXr := Ak.one' h1
  obtain ⟨A0, c0, rfl, _⟩ := hX rs w hXr h2
  have e1 : (B1 y).1 = ps := congrArg Prod.fst hr
  have e2 : (B1 y).2 = k := congrArg Prod.snd hr
  have h4 := LS y.length y
  have h5 := QT y.length y
  have h6 := KV y.length y
  have h7 := Et y.length y
  change (B1 y).2 = CG (B1 y).1 at h4
  change (B1 y).2 ≤ y.length at h5
  change (B1 y).1.length * 8 ≤ (B1 y).2 at h6
  change ∀ x, x ∈ (B1 y).1 → x.length ≤ 65536 at h7
  rw [e1, e2] at h4
  rw [e2] at h5
  rw [e1, e2] at h6
  rw [e1] at h7
  exact R7 hX hl e1 h4.symm h5 rfl h6 h7 w rs h1 h2 h3
end Go.Proofs.YtjcfimmcogkopaaGreat.Sep
