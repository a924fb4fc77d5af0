/-
  SgA · SgM · FrmP · Lit · FrmT · Beh · TyU · PhL
-/
import Derived.Test.YtjcfimmcogkopaaAA07
import Derived.Test.YtjcfimmcogkopaaAB01
import Derived.Test.YtjcfimmcogkopaaAB02
import Derived.Test.YtjcfimmcogkopaaAB03
import Derived.Test.YtjcfimmcogkopaaAG01
import Derived.Test.YtjcfimmcogkopaaAH01
import Derived.OrdersIn
set_option linter.unusedSimpArgs false
set_option linter.unusedVariables false

namespace Go.Proofs.Ytjcfimmcogkopaa.Sep
open Go.RowKit
open Go.Proofs.Ytjcfimmcogkopaa.Mem (Dist Blk Chg below0)

theorem first_none {w : World} {y : List UInt8} {A : Option Addr} {c : Nat} (hn : nextF y = none) (hv : Sl8 w (.slice A y.length c) y) (hl : y.length ≤ 137438953472) : Calls Try.prog 54 #[.slice A y.length c] w fun e w' => e = .returned (.tuple #[fstP A c y, .bool false]) ∧ Below w.heap.size w w' := by
  have h := first_c w hv hl
  rwa [hn] at h
theorem fst_some {A : Option Addr} {c : Nat} {y x : List UInt8} (hn : nextF y = some x) : fstP A c y = .slice (if c = 8 then A else A.map (·.add 8)) x.length (c - 8) ∧ x = (y.drop 8).take x.length ∧ 8 + x.length ≤ y.length := by
  have hx := next_len hn
  unfold nextF at hn
  split at hn
  · rename_i h
    cases hn
    refine ⟨?_, ?_, hx.1⟩
    · unfold fstP
      rw [if_pos ⟨h.1, h.2.1, h.2.2.1⟩, List.length_take, List.length_drop, Nat.min_eq_left (by omega)]
    · rw [List.length_take, List.length_drop, Nat.min_eq_left (by omega)]
  · cases hn
theorem first_some {w : World} {y x : List UInt8} {A A8 : Option Addr} {c : Nat} (hn : nextF y = some x) (hA : (if c = 8 then A else A.map (·.add 8)) = A8) (hv : Sl8 w (.slice A y.length c) y) (hl : y.length ≤ 137438953472) : Calls Try.prog 54 #[.slice A y.length c] w fun e w' => e = .returned (.tuple #[.slice A8 x.length (c - 8), .bool true]) ∧ Below w.heap.size w w' := by
  have h := first_c w hv hl
  rwa [(fst_some hn).1, hn, hA] at h
theorem Rd8.first {X : Ass} {y x : List UInt8} {A : Option Addr} {c : Nat} (hX : Rd8 X (.slice A y.length c) y) (hn : nextF y = some x) : Rd8 X (.slice (if c = 8 then A else A.map (·.add 8)) x.length (c - 8)) x := fun rs w h1 h2 => by
  obtain ⟨_, h3, h4⟩ := fst_some (A := A) (c := c) hn
  have h5 := sl8_take (sl8_drop (hX rs w h1 h2) (i := 8) (by omega)) (k := x.length) (by rw [List.length_drop]; omega)
  rwa [← h3] at h5
theorem drop_next {ps q : List (List UInt8)} {x : List UInt8} {j : Nat} (h : x :: q = ps.drop j) : ps[j]? = some x ∧ q = ps.drop (j + 1) ∧ j < ps.length := by
  have h1 : ps[j]? = some x := by
    have := congrArg (·[0]?) h
    simpa using this.symm
  have hlt := (List.getElem?_eq_some_iff.1 h1).1
  refine ⟨h1, ?_, hlt⟩
  rw [List.drop_eq_getElem_cons hlt] at h
  exact (List.cons.inj h).2
theorem done_next {ps : List (List UInt8)} {j : Nat} (h : [] = ps.drop j) (hj : j ≤ ps.length) : j = ps.length := by
  have := congrArg List.length h
  rw [List.length_nil, List.length_drop] at this
  omega
theorem sub_lo {A : Option Addr} {c k : Nat} {l : List UInt8} : subv 1 (.slice A l.length c) k l.length = .slice (if c = k then A else A.map (·.add k)) (l.drop k).length (c - k) := by
  rw [List.length_drop]; exact sub_mid

set_option maxRecDepth 100000 in
theorem complete1 (k : Fn) (caps : Array Value) (g : Nat) (X : Ass) (T : Nat → Ass) {A0 : Option Addr} {c0 : Nat} {y : List UInt8} {ps : List (List UInt8)} (hX : Rd8 X (.slice A0 y.length c0) y) (hl : y.length ≤ 137438953472) (hr : (listL y).1 = ps) {N : Nat} (hN : ps.length = N) (hy : (∀ j A c x, ps[j]? = some x → Rd8 X (.slice A x.length c) x → DoesF Try.prog (.func k #[] caps) [.slice A x.length c] [T j, X] (fun _ : Unit => .bool true) (fun _ => [T (j + 1), X]))) : Does Try.prog 53 #[.func k #[] caps, .pointer (some ⟨g, 0, none⟩)] [T 0, X, cell g 29 #[.slice A0 y.length c0]] (fun (_ : Unit) => .tuple #[]) (fun (_ : Unit) => [T N, X, cell g 29 #[.slice A0 y.length c0]]) := by
  refine d_ins (args := [.func k #[] caps, .pointer (some ⟨g, 0, none⟩)]) 25 Try.func53 rfl rfl rfl ?_; intro w rs
  refine d_reg ?_
  refine h_q hflS rfl ?_
  refine h_val rfl (.slice A0 y.length c0) (fun b w hb hH => exec_load rfl rfl (reads_one ty_s_uint8 rfl) (hH.row 2 rfl) hb) ?_
  refine h_q hflS rfl ?_
  refine h_done (d_block ?_)
  refine d_loop (α := Nat × List UInt8 × Option Addr × Nat) (fun ⟨j, l, A, c⟩ => [(0, .func k #[] caps), (3, .slice A l.length c)]) (fun ⟨j, l, A, c⟩ => [T j, X, cell g 29 #[.slice A0 y.length c0]]) (fun ⟨j, l, A, c⟩ => j ≤ ps.length ∧ Rd8 X (.slice A l.length c) l ∧ (listL l).1 = ps.drop j ∧ l.length ≤ 137438953472) (fun ⟨j, l, A, c⟩ => ps.length - j) (0, y, A0, c0) ⟨Nat.zero_le _, hX, by rw [hr]; rfl, hl⟩ ⟨rfl, rfl, trivial⟩ rfl ?_
  rintro ⟨j, l, A, c⟩ hI
  refine WC2.at_ (env' := [(0, .func k #[] caps), (3, .slice A l.length c)]) (rs' := [T j, X, cell g 29 #[.slice A0 y.length c0]]) ⟨rfl, rfl, trivial⟩ rfl ?_
  have hI1 := hI.1
  have hXl : Rd8 X (.slice A l.length c) l := hI.2.1
  have hI3 : (listL l).1 = ps.drop j := hI.2.2.1
  have hI4 : l.length ≤ 137438953472 := hI.2.2.2
  clear hI
  refine d_block ?_
  rcases hn : nextF l with _ | x
  · skip
    rw [listL_none hn] at hI3
    obtain rfl : j = N := (done_next hI3 hI1).trans hN
    refine d_reg ?_
    refine h_q hflS rfl ?_
    refine h_act (post := fun _ => [T j, X, cell g 29 #[.slice A0 y.length c0]]) rfl (a_call (ent_of Try.func54 (by kernel_rfl) rfl) (fun w hH => first_none hn (hH.rd8 1 rfl hXl) hI4) rfl rfl rfl) ?_; rintro ⟨⟩
    refine h_q hflS rfl ?_
    refine h_done (d_seq (d_reg ?_))
    refine h_q hflS rfl ?_
    refine h_done (d_then rfl (d_ret (f_then_ret (f_block_ret (f_then_ret (f_block_ret ?_))))))
    exact f_fin0  (fun w h => tells () rfl [0, 1, 2] rfl h same_parts) rfl
  · skip
    obtain ⟨A8, hA8⟩ : ∃ A8, (if c = 8 then A else A.map (·.add 8)) = A8 := ⟨_, rfl⟩
    have hXx : Rd8 X (.slice A8 x.length (c - 8)) x := by have h3 := hXl.first hn; rwa [hA8] at h3
    have hx3 := (fst_some (A := A) (c := c) hn).2.2
    rw [listL_some hn] at hI3
    obtain ⟨hpj, hq, hjl⟩ := drop_next hI3
    have hyj := hy j A8 (c - 8) x hpj hXx
    obtain ⟨l1, hl1⟩ : ∃ l1, l.drop (8 + x.length) = l1 := ⟨_, rfl⟩
    obtain ⟨A1, hA1⟩ : ∃ A1, (if c = 8 + x.length then A else A.map (·.add (8 + x.length))) = A1 := ⟨_, rfl⟩
    obtain ⟨c1, hc1⟩ : ∃ c1, c - (8 + x.length) = c1 := ⟨_, rfl⟩
    have hs1 : subv 1 (.slice A l.length c) (8 + x.length) l.length = .slice A1 l1.length c1 := by rw [sub_lo, hl1, hA1, hc1]
    have hX1 : Rd8 X (.slice A1 l1.length c1) l1 := by have h3 := hXl.drop (k := 8 + x.length) (by omega); rwa [hl1, hA1, hc1] at h3
    have hl2 : l1.length ≤ 137438953472 := by rw [← hl1, List.length_drop]; omega
    rw [hl1] at hq
    refine d_reg ?_
    refine h_q hflS rfl ?_
    refine h_act (post := fun _ => [T j, X, cell g 29 #[.slice A0 y.length c0]]) rfl (a_call (ent_of Try.func54 (by kernel_rfl) rfl) (fun w hH => first_some hn hA8 (hH.rd8 1 rfl hXl) hI4) rfl rfl rfl) ?_; rintro ⟨⟩
    refine h_q hflS rfl ?_
    refine h_done (d_seq (d_seq ?_))
    refine d_regI (i_pre gf_w 5 (by rintro ⟨a, w, h⟩; first | exact h.elim | exact nomatch h.1 | (obtain ⟨_, h, _⟩ := h; exact nomatch h)) (by kernel_rfl) ?_)
    refine h_q hflS rfl ?_
    refine i_to ?_
    refine i_does (X := Unit) (post := fun _ => [T (j + 1), X]) (os' := fun _ => [T (j + 1), X, cell g 29 #[.slice A0 y.length c0]]) gf_w [0, 1] (hyj) rfl rfl rfl rfl rfl rfl (fun _ => rfl) ?_; rintro ⟨⟩
    refine i_rest gf_w (by rintro ⟨a, w, h⟩; first | exact h.elim | exact nomatch h.1 | (obtain ⟨_, h, _⟩ := h; exact nomatch h)) (by kernel_rfl) ?_
    refine h_q hflS rfl ?_
    refine h_nil (f_to (d_else rfl (d_skip (f_to (d_reg1 ?_)))))
    refine h_q hflS rfl ?_
    refine h_val rfl (.int .i64 (x.length : Int)) (fun b w hb hH => e_slen ((hH.rd8 1 rfl hXx).rd) Try.underlying29 rfl rfl hb) ?_
    refine h_val rfl (.int .i64 ((8 + x.length : Nat) : Int)) (fun b w hb hH => exec_ar rfl rfl rfl rfl (by rw [IntWalk.i64_in _ (by omega)]; omega) hb) ?_
    refine h_val rfl (.slice A1 l1.length c1) (fun b w hb hH => e_sub_lo (i := (8 + x.length)) sl_uint8 hs1 hx3 rfl rfl rfl hH hb) ?_
    refine h_q hflS rfl ?_
    refine h_nil (f_block ?_)
    exact f_again (j + 1, l1, A1, c1) 0 ⟨hjl, hX1, hq, hl2⟩ (show ps.length - (j + 1) < ps.length - j by omega) ⟨rfl, rfl, trivial⟩ rfl

set_option maxRecDepth 100000 in
theorem complete_does {A0 : Option Addr} {n c0 : Nat} : Does Try.prog 47 #[.slice A0 n c0] [] (fun (g : Nat) => .func (.func 53) #[] #[.pointer (some ⟨g, 0, none⟩)]) (fun (g : Nat) => [cell g 29 #[.slice A0 n c0]]) := by
  refine d_ins (args := [.slice A0 n c0]) 4 Try.func47 rfl rfl rfl ?_; intro w rs
  refine d_reg ?_
  refine h_q hflS rfl ?_
  refine h_act (post := fun g => [cell g 29 #[.slice A0 n c0]]) rfl (a_box (cs := #[.slice A0 n c0]) rfl rfl rfl) ?_; rintro g
  refine h_q hflS rfl ?_
  refine h_done (d_reg ?_)
  refine h_q hflS rfl ?_
  refine h_val rfl (.func (.func 53) #[] #[.pointer (some ⟨g, 0, none⟩)]) (fun b w hb hH => e_func rfl rfl hb) ?_
  refine h_q hflS rfl ?_
  refine h_done (d_ret ?_)
  exact f_fin1 (.tmp rfl) (fun w h => tells g rfl [0] rfl h same_parts) rfl

end Go.Proofs.Ytjcfimmcogkopaa.Sep

namespace Go.Proofs.Ytjcfimmcogkopaa.Sep

/-- the bytes of so many frames -/
def sumF (ps : List (List UInt8)) : Nat := (ps.map fun x => 8 + x.length).sum
theorem sumF_take {ps : List (List UInt8)} {j : Nat} {x : List UInt8} (h : ps[j]? = some x) : sumF (ps.take (j + 1)) = sumF (ps.take j) + (8 + x.length) := by
  unfold sumF
  have hlt := (List.getElem?_eq_some_iff.1 h).1
  rw [List.take_add_one, h]
  simp
theorem sumF_le (ps : List (List UInt8)) (j : Nat) : sumF (ps.take j) ≤ sumF ps := by
  have h : sumF ps = sumF (ps.take j) + sumF (ps.drop j) := by
    unfold sumF
    rw [← List.sum_append, ← List.map_append, List.take_append_drop]
  omega
theorem sumF_cons (x : List UInt8) (ps : List (List UInt8)) : sumF (x :: ps) = 8 + x.length + sumF ps := by simp [sumF]
theorem list_sumF : ∀ (k : Nat) (b : List UInt8), (listF k b).2 = sumF (listF k b).1
  | 0, _ => rfl
  | k + 1, b => by
    simp only [listF]
    cases h : nextF b with
    | none => rfl
    | some x => rw [sumF_cons]; simp only [← list_sumF k]
end Go.Proofs.Ytjcfimmcogkopaa.Sep

namespace Go.Proofs.Ytjcfimmcogkopaa.Sep
open Go.RowKit
open Go.Proofs.Ytjcfimmcogkopaa.Mem (Dist Blk Chg below0)
section
variable {te t : TypeId} {v : Value} {L : List PtT} {X : Ass} {l : List PtV} {w w0 : World} {B : Nat → Prop} {os : List Ass} {P : Program} {n : Nat} {env : List (Nat × Value)} {o : Oper} {act : Act}
end
end Go.Proofs.Ytjcfimmcogkopaa.Sep

namespace Go.Proofs.Ytjcfimmcogkopaa.Sep
open Go.RowKit
open Go.Proofs.Ytjcfimmcogkopaa.Mem (Dist Blk Chg below0)

section lit
variable {P : Program} {e t : TypeId} {l : List UInt8} {v : Value} {B : Nat → Prop} {w0 w w' : World} {os : List Ass} {n : Nat} {env : List (Nat × Value)} {Q : Exit → Act → World → Prop} {o : Oper} {act : Act}
end lit
theorem sub_take7 {A : Option Addr} {n c j : Nat} : subv 1 (.slice A n c) 0 j = .slice A j c := by
  show Value.slice (if c = 0 then A else A.map (·.add (0 * 1))) (j - 0) (c - 0) = _
  cases A <;> simp [Addr.add]
end Go.Proofs.Ytjcfimmcogkopaa.Sep

namespace Go.Proofs.Ytjcfimmcogkopaa.Sep
open Go.RowKit
open Go.Proofs.Ytjcfimmcogkopaa.Mem (Dist Blk Chg below0)

theorem take_pushP {α : Type} {L : List α} {i : Nat} {b : α} (h : L[i]? = some b) : L.take i ++ [b] = L.take (i + 1) := by
  have hlt := (List.getElem?_eq_some_iff.1 h).1
  have hx := (List.getElem?_eq_some_iff.1 h).2
  rw [← hx, List.take_succ_eq_append_getElem hlt]

end Go.Proofs.Ytjcfimmcogkopaa.Sep

namespace Go.Proofs.Ytjcfimmcogkopaa.Sep
open Go.RowKit
open Go.Proofs.Ytjcfimmcogkopaa.Mem (Dist Blk Chg below0)
section
variable {P : Program} {ops : Array Oper} {Q : Exit → Act → World → Prop} {n d D : Nat} {env : List (Nat × Value)} {B : Nat → Prop} {w0 w : World} {os : List Ass} {o : Oper} {a : Act} {rest : List Oper}
/-! ## In order -/
theorem t_seq {x y : Code} (h : WCT D P (Exit.then (fun a w => y.wp P Q a w) Q) n env B w0 os x) : WCT D P Q n env B w0 os (.seq x y) := fun a w hD h0 hd hF hH => wp_seq (h a w hD h0 hd hF hH)
theorem t_to {y : Code} (h : WCT D P Q n env B w0 os y) (a : Act) (w : World) (hD : w.heap[D]? = some (.deferred (some []))) (h0 : w0.heap.size ≤ D) (hd : a.defers = [markD D]) (hF : Fr n { a with defers := [] } env) (hH : Hp B w0 w os) : Exit.then (fun a w => y.wp P Q a w) Q .normal a w := h a w hD h0 hd hF hH
/-! ## In each order -/
def WAT (D : Nat) (P : Program) (ops : Array Oper) (Q : Exit → Act → World → Prop) (n : Nat) (env : List (Nat × Value)) (B : Nat → Prop) (w0 : World) (os : List Ass) (f : Nat) (listed : Array Bool) : Prop := ∀ a w, w.heap[D]? = some (.deferred (some [])) → w0.heap.size ≤ D → a.defers = [markD D] → Fr n { a with defers := [] } env → Hp B w0 w os → wpAny P .any ops Q f listed a w
def WOT (D : Nat) (P : Program) (ops : Array Oper) (Q : Exit → Act → World → Prop) (n : Nat) (env : List (Nat × Value)) (B : Nat → Prop) (w0 : World) (os : List Ass) (f : Nat) (listed : Array Bool) (i : Nat) : Prop := ∀ a w, w.heap[D]? = some (.deferred (some [])) → w0.heap.size ≤ D → a.defers = [markD D] → Fr n { a with defers := [] } env → Hp B w0 w os → wpOp P ops Q i (wpAny P .any ops Q f (listed.setIfInBounds i true)) a w
variable {f i : Nat} {listed : Array Bool}
theorem bt_ready (l : List Nat) (hr : Region.ready .any ops listed = l) (hne : l ≠ []) (h : ∀ i ∈ l, WOT D P ops Q n env B w0 os f listed i) : WAT D P ops Q n env B w0 os (f + 1) listed := fun a w hD h0 hd hF hH => ⟨fun h1 => absurd (hr ▸ h1) hne, fun i hi => h i (hr ▸ hi) a w hD h0 hd hF hH⟩
theorem bt_val (ho : ops[i]? = some o) (h1 : at1 ops n o env = some d) (v : Value) (hrun : ∀ b w, Fr n b env → Hp B w0 w os → (execOp b.eval o).run P w = .ok (.value v) w) (h : WAT D P ops Q n ((d, v) :: env) B w0 os f (listed.setIfInBounds i true)) : WOT D P ops Q n env B w0 os f listed i := fun a w hD h0 hd hF hH => by
  unfold wpOp
  simp only [ho]
  have hw : Region.wanted o (yielded ops a.tmps) = true := hF.wants (at1_parts h1).1
  rw [if_pos hw]
  refine .inl ?_
  unfold Oper.wp
  rw [eval_of, hrun _ w hF hH, Oper.upon_value]
  refine h _ _ hD h0 ((put_defers _ _ _).trans hd) ?_ hH
  rw [put_of, (at1_parts h1).2.1]
  exact hF.put (at1_parts h1).2.2 _
theorem bt_done (hr : Region.ready .any ops listed = []) (h : ∀ a w, w.heap[D]? = some (.deferred (some [])) → w0.heap.size ≤ D → a.defers = [markD D] → Fr n { a with defers := [] } env → Hp B w0 w os → Q .normal a w) : WAT D P ops Q n env B w0 os f listed := fun a w hD h0 hd hF hH => by
  cases f with
  | zero => exact ⟨hr, h a w hD h0 hd hF hH⟩
  | succ f => exact ⟨fun _ => h a w hD h0 hd hF hH, fun i hi => (by rw [hr] at hi; cases hi)⟩
theorem bt_one (i : Nat) (hr : Region.ready .any ops listed = [i]) (h : WOT D P ops Q n env B w0 os f listed i) : WAT D P ops Q n env B w0 os (f + 1) listed := bt_ready [i] hr (by simp) (fun j hj => by
  have : j = i := by simpa using hj
  subst this
  exact h)
theorem bt_two (i j : Nat) (hr : Region.ready .any ops listed = [i, j]) (h : WOT D P ops Q n env B w0 os f listed i) (h' : WOT D P ops Q n env B w0 os f listed j) : WAT D P ops Q n env B w0 os (f + 1) listed := bt_ready [i, j] hr (by simp) (fun k hk => by
  have : k = i ∨ k = j := by simpa using hk
  rcases this with rfl | rfl
  · exact h
  · exact h')
theorem t_any {id : Nat} (hmix : P.follows .mixedOrders = true) (h : WAT D P ops Q n env B w0 os ops.size (Array.replicate ops.size false)) : WCT D P Q n env B w0 os (.region id ops true) := fun a w hD h0 hd hF hH => wp_region_any hmix (h a w.drew hD h0 hd hF hH.drew)
theorem t_anyQ {id : Nat} {y : Code} (hmix : P.follows .mixedOrders = true) (h : WAT D P ops (Exit.then (fun a w => y.wp P Q a w) Q) n env B w0 os ops.size (Array.replicate ops.size false)) : WCT D P Q n env B w0 os (.seq (.region id ops true) y) := t_seq (t_any hmix h)
end
end Go.Proofs.Ytjcfimmcogkopaa.Sep

namespace Go.Proofs.Ytjcfimmcogkopaa.Sep
open Go.RowKit
open Go.Proofs.Ytjcfimmcogkopaa.Mem (Dist Blk Chg below0)
theorem ty_api_Snap : AggOf Try.prog 31 4 := aggOf Try.underlying31 rfl (by kernel_rfl)
theorem ze_api_Snap : Zero Try.prog 31 #[.int .u64 0, .int .u64 0, .int .i64 0, .slice none 0 0] := zero_of (z := .agg #[.int .u64 0, .int .u64 0, .int .i64 0, .slice none 0 0]) (by kernel_rfl) rfl
theorem fd_api_Snap_0 : FieldAt Try.prog 31 0 0 := fun g off w => by kernel_rfl
theorem fd_api_Snap_1 : FieldAt Try.prog 31 1 3 := fun g off w => by kernel_rfl
theorem fd_bursarlaw11_Step_1 : FieldAt Try.prog 45 1 1 := fun g off w => by kernel_rfl
theorem fd_bursarlaw11_Step_2 : FieldAt Try.prog 45 2 5 := fun g off w => by kernel_rfl
theorem sl_api_Snap : SliceT Try.prog 38 31 4 := sliceT_of (z := .agg #[.int .u64 0, .int .u64 0, .int .i64 0, .slice none 0 0]) Try.underlying38 (by kernel_rfl) rfl rfl (by decide)

def flU : List ((Nat × Nat) × Nat) := [((31, 0), 0), ((31, 1), 3), ((45, 1), 1), ((45, 2), 5)] ++ flS
theorem flds_appU {P : Program} {b : List ((Nat × Nat) × Nat)} (hb : Flds P b) : ∀ {a : List ((Nat × Nat) × Nat)}, AllFlds P a → Flds P (a ++ b)
  | [], _ => hb
  | ((s, f), k) :: r, ha => fun S g q h => by
    simp only [List.cons_append] at h
    unfold fld at h
    cases h1 : Nat.beq s S with
    | false => simp only [h1] at h; exact flds_appU hb ha.2 S g q h
    | true =>
      cases h2 : Nat.beq f g with
      | false => simp only [h1, h2] at h; exact flds_appU hb ha.2 S g q h
      | true =>
        simp only [h1, h2, Option.some.injEq] at h
        have e1 := Nat.eq_of_beq_eq_true h1
        have e2 := Nat.eq_of_beq_eq_true h2
        subst e1; subst e2; subst h
        exact ha.1
theorem hflU : Flds Try.prog flU := flds_appU hflS ⟨fd_api_Snap_0, fd_api_Snap_1, fd_bursarlaw11_Step_1, fd_bursarlaw11_Step_2, trivial⟩
end Go.Proofs.Ytjcfimmcogkopaa.Sep

namespace Go.Proofs.Ytjcfimmcogkopaa.Sep
open Go.RowKit
open Go.Proofs.Ytjcfimmcogkopaa.Mem (Dist Blk Chg below0)

/-- what List has gathered -/
def LstI (gp ge : Nat) (ps : List (List UInt8)) (j : Nat) : Ass := fun rs => ∃ x : PsV, Parts [cell gp 72 #[x.v], PartsT 29 x.v x.l, cell ge 3 #[.int .i64 ((sumF (ps.take j) : Nat) : Int)], fact (x.l.map (·.2) = ps.take j)] rs
theorem LstI.open_ {gp ge : Nat} {ps : List (List UInt8)} {j : Nat} : ∀ rs, LstI gp ge ps j rs → ∃ x : PsV, Parts [cell gp 72 #[x.v], PartsT 29 x.v x.l, cell ge 3 #[.int .i64 ((sumF (ps.take j) : Nat) : Int)], fact (x.l.map (·.2) = ps.take j)] rs := fun _ h => h
theorem lst_mk {gp ge : Nat} {ps : List (List UInt8)} {j : Nat} (x : PsV) (h : x.l.map (·.2) = ps.take j) : ∀ rs, Parts [cell gp 72 #[x.v], PartsT 29 x.v x.l, cell ge 3 #[.int .i64 ((sumF (ps.take j) : Nat) : Int)]] rs → LstI gp ge ps j rs := fun _ hz => ⟨x, fact_add h hz⟩
theorem lst_0 {gp ge : Nat} {ps : List (List UInt8)} : ∀ rs, Parts [cell gp 72 #[.slice none 0 0], PartsT 29 (.slice none 0 0) [], cell ge 3 #[.int .i64 0]] rs → LstI gp ge ps 0 rs := fun rs hz => lst_mk (j := 0) ⟨.slice none 0 0, []⟩ rfl rs (by have e : ((sumF (ps.take 0) : Nat) : Int) = 0 := rfl; rw [e]; exact hz)

set_option maxRecDepth 100000 in
theorem plist_any {X : Ass} {y : List UInt8} {ps : List (List UInt8)} {k N : Nat} {A0 : Option Addr} {c0 : Nat} (hX : Rd8 X (.slice A0 y.length c0) y) (hl : y.length ≤ 137438953472) (hr1 : (listL y).1 = ps) (hk : sumF ps = k) (hkl : k ≤ y.length) (hN : ps.length = N) (hNk : N * 8 ≤ k) (hlen : ∀ x, x ∈ ps → x.length ≤ 65536) : Does Try.prog 34 #[.slice A0 y.length c0] [X] (fun (x : PsV) => .tuple #[x.v, .int .i64 (k : Int)]) (fun (x : PsV) => [X, PartsT 29 x.v x.l, fact (x.l.map (·.2) = ps)]) := by
  refine d_insM (args := [.slice A0 y.length c0]) 22 Try.func34 rfl rfl rfl ?_; intro w rs
  refine d_reg ?_
  refine h_q hflU rfl ?_
  refine h_done (d_reg ?_)
  refine h_q hflU rfl ?_
  refine h_act (post := fun gp => [cell gp 72 #[.slice none 0 0], X]) rfl (a_alloc ze_s_s_uint8 rfl) ?_; rintro gp
  refine h_done (d_reg ?_)
  refine h_q hflU rfl ?_
  refine h_act (post := fun ge => [cell ge 3 #[.int .i64 0], cell gp 72 #[.slice none 0 0], X]) rfl (a_alloc ze_int rfl) ?_; rintro ge
  refine h_acts (post := fun _ => [cell ge 3 #[.int .i64 0], cell gp 72 #[.slice none 0 0], X]) rfl rfl (a_store 0 (v := .int .i64 0) #[.int .i64 0] ty_int.2 rfl rfl rfl rfl rfl rfl rfl rfl rfl) ?_; rintro ⟨⟩
  refine h_done (d_seq ?_)
  refine d_new (t := PartsT 29 (.slice none 0 0) ([])) (prts_nil) ?_
  refine d_close [2, 0, 1] rfl (lst_0 (ps := ps)) rfl ?_
  refine d_reg ?_
  refine h_q hflU rfl ?_
  refine h_act (post := fun g => [cell g 29 #[.slice A0 y.length c0], LstI gp ge ps 0, X]) rfl (a_does (os' := fun g => [cell g 29 #[.slice A0 y.length c0], LstI gp ge ps 0, X]) [] 0 (ent_of Try.func47 (by kernel_rfl) rfl) (complete_does) rfl rfl rfl (fun _ => rfl) rfl rfl rfl) ?_; rintro g
  refine h_done (d_block ?_)
  refine WC2.keep (env' := [(0, .slice A0 y.length c0), (2, .slice none 0 0), (3, .int .i64 0), (4, .pointer (some ⟨gp, 0, none⟩)), (5, .pointer (some ⟨ge, 0, none⟩)), (7, .slice A0 y.length c0), (8, .func (.func 53) #[] #[.pointer (some ⟨g, 0, none⟩)])]) ⟨rfl, rfl, rfl, rfl, rfl, rfl, rfl, trivial⟩ ?_
  refine WC2.mid [cell g 29 #[.slice A0 y.length c0], LstI gp ge ps 0, X] (.refl _) ?_
  refine wp_rangeF (caps := [.pointer (some ⟨g, 0, none⟩)]) (post := [LstI gp ge ps N, X, cell g 29 #[.slice A0 y.length c0]]) (os' := [LstI gp ge ps N, X, cell g 29 #[.slice A0 y.length c0]]) (.normal) [1, 2, 0] rfl (ent_of Try.func53 (by kernel_rfl) rfl) (fun L1 fn1 tm1 hf1 r1 k11 k12 k13 k14 k15 k16 => it_in (complete1 (.yield L1) #[] g X (fun j => recI L1 r1 (LstI gp ge ps j)) hX hl hr1 hN ?_)) rfl rfl rfl ?_
  · skip
    intro j A c x hpj hXx
    have hjN : j < N := by have := (List.getElem?_eq_some_iff.1 hpj).1; omega
    have hxl : x.length ≤ 65536 := hlen x (List.mem_of_getElem? hpj)
    have hst := sumF_take hpj
    have hsl := sumF_le ps (j + 1)
    refine rd_in (doesF_round (n := 22) (env := [(9, .slice A x.length c), (0, .slice A0 y.length c0), (2, .slice none 0 0), (3, .int .i64 0), (4, .pointer (some ⟨gp, 0, none⟩)), (5, .pointer (some ⟨ge, 0, none⟩)), (7, .slice A0 y.length c0), (8, .func (.func 53) #[] #[.pointer (some ⟨g, 0, none⟩)])]) (.normal) k12 k11 (by rw [k14]; rfl) ?_ ?_)
    · rw [k14, k13]
      refine (congrArg (fun t => Fr 22 { tmps := t, defers := [] } _) (?_ : _ = (tm1.setIfInBounds 9 (.slice A x.length c)))).mpr (hf1.put (d := 9) (by decide) _)
      simp
    · intro w0 rs
      rw [k15]
      refine r_reg (by kernel_rfl) (by rintro ⟨a, w, h⟩; first | exact h.elim | exact nomatch h.1 | (obtain ⟨_, h, _⟩ := h; exact nomatch h)) ?_
      refine h_q hflU rfl ?_
      refine h_nil ?_
      refine r_begin 0 rfl k11 ?_
      rw [k16]
      refine r_open 1 rfl LstI.open_ (fun _ => rfl) ?_; rintro p
      refine WCR.fact 3 rfl (fun _ h => h.2) ?_; rintro hfact
      refine WCR.leave [3] rfl rfl ?_
      have hpl : p.l.length ≤ N := by have := congrArg List.length hfact; rw [List.length_map, List.length_take] at this; omega
      refine r_open 1 rfl prts_open (fun _ => rfl) ?_; rintro ⟨⟩
      refine r_block ?_
      refine r_seq ?_
      refine r_emps 2 rfl ?_
      refine r_parS (by rintro ⟨a, w, h⟩; first | exact h.elim | exact nomatch h.1 | (obtain ⟨_, h, _⟩ := h; exact nomatch h)) 5 3 [⟨.quiet, [none, none, none], fun _ => p.v, []⟩, ⟨.quiet, [none, none, none], fun _ => .slice A x.length c, []⟩, ⟨.act 0, [some false, some false, some false], fun _ => undef, [1]⟩, ⟨.act 1, [some true, some false, some false], fun _ => undef, [2]⟩, ⟨.act 2, [some true, some true, some false], fun _ => undef, [0, 3]⟩] [(2, .slice none 0 0), (3, .int .i64 0), (4, .pointer (some ⟨gp, 0, none⟩)), (5, .pointer (some ⟨ge, 0, none⟩)), (6, .slice A x.length c)] (fun ρ => match ρ with | [rq0, rq1, rq2] => [selS rq1 (fun b1 => selS rq0 (fun d1 => Vec 29 1 encW b1 ([d1])) (emp)) (emp), selS rq0 (fun d1 => Vec 5 1 encB d1 x) (emp), selS rq2 (fun p1 => selS rq0 (fun d1 => Vec 29 1 encW p1 (p.l.map (·.1) ++ [d1])) (emp)) (Vec 29 1 encW p.v (p.l.map (·.1))), Each (fun x : PtT => Vec 5 1 encB x.1 x.2) p.l, cell gp 72 #[p.v], cell ge 3 #[.int .i64 ((sumF (ps.take j) : Nat) : Int)], recT L1 (busyR r1), X] | _ => []) (by kernel_rfl) (by kernel_rfl) (by kernel_rfl) ⟨rfl, rfl, rfl, rfl, rfl, trivial⟩ rfl ?_ ?_
      · skip
        refine s_cons (by intro r0_ r1_ r2_; exact ⟨rfl, fun b w hH hb => exec_load rfl rfl (reads_one ty_s_s_uint8 rfl) (hH.row 4 rfl) hb⟩) ?_
        refine s_cons (by intro r0_ r1_ r2_; exact ⟨rfl, fun b w hH hb => exec_q1 hflU rfl hb⟩) ?_
        refine s_cons (by exact ⟨rfl, Acts.s (a_does (os' := fun d1 => [emp, Vec 5 1 encB d1 x, Vec 29 1 encW p.v (p.l.map (·.1)), Each (fun x : PtT => Vec 5 1 encB x.1 x.2) p.l, cell gp 72 #[p.v], cell ge 3 #[.int .i64 ((sumF (ps.take j) : Nat) : Int)], recT L1 (busyR r1), X]) [7, 1] 1 (ent_of Try.func32 (by kernel_rfl) rfl) (clone8 hXx (by omega)) rfl rfl rfl (fun _ => rfl) rfl rfl rfl) (fun _ => rfl)⟩) ?_
        refine s_cons (by intro d1; exact ⟨rfl, Acts.s (Acts.place (val := fun b1 : Value => b1) (t := fun b1 => Vec 29 1 encW b1 ([d1])) (os' := fun b1 => [Vec 29 1 encW b1 ([d1]), Vec 5 1 encB d1 x, Vec 29 1 encW p.v (p.l.map (·.1)), Each (fun x : PtT => Vec 5 1 encB x.1 x.2) p.l, cell gp 72 #[p.v], cell ge 3 #[.int .i64 ((sumF (ps.take j) : Nat) : Int)], recT L1 (busyR r1), X]) 0 rfl (by exact a_buildV 1 sl_s_uint8 rfl rfl rfl) (fun _ => rfl)) (fun _ => rfl)⟩) ?_
        refine s_cons (by intro d1 b1; exact ⟨rfl, Acts.s (a_append 2 sl_s_uint8 okW rfl ([d1]) (fun w hH => hH.vec 0 rfl okW) (by simp only [List.length_map, List.length_cons, List.length_nil]; omega) rfl rfl rfl rfl) (fun _ => rfl)⟩) ?_
        exact s_nil
      intro d1 b1 p1
      refine WL2.keep (env' := [(2, .slice none 0 0), (3, .int .i64 0), (4, .pointer (some ⟨gp, 0, none⟩)), (5, .pointer (some ⟨ge, 0, none⟩)), (6, .slice A x.length c), (14, p1)]) ⟨rfl, rfl, rfl, rfl, rfl, rfl, trivial⟩ ?_
      refine h_q hflU rfl ?_
      refine h_acts (post := fun _ => [Vec 29 1 encW b1 ([d1]), Vec 5 1 encB d1 x, Vec 29 1 encW p1 (p.l.map (·.1) ++ [d1]), Each (fun x : PtT => Vec 5 1 encB x.1 x.2) p.l, cell gp 72 #[p1], cell ge 3 #[.int .i64 ((sumF (ps.take j) : Nat) : Int)], recT L1 (busyR r1), X]) rfl rfl (a_storev 4 2 (v := p1) #[p1] ty_s_s_uint8.2 rfl (fun _ h => Vec.c1 h) rfl rfl rfl rfl rfl rfl rfl) ?_; rintro ⟨⟩
      refine h_nil ?_
      refine r_to ?_
      refine WCR.leave [0] rfl rfl ?_
      refine r_reg (by kernel_rfl) (by rintro ⟨a, w, h⟩; first | exact h.elim | exact nomatch h.1 | (obtain ⟨_, h, _⟩ := h; exact nomatch h)) ?_
      refine h_q hflU rfl ?_
      refine h_val rfl (.int .i64 ((sumF (ps.take j) : Nat) : Int)) (fun b w hb hH => exec_load rfl rfl (reads_one ty_int rfl) (hH.row 4 rfl) hb) ?_
      refine h_q hflU rfl ?_
      refine h_val rfl (.int .i64 (x.length : Int)) (fun b w hb hH => e_slen ((hH.rd8 6 rfl hXx).rd) Try.underlying29 rfl rfl hb) ?_
      refine h_val rfl (.int .i64 ((8 + x.length : Nat) : Int)) (fun b w hb hH => exec_ar rfl rfl rfl rfl (by rw [IntWalk.i64_in _ (by omega)]; omega) hb) ?_
      refine h_val rfl (.int .i64 ((sumF (ps.take (j + 1)) : Nat) : Int)) (fun b w hb hH => exec_ar rfl rfl rfl rfl (by rw [IntWalk.i64_in _ (by omega)]; omega) hb) ?_
      refine h_acts (post := fun _ => [Vec 5 1 encB d1 x, Vec 29 1 encW p1 (p.l.map (·.1) ++ [d1]), Each (fun x : PtT => Vec 5 1 encB x.1 x.2) p.l, cell gp 72 #[p1], cell ge 3 #[.int .i64 ((sumF (ps.take (j + 1)) : Nat) : Int)], recT L1 (busyR r1), X]) rfl rfl (a_store 4 (v := .int .i64 ((sumF (ps.take (j + 1)) : Nat) : Int)) #[.int .i64 ((sumF (ps.take (j + 1)) : Nat) : Int)] ty_int.2 rfl rfl rfl rfl rfl rfl rfl rfl rfl) ?_; rintro ⟨⟩
      refine h_nil (f_block ?_)
      refine f_close [1, 2, 0] rfl prts_push rfl ?_
      refine f_close [1, 0, 2] rfl (lst_mk ⟨p1, p.l ++ [(d1, x)]⟩ (by rw [List.map_append, hfact]; exact take_pushP hpj)) rfl ?_
      exact r_tell [1, 0, 2] rfl rfl
  intro D aT wT hDm hD0 hdf hF hH
  obtain ⟨p, hH⟩ := hp_open 0 rfl LstI.open_ hH
  have hfact := thing_is (p := (p.l.map (·.2) = ps.take N)) 3 rfl (fun _ h => h.2) hH
  have hps : p.l.map (·.2) = ps := by rw [hfact, ← hN, List.take_length]
  have hsum : ((sumF (ps.take N) : Nat) : Int) = (k : Int) := by rw [← hN, List.take_length, ← hk]
  refine t_to (env := [(2, .slice none 0 0), (3, .int .i64 0), (4, .pointer (some ⟨gp, 0, none⟩)), (5, .pointer (some ⟨ge, 0, none⟩))]) (os := [cell gp 72 #[p.v], PartsT 29 p.v p.l, cell ge 3 #[.int .i64 ((sumF (ps.take N) : Nat) : Int)], fact (p.l.map (·.2) = ps.take N), X, cell g 29 #[.slice A0 y.length c0]]) ?_ aT wT hDm hD0 hdf (hF.keep ⟨rfl, rfl, rfl, rfl, trivial⟩) hH
  refine t_anyQ (by kernel_rfl) ?_
  refine bt_two 0 1 (by kernel_rfl) ?_ ?_
  · skip
    refine bt_val rfl rfl (p.v) (fun b w hb hH => exec_load rfl rfl (reads_one ty_s_s_uint8 rfl) (hH.row 0 rfl) hb) ?_
    refine bt_two 1 2 (by kernel_rfl) ?_ ?_
    · skip
      refine bt_val rfl rfl (.int .i64 ((sumF (ps.take N) : Nat) : Int)) (fun b w hb hH => exec_load rfl rfl (reads_one ty_int rfl) (hH.row 2 rfl) hb) ?_
      refine bt_one 2 (by kernel_rfl) ?_
      refine bt_val rfl rfl (p.v) (fun b w hb hH => exec_q1 hflU rfl hb) ?_
      refine bt_one 3 (by kernel_rfl) ?_
      refine bt_val rfl rfl (.int .i64 ((sumF (ps.take N) : Nat) : Int)) (fun b w hb hH => exec_q1 hflU rfl hb) ?_
      refine bt_done (by kernel_rfl) (t_to ?_)
      refine WCT.keep (env' := [(2, p.v), (3, .int .i64 ((sumF (ps.take N) : Nat) : Int))]) ⟨rfl, rfl, trivial⟩ ?_
      exact t_ret (fun a w hD hD0 hd hF hH => m_fin2 (os := [cell gp 72 #[p.v], PartsT 29 p.v p.l, cell ge 3 #[.int .i64 ((sumF (ps.take N) : Nat) : Int)], fact (p.l.map (·.2) = ps.take N), X, cell g 29 #[.slice A0 y.length c0]]) (.tmp rfl) (.tmp rfl) rfl (fun w' h => tells (X := PsV) (val := fun x : PsV => .tuple #[x.v, .int .i64 (k : Int)]) (post := fun x : PsV => [X, PartsT 29 x.v x.l, fact (x.l.map (·.2) = ps)]) (os := [cell gp 72 #[p.v], PartsT 29 p.v p.l, cell ge 3 #[.int .i64 ((sumF (ps.take N) : Nat) : Int)], fact (p.l.map (·.2) = ps.take N), X, cell g 29 #[.slice A0 y.length c0]]) p (by rw [hsum]) [4, 1] rfl h (fun z hz => ⟨z, .refl _, fact_add (xs := [X, PartsT 29 p.v p.l]) hps hz⟩)) D a w hD hD0 hd hF hH)
    · skip
      refine bt_val rfl rfl (p.v) (fun b w hb hH => exec_q1 hflU rfl hb) ?_
      refine bt_one 1 (by kernel_rfl) ?_
      refine bt_val rfl rfl (.int .i64 ((sumF (ps.take N) : Nat) : Int)) (fun b w hb hH => exec_load rfl rfl (reads_one ty_int rfl) (hH.row 2 rfl) hb) ?_
      refine bt_one 3 (by kernel_rfl) ?_
      refine bt_val rfl rfl (.int .i64 ((sumF (ps.take N) : Nat) : Int)) (fun b w hb hH => exec_q1 hflU rfl hb) ?_
      refine bt_done (by kernel_rfl) (t_to ?_)
      refine WCT.keep (env' := [(2, p.v), (3, .int .i64 ((sumF (ps.take N) : Nat) : Int))]) ⟨rfl, rfl, trivial⟩ ?_
      exact t_ret (fun a w hD hD0 hd hF hH => m_fin2 (os := [cell gp 72 #[p.v], PartsT 29 p.v p.l, cell ge 3 #[.int .i64 ((sumF (ps.take N) : Nat) : Int)], fact (p.l.map (·.2) = ps.take N), X, cell g 29 #[.slice A0 y.length c0]]) (.tmp rfl) (.tmp rfl) rfl (fun w' h => tells (X := PsV) (val := fun x : PsV => .tuple #[x.v, .int .i64 (k : Int)]) (post := fun x : PsV => [X, PartsT 29 x.v x.l, fact (x.l.map (·.2) = ps)]) (os := [cell gp 72 #[p.v], PartsT 29 p.v p.l, cell ge 3 #[.int .i64 ((sumF (ps.take N) : Nat) : Int)], fact (p.l.map (·.2) = ps.take N), X, cell g 29 #[.slice A0 y.length c0]]) p (by rw [hsum]) [4, 1] rfl h (fun z hz => ⟨z, .refl _, fact_add (xs := [X, PartsT 29 p.v p.l]) hps hz⟩)) D a w hD hD0 hd hF hH)
  · skip
    refine bt_val rfl rfl (.int .i64 ((sumF (ps.take N) : Nat) : Int)) (fun b w hb hH => exec_load rfl rfl (reads_one ty_int rfl) (hH.row 2 rfl) hb) ?_
    refine bt_one 0 (by kernel_rfl) ?_
    refine bt_val rfl rfl (p.v) (fun b w hb hH => exec_load rfl rfl (reads_one ty_s_s_uint8 rfl) (hH.row 0 rfl) hb) ?_
    refine bt_one 2 (by kernel_rfl) ?_
    refine bt_val rfl rfl (p.v) (fun b w hb hH => exec_q1 hflU rfl hb) ?_
    refine bt_one 3 (by kernel_rfl) ?_
    refine bt_val rfl rfl (.int .i64 ((sumF (ps.take N) : Nat) : Int)) (fun b w hb hH => exec_q1 hflU rfl hb) ?_
    refine bt_done (by kernel_rfl) (t_to ?_)
    refine WCT.keep (env' := [(2, p.v), (3, .int .i64 ((sumF (ps.take N) : Nat) : Int))]) ⟨rfl, rfl, trivial⟩ ?_
    exact t_ret (fun a w hD hD0 hd hF hH => m_fin2 (os := [cell gp 72 #[p.v], PartsT 29 p.v p.l, cell ge 3 #[.int .i64 ((sumF (ps.take N) : Nat) : Int)], fact (p.l.map (·.2) = ps.take N), X, cell g 29 #[.slice A0 y.length c0]]) (.tmp rfl) (.tmp rfl) rfl (fun w' h => tells (X := PsV) (val := fun x : PsV => .tuple #[x.v, .int .i64 (k : Int)]) (post := fun x : PsV => [X, PartsT 29 x.v x.l, fact (x.l.map (·.2) = ps)]) (os := [cell gp 72 #[p.v], PartsT 29 p.v p.l, cell ge 3 #[.int .i64 ((sumF (ps.take N) : Nat) : Int)], fact (p.l.map (·.2) = ps.take N), X, cell g 29 #[.slice A0 y.length c0]]) p (by rw [hsum]) [4, 1] rfl h (fun z hz => ⟨z, .refl _, fact_add (xs := [X, PartsT 29 p.v p.l]) hps hz⟩)) D a w hD hD0 hd hF hH)

theorem plist_does {X : Ass} {v : Value} {y : List UInt8} {ps : List (List UInt8)} {k : Nat} (hX : Rd8 X v y) (hl : y.length ≤ 137438953472) (hr : listL y = (ps, k)) : Does Try.prog 34 #[v] [X] (fun x : PsV => .tuple #[x.v, .int .i64 (k : Int)]) (fun x => [X, PartsT 29 x.v x.l, fact (x.l.map (·.2) = ps)]) := fun w rs h1 h2 h3 => by
  have hXr := Parts.one' h1
  obtain ⟨A0, c0, rfl, _⟩ := hX rs w hXr h2
  have e1 : (listL y).1 = ps := congrArg Prod.fst hr
  have e2 : (listL y).2 = k := congrArg Prod.snd hr
  have h4 := list_sumF y.length y
  have h5 := list_le y.length y
  have h6 := list_count y.length y
  have h7 := list_parts y.length y
  change (listL y).2 = sumF (listL y).1 at h4
  change (listL y).2 ≤ y.length at h5
  change (listL y).1.length * 8 ≤ (listL y).2 at h6
  change ∀ x, x ∈ (listL y).1 → x.length ≤ 65536 at h7
  rw [e1, e2] at h4
  rw [e2] at h5
  rw [e1, e2] at h6
  rw [e1] at h7
  exact plist_any hX hl e1 h4.symm h5 rfl h6 h7 w rs h1 h2 h3
end Go.Proofs.Ytjcfimmcogkopaa.Sep
