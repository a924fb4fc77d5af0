/-
  Beh · RlA · RlB · RlF · RlC
-/
import Derived.Test.YtnebloeideodmaaNF01
import Derived.Test.YtnebloeideodmaaNG03
import Derived.OrdersIn
set_option linter.unusedSimpArgs false
set_option linter.unusedVariables false

namespace Go.Proofs.Ytnebloeideodmaa.Sep
open Go.RowKit
open Go.Proofs.Ytnebloeideodmaa.Mem (Dist Blk Chg below0)
section
variable {P : Program} {ops : Array Oper} {Q : Exit → Act → World → Prop} {n d D : Nat} {env : List (Nat × Value)} {B : Nat → Prop} {w0 w : World} {os : List Ass} {o : Oper} {a : Act} {rest : List Oper}
theorem put_back (a : Act) (d : Option Nat) (v : Value) : { ({ a with defers := [] } : Act).put d v with defers := a.defers } = a.put d v := by cases d <;> rfl
theorem hp_here {rs : List RowT} (h : Mem.Hp B w0 w rs) : Mem.Hp (Blk rs) w w rs := ⟨Mod.refl _ _, h.rows, h.apart, fun x hx _ => ⟨x, hx, rfl⟩⟩
theorem t_act0 {X : Type} {val : X → Value} {post : X → List Ass} (ha : ∀ (B : Nat → Prop) (w0 : World), Acts P (fun _ _ _ => False) n env B w0 os o val post) (hD : w.heap[D]? = some (.deferred (some []))) (hF : Fr n { a with defers := [] } env) (hH : Hp B w0 w os) {K : Act → World → Prop} (hK : ∀ x w', w'.heap[D]? = some (.deferred (some [])) → Hp B w0 w' (post x) → K (a.put o.dst (val x)) w') : o.wp P a w K Q := by
  obtain ⟨rs, h1, h2⟩ := hH
  have h3 := ha (Blk rs) w { a with defers := [] } w ⟨rs, h1, hp_here h2⟩ hF (fun b w' => b.defers = [] ∧ K { b with defers := a.defers } w') (fun x w' ⟨ys, p1, p2⟩ => ⟨put_defers _ _ _, by
    rw [put_back]
    refine hK x w' ((p2.up.block D (Array.getElem?_eq_some_iff.1 hD).1 ?_).trans hD) ⟨ys, p1, ?_⟩
    · rintro ⟨z, hz, e⟩
      exact no_row_mark hD z e (h2.rows.mem z hz)
    · have h4 := hp_chg (a := rs) (b := []) (by rw [List.append_nil]; exact h2) (hp_ofChg p2)
      rwa [List.append_nil] at h4⟩)
  unfold Oper.wp at h3 ⊢
  rw [eval_of a]
  generalize (execOp ({ a with defers := [] } : Act).eval o).run P w = r at h3 ⊢
  cases r with
  | ok nx w' =>
    cases nx with
    | value v => have h4 := h3.2; rw [put_back] at h4; exact h4
    | skip => have h4 := h3.2; rw [put_back] at h4; exact h4
    | defer d => have h4 := h3.1; rw [put_defers] at h4; cases h4
    | enter f args =>
      refine Calls.mono h3 ?_
      rintro (v | c | _) w'' h
      · have h4 := h.2; rw [put_back] at h4; exact h4
      · exact h.elim
      · obtain ⟨_, _, h⟩ := h; exact h.elim
    | row r args =>
      intro c cs
      obtain ⟨v, w'', h5, h6⟩ := h3 c cs
      have h4 := h5.2
      rw [put_back] at h4
      exact ⟨v, w'', h4, h6⟩
    | _ => exact h3.elim
  | halt e w' =>
    cases e with
    | panic v => exact h3.elim
    | _ => exact h3.elim
/-! ## In order -/
theorem t_acts {X : Type} {val : X → Value} {post : X → List Ass} (hg : wants ops o env = some true) (hdn : o.dst = none) (ha : ∀ (B : Nat → Prop) (w0 : World), Acts P (fun _ _ _ => False) n env B w0 os o val post) (h : ∀ x, WLT D P ops Q n env B w0 (post x) rest) : WLT D P ops Q n env B w0 os (o :: rest) := fun a w hD h0 hd hF hH =>
  wpList_step fun K hK => by
    have hw : Region.wanted o (yielded ops a.tmps) = true := hF.wants hg
    rw [if_pos hw]
    refine t_act0 ha hD hF hH fun x w' hD' hH' => hK _ _ (h x _ _ hD' h0 ((put_defers _ _ _).trans hd) ?_ hH')
    rw [put_of, hdn]
    exact hF
theorem t_seq {x y : Code} (h : WCT D P (Exit.then (fun a w => y.wp P Q a w) Q) n env B w0 os x) : WCT D P Q n env B w0 os (.seq x y) := fun a w hD h0 hd hF hH => wp_seq (h a w hD h0 hd hF hH)
theorem t_to {y : Code} (h : WCT D P Q n env B w0 os y) (a : Act) (w : World) (hD : w.heap[D]? = some (.deferred (some []))) (h0 : w0.heap.size ≤ D) (hd : a.defers = [markD D]) (hF : Fr n { a with defers := [] } env) (hH : Hp B w0 w os) : Exit.then (fun a w => y.wp P Q a w) Q .normal a w := h a w hD h0 hd hF hH
/-! ## In each order -/
def WAT (D : Nat) (P : Program) (ops : Array Oper) (Q : Exit → Act → World → Prop) (n : Nat) (env : List (Nat × Value)) (B : Nat → Prop) (w0 : World) (os : List Ass) (f : Nat) (listed : Array Bool) : Prop := ∀ a w, w.heap[D]? = some (.deferred (some [])) → w0.heap.size ≤ D → a.defers = [markD D] → Fr n { a with defers := [] } env → Hp B w0 w os → wpAny P .any ops Q f listed a w
def WOT (D : Nat) (P : Program) (ops : Array Oper) (Q : Exit → Act → World → Prop) (n : Nat) (env : List (Nat × Value)) (B : Nat → Prop) (w0 : World) (os : List Ass) (f : Nat) (listed : Array Bool) (i : Nat) : Prop := ∀ a w, w.heap[D]? = some (.deferred (some [])) → w0.heap.size ≤ D → a.defers = [markD D] → Fr n { a with defers := [] } env → Hp B w0 w os → wpOp P ops Q i (wpAny P .any ops Q f (listed.setIfInBounds i true)) a w
variable {f i : Nat} {listed : Array Bool}
theorem bt_ready (l : List Nat) (hr : Region.ready .any ops listed = l) (hne : l ≠ []) (h : ∀ i ∈ l, WOT D P ops Q n env B w0 os f listed i) : WAT D P ops Q n env B w0 os (f + 1) listed := fun a w hD h0 hd hF hH => ⟨fun h1 => absurd (hr ▸ h1) hne, fun i hi => h i (hr ▸ hi) a w hD h0 hd hF hH⟩
theorem bt_val (ho : ops[i]? = some o) (h1 : at1 ops n o env = some d) (v : Value) (hrun : ∀ b w, Fr n b env → Hp B w0 w os → (execOp b.eval o).run P w = .ok (.value v) w) (h : WAT D P ops Q n ((d, v) :: env) B w0 os f (listed.setIfInBounds i true)) : WOT D P ops Q n env B w0 os f listed i := fun a w hD h0 hd hF hH => by
  unfold wpOp
  simp only [ho]
  have hw : Region.wanted o (yielded ops a.tmps) = true := hF.wants (at1_parts h1).1
  rw [if_pos hw]
  refine .inl ?_
  unfold Oper.wp
  rw [eval_of, hrun _ w hF hH, Oper.upon_value]
  refine h _ _ hD h0 ((put_defers _ _ _).trans hd) ?_ hH
  rw [put_of, (at1_parts h1).2.1]
  exact hF.put (at1_parts h1).2.2 _
theorem bt_acts {X : Type} {val : X → Value} {post : X → List Ass} (ho : ops[i]? = some o) (hg : wants ops o env = some true) (hdn : o.dst = none) (ha : ∀ (B : Nat → Prop) (w0 : World), Acts P (fun _ _ _ => False) n env B w0 os o val post) (h : ∀ x, WAT D P ops Q n env B w0 (post x) f (listed.setIfInBounds i true)) : WOT D P ops Q n env B w0 os f listed i := fun a w hD h0 hd hF hH => by
  unfold wpOp
  simp only [ho]
  have hw : Region.wanted o (yielded ops a.tmps) = true := hF.wants hg
  rw [if_pos hw]
  refine .inl (t_act0 ha hD hF hH fun x w' hD' hH' => h x _ _ hD' h0 ((put_defers _ _ _).trans hd) ?_ hH')
  rw [put_of, hdn]
  exact hF
theorem bt_done (hr : Region.ready .any ops listed = []) (h : ∀ a w, w.heap[D]? = some (.deferred (some [])) → w0.heap.size ≤ D → a.defers = [markD D] → Fr n { a with defers := [] } env → Hp B w0 w os → Q .normal a w) : WAT D P ops Q n env B w0 os f listed := fun a w hD h0 hd hF hH => by
  cases f with
  | zero => exact ⟨hr, h a w hD h0 hd hF hH⟩
  | succ f => exact ⟨fun _ => h a w hD h0 hd hF hH, fun i hi => (by rw [hr] at hi; cases hi)⟩
theorem bt_one (i : Nat) (hr : Region.ready .any ops listed = [i]) (h : WOT D P ops Q n env B w0 os f listed i) : WAT D P ops Q n env B w0 os (f + 1) listed := bt_ready [i] hr (by simp) (fun j hj => by
  have : j = i := by simpa using hj
  subst this
  exact h)
theorem bt_two (i j : Nat) (hr : Region.ready .any ops listed = [i, j]) (h : WOT D P ops Q n env B w0 os f listed i) (h' : WOT D P ops Q n env B w0 os f listed j) : WAT D P ops Q n env B w0 os (f + 1) listed := bt_ready [i, j] hr (by simp) (fun k hk => by
  have : k = i ∨ k = j := by simpa using hk
  rcases this with rfl | rfl
  · exact h
  · exact h')
theorem t_any {id : Nat} (hmix : P.follows .mixedOrders = true) (h : WAT D P ops Q n env B w0 os ops.size (Array.replicate ops.size false)) : WCT D P Q n env B w0 os (.region id ops true) := fun a w hD h0 hd hF hH => wp_region_any hmix (h a w.drew hD h0 hd hF hH.drew)
theorem t_anyQ {id : Nat} {y : Code} (hmix : P.follows .mixedOrders = true) (h : WAT D P ops (Exit.then (fun a w => y.wp P Q a w) Q) n env B w0 os ops.size (Array.replicate ops.size false)) : WCT D P Q n env B w0 os (.seq (.region id ops true) y) := t_seq (t_any hmix h)
end
end Go.Proofs.Ytnebloeideodmaa.Sep

namespace Go.Proofs.Ytnebloeideodmaa.Sep
open Go.RowKit
open Go.Proofs.Ytnebloeideodmaa.Mem (Dist Blk Chg below0)

set_option maxRecDepth 100000 in
theorem slot_does (g : Nat) (bi bt bc : Int) (v : Value) (sl : List EntV) (f k : Nat) (n : Int) (hf : f < sl.length) (hk : k < sl.length) (hz : sl.length ≤ 5026338869833)  : Does Try.prog 73 #[.pointer (some ⟨g, 3, none⟩), .int .i64 (k : Int)] [cell g 67 #[.int .u64 bi, .int .u64 bt, .int .i64 bc, v, .int .i64 (f : Int), .int .i64 n], Vec 32 5 encV v sl] (fun (_ : Unit) => elp v (slotI f sl.length k * 5)) (fun (_ : Unit) => [cell g 67 #[.int .u64 bi, .int .u64 bt, .int .i64 bc, v, .int .i64 (f : Int), .int .i64 n], Vec 32 5 encV v sl]) := by
  refine d_ins (args := [.pointer (some ⟨g, 3, none⟩), .int .i64 (k : Int)]) 22 Try.func73 rfl rfl rfl ?_; intro w rs
  refine d_reg ?_
  refine h_q hflS rfl ?_
  refine h_done (d_seq ?_)
  refine d_parS 17 0 [⟨.quiet, [], fun _ => .pointer (some ⟨g, 3, none⟩), []⟩, ⟨.quiet, [], fun _ => .pointer (some ⟨g, 3, none⟩), [0]⟩, ⟨.quiet, [], fun _ => .pointer (some ⟨g, 3, none⟩), [1]⟩, ⟨.quiet, [], fun _ => v, [2]⟩, ⟨.quiet, [], fun _ => .pointer (some ⟨g, 3, none⟩), []⟩, ⟨.quiet, [], fun _ => .pointer (some ⟨g, 3, none⟩), [4]⟩, ⟨.quiet, [], fun _ => .pointer (some ⟨g, 4, none⟩), [5]⟩, ⟨.quiet, [], fun _ => .int .i64 (f : Int), [6]⟩, ⟨.quiet, [], fun _ => .int .i64 (k : Int), []⟩, ⟨.quiet, [], fun _ => .int .i64 ((f : Int) + (k : Int)), [7, 8]⟩, ⟨.quiet, [], fun _ => .pointer (some ⟨g, 3, none⟩), []⟩, ⟨.quiet, [], fun _ => .pointer (some ⟨g, 3, none⟩), [10]⟩, ⟨.quiet, [], fun _ => .pointer (some ⟨g, 3, none⟩), [11]⟩, ⟨.quiet, [], fun _ => v, [12]⟩, ⟨.quiet, [], fun _ => .int .i64 (sl.length : Int), [13]⟩, ⟨.quiet, [], fun _ => .int .i64 ((slotI f sl.length k : Nat) : Int), [9, 14]⟩, ⟨.quiet, [], fun _ => elp v ((slotI f sl.length k) * 5), [3, 15]⟩] [(0, .pointer (some ⟨g, 3, none⟩)), (1, .int .i64 (k : Int)), (4, .pointer none)] (fun _ => [cell g 67 #[.int .u64 bi, .int .u64 bt, .int .i64 bc, v, .int .i64 (f : Int), .int .i64 n], Vec 32 5 encV v sl]) (by kernel_rfl) (by kernel_rfl) ⟨rfl, rfl, rfl, trivial⟩ rfl ?_ ?_
  · skip
    refine s_cons (by exact ⟨rfl, fun b w hH hb => exec_q1 hflS rfl hb⟩) ?_
    refine s_cons (by exact ⟨rfl, fun b w hH hb => by exact exec_nilCheck rfl rfl hb⟩) ?_
    refine s_cons (by exact ⟨rfl, fun b w hH hb => exec_q1 hflS rfl hb⟩) ?_
    refine s_cons (by exact ⟨rfl, fun b w hH hb => exec_load rfl rfl (reads_one ty_s_api_Entry rfl) (hH.row 0 rfl) hb⟩) ?_
    refine s_cons (by exact ⟨rfl, fun b w hH hb => exec_q1 hflS rfl hb⟩) ?_
    refine s_cons (by exact ⟨rfl, fun b w hH hb => by exact exec_nilCheck rfl rfl hb⟩) ?_
    refine s_cons (by exact ⟨rfl, fun b w hH hb => exec_q1 hflS rfl hb⟩) ?_
    refine s_cons (by exact ⟨rfl, fun b w hH hb => exec_load rfl rfl (reads_one ty_int rfl) (hH.row 0 rfl) hb⟩) ?_
    refine s_cons (by exact ⟨rfl, fun b w hH hb => exec_q1 hflS rfl hb⟩) ?_
    refine s_cons (by exact ⟨rfl, fun b w hH hb => exec_ar rfl rfl rfl rfl (by rw [IntWalk.i64_in _ (by omega)]) hb⟩) ?_
    refine s_cons (by exact ⟨rfl, fun b w hH hb => exec_q1 hflS rfl hb⟩) ?_
    refine s_cons (by exact ⟨rfl, fun b w hH hb => by exact exec_nilCheck rfl rfl hb⟩) ?_
    refine s_cons (by exact ⟨rfl, fun b w hH hb => exec_q1 hflS rfl hb⟩) ?_
    refine s_cons (by exact ⟨rfl, fun b w hH hb => exec_load rfl rfl (reads_one ty_s_api_Entry rfl) (hH.row 0 rfl) hb⟩) ?_
    refine s_cons (by exact ⟨rfl, fun b w hH hb => e_vlen 1 Try.underlying34 rfl rfl rfl hH hb⟩) ?_
    refine s_cons (by exact ⟨rfl, fun b w hH hb => exec_remI rfl rfl rfl (by omega) (slotI_mod hf (Nat.le_of_lt hk)) hb⟩) ?_
    refine s_cons (by exact ⟨rfl, fun b w hH hb => e_vidx 1 sl_api_Entry okV rfl (slotI f sl.length k) (slotI_lt hf hk) rfl rfl rfl hH hb⟩) ?_
    exact s_nil
  refine WL2.keep (env' := [(4, .pointer none), (21, elp v ((slotI f sl.length k) * 5))]) ⟨rfl, rfl, trivial⟩ ?_
  refine h_q hflS rfl ?_
  refine h_nil (f_to (d_ret ?_))
  exact f_fin1 (.tmp rfl) (fun w h => tells () rfl [0, 1] rfl h same_parts) rfl

set_option maxRecDepth 100000 in
theorem at_does (g : Nat) (bi bt bc : Int) (v : Value) (sl : List EntV) (f k : Nat) (n : Int) (hf : f < sl.length) (hk : k < sl.length) (hz : sl.length ≤ 5026338869833) (x : EntV) (hx : sl[slotI f sl.length k]? = some x)  : Does Try.prog 62 #[.pointer (some ⟨g, 3, none⟩), .int .i64 (k : Int)] [cell g 67 #[.int .u64 bi, .int .u64 bt, .int .i64 bc, v, .int .i64 (f : Int), .int .i64 n], Vec 32 5 encV v sl] (fun (_ : Unit) => .agg #[.int .i64 x.e.k, .int .u64 x.e.t, .int .u64 x.e.i, x.v, .int .i64 x.e.c]) (fun (_ : Unit) => [cell g 67 #[.int .u64 bi, .int .u64 bt, .int .i64 bc, v, .int .i64 (f : Int), .int .i64 n], Vec 32 5 encV v sl]) := by
  refine d_ins (args := [.pointer (some ⟨g, 3, none⟩), .int .i64 (k : Int)]) 10 Try.func62 rfl rfl rfl ?_; intro w rs
  refine d_reg ?_
  refine h_q hflS rfl ?_
  refine h_act (post := fun r4 => [cell r4 32 #[.int .i64 0, .int .u64 0, .int .u64 0, .slice none 0 0, .int .i64 0], cell g 67 #[.int .u64 bi, .int .u64 bt, .int .i64 bc, v, .int .i64 (f : Int), .int .i64 n], Vec 32 5 encV v sl]) rfl (a_alloc ze_api_Entry rfl) ?_; rintro r4
  refine h_done (d_reg ?_)
  refine h_q hflS rfl ?_
  refine h_act (post := fun _ => [cell r4 32 #[.int .i64 0, .int .u64 0, .int .u64 0, .slice none 0 0, .int .i64 0], cell g 67 #[.int .u64 bi, .int .u64 bt, .int .i64 bc, v, .int .i64 (f : Int), .int .i64 n], Vec 32 5 encV v sl]) rfl (a_does (os' := fun _ => [cell r4 32 #[.int .i64 0, .int .u64 0, .int .u64 0, .slice none 0 0, .int .i64 0], cell g 67 #[.int .u64 bi, .int .u64 bt, .int .i64 bc, v, .int .i64 (f : Int), .int .i64 n], Vec 32 5 encV v sl]) [1, 2] 0 (ent_of Try.func73 (by kernel_rfl) rfl) (slot_does g bi bt bc v sl f k n hf hk hz) rfl rfl rfl (fun _ => rfl) rfl rfl rfl) ?_; rintro ⟨⟩
  refine h_val rfl (elp v ((slotI f sl.length k) * 5)) (fun b w hb hH => e_vnil 2 rfl (j := slotI f sl.length k) (List.getElem?_eq_some_iff.1 hx).1 rfl rfl hH hb) ?_
  refine h_val rfl (.agg (encV x).toArray) (fun b w hb hH => e_sagg okV (by decide) (hH.vec 2 rfl okV) (j := slotI f sl.length k) hx ty_api_Entry rfl rfl hb) ?_
  refine h_acts (post := fun _ => [cell r4 32 #[.int .i64 x.e.k, .int .u64 x.e.t, .int .u64 x.e.i, x.v, .int .i64 x.e.c], cell g 67 #[.int .u64 bi, .int .u64 bt, .int .i64 bc, v, .int .i64 (f : Int), .int .i64 n], Vec 32 5 encV v sl]) rfl rfl (a_store 0 (v := .agg (encV x).toArray) #[.int .i64 x.e.k, .int .u64 x.e.t, .int .u64 x.e.i, x.v, .int .i64 x.e.c] ty_api_Entry.2 rfl rfl rfl rfl rfl rfl rfl rfl rfl) ?_; rintro ⟨⟩
  refine h_done (d_ret ?_)
  exact f_fin1 (.cell 0 (v := .agg #[.int .i64 x.e.k, .int .u64 x.e.t, .int .u64 x.e.i, x.v, .int .i64 x.e.c]) (reads_agg (cs := [.int .i64 x.e.k, .int .u64 x.e.t, .int .u64 x.e.i, x.v, .int .i64 x.e.c]) ty_api_Entry rfl) rfl rfl) (fun w h => tells () rfl [1, 2] rfl h same_parts) rfl

end Go.Proofs.Ytnebloeideodmaa.Sep

namespace Go.Proofs.Ytnebloeideodmaa.Sep
open Go.RowKit
open Go.Proofs.Ytnebloeideodmaa.Mem (Dist Blk Chg below0)

set_option maxRecDepth 100000 in
theorem part_any (g : Nat) (q m : Int) : Does Try.prog 55 #[.pointer (some ⟨g, 3, none⟩), .int .i64 q, .int .i64 m] [] (fun (x : Nat × Nat × Nat) => .func (.func 68) #[] #[.pointer (some ⟨x.1, 0, none⟩), .pointer (some ⟨x.2.1, 0, none⟩), .pointer (some ⟨x.2.2, 0, none⟩)]) (fun (x : Nat × Nat × Nat) => [cell x.1 3 #[.int .i64 m], cell x.2.1 90 #[.pointer (some ⟨g, 3, none⟩)], cell x.2.2 3 #[.int .i64 q]]) := by
  refine d_ins (args := [.pointer (some ⟨g, 3, none⟩), .int .i64 q, .int .i64 m]) 8 Try.func55 rfl rfl rfl ?_; intro w rs
  refine d_reg ?_
  refine h_q hflS rfl ?_
  refine h_act (post := fun gr => [cell gr 90 #[.pointer (some ⟨g, 3, none⟩)]]) rfl (a_box (cs := #[.pointer (some ⟨g, 3, none⟩)]) rfl rfl rfl) ?_; rintro gr
  refine h_act (post := fun gk => [cell gk 3 #[.int .i64 q], cell gr 90 #[.pointer (some ⟨g, 3, none⟩)]]) rfl (a_box (cs := #[.int .i64 q]) rfl rfl rfl) ?_; rintro gk
  refine h_act (post := fun gn => [cell gn 3 #[.int .i64 m], cell gk 3 #[.int .i64 q], cell gr 90 #[.pointer (some ⟨g, 3, none⟩)]]) rfl (a_box (cs := #[.int .i64 m]) rfl rfl rfl) ?_; rintro gn
  refine h_q hflS rfl ?_
  refine h_done (d_reg ?_)
  refine h_q hflS rfl ?_
  refine h_val rfl (.func (.func 68) #[] #[.pointer (some ⟨gn, 0, none⟩), .pointer (some ⟨gr, 0, none⟩), .pointer (some ⟨gk, 0, none⟩)]) (fun b w hb hH => e_func rfl rfl hb) ?_
  refine h_q hflS rfl ?_
  refine h_done (d_ret ?_)
  exact f_fin1 (.tmp rfl) (fun w h => tells (gn, gr, gk) rfl [0, 2, 1] rfl h same_parts) rfl

set_option maxRecDepth 100000 in
theorem part1 (k : Fn) (caps : Array Value) (gn gr gk g : Nat) (bi bt bc : Int) (v : Value) (sl : List EntV) (f q m : Nat) (n : Int) (hq : q + m ≤ sl.length) (hf : m = 0 ∨ f < sl.length) (hz : sl.length ≤ 5026338869833) (T : Nat → Ass) (hyy : ∀ (i : Nat) (x : EntV), i < m → sl[slotI f sl.length (q + i)]? = some x → DoesF Try.prog (.func k #[] caps) [.agg #[.int .i64 x.e.k, .int .u64 x.e.t, .int .u64 x.e.i, x.v, .int .i64 x.e.c]] [T i] (fun _ : Unit => .bool true) (fun _ : Unit => [T (i + 1)])) : Does Try.prog 68 #[.func k #[] caps, .pointer (some ⟨gn, 0, none⟩), .pointer (some ⟨gr, 0, none⟩), .pointer (some ⟨gk, 0, none⟩)] [T 0, cell g 67 #[.int .u64 bi, .int .u64 bt, .int .i64 bc, v, .int .i64 (f : Int), .int .i64 n], Vec 32 5 encV v sl, cell gn 3 #[.int .i64 (m : Int)], cell gr 90 #[.pointer (some ⟨g, 3, none⟩)], cell gk 3 #[.int .i64 (q : Int)]] (fun (_ : Unit) => .tuple #[]) (fun (_ : Unit) => [T m, cell g 67 #[.int .u64 bi, .int .u64 bt, .int .i64 bc, v, .int .i64 (f : Int), .int .i64 n], Vec 32 5 encV v sl, cell gn 3 #[.int .i64 (m : Int)], cell gr 90 #[.pointer (some ⟨g, 3, none⟩)], cell gk 3 #[.int .i64 (q : Int)]]) := by
  refine d_ins (args := [.func k #[] caps, .pointer (some ⟨gn, 0, none⟩), .pointer (some ⟨gr, 0, none⟩), .pointer (some ⟨gk, 0, none⟩)]) 19 Try.func68 rfl rfl rfl ?_; intro w rs
  refine d_reg ?_
  refine h_q hflS rfl ?_
  refine h_val rfl (.int .i64 (m : Int)) (fun b w hb hH => exec_load rfl rfl (reads_one ty_int rfl) (hH.row 3 rfl) hb) ?_
  refine h_q hflS rfl ?_
  refine h_done (d_block ?_)
  refine d_loop (α := Nat) (fun i => [(0, .func k #[] caps), (2, .pointer (some ⟨gr, 0, none⟩)), (3, .pointer (some ⟨gk, 0, none⟩)), (6, .int .i64 (m : Int)), (7, .int .i64 (i : Int))]) (fun i => [T i, cell g 67 #[.int .u64 bi, .int .u64 bt, .int .i64 bc, v, .int .i64 (f : Int), .int .i64 n], Vec 32 5 encV v sl, cell gn 3 #[.int .i64 (m : Int)], cell gr 90 #[.pointer (some ⟨g, 3, none⟩)], cell gk 3 #[.int .i64 (q : Int)]]) (fun i => i ≤ m) (fun i => m - i) 0 (Nat.zero_le _) ⟨rfl, rfl, rfl, rfl, rfl, trivial⟩ rfl ?_
  rintro i hI
  refine WC2.at_ (env' := [(0, .func k #[] caps), (2, .pointer (some ⟨gr, 0, none⟩)), (3, .pointer (some ⟨gk, 0, none⟩)), (6, .int .i64 (m : Int)), (7, .int .i64 (i : Int))]) (rs' := [T i, cell g 67 #[.int .u64 bi, .int .u64 bt, .int .i64 bc, v, .int .i64 (f : Int), .int .i64 n], Vec 32 5 encV v sl, cell gn 3 #[.int .i64 (m : Int)], cell gr 90 #[.pointer (some ⟨g, 3, none⟩)], cell gk 3 #[.int .i64 (q : Int)]]) ⟨rfl, rfl, rfl, rfl, rfl, trivial⟩ rfl ?_
  rcases Nat.lt_or_ge i m with hn | hn
  · skip
    have hf1 : f < sl.length := by rcases hf with hf | hf; omega; exact hf
    have hsl : slotI f sl.length (q + i) < sl.length := slotI_lt hf1 (by omega)
    obtain ⟨x, hx⟩ : ∃ x, sl[slotI f sl.length (q + i)]? = some x := ⟨_, List.getElem?_eq_getElem hsl⟩
    refine d_reg ?_
    refine h_q hflS rfl ?_
    refine h_val rfl (.bool true) (fun b w hb hH => exec_cmp rfl rfl rfl (cmp_lss_t (by omega)) hb) ?_
    refine h_done (d_seq (d_then rfl (d_skip (f_to (d_seq (d_block (d_reg ?_)))))))
    refine h_q hflS rfl ?_
    refine h_done (d_seq ?_)
    refine d_regI (i_pre gf_w 6 (by rintro ⟨a, w, h⟩; first | exact h.elim | exact nomatch h.1 | (obtain ⟨_, h, _⟩ := h; exact nomatch h)) (by kernel_rfl) ?_)
    refine h_q hflS rfl ?_
    refine h_val rfl (.pointer (some ⟨g, 3, none⟩)) (fun b w hb hH => exec_load rfl rfl (reads_one ty_p_rlog_ring_of_bursar_api_Entry rfl) (hH.row 4 rfl) hb) ?_
    refine h_val rfl (.int .i64 (q : Int)) (fun b w hb hH => exec_load rfl rfl (reads_one ty_int rfl) (hH.row 5 rfl) hb) ?_
    refine h_q hflS rfl ?_
    refine h_val rfl (.int .i64 ((q + i : Nat) : Int)) (fun b w hb hH => exec_ar rfl rfl rfl rfl (by rw [IntWalk.i64_in _ (by omega)]; push_cast; omega) hb) ?_
    refine h_act (post := fun _ => [T i, cell g 67 #[.int .u64 bi, .int .u64 bt, .int .i64 bc, v, .int .i64 (f : Int), .int .i64 n], Vec 32 5 encV v sl, cell gn 3 #[.int .i64 (m : Int)], cell gr 90 #[.pointer (some ⟨g, 3, none⟩)], cell gk 3 #[.int .i64 (q : Int)]]) rfl (a_does (os' := fun _ => [T i, cell g 67 #[.int .u64 bi, .int .u64 bt, .int .i64 bc, v, .int .i64 (f : Int), .int .i64 n], Vec 32 5 encV v sl, cell gn 3 #[.int .i64 (m : Int)], cell gr 90 #[.pointer (some ⟨g, 3, none⟩)], cell gk 3 #[.int .i64 (q : Int)]]) [1, 2] 0 (ent_of Try.func62 (by kernel_rfl) rfl) (at_does g bi bt bc v sl f (q + i) n hf1 (by omega) hz x hx) rfl rfl rfl (fun _ => rfl) rfl rfl rfl) ?_; rintro ⟨⟩
    refine i_to ?_
    refine i_does (X := Unit) (post := fun _ => [T (i + 1)]) (os' := fun _ => [T (i + 1), cell g 67 #[.int .u64 bi, .int .u64 bt, .int .i64 bc, v, .int .i64 (f : Int), .int .i64 n], Vec 32 5 encV v sl, cell gn 3 #[.int .i64 (m : Int)], cell gr 90 #[.pointer (some ⟨g, 3, none⟩)], cell gk 3 #[.int .i64 (q : Int)]]) gf_w [0] (hyy i x hn hx) rfl rfl rfl rfl rfl rfl (fun _ => rfl) ?_; rintro ⟨⟩
    refine i_rest gf_w (by rintro ⟨a, w, h⟩; first | exact h.elim | exact nomatch h.1 | (obtain ⟨_, h, _⟩ := h; exact nomatch h)) (by kernel_rfl) ?_
    refine h_q hflS rfl ?_
    refine h_nil (f_to (d_else rfl (d_skip (f_block (f_to (d_reg1 ?_))))))
    refine h_q hflS rfl ?_
    refine h_val rfl (.int .i64 ((i + 1 : Nat) : Int)) (fun b w hb hH => exec_ar rfl rfl rfl rfl (by rw [IntWalk.i64_in _ (by omega)]; omega) hb) ?_
    refine h_q hflS rfl ?_
    refine h_nil ?_
    exact f_again (i + 1) 0 hn (show m - (i + 1) < m - i by omega) ⟨rfl, rfl, rfl, rfl, rfl, trivial⟩ rfl
  · skip
    obtain rfl : i = m := by omega
    refine d_reg ?_
    refine h_q hflS rfl ?_
    refine h_val rfl (.bool false) (fun b w hb hH => exec_cmp rfl rfl rfl (cmp_lss_f (by omega)) hb) ?_
    refine h_done (d_seq (d_else rfl (d_exit (f_then_exit (f_then_exit (f_block_exit ?_))))))
    exact f_fin0n  (fun w h => tells () rfl [0, 1, 2, 3, 4, 5] rfl h same_parts) rfl
end Go.Proofs.Ytnebloeideodmaa.Sep

namespace Go.Proofs.Ytnebloeideodmaa.Sep
open Go.RowKit
open Go.Proofs.Ytnebloeideodmaa.Mem (Dist Blk Chg below0)
section
variable {P : Program} {Q : Exit → Act → World → Prop} {n : Nat} {B : Nat → Prop} {w0 : World} {os : List Ass} {env : List (Nat × Value)} {D : Nat} {ops : Array Oper}
theorem t_last {id : Nat} {l : List Oper} (h : WLT D P l.toArray Q n env B w0 os l) : WCT D P Q n env B w0 os (.region id l.toArray false) := fun a w hD h0 hd hF hH => wp_region_lit (h a w hD h0 hd hF hH)
theorem t_end (h : ∀ (a : Act) (w : World), w.heap[D]? = some (.deferred (some [])) → w0.heap.size ≤ D → a.defers = [markD D] → Fr n { a with defers := [] } env → Hp B w0 w os → Q .normal a w) : WLT D P ops Q n env B w0 os [] := h
/-- a return ahead of any range, in a function that ranges -/
theorem f_finM {P : Program} {fn : Func} {R : Ending → World → Prop} {n : Nat} {env : List (Nat × Value)} {B : Nat → Prop} {w0 : World} {os : List Ass} {e : Exit} (h : WE2 (bodyPost P fn R) n env B w0 os e) (he : e = .ret ∨ e = .normal := by first | exact .inl rfl | exact .inr rfl) : WE2 (bodyPostM Fence.wide 0 P fn R) n env B w0 os e := fun a w hF hH => by
  have h1 := h a w hF hH
  rcases he with rfl | rfl
  · obtain ⟨hd, v, hr, hR⟩ := h1
    show LeavesInM Fence.wide 0 P fn a.tmps R a.defers .returning w
    rw [hd]
    exact ⟨v, hr, hR⟩
  · obtain ⟨hd, v, hr, hR⟩ := h1
    show LeavesInM Fence.wide 0 P fn a.tmps R a.defers .returning w
    rw [hd]
    exact ⟨v, hr, hR⟩
end
end Go.Proofs.Ytnebloeideodmaa.Sep

namespace Go.Proofs.Ytnebloeideodmaa.Sep
open Go.RowKit
open Go.Proofs.Ytnebloeideodmaa.Mem (Dist Blk Chg below0)

/-- what grow has laid so far -/
theorem grow_set {sl : List EntV} {f i N : Nat} {x : EntV} (hf : f < sl.length) (hi : i < sl.length) (hx : sl[slotI f sl.length (0 + i)]? = some x) (hN : N = sl.length + (sl.length + 1)) :
    ((rotL sl f).take i ++ List.replicate (N - i) zeroV).set i x = (rotL sl f).take (i + 1) ++ List.replicate (N - (i + 1)) zeroV := by
  rw [Nat.zero_add] at hx
  have hr : (rotL sl f)[i]? = some x := by rw [rotL_at hf hi]; exact hx
  have hl : ((rotL sl f).take i).length = i := by rw [List.length_take, rotL_len]; omega
  rw [List.set_append_right _ _ (by rw [hl]; exact Nat.le_refl _), hl, Nat.sub_self, List.take_add_one, hr, show N - i = (N - (i + 1)) + 1 by omega, List.replicate_succ, List.set_cons_zero, List.append_assoc]
  rfl
theorem grow_len {sl : List EntV} {f i N : Nat} (hi : i ≤ sl.length) (hN : N = sl.length + (sl.length + 1)) : ((rotL sl f).take i ++ List.replicate (N - i) zeroV).length = N := by
  rw [List.length_append, List.length_take, rotL_len, List.length_replicate]; omega
theorem grow_end {sl : List EntV} {f N : Nat} (hN : N = sl.length + (sl.length + 1)) : (rotL sl f).take sl.length ++ List.replicate (N - sl.length) zeroV = rotL sl f ++ List.replicate (sl.length + 1) zeroV := by
  rw [List.take_of_length_le (by rw [rotL_len]; exact Nat.le_refl _), show N - sl.length = sl.length + 1 by omega]
theorem sub_hi5 {gt j N : Nat} : subv 5 (.slice (some ⟨gt, 0, none⟩) j N) 0 N = .slice (some ⟨gt, 0, none⟩) N N := by
  show Value.slice (if N = 0 then some ⟨gt, 0, none⟩ else (some (⟨gt, 0, none⟩ : Addr)).map (·.add (0 * 5))) (N - 0) (N - 0) = _
  split <;> rfl
/-- the new slots, of which so many are laid -/
def GrI (gs gt : Nat) (sl : List EntV) (f N : Nat) (i : Nat) : Ass := star [cell gs 34 #[.slice (some ⟨gt, 0, none⟩) i N], Vec 32 5 encV (.slice (some ⟨gt, 0, none⟩) N N) ((rotL sl f).take i ++ List.replicate (N - i) zeroV)]
theorem GrI.open_ {gs gt f N i : Nat} {sl : List EntV} : ∀ rs, GrI gs gt sl f N i rs → ∃ _ : Unit, Parts [cell gs 34 #[.slice (some ⟨gt, 0, none⟩) i N], Vec 32 5 encV (.slice (some ⟨gt, 0, none⟩) N N) ((rotL sl f).take i ++ List.replicate (N - i) zeroV)] rs := fun _ h => ⟨(), h⟩
theorem grI_mk {gs gt f N i : Nat} {sl : List EntV} : ∀ rs, Parts [cell gs 34 #[.slice (some ⟨gt, 0, none⟩) i N], Vec 32 5 encV (.slice (some ⟨gt, 0, none⟩) N N) ((rotL sl f).take i ++ List.replicate (N - i) zeroV)] rs → GrI gs gt sl f N i rs := fun _ h => h
theorem grI_0 {gs gt f N : Nat} {sl : List EntV} : ∀ rs, Parts [cell gs 34 #[.slice (some ⟨gt, 0, none⟩) 0 N], Vec 32 5 encV (.slice (some ⟨gt, 0, none⟩) N N) (List.replicate N zeroV)] rs → GrI gs gt sl f N 0 rs := fun _ h => h

set_option maxRecDepth 100000 in
theorem grow_does (g : Nat) (bi bt bc : Int) (v : Value) (sl : List EntV) (f : Nat) (es : List EntD) (hR : RingD sl f es) (hn : es.length = sl.length) (N : Nat) (hNe : N = sl.length + (sl.length + 1)) (hN : 1 ≤ N ∧ N * 56 ≤ 281474976710656) : Does Try.prog 72 #[.pointer (some ⟨g, 3, none⟩)] [cell g 67 #[.int .u64 bi, .int .u64 bt, .int .i64 bc, v, .int .i64 (f : Int), .int .i64 (es.length : Int)], Vec 32 5 encV v sl] (fun (gt : Nat) => .tuple #[]) (fun (gt : Nat) => [cell g 67 #[.int .u64 bi, .int .u64 bt, .int .i64 bc, .slice (some ⟨gt, 0, none⟩) N N, .int .i64 0, .int .i64 (es.length : Int)], Vec 32 5 encV (.slice (some ⟨gt, 0, none⟩) N N) (rotL sl f ++ List.replicate (sl.length + 1) zeroV)]) := by
  have hfm : es.length = 0 ∨ f < sl.length := by rcases hR.ff with h | h; exact .inl (by omega); exact .inr h
  have hsz := hR.sz
  refine d_insM (args := [.pointer (some ⟨g, 3, none⟩)]) 32 Try.func72 rfl rfl rfl ?_; intro w rs
  refine d_reg ?_
  refine h_q hflS rfl ?_
  refine h_val rfl (.pointer (some ⟨g, 3, none⟩)) (fun b w hb hH => by exact exec_nilCheck rfl rfl hb) ?_
  refine h_q hflS rfl ?_
  refine h_val rfl (.int .i64 (es.length : Int)) (fun b w hb hH => exec_load rfl rfl (reads_one ty_int rfl) (hH.row 0 rfl) hb) ?_
  refine h_val rfl (.int .i64 ((2 * es.length : Nat) : Int)) (fun b w hb hH => exec_ar rfl rfl rfl rfl (by rw [IntWalk.i64_in _ (by omega)]; omega) hb) ?_
  refine h_val rfl (.int .i64 ((N : Nat) : Int)) (fun b w hb hH => exec_ar rfl rfl rfl rfl (by rw [IntWalk.i64_in _ (by omega)]; omega) hb) ?_
  refine h_act (post := fun gt => [Vec 32 5 encV (.slice (some ⟨gt, 0, none⟩) N N) (List.replicate N zeroV), cell g 67 #[.int .u64 bi, .int .u64 bt, .int .i64 bc, v, .int .i64 (f : Int), .int .i64 (es.length : Int)], Vec 32 5 encV v sl]) rfl (a_mkroom sl_api_Entry (by kernel_rfl) (fun w => by kernel_rfl) (N := N) hN rfl rfl rfl) ?_; rintro gt
  refine h_act (post := fun gs => [cell gs 34 #[.slice none 0 0], Vec 32 5 encV (.slice (some ⟨gt, 0, none⟩) N N) (List.replicate N zeroV), cell g 67 #[.int .u64 bi, .int .u64 bt, .int .i64 bc, v, .int .i64 (f : Int), .int .i64 (es.length : Int)], Vec 32 5 encV v sl]) rfl (a_alloc ze_s_api_Entry rfl) ?_; rintro gs
  refine h_acts (post := fun _ => [cell gs 34 #[.slice (some ⟨gt, 0, none⟩) 0 N], Vec 32 5 encV (.slice (some ⟨gt, 0, none⟩) N N) (List.replicate N zeroV), cell g 67 #[.int .u64 bi, .int .u64 bt, .int .i64 bc, v, .int .i64 (f : Int), .int .i64 (es.length : Int)], Vec 32 5 encV v sl]) rfl rfl (a_store 0 (v := .slice (some ⟨gt, 0, none⟩) 0 N) #[.slice (some ⟨gt, 0, none⟩) 0 N] ty_s_api_Entry.2 rfl rfl rfl rfl rfl rfl rfl rfl rfl) ?_; rintro ⟨⟩
  refine h_done (d_seq (d_reg ?_))
  refine h_q hflS rfl ?_
  refine h_val rfl (.pointer (some ⟨g, 3, none⟩)) (fun b w hb hH => by exact exec_nilCheck rfl rfl hb) ?_
  refine h_q hflS rfl ?_
  refine h_val rfl (.int .i64 (es.length : Int)) (fun b w hb hH => exec_load rfl rfl (reads_one ty_int rfl) (hH.row 2 rfl) hb) ?_
  refine h_act rfl (a_does  [] 0 (ent_of Try.func55 (by kernel_rfl) rfl) (part_any g 0 (es.length : Int)) rfl rfl rfl (fun _ => rfl) rfl rfl rfl) ?_; rintro ⟨gn, gr, gk⟩
  refine h_done (d_block ?_)
  refine d_close [3, 4] rfl (grI_0 (sl := sl) (f := f)) rfl ?_
  refine WC2.keep (env' := [(0, .pointer (some ⟨g, 3, none⟩)), (4, .pointer (some ⟨g, 3, none⟩)), (5, .pointer (some ⟨g, 3, none⟩)), (6, .pointer (some ⟨g, 5, none⟩)), (7, .int .i64 (es.length : Int)), (8, .int .i64 ((2 * es.length : Nat) : Int)), (9, .int .i64 ((N : Nat) : Int)), (10, .slice (some ⟨gt, 0, none⟩) 0 N), (2, .pointer (some ⟨gs, 0, none⟩)), (11, .pointer (some ⟨g, 3, none⟩)), (12, .pointer (some ⟨g, 3, none⟩)), (13, .pointer (some ⟨g, 3, none⟩)), (14, .pointer (some ⟨g, 5, none⟩)), (15, .int .i64 (es.length : Int)), (16, .func (.func 68) #[] #[.pointer (some ⟨gn, 0, none⟩), .pointer (some ⟨gr, 0, none⟩), .pointer (some ⟨gk, 0, none⟩)])]) ⟨rfl, rfl, rfl, rfl, rfl, rfl, rfl, rfl, rfl, rfl, rfl, rfl, rfl, rfl, rfl, trivial⟩ ?_
  refine WC2.mid [GrI gs gt sl f N 0, cell gn 3 #[.int .i64 (es.length : Int)], cell gr 90 #[.pointer (some ⟨g, 3, none⟩)], cell gk 3 #[.int .i64 0], cell g 67 #[.int .u64 bi, .int .u64 bt, .int .i64 bc, v, .int .i64 (f : Int), .int .i64 (es.length : Int)], Vec 32 5 encV v sl] (.refl _) ?_
  refine wp_rangeF (caps := [.pointer (some ⟨gn, 0, none⟩), .pointer (some ⟨gr, 0, none⟩), .pointer (some ⟨gk, 0, none⟩)]) (post := [GrI gs gt sl f N es.length, cell g 67 #[.int .u64 bi, .int .u64 bt, .int .i64 bc, v, .int .i64 (f : Int), .int .i64 (es.length : Int)], Vec 32 5 encV v sl, cell gn 3 #[.int .i64 (es.length : Int)], cell gr 90 #[.pointer (some ⟨g, 3, none⟩)], cell gk 3 #[.int .i64 0]]) (os' := [GrI gs gt sl f N es.length, cell g 67 #[.int .u64 bi, .int .u64 bt, .int .i64 bc, v, .int .i64 (f : Int), .int .i64 (es.length : Int)], Vec 32 5 encV v sl, cell gn 3 #[.int .i64 (es.length : Int)], cell gr 90 #[.pointer (some ⟨g, 3, none⟩)], cell gk 3 #[.int .i64 0]]) (.normal) [0, 4, 5, 1, 2, 3] rfl (ent_of Try.func68 (by kernel_rfl) rfl) (fun L1 fn1 tm1 hf1 r1 k11 k12 k13 k14 k15 k16 => it_in (part1 (.yield L1) #[] gn gr gk g bi bt bc v sl f 0 es.length (es.length : Int) (by omega) hfm hsz (fun i => recI L1 r1 (GrI gs gt sl f N i)) ?_)) rfl rfl rfl ?_
  · skip
    intro i x hi hx
    refine rd_in (doesF_round (n := 32) (env := [(17, .agg #[.int .i64 x.e.k, .int .u64 x.e.t, .int .u64 x.e.i, x.v, .int .i64 x.e.c]), (0, .pointer (some ⟨g, 3, none⟩)), (4, .pointer (some ⟨g, 3, none⟩)), (5, .pointer (some ⟨g, 3, none⟩)), (6, .pointer (some ⟨g, 5, none⟩)), (7, .int .i64 (es.length : Int)), (8, .int .i64 ((2 * es.length : Nat) : Int)), (9, .int .i64 ((N : Nat) : Int)), (10, .slice (some ⟨gt, 0, none⟩) 0 N), (2, .pointer (some ⟨gs, 0, none⟩)), (11, .pointer (some ⟨g, 3, none⟩)), (12, .pointer (some ⟨g, 3, none⟩)), (13, .pointer (some ⟨g, 3, none⟩)), (14, .pointer (some ⟨g, 5, none⟩)), (15, .int .i64 (es.length : Int)), (16, .func (.func 68) #[] #[.pointer (some ⟨gn, 0, none⟩), .pointer (some ⟨gr, 0, none⟩), .pointer (some ⟨gk, 0, none⟩)])]) (.normal) k12 k11 (by rw [k14]; rfl) ?_ ?_)
    · rw [k14, k13]
      refine (congrArg (fun t => Fr 32 { tmps := t, defers := [] } _) (?_ : _ = (tm1.setIfInBounds 17 (.agg #[.int .i64 x.e.k, .int .u64 x.e.t, .int .u64 x.e.i, x.v, .int .i64 x.e.c])))).mpr (hf1.put (d := 17) (by decide) _)
      simp
    · intro w0 rs
      rw [k15]
      refine r_reg (by kernel_rfl) (by rintro ⟨a, w, h⟩; first | exact h.elim | exact nomatch h.1 | (obtain ⟨_, h, _⟩ := h; exact nomatch h)) ?_
      refine h_q hflS rfl ?_
      refine h_act (post := fun g1 => [cell g1 32 #[.int .i64 0, .int .u64 0, .int .u64 0, .slice none 0 0, .int .i64 0], recT L1 r1, GrI gs gt sl f N i]) rfl (a_alloc ze_api_Entry rfl) ?_; rintro g1
      refine h_acts (post := fun _ => [cell g1 32 #[.int .i64 x.e.k, .int .u64 x.e.t, .int .u64 x.e.i, x.v, .int .i64 x.e.c], recT L1 r1, GrI gs gt sl f N i]) rfl rfl (a_store 0 (v := .agg #[.int .i64 x.e.k, .int .u64 x.e.t, .int .u64 x.e.i, x.v, .int .i64 x.e.c]) #[.int .i64 x.e.k, .int .u64 x.e.t, .int .u64 x.e.i, x.v, .int .i64 x.e.c] ty_api_Entry.2 rfl rfl rfl rfl rfl rfl rfl rfl rfl) ?_; rintro ⟨⟩
      refine h_nil ?_
      refine r_begin 1 rfl k11 ?_
      rw [k16]
      have hf1 : f < sl.length := by rcases hR.ff with h9 | h9 <;> omega
      have hiN : i < N := by omega
      refine r_open 2 rfl GrI.open_ (fun _ => rfl) ?_; rintro ⟨⟩
      refine r_block ?_
      refine r_reg (by kernel_rfl) (by rintro ⟨a, w, h⟩; first | exact h.elim | exact nomatch h.1 | (obtain ⟨_, h, _⟩ := h; exact nomatch h)) ?_
      refine h_q hflS rfl ?_
      refine h_val rfl (.slice (some ⟨gt, 0, none⟩) i N) (fun b w hb hH => exec_load rfl rfl (reads_one ty_s_api_Entry rfl) (hH.row 0 rfl) hb) ?_
      refine h_val rfl (.agg #[.int .i64 x.e.k, .int .u64 x.e.t, .int .u64 x.e.i, x.v, .int .i64 x.e.c]) (fun b w hb hH => exec_load rfl rfl (reads_agg (cs := [.int .i64 x.e.k, .int .u64 x.e.t, .int .u64 x.e.i, x.v, .int .i64 x.e.c]) ty_api_Entry rfl) (hH.row 2 rfl) hb) ?_
      refine h_act (X := Value) (val := fun v : Value => v) (post := fun u2 => [Vec 32 5 encV u2 ([x]), cell gs 34 #[.slice (some ⟨gt, 0, none⟩) i N], Vec 32 5 encV (.slice (some ⟨gt, 0, none⟩) N N) ((rotL sl f).take i ++ List.replicate (N - i) zeroV), cell g1 32 #[.int .i64 x.e.k, .int .u64 x.e.t, .int .u64 x.e.i, x.v, .int .i64 x.e.c], recT L1 (busyR r1)]) rfl (by refine a_buildK (e := 32) (t := 34) (k := 5) (enc := encV) (x := .tmp 19) (c := .agg #[.int .i64 x.e.k, .int .u64 x.e.t, .int .u64 x.e.i, x.v, .int .i64 x.e.c]) ?_ ?_ ?_ x ?_ ?_ ?_; exact sl_api_Entry; exact (by decide); exact okV; exact rfl; exact rfl; exact rfl) ?_; rintro u2
      refine h_act (post := fun _ => [Vec 32 5 encV u2 ([x]), cell gs 34 #[.slice (some ⟨gt, 0, none⟩) i N], Vec 32 5 encV (.slice (some ⟨gt, 0, none⟩) N N) ((rotL sl f).take (i + 1) ++ List.replicate (N - (i + 1)) zeroV), cell g1 32 #[.int .i64 x.e.k, .int .u64 x.e.t, .int .u64 x.e.i, x.v, .int .i64 x.e.c], recT L1 (busyR r1)]) rfl ((grow_set hf1 (by omega) hx hNe) ▸ a_appendRoom 2 (by decide) sl_api_Entry okV rfl (grow_len (by omega) hNe) hiN x (fun w hH => hH.vec 0 rfl okV) rfl rfl rfl) ?_; rintro ⟨⟩
      refine h_acts (post := fun _ => [Vec 32 5 encV u2 ([x]), cell gs 34 #[.slice (some ⟨gt, 0, none⟩) (i + 1) N], Vec 32 5 encV (.slice (some ⟨gt, 0, none⟩) N N) ((rotL sl f).take (i + 1) ++ List.replicate (N - (i + 1)) zeroV), cell g1 32 #[.int .i64 x.e.k, .int .u64 x.e.t, .int .u64 x.e.i, x.v, .int .i64 x.e.c], recT L1 (busyR r1)]) rfl rfl (a_store 1 (v := .slice (some ⟨gt, 0, none⟩) (i + 1) N) #[.slice (some ⟨gt, 0, none⟩) (i + 1) N] ty_s_api_Entry.2 rfl rfl rfl rfl rfl rfl rfl rfl rfl) ?_; rintro ⟨⟩
      refine h_nil (f_block ?_)
      refine f_close [1, 2] rfl grI_mk rfl ?_
      exact r_tell [3, 0] rfl rfl
  intro D aT wT hDm hD0 hdf hF hH
  obtain ⟨⟨⟩, hH⟩ := hp_open 0 rfl GrI.open_ hH
  refine t_to (env := [(0, .pointer (some ⟨g, 3, none⟩)), (2, .pointer (some ⟨gs, 0, none⟩))]) (os := [cell gs 34 #[.slice (some ⟨gt, 0, none⟩) es.length N], Vec 32 5 encV (.slice (some ⟨gt, 0, none⟩) N N) ((rotL sl f).take es.length ++ List.replicate (N - es.length) zeroV), cell g 67 #[.int .u64 bi, .int .u64 bt, .int .i64 bc, v, .int .i64 (f : Int), .int .i64 (es.length : Int)], Vec 32 5 encV v sl, cell gn 3 #[.int .i64 (es.length : Int)], cell gr 90 #[.pointer (some ⟨g, 3, none⟩)], cell gk 3 #[.int .i64 0]]) ?_ aT wT hDm hD0 hdf (hF.keep ⟨rfl, rfl, trivial⟩) hH
  refine t_last ?_
  refine t_val rfl (.pointer (some ⟨g, 3, none⟩)) (fun b w hb hH => exec_q1 hflS rfl hb) ?_
  refine t_val rfl (.pointer (some ⟨g, 3, none⟩)) (fun b w hb hH => exec_q1 hflS rfl hb) ?_
  refine t_val rfl (.slice (some ⟨gt, 0, none⟩) es.length N) (fun b w hb hH => exec_load rfl rfl (reads_one ty_s_api_Entry rfl) (hH.row 0 rfl) hb) ?_
  refine t_val rfl (.slice (some ⟨gt, 0, none⟩) es.length N) (fun b w hb hH => exec_load rfl rfl (reads_one ty_s_api_Entry rfl) (hH.row 0 rfl) hb) ?_
  refine t_val rfl (.int .i64 (N : Int)) (fun b w hb hH => e_cap sl_api_Entry rfl rfl hH hb) ?_
  refine t_val rfl (.slice (some ⟨gt, 0, none⟩) N N) (fun b w hb hH => e_sub_hi (j := N) sl_api_Entry sub_hi5 (Nat.le_refl _) rfl rfl rfl hH hb) ?_
  refine t_val rfl (.pointer (some ⟨g, 3, none⟩)) (fun b w hb hH => by exact exec_nilCheck rfl rfl hb) ?_
  refine t_val rfl (.pointer (some ⟨g, 3, none⟩)) (fun b w hb hH => exec_q1 hflS rfl hb) ?_
  refine t_acts (post := fun _ => [cell gs 34 #[.slice (some ⟨gt, 0, none⟩) es.length N], Vec 32 5 encV (.slice (some ⟨gt, 0, none⟩) N N) ((rotL sl f).take es.length ++ List.replicate (N - es.length) zeroV), cell g 67 #[.int .u64 bi, .int .u64 bt, .int .i64 bc, .slice (some ⟨gt, 0, none⟩) N N, .int .i64 (f : Int), .int .i64 (es.length : Int)], Vec 32 5 encV v sl, cell gn 3 #[.int .i64 (es.length : Int)], cell gr 90 #[.pointer (some ⟨g, 3, none⟩)], cell gk 3 #[.int .i64 0]]) rfl rfl (fun B w0 => a_store 2 (v := .slice (some ⟨gt, 0, none⟩) N N) #[.int .u64 bi, .int .u64 bt, .int .i64 bc, .slice (some ⟨gt, 0, none⟩) N N, .int .i64 (f : Int), .int .i64 (es.length : Int)] ty_s_api_Entry.2 rfl rfl rfl rfl rfl rfl rfl rfl rfl) ?_; rintro ⟨⟩
  refine t_val rfl (.pointer (some ⟨g, 3, none⟩)) (fun b w hb hH => by exact exec_nilCheck rfl rfl hb) ?_
  refine t_val rfl (.pointer (some ⟨g, 4, none⟩)) (fun b w hb hH => exec_q1 hflS rfl hb) ?_
  refine t_acts (post := fun _ => [cell gs 34 #[.slice (some ⟨gt, 0, none⟩) es.length N], Vec 32 5 encV (.slice (some ⟨gt, 0, none⟩) N N) ((rotL sl f).take es.length ++ List.replicate (N - es.length) zeroV), cell g 67 #[.int .u64 bi, .int .u64 bt, .int .i64 bc, .slice (some ⟨gt, 0, none⟩) N N, .int .i64 0, .int .i64 (es.length : Int)], Vec 32 5 encV v sl, cell gn 3 #[.int .i64 (es.length : Int)], cell gr 90 #[.pointer (some ⟨g, 3, none⟩)], cell gk 3 #[.int .i64 0]]) rfl rfl (fun B w0 => a_store 2 (v := .int .i64 0) #[.int .u64 bi, .int .u64 bt, .int .i64 bc, .slice (some ⟨gt, 0, none⟩) N N, .int .i64 0, .int .i64 (es.length : Int)] ty_int.2 rfl rfl rfl rfl rfl rfl rfl rfl rfl) ?_; rintro ⟨⟩
  exact t_end (fun a w hD h0 hd hF hH => m_fin0 (os := [cell gs 34 #[.slice (some ⟨gt, 0, none⟩) es.length N], Vec 32 5 encV (.slice (some ⟨gt, 0, none⟩) N N) ((rotL sl f).take es.length ++ List.replicate (N - es.length) zeroV), cell g 67 #[.int .u64 bi, .int .u64 bt, .int .i64 bc, .slice (some ⟨gt, 0, none⟩) N N, .int .i64 0, .int .i64 (es.length : Int)], Vec 32 5 encV v sl, cell gn 3 #[.int .i64 (es.length : Int)], cell gr 90 #[.pointer (some ⟨g, 3, none⟩)], cell gk 3 #[.int .i64 0]]) rfl (fun w' h => tells (X := Nat) (val := fun _ => .tuple #[]) (post := fun gt => [cell g 67 #[.int .u64 bi, .int .u64 bt, .int .i64 bc, .slice (some ⟨gt, 0, none⟩) N N, .int .i64 0, .int .i64 (es.length : Int)], Vec 32 5 encV (.slice (some ⟨gt, 0, none⟩) N N) (rotL sl f ++ List.replicate (sl.length + 1) zeroV)]) (os := [cell gs 34 #[.slice (some ⟨gt, 0, none⟩) es.length N], Vec 32 5 encV (.slice (some ⟨gt, 0, none⟩) N N) ((rotL sl f).take es.length ++ List.replicate (N - es.length) zeroV), cell g 67 #[.int .u64 bi, .int .u64 bt, .int .i64 bc, .slice (some ⟨gt, 0, none⟩) N N, .int .i64 0, .int .i64 (es.length : Int)], Vec 32 5 encV v sl, cell gn 3 #[.int .i64 (es.length : Int)], cell gr 90 #[.pointer (some ⟨g, 3, none⟩)], cell gk 3 #[.int .i64 0]]) gt rfl [2, 1] rfl h (fun z hz => ⟨z, .refl _, by rw [hn, grow_end hNe] at hz; rw [hn]; exact hz⟩)) (.inl rfl) _ a w hD h0 hd hF hH)
end Go.Proofs.Ytnebloeideodmaa.Sep
