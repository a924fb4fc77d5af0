/-
  Beh · RlA · RlB · RlF · RlC
-/
import Derived.Test.YtnebloeideodmaaPF01
import Derived.Test.YtnebloeideodmaaPG04
import Derived.OrdersIn
set_option linter.unusedSimpArgs false
set_option linter.unusedVariables false
set_option maxRecDepth 100000
namespace Go.Proofs.Ytnebloeideodmaa.Sep
open Go.RowKit
open Go.Proofs.Ytnebloeideodmaa.Mem (AM BA Chg Aq)
section
variable {P : Program} {ops : Array Oper} {Q : Exit → Act → World → Prop} {n d D : Nat} {env : List (Nat × Value)} {B : Nat → Prop} {w0 w : World} {os : List Ass} {o : Oper} {a : Act} {rest : List Oper}
theorem F7 (a : Act) (d : Option Nat) (v : Value) : { ({ a with defers := [] } : Act).put d v with defers := a.defers } = a.put d v := by cases d <;> rfl
theorem Tn {rs : List RowT} (h : Mem.Hp B w0 w rs) : Mem.Hp (BA rs) w w rs := ⟨Mod.refl _ _, h.rows, h.apart, fun x hx _ => ⟨x, hx, rfl⟩⟩
theorem RV {X : Type} {val : X → Value} {post : X → List Ass} (ha : ∀ (B : Nat → Prop) (w0 : World), AZ P (fun _ _ _ => False) n env B w0 os o val post) (hD : w.heap[D]? = some (.deferred (some []))) (hF : Fr n { a with defers := [] } env) (hH : Hp B w0 w os) {K : Act → World → Prop} (hK : ∀ x w', w'.heap[D]? = some (.deferred (some [])) → Hp B w0 w' (post x) → K (a.put o.dst (val x)) w') : o.wp P a w K Q := by
  obtain ⟨rs, h1, h2⟩ := hH
  have h3 := ha (BA rs) w { a with defers := [] } w ⟨rs, h1, Tn h2⟩ hF (fun b w' => b.defers = [] ∧ K { b with defers := a.defers } w') (fun x w' ⟨ys, p1, p2⟩ => ⟨DG _ _ _, by
    rw [F7]
    refine hK x w' ((p2.up.block D (Array.getElem?_eq_some_iff.1 hD).1 ?_).trans hD) ⟨ys, p1, ?_⟩
    · rintro ⟨z, hz, e⟩
      exact FX hD z e (h2.rows.mem z hz)
    · have h4 := D4 (a := rs) (b := []) (by rw [List.append_nil]; exact h2) (L3 p2)
      rwa [List.append_nil] at h4⟩)
  unfold Oper.wp at h3 ⊢
  rw [KW a]
  generalize (execOp ({ a with defers := [] } : Act).eval o).run P w = r at h3 ⊢
  cases r with
  | ok nx w' =>
    cases nx with
    | value v => have h4 := h3.2; rw [F7] at h4; exact h4
    | skip => have h4 := h3.2; rw [F7] at h4; exact h4
    | defer d => have h4 := h3.1; rw [DG] at h4; cases h4
    | enter f args =>
      refine Calls.mono h3 ?_
      rintro (v | c | _) w'' h
      · have h4 := h.2; rw [F7] at h4; exact h4
      · exact h.elim
      · obtain ⟨_, _, h⟩ := h; exact h.elim
    | row r args =>
      intro c cs
      obtain ⟨v, w'', h5, h6⟩ := h3 c cs
      have h4 := h5.2
      rw [F7] at h4
      exact ⟨v, w'', h4, h6⟩
    | _ => exact h3.elim
  | halt e w' =>
    cases e with
    | panic v => exact h3.elim
    | _ => exact h3.elim
theorem RW {X : Type} {val : X → Value} {post : X → List Ass} (hg : wants ops o env = some true) (hdn : o.dst = none) (ha : ∀ (B : Nat → Prop) (w0 : World), AZ P (fun _ _ _ => False) n env B w0 os o val post) (h : ∀ x, TW D P ops Q n env B w0 (post x) rest) : TW D P ops Q n env B w0 os (o :: rest) := fun a w hD h0 hd hF hH =>
 wpList_step fun K hK => by
  have hw : Region.wanted o (yielded ops a.tmps) = true := hF.wants hg
  rw [if_pos hw]
  refine RV ha hD hF hH fun x w' hD' hH' => hK _ _ (h x _ _ hD' h0 ((DG _ _ _).trans hd) ?_ hH')
  rw [KX, hdn]
  exact hF
theorem Ww {x y : Code} (h : Mz D P (Exit.then (fun a w => y.wp P Q a w) Q) n env B w0 os x) : Mz D P Q n env B w0 os (.seq x y) := fun a w hD h0 hd hF hH => wp_seq (h a w hD h0 hd hF hH)
theorem PY {y : Code} (h : Mz D P Q n env B w0 os y) (a : Act) (w : World) (hD : w.heap[D]? = some (.deferred (some []))) (h0 : w0.heap.size ≤ D) (hd : a.defers = [Di D]) (hF : Fr n { a with defers := [] } env) (hH : Hp B w0 w os) : Exit.then (fun a w => y.wp P Q a w) Q .normal a w := h a w hD h0 hd hF hH
def T0 (D : Nat) (P : Program) (ops : Array Oper) (Q : Exit → Act → World → Prop) (n : Nat) (env : List (Nat × Value)) (B : Nat → Prop) (w0 : World) (os : List Ass) (f : Nat) (listed : Array Bool) : Prop := ∀ a w, w.heap[D]? = some (.deferred (some [])) → w0.heap.size ≤ D → a.defers = [Di D] → Fr n { a with defers := [] } env → Hp B w0 w os → wpAny P .any ops Q f listed a w
def VH (D : Nat) (P : Program) (ops : Array Oper) (Q : Exit → Act → World → Prop) (n : Nat) (env : List (Nat × Value)) (B : Nat → Prop) (w0 : World) (os : List Ass) (f : Nat) (listed : Array Bool) (i : Nat) : Prop := ∀ a w, w.heap[D]? = some (.deferred (some [])) → w0.heap.size ≤ D → a.defers = [Di D] → Fr n { a with defers := [] } env → Hp B w0 w os → wpOp P ops Q i (wpAny P .any ops Q f (listed.setIfInBounds i true)) a w
variable {f i : Nat} {listed : Array Bool}
theorem Mj (l : List Nat) (hr : Region.ready .any ops listed = l) (hne : l ≠ []) (h : ∀ i ∈ l, VH D P ops Q n env B w0 os f listed i) : T0 D P ops Q n env B w0 os (f + 1) listed := fun a w hD h0 hd hF hH => ⟨fun h1 => absurd (hr ▸ h1) hne, fun i hi => h i (hr ▸ hi) a w hD h0 hd hF hH⟩
theorem I3 (ho : ops[i]? = some o) (h1 : SS ops n o env = some d) (v : Value) (hrun : ∀ b w, Fr n b env → Hp B w0 w os → (execOp b.eval o).run P w = .ok (.value v) w) (h : T0 D P ops Q n ((d, v) :: env) B w0 os f (listed.setIfInBounds i true)) : VH D P ops Q n env B w0 os f listed i := fun a w hD h0 hd hF hH => by
 unfold wpOp
 simp only [ho]
 have hw : Region.wanted o (yielded ops a.tmps) = true := hF.wants (Bm h1).1
 rw [if_pos hw]
 refine .inl ?_
 unfold Oper.wp
 rw [KW, hrun _ w hF hH, Oper.upon_value]
 refine h _ _ hD h0 ((DG _ _ _).trans hd) ?_ hH
 rw [KX, (Bm h1).2.1]
 exact hF.put (Bm h1).2.2 _
theorem Gv {X : Type} {val : X → Value} {post : X → List Ass} (ho : ops[i]? = some o) (hg : wants ops o env = some true) (hdn : o.dst = none) (ha : ∀ (B : Nat → Prop) (w0 : World), AZ P (fun _ _ _ => False) n env B w0 os o val post) (h : ∀ x, T0 D P ops Q n env B w0 (post x) f (listed.setIfInBounds i true)) : VH D P ops Q n env B w0 os f listed i := fun a w hD h0 hd hF hH => by
 unfold wpOp
 simp only [ho]
 have hw : Region.wanted o (yielded ops a.tmps) = true := hF.wants hg
 rw [if_pos hw]
 refine .inl (RV ha hD hF hH fun x w' hD' hH' => h x _ _ hD' h0 ((DG _ _ _).trans hd) ?_ hH')
 rw [KX, hdn]
 exact hF
theorem K2 (hr : Region.ready .any ops listed = []) (h : ∀ a w, w.heap[D]? = some (.deferred (some [])) → w0.heap.size ≤ D → a.defers = [Di D] → Fr n { a with defers := [] } env → Hp B w0 w os → Q .normal a w) : T0 D P ops Q n env B w0 os f listed := fun a w hD h0 hd hF hH => by
  cases f with
  | zero => exact ⟨hr, h a w hD h0 hd hF hH⟩
  | succ f => exact ⟨fun _ => h a w hD h0 hd hF hH, fun i hi => (by rw [hr] at hi; cases hi)⟩
theorem GU (i : Nat) (hr : Region.ready .any ops listed = [i]) (h : VH D P ops Q n env B w0 os f listed i) : T0 D P ops Q n env B w0 os (f + 1) listed := Mj [i] hr (by simp) (fun j hj => by
 have : j = i := by simpa using hj
 subst this
 exact h)
theorem RX (i j : Nat) (hr : Region.ready .any ops listed = [i, j]) (h : VH D P ops Q n env B w0 os f listed i) (h' : VH D P ops Q n env B w0 os f listed j) : T0 D P ops Q n env B w0 os (f + 1) listed := Mj [i, j] hr (by simp) (fun k hk => by
  have : k = i ∨ k = j := by simpa using hk
  rcases this with rfl | rfl
  · exact h
  · exact h')
theorem Wx {id : Nat} (hmix : P.follows .mixedOrders = true) (h : T0 D P ops Q n env B w0 os ops.size (Array.replicate ops.size false)) : Mz D P Q n env B w0 os (.region id ops true) := fun a w hD h0 hd hF hH => wp_region_any hmix (h a w.drew hD h0 hd hF hH.drew)
theorem U6 {id : Nat} {y : Code} (hmix : P.follows .mixedOrders = true) (h : T0 D P ops (Exit.then (fun a w => y.wp P Q a w) Q) n env B w0 os ops.size (Array.replicate ops.size false)) : Mz D P Q n env B w0 os (.seq (.region id ops true) y) := Ww (Wx hmix h)
end
end Go.Proofs.Ytnebloeideodmaa.Sep
namespace Go.Proofs.Ytnebloeideodmaa.Sep
open Go.RowKit
open Go.Proofs.Ytnebloeideodmaa.Mem (AM BA Chg Aq)
theorem Gw (g : Nat) (bi bt bc : Int) (v : Value) (sl : List EntV) (f k : Nat) (n : Int) (hf : f < sl.length) (hk : k < sl.length) (hz : sl.length ≤ 5026338869833)  : AV Try.prog 73 #[.pointer (some ⟨g, 3, none⟩), .int .i64 (k : Int)] [cell g 67 #[.int .u64 bi, .int .u64 bt, .int .i64 bc, v, .int .i64 (f : Int), .int .i64 n], As 32 5 encV v sl] (fun (_ : Unit) => AW v (AF f sl.length k * 5)) (fun (_ : Unit) => [cell g 67 #[.int .u64 bi, .int .u64 bt, .int .i64 bc, v, .int .i64 (f : Int), .int .i64 n], As 32 5 encV v sl]) := by
 refine Bk (args := [.pointer (some ⟨g, 3, none⟩), .int .i64 (k : Int)]) 22 Try.func73 rfl rfl rfl ?_; intro w rs
 refine Af (Ag Ab rfl (Ae (Ax ?_)))
 refine Bi 17 0 [⟨.quiet, [], fun _ => .pointer (some ⟨g, 3, none⟩), []⟩, ⟨.quiet, [], fun _ => .pointer (some ⟨g, 3, none⟩), [0]⟩, ⟨.quiet, [], fun _ => .pointer (some ⟨g, 3, none⟩), [1]⟩, ⟨.quiet, [], fun _ => v, [2]⟩, ⟨.quiet, [], fun _ => .pointer (some ⟨g, 3, none⟩), []⟩, ⟨.quiet, [], fun _ => .pointer (some ⟨g, 3, none⟩), [4]⟩, ⟨.quiet, [], fun _ => .pointer (some ⟨g, 4, none⟩), [5]⟩, ⟨.quiet, [], fun _ => .int .i64 (f : Int), [6]⟩, ⟨.quiet, [], fun _ => .int .i64 (k : Int), []⟩, ⟨.quiet, [], fun _ => .int .i64 ((f : Int) + (k : Int)), [7, 8]⟩, ⟨.quiet, [], fun _ => .pointer (some ⟨g, 3, none⟩), []⟩, ⟨.quiet, [], fun _ => .pointer (some ⟨g, 3, none⟩), [10]⟩, ⟨.quiet, [], fun _ => .pointer (some ⟨g, 3, none⟩), [11]⟩, ⟨.quiet, [], fun _ => v, [12]⟩, ⟨.quiet, [], fun _ => .int .i64 (sl.length : Int), [13]⟩, ⟨.quiet, [], fun _ => .int .i64 ((AF f sl.length k : Nat) : Int), [9, 14]⟩, ⟨.quiet, [], fun _ => AW v ((AF f sl.length k) * 5), [3, 15]⟩] [(0, .pointer (some ⟨g, 3, none⟩)), (1, .int .i64 (k : Int)), (4, .pointer none)] (fun _ => [cell g 67 #[.int .u64 bi, .int .u64 bt, .int .i64 bc, v, .int .i64 (f : Int), .int .i64 n], As 32 5 encV v sl]) (by kernel_rfl) (by kernel_rfl) ⟨rfl, rfl, rfl, trivial⟩ rfl ?_ ?_
 refine Ad (by exact ⟨rfl, fun b w hH hb => Ah Ab rfl hb⟩) (Ad (by exact ⟨rfl, fun b w hH hb => by exact BF rfl rfl hb⟩) (Ad (by exact ⟨rfl, fun b w hH hb => Ah Ab rfl hb⟩) (Ad (by exact ⟨rfl, fun b w hH hb => AD rfl rfl (AL Ap rfl) (hH.row 0 rfl) hb⟩) (Ad (by exact ⟨rfl, fun b w hH hb => Ah Ab rfl hb⟩) (Ad (by exact ⟨rfl, fun b w hH hb => by exact BF rfl rfl hb⟩) (Ad (by exact ⟨rfl, fun b w hH hb => Ah Ab rfl hb⟩) (Ad (by exact ⟨rfl, fun b w hH hb => AD rfl rfl (AL AB rfl) (hH.row 0 rfl) hb⟩) (Ad (by exact ⟨rfl, fun b w hH hb => Ah Ab rfl hb⟩) (Ad (by exact ⟨rfl, fun b w hH hb => Ay rfl rfl rfl rfl (by rw [IntWalk.i64_in _ (by omega)]) hb⟩) ?_)))))))))
 refine Ad (by exact ⟨rfl, fun b w hH hb => Ah Ab rfl hb⟩) (Ad (by exact ⟨rfl, fun b w hH hb => by exact BF rfl rfl hb⟩) (Ad (by exact ⟨rfl, fun b w hH hb => Ah Ab rfl hb⟩) (Ad (by exact ⟨rfl, fun b w hH hb => AD rfl rfl (AL Ap rfl) (hH.row 0 rfl) hb⟩) (Ad (by exact ⟨rfl, fun b w hH hb => HD 1 Try.underlying34 rfl rfl rfl hH hb⟩) (Ad (by exact ⟨rfl, fun b w hH hb => Br rfl rfl rfl (by omega) (J0 hf (Nat.le_of_lt hk)) hb⟩) (Ad (by exact ⟨rfl, fun b w hH hb => C4 1 Ak Bd rfl (AF f sl.length k) (Es hf hk) rfl rfl rfl hH hb⟩) ?_))))))
 exact Bx
 refine BM.keep (env' := [(4, .pointer none), (21, AW v ((AF f sl.length k) * 5))]) ⟨rfl, rfl, trivial⟩ (Ag Ab rfl (AE (AJ (Aw ?_))))
 exact Ar (.tmp rfl) (fun w h => AG () rfl [0, 1] rfl h CV) rfl
theorem OM (g : Nat) (bi bt bc : Int) (v : Value) (sl : List EntV) (f k : Nat) (n : Int) (hf : f < sl.length) (hk : k < sl.length) (hz : sl.length ≤ 5026338869833) (x : EntV) (hx : sl[AF f sl.length k]? = some x)  : AV Try.prog 62 #[.pointer (some ⟨g, 3, none⟩), .int .i64 (k : Int)] [cell g 67 #[.int .u64 bi, .int .u64 bt, .int .i64 bc, v, .int .i64 (f : Int), .int .i64 n], As 32 5 encV v sl] (fun (_ : Unit) => .agg #[.int .i64 x.e.k, .int .u64 x.e.t, .int .u64 x.e.i, x.v, .int .i64 x.e.c]) (fun (_ : Unit) => [cell g 67 #[.int .u64 bi, .int .u64 bt, .int .i64 bc, v, .int .i64 (f : Int), .int .i64 n], As 32 5 encV v sl]) := by
 refine Bk (args := [.pointer (some ⟨g, 3, none⟩), .int .i64 (k : Int)]) 10 Try.func62 rfl rfl rfl ?_; intro w rs
 refine Af (Ag Ab rfl (Al (post := fun r4 => [cell r4 32 #[.int .i64 0, .int .u64 0, .int .u64 0, .slice none 0 0, .int .i64 0], cell g 67 #[.int .u64 bi, .int .u64 bt, .int .i64 bc, v, .int .i64 (f : Int), .int .i64 n], As 32 5 encV v sl]) rfl (B4 BK rfl) ?_)); rintro r4
 refine Ae (Af (Ag Ab rfl (Al rfl (Ao (os' := fun _ => [cell r4 32 #[.int .i64 0, .int .u64 0, .int .u64 0, .slice none 0 0, .int .i64 0], cell g 67 #[.int .u64 bi, .int .u64 bt, .int .i64 bc, v, .int .i64 (f : Int), .int .i64 n], As 32 5 encV v sl]) [1, 2] 0 (Aj Try.func73 (by kernel_rfl) rfl) (Gw g bi bt bc v sl f k n hf hk hz) rfl rfl rfl (fun _ => rfl) rfl rfl rfl) ?_))); rintro ⟨⟩
 refine Ac rfl (AW v ((AF f sl.length k) * 5)) (fun b w hb hH => K0 2 rfl (j := AF f sl.length k) (List.getElem?_eq_some_iff.1 hx).1 rfl rfl hH hb) ?_
 refine Ac rfl (.agg (encV x).toArray) (fun b w hb hH => DF Bd (by decide) (hH.vec 2 rfl Bd) (j := AF f sl.length k) hx Cl rfl rfl hb) (A5 (post := fun _ => [cell r4 32 #[.int .i64 x.e.k, .int .u64 x.e.t, .int .u64 x.e.i, x.v, .int .i64 x.e.c], cell g 67 #[.int .u64 bi, .int .u64 bt, .int .i64 bc, v, .int .i64 (f : Int), .int .i64 n], As 32 5 encV v sl]) rfl rfl (AP 0 (v := .agg (encV x).toArray) #[.int .i64 x.e.k, .int .u64 x.e.t, .int .u64 x.e.i, x.v, .int .i64 x.e.c] Cl.2 rfl rfl rfl rfl rfl rfl rfl rfl rfl) ?_); rintro ⟨⟩
 refine Ae (Aw ?_)
 exact Ar (.cell 0 (v := .agg #[.int .i64 x.e.k, .int .u64 x.e.t, .int .u64 x.e.i, x.v, .int .i64 x.e.c]) (Dd (cs := [.int .i64 x.e.k, .int .u64 x.e.t, .int .u64 x.e.i, x.v, .int .i64 x.e.c]) Cl rfl) rfl rfl) (fun w h => AG () rfl [1, 2] rfl h CV) rfl
theorem I4 (g : Nat) (bi bt bc : Int) (v : Value) (sl : List EntV) (f k : Nat) (n : Int) (hf : f < sl.length) (hk : k < sl.length) (hz : sl.length ≤ 5026338869833) (x : EntV) (hx : sl[AF f sl.length k]? = some x)  : AV Try.prog 63 #[.pointer (some ⟨g, 3, none⟩), .int .i64 (k : Int)] [cell g 67 #[.int .u64 bi, .int .u64 bt, .int .i64 bc, v, .int .i64 (f : Int), .int .i64 n], As 32 5 encV v sl] (fun (_ : Unit) => .tuple #[]) (fun (_ : Unit) => [cell g 67 #[.int .u64 bi, .int .u64 bt, .int .i64 bc, v, .int .i64 (f : Int), .int .i64 n], As 32 5 encV v (sl.set (AF f sl.length k) zeroV)]) := by
  refine Bk (args := [.pointer (some ⟨g, 3, none⟩), .int .i64 (k : Int)]) 10 Try.func63 rfl rfl rfl ?_; intro w rs
  refine Af (Ag Ab rfl (Al (post := fun r4 => [cell r4 32 #[.int .i64 0, .int .u64 0, .int .u64 0, .slice none 0 0, .int .i64 0], cell g 67 #[.int .u64 bi, .int .u64 bt, .int .i64 bc, v, .int .i64 (f : Int), .int .i64 n], As 32 5 encV v sl]) rfl (B4 BK rfl) ?_)); rintro r4
  refine Ae ?_
  refine Bi 5 1 [⟨.quiet, [none], fun _ => .pointer (some ⟨g, 3, none⟩), []⟩, ⟨.quiet, [none], fun _ => .int .i64 (k : Int), []⟩, ⟨.actv 0, [some false], fun _ => AW v ((AF f sl.length k) * 5), [0, 1]⟩, ⟨.quiet, [none], fun _ => .agg #[.int .i64 0, .int .u64 0, .int .u64 0, .slice none 0 0, .int .i64 0], []⟩, ⟨.quiet, [some true], fun _ => AW v ((AF f sl.length k) * 5), [2]⟩] [(0, .pointer (some ⟨g, 3, none⟩)), (1, .int .i64 (k : Int)), (4, .pointer (some ⟨r4, 0, none⟩))] (fun ρ => match ρ with | [rq0] => [cell r4 32 #[.int .i64 0, .int .u64 0, .int .u64 0, .slice none 0 0, .int .i64 0], cell g 67 #[.int .u64 bi, .int .u64 bt, .int .i64 bc, v, .int .i64 (f : Int), .int .i64 n], As 32 5 encV v sl] | _ => []) (by kernel_rfl) (by kernel_rfl) ⟨rfl, rfl, rfl, trivial⟩ rfl ?_ ?_
  refine Ad (by intro r0_; exact ⟨rfl, fun b w hH hb => Ah Ab rfl hb⟩) (Ad (by intro r0_; exact ⟨rfl, fun b w hH hb => Ah Ab rfl hb⟩) (Ad (by exact ⟨rfl, AZ.su (Ao (os' := fun _ => [cell r4 32 #[.int .i64 0, .int .u64 0, .int .u64 0, .slice none 0 0, .int .i64 0], cell g 67 #[.int .u64 bi, .int .u64 bt, .int .i64 bc, v, .int .i64 (f : Int), .int .i64 n], As 32 5 encV v sl]) [1, 2] 0 (Aj Try.func73 (by kernel_rfl) rfl) (Gw g bi bt bc v sl f k n hf hk hz) rfl rfl rfl (fun _ => rfl) rfl rfl rfl) rfl⟩) (Ad (by intro r0_; exact ⟨rfl, fun b w hH hb => AD rfl rfl (Dd (cs := [.int .i64 0, .int .u64 0, .int .u64 0, .slice none 0 0, .int .i64 0]) Cl rfl) (hH.row 0 rfl) hb⟩) ?_)))
  refine Ad (by intro v0_; exact ⟨rfl, fun b w hH hb => K0 2 rfl (j := AF f sl.length k) (List.getElem?_eq_some_iff.1 hx).1 rfl rfl hH hb⟩) ?_
  exact Bx
  intro v0_
  refine BM.keep (env' := [(8, .agg #[.int .i64 0, .int .u64 0, .int .u64 0, .slice none 0 0, .int .i64 0]), (9, AW v ((AF f sl.length k) * 5))]) ⟨rfl, rfl, trivial⟩ (Ag Ab rfl (A5 (post := fun _ => [cell r4 32 #[.int .i64 0, .int .u64 0, .int .u64 0, .slice none 0 0, .int .i64 0], cell g 67 #[.int .u64 bi, .int .u64 bt, .int .i64 bc, v, .int .i64 (f : Int), .int .i64 n], As 32 5 encV v (sl.set (AF f sl.length k) zeroV)]) rfl rfl (F4 2 Bd rfl (AF f sl.length k) (a := x) (b := zeroV) hx Cl.2 (off := 0) (q := 5) rfl rfl (by decide) rfl rfl rfl rfl rfl) ?_)); rintro ⟨⟩
  refine AE ?_
  exact DJ  (fun w h => AG () rfl [1, 2] rfl h CV) rfl
end Go.Proofs.Ytnebloeideodmaa.Sep
namespace Go.Proofs.Ytnebloeideodmaa.Sep
open Go.RowKit
open Go.Proofs.Ytnebloeideodmaa.Mem (AM BA Chg Aq)
theorem I5 (g : Nat) (q m : Int) : AV Try.prog 55 #[.pointer (some ⟨g, 3, none⟩), .int .i64 q, .int .i64 m] [] (fun (x : Nat × Nat × Nat) => .func (.func 68) #[] #[.pointer (some ⟨x.1, 0, none⟩), .pointer (some ⟨x.2.1, 0, none⟩), .pointer (some ⟨x.2.2, 0, none⟩)]) (fun (x : Nat × Nat × Nat) => [cell x.1 3 #[.int .i64 m], cell x.2.1 90 #[.pointer (some ⟨g, 3, none⟩)], cell x.2.2 3 #[.int .i64 q]]) := by
 refine Bk (args := [.pointer (some ⟨g, 3, none⟩), .int .i64 q, .int .i64 m]) 8 Try.func55 rfl rfl rfl ?_; intro w rs
 refine Af (Ag Ab rfl (Al (post := fun gr => [cell gr 90 #[.pointer (some ⟨g, 3, none⟩)]]) rfl (Co (cs := #[.pointer (some ⟨g, 3, none⟩)]) rfl rfl rfl) ?_)); rintro gr
 refine Al (post := fun gk => [cell gk 3 #[.int .i64 q], cell gr 90 #[.pointer (some ⟨g, 3, none⟩)]]) rfl (Co (cs := #[.int .i64 q]) rfl rfl rfl) ?_; rintro gk
 refine Al (post := fun gn => [cell gn 3 #[.int .i64 m], cell gk 3 #[.int .i64 q], cell gr 90 #[.pointer (some ⟨g, 3, none⟩)]]) rfl (Co (cs := #[.int .i64 m]) rfl rfl rfl) ?_; rintro gn
 refine Ag Ab rfl (Ae (Af (Ag Ab rfl (Ac rfl (.func (.func 68) #[] #[.pointer (some ⟨gn, 0, none⟩), .pointer (some ⟨gr, 0, none⟩), .pointer (some ⟨gk, 0, none⟩)]) (fun b w hb hH => UD rfl rfl hb) (Ag Ab rfl (Ae (Aw ?_)))))))
 exact Ar (.tmp rfl) (fun w h => AG (gn, gr, gk) rfl [0, 2, 1] rfl h CV) rfl
theorem RY (k : Fn) (caps : Array Value) (gn gr gk g : Nat) (bi bt bc : Int) (v : Value) (sl : List EntV) (f q m : Nat) (n : Int) (hq : q + m ≤ sl.length) (hf : m = 0 ∨ f < sl.length) (hz : sl.length ≤ 5026338869833) (T : Nat → Ass) (hyy : ∀ (i : Nat) (x : EntV), i < m → sl[AF f sl.length (q + i)]? = some x → EK Try.prog (.func k #[] caps) [.agg #[.int .i64 x.e.k, .int .u64 x.e.t, .int .u64 x.e.i, x.v, .int .i64 x.e.c]] [T i] (fun _ : Unit => .bool true) (fun _ : Unit => [T (i + 1)])) : AV Try.prog 68 #[.func k #[] caps, .pointer (some ⟨gn, 0, none⟩), .pointer (some ⟨gr, 0, none⟩), .pointer (some ⟨gk, 0, none⟩)] [T 0, cell g 67 #[.int .u64 bi, .int .u64 bt, .int .i64 bc, v, .int .i64 (f : Int), .int .i64 n], As 32 5 encV v sl, cell gn 3 #[.int .i64 (m : Int)], cell gr 90 #[.pointer (some ⟨g, 3, none⟩)], cell gk 3 #[.int .i64 (q : Int)]] (fun (_ : Unit) => .tuple #[]) (fun (_ : Unit) => [T m, cell g 67 #[.int .u64 bi, .int .u64 bt, .int .i64 bc, v, .int .i64 (f : Int), .int .i64 n], As 32 5 encV v sl, cell gn 3 #[.int .i64 (m : Int)], cell gr 90 #[.pointer (some ⟨g, 3, none⟩)], cell gk 3 #[.int .i64 (q : Int)]]) := by
  refine Bk (args := [.func k #[] caps, .pointer (some ⟨gn, 0, none⟩), .pointer (some ⟨gr, 0, none⟩), .pointer (some ⟨gk, 0, none⟩)]) 19 Try.func68 rfl rfl rfl ?_; intro w rs
  refine Af (Ag Ab rfl (Ac rfl (.int .i64 (m : Int)) (fun b w hb hH => AD rfl rfl (AL AB rfl) (hH.row 3 rfl) hb) (Ag Ab rfl (Ae (AN (Cw (α := Nat) (fun i => [(0, .func k #[] caps), (2, .pointer (some ⟨gr, 0, none⟩)), (3, .pointer (some ⟨gk, 0, none⟩)), (6, .int .i64 (m : Int)), (7, .int .i64 (i : Int))]) (fun i => [T i, cell g 67 #[.int .u64 bi, .int .u64 bt, .int .i64 bc, v, .int .i64 (f : Int), .int .i64 n], As 32 5 encV v sl, cell gn 3 #[.int .i64 (m : Int)], cell gr 90 #[.pointer (some ⟨g, 3, none⟩)], cell gk 3 #[.int .i64 (q : Int)]]) (fun i => i ≤ m) (fun i => m - i) 0 (Nat.zero_le _) ⟨rfl, rfl, rfl, rfl, rfl, trivial⟩ rfl ?_))))))
  rintro i hI
  refine AY.at_ (env' := [(0, .func k #[] caps), (2, .pointer (some ⟨gr, 0, none⟩)), (3, .pointer (some ⟨gk, 0, none⟩)), (6, .int .i64 (m : Int)), (7, .int .i64 (i : Int))]) (rs' := [T i, cell g 67 #[.int .u64 bi, .int .u64 bt, .int .i64 bc, v, .int .i64 (f : Int), .int .i64 n], As 32 5 encV v sl, cell gn 3 #[.int .i64 (m : Int)], cell gr 90 #[.pointer (some ⟨g, 3, none⟩)], cell gk 3 #[.int .i64 (q : Int)]]) ⟨rfl, rfl, rfl, rfl, rfl, trivial⟩ rfl ?_
  rcases Nat.lt_or_ge i m with hn | hn
  have hf1 : f < sl.length := by rcases hf with hf | hf; omega; exact hf
  have hsl : AF f sl.length (q + i) < sl.length := Es hf1 (by omega)
  obtain ⟨x, hx⟩ : ∃ x, sl[AF f sl.length (q + i)]? = some x := ⟨_, List.getElem?_eq_getElem hsl⟩
  refine Af (Ag Ab rfl (Ac rfl (.bool true) (fun b w hb hH => AI rfl rfl rfl (Bc (by omega)) hb) (Ae (Ax (AC rfl (AK (AJ (Ax (AN (Af (Ag Ab rfl (Ae (Ax (UO (Wo UL 6 (by rintro ⟨a, w, h⟩; first | exact h.elim | exact nomatch h.1 | (obtain ⟨_, h, _⟩ := h; exact nomatch h)) (by kernel_rfl) (Ag Ab rfl (Ac rfl (.pointer (some ⟨g, 3, none⟩)) (fun b w hb hH => AD rfl rfl (AL C5 rfl) (hH.row 4 rfl) hb) (Ac rfl (.int .i64 (q : Int)) (fun b w hb hH => AD rfl rfl (AL AB rfl) (hH.row 5 rfl) hb) ?_))))))))))))))))))
  refine Ag Ab rfl (Ac rfl (.int .i64 ((q + i : Nat) : Int)) (fun b w hb hH => Ay rfl rfl rfl rfl (by rw [IntWalk.i64_in _ (by omega)]; push_cast; omega) hb) (Al rfl (Ao (os' := fun _ => [T i, cell g 67 #[.int .u64 bi, .int .u64 bt, .int .i64 bc, v, .int .i64 (f : Int), .int .i64 n], As 32 5 encV v sl, cell gn 3 #[.int .i64 (m : Int)], cell gr 90 #[.pointer (some ⟨g, 3, none⟩)], cell gk 3 #[.int .i64 (q : Int)]]) [1, 2] 0 (Aj Try.func62 (by kernel_rfl) rfl) (OM g bi bt bc v sl f (q + i) n hf1 (by omega) hz x hx) rfl rfl rfl (fun _ => rfl) rfl rfl rfl) ?_)); rintro ⟨⟩
  refine W4 (UN (X := Unit) (post := fun _ => [T (i + 1)]) (os' := fun _ => [T (i + 1), cell g 67 #[.int .u64 bi, .int .u64 bt, .int .i64 bc, v, .int .i64 (f : Int), .int .i64 n], As 32 5 encV v sl, cell gn 3 #[.int .i64 (m : Int)], cell gr 90 #[.pointer (some ⟨g, 3, none⟩)], cell gk 3 #[.int .i64 (q : Int)]]) UL [0] (hyy i x hn hx) rfl rfl rfl rfl rfl rfl (fun _ => rfl) ?_); rintro ⟨⟩
  refine Nr UL (by rintro ⟨a, w, h⟩; first | exact h.elim | exact nomatch h.1 | (obtain ⟨_, h, _⟩ := h; exact nomatch h)) (by kernel_rfl) (Ag Ab rfl (AE (AJ (Az rfl (AK (AU (AJ (AR (Ag Ab rfl (Ac rfl (.int .i64 ((i + 1 : Nat) : Int)) (fun b w hb hH => Ay rfl rfl rfl rfl (by rw [IntWalk.i64_in _ (by omega)]; omega) hb) (Ag Ab rfl (AE ?_))))))))))))
  exact BS (i + 1) 0 hn (show m - (i + 1) < m - i by omega) ⟨rfl, rfl, rfl, rfl, rfl, trivial⟩ rfl
  obtain rfl : i = m := by omega
  refine Af (Ag Ab rfl (Ac rfl (.bool false) (fun b w hb hH => AI rfl rfl rfl (Bf (by omega)) hb) (Ae (Ax (Az rfl (B6 (ES (ES (AQ ?_)))))))))
  exact DJ  (fun w h => AG () rfl [0, 1, 2, 3, 4, 5] rfl h CV) rfl
end Go.Proofs.Ytnebloeideodmaa.Sep
namespace Go.Proofs.Ytnebloeideodmaa.Sep
open Go.RowKit
open Go.Proofs.Ytnebloeideodmaa.Mem (AM BA Chg Aq)
section
variable {P : Program} {Q : Exit → Act → World → Prop} {n : Nat} {B : Nat → Prop} {w0 : World} {os : List Ass} {env : List (Nat × Value)} {D : Nat} {ops : Array Oper}
theorem U7 {id : Nat} {l : List Oper} (h : TW D P l.toArray Q n env B w0 os l) : Mz D P Q n env B w0 os (.region id l.toArray false) := fun a w hD h0 hd hF hH => wp_region_lit (h a w hD h0 hd hF hH)
theorem Wy (h : ∀ (a : Act) (w : World), w.heap[D]? = some (.deferred (some [])) → w0.heap.size ≤ D → a.defers = [Di D] → Fr n { a with defers := [] } env → Hp B w0 w os → Q .normal a w) : TW D P ops Q n env B w0 os [] := h
theorem RZ {P : Program} {fn : Func} {R : Ending → World → Prop} {n : Nat} {env : List (Nat × Value)} {B : Nat → Prop} {w0 : World} {os : List Ass} {e : Exit} (h : BW (bodyPost P fn R) n env B w0 os e) (he : e = .ret ∨ e = .normal := by first | exact .inl rfl | exact .inr rfl) : BW (bodyPostM Fence.wide 0 P fn R) n env B w0 os e := fun a w hF hH => by
  have h1 := h a w hF hH
  rcases he with rfl | rfl
  · obtain ⟨hd, v, hr, hR⟩ := h1
    show LeavesInM Fence.wide 0 P fn a.tmps R a.defers .returning w
    rw [hd]
    exact ⟨v, hr, hR⟩
  · obtain ⟨hd, v, hr, hR⟩ := h1
    show LeavesInM Fence.wide 0 P fn a.tmps R a.defers .returning w
    rw [hd]
    exact ⟨v, hr, hR⟩
end
end Go.Proofs.Ytnebloeideodmaa.Sep
namespace Go.Proofs.Ytnebloeideodmaa.Sep
open Go.RowKit
open Go.Proofs.Ytnebloeideodmaa.Mem (AM BA Chg Aq)
theorem R0 {sl : List EntV} {f i N : Nat} {x : EntV} (hf : f < sl.length) (hi : i < sl.length) (hx : sl[AF f sl.length (0 + i)]? = some x) (hN : N = sl.length + (sl.length + 1)) :
  ((BP sl f).take i ++ List.replicate (N - i) zeroV).set i x = (BP sl f).take (i + 1) ++ List.replicate (N - (i + 1)) zeroV := by
 rw [Nat.zero_add] at hx
 have hr : (BP sl f)[i]? = some x := by rw [OL hf hi]; exact hx
 have hl : ((BP sl f).take i).length = i := by rw [List.length_take, DV]; omega
 rw [List.set_append_right _ _ (by rw [hl]; exact Nat.le_refl _), hl, Nat.sub_self, List.take_add_one, hr, show N - i = (N - (i + 1)) + 1 by omega, List.replicate_succ, List.set_cons_zero, List.append_assoc]
 rfl
theorem R1 {sl : List EntV} {f i N : Nat} (hi : i ≤ sl.length) (hN : N = sl.length + (sl.length + 1)) : ((BP sl f).take i ++ List.replicate (N - i) zeroV).length = N := by
 rw [List.length_append, List.length_take, DV, List.length_replicate]; omega
theorem R2 {sl : List EntV} {f N : Nat} (hN : N = sl.length + (sl.length + 1)) : (BP sl f).take sl.length ++ List.replicate (N - sl.length) zeroV = BP sl f ++ List.replicate (sl.length + 1) zeroV := by
 rw [List.take_of_length_le (by rw [DV]; exact Nat.le_refl _), show N - sl.length = sl.length + 1 by omega]
theorem To {gt j N : Nat} : DS 5 (.slice (some ⟨gt, 0, none⟩) j N) 0 N = .slice (some ⟨gt, 0, none⟩) N N := by
  show Value.slice (if N = 0 then some ⟨gt, 0, none⟩ else (some (⟨gt, 0, none⟩ : Addr)).map (·.add (0 * 5))) (N - 0) (N - 0) = _
  split <;> rfl
def Qi (gs gt : Nat) (sl : List EntV) (f N : Nat) (i : Nat) : Ass := Bv [cell gs 34 #[.slice (some ⟨gt, 0, none⟩) i N], As 32 5 encV (.slice (some ⟨gt, 0, none⟩) N N) ((BP sl f).take i ++ List.replicate (N - i) zeroV)]
theorem Qi.open_ {gs gt f N i : Nat} {sl : List EntV} : ∀ rs, Qi gs gt sl f N i rs → ∃ _ : Unit, Am [cell gs 34 #[.slice (some ⟨gt, 0, none⟩) i N], As 32 5 encV (.slice (some ⟨gt, 0, none⟩) N N) ((BP sl f).take i ++ List.replicate (N - i) zeroV)] rs := fun _ h => ⟨(), h⟩
theorem U9 {gs gt f N i : Nat} {sl : List EntV} : ∀ rs, Am [cell gs 34 #[.slice (some ⟨gt, 0, none⟩) i N], As 32 5 encV (.slice (some ⟨gt, 0, none⟩) N N) ((BP sl f).take i ++ List.replicate (N - i) zeroV)] rs → Qi gs gt sl f N i rs := fun _ h => h
theorem Wz {gs gt f N : Nat} {sl : List EntV} : ∀ rs, Am [cell gs 34 #[.slice (some ⟨gt, 0, none⟩) 0 N], As 32 5 encV (.slice (some ⟨gt, 0, none⟩) N N) (List.replicate N zeroV)] rs → Qi gs gt sl f N 0 rs := fun _ h => h
theorem PZ (g : Nat) (bi bt bc : Int) (v : Value) (sl : List EntV) (f : Nat) (es : List EntD) (hR : RingD sl f es) (hn : es.length = sl.length) (N : Nat) (hNe : N = sl.length + (sl.length + 1)) (hN : 1 ≤ N ∧ N * 56 ≤ 281474976710656) : AV Try.prog 72 #[.pointer (some ⟨g, 3, none⟩)] [cell g 67 #[.int .u64 bi, .int .u64 bt, .int .i64 bc, v, .int .i64 (f : Int), .int .i64 (es.length : Int)], As 32 5 encV v sl] (fun (gt : Nat) => .tuple #[]) (fun (gt : Nat) => [cell g 67 #[.int .u64 bi, .int .u64 bt, .int .i64 bc, .slice (some ⟨gt, 0, none⟩) N N, .int .i64 0, .int .i64 (es.length : Int)], As 32 5 encV (.slice (some ⟨gt, 0, none⟩) N N) (BP sl f ++ List.replicate (sl.length + 1) zeroV)]) := by
  have hfm : es.length = 0 ∨ f < sl.length := by rcases hR.ff with h | h; exact .inl (by omega); exact .inr h
  have hsz := hR.sz
  refine Nt (args := [.pointer (some ⟨g, 3, none⟩)]) 32 Try.func72 rfl rfl rfl ?_; intro w rs
  refine Af (Ag Ab rfl (Ac rfl (.pointer (some ⟨g, 3, none⟩)) (fun b w hb hH => by exact BF rfl rfl hb) (Ag Ab rfl (Ac rfl (.int .i64 (es.length : Int)) (fun b w hb hH => AD rfl rfl (AL AB rfl) (hH.row 0 rfl) hb) (Ac rfl (.int .i64 ((2 * es.length : Nat) : Int)) (fun b w hb hH => Ay rfl rfl rfl rfl (by rw [IntWalk.i64_in _ (by omega)]; omega) hb) (Ac rfl (.int .i64 ((N : Nat) : Int)) (fun b w hb hH => Ay rfl rfl rfl rfl (by rw [IntWalk.i64_in _ (by omega)]; omega) hb) (Al (post := fun gt => [As 32 5 encV (.slice (some ⟨gt, 0, none⟩) N N) (List.replicate N zeroV), cell g 67 #[.int .u64 bi, .int .u64 bt, .int .i64 bc, v, .int .i64 (f : Int), .int .i64 (es.length : Int)], As 32 5 encV v sl]) rfl (RU Ak (by kernel_rfl) (fun w => by kernel_rfl) (N := N) hN rfl rfl rfl) ?_))))))); rintro gt
  refine Al (post := fun gs => [cell gs 34 #[.slice none 0 0], As 32 5 encV (.slice (some ⟨gt, 0, none⟩) N N) (List.replicate N zeroV), cell g 67 #[.int .u64 bi, .int .u64 bt, .int .i64 bc, v, .int .i64 (f : Int), .int .i64 (es.length : Int)], As 32 5 encV v sl]) rfl (B4 FS rfl) ?_; rintro gs
  refine A5 (post := fun _ => [cell gs 34 #[.slice (some ⟨gt, 0, none⟩) 0 N], As 32 5 encV (.slice (some ⟨gt, 0, none⟩) N N) (List.replicate N zeroV), cell g 67 #[.int .u64 bi, .int .u64 bt, .int .i64 bc, v, .int .i64 (f : Int), .int .i64 (es.length : Int)], As 32 5 encV v sl]) rfl rfl (AP 0 (v := .slice (some ⟨gt, 0, none⟩) 0 N) #[.slice (some ⟨gt, 0, none⟩) 0 N] Ap.2 rfl rfl rfl rfl rfl rfl rfl rfl rfl) ?_; rintro ⟨⟩
  refine Ae (Ax (Af (Ag Ab rfl (Ac rfl (.pointer (some ⟨g, 3, none⟩)) (fun b w hb hH => by exact BF rfl rfl hb) (Ag Ab rfl (Ac rfl (.int .i64 (es.length : Int)) (fun b w hb hH => AD rfl rfl (AL AB rfl) (hH.row 2 rfl) hb) (Al rfl (Ao  [] 0 (Aj Try.func55 (by kernel_rfl) rfl) (I5 g 0 (es.length : Int)) rfl rfl rfl (fun _ => rfl) rfl rfl rfl) ?_))))))); rintro ⟨gn, gr, gk⟩
  refine Ae (AN (Be [3, 4] rfl (Wz (sl := sl) (f := f)) rfl (AY.keep (env' := [(0, .pointer (some ⟨g, 3, none⟩)), (4, .pointer (some ⟨g, 3, none⟩)), (5, .pointer (some ⟨g, 3, none⟩)), (6, .pointer (some ⟨g, 5, none⟩)), (7, .int .i64 (es.length : Int)), (8, .int .i64 ((2 * es.length : Nat) : Int)), (9, .int .i64 ((N : Nat) : Int)), (10, .slice (some ⟨gt, 0, none⟩) 0 N), (2, .pointer (some ⟨gs, 0, none⟩)), (11, .pointer (some ⟨g, 3, none⟩)), (12, .pointer (some ⟨g, 3, none⟩)), (13, .pointer (some ⟨g, 3, none⟩)), (14, .pointer (some ⟨g, 5, none⟩)), (15, .int .i64 (es.length : Int)), (16, .func (.func 68) #[] #[.pointer (some ⟨gn, 0, none⟩), .pointer (some ⟨gr, 0, none⟩), .pointer (some ⟨gk, 0, none⟩)])]) ⟨rfl, rfl, rfl, rfl, rfl, rfl, rfl, rfl, rfl, rfl, rfl, rfl, rfl, rfl, rfl, trivial⟩ (AY.mid [Qi gs gt sl f N 0, cell gn 3 #[.int .i64 (es.length : Int)], cell gr 90 #[.pointer (some ⟨g, 3, none⟩)], cell gk 3 #[.int .i64 0], cell g 67 #[.int .u64 bi, .int .u64 bt, .int .i64 bc, v, .int .i64 (f : Int), .int .i64 (es.length : Int)], As 32 5 encV v sl] (.refl _) ?_))))
  refine HK (caps := [.pointer (some ⟨gn, 0, none⟩), .pointer (some ⟨gr, 0, none⟩), .pointer (some ⟨gk, 0, none⟩)]) (post := [Qi gs gt sl f N es.length, cell g 67 #[.int .u64 bi, .int .u64 bt, .int .i64 bc, v, .int .i64 (f : Int), .int .i64 (es.length : Int)], As 32 5 encV v sl, cell gn 3 #[.int .i64 (es.length : Int)], cell gr 90 #[.pointer (some ⟨g, 3, none⟩)], cell gk 3 #[.int .i64 0]]) (os' := [Qi gs gt sl f N es.length, cell g 67 #[.int .u64 bi, .int .u64 bt, .int .i64 bc, v, .int .i64 (f : Int), .int .i64 (es.length : Int)], As 32 5 encV v sl, cell gn 3 #[.int .i64 (es.length : Int)], cell gr 90 #[.pointer (some ⟨g, 3, none⟩)], cell gk 3 #[.int .i64 0]]) (.normal) [0, 4, 5, 1, 2, 3] rfl (Aj Try.func68 (by kernel_rfl) rfl) (fun L1 fn1 tm1 hf1 r1 k11 k12 k13 k14 k15 k16 => RG (RY (.yield L1) #[] gn gr gk g bi bt bc v sl f 0 es.length (es.length : Int) (by omega) hfm hsz (fun i => KV L1 r1 (Qi gs gt sl f N i)) ?_)) rfl rfl rfl ?_
  intro i x hi hx
  refine RH (FY (n := 32) (env := [(17, .agg #[.int .i64 x.e.k, .int .u64 x.e.t, .int .u64 x.e.i, x.v, .int .i64 x.e.c]), (0, .pointer (some ⟨g, 3, none⟩)), (4, .pointer (some ⟨g, 3, none⟩)), (5, .pointer (some ⟨g, 3, none⟩)), (6, .pointer (some ⟨g, 5, none⟩)), (7, .int .i64 (es.length : Int)), (8, .int .i64 ((2 * es.length : Nat) : Int)), (9, .int .i64 ((N : Nat) : Int)), (10, .slice (some ⟨gt, 0, none⟩) 0 N), (2, .pointer (some ⟨gs, 0, none⟩)), (11, .pointer (some ⟨g, 3, none⟩)), (12, .pointer (some ⟨g, 3, none⟩)), (13, .pointer (some ⟨g, 3, none⟩)), (14, .pointer (some ⟨g, 5, none⟩)), (15, .int .i64 (es.length : Int)), (16, .func (.func 68) #[] #[.pointer (some ⟨gn, 0, none⟩), .pointer (some ⟨gr, 0, none⟩), .pointer (some ⟨gk, 0, none⟩)])]) (.normal) k12 k11 (by rw [k14]; rfl) ?_ ?_)
  · rw [k14, k13]
    refine (congrArg (fun t => Fr 32 { tmps := t, defers := [] } _) (?_ : _ = (tm1.setIfInBounds 17 (.agg #[.int .i64 x.e.k, .int .u64 x.e.t, .int .u64 x.e.i, x.v, .int .i64 x.e.c])))).mpr (hf1.put (d := 17) (by decide) _)
    simp
  · intro w0 rs
    rw [k15]
    refine JT (by kernel_rfl) (by rintro ⟨a, w, h⟩; first | exact h.elim | exact nomatch h.1 | (obtain ⟨_, h, _⟩ := h; exact nomatch h)) (Ag Ab rfl (Al (post := fun g1 => [cell g1 32 #[.int .i64 0, .int .u64 0, .int .u64 0, .slice none 0 0, .int .i64 0], Ch L1 r1, Qi gs gt sl f N i]) rfl (B4 BK rfl) ?_)); rintro g1
    refine A5 (post := fun _ => [cell g1 32 #[.int .i64 x.e.k, .int .u64 x.e.t, .int .u64 x.e.i, x.v, .int .i64 x.e.c], Ch L1 r1, Qi gs gt sl f N i]) rfl rfl (AP 0 (v := .agg #[.int .i64 x.e.k, .int .u64 x.e.t, .int .u64 x.e.i, x.v, .int .i64 x.e.c]) #[.int .i64 x.e.k, .int .u64 x.e.t, .int .u64 x.e.i, x.v, .int .i64 x.e.c] Cl.2 rfl rfl rfl rfl rfl rfl rfl rfl rfl) ?_; rintro ⟨⟩
    refine AE (KU 1 rfl k11 ?_)
    rw [k16]
    have hf1 : f < sl.length := by rcases hR.ff with h9 | h9 <;> omega
    have hiN : i < N := by omega
    refine KP 2 rfl Qi.open_ (fun _ => rfl) ?_; rintro ⟨⟩
    refine KO (JT (by kernel_rfl) (by rintro ⟨a, w, h⟩; first | exact h.elim | exact nomatch h.1 | (obtain ⟨_, h, _⟩ := h; exact nomatch h)) (Ag Ab rfl (Ac rfl (.slice (some ⟨gt, 0, none⟩) i N) (fun b w hb hH => AD rfl rfl (AL Ap rfl) (hH.row 0 rfl) hb) (Ac rfl (.agg #[.int .i64 x.e.k, .int .u64 x.e.t, .int .u64 x.e.i, x.v, .int .i64 x.e.c]) (fun b w hb hH => AD rfl rfl (Dd (cs := [.int .i64 x.e.k, .int .u64 x.e.t, .int .u64 x.e.i, x.v, .int .i64 x.e.c]) Cl rfl) (hH.row 2 rfl) hb) ?_))))
    refine Al (X := Value) (val := fun v : Value => v) (post := fun u2 => [As 32 5 encV u2 ([x]), cell gs 34 #[.slice (some ⟨gt, 0, none⟩) i N], As 32 5 encV (.slice (some ⟨gt, 0, none⟩) N N) ((BP sl f).take i ++ List.replicate (N - i) zeroV), cell g1 32 #[.int .i64 x.e.k, .int .u64 x.e.t, .int .u64 x.e.i, x.v, .int .i64 x.e.c], Ch L1 (Er r1)]) rfl (by refine E2 (e := 32) (t := 34) (k := 5) (enc := encV) (x := .tmp 19) (c := .agg #[.int .i64 x.e.k, .int .u64 x.e.t, .int .u64 x.e.i, x.v, .int .i64 x.e.c]) ?_ ?_ ?_ x ?_ ?_ ?_; exact Ak; exact (by decide); exact Bd; exact rfl; exact rfl; exact rfl) ?_; rintro u2
    refine Al (post := fun _ => [As 32 5 encV u2 ([x]), cell gs 34 #[.slice (some ⟨gt, 0, none⟩) i N], As 32 5 encV (.slice (some ⟨gt, 0, none⟩) N N) ((BP sl f).take (i + 1) ++ List.replicate (N - (i + 1)) zeroV), cell g1 32 #[.int .i64 x.e.k, .int .u64 x.e.t, .int .u64 x.e.i, x.v, .int .i64 x.e.c], Ch L1 (Er r1)]) rfl ((R0 hf1 (by omega) hx hNe) ▸ K1 2 (by decide) Ak Bd rfl (R1 (by omega) hNe) hiN x (fun w hH => hH.vec 0 rfl Bd) rfl rfl rfl) ?_; rintro ⟨⟩
    refine A5 (post := fun _ => [As 32 5 encV u2 ([x]), cell gs 34 #[.slice (some ⟨gt, 0, none⟩) (i + 1) N], As 32 5 encV (.slice (some ⟨gt, 0, none⟩) N N) ((BP sl f).take (i + 1) ++ List.replicate (N - (i + 1)) zeroV), cell g1 32 #[.int .i64 x.e.k, .int .u64 x.e.t, .int .u64 x.e.i, x.v, .int .i64 x.e.c], Ch L1 (Er r1)]) rfl rfl (AP 1 (v := .slice (some ⟨gt, 0, none⟩) (i + 1) N) #[.slice (some ⟨gt, 0, none⟩) (i + 1) N] Ap.2 rfl rfl rfl rfl rfl rfl rfl rfl rfl) ?_; rintro ⟨⟩
    refine AE (AU (Fg [1, 2] rfl U9 rfl ?_))
    exact KT [3, 0] rfl rfl
  intro D aT wT hDm hD0 hdf hF hH
  obtain ⟨⟨⟩, hH⟩ := KQ 0 rfl Qi.open_ hH
  refine PY (env := [(0, .pointer (some ⟨g, 3, none⟩)), (2, .pointer (some ⟨gs, 0, none⟩))]) (os := [cell gs 34 #[.slice (some ⟨gt, 0, none⟩) es.length N], As 32 5 encV (.slice (some ⟨gt, 0, none⟩) N N) ((BP sl f).take es.length ++ List.replicate (N - es.length) zeroV), cell g 67 #[.int .u64 bi, .int .u64 bt, .int .i64 bc, v, .int .i64 (f : Int), .int .i64 (es.length : Int)], As 32 5 encV v sl, cell gn 3 #[.int .i64 (es.length : Int)], cell gr 90 #[.pointer (some ⟨g, 3, none⟩)], cell gk 3 #[.int .i64 0]]) ?_ aT wT hDm hD0 hdf (hF.keep ⟨rfl, rfl, trivial⟩) hH
  refine U7 (Fu rfl (.pointer (some ⟨g, 3, none⟩)) (fun b w hb hH => Ah Ab rfl hb) (Fu rfl (.pointer (some ⟨g, 3, none⟩)) (fun b w hb hH => Ah Ab rfl hb) (Fu rfl (.slice (some ⟨gt, 0, none⟩) es.length N) (fun b w hb hH => AD rfl rfl (AL Ap rfl) (hH.row 0 rfl) hb) (Fu rfl (.slice (some ⟨gt, 0, none⟩) es.length N) (fun b w hb hH => AD rfl rfl (AL Ap rfl) (hH.row 0 rfl) hb) (Fu rfl (.int .i64 (N : Int)) (fun b w hb hH => Wg Ak rfl rfl hH hb) (Fu rfl (.slice (some ⟨gt, 0, none⟩) N N) (fun b w hb hH => FN (j := N) Ak To (Nat.le_refl _) rfl rfl rfl hH hb) (Fu rfl (.pointer (some ⟨g, 3, none⟩)) (fun b w hb hH => by exact BF rfl rfl hb) (Fu rfl (.pointer (some ⟨g, 3, none⟩)) (fun b w hb hH => Ah Ab rfl hb) (RW (post := fun _ => [cell gs 34 #[.slice (some ⟨gt, 0, none⟩) es.length N], As 32 5 encV (.slice (some ⟨gt, 0, none⟩) N N) ((BP sl f).take es.length ++ List.replicate (N - es.length) zeroV), cell g 67 #[.int .u64 bi, .int .u64 bt, .int .i64 bc, .slice (some ⟨gt, 0, none⟩) N N, .int .i64 (f : Int), .int .i64 (es.length : Int)], As 32 5 encV v sl, cell gn 3 #[.int .i64 (es.length : Int)], cell gr 90 #[.pointer (some ⟨g, 3, none⟩)], cell gk 3 #[.int .i64 0]]) rfl rfl (fun B w0 => AP 2 (v := .slice (some ⟨gt, 0, none⟩) N N) #[.int .u64 bi, .int .u64 bt, .int .i64 bc, .slice (some ⟨gt, 0, none⟩) N N, .int .i64 (f : Int), .int .i64 (es.length : Int)] Ap.2 rfl rfl rfl rfl rfl rfl rfl rfl rfl) ?_))))))))); rintro ⟨⟩
  refine Fu rfl (.pointer (some ⟨g, 3, none⟩)) (fun b w hb hH => by exact BF rfl rfl hb) (Fu rfl (.pointer (some ⟨g, 4, none⟩)) (fun b w hb hH => Ah Ab rfl hb) (RW (post := fun _ => [cell gs 34 #[.slice (some ⟨gt, 0, none⟩) es.length N], As 32 5 encV (.slice (some ⟨gt, 0, none⟩) N N) ((BP sl f).take es.length ++ List.replicate (N - es.length) zeroV), cell g 67 #[.int .u64 bi, .int .u64 bt, .int .i64 bc, .slice (some ⟨gt, 0, none⟩) N N, .int .i64 0, .int .i64 (es.length : Int)], As 32 5 encV v sl, cell gn 3 #[.int .i64 (es.length : Int)], cell gr 90 #[.pointer (some ⟨g, 3, none⟩)], cell gk 3 #[.int .i64 0]]) rfl rfl (fun B w0 => AP 2 (v := .int .i64 0) #[.int .u64 bi, .int .u64 bt, .int .i64 bc, .slice (some ⟨gt, 0, none⟩) N N, .int .i64 0, .int .i64 (es.length : Int)] AB.2 rfl rfl rfl rfl rfl rfl rfl rfl rfl) ?_)); rintro ⟨⟩
  exact Wy (fun a w hD h0 hd hF hH => UV (os := [cell gs 34 #[.slice (some ⟨gt, 0, none⟩) es.length N], As 32 5 encV (.slice (some ⟨gt, 0, none⟩) N N) ((BP sl f).take es.length ++ List.replicate (N - es.length) zeroV), cell g 67 #[.int .u64 bi, .int .u64 bt, .int .i64 bc, .slice (some ⟨gt, 0, none⟩) N N, .int .i64 0, .int .i64 (es.length : Int)], As 32 5 encV v sl, cell gn 3 #[.int .i64 (es.length : Int)], cell gr 90 #[.pointer (some ⟨g, 3, none⟩)], cell gk 3 #[.int .i64 0]]) rfl (fun w' h => AG (X := Nat) (val := fun _ => .tuple #[]) (post := fun gt => [cell g 67 #[.int .u64 bi, .int .u64 bt, .int .i64 bc, .slice (some ⟨gt, 0, none⟩) N N, .int .i64 0, .int .i64 (es.length : Int)], As 32 5 encV (.slice (some ⟨gt, 0, none⟩) N N) (BP sl f ++ List.replicate (sl.length + 1) zeroV)]) (os := [cell gs 34 #[.slice (some ⟨gt, 0, none⟩) es.length N], As 32 5 encV (.slice (some ⟨gt, 0, none⟩) N N) ((BP sl f).take es.length ++ List.replicate (N - es.length) zeroV), cell g 67 #[.int .u64 bi, .int .u64 bt, .int .i64 bc, .slice (some ⟨gt, 0, none⟩) N N, .int .i64 0, .int .i64 (es.length : Int)], As 32 5 encV v sl, cell gn 3 #[.int .i64 (es.length : Int)], cell gr 90 #[.pointer (some ⟨g, 3, none⟩)], cell gk 3 #[.int .i64 0]]) gt rfl [2, 1] rfl h (fun z hz => ⟨z, .refl _, by rw [hn, R2 hNe] at hz; rw [hn]; exact hz⟩)) (.inl rfl) _ a w hD h0 hd hF hH)
end Go.Proofs.Ytnebloeideodmaa.Sep
