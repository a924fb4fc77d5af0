/-
  RlAf
-/
import Derived.Test.YtnebloeideodmaaNL01
import Derived.Test.YtnebloeideodmaaNP01
import Derived.Test.YtnebloeideodmaaNQ01
set_option linter.unusedSimpArgs false
set_option linter.unusedVariables false

namespace Go.Proofs.Ytnebloeideodmaa.Sep
open Go.RowKit
open Go.Proofs.Ytnebloeideodmaa.Mem (Dist Blk Chg below0)

theorem log_rdX {P : Program} {F : FuncId} {args : Array Value} {g : Nat} {bi bt bc : Int} {es l : List EntD} (h : ∀ (v : Value) (sl : List EntV) (f : Nat), RingD sl f es → Does P F args [cell g 67 #[.int .u64 bi, .int .u64 bt, .int .i64 bc, v, .int .i64 (f : Int), .int .i64 (es.length : Int)], Vec 32 5 encV v (sl), Each dat sl] (fun ev : Value => ev) (fun ev => [cell g 67 #[.int .u64 bi, .int .u64 bt, .int .i64 bc, v, .int .i64 (f : Int), .int .i64 (es.length : Int)], Vec 32 5 encV v (sl), Each dat sl, EnT ev l])) : Does P F args [LogD g bi bt bc es] (fun ev : Value => ev) (fun ev => [LogD g bi bt bc es, EnT ev l]) := fun w rs hp hr hd => by
  obtain ⟨⟨v, sl, f⟩, a, b, e, h1, c, d, e2, h2, p, q, e3, h3, h4⟩ := hp.one'
  obtain ⟨a4, b4, e4, ⟨h5, hR⟩, h6⟩ := h4
  refine (h v sl f hR w rs ⟨a, b, e, h1, c, d, e2, h2, ?_⟩ hr hd).mono ?_
  · subst h5
    have : b4 = [] := h6
    subst this
    have : q = [] := by simpa using e4
    subst this
    exact ⟨p, [], e3, h3, rfl⟩
  · rintro e' w' ⟨x, he, rs', hx, hc⟩
    exact ⟨x, he, rs', app_done hR hx, hc⟩
theorem len_D (g : Nat) (bi bt bc : Int) (es : List EntD) (hI : InvL bi bt es) : Does Try.prog 18 #[.pointer (some ⟨g, 0, none⟩)] [LogD g bi bt bc es] (fun _ : Unit => .int .i64 (es.length : Int)) (fun _ => [LogD g bi bt bc es]) := log_rd1 fun v f => len_any g bi bt bc v f es.length
theorem base_D (g : Nat) (bi bt bc : Int) (es : List EntD) (hI : InvL bi bt es) : Does Try.prog 15 #[.pointer (some ⟨g, 0, none⟩)] [LogD g bi bt bc es] (fun _ : Unit => .agg #[.int .u64 bi, .int .u64 bt, .int .i64 bc]) (fun _ => [LogD g bi bt bc es]) := log_rd1 fun v f => base_any g bi bt bc v f es.length
theorem last_D (g : Nat) (bi bt bc : Int) (es : List EntD) (hI : InvL bi bt es) : Does Try.prog 17 #[.pointer (some ⟨g, 0, none⟩)] [LogD g bi bt bc es] (fun _ : Unit => .int .u64 (bi + (es.length : Int))) (fun _ => [LogD g bi bt bc es]) := log_rd1 fun v f => last_any g bi bt bc v f es.length ⟨hI.hi.1, by omega, by have := hI.len; omega⟩
theorem term_D (g : Nat) (bi bt bc : Int) (es : List EntD) (hI : InvL bi bt es) (x : Int) (hx : 0 ≤ x ∧ x ≤ 18446744073709551615) (a : Int) (ok : Bool) (ht : termM bi bt es x = (a, ok)) : Does Try.prog 32 #[.pointer (some ⟨g, 0, none⟩), .int .u64 x] [LogD g bi bt bc es] (fun _ : Unit => .tuple #[.int .u64 a, .bool ok]) (fun _ => [LogD g bi bt bc es]) := log_rd fun v sl f hR => term_any g bi bt bc es hI v sl f hR x hx a ok ht
theorem good_D (g : Nat) (bi bt bc : Int) (es : List EntD) (hI : InvL bi bt es) (x y : Int) (hx : 0 ≤ x ∧ x ≤ 18446744073709551615) (b : Bool) (hb : (decide (ltm bt es < y) || (decide (y = ltm bt es) && decide (bi + (es.length : Int) ≤ x))) = b) : Does Try.prog 12 #[.pointer (some ⟨g, 0, none⟩), .int .u64 x, .int .u64 y] [LogD g bi bt bc es] (fun _ : Unit => .bool b) (fun _ => [LogD g bi bt bc es]) := log_rd fun v sl f hR => good_any g bi bt bc es hI v sl f hR x y hx b hb
theorem conf_D (g : Nat) (bi bt bc : Int) (es : List EntD) (hI : InvL bi bt es) (p q : Int) (hc : cfL (bc, bi) es = (p, q)) : Does Try.prog 43 #[.pointer (some ⟨g, 0, none⟩)] [LogD g bi bt bc es] (fun _ : Unit => .tuple #[.int .i64 p, .int .u64 q]) (fun _ => [LogD g bi bt bc es]) := log_rd fun v sl f hR => conf_any g bi bt bc es hI v sl f hR p q hc
theorem entries_D (g : Nat) (bi bt bc : Int) (es : List EntD) (hI : InvL bi bt es) (x most : Int) (hx : 0 ≤ x ∧ x ≤ 18446744073709551615) (hmo : -9223372036854775808 ≤ most ∧ most ≤ 9223372036854775807) (hes : es.length * 56 ≤ 140737488351232) (l : List EntD) (hl : partM bi es x most = l) : Does Try.prog 26 #[.pointer (some ⟨g, 0, none⟩), .int .u64 x, .int .i64 most] [LogD g bi bt bc es] (fun ev : Value => ev) (fun ev => [LogD g bi bt bc es, EnT ev l]) :=
  log_rdX fun v sl f hR => entries_v g bi bt bc es hI v sl f hR x most hx hmo hes l hl

/-- what is read of entries of one's own -/
theorem EnT.rd {v : Value} {l : List EntD} {w : World} {B : Nat → Prop} {w0 : World} {os : List Ass} (i : Nat) (hi : os[i]? = some (EnT v l)) (hH : Hp B w0 w os) : ∃ L : List EntV, L.map (·.e) = l ∧ EntsRd w v L := by
  obtain ⟨rs, ⟨L, hL, hr⟩, hR⟩ := hH.thing i hi
  exact ⟨L, hL, hr.rd hR⟩
theorem same_v (w : World) (v v2 : Value) (l l2 : List EntD) (hv : ∃ L : List EntV, L.map (·.e) = l ∧ EntsRd w v L) (hv2 : ∃ L : List EntV, L.map (·.e) = l2 ∧ EntsRd w v2 L) (h : l = l2) (hle : l.length ≤ 9223372036854775807) : Calls Try.prog 25 #[v, v2] w fun e w' => e = .returned (.bool true) ∧ Below w.heap.size w w' := by
  obtain ⟨L, hL, hr⟩ := hv
  obtain ⟨M, hM, hr2⟩ := hv2
  exact samees_true w v v2 L M hr hr2 (by rw [hL, hM, h]) (by rw [← hL, List.length_map] at hle; exact hle)

set_option maxRecDepth 100000 in
theorem lbase_any (w : World) (a b1 c : Int) : Calls Try.prog 9 #[.int .u64 a, .int .u64 b1, .int .i64 c] w fun e w' => e = .returned (.agg #[.int .u64 a, .int .u64 b1, .int .i64 c]) ∧ Below w.heap.size w w' := by
  refine d_in (args := [.int .u64 a, .int .u64 b1, .int .i64 c]) 11 Try.func9 rfl rfl rfl ?_
  refine d_reg ?_
  refine h_q hflS rfl ?_
  refine h_act (post := fun g6 => [cell g6 28 #[.int .u64 0, .int .u64 0, .int .i64 0]]) rfl (a_alloc ze_api_Base rfl) ?_; rintro g6
  refine h_done (d_reg ?_)
  refine h_q hflS rfl ?_
  refine h_val rfl (.agg #[.int .u64 a, .int .u64 b1, .int .i64 c]) (fun b w hb hH => exec_build rfl rfl (by kernel_rfl) hb) ?_
  refine h_acts (post := fun _ => [cell g6 28 #[.int .u64 a, .int .u64 b1, .int .i64 c]]) rfl rfl (a_store 0 (v := .agg #[.int .u64 a, .int .u64 b1, .int .i64 c]) #[.int .u64 a, .int .u64 b1, .int .i64 c] ty_api_Base.2 rfl rfl rfl rfl rfl rfl rfl rfl rfl) ?_; rintro ⟨⟩
  refine h_done (d_ret ?_)
  exact f_fin1 (.cell 0 (v := .agg #[.int .u64 a, .int .u64 b1, .int .i64 c]) (reads_agg (cs := [.int .u64 a, .int .u64 b1, .int .i64 c]) ty_api_Base rfl) rfl rfl) (fun w h => ⟨rfl, below0 h.up⟩) rfl

set_option maxRecDepth 100000 in
theorem copies_v (u : World) (v : Value) (l : List EntV) (hv : EntsRd u v l) (hl : l.length * 56 ≤ 140737488351232) (hd : ∀ x, x ∈ l → x.e.d.length ≤ 140737488351232) (es : List EntD) (he : l.map (·.e) = es) : DoesU u Try.prog 21 #[v] [] (fun (cv : Value) => cv) (fun (cv : Value) => [EnT cv es]) := by
  refine d_insU (args := [v]) 5 Try.func21 rfl rfl rfl ?_; intro w rs hU hS
  refine d_reg ?_
  refine h_q hflS rfl ?_
  refine h_done (d_reg ?_)
  refine h_q hflS rfl ?_
  refine h_act (post := fun cv => [EnT cv es]) rfl (a_doesU hU hS (os' := fun cv => [EnT cv es]) [] 0 (ent_of Try.func39 (by kernel_rfl) rfl) (copy_v u v l hv hl hd es he) rfl rfl rfl (fun _ => rfl) rfl rfl rfl) ?_; rintro cv
  refine h_q hflS rfl ?_
  refine h_done (d_ret ?_)
  exact f_fin1 (.tmp rfl) (fun w h => tells cv rfl [0] rfl h same_parts) rfl
end Go.Proofs.Ytnebloeideodmaa.Sep
