/-
  RlAf
-/
import Derived.Test.YtnebloeideodmaaPL01
import Derived.Test.YtnebloeideodmaaPP01
import Derived.Test.YtnebloeideodmaaPQ01
set_option linter.unusedSimpArgs false
set_option linter.unusedVariables false
set_option maxRecDepth 100000
namespace Go.Proofs.Ytnebloeideodmaa.Sep
open Go.RowKit
open Go.Proofs.Ytnebloeideodmaa.Mem (AM BA Chg Aq)
theorem Tv {P : Program} {F : FuncId} {args : Array Value} {g : Nat} {bi bt bc : Int} {es l : List EntD} (h : ∀ (v : Value) (sl : List EntV) (f : Nat), RingD sl f es → AV P F args [cell g 67 #[.int .u64 bi, .int .u64 bt, .int .i64 bc, v, .int .i64 (f : Int), .int .i64 (es.length : Int)], As 32 5 encV v (sl), An dat sl] (fun ev : Value => ev) (fun ev => [cell g 67 #[.int .u64 bi, .int .u64 bt, .int .i64 bc, v, .int .i64 (f : Int), .int .i64 (es.length : Int)], As 32 5 encV v (sl), An dat sl, BQ ev l])) : AV P F args [Av g bi bt bc es] (fun ev : Value => ev) (fun ev => [Av g bi bt bc es, BQ ev l]) := fun w rs hp hr hd => by
  obtain ⟨⟨v, sl, f⟩, a, b, e, h1, c, d, e2, h2, p, q, e3, h3, h4⟩ := hp.one'
  obtain ⟨a4, b4, e4, ⟨h5, hR⟩, h6⟩ := h4
  refine (h v sl f hR w rs ⟨a, b, e, h1, c, d, e2, h2, ?_⟩ hr hd).mono ?_
  · subst h5
    have : b4 = [] := h6
    subst this
    have : q = [] := by simpa using e4
    subst this
    exact ⟨p, [], e3, h3, rfl⟩
  · rintro e' w' ⟨x, he, rs', hx, hc⟩
    exact ⟨x, he, rs', Mp hR hx, hc⟩
theorem WG (g : Nat) (bi bt bc : Int) (es : List EntD) (hI : InvL bi bt es) : AV Try.prog 18 #[.pointer (some ⟨g, 0, none⟩)] [Av g bi bt bc es] (fun _ : Unit => .int .i64 (es.length : Int)) (fun _ => [Av g bi bt bc es]) := Ih fun v f => Hj g bi bt bc v f es.length
theorem Vj (g : Nat) (bi bt bc : Int) (es : List EntD) (hI : InvL bi bt es) : AV Try.prog 15 #[.pointer (some ⟨g, 0, none⟩)] [Av g bi bt bc es] (fun _ : Unit => .agg #[.int .u64 bi, .int .u64 bt, .int .i64 bc]) (fun _ => [Av g bi bt bc es]) := Ih fun v f => R7 g bi bt bc v f es.length
theorem Vk (g : Nat) (bi bt bc : Int) (es : List EntD) (hI : InvL bi bt es) : AV Try.prog 17 #[.pointer (some ⟨g, 0, none⟩)] [Av g bi bt bc es] (fun _ : Unit => .int .u64 (bi + (es.length : Int))) (fun _ => [Av g bi bt bc es]) := Ih fun v f => CZ g bi bt bc v f es.length ⟨hI.hi.1, by omega, by have := hI.len; omega⟩
theorem Vl (g : Nat) (bi bt bc : Int) (es : List EntD) (hI : InvL bi bt es) (x : Int) (hx : 0 ≤ x ∧ x ≤ 18446744073709551615) (a : Int) (ok : Bool) (ht : BO bi bt es x = (a, ok)) : AV Try.prog 32 #[.pointer (some ⟨g, 0, none⟩), .int .u64 x] [Av g bi bt bc es] (fun _ : Unit => .tuple #[.int .u64 a, .bool ok]) (fun _ => [Av g bi bt bc es]) := HM fun v sl f hR => E4 g bi bt bc es hI v sl f hR x hx a ok ht
theorem Vm (g : Nat) (bi bt bc : Int) (es : List EntD) (hI : InvL bi bt es) (x y : Int) (hx : 0 ≤ x ∧ x ≤ 18446744073709551615) (b : Bool) (hb : (decide (Ev bt es < y) || (decide (y = Ev bt es) && decide (bi + (es.length : Int) ≤ x))) = b) : AV Try.prog 12 #[.pointer (some ⟨g, 0, none⟩), .int .u64 x, .int .u64 y] [Av g bi bt bc es] (fun _ : Unit => .bool b) (fun _ => [Av g bi bt bc es]) := HM fun v sl f hR => R8 g bi bt bc es hI v sl f hR x y hx b hb
theorem Vn (g : Nat) (bi bt bc : Int) (es : List EntD) (hI : InvL bi bt es) (p q : Int) (hc : Ez (bc, bi) es = (p, q)) : AV Try.prog 43 #[.pointer (some ⟨g, 0, none⟩)] [Av g bi bt bc es] (fun _ : Unit => .tuple #[.int .i64 p, .int .u64 q]) (fun _ => [Av g bi bt bc es]) := HM fun v sl f hR => Sc g bi bt bc es hI v sl f hR p q hc
theorem J3 (g : Nat) (bi bt bc : Int) (es : List EntD) (hI : InvL bi bt es) (x most : Int) (hx : 0 ≤ x ∧ x ≤ 18446744073709551615) (hmo : -9223372036854775808 ≤ most ∧ most ≤ 9223372036854775807) (hes : es.length * 56 ≤ 140737488351232) (l : List EntD) (hl : Cf bi es x most = l) : AV Try.prog 26 #[.pointer (some ⟨g, 0, none⟩), .int .u64 x, .int .i64 most] [Av g bi bt bc es] (fun ev : Value => ev) (fun ev => [Av g bi bt bc es, BQ ev l]) :=
 Tv fun v sl f hR => P1 g bi bt bc es hI v sl f hR x most hx hmo hes l hl
theorem BQ.rd {v : Value} {l : List EntD} {w : World} {B : Nat → Prop} {w0 : World} {os : List Ass} (i : Nat) (hi : os[i]? = some (BQ v l)) (hH : Hp B w0 w os) : ∃ L : List EntV, L.map (·.e) = l ∧ Bj w v L := by
  obtain ⟨rs, ⟨L, hL, hr⟩, hR⟩ := hH.thing i hi
  exact ⟨L, hL, hr.rd hR⟩
theorem NS (w : World) (v v2 : Value) (l l2 : List EntD) (hv : ∃ L : List EntV, L.map (·.e) = l ∧ Bj w v L) (hv2 : ∃ L : List EntV, L.map (·.e) = l2 ∧ Bj w v2 L) (h : l = l2) (hle : l.length ≤ 9223372036854775807) : Calls Try.prog 25 #[v, v2] w fun e w' => e = .returned (.bool true) ∧ Below w.heap.size w w' := by
  obtain ⟨L, hL, hr⟩ := hv
  obtain ⟨M, hM, hr2⟩ := hv2
  exact Me w v v2 L M hr hr2 (by rw [hL, hM, h]) (by rw [← hL, List.length_map] at hle; exact hle)
theorem J4 (w : World) (a b1 c : Int) : Calls Try.prog 9 #[.int .u64 a, .int .u64 b1, .int .i64 c] w fun e w' => e = .returned (.agg #[.int .u64 a, .int .u64 b1, .int .i64 c]) ∧ Below w.heap.size w w' := by
 refine Fw (args := [.int .u64 a, .int .u64 b1, .int .i64 c]) 11 Try.func9 rfl rfl rfl (Af (Ag Ab rfl (Al (post := fun g6 => [cell g6 28 #[.int .u64 0, .int .u64 0, .int .i64 0]]) rfl (B4 FT rfl) ?_))); rintro g6
 refine Ae (Af (Ag Ab rfl (Ac rfl (.agg #[.int .u64 a, .int .u64 b1, .int .i64 c]) (fun b w hb hH => Bn rfl rfl (by kernel_rfl) hb) (A5 (post := fun _ => [cell g6 28 #[.int .u64 a, .int .u64 b1, .int .i64 c]]) rfl rfl (AP 0 (v := .agg #[.int .u64 a, .int .u64 b1, .int .i64 c]) #[.int .u64 a, .int .u64 b1, .int .i64 c] Au.2 rfl rfl rfl rfl rfl rfl rfl rfl rfl) ?_)))); rintro ⟨⟩
 refine Ae (Aw ?_)
 exact Ar (.cell 0 (v := .agg #[.int .u64 a, .int .u64 b1, .int .i64 c]) (Dd (cs := [.int .u64 a, .int .u64 b1, .int .i64 c]) Au rfl) rfl rfl) (fun w h => ⟨rfl, Aq h.up⟩) rfl
theorem Mu (u : World) (v : Value) (l : List EntV) (hv : Bj u v l) (hl : l.length * 56 ≤ 140737488351232) (hd : ∀ x, x ∈ l → x.e.d.length ≤ 140737488351232) (es : List EntD) (he : l.map (·.e) = es) : EJ u Try.prog 21 #[v] [] (fun (cv : Value) => cv) (fun (cv : Value) => [BQ cv es]) := by
  refine Nf (args := [v]) 5 Try.func21 rfl rfl rfl ?_; intro w rs hU hS
  refine Af (Ag Ab rfl (Ae (Af (Ag Ab rfl (Al (post := fun cv => [BQ cv es]) rfl (Tb hU hS (os' := fun cv => [BQ cv es]) [] 0 (Aj Try.func39 (by kernel_rfl) rfl) (Eu u v l hv hl hd es he) rfl rfl rfl (fun _ => rfl) rfl rfl rfl) ?_))))); rintro cv
  refine Ag Ab rfl (Ae (Aw ?_))
  exact Ar (.tmp rfl) (fun w h => AG cv rfl [0] rfl h CV) rfl
end Go.Proofs.Ytnebloeideodmaa.Sep
