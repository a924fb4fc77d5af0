/-
  RpcD · DskS · DskW
-/
import Derived.Test.YtjcfimmcogkopaaGreatDoorWX01
import Derived.Test.YtjcfimmcogkopaaGreatDoorWB02
import Derived.Test.YtjcfimmcogkopaaGreatDoorWB04
set_option linter.unusedSimpArgs false
set_option linter.unusedVariables false
set_option maxHeartbeats 4000000
set_option maxRecDepth 100000
namespace Go.Proofs.YtjcfimmcogkopaaGreatDoor.Sep
open Go.RowKit
open Go.Proofs.YtjcfimmcogkopaaGreatDoor.Mem (AG BC Chg Ak)
section
variable {P : Program} {ops : Array Oper} {Q : Exit → Act → World → Prop} {n : Nat} {env : List (Nat × Value)} {B : Nat → Prop} {w0 : World} {os : List Ass} {t : Ass}
theorem SC (h : t []) : ∀ rs, Ae os rs → ∃ _ : Unit, ∃ rs', rs.Perm rs' ∧ Ae (t :: os) rs' := fun rs hr => ⟨(), rs, .refl _, [], rs, rfl, h, hr⟩
theorem Hx (h0 : t []) {c : Code} (h : AH P Q n env B w0 (t :: os) c) : AH P Q n env B w0 os c := AH.via (fun _ : Unit => _) (SC h0) fun _ => h
theorem Ds {xs : List Ass} {p : Prop} (hp : p) {z : List RowT} (h : Ae xs z) : Ae (xs ++ [fact p]) z := by
 have := Ae.app h (show Ae [fact p] [] from ⟨[], [], rfl, ⟨rfl, hp⟩, rfl⟩)
 rwa [List.append_nil] at this
end
structure EsV where
  v : Value
  l : List EntV
theorem IS (u : World) (v : Value) (l : List UInt8) (hv : D1 u v l) (hl : l.length ≤ 140737488355328) (e : EntD) (en : Nat) (hD : Ed l = (e, en)) : DY u Tryz.prog 120 #[v] [] (fun (x : SlV) => .tuple #[.agg #[.int .i64 e.k, .int .u64 e.t, .int .u64 e.i, .slice x.A e.d.length x.c, .int .i64 e.c], .int .i64 (en : Int)]) (fun (x : SlV) => [Af 5 1 encB (.slice x.A e.d.length x.c) e.d]) := by
 obtain ⟨⟨n0, l0, f0⟩, h0⟩ : ∃ R, AU 2 l 0 = R := ⟨_, rfl⟩
 obtain ⟨⟨n1, l1, f1⟩, h1⟩ : ∃ R, B7 72057594037927935 l0 f0 = R := ⟨_, rfl⟩
 obtain ⟨⟨n2, l2, f2⟩, h2⟩ : ∃ R, B7 72057594037927935 l1 f1 = R := ⟨_, rfl⟩
 have hn0 := ON 2 l 0
 rw [h0] at hn0
 have hn0 : n0 ≤ 2 := hn0
 refine JY (args := [v]) 47 Tryz.func120 rfl rfl rfl ?_; intro w rs hU hS
 refine Al (Am Ac rfl (K5 ?_)); rintro g2
 refine Aq ?_
 by_cases h16 : 160 < l.length
 obtain ⟨rfl, rfl⟩ := EM (MV h16) hD
 refine Al (Am Ac rfl (Aa rfl (.int .i64 (l.length : Int)) (fun b w hb hH => AJ ((Ea hv hU hS hH).rd) Tryz.underlying49 rfl rfl hb) (AK ?_)))
 refine Bb 5 1 encB (Al (Am Ac rfl (Aa rfl (.agg #[.int .i64 0, .int .u64 0, .int .u64 0, .slice none 0 0, .int .i64 0]) (fun b w hb hH => AY rfl rfl (by kernel_rfl) hb) (AV ?_))))
 exact BJ (.cell 1 (v := .agg #[.int .i64 0, .int .u64 0, .int .u64 0, .slice none 0 0, .int .i64 0]) (Lj (cs := [.int .i64 0, .int .u64 0, .int .u64 0, .slice none 0 0, .int .i64 0]) Em rfl) rfl rfl) (.tmp rfl) (fun w h => As (⟨none, 0⟩) rfl [0] rfl h DK) rfl
 refine Al (Am Ac rfl (Aa rfl (.int .i64 (l.length : Int)) (fun b w hb hH => AJ ((Ea hv hU hS hH).rd) Tryz.underlying49 rfl rfl hb) (Ce ?_)))
 refine Am Ac rfl (YU hU hS [] (XB u v l hv hl) ?_); rintro g
 refine Aq ?_
 refine Am Ac rfl (K5 ?_); rintro g5
 refine Aq ?_
 refine Am Ac rfl (CE [1] (Rv g l 0 2 (by decide) (n0, l0, f0) h0) ?_)
 refine AV ?_
 refine Am Ac rfl (CE [1] (Ud g l0 f0 72057594037927935 (by decide) (n1, l1, f1) h1) ?_)
 refine AK ?_
 refine Am Ac rfl (CE [1] (Ud g l1 f1 72057594037927935 (by decide) (n2, l2, f2) h2) ?_)
 refine Dc ?_
 have hk : n0 = 1 ∨ n0 = 2 ∨ (n0 ≠ 1 ∧ n0 ≠ 2) := by omega
 rcases hk with hk | hk | ⟨hk, hk2⟩
 obtain ⟨⟨x, l3, f3⟩, ht⟩ : ∃ R, Cb 128 l2 f2 = R := ⟨_, rfl⟩
 have h3 : GH n0 l2 f2 = ((x, 0), l3, f3) := by rw [hk]; exact J4 ht
 have hread := Ha h0 h1 h2 h3
 refine BD ?_
 refine Am Ac rfl (GI [1] (VZ g l2 f2 128 (by decide) (x, l3, f3) ht) ?_); rintro v9
 refine A5.fact 0 rfl (fun _ h => Af.is h) ?_; rintro ⟨A9, c9, rfl⟩
 refine BD ?_
 by_cases hf : EZ l3 f3 = 0
 refine Al (Am Ac rfl (CE [2] (Ke g l3 f3 0 hf) ?_))
 refine Aq ?_
 refine Am Ac rfl (Aa rfl (.bool false) (fun b w hb hH => DS rfl rfl rfl (BF rfl) hb) (BD ?_))
 rcases Bool.eq_false_or_eq_true (Be (⟨(n0 : Int), (n1 : Int), (n2 : Int), x, ((0 : Nat) : Int)⟩ : EntD)) with hR | hR
 obtain ⟨rfl, rfl⟩ := EM (Fv h16 hread hf hR) hD
 refine Aq ?_
 refine FD (fun w hH => Dr w ⟨(⟨(n0 : Int), (n1 : Int), (n2 : Int), x, ((0 : Nat) : Int)⟩ : EntD), A9, c9⟩ (hH.sl8 0 rfl) true hR) ?_
 refine Kf ?_
 exact BJ (.cell 3 (v := .agg #[.int .i64 (n0 : Int), .int .u64 (n1 : Int), .int .u64 (n2 : Int), .slice A9 x.length c9, .int .i64 0]) (Lj (cs := [.int .i64 (n0 : Int), .int .u64 (n1 : Int), .int .u64 (n2 : Int), .slice A9 x.length c9, .int .i64 0]) Em rfl) rfl rfl) (.tmp rfl) (fun w h => As (⟨A9, c9⟩) rfl [0] rfl h DK) rfl
 obtain ⟨rfl, rfl⟩ := EM (Gs h16 hread hf hR) hD
 refine Aq ?_
 refine FD (fun w hH => Dr w ⟨(⟨(n0 : Int), (n1 : Int), (n2 : Int), x, ((0 : Nat) : Int)⟩ : EntD), A9, c9⟩ (hH.sl8 0 rfl) false hR) ?_
 refine Aq ?_
 refine Bb 5 1 encB (Al (Am Ac rfl (Aa rfl (.agg #[.int .i64 0, .int .u64 0, .int .u64 0, .slice none 0 0, .int .i64 0]) (fun b w hb hH => AY rfl rfl (by kernel_rfl) hb) (AV ?_))))
 exact BJ (.cell 4 (v := .agg #[.int .i64 0, .int .u64 0, .int .u64 0, .slice none 0 0, .int .i64 0]) (Lj (cs := [.int .i64 0, .int .u64 0, .int .u64 0, .slice none 0 0, .int .i64 0]) Em rfl) rfl rfl) (.tmp rfl) (fun w h => As (⟨none, 0⟩) rfl [0] rfl h DK) rfl
 obtain ⟨rfl, rfl⟩ := EM (Js h16 hread hf) hD
 refine Al (Am Ac rfl (CE [2] (Ke g l3 f3 (EZ l3 f3) rfl) ?_))
 refine BD ?_
 refine Bb 5 1 encB (Al (Am Ac rfl (Aa rfl (.agg #[.int .i64 0, .int .u64 0, .int .u64 0, .slice none 0 0, .int .i64 0]) (fun b w hb hH => AY rfl rfl (by kernel_rfl) hb) (AV ?_))))
 exact BJ (.cell 4 (v := .agg #[.int .i64 0, .int .u64 0, .int .u64 0, .slice none 0 0, .int .i64 0]) (Lj (cs := [.int .i64 0, .int .u64 0, .int .u64 0, .slice none 0 0, .int .i64 0]) Em rfl) rfl rfl) (.tmp rfl) (fun w h => As (⟨none, 0⟩) rfl [0] rfl h DK) rfl
 obtain ⟨⟨c0, l3, f3⟩, ht⟩ : ∃ R, AU 254 l2 f2 = R := ⟨_, rfl⟩
 have hc0 := ON 254 l2 f2
 rw [ht] at hc0
 have hc0 : c0 ≤ 254 := hc0
 have h3 : GH n0 l2 f2 = (([], c0), l3, f3) := by rw [hk]; exact J5 ht
 have hread := Ha h0 h1 h2 h3
 refine Kf ?_
 refine Am Ac rfl (CE [1] (Rv g l2 f2 254 (by decide) (c0, l3, f3) ht) ?_)
 refine Ce ?_
 by_cases hf : EZ l3 f3 = 0
 refine Al (Am Ac rfl (CE [1] (Ke g l3 f3 0 hf) ?_))
 refine Aq ?_
 refine Am Ac rfl (Aa rfl (.bool false) (fun b w hb hH => DS rfl rfl rfl (BF rfl) hb) (BD ?_))
 rcases Bool.eq_false_or_eq_true (Be (⟨(n0 : Int), (n1 : Int), (n2 : Int), [], (c0 : Int)⟩ : EntD)) with hR | hR
 obtain ⟨rfl, rfl⟩ := EM (Fv h16 hread hf hR) hD
 refine Aq ?_
 refine FD (fun w hH => Dr w ⟨(⟨(n0 : Int), (n1 : Int), (n2 : Int), [], (c0 : Int)⟩ : EntD), none, 0⟩ (Ia w) true hR) ?_
 refine AV ?_
 refine Bb 5 1 encB (BD ?_)
 exact BJ (.cell 3 (v := .agg #[.int .i64 (n0 : Int), .int .u64 (n1 : Int), .int .u64 (n2 : Int), .slice none 0 0, .int .i64 (c0 : Int)]) (Lj (cs := [.int .i64 (n0 : Int), .int .u64 (n1 : Int), .int .u64 (n2 : Int), .slice none 0 0, .int .i64 (c0 : Int)]) Em rfl) rfl rfl) (.tmp rfl) (fun w h => As (⟨none, 0⟩) rfl [0] rfl h DK) rfl
 obtain ⟨rfl, rfl⟩ := EM (Gs h16 hread hf hR) hD
 refine Aq ?_
 refine FD (fun w hH => Dr w ⟨(⟨(n0 : Int), (n1 : Int), (n2 : Int), [], (c0 : Int)⟩ : EntD), none, 0⟩ (Ia w) false hR) ?_
 refine Aq ?_
 refine Bb 5 1 encB (Al (Am Ac rfl (Aa rfl (.agg #[.int .i64 0, .int .u64 0, .int .u64 0, .slice none 0 0, .int .i64 0]) (fun b w hb hH => AY rfl rfl (by kernel_rfl) hb) (AV ?_))))
 exact BJ (.cell 3 (v := .agg #[.int .i64 0, .int .u64 0, .int .u64 0, .slice none 0 0, .int .i64 0]) (Lj (cs := [.int .i64 0, .int .u64 0, .int .u64 0, .slice none 0 0, .int .i64 0]) Em rfl) rfl rfl) (.tmp rfl) (fun w h => As (⟨none, 0⟩) rfl [0] rfl h DK) rfl
 obtain ⟨rfl, rfl⟩ := EM (Js h16 hread hf) hD
 refine Al (Am Ac rfl (CE [1] (Ke g l3 f3 (EZ l3 f3) rfl) ?_))
 refine BD ?_
 refine Bb 5 1 encB (Al (Am Ac rfl (Aa rfl (.agg #[.int .i64 0, .int .u64 0, .int .u64 0, .slice none 0 0, .int .i64 0]) (fun b w hb hH => AY rfl rfl (by kernel_rfl) hb) (AV ?_))))
 exact BJ (.cell 3 (v := .agg #[.int .i64 0, .int .u64 0, .int .u64 0, .slice none 0 0, .int .i64 0]) (Lj (cs := [.int .i64 0, .int .u64 0, .int .u64 0, .slice none 0 0, .int .i64 0]) Em rfl) rfl rfl) (.tmp rfl) (fun w h => As (⟨none, 0⟩) rfl [0] rfl h DK) rfl
 have h3 := IK l2 f2 hk hk2
 have hread := Ha h0 h1 h2 h3
 refine Ci ?_
 by_cases hf : EZ l2 f2 = 0
 refine Al (Am Ac rfl (CE [1] (Ke g l2 f2 0 hf) ?_))
 refine Aq ?_
 refine Am Ac rfl (Aa rfl (.bool false) (fun b w hb hH => DS rfl rfl rfl (BF rfl) hb) (BD ?_))
 rcases Bool.eq_false_or_eq_true (Be (⟨(n0 : Int), (n1 : Int), (n2 : Int), [], ((0 : Nat) : Int)⟩ : EntD)) with hR | hR
 obtain ⟨rfl, rfl⟩ := EM (Fv h16 hread hf hR) hD
 refine Aq ?_
 refine FD (fun w hH => Dr w ⟨(⟨(n0 : Int), (n1 : Int), (n2 : Int), [], ((0 : Nat) : Int)⟩ : EntD), none, 0⟩ (Ia w) true hR) ?_
 refine AV ?_
 refine Bb 5 1 encB (BD ?_)
 exact BJ (.cell 3 (v := .agg #[.int .i64 (n0 : Int), .int .u64 (n1 : Int), .int .u64 (n2 : Int), .slice none 0 0, .int .i64 0]) (Lj (cs := [.int .i64 (n0 : Int), .int .u64 (n1 : Int), .int .u64 (n2 : Int), .slice none 0 0, .int .i64 0]) Em rfl) rfl rfl) (.tmp rfl) (fun w h => As (⟨none, 0⟩) rfl [0] rfl h DK) rfl
 obtain ⟨rfl, rfl⟩ := EM (Gs h16 hread hf hR) hD
 refine Aq ?_
 refine FD (fun w hH => Dr w ⟨(⟨(n0 : Int), (n1 : Int), (n2 : Int), [], ((0 : Nat) : Int)⟩ : EntD), none, 0⟩ (Ia w) false hR) ?_
 refine Aq ?_
 refine Bb 5 1 encB (Al (Am Ac rfl (Aa rfl (.agg #[.int .i64 0, .int .u64 0, .int .u64 0, .slice none 0 0, .int .i64 0]) (fun b w hb hH => AY rfl rfl (by kernel_rfl) hb) (AV ?_))))
 exact BJ (.cell 3 (v := .agg #[.int .i64 0, .int .u64 0, .int .u64 0, .slice none 0 0, .int .i64 0]) (Lj (cs := [.int .i64 0, .int .u64 0, .int .u64 0, .slice none 0 0, .int .i64 0]) Em rfl) rfl rfl) (.tmp rfl) (fun w h => As (⟨none, 0⟩) rfl [0] rfl h DK) rfl
 obtain ⟨rfl, rfl⟩ := EM (Js h16 hread hf) hD
 refine Al (Am Ac rfl (CE [1] (Ke g l2 f2 (EZ l2 f2) rfl) ?_))
 refine BD ?_
 refine Bb 5 1 encB (Al (Am Ac rfl (Aa rfl (.agg #[.int .i64 0, .int .u64 0, .int .u64 0, .slice none 0 0, .int .i64 0]) (fun b w hb hH => AY rfl rfl (by kernel_rfl) hb) (AV ?_))))
 exact BJ (.cell 3 (v := .agg #[.int .i64 0, .int .u64 0, .int .u64 0, .slice none 0 0, .int .i64 0]) (Lj (cs := [.int .i64 0, .int .u64 0, .int .u64 0, .slice none 0 0, .int .i64 0]) Em rfl) rfl rfl) (.tmp rfl) (fun w h => As (⟨none, 0⟩) rfl [0] rfl h DK) rfl
theorem Qi (w : World) (x y : EntV) (hx : D1 w x.v x.e.d) (hy : D1 w y.v y.e.d) (h : x.e = y.e) : Calls Tryz.prog 73 #[.agg #[.int .i64 x.e.k, .int .u64 x.e.t, .int .u64 x.e.i, x.v, .int .i64 x.e.c], .agg #[.int .i64 y.e.k, .int .u64 y.e.t, .int .u64 y.e.i, y.v, .int .i64 y.e.c]] w fun e w' => e = .returned (.bool true) ∧ Below w.heap.size w w' := by
 refine FR (args := [.agg #[.int .i64 x.e.k, .int .u64 x.e.t, .int .u64 x.e.i, x.v, .int .i64 x.e.c], .agg #[.int .i64 y.e.k, .int .u64 y.e.t, .int .u64 y.e.i, y.v, .int .i64 y.e.c]]) 40 Tryz.func73 rfl rfl rfl (Al (Am Ac rfl (I5 ?_))); rintro gx
 refine I5 ?_; rintro gy
 refine AV ?_
 refine Aa rfl (.bool true) (fun b w hb hH => DS rfl rfl rfl (Vu (by rw [h])) hb) (Aq ?_)
 refine Aa rfl (.bool true) (fun b w hb hH => DS rfl rfl rfl (Vu (by rw [h])) hb) (Aq ?_)
 refine Aa rfl (.bool true) (fun b w hb hH => DS rfl rfl rfl (Vu (by rw [h])) hb) (Ai ?_)
 refine Aa rfl (.string (bs x.e.d)) (fun b w hb hH => J6 Tryz.underlying49 Tryz.underlying5 (by kernel_rfl) Tryz.underlying9 (Fw hx hH) rfl rfl hb) (Ai ?_)
 refine Aa rfl (.string (bs y.e.d)) (fun b w hb hH => J6 Tryz.underlying49 Tryz.underlying5 (by kernel_rfl) Tryz.underlying9 (Fw hy hH) rfl rfl hb) (Aa rfl (.bool true) (fun b w hb hH => MO rfl rfl rfl (by rw [h]; simp) hb) (Aq ?_))
 refine Aa rfl (.bool true) (fun b w hb hH => DS rfl rfl rfl (Vu (by rw [h])) hb) (Aq ?_)
 exact An (.tmp rfl) (fun w h => ⟨rfl, Ak h.up⟩) rfl
theorem LY (u : World) (v : Value) (l : List EntV) (hv : Cr u v l) (hl : l.length * 56 ≤ 140737488351232) (hd : ∀ x, x ∈ l → x.e.d.length ≤ 140737488351232) : DY u Tryz.prog 24 #[v] [] (fun (x : EsV) => x.v) (fun (x : EsV) => [B9 53 x.v x.l, fact (x.l.map (·.e) = l.map (·.e))]) := by
  refine JY (args := [v]) 29 Tryz.func24 rfl rfl rfl ?_; intro w rs hU hS
  refine Eh ?_
  refine Hx (t := B9 53 (.slice none 0 0) ([])) (MY) (BT (α := Nat × List EntV × Value) (fun ⟨i, L, ev⟩ => [(0, v), (2, .slice none 0 0), (3, ev), (4, .int .i64 ((i : Nat) : Int))]) (fun ⟨i, L, ev⟩ => [B9 53 ev L]) (fun ⟨i, L, ev⟩ => i ≤ l.length ∧ L.map (·.e) = (l.take i).map (·.e)) (fun ⟨i, L, ev⟩ => l.length - i) (0, [], .slice none 0 0) ⟨Nat.zero_le _, rfl⟩ ⟨rfl, rfl, rfl, rfl, trivial⟩ rfl ?_)
  rintro ⟨i, L, ev⟩ hI
  refine AH.at_ (env' := [(0, v), (2, .slice none 0 0), (3, ev), (4, .int .i64 ((i : Nat) : Int))]) (rs' := [B9 53 ev L]) ⟨rfl, rfl, rfl, rfl, trivial⟩ rfl ?_
  have hI1 : i ≤ l.length := hI.1
  have hI2 : L.map (·.e) = (l.take i).map (·.e) := hI.2
  have hLl : L.length = i := by have := congrArg List.length hI2; rw [List.length_map, List.length_map, List.length_take] at this; omega
  refine Bu ?_
  rcases Nat.lt_or_ge i l.length with hi | hi
  obtain ⟨x, hx⟩ : ∃ x, l[i]? = some x := ⟨_, List.getElem?_eq_getElem hi⟩
  have hm := List.mem_of_getElem? hx
  have hdx := hd x hm
  refine Al (Am Ac rfl (Aa rfl (.int .i64 (l.length : Int)) (fun b w hb hH => AJ ((C4 hv hU hS hH).1) Tryz.underlying39 rfl rfl hb) (Dc ?_)))
  refine oC 0 Cm ?_; rintro ⟨⟩
  refine Al (Am Ac rfl (Aa rfl (AN v (i * 5)) (fun b w hb hH => Dp Dy ((C4 hv hU hS hH).1) Av (j := i) hx rfl rfl rfl hb) (Aa rfl (.agg (encV x).toArray) (fun b w hb hH => CD Dy (by decide) ((C4 hv hU hS hH).1) (j := i) hx Em rfl rfl hb) (K5 ?_)))); rintro g5
  refine AK ?_
  refine Am Ac rfl ?_
  refine AQ (X := Value) (val := fun v : Value => v) (post := fun d0 => [Af 5 1 encB d0 ([]), cell g5 53 #[.int .i64 x.e.k, .int .u64 x.e.t, .int .u64 x.e.i, x.v, .int .i64 x.e.c], Af 53 5 encV ev L, AE (fun x : EntV => Af 5 1 encB x.v x.e.d) L]) rfl (by refine TN (e := 5) (t := 49) (k := 1) (enc := encB) ?_ ?_; exact AL; exact rfl) ?_; rintro d0
  refine Am Ac rfl (Aa rfl (AN v (i * 5)) (fun b w hb hH => Dp Dy ((C4 hv hU hS hH).1) Av (j := i) hx rfl rfl rfl hb) (Aa rfl (AN v (i * 5 + 3)) (fun b w hb hH => TR Dy (by decide) ((C4 hv hU hS hH).1) (j := i) hx Ee rfl rfl hb) (Aa rfl (x.v) (fun b w hb hH => De Dy (by decide) ((C4 hv hU hS hH).1) (j := i) hx GQ (off := 3) rfl rfl rfl hb) (AQ (post := fun d1 => [Af 5 1 encB d1 x.e.d, cell g5 53 #[.int .i64 x.e.k, .int .u64 x.e.t, .int .u64 x.e.i, x.v, .int .i64 x.e.c], Af 53 5 encV ev L, AE (fun x : EntV => Af 5 1 encB x.v x.e.d) L]) rfl (Fd 0 AL (by kernel_rfl) rfl (x.e.d) (fun w hH => (Ea (hv.2 x hm) hU hS hH).rd) (by simp only [List.length_nil]; omega) rfl rfl rfl (List.nil_append _)) ?_)))); rintro d1
  refine Am Ac rfl (Bt (post := fun _ => [Af 5 1 encB d1 x.e.d, cell g5 53 #[.int .i64 x.e.k, .int .u64 x.e.t, .int .u64 x.e.i, d1, .int .i64 x.e.c], Af 53 5 encV ev L, AE (fun x : EntV => Af 5 1 encB x.v x.e.d) L]) rfl rfl (D8 1 0 (v := d1) #[.int .i64 x.e.k, .int .u64 x.e.t, .int .u64 x.e.i, d1, .int .i64 x.e.c] GQ.2 rfl (fun _ h => Af.c1 h) rfl rfl rfl rfl rfl rfl rfl) ?_); rintro ⟨⟩
  refine Aw (AH.fact 0 rfl (fun _ h => Af.is h) ?_); rintro ⟨A3, c3, rfl⟩
  refine kC [0, 2, 3, 4, 6, 7, 8, 9, 12, 13, 14, 15, 5, 16, 17, 18, 19, 20, 21, 22, 23] ?_
  refine AH.mid [Af 5 1 encB (.slice A3 x.e.d.length c3) x.e.d, cell g5 53 #[.int .i64 x.e.k, .int .u64 x.e.t, .int .u64 x.e.i, .slice A3 x.e.d.length c3, .int .i64 x.e.c], Af 53 5 encV ev L, AE (fun x : EntV => Af 5 1 encB x.v x.e.d) L] (.refl _) (Aq ?_)
  refine AQ (X := Value) (val := fun v : Value => v) (post := fun u1 => [Af 53 5 encV u1 ([(⟨x.e, A3, c3⟩ : EntV)]), Af 5 1 encB (.slice A3 x.e.d.length c3) x.e.d, cell g5 53 #[.int .i64 x.e.k, .int .u64 x.e.t, .int .u64 x.e.i, .slice A3 x.e.d.length c3, .int .i64 x.e.c], Af 53 5 encV ev L, AE (fun x : EntV => Af 5 1 encB x.v x.e.d) L]) rfl (by refine CA (e := 53) (t := 39) (k := 5) (enc := encV) (x := .tmp 25) (c := .agg #[.int .i64 x.e.k, .int .u64 x.e.t, .int .u64 x.e.i, .slice A3 x.e.d.length c3, .int .i64 x.e.c]) ?_ ?_ ?_ (⟨x.e, A3, c3⟩ : EntV) ?_ ?_ ?_; exact Av; exact (by decide); exact Dy; exact rfl; exact rfl; exact rfl) ?_; rintro u1
  refine AQ (post := fun ev2 => [Af 53 5 encV u1 ([(⟨x.e, A3, c3⟩ : EntV)]), Af 5 1 encB (.slice A3 x.e.d.length c3) x.e.d, cell g5 53 #[.int .i64 x.e.k, .int .u64 x.e.t, .int .u64 x.e.i, .slice A3 x.e.d.length c3, .int .i64 x.e.c], Af 53 5 encV ev2 (L ++ [(⟨x.e, A3, c3⟩ : EntV)]), AE (fun x : EntV => Af 5 1 encB x.v x.e.d) L]) rfl (Ct (nb := 56) 3 Av Dy (by kernel_rfl) (by decide) rfl ([(⟨x.e, A3, c3⟩ : EntV)]) (fun w hH => hH.vec 0 rfl Dy) (by simp only [List.length_cons, List.length_nil]; omega) rfl rfl rfl rfl) ?_; rintro ev2
  refine AK ?_
  refine lC [0, 2] ?_
  refine cC [1, 2, 0] F2 ?_
  refine Dl (Am Ac rfl (Aa rfl (.int .i64 ((i + 1 : Nat) : Int)) (fun b w hb hH => Ay rfl rfl rfl rfl (by rw [IntWalk.i64_in _ (by omega)]; omega) hb) (Ai ?_)))
  exact Br (i + 1, L ++ [(⟨x.e, A3, c3⟩ : EntV)], ev2) 0 ⟨hi, by rw [List.map_append, hI2, List.take_add_one, hx, List.map_append]; rfl⟩ (show l.length - (i + 1) < l.length - i by omega) ⟨rfl, rfl, rfl, rfl, trivial⟩ rfl
  refine Al (Am Ac rfl (Aa rfl (.int .i64 (l.length : Int)) (fun b w hb hH => AJ ((C4 hv hU hS hH).1) Tryz.underlying39 rfl rfl hb) (AK ?_)))
  refine B2 (Dc ?_)
  exact An (.tmp rfl) (fun w h => As (⟨ev, L⟩ : EsV) rfl [0] rfl h (fun z hz => ⟨z, .refl _, Ds (xs := [_]) (show L.map (·.e) = l.map (·.e) by rw [hI2, List.take_of_length_le hi]) hz⟩)) rfl
end Go.Proofs.YtjcfimmcogkopaaGreatDoor.Sep
namespace Go.Proofs.YtjcfimmcogkopaaGreatDoor.Sep
open Go.RowKit
open Go.Proofs.YtjcfimmcogkopaaGreatDoor.Mem (AG BC Chg Ak)
end Go.Proofs.YtjcfimmcogkopaaGreatDoor.Sep
namespace Go.Proofs.YtjcfimmcogkopaaGreatDoor.Sep
open Go.RowKit
def OpD.size : OpD → Nat
  | .app _ b => b.length
  | _ => 0
def DiskD.fit (d : DiskD) : Prop := Az d.syn + (d.wait.map OpD.size).sum ≤ 1099511627776 ∧ d.wait.length ≤ 10000
def encKs (s : List UInt8) : List Value := [.string (bs s)]
end Go.Proofs.YtjcfimmcogkopaaGreatDoor.Sep
