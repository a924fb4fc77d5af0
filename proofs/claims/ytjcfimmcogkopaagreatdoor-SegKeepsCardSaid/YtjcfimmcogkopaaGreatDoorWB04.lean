/-
  RpcA · RpcB · RpcC · App · Bld
-/
import Derived.Test.YtjcfimmcogkopaaGreatDoorWX01
import Derived.Test.YtjcfimmcogkopaaGreatDoorWA05
import Derived.Test.YtjcfimmcogkopaaGreatDoorWB02
import Derived.Test.YtjcfimmcogkopaaGreatDoorWB03
set_option linter.unusedSimpArgs false
set_option linter.unusedVariables false
set_option maxHeartbeats 4000000
set_option maxRecDepth 100000
namespace Go.Proofs.YtjcfimmcogkopaaGreatDoor.Sep
open Go.RowKit
open Go.Proofs.YtjcfimmcogkopaaGreatDoor.Mem (AG BC Chg Ak)
def Qf (c : Int) : Bool := K3 c && c != 0
theorem Hw (w : World) (n : Int) (r : Bool) (hr : GP n = r) : Calls Tryz.prog 112 #[.int .u64 n] w fun e w' => e = .returned (.bool r) ∧ Below w.heap.size w w' := by
 refine FR (args := [.int .u64 n]) 9 Tryz.func112 rfl rfl rfl (Aq ?_)
 have hc : n < 1 ∨ (1 ≤ n ∧ n ≤ 72057594037927935) ∨ 72057594037927935 < n := by omega
 rcases hc with h1 | ⟨h1, h2⟩ | h1
 obtain rfl : r = false := by rw [← hr]; simp [GP]; omega
 refine AV ?_
 exact An (.tmp rfl) (fun w h => ⟨rfl, Ak h.up⟩) rfl
 obtain rfl : r = true := by rw [← hr]; simp [GP]; omega
 refine BD ?_
 exact An (.tmp rfl) (fun w h => ⟨rfl, Ak h.up⟩) rfl
 obtain rfl : r = false := by rw [← hr]; simp [GP]; omega
 refine BD ?_
 exact An (.tmp rfl) (fun w h => ⟨rfl, Ak h.up⟩) rfl
theorem KH (w : World) (c : Int) (r : Bool) (hr : Qf c = r) : Calls Tryz.prog 113 #[.int .i64 c] w fun e w' => e = .returned (.bool r) ∧ Below w.heap.size w w' := by
 refine FR (args := [.int .i64 c]) 14 Tryz.func113 rfl rfl rfl (Aq ?_)
 have hc : c < 1 ∨ (1 ≤ c ∧ c ≤ 254 ∧ c % 2 = 0) ∨ (1 ≤ c ∧ c ≤ 254 ∧ c % 2 ≠ 0) ∨ 254 < c := by omega
 rcases hc with h1 | ⟨h1, h2, h3⟩ | ⟨h1, h2, h3⟩ | h1
 obtain rfl : r = false := by rw [← hr]; simp [Qf, K3]; omega
 refine AV ?_
 exact An (.tmp rfl) (fun w h => ⟨rfl, Ak h.up⟩) rfl
 obtain rfl : r = true := by rw [← hr]; simp [Qf, K3]; omega
 refine AK ?_
 refine Am Ac rfl (Aa rfl (.int .i64 (c % 2)) (fun b w hb hH => F3 rfl rfl rfl (by decide) (Int.tmod_eq_emod_of_nonneg (by omega)) hb) (AK ?_))
 exact An (.tmp rfl) (fun w h => ⟨rfl, Ak h.up⟩) rfl
 obtain rfl : r = false := by rw [← hr]; simp [Qf, K3]; omega
 refine AK ?_
 refine Am Ac rfl (Aa rfl (.int .i64 (c % 2)) (fun b w hb hH => F3 rfl rfl rfl (by decide) (Int.tmod_eq_emod_of_nonneg (by omega)) hb) (AK ?_))
 exact An (.tmp rfl) (fun w h => ⟨rfl, Ak h.up⟩) rfl
 obtain rfl : r = false := by rw [← hr]; simp [Qf, K3]; omega
 refine BD ?_
 exact An (.tmp rfl) (fun w h => ⟨rfl, Ak h.up⟩) rfl
theorem Dr (w : World) (x : EntV) (hv : D1 w x.v x.e.d) (r : Bool) (hr : Be x.e = r) : Calls Tryz.prog 67 #[.agg #[.int .i64 x.e.k, .int .u64 x.e.t, .int .u64 x.e.i, x.v, .int .i64 x.e.c]] w fun e w' => e = .returned (.bool r) ∧ Below w.heap.size w w' := by
 obtain ⟨v1, hv1⟩ : ∃ v1, GP x.e.t = v1 := ⟨_, rfl⟩
 obtain ⟨v2, hv2⟩ : ∃ v2, GP x.e.i = v2 := ⟨_, rfl⟩
 obtain ⟨v3, hv3⟩ : ∃ v3, Fu x.e = v3 := ⟨_, rfl⟩
 have hR : (v1 && (v2 && v3)) = r := by rw [← hr]; unfold Be; rw [hv1, hv2, hv3]
 refine FR (args := [.agg #[.int .i64 x.e.k, .int .u64 x.e.t, .int .u64 x.e.i, x.v, .int .i64 x.e.c]]) 54 Tryz.func67 rfl rfl rfl (Al (Am Ac rfl (I5 ?_))); rintro gx
 refine Aq ?_
 cases v1
 obtain rfl : r = false := by rw [← hR]; rfl
 refine Aq ?_
 refine FD (fun w hH => Hw w x.e.t false hv1) ?_
 refine Ce ?_
 exact An (.tmp rfl) (fun w h => ⟨rfl, Ak h.up⟩) rfl
 cases v2
 obtain rfl : r = false := by rw [← hR]; rfl
 refine Aq ?_
 refine FD (fun w hH => Hw w x.e.t true hv1) ?_
 refine Ai ?_
 refine FD (fun w hH => Hw w x.e.i false hv2) ?_
 refine Ce ?_
 exact An (.tmp rfl) (fun w h => ⟨rfl, Ak h.up⟩) rfl
 refine Aq ?_
 refine FD (fun w hH => Hw w x.e.t true hv1) ?_
 refine Ai ?_
 refine FD (fun w hH => Hw w x.e.i true hv2) ?_
 refine Kf ?_
 have hk : x.e.k = 0 ∨ x.e.k = 1 ∨ x.e.k = 2 ∨ (x.e.k ≠ 0 ∧ x.e.k ≠ 1 ∧ x.e.k ≠ 2) := by omega
 rcases hk with hk | hk | hk | hk
 refine AV ?_
 by_cases hd : x.e.d.length = 0
 by_cases hc : x.e.c = 0
 obtain rfl : r = true := by rw [← hR, ← hv3]; simp [Fu, hk, hc, List.eq_nil_of_length_eq_zero hd]
 refine Aq ?_
 refine Aa rfl (.int .i64 (x.e.d.length : Int)) (fun b w hb hH => AJ ((Fw hv hH).rd) Tryz.underlying49 rfl rfl hb) (Dc ?_)
 exact An (.tmp rfl) (fun w h => ⟨rfl, Ak h.up⟩) rfl
 obtain rfl : r = false := by rw [← hR, ← hv3]; simp [Fu, hk, hc]
 refine Aq ?_
 refine Aa rfl (.int .i64 (x.e.d.length : Int)) (fun b w hb hH => AJ ((Fw hv hH).rd) Tryz.underlying49 rfl rfl hb) (Dc ?_)
 exact An (.tmp rfl) (fun w h => ⟨rfl, Ak h.up⟩) rfl
 have hd0 : (x.e.d == []) = false := by cases hx : x.e.d with | nil => rw [hx] at hd; exact absurd rfl hd | cons => rfl
 obtain rfl : r = false := by rw [← hR, ← hv3]; simp [Fu, hk, hd0]
 refine Aq ?_
 refine Aa rfl (.int .i64 (x.e.d.length : Int)) (fun b w hb hH => AJ ((Fw hv hH).rd) Tryz.underlying49 rfl rfl hb) (BD ?_)
 exact An (.tmp rfl) (fun w h => ⟨rfl, Ak h.up⟩) rfl
 refine Eh ?_
 have hd : x.e.d.length < 1 ∨ 128 < x.e.d.length ∨ (1 ≤ x.e.d.length ∧ x.e.d.length ≤ 128) := by omega
 rcases hd with hd | hd | ⟨hd, hd2⟩
 have hd0 : ¬ 1 ≤ x.e.d.length := by omega
 obtain rfl : r = false := by rw [← hR, ← hv3]; simp [Fu, hk, hd0]
 refine Aq ?_
 refine Aa rfl (.int .i64 (x.e.d.length : Int)) (fun b w hb hH => AJ ((Fw hv hH).rd) Tryz.underlying49 rfl rfl hb) (BD ?_)
 exact An (.tmp rfl) (fun w h => ⟨rfl, Ak h.up⟩) rfl
 have hd0 : ¬ x.e.d.length ≤ 128 := by omega
 obtain rfl : r = false := by rw [← hR, ← hv3]; simp [Fu, hk, hd0]
 refine Aq ?_
 refine Aa rfl (.int .i64 (x.e.d.length : Int)) (fun b w hb hH => AJ ((Fw hv hH).rd) Tryz.underlying49 rfl rfl hb) (Aq ?_)
 refine Aa rfl (.int .i64 (x.e.d.length : Int)) (fun b w hb hH => AJ ((Fw hv hH).rd) Tryz.underlying49 rfl rfl hb) (BD ?_)
 exact An (.tmp rfl) (fun w h => ⟨rfl, Ak h.up⟩) rfl
 by_cases hc : x.e.c = 0
 obtain rfl : r = true := by rw [← hR, ← hv3]; simp [Fu, hk, hc, hd, hd2]
 refine Aq ?_
 refine Aa rfl (.int .i64 (x.e.d.length : Int)) (fun b w hb hH => AJ ((Fw hv hH).rd) Tryz.underlying49 rfl rfl hb) (Aq ?_)
 refine Aa rfl (.int .i64 (x.e.d.length : Int)) (fun b w hb hH => AJ ((Fw hv hH).rd) Tryz.underlying49 rfl rfl hb) (Dc ?_)
 exact An (.tmp rfl) (fun w h => ⟨rfl, Ak h.up⟩) rfl
 obtain rfl : r = false := by rw [← hR, ← hv3]; simp [Fu, hk, hc]
 refine Aq ?_
 refine Aa rfl (.int .i64 (x.e.d.length : Int)) (fun b w hb hH => AJ ((Fw hv hH).rd) Tryz.underlying49 rfl rfl hb) (Aq ?_)
 refine Aa rfl (.int .i64 (x.e.d.length : Int)) (fun b w hb hH => AJ ((Fw hv hH).rd) Tryz.underlying49 rfl rfl hb) (Dc ?_)
 exact An (.tmp rfl) (fun w h => ⟨rfl, Ak h.up⟩) rfl
 refine Ci ?_
 by_cases hd : x.e.d.length = 0
 rcases Bool.eq_false_or_eq_true (Qf x.e.c) with hs | hs
 have hs2 := hs
 unfold Qf at hs2
 simp only [Bool.and_eq_true, bne_iff_ne, ne_eq] at hs2
 obtain rfl : r = true := by rw [← hR, ← hv3]; simp [Fu, hk, hs2.1, hs2.2, List.eq_nil_of_length_eq_zero hd]
 refine Aq ?_
 refine Aa rfl (.int .i64 (x.e.d.length : Int)) (fun b w hb hH => AJ ((Fw hv hH).rd) Tryz.underlying49 rfl rfl hb) (Aq ?_)
 refine FD (fun w hH => KH w x.e.c true hs) ?_
 refine AV ?_
 exact An (.tmp rfl) (fun w h => ⟨rfl, Ak h.up⟩) rfl
 have hs2 : (K3 x.e.c && x.e.c != 0) = false := hs
 obtain rfl : r = false := by rw [← hR, ← hv3]; simp only [Fu, hk, Bool.and_assoc, hs2]; simp
 refine Aq ?_
 refine Aa rfl (.int .i64 (x.e.d.length : Int)) (fun b w hb hH => AJ ((Fw hv hH).rd) Tryz.underlying49 rfl rfl hb) (Aq ?_)
 refine FD (fun w hH => KH w x.e.c false hs) ?_
 refine AV ?_
 exact An (.tmp rfl) (fun w h => ⟨rfl, Ak h.up⟩) rfl
 have hd0 : (x.e.d == []) = false := by cases hx : x.e.d with | nil => rw [hx] at hd; exact absurd rfl hd | cons => rfl
 obtain rfl : r = false := by rw [← hR, ← hv3]; simp [Fu, hk, hd0]
 refine Aq ?_
 refine Aa rfl (.int .i64 (x.e.d.length : Int)) (fun b w hb hH => AJ ((Fw hv hH).rd) Tryz.underlying49 rfl rfl hb) (BD ?_)
 exact An (.tmp rfl) (fun w h => ⟨rfl, Ak h.up⟩) rfl
 obtain rfl : r = false := by rw [← hR, ← hv3]; simp [Fu, hk]
 refine Al (Am Ac rfl (Aa rfl (.bool false) (fun b w hb hH => DS rfl rfl rfl (Xq hk.1) hb) (AK ?_)))
 refine Am Ac rfl (Aa rfl (.bool false) (fun b w hb hH => DS rfl rfl rfl (Xq hk.2.1) hb) (AK ?_))
 refine Am Ac rfl (Aa rfl (.bool false) (fun b w hb hH => DS rfl rfl rfl (Xq hk.2.2) hb) (Eh ?_))
 exact An (.tmp rfl) (fun w h => ⟨rfl, Ak h.up⟩) rfl
end Go.Proofs.YtjcfimmcogkopaaGreatDoor.Sep
namespace Go.Proofs.YtjcfimmcogkopaaGreatDoor.Sep
variable {A : Option Addr} {f most n sz : Nat} {l : List UInt8}
open Go.RowKit
open Go.Proofs.YtjcfimmcogkopaaGreatDoor.Mem (AG BC Chg Ak)
theorem Le {w : World} {c : Nat} (h : D1 w (.slice A n c) l) : l.length ≤ c := by
 obtain ⟨A', c', e, hb⟩ := h
 simp only [Value.slice.injEq] at e
 obtain ⟨rfl, _, rfl⟩ := e
 exact hb.1
theorem El.mid {X : Ass} {c i j : Nat} (h : El X (.slice A l.length c) l) (hij : i ≤ j) (hj : j ≤ l.length) : El X (.slice (if c = i then A else A.map (·.add i)) (j - i) (c - i)) ((l.take j).drop i) := fun rs w h1 h2 => by
  have h3 := (h rs w h1 h2).takes hj
  have hl : (l.take j).length = j := by rw [List.length_take]; omega
  have h4 := h3.drop (k := i) (by omega)
  rw [List.length_drop, hl] at h4
  exact h4
theorem Jx {c i j : Nat} : BN 1 (.slice A n c) i j = .slice (if c = i then A else A.map (·.add i)) (j - i) (c - i) := by
  show Value.slice (if c = i then A else A.map (·.add (i * 1))) (j - i) (c - i) = _
  rw [Nat.mul_one]
theorem OQ {e : Nat} (hf : f = 0) (hv : By most l 0 0 = (n, sz, e)) (he : e ≠ 0) : Cb (most : Int) l f = ([], l, e) := by
 unfold Cb
 rw [if_neg (by simp [hf]), Int.toNat_natCast, hv, if_pos he]
theorem OR (hf : f = 0) (hv : By most l 0 0 = (n, sz, 0)) (hn : l.length - sz < n) : Cb (most : Int) l f = ([], l, 10) := by
 unfold Cb
 rw [if_neg (by simp [hf]), Int.toNat_natCast, hv, if_neg (by simp), if_pos hn]
theorem Qg (hf : f = 0) (hv : By most l 0 0 = (n, sz, 0)) (hn : ¬ l.length - sz < n) : Cb (most : Int) l f = ((l.drop sz).take n, l.drop (sz + n), f) := by
 unfold Cb
 rw [if_neg (by simp [hf]), Int.toNat_natCast, hv, if_neg (by simp), if_neg hn, hf]
theorem VX {w : World} {c : Nat} (h : D1 w (.slice A l.length c) l) (hl : l.length ≤ 140737488355328) (most : Nat) (hm : most < 18446744073709551616) (n sz e : Nat) (hv : By most l 0 0 = (n, sz, e)) : Calls Tryz.prog 173 #[.slice A l.length c, .int .u64 (most : Int)] w fun x w' => x = .returned (.tuple #[.int .u64 (n : Int), .int .i64 (sz : Int), .int .i64 (e : Int)]) ∧ Below w.heap.size w w' := Rp h hl most hm (n, sz, e) hv
theorem VY (most : Nat) (l : List UInt8) : (By most l 0 0).1 ≤ most := by
  rcases H3 most l 0 0 (by omega) (by decide) with ⟨_, _, _, h, _⟩ | ⟨h, _⟩
  · exact h
  · rw [h]; exact Nat.zero_le _
theorem VZ (g : Nat) (l : List UInt8) (f most : Nat) (hm : most ≤ 9223372036854775807) (R : List UInt8 × List UInt8 × Nat) (h : Cb (most : Int) l f = R) : AA Tryz.prog 150 #[.pointer (some ⟨g, 0, none⟩), .int .i64 (most : Int)] [IJ g l f] (fun (v : Value) => v) (fun (v : Value) => [IJ g R.2.1 R.2.2, Af 5 1 encB v R.1]) := by
  refine AP (args := [.pointer (some ⟨g, 0, none⟩), .int .i64 (most : Int)]) 68 Tryz.func150 rfl rfl rfl ?_; intro w rs
  refine oC 0 IJ.open_ ?_; rintro ⟨⟨X, A, c⟩, hR, hL⟩
  refine kC [0, 1] ?_
  refine AH.mid [cell g 221 #[.slice A l.length c, .int .i64 (f : Int)], X] (.refl _) (AK ?_)
  by_cases hf : f = 0
  have hz := Ru most l
  have hle := VY most l
  obtain ⟨⟨n, sz, e2⟩, hv⟩ : ∃ R, By most l 0 0 = R := ⟨_, rfl⟩
  rw [hv] at hz hle
  simp only at hz hle
  refine M2 ?_
  refine Am Ac rfl (Aa rfl (.int .i64 (most : Int)) (fun b w hb hH => B0 rfl rfl (fun cs => (fun w cs => Oh (by rw [if_neg (by omega)]) _ _ w cs) w cs) hb) (Ai ?_))
  refine FD (fun w hH => VX (hH.rd8 1 rfl hR) hL most (by omega) n sz e2 hv) ?_
  refine Aq ?_
  by_cases he : e2 = 0
  subst he
  refine Dc ?_
  by_cases hn : l.length - sz < n
  obtain rfl : R = ([], l, 10) := h.symm.trans (OR hf hv hn)
  refine AV ?_
  refine Aa rfl (.int .i64 (l.length : Int)) (fun b w hb hH => ES AL rfl rfl hH hb) (Eh ?_)
  refine cC [0, 1] (IJ.mk_ rfl hR hL) ?_
  refine Bb 5 1 encB (AV ?_)
  exact An (.tmp rfl) (fun w h => As (.slice none 0 0) rfl [1, 0] rfl h DK) rfl
  obtain ⟨A2, hA2⟩ : ∃ A2, (if c = (sz + n) then A else A.map (·.add (sz + n))) = A2 := ⟨_, rfl⟩
  obtain ⟨l2, hl2⟩ : ∃ l2, l.drop (sz + n) = l2 := ⟨_, rfl⟩
  have hR2 : El X (.slice A2 l2.length (c - (sz + n))) l2 := by rw [← hA2, ← hl2]; exact hR.drop (by omega)
  have hn2 : l2.length = l.length - (sz + n) := by rw [← hl2, List.length_drop]
  have hL2 : l2.length ≤ 140737488355328 := by omega
  have hsub : BN 1 (.slice A l.length c) (sz + n) l.length = .slice A2 l2.length (c - (sz + n)) := by rw [← hA2]; exact LB (by omega) (by omega)
  obtain ⟨A3, hA3⟩ : ∃ A3, (if c = sz then A else A.map (·.add sz)) = A3 := ⟨_, rfl⟩
  obtain ⟨l3, hl3⟩ : ∃ l3, (l.take (sz + n)).drop sz = l3 := ⟨_, rfl⟩
  have hR3 : El X (.slice A3 (sz + n - sz) (c - sz)) l3 := by rw [← hA3, ← hl3]; exact hR.mid (by omega) (by omega)
  have hsub3 : BN 1 (.slice A l.length c) sz (sz + n) = .slice A3 (sz + n - sz) (c - sz) := by rw [← hA3]; exact Jx
  have hl4 : (l.drop sz).take n = l3 := by rw [← hl3, List.drop_take, Nat.add_sub_cancel_left]
  have hl5 : l3.length ≤ 140737488355328 := by rw [← hl4, List.length_take, List.length_drop]; omega
  obtain rfl : R = (l3, l2, f) := by rw [← h, ← hl4, ← hl2]; exact Qg hf hv hn
  refine AV ?_
  refine Aa rfl (.int .i64 (l.length : Int)) (fun b w hb hH => ES AL rfl rfl hH hb) (Eh ?_)
  refine Aa rfl (.int .i64 ((sz + n : Nat) : Int)) (fun b w hb hH => Ay rfl rfl rfl rfl (by rw [IntWalk.i64_in _ (by omega)]; omega) hb) (AV ?_)
  refine Am Ac rfl (Aa rfl (.slice A3 (sz + n - sz) (c - sz)) (fun b w hb hH => Yd (i := sz) (j := (sz + n)) AL hsub3 (by omega) (Nat.le_trans (by omega) (Le (A := A) (n := l.length) (c := c) (hH.rd8 1 rfl hR))) rfl rfl rfl rfl hH hb) (GI [1] (Ft hR3 hl5) ?_)); rintro v9
  refine Ai ?_
  refine kC [0, 4, 8, 9] ?_
  refine AK ?_
  refine Am Ac rfl (Aa rfl (.slice A2 l2.length (c - (sz + n))) (fun b w hb hH => Fp (i := (sz + n)) AL hsub (by omega) rfl rfl rfl hH hb) (AK ?_))
  refine cC [1, 2] (IJ.mk_ rfl hR2 hL2) ?_
  refine AK ?_
  exact An (.tmp rfl) (fun w h => As v9 rfl [0, 1] rfl h DK) rfl
  obtain rfl : R = ([], l, e2) := h.symm.trans (OQ hf hv he)
  refine Eh ?_
  refine cC [0, 1] (IJ.mk_ rfl hR hL) ?_
  refine Bb 5 1 encB (AV ?_)
  exact An (.tmp rfl) (fun w h => As (.slice none 0 0) rfl [1, 0] rfl h DK) rfl
  obtain rfl : R = ([], l, f) := h.symm.trans (OC hf)
  refine Ce ?_
  refine cC [0, 1] (IJ.mk_ rfl hR hL) ?_
  refine Bb 5 1 encB (AV ?_)
  exact An (.tmp rfl) (fun w h => As (.slice none 0 0) rfl [1, 0] rfl h DK) rfl
end Go.Proofs.YtjcfimmcogkopaaGreatDoor.Sep
namespace Go.Proofs.YtjcfimmcogkopaaGreatDoor.Sep
variable {e : EntD}
open Go.RowKit
open Go.Proofs.YtjcfimmcogkopaaGreatDoor.Mem (AG BC Chg Ak)
structure SlV where
  A : Option Addr
  c : Nat
theorem EM {l : List UInt8} {e' : EntD} {n n' : Nat} (h : Ed l = (e', n')) (hD : Ed l = (e, n)) : e' = e ∧ n' = n := by
 have := h.symm.trans hD
 simpa using this
theorem SA (h : e.k = 0) : BR e = [UInt8.ofNat e.k.toNat] ++ FZ e.t ++ FZ e.i := by
 unfold BR Ec
 rw [if_neg (by omega), if_neg (by omega)]
 simp
theorem Uh (h : e.k = 1) : BR e = [UInt8.ofNat e.k.toNat] ++ FZ e.t ++ FZ e.i ++ P4 e.d := by
 unfold BR Ec
 rw [if_pos h]
 simp
theorem SB (h : e.k = 2) : BR e = [UInt8.ofNat e.k.toNat] ++ FZ e.t ++ FZ e.i ++ [UInt8.ofNat e.c.toNat] := by
 unfold BR Ec
 rw [if_neg (by omega), if_pos h]
 simp
theorem Kg (u : World) (x : EntV) (hv : D1 u x.v x.e.d) (hr : Be x.e = true) : DY u Tryz.prog 114 #[.agg #[.int .i64 x.e.k, .int .u64 x.e.t, .int .u64 x.e.i, x.v, .int .i64 x.e.c]] [] (fun (v : Value) => .tuple #[v, .int .i64 0]) (fun (v : Value) => [Af 5 1 encB v (BR x.e)]) := by
 obtain ⟨ht, hi, hk⟩ := EB hr
 have ht1 := H7 ht.2
 have hi1 := H7 hi.2
 obtain ⟨L0, hL0⟩ : ∃ L0, [UInt8.ofNat x.e.k.toNat] = L0 := ⟨_, rfl⟩
 obtain ⟨L1, hL1⟩ : ∃ L1, L0 ++ FZ x.e.t = L1 := ⟨_, rfl⟩
 obtain ⟨L2, hL2⟩ : ∃ L2, L1 ++ FZ x.e.i = L2 := ⟨_, rfl⟩
 obtain ⟨L3, hL3⟩ : ∃ L3, BR x.e = L3 := ⟨_, rfl⟩
 have n0 : L0.length = 1 := by rw [← hL0]; rfl
 have n1 : L1.length ≤ 9 := by rw [← hL1, List.length_append]; omega
 have n2 : L2.length ≤ 17 := by rw [← hL2, List.length_append]; omega
 have n3 : L3.length ≤ 147 := by rw [← hL3]; exact Dq hr
 refine JY (args := [.agg #[.int .i64 x.e.k, .int .u64 x.e.t, .int .u64 x.e.i, x.v, .int .i64 x.e.c]]) 39 Tryz.func114 rfl rfl rfl ?_; intro w rs hU hS
 refine Al (Am Ac rfl (I5 ?_)); rintro gx
 refine AV ?_
 refine FD (fun w hH => Dr w x (Ea hv hU hS hH) true hr) ?_
 refine BD ?_
 refine Am Ac rfl (GI [] (Xw) ?_); rintro g
 refine AV ?_
 refine CE [0] (Rj g ([]) x.e.k (by omega) L0 (by rw [← hL0]; rfl) (by simp)) ?_
 refine AK ?_
 refine CE [0] (TX g L0 x.e.t ⟨by omega, by omega⟩ L1 hL1 (by omega)) ?_
 refine AK ?_
 refine CE [0] (TX g L1 x.e.i ⟨by omega, by omega⟩ L2 hL2 (by omega)) ?_
 refine Ce ?_
 rcases hk with ⟨hk, hd, hc⟩ | ⟨hk, hd, hd2, hc⟩ | ⟨hk, hd, hc, hc2, hc3⟩
 obtain rfl : L2 = L3 := by rw [← hL3, SA hk, ← hL2, ← hL1, ← hL0]
 refine Ci ?_
 refine Am Ac rfl (GI [0] (LC g L2 (by omega)) ?_); rintro v
 refine Aq ?_
 exact BJ (.tmp rfl) (.tmp rfl) (fun w h => As v rfl [0] rfl h (fun z hz => ⟨z, .refl _, by rw [hL3]; exact hz⟩)) rfl
 refine Ce ?_
 refine YU hU hS [0] (Ue hv g L2 L3 (by rw [← hL3, Uh hk, ← hL2, ← hL1, ← hL0]) (by omega)) ?_; rintro ⟨⟩
 refine AV ?_
 refine Am Ac rfl (GI [0] (LC g L3 (by omega)) ?_); rintro v
 refine Aq ?_
 exact BJ (.tmp rfl) (.tmp rfl) (fun w h => As v rfl [0] rfl h (fun z hz => ⟨z, .refl _, by rw [hL3]; exact hz⟩)) rfl
 refine M2 ?_
 refine CE [0] (Rj g L2 x.e.c (by omega) L3 (by rw [← hL3, SB hk, ← hL2, ← hL1, ← hL0]) (by omega)) ?_
 refine AV ?_
 refine Am Ac rfl (GI [0] (LC g L3 (by omega)) ?_); rintro v
 refine Aq ?_
 exact BJ (.tmp rfl) (.tmp rfl) (fun w h => As v rfl [0] rfl h (fun z hz => ⟨z, .refl _, by rw [hL3]; exact hz⟩)) rfl
end Go.Proofs.YtjcfimmcogkopaaGreatDoor.Sep
namespace Go.Proofs.YtjcfimmcogkopaaGreatDoor.Sep
variable {nb : Nat}
open Go.RowKit
open Go.Proofs.YtjcfimmcogkopaaGreatDoor.Mem (AG BC Chg)
section
variable {P : Program} {t e ty : TypeId} {k : Nat} {α : Type} {enc : α → List Value} {v u : Value} {l m : List α} {w w' : World} {rs : List RowT}
theorem OS (hT : SliceT P t e k) (hb : (P.info? e).map (fun i => i.bytes) = some nb) (hb1 : 1 ≤ nb) (he : EncOf k enc) (h : Af e k enc v l rs) (hr : RowsOf w rs) (hd : AG rs) (hu : Dh w k u m.length (flat enc m)) (hlen : (l.length + m.length) * nb ≤ 140737488355328) :
    ∃ v' w', (Builtin.append_ #[t, t] ty #[v, u]).run P w = .ok v' w' ∧ ∃ rs', Af e k enc v' (l ++ m) rs' ∧ Chg w w' rs rs' := by
  obtain ⟨i, z, hi, hz, hk, hby, hzs, _⟩ := hT.inf
  have hbn : i.bytes = nb := by simpa [hi] using hb
  have hl1 : l.length + m.length ≤ 140737488355328 := Nat.le_trans (Nat.le_mul_of_pos_right _ hb1) hlen
  obtain ⟨hul, A, c, rfl, hA⟩ := hu
  have hu1 := Lr he m
  rcases hA with ⟨rfl, hm⟩ | ⟨a, rfl, hcells⟩
  · have hm' : m = [] := List.length_eq_zero_iff.1 hm
    subst hm'
    refine ⟨v, w, ?_, rs, by simpa using h, ⟨Mod.refl _ _, hr, hd, fun x hx _ => ⟨x, hx, rfl⟩⟩⟩
    rcases h with ⟨h1, h2, h3⟩ | ⟨g, c', cs, h1, h2, h3, h4, h5, h6⟩
    · subst h1
      simp [Builtin.append_, run_underlying hT.ht, sizeOf, typeInfo, hi, Builtin.lenOf, Builtin.firstCells]
    · subst h1
      simp [Builtin.append_, run_underlying hT.ht, sizeOf, typeInfo, hi, Builtin.lenOf, Builtin.firstCells, h2, storeCells]
  · have hown : w.ownsRow 0 e k v l.length (flat enc l) := by
      refine ⟨Dn he l, ?_⟩
      rcases h with ⟨h1, h2, h3⟩ | ⟨g, c', cs, h1, h2, h3, h4, h5, h6⟩
      · exact .inl ⟨h1, by rw [h2]; rfl⟩
      · subst h6
        exact .inr ⟨g, c', cs, h1, Nat.zero_le _, hr.1, h2, h3, h4, h5⟩
    obtain ⟨v', w', hrun, h2, h3, _, h5⟩ := run_append_own_at (P := P) w 0 t ty e i z k i.bytes hT.ht hi hz hk rfl hzs hT.pos v l.length (flat enc l) hown a m.length c (flat enc m) hul hcells hu1 (by unfold maxLen; omega)
      (by rw [hbn]; omega) (Nat.zero_le _)
    refine ⟨v', w', hrun, ?_⟩
    have hm : Mod (At v) w w' := Mod.of_grown h3 (fun k hk => hk)
    have hmB : Mod (BC rs) w w' := hm.weaken fun j _ hj => by
      rcases h with ⟨h1, _, _⟩ | ⟨g, c', cs, h1, _, _, _, _, h6⟩
      · subst h1; unfold At at hj; simp [Value.ownBlock] at hj
      · subst h1; subst h6
        unfold At at hj
        simp [Value.ownBlock] at hj
        exact ⟨(g, EO e, cs), by simp, hj⟩
    rcases h2.2 with ⟨h1, hn⟩ | ⟨g, c', cs, h1, _, hrow, hle, hmx, hsz, htk⟩
    · have : l ++ m = [] := List.length_eq_zero_iff.1 (by rw [List.length_append]; exact hn)
      exact ⟨[], .inl ⟨h1, this, rfl⟩, ⟨hmB, trivial, trivial, fun x hx => by simp at hx⟩⟩
    · refine ⟨[(g, EO e, cs)], .inr ⟨g, c', cs, by rw [h1, List.length_append], by rw [List.length_append]; exact hle, hmx, hsz, by rw [List.length_append, G4]; exact htk, rfl⟩, ⟨hmB, ⟨hrow, trivial⟩, ⟨(fun _ h => by cases h), trivial⟩, fun x hx hlt => ?_⟩⟩
      have : x = (g, EO e, cs) := by simpa using hx
      subst this
      rcases h5 with h5 | h5
      · subst h1
        rcases h with ⟨h1, _, _⟩ | ⟨g', c'', cs', h1, _, _, _, _, h6⟩
        · subst h1; simp [Value.ownBlock] at h5
        · subst h1; subst h6
          simp [Value.ownBlock] at h5
          exact ⟨(g', EO e, cs'), by simp, h5.symm⟩
      · subst h1
        simp [Value.ownBlock] at h5
        exact absurd hlt (by show ¬ g < w.heap.size; omega)
variable {Q : Exit → Act → World → Prop} {n : Nat} {B : Nat → Prop} {w0 : World} {os : List Ass} {env : List (Nat × Value)} {o : Oper}
theorem Ct (i : Nat) (hT : SliceT P t e k) (he : EncOf k enc) (hb : (P.info? e).map (fun i => i.bytes) = some nb) (hb1 : 1 ≤ nb) (hi : os[i]? = some (Af e k enc v l)) (m : List α) (hu : ∀ w, Hp B w0 w os → Dh w k u m.length (flat enc m)) (hlen : (l.length + m.length) * nb ≤ 140737488355328) {x y : Operand} (ho : o.op = .call { callee := .builtin .append, args := #[x, y], argTypes := #[t, t] }) (hx : evs env x = some v) (hy : evs env y = some u) {r : List α} (hr : l ++ m = r) :
  AR P Q n env B w0 os o (fun v : Value => v) (fun v' => os.set i (Af e k enc v' r)) := fun act w hH hF K hK => by
 subst hr
 have hH' := hH
 obtain ⟨rs0, hp, hm⟩ := hH
 obtain ⟨a, z, b, e1, hz, hbb⟩ := hp.at_ hi
 subst e1
 have p : (a ++ (z ++ b)).Perm (z ++ (a ++ b)) := by rw [← List.append_assoc, ← List.append_assoc]; exact List.perm_append_comm.append_right b
 have h5 := Cz hm p
 have hd := AT.1 h5.apart
 rw [List.map_append] at hd
 obtain ⟨v', w', hr, y', hy', hc⟩ := OS (P := P) (ty := o.type) hT hb hb1 he hz (AZ.2 fun z hz => h5.rows.mem z (by simp [hz])) (AT.2 (List.nodup_append.1 hd).1) (hu w hH') hlen
 have p' : (y' ++ (a ++ b)).Perm (a ++ (y' ++ b)) := by rw [← List.append_assoc, ← List.append_assoc]; exact List.perm_append_comm.append_right b
 refine Fm (w0 := w) act (FM ho (vs := [v, u]) (by simp [evl, hx, hy]) (fun cs => ?_) hF) (hK v' w' ⟨_, hbb _ y' hy', Cz (Fl h5 hc) p'⟩)
 simp only [builtin, Sem.run_bind, Sem.run_pure, Result.andThen_ok, hr]
end
end Go.Proofs.YtjcfimmcogkopaaGreatDoor.Sep
namespace Go.Proofs.YtjcfimmcogkopaaGreatDoor.Sep
open Go.RowKit
open Go.Proofs.YtjcfimmcogkopaaGreatDoor.Mem (AG BC Chg)
theorem LX : ∀ (ys : List Value) (n : Nat) (cs : Array Value), n + ys.length ≤ cs.size →
    ((ys.zipIdx n).foldl (fun (cs : Array Value) (p : Value × Nat) => cs.setIfInBounds p.2 p.1) cs).toList = cs.toList.take n ++ ys ++ cs.toList.drop (n + ys.length)
  | [], n, cs, _ => by simp
  | y :: ys, n, cs, h => by
    have hl : (y :: ys).length = ys.length + 1 := rfl
    have hn : n < cs.toList.length := by rw [Array.length_toList]; omega
    rw [List.zipIdx_cons, List.foldl_cons, LX ys (n + 1) _ (by rw [Array.size_setIfInBounds]; omega), Array.toList_setIfInBounds]
    have e1 : (cs.toList.set n y).take (n + 1) = cs.toList.take n ++ [y] := by
      rw [List.set_eq_take_append_cons_drop, if_pos hn, List.take_append, List.length_take, Nat.min_eq_left (by omega), List.take_of_length_le (by rw [List.length_take]; omega), show n + 1 - n = 1 by omega]
      rfl
    have e2 : (cs.toList.set n y).drop (n + 1 + ys.length) = cs.toList.drop (n + (ys.length + 1)) := by
      rw [List.drop_set, if_pos (by omega)]
      congr 1
      omega
    rw [e1, e2, hl]
    simp
variable {P : Program} {Q : Exit → Act → World → Prop} {n : Nat} {B : Nat → Prop} {w0 : World} {os : List Ass} {env : List (Nat × Value)} {o : Oper}
variable {t e : TypeId} {k : Nat} {α : Type} {enc : α → List Value}
theorem Ui {v : Value} {cells : Array Value} (h : v.cells.size = cells.size) (hk : v.cells.size = k) : Instr.fill (fun i => some (i * k, k)) cells [(0, v)] = some v.cells := by
 have h1 : ¬ ((v.cells.size ≠ k || 0 * k + v.cells.size > cells.size) = true) := by simp [hk]; omega
 have h2 : (v.cells.zipIdx.foldl (fun (cs : Array Value) (p : Value × Nat) => cs.setIfInBounds (0 * k + p.2) p.1) cells) = v.cells := by
  have hf : (fun (cs : Array Value) (p : Value × Nat) => cs.setIfInBounds (0 * k + p.2) p.1) = fun cs p => cs.setIfInBounds p.2 p.1 := by
   funext cs p
   rw [Nat.zero_mul, Nat.zero_add]
  rw [hf, ← Array.foldl_toList, Array.toList_zipIdx]
  apply Array.toList_inj.1
  rw [LX _ 0 _ (by rw [Array.length_toList]; omega), Array.length_toList]
  simp [h]
 unfold Instr.fill
 simp only
 rw [if_neg h1]
 exact congrArg some h2
theorem Qh (hT : SliceT P t e k) (hk : k ≤ 4096) {x : Value} (hx : x.cells.size = k) (w : World) : (Instr.buildSlice t 1 #[(0, x)]).run P w = .ok (.slice (some ⟨w.heap.size, 0, none⟩) 1 1) (w.alloc (.cells x.cells e)) := by
 obtain ⟨inf, z, hinf, hz, hsz, _, hzs, _⟩ := hT.inf
 have hp := hT.pos
 have hf : Instr.fill (fun i => some (i * k, k)) ((Array.range k).map (fun j => z.cells[j % z.cells.size]!)) [(0, x)] = some x.cells := Ui (by simp [hx]) hx
 have h1 : ¬ 1 * k > 2 ^ 24 := by omega
 have h2 : ¬ 1 * k = 0 := by omega
 simp only [Instr.buildSlice, run_underlying hT.ht, hT.sizeOf, Sem.run_bind, Sem.run_pure, Result.andThen_ok, if_neg h1, if_neg h2, zeroValue, typeInfo, hinf, hz]
 simp [newRow, zeroValue, typeInfo, hinf, hz, h1, h2]
 rw [hf]
 simp
theorem CA (hT : SliceT P t e k) (hk : k ≤ 4096) (he : EncOf k enc) {x : Operand} {c : Value} (a : α) (hc : c.cells.toList = enc a) (ho : o.op = .buildSlice t 1 #[(0, x)]) (hx : evs env x = some c) : AR P Q n env B w0 os o (fun v : Value => v) (fun v => Af e k enc v [a] :: os) := fun b w hH hF K hK => by
 have hsz : c.cells.size = k := by rw [← he.len a, ← hc, Array.length_toList]
 have hrun : (execOp b.eval o).run P w = .ok (.value (.slice (some ⟨w.heap.size, 0, none⟩) 1 1)) (w.alloc (.cells c.cells e)) := by
  unfold execOp
  simp [ho, hF.evs hx, Sem.run_bind, Qh hT hk hsz]
 refine Fm (w0 := w) b hrun (hK _ _ ?_)
 have := hH.new e c.cells
 obtain ⟨rs, ⟨r1, r2, e1, h1, h2⟩, h3⟩ := this
 unfold cell at h1
 exact ⟨rs, ⟨r1, r2, e1, .inr ⟨w.heap.size, 1, c.cells, rfl, Nat.le_refl _, by unfold maxLen; omega, by simp [hsz], by rw [hc]; simp only [flat, List.flatMap_cons, List.flatMap_nil, List.append_nil, List.length_cons, List.length_nil, Nat.zero_add, Nat.one_mul]; exact List.take_of_length_le (by rw [he.len]; exact Nat.le_refl _), h1⟩, h2⟩, h3⟩
end Go.Proofs.YtjcfimmcogkopaaGreatDoor.Sep
