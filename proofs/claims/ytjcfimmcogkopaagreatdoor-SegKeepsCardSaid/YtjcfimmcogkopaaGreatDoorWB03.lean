/-
  CmdR · CmdL · CmdO · CmdP · CmdQ · CmdE · CmdF · CmdG · CmdN · CmdI · Crc · Sum · Seal · RefSum · RefText · Reader · Mk · RpcM · RpcN · RpcF
-/
import Derived.Test.YtjcfimmcogkopaaGreatDoorWA06
import Derived.Test.YtjcfimmcogkopaaGreatDoorWA07
import Derived.Test.YtjcfimmcogkopaaGreatDoorWB01
import Derived.Test.YtjcfimmcogkopaaGreatDoorWB02
import Derived.Lib.SmallJoins
import Derived.ChangeMaps5
import Derived.SizedLaws
import Derived.Deep.QuietTactic
import Derived.BigQuiet
import Derived.Deep.RegionHeld3
set_option linter.unusedSimpArgs false
set_option linter.unusedVariables false
set_option maxRecDepth 100000
namespace Go.Proofs.YtjcfimmcogkopaaGreatDoor.Sep
variable {f most : Nat} {l : List UInt8} {x : UInt8}
open Go.RowKit
open Go.Proofs.YtjcfimmcogkopaaGreatDoor.Mem (AG BC Chg Ak)
theorem Qa (h : f ≠ 0) : AU most l f = (0, l, f) := OA h
theorem Sx (hf : f = 0) (h : l.length = 0) : AU most l f = (0, l, 10) := by
 subst hf
 rw [List.eq_nil_of_length_eq_zero h]; rfl
theorem Sy (hf : f = 0) (hx : l[0]? = some x) (h : most < x.toNat) : AU most l f = (0, l, 12) := by
  subst hf
  cases l with
  | nil => simp at hx
  | cons b r =>
    simp only [List.getElem?_cons_zero, Option.some.injEq] at hx
    subst hx
    simp only [AU]
    rw [if_neg (by simp), if_pos h]
theorem Qb (hf : f = 0) (hx : l[0]? = some x) (h : ¬ most < x.toNat) : AU most l f = (x.toNat, l.drop 1, f) := by
  subst hf
  cases l with
  | nil => simp at hx
  | cons b r =>
    simp only [List.getElem?_cons_zero, Option.some.injEq] at hx
    subst hx
    simp only [AU]
    rw [if_neg (by simp), if_neg h]; rfl
theorem Ru (most : Nat) (l : List UInt8) : (By most l 0 0).2.1 ≤ l.length := by
 rcases H3 most l 0 0 (by omega) (by decide) with h | h <;> omega
section
variable {P : Program} {n : Nat} {B : Nat → Prop} {w0 w : World} {os : List Ass} {env : List (Nat × Value)} {o : Oper} {a : Act}
end
theorem XB (u : World) (v : Value) (l : List UInt8) (hv : D1 u v l) (hl : l.length ≤ 140737488355328) : DY u Tryz.prog 147 #[v] [] (fun (g : Nat) => .pointer (some ⟨g, 0, none⟩)) (fun (g : Nat) => [IJ g l 0]) := by
 refine JY (args := [v]) 7 Tryz.func147 rfl rfl rfl ?_; intro w rs hU hS
 refine Al (Am Ac rfl (Aw (Al (Am Ac rfl (AQ (post := fun v2 => [Af 5 1 encB v2 l]) rfl (Ra hU hS (os' := fun v2 => [Af 5 1 encB v2 l]) [] 0 (Ah Tryz.func78 (by kernel_rfl) rfl) (VM u hv hl) rfl rfl rfl (fun _ => rfl) rfl rfl rfl) ?_))))); rintro v2
 refine A5.fact 0 rfl (fun _ h => Af.is h) ?_; rintro ⟨A, c, rfl⟩
 refine Aa rfl (.agg #[.slice A l.length c, .int .i64 0]) (fun b w hb hH => AY rfl rfl (by kernel_rfl) hb) (AQ (post := fun g1 => [cell g1 221 #[.slice A l.length c, .int .i64 0], Af 5 1 encB (.slice A l.length c) l]) rfl (TJ (cs := #[.slice A l.length c, .int .i64 0]) rfl rfl rfl) ?_); rintro g1
 refine Am Ac rfl (Aw (D3 ?_))
 exact An (.tmp rfl) (fun w h => As g1 rfl [0, 1] rfl h (fun z hz => ⟨z, .refl _, Ae.one (IJ.mk_ rfl Dx hl z hz)⟩)) rfl
theorem Rv (g : Nat) (l : List UInt8) (f most : Nat) (hm : most < 256) (R : Nat × List UInt8 × Nat) (h : AU most l f = R) : AA Tryz.prog 148 #[.pointer (some ⟨g, 0, none⟩), .int .u8 (most : Int)] [IJ g l f] (fun (_ : Unit) => .int .u8 (R.1 : Int)) (fun (_ : Unit) => [IJ g R.2.1 R.2.2]) := by
  refine AP (args := [.pointer (some ⟨g, 0, none⟩), .int .u8 (most : Int)]) 41 Tryz.func148 rfl rfl rfl ?_; intro w rs
  refine FT 0 rfl IJ.open_ (fun _ => rfl) ?_; rintro ⟨⟨X, A, c⟩, hR, hL⟩
  refine AH.keep (env' := [(0, .pointer (some ⟨g, 0, none⟩)), (1, .int .u8 (most : Int))]) ⟨rfl, rfl, trivial⟩ (AH.mid [cell g 221 #[.slice A l.length c, .int .i64 (f : Int)], X] (.refl _) (Al (Am Ac rfl (Aw (Bu ?_)))))
  by_cases hf : f = 0
  refine Al (Am Ac rfl (Aa rfl (.pointer (some ⟨g, 0, none⟩)) (fun b w hb hH => by exact Ir rfl rfl hb) (Am Ac rfl (Aa rfl (.int .i64 (f : Int)) (fun b w hb hH => GN rfl rfl (JO Bx rfl) (hH.row 0 rfl) hb) (Aa rfl (.bool false) (fun b w hb hH => DS rfl rfl rfl (BF (by omega)) hb) (Aw (CK rfl (CL (Eu (Bu ?_))))))))))
  rcases Nat.eq_zero_or_pos l.length with h0 | h0
  obtain rfl : R = (0, l, 10) := h.symm.trans (Sx hf h0)
  refine Al (Am Ac rfl (Aa rfl (.pointer (some ⟨g, 0, none⟩)) (fun b w hb hH => by exact Ir rfl rfl hb) (Am Ac rfl (Aa rfl (.slice A l.length c) (fun b w hb hH => GN rfl rfl (JO GQ rfl) (hH.row 0 rfl) hb) (Aa rfl (.int .i64 (l.length : Int)) (fun b w hb hH => ES AL rfl rfl hH hb) (Aa rfl (.bool true) (fun b w hb hH => DS rfl rfl rfl (Vu (by omega)) hb) (Aw (Et rfl (Al (Am Ac rfl (Aa rfl (.pointer (some ⟨g, 0, none⟩)) (fun b w hb hH => by exact Ir rfl rfl hb) ?_)))))))))))
  refine Am Ac rfl (Bt (post := fun _ => [cell g 221 #[.slice A l.length c, .int .i64 10], X]) rfl rfl (CW 0 (v := .int .i64 10) #[.slice A l.length c, .int .i64 10] Bx.2 rfl rfl rfl rfl rfl rfl rfl rfl rfl) ?_); rintro ⟨⟩
  refine Aw (Al (Am Ac rfl (Aw (D3 (VD ?_)))))
  exact An (.tmp rfl) (fun w h => As () rfl [0, 1] rfl h (fun z hz => ⟨z, .refl _, Ae.one (IJ.mk_ rfl hR hL z hz)⟩)) rfl
  obtain ⟨x, hx⟩ : ∃ x, l[0]? = some x := ⟨_, List.getElem?_eq_getElem h0⟩
  refine Al (Am Ac rfl (Aa rfl (.pointer (some ⟨g, 0, none⟩)) (fun b w hb hH => by exact Ir rfl rfl hb) (Am Ac rfl (Aa rfl (.slice A l.length c) (fun b w hb hH => GN rfl rfl (JO GQ rfl) (hH.row 0 rfl) hb) (Aa rfl (.int .i64 (l.length : Int)) (fun b w hb hH => ES AL rfl rfl hH hb) (Aa rfl (.bool false) (fun b w hb hH => DS rfl rfl rfl (Xq (by omega)) hb) (Aw (CK rfl (CL (Eu (Al (Am Ac rfl (Aa rfl (.pointer (some ⟨g, 0, none⟩)) (fun b w hb hH => by exact Ir rfl rfl hb) ?_)))))))))))))
  refine Am Ac rfl (Aa rfl (.slice A l.length c) (fun b w hb hH => GN rfl rfl (JO GQ rfl) (hH.row 0 rfl) hb) (Aa rfl (TP (.slice A l.length c) (0 * 1)) (fun b w hb hH => Xr 1 hR.rd AL rfl 0 h0 rfl rfl rfl hH hb) (Aa rfl (.int .u8 ((x).toNat : Int)) (fun b w hb hH => TQ 1 hR.rd C5 Ou rfl 0 (a := x) hx rfl rfl rfl hH hb) (Am Ac rfl (Aw (Bu ?_))))))
  by_cases hb : most < x.toNat
  obtain rfl : R = (0, l, 12) := h.symm.trans (Sy hf hx hb)
  refine Al (Am Ac rfl (Aa rfl (.bool true) (fun b w hb hH => DS rfl rfl rfl (DW (by omega)) hb) (Aw (Et rfl (Al (Am Ac rfl (Aa rfl (.pointer (some ⟨g, 0, none⟩)) (fun b w hb hH => by exact Ir rfl rfl hb) (Am Ac rfl (Bt (post := fun _ => [cell g 221 #[.slice A l.length c, .int .i64 12], X]) rfl rfl (CW 0 (v := .int .i64 12) #[.slice A l.length c, .int .i64 12] Bx.2 rfl rfl rfl rfl rfl rfl rfl rfl rfl) ?_))))))))); rintro ⟨⟩
  refine Aw (Al (Am Ac rfl (Aw (D3 (VD ?_)))))
  exact An (.tmp rfl) (fun w h => As () rfl [0, 1] rfl h (fun z hz => ⟨z, .refl _, Ae.one (IJ.mk_ rfl hR hL z hz)⟩)) rfl
  obtain ⟨A2, hA2⟩ : ∃ A2, (if c = 1 then A else A.map (·.add 1)) = A2 := ⟨_, rfl⟩
  obtain ⟨l2, hl2⟩ : ∃ l2, l.drop 1 = l2 := ⟨_, rfl⟩
  have hR2 : El X (.slice A2 l2.length (c - 1)) l2 := by rw [← hA2, ← hl2]; exact hR.drop (by omega)
  have hn2 : l2.length = l.length - 1 := by rw [← hl2, List.length_drop]
  have hL2 : l2.length ≤ 140737488355328 := by omega
  have hsub : BN 1 (.slice A l.length c) 1 l.length = .slice A2 l2.length (c - 1) := by rw [← hA2]; exact LB (by omega) (by omega)
  obtain rfl : R = (x.toNat, l2, f) := by rw [← h, ← hl2]; exact Qb hf hx hb
  refine Al (Am Ac rfl (Aa rfl (.bool false) (fun b w hb hH => DS rfl rfl rfl (DX (by omega)) hb) (Aw (CK rfl (CL (Eu (Al (Am Ac rfl (Aa rfl (.pointer (some ⟨g, 0, none⟩)) (fun b w hb hH => by exact Ir rfl rfl hb) (Am Ac rfl (Aa rfl (.slice A l.length c) (fun b w hb hH => GN rfl rfl (JO GQ rfl) (hH.row 0 rfl) hb) (Aa rfl (.slice A2 l2.length (c - 1)) (fun b w hb hH => Fp (i := 1) AL hsub h0 rfl rfl rfl hH hb) (Aa rfl (.pointer (some ⟨g, 0, none⟩)) (fun b w hb hH => by exact Ir rfl rfl hb) ?_)))))))))))))
  refine Am Ac rfl (Bt (post := fun _ => [cell g 221 #[.slice A2 l2.length (c - 1), .int .i64 (f : Int)], X]) rfl rfl (CW 0 (v := .slice A2 l2.length (c - 1)) #[.slice A2 l2.length (c - 1), .int .i64 (f : Int)] GQ.2 rfl rfl rfl rfl rfl rfl rfl rfl rfl) ?_); rintro ⟨⟩
  refine Aw (Al (Am Ac rfl (Aw (D3 ?_))))
  exact An (.tmp rfl) (fun w h => As () rfl [0, 1] rfl h (fun z hz => ⟨z, .refl _, Ae.one (IJ.mk_ rfl hR2 hL2 z hz)⟩)) rfl
  obtain rfl : R = (0, l, f) := h.symm.trans (Qa hf)
  refine Al (Am Ac rfl (Aa rfl (.pointer (some ⟨g, 0, none⟩)) (fun b w hb hH => by exact Ir rfl rfl hb) (Am Ac rfl (Aa rfl (.int .i64 (f : Int)) (fun b w hb hH => GN rfl rfl (JO Bx rfl) (hH.row 0 rfl) hb) (Aa rfl (.bool true) (fun b w hb hH => DS rfl rfl rfl (JX (by omega)) hb) (Aw (Et rfl (Al (Am Ac rfl (Aw (D3 (VD ?_))))))))))))
  exact An (.tmp rfl) (fun w h => As () rfl [0, 1] rfl h (fun z hz => ⟨z, .refl _, Ae.one (IJ.mk_ rfl hR hL z hz)⟩)) rfl
theorem Ud (g : Nat) (l : List UInt8) (f most : Nat) (hm : most < 18446744073709551616) (R : Nat × List UInt8 × Nat) (h : B7 most l f = R) : AA Tryz.prog 149 #[.pointer (some ⟨g, 0, none⟩), .int .u64 (most : Int)] [IJ g l f] (fun (_ : Unit) => .int .u64 (R.1 : Int)) (fun (_ : Unit) => [IJ g R.2.1 R.2.2]) := by
  refine AP (args := [.pointer (some ⟨g, 0, none⟩), .int .u64 (most : Int)]) 37 Tryz.func149 rfl rfl rfl ?_; intro w rs
  refine FT 0 rfl IJ.open_ (fun _ => rfl) ?_; rintro ⟨⟨X, A, c⟩, hR, hL⟩
  refine AH.keep (env' := [(0, .pointer (some ⟨g, 0, none⟩)), (1, .int .u64 (most : Int))]) ⟨rfl, rfl, trivial⟩ (AH.mid [cell g 221 #[.slice A l.length c, .int .i64 (f : Int)], X] (.refl _) (Al (Am Ac rfl (Aw (Bu ?_)))))
  by_cases hf : f = 0
  have hz := Ru most l
  obtain ⟨⟨n, sz, e2⟩, hv⟩ : ∃ R, By most l 0 0 = R := ⟨_, rfl⟩
  rw [hv] at hz
  simp only at hz
  obtain ⟨A2, hA2⟩ : ∃ A2, (if c = sz then A else A.map (·.add sz)) = A2 := ⟨_, rfl⟩
  obtain ⟨l2, hl2⟩ : ∃ l2, l.drop sz = l2 := ⟨_, rfl⟩
  have hR2 : El X (.slice A2 l2.length (c - sz)) l2 := by rw [← hA2, ← hl2]; exact hR.drop (by omega)
  have hn2 : l2.length = l.length - sz := by rw [← hl2, List.length_drop]
  have hL2 : l2.length ≤ 140737488355328 := by omega
  have hsub : BN 1 (.slice A l.length c) sz l.length = .slice A2 l2.length (c - sz) := by rw [← hA2]; exact LB (by omega) (by omega)
  obtain rfl : R = (n, l2, e2) := by rw [← h, ← hl2]; unfold B7; rw [if_neg (by simp [hf]), hv]
  refine Al (Am Ac rfl (Aa rfl (.pointer (some ⟨g, 0, none⟩)) (fun b w hb hH => by exact Ir rfl rfl hb) (Am Ac rfl (Aa rfl (.int .i64 (f : Int)) (fun b w hb hH => GN rfl rfl (JO Bx rfl) (hH.row 0 rfl) hb) (Aa rfl (.bool false) (fun b w hb hH => DS rfl rfl rfl (BF (by omega)) hb) (Aw (CK rfl (CL (Eu (Al (Am Ac rfl (Aa rfl (.pointer (some ⟨g, 0, none⟩)) (fun b w hb hH => by exact Ir rfl rfl hb) (Am Ac rfl ?_)))))))))))))
  refine Aa rfl (.slice A l.length c) (fun b w hb hH => GN rfl rfl (JO GQ rfl) (hH.row 0 rfl) hb) (Am Ac rfl (AQ (post := fun _ => [cell g 221 #[.slice A l.length c, .int .i64 (f : Int)], X]) rfl (Da (Ah Tryz.func173 (by kernel_rfl) rfl) (fun w hH => Rp (hH.rd8 1 rfl hR) hL most hm (n, sz, e2) hv) rfl rfl rfl) ?_)); rintro ⟨⟩
  refine Am Ac rfl (Aw (Al (Am Ac rfl (Aa rfl (.pointer (some ⟨g, 0, none⟩)) (fun b w hb hH => by exact Ir rfl rfl hb) (Am Ac rfl (Bt (post := fun _ => [cell g 221 #[.slice A l.length c, .int .i64 (e2 : Int)], X]) rfl rfl (CW 0 (v := .int .i64 (e2 : Int)) #[.slice A l.length c, .int .i64 (e2 : Int)] Bx.2 rfl rfl rfl rfl rfl rfl rfl rfl rfl) ?_)))))); rintro ⟨⟩
  refine Aw (Al (Am Ac rfl (Aa rfl (.pointer (some ⟨g, 0, none⟩)) (fun b w hb hH => by exact Ir rfl rfl hb) (Am Ac rfl (Aa rfl (.slice A l.length c) (fun b w hb hH => GN rfl rfl (JO GQ rfl) (hH.row 0 rfl) hb) (Am Ac rfl (Aa rfl (.slice A2 l2.length (c - sz)) (fun b w hb hH => Fp (i := sz) AL hsub hz rfl rfl rfl hH hb) (Aa rfl (.pointer (some ⟨g, 0, none⟩)) (fun b w hb hH => by exact Ir rfl rfl hb) (Am Ac rfl (Bt (post := fun _ => [cell g 221 #[.slice A2 l2.length (c - sz), .int .i64 (e2 : Int)], X]) rfl rfl (CW 0 (v := .slice A2 l2.length (c - sz)) #[.slice A2 l2.length (c - sz), .int .i64 (e2 : Int)] GQ.2 rfl rfl rfl rfl rfl rfl rfl rfl rfl) ?_)))))))))); rintro ⟨⟩
  refine Aw (Al (Am Ac rfl (Aw (D3 ?_))))
  exact An (.tmp rfl) (fun w h => As () rfl [0, 1] rfl h (fun z hz => ⟨z, .refl _, Ae.one (IJ.mk_ rfl hR2 hL2 z hz)⟩)) rfl
  obtain rfl : R = (0, l, f) := h.symm.trans (PZ hf)
  refine Al (Am Ac rfl (Aa rfl (.pointer (some ⟨g, 0, none⟩)) (fun b w hb hH => by exact Ir rfl rfl hb) (Am Ac rfl (Aa rfl (.int .i64 (f : Int)) (fun b w hb hH => GN rfl rfl (JO Bx rfl) (hH.row 0 rfl) hb) (Aa rfl (.bool true) (fun b w hb hH => DS rfl rfl rfl (JX (by omega)) hb) (Aw (Et rfl (Al (Am Ac rfl (Aw (D3 (VD ?_))))))))))))
  exact An (.tmp rfl) (fun w h => As () rfl [0, 1] rfl h (fun z hz => ⟨z, .refl _, Ae.one (IJ.mk_ rfl hR hL z hz)⟩)) rfl
theorem Ke (g : Nat) (l : List UInt8) (f r : Nat) (h : EZ l f = r) : AA Tryz.prog 151 #[.pointer (some ⟨g, 0, none⟩)] [IJ g l f] (fun (_ : Unit) => .int .i64 (r : Int)) (fun (_ : Unit) => [IJ g l f]) := by
 refine AP (args := [.pointer (some ⟨g, 0, none⟩)]) 20 Tryz.func151 rfl rfl rfl ?_; intro w rs
 refine FT 0 rfl IJ.open_ (fun _ => rfl) ?_; rintro ⟨⟨X, A, c⟩, hR, hL⟩
 refine AH.keep (env' := [(0, .pointer (some ⟨g, 0, none⟩))]) ⟨rfl, trivial⟩ (AH.mid [cell g 221 #[.slice A l.length c, .int .i64 (f : Int)], X] (.refl _) (Al (Am Ac rfl (Aw (Bu ?_)))))
 have hc : (f = 0 ∧ 0 < l.length) ∨ (f = 0 ∧ ¬ 0 < l.length) ∨ f ≠ 0 := by omega
 rcases hc with ⟨hf, h0⟩ | ⟨hf, h0⟩ | hf
 obtain rfl : r = 11 := by rw [← h]; unfold EZ; rw [if_pos ⟨hf, h0⟩]
 refine Al (Am Ac rfl (Aa rfl (.pointer (some ⟨g, 0, none⟩)) (fun b w hb hH => by exact Ir rfl rfl hb) (Am Ac rfl (Aa rfl (.int .i64 (f : Int)) (fun b w hb hH => GN rfl rfl (JO Bx rfl) (hH.row 0 rfl) hb) (Aa rfl (.bool true) (fun b w hb hH => DS rfl rfl rfl (Vu (by omega)) hb) (Am Ac rfl (Aa rfl (.pointer (some ⟨g, 0, none⟩)) (fun b w hb hH => by exact Ir rfl rfl hb) (Am Ac rfl (Aa rfl (.slice A l.length c) (fun b w hb hH => GN rfl rfl (JO GQ rfl) (hH.row 0 rfl) hb) ?_)))))))))
 refine Aa rfl (.int .i64 (l.length : Int)) (fun b w hb hH => ES AL rfl rfl hH hb) (Aa rfl (.bool true) (fun b w hb hH => DS rfl rfl rfl (DW (by omega)) hb) (Am Ac rfl (Aw (Et rfl (Al (Am Ac rfl (Aw (D3 (VD ?_)))))))))
 exact An (.tmp rfl) (fun w h => As () rfl [0, 1] rfl h (fun z hz => ⟨z, .refl _, Ae.one (IJ.mk_ rfl hR hL z hz)⟩)) rfl
 have hr : r = f := by rw [← h]; unfold EZ; rw [if_neg (fun hh => h0 hh.2)]
 refine Al (Am Ac rfl (Aa rfl (.pointer (some ⟨g, 0, none⟩)) (fun b w hb hH => by exact Ir rfl rfl hb) (Am Ac rfl (Aa rfl (.int .i64 (f : Int)) (fun b w hb hH => GN rfl rfl (JO Bx rfl) (hH.row 0 rfl) hb) (Aa rfl (.bool true) (fun b w hb hH => DS rfl rfl rfl (Vu (by omega)) hb) (Am Ac rfl (Aa rfl (.pointer (some ⟨g, 0, none⟩)) (fun b w hb hH => by exact Ir rfl rfl hb) (Am Ac rfl (Aa rfl (.slice A l.length c) (fun b w hb hH => GN rfl rfl (JO GQ rfl) (hH.row 0 rfl) hb) ?_)))))))))
 refine Aa rfl (.int .i64 (l.length : Int)) (fun b w hb hH => ES AL rfl rfl hH hb) (Aa rfl (.bool false) (fun b w hb hH => DS rfl rfl rfl (DX (by omega)) hb) (Am Ac rfl (Aw (CK rfl (CL (Eu (Al (Am Ac rfl (Aa rfl (.pointer (some ⟨g, 0, none⟩)) (fun b w hb hH => by exact Ir rfl rfl hb) (Am Ac rfl (Aa rfl (.int .i64 (f : Int)) (fun b w hb hH => GN rfl rfl (JO Bx rfl) (hH.row 0 rfl) hb) (Am Ac rfl (Aw (D3 ?_))))))))))))))
 exact An (.tmp rfl) (fun w h => As () (by rw [hr]) [0, 1] rfl h (fun z hz => ⟨z, .refl _, Ae.one (IJ.mk_ rfl hR hL z hz)⟩)) rfl
 have hr : r = f := by rw [← h]; unfold EZ; rw [if_neg (fun hh => hf hh.1)]
 refine Al (Am Ac rfl (Aa rfl (.pointer (some ⟨g, 0, none⟩)) (fun b w hb hH => by exact Ir rfl rfl hb) (Am Ac rfl (Aa rfl (.int .i64 (f : Int)) (fun b w hb hH => GN rfl rfl (JO Bx rfl) (hH.row 0 rfl) hb) (Aa rfl (.bool false) (fun b w hb hH => DS rfl rfl rfl (Xq (by omega)) hb) (Am Ac rfl (Aw (CK rfl (CL (Eu (Al (Am Ac rfl (Aa rfl (.pointer (some ⟨g, 0, none⟩)) (fun b w hb hH => by exact Ir rfl rfl hb) ?_)))))))))))))
 refine Am Ac rfl (Aa rfl (.int .i64 (f : Int)) (fun b w hb hH => GN rfl rfl (JO Bx rfl) (hH.row 0 rfl) hb) (Am Ac rfl (Aw (D3 ?_))))
 exact An (.tmp rfl) (fun w h => As () (by rw [hr]) [0, 1] rfl h (fun z hz => ⟨z, .refl _, Ae.one (IJ.mk_ rfl hR hL z hz)⟩)) rfl
end Go.Proofs.YtjcfimmcogkopaaGreatDoor.Sep
namespace Go.Proofs.YtjcfimmcogkopaaGreatDoor.Sep
open Go.RowKit
open Go.Proofs.YtjcfimmcogkopaaGreatDoor.Mem (AG BC Chg Ak)
end Go.Proofs.YtjcfimmcogkopaaGreatDoor.Sep
namespace Go.Proofs.YtjcfimmcogkopaaGreatDoor.Sep
open Go.ChangeShapes Go.WideShapes Go.ChangeAt Go.RowKit
section
variable {H : Type} {enc : TypeId × Value → H} {W : World} {base b0 : Nat} {r : Reach} {spare : Nat → Bool} {held : Bool} {v : Value} {d : DataW H} {p : List MemPlace}
end
end Go.Proofs.YtjcfimmcogkopaaGreatDoor.Sep
namespace Go.Proofs.YtjcfimmcogkopaaGreatDoor.Sep
open Go.RowKit
open Go.Proofs.YtjcfimmcogkopaaGreatDoor.Mem (AG BC Chg Ak)
end Go.Proofs.YtjcfimmcogkopaaGreatDoor.Sep
namespace Go.Proofs.YtjcfimmcogkopaaGreatDoor.Sep
open Go.RowKit
open Go.Proofs.YtjcfimmcogkopaaGreatDoor.Mem (AG BC Chg Ak)
end Go.Proofs.YtjcfimmcogkopaaGreatDoor.Sep
namespace Go.Proofs.YtjcfimmcogkopaaGreatDoor.Sep
open Go.RowKit
open Go.Proofs.YtjcfimmcogkopaaGreatDoor.Mem (AG BC Chg Ak)
end Go.Proofs.YtjcfimmcogkopaaGreatDoor.Sep
namespace Go.Proofs.YtjcfimmcogkopaaGreatDoor.Sep
open Go.RowKit
open Go.Proofs.YtjcfimmcogkopaaGreatDoor.Mem (AG BC Chg Ak)
theorem ON (most : Nat) (l : List UInt8) (f : Nat) : (AU most l f).1 ≤ most := by
  unfold AU
  split
  · exact Nat.zero_le _
  · cases l with
    | nil => exact Nat.zero_le _
    | cons b r =>
      simp only
      split
      · exact Nat.zero_le _
      · show b.toNat ≤ most; omega
end Go.Proofs.YtjcfimmcogkopaaGreatDoor.Sep
namespace Go.Proofs.YtjcfimmcogkopaaGreatDoor.Sep
open Go.RowKit
open Go.Proofs.YtjcfimmcogkopaaGreatDoor.Mem (AG BC Chg Ak)
end Go.Proofs.YtjcfimmcogkopaaGreatDoor.Sep
namespace Go.Proofs.YtjcfimmcogkopaaGreatDoor.Sep
open Go.RowKit
open Go.Proofs.YtjcfimmcogkopaaGreatDoor.Mem (AG BC Chg Ak)
end Go.Proofs.YtjcfimmcogkopaaGreatDoor.Sep
namespace Go.Proofs.YtjcfimmcogkopaaGreatDoor.Sep
open Go.RowKit
open Go.Proofs.YtjcfimmcogkopaaGreatDoor.Mem (AG BC Chg Ak)
theorem pick (w : World) (a m : Int) (ha : -9223372036854775808 ≤ a ∧ a ≤ 9223372036854775807) (hm : 1 ≤ m ∧ m ≤ 9223372036854775807) {r : Int} (hr : a % m = r) : Calls Tryz.prog 6 #[.int .i64 a, .int .i64 m] w fun e w' => e = .returned (.int .i64 r) ∧ Below w.heap.size w w' := by
  have hlt := Int.emod_lt_of_pos a (show 0 < m by omega)
  have hge := Int.emod_nonneg a (show m ≠ 0 by omega)
  have ht : (0 ≤ a.tmod m ∧ a.tmod m = r) ∨ (a.tmod m < 0 ∧ a.tmod m + m = r) := by
    rw [Int.tmod_eq_emod, ← hr]
    split
    · left; omega
    · rename_i h
      right
      have hne : a % m ≠ 0 := fun e => h (.inr (Int.dvd_of_emod_eq_zero e))
      omega
  rw [hr] at hlt hge
  obtain ⟨t, htm⟩ : ∃ t, a.tmod m = t := ⟨_, rfl⟩
  rw [htm] at ht
  refine FR (args := [.int .i64 a, .int .i64 m]) 14 Tryz.func6 rfl rfl rfl (Al (Am Ac rfl (Aw (Al (Am Ac rfl (Aa rfl (.int .i64 t) (fun b w hb hH => F3 rfl rfl rfl (by omega) htm hb) (Am Ac rfl (Aw (Bu ?_)))))))))
  rcases ht with ⟨h1, h2⟩ | ⟨h1, h2⟩
  subst h2
  refine Al (Am Ac rfl (Aa rfl (.bool false) (fun b w hb hH => DS rfl rfl rfl (Fa (by omega)) hb) (Aw (CK rfl (CL (Eu (Al (Am Ac rfl (Aw (D3 ?_))))))))))
  exact An (.tmp rfl) (fun w h => ⟨rfl, Ak h.up⟩) rfl
  refine Al (Am Ac rfl (Aa rfl (.bool true) (fun b w hb hH => DS rfl rfl rfl (H2 (by omega)) hb) (Aw (Et rfl (Dl (Am Ac rfl (Aa rfl (.int .i64 r) (fun b w hb hH => Ay rfl rfl rfl rfl (by rw [IntWalk.i64_in _ (by omega)]; omega) hb) (Am Ac rfl (DU (Eu (Al (Am Ac rfl (Aw (D3 ?_))))))))))))))
  exact An (.tmp rfl) (fun w h => ⟨rfl, Ak h.up⟩) rfl
end Go.Proofs.YtjcfimmcogkopaaGreatDoor.Sep
namespace Go.Proofs.YtjcfimmcogkopaaGreatDoor
open Go.RowKit
def Rw : BitVec 32 := 2197175160#32
def Qc (h : BitVec 32) : BitVec 32 := (h >>> 1) ^^^ (if h.getLsbD 0 then Rw else 0#32)
def Ic : Nat → BitVec 32 → BitVec 32
  | 0, h => h
  | n + 1, h => Qc (Ic n h)
def Rx (h : BitVec 32) (c : UInt8) : BitVec 32 := Ic 8 (h ^^^ BitVec.ofNat 32 c.toNat)
def Hv (h : BitVec 32) (l : List UInt8) : BitVec 32 := l.foldl Rx h
def CP (l : List UInt8) : Nat := (~~~ Hv (BitVec.allOnes 32) l).toNat
theorem MZ (a : Nat) (ha : a < 4294967296) : BitVec.ofInt 32 (a : Int) = BitVec.ofNat 32 a := BitVec.ofInt_natCast ..
theorem NK (a b : BitVec 32) : bits .xor .u32 (a.toNat : Int) (b.toNat : Int) = ((a ^^^ b).toNat : Int) := by
 show IntKind.u32.wrap ((BitVec.ofInt 32 (a.toNat : Int) ^^^ BitVec.ofInt 32 (b.toNat : Int)).toNat : Int) = _
 rw [BitVec.ofInt_natCast, BitVec.ofInt_natCast, BitVec.ofNat_toNat, BitVec.ofNat_toNat, BitVec.setWidth_eq, BitVec.setWidth_eq, IntKind.wrap_u32]
 have := (a ^^^ b).isLt
 omega
theorem OO (a : BitVec 32) : bits .and .u32 (a.toNat : Int) 1 = if a.getLsbD 0 then 1 else 0 := by
  show IntKind.u32.wrap ((BitVec.ofInt 32 (a.toNat : Int) &&& BitVec.ofInt 32 1).toNat : Int) = _
  have h1 : BitVec.ofInt 32 1 = 1#32 := by decide
  rw [BitVec.ofInt_natCast, BitVec.ofNat_toNat, BitVec.setWidth_eq, h1, BitVec.toNat_and, IntKind.wrap_u32]
  have e : a.toNat &&& (1#32).toNat = a.toNat % 2 := Nat.and_one_is_mod _
  rw [e]
  have e2 : a.getLsbD 0 = decide (a.toNat % 2 = 1) := by simp [BitVec.getLsbD, Nat.testBit_zero]
  rw [e2]
  by_cases h : a.toNat % 2 = 1
  · simp [h]
  · have : a.toNat % 2 = 0 := by omega
    simp [this]
theorem VT (a : BitVec 32) : bits .xor .u32 ((a.toNat : Int) / 2) (IntKind.u32.wrap (bits .and .u32 (a.toNat : Int) 1 * 2197175160)) = ((Qc a).toNat : Int) := by
  have e1 : (a.toNat : Int) / (2 : Int) = ((a >>> 1).toNat : Int) := by
    rw [BitVec.toNat_ushiftRight, Nat.shiftRight_eq_div_pow]; omega
  have e2 : IntKind.u32.wrap (bits .and .u32 (a.toNat : Int) 1 * 2197175160) = ((if a.getLsbD 0 then Rw else 0#32).toNat : Int) := by
    rw [OO, IntKind.wrap_u32]
    cases a.getLsbD 0
    · rfl
    · rfl
  rw [e1, e2, NK]
  rfl
theorem u32_in (a : BitVec 32) (c : UInt8) : bits .xor .u32 (a.toNat : Int) (c.toNat : Int) = ((a ^^^ BitVec.ofNat 32 c.toNat).toNat : Int) := by
 rw [← NK]
 have := UInt8.toNat_lt c
 rw [BitVec.toNat_ofNat, Nat.mod_eq_of_lt (by omega)]
theorem Qd (a b : Nat) (ha : a < 4294967296) (hb : b < 4294967296) : bits .or .u32 (a : Int) (b : Int) = ((a ||| b : Nat) : Int) := by
 have hx : a ||| b < 2 ^ 32 := Nat.or_lt_two_pow (by omega) (by omega)
 show IntKind.u32.wrap ((BitVec.ofInt 32 (a : Int) ||| BitVec.ofInt 32 (b : Int)).toNat : Int) = _
 rw [BitVec.toNat_or, MZ a ha, MZ b hb, BitVec.toNat_ofNat, BitVec.toNat_ofNat, Nat.mod_eq_of_lt (by omega), Nat.mod_eq_of_lt (by omega), IntKind.wrap_u32]
 omega
theorem VU (r : BitVec 32) : bits .xor .u32 IntKind.u32.max (r.toNat : Int) = ((~~~ r).toNat : Int) := by
 have h : IntKind.u32.max = ((BitVec.allOnes 32).toNat : Int) := by decide
 rw [h, NK, BitVec.allOnes_xor]
end Go.Proofs.YtjcfimmcogkopaaGreatDoor
namespace Go.Proofs.YtjcfimmcogkopaaGreatDoor
open Go.RowKit
theorem VV {S : Nat → Prop} (w : World) (A : Option Addr) (c : Nat) (l : List UInt8) (h : Bs S w A c l) (hl : l.length ≤ 140737488355328) :
    Calls Tryz.prog 144 #[.slice A l.length c] w fun e w' => e = .returned (.int .u32 (CP l : Int)) ∧ w = w' := by
  go_enter Tryz.func144, Tryz.ntmps144
  go_wp2
  go_loop [3, 5, 6, 9] (fun h _ _ i => ∃ k : Nat, k ≤ l.length ∧ i = .int .i64 k ∧ h = .int .u32 ((Hv (BitVec.allOnes 32) (l.take k)).toNat : Int)) (fun _ _ _ i => l.length - (intOf i).toNat)
  case atStart => exact ⟨0, Nat.zero_le _, rfl, rfl⟩
  case round =>
    obtain ⟨k, hk, rfl, rfl⟩ := hrel
    by_cases hlt : k < l.length
    · obtain ⟨g, o, rfl, hs, hc⟩ := h.2.2 (by omega)
      have hb := hc k l[k] (List.getElem?_eq_getElem hlt)
      unfold To at hb
      clear hc
      have ht : Hv (BitVec.allOnes 32) (l.take (k + 1)) = Rx (Hv (BitVec.allOnes 32) (l.take k)) l[k] := by
        rw [List.take_succ_eq_append_getElem hlt]; unfold Hv; rw [List.foldl_append]; rfl
      have HT := JN ht
      clear ht
      obtain ⟨b, hbb⟩ : ∃ b, b = l[k] := ⟨_, rfl⟩
      rw [← hbb] at hb HT
      have HB := JN hbb
      clear hbb
      obtain ⟨x, hx⟩ : ∃ x, x = Hv (BitVec.allOnes 32) (l.take k) := ⟨_, rfl⟩
      rw [← hx] at HT ⊢
      have HX := JN hx
      clear hx
      have hin := u32_in x b
      obtain ⟨y, hy⟩ : ∃ y, y = x ^^^ BitVec.ofNat 32 b.toNat := ⟨_, rfl⟩
      rw [← hy] at hin
      have HY := JN hy
      clear hy
      obtain ⟨n, hn⟩ : ∃ n, n = b.toNat := ⟨_, rfl⟩
      have hn2 : n < 256 := by rw [hn]; exact UInt8.toNat_lt _
      rw [← hn] at hin hb
      clear hn
      go_wp2
      go_loop [3, 6, 17] (fun h _ j => ∃ i : Nat, i ≤ 8 ∧ j = .int .i64 i ∧ h = .int .u32 ((Ic i y).toNat : Int)) (fun _ _ j => 8 - (intOf j).toNat)
      case atStart => exact ⟨0, by omega, rfl, rfl⟩
      case round =>
        obtain ⟨i, hi, rfl, rfl⟩ := hrel
        by_cases hi8 : i < 8
        · have hbit := VT (Ic i y)
          rw [IntKind.wrap_u32] at hbit
          obtain ⟨z, hz⟩ : ∃ z, z = Ic i y := ⟨_, rfl⟩
          rw [← hz] at hbit ⊢
          have HZ := JN hz
          clear hz
          obtain ⟨z', hz'⟩ : ∃ z', z' = Qc z := ⟨_, rfl⟩
          rw [← hz'] at hbit
          have HZ' := JN hz'
          clear hz'
          go_wp2
          go_round
          case rel => exact ⟨i + 1, by omega, by go_num, by rw [HZ'.out, HZ.out]; rfl⟩
          case measure => simp [intOf]; omega
        · have e8 : i = 8 := by omega
          subst e8
          obtain ⟨z, hz⟩ : ∃ z, z = Ic 8 y := ⟨_, rfl⟩
          rw [← hz]
          have HZ := JN hz
          clear hz
          go_wp2
          go_round
          case rel => exact ⟨k + 1, by omega, by go_num, by rw [HT.out, HZ.out, HY.out]; rfl⟩
          case measure => simp [intOf]; omega
    · have e : l.take k = l := List.take_of_length_le (by omega)
      rw [e]
      clear e
      obtain ⟨r, hr⟩ : ∃ r, r = Hv (BitVec.allOnes 32) l := ⟨_, rfl⟩
      rw [← hr]
      have HR := JN hr
      clear hr
      have hnot := VU r
      obtain ⟨q, hq⟩ : ∃ q : Nat, q = (~~~ r).toNat := ⟨_, rfl⟩
      rw [← hq] at hnot
      have HQ := JN hq
      clear hq
      go_wp2
      all_goals
        go_ret
        refine ⟨VJ ?_, rfl⟩
        unfold CP
        rw [← HR.out, ← HQ.out]
end Go.Proofs.YtjcfimmcogkopaaGreatDoor
namespace Go.Proofs.YtjcfimmcogkopaaGreatDoor
open Go.RowKit
end Go.Proofs.YtjcfimmcogkopaaGreatDoor
namespace Go.Proofs.YtjcfimmcogkopaaGreatDoor
open Go.RowKit
end Go.Proofs.YtjcfimmcogkopaaGreatDoor
namespace Go.Proofs.YtjcfimmcogkopaaGreatDoor
open Go.RowKit
end Go.Proofs.YtjcfimmcogkopaaGreatDoor
namespace Go.Proofs.YtjcfimmcogkopaaGreatDoor
open Go.RowKit
end Go.Proofs.YtjcfimmcogkopaaGreatDoor
namespace Go.Proofs.YtjcfimmcogkopaaGreatDoor.Sep
open Go.RowKit
open Go.Proofs.YtjcfimmcogkopaaGreatDoor.Mem (AG BC Chg Ak)
section
variable {P : Program} {Q : Exit → Act → World → Prop} {n : Nat} {env : List (Nat × Value)} {B : Nat → Prop} {w0 w : World} {os : List Ass} {o : Oper}
theorem Gx {X : Type} {F : FuncId} {f : Operand} {args : Array Operand} {ats : Array TypeId} {vs : List Value} {val : X → Value} {post : X → List Ass} {os' : X → List Ass} (ids : List Nat) (pads : Nat) (hE : Tv P F) (hc : ∀ w, Hp B w0 w os → DY w P F vs.toArray [] val post) (hp : CZ ids os = List.replicate pads emp) (hn : BK ids = true) (hb : (ids.all fun i => Nat.blt i os.length) = true) (he : ∀ x, (post x).drop ids.length ++ DV ids (D7 ids.length (post x)) os = os' x) (ho : o.op = .call { callee := .value f, args := args, argTypes := ats }) (hf : evs env f = some (.func (.func F) #[] #[])) (hx : evl env args.toList = some vs) :
  AR P Q n env B w0 os o val os' := fun b w hH hb' K hK => by
 unfold Oper.wp
 rw [HK hE ho hf hx hb', Oper.upon_enter]
 obtain ⟨x, h0, h1, h2, h3, h4⟩ := hH.give2 ids (Bp hn)
 rw [hp] at h1
 have hx0 : x = [] := Ex.1 h1
 subst hx0
 refine (hc w hH w [] (Below.refl _ _) (fun x hx => by cases hx) rfl trivial trivial).mono ?_
 rintro e w' ⟨x, rfl, rs', hpx, hch⟩
 have hq := h4 (post x) rs' w' hpx hch
 refine hK x w' (he x ▸ Hp.imp hq fun rs h => ?_)
 obtain ⟨a, c, e, ha, hc'⟩ := h.split
 obtain ⟨a', p, ha'⟩ := EQ (k := ids.length) ha
 have h2 := Ae.app ha' hc'
 rw [List.append_assoc] at h2
 obtain ⟨r2, p2, h3⟩ := h2.perm ((JS (xs := post x) (Bp hn) hb).append_left _)
 exact ⟨r2, e ▸ (p.append_right c).trans p2, h3⟩
end
section
variable {P : Program} {F : FuncId} {args : Array Value} {l m b l' : List UInt8} {u : World} {g f f' : Nat} {v B : Value} {val : Value}
theorem Ue (hv : D1 u v m) (g : Nat) (l : List UInt8) (r : List UInt8) (hr : l ++ P4 m = r) (hl : l.length + m.length + 10 ≤ 140737488355328) : DY u Tryz.prog 141 #[.pointer (some ⟨g, 0, none⟩), v] [Tp g l] (fun _ : Unit => .tuple #[]) (fun _ => [Tp g r]) := fun w rs hU hS h1 h2 h3 => by
  obtain ⟨wv, rv, rfl, hv0, hw⟩ := P1 h1.one' h2
  obtain ⟨A, c, rfl, hb⟩ := hv
  have hfoot : ∀ k, II g wv k → BC ((g, EO 218, #[wv]) :: rv) k := by
    rintro k (rfl | hk)
    · exact ⟨_, List.mem_cons_self, rfl⟩
    · rcases hv0 with ⟨e1, _, _⟩ | ⟨g', c, cs, e1, _, _, _, _, e6⟩
      · subst e1; exact absurd hk At.none
      · subst e1; subst e6
        exact ⟨(g', EO 5, cs), by simp, (At.iff.1 hk).symm⟩
  have hb2 : Bs (fun k => k < u.heap.size) w A c m := (hb.weaken (T := fun k => k < u.heap.size) fun k hk _ => hk).below hU fun _ hk => hk
  refine (Lz w g wv l A c m hw hb2 (fun k hk hf => ?_) hl).mono ?_
  · obtain ⟨x, hx, ex⟩ := hfoot k hf
    have := hS x hx
    have hk : k < u.heap.size := hk
    have ex : x.1 = k := ex
    omega
  rintro e w' ⟨v', he, hw', hm, hat⟩
  obtain ⟨rs', hv', hr', hd', hx'⟩ := Jn hw'.2
  have er : l ++ DA m.length ++ m = r := by rw [← hr]; simp [P4]
  rw [er] at hw' hv'
  refine ⟨(), he, (g, EO 218, #[v']) :: rs', Ae.one ⟨v', [(g, EO 218, #[v'])], rs', rfl, rfl, Ae.one hv'⟩, hm.weaken fun k hk hf => hfoot k hf, ⟨hw'.1, hr'⟩, ⟨fun y hy e => hw'.2.ne_row hw'.1 (by decide) ((show y.1 = g from e) ▸ (hx' y hy).1), hd'⟩, fun x hxm hlt => ?_⟩
  rcases List.mem_cons.1 hxm with rfl | hxm
  · exact ⟨_, List.mem_cons_self, rfl⟩
  · rcases hat _ (hx' x hxm).1 with h | h
    · exact hfoot _ (.inr h)
    · omega
end
end Go.Proofs.YtjcfimmcogkopaaGreatDoor.Sep
namespace Go.Proofs.YtjcfimmcogkopaaGreatDoor
variable {e : EntD} {f : Nat} {l : List UInt8}
end Go.Proofs.YtjcfimmcogkopaaGreatDoor
namespace Go.Proofs.YtjcfimmcogkopaaGreatDoor
end Go.Proofs.YtjcfimmcogkopaaGreatDoor
namespace Go.Proofs.YtjcfimmcogkopaaGreatDoor
variable {es : List EntD} {f j n : Nat}
end Go.Proofs.YtjcfimmcogkopaaGreatDoor
