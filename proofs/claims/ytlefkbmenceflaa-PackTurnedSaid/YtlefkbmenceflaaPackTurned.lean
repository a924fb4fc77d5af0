/-
  What was sealed and has one byte turned is never unsealed. No condition.
-/
import Derived.Test.YtlefkbmenceflaaKnown
import Derived.Test.YtlefkbmenceflaaLaw
import Derived.SizedLaws
import Derived.Deep.RegionWith
namespace Go.Proofs.Ytlefkbmenceflaa.packTurned
open Go.ChangeShapes Go.WideShapes Go.ChangeAt Go.RowKit

theorem wrap_d (d : Nat) (h : d < 255) : IntKind.u8.wrap (IntKind.i64.wrap (1 + (d : Int))) = ((d + 1 : Nat) : Int) := by
  rw [IntKind.wrap_i64, IntKind.wrap_u8]
  omega

set_option maxHeartbeats 2000000 in
theorem walk (w : World) (A : Option Addr) (c : Nat) (l : List UInt8) (x y : Int) (h : Bs (fun k => k < w.heap.size) w A c l) (hl : l.length + 4 ≤ 140737488355328)
    (hx1 : -9223372036854775808 ≤ x) (hx2 : x ≤ 9223372036854775807) (hy1 : -9223372036854775808 ≤ y) (hy2 : y ≤ 9223372036854775807) :
    Calls Try.prog 11 #[.slice A l.length c, .int .i64 x, .int .i64 y] w fun e w' => e = .returned (.bool true) ∧ Below w.heap.size w w' := by
  have hC := seal_any w A c l h hl
  obtain ⟨L, hL⟩ : ∃ L, L = sealed l := ⟨_, rfl⟩
  have hLl : L.length = l.length + 4 := by rw [hL]; simp [sealed, le4]
  have hTu : ∀ (k : Nat) (hk : k < L.length) (b : UInt8), b ≠ L[k] → unsealed (L.set k b) = ([], 13) := by subst hL; exact fun k hk b hb => unsealed_turned l k hk b hb
  rw [← hL] at hC
  have hx3 := Int.emod_nonneg x (show (l.length : Int) + 4 ≠ 0 by omega)
  have hx4 := Int.emod_lt_of_pos x (show (0 : Int) < (l.length : Int) + 4 by omega)
  have hy3 := Int.emod_nonneg y (show (255 : Int) ≠ 0 by omega)
  have hy4 := Int.emod_lt_of_pos y (show (0 : Int) < 255 by omega)
  obtain ⟨k, hk⟩ : ∃ k : Nat, x % ((l.length : Int) + 4) = (k : Int) := ⟨(x % ((l.length : Int) + 4)).toNat, by omega⟩
  obtain ⟨d, hd⟩ : ∃ d : Nat, y % 255 = (d : Int) := ⟨(y % 255).toNat, by omega⟩
  have hP1 : ∀ W, Calls Try.prog 23 #[.int .i64 x, .int .i64 ((l.length : Int) + 4)] W fun e w' => e = .returned (.int .i64 (k : Int)) ∧ W = w' := fun W => by rw [← hk]; exact pick_any W x _ hx1 hx2 (by omega) (by omega)
  have hP2 : ∀ W, Calls Try.prog 23 #[.int .i64 y, .int .i64 255] W fun e w' => e = .returned (.int .i64 (d : Int)) ∧ W = w' := fun W => by rw [← hd]; exact pick_any W y _ hy1 hy2 (by omega) (by omega)
  rw [hk] at hx4
  rw [hd] at hy4
  have hkL : k < l.length + 4 := by omega
  have hd2 : d < 255 := by omega
  clear hx3 hx4 hy3 hy4 hk hd hL
  have HC := hid hC
  have HP1 := hid hP1
  have HP2 := hid hP2
  have HTu := hid hTu
  clear hC hP1 hP2 hTu
  have HLl := hid hLl
  go_enter Try.func11, Try.ntmps11
  go_wp2_with fail
  refine Calls.mono HC.out ?_; rintro e w1 ⟨v1, rfl, ho1, hb1⟩
  obtain ⟨g, c1, rfl, hg1, hg2, hc1, hc2, hcell, hfro⟩ := ho1.block (by omega)
  go_wp2_with fail
  refine (known_any w1).mono ?_; rintro e w2 ⟨rfl, hb2⟩
  have ho2 := ho1.old hb2
  have hk2 : k < L.length := by omega
  have hcb := (hb2.cell (p := ⟨g, k, none⟩) hg2).trans (hcell k L[k] (List.getElem?_eq_getElem hk2))
  have hfb := (hb2.frozen (p := ⟨g, k, none⟩) hg2).trans (hfro k)
  have hg3 := Nat.lt_of_lt_of_le hg2 hb2.size
  clear hcell hfro
  unfold u8v at hcb
  obtain ⟨b, hb⟩ : ∃ b, b = L[k] := ⟨_, rfl⟩
  rw [← hb] at hcb
  have HB := hid hb
  clear hb
  have hxor := xor_u8 b (d + 1) (by omega)
  have hxne := xor_ne b (d + 1) (by omega) (by omega)
  obtain ⟨b', hb'⟩ : ∃ b', b' = b ^^^ UInt8.ofNat (d + 1) := ⟨_, rfl⟩
  rw [← hb'] at hxor hxne
  have hx1' : bits .xor .u8 (b.toNat : Int) (IntKind.u8.wrap (IntKind.i64.wrap (1 + (d : Int)))) = (b'.toNat : Int) := by
    rw [wrap_d d hd2]; exact hxor
  clear hb' hxor
  have HT2 : Hid (unsealed (L.set k b') = ([], 13)) := HTu.out k hk2 b' (by rw [← HB.out]; exact hxne)
  have hk0 : (0 : Int) ≤ (k : Int) := by omega
  have hk1 : (k : Int) < (l.length : Int) + 4 := by omega
  have hd0 : (0 : Int) ≤ (d : Int) := by omega
  have hd1 : (d : Int) < 255 := by omega
  clear hxne
  go_wp2_with fail
  refine Calls.mono (HP1.out _) ?_; rintro e w3 ⟨rfl, rfl⟩
  go_wp2_with fail
  go_region_with (go_at_call 23; refine Calls.mono (HP2.out _) ?_; rintro e w' ⟨rfl, rfl⟩)
  all_goals
    have ho3 := ho2.set (k := k) b'
    have hU2 := (((Up.refl w).trans hb1).trans hb2).setCell (i := k) hg1 (u8v b')
    obtain ⟨w4, hw4⟩ : ∃ w4, w4 = (w2.setCell ⟨g, k, none⟩ (u8v b')).drew := ⟨_, rfl⟩
    have ho4 : Own 5 w4 w.heap.size (.slice (some ⟨g, 0, none⟩) (l.length + 4) c1) (L.set k b') := by
      have hl4 : (L.set k b').length = l.length + 4 := by rw [List.length_set]; exact hLl
      rw [hw4, ← hl4]; exact ho3
    have hU4 : Up w.heap.size w w4 := by rw [hw4]; exact hU2.drew
    obtain ⟨A4, c4, hv4, hs4⟩ := ho4.form
    have hC4 := unseal_any w4 A4 c4 (L.set k b') hs4 (by rw [List.length_set]; omega)
    rw [← hv4, HT2.out] at hC4
    unfold u8v at hw4
    rw [← hw4]
    have HC4 := hid hC4
    clear hC4 hw4 hv4
    go_wp2_with fail
    refine Calls.mono HC4.out ?_; rintro e w5 ⟨v5, rfl, ho5, hb5⟩
    obtain ⟨A5, c5, rfl, hs5⟩ := ho5.form
    go_wp2
    go_ret
    exact ⟨rfl, (hU4.trans hb5).below⟩

theorem contract (H : Type) (enc : TypeId × Value → H) (W : World) (base : Nat) (args : Array Value) (ds gs : List (DataW H)) (before : List MemPlace)
    (hval : ∀ (j : Nat) t v, Try.f11.params[j]? = some t → args[j]? = some v → Value.okWide Try.prog W .any base t v)
    (hW : DataW.Whole enc Try.prog Try.f11.params.toList Rows.packTurnedSpec.vars false W args.toList ds gs before)
    (hsized : (DataW.weightsEach Try.prog (Try.f11.params.toList ++ Rows.packTurnedSpec.plain.varTypes Try.prog) (ds ++ gs)).all (· ≤ reachBytes) = true) :
    Calls Try.prog 11 args W fun e W' => ∃ v, e = .returned v ∧ Rows.packTurnedSpec.post enc Try.prog Try.f11 false true false false W args v W' := by
  have hW' := hW
  obtain ⟨p, q, hA0, hV, rfl, hfz, hnd⟩ := hW
  have hA : DataW.TrodAll enc Try.prog W 0 (fun _ => true) true Try.f11.params.toList args.toList ds p := hA0
  rw [Try.params11] at hA hval hsized
  obtain ⟨v0, v1, v2, d0, d1, d2, p0, p1, p2, rfl, rfl, rfl, h0, h1, h2⟩ := trodAll_three hA
  obtain ⟨rfl, rfl⟩ := trodVars_none hV
  obtain ⟨A, c, l, rfl, hb, hd⟩ := open_u8s tyU8 cells_u8 (hval 0 24 v0 rfl rfl) h0
  obtain ⟨x, rfl, rfl, rfl, wx⟩ := open_int Try.underlying3 (hval 1 3 v1 rfl rfl) h1
  obtain ⟨y, rfl, rfl, rfl, wy⟩ := open_int Try.underlying3 (hval 2 3 v2 rfl rfl) h2
  have hx := wf_i64 wx
  have hy := wf_i64 wy
  have hl : l.length + 4 ≤ 140737488355328 := by
    rcases hd with ⟨_, rfl⟩ | ⟨es, sp, rfl, he⟩
    · simp
    · have := sized_slice hsized (j := 0) rfl rfl Try.underlying24
      rw [bytes_u8] at this
      have h2 : reachBytes = 140737488351232 := rfl
      omega
  refine (walk W A c l x y hb hl hx.1 hx.2 hy.1 hy.2).mono fun e W' ⟨he, hbl⟩ => ⟨.bool true, he, ?_⟩
  exact law_post laidOut (by kernel_rfl) Try.underlying4 (readable_of (by kernel_rfl)) rfl rfl hW' hbl

set_option maxRecDepth 100000 in
theorem lifted (os : Os) (started : os.Started) (H : Type) (enc : TypeId × Value → H) :
    ReturnsInHanded {} Try.checked os 11 .any (Rows.packTurnedSpec.pre6 enc Try.prog Try.f11 Rows.packTurnedRow.domain false) (Rows.packTurnedSpec.post enc Try.prog Try.f11 false true false false) := by
  refine returnsInHanded_of_change_sized (C := Try.checked) own started (by kernel_rfl) Try.func11
    (ChangeSpec.witness6 (enc := enc) (C := Try.checked) false ⟨#[], #[.slice none 0 0, .int .i64 0, .int .i64 0], []⟩ 8 (by kernel_rfl) (by kernel_rfl) (by kernel_rfl) (by kernel_rfl)) ?_
  intro W base args ds gs before hval hW _ hsized _
  exact contract H enc W base args ds gs before hval hW hsized

theorem proved : Rows.PackTurnedSaid :=
  OpenClaim.holds_of_wide 11 Try.f11 rfl rfl rfl rfl rfl rfl rfl ⟨rfl, rfl, rfl, rfl, rfl⟩ rfl rfl rfl rfl rfl (by kernel_rfl) Try.func11 (by kernel_rfl)
    (of_decide_eq_true (by kernel_rfl)) (by unfold Func.isWrapper; first | (rw [if_pos (by decide +kernel)]; kernel_rfl) | (rw [if_neg (by decide +kernel)]; exact ⟨rfl, rfl⟩))
    (fun os started H enc _ => lifted os started H enc)
end Go.Proofs.Ytlefkbmenceflaa.packTurned
