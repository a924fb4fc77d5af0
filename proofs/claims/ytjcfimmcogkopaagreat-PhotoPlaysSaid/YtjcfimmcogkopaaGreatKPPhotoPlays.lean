/-
  PhotoPlays
-/
import Derived.Test.YtjcfimmcogkopaaGreatPX01
import Derived.Deep.RegionHeld3
set_option linter.unusedSimpArgs false
set_option linter.unusedVariables false
set_option maxRecDepth 100000
namespace Go.Proofs.YtjcfimmcogkopaaGreat.photoPlays
open Go.ChangeShapes Go.WideShapes Go.ChangeAt Go.RowKit
theorem Tf (H : Type) (enc : TypeId × Value → H) (W : World) (base : Nat) (args : Array Value) (ds gs : List (DataW H)) (before : List MemPlace)
    (hval : ∀ (j : Nat) t v, Tryz.f3.params[j]? = some t → args[j]? = some v → Value.okWide Tryz.prog W .any base t v)
    (hW : DataW.Whole enc Tryz.prog Tryz.f3.params.toList Rows.photoPlaysSpec.vars false W args.toList ds gs before)
    (hsized : (DataW.weightsEach Tryz.prog (Tryz.f3.params.toList ++ Rows.photoPlaysSpec.plain.varTypes Tryz.prog) (ds ++ gs)).all (· ≤ reachBytes) = true) :
    Calls Tryz.prog 3 args W fun e W' => ∃ v, e = .returned v ∧ Rows.photoPlaysSpec.post enc Tryz.prog Tryz.f3 false true false false W args v W' := by
  have hW' := hW
  obtain ⟨p, q, hA0, hV, rfl, hfz, hnd⟩ := hW
  have hA : DataW.TrodAll enc Tryz.prog W 0 (fun _ => true) true Tryz.f3.params.toList args.toList ds p := hA0
  rw [Tryz.params3] at hA hval hsized
  obtain ⟨v0, vs0, d0, ds0, p0, q0, hargs, rfl, rfl, h0, r0⟩ := trodAll_cons hA
  obtain ⟨rfl, rfl, rfl⟩ := trodAll_nil r0
  obtain rfl : args = #[v0] := by cases args; simp_all
  obtain ⟨rfl, rfl⟩ := trodVars_none hV
  obtain ⟨A0, c0, l0, hA0, hm0, hr0, ho0⟩ := Sep.open_stepsP (hval 0 22 v0 rfl rfl) h0 (Sep.sized_arg hsized (j := 0) rfl rfl)
  refine (Sep.calls_argS hr0 (fun y hy => (ho0 y hy).2.2.1) (fun X hL hE => Sep.photoplays_does hL (fun y hy => ⟨hE y hy, (ho0 y hy).2.2.2⟩) hm0 (fun y hy => (ho0 y hy).1))).mono fun e W' ⟨he, hbl⟩ => ⟨.bool true, he, ?_⟩
  exact Tg Vg (by kernel_rfl) Tryz.underlying4 (NC (by kernel_rfl)) rfl rfl hW' hbl
theorem Wx (os : Os) (started : os.Started) (H : Type) (enc : TypeId × Value → H) :
  ReturnsInHanded {} Tryz.checked os 3 .any (Rows.photoPlaysSpec.pre6 enc Tryz.prog Tryz.f3 Rows.photoPlaysRow.domain false) (Rows.photoPlaysSpec.post enc Tryz.prog Tryz.f3 false true false false) := by
 refine returnsInHanded_of_change_sized (C := Tryz.checked) own started (by kernel_rfl) Tryz.func3
  (ChangeSpec.witness6 (enc := enc) (C := Tryz.checked) false ⟨#[], #[.slice none 0 0], []⟩ 8 (by kernel_rfl) (by kernel_rfl) (by kernel_rfl) (by kernel_rfl)) ?_
 intro W base args ds gs before hval hW _ hsized _
 exact Tf H enc W base args ds gs before hval hW hsized
theorem proved : Rows.PhotoPlaysSaid :=
 OpenClaim.holds_of_wide 3 Tryz.f3 rfl rfl rfl rfl rfl rfl rfl ⟨rfl, rfl, rfl, rfl, rfl⟩ rfl rfl rfl rfl rfl (by kernel_rfl) Tryz.func3 (by kernel_rfl)
  (of_decide_eq_true (by kernel_rfl)) (by unfold Func.isWrapper; first | (rw [if_pos (by decide +kernel)]; kernel_rfl) | (rw [if_neg (by decide +kernel)]; exact ⟨rfl, rfl⟩))
  (fun os started H enc _ => Wx os started H enc)
end Go.Proofs.YtjcfimmcogkopaaGreat.photoPlays
