/-
  RlogPlays
-/
import Derived.Test.YtnebloeideodmaaPC01
import Derived.Test.YtnebloeideodmaaPZ01
import Derived.Test.YtnebloeideodmaaQA01
import Derived.SizedLaws
import Derived.Deep.RegionHeld3
set_option linter.unusedSimpArgs false
set_option linter.unusedVariables false
set_option maxRecDepth 100000
namespace Go.Proofs.Ytnebloeideodmaa.rlogPlays
open Go.ChangeShapes Go.WideShapes Go.ChangeAt Go.RowKit
theorem Qk (H : Type) (enc : TypeId × Value → H) (W : World) (base : Nat) (args : Array Value) (ds gs : List (DataW H)) (before : List MemPlace)
    (hval : ∀ (j : Nat) t v, Try.f5.params[j]? = some t → args[j]? = some v → Value.okWide Try.prog W .any base t v)
    (hW : DataW.Whole enc Try.prog Try.f5.params.toList Rows.rlogPlaysSpec.vars false W args.toList ds gs before)
    (hsized : (DataW.weightsEach Try.prog (Try.f5.params.toList ++ Rows.rlogPlaysSpec.plain.varTypes Try.prog) (ds ++ gs)).all (· ≤ reachBytes) = true) :
    Calls Try.prog 5 args W fun e W' => ∃ v, e = .returned v ∧ Rows.rlogPlaysSpec.post enc Try.prog Try.f5 false true false false W args v W' := by
  have hW' := hW
  obtain ⟨p, q, hA0, hV, rfl, hfz, hnd⟩ := hW
  have hA : DataW.TrodAll enc Try.prog W 0 (fun _ => true) true Try.f5.params.toList args.toList ds p := hA0
  rw [Try.params5] at hA hval hsized
  obtain ⟨v0, v1, v2, d0, d1, d2, p0, p1, p2, rfl, rfl, rfl, h0, h1, h2⟩ := trodAll_three hA
  obtain ⟨rfl, rfl⟩ := trodVars_none hV
  obtain ⟨z00, z01, z02, rfl, w00, w01, w02⟩ := Sep.open_baseV (hval 0 28 v0 rfl rfl) h0
  obtain ⟨A1, c1, l1, rfl, hr1, ho1, hd1, hc1⟩ := Sep.open_entsV (hval 1 34 v1 rfl rfl) h1 (Sep.sized_arg hsized (j := 1) rfl rfl)
  obtain ⟨A2, c2, l2, rfl, hm2, hl2, he2, ho2⟩ := Sep.open_stepsV (hval 2 53 v2 rfl rfl) h2 (Sep.sized_arg hsized (j := 2) rfl rfl)
  refine (Sep.calls_plays hr1 hl2 he2 (fun X h0 hs he => Sep.plays_law X _ l1 h0 ho1 _ l2 hs he ho2 hm2 z00 z01 z02 w00 w01 w02)).mono fun e W' ⟨he, hbl⟩ => ⟨.bool true, he, ?_⟩
  exact Ql SI (by kernel_rfl) Try.underlying4 (Lg (by kernel_rfl)) rfl rfl hW' hbl
theorem T1 (os : Os) (started : os.Started) (H : Type) (enc : TypeId × Value → H) :
  ReturnsInHanded {} Try.checked os 5 .any (Rows.rlogPlaysSpec.pre6 enc Try.prog Try.f5 Rows.rlogPlaysRow.domain false) (Rows.rlogPlaysSpec.post enc Try.prog Try.f5 false true false false) := by
 refine returnsInHanded_of_change_sized (C := Try.checked) own started (by kernel_rfl) Try.func5
  (ChangeSpec.witness6 (enc := enc) (C := Try.checked) false ⟨#[], #[.agg #[.int .u64 0, .int .u64 0, .int .i64 0], .slice none 0 0, .slice none 0 0], []⟩ 8 (by kernel_rfl) (by kernel_rfl) (by kernel_rfl) (by kernel_rfl)) ?_
 intro W base args ds gs before hval hW _ hsized _
 exact Qk H enc W base args ds gs before hval hW hsized
theorem proved : Rows.RlogPlaysSaid :=
 OpenClaim.holds_of_wide 5 Try.f5 rfl rfl rfl rfl rfl rfl rfl ⟨rfl, rfl, rfl, rfl, rfl⟩ rfl rfl rfl rfl rfl (by kernel_rfl) Try.func5 (by kernel_rfl)
  (of_decide_eq_true (by kernel_rfl)) (by unfold Func.isWrapper; first | (rw [if_pos (by decide +kernel)]; kernel_rfl) | (rw [if_neg (by decide +kernel)]; exact ⟨rfl, rfl⟩))
  (fun os started H enc _ => T1 os started H enc)
end Go.Proofs.Ytnebloeideodmaa.rlogPlays
