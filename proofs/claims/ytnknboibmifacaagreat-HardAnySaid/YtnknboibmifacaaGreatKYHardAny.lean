/-
  HardAny
-/
import Derived.Test.YtnknboibmifacaaGreatYR01
import Derived.Test.YtnknboibmifacaaGreatYS01
import Derived.Deep.RegionHeld3
set_option linter.unusedSimpArgs false
set_option linter.unusedVariables false
set_option maxRecDepth 100000
namespace Go.Proofs.YtnknboibmifacaaGreat.hardAny
open Go.ChangeShapes Go.WideShapes Go.ChangeAt Go.RowKit
theorem RO (H : Type) (enc : TypeId × Value → H) (W : World) (base : Nat) (args : Array Value) (ds gs : List (DataW H)) (before : List MemPlace)
    (hval : ∀ (j : Nat) t v, Tryz.f4.params[j]? = some t → args[j]? = some v → Value.okWide Tryz.prog W .any base t v)
    (hW : DataW.Whole enc Tryz.prog Tryz.f4.params.toList Rows.hardAnySpec.vars false W args.toList ds gs before)
    (hsized : (DataW.weightsEach Tryz.prog (Tryz.f4.params.toList ++ Rows.hardAnySpec.plain.varTypes Tryz.prog) (ds ++ gs)).all (· ≤ reachBytes) = true) :
    Calls Tryz.prog 4 args W fun e W' => ∃ v, e = .returned v ∧ Rows.hardAnySpec.post enc Tryz.prog Tryz.f4 false true false false W args v W' := by
  have hW' := hW
  obtain ⟨p, q, hA0, hV, rfl, hfz, hnd⟩ := hW
  have hA : DataW.TrodAll enc Tryz.prog W 0 (fun _ => true) true Tryz.f4.params.toList args.toList ds p := hA0
  rw [Tryz.params4] at hA hval hsized
  obtain ⟨v0, v1, v2, v3, d0, d1, d2, d3, p0, p1, p2, p3, rfl, rfl, rfl, h0, h1, h2, h3⟩ := trodAll_four hA
  obtain ⟨rfl, rfl⟩ := trodVars_none hV
  obtain ⟨A0, c0, l0, rfl, hb0, hd0⟩ := RP RQ RR (hval 0 48 v0 rfl rfl) h0
  obtain ⟨A1, c1, l1, hA1, hm1, hl1, ho1⟩ := Sep.open_hards (hval 1 49 v1 rfl rfl) h1
  obtain ⟨x2, rfl, rfl, rfl, wx2⟩ := open_int Tryz.underlying3 (hval 2 3 v2 rfl rfl) h2
  have hx2 := RS wx2
  obtain ⟨x3, rfl, rfl, rfl⟩ := open_bool Tryz.underlying4 (hval 3 4 v3 rfl rfl) h3
  have hl9 : l0.length ≤ 140737488351232 := by
    rcases hd0 with ⟨_, rfl⟩ | ⟨es, sp, rfl, he⟩
    · simp
    · have := sized_slice hsized (j := 0) rfl rfl Tryz.underlying48
      rw [RT] at this
      have h2 : reachBytes = 140737488351232 := rfl
      omega
  refine (Sep.calls_arg2 ⟨_, _, rfl, hb0.1, hb0.2.1, fun h => let ⟨g, o, e, _, h2⟩ := hb0.2.2 h; ⟨g, o, e, trivial, h2⟩⟩ hl1 (fun X hX hL => Sep.hardany_does hX hl9 hL hm1 ho1 hx2)).mono fun e W' ⟨he, hbl⟩ => ⟨.bool true, he, ?_⟩
  exact RU TL (by kernel_rfl) Tryz.underlying4 (MO (by kernel_rfl)) rfl rfl hW' hbl
theorem US (os : Os) (started : os.Started) (H : Type) (enc : TypeId × Value → H) :
  ReturnsInHanded {} Tryz.checked os 4 .any (Rows.hardAnySpec.pre6 enc Tryz.prog Tryz.f4 Rows.hardAnyRow.domain false) (Rows.hardAnySpec.post enc Tryz.prog Tryz.f4 false true false false) := by
 refine returnsInHanded_of_change_sized (C := Tryz.checked) own started (by kernel_rfl) Tryz.func4
  (ChangeSpec.witness6 (enc := enc) (C := Tryz.checked) false ⟨#[], #[.slice none 0 0, .slice none 0 0, .int .i64 0, .bool false], []⟩ 8 (by kernel_rfl) (by kernel_rfl) (by kernel_rfl) (by kernel_rfl)) ?_
 intro W base args ds gs before hval hW _ hsized _
 exact RO H enc W base args ds gs before hval hW hsized
theorem proved : Rows.HardAnySaid :=
  OpenClaim.holds_of_wide 4 Tryz.f4 rfl rfl rfl rfl rfl rfl rfl ⟨rfl, rfl, rfl, rfl, rfl⟩ rfl rfl rfl rfl rfl (by kernel_rfl) Tryz.func4 (by kernel_rfl)
    (of_decide_eq_true (by kernel_rfl)) (by unfold Func.isWrapper; first | (rw [if_pos (by decide +kernel)]; kernel_rfl) | (rw [if_neg (by decide +kernel)]; exact ⟨rfl, rfl⟩))
    (fun os started H enc _ => US os started H enc)
end Go.Proofs.YtnknboibmifacaaGreat.hardAny
