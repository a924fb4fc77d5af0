/-
  PhotoAny
-/
import Derived.Test.YtjcfimmcogkopaaGreatYV01
import Derived.Test.YtjcfimmcogkopaaGreatYW01
import Derived.Deep.RegionHeld3
set_option linter.unusedSimpArgs false
set_option linter.unusedVariables false
set_option maxRecDepth 100000
namespace Go.Proofs.YtjcfimmcogkopaaGreat.photoAny
open Go.ChangeShapes Go.WideShapes Go.ChangeAt Go.RowKit
theorem SA (H : Type) (enc : TypeId × Value → H) (W : World) (base : Nat) (args : Array Value) (ds gs : List (DataW H)) (before : List MemPlace)
    (hval : ∀ (j : Nat) t v, Tryz.f4.params[j]? = some t → args[j]? = some v → Value.okWide Tryz.prog W .any base t v)
    (hW : DataW.Whole enc Tryz.prog Tryz.f4.params.toList Rows.photoAnySpec.vars false W args.toList ds gs before)
    (hsized : (DataW.weightsEach Tryz.prog (Tryz.f4.params.toList ++ Rows.photoAnySpec.plain.varTypes Tryz.prog) (ds ++ gs)).all (· ≤ reachBytes) = true) :
    Calls Tryz.prog 4 args W fun e W' => ∃ v, e = .returned v ∧ Rows.photoAnySpec.post enc Tryz.prog Tryz.f4 false true false false W args v W' := by
  have hW' := hW
  obtain ⟨p, q, hA0, hV, rfl, hfz, hnd⟩ := hW
  have hA : DataW.TrodAll enc Tryz.prog W 0 (fun _ => true) true Tryz.f4.params.toList args.toList ds p := hA0
  rw [Tryz.params4] at hA hval hsized
  obtain ⟨v0, v1, v2, v3, d0, d1, d2, d3, p0, p1, p2, p3, rfl, rfl, rfl, h0, h1, h2, h3⟩ := trodAll_four hA
  obtain ⟨rfl, rfl⟩ := trodVars_none hV
  obtain ⟨A0, c0, l0, rfl, hb0, hd0⟩ := Na Mg Nb (hval 0 32 v0 rfl rfl) h0
  obtain ⟨A1, c1, l1, rfl, hb1, hd1⟩ := Na Mg Nb (hval 1 32 v1 rfl rfl) h1
  obtain ⟨x2, rfl, rfl, rfl, wx2⟩ := open_int Tryz.underlying3 (hval 2 3 v2 rfl rfl) h2
  have hx2 := VC wx2
  obtain ⟨x3, rfl, rfl, rfl⟩ := open_bool Tryz.underlying4 (hval 3 4 v3 rfl rfl) h3
  have hl9 : l0.length ≤ 140737488351232 := by
    rcases hd0 with ⟨_, rfl⟩ | ⟨es, sp, rfl, he⟩
    · simp
    · have := sized_slice hsized (j := 0) rfl rfl Tryz.underlying32
      rw [SB] at this
      have h2 : reachBytes = 140737488351232 := rfl
      omega
  have hm9 : l1.length ≤ 9223372036854775807 := Nat.le_trans hb1.1 hb1.2.1
  refine (Sep.calls_argB ⟨_, _, rfl, hb0.1, hb0.2.1, fun h => let ⟨g, o, e, _, h2⟩ := hb0.2.2 h; ⟨g, o, e, trivial, h2⟩⟩ ⟨_, _, rfl, hb1.1, hb1.2.1, fun h => let ⟨g, o, e, _, h2⟩ := hb1.2.2 h; ⟨g, o, e, trivial, h2⟩⟩ (fun X hX hM => Sep.photoany_does hX hl9 hM hb1.1 hm9)).mono fun e W' ⟨he, hbl⟩ => ⟨.bool true, he, ?_⟩
  exact SC Uq (by kernel_rfl) Tryz.underlying4 (Nc (by kernel_rfl)) rfl rfl hW' hbl
theorem VD (os : Os) (started : os.Started) (H : Type) (enc : TypeId × Value → H) :
  ReturnsInHanded {} Tryz.checked os 4 .any (Rows.photoAnySpec.pre6 enc Tryz.prog Tryz.f4 Rows.photoAnyRow.domain false) (Rows.photoAnySpec.post enc Tryz.prog Tryz.f4 false true false false) := by
 refine returnsInHanded_of_change_sized (C := Tryz.checked) own started (by kernel_rfl) Tryz.func4
  (ChangeSpec.witness6 (enc := enc) (C := Tryz.checked) false ⟨#[], #[.slice none 0 0, .slice none 0 0, .int .i64 0, .bool false], []⟩ 8 (by kernel_rfl) (by kernel_rfl) (by kernel_rfl) (by kernel_rfl)) ?_
 intro W base args ds gs before hval hW _ hsized _
 exact SA H enc W base args ds gs before hval hW hsized
theorem proved : Rows.PhotoAnySaid :=
 OpenClaim.holds_of_wide 4 Tryz.f4 rfl rfl rfl rfl rfl rfl rfl ⟨rfl, rfl, rfl, rfl, rfl⟩ rfl rfl rfl rfl rfl (by kernel_rfl) Tryz.func4 (by kernel_rfl)
  (of_decide_eq_true (by kernel_rfl)) (by unfold Func.isWrapper; first | (rw [if_pos (by decide +kernel)]; kernel_rfl) | (rw [if_neg (by decide +kernel)]; exact ⟨rfl, rfl⟩))
  (fun os started H enc _ => VD os started H enc)
end Go.Proofs.YtjcfimmcogkopaaGreat.photoAny
