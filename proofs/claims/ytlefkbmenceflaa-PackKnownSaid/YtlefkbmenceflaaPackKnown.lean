/-
  Chapter 1's examples: the program answers each number as the document says. No condition.
-/
import Derived.Test.YtlefkbmenceflaaReader
import Derived.Test.YtlefkbmenceflaaKnown
import Derived.Test.YtlefkbmenceflaaLaw
namespace Go.Proofs.Ytlefkbmenceflaa.packKnown
open Go.ChangeShapes Go.WideShapes Go.ChangeAt Go.RowKit

/-- what is asked of one reader, and what it leaves -/
theorem r1 (W : World) (b p : Nat) (h : Rdr W b p [7, 172, 2, 5, 2, 97, 98] 0) : Calls Try.prog 13 #[ptr p, .int .u8 9] W fun e w' => e = .returned (.int .u8 7) ∧ Rdr w' b p [172, 2, 5, 2, 97, 98] 0 ∧ Mod (One p) W w' :=
  readerByte_any W b p 0 9 _ h (by decide)
theorem r2 (W : World) (b p : Nat) (h : Rdr W b p [172, 2, 5, 2, 97, 98] 0) : Calls Try.prog 14 #[ptr p, .int .u64 300] W fun e w' => e = .returned (.int .u64 300) ∧ Rdr w' b p [5, 2, 97, 98] 0 ∧ Mod (One p) W w' := by
  have := readerNum_any W b p 0 300 _ h (by decide)
  rwa [show rnum 300 [172, 2, 5, 2, 97, 98] 0 = (300, [5, 2, 97, 98], 0) by decide] at this
theorem r3 (W : World) (b p : Nat) (h : Rdr W b p [5, 2, 97, 98] 0) : Calls Try.prog 15 #[ptr p] W fun e w' => e = .returned (.int .i64 (-3)) ∧ Rdr w' b p [2, 97, 98] 0 ∧ Mod (One p) W w' := by
  have := readerInt_any W b p 0 _ h
  rwa [show rint [5, 2, 97, 98] 0 = (-3, [2, 97, 98], 0) by decide] at this
theorem r4 (W : World) (b p : Nat) (h : Rdr W b p [2, 97, 98] 0) : Calls Try.prog 16 #[ptr p, .int .i64 5] W fun e w' => ∃ v', e = .returned v' ∧ Own 5 w' W.heap.size v' [97, 98] ∧ Rdr w' b p [] 0 ∧ Mod (One p) W w' := by
  have := readerText_any W b p 0 5 _ h (by omega) (by omega)
  rwa [show rtext 5 [2, 97, 98] 0 = ([97, 98], [], 0) by decide] at this
theorem r5 (W : World) (b p : Nat) (h : Rdr W b p [] 0) : Calls Try.prog 17 #[ptr p] W fun e w' => e = .returned (.int .i64 0) ∧ W = w' :=
  readerEnd_any W b p 0 _ h
theorem a1 (W : World) (b p : Nat) (h : Rdr W b p [128, 0] 0) : Calls Try.prog 14 #[ptr p, .int .u64 9] W fun e w' => e = .returned (.int .u64 0) ∧ Rdr w' b p [128, 0] 11 ∧ Mod (One p) W w' := by
  have := readerNum_any W b p 0 9 _ h (by decide)
  rwa [show rnum 9 [128, 0] 0 = (0, [128, 0], 11) by decide] at this
theorem a2 (W : World) (b p : Nat) (h : Rdr W b p [128, 0] 11) : Calls Try.prog 17 #[ptr p] W fun e w' => e = .returned (.int .i64 11) ∧ W = w' :=
  readerEnd_any W b p 11 _ h
theorem b1 (W : World) (b p : Nat) (h : Rdr W b p [172, 2] 0) : Calls Try.prog 14 #[ptr p, .int .u64 299] W fun e w' => e = .returned (.int .u64 0) ∧ Rdr w' b p [172, 2] 12 ∧ Mod (One p) W w' := by
  have := readerNum_any W b p 0 299 _ h (by decide)
  rwa [show rnum 299 [172, 2] 0 = (0, [172, 2], 12) by decide] at this
theorem b2 (W : World) (b p : Nat) (h : Rdr W b p [172, 2] 12) : Calls Try.prog 17 #[ptr p] W fun e w' => e = .returned (.int .i64 12) ∧ W = w' :=
  readerEnd_any W b p 12 _ h
theorem sealed_a : sealed [97] = [97, 48, 67, 208, 193] := by decide +kernel
theorem unsealed_a : unsealed [97, 48, 67, 208, 193] = ([97], 0) := by decide +kernel
theorem unsealed_abc : unsealed [97, 98, 99] = ([], 10) := by decide +kernel
theorem sum_nil : crcSum [] = 0 := by decide +kernel

theorem s1 {S : Nat → Prop} (W : World) (A : Option Addr) (c : Nat) (h : Bs S W A c [97]) : Calls Try.prog 19 #[.slice A 1 c] W fun e w' => ∃ v', e = .returned v' ∧ Own 5 w' W.heap.size v' [97, 48, 67, 208, 193] ∧ Below W.heap.size W w' := by
  have := seal_any W A c [97] h (by simp)
  rwa [sealed_a] at this
theorem s2 {S : Nat → Prop} (W : World) (A : Option Addr) (c : Nat) (h : Bs S W A c [97, 48, 67, 208, 193]) : Calls Try.prog 18 #[.slice A 5 c] W fun e w' => ∃ v', e = .returned (.tuple #[v', .int .i64 0]) ∧ Own 5 w' W.heap.size v' [97] ∧ Below W.heap.size W w' := by
  have := unseal_any W A c [97, 48, 67, 208, 193] h (by simp)
  rwa [unsealed_a] at this
theorem s3 {S : Nat → Prop} (W : World) (A : Option Addr) (c : Nat) (h : Bs S W A c [97, 98, 99]) : Calls Try.prog 18 #[.slice A 3 c] W fun e w' => ∃ v', e = .returned (.tuple #[v', .int .i64 10]) ∧ Own 5 w' W.heap.size v' [] ∧ Below W.heap.size W w' := by
  have := unseal_any W A c [97, 98, 99] h (by simp)
  rwa [unsealed_abc] at this
theorem s4 (W : World) : Calls Try.prog 21 #[.slice none 0 0] W fun e w' => e = .returned (.int .u32 0) ∧ W = w' := by
  have := sum_any (S := Nil) W none 0 [] (Bs.nil _ _ _ (by simp [maxLen])) (by simp)
  rwa [sum_nil] at this

set_option maxRecDepth 100000 in
set_option maxHeartbeats 2000000 in
theorem walk (w : World) : Calls Try.prog 3 #[] w fun e w' => e = .returned (.bool true) ∧ Below w.heap.size w w' := by
  have hcv := fun (w : World) (C : Array Value) (n c : Nat) => Lib.run_convert_bytes_const (P := Try.prog) w 24 5 C n c Try.underlying24 Try.underlying5
  go_enter Try.func3, Try.ntmps3
  go_wp2_with fail
  refine (newReader_any _ _ _ [7, 172, 2, 5, 2, 97, 98] (const_src w 5 _ _ (by simp [maxLen])) (by simp)).mono ?_; rintro e w1 ⟨p, rfl, hp1, hw1, hb1⟩
  go_wp2_with fail
  refine (r1 w1 _ p hw1).mono ?_; rintro e w2 ⟨rfl, hw2, hm2⟩
  go_wp2_with fail
  refine (r2 w2 _ p hw2).mono ?_; rintro e w3 ⟨rfl, hw3, hm3⟩
  go_wp2_with fail
  refine (r3 w3 _ p hw3).mono ?_; rintro e w4 ⟨rfl, hw4, hm4⟩
  go_wp2_with fail
  refine (r4 w4 _ p hw4).mono ?_; rintro e w5 ⟨v5, rfl, ho5, hw5, hm5⟩; obtain ⟨A5, c5, rfl, hs5⟩ := ho5.form; have hc5 : (convert 24 9 (.slice A5 2 c5)).run Try.prog w5 = .ok (.string ⟨#[97, 98]⟩) w5 := run_str tyU8 tyStr hs5
  go_wp2_with fail
  refine (r5 w5 _ p hw5).mono ?_; rintro e w6 ⟨rfl, rfl⟩
  go_wp2_with fail
  refine (newReader_any _ _ _ [128, 0] (new_src w5 5 _ (by simp [maxLen])) (by simp)).mono ?_; rintro e w7 ⟨q, rfl, hq7, hw7, hb7⟩
  go_wp2_with fail
  refine (newReader_any _ _ _ [172, 2] (new_src w7 5 _ (by simp [maxLen])) (by simp)).mono ?_; rintro e w8 ⟨u, rfl, hu8, hw8, hb8⟩; have ha8 := hw7.mod (Mod.of_below ((Below.refl w7.heap.size w7).alloc (Nat.le_refl _) _ |>.trans (hb8.mono (by simp))) Nil) (fun _ _ _ hf => hf) hq7
  go_wp2_with fail
  refine (a1 w8 _ q ha8).mono ?_; rintro e w9 ⟨rfl, ha9, hm9⟩
  go_wp2_with fail
  refine (a2 w9 _ q ha9).mono ?_; rintro e w10 ⟨rfl, rfl⟩; have hu9 := hw8.mod hm9 (fun k h1 h2 h3 => by have := hw7.lt; unfold One at h3; simp at h1; omega) hu8
  go_wp2_with fail
  refine (b1 w9 _ u hu9).mono ?_; rintro e w11 ⟨rfl, hu11, hm11⟩
  go_wp2_with fail
  refine (b2 w11 _ u hu11).mono ?_; rintro e w12 ⟨rfl, rfl⟩
  go_wp2_with fail
  refine (s1 _ _ _ (const_src w11 5 [97] _ (by simp [maxLen]))).mono ?_; rintro e w13 ⟨v13, rfl, ho13, hb13⟩; obtain ⟨A13, c13, rfl, hs13⟩ := ho13.form
  go_wp2_with fail
  refine (s2 _ _ _ hs13).mono ?_; rintro e w14 ⟨v14, rfl, ho14, hb14⟩; obtain ⟨A14, c14, rfl, hs14⟩ := ho14.form
  go_wp2_with fail
  refine (s3 _ _ _ (const_src w14 5 [97, 98, 99] _ (by simp [maxLen]))).mono ?_; rintro e w15 ⟨v15, rfl, ho15, hb15⟩; have hs15 := (hs14.old ((Below.refl _ _).alloc (Nat.le_refl _) _)).old hb15
  go_wp2_with fail
  refine (known_any w15).mono ?_; rintro e w16 ⟨rfl, hb16⟩; have hc16 : (convert 24 9 (.slice A14 1 c14)).run Try.prog w16 = .ok (.string ⟨#[97]⟩) w16 := run_str tyU8 tyStr (hs15.old hb16)
  go_wp2_with fail
  refine (s4 w16).mono ?_; rintro e w17 ⟨rfl, rfl⟩
  go_wp2_with fail
  go_ret
  refine ⟨rfl, ?_⟩
  have U1 := (Up.refl w).alloc (.cells (u8s [7, 172, 2, 5, 2, 97, 98]).toArray 5 (7, 8))
  have P1 := Nat.le_trans U1.size hp1
  have U5 := ((((U1.trans hb1).one hm2 P1).one hm3 P1).one hm4 P1).one hm5 P1
  have U6 := U5.alloc (.cells (u8s [128, 0]).toArray 5)
  have Q1 := Nat.le_trans U6.size hq7
  have U7 := (U6.trans hb7).alloc (.cells (u8s [172, 2]).toArray 5)
  have R1 := Nat.le_trans U7.size hu8
  have U11 := ((U7.trans hb8).one hm9 Q1).one hm11 R1
  exact (((((U11.alloc _).trans hb13).trans hb14).alloc _).trans hb15 |>.trans hb16).below

theorem contract (H : Type) (enc : TypeId × Value → H) (W : World) (args : Array Value) (ds gs : List (DataW H)) (before : List MemPlace)
    (hW : DataW.Whole enc Try.prog Try.f3.params.toList Rows.packKnownSpec.vars false W args.toList ds gs before) :
    Calls Try.prog 3 args W fun e W' => ∃ v, e = .returned v ∧ Rows.packKnownSpec.post enc Try.prog Try.f3 false true false false W args v W' := by
  have hW' := hW
  obtain ⟨p, q, hA0, hV, rfl, hfz, hnd⟩ := hW
  have hA : DataW.TrodAll enc Try.prog W 0 (fun _ => true) true Try.f3.params.toList args.toList ds p := hA0
  rw [Try.params3] at hA
  obtain ⟨hargs, rfl, rfl⟩ := trodAll_nil hA
  obtain rfl : args = #[] := by cases args; simp_all
  refine (walk W).mono fun e W' ⟨he, hb⟩ => ⟨.bool true, he, ?_⟩
  exact law_post laidOut (by kernel_rfl) Try.underlying4 (by rw [Try.params3]; intro t ht; simp at ht) rfl rfl hW' hb

set_option maxRecDepth 100000 in
theorem lifted (os : Os) (started : os.Started) (H : Type) (enc : TypeId × Value → H) :
    ReturnsInHanded {} Try.checked os 3 .any (Rows.packKnownSpec.pre6 enc Try.prog Try.f3 Rows.packKnownRow.domain false) (Rows.packKnownSpec.post enc Try.prog Try.f3 false true false false) := by
  refine returnsInHanded_of_change (C := Try.checked) own started (by kernel_rfl) Try.func3
    (ChangeSpec.witness6 (enc := enc) (C := Try.checked) false ⟨#[], #[], []⟩ 8 (by kernel_rfl) (by kernel_rfl) (by kernel_rfl) (by kernel_rfl)) ?_
  intro W base args ds gs before hval hW _ _
  exact contract H enc W args ds gs before hW

theorem proved : Rows.PackKnownSaid :=
  OpenClaim.holds_of_wide 3 Try.f3 rfl rfl rfl rfl rfl rfl rfl ⟨rfl, rfl, rfl, rfl, rfl⟩ rfl rfl rfl rfl rfl (by kernel_rfl) Try.func3 (by kernel_rfl)
    (of_decide_eq_true (by kernel_rfl)) (by unfold Func.isWrapper; first | (rw [if_pos (by decide +kernel)]; kernel_rfl) | (rw [if_neg (by decide +kernel)]; exact ⟨rfl, rfl⟩))
    (fun os started H enc _ => lifted os started H enc)
end Go.Proofs.Ytlefkbmenceflaa.packKnown
