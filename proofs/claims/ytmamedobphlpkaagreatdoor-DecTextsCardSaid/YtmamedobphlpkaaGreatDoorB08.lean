/-
  Prog3 · Known3 · Con3 · LawD · Bigt · Loop · Digw · RefH · Bytes · Num · TextR
-/
import Derived.Test.YtmamedobphlpkaaGreatDoorA10
import Derived.Test.YtmamedobphlpkaaGreatDoorA11
import Derived.Test.YtmamedobphlpkaaGreatDoorB03
import Derived.Test.YtmamedobphlpkaaGreatDoorB06
import Derived.Test.YtmamedobphlpkaaGreatDoorB07
import Derived.Test.YtmamedobphlpkaaGreatDoorCards
import Derived.Test.YtmamedobphlpkaaGreatDoorTie
import Derived.ProofKit
import Derived.OpenShut
import Derived.Deep.DeepHandedRow
import Derived.Deep.DeepWitnessRowRef
import Derived.Lib.LaidTab
import Derived.Lib.SmallJoins
import Derived.LaidMore
import Derived.Stop.LaidErr
import Derived.LoopN
import Derived.Lib.SlBytesRow
import Derived.Lib.ItoaNum
import Derived.Lib.ParseIntB
set_option linter.unusedSimpArgs false
set_option linter.unusedVariables false

namespace Go.Proofs.YtmamedobphlpkaaGreatDoor
open Go.RowKit

/-- what is answered: a C, a scale, an error -/
def okP (z s : Int) : Int × Int × Int := (rz z, rs z s, rE z)
def erP (er : Int) : Int × Int × Int := (0, 0, er)
def decV (p : Int × Int × Int) : Value := .tuple #[Dc p.1 p.2.1, .int .i64 p.2.2]
def sumP (f : Int → Int → Int) (c s d t : Int) : Int × Int × Int :=
  if May s ∧ May t then (if Fits (roundZ c (s - max s t)) ∧ Fits (roundZ d (t - max s t)) then okP (f (roundZ c (s - max s t)) (roundZ d (t - max s t))) (max s t) else erP 20) else erP 21
def negP (c s : Int) : Int × Int × Int := if May s then okP (-c) s else erP 21
def mulP (c s d t u : Int) : Int × Int × Int := if May s ∧ May t ∧ May u then okP (roundZ (c * d) (s + t - u)) u else erP 21
def rescP (c s t : Int) : Int × Int × Int := if May s ∧ May t then okP (roundZ c (s - t)) t else erP 21
theorem join_add (w : World) (c s d t : Int) (hc : Fits c) (hd : Fits d) : Calls Tryz.prog 20 #[Dc c s, Dc d t, .func (.func 57) #[] #[]] w fun e w' => e = .returned (decV (sumP (· + ·) c s d t)) ∧ Below w.heap.size w w' := by
  unfold sumP
  by_cases hs : May s
  · by_cases ht : May t
    · rw [if_pos ⟨hs, ht⟩]
      by_cases hm : s ≤ t
      · rw [show max s t = t by omega]
        by_cases h1 : Fits (roundZ c (s - t))
        · by_cases h2 : Fits (roundZ d (t - t))
          · rw [if_pos ⟨h1, h2⟩]
            have := add_le_ok w c s d t hc hd hs ht hm h1 h2
            rwa [rz_fit h1, rz_fit h2] at this
          · rw [if_neg (fun h => h2 h.2)]; exact add_le_over2 w c s d t hc hd hs ht hm h1 h2
        · rw [if_neg (fun h => h1 h.1)]; exact add_le_over1 w c s d t hc hd hs ht hm h1
      · rw [show max s t = s by omega]
        by_cases h1 : Fits (roundZ c (s - s))
        · by_cases h2 : Fits (roundZ d (t - s))
          · rw [if_pos ⟨h1, h2⟩]
            have := add_gt_ok w c s d t hc hd hs ht (by omega) h1 h2
            rwa [rz_fit h1, rz_fit h2] at this
          · rw [if_neg (fun h => h2 h.2)]; exact add_gt_over2 w c s d t hc hd hs ht (by omega) h1 h2
        · rw [if_neg (fun h => h1 h.1)]; exact add_gt_over1 w c s d t hc hd hs ht (by omega) h1
    · rw [if_neg (fun h => ht h.2)]; exact addj_bad2 w c s d t hs ht
  · rw [if_neg (fun h => hs h.1)]; exact addj_bad1 w c s d t hs

theorem join_sub (w : World) (c s d t : Int) (hc : Fits c) (hd : Fits d) : Calls Tryz.prog 20 #[Dc c s, Dc d t, .func (.func 21) #[] #[]] w fun e w' => e = .returned (decV (sumP (· - ·) c s d t)) ∧ Below w.heap.size w w' := by
  unfold sumP
  by_cases hs : May s
  · by_cases ht : May t
    · rw [if_pos ⟨hs, ht⟩]
      by_cases hm : s ≤ t
      · rw [show max s t = t by omega]
        by_cases h1 : Fits (roundZ c (s - t))
        · by_cases h2 : Fits (roundZ d (t - t))
          · rw [if_pos ⟨h1, h2⟩]
            have := sub_le_ok w c s d t hc hd hs ht hm h1 h2
            rwa [rz_fit h1, rz_fit h2] at this
          · rw [if_neg (fun h => h2 h.2)]; exact sub_le_over2 w c s d t hc hd hs ht hm h1 h2
        · rw [if_neg (fun h => h1 h.1)]; exact sub_le_over1 w c s d t hc hd hs ht hm h1
      · rw [show max s t = s by omega]
        by_cases h1 : Fits (roundZ c (s - s))
        · by_cases h2 : Fits (roundZ d (t - s))
          · rw [if_pos ⟨h1, h2⟩]
            have := sub_gt_ok w c s d t hc hd hs ht (by omega) h1 h2
            rwa [rz_fit h1, rz_fit h2] at this
          · rw [if_neg (fun h => h2 h.2)]; exact sub_gt_over2 w c s d t hc hd hs ht (by omega) h1 h2
        · rw [if_neg (fun h => h1 h.1)]; exact sub_gt_over1 w c s d t hc hd hs ht (by omega) h1
    · rw [if_neg (fun h => ht h.2)]; exact subj_bad2 w c s d t hs ht
  · rw [if_neg (fun h => hs h.1)]; exact subj_bad1 w c s d t hs

theorem addd_0 (w : World) (c s d t : Int) (p : Int × Int × Int) (hJ : ∀ w, Calls Tryz.prog 20 #[Dc c s, Dc d t, .func (.func 57) #[] #[]] w fun e w' => e = .returned (decV p) ∧ Below w.heap.size w w') : Calls Tryz.prog 41 #[Dc c s, Dc d t] w fun e w' => e = .returned (decV p) ∧ Below w.heap.size w w' := by
  refine d_in (args := [Dc c s, Dc d t]) 11 Tryz.func41 rfl rfl rfl ?_
  refine d_reg ?_
  refine h_box (cs := #[hiW c, loW c, .int .i64 s]) rfl rfl rfl rfl ?_; intro g2_1
  refine h_box (cs := #[hiW d, loW d, .int .i64 t]) rfl rfl rfl rfl ?_; intro g3_2
  refine h_alloc zeDec rfl rfl ?_; intro g4_3
  refine h_q hfl rfl ?_
  refine h_done (d_reg ?_)
  refine h_load 2 (v := .agg #[hiW c, loW c, .int .i64 s]) (reads_agg (cs := [hiW c, loW c, .int .i64 s]) tyDec rfl) rfl rfl rfl rfl ?_
  refine h_load 1 (v := .agg #[hiW d, loW d, .int .i64 t]) (reads_agg (cs := [hiW d, loW d, .int .i64 t]) tyDec rfl) rfl rfl rfl rfl ?_
  refine h_call (ent_of Tryz.func20 (by kernel_rfl) rfl) (fun w hH => hJ _) rfl rfl rfl rfl ?_
  refine h_q hfl rfl ?_
  refine h_store 0 (v := Dc p.1 p.2.1) (#[hiW p.1, loW p.1, .int .i64 p.2.1]) tyDec.2 rfl rfl rfl rfl rfl rfl rfl rfl rfl rfl ?_
  refine h_q hfl rfl ?_
  refine h_done (d_ret ?_)
  exact f_fin2 (.cell 0 (v := .agg #[hiW p.1, loW p.1, .int .i64 p.2.1]) (reads_agg (cs := [hiW p.1, loW p.1, .int .i64 p.2.1]) tyDec rfl) rfl rfl) (.tmp rfl) (fun w h => ⟨rfl, h.up.below⟩) rfl

theorem addd_any (w : World) (c s d t : Int) (hc : Fits c) (hd : Fits d) : Calls Tryz.prog 41 #[Dc c s, Dc d t] w fun e w' => e = .returned (decV (sumP (· + ·) c s d t)) ∧ Below w.heap.size w w' := addd_0 w c s d t _ fun w => join_add w c s d t hc hd

theorem subd_0 (w : World) (c s d t : Int) (p : Int × Int × Int) (hJ : ∀ w, Calls Tryz.prog 20 #[Dc c s, Dc d t, .func (.func 21) #[] #[]] w fun e w' => e = .returned (decV p) ∧ Below w.heap.size w w') : Calls Tryz.prog 6 #[Dc c s, Dc d t] w fun e w' => e = .returned (decV p) ∧ Below w.heap.size w w' := by
  refine d_in (args := [Dc c s, Dc d t]) 11 Tryz.func6 rfl rfl rfl ?_
  refine d_reg ?_
  refine h_box (cs := #[hiW c, loW c, .int .i64 s]) rfl rfl rfl rfl ?_; intro g2_1
  refine h_box (cs := #[hiW d, loW d, .int .i64 t]) rfl rfl rfl rfl ?_; intro g3_2
  refine h_alloc zeDec rfl rfl ?_; intro g4_3
  refine h_q hfl rfl ?_
  refine h_done (d_reg ?_)
  refine h_load 2 (v := .agg #[hiW c, loW c, .int .i64 s]) (reads_agg (cs := [hiW c, loW c, .int .i64 s]) tyDec rfl) rfl rfl rfl rfl ?_
  refine h_load 1 (v := .agg #[hiW d, loW d, .int .i64 t]) (reads_agg (cs := [hiW d, loW d, .int .i64 t]) tyDec rfl) rfl rfl rfl rfl ?_
  refine h_call (ent_of Tryz.func20 (by kernel_rfl) rfl) (fun w hH => hJ _) rfl rfl rfl rfl ?_
  refine h_q hfl rfl ?_
  refine h_store 0 (v := Dc p.1 p.2.1) (#[hiW p.1, loW p.1, .int .i64 p.2.1]) tyDec.2 rfl rfl rfl rfl rfl rfl rfl rfl rfl rfl ?_
  refine h_q hfl rfl ?_
  refine h_done (d_ret ?_)
  exact f_fin2 (.cell 0 (v := .agg #[hiW p.1, loW p.1, .int .i64 p.2.1]) (reads_agg (cs := [hiW p.1, loW p.1, .int .i64 p.2.1]) tyDec rfl) rfl rfl) (.tmp rfl) (fun w h => ⟨rfl, h.up.below⟩) rfl

theorem subd_any (w : World) (c s d t : Int) (hc : Fits c) (hd : Fits d) : Calls Tryz.prog 6 #[Dc c s, Dc d t] w fun e w' => e = .returned (decV (sumP (· - ·) c s d t)) ∧ Below w.heap.size w w' := subd_0 w c s d t _ fun w => join_sub w c s d t hc hd

theorem negP_any (w : World) (c s : Int) (hc : Fits c) : Calls Tryz.prog 8 #[Dc c s] w fun e w' => e = .returned (decV (negP c s)) ∧ Below w.heap.size w w' := by
  unfold negP
  by_cases hs : May s
  · rw [if_pos hs]; exact negd_any w c s hc hs
  · rw [if_neg hs]; exact negd_bad w c s hs
theorem mulP_any (w : World) (c s d t u : Int) (hc : Fits c) (hd : Fits d) : Calls Tryz.prog 10 #[Dc c s, Dc d t, .int .i64 u] w fun e w' => e = .returned (decV (mulP c s d t u)) ∧ Below w.heap.size w w' := by
  unfold mulP
  by_cases hs : May s
  · by_cases ht : May t
    · by_cases hu : May u
      · rw [if_pos ⟨hs, ht, hu⟩]; exact muld_any w c s d t u hc hd hs ht hu
      · rw [if_neg (fun h => hu h.2.2)]; exact muld_bad3 w c s d t u hs ht hu
    · rw [if_neg (fun h => ht h.2.1)]; exact muld_bad2 w c s d t u hs ht
  · rw [if_neg (fun h => hs h.1)]; exact muld_bad1 w c s d t u hs
theorem rescP_any (w : World) (c s t : Int) (hc : Fits c) : Calls Tryz.prog 11 #[Dc c s, .int .i64 t] w fun e w' => e = .returned (decV (rescP c s t)) ∧ Below w.heap.size w w' := by
  unfold rescP
  by_cases hs : May s
  · by_cases ht : May t
    · rw [if_pos ⟨hs, ht⟩]; exact resc_any w c s t hc hs ht
    · rw [if_neg (fun h => ht h.2)]; exact resc_bad2 w c s t hs ht
  · rw [if_neg (fun h => hs h.1)]; exact resc_bad1 w c s t hs
/-- what Cmp answers -/
def cmpV (c s d t : Int) : Value := if May s ∧ May t then .tuple #[.int .i64 (cmpD c s d t), .int .i64 0] else .tuple #[.int .i64 0, .int .i64 21]
theorem cmpV_any (w : World) (c s d t : Int) (hc : Fits c) (hd : Fits d) : Calls Tryz.prog 9 #[Dc c s, Dc d t] w fun e w' => e = .returned (cmpV c s d t) ∧ Below w.heap.size w w' := by
  unfold cmpV
  by_cases hs : May s
  · by_cases ht : May t
    · rw [if_pos ⟨hs, ht⟩]; exact cmpd_any w c s d t hc hd hs ht
    · rw [if_neg (fun h => ht h.2)]; exact cmp_bad2 w c s d t hs ht
  · rw [if_neg (fun h => hs h.1)]; exact cmp_bad1 w c s d t hs
end Go.Proofs.YtmamedobphlpkaaGreatDoor

namespace Go.Proofs.YtmamedobphlpkaaGreatDoor
open Go.RowKit

theorem dn_any (w : World) (n s : Int) (hn : -9223372036854775808 ≤ n ∧ n < 9223372036854775808) : Calls Tryz.prog 7 #[.int .i64 n, .int .i64 s] w fun e w' => e = .returned (Dc n s) ∧ Below w.heap.size w w' := by
  refine d_in (args := [.int .i64 n, .int .i64 s]) 9 Tryz.func7 rfl rfl rfl ?_
  refine d_reg ?_
  refine h_alloc zeDec rfl rfl ?_; intro g4_1
  refine h_done (d_reg ?_)
  refine h_q hfl rfl ?_
  refine h_call (ent_of Tryz.func22 (by kernel_rfl) rfl) (fun w hH => of_any _ n hn) rfl rfl rfl rfl ?_
  refine h_q hfl rfl ?_
  refine h_build (cs := #[hiW n, loW n, .int .i64 s]) (by kernel_rfl) rfl rfl rfl ?_
  refine h_store 0 (v := .agg #[hiW n, loW n, .int .i64 s]) (#[hiW n, loW n, .int .i64 s]) tyDec.2 rfl rfl rfl rfl rfl rfl rfl rfl rfl rfl ?_
  refine h_done (d_ret ?_)
  exact f_fin1 (.cell 0 (v := .agg #[hiW n, loW n, .int .i64 s]) (reads_agg (cs := [hiW n, loW n, .int .i64 s]) tyDec rfl) rfl rfl) (fun w h => ⟨rfl, h.up.below⟩) rfl

theorem k_add : sumP (· + ·) 15 1 225 2 = (375, 2, 0) := by decide +kernel
theorem k_mul : mulP 5 2 5 1 2 = (2, 2, 0) := by decide +kernel
theorem k_text : textD (-5) 2 = [45, 48, 46, 48, 53] := by decide +kernel
theorem kAdd (w : World) : Calls Tryz.prog 41 #[Dc 15 1, Dc 225 2] w fun e w' => e = .returned (.tuple #[Dc 375 2, .int .i64 0]) ∧ Below w.heap.size w w' := by
  have := addd_any w 15 1 225 2 (by decide) (by decide)
  rwa [k_add] at this
theorem kMul (w : World) : Calls Tryz.prog 10 #[Dc 5 2, Dc 5 1, .int .i64 2] w fun e w' => e = .returned (.tuple #[Dc 2 2, .int .i64 0]) ∧ Below w.heap.size w w' := by
  have := mulP_any w 5 2 5 1 2 (by decide) (by decide)
  rwa [k_mul] at this
theorem kText (w : World) (htab : Lib.TabIs Tryz.prog w "internal/strconv.uint64pow10" .u64 Lib.pow10Tab) (hg : 5 < w.heap.size) : Calls Tryz.prog 13 #[Dc (-5) 2] w fun e w' => e = .returned (.tuple #[.string (bs [45, 48, 46, 48, 53]), .int .i64 0]) ∧ Below w.heap.size w w' := by
  have := textd_any w (-5) 2 (by decide) (by decide) htab hg
  rwa [k_text] at this

theorem known3_any (w : World) (htab : Lib.TabIs Tryz.prog w "internal/strconv.uint64pow10" .u64 Lib.pow10Tab) (hg : 5 < w.heap.size) : Calls Tryz.prog 14 #[] w fun e w' => e = .returned (.bool true) ∧ Below w.heap.size w w' := by
  refine d_in (args := []) 48 Tryz.func14 rfl rfl rfl ?_
  refine d_reg ?_
  refine h_q hfl rfl ?_
  refine h_done (d_reg ?_)
  refine h_call (ent_of Tryz.func7 (by kernel_rfl) rfl) (fun w hH => dn_any _ 15 1 (by omega)) rfl rfl rfl rfl ?_
  refine h_call (ent_of Tryz.func7 (by kernel_rfl) rfl) (fun w hH => dn_any _ 225 2 (by omega)) rfl rfl rfl rfl ?_
  refine h_call (ent_of Tryz.func41 (by kernel_rfl) rfl) (fun w hH => kAdd _) rfl rfl rfl rfl ?_
  refine h_q hfl rfl ?_
  refine h_alloc zeDec rfl rfl ?_; intro g1_1
  refine h_store 0 (v := Dc 375 2) (#[hiW 375, loW 375, .int .i64 2]) tyDec.2 rfl rfl rfl rfl rfl rfl rfl rfl rfl rfl ?_
  refine h_q hfl rfl ?_
  refine h_done (d_reg ?_)
  refine h_call (ent_of Tryz.func7 (by kernel_rfl) rfl) (fun w hH => dn_any _ (-5) 2 (by omega)) rfl rfl rfl rfl ?_
  refine h_call (ent_of Tryz.func13 (by kernel_rfl) rfl) (fun w hH => kText _ (tab_below htab hH.up.below hg) (Nat.lt_of_lt_of_le hg hH.up.size)) rfl rfl rfl rfl ?_
  refine h_q hfl rfl ?_
  refine h_done (d_reg ?_)
  refine h_call (ent_of Tryz.func7 (by kernel_rfl) rfl) (fun w hH => dn_any _ 5 2 (by omega)) rfl rfl rfl rfl ?_
  refine h_call (ent_of Tryz.func7 (by kernel_rfl) rfl) (fun w hH => dn_any _ 5 1 (by omega)) rfl rfl rfl rfl ?_
  refine h_call (ent_of Tryz.func10 (by kernel_rfl) rfl) (fun w hH => kMul _) rfl rfl rfl rfl ?_
  refine h_q hfl rfl ?_
  refine h_alloc zeDec rfl rfl ?_; intro g5_2
  refine h_store 0 (v := Dc 2 2) (#[hiW 2, loW 2, .int .i64 2]) tyDec.2 rfl rfl rfl rfl rfl rfl rfl rfl rfl rfl ?_
  refine h_q hfl rfl ?_
  refine h_done (d_seq ?_)
  refine d_par 24 2 [⟨.quiet, 0, fun _ => .int .i64 0, []⟩, ⟨.quiet, 0, fun _ => .bool true, [0]⟩, ⟨.quiet, 0, fun _ => .bool true, [1]⟩, ⟨.quiet, 0, fun _ => .agg #[hiW 375, loW 375, .int .i64 2], [2]⟩, ⟨.call, 1, fun _ => Dc 375 2, [2]⟩, ⟨.quiet, 1, fun _ => .bool true, [3, 4, 2]⟩, ⟨.quiet, 1, fun _ => .bool true, [2, 5]⟩, ⟨.quiet, 1, fun _ => .bool true, [6]⟩, ⟨.quiet, 1, fun _ => .int .i64 0, [7]⟩, ⟨.quiet, 1, fun _ => .bool true, [8, 7]⟩, ⟨.quiet, 1, fun _ => .bool true, [7, 9]⟩, ⟨.quiet, 1, fun _ => .bool true, [10]⟩, ⟨.quiet, 1, fun _ => .string (bs ([45, 48, 46, 48, 53])), [11]⟩, ⟨.quiet, 1, fun _ => .bool true, [12, 11]⟩, ⟨.quiet, 1, fun _ => .bool true, [11, 13]⟩, ⟨.quiet, 1, fun _ => .bool true, [14]⟩, ⟨.quiet, 1, fun _ => .int .i64 0, [15]⟩, ⟨.quiet, 1, fun _ => .bool true, [16, 15]⟩, ⟨.quiet, 1, fun _ => .bool true, [15, 17]⟩, ⟨.quiet, 1, fun _ => .bool true, [18]⟩, ⟨.quiet, 1, fun _ => .agg #[hiW 2, loW 2, .int .i64 2], [19]⟩, ⟨.call, 2, fun _ => Dc 2 2, [19]⟩, ⟨.quiet, 2, fun _ => .bool true, [20, 21, 19]⟩, ⟨.quiet, 2, fun _ => .bool true, [19, 22]⟩] [(0, .bool false), (1, .pointer (some ⟨g1_1, 0, none⟩)), (2, .int .i64 0), (3, .string (bs ([45, 48, 46, 48, 53]))), (4, .int .i64 0), (5, .pointer (some ⟨g5_2, 0, none⟩)), (6, .int .i64 0)] (by kernel_rfl) (by kernel_rfl) ⟨rfl, rfl, rfl, rfl, rfl, rfl, rfl, trivial⟩ ?_ ?_
  · skip
    refine o_cons (o_q hfl (fun _ _ => rfl) (fun _ _ => rfl)) ?_
    refine o_cons (o_cmp (cmp_eql_t (by decide)) (fun _ _ => rfl) rfl (fun _ _ => rfl) (fun _ _ => rfl)) ?_
    refine o_cons (o_q hfl (fun _ _ => rfl) (fun _ _ => rfl)) ?_
    refine o_cons (o_load 1 (reads_agg (cs := [hiW 375, loW 375, .int .i64 2]) tyDec rfl) (fun _ _ => rfl) rfl (fun _ _ => rfl) rfl) ?_
    refine o_cons (o_call (ent_of Tryz.func7 (by kernel_rfl) rfl) (fun w hU => dn_any _ 375 2 (by omega)) (fun _ _ => rfl) rfl (fun _ _ => rfl) (fun _ _ => rfl)) ?_
    refine o_cons (o_eqs (eqD_same _ _ _) (fun _ _ => rfl) rfl (fun _ _ => rfl) (fun _ _ => rfl)) ?_
    refine o_cons (o_q hfl (fun _ _ => rfl) (fun _ _ => rfl)) ?_
    refine o_cons (o_q hfl (fun _ _ => rfl) (fun _ _ => rfl)) ?_
    refine o_cons (o_q hfl (fun _ _ => rfl) (fun _ _ => rfl)) ?_
    refine o_cons (o_cmp (cmp_eql_t (by decide)) (fun _ _ => rfl) rfl (fun _ _ => rfl) (fun _ _ => rfl)) ?_
    refine o_cons (o_q hfl (fun _ _ => rfl) (fun _ _ => rfl)) ?_
    refine o_cons (o_q hfl (fun _ _ => rfl) (fun _ _ => rfl)) ?_
    refine o_cons (o_q hfl (fun _ _ => rfl) (fun _ _ => rfl)) ?_
    refine o_cons (o_same (by decide) (fun _ _ => rfl) rfl (fun _ _ => rfl) (fun _ _ => rfl)) ?_
    refine o_cons (o_q hfl (fun _ _ => rfl) (fun _ _ => rfl)) ?_
    refine o_cons (o_q hfl (fun _ _ => rfl) (fun _ _ => rfl)) ?_
    refine o_cons (o_q hfl (fun _ _ => rfl) (fun _ _ => rfl)) ?_
    refine o_cons (o_cmp (cmp_eql_t (by decide)) (fun _ _ => rfl) rfl (fun _ _ => rfl) (fun _ _ => rfl)) ?_
    refine o_cons (o_q hfl (fun _ _ => rfl) (fun _ _ => rfl)) ?_
    refine o_cons (o_q hfl (fun _ _ => rfl) (fun _ _ => rfl)) ?_
    refine o_cons (o_load 0 (reads_agg (cs := [hiW 2, loW 2, .int .i64 2]) tyDec rfl) (fun _ _ => rfl) rfl (fun _ _ => rfl) rfl) ?_
    refine o_cons (o_call (ent_of Tryz.func7 (by kernel_rfl) rfl) (fun w hU => dn_any _ 2 2 (by omega)) (fun _ _ => rfl) rfl (fun _ _ => rfl) (fun _ _ => rfl)) ?_
    refine o_cons (o_eqs (eqD_same _ _ _) (fun _ _ => rfl) rfl (fun _ _ => rfl) (fun _ _ => rfl)) ?_
    refine o_cons (o_q hfl (fun _ _ => rfl) (fun _ _ => rfl)) ?_
    exact o_nil
  intro σ3 gs3
  refine WL2.keep (env' := [(0, .bool false), (47, .bool true)]) ⟨rfl, rfl, trivial⟩ ?_
  refine h_q hfl rfl ?_
  refine h_nil (f_to (d_ret ?_))
  exact f_fin1 (.tmp rfl) (fun w h => ⟨rfl, h.up.below⟩) rfl

theorem near_no (w : World) (c s : Int) : Calls Tryz.prog 16 #[Dc c s, .bool false] w fun e w' => e = .returned (Dc c s) ∧ Below w.heap.size w w' := by
  refine d_in (args := [Dc c s, .bool false]) 11 Tryz.func16 rfl rfl rfl ?_
  refine d_reg ?_
  refine h_box (cs := #[hiW c, loW c, .int .i64 s]) rfl rfl rfl rfl ?_; intro g2_1
  refine h_alloc zeDec rfl rfl ?_; intro g4_2
  refine h_done (d_seq (d_reg ?_))
  refine h_q hfl rfl ?_
  refine h_done (d_else rfl (d_skip (f_to (d_reg ?_))))
  refine h_load 1 (v := .agg #[hiW c, loW c, .int .i64 s]) (reads_agg (cs := [hiW c, loW c, .int .i64 s]) tyDec rfl) rfl rfl rfl rfl ?_
  refine h_store 0 (v := .agg #[hiW c, loW c, .int .i64 s]) (#[hiW c, loW c, .int .i64 s]) tyDec.2 rfl rfl rfl rfl rfl rfl rfl rfl rfl rfl ?_
  refine h_done (d_ret ?_)
  exact f_fin1 (.cell 0 (v := .agg #[hiW c, loW c, .int .i64 s]) (reads_agg (cs := [hiW c, loW c, .int .i64 s]) tyDec rfl) rfl rfl) (fun w h => ⟨rfl, h.up.below⟩) rfl

theorem near_yes (w : World) (c s : Int) (hs : -9223372036854775808 ≤ s ∧ s < 9223372036854775808) : Calls Tryz.prog 16 #[Dc c s, .bool true] w fun e w' => e = .returned (Dc c (s % 19)) ∧ Below w.heap.size w w' := by
  refine d_in (args := [Dc c s, .bool true]) 11 Tryz.func16 rfl rfl rfl ?_
  refine d_reg ?_
  refine h_box (cs := #[hiW c, loW c, .int .i64 s]) rfl rfl rfl rfl ?_; intro g2_1
  refine h_alloc zeDec rfl rfl ?_; intro g4_2
  refine h_done (d_seq (d_reg ?_))
  refine h_q hfl rfl ?_
  refine h_done (d_then rfl (d_reg1 ?_))
  refine h_q hfl rfl ?_
  refine h_load 1 (v := .int .i64 s) (reads_one tyInt rfl) rfl rfl rfl rfl ?_
  refine h_call (ent_of Tryz.func18 (by kernel_rfl) rfl) (fun w hH => as_same (pick_any _ s 19 hs (by decide))) rfl rfl rfl rfl ?_
  refine h_q hfl rfl ?_
  refine h_store 1 (v := .int .i64 (s % 19)) (#[hiW c, loW c, .int .i64 (s % 19)]) tyInt.2 rfl rfl rfl rfl rfl rfl rfl rfl rfl rfl ?_
  refine h_nil (f_to (d_reg ?_))
  refine h_load 1 (v := .agg #[hiW c, loW c, .int .i64 (s % 19)]) (reads_agg (cs := [hiW c, loW c, .int .i64 (s % 19)]) tyDec rfl) rfl rfl rfl rfl ?_
  refine h_store 0 (v := .agg #[hiW c, loW c, .int .i64 (s % 19)]) (#[hiW c, loW c, .int .i64 (s % 19)]) tyDec.2 rfl rfl rfl rfl rfl rfl rfl rfl rfl rfl ?_
  refine h_done (d_ret ?_)
  exact f_fin1 (.cell 0 (v := .agg #[hiW c, loW c, .int .i64 (s % 19)]) (reads_agg (cs := [hiW c, loW c, .int .i64 (s % 19)]) tyDec rfl) rfl rfl) (fun w h => ⟨rfl, h.up.below⟩) rfl

/-- a scale that is mostly one that may be -/
def nearS (is : Bool) (s : Int) : Int := if is then s % 19 else s
theorem near_any (w : World) (c s : Int) (is : Bool) (hs : -9223372036854775808 ≤ s ∧ s < 9223372036854775808) : Calls Tryz.prog 16 #[Dc c s, .bool is] w fun e w' => e = .returned (Dc c (nearS is s)) ∧ Below w.heap.size w w' := by
  cases is
  · exact near_no w c s
  · exact near_yes w c s hs
end Go.Proofs.YtmamedobphlpkaaGreatDoor

namespace Go.Proofs.YtmamedobphlpkaaGreatDoor
open Go.RowKit

theorem pickL (w : World) {k n m : Int} (h : k % n = m) (hk : -9223372036854775808 ≤ k ∧ k < 9223372036854775808) (hn : 0 < n ∧ n ≤ 1048576) : Calls Tryz.prog 18 #[.int .i64 k, .int .i64 n] w fun e w' => e = .returned (.int .i64 m) ∧ Below w.heap.size w w' := by
  subst h; exact as_same (pick_any w k n hk hn)
theorem nearB (w : World) {c s m : Int} {is : Bool} (h : nearS is s = m) (hs : -9223372036854775808 ≤ s ∧ s < 9223372036854775808) : Calls Tryz.prog 16 #[Dc c s, .bool is] w fun e w' => e = .returned (Dc c m) ∧ Below w.heap.size w w' := by
  subst h; exact near_any w c s is hs
end Go.Proofs.YtmamedobphlpkaaGreatDoor

namespace Go.Proofs.YtmamedobphlpkaaGreatDoor
open Go.ChangeShapes Go.WideShapes Go.ChangeAt Go.RowKit

section
variable {H : Type} {enc : TypeId × Value → H}
set_option maxRecDepth 100000 in
theorem open_dec {W : World} {base b0 : Nat} {r : Reach} {spare : Nat → Bool} {held : Bool} {v : Value} {d : DataW H} {p : List MemPlace} (hval : Value.okWide Tryz.prog W r b0 26 v) (h : DataW.Trod enc Tryz.prog W base spare held 26 v d p) :
    ∃ x s, v = Dc x s ∧ Fits x ∧ -9223372036854775808 ≤ s ∧ s < 9223372036854775808 := by
  obtain ⟨cs, rfl, hsz⟩ := okWide_struct Tryz.underlying26 hval
  obtain ⟨c0, c1, c2, rfl⟩ := Joins.array3 (hsz.trans (by kernel_rfl))
  obtain ⟨fuel, hf⟩ := h
  obtain ⟨y0, y1, n, _, _, h0, h1⟩ := trod_struct2 Tryz.underlying26 hf
  have k0 : Tryz.prog.cellsOf 24 = 2 := by kernel_rfl
  have k1 : Tryz.prog.cellsOf 3 = 1 := by kernel_rfl
  have k2 : Tryz.prog.cellsOf 2 = 1 := by kernel_rfl
  have k3 : Tryz.prog.cellsOf 22 = 1 := by kernel_rfl
  have h0' : DataW.trod enc Tryz.prog W base spare held n 24 [c0, c1] = some y0 := by simpa [Value.cells, k0] using h0
  have h1' : DataW.trod enc Tryz.prog W base spare held n 3 [c2] = some y1 := by simpa [Value.cells, k1] using h1
  obtain ⟨u0, u1, n', _, _, g0, g1⟩ := trod_struct2 Tryz.underlying24 h0'
  have g0' : DataW.trod enc Tryz.prog W base spare held n' 2 [c0] = some u0 := by simpa [k2] using g0
  have g1' : DataW.trod enc Tryz.prog W base spare held n' 22 [c1] = some u1 := by simpa [k3] using g1
  obtain ⟨z0, e0, _, w0⟩ := DataW.trod_int Tryz.underlying2 g0'
  obtain ⟨z1, e1, _, w1⟩ := DataW.trod_int Tryz.underlying22 g1'
  obtain ⟨z2, e2, _, w2⟩ := DataW.trod_int Tryz.underlying3 h1'
  cases e0; cases e1; cases e2
  have b0 := wf_i64 w0
  have b1 := wf_u64 w1
  have b2 := wf_i64 w2
  refine ⟨z0 * 18446744073709551616 + z1, z2, ?_, by unfold Fits; omega, by omega, by omega⟩
  unfold Dc hiW loW
  rw [show (z0 * 18446744073709551616 + z1) / 18446744073709551616 = z0 by omega, show (z0 * 18446744073709551616 + z1) % 18446744073709551616 = z1 by omega]
end

theorem gPow : Tryz.prog.globalNamed "internal/strconv.uint64pow10" = some 5 := by kernel_rfl
theorem gPowType : (Tryz.prog.globals[5]?).map (·.type) = some 179 := by kernel_rfl
end Go.Proofs.YtmamedobphlpkaaGreatDoor

namespace Go.Proofs.YtmamedobphlpkaaGreatDoor
open Go.RowKit
def bigZ (z : Int) : Array Value := bigs (decide (z < 0)) z.natAbs
theorem bigZ_size (z : Int) : (bigZ z).size = 17 := bigs_size _ _
theorem tyBigC (z : Int) : AggOf Tryz.prog 73 (bigZ z).size := by rw [bigZ_size]; exact tyBig
def zBig : Array Value := #[.bool false, .int .u64 0, .int .u64 0, .int .u64 0, .int .u64 0, .int .u64 0, .int .u64 0, .int .u64 0, .int .u64 0, .int .u64 0, .int .u64 0, .int .u64 0, .int .u64 0, .int .u64 0, .int .u64 0, .int .u64 0, .int .u64 0]
theorem zBig_size : zBig.size = 17 := rfl
theorem zeBig : Zero Tryz.prog 73 zBig := zero_of (z := .agg zBig) (by kernel_rfl) rfl
theorem oneL_iff : ∀ {l : List Value}, (∀ v ∈ l, v.oneCell' = true) → oneL l = true
  | [], _ => rfl
  | v :: r, h => by
    unfold oneL
    rw [h v (by simp)]
    exact oneL_iff fun u hu => h u (by simp [hu])
theorem bigZ_one (z : Int) : oneL (bigZ z).toList = true := by
  refine oneL_iff fun v hv => ?_
  have h := bigs_one (decide (z < 0)) z.natAbs
  exact (Array.all_eq_true_iff_forall_mem.1 h) v (by simpa [bigZ] using hv)
theorem digs_oneL (n : Nat) : oneL (digs n).toList = true := by
  refine oneL_iff fun v hv => ?_
  have h := digs_one n
  exact (Array.all_eq_true_iff_forall_mem.1 h) v (by simpa using hv)
theorem over_all {c v : Array Value} (hs : c.size = v.size) : (over? c.toList 0 v.toList).toArray = v := by
  have : over? c.toList 0 v.toList = v.toList := by
    unfold over?
    rw [List.drop_eq_nil_of_le (by simp; omega)]
    simp
  rw [this]
theorem tyDigC (n : Nat) : AggOf Tryz.prog 71 (digs n).size := by rw [digs_size]; exact tyDigits
/-- the digits of a number, the number's flag -/
theorem reads_D (b : Bool) (n : Nat) : Reads Tryz.prog 71 (bigs b n) 1 (.agg (digs n)) := by
  have := reads_sub (off := 1) tyDigits (cs := bigs b n) (digs n).toList (by simp [digs_size]) (fun j v hv => by
    have hj : j < 16 := by
      have := (List.getElem?_eq_some_iff.1 hv).1
      simpa [digs_size] using this
    rw [Nat.add_comm, bigs_get _ _ hj]
    rw [Array.getElem?_toList, digs_get _ hj] at hv
    exact hv)
  simpa using this
end Go.Proofs.YtmamedobphlpkaaGreatDoor

namespace Go.Proofs.YtmamedobphlpkaaGreatDoor
open Go.RowKit
section loops
variable {P : Program} {Q : Exit → Act → World → Prop} {n B : Nat} {w0 : World} {rs rs' : List RowT} {env env' : List (Nat × Value)} {c : Code} {α : Type}
theorem RowsOf.drop {w : World} : ∀ {rs : List RowT} (k : Nat), RowsOf w rs → RowsOf w (rs.drop k)
  | _, 0, h => h
  | [], k + 1, _ => trivial
  | (g, t, cs) :: r, k + 1, h => RowsOf.drop (rs := r) k h.2
theorem Apart.drop : ∀ {rs : List RowT} (k : Nat), Apart B rs → Apart B (rs.drop k)
  | _, 0, h => h
  | [], k + 1, _ => trivial
  | x :: r, k + 1, h => Apart.drop (rs := r) k h.2.2
theorem Hp.drop {w : World} (h : Hp B w0 w rs) (k : Nat) : Hp B w0 w (rs.drop k) := h.sub (fun h => h.drop k) (fun h => h.drop k)
theorem WC2.less (k : Nat) (h : WC2 P Q n env B w0 (rs.drop k) c) : WC2 P Q n env B w0 rs c := fun a w hF hH => h a w hF (hH.drop k)
theorem WC2.at_ (hs : Sub env env') (hr : rs = rs') (h : WC2 P Q n env' B w0 rs' c) : WC2 P Q n env B w0 rs c := fun a w hF hH => h a w (hF.keep hs) (hr ▸ hH)
def Again (n B : Nat) (w0 : World) (E : α → List (Nat × Value)) (R : α → List RowT) (Inv : α → Prop) (μ : α → Nat) (x : α) : Act → World → Prop := fun a w => ∃ y, Inv y ∧ μ y < μ x ∧ Fr n a (E y) ∧ Hp B w0 w (R y)
theorem d_loop (E : α → List (Nat × Value)) (R : α → List RowT) (Inv : α → Prop) (μ : α → Nat) (x : α) (hx : Inv x) (hE : Sub env (E x)) (hR : rs = R x) (h : ∀ x, Inv x → WC2 P (Exit.then (Again n B w0 E R Inv μ x) Q) n (E x) B w0 (R x) c) : WC2 P Q n env B w0 rs (.loop c) := by
  subst hR
  intro a w hF hH
  have key : ∀ m x, μ x < m → Inv x → ∀ a w, Fr n a (E x) → Hp B w0 w (R x) → Code.rounds P c Q m a w := by
    intro m
    induction m with
    | zero => intro x hx; omega
    | succ m ih =>
      intro x hm hx a w hF hH
      refine Code.wp_mono (fun e a' w' q => ?_) (h x hx a w hF hH)
      cases e with
      | normal =>
        obtain ⟨y, hy, hlt, hF', hH'⟩ := q
        exact ih y (by omega) hy a' w' hF' hH'
      | _ => exact q
  exact wp_loop_rounds _ (key _ x (Nat.lt_succ_self _) hx a w (hF.keep hE) hH)
theorem f_again {E : α → List (Nat × Value)} {R : α → List RowT} {Inv : α → Prop} {μ : α → Nat} {x : α} (y : α) (k : Nat) (hy : Inv y) (hμ : μ y < μ x) (hs : Sub env (E y)) (hr : rs.drop k = R y) : WE2 (Exit.then (Again n B w0 E R Inv μ x) Q) n env B w0 rs .normal := fun _ _ hF hH => ⟨y, hy, hμ, hF.keep hs, hr ▸ hH.drop k⟩
end loops

/-! ## Order by order: a call, a sum -/
section orders3
variable {P : Program} {ops : Array Oper} {Q : Exit → Act → World → Prop} {n fu i d B : Nat} {w0 : World} {rs : List RowT} {env : List (Nat × Value)} {listed : Array Bool} {o : Oper}
end orders3

/-! ## An array's place -/
section index
variable {P : Program} {n : Nat} {w : World} {env : List (Nat × Value)} {o : Oper}
def IdxAt (P : Program) (T : TypeId) (i : Int) (k : Nat) : Prop := ∀ g off w, (Instr.indexAt T (.pointer (some ⟨g, off, none⟩)) (.int .i64 i)).run P w = .ok (.pointer (some ⟨g, off + k, none⟩)) w
theorem exec_idx {a : Act} {T : TypeId} {x y : Operand} {i : Int} {k g off : Nat} (hf : IdxAt P T i k) (ho : o.op = .indexAddr T x y) (hx : evs env x = some (.pointer (some ⟨g, off, none⟩))) (hy : evs env y = some (.int .i64 i)) (hF : Fr n a env) : (execOp a.eval o).run P w = .ok (.value (.pointer (some ⟨g, off + k, none⟩))) w := by
  unfold execOp
  simp only [ho, hF.evs hx, hF.evs hy, Sem.run_bind, hf g off w, Result.andThen_ok, Sem.run_pure]
end index
end Go.Proofs.YtmamedobphlpkaaGreatDoor

namespace Go.Proofs.YtmamedobphlpkaaGreatDoor
open Go.RowKit
theorem bigZ_neg {z : Int} (h : z < 0) : (bigZ z)[0]? = some (.bool true) := by unfold bigZ; rw [decide_eq_true h]; exact bigs_get0 _ _
theorem bigZ_pos {z : Int} (h : ¬ z < 0) : (bigZ z)[0]? = some (.bool false) := by unfold bigZ; rw [decide_eq_false h]; exact bigs_get0 _ _
theorem ble_size {c : Array Value} {k : Nat} (h : c.size = k) : Nat.ble (0 + k) c.size = true := by simp [h]
theorem ble_size1 {c : Array Value} {k off : Nat} (h : c.size = k) (ho : off + 1 ≤ k) : Nat.ble (off + 1) c.size = true := by simpa [h] using ho
theorem built_letters (b : Bool) (c0 c1 c2 c3 c4 c5 c6 c7 c8 c9 c10 c11 c12 c13 c14 c15 : Int) :
    Tryz.prog.built 73 [(0, .bool b), (1, .agg #[.int .u64 c0, .int .u64 c1, .int .u64 c2, .int .u64 c3, .int .u64 c4, .int .u64 c5, .int .u64 c6, .int .u64 c7, .int .u64 c8, .int .u64 c9, .int .u64 c10, .int .u64 c11, .int .u64 c12, .int .u64 c13, .int .u64 c14, .int .u64 c15])] =
      some #[.bool b, .int .u64 c0, .int .u64 c1, .int .u64 c2, .int .u64 c3, .int .u64 c4, .int .u64 c5, .int .u64 c6, .int .u64 c7, .int .u64 c8, .int .u64 c9, .int .u64 c10, .int .u64 c11, .int .u64 c12, .int .u64 c13, .int .u64 c14, .int .u64 c15] := by kernel_rfl
theorem built_big (b : Bool) (n : Nat) : Tryz.prog.built 73 [(0, .bool b), (1, .agg (digs n))] = some (bigs b n) := by
  unfold bigs
  rw [digs_letters]
  exact built_letters ..
theorem zeDig : Zero Tryz.prog 71 (digs 0) := zero_of (z := .agg (digs 0)) (by kernel_rfl) rfl
theorem ixDigits (i : Nat) (h : i < 16) : IdxAt Tryz.prog 71 (i : Int) i := fun g off w => by
  have hs : (sizeOf 22).run Tryz.prog w = .ok 1 w := (tyUint64).2 w
  have hi : (0 : Int) ≤ (i : Int) ∧ (i : Int) < ((16 : Nat) : Int) := by omega
  have hc : (i : Int) < 16 := by omega
  simp only [Instr.indexAt, asIntOf, Sem.run_bind, Sem.run_pure, Result.andThen_ok, run_underlying Tryz.underlying71 w, Instr.sureAddr, hs]
  simp [hi, hs, Addr.add, hc]
theorem exec_remN {n : Nat} {env : List (Nat × Value)} {a : Act} {w : World} {o : Oper} {T T' : TypeId} {x y : Operand} {k : IntKind} {p q r : Int} (ho : o.op = .binOp .rem T x y T') (hx : evs env x = some (.int k p)) (hy : evs env y = some (.int k q)) (hq : q ≠ 0) (hr : p.tmod q = r) (hF : Fr n a env) : (execOp a.eval o).run Tryz.prog w = .ok (.value (.int k r)) w := by
  unfold execOp
  simp only [ho, hF.evs hx, hF.evs hy]
  simp [eqGuard, binOp, Op.intArith, Op.intDiv, hq, hr]
end Go.Proofs.YtmamedobphlpkaaGreatDoor

namespace Go.Proofs.YtmamedobphlpkaaGreatDoor
open Go.RowKit

theorem zeroB (w : World) (n : Nat) (b : Bool) (hn : n < BP 16) (h : decide (n = 0) = b) : Calls Tryz.prog 46 #[.agg (digs n)] w fun e w' => e = .returned (.bool b) ∧ Below w.heap.size w w' := by
  rw [← h]; exact rzero_any w n hn
end Go.Proofs.YtmamedobphlpkaaGreatDoor

namespace Go.Proofs.YtmamedobphlpkaaGreatDoor
open Go.RowKit
section
variable {P : Program} {ops : Array Oper} {Q : Exit → Act → World → Prop} {n B : Nat} {w0 w : World} {rs : List RowT} {env : List (Nat × Value)} {rest : List Oper} {o : Oper} {d : Nat}
theorem bs_get (l : List UInt8) (i : Nat) : (bs l)[i]? = l[i]? := by
  by_cases h : i < l.length
  · rw [List.getElem?_eq_getElem h]
    have h' : i < (bs l).size := by rw [bs_size]; exact h
    rw [getElem?_pos (bs l) i h']
    simp [bs, ByteArray.getElem_eq_getElem_data]
  · rw [List.getElem?_eq_none (by omega)]
    have h' : ¬ i < (bs l).size := by rw [bs_size]; exact h
    rw [getElem?_neg (bs l) i h']
theorem exec_index {a : Act} {T : TypeId} (hT : P.underlying T = some .string) {x y : Operand} {l : List UInt8} {i : Nat} {b : UInt8} {k : IntKind} (hb : l[i]? = some b) (ho : o.op = .index T x y) (hx : evs env x = some (.string (bs l))) (hy : evs env y = some (.int k (i : Int))) (hF : Fr n a env) : (execOp a.eval o).run P w = .ok (.value (.int .u8 (b.toNat : Int))) w := by
  unfold execOp
  have h0 : (0 : Int) ≤ (i : Int) := by omega
  have hg : (bs l)[i]? = some b := by rw [bs_get, hb]
  simp [ho, hF.evs hx, hF.evs hy, Instr.index, asIntOf, run_underlying hT, h0, hg]
theorem exec_conv {a : Act} {T T' : TypeId} {u : TypeDesc} {k k' : IntKind} {p z : Int} {x : Operand} (hs : P.underlying T = some u) (hd : P.underlying T' = some (.int k)) (hz : k.wrap p = z) (ho : o.op = .convert T T' x) (hx : evs env x = some (.int k' p)) (hF : Fr n a env) : (execOp a.eval o).run P w = .ok (.value (.int k z)) w := by
  unfold execOp
  simp [ho, hF.evs hx, convert, run_underlying hs, run_underlying hd, Conv.intToInt, hz]
/-- a list of one byte, laid -/
def Bs1 (P : Program) (T E : TypeId) : Prop := ∀ z w, (Instr.buildSlice T 1 #[(0, .int .u8 z)]).run P w = .ok (.slice (some ⟨w.heap.size, 0, none⟩) 1 1) (w.alloc (.cells #[.int .u8 z] E))
theorem h_bs1 {T E : TypeId} (hB : Bs1 P T E) {x : Operand} {z : Int} (h1 : at1 ops n o env = some d) (ho : o.op = .buildSlice T 1 #[(0, x)]) (hx : evs env x = some (.int .u8 z)) (h : ∀ g, WL2 P ops Q n ((d, .slice (some ⟨g, 0, none⟩) 1 1) :: env) B w0 ((g, E, #[.int .u8 z]) :: rs) rest) : WL2 P ops Q n env B w0 rs (o :: rest) :=
  fun a w hF hH => wpList_on hF (at1_parts h1).1 fun K hK => by
    have hrun : (execOp a.eval o).run P w = .ok (.value (.slice (some ⟨w.heap.size, 0, none⟩) 1 1)) (w.alloc (.cells #[.int .u8 z] E)) := by
      unfold execOp
      have := hB z w
      simp [ho, hF.evs hx, Sem.run_bind, this]
    unfold Oper.wp
    rw [hrun, Oper.upon_value, (at1_parts h1).2.1]
    exact hK _ _ (h w.heap.size _ _ (hF.put (at1_parts h1).2.2 _) (hH.new E _))
/-- a list of two texts, laid -/
def Bs2 (P : Program) (T E : TypeId) : Prop := ∀ u v w, (Instr.buildSlice T 2 #[(0, .string u), (1, .string v)]).run P w = .ok (.slice (some ⟨w.heap.size, 0, none⟩) 2 2) (w.alloc (.cells #[.string u, .string v] E))
theorem h_bs2 {T E : TypeId} (hB : Bs2 P T E) {x y : Operand} {u v : ByteArray} (h1 : at1 ops n o env = some d) (ho : o.op = .buildSlice T 2 #[(0, x), (1, y)]) (hx : evs env x = some (.string u)) (hy : evs env y = some (.string v)) (h : ∀ g, WL2 P ops Q n ((d, .slice (some ⟨g, 0, none⟩) 2 2) :: env) B w0 ((g, E, #[.string u, .string v]) :: rs) rest) : WL2 P ops Q n env B w0 rs (o :: rest) :=
  fun a w hF hH => wpList_on hF (at1_parts h1).1 fun K hK => by
    have hrun : (execOp a.eval o).run P w = .ok (.value (.slice (some ⟨w.heap.size, 0, none⟩) 2 2)) (w.alloc (.cells #[.string u, .string v] E)) := by
      unfold execOp
      have := hB u v w
      simp [ho, hF.evs hx, hF.evs hy, Sem.run_bind, this]
    unfold Oper.wp
    rw [hrun, Oper.upon_value, (at1_parts h1).2.1]
    exact hK _ _ (h w.heap.size _ _ (hF.put (at1_parts h1).2.2 _) (hH.new E _))
theorem h_bstr (i : Nat) {T e T' : TypeId} (hs : P.underlying T = some (.slice e)) (he : P.underlying e = some (.int .u8)) (hd : P.underlying T' = some .string) {x : Operand} {g : Nat} {t : TypeId} {b : UInt8} (h1 : at1 ops n o env = some d) (ho : o.op = .convert T T' x) (hx : evs env x = some (.slice (some ⟨g, 0, none⟩) 1 1)) (hi : rs[i]? = some (g, t, #[.int .u8 (b.toNat : Int)])) (h : WL2 P ops Q n ((d, .string (bs [b])) :: env) B w0 rs rest) : WL2 P ops Q n env B w0 rs (o :: rest) :=
  h_val h1 _ (fun a w hF hH => by
    have hR := hH.row i hi
    have hc : Lib.Bytes w g 0 (bs [b]) := fun j hj => by
      have : j = 0 := by rw [bs_size] at hj; simpa using hj
      subst this
      rw [hR.cell]
      rfl
    have hrun : (convert T T' (.slice (some ⟨g, 0, none⟩) 1 1)).run P w = .ok (.string (bs [b])) w := Lib.run_convert_whole (P := P) w T e T' hs he hd g 0 (bs [b]) hc 1
    unfold execOp
    simp [ho, hF.evs hx, Sem.run_bind, hrun]) h
theorem exec_sidx {a : Act} {T E : TypeId} (hT : P.underlying T = some (.slice E)) (hE : OneOf P E) {x y : Operand} {A : Option Addr} {g off len cap i : Nat} (hA : A = some ⟨g, off, none⟩) (hi : i < len) (ho : o.op = .indexAddr T x y) (hx : evs env x = some (.slice A len cap)) (hy : evs env y = some (.int .i64 (i : Int))) (hF : Fr n a env) : (execOp a.eval o).run P w = .ok (.value (.pointer (some ⟨g, off + i, none⟩))) w := by
  subst hA
  unfold execOp
  have hs := hE.2 w
  have hi1 : (0 : Int) ≤ (i : Int) ∧ (i : Int) < (len : Int) := by omega
  simp [ho, hF.evs hx, hF.evs hy, Instr.indexAt, asIntOf, run_underlying hT, hs, Addr.add]
  rw [if_pos (by omega)]
  simp
theorem exec_load1 {a : Act} {T : TypeId} (hO : OneOf P T) {x : Operand} {g off : Nat} {v : Value} (hc : w.cell? ⟨g, off, none⟩ = some v) (ho : o.op = .load T x) (hx : evs env x = some (.pointer (some ⟨g, off, none⟩))) (hF : Fr n a env) : (execOp a.eval o).run P w = .ok (.value v) w := by
  unfold execOp
  simp [ho, hF.evs hx, Instr.loadAt, Instr.sureAddr, loadVar, Sem.run_bind, hO.1, run_load, hc]
/-- 'is it nil?', of a value of an interface type -/
def EqNil (P : Program) (T : TypeId) (u : Value) (c : Bool) : Prop := ∀ x w, (do eqGuard .eql T x (.const .nilIface) u .nilIface; binOp .eql T u .nilIface : Sem Value).run P w = .ok (.bool c) w
theorem exec_eqnil {a : Act} {T T' : TypeId} {x : Operand} {u : Value} {c : Bool} (he : EqNil P T u c) (ho : o.op = .binOp .eql T x (.const .nilIface) T') (hx : evs env x = some u) (hF : Fr n a env) : (execOp a.eval o).run P w = .ok (.value (.bool c)) w := by
  unfold execOp
  have := he x w
  simp only [ho, hF.evs hx]
  rw [Sem.run_bind]
  show Result.andThen ((do eqGuard .eql T x (.const .nilIface) u .nilIface; binOp .eql T u .nilIface : Sem Value).run P w) _ = _
  rw [this]
  rfl
/-- a function of the library's that has no body here -/
theorem exec_ext {a : Act} {F : FuncId} {f : Operand} {args : Array Operand} {ats : Array TypeId} {vs : List Value} {v : Value} (hr : ∀ w, (callFunc F vs.toArray).run P w = .ok (.value v) w) (ho : o.op = .call { callee := .value f, args := args, argTypes := ats }) (hf : evs env f = some (.func (.func F) #[] #[])) (hx : evl env args.toList = some vs) (hF : Fr n a env) : (execOp a.eval o).run P w = .ok (.value v) w := by
  unfold execOp
  have h1 : args.map a.eval = vs.toArray := by
    have := hF.evl hx
    rw [← this]
    cases args; simp
  have h2 := hr w
  simp [ho, resolve, h1, hF.evs hf, Deferred.ofValue, invoke, h2]
end
end Go.Proofs.YtmamedobphlpkaaGreatDoor

namespace Go.Proofs.YtmamedobphlpkaaGreatDoor
open Go
def isD (b : UInt8) : Prop := 48 ≤ b.toNat ∧ b.toNat ≤ 57
instance (b : UInt8) : Decidable (isD b) := inferInstanceAs (Decidable (_ ∧ _))
def allD (l : List UInt8) : Prop := ∀ b ∈ l, isD b
instance (l : List UInt8) : Decidable (allD l) := inferInstanceAs (Decidable (∀ b ∈ l, isD b))
def nvStep (a : Nat) (b : UInt8) : Nat := a * 10 + (b.toNat - 48)
def nvA (a : Nat) (l : List UInt8) : Nat := l.foldl nvStep a
theorem nvA_nil (a : Nat) : nvA a [] = a := rfl
theorem nvA_cons (a : Nat) (b : UInt8) (r : List UInt8) : nvA a (b :: r) = nvA (a * 10 + (b.toNat - 48)) r := by unfold nvA; rw [List.foldl_cons, nvStep]
/-- the number that digits spell -/
def nv (l : List UInt8) : Nat := nvA 0 l
theorem nvA_eq (l : List UInt8) (a : Nat) : nvA a l = a * 10 ^ l.length + nv l := by
  induction l generalizing a with
  | nil => simp [nvA_nil, nv]
  | cons b r ih =>
    unfold nv
    rw [nvA_cons, nvA_cons, ih, ih (0 * 10 + (b.toNat - 48)), List.length_cons, Nat.pow_succ, Nat.zero_mul, Nat.zero_add, Nat.add_mul, Nat.mul_assoc a 10, Nat.mul_comm 10]
    exact Nat.add_assoc ..
theorem nvA_app : ∀ (l m : List UInt8) (a : Nat), nvA a (l ++ m) = nvA (nvA a l) m
  | [], _, _ => rfl
  | b :: r, m, a => by rw [List.cons_append, nvA_cons, nvA_cons, nvA_app r m]
theorem nv_app (l m : List UInt8) : nv (l ++ m) = nv l * 10 ^ m.length + nv m := by
  unfold nv; rw [nvA_app, nvA_eq m (nvA 0 l)]; rfl
theorem nv_one (b : UInt8) : nv [b] = b.toNat - 48 := by simp [nv, nvA_cons, nvA_nil]
theorem nv_snoc (l : List UInt8) (b : UInt8) : nv (l ++ [b]) = nv l * 10 + (b.toNat - 48) := by rw [nv_app, nv_one]; simp
theorem allD_nil : allD [] := fun b hb => by cases hb
theorem allD_app {l m : List UInt8} : allD (l ++ m) ↔ allD l ∧ allD m := by
  unfold allD; constructor
  · exact fun h => ⟨fun b hb => h b (by simp [hb]), fun b hb => h b (by simp [hb])⟩
  · exact fun h b hb => by
      rcases List.mem_append.1 hb with hb | hb
      · exact h.1 b hb
      · exact h.2 b hb
theorem allD_cons {b : UInt8} {l : List UInt8} : allD (b :: l) ↔ isD b ∧ allD l := by simp [allD]
theorem nv_lt : ∀ {l : List UInt8}, allD l → nv l < 10 ^ l.length
  | [], _ => by simp [nv, nvA_cons, nvA_nil]
  | b :: r, h => by
    have h1 := h b (by simp)
    have h2 := nv_lt (l := r) fun x hx => h x (by simp [hx])
    unfold isD at h1
    unfold nv
    rw [nvA_cons, nvA_eq, List.length_cons, Nat.pow_succ]
    have : (0 * 10 + (b.toNat - 48)) * 10 ^ r.length ≤ 9 * 10 ^ r.length := Nat.mul_le_mul_right _ (by omega)
    omega
theorem nv_pos {b : UInt8} {r : List UInt8} (h : isD b) (h0 : b.toNat ≠ 48) : 10 ^ r.length ≤ nv (b :: r) := by
  unfold isD at h
  unfold nv
  rw [nvA_cons, nvA_eq]
  have : 1 * 10 ^ r.length ≤ (0 * 10 + (b.toNat - 48)) * 10 ^ r.length := Nat.mul_le_mul_right _ (by omega)
  omega
def dgt (k : Nat) : UInt8 := UInt8.ofNat (48 + k)
theorem dgt_toNat {k : Nat} (h : k < 10) : (dgt k).toNat = 48 + k := by
  unfold dgt; simp; omega
theorem dgt_of {b : UInt8} (h : isD b) : dgt (b.toNat - 48) = b := by
  unfold isD at h
  apply UInt8.toNat_inj.1
  rw [dgt_toNat (by omega)]; omega
theorem isD_dgt {k : Nat} (h : k < 10) : isD (dgt k) := by unfold isD; rw [dgt_toNat h]; omega
theorem ddS {u : Nat} (h : u < 10) : Lib.decDigits u = [dgt u] := by rw [Lib.decDigits, dif_pos h]; rfl
theorem ddB {u : Nat} (h : ¬ u < 10) : Lib.decDigits u = Lib.decDigits (u / 10) ++ [dgt (u % 10)] := by rw [Lib.decDigits, dif_neg h]; rfl
theorem dd_allD (u : Nat) : allD (Lib.decDigits u) := by
  induction u using Nat.strongRecOn with
  | _ u ih =>
    by_cases h : u < 10
    · rw [ddS h]; intro b hb; rw [List.mem_singleton.1 hb]; exact isD_dgt h
    · rw [ddB h, allD_app]; exact ⟨ih _ (by omega), fun b hb => by rw [List.mem_singleton.1 hb]; exact isD_dgt (by omega)⟩
theorem nv_dd (u : Nat) : nv (Lib.decDigits u) = u := by
  induction u using Nat.strongRecOn with
  | _ u ih =>
    by_cases h : u < 10
    · rw [ddS h, nv_one, dgt_toNat h]; omega
    · rw [ddB h, nv_snoc, ih _ (by omega), dgt_toNat (by omega)]; omega
/-- digits alone, no 0 ahead of others -/
def plainN (l : List UInt8) : Prop := l ≠ [] ∧ allD l ∧ (1 < l.length → l.head? ≠ some 48)
instance (l : List UInt8) : Decidable (plainN l) := inferInstanceAs (Decidable (_ ∧ _))
theorem ddN (u : Nat) : Lib.decDigits u ≠ [] := by
  by_cases h : u < 10
  · rw [ddS h]; simp
  · rw [ddB h]; simp
theorem head_app {l m : List UInt8} (h : l ≠ []) : (l ++ m).head? = l.head? := by
  cases l with
  | nil => exact absurd rfl h
  | cons a r => rfl
theorem dd_head {u : Nat} (h : 0 < u) : (Lib.decDigits u).head? ≠ some 48 := by
  induction u using Nat.strongRecOn with
  | _ u ih =>
    by_cases h1 : u < 10
    · rw [ddS h1]; intro e
      have := congrArg UInt8.toNat (Option.some.inj e)
      rw [dgt_toNat h1] at this
      simp at this; omega
    · rw [ddB h1, head_app (ddN _)]; exact ih _ (by omega) (by omega)
theorem plain_dd (u : Nat) : plainN (Lib.decDigits u) := by
  refine ⟨ddN u, dd_allD u, fun h => ?_⟩
  by_cases h1 : u < 10
  · rw [ddS h1] at h; simp at h
  · exact dd_head (by omega)
theorem dd_nv {l : List UInt8} (h : plainN l) : Lib.decDigits (nv l) = l := by
  have key : ∀ n (l : List UInt8), l.length = n → plainN l → Lib.decDigits (nv l) = l := by
    intro n
    induction n with
    | zero => intro l hl h; exact absurd (List.length_eq_zero_iff.1 hl) h.1
    | succ n ih =>
      intro l hl ⟨hne, hall, hh⟩
      obtain ⟨m, b, rfl⟩ : ∃ m b, l = m ++ [b] := ⟨l.dropLast, l.getLast hne, (List.dropLast_concat_getLast hne).symm⟩
      have hb : isD b := hall b (by simp)
      have hb' := hb
      unfold isD at hb'
      have hm : allD m := (allD_app.1 hall).1
      cases m with
      | nil =>
        rw [List.nil_append, nv_one, ddS (by omega), dgt_of hb]
      | cons c r =>
        have hc := hh (by simp)
        have hc0 : c.toNat ≠ 48 := fun e => hc (by
          rw [List.cons_append, List.head?_cons]
          congr 1
          exact UInt8.toNat_inj.1 (by simpa using e))
        have hp := nv_pos (r := r) (hm c (by simp)) hc0
        have : 0 < 10 ^ r.length := Nat.pow_pos (by decide)
        have ihm := ih (c :: r) (by simp at hl ⊢; omega) ⟨by simp, hm, fun _ => by
          intro e
          exact hc0 (by have := Option.some.inj e; rw [this]; rfl)⟩
        rw [nv_snoc, ddB (by omega), show (nv (c :: r) * 10 + (b.toNat - 48)) / 10 = nv (c :: r) by omega, show (nv (c :: r) * 10 + (b.toNat - 48)) % 10 = b.toNat - 48 by omega, ihm, dgt_of hb]
  exact key _ l rfl h
theorem dd_zero : Lib.decDigits 0 = [48] := by rw [ddS (by decide)]; rfl
theorem plain_zero {l : List UInt8} (h : plainN l) : nv l = 0 ↔ l = [48] := by
  constructor
  · intro e; rw [← dd_nv h, e]; exact dd_zero
  · rintro rfl; rfl
theorem dd_len : ∀ (k u : Nat), 0 < k → u < 10 ^ k → (Lib.decDigits u).length ≤ k
  | 0, _, h, _ => absurd h (by decide)
  | 1, u, _, h => by rw [ddS (by simpa using h)]; simp
  | k + 2, u, _, h => by
    by_cases h1 : u < 10
    · rw [ddS h1]; simp
    · have : u / 10 < 10 ^ (k + 1) := by rw [Nat.pow_succ] at h; omega
      have := dd_len (k + 1) (u / 10) (by omega) this
      rw [ddB h1]; simp; omega
theorem take_snoc {l : List UInt8} {j : Nat} {b : UInt8} (h : l[j]? = some b) : l.take (j + 1) = l.take j ++ [b] := by
  rw [List.take_add_one, h]; rfl
theorem nv_step {l : List UInt8} {j : Nat} {b : UInt8} (h : l[j]? = some b) : nv (l.take j) * 10 + (b.toNat - 48) = nv (l.take (j + 1)) := by
  rw [take_snoc h, nv_snoc]
theorem allD_step {l : List UInt8} {j : Nat} {b : UInt8} (h : l[j]? = some b) (ha : allD (l.take j)) (hb : isD b) : allD (l.take (j + 1)) := by
  rw [take_snoc h, allD_app]
  exact ⟨ha, fun x hx => by rw [List.mem_singleton.1 hx]; exact hb⟩
theorem take_all {l : List UInt8} {j : Nat} (h : ¬ j < l.length) : l.take j = l := List.take_of_length_le (by omega)
theorem dig_ways (b : UInt8) : b.toNat < 48 ∨ 57 < b.toNat ∨ isD b := by unfold isD; omega
theorem not_allD {l : List UInt8} {j : Nat} {b : UInt8} (h : l[j]? = some b) (hb : ¬ isD b) : ¬ allD l := fun ha => hb (ha b (List.mem_of_getElem? h))
/-- what strconv makes of digits -/
theorem parseM_digits : ∀ (l : List UInt8) (a : Nat), allD l → a ≤ 18446744073709551615 → Lib.parseUintM 18446744073709551615 a l = if nvA a l ≤ 18446744073709551615 then .ok (nvA a l) else .range
  | [], a, _, ha => by rw [Lib.parseUintM, nvA_nil, if_pos ha]
  | c :: r, a, h, ha => by
    have hc := h c (by simp)
    unfold isD at hc
    have hr : allD r := fun x hx => h x (by simp [hx])
    have hge : (a * 10 + (c.toNat - 48)) ≤ nvA (a * 10 + (c.toNat - 48)) r := by
      rw [nvA_eq]
      have : (a * 10 + (c.toNat - 48)) * 1 ≤ (a * 10 + (c.toNat - 48)) * 10 ^ r.length := Nat.mul_le_mul_left _ (Nat.pow_pos (by decide))
      omega
    rw [Lib.parseUintM, if_pos hc, nvA_cons]
    by_cases h1 : 1844674407370955162 ≤ a
    · rw [if_pos h1, if_neg (by omega)]
    · rw [if_neg h1]
      by_cases h2 : 18446744073709551615 < a * 10 + (c.toNat - 48)
      · rw [if_pos h2, if_neg (by omega)]
      · rw [if_neg h2]
        exact parseM_digits r _ hr (by omega)
theorem parseB_digits {l : List UInt8} (h : allD l) (hne : l ≠ []) : Lib.parseUintB 64 l = if nv l ≤ 18446744073709551615 then .ok (nv l) else .range := by
  unfold Lib.parseUintB
  rw [if_neg hne]
  exact parseM_digits l 0 h (by decide)
end Go.Proofs.YtmamedobphlpkaaGreatDoor

namespace Go.Proofs.YtmamedobphlpkaaGreatDoor
open Go.RowKit

theorem bsOne : Bs1 Tryz.prog 43 5 := fun z w => by kernel_rfl
theorem over_010 : (over? (digs 0).toList 0 [Value.int .u64 10]).toArray = digs 10 := by kernel_rfl
theorem dg_small {n : Nat} (h : n < 4294967296) : dg n 0 = n := by unfold dg; rw [BP_zero, Nat.div_one]; omega
theorem ten15 : 10 < BP 15 := Nat.le_of_ble_eq_true (by kernel_rfl)
/-- how far the digits are laid: of N, what is left is n, what is laid is l -/
def txI (N n : Nat) (l : List UInt8) : Prop := n ≤ N ∧ Lib.decDigits N = if l = [] then Lib.decDigits n else if n = 0 then l else Lib.decDigits n ++ l
theorem tx_start (N : Nat) : txI N N [] := ⟨Nat.le_refl _, by rw [if_pos rfl]⟩
theorem tx_ways (n : Nat) (l : List UInt8) : l = [] ∨ (l ≠ [] ∧ n ≠ 0) ∨ (l ≠ [] ∧ n = 0) := by
  by_cases h : l = []
  · exact .inl h
  · by_cases h' : n = 0
    · exact .inr (.inr ⟨h, h'⟩)
    · exact .inr (.inl ⟨h, h'⟩)
theorem tx_step {N n : Nat} {l : List UInt8} (h : txI N n l) (hc : l = [] ∨ n ≠ 0) : txI N (n / 10) (dgt (n % 10) :: l) := by
  have e : Lib.decDigits N = Lib.decDigits n ++ l := by
    rw [h.2]
    by_cases hl : l = []
    · rw [if_pos hl, hl, List.append_nil]
    · rw [if_neg hl, if_neg (by rcases hc with hc | hc; exact absurd hc hl; exact hc)]
  refine ⟨by have := h.1; omega, ?_⟩
  rw [e, if_neg (by simp)]
  by_cases h1 : n < 10
  · rw [ddS h1, if_pos (by omega), show n % 10 = n by omega]; rfl
  · rw [ddB h1, if_neg (by omega), List.append_assoc]; rfl
theorem tx_end {N n : Nat} {l : List UInt8} (h : txI N n l) (hl : l ≠ []) (h0 : n = 0) : bs l = bs (Lib.decDigits N) := by rw [h.2, if_neg hl, if_pos h0]
theorem tx_len {N n : Nat} {l : List UInt8} (h : txI N n l) : l.length ≤ (Lib.decDigits N).length := by
  rw [h.2]
  by_cases hl : l = []
  · rw [hl]; simp
  · rw [if_neg hl]; split <;> simp
theorem conv_dgt (n : Nat) : IntKind.wrap .u8 (48 + ((n % 10 : Nat) : Int)) = ((dgt (n % 10)).toNat : Int) := by
  rw [dgt_toNat (by omega), IntWalk.u8_in _ (by omega)]; omega

theorem rtext_any (w : World) (N : Nat) (hN : N < BP 16) (hlen : (Lib.decDigits N).length ≤ 1000000) : Calls Tryz.prog 44 #[DV N] w fun e w' => e = .returned (.string (bs (Lib.decDigits N))) ∧ Below w.heap.size w w' := by
  refine d_in (args := [.agg (digs N)]) 31 Tryz.func44 rfl rfl rfl ?_
  refine d_reg ?_
  refine h_box (cs := digs N) rfl rfl rfl rfl ?_; intro g1_1
  refine h_q hflW rfl ?_
  refine h_done (d_reg ?_)
  refine h_q hflW rfl ?_
  refine h_done (d_reg ?_)
  refine h_alloc zeDig rfl rfl ?_; intro g4_2
  refine h_done (d_reg ?_)
  refine h_val rfl (.pointer (some ⟨g4_2, 0, none⟩)) (fun b w hb hH => by exact exec_idx (off := 0) (ixDigits 0 (by decide)) rfl rfl rfl hb) ?_
  refine h_store 0 (v := .int .u64 10) (digs 10) tyUint64.2 rfl (ble_size1 (digs_size _) (by decide)) rfl over_010 rfl rfl rfl rfl rfl rfl ?_
  refine h_done (d_seq (d_block ?_))
  refine d_loop (α := Nat × List UInt8) (fun (n, l) => [(1, .pointer (some ⟨g1_1, 0, none⟩)), (2, .string (bs ([]))), (3, .string (bs l)), (4, .pointer (some ⟨g4_2, 0, none⟩))]) (fun (n, l) => [(g4_2, 71, digs 10), (g1_1, 71, digs n)]) (fun (n, l) => txI N n l) (fun (n, l) => n + (if l = [] then 1 else 0)) (N, []) (tx_start N) ⟨rfl, rfl, rfl, rfl, trivial⟩ rfl ?_
  rintro ⟨n, l⟩ hI
  refine WC2.at_ (env' := [(1, .pointer (some ⟨g1_1, 0, none⟩)), (2, .string (bs ([]))), (3, .string (bs l)), (4, .pointer (some ⟨g4_2, 0, none⟩))]) (rs' := [(g4_2, 71, digs 10), (g1_1, 71, digs n)]) ⟨rfl, rfl, rfl, rfl, trivial⟩ rfl ?_
  refine d_seq ?_
  rcases tx_ways n l with hl | ⟨hl, hn⟩ | ⟨hl, hn⟩
  · skip
    have hdg : dg (n % 10) 0 = n % 10 := dg_small (by omega)
    refine d_reg ?_
    refine h_q hflW rfl ?_
    refine h_same (beq_iff_eq.2 hl) rfl rfl rfl rfl ?_
    refine h_q hflW rfl ?_
    refine h_done (d_then rfl (d_skip (f_to (d_block (d_reg ?_)))))
    refine h_load 1 (v := .agg (digs n)) (reads_all (tyDigC _)) rfl rfl rfl rfl ?_
    refine h_load 0 (v := .agg (digs 10)) (reads_all (tyDigC _)) rfl rfl rfl rfl ?_
    refine h_call (ent_of Tryz.func80 (by kernel_rfl) rfl) (fun w hH => rdiv_any _ n 10 (Nat.lt_of_le_of_lt hI.1 hN) ten15 (by decide)) rfl rfl rfl rfl ?_
    refine h_q hflW rfl ?_
    refine h_alloc zeDig rfl rfl ?_; intro g5_3
    refine h_alloc zeDig rfl rfl ?_; intro g6_4
    refine h_store 1 (v := .agg (digs (n / 10))) (digs (n / 10)) tyDigits.2 (digs_size _) (ble_size (digs_size _)) (digs_oneL _) (over_all (c := digs 0) (v := digs (n / 10)) (((digs_size _) : (digs 0).size = 16).trans ((digs_size _) : (digs (n / 10)).size = 16).symm)) rfl rfl rfl rfl rfl rfl ?_
    refine h_store 0 (v := .agg (digs (n % 10))) (digs (n % 10)) tyDigits.2 (digs_size _) (ble_size (digs_size _)) (digs_oneL _) (over_all (c := digs 0) (v := digs (n % 10)) (((digs_size _) : (digs 0).size = 16).trans ((digs_size _) : (digs (n % 10)).size = 16).symm)) rfl rfl rfl rfl rfl rfl ?_
    refine h_done (d_reg ?_)
    refine h_val rfl (.pointer (some ⟨g6_4, 0, none⟩)) (fun b w hb hH => by exact exec_idx (off := 0) (ixDigits 0 (by decide)) rfl rfl rfl hb) ?_
    refine h_load 0 (v := .int .u64 (dg (n % 10) 0 : Int)) (reads_one tyUint64 (digs_get _ (by decide))) rfl rfl rfl rfl ?_
    refine h_ar (z' := 48 + (dg (n % 10) 0 : Int)) (IntWalk.u64_in _ (by omega)) rfl rfl rfl rfl rfl ?_
    refine h_val rfl (.int .u8 ((dgt (n % 10)).toNat : Int)) (fun b w hb hH => by exact exec_conv Tryz.underlying22 Tryz.underlying5 (by rw [hdg]; exact conv_dgt n) rfl rfl hb) ?_
    refine h_bs1 bsOne rfl rfl rfl ?_; intro g25_5
    refine h_bstr 0 (b := (dgt (n % 10))) Tryz.underlying43 Tryz.underlying5 Tryz.underlying9 rfl rfl rfl rfl ?_
    refine h_q hflW rfl ?_
    refine h_cat (r := dgt (n % 10) :: l) rfl (by have := tx_len hI; simp only [List.length_cons, List.length_nil]; omega) rfl rfl rfl rfl ?_
    refine h_q hflW rfl ?_
    refine h_done (d_reg1 ?_)
    refine h_load 2 (v := .agg (digs (n / 10))) (reads_all (tyDigC _)) rfl rfl rfl rfl ?_
    refine h_store 4 (v := .agg (digs (n / 10))) (digs (n / 10)) tyDigits.2 (digs_size _) (ble_size (digs_size _)) (digs_oneL _) (over_all (c := digs n) (v := digs (n / 10)) (((digs_size _) : (digs n).size = 16).trans ((digs_size _) : (digs (n / 10)).size = 16).symm)) rfl rfl rfl rfl rfl rfl ?_
    refine h_nil (f_block ?_)
    exact f_again (n / 10, dgt (n % 10) :: l) 3 (tx_step hI (.inl hl)) (by simp [hl] <;> omega) ⟨rfl, rfl, rfl, rfl, trivial⟩ rfl
  · skip
    have hdg : dg (n % 10) 0 = n % 10 := dg_small (by omega)
    refine d_reg ?_
    refine h_q hflW rfl ?_
    refine h_same (beq_false_of_ne hl) rfl rfl rfl rfl ?_
    refine h_q hflW rfl ?_
    refine h_load 1 (v := .agg (digs n)) (reads_all (tyDigC _)) rfl rfl rfl rfl ?_
    refine h_call (ent_of Tryz.func46 (by kernel_rfl) rfl) (fun w hH => zeroB _ n false (Nat.lt_of_le_of_lt hI.1 hN) (by simp [hn])) rfl rfl rfl rfl ?_
    refine h_q hflW rfl ?_
    refine h_done (d_then rfl (d_skip (f_to (d_block (d_reg ?_)))))
    refine h_load 1 (v := .agg (digs n)) (reads_all (tyDigC _)) rfl rfl rfl rfl ?_
    refine h_load 0 (v := .agg (digs 10)) (reads_all (tyDigC _)) rfl rfl rfl rfl ?_
    refine h_call (ent_of Tryz.func80 (by kernel_rfl) rfl) (fun w hH => rdiv_any _ n 10 (Nat.lt_of_le_of_lt hI.1 hN) ten15 (by decide)) rfl rfl rfl rfl ?_
    refine h_q hflW rfl ?_
    refine h_alloc zeDig rfl rfl ?_; intro g5_6
    refine h_alloc zeDig rfl rfl ?_; intro g6_7
    refine h_store 1 (v := .agg (digs (n / 10))) (digs (n / 10)) tyDigits.2 (digs_size _) (ble_size (digs_size _)) (digs_oneL _) (over_all (c := digs 0) (v := digs (n / 10)) (((digs_size _) : (digs 0).size = 16).trans ((digs_size _) : (digs (n / 10)).size = 16).symm)) rfl rfl rfl rfl rfl rfl ?_
    refine h_store 0 (v := .agg (digs (n % 10))) (digs (n % 10)) tyDigits.2 (digs_size _) (ble_size (digs_size _)) (digs_oneL _) (over_all (c := digs 0) (v := digs (n % 10)) (((digs_size _) : (digs 0).size = 16).trans ((digs_size _) : (digs (n % 10)).size = 16).symm)) rfl rfl rfl rfl rfl rfl ?_
    refine h_done (d_reg ?_)
    refine h_val rfl (.pointer (some ⟨g6_7, 0, none⟩)) (fun b w hb hH => by exact exec_idx (off := 0) (ixDigits 0 (by decide)) rfl rfl rfl hb) ?_
    refine h_load 0 (v := .int .u64 (dg (n % 10) 0 : Int)) (reads_one tyUint64 (digs_get _ (by decide))) rfl rfl rfl rfl ?_
    refine h_ar (z' := 48 + (dg (n % 10) 0 : Int)) (IntWalk.u64_in _ (by omega)) rfl rfl rfl rfl rfl ?_
    refine h_val rfl (.int .u8 ((dgt (n % 10)).toNat : Int)) (fun b w hb hH => by exact exec_conv Tryz.underlying22 Tryz.underlying5 (by rw [hdg]; exact conv_dgt n) rfl rfl hb) ?_
    refine h_bs1 bsOne rfl rfl rfl ?_; intro g25_8
    refine h_bstr 0 (b := (dgt (n % 10))) Tryz.underlying43 Tryz.underlying5 Tryz.underlying9 rfl rfl rfl rfl ?_
    refine h_q hflW rfl ?_
    refine h_cat (r := dgt (n % 10) :: l) rfl (by have := tx_len hI; simp only [List.length_cons, List.length_nil]; omega) rfl rfl rfl rfl ?_
    refine h_q hflW rfl ?_
    refine h_done (d_reg1 ?_)
    refine h_load 2 (v := .agg (digs (n / 10))) (reads_all (tyDigC _)) rfl rfl rfl rfl ?_
    refine h_store 4 (v := .agg (digs (n / 10))) (digs (n / 10)) tyDigits.2 (digs_size _) (ble_size (digs_size _)) (digs_oneL _) (over_all (c := digs n) (v := digs (n / 10)) (((digs_size _) : (digs n).size = 16).trans ((digs_size _) : (digs (n / 10)).size = 16).symm)) rfl rfl rfl rfl rfl rfl ?_
    refine h_nil (f_block ?_)
    exact f_again (n / 10, dgt (n % 10) :: l) 3 (tx_step hI (.inr hn)) (by simp [hl] <;> omega) ⟨rfl, rfl, rfl, rfl, trivial⟩ rfl
  · skip
    refine d_reg ?_
    refine h_q hflW rfl ?_
    refine h_same (beq_false_of_ne hl) rfl rfl rfl rfl ?_
    refine h_q hflW rfl ?_
    refine h_load 1 (v := .agg (digs n)) (reads_all (tyDigC _)) rfl rfl rfl rfl ?_
    refine h_call (ent_of Tryz.func46 (by kernel_rfl) rfl) (fun w hH => zeroB _ n true (Nat.lt_of_le_of_lt hI.1 hN) (by simp [hn])) rfl rfl rfl rfl ?_
    refine h_q hflW rfl ?_
    refine h_done (d_else rfl (d_exit (f_then_exit (f_then_exit (f_block_exit (f_to (d_reg ?_)))))))
    refine h_q hflW rfl ?_
    refine h_done (d_ret ?_)
    exact f_fin1 (.tmp rfl) (fun w h => ⟨by rw [tx_end hI hl hn], h.up.below⟩) rfl
end Go.Proofs.YtmamedobphlpkaaGreatDoor
