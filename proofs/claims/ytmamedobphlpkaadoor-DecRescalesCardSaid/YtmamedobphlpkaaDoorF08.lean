/-
  Prog3 · Known3 · Con3 · LawD
-/
import Derived.Test.YtmamedobphlpkaaDoorF06
import Derived.Test.YtmamedobphlpkaaDoorF07
import Derived.Test.YtmamedobphlpkaaDoorCards
import Derived.Test.YtmamedobphlpkaaDoorTie
import Derived.ProofKit
import Derived.OpenShut
import Derived.Deep.DeepHandedRow
import Derived.Deep.DeepWitnessRowRef
import Derived.Lib.LaidTab
import Derived.Lib.SmallJoins
import Derived.LaidMore
import Derived.Stop.LaidErr
set_option linter.unusedSimpArgs false
set_option linter.unusedVariables false

namespace Go.Proofs.YtmamedobphlpkaaDoor
open Go.RowKit

/-- what is answered: a C, a scale, an error -/
def okP (z s : Int) : Int × Int × Int := (rz z, rs z s, rE z)
def erP (er : Int) : Int × Int × Int := (0, 0, er)
def decV (p : Int × Int × Int) : Value := .tuple #[Dc p.1 p.2.1, .int .i64 p.2.2]
def sumP (f : Int → Int → Int) (c s d t : Int) : Int × Int × Int :=
  if May s ∧ May t then (if Fits (roundZ c (s - max s t)) ∧ Fits (roundZ d (t - max s t)) then okP (f (roundZ c (s - max s t)) (roundZ d (t - max s t))) (max s t) else erP 20) else erP 21
def negP (c s : Int) : Int × Int × Int := if May s then okP (-c) s else erP 21
def mulP (c s d t u : Int) : Int × Int × Int := if May s ∧ May t ∧ May u then okP (roundZ (c * d) (s + t - u)) u else erP 21
def rescP (c s t : Int) : Int × Int × Int := if May s ∧ May t then okP (roundZ c (s - t)) t else erP 21
theorem decV_ok (z s : Int) : decV (okP z s) = .tuple #[Dc (rz z) (rs z s), .int .i64 (rE z)] := rfl

theorem join_add (w : World) (c s d t : Int) (hc : Fits c) (hd : Fits d) : Calls Tryd.prog 34 #[Dc c s, Dc d t, .func (.func 30) #[] #[]] w fun e w' => e = .returned (decV (sumP (· + ·) c s d t)) ∧ Below w.heap.size w w' := by
  unfold sumP
  by_cases hs : May s
  · by_cases ht : May t
    · rw [if_pos ⟨hs, ht⟩]
      by_cases hm : s ≤ t
      · rw [show max s t = t by omega]
        by_cases h1 : Fits (roundZ c (s - t))
        · by_cases h2 : Fits (roundZ d (t - t))
          · rw [if_pos ⟨h1, h2⟩]
            have := add_le_ok w c s d t hc hd hs ht hm h1 h2
            rwa [rz_fit h1, rz_fit h2] at this
          · rw [if_neg (fun h => h2 h.2)]; exact add_le_over2 w c s d t hc hd hs ht hm h1 h2
        · rw [if_neg (fun h => h1 h.1)]; exact add_le_over1 w c s d t hc hd hs ht hm h1
      · rw [show max s t = s by omega]
        by_cases h1 : Fits (roundZ c (s - s))
        · by_cases h2 : Fits (roundZ d (t - s))
          · rw [if_pos ⟨h1, h2⟩]
            have := add_gt_ok w c s d t hc hd hs ht (by omega) h1 h2
            rwa [rz_fit h1, rz_fit h2] at this
          · rw [if_neg (fun h => h2 h.2)]; exact add_gt_over2 w c s d t hc hd hs ht (by omega) h1 h2
        · rw [if_neg (fun h => h1 h.1)]; exact add_gt_over1 w c s d t hc hd hs ht (by omega) h1
    · rw [if_neg (fun h => ht h.2)]; exact addj_bad2 w c s d t hs ht
  · rw [if_neg (fun h => hs h.1)]; exact addj_bad1 w c s d t hs

theorem join_sub (w : World) (c s d t : Int) (hc : Fits c) (hd : Fits d) : Calls Tryd.prog 34 #[Dc c s, Dc d t, .func (.func 29) #[] #[]] w fun e w' => e = .returned (decV (sumP (· - ·) c s d t)) ∧ Below w.heap.size w w' := by
  unfold sumP
  by_cases hs : May s
  · by_cases ht : May t
    · rw [if_pos ⟨hs, ht⟩]
      by_cases hm : s ≤ t
      · rw [show max s t = t by omega]
        by_cases h1 : Fits (roundZ c (s - t))
        · by_cases h2 : Fits (roundZ d (t - t))
          · rw [if_pos ⟨h1, h2⟩]
            have := sub_le_ok w c s d t hc hd hs ht hm h1 h2
            rwa [rz_fit h1, rz_fit h2] at this
          · rw [if_neg (fun h => h2 h.2)]; exact sub_le_over2 w c s d t hc hd hs ht hm h1 h2
        · rw [if_neg (fun h => h1 h.1)]; exact sub_le_over1 w c s d t hc hd hs ht hm h1
      · rw [show max s t = s by omega]
        by_cases h1 : Fits (roundZ c (s - s))
        · by_cases h2 : Fits (roundZ d (t - s))
          · rw [if_pos ⟨h1, h2⟩]
            have := sub_gt_ok w c s d t hc hd hs ht (by omega) h1 h2
            rwa [rz_fit h1, rz_fit h2] at this
          · rw [if_neg (fun h => h2 h.2)]; exact sub_gt_over2 w c s d t hc hd hs ht (by omega) h1 h2
        · rw [if_neg (fun h => h1 h.1)]; exact sub_gt_over1 w c s d t hc hd hs ht (by omega) h1
    · rw [if_neg (fun h => ht h.2)]; exact subj_bad2 w c s d t hs ht
  · rw [if_neg (fun h => hs h.1)]; exact subj_bad1 w c s d t hs

theorem addd_0 (w : World) (c s d t : Int) (p : Int × Int × Int) (hJ : ∀ w, Calls Tryd.prog 34 #[Dc c s, Dc d t, .func (.func 30) #[] #[]] w fun e w' => e = .returned (decV p) ∧ Below w.heap.size w w') : Calls Tryd.prog 11 #[Dc c s, Dc d t] w fun e w' => e = .returned (decV p) ∧ Below w.heap.size w w' := by
  refine d_in (args := [Dc c s, Dc d t]) 11 Tryd.func11 rfl rfl rfl ?_
  refine d_reg ?_
  refine h_box (cs := #[hiW c, loW c, .int .i64 s]) rfl rfl rfl rfl ?_; intro g2_1
  refine h_box (cs := #[hiW d, loW d, .int .i64 t]) rfl rfl rfl rfl ?_; intro g3_2
  refine h_alloc zeDec rfl rfl ?_; intro g4_3
  refine h_q hfl rfl ?_
  refine h_done (d_reg ?_)
  refine h_load 2 (v := .agg #[hiW c, loW c, .int .i64 s]) (reads_agg (cs := [hiW c, loW c, .int .i64 s]) tyDec rfl) rfl rfl rfl rfl ?_
  refine h_load 1 (v := .agg #[hiW d, loW d, .int .i64 t]) (reads_agg (cs := [hiW d, loW d, .int .i64 t]) tyDec rfl) rfl rfl rfl rfl ?_
  refine h_call (ent_of Tryd.func34 (by kernel_rfl) rfl) (fun w hH => hJ _) rfl rfl rfl rfl ?_
  refine h_q hfl rfl ?_
  refine h_store 0 (v := Dc p.1 p.2.1) (#[hiW p.1, loW p.1, .int .i64 p.2.1]) tyDec.2 rfl rfl rfl rfl rfl rfl rfl rfl rfl rfl ?_
  refine h_q hfl rfl ?_
  refine h_done (d_ret ?_)
  exact f_fin2 (.cell 0 (v := .agg #[hiW p.1, loW p.1, .int .i64 p.2.1]) (reads_agg (cs := [hiW p.1, loW p.1, .int .i64 p.2.1]) tyDec rfl) rfl rfl) (.tmp rfl) (fun w h => ⟨rfl, h.up.below⟩) rfl

theorem addd_any (w : World) (c s d t : Int) (hc : Fits c) (hd : Fits d) : Calls Tryd.prog 11 #[Dc c s, Dc d t] w fun e w' => e = .returned (decV (sumP (· + ·) c s d t)) ∧ Below w.heap.size w w' := addd_0 w c s d t _ fun w => join_add w c s d t hc hd

theorem subd_0 (w : World) (c s d t : Int) (p : Int × Int × Int) (hJ : ∀ w, Calls Tryd.prog 34 #[Dc c s, Dc d t, .func (.func 29) #[] #[]] w fun e w' => e = .returned (decV p) ∧ Below w.heap.size w w') : Calls Tryd.prog 13 #[Dc c s, Dc d t] w fun e w' => e = .returned (decV p) ∧ Below w.heap.size w w' := by
  refine d_in (args := [Dc c s, Dc d t]) 11 Tryd.func13 rfl rfl rfl ?_
  refine d_reg ?_
  refine h_box (cs := #[hiW c, loW c, .int .i64 s]) rfl rfl rfl rfl ?_; intro g2_1
  refine h_box (cs := #[hiW d, loW d, .int .i64 t]) rfl rfl rfl rfl ?_; intro g3_2
  refine h_alloc zeDec rfl rfl ?_; intro g4_3
  refine h_q hfl rfl ?_
  refine h_done (d_reg ?_)
  refine h_load 2 (v := .agg #[hiW c, loW c, .int .i64 s]) (reads_agg (cs := [hiW c, loW c, .int .i64 s]) tyDec rfl) rfl rfl rfl rfl ?_
  refine h_load 1 (v := .agg #[hiW d, loW d, .int .i64 t]) (reads_agg (cs := [hiW d, loW d, .int .i64 t]) tyDec rfl) rfl rfl rfl rfl ?_
  refine h_call (ent_of Tryd.func34 (by kernel_rfl) rfl) (fun w hH => hJ _) rfl rfl rfl rfl ?_
  refine h_q hfl rfl ?_
  refine h_store 0 (v := Dc p.1 p.2.1) (#[hiW p.1, loW p.1, .int .i64 p.2.1]) tyDec.2 rfl rfl rfl rfl rfl rfl rfl rfl rfl rfl ?_
  refine h_q hfl rfl ?_
  refine h_done (d_ret ?_)
  exact f_fin2 (.cell 0 (v := .agg #[hiW p.1, loW p.1, .int .i64 p.2.1]) (reads_agg (cs := [hiW p.1, loW p.1, .int .i64 p.2.1]) tyDec rfl) rfl rfl) (.tmp rfl) (fun w h => ⟨rfl, h.up.below⟩) rfl

theorem subd_any (w : World) (c s d t : Int) (hc : Fits c) (hd : Fits d) : Calls Tryd.prog 13 #[Dc c s, Dc d t] w fun e w' => e = .returned (decV (sumP (· - ·) c s d t)) ∧ Below w.heap.size w w' := subd_0 w c s d t _ fun w => join_sub w c s d t hc hd

theorem negP_any (w : World) (c s : Int) (hc : Fits c) : Calls Tryd.prog 15 #[Dc c s] w fun e w' => e = .returned (decV (negP c s)) ∧ Below w.heap.size w w' := by
  unfold negP
  by_cases hs : May s
  · rw [if_pos hs]; exact negd_any w c s hc hs
  · rw [if_neg hs]; exact negd_bad w c s hs
theorem mulP_any (w : World) (c s d t u : Int) (hc : Fits c) (hd : Fits d) : Calls Tryd.prog 23 #[Dc c s, Dc d t, .int .i64 u] w fun e w' => e = .returned (decV (mulP c s d t u)) ∧ Below w.heap.size w w' := by
  unfold mulP
  by_cases hs : May s
  · by_cases ht : May t
    · by_cases hu : May u
      · rw [if_pos ⟨hs, ht, hu⟩]; exact muld_any w c s d t u hc hd hs ht hu
      · rw [if_neg (fun h => hu h.2.2)]; exact muld_bad3 w c s d t u hs ht hu
    · rw [if_neg (fun h => ht h.2.1)]; exact muld_bad2 w c s d t u hs ht
  · rw [if_neg (fun h => hs h.1)]; exact muld_bad1 w c s d t u hs
theorem rescP_any (w : World) (c s t : Int) (hc : Fits c) : Calls Tryd.prog 25 #[Dc c s, .int .i64 t] w fun e w' => e = .returned (decV (rescP c s t)) ∧ Below w.heap.size w w' := by
  unfold rescP
  by_cases hs : May s
  · by_cases ht : May t
    · rw [if_pos ⟨hs, ht⟩]; exact resc_any w c s t hc hs ht
    · rw [if_neg (fun h => ht h.2)]; exact resc_bad2 w c s t hs ht
  · rw [if_neg (fun h => hs h.1)]; exact resc_bad1 w c s t hs
/-- what Cmp answers -/
def cmpV (c s d t : Int) : Value := if May s ∧ May t then .tuple #[.int .i64 (cmpD c s d t), .int .i64 0] else .tuple #[.int .i64 0, .int .i64 21]
theorem cmpV_any (w : World) (c s d t : Int) (hc : Fits c) (hd : Fits d) : Calls Tryd.prog 20 #[Dc c s, Dc d t] w fun e w' => e = .returned (cmpV c s d t) ∧ Below w.heap.size w w' := by
  unfold cmpV
  by_cases hs : May s
  · by_cases ht : May t
    · rw [if_pos ⟨hs, ht⟩]; exact cmpd_any w c s d t hc hd hs ht
    · rw [if_neg (fun h => ht h.2)]; exact cmp_bad2 w c s d t hs ht
  · rw [if_neg (fun h => hs h.1)]; exact cmp_bad1 w c s d t hs
end Go.Proofs.YtmamedobphlpkaaDoor

namespace Go.Proofs.YtmamedobphlpkaaDoor
open Go.RowKit

theorem dn_any (w : World) (n s : Int) (hn : -9223372036854775808 ≤ n ∧ n < 9223372036854775808) : Calls Tryd.prog 42 #[.int .i64 n, .int .i64 s] w fun e w' => e = .returned (Dc n s) ∧ Below w.heap.size w w' := by
  refine d_in (args := [.int .i64 n, .int .i64 s]) 9 Tryd.func42 rfl rfl rfl ?_
  refine d_reg ?_
  refine h_alloc zeDec rfl rfl ?_; intro g4_1
  refine h_done (d_reg ?_)
  refine h_q hfl rfl ?_
  refine h_call (ent_of Tryd.func65 (by kernel_rfl) rfl) (fun w hH => of_any _ n hn) rfl rfl rfl rfl ?_
  refine h_q hfl rfl ?_
  refine h_build (cs := #[hiW n, loW n, .int .i64 s]) (by kernel_rfl) rfl rfl rfl ?_
  refine h_store 0 (v := .agg #[hiW n, loW n, .int .i64 s]) (#[hiW n, loW n, .int .i64 s]) tyDec.2 rfl rfl rfl rfl rfl rfl rfl rfl rfl rfl ?_
  refine h_done (d_ret ?_)
  exact f_fin1 (.cell 0 (v := .agg #[hiW n, loW n, .int .i64 s]) (reads_agg (cs := [hiW n, loW n, .int .i64 s]) tyDec rfl) rfl rfl) (fun w h => ⟨rfl, h.up.below⟩) rfl

theorem k_add : sumP (· + ·) 15 1 225 2 = (375, 2, 0) := by decide +kernel
theorem k_mul : mulP 5 2 5 1 2 = (2, 2, 0) := by decide +kernel
theorem k_text : textD (-5) 2 = [45, 48, 46, 48, 53] := by decide +kernel
theorem kAdd (w : World) : Calls Tryd.prog 11 #[Dc 15 1, Dc 225 2] w fun e w' => e = .returned (.tuple #[Dc 375 2, .int .i64 0]) ∧ Below w.heap.size w w' := by
  have := addd_any w 15 1 225 2 (by decide) (by decide)
  rwa [k_add] at this
theorem kMul (w : World) : Calls Tryd.prog 23 #[Dc 5 2, Dc 5 1, .int .i64 2] w fun e w' => e = .returned (.tuple #[Dc 2 2, .int .i64 0]) ∧ Below w.heap.size w w' := by
  have := mulP_any w 5 2 5 1 2 (by decide) (by decide)
  rwa [k_mul] at this
theorem kText (w : World) (htab : Lib.TabIs Tryd.prog w "internal/strconv.uint64pow10" .u64 Lib.pow10Tab) (hg : 2 < w.heap.size) : Calls Tryd.prog 43 #[Dc (-5) 2] w fun e w' => e = .returned (.tuple #[.string (bs [45, 48, 46, 48, 53]), .int .i64 0]) ∧ Below w.heap.size w w' := by
  have := textd_any w (-5) 2 (by decide) (by decide) htab hg
  rwa [k_text] at this

theorem known3_any (w : World) (htab : Lib.TabIs Tryd.prog w "internal/strconv.uint64pow10" .u64 Lib.pow10Tab) (hg : 2 < w.heap.size) : Calls Tryd.prog 17 #[] w fun e w' => e = .returned (.bool true) ∧ Below w.heap.size w w' := by
  refine d_in (args := []) 48 Tryd.func17 rfl rfl rfl ?_
  refine d_reg ?_
  refine h_q hfl rfl ?_
  refine h_done (d_reg ?_)
  refine h_call (ent_of Tryd.func42 (by kernel_rfl) rfl) (fun w hH => dn_any _ 15 1 (by omega)) rfl rfl rfl rfl ?_
  refine h_call (ent_of Tryd.func42 (by kernel_rfl) rfl) (fun w hH => dn_any _ 225 2 (by omega)) rfl rfl rfl rfl ?_
  refine h_call (ent_of Tryd.func11 (by kernel_rfl) rfl) (fun w hH => kAdd _) rfl rfl rfl rfl ?_
  refine h_q hfl rfl ?_
  refine h_alloc zeDec rfl rfl ?_; intro g1_1
  refine h_store 0 (v := Dc 375 2) (#[hiW 375, loW 375, .int .i64 2]) tyDec.2 rfl rfl rfl rfl rfl rfl rfl rfl rfl rfl ?_
  refine h_q hfl rfl ?_
  refine h_done (d_reg ?_)
  refine h_call (ent_of Tryd.func42 (by kernel_rfl) rfl) (fun w hH => dn_any _ (-5) 2 (by omega)) rfl rfl rfl rfl ?_
  refine h_call (ent_of Tryd.func43 (by kernel_rfl) rfl) (fun w hH => kText _ (tab_below htab hH.up.below hg) (Nat.lt_of_lt_of_le hg hH.up.size)) rfl rfl rfl rfl ?_
  refine h_q hfl rfl ?_
  refine h_done (d_reg ?_)
  refine h_call (ent_of Tryd.func42 (by kernel_rfl) rfl) (fun w hH => dn_any _ 5 2 (by omega)) rfl rfl rfl rfl ?_
  refine h_call (ent_of Tryd.func42 (by kernel_rfl) rfl) (fun w hH => dn_any _ 5 1 (by omega)) rfl rfl rfl rfl ?_
  refine h_call (ent_of Tryd.func23 (by kernel_rfl) rfl) (fun w hH => kMul _) rfl rfl rfl rfl ?_
  refine h_q hfl rfl ?_
  refine h_alloc zeDec rfl rfl ?_; intro g5_2
  refine h_store 0 (v := Dc 2 2) (#[hiW 2, loW 2, .int .i64 2]) tyDec.2 rfl rfl rfl rfl rfl rfl rfl rfl rfl rfl ?_
  refine h_q hfl rfl ?_
  refine h_done (d_seq ?_)
  refine d_par 24 2 [⟨.quiet, 0, fun _ => .int .i64 0, []⟩, ⟨.quiet, 0, fun _ => .bool true, [0]⟩, ⟨.quiet, 0, fun _ => .bool true, [1]⟩, ⟨.quiet, 0, fun _ => .agg #[hiW 375, loW 375, .int .i64 2], [2]⟩, ⟨.call, 1, fun _ => Dc 375 2, [2]⟩, ⟨.quiet, 1, fun _ => .bool true, [3, 4, 2]⟩, ⟨.quiet, 1, fun _ => .bool true, [2, 5]⟩, ⟨.quiet, 1, fun _ => .bool true, [6]⟩, ⟨.quiet, 1, fun _ => .int .i64 0, [7]⟩, ⟨.quiet, 1, fun _ => .bool true, [8, 7]⟩, ⟨.quiet, 1, fun _ => .bool true, [7, 9]⟩, ⟨.quiet, 1, fun _ => .bool true, [10]⟩, ⟨.quiet, 1, fun _ => .string (bs ([45, 48, 46, 48, 53])), [11]⟩, ⟨.quiet, 1, fun _ => .bool true, [12, 11]⟩, ⟨.quiet, 1, fun _ => .bool true, [11, 13]⟩, ⟨.quiet, 1, fun _ => .bool true, [14]⟩, ⟨.quiet, 1, fun _ => .int .i64 0, [15]⟩, ⟨.quiet, 1, fun _ => .bool true, [16, 15]⟩, ⟨.quiet, 1, fun _ => .bool true, [15, 17]⟩, ⟨.quiet, 1, fun _ => .bool true, [18]⟩, ⟨.quiet, 1, fun _ => .agg #[hiW 2, loW 2, .int .i64 2], [19]⟩, ⟨.call, 2, fun _ => Dc 2 2, [19]⟩, ⟨.quiet, 2, fun _ => .bool true, [20, 21, 19]⟩, ⟨.quiet, 2, fun _ => .bool true, [19, 22]⟩] [(0, .bool false), (1, .pointer (some ⟨g1_1, 0, none⟩)), (2, .int .i64 0), (3, .string (bs ([45, 48, 46, 48, 53]))), (4, .int .i64 0), (5, .pointer (some ⟨g5_2, 0, none⟩)), (6, .int .i64 0)] (by kernel_rfl) (by kernel_rfl) ⟨rfl, rfl, rfl, rfl, rfl, rfl, rfl, trivial⟩ ?_ ?_
  · skip
    refine o_cons (o_q hfl (fun _ _ => rfl) (fun _ _ => rfl)) ?_
    refine o_cons (o_cmp (cmp_eql_t (by decide)) (fun _ _ => rfl) rfl (fun _ _ => rfl) (fun _ _ => rfl)) ?_
    refine o_cons (o_q hfl (fun _ _ => rfl) (fun _ _ => rfl)) ?_
    refine o_cons (o_load 1 (reads_agg (cs := [hiW 375, loW 375, .int .i64 2]) tyDec rfl) (fun _ _ => rfl) rfl (fun _ _ => rfl) rfl) ?_
    refine o_cons (o_call (ent_of Tryd.func42 (by kernel_rfl) rfl) (fun w hU => dn_any _ 375 2 (by omega)) (fun _ _ => rfl) rfl (fun _ _ => rfl) (fun _ _ => rfl)) ?_
    refine o_cons (o_eqs (eqD_same _ _ _) (fun _ _ => rfl) rfl (fun _ _ => rfl) (fun _ _ => rfl)) ?_
    refine o_cons (o_q hfl (fun _ _ => rfl) (fun _ _ => rfl)) ?_
    refine o_cons (o_q hfl (fun _ _ => rfl) (fun _ _ => rfl)) ?_
    refine o_cons (o_q hfl (fun _ _ => rfl) (fun _ _ => rfl)) ?_
    refine o_cons (o_cmp (cmp_eql_t (by decide)) (fun _ _ => rfl) rfl (fun _ _ => rfl) (fun _ _ => rfl)) ?_
    refine o_cons (o_q hfl (fun _ _ => rfl) (fun _ _ => rfl)) ?_
    refine o_cons (o_q hfl (fun _ _ => rfl) (fun _ _ => rfl)) ?_
    refine o_cons (o_q hfl (fun _ _ => rfl) (fun _ _ => rfl)) ?_
    refine o_cons (o_same (by decide) (fun _ _ => rfl) rfl (fun _ _ => rfl) (fun _ _ => rfl)) ?_
    refine o_cons (o_q hfl (fun _ _ => rfl) (fun _ _ => rfl)) ?_
    refine o_cons (o_q hfl (fun _ _ => rfl) (fun _ _ => rfl)) ?_
    refine o_cons (o_q hfl (fun _ _ => rfl) (fun _ _ => rfl)) ?_
    refine o_cons (o_cmp (cmp_eql_t (by decide)) (fun _ _ => rfl) rfl (fun _ _ => rfl) (fun _ _ => rfl)) ?_
    refine o_cons (o_q hfl (fun _ _ => rfl) (fun _ _ => rfl)) ?_
    refine o_cons (o_q hfl (fun _ _ => rfl) (fun _ _ => rfl)) ?_
    refine o_cons (o_load 0 (reads_agg (cs := [hiW 2, loW 2, .int .i64 2]) tyDec rfl) (fun _ _ => rfl) rfl (fun _ _ => rfl) rfl) ?_
    refine o_cons (o_call (ent_of Tryd.func42 (by kernel_rfl) rfl) (fun w hU => dn_any _ 2 2 (by omega)) (fun _ _ => rfl) rfl (fun _ _ => rfl) (fun _ _ => rfl)) ?_
    refine o_cons (o_eqs (eqD_same _ _ _) (fun _ _ => rfl) rfl (fun _ _ => rfl) (fun _ _ => rfl)) ?_
    refine o_cons (o_q hfl (fun _ _ => rfl) (fun _ _ => rfl)) ?_
    exact o_nil
  intro σ3 gs3
  refine WL2.keep (env' := [(0, .bool false), (47, .bool true)]) ⟨rfl, rfl, trivial⟩ ?_
  refine h_q hfl rfl ?_
  refine h_nil (f_to (d_ret ?_))
  exact f_fin1 (.tmp rfl) (fun w h => ⟨rfl, h.up.below⟩) rfl

theorem near_no (w : World) (c s : Int) : Calls Tryd.prog 10 #[Dc c s, .bool false] w fun e w' => e = .returned (Dc c s) ∧ Below w.heap.size w w' := by
  refine d_in (args := [Dc c s, .bool false]) 11 Tryd.func10 rfl rfl rfl ?_
  refine d_reg ?_
  refine h_box (cs := #[hiW c, loW c, .int .i64 s]) rfl rfl rfl rfl ?_; intro g2_1
  refine h_alloc zeDec rfl rfl ?_; intro g4_2
  refine h_done (d_seq (d_reg ?_))
  refine h_q hfl rfl ?_
  refine h_done (d_else rfl (d_skip (f_to (d_reg ?_))))
  refine h_load 1 (v := .agg #[hiW c, loW c, .int .i64 s]) (reads_agg (cs := [hiW c, loW c, .int .i64 s]) tyDec rfl) rfl rfl rfl rfl ?_
  refine h_store 0 (v := .agg #[hiW c, loW c, .int .i64 s]) (#[hiW c, loW c, .int .i64 s]) tyDec.2 rfl rfl rfl rfl rfl rfl rfl rfl rfl rfl ?_
  refine h_done (d_ret ?_)
  exact f_fin1 (.cell 0 (v := .agg #[hiW c, loW c, .int .i64 s]) (reads_agg (cs := [hiW c, loW c, .int .i64 s]) tyDec rfl) rfl rfl) (fun w h => ⟨rfl, h.up.below⟩) rfl

theorem near_yes (w : World) (c s : Int) (hs : -9223372036854775808 ≤ s ∧ s < 9223372036854775808) : Calls Tryd.prog 10 #[Dc c s, .bool true] w fun e w' => e = .returned (Dc c (s % 19)) ∧ Below w.heap.size w w' := by
  refine d_in (args := [Dc c s, .bool true]) 11 Tryd.func10 rfl rfl rfl ?_
  refine d_reg ?_
  refine h_box (cs := #[hiW c, loW c, .int .i64 s]) rfl rfl rfl rfl ?_; intro g2_1
  refine h_alloc zeDec rfl rfl ?_; intro g4_2
  refine h_done (d_seq (d_reg ?_))
  refine h_q hfl rfl ?_
  refine h_done (d_then rfl (d_reg1 ?_))
  refine h_q hfl rfl ?_
  refine h_load 1 (v := .int .i64 s) (reads_one tyInt rfl) rfl rfl rfl rfl ?_
  refine h_call (ent_of Tryd.func22 (by kernel_rfl) rfl) (fun w hH => as_same (pick_any _ s 19 hs (by decide))) rfl rfl rfl rfl ?_
  refine h_q hfl rfl ?_
  refine h_store 1 (v := .int .i64 (s % 19)) (#[hiW c, loW c, .int .i64 (s % 19)]) tyInt.2 rfl rfl rfl rfl rfl rfl rfl rfl rfl rfl ?_
  refine h_nil (f_to (d_reg ?_))
  refine h_load 1 (v := .agg #[hiW c, loW c, .int .i64 (s % 19)]) (reads_agg (cs := [hiW c, loW c, .int .i64 (s % 19)]) tyDec rfl) rfl rfl rfl rfl ?_
  refine h_store 0 (v := .agg #[hiW c, loW c, .int .i64 (s % 19)]) (#[hiW c, loW c, .int .i64 (s % 19)]) tyDec.2 rfl rfl rfl rfl rfl rfl rfl rfl rfl rfl ?_
  refine h_done (d_ret ?_)
  exact f_fin1 (.cell 0 (v := .agg #[hiW c, loW c, .int .i64 (s % 19)]) (reads_agg (cs := [hiW c, loW c, .int .i64 (s % 19)]) tyDec rfl) rfl rfl) (fun w h => ⟨rfl, h.up.below⟩) rfl

/-- a scale that is mostly one that may be -/
def nearS (is : Bool) (s : Int) : Int := if is then s % 19 else s
theorem near_any (w : World) (c s : Int) (is : Bool) (hs : -9223372036854775808 ≤ s ∧ s < 9223372036854775808) : Calls Tryd.prog 10 #[Dc c s, .bool is] w fun e w' => e = .returned (Dc c (nearS is s)) ∧ Below w.heap.size w w' := by
  cases is
  · exact near_no w c s
  · exact near_yes w c s hs
theorem near_may (s : Int) : May (s % 19) := by unfold May; omega
end Go.Proofs.YtmamedobphlpkaaDoor

namespace Go.Proofs.YtmamedobphlpkaaDoor
open Go.RowKit

theorem addL (w : World) {c s d t : Int} {p} (h : sumP (· + ·) c s d t = p) (hc : Fits c) (hd : Fits d) : Calls Tryd.prog 11 #[Dc c s, Dc d t] w fun e w' => e = .returned (.tuple #[Dc p.1 p.2.1, .int .i64 p.2.2]) ∧ Below w.heap.size w w' := by
  subst h; exact addd_any w c s d t hc hd
theorem subL (w : World) {c s d t : Int} {p} (h : sumP (· - ·) c s d t = p) (hc : Fits c) (hd : Fits d) : Calls Tryd.prog 13 #[Dc c s, Dc d t] w fun e w' => e = .returned (.tuple #[Dc p.1 p.2.1, .int .i64 p.2.2]) ∧ Below w.heap.size w w' := by
  subst h; exact subd_any w c s d t hc hd
theorem negL (w : World) {c s : Int} {p} (h : negP c s = p) (hc : Fits c) : Calls Tryd.prog 15 #[Dc c s] w fun e w' => e = .returned (.tuple #[Dc p.1 p.2.1, .int .i64 p.2.2]) ∧ Below w.heap.size w w' := by
  subst h; exact negP_any w c s hc
theorem mulL (w : World) {c s d t u : Int} {p} (h : mulP c s d t u = p) (hc : Fits c) (hd : Fits d) : Calls Tryd.prog 23 #[Dc c s, Dc d t, .int .i64 u] w fun e w' => e = .returned (.tuple #[Dc p.1 p.2.1, .int .i64 p.2.2]) ∧ Below w.heap.size w w' := by
  subst h; exact mulP_any w c s d t u hc hd
theorem rescL (w : World) {c s t : Int} {p} (h : rescP c s t = p) (hc : Fits c) : Calls Tryd.prog 25 #[Dc c s, .int .i64 t] w fun e w' => e = .returned (.tuple #[Dc p.1 p.2.1, .int .i64 p.2.2]) ∧ Below w.heap.size w w' := by
  subst h; exact rescP_any w c s t hc
/-- what Cmp answers -/
def cmpP (c s d t : Int) : Int × Int := if May s ∧ May t then (cmpD c s d t, 0) else (0, 21)
theorem cmpV_P (c s d t : Int) : cmpV c s d t = .tuple #[.int .i64 (cmpP c s d t).1, .int .i64 (cmpP c s d t).2] := by unfold cmpV cmpP; split <;> rfl
theorem cmpL (w : World) {c s d t : Int} {p} (h : cmpP c s d t = p) (hc : Fits c) (hd : Fits d) : Calls Tryd.prog 20 #[Dc c s, Dc d t] w fun e w' => e = .returned (.tuple #[.int .i64 p.1, .int .i64 p.2]) ∧ Below w.heap.size w w' := by
  subst h; rw [← cmpV_P]; exact cmpV_any w c s d t hc hd
theorem pickL (w : World) {k n m : Int} (h : k % n = m) (hk : -9223372036854775808 ≤ k ∧ k < 9223372036854775808) (hn : 0 < n ∧ n ≤ 1048576) : Calls Tryd.prog 22 #[.int .i64 k, .int .i64 n] w fun e w' => e = .returned (.int .i64 m) ∧ Below w.heap.size w w' := by
  subst h; exact as_same (pick_any w k n hk hn)
theorem nearL (w : World) {c s m : Int} (h : s % 19 = m) (hs : -9223372036854775808 ≤ s ∧ s < 9223372036854775808) : Calls Tryd.prog 10 #[Dc c s, .bool true] w fun e w' => e = .returned (Dc c m) ∧ Below w.heap.size w w' := by
  subst h; exact near_yes w c s hs
theorem nearB (w : World) {c s m : Int} {is : Bool} (h : nearS is s = m) (hs : -9223372036854775808 ≤ s ∧ s < 9223372036854775808) : Calls Tryd.prog 10 #[Dc c s, .bool is] w fun e w' => e = .returned (Dc c m) ∧ Below w.heap.size w w' := by
  subst h; exact near_any w c s is hs
end Go.Proofs.YtmamedobphlpkaaDoor

namespace Go.Proofs.YtmamedobphlpkaaDoor
open Go.ChangeShapes Go.WideShapes Go.ChangeAt Go.RowKit

section
variable {H : Type} {enc : TypeId × Value → H}
set_option maxRecDepth 100000 in
theorem open_dec {W : World} {base b0 : Nat} {r : Reach} {spare : Nat → Bool} {held : Bool} {v : Value} {d : DataW H} {p : List MemPlace} (hval : Value.okWide Tryd.prog W r b0 26 v) (h : DataW.Trod enc Tryd.prog W base spare held 26 v d p) :
    ∃ x s, v = Dc x s ∧ Fits x ∧ -9223372036854775808 ≤ s ∧ s < 9223372036854775808 := by
  obtain ⟨cs, rfl, hsz⟩ := okWide_struct Tryd.underlying26 hval
  obtain ⟨c0, c1, c2, rfl⟩ := Joins.array3 (hsz.trans (by kernel_rfl))
  obtain ⟨fuel, hf⟩ := h
  obtain ⟨y0, y1, n, _, _, h0, h1⟩ := trod_struct2 Tryd.underlying26 hf
  have k0 : Tryd.prog.cellsOf 24 = 2 := by kernel_rfl
  have k1 : Tryd.prog.cellsOf 3 = 1 := by kernel_rfl
  have k2 : Tryd.prog.cellsOf 2 = 1 := by kernel_rfl
  have k3 : Tryd.prog.cellsOf 22 = 1 := by kernel_rfl
  have h0' : DataW.trod enc Tryd.prog W base spare held n 24 [c0, c1] = some y0 := by simpa [Value.cells, k0] using h0
  have h1' : DataW.trod enc Tryd.prog W base spare held n 3 [c2] = some y1 := by simpa [Value.cells, k1] using h1
  obtain ⟨u0, u1, n', _, _, g0, g1⟩ := trod_struct2 Tryd.underlying24 h0'
  have g0' : DataW.trod enc Tryd.prog W base spare held n' 2 [c0] = some u0 := by simpa [k2] using g0
  have g1' : DataW.trod enc Tryd.prog W base spare held n' 22 [c1] = some u1 := by simpa [k3] using g1
  obtain ⟨z0, e0, _, w0⟩ := DataW.trod_int Tryd.underlying2 g0'
  obtain ⟨z1, e1, _, w1⟩ := DataW.trod_int Tryd.underlying22 g1'
  obtain ⟨z2, e2, _, w2⟩ := DataW.trod_int Tryd.underlying3 h1'
  cases e0; cases e1; cases e2
  have b0 := wf_i64 w0
  have b1 := wf_u64 w1
  have b2 := wf_i64 w2
  refine ⟨z0 * 18446744073709551616 + z1, z2, ?_, by unfold Fits; omega, by omega, by omega⟩
  unfold Dc hiW loW
  rw [show (z0 * 18446744073709551616 + z1) / 18446744073709551616 = z0 by omega, show (z0 * 18446744073709551616 + z1) % 18446744073709551616 = z1 by omega]
end

theorem gPow : Tryd.prog.globalNamed "internal/strconv.uint64pow10" = some 2 := by kernel_rfl
theorem gPowType : (Tryd.prog.globals[2]?).map (·.type) = some 147 := by kernel_rfl
abbrev laid3 : List (String × DataW Unit) := [("math/bits.deBruijn32tab", Rows.laid_math_bits_deBruijn32tab), ("math/bits.deBruijn64tab", Rows.laid_math_bits_deBruijn64tab), ("internal/strconv.uint64pow10", Rows.laid_internal_strconv_uint64pow10)]

/-- what the row's list gives -/
theorem table_of {W : World} (h : laidMetH Tryd.prog laid3 W) : Lib.TabIs Tryd.prog W "internal/strconv.uint64pow10" .u64 Lib.pow10Tab ∧ 2 < W.heap.size := by
  have h' : laidMet Tryd.prog laid3 W := h
  have h2 := h'.tail.tail
  have ht : Lib.TabIs Tryd.prog W "internal/strconv.uint64pow10" .u64 Lib.pow10Tab := Lib.tabIs_of_head (rest := []) gPow gPowType Tryd.underlying147 Tryd.underlying22 (by kernel_rfl) (by kernel_rfl) h2
  refine ⟨ht, ?_⟩
  have := ht.cell gPow 0 (by decide)
  exact World.block_lt_of_cell? _ _ this

/-- a world for the witness: as the program's initialisers leave it -/
noncomputable def laidWorld (os : Os) : World := World.doorLaid Tryd.prog 62 os
end Go.Proofs.YtmamedobphlpkaaDoor
