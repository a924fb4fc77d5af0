/-
  PhS · PhP
-/
import Derived.Test.YtjcfimmcogkopaaAB03
import Derived.Test.YtjcfimmcogkopaaAL01
set_option linter.unusedSimpArgs false
set_option linter.unusedVariables false

namespace Go.Proofs.Ytjcfimmcogkopaa.Sep
open Go.RowKit
open Go.Proofs.Ytjcfimmcogkopaa.Mem (Dist Blk Chg below0)

set_option maxRecDepth 100000 in
theorem pshaped_near {X : Ass} {s : SnV} {A : Option Addr} {cp : Nat} {wh hw ha hb9 : Int} (hs : SnR s) (hX : Rd8 X (.slice A s.d.length cp) s.d) (hl : s.d.length ≤ 140737488351232) : Does Try.prog 13 #[.agg #[.int .i64 wh, .int .u64 s.i, .int .u64 s.t, .int .i64 s.c, .slice A s.d.length cp, .bool true, .int .i64 hw, .int .i64 ha, .int .i64 hb9]] [X] (fun (x : Option Addr × Nat) => .agg #[.int .u64 (shP s).i, .int .u64 (shP s).t, .int .i64 (shP s).c, .slice x.1 (shP s).d.length x.2]) (fun (x : Option Addr × Nat) => [X, Vec 5 1 encB (.slice x.1 s.d.length x.2) s.d]) := by
  refine d_ins (args := [.agg #[.int .i64 wh, .int .u64 s.i, .int .u64 s.t, .int .i64 s.c, .slice A s.d.length cp, .bool true, .int .i64 hw, .int .i64 ha, .int .i64 hb9]]) 33 Try.func13 rfl rfl rfl ?_; intro w rs
  have hsi := hs.i
  have hst := hs.t
  have hsc := hs.c
  refine d_reg ?_
  refine h_q hflU rfl ?_
  refine h_act (post := fun g1 => [cell g1 45 #[.int .i64 wh, .int .u64 s.i, .int .u64 s.t, .int .i64 s.c, .slice A s.d.length cp, .bool true, .int .i64 hw, .int .i64 ha, .int .i64 hb9], X]) rfl (a_box (cs := #[.int .i64 wh, .int .u64 s.i, .int .u64 s.t, .int .i64 s.c, .slice A s.d.length cp, .bool true, .int .i64 hw, .int .i64 ha, .int .i64 hb9]) rfl rfl rfl) ?_; rintro g1
  refine h_act (post := fun g2 => [cell g2 31 #[.int .u64 0, .int .u64 0, .int .i64 0, .slice none 0 0], cell g1 45 #[.int .i64 wh, .int .u64 s.i, .int .u64 s.t, .int .i64 s.c, .slice A s.d.length cp, .bool true, .int .i64 hw, .int .i64 ha, .int .i64 hb9], X]) rfl (a_alloc ze_api_Snap rfl) ?_; rintro g2
  refine h_done (d_reg ?_)
  refine h_q hflU rfl ?_
  refine h_val rfl (.agg #[.int .u64 s.i, .int .u64 s.t, .int .i64 s.c, .slice A s.d.length cp]) (fun b w hb hH => exec_load rfl rfl (reads_agg (cs := [.int .i64 wh, .int .u64 s.i, .int .u64 s.t, .int .i64 s.c, .slice A s.d.length cp, .bool true, .int .i64 hw, .int .i64 ha, .int .i64 hb9]) ty_api_Snap rfl) (hH.row 1 rfl) hb) ?_
  refine h_act (post := fun g3 => [cell g3 31 #[.int .u64 0, .int .u64 0, .int .i64 0, .slice none 0 0], cell g2 31 #[.int .u64 0, .int .u64 0, .int .i64 0, .slice none 0 0], cell g1 45 #[.int .i64 wh, .int .u64 s.i, .int .u64 s.t, .int .i64 s.c, .slice A s.d.length cp, .bool true, .int .i64 hw, .int .i64 ha, .int .i64 hb9], X]) rfl (a_alloc ze_api_Snap rfl) ?_; rintro g3
  refine h_acts (post := fun _ => [cell g3 31 #[.int .u64 s.i, .int .u64 s.t, .int .i64 s.c, .slice A s.d.length cp], cell g2 31 #[.int .u64 0, .int .u64 0, .int .i64 0, .slice none 0 0], cell g1 45 #[.int .i64 wh, .int .u64 s.i, .int .u64 s.t, .int .i64 s.c, .slice A s.d.length cp, .bool true, .int .i64 hw, .int .i64 ha, .int .i64 hb9], X]) rfl rfl (a_store 0 (v := .agg #[.int .u64 s.i, .int .u64 s.t, .int .i64 s.c, .slice A s.d.length cp]) #[.int .u64 s.i, .int .u64 s.t, .int .i64 s.c, .slice A s.d.length cp] ty_api_Snap.2 rfl rfl rfl rfl rfl rfl rfl rfl rfl) ?_; rintro ⟨⟩
  refine h_done (d_seq (d_reg ?_))
  refine h_q hflU rfl ?_
  refine h_val rfl (.bool true) (fun b w hb hH => exec_load rfl rfl (reads_one ty_bool rfl) (hH.row 2 rfl) hb) ?_
  refine h_done (d_then rfl ?_)
  refine d_parS 18 1 [⟨.quiet, [none], fun _ => .pointer (some ⟨g3, 0, none⟩), []⟩, ⟨.quiet, [none], fun _ => .pointer (some ⟨g3, 0, none⟩), [0]⟩, ⟨.quiet, [none], fun _ => .int .u64 s.i, [1]⟩, ⟨.quiet, [none], fun _ => .int .u64 (s.i % 900), [2]⟩, ⟨.quiet, [none], fun _ => .int .u64 (1 + s.i % 900), [3]⟩, ⟨.quiet, [none], fun _ => .pointer (some ⟨g3, 0, none⟩), []⟩, ⟨.quiet, [none], fun _ => .pointer (some ⟨g3, 1, none⟩), [5]⟩, ⟨.quiet, [none], fun _ => .int .u64 s.t, [6]⟩, ⟨.quiet, [none], fun _ => .int .u64 (s.t % 9), [7]⟩, ⟨.quiet, [none], fun _ => .int .u64 (1 + s.t % 9), [8]⟩, ⟨.quiet, [none], fun _ => .pointer (some ⟨g3, 0, none⟩), []⟩, ⟨.quiet, [none], fun _ => .pointer (some ⟨g3, 2, none⟩), [10]⟩, ⟨.quiet, [none], fun _ => .int .i64 s.c, [11]⟩, ⟨.actv 0, [some false], fun _ => .int .i64 (s.c % 127), [12]⟩, ⟨.quiet, [some true], fun _ => .int .i64 (1 + s.c % 127), [13]⟩, ⟨.quiet, [some true], fun _ => .int .i64 (2 * (1 + s.c % 127)), [14]⟩, ⟨.quiet, [some true], fun _ => .agg #[.int .u64 (1 + s.i % 900), .int .u64 (1 + s.t % 9), .int .i64 (2 * (1 + s.c % 127))], [4, 9, 15]⟩, ⟨.quiet, [some true], fun _ => .pointer (some ⟨g3, 0, none⟩), []⟩] [(2, .pointer (some ⟨g2, 0, none⟩)), (3, .pointer (some ⟨g3, 0, none⟩))] (fun ρ => match ρ with | [rq0] => [cell g3 31 #[.int .u64 s.i, .int .u64 s.t, .int .i64 s.c, .slice A s.d.length cp], cell g2 31 #[.int .u64 0, .int .u64 0, .int .i64 0, .slice none 0 0], cell g1 45 #[.int .i64 wh, .int .u64 s.i, .int .u64 s.t, .int .i64 s.c, .slice A s.d.length cp, .bool true, .int .i64 hw, .int .i64 ha, .int .i64 hb9], X] | _ => []) (by kernel_rfl) (by kernel_rfl) ⟨rfl, rfl, trivial⟩ rfl ?_ ?_
  · skip
    refine s_cons (by intro r0_; exact ⟨rfl, fun b w hH hb => exec_q1 hflU rfl hb⟩) ?_
    refine s_cons (by intro r0_; exact ⟨rfl, fun b w hH hb => exec_q1 hflU rfl hb⟩) ?_
    refine s_cons (by intro r0_; exact ⟨rfl, fun b w hH hb => exec_load rfl rfl (reads_one ty_uint64 rfl) (hH.row 0 rfl) hb⟩) ?_
    refine s_cons (by intro r0_; exact ⟨rfl, fun b w hH hb => exec_remI rfl rfl rfl (by decide) (tmodP hs.i.1) hb⟩) ?_
    refine s_cons (by intro r0_; exact ⟨rfl, fun b w hH hb => exec_ar rfl rfl rfl rfl (IntWalk.u64_in _ (by omega)) hb⟩) ?_
    refine s_cons (by intro r0_; exact ⟨rfl, fun b w hH hb => exec_q1 hflU rfl hb⟩) ?_
    refine s_cons (by intro r0_; exact ⟨rfl, fun b w hH hb => exec_q1 hflU rfl hb⟩) ?_
    refine s_cons (by intro r0_; exact ⟨rfl, fun b w hH hb => exec_load rfl rfl (reads_one ty_uint64 rfl) (hH.row 0 rfl) hb⟩) ?_
    refine s_cons (by intro r0_; exact ⟨rfl, fun b w hH hb => exec_remI rfl rfl rfl (by decide) (tmodP hs.t.1) hb⟩) ?_
    refine s_cons (by intro r0_; exact ⟨rfl, fun b w hH hb => exec_ar rfl rfl rfl rfl (IntWalk.u64_in _ (by omega)) hb⟩) ?_
    refine s_cons (by intro r0_; exact ⟨rfl, fun b w hH hb => exec_q1 hflU rfl hb⟩) ?_
    refine s_cons (by intro r0_; exact ⟨rfl, fun b w hH hb => exec_q1 hflU rfl hb⟩) ?_
    refine s_cons (by intro r0_; exact ⟨rfl, fun b w hH hb => exec_load rfl rfl (reads_one ty_int rfl) (hH.row 0 rfl) hb⟩) ?_
    refine s_cons (by exact ⟨rfl, Acts.su (a_call (ent_of Try.func11 (by kernel_rfl) rfl) (fun w hH => pick w s.c 127 hs.c (by decide) rfl) rfl rfl rfl) rfl⟩) ?_
    refine s_cons (by intro v0_; exact ⟨rfl, fun b w hH hb => exec_ar rfl rfl rfl rfl (IntWalk.i64_in _ (by omega)) hb⟩) ?_
    refine s_cons (by intro v0_; exact ⟨rfl, fun b w hH hb => exec_ar rfl rfl rfl rfl (IntWalk.i64_in _ (by omega)) hb⟩) ?_
    refine s_cons (by intro v0_; exact ⟨rfl, fun b w hH hb => exec_build rfl rfl (by kernel_rfl) hb⟩) ?_
    refine s_cons (by intro v0_; exact ⟨rfl, fun b w hH hb => exec_q1 hflU rfl hb⟩) ?_
    exact s_nil
  intro v0_
  refine WL2.keep (env' := [(2, .pointer (some ⟨g2, 0, none⟩)), (3, .pointer (some ⟨g3, 0, none⟩)), (24, .agg #[.int .u64 (1 + s.i % 900), .int .u64 (1 + s.t % 9), .int .i64 (2 * (1 + s.c % 127))]), (25, .pointer (some ⟨g3, 0, none⟩))]) ⟨rfl, rfl, rfl, rfl, trivial⟩ ?_
  refine h_q hflU rfl ?_
  refine h_acts (post := fun _ => [cell g3 31 #[.int .u64 (1 + s.i % 900), .int .u64 (1 + s.t % 9), .int .i64 (2 * (1 + s.c % 127)), .slice A s.d.length cp], cell g2 31 #[.int .u64 0, .int .u64 0, .int .i64 0, .slice none 0 0], cell g1 45 #[.int .i64 wh, .int .u64 s.i, .int .u64 s.t, .int .i64 s.c, .slice A s.d.length cp, .bool true, .int .i64 hw, .int .i64 ha, .int .i64 hb9], X]) rfl rfl (a_store 0 (v := .agg #[.int .u64 (1 + s.i % 900), .int .u64 (1 + s.t % 9), .int .i64 (2 * (1 + s.c % 127))]) #[.int .u64 (1 + s.i % 900), .int .u64 (1 + s.t % 9), .int .i64 (2 * (1 + s.c % 127)), .slice A s.d.length cp] ty_api_Base.2 rfl rfl rfl rfl rfl rfl rfl rfl rfl) ?_; rintro ⟨⟩
  refine h_nil (f_to (d_seq ?_))
  refine d_emps 1 rfl ?_
  refine d_parS 7 2 [⟨.quiet, [none, none], fun _ => .pointer (some ⟨g3, 0, none⟩), []⟩, ⟨.quiet, [none, none], fun _ => .agg #[.int .u64 (1 + s.i % 900), .int .u64 (1 + s.t % 9), .int .i64 (2 * (1 + s.c % 127))], [0]⟩, ⟨.act 0, [some false, some false], fun _ => undef, []⟩, ⟨.quiet, [none, none], fun _ => .pointer (some ⟨g3, 3, none⟩), []⟩, ⟨.quiet, [none, none], fun _ => .slice A s.d.length cp, [3]⟩, ⟨.act 1, [some true, some false], fun _ => undef, [2, 4]⟩, ⟨.quiet, [some true, some true], fun ρ => match ρ with | [_, some u31] => .agg #[.int .u64 (1 + s.i % 900), .int .u64 (1 + s.t % 9), .int .i64 (2 * (1 + s.c % 127)), u31] | _ => undef, [1, 5]⟩] [(2, .pointer (some ⟨g2, 0, none⟩)), (3, .pointer (some ⟨g3, 0, none⟩))] (fun ρ => match ρ with | [rq0, rq1] => [selS rq1 (fun u31 => Vec 5 1 encB u31 s.d) (selS rq0 (fun u28 => Vec 5 1 encB u28 ([])) (emp)), cell g3 31 #[.int .u64 (1 + s.i % 900), .int .u64 (1 + s.t % 9), .int .i64 (2 * (1 + s.c % 127)), .slice A s.d.length cp], cell g2 31 #[.int .u64 0, .int .u64 0, .int .i64 0, .slice none 0 0], cell g1 45 #[.int .i64 wh, .int .u64 s.i, .int .u64 s.t, .int .i64 s.c, .slice A s.d.length cp, .bool true, .int .i64 hw, .int .i64 ha, .int .i64 hb9], X] | _ => []) (by kernel_rfl) (by kernel_rfl) ⟨rfl, rfl, trivial⟩ rfl ?_ ?_
  · skip
    refine s_cons (by intro r0_ r1_; exact ⟨rfl, fun b w hH hb => exec_q1 hflU rfl hb⟩) ?_
    refine s_cons (by intro r0_ r1_; exact ⟨rfl, fun b w hH hb => exec_load rfl rfl (reads_agg (cs := [.int .u64 (1 + s.i % 900), .int .u64 (1 + s.t % 9), .int .i64 (2 * (1 + s.c % 127)), .slice A s.d.length cp]) ty_api_Base rfl) (hH.row 1 rfl) hb⟩) ?_
    refine s_cons (by exact ⟨rfl, Acts.s (Acts.place (val := fun u28 : Value => u28) (t := fun u28 => Vec 5 1 encB u28 ([])) (os' := fun u28 => [Vec 5 1 encB u28 ([]), cell g3 31 #[.int .u64 (1 + s.i % 900), .int .u64 (1 + s.t % 9), .int .i64 (2 * (1 + s.c % 127)), .slice A s.d.length cp], cell g2 31 #[.int .u64 0, .int .u64 0, .int .i64 0, .slice none 0 0], cell g1 45 #[.int .i64 wh, .int .u64 s.i, .int .u64 s.t, .int .i64 s.c, .slice A s.d.length cp, .bool true, .int .i64 hw, .int .i64 ha, .int .i64 hb9], X]) 0 rfl (by refine a_build0 (e := 5) (t := 29) (k := 1) (enc := encB) ?_ ?_; exact sl_uint8; exact rfl) (fun _ => rfl)) (fun _ => rfl)⟩) ?_
    refine s_cons (by intro r0_ r1_; exact ⟨rfl, fun b w hH hb => exec_q1 hflU rfl hb⟩) ?_
    refine s_cons (by intro r0_ r1_; exact ⟨rfl, fun b w hH hb => exec_load rfl rfl (reads_one ty_s_uint8 rfl) (hH.row 1 rfl) hb⟩) ?_
    refine s_cons (by intro u28; exact ⟨rfl, Acts.s (a_append8 0 sl_uint8 (by kernel_rfl) rfl (s.d) (fun w hH => (hH.rd8 4 rfl hX).rd) (by simp only [List.length_nil]; omega) rfl rfl rfl (List.nil_append _)) (fun _ => rfl)⟩) ?_
    refine s_cons (by intro u28 u31; exact ⟨rfl, fun b w hH hb => (by obtain ⟨_, h1_, _⟩ := hH.thing 0 rfl; obtain ⟨A2, c2, e2⟩ := Vec.is h1_; subst e2; exact exec_build rfl rfl rfl hb)⟩) ?_
    exact s_nil
  intro u28 u31
  refine WL2.keep (env' := [(2, .pointer (some ⟨g2, 0, none⟩)), (32, .agg #[.int .u64 (1 + s.i % 900), .int .u64 (1 + s.t % 9), .int .i64 (2 * (1 + s.c % 127)), u31])]) ⟨rfl, rfl, trivial⟩ ?_
  refine WL2.fact 0 rfl (fun _ h => Vec.is h) ?_; rintro ⟨A9, c9, rfl⟩
  refine h_q hflU rfl ?_
  refine h_acts (post := fun _ => [Vec 5 1 encB (.slice A9 s.d.length c9) s.d, cell g3 31 #[.int .u64 (1 + s.i % 900), .int .u64 (1 + s.t % 9), .int .i64 (2 * (1 + s.c % 127)), .slice A s.d.length cp], cell g2 31 #[.int .u64 (1 + s.i % 900), .int .u64 (1 + s.t % 9), .int .i64 (2 * (1 + s.c % 127)), .slice A9 s.d.length c9], cell g1 45 #[.int .i64 wh, .int .u64 s.i, .int .u64 s.t, .int .i64 s.c, .slice A s.d.length cp, .bool true, .int .i64 hw, .int .i64 ha, .int .i64 hb9], X]) rfl rfl (a_store 2 (v := .agg #[.int .u64 (1 + s.i % 900), .int .u64 (1 + s.t % 9), .int .i64 (2 * (1 + s.c % 127)), .slice A9 s.d.length c9]) #[.int .u64 (1 + s.i % 900), .int .u64 (1 + s.t % 9), .int .i64 (2 * (1 + s.c % 127)), .slice A9 s.d.length c9] ty_api_Snap.2 rfl rfl rfl rfl rfl rfl rfl rfl rfl) ?_; rintro ⟨⟩
  refine h_nil (f_to (d_ret ?_))
  exact f_fin1 (.cell 2 (v := .agg #[.int .u64 (1 + s.i % 900), .int .u64 (1 + s.t % 9), .int .i64 (2 * (1 + s.c % 127)), .slice A9 s.d.length c9]) (reads_agg (cs := [.int .u64 (1 + s.i % 900), .int .u64 (1 + s.t % 9), .int .i64 (2 * (1 + s.c % 127)), .slice A9 s.d.length c9]) ty_api_Snap rfl) rfl rfl) (fun w h => tells (A9, c9) rfl [4, 0] rfl h same_parts) rfl

end Go.Proofs.Ytjcfimmcogkopaa.Sep

namespace Go.Proofs.Ytjcfimmcogkopaa.Sep
open Go.RowKit
open Go.Proofs.Ytjcfimmcogkopaa.Mem (Dist Blk Chg below0)

def SnB (y : SnE) : Ass := RdB (.slice y.A y.s.d.length y.cp) y.s.d
theorem Hp.eachB {B : Nat → Prop} {w0 w : World} {os : List Ass} {l : List SnE} {j : Nat} {x : SnE} (h : Hp B w0 w os) (i : Nat) (hi : os[i]? = some (Each SnB l)) (hj : l[j]? = some x) : Sl8 w (.slice x.A x.s.d.length x.cp) x.s.d := by
  obtain ⟨ys, h1, h2⟩ := h.each i hi hj
  exact rdB_rd8 ys w h1 h2
theorem pick_natP (a m : Int) (hm : 0 < m) : ∃ S : Nat, a % m = (S : Int) ∧ (S : Int) < m := by
  have h1 := Int.emod_nonneg a (show m ≠ 0 by omega)
  have h2 := Int.emod_lt_of_pos a hm
  exact ⟨(a % m).toNat, (Int.toNat_of_nonneg h1).symm, by omega⟩
theorem optL_none {A : List SnV} {j : Nat} (h : (optL A)[j]? = some none) : j = 0 := by
  cases j with
  | zero => rfl
  | succ j =>
    unfold optL at h
    rw [List.getElem?_cons_succ, List.getElem?_map] at h
    cases e : A[j]? with
    | none => rw [e] at h; cases h
    | some y => rw [e] at h; cases h
theorem optL_some {A : List SnV} {j : Nat} {s : SnV} (h : (optL A)[j]? = some (some s)) : ∃ k, j = k + 1 ∧ A[k]? = some s := by
  cases j with
  | zero => cases h
  | succ j =>
    unfold optL at h
    rw [List.getElem?_cons_succ, List.getElem?_map] at h
    cases e : A[j]? with
    | none => rw [e] at h; cases h
    | some y => rw [e] at h; exact ⟨j, rfl, by rw [e]; exact Option.some.inj h⟩

set_option maxRecDepth 100000 in
theorem photokeeps_does {X : Ass} {v0 : Value} {l0 : List SnE} (hL : Rd X 4 encSn v0 l0) (hE : ∀ y ∈ l0, Rd8 X (.slice y.A y.s.d.length y.cp) y.s.d ∧ y.s.d.length ≤ 140737488351232) (hl0 : l0.length ≤ 9223372036854775807) (ho0 : ∀ y ∈ l0, SnR y.s) {sy keep torn : Int} (hsy : -9223372036854775808 ≤ sy ∧ sy ≤ 9223372036854775807) (hkp : -9223372036854775808 ≤ keep ∧ keep ≤ 9223372036854775807) (htn : -9223372036854775808 ≤ torn ∧ torn ≤ 9223372036854775807) : Does Try.prog 4 #[v0, .int .i64 sy, .int .i64 keep, .int .i64 torn] [X] (fun (_ : Unit) => .bool true) (fun (_ : Unit) => [X]) := by
  refine d_ins (args := [v0, .int .i64 sy, .int .i64 keep, .int .i64 torn]) 113 Try.func4 rfl rfl rfl ?_; intro w rs
  obtain ⟨N, hN⟩ : ∃ N, min l0.length 20 = N := ⟨_, rfl⟩
  have hN20 : N ≤ 20 := by omega
  have hNl : N ≤ l0.length := by omega
  obtain ⟨S, hS, hSl⟩ := pick_natP sy ((N : Int) + 1) (by omega)
  refine d_reg ?_
  refine h_q hflU rfl ?_
  refine h_done (d_reg ?_)
  refine h_q hflU rfl ?_
  refine h_act (post := fun p => [DiskT p (newD 1048576), X]) rfl (a_does (os' := fun p => [DiskT p (newD 1048576), X]) [] 0 (ent_of Try.func5 (by kernel_rfl) rfl) (disk_new 1048576 (by decide)) rfl rfl rfl (fun _ => rfl) rfl rfl rfl) ?_; rintro p
  refine h_q hflU rfl ?_
  refine h_done (d_seq (d_reg ?_))
  refine h_q hflU rfl ?_
  refine h_act (post := fun _ => [DiskT p (newD 1048576), X]) rfl (a_call (ent_of Try.func7 (by kernel_rfl) rfl) (fun w hH => pknown_true w) rfl rfl rfl) ?_; rintro ⟨⟩
  refine h_q hflU rfl ?_
  refine h_val rfl (.bool false) (fun b w hb hH => exec_cmp rfl rfl rfl (cmp_neq_f (by decide)) hb) ?_
  refine h_q hflU rfl ?_
  refine h_val rfl (.bool false) (fun b w hb hH => exec_pnil_eql (by kernel_rfl) rfl rfl rfl hb) ?_
  refine h_q hflU rfl ?_
  refine h_done (d_else rfl (d_skip (f_to (d_reg ?_))))
  refine h_q hflU rfl ?_
  refine h_done (d_reg ?_)
  refine h_q hflU rfl ?_
  refine h_done (d_reg ?_)
  refine h_q hflU rfl ?_
  refine h_val rfl (.int .i64 (l0.length : Int)) (fun b w hb hH => e_slen ((hH.rd 1 rfl hL)) Try.underlying38 rfl rfl hb) ?_
  refine h_val rfl (.int .i64 (N : Int)) (fun b w hb hH => exec_builtin2 rfl rfl (fun cs => (fun w cs => run_min2 (by omega) _ _ w cs) w cs) hb) ?_
  refine h_q hflU rfl ?_
  refine h_done (d_reg ?_)
  refine h_q hflU rfl ?_
  refine h_val rfl (.int .i64 ((N : Int) + 1)) (fun b w hb hH => exec_ar rfl rfl rfl rfl (IntWalk.i64_in _ (by omega)) hb) ?_
  refine h_act (post := fun _ => [DiskT p (newD 1048576), X]) rfl (a_call (ent_of Try.func11 (by kernel_rfl) rfl) (fun w hH => pick w sy ((N : Int) + 1) hsy (by omega) hS) rfl rfl rfl) ?_; rintro ⟨⟩
  refine h_q hflU rfl ?_
  refine h_done (d_seq (d_reg ?_))
  refine h_q hflU rfl ?_
  refine h_done (d_block ?_)
  refine d_nilvec 31 4 encSn ?_
  refine d_new (t := Each SnB []) (each_nil) ?_
  refine d_loop (α := Nat × Nat × Value × List SnE × DiskD × Option SnV) (fun ⟨i, a, av, LL, d, o⟩ => [(0, v0), (2, .int .i64 keep), (3, .int .i64 torn), (8, .bool false), (9, .pointer (some ⟨p, 0, none⟩)), (11, av), (12, .int .i64 (((a : Nat) : Int) - 1)), (13, .int .i64 (N : Int)), (1, .int .i64 (S : Int)), (14, .int .i64 ((i : Nat) : Int))]) (fun ⟨i, a, av, LL, d, o⟩ => [Each SnB LL, Vec 31 4 encSn av LL, DiskT p d, X]) (fun ⟨i, a, av, LL, d, o⟩ => i ≤ N ∧ PI i a (LL.map (·.s)) d o) (fun ⟨i, a, av, LL, d, o⟩ => N - i) (0, 0, .slice none 0 0, [], newD 1048576, none) ⟨Nat.zero_le _, pi0⟩ ⟨rfl, rfl, rfl, rfl, rfl, rfl, rfl, rfl, rfl, rfl, trivial⟩ rfl ?_
  rintro ⟨i, a, av, LL, d, o⟩ hI
  refine WC2.at_ (env' := [(0, v0), (2, .int .i64 keep), (3, .int .i64 torn), (8, .bool false), (9, .pointer (some ⟨p, 0, none⟩)), (11, av), (12, .int .i64 (((a : Nat) : Int) - 1)), (13, .int .i64 (N : Int)), (1, .int .i64 (S : Int)), (14, .int .i64 ((i : Nat) : Int))]) (rs' := [Each SnB LL, Vec 31 4 encSn av LL, DiskT p d, X]) ⟨rfl, rfl, rfl, rfl, rfl, rfl, rfl, rfl, rfl, rfl, trivial⟩ rfl ?_
  obtain ⟨hI1, hK⟩ := hI
  have hAl : LL.length = i := by have := hK.len; rwa [List.length_map] at this
  have hai := hK.ai
  refine d_seq ?_
  have hc : i < N ∨ N ≤ i := by omega
  rcases hc with hi | hi
  · skip
    obtain ⟨y, hil⟩ : ∃ y, l0[i]? = some y := ⟨_, List.getElem?_eq_getElem (by omega)⟩
    have hym := List.mem_of_getElem? hil
    have hy := ho0 y hym
    obtain ⟨hyX, hyl⟩ := hE y hym
    obtain ⟨K, hK200⟩ : ∃ K, min y.s.d.length 200 = K := ⟨_, rfl⟩
    have hZl : (cutP (shP y.s) 200).d.length = K := by show (y.s.d.take 200).length = K; rw [List.length_take]; omega
    refine d_reg ?_
    refine h_q hflU rfl ?_
    refine h_val rfl (.bool true) (fun b w hb hH => exec_cmp rfl rfl rfl (cmp_lss_t (by omega)) hb) ?_
    refine h_done (d_then rfl (d_skip (f_to (d_seq (d_block (d_seq ?_))))))
    rcases Classical.em (i = S) with hiS | hiS
    · skip
      obtain ⟨d1, hsyn, hK1⟩ := hK.sync
      obtain ⟨d', hsv, hK3⟩ := hK1.save (by omega) (shP_ok y.s 200 (by decide))
      refine d_reg ?_
      refine h_q hflU rfl ?_
      refine h_val rfl (.bool true) (fun b w hb hH => exec_cmp rfl rfl rfl (cmp_eql_t (by omega)) hb) ?_
      refine h_done (d_then rfl (d_seq (d_reg ?_)))
      refine h_q hflU rfl ?_
      refine h_act (post := fun _ => [Each SnB LL, Vec 31 4 encSn av LL, DiskT p d1, X]) rfl (a_does (os' := fun _ => [Each SnB LL, Vec 31 4 encSn av LL, DiskT p d1, X]) [2] 0 (ent_of Try.func12 (by kernel_rfl) rfl) (disk_sync hK.fit.fit hsyn) rfl rfl rfl (fun _ => rfl) rfl rfl rfl) ?_; rintro ⟨⟩
      refine h_val rfl (.bool false) (fun b w hb hH => exec_cmp rfl rfl rfl (cmp_neq_f (by decide)) hb) ?_
      refine h_done (d_else rfl (d_skip (f_to (d_reg1 ?_))))
      refine h_q hflU rfl ?_
      refine h_val rfl (.int .i64 (LL.length : Int)) (fun b w hb hH => e_vlen 1 Try.underlying38 rfl rfl rfl hH hb) ?_
      refine h_val rfl (.int .i64 (((i : Nat) : Int) - 1)) (fun b w hb hH => exec_ar rfl rfl rfl rfl (by rw [IntWalk.i64_in _ (by omega)]; omega) hb) ?_
      refine h_q hflU rfl ?_
      refine h_nil (f_to (d_reg ?_))
      refine h_q hflU rfl ?_
      refine h_val rfl (elp v0 (i * 4)) (fun b w hb hH => e_sidx okSn ((hH.rd 3 rfl hL)) sl_api_Snap (j := i) hil rfl rfl rfl hb) ?_
      refine h_val rfl (.agg (encSn y).toArray) (fun b w hb hH => e_sagg okSn (by decide) ((hH.rd 3 rfl hL)) (j := i) hil ty_api_Snap rfl rfl hb) ?_
      refine h_val rfl (.agg #[.int .i64 0, .int .u64 y.s.i, .int .u64 y.s.t, .int .i64 y.s.c, .slice y.A y.s.d.length y.cp, .bool true, .int .i64 0, .int .i64 0, .int .i64 0]) (fun b w hb hH => exec_build rfl rfl (by kernel_rfl) hb) ?_
      refine h_act rfl (a_does  [3] 0 (ent_of Try.func13 (by kernel_rfl) rfl) ((pshaped_near (wh := 0) (hw := 0) (ha := 0) (hb9 := 0) hy hyX hyl)) rfl rfl rfl (fun _ => rfl) rfl rfl rfl) ?_; rintro ⟨A9, c9⟩
      refine WL2.fact 0 rfl vec_capP ?_; rintro hcap
      refine h_act (post := fun g15 => [cell g15 31 #[.int .u64 0, .int .u64 0, .int .i64 0, .slice none 0 0], Vec 5 1 encB (.slice A9 y.s.d.length c9) y.s.d, Each SnB LL, Vec 31 4 encSn av LL, DiskT p d1, X]) rfl (a_alloc ze_api_Snap rfl) ?_; rintro g15
      refine h_acts (post := fun _ => [cell g15 31 #[.int .u64 ((shP y.s).i), .int .u64 ((shP y.s).t), .int .i64 ((shP y.s).c), .slice A9 y.s.d.length c9], Vec 5 1 encB (.slice A9 y.s.d.length c9) y.s.d, Each SnB LL, Vec 31 4 encSn av LL, DiskT p d1, X]) rfl rfl (a_store 0 (v := .agg #[.int .u64 ((shP y.s).i), .int .u64 ((shP y.s).t), .int .i64 ((shP y.s).c), .slice A9 y.s.d.length c9]) #[.int .u64 ((shP y.s).i), .int .u64 ((shP y.s).t), .int .i64 ((shP y.s).c), .slice A9 y.s.d.length c9] ty_api_Snap.2 rfl rfl rfl rfl rfl rfl rfl rfl rfl) ?_; rintro ⟨⟩
      refine h_done (d_reg ?_)
      refine h_q hflU rfl ?_
      refine h_val rfl (.slice A9 y.s.d.length c9) (fun b w hb hH => exec_load rfl rfl (reads_one ty_s_uint8 rfl) (hH.row 0 rfl) hb) ?_
      refine h_q hflU rfl ?_
      refine h_val rfl (.slice A9 y.s.d.length c9) (fun b w hb hH => exec_load rfl rfl (reads_one ty_s_uint8 rfl) (hH.row 0 rfl) hb) ?_
      refine h_val rfl (.int .i64 (y.s.d.length : Int)) (fun b w hb hH => e_len sl_uint8 rfl rfl hH hb) ?_
      refine h_val rfl (.int .i64 ((cutP (shP y.s) 200).d.length : Int)) (fun b w hb hH => exec_builtin2 rfl rfl (fun cs => (fun w cs => run_min2 (by rw [hZl]; omega) _ _ w cs) w cs) hb) ?_
      refine h_val rfl (.slice A9 (cutP (shP y.s) 200).d.length c9) (fun b w hb hH => e_sub_hi (j := (cutP (shP y.s) 200).d.length) sl_uint8 sub_take7 (by rw [hZl]; omega) rfl rfl rfl hH hb) ?_
      refine h_q hflU rfl ?_
      refine h_acts (post := fun _ => [cell g15 31 #[.int .u64 ((shP y.s).i), .int .u64 ((shP y.s).t), .int .i64 ((shP y.s).c), .slice A9 (cutP (shP y.s) 200).d.length c9], Vec 5 1 encB (.slice A9 y.s.d.length c9) y.s.d, Each SnB LL, Vec 31 4 encSn av LL, DiskT p d1, X]) rfl rfl (a_store 0 (v := .slice A9 (cutP (shP y.s) 200).d.length c9) #[.int .u64 ((shP y.s).i), .int .u64 ((shP y.s).t), .int .i64 ((shP y.s).c), .slice A9 (cutP (shP y.s) 200).d.length c9] ty_s_uint8.2 rfl rfl rfl rfl rfl rfl rfl rfl rfl) ?_; rintro ⟨⟩
      refine h_done (d_seq (d_reg ?_))
      refine h_q hflU rfl ?_
      refine h_val rfl (.agg #[.int .u64 ((shP y.s).i), .int .u64 ((shP y.s).t), .int .i64 ((shP y.s).c), .slice A9 (cutP (shP y.s) 200).d.length c9]) (fun b w hb hH => exec_load rfl rfl (reads_agg (cs := [.int .u64 ((shP y.s).i), .int .u64 ((shP y.s).t), .int .i64 ((shP y.s).c), .slice A9 (cutP (shP y.s) 200).d.length c9]) ty_api_Snap rfl) (hH.row 0 rfl) hb) ?_
      refine h_act (post := fun _ => [cell g15 31 #[.int .u64 ((shP y.s).i), .int .u64 ((shP y.s).t), .int .i64 ((shP y.s).c), .slice A9 (cutP (shP y.s) 200).d.length c9], Vec 5 1 encB (.slice A9 y.s.d.length c9) y.s.d, Each SnB LL, Vec 31 4 encSn av LL, DiskT p d', X]) rfl (a_does (os' := fun _ => [cell g15 31 #[.int .u64 ((shP y.s).i), .int .u64 ((shP y.s).t), .int .i64 ((shP y.s).c), .slice A9 (cutP (shP y.s) 200).d.length c9], Vec 5 1 encB (.slice A9 y.s.d.length c9) y.s.d, Each SnB LL, Vec 31 4 encSn av LL, DiskT p d', X]) [4, 1] 0 (ent_of Try.func8 (by kernel_rfl) rfl) (psave_does (s := (cutP (shP y.s) 200)) (shP_ok y.s 200 (by decide)) (fitK_monoP hK1.fit (by omega)) (rd8_cutP 200 rd8_vec) hsv) rfl rfl rfl (fun _ => rfl) rfl rfl rfl) ?_; rintro ⟨⟩
      refine h_val rfl (.bool false) (fun b w hb hH => exec_cmp rfl rfl rfl (cmp_neq_f (by decide)) hb) ?_
      refine h_done (d_else rfl (d_skip (f_to (d_reg1 ?_))))
      refine h_q hflU rfl ?_
      refine h_val rfl (.agg #[.int .u64 ((shP y.s).i), .int .u64 ((shP y.s).t), .int .i64 ((shP y.s).c), .slice A9 (cutP (shP y.s) 200).d.length c9]) (fun b w hb hH => exec_load rfl rfl (reads_agg (cs := [.int .u64 ((shP y.s).i), .int .u64 ((shP y.s).t), .int .i64 ((shP y.s).c), .slice A9 (cutP (shP y.s) 200).d.length c9]) ty_api_Snap rfl) (hH.row 0 rfl) hb) ?_
      refine h_act (X := Value) (val := fun v : Value => v) (post := fun u1 => [Vec 31 4 encSn u1 ([(⟨(cutP (shP y.s) 200), A9, c9⟩ : SnE)]), cell g15 31 #[.int .u64 ((shP y.s).i), .int .u64 ((shP y.s).t), .int .i64 ((shP y.s).c), .slice A9 (cutP (shP y.s) 200).d.length c9], Vec 5 1 encB (.slice A9 y.s.d.length c9) y.s.d, Each SnB LL, Vec 31 4 encSn av LL, DiskT p d', X]) rfl (by refine a_buildK (e := 31) (t := 38) (k := 4) (enc := encSn) (x := .tmp 74) (c := .agg #[.int .u64 ((shP y.s).i), .int .u64 ((shP y.s).t), .int .i64 ((shP y.s).c), .slice A9 (cutP (shP y.s) 200).d.length c9]) ?_ ?_ ?_ (⟨(cutP (shP y.s) 200), A9, c9⟩ : SnE) ?_ ?_ ?_; exact sl_api_Snap; exact (by decide); exact okSn; exact rfl; exact rfl; exact rfl) ?_; rintro u1
      refine h_act (post := fun av2 => [Vec 31 4 encSn u1 ([(⟨(cutP (shP y.s) 200), A9, c9⟩ : SnE)]), cell g15 31 #[.int .u64 ((shP y.s).i), .int .u64 ((shP y.s).t), .int .i64 ((shP y.s).c), .slice A9 (cutP (shP y.s) 200).d.length c9], Vec 5 1 encB (.slice A9 y.s.d.length c9) y.s.d, Each SnB LL, Vec 31 4 encSn av2 (LL ++ [(⟨(cutP (shP y.s) 200), A9, c9⟩ : SnE)]), DiskT p d', X]) rfl (a_appendK (nb := 48) 4 sl_api_Snap okSn (by kernel_rfl) (by decide) rfl ([(⟨(cutP (shP y.s) 200), A9, c9⟩ : SnE)]) (fun w hH => hH.vec 0 rfl okSn) (by simp only [List.length_cons, List.length_nil]; omega) rfl rfl rfl rfl) ?_; rintro av2
      refine h_q hflU rfl ?_
      refine h_nil (f_block (f_to ?_))
      refine WC2.leave [0, 1] rfl rfl ?_
      refine d_close [0] rfl (rdB_of (rd8_cutP 200 rd8_vec)) rfl ?_
      refine d_close [1, 0] rfl (each_close (x := (⟨(cutP (shP y.s) 200), A9, c9⟩ : SnE))) rfl ?_
      refine d_reg1 ?_
      refine h_q hflU rfl ?_
      refine h_val rfl (.int .i64 ((i + 1 : Nat) : Int)) (fun b w hb hH => exec_ar rfl rfl rfl rfl (by rw [IntWalk.i64_in _ (by omega)]; omega) hb) ?_
      refine h_q hflU rfl ?_
      refine h_nil ?_
      exact f_again (i + 1, i, av2, LL ++ [(⟨(cutP (shP y.s) 200), A9, c9⟩ : SnE)], d', some (cutP (shP y.s) 200)) 0 ⟨hi, by rw [List.map_append]; exact hK3⟩ (show N - (i + 1) < N - i by omega) ⟨rfl, rfl, rfl, rfl, rfl, rfl, rfl, rfl, rfl, rfl, trivial⟩ rfl
    · skip
      obtain ⟨d', hsv, hK3⟩ := hK.save (by omega) (shP_ok y.s 200 (by decide))
      refine d_reg ?_
      refine h_q hflU rfl ?_
      refine h_val rfl (.bool false) (fun b w hb hH => exec_cmp rfl rfl rfl (cmp_eql_f (by omega)) hb) ?_
      refine h_done (d_else rfl (d_skip (f_to (d_reg ?_))))
      refine h_q hflU rfl ?_
      refine h_val rfl (elp v0 (i * 4)) (fun b w hb hH => e_sidx okSn ((hH.rd 3 rfl hL)) sl_api_Snap (j := i) hil rfl rfl rfl hb) ?_
      refine h_val rfl (.agg (encSn y).toArray) (fun b w hb hH => e_sagg okSn (by decide) ((hH.rd 3 rfl hL)) (j := i) hil ty_api_Snap rfl rfl hb) ?_
      refine h_val rfl (.agg #[.int .i64 0, .int .u64 y.s.i, .int .u64 y.s.t, .int .i64 y.s.c, .slice y.A y.s.d.length y.cp, .bool true, .int .i64 0, .int .i64 0, .int .i64 0]) (fun b w hb hH => exec_build rfl rfl (by kernel_rfl) hb) ?_
      refine h_act rfl (a_does  [3] 0 (ent_of Try.func13 (by kernel_rfl) rfl) ((pshaped_near (wh := 0) (hw := 0) (ha := 0) (hb9 := 0) hy hyX hyl)) rfl rfl rfl (fun _ => rfl) rfl rfl rfl) ?_; rintro ⟨A9, c9⟩
      refine WL2.fact 0 rfl vec_capP ?_; rintro hcap
      refine h_act (post := fun g15 => [cell g15 31 #[.int .u64 0, .int .u64 0, .int .i64 0, .slice none 0 0], Vec 5 1 encB (.slice A9 y.s.d.length c9) y.s.d, Each SnB LL, Vec 31 4 encSn av LL, DiskT p d, X]) rfl (a_alloc ze_api_Snap rfl) ?_; rintro g15
      refine h_acts (post := fun _ => [cell g15 31 #[.int .u64 ((shP y.s).i), .int .u64 ((shP y.s).t), .int .i64 ((shP y.s).c), .slice A9 y.s.d.length c9], Vec 5 1 encB (.slice A9 y.s.d.length c9) y.s.d, Each SnB LL, Vec 31 4 encSn av LL, DiskT p d, X]) rfl rfl (a_store 0 (v := .agg #[.int .u64 ((shP y.s).i), .int .u64 ((shP y.s).t), .int .i64 ((shP y.s).c), .slice A9 y.s.d.length c9]) #[.int .u64 ((shP y.s).i), .int .u64 ((shP y.s).t), .int .i64 ((shP y.s).c), .slice A9 y.s.d.length c9] ty_api_Snap.2 rfl rfl rfl rfl rfl rfl rfl rfl rfl) ?_; rintro ⟨⟩
      refine h_done (d_reg ?_)
      refine h_q hflU rfl ?_
      refine h_val rfl (.slice A9 y.s.d.length c9) (fun b w hb hH => exec_load rfl rfl (reads_one ty_s_uint8 rfl) (hH.row 0 rfl) hb) ?_
      refine h_q hflU rfl ?_
      refine h_val rfl (.slice A9 y.s.d.length c9) (fun b w hb hH => exec_load rfl rfl (reads_one ty_s_uint8 rfl) (hH.row 0 rfl) hb) ?_
      refine h_val rfl (.int .i64 (y.s.d.length : Int)) (fun b w hb hH => e_len sl_uint8 rfl rfl hH hb) ?_
      refine h_val rfl (.int .i64 ((cutP (shP y.s) 200).d.length : Int)) (fun b w hb hH => exec_builtin2 rfl rfl (fun cs => (fun w cs => run_min2 (by rw [hZl]; omega) _ _ w cs) w cs) hb) ?_
      refine h_val rfl (.slice A9 (cutP (shP y.s) 200).d.length c9) (fun b w hb hH => e_sub_hi (j := (cutP (shP y.s) 200).d.length) sl_uint8 sub_take7 (by rw [hZl]; omega) rfl rfl rfl hH hb) ?_
      refine h_q hflU rfl ?_
      refine h_acts (post := fun _ => [cell g15 31 #[.int .u64 ((shP y.s).i), .int .u64 ((shP y.s).t), .int .i64 ((shP y.s).c), .slice A9 (cutP (shP y.s) 200).d.length c9], Vec 5 1 encB (.slice A9 y.s.d.length c9) y.s.d, Each SnB LL, Vec 31 4 encSn av LL, DiskT p d, X]) rfl rfl (a_store 0 (v := .slice A9 (cutP (shP y.s) 200).d.length c9) #[.int .u64 ((shP y.s).i), .int .u64 ((shP y.s).t), .int .i64 ((shP y.s).c), .slice A9 (cutP (shP y.s) 200).d.length c9] ty_s_uint8.2 rfl rfl rfl rfl rfl rfl rfl rfl rfl) ?_; rintro ⟨⟩
      refine h_done (d_seq (d_reg ?_))
      refine h_q hflU rfl ?_
      refine h_val rfl (.agg #[.int .u64 ((shP y.s).i), .int .u64 ((shP y.s).t), .int .i64 ((shP y.s).c), .slice A9 (cutP (shP y.s) 200).d.length c9]) (fun b w hb hH => exec_load rfl rfl (reads_agg (cs := [.int .u64 ((shP y.s).i), .int .u64 ((shP y.s).t), .int .i64 ((shP y.s).c), .slice A9 (cutP (shP y.s) 200).d.length c9]) ty_api_Snap rfl) (hH.row 0 rfl) hb) ?_
      refine h_act (post := fun _ => [cell g15 31 #[.int .u64 ((shP y.s).i), .int .u64 ((shP y.s).t), .int .i64 ((shP y.s).c), .slice A9 (cutP (shP y.s) 200).d.length c9], Vec 5 1 encB (.slice A9 y.s.d.length c9) y.s.d, Each SnB LL, Vec 31 4 encSn av LL, DiskT p d', X]) rfl (a_does (os' := fun _ => [cell g15 31 #[.int .u64 ((shP y.s).i), .int .u64 ((shP y.s).t), .int .i64 ((shP y.s).c), .slice A9 (cutP (shP y.s) 200).d.length c9], Vec 5 1 encB (.slice A9 y.s.d.length c9) y.s.d, Each SnB LL, Vec 31 4 encSn av LL, DiskT p d', X]) [4, 1] 0 (ent_of Try.func8 (by kernel_rfl) rfl) (psave_does (s := (cutP (shP y.s) 200)) (shP_ok y.s 200 (by decide)) (fitK_monoP hK.fit (by omega)) (rd8_cutP 200 rd8_vec) hsv) rfl rfl rfl (fun _ => rfl) rfl rfl rfl) ?_; rintro ⟨⟩
      refine h_val rfl (.bool false) (fun b w hb hH => exec_cmp rfl rfl rfl (cmp_neq_f (by decide)) hb) ?_
      refine h_done (d_else rfl (d_skip (f_to (d_reg1 ?_))))
      refine h_q hflU rfl ?_
      refine h_val rfl (.agg #[.int .u64 ((shP y.s).i), .int .u64 ((shP y.s).t), .int .i64 ((shP y.s).c), .slice A9 (cutP (shP y.s) 200).d.length c9]) (fun b w hb hH => exec_load rfl rfl (reads_agg (cs := [.int .u64 ((shP y.s).i), .int .u64 ((shP y.s).t), .int .i64 ((shP y.s).c), .slice A9 (cutP (shP y.s) 200).d.length c9]) ty_api_Snap rfl) (hH.row 0 rfl) hb) ?_
      refine h_act (X := Value) (val := fun v : Value => v) (post := fun u2 => [Vec 31 4 encSn u2 ([(⟨(cutP (shP y.s) 200), A9, c9⟩ : SnE)]), cell g15 31 #[.int .u64 ((shP y.s).i), .int .u64 ((shP y.s).t), .int .i64 ((shP y.s).c), .slice A9 (cutP (shP y.s) 200).d.length c9], Vec 5 1 encB (.slice A9 y.s.d.length c9) y.s.d, Each SnB LL, Vec 31 4 encSn av LL, DiskT p d', X]) rfl (by refine a_buildK (e := 31) (t := 38) (k := 4) (enc := encSn) (x := .tmp 74) (c := .agg #[.int .u64 ((shP y.s).i), .int .u64 ((shP y.s).t), .int .i64 ((shP y.s).c), .slice A9 (cutP (shP y.s) 200).d.length c9]) ?_ ?_ ?_ (⟨(cutP (shP y.s) 200), A9, c9⟩ : SnE) ?_ ?_ ?_; exact sl_api_Snap; exact (by decide); exact okSn; exact rfl; exact rfl; exact rfl) ?_; rintro u2
      refine h_act (post := fun av2 => [Vec 31 4 encSn u2 ([(⟨(cutP (shP y.s) 200), A9, c9⟩ : SnE)]), cell g15 31 #[.int .u64 ((shP y.s).i), .int .u64 ((shP y.s).t), .int .i64 ((shP y.s).c), .slice A9 (cutP (shP y.s) 200).d.length c9], Vec 5 1 encB (.slice A9 y.s.d.length c9) y.s.d, Each SnB LL, Vec 31 4 encSn av2 (LL ++ [(⟨(cutP (shP y.s) 200), A9, c9⟩ : SnE)]), DiskT p d', X]) rfl (a_appendK (nb := 48) 4 sl_api_Snap okSn (by kernel_rfl) (by decide) rfl ([(⟨(cutP (shP y.s) 200), A9, c9⟩ : SnE)]) (fun w hH => hH.vec 0 rfl okSn) (by simp only [List.length_cons, List.length_nil]; omega) rfl rfl rfl rfl) ?_; rintro av2
      refine h_q hflU rfl ?_
      refine h_nil (f_block (f_to ?_))
      refine WC2.leave [0, 1] rfl rfl ?_
      refine d_close [0] rfl (rdB_of (rd8_cutP 200 rd8_vec)) rfl ?_
      refine d_close [1, 0] rfl (each_close (x := (⟨(cutP (shP y.s) 200), A9, c9⟩ : SnE))) rfl ?_
      refine d_reg1 ?_
      refine h_q hflU rfl ?_
      refine h_val rfl (.int .i64 ((i + 1 : Nat) : Int)) (fun b w hb hH => exec_ar rfl rfl rfl rfl (by rw [IntWalk.i64_in _ (by omega)]; omega) hb) ?_
      refine h_q hflU rfl ?_
      refine h_nil ?_
      exact f_again (i + 1, a, av2, LL ++ [(⟨(cutP (shP y.s) 200), A9, c9⟩ : SnE)], d', some (cutP (shP y.s) 200)) 0 ⟨hi, by rw [List.map_append]; exact hK3⟩ (show N - (i + 1) < N - i by omega) ⟨rfl, rfl, rfl, rfl, rfl, rfl, rfl, rfl, rfl, rfl, trivial⟩ rfl
  · skip
    obtain rfl : i = N := by omega
    obtain ⟨kf, kr, dE, x, j, hop, haj, hAj⟩ := hK.crash keep torn
    obtain ⟨dc, hdc⟩ : ∃ dc, crashD d keep torn = dc := ⟨_, rfl⟩
    rw [hdc] at kf kr hop
    obtain ⟨kk, hkk⟩ : ∃ k, keepD d keep = k := ⟨_, rfl⟩
    refine d_reg ?_
    refine h_q hflU rfl ?_
    refine h_val rfl (.bool false) (fun b w hb hH => exec_cmp rfl rfl rfl (cmp_lss_f (by omega)) hb) ?_
    refine h_done (d_else rfl (d_exit (f_then_exit (f_then_exit (f_block_exit (f_to (d_reg ?_)))))))
    refine h_q hflU rfl ?_
    refine h_act (post := fun _ => [Each SnB LL, Vec 31 4 encSn av LL, DiskT p dc, X]) rfl (a_does (os' := fun _ => [Each SnB LL, Vec 31 4 encSn av LL, DiskT p dc, X]) [2] 0 (ent_of Try.func14 (by kernel_rfl) rfl) (disk_crash hK.fit.fit hkp htn hkk hdc) rfl rfl rfl (fun _ => rfl) rfl rfl rfl) ?_; rintro ⟨⟩
    refine h_done ?_
    rcases x with _ | s
    · skip
      have hj0 := optL_none hAj
      refine d_reg ?_
      refine h_q hflU rfl ?_
      refine h_act (post := fun _ => [Each SnB LL, Vec 31 4 encSn av LL, DiskT p dE, X]) rfl (a_does (os' := fun _ => [Each SnB LL, Vec 31 4 encSn av LL, DiskT p dE, X]) [2] 0 (ent_of Try.func6 (by kernel_rfl) rfl) (popen_none (fitK_monoP kf (by decide)) kr hop) rfl rfl rfl (fun _ => rfl) rfl rfl rfl) ?_; rintro ⟨⟩
      refine h_q hflU rfl ?_
      refine h_act (post := fun g16 => [cell g16 31 #[.int .u64 0, .int .u64 0, .int .i64 0, .slice none 0 0], Each SnB LL, Vec 31 4 encSn av LL, DiskT p dE, X]) rfl (a_alloc ze_api_Snap rfl) ?_; rintro g16
      refine h_acts (post := fun _ => [cell g16 31 #[.int .u64 0, .int .u64 0, .int .i64 0, .slice none 0 0], Each SnB LL, Vec 31 4 encSn av LL, DiskT p dE, X]) rfl rfl (a_store 0 (v := .agg #[.int .u64 0, .int .u64 0, .int .i64 0, .slice none 0 0]) #[.int .u64 0, .int .u64 0, .int .i64 0, .slice none 0 0] ty_api_Snap.2 rfl rfl rfl rfl rfl rfl rfl rfl rfl) ?_; rintro ⟨⟩
      refine h_q hflU rfl ?_
      refine h_done (d_seq (d_reg ?_))
      refine h_q hflU rfl ?_
      refine h_val rfl (.bool false) (fun b w hb hH => exec_cmp rfl rfl rfl (cmp_neq_f (by decide)) hb) ?_
      refine h_q hflU rfl ?_
      refine h_done (d_then rfl (d_reg ?_))
      refine h_q hflU rfl ?_
      refine h_val rfl (.bool true) (fun b w hb hH => exec_cmp rfl rfl rfl (cmp_eql_t (by decide)) hb) ?_
      refine h_q hflU rfl ?_
      refine h_val rfl (.bool true) (fun b w hb hH => exec_cmp rfl rfl rfl (cmp_lss_t (by omega)) hb) ?_
      refine h_q hflU rfl ?_
      refine h_done (d_ret (f_then_ret ?_))
      exact f_fin1 (.tmp rfl) (fun w h => tells () rfl [4] rfl h same_parts) rfl
    · skip
      obtain ⟨j1, hj1, hAs⟩ := optL_some hAj
      obtain ⟨yj, hyj, hys⟩ : ∃ y, LL[j1]? = some y ∧ y.s = s := by rw [List.getElem?_map] at hAs; cases e9 : LL[j1]? with | none => (rw [e9] at hAs; cases hAs) | some y => (rw [e9] at hAs; exact ⟨y, rfl, Option.some.inj hAs⟩)
      have hjl : j1 < LL.length := (List.getElem?_eq_some_iff.1 hyj).1
      obtain ⟨a0, ha0⟩ : ∃ a0, a - 1 = a0 := ⟨_, rfl⟩
      have haj1 : a0 ≤ j1 := by omega
      refine d_reg ?_
      refine h_q hflU rfl ?_
      refine h_act rfl (a_does  [2] 0 (ent_of Try.func6 (by kernel_rfl) rfl) (popen_some (fitK_monoP kf (by decide)) kr hop) rfl rfl rfl (fun _ => rfl) rfl rfl rfl) ?_; rintro ⟨A8, c8⟩
      refine h_q hflU rfl ?_
      refine h_act (post := fun g16 => [cell g16 31 #[.int .u64 0, .int .u64 0, .int .i64 0, .slice none 0 0], Vec 5 1 encB (.slice A8 s.d.length c8) s.d, Each SnB LL, Vec 31 4 encSn av LL, DiskT p dE, X]) rfl (a_alloc ze_api_Snap rfl) ?_; rintro g16
      refine h_acts (post := fun _ => [cell g16 31 #[.int .u64 s.i, .int .u64 s.t, .int .i64 s.c, .slice A8 s.d.length c8], Vec 5 1 encB (.slice A8 s.d.length c8) s.d, Each SnB LL, Vec 31 4 encSn av LL, DiskT p dE, X]) rfl rfl (a_store 0 (v := .agg #[.int .u64 s.i, .int .u64 s.t, .int .i64 s.c, .slice A8 s.d.length c8]) #[.int .u64 s.i, .int .u64 s.t, .int .i64 s.c, .slice A8 s.d.length c8] ty_api_Snap.2 rfl rfl rfl rfl rfl rfl rfl rfl rfl) ?_; rintro ⟨⟩
      refine h_q hflU rfl ?_
      refine h_done (d_seq (d_reg ?_))
      refine h_q hflU rfl ?_
      refine h_val rfl (.bool false) (fun b w hb hH => exec_cmp rfl rfl rfl (cmp_neq_f (by decide)) hb) ?_
      refine h_q hflU rfl ?_
      refine h_done (d_else rfl (d_skip (f_to (d_seq (d_reg ?_)))))
      refine h_q hflU rfl ?_
      refine h_val rfl (.int .i64 (a0 : Int)) (fun b w hb hH => exec_builtin2 rfl rfl (fun cs => (fun w cs => run_max2 (by omega) _ _ w cs) w cs) hb) ?_
      refine h_q hflU rfl ?_
      refine h_done (d_block ?_)
      refine d_loop (α := Nat) (fun k => [(8, .bool false), (11, av), (16, .pointer (some ⟨g16, 0, none⟩)), (19, .int .i64 ((k : Nat) : Int))]) (fun k => [cell g16 31 #[.int .u64 s.i, .int .u64 s.t, .int .i64 s.c, .slice A8 s.d.length c8], Vec 5 1 encB (.slice A8 s.d.length c8) s.d, Each SnB LL, Vec 31 4 encSn av LL, DiskT p dE, X]) (fun k => a0 ≤ k ∧ k ≤ j1) (fun k => j1 - k) a0 ⟨Nat.le_refl _, haj1⟩ ⟨rfl, rfl, rfl, rfl, trivial⟩ rfl ?_
      rintro k hJ
      refine WC2.at_ (env' := [(8, .bool false), (11, av), (16, .pointer (some ⟨g16, 0, none⟩)), (19, .int .i64 ((k : Nat) : Int))]) (rs' := [cell g16 31 #[.int .u64 s.i, .int .u64 s.t, .int .i64 s.c, .slice A8 s.d.length c8], Vec 5 1 encB (.slice A8 s.d.length c8) s.d, Each SnB LL, Vec 31 4 encSn av LL, DiskT p dE, X]) ⟨rfl, rfl, rfl, rfl, trivial⟩ rfl ?_
      have hJ1 := hJ.1
      have hJ2 := hJ.2
      obtain ⟨yk, hAk⟩ : ∃ y, LL[k]? = some y := ⟨_, List.getElem?_eq_getElem (by omega)⟩
      refine d_seq (d_reg ?_)
      refine h_q hflU rfl ?_
      refine h_val rfl (.int .i64 (LL.length : Int)) (fun b w hb hH => e_vlen 3 Try.underlying38 rfl rfl rfl hH hb) ?_
      refine h_val rfl (.bool true) (fun b w hb hH => exec_cmp rfl rfl rfl (cmp_lss_t (by omega)) hb) ?_
      refine h_done (d_then rfl (d_skip (f_to (d_seq (d_block ?_)))))
      rcases Classical.em (yk.s = s) with he | he
      · skip
        refine d_seq ?_
        refine d_parS 6 1 [⟨.quiet, [none], fun _ => av, []⟩, ⟨.quiet, [none], fun _ => .int .i64 ((k : Nat) : Int), []⟩, ⟨.quiet, [none], fun _ => elp av (k * 4), [0, 1]⟩, ⟨.quiet, [none], fun _ => .agg (encSn yk).toArray, [2]⟩, ⟨.quiet, [none], fun _ => .agg #[.int .u64 s.i, .int .u64 s.t, .int .i64 s.c, .slice A8 s.d.length c8], []⟩, ⟨.actv 0, [some false], fun _ => .bool true, [3, 4]⟩] [(8, .bool false), (11, av), (16, .pointer (some ⟨g16, 0, none⟩)), (19, .int .i64 ((k : Nat) : Int)), (101, .int .i64 ((k : Nat) : Int)), (102, av), (103, .int .i64 (LL.length : Int)), (104, .bool true)] (fun ρ => match ρ with | [rq0] => [cell g16 31 #[.int .u64 s.i, .int .u64 s.t, .int .i64 s.c, .slice A8 s.d.length c8], Vec 5 1 encB (.slice A8 s.d.length c8) s.d, Each SnB LL, Vec 31 4 encSn av LL, DiskT p dE, X] | _ => []) (by kernel_rfl) (by kernel_rfl) ⟨rfl, rfl, rfl, rfl, rfl, rfl, rfl, rfl, trivial⟩ rfl ?_ ?_
        · skip
          refine s_cons (by intro r0_; exact ⟨rfl, fun b w hH hb => exec_q1 hflU rfl hb⟩) ?_
          refine s_cons (by intro r0_; exact ⟨rfl, fun b w hH hb => exec_q1 hflU rfl hb⟩) ?_
          refine s_cons (by intro r0_; exact ⟨rfl, fun b w hH hb => e_vidx 3 sl_api_Snap okSn rfl k (by omega) rfl rfl rfl hH hb⟩) ?_
          refine s_cons (by intro r0_; exact ⟨rfl, fun b w hH hb => e_sagg okSn (by decide) (hH.vec 3 rfl okSn) (j := k) hAk ty_api_Snap rfl rfl hb⟩) ?_
          refine s_cons (by intro r0_; exact ⟨rfl, fun b w hH hb => exec_load rfl rfl (reads_agg (cs := [.int .u64 s.i, .int .u64 s.t, .int .i64 s.c, .slice A8 s.d.length c8]) ty_api_Snap rfl) (hH.row 0 rfl) hb⟩) ?_
          refine s_cons (by exact ⟨rfl, Acts.su (a_call (ent_of Try.func15 (by kernel_rfl) rfl) (fun w hH => psame_any w (hH.eachB 2 rfl hAk) (hH.sl8 1 rfl) true (he ▸ sameP_self _)) rfl rfl rfl) rfl⟩) ?_
          exact s_nil
        intro v0_
        refine WL2.keep (env' := [(8, .bool false), (11, av), (16, .pointer (some ⟨g16, 0, none⟩)), (19, .int .i64 ((k : Nat) : Int)), (101, .int .i64 ((k : Nat) : Int)), (102, av), (103, .int .i64 (LL.length : Int)), (104, .bool true), (107, av), (108, .int .i64 ((k : Nat) : Int)), (109, elp av (k * 4)), (110, .agg (encSn yk).toArray), (111, .agg #[.int .u64 s.i, .int .u64 s.t, .int .i64 s.c, .slice A8 s.d.length c8]), (112, .bool true)]) ⟨rfl, rfl, rfl, rfl, rfl, rfl, rfl, rfl, rfl, rfl, rfl, rfl, rfl, rfl, trivial⟩ ?_
        refine h_nil (f_to (d_then rfl (d_reg ?_)))
        refine h_q hflU rfl ?_
        refine h_done (d_ret (f_block_ret (f_then_ret (f_then_ret (f_block_ret (f_then_ret ?_))))))
        exact f_fin1 (.tmp rfl) (fun w h => tells () rfl [5] rfl h same_parts) rfl
      · skip
        have hkj : k ≠ j1 := fun e => he ((congrArg SnE.s (Option.some.inj (hAk.symm.trans (e ▸ hyj)))).trans hys)
        refine d_seq ?_
        refine d_parS 6 1 [⟨.quiet, [none], fun _ => av, []⟩, ⟨.quiet, [none], fun _ => .int .i64 ((k : Nat) : Int), []⟩, ⟨.quiet, [none], fun _ => elp av (k * 4), [0, 1]⟩, ⟨.quiet, [none], fun _ => .agg (encSn yk).toArray, [2]⟩, ⟨.quiet, [none], fun _ => .agg #[.int .u64 s.i, .int .u64 s.t, .int .i64 s.c, .slice A8 s.d.length c8], []⟩, ⟨.actv 0, [some false], fun _ => .bool false, [3, 4]⟩] [(8, .bool false), (11, av), (16, .pointer (some ⟨g16, 0, none⟩)), (19, .int .i64 ((k : Nat) : Int)), (101, .int .i64 ((k : Nat) : Int)), (102, av), (103, .int .i64 (LL.length : Int)), (104, .bool true)] (fun ρ => match ρ with | [rq0] => [cell g16 31 #[.int .u64 s.i, .int .u64 s.t, .int .i64 s.c, .slice A8 s.d.length c8], Vec 5 1 encB (.slice A8 s.d.length c8) s.d, Each SnB LL, Vec 31 4 encSn av LL, DiskT p dE, X] | _ => []) (by kernel_rfl) (by kernel_rfl) ⟨rfl, rfl, rfl, rfl, rfl, rfl, rfl, rfl, trivial⟩ rfl ?_ ?_
        · skip
          refine s_cons (by intro r0_; exact ⟨rfl, fun b w hH hb => exec_q1 hflU rfl hb⟩) ?_
          refine s_cons (by intro r0_; exact ⟨rfl, fun b w hH hb => exec_q1 hflU rfl hb⟩) ?_
          refine s_cons (by intro r0_; exact ⟨rfl, fun b w hH hb => e_vidx 3 sl_api_Snap okSn rfl k (by omega) rfl rfl rfl hH hb⟩) ?_
          refine s_cons (by intro r0_; exact ⟨rfl, fun b w hH hb => e_sagg okSn (by decide) (hH.vec 3 rfl okSn) (j := k) hAk ty_api_Snap rfl rfl hb⟩) ?_
          refine s_cons (by intro r0_; exact ⟨rfl, fun b w hH hb => exec_load rfl rfl (reads_agg (cs := [.int .u64 s.i, .int .u64 s.t, .int .i64 s.c, .slice A8 s.d.length c8]) ty_api_Snap rfl) (hH.row 0 rfl) hb⟩) ?_
          refine s_cons (by exact ⟨rfl, Acts.su (a_call (ent_of Try.func15 (by kernel_rfl) rfl) (fun w hH => psame_any w (hH.eachB 2 rfl hAk) (hH.sl8 1 rfl) false (sameP_ne he)) rfl rfl rfl) rfl⟩) ?_
          exact s_nil
        intro v0_
        refine WL2.keep (env' := [(8, .bool false), (11, av), (16, .pointer (some ⟨g16, 0, none⟩)), (19, .int .i64 ((k : Nat) : Int)), (101, .int .i64 ((k : Nat) : Int)), (102, av), (103, .int .i64 (LL.length : Int)), (104, .bool true), (107, av), (108, .int .i64 ((k : Nat) : Int)), (109, elp av (k * 4)), (110, .agg (encSn yk).toArray), (111, .agg #[.int .u64 s.i, .int .u64 s.t, .int .i64 s.c, .slice A8 s.d.length c8]), (112, .bool false)]) ⟨rfl, rfl, rfl, rfl, rfl, rfl, rfl, rfl, rfl, rfl, rfl, rfl, rfl, rfl, trivial⟩ ?_
        refine h_nil (f_to (d_else rfl (d_skip (f_block (f_to (d_reg1 ?_))))))
        refine h_q hflU rfl ?_
        refine h_val rfl (.int .i64 ((k + 1 : Nat) : Int)) (fun b w hb hH => exec_ar rfl rfl rfl rfl (by rw [IntWalk.i64_in _ (by omega)]; omega) hb) ?_
        refine h_q hflU rfl ?_
        refine h_nil ?_
        exact f_again (k + 1) 0 ⟨by omega, by omega⟩ (show j1 - (k + 1) < j1 - k by omega) ⟨rfl, rfl, rfl, rfl, trivial⟩ rfl
end Go.Proofs.Ytjcfimmcogkopaa.Sep
