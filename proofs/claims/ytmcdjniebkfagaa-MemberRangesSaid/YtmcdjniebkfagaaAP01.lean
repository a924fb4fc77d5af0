/-
  MbY
-/
import Derived.Test.YtmcdjniebkfagaaAO01
set_option linter.unusedSimpArgs false
set_option linter.unusedVariables false

namespace Go.Proofs.Ytmcdjniebkfagaa.Sep
open Go.RowKit
open Go.Proofs.Ytmcdjniebkfagaa.Mem (Dist Blk Chg below0)

/-- what Index has found of the nodes below n -/
def IxI (go gs gm : Nat) (X : Ass) (mv : Value) (s : Int) (l : List Int) (n : Nat) : Ass := fun rs => ∃ z : Int, idxN s l n = z ∧ Parts [cell go 42 #[.int .u64 z], cell gm 41 #[mv], cell gs 3 #[.int .i64 s], X] rs
theorem IxI.open_ {go gs gm : Nat} {X : Ass} {mv : Value} {s : Int} {l : List Int} {n : Nat} : ∀ rs, IxI go gs gm X mv s l n rs → ∃ z : Int, Parts [fact (idxN s l n = z), cell go 42 #[.int .u64 z], cell gm 41 #[mv], cell gs 3 #[.int .i64 s], X] rs := fun _ ⟨z, hz, h⟩ => ⟨z, fact_in hz h⟩
theorem ixI_mk {go gs gm : Nat} {X : Ass} {mv : Value} {s : Int} {l : List Int} {n : Nat} {z : Int} (hz : idxN s l n = z) : ∀ rs, Parts [cell go 42 #[.int .u64 z], cell gm 41 #[mv], cell gs 3 #[.int .i64 s], X] rs → IxI go gs gm X mv s l n rs := fun _ h => ⟨z, hz, h⟩
theorem ixI_no {go gs gm : Nat} {X : Ass} {mv : Value} {s : Int} {l : List Int} {n : Nat} (h : hs s (n : Int) = false) : IxI go gs gm X mv s l (n + 1) = IxI go gs gm X mv s l n := by
  unfold IxI; rw [idxN_not (by rw [h]; simp)]
theorem idx_one {s : Int} {l : List Int} : idxN s l 1 = 0 := idxN_not (by have : hs s ((0 : Nat) : Int) = false := hs_no (by unfold may; simp); rw [this]; simp)

set_option maxRecDepth 100000 in
theorem index_any (X : Ass) (mv : Value) (l : List Int) (hX : Rd X 1 encU mv l) (hl : l.length ≤ 9223372036854775807) (hmv : mv.cells = #[mv]) (s : Int) (h : -9223372036854775808 ≤ s ∧ s ≤ 9223372036854775807)  : Does Try.prog 30 #[.int .i64 s, mv] [X] (fun (_ : Unit) => .int .u64 (idxN s l 8)) (fun (_ : Unit) => [X]) := by
  refine d_insM (args := [.int .i64 s, mv]) 27 Try.func30 rfl rfl rfl ?_; intro w rs
  refine d_reg ?_
  refine h_q hflS rfl ?_
  refine h_act (post := fun gs => [cell gs 3 #[.int .i64 s], X]) rfl (a_box (cs := #[.int .i64 s]) rfl rfl rfl) ?_; rintro gs
  refine h_act (post := fun gm => [cell gm 41 #[mv], cell gs 3 #[.int .i64 s], X]) rfl (a_box (cs := #[mv]) rfl rfl hmv) ?_; rintro gm
  refine h_q hflS rfl ?_
  refine h_done (d_reg ?_)
  refine h_q hflS rfl ?_
  refine h_act (post := fun go => [cell go 42 #[.int .u64 0], cell gm 41 #[mv], cell gs 3 #[.int .i64 s], X]) rfl (a_alloc ze_uint64 rfl) ?_; rintro go
  refine h_done (d_seq (d_reg ?_))
  refine h_q hflS rfl ?_
  refine h_val rfl (.int .i64 s) (fun b w hb hH => exec_load rfl rfl (reads_one ty_int rfl) (hH.row 2 rfl) hb) ?_
  refine h_act (post := fun g => [cell g 3 #[.int .i64 s], cell go 42 #[.int .u64 0], cell gm 41 #[mv], cell gs 3 #[.int .i64 s], X]) rfl (a_does (os' := fun g => [cell g 3 #[.int .i64 s], cell go 42 #[.int .u64 0], cell gm 41 #[mv], cell gs 3 #[.int .i64 s], X]) [] 0 (ent_of Try.func15 (by kernel_rfl) rfl) (all_any s h) rfl rfl rfl (fun _ => rfl) rfl rfl rfl) ?_; rintro g
  refine h_done (d_block ?_)
  refine d_close [1, 2, 3, 4] rfl (ixI_mk (idx_one (s := s) (l := l))) rfl ?_
  refine WC2.keep (env' := [(0, .int .i64 s), (1, mv), (2, .pointer (some ⟨gs, 0, none⟩)), (3, .pointer (some ⟨gm, 0, none⟩)), (4, .int .u64 0), (5, .pointer (some ⟨go, 0, none⟩)), (8, .int .i64 s), (9, .func (.func 34) #[] #[.pointer (some ⟨g, 0, none⟩)])]) ⟨rfl, rfl, rfl, rfl, rfl, rfl, rfl, rfl, trivial⟩ ?_
  refine WC2.mid [IxI go gs gm X mv s l 1, cell g 3 #[.int .i64 s]] (.refl _) ?_
  refine wp_rangeF (caps := [.pointer (some ⟨g, 0, none⟩)]) (post := [IxI go gs gm X mv s l 8, cell g 3 #[.int .i64 s]]) (os' := [IxI go gs gm X mv s l 8, cell g 3 #[.int .i64 s]]) (.normal) [0, 1] rfl (ent_of Try.func34 (by kernel_rfl) rfl) (fun L1 fn1 tm1 hf1 r1 k11 k12 k13 k14 k15 k16 => it_in (all1 (.yield L1) #[] g s h (fun n => recI L1 r1 (IxI go gs gm X mv s l n)) (fun n h1 h7 hb => by rw [ixI_no hb]) ?_)) rfl rfl rfl ?_
  · skip
    intro n h1 h7 hb
    refine rd_in (doesF_round (n := 27) (env := [(10, .int .i64 (n : Int)), (0, .int .i64 s), (1, mv), (2, .pointer (some ⟨gs, 0, none⟩)), (3, .pointer (some ⟨gm, 0, none⟩)), (4, .int .u64 0), (5, .pointer (some ⟨go, 0, none⟩)), (8, .int .i64 s), (9, .func (.func 34) #[] #[.pointer (some ⟨g, 0, none⟩)])]) (.normal) k12 k11 (by rw [k14]; rfl) ?_ ?_)
    · rw [k14, k13]
      refine (congrArg (fun t => Fr 27 { tmps := t, defers := [] } _) (?_ : _ = (tm1.setIfInBounds 10 (.int .i64 (n : Int))))).mpr (hf1.put (d := 10) (by decide) _)
      simp
    · intro w0 rs
      rw [k15]
      refine r_reg (by kernel_rfl) (by rintro ⟨a, w, h⟩; first | exact h.elim | exact nomatch h.1 | (obtain ⟨_, h, _⟩ := h; exact nomatch h)) ?_
      refine h_q hflS rfl ?_
      refine h_nil ?_
      refine r_begin 0 rfl k11 ?_
      rw [k16]
      refine r_open 1 rfl IxI.open_ (fun _ => rfl) ?_; rintro z
      refine WCR.fact 0 rfl (fun _ h => h.2) ?_; rintro hz
      refine WCR.leave [0] rfl rfl ?_
      obtain ⟨y, hy⟩ : ∃ y, num l n = y := ⟨_, rfl⟩
      refine r_block ?_
      refine r_seq (r_reg (by kernel_rfl) (by rintro ⟨a, w, h⟩; first | exact h.elim | exact nomatch h.1 | (obtain ⟨_, h, _⟩ := h; exact nomatch h)) ?_)
      refine h_q hflS rfl ?_
      refine h_val rfl (mv) (fun b w hb hH => exec_load rfl rfl (reads_one ty_s_uint64 rfl) (hH.row 1 rfl) hb) ?_
      refine h_q hflS rfl ?_
      refine h_act (post := fun _ => [cell go 42 #[.int .u64 z], cell gm 41 #[mv], cell gs 3 #[.int .i64 s], X, recT L1 (busyR r1)]) rfl (a_does (os' := fun _ => [cell go 42 #[.int .u64 z], cell gm 41 #[mv], cell gs 3 #[.int .i64 s], X, recT L1 (busyR r1)]) [3] 0 (ent_of Try.func36 (by kernel_rfl) rfl) (number_any X mv l hX hl n y hy) rfl rfl rfl (fun _ => rfl) rfl rfl rfl) ?_; rintro ⟨⟩
      refine h_q hflS rfl ?_
      refine h_nil (r_to ?_)
      rcases Int.lt_or_le z y with hzy | hzy
      cases hms : mst s ((rch s y l 8 : Nat) : Int)
      · skip
        have hz2 : idxN s l (n + 1) = z := by rw [idxN_not (by rw [hy, hms]; simp), hz]
        refine r_seq ?_
        refine r_parS (by rintro ⟨a, w, h⟩; first | exact h.elim | exact nomatch h.1 | (obtain ⟨_, h, _⟩ := h; exact nomatch h)) 11 2 [⟨.quiet, [none, none], fun _ => .int .u64 y, []⟩, ⟨.quiet, [none, none], fun _ => .int .u64 z, []⟩, ⟨.quiet, [none, none], fun _ => .bool true, [0, 1]⟩, ⟨.quiet, [none, none], fun _ => .bool true, [2]⟩, ⟨.quiet, [none, none], fun _ => .int .i64 s, [3]⟩, ⟨.quiet, [none, none], fun _ => .int .i64 s, [3]⟩, ⟨.quiet, [none, none], fun _ => .int .u64 y, [3]⟩, ⟨.quiet, [none, none], fun _ => mv, [3]⟩, ⟨.actv 0, [some false, some false], fun _ => .int .i64 ((rch s y l 8 : Nat) : Int), [5, 6, 7, 3]⟩, ⟨.actv 1, [some true, some false], fun _ => .bool false, [4, 8, 3]⟩, ⟨.quiet, [some true, some true], fun _ => .bool false, [3, 9]⟩] [(2, .pointer (some ⟨gs, 0, none⟩)), (3, .pointer (some ⟨gm, 0, none⟩)), (4, .int .u64 0), (5, .pointer (some ⟨go, 0, none⟩)), (7, .int .u64 y)] (fun ρ => match ρ with | [rq0, rq1] => [cell go 42 #[.int .u64 z], cell gm 41 #[mv], cell gs 3 #[.int .i64 s], X, recT L1 (busyR r1)] | _ => []) (by kernel_rfl) (by kernel_rfl) (by kernel_rfl) ⟨rfl, rfl, rfl, rfl, rfl, trivial⟩ rfl ?_ ?_
        · skip
          refine s_cons (by intro r0_ r1_; exact ⟨rfl, fun b w hH hb => exec_q1 hflS rfl hb⟩) ?_
          refine s_cons (by intro r0_ r1_; exact ⟨rfl, fun b w hH hb => exec_load rfl rfl (reads_one ty_uint64 rfl) (hH.row 0 rfl) hb⟩) ?_
          refine s_cons (by intro r0_ r1_; exact ⟨rfl, fun b w hH hb => exec_cmp rfl rfl rfl (cmp_gtr_t (by omega)) hb⟩) ?_
          refine s_cons (by intro r0_ r1_; exact ⟨rfl, fun b w hH hb => exec_q1 hflS rfl hb⟩) ?_
          refine s_cons (by intro r0_ r1_; exact ⟨rfl, fun b w hH hb => exec_load rfl rfl (reads_one ty_int rfl) (hH.row 2 rfl) hb⟩) ?_
          refine s_cons (by intro r0_ r1_; exact ⟨rfl, fun b w hH hb => exec_load rfl rfl (reads_one ty_int rfl) (hH.row 2 rfl) hb⟩) ?_
          refine s_cons (by intro r0_ r1_; exact ⟨rfl, fun b w hH hb => exec_q1 hflS rfl hb⟩) ?_
          refine s_cons (by intro r0_ r1_; exact ⟨rfl, fun b w hH hb => exec_load rfl rfl (reads_one ty_s_uint64 rfl) (hH.row 1 rfl) hb⟩) ?_
          refine s_cons (by exact ⟨rfl, Acts.su (a_does (os' := fun _ => [cell go 42 #[.int .u64 z], cell gm 41 #[mv], cell gs 3 #[.int .i64 s], X, recT L1 (busyR r1)]) [3] 0 (ent_of Try.func37 (by kernel_rfl) rfl) (reached_any X mv l hX hl hmv s h y) rfl rfl rfl (fun _ => rfl) rfl rfl rfl) rfl⟩) ?_
          refine s_cons (by intro v0_; exact ⟨rfl, Acts.su (a_call (ent_of Try.func16 (by kernel_rfl) rfl) (fun w hH => most_any w s h ((rch s y l 8 : Nat) : Int) false hms) rfl rfl rfl) rfl⟩) ?_
          refine s_cons (by intro v0_ v1_; exact ⟨rfl, fun b w hH hb => exec_q1 hflS rfl hb⟩) ?_
          exact s_nil
        intro v0_ v1_
        refine WL2.keep (env' := [(4, .int .u64 0), (5, .pointer (some ⟨go, 0, none⟩)), (7, .int .u64 y), (24, .bool false)]) ⟨rfl, rfl, rfl, rfl, trivial⟩ ?_
        refine h_nil ?_
        refine r_to ?_
        refine r_else rfl ?_
        refine r_skip ?_
        refine f_block ?_
        refine f_close [0, 1, 2, 3] rfl (ixI_mk hz2) rfl ?_
        exact r_tell [1, 0] rfl rfl
      · skip
        have hz2 : idxN s l (n + 1) = y := by rw [idxN_yes ⟨hb, by rw [hz, hy]; exact hzy, by rw [hy]; exact hms⟩, hy]
        refine r_seq ?_
        refine r_parS (by rintro ⟨a, w, h⟩; first | exact h.elim | exact nomatch h.1 | (obtain ⟨_, h, _⟩ := h; exact nomatch h)) 11 2 [⟨.quiet, [none, none], fun _ => .int .u64 y, []⟩, ⟨.quiet, [none, none], fun _ => .int .u64 z, []⟩, ⟨.quiet, [none, none], fun _ => .bool true, [0, 1]⟩, ⟨.quiet, [none, none], fun _ => .bool true, [2]⟩, ⟨.quiet, [none, none], fun _ => .int .i64 s, [3]⟩, ⟨.quiet, [none, none], fun _ => .int .i64 s, [3]⟩, ⟨.quiet, [none, none], fun _ => .int .u64 y, [3]⟩, ⟨.quiet, [none, none], fun _ => mv, [3]⟩, ⟨.actv 0, [some false, some false], fun _ => .int .i64 ((rch s y l 8 : Nat) : Int), [5, 6, 7, 3]⟩, ⟨.actv 1, [some true, some false], fun _ => .bool true, [4, 8, 3]⟩, ⟨.quiet, [some true, some true], fun _ => .bool true, [3, 9]⟩] [(2, .pointer (some ⟨gs, 0, none⟩)), (3, .pointer (some ⟨gm, 0, none⟩)), (4, .int .u64 0), (5, .pointer (some ⟨go, 0, none⟩)), (7, .int .u64 y)] (fun ρ => match ρ with | [rq0, rq1] => [cell go 42 #[.int .u64 z], cell gm 41 #[mv], cell gs 3 #[.int .i64 s], X, recT L1 (busyR r1)] | _ => []) (by kernel_rfl) (by kernel_rfl) (by kernel_rfl) ⟨rfl, rfl, rfl, rfl, rfl, trivial⟩ rfl ?_ ?_
        · skip
          refine s_cons (by intro r0_ r1_; exact ⟨rfl, fun b w hH hb => exec_q1 hflS rfl hb⟩) ?_
          refine s_cons (by intro r0_ r1_; exact ⟨rfl, fun b w hH hb => exec_load rfl rfl (reads_one ty_uint64 rfl) (hH.row 0 rfl) hb⟩) ?_
          refine s_cons (by intro r0_ r1_; exact ⟨rfl, fun b w hH hb => exec_cmp rfl rfl rfl (cmp_gtr_t (by omega)) hb⟩) ?_
          refine s_cons (by intro r0_ r1_; exact ⟨rfl, fun b w hH hb => exec_q1 hflS rfl hb⟩) ?_
          refine s_cons (by intro r0_ r1_; exact ⟨rfl, fun b w hH hb => exec_load rfl rfl (reads_one ty_int rfl) (hH.row 2 rfl) hb⟩) ?_
          refine s_cons (by intro r0_ r1_; exact ⟨rfl, fun b w hH hb => exec_load rfl rfl (reads_one ty_int rfl) (hH.row 2 rfl) hb⟩) ?_
          refine s_cons (by intro r0_ r1_; exact ⟨rfl, fun b w hH hb => exec_q1 hflS rfl hb⟩) ?_
          refine s_cons (by intro r0_ r1_; exact ⟨rfl, fun b w hH hb => exec_load rfl rfl (reads_one ty_s_uint64 rfl) (hH.row 1 rfl) hb⟩) ?_
          refine s_cons (by exact ⟨rfl, Acts.su (a_does (os' := fun _ => [cell go 42 #[.int .u64 z], cell gm 41 #[mv], cell gs 3 #[.int .i64 s], X, recT L1 (busyR r1)]) [3] 0 (ent_of Try.func37 (by kernel_rfl) rfl) (reached_any X mv l hX hl hmv s h y) rfl rfl rfl (fun _ => rfl) rfl rfl rfl) rfl⟩) ?_
          refine s_cons (by intro v0_; exact ⟨rfl, Acts.su (a_call (ent_of Try.func16 (by kernel_rfl) rfl) (fun w hH => most_any w s h ((rch s y l 8 : Nat) : Int) true hms) rfl rfl rfl) rfl⟩) ?_
          refine s_cons (by intro v0_ v1_; exact ⟨rfl, fun b w hH hb => exec_q1 hflS rfl hb⟩) ?_
          exact s_nil
        intro v0_ v1_
        refine WL2.keep (env' := [(4, .int .u64 0), (5, .pointer (some ⟨go, 0, none⟩)), (7, .int .u64 y), (24, .bool true)]) ⟨rfl, rfl, rfl, rfl, trivial⟩ ?_
        refine h_nil ?_
        refine r_to ?_
        refine r_then rfl ?_
        refine r_reg (by kernel_rfl) (by rintro ⟨a, w, h⟩; first | exact h.elim | exact nomatch h.1 | (obtain ⟨_, h, _⟩ := h; exact nomatch h)) ?_
        refine h_q hflS rfl ?_
        refine h_acts (post := fun _ => [cell go 42 #[.int .u64 y], cell gm 41 #[mv], cell gs 3 #[.int .i64 s], X, recT L1 (busyR r1)]) rfl rfl (a_store 0 (v := .int .u64 y) #[.int .u64 y] ty_uint64.2 rfl rfl rfl rfl rfl rfl rfl rfl rfl) ?_; rintro ⟨⟩
        refine h_nil (f_block ?_)
        refine f_close [0, 1, 2, 3] rfl (ixI_mk hz2) rfl ?_
        exact r_tell [1, 0] rfl rfl
      · skip
        have hz2 : idxN s l (n + 1) = z := by rw [idxN_not (by rw [hy, hz]; intro h9; omega), hz]
        refine r_seq ?_
        refine r_parS (by rintro ⟨a, w, h⟩; first | exact h.elim | exact nomatch h.1 | (obtain ⟨_, h, _⟩ := h; exact nomatch h)) 11 0 [⟨.quiet, [], fun _ => .int .u64 y, []⟩, ⟨.quiet, [], fun _ => .int .u64 z, []⟩, ⟨.quiet, [], fun _ => .bool false, [0, 1]⟩, ⟨.quiet, [], fun _ => .bool false, [2]⟩, ⟨.skip, [], fun _ => undef, [3]⟩, ⟨.skip, [], fun _ => undef, [3]⟩, ⟨.skip, [], fun _ => undef, [3]⟩, ⟨.skip, [], fun _ => undef, [3]⟩, ⟨.skip, [], fun _ => undef, [5, 6, 7, 3]⟩, ⟨.skip, [], fun _ => undef, [4, 8, 3]⟩, ⟨.quiet, [], fun _ => .bool false, [3, 9]⟩] [(2, .pointer (some ⟨gs, 0, none⟩)), (3, .pointer (some ⟨gm, 0, none⟩)), (4, .int .u64 0), (5, .pointer (some ⟨go, 0, none⟩)), (7, .int .u64 y)] (fun _ => [cell go 42 #[.int .u64 z], cell gm 41 #[mv], cell gs 3 #[.int .i64 s], X, recT L1 (busyR r1)]) (by kernel_rfl) (by kernel_rfl) (by kernel_rfl) ⟨rfl, rfl, rfl, rfl, rfl, trivial⟩ rfl ?_ ?_
        · skip
          refine s_cons (by exact ⟨rfl, fun b w hH hb => exec_q1 hflS rfl hb⟩) ?_
          refine s_cons (by exact ⟨rfl, fun b w hH hb => exec_load rfl rfl (reads_one ty_uint64 rfl) (hH.row 0 rfl) hb⟩) ?_
          refine s_cons (by exact ⟨rfl, fun b w hH hb => exec_cmp rfl rfl rfl (cmp_gtr_f (by omega)) hb⟩) ?_
          refine s_cons (by exact ⟨rfl, fun b w hH hb => exec_q1 hflS rfl hb⟩) ?_
          refine s_cons (by exact ⟨rfl, rfl⟩) ?_
          refine s_cons (by exact ⟨rfl, rfl⟩) ?_
          refine s_cons (by exact ⟨rfl, rfl⟩) ?_
          refine s_cons (by exact ⟨rfl, rfl⟩) ?_
          refine s_cons (by exact ⟨rfl, rfl⟩) ?_
          refine s_cons (by exact ⟨rfl, rfl⟩) ?_
          refine s_cons (by exact ⟨rfl, fun b w hH hb => exec_q1 hflS rfl hb⟩) ?_
          exact s_nil
        refine WL2.keep (env' := [(4, .int .u64 0), (5, .pointer (some ⟨go, 0, none⟩)), (7, .int .u64 y), (24, .bool false)]) ⟨rfl, rfl, rfl, rfl, trivial⟩ ?_
        refine h_nil ?_
        refine r_to ?_
        refine r_else rfl ?_
        refine r_skip ?_
        refine f_block ?_
        refine f_close [0, 1, 2, 3] rfl (ixI_mk hz2) rfl ?_
        exact r_tell [1, 0] rfl rfl
  intro D aT wT hDm hD0 hdf hF hH
  obtain ⟨z, hH⟩ := hp_open 0 rfl IxI.open_ hH
  have hz := thing_is (p := (idxN s l 8 = z)) 0 rfl (fun _ h => h.2) hH
  refine t_to (env := [(4, .int .u64 0), (5, .pointer (some ⟨go, 0, none⟩))]) (os := [fact (idxN s l 8 = z), cell go 42 #[.int .u64 z], cell gm 41 #[mv], cell gs 3 #[.int .i64 s], X, cell g 3 #[.int .i64 s]]) ?_ aT wT hDm hD0 hdf (hF.keep ⟨rfl, rfl, trivial⟩) hH
  refine t_reg ?_
  refine t_val rfl (.int .u64 z) (fun b w hb hH => exec_load rfl rfl (reads_one ty_uint64 rfl) (hH.row 1 rfl) hb) ?_
  refine t_val rfl (.int .u64 z) (fun b w hb hH => exec_q1 hflS rfl hb) ?_
  refine t_done ?_
  refine WCT.keep (env' := [(4, .int .u64 z)]) ⟨rfl, trivial⟩ ?_
  exact t_ret (fun a w hD hD0 hd hF hH => m_fin1 (os := [fact (idxN s l 8 = z), cell go 42 #[.int .u64 z], cell gm 41 #[mv], cell gs 3 #[.int .i64 s], X, cell g 3 #[.int .i64 s]]) (.tmp rfl) rfl (fun w' h => tells (X := Unit) (val := fun _ => .int .u64 (idxN s l 8)) (post := fun _ => [X]) (os := [fact (idxN s l 8 = z), cell go 42 #[.int .u64 z], cell gm 41 #[mv], cell gs 3 #[.int .i64 s], X, cell g 3 #[.int .i64 s]]) () (by rw [hz]) [4] rfl h same_parts) D a w hD hD0 hd hF hH)
end Go.Proofs.Ytmcdjniebkfagaa.Sep
