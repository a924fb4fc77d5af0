/-
  BagB
-/
import Derived.Test.YthgnfacifogjiaaBF01
set_option linter.unusedSimpArgs false
set_option linter.unusedVariables false

namespace Go.Proofs.Ythgnfacifogjiaa.Sep
open Go.RowKit
open Go.Proofs.Ythgnfacifogjiaa.Mem (Dist Blk Chg below0)

set_option maxRecDepth 100000 in
theorem rput (p : Nat) (m n : Int) (v : Value) (l : List Int) (x : Int) (hm : m ≤ 256) (hl : (l.length : Int) ≤ m) (hn : -4611686018427387904 ≤ n ∧ n ≤ 4611686018427387904) (R1 : List Int × Int × Bool) (hp : putB m l n x = R1) : Does Try.prog 23 #[.pointer (some ⟨p, 0, none⟩), .int .i64 x] [cell p 39 #[.int .i64 m, .int .i64 n, v], Vec 3 1 encI v l] (fun (u : Value) => .bool R1.2.2) (fun (u : Value) => [cell p 39 #[.int .i64 m, .int .i64 R1.2.1, u], Vec 3 1 encI u R1.1]) := by
  obtain ⟨L1, n1, b1⟩ := R1
  refine d_ins (args := [.pointer (some ⟨p, 0, none⟩), .int .i64 x]) 34 Try.func23 rfl rfl rfl ?_; intro w rs
  refine d_reg ?_
  refine h_q hflS rfl ?_
  refine h_done (d_seq ?_)
  rcases Int.lt_or_le (l.length : Int) m with hf | hf
  · skip
    obtain ⟨rfl, rfl, rfl⟩ := putB_t hf hp
    refine d_seq ?_
    refine d_parS 10 0 [⟨.quiet, [], fun _ => .pointer (some ⟨p, 0, none⟩), []⟩, ⟨.quiet, [], fun _ => .pointer (some ⟨p, 0, none⟩), [0]⟩, ⟨.quiet, [], fun _ => .pointer (some ⟨p, 2, none⟩), [1]⟩, ⟨.quiet, [], fun _ => v, [2]⟩, ⟨.quiet, [], fun _ => .int .i64 (l.length : Int), [3]⟩, ⟨.quiet, [], fun _ => .pointer (some ⟨p, 0, none⟩), []⟩, ⟨.quiet, [], fun _ => .pointer (some ⟨p, 0, none⟩), [5]⟩, ⟨.quiet, [], fun _ => .pointer (some ⟨p, 0, none⟩), [6]⟩, ⟨.quiet, [], fun _ => .int .i64 m, [7]⟩, ⟨.quiet, [], fun _ => .bool false, [4, 8]⟩] [(0, .pointer (some ⟨p, 0, none⟩)), (1, .int .i64 x), (4, .bool false)] (fun _ => [cell p 39 #[.int .i64 m, .int .i64 n, v], Vec 3 1 encI v l]) (by kernel_rfl) (by kernel_rfl) ⟨rfl, rfl, rfl, trivial⟩ rfl ?_ ?_
    · skip
      refine s_cons (by exact ⟨rfl, fun b w hH hb => exec_q1 hflS rfl hb⟩) ?_
      refine s_cons (by exact ⟨rfl, fun b w hH hb => by exact exec_nilCheck rfl rfl hb⟩) ?_
      refine s_cons (by exact ⟨rfl, fun b w hH hb => exec_q1 hflS rfl hb⟩) ?_
      refine s_cons (by exact ⟨rfl, fun b w hH hb => exec_load rfl rfl (reads_one ty_s_int rfl) (hH.row 0 rfl) hb⟩) ?_
      refine s_cons (by exact ⟨rfl, fun b w hH hb => e_vlen 1 Try.underlying37 rfl rfl rfl hH hb⟩) ?_
      refine s_cons (by exact ⟨rfl, fun b w hH hb => exec_q1 hflS rfl hb⟩) ?_
      refine s_cons (by exact ⟨rfl, fun b w hH hb => by exact exec_nilCheck rfl rfl hb⟩) ?_
      refine s_cons (by exact ⟨rfl, fun b w hH hb => exec_q1 hflS rfl hb⟩) ?_
      refine s_cons (by exact ⟨rfl, fun b w hH hb => exec_load rfl rfl (reads_one ty_int rfl) (hH.row 0 rfl) hb⟩) ?_
      refine s_cons (by exact ⟨rfl, fun b w hH hb => exec_cmp rfl rfl rfl (cmp_geq_f (by omega)) hb⟩) ?_
      exact s_nil
    refine WL2.keep (env' := [(0, .pointer (some ⟨p, 0, none⟩)), (1, .int .i64 x), (4, .bool false), (14, .bool false)]) ⟨rfl, rfl, rfl, rfl, trivial⟩ ?_
    refine h_nil (f_to (d_else rfl (d_skip (f_to (d_reg ?_)))))
    refine h_q hflS rfl ?_
    refine h_act (X := Value) (val := fun v : Value => v) (post := fun u1 => [Vec 3 1 encI u1 ([]), cell p 39 #[.int .i64 m, .int .i64 n, v], Vec 3 1 encI v l]) rfl (by refine a_build0 (e := 3) (t := 37) (k := 1) (enc := encI) ?_ ?_; exact sl_int; exact rfl) ?_; rintro u1
    refine h_q hflS rfl ?_
    refine h_val rfl (.pointer (some ⟨p, 0, none⟩)) (fun b w hb hH => by exact exec_nilCheck rfl rfl hb) ?_
    refine h_q hflS rfl ?_
    refine h_val rfl (v) (fun b w hb hH => exec_load rfl rfl (reads_one ty_s_int rfl) (hH.row 1 rfl) hb) ?_
    refine h_act (post := fun u2 => [Vec 3 1 encI u2 l, cell p 39 #[.int .i64 m, .int .i64 n, v], Vec 3 1 encI v l]) rfl (a_append 0 sl_int okI rfl (l) (fun w hH => hH.vec 2 rfl okI) (by simp; omega) rfl rfl rfl (List.nil_append _)) ?_; rintro u2
    refine h_q hflS rfl ?_
    refine h_act (X := Value) (val := fun v : Value => v) (post := fun u3 => [Vec 3 1 encI u3 ([x]), Vec 3 1 encI u2 l, cell p 39 #[.int .i64 m, .int .i64 n, v], Vec 3 1 encI v l]) rfl (by refine a_build1 (e := 3) (t := 37) (enc := encI) (x := .tmp 29) (c := .int .i64 x) ?_ ?_ x ?_ ?_ ?_; exact sl_int; exact okI; exact rfl; exact rfl; exact rfl) ?_; rintro u3
    refine h_act (post := fun u9 => [Vec 3 1 encI u3 ([x]), Vec 3 1 encI u9 (l ++ [x]), cell p 39 #[.int .i64 m, .int .i64 n, v], Vec 3 1 encI v l]) rfl (a_append 1 sl_int okI rfl ([x]) (fun w hH => hH.vec 0 rfl okI) (by simp; omega) rfl rfl rfl rfl) ?_; rintro u9
    refine h_val rfl (.pointer (some ⟨p, 0, none⟩)) (fun b w hb hH => by exact exec_nilCheck rfl rfl hb) ?_
    refine h_q hflS rfl ?_
    refine h_acts (post := fun _ => [Vec 3 1 encI u3 ([x]), Vec 3 1 encI u9 (l ++ [x]), cell p 39 #[.int .i64 m, .int .i64 n, u9], Vec 3 1 encI v l]) rfl rfl (a_storev 2 1 (v := u9) #[.int .i64 m, .int .i64 n, u9] ty_s_int.2 rfl (fun _ h => Vec.c1 h) rfl rfl rfl rfl rfl rfl rfl) ?_; rintro ⟨⟩
    refine h_done (d_reg ?_)
    refine h_q hflS rfl ?_
    refine h_done (d_ret ?_)
    exact f_fin1 (.tmp rfl) (fun w h => tells u9 rfl [2, 1] rfl h same_parts) rfl
  · skip
    obtain ⟨rfl, rfl, rfl⟩ := putB_f hf hp
    refine d_seq ?_
    refine d_parS 10 0 [⟨.quiet, [], fun _ => .pointer (some ⟨p, 0, none⟩), []⟩, ⟨.quiet, [], fun _ => .pointer (some ⟨p, 0, none⟩), [0]⟩, ⟨.quiet, [], fun _ => .pointer (some ⟨p, 2, none⟩), [1]⟩, ⟨.quiet, [], fun _ => v, [2]⟩, ⟨.quiet, [], fun _ => .int .i64 (l.length : Int), [3]⟩, ⟨.quiet, [], fun _ => .pointer (some ⟨p, 0, none⟩), []⟩, ⟨.quiet, [], fun _ => .pointer (some ⟨p, 0, none⟩), [5]⟩, ⟨.quiet, [], fun _ => .pointer (some ⟨p, 0, none⟩), [6]⟩, ⟨.quiet, [], fun _ => .int .i64 m, [7]⟩, ⟨.quiet, [], fun _ => .bool true, [4, 8]⟩] [(0, .pointer (some ⟨p, 0, none⟩)), (1, .int .i64 x), (4, .bool false)] (fun _ => [cell p 39 #[.int .i64 m, .int .i64 n, v], Vec 3 1 encI v l]) (by kernel_rfl) (by kernel_rfl) ⟨rfl, rfl, rfl, trivial⟩ rfl ?_ ?_
    · skip
      refine s_cons (by exact ⟨rfl, fun b w hH hb => exec_q1 hflS rfl hb⟩) ?_
      refine s_cons (by exact ⟨rfl, fun b w hH hb => by exact exec_nilCheck rfl rfl hb⟩) ?_
      refine s_cons (by exact ⟨rfl, fun b w hH hb => exec_q1 hflS rfl hb⟩) ?_
      refine s_cons (by exact ⟨rfl, fun b w hH hb => exec_load rfl rfl (reads_one ty_s_int rfl) (hH.row 0 rfl) hb⟩) ?_
      refine s_cons (by exact ⟨rfl, fun b w hH hb => e_vlen 1 Try.underlying37 rfl rfl rfl hH hb⟩) ?_
      refine s_cons (by exact ⟨rfl, fun b w hH hb => exec_q1 hflS rfl hb⟩) ?_
      refine s_cons (by exact ⟨rfl, fun b w hH hb => by exact exec_nilCheck rfl rfl hb⟩) ?_
      refine s_cons (by exact ⟨rfl, fun b w hH hb => exec_q1 hflS rfl hb⟩) ?_
      refine s_cons (by exact ⟨rfl, fun b w hH hb => exec_load rfl rfl (reads_one ty_int rfl) (hH.row 0 rfl) hb⟩) ?_
      refine s_cons (by exact ⟨rfl, fun b w hH hb => exec_cmp rfl rfl rfl (cmp_geq_t (by omega)) hb⟩) ?_
      exact s_nil
    refine WL2.keep (env' := [(0, .pointer (some ⟨p, 0, none⟩)), (1, .int .i64 x), (4, .bool false), (14, .bool true)]) ⟨rfl, rfl, rfl, rfl, trivial⟩ ?_
    refine h_nil (f_to (d_then rfl (d_reg ?_)))
    refine h_q hflS rfl ?_
    refine h_val rfl (.pointer (some ⟨p, 0, none⟩)) (fun b w hb hH => by exact exec_nilCheck rfl rfl hb) ?_
    refine h_q hflS rfl ?_
    refine h_val rfl (.int .i64 n) (fun b w hb hH => exec_load rfl rfl (reads_one ty_int rfl) (hH.row 0 rfl) hb) ?_
    refine h_val rfl (.int .i64 (n + 1)) (fun b w hb hH => exec_ar rfl rfl rfl rfl (IntWalk.i64_in _ (by omega)) hb) ?_
    refine h_val rfl (.pointer (some ⟨p, 0, none⟩)) (fun b w hb hH => by exact exec_nilCheck rfl rfl hb) ?_
    refine h_q hflS rfl ?_
    refine h_acts (post := fun _ => [cell p 39 #[.int .i64 m, .int .i64 (n + 1), v], Vec 3 1 encI v l]) rfl rfl (a_store 0 (v := .int .i64 (n + 1)) #[.int .i64 m, .int .i64 (n + 1), v] ty_int.2 rfl rfl rfl rfl rfl rfl rfl rfl rfl) ?_; rintro ⟨⟩
    refine h_done (d_reg ?_)
    refine h_q hflS rfl ?_
    refine h_done (d_ret (f_then_ret ?_))
    exact f_fin1 (.tmp rfl) (fun w h => tells v rfl [0, 1] rfl h same_parts) rfl

set_option maxRecDepth 100000 in
theorem rpeek (p : Nat) (m n : Int) (v : Value) (l : List Int) (k : Int) (R1 : Int × Bool) (hp : peekB l k 0 = R1) : Does Try.prog 21 #[.pointer (some ⟨p, 0, none⟩), .int .i64 k] [cell p 39 #[.int .i64 m, .int .i64 n, v], Vec 3 1 encI v l] (fun (_ : Unit) => .tuple #[.int .i64 R1.1, .bool R1.2]) (fun (_ : Unit) => [cell p 39 #[.int .i64 m, .int .i64 n, v], Vec 3 1 encI v l]) := by
  obtain ⟨x1, b1⟩ := R1
  refine d_ins (args := [.pointer (some ⟨p, 0, none⟩), .int .i64 k]) 25 Try.func21 rfl rfl rfl ?_; intro w rs
  refine d_reg ?_
  refine h_q hflS rfl ?_
  refine h_done (d_seq ?_)
  rcases Classical.em (0 ≤ k ∧ k < (l.length : Int)) with hk | hk
  · skip
    obtain ⟨i, x, rfl, hi, hx⟩ := idxB hk
    obtain ⟨rfl, rfl⟩ := peekB_t hx hp
    refine d_reg ?_
    refine h_q hflS rfl ?_
    refine h_val rfl (.bool false) (fun b w hb hH => exec_cmp rfl rfl rfl (cmp_lss_f (by omega)) hb) ?_
    refine h_q hflS rfl ?_
    refine h_val rfl (.pointer (some ⟨p, 0, none⟩)) (fun b w hb hH => by exact exec_nilCheck rfl rfl hb) ?_
    refine h_q hflS rfl ?_
    refine h_val rfl (v) (fun b w hb hH => exec_load rfl rfl (reads_one ty_s_int rfl) (hH.row 0 rfl) hb) ?_
    refine h_val rfl (.int .i64 (l.length : Int)) (fun b w hb hH => e_vlen 1 Try.underlying37 rfl rfl rfl hH hb) ?_
    refine h_val rfl (.bool false) (fun b w hb hH => exec_cmp rfl rfl rfl (cmp_geq_f (by omega)) hb) ?_
    refine h_q hflS rfl ?_
    refine h_done (d_else rfl (d_skip (f_to (d_reg ?_))))
    refine h_q hflS rfl ?_
    refine h_val rfl (.pointer (some ⟨p, 0, none⟩)) (fun b w hb hH => by exact exec_nilCheck rfl rfl hb) ?_
    refine h_q hflS rfl ?_
    refine h_val rfl (v) (fun b w hb hH => exec_load rfl rfl (reads_one ty_s_int rfl) (hH.row 0 rfl) hb) ?_
    refine h_q hflS rfl ?_
    refine h_val rfl (elp v (i * 1)) (fun b w hb hH => e_vidx 1 sl_int okI rfl i hi rfl rfl rfl hH hb) ?_
    refine h_val rfl (.int .i64 x) (fun b w hb hH => e_vload1 1 ty_int okI rfl i (a := x) hx rfl rfl rfl hH hb) ?_
    refine h_q hflS rfl ?_
    refine h_done (d_ret ?_)
    exact f_fin2 (.tmp rfl) (.tmp rfl) (fun w h => tells () rfl [0, 1] rfl h same_parts) rfl
  · skip
    obtain ⟨rfl, rfl⟩ := peekB_f hk hp
    rcases Int.lt_or_le k 0 with h1 | h1
    · skip
      refine d_reg ?_
      refine h_q hflS rfl ?_
      refine h_val rfl (.bool true) (fun b w hb hH => exec_cmp rfl rfl rfl (cmp_lss_t h1) hb) ?_
      refine h_q hflS rfl ?_
      refine h_done (d_then rfl (d_reg ?_))
      refine h_q hflS rfl ?_
      refine h_done (d_ret (f_then_ret ?_))
      exact f_fin2 (.tmp rfl) (.tmp rfl) (fun w h => tells () rfl [0, 1] rfl h same_parts) rfl
    · skip
      refine d_reg ?_
      refine h_q hflS rfl ?_
      refine h_val rfl (.bool false) (fun b w hb hH => exec_cmp rfl rfl rfl (cmp_lss_f (by omega)) hb) ?_
      refine h_q hflS rfl ?_
      refine h_val rfl (.pointer (some ⟨p, 0, none⟩)) (fun b w hb hH => by exact exec_nilCheck rfl rfl hb) ?_
      refine h_q hflS rfl ?_
      refine h_val rfl (v) (fun b w hb hH => exec_load rfl rfl (reads_one ty_s_int rfl) (hH.row 0 rfl) hb) ?_
      refine h_val rfl (.int .i64 (l.length : Int)) (fun b w hb hH => e_vlen 1 Try.underlying37 rfl rfl rfl hH hb) ?_
      refine h_val rfl (.bool true) (fun b w hb hH => exec_cmp rfl rfl rfl (cmp_geq_t (by omega)) hb) ?_
      refine h_q hflS rfl ?_
      refine h_done (d_then rfl (d_reg ?_))
      refine h_q hflS rfl ?_
      refine h_done (d_ret (f_then_ret ?_))
      exact f_fin2 (.tmp rfl) (.tmp rfl) (fun w h => tells () rfl [0, 1] rfl h same_parts) rfl

set_option maxRecDepth 100000 in
theorem rtake (p : Nat) (m n : Int) (v : Value) (l : List Int) (k : Int) (hm : m ≤ 256) (hl : (l.length : Int) ≤ m) (R1 : List Int × Int × Bool) (hp : takeB l k 0 = R1) : Does Try.prog 17 #[.pointer (some ⟨p, 0, none⟩), .int .i64 k] [cell p 39 #[.int .i64 m, .int .i64 n, v], Vec 3 1 encI v l] (fun (u : Value) => .tuple #[.int .i64 R1.2.1, .bool R1.2.2]) (fun (u : Value) => [cell p 39 #[.int .i64 m, .int .i64 n, u], Vec 3 1 encI u R1.1]) := by
  obtain ⟨L1, x1, b1⟩ := R1
  refine d_ins (args := [.pointer (some ⟨p, 0, none⟩), .int .i64 k]) 36 Try.func17 rfl rfl rfl ?_; intro w rs
  refine d_reg ?_
  refine h_q hflS rfl ?_
  refine h_done ?_
  rcases Classical.em (0 ≤ k ∧ k < (l.length : Int)) with hk | hk
  · skip
    obtain ⟨i, x, rfl, hi, hx⟩ := idxB hk
    have hq : peekB l (i : Int) 0 = (x, true) := by unfold peekB; rw [if_pos (by omega)]; simp [hx]
    obtain ⟨rfl, rfl, rfl⟩ := takeB_t hx hp
    refine d_reg ?_
    refine h_q hflS rfl ?_
    refine h_act (post := fun _ => [cell p 39 #[.int .i64 m, .int .i64 n, v], Vec 3 1 encI v l]) rfl (a_does (os' := fun _ => [cell p 39 #[.int .i64 m, .int .i64 n, v], Vec 3 1 encI v l]) [0, 1] 0 (ent_of Try.func21 (by kernel_rfl) rfl) (rpeek p m n v l (i : Int) (x, true) hq) rfl rfl rfl (fun _ => rfl) rfl rfl rfl) ?_; rintro ⟨⟩
    refine h_q hflS rfl ?_
    refine h_done (d_seq (d_reg ?_))
    refine h_q hflS rfl ?_
    refine h_done (d_then rfl ?_)
    refine d_emps 1 rfl ?_
    refine d_parS 19 3 [⟨.quiet, [none, none, none], fun _ => .pointer (some ⟨p, 0, none⟩), []⟩, ⟨.act 0, [some false, some false, some false], fun _ => undef, []⟩, ⟨.quiet, [none, none, none], fun _ => .pointer (some ⟨p, 0, none⟩), []⟩, ⟨.quiet, [none, none, none], fun _ => .pointer (some ⟨p, 0, none⟩), [2]⟩, ⟨.quiet, [none, none, none], fun _ => .pointer (some ⟨p, 2, none⟩), [3]⟩, ⟨.quiet, [none, none, none], fun _ => v, [4]⟩, ⟨.quiet, [none, none, none], fun _ => .int .i64 (i : Int), []⟩, ⟨.quiet, [none, none, none], fun _ => subv 1 v 0 i, [5, 6]⟩, ⟨.act 1, [some true, some false, some false], fun _ => undef, [1, 7]⟩, ⟨.quiet, [none, none, none], fun _ => .pointer (some ⟨p, 0, none⟩), []⟩, ⟨.quiet, [none, none, none], fun _ => .pointer (some ⟨p, 0, none⟩), [9]⟩, ⟨.quiet, [none, none, none], fun _ => .pointer (some ⟨p, 2, none⟩), [10]⟩, ⟨.quiet, [none, none, none], fun _ => v, [11]⟩, ⟨.quiet, [none, none, none], fun _ => .int .i64 (i : Int), []⟩, ⟨.quiet, [none, none, none], fun _ => .int .i64 ((i + 1 : Nat) : Int), [13]⟩, ⟨.quiet, [none, none, none], fun _ => subv 1 v (i + 1) l.length, [12, 14]⟩, ⟨.act 2, [some true, some true, some false], fun _ => undef, [8, 15]⟩, ⟨.quiet, [some true, some true, some true], fun _ => .pointer (some ⟨p, 0, none⟩), [0]⟩, ⟨.quiet, [some true, some true, some true], fun _ => .pointer (some ⟨p, 2, none⟩), [17]⟩] [(0, .pointer (some ⟨p, 0, none⟩)), (1, .int .i64 (i : Int)), (4, .int .i64 0), (5, .bool false), (6, .int .i64 x), (7, .bool true)] (fun ρ => match ρ with | [rq0, rq1, rq2] => [selS rq2 (fun u9 => Vec 3 1 encI u9 (l.take i ++ l.drop (i + 1))) (selS rq1 (fun u2 => Vec 3 1 encI u2 (l.take i)) (selS rq0 (fun u1 => Vec 3 1 encI u1 ([])) (emp))), cell p 39 #[.int .i64 m, .int .i64 n, v], Vec 3 1 encI v l] | _ => []) (by kernel_rfl) (by kernel_rfl) ⟨rfl, rfl, rfl, rfl, rfl, rfl, trivial⟩ rfl ?_ ?_
    · skip
      refine s_cons (by intro r0_ r1_ r2_; exact ⟨rfl, fun b w hH hb => exec_q1 hflS rfl hb⟩) ?_
      refine s_cons (by exact ⟨rfl, Acts.s (Acts.place (val := fun u1 : Value => u1) (t := fun u1 => Vec 3 1 encI u1 ([])) (os' := fun u1 => [Vec 3 1 encI u1 ([]), cell p 39 #[.int .i64 m, .int .i64 n, v], Vec 3 1 encI v l]) 0 rfl (by refine a_build0 (e := 3) (t := 37) (k := 1) (enc := encI) ?_ ?_; exact sl_int; exact rfl) (fun _ => rfl)) (fun _ => rfl)⟩) ?_
      refine s_cons (by intro r0_ r1_ r2_; exact ⟨rfl, fun b w hH hb => exec_q1 hflS rfl hb⟩) ?_
      refine s_cons (by intro r0_ r1_ r2_; exact ⟨rfl, fun b w hH hb => by exact exec_nilCheck rfl rfl hb⟩) ?_
      refine s_cons (by intro r0_ r1_ r2_; exact ⟨rfl, fun b w hH hb => exec_q1 hflS rfl hb⟩) ?_
      refine s_cons (by intro r0_ r1_ r2_; exact ⟨rfl, fun b w hH hb => exec_load rfl rfl (reads_one ty_s_int rfl) (hH.row 1 rfl) hb⟩) ?_
      refine s_cons (by intro r0_ r1_ r2_; exact ⟨rfl, fun b w hH hb => exec_q1 hflS rfl hb⟩) ?_
      refine s_cons (by intro r0_ r1_ r2_; exact ⟨rfl, fun b w hH hb => e_vsub_hi 2 (b := i) sl_int rfl (by omega) rfl rfl rfl hH hb⟩) ?_
      refine s_cons (by intro u1; exact ⟨rfl, Acts.s (a_append 0 sl_int okI rfl (l.take i) (fun w hH => hH.vecq 2 rfl okI (Nat.zero_le _) (by omega) (m := l.take i) (by simp)) (by simp; omega) rfl rfl rfl (List.nil_append _)) (fun _ => rfl)⟩) ?_
      refine s_cons (by intro r0_ r1_ r2_; exact ⟨rfl, fun b w hH hb => exec_q1 hflS rfl hb⟩) ?_
      refine s_cons (by intro r0_ r1_ r2_; exact ⟨rfl, fun b w hH hb => by exact exec_nilCheck rfl rfl hb⟩) ?_
      refine s_cons (by intro r0_ r1_ r2_; exact ⟨rfl, fun b w hH hb => exec_q1 hflS rfl hb⟩) ?_
      refine s_cons (by intro r0_ r1_ r2_; exact ⟨rfl, fun b w hH hb => exec_load rfl rfl (reads_one ty_s_int rfl) (hH.row 1 rfl) hb⟩) ?_
      refine s_cons (by intro r0_ r1_ r2_; exact ⟨rfl, fun b w hH hb => exec_q1 hflS rfl hb⟩) ?_
      refine s_cons (by intro r0_ r1_ r2_; exact ⟨rfl, fun b w hH hb => exec_ar rfl rfl rfl rfl (by rw [IntWalk.i64_in _ (by omega)]; omega) hb⟩) ?_
      refine s_cons (by intro r0_ r1_ r2_; exact ⟨rfl, fun b w hH hb => e_vsub_lo 2 (a := (i + 1)) sl_int rfl (by omega) rfl rfl rfl hH hb⟩) ?_
      refine s_cons (by intro u1 u2; exact ⟨rfl, Acts.s (a_append 0 sl_int okI rfl (l.drop (i + 1)) (fun w hH => hH.vecq 2 rfl okI (by omega) (Nat.le_refl _) (m := l.drop (i + 1)) (by simp)) (by simp; omega) rfl rfl rfl rfl) (fun _ => rfl)⟩) ?_
      refine s_cons (by intro u1 u2 u9; exact ⟨rfl, fun b w hH hb => by exact exec_nilCheck rfl rfl hb⟩) ?_
      refine s_cons (by intro u1 u2 u9; exact ⟨rfl, fun b w hH hb => exec_q1 hflS rfl hb⟩) ?_
      exact s_nil
    intro u1 u2 u9
    refine WL2.keep (env' := [(4, .int .i64 0), (5, .bool false), (6, .int .i64 x), (7, .bool true), (31, u9), (33, .pointer (some ⟨p, 2, none⟩))]) ⟨rfl, rfl, rfl, rfl, rfl, rfl, trivial⟩ ?_
    refine h_q hflS rfl ?_
    refine h_acts (post := fun _ => [Vec 3 1 encI u9 (l.take i ++ l.drop (i + 1)), cell p 39 #[.int .i64 m, .int .i64 n, u9], Vec 3 1 encI v l]) rfl rfl (a_storev 1 0 (v := u9) #[.int .i64 m, .int .i64 n, u9] ty_s_int.2 rfl (fun _ h => Vec.c1 h) rfl rfl rfl rfl rfl rfl rfl) ?_; rintro ⟨⟩
    refine h_nil (f_to (d_reg ?_))
    refine h_q hflS rfl ?_
    refine h_done (d_ret ?_)
    exact f_fin2 (.tmp rfl) (.tmp rfl) (fun w h => tells u9 rfl [1, 0] rfl h same_parts) rfl
  · skip
    have hq : peekB l k 0 = (0, false) := by unfold peekB; rw [if_neg hk]
    obtain ⟨rfl, rfl, rfl⟩ := takeB_f hk hp
    refine d_reg ?_
    refine h_q hflS rfl ?_
    refine h_act (post := fun _ => [cell p 39 #[.int .i64 m, .int .i64 n, v], Vec 3 1 encI v l]) rfl (a_does (os' := fun _ => [cell p 39 #[.int .i64 m, .int .i64 n, v], Vec 3 1 encI v l]) [0, 1] 0 (ent_of Try.func21 (by kernel_rfl) rfl) (rpeek p m n v l k (0, false) hq) rfl rfl rfl (fun _ => rfl) rfl rfl rfl) ?_; rintro ⟨⟩
    refine h_q hflS rfl ?_
    refine h_done (d_seq (d_reg ?_))
    refine h_q hflS rfl ?_
    refine h_done (d_else rfl (d_skip (f_to (d_reg ?_))))
    refine h_q hflS rfl ?_
    refine h_done (d_ret ?_)
    exact f_fin2 (.tmp rfl) (.tmp rfl) (fun w h => tells v rfl [0, 1] rfl h same_parts) rfl

set_option maxRecDepth 100000 in
theorem rdbl (p : Nat) (m n : Int) (v : Value) (l : List Int) (k : Int) (hm : m ≤ 256) (hl : (l.length : Int) ≤ m) (R1 : List Int × Bool) (hp : dblB m l k = R1) : Does Try.prog 19 #[.pointer (some ⟨p, 0, none⟩), .int .i64 k] [cell p 39 #[.int .i64 m, .int .i64 n, v], Vec 3 1 encI v l] (fun (u : Value) => .bool R1.2) (fun (u : Value) => [cell p 39 #[.int .i64 m, .int .i64 n, u], Vec 3 1 encI u R1.1]) := by
  obtain ⟨L1, b1⟩ := R1
  refine d_ins (args := [.pointer (some ⟨p, 0, none⟩), .int .i64 k]) 39 Try.func19 rfl rfl rfl ?_; intro w rs
  refine d_reg ?_
  refine h_q hflS rfl ?_
  refine h_done ?_
  rcases Classical.em (0 ≤ k ∧ k < (l.length : Int)) with hk | hk
  · skip
    obtain ⟨i, x, rfl, hi, hx⟩ := idxB hk
    have hq : peekB l (i : Int) 0 = (x, true) := by unfold peekB; rw [if_pos (by omega)]; simp [hx]
    rcases Int.lt_or_le (l.length : Int) m with hf | hf
    · skip
      obtain ⟨rfl, rfl⟩ := dblB_t hx hf hp
      refine d_reg ?_
      refine h_q hflS rfl ?_
      refine h_act (post := fun _ => [cell p 39 #[.int .i64 m, .int .i64 n, v], Vec 3 1 encI v l]) rfl (a_does (os' := fun _ => [cell p 39 #[.int .i64 m, .int .i64 n, v], Vec 3 1 encI v l]) [0, 1] 0 (ent_of Try.func21 (by kernel_rfl) rfl) (rpeek p m n v l (i : Int) (x, true) hq) rfl rfl rfl (fun _ => rfl) rfl rfl rfl) ?_; rintro ⟨⟩
      refine h_q hflS rfl ?_
      refine h_done (d_seq (d_seq ?_))
      refine d_parS 14 0 [⟨.quiet, [], fun _ => .bool true, []⟩, ⟨.quiet, [], fun _ => .bool false, [0]⟩, ⟨.quiet, [], fun _ => .bool false, [1]⟩, ⟨.quiet, [], fun _ => .pointer (some ⟨p, 0, none⟩), [2]⟩, ⟨.quiet, [], fun _ => .pointer (some ⟨p, 0, none⟩), [3, 2]⟩, ⟨.quiet, [], fun _ => .pointer (some ⟨p, 2, none⟩), [4, 2]⟩, ⟨.quiet, [], fun _ => v, [5, 2]⟩, ⟨.quiet, [], fun _ => .int .i64 (l.length : Int), [6, 2]⟩, ⟨.quiet, [], fun _ => .pointer (some ⟨p, 0, none⟩), [2]⟩, ⟨.quiet, [], fun _ => .pointer (some ⟨p, 0, none⟩), [8, 2]⟩, ⟨.quiet, [], fun _ => .pointer (some ⟨p, 0, none⟩), [9, 2]⟩, ⟨.quiet, [], fun _ => .int .i64 m, [10, 2]⟩, ⟨.quiet, [], fun _ => .bool false, [7, 11, 2]⟩, ⟨.quiet, [], fun _ => .bool false, [2, 12]⟩] [(0, .pointer (some ⟨p, 0, none⟩)), (4, .bool false), (5, .int .i64 x), (6, .bool true)] (fun _ => [cell p 39 #[.int .i64 m, .int .i64 n, v], Vec 3 1 encI v l]) (by kernel_rfl) (by kernel_rfl) ⟨rfl, rfl, rfl, rfl, trivial⟩ rfl ?_ ?_
      · skip
        refine s_cons (by exact ⟨rfl, fun b w hH hb => exec_q1 hflS rfl hb⟩) ?_
        refine s_cons (by exact ⟨rfl, fun b w hH hb => exec_q1 hflS rfl hb⟩) ?_
        refine s_cons (by exact ⟨rfl, fun b w hH hb => exec_q1 hflS rfl hb⟩) ?_
        refine s_cons (by exact ⟨rfl, fun b w hH hb => exec_q1 hflS rfl hb⟩) ?_
        refine s_cons (by exact ⟨rfl, fun b w hH hb => by exact exec_nilCheck rfl rfl hb⟩) ?_
        refine s_cons (by exact ⟨rfl, fun b w hH hb => exec_q1 hflS rfl hb⟩) ?_
        refine s_cons (by exact ⟨rfl, fun b w hH hb => exec_load rfl rfl (reads_one ty_s_int rfl) (hH.row 0 rfl) hb⟩) ?_
        refine s_cons (by exact ⟨rfl, fun b w hH hb => e_vlen 1 Try.underlying37 rfl rfl rfl hH hb⟩) ?_
        refine s_cons (by exact ⟨rfl, fun b w hH hb => exec_q1 hflS rfl hb⟩) ?_
        refine s_cons (by exact ⟨rfl, fun b w hH hb => by exact exec_nilCheck rfl rfl hb⟩) ?_
        refine s_cons (by exact ⟨rfl, fun b w hH hb => exec_q1 hflS rfl hb⟩) ?_
        refine s_cons (by exact ⟨rfl, fun b w hH hb => exec_load rfl rfl (reads_one ty_int rfl) (hH.row 0 rfl) hb⟩) ?_
        refine s_cons (by exact ⟨rfl, fun b w hH hb => exec_cmp rfl rfl rfl (cmp_geq_f (by omega)) hb⟩) ?_
        refine s_cons (by exact ⟨rfl, fun b w hH hb => exec_q1 hflS rfl hb⟩) ?_
        exact s_nil
      refine WL2.keep (env' := [(0, .pointer (some ⟨p, 0, none⟩)), (4, .bool false), (5, .int .i64 x), (26, .bool false)]) ⟨rfl, rfl, rfl, rfl, trivial⟩ ?_
      refine h_nil (f_to (d_else rfl (d_skip (f_to (d_reg ?_)))))
      refine h_q hflS rfl ?_
      refine h_act (X := Value) (val := fun v : Value => v) (post := fun u1 => [Vec 3 1 encI u1 ([]), cell p 39 #[.int .i64 m, .int .i64 n, v], Vec 3 1 encI v l]) rfl (by refine a_build0 (e := 3) (t := 37) (k := 1) (enc := encI) ?_ ?_; exact sl_int; exact rfl) ?_; rintro u1
      refine h_q hflS rfl ?_
      refine h_val rfl (.pointer (some ⟨p, 0, none⟩)) (fun b w hb hH => by exact exec_nilCheck rfl rfl hb) ?_
      refine h_q hflS rfl ?_
      refine h_val rfl (v) (fun b w hb hH => exec_load rfl rfl (reads_one ty_s_int rfl) (hH.row 1 rfl) hb) ?_
      refine h_act (post := fun u2 => [Vec 3 1 encI u2 l, cell p 39 #[.int .i64 m, .int .i64 n, v], Vec 3 1 encI v l]) rfl (a_append 0 sl_int okI rfl (l) (fun w hH => hH.vec 2 rfl okI) (by simp; omega) rfl rfl rfl (List.nil_append _)) ?_; rintro u2
      refine h_q hflS rfl ?_
      refine h_act (X := Value) (val := fun v : Value => v) (post := fun u3 => [Vec 3 1 encI u3 ([x]), Vec 3 1 encI u2 l, cell p 39 #[.int .i64 m, .int .i64 n, v], Vec 3 1 encI v l]) rfl (by refine a_build1 (e := 3) (t := 37) (enc := encI) (x := .tmp 34) (c := .int .i64 x) ?_ ?_ x ?_ ?_ ?_; exact sl_int; exact okI; exact rfl; exact rfl; exact rfl) ?_; rintro u3
      refine h_act (post := fun u9 => [Vec 3 1 encI u3 ([x]), Vec 3 1 encI u9 (l ++ [x]), cell p 39 #[.int .i64 m, .int .i64 n, v], Vec 3 1 encI v l]) rfl (a_append 1 sl_int okI rfl ([x]) (fun w hH => hH.vec 0 rfl okI) (by simp; omega) rfl rfl rfl rfl) ?_; rintro u9
      refine h_val rfl (.pointer (some ⟨p, 0, none⟩)) (fun b w hb hH => by exact exec_nilCheck rfl rfl hb) ?_
      refine h_q hflS rfl ?_
      refine h_acts (post := fun _ => [Vec 3 1 encI u3 ([x]), Vec 3 1 encI u9 (l ++ [x]), cell p 39 #[.int .i64 m, .int .i64 n, u9], Vec 3 1 encI v l]) rfl rfl (a_storev 2 1 (v := u9) #[.int .i64 m, .int .i64 n, u9] ty_s_int.2 rfl (fun _ h => Vec.c1 h) rfl rfl rfl rfl rfl rfl rfl) ?_; rintro ⟨⟩
      refine h_done (d_reg ?_)
      refine h_q hflS rfl ?_
      refine h_done (d_ret ?_)
      exact f_fin1 (.tmp rfl) (fun w h => tells u9 rfl [2, 1] rfl h same_parts) rfl
    · skip
      obtain ⟨rfl, rfl⟩ := dblB_f (by omega) hp
      refine d_reg ?_
      refine h_q hflS rfl ?_
      refine h_act (post := fun _ => [cell p 39 #[.int .i64 m, .int .i64 n, v], Vec 3 1 encI v l]) rfl (a_does (os' := fun _ => [cell p 39 #[.int .i64 m, .int .i64 n, v], Vec 3 1 encI v l]) [0, 1] 0 (ent_of Try.func21 (by kernel_rfl) rfl) (rpeek p m n v l (i : Int) (x, true) hq) rfl rfl rfl (fun _ => rfl) rfl rfl rfl) ?_; rintro ⟨⟩
      refine h_q hflS rfl ?_
      refine h_done (d_seq (d_seq ?_))
      refine d_parS 14 0 [⟨.quiet, [], fun _ => .bool true, []⟩, ⟨.quiet, [], fun _ => .bool false, [0]⟩, ⟨.quiet, [], fun _ => .bool false, [1]⟩, ⟨.quiet, [], fun _ => .pointer (some ⟨p, 0, none⟩), [2]⟩, ⟨.quiet, [], fun _ => .pointer (some ⟨p, 0, none⟩), [3, 2]⟩, ⟨.quiet, [], fun _ => .pointer (some ⟨p, 2, none⟩), [4, 2]⟩, ⟨.quiet, [], fun _ => v, [5, 2]⟩, ⟨.quiet, [], fun _ => .int .i64 (l.length : Int), [6, 2]⟩, ⟨.quiet, [], fun _ => .pointer (some ⟨p, 0, none⟩), [2]⟩, ⟨.quiet, [], fun _ => .pointer (some ⟨p, 0, none⟩), [8, 2]⟩, ⟨.quiet, [], fun _ => .pointer (some ⟨p, 0, none⟩), [9, 2]⟩, ⟨.quiet, [], fun _ => .int .i64 m, [10, 2]⟩, ⟨.quiet, [], fun _ => .bool true, [7, 11, 2]⟩, ⟨.quiet, [], fun _ => .bool true, [2, 12]⟩] [(0, .pointer (some ⟨p, 0, none⟩)), (4, .bool false), (5, .int .i64 x), (6, .bool true)] (fun _ => [cell p 39 #[.int .i64 m, .int .i64 n, v], Vec 3 1 encI v l]) (by kernel_rfl) (by kernel_rfl) ⟨rfl, rfl, rfl, rfl, trivial⟩ rfl ?_ ?_
      · skip
        refine s_cons (by exact ⟨rfl, fun b w hH hb => exec_q1 hflS rfl hb⟩) ?_
        refine s_cons (by exact ⟨rfl, fun b w hH hb => exec_q1 hflS rfl hb⟩) ?_
        refine s_cons (by exact ⟨rfl, fun b w hH hb => exec_q1 hflS rfl hb⟩) ?_
        refine s_cons (by exact ⟨rfl, fun b w hH hb => exec_q1 hflS rfl hb⟩) ?_
        refine s_cons (by exact ⟨rfl, fun b w hH hb => by exact exec_nilCheck rfl rfl hb⟩) ?_
        refine s_cons (by exact ⟨rfl, fun b w hH hb => exec_q1 hflS rfl hb⟩) ?_
        refine s_cons (by exact ⟨rfl, fun b w hH hb => exec_load rfl rfl (reads_one ty_s_int rfl) (hH.row 0 rfl) hb⟩) ?_
        refine s_cons (by exact ⟨rfl, fun b w hH hb => e_vlen 1 Try.underlying37 rfl rfl rfl hH hb⟩) ?_
        refine s_cons (by exact ⟨rfl, fun b w hH hb => exec_q1 hflS rfl hb⟩) ?_
        refine s_cons (by exact ⟨rfl, fun b w hH hb => by exact exec_nilCheck rfl rfl hb⟩) ?_
        refine s_cons (by exact ⟨rfl, fun b w hH hb => exec_q1 hflS rfl hb⟩) ?_
        refine s_cons (by exact ⟨rfl, fun b w hH hb => exec_load rfl rfl (reads_one ty_int rfl) (hH.row 0 rfl) hb⟩) ?_
        refine s_cons (by exact ⟨rfl, fun b w hH hb => exec_cmp rfl rfl rfl (cmp_geq_t (by omega)) hb⟩) ?_
        refine s_cons (by exact ⟨rfl, fun b w hH hb => exec_q1 hflS rfl hb⟩) ?_
        exact s_nil
      refine WL2.keep (env' := [(0, .pointer (some ⟨p, 0, none⟩)), (4, .bool false), (5, .int .i64 x), (26, .bool true)]) ⟨rfl, rfl, rfl, rfl, trivial⟩ ?_
      refine h_nil (f_to (d_then rfl (d_reg ?_)))
      refine h_q hflS rfl ?_
      refine h_done (d_ret (f_then_ret ?_))
      exact f_fin1 (.tmp rfl) (fun w h => tells v rfl [0, 1] rfl h same_parts) rfl
  · skip
    have hq : peekB l k 0 = (0, false) := by unfold peekB; rw [if_neg hk]
    obtain ⟨rfl, rfl⟩ := dblB_f (by omega) hp
    refine d_reg ?_
    refine h_q hflS rfl ?_
    refine h_act (post := fun _ => [cell p 39 #[.int .i64 m, .int .i64 n, v], Vec 3 1 encI v l]) rfl (a_does (os' := fun _ => [cell p 39 #[.int .i64 m, .int .i64 n, v], Vec 3 1 encI v l]) [0, 1] 0 (ent_of Try.func21 (by kernel_rfl) rfl) (rpeek p m n v l k (0, false) hq) rfl rfl rfl (fun _ => rfl) rfl rfl rfl) ?_; rintro ⟨⟩
    refine h_q hflS rfl ?_
    refine h_done (d_seq (d_seq ?_))
    refine d_parS 14 0 [⟨.quiet, [], fun _ => .bool false, []⟩, ⟨.quiet, [], fun _ => .bool true, [0]⟩, ⟨.quiet, [], fun _ => .bool true, [1]⟩, ⟨.skip, [], fun _ => undef, [2]⟩, ⟨.skip, [], fun _ => undef, [3, 2]⟩, ⟨.skip, [], fun _ => undef, [4, 2]⟩, ⟨.skip, [], fun _ => undef, [5, 2]⟩, ⟨.skip, [], fun _ => undef, [6, 2]⟩, ⟨.skip, [], fun _ => undef, [2]⟩, ⟨.skip, [], fun _ => undef, [8, 2]⟩, ⟨.skip, [], fun _ => undef, [9, 2]⟩, ⟨.skip, [], fun _ => undef, [10, 2]⟩, ⟨.skip, [], fun _ => undef, [7, 11, 2]⟩, ⟨.quiet, [], fun _ => .bool true, [2, 12]⟩] [(0, .pointer (some ⟨p, 0, none⟩)), (4, .bool false), (5, .int .i64 0), (6, .bool false)] (fun _ => [cell p 39 #[.int .i64 m, .int .i64 n, v], Vec 3 1 encI v l]) (by kernel_rfl) (by kernel_rfl) ⟨rfl, rfl, rfl, rfl, trivial⟩ rfl ?_ ?_
    · skip
      refine s_cons (by exact ⟨rfl, fun b w hH hb => exec_q1 hflS rfl hb⟩) ?_
      refine s_cons (by exact ⟨rfl, fun b w hH hb => exec_q1 hflS rfl hb⟩) ?_
      refine s_cons (by exact ⟨rfl, fun b w hH hb => exec_q1 hflS rfl hb⟩) ?_
      refine s_cons (by exact ⟨rfl, rfl⟩) ?_
      refine s_cons (by exact ⟨rfl, rfl⟩) ?_
      refine s_cons (by exact ⟨rfl, rfl⟩) ?_
      refine s_cons (by exact ⟨rfl, rfl⟩) ?_
      refine s_cons (by exact ⟨rfl, rfl⟩) ?_
      refine s_cons (by exact ⟨rfl, rfl⟩) ?_
      refine s_cons (by exact ⟨rfl, rfl⟩) ?_
      refine s_cons (by exact ⟨rfl, rfl⟩) ?_
      refine s_cons (by exact ⟨rfl, rfl⟩) ?_
      refine s_cons (by exact ⟨rfl, rfl⟩) ?_
      refine s_cons (by exact ⟨rfl, fun b w hH hb => exec_q1 hflS rfl hb⟩) ?_
      exact s_nil
    refine WL2.keep (env' := [(0, .pointer (some ⟨p, 0, none⟩)), (4, .bool false), (5, .int .i64 0), (26, .bool true)]) ⟨rfl, rfl, rfl, rfl, trivial⟩ ?_
    refine h_nil (f_to (d_then rfl (d_reg ?_)))
    refine h_q hflS rfl ?_
    refine h_done (d_ret (f_then_ret ?_))
    exact f_fin1 (.tmp rfl) (fun w h => tells v rfl [0, 1] rfl h same_parts) rfl

set_option maxRecDepth 100000 in
theorem same13 (X1 X2 : Ass) (a b : Value) (l : List Int) (h1 : Rd X1 1 encI a l) (h2 : Rd X2 1 encI b l) (hk : l.length ≤ 1099511627776) : Does Try.prog 27 #[a, b] [X1, X2] (fun (_ : Unit) => .bool true) (fun (_ : Unit) => [X1, X2]) := by
  refine d_ins (args := [a, b]) 26 Try.func27 rfl rfl rfl ?_; intro w rs
  refine d_reg ?_
  refine h_q hflS rfl ?_
  refine h_done (d_seq (d_reg ?_))
  refine h_q hflS rfl ?_
  refine h_val rfl (.int .i64 (l.length : Int)) (fun b w hb hH => e_rlen 0 h1 Try.underlying37 rfl rfl rfl hH hb) ?_
  refine h_q hflS rfl ?_
  refine h_val rfl (.int .i64 (l.length : Int)) (fun b w hb hH => e_rlen 1 h2 Try.underlying37 rfl rfl rfl hH hb) ?_
  refine h_val rfl (.bool false) (fun b w hb hH => exec_cmp rfl rfl rfl (cmp_neq_f rfl) hb) ?_
  refine h_done (d_else rfl (d_skip (f_to (d_seq (d_reg ?_)))))
  refine h_q hflS rfl ?_
  refine h_done (d_block ?_)
  refine d_loop (α := Nat) (fun i => [(0, a), (1, b), (4, .bool false), (5, .int .i64 ((i : Nat) : Int))]) (fun i => [X1, X2]) (fun i => i ≤ l.length) (fun i => l.length - i) 0 (Nat.zero_le _) ⟨rfl, rfl, rfl, rfl, trivial⟩ rfl ?_
  rintro i hI
  refine WC2.at_ (env' := [(0, a), (1, b), (4, .bool false), (5, .int .i64 ((i : Nat) : Int))]) (rs' := [X1, X2]) ⟨rfl, rfl, rfl, rfl, trivial⟩ rfl ?_
  refine d_seq ?_
  rcases Nat.lt_or_ge i l.length with hn | hn
  · skip
    obtain ⟨x, hx⟩ : ∃ x, l[i]? = some x := ⟨_, List.getElem?_eq_getElem hn⟩
    refine d_reg ?_
    refine h_q hflS rfl ?_
    refine h_val rfl (.int .i64 (l.length : Int)) (fun b w hb hH => e_rlen 0 h1 Try.underlying37 rfl rfl rfl hH hb) ?_
    refine h_val rfl (.bool true) (fun b w hb hH => exec_cmp rfl rfl rfl (cmp_lss_t (by omega)) hb) ?_
    refine h_done (d_then rfl (d_skip (f_to (d_seq (d_block (d_seq ?_))))))
    refine d_parS 9 0 [⟨.quiet, [], fun _ => a, []⟩, ⟨.quiet, [], fun _ => .int .i64 ((i : Nat) : Int), []⟩, ⟨.quiet, [], fun _ => elp' a (i * 1), [0, 1]⟩, ⟨.quiet, [], fun _ => .int .i64 x, [2]⟩, ⟨.quiet, [], fun _ => b, []⟩, ⟨.quiet, [], fun _ => .int .i64 ((i : Nat) : Int), []⟩, ⟨.quiet, [], fun _ => elp' b (i * 1), [4, 5]⟩, ⟨.quiet, [], fun _ => .int .i64 x, [6]⟩, ⟨.quiet, [], fun _ => .bool false, [3, 7]⟩] [(0, a), (1, b), (4, .bool false), (5, .int .i64 ((i : Nat) : Int)), (11, .int .i64 ((i : Nat) : Int)), (12, a), (13, .int .i64 (l.length : Int)), (14, .bool true)] (fun _ => [X1, X2]) (by kernel_rfl) (by kernel_rfl) ⟨rfl, rfl, rfl, rfl, rfl, rfl, rfl, rfl, trivial⟩ rfl ?_ ?_
    · skip
      refine s_cons (by exact ⟨rfl, fun b w hH hb => exec_q1 hflS rfl hb⟩) ?_
      refine s_cons (by exact ⟨rfl, fun b w hH hb => exec_q1 hflS rfl hb⟩) ?_
      refine s_cons (by exact ⟨rfl, fun b w hH hb => e_ridx 0 h1 sl_int rfl i hn rfl rfl rfl hH hb⟩) ?_
      refine s_cons (by exact ⟨rfl, fun b w hH hb => e_rload1 0 h1 ty_int okI rfl i (a := x) hx rfl rfl rfl hH hb⟩) ?_
      refine s_cons (by exact ⟨rfl, fun b w hH hb => exec_q1 hflS rfl hb⟩) ?_
      refine s_cons (by exact ⟨rfl, fun b w hH hb => exec_q1 hflS rfl hb⟩) ?_
      refine s_cons (by exact ⟨rfl, fun b w hH hb => e_ridx 1 h2 sl_int rfl i hn rfl rfl rfl hH hb⟩) ?_
      refine s_cons (by exact ⟨rfl, fun b w hH hb => e_rload1 1 h2 ty_int okI rfl i (a := x) hx rfl rfl rfl hH hb⟩) ?_
      refine s_cons (by exact ⟨rfl, fun b w hH hb => exec_cmp rfl rfl rfl (cmp_neq_f rfl) hb⟩) ?_
      exact s_nil
    refine WL2.keep (env' := [(0, a), (1, b), (4, .bool false), (5, .int .i64 ((i : Nat) : Int)), (11, .int .i64 ((i : Nat) : Int)), (12, a), (13, .int .i64 (l.length : Int)), (14, .bool true), (17, a), (18, .int .i64 ((i : Nat) : Int)), (19, elp' a (i * 1)), (20, .int .i64 x), (21, b), (22, .int .i64 ((i : Nat) : Int)), (23, elp' b (i * 1)), (24, .int .i64 x), (25, .bool false)]) ⟨rfl, rfl, rfl, rfl, rfl, rfl, rfl, rfl, rfl, rfl, rfl, rfl, rfl, rfl, rfl, rfl, rfl, trivial⟩ ?_
    refine h_nil (f_to (d_else rfl (d_skip (f_block (f_to (d_reg1 ?_))))))
    refine h_q hflS rfl ?_
    refine h_val rfl (.int .i64 ((i + 1 : Nat) : Int)) (fun b w hb hH => exec_ar rfl rfl rfl rfl (by rw [IntWalk.i64_in _ (by omega)]; omega) hb) ?_
    refine h_q hflS rfl ?_
    refine h_nil ?_
    exact f_again (i + 1) 0 hn (by omega) ⟨rfl, rfl, rfl, rfl, trivial⟩ rfl
  · skip
    refine d_reg ?_
    refine h_q hflS rfl ?_
    refine h_val rfl (.int .i64 (l.length : Int)) (fun b w hb hH => e_rlen 0 h1 Try.underlying37 rfl rfl rfl hH hb) ?_
    refine h_val rfl (.bool false) (fun b w hb hH => exec_cmp rfl rfl rfl (cmp_lss_f (by omega)) hb) ?_
    refine h_done (d_else rfl (d_exit (f_then_exit (f_then_exit (f_block_exit (f_to (d_reg ?_)))))))
    refine h_q hflS rfl ?_
    refine h_done (d_ret ?_)
    exact f_fin1 (.tmp rfl) (fun w h => tells () rfl [0, 1] rfl h same_parts) rfl
end Go.Proofs.Ythgnfacifogjiaa.Sep
