/-
  MbU
-/
import Derived.Test.YtmcdjniebkfagaaAU01
set_option linter.unusedSimpArgs false
set_option linter.unusedVariables false

namespace Go.Proofs.Ytmcdjniebkfagaa.Sep
open Go.RowKit
open Go.Proofs.Ytmcdjniebkfagaa.Mem (Dist Blk Chg below0)

/-- what has been told so far, gathered -/
def GotN (gc : Nat) (s : Int) (n : Nat) : Ass := fun rs => ∃ v : Value, Parts [cell gc 34 #[v], Vec 3 1 encI v (ndI s n)] rs
theorem GotN.open_ {gc : Nat} {s : Int} {n : Nat} : ∀ rs, GotN gc s n rs → ∃ v : Value, Parts [cell gc 34 #[v], Vec 3 1 encI v (ndI s n)] rs := fun _ h => h
theorem gotN_mk {gc : Nat} {s : Int} {n : Nat} (v : Value) : ∀ rs, Parts [cell gc 34 #[v], Vec 3 1 encI v (ndI s n)] rs → GotN gc s n rs := fun _ h => ⟨v, h⟩
theorem gotN_no {gc : Nat} {s : Int} {n : Nat} (h1 : 1 ≤ n) (h7 : n ≤ 7) (h : hs s (n : Int) = false) : GotN gc s (n + 1) = GotN gc s n := by unfold GotN; rw [ndI_not h1 h7 h]

set_option maxRecDepth 100000 in
theorem gotn1 (gc : Nat) {s : Int} {n : Nat} (h1 : 1 ≤ n) (h7 : n ≤ 7) (hn : hs s (n : Int) = true) : Does Try.prog 20 #[.int .i64 (n : Int), .pointer (some ⟨gc, 0, none⟩)] [GotN gc s n] (fun (_ : Unit) => .bool true) (fun (_ : Unit) => [GotN gc s (n + 1)]) := by
  have hle := ndI_le s n
  refine d_ins (args := [.int .i64 (n : Int), .pointer (some ⟨gc, 0, none⟩)]) 8 Try.func20 rfl rfl rfl ?_; intro w rs
  refine d_open 0 rfl GotN.open_ (fun _ => rfl) ?_; rintro v
  refine d_reg ?_
  refine h_q hflS rfl ?_
  refine h_done (d_reg ?_)
  refine h_q hflS rfl ?_
  refine h_val rfl (v) (fun b w hb hH => exec_load rfl rfl (reads_one ty_s_int rfl) (hH.row 0 rfl) hb) ?_
  refine h_q hflS rfl ?_
  refine h_act (X := Value) (val := fun v : Value => v) (post := fun b1 => [Vec 3 1 encI b1 ([(n : Int)]), cell gc 34 #[v], Vec 3 1 encI v (ndI s n)]) rfl (by refine a_build1 (e := 3) (t := 34) (enc := encI) (x := .tmp 5) (c := .int .i64 (n : Int)) ?_ ?_ (n : Int) ?_ ?_ ?_; exact sl_int; exact okI; exact rfl; exact rfl; exact rfl) ?_; rintro b1
  refine h_act (post := fun v2 => [Vec 3 1 encI b1 ([(n : Int)]), cell gc 34 #[v], Vec 3 1 encI v2 (ndI s (n + 1))]) rfl (a_append 2 sl_int okI rfl ([(n : Int)]) (fun w hH => hH.vec 0 rfl okI) (by simp; omega) rfl rfl rfl (ndI_yes h1 h7 hn)) ?_; rintro v2
  refine h_acts (post := fun _ => [Vec 3 1 encI b1 ([(n : Int)]), cell gc 34 #[v2], Vec 3 1 encI v2 (ndI s (n + 1))]) rfl rfl (a_storev 1 2 (v := v2) #[v2] ty_s_int.2 rfl (fun _ h => Vec.c1 h) rfl rfl rfl rfl rfl rfl rfl) ?_; rintro ⟨⟩
  refine h_done (d_reg ?_)
  refine h_q hflS rfl ?_
  refine h_done (d_ret ?_)
  exact f_fin1 (.tmp rfl) (fun w h => tells () rfl [1, 2] rfl h (fun z9 hz9 => ⟨z9, .refl _, Parts.one (gotN_mk v2 z9 hz9)⟩)) rfl

set_option maxHeartbeats 1000000 in
set_option maxRecDepth 100000 in
theorem sets_true (w : World) (set node : Int) (is : Bool) (hset : -9223372036854775808 ≤ set ∧ set ≤ 9223372036854775807) (hnode : -9223372036854775808 ≤ node ∧ node ≤ 9223372036854775807)  : Calls Try.prog 4 #[.int .i64 set, .int .i64 node, .bool is] w fun e w' => e = .returned (.bool true) ∧ Below w.heap.size w w' := by
  obtain ⟨s, hs0⟩ : ∃ s, nearM set is = s := ⟨_, rfl⟩
  have hss := near_i64 hset is
  rw [hs0] at hss
  refine d_in (args := [.int .i64 set, .int .i64 node, .bool is]) 58 Try.func4 rfl rfl rfl ?_
  refine d_reg ?_
  refine h_q hflS rfl ?_
  refine h_done ?_
  cases is
  · skip
    obtain ⟨rr, hrr⟩ : ∃ rr, rs s = rr := ⟨_, rfl⟩
    obtain ⟨hh, hhh⟩ : ∃ hh, hs s node = hh := ⟨_, rfl⟩
    refine d_reg ?_
    refine h_q hflS rfl ?_
    refine h_act (post := fun _ => []) rfl (a_call (ent_of Try.func18 (by kernel_rfl) rfl) (fun w hH => near_any w set hset false s hs0) rfl rfl rfl) ?_; rintro ⟨⟩
    refine h_q hflS rfl ?_
    refine h_done (d_seq (d_reg ?_))
    refine h_q hflS rfl ?_
    refine h_done (d_else rfl (d_skip (f_to (d_reg ?_))))
    refine h_q hflS rfl ?_
    refine h_act (post := fun gc => [cell gc 34 #[.slice none 0 0]]) rfl (a_alloc ze_s_int rfl) ?_; rintro gc
    refine h_done (d_seq (d_reg ?_))
    refine h_q hflS rfl ?_
    refine h_act (post := fun _ => [cell gc 34 #[.slice none 0 0]]) rfl (a_call (ent_of Try.func14 (by kernel_rfl) rfl) (fun w hH => Run.known_calls w) rfl rfl rfl) ?_; rintro ⟨⟩
    refine h_q hflS rfl ?_
    refine h_act (post := fun g0 => [cell g0 3 #[.int .i64 s], cell gc 34 #[.slice none 0 0]]) rfl (a_does (os' := fun g0 => [cell g0 3 #[.int .i64 s], cell gc 34 #[.slice none 0 0]]) [] 0 (ent_of Try.func15 (by kernel_rfl) rfl) (all_any s hss) rfl rfl rfl (fun _ => rfl) rfl rfl rfl) ?_; rintro g0
    refine h_val rfl (.bool false) (fun b w hb hH => exec_fnil_eql Try.underlying28 rfl rfl rfl hb) ?_
    refine h_q hflS rfl ?_
    refine h_done (d_else rfl (d_skip (f_to ?_)))
    refine d_nilvec 3 1 encI ?_
    rw [← ndI_one s]
    refine d_close [2, 0] rfl (gotN_mk (s := s) (.slice none 0 0)) rfl ?_
    refine d_reg ?_
    refine h_q hflS rfl ?_
    refine h_act (post := fun g => [cell g 3 #[.int .i64 s], GotN gc s 1, cell g0 3 #[.int .i64 s]]) rfl (a_does (os' := fun g => [cell g 3 #[.int .i64 s], GotN gc s 1, cell g0 3 #[.int .i64 s]]) [] 0 (ent_of Try.func15 (by kernel_rfl) rfl) (all_any s hss) rfl rfl rfl (fun _ => rfl) rfl rfl rfl) ?_; rintro g
    refine h_val rfl (.func (.func 20) #[] #[.pointer (some ⟨gc, 0, none⟩)]) (fun b w hb hH => e_func rfl rfl hb) ?_
    refine h_act (post := fun _ => [cell g 3 #[.int .i64 s], GotN gc s 8, cell g0 3 #[.int .i64 s]]) rfl (a_doesc (os' := fun _ => [cell g 3 #[.int .i64 s], GotN gc s 8, cell g0 3 #[.int .i64 s]]) (vs := [.func (.func 20) #[] #[.pointer (some ⟨gc, 0, none⟩)]]) (caps := [.pointer (some ⟨g, 0, none⟩)]) [1, 0] 0 (ent_of Try.func34 (by kernel_rfl) rfl) (all1 (.func 20) #[.pointer (some ⟨gc, 0, none⟩)] g s hss (fun n => GotN gc s n) (fun n h1 h7 hb => gotN_no h1 h7 hb) (fun n h1 h7 hb => (gotn1 gc h1 h7 hb).toF (vs := [.int .i64 (n : Int)]) (caps := [.pointer (some ⟨gc, 0, none⟩)]) (ent_of Try.func20 (by kernel_rfl) rfl))) rfl rfl rfl (fun _ => rfl) rfl rfl rfl) ?_; rintro ⟨⟩
    refine h_done ?_
    refine d_open 1 rfl GotN.open_ (fun _ => rfl) ?_; rintro v
    refine d_reg ?_
    refine h_q hflS rfl ?_
    refine h_act (post := fun u => [Vec 3 1 encI u (ndI s 8), cell gc 34 #[v], Vec 3 1 encI v (ndI s 8), cell g 3 #[.int .i64 s], cell g0 3 #[.int .i64 s]]) rfl (a_does (os' := fun u => [Vec 3 1 encI u (ndI s 8), cell gc 34 #[v], Vec 3 1 encI v (ndI s 8), cell g 3 #[.int .i64 s], cell g0 3 #[.int .i64 s]]) [] 0 (ent_of Try.func21 (by kernel_rfl) rfl) (rnodes s) rfl rfl rfl (fun _ => rfl) rfl rfl rfl) ?_; rintro u
    refine h_q hflS rfl ?_
    refine h_done (d_reg ?_)
    refine h_q hflS rfl ?_
    refine h_act (post := fun _ => [Vec 3 1 encI u (ndI s 8), cell gc 34 #[v], Vec 3 1 encI v (ndI s 8), cell g 3 #[.int .i64 s], cell g0 3 #[.int .i64 s]]) rfl (a_call (ent_of Try.func14 (by kernel_rfl) rfl) (fun w hH => Run.known_calls w) rfl rfl rfl) ?_; rintro ⟨⟩
    refine h_q hflS rfl ?_
    refine h_act (post := fun _ => [Vec 3 1 encI u (ndI s 8), cell gc 34 #[v], Vec 3 1 encI v (ndI s 8), cell g 3 #[.int .i64 s], cell g0 3 #[.int .i64 s]]) rfl (a_call (ent_of Try.func17 (by kernel_rfl) rfl) (fun w hH => right_any w s hss rr hrr) rfl rfl rfl) ?_; rintro ⟨⟩
    refine h_q hflS rfl ?_
    refine h_act (post := fun _ => [Vec 3 1 encI u (ndI s 8), cell gc 34 #[v], Vec 3 1 encI v (ndI s 8), cell g 3 #[.int .i64 s], cell g0 3 #[.int .i64 s]]) rfl (a_call (ent_of Try.func22 (by kernel_rfl) rfl) (fun w hH => rright_any w s rr hrr) rfl rfl rfl) ?_; rintro ⟨⟩
    refine h_val rfl (.bool true) (fun b w hb hH => exec_eqs (eqB_same _) rfl rfl rfl hb) ?_
    refine h_q hflS rfl ?_
    refine h_act (post := fun _ => [Vec 3 1 encI u (ndI s 8), cell gc 34 #[v], Vec 3 1 encI v (ndI s 8), cell g 3 #[.int .i64 s], cell g0 3 #[.int .i64 s]]) rfl (a_call (ent_of Try.func23 (by kernel_rfl) rfl) (fun w hH => has_any w s hss node hh hhh) rfl rfl rfl) ?_; rintro ⟨⟩
    refine h_q hflS rfl ?_
    refine h_act (post := fun _ => [Vec 3 1 encI u (ndI s 8), cell gc 34 #[v], Vec 3 1 encI v (ndI s 8), cell g 3 #[.int .i64 s], cell g0 3 #[.int .i64 s]]) rfl (a_call (ent_of Try.func24 (by kernel_rfl) rfl) (fun w hH => rhas_any w s node hh hhh) rfl rfl rfl) ?_; rintro ⟨⟩
    refine h_val rfl (.bool true) (fun b w hb hH => exec_eqs (eqB_same _) rfl rfl rfl hb) ?_
    refine h_q hflS rfl ?_
    refine h_act (post := fun _ => [Vec 3 1 encI u (ndI s 8), cell gc 34 #[v], Vec 3 1 encI v (ndI s 8), cell g 3 #[.int .i64 s], cell g0 3 #[.int .i64 s]]) rfl (a_call (ent_of Try.func25 (by kernel_rfl) rfl) (fun w hH => count_any w s hss ((ndI s 8).length : Int) (by rw [ndI_cnt])) rfl rfl rfl) ?_; rintro ⟨⟩
    refine h_q hflS rfl ?_
    refine h_val rfl (.int .i64 ((ndI s 8).length : Int)) (fun b w hb hH => e_vlen 0 Try.underlying34 rfl rfl rfl hH hb) ?_
    refine h_val rfl (.bool true) (fun b w hb hH => exec_cmp rfl rfl rfl (cmp_eql_t rfl) hb) ?_
    refine h_q hflS rfl ?_
    refine h_val rfl (v) (fun b w hb hH => exec_load rfl rfl (reads_one ty_s_int rfl) (hH.row 1 rfl) hb) ?_
    refine h_q hflS rfl ?_
    refine h_act (post := fun _ => [Vec 3 1 encI u (ndI s 8), cell gc 34 #[v], Vec 3 1 encI v (ndI s 8), cell g 3 #[.int .i64 s], cell g0 3 #[.int .i64 s]]) rfl (a_does (os' := fun _ => [Vec 3 1 encI u (ndI s 8), cell gc 34 #[v], Vec 3 1 encI v (ndI s 8), cell g 3 #[.int .i64 s], cell g0 3 #[.int .i64 s]]) [2, 0] 0 (ent_of Try.func26 (by kernel_rfl) rfl) (ints_same (Vec 3 1 encI v (ndI s 8)) (Vec 3 1 encI u (ndI s 8)) v u (ndI s 8) (fun rs w h1 h2 => h1.all okI h2) (fun rs w h1 h2 => h1.all okI h2) (by have := ndI_le s 8; omega)) rfl rfl rfl (fun _ => rfl) rfl rfl rfl) ?_; rintro ⟨⟩
    refine h_q hflS rfl ?_
    refine h_done ?_
    refine WC2.keep (env' := [(6, .bool true)]) ⟨rfl, trivial⟩ ?_
    refine d_ret ?_
    exact f_fin1 (.tmp rfl) (fun w h => ⟨rfl, below0 h.up⟩) rfl
  · skip
    obtain ⟨q, hq⟩ : ∃ q, node % 10 = q := ⟨_, rfl⟩
    obtain ⟨n, hn⟩ : ∃ n, q - 1 = n := ⟨_, rfl⟩
    obtain ⟨rr, hrr⟩ : ∃ rr, rs s = rr := ⟨_, rfl⟩
    obtain ⟨hh, hhh⟩ : ∃ hh, hs s n = hh := ⟨_, rfl⟩
    refine d_reg ?_
    refine h_q hflS rfl ?_
    refine h_act (post := fun _ => []) rfl (a_call (ent_of Try.func18 (by kernel_rfl) rfl) (fun w hH => near_any w set hset true s hs0) rfl rfl rfl) ?_; rintro ⟨⟩
    refine h_q hflS rfl ?_
    refine h_done (d_seq (d_reg ?_))
    refine h_q hflS rfl ?_
    refine h_done (d_then rfl (d_reg1 ?_))
    refine h_q hflS rfl ?_
    refine h_act (post := fun _ => []) rfl (a_call (ent_of Try.func19 (by kernel_rfl) rfl) (fun w hH => pick w node 10 hnode (by decide) hq) rfl rfl rfl) ?_; rintro ⟨⟩
    refine h_val rfl (.int .i64 n) (fun b w hb hH => exec_ar rfl rfl rfl rfl ((IntWalk.i64_in _ (by omega)).trans hn) hb) ?_
    refine h_q hflS rfl ?_
    refine h_nil (f_to (d_reg ?_))
    refine h_q hflS rfl ?_
    refine h_act (post := fun gc => [cell gc 34 #[.slice none 0 0]]) rfl (a_alloc ze_s_int rfl) ?_; rintro gc
    refine h_done (d_seq (d_reg ?_))
    refine h_q hflS rfl ?_
    refine h_act (post := fun _ => [cell gc 34 #[.slice none 0 0]]) rfl (a_call (ent_of Try.func14 (by kernel_rfl) rfl) (fun w hH => Run.known_calls w) rfl rfl rfl) ?_; rintro ⟨⟩
    refine h_q hflS rfl ?_
    refine h_act (post := fun g0 => [cell g0 3 #[.int .i64 s], cell gc 34 #[.slice none 0 0]]) rfl (a_does (os' := fun g0 => [cell g0 3 #[.int .i64 s], cell gc 34 #[.slice none 0 0]]) [] 0 (ent_of Try.func15 (by kernel_rfl) rfl) (all_any s hss) rfl rfl rfl (fun _ => rfl) rfl rfl rfl) ?_; rintro g0
    refine h_val rfl (.bool false) (fun b w hb hH => exec_fnil_eql Try.underlying28 rfl rfl rfl hb) ?_
    refine h_q hflS rfl ?_
    refine h_done (d_else rfl (d_skip (f_to ?_)))
    refine d_nilvec 3 1 encI ?_
    rw [← ndI_one s]
    refine d_close [2, 0] rfl (gotN_mk (s := s) (.slice none 0 0)) rfl ?_
    refine d_reg ?_
    refine h_q hflS rfl ?_
    refine h_act (post := fun g => [cell g 3 #[.int .i64 s], GotN gc s 1, cell g0 3 #[.int .i64 s]]) rfl (a_does (os' := fun g => [cell g 3 #[.int .i64 s], GotN gc s 1, cell g0 3 #[.int .i64 s]]) [] 0 (ent_of Try.func15 (by kernel_rfl) rfl) (all_any s hss) rfl rfl rfl (fun _ => rfl) rfl rfl rfl) ?_; rintro g
    refine h_val rfl (.func (.func 20) #[] #[.pointer (some ⟨gc, 0, none⟩)]) (fun b w hb hH => e_func rfl rfl hb) ?_
    refine h_act (post := fun _ => [cell g 3 #[.int .i64 s], GotN gc s 8, cell g0 3 #[.int .i64 s]]) rfl (a_doesc (os' := fun _ => [cell g 3 #[.int .i64 s], GotN gc s 8, cell g0 3 #[.int .i64 s]]) (vs := [.func (.func 20) #[] #[.pointer (some ⟨gc, 0, none⟩)]]) (caps := [.pointer (some ⟨g, 0, none⟩)]) [1, 0] 0 (ent_of Try.func34 (by kernel_rfl) rfl) (all1 (.func 20) #[.pointer (some ⟨gc, 0, none⟩)] g s hss (fun n => GotN gc s n) (fun n h1 h7 hb => gotN_no h1 h7 hb) (fun n h1 h7 hb => (gotn1 gc h1 h7 hb).toF (vs := [.int .i64 (n : Int)]) (caps := [.pointer (some ⟨gc, 0, none⟩)]) (ent_of Try.func20 (by kernel_rfl) rfl))) rfl rfl rfl (fun _ => rfl) rfl rfl rfl) ?_; rintro ⟨⟩
    refine h_done ?_
    refine d_open 1 rfl GotN.open_ (fun _ => rfl) ?_; rintro v
    refine d_reg ?_
    refine h_q hflS rfl ?_
    refine h_act (post := fun u => [Vec 3 1 encI u (ndI s 8), cell gc 34 #[v], Vec 3 1 encI v (ndI s 8), cell g 3 #[.int .i64 s], cell g0 3 #[.int .i64 s]]) rfl (a_does (os' := fun u => [Vec 3 1 encI u (ndI s 8), cell gc 34 #[v], Vec 3 1 encI v (ndI s 8), cell g 3 #[.int .i64 s], cell g0 3 #[.int .i64 s]]) [] 0 (ent_of Try.func21 (by kernel_rfl) rfl) (rnodes s) rfl rfl rfl (fun _ => rfl) rfl rfl rfl) ?_; rintro u
    refine h_q hflS rfl ?_
    refine h_done (d_reg ?_)
    refine h_q hflS rfl ?_
    refine h_act (post := fun _ => [Vec 3 1 encI u (ndI s 8), cell gc 34 #[v], Vec 3 1 encI v (ndI s 8), cell g 3 #[.int .i64 s], cell g0 3 #[.int .i64 s]]) rfl (a_call (ent_of Try.func14 (by kernel_rfl) rfl) (fun w hH => Run.known_calls w) rfl rfl rfl) ?_; rintro ⟨⟩
    refine h_q hflS rfl ?_
    refine h_act (post := fun _ => [Vec 3 1 encI u (ndI s 8), cell gc 34 #[v], Vec 3 1 encI v (ndI s 8), cell g 3 #[.int .i64 s], cell g0 3 #[.int .i64 s]]) rfl (a_call (ent_of Try.func17 (by kernel_rfl) rfl) (fun w hH => right_any w s hss rr hrr) rfl rfl rfl) ?_; rintro ⟨⟩
    refine h_q hflS rfl ?_
    refine h_act (post := fun _ => [Vec 3 1 encI u (ndI s 8), cell gc 34 #[v], Vec 3 1 encI v (ndI s 8), cell g 3 #[.int .i64 s], cell g0 3 #[.int .i64 s]]) rfl (a_call (ent_of Try.func22 (by kernel_rfl) rfl) (fun w hH => rright_any w s rr hrr) rfl rfl rfl) ?_; rintro ⟨⟩
    refine h_val rfl (.bool true) (fun b w hb hH => exec_eqs (eqB_same _) rfl rfl rfl hb) ?_
    refine h_q hflS rfl ?_
    refine h_act (post := fun _ => [Vec 3 1 encI u (ndI s 8), cell gc 34 #[v], Vec 3 1 encI v (ndI s 8), cell g 3 #[.int .i64 s], cell g0 3 #[.int .i64 s]]) rfl (a_call (ent_of Try.func23 (by kernel_rfl) rfl) (fun w hH => has_any w s hss n hh hhh) rfl rfl rfl) ?_; rintro ⟨⟩
    refine h_q hflS rfl ?_
    refine h_act (post := fun _ => [Vec 3 1 encI u (ndI s 8), cell gc 34 #[v], Vec 3 1 encI v (ndI s 8), cell g 3 #[.int .i64 s], cell g0 3 #[.int .i64 s]]) rfl (a_call (ent_of Try.func24 (by kernel_rfl) rfl) (fun w hH => rhas_any w s n hh hhh) rfl rfl rfl) ?_; rintro ⟨⟩
    refine h_val rfl (.bool true) (fun b w hb hH => exec_eqs (eqB_same _) rfl rfl rfl hb) ?_
    refine h_q hflS rfl ?_
    refine h_act (post := fun _ => [Vec 3 1 encI u (ndI s 8), cell gc 34 #[v], Vec 3 1 encI v (ndI s 8), cell g 3 #[.int .i64 s], cell g0 3 #[.int .i64 s]]) rfl (a_call (ent_of Try.func25 (by kernel_rfl) rfl) (fun w hH => count_any w s hss ((ndI s 8).length : Int) (by rw [ndI_cnt])) rfl rfl rfl) ?_; rintro ⟨⟩
    refine h_q hflS rfl ?_
    refine h_val rfl (.int .i64 ((ndI s 8).length : Int)) (fun b w hb hH => e_vlen 0 Try.underlying34 rfl rfl rfl hH hb) ?_
    refine h_val rfl (.bool true) (fun b w hb hH => exec_cmp rfl rfl rfl (cmp_eql_t rfl) hb) ?_
    refine h_q hflS rfl ?_
    refine h_val rfl (v) (fun b w hb hH => exec_load rfl rfl (reads_one ty_s_int rfl) (hH.row 1 rfl) hb) ?_
    refine h_q hflS rfl ?_
    refine h_act (post := fun _ => [Vec 3 1 encI u (ndI s 8), cell gc 34 #[v], Vec 3 1 encI v (ndI s 8), cell g 3 #[.int .i64 s], cell g0 3 #[.int .i64 s]]) rfl (a_does (os' := fun _ => [Vec 3 1 encI u (ndI s 8), cell gc 34 #[v], Vec 3 1 encI v (ndI s 8), cell g 3 #[.int .i64 s], cell g0 3 #[.int .i64 s]]) [2, 0] 0 (ent_of Try.func26 (by kernel_rfl) rfl) (ints_same (Vec 3 1 encI v (ndI s 8)) (Vec 3 1 encI u (ndI s 8)) v u (ndI s 8) (fun rs w h1 h2 => h1.all okI h2) (fun rs w h1 h2 => h1.all okI h2) (by have := ndI_le s 8; omega)) rfl rfl rfl (fun _ => rfl) rfl rfl rfl) ?_; rintro ⟨⟩
    refine h_q hflS rfl ?_
    refine h_done ?_
    refine WC2.keep (env' := [(6, .bool true)]) ⟨rfl, trivial⟩ ?_
    refine d_ret ?_
    exact f_fin1 (.tmp rfl) (fun w h => ⟨rfl, below0 h.up⟩) rfl
end Go.Proofs.Ytmcdjniebkfagaa.Sep
