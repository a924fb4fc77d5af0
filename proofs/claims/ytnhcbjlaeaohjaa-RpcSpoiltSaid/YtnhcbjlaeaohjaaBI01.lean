/-
  RpcR
-/
import Derived.Test.YtnhcbjlaeaohjaaBH03
set_option linter.unusedSimpArgs false
set_option linter.unusedVariables false

namespace Go.Proofs.Ytnhcbjlaeaohjaa.Sep
open Go.RowKit
open Go.Proofs.Ytnhcbjlaeaohjaa.Mem (Dist Blk Chg below0)

theorem RrT_open {B : Value} {b l : List UInt8} {g f : Nat} : ∀ rs, RrT B b g l f rs → ∃ x : { j : Nat // j ≤ b.length ∧ l = b.drop j }, Parts [cell g 82 #[B, .int .i64 (x.1 : Int), .int .i64 (f : Int)]] rs := fun rs ⟨j, h1, h2, h3⟩ => ⟨⟨j, h1, h2⟩, Parts.one h3⟩
theorem rr_mk2 {B : Value} {b l : List UInt8} {g f j : Nat} (h1 : j ≤ b.length) (h2 : l = b.drop j) : ∀ rs : List RowT, Parts [cell g 82 #[B, .int .i64 (j : Int), .int .i64 (f : Int)]] rs → RrT B b g l f rs := fun rs hz => ⟨j, h1, h2, hz.one'⟩

set_option maxRecDepth 100000 in
theorem take_does (B : Value) (bd : List UInt8) (hbd : bd.length ≤ 140737488355328) (g : Nat) (lw wd l : List UInt8) (f most : Nat) (hm : most < 18446744073709551616) (c : Bool) (ha : hasB lw wd = c) (hll : lw.length ≤ 9223372036854775806) (n : Nat) (l' : List UInt8) (f' : Nat) (h : rI c 0 (rnum most l f) l f = (n, l', f')) : Does Try.prog 74 #[.pointer (some ⟨g, 0, none⟩), .string (bs lw), .string (bs wd), .int .u64 (most : Int)] [RrT B bd g l f, Vec 5 1 encB B bd] (fun (_ : Unit) => .int .u64 (n : Int)) (fun (_ : Unit) => [RrT B bd g l' f', Vec 5 1 encB B bd]) := by
  refine d_ins (args := [.pointer (some ⟨g, 0, none⟩), .string (bs lw), .string (bs wd), .int .u64 (most : Int)]) 16 Try.func74 rfl rfl rfl ?_; intro w rs
  refine d_reg ?_
  refine h_q hflS rfl ?_
  refine h_done (d_seq ?_)
  cases c
  · skip
    obtain ⟨rfl, rfl, rfl⟩ : 0 = n ∧ l = l' ∧ f = f' := by simpa [rI] using h
    refine d_reg ?_
    refine h_q hflS rfl ?_
    refine h_act (post := fun _ => [RrT B bd g l f, Vec 5 1 encB B bd]) rfl (a_call (ent_of Try.func67 (by kernel_rfl) rfl) (fun w hH => has_any w lw wd false ha hll) rfl rfl rfl) ?_; rintro ⟨⟩
    refine h_q hflS rfl ?_
    refine h_done (d_then rfl (d_reg ?_))
    refine h_q hflS rfl ?_
    refine h_done (d_ret (f_then_ret ?_))
    exact f_fin1 (.tmp rfl) (fun w h => tells () rfl [0, 1] rfl h same_parts) rfl
  · skip
    refine d_reg ?_
    refine h_q hflS rfl ?_
    refine h_act (post := fun _ => [RrT B bd g l f, Vec 5 1 encB B bd]) rfl (a_call (ent_of Try.func67 (by kernel_rfl) rfl) (fun w hH => has_any w lw wd true ha hll) rfl rfl rfl) ?_; rintro ⟨⟩
    refine h_q hflS rfl ?_
    refine h_done (d_else rfl (d_skip (f_to (d_reg ?_))))
    refine h_q hflS rfl ?_
    refine h_act (post := fun _ => [RrT B bd g l' f', Vec 5 1 encB B bd]) rfl (a_does (os' := fun _ => [RrT B bd g l' f', Vec 5 1 encB B bd]) [0, 1] 0 (ent_of Try.func63 (by kernel_rfl) rfl) (rx_num hbd most hm (n, l', f') h) rfl rfl rfl (fun _ => rfl) rfl rfl rfl) ?_; rintro ⟨⟩
    refine h_q hflS rfl ?_
    refine h_done (d_ret ?_)
    exact f_fin1 (.tmp rfl) (fun w h => tells () rfl [0, 1] rfl h same_parts) rfl

set_option maxHeartbeats 1000000 in
set_option maxRecDepth 100000 in
theorem rreadEntries_does (B : Value) (bd : List UInt8) (hbd : bd.length ≤ 140737488355328) (g gm : Nat) (l : List UInt8) (f : Nat) (hl : l.length ≤ 1024) (k a c2 t i lt co : Int) : Does Try.prog 75 #[.pointer (some ⟨g, 0, none⟩), .pointer (some ⟨gm, 0, none⟩)] [RrT B bd g l f, Vec 5 1 encB B bd, cell gm 28 #[.int .i64 k, .int .i64 a, .int .i64 c2, .int .u64 t, .int .u64 i, .int .u64 lt, .slice none 0 0, .int .u64 co, .bool false, .int .u64 0, .int .u64 0, .int .i64 0, .int .i64 0, .slice none 0 0, .bool false]] (fun (x : REX) => .int .i64 (x.en : Int)) (fun (x : REX) => [RrT B bd g x.l x.f, Vec 5 1 encB B bd, cell gm 28 #[.int .i64 k, .int .i64 a, .int .i64 c2, .int .u64 t, .int .u64 i, .int .u64 lt, x.v, .int .u64 co, .bool false, .int .u64 0, .int .u64 0, .int .i64 0, .int .i64 0, .slice none 0 0, .bool false], Ents 36 x.v x.es, fact (REOk (rlist l f) x)]) := by
  obtain ⟨⟨n, l0, f0⟩, hn⟩ : ∃ R, rnum 4 l f = R := ⟨_, rfl⟩
  have hn4 := rnum_most 4 l f
  rw [hn] at hn4
  have hn4 : n ≤ 4 := hn4
  obtain ⟨R, hR⟩ : ∃ R, rents n l0 f0 = R := ⟨_, rfl⟩
  have hRl : rlist l f = R := (rlist_of hn).trans hR
  rw [hRl]
  have hl0 := rnum_length 4 l f
  rw [hn] at hl0
  have hl0 : l0.length ≤ l.length := hl0
  have hf0 : f0 ≠ 0 → n = 0 := rnum_fault hn
  refine d_ins (args := [.pointer (some ⟨g, 0, none⟩), .pointer (some ⟨gm, 0, none⟩)]) 49 Try.func75 rfl rfl rfl ?_; intro w rs
  refine d_reg ?_
  refine h_q hflS rfl ?_
  refine h_done (d_reg ?_)
  refine h_q hflS rfl ?_
  refine h_act (post := fun _ => [RrT B bd g l0 f0, Vec 5 1 encB B bd, cell gm 28 #[.int .i64 k, .int .i64 a, .int .i64 c2, .int .u64 t, .int .u64 i, .int .u64 lt, .slice none 0 0, .int .u64 co, .bool false, .int .u64 0, .int .u64 0, .int .i64 0, .int .i64 0, .slice none 0 0, .bool false]]) rfl (a_does (os' := fun _ => [RrT B bd g l0 f0, Vec 5 1 encB B bd, cell gm 28 #[.int .i64 k, .int .i64 a, .int .i64 c2, .int .u64 t, .int .u64 i, .int .u64 lt, .slice none 0 0, .int .u64 co, .bool false, .int .u64 0, .int .u64 0, .int .i64 0, .int .i64 0, .slice none 0 0, .bool false]]) [0, 1] 0 (ent_of Try.func63 (by kernel_rfl) rfl) (rx_num hbd 4 (by decide) (n, l0, f0) hn) rfl rfl rfl (fun _ => rfl) rfl rfl rfl) ?_; rintro ⟨⟩
  refine h_q hflS rfl ?_
  refine h_done (d_seq (d_reg ?_))
  refine h_q hflS rfl ?_
  refine h_done (d_block ?_)
  refine d_new (t := Ents 36 (.slice none 0 0) ([])) (entsT_nil) ?_
  refine d_loop (α := Nat × List EntV × Value × List UInt8) (fun ⟨j, L, ev, l1⟩ => [(0, .pointer (some ⟨g, 0, none⟩)), (1, .pointer (some ⟨gm, 0, none⟩)), (4, .int .i64 0), (5, .int .u64 (n : Int)), (6, .int .u64 ((j : Nat) : Int))]) (fun ⟨j, L, ev, l1⟩ => [Ents 36 ev L, RrT B bd g l1 f0, Vec 5 1 encB B bd, cell gm 28 #[.int .i64 k, .int .i64 a, .int .i64 c2, .int .u64 t, .int .u64 i, .int .u64 lt, ev, .int .u64 co, .bool false, .int .u64 0, .int .u64 0, .int .i64 0, .int .i64 0, .slice none 0 0, .bool false]]) (fun ⟨j, L, ev, l1⟩ => j ≤ n ∧ (f0 = 0 → RentsAt n l0 0 (L.map (·.e)) j l1) ∧ (f0 ≠ 0 → l1 = l0 ∧ L = []) ∧ L.length = j ∧ l1.length ≤ 1024) (fun ⟨j, L, ev, l1⟩ => n - j) (0, [], .slice none 0 0, l0) ⟨Nat.zero_le _, fun _ => rentsAt_0 n l0, fun _ => ⟨rfl, rfl⟩, rfl, by omega⟩ ⟨rfl, rfl, rfl, rfl, rfl, trivial⟩ rfl ?_
  rintro ⟨j, L, ev, l1⟩ hI
  refine WC2.at_ (env' := [(0, .pointer (some ⟨g, 0, none⟩)), (1, .pointer (some ⟨gm, 0, none⟩)), (4, .int .i64 0), (5, .int .u64 (n : Int)), (6, .int .u64 ((j : Nat) : Int))]) (rs' := [Ents 36 ev L, RrT B bd g l1 f0, Vec 5 1 encB B bd, cell gm 28 #[.int .i64 k, .int .i64 a, .int .i64 c2, .int .u64 t, .int .u64 i, .int .u64 lt, ev, .int .u64 co, .bool false, .int .u64 0, .int .u64 0, .int .i64 0, .int .i64 0, .slice none 0 0, .bool false]]) ⟨rfl, rfl, rfl, rfl, rfl, trivial⟩ rfl ?_
  have hI1 : j ≤ n := hI.1
  have hI2 : f0 = 0 → RentsAt n l0 0 (L.map (·.e)) j l1 := hI.2.1
  have hI3 : f0 ≠ 0 → l1 = l0 ∧ L = [] := hI.2.2.1
  have hI4 : L.length = j := hI.2.2.2.1
  have hI5 : l1.length ≤ 1024 := hI.2.2.2.2
  refine d_seq ?_
  rcases Nat.lt_or_ge j n with hj | hj
  · skip
    have hf : f0 = 0 := by by_cases h0 : f0 = 0; exact h0; have := hf0 h0; omega
    have hA := hI2 hf
    subst hf
    obtain ⟨⟨x, l2, f2⟩, hx⟩ : ∃ R, rtext 160 l1 0 = R := ⟨_, rfl⟩
    have hl2 := rtext_length 160 l1 0
    rw [hx] at hl2
    have hl2 : l2.length ≤ l1.length := by simp only at hl2; omega
    refine d_open 1 rfl RrT_open (fun _ => rfl) ?_; rintro ⟨j0, hj1, hj2⟩
    refine d_reg ?_
    refine h_q hflS rfl ?_
    refine h_val rfl (.bool true) (fun b w hb hH => exec_cmp rfl rfl rfl (cmp_lss_t (by omega)) hb) ?_
    refine h_q hflS rfl ?_
    refine h_val rfl (.pointer (some ⟨g, 0, none⟩)) (fun b w hb hH => by exact exec_nilCheck rfl rfl hb) ?_
    refine h_q hflS rfl ?_
    refine h_val rfl (.int .i64 (0 : Int)) (fun b w hb hH => exec_load rfl rfl (reads_one ty_api_Errno rfl) (hH.row 0 rfl) hb) ?_
    refine h_val rfl (.bool true) (fun b w hb hH => exec_cmp rfl rfl rfl (cmp_eql_t rfl) hb) ?_
    refine h_q hflS rfl ?_
    refine h_done (d_then rfl (d_skip (f_to (d_seq (d_block ?_)))))
    refine d_close [0] rfl (rr_mk2 hj1 hj2) rfl ?_
    refine d_reg ?_
    refine h_q hflS rfl ?_
    refine h_act (post := fun v7 => [Vec 5 1 encB v7 x, RrT B bd g l2 f2, Ents 36 ev L, Vec 5 1 encB B bd, cell gm 28 #[.int .i64 k, .int .i64 a, .int .i64 c2, .int .u64 t, .int .u64 i, .int .u64 lt, ev, .int .u64 co, .bool false, .int .u64 0, .int .u64 0, .int .i64 0, .int .i64 0, .slice none 0 0, .bool false]]) rfl (a_does (os' := fun v7 => [Vec 5 1 encB v7 x, RrT B bd g l2 f2, Ents 36 ev L, Vec 5 1 encB B bd, cell gm 28 #[.int .i64 k, .int .i64 a, .int .i64 c2, .int .u64 t, .int .u64 i, .int .u64 lt, ev, .int .u64 co, .bool false, .int .u64 0, .int .u64 0, .int .i64 0, .int .i64 0, .slice none 0 0, .bool false]]) [0, 2] 0 (ent_of Try.func64 (by kernel_rfl) rfl) (rx_text hbd 160 (by decide) (by decide) (x, l2, f2) hx) rfl rfl rfl (fun _ => rfl) rfl rfl rfl) ?_; rintro v7
    refine h_q hflS rfl ?_
    refine h_done (d_seq ?_)
    by_cases hf2 : f2 = 0
    · skip
      have hx2 := hx
      rw [hf2] at hx2
      obtain ⟨⟨e, en⟩, hD⟩ : ∃ R, decE x = R := ⟨_, rfl⟩
      have hxl : x.length ≤ 140737488355328 := by
                  have h3 := (good_text 160).back_of hx2
                  have h4 := congrArg List.length h3.2
                  rw [List.length_append] at h4
                  unfold layT at h4
                  rw [List.length_append] at h4
                  omega
      have hre := rent_of hx2 hD
      refine WC2.keep (env' := [(0, .pointer (some ⟨g, 0, none⟩)), (1, .pointer (some ⟨gm, 0, none⟩)), (4, .int .i64 0), (5, .int .u64 (n : Int)), (6, .int .u64 ((j : Nat) : Int)), (12, .int .u64 ((j : Nat) : Int)), (13, .int .u64 (n : Int)), (14, .bool true), (15, .bool true), (16, .pointer (some ⟨g, 0, none⟩)), (17, .pointer (some ⟨g, 0, none⟩)), (18, .pointer (some ⟨g, 2, none⟩)), (19, .int .i64 (0 : Int)), (20, .bool true), (21, .bool true), (24, .pointer (some ⟨g, 0, none⟩)), (25, v7), (7, v7)]) ⟨rfl, rfl, rfl, rfl, rfl, rfl, rfl, rfl, rfl, rfl, rfl, rfl, rfl, rfl, rfl, rfl, rfl, rfl, trivial⟩ ?_
      refine WC2.mid [Vec 5 1 encB v7 x, RrT B bd g l2 f2, Ents 36 ev L, Vec 5 1 encB B bd, cell gm 28 #[.int .i64 k, .int .i64 a, .int .i64 c2, .int .u64 t, .int .u64 i, .int .u64 lt, ev, .int .u64 co, .bool false, .int .u64 0, .int .u64 0, .int .i64 0, .int .i64 0, .slice none 0 0, .bool false]] (.refl _) ?_
      refine d_open 1 rfl RrT_open (fun _ => rfl) ?_; rintro ⟨j0, hj1, hj2⟩
      refine d_reg ?_
      refine h_q hflS rfl ?_
      refine h_val rfl (.pointer (some ⟨g, 0, none⟩)) (fun b w hb hH => by exact exec_nilCheck rfl rfl hb) ?_
      refine h_q hflS rfl ?_
      refine h_val rfl (.int .i64 (f2 : Int)) (fun b w hb hH => exec_load rfl rfl (reads_one ty_api_Errno rfl) (hH.row 0 rfl) hb) ?_
      refine h_val rfl (.bool false) (fun b w hb hH => exec_cmp rfl rfl rfl (cmp_neq_f (by omega)) hb) ?_
      refine h_done (d_else rfl (d_skip (f_to ?_)))
      subst hf2
      refine d_close [0] rfl (rr_mk2 hj1 hj2) rfl ?_
      refine d_reg ?_
      refine h_q hflS rfl ?_
      refine h_act rfl (a_makes  [] 0 (ent_of Try.func28 (by kernel_rfl) rfl) (fun w hH => rreade_does w v7 x (hH.sl8 1 rfl) hxl e en hD) rfl rfl rfl (fun _ => rfl) rfl rfl rfl) ?_; rintro ⟨A3, c3⟩
      refine h_q hflS rfl ?_
      refine h_act (post := fun g8 => [cell g8 36 #[.int .i64 0, .int .u64 0, .int .u64 0, .slice none 0 0, .int .i64 0], Vec 5 1 encB (.slice A3 e.d.length c3) e.d, RrT B bd g l2 0, Vec 5 1 encB v7 x, Ents 36 ev L, Vec 5 1 encB B bd, cell gm 28 #[.int .i64 k, .int .i64 a, .int .i64 c2, .int .u64 t, .int .u64 i, .int .u64 lt, ev, .int .u64 co, .bool false, .int .u64 0, .int .u64 0, .int .i64 0, .int .i64 0, .slice none 0 0, .bool false]]) rfl (a_alloc ze_api_Entry rfl) ?_; rintro g8
      refine h_acts (post := fun _ => [cell g8 36 #[.int .i64 e.k, .int .u64 e.t, .int .u64 e.i, .slice A3 e.d.length c3, .int .i64 e.c], Vec 5 1 encB (.slice A3 e.d.length c3) e.d, RrT B bd g l2 0, Vec 5 1 encB v7 x, Ents 36 ev L, Vec 5 1 encB B bd, cell gm 28 #[.int .i64 k, .int .i64 a, .int .i64 c2, .int .u64 t, .int .u64 i, .int .u64 lt, ev, .int .u64 co, .bool false, .int .u64 0, .int .u64 0, .int .i64 0, .int .i64 0, .slice none 0 0, .bool false]]) rfl rfl (a_store 0 (v := .agg #[.int .i64 e.k, .int .u64 e.t, .int .u64 e.i, .slice A3 e.d.length c3, .int .i64 e.c]) #[.int .i64 e.k, .int .u64 e.t, .int .u64 e.i, .slice A3 e.d.length c3, .int .i64 e.c] ty_api_Entry.2 rfl rfl rfl rfl rfl rfl rfl rfl rfl) ?_; rintro ⟨⟩
      refine h_q hflS rfl ?_
      refine h_done (d_seq ?_)
      by_cases he : en = 0
      · skip
        have hre0 := hre
        rw [he] at hre0
        refine d_reg ?_
        refine h_q hflS rfl ?_
        refine h_val rfl (.bool false) (fun b w hb hH => exec_cmp rfl rfl rfl (cmp_neq_f (by omega)) hb) ?_
        refine h_done (d_else rfl (d_skip (f_to ?_)))
        refine WC2.keep (env' := [(0, .pointer (some ⟨g, 0, none⟩)), (1, .pointer (some ⟨gm, 0, none⟩)), (4, .int .i64 0), (5, .int .u64 (n : Int)), (6, .int .u64 ((j : Nat) : Int)), (12, .int .u64 ((j : Nat) : Int)), (13, .int .u64 (n : Int)), (14, .bool true), (15, .bool true), (16, .pointer (some ⟨g, 0, none⟩)), (17, .pointer (some ⟨g, 0, none⟩)), (18, .pointer (some ⟨g, 2, none⟩)), (19, .int .i64 (0 : Int)), (20, .bool true), (21, .bool true), (24, .pointer (some ⟨g, 0, none⟩)), (25, v7), (7, v7), (26, .pointer (some ⟨g, 0, none⟩)), (27, .pointer (some ⟨g, 0, none⟩)), (28, .pointer (some ⟨g, 2, none⟩)), (29, .int .i64 (0 : Int)), (30, .bool false), (32, v7), (33, .tuple #[.agg #[.int .i64 e.k, .int .u64 e.t, .int .u64 e.i, .slice A3 e.d.length c3, .int .i64 e.c], .int .i64 (en : Int)]), (31, .tuple #[.agg #[.int .i64 e.k, .int .u64 e.t, .int .u64 e.i, .slice A3 e.d.length c3, .int .i64 e.c], .int .i64 (en : Int)]), (34, .agg #[.int .i64 e.k, .int .u64 e.t, .int .u64 e.i, .slice A3 e.d.length c3, .int .i64 e.c]), (35, .int .i64 (en : Int)), (8, .pointer (some ⟨g8, 0, none⟩)), (9, .int .i64 (en : Int)), (36, .int .i64 (en : Int)), (37, .bool false)]) ⟨rfl, rfl, rfl, rfl, rfl, rfl, rfl, rfl, rfl, rfl, rfl, rfl, rfl, rfl, rfl, rfl, rfl, rfl, rfl, rfl, rfl, rfl, rfl, rfl, rfl, rfl, rfl, rfl, rfl, rfl, rfl, rfl, trivial⟩ ?_
        refine WC2.mid [cell g8 36 #[.int .i64 e.k, .int .u64 e.t, .int .u64 e.i, .slice A3 e.d.length c3, .int .i64 e.c], Vec 5 1 encB (.slice A3 e.d.length c3) e.d, RrT B bd g l2 0, Vec 5 1 encB v7 x, Ents 36 ev L, Vec 5 1 encB B bd, cell gm 28 #[.int .i64 k, .int .i64 a, .int .i64 c2, .int .u64 t, .int .u64 i, .int .u64 lt, ev, .int .u64 co, .bool false, .int .u64 0, .int .u64 0, .int .i64 0, .int .i64 0, .slice none 0 0, .bool false]] (.refl _) ?_
        refine d_open 4 rfl ents_open (fun _ => rfl) ?_; rintro ⟨⟩
        refine d_emps 1 rfl ?_
        refine d_parS 10 2 [⟨.quiet, [none, none], fun _ => .pointer (some ⟨gm, 0, none⟩), []⟩, ⟨.quiet, [none, none], fun _ => .pointer (some ⟨gm, 0, none⟩), []⟩, ⟨.quiet, [none, none], fun _ => .pointer (some ⟨gm, 0, none⟩), [1]⟩, ⟨.quiet, [none, none], fun _ => .pointer (some ⟨gm, 6, none⟩), [2]⟩, ⟨.quiet, [none, none], fun _ => ev, [3]⟩, ⟨.quiet, [none, none], fun _ => .agg #[.int .i64 e.k, .int .u64 e.t, .int .u64 e.i, .slice A3 e.d.length c3, .int .i64 e.c], []⟩, ⟨.act 0, [some false, some false], fun _ => undef, [5]⟩, ⟨.act 1, [some true, some false], fun _ => undef, [4, 6]⟩, ⟨.quiet, [some true, some true], fun _ => .pointer (some ⟨gm, 0, none⟩), [0]⟩, ⟨.quiet, [some true, some true], fun _ => .pointer (some ⟨gm, 6, none⟩), [8]⟩] [(0, .pointer (some ⟨g, 0, none⟩)), (1, .pointer (some ⟨gm, 0, none⟩)), (4, .int .i64 0), (5, .int .u64 (n : Int)), (6, .int .u64 ((j : Nat) : Int)), (12, .int .u64 ((j : Nat) : Int)), (13, .int .u64 (n : Int)), (14, .bool true), (15, .bool true), (16, .pointer (some ⟨g, 0, none⟩)), (17, .pointer (some ⟨g, 0, none⟩)), (18, .pointer (some ⟨g, 2, none⟩)), (19, .int .i64 (0 : Int)), (20, .bool true), (21, .bool true), (24, .pointer (some ⟨g, 0, none⟩)), (25, v7), (7, v7), (26, .pointer (some ⟨g, 0, none⟩)), (27, .pointer (some ⟨g, 0, none⟩)), (28, .pointer (some ⟨g, 2, none⟩)), (29, .int .i64 (0 : Int)), (30, .bool false), (32, v7), (33, .tuple #[.agg #[.int .i64 e.k, .int .u64 e.t, .int .u64 e.i, .slice A3 e.d.length c3, .int .i64 e.c], .int .i64 (en : Int)]), (31, .tuple #[.agg #[.int .i64 e.k, .int .u64 e.t, .int .u64 e.i, .slice A3 e.d.length c3, .int .i64 e.c], .int .i64 (en : Int)]), (34, .agg #[.int .i64 e.k, .int .u64 e.t, .int .u64 e.i, .slice A3 e.d.length c3, .int .i64 e.c]), (35, .int .i64 (en : Int)), (8, .pointer (some ⟨g8, 0, none⟩)), (9, .int .i64 (en : Int)), (36, .int .i64 (en : Int)), (37, .bool false)] (fun ρ => match ρ with | [r0, r1] => [selS r0 (fun ub => Vec 36 5 encV ub ([(⟨e, A3, c3⟩ : EntV)])) (emp), selS r1 (fun ev2 => Vec 36 5 encV ev2 (L ++ [(⟨e, A3, c3⟩ : EntV)])) (Vec 36 5 encV ev L), Each (fun x : EntV => Vec 5 1 encB x.v x.e.d) L, cell g8 36 #[.int .i64 e.k, .int .u64 e.t, .int .u64 e.i, .slice A3 e.d.length c3, .int .i64 e.c], Vec 5 1 encB (.slice A3 e.d.length c3) e.d, RrT B bd g l2 0, Vec 5 1 encB v7 x, Vec 5 1 encB B bd, cell gm 28 #[.int .i64 k, .int .i64 a, .int .i64 c2, .int .u64 t, .int .u64 i, .int .u64 lt, ev, .int .u64 co, .bool false, .int .u64 0, .int .u64 0, .int .i64 0, .int .i64 0, .slice none 0 0, .bool false]] | _ => []) (by kernel_rfl) (by kernel_rfl) ⟨rfl, rfl, rfl, rfl, rfl, rfl, rfl, rfl, rfl, rfl, rfl, rfl, rfl, rfl, rfl, rfl, rfl, rfl, rfl, rfl, rfl, rfl, rfl, rfl, rfl, rfl, rfl, rfl, rfl, rfl, rfl, rfl, trivial⟩ rfl ?_ ?_
        · skip
          refine s_cons (by intro r0_ r1_; exact ⟨rfl, fun b w hH hb => exec_q1 hflS rfl hb⟩) ?_
          refine s_cons (by intro r0_ r1_; exact ⟨rfl, fun b w hH hb => exec_q1 hflS rfl hb⟩) ?_
          refine s_cons (by intro r0_ r1_; exact ⟨rfl, fun b w hH hb => by exact exec_nilCheck rfl rfl hb⟩) ?_
          refine s_cons (by intro r0_ r1_; exact ⟨rfl, fun b w hH hb => exec_q1 hflS rfl hb⟩) ?_
          refine s_cons (by intro r0_ r1_; exact ⟨rfl, fun b w hH hb => exec_load rfl rfl (reads_one ty_s_api_Entry rfl) (hH.row 8 rfl) hb⟩) ?_
          refine s_cons (by intro r0_ r1_; exact ⟨rfl, fun b w hH hb => exec_load rfl rfl (reads_agg (cs := [.int .i64 e.k, .int .u64 e.t, .int .u64 e.i, .slice A3 e.d.length c3, .int .i64 e.c]) ty_api_Entry rfl) (hH.row 3 rfl) hb⟩) ?_
          refine s_cons (by exact ⟨rfl, Acts.s (Acts.place (val := fun ub : Value => ub) (t := fun ub => Vec 36 5 encV ub ([(⟨e, A3, c3⟩ : EntV)])) (os' := fun ub => [Vec 36 5 encV ub ([(⟨e, A3, c3⟩ : EntV)]), Vec 36 5 encV ev L, Each (fun x : EntV => Vec 5 1 encB x.v x.e.d) L, cell g8 36 #[.int .i64 e.k, .int .u64 e.t, .int .u64 e.i, .slice A3 e.d.length c3, .int .i64 e.c], Vec 5 1 encB (.slice A3 e.d.length c3) e.d, RrT B bd g l2 0, Vec 5 1 encB v7 x, Vec 5 1 encB B bd, cell gm 28 #[.int .i64 k, .int .i64 a, .int .i64 c2, .int .u64 t, .int .u64 i, .int .u64 lt, ev, .int .u64 co, .bool false, .int .u64 0, .int .u64 0, .int .i64 0, .int .i64 0, .slice none 0 0, .bool false]]) 0 rfl (by refine a_buildK (e := 36) (t := 23) (k := 5) (enc := encV) (x := .tmp 44) (c := .agg #[.int .i64 e.k, .int .u64 e.t, .int .u64 e.i, .slice A3 e.d.length c3, .int .i64 e.c]) ?_ ?_ ?_ (⟨e, A3, c3⟩ : EntV) ?_ ?_ ?_; exact sl_api_Entry; exact (by decide); exact okV; exact rfl; exact rfl; exact rfl) (fun _ => rfl)) (fun _ => rfl)⟩) ?_
          refine s_cons (by intro ub; exact ⟨rfl, Acts.s (a_appendK (nb := 56) 1 sl_api_Entry okV (by kernel_rfl) (by decide) rfl ([(⟨e, A3, c3⟩ : EntV)]) (fun w hH => hH.vec 0 rfl okV) (by simp only [List.length_cons, List.length_nil]; omega) rfl rfl rfl rfl) (fun _ => rfl)⟩) ?_
          refine s_cons (by intro ub ev2; exact ⟨rfl, fun b w hH hb => by exact exec_nilCheck rfl rfl hb⟩) ?_
          refine s_cons (by intro ub ev2; exact ⟨rfl, fun b w hH hb => exec_q1 hflS rfl hb⟩) ?_
          exact s_nil
        intro ub ev2
        refine WL2.keep (env' := [(0, .pointer (some ⟨g, 0, none⟩)), (1, .pointer (some ⟨gm, 0, none⟩)), (4, .int .i64 0), (5, .int .u64 (n : Int)), (6, .int .u64 ((j : Nat) : Int)), (12, .int .u64 ((j : Nat) : Int)), (13, .int .u64 (n : Int)), (14, .bool true), (15, .bool true), (16, .pointer (some ⟨g, 0, none⟩)), (17, .pointer (some ⟨g, 0, none⟩)), (18, .pointer (some ⟨g, 2, none⟩)), (19, .int .i64 (0 : Int)), (20, .bool true), (21, .bool true), (24, .pointer (some ⟨g, 0, none⟩)), (25, v7), (7, v7), (26, .pointer (some ⟨g, 0, none⟩)), (27, .pointer (some ⟨g, 0, none⟩)), (28, .pointer (some ⟨g, 2, none⟩)), (29, .int .i64 (0 : Int)), (30, .bool false), (32, v7), (33, .tuple #[.agg #[.int .i64 e.k, .int .u64 e.t, .int .u64 e.i, .slice A3 e.d.length c3, .int .i64 e.c], .int .i64 (en : Int)]), (31, .tuple #[.agg #[.int .i64 e.k, .int .u64 e.t, .int .u64 e.i, .slice A3 e.d.length c3, .int .i64 e.c], .int .i64 (en : Int)]), (34, .agg #[.int .i64 e.k, .int .u64 e.t, .int .u64 e.i, .slice A3 e.d.length c3, .int .i64 e.c]), (35, .int .i64 (en : Int)), (8, .pointer (some ⟨g8, 0, none⟩)), (9, .int .i64 (en : Int)), (36, .int .i64 (en : Int)), (37, .bool false), (39, .pointer (some ⟨gm, 0, none⟩)), (40, .pointer (some ⟨gm, 0, none⟩)), (41, .pointer (some ⟨gm, 0, none⟩)), (42, .pointer (some ⟨gm, 6, none⟩)), (43, ev), (44, .agg #[.int .i64 e.k, .int .u64 e.t, .int .u64 e.i, .slice A3 e.d.length c3, .int .i64 e.c]), (45, ub), (46, ev2), (47, .pointer (some ⟨gm, 0, none⟩)), (48, .pointer (some ⟨gm, 6, none⟩))]) ⟨rfl, rfl, rfl, rfl, rfl, rfl, rfl, rfl, rfl, rfl, rfl, rfl, rfl, rfl, rfl, rfl, rfl, rfl, rfl, rfl, rfl, rfl, rfl, rfl, rfl, rfl, rfl, rfl, rfl, rfl, rfl, rfl, rfl, rfl, rfl, rfl, rfl, rfl, rfl, rfl, rfl, rfl, trivial⟩ ?_
        refine h_q hflS rfl ?_
        refine h_acts (post := fun _ => [Vec 36 5 encV ub ([(⟨e, A3, c3⟩ : EntV)]), Vec 36 5 encV ev2 (L ++ [(⟨e, A3, c3⟩ : EntV)]), Each (fun x : EntV => Vec 5 1 encB x.v x.e.d) L, cell g8 36 #[.int .i64 e.k, .int .u64 e.t, .int .u64 e.i, .slice A3 e.d.length c3, .int .i64 e.c], Vec 5 1 encB (.slice A3 e.d.length c3) e.d, RrT B bd g l2 0, Vec 5 1 encB v7 x, Vec 5 1 encB B bd, cell gm 28 #[.int .i64 k, .int .i64 a, .int .i64 c2, .int .u64 t, .int .u64 i, .int .u64 lt, ev2, .int .u64 co, .bool false, .int .u64 0, .int .u64 0, .int .i64 0, .int .i64 0, .slice none 0 0, .bool false]]) rfl rfl (a_storev 8 1 (v := ev2) #[.int .i64 k, .int .i64 a, .int .i64 c2, .int .u64 t, .int .u64 i, .int .u64 lt, ev2, .int .u64 co, .bool false, .int .u64 0, .int .u64 0, .int .i64 0, .int .i64 0, .slice none 0 0, .bool false] ty_s_api_Entry.2 rfl (fun _ h => Vec.c1 h) rfl rfl rfl rfl rfl rfl rfl) ?_; rintro ⟨⟩
        refine h_nil (f_block (f_to ?_))
        refine WC2.leave [0, 3, 6] rfl rfl ?_
        refine d_close [0, 1, 2] rfl ents_push rfl ?_
        refine d_reg1 ?_
        refine h_q hflS rfl ?_
        refine h_val rfl (.int .u64 ((j + 1 : Nat) : Int)) (fun b w hb hH => exec_ar rfl rfl rfl rfl (by rw [IntWalk.u64_in _ (by omega)]; omega) hb) ?_
        refine h_q hflS rfl ?_
        refine h_nil ?_
        exact f_again (j + 1, L ++ [(⟨e, A3, c3⟩ : EntV)], ev2, l2) 0 ⟨hj, fun _ => by rw [List.map_append]; exact hA.step hj hre0, fun h => absurd rfl h, by rw [List.length_append]; simp [hI4], by omega⟩ (show n - (j + 1) < n - j by omega) ⟨rfl, rfl, rfl, rfl, rfl, trivial⟩ rfl
      · skip
        have h4 := hA.stop hj hre he
        have h5 : R.2.2 = en := by rw [← hR, h4]
        refine d_reg ?_
        refine h_q hflS rfl ?_
        refine h_val rfl (.bool true) (fun b w hb hH => exec_cmp rfl rfl rfl (cmp_neq_t (by omega)) hb) ?_
        refine h_done (d_then rfl ?_)
        refine WC2.fact 4 rfl Ents.is ?_; rintro ⟨A5, c5, rfl⟩
        refine d_reg ?_
        refine h_q hflS rfl ?_
        refine h_done (d_ret (f_then_ret (f_block_ret (f_then_ret (f_then_ret (f_block_ret (f_then_ret ?_)))))))
        exact f_fin1 (.tmp rfl) (fun w h => tells (⟨A5, c5, L, en, l2, 0⟩ : REX) rfl [2, 5, 6, 4] rfl h (fun z hz => ⟨z, .refl _, fact_add (xs := [_, _, _, _]) (show REOk R _ from .inr ⟨by rw [h5]; exact he, .inl ⟨h5.symm, rfl⟩⟩) hz⟩)) rfl
    · skip
      have h4 := hA.stop hj (rent_text hx hf2) hf2
      have h5 : R.2.2 = f2 := by rw [← hR, h4]
      refine WC2.keep (env' := [(0, .pointer (some ⟨g, 0, none⟩)), (1, .pointer (some ⟨gm, 0, none⟩)), (4, .int .i64 0), (5, .int .u64 (n : Int)), (6, .int .u64 ((j : Nat) : Int)), (12, .int .u64 ((j : Nat) : Int)), (13, .int .u64 (n : Int)), (14, .bool true), (15, .bool true), (16, .pointer (some ⟨g, 0, none⟩)), (17, .pointer (some ⟨g, 0, none⟩)), (18, .pointer (some ⟨g, 2, none⟩)), (19, .int .i64 (0 : Int)), (20, .bool true), (21, .bool true), (24, .pointer (some ⟨g, 0, none⟩)), (25, v7), (7, v7)]) ⟨rfl, rfl, rfl, rfl, rfl, rfl, rfl, rfl, rfl, rfl, rfl, rfl, rfl, rfl, rfl, rfl, rfl, rfl, trivial⟩ ?_
      refine WC2.mid [Vec 5 1 encB v7 x, RrT B bd g l2 f2, Ents 36 ev L, Vec 5 1 encB B bd, cell gm 28 #[.int .i64 k, .int .i64 a, .int .i64 c2, .int .u64 t, .int .u64 i, .int .u64 lt, ev, .int .u64 co, .bool false, .int .u64 0, .int .u64 0, .int .i64 0, .int .i64 0, .slice none 0 0, .bool false]] (.refl _) ?_
      refine d_open 1 rfl RrT_open (fun _ => rfl) ?_; rintro ⟨j0, hj1, hj2⟩
      refine d_reg ?_
      refine h_q hflS rfl ?_
      refine h_val rfl (.pointer (some ⟨g, 0, none⟩)) (fun b w hb hH => by exact exec_nilCheck rfl rfl hb) ?_
      refine h_q hflS rfl ?_
      refine h_val rfl (.int .i64 (f2 : Int)) (fun b w hb hH => exec_load rfl rfl (reads_one ty_api_Errno rfl) (hH.row 0 rfl) hb) ?_
      refine h_val rfl (.bool true) (fun b w hb hH => exec_cmp rfl rfl rfl (cmp_neq_t (by omega)) hb) ?_
      refine h_done (d_then rfl ?_)
      refine d_close [0] rfl (rr_mk2 hj1 hj2) rfl ?_
      refine WC2.fact 2 rfl Ents.is ?_; rintro ⟨A5, c5, rfl⟩
      refine d_reg ?_
      refine h_q hflS rfl ?_
      refine h_done (d_ret (f_then_ret (f_block_ret (f_then_ret (f_then_ret (f_block_ret (f_then_ret ?_)))))))
      exact f_fin1 (.tmp rfl) (fun w h => tells (⟨A5, c5, L, 0, l2, f2⟩ : REX) rfl [0, 3, 4, 2] rfl h (fun z hz => ⟨z, .refl _, fact_add (xs := [_, _, _, _]) (show REOk R _ from .inr ⟨by rw [h5]; exact hf2, .inr ⟨rfl, h5.symm⟩⟩) hz⟩)) rfl
  · skip
    obtain rfl : j = n := by omega
    refine d_reg ?_
    refine h_q hflS rfl ?_
    refine h_val rfl (.bool false) (fun b w hb hH => exec_cmp rfl rfl rfl (cmp_lss_f (by omega)) hb) ?_
    refine h_q hflS rfl ?_
    refine h_done (d_else rfl (d_exit (f_then_exit (f_then_exit (f_block_exit (f_to ?_))))))
    refine WC2.fact 0 rfl Ents.is ?_; rintro ⟨A5, c5, rfl⟩
    refine d_reg ?_
    refine h_q hflS rfl ?_
    refine h_done (d_ret ?_)
    exact f_fin1 (.tmp rfl) (fun w h => tells (⟨A5, c5, L, 0, l1, f0⟩ : REX) rfl [1, 2, 3, 0] rfl h (fun z hz => ⟨z, .refl _, fact_add (xs := [_, _, _, _]) (show REOk R _ from by
              by_cases h0 : f0 = 0
              · subst h0
                have h4 := (hI2 rfl).done
                exact .inl ⟨by rw [← hR, h4], rfl, by rw [← hR, h4], rfl, by rw [← hR, h4]⟩
              · have h6 := hf0 h0
                have h4 : R.2.2 = f0 := by rw [← hR, h6]; rfl
                exact .inr ⟨by rw [h4]; exact h0, .inr ⟨rfl, h4.symm⟩⟩) hz⟩)) rfl
end Go.Proofs.Ytnhcbjlaeaohjaa.Sep
