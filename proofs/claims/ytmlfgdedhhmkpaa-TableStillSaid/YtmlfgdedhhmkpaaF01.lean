/-
  TabZ
-/
import Derived.Test.YtmlfgdedhhmkpaaE01
set_option linter.unusedSimpArgs false
set_option linter.unusedVariables false

namespace Go.Proofs.Ytmlfgdedhhmkpaa.Sep
open Go.RowKit
open Go.Proofs.Ytmlfgdedhhmkpaa.Mem (Dist Blk Chg below0)

/-- what stands while a table is changed under a ranging: all but the table -/
def StillR (g gk gv gn go g3 g5 : Nat) (more uk uv : Value) (K V : List Int) (j : Nat) : Ass := fun rs => Parts [cell g5 39 #[.pointer (some ⟨g, 0, none⟩)], cell g3 38 #[more], cell gk 44 #[uk], cell gv 45 #[uv], cell gn 3 #[.int .i64 ((j : Nat) : Int)], cell go 4 #[.bool true], Vec 42 1 encU uk K, Vec 3 1 encI uv V] rs
def Still (g gk gv gn go g3 g5 : Nat) (more uk uv : Value) (K V : List Int) (j : Nat) : Ass := fun rs => ∃ K1 V1, Parts [Tab 85 42 3 encU encI ltI g 200 K1 V1, cell g5 39 #[.pointer (some ⟨g, 0, none⟩)], cell g3 38 #[more], cell gk 44 #[uk], cell gv 45 #[uv], cell gn 3 #[.int .i64 ((j : Nat) : Int)], cell go 4 #[.bool true], Vec 42 1 encU uk K, Vec 3 1 encI uv V] rs
theorem Still.open_ {g gk gv gn go g3 g5 : Nat} {more uk uv : Value} {K V : List Int} {j : Nat} : ∀ rs, Still g gk gv gn go g3 g5 more uk uv K V j rs → ∃ x : List Int × List Int, Parts [Tab 85 42 3 encU encI ltI g 200 x.1 x.2, cell g5 39 #[.pointer (some ⟨g, 0, none⟩)], cell g3 38 #[more], cell gk 44 #[uk], cell gv 45 #[uv], cell gn 3 #[.int .i64 ((j : Nat) : Int)], cell go 4 #[.bool true], Vec 42 1 encU uk K, Vec 3 1 encI uv V] rs := fun rs ⟨K1, V1, h⟩ => ⟨(K1, V1), h⟩
theorem Still.mk_ {g gk gv gn go g3 g5 : Nat} {more uk uv : Value} {K V : List Int} : ∀ rs, Parts [Tab 85 42 3 encU encI ltI g 200 K V, StillR g gk gv gn go g3 g5 more uk uv K V 0] rs → Still g gk gv gn go g3 g5 more uk uv K V 0 rs := fun rs ⟨a, b, e, hT, hR⟩ => ⟨K, V, a, b, e, hT, hR.one'⟩

set_option maxRecDepth 100000 in
theorem still1 (u : World) (g gk gv gn go g3 g5 : Nat) (more uk uv : Value) (K V : List Int) (ms : List StepD) (hl : SlRd u 4 more ms.length (flat encT ms)) (j : Nat) (a c : Int) (ha : K[j]? = some a) (hc : V[j]? = some c) (hK : K.length ≤ 4096) (hVK : V.length = K.length) : DoesU u Try.prog 27 #[.int .u64 a, .int .i64 c, .pointer (some ⟨go, 0, none⟩), .pointer (some ⟨gn, 0, none⟩), .pointer (some ⟨gk, 0, none⟩), .pointer (some ⟨gv, 0, none⟩), .pointer (some ⟨g3, 0, none⟩), .pointer (some ⟨g5, 0, none⟩)] [Still g gk gv gn go g3 g5 more uk uv K V j] (fun (_ : Unit) => .bool true) (fun (_ : Unit) => [Still g gk gv gn go g3 g5 more uk uv K V (j + 1)]) := by
  refine d_insU (args := [.int .u64 a, .int .i64 c, .pointer (some ⟨go, 0, none⟩), .pointer (some ⟨gn, 0, none⟩), .pointer (some ⟨gk, 0, none⟩), .pointer (some ⟨gv, 0, none⟩), .pointer (some ⟨g3, 0, none⟩), .pointer (some ⟨g5, 0, none⟩)]) 69 Try.func27 rfl rfl rfl ?_; intro w rs hU hS
  have hj : j < K.length := (List.getElem?_eq_some_iff.1 ha).1
  refine d_open 0 rfl Still.open_ (fun _ => rfl) ?_; rintro ⟨K1, V1⟩
  refine WC2.keep (env' := [(0, .int .u64 a), (1, .int .i64 c), (2, .pointer (some ⟨go, 0, none⟩)), (3, .pointer (some ⟨gn, 0, none⟩)), (4, .pointer (some ⟨gk, 0, none⟩)), (5, .pointer (some ⟨gv, 0, none⟩)), (6, .pointer (some ⟨g3, 0, none⟩)), (7, .pointer (some ⟨g5, 0, none⟩))]) ⟨rfl, rfl, rfl, rfl, rfl, rfl, rfl, rfl, trivial⟩ ?_
  refine WC2.mid [Tab 85 42 3 encU encI ltI g 200 K1 V1, cell g5 39 #[.pointer (some ⟨g, 0, none⟩)], cell g3 38 #[more], cell gk 44 #[uk], cell gv 45 #[uv], cell gn 3 #[.int .i64 ((j : Nat) : Int)], cell go 4 #[.bool true], Vec 42 1 encU uk K, Vec 3 1 encI uv V] (.refl _) ?_
  refine d_reg ?_
  refine h_q hflS rfl ?_
  refine h_done (d_reg ?_)
  refine h_q hflS rfl ?_
  refine h_val rfl (.bool true) (fun b w hb hH => exec_load rfl rfl (reads_one ty_bool rfl) (hH.row 6 rfl) hb) ?_
  refine h_q hflS rfl ?_
  refine h_val rfl (.int .i64 ((j : Nat) : Int)) (fun b w hb hH => exec_load rfl rfl (reads_one ty_int rfl) (hH.row 5 rfl) hb) ?_
  refine h_val rfl (uk) (fun b w hb hH => exec_load rfl rfl (reads_one ty_s_uint64 rfl) (hH.row 3 rfl) hb) ?_
  refine h_val rfl (.int .i64 (K.length : Int)) (fun b w hb hH => e_vlen 7 Try.underlying44 rfl rfl rfl hH hb) ?_
  refine h_val rfl (.bool true) (fun b w hb hH => exec_cmp rfl rfl rfl (cmp_lss_t (by omega)) hb) ?_
  refine h_q hflS rfl ?_
  refine h_val rfl (uk) (fun b w hb hH => exec_load rfl rfl (reads_one ty_s_uint64 rfl) (hH.row 3 rfl) hb) ?_
  refine h_val rfl (.int .i64 ((j : Nat) : Int)) (fun b w hb hH => exec_load rfl rfl (reads_one ty_int rfl) (hH.row 5 rfl) hb) ?_
  refine h_val rfl (elp uk (j * 1)) (fun b w hb hH => e_vidx 7 sl_uint64 okU rfl j hj rfl rfl rfl hH hb) ?_
  refine h_val rfl (.int .u64 a) (fun b w hb hH => e_vload1 7 ty_uint64 okU rfl j (a := a) ha rfl rfl rfl hH hb) ?_
  refine h_val rfl (.bool true) (fun b w hb hH => exec_cmp rfl rfl rfl (cmp_eql_t rfl) hb) ?_
  refine h_q hflS rfl ?_
  refine h_val rfl (uv) (fun b w hb hH => exec_load rfl rfl (reads_one ty_s_int rfl) (hH.row 4 rfl) hb) ?_
  refine h_val rfl (.int .i64 ((j : Nat) : Int)) (fun b w hb hH => exec_load rfl rfl (reads_one ty_int rfl) (hH.row 5 rfl) hb) ?_
  refine h_val rfl (elp uv (j * 1)) (fun b w hb hH => e_vidx 8 sl_int okI rfl j (by omega) rfl rfl rfl hH hb) ?_
  refine h_val rfl (.int .i64 c) (fun b w hb hH => e_vload1 8 ty_int okI rfl j (a := c) hc rfl rfl rfl hH hb) ?_
  refine h_val rfl (.bool true) (fun b w hb hH => exec_cmp rfl rfl rfl (cmp_eql_t rfl) hb) ?_
  refine h_q hflS rfl ?_
  refine h_acts (post := fun _ => [Tab 85 42 3 encU encI ltI g 200 K1 V1, cell g5 39 #[.pointer (some ⟨g, 0, none⟩)], cell g3 38 #[more], cell gk 44 #[uk], cell gv 45 #[uv], cell gn 3 #[.int .i64 ((j : Nat) : Int)], cell go 4 #[.bool true], Vec 42 1 encU uk K, Vec 3 1 encI uv V]) rfl rfl (a_store 6 (v := .bool true) #[.bool true] ty_bool.2 rfl rfl rfl rfl rfl rfl rfl rfl rfl) ?_; rintro ⟨⟩
  refine h_done (d_seq ?_)
  rcases Nat.lt_or_ge j ms.length with h4 | h4
  · skip
    obtain ⟨x, hx⟩ : ∃ x, ms[j]? = some x := ⟨_, List.getElem?_eq_getElem h4⟩
    obtain ⟨r0, hr0⟩ : ∃ r0, x.what.tmod 2 = r0 := ⟨_, rfl⟩
    obtain ⟨r1, hr1⟩ : ∃ r1, x.k.tmod 30 = r1 := ⟨_, rfl⟩
    obtain ⟨r2, hr2⟩ : ∃ r2, x.k.tmod 40 = r2 := ⟨_, rfl⟩
    refine d_reg ?_
    refine h_q hflS rfl ?_
    refine h_val rfl (.int .i64 ((j : Nat) : Int)) (fun b w hb hH => exec_load rfl rfl (reads_one ty_int rfl) (hH.row 5 rfl) hb) ?_
    refine h_val rfl (more) (fun b w hb hH => exec_load rfl rfl (reads_one ty_s_bursarlaw4_Step rfl) (hH.row 2 rfl) hb) ?_
    refine h_val rfl (.int .i64 (ms.length : Int)) (fun b w hb hH => e_slen (arg_rdU hl hU hS hH) Try.underlying38 rfl rfl hb) ?_
    refine h_val rfl (.bool true) (fun b w hb hH => exec_cmp rfl rfl rfl (cmp_lss_t (by omega)) hb) ?_
    refine h_done (d_then rfl ?_)
    by_cases h5 : r0 = 0
    · skip
      obtain ⟨⟨K2, V2, d⟩, hd⟩ : ∃ R, dropT ltI K1 V1 r1 = R := ⟨_, rfl⟩
      refine d_reg ?_
      refine h_q hflS rfl ?_
      refine h_val rfl (more) (fun b w hb hH => exec_load rfl rfl (reads_one ty_s_bursarlaw4_Step rfl) (hH.row 2 rfl) hb) ?_
      refine h_val rfl (.int .i64 ((j : Nat) : Int)) (fun b w hb hH => exec_load rfl rfl (reads_one ty_int rfl) (hH.row 5 rfl) hb) ?_
      refine h_val rfl (elp more (j * 4)) (fun b w hb hH => e_sidx okT (arg_rdU hl hU hS hH) sl_bursarlaw4_Step (j := j) hx rfl rfl rfl hb) ?_
      refine h_val rfl (elp more (j * 4 + 0)) (fun b w hb hH => e_sfield okT (by decide) (arg_rdU hl hU hS hH) (j := j) hx fd_bursarlaw4_Step_0 rfl rfl hb) ?_
      refine h_val rfl (.int .i64 x.what) (fun b w hb hH => e_sload okT (by decide) (arg_rdU hl hU hS hH) (j := j) hx ty_int (off := 0) rfl rfl rfl hb) ?_
      refine h_val rfl (.int .i64 r0) (fun b w hb hH => exec_remI rfl rfl rfl (by decide) hr0 hb) ?_
      refine h_val rfl (.bool true) (fun b w hb hH => exec_cmp rfl rfl rfl (cmp_eql_t h5) hb) ?_
      refine h_done (d_then rfl ?_)
      refine d_parS 8 1 [⟨.quiet, [none], fun _ => .pointer (some ⟨g, 0, none⟩), []⟩, ⟨.quiet, [none], fun _ => more, []⟩, ⟨.quiet, [none], fun _ => .int .i64 ((j : Nat) : Int), []⟩, ⟨.quiet, [none], fun _ => elp more (j * 4), [1, 2]⟩, ⟨.quiet, [none], fun _ => elp more (j * 4 + 1), [3]⟩, ⟨.quiet, [none], fun _ => .int .u64 x.k, [4]⟩, ⟨.quiet, [none], fun _ => .int .u64 r1, [5]⟩, ⟨.actv 0, [some false], fun _ => .bool d, [0, 6]⟩] [(2, .pointer (some ⟨go, 0, none⟩)), (3, .pointer (some ⟨gn, 0, none⟩)), (6, .pointer (some ⟨g3, 0, none⟩)), (7, .pointer (some ⟨g5, 0, none⟩)), (10, .bool false)] (fun ρ => match ρ with | [r0] => [selS r0 (fun _ => Tab 85 42 3 encU encI ltI g 200 K2 V2) (Tab 85 42 3 encU encI ltI g 200 K1 V1), cell g5 39 #[.pointer (some ⟨g, 0, none⟩)], cell g3 38 #[more], cell gk 44 #[uk], cell gv 45 #[uv], cell gn 3 #[.int .i64 ((j : Nat) : Int)], cell go 4 #[.bool true], Vec 42 1 encU uk K, Vec 3 1 encI uv V] | _ => []) (by kernel_rfl) (by kernel_rfl) ⟨rfl, rfl, rfl, rfl, rfl, trivial⟩ rfl ?_ ?_
      · skip
        refine s_cons (by intro r0_; exact ⟨rfl, fun b w hH hb => exec_load rfl rfl (reads_one ty_p_table_Table_of_uint64_int rfl) (hH.row 1 rfl) hb⟩) ?_
        refine s_cons (by intro r0_; exact ⟨rfl, fun b w hH hb => exec_load rfl rfl (reads_one ty_s_bursarlaw4_Step rfl) (hH.row 2 rfl) hb⟩) ?_
        refine s_cons (by intro r0_; exact ⟨rfl, fun b w hH hb => exec_load rfl rfl (reads_one ty_int rfl) (hH.row 5 rfl) hb⟩) ?_
        refine s_cons (by intro r0_; exact ⟨rfl, fun b w hH hb => e_sidx okT (arg_rdU hl hU hS hH) sl_bursarlaw4_Step (j := j) hx rfl rfl rfl hb⟩) ?_
        refine s_cons (by intro r0_; exact ⟨rfl, fun b w hH hb => e_sfield okT (by decide) (arg_rdU hl hU hS hH) (j := j) hx fd_bursarlaw4_Step_1 rfl rfl hb⟩) ?_
        refine s_cons (by intro r0_; exact ⟨rfl, fun b w hH hb => e_sload okT (by decide) (arg_rdU hl hU hS hH) (j := j) hx ty_uint64 (off := 1) rfl rfl rfl hb⟩) ?_
        refine s_cons (by intro r0_; exact ⟨rfl, fun b w hH hb => exec_remI rfl rfl rfl (by decide) hr1 hb⟩) ?_
        refine s_cons (by exact ⟨rfl, Acts.su (a_does (os' := fun _ => [Tab 85 42 3 encU encI ltI g 200 K2 V2, cell g5 39 #[.pointer (some ⟨g, 0, none⟩)], cell g3 38 #[more], cell gk 44 #[uk], cell gv 45 #[uv], cell gn 3 #[.int .i64 ((j : Nat) : Int)], cell go 4 #[.bool true], Vec 42 1 encU uk K, Vec 3 1 encI uv V]) [0] 0 (ent_of Try.func28 (by kernel_rfl) rfl) (drop_uint64_int g 200 K1 V1 r1 (K2, V2, d) hd) rfl rfl rfl (fun _ => rfl) rfl rfl rfl) rfl⟩) ?_
        exact s_nil
      intro v0_
      refine WL2.keep (env' := [(2, .pointer (some ⟨go, 0, none⟩)), (3, .pointer (some ⟨gn, 0, none⟩)), (10, .bool false)]) ⟨rfl, rfl, rfl, trivial⟩ ?_
      refine h_nil (f_to (d_reg ?_))
      refine h_q hflS rfl ?_
      refine h_val rfl (.int .i64 ((j : Nat) : Int)) (fun b w hb hH => exec_load rfl rfl (reads_one ty_int rfl) (hH.row 5 rfl) hb) ?_
      refine h_val rfl (.int .i64 ((j + 1 : Nat) : Int)) (fun b w hb hH => exec_ar rfl rfl rfl rfl (by rw [IntWalk.i64_in _ (by omega)]; omega) hb) ?_
      refine h_acts (post := fun _ => [Tab 85 42 3 encU encI ltI g 200 K2 V2, cell g5 39 #[.pointer (some ⟨g, 0, none⟩)], cell g3 38 #[more], cell gk 44 #[uk], cell gv 45 #[uv], cell gn 3 #[.int .i64 ((j + 1 : Nat) : Int)], cell go 4 #[.bool true], Vec 42 1 encU uk K, Vec 3 1 encI uv V]) rfl rfl (a_store 5 (v := .int .i64 ((j + 1 : Nat) : Int)) #[.int .i64 ((j + 1 : Nat) : Int)] ty_int.2 rfl rfl rfl rfl rfl rfl rfl rfl rfl) ?_; rintro ⟨⟩
      refine h_done (d_reg ?_)
      refine h_q hflS rfl ?_
      refine h_val rfl (.bool true) (fun b w hb hH => exec_load rfl rfl (reads_one ty_bool rfl) (hH.row 6 rfl) hb) ?_
      refine h_q hflS rfl ?_
      refine h_done (d_ret ?_)
      exact f_fin1 (.tmp rfl) (fun w h => tells () rfl [0, 1, 2, 3, 4, 5, 6, 7, 8] rfl h (fun z hz => ⟨z, .refl _, Parts.one ⟨_, _, hz⟩⟩)) rfl
    · skip
      obtain ⟨⟨K2, V2, d⟩, hd⟩ : ∃ R, putT ltI 200 K1 V1 r2 x.v = R := ⟨_, rfl⟩
      refine d_reg ?_
      refine h_q hflS rfl ?_
      refine h_val rfl (more) (fun b w hb hH => exec_load rfl rfl (reads_one ty_s_bursarlaw4_Step rfl) (hH.row 2 rfl) hb) ?_
      refine h_val rfl (.int .i64 ((j : Nat) : Int)) (fun b w hb hH => exec_load rfl rfl (reads_one ty_int rfl) (hH.row 5 rfl) hb) ?_
      refine h_val rfl (elp more (j * 4)) (fun b w hb hH => e_sidx okT (arg_rdU hl hU hS hH) sl_bursarlaw4_Step (j := j) hx rfl rfl rfl hb) ?_
      refine h_val rfl (elp more (j * 4 + 0)) (fun b w hb hH => e_sfield okT (by decide) (arg_rdU hl hU hS hH) (j := j) hx fd_bursarlaw4_Step_0 rfl rfl hb) ?_
      refine h_val rfl (.int .i64 x.what) (fun b w hb hH => e_sload okT (by decide) (arg_rdU hl hU hS hH) (j := j) hx ty_int (off := 0) rfl rfl rfl hb) ?_
      refine h_val rfl (.int .i64 r0) (fun b w hb hH => exec_remI rfl rfl rfl (by decide) hr0 hb) ?_
      refine h_val rfl (.bool false) (fun b w hb hH => exec_cmp rfl rfl rfl (cmp_eql_f h5) hb) ?_
      refine h_done (d_else rfl ?_)
      refine d_parS 13 1 [⟨.quiet, [none], fun _ => .pointer (some ⟨g, 0, none⟩), []⟩, ⟨.quiet, [none], fun _ => more, []⟩, ⟨.quiet, [none], fun _ => .int .i64 ((j : Nat) : Int), []⟩, ⟨.quiet, [none], fun _ => elp more (j * 4), [1, 2]⟩, ⟨.quiet, [none], fun _ => elp more (j * 4 + 1), [3]⟩, ⟨.quiet, [none], fun _ => .int .u64 x.k, [4]⟩, ⟨.quiet, [none], fun _ => .int .u64 r2, [5]⟩, ⟨.quiet, [none], fun _ => more, []⟩, ⟨.quiet, [none], fun _ => .int .i64 ((j : Nat) : Int), []⟩, ⟨.quiet, [none], fun _ => elp more (j * 4), [7, 8]⟩, ⟨.quiet, [none], fun _ => elp more (j * 4 + 2), [9]⟩, ⟨.quiet, [none], fun _ => .int .i64 x.v, [10]⟩, ⟨.actv 0, [some false], fun _ => .bool d, [0, 6, 11]⟩] [(2, .pointer (some ⟨go, 0, none⟩)), (3, .pointer (some ⟨gn, 0, none⟩)), (6, .pointer (some ⟨g3, 0, none⟩)), (7, .pointer (some ⟨g5, 0, none⟩)), (10, .bool false)] (fun ρ => match ρ with | [r0] => [selS r0 (fun _ => Tab 85 42 3 encU encI ltI g 200 K2 V2) (Tab 85 42 3 encU encI ltI g 200 K1 V1), cell g5 39 #[.pointer (some ⟨g, 0, none⟩)], cell g3 38 #[more], cell gk 44 #[uk], cell gv 45 #[uv], cell gn 3 #[.int .i64 ((j : Nat) : Int)], cell go 4 #[.bool true], Vec 42 1 encU uk K, Vec 3 1 encI uv V] | _ => []) (by kernel_rfl) (by kernel_rfl) ⟨rfl, rfl, rfl, rfl, rfl, trivial⟩ rfl ?_ ?_
      · skip
        refine s_cons (by intro r0_; exact ⟨rfl, fun b w hH hb => exec_load rfl rfl (reads_one ty_p_table_Table_of_uint64_int rfl) (hH.row 1 rfl) hb⟩) ?_
        refine s_cons (by intro r0_; exact ⟨rfl, fun b w hH hb => exec_load rfl rfl (reads_one ty_s_bursarlaw4_Step rfl) (hH.row 2 rfl) hb⟩) ?_
        refine s_cons (by intro r0_; exact ⟨rfl, fun b w hH hb => exec_load rfl rfl (reads_one ty_int rfl) (hH.row 5 rfl) hb⟩) ?_
        refine s_cons (by intro r0_; exact ⟨rfl, fun b w hH hb => e_sidx okT (arg_rdU hl hU hS hH) sl_bursarlaw4_Step (j := j) hx rfl rfl rfl hb⟩) ?_
        refine s_cons (by intro r0_; exact ⟨rfl, fun b w hH hb => e_sfield okT (by decide) (arg_rdU hl hU hS hH) (j := j) hx fd_bursarlaw4_Step_1 rfl rfl hb⟩) ?_
        refine s_cons (by intro r0_; exact ⟨rfl, fun b w hH hb => e_sload okT (by decide) (arg_rdU hl hU hS hH) (j := j) hx ty_uint64 (off := 1) rfl rfl rfl hb⟩) ?_
        refine s_cons (by intro r0_; exact ⟨rfl, fun b w hH hb => exec_remI rfl rfl rfl (by decide) hr2 hb⟩) ?_
        refine s_cons (by intro r0_; exact ⟨rfl, fun b w hH hb => exec_load rfl rfl (reads_one ty_s_bursarlaw4_Step rfl) (hH.row 2 rfl) hb⟩) ?_
        refine s_cons (by intro r0_; exact ⟨rfl, fun b w hH hb => exec_load rfl rfl (reads_one ty_int rfl) (hH.row 5 rfl) hb⟩) ?_
        refine s_cons (by intro r0_; exact ⟨rfl, fun b w hH hb => e_sidx okT (arg_rdU hl hU hS hH) sl_bursarlaw4_Step (j := j) hx rfl rfl rfl hb⟩) ?_
        refine s_cons (by intro r0_; exact ⟨rfl, fun b w hH hb => e_sfield okT (by decide) (arg_rdU hl hU hS hH) (j := j) hx fd_bursarlaw4_Step_2 rfl rfl hb⟩) ?_
        refine s_cons (by intro r0_; exact ⟨rfl, fun b w hH hb => e_sload okT (by decide) (arg_rdU hl hU hS hH) (j := j) hx ty_int (off := 2) rfl rfl rfl hb⟩) ?_
        refine s_cons (by exact ⟨rfl, Acts.su (a_does (os' := fun _ => [Tab 85 42 3 encU encI ltI g 200 K2 V2, cell g5 39 #[.pointer (some ⟨g, 0, none⟩)], cell g3 38 #[more], cell gk 44 #[uk], cell gv 45 #[uv], cell gn 3 #[.int .i64 ((j : Nat) : Int)], cell go 4 #[.bool true], Vec 42 1 encU uk K, Vec 3 1 encI uv V]) [0] 0 (ent_of Try.func25 (by kernel_rfl) rfl) (put_uint64_int g 200 K1 V1 r2 x.v (K2, V2, d) hd) rfl rfl rfl (fun _ => rfl) rfl rfl rfl) rfl⟩) ?_
        exact s_nil
      intro v0_
      refine WL2.keep (env' := [(2, .pointer (some ⟨go, 0, none⟩)), (3, .pointer (some ⟨gn, 0, none⟩)), (10, .bool false)]) ⟨rfl, rfl, rfl, trivial⟩ ?_
      refine h_nil (f_to (d_reg ?_))
      refine h_q hflS rfl ?_
      refine h_val rfl (.int .i64 ((j : Nat) : Int)) (fun b w hb hH => exec_load rfl rfl (reads_one ty_int rfl) (hH.row 5 rfl) hb) ?_
      refine h_val rfl (.int .i64 ((j + 1 : Nat) : Int)) (fun b w hb hH => exec_ar rfl rfl rfl rfl (by rw [IntWalk.i64_in _ (by omega)]; omega) hb) ?_
      refine h_acts (post := fun _ => [Tab 85 42 3 encU encI ltI g 200 K2 V2, cell g5 39 #[.pointer (some ⟨g, 0, none⟩)], cell g3 38 #[more], cell gk 44 #[uk], cell gv 45 #[uv], cell gn 3 #[.int .i64 ((j + 1 : Nat) : Int)], cell go 4 #[.bool true], Vec 42 1 encU uk K, Vec 3 1 encI uv V]) rfl rfl (a_store 5 (v := .int .i64 ((j + 1 : Nat) : Int)) #[.int .i64 ((j + 1 : Nat) : Int)] ty_int.2 rfl rfl rfl rfl rfl rfl rfl rfl rfl) ?_; rintro ⟨⟩
      refine h_done (d_reg ?_)
      refine h_q hflS rfl ?_
      refine h_val rfl (.bool true) (fun b w hb hH => exec_load rfl rfl (reads_one ty_bool rfl) (hH.row 6 rfl) hb) ?_
      refine h_q hflS rfl ?_
      refine h_done (d_ret ?_)
      exact f_fin1 (.tmp rfl) (fun w h => tells () rfl [0, 1, 2, 3, 4, 5, 6, 7, 8] rfl h (fun z hz => ⟨z, .refl _, Parts.one ⟨_, _, hz⟩⟩)) rfl
  · skip
    refine d_reg ?_
    refine h_q hflS rfl ?_
    refine h_val rfl (.int .i64 ((j : Nat) : Int)) (fun b w hb hH => exec_load rfl rfl (reads_one ty_int rfl) (hH.row 5 rfl) hb) ?_
    refine h_val rfl (more) (fun b w hb hH => exec_load rfl rfl (reads_one ty_s_bursarlaw4_Step rfl) (hH.row 2 rfl) hb) ?_
    refine h_val rfl (.int .i64 (ms.length : Int)) (fun b w hb hH => e_slen (arg_rdU hl hU hS hH) Try.underlying38 rfl rfl hb) ?_
    refine h_val rfl (.bool false) (fun b w hb hH => exec_cmp rfl rfl rfl (cmp_lss_f (by omega)) hb) ?_
    refine h_done (d_else rfl (d_skip (f_to (d_reg ?_))))
    refine h_q hflS rfl ?_
    refine h_val rfl (.int .i64 ((j : Nat) : Int)) (fun b w hb hH => exec_load rfl rfl (reads_one ty_int rfl) (hH.row 5 rfl) hb) ?_
    refine h_val rfl (.int .i64 ((j + 1 : Nat) : Int)) (fun b w hb hH => exec_ar rfl rfl rfl rfl (by rw [IntWalk.i64_in _ (by omega)]; omega) hb) ?_
    refine h_acts (post := fun _ => [Tab 85 42 3 encU encI ltI g 200 K1 V1, cell g5 39 #[.pointer (some ⟨g, 0, none⟩)], cell g3 38 #[more], cell gk 44 #[uk], cell gv 45 #[uv], cell gn 3 #[.int .i64 ((j + 1 : Nat) : Int)], cell go 4 #[.bool true], Vec 42 1 encU uk K, Vec 3 1 encI uv V]) rfl rfl (a_store 5 (v := .int .i64 ((j + 1 : Nat) : Int)) #[.int .i64 ((j + 1 : Nat) : Int)] ty_int.2 rfl rfl rfl rfl rfl rfl rfl rfl rfl) ?_; rintro ⟨⟩
    refine h_done (d_reg ?_)
    refine h_q hflS rfl ?_
    refine h_val rfl (.bool true) (fun b w hb hH => exec_load rfl rfl (reads_one ty_bool rfl) (hH.row 6 rfl) hb) ?_
    refine h_q hflS rfl ?_
    refine h_done (d_ret ?_)
    exact f_fin1 (.tmp rfl) (fun w h => tells () rfl [0, 1, 2, 3, 4, 5, 6, 7, 8] rfl h (fun z hz => ⟨z, .refl _, Parts.one ⟨_, _, hz⟩⟩)) rfl

set_option maxRecDepth 100000 in
theorem still_true (w : World) (sl more : Value) (l ms : List StepD) (hl : SlRd w 4 sl l.length (flat encT l)) (hm : SlRd w 4 more ms.length (flat encT ms)) (hll : l.length ≤ 9223372036854775807) : Calls Try.prog 6 #[sl, more] w fun e w' => e = .returned (.bool true) ∧ Below w.heap.size w w' := by
  have hmc : more.cells = #[more] := by obtain ⟨_, A, c, e, _⟩ := hm; rw [e]; rfl
  refine d_in (args := [sl, more]) 64 Try.func6 rfl rfl rfl ?_
  refine d_reg ?_
  refine h_q hflS rfl ?_
  refine h_act (post := fun g3 => [cell g3 38 #[more]]) rfl (a_box (cs := #[more]) rfl rfl hmc) ?_; rintro g3
  refine h_q hflS rfl ?_
  refine h_done (d_reg ?_)
  refine h_q hflS rfl ?_
  refine h_act (post := fun g => [Tab 85 42 3 encU encI ltI g 200 ([]) ([]), cell g3 38 #[more]]) rfl (a_does (os' := fun g => [Tab 85 42 3 encU encI ltI g 200 ([]) ([]), cell g3 38 #[more]]) [] 0 (ent_of Try.func17 (by kernel_rfl) rfl) (new_uint64_int 200 (by decide)) rfl rfl rfl (fun _ => rfl) rfl rfl rfl) ?_; rintro g
  refine h_q hflS rfl ?_
  refine h_act (post := fun g5 => [cell g5 39 #[.pointer none], Tab 85 42 3 encU encI ltI g 200 ([]) ([]), cell g3 38 #[more]]) rfl (a_alloc ze_p_table_Table_of_uint64_int rfl) ?_; rintro g5
  refine h_acts (post := fun _ => [cell g5 39 #[.pointer (some ⟨g, 0, none⟩)], Tab 85 42 3 encU encI ltI g 200 ([]) ([]), cell g3 38 #[more]]) rfl rfl (a_store 0 (v := .pointer (some ⟨g, 0, none⟩)) #[.pointer (some ⟨g, 0, none⟩)] ty_p_table_Table_of_uint64_int.2 rfl rfl rfl rfl rfl rfl rfl rfl rfl) ?_; rintro ⟨⟩
  refine h_q hflS rfl ?_
  refine h_done (d_seq (d_reg ?_))
  refine h_q hflS rfl ?_
  refine h_act (post := fun _ => [cell g5 39 #[.pointer (some ⟨g, 0, none⟩)], Tab 85 42 3 encU encI ltI g 200 ([]) ([]), cell g3 38 #[more]]) rfl (a_call (ent_of Try.func11 (by kernel_rfl) rfl) (fun w hH => known_true w) rfl rfl rfl) ?_; rintro ⟨⟩
  refine h_q hflS rfl ?_
  refine h_val rfl (.bool false) (fun b w hb hH => exec_cmp rfl rfl rfl (cmp_neq_f (by decide)) hb) ?_
  refine h_q hflS rfl ?_
  refine h_val rfl (.pointer (some ⟨g, 0, none⟩)) (fun b w hb hH => exec_load rfl rfl (reads_one ty_p_table_Table_of_uint64_int rfl) (hH.row 0 rfl) hb) ?_
  refine h_val rfl (.bool false) (fun b w hb hH => exec_pnil_eql (by kernel_rfl) rfl rfl rfl hb) ?_
  refine h_q hflS rfl ?_
  refine h_done (d_else rfl (d_skip (f_to (d_seq (d_reg ?_)))))
  refine h_q hflS rfl ?_
  refine h_done (d_block ?_)
  refine d_loop (α := Nat × List Int × List Int) (fun ⟨i, K, V⟩ => [(0, sl), (3, .pointer (some ⟨g3, 0, none⟩)), (4, .bool false), (5, .pointer (some ⟨g5, 0, none⟩)), (7, .int .i64 ((i : Nat) : Int))]) (fun ⟨i, K, V⟩ => [cell g5 39 #[.pointer (some ⟨g, 0, none⟩)], Tab 85 42 3 encU encI ltI g 200 K V, cell g3 38 #[more]]) (fun ⟨i, K, V⟩ => i ≤ 80) (fun ⟨i, K, V⟩ => 81 - i) (0, [], []) (show 0 ≤ 80 by decide) ⟨rfl, rfl, rfl, rfl, rfl, trivial⟩ rfl ?_
  rintro ⟨i, K, V⟩ hI
  refine WC2.at_ (env' := [(0, sl), (3, .pointer (some ⟨g3, 0, none⟩)), (4, .bool false), (5, .pointer (some ⟨g5, 0, none⟩)), (7, .int .i64 ((i : Nat) : Int))]) (rs' := [cell g5 39 #[.pointer (some ⟨g, 0, none⟩)], Tab 85 42 3 encU encI ltI g 200 K V, cell g3 38 #[more]]) ⟨rfl, rfl, rfl, rfl, rfl, trivial⟩ rfl ?_
  have hI1 : i ≤ 80 := hI
  refine d_seq ?_
  have h3 : (i < l.length ∧ i < 80) ∨ ¬ i < l.length ∨ (i < l.length ∧ ¬ i < 80) := by omega
  rcases h3 with ⟨h4, h5⟩ | h4 | ⟨h4, h5⟩
  · skip
    obtain ⟨x, hx⟩ : ∃ x, l[i]? = some x := ⟨_, List.getElem?_eq_getElem h4⟩
    obtain ⟨r1, hr1⟩ : ∃ r1, x.k.tmod 30 = r1 := ⟨_, rfl⟩
    obtain ⟨⟨K2, V2, d⟩, hp⟩ : ∃ R, putT ltI 200 K V r1 x.v = R := ⟨_, rfl⟩
    refine d_reg ?_
    refine h_q hflS rfl ?_
    refine h_val rfl (.int .i64 (l.length : Int)) (fun b w hb hH => e_slen (arg_rd hl hH) Try.underlying38 rfl rfl hb) ?_
    refine h_val rfl (.bool true) (fun b w hb hH => exec_cmp rfl rfl rfl (cmp_lss_t (by omega)) hb) ?_
    refine h_q hflS rfl ?_
    refine h_val rfl (.bool true) (fun b w hb hH => exec_cmp rfl rfl rfl (cmp_lss_t (by omega)) hb) ?_
    refine h_q hflS rfl ?_
    refine h_done (d_then rfl (d_skip (f_to (d_seq (d_block ?_)))))
    refine d_parS 13 1 [⟨.quiet, [none], fun _ => .pointer (some ⟨g, 0, none⟩), []⟩, ⟨.quiet, [none], fun _ => sl, []⟩, ⟨.quiet, [none], fun _ => .int .i64 ((i : Nat) : Int), []⟩, ⟨.quiet, [none], fun _ => elp sl (i * 4), [1, 2]⟩, ⟨.quiet, [none], fun _ => elp sl (i * 4 + 1), [3]⟩, ⟨.quiet, [none], fun _ => .int .u64 x.k, [4]⟩, ⟨.quiet, [none], fun _ => .int .u64 r1, [5]⟩, ⟨.quiet, [none], fun _ => sl, []⟩, ⟨.quiet, [none], fun _ => .int .i64 ((i : Nat) : Int), []⟩, ⟨.quiet, [none], fun _ => elp sl (i * 4), [7, 8]⟩, ⟨.quiet, [none], fun _ => elp sl (i * 4 + 2), [9]⟩, ⟨.quiet, [none], fun _ => .int .i64 x.v, [10]⟩, ⟨.actv 0, [some false], fun _ => .bool d, [0, 6, 11]⟩] [(0, sl), (3, .pointer (some ⟨g3, 0, none⟩)), (4, .bool false), (5, .pointer (some ⟨g5, 0, none⟩)), (7, .int .i64 ((i : Nat) : Int)), (26, .int .i64 ((i : Nat) : Int)), (27, sl), (28, .int .i64 (l.length : Int)), (29, .bool true), (30, .bool true), (31, .int .i64 ((i : Nat) : Int)), (32, .bool true), (33, .bool true)] (fun ρ => match ρ with | [r0] => [cell g5 39 #[.pointer (some ⟨g, 0, none⟩)], selS r0 (fun _ => Tab 85 42 3 encU encI ltI g 200 K2 V2) (Tab 85 42 3 encU encI ltI g 200 K V), cell g3 38 #[more]] | _ => []) (by kernel_rfl) (by kernel_rfl) ⟨rfl, rfl, rfl, rfl, rfl, rfl, rfl, rfl, rfl, rfl, rfl, rfl, rfl, trivial⟩ rfl ?_ ?_
    · skip
      refine s_cons (by intro r0_; exact ⟨rfl, fun b w hH hb => exec_load rfl rfl (reads_one ty_p_table_Table_of_uint64_int rfl) (hH.row 0 rfl) hb⟩) ?_
      refine s_cons (by intro r0_; exact ⟨rfl, fun b w hH hb => exec_q1 hflS rfl hb⟩) ?_
      refine s_cons (by intro r0_; exact ⟨rfl, fun b w hH hb => exec_q1 hflS rfl hb⟩) ?_
      refine s_cons (by intro r0_; exact ⟨rfl, fun b w hH hb => e_sidx okT (arg_rd hl hH) sl_bursarlaw4_Step (j := i) hx rfl rfl rfl hb⟩) ?_
      refine s_cons (by intro r0_; exact ⟨rfl, fun b w hH hb => e_sfield okT (by decide) (arg_rd hl hH) (j := i) hx fd_bursarlaw4_Step_1 rfl rfl hb⟩) ?_
      refine s_cons (by intro r0_; exact ⟨rfl, fun b w hH hb => e_sload okT (by decide) (arg_rd hl hH) (j := i) hx ty_uint64 (off := 1) rfl rfl rfl hb⟩) ?_
      refine s_cons (by intro r0_; exact ⟨rfl, fun b w hH hb => exec_remI rfl rfl rfl (by decide) hr1 hb⟩) ?_
      refine s_cons (by intro r0_; exact ⟨rfl, fun b w hH hb => exec_q1 hflS rfl hb⟩) ?_
      refine s_cons (by intro r0_; exact ⟨rfl, fun b w hH hb => exec_q1 hflS rfl hb⟩) ?_
      refine s_cons (by intro r0_; exact ⟨rfl, fun b w hH hb => e_sidx okT (arg_rd hl hH) sl_bursarlaw4_Step (j := i) hx rfl rfl rfl hb⟩) ?_
      refine s_cons (by intro r0_; exact ⟨rfl, fun b w hH hb => e_sfield okT (by decide) (arg_rd hl hH) (j := i) hx fd_bursarlaw4_Step_2 rfl rfl hb⟩) ?_
      refine s_cons (by intro r0_; exact ⟨rfl, fun b w hH hb => e_sload okT (by decide) (arg_rd hl hH) (j := i) hx ty_int (off := 2) rfl rfl rfl hb⟩) ?_
      refine s_cons (by exact ⟨rfl, Acts.su (a_does (os' := fun _ => [cell g5 39 #[.pointer (some ⟨g, 0, none⟩)], Tab 85 42 3 encU encI ltI g 200 K2 V2, cell g3 38 #[more]]) [1] 0 (ent_of Try.func25 (by kernel_rfl) rfl) (put_uint64_int g 200 K V r1 x.v (K2, V2, d) hp) rfl rfl rfl (fun _ => rfl) rfl rfl rfl) rfl⟩) ?_
      exact s_nil
    intro v0_
    refine WL2.keep (env' := [(0, sl), (3, .pointer (some ⟨g3, 0, none⟩)), (4, .bool false), (5, .pointer (some ⟨g5, 0, none⟩)), (7, .int .i64 ((i : Nat) : Int)), (26, .int .i64 ((i : Nat) : Int)), (27, sl), (28, .int .i64 (l.length : Int)), (29, .bool true), (30, .bool true), (31, .int .i64 ((i : Nat) : Int)), (32, .bool true), (33, .bool true), (36, .pointer (some ⟨g, 0, none⟩)), (37, sl), (38, .int .i64 ((i : Nat) : Int)), (39, elp sl (i * 4)), (40, elp sl (i * 4 + 1)), (41, .int .u64 x.k), (42, .int .u64 r1), (43, sl), (44, .int .i64 ((i : Nat) : Int)), (45, elp sl (i * 4)), (46, elp sl (i * 4 + 2)), (47, .int .i64 x.v)]) ⟨rfl, rfl, rfl, rfl, rfl, rfl, rfl, rfl, rfl, rfl, rfl, rfl, rfl, rfl, rfl, rfl, rfl, rfl, rfl, rfl, rfl, rfl, rfl, rfl, rfl, trivial⟩ ?_
    refine h_nil (f_block (f_to (d_reg1 ?_)))
    refine h_q hflS rfl ?_
    refine h_val rfl (.int .i64 ((i + 1 : Nat) : Int)) (fun b w hb hH => exec_ar rfl rfl rfl rfl (by rw [IntWalk.i64_in _ (by omega)]; omega) hb) ?_
    refine h_q hflS rfl ?_
    refine h_nil ?_
    exact f_again (i + 1, K2, V2) 0 (show i + 1 ≤ 80 by omega) (show 81 - (i + 1) < 81 - i by omega) ⟨rfl, rfl, rfl, rfl, rfl, trivial⟩ rfl
  · skip
    refine WC2.fact 1 rfl Tab.ok ?_; rintro hT
    have hVK := hT.len
    have hKm := hT.le
    refine d_reg ?_
    refine h_q hflS rfl ?_
    refine h_val rfl (.int .i64 (l.length : Int)) (fun b w hb hH => e_slen (arg_rd hl hH) Try.underlying38 rfl rfl hb) ?_
    refine h_val rfl (.bool false) (fun b w hb hH => exec_cmp rfl rfl rfl (cmp_lss_f (by omega)) hb) ?_
    refine h_q hflS rfl ?_
    refine h_done (d_else rfl (d_exit (f_then_exit (f_then_exit (f_block_exit (f_to (d_reg ?_)))))))
    refine h_q hflS rfl ?_
    refine h_val rfl (.pointer (some ⟨g, 0, none⟩)) (fun b w hb hH => exec_load rfl rfl (reads_one ty_p_table_Table_of_uint64_int rfl) (hH.row 0 rfl) hb) ?_
    refine h_act (post := fun uk => [Vec 42 1 encU uk K, cell g5 39 #[.pointer (some ⟨g, 0, none⟩)], Tab 85 42 3 encU encI ltI g 200 K V, cell g3 38 #[more]]) rfl (a_does (os' := fun uk => [Vec 42 1 encU uk K, cell g5 39 #[.pointer (some ⟨g, 0, none⟩)], Tab 85 42 3 encU encI ltI g 200 K V, cell g3 38 #[more]]) [1] 0 (ent_of Try.func20 (by kernel_rfl) rfl) (keys_uint64_int g 200 K V) rfl rfl rfl (fun _ => rfl) rfl rfl rfl) ?_; rintro uk
    refine h_act (post := fun gk => [cell gk 44 #[.slice none 0 0], Vec 42 1 encU uk K, cell g5 39 #[.pointer (some ⟨g, 0, none⟩)], Tab 85 42 3 encU encI ltI g 200 K V, cell g3 38 #[more]]) rfl (a_alloc ze_s_uint64 rfl) ?_; rintro gk
    refine h_acts (post := fun _ => [cell gk 44 #[uk], Vec 42 1 encU uk K, cell g5 39 #[.pointer (some ⟨g, 0, none⟩)], Tab 85 42 3 encU encI ltI g 200 K V, cell g3 38 #[more]]) rfl rfl (a_storev 0 1 (v := uk) #[uk] ty_s_uint64.2 rfl (fun _ h => Vec.c1 h) rfl rfl rfl rfl rfl rfl rfl) ?_; rintro ⟨⟩
    refine h_done (d_reg ?_)
    refine h_q hflS rfl ?_
    refine h_val rfl (.pointer (some ⟨g, 0, none⟩)) (fun b w hb hH => exec_load rfl rfl (reads_one ty_p_table_Table_of_uint64_int rfl) (hH.row 2 rfl) hb) ?_
    refine h_act (post := fun uv => [Vec 3 1 encI uv V, cell gk 44 #[uk], Vec 42 1 encU uk K, cell g5 39 #[.pointer (some ⟨g, 0, none⟩)], Tab 85 42 3 encU encI ltI g 200 K V, cell g3 38 #[more]]) rfl (a_does (os' := fun uv => [Vec 3 1 encI uv V, cell gk 44 #[uk], Vec 42 1 encU uk K, cell g5 39 #[.pointer (some ⟨g, 0, none⟩)], Tab 85 42 3 encU encI ltI g 200 K V, cell g3 38 #[more]]) [3] 0 (ent_of Try.func21 (by kernel_rfl) rfl) (values_uint64_int g 200 K V) rfl rfl rfl (fun _ => rfl) rfl rfl rfl) ?_; rintro uv
    refine h_act (post := fun gv => [cell gv 45 #[.slice none 0 0], Vec 3 1 encI uv V, cell gk 44 #[uk], Vec 42 1 encU uk K, cell g5 39 #[.pointer (some ⟨g, 0, none⟩)], Tab 85 42 3 encU encI ltI g 200 K V, cell g3 38 #[more]]) rfl (a_alloc ze_s_int rfl) ?_; rintro gv
    refine h_acts (post := fun _ => [cell gv 45 #[uv], Vec 3 1 encI uv V, cell gk 44 #[uk], Vec 42 1 encU uk K, cell g5 39 #[.pointer (some ⟨g, 0, none⟩)], Tab 85 42 3 encU encI ltI g 200 K V, cell g3 38 #[more]]) rfl rfl (a_storev 0 1 (v := uv) #[uv] ty_s_int.2 rfl (fun _ h => Vec.c1 h) rfl rfl rfl rfl rfl rfl rfl) ?_; rintro ⟨⟩
    refine h_done (d_reg ?_)
    refine h_q hflS rfl ?_
    refine h_act (post := fun gn => [cell gn 3 #[.int .i64 0], cell gv 45 #[uv], Vec 3 1 encI uv V, cell gk 44 #[uk], Vec 42 1 encU uk K, cell g5 39 #[.pointer (some ⟨g, 0, none⟩)], Tab 85 42 3 encU encI ltI g 200 K V, cell g3 38 #[more]]) rfl (a_alloc ze_int rfl) ?_; rintro gn
    refine h_acts (post := fun _ => [cell gn 3 #[.int .i64 0], cell gv 45 #[uv], Vec 3 1 encI uv V, cell gk 44 #[uk], Vec 42 1 encU uk K, cell g5 39 #[.pointer (some ⟨g, 0, none⟩)], Tab 85 42 3 encU encI ltI g 200 K V, cell g3 38 #[more]]) rfl rfl (a_store 0 (v := .int .i64 0) #[.int .i64 0] ty_int.2 rfl rfl rfl rfl rfl rfl rfl rfl rfl) ?_; rintro ⟨⟩
    refine h_done (d_reg ?_)
    refine h_q hflS rfl ?_
    refine h_act (post := fun go => [cell go 4 #[.bool false], cell gn 3 #[.int .i64 0], cell gv 45 #[uv], Vec 3 1 encI uv V, cell gk 44 #[uk], Vec 42 1 encU uk K, cell g5 39 #[.pointer (some ⟨g, 0, none⟩)], Tab 85 42 3 encU encI ltI g 200 K V, cell g3 38 #[more]]) rfl (a_alloc ze_bool rfl) ?_; rintro go
    refine h_acts (post := fun _ => [cell go 4 #[.bool true], cell gn 3 #[.int .i64 0], cell gv 45 #[uv], Vec 3 1 encI uv V, cell gk 44 #[uk], Vec 42 1 encU uk K, cell g5 39 #[.pointer (some ⟨g, 0, none⟩)], Tab 85 42 3 encU encI ltI g 200 K V, cell g3 38 #[more]]) rfl rfl (a_store 0 (v := .bool true) #[.bool true] ty_bool.2 rfl rfl rfl rfl rfl rfl rfl rfl rfl) ?_; rintro ⟨⟩
    refine h_done ?_
    have hyy : ∀ j a c, j < K.length → (K.drop 0)[j]? = some a → (V.drop 0)[j]? = some c → DoesU w Try.prog 27 (([.int .u64 a, .int .i64 c] : List Value) ++ ([.pointer (some ⟨go, 0, none⟩), .pointer (some ⟨gn, 0, none⟩), .pointer (some ⟨gk, 0, none⟩), .pointer (some ⟨gv, 0, none⟩), .pointer (some ⟨g3, 0, none⟩), .pointer (some ⟨g5, 0, none⟩)] : List Value)).toArray [(Still g gk gv gn go g3 g5 more uk uv K V) j] (fun _ : Unit => .bool true) (fun _ : Unit => [(Still g gk gv gn go g3 g5 more uk uv K V) (j + 1)]) := fun j a c _ ha hc => still1 w g gk gv gn go g3 g5 more uk uv K V ms hm j a c ha hc (by omega) hVK
    refine d_reg ?_
    refine h_q hflS rfl ?_
    refine h_val rfl (.pointer (some ⟨g, 0, none⟩)) (fun b w hb hH => exec_load rfl rfl (reads_one ty_p_table_Table_of_uint64_int rfl) (hH.row 6 rfl) hb) ?_
    refine h_act (post := fun ga => [cell ga 39 #[.pointer (some ⟨g, 0, none⟩)], cell go 4 #[.bool true], cell gn 3 #[.int .i64 0], cell gv 45 #[uv], Vec 3 1 encI uv V, cell gk 44 #[uk], Vec 42 1 encU uk K, cell g5 39 #[.pointer (some ⟨g, 0, none⟩)], Tab 85 42 3 encU encI ltI g 200 K V, cell g3 38 #[more]]) rfl (a_does (os' := fun ga => [cell ga 39 #[.pointer (some ⟨g, 0, none⟩)], cell go 4 #[.bool true], cell gn 3 #[.int .i64 0], cell gv 45 #[uv], Vec 3 1 encI uv V, cell gk 44 #[uk], Vec 42 1 encU uk K, cell g5 39 #[.pointer (some ⟨g, 0, none⟩)], Tab 85 42 3 encU encI ltI g 200 K V, cell g3 38 #[more]]) [] 0 (ent_of Try.func26 (by kernel_rfl) rfl) (all_uint64_int g) rfl rfl rfl (fun _ => rfl) rfl rfl rfl) ?_; rintro ga
    refine h_close [7, 9, 5, 3, 2, 1, 6, 4] rfl (fun rs hz => (hz : StillR g gk gv gn go g3 g5 more uk uv K V 0 rs)) rfl ?_
    refine h_val rfl (.func (.func 27) #[] #[.pointer (some ⟨go, 0, none⟩), .pointer (some ⟨gn, 0, none⟩), .pointer (some ⟨gk, 0, none⟩), .pointer (some ⟨gv, 0, none⟩), .pointer (some ⟨g3, 0, none⟩), .pointer (some ⟨g5, 0, none⟩)]) (fun b w hb hH => e_func rfl rfl hb) ?_
    refine h_act (post := fun _ => [emp, cell ga 39 #[.pointer (some ⟨g, 0, none⟩)], Still g gk gv gn go g3 g5 more uk uv K V K.length]) rfl (a_doescU (Below.refl _ _) (fun _ h => h.elim) (os' := fun _ => [emp, cell ga 39 #[.pointer (some ⟨g, 0, none⟩)], Still g gk gv gn go g3 g5 more uk uv K V K.length]) (vs := [.func (.func 27) #[] #[.pointer (some ⟨go, 0, none⟩), .pointer (some ⟨gn, 0, none⟩), .pointer (some ⟨gk, 0, none⟩), .pointer (some ⟨gv, 0, none⟩), .pointer (some ⟨g3, 0, none⟩), .pointer (some ⟨g5, 0, none⟩)]]) (caps := [.pointer (some ⟨ga, 0, none⟩)]) [1, 2, 0] 0 (ent_of Try.func51 (by kernel_rfl) rfl) (all1U_uint64_int w g 200 K V ga 27 ([.pointer (some ⟨go, 0, none⟩), .pointer (some ⟨gn, 0, none⟩), .pointer (some ⟨gk, 0, none⟩), .pointer (some ⟨gv, 0, none⟩), .pointer (some ⟨g3, 0, none⟩), .pointer (some ⟨g5, 0, none⟩)] : List Value) (ent_of Try.func27 (by kernel_rfl) rfl) (StillR g gk gv gn go g3 g5 more uk uv K V 0) (Still g gk gv gn go g3 g5 more uk uv K V) (fun _ => true) K.length (by omega) (Still.mk_) (fun _ _ => rfl) (fun h => by omega) hyy) rfl rfl rfl (fun _ => rfl) rfl rfl rfl) ?_; rintro ⟨⟩
    refine WL2.leave [0] rfl rfl ?_
    refine h_done ?_
    refine d_open 1 rfl Still.open_ (fun _ => rfl) ?_; rintro ⟨K1, V1⟩
    refine WC2.keep (env' := [(0, sl), (3, .pointer (some ⟨g3, 0, none⟩)), (4, .bool false), (5, .pointer (some ⟨g5, 0, none⟩)), (7, .int .i64 ((i : Nat) : Int)), (26, .int .i64 ((i : Nat) : Int)), (27, sl), (28, .int .i64 (l.length : Int)), (29, .bool false), (30, .bool false), (31, undef), (32, undef), (33, .bool false), (49, .pointer (some ⟨g, 0, none⟩)), (50, uk), (8, .pointer (some ⟨gk, 0, none⟩)), (51, .pointer (some ⟨g, 0, none⟩)), (52, uv), (9, .pointer (some ⟨gv, 0, none⟩)), (10, .pointer (some ⟨gn, 0, none⟩)), (11, .pointer (some ⟨go, 0, none⟩)), (53, .pointer (some ⟨g, 0, none⟩)), (54, .func (.func 51) #[] #[.pointer (some ⟨ga, 0, none⟩)]), (55, .func (.func 27) #[] #[.pointer (some ⟨go, 0, none⟩), .pointer (some ⟨gn, 0, none⟩), .pointer (some ⟨gk, 0, none⟩), .pointer (some ⟨gv, 0, none⟩), .pointer (some ⟨g3, 0, none⟩), .pointer (some ⟨g5, 0, none⟩)]), (56, .tuple #[])]) ⟨rfl, rfl, rfl, rfl, rfl, rfl, rfl, rfl, rfl, rfl, rfl, rfl, rfl, rfl, rfl, rfl, rfl, rfl, rfl, rfl, rfl, rfl, rfl, rfl, rfl, trivial⟩ ?_
    refine WC2.mid [Tab 85 42 3 encU encI ltI g 200 K1 V1, cell g5 39 #[.pointer (some ⟨g, 0, none⟩)], cell g3 38 #[more], cell gk 44 #[uk], cell gv 45 #[uv], cell gn 3 #[.int .i64 ((K.length : Nat) : Int)], cell go 4 #[.bool true], Vec 42 1 encU uk K, Vec 3 1 encI uv V, cell ga 39 #[.pointer (some ⟨g, 0, none⟩)]] (.refl _) ?_
    refine d_reg ?_
    refine h_q hflS rfl ?_
    refine h_val rfl (.bool true) (fun b w hb hH => exec_load rfl rfl (reads_one ty_bool rfl) (hH.row 6 rfl) hb) ?_
    refine h_q hflS rfl ?_
    refine h_val rfl (.int .i64 ((K.length : Nat) : Int)) (fun b w hb hH => exec_load rfl rfl (reads_one ty_int rfl) (hH.row 5 rfl) hb) ?_
    refine h_val rfl (uk) (fun b w hb hH => exec_load rfl rfl (reads_one ty_s_uint64 rfl) (hH.row 3 rfl) hb) ?_
    refine h_val rfl (.int .i64 (K.length : Int)) (fun b w hb hH => e_vlen 7 Try.underlying44 rfl rfl rfl hH hb) ?_
    refine h_val rfl (.bool true) (fun b w hb hH => exec_cmp rfl rfl rfl (cmp_eql_t rfl) hb) ?_
    refine h_q hflS rfl ?_
    refine h_done (d_ret ?_)
    exact f_fin1 (.tmp rfl) (fun w h => ⟨rfl, below0 h.up⟩) rfl
  · skip
    refine WC2.fact 1 rfl Tab.ok ?_; rintro hT
    have hVK := hT.len
    have hKm := hT.le
    refine d_reg ?_
    refine h_q hflS rfl ?_
    refine h_val rfl (.int .i64 (l.length : Int)) (fun b w hb hH => e_slen (arg_rd hl hH) Try.underlying38 rfl rfl hb) ?_
    refine h_val rfl (.bool true) (fun b w hb hH => exec_cmp rfl rfl rfl (cmp_lss_t (by omega)) hb) ?_
    refine h_q hflS rfl ?_
    refine h_val rfl (.bool false) (fun b w hb hH => exec_cmp rfl rfl rfl (cmp_lss_f (by omega)) hb) ?_
    refine h_q hflS rfl ?_
    refine h_done (d_else rfl (d_exit (f_then_exit (f_then_exit (f_block_exit (f_to (d_reg ?_)))))))
    refine h_q hflS rfl ?_
    refine h_val rfl (.pointer (some ⟨g, 0, none⟩)) (fun b w hb hH => exec_load rfl rfl (reads_one ty_p_table_Table_of_uint64_int rfl) (hH.row 0 rfl) hb) ?_
    refine h_act (post := fun uk => [Vec 42 1 encU uk K, cell g5 39 #[.pointer (some ⟨g, 0, none⟩)], Tab 85 42 3 encU encI ltI g 200 K V, cell g3 38 #[more]]) rfl (a_does (os' := fun uk => [Vec 42 1 encU uk K, cell g5 39 #[.pointer (some ⟨g, 0, none⟩)], Tab 85 42 3 encU encI ltI g 200 K V, cell g3 38 #[more]]) [1] 0 (ent_of Try.func20 (by kernel_rfl) rfl) (keys_uint64_int g 200 K V) rfl rfl rfl (fun _ => rfl) rfl rfl rfl) ?_; rintro uk
    refine h_act (post := fun gk => [cell gk 44 #[.slice none 0 0], Vec 42 1 encU uk K, cell g5 39 #[.pointer (some ⟨g, 0, none⟩)], Tab 85 42 3 encU encI ltI g 200 K V, cell g3 38 #[more]]) rfl (a_alloc ze_s_uint64 rfl) ?_; rintro gk
    refine h_acts (post := fun _ => [cell gk 44 #[uk], Vec 42 1 encU uk K, cell g5 39 #[.pointer (some ⟨g, 0, none⟩)], Tab 85 42 3 encU encI ltI g 200 K V, cell g3 38 #[more]]) rfl rfl (a_storev 0 1 (v := uk) #[uk] ty_s_uint64.2 rfl (fun _ h => Vec.c1 h) rfl rfl rfl rfl rfl rfl rfl) ?_; rintro ⟨⟩
    refine h_done (d_reg ?_)
    refine h_q hflS rfl ?_
    refine h_val rfl (.pointer (some ⟨g, 0, none⟩)) (fun b w hb hH => exec_load rfl rfl (reads_one ty_p_table_Table_of_uint64_int rfl) (hH.row 2 rfl) hb) ?_
    refine h_act (post := fun uv => [Vec 3 1 encI uv V, cell gk 44 #[uk], Vec 42 1 encU uk K, cell g5 39 #[.pointer (some ⟨g, 0, none⟩)], Tab 85 42 3 encU encI ltI g 200 K V, cell g3 38 #[more]]) rfl (a_does (os' := fun uv => [Vec 3 1 encI uv V, cell gk 44 #[uk], Vec 42 1 encU uk K, cell g5 39 #[.pointer (some ⟨g, 0, none⟩)], Tab 85 42 3 encU encI ltI g 200 K V, cell g3 38 #[more]]) [3] 0 (ent_of Try.func21 (by kernel_rfl) rfl) (values_uint64_int g 200 K V) rfl rfl rfl (fun _ => rfl) rfl rfl rfl) ?_; rintro uv
    refine h_act (post := fun gv => [cell gv 45 #[.slice none 0 0], Vec 3 1 encI uv V, cell gk 44 #[uk], Vec 42 1 encU uk K, cell g5 39 #[.pointer (some ⟨g, 0, none⟩)], Tab 85 42 3 encU encI ltI g 200 K V, cell g3 38 #[more]]) rfl (a_alloc ze_s_int rfl) ?_; rintro gv
    refine h_acts (post := fun _ => [cell gv 45 #[uv], Vec 3 1 encI uv V, cell gk 44 #[uk], Vec 42 1 encU uk K, cell g5 39 #[.pointer (some ⟨g, 0, none⟩)], Tab 85 42 3 encU encI ltI g 200 K V, cell g3 38 #[more]]) rfl rfl (a_storev 0 1 (v := uv) #[uv] ty_s_int.2 rfl (fun _ h => Vec.c1 h) rfl rfl rfl rfl rfl rfl rfl) ?_; rintro ⟨⟩
    refine h_done (d_reg ?_)
    refine h_q hflS rfl ?_
    refine h_act (post := fun gn => [cell gn 3 #[.int .i64 0], cell gv 45 #[uv], Vec 3 1 encI uv V, cell gk 44 #[uk], Vec 42 1 encU uk K, cell g5 39 #[.pointer (some ⟨g, 0, none⟩)], Tab 85 42 3 encU encI ltI g 200 K V, cell g3 38 #[more]]) rfl (a_alloc ze_int rfl) ?_; rintro gn
    refine h_acts (post := fun _ => [cell gn 3 #[.int .i64 0], cell gv 45 #[uv], Vec 3 1 encI uv V, cell gk 44 #[uk], Vec 42 1 encU uk K, cell g5 39 #[.pointer (some ⟨g, 0, none⟩)], Tab 85 42 3 encU encI ltI g 200 K V, cell g3 38 #[more]]) rfl rfl (a_store 0 (v := .int .i64 0) #[.int .i64 0] ty_int.2 rfl rfl rfl rfl rfl rfl rfl rfl rfl) ?_; rintro ⟨⟩
    refine h_done (d_reg ?_)
    refine h_q hflS rfl ?_
    refine h_act (post := fun go => [cell go 4 #[.bool false], cell gn 3 #[.int .i64 0], cell gv 45 #[uv], Vec 3 1 encI uv V, cell gk 44 #[uk], Vec 42 1 encU uk K, cell g5 39 #[.pointer (some ⟨g, 0, none⟩)], Tab 85 42 3 encU encI ltI g 200 K V, cell g3 38 #[more]]) rfl (a_alloc ze_bool rfl) ?_; rintro go
    refine h_acts (post := fun _ => [cell go 4 #[.bool true], cell gn 3 #[.int .i64 0], cell gv 45 #[uv], Vec 3 1 encI uv V, cell gk 44 #[uk], Vec 42 1 encU uk K, cell g5 39 #[.pointer (some ⟨g, 0, none⟩)], Tab 85 42 3 encU encI ltI g 200 K V, cell g3 38 #[more]]) rfl rfl (a_store 0 (v := .bool true) #[.bool true] ty_bool.2 rfl rfl rfl rfl rfl rfl rfl rfl rfl) ?_; rintro ⟨⟩
    refine h_done ?_
    have hyy : ∀ j a c, j < K.length → (K.drop 0)[j]? = some a → (V.drop 0)[j]? = some c → DoesU w Try.prog 27 (([.int .u64 a, .int .i64 c] : List Value) ++ ([.pointer (some ⟨go, 0, none⟩), .pointer (some ⟨gn, 0, none⟩), .pointer (some ⟨gk, 0, none⟩), .pointer (some ⟨gv, 0, none⟩), .pointer (some ⟨g3, 0, none⟩), .pointer (some ⟨g5, 0, none⟩)] : List Value)).toArray [(Still g gk gv gn go g3 g5 more uk uv K V) j] (fun _ : Unit => .bool true) (fun _ : Unit => [(Still g gk gv gn go g3 g5 more uk uv K V) (j + 1)]) := fun j a c _ ha hc => still1 w g gk gv gn go g3 g5 more uk uv K V ms hm j a c ha hc (by omega) hVK
    refine d_reg ?_
    refine h_q hflS rfl ?_
    refine h_val rfl (.pointer (some ⟨g, 0, none⟩)) (fun b w hb hH => exec_load rfl rfl (reads_one ty_p_table_Table_of_uint64_int rfl) (hH.row 6 rfl) hb) ?_
    refine h_act (post := fun ga => [cell ga 39 #[.pointer (some ⟨g, 0, none⟩)], cell go 4 #[.bool true], cell gn 3 #[.int .i64 0], cell gv 45 #[uv], Vec 3 1 encI uv V, cell gk 44 #[uk], Vec 42 1 encU uk K, cell g5 39 #[.pointer (some ⟨g, 0, none⟩)], Tab 85 42 3 encU encI ltI g 200 K V, cell g3 38 #[more]]) rfl (a_does (os' := fun ga => [cell ga 39 #[.pointer (some ⟨g, 0, none⟩)], cell go 4 #[.bool true], cell gn 3 #[.int .i64 0], cell gv 45 #[uv], Vec 3 1 encI uv V, cell gk 44 #[uk], Vec 42 1 encU uk K, cell g5 39 #[.pointer (some ⟨g, 0, none⟩)], Tab 85 42 3 encU encI ltI g 200 K V, cell g3 38 #[more]]) [] 0 (ent_of Try.func26 (by kernel_rfl) rfl) (all_uint64_int g) rfl rfl rfl (fun _ => rfl) rfl rfl rfl) ?_; rintro ga
    refine h_close [7, 9, 5, 3, 2, 1, 6, 4] rfl (fun rs hz => (hz : StillR g gk gv gn go g3 g5 more uk uv K V 0 rs)) rfl ?_
    refine h_val rfl (.func (.func 27) #[] #[.pointer (some ⟨go, 0, none⟩), .pointer (some ⟨gn, 0, none⟩), .pointer (some ⟨gk, 0, none⟩), .pointer (some ⟨gv, 0, none⟩), .pointer (some ⟨g3, 0, none⟩), .pointer (some ⟨g5, 0, none⟩)]) (fun b w hb hH => e_func rfl rfl hb) ?_
    refine h_act (post := fun _ => [emp, cell ga 39 #[.pointer (some ⟨g, 0, none⟩)], Still g gk gv gn go g3 g5 more uk uv K V K.length]) rfl (a_doescU (Below.refl _ _) (fun _ h => h.elim) (os' := fun _ => [emp, cell ga 39 #[.pointer (some ⟨g, 0, none⟩)], Still g gk gv gn go g3 g5 more uk uv K V K.length]) (vs := [.func (.func 27) #[] #[.pointer (some ⟨go, 0, none⟩), .pointer (some ⟨gn, 0, none⟩), .pointer (some ⟨gk, 0, none⟩), .pointer (some ⟨gv, 0, none⟩), .pointer (some ⟨g3, 0, none⟩), .pointer (some ⟨g5, 0, none⟩)]]) (caps := [.pointer (some ⟨ga, 0, none⟩)]) [1, 2, 0] 0 (ent_of Try.func51 (by kernel_rfl) rfl) (all1U_uint64_int w g 200 K V ga 27 ([.pointer (some ⟨go, 0, none⟩), .pointer (some ⟨gn, 0, none⟩), .pointer (some ⟨gk, 0, none⟩), .pointer (some ⟨gv, 0, none⟩), .pointer (some ⟨g3, 0, none⟩), .pointer (some ⟨g5, 0, none⟩)] : List Value) (ent_of Try.func27 (by kernel_rfl) rfl) (StillR g gk gv gn go g3 g5 more uk uv K V 0) (Still g gk gv gn go g3 g5 more uk uv K V) (fun _ => true) K.length (by omega) (Still.mk_) (fun _ _ => rfl) (fun h => by omega) hyy) rfl rfl rfl (fun _ => rfl) rfl rfl rfl) ?_; rintro ⟨⟩
    refine WL2.leave [0] rfl rfl ?_
    refine h_done ?_
    refine d_open 1 rfl Still.open_ (fun _ => rfl) ?_; rintro ⟨K1, V1⟩
    refine WC2.keep (env' := [(0, sl), (3, .pointer (some ⟨g3, 0, none⟩)), (4, .bool false), (5, .pointer (some ⟨g5, 0, none⟩)), (7, .int .i64 ((i : Nat) : Int)), (26, .int .i64 ((i : Nat) : Int)), (27, sl), (28, .int .i64 (l.length : Int)), (29, .bool true), (30, .bool true), (31, .int .i64 ((i : Nat) : Int)), (32, .bool false), (33, .bool false), (49, .pointer (some ⟨g, 0, none⟩)), (50, uk), (8, .pointer (some ⟨gk, 0, none⟩)), (51, .pointer (some ⟨g, 0, none⟩)), (52, uv), (9, .pointer (some ⟨gv, 0, none⟩)), (10, .pointer (some ⟨gn, 0, none⟩)), (11, .pointer (some ⟨go, 0, none⟩)), (53, .pointer (some ⟨g, 0, none⟩)), (54, .func (.func 51) #[] #[.pointer (some ⟨ga, 0, none⟩)]), (55, .func (.func 27) #[] #[.pointer (some ⟨go, 0, none⟩), .pointer (some ⟨gn, 0, none⟩), .pointer (some ⟨gk, 0, none⟩), .pointer (some ⟨gv, 0, none⟩), .pointer (some ⟨g3, 0, none⟩), .pointer (some ⟨g5, 0, none⟩)]), (56, .tuple #[])]) ⟨rfl, rfl, rfl, rfl, rfl, rfl, rfl, rfl, rfl, rfl, rfl, rfl, rfl, rfl, rfl, rfl, rfl, rfl, rfl, rfl, rfl, rfl, rfl, rfl, rfl, trivial⟩ ?_
    refine WC2.mid [Tab 85 42 3 encU encI ltI g 200 K1 V1, cell g5 39 #[.pointer (some ⟨g, 0, none⟩)], cell g3 38 #[more], cell gk 44 #[uk], cell gv 45 #[uv], cell gn 3 #[.int .i64 ((K.length : Nat) : Int)], cell go 4 #[.bool true], Vec 42 1 encU uk K, Vec 3 1 encI uv V, cell ga 39 #[.pointer (some ⟨g, 0, none⟩)]] (.refl _) ?_
    refine d_reg ?_
    refine h_q hflS rfl ?_
    refine h_val rfl (.bool true) (fun b w hb hH => exec_load rfl rfl (reads_one ty_bool rfl) (hH.row 6 rfl) hb) ?_
    refine h_q hflS rfl ?_
    refine h_val rfl (.int .i64 ((K.length : Nat) : Int)) (fun b w hb hH => exec_load rfl rfl (reads_one ty_int rfl) (hH.row 5 rfl) hb) ?_
    refine h_val rfl (uk) (fun b w hb hH => exec_load rfl rfl (reads_one ty_s_uint64 rfl) (hH.row 3 rfl) hb) ?_
    refine h_val rfl (.int .i64 (K.length : Int)) (fun b w hb hH => e_vlen 7 Try.underlying44 rfl rfl rfl hH hb) ?_
    refine h_val rfl (.bool true) (fun b w hb hH => exec_cmp rfl rfl rfl (cmp_eql_t rfl) hb) ?_
    refine h_q hflS rfl ?_
    refine h_done (d_ret ?_)
    exact f_fin1 (.tmp rfl) (fun w h => ⟨rfl, below0 h.up⟩) rfl
end Go.Proofs.Ytmlfgdedhhmkpaa.Sep
