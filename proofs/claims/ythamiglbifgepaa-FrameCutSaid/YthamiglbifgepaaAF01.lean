/-
  FrmB
-/
import Derived.Test.YthamiglbifgepaaAB02
import Derived.Test.YthamiglbifgepaaAE03
set_option linter.unusedSimpArgs false
set_option linter.unusedVariables false

namespace Go.Proofs.Ythamiglbifgepaa.Sep
open Go.RowKit
open Go.Proofs.Ythamiglbifgepaa.Mem (Dist Blk Chg below0)

theorem frames_sum : ∀ (ps : List (List UInt8)) (n : Nat), (∀ x, x ∈ ps → x.length ≤ n) → n ≤ 65536 → (framesL ps).length ≤ ps.length * (8 + n)
  | [], _, _, _ => by simp [framesL]
  | x :: r, n, h, hn => by
    have h1 := h x (List.mem_cons_self ..)
    have h2 := frames_sum r n (fun y hy => h y (List.mem_cons_of_mem _ hy)) hn
    rw [frames_cons, List.length_append, frame_len (by omega), List.length_cons, Nat.succ_mul]
    omega
theorem frames_take {ps : List (List UInt8)} {i : Nat} {x : List UInt8} (h : ps[i]? = some x) : framesL (ps.take i) ++ frameL x = framesL (ps.take (i + 1)) := by rw [← take_pushP h, frames_push]
theorem frames_short {ps : List (List UInt8)} (h : ShortL 50 2000 ps) (i : Nat) : (framesL (ps.take i)).length ≤ 100400 := by
  have h1 := frames_sum (ps.take i) 2000 (h.take i).2 (by decide)
  have h2 := (h.take i).1
  omega
theorem frames_all {ps : List (List UInt8)} (h : ShortL 50 2000 ps) : listL (framesL ps) = (ps, (framesL ps).length) := by
  have h1 := list_frames ps (fun x hx => by have := h.2 x hx; omega) []
  rw [List.append_nil] at h1
  rw [h1]
  simp [listL, listF]

set_option maxRecDepth 100000 in
theorem frameback_true (w : World) (v0 : Value) (l0 : List PtV) (hv0 : PtsRd w v0 l0) (hl0 : l0.length ≤ 9223372036854775807) (hd0 : ∀ x, x ∈ l0 → x.d.length ≤ 140737488351232) : Calls Try.prog 5 #[v0] w fun e w' => e = .returned (.bool true) ∧ Below w.heap.size w w' := by
  refine d_in (args := [v0]) 50 Try.func5 rfl rfl rfl ?_
  refine d_reg ?_
  refine h_q hflS rfl ?_
  refine h_done (d_reg ?_)
  refine h_q hflS rfl ?_
  refine h_done (d_reg ?_)
  refine h_q hflS rfl ?_
  refine h_act (post := fun (x0 : PsV) => [PartsT 23 x0.v x0.l, fact (x0.l.map (·.2) = ((l0.map (·.d)).take 50).map (·.take 2000))]) rfl (a_doesU (Below.refl _ _) (fun _ h => h.elim) (os' := fun (x0 : PsV) => [PartsT 23 x0.v x0.l, fact (x0.l.map (·.2) = ((l0.map (·.d)).take 50).map (·.take 2000))]) [] 0 (ent_of Try.func15 (by kernel_rfl) rfl) (short_does w v0 l0 hv0 hl0 hd0 50 2000 (by decide) (by decide)) rfl rfl rfl (fun _ => rfl) rfl rfl rfl) ?_; rintro x0
  refine WL2.fact 1 rfl (fun _ h => h.2) ?_; rintro hx0
  refine WL2.leave [1] rfl rfl ?_
  have hs0 := short_of hx0
  obtain ⟨P0, hP0⟩ : ∃ P, x0.l.map (·.2) = P := ⟨_, rfl⟩
  rw [hP0] at hs0
  have hf0 := hs0.flat
  have hn0 : P0.length = x0.l.length := by rw [← hP0, List.length_map]
  refine h_q hflS rfl ?_
  refine h_done (d_seq (d_reg ?_))
  refine h_q hflS rfl ?_
  refine h_done (d_block ?_)
  refine d_nilvec 5 1 encB ?_
  refine d_loop (α := Nat × Value) (fun ⟨i, bv⟩ => [(2, .bool false), (3, bv), (0, x0.v), (4, .int .i64 ((i : Nat) : Int))]) (fun ⟨i, bv⟩ => [Vec 5 1 encB bv (framesL (P0.take i)), PartsT 23 x0.v x0.l]) (fun ⟨i, bv⟩ => i ≤ x0.l.length) (fun ⟨i, bv⟩ => x0.l.length - i) (0, .slice none 0 0) (Nat.zero_le _) ⟨rfl, rfl, rfl, rfl, trivial⟩ rfl ?_
  rintro ⟨i, bv⟩ hI
  refine WC2.at_ (env' := [(2, .bool false), (3, bv), (0, x0.v), (4, .int .i64 ((i : Nat) : Int))]) (rs' := [Vec 5 1 encB bv (framesL (P0.take i)), PartsT 23 x0.v x0.l]) ⟨rfl, rfl, rfl, rfl, trivial⟩ rfl ?_
  have hbl := frames_short hs0 i
  refine d_seq ?_
  have hc : i < x0.l.length ∨ x0.l.length ≤ i := by omega
  rcases hc with hi | hi
  · skip
    obtain ⟨y0, hy0⟩ : ∃ y, x0.l[i]? = some y := ⟨_, List.getElem?_eq_getElem hi⟩
    have hyP : P0[i]? = some y0.2 := by rw [← hP0, List.getElem?_map, hy0]; rfl
    have hyl := hs0.2 _ (List.mem_of_getElem? hyP)
    have hfl : (frameL y0.2).length = 8 + y0.2.length := frame_len (by omega)
    have hi50 := hs0.1
    refine d_reg ?_
    refine h_q hflS rfl ?_
    refine h_val rfl (.int .i64 (x0.l.length : Int)) (fun b w hb hH => e_plen 1 Try.underlying25 rfl rfl rfl hH hb) ?_
    refine h_val rfl (.bool true) (fun b w hb hH => exec_cmp rfl rfl rfl (cmp_lss_t (by omega)) hb) ?_
    refine h_done (d_then rfl (d_skip (f_to (d_seq (d_block (d_reg ?_))))))
    refine h_q hflS rfl ?_
    refine h_val rfl (elp x0.v (i * 1)) (fun b w hb hH => e_pidx 1 sl_s_uint8 rfl i hi rfl rfl rfl hH hb) ?_
    refine h_val rfl (y0.1) (fun b w hb hH => e_pload 1 ty_s_uint8 rfl i hy0 rfl rfl hH hb) ?_
    refine h_act (post := fun fv => [Vec 5 1 encB fv (frameL y0.2), Vec 5 1 encB bv (framesL (P0.take i)), PartsT 23 x0.v x0.l]) rfl (a_does (os' := fun fv => [Vec 5 1 encB fv (frameL y0.2), Vec 5 1 encB bv (framesL (P0.take i)), PartsT 23 x0.v x0.l]) [1] 0 (ent_of Try.func9 (by kernel_rfl) rfl) (frame_does (prt_rd8f hy0) (by omega) rfl) rfl rfl rfl (fun _ => rfl) rfl rfl rfl) ?_; rintro fv
    refine h_q hflS rfl ?_
    refine h_done (d_seq (d_reg ?_))
    refine h_q hflS rfl ?_
    refine h_val rfl (.int .i64 ((frameL y0.2).length : Int)) (fun b w hb hH => e_vlen 0 Try.underlying23 rfl rfl rfl hH hb) ?_
    refine h_q hflS rfl ?_
    refine h_val rfl (elp x0.v (i * 1)) (fun b w hb hH => e_pidx 2 sl_s_uint8 rfl i hi rfl rfl rfl hH hb) ?_
    refine h_val rfl (y0.1) (fun b w hb hH => e_pload 2 ty_s_uint8 rfl i hy0 rfl rfl hH hb) ?_
    refine h_val rfl (.int .i64 (y0.2.length : Int)) (fun b w hb hH => e_slen ((hH.rd8 2 rfl (prt_rd8f hy0)).rd) Try.underlying23 rfl rfl hb) ?_
    refine h_val rfl (.int .i64 ((y0.2.length + 8 : Nat) : Int)) (fun b w hb hH => exec_ar rfl rfl rfl rfl (by rw [IntWalk.i64_in _ (by omega)]; omega) hb) ?_
    refine h_val rfl (.bool false) (fun b w hb hH => exec_cmp rfl rfl rfl (cmp_neq_f (by omega)) hb) ?_
    refine h_done (d_else rfl (d_skip (f_to (d_reg1 ?_))))
    refine h_q hflS rfl ?_
    refine h_act (post := fun b2 => [Vec 5 1 encB fv (frameL y0.2), Vec 5 1 encB b2 (framesL (P0.take (i + 1))), PartsT 23 x0.v x0.l]) rfl (a_append8 1 sl_uint8 (by kernel_rfl) rfl (frameL y0.2) (fun w hH => hH.vec 0 rfl okB) (by omega) rfl rfl rfl (frames_take hyP)) ?_; rintro b2
    refine h_q hflS rfl ?_
    refine h_nil (f_block (f_to ?_))
    refine WC2.leave [0] rfl rfl ?_
    refine d_reg1 ?_
    refine h_q hflS rfl ?_
    refine h_val rfl (.int .i64 ((i + 1 : Nat) : Int)) (fun b w hb hH => exec_ar rfl rfl rfl rfl (by rw [IntWalk.i64_in _ (by omega)]; omega) hb) ?_
    refine h_q hflS rfl ?_
    refine h_nil ?_
    exact f_again (i + 1, b2) 0 hi (show x0.l.length - (i + 1) < x0.l.length - i by omega) ⟨rfl, rfl, rfl, rfl, trivial⟩ rfl
  · skip
    have hp : P0.take i = P0 := List.take_of_length_le (by omega)
    rw [hp]
    rw [hp] at hbl
    refine d_reg ?_
    refine h_q hflS rfl ?_
    refine h_val rfl (.int .i64 (x0.l.length : Int)) (fun b w hb hH => e_plen 1 Try.underlying25 rfl rfl rfl hH hb) ?_
    refine h_val rfl (.bool false) (fun b w hb hH => exec_cmp rfl rfl rfl (cmp_lss_f (by omega)) hb) ?_
    refine h_done (d_else rfl (d_exit (f_then_exit (f_then_exit (f_block_exit (f_to (d_reg ?_)))))))
    refine h_q hflS rfl ?_
    refine h_act (post := fun (x : PsV) => [PartsT 23 x.v x.l, fact (x.l.map (·.2) = P0), Vec 5 1 encB bv (framesL P0), PartsT 23 x0.v x0.l]) rfl (a_does (os' := fun (x : PsV) => [PartsT 23 x.v x.l, fact (x.l.map (·.2) = P0), Vec 5 1 encB bv (framesL P0), PartsT 23 x0.v x0.l]) [0] 0 (ent_of Try.func12 (by kernel_rfl) rfl) (list_does rd8_vec (by omega) (frames_all hs0)) rfl rfl rfl (fun _ => rfl) rfl rfl rfl) ?_; rintro x
    refine WL2.fact 1 rfl (fun _ h => h.2) ?_; rintro hl
    refine WL2.leave [1] rfl rfl ?_
    refine h_q hflS rfl ?_
    refine h_done ?_
    have hl_ := hl
    have hs50 := hs0.1
    refine d_reg ?_
    refine h_q hflS rfl ?_
    refine h_act (post := fun _ => [PartsT 23 x.v x.l, Vec 5 1 encB bv (framesL P0), PartsT 23 x0.v x0.l]) rfl (a_call (ent_of Try.func8 (by kernel_rfl) rfl) (fun w hH => known8_true w) rfl rfl rfl) ?_; rintro ⟨⟩
    refine h_q hflS rfl ?_
    refine h_act (post := fun _ => [PartsT 23 x.v x.l, Vec 5 1 encB bv (framesL P0), PartsT 23 x0.v x0.l]) rfl (a_does (os' := fun _ => [PartsT 23 x.v x.l, Vec 5 1 encB bv (framesL P0), PartsT 23 x0.v x0.l]) [0, 2] 0 (ent_of Try.func14 (by kernel_rfl) rfl) (same_does rdPs_all rdPs_all (by have := congrArg List.length hl_; simp only [List.length_map] at this ⊢; omega) (by rw [ptOf_ds, ptOf_ds, hl_, hP0, beq_self_eq_true])) rfl rfl rfl (fun _ => rfl) rfl rfl rfl) ?_; rintro ⟨⟩
    refine h_q hflS rfl ?_
    refine h_val rfl (.int .i64 ((framesL P0).length : Int)) (fun b w hb hH => e_vlen 1 Try.underlying23 rfl rfl rfl hH hb) ?_
    refine h_val rfl (.bool true) (fun b w hb hH => exec_cmp rfl rfl rfl (cmp_eql_t (by rfl)) hb) ?_
    refine h_q hflS rfl ?_
    refine h_done (d_ret ?_)
    exact f_fin1 (.tmp rfl) (fun w h => ⟨rfl, below0 h.up⟩) rfl

def endsF (Q : List (List UInt8)) : List Int := (List.range Q.length).map fun k => (((framesL (Q.take (k + 1))).length : Nat) : Int)
theorem endsF_len (Q : List (List UInt8)) : (endsF Q).length = Q.length := by simp [endsF]
theorem endsF_push (Q : List (List UInt8)) (b : List UInt8) : endsF Q ++ [((framesL (Q ++ [b])).length : Int)] = endsF (Q ++ [b]) := by
  unfold endsF
  rw [List.length_append, List.length_singleton, List.range_succ, List.map_append]
  congr 1
  · refine List.map_congr_left fun k hk => ?_
    have := List.mem_range.1 hk
    rw [List.take_append_of_le_length (by omega)]
  · rw [List.map_singleton, List.take_of_length_le (by simp)]
theorem endsF_at {Q : List (List UInt8)} {j : Nat} (h : j < Q.length) : (endsF Q)[j]? = some (((framesL (Q.take (j + 1))).length : Nat) : Int) := by
  unfold endsF
  rw [List.getElem?_map, List.getElem?_range h]; rfl
theorem endsF_next {Q : List (List UInt8)} {i : Nat} {b : List UInt8} (h : Q[i]? = some b) : endsF (Q.take i) ++ [((framesL (Q.take (i + 1))).length : Int)] = endsF (Q.take (i + 1)) := by
  rw [← take_pushP h, endsF_push]

set_option maxRecDepth 100000 in
theorem framecut_true (w : World) (v0 : Value) (l0 : List PtV) (hv0 : PtsRd w v0 l0) (hl0 : l0.length ≤ 9223372036854775807) (hd0 : ∀ x, x ∈ l0 → x.d.length ≤ 140737488351232) (cut : Int) (hct : -9223372036854775808 ≤ cut ∧ cut ≤ 9223372036854775807) : Calls Try.prog 6 #[v0, .int .i64 cut] w fun e w' => e = .returned (.bool true) ∧ Below w.heap.size w w' := by
  refine d_in (args := [v0, .int .i64 cut]) 75 Try.func6 rfl rfl rfl ?_
  refine d_reg ?_
  refine h_q hflS rfl ?_
  refine h_done (d_reg ?_)
  refine h_q hflS rfl ?_
  refine h_done (d_reg ?_)
  refine h_q hflS rfl ?_
  refine h_act (post := fun (x0 : PsV) => [PartsT 23 x0.v x0.l, fact (x0.l.map (·.2) = ((l0.map (·.d)).take 50).map (·.take 2000))]) rfl (a_doesU (Below.refl _ _) (fun _ h => h.elim) (os' := fun (x0 : PsV) => [PartsT 23 x0.v x0.l, fact (x0.l.map (·.2) = ((l0.map (·.d)).take 50).map (·.take 2000))]) [] 0 (ent_of Try.func15 (by kernel_rfl) rfl) (short_does w v0 l0 hv0 hl0 hd0 50 2000 (by decide) (by decide)) rfl rfl rfl (fun _ => rfl) rfl rfl rfl) ?_; rintro x0
  refine WL2.fact 1 rfl (fun _ h => h.2) ?_; rintro hx0
  refine WL2.leave [1] rfl rfl ?_
  have hs0 := short_of hx0
  obtain ⟨P0, hP0⟩ : ∃ P, x0.l.map (·.2) = P := ⟨_, rfl⟩
  rw [hP0] at hs0
  have hf0 := hs0.flat
  have hn0 : P0.length = x0.l.length := by rw [← hP0, List.length_map]
  refine h_q hflS rfl ?_
  refine h_done (d_reg ?_)
  refine h_q hflS rfl ?_
  refine h_done (d_seq (d_reg ?_))
  refine h_q hflS rfl ?_
  refine h_done (d_block ?_)
  refine d_nilvec 5 1 encB ?_
  refine d_nilvec 3 1 encI ?_
  refine d_loop (α := Nat × Value × Value) (fun ⟨i, bv, eu⟩ => [(1, .int .i64 cut), (4, .bool false), (5, bv), (0, x0.v), (6, eu), (7, .int .i64 ((i : Nat) : Int))]) (fun ⟨i, bv, eu⟩ => [Vec 3 1 encI eu (endsF (P0.take i)), Vec 5 1 encB bv (framesL (P0.take i)), PartsT 23 x0.v x0.l]) (fun ⟨i, bv, eu⟩ => i ≤ x0.l.length) (fun ⟨i, bv, eu⟩ => x0.l.length - i) (0, .slice none 0 0, .slice none 0 0) (Nat.zero_le _) ⟨rfl, rfl, rfl, rfl, rfl, rfl, trivial⟩ rfl ?_
  rintro ⟨i, bv, eu⟩ hI
  refine WC2.at_ (env' := [(1, .int .i64 cut), (4, .bool false), (5, bv), (0, x0.v), (6, eu), (7, .int .i64 ((i : Nat) : Int))]) (rs' := [Vec 3 1 encI eu (endsF (P0.take i)), Vec 5 1 encB bv (framesL (P0.take i)), PartsT 23 x0.v x0.l]) ⟨rfl, rfl, rfl, rfl, rfl, rfl, trivial⟩ rfl ?_
  have hbl := frames_short hs0 i
  have hel := endsF_len (P0.take i)
  have hs50 := hs0.1
  rw [List.length_take] at hel
  refine d_seq ?_
  have hc : i < x0.l.length ∨ x0.l.length ≤ i := by omega
  rcases hc with hi | hi
  · skip
    obtain ⟨y0, hy0⟩ : ∃ y, x0.l[i]? = some y := ⟨_, List.getElem?_eq_getElem hi⟩
    have hyP : P0[i]? = some y0.2 := by rw [← hP0, List.getElem?_map, hy0]; rfl
    have hyl := hs0.2 _ (List.mem_of_getElem? hyP)
    have hfl : (frameL y0.2).length = 8 + y0.2.length := frame_len (by omega)
    have hi50 := hs0.1
    have hlen1 : ((framesL (P0.take i)) ++ frameL y0.2).length = (framesL (P0.take (i + 1))).length := by rw [frames_take hyP]
    refine d_reg ?_
    refine h_q hflS rfl ?_
    refine h_val rfl (.int .i64 (x0.l.length : Int)) (fun b w hb hH => e_plen 2 Try.underlying25 rfl rfl rfl hH hb) ?_
    refine h_val rfl (.bool true) (fun b w hb hH => exec_cmp rfl rfl rfl (cmp_lss_t (by omega)) hb) ?_
    refine h_done (d_then rfl (d_skip (f_to (d_seq (d_block (d_reg ?_))))))
    refine h_q hflS rfl ?_
    refine h_val rfl (elp x0.v (i * 1)) (fun b w hb hH => e_pidx 2 sl_s_uint8 rfl i hi rfl rfl rfl hH hb) ?_
    refine h_val rfl (y0.1) (fun b w hb hH => e_pload 2 ty_s_uint8 rfl i hy0 rfl rfl hH hb) ?_
    refine h_act (post := fun fv => [Vec 5 1 encB fv (frameL y0.2), Vec 3 1 encI eu (endsF (P0.take i)), Vec 5 1 encB bv (framesL (P0.take i)), PartsT 23 x0.v x0.l]) rfl (a_does (os' := fun fv => [Vec 5 1 encB fv (frameL y0.2), Vec 3 1 encI eu (endsF (P0.take i)), Vec 5 1 encB bv (framesL (P0.take i)), PartsT 23 x0.v x0.l]) [2] 0 (ent_of Try.func9 (by kernel_rfl) rfl) (frame_does (prt_rd8f hy0) (by omega) rfl) rfl rfl rfl (fun _ => rfl) rfl rfl rfl) ?_; rintro fv
    refine h_act (post := fun b2 => [Vec 5 1 encB fv (frameL y0.2), Vec 3 1 encI eu (endsF (P0.take i)), Vec 5 1 encB b2 (framesL (P0.take (i + 1))), PartsT 23 x0.v x0.l]) rfl (a_append8 2 sl_uint8 (by kernel_rfl) rfl (frameL y0.2) (fun w hH => hH.vec 0 rfl okB) (by omega) rfl rfl rfl (frames_take hyP)) ?_; rintro b2
    refine h_q hflS rfl ?_
    refine h_done (d_reg1 ?_)
    refine h_q hflS rfl ?_
    refine h_val rfl (.int .i64 ((framesL (P0.take (i + 1))).length : Int)) (fun b w hb hH => e_vlen 2 Try.underlying23 rfl rfl rfl hH hb) ?_
    refine h_act (X := Value) (val := fun v : Value => v) (post := fun eb => [Vec 3 1 encI eb ([((framesL (P0.take (i + 1))).length : Int)]), Vec 5 1 encB fv (frameL y0.2), Vec 3 1 encI eu (endsF (P0.take i)), Vec 5 1 encB b2 (framesL (P0.take (i + 1))), PartsT 23 x0.v x0.l]) rfl (by refine a_build1 (e := 3) (t := 33) (enc := encI) (x := .tmp 29) (c := .int .i64 ((framesL (P0.take (i + 1))).length : Int)) ?_ ?_ ((framesL (P0.take (i + 1))).length : Int) ?_ ?_ ?_; exact sl_int; exact okI; exact rfl; exact rfl; exact rfl) ?_; rintro eb
    refine h_act (post := fun eu2 => [Vec 3 1 encI eb ([((framesL (P0.take (i + 1))).length : Int)]), Vec 5 1 encB fv (frameL y0.2), Vec 3 1 encI eu2 (endsF (P0.take (i + 1))), Vec 5 1 encB b2 (framesL (P0.take (i + 1))), PartsT 23 x0.v x0.l]) rfl (a_append 2 sl_int okI rfl ([((framesL (P0.take (i + 1))).length : Int)]) (fun w hH => hH.vec 0 rfl okI) (by simp only [List.length_cons, List.length_nil]; omega) rfl rfl rfl (endsF_next hyP)) ?_; rintro eu2
    refine h_q hflS rfl ?_
    refine h_nil (f_block (f_to ?_))
    refine WC2.leave [1, 0] rfl rfl ?_
    refine d_reg1 ?_
    refine h_q hflS rfl ?_
    refine h_val rfl (.int .i64 ((i + 1 : Nat) : Int)) (fun b w hb hH => exec_ar rfl rfl rfl rfl (by rw [IntWalk.i64_in _ (by omega)]; omega) hb) ?_
    refine h_q hflS rfl ?_
    refine h_nil ?_
    exact f_again (i + 1, b2, eu2) 0 hi (show x0.l.length - (i + 1) < x0.l.length - i by omega) ⟨rfl, rfl, rfl, rfl, rfl, rfl, trivial⟩ rfl
  · skip
    have hp : P0.take i = P0 := List.take_of_length_le (by omega)
    rw [hp]
    rw [hp] at hbl
    obtain ⟨k, hk_⟩ : ∃ k : Nat, cut % (((framesL P0).length : Int) + 1) = (k : Int) := ⟨(cut % (((framesL P0).length : Int) + 1)).toNat, by have := Int.emod_nonneg cut (show ((framesL P0).length : Int) + 1 ≠ 0 by omega); omega⟩
    have hk : k ≤ (framesL P0).length := by have := Int.emod_lt_of_pos cut (show 0 < ((framesL P0).length : Int) + 1 by omega); omega
    have heP := endsF_len P0
    refine d_reg ?_
    refine h_q hflS rfl ?_
    refine h_val rfl (.int .i64 (x0.l.length : Int)) (fun b w hb hH => e_plen 2 Try.underlying25 rfl rfl rfl hH hb) ?_
    refine h_val rfl (.bool false) (fun b w hb hH => exec_cmp rfl rfl rfl (cmp_lss_f (by omega)) hb) ?_
    refine h_done (d_else rfl (d_exit (f_then_exit (f_then_exit (f_block_exit (f_to (d_reg ?_)))))))
    refine h_q hflS rfl ?_
    refine h_val rfl (.int .i64 ((framesL P0).length : Int)) (fun b w hb hH => e_vlen 1 Try.underlying23 rfl rfl rfl hH hb) ?_
    refine h_val rfl (.int .i64 (((framesL P0).length : Int) + 1)) (fun b w hb hH => exec_ar rfl rfl rfl rfl (IntWalk.i64_in _ (by omega)) hb) ?_
    refine h_act (post := fun _ => [Vec 3 1 encI eu (endsF P0), Vec 5 1 encB bv (framesL P0), PartsT 23 x0.v x0.l]) rfl (a_call (ent_of Try.func11 (by kernel_rfl) rfl) (fun w hH => pick w cut (((framesL P0).length : Int) + 1) hct (by omega) hk_) rfl rfl rfl) ?_; rintro ⟨⟩
    refine h_q hflS rfl ?_
    refine h_done (d_reg ?_)
    refine h_q hflS rfl ?_
    refine h_done (d_reg ?_)
    refine h_q hflS rfl ?_
    refine h_done (d_seq (d_block ?_))
    refine d_loop (α := Nat × Int) (fun ⟨n, e⟩ => [(4, .bool false), (5, bv), (0, x0.v), (6, eu), (1, .int .i64 (k : Int)), (8, .int .i64 ((n : Nat) : Int)), (9, .int .i64 e)]) (fun ⟨n, e⟩ => [Vec 3 1 encI eu (endsF P0), Vec 5 1 encB bv (framesL P0), PartsT 23 x0.v x0.l]) (fun ⟨n, e⟩ => n ≤ P0.length ∧ e = ((framesL (P0.take n)).length : Int) ∧ (framesL (P0.take n)).length ≤ k) (fun ⟨n, e⟩ => P0.length - n) (0, 0) ⟨Nat.zero_le _, rfl, Nat.zero_le _⟩ ⟨rfl, rfl, rfl, rfl, rfl, rfl, rfl, trivial⟩ rfl ?_
    rintro ⟨n, e⟩ hJ
    refine WC2.at_ (env' := [(4, .bool false), (5, bv), (0, x0.v), (6, eu), (1, .int .i64 (k : Int)), (8, .int .i64 ((n : Nat) : Int)), (9, .int .i64 e)]) (rs' := [Vec 3 1 encI eu (endsF P0), Vec 5 1 encB bv (framesL P0), PartsT 23 x0.v x0.l]) ⟨rfl, rfl, rfl, rfl, rfl, rfl, rfl, trivial⟩ rfl ?_
    have hn1 := hJ.1
    have hn2 := hJ.2.1
    have hn3 := hJ.2.2
    refine d_seq ?_
    have hc : (n < P0.length ∧ (framesL (P0.take (n + 1))).length ≤ k) ∨ (n < P0.length ∧ k < (framesL (P0.take (n + 1))).length) ∨ P0.length ≤ n := by omega
    rcases hc with ⟨hn4, hn5⟩ | ⟨hn4, hn5⟩ | hn4
    · skip
      refine d_reg ?_
      refine h_q hflS rfl ?_
      refine h_val rfl (.int .i64 (x0.l.length : Int)) (fun b w hb hH => e_plen 2 Try.underlying25 rfl rfl rfl hH hb) ?_
      refine h_val rfl (.bool true) (fun b w hb hH => exec_cmp rfl rfl rfl (cmp_lss_t (by omega)) hb) ?_
      refine h_q hflS rfl ?_
      refine h_val rfl (elp eu (n * 1)) (fun b w hb hH => e_vidx 0 sl_int okI rfl n (by omega) rfl rfl rfl hH hb) ?_
      refine h_val rfl (.int .i64 (((framesL (P0.take (n + 1))).length : Nat) : Int)) (fun b w hb hH => e_vload1 0 ty_int okI rfl n (a := (((framesL (P0.take (n + 1))).length : Nat) : Int)) (endsF_at hn4) rfl rfl rfl hH hb) ?_
      refine h_q hflS rfl ?_
      refine h_val rfl (.bool true) (fun b w hb hH => exec_cmp rfl rfl rfl (cmp_leq_t (by omega)) hb) ?_
      refine h_q hflS rfl ?_
      refine h_done (d_then rfl (d_skip (f_to (d_block (d_reg ?_)))))
      refine h_q hflS rfl ?_
      refine h_val rfl (elp eu (n * 1)) (fun b w hb hH => e_vidx 0 sl_int okI rfl n (by omega) rfl rfl rfl hH hb) ?_
      refine h_val rfl (.int .i64 (((framesL (P0.take (n + 1))).length : Nat) : Int)) (fun b w hb hH => e_vload1 0 ty_int okI rfl n (a := (((framesL (P0.take (n + 1))).length : Nat) : Int)) (endsF_at hn4) rfl rfl rfl hH hb) ?_
      refine h_q hflS rfl ?_
      refine h_done (d_reg1 ?_)
      refine h_q hflS rfl ?_
      refine h_val rfl (.int .i64 ((n + 1 : Nat) : Int)) (fun b w hb hH => exec_ar rfl rfl rfl rfl (by rw [IntWalk.i64_in _ (by omega)]; omega) hb) ?_
      refine h_q hflS rfl ?_
      refine h_nil (f_block ?_)
      exact f_again (n + 1, (((framesL (P0.take (n + 1))).length : Nat) : Int)) 0 ⟨hn4, rfl, hn5⟩ (show P0.length - (n + 1) < P0.length - n by omega) ⟨rfl, rfl, rfl, rfl, rfl, rfl, rfl, trivial⟩ rfl
    · skip
      have hcut : listL ((framesL P0).take k) = (P0.take n, (framesL (P0.take n)).length) := list_cut P0 (fun x hx => by have := hs0.2 x hx; omega) n k hn1 hn3 (by omega) (fun _ => hn5)
      refine d_reg ?_
      refine h_q hflS rfl ?_
      refine h_val rfl (.int .i64 (x0.l.length : Int)) (fun b w hb hH => e_plen 2 Try.underlying25 rfl rfl rfl hH hb) ?_
      refine h_val rfl (.bool true) (fun b w hb hH => exec_cmp rfl rfl rfl (cmp_lss_t (by omega)) hb) ?_
      refine h_q hflS rfl ?_
      refine h_val rfl (elp eu (n * 1)) (fun b w hb hH => e_vidx 0 sl_int okI rfl n (by omega) rfl rfl rfl hH hb) ?_
      refine h_val rfl (.int .i64 (((framesL (P0.take (n + 1))).length : Nat) : Int)) (fun b w hb hH => e_vload1 0 ty_int okI rfl n (a := (((framesL (P0.take (n + 1))).length : Nat) : Int)) (endsF_at hn4) rfl rfl rfl hH hb) ?_
      refine h_q hflS rfl ?_
      refine h_val rfl (.bool false) (fun b w hb hH => exec_cmp rfl rfl rfl (cmp_leq_f (by omega)) hb) ?_
      refine h_q hflS rfl ?_
      refine h_done (d_else rfl (d_exit (f_then_exit (f_then_exit (f_block_exit (f_to (d_reg ?_)))))))
      refine h_q hflS rfl ?_
      refine h_val rfl (subv 1 bv 0 k) (fun b w hb hH => e_vsub_hi 1 (b := k) sl_uint8 rfl hk rfl rfl rfl hH hb) ?_
      refine h_act (post := fun (x : PsV) => [PartsT 23 x.v x.l, fact (x.l.map (·.2) = P0.take n), Vec 3 1 encI eu (endsF P0), Vec 5 1 encB bv (framesL P0), PartsT 23 x0.v x0.l]) rfl (a_does (os' := fun (x : PsV) => [PartsT 23 x.v x.l, fact (x.l.map (·.2) = P0.take n), Vec 3 1 encI eu (endsF P0), Vec 5 1 encB bv (framesL P0), PartsT 23 x0.v x0.l]) [1] 0 (ent_of Try.func12 (by kernel_rfl) rfl) (list_does (rd8_cut7 hk rfl) (by rw [List.length_take]; omega) hcut) rfl rfl rfl (fun _ => rfl) rfl rfl rfl) ?_; rintro x
      refine WL2.fact 1 rfl (fun _ h => h.2) ?_; rintro hl
      refine WL2.leave [1] rfl rfl ?_
      refine h_q hflS rfl ?_
      refine h_done ?_
      have hl_ := hl
      refine d_reg ?_
      refine h_q hflS rfl ?_
      refine h_act (post := fun _ => [PartsT 23 x.v x.l, Vec 3 1 encI eu (endsF P0), Vec 5 1 encB bv (framesL P0), PartsT 23 x0.v x0.l]) rfl (a_call (ent_of Try.func8 (by kernel_rfl) rfl) (fun w hH => known8_true w) rfl rfl rfl) ?_; rintro ⟨⟩
      refine h_q hflS rfl ?_
      refine h_val rfl (subv 1 x0.v 0 n) (fun b w hb hH => e_psub_hi 3 (b := n) sl_s_uint8 rfl (by omega) rfl rfl rfl hH hb) ?_
      refine h_act (post := fun _ => [PartsT 23 x.v x.l, Vec 3 1 encI eu (endsF P0), Vec 5 1 encB bv (framesL P0), PartsT 23 x0.v x0.l]) rfl (a_does (os' := fun _ => [PartsT 23 x.v x.l, Vec 3 1 encI eu (endsF P0), Vec 5 1 encB bv (framesL P0), PartsT 23 x0.v x0.l]) [0, 3] 0 (ent_of Try.func14 (by kernel_rfl) rfl) (same_does rdPs_all (rdPs_take (by omega)) (by have := congrArg List.length hl_; simp only [List.length_map, List.length_take] at this ⊢; omega) (by rw [ptOf_ds, ptOf_ds, hl_, List.map_take, hP0, beq_self_eq_true])) rfl rfl rfl (fun _ => rfl) rfl rfl rfl) ?_; rintro ⟨⟩
      refine h_q hflS rfl ?_
      refine h_val rfl (.bool true) (fun b w hb hH => exec_cmp rfl rfl rfl (cmp_eql_t (by rw [hn2])) hb) ?_
      refine h_q hflS rfl ?_
      refine h_done (d_ret ?_)
      exact f_fin1 (.tmp rfl) (fun w h => ⟨rfl, below0 h.up⟩) rfl
    · skip
      have hcut : listL ((framesL P0).take k) = (P0.take n, (framesL (P0.take n)).length) := list_cut P0 (fun x hx => by have := hs0.2 x hx; omega) n k hn1 hn3 (by omega) (fun h => absurd h (by omega))
      refine d_reg ?_
      refine h_q hflS rfl ?_
      refine h_val rfl (.int .i64 (x0.l.length : Int)) (fun b w hb hH => e_plen 2 Try.underlying25 rfl rfl rfl hH hb) ?_
      refine h_val rfl (.bool false) (fun b w hb hH => exec_cmp rfl rfl rfl (cmp_lss_f (by omega)) hb) ?_
      refine h_q hflS rfl ?_
      refine h_done (d_else rfl (d_exit (f_then_exit (f_then_exit (f_block_exit (f_to (d_reg ?_)))))))
      refine h_q hflS rfl ?_
      refine h_val rfl (subv 1 bv 0 k) (fun b w hb hH => e_vsub_hi 1 (b := k) sl_uint8 rfl hk rfl rfl rfl hH hb) ?_
      refine h_act (post := fun (x : PsV) => [PartsT 23 x.v x.l, fact (x.l.map (·.2) = P0.take n), Vec 3 1 encI eu (endsF P0), Vec 5 1 encB bv (framesL P0), PartsT 23 x0.v x0.l]) rfl (a_does (os' := fun (x : PsV) => [PartsT 23 x.v x.l, fact (x.l.map (·.2) = P0.take n), Vec 3 1 encI eu (endsF P0), Vec 5 1 encB bv (framesL P0), PartsT 23 x0.v x0.l]) [1] 0 (ent_of Try.func12 (by kernel_rfl) rfl) (list_does (rd8_cut7 hk rfl) (by rw [List.length_take]; omega) hcut) rfl rfl rfl (fun _ => rfl) rfl rfl rfl) ?_; rintro x
      refine WL2.fact 1 rfl (fun _ h => h.2) ?_; rintro hl
      refine WL2.leave [1] rfl rfl ?_
      refine h_q hflS rfl ?_
      refine h_done ?_
      have hl_ := hl
      refine d_reg ?_
      refine h_q hflS rfl ?_
      refine h_act (post := fun _ => [PartsT 23 x.v x.l, Vec 3 1 encI eu (endsF P0), Vec 5 1 encB bv (framesL P0), PartsT 23 x0.v x0.l]) rfl (a_call (ent_of Try.func8 (by kernel_rfl) rfl) (fun w hH => known8_true w) rfl rfl rfl) ?_; rintro ⟨⟩
      refine h_q hflS rfl ?_
      refine h_val rfl (subv 1 x0.v 0 n) (fun b w hb hH => e_psub_hi 3 (b := n) sl_s_uint8 rfl (by omega) rfl rfl rfl hH hb) ?_
      refine h_act (post := fun _ => [PartsT 23 x.v x.l, Vec 3 1 encI eu (endsF P0), Vec 5 1 encB bv (framesL P0), PartsT 23 x0.v x0.l]) rfl (a_does (os' := fun _ => [PartsT 23 x.v x.l, Vec 3 1 encI eu (endsF P0), Vec 5 1 encB bv (framesL P0), PartsT 23 x0.v x0.l]) [0, 3] 0 (ent_of Try.func14 (by kernel_rfl) rfl) (same_does rdPs_all (rdPs_take (by omega)) (by have := congrArg List.length hl_; simp only [List.length_map, List.length_take] at this ⊢; omega) (by rw [ptOf_ds, ptOf_ds, hl_, List.map_take, hP0, beq_self_eq_true])) rfl rfl rfl (fun _ => rfl) rfl rfl rfl) ?_; rintro ⟨⟩
      refine h_q hflS rfl ?_
      refine h_val rfl (.bool true) (fun b w hb hH => exec_cmp rfl rfl rfl (cmp_eql_t (by rw [hn2])) hb) ?_
      refine h_q hflS rfl ?_
      refine h_done (d_ret ?_)
      exact f_fin1 (.tmp rfl) (fun w h => ⟨rfl, below0 h.up⟩) rfl
end Go.Proofs.Ythamiglbifgepaa.Sep
