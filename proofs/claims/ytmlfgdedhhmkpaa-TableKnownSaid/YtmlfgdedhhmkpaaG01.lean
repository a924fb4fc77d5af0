/-
  TabN · TabX · Law
-/
import Derived.Test.YtmlfgdedhhmkpaaA01
import Derived.Test.YtmlfgdedhhmkpaaE01
import Derived.Test.YtmlfgdedhhmkpaaF01
import Derived.Test.YtmlfgdedhhmkpaaRows
import Derived.ProofKit
import Derived.OpenShut
import Derived.JoinedCond
set_option linter.unusedSimpArgs false
set_option linter.unusedVariables false

namespace Go.Proofs.Ytmlfgdedhhmkpaa.Sep
open Go.RowKit
open Go.Proofs.Ytmlfgdedhhmkpaa.Mem (Dist Blk Chg below0)

set_option maxRecDepth 100000 in
theorem tellY_string_int (L : Nat) (r : Loop) (p : Nat) (m : Int) (K : List (List UInt8)) (V : List (Int)) (at_ : Nat) (ha : at_ ≤ K.length) (R : Ass) (Inv : Nat → Ass) (hI0 : ∀ rs, Parts [Tab 73 9 3 encS encI ltS p m K V, R] rs → Inv 0 rs) (hsz : 2 = r.params.size) (hy : ∀ j a b, (K.drop at_)[j]? = some a → (V.drop at_)[j]? = some b → DoesR L (.loop r) Try.prog r.fn ((r.params.zip ([.string (bs a), .int .i64 b] : List Value).toArray).foldl (fun tmps (t, a) => tmps.setIfInBounds t a) r.tmps) r.assign r.body [Inv j] [Inv (j + 1)]) : DoesL L (.loop r) Try.prog 39 #[.pointer (some ⟨p, 0, none⟩), .int .i64 (at_ : Int), .func (.yield L) #[] #[]] [Tab 73 9 3 encS encI ltS p m K V, R] (fun (_ : Unit) => .tuple #[]) (fun (_ : Unit) => [Inv ((K.drop at_).length)]) := by
  refine d_insL (args := [.pointer (some ⟨p, 0, none⟩), .int .i64 (at_ : Int), .func (.yield L) #[] #[]]) 42 Try.func39 rfl rfl rfl ?_; intro w rs hU hS
  refine WC2.fact 0 rfl Tab.ok ?_; rintro hT
  have hVK := hT.len
  have hKm := hT.le
  have hm4 := hT.lim
  refine d_seq (d_reg ?_)
  refine h_q hflS rfl ?_
  refine h_val rfl (.bool false) (fun b w hb hH => exec_fnil_eqlY Try.underlying30 rfl rfl rfl hb) ?_
  refine h_done (d_else rfl (d_skip (f_to ?_)))
  refine d_open 0 rfl Tab.open_ (fun _ => rfl) ?_; rintro ⟨⟨kv, vv⟩, hT0⟩
  refine WC2.keep (env' := [(0, .pointer (some ⟨p, 0, none⟩)), (1, .int .i64 (at_ : Int)), (2, .func (.yield L) #[] #[]), (10, .func (.yield L) #[] #[]), (11, .bool false)]) ⟨rfl, rfl, rfl, rfl, rfl, trivial⟩ ?_
  refine WC2.mid [cell p 73 #[.int .i64 m, kv, vv], Vec 9 1 encS kv K, Vec 3 1 encI vv V, R] (.refl _) ?_
  refine d_seq ?_
  refine d_emps 2 rfl ?_
  refine d_parS 14 2 [⟨.quiet, [none, none], fun _ => .pointer (some ⟨p, 0, none⟩), []⟩, ⟨.quiet, [none, none], fun _ => .pointer (some ⟨p, 0, none⟩), [0]⟩, ⟨.quiet, [none, none], fun _ => .pointer (some ⟨p, 1, none⟩), [1]⟩, ⟨.quiet, [none, none], fun _ => kv, [2]⟩, ⟨.quiet, [none, none], fun _ => .int .i64 (at_ : Int), []⟩, ⟨.quiet, [none, none], fun _ => subv 1 kv at_ K.length, [3, 4]⟩, ⟨.act 0, [some false, some false], fun _ => undef, [5]⟩, ⟨.quiet, [none, none], fun _ => .pointer (some ⟨p, 0, none⟩), []⟩, ⟨.quiet, [none, none], fun _ => .pointer (some ⟨p, 0, none⟩), [7]⟩, ⟨.quiet, [none, none], fun _ => .pointer (some ⟨p, 2, none⟩), [8]⟩, ⟨.quiet, [none, none], fun _ => vv, [9]⟩, ⟨.quiet, [none, none], fun _ => .int .i64 (at_ : Int), []⟩, ⟨.quiet, [none, none], fun _ => subv 1 vv at_ V.length, [10, 11]⟩, ⟨.act 1, [some true, some false], fun _ => undef, [12]⟩] [(0, .pointer (some ⟨p, 0, none⟩)), (1, .int .i64 (at_ : Int)), (2, .func (.yield L) #[] #[])] (fun ρ => match ρ with | [r0, r1] => [selS r1 (fun uv => Vec 3 1 encI uv (V.drop at_)) (emp), selS r0 (fun uk => Vec 9 1 encS uk (K.drop at_)) (emp), cell p 73 #[.int .i64 m, kv, vv], Vec 9 1 encS kv K, Vec 3 1 encI vv V, R] | _ => []) (by kernel_rfl) (by kernel_rfl) ⟨rfl, rfl, rfl, trivial⟩ rfl ?_ ?_
  · skip
    refine s_cons (by intro r0_ r1_; exact ⟨rfl, fun b w hH hb => exec_q1 hflS rfl hb⟩) ?_
    refine s_cons (by intro r0_ r1_; exact ⟨rfl, fun b w hH hb => by exact exec_nilCheck rfl rfl hb⟩) ?_
    refine s_cons (by intro r0_ r1_; exact ⟨rfl, fun b w hH hb => exec_q1 hflS rfl hb⟩) ?_
    refine s_cons (by intro r0_ r1_; exact ⟨rfl, fun b w hH hb => exec_load rfl rfl (reads_one ty_s_string rfl) (hH.row 2 rfl) hb⟩) ?_
    refine s_cons (by intro r0_ r1_; exact ⟨rfl, fun b w hH hb => exec_q1 hflS rfl hb⟩) ?_
    refine s_cons (by intro r0_ r1_; exact ⟨rfl, fun b w hH hb => e_vsub_lo 3 (a := at_) sl_string rfl ha rfl rfl rfl hH hb⟩) ?_
    refine s_cons (by exact ⟨rfl, Acts.s (a_does (os' := fun uk => [emp, Vec 9 1 encS uk (K.drop at_), cell p 73 #[.int .i64 m, kv, vv], Vec 9 1 encS kv K, Vec 3 1 encI vv V, R]) [3, 1] 1 (ent_of Try.func54 (by kernel_rfl) rfl) (clone_string (Vec 9 1 encS kv K) (subv 1 kv at_ K.length) (K.drop at_) (rd_sub okS (by omega) (Nat.le_refl _) (by simp)) (by simp; omega)) rfl rfl rfl (fun _ => rfl) rfl rfl rfl) (fun _ => rfl)⟩) ?_
    refine s_cons (by intro r0_ r1_; exact ⟨rfl, fun b w hH hb => exec_q1 hflS rfl hb⟩) ?_
    refine s_cons (by intro r0_ r1_; exact ⟨rfl, fun b w hH hb => by exact exec_nilCheck rfl rfl hb⟩) ?_
    refine s_cons (by intro r0_ r1_; exact ⟨rfl, fun b w hH hb => exec_q1 hflS rfl hb⟩) ?_
    refine s_cons (by intro r0_ r1_; exact ⟨rfl, fun b w hH hb => exec_load rfl rfl (reads_one ty_s_int rfl) (hH.row 2 rfl) hb⟩) ?_
    refine s_cons (by intro r0_ r1_; exact ⟨rfl, fun b w hH hb => exec_q1 hflS rfl hb⟩) ?_
    refine s_cons (by intro r0_ r1_; exact ⟨rfl, fun b w hH hb => e_vsub_lo 4 (a := at_) sl_int rfl (by omega) rfl rfl rfl hH hb⟩) ?_
    refine s_cons (by intro uk; exact ⟨rfl, Acts.s (a_does (os' := fun uv => [Vec 3 1 encI uv (V.drop at_), Vec 9 1 encS uk (K.drop at_), cell p 73 #[.int .i64 m, kv, vv], Vec 9 1 encS kv K, Vec 3 1 encI vv V, R]) [4, 0] 1 (ent_of Try.func46 (by kernel_rfl) rfl) (clone_int (Vec 3 1 encI vv V) (subv 1 vv at_ V.length) (V.drop at_) (rd_sub okI (by omega) (Nat.le_refl _) (by simp)) (by simp; omega)) rfl rfl rfl (fun _ => rfl) rfl rfl rfl) (fun _ => rfl)⟩) ?_
    exact s_nil
  intro uk uv
  refine WL2.keep (env' := [(2, .func (.yield L) #[] #[]), (18, uk), (25, uv)]) ⟨rfl, rfl, rfl, trivial⟩ ?_
  refine h_q hflS rfl ?_
  refine h_nil (f_to ?_)
  refine d_close [2, 3, 4] rfl (fun rs hz => Tab.mk_ hT hz) rfl ?_
  refine d_close [0, 3] rfl hI0 rfl ?_
  have hdl : (K.drop at_).length = K.length - at_ := by simp
  have hdl2 : (V.drop at_).length = V.length - at_ := by simp
  refine d_reg ?_
  refine h_q hflS rfl ?_
  refine h_val rfl (.int .i64 ((K.drop at_).length : Int)) (fun b w hb hH => e_vlen 2 Try.underlying65 rfl rfl rfl hH hb) ?_
  refine h_q hflS rfl ?_
  refine h_done (d_block ?_)
  refine d_loop (α := Nat) (fun j => [(2, .func (.yield L) #[] #[]), (7, uv), (26, uk), (27, .int .i64 ((K.drop at_).length : Int)), (28, .int .i64 ((j : Nat) : Int))]) (fun j => [Inv j, Vec 3 1 encI uv (V.drop at_), Vec 9 1 encS uk (K.drop at_)]) (fun j => j ≤ (K.drop at_).length) (fun j => (K.drop at_).length - j) 0 (Nat.zero_le _) ⟨rfl, rfl, rfl, rfl, rfl, trivial⟩ rfl ?_
  rintro j hI
  refine WC2.at_ (env' := [(2, .func (.yield L) #[] #[]), (7, uv), (26, uk), (27, .int .i64 ((K.drop at_).length : Int)), (28, .int .i64 ((j : Nat) : Int))]) (rs' := [Inv j, Vec 3 1 encI uv (V.drop at_), Vec 9 1 encS uk (K.drop at_)]) ⟨rfl, rfl, rfl, rfl, rfl, trivial⟩ rfl ?_
  rcases Nat.lt_or_ge j (K.drop at_).length with hn | hn
  · skip
    obtain ⟨x, hx⟩ : ∃ x, (K.drop at_)[j]? = some x := ⟨_, List.getElem?_eq_getElem hn⟩
    obtain ⟨y, hy2⟩ : ∃ y, (V.drop at_)[j]? = some y := ⟨_, List.getElem?_eq_getElem (show j < (V.drop at_).length by omega)⟩
    have hyj := hy j x y hx hy2
    refine d_reg ?_
    refine h_q hflS rfl ?_
    refine h_val rfl (.bool true) (fun b w hb hH => exec_cmp rfl rfl rfl (cmp_lss_t (by omega)) hb) ?_
    refine h_done (d_seq (d_then rfl (d_skip (f_to (d_seq (d_block (d_reg ?_)))))))
    refine h_q hflS rfl ?_
    refine h_val rfl (elp uk (j * 1)) (fun b w hb hH => e_vidx 2 sl_string okS rfl j hn rfl rfl rfl hH hb) ?_
    refine h_val rfl (.string (bs x)) (fun b w hb hH => e_vload1 2 ty_string okS rfl j (a := x) hx rfl rfl rfl hH hb) ?_
    refine h_q hflS rfl ?_
    refine h_done (d_regY 6 (by rintro ⟨a, w, x, he, _⟩; cases he) ?_)
    refine h_q hflS rfl ?_
    refine h_val rfl (elp uv (j * 1)) (fun b w hb hH => e_vidx 1 sl_int okI rfl j (by omega) rfl rfl rfl hH hb) ?_
    refine h_val rfl (.int .i64 y) (fun b w hb hH => e_vload1 1 ty_int okI rfl j (a := y) hy2 rfl rfl rfl hH hb) ?_
    refine h_nil (f_yield ?_)
    refine i_yield (os' := [Inv (j + 1), Vec 3 1 encI uv (V.drop at_), Vec 9 1 encS uk (K.drop at_)]) hU hS [0] (hyj) hsz rfl rfl rfl rfl rfl rfl rfl ?_
    refine i_rest (by rintro ⟨a, w, x, he, _⟩; cases he) ?_
    refine h_q hflS rfl ?_
    refine h_done (d_else rfl (d_skip (f_block (f_to (d_reg1 ?_)))))
    refine h_q hflS rfl ?_
    refine h_val rfl (.int .i64 ((j + 1 : Nat) : Int)) (fun b w hb hH => exec_ar rfl rfl rfl rfl (by rw [IntWalk.i64_in _ (by omega)]; omega) hb) ?_
    refine h_q hflS rfl ?_
    refine h_nil ?_
    exact f_again (j + 1) 0 hn (by omega) ⟨rfl, rfl, rfl, rfl, rfl, trivial⟩ rfl
  · skip
    obtain rfl : j = (K.drop at_).length := by omega
    refine d_reg ?_
    refine h_q hflS rfl ?_
    refine h_val rfl (.bool false) (fun b w hb hH => exec_cmp rfl rfl rfl (cmp_lss_f (by omega)) hb) ?_
    refine h_done (d_seq (d_else rfl (d_exit (f_then_exit (f_then_exit (f_block_exit ?_))))))
    exact f_fin0n  (fun w h => tells () rfl [0] rfl h same_parts) rfl

set_option maxRecDepth 100000 in
theorem fromY_string_int (L : Nat) (r : Loop) (p : Nat) (m : Int) (K : List (List UInt8)) (V : List (Int)) (g g2 : Nat) (k : List UInt8) {q : Nat} (hq : pos ltS K k = q) (R : Ass) (Inv : Nat → Ass) (hI0 : ∀ rs, Parts [Tab 73 9 3 encS encI ltS p m K V, R] rs → Inv 0 rs) (hsz : 2 = r.params.size) (hy : ∀ j a b, (K.drop q)[j]? = some a → (V.drop q)[j]? = some b → DoesR L (.loop r) Try.prog r.fn ((r.params.zip ([.string (bs a), .int .i64 b] : List Value).toArray).foldl (fun tmps (t, a) => tmps.setIfInBounds t a) r.tmps) r.assign r.body [Inv j] [Inv (j + 1)]) : DoesL L (.loop r) Try.prog 38 #[.func (.yield L) #[] #[], .pointer (some ⟨g, 0, none⟩), .pointer (some ⟨g2, 0, none⟩)] [cell g 26 #[.pointer (some ⟨p, 0, none⟩)], cell g2 9 #[.string (bs k)], Tab 73 9 3 encS encI ltS p m K V, R] (fun (_ : Unit) => .tuple #[]) (fun (_ : Unit) => [cell g 26 #[.pointer (some ⟨p, 0, none⟩)], cell g2 9 #[.string (bs k)], Inv ((K.drop q).length)]) := by
  refine d_insL (args := [.func (.yield L) #[] #[], .pointer (some ⟨g, 0, none⟩), .pointer (some ⟨g2, 0, none⟩)]) 19 Try.func38 rfl rfl rfl ?_; intro w rs hU hS
  refine WC2.fact 2 rfl Tab.ok ?_; rintro hT
  have hVK := hT.len
  have hKm := hT.le
  have hm4 := hT.lim
  have hqK : q ≤ K.length := hq ▸ pos_le K
  refine d_open 2 rfl Tab.open_ (fun _ => rfl) ?_; rintro ⟨⟨kv, vv⟩, hT0⟩
  refine WC2.keep (env' := [(0, .func (.yield L) #[] #[]), (1, .pointer (some ⟨g, 0, none⟩)), (2, .pointer (some ⟨g2, 0, none⟩))]) ⟨rfl, rfl, rfl, trivial⟩ ?_
  refine WC2.mid [cell p 73 #[.int .i64 m, kv, vv], Vec 9 1 encS kv K, Vec 3 1 encI vv V, cell g 26 #[.pointer (some ⟨p, 0, none⟩)], cell g2 9 #[.string (bs k)], R] (.refl _) ?_
  refine d_seq ?_
  refine d_parS 10 1 [⟨.quiet, [none], fun _ => .pointer (some ⟨p, 0, none⟩), []⟩, ⟨.quiet, [none], fun _ => .pointer (some ⟨p, 0, none⟩), [0]⟩, ⟨.quiet, [none], fun _ => .pointer (some ⟨p, 1, none⟩), [1]⟩, ⟨.quiet, [none], fun _ => kv, [2]⟩, ⟨.quiet, [none], fun _ => .string (bs k), []⟩, ⟨.actv 0, [some false], fun _ => .tuple #[.int .i64 (q : Int), .bool (has ltS K k)], [3, 4]⟩, ⟨.quiet, [some true], fun _ => .tuple #[.int .i64 (q : Int), .bool (has ltS K k)], [5]⟩, ⟨.quiet, [some true], fun _ => .int .i64 (q : Int), [6]⟩, ⟨.quiet, [some true], fun _ => .bool (has ltS K k), [6]⟩, ⟨.quiet, [some true], fun _ => .int .i64 (q : Int), [7]⟩] [(0, .func (.yield L) #[] #[]), (1, .pointer (some ⟨g, 0, none⟩)), (2, .pointer (some ⟨g2, 0, none⟩))] (fun ρ => match ρ with | [r0] => [cell p 73 #[.int .i64 m, kv, vv], Vec 9 1 encS kv K, Vec 3 1 encI vv V, cell g 26 #[.pointer (some ⟨p, 0, none⟩)], cell g2 9 #[.string (bs k)], R] | _ => []) (by kernel_rfl) (by kernel_rfl) ⟨rfl, rfl, rfl, trivial⟩ rfl ?_ ?_
  · skip
    refine s_cons (by intro r0_; exact ⟨rfl, fun b w hH hb => exec_load rfl rfl (reads_one ty_p_table_Table_of_string_int rfl) (hH.row 3 rfl) hb⟩) ?_
    refine s_cons (by intro r0_; exact ⟨rfl, fun b w hH hb => by exact exec_nilCheck rfl rfl hb⟩) ?_
    refine s_cons (by intro r0_; exact ⟨rfl, fun b w hH hb => exec_q1 hflS rfl hb⟩) ?_
    refine s_cons (by intro r0_; exact ⟨rfl, fun b w hH hb => exec_load rfl rfl (reads_one ty_s_string rfl) (hH.row 0 rfl) hb⟩) ?_
    refine s_cons (by intro r0_; exact ⟨rfl, fun b w hH hb => exec_load rfl rfl (reads_one ty_string rfl) (hH.row 4 rfl) hb⟩) ?_
    refine s_cons (by exact ⟨rfl, Acts.su (a_does (os' := fun _ => [cell p 73 #[.int .i64 m, kv, vv], Vec 9 1 encS kv K, Vec 3 1 encI vv V, cell g 26 #[.pointer (some ⟨p, 0, none⟩)], cell g2 9 #[.string (bs k)], R]) [1] 0 (ent_of Try.func35 (by kernel_rfl) rfl) (search2_string kv K k hT.srt (by omega) hq rfl) rfl rfl rfl (fun _ => rfl) rfl rfl rfl) rfl⟩) ?_
    refine s_cons (by intro v0_; exact ⟨rfl, fun b w hH hb => exec_q1 hflS rfl hb⟩) ?_
    refine s_cons (by intro v0_; exact ⟨rfl, fun b w hH hb => exec_q1 hflS rfl hb⟩) ?_
    refine s_cons (by intro v0_; exact ⟨rfl, fun b w hH hb => exec_q1 hflS rfl hb⟩) ?_
    refine s_cons (by intro v0_; exact ⟨rfl, fun b w hH hb => exec_q1 hflS rfl hb⟩) ?_
    exact s_nil
  intro v0_
  refine WL2.keep (env' := [(0, .func (.yield L) #[] #[]), (1, .pointer (some ⟨g, 0, none⟩)), (14, .bool (has ltS K k)), (4, .int .i64 (q : Int))]) ⟨rfl, rfl, rfl, rfl, trivial⟩ ?_
  refine h_q hflS rfl ?_
  refine h_nil (f_to ?_)
  refine d_close [0, 1, 2] rfl (fun rs hz => Tab.mk_ hT hz) rfl ?_
  refine d_reg1 ?_
  refine h_q hflS rfl ?_
  refine h_val rfl (.pointer (some ⟨p, 0, none⟩)) (fun b w hb hH => exec_load rfl rfl (reads_one ty_p_table_Table_of_string_int rfl) (hH.row 1 rfl) hb) ?_
  refine h_q hflS rfl ?_
  refine h_act (post := fun _ => [Inv ((K.drop q).length), cell g 26 #[.pointer (some ⟨p, 0, none⟩)], cell g2 9 #[.string (bs k)], emp]) rfl (a_doesL hU hS (os' := fun _ => [Inv ((K.drop q).length), cell g 26 #[.pointer (some ⟨p, 0, none⟩)], cell g2 9 #[.string (bs k)], emp]) [0, 3] 0 (ent_of Try.func39 (by kernel_rfl) rfl) (tellY_string_int L r p m K V q hqK R Inv hI0 hsz hy) rfl rfl rfl (fun _ => rfl) rfl rfl rfl) ?_; rintro ⟨⟩
  refine WL2.leave [3] rfl rfl ?_
  refine h_nil ?_
  exact f_fin0n  (fun w h => tells () rfl [1, 2, 0] rfl h same_parts) rfl
end Go.Proofs.Ytmlfgdedhhmkpaa.Sep

namespace Go.Proofs.Ytmlfgdedhhmkpaa.Sep
open Go.RowKit
open Go.Proofs.Ytmlfgdedhhmkpaa.Mem (Dist Blk Chg below0)

set_option maxRecDepth 100000 in
theorem known4_true (w : World) : Calls Try.prog 3 #[] w fun e w' => e = .returned (.bool true) ∧ Below w.heap.size w w' := by
  refine d_inM 86 Try.func3 rfl rfl ?_
  refine d_reg ?_
  refine h_q hflS rfl ?_
  refine h_act (post := fun g0 => [cell g0 4 #[.bool false]]) rfl (a_alloc ze_bool rfl) ?_; rintro g0
  refine h_done (d_reg ?_)
  refine h_q hflS rfl ?_
  refine h_act (post := fun _ => [cell g0 4 #[.bool false]]) rfl (a_call (ent_of Try.func9 (by kernel_rfl) rfl) (fun w hH => new_err_int_int w 0 (by decide)) rfl rfl rfl) ?_; rintro ⟨⟩
  refine h_q hflS rfl ?_
  refine h_done (d_reg ?_)
  refine h_q hflS rfl ?_
  refine h_act (post := fun _ => [cell g0 4 #[.bool false]]) rfl (a_call (ent_of Try.func9 (by kernel_rfl) rfl) (fun w hH => new_err_int_int w 4097 (by decide)) rfl rfl rfl) ?_; rintro ⟨⟩
  refine h_q hflS rfl ?_
  refine h_done (d_reg ?_)
  refine h_q hflS rfl ?_
  refine h_act (post := fun g => [Tab 73 9 3 encS encI ltS g 3 ([]) ([]), cell g0 4 #[.bool false]]) rfl (a_does (os' := fun g => [Tab 73 9 3 encS encI ltS g 3 ([]) ([]), cell g0 4 #[.bool false]]) [] 0 (ent_of Try.func10 (by kernel_rfl) rfl) (new_string_int 3 (by decide)) rfl rfl rfl (fun _ => rfl) rfl rfl rfl) ?_; rintro g
  refine h_q hflS rfl ?_
  refine h_done (d_seq (d_reg ?_))
  refine h_q hflS rfl ?_
  refine h_act (post := fun _ => [Tab 73 9 3 encS encI ltS g 3 ([]) ([]), cell g0 4 #[.bool false]]) rfl (a_call (ent_of Try.func11 (by kernel_rfl) rfl) (fun w hH => known_true w) rfl rfl rfl) ?_; rintro ⟨⟩
  refine h_q hflS rfl ?_
  refine h_val rfl (.bool false) (fun b w hb hH => exec_cmp rfl rfl rfl (cmp_neq_f (by decide)) hb) ?_
  refine h_q hflS rfl ?_
  refine h_val rfl (.bool false) (fun b w hb hH => exec_cmp rfl rfl rfl (cmp_neq_f (by decide)) hb) ?_
  refine h_q hflS rfl ?_
  refine h_val rfl (.bool false) (fun b w hb hH => exec_cmp rfl rfl rfl (cmp_neq_f (by decide)) hb) ?_
  refine h_q hflS rfl ?_
  refine h_val rfl (.bool false) (fun b w hb hH => exec_pnil_eql (by kernel_rfl) rfl rfl rfl hb) ?_
  refine h_q hflS rfl ?_
  refine h_done (d_else rfl (d_skip (f_to (d_reg ?_))))
  refine h_q hflS rfl ?_
  refine h_act (post := fun _ => [Tab 73 9 3 encS encI ltS g 3 ([[98]]) ([1]), cell g0 4 #[.bool false]]) rfl (a_does (os' := fun _ => [Tab 73 9 3 encS encI ltS g 3 ([[98]]) ([1]), cell g0 4 #[.bool false]]) [0] 0 (ent_of Try.func12 (by kernel_rfl) rfl) (put_string_int g 3 ([]) ([]) ([98]) 1 ([[98]], [1], true) (by decide)) rfl rfl rfl (fun _ => rfl) rfl rfl rfl) ?_; rintro ⟨⟩
  refine h_done (d_reg ?_)
  refine h_q hflS rfl ?_
  refine h_act (post := fun _ => [Tab 73 9 3 encS encI ltS g 3 ([[97], [98]]) ([2, 1]), cell g0 4 #[.bool false]]) rfl (a_does (os' := fun _ => [Tab 73 9 3 encS encI ltS g 3 ([[97], [98]]) ([2, 1]), cell g0 4 #[.bool false]]) [0] 0 (ent_of Try.func12 (by kernel_rfl) rfl) (put_string_int g 3 ([[98]]) ([1]) ([97]) 2 ([[97], [98]], [2, 1], true) (by decide)) rfl rfl rfl (fun _ => rfl) rfl rfl rfl) ?_; rintro ⟨⟩
  refine h_done (d_reg ?_)
  refine h_q hflS rfl ?_
  refine h_act (post := fun g7 => [cell g7 3 #[.int .i64 0], Tab 73 9 3 encS encI ltS g 3 ([[97], [98]]) ([2, 1]), cell g0 4 #[.bool false]]) rfl (a_alloc ze_int rfl) ?_; rintro g7
  refine h_acts (post := fun _ => [cell g7 3 #[.int .i64 0], Tab 73 9 3 encS encI ltS g 3 ([[97], [98]]) ([2, 1]), cell g0 4 #[.bool false]]) rfl rfl (a_store 0 (v := .int .i64 0) #[.int .i64 0] ty_int.2 rfl rfl rfl rfl rfl rfl rfl rfl rfl) ?_; rintro ⟨⟩
  refine h_done (d_seq (d_reg ?_))
  refine h_q hflS rfl ?_
  refine h_act rfl (a_does  [] 0 (ent_of Try.func13 (by kernel_rfl) rfl) (from_string_int g [97, 97]) rfl rfl rfl (fun _ => rfl) rfl rfl rfl) ?_; rintro ⟨ga, gb⟩
  refine WL2.keep (env' := [(0, .pointer (some ⟨g0, 0, none⟩)), (13, .tuple #[.pointer none, .int .i64 1]), (12, .tuple #[.pointer none, .int .i64 1]), (14, .pointer none), (15, .int .i64 1), (1, .pointer none), (2, .int .i64 1), (17, .tuple #[.pointer none, .int .i64 1]), (16, .tuple #[.pointer none, .int .i64 1]), (18, .pointer none), (19, .int .i64 1), (3, .pointer none), (4, .int .i64 1), (21, .tuple #[.pointer (some ⟨g, 0, none⟩), .int .i64 0]), (20, .tuple #[.pointer (some ⟨g, 0, none⟩), .int .i64 0]), (22, .pointer (some ⟨g, 0, none⟩)), (23, .int .i64 0), (5, .pointer (some ⟨g, 0, none⟩)), (6, .int .i64 0), (24, .bool true), (25, .bool false), (26, .bool false), (27, .int .i64 1), (28, .bool false), (29, .bool false), (30, .bool false), (31, .int .i64 1), (32, .bool false), (33, .bool false), (34, .bool false), (35, .int .i64 0), (36, .bool false), (37, .bool false), (38, .bool false), (39, .pointer (some ⟨g, 0, none⟩)), (40, .bool false), (41, .bool false), (42, .pointer (some ⟨g, 0, none⟩)), (43, .bool true), (44, .pointer (some ⟨g, 0, none⟩)), (45, .bool true), (7, .pointer (some ⟨g7, 0, none⟩)), (46, .pointer (some ⟨g, 0, none⟩)), (47, .func (.func 38) #[] #[.pointer (some ⟨ga, 0, none⟩), .pointer (some ⟨gb, 0, none⟩)])]) ⟨rfl, rfl, rfl, rfl, rfl, rfl, rfl, rfl, rfl, rfl, rfl, rfl, rfl, rfl, rfl, rfl, rfl, rfl, rfl, rfl, rfl, rfl, rfl, rfl, rfl, rfl, rfl, rfl, rfl, rfl, rfl, rfl, rfl, rfl, rfl, rfl, rfl, rfl, rfl, rfl, rfl, rfl, rfl, rfl, trivial⟩ ?_
  refine WL2.mid [cell ga 26 #[.pointer (some ⟨g, 0, none⟩)], cell gb 9 #[.string (bs ([97, 97]))], cell g7 3 #[.int .i64 0], Tab 73 9 3 encS encI ltS g 3 ([[97], [98]]) ([2, 1]), cell g0 4 #[.bool false]] (.refl _) ?_
  refine h_done (d_block ?_)
  have hq : pos ltS [[97], [98]] [97, 97] = 1 := by decide
  refine wp_range (caps := [.pointer (some ⟨ga, 0, none⟩), .pointer (some ⟨gb, 0, none⟩)]) (post := [cell ga 26 #[.pointer (some ⟨g, 0, none⟩)], cell gb 9 #[.string (bs ([97, 97]))], (fun (j : Nat) rs => Parts [Tab 73 9 3 encS encI ltS g 3 ([[97], [98]]) ([2, 1]), cell g7 3 #[.int .i64 (j : Int)]] rs) 1]) (os' := [cell ga 26 #[.pointer (some ⟨g, 0, none⟩)], cell gb 9 #[.string (bs ([97, 97]))], (fun (j : Nat) rs => Parts [Tab 73 9 3 encS encI ltS g 3 ([[97], [98]]) ([2, 1]), cell g7 3 #[.int .i64 (j : Int)]] rs) 1, cell g0 4 #[.bool false]]) [0, 1, 3, 2] rfl (ent_of Try.func38 (by kernel_rfl) rfl) (fun L fn tm hfr r h1 h2 h3 h4 h5 h6 => fromY_string_int L r g 3 [[97], [98]] [2, 1] ga gb [97, 97] hq (cell g7 3 #[.int .i64 0]) (fun (j : Nat) rs => Parts [Tab 73 9 3 encS encI ltS g 3 ([[97], [98]]) ([2, 1]), cell g7 3 #[.int .i64 (j : Int)]] rs) (fun rs h => h) (by rw [h4]; rfl) ?_) rfl rfl rfl ?_
  · skip
    intro j a c ha hc
    obtain rfl : j = 0 := by have := (List.getElem?_eq_some_iff.1 ha).1; simp at this; omega
    cases ha; cases hc
    rw [h5, h6]
    refine doesR_of (n := 86) (env := [(49, .int .i64 1), (48, .string (bs ([98]))), (0, .pointer (some ⟨g0, 0, none⟩)), (13, .tuple #[.pointer none, .int .i64 1]), (12, .tuple #[.pointer none, .int .i64 1]), (14, .pointer none), (15, .int .i64 1), (1, .pointer none), (2, .int .i64 1), (17, .tuple #[.pointer none, .int .i64 1]), (16, .tuple #[.pointer none, .int .i64 1]), (18, .pointer none), (19, .int .i64 1), (3, .pointer none), (4, .int .i64 1), (21, .tuple #[.pointer (some ⟨g, 0, none⟩), .int .i64 0]), (20, .tuple #[.pointer (some ⟨g, 0, none⟩), .int .i64 0]), (22, .pointer (some ⟨g, 0, none⟩)), (23, .int .i64 0), (5, .pointer (some ⟨g, 0, none⟩)), (6, .int .i64 0), (24, .bool true), (25, .bool false), (26, .bool false), (27, .int .i64 1), (28, .bool false), (29, .bool false), (30, .bool false), (31, .int .i64 1), (32, .bool false), (33, .bool false), (34, .bool false), (35, .int .i64 0), (36, .bool false), (37, .bool false), (38, .bool false), (39, .pointer (some ⟨g, 0, none⟩)), (40, .bool false), (41, .bool false), (42, .pointer (some ⟨g, 0, none⟩)), (43, .bool true), (44, .pointer (some ⟨g, 0, none⟩)), (45, .bool true), (7, .pointer (some ⟨g7, 0, none⟩)), (46, .pointer (some ⟨g, 0, none⟩)), (47, .func (.func 38) #[] #[.pointer (some ⟨ga, 0, none⟩), .pointer (some ⟨gb, 0, none⟩)])]) (env1 := [(9, .int .i64 1), (8, .string (bs ([98]))), (49, .int .i64 1), (48, .string (bs ([98]))), (0, .pointer (some ⟨g0, 0, none⟩)), (13, .tuple #[.pointer none, .int .i64 1]), (12, .tuple #[.pointer none, .int .i64 1]), (14, .pointer none), (15, .int .i64 1), (1, .pointer none), (2, .int .i64 1), (17, .tuple #[.pointer none, .int .i64 1]), (16, .tuple #[.pointer none, .int .i64 1]), (18, .pointer none), (19, .int .i64 1), (3, .pointer none), (4, .int .i64 1), (21, .tuple #[.pointer (some ⟨g, 0, none⟩), .int .i64 0]), (20, .tuple #[.pointer (some ⟨g, 0, none⟩), .int .i64 0]), (22, .pointer (some ⟨g, 0, none⟩)), (23, .int .i64 0), (5, .pointer (some ⟨g, 0, none⟩)), (6, .int .i64 0), (24, .bool true), (25, .bool false), (26, .bool false), (27, .int .i64 1), (28, .bool false), (29, .bool false), (30, .bool false), (31, .int .i64 1), (32, .bool false), (33, .bool false), (34, .bool false), (35, .int .i64 0), (36, .bool false), (37, .bool false), (38, .bool false), (39, .pointer (some ⟨g, 0, none⟩)), (40, .bool false), (41, .bool false), (42, .pointer (some ⟨g, 0, none⟩)), (43, .bool true), (44, .pointer (some ⟨g, 0, none⟩)), (45, .bool true), (7, .pointer (some ⟨g7, 0, none⟩)), (46, .pointer (some ⟨g, 0, none⟩)), (47, .func (.func 38) #[] #[.pointer (some ⟨ga, 0, none⟩), .pointer (some ⟨gb, 0, none⟩)])]) h1 h2 ?_ ?_ ?_
    · rw [h4, h3]
      refine (congrArg (fun t => Fr 86 { tmps := t, defers := [] } _) (?_ : _ = (tm.setIfInBounds 48 (.string (bs [98]))).setIfInBounds 49 (.int .i64 1))).mpr ((hfr.put (d := 48) (by decide) _).put (d := 49) (by decide) _)
      simp
    · exact fun K w hK a hF => wpIn_seq (r_one rfl rfl (fun a h => exec_assign rfl rfl h) (fun a h => r_one rfl rfl (fun a h => exec_assign rfl rfl h) (fun a h => hK a h) a h) a hF)
    · intro w0 rs a w hF hH
      have hH' : Hp (Blk rs) w0 w [Tab 73 9 3 encS encI ltS g 3 ([[97], [98]]) ([2, 1]), cell g7 3 #[.int .i64 ((0 : Nat) : Int)]] := Hp.imp hH fun rs h => ⟨rs, .refl _, h.one'⟩
      refine r_block (r_seq (r_seq (r_reg rfl (by rintro ⟨a, w, h⟩; exact h) ?_))) a w hF hH'
      refine h_q hflS rfl ?_
      refine h_val rfl (.bool false) (fun b w hb hH => exec_sneq (by decide) rfl rfl rfl hb) ?_
      refine h_q hflS rfl ?_
      refine h_val rfl (.bool false) (fun b w hb hH => exec_cmp rfl rfl rfl (cmp_neq_f (by decide)) hb) ?_
      refine h_q hflS rfl ?_
      refine h_nil (r_to ?_)
      refine r_else rfl (r_skip (r_to ?_))
      refine r_reg rfl (by rintro ⟨a, w, h⟩; exact h) ?_
      refine h_q hflS rfl ?_
      refine h_val rfl (.int .i64 ((0 : Nat) : Int)) (fun b w hb hH => exec_load rfl rfl (reads_one ty_int rfl) (hH.row 1 rfl) hb) ?_
      refine h_val rfl (.int .i64 ((1 : Nat) : Int)) (fun b w hb hH => exec_ar rfl rfl rfl rfl (by rw [IntWalk.i64_in _ (by omega)]; omega) hb) ?_
      refine h_acts (post := fun _ => [Tab 73 9 3 encS encI ltS g 3 ([[97], [98]]) ([2, 1]), cell g7 3 #[.int .i64 ((1 : Nat) : Int)]]) rfl rfl (a_store 1 (v := .int .i64 ((1 : Nat) : Int)) #[.int .i64 ((1 : Nat) : Int)] ty_int.2 rfl rfl rfl rfl rfl rfl rfl rfl rfl) ?_; rintro ⟨⟩
      refine h_nil (fun a w hF hH => ?_)
      obtain ⟨y, hy1, hy2⟩ := hH.tell [0, 1] (by decide)
      exact ⟨y, Parts.one hy1, hy2⟩
  intro D aT wT rsT hO hD hF hp hr hd
  refine t_start (os2 := [cell ga 26 #[.pointer (some ⟨g, 0, none⟩)], cell gb 9 #[.string (bs ([97, 97]))], Tab 73 9 3 encS encI ltS g 3 ([[97], [98]]) ([2, 1]), cell g7 3 #[.int .i64 ((1 : Nat) : Int)], cell g0 4 #[.bool false]]) hD hF hp hr hd (fun rs ⟨a, b, e1, h1, c, d, e2, h2, f, g', e3, h3, h4⟩ => ⟨rs, .refl _, a, b, e1, h1, c, d, e2, h2, e3 ▸ h3.app h4⟩) ?_
  refine t_reg ?_
  refine t_val rfl (.pointer (some ⟨g, 0, none⟩)) (fun b w hb hH => exec_q1 hflS rfl hb) ?_
  refine t_does (os' := fun _ => [Tab 73 9 3 encS encI ltS g 3 ([[97], [98]]) ([2, 1]), cell ga 26 #[.pointer (some ⟨g, 0, none⟩)], cell gb 9 #[.string (bs ([97, 97]))], cell g7 3 #[.int .i64 ((1 : Nat) : Int)], cell g0 4 #[.bool false]]) [2] (ent_of Try.func14 (by kernel_rfl) rfl) (get_string_int g 3 ([[97], [98]]) ([2, 1]) ([97]) (2, true) (by decide)) rfl rfl (fun _ => rfl) rfl rfl rfl rfl ?_; rintro ⟨⟩
  refine t_val rfl (.tuple #[.int .i64 2, .bool true]) (fun b w hb hH => exec_q1 hflS rfl hb) ?_
  refine t_val rfl (.int .i64 2) (fun b w hb hH => exec_q1 hflS rfl hb) ?_
  refine t_val rfl (.bool true) (fun b w hb hH => exec_q1 hflS rfl hb) ?_
  refine t_val rfl (.int .i64 2) (fun b w hb hH => exec_q1 hflS rfl hb) ?_
  refine t_val rfl (.bool true) (fun b w hb hH => exec_q1 hflS rfl hb) ?_
  refine t_done ?_
  refine WCT.keep (env' := [(0, .pointer (some ⟨g0, 0, none⟩)), (5, .pointer (some ⟨g, 0, none⟩)), (7, .pointer (some ⟨g7, 0, none⟩)), (10, .int .i64 2), (11, .bool true)]) ⟨rfl, rfl, rfl, rfl, rfl, trivial⟩ ?_
  refine t_reg ?_
  refine t_val rfl (.int .i64 ((1 : Nat) : Int)) (fun b w hb hH => exec_load rfl rfl (reads_one ty_int rfl) (hH.row 3 rfl) hb) ?_
  refine t_val rfl (.bool true) (fun b w hb hH => exec_cmp rfl rfl rfl (cmp_eql_t rfl) hb) ?_
  refine t_val rfl (.bool true) (fun b w hb hH => exec_q1 hflS rfl hb) ?_
  refine t_val rfl (.int .i64 2) (fun b w hb hH => exec_q1 hflS rfl hb) ?_
  refine t_val rfl (.bool true) (fun b w hb hH => exec_cmp rfl rfl rfl (cmp_eql_t (by decide)) hb) ?_
  refine t_val rfl (.bool true) (fun b w hb hH => exec_q1 hflS rfl hb) ?_
  refine t_val rfl (.bool true) (fun b w hb hH => exec_q1 hflS rfl hb) ?_
  refine t_val rfl (.bool true) (fun b w hb hH => exec_q1 hflS rfl hb) ?_
  refine t_val rfl (.bool true) (fun b w hb hH => exec_q1 hflS rfl hb) ?_
  refine t_val rfl (.bool true) (fun b w hb hH => exec_q1 hflS rfl hb) ?_
  refine t_val rfl (.pointer (some ⟨g, 0, none⟩)) (fun b w hb hH => exec_q1 hflS rfl hb) ?_
  refine t_does (os' := fun _ => [Tab 73 9 3 encS encI ltS g 3 ([[98]]) ([1]), cell ga 26 #[.pointer (some ⟨g, 0, none⟩)], cell gb 9 #[.string (bs ([97, 97]))], cell g7 3 #[.int .i64 ((1 : Nat) : Int)], cell g0 4 #[.bool false]]) [0] (ent_of Try.func15 (by kernel_rfl) rfl) (drop_string_int g 3 ([[97], [98]]) ([2, 1]) ([97]) ([[98]], [1], true) (by decide)) rfl rfl (fun _ => rfl) rfl rfl rfl rfl ?_; rintro ⟨⟩
  refine t_val rfl (.bool true) (fun b w hb hH => exec_q1 hflS rfl hb) ?_
  refine t_val rfl (.bool true) (fun b w hb hH => exec_q1 hflS rfl hb) ?_
  refine t_val rfl (.pointer (some ⟨g, 0, none⟩)) (fun b w hb hH => exec_q1 hflS rfl hb) ?_
  refine t_does (os' := fun _ => [Tab 73 9 3 encS encI ltS g 3 ([[98]]) ([1]), cell ga 26 #[.pointer (some ⟨g, 0, none⟩)], cell gb 9 #[.string (bs ([97, 97]))], cell g7 3 #[.int .i64 ((1 : Nat) : Int)], cell g0 4 #[.bool false]]) [0] (ent_of Try.func15 (by kernel_rfl) rfl) (drop_string_int g 3 ([[98]]) ([1]) ([97]) ([[98]], [1], false) (by decide)) rfl rfl (fun _ => rfl) rfl rfl rfl rfl ?_; rintro ⟨⟩
  refine t_val rfl (.bool true) (fun b w hb hH => exec_q1 hflS rfl hb) ?_
  refine t_val rfl (.bool true) (fun b w hb hH => exec_q1 hflS rfl hb) ?_
  refine t_val rfl (.bool true) (fun b w hb hH => exec_q1 hflS rfl hb) ?_
  refine t_val rfl (.pointer (some ⟨g, 0, none⟩)) (fun b w hb hH => exec_q1 hflS rfl hb) ?_
  refine t_does (os' := fun _ => [Tab 73 9 3 encS encI ltS g 3 ([[98]]) ([1]), cell ga 26 #[.pointer (some ⟨g, 0, none⟩)], cell gb 9 #[.string (bs ([97, 97]))], cell g7 3 #[.int .i64 ((1 : Nat) : Int)], cell g0 4 #[.bool false]]) [0] (ent_of Try.func16 (by kernel_rfl) rfl) (len_string_int g 3 ([[98]]) ([1])) rfl rfl (fun _ => rfl) rfl rfl rfl rfl ?_; rintro ⟨⟩
  refine t_val rfl (.bool true) (fun b w hb hH => exec_cmp rfl rfl rfl (cmp_eql_t rfl) hb) ?_
  refine t_val rfl (.bool true) (fun b w hb hH => exec_q1 hflS rfl hb) ?_
  refine t_store 4 (v := .bool true) #[.bool true] ty_bool.2 rfl rfl rfl rfl rfl rfl rfl rfl rfl rfl ?_
  refine t_done ?_
  refine WCT.keep (env' := [(0, .pointer (some ⟨g0, 0, none⟩))]) ⟨rfl, trivial⟩ ?_
  exact t_ret hO hr (.cell 4 (v := .bool true) (reads_one ty_bool rfl) rfl rfl) rfl (fun w' h => ⟨rfl, h⟩)
end Go.Proofs.Ytmlfgdedhhmkpaa.Sep

namespace Go.Proofs.Ytmlfgdedhhmkpaa
open Go.ChangeShapes Go.WideShapes Go.ChangeAt Go.RowKit

theorem own : ownKnob Try.prog.godebug = none := by kernel_rfl
theorem laidOut : laidOutB Try.prog = true := by kernel_rfl

section
variable {H : Type} {enc : TypeId × Value → H} {P : Program}

/-- what the arguments read as stays, where nothing that was there has changed -/
theorem trodAll_stays (hl : laidOutB P = true) {W W' : World} (hb : Below W.heap.size W W') :
    ∀ {ts : List TypeId} {vs : List Value} {ds : List (DataW H)} {ps : List MemPlace}, (∀ t ∈ ts, P.readableRec t = true ∧ t < P.types.size) → (∀ x ∈ ps, x.block < W.heap.size) →
      DataW.TrodAll enc P W 0 (fun _ => true) true ts vs ds ps → DataW.TrodAll enc P W' 0 (fun b => decide (b < W.heap.size)) true ts vs ds ps
  | [], vs, ds, ps, _, _, h => by
    obtain ⟨rfl, rfl, rfl⟩ := trodAll_nil h
    rfl
  | t :: ts, vs, ds, ps, ht, hp, h => by
    obtain ⟨v, vs1, d, ds1, a, b, rfl, rfl, rfl, h1, h2⟩ := trodAll_cons h
    obtain ⟨hr, hrow⟩ := ht t List.mem_cons_self
    exact ⟨a, b, Below.trod hl hr hrow h1 hb (fun x hx => hp x (List.mem_append_left _ hx)), trodAll_stays hl hb (fun t h => ht t (List.mem_cons_of_mem _ h)) (fun x hx => hp x (List.mem_append_right _ hx)) h2, rfl⟩

theorem law_post {f : Func} {s : ChangeSpec} {tb : TypeId} {W W' : World} {args : Array Value} {ds gs : List (DataW H)} {before : List MemPlace}
    (hl : laidOutB P = true) (hr : f.resultTypes = #[tb]) (htb : P.underlying tb = some .bool) (hread : ∀ t ∈ f.params.toList, P.readableRec t = true ∧ t < P.types.size)
    (hvars : s.vars = []) (hs : s.fn H ds = { results := [.lit (.bool true)], args := ds })
    (hW : DataW.Whole enc P f.params.toList s.vars false W args.toList ds gs before) (hb : Below W.heap.size W W') :
    s.post enc P f false true false false W args (.bool true) W' := by
  have hW' := hW
  obtain ⟨p, q, hA, hV, rfl, hfz, hnd⟩ := hW
  rw [hvars] at hV
  obtain ⟨rfl, rfl⟩ := trodVars_none hV
  have hlt : ∀ x ∈ p, x.block < W.heap.size := fun x hx => hW'.lt x (by simpa using hx)
  refine ⟨ds, [], p ++ [], [], p, [], hW', ?_, ?_, ?_, ?_, fun h => by cases h⟩
  · rw [List.append_nil, hs, hr]
    exact trodAll_cons_mk (shut_bool htb true) trodAll_mk0
  · rw [List.append_nil, hs]
    exact trodAll_stays hl hb hread hlt hA
  · rw [List.append_nil, hs, hvars]
    rfl
  · exact World.keptBut_mono (fun x hx => ⟨hx, .inr (.inl (by simpa using hx))⟩) (hb.frame (· ∈ p ++ []))
end

/-! ## Arguments, opened -/
section
variable {H : Type} {enc : TypeId × Value → H} {P : Program}

end


/-! ## The bound of the second form -/
theorem bound {H : Type} {l : List (DataW H)} (hk : Rows.uptoSmall H l = true) : Rows.uptoBulkAll l ≤ 1048576 := of_decide_eq_true hk
end Go.Proofs.Ytmlfgdedhhmkpaa
