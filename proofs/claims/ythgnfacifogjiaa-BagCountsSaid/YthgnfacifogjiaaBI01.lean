/-
  BagC
-/
import Derived.Test.YthgnfacifogjiaaBB01
import Derived.Test.YthgnfacifogjiaaBE01
import Derived.Test.YthgnfacifogjiaaBF02
import Derived.Test.YthgnfacifogjiaaBG01
set_option linter.unusedSimpArgs false
set_option linter.unusedVariables false

namespace Go.Proofs.Ythgnfacifogjiaa.Sep
open Go.RowKit
open Go.Proofs.Ythgnfacifogjiaa.Mem (Dist Blk Chg below0)

section
variable {α : Type} {m k : Int} {l l1 : List α} {n n1 : Int} {x x1 d : α} {b1 : Bool}
theorem takeB_cs (h : takeB l k d = (l1, x1, b1)) : (b1 = true ∧ l1.length + 1 = l.length) ∨ (b1 = false ∧ l = l1) := by
  unfold takeB at h
  split at h
  · cases h
    refine .inl ⟨rfl, ?_⟩
    simp only [List.length_append, List.length_take, List.length_drop]; omega
  · cases h; exact .inr ⟨rfl, rfl⟩
theorem putB_cs (h : putB m l n x = (l1, n1, b1)) : (b1 = true ∧ l1.length = l.length + 1 ∧ n1 = n ∧ (l.length : Int) < m) ∨ (b1 = false ∧ l = l1 ∧ n1 = n + 1) := by
  unfold putB at h
  split at h
  · cases h; exact .inl ⟨rfl, by simp, rfl, by assumption⟩
  · cases h; exact .inr ⟨rfl, rfl, rfl⟩
theorem dblB_cs (h : dblB m l k = (l1, b1)) : (b1 = true ∧ l1.length = l.length + 1 ∧ (l.length : Int) < m) ∨ (b1 = false ∧ l = l1) := by
  unfold dblB at h
  split at h
  · rename_i hk
    cases h
    have : l[k.toNat]? = some (l[k.toNat]'(by omega)) := List.getElem?_eq_getElem _
    exact .inl ⟨rfl, by simp [this], hk.2.2⟩
  · cases h; exact .inr ⟨rfl, rfl⟩
end

set_option maxRecDepth 100000 in
theorem counts_true (w : World) (most : Int) (sl : Value) (l : List StepB) (h1 : -9223372036854775808 ≤ most ∧ most ≤ 9223372036854775807) (hl : SlRd w 3 sl l.length (flat encG l)) (hll : l.length ≤ 9223372036854775807) (hlo : ∀ y ∈ l, y.ok) : Calls Try.prog 5 #[.int .i64 most, sl] w fun e w' => e = .returned (.bool true) ∧ Below w.heap.size w w' := by
  obtain ⟨r, hr⟩ : ∃ r, most % 256 = r := ⟨_, rfl⟩
  have hr1 : 0 ≤ r ∧ r < 256 := by omega
  obtain ⟨m, hm⟩ : ∃ m : Int, m = 1 + r := ⟨_, rfl⟩
  have hm1 : 1 ≤ m ∧ m ≤ 256 := by omega
  have hm256 : m ≤ 256 := hm1.2
  refine d_in (args := [.int .i64 most, sl]) 114 Try.func5 rfl rfl rfl ?_
  refine d_reg ?_
  refine h_q hflS rfl ?_
  refine h_done (d_reg ?_)
  refine h_q hflS rfl ?_
  refine h_act (post := fun _ => []) rfl (a_call (ent_of Try.func15 (by kernel_rfl) rfl) (fun w hH => pick w most 256 h1 (by decide) hr) rfl rfl rfl) ?_; rintro ⟨⟩
  refine h_val rfl (.int .i64 m) (fun b w hb hH => exec_ar rfl rfl rfl rfl (by rw [IntWalk.i64_in _ (by omega)]; omega) hb) ?_
  refine h_q hflS rfl ?_
  refine h_done (d_reg ?_)
  refine h_q hflS rfl ?_
  refine h_act (post := fun g => [BagT 54 9 encS g m ([]) 0]) rfl (a_does (os' := fun g => [BagT 54 9 encS g m ([]) 0]) [] 0 (ent_of Try.func8 (by kernel_rfl) rfl) (new_string m hm1) rfl rfl rfl (fun _ => rfl) rfl rfl rfl) ?_; rintro g
  refine h_q hflS rfl ?_
  refine h_done (d_seq (d_reg ?_))
  refine h_q hflS rfl ?_
  refine h_act (post := fun _ => [BagT 54 9 encS g m ([]) 0]) rfl (a_call (ent_of Try.func9 (by kernel_rfl) rfl) (fun w hH => Run.known_calls w) rfl rfl rfl) ?_; rintro ⟨⟩
  refine h_q hflS rfl ?_
  refine h_val rfl (.bool false) (fun b w hb hH => exec_cmp rfl rfl rfl (cmp_neq_f (by decide)) hb) ?_
  refine h_q hflS rfl ?_
  refine h_val rfl (.bool false) (fun b w hb hH => exec_pnil_eql (by kernel_rfl) rfl rfl rfl hb) ?_
  refine h_q hflS rfl ?_
  refine h_done (d_else rfl (d_skip (f_to (d_reg ?_))))
  refine h_q hflS rfl ?_
  refine h_done (d_reg ?_)
  refine h_q hflS rfl ?_
  refine h_done (d_reg ?_)
  refine h_q hflS rfl ?_
  refine h_done (d_seq (d_reg ?_))
  refine h_q hflS rfl ?_
  refine h_done (d_block ?_)
  refine d_loop (α := Nat × List (List UInt8) × Int × Int × Int) (fun ⟨i, L, N, pt, kp⟩ => [(1, sl), (4, .bool false), (0, .int .i64 m), (5, .pointer (some ⟨g, 0, none⟩)), (7, .int .i64 (L.length : Int)), (8, .int .i64 pt), (9, .int .i64 kp), (10, .int .i64 ((i : Nat) : Int))]) (fun ⟨i, L, N, pt, kp⟩ => [BagT 54 9 encS g m L N]) (fun ⟨i, L, N, pt, kp⟩ => i ≤ 1000 ∧ (L.length : Int) ≤ m ∧ 0 ≤ kp ∧ kp ≤ pt ∧ pt ≤ (i : Int) ∧ N = pt - kp) (fun ⟨i, L, N, pt, kp⟩ => 1001 - i) (0, [], 0, 0, 0) ⟨(show 0 ≤ 1000 by decide), (show ((([] : List (List UInt8)).length : Nat) : Int) ≤ m by simp; omega), (show (0 : Int) ≤ 0 by decide), (show (0 : Int) ≤ 0 by decide), (show (0 : Int) ≤ ((0 : Nat) : Int) by decide), (show (0 : Int) = 0 - 0 by decide)⟩ ⟨rfl, rfl, rfl, rfl, rfl, rfl, rfl, rfl, trivial⟩ rfl ?_
  rintro ⟨i, L, N, pt, kp⟩ hI
  refine WC2.at_ (env' := [(1, sl), (4, .bool false), (0, .int .i64 m), (5, .pointer (some ⟨g, 0, none⟩)), (7, .int .i64 (L.length : Int)), (8, .int .i64 pt), (9, .int .i64 kp), (10, .int .i64 ((i : Nat) : Int))]) (rs' := [BagT 54 9 encS g m L N]) ⟨rfl, rfl, rfl, rfl, rfl, rfl, rfl, rfl, trivial⟩ rfl ?_
  have hI1 : i ≤ 1000 := hI.1
  have hLm : (L.length : Int) ≤ m := hI.2.1
  have hI3 : 0 ≤ kp ∧ kp ≤ pt ∧ pt ≤ (i : Int) ∧ N = pt - kp := hI.2.2
  have hN : -4611686018427387904 ≤ N ∧ N ≤ 4611686018427387904 := by omega
  refine d_seq ?_
  have h3 : (i < l.length ∧ i < 1000) ∨ ¬ i < l.length ∨ (i < l.length ∧ ¬ i < 1000) := by omega
  rcases h3 with ⟨h4, h5⟩ | h4 | ⟨h4, h5⟩
  · skip
    obtain ⟨x, hx⟩ : ∃ x, l[i]? = some x := ⟨_, List.getElem?_eq_getElem h4⟩
    have hxo := hlo x (List.mem_of_getElem? hx)
    obtain ⟨q, hq⟩ : ∃ q, x.what % 5 = q := ⟨_, rfl⟩
    have hq0 : 0 ≤ q ∧ q < 5 := by omega
    refine d_reg ?_
    refine h_q hflS rfl ?_
    refine h_val rfl (.int .i64 (l.length : Int)) (fun b w hb hH => e_slen (arg_rd hl hH) Try.underlying35 rfl rfl hb) ?_
    refine h_val rfl (.bool true) (fun b w hb hH => exec_cmp rfl rfl rfl (cmp_lss_t (by omega)) hb) ?_
    refine h_q hflS rfl ?_
    refine h_val rfl (.bool true) (fun b w hb hH => exec_cmp rfl rfl rfl (cmp_lss_t (by omega)) hb) ?_
    refine h_q hflS rfl ?_
    refine h_done (d_then rfl (d_skip (f_to (d_seq (d_block (d_seq ?_))))))
    have hq5 : q = 2 ∨ q = 3 ∨ q = 4 ∨ (q ≠ 2 ∧ q ≠ 3 ∧ q ≠ 4) := by omega
    rcases hq5 with hw2 | hw3 | hw4 | ⟨hw2, hw3, hw4⟩
    · skip
      obtain ⟨L1, s1, b1, hR⟩ : ∃ L1 s1 b1, takeB L x.k [] = (L1, s1, b1) := ⟨_, _, _, rfl⟩
      rcases takeB_cs hR with ⟨rfl, hlen⟩ | ⟨rfl, rfl⟩
      · skip
        have hl34 : L1.length ≤ 17179869184 := by omega
        refine d_reg ?_
        refine h_q hflS rfl ?_
        refine h_val rfl (elp sl (i * 3)) (fun b w hb hH => e_sidx okG (arg_rd hl hH) sl_bursarlaw13_Step (j := i) hx rfl rfl rfl hb) ?_
        refine h_val rfl (elp sl (i * 3 + 0)) (fun b w hb hH => e_sfield okG (by decide) (arg_rd hl hH) (j := i) hx fd_bursarlaw13_Step_0 rfl rfl hb) ?_
        refine h_val rfl (.int .i64 x.what) (fun b w hb hH => e_sload okG (by decide) (arg_rd hl hH) (j := i) hx ty_int (off := 0) rfl rfl rfl hb) ?_
        refine h_act (post := fun _ => [BagT 54 9 encS g m L N]) rfl (a_call (ent_of Try.func15 (by kernel_rfl) rfl) (fun w hH => pick w x.what 5 hxo.1 (by decide) hq) rfl rfl rfl) ?_; rintro ⟨⟩
        refine h_done (d_block (d_reg ?_))
        refine h_q hflS rfl ?_
        refine h_val rfl (.bool true) (fun b w hb hH => exec_cmp rfl rfl rfl (cmp_eql_t hw2) hb) ?_
        refine h_q hflS rfl ?_
        refine h_done (d_then rfl (d_reg ?_))
        refine h_q hflS rfl ?_
        refine h_val rfl (elp sl (i * 3)) (fun b w hb hH => e_sidx okG (arg_rd hl hH) sl_bursarlaw13_Step (j := i) hx rfl rfl rfl hb) ?_
        refine h_val rfl (elp sl (i * 3 + 1)) (fun b w hb hH => e_sfield okG (by decide) (arg_rd hl hH) (j := i) hx fd_bursarlaw13_Step_1 rfl rfl hb) ?_
        refine h_val rfl (.int .i64 x.k) (fun b w hb hH => e_sload okG (by decide) (arg_rd hl hH) (j := i) hx ty_int (off := 1) rfl rfl rfl hb) ?_
        refine h_act (post := fun _ => [BagT 54 9 encS g m L1 N]) rfl (a_does (os' := fun _ => [BagT 54 9 encS g m L1 N]) [0] 0 (ent_of Try.func10 (by kernel_rfl) rfl) (take_string g m L N x.k hm256 hLm (L1, s1, true) hR) rfl rfl rfl (fun _ => rfl) rfl rfl rfl) ?_; rintro ⟨⟩
        refine h_q hflS rfl ?_
        refine h_done (d_reg ?_)
        refine h_q hflS rfl ?_
        refine h_done (d_then rfl (d_reg1 ?_))
        refine h_q hflS rfl ?_
        refine h_val rfl (.int .i64 (L1.length : Int)) (fun b w hb hH => exec_ar rfl rfl rfl rfl (by rw [IntWalk.i64_in _ (by omega)]; omega) hb) ?_
        refine h_q hflS rfl ?_
        refine h_nil (f_block (f_to (d_reg ?_)))
        refine h_q hflS rfl ?_
        refine h_act (post := fun _ => [BagT 54 9 encS g m L1 N]) rfl (a_does (os' := fun _ => [BagT 54 9 encS g m L1 N]) [0] 0 (ent_of Try.func14 (by kernel_rfl) rfl) (len_string g m L1 N) rfl rfl rfl (fun _ => rfl) rfl rfl rfl) ?_; rintro ⟨⟩
        refine h_q hflS rfl ?_
        refine h_val rfl (.bool false) (fun b w hb hH => exec_cmp rfl rfl rfl (cmp_neq_f (by simp)) hb) ?_
        refine h_q hflS rfl ?_
        refine h_act (post := fun ua => [Vec 9 1 encS ua L1, BagT 54 9 encS g m L1 N]) rfl (a_does (os' := fun ua => [Vec 9 1 encS ua L1, BagT 54 9 encS g m L1 N]) [0] 0 (ent_of Try.func28 (by kernel_rfl) rfl) (all_string g m L1 N hl34) rfl rfl rfl (fun _ => rfl) rfl rfl rfl) ?_; rintro ua
        refine h_val rfl (.int .i64 (L1.length : Int)) (fun b w hb hH => e_vlen 0 Try.underlying48 rfl rfl rfl hH hb) ?_
        refine h_q hflS rfl ?_
        refine h_val rfl (.bool false) (fun b w hb hH => exec_cmp rfl rfl rfl (cmp_neq_f (by simp)) hb) ?_
        refine h_q hflS rfl ?_
        refine h_val rfl (.bool false) (fun b w hb hH => exec_cmp rfl rfl rfl (cmp_gtr_f (by omega)) hb) ?_
        refine h_q hflS rfl ?_
        refine h_act (post := fun _ => [Vec 9 1 encS ua L1, BagT 54 9 encS g m L1 N]) rfl (a_does (os' := fun _ => [Vec 9 1 encS ua L1, BagT 54 9 encS g m L1 N]) [1] 0 (ent_of Try.func29 (by kernel_rfl) rfl) (lost_string g m L1 N) rfl rfl rfl (fun _ => rfl) rfl rfl rfl) ?_; rintro ⟨⟩
        refine h_q hflS rfl ?_
        refine h_val rfl (.int .i64 (pt - kp)) (fun b w hb hH => exec_ar rfl rfl rfl rfl (IntWalk.i64_in _ (by omega)) hb) ?_
        refine h_val rfl (.bool false) (fun b w hb hH => exec_cmp rfl rfl rfl (cmp_neq_f (by omega)) hb) ?_
        refine h_q hflS rfl ?_
        refine h_done ?_
        refine WC2.keep (env' := [(1, sl), (4, .bool false), (0, .int .i64 m), (5, .pointer (some ⟨g, 0, none⟩)), (8, .int .i64 pt), (9, .int .i64 kp), (10, .int .i64 ((i : Nat) : Int)), (31, .int .i64 ((i : Nat) : Int)), (32, sl), (33, .int .i64 (l.length : Int)), (34, .bool true), (35, .bool true), (36, .int .i64 ((i : Nat) : Int)), (37, .bool true), (38, .bool true), (41, sl), (42, .int .i64 ((i : Nat) : Int)), (43, elp sl (i * 3)), (44, elp sl (i * 3 + 0)), (45, .int .i64 x.what), (46, .int .i64 q), (56, .bool true), (55, .bool true), (58, .pointer (some ⟨g, 0, none⟩)), (59, sl), (60, .int .i64 ((i : Nat) : Int)), (61, elp sl (i * 3)), (62, elp sl (i * 3 + 1)), (63, .int .i64 x.k), (64, .tuple #[.string (bs s1), .bool true]), (57, .tuple #[.string (bs s1), .bool true]), (65, .string (bs s1)), (66, .bool true), (12, .bool true), (67, .bool true), (68, .int .i64 (L.length : Int)), (69, .int .i64 (L1.length : Int)), (7, .int .i64 (L1.length : Int)), (90, .pointer (some ⟨g, 0, none⟩)), (91, .int .i64 (L1.length : Int)), (92, .int .i64 (L1.length : Int)), (93, .bool false), (94, .bool false), (95, .pointer (some ⟨g, 0, none⟩)), (96, ua), (97, .int .i64 (L1.length : Int)), (98, .int .i64 (L1.length : Int)), (99, .bool false), (100, .bool false), (101, .bool false), (102, .int .i64 (L1.length : Int)), (103, .int .i64 m), (104, .bool false), (105, .bool false), (106, .bool false), (107, .pointer (some ⟨g, 0, none⟩)), (108, .int .i64 N), (109, .int .i64 pt), (110, .int .i64 kp), (111, .int .i64 (pt - kp)), (112, .bool false), (113, .bool false)]) ⟨rfl, rfl, rfl, rfl, rfl, rfl, rfl, rfl, rfl, rfl, rfl, rfl, rfl, rfl, rfl, rfl, rfl, rfl, rfl, rfl, rfl, rfl, rfl, rfl, rfl, rfl, rfl, rfl, rfl, rfl, rfl, rfl, rfl, rfl, rfl, rfl, rfl, rfl, rfl, rfl, rfl, rfl, rfl, rfl, rfl, rfl, rfl, rfl, rfl, rfl, rfl, rfl, rfl, rfl, rfl, rfl, rfl, rfl, rfl, rfl, rfl, rfl, trivial⟩ ?_
        refine d_else rfl (d_skip (f_block (f_to (d_reg1 ?_))))
        refine h_q hflS rfl ?_
        refine h_val rfl (.int .i64 ((i + 1 : Nat) : Int)) (fun b w hb hH => exec_ar rfl rfl rfl rfl (by rw [IntWalk.i64_in _ (by omega)]; omega) hb) ?_
        refine h_q hflS rfl ?_
        refine h_nil ?_
        exact f_again (i + 1, L1, N, pt, kp) 1 ⟨show i + 1 ≤ 1000 by omega, by show ((L1).length : Int) ≤ m; omega, by show 0 ≤ kp; omega, by show kp ≤ pt; omega, by show pt ≤ ((i + 1 : Nat) : Int); omega, by show N = pt - kp; omega⟩ (show 1001 - (i + 1) < 1001 - i by omega) ⟨rfl, rfl, rfl, rfl, rfl, rfl, rfl, rfl, trivial⟩ rfl
      · skip
        have hl34 : L.length ≤ 17179869184 := by omega
        refine d_reg ?_
        refine h_q hflS rfl ?_
        refine h_val rfl (elp sl (i * 3)) (fun b w hb hH => e_sidx okG (arg_rd hl hH) sl_bursarlaw13_Step (j := i) hx rfl rfl rfl hb) ?_
        refine h_val rfl (elp sl (i * 3 + 0)) (fun b w hb hH => e_sfield okG (by decide) (arg_rd hl hH) (j := i) hx fd_bursarlaw13_Step_0 rfl rfl hb) ?_
        refine h_val rfl (.int .i64 x.what) (fun b w hb hH => e_sload okG (by decide) (arg_rd hl hH) (j := i) hx ty_int (off := 0) rfl rfl rfl hb) ?_
        refine h_act (post := fun _ => [BagT 54 9 encS g m L N]) rfl (a_call (ent_of Try.func15 (by kernel_rfl) rfl) (fun w hH => pick w x.what 5 hxo.1 (by decide) hq) rfl rfl rfl) ?_; rintro ⟨⟩
        refine h_done (d_block (d_reg ?_))
        refine h_q hflS rfl ?_
        refine h_val rfl (.bool true) (fun b w hb hH => exec_cmp rfl rfl rfl (cmp_eql_t hw2) hb) ?_
        refine h_q hflS rfl ?_
        refine h_done (d_then rfl (d_reg ?_))
        refine h_q hflS rfl ?_
        refine h_val rfl (elp sl (i * 3)) (fun b w hb hH => e_sidx okG (arg_rd hl hH) sl_bursarlaw13_Step (j := i) hx rfl rfl rfl hb) ?_
        refine h_val rfl (elp sl (i * 3 + 1)) (fun b w hb hH => e_sfield okG (by decide) (arg_rd hl hH) (j := i) hx fd_bursarlaw13_Step_1 rfl rfl hb) ?_
        refine h_val rfl (.int .i64 x.k) (fun b w hb hH => e_sload okG (by decide) (arg_rd hl hH) (j := i) hx ty_int (off := 1) rfl rfl rfl hb) ?_
        refine h_act (post := fun _ => [BagT 54 9 encS g m L N]) rfl (a_does (os' := fun _ => [BagT 54 9 encS g m L N]) [0] 0 (ent_of Try.func10 (by kernel_rfl) rfl) (take_string g m L N x.k hm256 hLm (L, s1, false) hR) rfl rfl rfl (fun _ => rfl) rfl rfl rfl) ?_; rintro ⟨⟩
        refine h_q hflS rfl ?_
        refine h_done (d_reg ?_)
        refine h_q hflS rfl ?_
        refine h_done (d_else rfl (d_skip (f_block (f_to (d_reg ?_)))))
        refine h_q hflS rfl ?_
        refine h_act (post := fun _ => [BagT 54 9 encS g m L N]) rfl (a_does (os' := fun _ => [BagT 54 9 encS g m L N]) [0] 0 (ent_of Try.func14 (by kernel_rfl) rfl) (len_string g m L N) rfl rfl rfl (fun _ => rfl) rfl rfl rfl) ?_; rintro ⟨⟩
        refine h_q hflS rfl ?_
        refine h_val rfl (.bool false) (fun b w hb hH => exec_cmp rfl rfl rfl (cmp_neq_f (by simp)) hb) ?_
        refine h_q hflS rfl ?_
        refine h_act (post := fun ua => [Vec 9 1 encS ua L, BagT 54 9 encS g m L N]) rfl (a_does (os' := fun ua => [Vec 9 1 encS ua L, BagT 54 9 encS g m L N]) [0] 0 (ent_of Try.func28 (by kernel_rfl) rfl) (all_string g m L N hl34) rfl rfl rfl (fun _ => rfl) rfl rfl rfl) ?_; rintro ua
        refine h_val rfl (.int .i64 (L.length : Int)) (fun b w hb hH => e_vlen 0 Try.underlying48 rfl rfl rfl hH hb) ?_
        refine h_q hflS rfl ?_
        refine h_val rfl (.bool false) (fun b w hb hH => exec_cmp rfl rfl rfl (cmp_neq_f (by simp)) hb) ?_
        refine h_q hflS rfl ?_
        refine h_val rfl (.bool false) (fun b w hb hH => exec_cmp rfl rfl rfl (cmp_gtr_f (by omega)) hb) ?_
        refine h_q hflS rfl ?_
        refine h_act (post := fun _ => [Vec 9 1 encS ua L, BagT 54 9 encS g m L N]) rfl (a_does (os' := fun _ => [Vec 9 1 encS ua L, BagT 54 9 encS g m L N]) [1] 0 (ent_of Try.func29 (by kernel_rfl) rfl) (lost_string g m L N) rfl rfl rfl (fun _ => rfl) rfl rfl rfl) ?_; rintro ⟨⟩
        refine h_q hflS rfl ?_
        refine h_val rfl (.int .i64 (pt - kp)) (fun b w hb hH => exec_ar rfl rfl rfl rfl (IntWalk.i64_in _ (by omega)) hb) ?_
        refine h_val rfl (.bool false) (fun b w hb hH => exec_cmp rfl rfl rfl (cmp_neq_f (by omega)) hb) ?_
        refine h_q hflS rfl ?_
        refine h_done ?_
        refine WC2.keep (env' := [(1, sl), (4, .bool false), (0, .int .i64 m), (5, .pointer (some ⟨g, 0, none⟩)), (7, .int .i64 (L.length : Int)), (8, .int .i64 pt), (9, .int .i64 kp), (10, .int .i64 ((i : Nat) : Int)), (31, .int .i64 ((i : Nat) : Int)), (32, sl), (33, .int .i64 (l.length : Int)), (34, .bool true), (35, .bool true), (36, .int .i64 ((i : Nat) : Int)), (37, .bool true), (38, .bool true), (41, sl), (42, .int .i64 ((i : Nat) : Int)), (43, elp sl (i * 3)), (44, elp sl (i * 3 + 0)), (45, .int .i64 x.what), (46, .int .i64 q), (56, .bool true), (55, .bool true), (58, .pointer (some ⟨g, 0, none⟩)), (59, sl), (60, .int .i64 ((i : Nat) : Int)), (61, elp sl (i * 3)), (62, elp sl (i * 3 + 1)), (63, .int .i64 x.k), (64, .tuple #[.string (bs s1), .bool false]), (57, .tuple #[.string (bs s1), .bool false]), (65, .string (bs s1)), (66, .bool false), (12, .bool false), (67, .bool false), (90, .pointer (some ⟨g, 0, none⟩)), (91, .int .i64 (L.length : Int)), (92, .int .i64 (L.length : Int)), (93, .bool false), (94, .bool false), (95, .pointer (some ⟨g, 0, none⟩)), (96, ua), (97, .int .i64 (L.length : Int)), (98, .int .i64 (L.length : Int)), (99, .bool false), (100, .bool false), (101, .bool false), (102, .int .i64 (L.length : Int)), (103, .int .i64 m), (104, .bool false), (105, .bool false), (106, .bool false), (107, .pointer (some ⟨g, 0, none⟩)), (108, .int .i64 N), (109, .int .i64 pt), (110, .int .i64 kp), (111, .int .i64 (pt - kp)), (112, .bool false), (113, .bool false)]) ⟨rfl, rfl, rfl, rfl, rfl, rfl, rfl, rfl, rfl, rfl, rfl, rfl, rfl, rfl, rfl, rfl, rfl, rfl, rfl, rfl, rfl, rfl, rfl, rfl, rfl, rfl, rfl, rfl, rfl, rfl, rfl, rfl, rfl, rfl, rfl, rfl, rfl, rfl, rfl, rfl, rfl, rfl, rfl, rfl, rfl, rfl, rfl, rfl, rfl, rfl, rfl, rfl, rfl, rfl, rfl, rfl, rfl, rfl, rfl, rfl, trivial⟩ ?_
        refine d_else rfl (d_skip (f_block (f_to (d_reg1 ?_))))
        refine h_q hflS rfl ?_
        refine h_val rfl (.int .i64 ((i + 1 : Nat) : Int)) (fun b w hb hH => exec_ar rfl rfl rfl rfl (by rw [IntWalk.i64_in _ (by omega)]; omega) hb) ?_
        refine h_q hflS rfl ?_
        refine h_nil ?_
        exact f_again (i + 1, L, N, pt, kp) 1 ⟨show i + 1 ≤ 1000 by omega, by show ((L).length : Int) ≤ m; omega, by show 0 ≤ kp; omega, by show kp ≤ pt; omega, by show pt ≤ ((i + 1 : Nat) : Int); omega, by show N = pt - kp; omega⟩ (show 1001 - (i + 1) < 1001 - i by omega) ⟨rfl, rfl, rfl, rfl, rfl, rfl, rfl, rfl, trivial⟩ rfl
    · skip
      obtain ⟨L1, b1, hR⟩ : ∃ L1 b1, dblB m L x.k = (L1, b1) := ⟨_, _, rfl⟩
      rcases dblB_cs hR with ⟨rfl, hlen, hlt⟩ | ⟨rfl, rfl⟩
      · skip
        have hl34 : L1.length ≤ 17179869184 := by omega
        refine d_reg ?_
        refine h_q hflS rfl ?_
        refine h_val rfl (elp sl (i * 3)) (fun b w hb hH => e_sidx okG (arg_rd hl hH) sl_bursarlaw13_Step (j := i) hx rfl rfl rfl hb) ?_
        refine h_val rfl (elp sl (i * 3 + 0)) (fun b w hb hH => e_sfield okG (by decide) (arg_rd hl hH) (j := i) hx fd_bursarlaw13_Step_0 rfl rfl hb) ?_
        refine h_val rfl (.int .i64 x.what) (fun b w hb hH => e_sload okG (by decide) (arg_rd hl hH) (j := i) hx ty_int (off := 0) rfl rfl rfl hb) ?_
        refine h_act (post := fun _ => [BagT 54 9 encS g m L N]) rfl (a_call (ent_of Try.func15 (by kernel_rfl) rfl) (fun w hH => pick w x.what 5 hxo.1 (by decide) hq) rfl rfl rfl) ?_; rintro ⟨⟩
        refine h_done (d_block (d_reg ?_))
        refine h_q hflS rfl ?_
        refine h_val rfl (.bool false) (fun b w hb hH => exec_cmp rfl rfl rfl (cmp_eql_f (by omega)) hb) ?_
        refine h_q hflS rfl ?_
        refine h_done (d_else rfl (d_reg ?_))
        refine h_q hflS rfl ?_
        refine h_val rfl (.bool true) (fun b w hb hH => exec_cmp rfl rfl rfl (cmp_eql_t hw3) hb) ?_
        refine h_q hflS rfl ?_
        refine h_done (d_then rfl (d_reg ?_))
        refine h_q hflS rfl ?_
        refine h_val rfl (elp sl (i * 3)) (fun b w hb hH => e_sidx okG (arg_rd hl hH) sl_bursarlaw13_Step (j := i) hx rfl rfl rfl hb) ?_
        refine h_val rfl (elp sl (i * 3 + 1)) (fun b w hb hH => e_sfield okG (by decide) (arg_rd hl hH) (j := i) hx fd_bursarlaw13_Step_1 rfl rfl hb) ?_
        refine h_val rfl (.int .i64 x.k) (fun b w hb hH => e_sload okG (by decide) (arg_rd hl hH) (j := i) hx ty_int (off := 1) rfl rfl rfl hb) ?_
        refine h_act (post := fun _ => [BagT 54 9 encS g m L1 N]) rfl (a_does (os' := fun _ => [BagT 54 9 encS g m L1 N]) [0] 0 (ent_of Try.func13 (by kernel_rfl) rfl) (dbl_string g m L N x.k hm256 hLm hN (L1, true) hR) rfl rfl rfl (fun _ => rfl) rfl rfl rfl) ?_; rintro ⟨⟩
        refine h_done (d_then rfl (d_reg1 ?_))
        refine h_q hflS rfl ?_
        refine h_val rfl (.int .i64 (L1.length : Int)) (fun b w hb hH => exec_ar rfl rfl rfl rfl (by rw [IntWalk.i64_in _ (by omega)]; omega) hb) ?_
        refine h_q hflS rfl ?_
        refine h_nil (f_block (f_to (d_reg ?_)))
        refine h_q hflS rfl ?_
        refine h_act (post := fun _ => [BagT 54 9 encS g m L1 N]) rfl (a_does (os' := fun _ => [BagT 54 9 encS g m L1 N]) [0] 0 (ent_of Try.func14 (by kernel_rfl) rfl) (len_string g m L1 N) rfl rfl rfl (fun _ => rfl) rfl rfl rfl) ?_; rintro ⟨⟩
        refine h_q hflS rfl ?_
        refine h_val rfl (.bool false) (fun b w hb hH => exec_cmp rfl rfl rfl (cmp_neq_f (by simp)) hb) ?_
        refine h_q hflS rfl ?_
        refine h_act (post := fun ua => [Vec 9 1 encS ua L1, BagT 54 9 encS g m L1 N]) rfl (a_does (os' := fun ua => [Vec 9 1 encS ua L1, BagT 54 9 encS g m L1 N]) [0] 0 (ent_of Try.func28 (by kernel_rfl) rfl) (all_string g m L1 N hl34) rfl rfl rfl (fun _ => rfl) rfl rfl rfl) ?_; rintro ua
        refine h_val rfl (.int .i64 (L1.length : Int)) (fun b w hb hH => e_vlen 0 Try.underlying48 rfl rfl rfl hH hb) ?_
        refine h_q hflS rfl ?_
        refine h_val rfl (.bool false) (fun b w hb hH => exec_cmp rfl rfl rfl (cmp_neq_f (by simp)) hb) ?_
        refine h_q hflS rfl ?_
        refine h_val rfl (.bool false) (fun b w hb hH => exec_cmp rfl rfl rfl (cmp_gtr_f (by omega)) hb) ?_
        refine h_q hflS rfl ?_
        refine h_act (post := fun _ => [Vec 9 1 encS ua L1, BagT 54 9 encS g m L1 N]) rfl (a_does (os' := fun _ => [Vec 9 1 encS ua L1, BagT 54 9 encS g m L1 N]) [1] 0 (ent_of Try.func29 (by kernel_rfl) rfl) (lost_string g m L1 N) rfl rfl rfl (fun _ => rfl) rfl rfl rfl) ?_; rintro ⟨⟩
        refine h_q hflS rfl ?_
        refine h_val rfl (.int .i64 (pt - kp)) (fun b w hb hH => exec_ar rfl rfl rfl rfl (IntWalk.i64_in _ (by omega)) hb) ?_
        refine h_val rfl (.bool false) (fun b w hb hH => exec_cmp rfl rfl rfl (cmp_neq_f (by omega)) hb) ?_
        refine h_q hflS rfl ?_
        refine h_done (d_else rfl (d_skip (f_block (f_to (d_reg1 ?_)))))
        refine h_q hflS rfl ?_
        refine h_val rfl (.int .i64 ((i + 1 : Nat) : Int)) (fun b w hb hH => exec_ar rfl rfl rfl rfl (by rw [IntWalk.i64_in _ (by omega)]; omega) hb) ?_
        refine h_q hflS rfl ?_
        refine h_nil ?_
        exact f_again (i + 1, L1, N, pt, kp) 1 ⟨show i + 1 ≤ 1000 by omega, by show ((L1).length : Int) ≤ m; omega, by show 0 ≤ kp; omega, by show kp ≤ pt; omega, by show pt ≤ ((i + 1 : Nat) : Int); omega, by show N = pt - kp; omega⟩ (show 1001 - (i + 1) < 1001 - i by omega) ⟨rfl, rfl, rfl, rfl, rfl, rfl, rfl, rfl, trivial⟩ rfl
      · skip
        have hl34 : L.length ≤ 17179869184 := by omega
        refine d_reg ?_
        refine h_q hflS rfl ?_
        refine h_val rfl (elp sl (i * 3)) (fun b w hb hH => e_sidx okG (arg_rd hl hH) sl_bursarlaw13_Step (j := i) hx rfl rfl rfl hb) ?_
        refine h_val rfl (elp sl (i * 3 + 0)) (fun b w hb hH => e_sfield okG (by decide) (arg_rd hl hH) (j := i) hx fd_bursarlaw13_Step_0 rfl rfl hb) ?_
        refine h_val rfl (.int .i64 x.what) (fun b w hb hH => e_sload okG (by decide) (arg_rd hl hH) (j := i) hx ty_int (off := 0) rfl rfl rfl hb) ?_
        refine h_act (post := fun _ => [BagT 54 9 encS g m L N]) rfl (a_call (ent_of Try.func15 (by kernel_rfl) rfl) (fun w hH => pick w x.what 5 hxo.1 (by decide) hq) rfl rfl rfl) ?_; rintro ⟨⟩
        refine h_done (d_block (d_reg ?_))
        refine h_q hflS rfl ?_
        refine h_val rfl (.bool false) (fun b w hb hH => exec_cmp rfl rfl rfl (cmp_eql_f (by omega)) hb) ?_
        refine h_q hflS rfl ?_
        refine h_done (d_else rfl (d_reg ?_))
        refine h_q hflS rfl ?_
        refine h_val rfl (.bool true) (fun b w hb hH => exec_cmp rfl rfl rfl (cmp_eql_t hw3) hb) ?_
        refine h_q hflS rfl ?_
        refine h_done (d_then rfl (d_reg ?_))
        refine h_q hflS rfl ?_
        refine h_val rfl (elp sl (i * 3)) (fun b w hb hH => e_sidx okG (arg_rd hl hH) sl_bursarlaw13_Step (j := i) hx rfl rfl rfl hb) ?_
        refine h_val rfl (elp sl (i * 3 + 1)) (fun b w hb hH => e_sfield okG (by decide) (arg_rd hl hH) (j := i) hx fd_bursarlaw13_Step_1 rfl rfl hb) ?_
        refine h_val rfl (.int .i64 x.k) (fun b w hb hH => e_sload okG (by decide) (arg_rd hl hH) (j := i) hx ty_int (off := 1) rfl rfl rfl hb) ?_
        refine h_act (post := fun _ => [BagT 54 9 encS g m L N]) rfl (a_does (os' := fun _ => [BagT 54 9 encS g m L N]) [0] 0 (ent_of Try.func13 (by kernel_rfl) rfl) (dbl_string g m L N x.k hm256 hLm hN (L, false) hR) rfl rfl rfl (fun _ => rfl) rfl rfl rfl) ?_; rintro ⟨⟩
        refine h_done (d_else rfl (d_skip (f_block (f_to (d_reg ?_)))))
        refine h_q hflS rfl ?_
        refine h_act (post := fun _ => [BagT 54 9 encS g m L N]) rfl (a_does (os' := fun _ => [BagT 54 9 encS g m L N]) [0] 0 (ent_of Try.func14 (by kernel_rfl) rfl) (len_string g m L N) rfl rfl rfl (fun _ => rfl) rfl rfl rfl) ?_; rintro ⟨⟩
        refine h_q hflS rfl ?_
        refine h_val rfl (.bool false) (fun b w hb hH => exec_cmp rfl rfl rfl (cmp_neq_f (by simp)) hb) ?_
        refine h_q hflS rfl ?_
        refine h_act (post := fun ua => [Vec 9 1 encS ua L, BagT 54 9 encS g m L N]) rfl (a_does (os' := fun ua => [Vec 9 1 encS ua L, BagT 54 9 encS g m L N]) [0] 0 (ent_of Try.func28 (by kernel_rfl) rfl) (all_string g m L N hl34) rfl rfl rfl (fun _ => rfl) rfl rfl rfl) ?_; rintro ua
        refine h_val rfl (.int .i64 (L.length : Int)) (fun b w hb hH => e_vlen 0 Try.underlying48 rfl rfl rfl hH hb) ?_
        refine h_q hflS rfl ?_
        refine h_val rfl (.bool false) (fun b w hb hH => exec_cmp rfl rfl rfl (cmp_neq_f (by simp)) hb) ?_
        refine h_q hflS rfl ?_
        refine h_val rfl (.bool false) (fun b w hb hH => exec_cmp rfl rfl rfl (cmp_gtr_f (by omega)) hb) ?_
        refine h_q hflS rfl ?_
        refine h_act (post := fun _ => [Vec 9 1 encS ua L, BagT 54 9 encS g m L N]) rfl (a_does (os' := fun _ => [Vec 9 1 encS ua L, BagT 54 9 encS g m L N]) [1] 0 (ent_of Try.func29 (by kernel_rfl) rfl) (lost_string g m L N) rfl rfl rfl (fun _ => rfl) rfl rfl rfl) ?_; rintro ⟨⟩
        refine h_q hflS rfl ?_
        refine h_val rfl (.int .i64 (pt - kp)) (fun b w hb hH => exec_ar rfl rfl rfl rfl (IntWalk.i64_in _ (by omega)) hb) ?_
        refine h_val rfl (.bool false) (fun b w hb hH => exec_cmp rfl rfl rfl (cmp_neq_f (by omega)) hb) ?_
        refine h_q hflS rfl ?_
        refine h_done (d_else rfl (d_skip (f_block (f_to (d_reg1 ?_)))))
        refine h_q hflS rfl ?_
        refine h_val rfl (.int .i64 ((i + 1 : Nat) : Int)) (fun b w hb hH => exec_ar rfl rfl rfl rfl (by rw [IntWalk.i64_in _ (by omega)]; omega) hb) ?_
        refine h_q hflS rfl ?_
        refine h_nil ?_
        exact f_again (i + 1, L, N, pt, kp) 1 ⟨show i + 1 ≤ 1000 by omega, by show ((L).length : Int) ≤ m; omega, by show 0 ≤ kp; omega, by show kp ≤ pt; omega, by show pt ≤ ((i + 1 : Nat) : Int); omega, by show N = pt - kp; omega⟩ (show 1001 - (i + 1) < 1001 - i by omega) ⟨rfl, rfl, rfl, rfl, rfl, rfl, rfl, rfl, trivial⟩ rfl
    · skip
      have hl34 : L.length ≤ 17179869184 := by omega
      obtain ⟨R, hR⟩ : ∃ R, peekB L x.k [] = R := ⟨_, rfl⟩
      refine d_reg ?_
      refine h_q hflS rfl ?_
      refine h_val rfl (elp sl (i * 3)) (fun b w hb hH => e_sidx okG (arg_rd hl hH) sl_bursarlaw13_Step (j := i) hx rfl rfl rfl hb) ?_
      refine h_val rfl (elp sl (i * 3 + 0)) (fun b w hb hH => e_sfield okG (by decide) (arg_rd hl hH) (j := i) hx fd_bursarlaw13_Step_0 rfl rfl hb) ?_
      refine h_val rfl (.int .i64 x.what) (fun b w hb hH => e_sload okG (by decide) (arg_rd hl hH) (j := i) hx ty_int (off := 0) rfl rfl rfl hb) ?_
      refine h_act (post := fun _ => [BagT 54 9 encS g m L N]) rfl (a_call (ent_of Try.func15 (by kernel_rfl) rfl) (fun w hH => pick w x.what 5 hxo.1 (by decide) hq) rfl rfl rfl) ?_; rintro ⟨⟩
      refine h_done (d_block (d_reg ?_))
      refine h_q hflS rfl ?_
      refine h_val rfl (.bool false) (fun b w hb hH => exec_cmp rfl rfl rfl (cmp_eql_f (by omega)) hb) ?_
      refine h_q hflS rfl ?_
      refine h_done (d_else rfl (d_reg ?_))
      refine h_q hflS rfl ?_
      refine h_val rfl (.bool false) (fun b w hb hH => exec_cmp rfl rfl rfl (cmp_eql_f (by omega)) hb) ?_
      refine h_q hflS rfl ?_
      refine h_done (d_else rfl (d_reg ?_))
      refine h_q hflS rfl ?_
      refine h_val rfl (.bool true) (fun b w hb hH => exec_cmp rfl rfl rfl (cmp_eql_t hw4) hb) ?_
      refine h_q hflS rfl ?_
      refine h_done (d_then rfl (d_reg1 ?_))
      refine h_q hflS rfl ?_
      refine h_val rfl (elp sl (i * 3)) (fun b w hb hH => e_sidx okG (arg_rd hl hH) sl_bursarlaw13_Step (j := i) hx rfl rfl rfl hb) ?_
      refine h_val rfl (elp sl (i * 3 + 1)) (fun b w hb hH => e_sfield okG (by decide) (arg_rd hl hH) (j := i) hx fd_bursarlaw13_Step_1 rfl rfl hb) ?_
      refine h_val rfl (.int .i64 x.k) (fun b w hb hH => e_sload okG (by decide) (arg_rd hl hH) (j := i) hx ty_int (off := 1) rfl rfl rfl hb) ?_
      refine h_act (post := fun _ => [BagT 54 9 encS g m L N]) rfl (a_does (os' := fun _ => [BagT 54 9 encS g m L N]) [0] 0 (ent_of Try.func12 (by kernel_rfl) rfl) (peek_string g m L N x.k R hR) rfl rfl rfl (fun _ => rfl) rfl rfl rfl) ?_; rintro ⟨⟩
      refine h_nil (f_block (f_to (d_reg ?_)))
      refine h_q hflS rfl ?_
      refine h_act (post := fun _ => [BagT 54 9 encS g m L N]) rfl (a_does (os' := fun _ => [BagT 54 9 encS g m L N]) [0] 0 (ent_of Try.func14 (by kernel_rfl) rfl) (len_string g m L N) rfl rfl rfl (fun _ => rfl) rfl rfl rfl) ?_; rintro ⟨⟩
      refine h_q hflS rfl ?_
      refine h_val rfl (.bool false) (fun b w hb hH => exec_cmp rfl rfl rfl (cmp_neq_f (by simp)) hb) ?_
      refine h_q hflS rfl ?_
      refine h_act (post := fun ua => [Vec 9 1 encS ua L, BagT 54 9 encS g m L N]) rfl (a_does (os' := fun ua => [Vec 9 1 encS ua L, BagT 54 9 encS g m L N]) [0] 0 (ent_of Try.func28 (by kernel_rfl) rfl) (all_string g m L N hl34) rfl rfl rfl (fun _ => rfl) rfl rfl rfl) ?_; rintro ua
      refine h_val rfl (.int .i64 (L.length : Int)) (fun b w hb hH => e_vlen 0 Try.underlying48 rfl rfl rfl hH hb) ?_
      refine h_q hflS rfl ?_
      refine h_val rfl (.bool false) (fun b w hb hH => exec_cmp rfl rfl rfl (cmp_neq_f (by simp)) hb) ?_
      refine h_q hflS rfl ?_
      refine h_val rfl (.bool false) (fun b w hb hH => exec_cmp rfl rfl rfl (cmp_gtr_f (by omega)) hb) ?_
      refine h_q hflS rfl ?_
      refine h_act (post := fun _ => [Vec 9 1 encS ua L, BagT 54 9 encS g m L N]) rfl (a_does (os' := fun _ => [Vec 9 1 encS ua L, BagT 54 9 encS g m L N]) [1] 0 (ent_of Try.func29 (by kernel_rfl) rfl) (lost_string g m L N) rfl rfl rfl (fun _ => rfl) rfl rfl rfl) ?_; rintro ⟨⟩
      refine h_q hflS rfl ?_
      refine h_val rfl (.int .i64 (pt - kp)) (fun b w hb hH => exec_ar rfl rfl rfl rfl (IntWalk.i64_in _ (by omega)) hb) ?_
      refine h_val rfl (.bool false) (fun b w hb hH => exec_cmp rfl rfl rfl (cmp_neq_f (by omega)) hb) ?_
      refine h_q hflS rfl ?_
      refine h_done ?_
      refine WC2.keep (env' := [(1, sl), (4, .bool false), (0, .int .i64 m), (5, .pointer (some ⟨g, 0, none⟩)), (7, .int .i64 (L.length : Int)), (8, .int .i64 pt), (9, .int .i64 kp), (10, .int .i64 ((i : Nat) : Int)), (31, .int .i64 ((i : Nat) : Int)), (32, sl), (33, .int .i64 (l.length : Int)), (34, .bool true), (35, .bool true), (36, .int .i64 ((i : Nat) : Int)), (37, .bool true), (38, .bool true), (41, sl), (42, .int .i64 ((i : Nat) : Int)), (43, elp sl (i * 3)), (44, elp sl (i * 3 + 0)), (45, .int .i64 x.what), (46, .int .i64 q), (56, .bool false), (55, .bool false), (71, .bool false), (70, .bool false), (82, .bool true), (81, .bool true), (83, .pointer (some ⟨g, 0, none⟩)), (84, sl), (85, .int .i64 ((i : Nat) : Int)), (86, elp sl (i * 3)), (87, elp sl (i * 3 + 1)), (88, .int .i64 x.k), (90, .pointer (some ⟨g, 0, none⟩)), (91, .int .i64 (L.length : Int)), (92, .int .i64 (L.length : Int)), (93, .bool false), (94, .bool false), (95, .pointer (some ⟨g, 0, none⟩)), (96, ua), (97, .int .i64 (L.length : Int)), (98, .int .i64 (L.length : Int)), (99, .bool false), (100, .bool false), (101, .bool false), (102, .int .i64 (L.length : Int)), (103, .int .i64 m), (104, .bool false), (105, .bool false), (106, .bool false), (107, .pointer (some ⟨g, 0, none⟩)), (108, .int .i64 N), (109, .int .i64 pt), (110, .int .i64 kp), (111, .int .i64 (pt - kp)), (112, .bool false), (113, .bool false)]) ⟨rfl, rfl, rfl, rfl, rfl, rfl, rfl, rfl, rfl, rfl, rfl, rfl, rfl, rfl, rfl, rfl, rfl, rfl, rfl, rfl, rfl, rfl, rfl, rfl, rfl, rfl, rfl, rfl, rfl, rfl, rfl, rfl, rfl, rfl, rfl, rfl, rfl, rfl, rfl, rfl, rfl, rfl, rfl, rfl, rfl, rfl, rfl, rfl, rfl, rfl, rfl, rfl, rfl, rfl, rfl, rfl, rfl, rfl, trivial⟩ ?_
      refine d_else rfl (d_skip (f_block (f_to (d_reg1 ?_))))
      refine h_q hflS rfl ?_
      refine h_val rfl (.int .i64 ((i + 1 : Nat) : Int)) (fun b w hb hH => exec_ar rfl rfl rfl rfl (by rw [IntWalk.i64_in _ (by omega)]; omega) hb) ?_
      refine h_q hflS rfl ?_
      refine h_nil ?_
      exact f_again (i + 1, L, N, pt, kp) 1 ⟨show i + 1 ≤ 1000 by omega, by show ((L).length : Int) ≤ m; omega, by show 0 ≤ kp; omega, by show kp ≤ pt; omega, by show pt ≤ ((i + 1 : Nat) : Int); omega, by show N = pt - kp; omega⟩ (show 1001 - (i + 1) < 1001 - i by omega) ⟨rfl, rfl, rfl, rfl, rfl, rfl, rfl, rfl, trivial⟩ rfl
    · skip
      obtain ⟨L1, N1, b1, hR⟩ : ∃ L1 N1 b1, putB m L N [120] = (L1, N1, b1) := ⟨_, _, _, rfl⟩
      rcases putB_cs hR with ⟨rfl, hlen, hN1, hlt⟩ | ⟨rfl, rfl, hN1⟩
      · skip
        have hl34 : L1.length ≤ 17179869184 := by omega
        refine d_reg ?_
        refine h_q hflS rfl ?_
        refine h_val rfl (elp sl (i * 3)) (fun b w hb hH => e_sidx okG (arg_rd hl hH) sl_bursarlaw13_Step (j := i) hx rfl rfl rfl hb) ?_
        refine h_val rfl (elp sl (i * 3 + 0)) (fun b w hb hH => e_sfield okG (by decide) (arg_rd hl hH) (j := i) hx fd_bursarlaw13_Step_0 rfl rfl hb) ?_
        refine h_val rfl (.int .i64 x.what) (fun b w hb hH => e_sload okG (by decide) (arg_rd hl hH) (j := i) hx ty_int (off := 0) rfl rfl rfl hb) ?_
        refine h_act (post := fun _ => [BagT 54 9 encS g m L N]) rfl (a_call (ent_of Try.func15 (by kernel_rfl) rfl) (fun w hH => pick w x.what 5 hxo.1 (by decide) hq) rfl rfl rfl) ?_; rintro ⟨⟩
        refine h_done (d_block (d_reg ?_))
        refine h_q hflS rfl ?_
        refine h_val rfl (.bool false) (fun b w hb hH => exec_cmp rfl rfl rfl (cmp_eql_f (by omega)) hb) ?_
        refine h_q hflS rfl ?_
        refine h_done (d_else rfl (d_reg ?_))
        refine h_q hflS rfl ?_
        refine h_val rfl (.bool false) (fun b w hb hH => exec_cmp rfl rfl rfl (cmp_eql_f (by omega)) hb) ?_
        refine h_q hflS rfl ?_
        refine h_done (d_else rfl (d_reg ?_))
        refine h_q hflS rfl ?_
        refine h_val rfl (.bool false) (fun b w hb hH => exec_cmp rfl rfl rfl (cmp_eql_f (by omega)) hb) ?_
        refine h_q hflS rfl ?_
        refine h_done (d_else rfl (d_reg ?_))
        refine h_q hflS rfl ?_
        refine h_val rfl (.int .i64 (pt + 1)) (fun b w hb hH => exec_ar rfl rfl rfl rfl (IntWalk.i64_in _ (by omega)) hb) ?_
        refine h_q hflS rfl ?_
        refine h_done (d_reg ?_)
        refine h_q hflS rfl ?_
        refine h_act (post := fun _ => [BagT 54 9 encS g m L1 N1]) rfl (a_does (os' := fun _ => [BagT 54 9 encS g m L1 N1]) [0] 0 (ent_of Try.func11 (by kernel_rfl) rfl) (put_string g m L N [120] hm256 hLm hN (L1, N1, true) hR) rfl rfl rfl (fun _ => rfl) rfl rfl rfl) ?_; rintro ⟨⟩
        refine h_done (d_then rfl (d_reg ?_))
        refine h_q hflS rfl ?_
        refine h_val rfl (.int .i64 (L1.length : Int)) (fun b w hb hH => exec_ar rfl rfl rfl rfl (by rw [IntWalk.i64_in _ (by omega)]; omega) hb) ?_
        refine h_q hflS rfl ?_
        refine h_done (d_reg1 ?_)
        refine h_q hflS rfl ?_
        refine h_val rfl (.int .i64 (kp + 1)) (fun b w hb hH => exec_ar rfl rfl rfl rfl (IntWalk.i64_in _ (by omega)) hb) ?_
        refine h_q hflS rfl ?_
        refine h_nil (f_block (f_to (d_reg ?_)))
        refine h_q hflS rfl ?_
        refine h_act (post := fun _ => [BagT 54 9 encS g m L1 N1]) rfl (a_does (os' := fun _ => [BagT 54 9 encS g m L1 N1]) [0] 0 (ent_of Try.func14 (by kernel_rfl) rfl) (len_string g m L1 N1) rfl rfl rfl (fun _ => rfl) rfl rfl rfl) ?_; rintro ⟨⟩
        refine h_q hflS rfl ?_
        refine h_val rfl (.bool false) (fun b w hb hH => exec_cmp rfl rfl rfl (cmp_neq_f (by simp)) hb) ?_
        refine h_q hflS rfl ?_
        refine h_act (post := fun ua => [Vec 9 1 encS ua L1, BagT 54 9 encS g m L1 N1]) rfl (a_does (os' := fun ua => [Vec 9 1 encS ua L1, BagT 54 9 encS g m L1 N1]) [0] 0 (ent_of Try.func28 (by kernel_rfl) rfl) (all_string g m L1 N1 hl34) rfl rfl rfl (fun _ => rfl) rfl rfl rfl) ?_; rintro ua
        refine h_val rfl (.int .i64 (L1.length : Int)) (fun b w hb hH => e_vlen 0 Try.underlying48 rfl rfl rfl hH hb) ?_
        refine h_q hflS rfl ?_
        refine h_val rfl (.bool false) (fun b w hb hH => exec_cmp rfl rfl rfl (cmp_neq_f (by simp)) hb) ?_
        refine h_q hflS rfl ?_
        refine h_val rfl (.bool false) (fun b w hb hH => exec_cmp rfl rfl rfl (cmp_gtr_f (by omega)) hb) ?_
        refine h_q hflS rfl ?_
        refine h_act (post := fun _ => [Vec 9 1 encS ua L1, BagT 54 9 encS g m L1 N1]) rfl (a_does (os' := fun _ => [Vec 9 1 encS ua L1, BagT 54 9 encS g m L1 N1]) [1] 0 (ent_of Try.func29 (by kernel_rfl) rfl) (lost_string g m L1 N1) rfl rfl rfl (fun _ => rfl) rfl rfl rfl) ?_; rintro ⟨⟩
        refine h_q hflS rfl ?_
        refine h_val rfl (.int .i64 ((pt + 1) - (kp + 1))) (fun b w hb hH => exec_ar rfl rfl rfl rfl (IntWalk.i64_in _ (by omega)) hb) ?_
        refine h_val rfl (.bool false) (fun b w hb hH => exec_cmp rfl rfl rfl (cmp_neq_f (by omega)) hb) ?_
        refine h_q hflS rfl ?_
        refine h_done (d_else rfl (d_skip (f_block (f_to (d_reg1 ?_)))))
        refine h_q hflS rfl ?_
        refine h_val rfl (.int .i64 ((i + 1 : Nat) : Int)) (fun b w hb hH => exec_ar rfl rfl rfl rfl (by rw [IntWalk.i64_in _ (by omega)]; omega) hb) ?_
        refine h_q hflS rfl ?_
        refine h_nil ?_
        exact f_again (i + 1, L1, N1, pt + 1, kp + 1) 1 ⟨show i + 1 ≤ 1000 by omega, by show ((L1).length : Int) ≤ m; omega, by show 0 ≤ kp + 1; omega, by show kp + 1 ≤ pt + 1; omega, by show pt + 1 ≤ ((i + 1 : Nat) : Int); omega, by show N1 = (pt + 1) - (kp + 1); omega⟩ (show 1001 - (i + 1) < 1001 - i by omega) ⟨rfl, rfl, rfl, rfl, rfl, rfl, rfl, rfl, trivial⟩ rfl
      · skip
        have hl34 : L.length ≤ 17179869184 := by omega
        refine d_reg ?_
        refine h_q hflS rfl ?_
        refine h_val rfl (elp sl (i * 3)) (fun b w hb hH => e_sidx okG (arg_rd hl hH) sl_bursarlaw13_Step (j := i) hx rfl rfl rfl hb) ?_
        refine h_val rfl (elp sl (i * 3 + 0)) (fun b w hb hH => e_sfield okG (by decide) (arg_rd hl hH) (j := i) hx fd_bursarlaw13_Step_0 rfl rfl hb) ?_
        refine h_val rfl (.int .i64 x.what) (fun b w hb hH => e_sload okG (by decide) (arg_rd hl hH) (j := i) hx ty_int (off := 0) rfl rfl rfl hb) ?_
        refine h_act (post := fun _ => [BagT 54 9 encS g m L N]) rfl (a_call (ent_of Try.func15 (by kernel_rfl) rfl) (fun w hH => pick w x.what 5 hxo.1 (by decide) hq) rfl rfl rfl) ?_; rintro ⟨⟩
        refine h_done (d_block (d_reg ?_))
        refine h_q hflS rfl ?_
        refine h_val rfl (.bool false) (fun b w hb hH => exec_cmp rfl rfl rfl (cmp_eql_f (by omega)) hb) ?_
        refine h_q hflS rfl ?_
        refine h_done (d_else rfl (d_reg ?_))
        refine h_q hflS rfl ?_
        refine h_val rfl (.bool false) (fun b w hb hH => exec_cmp rfl rfl rfl (cmp_eql_f (by omega)) hb) ?_
        refine h_q hflS rfl ?_
        refine h_done (d_else rfl (d_reg ?_))
        refine h_q hflS rfl ?_
        refine h_val rfl (.bool false) (fun b w hb hH => exec_cmp rfl rfl rfl (cmp_eql_f (by omega)) hb) ?_
        refine h_q hflS rfl ?_
        refine h_done (d_else rfl (d_reg ?_))
        refine h_q hflS rfl ?_
        refine h_val rfl (.int .i64 (pt + 1)) (fun b w hb hH => exec_ar rfl rfl rfl rfl (IntWalk.i64_in _ (by omega)) hb) ?_
        refine h_q hflS rfl ?_
        refine h_done (d_reg ?_)
        refine h_q hflS rfl ?_
        refine h_act (post := fun _ => [BagT 54 9 encS g m L N1]) rfl (a_does (os' := fun _ => [BagT 54 9 encS g m L N1]) [0] 0 (ent_of Try.func11 (by kernel_rfl) rfl) (put_string g m L N [120] hm256 hLm hN (L, N1, false) hR) rfl rfl rfl (fun _ => rfl) rfl rfl rfl) ?_; rintro ⟨⟩
        refine h_done (d_else rfl (d_skip (f_block (f_to (d_reg ?_)))))
        refine h_q hflS rfl ?_
        refine h_act (post := fun _ => [BagT 54 9 encS g m L N1]) rfl (a_does (os' := fun _ => [BagT 54 9 encS g m L N1]) [0] 0 (ent_of Try.func14 (by kernel_rfl) rfl) (len_string g m L N1) rfl rfl rfl (fun _ => rfl) rfl rfl rfl) ?_; rintro ⟨⟩
        refine h_q hflS rfl ?_
        refine h_val rfl (.bool false) (fun b w hb hH => exec_cmp rfl rfl rfl (cmp_neq_f (by simp)) hb) ?_
        refine h_q hflS rfl ?_
        refine h_act (post := fun ua => [Vec 9 1 encS ua L, BagT 54 9 encS g m L N1]) rfl (a_does (os' := fun ua => [Vec 9 1 encS ua L, BagT 54 9 encS g m L N1]) [0] 0 (ent_of Try.func28 (by kernel_rfl) rfl) (all_string g m L N1 hl34) rfl rfl rfl (fun _ => rfl) rfl rfl rfl) ?_; rintro ua
        refine h_val rfl (.int .i64 (L.length : Int)) (fun b w hb hH => e_vlen 0 Try.underlying48 rfl rfl rfl hH hb) ?_
        refine h_q hflS rfl ?_
        refine h_val rfl (.bool false) (fun b w hb hH => exec_cmp rfl rfl rfl (cmp_neq_f (by simp)) hb) ?_
        refine h_q hflS rfl ?_
        refine h_val rfl (.bool false) (fun b w hb hH => exec_cmp rfl rfl rfl (cmp_gtr_f (by omega)) hb) ?_
        refine h_q hflS rfl ?_
        refine h_act (post := fun _ => [Vec 9 1 encS ua L, BagT 54 9 encS g m L N1]) rfl (a_does (os' := fun _ => [Vec 9 1 encS ua L, BagT 54 9 encS g m L N1]) [1] 0 (ent_of Try.func29 (by kernel_rfl) rfl) (lost_string g m L N1) rfl rfl rfl (fun _ => rfl) rfl rfl rfl) ?_; rintro ⟨⟩
        refine h_q hflS rfl ?_
        refine h_val rfl (.int .i64 ((pt + 1) - kp)) (fun b w hb hH => exec_ar rfl rfl rfl rfl (IntWalk.i64_in _ (by omega)) hb) ?_
        refine h_val rfl (.bool false) (fun b w hb hH => exec_cmp rfl rfl rfl (cmp_neq_f (by omega)) hb) ?_
        refine h_q hflS rfl ?_
        refine h_done (d_else rfl (d_skip (f_block (f_to (d_reg1 ?_)))))
        refine h_q hflS rfl ?_
        refine h_val rfl (.int .i64 ((i + 1 : Nat) : Int)) (fun b w hb hH => exec_ar rfl rfl rfl rfl (by rw [IntWalk.i64_in _ (by omega)]; omega) hb) ?_
        refine h_q hflS rfl ?_
        refine h_nil ?_
        exact f_again (i + 1, L, N1, pt + 1, kp) 1 ⟨show i + 1 ≤ 1000 by omega, by show ((L).length : Int) ≤ m; omega, by show 0 ≤ kp; omega, by show kp ≤ pt + 1; omega, by show pt + 1 ≤ ((i + 1 : Nat) : Int); omega, by show N1 = (pt + 1) - kp; omega⟩ (show 1001 - (i + 1) < 1001 - i by omega) ⟨rfl, rfl, rfl, rfl, rfl, rfl, rfl, rfl, trivial⟩ rfl
  · skip
    refine d_reg ?_
    refine h_q hflS rfl ?_
    refine h_val rfl (.int .i64 (l.length : Int)) (fun b w hb hH => e_slen (arg_rd hl hH) Try.underlying35 rfl rfl hb) ?_
    refine h_val rfl (.bool false) (fun b w hb hH => exec_cmp rfl rfl rfl (cmp_lss_f (by omega)) hb) ?_
    refine h_q hflS rfl ?_
    refine h_done (d_else rfl (d_exit (f_then_exit (f_then_exit (f_block_exit (f_to (d_reg ?_)))))))
    refine h_q hflS rfl ?_
    refine h_done (d_ret ?_)
    exact f_fin1 (.tmp rfl) (fun w h => ⟨rfl, below0 h.up⟩) rfl
  · skip
    refine d_reg ?_
    refine h_q hflS rfl ?_
    refine h_val rfl (.int .i64 (l.length : Int)) (fun b w hb hH => e_slen (arg_rd hl hH) Try.underlying35 rfl rfl hb) ?_
    refine h_val rfl (.bool true) (fun b w hb hH => exec_cmp rfl rfl rfl (cmp_lss_t (by omega)) hb) ?_
    refine h_q hflS rfl ?_
    refine h_val rfl (.bool false) (fun b w hb hH => exec_cmp rfl rfl rfl (cmp_lss_f (by omega)) hb) ?_
    refine h_q hflS rfl ?_
    refine h_done (d_else rfl (d_exit (f_then_exit (f_then_exit (f_block_exit (f_to (d_reg ?_)))))))
    refine h_q hflS rfl ?_
    refine h_done (d_ret ?_)
    exact f_fin1 (.tmp rfl) (fun w h => ⟨rfl, below0 h.up⟩) rfl
end Go.Proofs.Ythgnfacifogjiaa.Sep
