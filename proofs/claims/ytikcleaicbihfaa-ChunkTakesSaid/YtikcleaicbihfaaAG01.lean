/-
  ChkC · ChkD
-/
import Derived.Test.YtikcleaicbihfaaAD04
import Derived.Test.YtikcleaicbihfaaAF02
set_option linter.unusedSimpArgs false
set_option linter.unusedVariables false

namespace Go.Proofs.Ytikcleaicbihfaa.Sep
open Go.RowKit
open Go.Proofs.Ytikcleaicbihfaa.Mem (Dist Blk Chg below0)

set_option maxRecDepth 100000 in
theorem pickCk (w : World) (a m : Int) (ha : -9223372036854775808 ≤ a ∧ a ≤ 9223372036854775807) (hm : 1 ≤ m ∧ m ≤ 9223372036854775807) {r : Int} (hr : a % m = r) : Calls Try.prog 17 #[.int .i64 a, .int .i64 m] w fun e w' => e = .returned (.int .i64 r) ∧ Below w.heap.size w w' := by
  have hlt := Int.emod_lt_of_pos a (show 0 < m by omega)
  have hge := Int.emod_nonneg a (show m ≠ 0 by omega)
  have ht : (0 ≤ a.tmod m ∧ a.tmod m = r) ∨ (a.tmod m < 0 ∧ a.tmod m + m = r) := by
    rw [Int.tmod_eq_emod, ← hr]
    split
    · left; omega
    · rename_i h
      right
      have hne : a % m ≠ 0 := fun e => h (.inr (Int.dvd_of_emod_eq_zero e))
      omega
  rw [hr] at hlt hge
  obtain ⟨t, htm⟩ : ∃ t, a.tmod m = t := ⟨_, rfl⟩
  rw [htm] at ht
  refine d_in (args := [.int .i64 a, .int .i64 m]) 14 Try.func17 rfl rfl rfl ?_
  refine d_reg ?_
  refine h_q hflS rfl ?_
  refine h_done (d_reg ?_)
  refine h_q hflS rfl ?_
  refine h_val rfl (.int .i64 t) (fun b w hb hH => exec_remI rfl rfl rfl (by omega) htm hb) ?_
  refine h_q hflS rfl ?_
  refine h_done (d_seq ?_)
  rcases ht with ⟨h1, h2⟩ | ⟨h1, h2⟩
  · skip
    subst h2
    refine d_reg ?_
    refine h_q hflS rfl ?_
    refine h_val rfl (.bool false) (fun b w hb hH => exec_cmp rfl rfl rfl (cmp_lss_f (by omega)) hb) ?_
    refine h_done (d_else rfl (d_skip (f_to (d_reg ?_))))
    refine h_q hflS rfl ?_
    refine h_done (d_ret ?_)
    exact f_fin1 (.tmp rfl) (fun w h => ⟨rfl, below0 h.up⟩) rfl
  · skip
    refine d_reg ?_
    refine h_q hflS rfl ?_
    refine h_val rfl (.bool true) (fun b w hb hH => exec_cmp rfl rfl rfl (cmp_lss_t (by omega)) hb) ?_
    refine h_done (d_then rfl (d_reg1 ?_))
    refine h_q hflS rfl ?_
    refine h_val rfl (.int .i64 r) (fun b w hb hH => exec_ar rfl rfl rfl rfl (by rw [IntWalk.i64_in _ (by omega)]; omega) hb) ?_
    refine h_q hflS rfl ?_
    refine h_nil (f_to (d_reg ?_))
    refine h_q hflS rfl ?_
    refine h_done (d_ret ?_)
    exact f_fin1 (.tmp rfl) (fun w h => ⟨rfl, below0 h.up⟩) rfl

structure DatV (m : Nat) where
  v : Value
  l : List UInt8
  h : l.length = m
theorem data_index {i n : Nat} (h : 0 < n) : ∃ j : Nat, (i : Int).tmod (n : Int) = (j : Int) ∧ j < n := by
  refine ⟨i % n, ?_, Nat.mod_lt _ h⟩
  rw [Int.tmod_eq_emod_of_nonneg (by omega)]; rfl

set_option maxRecDepth 100000 in
theorem data_does (X : Ass) (v : Value) (b : List UInt8) (hX : Rd8 X v b) (n : Int) (hn : -9223372036854775808 ≤ n ∧ n ≤ 9223372036854775807) (m : Nat) (hm : n % 1500 = (m : Int)) : Does Try.prog 16 #[.int .i64 n, v] [X] (fun (x : DatV m) => x.v) (fun (x : DatV m) => [X, Vec 5 1 encB x.v x.l]) := by
  have hm1 : m < 1500 := by omega
  refine d_ins (args := [.int .i64 n, v]) 42 Try.func16 rfl rfl rfl ?_; intro w rs
  refine d_reg ?_
  refine h_q hflS rfl ?_
  refine h_done (d_reg ?_)
  refine h_q hflS rfl ?_
  refine h_act (post := fun _ => [X]) rfl (a_call (ent_of Try.func17 (by kernel_rfl) rfl) (fun w hH => pickCk w n 1500 hn (by decide) hm) rfl rfl rfl) ?_; rintro ⟨⟩
  refine h_q hflS rfl ?_
  refine h_done (d_reg ?_)
  refine h_q hflS rfl ?_
  refine h_act (post := fun u => [Vec 5 1 encB u (List.replicate m 0), X]) rfl (a_mkCk sl_uint8 (by kernel_rfl) (fun w => by kernel_rfl) (N := m) (by omega) rfl rfl rfl) ?_; rintro u
  refine h_q hflS rfl ?_
  refine h_done (d_seq (d_reg ?_))
  refine h_q hflS rfl ?_
  refine h_done (d_block ?_)
  refine d_loop (α := Nat × List UInt8) (fun ⟨i, L⟩ => [(1, v), (4, .slice none 0 0), (0, .int .i64 (m : Int)), (5, u), (6, .int .i64 ((i : Nat) : Int))]) (fun ⟨i, L⟩ => [Vec 5 1 encB u L, X]) (fun ⟨i, L⟩ => i ≤ m ∧ L.length = m) (fun ⟨i, L⟩ => m - i) (0, List.replicate m 0) ⟨Nat.zero_le _, List.length_replicate ..⟩ ⟨rfl, rfl, rfl, rfl, rfl, trivial⟩ rfl ?_
  rintro ⟨i, L⟩ hI
  refine WC2.at_ (env' := [(1, v), (4, .slice none 0 0), (0, .int .i64 (m : Int)), (5, u), (6, .int .i64 ((i : Nat) : Int))]) (rs' := [Vec 5 1 encB u L, X]) ⟨rfl, rfl, rfl, rfl, rfl, trivial⟩ rfl ?_
  have hI1 : i ≤ m := hI.1
  have hL : L.length = m := hI.2
  refine d_seq ?_
  rcases Nat.lt_or_ge i m with hi | hi
  · skip
    obtain ⟨q, hq⟩ : ∃ q, IntKind.i64.wrap (((i : Int) * 7).tdiv 3) = q := ⟨_, rfl⟩
    obtain ⟨a, ha⟩ := wrapCk q
    refine d_reg ?_
    refine h_q hflS rfl ?_
    refine h_val rfl (.bool true) (fun b w hb hH => exec_cmp rfl rfl rfl (cmp_lss_t (by omega)) hb) ?_
    refine h_done (d_then rfl (d_skip (f_to (d_seq (d_block (d_reg ?_))))))
    refine h_q hflS rfl ?_
    refine h_val rfl (.int .i64 (((i : Nat) : Int) * 7)) (fun b w hb hH => exec_ar rfl rfl rfl rfl (IntWalk.i64_in _ (by omega)) hb) ?_
    refine h_val rfl (.int .i64 q) (fun b w hb hH => quoCk (by decide) hq rfl rfl rfl hb) ?_
    refine h_val rfl (.int .u8 ((a).toNat : Int)) (fun b w hb hH => exec_conv Try.underlying3 Try.underlying5 ha rfl rfl hb) ?_
    refine h_val rfl (elp u (i * 1)) (fun b w hb hH => e_vidx 0 sl_uint8 okB rfl i (by omega) rfl rfl rfl hH hb) ?_
    refine h_acts (post := fun _ => [Vec 5 1 encB u (L.set i a), X]) rfl rfl (a_vstore1 0 ty_uint8 okB rfl i (by omega) a rfl rfl rfl rfl rfl) ?_; rintro ⟨⟩
    refine h_done ?_
    rcases Nat.eq_zero_or_pos b.length with hb0 | hb0
    · skip
      refine d_reg ?_
      refine h_q hflS rfl ?_
      refine h_val rfl (.int .i64 (b.length : Int)) (fun b w hb hH => e_slen ((hH.rd8 1 rfl hX).rd) Try.underlying22 rfl rfl hb) ?_
      refine h_val rfl (.bool false) (fun b w hb hH => exec_cmp rfl rfl rfl (cmp_gtr_f (by omega)) hb) ?_
      refine h_done (d_else rfl (d_skip (f_block (f_to (d_reg1 ?_)))))
      refine h_q hflS rfl ?_
      refine h_val rfl (.int .i64 ((i + 1 : Nat) : Int)) (fun b w hb hH => exec_ar rfl rfl rfl rfl (by rw [IntWalk.i64_in _ (by omega)]; omega) hb) ?_
      refine h_q hflS rfl ?_
      refine h_nil ?_
      exact f_again (i + 1, L.set i a) 0 ⟨hi, (List.length_set ..).trans hL⟩ (show m - (i + 1) < m - i by omega) ⟨rfl, rfl, rfl, rfl, rfl, trivial⟩ rfl
    · skip
      obtain ⟨j, hj, hjl⟩ := data_index (i := i) hb0
      obtain ⟨x, hx⟩ : ∃ x, b[j]? = some x := ⟨_, List.getElem?_eq_getElem hjl⟩
      refine d_reg ?_
      refine h_q hflS rfl ?_
      refine h_val rfl (.int .i64 (b.length : Int)) (fun b w hb hH => e_slen ((hH.rd8 1 rfl hX).rd) Try.underlying22 rfl rfl hb) ?_
      refine h_val rfl (.bool true) (fun b w hb hH => exec_cmp rfl rfl rfl (cmp_gtr_t (by omega)) hb) ?_
      refine h_done (d_then rfl ?_)
      refine d_parS 15 0 [⟨.quiet, [], fun _ => u, []⟩, ⟨.quiet, [], fun _ => .int .i64 ((i : Nat) : Int), []⟩, ⟨.quiet, [], fun _ => u, []⟩, ⟨.quiet, [], fun _ => .int .i64 ((i : Nat) : Int), []⟩, ⟨.quiet, [], fun _ => elp u (i * 1), [2, 3]⟩, ⟨.quiet, [], fun _ => .int .u8 ((a).toNat : Int), [4]⟩, ⟨.quiet, [], fun _ => v, []⟩, ⟨.quiet, [], fun _ => .int .i64 ((i : Nat) : Int), []⟩, ⟨.quiet, [], fun _ => v, []⟩, ⟨.quiet, [], fun _ => .int .i64 (b.length : Int), [8]⟩, ⟨.quiet, [], fun _ => .int .i64 (j : Int), [7, 9]⟩, ⟨.quiet, [], fun _ => elp v (j * 1), [6, 10]⟩, ⟨.quiet, [], fun _ => .int .u8 ((x).toNat : Int), [11]⟩, ⟨.quiet, [], fun _ => .int .u8 ((a ^^^ x).toNat : Int), [5, 12]⟩, ⟨.quiet, [], fun _ => elp u (i * 1), [0, 1]⟩] [(1, v), (4, .slice none 0 0), (0, .int .i64 (m : Int)), (5, u), (6, .int .i64 ((i : Nat) : Int)), (11, .int .i64 ((i : Nat) : Int)), (12, .int .i64 (m : Int)), (13, .bool true), (16, u), (17, .int .i64 ((i : Nat) : Int)), (18, .int .i64 ((i : Nat) : Int)), (19, .int .i64 (((i : Nat) : Int) * 7)), (20, .int .i64 q), (21, .int .u8 ((a).toNat : Int)), (22, elp u (i * 1)), (23, v), (24, .int .i64 (b.length : Int)), (25, .bool true)] (fun _ => [Vec 5 1 encB u (L.set i a), X]) (by kernel_rfl) (by kernel_rfl) ⟨rfl, rfl, rfl, rfl, rfl, rfl, rfl, rfl, rfl, rfl, rfl, rfl, rfl, rfl, rfl, rfl, rfl, rfl, trivial⟩ rfl ?_ ?_
      · skip
        refine s_cons (by exact ⟨rfl, fun b w hH hb => exec_q1 hflS rfl hb⟩) ?_
        refine s_cons (by exact ⟨rfl, fun b w hH hb => exec_q1 hflS rfl hb⟩) ?_
        refine s_cons (by exact ⟨rfl, fun b w hH hb => exec_q1 hflS rfl hb⟩) ?_
        refine s_cons (by exact ⟨rfl, fun b w hH hb => exec_q1 hflS rfl hb⟩) ?_
        refine s_cons (by exact ⟨rfl, fun b w hH hb => e_vidx 0 sl_uint8 okB rfl i (by rw [List.length_set]; omega) rfl rfl rfl hH hb⟩) ?_
        refine s_cons (by exact ⟨rfl, fun b w hH hb => e_vload1 0 ty_uint8 okB rfl i (a := a) (List.getElem?_set_self (by omega)) rfl rfl rfl hH hb⟩) ?_
        refine s_cons (by exact ⟨rfl, fun b w hH hb => exec_q1 hflS rfl hb⟩) ?_
        refine s_cons (by exact ⟨rfl, fun b w hH hb => exec_q1 hflS rfl hb⟩) ?_
        refine s_cons (by exact ⟨rfl, fun b w hH hb => exec_q1 hflS rfl hb⟩) ?_
        refine s_cons (by exact ⟨rfl, fun b w hH hb => e_slen ((hH.rd8 1 rfl hX).rd) Try.underlying22 rfl rfl hb⟩) ?_
        refine s_cons (by exact ⟨rfl, fun b w hH hb => exec_remI rfl rfl rfl (by omega) hj hb⟩) ?_
        refine s_cons (by exact ⟨rfl, fun b w hH hb => e_sidx okB ((hH.rd8 1 rfl hX).rd) sl_uint8 (j := j) hx rfl rfl rfl hb⟩) ?_
        refine s_cons (by exact ⟨rfl, fun b w hH hb => e_sload okB (by decide) ((hH.rd8 1 rfl hX).rd) (j := j) hx ty_uint8 (off := 0) rfl rfl rfl hb⟩) ?_
        refine s_cons (by exact ⟨rfl, fun b w hH hb => exec_xor (xorCk a x) rfl rfl rfl hb⟩) ?_
        refine s_cons (by exact ⟨rfl, fun b w hH hb => e_vidx 0 sl_uint8 okB rfl i (by rw [List.length_set]; omega) rfl rfl rfl hH hb⟩) ?_
        exact s_nil
      refine WL2.keep (env' := [(1, v), (4, .slice none 0 0), (0, .int .i64 (m : Int)), (5, u), (6, .int .i64 ((i : Nat) : Int)), (11, .int .i64 ((i : Nat) : Int)), (12, .int .i64 (m : Int)), (13, .bool true), (16, u), (17, .int .i64 ((i : Nat) : Int)), (18, .int .i64 ((i : Nat) : Int)), (19, .int .i64 (((i : Nat) : Int) * 7)), (20, .int .i64 q), (21, .int .u8 ((a).toNat : Int)), (22, elp u (i * 1)), (23, v), (24, .int .i64 (b.length : Int)), (25, .bool true), (26, u), (27, .int .i64 ((i : Nat) : Int)), (28, u), (29, .int .i64 ((i : Nat) : Int)), (30, elp u (i * 1)), (31, .int .u8 ((a).toNat : Int)), (32, v), (33, .int .i64 ((i : Nat) : Int)), (34, v), (35, .int .i64 (b.length : Int)), (36, .int .i64 (j : Int)), (37, elp v (j * 1)), (38, .int .u8 ((x).toNat : Int)), (39, .int .u8 ((a ^^^ x).toNat : Int)), (40, elp u (i * 1))]) ⟨rfl, rfl, rfl, rfl, rfl, rfl, rfl, rfl, rfl, rfl, rfl, rfl, rfl, rfl, rfl, rfl, rfl, rfl, rfl, rfl, rfl, rfl, rfl, rfl, rfl, rfl, rfl, rfl, rfl, rfl, rfl, rfl, rfl, trivial⟩ ?_
      refine h_q hflS rfl ?_
      refine h_acts (post := fun _ => [Vec 5 1 encB u ((L.set i a).set i (a ^^^ x)), X]) rfl rfl (a_vstore1 0 ty_uint8 okB rfl i (by rw [List.length_set]; omega) (a ^^^ x) rfl rfl rfl rfl rfl) ?_; rintro ⟨⟩
      refine h_nil (f_block (f_to (d_reg1 ?_)))
      refine h_q hflS rfl ?_
      refine h_val rfl (.int .i64 ((i + 1 : Nat) : Int)) (fun b w hb hH => exec_ar rfl rfl rfl rfl (by rw [IntWalk.i64_in _ (by omega)]; omega) hb) ?_
      refine h_q hflS rfl ?_
      refine h_nil ?_
      exact f_again (i + 1, (L.set i a).set i (a ^^^ x)) 0 ⟨hi, (List.length_set ..).trans ((List.length_set ..).trans hL)⟩ (show m - (i + 1) < m - i by omega) ⟨rfl, rfl, rfl, rfl, rfl, trivial⟩ rfl
  · skip
    refine d_reg ?_
    refine h_q hflS rfl ?_
    refine h_val rfl (.bool false) (fun b w hb hH => exec_cmp rfl rfl rfl (cmp_lss_f (by omega)) hb) ?_
    refine h_done (d_else rfl (d_exit (f_then_exit (f_then_exit (f_block_exit (f_to (d_reg ?_)))))))
    refine h_q hflS rfl ?_
    refine h_done (d_ret ?_)
    exact f_fin1 (.tmp rfl) (fun w h => tells (⟨u, L, hL⟩) rfl [1, 0] rfl h same_parts) rfl
end Go.Proofs.Ytikcleaicbihfaa.Sep

namespace Go.Proofs.Ytikcleaicbihfaa.Sep
open Go.RowKit
open Go.Proofs.Ytikcleaicbihfaa.Mem (Dist Blk Chg below0)

theorem cut_does (X : Ass) (v : Value) (l : List UInt8) (hX : Rd8 X v l) (hl : l.length ≤ 140737488355327) (k : Nat) (hk : k ≤ l.length) (last : Bool) (hla : decide (l.length ≤ k + 256) = last) (r : List UInt8) (hr : (l.drop k).take 256 = r) : Does Try.prog 8 #[v, .int .i64 (k : Int)] [X] (fun (u : Value) => .tuple #[u, .bool last, .bool true]) (fun (u : Value) => [X, Vec 5 1 encB u r]) := fun w rs hp h1 hd => by
  obtain ⟨A, c, rfl, hc⟩ := cap8Ck hX rs w hp.one' h1
  exact cut_v X A c l hX hc hl k hk last hla r hr w rs hp h1 hd
theorem rcut_does (X : Ass) (v : Value) (l : List UInt8) (hX : Rd8 X v l) (hl : l.length ≤ 140737488355327) (k : Nat) (hk : k ≤ l.length) (last : Bool) (hla : decide (l.length ≤ k + 256) = last) (r : List UInt8) (hr : (l.drop k).take 256 = r) : Does Try.prog 18 #[v, .int .i64 (k : Int)] [X] (fun (u : Value) => .tuple #[u, .bool last, .bool true]) (fun (u : Value) => [X, Vec 5 1 encB u r]) := fun w rs hp h1 hd => by
  obtain ⟨A, c, rfl, hc⟩ := cap8Ck hX rs w hp.one' h1
  exact rcut_v X A c l hX hc hl k hk last hla r hr w rs hp h1 hd
theorem cut_none (X : Ass) (v : Value) (l : List UInt8) (hX : Rd8 X v l) (hl : l.length ≤ 140737488355327) (k : Int) (hk : k < 0 ∨ (l.length : Int) < k) : Does Try.prog 8 #[v, .int .i64 k] [X] (fun _ : Unit => .tuple #[.slice none 0 0, .bool false, .bool false]) (fun _ => [X]) := fun w rs hp h1 hd => by
  obtain ⟨A, c, rfl, hc⟩ := cap8Ck hX rs w hp.one' h1
  exact cut_no X A c l hX hc hl k hk w rs hp h1 hd
theorem rcut_none (X : Ass) (v : Value) (l : List UInt8) (hX : Rd8 X v l) (hl : l.length ≤ 140737488355327) (k : Int) (hk : k < 0 ∨ (l.length : Int) < k) : Does Try.prog 18 #[v, .int .i64 k] [X] (fun _ : Unit => .tuple #[.slice none 0 0, .bool false, .bool false]) (fun _ => [X]) := fun w rs hp h1 hd => by
  obtain ⟨A, c, rfl, hc⟩ := cap8Ck hX rs w hp.one' h1
  exact rcut_no X A c l hX hc hl k hk w rs hp h1 hd
theorem ck_takeN (X : Ass) (v : Value) (y : List UInt8) (hX : Rd8 X v y) (hyl : y.length ≤ 140737488355327) (p : Nat) (bi bt bc ci ct cc : Int) (D : List UInt8) (hD : D.length ≤ 32768) (o : Int) (ho1 : -9223372036854775808 ≤ o ∧ o ≤ 9223372036854775807) (last : Bool) (D0 : List UInt8) (hD0 : keepL bi bt bc ci ct cc D = D0) (b : Bool) (R : List UInt8) (hR : takeL D0 o y last = (b, R)) (N : Int) (hN : (R.length : Int) = N) : Does Try.prog 10 #[.pointer (some ⟨p, 0, none⟩), .agg #[.int .u64 ci, .int .u64 ct, .int .i64 cc], .int .i64 o, v, .bool last] [TkT 50 p bi bt bc D, X] (fun _ : Unit => .tuple #[.bool b, .int .i64 N]) (fun _ => [TkT 50 p ci ct cc R, X]) := by
  subst hN
  exact ck_take X v y hX hyl p bi bt bc ci ct cc D hD o ho1 last D0 hD0 b R hR
theorem rk_takeN (X : Ass) (v : Value) (y : List UInt8) (hX : Rd8 X v y) (hyl : y.length ≤ 140737488355327) (p : Nat) (bi bt bc ci ct cc : Int) (D : List UInt8) (hD : D.length ≤ 32768) (o : Int) (ho1 : -9223372036854775808 ≤ o ∧ o ≤ 9223372036854775807) (last : Bool) (D0 : List UInt8) (hD0 : keepL bi bt bc ci ct cc D = D0) (b : Bool) (R : List UInt8) (hR : takeL D0 o y last = (b, R)) (N : Int) (hN : (R.length : Int) = N) : Does Try.prog 19 #[.pointer (some ⟨p, 0, none⟩), .agg #[.int .u64 ci, .int .u64 ct, .int .i64 cc], .int .i64 o, v, .bool last] [TkT 42 p bi bt bc D, X] (fun _ : Unit => .tuple #[.bool b, .int .i64 N]) (fun _ => [TkT 42 p ci ct cc R, X]) := by
  subst hN
  exact rk_take X v y hX hyl p bi bt bc ci ct cc D hD o ho1 last D0 hD0 b R hR
theorem takeL_no {D p : List UInt8} {o : Int} {last : Bool} (h : ¬ (o = (D.length : Int) ∧ p.length + D.length ≤ 32768)) : takeL D o p last = (false, D) := by unfold takeL; rw [if_neg h]
theorem takeL_yes {D p R : List UInt8} {o : Int} {last : Bool} (h : o = (D.length : Int) ∧ p.length + D.length ≤ 32768) (hR : D ++ p = R) : takeL D o p last = (last, R) := by unfold takeL; rw [if_pos h, hR]
theorem keepL_same (a b c : Int) (D : List UInt8) : keepL a b c a b c D = D := by unfold keepL; rw [if_pos ⟨rfl, rfl, rfl⟩]
theorem keepL_nil (a b c d e f : Int) : keepL a b c d e f [] = [] := by unfold keepL; split <;> rfl
theorem exec_diff {P : Program} {n : Nat} {env : List (Nat × Value)} {act : Act} {w : World} {o : Oper} {T T' : TypeId} {x y : Operand} {l m : List UInt8} {c : Bool} (hc : (l != m) = c) (ho : o.op = .binOp .neq T x y T') (hx : evs env x = some (.string (bs l))) (hy : evs env y = some (.string (bs m))) (hF : Fr n act env) : (execOp act.eval o).run P w = .ok (.value (.bool c)) w := by
  unfold execOp
  subst hc
  simp only [ho, hF.evs hx, hF.evs hy]
  simp [eqGuard, binOp, Op.stringOp, bs_list, bne]
end Go.Proofs.Ytikcleaicbihfaa.Sep
