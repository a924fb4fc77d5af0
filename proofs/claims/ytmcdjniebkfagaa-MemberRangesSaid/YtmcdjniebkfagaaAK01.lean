/-
  MbL
-/
import Derived.Test.YtmcdjniebkfagaaAH01
set_option linter.unusedSimpArgs false
set_option linter.unusedVariables false

namespace Go.Proofs.Ytmcdjniebkfagaa.Sep
open Go.RowKit
open Go.Proofs.Ytmcdjniebkfagaa.Mem (Dist Blk Chg below0)

/-- the nodes of a set below n, as numbers -/
def ndI (s : Int) (n : Nat) : List Int := (nt s n).map fun k : Nat => (k : Int)
theorem ndI_one (s : Int) : ndI s 1 = [] := by unfold ndI; rw [nt_one]; rfl
theorem ndI_yes {s : Int} {n : Nat} (h1 : 1 ≤ n) (h7 : n ≤ 7) (h : hs s (n : Int) = true) : ndI s n ++ [(n : Int)] = ndI s (n + 1) := by unfold ndI; rw [nt_yes h1 h7 h, List.map_append]; rfl
theorem ndI_not {s : Int} {n : Nat} (h1 : 1 ≤ n) (h7 : n ≤ 7) (h : hs s (n : Int) = false) : ndI s (n + 1) = ndI s n := by unfold ndI; rw [nt_not h1 h7 h]
theorem ndI_len (s : Int) (n : Nat) : (ndI s n).length = (nt s n).length := by unfold ndI; rw [List.length_map]
theorem ndI_le (s : Int) (n : Nat) : (ndI s n).length ≤ n := by rw [ndI_len]; exact nt_le s n
theorem ndI_cnt (s : Int) : (ndI s 8).length = cnt s := ndI_len s 8
theorem ndI_mem {s x : Int} : x ∈ ndI s 8 ↔ hs s x = true := by
  unfold ndI
  rw [List.mem_map]
  constructor
  · rintro ⟨k, hk, rfl⟩; exact nds_mem.1 hk
  · intro h
    have hx := (may_iff.1 (hs_may h)).2
    refine ⟨x.toNat, nds_mem.2 ?_, by omega⟩
    rw [show ((x.toNat : Nat) : Int) = x by omega]; exact h
theorem ndI_at {s x : Int} {i : Nat} (h : (ndI s 8)[i]? = some x) : hs s x = true ∧ 1 ≤ x ∧ x ≤ 7 := by
  have := ndI_mem.1 (List.mem_of_getElem? h)
  exact ⟨this, (may_iff.1 (hs_may this)).2⟩
/-- how many of them a vote has -/
def cb (v : Int) (l : List Int) : Nat := l.countP fun x => bt v x.toNat
theorem cb_succ {v x : Int} {l : List Int} {i : Nat} (h : l[i]? = some x) : cb v (l.take (i + 1)) = cb v (l.take i) + if bt v x.toNat then 1 else 0 := by
  unfold cb
  rw [List.take_add_one, h, List.countP_append]
  simp [List.countP_cons]
theorem cb_le (v : Int) (l : List Int) : cb v l ≤ l.length := List.countP_le_length
theorem mst_cb (s v : Int) : mst s v = decide (((ndI s 8).length : Int) < 2 * (cb v (ndI s 8) : Int)) := by
  unfold mst cb
  rw [ndI_cnt]
  unfold ndI nds
  rw [List.countP_map]
  have : ((fun x : Int => bt v x.toNat) ∘ fun k : Nat => (k : Int)) = bt v := by funext k; simp
  rw [this, decide_eq_decide]
  omega

set_option maxRecDepth 100000 in
theorem rnodes (s : Int) : Does Try.prog 21 #[.int .i64 s] [] (fun (v : Value) => v) (fun (v : Value) => [Vec 3 1 encI v (ndI s 8)]) := by
  refine d_ins (args := [.int .i64 s]) 17 Try.func21 rfl rfl rfl ?_; intro w rs
  refine d_reg ?_
  refine h_q hflS rfl ?_
  refine h_done (d_reg ?_)
  refine h_q hflS rfl ?_
  refine h_done (d_seq ?_)
  refine d_nilvec 3 1 encI ?_
  rw [← ndI_one s]
  refine d_reg ?_
  refine h_q hflS rfl ?_
  refine h_done (d_block ?_)
  refine d_loop (α := Nat × Value) (fun ⟨n, v⟩ => [(0, .int .i64 s), (2, .slice none 0 0), (3, v), (4, .int .i64 (n : Int))]) (fun ⟨n, v⟩ => [Vec 3 1 encI v (ndI s n)]) (fun ⟨n, v⟩ => 1 ≤ n ∧ n ≤ 8) (fun ⟨n, v⟩ => 8 - n) (1, .slice none 0 0) ⟨(show 1 ≤ 1 by decide), (show 1 ≤ 8 by decide)⟩ ⟨rfl, rfl, rfl, rfl, trivial⟩ rfl ?_
  rintro ⟨n, v⟩ hI
  refine WC2.at_ (env' := [(0, .int .i64 s), (2, .slice none 0 0), (3, v), (4, .int .i64 (n : Int))]) (rs' := [Vec 3 1 encI v (ndI s n)]) ⟨rfl, rfl, rfl, rfl, trivial⟩ rfl ?_
  have h1 : 1 ≤ n := hI.1
  have h8 : n ≤ 8 := hI.2
  have hle := ndI_le s n
  refine d_seq ?_
  rcases Nat.lt_or_ge n 8 with hn | hn
  · skip
    refine d_reg ?_
    refine h_q hflS rfl ?_
    refine h_val rfl (.bool true) (fun b w hb hH => exec_cmp rfl rfl rfl (cmp_leq_t (by omega)) hb) ?_
    refine h_done (d_then rfl (d_skip (f_to (d_seq (d_block ?_)))))
    cases hb : hs s (n : Int)
    · skip
      refine d_reg ?_
      refine h_q hflS rfl ?_
      refine h_act (post := fun _ => [Vec 3 1 encI v (ndI s n)]) rfl (a_call (ent_of Try.func24 (by kernel_rfl) rfl) (fun w hH => rhas_any w s (n : Int) false hb) rfl rfl rfl) ?_; rintro ⟨⟩
      refine h_done (d_else rfl (d_skip (f_block (f_to ?_))))
      rw [← ndI_not h1 (by omega) hb]
      refine d_reg1 ?_
      refine h_q hflS rfl ?_
      refine h_val rfl (.int .i64 ((n + 1 : Nat) : Int)) (fun b w hb hH => exec_ar rfl rfl rfl rfl (by rw [IntWalk.i64_in _ (by omega)]; omega) hb) ?_
      refine h_q hflS rfl ?_
      refine h_nil ?_
      exact f_again (n + 1, v) 0 ⟨by show 1 ≤ n + 1; omega, by show n + 1 ≤ 8; omega⟩ (show 8 - (n + 1) < 8 - n by omega) ⟨rfl, rfl, rfl, rfl, trivial⟩ rfl
    · skip
      refine d_reg ?_
      refine h_q hflS rfl ?_
      refine h_act (post := fun _ => [Vec 3 1 encI v (ndI s n)]) rfl (a_call (ent_of Try.func24 (by kernel_rfl) rfl) (fun w hH => rhas_any w s (n : Int) true hb) rfl rfl rfl) ?_; rintro ⟨⟩
      refine h_done (d_then rfl (d_reg1 ?_))
      refine h_q hflS rfl ?_
      refine h_act (X := Value) (val := fun v : Value => v) (post := fun u1 => [Vec 3 1 encI u1 ([(n : Int)]), Vec 3 1 encI v (ndI s n)]) rfl (by refine a_build1 (e := 3) (t := 34) (enc := encI) (x := .tmp 13) (c := .int .i64 (n : Int)) ?_ ?_ (n : Int) ?_ ?_ ?_; exact sl_int; exact okI; exact rfl; exact rfl; exact rfl) ?_; rintro u1
      refine h_act (post := fun u9 => [Vec 3 1 encI u1 ([(n : Int)]), Vec 3 1 encI u9 (ndI s (n + 1))]) rfl (a_append 1 sl_int okI rfl ([(n : Int)]) (fun w hH => hH.vec 0 rfl okI) (by simp; omega) rfl rfl rfl (ndI_yes h1 (by omega) hb)) ?_; rintro u9
      refine h_q hflS rfl ?_
      refine h_nil (f_block (f_to (d_reg1 ?_)))
      refine h_q hflS rfl ?_
      refine h_val rfl (.int .i64 ((n + 1 : Nat) : Int)) (fun b w hb hH => exec_ar rfl rfl rfl rfl (by rw [IntWalk.i64_in _ (by omega)]; omega) hb) ?_
      refine h_q hflS rfl ?_
      refine h_nil ?_
      exact f_again (n + 1, u9) 1 ⟨by show 1 ≤ n + 1; omega, by show n + 1 ≤ 8; omega⟩ (show 8 - (n + 1) < 8 - n by omega) ⟨rfl, rfl, rfl, rfl, trivial⟩ rfl
  · skip
    obtain rfl : n = 8 := by omega
    refine d_reg ?_
    refine h_q hflS rfl ?_
    refine h_val rfl (.bool false) (fun b w hb hH => exec_cmp rfl rfl rfl (cmp_leq_f (by omega)) hb) ?_
    refine h_done (d_else rfl (d_exit (f_then_exit (f_then_exit (f_block_exit (f_to (d_reg ?_)))))))
    refine h_q hflS rfl ?_
    refine h_done (d_ret ?_)
    exact f_fin1 (.tmp rfl) (fun w h => tells v rfl [0] rfl h same_parts) rfl

set_option maxRecDepth 100000 in
theorem ints_same (X1 X2 : Ass) (va vb : Value) (l : List Int) (h1 : Rd X1 1 encI va l) (h2 : Rd X2 1 encI vb l) (hk : l.length ≤ 1099511627776) : Does Try.prog 26 #[va, vb] [X1, X2] (fun (_ : Unit) => .bool true) (fun (_ : Unit) => [X1, X2]) := by
  refine d_ins (args := [va, vb]) 26 Try.func26 rfl rfl rfl ?_; intro w rs
  refine d_reg ?_
  refine h_q hflS rfl ?_
  refine h_done (d_seq (d_reg ?_))
  refine h_q hflS rfl ?_
  refine h_val rfl (.int .i64 (l.length : Int)) (fun b w hb hH => e_rlen 0 h1 Try.underlying34 rfl rfl rfl hH hb) ?_
  refine h_q hflS rfl ?_
  refine h_val rfl (.int .i64 (l.length : Int)) (fun b w hb hH => e_rlen 1 h2 Try.underlying34 rfl rfl rfl hH hb) ?_
  refine h_val rfl (.bool false) (fun b w hb hH => exec_cmp rfl rfl rfl (cmp_neq_f rfl) hb) ?_
  refine h_done (d_else rfl (d_skip (f_to (d_seq (d_reg ?_)))))
  refine h_q hflS rfl ?_
  refine h_done (d_block ?_)
  refine d_loop (α := Nat) (fun i => [(0, va), (1, vb), (4, .bool false), (5, .int .i64 ((i : Nat) : Int))]) (fun i => [X1, X2]) (fun i => i ≤ l.length) (fun i => l.length - i) 0 (Nat.zero_le _) ⟨rfl, rfl, rfl, rfl, trivial⟩ rfl ?_
  rintro i hI
  refine WC2.at_ (env' := [(0, va), (1, vb), (4, .bool false), (5, .int .i64 ((i : Nat) : Int))]) (rs' := [X1, X2]) ⟨rfl, rfl, rfl, rfl, trivial⟩ rfl ?_
  refine d_seq ?_
  rcases Nat.lt_or_ge i l.length with hn | hn
  · skip
    obtain ⟨x, hx⟩ : ∃ x, l[i]? = some x := ⟨_, List.getElem?_eq_getElem hn⟩
    refine d_reg ?_
    refine h_q hflS rfl ?_
    refine h_val rfl (.int .i64 (l.length : Int)) (fun b w hb hH => e_rlen 0 h1 Try.underlying34 rfl rfl rfl hH hb) ?_
    refine h_val rfl (.bool true) (fun b w hb hH => exec_cmp rfl rfl rfl (cmp_lss_t (by omega)) hb) ?_
    refine h_done (d_then rfl (d_skip (f_to (d_seq (d_block (d_seq ?_))))))
    refine d_parS 9 0 [⟨.quiet, [], fun _ => va, []⟩, ⟨.quiet, [], fun _ => .int .i64 ((i : Nat) : Int), []⟩, ⟨.quiet, [], fun _ => elp' va (i * 1), [0, 1]⟩, ⟨.quiet, [], fun _ => .int .i64 x, [2]⟩, ⟨.quiet, [], fun _ => vb, []⟩, ⟨.quiet, [], fun _ => .int .i64 ((i : Nat) : Int), []⟩, ⟨.quiet, [], fun _ => elp' vb (i * 1), [4, 5]⟩, ⟨.quiet, [], fun _ => .int .i64 x, [6]⟩, ⟨.quiet, [], fun _ => .bool false, [3, 7]⟩] [(0, va), (1, vb), (4, .bool false), (5, .int .i64 ((i : Nat) : Int)), (11, .int .i64 ((i : Nat) : Int)), (12, va), (13, .int .i64 (l.length : Int)), (14, .bool true)] (fun _ => [X1, X2]) (by kernel_rfl) (by kernel_rfl) ⟨rfl, rfl, rfl, rfl, rfl, rfl, rfl, rfl, trivial⟩ rfl ?_ ?_
    · skip
      refine s_cons (by exact ⟨rfl, fun b w hH hb => exec_q1 hflS rfl hb⟩) ?_
      refine s_cons (by exact ⟨rfl, fun b w hH hb => exec_q1 hflS rfl hb⟩) ?_
      refine s_cons (by exact ⟨rfl, fun b w hH hb => e_ridx 0 h1 sl_int rfl i hn rfl rfl rfl hH hb⟩) ?_
      refine s_cons (by exact ⟨rfl, fun b w hH hb => e_rload1 0 h1 ty_int okI rfl i (a := x) hx rfl rfl rfl hH hb⟩) ?_
      refine s_cons (by exact ⟨rfl, fun b w hH hb => exec_q1 hflS rfl hb⟩) ?_
      refine s_cons (by exact ⟨rfl, fun b w hH hb => exec_q1 hflS rfl hb⟩) ?_
      refine s_cons (by exact ⟨rfl, fun b w hH hb => e_ridx 1 h2 sl_int rfl i hn rfl rfl rfl hH hb⟩) ?_
      refine s_cons (by exact ⟨rfl, fun b w hH hb => e_rload1 1 h2 ty_int okI rfl i (a := x) hx rfl rfl rfl hH hb⟩) ?_
      refine s_cons (by exact ⟨rfl, fun b w hH hb => exec_cmp rfl rfl rfl (cmp_neq_f rfl) hb⟩) ?_
      exact s_nil
    refine WL2.keep (env' := [(0, va), (1, vb), (4, .bool false), (5, .int .i64 ((i : Nat) : Int)), (11, .int .i64 ((i : Nat) : Int)), (12, va), (13, .int .i64 (l.length : Int)), (14, .bool true), (17, va), (18, .int .i64 ((i : Nat) : Int)), (19, elp' va (i * 1)), (20, .int .i64 x), (21, vb), (22, .int .i64 ((i : Nat) : Int)), (23, elp' vb (i * 1)), (24, .int .i64 x), (25, .bool false)]) ⟨rfl, rfl, rfl, rfl, rfl, rfl, rfl, rfl, rfl, rfl, rfl, rfl, rfl, rfl, rfl, rfl, rfl, trivial⟩ ?_
    refine h_nil (f_to (d_else rfl (d_skip (f_block (f_to (d_reg1 ?_))))))
    refine h_q hflS rfl ?_
    refine h_val rfl (.int .i64 ((i + 1 : Nat) : Int)) (fun b w hb hH => exec_ar rfl rfl rfl rfl (by rw [IntWalk.i64_in _ (by omega)]; omega) hb) ?_
    refine h_q hflS rfl ?_
    refine h_nil ?_
    exact f_again (i + 1) 0 hn (by omega) ⟨rfl, rfl, rfl, rfl, trivial⟩ rfl
  · skip
    refine d_reg ?_
    refine h_q hflS rfl ?_
    refine h_val rfl (.int .i64 (l.length : Int)) (fun b w hb hH => e_rlen 0 h1 Try.underlying34 rfl rfl rfl hH hb) ?_
    refine h_val rfl (.bool false) (fun b w hb hH => exec_cmp rfl rfl rfl (cmp_lss_f (by omega)) hb) ?_
    refine h_done (d_else rfl (d_exit (f_then_exit (f_then_exit (f_block_exit (f_to (d_reg ?_)))))))
    refine h_q hflS rfl ?_
    refine h_done (d_ret ?_)
    exact f_fin1 (.tmp rfl) (fun w h => tells () rfl [0, 1] rfl h same_parts) rfl

set_option maxRecDepth 100000 in
theorem rmost_any (w : World) (s v : Int) (b : Bool) (hb : mst s v = b) : Calls Try.prog 29 #[.int .i64 s, .int .i64 v] w fun e w' => e = .returned (.bool b) ∧ Below w.heap.size w w' := by
  have h8 := ndI_le s 8
  have hms := mst_cb s v
  rw [hb] at hms
  refine d_in (args := [.int .i64 s, .int .i64 v]) 32 Try.func29 rfl rfl rfl ?_
  refine d_reg ?_
  refine h_q hflS rfl ?_
  refine h_done (d_reg ?_)
  refine h_q hflS rfl ?_
  refine h_act (post := fun u => [Vec 3 1 encI u (ndI s 8)]) rfl (a_does (os' := fun u => [Vec 3 1 encI u (ndI s 8)]) [] 0 (ent_of Try.func21 (by kernel_rfl) rfl) (rnodes s) rfl rfl rfl (fun _ => rfl) rfl rfl rfl) ?_; rintro u
  refine h_q hflS rfl ?_
  refine h_done (d_reg ?_)
  refine h_q hflS rfl ?_
  refine h_done (d_seq (d_reg ?_))
  refine h_q hflS rfl ?_
  refine h_done (d_block ?_)
  refine d_loop (α := Nat × Nat) (fun ⟨i, c⟩ => [(1, .int .i64 v), (4, .bool false), (5, u), (6, .int .i64 ((c : Nat) : Int)), (7, .int .i64 ((i : Nat) : Int))]) (fun ⟨i, c⟩ => [Vec 3 1 encI u (ndI s 8)]) (fun ⟨i, c⟩ => i ≤ (ndI s 8).length ∧ cb v ((ndI s 8).take i) = c) (fun ⟨i, c⟩ => (ndI s 8).length - i) (0, 0) ⟨(Nat.zero_le _), rfl⟩ ⟨rfl, rfl, rfl, rfl, rfl, trivial⟩ rfl ?_
  rintro ⟨i, c⟩ hI
  refine WC2.at_ (env' := [(1, .int .i64 v), (4, .bool false), (5, u), (6, .int .i64 ((c : Nat) : Int)), (7, .int .i64 ((i : Nat) : Int))]) (rs' := [Vec 3 1 encI u (ndI s 8)]) ⟨rfl, rfl, rfl, rfl, rfl, trivial⟩ rfl ?_
  have hI1 : i ≤ (ndI s 8).length := hI.1
  have hI2 : cb v ((ndI s 8).take i) = c := hI.2
  have hc8 := cb_le v ((ndI s 8).take i)
  rw [List.length_take] at hc8
  refine d_seq ?_
  rcases Nat.lt_or_ge i (ndI s 8).length with hn | hn
  · skip
    obtain ⟨x, hx⟩ : ∃ x, (ndI s 8)[i]? = some x := ⟨_, List.getElem?_eq_getElem hn⟩
    have hx7 := (ndI_at hx).2
    obtain ⟨q, hq⟩ : ∃ q, v / 2 ^ x.toNat = q := ⟨_, rfl⟩
    obtain ⟨r, hr⟩ : ∃ r, q % 2 = r := ⟨_, rfl⟩
    refine d_reg ?_
    refine h_q hflS rfl ?_
    refine h_val rfl (.int .i64 ((ndI s 8).length : Int)) (fun b w hb hH => e_vlen 0 Try.underlying34 rfl rfl rfl hH hb) ?_
    refine h_val rfl (.bool true) (fun b w hb hH => exec_cmp rfl rfl rfl (cmp_lss_t (by omega)) hb) ?_
    refine h_done (d_then rfl (d_skip (f_to (d_seq (d_block ?_)))))
    cases hbx : bt v x.toNat
    · skip
      have hsu : cb v ((ndI s 8).take (i + 1)) = cb v ((ndI s 8).take i) + 0 := by rw [cb_succ hx, hbx]; rfl
      have hd : decide (r = 1) = false := by rw [← hr, ← hq, bt_shr hx7]; exact hbx
      refine d_reg ?_
      refine h_q hflS rfl ?_
      refine h_val rfl (elp u (i * 1)) (fun b w hb hH => e_vidx 0 sl_int okI rfl i hn rfl rfl rfl hH hb) ?_
      refine h_val rfl (.int .i64 x) (fun b w hb hH => e_vload1 0 ty_int okI rfl i (a := x) hx rfl rfl rfl hH hb) ?_
      refine h_val rfl (.int .u64 x) (fun b w hb hH => exec_conv Try.underlying3 Try.underlying39 (IntWalk.u64_in _ (by omega)) rfl rfl hb) ?_
      refine h_val rfl (.int .i64 q) (fun b w hb hH => exec_shr7 hx7 rfl hq rfl rfl rfl hb) ?_
      refine h_val rfl (.int .i64 r) (fun b w hb hH => exec_andI ((one_and q).trans hr) rfl rfl rfl hb) ?_
      refine h_val rfl (.bool false) (fun b w hb hH => exec_cmp rfl rfl rfl (congrArg some hd) hb) ?_
      refine h_done (d_else rfl (d_skip (f_block (f_to (d_reg1 ?_)))))
      refine h_q hflS rfl ?_
      refine h_val rfl (.int .i64 ((i + 1 : Nat) : Int)) (fun b w hb hH => exec_ar rfl rfl rfl rfl (by rw [IntWalk.i64_in _ (by omega)]; omega) hb) ?_
      refine h_q hflS rfl ?_
      refine h_nil ?_
      exact f_again (i + 1, c) 0 ⟨show i + 1 ≤ (ndI s 8).length by omega, show cb v ((ndI s 8).take (i + 1)) = c by omega⟩ (show (ndI s 8).length - (i + 1) < (ndI s 8).length - i by omega) ⟨rfl, rfl, rfl, rfl, rfl, trivial⟩ rfl
    · skip
      have hsu : cb v ((ndI s 8).take (i + 1)) = cb v ((ndI s 8).take i) + 1 := by rw [cb_succ hx, hbx]; rfl
      have hd : decide (r = 1) = true := by rw [← hr, ← hq, bt_shr hx7]; exact hbx
      refine d_reg ?_
      refine h_q hflS rfl ?_
      refine h_val rfl (elp u (i * 1)) (fun b w hb hH => e_vidx 0 sl_int okI rfl i hn rfl rfl rfl hH hb) ?_
      refine h_val rfl (.int .i64 x) (fun b w hb hH => e_vload1 0 ty_int okI rfl i (a := x) hx rfl rfl rfl hH hb) ?_
      refine h_val rfl (.int .u64 x) (fun b w hb hH => exec_conv Try.underlying3 Try.underlying39 (IntWalk.u64_in _ (by omega)) rfl rfl hb) ?_
      refine h_val rfl (.int .i64 q) (fun b w hb hH => exec_shr7 hx7 rfl hq rfl rfl rfl hb) ?_
      refine h_val rfl (.int .i64 r) (fun b w hb hH => exec_andI ((one_and q).trans hr) rfl rfl rfl hb) ?_
      refine h_val rfl (.bool true) (fun b w hb hH => exec_cmp rfl rfl rfl (congrArg some hd) hb) ?_
      refine h_done (d_then rfl (d_reg1 ?_))
      refine h_q hflS rfl ?_
      refine h_val rfl (.int .i64 ((c + 1 : Nat) : Int)) (fun b w hb hH => exec_ar rfl rfl rfl rfl (by rw [IntWalk.i64_in _ (by omega)]; omega) hb) ?_
      refine h_q hflS rfl ?_
      refine h_nil (f_block (f_to (d_reg1 ?_)))
      refine h_q hflS rfl ?_
      refine h_val rfl (.int .i64 ((i + 1 : Nat) : Int)) (fun b w hb hH => exec_ar rfl rfl rfl rfl (by rw [IntWalk.i64_in _ (by omega)]; omega) hb) ?_
      refine h_q hflS rfl ?_
      refine h_nil ?_
      exact f_again (i + 1, c + 1) 0 ⟨show i + 1 ≤ (ndI s 8).length by omega, show cb v ((ndI s 8).take (i + 1)) = c + 1 by omega⟩ (show (ndI s 8).length - (i + 1) < (ndI s 8).length - i by omega) ⟨rfl, rfl, rfl, rfl, rfl, trivial⟩ rfl
  · skip
    have hle : i = (ndI s 8).length := by omega
    rw [hle, List.take_length] at hI2
    have hd : decide (((ndI s 8).length : Int) < 2 * (c : Int)) = b := by rw [← hI2]; exact hms.symm
    refine d_reg ?_
    refine h_q hflS rfl ?_
    refine h_val rfl (.int .i64 ((ndI s 8).length : Int)) (fun b w hb hH => e_vlen 0 Try.underlying34 rfl rfl rfl hH hb) ?_
    refine h_val rfl (.bool false) (fun b w hb hH => exec_cmp rfl rfl rfl (cmp_lss_f (by omega)) hb) ?_
    refine h_done (d_else rfl (d_exit (f_then_exit (f_then_exit (f_block_exit (f_to (d_reg ?_)))))))
    refine h_q hflS rfl ?_
    refine h_val rfl (.int .i64 (2 * (c : Int))) (fun b w hb hH => exec_ar rfl rfl rfl rfl (IntWalk.i64_in _ (by omega)) hb) ?_
    refine h_q hflS rfl ?_
    refine h_val rfl (.int .i64 ((ndI s 8).length : Int)) (fun b w hb hH => e_vlen 0 Try.underlying34 rfl rfl rfl hH hb) ?_
    refine h_val rfl (.bool b) (fun b w hb hH => exec_cmp rfl rfl rfl (congrArg some hd) hb) ?_
    refine h_q hflS rfl ?_
    refine h_done (d_ret ?_)
    exact f_fin1 (.tmp rfl) (fun w h => ⟨rfl, below0 h.up⟩) rfl

set_option maxRecDepth 100000 in
theorem mostlaw_true (w : World) (set votes : Int) (is : Bool) (hset : -9223372036854775808 ≤ set ∧ set ≤ 9223372036854775807) (hvotes : -9223372036854775808 ≤ votes ∧ votes ≤ 9223372036854775807)  : Calls Try.prog 7 #[.int .i64 set, .int .i64 votes, .bool is] w fun e w' => e = .returned (.bool true) ∧ Below w.heap.size w w' := by
  obtain ⟨s, hs0⟩ : ∃ s, nearM set is = s := ⟨_, rfl⟩
  have hss := near_i64 hset is
  rw [hs0] at hss
  obtain ⟨c, hc⟩ : ∃ c, mst s votes = c := ⟨_, rfl⟩
  refine d_in (args := [.int .i64 set, .int .i64 votes, .bool is]) 20 Try.func7 rfl rfl rfl ?_
  refine d_reg ?_
  refine h_q hflS rfl ?_
  refine h_done (d_reg ?_)
  refine h_q hflS rfl ?_
  refine h_act (post := fun _ => []) rfl (a_call (ent_of Try.func18 (by kernel_rfl) rfl) (fun w hH => near_any w set hset is s hs0) rfl rfl rfl) ?_; rintro ⟨⟩
  refine h_q hflS rfl ?_
  refine h_done (d_reg ?_)
  refine h_q hflS rfl ?_
  refine h_act (post := fun _ => []) rfl (a_call (ent_of Try.func14 (by kernel_rfl) rfl) (fun w hH => Run.known_calls w) rfl rfl rfl) ?_; rintro ⟨⟩
  refine h_q hflS rfl ?_
  refine h_act (post := fun _ => []) rfl (a_call (ent_of Try.func16 (by kernel_rfl) rfl) (fun w hH => most_any w s hss votes c hc) rfl rfl rfl) ?_; rintro ⟨⟩
  refine h_q hflS rfl ?_
  refine h_act (post := fun _ => []) rfl (a_call (ent_of Try.func29 (by kernel_rfl) rfl) (fun w hH => rmost_any w s votes c hc) rfl rfl rfl) ?_; rintro ⟨⟩
  refine h_val rfl (.bool true) (fun b w hb hH => exec_eqs (eqB_same _) rfl rfl rfl hb) ?_
  refine h_q hflS rfl ?_
  refine h_done (d_ret ?_)
  exact f_fin1 (.tmp rfl) (fun w h => ⟨rfl, below0 h.up⟩) rfl
end Go.Proofs.Ytmcdjniebkfagaa.Sep
