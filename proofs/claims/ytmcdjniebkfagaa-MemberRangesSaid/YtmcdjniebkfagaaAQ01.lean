/-
  MbZ
-/
import Derived.Test.YtmcdjniebkfagaaAP01
set_option linter.unusedSimpArgs false
set_option linter.unusedVariables false

namespace Go.Proofs.Ytmcdjniebkfagaa.Sep
open Go.RowKit
open Go.Proofs.Ytmcdjniebkfagaa.Mem (Dist Blk Chg below0)

/-- one node more, of what is the greatest -/
def stI (s : Int) (l : List Int) (z a : Int) : Int := if z < num l a.toNat ∧ mst s ((rch s (num l a.toNat) l 8 : Nat) : Int) = true then num l a.toNat else z
theorem idxN_fold (s : Int) (l : List Int) : ∀ n, n ≤ 7 → idxN s l (n + 1) = (ndI s (n + 1)).foldl (stI s l) 0
  | 0, _ => by rw [idx_one, ndI_one]; rfl
  | n + 1, h => by
    have ih := idxN_fold s l n (by omega)
    cases hb : hs s ((n + 1 : Nat) : Int)
    · rw [idxN_not (by rw [hb]; simp), ih, ndI_not (by omega) h hb]
    · rw [← ndI_yes (by omega) h hb, List.foldl_append, ← ih]
      show idxN s l (n + 1 + 1) = stI s l (idxN s l (n + 1)) ((n + 1 : Nat) : Int)
      unfold stI
      rw [show (((n + 1 : Nat) : Int)).toNat = n + 1 by omega]
      by_cases hc : idxN s l (n + 1) < num l (n + 1) ∧ mst s ((rch s (num l (n + 1)) l 8 : Nat) : Int) = true
      · rw [idxN_yes ⟨hb, hc⟩, if_pos hc]
      · rw [idxN_not (fun h => hc h.2), if_neg hc]
/-- is it there, and so great? -/
def prI (l : List Int) (y b : Int) : Bool := decide (b.toNat < l.length) && decide (y ≤ num l b.toNat)
theorem mst_rch {s y : Int} {l : List Int} (hy : 0 < y) : mst s ((rch s y l 8 : Nat) : Int) = decide ((ndI s 8).length < 2 * (ndI s 8).countP (prI l y)) := by
  rw [mst_cb]
  have : cb ((rch s y l 8 : Nat) : Int) (ndI s 8) = (ndI s 8).countP (prI l y) := by
    refine List.countP_congr fun b hb => ?_
    obtain ⟨hs1, hb1, hb7⟩ : hs s b = true ∧ 1 ≤ b ∧ b ≤ 7 := ⟨ndI_mem.1 hb, (may_iff.1 (hs_may (ndI_mem.1 hb))).2⟩
    unfold rch
    rw [mk_bt _ (by decide)]
    unfold rchP prI
    rw [show ((b.toNat : Nat) : Int) = b by omega, hs1]
    have : decide (b.toNat < 8) = true := by simp; omega
    rw [this]
    by_cases hlt : b.toNat < l.length
    · simp [hlt]
    · rw [num_out hlt]; simp; omega
  rw [this, decide_eq_decide]
  omega
theorem stI_at {s z y : Int} {l : List Int} {a : Nat} (hy : l[a]? = some y) : stI s l z (a : Int) = if z < y ∧ mst s ((rch s y l 8 : Nat) : Int) = true then y else z := by
  unfold stI
  rw [show ((a : Nat) : Int).toNat = a by omega, num_in hy]
theorem ndI_nat {s x : Int} {i : Nat} (h : (ndI s 8)[i]? = some x) : ∃ a : Nat, x = (a : Int) ∧ 1 ≤ a ∧ a ≤ 7 := by
  have := (ndI_at h).2
  exact ⟨x.toNat, by omega, by omega, by omega⟩
theorem cp_succ {p : Int → Bool} {x : Int} {l : List Int} {i : Nat} (h : l[i]? = some x) : (l.take (i + 1)).countP p = (l.take i).countP p + if p x then 1 else 0 := by
  rw [List.take_add_one, h, List.countP_append]
  simp [List.countP_cons]
theorem fold_succ {s : Int} {l m : List Int} {a : Int} {i : Nat} (h : m[i]? = some a) : (m.take (i + 1)).foldl (stI s l) 0 = stI s l ((m.take i).foldl (stI s l) 0) a := by
  rw [List.take_add_one, h, List.foldl_append]; rfl

set_option maxRecDepth 100000 in
set_option maxHeartbeats 1000000 in
theorem rindex_any (X : Ass) (mv : Value) (l : List Int) (hX : Rd X 1 encU mv l) (hl : l.length ≤ 9223372036854775807) (hlo : ∀ x ∈ l, 0 ≤ x) (s : Int) : Does Try.prog 31 #[.int .i64 s, mv] [X] (fun (_ : Unit) => .int .u64 (idxN s l 8)) (fun (_ : Unit) => [X]) := by
  have h8 := ndI_le s 8
  have hfo := idxN_fold s l 7 (by decide)
  refine d_ins (args := [.int .i64 s, mv]) 81 Try.func31 rfl rfl rfl ?_; intro w rs
  refine d_reg ?_
  refine h_q hflS rfl ?_
  refine h_done (d_reg ?_)
  refine h_q hflS rfl ?_
  refine h_act (post := fun u => [Vec 3 1 encI u (ndI s 8), X]) rfl (a_does (os' := fun u => [Vec 3 1 encI u (ndI s 8), X]) [] 0 (ent_of Try.func21 (by kernel_rfl) rfl) (rnodes s) rfl rfl rfl (fun _ => rfl) rfl rfl rfl) ?_; rintro u
  refine h_q hflS rfl ?_
  refine h_done (d_reg ?_)
  refine h_q hflS rfl ?_
  refine h_done (d_seq (d_reg ?_))
  refine h_q hflS rfl ?_
  refine h_done (d_block ?_)
  refine d_loop (α := Nat × Int) (fun ⟨i, z⟩ => [(1, mv), (4, .int .u64 0), (5, u), (6, .int .u64 z), (7, .int .i64 ((i : Nat) : Int))]) (fun ⟨i, z⟩ => [Vec 3 1 encI u (ndI s 8), X]) (fun ⟨i, z⟩ => i ≤ (ndI s 8).length ∧ ((ndI s 8).take i).foldl (stI s l) 0 = z ∧ 0 ≤ z) (fun ⟨i, z⟩ => (ndI s 8).length - i) (0, 0) ⟨(Nat.zero_le _), rfl, (show (0 : Int) ≤ 0 by decide)⟩ ⟨rfl, rfl, rfl, rfl, rfl, trivial⟩ rfl ?_
  rintro ⟨i, z⟩ hI
  refine WC2.at_ (env' := [(1, mv), (4, .int .u64 0), (5, u), (6, .int .u64 z), (7, .int .i64 ((i : Nat) : Int))]) (rs' := [Vec 3 1 encI u (ndI s 8), X]) ⟨rfl, rfl, rfl, rfl, rfl, trivial⟩ rfl ?_
  have hI1 : i ≤ (ndI s 8).length := hI.1
  have hI2 : ((ndI s 8).take i).foldl (stI s l) 0 = z := hI.2.1
  have hI3 : 0 ≤ z := hI.2.2
  refine d_seq ?_
  rcases Nat.lt_or_ge i (ndI s 8).length with hn | hn
  · skip
    obtain ⟨x8, hx8⟩ : ∃ x, (ndI s 8)[i]? = some x := ⟨_, List.getElem?_eq_getElem hn⟩
    obtain ⟨a9, rfl, ha1, ha7⟩ := ndI_nat hx8
    have hxa := hx8
    refine d_reg ?_
    refine h_q hflS rfl ?_
    refine h_val rfl (.int .i64 ((ndI s 8).length : Int)) (fun b w hb hH => e_vlen 0 Try.underlying34 rfl rfl rfl hH hb) ?_
    refine h_val rfl (.bool true) (fun b w hb hH => exec_cmp rfl rfl rfl (cmp_lss_t (by omega)) hb) ?_
    refine h_done (d_then rfl (d_skip (f_to (d_seq (d_block (d_seq ?_))))))
    rcases Nat.lt_or_ge a9 l.length with hla | hla
    · skip
      obtain ⟨y, hya⟩ : ∃ x, l[a9]? = some x := ⟨_, List.getElem?_eq_getElem hla⟩
      have hy0 := hlo y (List.mem_of_getElem? hya)
      refine d_reg ?_
      refine h_q hflS rfl ?_
      refine h_val rfl (elp u (i * 1)) (fun b w hb hH => e_vidx 0 sl_int okI rfl i hn rfl rfl rfl hH hb) ?_
      refine h_val rfl (.int .i64 (a9 : Int)) (fun b w hb hH => e_vload1 0 ty_int okI rfl i (a := (a9 : Int)) hxa rfl rfl rfl hH hb) ?_
      refine h_q hflS rfl ?_
      refine h_val rfl (.int .i64 (l.length : Int)) (fun b w hb hH => e_rlen 1 hX Try.underlying41 rfl rfl rfl hH hb) ?_
      refine h_val rfl (.bool false) (fun b w hb hH => exec_cmp rfl rfl rfl (cmp_geq_f (by omega)) hb) ?_
      refine h_done (d_else rfl (d_skip (f_to (d_reg ?_))))
      refine h_q hflS rfl ?_
      refine h_done (d_seq (d_reg ?_))
      refine h_q hflS rfl ?_
      refine h_done (d_block ?_)
      refine d_loop (α := Nat × Nat) (fun ⟨k, c⟩ => [(1, mv), (4, .int .u64 0), (5, u), (6, .int .u64 z), (7, .int .i64 ((i : Nat) : Int)), (12, .int .i64 ((i : Nat) : Int)), (13, u), (14, .int .i64 ((ndI s 8).length : Int)), (15, .bool true), (18, u), (19, .int .i64 ((i : Nat) : Int)), (20, elp u (i * 1)), (21, .int .i64 (a9 : Int)), (22, mv), (23, .int .i64 (l.length : Int)), (24, .bool false), (8, .int .i64 ((c : Nat) : Int)), (9, .int .i64 ((k : Nat) : Int))]) (fun ⟨k, c⟩ => [Vec 3 1 encI u (ndI s 8), X]) (fun ⟨k, c⟩ => k ≤ (ndI s 8).length ∧ ((ndI s 8).take k).countP (prI l y) = c) (fun ⟨k, c⟩ => (ndI s 8).length - k) (0, 0) ⟨(Nat.zero_le _), rfl⟩ ⟨rfl, rfl, rfl, rfl, rfl, rfl, rfl, rfl, rfl, rfl, rfl, rfl, rfl, rfl, rfl, rfl, rfl, rfl, trivial⟩ rfl ?_
      rintro ⟨k, c⟩ hJ
      refine WC2.at_ (env' := [(1, mv), (4, .int .u64 0), (5, u), (6, .int .u64 z), (7, .int .i64 ((i : Nat) : Int)), (12, .int .i64 ((i : Nat) : Int)), (13, u), (14, .int .i64 ((ndI s 8).length : Int)), (15, .bool true), (18, u), (19, .int .i64 ((i : Nat) : Int)), (20, elp u (i * 1)), (21, .int .i64 (a9 : Int)), (22, mv), (23, .int .i64 (l.length : Int)), (24, .bool false), (8, .int .i64 ((c : Nat) : Int)), (9, .int .i64 ((k : Nat) : Int))]) (rs' := [Vec 3 1 encI u (ndI s 8), X]) ⟨rfl, rfl, rfl, rfl, rfl, rfl, rfl, rfl, rfl, rfl, rfl, rfl, rfl, rfl, rfl, rfl, rfl, rfl, trivial⟩ rfl ?_
      have hJ1 : k ≤ (ndI s 8).length := hJ.1
      have hJ2 : ((ndI s 8).take k).countP (prI l y) = c := hJ.2
      have hc8 : c ≤ k := by rw [← hJ2]; exact Nat.le_trans List.countP_le_length (by rw [List.length_take]; omega)
      refine d_seq ?_
      rcases Nat.lt_or_ge k (ndI s 8).length with hk | hk
      · skip
        obtain ⟨x9, hx9⟩ : ∃ x, (ndI s 8)[k]? = some x := ⟨_, List.getElem?_eq_getElem hk⟩
        obtain ⟨g9, rfl, hg1, hg7⟩ := ndI_nat hx9
        have hxb := hx9
        refine d_reg ?_
        refine h_q hflS rfl ?_
        refine h_val rfl (.int .i64 ((ndI s 8).length : Int)) (fun b w hb hH => e_vlen 0 Try.underlying34 rfl rfl rfl hH hb) ?_
        refine h_val rfl (.bool true) (fun b w hb hH => exec_cmp rfl rfl rfl (cmp_lss_t (by omega)) hb) ?_
        refine h_done (d_then rfl (d_skip (f_to (d_seq (d_block ?_)))))
        rcases Nat.lt_or_ge g9 l.length with hlt9 | hlt9
        obtain ⟨u9, hw9⟩ : ∃ x, l[g9]? = some x := ⟨_, List.getElem?_eq_getElem hlt9⟩
        rcases Int.lt_or_le u9 y with hc9 | hc9
        · skip
          have hsu : ((ndI s 8).take (k + 1)).countP (prI l y) = ((ndI s 8).take k).countP (prI l y) + 0 := by rw [cp_succ hxb, show prI l y (g9 : Int) = false by unfold prI; rw [show ((g9 : Nat) : Int).toNat = g9 by omega, num_in hw9]; simp; omega]; rfl
          refine d_seq ?_
          refine d_parS 24 0 [⟨.quiet, [], fun _ => u, []⟩, ⟨.quiet, [], fun _ => .int .i64 ((k : Nat) : Int), []⟩, ⟨.quiet, [], fun _ => elp u (k * 1), [0, 1]⟩, ⟨.quiet, [], fun _ => .int .i64 (g9 : Int), [2]⟩, ⟨.quiet, [], fun _ => mv, []⟩, ⟨.quiet, [], fun _ => .int .i64 (l.length : Int), [4]⟩, ⟨.quiet, [], fun _ => .bool true, [3, 5]⟩, ⟨.quiet, [], fun _ => .bool true, [6]⟩, ⟨.quiet, [], fun _ => mv, [7]⟩, ⟨.quiet, [], fun _ => u, [7]⟩, ⟨.quiet, [], fun _ => .int .i64 ((k : Nat) : Int), [7]⟩, ⟨.quiet, [], fun _ => elp u (k * 1), [9, 10, 7]⟩, ⟨.quiet, [], fun _ => .int .i64 (g9 : Int), [11, 7]⟩, ⟨.quiet, [], fun _ => elp' mv (g9 * 1), [8, 12, 7]⟩, ⟨.quiet, [], fun _ => .int .u64 u9, [13, 7]⟩, ⟨.quiet, [], fun _ => mv, [7]⟩, ⟨.quiet, [], fun _ => u, [7]⟩, ⟨.quiet, [], fun _ => .int .i64 ((i : Nat) : Int), [7]⟩, ⟨.quiet, [], fun _ => elp u (i * 1), [16, 17, 7]⟩, ⟨.quiet, [], fun _ => .int .i64 (a9 : Int), [18, 7]⟩, ⟨.quiet, [], fun _ => elp' mv (a9 * 1), [15, 19, 7]⟩, ⟨.quiet, [], fun _ => .int .u64 y, [20, 7]⟩, ⟨.quiet, [], fun _ => .bool false, [14, 21, 7]⟩, ⟨.quiet, [], fun _ => .bool false, [7, 22]⟩] [(1, mv), (4, .int .u64 0), (5, u), (6, .int .u64 z), (7, .int .i64 ((i : Nat) : Int)), (12, .int .i64 ((i : Nat) : Int)), (13, u), (14, .int .i64 ((ndI s 8).length : Int)), (15, .bool true), (18, u), (19, .int .i64 ((i : Nat) : Int)), (20, elp u (i * 1)), (21, .int .i64 (a9 : Int)), (22, mv), (23, .int .i64 (l.length : Int)), (24, .bool false), (8, .int .i64 ((c : Nat) : Int)), (9, .int .i64 ((k : Nat) : Int)), (25, .int .i64 ((k : Nat) : Int)), (26, u), (27, .int .i64 ((ndI s 8).length : Int)), (28, .bool true)] (fun _ => [Vec 3 1 encI u (ndI s 8), X]) (by kernel_rfl) (by kernel_rfl) ⟨rfl, rfl, rfl, rfl, rfl, rfl, rfl, rfl, rfl, rfl, rfl, rfl, rfl, rfl, rfl, rfl, rfl, rfl, rfl, rfl, rfl, rfl, trivial⟩ rfl ?_ ?_
          · skip
            refine s_cons (by exact ⟨rfl, fun b w hH hb => exec_q1 hflS rfl hb⟩) ?_
            refine s_cons (by exact ⟨rfl, fun b w hH hb => exec_q1 hflS rfl hb⟩) ?_
            refine s_cons (by exact ⟨rfl, fun b w hH hb => e_vidx 0 sl_int okI rfl k hk rfl rfl rfl hH hb⟩) ?_
            refine s_cons (by exact ⟨rfl, fun b w hH hb => e_vload1 0 ty_int okI rfl k (a := (g9 : Int)) hx9 rfl rfl rfl hH hb⟩) ?_
            refine s_cons (by exact ⟨rfl, fun b w hH hb => exec_q1 hflS rfl hb⟩) ?_
            refine s_cons (by exact ⟨rfl, fun b w hH hb => e_rlen 1 hX Try.underlying41 rfl rfl rfl hH hb⟩) ?_
            refine s_cons (by exact ⟨rfl, fun b w hH hb => exec_cmp rfl rfl rfl (cmp_lss_t (by omega)) hb⟩) ?_
            refine s_cons (by exact ⟨rfl, fun b w hH hb => exec_q1 hflS rfl hb⟩) ?_
            refine s_cons (by exact ⟨rfl, fun b w hH hb => exec_q1 hflS rfl hb⟩) ?_
            refine s_cons (by exact ⟨rfl, fun b w hH hb => exec_q1 hflS rfl hb⟩) ?_
            refine s_cons (by exact ⟨rfl, fun b w hH hb => exec_q1 hflS rfl hb⟩) ?_
            refine s_cons (by exact ⟨rfl, fun b w hH hb => e_vidx 0 sl_int okI rfl k hk rfl rfl rfl hH hb⟩) ?_
            refine s_cons (by exact ⟨rfl, fun b w hH hb => e_vload1 0 ty_int okI rfl k (a := (g9 : Int)) hx9 rfl rfl rfl hH hb⟩) ?_
            refine s_cons (by exact ⟨rfl, fun b w hH hb => e_ridx 1 hX sl_uint64 rfl g9 hlt9 rfl rfl rfl hH hb⟩) ?_
            refine s_cons (by exact ⟨rfl, fun b w hH hb => e_rload1 1 hX ty_uint64 okU rfl g9 (a := u9) hw9 rfl rfl rfl hH hb⟩) ?_
            refine s_cons (by exact ⟨rfl, fun b w hH hb => exec_q1 hflS rfl hb⟩) ?_
            refine s_cons (by exact ⟨rfl, fun b w hH hb => exec_q1 hflS rfl hb⟩) ?_
            refine s_cons (by exact ⟨rfl, fun b w hH hb => exec_q1 hflS rfl hb⟩) ?_
            refine s_cons (by exact ⟨rfl, fun b w hH hb => e_vidx 0 sl_int okI rfl i hn rfl rfl rfl hH hb⟩) ?_
            refine s_cons (by exact ⟨rfl, fun b w hH hb => e_vload1 0 ty_int okI rfl i (a := (a9 : Int)) hxa rfl rfl rfl hH hb⟩) ?_
            refine s_cons (by exact ⟨rfl, fun b w hH hb => e_ridx 1 hX sl_uint64 rfl a9 hla rfl rfl rfl hH hb⟩) ?_
            refine s_cons (by exact ⟨rfl, fun b w hH hb => e_rload1 1 hX ty_uint64 okU rfl a9 (a := y) hya rfl rfl rfl hH hb⟩) ?_
            refine s_cons (by exact ⟨rfl, fun b w hH hb => exec_cmp rfl rfl rfl (cmp_geq_f (by omega)) hb⟩) ?_
            refine s_cons (by exact ⟨rfl, fun b w hH hb => exec_q1 hflS rfl hb⟩) ?_
            exact s_nil
          refine WL2.keep (env' := [(1, mv), (4, .int .u64 0), (5, u), (6, .int .u64 z), (7, .int .i64 ((i : Nat) : Int)), (12, .int .i64 ((i : Nat) : Int)), (13, u), (14, .int .i64 ((ndI s 8).length : Int)), (15, .bool true), (18, u), (19, .int .i64 ((i : Nat) : Int)), (20, elp u (i * 1)), (21, .int .i64 (a9 : Int)), (22, mv), (23, .int .i64 (l.length : Int)), (24, .bool false), (8, .int .i64 ((c : Nat) : Int)), (9, .int .i64 ((k : Nat) : Int)), (25, .int .i64 ((k : Nat) : Int)), (26, u), (27, .int .i64 ((ndI s 8).length : Int)), (28, .bool true), (31, u), (32, .int .i64 ((k : Nat) : Int)), (33, elp u (k * 1)), (34, .int .i64 (g9 : Int)), (35, mv), (36, .int .i64 (l.length : Int)), (37, .bool true), (38, .bool true), (39, mv), (40, u), (41, .int .i64 ((k : Nat) : Int)), (42, elp u (k * 1)), (43, .int .i64 (g9 : Int)), (44, elp' mv (g9 * 1)), (45, .int .u64 u9), (46, mv), (47, u), (48, .int .i64 ((i : Nat) : Int)), (49, elp u (i * 1)), (50, .int .i64 (a9 : Int)), (51, elp' mv (a9 * 1)), (52, .int .u64 y), (53, .bool false), (54, .bool false)]) ⟨rfl, rfl, rfl, rfl, rfl, rfl, rfl, rfl, rfl, rfl, rfl, rfl, rfl, rfl, rfl, rfl, rfl, rfl, rfl, rfl, rfl, rfl, rfl, rfl, rfl, rfl, rfl, rfl, rfl, rfl, rfl, rfl, rfl, rfl, rfl, rfl, rfl, rfl, rfl, rfl, rfl, rfl, rfl, rfl, rfl, rfl, trivial⟩ ?_
          refine h_nil (f_to (d_else rfl (d_skip (f_block (f_to (d_reg1 ?_))))))
          refine h_q hflS rfl ?_
          refine h_val rfl (.int .i64 ((k + 1 : Nat) : Int)) (fun b w hb hH => exec_ar rfl rfl rfl rfl (by rw [IntWalk.i64_in _ (by omega)]; omega) hb) ?_
          refine h_q hflS rfl ?_
          refine h_nil ?_
          exact f_again (k + 1, c) 0 ⟨show k + 1 ≤ (ndI s 8).length by omega, show ((ndI s 8).take (k + 1)).countP (prI l y) = c by omega⟩ (show (ndI s 8).length - (k + 1) < (ndI s 8).length - k by omega) ⟨rfl, rfl, rfl, rfl, rfl, rfl, rfl, rfl, rfl, rfl, rfl, rfl, rfl, rfl, rfl, rfl, rfl, rfl, trivial⟩ rfl
        · skip
          have hsu : ((ndI s 8).take (k + 1)).countP (prI l y) = ((ndI s 8).take k).countP (prI l y) + 1 := by rw [cp_succ hxb, show prI l y (g9 : Int) = true by unfold prI; rw [show ((g9 : Nat) : Int).toNat = g9 by omega, num_in hw9]; simp; omega]; rfl
          refine d_seq ?_
          refine d_parS 24 0 [⟨.quiet, [], fun _ => u, []⟩, ⟨.quiet, [], fun _ => .int .i64 ((k : Nat) : Int), []⟩, ⟨.quiet, [], fun _ => elp u (k * 1), [0, 1]⟩, ⟨.quiet, [], fun _ => .int .i64 (g9 : Int), [2]⟩, ⟨.quiet, [], fun _ => mv, []⟩, ⟨.quiet, [], fun _ => .int .i64 (l.length : Int), [4]⟩, ⟨.quiet, [], fun _ => .bool true, [3, 5]⟩, ⟨.quiet, [], fun _ => .bool true, [6]⟩, ⟨.quiet, [], fun _ => mv, [7]⟩, ⟨.quiet, [], fun _ => u, [7]⟩, ⟨.quiet, [], fun _ => .int .i64 ((k : Nat) : Int), [7]⟩, ⟨.quiet, [], fun _ => elp u (k * 1), [9, 10, 7]⟩, ⟨.quiet, [], fun _ => .int .i64 (g9 : Int), [11, 7]⟩, ⟨.quiet, [], fun _ => elp' mv (g9 * 1), [8, 12, 7]⟩, ⟨.quiet, [], fun _ => .int .u64 u9, [13, 7]⟩, ⟨.quiet, [], fun _ => mv, [7]⟩, ⟨.quiet, [], fun _ => u, [7]⟩, ⟨.quiet, [], fun _ => .int .i64 ((i : Nat) : Int), [7]⟩, ⟨.quiet, [], fun _ => elp u (i * 1), [16, 17, 7]⟩, ⟨.quiet, [], fun _ => .int .i64 (a9 : Int), [18, 7]⟩, ⟨.quiet, [], fun _ => elp' mv (a9 * 1), [15, 19, 7]⟩, ⟨.quiet, [], fun _ => .int .u64 y, [20, 7]⟩, ⟨.quiet, [], fun _ => .bool true, [14, 21, 7]⟩, ⟨.quiet, [], fun _ => .bool true, [7, 22]⟩] [(1, mv), (4, .int .u64 0), (5, u), (6, .int .u64 z), (7, .int .i64 ((i : Nat) : Int)), (12, .int .i64 ((i : Nat) : Int)), (13, u), (14, .int .i64 ((ndI s 8).length : Int)), (15, .bool true), (18, u), (19, .int .i64 ((i : Nat) : Int)), (20, elp u (i * 1)), (21, .int .i64 (a9 : Int)), (22, mv), (23, .int .i64 (l.length : Int)), (24, .bool false), (8, .int .i64 ((c : Nat) : Int)), (9, .int .i64 ((k : Nat) : Int)), (25, .int .i64 ((k : Nat) : Int)), (26, u), (27, .int .i64 ((ndI s 8).length : Int)), (28, .bool true)] (fun _ => [Vec 3 1 encI u (ndI s 8), X]) (by kernel_rfl) (by kernel_rfl) ⟨rfl, rfl, rfl, rfl, rfl, rfl, rfl, rfl, rfl, rfl, rfl, rfl, rfl, rfl, rfl, rfl, rfl, rfl, rfl, rfl, rfl, rfl, trivial⟩ rfl ?_ ?_
          · skip
            refine s_cons (by exact ⟨rfl, fun b w hH hb => exec_q1 hflS rfl hb⟩) ?_
            refine s_cons (by exact ⟨rfl, fun b w hH hb => exec_q1 hflS rfl hb⟩) ?_
            refine s_cons (by exact ⟨rfl, fun b w hH hb => e_vidx 0 sl_int okI rfl k hk rfl rfl rfl hH hb⟩) ?_
            refine s_cons (by exact ⟨rfl, fun b w hH hb => e_vload1 0 ty_int okI rfl k (a := (g9 : Int)) hx9 rfl rfl rfl hH hb⟩) ?_
            refine s_cons (by exact ⟨rfl, fun b w hH hb => exec_q1 hflS rfl hb⟩) ?_
            refine s_cons (by exact ⟨rfl, fun b w hH hb => e_rlen 1 hX Try.underlying41 rfl rfl rfl hH hb⟩) ?_
            refine s_cons (by exact ⟨rfl, fun b w hH hb => exec_cmp rfl rfl rfl (cmp_lss_t (by omega)) hb⟩) ?_
            refine s_cons (by exact ⟨rfl, fun b w hH hb => exec_q1 hflS rfl hb⟩) ?_
            refine s_cons (by exact ⟨rfl, fun b w hH hb => exec_q1 hflS rfl hb⟩) ?_
            refine s_cons (by exact ⟨rfl, fun b w hH hb => exec_q1 hflS rfl hb⟩) ?_
            refine s_cons (by exact ⟨rfl, fun b w hH hb => exec_q1 hflS rfl hb⟩) ?_
            refine s_cons (by exact ⟨rfl, fun b w hH hb => e_vidx 0 sl_int okI rfl k hk rfl rfl rfl hH hb⟩) ?_
            refine s_cons (by exact ⟨rfl, fun b w hH hb => e_vload1 0 ty_int okI rfl k (a := (g9 : Int)) hx9 rfl rfl rfl hH hb⟩) ?_
            refine s_cons (by exact ⟨rfl, fun b w hH hb => e_ridx 1 hX sl_uint64 rfl g9 hlt9 rfl rfl rfl hH hb⟩) ?_
            refine s_cons (by exact ⟨rfl, fun b w hH hb => e_rload1 1 hX ty_uint64 okU rfl g9 (a := u9) hw9 rfl rfl rfl hH hb⟩) ?_
            refine s_cons (by exact ⟨rfl, fun b w hH hb => exec_q1 hflS rfl hb⟩) ?_
            refine s_cons (by exact ⟨rfl, fun b w hH hb => exec_q1 hflS rfl hb⟩) ?_
            refine s_cons (by exact ⟨rfl, fun b w hH hb => exec_q1 hflS rfl hb⟩) ?_
            refine s_cons (by exact ⟨rfl, fun b w hH hb => e_vidx 0 sl_int okI rfl i hn rfl rfl rfl hH hb⟩) ?_
            refine s_cons (by exact ⟨rfl, fun b w hH hb => e_vload1 0 ty_int okI rfl i (a := (a9 : Int)) hxa rfl rfl rfl hH hb⟩) ?_
            refine s_cons (by exact ⟨rfl, fun b w hH hb => e_ridx 1 hX sl_uint64 rfl a9 hla rfl rfl rfl hH hb⟩) ?_
            refine s_cons (by exact ⟨rfl, fun b w hH hb => e_rload1 1 hX ty_uint64 okU rfl a9 (a := y) hya rfl rfl rfl hH hb⟩) ?_
            refine s_cons (by exact ⟨rfl, fun b w hH hb => exec_cmp rfl rfl rfl (cmp_geq_t (by omega)) hb⟩) ?_
            refine s_cons (by exact ⟨rfl, fun b w hH hb => exec_q1 hflS rfl hb⟩) ?_
            exact s_nil
          refine WL2.keep (env' := [(1, mv), (4, .int .u64 0), (5, u), (6, .int .u64 z), (7, .int .i64 ((i : Nat) : Int)), (12, .int .i64 ((i : Nat) : Int)), (13, u), (14, .int .i64 ((ndI s 8).length : Int)), (15, .bool true), (18, u), (19, .int .i64 ((i : Nat) : Int)), (20, elp u (i * 1)), (21, .int .i64 (a9 : Int)), (22, mv), (23, .int .i64 (l.length : Int)), (24, .bool false), (8, .int .i64 ((c : Nat) : Int)), (9, .int .i64 ((k : Nat) : Int)), (25, .int .i64 ((k : Nat) : Int)), (26, u), (27, .int .i64 ((ndI s 8).length : Int)), (28, .bool true), (31, u), (32, .int .i64 ((k : Nat) : Int)), (33, elp u (k * 1)), (34, .int .i64 (g9 : Int)), (35, mv), (36, .int .i64 (l.length : Int)), (37, .bool true), (38, .bool true), (39, mv), (40, u), (41, .int .i64 ((k : Nat) : Int)), (42, elp u (k * 1)), (43, .int .i64 (g9 : Int)), (44, elp' mv (g9 * 1)), (45, .int .u64 u9), (46, mv), (47, u), (48, .int .i64 ((i : Nat) : Int)), (49, elp u (i * 1)), (50, .int .i64 (a9 : Int)), (51, elp' mv (a9 * 1)), (52, .int .u64 y), (53, .bool true), (54, .bool true)]) ⟨rfl, rfl, rfl, rfl, rfl, rfl, rfl, rfl, rfl, rfl, rfl, rfl, rfl, rfl, rfl, rfl, rfl, rfl, rfl, rfl, rfl, rfl, rfl, rfl, rfl, rfl, rfl, rfl, rfl, rfl, rfl, rfl, rfl, rfl, rfl, rfl, rfl, rfl, rfl, rfl, rfl, rfl, rfl, rfl, rfl, rfl, trivial⟩ ?_
          refine h_nil (f_to (d_then rfl (d_reg1 ?_)))
          refine h_q hflS rfl ?_
          refine h_val rfl (.int .i64 ((c + 1 : Nat) : Int)) (fun b w hb hH => exec_ar rfl rfl rfl rfl (by rw [IntWalk.i64_in _ (by omega)]; omega) hb) ?_
          refine h_q hflS rfl ?_
          refine h_nil (f_block (f_to (d_reg1 ?_)))
          refine h_q hflS rfl ?_
          refine h_val rfl (.int .i64 ((k + 1 : Nat) : Int)) (fun b w hb hH => exec_ar rfl rfl rfl rfl (by rw [IntWalk.i64_in _ (by omega)]; omega) hb) ?_
          refine h_q hflS rfl ?_
          refine h_nil ?_
          exact f_again (k + 1, c + 1) 0 ⟨show k + 1 ≤ (ndI s 8).length by omega, show ((ndI s 8).take (k + 1)).countP (prI l y) = c + 1 by omega⟩ (show (ndI s 8).length - (k + 1) < (ndI s 8).length - k by omega) ⟨rfl, rfl, rfl, rfl, rfl, rfl, rfl, rfl, rfl, rfl, rfl, rfl, rfl, rfl, rfl, rfl, rfl, rfl, trivial⟩ rfl
        · skip
          have hsu : ((ndI s 8).take (k + 1)).countP (prI l y) = ((ndI s 8).take k).countP (prI l y) + 0 := by rw [cp_succ hxb, show prI l y (g9 : Int) = false by unfold prI; simp; omega]; rfl
          refine d_seq ?_
          refine d_parS 24 0 [⟨.quiet, [], fun _ => u, []⟩, ⟨.quiet, [], fun _ => .int .i64 ((k : Nat) : Int), []⟩, ⟨.quiet, [], fun _ => elp u (k * 1), [0, 1]⟩, ⟨.quiet, [], fun _ => .int .i64 (g9 : Int), [2]⟩, ⟨.quiet, [], fun _ => mv, []⟩, ⟨.quiet, [], fun _ => .int .i64 (l.length : Int), [4]⟩, ⟨.quiet, [], fun _ => .bool false, [3, 5]⟩, ⟨.quiet, [], fun _ => .bool false, [6]⟩, ⟨.skip, [], fun _ => undef, [7]⟩, ⟨.skip, [], fun _ => undef, [7]⟩, ⟨.skip, [], fun _ => undef, [7]⟩, ⟨.skip, [], fun _ => undef, [9, 10, 7]⟩, ⟨.skip, [], fun _ => undef, [11, 7]⟩, ⟨.skip, [], fun _ => undef, [8, 12, 7]⟩, ⟨.skip, [], fun _ => undef, [13, 7]⟩, ⟨.skip, [], fun _ => undef, [7]⟩, ⟨.skip, [], fun _ => undef, [7]⟩, ⟨.skip, [], fun _ => undef, [7]⟩, ⟨.skip, [], fun _ => undef, [16, 17, 7]⟩, ⟨.skip, [], fun _ => undef, [18, 7]⟩, ⟨.skip, [], fun _ => undef, [15, 19, 7]⟩, ⟨.skip, [], fun _ => undef, [20, 7]⟩, ⟨.skip, [], fun _ => undef, [14, 21, 7]⟩, ⟨.quiet, [], fun _ => .bool false, [7, 22]⟩] [(1, mv), (4, .int .u64 0), (5, u), (6, .int .u64 z), (7, .int .i64 ((i : Nat) : Int)), (12, .int .i64 ((i : Nat) : Int)), (13, u), (14, .int .i64 ((ndI s 8).length : Int)), (15, .bool true), (18, u), (19, .int .i64 ((i : Nat) : Int)), (20, elp u (i * 1)), (21, .int .i64 (a9 : Int)), (22, mv), (23, .int .i64 (l.length : Int)), (24, .bool false), (8, .int .i64 ((c : Nat) : Int)), (9, .int .i64 ((k : Nat) : Int)), (25, .int .i64 ((k : Nat) : Int)), (26, u), (27, .int .i64 ((ndI s 8).length : Int)), (28, .bool true)] (fun _ => [Vec 3 1 encI u (ndI s 8), X]) (by kernel_rfl) (by kernel_rfl) ⟨rfl, rfl, rfl, rfl, rfl, rfl, rfl, rfl, rfl, rfl, rfl, rfl, rfl, rfl, rfl, rfl, rfl, rfl, rfl, rfl, rfl, rfl, trivial⟩ rfl ?_ ?_
          · skip
            refine s_cons (by exact ⟨rfl, fun b w hH hb => exec_q1 hflS rfl hb⟩) ?_
            refine s_cons (by exact ⟨rfl, fun b w hH hb => exec_q1 hflS rfl hb⟩) ?_
            refine s_cons (by exact ⟨rfl, fun b w hH hb => e_vidx 0 sl_int okI rfl k hk rfl rfl rfl hH hb⟩) ?_
            refine s_cons (by exact ⟨rfl, fun b w hH hb => e_vload1 0 ty_int okI rfl k (a := (g9 : Int)) hx9 rfl rfl rfl hH hb⟩) ?_
            refine s_cons (by exact ⟨rfl, fun b w hH hb => exec_q1 hflS rfl hb⟩) ?_
            refine s_cons (by exact ⟨rfl, fun b w hH hb => e_rlen 1 hX Try.underlying41 rfl rfl rfl hH hb⟩) ?_
            refine s_cons (by exact ⟨rfl, fun b w hH hb => exec_cmp rfl rfl rfl (cmp_lss_f (by omega)) hb⟩) ?_
            refine s_cons (by exact ⟨rfl, fun b w hH hb => exec_q1 hflS rfl hb⟩) ?_
            refine s_cons (by exact ⟨rfl, rfl⟩) ?_
            refine s_cons (by exact ⟨rfl, rfl⟩) ?_
            refine s_cons (by exact ⟨rfl, rfl⟩) ?_
            refine s_cons (by exact ⟨rfl, rfl⟩) ?_
            refine s_cons (by exact ⟨rfl, rfl⟩) ?_
            refine s_cons (by exact ⟨rfl, rfl⟩) ?_
            refine s_cons (by exact ⟨rfl, rfl⟩) ?_
            refine s_cons (by exact ⟨rfl, rfl⟩) ?_
            refine s_cons (by exact ⟨rfl, rfl⟩) ?_
            refine s_cons (by exact ⟨rfl, rfl⟩) ?_
            refine s_cons (by exact ⟨rfl, rfl⟩) ?_
            refine s_cons (by exact ⟨rfl, rfl⟩) ?_
            refine s_cons (by exact ⟨rfl, rfl⟩) ?_
            refine s_cons (by exact ⟨rfl, rfl⟩) ?_
            refine s_cons (by exact ⟨rfl, rfl⟩) ?_
            refine s_cons (by exact ⟨rfl, fun b w hH hb => exec_q1 hflS rfl hb⟩) ?_
            exact s_nil
          refine WL2.keep (env' := [(1, mv), (4, .int .u64 0), (5, u), (6, .int .u64 z), (7, .int .i64 ((i : Nat) : Int)), (12, .int .i64 ((i : Nat) : Int)), (13, u), (14, .int .i64 ((ndI s 8).length : Int)), (15, .bool true), (18, u), (19, .int .i64 ((i : Nat) : Int)), (20, elp u (i * 1)), (21, .int .i64 (a9 : Int)), (22, mv), (23, .int .i64 (l.length : Int)), (24, .bool false), (8, .int .i64 ((c : Nat) : Int)), (9, .int .i64 ((k : Nat) : Int)), (25, .int .i64 ((k : Nat) : Int)), (26, u), (27, .int .i64 ((ndI s 8).length : Int)), (28, .bool true), (31, u), (32, .int .i64 ((k : Nat) : Int)), (33, elp u (k * 1)), (34, .int .i64 (g9 : Int)), (35, mv), (36, .int .i64 (l.length : Int)), (37, .bool false), (38, .bool false), (39, undef), (40, undef), (41, undef), (42, undef), (43, undef), (44, undef), (45, undef), (46, undef), (47, undef), (48, undef), (49, undef), (50, undef), (51, undef), (52, undef), (53, undef), (54, .bool false)]) ⟨rfl, rfl, rfl, rfl, rfl, rfl, rfl, rfl, rfl, rfl, rfl, rfl, rfl, rfl, rfl, rfl, rfl, rfl, rfl, rfl, rfl, rfl, rfl, rfl, rfl, rfl, rfl, rfl, rfl, rfl, rfl, rfl, rfl, rfl, rfl, rfl, rfl, rfl, rfl, rfl, rfl, rfl, rfl, rfl, rfl, rfl, trivial⟩ ?_
          refine h_nil (f_to (d_else rfl (d_skip (f_block (f_to (d_reg1 ?_))))))
          refine h_q hflS rfl ?_
          refine h_val rfl (.int .i64 ((k + 1 : Nat) : Int)) (fun b w hb hH => exec_ar rfl rfl rfl rfl (by rw [IntWalk.i64_in _ (by omega)]; omega) hb) ?_
          refine h_q hflS rfl ?_
          refine h_nil ?_
          exact f_again (k + 1, c) 0 ⟨show k + 1 ≤ (ndI s 8).length by omega, show ((ndI s 8).take (k + 1)).countP (prI l y) = c by omega⟩ (show (ndI s 8).length - (k + 1) < (ndI s 8).length - k by omega) ⟨rfl, rfl, rfl, rfl, rfl, rfl, rfl, rfl, rfl, rfl, rfl, rfl, rfl, rfl, rfl, rfl, rfl, rfl, trivial⟩ rfl
      · skip
        have hke : k = (ndI s 8).length := by omega
        rw [hke, List.take_length] at hJ2
        refine d_reg ?_
        refine h_q hflS rfl ?_
        refine h_val rfl (.int .i64 ((ndI s 8).length : Int)) (fun b w hb hH => e_vlen 0 Try.underlying34 rfl rfl rfl hH hb) ?_
        refine h_val rfl (.bool false) (fun b w hb hH => exec_cmp rfl rfl rfl (cmp_lss_f (by omega)) hb) ?_
        refine h_done (d_else rfl (d_exit (f_then_exit (f_then_exit (f_block_exit (f_to ?_))))))
        have hst := fold_succ (s := s) (l := l) hxa
        rw [hI2, stI_at hya] at hst
        have hms : 0 < y → mst s ((rch s y l 8 : Nat) : Int) = decide ((ndI s 8).length < 2 * c) := fun h => by rw [mst_rch h, hJ2]
        rcases Int.lt_or_le z y with hzy | hzy
        rcases Nat.lt_or_ge (ndI s 8).length (2 * c) with h2c | h2c
        · skip
          have hz2 : ((ndI s 8).take (i + 1)).foldl (stI s l) 0 = y := by rw [hst, if_pos ⟨hzy, by rw [hms (by omega)]; simp; omega⟩]
          refine d_reg ?_
          refine h_q hflS rfl ?_
          refine h_val rfl (.int .i64 (2 * (c : Int))) (fun b w hb hH => exec_ar rfl rfl rfl rfl (IntWalk.i64_in _ (by omega)) hb) ?_
          refine h_q hflS rfl ?_
          refine h_val rfl (.int .i64 ((ndI s 8).length : Int)) (fun b w hb hH => e_vlen 0 Try.underlying34 rfl rfl rfl hH hb) ?_
          refine h_val rfl (.bool true) (fun b w hb hH => exec_cmp rfl rfl rfl (cmp_gtr_t (by omega)) hb) ?_
          refine h_q hflS rfl ?_
          refine h_val rfl (elp u (i * 1)) (fun b w hb hH => e_vidx 0 sl_int okI rfl i hn rfl rfl rfl hH hb) ?_
          refine h_val rfl (.int .i64 (a9 : Int)) (fun b w hb hH => e_vload1 0 ty_int okI rfl i (a := (a9 : Int)) hxa rfl rfl rfl hH hb) ?_
          refine h_val rfl (elp' mv (a9 * 1)) (fun b w hb hH => e_ridx 1 hX sl_uint64 rfl a9 hla rfl rfl rfl hH hb) ?_
          refine h_val rfl (.int .u64 y) (fun b w hb hH => e_rload1 1 hX ty_uint64 okU rfl a9 (a := y) hya rfl rfl rfl hH hb) ?_
          refine h_q hflS rfl ?_
          refine h_val rfl (.bool true) (fun b w hb hH => exec_cmp rfl rfl rfl (cmp_gtr_t (by omega)) hb) ?_
          refine h_q hflS rfl ?_
          refine h_done (d_then rfl (d_reg1 ?_))
          refine h_q hflS rfl ?_
          refine h_val rfl (elp u (i * 1)) (fun b w hb hH => e_vidx 0 sl_int okI rfl i hn rfl rfl rfl hH hb) ?_
          refine h_val rfl (.int .i64 (a9 : Int)) (fun b w hb hH => e_vload1 0 ty_int okI rfl i (a := (a9 : Int)) hxa rfl rfl rfl hH hb) ?_
          refine h_val rfl (elp' mv (a9 * 1)) (fun b w hb hH => e_ridx 1 hX sl_uint64 rfl a9 hla rfl rfl rfl hH hb) ?_
          refine h_val rfl (.int .u64 y) (fun b w hb hH => e_rload1 1 hX ty_uint64 okU rfl a9 (a := y) hya rfl rfl rfl hH hb) ?_
          refine h_q hflS rfl ?_
          refine h_nil (f_block (f_to (d_reg1 ?_)))
          refine h_q hflS rfl ?_
          refine h_val rfl (.int .i64 ((i + 1 : Nat) : Int)) (fun b w hb hH => exec_ar rfl rfl rfl rfl (by rw [IntWalk.i64_in _ (by omega)]; omega) hb) ?_
          refine h_q hflS rfl ?_
          refine h_nil ?_
          exact f_again (i + 1, y) 0 ⟨show i + 1 ≤ (ndI s 8).length by omega, hz2, by show 0 ≤ y; omega⟩ (show (ndI s 8).length - (i + 1) < (ndI s 8).length - i by omega) ⟨rfl, rfl, rfl, rfl, rfl, trivial⟩ rfl
        · skip
          have hz2 : ((ndI s 8).take (i + 1)).foldl (stI s l) 0 = z := by rw [hst, if_neg (fun h9 => by have h8 := h9.2; rw [hms (by omega)] at h8; simp at h8; omega)]
          refine d_reg ?_
          refine h_q hflS rfl ?_
          refine h_val rfl (.int .i64 (2 * (c : Int))) (fun b w hb hH => exec_ar rfl rfl rfl rfl (IntWalk.i64_in _ (by omega)) hb) ?_
          refine h_q hflS rfl ?_
          refine h_val rfl (.int .i64 ((ndI s 8).length : Int)) (fun b w hb hH => e_vlen 0 Try.underlying34 rfl rfl rfl hH hb) ?_
          refine h_val rfl (.bool false) (fun b w hb hH => exec_cmp rfl rfl rfl (cmp_gtr_f (by omega)) hb) ?_
          refine h_q hflS rfl ?_
          refine h_done (d_else rfl (d_skip (f_block (f_to (d_reg1 ?_)))))
          refine h_q hflS rfl ?_
          refine h_val rfl (.int .i64 ((i + 1 : Nat) : Int)) (fun b w hb hH => exec_ar rfl rfl rfl rfl (by rw [IntWalk.i64_in _ (by omega)]; omega) hb) ?_
          refine h_q hflS rfl ?_
          refine h_nil ?_
          exact f_again (i + 1, z) 0 ⟨show i + 1 ≤ (ndI s 8).length by omega, hz2, by show 0 ≤ z; omega⟩ (show (ndI s 8).length - (i + 1) < (ndI s 8).length - i by omega) ⟨rfl, rfl, rfl, rfl, rfl, trivial⟩ rfl
        · skip
          have hz2 : ((ndI s 8).take (i + 1)).foldl (stI s l) 0 = z := by rw [hst, if_neg (fun h9 => by omega)]
          rcases Nat.lt_or_ge (ndI s 8).length (2 * c) with h2c | h2c
          · skip
            refine d_reg ?_
            refine h_q hflS rfl ?_
            refine h_val rfl (.int .i64 (2 * (c : Int))) (fun b w hb hH => exec_ar rfl rfl rfl rfl (IntWalk.i64_in _ (by omega)) hb) ?_
            refine h_q hflS rfl ?_
            refine h_val rfl (.int .i64 ((ndI s 8).length : Int)) (fun b w hb hH => e_vlen 0 Try.underlying34 rfl rfl rfl hH hb) ?_
            refine h_val rfl (.bool true) (fun b w hb hH => exec_cmp rfl rfl rfl (cmp_gtr_t (by omega)) hb) ?_
            refine h_q hflS rfl ?_
            refine h_val rfl (elp u (i * 1)) (fun b w hb hH => e_vidx 0 sl_int okI rfl i hn rfl rfl rfl hH hb) ?_
            refine h_val rfl (.int .i64 (a9 : Int)) (fun b w hb hH => e_vload1 0 ty_int okI rfl i (a := (a9 : Int)) hxa rfl rfl rfl hH hb) ?_
            refine h_val rfl (elp' mv (a9 * 1)) (fun b w hb hH => e_ridx 1 hX sl_uint64 rfl a9 hla rfl rfl rfl hH hb) ?_
            refine h_val rfl (.int .u64 y) (fun b w hb hH => e_rload1 1 hX ty_uint64 okU rfl a9 (a := y) hya rfl rfl rfl hH hb) ?_
            refine h_q hflS rfl ?_
            refine h_val rfl (.bool false) (fun b w hb hH => exec_cmp rfl rfl rfl (cmp_gtr_f (by omega)) hb) ?_
            refine h_q hflS rfl ?_
            refine h_done (d_else rfl (d_skip (f_block (f_to (d_reg1 ?_)))))
            refine h_q hflS rfl ?_
            refine h_val rfl (.int .i64 ((i + 1 : Nat) : Int)) (fun b w hb hH => exec_ar rfl rfl rfl rfl (by rw [IntWalk.i64_in _ (by omega)]; omega) hb) ?_
            refine h_q hflS rfl ?_
            refine h_nil ?_
            exact f_again (i + 1, z) 0 ⟨show i + 1 ≤ (ndI s 8).length by omega, hz2, by show 0 ≤ z; omega⟩ (show (ndI s 8).length - (i + 1) < (ndI s 8).length - i by omega) ⟨rfl, rfl, rfl, rfl, rfl, trivial⟩ rfl
          · skip
            refine d_reg ?_
            refine h_q hflS rfl ?_
            refine h_val rfl (.int .i64 (2 * (c : Int))) (fun b w hb hH => exec_ar rfl rfl rfl rfl (IntWalk.i64_in _ (by omega)) hb) ?_
            refine h_q hflS rfl ?_
            refine h_val rfl (.int .i64 ((ndI s 8).length : Int)) (fun b w hb hH => e_vlen 0 Try.underlying34 rfl rfl rfl hH hb) ?_
            refine h_val rfl (.bool false) (fun b w hb hH => exec_cmp rfl rfl rfl (cmp_gtr_f (by omega)) hb) ?_
            refine h_q hflS rfl ?_
            refine h_done (d_else rfl (d_skip (f_block (f_to (d_reg1 ?_)))))
            refine h_q hflS rfl ?_
            refine h_val rfl (.int .i64 ((i + 1 : Nat) : Int)) (fun b w hb hH => exec_ar rfl rfl rfl rfl (by rw [IntWalk.i64_in _ (by omega)]; omega) hb) ?_
            refine h_q hflS rfl ?_
            refine h_nil ?_
            exact f_again (i + 1, z) 0 ⟨show i + 1 ≤ (ndI s 8).length by omega, hz2, by show 0 ≤ z; omega⟩ (show (ndI s 8).length - (i + 1) < (ndI s 8).length - i by omega) ⟨rfl, rfl, rfl, rfl, rfl, trivial⟩ rfl
    · skip
      have hz2 : ((ndI s 8).take (i + 1)).foldl (stI s l) 0 = z := by rw [fold_succ hxa, hI2]; unfold stI; rw [show ((a9 : Nat) : Int).toNat = a9 by omega, num_out (by omega)]; exact if_neg (fun h9 => by omega)
      refine d_reg ?_
      refine h_q hflS rfl ?_
      refine h_val rfl (elp u (i * 1)) (fun b w hb hH => e_vidx 0 sl_int okI rfl i hn rfl rfl rfl hH hb) ?_
      refine h_val rfl (.int .i64 (a9 : Int)) (fun b w hb hH => e_vload1 0 ty_int okI rfl i (a := (a9 : Int)) hxa rfl rfl rfl hH hb) ?_
      refine h_q hflS rfl ?_
      refine h_val rfl (.int .i64 (l.length : Int)) (fun b w hb hH => e_rlen 1 hX Try.underlying41 rfl rfl rfl hH hb) ?_
      refine h_val rfl (.bool true) (fun b w hb hH => exec_cmp rfl rfl rfl (cmp_geq_t (by omega)) hb) ?_
      refine h_done (d_then rfl (d_exit (f_then_exit (f_block_exit (f_to (d_reg1 ?_))))))
      refine h_q hflS rfl ?_
      refine h_val rfl (.int .i64 ((i + 1 : Nat) : Int)) (fun b w hb hH => exec_ar rfl rfl rfl rfl (by rw [IntWalk.i64_in _ (by omega)]; omega) hb) ?_
      refine h_q hflS rfl ?_
      refine h_nil ?_
      exact f_again (i + 1, z) 0 ⟨show i + 1 ≤ (ndI s 8).length by omega, hz2, by show 0 ≤ z; omega⟩ (show (ndI s 8).length - (i + 1) < (ndI s 8).length - i by omega) ⟨rfl, rfl, rfl, rfl, rfl, trivial⟩ rfl
  · skip
    have hle : i = (ndI s 8).length := by omega
    rw [hle, List.take_length] at hI2
    have hzz : idxN s l 8 = z := hfo.trans hI2
    refine d_reg ?_
    refine h_q hflS rfl ?_
    refine h_val rfl (.int .i64 ((ndI s 8).length : Int)) (fun b w hb hH => e_vlen 0 Try.underlying34 rfl rfl rfl hH hb) ?_
    refine h_val rfl (.bool false) (fun b w hb hH => exec_cmp rfl rfl rfl (cmp_lss_f (by omega)) hb) ?_
    refine h_done (d_else rfl (d_exit (f_then_exit (f_then_exit (f_block_exit (f_to (d_reg ?_)))))))
    refine h_q hflS rfl ?_
    refine h_done (d_ret ?_)
    exact f_fin1 (.tmp rfl) (fun w h => tells (X := Unit) () (by rw [hzz]) [1] rfl h same_parts) rfl
end Go.Proofs.Ytmcdjniebkfagaa.Sep
