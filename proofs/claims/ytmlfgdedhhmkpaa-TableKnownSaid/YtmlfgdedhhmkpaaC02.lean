/-
  TabI
-/
import Derived.Test.YtmlfgdedhhmkpaaB03
import Derived.Test.YtmlfgdedhhmkpaaC01
set_option linter.unusedSimpArgs false
set_option linter.unusedVariables false

namespace Go.Proofs.Ytmlfgdedhhmkpaa.Sep
open Go.RowKit
open Go.Proofs.Ytmlfgdedhhmkpaa.Mem (Dist Blk Chg below0)

theorem clone_uint64 (X : Ass) (u : Value) (m : List (Int)) (hu : ∀ rs w, X rs → RowsOf w rs → SlRd w 1 u m.length (flat encU m)) (hl : m.length ≤ 17179869184) : Does Try.prog 45 #[u] [X] (fun (x : Value) => x) (fun (x : Value) => [X, Vec 42 1 encU x m]) := by
  refine Does.fact (p := ∃ A c, u = .slice A m.length c ∧ (A = none → m = [])) (fun w rs h1 h2 => by
    obtain ⟨A, c, e, hA⟩ := (hu rs w (Parts.one' h1) h2).2
    refine ⟨A, c, e, fun e => ?_⟩
    rcases hA with ⟨_, h⟩ | ⟨a, h, _⟩
    · exact List.length_eq_zero_iff.1 h
    · rw [e] at h; cases h) ?_
  rintro ⟨A, c, rfl, hA'⟩
  refine d_ins (args := [.slice A m.length c]) 8 Try.func45 rfl rfl rfl ?_; intro w rs
  refine d_reg ?_
  refine h_q hflS rfl ?_
  refine h_done (d_seq ?_)
  rcases A with _ | a
  · skip
    obtain rfl := hA' rfl
    refine d_nilvec 42 1 encU ?_
    refine d_reg ?_
    refine h_q hflS rfl ?_
    refine h_val rfl (.bool true) (fun b w hb hH => exec_snil_eql (A := none) Try.underlying44 rfl rfl rfl hb) ?_
    refine h_done (d_then rfl (d_reg ?_))
    refine h_q hflS rfl ?_
    refine h_done (d_ret (f_then_ret ?_))
    exact f_fin1 (.tmp rfl) (fun w h => tells (Value.slice none 0 0) rfl [1, 0] rfl h same_parts) rfl
  · skip
    refine d_reg ?_
    refine h_q hflS rfl ?_
    refine h_val rfl (.bool false) (fun b w hb hH => exec_snil_eql (A := some a) Try.underlying44 rfl rfl rfl hb) ?_
    refine h_done (d_else rfl (d_skip (f_to (d_reg ?_))))
    refine h_q hflS rfl ?_
    refine h_act (X := Value) (val := fun v : Value => v) (post := fun u1 => [Vec 42 1 encU u1 ([]), X]) rfl (by refine a_build0 (e := 42) (t := 44) (k := 1) (enc := encU) ?_ ?_; exact sl_uint64; exact rfl) ?_; rintro u1
    refine h_q hflS rfl ?_
    refine h_act (post := fun u2 => [Vec 42 1 encU u2 m, X]) rfl (a_append 0 sl_uint64 okU rfl (m) (fun w hH => by obtain ⟨rs, h1, h2⟩ := hH.thing 1 rfl; exact hu rs w h1 h2) (by simp; omega) rfl rfl rfl (List.nil_append m)) ?_; rintro u2
    refine h_q hflS rfl ?_
    refine h_done (d_ret ?_)
    exact f_fin1 (.tmp rfl) (fun w h => tells u2 rfl [1, 0] rfl h same_parts) rfl

theorem insert_end_uint64 (v y : Value) (l : List (Int)) (x : Int) (hl : l.length ≤ 17179869184) : Does Try.prog 50 #[v, .int .i64 (l.length : Int), y] [Vec 42 1 encU v l, Vec 42 1 encU y ([x])] (fun (u : Value) => u) (fun (u : Value) => [Vec 42 1 encU u (l ++ [x])]) := by
  refine d_ins (args := [v, .int .i64 (l.length : Int), y]) 95 Try.func50 rfl rfl rfl ?_; intro w rs
  refine d_reg ?_
  refine h_q hflS rfl ?_
  refine h_done (d_reg ?_)
  refine h_q hflS rfl ?_
  refine h_val rfl (subv 1 v l.length l.length) (fun b w hb hH => e_vsub_lo 0 (a := l.length) sl_uint64 rfl (Nat.le_refl _) rfl rfl rfl hH hb) ?_
  refine h_done (d_reg ?_)
  refine h_q hflS rfl ?_
  refine h_val rfl (.int .i64 1) (fun b w hb hH => e_vlen 1 Try.underlying44 rfl rfl rfl hH hb) ?_
  refine h_q hflS rfl ?_
  refine h_done (d_seq (d_reg ?_))
  refine h_q hflS rfl ?_
  refine h_val rfl (.bool false) (fun b w hb hH => exec_cmp rfl rfl rfl (cmp_eql_f (by decide)) hb) ?_
  refine h_done (d_else rfl (d_skip (f_to (d_reg ?_))))
  refine h_q hflS rfl ?_
  refine h_val rfl (.int .i64 (l.length : Int)) (fun b w hb hH => e_vlen 0 Try.underlying44 rfl rfl rfl hH hb) ?_
  refine h_q hflS rfl ?_
  refine h_done (d_seq (d_reg ?_))
  refine h_q hflS rfl ?_
  refine h_val rfl (.bool true) (fun b w hb hH => exec_cmp rfl rfl rfl (cmp_eql_t rfl) hb) ?_
  refine h_done (d_then rfl (d_reg ?_))
  refine h_q hflS rfl ?_
  refine h_act (post := fun u1 => [Vec 42 1 encU u1 (l ++ [x]), Vec 42 1 encU y ([x])]) rfl (a_append 0 sl_uint64 okU rfl ([x]) (fun w hH => hH.vec 1 rfl okU) (by simp; omega) rfl rfl rfl rfl) ?_; rintro u1
  refine h_q hflS rfl ?_
  refine h_done (d_ret (f_then_ret ?_))
  exact f_fin1 (.tmp rfl) (fun w h => tells u1 rfl [0] rfl h same_parts) rfl

theorem insert_mid_uint64 (g c : Nat) (cs : Array Value) (y : Value) (l : List (Int)) (x : Int) (i : Nat) (hi : i < l.length) (hl : l.length ≤ 17179869184) (hc : l.length ≤ c) (hm : c ≤ maxLen) (hs : cs.size = c * 1) (ht : cs.toList.take (l.length * 1) = flat encU l) : Does Try.prog 50 #[.slice (some ⟨g, 0, none⟩) l.length c, .int .i64 (i : Int), y] [cell g 42 cs, Vec 42 1 encU y ([x])] (fun (u : Value) => u) (fun (u : Value) => [Vec 42 1 encU u (l.take i ++ x :: l.drop i)]) := by
  have hm' : c ≤ 9223372036854775807 := by unfold maxLen at hm; exact hm
  have hd : (cs.toList.drop (i * 1)).take ((l.length - i) * 1) = flat encU (l.drop i) := by
    rw [← flat_drop okU, ← ht, List.drop_take]; congr 1; omega
  have hd0 : (cs.toList.drop 0).take (i * 1) = flat encU (l.take i) := by
    rw [← flat_take okU, ← ht, List.drop_zero, List.take_take]; congr 1; omega
  have hdl : (flat encU (l.drop i)).length = l.length - i := by rw [flat_len okU, List.length_drop]; omega
  have hres : flat encU (l.take i ++ x :: l.drop i) = flat encU (l.take i) ++ encU x ++ flat encU (l.drop i) := by rw [flat_app, flat_cons, List.append_assoc]
  have hrl : (l.take i ++ x :: l.drop i).length = l.length + 1 := by simp; omega
  have hx1 : (encU x).length = 1 := rfl
  have hsl : cs.toList.length = c * 1 := by rw [Array.length_toList]; exact hs
  refine d_ins (args := [.slice (some ⟨g, 0, none⟩) l.length c, .int .i64 (i : Int), y]) 95 Try.func50 rfl rfl rfl ?_; intro w rs
  refine d_reg ?_
  refine h_q hflS rfl ?_
  refine h_done (d_reg ?_)
  refine h_q hflS rfl ?_
  refine h_val rfl (subv 1 (.slice (some ⟨g, 0, none⟩) l.length c) i l.length) (fun b w hb hH => e_sub_lo (i := i) sl_uint64 rfl (by omega) rfl rfl rfl hH hb) ?_
  refine h_done (d_reg ?_)
  refine h_q hflS rfl ?_
  refine h_val rfl (.int .i64 1) (fun b w hb hH => e_vlen 1 Try.underlying44 rfl rfl rfl hH hb) ?_
  refine h_q hflS rfl ?_
  refine h_done (d_seq (d_reg ?_))
  refine h_q hflS rfl ?_
  refine h_val rfl (.bool false) (fun b w hb hH => exec_cmp rfl rfl rfl (cmp_eql_f (by decide)) hb) ?_
  refine h_done (d_else rfl (d_skip (f_to (d_reg ?_))))
  refine h_q hflS rfl ?_
  refine h_val rfl (.int .i64 (l.length : Int)) (fun b w hb hH => e_len sl_uint64 rfl rfl hH hb) ?_
  refine h_q hflS rfl ?_
  refine h_done (d_seq (d_reg ?_))
  refine h_q hflS rfl ?_
  refine h_val rfl (.bool false) (fun b w hb hH => exec_cmp rfl rfl rfl (cmp_eql_f (by omega)) hb) ?_
  refine h_done (d_else rfl (d_skip (f_to (d_seq ?_))))
  by_cases hg : c < l.length + 1
  · skip
    refine d_reg ?_
    refine h_q hflS rfl ?_
    refine h_val rfl (.int .i64 ((l.length + 1 : Nat) : Int)) (fun b w hb hH => exec_ar rfl rfl rfl rfl (by rw [IntWalk.i64_in _ (by omega)]; omega) hb) ?_
    refine h_q hflS rfl ?_
    refine h_val rfl (.int .i64 (c : Int)) (fun b w hb hH => e_cap sl_uint64 rfl rfl hH hb) ?_
    refine h_val rfl (.bool true) (fun b w hb hH => exec_cmp rfl rfl rfl (cmp_gtr_t (by omega)) hb) ?_
    refine h_done (d_then rfl (d_reg ?_))
    refine h_q hflS rfl ?_
    refine h_val rfl (.slice (some ⟨g, 0, none⟩) i c) (fun b w hb hH => e_sub_hi (j := i) sl_uint64 sub_0 (by omega) rfl rfl rfl hH hb) ?_
    refine h_q hflS rfl ?_
    refine h_val rfl (.int .i64 ((l.length + 1 : Nat) : Int)) (fun b w hb hH => exec_ar rfl rfl rfl rfl (by rw [IntWalk.i64_in _ (by omega)]; omega) hb) ?_
    refine h_q hflS rfl ?_
    refine h_val rfl (.int .i64 ((l.length + 1 - i : Nat) : Int)) (fun b w hb hH => exec_ar rfl rfl rfl rfl (by rw [IntWalk.i64_in _ (by omega)]; omega) hb) ?_
    refine h_act rfl (a_append_zeros sl_uint64 Try.underlying3 (ys := flat encU (l.take i)) (fun w hH => hH.rowrd 0 rfl (k := 1) hd0 (by rw [hs]; omega)) (show 0 < l.length + 1 - i by omega) (by omega) (by omega) rfl rfl rfl) ?_; rintro ⟨⟨g2, c2, cs2⟩, h1, h2, h3, h4⟩
    refine WL2.keep (env' := [(0, .slice (some ⟨g, 0, none⟩) l.length c), (1, .int .i64 (i : Int)), (2, y), (6, .slice none 0 0), (10, .slice (some ⟨g, 0, none⟩) l.length c), (11, .int .i64 (i : Int)), (12, subv 1 (.slice (some ⟨g, 0, none⟩) l.length c) i l.length), (13, y), (14, .int .i64 1), (7, .int .i64 1), (15, .int .i64 1), (16, .bool false), (18, .slice (some ⟨g, 0, none⟩) l.length c), (19, .int .i64 (l.length : Int)), (8, .int .i64 (l.length : Int)), (20, .int .i64 (i : Int)), (21, .int .i64 (l.length : Int)), (22, .bool false), (26, .int .i64 (l.length : Int)), (27, .int .i64 1), (28, .int .i64 ((l.length + 1 : Nat) : Int)), (29, .slice (some ⟨g, 0, none⟩) l.length c), (30, .int .i64 (c : Int)), (31, .bool true), (32, .slice (some ⟨g, 0, none⟩) l.length c), (33, .int .i64 (i : Int)), (34, .slice (some ⟨g, 0, none⟩) i c), (35, .int .i64 (l.length : Int)), (36, .int .i64 1), (37, .int .i64 ((l.length + 1 : Nat) : Int)), (38, .int .i64 (i : Int)), (39, .int .i64 ((l.length + 1 - i : Nat) : Int)), (40, .slice (some ⟨g2, 0, none⟩) (i + (l.length + 1 - i)) c2)]) ⟨rfl, rfl, rfl, rfl, rfl, rfl, rfl, rfl, rfl, rfl, rfl, rfl, rfl, rfl, rfl, rfl, rfl, rfl, rfl, rfl, rfl, rfl, rfl, rfl, rfl, rfl, rfl, rfl, rfl, rfl, rfl, rfl, rfl, trivial⟩ ?_
    refine WL2.mid [cell g2 42 cs2, cell g 42 cs, Vec 42 1 encU y ([x])] (.refl _) ?_
    dsimp only at h1 h2 h3 h4
    have h3l : cs2.toList.length = c2 * 1 := by rw [Array.length_toList]; exact h3
    refine h_q hflS rfl ?_
    refine h_done (d_reg ?_)
    refine h_q hflS rfl ?_
    refine h_val rfl (.slice (some ⟨g2, i * 1, none⟩) (l.length + 1 - i) (c2 - i)) (fun b w hb hH => e_sub_lo (i := i) sl_uint64 ((sub_at (by omega)).trans (by congr 1; omega)) (by omega) rfl rfl rfl hH hb) ?_
    refine h_q hflS rfl ?_
    refine h_act (post := fun _ => [cell g2 42 (over? cs2.toList (i * 1) (encU x)).toArray, cell g 42 cs, Vec 42 1 encU y ([x])]) rfl (a_copy 0 sl_uint64 rfl (fun w hH => hH.vec 2 rfl okU) (q := 1) (Nat.min_eq_left (by simp; omega)) (zs := encU x) (by simp [flat, encU]) (okU.one x) (by rw [hx1, h3]; omega) rfl rfl rfl rfl) ?_; rintro ⟨⟩
    refine h_done (d_seq ?_)
    refine d_parS 9 1 [⟨.quiet, [none], fun _ => .slice (some ⟨g2, 0, none⟩) (i + (l.length + 1 - i)) c2, []⟩, ⟨.quiet, [none], fun _ => .int .i64 (i : Int), []⟩, ⟨.quiet, [none], fun _ => .int .i64 1, []⟩, ⟨.quiet, [none], fun _ => .int .i64 ((i + 1 : Nat) : Int), [1, 2]⟩, ⟨.quiet, [none], fun _ => .slice (some ⟨g2, (i + 1) * 1, none⟩) (l.length - i) (c2 - (i + 1)), [0, 3]⟩, ⟨.quiet, [none], fun _ => .slice (some ⟨g, 0, none⟩) l.length c, []⟩, ⟨.quiet, [none], fun _ => .int .i64 (i : Int), []⟩, ⟨.quiet, [none], fun _ => subv 1 (.slice (some ⟨g, 0, none⟩) l.length c) i l.length, [5, 6]⟩, ⟨.actv 0, [some false], fun _ => .int .i64 ((l.length - i : Nat) : Int), [4, 7]⟩] [(0, .slice (some ⟨g, 0, none⟩) l.length c), (1, .int .i64 (i : Int)), (2, y), (6, .slice none 0 0), (7, .int .i64 1), (8, .int .i64 (l.length : Int)), (9, .slice (some ⟨g2, 0, none⟩) (i + (l.length + 1 - i)) c2)] (fun ρ => match ρ with | [r0] => [selS r0 (fun _ => cell g2 42 (over? (over? cs2.toList (i * 1) (encU x)) ((i + 1) * 1) (flat encU (l.drop i))).toArray) (cell g2 42 (over? cs2.toList (i * 1) (encU x)).toArray), cell g 42 cs, Vec 42 1 encU y ([x])] | _ => []) (by kernel_rfl) (by kernel_rfl) ⟨rfl, rfl, rfl, rfl, rfl, rfl, rfl, trivial⟩ rfl ?_ ?_
    · skip
      refine s_cons (by intro r0_; exact ⟨rfl, fun b w hH hb => exec_q1 hflS rfl hb⟩) ?_
      refine s_cons (by intro r0_; exact ⟨rfl, fun b w hH hb => exec_q1 hflS rfl hb⟩) ?_
      refine s_cons (by intro r0_; exact ⟨rfl, fun b w hH hb => exec_q1 hflS rfl hb⟩) ?_
      refine s_cons (by intro r0_; exact ⟨rfl, fun b w hH hb => exec_ar rfl rfl rfl rfl (by rw [IntWalk.i64_in _ (by omega)]; omega) hb⟩) ?_
      refine s_cons (by intro r0_; exact ⟨rfl, fun b w hH hb => e_sub_lo (i := (i + 1)) sl_uint64 ((sub_at (by omega)).trans (by congr 1; omega)) (by omega) rfl rfl rfl hH hb⟩) ?_
      refine s_cons (by intro r0_; exact ⟨rfl, fun b w hH hb => exec_q1 hflS rfl hb⟩) ?_
      refine s_cons (by intro r0_; exact ⟨rfl, fun b w hH hb => exec_q1 hflS rfl hb⟩) ?_
      refine s_cons (by intro r0_; exact ⟨rfl, fun b w hH hb => e_sub_lo (i := i) sl_uint64 rfl (by omega) rfl rfl rfl hH hb⟩) ?_
      refine s_cons (by exact ⟨rfl, Acts.su (a_copy 0 sl_uint64 rfl (fun w hH => hH.rowsub 1 rfl (k := 1) (p := i) (q := l.length) (m := l.length) (c := c) (by omega) hc hd (by rw [hs]; exact Nat.le_refl _)) (q := l.length - i) (Nat.min_eq_left (Nat.le_refl _)) (zs := flat encU (l.drop i)) (List.take_of_length_le (by rw [hdl]; omega)) (flat_one okU _) (fit_over (by rw [hx1, h3l]; omega) (by rw [hdl, h3l]; omega)) rfl rfl rfl rfl) rfl⟩) ?_
      exact s_nil
    intro v0_
    refine WL2.keep (env' := [(0, .slice (some ⟨g, 0, none⟩) l.length c), (1, .int .i64 (i : Int)), (2, y), (6, .slice none 0 0), (7, .int .i64 1), (8, .int .i64 (l.length : Int)), (9, .slice (some ⟨g2, 0, none⟩) (i + (l.length + 1 - i)) c2)]) ⟨rfl, rfl, rfl, rfl, rfl, rfl, rfl, trivial⟩ ?_
    refine h_nil (f_to (d_reg ?_))
    refine h_q hflS rfl ?_
    refine h_done (d_ret (f_then_ret ?_))
    exact f_fin1 (.tmp rfl) (fun w h => tells (Value.slice (some ⟨g2, 0, none⟩) (i + (l.length + 1 - i)) c2) rfl [0] rfl h (fun z hz => ⟨z, .refl _, Parts.one (vec_next (k := 1) (a := cs2.toList) (i := i * 1) (x := encU x) (j := (i + 1) * 1) (d := flat encU (l.drop i)) h3l (by rw [hrl]; omega) (by omega) h2 (by rw [hx1]; omega) (by rw [hdl]; omega) (by rw [h4, hres]) hz)⟩)) rfl
  · skip
    refine d_reg ?_
    refine h_q hflS rfl ?_
    refine h_val rfl (.int .i64 ((l.length + 1 : Nat) : Int)) (fun b w hb hH => exec_ar rfl rfl rfl rfl (by rw [IntWalk.i64_in _ (by omega)]; omega) hb) ?_
    refine h_q hflS rfl ?_
    refine h_val rfl (.int .i64 (c : Int)) (fun b w hb hH => e_cap sl_uint64 rfl rfl hH hb) ?_
    refine h_val rfl (.bool false) (fun b w hb hH => exec_cmp rfl rfl rfl (cmp_gtr_f (by omega)) hb) ?_
    refine h_done (d_else rfl (d_skip (f_to (d_reg ?_))))
    refine h_q hflS rfl ?_
    refine h_val rfl (.int .i64 ((l.length + 1 : Nat) : Int)) (fun b w hb hH => exec_ar rfl rfl rfl rfl (by rw [IntWalk.i64_in _ (by omega)]; omega) hb) ?_
    refine h_val rfl (.slice (some ⟨g, 0, none⟩) (l.length + 1) c) (fun b w hb hH => e_sub_hi (j := (l.length + 1)) sl_uint64 sub_0 (by omega) rfl rfl rfl hH hb) ?_
    refine h_q hflS rfl ?_
    refine h_done (d_seq (d_reg ?_))
    refine h_q hflS rfl ?_
    refine h_val rfl (.int .i64 ((i + 1 : Nat) : Int)) (fun b w hb hH => exec_ar rfl rfl rfl rfl (by rw [IntWalk.i64_in _ (by omega)]; omega) hb) ?_
    refine h_val rfl (.slice (some ⟨g, (i + 1) * 1, none⟩) (l.length - i) (c - (i + 1))) (fun b w hb hH => e_sub_lo (i := (i + 1)) sl_uint64 ((sub_at (by omega)).trans (by congr 1; omega)) (by omega) rfl rfl rfl hH hb) ?_
    refine h_val rfl (.bool false) (fun b w hb hH => exec_ext_at (by rw [run_callFunc_extern Try.func65 (by kernel_rfl) (by kernel_rfl) (by kernel_rfl) (e := Extern.SlicesOverlaps.overlaps #[44, 44] #[4]) (by kernel_rfl)]; show Result.andThen (Sem.run _ (Extern.SlicesOverlaps.overlaps _ _ #[_, _]) w) _ = _; rw [Hp.apart_rows sl_uint64 (by simp) hH 1 0 (by decide) rfl rfl (by rw [hs]; omega)]; rfl) rfl rfl rfl hb) ?_
    refine h_q hflS rfl ?_
    refine h_done (d_then rfl (d_seq ?_))
    refine d_parS 9 1 [⟨.quiet, [none], fun _ => .slice (some ⟨g, 0, none⟩) (l.length + 1) c, []⟩, ⟨.quiet, [none], fun _ => .int .i64 (i : Int), []⟩, ⟨.quiet, [none], fun _ => .int .i64 1, []⟩, ⟨.quiet, [none], fun _ => .int .i64 ((i + 1 : Nat) : Int), [1, 2]⟩, ⟨.quiet, [none], fun _ => .slice (some ⟨g, (i + 1) * 1, none⟩) (l.length - i) (c - (i + 1)), [0, 3]⟩, ⟨.quiet, [none], fun _ => .slice (some ⟨g, 0, none⟩) (l.length + 1) c, []⟩, ⟨.quiet, [none], fun _ => .int .i64 (i : Int), []⟩, ⟨.quiet, [none], fun _ => subv 1 (.slice (some ⟨g, 0, none⟩) (l.length + 1) c) i (l.length + 1), [5, 6]⟩, ⟨.actv 0, [some false], fun _ => .int .i64 ((l.length - i : Nat) : Int), [4, 7]⟩] [(1, .int .i64 (i : Int)), (2, y), (6, .slice none 0 0), (7, .int .i64 1), (8, .int .i64 (l.length : Int)), (0, .slice (some ⟨g, 0, none⟩) (l.length + 1) c)] (fun ρ => match ρ with | [r0] => [selS r0 (fun _ => cell g 42 (over? cs.toList ((i + 1) * 1) (flat encU (l.drop i))).toArray) (cell g 42 cs), Vec 42 1 encU y ([x])] | _ => []) (by kernel_rfl) (by kernel_rfl) ⟨rfl, rfl, rfl, rfl, rfl, rfl, trivial⟩ rfl ?_ ?_
    · skip
      refine s_cons (by intro r0_; exact ⟨rfl, fun b w hH hb => exec_q1 hflS rfl hb⟩) ?_
      refine s_cons (by intro r0_; exact ⟨rfl, fun b w hH hb => exec_q1 hflS rfl hb⟩) ?_
      refine s_cons (by intro r0_; exact ⟨rfl, fun b w hH hb => exec_q1 hflS rfl hb⟩) ?_
      refine s_cons (by intro r0_; exact ⟨rfl, fun b w hH hb => exec_ar rfl rfl rfl rfl (by rw [IntWalk.i64_in _ (by omega)]; omega) hb⟩) ?_
      refine s_cons (by intro r0_; exact ⟨rfl, fun b w hH hb => e_sub_lo (i := (i + 1)) sl_uint64 ((sub_at (by omega)).trans (by congr 1; omega)) (by omega) rfl rfl rfl hH hb⟩) ?_
      refine s_cons (by intro r0_; exact ⟨rfl, fun b w hH hb => exec_q1 hflS rfl hb⟩) ?_
      refine s_cons (by intro r0_; exact ⟨rfl, fun b w hH hb => exec_q1 hflS rfl hb⟩) ?_
      refine s_cons (by intro r0_; exact ⟨rfl, fun b w hH hb => e_sub_lo (i := i) sl_uint64 rfl (by omega) rfl rfl rfl hH hb⟩) ?_
      refine s_cons (by exact ⟨rfl, Acts.su (a_copy 0 sl_uint64 rfl (fun w hH => hH.rowsub 0 rfl (k := 1) (p := i) (q := l.length + 1) (m := l.length + 1) (c := c) (by omega) (by omega) rfl (by rw [hs]; exact Nat.le_refl _)) (q := l.length - i) (Nat.min_eq_right (by omega)) (zs := flat encU (l.drop i)) (by rw [List.take_take, Nat.min_eq_left (by omega)]; exact hd) (flat_one okU _) (by rw [hdl, hs]; omega) rfl rfl rfl rfl) rfl⟩) ?_
      exact s_nil
    intro v0_
    refine WL2.keep (env' := [(1, .int .i64 (i : Int)), (2, y), (6, .slice none 0 0), (7, .int .i64 1), (8, .int .i64 (l.length : Int)), (0, .slice (some ⟨g, 0, none⟩) (l.length + 1) c)]) ⟨rfl, rfl, rfl, rfl, rfl, rfl, trivial⟩ ?_
    refine h_nil (f_to (d_reg ?_))
    refine h_q hflS rfl ?_
    refine h_val rfl (.slice (some ⟨g, i * 1, none⟩) (l.length + 1 - i) (c - i)) (fun b w hb hH => e_sub_lo (i := i) sl_uint64 (sub_at (by omega)) (by omega) rfl rfl rfl hH hb) ?_
    refine h_q hflS rfl ?_
    refine h_act (post := fun _ => [cell g 42 (over? (over? cs.toList ((i + 1) * 1) (flat encU (l.drop i))) (i * 1) (encU x)).toArray, Vec 42 1 encU y ([x])]) rfl (a_copy 0 sl_uint64 rfl (fun w hH => hH.vec 1 rfl okU) (q := 1) (Nat.min_eq_left (by simp; omega)) (zs := encU x) (by simp [flat, encU]) (okU.one x) (fit_over (by rw [hdl, hsl]; omega) (by rw [hx1, hsl]; omega)) rfl rfl rfl rfl) ?_; rintro ⟨⟩
    refine h_done (d_reg ?_)
    refine h_q hflS rfl ?_
    refine h_done (d_ret (f_then_ret ?_))
    exact f_fin1 (.tmp rfl) (fun w h => tells (Value.slice (some ⟨g, 0, none⟩) (l.length + 1) c) rfl [0] rfl h (fun z hz => ⟨z, .refl _, Parts.one (vec_ahead (k := 1) (a := cs.toList) (i := i * 1) (x := encU x) (j := (i + 1) * 1) (d := flat encU (l.drop i)) hsl (by rw [hrl]) (by omega) hm (by rw [hx1]; omega) (by rw [hdl]; omega) (by rw [hres]; congr 2) hz)⟩)) rfl

theorem insert_uint64 (v y : Value) (l : List (Int)) (x : Int) (i : Nat) (hi : i ≤ l.length) (hl : l.length ≤ 17179869184) : Does Try.prog 50 #[v, .int .i64 (i : Int), y] [Vec 42 1 encU v l, Vec 42 1 encU y [x]] (fun u : Value => u) (fun u : Value => [Vec 42 1 encU u (l.take i ++ x :: l.drop i)]) := by
  by_cases he : i = l.length
  · subst he
    have := insert_end_uint64 v y l x hl
    simpa using this
  · intro w rs hp hr hd
    obtain ⟨r1, r2, e, hv, hy⟩ := hp
    rcases hv with ⟨_, h0, _⟩ | ⟨g, c, cs, hvv, hc, hm, hs, ht, hrr⟩
    · subst h0; exact absurd hi (by simp at he ⊢; omega)
    · subst hvv
      refine insert_mid_uint64 g c cs y l x i (by omega) hl hc hm hs ht w rs ⟨r1, r2, e, hrr, hy⟩ hr hd

theorem clone_int (X : Ass) (u : Value) (m : List (Int)) (hu : ∀ rs w, X rs → RowsOf w rs → SlRd w 1 u m.length (flat encI m)) (hl : m.length ≤ 17179869184) : Does Try.prog 46 #[u] [X] (fun (x : Value) => x) (fun (x : Value) => [X, Vec 3 1 encI x m]) := by
  refine Does.fact (p := ∃ A c, u = .slice A m.length c ∧ (A = none → m = [])) (fun w rs h1 h2 => by
    obtain ⟨A, c, e, hA⟩ := (hu rs w (Parts.one' h1) h2).2
    refine ⟨A, c, e, fun e => ?_⟩
    rcases hA with ⟨_, h⟩ | ⟨a, h, _⟩
    · exact List.length_eq_zero_iff.1 h
    · rw [e] at h; cases h) ?_
  rintro ⟨A, c, rfl, hA'⟩
  refine d_ins (args := [.slice A m.length c]) 8 Try.func46 rfl rfl rfl ?_; intro w rs
  refine d_reg ?_
  refine h_q hflS rfl ?_
  refine h_done (d_seq ?_)
  rcases A with _ | a
  · skip
    obtain rfl := hA' rfl
    refine d_nilvec 3 1 encI ?_
    refine d_reg ?_
    refine h_q hflS rfl ?_
    refine h_val rfl (.bool true) (fun b w hb hH => exec_snil_eql (A := none) Try.underlying45 rfl rfl rfl hb) ?_
    refine h_done (d_then rfl (d_reg ?_))
    refine h_q hflS rfl ?_
    refine h_done (d_ret (f_then_ret ?_))
    exact f_fin1 (.tmp rfl) (fun w h => tells (Value.slice none 0 0) rfl [1, 0] rfl h same_parts) rfl
  · skip
    refine d_reg ?_
    refine h_q hflS rfl ?_
    refine h_val rfl (.bool false) (fun b w hb hH => exec_snil_eql (A := some a) Try.underlying45 rfl rfl rfl hb) ?_
    refine h_done (d_else rfl (d_skip (f_to (d_reg ?_))))
    refine h_q hflS rfl ?_
    refine h_act (X := Value) (val := fun v : Value => v) (post := fun u1 => [Vec 3 1 encI u1 ([]), X]) rfl (by refine a_build0 (e := 3) (t := 45) (k := 1) (enc := encI) ?_ ?_; exact sl_int; exact rfl) ?_; rintro u1
    refine h_q hflS rfl ?_
    refine h_act (post := fun u2 => [Vec 3 1 encI u2 m, X]) rfl (a_append 0 sl_int okI rfl (m) (fun w hH => by obtain ⟨rs, h1, h2⟩ := hH.thing 1 rfl; exact hu rs w h1 h2) (by simp; omega) rfl rfl rfl (List.nil_append m)) ?_; rintro u2
    refine h_q hflS rfl ?_
    refine h_done (d_ret ?_)
    exact f_fin1 (.tmp rfl) (fun w h => tells u2 rfl [1, 0] rfl h same_parts) rfl

theorem insert_end_int (v y : Value) (l : List (Int)) (x : Int) (hl : l.length ≤ 17179869184) : Does Try.prog 37 #[v, .int .i64 (l.length : Int), y] [Vec 3 1 encI v l, Vec 3 1 encI y ([x])] (fun (u : Value) => u) (fun (u : Value) => [Vec 3 1 encI u (l ++ [x])]) := by
  refine d_ins (args := [v, .int .i64 (l.length : Int), y]) 95 Try.func37 rfl rfl rfl ?_; intro w rs
  refine d_reg ?_
  refine h_q hflS rfl ?_
  refine h_done (d_reg ?_)
  refine h_q hflS rfl ?_
  refine h_val rfl (subv 1 v l.length l.length) (fun b w hb hH => e_vsub_lo 0 (a := l.length) sl_int rfl (Nat.le_refl _) rfl rfl rfl hH hb) ?_
  refine h_done (d_reg ?_)
  refine h_q hflS rfl ?_
  refine h_val rfl (.int .i64 1) (fun b w hb hH => e_vlen 1 Try.underlying45 rfl rfl rfl hH hb) ?_
  refine h_q hflS rfl ?_
  refine h_done (d_seq (d_reg ?_))
  refine h_q hflS rfl ?_
  refine h_val rfl (.bool false) (fun b w hb hH => exec_cmp rfl rfl rfl (cmp_eql_f (by decide)) hb) ?_
  refine h_done (d_else rfl (d_skip (f_to (d_reg ?_))))
  refine h_q hflS rfl ?_
  refine h_val rfl (.int .i64 (l.length : Int)) (fun b w hb hH => e_vlen 0 Try.underlying45 rfl rfl rfl hH hb) ?_
  refine h_q hflS rfl ?_
  refine h_done (d_seq (d_reg ?_))
  refine h_q hflS rfl ?_
  refine h_val rfl (.bool true) (fun b w hb hH => exec_cmp rfl rfl rfl (cmp_eql_t rfl) hb) ?_
  refine h_done (d_then rfl (d_reg ?_))
  refine h_q hflS rfl ?_
  refine h_act (post := fun u1 => [Vec 3 1 encI u1 (l ++ [x]), Vec 3 1 encI y ([x])]) rfl (a_append 0 sl_int okI rfl ([x]) (fun w hH => hH.vec 1 rfl okI) (by simp; omega) rfl rfl rfl rfl) ?_; rintro u1
  refine h_q hflS rfl ?_
  refine h_done (d_ret (f_then_ret ?_))
  exact f_fin1 (.tmp rfl) (fun w h => tells u1 rfl [0] rfl h same_parts) rfl

theorem insert_mid_int (g c : Nat) (cs : Array Value) (y : Value) (l : List (Int)) (x : Int) (i : Nat) (hi : i < l.length) (hl : l.length ≤ 17179869184) (hc : l.length ≤ c) (hm : c ≤ maxLen) (hs : cs.size = c * 1) (ht : cs.toList.take (l.length * 1) = flat encI l) : Does Try.prog 37 #[.slice (some ⟨g, 0, none⟩) l.length c, .int .i64 (i : Int), y] [cell g 3 cs, Vec 3 1 encI y ([x])] (fun (u : Value) => u) (fun (u : Value) => [Vec 3 1 encI u (l.take i ++ x :: l.drop i)]) := by
  have hm' : c ≤ 9223372036854775807 := by unfold maxLen at hm; exact hm
  have hd : (cs.toList.drop (i * 1)).take ((l.length - i) * 1) = flat encI (l.drop i) := by
    rw [← flat_drop okI, ← ht, List.drop_take]; congr 1; omega
  have hd0 : (cs.toList.drop 0).take (i * 1) = flat encI (l.take i) := by
    rw [← flat_take okI, ← ht, List.drop_zero, List.take_take]; congr 1; omega
  have hdl : (flat encI (l.drop i)).length = l.length - i := by rw [flat_len okI, List.length_drop]; omega
  have hres : flat encI (l.take i ++ x :: l.drop i) = flat encI (l.take i) ++ encI x ++ flat encI (l.drop i) := by rw [flat_app, flat_cons, List.append_assoc]
  have hrl : (l.take i ++ x :: l.drop i).length = l.length + 1 := by simp; omega
  have hx1 : (encI x).length = 1 := rfl
  have hsl : cs.toList.length = c * 1 := by rw [Array.length_toList]; exact hs
  refine d_ins (args := [.slice (some ⟨g, 0, none⟩) l.length c, .int .i64 (i : Int), y]) 95 Try.func37 rfl rfl rfl ?_; intro w rs
  refine d_reg ?_
  refine h_q hflS rfl ?_
  refine h_done (d_reg ?_)
  refine h_q hflS rfl ?_
  refine h_val rfl (subv 1 (.slice (some ⟨g, 0, none⟩) l.length c) i l.length) (fun b w hb hH => e_sub_lo (i := i) sl_int rfl (by omega) rfl rfl rfl hH hb) ?_
  refine h_done (d_reg ?_)
  refine h_q hflS rfl ?_
  refine h_val rfl (.int .i64 1) (fun b w hb hH => e_vlen 1 Try.underlying45 rfl rfl rfl hH hb) ?_
  refine h_q hflS rfl ?_
  refine h_done (d_seq (d_reg ?_))
  refine h_q hflS rfl ?_
  refine h_val rfl (.bool false) (fun b w hb hH => exec_cmp rfl rfl rfl (cmp_eql_f (by decide)) hb) ?_
  refine h_done (d_else rfl (d_skip (f_to (d_reg ?_))))
  refine h_q hflS rfl ?_
  refine h_val rfl (.int .i64 (l.length : Int)) (fun b w hb hH => e_len sl_int rfl rfl hH hb) ?_
  refine h_q hflS rfl ?_
  refine h_done (d_seq (d_reg ?_))
  refine h_q hflS rfl ?_
  refine h_val rfl (.bool false) (fun b w hb hH => exec_cmp rfl rfl rfl (cmp_eql_f (by omega)) hb) ?_
  refine h_done (d_else rfl (d_skip (f_to (d_seq ?_))))
  by_cases hg : c < l.length + 1
  · skip
    refine d_reg ?_
    refine h_q hflS rfl ?_
    refine h_val rfl (.int .i64 ((l.length + 1 : Nat) : Int)) (fun b w hb hH => exec_ar rfl rfl rfl rfl (by rw [IntWalk.i64_in _ (by omega)]; omega) hb) ?_
    refine h_q hflS rfl ?_
    refine h_val rfl (.int .i64 (c : Int)) (fun b w hb hH => e_cap sl_int rfl rfl hH hb) ?_
    refine h_val rfl (.bool true) (fun b w hb hH => exec_cmp rfl rfl rfl (cmp_gtr_t (by omega)) hb) ?_
    refine h_done (d_then rfl (d_reg ?_))
    refine h_q hflS rfl ?_
    refine h_val rfl (.slice (some ⟨g, 0, none⟩) i c) (fun b w hb hH => e_sub_hi (j := i) sl_int sub_0 (by omega) rfl rfl rfl hH hb) ?_
    refine h_q hflS rfl ?_
    refine h_val rfl (.int .i64 ((l.length + 1 : Nat) : Int)) (fun b w hb hH => exec_ar rfl rfl rfl rfl (by rw [IntWalk.i64_in _ (by omega)]; omega) hb) ?_
    refine h_q hflS rfl ?_
    refine h_val rfl (.int .i64 ((l.length + 1 - i : Nat) : Int)) (fun b w hb hH => exec_ar rfl rfl rfl rfl (by rw [IntWalk.i64_in _ (by omega)]; omega) hb) ?_
    refine h_act rfl (a_append_zeros sl_int Try.underlying3 (ys := flat encI (l.take i)) (fun w hH => hH.rowrd 0 rfl (k := 1) hd0 (by rw [hs]; omega)) (show 0 < l.length + 1 - i by omega) (by omega) (by omega) rfl rfl rfl) ?_; rintro ⟨⟨g2, c2, cs2⟩, h1, h2, h3, h4⟩
    refine WL2.keep (env' := [(0, .slice (some ⟨g, 0, none⟩) l.length c), (1, .int .i64 (i : Int)), (2, y), (6, .slice none 0 0), (10, .slice (some ⟨g, 0, none⟩) l.length c), (11, .int .i64 (i : Int)), (12, subv 1 (.slice (some ⟨g, 0, none⟩) l.length c) i l.length), (13, y), (14, .int .i64 1), (7, .int .i64 1), (15, .int .i64 1), (16, .bool false), (18, .slice (some ⟨g, 0, none⟩) l.length c), (19, .int .i64 (l.length : Int)), (8, .int .i64 (l.length : Int)), (20, .int .i64 (i : Int)), (21, .int .i64 (l.length : Int)), (22, .bool false), (26, .int .i64 (l.length : Int)), (27, .int .i64 1), (28, .int .i64 ((l.length + 1 : Nat) : Int)), (29, .slice (some ⟨g, 0, none⟩) l.length c), (30, .int .i64 (c : Int)), (31, .bool true), (32, .slice (some ⟨g, 0, none⟩) l.length c), (33, .int .i64 (i : Int)), (34, .slice (some ⟨g, 0, none⟩) i c), (35, .int .i64 (l.length : Int)), (36, .int .i64 1), (37, .int .i64 ((l.length + 1 : Nat) : Int)), (38, .int .i64 (i : Int)), (39, .int .i64 ((l.length + 1 - i : Nat) : Int)), (40, .slice (some ⟨g2, 0, none⟩) (i + (l.length + 1 - i)) c2)]) ⟨rfl, rfl, rfl, rfl, rfl, rfl, rfl, rfl, rfl, rfl, rfl, rfl, rfl, rfl, rfl, rfl, rfl, rfl, rfl, rfl, rfl, rfl, rfl, rfl, rfl, rfl, rfl, rfl, rfl, rfl, rfl, rfl, rfl, trivial⟩ ?_
    refine WL2.mid [cell g2 3 cs2, cell g 3 cs, Vec 3 1 encI y ([x])] (.refl _) ?_
    dsimp only at h1 h2 h3 h4
    have h3l : cs2.toList.length = c2 * 1 := by rw [Array.length_toList]; exact h3
    refine h_q hflS rfl ?_
    refine h_done (d_reg ?_)
    refine h_q hflS rfl ?_
    refine h_val rfl (.slice (some ⟨g2, i * 1, none⟩) (l.length + 1 - i) (c2 - i)) (fun b w hb hH => e_sub_lo (i := i) sl_int ((sub_at (by omega)).trans (by congr 1; omega)) (by omega) rfl rfl rfl hH hb) ?_
    refine h_q hflS rfl ?_
    refine h_act (post := fun _ => [cell g2 3 (over? cs2.toList (i * 1) (encI x)).toArray, cell g 3 cs, Vec 3 1 encI y ([x])]) rfl (a_copy 0 sl_int rfl (fun w hH => hH.vec 2 rfl okI) (q := 1) (Nat.min_eq_left (by simp; omega)) (zs := encI x) (by simp [flat, encI]) (okI.one x) (by rw [hx1, h3]; omega) rfl rfl rfl rfl) ?_; rintro ⟨⟩
    refine h_done (d_seq ?_)
    refine d_parS 9 1 [⟨.quiet, [none], fun _ => .slice (some ⟨g2, 0, none⟩) (i + (l.length + 1 - i)) c2, []⟩, ⟨.quiet, [none], fun _ => .int .i64 (i : Int), []⟩, ⟨.quiet, [none], fun _ => .int .i64 1, []⟩, ⟨.quiet, [none], fun _ => .int .i64 ((i + 1 : Nat) : Int), [1, 2]⟩, ⟨.quiet, [none], fun _ => .slice (some ⟨g2, (i + 1) * 1, none⟩) (l.length - i) (c2 - (i + 1)), [0, 3]⟩, ⟨.quiet, [none], fun _ => .slice (some ⟨g, 0, none⟩) l.length c, []⟩, ⟨.quiet, [none], fun _ => .int .i64 (i : Int), []⟩, ⟨.quiet, [none], fun _ => subv 1 (.slice (some ⟨g, 0, none⟩) l.length c) i l.length, [5, 6]⟩, ⟨.actv 0, [some false], fun _ => .int .i64 ((l.length - i : Nat) : Int), [4, 7]⟩] [(0, .slice (some ⟨g, 0, none⟩) l.length c), (1, .int .i64 (i : Int)), (2, y), (6, .slice none 0 0), (7, .int .i64 1), (8, .int .i64 (l.length : Int)), (9, .slice (some ⟨g2, 0, none⟩) (i + (l.length + 1 - i)) c2)] (fun ρ => match ρ with | [r0] => [selS r0 (fun _ => cell g2 3 (over? (over? cs2.toList (i * 1) (encI x)) ((i + 1) * 1) (flat encI (l.drop i))).toArray) (cell g2 3 (over? cs2.toList (i * 1) (encI x)).toArray), cell g 3 cs, Vec 3 1 encI y ([x])] | _ => []) (by kernel_rfl) (by kernel_rfl) ⟨rfl, rfl, rfl, rfl, rfl, rfl, rfl, trivial⟩ rfl ?_ ?_
    · skip
      refine s_cons (by intro r0_; exact ⟨rfl, fun b w hH hb => exec_q1 hflS rfl hb⟩) ?_
      refine s_cons (by intro r0_; exact ⟨rfl, fun b w hH hb => exec_q1 hflS rfl hb⟩) ?_
      refine s_cons (by intro r0_; exact ⟨rfl, fun b w hH hb => exec_q1 hflS rfl hb⟩) ?_
      refine s_cons (by intro r0_; exact ⟨rfl, fun b w hH hb => exec_ar rfl rfl rfl rfl (by rw [IntWalk.i64_in _ (by omega)]; omega) hb⟩) ?_
      refine s_cons (by intro r0_; exact ⟨rfl, fun b w hH hb => e_sub_lo (i := (i + 1)) sl_int ((sub_at (by omega)).trans (by congr 1; omega)) (by omega) rfl rfl rfl hH hb⟩) ?_
      refine s_cons (by intro r0_; exact ⟨rfl, fun b w hH hb => exec_q1 hflS rfl hb⟩) ?_
      refine s_cons (by intro r0_; exact ⟨rfl, fun b w hH hb => exec_q1 hflS rfl hb⟩) ?_
      refine s_cons (by intro r0_; exact ⟨rfl, fun b w hH hb => e_sub_lo (i := i) sl_int rfl (by omega) rfl rfl rfl hH hb⟩) ?_
      refine s_cons (by exact ⟨rfl, Acts.su (a_copy 0 sl_int rfl (fun w hH => hH.rowsub 1 rfl (k := 1) (p := i) (q := l.length) (m := l.length) (c := c) (by omega) hc hd (by rw [hs]; exact Nat.le_refl _)) (q := l.length - i) (Nat.min_eq_left (Nat.le_refl _)) (zs := flat encI (l.drop i)) (List.take_of_length_le (by rw [hdl]; omega)) (flat_one okI _) (fit_over (by rw [hx1, h3l]; omega) (by rw [hdl, h3l]; omega)) rfl rfl rfl rfl) rfl⟩) ?_
      exact s_nil
    intro v0_
    refine WL2.keep (env' := [(0, .slice (some ⟨g, 0, none⟩) l.length c), (1, .int .i64 (i : Int)), (2, y), (6, .slice none 0 0), (7, .int .i64 1), (8, .int .i64 (l.length : Int)), (9, .slice (some ⟨g2, 0, none⟩) (i + (l.length + 1 - i)) c2)]) ⟨rfl, rfl, rfl, rfl, rfl, rfl, rfl, trivial⟩ ?_
    refine h_nil (f_to (d_reg ?_))
    refine h_q hflS rfl ?_
    refine h_done (d_ret (f_then_ret ?_))
    exact f_fin1 (.tmp rfl) (fun w h => tells (Value.slice (some ⟨g2, 0, none⟩) (i + (l.length + 1 - i)) c2) rfl [0] rfl h (fun z hz => ⟨z, .refl _, Parts.one (vec_next (k := 1) (a := cs2.toList) (i := i * 1) (x := encI x) (j := (i + 1) * 1) (d := flat encI (l.drop i)) h3l (by rw [hrl]; omega) (by omega) h2 (by rw [hx1]; omega) (by rw [hdl]; omega) (by rw [h4, hres]) hz)⟩)) rfl
  · skip
    refine d_reg ?_
    refine h_q hflS rfl ?_
    refine h_val rfl (.int .i64 ((l.length + 1 : Nat) : Int)) (fun b w hb hH => exec_ar rfl rfl rfl rfl (by rw [IntWalk.i64_in _ (by omega)]; omega) hb) ?_
    refine h_q hflS rfl ?_
    refine h_val rfl (.int .i64 (c : Int)) (fun b w hb hH => e_cap sl_int rfl rfl hH hb) ?_
    refine h_val rfl (.bool false) (fun b w hb hH => exec_cmp rfl rfl rfl (cmp_gtr_f (by omega)) hb) ?_
    refine h_done (d_else rfl (d_skip (f_to (d_reg ?_))))
    refine h_q hflS rfl ?_
    refine h_val rfl (.int .i64 ((l.length + 1 : Nat) : Int)) (fun b w hb hH => exec_ar rfl rfl rfl rfl (by rw [IntWalk.i64_in _ (by omega)]; omega) hb) ?_
    refine h_val rfl (.slice (some ⟨g, 0, none⟩) (l.length + 1) c) (fun b w hb hH => e_sub_hi (j := (l.length + 1)) sl_int sub_0 (by omega) rfl rfl rfl hH hb) ?_
    refine h_q hflS rfl ?_
    refine h_done (d_seq (d_reg ?_))
    refine h_q hflS rfl ?_
    refine h_val rfl (.int .i64 ((i + 1 : Nat) : Int)) (fun b w hb hH => exec_ar rfl rfl rfl rfl (by rw [IntWalk.i64_in _ (by omega)]; omega) hb) ?_
    refine h_val rfl (.slice (some ⟨g, (i + 1) * 1, none⟩) (l.length - i) (c - (i + 1))) (fun b w hb hH => e_sub_lo (i := (i + 1)) sl_int ((sub_at (by omega)).trans (by congr 1; omega)) (by omega) rfl rfl rfl hH hb) ?_
    refine h_val rfl (.bool false) (fun b w hb hH => exec_ext_at (by rw [run_callFunc_extern Try.func59 (by kernel_rfl) (by kernel_rfl) (by kernel_rfl) (e := Extern.SlicesOverlaps.overlaps #[45, 45] #[4]) (by kernel_rfl)]; show Result.andThen (Sem.run _ (Extern.SlicesOverlaps.overlaps _ _ #[_, _]) w) _ = _; rw [Hp.apart_rows sl_int (by simp) hH 1 0 (by decide) rfl rfl (by rw [hs]; omega)]; rfl) rfl rfl rfl hb) ?_
    refine h_q hflS rfl ?_
    refine h_done (d_then rfl (d_seq ?_))
    refine d_parS 9 1 [⟨.quiet, [none], fun _ => .slice (some ⟨g, 0, none⟩) (l.length + 1) c, []⟩, ⟨.quiet, [none], fun _ => .int .i64 (i : Int), []⟩, ⟨.quiet, [none], fun _ => .int .i64 1, []⟩, ⟨.quiet, [none], fun _ => .int .i64 ((i + 1 : Nat) : Int), [1, 2]⟩, ⟨.quiet, [none], fun _ => .slice (some ⟨g, (i + 1) * 1, none⟩) (l.length - i) (c - (i + 1)), [0, 3]⟩, ⟨.quiet, [none], fun _ => .slice (some ⟨g, 0, none⟩) (l.length + 1) c, []⟩, ⟨.quiet, [none], fun _ => .int .i64 (i : Int), []⟩, ⟨.quiet, [none], fun _ => subv 1 (.slice (some ⟨g, 0, none⟩) (l.length + 1) c) i (l.length + 1), [5, 6]⟩, ⟨.actv 0, [some false], fun _ => .int .i64 ((l.length - i : Nat) : Int), [4, 7]⟩] [(1, .int .i64 (i : Int)), (2, y), (6, .slice none 0 0), (7, .int .i64 1), (8, .int .i64 (l.length : Int)), (0, .slice (some ⟨g, 0, none⟩) (l.length + 1) c)] (fun ρ => match ρ with | [r0] => [selS r0 (fun _ => cell g 3 (over? cs.toList ((i + 1) * 1) (flat encI (l.drop i))).toArray) (cell g 3 cs), Vec 3 1 encI y ([x])] | _ => []) (by kernel_rfl) (by kernel_rfl) ⟨rfl, rfl, rfl, rfl, rfl, rfl, trivial⟩ rfl ?_ ?_
    · skip
      refine s_cons (by intro r0_; exact ⟨rfl, fun b w hH hb => exec_q1 hflS rfl hb⟩) ?_
      refine s_cons (by intro r0_; exact ⟨rfl, fun b w hH hb => exec_q1 hflS rfl hb⟩) ?_
      refine s_cons (by intro r0_; exact ⟨rfl, fun b w hH hb => exec_q1 hflS rfl hb⟩) ?_
      refine s_cons (by intro r0_; exact ⟨rfl, fun b w hH hb => exec_ar rfl rfl rfl rfl (by rw [IntWalk.i64_in _ (by omega)]; omega) hb⟩) ?_
      refine s_cons (by intro r0_; exact ⟨rfl, fun b w hH hb => e_sub_lo (i := (i + 1)) sl_int ((sub_at (by omega)).trans (by congr 1; omega)) (by omega) rfl rfl rfl hH hb⟩) ?_
      refine s_cons (by intro r0_; exact ⟨rfl, fun b w hH hb => exec_q1 hflS rfl hb⟩) ?_
      refine s_cons (by intro r0_; exact ⟨rfl, fun b w hH hb => exec_q1 hflS rfl hb⟩) ?_
      refine s_cons (by intro r0_; exact ⟨rfl, fun b w hH hb => e_sub_lo (i := i) sl_int rfl (by omega) rfl rfl rfl hH hb⟩) ?_
      refine s_cons (by exact ⟨rfl, Acts.su (a_copy 0 sl_int rfl (fun w hH => hH.rowsub 0 rfl (k := 1) (p := i) (q := l.length + 1) (m := l.length + 1) (c := c) (by omega) (by omega) rfl (by rw [hs]; exact Nat.le_refl _)) (q := l.length - i) (Nat.min_eq_right (by omega)) (zs := flat encI (l.drop i)) (by rw [List.take_take, Nat.min_eq_left (by omega)]; exact hd) (flat_one okI _) (by rw [hdl, hs]; omega) rfl rfl rfl rfl) rfl⟩) ?_
      exact s_nil
    intro v0_
    refine WL2.keep (env' := [(1, .int .i64 (i : Int)), (2, y), (6, .slice none 0 0), (7, .int .i64 1), (8, .int .i64 (l.length : Int)), (0, .slice (some ⟨g, 0, none⟩) (l.length + 1) c)]) ⟨rfl, rfl, rfl, rfl, rfl, rfl, trivial⟩ ?_
    refine h_nil (f_to (d_reg ?_))
    refine h_q hflS rfl ?_
    refine h_val rfl (.slice (some ⟨g, i * 1, none⟩) (l.length + 1 - i) (c - i)) (fun b w hb hH => e_sub_lo (i := i) sl_int (sub_at (by omega)) (by omega) rfl rfl rfl hH hb) ?_
    refine h_q hflS rfl ?_
    refine h_act (post := fun _ => [cell g 3 (over? (over? cs.toList ((i + 1) * 1) (flat encI (l.drop i))) (i * 1) (encI x)).toArray, Vec 3 1 encI y ([x])]) rfl (a_copy 0 sl_int rfl (fun w hH => hH.vec 1 rfl okI) (q := 1) (Nat.min_eq_left (by simp; omega)) (zs := encI x) (by simp [flat, encI]) (okI.one x) (fit_over (by rw [hdl, hsl]; omega) (by rw [hx1, hsl]; omega)) rfl rfl rfl rfl) ?_; rintro ⟨⟩
    refine h_done (d_reg ?_)
    refine h_q hflS rfl ?_
    refine h_done (d_ret (f_then_ret ?_))
    exact f_fin1 (.tmp rfl) (fun w h => tells (Value.slice (some ⟨g, 0, none⟩) (l.length + 1) c) rfl [0] rfl h (fun z hz => ⟨z, .refl _, Parts.one (vec_ahead (k := 1) (a := cs.toList) (i := i * 1) (x := encI x) (j := (i + 1) * 1) (d := flat encI (l.drop i)) hsl (by rw [hrl]) (by omega) hm (by rw [hx1]; omega) (by rw [hdl]; omega) (by rw [hres]; congr 2) hz)⟩)) rfl

theorem insert_int (v y : Value) (l : List (Int)) (x : Int) (i : Nat) (hi : i ≤ l.length) (hl : l.length ≤ 17179869184) : Does Try.prog 37 #[v, .int .i64 (i : Int), y] [Vec 3 1 encI v l, Vec 3 1 encI y [x]] (fun u : Value => u) (fun u : Value => [Vec 3 1 encI u (l.take i ++ x :: l.drop i)]) := by
  by_cases he : i = l.length
  · subst he
    have := insert_end_int v y l x hl
    simpa using this
  · intro w rs hp hr hd
    obtain ⟨r1, r2, e, hv, hy⟩ := hp
    rcases hv with ⟨_, h0, _⟩ | ⟨g, c, cs, hvv, hc, hm, hs, ht, hrr⟩
    · subst h0; exact absurd hi (by simp at he ⊢; omega)
    · subst hvv
      refine insert_mid_int g c cs y l x i (by omega) hl hc hm hs ht w rs ⟨r1, r2, e, hrr, hy⟩ hr hd

theorem delete_row_int (g c : Nat) (cs : Array Value) (l : List (Int)) (i : Nat) (hi : i < l.length) (hl : l.length ≤ 17179869184) (hc : l.length ≤ c) (hm : c ≤ maxLen) (hs : cs.size = c * 1) (ht : cs.toList.take (l.length * 1) = flat encI l) : Does Try.prog 41 #[.slice (some ⟨g, 0, none⟩) l.length c, .int .i64 (i : Int), .int .i64 ((i + 1 : Nat) : Int)] [cell g 3 cs] (fun (u : Value) => u) (fun (u : Value) => [Vec 3 1 encI u (l.take i ++ l.drop (i + 1))]) := by
  have hm' : c ≤ 9223372036854775807 := by unfold maxLen at hm; exact hm
  have hd : (cs.toList.drop ((i + 1) * 1)).take ((l.length - (i + 1)) * 1) = flat encI (l.drop (i + 1)) := by
    rw [← flat_drop okI, ← ht, List.drop_take]; congr 1; omega
  have hd0 : cs.toList.take (0 + i * 1) = flat encI (l.take i) := by
    rw [← flat_take okI, ← ht, List.take_take]; congr 1; omega
  have hdl : (flat encI (l.drop (i + 1))).length = l.length - (i + 1) := by rw [flat_len okI, List.length_drop]; omega
  have hsl : cs.toList.length = c * 1 := by rw [Array.length_toList]; exact hs
  obtain ⟨q, hq⟩ : ∃ q, q = i + (l.length - (i + 1)) := ⟨_, rfl⟩
  refine d_ins (args := [.slice (some ⟨g, 0, none⟩) l.length c, .int .i64 (i : Int), .int .i64 ((i + 1 : Nat) : Int)]) 33 Try.func41 rfl rfl rfl ?_; intro w rs
  refine d_reg ?_
  refine h_q hflS rfl ?_
  refine h_done (d_reg ?_)
  refine h_q hflS rfl ?_
  refine h_val rfl (.int .i64 (l.length : Int)) (fun b w hb hH => e_len sl_int rfl rfl hH hb) ?_
  refine h_val rfl (subv 1 (.slice (some ⟨g, 0, none⟩) l.length l.length) i (i + 1)) (fun b w hb hH => e_sub3 sl_int (by omega) (by omega) hc rfl rfl rfl rfl rfl hH hb) ?_
  refine h_done (d_seq (d_reg ?_))
  refine h_q hflS rfl ?_
  refine h_val rfl (.bool false) (fun b w hb hH => exec_cmp rfl rfl rfl (cmp_eql_f (by omega)) hb) ?_
  refine h_done (d_else rfl (d_skip (f_to (d_reg ?_))))
  refine h_q hflS rfl ?_
  refine h_val rfl (.int .i64 (l.length : Int)) (fun b w hb hH => e_len sl_int rfl rfl hH hb) ?_
  refine h_q hflS rfl ?_
  refine h_done (d_seq ?_)
  refine d_parS 7 1 [⟨.quiet, [none], fun _ => .slice (some ⟨g, 0, none⟩) l.length c, []⟩, ⟨.quiet, [none], fun _ => .int .i64 (i : Int), []⟩, ⟨.quiet, [none], fun _ => .slice (some ⟨g, 0, none⟩) i c, [0, 1]⟩, ⟨.quiet, [none], fun _ => .slice (some ⟨g, 0, none⟩) l.length c, []⟩, ⟨.quiet, [none], fun _ => .int .i64 ((i + 1 : Nat) : Int), []⟩, ⟨.quiet, [none], fun _ => subv 1 (.slice (some ⟨g, 0, none⟩) l.length c) (i + 1) l.length, [3, 4]⟩, ⟨.actv 0, [some false], fun _ => .slice (some ⟨g, 0, none⟩) (i + (l.length - (i + 1))) c, [2, 5]⟩] [(0, .slice (some ⟨g, 0, none⟩) l.length c), (1, .int .i64 (i : Int)), (2, .int .i64 ((i + 1 : Nat) : Int)), (6, .slice none 0 0), (7, .int .i64 (l.length : Int))] (fun ρ => match ρ with | [r0] => [selS r0 (fun _ => cell g 3 (over? cs.toList (0 + i * 1) (flat encI (l.drop (i + 1)))).toArray) (cell g 3 cs)] | _ => []) (by kernel_rfl) (by kernel_rfl) ⟨rfl, rfl, rfl, rfl, rfl, trivial⟩ rfl ?_ ?_
  · skip
    refine s_cons (by intro r0_; exact ⟨rfl, fun b w hH hb => exec_q1 hflS rfl hb⟩) ?_
    refine s_cons (by intro r0_; exact ⟨rfl, fun b w hH hb => exec_q1 hflS rfl hb⟩) ?_
    refine s_cons (by intro r0_; exact ⟨rfl, fun b w hH hb => e_sub_hi (j := i) sl_int sub_0 (by omega) rfl rfl rfl hH hb⟩) ?_
    refine s_cons (by intro r0_; exact ⟨rfl, fun b w hH hb => exec_q1 hflS rfl hb⟩) ?_
    refine s_cons (by intro r0_; exact ⟨rfl, fun b w hH hb => exec_q1 hflS rfl hb⟩) ?_
    refine s_cons (by intro r0_; exact ⟨rfl, fun b w hH hb => e_sub_lo (i := (i + 1)) sl_int rfl (by omega) rfl rfl rfl hH hb⟩) ?_
    refine s_cons (by exact ⟨rfl, Acts.su (a_append_in 0 sl_int rfl (fun w hH => hH.rowsub 0 rfl (k := 1) (p := i + 1) (q := l.length) (m := l.length) (c := c) (by omega) hc hd (by rw [hs]; exact Nat.le_refl _)) (flat_one okI _) (by omega) (by rw [hdl, hs]; omega) rfl rfl rfl rfl) rfl⟩) ?_
    exact s_nil
  intro v0_
  refine WL2.keep (env' := [(0, .slice (some ⟨g, 0, none⟩) l.length c), (6, .slice none 0 0), (7, .int .i64 (l.length : Int)), (26, .slice (some ⟨g, 0, none⟩) (i + (l.length - (i + 1))) c)]) ⟨rfl, rfl, rfl, rfl, trivial⟩ ?_
  refine h_q hflS rfl ?_
  refine h_nil (f_to ?_)
  simp only [← hq]
  refine d_reg ?_
  refine h_q hflS rfl ?_
  refine h_val rfl (.int .i64 (q : Int)) (fun b w hb hH => e_len sl_int rfl rfl hH hb) ?_
  refine h_q hflS rfl ?_
  refine h_val rfl (.slice (some ⟨g, q * 1, none⟩) (l.length - q) (c - q)) (fun b w hb hH => e_sub (i := q) (j := l.length) sl_int (sub_at (by omega)) (by omega) hc rfl rfl rfl rfl hH hb) ?_
  refine h_acts rfl rfl (a_clear 0 sl_int rfl (by rw [List.size_toArray, over_len (by rw [hdl, hsl]; omega), hsl]; omega) rfl rfl rfl) ?_; rintro ⟨zs, hz⟩
  refine h_done (d_reg ?_)
  refine h_q hflS rfl ?_
  refine h_done (d_ret ?_)
  exact f_fin1 (.tmp rfl) (fun w h => tells (Value.slice (some ⟨g, 0, none⟩) q c) rfl [0] rfl h (fun z hz' => ⟨z, .refl _, Parts.one (vec_down (k := 1) (a := cs.toList) (i := 0 + i * 1) (x := flat encI (l.drop (i + 1))) (j := q * 1) (d := zs) hsl (by simp; omega) (by omega) hm (by rw [hdl]; omega) rfl (by rw [hz, hsl]; omega) (by rw [hd0, flat_app]) hz')⟩)) rfl

theorem delete_int (v : Value) (l : List (Int)) (i : Nat) (hi : i < l.length) (hl : l.length ≤ 17179869184) : Does Try.prog 41 #[v, .int .i64 (i : Int), .int .i64 ((i + 1 : Nat) : Int)] [Vec 3 1 encI v l] (fun u : Value => u) (fun u : Value => [Vec 3 1 encI u (l.take i ++ l.drop (i + 1))]) := by
  intro w rs hp hr hd
  rcases hp.one' with ⟨_, h0, _⟩ | ⟨g, c, cs, hvv, hc, hm, hs, ht, hrr⟩
  · subst h0; exact absurd hi (by simp)
  · subst hvv
    exact delete_row_int g c cs l i hi hl hc hm hs ht w rs (Parts.one hrr) hr hd

theorem clone_string (X : Ass) (u : Value) (m : List (List UInt8)) (hu : ∀ rs w, X rs → RowsOf w rs → SlRd w 1 u m.length (flat encS m)) (hl : m.length ≤ 17179869184) : Does Try.prog 54 #[u] [X] (fun (x : Value) => x) (fun (x : Value) => [X, Vec 9 1 encS x m]) := by
  refine Does.fact (p := ∃ A c, u = .slice A m.length c ∧ (A = none → m = [])) (fun w rs h1 h2 => by
    obtain ⟨A, c, e, hA⟩ := (hu rs w (Parts.one' h1) h2).2
    refine ⟨A, c, e, fun e => ?_⟩
    rcases hA with ⟨_, h⟩ | ⟨a, h, _⟩
    · exact List.length_eq_zero_iff.1 h
    · rw [e] at h; cases h) ?_
  rintro ⟨A, c, rfl, hA'⟩
  refine d_ins (args := [.slice A m.length c]) 8 Try.func54 rfl rfl rfl ?_; intro w rs
  refine d_reg ?_
  refine h_q hflS rfl ?_
  refine h_done (d_seq ?_)
  rcases A with _ | a
  · skip
    obtain rfl := hA' rfl
    refine d_nilvec 9 1 encS ?_
    refine d_reg ?_
    refine h_q hflS rfl ?_
    refine h_val rfl (.bool true) (fun b w hb hH => exec_snil_eql (A := none) Try.underlying65 rfl rfl rfl hb) ?_
    refine h_done (d_then rfl (d_reg ?_))
    refine h_q hflS rfl ?_
    refine h_done (d_ret (f_then_ret ?_))
    exact f_fin1 (.tmp rfl) (fun w h => tells (Value.slice none 0 0) rfl [1, 0] rfl h same_parts) rfl
  · skip
    refine d_reg ?_
    refine h_q hflS rfl ?_
    refine h_val rfl (.bool false) (fun b w hb hH => exec_snil_eql (A := some a) Try.underlying65 rfl rfl rfl hb) ?_
    refine h_done (d_else rfl (d_skip (f_to (d_reg ?_))))
    refine h_q hflS rfl ?_
    refine h_act (X := Value) (val := fun v : Value => v) (post := fun u1 => [Vec 9 1 encS u1 ([]), X]) rfl (by refine a_build0 (e := 9) (t := 65) (k := 1) (enc := encS) ?_ ?_; exact sl_string; exact rfl) ?_; rintro u1
    refine h_q hflS rfl ?_
    refine h_act (post := fun u2 => [Vec 9 1 encS u2 m, X]) rfl (a_append 0 sl_string okS rfl (m) (fun w hH => by obtain ⟨rs, h1, h2⟩ := hH.thing 1 rfl; exact hu rs w h1 h2) (by simp; omega) rfl rfl rfl (List.nil_append m)) ?_; rintro u2
    refine h_q hflS rfl ?_
    refine h_done (d_ret ?_)
    exact f_fin1 (.tmp rfl) (fun w h => tells u2 rfl [1, 0] rfl h same_parts) rfl

theorem insert_end_string (v y : Value) (l : List (List UInt8)) (x : List UInt8) (hl : l.length ≤ 17179869184) : Does Try.prog 36 #[v, .int .i64 (l.length : Int), y] [Vec 9 1 encS v l, Vec 9 1 encS y ([x])] (fun (u : Value) => u) (fun (u : Value) => [Vec 9 1 encS u (l ++ [x])]) := by
  refine d_ins (args := [v, .int .i64 (l.length : Int), y]) 95 Try.func36 rfl rfl rfl ?_; intro w rs
  refine d_reg ?_
  refine h_q hflS rfl ?_
  refine h_done (d_reg ?_)
  refine h_q hflS rfl ?_
  refine h_val rfl (subv 1 v l.length l.length) (fun b w hb hH => e_vsub_lo 0 (a := l.length) sl_string rfl (Nat.le_refl _) rfl rfl rfl hH hb) ?_
  refine h_done (d_reg ?_)
  refine h_q hflS rfl ?_
  refine h_val rfl (.int .i64 1) (fun b w hb hH => e_vlen 1 Try.underlying65 rfl rfl rfl hH hb) ?_
  refine h_q hflS rfl ?_
  refine h_done (d_seq (d_reg ?_))
  refine h_q hflS rfl ?_
  refine h_val rfl (.bool false) (fun b w hb hH => exec_cmp rfl rfl rfl (cmp_eql_f (by decide)) hb) ?_
  refine h_done (d_else rfl (d_skip (f_to (d_reg ?_))))
  refine h_q hflS rfl ?_
  refine h_val rfl (.int .i64 (l.length : Int)) (fun b w hb hH => e_vlen 0 Try.underlying65 rfl rfl rfl hH hb) ?_
  refine h_q hflS rfl ?_
  refine h_done (d_seq (d_reg ?_))
  refine h_q hflS rfl ?_
  refine h_val rfl (.bool true) (fun b w hb hH => exec_cmp rfl rfl rfl (cmp_eql_t rfl) hb) ?_
  refine h_done (d_then rfl (d_reg ?_))
  refine h_q hflS rfl ?_
  refine h_act (post := fun u1 => [Vec 9 1 encS u1 (l ++ [x]), Vec 9 1 encS y ([x])]) rfl (a_append 0 sl_string okS rfl ([x]) (fun w hH => hH.vec 1 rfl okS) (by simp; omega) rfl rfl rfl rfl) ?_; rintro u1
  refine h_q hflS rfl ?_
  refine h_done (d_ret (f_then_ret ?_))
  exact f_fin1 (.tmp rfl) (fun w h => tells u1 rfl [0] rfl h same_parts) rfl

theorem insert_mid_string (g c : Nat) (cs : Array Value) (y : Value) (l : List (List UInt8)) (x : List UInt8) (i : Nat) (hi : i < l.length) (hl : l.length ≤ 17179869184) (hc : l.length ≤ c) (hm : c ≤ maxLen) (hs : cs.size = c * 1) (ht : cs.toList.take (l.length * 1) = flat encS l) : Does Try.prog 36 #[.slice (some ⟨g, 0, none⟩) l.length c, .int .i64 (i : Int), y] [cell g 9 cs, Vec 9 1 encS y ([x])] (fun (u : Value) => u) (fun (u : Value) => [Vec 9 1 encS u (l.take i ++ x :: l.drop i)]) := by
  have hm' : c ≤ 9223372036854775807 := by unfold maxLen at hm; exact hm
  have hd : (cs.toList.drop (i * 1)).take ((l.length - i) * 1) = flat encS (l.drop i) := by
    rw [← flat_drop okS, ← ht, List.drop_take]; congr 1; omega
  have hd0 : (cs.toList.drop 0).take (i * 1) = flat encS (l.take i) := by
    rw [← flat_take okS, ← ht, List.drop_zero, List.take_take]; congr 1; omega
  have hdl : (flat encS (l.drop i)).length = l.length - i := by rw [flat_len okS, List.length_drop]; omega
  have hres : flat encS (l.take i ++ x :: l.drop i) = flat encS (l.take i) ++ encS x ++ flat encS (l.drop i) := by rw [flat_app, flat_cons, List.append_assoc]
  have hrl : (l.take i ++ x :: l.drop i).length = l.length + 1 := by simp; omega
  have hx1 : (encS x).length = 1 := rfl
  have hsl : cs.toList.length = c * 1 := by rw [Array.length_toList]; exact hs
  refine d_ins (args := [.slice (some ⟨g, 0, none⟩) l.length c, .int .i64 (i : Int), y]) 95 Try.func36 rfl rfl rfl ?_; intro w rs
  refine d_reg ?_
  refine h_q hflS rfl ?_
  refine h_done (d_reg ?_)
  refine h_q hflS rfl ?_
  refine h_val rfl (subv 1 (.slice (some ⟨g, 0, none⟩) l.length c) i l.length) (fun b w hb hH => e_sub_lo (i := i) sl_string rfl (by omega) rfl rfl rfl hH hb) ?_
  refine h_done (d_reg ?_)
  refine h_q hflS rfl ?_
  refine h_val rfl (.int .i64 1) (fun b w hb hH => e_vlen 1 Try.underlying65 rfl rfl rfl hH hb) ?_
  refine h_q hflS rfl ?_
  refine h_done (d_seq (d_reg ?_))
  refine h_q hflS rfl ?_
  refine h_val rfl (.bool false) (fun b w hb hH => exec_cmp rfl rfl rfl (cmp_eql_f (by decide)) hb) ?_
  refine h_done (d_else rfl (d_skip (f_to (d_reg ?_))))
  refine h_q hflS rfl ?_
  refine h_val rfl (.int .i64 (l.length : Int)) (fun b w hb hH => e_len sl_string rfl rfl hH hb) ?_
  refine h_q hflS rfl ?_
  refine h_done (d_seq (d_reg ?_))
  refine h_q hflS rfl ?_
  refine h_val rfl (.bool false) (fun b w hb hH => exec_cmp rfl rfl rfl (cmp_eql_f (by omega)) hb) ?_
  refine h_done (d_else rfl (d_skip (f_to (d_seq ?_))))
  by_cases hg : c < l.length + 1
  · skip
    refine d_reg ?_
    refine h_q hflS rfl ?_
    refine h_val rfl (.int .i64 ((l.length + 1 : Nat) : Int)) (fun b w hb hH => exec_ar rfl rfl rfl rfl (by rw [IntWalk.i64_in _ (by omega)]; omega) hb) ?_
    refine h_q hflS rfl ?_
    refine h_val rfl (.int .i64 (c : Int)) (fun b w hb hH => e_cap sl_string rfl rfl hH hb) ?_
    refine h_val rfl (.bool true) (fun b w hb hH => exec_cmp rfl rfl rfl (cmp_gtr_t (by omega)) hb) ?_
    refine h_done (d_then rfl (d_reg ?_))
    refine h_q hflS rfl ?_
    refine h_val rfl (.slice (some ⟨g, 0, none⟩) i c) (fun b w hb hH => e_sub_hi (j := i) sl_string sub_0 (by omega) rfl rfl rfl hH hb) ?_
    refine h_q hflS rfl ?_
    refine h_val rfl (.int .i64 ((l.length + 1 : Nat) : Int)) (fun b w hb hH => exec_ar rfl rfl rfl rfl (by rw [IntWalk.i64_in _ (by omega)]; omega) hb) ?_
    refine h_q hflS rfl ?_
    refine h_val rfl (.int .i64 ((l.length + 1 - i : Nat) : Int)) (fun b w hb hH => exec_ar rfl rfl rfl rfl (by rw [IntWalk.i64_in _ (by omega)]; omega) hb) ?_
    refine h_act rfl (a_append_zeros sl_string Try.underlying3 (ys := flat encS (l.take i)) (fun w hH => hH.rowrd 0 rfl (k := 1) hd0 (by rw [hs]; omega)) (show 0 < l.length + 1 - i by omega) (by omega) (by omega) rfl rfl rfl) ?_; rintro ⟨⟨g2, c2, cs2⟩, h1, h2, h3, h4⟩
    refine WL2.keep (env' := [(0, .slice (some ⟨g, 0, none⟩) l.length c), (1, .int .i64 (i : Int)), (2, y), (6, .slice none 0 0), (10, .slice (some ⟨g, 0, none⟩) l.length c), (11, .int .i64 (i : Int)), (12, subv 1 (.slice (some ⟨g, 0, none⟩) l.length c) i l.length), (13, y), (14, .int .i64 1), (7, .int .i64 1), (15, .int .i64 1), (16, .bool false), (18, .slice (some ⟨g, 0, none⟩) l.length c), (19, .int .i64 (l.length : Int)), (8, .int .i64 (l.length : Int)), (20, .int .i64 (i : Int)), (21, .int .i64 (l.length : Int)), (22, .bool false), (26, .int .i64 (l.length : Int)), (27, .int .i64 1), (28, .int .i64 ((l.length + 1 : Nat) : Int)), (29, .slice (some ⟨g, 0, none⟩) l.length c), (30, .int .i64 (c : Int)), (31, .bool true), (32, .slice (some ⟨g, 0, none⟩) l.length c), (33, .int .i64 (i : Int)), (34, .slice (some ⟨g, 0, none⟩) i c), (35, .int .i64 (l.length : Int)), (36, .int .i64 1), (37, .int .i64 ((l.length + 1 : Nat) : Int)), (38, .int .i64 (i : Int)), (39, .int .i64 ((l.length + 1 - i : Nat) : Int)), (40, .slice (some ⟨g2, 0, none⟩) (i + (l.length + 1 - i)) c2)]) ⟨rfl, rfl, rfl, rfl, rfl, rfl, rfl, rfl, rfl, rfl, rfl, rfl, rfl, rfl, rfl, rfl, rfl, rfl, rfl, rfl, rfl, rfl, rfl, rfl, rfl, rfl, rfl, rfl, rfl, rfl, rfl, rfl, rfl, trivial⟩ ?_
    refine WL2.mid [cell g2 9 cs2, cell g 9 cs, Vec 9 1 encS y ([x])] (.refl _) ?_
    dsimp only at h1 h2 h3 h4
    have h3l : cs2.toList.length = c2 * 1 := by rw [Array.length_toList]; exact h3
    refine h_q hflS rfl ?_
    refine h_done (d_reg ?_)
    refine h_q hflS rfl ?_
    refine h_val rfl (.slice (some ⟨g2, i * 1, none⟩) (l.length + 1 - i) (c2 - i)) (fun b w hb hH => e_sub_lo (i := i) sl_string ((sub_at (by omega)).trans (by congr 1; omega)) (by omega) rfl rfl rfl hH hb) ?_
    refine h_q hflS rfl ?_
    refine h_act (post := fun _ => [cell g2 9 (over? cs2.toList (i * 1) (encS x)).toArray, cell g 9 cs, Vec 9 1 encS y ([x])]) rfl (a_copy 0 sl_string rfl (fun w hH => hH.vec 2 rfl okS) (q := 1) (Nat.min_eq_left (by simp; omega)) (zs := encS x) (by simp [flat, encS]) (okS.one x) (by rw [hx1, h3]; omega) rfl rfl rfl rfl) ?_; rintro ⟨⟩
    refine h_done (d_seq ?_)
    refine d_parS 9 1 [⟨.quiet, [none], fun _ => .slice (some ⟨g2, 0, none⟩) (i + (l.length + 1 - i)) c2, []⟩, ⟨.quiet, [none], fun _ => .int .i64 (i : Int), []⟩, ⟨.quiet, [none], fun _ => .int .i64 1, []⟩, ⟨.quiet, [none], fun _ => .int .i64 ((i + 1 : Nat) : Int), [1, 2]⟩, ⟨.quiet, [none], fun _ => .slice (some ⟨g2, (i + 1) * 1, none⟩) (l.length - i) (c2 - (i + 1)), [0, 3]⟩, ⟨.quiet, [none], fun _ => .slice (some ⟨g, 0, none⟩) l.length c, []⟩, ⟨.quiet, [none], fun _ => .int .i64 (i : Int), []⟩, ⟨.quiet, [none], fun _ => subv 1 (.slice (some ⟨g, 0, none⟩) l.length c) i l.length, [5, 6]⟩, ⟨.actv 0, [some false], fun _ => .int .i64 ((l.length - i : Nat) : Int), [4, 7]⟩] [(0, .slice (some ⟨g, 0, none⟩) l.length c), (1, .int .i64 (i : Int)), (2, y), (6, .slice none 0 0), (7, .int .i64 1), (8, .int .i64 (l.length : Int)), (9, .slice (some ⟨g2, 0, none⟩) (i + (l.length + 1 - i)) c2)] (fun ρ => match ρ with | [r0] => [selS r0 (fun _ => cell g2 9 (over? (over? cs2.toList (i * 1) (encS x)) ((i + 1) * 1) (flat encS (l.drop i))).toArray) (cell g2 9 (over? cs2.toList (i * 1) (encS x)).toArray), cell g 9 cs, Vec 9 1 encS y ([x])] | _ => []) (by kernel_rfl) (by kernel_rfl) ⟨rfl, rfl, rfl, rfl, rfl, rfl, rfl, trivial⟩ rfl ?_ ?_
    · skip
      refine s_cons (by intro r0_; exact ⟨rfl, fun b w hH hb => exec_q1 hflS rfl hb⟩) ?_
      refine s_cons (by intro r0_; exact ⟨rfl, fun b w hH hb => exec_q1 hflS rfl hb⟩) ?_
      refine s_cons (by intro r0_; exact ⟨rfl, fun b w hH hb => exec_q1 hflS rfl hb⟩) ?_
      refine s_cons (by intro r0_; exact ⟨rfl, fun b w hH hb => exec_ar rfl rfl rfl rfl (by rw [IntWalk.i64_in _ (by omega)]; omega) hb⟩) ?_
      refine s_cons (by intro r0_; exact ⟨rfl, fun b w hH hb => e_sub_lo (i := (i + 1)) sl_string ((sub_at (by omega)).trans (by congr 1; omega)) (by omega) rfl rfl rfl hH hb⟩) ?_
      refine s_cons (by intro r0_; exact ⟨rfl, fun b w hH hb => exec_q1 hflS rfl hb⟩) ?_
      refine s_cons (by intro r0_; exact ⟨rfl, fun b w hH hb => exec_q1 hflS rfl hb⟩) ?_
      refine s_cons (by intro r0_; exact ⟨rfl, fun b w hH hb => e_sub_lo (i := i) sl_string rfl (by omega) rfl rfl rfl hH hb⟩) ?_
      refine s_cons (by exact ⟨rfl, Acts.su (a_copy 0 sl_string rfl (fun w hH => hH.rowsub 1 rfl (k := 1) (p := i) (q := l.length) (m := l.length) (c := c) (by omega) hc hd (by rw [hs]; exact Nat.le_refl _)) (q := l.length - i) (Nat.min_eq_left (Nat.le_refl _)) (zs := flat encS (l.drop i)) (List.take_of_length_le (by rw [hdl]; omega)) (flat_one okS _) (fit_over (by rw [hx1, h3l]; omega) (by rw [hdl, h3l]; omega)) rfl rfl rfl rfl) rfl⟩) ?_
      exact s_nil
    intro v0_
    refine WL2.keep (env' := [(0, .slice (some ⟨g, 0, none⟩) l.length c), (1, .int .i64 (i : Int)), (2, y), (6, .slice none 0 0), (7, .int .i64 1), (8, .int .i64 (l.length : Int)), (9, .slice (some ⟨g2, 0, none⟩) (i + (l.length + 1 - i)) c2)]) ⟨rfl, rfl, rfl, rfl, rfl, rfl, rfl, trivial⟩ ?_
    refine h_nil (f_to (d_reg ?_))
    refine h_q hflS rfl ?_
    refine h_done (d_ret (f_then_ret ?_))
    exact f_fin1 (.tmp rfl) (fun w h => tells (Value.slice (some ⟨g2, 0, none⟩) (i + (l.length + 1 - i)) c2) rfl [0] rfl h (fun z hz => ⟨z, .refl _, Parts.one (vec_next (k := 1) (a := cs2.toList) (i := i * 1) (x := encS x) (j := (i + 1) * 1) (d := flat encS (l.drop i)) h3l (by rw [hrl]; omega) (by omega) h2 (by rw [hx1]; omega) (by rw [hdl]; omega) (by rw [h4, hres]) hz)⟩)) rfl
  · skip
    refine d_reg ?_
    refine h_q hflS rfl ?_
    refine h_val rfl (.int .i64 ((l.length + 1 : Nat) : Int)) (fun b w hb hH => exec_ar rfl rfl rfl rfl (by rw [IntWalk.i64_in _ (by omega)]; omega) hb) ?_
    refine h_q hflS rfl ?_
    refine h_val rfl (.int .i64 (c : Int)) (fun b w hb hH => e_cap sl_string rfl rfl hH hb) ?_
    refine h_val rfl (.bool false) (fun b w hb hH => exec_cmp rfl rfl rfl (cmp_gtr_f (by omega)) hb) ?_
    refine h_done (d_else rfl (d_skip (f_to (d_reg ?_))))
    refine h_q hflS rfl ?_
    refine h_val rfl (.int .i64 ((l.length + 1 : Nat) : Int)) (fun b w hb hH => exec_ar rfl rfl rfl rfl (by rw [IntWalk.i64_in _ (by omega)]; omega) hb) ?_
    refine h_val rfl (.slice (some ⟨g, 0, none⟩) (l.length + 1) c) (fun b w hb hH => e_sub_hi (j := (l.length + 1)) sl_string sub_0 (by omega) rfl rfl rfl hH hb) ?_
    refine h_q hflS rfl ?_
    refine h_done (d_seq (d_reg ?_))
    refine h_q hflS rfl ?_
    refine h_val rfl (.int .i64 ((i + 1 : Nat) : Int)) (fun b w hb hH => exec_ar rfl rfl rfl rfl (by rw [IntWalk.i64_in _ (by omega)]; omega) hb) ?_
    refine h_val rfl (.slice (some ⟨g, (i + 1) * 1, none⟩) (l.length - i) (c - (i + 1))) (fun b w hb hH => e_sub_lo (i := (i + 1)) sl_string ((sub_at (by omega)).trans (by congr 1; omega)) (by omega) rfl rfl rfl hH hb) ?_
    refine h_val rfl (.bool false) (fun b w hb hH => exec_ext_at (by rw [run_callFunc_extern Try.func57 (by kernel_rfl) (by kernel_rfl) (by kernel_rfl) (e := Extern.SlicesOverlaps.overlaps #[65, 65] #[4]) (by kernel_rfl)]; show Result.andThen (Sem.run _ (Extern.SlicesOverlaps.overlaps _ _ #[_, _]) w) _ = _; rw [Hp.apart_rows sl_string (by simp) hH 1 0 (by decide) rfl rfl (by rw [hs]; omega)]; rfl) rfl rfl rfl hb) ?_
    refine h_q hflS rfl ?_
    refine h_done (d_then rfl (d_seq ?_))
    refine d_parS 9 1 [⟨.quiet, [none], fun _ => .slice (some ⟨g, 0, none⟩) (l.length + 1) c, []⟩, ⟨.quiet, [none], fun _ => .int .i64 (i : Int), []⟩, ⟨.quiet, [none], fun _ => .int .i64 1, []⟩, ⟨.quiet, [none], fun _ => .int .i64 ((i + 1 : Nat) : Int), [1, 2]⟩, ⟨.quiet, [none], fun _ => .slice (some ⟨g, (i + 1) * 1, none⟩) (l.length - i) (c - (i + 1)), [0, 3]⟩, ⟨.quiet, [none], fun _ => .slice (some ⟨g, 0, none⟩) (l.length + 1) c, []⟩, ⟨.quiet, [none], fun _ => .int .i64 (i : Int), []⟩, ⟨.quiet, [none], fun _ => subv 1 (.slice (some ⟨g, 0, none⟩) (l.length + 1) c) i (l.length + 1), [5, 6]⟩, ⟨.actv 0, [some false], fun _ => .int .i64 ((l.length - i : Nat) : Int), [4, 7]⟩] [(1, .int .i64 (i : Int)), (2, y), (6, .slice none 0 0), (7, .int .i64 1), (8, .int .i64 (l.length : Int)), (0, .slice (some ⟨g, 0, none⟩) (l.length + 1) c)] (fun ρ => match ρ with | [r0] => [selS r0 (fun _ => cell g 9 (over? cs.toList ((i + 1) * 1) (flat encS (l.drop i))).toArray) (cell g 9 cs), Vec 9 1 encS y ([x])] | _ => []) (by kernel_rfl) (by kernel_rfl) ⟨rfl, rfl, rfl, rfl, rfl, rfl, trivial⟩ rfl ?_ ?_
    · skip
      refine s_cons (by intro r0_; exact ⟨rfl, fun b w hH hb => exec_q1 hflS rfl hb⟩) ?_
      refine s_cons (by intro r0_; exact ⟨rfl, fun b w hH hb => exec_q1 hflS rfl hb⟩) ?_
      refine s_cons (by intro r0_; exact ⟨rfl, fun b w hH hb => exec_q1 hflS rfl hb⟩) ?_
      refine s_cons (by intro r0_; exact ⟨rfl, fun b w hH hb => exec_ar rfl rfl rfl rfl (by rw [IntWalk.i64_in _ (by omega)]; omega) hb⟩) ?_
      refine s_cons (by intro r0_; exact ⟨rfl, fun b w hH hb => e_sub_lo (i := (i + 1)) sl_string ((sub_at (by omega)).trans (by congr 1; omega)) (by omega) rfl rfl rfl hH hb⟩) ?_
      refine s_cons (by intro r0_; exact ⟨rfl, fun b w hH hb => exec_q1 hflS rfl hb⟩) ?_
      refine s_cons (by intro r0_; exact ⟨rfl, fun b w hH hb => exec_q1 hflS rfl hb⟩) ?_
      refine s_cons (by intro r0_; exact ⟨rfl, fun b w hH hb => e_sub_lo (i := i) sl_string rfl (by omega) rfl rfl rfl hH hb⟩) ?_
      refine s_cons (by exact ⟨rfl, Acts.su (a_copy 0 sl_string rfl (fun w hH => hH.rowsub 0 rfl (k := 1) (p := i) (q := l.length + 1) (m := l.length + 1) (c := c) (by omega) (by omega) rfl (by rw [hs]; exact Nat.le_refl _)) (q := l.length - i) (Nat.min_eq_right (by omega)) (zs := flat encS (l.drop i)) (by rw [List.take_take, Nat.min_eq_left (by omega)]; exact hd) (flat_one okS _) (by rw [hdl, hs]; omega) rfl rfl rfl rfl) rfl⟩) ?_
      exact s_nil
    intro v0_
    refine WL2.keep (env' := [(1, .int .i64 (i : Int)), (2, y), (6, .slice none 0 0), (7, .int .i64 1), (8, .int .i64 (l.length : Int)), (0, .slice (some ⟨g, 0, none⟩) (l.length + 1) c)]) ⟨rfl, rfl, rfl, rfl, rfl, rfl, trivial⟩ ?_
    refine h_nil (f_to (d_reg ?_))
    refine h_q hflS rfl ?_
    refine h_val rfl (.slice (some ⟨g, i * 1, none⟩) (l.length + 1 - i) (c - i)) (fun b w hb hH => e_sub_lo (i := i) sl_string (sub_at (by omega)) (by omega) rfl rfl rfl hH hb) ?_
    refine h_q hflS rfl ?_
    refine h_act (post := fun _ => [cell g 9 (over? (over? cs.toList ((i + 1) * 1) (flat encS (l.drop i))) (i * 1) (encS x)).toArray, Vec 9 1 encS y ([x])]) rfl (a_copy 0 sl_string rfl (fun w hH => hH.vec 1 rfl okS) (q := 1) (Nat.min_eq_left (by simp; omega)) (zs := encS x) (by simp [flat, encS]) (okS.one x) (fit_over (by rw [hdl, hsl]; omega) (by rw [hx1, hsl]; omega)) rfl rfl rfl rfl) ?_; rintro ⟨⟩
    refine h_done (d_reg ?_)
    refine h_q hflS rfl ?_
    refine h_done (d_ret (f_then_ret ?_))
    exact f_fin1 (.tmp rfl) (fun w h => tells (Value.slice (some ⟨g, 0, none⟩) (l.length + 1) c) rfl [0] rfl h (fun z hz => ⟨z, .refl _, Parts.one (vec_ahead (k := 1) (a := cs.toList) (i := i * 1) (x := encS x) (j := (i + 1) * 1) (d := flat encS (l.drop i)) hsl (by rw [hrl]) (by omega) hm (by rw [hx1]; omega) (by rw [hdl]; omega) (by rw [hres]; congr 2) hz)⟩)) rfl

theorem insert_string (v y : Value) (l : List (List UInt8)) (x : List UInt8) (i : Nat) (hi : i ≤ l.length) (hl : l.length ≤ 17179869184) : Does Try.prog 36 #[v, .int .i64 (i : Int), y] [Vec 9 1 encS v l, Vec 9 1 encS y [x]] (fun u : Value => u) (fun u : Value => [Vec 9 1 encS u (l.take i ++ x :: l.drop i)]) := by
  by_cases he : i = l.length
  · subst he
    have := insert_end_string v y l x hl
    simpa using this
  · intro w rs hp hr hd
    obtain ⟨r1, r2, e, hv, hy⟩ := hp
    rcases hv with ⟨_, h0, _⟩ | ⟨g, c, cs, hvv, hc, hm, hs, ht, hrr⟩
    · subst h0; exact absurd hi (by simp at he ⊢; omega)
    · subst hvv
      refine insert_mid_string g c cs y l x i (by omega) hl hc hm hs ht w rs ⟨r1, r2, e, hrr, hy⟩ hr hd

theorem delete_row_string (g c : Nat) (cs : Array Value) (l : List (List UInt8)) (i : Nat) (hi : i < l.length) (hl : l.length ≤ 17179869184) (hc : l.length ≤ c) (hm : c ≤ maxLen) (hs : cs.size = c * 1) (ht : cs.toList.take (l.length * 1) = flat encS l) : Does Try.prog 40 #[.slice (some ⟨g, 0, none⟩) l.length c, .int .i64 (i : Int), .int .i64 ((i + 1 : Nat) : Int)] [cell g 9 cs] (fun (u : Value) => u) (fun (u : Value) => [Vec 9 1 encS u (l.take i ++ l.drop (i + 1))]) := by
  have hm' : c ≤ 9223372036854775807 := by unfold maxLen at hm; exact hm
  have hd : (cs.toList.drop ((i + 1) * 1)).take ((l.length - (i + 1)) * 1) = flat encS (l.drop (i + 1)) := by
    rw [← flat_drop okS, ← ht, List.drop_take]; congr 1; omega
  have hd0 : cs.toList.take (0 + i * 1) = flat encS (l.take i) := by
    rw [← flat_take okS, ← ht, List.take_take]; congr 1; omega
  have hdl : (flat encS (l.drop (i + 1))).length = l.length - (i + 1) := by rw [flat_len okS, List.length_drop]; omega
  have hsl : cs.toList.length = c * 1 := by rw [Array.length_toList]; exact hs
  obtain ⟨q, hq⟩ : ∃ q, q = i + (l.length - (i + 1)) := ⟨_, rfl⟩
  refine d_ins (args := [.slice (some ⟨g, 0, none⟩) l.length c, .int .i64 (i : Int), .int .i64 ((i + 1 : Nat) : Int)]) 33 Try.func40 rfl rfl rfl ?_; intro w rs
  refine d_reg ?_
  refine h_q hflS rfl ?_
  refine h_done (d_reg ?_)
  refine h_q hflS rfl ?_
  refine h_val rfl (.int .i64 (l.length : Int)) (fun b w hb hH => e_len sl_string rfl rfl hH hb) ?_
  refine h_val rfl (subv 1 (.slice (some ⟨g, 0, none⟩) l.length l.length) i (i + 1)) (fun b w hb hH => e_sub3 sl_string (by omega) (by omega) hc rfl rfl rfl rfl rfl hH hb) ?_
  refine h_done (d_seq (d_reg ?_))
  refine h_q hflS rfl ?_
  refine h_val rfl (.bool false) (fun b w hb hH => exec_cmp rfl rfl rfl (cmp_eql_f (by omega)) hb) ?_
  refine h_done (d_else rfl (d_skip (f_to (d_reg ?_))))
  refine h_q hflS rfl ?_
  refine h_val rfl (.int .i64 (l.length : Int)) (fun b w hb hH => e_len sl_string rfl rfl hH hb) ?_
  refine h_q hflS rfl ?_
  refine h_done (d_seq ?_)
  refine d_parS 7 1 [⟨.quiet, [none], fun _ => .slice (some ⟨g, 0, none⟩) l.length c, []⟩, ⟨.quiet, [none], fun _ => .int .i64 (i : Int), []⟩, ⟨.quiet, [none], fun _ => .slice (some ⟨g, 0, none⟩) i c, [0, 1]⟩, ⟨.quiet, [none], fun _ => .slice (some ⟨g, 0, none⟩) l.length c, []⟩, ⟨.quiet, [none], fun _ => .int .i64 ((i + 1 : Nat) : Int), []⟩, ⟨.quiet, [none], fun _ => subv 1 (.slice (some ⟨g, 0, none⟩) l.length c) (i + 1) l.length, [3, 4]⟩, ⟨.actv 0, [some false], fun _ => .slice (some ⟨g, 0, none⟩) (i + (l.length - (i + 1))) c, [2, 5]⟩] [(0, .slice (some ⟨g, 0, none⟩) l.length c), (1, .int .i64 (i : Int)), (2, .int .i64 ((i + 1 : Nat) : Int)), (6, .slice none 0 0), (7, .int .i64 (l.length : Int))] (fun ρ => match ρ with | [r0] => [selS r0 (fun _ => cell g 9 (over? cs.toList (0 + i * 1) (flat encS (l.drop (i + 1)))).toArray) (cell g 9 cs)] | _ => []) (by kernel_rfl) (by kernel_rfl) ⟨rfl, rfl, rfl, rfl, rfl, trivial⟩ rfl ?_ ?_
  · skip
    refine s_cons (by intro r0_; exact ⟨rfl, fun b w hH hb => exec_q1 hflS rfl hb⟩) ?_
    refine s_cons (by intro r0_; exact ⟨rfl, fun b w hH hb => exec_q1 hflS rfl hb⟩) ?_
    refine s_cons (by intro r0_; exact ⟨rfl, fun b w hH hb => e_sub_hi (j := i) sl_string sub_0 (by omega) rfl rfl rfl hH hb⟩) ?_
    refine s_cons (by intro r0_; exact ⟨rfl, fun b w hH hb => exec_q1 hflS rfl hb⟩) ?_
    refine s_cons (by intro r0_; exact ⟨rfl, fun b w hH hb => exec_q1 hflS rfl hb⟩) ?_
    refine s_cons (by intro r0_; exact ⟨rfl, fun b w hH hb => e_sub_lo (i := (i + 1)) sl_string rfl (by omega) rfl rfl rfl hH hb⟩) ?_
    refine s_cons (by exact ⟨rfl, Acts.su (a_append_in 0 sl_string rfl (fun w hH => hH.rowsub 0 rfl (k := 1) (p := i + 1) (q := l.length) (m := l.length) (c := c) (by omega) hc hd (by rw [hs]; exact Nat.le_refl _)) (flat_one okS _) (by omega) (by rw [hdl, hs]; omega) rfl rfl rfl rfl) rfl⟩) ?_
    exact s_nil
  intro v0_
  refine WL2.keep (env' := [(0, .slice (some ⟨g, 0, none⟩) l.length c), (6, .slice none 0 0), (7, .int .i64 (l.length : Int)), (26, .slice (some ⟨g, 0, none⟩) (i + (l.length - (i + 1))) c)]) ⟨rfl, rfl, rfl, rfl, trivial⟩ ?_
  refine h_q hflS rfl ?_
  refine h_nil (f_to ?_)
  simp only [← hq]
  refine d_reg ?_
  refine h_q hflS rfl ?_
  refine h_val rfl (.int .i64 (q : Int)) (fun b w hb hH => e_len sl_string rfl rfl hH hb) ?_
  refine h_q hflS rfl ?_
  refine h_val rfl (.slice (some ⟨g, q * 1, none⟩) (l.length - q) (c - q)) (fun b w hb hH => e_sub (i := q) (j := l.length) sl_string (sub_at (by omega)) (by omega) hc rfl rfl rfl rfl hH hb) ?_
  refine h_acts rfl rfl (a_clear 0 sl_string rfl (by rw [List.size_toArray, over_len (by rw [hdl, hsl]; omega), hsl]; omega) rfl rfl rfl) ?_; rintro ⟨zs, hz⟩
  refine h_done (d_reg ?_)
  refine h_q hflS rfl ?_
  refine h_done (d_ret ?_)
  exact f_fin1 (.tmp rfl) (fun w h => tells (Value.slice (some ⟨g, 0, none⟩) q c) rfl [0] rfl h (fun z hz' => ⟨z, .refl _, Parts.one (vec_down (k := 1) (a := cs.toList) (i := 0 + i * 1) (x := flat encS (l.drop (i + 1))) (j := q * 1) (d := zs) hsl (by simp; omega) (by omega) hm (by rw [hdl]; omega) rfl (by rw [hz, hsl]; omega) (by rw [hd0, flat_app]) hz')⟩)) rfl

theorem delete_string (v : Value) (l : List (List UInt8)) (i : Nat) (hi : i < l.length) (hl : l.length ≤ 17179869184) : Does Try.prog 40 #[v, .int .i64 (i : Int), .int .i64 ((i + 1 : Nat) : Int)] [Vec 9 1 encS v l] (fun u : Value => u) (fun u : Value => [Vec 9 1 encS u (l.take i ++ l.drop (i + 1))]) := by
  intro w rs hp hr hd
  rcases hp.one' with ⟨_, h0, _⟩ | ⟨g, c, cs, hvv, hc, hm, hs, ht, hrr⟩
  · subst h0; exact absurd hi (by simp)
  · subst hvv
    exact delete_row_string g c cs l i hi hl hc hm hs ht w rs (Parts.one hrr) hr hd
end Go.Proofs.Ytmlfgdedhhmkpaa.Sep
