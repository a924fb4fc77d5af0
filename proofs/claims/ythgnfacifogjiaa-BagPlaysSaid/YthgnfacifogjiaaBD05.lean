/-
  TabI
-/
import Derived.Test.YthgnfacifogjiaaBD04
set_option linter.unusedSimpArgs false
set_option linter.unusedVariables false

namespace Go.Proofs.Ythgnfacifogjiaa.Sep
open Go.RowKit
open Go.Proofs.Ythgnfacifogjiaa.Mem (Dist Blk Chg below0)

theorem clone_int (X : Ass) (u : Value) (m : List (Int)) (hu : ∀ rs w, X rs → RowsOf w rs → SlRd w 1 u m.length (flat encI m)) (hl : m.length ≤ 17179869184) : Does Try.prog 34 #[u] [X] (fun (x : Value) => x) (fun (x : Value) => [X, Vec 3 1 encI x m]) := by
  refine Does.fact (p := ∃ A c, u = .slice A m.length c ∧ (A = none → m = [])) (fun w rs h1 h2 => by
    obtain ⟨A, c, e, hA⟩ := (hu rs w (Parts.one' h1) h2).2
    refine ⟨A, c, e, fun e => ?_⟩
    rcases hA with ⟨_, h⟩ | ⟨a, h, _⟩
    · exact List.length_eq_zero_iff.1 h
    · rw [e] at h; cases h) ?_
  rintro ⟨A, c, rfl, hA'⟩
  refine d_ins (args := [.slice A m.length c]) 8 Try.func34 rfl rfl rfl ?_; intro w rs
  refine d_reg ?_
  refine h_q hflS rfl ?_
  refine h_done (d_seq ?_)
  rcases A with _ | a
  · skip
    obtain rfl := hA' rfl
    refine d_nilvec 3 1 encI ?_
    refine d_reg ?_
    refine h_q hflS rfl ?_
    refine h_val rfl (.bool true) (fun b w hb hH => exec_snil_eql (A := none) Try.underlying37 rfl rfl rfl hb) ?_
    refine h_done (d_then rfl (d_reg ?_))
    refine h_q hflS rfl ?_
    refine h_done (d_ret (f_then_ret ?_))
    exact f_fin1 (.tmp rfl) (fun w h => tells (Value.slice none 0 0) rfl [1, 0] rfl h same_parts) rfl
  · skip
    refine d_reg ?_
    refine h_q hflS rfl ?_
    refine h_val rfl (.bool false) (fun b w hb hH => exec_snil_eql (A := some a) Try.underlying37 rfl rfl rfl hb) ?_
    refine h_done (d_else rfl (d_skip (f_to (d_reg ?_))))
    refine h_q hflS rfl ?_
    refine h_act (X := Value) (val := fun v : Value => v) (post := fun u1 => [Vec 3 1 encI u1 ([]), X]) rfl (by refine a_build0 (e := 3) (t := 37) (k := 1) (enc := encI) ?_ ?_; exact sl_int; exact rfl) ?_; rintro u1
    refine h_q hflS rfl ?_
    refine h_act (post := fun u2 => [Vec 3 1 encI u2 m, X]) rfl (a_append 0 sl_int okI rfl (m) (fun w hH => by obtain ⟨rs, h1, h2⟩ := hH.thing 1 rfl; exact hu rs w h1 h2) (by simp; omega) rfl rfl rfl (List.nil_append m)) ?_; rintro u2
    refine h_q hflS rfl ?_
    refine h_done (d_ret ?_)
    exact f_fin1 (.tmp rfl) (fun w h => tells u2 rfl [1, 0] rfl h same_parts) rfl

theorem delete_row_int (g c : Nat) (cs : Array Value) (l : List (Int)) (i : Nat) (hi : i < l.length) (hl : l.length ≤ 17179869184) (hc : l.length ≤ c) (hm : c ≤ maxLen) (hs : cs.size = c * 1) (ht : cs.toList.take (l.length * 1) = flat encI l) : Does Try.prog 32 #[.slice (some ⟨g, 0, none⟩) l.length c, .int .i64 (i : Int), .int .i64 ((i + 1 : Nat) : Int)] [cell g 3 cs] (fun (u : Value) => u) (fun (u : Value) => [Vec 3 1 encI u (l.take i ++ l.drop (i + 1))]) := by
  have hm' : c ≤ 9223372036854775807 := by unfold maxLen at hm; exact hm
  have hd : (cs.toList.drop ((i + 1) * 1)).take ((l.length - (i + 1)) * 1) = flat encI (l.drop (i + 1)) := by
    rw [← flat_drop okI, ← ht, List.drop_take]; congr 1; omega
  have hd0 : cs.toList.take (0 + i * 1) = flat encI (l.take i) := by
    rw [← flat_take okI, ← ht, List.take_take]; congr 1; omega
  have hdl : (flat encI (l.drop (i + 1))).length = l.length - (i + 1) := by rw [flat_len okI, List.length_drop]; omega
  have hsl : cs.toList.length = c * 1 := by rw [Array.length_toList]; exact hs
  obtain ⟨q, hq⟩ : ∃ q, q = i + (l.length - (i + 1)) := ⟨_, rfl⟩
  refine d_ins (args := [.slice (some ⟨g, 0, none⟩) l.length c, .int .i64 (i : Int), .int .i64 ((i + 1 : Nat) : Int)]) 33 Try.func32 rfl rfl rfl ?_; intro w rs
  refine d_reg ?_
  refine h_q hflS rfl ?_
  refine h_done (d_reg ?_)
  refine h_q hflS rfl ?_
  refine h_val rfl (.int .i64 (l.length : Int)) (fun b w hb hH => e_len sl_int rfl rfl hH hb) ?_
  refine h_val rfl (subv 1 (.slice (some ⟨g, 0, none⟩) l.length l.length) i (i + 1)) (fun b w hb hH => e_sub3 sl_int (by omega) (by omega) hc rfl rfl rfl rfl rfl hH hb) ?_
  refine h_done (d_seq (d_reg ?_))
  refine h_q hflS rfl ?_
  refine h_val rfl (.bool false) (fun b w hb hH => exec_cmp rfl rfl rfl (cmp_eql_f (by omega)) hb) ?_
  refine h_done (d_else rfl (d_skip (f_to (d_reg ?_))))
  refine h_q hflS rfl ?_
  refine h_val rfl (.int .i64 (l.length : Int)) (fun b w hb hH => e_len sl_int rfl rfl hH hb) ?_
  refine h_q hflS rfl ?_
  refine h_done (d_seq ?_)
  refine d_parS 7 1 [⟨.quiet, [none], fun _ => .slice (some ⟨g, 0, none⟩) l.length c, []⟩, ⟨.quiet, [none], fun _ => .int .i64 (i : Int), []⟩, ⟨.quiet, [none], fun _ => .slice (some ⟨g, 0, none⟩) i c, [0, 1]⟩, ⟨.quiet, [none], fun _ => .slice (some ⟨g, 0, none⟩) l.length c, []⟩, ⟨.quiet, [none], fun _ => .int .i64 ((i + 1 : Nat) : Int), []⟩, ⟨.quiet, [none], fun _ => subv 1 (.slice (some ⟨g, 0, none⟩) l.length c) (i + 1) l.length, [3, 4]⟩, ⟨.actv 0, [some false], fun _ => .slice (some ⟨g, 0, none⟩) (i + (l.length - (i + 1))) c, [2, 5]⟩] [(0, .slice (some ⟨g, 0, none⟩) l.length c), (1, .int .i64 (i : Int)), (2, .int .i64 ((i + 1 : Nat) : Int)), (6, .slice none 0 0), (7, .int .i64 (l.length : Int))] (fun ρ => match ρ with | [r0] => [selS r0 (fun _ => cell g 3 (over? cs.toList (0 + i * 1) (flat encI (l.drop (i + 1)))).toArray) (cell g 3 cs)] | _ => []) (by kernel_rfl) (by kernel_rfl) ⟨rfl, rfl, rfl, rfl, rfl, trivial⟩ rfl ?_ ?_
  · skip
    refine s_cons (by intro r0_; exact ⟨rfl, fun b w hH hb => exec_q1 hflS rfl hb⟩) ?_
    refine s_cons (by intro r0_; exact ⟨rfl, fun b w hH hb => exec_q1 hflS rfl hb⟩) ?_
    refine s_cons (by intro r0_; exact ⟨rfl, fun b w hH hb => e_sub_hi (j := i) sl_int sub_0 (by omega) rfl rfl rfl hH hb⟩) ?_
    refine s_cons (by intro r0_; exact ⟨rfl, fun b w hH hb => exec_q1 hflS rfl hb⟩) ?_
    refine s_cons (by intro r0_; exact ⟨rfl, fun b w hH hb => exec_q1 hflS rfl hb⟩) ?_
    refine s_cons (by intro r0_; exact ⟨rfl, fun b w hH hb => e_sub_lo (i := (i + 1)) sl_int rfl (by omega) rfl rfl rfl hH hb⟩) ?_
    refine s_cons (by exact ⟨rfl, Acts.su (a_append_in 0 sl_int rfl (fun w hH => hH.rowsub 0 rfl (k := 1) (p := i + 1) (q := l.length) (m := l.length) (c := c) (by omega) hc hd (by rw [hs]; exact Nat.le_refl _)) (flat_one okI _) (by omega) (by rw [hdl, hs]; omega) rfl rfl rfl rfl) rfl⟩) ?_
    exact s_nil
  intro v0_
  refine WL2.keep (env' := [(0, .slice (some ⟨g, 0, none⟩) l.length c), (6, .slice none 0 0), (7, .int .i64 (l.length : Int)), (26, .slice (some ⟨g, 0, none⟩) (i + (l.length - (i + 1))) c)]) ⟨rfl, rfl, rfl, rfl, trivial⟩ ?_
  refine h_q hflS rfl ?_
  refine h_nil (f_to ?_)
  simp only [← hq]
  refine d_reg ?_
  refine h_q hflS rfl ?_
  refine h_val rfl (.int .i64 (q : Int)) (fun b w hb hH => e_len sl_int rfl rfl hH hb) ?_
  refine h_q hflS rfl ?_
  refine h_val rfl (.slice (some ⟨g, q * 1, none⟩) (l.length - q) (c - q)) (fun b w hb hH => e_sub (i := q) (j := l.length) sl_int (sub_at (by omega)) (by omega) hc rfl rfl rfl rfl hH hb) ?_
  refine h_acts rfl rfl (a_clear 0 sl_int rfl (by rw [List.size_toArray, over_len (by rw [hdl, hsl]; omega), hsl]; omega) rfl rfl rfl) ?_; rintro ⟨zs, hz⟩
  refine h_done (d_reg ?_)
  refine h_q hflS rfl ?_
  refine h_done (d_ret ?_)
  exact f_fin1 (.tmp rfl) (fun w h => tells (Value.slice (some ⟨g, 0, none⟩) q c) rfl [0] rfl h (fun z hz' => ⟨z, .refl _, Parts.one (vec_down (k := 1) (a := cs.toList) (i := 0 + i * 1) (x := flat encI (l.drop (i + 1))) (j := q * 1) (d := zs) hsl (by simp; omega) (by omega) hm (by rw [hdl]; omega) rfl (by rw [hz, hsl]; omega) (by rw [hd0, flat_app]) hz')⟩)) rfl

theorem delete_int (v : Value) (l : List (Int)) (i : Nat) (hi : i < l.length) (hl : l.length ≤ 17179869184) : Does Try.prog 32 #[v, .int .i64 (i : Int), .int .i64 ((i + 1 : Nat) : Int)] [Vec 3 1 encI v l] (fun u : Value => u) (fun u : Value => [Vec 3 1 encI u (l.take i ++ l.drop (i + 1))]) := by
  intro w rs hp hr hd
  rcases hp.one' with ⟨_, h0, _⟩ | ⟨g, c, cs, hvv, hc, hm, hs, ht, hrr⟩
  · subst h0; exact absurd hi (by simp)
  · subst hvv
    exact delete_row_int g c cs l i hi hl hc hm hs ht w rs (Parts.one hrr) hr hd

theorem clone_string (X : Ass) (u : Value) (m : List (List UInt8)) (hu : ∀ rs w, X rs → RowsOf w rs → SlRd w 1 u m.length (flat encS m)) (hl : m.length ≤ 17179869184) : Does Try.prog 35 #[u] [X] (fun (x : Value) => x) (fun (x : Value) => [X, Vec 9 1 encS x m]) := by
  refine Does.fact (p := ∃ A c, u = .slice A m.length c ∧ (A = none → m = [])) (fun w rs h1 h2 => by
    obtain ⟨A, c, e, hA⟩ := (hu rs w (Parts.one' h1) h2).2
    refine ⟨A, c, e, fun e => ?_⟩
    rcases hA with ⟨_, h⟩ | ⟨a, h, _⟩
    · exact List.length_eq_zero_iff.1 h
    · rw [e] at h; cases h) ?_
  rintro ⟨A, c, rfl, hA'⟩
  refine d_ins (args := [.slice A m.length c]) 8 Try.func35 rfl rfl rfl ?_; intro w rs
  refine d_reg ?_
  refine h_q hflS rfl ?_
  refine h_done (d_seq ?_)
  rcases A with _ | a
  · skip
    obtain rfl := hA' rfl
    refine d_nilvec 9 1 encS ?_
    refine d_reg ?_
    refine h_q hflS rfl ?_
    refine h_val rfl (.bool true) (fun b w hb hH => exec_snil_eql (A := none) Try.underlying48 rfl rfl rfl hb) ?_
    refine h_done (d_then rfl (d_reg ?_))
    refine h_q hflS rfl ?_
    refine h_done (d_ret (f_then_ret ?_))
    exact f_fin1 (.tmp rfl) (fun w h => tells (Value.slice none 0 0) rfl [1, 0] rfl h same_parts) rfl
  · skip
    refine d_reg ?_
    refine h_q hflS rfl ?_
    refine h_val rfl (.bool false) (fun b w hb hH => exec_snil_eql (A := some a) Try.underlying48 rfl rfl rfl hb) ?_
    refine h_done (d_else rfl (d_skip (f_to (d_reg ?_))))
    refine h_q hflS rfl ?_
    refine h_act (X := Value) (val := fun v : Value => v) (post := fun u1 => [Vec 9 1 encS u1 ([]), X]) rfl (by refine a_build0 (e := 9) (t := 48) (k := 1) (enc := encS) ?_ ?_; exact sl_string; exact rfl) ?_; rintro u1
    refine h_q hflS rfl ?_
    refine h_act (post := fun u2 => [Vec 9 1 encS u2 m, X]) rfl (a_append 0 sl_string okS rfl (m) (fun w hH => by obtain ⟨rs, h1, h2⟩ := hH.thing 1 rfl; exact hu rs w h1 h2) (by simp; omega) rfl rfl rfl (List.nil_append m)) ?_; rintro u2
    refine h_q hflS rfl ?_
    refine h_done (d_ret ?_)
    exact f_fin1 (.tmp rfl) (fun w h => tells u2 rfl [1, 0] rfl h same_parts) rfl

theorem delete_row_string (g c : Nat) (cs : Array Value) (l : List (List UInt8)) (i : Nat) (hi : i < l.length) (hl : l.length ≤ 17179869184) (hc : l.length ≤ c) (hm : c ≤ maxLen) (hs : cs.size = c * 1) (ht : cs.toList.take (l.length * 1) = flat encS l) : Does Try.prog 30 #[.slice (some ⟨g, 0, none⟩) l.length c, .int .i64 (i : Int), .int .i64 ((i + 1 : Nat) : Int)] [cell g 9 cs] (fun (u : Value) => u) (fun (u : Value) => [Vec 9 1 encS u (l.take i ++ l.drop (i + 1))]) := by
  have hm' : c ≤ 9223372036854775807 := by unfold maxLen at hm; exact hm
  have hd : (cs.toList.drop ((i + 1) * 1)).take ((l.length - (i + 1)) * 1) = flat encS (l.drop (i + 1)) := by
    rw [← flat_drop okS, ← ht, List.drop_take]; congr 1; omega
  have hd0 : cs.toList.take (0 + i * 1) = flat encS (l.take i) := by
    rw [← flat_take okS, ← ht, List.take_take]; congr 1; omega
  have hdl : (flat encS (l.drop (i + 1))).length = l.length - (i + 1) := by rw [flat_len okS, List.length_drop]; omega
  have hsl : cs.toList.length = c * 1 := by rw [Array.length_toList]; exact hs
  obtain ⟨q, hq⟩ : ∃ q, q = i + (l.length - (i + 1)) := ⟨_, rfl⟩
  refine d_ins (args := [.slice (some ⟨g, 0, none⟩) l.length c, .int .i64 (i : Int), .int .i64 ((i + 1 : Nat) : Int)]) 33 Try.func30 rfl rfl rfl ?_; intro w rs
  refine d_reg ?_
  refine h_q hflS rfl ?_
  refine h_done (d_reg ?_)
  refine h_q hflS rfl ?_
  refine h_val rfl (.int .i64 (l.length : Int)) (fun b w hb hH => e_len sl_string rfl rfl hH hb) ?_
  refine h_val rfl (subv 1 (.slice (some ⟨g, 0, none⟩) l.length l.length) i (i + 1)) (fun b w hb hH => e_sub3 sl_string (by omega) (by omega) hc rfl rfl rfl rfl rfl hH hb) ?_
  refine h_done (d_seq (d_reg ?_))
  refine h_q hflS rfl ?_
  refine h_val rfl (.bool false) (fun b w hb hH => exec_cmp rfl rfl rfl (cmp_eql_f (by omega)) hb) ?_
  refine h_done (d_else rfl (d_skip (f_to (d_reg ?_))))
  refine h_q hflS rfl ?_
  refine h_val rfl (.int .i64 (l.length : Int)) (fun b w hb hH => e_len sl_string rfl rfl hH hb) ?_
  refine h_q hflS rfl ?_
  refine h_done (d_seq ?_)
  refine d_parS 7 1 [⟨.quiet, [none], fun _ => .slice (some ⟨g, 0, none⟩) l.length c, []⟩, ⟨.quiet, [none], fun _ => .int .i64 (i : Int), []⟩, ⟨.quiet, [none], fun _ => .slice (some ⟨g, 0, none⟩) i c, [0, 1]⟩, ⟨.quiet, [none], fun _ => .slice (some ⟨g, 0, none⟩) l.length c, []⟩, ⟨.quiet, [none], fun _ => .int .i64 ((i + 1 : Nat) : Int), []⟩, ⟨.quiet, [none], fun _ => subv 1 (.slice (some ⟨g, 0, none⟩) l.length c) (i + 1) l.length, [3, 4]⟩, ⟨.actv 0, [some false], fun _ => .slice (some ⟨g, 0, none⟩) (i + (l.length - (i + 1))) c, [2, 5]⟩] [(0, .slice (some ⟨g, 0, none⟩) l.length c), (1, .int .i64 (i : Int)), (2, .int .i64 ((i + 1 : Nat) : Int)), (6, .slice none 0 0), (7, .int .i64 (l.length : Int))] (fun ρ => match ρ with | [r0] => [selS r0 (fun _ => cell g 9 (over? cs.toList (0 + i * 1) (flat encS (l.drop (i + 1)))).toArray) (cell g 9 cs)] | _ => []) (by kernel_rfl) (by kernel_rfl) ⟨rfl, rfl, rfl, rfl, rfl, trivial⟩ rfl ?_ ?_
  · skip
    refine s_cons (by intro r0_; exact ⟨rfl, fun b w hH hb => exec_q1 hflS rfl hb⟩) ?_
    refine s_cons (by intro r0_; exact ⟨rfl, fun b w hH hb => exec_q1 hflS rfl hb⟩) ?_
    refine s_cons (by intro r0_; exact ⟨rfl, fun b w hH hb => e_sub_hi (j := i) sl_string sub_0 (by omega) rfl rfl rfl hH hb⟩) ?_
    refine s_cons (by intro r0_; exact ⟨rfl, fun b w hH hb => exec_q1 hflS rfl hb⟩) ?_
    refine s_cons (by intro r0_; exact ⟨rfl, fun b w hH hb => exec_q1 hflS rfl hb⟩) ?_
    refine s_cons (by intro r0_; exact ⟨rfl, fun b w hH hb => e_sub_lo (i := (i + 1)) sl_string rfl (by omega) rfl rfl rfl hH hb⟩) ?_
    refine s_cons (by exact ⟨rfl, Acts.su (a_append_in 0 sl_string rfl (fun w hH => hH.rowsub 0 rfl (k := 1) (p := i + 1) (q := l.length) (m := l.length) (c := c) (by omega) hc hd (by rw [hs]; exact Nat.le_refl _)) (flat_one okS _) (by omega) (by rw [hdl, hs]; omega) rfl rfl rfl rfl) rfl⟩) ?_
    exact s_nil
  intro v0_
  refine WL2.keep (env' := [(0, .slice (some ⟨g, 0, none⟩) l.length c), (6, .slice none 0 0), (7, .int .i64 (l.length : Int)), (26, .slice (some ⟨g, 0, none⟩) (i + (l.length - (i + 1))) c)]) ⟨rfl, rfl, rfl, rfl, trivial⟩ ?_
  refine h_q hflS rfl ?_
  refine h_nil (f_to ?_)
  simp only [← hq]
  refine d_reg ?_
  refine h_q hflS rfl ?_
  refine h_val rfl (.int .i64 (q : Int)) (fun b w hb hH => e_len sl_string rfl rfl hH hb) ?_
  refine h_q hflS rfl ?_
  refine h_val rfl (.slice (some ⟨g, q * 1, none⟩) (l.length - q) (c - q)) (fun b w hb hH => e_sub (i := q) (j := l.length) sl_string (sub_at (by omega)) (by omega) hc rfl rfl rfl rfl hH hb) ?_
  refine h_acts rfl rfl (a_clear 0 sl_string rfl (by rw [List.size_toArray, over_len (by rw [hdl, hsl]; omega), hsl]; omega) rfl rfl rfl) ?_; rintro ⟨zs, hz⟩
  refine h_done (d_reg ?_)
  refine h_q hflS rfl ?_
  refine h_done (d_ret ?_)
  exact f_fin1 (.tmp rfl) (fun w h => tells (Value.slice (some ⟨g, 0, none⟩) q c) rfl [0] rfl h (fun z hz' => ⟨z, .refl _, Parts.one (vec_down (k := 1) (a := cs.toList) (i := 0 + i * 1) (x := flat encS (l.drop (i + 1))) (j := q * 1) (d := zs) hsl (by simp; omega) (by omega) hm (by rw [hdl]; omega) rfl (by rw [hz, hsl]; omega) (by rw [hd0, flat_app]) hz')⟩)) rfl

theorem delete_string (v : Value) (l : List (List UInt8)) (i : Nat) (hi : i < l.length) (hl : l.length ≤ 17179869184) : Does Try.prog 30 #[v, .int .i64 (i : Int), .int .i64 ((i + 1 : Nat) : Int)] [Vec 9 1 encS v l] (fun u : Value => u) (fun u : Value => [Vec 9 1 encS u (l.take i ++ l.drop (i + 1))]) := by
  intro w rs hp hr hd
  rcases hp.one' with ⟨_, h0, _⟩ | ⟨g, c, cs, hvv, hc, hm, hs, ht, hrr⟩
  · subst h0; exact absurd hi (by simp)
  · subst hvv
    exact delete_row_string g c cs l i hi hl hc hm hs ht w rs (Parts.one hrr) hr hd
end Go.Proofs.Ythgnfacifogjiaa.Sep
