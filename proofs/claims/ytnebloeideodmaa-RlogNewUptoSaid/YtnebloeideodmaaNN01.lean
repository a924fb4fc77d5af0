/-
  RlZ · RlAa · RlAb
-/
import Derived.Test.YtnebloeideodmaaNL01
import Derived.Test.YtnebloeideodmaaNM01
set_option linter.unusedSimpArgs false
set_option linter.unusedVariables false

namespace Go.Proofs.Ytnebloeideodmaa.Sep
open Go.RowKit
open Go.Proofs.Ytnebloeideodmaa.Mem (Dist Blk Chg below0)

theorem enT_nil : EnT (.slice none 0 0) [] [] := ⟨[], rfl, entsT_nil⟩
theorem sub_mid5 {A : Option Addr} {c q m : Nat} {l : List EntV} (h : q + m ≤ l.length) : subv 5 (.slice A l.length c) q (q + m) = .slice (lowA A c q) ((l.drop q).take m).length (c - q) := by
  rw [List.length_take, List.length_drop, Nat.min_eq_left (by omega)]
  show Value.slice (if c = q then A else A.map (·.add (q * 5))) (q + m - q) (c - q) = .slice (if c = q then A else A.map (·.add (q * 5))) m (c - q)
  rw [show q + m - q = m by omega]
theorem ents_mid {w : World} {A : Option Addr} {c q m : Nat} {l : List EntV} (h : EntsRd w (.slice A l.length c) l) (hq : q + m ≤ l.length) (hc : l.length ≤ c) : EntsRd w (.slice (lowA A c q) ((l.drop q).take m).length (c - q)) ((l.drop q).take m) :=
  ents_hi (ents_lo h (by omega) hc) (by rw [List.length_drop]; omega)

set_option maxRecDepth 100000 in
theorem r_entries (g : Nat) (bi bt bc : Int) (es : List EntD) (hI : InvL bi bt es) (A : Option Addr) (c : Nat) (L : List EntV) (hL : L.map (·.e) = es) (hd : ∀ x, x ∈ L → x.e.d.length ≤ 140737488351232) (hcp : L.length ≤ c) (hes : es.length * 56 ≤ 140737488351232) (x most : Int) (hx : 0 ≤ x ∧ x ≤ 18446744073709551615) (hmo : -9223372036854775808 ≤ most ∧ most ≤ 9223372036854775807) (l0 : List EntD) (hl0 : partM bi es x most = l0) : Does Try.prog 48 #[.pointer (some ⟨g, 0, none⟩), .int .u64 x, .int .i64 most] [cell g 74 #[.int .u64 bi, .int .u64 bt, .int .i64 bc, .slice A L.length c], Vec 32 5 encV (.slice A L.length c) L, Each dat L] (fun (ev : Value) => ev) (fun (ev : Value) => [cell g 74 #[.int .u64 bi, .int .u64 bt, .int .i64 bc, .slice A L.length c], Vec 32 5 encV (.slice A L.length c) L, Each dat L, EnT ev l0]) := by
  have hb0 := hI.hi
  have ht0 := hI.ht
  have hle0 := hI.len
  have hm0 : (es.length : Int) ≤ 72057594037927935 := by omega
  have hls : 0 ≤ bi ∧ 0 ≤ (es.length : Int) ∧ bi + (es.length : Int) ≤ 9223372036854775807 := by omega
  have hLl : L.length = es.length := by rw [← hL, List.length_map]
  refine d_ins (args := [.pointer (some ⟨g, 0, none⟩), .int .u64 x, .int .i64 most]) 52 Try.func48 rfl rfl rfl ?_; intro w rs
  refine d_reg ?_
  refine h_q hflS rfl ?_
  refine h_done (d_seq ?_)
  rcases (show x ≤ bi ∨ (bi < x ∧ bi + (es.length : Int) < x) ∨ (bi < x ∧ x ≤ bi + (es.length : Int) ∧ most ≤ 0) ∨ (bi < x ∧ x ≤ bi + (es.length : Int) ∧ 0 < most) by omega) with hn | ⟨hn, hn2⟩ | ⟨hn, hn2, hn3⟩ | ⟨hn, hn2, hn3⟩
  · skip
    obtain rfl : [] = l0 := by rw [← hl0]; unfold partM; rw [if_pos (by omega)]
    refine d_reg ?_
    refine h_q hflS rfl ?_
    refine h_val rfl (.pointer (some ⟨g, 0, none⟩)) (fun b w hb hH => by exact exec_nilCheck rfl rfl hb) ?_
    refine h_q hflS rfl ?_
    refine h_val rfl (.int .u64 bi) (fun b w hb hH => exec_load rfl rfl (reads_one ty_uint64 rfl) (hH.row 0 rfl) hb) ?_
    refine h_val rfl (.bool true) (fun b w hb hH => exec_cmp rfl rfl rfl (cmp_leq_t (by omega)) hb) ?_
    refine h_q hflS rfl ?_
    refine h_done (d_then rfl ?_)
    refine d_new (t := EnT (.slice none 0 0) ([])) (enT_nil) ?_
    refine d_reg ?_
    refine h_q hflS rfl ?_
    refine h_done (d_ret (f_then_ret ?_))
    exact f_fin1 (.tmp rfl) (fun w h => tells (.slice none 0 0) rfl [1, 2, 3, 0] rfl h same_parts) rfl
  · skip
    obtain rfl : [] = l0 := by rw [← hl0]; unfold partM; split; rfl; rw [show upM bi es.length (x - 1) = es.length by unfold upM; omega, List.drop_length, List.take_nil]
    refine d_reg ?_
    refine h_q hflS rfl ?_
    refine h_val rfl (.pointer (some ⟨g, 0, none⟩)) (fun b w hb hH => by exact exec_nilCheck rfl rfl hb) ?_
    refine h_q hflS rfl ?_
    refine h_val rfl (.int .u64 bi) (fun b w hb hH => exec_load rfl rfl (reads_one ty_uint64 rfl) (hH.row 0 rfl) hb) ?_
    refine h_val rfl (.bool false) (fun b w hb hH => exec_cmp rfl rfl rfl (cmp_leq_f (by omega)) hb) ?_
    refine h_q hflS rfl ?_
    refine h_act (post := fun _ => [cell g 74 #[.int .u64 bi, .int .u64 bt, .int .i64 bc, .slice A L.length c], Vec 32 5 encV (.slice A L.length c) L, Each dat L]) rfl (a_does (os' := fun _ => [cell g 74 #[.int .u64 bi, .int .u64 bt, .int .i64 bc, .slice A L.length c], Vec 32 5 encV (.slice A L.length c) L, Each dat L]) [0, 1] 0 (ent_of Try.func42 (by kernel_rfl) rfl) (r_last g bi bt bc es hI A c L hL ) rfl rfl rfl (fun _ => rfl) rfl rfl rfl) ?_; rintro ⟨⟩
    refine h_val rfl (.bool true) (fun b w hb hH => exec_cmp rfl rfl rfl (cmp_gtr_t (by omega)) hb) ?_
    refine h_q hflS rfl ?_
    refine h_done (d_then rfl ?_)
    refine d_new (t := EnT (.slice none 0 0) ([])) (enT_nil) ?_
    refine d_reg ?_
    refine h_q hflS rfl ?_
    refine h_done (d_ret (f_then_ret ?_))
    exact f_fin1 (.tmp rfl) (fun w h => tells (.slice none 0 0) rfl [1, 2, 3, 0] rfl h same_parts) rfl
  · skip
    obtain rfl : [] = l0 := by rw [← hl0]; unfold partM; rw [if_pos (by omega)]
    refine d_reg ?_
    refine h_q hflS rfl ?_
    refine h_val rfl (.pointer (some ⟨g, 0, none⟩)) (fun b w hb hH => by exact exec_nilCheck rfl rfl hb) ?_
    refine h_q hflS rfl ?_
    refine h_val rfl (.int .u64 bi) (fun b w hb hH => exec_load rfl rfl (reads_one ty_uint64 rfl) (hH.row 0 rfl) hb) ?_
    refine h_val rfl (.bool false) (fun b w hb hH => exec_cmp rfl rfl rfl (cmp_leq_f (by omega)) hb) ?_
    refine h_q hflS rfl ?_
    refine h_act (post := fun _ => [cell g 74 #[.int .u64 bi, .int .u64 bt, .int .i64 bc, .slice A L.length c], Vec 32 5 encV (.slice A L.length c) L, Each dat L]) rfl (a_does (os' := fun _ => [cell g 74 #[.int .u64 bi, .int .u64 bt, .int .i64 bc, .slice A L.length c], Vec 32 5 encV (.slice A L.length c) L, Each dat L]) [0, 1] 0 (ent_of Try.func42 (by kernel_rfl) rfl) (r_last g bi bt bc es hI A c L hL ) rfl rfl rfl (fun _ => rfl) rfl rfl rfl) ?_; rintro ⟨⟩
    refine h_val rfl (.bool false) (fun b w hb hH => exec_cmp rfl rfl rfl (cmp_gtr_f (by omega)) hb) ?_
    refine h_q hflS rfl ?_
    refine h_val rfl (.bool true) (fun b w hb hH => exec_cmp rfl rfl rfl (cmp_leq_t (by omega)) hb) ?_
    refine h_q hflS rfl ?_
    refine h_done (d_then rfl ?_)
    refine d_new (t := EnT (.slice none 0 0) ([])) (enT_nil) ?_
    refine d_reg ?_
    refine h_q hflS rfl ?_
    refine h_done (d_ret (f_then_ret ?_))
    exact f_fin1 (.tmp rfl) (fun w h => tells (.slice none 0 0) rfl [1, 2, 3, 0] rfl h same_parts) rfl
  · skip
    obtain ⟨q, hq⟩ : ∃ q, upM bi es.length (x - 1) = q := ⟨_, rfl⟩
    have hq2 : x - bi - 1 = (q : Int) := by unfold upM at hq; omega
    have hql : q ≤ L.length := by omega
    obtain ⟨m, hm⟩ : ∃ m, min most.toNat (L.length - q) = m := ⟨_, rfl⟩
    have hqm : q + m ≤ L.length := by omega
    have hlq : ((L.drop q).take m).map (·.e) = l0 := by rw [← hl0]; unfold partM; rw [if_neg (by omega), hq, ← hm, take_min_ (by rw [List.length_drop]), List.map_take, List.map_drop, hL]
    have hmd : ∀ x, x ∈ (L.drop q).take m → x.e.d.length ≤ 140737488351232 := fun x hx => hd x (List.mem_of_mem_drop (List.mem_of_mem_take hx))
    have hlm : ((L.drop q).take m).length * 56 ≤ 140737488351232 := by rw [List.length_take, List.length_drop]; omega
    refine d_reg ?_
    refine h_q hflS rfl ?_
    refine h_val rfl (.pointer (some ⟨g, 0, none⟩)) (fun b w hb hH => by exact exec_nilCheck rfl rfl hb) ?_
    refine h_q hflS rfl ?_
    refine h_val rfl (.int .u64 bi) (fun b w hb hH => exec_load rfl rfl (reads_one ty_uint64 rfl) (hH.row 0 rfl) hb) ?_
    refine h_val rfl (.bool false) (fun b w hb hH => exec_cmp rfl rfl rfl (cmp_leq_f (by omega)) hb) ?_
    refine h_q hflS rfl ?_
    refine h_act (post := fun _ => [cell g 74 #[.int .u64 bi, .int .u64 bt, .int .i64 bc, .slice A L.length c], Vec 32 5 encV (.slice A L.length c) L, Each dat L]) rfl (a_does (os' := fun _ => [cell g 74 #[.int .u64 bi, .int .u64 bt, .int .i64 bc, .slice A L.length c], Vec 32 5 encV (.slice A L.length c) L, Each dat L]) [0, 1] 0 (ent_of Try.func42 (by kernel_rfl) rfl) (r_last g bi bt bc es hI A c L hL ) rfl rfl rfl (fun _ => rfl) rfl rfl rfl) ?_; rintro ⟨⟩
    refine h_val rfl (.bool false) (fun b w hb hH => exec_cmp rfl rfl rfl (cmp_gtr_f (by omega)) hb) ?_
    refine h_q hflS rfl ?_
    refine h_val rfl (.bool false) (fun b w hb hH => exec_cmp rfl rfl rfl (cmp_leq_f (by omega)) hb) ?_
    refine h_q hflS rfl ?_
    refine h_done (d_else rfl (d_skip (f_to (d_reg ?_))))
    refine h_q hflS rfl ?_
    refine h_val rfl (.pointer (some ⟨g, 0, none⟩)) (fun b w hb hH => by exact exec_nilCheck rfl rfl hb) ?_
    refine h_q hflS rfl ?_
    refine h_val rfl (.int .u64 bi) (fun b w hb hH => exec_load rfl rfl (reads_one ty_uint64 rfl) (hH.row 0 rfl) hb) ?_
    refine h_val rfl (.int .u64 (x - bi)) (fun b w hb hH => exec_ar rfl rfl rfl rfl (IntWalk.u64_in _ (by omega)) hb) ?_
    refine h_val rfl (.int .u64 (q : Int)) (fun b w hb hH => exec_ar rfl rfl rfl rfl (by rw [IntWalk.u64_in _ (by omega)]; omega) hb) ?_
    refine h_val rfl (.int .i64 (q : Int)) (fun b w hb hH => exec_conv Try.underlying26 Try.underlying3 (by rw [IntWalk.i64_in _ (by omega)]) rfl rfl hb) ?_
    refine h_q hflS rfl ?_
    refine h_done (d_seq ?_)
    refine d_emps 1 rfl ?_
    refine d_parS 18 1 [⟨.quiet, [none], fun _ => .pointer (some ⟨g, 0, none⟩), []⟩, ⟨.quiet, [none], fun _ => .pointer (some ⟨g, 0, none⟩), [0]⟩, ⟨.quiet, [none], fun _ => .pointer (some ⟨g, 3, none⟩), [1]⟩, ⟨.quiet, [none], fun _ => .slice A L.length c, [2]⟩, ⟨.quiet, [none], fun _ => .int .i64 (q : Int), []⟩, ⟨.quiet, [none], fun _ => .int .i64 (q : Int), []⟩, ⟨.quiet, [none], fun _ => .int .i64 most, []⟩, ⟨.quiet, [none], fun _ => .pointer (some ⟨g, 0, none⟩), []⟩, ⟨.quiet, [none], fun _ => .pointer (some ⟨g, 0, none⟩), [7]⟩, ⟨.quiet, [none], fun _ => .pointer (some ⟨g, 3, none⟩), [8]⟩, ⟨.quiet, [none], fun _ => .slice A L.length c, [9]⟩, ⟨.quiet, [none], fun _ => .int .i64 (L.length : Int), [10]⟩, ⟨.quiet, [none], fun _ => .int .i64 (q : Int), []⟩, ⟨.quiet, [none], fun _ => .int .i64 ((L.length - q : Nat) : Int), [11, 12]⟩, ⟨.quiet, [none], fun _ => .int .i64 (m : Int), [6, 13]⟩, ⟨.quiet, [none], fun _ => .int .i64 ((q + m : Nat) : Int), [5, 14]⟩, ⟨.quiet, [none], fun _ => .slice (lowA A c q) ((L.drop q).take m).length (c - q), [3, 4, 15]⟩, ⟨.act 0, [some false], fun _ => undef, [16]⟩] [(0, .pointer (some ⟨g, 0, none⟩)), (2, .int .i64 most), (6, .slice none 0 0), (7, .int .i64 (q : Int))] (fun ρ => match ρ with | [rq0] => [selS rq0 (fun ev => EnT ev l0) (emp), cell g 74 #[.int .u64 bi, .int .u64 bt, .int .i64 bc, .slice A L.length c], Vec 32 5 encV (.slice A L.length c) L, Each dat L] | _ => []) (by kernel_rfl) (by kernel_rfl) ⟨rfl, rfl, rfl, rfl, trivial⟩ rfl ?_ ?_
    · skip
      refine s_cons (by intro r0_; exact ⟨rfl, fun b w hH hb => exec_q1 hflS rfl hb⟩) ?_
      refine s_cons (by intro r0_; exact ⟨rfl, fun b w hH hb => by exact exec_nilCheck rfl rfl hb⟩) ?_
      refine s_cons (by intro r0_; exact ⟨rfl, fun b w hH hb => exec_q1 hflS rfl hb⟩) ?_
      refine s_cons (by intro r0_; exact ⟨rfl, fun b w hH hb => exec_load rfl rfl (reads_one ty_s_api_Entry rfl) (hH.row 1 rfl) hb⟩) ?_
      refine s_cons (by intro r0_; exact ⟨rfl, fun b w hH hb => exec_q1 hflS rfl hb⟩) ?_
      refine s_cons (by intro r0_; exact ⟨rfl, fun b w hH hb => exec_q1 hflS rfl hb⟩) ?_
      refine s_cons (by intro r0_; exact ⟨rfl, fun b w hH hb => exec_q1 hflS rfl hb⟩) ?_
      refine s_cons (by intro r0_; exact ⟨rfl, fun b w hH hb => exec_q1 hflS rfl hb⟩) ?_
      refine s_cons (by intro r0_; exact ⟨rfl, fun b w hH hb => by exact exec_nilCheck rfl rfl hb⟩) ?_
      refine s_cons (by intro r0_; exact ⟨rfl, fun b w hH hb => exec_q1 hflS rfl hb⟩) ?_
      refine s_cons (by intro r0_; exact ⟨rfl, fun b w hH hb => exec_load rfl rfl (reads_one ty_s_api_Entry rfl) (hH.row 1 rfl) hb⟩) ?_
      refine s_cons (by intro r0_; exact ⟨rfl, fun b w hH hb => e_len sl_api_Entry rfl rfl hH hb⟩) ?_
      refine s_cons (by intro r0_; exact ⟨rfl, fun b w hH hb => exec_q1 hflS rfl hb⟩) ?_
      refine s_cons (by intro r0_; exact ⟨rfl, fun b w hH hb => exec_ar rfl rfl rfl rfl (by rw [IntWalk.i64_in _ (by omega)]; omega) hb⟩) ?_
      refine s_cons (by intro r0_; exact ⟨rfl, fun b w hH hb => exec_builtin2 rfl rfl (fun cs => (fun w cs => run_min2 (by omega) _ _ w cs) w cs) hb⟩) ?_
      refine s_cons (by intro r0_; exact ⟨rfl, fun b w hH hb => exec_ar rfl rfl rfl rfl (by rw [IntWalk.i64_in _ (by omega)]; omega) hb⟩) ?_
      refine s_cons (by intro r0_; exact ⟨rfl, fun b w hH hb => e_sub (i := q) (j := (q + m)) sl_api_Entry (sub_mid5 hqm) (by omega) (by omega) rfl rfl rfl rfl hH hb⟩) ?_
      refine s_cons (by exact ⟨rfl, Acts.s (a_makes (os' := fun ev => [EnT ev l0, cell g 74 #[.int .u64 bi, .int .u64 bt, .int .i64 bc, .slice A L.length c], Vec 32 5 encV (.slice A L.length c) L, Each dat L]) [0] 1 (ent_of Try.func39 (by kernel_rfl) rfl) (fun w hH => copy_v w (.slice (lowA A c q) ((L.drop q).take m).length (c - q)) ((L.drop q).take m) (ents_mid (own_rd 2 3 rfl rfl hH) hqm hcp) hlm hmd l0 hlq) rfl rfl rfl (fun _ => rfl) rfl rfl rfl) (fun _ => rfl)⟩) ?_
      exact s_nil
    intro ev
    refine WL2.keep (env' := [(6, .slice none 0 0), (51, ev)]) ⟨rfl, rfl, trivial⟩ ?_
    refine h_q hflS rfl ?_
    refine h_nil (f_to (d_ret ?_))
    exact f_fin1 (.tmp rfl) (fun w h => tells ev rfl [1, 2, 3, 0] rfl h same_parts) rfl
end Go.Proofs.Ytnebloeideodmaa.Sep

namespace Go.Proofs.Ytnebloeideodmaa.Sep
open Go.RowKit
open Go.Proofs.Ytnebloeideodmaa.Mem (Dist Blk Chg below0)

set_option maxRecDepth 100000 in
theorem r_follow (X : Ass) (A : Option Addr) (c : Nat) (l : List EntV) (hX : RdEs X (.slice A l.length c) l) (hl : l.length ≤ 9223372036854775807) (ix tm : Int) (h1 : 0 ≤ ix ∧ ix ≤ 18446744073709551615) (h2 : 0 ≤ tm ∧ tm ≤ 18446744073709551615) (b : Bool) (hb : folB ix tm (l.map (·.e)) = b) : Does Try.prog 41 #[.int .u64 ix, .int .u64 tm, .slice A l.length c] [X] (fun (_ : Unit) => .bool b) (fun (_ : Unit) => [X]) := by
  refine d_ins (args := [.int .u64 ix, .int .u64 tm, .slice A l.length c]) 47 Try.func41 rfl rfl rfl ?_; intro w rs
  refine d_reg ?_
  refine h_q hflS rfl ?_
  refine h_done (d_seq (d_reg ?_))
  refine h_q hflS rfl ?_
  refine h_done (d_block ?_)
  refine d_loop (α := Nat × Int × Int) (fun ⟨j, i, y⟩ => [(0, .int .u64 ix), (1, .int .u64 y), (2, .slice A l.length c), (6, .bool false), (7, .int .i64 (j : Int))]) (fun ⟨j, i, y⟩ => [X]) (fun ⟨j, i, y⟩ => j ≤ l.length ∧ i = (ix + (j : Int)) % 18446744073709551616 ∧ folB i y ((l.drop j).map (·.e)) = b) (fun ⟨j, i, y⟩ => l.length - j) (0, ix, tm) ⟨Nat.zero_le _, (by show ix = (ix + ((0 : Nat) : Int)) % _; omega), hb⟩ ⟨rfl, rfl, rfl, rfl, rfl, trivial⟩ rfl ?_
  rintro ⟨j, i, y⟩ hI
  refine WC2.at_ (env' := [(0, .int .u64 ix), (1, .int .u64 y), (2, .slice A l.length c), (6, .bool false), (7, .int .i64 (j : Int))]) (rs' := [X]) ⟨rfl, rfl, rfl, rfl, rfl, trivial⟩ rfl ?_
  have hI1 : j ≤ l.length := hI.1
  have hI2 : i = (ix + (j : Int)) % 18446744073709551616 := hI.2.1
  have hI3 : folB i y ((l.drop j).map (·.e)) = b := hI.2.2
  refine d_seq ?_
  rcases Nat.lt_or_ge j l.length with hn | hn
  · skip
    obtain ⟨x, hx⟩ : ∃ x, l[j]? = some x := ⟨_, List.getElem?_eq_getElem hn⟩
    have hm := List.mem_of_getElem? hx
    have hdr : (l.drop j).map (·.e) = x.e :: (l.drop (j + 1)).map (·.e) := by rw [List.drop_eq_getElem_cons hn, (List.getElem?_eq_some_iff.1 hx).2]; rfl
    obtain ⟨a1, ha1, ha2⟩ := wrap_u64 (z := ix + 1)
    obtain ⟨ai, hai, hai2⟩ := wrap_u64 (z := a1 + (j : Int))
    refine d_reg ?_
    refine h_q hflS rfl ?_
    refine h_val rfl (.int .i64 (l.length : Int)) (fun b w hb hH => e_slen (((hH.rdEs 0 rfl hX).1)) Try.underlying34 rfl rfl hb) ?_
    refine h_val rfl (.bool true) (fun b w hb hH => exec_cmp rfl rfl rfl (cmp_lss_t (by omega)) hb) ?_
    refine h_done (d_then rfl (d_skip (f_to (d_seq (d_block (d_seq ?_))))))
    cases hr : rightE x.e
    rotate_left
    have hr2 := (rightE_iff hr).2.1
    by_cases he : x.e.i = i + 1
    rcases Int.lt_or_le x.e.t y with ht | ht
    · skip
      obtain rfl : false = b := by rw [← hI3, hdr, folB_cons]; rw [decide_eq_false (by omega : ¬ y ≤ x.e.t)]; simp
      refine d_reg ?_
      refine h_q hflS rfl ?_
      refine h_val rfl (elp (.slice A l.length c) (j * 5)) (fun b w hb hH => e_sidx okV (((hH.rdEs 0 rfl hX).1)) sl_api_Entry (j := j) hx rfl rfl rfl hb) ?_
      refine h_val rfl (.agg (encV x).toArray) (fun b w hb hH => e_sagg okV (by decide) (((hH.rdEs 0 rfl hX).1)) (j := j) hx ty_api_Entry rfl rfl hb) ?_
      refine h_act (post := fun _ => [X]) rfl (a_call (ent_of Try.func67 (by kernel_rfl) rfl) (fun w hH => rrightE_any w x ((hH.rdEs 0 rfl hX).2 x hm) true hr) rfl rfl rfl) ?_; rintro ⟨⟩
      refine h_q hflS rfl ?_
      refine h_val rfl (elp (.slice A l.length c) (j * 5)) (fun b w hb hH => e_sidx okV (((hH.rdEs 0 rfl hX).1)) sl_api_Entry (j := j) hx rfl rfl rfl hb) ?_
      refine h_val rfl (elp (.slice A l.length c) (j * 5 + 2)) (fun b w hb hH => e_sfield okV (by decide) (((hH.rdEs 0 rfl hX).1)) (j := j) hx fd_api_Entry_2 rfl rfl hb) ?_
      refine h_val rfl (.int .u64 x.e.i) (fun b w hb hH => e_sload okV (by decide) (((hH.rdEs 0 rfl hX).1)) (j := j) hx ty_uint64 (off := 2) rfl rfl rfl hb) ?_
      refine h_q hflS rfl ?_
      refine h_val rfl (.int .u64 a1) (fun b w hb hH => exec_ar rfl rfl rfl rfl ha1 hb) ?_
      refine h_q hflS rfl ?_
      refine h_val rfl (.int .u64 (j : Int)) (fun b w hb hH => exec_conv Try.underlying3 Try.underlying26 (by rw [IntWalk.u64_in _ (by omega)]) rfl rfl hb) ?_
      refine h_val rfl (.int .u64 ai) (fun b w hb hH => exec_ar rfl rfl rfl rfl hai hb) ?_
      refine h_val rfl (.bool false) (fun b w hb hH => exec_cmp rfl rfl rfl (cmp_neq_f (by omega)) hb) ?_
      refine h_q hflS rfl ?_
      refine h_val rfl (elp (.slice A l.length c) (j * 5)) (fun b w hb hH => e_sidx okV (((hH.rdEs 0 rfl hX).1)) sl_api_Entry (j := j) hx rfl rfl rfl hb) ?_
      refine h_val rfl (elp (.slice A l.length c) (j * 5 + 1)) (fun b w hb hH => e_sfield okV (by decide) (((hH.rdEs 0 rfl hX).1)) (j := j) hx fd_api_Entry_1 rfl rfl hb) ?_
      refine h_val rfl (.int .u64 x.e.t) (fun b w hb hH => e_sload okV (by decide) (((hH.rdEs 0 rfl hX).1)) (j := j) hx ty_uint64 (off := 1) rfl rfl rfl hb) ?_
      refine h_q hflS rfl ?_
      refine h_val rfl (.bool true) (fun b w hb hH => exec_cmp rfl rfl rfl (cmp_lss_t (by omega)) hb) ?_
      refine h_q hflS rfl ?_
      refine h_done (d_then rfl (d_reg ?_))
      refine h_q hflS rfl ?_
      refine h_done (d_ret (f_then_ret (f_block_ret (f_then_ret (f_then_ret (f_block_ret (f_then_ret ?_)))))))
      exact f_fin1 (.tmp rfl) (fun w h => tells () rfl [0] rfl h same_parts) rfl
    · skip
      refine d_reg ?_
      refine h_q hflS rfl ?_
      refine h_val rfl (elp (.slice A l.length c) (j * 5)) (fun b w hb hH => e_sidx okV (((hH.rdEs 0 rfl hX).1)) sl_api_Entry (j := j) hx rfl rfl rfl hb) ?_
      refine h_val rfl (.agg (encV x).toArray) (fun b w hb hH => e_sagg okV (by decide) (((hH.rdEs 0 rfl hX).1)) (j := j) hx ty_api_Entry rfl rfl hb) ?_
      refine h_act (post := fun _ => [X]) rfl (a_call (ent_of Try.func67 (by kernel_rfl) rfl) (fun w hH => rrightE_any w x ((hH.rdEs 0 rfl hX).2 x hm) true hr) rfl rfl rfl) ?_; rintro ⟨⟩
      refine h_q hflS rfl ?_
      refine h_val rfl (elp (.slice A l.length c) (j * 5)) (fun b w hb hH => e_sidx okV (((hH.rdEs 0 rfl hX).1)) sl_api_Entry (j := j) hx rfl rfl rfl hb) ?_
      refine h_val rfl (elp (.slice A l.length c) (j * 5 + 2)) (fun b w hb hH => e_sfield okV (by decide) (((hH.rdEs 0 rfl hX).1)) (j := j) hx fd_api_Entry_2 rfl rfl hb) ?_
      refine h_val rfl (.int .u64 x.e.i) (fun b w hb hH => e_sload okV (by decide) (((hH.rdEs 0 rfl hX).1)) (j := j) hx ty_uint64 (off := 2) rfl rfl rfl hb) ?_
      refine h_q hflS rfl ?_
      refine h_val rfl (.int .u64 a1) (fun b w hb hH => exec_ar rfl rfl rfl rfl ha1 hb) ?_
      refine h_q hflS rfl ?_
      refine h_val rfl (.int .u64 (j : Int)) (fun b w hb hH => exec_conv Try.underlying3 Try.underlying26 (by rw [IntWalk.u64_in _ (by omega)]) rfl rfl hb) ?_
      refine h_val rfl (.int .u64 ai) (fun b w hb hH => exec_ar rfl rfl rfl rfl hai hb) ?_
      refine h_val rfl (.bool false) (fun b w hb hH => exec_cmp rfl rfl rfl (cmp_neq_f (by omega)) hb) ?_
      refine h_q hflS rfl ?_
      refine h_val rfl (elp (.slice A l.length c) (j * 5)) (fun b w hb hH => e_sidx okV (((hH.rdEs 0 rfl hX).1)) sl_api_Entry (j := j) hx rfl rfl rfl hb) ?_
      refine h_val rfl (elp (.slice A l.length c) (j * 5 + 1)) (fun b w hb hH => e_sfield okV (by decide) (((hH.rdEs 0 rfl hX).1)) (j := j) hx fd_api_Entry_1 rfl rfl hb) ?_
      refine h_val rfl (.int .u64 x.e.t) (fun b w hb hH => e_sload okV (by decide) (((hH.rdEs 0 rfl hX).1)) (j := j) hx ty_uint64 (off := 1) rfl rfl rfl hb) ?_
      refine h_q hflS rfl ?_
      refine h_val rfl (.bool false) (fun b w hb hH => exec_cmp rfl rfl rfl (cmp_lss_f (by omega)) hb) ?_
      refine h_q hflS rfl ?_
      refine h_done (d_else rfl (d_skip (f_to (d_reg1 ?_))))
      refine h_q hflS rfl ?_
      refine h_val rfl (elp (.slice A l.length c) (j * 5)) (fun b w hb hH => e_sidx okV (((hH.rdEs 0 rfl hX).1)) sl_api_Entry (j := j) hx rfl rfl rfl hb) ?_
      refine h_val rfl (elp (.slice A l.length c) (j * 5 + 1)) (fun b w hb hH => e_sfield okV (by decide) (((hH.rdEs 0 rfl hX).1)) (j := j) hx fd_api_Entry_1 rfl rfl hb) ?_
      refine h_val rfl (.int .u64 x.e.t) (fun b w hb hH => e_sload okV (by decide) (((hH.rdEs 0 rfl hX).1)) (j := j) hx ty_uint64 (off := 1) rfl rfl rfl hb) ?_
      refine h_q hflS rfl ?_
      refine h_nil (f_block (f_to (d_reg1 ?_)))
      refine h_q hflS rfl ?_
      refine h_val rfl (.int .i64 ((j + 1 : Nat) : Int)) (fun b w hb hH => exec_ar rfl rfl rfl rfl (by rw [IntWalk.i64_in _ (by omega)]; omega) hb) ?_
      refine h_q hflS rfl ?_
      refine h_nil ?_
      exact f_again (j + 1, x.e.i, x.e.t) 0 ⟨hn, (by show x.e.i = (ix + ((j + 1 : Nat) : Int)) % 18446744073709551616; omega), (by rw [← hI3, hdr, folB_cons, hr, decide_eq_true he, decide_eq_true ht]; rfl)⟩ (show l.length - (j + 1) < l.length - j by omega) ⟨rfl, rfl, rfl, rfl, rfl, trivial⟩ rfl
    · skip
      obtain rfl : false = b := by rw [← hI3, hdr, folB_cons]; rw [decide_eq_false he]; simp
      refine d_reg ?_
      refine h_q hflS rfl ?_
      refine h_val rfl (elp (.slice A l.length c) (j * 5)) (fun b w hb hH => e_sidx okV (((hH.rdEs 0 rfl hX).1)) sl_api_Entry (j := j) hx rfl rfl rfl hb) ?_
      refine h_val rfl (.agg (encV x).toArray) (fun b w hb hH => e_sagg okV (by decide) (((hH.rdEs 0 rfl hX).1)) (j := j) hx ty_api_Entry rfl rfl hb) ?_
      refine h_act (post := fun _ => [X]) rfl (a_call (ent_of Try.func67 (by kernel_rfl) rfl) (fun w hH => rrightE_any w x ((hH.rdEs 0 rfl hX).2 x hm) true hr) rfl rfl rfl) ?_; rintro ⟨⟩
      refine h_q hflS rfl ?_
      refine h_val rfl (elp (.slice A l.length c) (j * 5)) (fun b w hb hH => e_sidx okV (((hH.rdEs 0 rfl hX).1)) sl_api_Entry (j := j) hx rfl rfl rfl hb) ?_
      refine h_val rfl (elp (.slice A l.length c) (j * 5 + 2)) (fun b w hb hH => e_sfield okV (by decide) (((hH.rdEs 0 rfl hX).1)) (j := j) hx fd_api_Entry_2 rfl rfl hb) ?_
      refine h_val rfl (.int .u64 x.e.i) (fun b w hb hH => e_sload okV (by decide) (((hH.rdEs 0 rfl hX).1)) (j := j) hx ty_uint64 (off := 2) rfl rfl rfl hb) ?_
      refine h_q hflS rfl ?_
      refine h_val rfl (.int .u64 a1) (fun b w hb hH => exec_ar rfl rfl rfl rfl ha1 hb) ?_
      refine h_q hflS rfl ?_
      refine h_val rfl (.int .u64 (j : Int)) (fun b w hb hH => exec_conv Try.underlying3 Try.underlying26 (by rw [IntWalk.u64_in _ (by omega)]) rfl rfl hb) ?_
      refine h_val rfl (.int .u64 ai) (fun b w hb hH => exec_ar rfl rfl rfl rfl hai hb) ?_
      refine h_val rfl (.bool true) (fun b w hb hH => exec_cmp rfl rfl rfl (cmp_neq_t (by omega)) hb) ?_
      refine h_q hflS rfl ?_
      refine h_done (d_then rfl (d_reg ?_))
      refine h_q hflS rfl ?_
      refine h_done (d_ret (f_then_ret (f_block_ret (f_then_ret (f_then_ret (f_block_ret (f_then_ret ?_)))))))
      exact f_fin1 (.tmp rfl) (fun w h => tells () rfl [0] rfl h same_parts) rfl
    · skip
      obtain rfl : false = b := by rw [← hI3, hdr, folB_cons]; rw [hr]; rfl
      refine d_reg ?_
      refine h_q hflS rfl ?_
      refine h_val rfl (elp (.slice A l.length c) (j * 5)) (fun b w hb hH => e_sidx okV (((hH.rdEs 0 rfl hX).1)) sl_api_Entry (j := j) hx rfl rfl rfl hb) ?_
      refine h_val rfl (.agg (encV x).toArray) (fun b w hb hH => e_sagg okV (by decide) (((hH.rdEs 0 rfl hX).1)) (j := j) hx ty_api_Entry rfl rfl hb) ?_
      refine h_act (post := fun _ => [X]) rfl (a_call (ent_of Try.func67 (by kernel_rfl) rfl) (fun w hH => rrightE_any w x ((hH.rdEs 0 rfl hX).2 x hm) false hr) rfl rfl rfl) ?_; rintro ⟨⟩
      refine h_q hflS rfl ?_
      refine h_done (d_then rfl (d_reg ?_))
      refine h_q hflS rfl ?_
      refine h_done (d_ret (f_then_ret (f_block_ret (f_then_ret (f_then_ret (f_block_ret (f_then_ret ?_)))))))
      exact f_fin1 (.tmp rfl) (fun w h => tells () rfl [0] rfl h same_parts) rfl
  · skip
    obtain rfl : true = b := by rw [← hI3, List.drop_of_length_le hn]; rfl
    refine d_reg ?_
    refine h_q hflS rfl ?_
    refine h_val rfl (.int .i64 (l.length : Int)) (fun b w hb hH => e_slen (((hH.rdEs 0 rfl hX).1)) Try.underlying34 rfl rfl hb) ?_
    refine h_val rfl (.bool false) (fun b w hb hH => exec_cmp rfl rfl rfl (cmp_lss_f (by omega)) hb) ?_
    refine h_done (d_else rfl (d_exit (f_then_exit (f_then_exit (f_block_exit (f_to (d_reg ?_)))))))
    refine h_q hflS rfl ?_
    refine h_done (d_ret ?_)
    exact f_fin1 (.tmp rfl) (fun w h => tells () rfl [0] rfl h same_parts) rfl

set_option maxRecDepth 100000 in
theorem r_right (w : World) (bi bt bc : Int) (b : Bool) (hb : baseR bi bt bc = b) : Calls Try.prog 40 #[.agg #[.int .u64 bi, .int .u64 bt, .int .i64 bc]] w fun e w' => e = .returned (.bool b) ∧ Below w.heap.size w w' := by
  unfold baseR at hb
  refine d_in (args := [.agg #[.int .u64 bi, .int .u64 bt, .int .i64 bc]]) 10 Try.func40 rfl rfl rfl ?_
  refine d_reg ?_
  refine h_q hflS rfl ?_
  refine h_act (post := fun g1 => [cell g1 28 #[.int .u64 bi, .int .u64 bt, .int .i64 bc]]) rfl (a_box (cs := #[.int .u64 bi, .int .u64 bt, .int .i64 bc]) rfl rfl rfl) ?_; rintro g1
  refine h_q hflS rfl ?_
  refine h_done ?_
  cases hz : (bi == 0 && (bt == 0 && bc == 0))
  · skip
    rw [hz] at hb
    have hb : baseQ bi bt bc = b := hb
    refine d_reg ?_
    refine h_q hflS rfl ?_
    refine h_val rfl (.agg #[.int .u64 bi, .int .u64 bt, .int .i64 bc]) (fun b w hb hH => exec_load rfl rfl (reads_agg (cs := [.int .u64 bi, .int .u64 bt, .int .i64 bc]) ty_api_Base rfl) (hH.row 0 rfl) hb) ?_
    refine h_val rfl (.agg #[.int .u64 0, .int .u64 0, .int .i64 0]) (fun b w hb hH => exec_build rfl rfl (by kernel_rfl) hb) ?_
    refine h_val rfl (.bool false) (fun b w hb hH => exec_eqs (eqBaseP bi bt bc 0 0 0 false hz) rfl rfl rfl hb) ?_
    refine h_q hflS rfl ?_
    refine h_val rfl (.agg #[.int .u64 bi, .int .u64 bt, .int .i64 bc]) (fun b w hb hH => exec_load rfl rfl (reads_agg (cs := [.int .u64 bi, .int .u64 bt, .int .i64 bc]) ty_api_Base rfl) (hH.row 0 rfl) hb) ?_
    refine h_act (post := fun _ => [cell g1 28 #[.int .u64 bi, .int .u64 bt, .int .i64 bc]]) rfl (a_call (ent_of Try.func66 (by kernel_rfl) rfl) (fun w hH => rbase_any w bi bt bc b hb) rfl rfl rfl) ?_; rintro ⟨⟩
    refine h_q hflS rfl ?_
    refine h_done (d_ret ?_)
    exact f_fin1 (.tmp rfl) (fun w h => ⟨rfl, below0 h.up⟩) rfl
  · skip
    obtain rfl : b = true := by rw [← hb, hz]; rfl
    refine d_reg ?_
    refine h_q hflS rfl ?_
    refine h_val rfl (.agg #[.int .u64 bi, .int .u64 bt, .int .i64 bc]) (fun b w hb hH => exec_load rfl rfl (reads_agg (cs := [.int .u64 bi, .int .u64 bt, .int .i64 bc]) ty_api_Base rfl) (hH.row 0 rfl) hb) ?_
    refine h_val rfl (.agg #[.int .u64 0, .int .u64 0, .int .i64 0]) (fun b w hb hH => exec_build rfl rfl (by kernel_rfl) hb) ?_
    refine h_val rfl (.bool true) (fun b w hb hH => exec_eqs (eqBaseP bi bt bc 0 0 0 true hz) rfl rfl rfl hb) ?_
    refine h_q hflS rfl ?_
    refine h_done (d_ret ?_)
    exact f_fin1 (.tmp rfl) (fun w h => ⟨rfl, below0 h.up⟩) rfl
end Go.Proofs.Ytnebloeideodmaa.Sep

namespace Go.Proofs.Ytnebloeideodmaa.Sep
open Go.RowKit
open Go.Proofs.Ytnebloeideodmaa.Mem (Dist Blk Chg below0)

theorem rnew_done {g : Nat} {bi bt bc : Int} {A : Option Addr} {c : Nat} {L : List EntV} {es : List EntD} {X : Ass} (hL : L.map (·.e) = es) {z : List RowT} (hz : Parts [cell g 74 #[.int .u64 bi, .int .u64 bt, .int .i64 bc, .slice A L.length c], Vec 32 5 encV (.slice A L.length c) L, Each dat L, X] z) : Parts [RfT g bi bt bc es, X] z := by
  obtain ⟨a, b, e, h1, p, d, e2, h2, q, r, e3, h3, h4⟩ := hz
  exact ⟨a ++ (p ++ q), r, by rw [e, e2, e3]; simp, RfT.back hL (vec_capE h2) _ ⟨a, p ++ q, rfl, h1, p, q, rfl, h2, Parts.one h3⟩, h4⟩
set_option maxRecDepth 100000 in
theorem r_new_ok (bi bt bc : Int) (hbi : 0 ≤ bi ∧ bi ≤ 18446744073709551615) (hbt : 0 ≤ bt ∧ bt ≤ 18446744073709551615) (hbc : -9223372036854775808 ≤ bc ∧ bc ≤ 9223372036854775807) (X : Ass) (A : Option Addr) (c : Nat) (l : List EntV) (hX : RdEs X (.slice A l.length c) l) (hd : ∀ x, x ∈ l → x.e.d.length ≤ 140737488351232) (hs : l.length * 56 ≤ 140737488351232) (h : baseR bi bt bc = true) (h2 : folB bi bt (l.map (·.e)) = true) : Does Try.prog 22 #[.agg #[.int .u64 bi, .int .u64 bt, .int .i64 bc], .slice A l.length c] [X] (fun (g : Nat) => .pointer (some ⟨g, 0, none⟩)) (fun (g : Nat) => [RfT g bi bt bc (l.map (·.e)), X]) := by
  have hln : l.length ≤ 9223372036854775807 := by omega
  refine d_ins (args := [.agg #[.int .u64 bi, .int .u64 bt, .int .i64 bc], .slice A l.length c]) 22 Try.func22 rfl rfl rfl ?_; intro w rs
  refine d_reg ?_
  refine h_q hflS rfl ?_
  refine h_act (post := fun g2 => [cell g2 28 #[.int .u64 bi, .int .u64 bt, .int .i64 bc], X]) rfl (a_box (cs := #[.int .u64 bi, .int .u64 bt, .int .i64 bc]) rfl rfl rfl) ?_; rintro g2
  refine h_q hflS rfl ?_
  refine h_done (d_seq (d_reg ?_))
  refine h_q hflS rfl ?_
  refine h_val rfl (.agg #[.int .u64 bi, .int .u64 bt, .int .i64 bc]) (fun b w hb hH => exec_load rfl rfl (reads_agg (cs := [.int .u64 bi, .int .u64 bt, .int .i64 bc]) ty_api_Base rfl) (hH.row 0 rfl) hb) ?_
  refine h_act (post := fun _ => [cell g2 28 #[.int .u64 bi, .int .u64 bt, .int .i64 bc], X]) rfl (a_call (ent_of Try.func40 (by kernel_rfl) rfl) (fun w hH => r_right w bi bt bc true h) rfl rfl rfl) ?_; rintro ⟨⟩
  refine h_q hflS rfl ?_
  refine h_val rfl (.int .u64 bi) (fun b w hb hH => exec_load rfl rfl (reads_one ty_uint64 rfl) (hH.row 0 rfl) hb) ?_
  refine h_q hflS rfl ?_
  refine h_val rfl (.int .u64 bt) (fun b w hb hH => exec_load rfl rfl (reads_one ty_uint64 rfl) (hH.row 0 rfl) hb) ?_
  refine h_q hflS rfl ?_
  refine h_act (post := fun _ => [cell g2 28 #[.int .u64 bi, .int .u64 bt, .int .i64 bc], X]) rfl (a_does (os' := fun _ => [cell g2 28 #[.int .u64 bi, .int .u64 bt, .int .i64 bc], X]) [1] 0 (ent_of Try.func41 (by kernel_rfl) rfl) (r_follow X A c l hX hln bi bt hbi hbt true h2) rfl rfl rfl (fun _ => rfl) rfl rfl rfl) ?_; rintro ⟨⟩
  refine h_q hflS rfl ?_
  refine h_done (d_else rfl (d_skip (f_to (d_seq ?_))))
  refine d_emps 1 rfl ?_
  refine d_parS 3 1 [⟨.quiet, [none], fun _ => .agg #[.int .u64 bi, .int .u64 bt, .int .i64 bc], []⟩, ⟨.quiet, [none], fun _ => .slice A l.length c, []⟩, ⟨.act 0, [some false], fun _ => undef, [1]⟩] [(1, .slice A l.length c), (2, .pointer (some ⟨g2, 0, none⟩)), (4, .pointer none)] (fun ρ => match ρ with | [rq0] => [selS rq0 (fun ev => EnT ev (l.map (·.e))) (emp), cell g2 28 #[.int .u64 bi, .int .u64 bt, .int .i64 bc], X] | _ => []) (by kernel_rfl) (by kernel_rfl) ⟨rfl, rfl, rfl, trivial⟩ rfl ?_ ?_
  · skip
    refine s_cons (by intro r0_; exact ⟨rfl, fun b w hH hb => exec_load rfl rfl (reads_agg (cs := [.int .u64 bi, .int .u64 bt, .int .i64 bc]) ty_api_Base rfl) (hH.row 1 rfl) hb⟩) ?_
    refine s_cons (by intro r0_; exact ⟨rfl, fun b w hH hb => exec_q1 hflS rfl hb⟩) ?_
    refine s_cons (by exact ⟨rfl, Acts.s (a_makes (os' := fun ev => [EnT ev (l.map (·.e)), cell g2 28 #[.int .u64 bi, .int .u64 bt, .int .i64 bc], X]) [0] 1 (ent_of Try.func39 (by kernel_rfl) rfl) (fun w hH => copy_v w (.slice A l.length c) l (hH.rdEs 2 rfl hX) hs hd (l.map (·.e)) rfl) rfl rfl rfl (fun _ => rfl) rfl rfl rfl) (fun _ => rfl)⟩) ?_
    exact s_nil
  intro ev
  refine WL2.keep (env' := [(4, .pointer none), (17, .agg #[.int .u64 bi, .int .u64 bt, .int .i64 bc]), (19, ev)]) ⟨rfl, rfl, rfl, trivial⟩ ?_
  refine h_open 0 rfl EnT.open2 (fun _ => rfl) ?_; rintro ⟨L, hL⟩
  have hL : L.map (·.e) = (l.map (·.e)) := hL
  refine WL2.fact 0 rfl (fun _ h => Vec.is h) ?_; rintro ⟨A9, c9, hev⟩
  subst hev
  refine WL2.keep (env' := [(4, .pointer none), (17, .agg #[.int .u64 bi, .int .u64 bt, .int .i64 bc]), (19, .slice A9 L.length c9)]) ⟨rfl, rfl, rfl, trivial⟩ ?_
  refine WL2.mid [Vec 32 5 encV (.slice A9 L.length c9) L, Each dat L, cell g2 28 #[.int .u64 bi, .int .u64 bt, .int .i64 bc], X] (.refl _) ?_
  refine h_q hflS rfl ?_
  refine h_val rfl (.agg #[.int .u64 bi, .int .u64 bt, .int .i64 bc, .slice A9 L.length c9]) (fun b w hb hH => exec_build rfl rfl (by kernel_rfl) hb) ?_
  refine h_act (post := fun g => [cell g 74 #[.int .u64 bi, .int .u64 bt, .int .i64 bc, .slice A9 L.length c9], Vec 32 5 encV (.slice A9 L.length c9) L, Each dat L, cell g2 28 #[.int .u64 bi, .int .u64 bt, .int .i64 bc], X]) rfl (a_box (cs := #[.int .u64 bi, .int .u64 bt, .int .i64 bc, .slice A9 L.length c9]) rfl rfl rfl) ?_; rintro g
  refine h_q hflS rfl ?_
  refine h_nil (f_to (d_ret ?_))
  exact f_fin1 (.tmp rfl) (fun w h => tells g rfl [0, 1, 2, 4] rfl h (fun z hz => ⟨z, .refl _, rnew_done hL hz⟩)) rfl

set_option maxRecDepth 100000 in
theorem r_new_no (bi bt bc : Int) (hbi : 0 ≤ bi ∧ bi ≤ 18446744073709551615) (hbt : 0 ≤ bt ∧ bt ≤ 18446744073709551615) (hbc : -9223372036854775808 ≤ bc ∧ bc ≤ 9223372036854775807) (X : Ass) (A : Option Addr) (c : Nat) (l : List EntV) (hX : RdEs X (.slice A l.length c) l) (hd : ∀ x, x ∈ l → x.e.d.length ≤ 140737488351232) (hs : l.length * 56 ≤ 140737488351232) (h : (baseR bi bt bc && folB bi bt (l.map (·.e))) = false) : Does Try.prog 22 #[.agg #[.int .u64 bi, .int .u64 bt, .int .i64 bc], .slice A l.length c] [X] (fun (_ : Unit) => .pointer none) (fun (_ : Unit) => [X]) := by
  have hln : l.length ≤ 9223372036854775807 := by omega
  refine d_ins (args := [.agg #[.int .u64 bi, .int .u64 bt, .int .i64 bc], .slice A l.length c]) 22 Try.func22 rfl rfl rfl ?_; intro w rs
  refine d_reg ?_
  refine h_q hflS rfl ?_
  refine h_act (post := fun g2 => [cell g2 28 #[.int .u64 bi, .int .u64 bt, .int .i64 bc], X]) rfl (a_box (cs := #[.int .u64 bi, .int .u64 bt, .int .i64 bc]) rfl rfl rfl) ?_; rintro g2
  refine h_q hflS rfl ?_
  refine h_done (d_seq ?_)
  cases h1 : baseR bi bt bc
  · skip
    refine d_reg ?_
    refine h_q hflS rfl ?_
    refine h_val rfl (.agg #[.int .u64 bi, .int .u64 bt, .int .i64 bc]) (fun b w hb hH => exec_load rfl rfl (reads_agg (cs := [.int .u64 bi, .int .u64 bt, .int .i64 bc]) ty_api_Base rfl) (hH.row 0 rfl) hb) ?_
    refine h_act (post := fun _ => [cell g2 28 #[.int .u64 bi, .int .u64 bt, .int .i64 bc], X]) rfl (a_call (ent_of Try.func40 (by kernel_rfl) rfl) (fun w hH => r_right w bi bt bc false h1) rfl rfl rfl) ?_; rintro ⟨⟩
    refine h_q hflS rfl ?_
    refine h_done (d_then rfl (d_reg ?_))
    refine h_q hflS rfl ?_
    refine h_done (d_ret (f_then_ret ?_))
    exact f_fin1 (.tmp rfl) (fun w h => tells () rfl [1] rfl h same_parts) rfl
  · skip
    have h2 : folB bi bt (l.map (·.e)) = false := by rw [h1] at h; exact h
    refine d_reg ?_
    refine h_q hflS rfl ?_
    refine h_val rfl (.agg #[.int .u64 bi, .int .u64 bt, .int .i64 bc]) (fun b w hb hH => exec_load rfl rfl (reads_agg (cs := [.int .u64 bi, .int .u64 bt, .int .i64 bc]) ty_api_Base rfl) (hH.row 0 rfl) hb) ?_
    refine h_act (post := fun _ => [cell g2 28 #[.int .u64 bi, .int .u64 bt, .int .i64 bc], X]) rfl (a_call (ent_of Try.func40 (by kernel_rfl) rfl) (fun w hH => r_right w bi bt bc true h1) rfl rfl rfl) ?_; rintro ⟨⟩
    refine h_q hflS rfl ?_
    refine h_val rfl (.int .u64 bi) (fun b w hb hH => exec_load rfl rfl (reads_one ty_uint64 rfl) (hH.row 0 rfl) hb) ?_
    refine h_q hflS rfl ?_
    refine h_val rfl (.int .u64 bt) (fun b w hb hH => exec_load rfl rfl (reads_one ty_uint64 rfl) (hH.row 0 rfl) hb) ?_
    refine h_q hflS rfl ?_
    refine h_act (post := fun _ => [cell g2 28 #[.int .u64 bi, .int .u64 bt, .int .i64 bc], X]) rfl (a_does (os' := fun _ => [cell g2 28 #[.int .u64 bi, .int .u64 bt, .int .i64 bc], X]) [1] 0 (ent_of Try.func41 (by kernel_rfl) rfl) (r_follow X A c l hX hln bi bt hbi hbt false h2) rfl rfl rfl (fun _ => rfl) rfl rfl rfl) ?_; rintro ⟨⟩
    refine h_q hflS rfl ?_
    refine h_done (d_then rfl (d_reg ?_))
    refine h_q hflS rfl ?_
    refine h_done (d_ret (f_then_ret ?_))
    exact f_fin1 (.tmp rfl) (fun w h => tells () rfl [1] rfl h same_parts) rfl

end Go.Proofs.Ytnebloeideodmaa.Sep
