/-
  RpcH2
-/
import Derived.Test.YtnhcbjlaeaohjaaCP01
set_option linter.unusedSimpArgs false
set_option linter.unusedVariables false

namespace Go.Proofs.Ytnhcbjlaeaohjaa.Sep
open Go.RowKit
open Go.Proofs.Ytnhcbjlaeaohjaa.Mem (Dist Blk Chg below0)

theorem one_of {l : List EntV} {e : EntD} (h : l.map (·.e) = [e]) : ∃ o, l = [o] ∧ o.e = e := by
  match l, h with
  | [o], h => exact ⟨o, rfl, by simpa using h⟩
theorem each_1 {α : Type} {f : α → Ass} {x : α} : ∀ rs, Each f [x] rs → ∃ _ : Unit, Parts [f x] rs := fun _ h => ⟨(), h⟩
theorem layE_cons (e : EntD) : 0 < (layE e).length := by unfold layE; simp

set_option maxRecDepth 100000 in
theorem entry_no (w : World) (x : EntV) : Calls Try.prog 21 #[.agg #[.int .i64 x.e.k, .int .u64 x.e.t, .int .u64 x.e.i, x.v, .int .i64 x.e.c], .bool false] w fun e w' => e = .returned (.agg #[.int .i64 x.e.k, .int .u64 x.e.t, .int .u64 x.e.i, x.v, .int .i64 x.e.c]) ∧ Below w.heap.size w w' := by
  refine d_in (args := [.agg #[.int .i64 x.e.k, .int .u64 x.e.t, .int .u64 x.e.i, x.v, .int .i64 x.e.c], .bool false]) 18 Try.func21 rfl rfl rfl ?_
  refine d_reg ?_
  refine h_q hflS rfl ?_
  refine h_act (post := fun g2 => [cell g2 36 #[.int .i64 x.e.k, .int .u64 x.e.t, .int .u64 x.e.i, x.v, .int .i64 x.e.c]]) rfl (a_box (cs := #[.int .i64 x.e.k, .int .u64 x.e.t, .int .u64 x.e.i, x.v, .int .i64 x.e.c]) rfl rfl rfl) ?_; rintro g2
  refine h_act (post := fun g4 => [cell g4 36 #[.int .i64 0, .int .u64 0, .int .u64 0, .slice none 0 0, .int .i64 0], cell g2 36 #[.int .i64 x.e.k, .int .u64 x.e.t, .int .u64 x.e.i, x.v, .int .i64 x.e.c]]) rfl (a_alloc ze_api_Entry rfl) ?_; rintro g4
  refine h_done (d_seq (d_reg ?_))
  refine h_q hflS rfl ?_
  refine h_done (d_else rfl (d_skip (f_to (d_reg ?_))))
  refine h_q hflS rfl ?_
  refine h_val rfl (.agg #[.int .i64 x.e.k, .int .u64 x.e.t, .int .u64 x.e.i, x.v, .int .i64 x.e.c]) (fun b w hb hH => exec_load rfl rfl (reads_agg (cs := [.int .i64 x.e.k, .int .u64 x.e.t, .int .u64 x.e.i, x.v, .int .i64 x.e.c]) ty_api_Entry rfl) (hH.row 1 rfl) hb) ?_
  refine h_acts (post := fun _ => [cell g4 36 #[.int .i64 x.e.k, .int .u64 x.e.t, .int .u64 x.e.i, x.v, .int .i64 x.e.c], cell g2 36 #[.int .i64 x.e.k, .int .u64 x.e.t, .int .u64 x.e.i, x.v, .int .i64 x.e.c]]) rfl rfl (a_store 0 (v := .agg #[.int .i64 x.e.k, .int .u64 x.e.t, .int .u64 x.e.i, x.v, .int .i64 x.e.c]) #[.int .i64 x.e.k, .int .u64 x.e.t, .int .u64 x.e.i, x.v, .int .i64 x.e.c] ty_api_Entry.2 rfl rfl rfl rfl rfl rfl rfl rfl rfl) ?_; rintro ⟨⟩
  refine h_done (d_ret ?_)
  exact f_fin1 (.cell 0 (v := .agg #[.int .i64 x.e.k, .int .u64 x.e.t, .int .u64 x.e.i, x.v, .int .i64 x.e.c]) (reads_agg (cs := [.int .i64 x.e.k, .int .u64 x.e.t, .int .u64 x.e.i, x.v, .int .i64 x.e.c]) ty_api_Entry rfl) rfl rfl) (fun w h => ⟨rfl, below0 h.up⟩) rfl

set_option maxRecDepth 100000 in
theorem entry_does (u : World) (x : EntV) (hx : Sl8 u x.v x.e.d) (ho : x.e.ok) : DoesU u Try.prog 21 #[.agg #[.int .i64 x.e.k, .int .u64 x.e.t, .int .u64 x.e.i, x.v, .int .i64 x.e.c], .bool true] [] (fun (y : EntV) => .agg #[.int .i64 y.e.k, .int .u64 y.e.t, .int .u64 y.e.i, y.v, .int .i64 y.e.c]) (fun (y : EntV) => [Vec 5 1 encB y.v y.e.d, fact (y.e = handE (x.e.i % 1000) (x.e.t % 1000) x.e)]) := by
  have hi0 := Int.emod_nonneg x.e.i (show (1000 : Int) ≠ 0 by decide)
  have hi1 := Int.emod_lt_of_pos x.e.i (show (0 : Int) < 1000 by decide)
  have ht0 := Int.emod_nonneg x.e.t (show (1000 : Int) ≠ 0 by decide)
  have ht1 := Int.emod_lt_of_pos x.e.t (show (0 : Int) < 1000 by decide)
  refine d_insU (args := [.agg #[.int .i64 x.e.k, .int .u64 x.e.t, .int .u64 x.e.i, x.v, .int .i64 x.e.c], .bool true]) 18 Try.func21 rfl rfl rfl ?_; intro w rs hU hS
  refine d_reg ?_
  refine h_q hflS rfl ?_
  refine h_act (post := fun g2 => [cell g2 36 #[.int .i64 x.e.k, .int .u64 x.e.t, .int .u64 x.e.i, x.v, .int .i64 x.e.c]]) rfl (a_box (cs := #[.int .i64 x.e.k, .int .u64 x.e.t, .int .u64 x.e.i, x.v, .int .i64 x.e.c]) rfl rfl rfl) ?_; rintro g2
  refine h_act (post := fun g4 => [cell g4 36 #[.int .i64 0, .int .u64 0, .int .u64 0, .slice none 0 0, .int .i64 0], cell g2 36 #[.int .i64 x.e.k, .int .u64 x.e.t, .int .u64 x.e.i, x.v, .int .i64 x.e.c]]) rfl (a_alloc ze_api_Entry rfl) ?_; rintro g4
  refine h_done (d_seq (d_reg ?_))
  refine h_q hflS rfl ?_
  refine h_done (d_then rfl (d_reg ?_))
  refine h_q hflS rfl ?_
  refine h_val rfl (.int .u64 x.e.i) (fun b w hb hH => exec_load rfl rfl (reads_one ty_uint64 rfl) (hH.row 1 rfl) hb) ?_
  refine h_val rfl (.int .u64 (x.e.i % 1000)) (fun b w hb hH => exec_remI rfl rfl rfl (by decide) (Int.tmod_eq_emod_of_nonneg ho.i.1) hb) ?_
  refine h_q hflS rfl ?_
  refine h_val rfl (.int .u64 x.e.t) (fun b w hb hH => exec_load rfl rfl (reads_one ty_uint64 rfl) (hH.row 1 rfl) hb) ?_
  refine h_val rfl (.int .u64 (x.e.t % 1000)) (fun b w hb hH => exec_remI rfl rfl rfl (by decide) (Int.tmod_eq_emod_of_nonneg ho.t.1) hb) ?_
  refine h_val rfl (.agg #[.int .i64 x.e.k, .int .u64 x.e.t, .int .u64 x.e.i, x.v, .int .i64 x.e.c]) (fun b w hb hH => exec_load rfl rfl (reads_agg (cs := [.int .i64 x.e.k, .int .u64 x.e.t, .int .u64 x.e.i, x.v, .int .i64 x.e.c]) ty_api_Entry rfl) (hH.row 1 rfl) hb) ?_
  refine h_act (X := Value) (val := fun v : Value => v) (post := fun lv => [Vec 36 5 encV lv ([x]), cell g4 36 #[.int .i64 0, .int .u64 0, .int .u64 0, .slice none 0 0, .int .i64 0], cell g2 36 #[.int .i64 x.e.k, .int .u64 x.e.t, .int .u64 x.e.i, x.v, .int .i64 x.e.c]]) rfl (by refine a_buildK (e := 36) (t := 23) (k := 5) (enc := encV) (x := .tmp 12) (c := .agg #[.int .i64 x.e.k, .int .u64 x.e.t, .int .u64 x.e.i, x.v, .int .i64 x.e.c]) ?_ ?_ ?_ x ?_ ?_ ?_; exact sl_api_Entry; exact (by decide); exact okV; exact rfl; exact rfl; exact rfl) ?_; rintro lv
  refine h_act rfl (a_doesU hU hS  [0] 0 (ent_of Try.func54 (by kernel_rfl) rfl) (hand_does u x hx ho (x.e.i % 1000) (x.e.t % 1000) ⟨hi0, hi1⟩ ⟨ht0, ht1⟩ lv) rfl rfl rfl (fun _ => rfl) rfl rfl rfl) ?_; rintro ⟨ev, ys⟩
  refine WL2.keep (env' := [(0, .agg #[.int .i64 x.e.k, .int .u64 x.e.t, .int .u64 x.e.i, x.v, .int .i64 x.e.c]), (1, .bool true), (2, .pointer (some ⟨g2, 0, none⟩)), (4, .pointer (some ⟨g4, 0, none⟩)), (5, .bool true), (6, .pointer (some ⟨g2, 2, none⟩)), (7, .int .u64 x.e.i), (8, .int .u64 (x.e.i % 1000)), (9, .pointer (some ⟨g2, 1, none⟩)), (10, .int .u64 x.e.t), (11, .int .u64 (x.e.t % 1000)), (12, .agg #[.int .i64 x.e.k, .int .u64 x.e.t, .int .u64 x.e.i, x.v, .int .i64 x.e.c]), (13, lv), (14, ev)]) ⟨rfl, rfl, rfl, rfl, rfl, rfl, rfl, rfl, rfl, rfl, rfl, rfl, rfl, rfl, trivial⟩ ?_
  refine WL2.mid [Ents 36 ev ys, fact (ys.map (·.e) = [handE (x.e.i % 1000) (x.e.t % 1000) x.e]), Vec 36 5 encV lv ([x]), cell g4 36 #[.int .i64 0, .int .u64 0, .int .u64 0, .slice none 0 0, .int .i64 0], cell g2 36 #[.int .i64 x.e.k, .int .u64 x.e.t, .int .u64 x.e.i, x.v, .int .i64 x.e.c]] (.refl _) ?_
  refine WL2.fact 1 rfl (fun _ h => h.2) ?_; rintro hys
  refine WL2.leave [1] rfl rfl ?_
  obtain ⟨y, rfl, hye⟩ := one_of hys
  refine h_open 0 rfl ents_open (fun _ => rfl) ?_; rintro ⟨⟩
  refine h_open 1 rfl each_1 (fun _ => rfl) ?_; rintro ⟨⟩
  refine WL2.keep (env' := [(0, .agg #[.int .i64 x.e.k, .int .u64 x.e.t, .int .u64 x.e.i, x.v, .int .i64 x.e.c]), (1, .bool true), (2, .pointer (some ⟨g2, 0, none⟩)), (4, .pointer (some ⟨g4, 0, none⟩)), (5, .bool true), (6, .pointer (some ⟨g2, 2, none⟩)), (7, .int .u64 x.e.i), (8, .int .u64 (x.e.i % 1000)), (9, .pointer (some ⟨g2, 1, none⟩)), (10, .int .u64 x.e.t), (11, .int .u64 (x.e.t % 1000)), (12, .agg #[.int .i64 x.e.k, .int .u64 x.e.t, .int .u64 x.e.i, x.v, .int .i64 x.e.c]), (13, lv), (14, ev)]) ⟨rfl, rfl, rfl, rfl, rfl, rfl, rfl, rfl, rfl, rfl, rfl, rfl, rfl, rfl, trivial⟩ ?_
  refine WL2.mid [Vec 5 1 encB y.v y.e.d, Vec 36 5 encV ev ([y]), Vec 36 5 encV lv ([x]), cell g4 36 #[.int .i64 0, .int .u64 0, .int .u64 0, .slice none 0 0, .int .i64 0], cell g2 36 #[.int .i64 x.e.k, .int .u64 x.e.t, .int .u64 x.e.i, x.v, .int .i64 x.e.c]] (.refl _) ?_
  refine h_val rfl (elp ev (0 * 5)) (fun b w hb hH => e_sidx okV (hH.vec 1 rfl okV) sl_api_Entry (j := 0) rfl rfl rfl rfl hb) ?_
  refine h_val rfl (.agg (encV y).toArray) (fun b w hb hH => e_sagg okV (by decide) (hH.vec 1 rfl okV) (j := 0) rfl ty_api_Entry rfl rfl hb) ?_
  refine h_acts (post := fun _ => [Vec 5 1 encB y.v y.e.d, Vec 36 5 encV ev ([y]), Vec 36 5 encV lv ([x]), cell g4 36 #[.int .i64 y.e.k, .int .u64 y.e.t, .int .u64 y.e.i, y.v, .int .i64 y.e.c], cell g2 36 #[.int .i64 x.e.k, .int .u64 x.e.t, .int .u64 x.e.i, x.v, .int .i64 x.e.c]]) rfl rfl (a_store 3 (v := .agg (encV y).toArray) #[.int .i64 y.e.k, .int .u64 y.e.t, .int .u64 y.e.i, y.v, .int .i64 y.e.c] ty_api_Entry.2 rfl rfl rfl rfl rfl rfl rfl rfl rfl) ?_; rintro ⟨⟩
  refine h_done (d_ret (f_then_ret ?_))
  exact f_fin1 (.cell 3 (v := .agg #[.int .i64 y.e.k, .int .u64 y.e.t, .int .u64 y.e.i, y.v, .int .i64 y.e.c]) (reads_agg (cs := [.int .i64 y.e.k, .int .u64 y.e.t, .int .u64 y.e.i, y.v, .int .i64 y.e.c]) ty_api_Entry rfl) rfl rfl) (fun w h => tells y rfl [0] rfl h (fun z hz => ⟨z, .refl _, fact_add (xs := [_]) hye hz⟩)) rfl

set_option maxRecDepth 100000 in
theorem rpcentries_true (w : World) (x : EntV) (hx : Sl8 w x.v x.e.d) (ho : x.e.ok) (hd : x.e.d.length ≤ 140737488351232) (is_ : Bool) : Calls Try.prog 4 #[.agg #[.int .i64 x.e.k, .int .u64 x.e.t, .int .u64 x.e.i, x.v, .int .i64 x.e.c], .bool is_] w fun e w' => e = .returned (.bool true) ∧ Below w.heap.size w w' := by
  refine d_in (args := [.agg #[.int .i64 x.e.k, .int .u64 x.e.t, .int .u64 x.e.i, x.v, .int .i64 x.e.c], .bool is_]) 73 Try.func4 rfl rfl rfl ?_
  refine d_reg ?_
  refine h_q hflS rfl ?_
  refine h_act (post := fun g2 => [cell g2 36 #[.int .i64 x.e.k, .int .u64 x.e.t, .int .u64 x.e.i, x.v, .int .i64 x.e.c]]) rfl (a_box (cs := #[.int .i64 x.e.k, .int .u64 x.e.t, .int .u64 x.e.i, x.v, .int .i64 x.e.c]) rfl rfl rfl) ?_; rintro g2
  refine h_q hflS rfl ?_
  refine h_done ?_
  cases is_
  · skip
    have hdl : x.e.d.length ≤ 140737488351232 := hd
    refine d_reg ?_
    refine h_q hflS rfl ?_
    refine h_val rfl (.agg #[.int .i64 x.e.k, .int .u64 x.e.t, .int .u64 x.e.i, x.v, .int .i64 x.e.c]) (fun b w hb hH => exec_load rfl rfl (reads_agg (cs := [.int .i64 x.e.k, .int .u64 x.e.t, .int .u64 x.e.i, x.v, .int .i64 x.e.c]) ty_api_Entry rfl) (hH.row 0 rfl) hb) ?_
    refine h_q hflS rfl ?_
    refine h_act (post := fun _ => [cell g2 36 #[.int .i64 x.e.k, .int .u64 x.e.t, .int .u64 x.e.i, x.v, .int .i64 x.e.c]]) rfl (a_call (ent_of Try.func21 (by kernel_rfl) rfl) (fun w hH => entry_no w x) rfl rfl rfl) ?_; rintro ⟨⟩
    refine h_acts (post := fun _ => [cell g2 36 #[.int .i64 x.e.k, .int .u64 x.e.t, .int .u64 x.e.i, x.v, .int .i64 x.e.c]]) rfl rfl (a_store 0 (v := .agg #[.int .i64 x.e.k, .int .u64 x.e.t, .int .u64 x.e.i, x.v, .int .i64 x.e.c]) #[.int .i64 x.e.k, .int .u64 x.e.t, .int .u64 x.e.i, x.v, .int .i64 x.e.c] ty_api_Entry.2 rfl rfl rfl rfl rfl rfl rfl rfl rfl) ?_; rintro ⟨⟩
    refine h_done (d_reg ?_)
    refine h_q hflS rfl ?_
    refine h_val rfl (.agg #[.int .i64 x.e.k, .int .u64 x.e.t, .int .u64 x.e.i, x.v, .int .i64 x.e.c]) (fun b w hb hH => exec_load rfl rfl (reads_agg (cs := [.int .i64 x.e.k, .int .u64 x.e.t, .int .u64 x.e.i, x.v, .int .i64 x.e.c]) ty_api_Entry rfl) (hH.row 0 rfl) hb) ?_
    refine h_act (X := Value) (val := fun v : Value => v) (post := fun lb => [Vec 36 5 encV lb ([x]), cell g2 36 #[.int .i64 x.e.k, .int .u64 x.e.t, .int .u64 x.e.i, x.v, .int .i64 x.e.c]]) rfl (by refine a_buildK (e := 36) (t := 23) (k := 5) (enc := encV) (x := .tmp 15) (c := .agg #[.int .i64 x.e.k, .int .u64 x.e.t, .int .u64 x.e.i, x.v, .int .i64 x.e.c]) ?_ ?_ ?_ x ?_ ?_ ?_; exact sl_api_Entry; exact (by decide); exact okV; exact rfl; exact rfl; exact rfl) ?_; rintro lb
    refine h_act rfl (a_makes  [] 0 (ent_of Try.func22 (by kernel_rfl) rfl) (fun w hH => copye_does w lb [x] ⟨hH.vec 0 rfl okV, fun z hz => by rw [List.mem_singleton.1 hz]; exact (arg80 hx hH)⟩ (by simp) (fun z hz => by rw [List.mem_singleton.1 hz]; exact hdl)) rfl rfl rfl (fun _ => rfl) rfl rfl rfl) ?_; rintro ⟨ev, os⟩
    refine WL2.keep (env' := [(0, .agg #[.int .i64 x.e.k, .int .u64 x.e.t, .int .u64 x.e.i, x.v, .int .i64 x.e.c]), (2, .pointer (some ⟨g2, 0, none⟩)), (4, .bool false), (1, .bool false), (12, .agg #[.int .i64 x.e.k, .int .u64 x.e.t, .int .u64 x.e.i, x.v, .int .i64 x.e.c]), (13, .bool false), (14, .agg #[.int .i64 x.e.k, .int .u64 x.e.t, .int .u64 x.e.i, x.v, .int .i64 x.e.c]), (15, .agg #[.int .i64 x.e.k, .int .u64 x.e.t, .int .u64 x.e.i, x.v, .int .i64 x.e.c]), (16, lb), (17, ev)]) ⟨rfl, rfl, rfl, rfl, rfl, rfl, rfl, rfl, rfl, rfl, trivial⟩ ?_
    refine WL2.mid [Ents 36 ev os, fact (os.map (·.e) = [x].map (·.e)), Vec 36 5 encV lb ([x]), cell g2 36 #[.int .i64 x.e.k, .int .u64 x.e.t, .int .u64 x.e.i, x.v, .int .i64 x.e.c]] (.refl _) ?_
    refine WL2.fact 1 rfl (fun _ h => h.2) ?_; rintro hos
    refine WL2.leave [1] rfl rfl ?_
    obtain ⟨o, rfl, hoe⟩ := one_of hos
    refine WL2.keep (env' := [(0, .agg #[.int .i64 x.e.k, .int .u64 x.e.t, .int .u64 x.e.i, x.v, .int .i64 x.e.c]), (2, .pointer (some ⟨g2, 0, none⟩)), (4, .bool false), (1, .bool false), (12, .agg #[.int .i64 x.e.k, .int .u64 x.e.t, .int .u64 x.e.i, x.v, .int .i64 x.e.c]), (13, .bool false), (14, .agg #[.int .i64 x.e.k, .int .u64 x.e.t, .int .u64 x.e.i, x.v, .int .i64 x.e.c]), (15, .agg #[.int .i64 x.e.k, .int .u64 x.e.t, .int .u64 x.e.i, x.v, .int .i64 x.e.c]), (16, lb), (17, ev)]) ⟨rfl, rfl, rfl, rfl, rfl, rfl, rfl, rfl, rfl, rfl, trivial⟩ ?_
    refine WL2.mid [Ents 36 ev ([o]), Vec 36 5 encV lb ([x]), cell g2 36 #[.int .i64 x.e.k, .int .u64 x.e.t, .int .u64 x.e.i, x.v, .int .i64 x.e.c]] (.refl _) ?_
    refine h_val rfl (elp ev (0 * 5)) (fun b w hb hH => e_sidx okV ((hH.ents 0 rfl).1) sl_api_Entry (j := 0) rfl rfl rfl rfl hb) ?_
    refine h_val rfl (.agg (encV o).toArray) (fun b w hb hH => e_sagg okV (by decide) ((hH.ents 0 rfl).1) (j := 0) rfl ty_api_Entry rfl rfl hb) ?_
    refine h_act (post := fun g5 => [cell g5 36 #[.int .i64 0, .int .u64 0, .int .u64 0, .slice none 0 0, .int .i64 0], Ents 36 ev ([o]), Vec 36 5 encV lb ([x]), cell g2 36 #[.int .i64 x.e.k, .int .u64 x.e.t, .int .u64 x.e.i, x.v, .int .i64 x.e.c]]) rfl (a_alloc ze_api_Entry rfl) ?_; rintro g5
    refine h_acts (post := fun _ => [cell g5 36 #[.int .i64 o.e.k, .int .u64 o.e.t, .int .u64 o.e.i, o.v, .int .i64 o.e.c], Ents 36 ev ([o]), Vec 36 5 encV lb ([x]), cell g2 36 #[.int .i64 x.e.k, .int .u64 x.e.t, .int .u64 x.e.i, x.v, .int .i64 x.e.c]]) rfl rfl (a_store 0 (v := .agg (encV o).toArray) #[.int .i64 o.e.k, .int .u64 o.e.t, .int .u64 o.e.i, o.v, .int .i64 o.e.c] ty_api_Entry.2 rfl rfl rfl rfl rfl rfl rfl rfl rfl) ?_; rintro ⟨⟩
    refine h_done ?_
    rcases Bool.eq_false_or_eq_true (rightE x.e) with hr | hr
    · skip
      refine d_reg ?_
      refine h_q hflS rfl ?_
      refine h_val rfl (.agg #[.int .i64 o.e.k, .int .u64 o.e.t, .int .u64 o.e.i, o.v, .int .i64 o.e.c]) (fun b w hb hH => exec_load rfl rfl (reads_agg (cs := [.int .i64 o.e.k, .int .u64 o.e.t, .int .u64 o.e.i, o.v, .int .i64 o.e.c]) ty_api_Entry rfl) (hH.row 0 rfl) hb) ?_
      refine h_act (post := fun v6 => [Vec 5 1 encB v6 (layE o.e), cell g5 36 #[.int .i64 o.e.k, .int .u64 o.e.t, .int .u64 o.e.i, o.v, .int .i64 o.e.c], Ents 36 ev ([o]), Vec 36 5 encV lb ([x]), cell g2 36 #[.int .i64 x.e.k, .int .u64 x.e.t, .int .u64 x.e.i, x.v, .int .i64 x.e.c]]) rfl (a_makes (os' := fun v6 => [Vec 5 1 encB v6 (layE o.e), cell g5 36 #[.int .i64 o.e.k, .int .u64 o.e.t, .int .u64 o.e.i, o.v, .int .i64 o.e.c], Ents 36 ev ([o]), Vec 36 5 encV lb ([x]), cell g2 36 #[.int .i64 x.e.k, .int .u64 x.e.t, .int .u64 x.e.i, x.v, .int .i64 x.e.c]]) [] 0 (ent_of Try.func16 (by kernel_rfl) rfl) (fun w hH => laye_does w o ((hH.ents 1 rfl).2 o (List.mem_singleton.2 rfl)) (by rw [hoe]; exact hr)) rfl rfl rfl (fun _ => rfl) rfl rfl rfl) ?_; rintro v6
      refine h_q hflS rfl ?_
      refine h_done (d_reg ?_)
      refine h_q hflS rfl ?_
      refine h_val rfl (.agg #[.int .i64 x.e.k, .int .u64 x.e.t, .int .u64 x.e.i, x.v, .int .i64 x.e.c]) (fun b w hb hH => exec_load rfl rfl (reads_agg (cs := [.int .i64 x.e.k, .int .u64 x.e.t, .int .u64 x.e.i, x.v, .int .i64 x.e.c]) ty_api_Entry rfl) (hH.row 4 rfl) hb) ?_
      refine h_act (post := fun v8 => [Vec 5 1 encB v8 (layE x.e), Vec 5 1 encB v6 (layE o.e), cell g5 36 #[.int .i64 o.e.k, .int .u64 o.e.t, .int .u64 o.e.i, o.v, .int .i64 o.e.c], Ents 36 ev ([o]), Vec 36 5 encV lb ([x]), cell g2 36 #[.int .i64 x.e.k, .int .u64 x.e.t, .int .u64 x.e.i, x.v, .int .i64 x.e.c]]) rfl (a_makes (os' := fun v8 => [Vec 5 1 encB v8 (layE x.e), Vec 5 1 encB v6 (layE o.e), cell g5 36 #[.int .i64 o.e.k, .int .u64 o.e.t, .int .u64 o.e.i, o.v, .int .i64 o.e.c], Ents 36 ev ([o]), Vec 36 5 encV lb ([x]), cell g2 36 #[.int .i64 x.e.k, .int .u64 x.e.t, .int .u64 x.e.i, x.v, .int .i64 x.e.c]]) [] 0 (ent_of Try.func23 (by kernel_rfl) rfl) (fun w hH => rlaye_does w x (arg80 hx hH) hr) rfl rfl rfl (fun _ => rfl) rfl rfl rfl) ?_; rintro v8
      refine h_q hflS rfl ?_
      refine h_done (d_seq (d_seq ?_))
      refine d_parS 27 4 [⟨.actv 0, [some false, some false, some false, some false], fun _ => .bool true, []⟩, ⟨.quiet, [some true, none, none, none], fun _ => .bool false, [0]⟩, ⟨.quiet, [some true, none, none, none], fun _ => .bool false, [1]⟩, ⟨.quiet, [some true, none, none, none], fun _ => v6, [2]⟩, ⟨.quiet, [some true, none, none, none], fun _ => .string (bs (layE o.e)), [3, 2]⟩, ⟨.quiet, [some true, none, none, none], fun _ => v8, [2]⟩, ⟨.quiet, [some true, none, none, none], fun _ => .string (bs (layE x.e)), [5, 2]⟩, ⟨.quiet, [some true, none, none, none], fun _ => .bool false, [4, 6, 2]⟩, ⟨.quiet, [some true, none, none, none], fun _ => .bool false, [2, 7]⟩, ⟨.quiet, [some true, none, none, none], fun _ => .bool false, [8]⟩, ⟨.quiet, [some true, none, none, none], fun _ => .int .i64 0, [9]⟩, ⟨.quiet, [some true, none, none, none], fun _ => .int .i64 0, [9]⟩, ⟨.quiet, [some true, none, none, none], fun _ => .bool false, [10, 11, 9]⟩, ⟨.quiet, [some true, none, none, none], fun _ => .bool false, [9, 12]⟩, ⟨.quiet, [some true, none, none, none], fun _ => .bool false, [13]⟩, ⟨.quiet, [some true, none, none, none], fun _ => .agg #[.int .i64 o.e.k, .int .u64 o.e.t, .int .u64 o.e.i, o.v, .int .i64 o.e.c], [14]⟩, ⟨.actv 1, [some true, some false, some false, some false], fun _ => .bool true, [15, 14]⟩, ⟨.quiet, [some true, none, none, none], fun _ => .agg #[.int .i64 x.e.k, .int .u64 x.e.t, .int .u64 x.e.i, x.v, .int .i64 x.e.c], [14]⟩, ⟨.actv 2, [some true, some true, some false, some false], fun _ => .bool true, [17, 14]⟩, ⟨.quiet, [some true, some true, some true, none], fun _ => .bool false, [16, 18, 14]⟩, ⟨.quiet, [some true, some true, some true, none], fun _ => .bool false, [14, 19]⟩, ⟨.quiet, [some true, some true, some true, none], fun _ => .bool false, [20]⟩, ⟨.quiet, [some true, some true, some true, none], fun _ => .agg #[.int .i64 o.e.k, .int .u64 o.e.t, .int .u64 o.e.i, o.v, .int .i64 o.e.c], [21]⟩, ⟨.quiet, [some true, some true, some true, none], fun _ => .agg #[.int .i64 x.e.k, .int .u64 x.e.t, .int .u64 x.e.i, x.v, .int .i64 x.e.c], [21]⟩, ⟨.actv 3, [some true, some true, some true, some false], fun _ => .bool true, [22, 23, 21]⟩, ⟨.quiet, [some true, some true, some true, some true], fun _ => .bool false, [24, 21]⟩, ⟨.quiet, [some true, some true, some true, some true], fun _ => .bool false, [21, 25]⟩] [(2, .pointer (some ⟨g2, 0, none⟩)), (4, .bool false), (5, .pointer (some ⟨g5, 0, none⟩)), (6, v6), (7, .int .i64 0), (8, v8), (9, .int .i64 0)] (fun ρ => match ρ with | [r0, r1, r2, r3] => [Vec 5 1 encB v8 (layE x.e), Vec 5 1 encB v6 (layE o.e), cell g5 36 #[.int .i64 o.e.k, .int .u64 o.e.t, .int .u64 o.e.i, o.v, .int .i64 o.e.c], Ents 36 ev ([o]), Vec 36 5 encV lb ([x]), cell g2 36 #[.int .i64 x.e.k, .int .u64 x.e.t, .int .u64 x.e.i, x.v, .int .i64 x.e.c]] | _ => []) (by kernel_rfl) (by kernel_rfl) ⟨rfl, rfl, rfl, rfl, rfl, rfl, rfl, trivial⟩ rfl ?_ ?_
      · skip
        refine s_cons (by exact ⟨rfl, Acts.su (a_call (ent_of Try.func17 (by kernel_rfl) rfl) (fun w hH => known6_true w) rfl rfl rfl) rfl⟩) ?_
        refine s_cons (by intro v0_ r1_ r2_ r3_; exact ⟨rfl, fun b w hH hb => exec_q1 hflS rfl hb⟩) ?_
        refine s_cons (by intro v0_ r1_ r2_ r3_; exact ⟨rfl, fun b w hH hb => exec_q1 hflS rfl hb⟩) ?_
        refine s_cons (by intro v0_ r1_ r2_ r3_; exact ⟨rfl, fun b w hH hb => exec_q1 hflS rfl hb⟩) ?_
        refine s_cons (by intro v0_ r1_ r2_ r3_; exact ⟨rfl, fun b w hH hb => exec_str8 Try.underlying26 Try.underlying5 (by kernel_rfl) Try.underlying9 (hH.sl8 1 rfl) rfl rfl hb⟩) ?_
        refine s_cons (by intro v0_ r1_ r2_ r3_; exact ⟨rfl, fun b w hH hb => exec_q1 hflS rfl hb⟩) ?_
        refine s_cons (by intro v0_ r1_ r2_ r3_; exact ⟨rfl, fun b w hH hb => exec_str8 Try.underlying26 Try.underlying5 (by kernel_rfl) Try.underlying9 (hH.sl8 0 rfl) rfl rfl hb⟩) ?_
        refine s_cons (by intro v0_ r1_ r2_ r3_; exact ⟨rfl, fun b w hH hb => exec_sneq (l := layE o.e) (m := layE x.e) (by rw [hoe]; simp) rfl rfl rfl hb⟩) ?_
        refine s_cons (by intro v0_ r1_ r2_ r3_; exact ⟨rfl, fun b w hH hb => exec_q1 hflS rfl hb⟩) ?_
        refine s_cons (by intro v0_ r1_ r2_ r3_; exact ⟨rfl, fun b w hH hb => exec_q1 hflS rfl hb⟩) ?_
        refine s_cons (by intro v0_ r1_ r2_ r3_; exact ⟨rfl, fun b w hH hb => exec_q1 hflS rfl hb⟩) ?_
        refine s_cons (by intro v0_ r1_ r2_ r3_; exact ⟨rfl, fun b w hH hb => exec_q1 hflS rfl hb⟩) ?_
        refine s_cons (by intro v0_ r1_ r2_ r3_; exact ⟨rfl, fun b w hH hb => exec_cmp rfl rfl rfl (cmp_neq_f (by decide)) hb⟩) ?_
        refine s_cons (by intro v0_ r1_ r2_ r3_; exact ⟨rfl, fun b w hH hb => exec_q1 hflS rfl hb⟩) ?_
        refine s_cons (by intro v0_ r1_ r2_ r3_; exact ⟨rfl, fun b w hH hb => exec_q1 hflS rfl hb⟩) ?_
        refine s_cons (by intro v0_ r1_ r2_ r3_; exact ⟨rfl, fun b w hH hb => exec_load rfl rfl (reads_agg (cs := [.int .i64 o.e.k, .int .u64 o.e.t, .int .u64 o.e.i, o.v, .int .i64 o.e.c]) ty_api_Entry rfl) (hH.row 2 rfl) hb⟩) ?_
        refine s_cons (by intro v0_; exact ⟨rfl, Acts.su (a_call (ent_of Try.func20 (by kernel_rfl) rfl) (fun w hH => rightE_any w o ((hH.ents 3 rfl).2 o (List.mem_singleton.2 rfl)) true (by rw [hoe]; exact hr)) rfl rfl rfl) rfl⟩) ?_
        refine s_cons (by intro v0_ r1_ r2_ r3_; exact ⟨rfl, fun b w hH hb => exec_load rfl rfl (reads_agg (cs := [.int .i64 x.e.k, .int .u64 x.e.t, .int .u64 x.e.i, x.v, .int .i64 x.e.c]) ty_api_Entry rfl) (hH.row 5 rfl) hb⟩) ?_
        refine s_cons (by intro v0_ v1_; exact ⟨rfl, Acts.su (a_call (ent_of Try.func24 (by kernel_rfl) rfl) (fun w hH => rrightE_any w x (arg80 hx hH) true hr) rfl rfl rfl) rfl⟩) ?_
        refine s_cons (by intro v0_ v1_ v2_ r3_; exact ⟨rfl, fun b w hH hb => exec_nes (neB true true) rfl rfl rfl hb⟩) ?_
        refine s_cons (by intro v0_ v1_ v2_ r3_; exact ⟨rfl, fun b w hH hb => exec_q1 hflS rfl hb⟩) ?_
        refine s_cons (by intro v0_ v1_ v2_ r3_; exact ⟨rfl, fun b w hH hb => exec_q1 hflS rfl hb⟩) ?_
        refine s_cons (by intro v0_ v1_ v2_ r3_; exact ⟨rfl, fun b w hH hb => exec_load rfl rfl (reads_agg (cs := [.int .i64 o.e.k, .int .u64 o.e.t, .int .u64 o.e.i, o.v, .int .i64 o.e.c]) ty_api_Entry rfl) (hH.row 2 rfl) hb⟩) ?_
        refine s_cons (by intro v0_ v1_ v2_ r3_; exact ⟨rfl, fun b w hH hb => exec_load rfl rfl (reads_agg (cs := [.int .i64 x.e.k, .int .u64 x.e.t, .int .u64 x.e.i, x.v, .int .i64 x.e.c]) ty_api_Entry rfl) (hH.row 5 rfl) hb⟩) ?_
        refine s_cons (by intro v0_ v1_ v2_; exact ⟨rfl, Acts.su (a_call (ent_of Try.func25 (by kernel_rfl) rfl) (fun w hH => samee_true w o x ((hH.ents 3 rfl).2 o (List.mem_singleton.2 rfl)) (arg80 hx hH) hoe) rfl rfl rfl) rfl⟩) ?_
        refine s_cons (by intro v0_ v1_ v2_ v3_; exact ⟨rfl, fun b w hH hb => exec_q1 hflS rfl hb⟩) ?_
        refine s_cons (by intro v0_ v1_ v2_ v3_; exact ⟨rfl, fun b w hH hb => exec_q1 hflS rfl hb⟩) ?_
        exact s_nil
      intro v0_ v1_ v2_ v3_
      refine WL2.keep (env' := [(2, .pointer (some ⟨g2, 0, none⟩)), (4, .bool false), (6, v6), (7, .int .i64 0), (56, .bool false)]) ⟨rfl, rfl, rfl, rfl, rfl, trivial⟩ ?_
      refine h_nil (f_to (d_else rfl (d_skip (f_to (d_reg ?_)))))
      refine h_q hflS rfl ?_
      refine h_act rfl (a_makes  [] 0 (ent_of Try.func26 (by kernel_rfl) rfl) (fun w hH => reade_does w v6 (layE o.e) (hH.sl8 1 rfl) (by have h := layE_len (e := o.e) (by rw [hoe]; exact hr); omega) o.e 0 (decE_lay (by rw [hoe]; exact hr))) rfl rfl rfl (fun _ => rfl) rfl rfl rfl) ?_; rintro ⟨A3, c3⟩
      refine h_q hflS rfl ?_
      refine h_act (post := fun g10 => [cell g10 36 #[.int .i64 0, .int .u64 0, .int .u64 0, .slice none 0 0, .int .i64 0], Vec 5 1 encB (.slice A3 o.e.d.length c3) o.e.d, Vec 5 1 encB v8 (layE x.e), Vec 5 1 encB v6 (layE o.e), cell g5 36 #[.int .i64 o.e.k, .int .u64 o.e.t, .int .u64 o.e.i, o.v, .int .i64 o.e.c], Ents 36 ev ([o]), Vec 36 5 encV lb ([x]), cell g2 36 #[.int .i64 x.e.k, .int .u64 x.e.t, .int .u64 x.e.i, x.v, .int .i64 x.e.c]]) rfl (a_alloc ze_api_Entry rfl) ?_; rintro g10
      refine h_acts (post := fun _ => [cell g10 36 #[.int .i64 o.e.k, .int .u64 o.e.t, .int .u64 o.e.i, .slice A3 o.e.d.length c3, .int .i64 o.e.c], Vec 5 1 encB (.slice A3 o.e.d.length c3) o.e.d, Vec 5 1 encB v8 (layE x.e), Vec 5 1 encB v6 (layE o.e), cell g5 36 #[.int .i64 o.e.k, .int .u64 o.e.t, .int .u64 o.e.i, o.v, .int .i64 o.e.c], Ents 36 ev ([o]), Vec 36 5 encV lb ([x]), cell g2 36 #[.int .i64 x.e.k, .int .u64 x.e.t, .int .u64 x.e.i, x.v, .int .i64 x.e.c]]) rfl rfl (a_store 0 (v := .agg #[.int .i64 o.e.k, .int .u64 o.e.t, .int .u64 o.e.i, .slice A3 o.e.d.length c3, .int .i64 o.e.c]) #[.int .i64 o.e.k, .int .u64 o.e.t, .int .u64 o.e.i, .slice A3 o.e.d.length c3, .int .i64 o.e.c] ty_api_Entry.2 rfl rfl rfl rfl rfl rfl rfl rfl rfl) ?_; rintro ⟨⟩
      refine h_q hflS rfl ?_
      refine h_done (d_reg ?_)
      refine h_q hflS rfl ?_
      refine h_val rfl (.bool false) (fun b w hb hH => exec_cmp rfl rfl rfl (cmp_neq_f (by decide)) hb) ?_
      refine h_q hflS rfl ?_
      refine h_val rfl (.bool true) (fun b w hb hH => exec_cmp rfl rfl rfl (cmp_eql_t (by decide)) hb) ?_
      refine h_q hflS rfl ?_
      refine h_val rfl (.agg #[.int .i64 o.e.k, .int .u64 o.e.t, .int .u64 o.e.i, .slice A3 o.e.d.length c3, .int .i64 o.e.c]) (fun b w hb hH => exec_load rfl rfl (reads_agg (cs := [.int .i64 o.e.k, .int .u64 o.e.t, .int .u64 o.e.i, .slice A3 o.e.d.length c3, .int .i64 o.e.c]) ty_api_Entry rfl) (hH.row 0 rfl) hb) ?_
      refine h_val rfl (.agg #[.int .i64 x.e.k, .int .u64 x.e.t, .int .u64 x.e.i, x.v, .int .i64 x.e.c]) (fun b w hb hH => exec_load rfl rfl (reads_agg (cs := [.int .i64 x.e.k, .int .u64 x.e.t, .int .u64 x.e.i, x.v, .int .i64 x.e.c]) ty_api_Entry rfl) (hH.row 7 rfl) hb) ?_
      refine h_act (post := fun _ => [cell g10 36 #[.int .i64 o.e.k, .int .u64 o.e.t, .int .u64 o.e.i, .slice A3 o.e.d.length c3, .int .i64 o.e.c], Vec 5 1 encB (.slice A3 o.e.d.length c3) o.e.d, Vec 5 1 encB v8 (layE x.e), Vec 5 1 encB v6 (layE o.e), cell g5 36 #[.int .i64 o.e.k, .int .u64 o.e.t, .int .u64 o.e.i, o.v, .int .i64 o.e.c], Ents 36 ev ([o]), Vec 36 5 encV lb ([x]), cell g2 36 #[.int .i64 x.e.k, .int .u64 x.e.t, .int .u64 x.e.i, x.v, .int .i64 x.e.c]]) rfl (a_call (ent_of Try.func25 (by kernel_rfl) rfl) (fun w hH => samee_true w ⟨o.e, A3, c3⟩ x (hH.sl8 1 rfl) (arg80 hx hH) hoe) rfl rfl rfl) ?_; rintro ⟨⟩
      refine h_q hflS rfl ?_
      refine h_done (d_ret ?_)
      exact f_fin1 (.tmp rfl) (fun w h => ⟨rfl, below0 h.up⟩) rfl
    · skip
      refine d_reg ?_
      refine h_q hflS rfl ?_
      refine h_val rfl (.agg #[.int .i64 o.e.k, .int .u64 o.e.t, .int .u64 o.e.i, o.v, .int .i64 o.e.c]) (fun b w hb hH => exec_load rfl rfl (reads_agg (cs := [.int .i64 o.e.k, .int .u64 o.e.t, .int .u64 o.e.i, o.v, .int .i64 o.e.c]) ty_api_Entry rfl) (hH.row 0 rfl) hb) ?_
      refine h_act (post := fun _ => [cell g5 36 #[.int .i64 o.e.k, .int .u64 o.e.t, .int .u64 o.e.i, o.v, .int .i64 o.e.c], Ents 36 ev ([o]), Vec 36 5 encV lb ([x]), cell g2 36 #[.int .i64 x.e.k, .int .u64 x.e.t, .int .u64 x.e.i, x.v, .int .i64 x.e.c]]) rfl (a_call (ent_of Try.func16 (by kernel_rfl) rfl) (fun w hH => laye_bad w o ((hH.ents 1 rfl).2 o (List.mem_singleton.2 rfl)) (by rw [hoe]; exact hr)) rfl rfl rfl) ?_; rintro ⟨⟩
      refine h_q hflS rfl ?_
      refine h_done (d_reg ?_)
      refine h_q hflS rfl ?_
      refine h_val rfl (.agg #[.int .i64 x.e.k, .int .u64 x.e.t, .int .u64 x.e.i, x.v, .int .i64 x.e.c]) (fun b w hb hH => exec_load rfl rfl (reads_agg (cs := [.int .i64 x.e.k, .int .u64 x.e.t, .int .u64 x.e.i, x.v, .int .i64 x.e.c]) ty_api_Entry rfl) (hH.row 3 rfl) hb) ?_
      refine h_act (post := fun _ => [cell g5 36 #[.int .i64 o.e.k, .int .u64 o.e.t, .int .u64 o.e.i, o.v, .int .i64 o.e.c], Ents 36 ev ([o]), Vec 36 5 encV lb ([x]), cell g2 36 #[.int .i64 x.e.k, .int .u64 x.e.t, .int .u64 x.e.i, x.v, .int .i64 x.e.c]]) rfl (a_call (ent_of Try.func23 (by kernel_rfl) rfl) (fun w hH => rlaye_bad w x (arg80 hx hH) hr) rfl rfl rfl) ?_; rintro ⟨⟩
      refine h_q hflS rfl ?_
      refine h_done (d_seq (d_seq ?_))
      refine d_parS 27 4 [⟨.actv 0, [some false, some false, some false, some false], fun _ => .bool true, []⟩, ⟨.quiet, [some true, none, none, none], fun _ => .bool false, [0]⟩, ⟨.quiet, [some true, none, none, none], fun _ => .bool false, [1]⟩, ⟨.quiet, [some true, none, none, none], fun _ => .slice none 0 0, [2]⟩, ⟨.quiet, [some true, none, none, none], fun _ => .string (bs ([])), [3, 2]⟩, ⟨.quiet, [some true, none, none, none], fun _ => .slice none 0 0, [2]⟩, ⟨.quiet, [some true, none, none, none], fun _ => .string (bs ([])), [5, 2]⟩, ⟨.quiet, [some true, none, none, none], fun _ => .bool false, [4, 6, 2]⟩, ⟨.quiet, [some true, none, none, none], fun _ => .bool false, [2, 7]⟩, ⟨.quiet, [some true, none, none, none], fun _ => .bool false, [8]⟩, ⟨.quiet, [some true, none, none, none], fun _ => .int .i64 1, [9]⟩, ⟨.quiet, [some true, none, none, none], fun _ => .int .i64 1, [9]⟩, ⟨.quiet, [some true, none, none, none], fun _ => .bool false, [10, 11, 9]⟩, ⟨.quiet, [some true, none, none, none], fun _ => .bool false, [9, 12]⟩, ⟨.quiet, [some true, none, none, none], fun _ => .bool false, [13]⟩, ⟨.quiet, [some true, none, none, none], fun _ => .agg #[.int .i64 o.e.k, .int .u64 o.e.t, .int .u64 o.e.i, o.v, .int .i64 o.e.c], [14]⟩, ⟨.actv 1, [some true, some false, some false, some false], fun _ => .bool false, [15, 14]⟩, ⟨.quiet, [some true, none, none, none], fun _ => .agg #[.int .i64 x.e.k, .int .u64 x.e.t, .int .u64 x.e.i, x.v, .int .i64 x.e.c], [14]⟩, ⟨.actv 2, [some true, some true, some false, some false], fun _ => .bool false, [17, 14]⟩, ⟨.quiet, [some true, some true, some true, none], fun _ => .bool false, [16, 18, 14]⟩, ⟨.quiet, [some true, some true, some true, none], fun _ => .bool false, [14, 19]⟩, ⟨.quiet, [some true, some true, some true, none], fun _ => .bool false, [20]⟩, ⟨.quiet, [some true, some true, some true, none], fun _ => .agg #[.int .i64 o.e.k, .int .u64 o.e.t, .int .u64 o.e.i, o.v, .int .i64 o.e.c], [21]⟩, ⟨.quiet, [some true, some true, some true, none], fun _ => .agg #[.int .i64 x.e.k, .int .u64 x.e.t, .int .u64 x.e.i, x.v, .int .i64 x.e.c], [21]⟩, ⟨.actv 3, [some true, some true, some true, some false], fun _ => .bool true, [22, 23, 21]⟩, ⟨.quiet, [some true, some true, some true, some true], fun _ => .bool false, [24, 21]⟩, ⟨.quiet, [some true, some true, some true, some true], fun _ => .bool false, [21, 25]⟩] [(2, .pointer (some ⟨g2, 0, none⟩)), (4, .bool false), (5, .pointer (some ⟨g5, 0, none⟩)), (6, .slice none 0 0), (7, .int .i64 1), (8, .slice none 0 0), (9, .int .i64 1)] (fun ρ => match ρ with | [r0, r1, r2, r3] => [cell g5 36 #[.int .i64 o.e.k, .int .u64 o.e.t, .int .u64 o.e.i, o.v, .int .i64 o.e.c], Ents 36 ev ([o]), Vec 36 5 encV lb ([x]), cell g2 36 #[.int .i64 x.e.k, .int .u64 x.e.t, .int .u64 x.e.i, x.v, .int .i64 x.e.c]] | _ => []) (by kernel_rfl) (by kernel_rfl) ⟨rfl, rfl, rfl, rfl, rfl, rfl, rfl, trivial⟩ rfl ?_ ?_
      · skip
        refine s_cons (by exact ⟨rfl, Acts.su (a_call (ent_of Try.func17 (by kernel_rfl) rfl) (fun w hH => known6_true w) rfl rfl rfl) rfl⟩) ?_
        refine s_cons (by intro v0_ r1_ r2_ r3_; exact ⟨rfl, fun b w hH hb => exec_q1 hflS rfl hb⟩) ?_
        refine s_cons (by intro v0_ r1_ r2_ r3_; exact ⟨rfl, fun b w hH hb => exec_q1 hflS rfl hb⟩) ?_
        refine s_cons (by intro v0_ r1_ r2_ r3_; exact ⟨rfl, fun b w hH hb => exec_q1 hflS rfl hb⟩) ?_
        refine s_cons (by intro v0_ r1_ r2_ r3_; exact ⟨rfl, fun b w hH hb => exec_str8 Try.underlying26 Try.underlying5 (by kernel_rfl) Try.underlying9 (sl8_nil w) rfl rfl hb⟩) ?_
        refine s_cons (by intro v0_ r1_ r2_ r3_; exact ⟨rfl, fun b w hH hb => exec_q1 hflS rfl hb⟩) ?_
        refine s_cons (by intro v0_ r1_ r2_ r3_; exact ⟨rfl, fun b w hH hb => exec_str8 Try.underlying26 Try.underlying5 (by kernel_rfl) Try.underlying9 (sl8_nil w) rfl rfl hb⟩) ?_
        refine s_cons (by intro v0_ r1_ r2_ r3_; exact ⟨rfl, fun b w hH hb => exec_sneq (l := []) (m := []) (by simp) rfl rfl rfl hb⟩) ?_
        refine s_cons (by intro v0_ r1_ r2_ r3_; exact ⟨rfl, fun b w hH hb => exec_q1 hflS rfl hb⟩) ?_
        refine s_cons (by intro v0_ r1_ r2_ r3_; exact ⟨rfl, fun b w hH hb => exec_q1 hflS rfl hb⟩) ?_
        refine s_cons (by intro v0_ r1_ r2_ r3_; exact ⟨rfl, fun b w hH hb => exec_q1 hflS rfl hb⟩) ?_
        refine s_cons (by intro v0_ r1_ r2_ r3_; exact ⟨rfl, fun b w hH hb => exec_q1 hflS rfl hb⟩) ?_
        refine s_cons (by intro v0_ r1_ r2_ r3_; exact ⟨rfl, fun b w hH hb => exec_cmp rfl rfl rfl (cmp_neq_f (by decide)) hb⟩) ?_
        refine s_cons (by intro v0_ r1_ r2_ r3_; exact ⟨rfl, fun b w hH hb => exec_q1 hflS rfl hb⟩) ?_
        refine s_cons (by intro v0_ r1_ r2_ r3_; exact ⟨rfl, fun b w hH hb => exec_q1 hflS rfl hb⟩) ?_
        refine s_cons (by intro v0_ r1_ r2_ r3_; exact ⟨rfl, fun b w hH hb => exec_load rfl rfl (reads_agg (cs := [.int .i64 o.e.k, .int .u64 o.e.t, .int .u64 o.e.i, o.v, .int .i64 o.e.c]) ty_api_Entry rfl) (hH.row 0 rfl) hb⟩) ?_
        refine s_cons (by intro v0_; exact ⟨rfl, Acts.su (a_call (ent_of Try.func20 (by kernel_rfl) rfl) (fun w hH => rightE_any w o ((hH.ents 1 rfl).2 o (List.mem_singleton.2 rfl)) false (by rw [hoe]; exact hr)) rfl rfl rfl) rfl⟩) ?_
        refine s_cons (by intro v0_ r1_ r2_ r3_; exact ⟨rfl, fun b w hH hb => exec_load rfl rfl (reads_agg (cs := [.int .i64 x.e.k, .int .u64 x.e.t, .int .u64 x.e.i, x.v, .int .i64 x.e.c]) ty_api_Entry rfl) (hH.row 3 rfl) hb⟩) ?_
        refine s_cons (by intro v0_ v1_; exact ⟨rfl, Acts.su (a_call (ent_of Try.func24 (by kernel_rfl) rfl) (fun w hH => rrightE_any w x (arg80 hx hH) false hr) rfl rfl rfl) rfl⟩) ?_
        refine s_cons (by intro v0_ v1_ v2_ r3_; exact ⟨rfl, fun b w hH hb => exec_nes (neB false false) rfl rfl rfl hb⟩) ?_
        refine s_cons (by intro v0_ v1_ v2_ r3_; exact ⟨rfl, fun b w hH hb => exec_q1 hflS rfl hb⟩) ?_
        refine s_cons (by intro v0_ v1_ v2_ r3_; exact ⟨rfl, fun b w hH hb => exec_q1 hflS rfl hb⟩) ?_
        refine s_cons (by intro v0_ v1_ v2_ r3_; exact ⟨rfl, fun b w hH hb => exec_load rfl rfl (reads_agg (cs := [.int .i64 o.e.k, .int .u64 o.e.t, .int .u64 o.e.i, o.v, .int .i64 o.e.c]) ty_api_Entry rfl) (hH.row 0 rfl) hb⟩) ?_
        refine s_cons (by intro v0_ v1_ v2_ r3_; exact ⟨rfl, fun b w hH hb => exec_load rfl rfl (reads_agg (cs := [.int .i64 x.e.k, .int .u64 x.e.t, .int .u64 x.e.i, x.v, .int .i64 x.e.c]) ty_api_Entry rfl) (hH.row 3 rfl) hb⟩) ?_
        refine s_cons (by intro v0_ v1_ v2_; exact ⟨rfl, Acts.su (a_call (ent_of Try.func25 (by kernel_rfl) rfl) (fun w hH => samee_true w o x ((hH.ents 1 rfl).2 o (List.mem_singleton.2 rfl)) (arg80 hx hH) hoe) rfl rfl rfl) rfl⟩) ?_
        refine s_cons (by intro v0_ v1_ v2_ v3_; exact ⟨rfl, fun b w hH hb => exec_q1 hflS rfl hb⟩) ?_
        refine s_cons (by intro v0_ v1_ v2_ v3_; exact ⟨rfl, fun b w hH hb => exec_q1 hflS rfl hb⟩) ?_
        exact s_nil
      intro v0_ v1_ v2_ v3_
      refine WL2.keep (env' := [(2, .pointer (some ⟨g2, 0, none⟩)), (4, .bool false), (6, .slice none 0 0), (7, .int .i64 1), (56, .bool false)]) ⟨rfl, rfl, rfl, rfl, rfl, trivial⟩ ?_
      refine h_nil (f_to (d_else rfl (d_skip (f_to (d_reg ?_)))))
      refine h_q hflS rfl ?_
      refine h_act rfl (a_doesU (Below.refl _ _) (fun _ h => h.elim)  [] 0 (ent_of Try.func26 (by kernel_rfl) rfl) (reade_does w _ [] (sl8_nil w) (by decide) .zero 10 decE_nil) rfl rfl rfl (fun _ => rfl) rfl rfl rfl) ?_; rintro ⟨A3, c3⟩
      refine h_q hflS rfl ?_
      refine h_act (post := fun g10 => [cell g10 36 #[.int .i64 0, .int .u64 0, .int .u64 0, .slice none 0 0, .int .i64 0], Vec 5 1 encB (.slice A3 EntD.zero.d.length c3) EntD.zero.d, cell g5 36 #[.int .i64 o.e.k, .int .u64 o.e.t, .int .u64 o.e.i, o.v, .int .i64 o.e.c], Ents 36 ev ([o]), Vec 36 5 encV lb ([x]), cell g2 36 #[.int .i64 x.e.k, .int .u64 x.e.t, .int .u64 x.e.i, x.v, .int .i64 x.e.c]]) rfl (a_alloc ze_api_Entry rfl) ?_; rintro g10
      refine h_acts (post := fun _ => [cell g10 36 #[.int .i64 EntD.zero.k, .int .u64 EntD.zero.t, .int .u64 EntD.zero.i, .slice A3 EntD.zero.d.length c3, .int .i64 EntD.zero.c], Vec 5 1 encB (.slice A3 EntD.zero.d.length c3) EntD.zero.d, cell g5 36 #[.int .i64 o.e.k, .int .u64 o.e.t, .int .u64 o.e.i, o.v, .int .i64 o.e.c], Ents 36 ev ([o]), Vec 36 5 encV lb ([x]), cell g2 36 #[.int .i64 x.e.k, .int .u64 x.e.t, .int .u64 x.e.i, x.v, .int .i64 x.e.c]]) rfl rfl (a_store 0 (v := .agg #[.int .i64 EntD.zero.k, .int .u64 EntD.zero.t, .int .u64 EntD.zero.i, .slice A3 EntD.zero.d.length c3, .int .i64 EntD.zero.c]) #[.int .i64 EntD.zero.k, .int .u64 EntD.zero.t, .int .u64 EntD.zero.i, .slice A3 EntD.zero.d.length c3, .int .i64 EntD.zero.c] ty_api_Entry.2 rfl rfl rfl rfl rfl rfl rfl rfl rfl) ?_; rintro ⟨⟩
      refine h_q hflS rfl ?_
      refine h_done (d_reg ?_)
      refine h_q hflS rfl ?_
      refine h_val rfl (.bool true) (fun b w hb hH => exec_cmp rfl rfl rfl (cmp_neq_t (by decide)) hb) ?_
      refine h_q hflS rfl ?_
      refine h_done (d_ret ?_)
      exact f_fin1 (.tmp rfl) (fun w h => ⟨rfl, below0 h.up⟩) rfl
  · skip
    refine d_reg ?_
    refine h_q hflS rfl ?_
    refine h_val rfl (.agg #[.int .i64 x.e.k, .int .u64 x.e.t, .int .u64 x.e.i, x.v, .int .i64 x.e.c]) (fun b w hb hH => exec_load rfl rfl (reads_agg (cs := [.int .i64 x.e.k, .int .u64 x.e.t, .int .u64 x.e.i, x.v, .int .i64 x.e.c]) ty_api_Entry rfl) (hH.row 0 rfl) hb) ?_
    refine h_q hflS rfl ?_
    refine h_act (post := fun (y : EntV) => [Vec 5 1 encB y.v y.e.d, fact (y.e = handE (x.e.i % 1000) (x.e.t % 1000) x.e), cell g2 36 #[.int .i64 x.e.k, .int .u64 x.e.t, .int .u64 x.e.i, x.v, .int .i64 x.e.c]]) rfl (a_doesU (Below.refl _ _) (fun _ h => h.elim) (os' := fun (y : EntV) => [Vec 5 1 encB y.v y.e.d, fact (y.e = handE (x.e.i % 1000) (x.e.t % 1000) x.e), cell g2 36 #[.int .i64 x.e.k, .int .u64 x.e.t, .int .u64 x.e.i, x.v, .int .i64 x.e.c]]) [] 0 (ent_of Try.func21 (by kernel_rfl) rfl) (entry_does w x hx ho) rfl rfl rfl (fun _ => rfl) rfl rfl rfl) ?_; rintro y
    refine WL2.fact 1 rfl (fun _ h => h.2) ?_; rintro hye
    refine WL2.leave [1] rfl rfl ?_
    have hyr : rightE y.e = true := by
        rw [hye]
        exact handE_right ⟨Int.emod_nonneg _ (by decide), Int.emod_lt_of_pos _ (by decide)⟩ ⟨Int.emod_nonneg _ (by decide), Int.emod_lt_of_pos _ (by decide)⟩
    have hyd : y.e.d.length ≤ 128 := by
        rcases (rightE_iff hyr).2.2 with ⟨_, h, _⟩ | ⟨_, _, h, _⟩ | ⟨_, h, _⟩
        · rw [h]; simp
        · exact h
        · rw [h]; simp
    refine h_acts (post := fun _ => [Vec 5 1 encB y.v y.e.d, cell g2 36 #[.int .i64 y.e.k, .int .u64 y.e.t, .int .u64 y.e.i, y.v, .int .i64 y.e.c]]) rfl rfl (a_store 1 (v := .agg #[.int .i64 y.e.k, .int .u64 y.e.t, .int .u64 y.e.i, y.v, .int .i64 y.e.c]) #[.int .i64 y.e.k, .int .u64 y.e.t, .int .u64 y.e.i, y.v, .int .i64 y.e.c] ty_api_Entry.2 rfl rfl rfl rfl rfl rfl rfl rfl rfl) ?_; rintro ⟨⟩
    refine h_done ?_
    have hdl : y.e.d.length ≤ 140737488351232 := by omega
    refine d_reg ?_
    refine h_q hflS rfl ?_
    refine h_val rfl (.agg #[.int .i64 y.e.k, .int .u64 y.e.t, .int .u64 y.e.i, y.v, .int .i64 y.e.c]) (fun b w hb hH => exec_load rfl rfl (reads_agg (cs := [.int .i64 y.e.k, .int .u64 y.e.t, .int .u64 y.e.i, y.v, .int .i64 y.e.c]) ty_api_Entry rfl) (hH.row 1 rfl) hb) ?_
    refine h_act (X := Value) (val := fun v : Value => v) (post := fun lb => [Vec 36 5 encV lb ([y]), Vec 5 1 encB y.v y.e.d, cell g2 36 #[.int .i64 y.e.k, .int .u64 y.e.t, .int .u64 y.e.i, y.v, .int .i64 y.e.c]]) rfl (by refine a_buildK (e := 36) (t := 23) (k := 5) (enc := encV) (x := .tmp 15) (c := .agg #[.int .i64 y.e.k, .int .u64 y.e.t, .int .u64 y.e.i, y.v, .int .i64 y.e.c]) ?_ ?_ ?_ y ?_ ?_ ?_; exact sl_api_Entry; exact (by decide); exact okV; exact rfl; exact rfl; exact rfl) ?_; rintro lb
    refine h_act rfl (a_makes  [] 0 (ent_of Try.func22 (by kernel_rfl) rfl) (fun w hH => copye_does w lb [y] ⟨hH.vec 0 rfl okV, fun z hz => by rw [List.mem_singleton.1 hz]; exact (hH.sl8 1 rfl)⟩ (by simp) (fun z hz => by rw [List.mem_singleton.1 hz]; exact hdl)) rfl rfl rfl (fun _ => rfl) rfl rfl rfl) ?_; rintro ⟨ev, os⟩
    refine WL2.keep (env' := [(0, .agg #[.int .i64 x.e.k, .int .u64 x.e.t, .int .u64 x.e.i, x.v, .int .i64 x.e.c]), (2, .pointer (some ⟨g2, 0, none⟩)), (4, .bool false), (1, .bool true), (12, .agg #[.int .i64 x.e.k, .int .u64 x.e.t, .int .u64 x.e.i, x.v, .int .i64 x.e.c]), (13, .bool true), (14, .agg #[.int .i64 y.e.k, .int .u64 y.e.t, .int .u64 y.e.i, y.v, .int .i64 y.e.c]), (15, .agg #[.int .i64 y.e.k, .int .u64 y.e.t, .int .u64 y.e.i, y.v, .int .i64 y.e.c]), (16, lb), (17, ev)]) ⟨rfl, rfl, rfl, rfl, rfl, rfl, rfl, rfl, rfl, rfl, trivial⟩ ?_
    refine WL2.mid [Ents 36 ev os, fact (os.map (·.e) = [y].map (·.e)), Vec 36 5 encV lb ([y]), Vec 5 1 encB y.v y.e.d, cell g2 36 #[.int .i64 y.e.k, .int .u64 y.e.t, .int .u64 y.e.i, y.v, .int .i64 y.e.c]] (.refl _) ?_
    refine WL2.fact 1 rfl (fun _ h => h.2) ?_; rintro hos
    refine WL2.leave [1] rfl rfl ?_
    obtain ⟨o, rfl, hoe⟩ := one_of hos
    refine WL2.keep (env' := [(0, .agg #[.int .i64 x.e.k, .int .u64 x.e.t, .int .u64 x.e.i, x.v, .int .i64 x.e.c]), (2, .pointer (some ⟨g2, 0, none⟩)), (4, .bool false), (1, .bool true), (12, .agg #[.int .i64 x.e.k, .int .u64 x.e.t, .int .u64 x.e.i, x.v, .int .i64 x.e.c]), (13, .bool true), (14, .agg #[.int .i64 y.e.k, .int .u64 y.e.t, .int .u64 y.e.i, y.v, .int .i64 y.e.c]), (15, .agg #[.int .i64 y.e.k, .int .u64 y.e.t, .int .u64 y.e.i, y.v, .int .i64 y.e.c]), (16, lb), (17, ev)]) ⟨rfl, rfl, rfl, rfl, rfl, rfl, rfl, rfl, rfl, rfl, trivial⟩ ?_
    refine WL2.mid [Ents 36 ev ([o]), Vec 36 5 encV lb ([y]), Vec 5 1 encB y.v y.e.d, cell g2 36 #[.int .i64 y.e.k, .int .u64 y.e.t, .int .u64 y.e.i, y.v, .int .i64 y.e.c]] (.refl _) ?_
    refine h_val rfl (elp ev (0 * 5)) (fun b w hb hH => e_sidx okV ((hH.ents 0 rfl).1) sl_api_Entry (j := 0) rfl rfl rfl rfl hb) ?_
    refine h_val rfl (.agg (encV o).toArray) (fun b w hb hH => e_sagg okV (by decide) ((hH.ents 0 rfl).1) (j := 0) rfl ty_api_Entry rfl rfl hb) ?_
    refine h_act (post := fun g5 => [cell g5 36 #[.int .i64 0, .int .u64 0, .int .u64 0, .slice none 0 0, .int .i64 0], Ents 36 ev ([o]), Vec 36 5 encV lb ([y]), Vec 5 1 encB y.v y.e.d, cell g2 36 #[.int .i64 y.e.k, .int .u64 y.e.t, .int .u64 y.e.i, y.v, .int .i64 y.e.c]]) rfl (a_alloc ze_api_Entry rfl) ?_; rintro g5
    refine h_acts (post := fun _ => [cell g5 36 #[.int .i64 o.e.k, .int .u64 o.e.t, .int .u64 o.e.i, o.v, .int .i64 o.e.c], Ents 36 ev ([o]), Vec 36 5 encV lb ([y]), Vec 5 1 encB y.v y.e.d, cell g2 36 #[.int .i64 y.e.k, .int .u64 y.e.t, .int .u64 y.e.i, y.v, .int .i64 y.e.c]]) rfl rfl (a_store 0 (v := .agg (encV o).toArray) #[.int .i64 o.e.k, .int .u64 o.e.t, .int .u64 o.e.i, o.v, .int .i64 o.e.c] ty_api_Entry.2 rfl rfl rfl rfl rfl rfl rfl rfl rfl) ?_; rintro ⟨⟩
    refine h_done ?_
    rcases Bool.eq_false_or_eq_true (rightE y.e) with hr | hr
    · skip
      refine d_reg ?_
      refine h_q hflS rfl ?_
      refine h_val rfl (.agg #[.int .i64 o.e.k, .int .u64 o.e.t, .int .u64 o.e.i, o.v, .int .i64 o.e.c]) (fun b w hb hH => exec_load rfl rfl (reads_agg (cs := [.int .i64 o.e.k, .int .u64 o.e.t, .int .u64 o.e.i, o.v, .int .i64 o.e.c]) ty_api_Entry rfl) (hH.row 0 rfl) hb) ?_
      refine h_act (post := fun v6 => [Vec 5 1 encB v6 (layE o.e), cell g5 36 #[.int .i64 o.e.k, .int .u64 o.e.t, .int .u64 o.e.i, o.v, .int .i64 o.e.c], Ents 36 ev ([o]), Vec 36 5 encV lb ([y]), Vec 5 1 encB y.v y.e.d, cell g2 36 #[.int .i64 y.e.k, .int .u64 y.e.t, .int .u64 y.e.i, y.v, .int .i64 y.e.c]]) rfl (a_makes (os' := fun v6 => [Vec 5 1 encB v6 (layE o.e), cell g5 36 #[.int .i64 o.e.k, .int .u64 o.e.t, .int .u64 o.e.i, o.v, .int .i64 o.e.c], Ents 36 ev ([o]), Vec 36 5 encV lb ([y]), Vec 5 1 encB y.v y.e.d, cell g2 36 #[.int .i64 y.e.k, .int .u64 y.e.t, .int .u64 y.e.i, y.v, .int .i64 y.e.c]]) [] 0 (ent_of Try.func16 (by kernel_rfl) rfl) (fun w hH => laye_does w o ((hH.ents 1 rfl).2 o (List.mem_singleton.2 rfl)) (by rw [hoe]; exact hr)) rfl rfl rfl (fun _ => rfl) rfl rfl rfl) ?_; rintro v6
      refine h_q hflS rfl ?_
      refine h_done (d_reg ?_)
      refine h_q hflS rfl ?_
      refine h_val rfl (.agg #[.int .i64 y.e.k, .int .u64 y.e.t, .int .u64 y.e.i, y.v, .int .i64 y.e.c]) (fun b w hb hH => exec_load rfl rfl (reads_agg (cs := [.int .i64 y.e.k, .int .u64 y.e.t, .int .u64 y.e.i, y.v, .int .i64 y.e.c]) ty_api_Entry rfl) (hH.row 5 rfl) hb) ?_
      refine h_act (post := fun v8 => [Vec 5 1 encB v8 (layE y.e), Vec 5 1 encB v6 (layE o.e), cell g5 36 #[.int .i64 o.e.k, .int .u64 o.e.t, .int .u64 o.e.i, o.v, .int .i64 o.e.c], Ents 36 ev ([o]), Vec 36 5 encV lb ([y]), Vec 5 1 encB y.v y.e.d, cell g2 36 #[.int .i64 y.e.k, .int .u64 y.e.t, .int .u64 y.e.i, y.v, .int .i64 y.e.c]]) rfl (a_makes (os' := fun v8 => [Vec 5 1 encB v8 (layE y.e), Vec 5 1 encB v6 (layE o.e), cell g5 36 #[.int .i64 o.e.k, .int .u64 o.e.t, .int .u64 o.e.i, o.v, .int .i64 o.e.c], Ents 36 ev ([o]), Vec 36 5 encV lb ([y]), Vec 5 1 encB y.v y.e.d, cell g2 36 #[.int .i64 y.e.k, .int .u64 y.e.t, .int .u64 y.e.i, y.v, .int .i64 y.e.c]]) [] 0 (ent_of Try.func23 (by kernel_rfl) rfl) (fun w hH => rlaye_does w y (hH.sl8 4 rfl) hr) rfl rfl rfl (fun _ => rfl) rfl rfl rfl) ?_; rintro v8
      refine h_q hflS rfl ?_
      refine h_done (d_seq (d_seq ?_))
      refine d_parS 27 4 [⟨.actv 0, [some false, some false, some false, some false], fun _ => .bool true, []⟩, ⟨.quiet, [some true, none, none, none], fun _ => .bool false, [0]⟩, ⟨.quiet, [some true, none, none, none], fun _ => .bool false, [1]⟩, ⟨.quiet, [some true, none, none, none], fun _ => v6, [2]⟩, ⟨.quiet, [some true, none, none, none], fun _ => .string (bs (layE o.e)), [3, 2]⟩, ⟨.quiet, [some true, none, none, none], fun _ => v8, [2]⟩, ⟨.quiet, [some true, none, none, none], fun _ => .string (bs (layE y.e)), [5, 2]⟩, ⟨.quiet, [some true, none, none, none], fun _ => .bool false, [4, 6, 2]⟩, ⟨.quiet, [some true, none, none, none], fun _ => .bool false, [2, 7]⟩, ⟨.quiet, [some true, none, none, none], fun _ => .bool false, [8]⟩, ⟨.quiet, [some true, none, none, none], fun _ => .int .i64 0, [9]⟩, ⟨.quiet, [some true, none, none, none], fun _ => .int .i64 0, [9]⟩, ⟨.quiet, [some true, none, none, none], fun _ => .bool false, [10, 11, 9]⟩, ⟨.quiet, [some true, none, none, none], fun _ => .bool false, [9, 12]⟩, ⟨.quiet, [some true, none, none, none], fun _ => .bool false, [13]⟩, ⟨.quiet, [some true, none, none, none], fun _ => .agg #[.int .i64 o.e.k, .int .u64 o.e.t, .int .u64 o.e.i, o.v, .int .i64 o.e.c], [14]⟩, ⟨.actv 1, [some true, some false, some false, some false], fun _ => .bool true, [15, 14]⟩, ⟨.quiet, [some true, none, none, none], fun _ => .agg #[.int .i64 y.e.k, .int .u64 y.e.t, .int .u64 y.e.i, y.v, .int .i64 y.e.c], [14]⟩, ⟨.actv 2, [some true, some true, some false, some false], fun _ => .bool true, [17, 14]⟩, ⟨.quiet, [some true, some true, some true, none], fun _ => .bool false, [16, 18, 14]⟩, ⟨.quiet, [some true, some true, some true, none], fun _ => .bool false, [14, 19]⟩, ⟨.quiet, [some true, some true, some true, none], fun _ => .bool false, [20]⟩, ⟨.quiet, [some true, some true, some true, none], fun _ => .agg #[.int .i64 o.e.k, .int .u64 o.e.t, .int .u64 o.e.i, o.v, .int .i64 o.e.c], [21]⟩, ⟨.quiet, [some true, some true, some true, none], fun _ => .agg #[.int .i64 y.e.k, .int .u64 y.e.t, .int .u64 y.e.i, y.v, .int .i64 y.e.c], [21]⟩, ⟨.actv 3, [some true, some true, some true, some false], fun _ => .bool true, [22, 23, 21]⟩, ⟨.quiet, [some true, some true, some true, some true], fun _ => .bool false, [24, 21]⟩, ⟨.quiet, [some true, some true, some true, some true], fun _ => .bool false, [21, 25]⟩] [(2, .pointer (some ⟨g2, 0, none⟩)), (4, .bool false), (5, .pointer (some ⟨g5, 0, none⟩)), (6, v6), (7, .int .i64 0), (8, v8), (9, .int .i64 0)] (fun ρ => match ρ with | [r0, r1, r2, r3] => [Vec 5 1 encB v8 (layE y.e), Vec 5 1 encB v6 (layE o.e), cell g5 36 #[.int .i64 o.e.k, .int .u64 o.e.t, .int .u64 o.e.i, o.v, .int .i64 o.e.c], Ents 36 ev ([o]), Vec 36 5 encV lb ([y]), Vec 5 1 encB y.v y.e.d, cell g2 36 #[.int .i64 y.e.k, .int .u64 y.e.t, .int .u64 y.e.i, y.v, .int .i64 y.e.c]] | _ => []) (by kernel_rfl) (by kernel_rfl) ⟨rfl, rfl, rfl, rfl, rfl, rfl, rfl, trivial⟩ rfl ?_ ?_
      · skip
        refine s_cons (by exact ⟨rfl, Acts.su (a_call (ent_of Try.func17 (by kernel_rfl) rfl) (fun w hH => known6_true w) rfl rfl rfl) rfl⟩) ?_
        refine s_cons (by intro v0_ r1_ r2_ r3_; exact ⟨rfl, fun b w hH hb => exec_q1 hflS rfl hb⟩) ?_
        refine s_cons (by intro v0_ r1_ r2_ r3_; exact ⟨rfl, fun b w hH hb => exec_q1 hflS rfl hb⟩) ?_
        refine s_cons (by intro v0_ r1_ r2_ r3_; exact ⟨rfl, fun b w hH hb => exec_q1 hflS rfl hb⟩) ?_
        refine s_cons (by intro v0_ r1_ r2_ r3_; exact ⟨rfl, fun b w hH hb => exec_str8 Try.underlying26 Try.underlying5 (by kernel_rfl) Try.underlying9 (hH.sl8 1 rfl) rfl rfl hb⟩) ?_
        refine s_cons (by intro v0_ r1_ r2_ r3_; exact ⟨rfl, fun b w hH hb => exec_q1 hflS rfl hb⟩) ?_
        refine s_cons (by intro v0_ r1_ r2_ r3_; exact ⟨rfl, fun b w hH hb => exec_str8 Try.underlying26 Try.underlying5 (by kernel_rfl) Try.underlying9 (hH.sl8 0 rfl) rfl rfl hb⟩) ?_
        refine s_cons (by intro v0_ r1_ r2_ r3_; exact ⟨rfl, fun b w hH hb => exec_sneq (l := layE o.e) (m := layE y.e) (by rw [hoe]; simp) rfl rfl rfl hb⟩) ?_
        refine s_cons (by intro v0_ r1_ r2_ r3_; exact ⟨rfl, fun b w hH hb => exec_q1 hflS rfl hb⟩) ?_
        refine s_cons (by intro v0_ r1_ r2_ r3_; exact ⟨rfl, fun b w hH hb => exec_q1 hflS rfl hb⟩) ?_
        refine s_cons (by intro v0_ r1_ r2_ r3_; exact ⟨rfl, fun b w hH hb => exec_q1 hflS rfl hb⟩) ?_
        refine s_cons (by intro v0_ r1_ r2_ r3_; exact ⟨rfl, fun b w hH hb => exec_q1 hflS rfl hb⟩) ?_
        refine s_cons (by intro v0_ r1_ r2_ r3_; exact ⟨rfl, fun b w hH hb => exec_cmp rfl rfl rfl (cmp_neq_f (by decide)) hb⟩) ?_
        refine s_cons (by intro v0_ r1_ r2_ r3_; exact ⟨rfl, fun b w hH hb => exec_q1 hflS rfl hb⟩) ?_
        refine s_cons (by intro v0_ r1_ r2_ r3_; exact ⟨rfl, fun b w hH hb => exec_q1 hflS rfl hb⟩) ?_
        refine s_cons (by intro v0_ r1_ r2_ r3_; exact ⟨rfl, fun b w hH hb => exec_load rfl rfl (reads_agg (cs := [.int .i64 o.e.k, .int .u64 o.e.t, .int .u64 o.e.i, o.v, .int .i64 o.e.c]) ty_api_Entry rfl) (hH.row 2 rfl) hb⟩) ?_
        refine s_cons (by intro v0_; exact ⟨rfl, Acts.su (a_call (ent_of Try.func20 (by kernel_rfl) rfl) (fun w hH => rightE_any w o ((hH.ents 3 rfl).2 o (List.mem_singleton.2 rfl)) true (by rw [hoe]; exact hr)) rfl rfl rfl) rfl⟩) ?_
        refine s_cons (by intro v0_ r1_ r2_ r3_; exact ⟨rfl, fun b w hH hb => exec_load rfl rfl (reads_agg (cs := [.int .i64 y.e.k, .int .u64 y.e.t, .int .u64 y.e.i, y.v, .int .i64 y.e.c]) ty_api_Entry rfl) (hH.row 6 rfl) hb⟩) ?_
        refine s_cons (by intro v0_ v1_; exact ⟨rfl, Acts.su (a_call (ent_of Try.func24 (by kernel_rfl) rfl) (fun w hH => rrightE_any w y (hH.sl8 5 rfl) true hr) rfl rfl rfl) rfl⟩) ?_
        refine s_cons (by intro v0_ v1_ v2_ r3_; exact ⟨rfl, fun b w hH hb => exec_nes (neB true true) rfl rfl rfl hb⟩) ?_
        refine s_cons (by intro v0_ v1_ v2_ r3_; exact ⟨rfl, fun b w hH hb => exec_q1 hflS rfl hb⟩) ?_
        refine s_cons (by intro v0_ v1_ v2_ r3_; exact ⟨rfl, fun b w hH hb => exec_q1 hflS rfl hb⟩) ?_
        refine s_cons (by intro v0_ v1_ v2_ r3_; exact ⟨rfl, fun b w hH hb => exec_load rfl rfl (reads_agg (cs := [.int .i64 o.e.k, .int .u64 o.e.t, .int .u64 o.e.i, o.v, .int .i64 o.e.c]) ty_api_Entry rfl) (hH.row 2 rfl) hb⟩) ?_
        refine s_cons (by intro v0_ v1_ v2_ r3_; exact ⟨rfl, fun b w hH hb => exec_load rfl rfl (reads_agg (cs := [.int .i64 y.e.k, .int .u64 y.e.t, .int .u64 y.e.i, y.v, .int .i64 y.e.c]) ty_api_Entry rfl) (hH.row 6 rfl) hb⟩) ?_
        refine s_cons (by intro v0_ v1_ v2_; exact ⟨rfl, Acts.su (a_call (ent_of Try.func25 (by kernel_rfl) rfl) (fun w hH => samee_true w o y ((hH.ents 3 rfl).2 o (List.mem_singleton.2 rfl)) (hH.sl8 5 rfl) hoe) rfl rfl rfl) rfl⟩) ?_
        refine s_cons (by intro v0_ v1_ v2_ v3_; exact ⟨rfl, fun b w hH hb => exec_q1 hflS rfl hb⟩) ?_
        refine s_cons (by intro v0_ v1_ v2_ v3_; exact ⟨rfl, fun b w hH hb => exec_q1 hflS rfl hb⟩) ?_
        exact s_nil
      intro v0_ v1_ v2_ v3_
      refine WL2.keep (env' := [(2, .pointer (some ⟨g2, 0, none⟩)), (4, .bool false), (6, v6), (7, .int .i64 0), (56, .bool false)]) ⟨rfl, rfl, rfl, rfl, rfl, trivial⟩ ?_
      refine h_nil (f_to (d_else rfl (d_skip (f_to (d_reg ?_)))))
      refine h_q hflS rfl ?_
      refine h_act rfl (a_makes  [] 0 (ent_of Try.func26 (by kernel_rfl) rfl) (fun w hH => reade_does w v6 (layE o.e) (hH.sl8 1 rfl) (by have h := layE_len (e := o.e) (by rw [hoe]; exact hr); omega) o.e 0 (decE_lay (by rw [hoe]; exact hr))) rfl rfl rfl (fun _ => rfl) rfl rfl rfl) ?_; rintro ⟨A3, c3⟩
      refine h_q hflS rfl ?_
      refine h_act (post := fun g10 => [cell g10 36 #[.int .i64 0, .int .u64 0, .int .u64 0, .slice none 0 0, .int .i64 0], Vec 5 1 encB (.slice A3 o.e.d.length c3) o.e.d, Vec 5 1 encB v8 (layE y.e), Vec 5 1 encB v6 (layE o.e), cell g5 36 #[.int .i64 o.e.k, .int .u64 o.e.t, .int .u64 o.e.i, o.v, .int .i64 o.e.c], Ents 36 ev ([o]), Vec 36 5 encV lb ([y]), Vec 5 1 encB y.v y.e.d, cell g2 36 #[.int .i64 y.e.k, .int .u64 y.e.t, .int .u64 y.e.i, y.v, .int .i64 y.e.c]]) rfl (a_alloc ze_api_Entry rfl) ?_; rintro g10
      refine h_acts (post := fun _ => [cell g10 36 #[.int .i64 o.e.k, .int .u64 o.e.t, .int .u64 o.e.i, .slice A3 o.e.d.length c3, .int .i64 o.e.c], Vec 5 1 encB (.slice A3 o.e.d.length c3) o.e.d, Vec 5 1 encB v8 (layE y.e), Vec 5 1 encB v6 (layE o.e), cell g5 36 #[.int .i64 o.e.k, .int .u64 o.e.t, .int .u64 o.e.i, o.v, .int .i64 o.e.c], Ents 36 ev ([o]), Vec 36 5 encV lb ([y]), Vec 5 1 encB y.v y.e.d, cell g2 36 #[.int .i64 y.e.k, .int .u64 y.e.t, .int .u64 y.e.i, y.v, .int .i64 y.e.c]]) rfl rfl (a_store 0 (v := .agg #[.int .i64 o.e.k, .int .u64 o.e.t, .int .u64 o.e.i, .slice A3 o.e.d.length c3, .int .i64 o.e.c]) #[.int .i64 o.e.k, .int .u64 o.e.t, .int .u64 o.e.i, .slice A3 o.e.d.length c3, .int .i64 o.e.c] ty_api_Entry.2 rfl rfl rfl rfl rfl rfl rfl rfl rfl) ?_; rintro ⟨⟩
      refine h_q hflS rfl ?_
      refine h_done (d_reg ?_)
      refine h_q hflS rfl ?_
      refine h_val rfl (.bool false) (fun b w hb hH => exec_cmp rfl rfl rfl (cmp_neq_f (by decide)) hb) ?_
      refine h_q hflS rfl ?_
      refine h_val rfl (.bool true) (fun b w hb hH => exec_cmp rfl rfl rfl (cmp_eql_t (by decide)) hb) ?_
      refine h_q hflS rfl ?_
      refine h_val rfl (.agg #[.int .i64 o.e.k, .int .u64 o.e.t, .int .u64 o.e.i, .slice A3 o.e.d.length c3, .int .i64 o.e.c]) (fun b w hb hH => exec_load rfl rfl (reads_agg (cs := [.int .i64 o.e.k, .int .u64 o.e.t, .int .u64 o.e.i, .slice A3 o.e.d.length c3, .int .i64 o.e.c]) ty_api_Entry rfl) (hH.row 0 rfl) hb) ?_
      refine h_val rfl (.agg #[.int .i64 y.e.k, .int .u64 y.e.t, .int .u64 y.e.i, y.v, .int .i64 y.e.c]) (fun b w hb hH => exec_load rfl rfl (reads_agg (cs := [.int .i64 y.e.k, .int .u64 y.e.t, .int .u64 y.e.i, y.v, .int .i64 y.e.c]) ty_api_Entry rfl) (hH.row 8 rfl) hb) ?_
      refine h_act (post := fun _ => [cell g10 36 #[.int .i64 o.e.k, .int .u64 o.e.t, .int .u64 o.e.i, .slice A3 o.e.d.length c3, .int .i64 o.e.c], Vec 5 1 encB (.slice A3 o.e.d.length c3) o.e.d, Vec 5 1 encB v8 (layE y.e), Vec 5 1 encB v6 (layE o.e), cell g5 36 #[.int .i64 o.e.k, .int .u64 o.e.t, .int .u64 o.e.i, o.v, .int .i64 o.e.c], Ents 36 ev ([o]), Vec 36 5 encV lb ([y]), Vec 5 1 encB y.v y.e.d, cell g2 36 #[.int .i64 y.e.k, .int .u64 y.e.t, .int .u64 y.e.i, y.v, .int .i64 y.e.c]]) rfl (a_call (ent_of Try.func25 (by kernel_rfl) rfl) (fun w hH => samee_true w ⟨o.e, A3, c3⟩ y (hH.sl8 1 rfl) (hH.sl8 7 rfl) hoe) rfl rfl rfl) ?_; rintro ⟨⟩
      refine h_q hflS rfl ?_
      refine h_done (d_ret ?_)
      exact f_fin1 (.tmp rfl) (fun w h => ⟨rfl, below0 h.up⟩) rfl
    · skip
      refine d_reg ?_
      refine h_q hflS rfl ?_
      refine h_val rfl (.agg #[.int .i64 o.e.k, .int .u64 o.e.t, .int .u64 o.e.i, o.v, .int .i64 o.e.c]) (fun b w hb hH => exec_load rfl rfl (reads_agg (cs := [.int .i64 o.e.k, .int .u64 o.e.t, .int .u64 o.e.i, o.v, .int .i64 o.e.c]) ty_api_Entry rfl) (hH.row 0 rfl) hb) ?_
      refine h_act (post := fun _ => [cell g5 36 #[.int .i64 o.e.k, .int .u64 o.e.t, .int .u64 o.e.i, o.v, .int .i64 o.e.c], Ents 36 ev ([o]), Vec 36 5 encV lb ([y]), Vec 5 1 encB y.v y.e.d, cell g2 36 #[.int .i64 y.e.k, .int .u64 y.e.t, .int .u64 y.e.i, y.v, .int .i64 y.e.c]]) rfl (a_call (ent_of Try.func16 (by kernel_rfl) rfl) (fun w hH => laye_bad w o ((hH.ents 1 rfl).2 o (List.mem_singleton.2 rfl)) (by rw [hoe]; exact hr)) rfl rfl rfl) ?_; rintro ⟨⟩
      refine h_q hflS rfl ?_
      refine h_done (d_reg ?_)
      refine h_q hflS rfl ?_
      refine h_val rfl (.agg #[.int .i64 y.e.k, .int .u64 y.e.t, .int .u64 y.e.i, y.v, .int .i64 y.e.c]) (fun b w hb hH => exec_load rfl rfl (reads_agg (cs := [.int .i64 y.e.k, .int .u64 y.e.t, .int .u64 y.e.i, y.v, .int .i64 y.e.c]) ty_api_Entry rfl) (hH.row 4 rfl) hb) ?_
      refine h_act (post := fun _ => [cell g5 36 #[.int .i64 o.e.k, .int .u64 o.e.t, .int .u64 o.e.i, o.v, .int .i64 o.e.c], Ents 36 ev ([o]), Vec 36 5 encV lb ([y]), Vec 5 1 encB y.v y.e.d, cell g2 36 #[.int .i64 y.e.k, .int .u64 y.e.t, .int .u64 y.e.i, y.v, .int .i64 y.e.c]]) rfl (a_call (ent_of Try.func23 (by kernel_rfl) rfl) (fun w hH => rlaye_bad w y (hH.sl8 3 rfl) hr) rfl rfl rfl) ?_; rintro ⟨⟩
      refine h_q hflS rfl ?_
      refine h_done (d_seq (d_seq ?_))
      refine d_parS 27 4 [⟨.actv 0, [some false, some false, some false, some false], fun _ => .bool true, []⟩, ⟨.quiet, [some true, none, none, none], fun _ => .bool false, [0]⟩, ⟨.quiet, [some true, none, none, none], fun _ => .bool false, [1]⟩, ⟨.quiet, [some true, none, none, none], fun _ => .slice none 0 0, [2]⟩, ⟨.quiet, [some true, none, none, none], fun _ => .string (bs ([])), [3, 2]⟩, ⟨.quiet, [some true, none, none, none], fun _ => .slice none 0 0, [2]⟩, ⟨.quiet, [some true, none, none, none], fun _ => .string (bs ([])), [5, 2]⟩, ⟨.quiet, [some true, none, none, none], fun _ => .bool false, [4, 6, 2]⟩, ⟨.quiet, [some true, none, none, none], fun _ => .bool false, [2, 7]⟩, ⟨.quiet, [some true, none, none, none], fun _ => .bool false, [8]⟩, ⟨.quiet, [some true, none, none, none], fun _ => .int .i64 1, [9]⟩, ⟨.quiet, [some true, none, none, none], fun _ => .int .i64 1, [9]⟩, ⟨.quiet, [some true, none, none, none], fun _ => .bool false, [10, 11, 9]⟩, ⟨.quiet, [some true, none, none, none], fun _ => .bool false, [9, 12]⟩, ⟨.quiet, [some true, none, none, none], fun _ => .bool false, [13]⟩, ⟨.quiet, [some true, none, none, none], fun _ => .agg #[.int .i64 o.e.k, .int .u64 o.e.t, .int .u64 o.e.i, o.v, .int .i64 o.e.c], [14]⟩, ⟨.actv 1, [some true, some false, some false, some false], fun _ => .bool false, [15, 14]⟩, ⟨.quiet, [some true, none, none, none], fun _ => .agg #[.int .i64 y.e.k, .int .u64 y.e.t, .int .u64 y.e.i, y.v, .int .i64 y.e.c], [14]⟩, ⟨.actv 2, [some true, some true, some false, some false], fun _ => .bool false, [17, 14]⟩, ⟨.quiet, [some true, some true, some true, none], fun _ => .bool false, [16, 18, 14]⟩, ⟨.quiet, [some true, some true, some true, none], fun _ => .bool false, [14, 19]⟩, ⟨.quiet, [some true, some true, some true, none], fun _ => .bool false, [20]⟩, ⟨.quiet, [some true, some true, some true, none], fun _ => .agg #[.int .i64 o.e.k, .int .u64 o.e.t, .int .u64 o.e.i, o.v, .int .i64 o.e.c], [21]⟩, ⟨.quiet, [some true, some true, some true, none], fun _ => .agg #[.int .i64 y.e.k, .int .u64 y.e.t, .int .u64 y.e.i, y.v, .int .i64 y.e.c], [21]⟩, ⟨.actv 3, [some true, some true, some true, some false], fun _ => .bool true, [22, 23, 21]⟩, ⟨.quiet, [some true, some true, some true, some true], fun _ => .bool false, [24, 21]⟩, ⟨.quiet, [some true, some true, some true, some true], fun _ => .bool false, [21, 25]⟩] [(2, .pointer (some ⟨g2, 0, none⟩)), (4, .bool false), (5, .pointer (some ⟨g5, 0, none⟩)), (6, .slice none 0 0), (7, .int .i64 1), (8, .slice none 0 0), (9, .int .i64 1)] (fun ρ => match ρ with | [r0, r1, r2, r3] => [cell g5 36 #[.int .i64 o.e.k, .int .u64 o.e.t, .int .u64 o.e.i, o.v, .int .i64 o.e.c], Ents 36 ev ([o]), Vec 36 5 encV lb ([y]), Vec 5 1 encB y.v y.e.d, cell g2 36 #[.int .i64 y.e.k, .int .u64 y.e.t, .int .u64 y.e.i, y.v, .int .i64 y.e.c]] | _ => []) (by kernel_rfl) (by kernel_rfl) ⟨rfl, rfl, rfl, rfl, rfl, rfl, rfl, trivial⟩ rfl ?_ ?_
      · skip
        refine s_cons (by exact ⟨rfl, Acts.su (a_call (ent_of Try.func17 (by kernel_rfl) rfl) (fun w hH => known6_true w) rfl rfl rfl) rfl⟩) ?_
        refine s_cons (by intro v0_ r1_ r2_ r3_; exact ⟨rfl, fun b w hH hb => exec_q1 hflS rfl hb⟩) ?_
        refine s_cons (by intro v0_ r1_ r2_ r3_; exact ⟨rfl, fun b w hH hb => exec_q1 hflS rfl hb⟩) ?_
        refine s_cons (by intro v0_ r1_ r2_ r3_; exact ⟨rfl, fun b w hH hb => exec_q1 hflS rfl hb⟩) ?_
        refine s_cons (by intro v0_ r1_ r2_ r3_; exact ⟨rfl, fun b w hH hb => exec_str8 Try.underlying26 Try.underlying5 (by kernel_rfl) Try.underlying9 (sl8_nil w) rfl rfl hb⟩) ?_
        refine s_cons (by intro v0_ r1_ r2_ r3_; exact ⟨rfl, fun b w hH hb => exec_q1 hflS rfl hb⟩) ?_
        refine s_cons (by intro v0_ r1_ r2_ r3_; exact ⟨rfl, fun b w hH hb => exec_str8 Try.underlying26 Try.underlying5 (by kernel_rfl) Try.underlying9 (sl8_nil w) rfl rfl hb⟩) ?_
        refine s_cons (by intro v0_ r1_ r2_ r3_; exact ⟨rfl, fun b w hH hb => exec_sneq (l := []) (m := []) (by simp) rfl rfl rfl hb⟩) ?_
        refine s_cons (by intro v0_ r1_ r2_ r3_; exact ⟨rfl, fun b w hH hb => exec_q1 hflS rfl hb⟩) ?_
        refine s_cons (by intro v0_ r1_ r2_ r3_; exact ⟨rfl, fun b w hH hb => exec_q1 hflS rfl hb⟩) ?_
        refine s_cons (by intro v0_ r1_ r2_ r3_; exact ⟨rfl, fun b w hH hb => exec_q1 hflS rfl hb⟩) ?_
        refine s_cons (by intro v0_ r1_ r2_ r3_; exact ⟨rfl, fun b w hH hb => exec_q1 hflS rfl hb⟩) ?_
        refine s_cons (by intro v0_ r1_ r2_ r3_; exact ⟨rfl, fun b w hH hb => exec_cmp rfl rfl rfl (cmp_neq_f (by decide)) hb⟩) ?_
        refine s_cons (by intro v0_ r1_ r2_ r3_; exact ⟨rfl, fun b w hH hb => exec_q1 hflS rfl hb⟩) ?_
        refine s_cons (by intro v0_ r1_ r2_ r3_; exact ⟨rfl, fun b w hH hb => exec_q1 hflS rfl hb⟩) ?_
        refine s_cons (by intro v0_ r1_ r2_ r3_; exact ⟨rfl, fun b w hH hb => exec_load rfl rfl (reads_agg (cs := [.int .i64 o.e.k, .int .u64 o.e.t, .int .u64 o.e.i, o.v, .int .i64 o.e.c]) ty_api_Entry rfl) (hH.row 0 rfl) hb⟩) ?_
        refine s_cons (by intro v0_; exact ⟨rfl, Acts.su (a_call (ent_of Try.func20 (by kernel_rfl) rfl) (fun w hH => rightE_any w o ((hH.ents 1 rfl).2 o (List.mem_singleton.2 rfl)) false (by rw [hoe]; exact hr)) rfl rfl rfl) rfl⟩) ?_
        refine s_cons (by intro v0_ r1_ r2_ r3_; exact ⟨rfl, fun b w hH hb => exec_load rfl rfl (reads_agg (cs := [.int .i64 y.e.k, .int .u64 y.e.t, .int .u64 y.e.i, y.v, .int .i64 y.e.c]) ty_api_Entry rfl) (hH.row 4 rfl) hb⟩) ?_
        refine s_cons (by intro v0_ v1_; exact ⟨rfl, Acts.su (a_call (ent_of Try.func24 (by kernel_rfl) rfl) (fun w hH => rrightE_any w y (hH.sl8 3 rfl) false hr) rfl rfl rfl) rfl⟩) ?_
        refine s_cons (by intro v0_ v1_ v2_ r3_; exact ⟨rfl, fun b w hH hb => exec_nes (neB false false) rfl rfl rfl hb⟩) ?_
        refine s_cons (by intro v0_ v1_ v2_ r3_; exact ⟨rfl, fun b w hH hb => exec_q1 hflS rfl hb⟩) ?_
        refine s_cons (by intro v0_ v1_ v2_ r3_; exact ⟨rfl, fun b w hH hb => exec_q1 hflS rfl hb⟩) ?_
        refine s_cons (by intro v0_ v1_ v2_ r3_; exact ⟨rfl, fun b w hH hb => exec_load rfl rfl (reads_agg (cs := [.int .i64 o.e.k, .int .u64 o.e.t, .int .u64 o.e.i, o.v, .int .i64 o.e.c]) ty_api_Entry rfl) (hH.row 0 rfl) hb⟩) ?_
        refine s_cons (by intro v0_ v1_ v2_ r3_; exact ⟨rfl, fun b w hH hb => exec_load rfl rfl (reads_agg (cs := [.int .i64 y.e.k, .int .u64 y.e.t, .int .u64 y.e.i, y.v, .int .i64 y.e.c]) ty_api_Entry rfl) (hH.row 4 rfl) hb⟩) ?_
        refine s_cons (by intro v0_ v1_ v2_; exact ⟨rfl, Acts.su (a_call (ent_of Try.func25 (by kernel_rfl) rfl) (fun w hH => samee_true w o y ((hH.ents 1 rfl).2 o (List.mem_singleton.2 rfl)) (hH.sl8 3 rfl) hoe) rfl rfl rfl) rfl⟩) ?_
        refine s_cons (by intro v0_ v1_ v2_ v3_; exact ⟨rfl, fun b w hH hb => exec_q1 hflS rfl hb⟩) ?_
        refine s_cons (by intro v0_ v1_ v2_ v3_; exact ⟨rfl, fun b w hH hb => exec_q1 hflS rfl hb⟩) ?_
        exact s_nil
      intro v0_ v1_ v2_ v3_
      refine WL2.keep (env' := [(2, .pointer (some ⟨g2, 0, none⟩)), (4, .bool false), (6, .slice none 0 0), (7, .int .i64 1), (56, .bool false)]) ⟨rfl, rfl, rfl, rfl, rfl, trivial⟩ ?_
      refine h_nil (f_to (d_else rfl (d_skip (f_to (d_reg ?_)))))
      refine h_q hflS rfl ?_
      refine h_act rfl (a_doesU (Below.refl _ _) (fun _ h => h.elim)  [] 0 (ent_of Try.func26 (by kernel_rfl) rfl) (reade_does w _ [] (sl8_nil w) (by decide) .zero 10 decE_nil) rfl rfl rfl (fun _ => rfl) rfl rfl rfl) ?_; rintro ⟨A3, c3⟩
      refine h_q hflS rfl ?_
      refine h_act (post := fun g10 => [cell g10 36 #[.int .i64 0, .int .u64 0, .int .u64 0, .slice none 0 0, .int .i64 0], Vec 5 1 encB (.slice A3 EntD.zero.d.length c3) EntD.zero.d, cell g5 36 #[.int .i64 o.e.k, .int .u64 o.e.t, .int .u64 o.e.i, o.v, .int .i64 o.e.c], Ents 36 ev ([o]), Vec 36 5 encV lb ([y]), Vec 5 1 encB y.v y.e.d, cell g2 36 #[.int .i64 y.e.k, .int .u64 y.e.t, .int .u64 y.e.i, y.v, .int .i64 y.e.c]]) rfl (a_alloc ze_api_Entry rfl) ?_; rintro g10
      refine h_acts (post := fun _ => [cell g10 36 #[.int .i64 EntD.zero.k, .int .u64 EntD.zero.t, .int .u64 EntD.zero.i, .slice A3 EntD.zero.d.length c3, .int .i64 EntD.zero.c], Vec 5 1 encB (.slice A3 EntD.zero.d.length c3) EntD.zero.d, cell g5 36 #[.int .i64 o.e.k, .int .u64 o.e.t, .int .u64 o.e.i, o.v, .int .i64 o.e.c], Ents 36 ev ([o]), Vec 36 5 encV lb ([y]), Vec 5 1 encB y.v y.e.d, cell g2 36 #[.int .i64 y.e.k, .int .u64 y.e.t, .int .u64 y.e.i, y.v, .int .i64 y.e.c]]) rfl rfl (a_store 0 (v := .agg #[.int .i64 EntD.zero.k, .int .u64 EntD.zero.t, .int .u64 EntD.zero.i, .slice A3 EntD.zero.d.length c3, .int .i64 EntD.zero.c]) #[.int .i64 EntD.zero.k, .int .u64 EntD.zero.t, .int .u64 EntD.zero.i, .slice A3 EntD.zero.d.length c3, .int .i64 EntD.zero.c] ty_api_Entry.2 rfl rfl rfl rfl rfl rfl rfl rfl rfl) ?_; rintro ⟨⟩
      refine h_q hflS rfl ?_
      refine h_done (d_reg ?_)
      refine h_q hflS rfl ?_
      refine h_val rfl (.bool true) (fun b w hb hH => exec_cmp rfl rfl rfl (cmp_neq_t (by decide)) hb) ?_
      refine h_q hflS rfl ?_
      refine h_done (d_ret ?_)
      exact f_fin1 (.tmp rfl) (fun w h => ⟨rfl, below0 h.up⟩) rfl

set_option maxRecDepth 100000 in
theorem rpcreads_true (w : World) (v : Value) (l : List UInt8) (hv : Sl8 w v l) (hl : l.length ≤ 140737488355328) (x : EntV) (hx : Sl8 w x.v x.e.d) (ho : x.e.ok) (is_ : Bool) (at_ to : Int) (wa : I64 at_) : Calls Try.prog 5 #[v, .agg #[.int .i64 x.e.k, .int .u64 x.e.t, .int .u64 x.e.i, x.v, .int .i64 x.e.c], .bool is_, .int .i64 at_, .int .i64 to] w fun e w' => e = .returned (.bool true) ∧ Below w.heap.size w w' := by
  refine d_in (args := [v, .agg #[.int .i64 x.e.k, .int .u64 x.e.t, .int .u64 x.e.i, x.v, .int .i64 x.e.c], .bool is_, .int .i64 at_, .int .i64 to]) 65 Try.func5 rfl rfl rfl ?_
  refine d_reg ?_
  refine h_q hflS rfl ?_
  refine h_act (post := fun g6 => [cell g6 36 #[.int .i64 x.e.k, .int .u64 x.e.t, .int .u64 x.e.i, x.v, .int .i64 x.e.c]]) rfl (a_box (cs := #[.int .i64 x.e.k, .int .u64 x.e.t, .int .u64 x.e.i, x.v, .int .i64 x.e.c]) rfl rfl rfl) ?_; rintro g6
  refine h_q hflS rfl ?_
  refine h_done (d_seq ?_)
  cases is_
  · skip
    obtain ⟨⟨e, en⟩, hD⟩ : ∃ R, decE l = R := ⟨_, rfl⟩
    have hL : l.length ≤ 140737488355328 := by first | omega | (have h := layE_len hyr; rw [List.length_set]; omega)
    refine d_reg ?_
    refine h_q hflS rfl ?_
    refine h_done (d_else rfl (d_skip (f_to (d_reg ?_))))
    refine h_q hflS rfl ?_
    refine h_act (X := Value) (val := fun v : Value => v) (post := fun u0 => [Vec 5 1 encB u0 ([]), cell g6 36 #[.int .i64 x.e.k, .int .u64 x.e.t, .int .u64 x.e.i, x.v, .int .i64 x.e.c]]) rfl (by refine a_build0 (e := 5) (t := 26) (k := 1) (enc := encB) ?_ ?_; exact sl_uint8; exact rfl) ?_; rintro u0
    refine h_q hflS rfl ?_
    refine h_act (post := fun u1 => [Vec 5 1 encB u1 l, cell g6 36 #[.int .i64 x.e.k, .int .u64 x.e.t, .int .u64 x.e.i, x.v, .int .i64 x.e.c]]) rfl (a_append8 0 sl_uint8 (by kernel_rfl) rfl (l) (fun w hH => (arg80 hv hH).rd) (by simp only [List.length_nil]; omega) rfl rfl rfl (List.nil_append _)) ?_; rintro u1
    refine h_q hflS rfl ?_
    refine h_done (d_reg ?_)
    refine h_q hflS rfl ?_
    refine h_act rfl (a_makes  [] 0 (ent_of Try.func26 (by kernel_rfl) rfl) (fun w hH => reade_does w u1 l (hH.sl8 0 rfl) hL e en hD) rfl rfl rfl (fun _ => rfl) rfl rfl rfl) ?_; rintro ⟨A1, c1⟩
    refine h_q hflS rfl ?_
    refine h_act (post := fun g14 => [cell g14 36 #[.int .i64 0, .int .u64 0, .int .u64 0, .slice none 0 0, .int .i64 0], Vec 5 1 encB (.slice A1 e.d.length c1) e.d, Vec 5 1 encB u1 l, cell g6 36 #[.int .i64 x.e.k, .int .u64 x.e.t, .int .u64 x.e.i, x.v, .int .i64 x.e.c]]) rfl (a_alloc ze_api_Entry rfl) ?_; rintro g14
    refine h_acts (post := fun _ => [cell g14 36 #[.int .i64 e.k, .int .u64 e.t, .int .u64 e.i, .slice A1 e.d.length c1, .int .i64 e.c], Vec 5 1 encB (.slice A1 e.d.length c1) e.d, Vec 5 1 encB u1 l, cell g6 36 #[.int .i64 x.e.k, .int .u64 x.e.t, .int .u64 x.e.i, x.v, .int .i64 x.e.c]]) rfl rfl (a_store 0 (v := .agg #[.int .i64 e.k, .int .u64 e.t, .int .u64 e.i, .slice A1 e.d.length c1, .int .i64 e.c]) #[.int .i64 e.k, .int .u64 e.t, .int .u64 e.i, .slice A1 e.d.length c1, .int .i64 e.c] ty_api_Entry.2 rfl rfl rfl rfl rfl rfl rfl rfl rfl) ?_; rintro ⟨⟩
    refine h_q hflS rfl ?_
    refine h_done (d_reg ?_)
    refine h_q hflS rfl ?_
    refine h_act rfl (a_makes  [] 0 (ent_of Try.func28 (by kernel_rfl) rfl) (fun w hH => rreade_does w v l (arg80 hv hH) hL e en hD) rfl rfl rfl (fun _ => rfl) rfl rfl rfl) ?_; rintro ⟨A2, c2⟩
    refine h_q hflS rfl ?_
    refine h_act (post := fun g16 => [cell g16 36 #[.int .i64 0, .int .u64 0, .int .u64 0, .slice none 0 0, .int .i64 0], Vec 5 1 encB (.slice A2 e.d.length c2) e.d, cell g14 36 #[.int .i64 e.k, .int .u64 e.t, .int .u64 e.i, .slice A1 e.d.length c1, .int .i64 e.c], Vec 5 1 encB (.slice A1 e.d.length c1) e.d, Vec 5 1 encB u1 l, cell g6 36 #[.int .i64 x.e.k, .int .u64 x.e.t, .int .u64 x.e.i, x.v, .int .i64 x.e.c]]) rfl (a_alloc ze_api_Entry rfl) ?_; rintro g16
    refine h_acts (post := fun _ => [cell g16 36 #[.int .i64 e.k, .int .u64 e.t, .int .u64 e.i, .slice A2 e.d.length c2, .int .i64 e.c], Vec 5 1 encB (.slice A2 e.d.length c2) e.d, cell g14 36 #[.int .i64 e.k, .int .u64 e.t, .int .u64 e.i, .slice A1 e.d.length c1, .int .i64 e.c], Vec 5 1 encB (.slice A1 e.d.length c1) e.d, Vec 5 1 encB u1 l, cell g6 36 #[.int .i64 x.e.k, .int .u64 x.e.t, .int .u64 x.e.i, x.v, .int .i64 x.e.c]]) rfl rfl (a_store 0 (v := .agg #[.int .i64 e.k, .int .u64 e.t, .int .u64 e.i, .slice A2 e.d.length c2, .int .i64 e.c]) #[.int .i64 e.k, .int .u64 e.t, .int .u64 e.i, .slice A2 e.d.length c2, .int .i64 e.c] ty_api_Entry.2 rfl rfl rfl rfl rfl rfl rfl rfl rfl) ?_; rintro ⟨⟩
    refine h_q hflS rfl ?_
    refine h_done (d_reg ?_)
    refine h_q hflS rfl ?_
    refine h_act (post := fun _ => [cell g16 36 #[.int .i64 e.k, .int .u64 e.t, .int .u64 e.i, .slice A2 e.d.length c2, .int .i64 e.c], Vec 5 1 encB (.slice A2 e.d.length c2) e.d, cell g14 36 #[.int .i64 e.k, .int .u64 e.t, .int .u64 e.i, .slice A1 e.d.length c1, .int .i64 e.c], Vec 5 1 encB (.slice A1 e.d.length c1) e.d, Vec 5 1 encB u1 l, cell g6 36 #[.int .i64 x.e.k, .int .u64 x.e.t, .int .u64 x.e.i, x.v, .int .i64 x.e.c]]) rfl (a_call (ent_of Try.func17 (by kernel_rfl) rfl) (fun w hH => known6_true w) rfl rfl rfl) ?_; rintro ⟨⟩
    refine h_q hflS rfl ?_
    refine h_val rfl (.agg #[.int .i64 e.k, .int .u64 e.t, .int .u64 e.i, .slice A1 e.d.length c1, .int .i64 e.c]) (fun b w hb hH => exec_load rfl rfl (reads_agg (cs := [.int .i64 e.k, .int .u64 e.t, .int .u64 e.i, .slice A1 e.d.length c1, .int .i64 e.c]) ty_api_Entry rfl) (hH.row 2 rfl) hb) ?_
    refine h_val rfl (.agg #[.int .i64 e.k, .int .u64 e.t, .int .u64 e.i, .slice A2 e.d.length c2, .int .i64 e.c]) (fun b w hb hH => exec_load rfl rfl (reads_agg (cs := [.int .i64 e.k, .int .u64 e.t, .int .u64 e.i, .slice A2 e.d.length c2, .int .i64 e.c]) ty_api_Entry rfl) (hH.row 0 rfl) hb) ?_
    refine h_act (post := fun _ => [cell g16 36 #[.int .i64 e.k, .int .u64 e.t, .int .u64 e.i, .slice A2 e.d.length c2, .int .i64 e.c], Vec 5 1 encB (.slice A2 e.d.length c2) e.d, cell g14 36 #[.int .i64 e.k, .int .u64 e.t, .int .u64 e.i, .slice A1 e.d.length c1, .int .i64 e.c], Vec 5 1 encB (.slice A1 e.d.length c1) e.d, Vec 5 1 encB u1 l, cell g6 36 #[.int .i64 x.e.k, .int .u64 x.e.t, .int .u64 x.e.i, x.v, .int .i64 x.e.c]]) rfl (a_call (ent_of Try.func25 (by kernel_rfl) rfl) (fun w hH => samee_true w ⟨e, A1, c1⟩ ⟨e, A2, c2⟩ (hH.sl8 3 rfl) (hH.sl8 1 rfl) rfl) rfl rfl rfl) ?_; rintro ⟨⟩
    refine h_q hflS rfl ?_
    refine h_val rfl (.bool true) (fun b w hb hH => exec_cmp rfl rfl rfl (cmp_eql_t rfl) hb) ?_
    refine h_q hflS rfl ?_
    refine h_val rfl (.string (bs l)) (fun b w hb hH => exec_str8 Try.underlying26 Try.underlying5 (by kernel_rfl) Try.underlying9 (hH.sl8 4 rfl) rfl rfl hb) ?_
    refine h_q hflS rfl ?_
    refine h_val rfl (.string (bs l)) (fun b w hb hH => exec_str8 Try.underlying26 Try.underlying5 (by kernel_rfl) Try.underlying9 (arg80 hv hH) rfl rfl hb) ?_
    refine h_val rfl (.bool true) (fun b w hb hH => exec_same rfl rfl rfl (by simp) hb) ?_
    refine h_q hflS rfl ?_
    refine h_done (d_ret ?_)
    exact f_fin1 (.tmp rfl) (fun w h => ⟨rfl, below0 h.up⟩) rfl
  · skip
    refine d_reg ?_
    refine h_q hflS rfl ?_
    refine h_done (d_then rfl (d_reg ?_))
    refine h_q hflS rfl ?_
    refine h_val rfl (.agg #[.int .i64 x.e.k, .int .u64 x.e.t, .int .u64 x.e.i, x.v, .int .i64 x.e.c]) (fun b w hb hH => exec_load rfl rfl (reads_agg (cs := [.int .i64 x.e.k, .int .u64 x.e.t, .int .u64 x.e.i, x.v, .int .i64 x.e.c]) ty_api_Entry rfl) (hH.row 0 rfl) hb) ?_
    refine h_act (post := fun (y : EntV) => [Vec 5 1 encB y.v y.e.d, fact (y.e = handE (x.e.i % 1000) (x.e.t % 1000) x.e), cell g6 36 #[.int .i64 x.e.k, .int .u64 x.e.t, .int .u64 x.e.i, x.v, .int .i64 x.e.c]]) rfl (a_doesU (Below.refl _ _) (fun _ h => h.elim) (os' := fun (y : EntV) => [Vec 5 1 encB y.v y.e.d, fact (y.e = handE (x.e.i % 1000) (x.e.t % 1000) x.e), cell g6 36 #[.int .i64 x.e.k, .int .u64 x.e.t, .int .u64 x.e.i, x.v, .int .i64 x.e.c]]) [] 0 (ent_of Try.func21 (by kernel_rfl) rfl) (entry_does w x hx ho) rfl rfl rfl (fun _ => rfl) rfl rfl rfl) ?_; rintro y
    refine WL2.fact 1 rfl (fun _ h => h.2) ?_; rintro hye
    refine WL2.leave [1] rfl rfl ?_
    have hyr : rightE y.e = true := by
        rw [hye]
        exact handE_right ⟨Int.emod_nonneg _ (by decide), Int.emod_lt_of_pos _ (by decide)⟩ ⟨Int.emod_nonneg _ (by decide), Int.emod_lt_of_pos _ (by decide)⟩
    have hyd : y.e.d.length ≤ 128 := by
        rcases (rightE_iff hyr).2.2 with ⟨_, h, _⟩ | ⟨_, _, h, _⟩ | ⟨_, h, _⟩
        · rw [h]; simp
        · exact h
        · rw [h]; simp
    refine h_act (post := fun v11 => [Vec 5 1 encB v11 (layE y.e), Vec 5 1 encB y.v y.e.d, cell g6 36 #[.int .i64 x.e.k, .int .u64 x.e.t, .int .u64 x.e.i, x.v, .int .i64 x.e.c]]) rfl (a_makes (os' := fun v11 => [Vec 5 1 encB v11 (layE y.e), Vec 5 1 encB y.v y.e.d, cell g6 36 #[.int .i64 x.e.k, .int .u64 x.e.t, .int .u64 x.e.i, x.v, .int .i64 x.e.c]]) [] 0 (ent_of Try.func23 (by kernel_rfl) rfl) (fun w hH => rlaye_does w y (hH.sl8 0 rfl) hyr) rfl rfl rfl (fun _ => rfl) rfl rfl rfl) ?_; rintro v11
    refine h_q hflS rfl ?_
    refine h_done ?_
    obtain ⟨k, hk⟩ : ∃ k : Nat, at_ % ((layE y.e).length : Int) = (k : Int) := ⟨(at_ % ((layE y.e).length : Int)).toNat, by have := Int.emod_nonneg at_ (show ((layE y.e).length : Int) ≠ 0 by have := layE_cons y.e; omega); omega⟩
    have hkl : k < (layE y.e).length := by have := Int.emod_lt_of_pos at_ (show 0 < ((layE y.e).length : Int) by have := layE_cons y.e; omega); omega
    obtain ⟨q, hq⟩ : ∃ q : UInt8, IntKind.u8.wrap to = (q.toNat : Int) := by
        have h8 : 0 ≤ IntKind.u8.wrap to ∧ IntKind.u8.wrap to < 256 := by rw [IntKind.wrap_u8]; omega
        exact ⟨UInt8.ofNat (IntKind.u8.wrap to).toNat, by rw [byte_of _ (by omega)]; omega⟩
    have hlE := layE_len hyr
    obtain ⟨⟨e, en⟩, hD⟩ : ∃ R, decE ((layE y.e).set k q) = R := ⟨_, rfl⟩
    have hL : ((layE y.e).set k q).length ≤ 140737488355328 := by first | omega | (have h := layE_len hyr; rw [List.length_set]; omega)
    refine d_reg ?_
    refine h_q hflS rfl ?_
    refine h_val rfl (.int .i64 ((layE y.e).length : Int)) (fun b w hb hH => e_vlen 0 Try.underlying26 rfl rfl rfl hH hb) ?_
    refine h_act (post := fun _ => [Vec 5 1 encB v11 (layE y.e), Vec 5 1 encB y.v y.e.d, cell g6 36 #[.int .i64 x.e.k, .int .u64 x.e.t, .int .u64 x.e.i, x.v, .int .i64 x.e.c]]) rfl (a_call (ent_of Try.func27 (by kernel_rfl) rfl) (fun w hH => pick w at_ ((layE y.e).length : Int) wa ⟨by omega, by omega⟩ hk) rfl rfl rfl) ?_; rintro ⟨⟩
    refine h_q hflS rfl ?_
    refine h_val rfl (.int .u8 (q.toNat : Int)) (fun b w hb hH => exec_conv Try.underlying3 Try.underlying5 hq rfl rfl hb) ?_
    refine h_val rfl (elp v11 (k * 1)) (fun b w hb hH => e_vidx 0 sl_uint8 okB rfl k hkl rfl rfl rfl hH hb) ?_
    refine h_acts (post := fun _ => [Vec 5 1 encB v11 ((layE y.e).set k q), Vec 5 1 encB y.v y.e.d, cell g6 36 #[.int .i64 x.e.k, .int .u64 x.e.t, .int .u64 x.e.i, x.v, .int .i64 x.e.c]]) rfl rfl (a_vstore1 0 ty_uint8 okB rfl k hkl q rfl rfl rfl rfl rfl) ?_; rintro ⟨⟩
    refine h_done (d_reg1 ?_)
    refine h_q hflS rfl ?_
    refine h_nil (f_to (d_reg ?_))
    refine h_q hflS rfl ?_
    refine h_act (X := Value) (val := fun v : Value => v) (post := fun u0 => [Vec 5 1 encB u0 ([]), Vec 5 1 encB v11 ((layE y.e).set k q), Vec 5 1 encB y.v y.e.d, cell g6 36 #[.int .i64 x.e.k, .int .u64 x.e.t, .int .u64 x.e.i, x.v, .int .i64 x.e.c]]) rfl (by refine a_build0 (e := 5) (t := 26) (k := 1) (enc := encB) ?_ ?_; exact sl_uint8; exact rfl) ?_; rintro u0
    refine h_q hflS rfl ?_
    refine h_act (post := fun u1 => [Vec 5 1 encB u1 ((layE y.e).set k q), Vec 5 1 encB v11 ((layE y.e).set k q), Vec 5 1 encB y.v y.e.d, cell g6 36 #[.int .i64 x.e.k, .int .u64 x.e.t, .int .u64 x.e.i, x.v, .int .i64 x.e.c]]) rfl (a_append8 0 sl_uint8 (by kernel_rfl) rfl ((layE y.e).set k q) (fun w hH => hH.vec 1 rfl okB) (by have h := layE_len hyr; simp only [List.length_nil, List.length_set]; omega) rfl rfl rfl (List.nil_append _)) ?_; rintro u1
    refine h_q hflS rfl ?_
    refine h_done (d_reg ?_)
    refine h_q hflS rfl ?_
    refine h_act rfl (a_makes  [] 0 (ent_of Try.func26 (by kernel_rfl) rfl) (fun w hH => reade_does w u1 ((layE y.e).set k q) (hH.sl8 0 rfl) hL e en hD) rfl rfl rfl (fun _ => rfl) rfl rfl rfl) ?_; rintro ⟨A1, c1⟩
    refine h_q hflS rfl ?_
    refine h_act (post := fun g14 => [cell g14 36 #[.int .i64 0, .int .u64 0, .int .u64 0, .slice none 0 0, .int .i64 0], Vec 5 1 encB (.slice A1 e.d.length c1) e.d, Vec 5 1 encB u1 ((layE y.e).set k q), Vec 5 1 encB v11 ((layE y.e).set k q), Vec 5 1 encB y.v y.e.d, cell g6 36 #[.int .i64 x.e.k, .int .u64 x.e.t, .int .u64 x.e.i, x.v, .int .i64 x.e.c]]) rfl (a_alloc ze_api_Entry rfl) ?_; rintro g14
    refine h_acts (post := fun _ => [cell g14 36 #[.int .i64 e.k, .int .u64 e.t, .int .u64 e.i, .slice A1 e.d.length c1, .int .i64 e.c], Vec 5 1 encB (.slice A1 e.d.length c1) e.d, Vec 5 1 encB u1 ((layE y.e).set k q), Vec 5 1 encB v11 ((layE y.e).set k q), Vec 5 1 encB y.v y.e.d, cell g6 36 #[.int .i64 x.e.k, .int .u64 x.e.t, .int .u64 x.e.i, x.v, .int .i64 x.e.c]]) rfl rfl (a_store 0 (v := .agg #[.int .i64 e.k, .int .u64 e.t, .int .u64 e.i, .slice A1 e.d.length c1, .int .i64 e.c]) #[.int .i64 e.k, .int .u64 e.t, .int .u64 e.i, .slice A1 e.d.length c1, .int .i64 e.c] ty_api_Entry.2 rfl rfl rfl rfl rfl rfl rfl rfl rfl) ?_; rintro ⟨⟩
    refine h_q hflS rfl ?_
    refine h_done (d_reg ?_)
    refine h_q hflS rfl ?_
    refine h_act rfl (a_makes  [] 0 (ent_of Try.func28 (by kernel_rfl) rfl) (fun w hH => rreade_does w v11 ((layE y.e).set k q) (hH.sl8 3 rfl) hL e en hD) rfl rfl rfl (fun _ => rfl) rfl rfl rfl) ?_; rintro ⟨A2, c2⟩
    refine h_q hflS rfl ?_
    refine h_act (post := fun g16 => [cell g16 36 #[.int .i64 0, .int .u64 0, .int .u64 0, .slice none 0 0, .int .i64 0], Vec 5 1 encB (.slice A2 e.d.length c2) e.d, cell g14 36 #[.int .i64 e.k, .int .u64 e.t, .int .u64 e.i, .slice A1 e.d.length c1, .int .i64 e.c], Vec 5 1 encB (.slice A1 e.d.length c1) e.d, Vec 5 1 encB u1 ((layE y.e).set k q), Vec 5 1 encB v11 ((layE y.e).set k q), Vec 5 1 encB y.v y.e.d, cell g6 36 #[.int .i64 x.e.k, .int .u64 x.e.t, .int .u64 x.e.i, x.v, .int .i64 x.e.c]]) rfl (a_alloc ze_api_Entry rfl) ?_; rintro g16
    refine h_acts (post := fun _ => [cell g16 36 #[.int .i64 e.k, .int .u64 e.t, .int .u64 e.i, .slice A2 e.d.length c2, .int .i64 e.c], Vec 5 1 encB (.slice A2 e.d.length c2) e.d, cell g14 36 #[.int .i64 e.k, .int .u64 e.t, .int .u64 e.i, .slice A1 e.d.length c1, .int .i64 e.c], Vec 5 1 encB (.slice A1 e.d.length c1) e.d, Vec 5 1 encB u1 ((layE y.e).set k q), Vec 5 1 encB v11 ((layE y.e).set k q), Vec 5 1 encB y.v y.e.d, cell g6 36 #[.int .i64 x.e.k, .int .u64 x.e.t, .int .u64 x.e.i, x.v, .int .i64 x.e.c]]) rfl rfl (a_store 0 (v := .agg #[.int .i64 e.k, .int .u64 e.t, .int .u64 e.i, .slice A2 e.d.length c2, .int .i64 e.c]) #[.int .i64 e.k, .int .u64 e.t, .int .u64 e.i, .slice A2 e.d.length c2, .int .i64 e.c] ty_api_Entry.2 rfl rfl rfl rfl rfl rfl rfl rfl rfl) ?_; rintro ⟨⟩
    refine h_q hflS rfl ?_
    refine h_done (d_reg ?_)
    refine h_q hflS rfl ?_
    refine h_act (post := fun _ => [cell g16 36 #[.int .i64 e.k, .int .u64 e.t, .int .u64 e.i, .slice A2 e.d.length c2, .int .i64 e.c], Vec 5 1 encB (.slice A2 e.d.length c2) e.d, cell g14 36 #[.int .i64 e.k, .int .u64 e.t, .int .u64 e.i, .slice A1 e.d.length c1, .int .i64 e.c], Vec 5 1 encB (.slice A1 e.d.length c1) e.d, Vec 5 1 encB u1 ((layE y.e).set k q), Vec 5 1 encB v11 ((layE y.e).set k q), Vec 5 1 encB y.v y.e.d, cell g6 36 #[.int .i64 x.e.k, .int .u64 x.e.t, .int .u64 x.e.i, x.v, .int .i64 x.e.c]]) rfl (a_call (ent_of Try.func17 (by kernel_rfl) rfl) (fun w hH => known6_true w) rfl rfl rfl) ?_; rintro ⟨⟩
    refine h_q hflS rfl ?_
    refine h_val rfl (.agg #[.int .i64 e.k, .int .u64 e.t, .int .u64 e.i, .slice A1 e.d.length c1, .int .i64 e.c]) (fun b w hb hH => exec_load rfl rfl (reads_agg (cs := [.int .i64 e.k, .int .u64 e.t, .int .u64 e.i, .slice A1 e.d.length c1, .int .i64 e.c]) ty_api_Entry rfl) (hH.row 2 rfl) hb) ?_
    refine h_val rfl (.agg #[.int .i64 e.k, .int .u64 e.t, .int .u64 e.i, .slice A2 e.d.length c2, .int .i64 e.c]) (fun b w hb hH => exec_load rfl rfl (reads_agg (cs := [.int .i64 e.k, .int .u64 e.t, .int .u64 e.i, .slice A2 e.d.length c2, .int .i64 e.c]) ty_api_Entry rfl) (hH.row 0 rfl) hb) ?_
    refine h_act (post := fun _ => [cell g16 36 #[.int .i64 e.k, .int .u64 e.t, .int .u64 e.i, .slice A2 e.d.length c2, .int .i64 e.c], Vec 5 1 encB (.slice A2 e.d.length c2) e.d, cell g14 36 #[.int .i64 e.k, .int .u64 e.t, .int .u64 e.i, .slice A1 e.d.length c1, .int .i64 e.c], Vec 5 1 encB (.slice A1 e.d.length c1) e.d, Vec 5 1 encB u1 ((layE y.e).set k q), Vec 5 1 encB v11 ((layE y.e).set k q), Vec 5 1 encB y.v y.e.d, cell g6 36 #[.int .i64 x.e.k, .int .u64 x.e.t, .int .u64 x.e.i, x.v, .int .i64 x.e.c]]) rfl (a_call (ent_of Try.func25 (by kernel_rfl) rfl) (fun w hH => samee_true w ⟨e, A1, c1⟩ ⟨e, A2, c2⟩ (hH.sl8 3 rfl) (hH.sl8 1 rfl) rfl) rfl rfl rfl) ?_; rintro ⟨⟩
    refine h_q hflS rfl ?_
    refine h_val rfl (.bool true) (fun b w hb hH => exec_cmp rfl rfl rfl (cmp_eql_t rfl) hb) ?_
    refine h_q hflS rfl ?_
    refine h_val rfl (.string (bs ((layE y.e).set k q))) (fun b w hb hH => exec_str8 Try.underlying26 Try.underlying5 (by kernel_rfl) Try.underlying9 (hH.sl8 4 rfl) rfl rfl hb) ?_
    refine h_q hflS rfl ?_
    refine h_val rfl (.string (bs ((layE y.e).set k q))) (fun b w hb hH => exec_str8 Try.underlying26 Try.underlying5 (by kernel_rfl) Try.underlying9 (hH.sl8 5 rfl) rfl rfl hb) ?_
    refine h_val rfl (.bool true) (fun b w hb hH => exec_same rfl rfl rfl (by simp) hb) ?_
    refine h_q hflS rfl ?_
    refine h_done ?_
    refine WC2.keep (env' := [(10, .bool true)]) ⟨rfl, trivial⟩ ?_
    refine d_ret ?_
    exact f_fin1 (.tmp rfl) (fun w h => ⟨rfl, below0 h.up⟩) rfl
end Go.Proofs.Ytnhcbjlaeaohjaa.Sep
