/-
  SgQ1 · SgQ2 · SgK9
-/
import Derived.Test.YtaipejaeeohpkaaGreatDoorTP01
import Derived.Test.YtaipejaeeohpkaaGreatDoorTQ01
set_option linter.unusedSimpArgs false
set_option linter.unusedVariables false

namespace Go.Proofs.YtaipejaeeohpkaaGreatDoor.Sep
open Go.RowKit
open Go.Proofs.YtaipejaeeohpkaaGreatDoor.Mem (Dist Blk Chg below0)

set_option maxRecDepth 100000 in
theorem open_nil (w : World)  : Calls Tryz.prog 11 #[.pointer none, .int .i64 64] w fun e w' => e = .returned (.tuple #[.pointer none, .int .i64 1]) ∧ Below w.heap.size w w' := by
  refine d_in (args := [.pointer none, .int .i64 64]) 59 Tryz.func11 rfl rfl rfl ?_
  refine d_reg ?_
  refine h_q hflT rfl ?_
  refine h_done (d_seq (d_reg ?_))
  refine h_q hflT rfl ?_
  refine h_val rfl (.bool true) (fun b w hb hH => exec_pnil2_eql (by kernel_rfl) rfl rfl rfl hb) ?_
  refine h_q hflT rfl ?_
  refine h_done (d_then rfl (d_reg ?_))
  refine h_q hflT rfl ?_
  refine h_done (d_ret (f_then_ret ?_))
  exact f_fin2 (.tmp rfl) (.tmp rfl) (fun w h => ⟨rfl, below0 h.up⟩) rfl

set_option maxRecDepth 100000 in
theorem open_lo (w : World) {dk : Nat} : Calls Tryz.prog 11 #[.pointer (some ⟨dk, 0, none⟩), .int .i64 63] w fun e w' => e = .returned (.tuple #[.pointer none, .int .i64 1]) ∧ Below w.heap.size w w' := by
  refine d_in (args := [.pointer (some ⟨dk, 0, none⟩), .int .i64 63]) 59 Tryz.func11 rfl rfl rfl ?_
  refine d_reg ?_
  refine h_q hflT rfl ?_
  refine h_done (d_seq (d_reg ?_))
  refine h_q hflT rfl ?_
  refine h_val rfl (.bool false) (fun b w hb hH => exec_pnil_eql (by kernel_rfl) rfl rfl rfl hb) ?_
  refine h_q hflT rfl ?_
  refine h_val rfl (.bool true) (fun b w hb hH => exec_cmp rfl rfl rfl (cmp_lss_t (by decide)) hb) ?_
  refine h_q hflT rfl ?_
  refine h_done (d_then rfl (d_reg ?_))
  refine h_q hflT rfl ?_
  refine h_done (d_ret (f_then_ret ?_))
  exact f_fin2 (.tmp rfl) (.tmp rfl) (fun w h => ⟨rfl, below0 h.up⟩) rfl

set_option maxRecDepth 100000 in
theorem open_hi (w : World) {dk : Nat} : Calls Tryz.prog 11 #[.pointer (some ⟨dk, 0, none⟩), .int .i64 16385] w fun e w' => e = .returned (.tuple #[.pointer none, .int .i64 1]) ∧ Below w.heap.size w w' := by
  refine d_in (args := [.pointer (some ⟨dk, 0, none⟩), .int .i64 16385]) 59 Tryz.func11 rfl rfl rfl ?_
  refine d_reg ?_
  refine h_q hflT rfl ?_
  refine h_done (d_seq (d_reg ?_))
  refine h_q hflT rfl ?_
  refine h_val rfl (.bool false) (fun b w hb hH => exec_pnil_eql (by kernel_rfl) rfl rfl rfl hb) ?_
  refine h_q hflT rfl ?_
  refine h_val rfl (.bool false) (fun b w hb hH => exec_cmp rfl rfl rfl (cmp_lss_f (by decide)) hb) ?_
  refine h_q hflT rfl ?_
  refine h_val rfl (.bool true) (fun b w hb hH => exec_cmp rfl rfl rfl (cmp_gtr_t (by decide)) hb) ?_
  refine h_q hflT rfl ?_
  refine h_done (d_then rfl (d_reg ?_))
  refine h_q hflT rfl ?_
  refine h_done (d_ret (f_then_ret ?_))
  exact f_fin2 (.tmp rfl) (.tmp rfl) (fun w h => ⟨rfl, below0 h.up⟩) rfl

set_option maxRecDepth 100000 in
theorem append_off {Y : Ass} {p dk lim : Nat} {ss : SegsM} {v : Value} {z : EntV} (hend : EndOk ss) (hr : rightE z.e = true) (h0 : (endM ss).2 ≠ 0) (h1 : z.e.i ≠ (endM ss).2 + 1) (h3 : 0 ≤ (endM ss).2 ∧ (endM ss).2 ≤ 72057594037927935) (hY : Rd8 Y (.slice z.A z.e.d.length z.c) z.e.d) : Does Tryz.prog 13 #[.pointer (some ⟨p, 0, none⟩), v] [LogT p dk lim ss, Vec 34 5 encV v ([z]), Y] (fun (_ : Unit) => .int .i64 1) (fun (_ : Unit) => [LogT p dk lim ss, Vec 34 5 encV v ([z]), Y]) := by
  refine d_ins (args := [.pointer (some ⟨p, 0, none⟩), v]) 43 Tryz.func13 rfl rfl rfl ?_; intro w rs
  have hz0 : 0 < [z].length := Nat.zero_lt_one
  refine d_reg ?_
  refine h_q hflT rfl ?_
  refine h_done (d_reg ?_)
  refine h_q hflT rfl ?_
  refine h_act (post := fun _ => [LogT p dk lim ss, Vec 34 5 encV v ([z]), Y]) rfl (a_does (os' := fun _ => [LogT p dk lim ss, Vec 34 5 encV v ([z]), Y]) [0] 0 (ent_of Tryz.func43 (by kernel_rfl) rfl) (end_any hend) rfl rfl rfl (fun _ => rfl) rfl rfl rfl) ?_; rintro ⟨⟩
  refine h_act (post := fun gp => [cell gp 34 #[.int .i64 0, .int .u64 0, .int .u64 0, .slice none 0 0, .int .i64 0], LogT p dk lim ss, Vec 34 5 encV v ([z]), Y]) rfl (a_alloc ze_api_Entry rfl) ?_; rintro gp
  refine h_acts (post := fun _ => [cell gp 34 #[.int .i64 0, .int .u64 ((endM ss).1), .int .u64 ((endM ss).2), .slice none 0 0, .int .i64 0], LogT p dk lim ss, Vec 34 5 encV v ([z]), Y]) rfl rfl (a_store 0 (v := .agg #[.int .i64 0, .int .u64 ((endM ss).1), .int .u64 ((endM ss).2), .slice none 0 0, .int .i64 0]) #[.int .i64 0, .int .u64 ((endM ss).1), .int .u64 ((endM ss).2), .slice none 0 0, .int .i64 0] ty_api_Entry.2 rfl rfl rfl rfl rfl rfl rfl rfl rfl) ?_; rintro ⟨⟩
  refine h_done (d_seq (d_reg ?_))
  refine h_q hflT rfl ?_
  refine h_val rfl (.int .i64 ((1 : Nat) : Int)) (fun b w hb hH => e_vlenN 2 rfl Tryz.underlying52 rfl rfl rfl hH hb) ?_
  refine h_q hflT rfl ?_
  refine h_done (d_block ?_)
  refine d_rounds 1 (r_step ?_)
  refine d_reg ?_
  refine h_q hflT rfl ?_
  refine h_val rfl (.bool true) (fun b w hb hH => exec_cmp rfl rfl rfl (cmp_lss_t (by decide)) hb) ?_
  refine h_done (d_seq (d_then rfl (d_skip (f_to (d_seq (d_block (d_reg ?_)))))))
  refine h_q hflT rfl ?_
  refine h_val rfl (elp v (0 * 5)) (fun b w hb hH => e_vidx 2 sl_api_Entry okV rfl 0 hz0 rfl rfl rfl hH hb) ?_
  refine h_val rfl (.agg (encV z).toArray) (fun b w hb hH => e_sagg okV (by decide) (hH.vec 2 rfl okV) (j := 0) rfl ty_api_Entry rfl rfl hb) ?_
  refine h_act (post := fun gx => [cell gx 34 #[.int .i64 0, .int .u64 0, .int .u64 0, .slice none 0 0, .int .i64 0], cell gp 34 #[.int .i64 0, .int .u64 ((endM ss).1), .int .u64 ((endM ss).2), .slice none 0 0, .int .i64 0], LogT p dk lim ss, Vec 34 5 encV v ([z]), Y]) rfl (a_alloc ze_api_Entry rfl) ?_; rintro gx
  refine h_acts (post := fun _ => [cell gx 34 #[.int .i64 z.e.k, .int .u64 z.e.t, .int .u64 z.e.i, z.v, .int .i64 z.e.c], cell gp 34 #[.int .i64 0, .int .u64 ((endM ss).1), .int .u64 ((endM ss).2), .slice none 0 0, .int .i64 0], LogT p dk lim ss, Vec 34 5 encV v ([z]), Y]) rfl rfl (a_store 0 (v := .agg (encV z).toArray) #[.int .i64 z.e.k, .int .u64 z.e.t, .int .u64 z.e.i, z.v, .int .i64 z.e.c] ty_api_Entry.2 rfl rfl rfl rfl rfl rfl rfl rfl rfl) ?_; rintro ⟨⟩
  refine h_done (d_seq (d_reg ?_))
  refine h_q hflT rfl ?_
  refine h_val rfl (.agg #[.int .i64 z.e.k, .int .u64 z.e.t, .int .u64 z.e.i, z.v, .int .i64 z.e.c]) (fun b w hb hH => exec_load rfl rfl (reads_agg (cs := [.int .i64 z.e.k, .int .u64 z.e.t, .int .u64 z.e.i, z.v, .int .i64 z.e.c]) ty_api_Entry rfl) (hH.row 0 rfl) hb) ?_
  refine h_act (post := fun _ => [cell gx 34 #[.int .i64 z.e.k, .int .u64 z.e.t, .int .u64 z.e.i, z.v, .int .i64 z.e.c], cell gp 34 #[.int .i64 0, .int .u64 ((endM ss).1), .int .u64 ((endM ss).2), .slice none 0 0, .int .i64 0], LogT p dk lim ss, Vec 34 5 encV v ([z]), Y]) rfl (a_call (ent_of Tryz.func44 (by kernel_rfl) rfl) (fun w hH => rightE_any w z (hH.rd8 4 rfl hY) true hr) rfl rfl rfl) ?_; rintro ⟨⟩
  refine h_q hflT rfl ?_
  refine h_val rfl (.agg #[.int .i64 0, .int .u64 ((endM ss).1), .int .u64 ((endM ss).2), .slice none 0 0, .int .i64 0]) (fun b w hb hH => exec_load rfl rfl (reads_agg (cs := [.int .i64 0, .int .u64 ((endM ss).1), .int .u64 ((endM ss).2), .slice none 0 0, .int .i64 0]) ty_api_Entry rfl) (hH.row 1 rfl) hb) ?_
  refine h_val rfl (.agg #[.int .i64 z.e.k, .int .u64 z.e.t, .int .u64 z.e.i, z.v, .int .i64 z.e.c]) (fun b w hb hH => exec_load rfl rfl (reads_agg (cs := [.int .i64 z.e.k, .int .u64 z.e.t, .int .u64 z.e.i, z.v, .int .i64 z.e.c]) ty_api_Entry rfl) (hH.row 0 rfl) hb) ?_
  refine h_act (post := fun _ => [cell gx 34 #[.int .i64 z.e.k, .int .u64 z.e.t, .int .u64 z.e.i, z.v, .int .i64 z.e.c], cell gp 34 #[.int .i64 0, .int .u64 ((endM ss).1), .int .u64 ((endM ss).2), .slice none 0 0, .int .i64 0], LogT p dk lim ss, Vec 34 5 encV v ([z]), Y]) rfl (a_call (ent_of Tryz.func45 (by kernel_rfl) rfl) (fun w hH => follows_f w h0 h1 h3) rfl rfl rfl) ?_; rintro ⟨⟩
  refine h_q hflT rfl ?_
  refine h_done (d_then rfl (d_reg ?_))
  refine h_q hflT rfl ?_
  refine h_done (d_ret (f_then_ret (f_block_ret (f_then_ret (f_then_ret (f_block_ret (f_then_ret ?_)))))))
  exact f_fin1 (.tmp rfl) (fun w h => tells () rfl [2, 3, 4] rfl h same_parts) rfl
end Go.Proofs.YtaipejaeeohpkaaGreatDoor.Sep

namespace Go.Proofs.YtaipejaeeohpkaaGreatDoor.Sep
open Go.RowKit

def kdE (i : Int) : EntD := ⟨1, 1, i, List.replicate 30 0, 0⟩
def kdZs : List EntV := [⟨kdE 5, none, 0⟩, ⟨kdE 6, none, 0⟩, ⟨kdE 7, none, 0⟩]
def kdS (j : Nat) : LogS := addsM 64 ([], newD 1048576) (kdZs.take j)
theorem kd_C : LogC (allE [] ++ kdZs.map (·.e)) := by
  have h1 : LogC [kdE 5] := LogC.nil.push (by decide) (fol_nil _)
  have h2 : LogC [kdE 5, kdE 6] := h1.push (e := kdE 6) (by decide) ⟨.inr ⟨by decide, by decide, by decide⟩, by decide, by decide⟩
  exact h2.push (e := kdE 7) (by decide) ⟨.inr ⟨by decide, by decide, by decide⟩, by decide, by decide⟩
theorem kd_at (j : Nat) (hj : j ≤ 3) : ∃ d', kdS j = (marksOf (addsL 64 [] (kdZs.take j)), d') ∧ LogD d' (addsL 64 [] (kdZs.take j)) (0 + j) :=
  (logD_new (room := 1048576) rfl).adds (lim := 64) (l := kdZs) kd_C (by decide) (by decide) j hj
theorem kd_step {Y : Ass} {A : Option Addr} {c j : Nat} {z : EntV} (tb : Tb) (hz : kdZs[j]? = some z) (hY : Rd8 Y (.slice A z.e.d.length c) z.e.d) (p dk : Nat) (v : Value) : Does Tryz.prog 13 #[.pointer (some ⟨p, 0, none⟩), v] [LogT p dk 64 (kdS j).1, DiskT dk (kdS j).2, TabZ tb, Vec 34 5 encV v [(⟨z.e, A, c⟩ : EntV)], Y] (fun (_ : Unit) => .int .i64 0) (fun (_ : Unit) => [LogT p dk 64 (kdS (j + 1)).1, DiskT dk (kdS (j + 1)).2, TabZ tb, Vec 34 5 encV v [(⟨z.e, A, c⟩ : EntV)], Y]) := by
  have hjl : j < 3 := (List.getElem?_eq_some_iff.1 hz).1
  obtain ⟨d1, h1, h2⟩ := kd_at j (by omega)
  have hze : z.e ∈ allE [] ++ kdZs.map (·.e) := List.mem_append_right _ (List.mem_map.2 ⟨z, List.mem_of_getElem? hz, rfl⟩)
  have hall : allE (addsL 64 [] (kdZs.take j)) = allE [] ++ (kdZs.take j).map (·.e) := allE_adds 64 _ []
  have hsp : allE [] ++ kdZs.map (·.e) = (allE [] ++ (kdZs.take j).map (·.e)) ++ z.e :: (kdZs.drop (j + 1)).map (·.e) := by
    conv => lhs; rw [← List.take_append_drop j kdZs, drop_at hz]
    simp
  have hfo : FolOk (lastIT (allE (addsL 64 [] (kdZs.take j)))) z.e := by rw [hall]; exact kd_C.fol _ _ _ hsp
  have hlen : (allE (addsL 64 [] (kdZs.take j))).length < 60 := by rw [hall, List.length_append, List.length_map, List.length_take]; simp only [allE, List.flatMap_nil, List.length_nil]; omega
  obtain ⟨hao, _⟩ := h2.add (lim := 64) (e := z.e) (by omega) (kd_C.right _ hze) hfo hlen
  have hone : ∀ (i : Nat) (x : EntV), [(⟨z.e, A, c⟩ : EntV)][i]? = some x → i = 0 ∧ x = ⟨z.e, A, c⟩ := fun i x hx => by
    cases i with
    | zero => simp only [List.getElem?_cons_zero, Option.some.injEq] at hx; exact ⟨rfl, hx.symm⟩
    | succ i => simp at hx
  have h3 := append_doesX (Y := Y) (p := p) (dk := dk) (lim := 64) (s := kdS j) (v := v) (l := [(⟨z.e, A, c⟩ : EntV)]) tb (by decide) (by simp) (by rw [h1]; exact endOk_marks h2.g)
    (fun i x hx => by
      obtain ⟨rfl, rfl⟩ := hone i x hx
      rw [h1, prev_marks h2.g]
      simpa using hfo)
    (fun i x hx => by
      obtain ⟨rfl, rfl⟩ := hone i x hx
      exact hY)
    (fun i x hx => by
      obtain ⟨rfl, rfl⟩ := hone i x hx
      show AddOk 64 (kdS j) z.e
      rw [h1]; exact hao)
  have h4 : addsM 64 (kdS j) [(⟨z.e, A, c⟩ : EntV)] = kdS (j + 1) := by
    show addM 64 (kdS j) z.e = _
    unfold kdS
    rw [adds_take hz]
  rw [h4] at h3
  exact h3
theorem kd_segs : (addsL 64 [] kdZs).length = 3 := by decide +kernel
theorem kd_bounds {L' : List EntD} (h : CutTo 6 (allE (addsL 64 [] kdZs)) L') : L' = [kdE 5] := by
  rw [allE_adds] at h
  obtain ⟨c, h1, h2⟩ := h
  have a1 := (h2 0 (kdE 5) rfl).2 (by decide)
  have a2 : ¬ 1 < c := fun hc => absurd ((h2 1 (kdE 6) rfl).1 hc) (by decide)
  obtain rfl : c = 1 := by omega
  rw [h1]; rfl
theorem cut_all {M : LogMs} (h : LogG M) (hM : CutTo 5 [kdE 5] (allE M)) : M = [] := by
  obtain ⟨c, h1, h2⟩ := hM
  have a1 : ¬ 0 < c := fun hc => absurd ((h2 0 (kdE 5) rfl).1 hc) (by decide)
  obtain rfl : c = 0 := by omega
  have h3 := h.few
  rw [h1] at h3
  exact List.length_eq_zero_iff.1 (Nat.le_zero.1 h3)
end Go.Proofs.YtaipejaeeohpkaaGreatDoor.Sep

namespace Go.Proofs.YtaipejaeeohpkaaGreatDoor.Sep
open Go.RowKit
open Go.Proofs.YtaipejaeeohpkaaGreatDoor.Mem (Dist Blk Chg below0)

theorem kd_e {j : Nat} {z : EntV} (h : kdZs[j]? = some z) : z.e.k = 1 ∧ z.e.t = 1 ∧ z.e.i = ((5 + j : Nat) : Int) ∧ z.e.c = 0 ∧ z.e.d = List.replicate 30 0 := by
  match j, h with
  | 0, h => cases h; exact ⟨rfl, rfl, rfl, rfl, rfl⟩
  | 1, h => cases h; exact ⟨rfl, rfl, rfl, rfl, rfl⟩
  | 2, h => cases h; exact ⟨rfl, rfl, rfl, rfl, rfl⟩
  | j + 3, h => simp [kdZs] at h
theorem kd_cells {j : Nat} {z : EntV} {A0 : Option Addr} {c0 : Nat} (h : kdZs[j]? = some z) : (Value.agg #[.int .i64 1, .int .u64 1, .int .u64 ((5 + j : Nat) : Int), .slice A0 30 c0, .int .i64 0]).cells.toList = encV (⟨z.e, A0, c0⟩ : EntV) := by
  obtain ⟨h0, h1, h2, h3, h4⟩ := kd_e h
  unfold encV EntV.v
  simp only [h0, h1, h2, h3, h4, List.length_replicate]
  rfl
theorem kd_rd {z : EntV} {A0 : Option Addr} {c0 : Nat} (h : z.e.d = List.replicate 30 0) : Rd8 (Vec 5 1 encB (.slice A0 30 c0) (List.replicate 30 0)) (.slice A0 z.e.d.length c0) z.e.d := by
  rw [h, List.length_replicate]
  exact rd8_vec
theorem rd8_nil9 : Rd8 emp (.slice none 0 0) [] := fun _ w _ _ => sl8_nil w

set_option maxRecDepth 100000 in
theorem segknown_law (tb : Tb) : Does Tryz.prog 3 #[] [TabZ tb] (fun (_ : Unit) => .bool true) (fun (_ : Unit) => [TabZ tb]) := by
  refine d_ins (args := []) 108 Tryz.func3 rfl rfl rfl ?_; intro w rs
  obtain ⟨d3, hs3_, hD3_⟩ := kd_at 3 (by decide)
  have hs3 : kdS 3 = (marksOf (addsL 64 [] kdZs), d3) := hs3_
  have hD3 : LogD d3 (addsL 64 [] kdZs) (0 + 3) := hD3_
  have hnl3 : (((addsL 64 [] kdZs).map (·.1)).map nameL).length = 3 := by rw [List.length_map, List.length_map]; exact kd_segs
  have hdn3 : d3.now.length ≤ 1000000 := by rw [hD3.now]; unfold filesM; rw [List.length_map]; exact Nat.le_trans (Nat.le_of_eq kd_segs) (by decide)
  have hnm3 : namesS d3.now = ((addsL 64 [] kdZs).map (·.1)).map nameL := by rw [hD3.now]; exact files_names hD3.g
  have hend3 : endM (marksOf (addsL 64 [] kdZs)) = (1, 7) := by rw [endM_marks hD3.g, allE_adds]; rfl
  obtain ⟨d4, M4, hD4, hc4, hA4⟩ := hD3.cut (lim := 64) (n := 6) tb (by decide) (by exact Nat.le_trans (Nat.add_le_add_left (Nat.le_of_eq kd_segs) _) (by decide))
  have h4 := kd_bounds hc4
  have hM4 : M4.length ≤ 1 := by have := hD4.g.few; rw [h4] at this; exact this
  obtain ⟨d5, M5, hD5, hc5, hA5⟩ := hD4.cut (lim := 64) (n := 5) tb (by decide) (by have := Nat.le_of_eq kd_segs; exact Nat.le_trans (Nat.add_le_add (Nat.add_le_add_right (Nat.add_le_add_left this _) 1) hM4) (by decide))
  rw [h4] at hc5
  have hM5 := cut_all hD5.g hc5
  refine d_reg ?_
  refine h_q hflT rfl ?_
  refine h_done (d_reg ?_)
  refine h_q hflT rfl ?_
  refine h_act (post := fun dk => [DiskT dk (newD 1048576), TabZ tb]) rfl (a_does (os' := fun dk => [DiskT dk (newD 1048576), TabZ tb]) [] 0 (ent_of Tryz.func10 (by kernel_rfl) rfl) (disk_new 1048576 (by decide)) rfl rfl rfl (fun _ => rfl) rfl rfl rfl) ?_; rintro dk
  refine h_q hflT rfl ?_
  refine h_done (d_reg ?_)
  refine h_q hflT rfl ?_
  refine h_act (post := fun _ => [DiskT dk (newD 1048576), TabZ tb]) rfl (a_call (ent_of Tryz.func11 (by kernel_rfl) rfl) (fun w hH => open_nil w) rfl rfl rfl) ?_; rintro ⟨⟩
  refine h_q hflT rfl ?_
  refine h_done (d_reg ?_)
  refine h_q hflT rfl ?_
  refine h_act (post := fun _ => [DiskT dk (newD 1048576), TabZ tb]) rfl (a_call (ent_of Tryz.func11 (by kernel_rfl) rfl) (fun w hH => open_lo w) rfl rfl rfl) ?_; rintro ⟨⟩
  refine h_q hflT rfl ?_
  refine h_done (d_reg ?_)
  refine h_q hflT rfl ?_
  refine h_act (post := fun _ => [DiskT dk (newD 1048576), TabZ tb]) rfl (a_call (ent_of Tryz.func11 (by kernel_rfl) rfl) (fun w hH => open_hi w) rfl rfl rfl) ?_; rintro ⟨⟩
  refine h_q hflT rfl ?_
  refine h_done (d_seq (d_reg ?_))
  refine h_q hflT rfl ?_
  refine h_act (post := fun _ => [DiskT dk (newD 1048576), TabZ tb]) rfl (a_does (os' := fun _ => [DiskT dk (newD 1048576), TabZ tb]) [1] 0 (ent_of Tryz.func12 (by kernel_rfl) rfl) (known_does tb) rfl rfl rfl (fun _ => rfl) rfl rfl rfl) ?_; rintro ⟨⟩
  refine h_q hflT rfl ?_
  refine h_val rfl (.bool false) (fun b w hb hH => exec_cmp rfl rfl rfl (cmp_neq_f (by decide)) hb) ?_
  refine h_q hflT rfl ?_
  refine h_val rfl (.bool false) (fun b w hb hH => exec_cmp rfl rfl rfl (cmp_neq_f (by decide)) hb) ?_
  refine h_q hflT rfl ?_
  refine h_val rfl (.bool false) (fun b w hb hH => exec_cmp rfl rfl rfl (cmp_neq_f (by decide)) hb) ?_
  refine h_q hflT rfl ?_
  refine h_done (d_else rfl (d_skip (f_to (d_reg ?_))))
  refine h_q hflT rfl ?_
  refine h_act (post := fun p1 => [TabZ tb, LogT p1 dk 64 (marksOf []), DiskT dk (newD 1048576)]) rfl (a_does (os' := fun p1 => [TabZ tb, LogT p1 dk 64 (marksOf []), DiskT dk (newD 1048576)]) [0, 1] 0 (ent_of Tryz.func11 (by kernel_rfl) rfl) ((logD_new (room := 1048576) rfl).opens (dk := dk) (lim := 64) tb (by decide) (by decide) (by decide)) rfl rfl rfl (fun _ => rfl) rfl rfl rfl) ?_; rintro p1
  refine h_q hflT rfl ?_
  refine h_done ?_
  refine WC2.keep (env' := [(0, .bool false), (1, .pointer (some ⟨dk, 0, none⟩)), (9, .pointer (some ⟨p1, 0, none⟩))]) ⟨rfl, rfl, rfl, trivial⟩ ?_
  refine d_reg ?_
  refine h_q hflT rfl ?_
  refine h_act (post := fun dv => [Vec 5 1 encB dv (List.replicate 30 0), TabZ tb, LogT p1 dk 64 (marksOf []), DiskT dk (newD 1048576)]) rfl (a_mkslice8 sl_uint8 (by kernel_rfl) (fun w => by kernel_rfl) (N := 30) (by decide) rfl rfl rfl) ?_; rintro dv
  refine WL2.fact 0 rfl (fun _ h => Vec.is h) ?_; rintro ⟨A0, c0, hdv⟩
  change dv = .slice A0 30 c0 at hdv
  subst hdv
  refine WL2.keep (env' := [(0, .bool false), (1, .pointer (some ⟨dk, 0, none⟩)), (9, .pointer (some ⟨p1, 0, none⟩)), (53, .slice A0 30 c0)]) ⟨rfl, rfl, rfl, rfl, trivial⟩ ?_
  refine WL2.mid [Vec 5 1 encB (.slice A0 30 c0) (List.replicate 30 0), TabZ tb, LogT p1 dk 64 (marksOf []), DiskT dk (newD 1048576)] (.refl _) ?_
  refine h_q hflT rfl ?_
  refine h_done (d_seq (d_reg ?_))
  refine h_q hflT rfl ?_
  refine h_done (d_block ?_)
  refine WC2.keep (env' := [(0, .bool false), (1, .pointer (some ⟨dk, 0, none⟩)), (9, .pointer (some ⟨p1, 0, none⟩)), (53, .slice A0 30 c0), (11, .slice A0 30 c0), (12, .int .u64 5)]) ⟨rfl, rfl, rfl, rfl, rfl, rfl, trivial⟩ ?_
  refine WC2.mid [Vec 5 1 encB (.slice A0 30 c0) (List.replicate 30 0), TabZ tb, LogT p1 dk 64 (kdS 0).1, DiskT dk (kdS 0).2] (.refl _) ?_
  refine d_loop (α := Nat) (fun j => [(0, .bool false), (1, .pointer (some ⟨dk, 0, none⟩)), (9, .pointer (some ⟨p1, 0, none⟩)), (11, .slice A0 30 c0), (12, .int .u64 ((5 + j : Nat) : Int))]) (fun j => [Vec 5 1 encB (.slice A0 30 c0) (List.replicate 30 0), TabZ tb, LogT p1 dk 64 (kdS j).1, DiskT dk (kdS j).2]) (fun j => j ≤ 3) (fun j => 3 - j) 0 (Nat.zero_le _) ⟨rfl, rfl, rfl, rfl, rfl, trivial⟩ rfl ?_
  rintro j hI
  refine WC2.at_ (env' := [(0, .bool false), (1, .pointer (some ⟨dk, 0, none⟩)), (9, .pointer (some ⟨p1, 0, none⟩)), (11, .slice A0 30 c0), (12, .int .u64 ((5 + j : Nat) : Int))]) (rs' := [Vec 5 1 encB (.slice A0 30 c0) (List.replicate 30 0), TabZ tb, LogT p1 dk 64 (kdS j).1, DiskT dk (kdS j).2]) ⟨rfl, rfl, rfl, rfl, rfl, trivial⟩ rfl ?_
  refine d_seq ?_
  rcases Nat.lt_or_ge j 3 with hjN | hjN
  · skip
    obtain ⟨z, hz⟩ : ∃ z, kdZs[j]? = some z := ⟨_, List.getElem?_eq_getElem (show j < kdZs.length from hjN)⟩
    obtain ⟨hk0, hk1, hk2, hk3, hk4⟩ := kd_e hz
    refine d_reg ?_
    refine h_q hflT rfl ?_
    refine h_val rfl (.bool true) (fun b w hb hH => exec_cmp rfl rfl rfl (cmp_leq_t (by omega)) hb) ?_
    refine h_done (d_then rfl (d_skip (f_to (d_seq (d_block (d_reg ?_))))))
    refine h_q hflT rfl ?_
    refine h_val rfl (.agg #[.int .i64 1, .int .u64 1, .int .u64 ((5 + j : Nat) : Int), .slice A0 30 c0, .int .i64 0]) (fun b w hb hH => exec_build rfl rfl (by kernel_rfl) hb) ?_
    refine h_act (X := Value) (val := fun v : Value => v) (post := fun ve => [Vec 34 5 encV ve ([(⟨z.e, A0, c0⟩ : EntV)]), Vec 5 1 encB (.slice A0 30 c0) (List.replicate 30 0), TabZ tb, LogT p1 dk 64 (kdS j).1, DiskT dk (kdS j).2]) rfl (by exact a_buildK (c := .agg #[.int .i64 1, .int .u64 1, .int .u64 ((5 + j : Nat) : Int), .slice A0 30 c0, .int .i64 0]) sl_api_Entry (by decide) okV (⟨z.e, A0, c0⟩ : EntV) (kd_cells hz) rfl rfl) ?_; rintro ve
    refine h_act (post := fun _ => [Vec 34 5 encV ve ([(⟨z.e, A0, c0⟩ : EntV)]), Vec 5 1 encB (.slice A0 30 c0) (List.replicate 30 0), TabZ tb, LogT p1 dk 64 (kdS (j + 1)).1, DiskT dk (kdS (j + 1)).2]) rfl (a_does (os' := fun _ => [Vec 34 5 encV ve ([(⟨z.e, A0, c0⟩ : EntV)]), Vec 5 1 encB (.slice A0 30 c0) (List.replicate 30 0), TabZ tb, LogT p1 dk 64 (kdS (j + 1)).1, DiskT dk (kdS (j + 1)).2]) [3, 4, 2, 0, 1] 0 (ent_of Tryz.func13 (by kernel_rfl) rfl) (kd_step tb hz (kd_rd hk4) p1 dk ve) rfl rfl rfl (fun _ => rfl) rfl rfl rfl) ?_; rintro ⟨⟩
    refine h_val rfl (.bool false) (fun b w hb hH => exec_cmp rfl rfl rfl (cmp_neq_f (by decide)) hb) ?_
    refine h_done (d_else rfl (d_skip (f_block (f_to ?_))))
    refine WC2.leave [0] rfl rfl ?_
    refine WC2.keep (env' := [(0, .bool false), (1, .pointer (some ⟨dk, 0, none⟩)), (9, .pointer (some ⟨p1, 0, none⟩)), (11, .slice A0 30 c0), (12, .int .u64 ((5 + j : Nat) : Int)), (54, .int .u64 ((5 + j : Nat) : Int)), (55, .bool true), (58, .pointer (some ⟨p1, 0, none⟩)), (59, .int .u64 ((5 + j : Nat) : Int)), (60, .slice A0 30 c0), (61, .agg #[.int .i64 1, .int .u64 1, .int .u64 ((5 + j : Nat) : Int), .slice A0 30 c0, .int .i64 0]), (62, ve), (63, .int .i64 0), (64, .bool false)]) ⟨rfl, rfl, rfl, rfl, rfl, rfl, rfl, rfl, rfl, rfl, rfl, rfl, rfl, rfl, trivial⟩ ?_
    refine WC2.mid [Vec 5 1 encB (.slice A0 30 c0) (List.replicate 30 0), TabZ tb, LogT p1 dk 64 (kdS (j + 1)).1, DiskT dk (kdS (j + 1)).2] (.refl _) ?_
    refine d_reg1 ?_
    refine h_q hflT rfl ?_
    refine h_val rfl (.int .u64 ((5 + (j + 1) : Nat) : Int)) (fun b w hb hH => exec_ar rfl rfl rfl rfl (by rw [IntWalk.u64_in _ (by omega)]; omega) hb) ?_
    refine h_q hflT rfl ?_
    refine h_nil ?_
    exact f_again (j + 1) 0 (by omega) (show 3 - (j + 1) < 3 - j by omega) ⟨rfl, rfl, rfl, rfl, rfl, trivial⟩ rfl
  · skip
    have hje : j = 3 := by omega
    refine d_reg ?_
    refine h_q hflT rfl ?_
    refine h_val rfl (.bool false) (fun b w hb hH => exec_cmp rfl rfl rfl (cmp_leq_f (by omega)) hb) ?_
    refine h_done (d_else rfl (d_exit (f_then_exit (f_then_exit (f_block_exit (f_to ?_))))))
    rw [show kdS j = (marksOf (addsL 64 [] kdZs), d3) from hje ▸ hs3]
    refine WC2.keep (env' := [(0, .bool false), (1, .pointer (some ⟨dk, 0, none⟩)), (9, .pointer (some ⟨p1, 0, none⟩)), (11, .slice A0 30 c0), (12, .int .u64 ((5 + j : Nat) : Int)), (54, .int .u64 ((5 + j : Nat) : Int)), (55, .bool false)]) ⟨rfl, rfl, rfl, rfl, rfl, rfl, rfl, trivial⟩ ?_
    refine WC2.mid [Vec 5 1 encB (.slice A0 30 c0) (List.replicate 30 0), TabZ tb, LogT p1 dk 64 (marksOf (addsL 64 [] kdZs)), DiskT dk d3] (.refl _) ?_
    refine d_reg ?_
    refine h_q hflT rfl ?_
    refine h_act (post := fun nv => [Vec 9 1 encKs nv (((addsL 64 [] kdZs).map (·.1)).map nameL), Vec 5 1 encB (.slice A0 30 c0) (List.replicate 30 0), TabZ tb, LogT p1 dk 64 (marksOf (addsL 64 [] kdZs)), DiskT dk d3]) rfl (a_does (os' := fun nv => [Vec 9 1 encKs nv (((addsL 64 [] kdZs).map (·.1)).map nameL), Vec 5 1 encB (.slice A0 30 c0) (List.replicate 30 0), TabZ tb, LogT p1 dk 64 (marksOf (addsL 64 [] kdZs)), DiskT dk d3]) [3] 0 (ent_of Tryz.func14 (by kernel_rfl) rfl) (disk_namesU hD3.down hdn3 hnm3) rfl rfl rfl (fun _ => rfl) rfl rfl rfl) ?_; rintro nv
    refine h_val rfl (.int .i64 ((3 : Nat) : Int)) (fun b w hb hH => e_vlenN 0 hnl3 Tryz.underlying35 rfl rfl rfl hH hb) ?_
    refine h_q hflT rfl ?_
    refine h_done ?_
    refine d_new (t := emp) (rfl) ?_
    refine d_reg ?_
    refine h_q hflT rfl ?_
    refine h_act (post := fun _ => [emp, Vec 9 1 encKs nv (((addsL 64 [] kdZs).map (·.1)).map nameL), Vec 5 1 encB (.slice A0 30 c0) (List.replicate 30 0), TabZ tb, LogT p1 dk 64 (marksOf (addsL 64 [] kdZs)), DiskT dk d3]) rfl (a_call (ent_of Tryz.func15 (by kernel_rfl) rfl) (fun w hH => none_c w 9 1) rfl rfl rfl) ?_; rintro ⟨⟩
    refine h_act (X := Value) (val := fun v : Value => v) (post := fun v9 => [Vec 34 5 encV v9 ([(knV 9 1)]), emp, Vec 9 1 encKs nv (((addsL 64 [] kdZs).map (·.1)).map nameL), Vec 5 1 encB (.slice A0 30 c0) (List.replicate 30 0), TabZ tb, LogT p1 dk 64 (marksOf (addsL 64 [] kdZs)), DiskT dk d3]) rfl (by refine a_buildK (e := 34) (t := 52) (k := 5) (enc := encV) (x := .tmp 69) (c := .agg #[.int .i64 0, .int .u64 1, .int .u64 9, .slice none 0 0, .int .i64 0]) ?_ ?_ ?_ (knV 9 1) ?_ ?_ ?_; exact sl_api_Entry; exact (by decide); exact okV; exact rfl; exact rfl; exact rfl) ?_; rintro v9
    refine h_act (post := fun _ => [Vec 34 5 encV v9 ([knV 9 1]), emp, Vec 9 1 encKs nv (((addsL 64 [] kdZs).map (·.1)).map nameL), Vec 5 1 encB (.slice A0 30 c0) (List.replicate 30 0), TabZ tb, LogT p1 dk 64 (marksOf (addsL 64 [] kdZs)), DiskT dk d3]) rfl (a_does (os' := fun _ => [Vec 34 5 encV v9 ([knV 9 1]), emp, Vec 9 1 encKs nv (((addsL 64 [] kdZs).map (·.1)).map nameL), Vec 5 1 encB (.slice A0 30 c0) (List.replicate 30 0), TabZ tb, LogT p1 dk 64 (marksOf (addsL 64 [] kdZs)), DiskT dk d3]) [5, 0, 1] 0 (ent_of Tryz.func13 (by kernel_rfl) rfl) (append_off (Y := emp) (p := p1) (dk := dk) (lim := 64) (ss := marksOf (addsL 64 [] kdZs)) (v := v9) (z := knV 9 1) (endOk_marks hD3.g) (by decide) (by rw [hend3]; decide) (by rw [hend3]; decide) (by rw [hend3]; decide) rd8_nil9) rfl rfl rfl (fun _ => rfl) rfl rfl rfl) ?_; rintro ⟨⟩
    refine h_q hflT rfl ?_
    refine h_done (d_reg ?_)
    refine h_q hflT rfl ?_
    refine h_act (post := fun _ => [Vec 34 5 encV v9 ([knV 9 1]), emp, Vec 9 1 encKs nv (((addsL 64 [] kdZs).map (·.1)).map nameL), Vec 5 1 encB (.slice A0 30 c0) (List.replicate 30 0), TabZ tb, LogT p1 dk 64 (marksOf M4), DiskT dk d4]) rfl (a_does (os' := fun _ => [Vec 34 5 encV v9 ([knV 9 1]), emp, Vec 9 1 encKs nv (((addsL 64 [] kdZs).map (·.1)).map nameL), Vec 5 1 encB (.slice A0 30 c0) (List.replicate 30 0), TabZ tb, LogT p1 dk 64 (marksOf M4), DiskT dk d4]) [5, 6, 4] 0 (ent_of Tryz.func16 (by kernel_rfl) rfl) (hA4 p1 dk) rfl rfl rfl (fun _ => rfl) rfl rfl rfl) ?_; rintro ⟨⟩
    refine h_done (d_reg ?_)
    refine h_q hflT rfl ?_
    refine h_act (post := fun _ => [Vec 34 5 encV v9 ([knV 9 1]), emp, Vec 9 1 encKs nv (((addsL 64 [] kdZs).map (·.1)).map nameL), Vec 5 1 encB (.slice A0 30 c0) (List.replicate 30 0), TabZ tb, LogT p1 dk 64 (marksOf M4), DiskT dk d4]) rfl (a_does (os' := fun _ => [Vec 34 5 encV v9 ([knV 9 1]), emp, Vec 9 1 encKs nv (((addsL 64 [] kdZs).map (·.1)).map nameL), Vec 5 1 encB (.slice A0 30 c0) (List.replicate 30 0), TabZ tb, LogT p1 dk 64 (marksOf M4), DiskT dk d4]) [5] 0 (ent_of Tryz.func17 (by kernel_rfl) rfl) ((h4 ▸ hD4.lastD p1 dk 64)) rfl rfl rfl (fun _ => rfl) rfl rfl rfl) ?_; rintro ⟨⟩
    refine h_q hflT rfl ?_
    refine h_done (d_reg ?_)
    refine h_q hflT rfl ?_
    refine h_act (post := fun _ => [Vec 34 5 encV v9 ([knV 9 1]), emp, Vec 9 1 encKs nv (((addsL 64 [] kdZs).map (·.1)).map nameL), Vec 5 1 encB (.slice A0 30 c0) (List.replicate 30 0), TabZ tb, LogT p1 dk 64 (marksOf M5), DiskT dk d5]) rfl (a_does (os' := fun _ => [Vec 34 5 encV v9 ([knV 9 1]), emp, Vec 9 1 encKs nv (((addsL 64 [] kdZs).map (·.1)).map nameL), Vec 5 1 encB (.slice A0 30 c0) (List.replicate 30 0), TabZ tb, LogT p1 dk 64 (marksOf M5), DiskT dk d5]) [5, 6, 4] 0 (ent_of Tryz.func16 (by kernel_rfl) rfl) (hA5 p1 dk) rfl rfl rfl (fun _ => rfl) rfl rfl rfl) ?_; rintro ⟨⟩
    refine h_done ?_
    rw [hM5] at hD5 ⊢
    refine WC2.keep (env' := [(0, .bool false), (1, .pointer (some ⟨dk, 0, none⟩)), (9, .pointer (some ⟨p1, 0, none⟩)), (11, .slice A0 30 c0), (12, .int .u64 ((5 + j : Nat) : Int)), (54, .int .u64 ((5 + j : Nat) : Int)), (55, .bool false), (65, .pointer (some ⟨dk, 0, none⟩)), (66, nv), (67, .int .i64 ((3 : Nat) : Int)), (13, .int .i64 ((3 : Nat) : Int)), (68, .pointer (some ⟨p1, 0, none⟩)), (69, .agg #[.int .i64 0, .int .u64 1, .int .u64 9, .slice none 0 0, .int .i64 0]), (70, v9), (71, .int .i64 1), (14, .int .i64 1), (72, .pointer (some ⟨p1, 0, none⟩)), (73, .int .i64 0), (74, .pointer (some ⟨p1, 0, none⟩)), (75, .int .u64 5), (15, .int .u64 5), (76, .pointer (some ⟨p1, 0, none⟩)), (77, .int .i64 0)]) ⟨rfl, rfl, rfl, rfl, rfl, rfl, rfl, rfl, rfl, rfl, rfl, rfl, rfl, rfl, rfl, rfl, rfl, rfl, rfl, rfl, rfl, rfl, rfl, trivial⟩ ?_
    refine WC2.mid [Vec 34 5 encV v9 ([knV 9 1]), emp, Vec 9 1 encKs nv (((addsL 64 [] kdZs).map (·.1)).map nameL), Vec 5 1 encB (.slice A0 30 c0) (List.replicate 30 0), TabZ tb, LogT p1 dk 64 (marksOf []), DiskT dk d5] (.refl _) ?_
    refine d_reg ?_
    refine h_q hflT rfl ?_
    refine h_val rfl (.bool true) (fun b w hb hH => exec_cmp rfl rfl rfl (cmp_geq_t (by omega)) hb) ?_
    refine h_q hflT rfl ?_
    refine h_val rfl (.bool true) (fun b w hb hH => exec_cmp rfl rfl rfl (cmp_eql_t (by decide)) hb) ?_
    refine h_q hflT rfl ?_
    refine h_val rfl (.bool true) (fun b w hb hH => exec_cmp rfl rfl rfl (cmp_eql_t (by decide)) hb) ?_
    refine h_q hflT rfl ?_
    refine h_act (post := fun _ => [Vec 34 5 encV v9 ([knV 9 1]), emp, Vec 9 1 encKs nv (((addsL 64 [] kdZs).map (·.1)).map nameL), Vec 5 1 encB (.slice A0 30 c0) (List.replicate 30 0), TabZ tb, LogT p1 dk 64 (marksOf []), DiskT dk d5]) rfl (a_does (os' := fun _ => [Vec 34 5 encV v9 ([knV 9 1]), emp, Vec 9 1 encKs nv (((addsL 64 [] kdZs).map (·.1)).map nameL), Vec 5 1 encB (.slice A0 30 c0) (List.replicate 30 0), TabZ tb, LogT p1 dk 64 (marksOf []), DiskT dk d5]) [5] 0 (ent_of Tryz.func17 (by kernel_rfl) rfl) (hD5.lastD p1 dk 64) rfl rfl rfl (fun _ => rfl) rfl rfl rfl) ?_; rintro ⟨⟩
    refine h_val rfl (.bool true) (fun b w hb hH => exec_cmp rfl rfl rfl (cmp_eql_t (by decide)) hb) ?_
    refine h_q hflT rfl ?_
    refine h_act (post := fun _ => [Vec 34 5 encV v9 ([knV 9 1]), emp, Vec 9 1 encKs nv (((addsL 64 [] kdZs).map (·.1)).map nameL), Vec 5 1 encB (.slice A0 30 c0) (List.replicate 30 0), TabZ tb, LogT p1 dk 64 (marksOf []), DiskT dk d5]) rfl (a_does (os' := fun _ => [Vec 34 5 encV v9 ([knV 9 1]), emp, Vec 9 1 encKs nv (((addsL 64 [] kdZs).map (·.1)).map nameL), Vec 5 1 encB (.slice A0 30 c0) (List.replicate 30 0), TabZ tb, LogT p1 dk 64 (marksOf []), DiskT dk d5]) [5] 0 (ent_of Tryz.func18 (by kernel_rfl) rfl) (first_empty) rfl rfl rfl (fun _ => rfl) rfl rfl rfl) ?_; rintro ⟨⟩
    refine h_val rfl (.bool true) (fun b w hb hH => exec_cmp rfl rfl rfl (cmp_eql_t (by decide)) hb) ?_
    refine h_q hflT rfl ?_
    refine h_act (post := fun nv2 => [Vec 9 1 encKs nv2 ([]), Vec 34 5 encV v9 ([knV 9 1]), emp, Vec 9 1 encKs nv (((addsL 64 [] kdZs).map (·.1)).map nameL), Vec 5 1 encB (.slice A0 30 c0) (List.replicate 30 0), TabZ tb, LogT p1 dk 64 (marksOf []), DiskT dk d5]) rfl (a_does (os' := fun nv2 => [Vec 9 1 encKs nv2 ([]), Vec 34 5 encV v9 ([knV 9 1]), emp, Vec 9 1 encKs nv (((addsL 64 [] kdZs).map (·.1)).map nameL), Vec 5 1 encB (.slice A0 30 c0) (List.replicate 30 0), TabZ tb, LogT p1 dk 64 (marksOf []), DiskT dk d5]) [6] 0 (ent_of Tryz.func14 (by kernel_rfl) rfl) (disk_namesU (ss := []) hD5.down (by rw [hD5.now]; decide) (by rw [hD5.now]; exact files_names LogG.nil)) rfl rfl rfl (fun _ => rfl) rfl rfl rfl) ?_; rintro nv2
    refine h_val rfl (.int .i64 ((0 : Nat) : Int)) (fun b w hb hH => e_vlenN 0 rfl Tryz.underlying35 rfl rfl rfl hH hb) ?_
    refine h_val rfl (.bool true) (fun b w hb hH => exec_cmp rfl rfl rfl (cmp_eql_t (by decide)) hb) ?_
    refine h_q hflT rfl ?_
    refine h_act (post := fun _ => [Vec 9 1 encKs nv2 ([]), Vec 34 5 encV v9 ([knV 9 1]), emp, Vec 9 1 encKs nv (((addsL 64 [] kdZs).map (·.1)).map nameL), Vec 5 1 encB (.slice A0 30 c0) (List.replicate 30 0), TabZ tb, LogT p1 dk 64 (marksOf []), DiskT dk d5]) rfl (a_does (os' := fun _ => [Vec 9 1 encKs nv2 ([]), Vec 34 5 encV v9 ([knV 9 1]), emp, Vec 9 1 encKs nv (((addsL 64 [] kdZs).map (·.1)).map nameL), Vec 5 1 encB (.slice A0 30 c0) (List.replicate 30 0), TabZ tb, LogT p1 dk 64 (marksOf []), DiskT dk d5]) [5] 0 (ent_of Tryz.func19 (by kernel_rfl) rfl) (name_big tb (n := 72057594037927936) (by decide)) rfl rfl rfl (fun _ => rfl) rfl rfl rfl) ?_; rintro ⟨⟩
    refine h_val rfl (.bool true) (fun b w hb hH => exec_same rfl rfl rfl (by decide) hb) ?_
    refine h_q hflT rfl ?_
    refine h_done ?_
    refine WC2.keep (env' := [(0, .bool true)]) ⟨rfl, trivial⟩ ?_
    refine d_ret ?_
    exact f_fin1 (.tmp rfl) (fun w h => tells () rfl [5] rfl h same_parts) rfl
end Go.Proofs.YtaipejaeeohpkaaGreatDoor.Sep
