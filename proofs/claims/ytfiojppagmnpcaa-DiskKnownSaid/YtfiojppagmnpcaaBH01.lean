/-
  DskP
-/
import Derived.Test.YtfiojppagmnpcaaBF01
import Derived.Test.YtfiojppagmnpcaaBG01
set_option linter.unusedSimpArgs false
set_option linter.unusedVariables false

namespace Go.Proofs.Ytfiojppagmnpcaa.Sep
open Go.RowKit
open Go.Proofs.Ytfiojppagmnpcaa.Mem (Dist Blk Chg below0)

set_option maxRecDepth 100000 in
theorem diskknown_true (w : World)  : Calls Try.prog 3 #[] w fun e w' => e = .returned (.bool true) ∧ Below w.heap.size w w' := by
  refine d_in (args := []) 96 Try.func3 rfl rfl rfl ?_
  refine d_reg ?_
  refine h_q hflS rfl ?_
  refine h_done (d_reg ?_)
  refine h_q hflS rfl ?_
  refine h_act (post := fun _ => []) rfl (a_call (ent_of Try.func8 (by kernel_rfl) rfl) (fun w hH => disk_newbad w (-1) (by decide)) rfl rfl rfl) ?_; rintro ⟨⟩
  refine h_q hflS rfl ?_
  refine h_done (d_reg ?_)
  refine h_q hflS rfl ?_
  refine h_act (post := fun _ => []) rfl (a_call (ent_of Try.func8 (by kernel_rfl) rfl) (fun w hH => disk_newbad w 1048577 (by decide)) rfl rfl rfl) ?_; rintro ⟨⟩
  refine h_q hflS rfl ?_
  refine h_done (d_reg ?_)
  refine h_q hflS rfl ?_
  refine h_act (post := fun p => [DiskT p kd0]) rfl (a_does (os' := fun p => [DiskT p kd0]) [] 0 (ent_of Try.func8 (by kernel_rfl) rfl) (disk_new 9 (by decide)) rfl rfl rfl (fun _ => rfl) rfl rfl rfl) ?_; rintro p
  refine h_q hflS rfl ?_
  refine h_done (d_seq (d_reg ?_))
  refine h_q hflS rfl ?_
  refine h_act (post := fun _ => [DiskT p kd0]) rfl (a_call (ent_of Try.func9 (by kernel_rfl) rfl) (fun w hH => known7_true w) rfl rfl rfl) ?_; rintro ⟨⟩
  refine h_q hflS rfl ?_
  refine h_val rfl (.bool false) (fun b w hb hH => exec_cmp rfl rfl rfl (cmp_neq_f (by decide)) hb) ?_
  refine h_q hflS rfl ?_
  refine h_val rfl (.bool false) (fun b w hb hH => exec_cmp rfl rfl rfl (cmp_neq_f (by decide)) hb) ?_
  refine h_q hflS rfl ?_
  refine h_val rfl (.bool false) (fun b w hb hH => exec_cmp rfl rfl rfl (cmp_neq_f (by decide)) hb) ?_
  refine h_q hflS rfl ?_
  refine h_val rfl (.bool false) (fun b w hb hH => exec_pnil_eql (by kernel_rfl) rfl rfl rfl hb) ?_
  refine h_q hflS rfl ?_
  refine h_done (d_else rfl (d_skip (f_to (d_reg ?_))))
  refine h_q hflS rfl ?_
  refine h_act (X := Value) (val := fun v : Value => v) (post := fun b1 => [Vec 5 1 encB b1 ([120, 121, 122]), DiskT p kd0]) rfl (by exact a_build3 sl_uint8 120 121 122 rfl rfl rfl rfl) ?_; rintro b1
  refine h_act (post := fun _ => [LitT 5 b1 ([120, 121, 122]), DiskT p kd0]) rfl (a_lit 0 Try.underlying28 Try.underlying5 rfl (by simp) rfl rfl) ?_; rintro ⟨⟩
  refine h_act (post := fun _ => [LitT 5 b1 ([120, 121, 122]), DiskT p kd1]) rfl (a_does (os' := fun _ => [LitT 5 b1 ([120, 121, 122]), DiskT p kd1]) [1, 0] 0 (ent_of Try.func10 (by kernel_rfl) rfl) (disk_append kfit0 (by decide) rd8_lit kn1) rfl rfl rfl (fun _ => rfl) rfl rfl rfl) ?_; rintro ⟨⟩
  refine h_done (d_reg ?_)
  refine h_q hflS rfl ?_
  refine h_act (post := fun _ => [LitT 5 b1 ([120, 121, 122]), DiskT p kd2]) rfl (a_does (os' := fun _ => [LitT 5 b1 ([120, 121, 122]), DiskT p kd2]) [1] 0 (ent_of Try.func11 (by kernel_rfl) rfl) (disk_sync kfit1 kn2) rfl rfl rfl (fun _ => rfl) rfl rfl rfl) ?_; rintro ⟨⟩
  refine h_done (d_reg ?_)
  refine h_q hflS rfl ?_
  refine h_act (X := Value) (val := fun v : Value => v) (post := fun b2 => [Vec 5 1 encB b2 ([49, 50]), LitT 5 b1 ([120, 121, 122]), DiskT p kd2]) rfl (by exact a_build2 sl_uint8 49 50 rfl rfl rfl) ?_; rintro b2
  refine h_act (post := fun _ => [LitT 5 b2 ([49, 50]), LitT 5 b1 ([120, 121, 122]), DiskT p kd2]) rfl (a_lit 0 Try.underlying28 Try.underlying5 rfl (by simp) rfl rfl) ?_; rintro ⟨⟩
  refine h_act (post := fun _ => [LitT 5 b2 ([49, 50]), LitT 5 b1 ([120, 121, 122]), DiskT p kd3]) rfl (a_does (os' := fun _ => [LitT 5 b2 ([49, 50]), LitT 5 b1 ([120, 121, 122]), DiskT p kd3]) [2, 0] 0 (ent_of Try.func10 (by kernel_rfl) rfl) (disk_append kfit2 (by decide) rd8_lit kn3) rfl rfl rfl (fun _ => rfl) rfl rfl rfl) ?_; rintro ⟨⟩
  refine h_done ?_
  refine WC2.keep (env' := [(0, .bool false), (5, .pointer (some ⟨p, 0, none⟩))]) ⟨rfl, rfl, trivial⟩ ?_
  refine d_reg ?_
  refine h_q hflS rfl ?_
  refine h_act (post := fun _ => [LitT 5 b2 ([49, 50]), LitT 5 b1 ([120, 121, 122]), DiskT p kd4]) rfl (a_does (os' := fun _ => [LitT 5 b2 ([49, 50]), LitT 5 b1 ([120, 121, 122]), DiskT p kd4]) [2] 0 (ent_of Try.func12 (by kernel_rfl) rfl) (disk_remove kfit3 kn4) rfl rfl rfl (fun _ => rfl) rfl rfl rfl) ?_; rintro ⟨⟩
  refine h_done (d_reg ?_)
  refine h_q hflS rfl ?_
  refine h_act (post := fun _ => [LitT 5 b2 ([49, 50]), LitT 5 b1 ([120, 121, 122]), DiskT p kd6]) rfl (a_does (os' := fun _ => [LitT 5 b2 ([49, 50]), LitT 5 b1 ([120, 121, 122]), DiskT p kd6]) [2] 0 (ent_of Try.func13 (by kernel_rfl) rfl) (disk_crash kfit4 (by decide) (by decide) kn6k kn6) rfl rfl rfl (fun _ => rfl) rfl rfl rfl) ?_; rintro ⟨⟩
  refine h_done (d_reg ?_)
  refine h_q hflS rfl ?_
  refine h_act (post := fun v => [Vec 5 1 encB v ([120, 121, 122, 49]), LitT 5 b2 ([49, 50]), LitT 5 b1 ([120, 121, 122]), DiskT p kd6]) rfl (a_does (os' := fun v => [Vec 5 1 encB v ([120, 121, 122, 49]), LitT 5 b2 ([49, 50]), LitT 5 b1 ([120, 121, 122]), DiskT p kd6]) [2] 0 (ent_of Try.func14 (by kernel_rfl) rfl) (disk_read kfit6 kr6s kr6b) rfl rfl rfl (fun _ => rfl) rfl rfl rfl) ?_; rintro v
  refine h_q hflS rfl ?_
  refine h_done (d_reg ?_)
  refine h_q hflS rfl ?_
  refine h_act (post := fun _ => [Vec 5 1 encB v ([120, 121, 122, 49]), LitT 5 b2 ([49, 50]), LitT 5 b1 ([120, 121, 122]), DiskT p kd7]) rfl (a_does (os' := fun _ => [Vec 5 1 encB v ([120, 121, 122, 49]), LitT 5 b2 ([49, 50]), LitT 5 b1 ([120, 121, 122]), DiskT p kd7]) [3] 0 (ent_of Try.func15 (by kernel_rfl) rfl) (disk_fuse (by decide) kn7) rfl rfl rfl (fun _ => rfl) rfl rfl rfl) ?_; rintro ⟨⟩
  refine h_done (d_reg ?_)
  refine h_q hflS rfl ?_
  refine h_act (X := Value) (val := fun v : Value => v) (post := fun b3 => [Vec 5 1 encB b3 ([(49 : UInt8)]), Vec 5 1 encB v ([120, 121, 122, 49]), LitT 5 b2 ([49, 50]), LitT 5 b1 ([120, 121, 122]), DiskT p kd7]) rfl (by refine a_build1 (e := 5) (t := 28) (enc := encB) (x := .const (Value.int IntKind.u8 49)) (c := .int .u8 (((49 : UInt8)).toNat : Int)) ?_ ?_ (49 : UInt8) ?_ ?_ ?_; exact sl_uint8; exact okB; exact rfl; exact rfl; exact rfl) ?_; rintro b3
  refine h_act (post := fun _ => [LitT 5 b3 ([(49 : UInt8)]), Vec 5 1 encB v ([120, 121, 122, 49]), LitT 5 b2 ([49, 50]), LitT 5 b1 ([120, 121, 122]), DiskT p kd7]) rfl (a_lit 0 Try.underlying28 Try.underlying5 rfl (by simp) rfl rfl) ?_; rintro ⟨⟩
  refine h_act (post := fun _ => [LitT 5 b3 ([49]), Vec 5 1 encB v ([120, 121, 122, 49]), LitT 5 b2 ([49, 50]), LitT 5 b1 ([120, 121, 122]), DiskT p kd8]) rfl (a_does (os' := fun _ => [LitT 5 b3 ([49]), Vec 5 1 encB v ([120, 121, 122, 49]), LitT 5 b2 ([49, 50]), LitT 5 b1 ([120, 121, 122]), DiskT p kd8]) [4, 0] 0 (ent_of Try.func10 (by kernel_rfl) rfl) (disk_append kfit7 (by decide) rd8_lit kn8) rfl rfl rfl (fun _ => rfl) rfl rfl rfl) ?_; rintro ⟨⟩
  refine h_q hflS rfl ?_
  refine h_done (d_reg ?_)
  refine h_q hflS rfl ?_
  refine h_act (X := Value) (val := fun v : Value => v) (post := fun b4 => [Vec 5 1 encB b4 ([(50 : UInt8)]), LitT 5 b3 ([49]), Vec 5 1 encB v ([120, 121, 122, 49]), LitT 5 b2 ([49, 50]), LitT 5 b1 ([120, 121, 122]), DiskT p kd8]) rfl (by refine a_build1 (e := 5) (t := 28) (enc := encB) (x := .const (Value.int IntKind.u8 50)) (c := .int .u8 (((50 : UInt8)).toNat : Int)) ?_ ?_ (50 : UInt8) ?_ ?_ ?_; exact sl_uint8; exact okB; exact rfl; exact rfl; exact rfl) ?_; rintro b4
  refine h_act (post := fun _ => [LitT 5 b4 ([(50 : UInt8)]), LitT 5 b3 ([49]), Vec 5 1 encB v ([120, 121, 122, 49]), LitT 5 b2 ([49, 50]), LitT 5 b1 ([120, 121, 122]), DiskT p kd8]) rfl (a_lit 0 Try.underlying28 Try.underlying5 rfl (by simp) rfl rfl) ?_; rintro ⟨⟩
  refine h_act (post := fun _ => [LitT 5 b4 ([50]), LitT 5 b3 ([49]), Vec 5 1 encB v ([120, 121, 122, 49]), LitT 5 b2 ([49, 50]), LitT 5 b1 ([120, 121, 122]), DiskT p kd9]) rfl (a_does (os' := fun _ => [LitT 5 b4 ([50]), LitT 5 b3 ([49]), Vec 5 1 encB v ([120, 121, 122, 49]), LitT 5 b2 ([49, 50]), LitT 5 b1 ([120, 121, 122]), DiskT p kd9]) [5, 0] 0 (ent_of Try.func10 (by kernel_rfl) rfl) (disk_append kfit8 (by decide) rd8_lit kn9) rfl rfl rfl (fun _ => rfl) rfl rfl rfl) ?_; rintro ⟨⟩
  refine h_q hflS rfl ?_
  refine h_done (d_reg ?_)
  refine h_q hflS rfl ?_
  refine h_val rfl (.string (bs ([120, 121, 122, 49]))) (fun b w hb hH => exec_str8 Try.underlying28 Try.underlying5 (by kernel_rfl) Try.underlying9 (hH.sl8 2 rfl) rfl rfl hb) ?_
  refine h_val rfl (.bool true) (fun b w hb hH => exec_same rfl rfl rfl (by decide) hb) ?_
  refine h_q hflS rfl ?_
  refine h_val rfl (.bool true) (fun b w hb hH => exec_cmp rfl rfl rfl (cmp_eql_t (by decide)) hb) ?_
  refine h_q hflS rfl ?_
  refine h_val rfl (.bool true) (fun b w hb hH => exec_cmp rfl rfl rfl (cmp_eql_t (by decide)) hb) ?_
  refine h_q hflS rfl ?_
  refine h_act (post := fun _ => [LitT 5 b4 ([50]), LitT 5 b3 ([49]), Vec 5 1 encB v ([120, 121, 122, 49]), LitT 5 b2 ([49, 50]), LitT 5 b1 ([120, 121, 122]), DiskT p kd9]) rfl (a_does (os' := fun _ => [LitT 5 b4 ([50]), LitT 5 b3 ([49]), Vec 5 1 encB v ([120, 121, 122, 49]), LitT 5 b2 ([49, 50]), LitT 5 b1 ([120, 121, 122]), DiskT p kd9]) [5] 0 (ent_of Try.func16 (by kernel_rfl) rfl) (disk_down rfl) rfl rfl rfl (fun _ => rfl) rfl rfl rfl) ?_; rintro ⟨⟩
  refine h_q hflS rfl ?_
  refine h_act (post := fun v2 => [Vec 9 1 encKs v2 ([]), LitT 5 b4 ([50]), LitT 5 b3 ([49]), Vec 5 1 encB v ([120, 121, 122, 49]), LitT 5 b2 ([49, 50]), LitT 5 b1 ([120, 121, 122]), DiskT p kd9]) rfl (a_does (os' := fun v2 => [Vec 9 1 encKs v2 ([]), LitT 5 b4 ([50]), LitT 5 b3 ([49]), Vec 5 1 encB v ([120, 121, 122, 49]), LitT 5 b2 ([49, 50]), LitT 5 b1 ([120, 121, 122]), DiskT p kd9]) [5] 0 (ent_of Try.func17 (by kernel_rfl) rfl) (disk_names rfl) rfl rfl rfl (fun _ => rfl) rfl rfl rfl) ?_; rintro v2
  refine h_val rfl (.int .i64 0) (fun b w hb hH => e_vlen 0 Try.underlying35 rfl rfl rfl hH hb) ?_
  refine h_val rfl (.bool true) (fun b w hb hH => exec_cmp rfl rfl rfl (cmp_eql_t (by decide)) hb) ?_
  refine h_q hflS rfl ?_
  refine h_act (post := fun _ => [Vec 9 1 encKs v2 ([]), LitT 5 b4 ([50]), LitT 5 b3 ([49]), Vec 5 1 encB v ([120, 121, 122, 49]), LitT 5 b2 ([49, 50]), LitT 5 b1 ([120, 121, 122]), DiskT p kd9]) rfl (a_does (os' := fun _ => [Vec 9 1 encKs v2 ([]), LitT 5 b4 ([50]), LitT 5 b3 ([49]), Vec 5 1 encB v ([120, 121, 122, 49]), LitT 5 b2 ([49, 50]), LitT 5 b1 ([120, 121, 122]), DiskT p kd9]) [6] 0 (ent_of Try.func18 (by kernel_rfl) rfl) (disk_pending rfl) rfl rfl rfl (fun _ => rfl) rfl rfl rfl) ?_; rintro ⟨⟩
  refine h_val rfl (.bool true) (fun b w hb hH => exec_cmp rfl rfl rfl (cmp_eql_t (by decide)) hb) ?_
  refine h_q hflS rfl ?_
  refine h_done ?_
  refine WC2.keep (env' := [(0, .bool true)]) ⟨rfl, trivial⟩ ?_
  refine d_ret ?_
  exact f_fin1 (.tmp rfl) (fun w h => ⟨rfl, below0 h.up⟩) rfl
end Go.Proofs.Ytfiojppagmnpcaa.Sep
