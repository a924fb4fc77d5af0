/-
  CmdN · CmdI · CmdJ
-/
import Derived.Test.YtlkknncndgamdaaE01
import Derived.Test.YtlkknncndgamdaaG01
set_option linter.unusedSimpArgs false
set_option linter.unusedVariables false

namespace Go.Proofs.Ytlkknncndgamdaa.Sep
open Go.RowKit
open Go.Proofs.Ytlkknncndgamdaa.Mem (Dist Blk Chg below0)

theorem vlay_300 : vlay 300 = [172, 2] := by rw [vlay_more (by decide), vlay_small (by decide)]; rfl
theorem vlay_5 : vlay 5 = [5] := by rw [vlay_small (by decide)]; rfl
theorem k1_ok : (⟨1, 5, 0, 0, 0, 0, 0, 0, [], []⟩ : CmdD).ok := ⟨⟨by decide, by decide⟩, ⟨by decide, by decide⟩, ⟨by decide, by decide⟩, ⟨by decide, by decide⟩, ⟨by decide, by decide⟩, ⟨by decide, by decide⟩, ⟨by decide, by decide⟩, ⟨by decide, by decide⟩, by decide, by decide⟩
theorem k2_ok : (⟨3, 5, 300, 0, 0, 0, 0, 0, [69, 85, 82], []⟩ : CmdD).ok := ⟨⟨by decide, by decide⟩, ⟨by decide, by decide⟩, ⟨by decide, by decide⟩, ⟨by decide, by decide⟩, ⟨by decide, by decide⟩, ⟨by decide, by decide⟩, ⟨by decide, by decide⟩, ⟨by decide, by decide⟩, by decide, by decide⟩
theorem k3_ok : (⟨3, 5, 1, 0, 0, 0, 0, 0, [101, 117, 114], []⟩ : CmdD).ok := ⟨⟨by decide, by decide⟩, ⟨by decide, by decide⟩, ⟨by decide, by decide⟩, ⟨by decide, by decide⟩, ⟨by decide, by decide⟩, ⟨by decide, by decide⟩, ⟨by decide, by decide⟩, ⟨by decide, by decide⟩, by decide, by decide⟩
theorem k1_enc : encL (⟨1, 5, 0, 0, 0, 0, 0, 0, [], []⟩ : CmdD) = [1, 5] := by
  show putIf false (putIf false (putIf false (putIf false (putIf false (putIf false (putIf true [1] (vlay 5)) _) _) _) _) _) _ = _
  rw [vlay_5]; rfl
theorem k2_enc : encL (⟨3, 5, 300, 0, 0, 0, 0, 0, [69, 85, 82], []⟩ : CmdD) = [3, 5, 172, 2, 69, 85, 82] := by
  show putIf false (putIf true (putIf false (putIf false (putIf false (putIf true (putIf true [3] (vlay 5)) (vlay 300)) _) _) _) [69, 85, 82]) _ = _
  rw [vlay_5, vlay_300]; rfl
theorem k1_does : Does Try.prog 8 #[.agg #[.int .i64 ((⟨1, 5, 0, 0, 0, 0, 0, 0, [], []⟩ : CmdD).k), .int .u64 ((⟨1, 5, 0, 0, 0, 0, 0, 0, [], []⟩ : CmdD).s), .int .u64 ((⟨1, 5, 0, 0, 0, 0, 0, 0, [], []⟩ : CmdD).q), .int .u64 ((⟨1, 5, 0, 0, 0, 0, 0, 0, [], []⟩ : CmdD).a), .int .u64 ((⟨1, 5, 0, 0, 0, 0, 0, 0, [], []⟩ : CmdD).b), .int .i64 ((⟨1, 5, 0, 0, 0, 0, 0, 0, [], []⟩ : CmdD).hi), .int .u64 ((⟨1, 5, 0, 0, 0, 0, 0, 0, [], []⟩ : CmdD).lo), .int .i64 ((⟨1, 5, 0, 0, 0, 0, 0, 0, [], []⟩ : CmdD).sc), .string (bs ((⟨1, 5, 0, 0, 0, 0, 0, 0, [], []⟩ : CmdD).x)), .string (bs ((⟨1, 5, 0, 0, 0, 0, 0, 0, [], []⟩ : CmdD).y))]] [] (fun v : Value => .tuple #[v, .int .i64 0]) (fun v => [Vec 5 1 encB v [1, 5]]) := by
  have h := encode_does (⟨1, 5, 0, 0, 0, 0, 0, 0, [], []⟩ : CmdD) k1_ok (by decide)
  rwa [k1_enc] at h
theorem k2_does : Does Try.prog 8 #[.agg #[.int .i64 ((⟨3, 5, 300, 0, 0, 0, 0, 0, [69, 85, 82], []⟩ : CmdD).k), .int .u64 ((⟨3, 5, 300, 0, 0, 0, 0, 0, [69, 85, 82], []⟩ : CmdD).s), .int .u64 ((⟨3, 5, 300, 0, 0, 0, 0, 0, [69, 85, 82], []⟩ : CmdD).q), .int .u64 ((⟨3, 5, 300, 0, 0, 0, 0, 0, [69, 85, 82], []⟩ : CmdD).a), .int .u64 ((⟨3, 5, 300, 0, 0, 0, 0, 0, [69, 85, 82], []⟩ : CmdD).b), .int .i64 ((⟨3, 5, 300, 0, 0, 0, 0, 0, [69, 85, 82], []⟩ : CmdD).hi), .int .u64 ((⟨3, 5, 300, 0, 0, 0, 0, 0, [69, 85, 82], []⟩ : CmdD).lo), .int .i64 ((⟨3, 5, 300, 0, 0, 0, 0, 0, [69, 85, 82], []⟩ : CmdD).sc), .string (bs ((⟨3, 5, 300, 0, 0, 0, 0, 0, [69, 85, 82], []⟩ : CmdD).x)), .string (bs ((⟨3, 5, 300, 0, 0, 0, 0, 0, [69, 85, 82], []⟩ : CmdD).y))]] [] (fun v : Value => .tuple #[v, .int .i64 0]) (fun v => [Vec 5 1 encB v [3, 5, 172, 2, 69, 85, 82]]) := by
  have h := encode_does (⟨3, 5, 300, 0, 0, 0, 0, 0, [69, 85, 82], []⟩ : CmdD) k2_ok (by decide)
  rwa [k2_enc] at h

set_option maxRecDepth 100000 in
theorem known_true (w : World)  : Calls Try.prog 12 #[] w fun e w' => e = .returned (.bool true) ∧ Below w.heap.size w w' := by
  refine d_in (args := []) 38 Try.func12 rfl rfl rfl ?_
  refine d_reg ?_
  refine h_q hflS rfl ?_
  refine h_done (d_reg ?_)
  refine h_q hflS rfl ?_
  refine h_val rfl (.agg #[.int .i64 1, .int .u64 5, .int .u64 0, .int .u64 0, .int .u64 0, .int .i64 0, .int .u64 0, .int .i64 0, .string { data := #[] }, .string { data := #[] }]) (fun b w hb hH => exec_build rfl rfl (by kernel_rfl) hb) ?_
  refine h_act (post := fun v1 => [Vec 5 1 encB v1 ([1, 5])]) rfl (a_does (os' := fun v1 => [Vec 5 1 encB v1 ([1, 5])]) [] 0 (ent_of Try.func8 (by kernel_rfl) rfl) (k1_does) rfl rfl rfl (fun _ => rfl) rfl rfl rfl) ?_; rintro v1
  refine h_q hflS rfl ?_
  refine h_done (d_reg ?_)
  refine h_q hflS rfl ?_
  refine h_val rfl (.agg #[.int .i64 3, .int .u64 5, .int .u64 300, .int .u64 0, .int .u64 0, .int .i64 0, .int .u64 0, .int .i64 0, .string (bs ([69, 85, 82])), .string { data := #[] }]) (fun b w hb hH => exec_build rfl rfl (by kernel_rfl) hb) ?_
  refine h_act (post := fun v2 => [Vec 5 1 encB v2 ([3, 5, 172, 2, 69, 85, 82]), Vec 5 1 encB v1 ([1, 5])]) rfl (a_does (os' := fun v2 => [Vec 5 1 encB v2 ([3, 5, 172, 2, 69, 85, 82]), Vec 5 1 encB v1 ([1, 5])]) [] 0 (ent_of Try.func8 (by kernel_rfl) rfl) (k2_does) rfl rfl rfl (fun _ => rfl) rfl rfl rfl) ?_; rintro v2
  refine h_q hflS rfl ?_
  refine h_done (d_reg ?_)
  refine h_q hflS rfl ?_
  refine h_val rfl (.bool true) (fun b w hb hH => exec_cmp rfl rfl rfl (cmp_eql_t (by decide)) hb) ?_
  refine h_q hflS rfl ?_
  refine h_val rfl (.string (bs ([1, 5]))) (fun b w hb hH => exec_str8 Try.underlying22 Try.underlying5 (by kernel_rfl) Try.underlying9 (hH.sl8 1 rfl) rfl rfl hb) ?_
  refine h_val rfl (.bool true) (fun b w hb hH => exec_same rfl rfl rfl (by decide) hb) ?_
  refine h_q hflS rfl ?_
  refine h_val rfl (.bool true) (fun b w hb hH => exec_cmp rfl rfl rfl (cmp_eql_t (by decide)) hb) ?_
  refine h_q hflS rfl ?_
  refine h_val rfl (.string (bs ([3, 5, 172, 2, 69, 85, 82]))) (fun b w hb hH => exec_str8 Try.underlying22 Try.underlying5 (by kernel_rfl) Try.underlying9 (hH.sl8 0 rfl) rfl rfl hb) ?_
  refine h_val rfl (.bool true) (fun b w hb hH => exec_same rfl rfl rfl (by decide) hb) ?_
  refine h_q hflS rfl ?_
  refine h_act (post := fun _ => [Vec 5 1 encB v2 ([3, 5, 172, 2, 69, 85, 82]), Vec 5 1 encB v1 ([1, 5])]) rfl (a_call (ent_of Try.func13 (by kernel_rfl) rfl) (fun w hH => name_any w [69, 85, 82] true (by decide) (by decide)) rfl rfl rfl) ?_; rintro ⟨⟩
  refine h_q hflS rfl ?_
  refine h_act (post := fun _ => [Vec 5 1 encB v2 ([3, 5, 172, 2, 69, 85, 82]), Vec 5 1 encB v1 ([1, 5])]) rfl (a_call (ent_of Try.func13 (by kernel_rfl) rfl) (fun w hH => name_any w [101, 117, 114] false (by decide) (by decide)) rfl rfl rfl) ?_; rintro ⟨⟩
  refine h_q hflS rfl ?_
  refine h_done (d_ret ?_)
  exact f_fin1 (.tmp rfl) (fun w h => ⟨rfl, below0 h.up⟩) rfl
end Go.Proofs.Ytlkknncndgamdaa.Sep

namespace Go.Proofs.Ytlkknncndgamdaa.Sep
open Go.RowKit
open Go.Proofs.Ytlkknncndgamdaa.Mem (Dist Blk Chg below0)

theorem eqC_same (c : CmdD) : EqAt Try.prog 32 (.agg #[.int .i64 c.k, .int .u64 c.s, .int .u64 c.q, .int .u64 c.a, .int .u64 c.b, .int .i64 c.hi, .int .u64 c.lo, .int .i64 c.sc, .string (bs c.x), .string (bs c.y)]) (.agg #[.int .i64 c.k, .int .u64 c.s, .int .u64 c.q, .int .u64 c.a, .int .u64 c.b, .int .i64 c.hi, .int .u64 c.lo, .int .i64 c.sc, .string (bs c.x), .string (bs c.y)]) true := fun x y w => by
  go_simp

theorem eqR_same (r : RepD) : EqAt Try.prog 37 (.agg #[.int .i64 r.code, .int .u64 r.val, .int .i64 r.hi, .int .u64 r.lo, .int .i64 r.sc]) (.agg #[.int .i64 r.code, .int .u64 r.val, .int .i64 r.hi, .int .u64 r.lo, .int .i64 r.sc]) true := fun x y w => by
  go_simp
theorem neR_same (r : RepD) : NeAt Try.prog 37 (.agg #[.int .i64 r.code, .int .u64 r.val, .int .i64 r.hi, .int .u64 r.lo, .int .i64 r.sc]) (.agg #[.int .i64 r.code, .int .u64 r.val, .int .i64 r.hi, .int .u64 r.lo, .int .i64 r.sc]) false := fun x y w => by
  go_simp

set_option maxRecDepth 100000 in
theorem names_true (w : World) (l : List UInt8) (hl : l.length ≤ 9223372036854775807) : Calls Try.prog 4 #[.string (bs l)] w fun e w' => e = .returned (.bool true) ∧ Below w.heap.size w w' := by
  obtain ⟨r, hr⟩ : ∃ r, nameB l = r := ⟨_, rfl⟩
  refine d_in (args := [.string (bs l)]) 11 Try.func4 rfl rfl rfl ?_
  refine d_reg ?_
  refine h_q hflS rfl ?_
  refine h_done (d_reg ?_)
  refine h_q hflS rfl ?_
  refine h_act (post := fun _ => []) rfl (a_call (ent_of Try.func12 (by kernel_rfl) rfl) (fun w hH => known_true w) rfl rfl rfl) ?_; rintro ⟨⟩
  refine h_q hflS rfl ?_
  refine h_act (post := fun _ => []) rfl (a_call (ent_of Try.func13 (by kernel_rfl) rfl) (fun w hH => name_any w l r hr hl) rfl rfl rfl) ?_; rintro ⟨⟩
  refine h_q hflS rfl ?_
  refine h_act (post := fun _ => []) rfl (a_call (ent_of Try.func14 (by kernel_rfl) rfl) (fun w hH => rname_any w l r hr hl) rfl rfl rfl) ?_; rintro ⟨⟩
  refine h_val rfl (.bool true) (fun b w hb hH => exec_eqs (eqB_same _) rfl rfl rfl hb) ?_
  refine h_q hflS rfl ?_
  refine h_done (d_ret ?_)
  exact f_fin1 (.tmp rfl) (fun w h => ⟨rfl, below0 h.up⟩) rfl

set_option maxRecDepth 100000 in
theorem decodes_true (w : World) (v : Value) (l : List UInt8) (hv : Sl8 w v l) (hl : l.length ≤ 140737488355328) : Calls Try.prog 5 #[v] w fun e w' => e = .returned (.bool true) ∧ Below w.heap.size w w' := by
  obtain ⟨c, en, hD⟩ := decoded_any l
  refine d_in (args := [v]) 39 Try.func5 rfl rfl rfl ?_
  refine d_reg ?_
  refine h_q hflS rfl ?_
  refine h_done (d_reg ?_)
  refine h_q hflS rfl ?_
  refine h_act (X := Value) (val := fun v : Value => v) (post := fun u1 => [Vec 5 1 encB u1 ([])]) rfl (by refine a_build0 (e := 5) (t := 22) (k := 1) (enc := encB) ?_ ?_; exact sl_uint8; exact rfl) ?_; rintro u1
  refine h_q hflS rfl ?_
  refine h_act (post := fun u2 => [Vec 5 1 encB u2 l]) rfl (a_append8 0 sl_uint8 (by kernel_rfl) rfl (l) (fun w hH => (arg80 hv hH).rd) (by simp; omega) rfl rfl rfl (List.nil_append l)) ?_; rintro u2
  refine h_q hflS rfl ?_
  refine h_done (d_reg ?_)
  refine h_q hflS rfl ?_
  refine h_act (post := fun _ => [Vec 5 1 encB u2 l]) rfl (a_call (ent_of Try.func9 (by kernel_rfl) rfl) (fun w hH => decode_any w _ l (hH.sl8 0 rfl) hl c en hD) rfl rfl rfl) ?_; rintro ⟨⟩
  refine h_q hflS rfl ?_
  refine h_act (post := fun g4 => [cell g4 32 #[.int .i64 0, .int .u64 0, .int .u64 0, .int .u64 0, .int .u64 0, .int .i64 0, .int .u64 0, .int .i64 0, .string { data := #[] }, .string { data := #[] }], Vec 5 1 encB u2 l]) rfl (a_alloc ze_api_Cmd rfl) ?_; rintro g4
  refine h_acts (post := fun _ => [cell g4 32 #[.int .i64 c.k, .int .u64 c.s, .int .u64 c.q, .int .u64 c.a, .int .u64 c.b, .int .i64 c.hi, .int .u64 c.lo, .int .i64 c.sc, .string (bs c.x), .string (bs c.y)], Vec 5 1 encB u2 l]) rfl rfl (a_store 0 (v := .agg #[.int .i64 c.k, .int .u64 c.s, .int .u64 c.q, .int .u64 c.a, .int .u64 c.b, .int .i64 c.hi, .int .u64 c.lo, .int .i64 c.sc, .string (bs c.x), .string (bs c.y)]) #[.int .i64 c.k, .int .u64 c.s, .int .u64 c.q, .int .u64 c.a, .int .u64 c.b, .int .i64 c.hi, .int .u64 c.lo, .int .i64 c.sc, .string (bs c.x), .string (bs c.y)] ty_api_Cmd.2 rfl rfl rfl rfl rfl rfl rfl rfl rfl) ?_; rintro ⟨⟩
  refine h_q hflS rfl ?_
  refine h_done (d_reg ?_)
  refine h_q hflS rfl ?_
  refine h_act (post := fun _ => [cell g4 32 #[.int .i64 c.k, .int .u64 c.s, .int .u64 c.q, .int .u64 c.a, .int .u64 c.b, .int .i64 c.hi, .int .u64 c.lo, .int .i64 c.sc, .string (bs c.x), .string (bs c.y)], Vec 5 1 encB u2 l]) rfl (a_call (ent_of Try.func15 (by kernel_rfl) rfl) (fun w hH => rdecode_any w _ l (arg80 hv hH) hl c en hD) rfl rfl rfl) ?_; rintro ⟨⟩
  refine h_q hflS rfl ?_
  refine h_act (post := fun g6 => [cell g6 32 #[.int .i64 0, .int .u64 0, .int .u64 0, .int .u64 0, .int .u64 0, .int .i64 0, .int .u64 0, .int .i64 0, .string { data := #[] }, .string { data := #[] }], cell g4 32 #[.int .i64 c.k, .int .u64 c.s, .int .u64 c.q, .int .u64 c.a, .int .u64 c.b, .int .i64 c.hi, .int .u64 c.lo, .int .i64 c.sc, .string (bs c.x), .string (bs c.y)], Vec 5 1 encB u2 l]) rfl (a_alloc ze_api_Cmd rfl) ?_; rintro g6
  refine h_acts (post := fun _ => [cell g6 32 #[.int .i64 c.k, .int .u64 c.s, .int .u64 c.q, .int .u64 c.a, .int .u64 c.b, .int .i64 c.hi, .int .u64 c.lo, .int .i64 c.sc, .string (bs c.x), .string (bs c.y)], cell g4 32 #[.int .i64 c.k, .int .u64 c.s, .int .u64 c.q, .int .u64 c.a, .int .u64 c.b, .int .i64 c.hi, .int .u64 c.lo, .int .i64 c.sc, .string (bs c.x), .string (bs c.y)], Vec 5 1 encB u2 l]) rfl rfl (a_store 0 (v := .agg #[.int .i64 c.k, .int .u64 c.s, .int .u64 c.q, .int .u64 c.a, .int .u64 c.b, .int .i64 c.hi, .int .u64 c.lo, .int .i64 c.sc, .string (bs c.x), .string (bs c.y)]) #[.int .i64 c.k, .int .u64 c.s, .int .u64 c.q, .int .u64 c.a, .int .u64 c.b, .int .i64 c.hi, .int .u64 c.lo, .int .i64 c.sc, .string (bs c.x), .string (bs c.y)] ty_api_Cmd.2 rfl rfl rfl rfl rfl rfl rfl rfl rfl) ?_; rintro ⟨⟩
  refine h_q hflS rfl ?_
  refine h_done (d_reg ?_)
  refine h_q hflS rfl ?_
  refine h_act (post := fun _ => [cell g6 32 #[.int .i64 c.k, .int .u64 c.s, .int .u64 c.q, .int .u64 c.a, .int .u64 c.b, .int .i64 c.hi, .int .u64 c.lo, .int .i64 c.sc, .string (bs c.x), .string (bs c.y)], cell g4 32 #[.int .i64 c.k, .int .u64 c.s, .int .u64 c.q, .int .u64 c.a, .int .u64 c.b, .int .i64 c.hi, .int .u64 c.lo, .int .i64 c.sc, .string (bs c.x), .string (bs c.y)], Vec 5 1 encB u2 l]) rfl (a_call (ent_of Try.func12 (by kernel_rfl) rfl) (fun w hH => known_true w) rfl rfl rfl) ?_; rintro ⟨⟩
  refine h_q hflS rfl ?_
  refine h_val rfl (.agg #[.int .i64 c.k, .int .u64 c.s, .int .u64 c.q, .int .u64 c.a, .int .u64 c.b, .int .i64 c.hi, .int .u64 c.lo, .int .i64 c.sc, .string (bs c.x), .string (bs c.y)]) (fun b w hb hH => exec_load rfl rfl (reads_agg (cs := [.int .i64 c.k, .int .u64 c.s, .int .u64 c.q, .int .u64 c.a, .int .u64 c.b, .int .i64 c.hi, .int .u64 c.lo, .int .i64 c.sc, .string (bs c.x), .string (bs c.y)]) ty_api_Cmd rfl) (hH.row 1 rfl) hb) ?_
  refine h_val rfl (.agg #[.int .i64 c.k, .int .u64 c.s, .int .u64 c.q, .int .u64 c.a, .int .u64 c.b, .int .i64 c.hi, .int .u64 c.lo, .int .i64 c.sc, .string (bs c.x), .string (bs c.y)]) (fun b w hb hH => exec_load rfl rfl (reads_agg (cs := [.int .i64 c.k, .int .u64 c.s, .int .u64 c.q, .int .u64 c.a, .int .u64 c.b, .int .i64 c.hi, .int .u64 c.lo, .int .i64 c.sc, .string (bs c.x), .string (bs c.y)]) ty_api_Cmd rfl) (hH.row 0 rfl) hb) ?_
  refine h_val rfl (.bool true) (fun b w hb hH => exec_eqs (eqC_same c) rfl rfl rfl hb) ?_
  refine h_q hflS rfl ?_
  refine h_val rfl (.bool true) (fun b w hb hH => exec_cmp rfl rfl rfl (cmp_eql_t rfl) hb) ?_
  refine h_q hflS rfl ?_
  refine h_val rfl (.string (bs l)) (fun b w hb hH => exec_str8 Try.underlying22 Try.underlying5 (by kernel_rfl) Try.underlying9 (hH.sl8 2 rfl) rfl rfl hb) ?_
  refine h_q hflS rfl ?_
  refine h_val rfl (.string (bs l)) (fun b w hb hH => exec_str8 Try.underlying22 Try.underlying5 (by kernel_rfl) Try.underlying9 (arg80 hv hH) rfl rfl hb) ?_
  refine h_val rfl (.bool true) (fun b w hb hH => exec_same rfl rfl rfl (by simp) hb) ?_
  refine h_q hflS rfl ?_
  refine h_done (d_ret ?_)
  exact f_fin1 (.tmp rfl) (fun w h => ⟨rfl, below0 h.up⟩) rfl

set_option maxRecDepth 100000 in
theorem pick (w : World) (a m : Int) (ha : -9223372036854775808 ≤ a ∧ a ≤ 9223372036854775807) (hm : 1 ≤ m ∧ m ≤ 9223372036854775807) {r : Int} (hr : a % m = r) : Calls Try.prog 16 #[.int .i64 a, .int .i64 m] w fun e w' => e = .returned (.int .i64 r) ∧ Below w.heap.size w w' := by
  have hlt := Int.emod_lt_of_pos a (show 0 < m by omega)
  have hge := Int.emod_nonneg a (show m ≠ 0 by omega)
  have ht : (0 ≤ a.tmod m ∧ a.tmod m = r) ∨ (a.tmod m < 0 ∧ a.tmod m + m = r) := by
    rw [Int.tmod_eq_emod, ← hr]
    split
    · left; omega
    · rename_i h
      right
      have hne : a % m ≠ 0 := fun e => h (.inr (Int.dvd_of_emod_eq_zero e))
      omega
  rw [hr] at hlt hge
  obtain ⟨t, htm⟩ : ∃ t, a.tmod m = t := ⟨_, rfl⟩
  rw [htm] at ht
  refine d_in (args := [.int .i64 a, .int .i64 m]) 14 Try.func16 rfl rfl rfl ?_
  refine d_reg ?_
  refine h_q hflS rfl ?_
  refine h_done (d_reg ?_)
  refine h_q hflS rfl ?_
  refine h_val rfl (.int .i64 t) (fun b w hb hH => exec_remI rfl rfl rfl (by omega) htm hb) ?_
  refine h_q hflS rfl ?_
  refine h_done (d_seq ?_)
  rcases ht with ⟨h1, h2⟩ | ⟨h1, h2⟩
  · skip
    subst h2
    refine d_reg ?_
    refine h_q hflS rfl ?_
    refine h_val rfl (.bool false) (fun b w hb hH => exec_cmp rfl rfl rfl (cmp_lss_f (by omega)) hb) ?_
    refine h_done (d_else rfl (d_skip (f_to (d_reg ?_))))
    refine h_q hflS rfl ?_
    refine h_done (d_ret ?_)
    exact f_fin1 (.tmp rfl) (fun w h => ⟨rfl, below0 h.up⟩) rfl
  · skip
    refine d_reg ?_
    refine h_q hflS rfl ?_
    refine h_val rfl (.bool true) (fun b w hb hH => exec_cmp rfl rfl rfl (cmp_lss_t (by omega)) hb) ?_
    refine h_done (d_then rfl (d_reg1 ?_))
    refine h_q hflS rfl ?_
    refine h_val rfl (.int .i64 r) (fun b w hb hH => exec_ar rfl rfl rfl rfl (by rw [IntWalk.i64_in _ (by omega)]; omega) hb) ?_
    refine h_q hflS rfl ?_
    refine h_nil (f_to (d_reg ?_))
    refine h_q hflS rfl ?_
    refine h_done (d_ret ?_)
    exact f_fin1 (.tmp rfl) (fun w h => ⟨rfl, below0 h.up⟩) rfl
end Go.Proofs.Ytlkknncndgamdaa.Sep

namespace Go.Proofs.Ytlkknncndgamdaa.Sep
open Go.RowKit
open Go.Proofs.Ytlkknncndgamdaa.Mem (Dist Blk Chg below0)

set_option maxRecDepth 100000 in
theorem only_sl (w : World) (A : Option Addr) (cp : Nat) (l : List UInt8) (kind : Int) (hv : Sl8 w (.slice A l.length cp) l) (hl : l.length ≤ 140737488355328) (hk : -9223372036854775808 ≤ kind ∧ kind ≤ 9223372036854775807) : Calls Try.prog 6 #[.slice A l.length cp, .int .i64 kind] w fun e w' => e = .returned (.bool true) ∧ Below w.heap.size w w' := by
  refine d_in (args := [.slice A l.length cp, .int .i64 kind]) 55 Try.func6 rfl rfl rfl ?_
  refine d_reg ?_
  refine h_q hflS rfl ?_
  refine h_done (d_seq ?_)
  rcases Nat.eq_zero_or_pos l.length with h0 | h0
  · skip
    have hL : l.length ≤ 140737488355328 := hl
    obtain ⟨c, en, hD⟩ := decoded_any l
    refine d_reg ?_
    refine h_q hflS rfl ?_
    refine h_val rfl (.int .i64 (l.length : Int)) (fun b w hb hH => e_slen ((arg80 hv hH).rd) Try.underlying22 rfl rfl hb) ?_
    refine h_val rfl (.bool false) (fun b w hb hH => exec_cmp rfl rfl rfl (cmp_gtr_f (by omega)) hb) ?_
    refine h_done (d_else rfl (d_skip (f_to (d_reg ?_))))
    refine h_q hflS rfl ?_
    refine h_act (post := fun _ => []) rfl (a_call (ent_of Try.func9 (by kernel_rfl) rfl) (fun w hH => decode_any w _ l (arg80 hv hH) hL c en hD) rfl rfl rfl) ?_; rintro ⟨⟩
    refine h_q hflS rfl ?_
    refine h_act (post := fun g5 => [cell g5 32 #[.int .i64 0, .int .u64 0, .int .u64 0, .int .u64 0, .int .u64 0, .int .i64 0, .int .u64 0, .int .i64 0, .string { data := #[] }, .string { data := #[] }]]) rfl (a_alloc ze_api_Cmd rfl) ?_; rintro g5
    refine h_acts (post := fun _ => [cell g5 32 #[.int .i64 c.k, .int .u64 c.s, .int .u64 c.q, .int .u64 c.a, .int .u64 c.b, .int .i64 c.hi, .int .u64 c.lo, .int .i64 c.sc, .string (bs c.x), .string (bs c.y)]]) rfl rfl (a_store 0 (v := .agg #[.int .i64 c.k, .int .u64 c.s, .int .u64 c.q, .int .u64 c.a, .int .u64 c.b, .int .i64 c.hi, .int .u64 c.lo, .int .i64 c.sc, .string (bs c.x), .string (bs c.y)]) #[.int .i64 c.k, .int .u64 c.s, .int .u64 c.q, .int .u64 c.a, .int .u64 c.b, .int .i64 c.hi, .int .u64 c.lo, .int .i64 c.sc, .string (bs c.x), .string (bs c.y)] ty_api_Cmd.2 rfl rfl rfl rfl rfl rfl rfl rfl rfl) ?_; rintro ⟨⟩
    refine h_q hflS rfl ?_
    refine h_done (d_seq ?_)
    rcases decoded_back hD with ⟨he, hz⟩ | ⟨rfl, ho, hr, hE⟩
    · skip
      refine d_reg ?_
      refine h_q hflS rfl ?_
      refine h_act (post := fun _ => [cell g5 32 #[.int .i64 c.k, .int .u64 c.s, .int .u64 c.q, .int .u64 c.a, .int .u64 c.b, .int .i64 c.hi, .int .u64 c.lo, .int .i64 c.sc, .string (bs c.x), .string (bs c.y)]]) rfl (a_call (ent_of Try.func12 (by kernel_rfl) rfl) (fun w hH => known_true w) rfl rfl rfl) ?_; rintro ⟨⟩
      refine h_q hflS rfl ?_
      refine h_val rfl (.bool true) (fun b w hb hH => exec_cmp rfl rfl rfl (cmp_neq_t (by omega)) hb) ?_
      refine h_q hflS rfl ?_
      refine h_done (d_then rfl (d_reg ?_))
      refine h_q hflS rfl ?_
      refine h_act (post := fun _ => [cell g5 32 #[.int .i64 c.k, .int .u64 c.s, .int .u64 c.q, .int .u64 c.a, .int .u64 c.b, .int .i64 c.hi, .int .u64 c.lo, .int .i64 c.sc, .string (bs c.x), .string (bs c.y)]]) rfl (a_call (ent_of Try.func12 (by kernel_rfl) rfl) (fun w hH => known_true w) rfl rfl rfl) ?_; rintro ⟨⟩
      refine h_q hflS rfl ?_
      refine h_val rfl (.agg #[.int .i64 c.k, .int .u64 c.s, .int .u64 c.q, .int .u64 c.a, .int .u64 c.b, .int .i64 c.hi, .int .u64 c.lo, .int .i64 c.sc, .string (bs c.x), .string (bs c.y)]) (fun b w hb hH => exec_load rfl rfl (reads_agg (cs := [.int .i64 c.k, .int .u64 c.s, .int .u64 c.q, .int .u64 c.a, .int .u64 c.b, .int .i64 c.hi, .int .u64 c.lo, .int .i64 c.sc, .string (bs c.x), .string (bs c.y)]) ty_api_Cmd rfl) (hH.row 0 rfl) hb) ?_
      refine h_val rfl (.agg #[.int .i64 0, .int .u64 0, .int .u64 0, .int .u64 0, .int .u64 0, .int .i64 0, .int .u64 0, .int .i64 0, .string { data := #[] }, .string { data := #[] }]) (fun b w hb hH => exec_build rfl rfl (by kernel_rfl) hb) ?_
      refine h_val rfl (.bool true) (fun b w hb hH => exec_eqs (by rw [hz]; exact eqC_same CmdD.zero) rfl rfl rfl hb) ?_
      refine h_q hflS rfl ?_
      refine h_done (d_ret (f_then_ret ?_))
      exact f_fin1 (.tmp rfl) (fun w h => ⟨rfl, below0 h.up⟩) rfl
    · skip
      refine d_reg ?_
      refine h_q hflS rfl ?_
      refine h_act (post := fun _ => [cell g5 32 #[.int .i64 c.k, .int .u64 c.s, .int .u64 c.q, .int .u64 c.a, .int .u64 c.b, .int .i64 c.hi, .int .u64 c.lo, .int .i64 c.sc, .string (bs c.x), .string (bs c.y)]]) rfl (a_call (ent_of Try.func12 (by kernel_rfl) rfl) (fun w hH => known_true w) rfl rfl rfl) ?_; rintro ⟨⟩
      refine h_q hflS rfl ?_
      refine h_val rfl (.bool false) (fun b w hb hH => exec_cmp rfl rfl rfl (cmp_neq_f (by omega)) hb) ?_
      refine h_q hflS rfl ?_
      refine h_done (d_else rfl (d_skip (f_to (d_reg ?_))))
      refine h_q hflS rfl ?_
      refine h_val rfl (.agg #[.int .i64 c.k, .int .u64 c.s, .int .u64 c.q, .int .u64 c.a, .int .u64 c.b, .int .i64 c.hi, .int .u64 c.lo, .int .i64 c.sc, .string (bs c.x), .string (bs c.y)]) (fun b w hb hH => exec_load rfl rfl (reads_agg (cs := [.int .i64 c.k, .int .u64 c.s, .int .u64 c.q, .int .u64 c.a, .int .u64 c.b, .int .i64 c.hi, .int .u64 c.lo, .int .i64 c.sc, .string (bs c.x), .string (bs c.y)]) ty_api_Cmd rfl) (hH.row 0 rfl) hb) ?_
      refine h_act (post := fun v9 => [Vec 5 1 encB v9 (encL c), cell g5 32 #[.int .i64 c.k, .int .u64 c.s, .int .u64 c.q, .int .u64 c.a, .int .u64 c.b, .int .i64 c.hi, .int .u64 c.lo, .int .i64 c.sc, .string (bs c.x), .string (bs c.y)]]) rfl (a_does (os' := fun v9 => [Vec 5 1 encB v9 (encL c), cell g5 32 #[.int .i64 c.k, .int .u64 c.s, .int .u64 c.q, .int .u64 c.a, .int .u64 c.b, .int .i64 c.hi, .int .u64 c.lo, .int .i64 c.sc, .string (bs c.x), .string (bs c.y)]]) [] 0 (ent_of Try.func8 (by kernel_rfl) rfl) (encode_does c ho hr) rfl rfl rfl (fun _ => rfl) rfl rfl rfl) ?_; rintro v9
      refine h_q hflS rfl ?_
      refine h_done (d_reg ?_)
      refine h_q hflS rfl ?_
      refine h_val rfl (.agg #[.int .i64 c.k, .int .u64 c.s, .int .u64 c.q, .int .u64 c.a, .int .u64 c.b, .int .i64 c.hi, .int .u64 c.lo, .int .i64 c.sc, .string (bs c.x), .string (bs c.y)]) (fun b w hb hH => exec_load rfl rfl (reads_agg (cs := [.int .i64 c.k, .int .u64 c.s, .int .u64 c.q, .int .u64 c.a, .int .u64 c.b, .int .i64 c.hi, .int .u64 c.lo, .int .i64 c.sc, .string (bs c.x), .string (bs c.y)]) ty_api_Cmd rfl) (hH.row 1 rfl) hb) ?_
      refine h_act (post := fun _ => [Vec 5 1 encB v9 (encL c), cell g5 32 #[.int .i64 c.k, .int .u64 c.s, .int .u64 c.q, .int .u64 c.a, .int .u64 c.b, .int .i64 c.hi, .int .u64 c.lo, .int .i64 c.sc, .string (bs c.x), .string (bs c.y)]]) rfl (a_call (ent_of Try.func17 (by kernel_rfl) rfl) (fun w hH => right_any w c ho true hr) rfl rfl rfl) ?_; rintro ⟨⟩
      refine h_q hflS rfl ?_
      refine h_val rfl (.bool true) (fun b w hb hH => exec_cmp rfl rfl rfl (cmp_eql_t (by decide)) hb) ?_
      refine h_q hflS rfl ?_
      refine h_val rfl (.string (bs (encL c))) (fun b w hb hH => exec_str8 Try.underlying22 Try.underlying5 (by kernel_rfl) Try.underlying9 (hH.sl8 0 rfl) rfl rfl hb) ?_
      refine h_q hflS rfl ?_
      refine h_val rfl (.string (bs l)) (fun b w hb hH => exec_str8 Try.underlying22 Try.underlying5 (by kernel_rfl) Try.underlying9 (arg80 hv hH) rfl rfl hb) ?_
      refine h_val rfl (.bool true) (fun b w hb hH => exec_same rfl rfl rfl (by rw [hE]; simp) hb) ?_
      refine h_q hflS rfl ?_
      refine h_done (d_ret ?_)
      exact f_fin1 (.tmp rfl) (fun w h => ⟨rfl, below0 h.up⟩) rfl
  · skip
    obtain ⟨A2, hA2⟩ : ∃ A2, (if cp = 1 then A else A.map (·.add 1)) = A2 := ⟨_, rfl⟩
    obtain ⟨l2, hl2⟩ : ∃ l2, l.drop 1 = l2 := ⟨_, rfl⟩
    have hv2 : Sl8 w (.slice A2 l2.length (cp - 1)) l2 := by rw [← hA2, ← hl2]; exact hv.drop (by omega)
    have hn2 : l2.length = l.length - 1 := by rw [← hl2, List.length_drop]
    have hsub : subv 1 (.slice A l.length cp) 1 l.length = .slice A2 l2.length (cp - 1) := by rw [← hA2]; exact sub_drop (by omega) (by omega)
    obtain ⟨r, hr0⟩ : ∃ r, kind % 11 = r := ⟨_, rfl⟩
    have hr1 : 0 ≤ r ∧ r < 11 := by rw [← hr0]; exact ⟨Int.emod_nonneg _ (by decide), Int.emod_lt_of_pos _ (by decide)⟩
    obtain ⟨x0, hx0⟩ : ∃ x0 : UInt8, (1 + r) = (x0.toNat : Int) := ⟨UInt8.ofNat (1 + r).toNat, by rw [byte_of _ (by omega)]; omega⟩
    obtain ⟨L, hLL⟩ : ∃ L, [x0] ++ l2 = L := ⟨_, rfl⟩
    have hL : L.length ≤ 140737488355328 := by rw [← hLL]; simp; omega
    refine d_reg ?_
    refine h_q hflS rfl ?_
    refine h_val rfl (.int .i64 (l.length : Int)) (fun b w hb hH => e_slen ((arg80 hv hH).rd) Try.underlying22 rfl rfl hb) ?_
    refine h_val rfl (.bool true) (fun b w hb hH => exec_cmp rfl rfl rfl (cmp_gtr_t (by omega)) hb) ?_
    refine h_done (d_then rfl ?_)
    refine d_emps 1 rfl ?_
    refine d_parS 8 3 [⟨.quiet, [none, none, none], fun _ => .int .i64 kind, []⟩, ⟨.actv 0, [some false, some false, some false], fun _ => .int .i64 r, [0]⟩, ⟨.quiet, [some true, none, none], fun _ => .int .i64 (1 + r), [1]⟩, ⟨.quiet, [some true, none, none], fun _ => .int .u8 (x0.toNat : Int), [2]⟩, ⟨.act 1, [some true, some false, some false], fun _ => undef, [3]⟩, ⟨.quiet, [none, none, none], fun _ => .slice A l.length cp, []⟩, ⟨.quiet, [none, none, none], fun _ => .slice A2 l2.length (cp - 1), [5]⟩, ⟨.act 2, [some true, some true, some false], fun _ => undef, [4, 6]⟩] [(0, .slice A l.length cp), (1, .int .i64 kind), (4, .bool false)] (fun ρ => match ρ with | [r0, r1, r2] => [selS r2 (fun u2 => Vec 5 1 encB u2 L) (selS r1 (fun u1 => Vec 5 1 encB u1 ([x0])) (emp))] | _ => []) (by kernel_rfl) (by kernel_rfl) ⟨rfl, rfl, rfl, trivial⟩ rfl ?_ ?_
    · skip
      refine s_cons (by intro r0_ r1_ r2_; exact ⟨rfl, fun b w hH hb => exec_q1 hflS rfl hb⟩) ?_
      refine s_cons (by exact ⟨rfl, Acts.su (a_call (ent_of Try.func16 (by kernel_rfl) rfl) (fun w hH => pick w kind 11 hk (by decide) hr0) rfl rfl rfl) rfl⟩) ?_
      refine s_cons (by intro v0_ r1_ r2_; exact ⟨rfl, fun b w hH hb => exec_ar rfl rfl rfl rfl (IntWalk.i64_in _ (by omega)) hb⟩) ?_
      refine s_cons (by intro v0_ r1_ r2_; exact ⟨rfl, fun b w hH hb => exec_conv Try.underlying3 Try.underlying5 (by rw [IntWalk.u8_in _ (by omega)]; exact hx0) rfl rfl hb⟩) ?_
      refine s_cons (by intro v0_; exact ⟨rfl, Acts.s (Acts.place (val := fun u1 : Value => u1) (t := fun u1 => Vec 5 1 encB u1 ([x0])) (os' := fun u1 => [Vec 5 1 encB u1 ([x0])]) 0 rfl (by refine a_build1 (e := 5) (t := 22) (enc := encB) (x := .tmp 15) (c := .int .u8 ((x0).toNat : Int)) ?_ ?_ x0 ?_ ?_ ?_; exact sl_uint8; exact okB; exact rfl; exact rfl; exact rfl) (fun _ => rfl)) (fun _ => rfl)⟩) ?_
      refine s_cons (by intro r0_ r1_ r2_; exact ⟨rfl, fun b w hH hb => exec_q1 hflS rfl hb⟩) ?_
      refine s_cons (by intro r0_ r1_ r2_; exact ⟨rfl, fun b w hH hb => e_sub_lo (i := 1) sl_uint8 hsub (by omega) rfl rfl rfl hH hb⟩) ?_
      refine s_cons (by intro v0_ u1; exact ⟨rfl, Acts.s (a_append8 0 sl_uint8 (by kernel_rfl) rfl (l2) (fun w hH => (arg80 hv2 hH).rd) (by simp; omega) rfl rfl rfl hLL) (fun _ => rfl)⟩) ?_
      exact s_nil
    intro v0_ u1 u2
    refine WL2.keep (env' := [(0, .slice A l.length cp), (4, .bool false), (19, u2)]) ⟨rfl, rfl, rfl, trivial⟩ ?_
    refine h_q hflS rfl ?_
    refine h_nil (f_to ?_)
    obtain ⟨c, en, hD⟩ := decoded_any L
    refine d_reg ?_
    refine h_q hflS rfl ?_
    refine h_act (post := fun _ => [Vec 5 1 encB u2 L]) rfl (a_call (ent_of Try.func9 (by kernel_rfl) rfl) (fun w hH => decode_any w _ L (hH.sl8 0 rfl) hL c en hD) rfl rfl rfl) ?_; rintro ⟨⟩
    refine h_q hflS rfl ?_
    refine h_act (post := fun g5 => [cell g5 32 #[.int .i64 0, .int .u64 0, .int .u64 0, .int .u64 0, .int .u64 0, .int .i64 0, .int .u64 0, .int .i64 0, .string { data := #[] }, .string { data := #[] }], Vec 5 1 encB u2 L]) rfl (a_alloc ze_api_Cmd rfl) ?_; rintro g5
    refine h_acts (post := fun _ => [cell g5 32 #[.int .i64 c.k, .int .u64 c.s, .int .u64 c.q, .int .u64 c.a, .int .u64 c.b, .int .i64 c.hi, .int .u64 c.lo, .int .i64 c.sc, .string (bs c.x), .string (bs c.y)], Vec 5 1 encB u2 L]) rfl rfl (a_store 0 (v := .agg #[.int .i64 c.k, .int .u64 c.s, .int .u64 c.q, .int .u64 c.a, .int .u64 c.b, .int .i64 c.hi, .int .u64 c.lo, .int .i64 c.sc, .string (bs c.x), .string (bs c.y)]) #[.int .i64 c.k, .int .u64 c.s, .int .u64 c.q, .int .u64 c.a, .int .u64 c.b, .int .i64 c.hi, .int .u64 c.lo, .int .i64 c.sc, .string (bs c.x), .string (bs c.y)] ty_api_Cmd.2 rfl rfl rfl rfl rfl rfl rfl rfl rfl) ?_; rintro ⟨⟩
    refine h_q hflS rfl ?_
    refine h_done (d_seq ?_)
    rcases decoded_back hD with ⟨he, hz⟩ | ⟨rfl, ho, hr, hE⟩
    · skip
      refine d_reg ?_
      refine h_q hflS rfl ?_
      refine h_act (post := fun _ => [cell g5 32 #[.int .i64 c.k, .int .u64 c.s, .int .u64 c.q, .int .u64 c.a, .int .u64 c.b, .int .i64 c.hi, .int .u64 c.lo, .int .i64 c.sc, .string (bs c.x), .string (bs c.y)], Vec 5 1 encB u2 L]) rfl (a_call (ent_of Try.func12 (by kernel_rfl) rfl) (fun w hH => known_true w) rfl rfl rfl) ?_; rintro ⟨⟩
      refine h_q hflS rfl ?_
      refine h_val rfl (.bool true) (fun b w hb hH => exec_cmp rfl rfl rfl (cmp_neq_t (by omega)) hb) ?_
      refine h_q hflS rfl ?_
      refine h_done (d_then rfl (d_reg ?_))
      refine h_q hflS rfl ?_
      refine h_act (post := fun _ => [cell g5 32 #[.int .i64 c.k, .int .u64 c.s, .int .u64 c.q, .int .u64 c.a, .int .u64 c.b, .int .i64 c.hi, .int .u64 c.lo, .int .i64 c.sc, .string (bs c.x), .string (bs c.y)], Vec 5 1 encB u2 L]) rfl (a_call (ent_of Try.func12 (by kernel_rfl) rfl) (fun w hH => known_true w) rfl rfl rfl) ?_; rintro ⟨⟩
      refine h_q hflS rfl ?_
      refine h_val rfl (.agg #[.int .i64 c.k, .int .u64 c.s, .int .u64 c.q, .int .u64 c.a, .int .u64 c.b, .int .i64 c.hi, .int .u64 c.lo, .int .i64 c.sc, .string (bs c.x), .string (bs c.y)]) (fun b w hb hH => exec_load rfl rfl (reads_agg (cs := [.int .i64 c.k, .int .u64 c.s, .int .u64 c.q, .int .u64 c.a, .int .u64 c.b, .int .i64 c.hi, .int .u64 c.lo, .int .i64 c.sc, .string (bs c.x), .string (bs c.y)]) ty_api_Cmd rfl) (hH.row 0 rfl) hb) ?_
      refine h_val rfl (.agg #[.int .i64 0, .int .u64 0, .int .u64 0, .int .u64 0, .int .u64 0, .int .i64 0, .int .u64 0, .int .i64 0, .string { data := #[] }, .string { data := #[] }]) (fun b w hb hH => exec_build rfl rfl (by kernel_rfl) hb) ?_
      refine h_val rfl (.bool true) (fun b w hb hH => exec_eqs (by rw [hz]; exact eqC_same CmdD.zero) rfl rfl rfl hb) ?_
      refine h_q hflS rfl ?_
      refine h_done (d_ret (f_then_ret ?_))
      exact f_fin1 (.tmp rfl) (fun w h => ⟨rfl, below0 h.up⟩) rfl
    · skip
      refine d_reg ?_
      refine h_q hflS rfl ?_
      refine h_act (post := fun _ => [cell g5 32 #[.int .i64 c.k, .int .u64 c.s, .int .u64 c.q, .int .u64 c.a, .int .u64 c.b, .int .i64 c.hi, .int .u64 c.lo, .int .i64 c.sc, .string (bs c.x), .string (bs c.y)], Vec 5 1 encB u2 L]) rfl (a_call (ent_of Try.func12 (by kernel_rfl) rfl) (fun w hH => known_true w) rfl rfl rfl) ?_; rintro ⟨⟩
      refine h_q hflS rfl ?_
      refine h_val rfl (.bool false) (fun b w hb hH => exec_cmp rfl rfl rfl (cmp_neq_f (by omega)) hb) ?_
      refine h_q hflS rfl ?_
      refine h_done (d_else rfl (d_skip (f_to (d_reg ?_))))
      refine h_q hflS rfl ?_
      refine h_val rfl (.agg #[.int .i64 c.k, .int .u64 c.s, .int .u64 c.q, .int .u64 c.a, .int .u64 c.b, .int .i64 c.hi, .int .u64 c.lo, .int .i64 c.sc, .string (bs c.x), .string (bs c.y)]) (fun b w hb hH => exec_load rfl rfl (reads_agg (cs := [.int .i64 c.k, .int .u64 c.s, .int .u64 c.q, .int .u64 c.a, .int .u64 c.b, .int .i64 c.hi, .int .u64 c.lo, .int .i64 c.sc, .string (bs c.x), .string (bs c.y)]) ty_api_Cmd rfl) (hH.row 0 rfl) hb) ?_
      refine h_act (post := fun v9 => [Vec 5 1 encB v9 (encL c), cell g5 32 #[.int .i64 c.k, .int .u64 c.s, .int .u64 c.q, .int .u64 c.a, .int .u64 c.b, .int .i64 c.hi, .int .u64 c.lo, .int .i64 c.sc, .string (bs c.x), .string (bs c.y)], Vec 5 1 encB u2 L]) rfl (a_does (os' := fun v9 => [Vec 5 1 encB v9 (encL c), cell g5 32 #[.int .i64 c.k, .int .u64 c.s, .int .u64 c.q, .int .u64 c.a, .int .u64 c.b, .int .i64 c.hi, .int .u64 c.lo, .int .i64 c.sc, .string (bs c.x), .string (bs c.y)], Vec 5 1 encB u2 L]) [] 0 (ent_of Try.func8 (by kernel_rfl) rfl) (encode_does c ho hr) rfl rfl rfl (fun _ => rfl) rfl rfl rfl) ?_; rintro v9
      refine h_q hflS rfl ?_
      refine h_done (d_reg ?_)
      refine h_q hflS rfl ?_
      refine h_val rfl (.agg #[.int .i64 c.k, .int .u64 c.s, .int .u64 c.q, .int .u64 c.a, .int .u64 c.b, .int .i64 c.hi, .int .u64 c.lo, .int .i64 c.sc, .string (bs c.x), .string (bs c.y)]) (fun b w hb hH => exec_load rfl rfl (reads_agg (cs := [.int .i64 c.k, .int .u64 c.s, .int .u64 c.q, .int .u64 c.a, .int .u64 c.b, .int .i64 c.hi, .int .u64 c.lo, .int .i64 c.sc, .string (bs c.x), .string (bs c.y)]) ty_api_Cmd rfl) (hH.row 1 rfl) hb) ?_
      refine h_act (post := fun _ => [Vec 5 1 encB v9 (encL c), cell g5 32 #[.int .i64 c.k, .int .u64 c.s, .int .u64 c.q, .int .u64 c.a, .int .u64 c.b, .int .i64 c.hi, .int .u64 c.lo, .int .i64 c.sc, .string (bs c.x), .string (bs c.y)], Vec 5 1 encB u2 L]) rfl (a_call (ent_of Try.func17 (by kernel_rfl) rfl) (fun w hH => right_any w c ho true hr) rfl rfl rfl) ?_; rintro ⟨⟩
      refine h_q hflS rfl ?_
      refine h_val rfl (.bool true) (fun b w hb hH => exec_cmp rfl rfl rfl (cmp_eql_t (by decide)) hb) ?_
      refine h_q hflS rfl ?_
      refine h_val rfl (.string (bs (encL c))) (fun b w hb hH => exec_str8 Try.underlying22 Try.underlying5 (by kernel_rfl) Try.underlying9 (hH.sl8 0 rfl) rfl rfl hb) ?_
      refine h_q hflS rfl ?_
      refine h_val rfl (.string (bs L)) (fun b w hb hH => exec_str8 Try.underlying22 Try.underlying5 (by kernel_rfl) Try.underlying9 (hH.sl8 2 rfl) rfl rfl hb) ?_
      refine h_val rfl (.bool true) (fun b w hb hH => exec_same rfl rfl rfl (by rw [hE]; simp) hb) ?_
      refine h_q hflS rfl ?_
      refine h_done (d_ret ?_)
      exact f_fin1 (.tmp rfl) (fun w h => ⟨rfl, below0 h.up⟩) rfl

theorem only_true (w : World) (v : Value) (l : List UInt8) (kind : Int) (hv : Sl8 w v l) (hl : l.length ≤ 140737488355328) (hk : -9223372036854775808 ≤ kind ∧ kind ≤ 9223372036854775807) : Calls Try.prog 6 #[v, .int .i64 kind] w fun e w' => e = .returned (.bool true) ∧ Below w.heap.size w w' := by
  obtain ⟨A, cp, e, hb⟩ := hv
  subst e
  exact only_sl w A cp l kind ⟨A, cp, rfl, hb⟩ hl hk

def shapeR (is : Bool) (r : RepD) : RepD := match is with | true => ⟨r.code % 100, r.val, r.hi, r.lo, r.sc % 19⟩ | false => r
theorem shapeR_ok {is : Bool} {r : RepD} (ho : r.ok) : (shapeR is r).ok := by
  cases is
  · exact ho
  · have h1 := Int.emod_nonneg r.code (show (100 : Int) ≠ 0 by decide)
    have h2 := Int.emod_lt_of_pos r.code (show (0 : Int) < 100 by decide)
    have h3 := Int.emod_nonneg r.sc (show (19 : Int) ≠ 0 by decide)
    have h4 := Int.emod_lt_of_pos r.sc (show (0 : Int) < 19 by decide)
    exact ⟨⟨by show -9223372036854775808 ≤ r.code % 100; omega, by show r.code % 100 ≤ _; omega⟩, ho.val, ho.hi, ho.lo, ⟨by show -9223372036854775808 ≤ r.sc % 19; omega, by show r.sc % 19 ≤ _; omega⟩⟩

set_option maxRecDepth 100000 in
theorem replies_true (w : World) (x : RepD) (ho : x.ok) (is : Bool) (v : Value) (l : List UInt8) (hv : Sl8 w v l) (hl : l.length ≤ 140737488355328) : Calls Try.prog 7 #[.agg #[.int .i64 x.code, .int .u64 x.val, .int .i64 x.hi, .int .u64 x.lo, .int .i64 x.sc], .bool is, v] w fun e w' => e = .returned (.bool true) ∧ Below w.heap.size w w' := by
  obtain ⟨z, en, hD⟩ := repread_any l
  have yok : (shapeR is x).ok := shapeR_ok ho
  obtain ⟨y, hy⟩ : ∃ y, shapeR is x = y := ⟨_, rfl⟩
  rw [hy] at yok
  refine d_in (args := [.agg #[.int .i64 x.code, .int .u64 x.val, .int .i64 x.hi, .int .u64 x.lo, .int .i64 x.sc], .bool is, v]) 84 Try.func7 rfl rfl rfl ?_
  refine d_reg ?_
  refine h_q hflS rfl ?_
  refine h_act (post := fun gr => [cell gr 37 #[.int .i64 x.code, .int .u64 x.val, .int .i64 x.hi, .int .u64 x.lo, .int .i64 x.sc]]) rfl (a_box (cs := #[.int .i64 x.code, .int .u64 x.val, .int .i64 x.hi, .int .u64 x.lo, .int .i64 x.sc]) rfl rfl rfl) ?_; rintro gr
  refine h_q hflS rfl ?_
  refine h_done (d_seq (d_reg ?_))
  refine h_q hflS rfl ?_
  refine h_done ?_
  refine d_mid [(2, v), (3, .pointer (some ⟨gr, 0, none⟩)), (6, .bool false)] [cell gr 37 #[.int .i64 y.code, .int .u64 y.val, .int .i64 y.hi, .int .u64 y.lo, .int .i64 y.sc]] ?_ ?_
  · skip
    cases is
    · skip
      obtain rfl : x = y := hy
      refine d_else rfl (d_skip ?_)
      exact f_mid 0 ⟨rfl, rfl, rfl, trivial⟩ rfl
    · skip
      obtain rfl : shapeR true x = y := hy
      refine d_then rfl (d_reg ?_)
      refine h_q hflS rfl ?_
      refine h_val rfl (.int .i64 x.code) (fun b w hb hH => exec_load rfl rfl (reads_one ty_api_Errno rfl) (hH.row 0 rfl) hb) ?_
      refine h_act (post := fun _ => [cell gr 37 #[.int .i64 x.code, .int .u64 x.val, .int .i64 x.hi, .int .u64 x.lo, .int .i64 x.sc]]) rfl (a_call (ent_of Try.func16 (by kernel_rfl) rfl) (fun w hH => pick w x.code 100 ho.code (by decide) rfl) rfl rfl rfl) ?_; rintro ⟨⟩
      refine h_q hflS rfl ?_
      refine h_acts (post := fun _ => [cell gr 37 #[.int .i64 (x.code % 100), .int .u64 x.val, .int .i64 x.hi, .int .u64 x.lo, .int .i64 x.sc]]) rfl rfl (a_store 0 (v := .int .i64 (x.code % 100)) #[.int .i64 (x.code % 100), .int .u64 x.val, .int .i64 x.hi, .int .u64 x.lo, .int .i64 x.sc] ty_api_Errno.2 rfl rfl rfl rfl rfl rfl rfl rfl rfl) ?_; rintro ⟨⟩
      refine h_done (d_reg1 ?_)
      refine h_q hflS rfl ?_
      refine h_val rfl (.int .i64 x.sc) (fun b w hb hH => exec_load rfl rfl (reads_one ty_int rfl) (hH.row 0 rfl) hb) ?_
      refine h_act (post := fun _ => [cell gr 37 #[.int .i64 (x.code % 100), .int .u64 x.val, .int .i64 x.hi, .int .u64 x.lo, .int .i64 x.sc]]) rfl (a_call (ent_of Try.func16 (by kernel_rfl) rfl) (fun w hH => pick w x.sc 19 ho.sc (by decide) rfl) rfl rfl rfl) ?_; rintro ⟨⟩
      refine h_q hflS rfl ?_
      refine h_acts (post := fun _ => [cell gr 37 #[.int .i64 (x.code % 100), .int .u64 x.val, .int .i64 x.hi, .int .u64 x.lo, .int .i64 (x.sc % 19)]]) rfl rfl (a_store 0 (v := .int .i64 (x.sc % 19)) #[.int .i64 (x.code % 100), .int .u64 x.val, .int .i64 x.hi, .int .u64 x.lo, .int .i64 (x.sc % 19)] ty_int.2 rfl rfl rfl rfl rfl rfl rfl rfl rfl) ?_; rintro ⟨⟩
      refine h_nil ?_
      exact f_mid 0 ⟨rfl, rfl, rfl, trivial⟩ rfl
  refine f_to ?_
  rcases Bool.eq_false_or_eq_true y.right with hy1 | hy1
  · skip
    refine d_reg ?_
    refine h_q hflS rfl ?_
    refine h_val rfl (.agg #[.int .i64 y.code, .int .u64 y.val, .int .i64 y.hi, .int .u64 y.lo, .int .i64 y.sc]) (fun b w hb hH => exec_load rfl rfl (reads_agg (cs := [.int .i64 y.code, .int .u64 y.val, .int .i64 y.hi, .int .u64 y.lo, .int .i64 y.sc]) ty_api_Reply rfl) (hH.row 0 rfl) hb) ?_
    refine h_act (post := fun v1 => [Vec 5 1 encB v1 (layR y), cell gr 37 #[.int .i64 y.code, .int .u64 y.val, .int .i64 y.hi, .int .u64 y.lo, .int .i64 y.sc]]) rfl (a_does (os' := fun v1 => [Vec 5 1 encB v1 (layR y), cell gr 37 #[.int .i64 y.code, .int .u64 y.val, .int .i64 y.hi, .int .u64 y.lo, .int .i64 y.sc]]) [] 0 (ent_of Try.func10 (by kernel_rfl) rfl) (layr_does y yok hy1) rfl rfl rfl (fun _ => rfl) rfl rfl rfl) ?_; rintro v1
    refine h_q hflS rfl ?_
    refine h_done (d_reg ?_)
    refine h_q hflS rfl ?_
    refine h_val rfl (.agg #[.int .i64 y.code, .int .u64 y.val, .int .i64 y.hi, .int .u64 y.lo, .int .i64 y.sc]) (fun b w hb hH => exec_load rfl rfl (reads_agg (cs := [.int .i64 y.code, .int .u64 y.val, .int .i64 y.hi, .int .u64 y.lo, .int .i64 y.sc]) ty_api_Reply rfl) (hH.row 1 rfl) hb) ?_
    refine h_act (post := fun v2 => [Vec 5 1 encB v2 (layR y), Vec 5 1 encB v1 (layR y), cell gr 37 #[.int .i64 y.code, .int .u64 y.val, .int .i64 y.hi, .int .u64 y.lo, .int .i64 y.sc]]) rfl (a_does (os' := fun v2 => [Vec 5 1 encB v2 (layR y), Vec 5 1 encB v1 (layR y), cell gr 37 #[.int .i64 y.code, .int .u64 y.val, .int .i64 y.hi, .int .u64 y.lo, .int .i64 y.sc]]) [] 0 (ent_of Try.func18 (by kernel_rfl) rfl) (rlayr_does y yok hy1) rfl rfl rfl (fun _ => rfl) rfl rfl rfl) ?_; rintro v2
    refine h_q hflS rfl ?_
    refine h_done (d_seq (d_reg ?_))
    refine h_q hflS rfl ?_
    refine h_act (post := fun _ => [Vec 5 1 encB v2 (layR y), Vec 5 1 encB v1 (layR y), cell gr 37 #[.int .i64 y.code, .int .u64 y.val, .int .i64 y.hi, .int .u64 y.lo, .int .i64 y.sc]]) rfl (a_call (ent_of Try.func12 (by kernel_rfl) rfl) (fun w hH => known_true w) rfl rfl rfl) ?_; rintro ⟨⟩
    refine h_q hflS rfl ?_
    refine h_val rfl (.string (bs (layR y))) (fun b w hb hH => exec_str8 Try.underlying22 Try.underlying5 (by kernel_rfl) Try.underlying9 (hH.sl8 1 rfl) rfl rfl hb) ?_
    refine h_q hflS rfl ?_
    refine h_val rfl (.string (bs (layR y))) (fun b w hb hH => exec_str8 Try.underlying22 Try.underlying5 (by kernel_rfl) Try.underlying9 (hH.sl8 0 rfl) rfl rfl hb) ?_
    refine h_val rfl (.bool false) (fun b w hb hH => exec_sneq (l := layR y) (m := layR y) (by simp) rfl rfl rfl hb) ?_
    refine h_q hflS rfl ?_
    refine h_val rfl (.bool false) (fun b w hb hH => exec_cmp rfl rfl rfl (cmp_neq_f (by decide)) hb) ?_
    refine h_q hflS rfl ?_
    refine h_done (d_else rfl (d_skip (f_to (d_seq (d_reg ?_)))))
    refine h_q hflS rfl ?_
    refine h_val rfl (.bool true) (fun b w hb hH => exec_cmp rfl rfl rfl (cmp_eql_t (by decide)) hb) ?_
    refine h_done (d_then rfl (d_reg ?_))
    refine h_q hflS rfl ?_
    refine h_act (post := fun _ => [Vec 5 1 encB v2 (layR y), Vec 5 1 encB v1 (layR y), cell gr 37 #[.int .i64 y.code, .int .u64 y.val, .int .i64 y.hi, .int .u64 y.lo, .int .i64 y.sc]]) rfl (a_call (ent_of Try.func11 (by kernel_rfl) rfl) (fun w hH => readReply_any w v1 (layR y) (hH.sl8 1 rfl) (by have := layR_len yok; omega) y 0 (repread_lay yok hy1)) rfl rfl rfl) ?_; rintro ⟨⟩
    refine h_q hflS rfl ?_
    refine h_act (post := fun g11 => [cell g11 37 #[.int .i64 0, .int .u64 0, .int .i64 0, .int .u64 0, .int .i64 0], Vec 5 1 encB v2 (layR y), Vec 5 1 encB v1 (layR y), cell gr 37 #[.int .i64 y.code, .int .u64 y.val, .int .i64 y.hi, .int .u64 y.lo, .int .i64 y.sc]]) rfl (a_alloc ze_api_Reply rfl) ?_; rintro g11
    refine h_acts (post := fun _ => [cell g11 37 #[.int .i64 y.code, .int .u64 y.val, .int .i64 y.hi, .int .u64 y.lo, .int .i64 y.sc], Vec 5 1 encB v2 (layR y), Vec 5 1 encB v1 (layR y), cell gr 37 #[.int .i64 y.code, .int .u64 y.val, .int .i64 y.hi, .int .u64 y.lo, .int .i64 y.sc]]) rfl rfl (a_store 0 (v := .agg #[.int .i64 y.code, .int .u64 y.val, .int .i64 y.hi, .int .u64 y.lo, .int .i64 y.sc]) #[.int .i64 y.code, .int .u64 y.val, .int .i64 y.hi, .int .u64 y.lo, .int .i64 y.sc] ty_api_Reply.2 rfl rfl rfl rfl rfl rfl rfl rfl rfl) ?_; rintro ⟨⟩
    refine h_q hflS rfl ?_
    refine h_done (d_reg ?_)
    refine h_q hflS rfl ?_
    refine h_val rfl (.bool false) (fun b w hb hH => exec_cmp rfl rfl rfl (cmp_neq_f (by decide)) hb) ?_
    refine h_q hflS rfl ?_
    refine h_val rfl (.agg #[.int .i64 y.code, .int .u64 y.val, .int .i64 y.hi, .int .u64 y.lo, .int .i64 y.sc]) (fun b w hb hH => exec_load rfl rfl (reads_agg (cs := [.int .i64 y.code, .int .u64 y.val, .int .i64 y.hi, .int .u64 y.lo, .int .i64 y.sc]) ty_api_Reply rfl) (hH.row 0 rfl) hb) ?_
    refine h_val rfl (.agg #[.int .i64 y.code, .int .u64 y.val, .int .i64 y.hi, .int .u64 y.lo, .int .i64 y.sc]) (fun b w hb hH => exec_load rfl rfl (reads_agg (cs := [.int .i64 y.code, .int .u64 y.val, .int .i64 y.hi, .int .u64 y.lo, .int .i64 y.sc]) ty_api_Reply rfl) (hH.row 3 rfl) hb) ?_
    refine h_val rfl (.bool false) (fun b w hb hH => exec_nes (neR_same y) rfl rfl rfl hb) ?_
    refine h_q hflS rfl ?_
    refine h_done ?_
    refine WC2.keep (env' := [(2, v), (6, .bool false), (65, .bool false)]) ⟨rfl, rfl, rfl, trivial⟩ ?_
    refine d_else rfl (d_skip (f_to (d_reg ?_)))
    refine h_q hflS rfl ?_
    refine h_act (post := fun _ => [cell g11 37 #[.int .i64 y.code, .int .u64 y.val, .int .i64 y.hi, .int .u64 y.lo, .int .i64 y.sc], Vec 5 1 encB v2 (layR y), Vec 5 1 encB v1 (layR y), cell gr 37 #[.int .i64 y.code, .int .u64 y.val, .int .i64 y.hi, .int .u64 y.lo, .int .i64 y.sc]]) rfl (a_call (ent_of Try.func11 (by kernel_rfl) rfl) (fun w hH => readReply_any w v l (arg80 hv hH) hl z en hD) rfl rfl rfl) ?_; rintro ⟨⟩
    refine h_q hflS rfl ?_
    refine h_act (post := fun g13 => [cell g13 37 #[.int .i64 0, .int .u64 0, .int .i64 0, .int .u64 0, .int .i64 0], cell g11 37 #[.int .i64 y.code, .int .u64 y.val, .int .i64 y.hi, .int .u64 y.lo, .int .i64 y.sc], Vec 5 1 encB v2 (layR y), Vec 5 1 encB v1 (layR y), cell gr 37 #[.int .i64 y.code, .int .u64 y.val, .int .i64 y.hi, .int .u64 y.lo, .int .i64 y.sc]]) rfl (a_alloc ze_api_Reply rfl) ?_; rintro g13
    refine h_acts (post := fun _ => [cell g13 37 #[.int .i64 z.code, .int .u64 z.val, .int .i64 z.hi, .int .u64 z.lo, .int .i64 z.sc], cell g11 37 #[.int .i64 y.code, .int .u64 y.val, .int .i64 y.hi, .int .u64 y.lo, .int .i64 y.sc], Vec 5 1 encB v2 (layR y), Vec 5 1 encB v1 (layR y), cell gr 37 #[.int .i64 y.code, .int .u64 y.val, .int .i64 y.hi, .int .u64 y.lo, .int .i64 y.sc]]) rfl rfl (a_store 0 (v := .agg #[.int .i64 z.code, .int .u64 z.val, .int .i64 z.hi, .int .u64 z.lo, .int .i64 z.sc]) #[.int .i64 z.code, .int .u64 z.val, .int .i64 z.hi, .int .u64 z.lo, .int .i64 z.sc] ty_api_Reply.2 rfl rfl rfl rfl rfl rfl rfl rfl rfl) ?_; rintro ⟨⟩
    refine h_q hflS rfl ?_
    refine h_done (d_reg ?_)
    refine h_q hflS rfl ?_
    refine h_act (post := fun _ => [cell g13 37 #[.int .i64 z.code, .int .u64 z.val, .int .i64 z.hi, .int .u64 z.lo, .int .i64 z.sc], cell g11 37 #[.int .i64 y.code, .int .u64 y.val, .int .i64 y.hi, .int .u64 y.lo, .int .i64 y.sc], Vec 5 1 encB v2 (layR y), Vec 5 1 encB v1 (layR y), cell gr 37 #[.int .i64 y.code, .int .u64 y.val, .int .i64 y.hi, .int .u64 y.lo, .int .i64 y.sc]]) rfl (a_call (ent_of Try.func19 (by kernel_rfl) rfl) (fun w hH => rreadReply_any w v l (arg80 hv hH) hl z en hD) rfl rfl rfl) ?_; rintro ⟨⟩
    refine h_q hflS rfl ?_
    refine h_act (post := fun g15 => [cell g15 37 #[.int .i64 0, .int .u64 0, .int .i64 0, .int .u64 0, .int .i64 0], cell g13 37 #[.int .i64 z.code, .int .u64 z.val, .int .i64 z.hi, .int .u64 z.lo, .int .i64 z.sc], cell g11 37 #[.int .i64 y.code, .int .u64 y.val, .int .i64 y.hi, .int .u64 y.lo, .int .i64 y.sc], Vec 5 1 encB v2 (layR y), Vec 5 1 encB v1 (layR y), cell gr 37 #[.int .i64 y.code, .int .u64 y.val, .int .i64 y.hi, .int .u64 y.lo, .int .i64 y.sc]]) rfl (a_alloc ze_api_Reply rfl) ?_; rintro g15
    refine h_acts (post := fun _ => [cell g15 37 #[.int .i64 z.code, .int .u64 z.val, .int .i64 z.hi, .int .u64 z.lo, .int .i64 z.sc], cell g13 37 #[.int .i64 z.code, .int .u64 z.val, .int .i64 z.hi, .int .u64 z.lo, .int .i64 z.sc], cell g11 37 #[.int .i64 y.code, .int .u64 y.val, .int .i64 y.hi, .int .u64 y.lo, .int .i64 y.sc], Vec 5 1 encB v2 (layR y), Vec 5 1 encB v1 (layR y), cell gr 37 #[.int .i64 y.code, .int .u64 y.val, .int .i64 y.hi, .int .u64 y.lo, .int .i64 y.sc]]) rfl rfl (a_store 0 (v := .agg #[.int .i64 z.code, .int .u64 z.val, .int .i64 z.hi, .int .u64 z.lo, .int .i64 z.sc]) #[.int .i64 z.code, .int .u64 z.val, .int .i64 z.hi, .int .u64 z.lo, .int .i64 z.sc] ty_api_Reply.2 rfl rfl rfl rfl rfl rfl rfl rfl rfl) ?_; rintro ⟨⟩
    refine h_q hflS rfl ?_
    refine h_done (d_reg ?_)
    refine h_q hflS rfl ?_
    refine h_val rfl (.agg #[.int .i64 z.code, .int .u64 z.val, .int .i64 z.hi, .int .u64 z.lo, .int .i64 z.sc]) (fun b w hb hH => exec_load rfl rfl (reads_agg (cs := [.int .i64 z.code, .int .u64 z.val, .int .i64 z.hi, .int .u64 z.lo, .int .i64 z.sc]) ty_api_Reply rfl) (hH.row 1 rfl) hb) ?_
    refine h_val rfl (.agg #[.int .i64 z.code, .int .u64 z.val, .int .i64 z.hi, .int .u64 z.lo, .int .i64 z.sc]) (fun b w hb hH => exec_load rfl rfl (reads_agg (cs := [.int .i64 z.code, .int .u64 z.val, .int .i64 z.hi, .int .u64 z.lo, .int .i64 z.sc]) ty_api_Reply rfl) (hH.row 0 rfl) hb) ?_
    refine h_val rfl (.bool true) (fun b w hb hH => exec_eqs (eqR_same z) rfl rfl rfl hb) ?_
    refine h_q hflS rfl ?_
    refine h_val rfl (.bool true) (fun b w hb hH => exec_cmp rfl rfl rfl (cmp_eql_t rfl) hb) ?_
    refine h_q hflS rfl ?_
    refine h_done (d_ret ?_)
    exact f_fin1 (.tmp rfl) (fun w h => ⟨rfl, below0 h.up⟩) rfl
  · skip
    refine d_reg ?_
    refine h_q hflS rfl ?_
    refine h_val rfl (.agg #[.int .i64 y.code, .int .u64 y.val, .int .i64 y.hi, .int .u64 y.lo, .int .i64 y.sc]) (fun b w hb hH => exec_load rfl rfl (reads_agg (cs := [.int .i64 y.code, .int .u64 y.val, .int .i64 y.hi, .int .u64 y.lo, .int .i64 y.sc]) ty_api_Reply rfl) (hH.row 0 rfl) hb) ?_
    refine h_act (post := fun _ => [cell gr 37 #[.int .i64 y.code, .int .u64 y.val, .int .i64 y.hi, .int .u64 y.lo, .int .i64 y.sc]]) rfl (a_call (ent_of Try.func10 (by kernel_rfl) rfl) (fun w hH => layr_bad w y yok hy1) rfl rfl rfl) ?_; rintro ⟨⟩
    refine h_q hflS rfl ?_
    refine h_done (d_reg ?_)
    refine h_q hflS rfl ?_
    refine h_val rfl (.agg #[.int .i64 y.code, .int .u64 y.val, .int .i64 y.hi, .int .u64 y.lo, .int .i64 y.sc]) (fun b w hb hH => exec_load rfl rfl (reads_agg (cs := [.int .i64 y.code, .int .u64 y.val, .int .i64 y.hi, .int .u64 y.lo, .int .i64 y.sc]) ty_api_Reply rfl) (hH.row 0 rfl) hb) ?_
    refine h_act (post := fun _ => [cell gr 37 #[.int .i64 y.code, .int .u64 y.val, .int .i64 y.hi, .int .u64 y.lo, .int .i64 y.sc]]) rfl (a_call (ent_of Try.func18 (by kernel_rfl) rfl) (fun w hH => rlayr_bad w y yok hy1) rfl rfl rfl) ?_; rintro ⟨⟩
    refine h_q hflS rfl ?_
    refine h_done (d_seq (d_reg ?_))
    refine h_q hflS rfl ?_
    refine h_act (post := fun _ => [cell gr 37 #[.int .i64 y.code, .int .u64 y.val, .int .i64 y.hi, .int .u64 y.lo, .int .i64 y.sc]]) rfl (a_call (ent_of Try.func12 (by kernel_rfl) rfl) (fun w hH => known_true w) rfl rfl rfl) ?_; rintro ⟨⟩
    refine h_q hflS rfl ?_
    refine h_val rfl (.string (bs ([]))) (fun b w hb hH => exec_str8 Try.underlying22 Try.underlying5 (by kernel_rfl) Try.underlying9 (sl8_nil w) rfl rfl hb) ?_
    refine h_q hflS rfl ?_
    refine h_val rfl (.string (bs ([]))) (fun b w hb hH => exec_str8 Try.underlying22 Try.underlying5 (by kernel_rfl) Try.underlying9 (sl8_nil w) rfl rfl hb) ?_
    refine h_val rfl (.bool false) (fun b w hb hH => exec_sneq (l := []) (m := []) (by simp) rfl rfl rfl hb) ?_
    refine h_q hflS rfl ?_
    refine h_val rfl (.bool false) (fun b w hb hH => exec_cmp rfl rfl rfl (cmp_neq_f (by decide)) hb) ?_
    refine h_q hflS rfl ?_
    refine h_done (d_else rfl (d_skip (f_to (d_seq (d_reg ?_)))))
    refine h_q hflS rfl ?_
    refine h_val rfl (.bool false) (fun b w hb hH => exec_cmp rfl rfl rfl (cmp_eql_f (by decide)) hb) ?_
    refine h_done (d_else rfl (d_skip (f_to (d_reg ?_))))
    refine h_q hflS rfl ?_
    refine h_act (post := fun _ => [cell gr 37 #[.int .i64 y.code, .int .u64 y.val, .int .i64 y.hi, .int .u64 y.lo, .int .i64 y.sc]]) rfl (a_call (ent_of Try.func11 (by kernel_rfl) rfl) (fun w hH => readReply_any w v l (arg80 hv hH) hl z en hD) rfl rfl rfl) ?_; rintro ⟨⟩
    refine h_q hflS rfl ?_
    refine h_act (post := fun g13 => [cell g13 37 #[.int .i64 0, .int .u64 0, .int .i64 0, .int .u64 0, .int .i64 0], cell gr 37 #[.int .i64 y.code, .int .u64 y.val, .int .i64 y.hi, .int .u64 y.lo, .int .i64 y.sc]]) rfl (a_alloc ze_api_Reply rfl) ?_; rintro g13
    refine h_acts (post := fun _ => [cell g13 37 #[.int .i64 z.code, .int .u64 z.val, .int .i64 z.hi, .int .u64 z.lo, .int .i64 z.sc], cell gr 37 #[.int .i64 y.code, .int .u64 y.val, .int .i64 y.hi, .int .u64 y.lo, .int .i64 y.sc]]) rfl rfl (a_store 0 (v := .agg #[.int .i64 z.code, .int .u64 z.val, .int .i64 z.hi, .int .u64 z.lo, .int .i64 z.sc]) #[.int .i64 z.code, .int .u64 z.val, .int .i64 z.hi, .int .u64 z.lo, .int .i64 z.sc] ty_api_Reply.2 rfl rfl rfl rfl rfl rfl rfl rfl rfl) ?_; rintro ⟨⟩
    refine h_q hflS rfl ?_
    refine h_done (d_reg ?_)
    refine h_q hflS rfl ?_
    refine h_act (post := fun _ => [cell g13 37 #[.int .i64 z.code, .int .u64 z.val, .int .i64 z.hi, .int .u64 z.lo, .int .i64 z.sc], cell gr 37 #[.int .i64 y.code, .int .u64 y.val, .int .i64 y.hi, .int .u64 y.lo, .int .i64 y.sc]]) rfl (a_call (ent_of Try.func19 (by kernel_rfl) rfl) (fun w hH => rreadReply_any w v l (arg80 hv hH) hl z en hD) rfl rfl rfl) ?_; rintro ⟨⟩
    refine h_q hflS rfl ?_
    refine h_act (post := fun g15 => [cell g15 37 #[.int .i64 0, .int .u64 0, .int .i64 0, .int .u64 0, .int .i64 0], cell g13 37 #[.int .i64 z.code, .int .u64 z.val, .int .i64 z.hi, .int .u64 z.lo, .int .i64 z.sc], cell gr 37 #[.int .i64 y.code, .int .u64 y.val, .int .i64 y.hi, .int .u64 y.lo, .int .i64 y.sc]]) rfl (a_alloc ze_api_Reply rfl) ?_; rintro g15
    refine h_acts (post := fun _ => [cell g15 37 #[.int .i64 z.code, .int .u64 z.val, .int .i64 z.hi, .int .u64 z.lo, .int .i64 z.sc], cell g13 37 #[.int .i64 z.code, .int .u64 z.val, .int .i64 z.hi, .int .u64 z.lo, .int .i64 z.sc], cell gr 37 #[.int .i64 y.code, .int .u64 y.val, .int .i64 y.hi, .int .u64 y.lo, .int .i64 y.sc]]) rfl rfl (a_store 0 (v := .agg #[.int .i64 z.code, .int .u64 z.val, .int .i64 z.hi, .int .u64 z.lo, .int .i64 z.sc]) #[.int .i64 z.code, .int .u64 z.val, .int .i64 z.hi, .int .u64 z.lo, .int .i64 z.sc] ty_api_Reply.2 rfl rfl rfl rfl rfl rfl rfl rfl rfl) ?_; rintro ⟨⟩
    refine h_q hflS rfl ?_
    refine h_done ?_
    refine WC2.keep (env' := [(6, .bool false), (13, .pointer (some ⟨g13, 0, none⟩)), (14, .int .i64 (en : Int)), (15, .pointer (some ⟨g15, 0, none⟩)), (16, .int .i64 (en : Int))]) ⟨rfl, rfl, rfl, rfl, rfl, trivial⟩ ?_
    refine d_reg ?_
    refine h_q hflS rfl ?_
    refine h_val rfl (.agg #[.int .i64 z.code, .int .u64 z.val, .int .i64 z.hi, .int .u64 z.lo, .int .i64 z.sc]) (fun b w hb hH => exec_load rfl rfl (reads_agg (cs := [.int .i64 z.code, .int .u64 z.val, .int .i64 z.hi, .int .u64 z.lo, .int .i64 z.sc]) ty_api_Reply rfl) (hH.row 1 rfl) hb) ?_
    refine h_val rfl (.agg #[.int .i64 z.code, .int .u64 z.val, .int .i64 z.hi, .int .u64 z.lo, .int .i64 z.sc]) (fun b w hb hH => exec_load rfl rfl (reads_agg (cs := [.int .i64 z.code, .int .u64 z.val, .int .i64 z.hi, .int .u64 z.lo, .int .i64 z.sc]) ty_api_Reply rfl) (hH.row 0 rfl) hb) ?_
    refine h_val rfl (.bool true) (fun b w hb hH => exec_eqs (eqR_same z) rfl rfl rfl hb) ?_
    refine h_q hflS rfl ?_
    refine h_val rfl (.bool true) (fun b w hb hH => exec_cmp rfl rfl rfl (cmp_eql_t rfl) hb) ?_
    refine h_q hflS rfl ?_
    refine h_done (d_ret ?_)
    exact f_fin1 (.tmp rfl) (fun w h => ⟨rfl, below0 h.up⟩) rfl
end Go.Proofs.Ytlkknncndgamdaa.Sep
