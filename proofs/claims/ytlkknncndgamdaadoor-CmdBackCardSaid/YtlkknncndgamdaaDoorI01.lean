/-
  CmdG · CmdN · CmdI
-/
import Derived.Test.YtlkknncndgamdaaDoorE01
import Derived.Test.YtlkknncndgamdaaDoorE02
set_option linter.unusedSimpArgs false
set_option linter.unusedVariables false

namespace Go.Proofs.YtlkknncndgamdaaDoor.Sep
open Go.RowKit
open Go.Proofs.YtlkknncndgamdaaDoor.Mem (Dist Blk Chg below0)

structure RepD where
  code : Int
  val : Int
  hi : Int
  lo : Int
  sc : Int
deriving DecidableEq
structure RepD.ok (r : RepD) : Prop where
  code : I64 r.code
  val : U64 r.val
  hi : I64 r.hi
  lo : U64 r.lo
  sc : I64 r.sc
def RepD.right (r : RepD) : Bool := (decide (0 ≤ r.code) && decide (r.code ≤ 99)) && scB r.sc
end Go.Proofs.YtlkknncndgamdaaDoor.Sep

namespace Go.Proofs.YtlkknncndgamdaaDoor.Sep
open Go.RowKit
open Go.Proofs.YtlkknncndgamdaaDoor.Mem (Dist Blk Chg below0)

theorem vlay_300 : vlay 300 = [172, 2] := by rw [vlay_more (by decide), vlay_small (by decide)]; rfl
theorem vlay_5 : vlay 5 = [5] := by rw [vlay_small (by decide)]; rfl
theorem k1_ok : (⟨1, 5, 0, 0, 0, 0, 0, 0, [], []⟩ : CmdD).ok := ⟨⟨by decide, by decide⟩, ⟨by decide, by decide⟩, ⟨by decide, by decide⟩, ⟨by decide, by decide⟩, ⟨by decide, by decide⟩, ⟨by decide, by decide⟩, ⟨by decide, by decide⟩, ⟨by decide, by decide⟩, by decide, by decide⟩
theorem k2_ok : (⟨3, 5, 300, 0, 0, 0, 0, 0, [69, 85, 82], []⟩ : CmdD).ok := ⟨⟨by decide, by decide⟩, ⟨by decide, by decide⟩, ⟨by decide, by decide⟩, ⟨by decide, by decide⟩, ⟨by decide, by decide⟩, ⟨by decide, by decide⟩, ⟨by decide, by decide⟩, ⟨by decide, by decide⟩, by decide, by decide⟩
theorem k1_enc : encL (⟨1, 5, 0, 0, 0, 0, 0, 0, [], []⟩ : CmdD) = [1, 5] := by
  show putIf false (putIf false (putIf false (putIf false (putIf false (putIf false (putIf true [1] (vlay 5)) _) _) _) _) _) _ = _
  rw [vlay_5]; rfl
theorem k2_enc : encL (⟨3, 5, 300, 0, 0, 0, 0, 0, [69, 85, 82], []⟩ : CmdD) = [3, 5, 172, 2, 69, 85, 82] := by
  show putIf false (putIf true (putIf false (putIf false (putIf false (putIf true (putIf true [3] (vlay 5)) (vlay 300)) _) _) _) [69, 85, 82]) _ = _
  rw [vlay_5, vlay_300]; rfl
theorem k1_does : Does Tryd.prog 11 #[.agg #[.int .i64 ((⟨1, 5, 0, 0, 0, 0, 0, 0, [], []⟩ : CmdD).k), .int .u64 ((⟨1, 5, 0, 0, 0, 0, 0, 0, [], []⟩ : CmdD).s), .int .u64 ((⟨1, 5, 0, 0, 0, 0, 0, 0, [], []⟩ : CmdD).q), .int .u64 ((⟨1, 5, 0, 0, 0, 0, 0, 0, [], []⟩ : CmdD).a), .int .u64 ((⟨1, 5, 0, 0, 0, 0, 0, 0, [], []⟩ : CmdD).b), .int .i64 ((⟨1, 5, 0, 0, 0, 0, 0, 0, [], []⟩ : CmdD).hi), .int .u64 ((⟨1, 5, 0, 0, 0, 0, 0, 0, [], []⟩ : CmdD).lo), .int .i64 ((⟨1, 5, 0, 0, 0, 0, 0, 0, [], []⟩ : CmdD).sc), .string (bs ((⟨1, 5, 0, 0, 0, 0, 0, 0, [], []⟩ : CmdD).x)), .string (bs ((⟨1, 5, 0, 0, 0, 0, 0, 0, [], []⟩ : CmdD).y))]] [] (fun v : Value => .tuple #[v, .int .i64 0]) (fun v => [Vec 5 1 encB v [1, 5]]) := by
  have h := encode_does (⟨1, 5, 0, 0, 0, 0, 0, 0, [], []⟩ : CmdD) k1_ok (by decide)
  rwa [k1_enc] at h
theorem k2_does : Does Tryd.prog 11 #[.agg #[.int .i64 ((⟨3, 5, 300, 0, 0, 0, 0, 0, [69, 85, 82], []⟩ : CmdD).k), .int .u64 ((⟨3, 5, 300, 0, 0, 0, 0, 0, [69, 85, 82], []⟩ : CmdD).s), .int .u64 ((⟨3, 5, 300, 0, 0, 0, 0, 0, [69, 85, 82], []⟩ : CmdD).q), .int .u64 ((⟨3, 5, 300, 0, 0, 0, 0, 0, [69, 85, 82], []⟩ : CmdD).a), .int .u64 ((⟨3, 5, 300, 0, 0, 0, 0, 0, [69, 85, 82], []⟩ : CmdD).b), .int .i64 ((⟨3, 5, 300, 0, 0, 0, 0, 0, [69, 85, 82], []⟩ : CmdD).hi), .int .u64 ((⟨3, 5, 300, 0, 0, 0, 0, 0, [69, 85, 82], []⟩ : CmdD).lo), .int .i64 ((⟨3, 5, 300, 0, 0, 0, 0, 0, [69, 85, 82], []⟩ : CmdD).sc), .string (bs ((⟨3, 5, 300, 0, 0, 0, 0, 0, [69, 85, 82], []⟩ : CmdD).x)), .string (bs ((⟨3, 5, 300, 0, 0, 0, 0, 0, [69, 85, 82], []⟩ : CmdD).y))]] [] (fun v : Value => .tuple #[v, .int .i64 0]) (fun v => [Vec 5 1 encB v [3, 5, 172, 2, 69, 85, 82]]) := by
  have h := encode_does (⟨3, 5, 300, 0, 0, 0, 0, 0, [69, 85, 82], []⟩ : CmdD) k2_ok (by decide)
  rwa [k2_enc] at h

set_option maxRecDepth 100000 in
theorem known_true (w : World)  : Calls Tryd.prog 8 #[] w fun e w' => e = .returned (.bool true) ∧ Below w.heap.size w w' := by
  refine d_in (args := []) 38 Tryd.func8 rfl rfl rfl ?_
  refine d_reg ?_
  refine h_q hflS rfl ?_
  refine h_done (d_reg ?_)
  refine h_q hflS rfl ?_
  refine h_val rfl (.agg #[.int .i64 1, .int .u64 5, .int .u64 0, .int .u64 0, .int .u64 0, .int .i64 0, .int .u64 0, .int .i64 0, .string { data := #[] }, .string { data := #[] }]) (fun b w hb hH => exec_build rfl rfl (by kernel_rfl) hb) ?_
  refine h_act (post := fun v1 => [Vec 5 1 encB v1 ([1, 5])]) rfl (a_does (os' := fun v1 => [Vec 5 1 encB v1 ([1, 5])]) [] 0 (ent_of Tryd.func11 (by kernel_rfl) rfl) (k1_does) rfl rfl rfl (fun _ => rfl) rfl rfl rfl) ?_; rintro v1
  refine h_q hflS rfl ?_
  refine h_done (d_reg ?_)
  refine h_q hflS rfl ?_
  refine h_val rfl (.agg #[.int .i64 3, .int .u64 5, .int .u64 300, .int .u64 0, .int .u64 0, .int .i64 0, .int .u64 0, .int .i64 0, .string (bs ([69, 85, 82])), .string { data := #[] }]) (fun b w hb hH => exec_build rfl rfl (by kernel_rfl) hb) ?_
  refine h_act (post := fun v2 => [Vec 5 1 encB v2 ([3, 5, 172, 2, 69, 85, 82]), Vec 5 1 encB v1 ([1, 5])]) rfl (a_does (os' := fun v2 => [Vec 5 1 encB v2 ([3, 5, 172, 2, 69, 85, 82]), Vec 5 1 encB v1 ([1, 5])]) [] 0 (ent_of Tryd.func11 (by kernel_rfl) rfl) (k2_does) rfl rfl rfl (fun _ => rfl) rfl rfl rfl) ?_; rintro v2
  refine h_q hflS rfl ?_
  refine h_done (d_reg ?_)
  refine h_q hflS rfl ?_
  refine h_val rfl (.bool true) (fun b w hb hH => exec_cmp rfl rfl rfl (cmp_eql_t (by decide)) hb) ?_
  refine h_q hflS rfl ?_
  refine h_val rfl (.string (bs ([1, 5]))) (fun b w hb hH => exec_str8 Tryd.underlying33 Tryd.underlying5 (by kernel_rfl) Tryd.underlying9 (hH.sl8 1 rfl) rfl rfl hb) ?_
  refine h_val rfl (.bool true) (fun b w hb hH => exec_same rfl rfl rfl (by decide) hb) ?_
  refine h_q hflS rfl ?_
  refine h_val rfl (.bool true) (fun b w hb hH => exec_cmp rfl rfl rfl (cmp_eql_t (by decide)) hb) ?_
  refine h_q hflS rfl ?_
  refine h_val rfl (.string (bs ([3, 5, 172, 2, 69, 85, 82]))) (fun b w hb hH => exec_str8 Tryd.underlying33 Tryd.underlying5 (by kernel_rfl) Tryd.underlying9 (hH.sl8 0 rfl) rfl rfl hb) ?_
  refine h_val rfl (.bool true) (fun b w hb hH => exec_same rfl rfl rfl (by decide) hb) ?_
  refine h_q hflS rfl ?_
  refine h_act (post := fun _ => [Vec 5 1 encB v2 ([3, 5, 172, 2, 69, 85, 82]), Vec 5 1 encB v1 ([1, 5])]) rfl (a_call (ent_of Tryd.func17 (by kernel_rfl) rfl) (fun w hH => name_any w [69, 85, 82] true (by decide) (by decide)) rfl rfl rfl) ?_; rintro ⟨⟩
  refine h_q hflS rfl ?_
  refine h_act (post := fun _ => [Vec 5 1 encB v2 ([3, 5, 172, 2, 69, 85, 82]), Vec 5 1 encB v1 ([1, 5])]) rfl (a_call (ent_of Tryd.func17 (by kernel_rfl) rfl) (fun w hH => name_any w [101, 117, 114] false (by decide) (by decide)) rfl rfl rfl) ?_; rintro ⟨⟩
  refine h_q hflS rfl ?_
  refine h_done (d_ret ?_)
  exact f_fin1 (.tmp rfl) (fun w h => ⟨rfl, below0 h.up⟩) rfl
end Go.Proofs.YtlkknncndgamdaaDoor.Sep

namespace Go.Proofs.YtlkknncndgamdaaDoor.Sep
open Go.RowKit
open Go.Proofs.YtlkknncndgamdaaDoor.Mem (Dist Blk Chg below0)

theorem eqC_same (c : CmdD) : EqAt Tryd.prog 28 (.agg #[.int .i64 c.k, .int .u64 c.s, .int .u64 c.q, .int .u64 c.a, .int .u64 c.b, .int .i64 c.hi, .int .u64 c.lo, .int .i64 c.sc, .string (bs c.x), .string (bs c.y)]) (.agg #[.int .i64 c.k, .int .u64 c.s, .int .u64 c.q, .int .u64 c.a, .int .u64 c.b, .int .i64 c.hi, .int .u64 c.lo, .int .i64 c.sc, .string (bs c.x), .string (bs c.y)]) true := fun x y w => by
  go_simp

set_option maxRecDepth 100000 in
theorem decodes_true (w : World) (v : Value) (l : List UInt8) (hv : Sl8 w v l) (hl : l.length ≤ 140737488355328) : Calls Tryd.prog 13 #[v] w fun e w' => e = .returned (.bool true) ∧ Below w.heap.size w w' := by
  obtain ⟨c, en, hD⟩ := decoded_any l
  refine d_in (args := [v]) 39 Tryd.func13 rfl rfl rfl ?_
  refine d_reg ?_
  refine h_q hflS rfl ?_
  refine h_done (d_reg ?_)
  refine h_q hflS rfl ?_
  refine h_act (X := Value) (val := fun v : Value => v) (post := fun u1 => [Vec 5 1 encB u1 ([])]) rfl (by refine a_build0 (e := 5) (t := 33) (k := 1) (enc := encB) ?_ ?_; exact sl_uint8; exact rfl) ?_; rintro u1
  refine h_q hflS rfl ?_
  refine h_act (post := fun u2 => [Vec 5 1 encB u2 l]) rfl (a_append8 0 sl_uint8 (by kernel_rfl) rfl (l) (fun w hH => (arg80 hv hH).rd) (by simp; omega) rfl rfl rfl (List.nil_append l)) ?_; rintro u2
  refine h_q hflS rfl ?_
  refine h_done (d_reg ?_)
  refine h_q hflS rfl ?_
  refine h_act (post := fun _ => [Vec 5 1 encB u2 l]) rfl (a_call (ent_of Tryd.func15 (by kernel_rfl) rfl) (fun w hH => decode_any w _ l (hH.sl8 0 rfl) hl c en hD) rfl rfl rfl) ?_; rintro ⟨⟩
  refine h_q hflS rfl ?_
  refine h_act (post := fun g4 => [cell g4 28 #[.int .i64 0, .int .u64 0, .int .u64 0, .int .u64 0, .int .u64 0, .int .i64 0, .int .u64 0, .int .i64 0, .string { data := #[] }, .string { data := #[] }], Vec 5 1 encB u2 l]) rfl (a_alloc ze_api_Cmd rfl) ?_; rintro g4
  refine h_acts (post := fun _ => [cell g4 28 #[.int .i64 c.k, .int .u64 c.s, .int .u64 c.q, .int .u64 c.a, .int .u64 c.b, .int .i64 c.hi, .int .u64 c.lo, .int .i64 c.sc, .string (bs c.x), .string (bs c.y)], Vec 5 1 encB u2 l]) rfl rfl (a_store 0 (v := .agg #[.int .i64 c.k, .int .u64 c.s, .int .u64 c.q, .int .u64 c.a, .int .u64 c.b, .int .i64 c.hi, .int .u64 c.lo, .int .i64 c.sc, .string (bs c.x), .string (bs c.y)]) #[.int .i64 c.k, .int .u64 c.s, .int .u64 c.q, .int .u64 c.a, .int .u64 c.b, .int .i64 c.hi, .int .u64 c.lo, .int .i64 c.sc, .string (bs c.x), .string (bs c.y)] ty_api_Cmd.2 rfl rfl rfl rfl rfl rfl rfl rfl rfl) ?_; rintro ⟨⟩
  refine h_q hflS rfl ?_
  refine h_done (d_reg ?_)
  refine h_q hflS rfl ?_
  refine h_act (post := fun _ => [cell g4 28 #[.int .i64 c.k, .int .u64 c.s, .int .u64 c.q, .int .u64 c.a, .int .u64 c.b, .int .i64 c.hi, .int .u64 c.lo, .int .i64 c.sc, .string (bs c.x), .string (bs c.y)], Vec 5 1 encB u2 l]) rfl (a_call (ent_of Tryd.func35 (by kernel_rfl) rfl) (fun w hH => rdecode_any w _ l (arg80 hv hH) hl c en hD) rfl rfl rfl) ?_; rintro ⟨⟩
  refine h_q hflS rfl ?_
  refine h_act (post := fun g6 => [cell g6 28 #[.int .i64 0, .int .u64 0, .int .u64 0, .int .u64 0, .int .u64 0, .int .i64 0, .int .u64 0, .int .i64 0, .string { data := #[] }, .string { data := #[] }], cell g4 28 #[.int .i64 c.k, .int .u64 c.s, .int .u64 c.q, .int .u64 c.a, .int .u64 c.b, .int .i64 c.hi, .int .u64 c.lo, .int .i64 c.sc, .string (bs c.x), .string (bs c.y)], Vec 5 1 encB u2 l]) rfl (a_alloc ze_api_Cmd rfl) ?_; rintro g6
  refine h_acts (post := fun _ => [cell g6 28 #[.int .i64 c.k, .int .u64 c.s, .int .u64 c.q, .int .u64 c.a, .int .u64 c.b, .int .i64 c.hi, .int .u64 c.lo, .int .i64 c.sc, .string (bs c.x), .string (bs c.y)], cell g4 28 #[.int .i64 c.k, .int .u64 c.s, .int .u64 c.q, .int .u64 c.a, .int .u64 c.b, .int .i64 c.hi, .int .u64 c.lo, .int .i64 c.sc, .string (bs c.x), .string (bs c.y)], Vec 5 1 encB u2 l]) rfl rfl (a_store 0 (v := .agg #[.int .i64 c.k, .int .u64 c.s, .int .u64 c.q, .int .u64 c.a, .int .u64 c.b, .int .i64 c.hi, .int .u64 c.lo, .int .i64 c.sc, .string (bs c.x), .string (bs c.y)]) #[.int .i64 c.k, .int .u64 c.s, .int .u64 c.q, .int .u64 c.a, .int .u64 c.b, .int .i64 c.hi, .int .u64 c.lo, .int .i64 c.sc, .string (bs c.x), .string (bs c.y)] ty_api_Cmd.2 rfl rfl rfl rfl rfl rfl rfl rfl rfl) ?_; rintro ⟨⟩
  refine h_q hflS rfl ?_
  refine h_done (d_reg ?_)
  refine h_q hflS rfl ?_
  refine h_act (post := fun _ => [cell g6 28 #[.int .i64 c.k, .int .u64 c.s, .int .u64 c.q, .int .u64 c.a, .int .u64 c.b, .int .i64 c.hi, .int .u64 c.lo, .int .i64 c.sc, .string (bs c.x), .string (bs c.y)], cell g4 28 #[.int .i64 c.k, .int .u64 c.s, .int .u64 c.q, .int .u64 c.a, .int .u64 c.b, .int .i64 c.hi, .int .u64 c.lo, .int .i64 c.sc, .string (bs c.x), .string (bs c.y)], Vec 5 1 encB u2 l]) rfl (a_call (ent_of Tryd.func8 (by kernel_rfl) rfl) (fun w hH => known_true w) rfl rfl rfl) ?_; rintro ⟨⟩
  refine h_q hflS rfl ?_
  refine h_val rfl (.agg #[.int .i64 c.k, .int .u64 c.s, .int .u64 c.q, .int .u64 c.a, .int .u64 c.b, .int .i64 c.hi, .int .u64 c.lo, .int .i64 c.sc, .string (bs c.x), .string (bs c.y)]) (fun b w hb hH => exec_load rfl rfl (reads_agg (cs := [.int .i64 c.k, .int .u64 c.s, .int .u64 c.q, .int .u64 c.a, .int .u64 c.b, .int .i64 c.hi, .int .u64 c.lo, .int .i64 c.sc, .string (bs c.x), .string (bs c.y)]) ty_api_Cmd rfl) (hH.row 1 rfl) hb) ?_
  refine h_val rfl (.agg #[.int .i64 c.k, .int .u64 c.s, .int .u64 c.q, .int .u64 c.a, .int .u64 c.b, .int .i64 c.hi, .int .u64 c.lo, .int .i64 c.sc, .string (bs c.x), .string (bs c.y)]) (fun b w hb hH => exec_load rfl rfl (reads_agg (cs := [.int .i64 c.k, .int .u64 c.s, .int .u64 c.q, .int .u64 c.a, .int .u64 c.b, .int .i64 c.hi, .int .u64 c.lo, .int .i64 c.sc, .string (bs c.x), .string (bs c.y)]) ty_api_Cmd rfl) (hH.row 0 rfl) hb) ?_
  refine h_val rfl (.bool true) (fun b w hb hH => exec_eqs (eqC_same c) rfl rfl rfl hb) ?_
  refine h_q hflS rfl ?_
  refine h_val rfl (.bool true) (fun b w hb hH => exec_cmp rfl rfl rfl (cmp_eql_t rfl) hb) ?_
  refine h_q hflS rfl ?_
  refine h_val rfl (.string (bs l)) (fun b w hb hH => exec_str8 Tryd.underlying33 Tryd.underlying5 (by kernel_rfl) Tryd.underlying9 (hH.sl8 2 rfl) rfl rfl hb) ?_
  refine h_q hflS rfl ?_
  refine h_val rfl (.string (bs l)) (fun b w hb hH => exec_str8 Tryd.underlying33 Tryd.underlying5 (by kernel_rfl) Tryd.underlying9 (arg80 hv hH) rfl rfl hb) ?_
  refine h_val rfl (.bool true) (fun b w hb hH => exec_same rfl rfl rfl (by simp) hb) ?_
  refine h_q hflS rfl ?_
  refine h_done (d_ret ?_)
  exact f_fin1 (.tmp rfl) (fun w h => ⟨rfl, below0 h.up⟩) rfl

set_option maxRecDepth 100000 in
theorem pick (w : World) (a m : Int) (ha : -9223372036854775808 ≤ a ∧ a ≤ 9223372036854775807) (hm : 1 ≤ m ∧ m ≤ 9223372036854775807) {r : Int} (hr : a % m = r) : Calls Tryd.prog 36 #[.int .i64 a, .int .i64 m] w fun e w' => e = .returned (.int .i64 r) ∧ Below w.heap.size w w' := by
  have hlt := Int.emod_lt_of_pos a (show 0 < m by omega)
  have hge := Int.emod_nonneg a (show m ≠ 0 by omega)
  have ht : (0 ≤ a.tmod m ∧ a.tmod m = r) ∨ (a.tmod m < 0 ∧ a.tmod m + m = r) := by
    rw [Int.tmod_eq_emod, ← hr]
    split
    · left; omega
    · rename_i h
      right
      have hne : a % m ≠ 0 := fun e => h (.inr (Int.dvd_of_emod_eq_zero e))
      omega
  rw [hr] at hlt hge
  obtain ⟨t, htm⟩ : ∃ t, a.tmod m = t := ⟨_, rfl⟩
  rw [htm] at ht
  refine d_in (args := [.int .i64 a, .int .i64 m]) 14 Tryd.func36 rfl rfl rfl ?_
  refine d_reg ?_
  refine h_q hflS rfl ?_
  refine h_done (d_reg ?_)
  refine h_q hflS rfl ?_
  refine h_val rfl (.int .i64 t) (fun b w hb hH => exec_remI rfl rfl rfl (by omega) htm hb) ?_
  refine h_q hflS rfl ?_
  refine h_done (d_seq ?_)
  rcases ht with ⟨h1, h2⟩ | ⟨h1, h2⟩
  · skip
    subst h2
    refine d_reg ?_
    refine h_q hflS rfl ?_
    refine h_val rfl (.bool false) (fun b w hb hH => exec_cmp rfl rfl rfl (cmp_lss_f (by omega)) hb) ?_
    refine h_done (d_else rfl (d_skip (f_to (d_reg ?_))))
    refine h_q hflS rfl ?_
    refine h_done (d_ret ?_)
    exact f_fin1 (.tmp rfl) (fun w h => ⟨rfl, below0 h.up⟩) rfl
  · skip
    refine d_reg ?_
    refine h_q hflS rfl ?_
    refine h_val rfl (.bool true) (fun b w hb hH => exec_cmp rfl rfl rfl (cmp_lss_t (by omega)) hb) ?_
    refine h_done (d_then rfl (d_reg1 ?_))
    refine h_q hflS rfl ?_
    refine h_val rfl (.int .i64 r) (fun b w hb hH => exec_ar rfl rfl rfl rfl (by rw [IntWalk.i64_in _ (by omega)]; omega) hb) ?_
    refine h_q hflS rfl ?_
    refine h_nil (f_to (d_reg ?_))
    refine h_q hflS rfl ?_
    refine h_done (d_ret ?_)
    exact f_fin1 (.tmp rfl) (fun w h => ⟨rfl, below0 h.up⟩) rfl
end Go.Proofs.YtlkknncndgamdaaDoor.Sep
