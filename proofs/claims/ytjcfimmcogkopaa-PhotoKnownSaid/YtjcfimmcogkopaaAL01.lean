/-
  PhK · PhN
-/
import Derived.Test.YtjcfimmcogkopaaAE02
import Derived.Test.YtjcfimmcogkopaaAF01
import Derived.Test.YtjcfimmcogkopaaAK03
set_option linter.unusedSimpArgs false
set_option linter.unusedVariables false

namespace Go.Proofs.Ytjcfimmcogkopaa.Sep
open Go.RowKit
open Go.Proofs.Ytjcfimmcogkopaa.Mem (Dist Blk Chg below0)

/-- a snapshot, and where its data lie -/
structure SnE where
  s : SnV
  A : Option Addr
  cp : Nat
instance : Inhabited SnE := ⟨⟨⟨0, 0, 0, []⟩, none, 0⟩⟩
def SnE.v (x : SnE) : Value := .slice x.A x.s.d.length x.cp
def encSn (x : SnE) : List Value := [.int .u64 x.s.i, .int .u64 x.s.t, .int .i64 x.s.c, .slice x.A x.s.d.length x.cp]
theorem okSn : EncOf 4 encSn := ⟨fun _ => rfl, fun x v h => by unfold encSn at h; simp at h; rcases h with rfl | rfl | rfl | rfl <;> rfl⟩
def sn4 : SnV := ⟨4, 2, 14, [97, 98]⟩
def sn5 : SnV := ⟨5, 2, 14, [99]⟩
def sn1 (i c : Int) : SnV := ⟨i, 1, c, []⟩
theorem sn4_ok : SnOk sn4 := rightP_iff.1 (by decide)
theorem sn5_ok : SnOk sn5 := rightP_iff.1 (by decide)
/-- a snapshot made right -/
def shP (s : SnV) : SnV := ⟨1 + s.i % 900, 1 + s.t % 9, 2 * (1 + s.c % 127), s.d⟩
def cutP (s : SnV) (n : Nat) : SnV := ⟨s.i, s.t, s.c, s.d.take n⟩
theorem shP_ok (s : SnV) (n : Nat) (hn : n ≤ 32768) : SnOk (cutP (shP s) n) := by
  refine ⟨?_, ?_, ?_, ?_, ?_⟩
  · show 1 ≤ 1 + s.i % 900 ∧ 1 + s.i % 900 ≤ _; omega
  · show 1 ≤ 1 + s.t % 9 ∧ 1 + s.t % 9 ≤ _; omega
  · show 1 ≤ 2 * (1 + s.c % 127) ∧ 2 * (1 + s.c % 127) ≤ _; omega
  · show (2 * (1 + s.c % 127)) % 2 = 0; omega
  · show (s.d.take n).length ≤ 32768; rw [List.length_take]; omega
structure SnR (s : SnV) : Prop where
  i : 0 ≤ s.i ∧ s.i ≤ 18446744073709551615
  t : 0 ≤ s.t ∧ s.t ≤ 18446744073709551615
  c : -9223372036854775808 ≤ s.c ∧ s.c ≤ 9223372036854775807
def sameP (y z : SnV) : Bool := (y.i == z.i && (y.t == z.t && y.c == z.c)) && y.d == z.d
theorem sameP_self (y : SnV) : sameP y y = true := by simp [sameP]
theorem sameP_ne {y z : SnV} (h : y ≠ z) : sameP y z = false := by
  cases e : sameP y z with
  | false => rfl
  | true =>
    unfold sameP at e
    simp only [Bool.and_eq_true, beq_iff_eq] at e
    obtain ⟨⟨h1, h2, h3⟩, h4⟩ := e
    cases y; cases z
    simp only at h1 h2 h3 h4
    subst h1; subst h2; subst h3; subst h4
    exact absurd rfl h

set_option maxRecDepth 100000 in
theorem psnap_any (i t c : Int) (l : List UInt8) (hl : l.length ≤ maxLen) : Does Try.prog 9 #[.int .u64 i, .int .u64 t, .int .i64 c, .string (bs l)] [] (fun (x : Nat × Nat) => .agg #[.int .u64 i, .int .u64 t, .int .i64 c, .slice (some ⟨x.1, 0, none⟩) l.length x.2]) (fun (x : Nat × Nat) => [BytP 5 x.1 x.2 l]) := by
  refine d_ins (args := [.int .u64 i, .int .u64 t, .int .i64 c, .string (bs l)]) 16 Try.func9 rfl rfl rfl ?_; intro w rs
  refine d_reg ?_
  refine h_q hflU rfl ?_
  refine h_act (post := fun g8 => [cell g8 31 #[.int .u64 0, .int .u64 0, .int .i64 0, .slice none 0 0]]) rfl (a_alloc ze_api_Snap rfl) ?_; rintro g8
  refine h_done (d_reg ?_)
  refine h_q hflU rfl ?_
  refine h_val rfl (.agg #[.int .u64 i, .int .u64 t, .int .i64 c]) (fun b w hb hH => exec_build rfl rfl (by kernel_rfl) hb) ?_
  refine h_q hflU rfl ?_
  refine h_act rfl (a_tobytesP hl Try.underlying9 Try.underlying29 Try.underlying5 rfl rfl) ?_; rintro ⟨g9, cg9⟩
  refine h_val rfl (.agg #[.int .u64 i, .int .u64 t, .int .i64 c, .slice (some ⟨g9, 0, none⟩) l.length cg9]) (fun b w hb hH => exec_build rfl rfl (by kernel_rfl) hb) ?_
  refine h_acts (post := fun _ => [BytP 5 g9 cg9 l, cell g8 31 #[.int .u64 i, .int .u64 t, .int .i64 c, .slice (some ⟨g9, 0, none⟩) l.length cg9]]) rfl rfl (a_store 1 (v := .agg #[.int .u64 i, .int .u64 t, .int .i64 c, .slice (some ⟨g9, 0, none⟩) l.length cg9]) #[.int .u64 i, .int .u64 t, .int .i64 c, .slice (some ⟨g9, 0, none⟩) l.length cg9] ty_api_Snap.2 rfl rfl rfl rfl rfl rfl rfl rfl rfl) ?_; rintro ⟨⟩
  refine h_done (d_ret ?_)
  exact f_fin1 (.cell 1 (v := .agg #[.int .u64 i, .int .u64 t, .int .i64 c, .slice (some ⟨g9, 0, none⟩) l.length cg9]) (reads_agg (cs := [.int .u64 i, .int .u64 t, .int .i64 c, .slice (some ⟨g9, 0, none⟩) l.length cg9]) ty_api_Snap rfl) rfl rfl) (fun w h => tells (g9, cg9) rfl [0] rfl h same_parts) rfl

theorem psnap_s {s : SnV} {i t c : Int} {l : List UInt8} (h : s = ⟨i, t, c, l⟩ ∧ l.length ≤ 9223372036854775807) : Does Try.prog 9 #[.int .u64 i, .int .u64 t, .int .i64 c, .string (bs l)] [] (fun x : Nat × Nat => .agg #[.int .u64 s.i, .int .u64 s.t, .int .i64 s.c, .slice (some ⟨x.1, 0, none⟩) s.d.length x.2]) (fun x => [BytP 5 x.1 x.2 s.d]) := by
  obtain ⟨rfl, h2⟩ := h
  exact psnap_any i t c l h2

set_option maxRecDepth 100000 in
theorem psame_any (w : World) {y z : SnV} {Ay Az : Option Addr} {cy cz : Nat} (hy : Sl8 w (.slice Ay y.d.length cy) y.d) (hz : Sl8 w (.slice Az z.d.length cz) z.d) (r : Bool) (hr : sameP y z = r) : Calls Try.prog 15 #[.agg #[.int .u64 y.i, .int .u64 y.t, .int .i64 y.c, .slice Ay y.d.length cy], .agg #[.int .u64 z.i, .int .u64 z.t, .int .i64 z.c, .slice Az z.d.length cz]] w fun e w' => e = .returned (.bool r) ∧ Below w.heap.size w w' := by
  refine d_in (args := [.agg #[.int .u64 y.i, .int .u64 y.t, .int .i64 y.c, .slice Ay y.d.length cy], .agg #[.int .u64 z.i, .int .u64 z.t, .int .i64 z.c, .slice Az z.d.length cz]]) 19 Try.func15 rfl rfl rfl ?_
  unfold sameP at hr
  refine d_reg ?_
  refine h_q hflU rfl ?_
  refine h_act (post := fun g2 => [cell g2 31 #[.int .u64 y.i, .int .u64 y.t, .int .i64 y.c, .slice Ay y.d.length cy]]) rfl (a_box (cs := #[.int .u64 y.i, .int .u64 y.t, .int .i64 y.c, .slice Ay y.d.length cy]) rfl rfl rfl) ?_; rintro g2
  refine h_act (post := fun g3 => [cell g3 31 #[.int .u64 z.i, .int .u64 z.t, .int .i64 z.c, .slice Az z.d.length cz], cell g2 31 #[.int .u64 y.i, .int .u64 y.t, .int .i64 y.c, .slice Ay y.d.length cy]]) rfl (a_box (cs := #[.int .u64 z.i, .int .u64 z.t, .int .i64 z.c, .slice Az z.d.length cz]) rfl rfl rfl) ?_; rintro g3
  refine h_q hflU rfl ?_
  refine h_done ?_
  rcases h1 : (y.i == z.i && (y.t == z.t && y.c == z.c)) with _ | _
  · skip
    obtain rfl : r = false := by rw [← hr, h1]; rfl
    refine d_reg ?_
    refine h_q hflU rfl ?_
    refine h_val rfl (.agg #[.int .u64 y.i, .int .u64 y.t, .int .i64 y.c]) (fun b w hb hH => exec_load rfl rfl (reads_agg (cs := [.int .u64 y.i, .int .u64 y.t, .int .i64 y.c, .slice Ay y.d.length cy]) ty_api_Base rfl) (hH.row 1 rfl) hb) ?_
    refine h_q hflU rfl ?_
    refine h_val rfl (.agg #[.int .u64 z.i, .int .u64 z.t, .int .i64 z.c]) (fun b w hb hH => exec_load rfl rfl (reads_agg (cs := [.int .u64 z.i, .int .u64 z.t, .int .i64 z.c, .slice Az z.d.length cz]) ty_api_Base rfl) (hH.row 0 rfl) hb) ?_
    refine h_val rfl (.bool false) (fun b w hb hH => exec_eqs (eqBaseP _ _ _ _ _ _ false h1) rfl rfl rfl hb) ?_
    refine h_q hflU rfl ?_
    refine h_done (d_ret ?_)
    exact f_fin1 (.tmp rfl) (fun w h => ⟨rfl, below0 h.up⟩) rfl
  · skip
    refine d_reg ?_
    refine h_q hflU rfl ?_
    refine h_val rfl (.agg #[.int .u64 y.i, .int .u64 y.t, .int .i64 y.c]) (fun b w hb hH => exec_load rfl rfl (reads_agg (cs := [.int .u64 y.i, .int .u64 y.t, .int .i64 y.c, .slice Ay y.d.length cy]) ty_api_Base rfl) (hH.row 1 rfl) hb) ?_
    refine h_q hflU rfl ?_
    refine h_val rfl (.agg #[.int .u64 z.i, .int .u64 z.t, .int .i64 z.c]) (fun b w hb hH => exec_load rfl rfl (reads_agg (cs := [.int .u64 z.i, .int .u64 z.t, .int .i64 z.c, .slice Az z.d.length cz]) ty_api_Base rfl) (hH.row 0 rfl) hb) ?_
    refine h_val rfl (.bool true) (fun b w hb hH => exec_eqs (eqBaseP _ _ _ _ _ _ true h1) rfl rfl rfl hb) ?_
    refine h_q hflU rfl ?_
    refine h_val rfl (.slice Ay y.d.length cy) (fun b w hb hH => exec_load rfl rfl (reads_one ty_s_uint8 rfl) (hH.row 1 rfl) hb) ?_
    refine h_val rfl (.string (bs y.d)) (fun b w hb hH => exec_str8 Try.underlying29 Try.underlying5 (by kernel_rfl) Try.underlying9 ((hy.below (below0 hH.up))) rfl rfl hb) ?_
    refine h_q hflU rfl ?_
    refine h_val rfl (.slice Az z.d.length cz) (fun b w hb hH => exec_load rfl rfl (reads_one ty_s_uint8 rfl) (hH.row 0 rfl) hb) ?_
    refine h_val rfl (.string (bs z.d)) (fun b w hb hH => exec_str8 Try.underlying29 Try.underlying5 (by kernel_rfl) Try.underlying9 ((hz.below (below0 hH.up))) rfl rfl hb) ?_
    refine h_val rfl (.bool r) (fun b w hb hH => exec_same rfl rfl rfl (by rw [← hr, h1]; rfl) hb) ?_
    refine h_q hflU rfl ?_
    refine h_done (d_ret ?_)
    exact f_fin1 (.tmp rfl) (fun w h => ⟨rfl, below0 h.up⟩) rfl

/-- a snapshot's value, and its data -/
def SnT (v : Value) (s : SnV) : Ass := fun rs => ∃ A c, v = .agg #[.int .u64 s.i, .int .u64 s.t, .int .i64 s.c, .slice A s.d.length c] ∧ RdB (.slice A s.d.length c) s.d rs
def SnAt (w : World) (v : Value) (s : SnV) : Prop := ∃ A c, v = .agg #[.int .u64 s.i, .int .u64 s.t, .int .i64 s.c, .slice A s.d.length c] ∧ Sl8 w (.slice A s.d.length c) s.d
theorem Hp.snT {B : Nat → Prop} {w0 w : World} {os : List Ass} {v : Value} {s : SnV} (h : Hp B w0 w os) (i : Nat) (hi : os[i]? = some (SnT v s)) : SnAt w v s := by
  obtain ⟨rs, ⟨A, c, h1, h2⟩, h3⟩ := h.thing i hi
  exact ⟨A, c, h1, rdB_rd8 rs w h2 h3⟩
theorem psnap_t {s : SnV} {i t c : Int} {l : List UInt8} (h : s = ⟨i, t, c, l⟩ ∧ l.length ≤ 9223372036854775807) : Does Try.prog 9 #[.int .u64 i, .int .u64 t, .int .i64 c, .string (bs l)] [] (fun v : Value => v) (fun v => [SnT v s]) := fun w rs h1 h2 h3 => by
  refine (psnap_s h w rs h1 h2 h3).mono ?_
  rintro e w' ⟨⟨g, k⟩, he, rs', hp, hch⟩
  exact ⟨_, he, rs', Parts.one ⟨_, _, rfl, rdB_of bytP_rd8 _ hp⟩, hch⟩
theorem psame_t (w : World) {y z : SnV} {Ay : Option Addr} {cy : Nat} {v : Value} (hy : Sl8 w (.slice Ay y.d.length cy) y.d) (hz : SnAt w v z) (r : Bool) (hr : sameP y z = r) : Calls Try.prog 15 #[.agg #[.int .u64 y.i, .int .u64 y.t, .int .i64 y.c, .slice Ay y.d.length cy], v] w fun e w' => e = .returned (.bool r) ∧ Below w.heap.size w w' := by
  obtain ⟨A, c, rfl, h⟩ := hz
  exact psame_any w hy h r hr

set_option maxRecDepth 100000 in
theorem pknown_true (w : World)  : Calls Try.prog 7 #[] w fun e w' => e = .returned (.bool true) ∧ Below w.heap.size w w' := by
  refine d_in (args := []) 72 Try.func7 rfl rfl rfl ?_
  obtain ⟨d1, d2, d3, k1, f1, k2, f2, k3, f3, k4, r4, f5, r5, d4, k5⟩ := knp sn4_ok sn5_ok
  obtain ⟨d0, hd0⟩ : ∃ d0, newD 1048576 = d0 := ⟨_, rfl⟩
  have f0 : d0.fitK 9 := by rw [← hd0]; exact new_fitP (by decide)
  rw [hd0] at k1
  obtain ⟨dc, hdc⟩ : ∃ dc, crashD d3 1 0 = dc := ⟨_, rfl⟩
  rw [hdc] at f5 r5 k5
  obtain ⟨kk, hkk⟩ : ∃ k, keepD d3 1 = k := ⟨_, rfl⟩
  obtain ⟨sa, hsa⟩ : ∃ sa, sn4 = sa := ⟨_, rfl⟩
  obtain ⟨sb, hsb⟩ : ∃ sb, sn5 = sb := ⟨_, rfl⟩
  have hka := sn4_ok
  have hkb := sn5_ok
  have ha4 : sa = ⟨4, 2, 14, [97, 98]⟩ ∧ [97, 98].length ≤ 9223372036854775807 := ⟨hsa.symm, by decide⟩
  have hb5 : sb = ⟨5, 2, 14, [99]⟩ ∧ [99].length ≤ 9223372036854775807 := ⟨hsb.symm, by decide⟩
  rw [hsa] at k1 k5 hka
  rw [hsb] at k3 k4 hkb
  refine d_reg ?_
  refine h_q hflU rfl ?_
  refine h_done (d_reg ?_)
  refine h_q hflU rfl ?_
  refine h_act (post := fun p => [DiskT p d0]) rfl (a_does (os' := fun p => [DiskT p d0]) [] 0 (ent_of Try.func5 (by kernel_rfl) rfl) ((hd0 ▸ disk_new 1048576 (by decide))) rfl rfl rfl (fun _ => rfl) rfl rfl rfl) ?_; rintro p
  refine h_q hflU rfl ?_
  refine h_done (d_seq (d_reg ?_))
  refine h_q hflU rfl ?_
  refine h_val rfl (.bool false) (fun b w hb hH => exec_cmp rfl rfl rfl (cmp_neq_f (by decide)) hb) ?_
  refine h_q hflU rfl ?_
  refine h_val rfl (.bool false) (fun b w hb hH => exec_pnil_eql (by kernel_rfl) rfl rfl rfl hb) ?_
  refine h_q hflU rfl ?_
  refine h_act rfl (a_does  [] 0 (ent_of Try.func9 (by kernel_rfl) rfl) (psnap_s ha4) rfl rfl rfl (fun _ => rfl) rfl rfl rfl) ?_; rintro ⟨g1, kc1⟩
  refine h_act (post := fun _ => [BytP 5 g1 kc1 sa.d, DiskT p d1]) rfl (a_does (os' := fun _ => [BytP 5 g1 kc1 sa.d, DiskT p d1]) [1, 0] 0 (ent_of Try.func8 (by kernel_rfl) rfl) (psave_does hka (fitK_monoP f0 (by decide)) bytP_rd8 k1) rfl rfl rfl (fun _ => rfl) rfl rfl rfl) ?_; rintro ⟨⟩
  refine h_val rfl (.bool false) (fun b w hb hH => exec_cmp rfl rfl rfl (cmp_neq_f (by decide)) hb) ?_
  refine h_q hflU rfl ?_
  refine h_act (post := fun _ => [BytP 5 g1 kc1 sa.d, DiskT p d2]) rfl (a_does (os' := fun _ => [BytP 5 g1 kc1 sa.d, DiskT p d2]) [1] 0 (ent_of Try.func12 (by kernel_rfl) rfl) (disk_sync f1 k2) rfl rfl rfl (fun _ => rfl) rfl rfl rfl) ?_; rintro ⟨⟩
  refine h_val rfl (.bool false) (fun b w hb hH => exec_cmp rfl rfl rfl (cmp_neq_f (by decide)) hb) ?_
  refine h_q hflU rfl ?_
  refine h_act rfl (a_does  [] 0 (ent_of Try.func9 (by kernel_rfl) rfl) (psnap_s hb5) rfl rfl rfl (fun _ => rfl) rfl rfl rfl) ?_; rintro ⟨g2, kc2⟩
  refine h_act (post := fun _ => [BytP 5 g2 kc2 sb.d, BytP 5 g1 kc1 sa.d, DiskT p d3]) rfl (a_does (os' := fun _ => [BytP 5 g2 kc2 sb.d, BytP 5 g1 kc1 sa.d, DiskT p d3]) [2, 0] 0 (ent_of Try.func8 (by kernel_rfl) rfl) (psave_does hkb (fitK_monoP f2 (by decide)) bytP_rd8 k3) rfl rfl rfl (fun _ => rfl) rfl rfl rfl) ?_; rintro ⟨⟩
  refine h_val rfl (.bool false) (fun b w hb hH => exec_cmp rfl rfl rfl (cmp_neq_f (by decide)) hb) ?_
  refine h_q hflU rfl ?_
  refine h_done (d_else rfl (d_skip (f_to (d_reg ?_))))
  refine h_q hflU rfl ?_
  refine h_act rfl (a_does  [2] 0 (ent_of Try.func6 (by kernel_rfl) rfl) (popen_some (fitK_monoP f3 (by decide)) r4 k4) rfl rfl rfl (fun _ => rfl) rfl rfl rfl) ?_; rintro ⟨A6, c6⟩
  refine h_q hflU rfl ?_
  refine h_act (post := fun g3_ => [cell g3_ 31 #[.int .u64 0, .int .u64 0, .int .i64 0, .slice none 0 0], Vec 5 1 encB (.slice A6 sb.d.length c6) sb.d, BytP 5 g2 kc2 sb.d, BytP 5 g1 kc1 sa.d, DiskT p d3]) rfl (a_alloc ze_api_Snap rfl) ?_; rintro g3_
  refine h_acts (post := fun _ => [cell g3_ 31 #[.int .u64 sb.i, .int .u64 sb.t, .int .i64 sb.c, .slice A6 sb.d.length c6], Vec 5 1 encB (.slice A6 sb.d.length c6) sb.d, BytP 5 g2 kc2 sb.d, BytP 5 g1 kc1 sa.d, DiskT p d3]) rfl rfl (a_store 0 (v := .agg #[.int .u64 sb.i, .int .u64 sb.t, .int .i64 sb.c, .slice A6 sb.d.length c6]) #[.int .u64 sb.i, .int .u64 sb.t, .int .i64 sb.c, .slice A6 sb.d.length c6] ty_api_Snap.2 rfl rfl rfl rfl rfl rfl rfl rfl rfl) ?_; rintro ⟨⟩
  refine h_q hflU rfl ?_
  refine h_done (d_reg ?_)
  refine h_q hflU rfl ?_
  refine h_act (post := fun _ => [cell g3_ 31 #[.int .u64 sb.i, .int .u64 sb.t, .int .i64 sb.c, .slice A6 sb.d.length c6], Vec 5 1 encB (.slice A6 sb.d.length c6) sb.d, BytP 5 g2 kc2 sb.d, BytP 5 g1 kc1 sa.d, DiskT p dc]) rfl (a_does (os' := fun _ => [cell g3_ 31 #[.int .u64 sb.i, .int .u64 sb.t, .int .i64 sb.c, .slice A6 sb.d.length c6], Vec 5 1 encB (.slice A6 sb.d.length c6) sb.d, BytP 5 g2 kc2 sb.d, BytP 5 g1 kc1 sa.d, DiskT p dc]) [4] 0 (ent_of Try.func14 (by kernel_rfl) rfl) (disk_crash f3.fit (by decide) (by decide) hkk hdc) rfl rfl rfl (fun _ => rfl) rfl rfl rfl) ?_; rintro ⟨⟩
  refine h_done (d_reg ?_)
  refine h_q hflU rfl ?_
  refine h_act rfl (a_does  [4] 0 (ent_of Try.func6 (by kernel_rfl) rfl) (popen_some (fitK_monoP f5 (by decide)) r5 k5) rfl rfl rfl (fun _ => rfl) rfl rfl rfl) ?_; rintro ⟨A7, c7⟩
  refine h_q hflU rfl ?_
  refine h_act (post := fun g6_ => [cell g6_ 31 #[.int .u64 0, .int .u64 0, .int .i64 0, .slice none 0 0], Vec 5 1 encB (.slice A7 sa.d.length c7) sa.d, cell g3_ 31 #[.int .u64 sb.i, .int .u64 sb.t, .int .i64 sb.c, .slice A6 sb.d.length c6], Vec 5 1 encB (.slice A6 sb.d.length c6) sb.d, BytP 5 g2 kc2 sb.d, BytP 5 g1 kc1 sa.d, DiskT p d4]) rfl (a_alloc ze_api_Snap rfl) ?_; rintro g6_
  refine h_acts (post := fun _ => [cell g6_ 31 #[.int .u64 sa.i, .int .u64 sa.t, .int .i64 sa.c, .slice A7 sa.d.length c7], Vec 5 1 encB (.slice A7 sa.d.length c7) sa.d, cell g3_ 31 #[.int .u64 sb.i, .int .u64 sb.t, .int .i64 sb.c, .slice A6 sb.d.length c6], Vec 5 1 encB (.slice A6 sb.d.length c6) sb.d, BytP 5 g2 kc2 sb.d, BytP 5 g1 kc1 sa.d, DiskT p d4]) rfl rfl (a_store 0 (v := .agg #[.int .u64 sa.i, .int .u64 sa.t, .int .i64 sa.c, .slice A7 sa.d.length c7]) #[.int .u64 sa.i, .int .u64 sa.t, .int .i64 sa.c, .slice A7 sa.d.length c7] ty_api_Snap.2 rfl rfl rfl rfl rfl rfl rfl rfl rfl) ?_; rintro ⟨⟩
  refine h_q hflU rfl ?_
  refine h_done ?_
  refine WC2.keep (env' := [(0, .bool false), (3, .pointer (some ⟨g3_, 0, none⟩)), (4, .bool true), (5, .int .i64 0), (6, .pointer (some ⟨g6_, 0, none⟩)), (7, .bool true), (8, .int .i64 0)]) ⟨rfl, rfl, rfl, rfl, rfl, rfl, rfl, trivial⟩ ?_
  refine d_seq ?_
  refine d_emps 2 rfl ?_
  refine d_parS 22 4 [⟨.quiet, [none, none, none, none], fun _ => .int .i64 0, []⟩, ⟨.quiet, [none, none, none, none], fun _ => .bool true, [0]⟩, ⟨.quiet, [none, none, none, none], fun _ => .bool true, [1]⟩, ⟨.quiet, [none, none, none, none], fun _ => .bool true, [2]⟩, ⟨.quiet, [none, none, none, none], fun _ => .bool true, [2, 3]⟩, ⟨.quiet, [none, none, none, none], fun _ => .bool true, [4]⟩, ⟨.quiet, [none, none, none, none], fun _ => .agg #[.int .u64 sb.i, .int .u64 sb.t, .int .i64 sb.c, .slice A6 sb.d.length c6], [5]⟩, ⟨.act 0, [some false, some false, some false, some false], fun _ => undef, [5]⟩, ⟨.actv 1, [some true, some false, some false, some false], fun _ => .bool true, [6, 7, 5]⟩, ⟨.quiet, [some true, some true, none, none], fun _ => .bool true, [5, 8]⟩, ⟨.quiet, [some true, some true, none, none], fun _ => .bool true, [9]⟩, ⟨.quiet, [some true, some true, none, none], fun _ => .int .i64 0, [10]⟩, ⟨.quiet, [some true, some true, none, none], fun _ => .bool true, [11, 10]⟩, ⟨.quiet, [some true, some true, none, none], fun _ => .bool true, [10, 12]⟩, ⟨.quiet, [some true, some true, none, none], fun _ => .bool true, [13]⟩, ⟨.quiet, [some true, some true, none, none], fun _ => .bool true, [14]⟩, ⟨.quiet, [some true, some true, none, none], fun _ => .bool true, [14, 15]⟩, ⟨.quiet, [some true, some true, none, none], fun _ => .bool true, [16]⟩, ⟨.quiet, [some true, some true, none, none], fun _ => .agg #[.int .u64 sa.i, .int .u64 sa.t, .int .i64 sa.c, .slice A7 sa.d.length c7], [17]⟩, ⟨.act 2, [some true, some true, some false, some false], fun _ => undef, [17]⟩, ⟨.actv 3, [some true, some true, some true, some false], fun _ => .bool true, [18, 19, 17]⟩, ⟨.quiet, [some true, some true, some true, some true], fun _ => .bool true, [17, 20]⟩] [(0, .bool false), (3, .pointer (some ⟨g3_, 0, none⟩)), (4, .bool true), (5, .int .i64 0), (6, .pointer (some ⟨g6_, 0, none⟩)), (7, .bool true), (8, .int .i64 0)] (fun ρ => match ρ with | [rq0, rq1, rq2, rq3] => [selS rq2 (fun sv4 => SnT sv4 sa) (emp), selS rq0 (fun sv3 => SnT sv3 sb) (emp), cell g6_ 31 #[.int .u64 sa.i, .int .u64 sa.t, .int .i64 sa.c, .slice A7 sa.d.length c7], Vec 5 1 encB (.slice A7 sa.d.length c7) sa.d, cell g3_ 31 #[.int .u64 sb.i, .int .u64 sb.t, .int .i64 sb.c, .slice A6 sb.d.length c6], Vec 5 1 encB (.slice A6 sb.d.length c6) sb.d, BytP 5 g2 kc2 sb.d, BytP 5 g1 kc1 sa.d, DiskT p d4] | _ => []) (by kernel_rfl) (by kernel_rfl) ⟨rfl, rfl, rfl, rfl, rfl, rfl, rfl, trivial⟩ rfl ?_ ?_
  · skip
    refine s_cons (by intro r0_ r1_ r2_ r3_; exact ⟨rfl, fun b w hH hb => exec_q1 hflU rfl hb⟩) ?_
    refine s_cons (by intro r0_ r1_ r2_ r3_; exact ⟨rfl, fun b w hH hb => exec_cmp rfl rfl rfl (cmp_eql_t (by decide)) hb⟩) ?_
    refine s_cons (by intro r0_ r1_ r2_ r3_; exact ⟨rfl, fun b w hH hb => exec_q1 hflU rfl hb⟩) ?_
    refine s_cons (by intro r0_ r1_ r2_ r3_; exact ⟨rfl, fun b w hH hb => exec_q1 hflU rfl hb⟩) ?_
    refine s_cons (by intro r0_ r1_ r2_ r3_; exact ⟨rfl, fun b w hH hb => exec_q1 hflU rfl hb⟩) ?_
    refine s_cons (by intro r0_ r1_ r2_ r3_; exact ⟨rfl, fun b w hH hb => exec_q1 hflU rfl hb⟩) ?_
    refine s_cons (by intro r0_ r1_ r2_ r3_; exact ⟨rfl, fun b w hH hb => exec_load rfl rfl (reads_agg (cs := [.int .u64 sb.i, .int .u64 sb.t, .int .i64 sb.c, .slice A6 sb.d.length c6]) ty_api_Snap rfl) (hH.row 4 rfl) hb⟩) ?_
    refine s_cons (by exact ⟨rfl, Acts.s (a_does (os' := fun sv3 => [emp, SnT sv3 sb, cell g6_ 31 #[.int .u64 sa.i, .int .u64 sa.t, .int .i64 sa.c, .slice A7 sa.d.length c7], Vec 5 1 encB (.slice A7 sa.d.length c7) sa.d, cell g3_ 31 #[.int .u64 sb.i, .int .u64 sb.t, .int .i64 sb.c, .slice A6 sb.d.length c6], Vec 5 1 encB (.slice A6 sb.d.length c6) sb.d, BytP 5 g2 kc2 sb.d, BytP 5 g1 kc1 sa.d, DiskT p d4]) [1] 1 (ent_of Try.func9 (by kernel_rfl) rfl) (psnap_t hb5) rfl rfl rfl (fun _ => rfl) rfl rfl rfl) (fun _ => rfl)⟩) ?_
    refine s_cons (by intro sv3; exact ⟨rfl, Acts.su (a_call (ent_of Try.func15 (by kernel_rfl) rfl) (fun w hH => psame_t w (hH.sl8 5 rfl) (hH.snT 1 rfl) true (sameP_self _)) rfl rfl rfl) rfl⟩) ?_
    refine s_cons (by intro sv3 v1_ r2_ r3_; exact ⟨rfl, fun b w hH hb => exec_q1 hflU rfl hb⟩) ?_
    refine s_cons (by intro sv3 v1_ r2_ r3_; exact ⟨rfl, fun b w hH hb => exec_q1 hflU rfl hb⟩) ?_
    refine s_cons (by intro sv3 v1_ r2_ r3_; exact ⟨rfl, fun b w hH hb => exec_q1 hflU rfl hb⟩) ?_
    refine s_cons (by intro sv3 v1_ r2_ r3_; exact ⟨rfl, fun b w hH hb => exec_cmp rfl rfl rfl (cmp_eql_t (by decide)) hb⟩) ?_
    refine s_cons (by intro sv3 v1_ r2_ r3_; exact ⟨rfl, fun b w hH hb => exec_q1 hflU rfl hb⟩) ?_
    refine s_cons (by intro sv3 v1_ r2_ r3_; exact ⟨rfl, fun b w hH hb => exec_q1 hflU rfl hb⟩) ?_
    refine s_cons (by intro sv3 v1_ r2_ r3_; exact ⟨rfl, fun b w hH hb => exec_q1 hflU rfl hb⟩) ?_
    refine s_cons (by intro sv3 v1_ r2_ r3_; exact ⟨rfl, fun b w hH hb => exec_q1 hflU rfl hb⟩) ?_
    refine s_cons (by intro sv3 v1_ r2_ r3_; exact ⟨rfl, fun b w hH hb => exec_q1 hflU rfl hb⟩) ?_
    refine s_cons (by intro sv3 v1_ r2_ r3_; exact ⟨rfl, fun b w hH hb => exec_load rfl rfl (reads_agg (cs := [.int .u64 sa.i, .int .u64 sa.t, .int .i64 sa.c, .slice A7 sa.d.length c7]) ty_api_Snap rfl) (hH.row 2 rfl) hb⟩) ?_
    refine s_cons (by intro sv3 v1_; exact ⟨rfl, Acts.s (a_does (os' := fun sv4 => [SnT sv4 sa, SnT sv3 sb, cell g6_ 31 #[.int .u64 sa.i, .int .u64 sa.t, .int .i64 sa.c, .slice A7 sa.d.length c7], Vec 5 1 encB (.slice A7 sa.d.length c7) sa.d, cell g3_ 31 #[.int .u64 sb.i, .int .u64 sb.t, .int .i64 sb.c, .slice A6 sb.d.length c6], Vec 5 1 encB (.slice A6 sb.d.length c6) sb.d, BytP 5 g2 kc2 sb.d, BytP 5 g1 kc1 sa.d, DiskT p d4]) [0] 1 (ent_of Try.func9 (by kernel_rfl) rfl) (psnap_t ha4) rfl rfl rfl (fun _ => rfl) rfl rfl rfl) (fun _ => rfl)⟩) ?_
    refine s_cons (by intro sv3 v1_ sv4; exact ⟨rfl, Acts.su (a_call (ent_of Try.func15 (by kernel_rfl) rfl) (fun w hH => psame_t w (hH.sl8 3 rfl) (hH.snT 0 rfl) true (sameP_self _)) rfl rfl rfl) rfl⟩) ?_
    refine s_cons (by intro sv3 v1_ sv4 v3_; exact ⟨rfl, fun b w hH hb => exec_q1 hflU rfl hb⟩) ?_
    exact s_nil
  intro sv3 v1_ sv4 v3_
  refine WL2.keep (env' := [(0, .bool false), (71, .bool true)]) ⟨rfl, rfl, trivial⟩ ?_
  refine h_q hflU rfl ?_
  refine h_nil (f_to (d_ret ?_))
  exact f_fin1 (.tmp rfl) (fun w h => ⟨rfl, below0 h.up⟩) rfl
end Go.Proofs.Ytjcfimmcogkopaa.Sep

namespace Go.Proofs.Ytjcfimmcogkopaa.Sep
open Go.RowKit
open Go.Proofs.Ytjcfimmcogkopaa.Mem (Dist Blk Chg below0)

set_option maxRecDepth 100000 in
theorem photoknown_true (w : World)  : Calls Try.prog 3 #[] w fun e w' => e = .returned (.bool true) ∧ Below w.heap.size w w' := by
  refine d_in (args := []) 57 Try.func3 rfl rfl rfl ?_
  have hs0 : PS (newD 1048576) none := ps_new rfl
  obtain ⟨s1, hs1⟩ : ∃ s, s = (sn1 1 2) := ⟨_, rfl⟩
  have ht1 : s1 = ⟨1, 1, 2, []⟩ ∧ ([] : List UInt8).length ≤ 9223372036854775807 := ⟨hs1, by decide⟩
  obtain ⟨s2, hs2⟩ : ∃ s, s = (sn1 1 3) := ⟨_, rfl⟩
  have ht2 : s2 = ⟨1, 1, 3, []⟩ ∧ ([] : List UInt8).length ≤ 9223372036854775807 := ⟨hs2, by decide⟩
  obtain ⟨s3, hs3⟩ : ∃ s, s = (sn1 1 2) := ⟨_, rfl⟩
  have ht3 : s3 = ⟨1, 1, 2, []⟩ ∧ ([] : List UInt8).length ≤ 9223372036854775807 := ⟨hs3, by decide⟩
  obtain ⟨s4, hs4⟩ : ∃ s, s = (sn1 0 2) := ⟨_, rfl⟩
  have ht4 : s4 = ⟨0, 1, 2, []⟩ ∧ ([] : List UInt8).length ≤ 9223372036854775807 := ⟨hs4, by decide⟩
  have q2 : rightP s2 = false := by rw [hs2]; decide
  have q3 : rightP s3 = true := by rw [hs3]; decide
  have q4 : rightP s4 = false := by rw [hs4]; decide
  refine d_reg ?_
  refine h_q hflU rfl ?_
  refine h_done (d_reg ?_)
  refine h_q hflU rfl ?_
  refine h_act (post := fun p => [DiskT p (newD 1048576)]) rfl (a_does (os' := fun p => [DiskT p (newD 1048576)]) [] 0 (ent_of Try.func5 (by kernel_rfl) rfl) (disk_new 1048576 (by decide)) rfl rfl rfl (fun _ => rfl) rfl rfl rfl) ?_; rintro p
  refine h_q hflU rfl ?_
  refine h_done (d_reg ?_)
  refine h_q hflU rfl ?_
  refine h_act (post := fun _ => [DiskT p (newD 1048576)]) rfl (a_does (os' := fun _ => [DiskT p (newD 1048576)]) [0] 0 (ent_of Try.func6 (by kernel_rfl) rfl) (popen_none (new_fitP (by decide)) (fun b hb => ps_readP hs0 hb) hs0.open_) rfl rfl rfl (fun _ => rfl) rfl rfl rfl) ?_; rintro ⟨⟩
  refine h_q hflU rfl ?_
  refine h_act (post := fun g3_ => [cell g3_ 31 #[.int .u64 0, .int .u64 0, .int .i64 0, .slice none 0 0], DiskT p (newD 1048576)]) rfl (a_alloc ze_api_Snap rfl) ?_; rintro g3_
  refine h_acts (post := fun _ => [cell g3_ 31 #[.int .u64 0, .int .u64 0, .int .i64 0, .slice none 0 0], DiskT p (newD 1048576)]) rfl rfl (a_store 0 (v := .agg #[.int .u64 0, .int .u64 0, .int .i64 0, .slice none 0 0]) #[.int .u64 0, .int .u64 0, .int .i64 0, .slice none 0 0] ty_api_Snap.2 rfl rfl rfl rfl rfl rfl rfl rfl rfl) ?_; rintro ⟨⟩
  refine h_q hflU rfl ?_
  refine h_done (d_reg ?_)
  refine h_q hflU rfl ?_
  refine h_act (post := fun _ => [cell g3_ 31 #[.int .u64 0, .int .u64 0, .int .i64 0, .slice none 0 0], DiskT p (newD 1048576)]) rfl (a_call (ent_of Try.func6 (by kernel_rfl) rfl) (fun w hH => popen_nil w) rfl rfl rfl) ?_; rintro ⟨⟩
  refine h_q hflU rfl ?_
  refine h_act (post := fun g6_ => [cell g6_ 31 #[.int .u64 0, .int .u64 0, .int .i64 0, .slice none 0 0], cell g3_ 31 #[.int .u64 0, .int .u64 0, .int .i64 0, .slice none 0 0], DiskT p (newD 1048576)]) rfl (a_alloc ze_api_Snap rfl) ?_; rintro g6_
  refine h_acts (post := fun _ => [cell g6_ 31 #[.int .u64 0, .int .u64 0, .int .i64 0, .slice none 0 0], cell g3_ 31 #[.int .u64 0, .int .u64 0, .int .i64 0, .slice none 0 0], DiskT p (newD 1048576)]) rfl rfl (a_store 0 (v := .agg #[.int .u64 0, .int .u64 0, .int .i64 0, .slice none 0 0]) #[.int .u64 0, .int .u64 0, .int .i64 0, .slice none 0 0] ty_api_Snap.2 rfl rfl rfl rfl rfl rfl rfl rfl rfl) ?_; rintro ⟨⟩
  refine h_q hflU rfl ?_
  refine h_done (d_reg ?_)
  refine h_q hflU rfl ?_
  refine h_act (post := fun _ => [cell g6_ 31 #[.int .u64 0, .int .u64 0, .int .i64 0, .slice none 0 0], cell g3_ 31 #[.int .u64 0, .int .u64 0, .int .i64 0, .slice none 0 0], DiskT p (newD 1048576)]) rfl (a_call (ent_of Try.func7 (by kernel_rfl) rfl) (fun w hH => pknown_true w) rfl rfl rfl) ?_; rintro ⟨⟩
  refine h_q hflU rfl ?_
  refine h_val rfl (.bool true) (fun b w hb hH => exec_cmp rfl rfl rfl (cmp_eql_t (by decide)) hb) ?_
  refine h_q hflU rfl ?_
  refine h_val rfl (.bool true) (fun b w hb hH => exec_cmp rfl rfl rfl (cmp_eql_t (by decide)) hb) ?_
  refine h_q hflU rfl ?_
  refine h_act rfl (a_does  [] 0 (ent_of Try.func9 (by kernel_rfl) rfl) (psnap_s ht1) rfl rfl rfl (fun _ => rfl) rfl rfl rfl) ?_; rintro ⟨g1, kc1⟩
  refine h_act (post := fun _ => [BytP 5 g1 kc1 s1.d, cell g6_ 31 #[.int .u64 0, .int .u64 0, .int .i64 0, .slice none 0 0], cell g3_ 31 #[.int .u64 0, .int .u64 0, .int .i64 0, .slice none 0 0], DiskT p (newD 1048576)]) rfl (a_call (ent_of Try.func8 (by kernel_rfl) rfl) (fun w hH => psave_nil w) rfl rfl rfl) ?_; rintro ⟨⟩
  refine h_val rfl (.bool true) (fun b w hb hH => exec_cmp rfl rfl rfl (cmp_eql_t (by decide)) hb) ?_
  refine h_q hflU rfl ?_
  refine h_act rfl (a_does  [] 0 (ent_of Try.func9 (by kernel_rfl) rfl) (psnap_s ht2) rfl rfl rfl (fun _ => rfl) rfl rfl rfl) ?_; rintro ⟨g2, kc2⟩
  refine h_act (post := fun _ => [BytP 5 g2 kc2 s2.d, BytP 5 g1 kc1 s1.d, cell g6_ 31 #[.int .u64 0, .int .u64 0, .int .i64 0, .slice none 0 0], cell g3_ 31 #[.int .u64 0, .int .u64 0, .int .i64 0, .slice none 0 0], DiskT p (newD 1048576)]) rfl (a_call (ent_of Try.func8 (by kernel_rfl) rfl) (fun w hH => psave_bad w q2) rfl rfl rfl) ?_; rintro ⟨⟩
  refine h_val rfl (.bool true) (fun b w hb hH => exec_cmp rfl rfl rfl (cmp_eql_t (by decide)) hb) ?_
  refine h_q hflU rfl ?_
  refine h_act rfl (a_does  [] 0 (ent_of Try.func9 (by kernel_rfl) rfl) (psnap_s ht3) rfl rfl rfl (fun _ => rfl) rfl rfl rfl) ?_; rintro ⟨g3, kc3⟩
  refine h_act (post := fun _ => [BytP 5 g3 kc3 s3.d, BytP 5 g2 kc2 s2.d, BytP 5 g1 kc1 s1.d, cell g6_ 31 #[.int .u64 0, .int .u64 0, .int .i64 0, .slice none 0 0], cell g3_ 31 #[.int .u64 0, .int .u64 0, .int .i64 0, .slice none 0 0], DiskT p (newD 1048576)]) rfl (a_call (ent_of Try.func10 (by kernel_rfl) rfl) (fun w hH => pright_ok w true q3) rfl rfl rfl) ?_; rintro ⟨⟩
  refine h_q hflU rfl ?_
  refine h_act rfl (a_does  [] 0 (ent_of Try.func9 (by kernel_rfl) rfl) (psnap_s ht4) rfl rfl rfl (fun _ => rfl) rfl rfl rfl) ?_; rintro ⟨g4, kc4⟩
  refine h_act (post := fun _ => [BytP 5 g4 kc4 s4.d, BytP 5 g3 kc3 s3.d, BytP 5 g2 kc2 s2.d, BytP 5 g1 kc1 s1.d, cell g6_ 31 #[.int .u64 0, .int .u64 0, .int .i64 0, .slice none 0 0], cell g3_ 31 #[.int .u64 0, .int .u64 0, .int .i64 0, .slice none 0 0], DiskT p (newD 1048576)]) rfl (a_call (ent_of Try.func10 (by kernel_rfl) rfl) (fun w hH => pright_ok w false q4) rfl rfl rfl) ?_; rintro ⟨⟩
  refine h_q hflU rfl ?_
  refine h_done ?_
  refine WC2.keep (env' := [(0, .bool true)]) ⟨rfl, trivial⟩ ?_
  refine d_ret ?_
  exact f_fin1 (.tmp rfl) (fun w h => ⟨rfl, below0 h.up⟩) rfl
end Go.Proofs.Ytjcfimmcogkopaa.Sep
