/-
  SgU · SgV
-/
import Derived.Test.YtaipejaeeohpkaaGreatDoorUL01
import Derived.Scope
set_option linter.unusedSimpArgs false
set_option linter.unusedVariables false
set_option maxRecDepth 100000
namespace Go.Proofs.YtaipejaeeohpkaaGreatDoor.Sep
open Go.RowKit
open Go.Proofs.YtaipejaeeohpkaaGreatDoor.Mem (Dist Blk Chg below0)
theorem mks_rd {w0 w : World} {B : Nat → Prop} {os : List Ass} {svs : List SegV} {j : Nat} {x : SegV} (i : Nat) (hi : os[i]? = some (MksE svs)) (hj : svs[j]? = some x) (hH : Hp B w0 w os) : SlRd w 2 (.slice x.A x.l.length x.c) x.l.length (flat encMk x.l) := by
 obtain ⟨ys, h1, h2⟩ := hH.each i hi hj
 exact h1.all okMk h2
theorem segs_last {svs : List SegV} {ss : SegsM} {f : Nat} {l : List (Int × Nat)} (h : svs.map SegV.m = ss ++ [(f, l)]) : ∃ x, svs[ss.length]? = some x ∧ x.f = f ∧ x.l = l ∧ svs.length = ss.length + 1 := by
  have h1 := congrArg (·[ss.length]?) h
  simp only [List.getElem?_map] at h1
  rw [List.getElem?_append_right (Nat.le_refl _), Nat.sub_self] at h1
  have h2 := congrArg List.length h
  rw [List.length_map, List.length_append] at h2
  cases hx : svs[ss.length]? with
  | none => rw [hx] at h1; simp at h1
  | some x =>
    rw [hx] at h1
    simp [SegV.m] at h1
    exact ⟨x, rfl, h1.1, h1.2, h2⟩
theorem follows_0 (w : World) {kp kx zp zx pt pi xt xi : Int} {Ap Ax : Option Addr} {np cp nx cx : Nat} (h : pi = 0) : Calls Tryz.prog 45 #[.agg #[.int .i64 kp, .int .u64 pt, .int .u64 pi, .slice Ap np cp, .int .i64 zp], .agg #[.int .i64 kx, .int .u64 xt, .int .u64 xi, .slice Ax nx cx, .int .i64 zx]] w fun e w' => e = .returned (.bool true) ∧ Below w.heap.size w w' := by
 refine d_in (args := [.agg #[.int .i64 kp, .int .u64 pt, .int .u64 pi, .slice Ap np cp, .int .i64 zp], .agg #[.int .i64 kx, .int .u64 xt, .int .u64 xi, .slice Ax nx cx, .int .i64 zx]]) 23 Tryz.func45 rfl rfl rfl ?_
 refine d_reg ?_
 refine h_q hflT rfl ?_
 refine h_act (post := fun g1 => [cell g1 34 #[.int .i64 kp, .int .u64 pt, .int .u64 pi, .slice Ap np cp, .int .i64 zp]]) rfl (a_box (cs := #[.int .i64 kp, .int .u64 pt, .int .u64 pi, .slice Ap np cp, .int .i64 zp]) rfl rfl rfl) ?_; rintro g1
 refine h_act (post := fun g2 => [cell g2 34 #[.int .i64 kx, .int .u64 xt, .int .u64 xi, .slice Ax nx cx, .int .i64 zx], cell g1 34 #[.int .i64 kp, .int .u64 pt, .int .u64 pi, .slice Ap np cp, .int .i64 zp]]) rfl (a_box (cs := #[.int .i64 kx, .int .u64 xt, .int .u64 xi, .slice Ax nx cx, .int .i64 zx]) rfl rfl rfl) ?_; rintro g2
 refine h_q hflT rfl ?_
 refine h_done (d_reg ?_)
 refine h_q hflT rfl ?_
 refine h_val rfl (.int .u64 pi) (fun b w hb hH => xLd rfl rfl (rOn ty_uint64 rfl) (hH.row 1 rfl) hb) ?_
 refine h_val rfl (.bool true) (fun b w hb hH => xCm rfl rfl rfl (cEt (by omega)) hb) ?_
 refine h_q hflT rfl ?_
 refine h_done (d_ret ?_)
 exact f_fin1 (.tmp rfl) (fun w h => ⟨rfl, below0 h.up⟩) rfl
theorem follows_t (w : World) {kp kx zp zx pt pi xt xi : Int} {Ap Ax : Option Addr} {np cp nx cx : Nat} (h0 : pi ≠ 0) (h1 : xi = pi + 1) (h2 : pt ≤ xt) (h3 : 0 ≤ pi ∧ pi ≤ 72057594037927935) : Calls Tryz.prog 45 #[.agg #[.int .i64 kp, .int .u64 pt, .int .u64 pi, .slice Ap np cp, .int .i64 zp], .agg #[.int .i64 kx, .int .u64 xt, .int .u64 xi, .slice Ax nx cx, .int .i64 zx]] w fun e w' => e = .returned (.bool true) ∧ Below w.heap.size w w' := by
 refine d_in (args := [.agg #[.int .i64 kp, .int .u64 pt, .int .u64 pi, .slice Ap np cp, .int .i64 zp], .agg #[.int .i64 kx, .int .u64 xt, .int .u64 xi, .slice Ax nx cx, .int .i64 zx]]) 23 Tryz.func45 rfl rfl rfl ?_
 refine d_reg ?_
 refine h_q hflT rfl ?_
 refine h_act (post := fun g1 => [cell g1 34 #[.int .i64 kp, .int .u64 pt, .int .u64 pi, .slice Ap np cp, .int .i64 zp]]) rfl (a_box (cs := #[.int .i64 kp, .int .u64 pt, .int .u64 pi, .slice Ap np cp, .int .i64 zp]) rfl rfl rfl) ?_; rintro g1
 refine h_act (post := fun g2 => [cell g2 34 #[.int .i64 kx, .int .u64 xt, .int .u64 xi, .slice Ax nx cx, .int .i64 zx], cell g1 34 #[.int .i64 kp, .int .u64 pt, .int .u64 pi, .slice Ap np cp, .int .i64 zp]]) rfl (a_box (cs := #[.int .i64 kx, .int .u64 xt, .int .u64 xi, .slice Ax nx cx, .int .i64 zx]) rfl rfl rfl) ?_; rintro g2
 refine h_q hflT rfl ?_
 refine h_done (d_reg ?_)
 refine h_q hflT rfl ?_
 refine h_val rfl (.int .u64 pi) (fun b w hb hH => xLd rfl rfl (rOn ty_uint64 rfl) (hH.row 1 rfl) hb) ?_
 refine h_val rfl (.bool false) (fun b w hb hH => xCm rfl rfl rfl (cEf (by omega)) hb) ?_
 refine h_q hflT rfl ?_
 refine h_val rfl (.int .u64 xi) (fun b w hb hH => xLd rfl rfl (rOn ty_uint64 rfl) (hH.row 0 rfl) hb) ?_
 refine h_q hflT rfl ?_
 refine h_val rfl (.int .u64 pi) (fun b w hb hH => xLd rfl rfl (rOn ty_uint64 rfl) (hH.row 1 rfl) hb) ?_
 refine h_val rfl (.int .u64 (pi + 1)) (fun b w hb hH => exec_ar rfl rfl rfl rfl (IntWalk.u64_in _ (by omega)) hb) ?_
 refine h_val rfl (.bool true) (fun b w hb hH => xCm rfl rfl rfl (cEt (by omega)) hb) ?_
 refine h_q hflT rfl ?_
 refine h_val rfl (.int .u64 xt) (fun b w hb hH => xLd rfl rfl (rOn ty_uint64 rfl) (hH.row 0 rfl) hb) ?_
 refine h_q hflT rfl ?_
 refine h_val rfl (.int .u64 pt) (fun b w hb hH => xLd rfl rfl (rOn ty_uint64 rfl) (hH.row 1 rfl) hb) ?_
 refine h_val rfl (.bool true) (fun b w hb hH => xCm rfl rfl rfl (cmp_geq_t (by omega)) hb) ?_
 refine h_q hflT rfl ?_
 refine h_done (d_ret ?_)
 exact f_fin1 (.tmp rfl) (fun w h => ⟨rfl, below0 h.up⟩) rfl
theorem follows_y (w : World) {kp kx zp zx pt pi xt xi : Int} {Ap Ax : Option Addr} {np cp nx cx : Nat} (h : pi = 0 ∨ (pi ≠ 0 ∧ xi = pi + 1 ∧ pt ≤ xt)) (h3 : 0 ≤ pi ∧ pi ≤ 72057594037927935) : Calls Tryz.prog 45 #[.agg #[.int .i64 kp, .int .u64 pt, .int .u64 pi, .slice Ap np cp, .int .i64 zp], .agg #[.int .i64 kx, .int .u64 xt, .int .u64 xi, .slice Ax nx cx, .int .i64 zx]] w fun e w' => e = .returned (.bool true) ∧ Below w.heap.size w w' := by
  rcases h with h0 | ⟨h0, h1, h2⟩
  · exact follows_0 w h0
  · exact follows_t w h0 h1 h2 h3
theorem size_c (w : World) {x : SegV} {m : Int × Nat} (hu : SlRd w 2 (.slice x.A x.l.length x.c) x.l.length (flat encMk x.l)) (hm : x.l[x.l.length - 1]? = some m) (h0 : 0 < x.l.length) (hl : x.l.length ≤ 1000000) : Calls Tryz.prog 93 #[.agg #[.int .u64 (x.f : Int), .slice x.A x.l.length x.c]] w fun e w' => e = .returned (.int .i64 (m.2 : Int)) ∧ Below w.heap.size w w' := by
 refine d_in (args := [.agg #[.int .u64 (x.f : Int), .slice x.A x.l.length x.c]]) 12 Tryz.func93 rfl rfl rfl ?_
 refine d_reg ?_
 refine h_q hflT rfl ?_
 refine h_act (post := fun g1 => [cell g1 92 #[.int .u64 (x.f : Int), .slice x.A x.l.length x.c]]) rfl (a_box (cs := #[.int .u64 (x.f : Int), .slice x.A x.l.length x.c]) rfl rfl rfl) ?_; rintro g1
 refine h_q hflT rfl ?_
 refine h_done (d_reg ?_)
 refine h_q hflT rfl ?_
 refine h_val rfl (.slice x.A x.l.length x.c) (fun b w hb hH => xLd rfl rfl (rOn ty_s_seg_mark rfl) (hH.row 0 rfl) hb) ?_
 refine h_q hflT rfl ?_
 refine h_val rfl (.slice x.A x.l.length x.c) (fun b w hb hH => xLd rfl rfl (rOn ty_s_seg_mark rfl) (hH.row 0 rfl) hb) ?_
 refine h_val rfl (.int .i64 (x.l.length : Int)) (fun b w hb hH => e_slen ((arg_rd hu hH)) Tryz.underlying90 rfl rfl hb) ?_
 refine h_val rfl (.int .i64 ((x.l.length - 1 : Nat) : Int)) (fun b w hb hH => exec_ar rfl rfl rfl rfl (by rw [IntWalk.i64_in _ (by omega)]; omega) hb) ?_
 refine h_val rfl (elp (.slice x.A x.l.length x.c) ((x.l.length - 1) * 2)) (fun b w hb hH => e_sidx okMk ((arg_rd hu hH)) sl_seg_mark (j := (x.l.length - 1)) hm rfl rfl rfl hb) ?_
 refine h_val rfl (elp (.slice x.A x.l.length x.c) ((x.l.length - 1) * 2 + 1)) (fun b w hb hH => eSf okMk (by decide) ((arg_rd hu hH)) (j := (x.l.length - 1)) hm fd_seg_mark_1 rfl rfl hb) ?_
 refine h_val rfl (.int .i64 (m.2 : Int)) (fun b w hb hH => e_sload okMk (by decide) ((arg_rd hu hH)) (j := (x.l.length - 1)) hm ty_int (off := 1) rfl rfl rfl hb) ?_
 refine h_q hflT rfl ?_
 refine h_done (d_ret ?_)
 exact f_fin1 (.tmp rfl) (fun w h => ⟨rfl, below0 h.up⟩) rfl
theorem last_c (w : World) {x : SegV} (h0 : 0 < x.l.length) (hl : x.l.length ≤ 1000000) (hf : x.f ≤ 72057594037927935) (hu : SlRd w 2 (.slice x.A x.l.length x.c) x.l.length (flat encMk x.l)) : Calls Tryz.prog 52 #[.agg #[.int .u64 (x.f : Int), .slice x.A x.l.length x.c]] w fun e w' => e = .returned (.int .u64 ((x.f + x.l.length - 1 : Nat) : Int)) ∧ Below w.heap.size w w' := by
 refine d_in (args := [.agg #[.int .u64 (x.f : Int), .slice x.A x.l.length x.c]]) 11 Tryz.func52 rfl rfl rfl ?_
 refine d_reg ?_
 refine h_q hflT rfl ?_
 refine h_act (post := fun g1 => [cell g1 92 #[.int .u64 (x.f : Int), .slice x.A x.l.length x.c]]) rfl (a_box (cs := #[.int .u64 (x.f : Int), .slice x.A x.l.length x.c]) rfl rfl rfl) ?_; rintro g1
 refine h_q hflT rfl ?_
 refine h_done (d_reg ?_)
 refine h_q hflT rfl ?_
 refine h_val rfl (.int .u64 (x.f : Int)) (fun b w hb hH => xLd rfl rfl (rOn ty_uint64 rfl) (hH.row 0 rfl) hb) ?_
 refine h_q hflT rfl ?_
 refine h_val rfl (.slice x.A x.l.length x.c) (fun b w hb hH => xLd rfl rfl (rOn ty_s_seg_mark rfl) (hH.row 0 rfl) hb) ?_
 refine h_val rfl (.int .i64 (x.l.length : Int)) (fun b w hb hH => e_slen ((arg_rd hu hH)) Tryz.underlying90 rfl rfl hb) ?_
 refine h_val rfl (.int .u64 (x.l.length : Int)) (fun b w hb hH => exec_conv Tryz.underlying3 Tryz.underlying31 (IntWalk.u64_in _ (by omega)) rfl rfl hb) ?_
 refine h_val rfl (.int .u64 ((x.f + x.l.length : Nat) : Int)) (fun b w hb hH => exec_ar rfl rfl rfl rfl (by rw [IntWalk.u64_in _ (by omega)]; omega) hb) ?_
 refine h_val rfl (.int .u64 ((x.f + x.l.length - 1 : Nat) : Int)) (fun b w hb hH => exec_ar rfl rfl rfl rfl (by rw [IntWalk.u64_in _ (by omega)]; omega) hb) ?_
 refine h_q hflT rfl ?_
 refine h_done (d_ret ?_)
 exact f_fin1 (.tmp rfl) (fun w h => ⟨rfl, below0 h.up⟩) rfl
theorem tail_does {p dk lim n : Nat} {sv : Value} {svs : List SegV} (hn : svs.length = n + 1) (hl : n ≤ 1000000) : Does Tryz.prog 49 #[.pointer (some ⟨p, 0, none⟩)] [cell p 87 #[.pointer (some ⟨dk, 0, none⟩), .int .i64 (lim : Int), sv], Vec 92 2 encSg sv svs] (fun (_ : Unit) => elp sv (n * 2)) (fun (_ : Unit) => [cell p 87 #[.pointer (some ⟨dk, 0, none⟩), .int .i64 (lim : Int), sv], Vec 92 2 encSg sv svs]) := by
  refine d_ins (args := [.pointer (some ⟨p, 0, none⟩)]) 14 Tryz.func49 rfl rfl rfl ?_; intro w rs
  refine d_reg ?_
  refine h_q hflT rfl ?_
  refine h_done (d_seq ?_)
  refine d_parS 11 0 [⟨.quiet, [], fun _ => .pointer (some ⟨p, 0, none⟩), []⟩, ⟨.quiet, [], fun _ => .pointer (some ⟨p, 0, none⟩), [0]⟩, ⟨.quiet, [], fun _ => .pointer (some ⟨p, 2, none⟩), [1]⟩, ⟨.quiet, [], fun _ => sv, [2]⟩, ⟨.quiet, [], fun _ => .pointer (some ⟨p, 0, none⟩), []⟩, ⟨.quiet, [], fun _ => .pointer (some ⟨p, 0, none⟩), [4]⟩, ⟨.quiet, [], fun _ => .pointer (some ⟨p, 2, none⟩), [5]⟩, ⟨.quiet, [], fun _ => sv, [6]⟩, ⟨.quiet, [], fun _ => .int .i64 ((n + 1 : Nat) : Int), [7]⟩, ⟨.quiet, [], fun _ => .int .i64 (n : Int), [8]⟩, ⟨.quiet, [], fun _ => elp sv (n * 2), [3, 9]⟩] [(0, .pointer (some ⟨p, 0, none⟩)), (2, .pointer none)] (fun _ => [cell p 87 #[.pointer (some ⟨dk, 0, none⟩), .int .i64 (lim : Int), sv], Vec 92 2 encSg sv svs]) (by kernel_rfl) (by kernel_rfl) ⟨rfl, rfl, trivial⟩ rfl ?_ ?_
  · skip
    refine s_cons (by exact ⟨rfl, fun b w hH hb => exec_q1 hflT rfl hb⟩) ?_
    refine s_cons (by exact ⟨rfl, fun b w hH hb => by exact xNc rfl rfl hb⟩) ?_
    refine s_cons (by exact ⟨rfl, fun b w hH hb => exec_q1 hflT rfl hb⟩) ?_
    refine s_cons (by exact ⟨rfl, fun b w hH hb => xLd rfl rfl (rOn tySs rfl) (hH.row 0 rfl) hb⟩) ?_
    refine s_cons (by exact ⟨rfl, fun b w hH hb => exec_q1 hflT rfl hb⟩) ?_
    refine s_cons (by exact ⟨rfl, fun b w hH hb => by exact xNc rfl rfl hb⟩) ?_
    refine s_cons (by exact ⟨rfl, fun b w hH hb => exec_q1 hflT rfl hb⟩) ?_
    refine s_cons (by exact ⟨rfl, fun b w hH hb => xLd rfl rfl (rOn tySs rfl) (hH.row 0 rfl) hb⟩) ?_
    refine s_cons (by exact ⟨rfl, fun b w hH hb => e_vlenN 1 hn Tryz.underlying85 rfl rfl rfl hH hb⟩) ?_
    refine s_cons (by exact ⟨rfl, fun b w hH hb => exec_ar rfl rfl rfl rfl (by rw [IntWalk.i64_in _ (by omega)]; omega) hb⟩) ?_
    refine s_cons (by exact ⟨rfl, fun b w hH hb => e_vidx 1 sl_seg_segment okSg rfl n (by omega) rfl rfl rfl hH hb⟩) ?_
    exact s_nil
  refine WL2.keep (env' := [(2, .pointer none), (13, elp sv (n * 2))]) ⟨rfl, rfl, trivial⟩ ?_
  refine h_q hflT rfl ?_
  refine h_nil (f_to (d_ret ?_))
  exact f_fin1 (.tmp rfl) (fun w h => tells () rfl [0, 1] rfl h sPr) rfl
theorem last_does {p dk lim : Nat} {ss : SegsM} {f : Nat} {l : List (Int × Nat)} (hl : ss.length ≤ 1000000) (hl2 : l.length ≤ 1000000) (hf : f ≤ 72057594037927935) (h0 : l ≠ []) : Does Tryz.prog 17 #[.pointer (some ⟨p, 0, none⟩)] [LogT p dk lim (ss ++ [(f, l)])] (fun (_ : Unit) => .int .u64 ((f + l.length - 1 : Nat) : Int)) (fun (_ : Unit) => [LogT p dk lim (ss ++ [(f, l)])]) := by
 refine d_ins (args := [.pointer (some ⟨p, 0, none⟩)]) 14 Tryz.func17 rfl rfl rfl ?_; intro w rs
 refine d_open 0 rfl LogT.open_ (fun _ => rfl) ?_; rintro ⟨sv, svs⟩
 refine WC2.fact 3 rfl (fun _ h => h.2) ?_; rintro hm
 refine WC2.leave [3] rfl rfl ?_
 replace hm : svs.map SegV.m = ss ++ [(f, l)] := hm
 obtain ⟨x, hx, rfl, rfl, hn⟩ := segs_last hm
 have hl0 : 0 < x.l.length := List.length_pos_iff.2 h0
 refine d_reg ?_
 refine h_q hflT rfl ?_
 refine h_done (d_seq (d_reg ?_))
 refine h_q hflT rfl ?_
 refine h_val rfl (.pointer (some ⟨p, 0, none⟩)) (fun b w hb hH => by exact xNc rfl rfl hb) ?_
 refine h_q hflT rfl ?_
 refine h_val rfl (sv) (fun b w hb hH => xLd rfl rfl (rOn tySs rfl) (hH.row 0 rfl) hb) ?_
 refine h_val rfl (.int .i64 ((ss.length + 1 : Nat) : Int)) (fun b w hb hH => e_vlenN 1 hn Tryz.underlying85 rfl rfl rfl hH hb) ?_
 refine h_val rfl (.bool false) (fun b w hb hH => xCm rfl rfl rfl (cEf (by omega)) hb) ?_
 refine h_done (d_else rfl (d_skip (f_to (d_reg ?_))))
 refine h_q hflT rfl ?_
 refine h_act (post := fun _ => [cell p 87 #[.pointer (some ⟨dk, 0, none⟩), .int .i64 (lim : Int), sv], Vec 92 2 encSg sv svs, MksE svs]) rfl (a_does (os' := fun _ => [cell p 87 #[.pointer (some ⟨dk, 0, none⟩), .int .i64 (lim : Int), sv], Vec 92 2 encSg sv svs, MksE svs]) [0, 1] 0 (ent_of Tryz.func49 (by kernel_rfl) rfl) (tail_does hn (by omega)) rfl rfl rfl (fun _ => rfl) rfl rfl rfl) ?_; rintro ⟨⟩
 refine h_val rfl (elp sv (ss.length * 2)) (fun b w hb hH => e_vnil 1 rfl (j := ss.length) (List.getElem?_eq_some_iff.1 hx).1 rfl rfl hH hb) ?_
 refine h_val rfl (.agg (encSg x).toArray) (fun b w hb hH => e_sagg okSg (by decide) (hH.vec 1 rfl okSg) (j := ss.length) hx ty_seg_segment rfl rfl hb) ?_
 refine h_act (post := fun _ => [cell p 87 #[.pointer (some ⟨dk, 0, none⟩), .int .i64 (lim : Int), sv], Vec 92 2 encSg sv svs, MksE svs]) rfl (a_call (ent_of Tryz.func52 (by kernel_rfl) rfl) (fun w hH => last_c w hl0 hl2 hf (mks_rd 2 rfl hx hH)) rfl rfl rfl) ?_; rintro ⟨⟩
 refine h_q hflT rfl ?_
 refine h_done (d_ret ?_)
 exact f_fin1 (.tmp rfl) (fun w h => tells () rfl [0, 1, 2] rfl h (fun z hz => by obtain ⟨z2, p2, h2⟩ := (Parts.perm (List.Perm.refl _) hz); exact ⟨z2, p2, Parts.one (logT_mk hm z2 h2)⟩)) rfl
theorem end_does {p dk lim : Nat} {ss : SegsM} {f : Nat} {l : List (Int × Nat)} (hl : ss.length ≤ 1000000) (hl2 : l.length ≤ 1000000) (hf : f ≤ 72057594037927935) (h0 : l ≠ []) {m : Int × Nat} (hm1 : l[l.length - 1]? = some m) : Does Tryz.prog 43 #[.pointer (some ⟨p, 0, none⟩)] [LogT p dk lim (ss ++ [(f, l)])] (fun (_ : Unit) => .agg #[.int .i64 0, .int .u64 m.1, .int .u64 ((f + l.length - 1 : Nat) : Int), .slice none 0 0, .int .i64 0]) (fun (_ : Unit) => [LogT p dk lim (ss ++ [(f, l)])]) := by
  refine d_ins (args := [.pointer (some ⟨p, 0, none⟩)]) 31 Tryz.func43 rfl rfl rfl ?_; intro w rs
  refine d_open 0 rfl LogT.open_ (fun _ => rfl) ?_; rintro ⟨sv, svs⟩
  refine WC2.fact 3 rfl (fun _ h => h.2) ?_; rintro hm
  refine WC2.leave [3] rfl rfl ?_
  replace hm : svs.map SegV.m = ss ++ [(f, l)] := hm
  obtain ⟨x, hx, rfl, rfl, hn⟩ := segs_last hm
  have hl0 : 0 < x.l.length := List.length_pos_iff.2 h0
  refine d_reg ?_
  refine h_q hflT rfl ?_
  refine h_act (post := fun g => [cell g 34 #[.int .i64 0, .int .u64 0, .int .u64 0, .slice none 0 0, .int .i64 0], cell p 87 #[.pointer (some ⟨dk, 0, none⟩), .int .i64 (lim : Int), sv], Vec 92 2 encSg sv svs, MksE svs]) rfl (a_alloc ze_api_Entry rfl) ?_; rintro g
  refine h_done (d_seq (d_reg ?_))
  refine h_q hflT rfl ?_
  refine h_val rfl (.pointer (some ⟨p, 0, none⟩)) (fun b w hb hH => by exact xNc rfl rfl hb) ?_
  refine h_q hflT rfl ?_
  refine h_val rfl (sv) (fun b w hb hH => xLd rfl rfl (rOn tySs rfl) (hH.row 1 rfl) hb) ?_
  refine h_val rfl (.int .i64 ((ss.length + 1 : Nat) : Int)) (fun b w hb hH => e_vlenN 2 hn Tryz.underlying85 rfl rfl rfl hH hb) ?_
  refine h_val rfl (.bool false) (fun b w hb hH => xCm rfl rfl rfl (cEf (by omega)) hb) ?_
  refine h_done (d_else rfl (d_skip (f_to (d_reg ?_))))
  refine h_q hflT rfl ?_
  refine h_act (post := fun _ => [cell g 34 #[.int .i64 0, .int .u64 0, .int .u64 0, .slice none 0 0, .int .i64 0], cell p 87 #[.pointer (some ⟨dk, 0, none⟩), .int .i64 (lim : Int), sv], Vec 92 2 encSg sv svs, MksE svs]) rfl (a_does (os' := fun _ => [cell g 34 #[.int .i64 0, .int .u64 0, .int .u64 0, .slice none 0 0, .int .i64 0], cell p 87 #[.pointer (some ⟨dk, 0, none⟩), .int .i64 (lim : Int), sv], Vec 92 2 encSg sv svs, MksE svs]) [1, 2] 0 (ent_of Tryz.func49 (by kernel_rfl) rfl) (tail_does hn (by omega)) rfl rfl rfl (fun _ => rfl) rfl rfl rfl) ?_; rintro ⟨⟩
  refine h_q hflT rfl ?_
  refine h_done (d_seq ?_)
  refine d_parS 18 1 [⟨.quiet, [none], fun _ => elp sv (ss.length * 2), []⟩, ⟨.quiet, [none], fun _ => elp sv (ss.length * 2), [0]⟩, ⟨.quiet, [none], fun _ => .agg (encSg x).toArray, [1]⟩, ⟨.actv 0, [some false], fun _ => .int .u64 ((x.f + x.l.length - 1 : Nat) : Int), [2]⟩, ⟨.quiet, [none], fun _ => elp sv (ss.length * 2), []⟩, ⟨.quiet, [none], fun _ => elp sv (ss.length * 2), [4]⟩, ⟨.quiet, [none], fun _ => elp sv (ss.length * 2 + 1), [5]⟩, ⟨.quiet, [none], fun _ => .slice x.A x.l.length x.c, [6]⟩, ⟨.quiet, [none], fun _ => elp sv (ss.length * 2), []⟩, ⟨.quiet, [none], fun _ => elp sv (ss.length * 2), [8]⟩, ⟨.quiet, [none], fun _ => elp sv (ss.length * 2 + 1), [9]⟩, ⟨.quiet, [none], fun _ => .slice x.A x.l.length x.c, [10]⟩, ⟨.quiet, [none], fun _ => .int .i64 (x.l.length : Int), [11]⟩, ⟨.quiet, [none], fun _ => .int .i64 ((x.l.length - 1 : Nat) : Int), [12]⟩, ⟨.quiet, [none], fun _ => elp (.slice x.A x.l.length x.c) ((x.l.length - 1) * 2), [7, 13]⟩, ⟨.quiet, [none], fun _ => elp (.slice x.A x.l.length x.c) ((x.l.length - 1) * 2 + 0), [14]⟩, ⟨.quiet, [none], fun _ => .int .u64 m.1, [15]⟩, ⟨.quiet, [some true], fun _ => .agg #[.int .i64 0, .int .u64 m.1, .int .u64 ((x.f + x.l.length - 1 : Nat) : Int), .slice none 0 0, .int .i64 0], [3, 16]⟩] [(2, .pointer (some ⟨g, 0, none⟩)), (3, elp sv (ss.length * 2))] (fun ρ => match ρ with | [r0] => [cell g 34 #[.int .i64 0, .int .u64 0, .int .u64 0, .slice none 0 0, .int .i64 0], cell p 87 #[.pointer (some ⟨dk, 0, none⟩), .int .i64 (lim : Int), sv], Vec 92 2 encSg sv svs, MksE svs] | _ => []) (by kernel_rfl) (by kernel_rfl) ⟨rfl, rfl, trivial⟩ rfl ?_ ?_
  · skip
    refine s_cons (by intro r0_; exact ⟨rfl, fun b w hH hb => exec_q1 hflT rfl hb⟩) ?_
    refine s_cons (by intro r0_; exact ⟨rfl, fun b w hH hb => e_vnil 2 rfl (j := ss.length) (List.getElem?_eq_some_iff.1 hx).1 rfl rfl hH hb⟩) ?_
    refine s_cons (by intro r0_; exact ⟨rfl, fun b w hH hb => e_sagg okSg (by decide) (hH.vec 2 rfl okSg) (j := ss.length) hx ty_seg_segment rfl rfl hb⟩) ?_
    refine s_cons (by exact ⟨rfl, Acts.su (a_call (ent_of Tryz.func52 (by kernel_rfl) rfl) (fun w hH => last_c w hl0 hl2 hf (mks_rd 3 rfl hx hH)) rfl rfl rfl) rfl⟩) ?_
    refine s_cons (by intro r0_; exact ⟨rfl, fun b w hH hb => exec_q1 hflT rfl hb⟩) ?_
    refine s_cons (by intro r0_; exact ⟨rfl, fun b w hH hb => e_vnil 2 rfl (j := ss.length) (List.getElem?_eq_some_iff.1 hx).1 rfl rfl hH hb⟩) ?_
    refine s_cons (by intro r0_; exact ⟨rfl, fun b w hH hb => eSf okSg (by decide) (hH.vec 2 rfl okSg) (j := ss.length) hx fd_seg_segment_1 rfl rfl hb⟩) ?_
    refine s_cons (by intro r0_; exact ⟨rfl, fun b w hH hb => e_sload okSg (by decide) (hH.vec 2 rfl okSg) (j := ss.length) hx ty_s_seg_mark (off := 1) rfl rfl rfl hb⟩) ?_
    refine s_cons (by intro r0_; exact ⟨rfl, fun b w hH hb => exec_q1 hflT rfl hb⟩) ?_
    refine s_cons (by intro r0_; exact ⟨rfl, fun b w hH hb => e_vnil 2 rfl (j := ss.length) (List.getElem?_eq_some_iff.1 hx).1 rfl rfl hH hb⟩) ?_
    refine s_cons (by intro r0_; exact ⟨rfl, fun b w hH hb => eSf okSg (by decide) (hH.vec 2 rfl okSg) (j := ss.length) hx fd_seg_segment_1 rfl rfl hb⟩) ?_
    refine s_cons (by intro r0_; exact ⟨rfl, fun b w hH hb => e_sload okSg (by decide) (hH.vec 2 rfl okSg) (j := ss.length) hx ty_s_seg_mark (off := 1) rfl rfl rfl hb⟩) ?_
    refine s_cons (by intro r0_; exact ⟨rfl, fun b w hH hb => e_slen ((mks_rd 3 rfl hx hH)) Tryz.underlying90 rfl rfl hb⟩) ?_
    refine s_cons (by intro r0_; exact ⟨rfl, fun b w hH hb => exec_ar rfl rfl rfl rfl (by rw [IntWalk.i64_in _ (by omega)]; omega) hb⟩) ?_
    refine s_cons (by intro r0_; exact ⟨rfl, fun b w hH hb => e_sidx okMk ((mks_rd 3 rfl hx hH)) sl_seg_mark (j := (x.l.length - 1)) hm1 rfl rfl rfl hb⟩) ?_
    refine s_cons (by intro r0_; exact ⟨rfl, fun b w hH hb => eSf okMk (by decide) ((mks_rd 3 rfl hx hH)) (j := (x.l.length - 1)) hm1 fd_seg_mark_0 rfl rfl hb⟩) ?_
    refine s_cons (by intro r0_; exact ⟨rfl, fun b w hH hb => e_sload okMk (by decide) ((mks_rd 3 rfl hx hH)) (j := (x.l.length - 1)) hm1 ty_uint64 (off := 0) rfl rfl rfl hb⟩) ?_
    refine s_cons (by intro v0_; exact ⟨rfl, fun b w hH hb => exec_build rfl rfl (by kernel_rfl) hb⟩) ?_
    exact s_nil
  intro v0_
  refine WL2.keep (env' := [(2, .pointer (some ⟨g, 0, none⟩)), (30, .agg #[.int .i64 0, .int .u64 m.1, .int .u64 ((x.f + x.l.length - 1 : Nat) : Int), .slice none 0 0, .int .i64 0])]) ⟨rfl, rfl, trivial⟩ ?_
  refine h_q hflT rfl ?_
  refine h_acts (post := fun _ => [cell g 34 #[.int .i64 0, .int .u64 m.1, .int .u64 ((x.f + x.l.length - 1 : Nat) : Int), .slice none 0 0, .int .i64 0], cell p 87 #[.pointer (some ⟨dk, 0, none⟩), .int .i64 (lim : Int), sv], Vec 92 2 encSg sv svs, MksE svs]) rfl rfl (a_store 0 (v := .agg #[.int .i64 0, .int .u64 m.1, .int .u64 ((x.f + x.l.length - 1 : Nat) : Int), .slice none 0 0, .int .i64 0]) #[.int .i64 0, .int .u64 m.1, .int .u64 ((x.f + x.l.length - 1 : Nat) : Int), .slice none 0 0, .int .i64 0] tyEn.2 rfl rfl rfl rfl rfl rfl rfl rfl rfl) ?_; rintro ⟨⟩
  refine h_nil (f_to (d_ret ?_))
  exact f_fin1 (.cell 0 (v := .agg #[.int .i64 0, .int .u64 m.1, .int .u64 ((x.f + x.l.length - 1 : Nat) : Int), .slice none 0 0, .int .i64 0]) (rAg (cs := [.int .i64 0, .int .u64 m.1, .int .u64 ((x.f + x.l.length - 1 : Nat) : Int), .slice none 0 0, .int .i64 0]) tyEn rfl) rfl rfl) (fun w h => tells () rfl [1, 2, 3] rfl h (fun z hz => by obtain ⟨z2, p2, h2⟩ := (Parts.perm (List.Perm.refl _) hz); exact ⟨z2, p2, Parts.one (logT_mk hm z2 h2)⟩)) rfl
theorem last_none {p dk lim : Nat} : Does Tryz.prog 17 #[.pointer (some ⟨p, 0, none⟩)] [LogT p dk lim ([])] (fun (_ : Unit) => .int .u64 0) (fun (_ : Unit) => [LogT p dk lim ([])]) := by
 refine d_ins (args := [.pointer (some ⟨p, 0, none⟩)]) 14 Tryz.func17 rfl rfl rfl ?_; intro w rs
 refine d_open 0 rfl LogT.open_ (fun _ => rfl) ?_; rintro ⟨sv, svs⟩
 refine WC2.fact 3 rfl (fun _ h => h.2) ?_; rintro hm
 refine WC2.leave [3] rfl rfl ?_
 replace hm : svs.map SegV.m = [] := hm
 have hn : svs.length = 0 := by have := congrArg List.length hm; simpa using this
 refine d_reg ?_
 refine h_q hflT rfl ?_
 refine h_done (d_seq (d_reg ?_))
 refine h_q hflT rfl ?_
 refine h_val rfl (.pointer (some ⟨p, 0, none⟩)) (fun b w hb hH => by exact xNc rfl rfl hb) ?_
 refine h_q hflT rfl ?_
 refine h_val rfl (sv) (fun b w hb hH => xLd rfl rfl (rOn tySs rfl) (hH.row 0 rfl) hb) ?_
 refine h_val rfl (.int .i64 ((0 : Nat) : Int)) (fun b w hb hH => e_vlenN 1 hn Tryz.underlying85 rfl rfl rfl hH hb) ?_
 refine h_val rfl (.bool true) (fun b w hb hH => xCm rfl rfl rfl (cEt (by omega)) hb) ?_
 refine h_done (d_then rfl (d_reg ?_))
 refine h_q hflT rfl ?_
 refine h_done (d_ret (fTr ?_))
 exact f_fin1 (.tmp rfl) (fun w h => tells () rfl [0, 1, 2] rfl h (fun z hz => ⟨z, .refl _, Parts.one (logT_mk hm z hz)⟩)) rfl
theorem end_none {p dk lim : Nat} : Does Tryz.prog 43 #[.pointer (some ⟨p, 0, none⟩)] [LogT p dk lim ([])] (fun (_ : Unit) => .agg #[.int .i64 0, .int .u64 0, .int .u64 0, .slice none 0 0, .int .i64 0]) (fun (_ : Unit) => [LogT p dk lim ([])]) := by
 refine d_ins (args := [.pointer (some ⟨p, 0, none⟩)]) 31 Tryz.func43 rfl rfl rfl ?_; intro w rs
 refine d_open 0 rfl LogT.open_ (fun _ => rfl) ?_; rintro ⟨sv, svs⟩
 refine WC2.fact 3 rfl (fun _ h => h.2) ?_; rintro hm
 refine WC2.leave [3] rfl rfl ?_
 replace hm : svs.map SegV.m = [] := hm
 have hn : svs.length = 0 := by have := congrArg List.length hm; simpa using this
 refine d_reg ?_
 refine h_q hflT rfl ?_
 refine h_act (post := fun g => [cell g 34 #[.int .i64 0, .int .u64 0, .int .u64 0, .slice none 0 0, .int .i64 0], cell p 87 #[.pointer (some ⟨dk, 0, none⟩), .int .i64 (lim : Int), sv], Vec 92 2 encSg sv svs, MksE svs]) rfl (a_alloc ze_api_Entry rfl) ?_; rintro g
 refine h_done (d_seq (d_reg ?_))
 refine h_q hflT rfl ?_
 refine h_val rfl (.pointer (some ⟨p, 0, none⟩)) (fun b w hb hH => by exact xNc rfl rfl hb) ?_
 refine h_q hflT rfl ?_
 refine h_val rfl (sv) (fun b w hb hH => xLd rfl rfl (rOn tySs rfl) (hH.row 1 rfl) hb) ?_
 refine h_val rfl (.int .i64 ((0 : Nat) : Int)) (fun b w hb hH => e_vlenN 2 hn Tryz.underlying85 rfl rfl rfl hH hb) ?_
 refine h_val rfl (.bool true) (fun b w hb hH => xCm rfl rfl rfl (cEt (by omega)) hb) ?_
 refine h_done (d_then rfl (d_reg ?_))
 refine h_q hflT rfl ?_
 refine h_val rfl (.agg #[.int .i64 0, .int .u64 0, .int .u64 0, .slice none 0 0, .int .i64 0]) (fun b w hb hH => exec_build rfl rfl (by kernel_rfl) hb) ?_
 refine h_acts (post := fun _ => [cell g 34 #[.int .i64 0, .int .u64 0, .int .u64 0, .slice none 0 0, .int .i64 0], cell p 87 #[.pointer (some ⟨dk, 0, none⟩), .int .i64 (lim : Int), sv], Vec 92 2 encSg sv svs, MksE svs]) rfl rfl (a_store 0 (v := .agg #[.int .i64 0, .int .u64 0, .int .u64 0, .slice none 0 0, .int .i64 0]) #[.int .i64 0, .int .u64 0, .int .u64 0, .slice none 0 0, .int .i64 0] tyEn.2 rfl rfl rfl rfl rfl rfl rfl rfl rfl) ?_; rintro ⟨⟩
 refine h_done (d_ret (fTr ?_))
 exact f_fin1 (.cell 0 (v := .agg #[.int .i64 0, .int .u64 0, .int .u64 0, .slice none 0 0, .int .i64 0]) (rAg (cs := [.int .i64 0, .int .u64 0, .int .u64 0, .slice none 0 0, .int .i64 0]) tyEn rfl) rfl rfl) (fun w h => tells () rfl [1, 2, 3] rfl h (fun z hz => ⟨z, .refl _, Parts.one (logT_mk hm z hz)⟩)) rfl
end Go.Proofs.YtaipejaeeohpkaaGreatDoor.Sep
namespace Go.Proofs.YtaipejaeeohpkaaGreatDoor.Sep
open Go.RowKit
open Go.Proofs.YtaipejaeeohpkaaGreatDoor.Mem (Dist Blk Chg below0)
section
variable {P : Program} {Q : Exit → Act → World → Prop} {n : Nat} {B : Nat → Prop} {w0 : World} {rs : List Ass} {env : List (Nat × Value)}
theorem d_scope {c : Code} (h : WC2 P (Exit.noGoto Q) n env B w0 rs c) : WC2 P Q n env B w0 rs (.scope c) := fun a w hF hH => wp_scope_straight (h a w hF hH)
theorem d_label {l : Nat} (h : WE2 Q n env B w0 rs .normal) : WC2 P Q n env B w0 rs (.label l) := fun a w hF hH => wp_label (h a w hF hH)
end
theorem elp_c1 {e : TypeId} {k : Nat} {α : Type} {enc : α → List Value} {v : Value} {l : List α} {j : Nat} {a : α} {m : Nat} (hj : l[j]? = some a) {rs : List RowT} (h : Vec e k enc v l rs) : (elp v m).cells = #[elp v m] ∧ (elp v m).oneCell' = true := by
  have hlt := (List.getElem?_eq_some_iff.1 hj).1
  rcases h with ⟨h1, h2, h3⟩ | ⟨g, c, cs, h2, _⟩
  · subst h2; exact absurd hlt (Nat.not_lt_zero _)
  · subst h2
    exact ⟨rfl, rfl⟩
def marksB (d : DiskD) (f : Nat) : List (Int × Nat) := (entsB d f).map fun e => (e.1.t, e.2)
def marksM (d : DiskD) (fs : List Nat) : SegsM := fs.map fun f => (f, marksB d f)
def stM (d : DiskD) (fs : List Nat) (j i : Nat) : SegsM := marksM d (fs.take j) ++ match fs.drop j with | [] => [] | f :: r => (f, (marksB d f).take i) :: r.map fun f => (f, [])
theorem stM_0 (d : DiskD) (fs : List Nat) : stM d fs 0 0 = fs.map fun f => (f, []) := by
 unfold stM marksM
 cases fs <;> simp
theorem drop_at {α : Type} {l : List α} {j : Nat} {a : α} (h : l[j]? = some a) : l.drop j = a :: l.drop (j + 1) := by
 have hlt := (List.getElem?_eq_some_iff.1 h).1
 rw [List.drop_eq_getElem_cons hlt, (List.getElem?_eq_some_iff.1 h).2]
theorem stM_at {d : DiskD} {fs : List Nat} {j f i : Nat} (h : fs[j]? = some f) : stM d fs j i = marksM d (fs.take j) ++ (f, (marksB d f).take i) :: (fs.drop (j + 1)).map fun f => (f, []) := by
 unfold stM
 rw [drop_at h]
theorem stM_next {d : DiskD} {fs : List Nat} {j f : Nat} (h : fs[j]? = some f) : stM d fs j (entsB d f).length = stM d fs (j + 1) 0 := by
 have h1 : (marksB d f).take (entsB d f).length = marksB d f := List.take_of_length_le (by unfold marksB; rw [List.length_map]; exact Nat.le_refl _)
 have e1 : marksM d (fs.take (j + 1)) = marksM d (fs.take j) ++ [(f, marksB d f)] := by rw [List.take_add_one, h]; simp [marksM]
 rw [stM_at h, h1]
 unfold stM
 rw [e1, List.append_assoc]
 congr 1
 cases fs.drop (j + 1) <;> simp
theorem stM_end {d : DiskD} {fs : List Nat} {N i : Nat} (h : fs.length = N) : stM d fs N i = marksM d fs := by
 unfold stM
 rw [List.drop_of_length_le (by omega), List.take_of_length_le (by omega), List.append_nil]
theorem st_seg {d : DiskD} {fs : List Nat} {svs : List SegV} {j f i : Nat} (h : fs[j]? = some f) (hm : svs.map SegV.m = stM d fs j i) : ∃ x, svs[j]? = some x ∧ x.f = f ∧ x.l = (marksB d f).take i := by
  have hlt := (List.getElem?_eq_some_iff.1 h).1
  have h1 := congrArg (·[j]?) hm
  simp only [List.getElem?_map] at h1
  rw [stM_at h, List.getElem?_append_right (by simp [marksM]; omega)] at h1
  have hl : (marksM d (fs.take j)).length = j := by simp [marksM]; omega
  rw [hl, Nat.sub_self] at h1
  cases hx : svs[j]? with
  | none => rw [hx] at h1; simp at h1
  | some x =>
    rw [hx] at h1
    simp [SegV.m] at h1
    exact ⟨x, rfl, h1.1, h1.2⟩
theorem st_fs {d : DiskD} {fs : List Nat} {svs : List SegV} {j i : Nat} (hm : svs.map SegV.m = stM d fs j i) : svs.map SegV.f = fs := by
  have h1 := congrArg (List.map (·.1)) hm
  rw [List.map_map] at h1
  have h2 : (stM d fs j i).map (·.1) = fs := by
    have e : fs = fs.take j ++ fs.drop j := (List.take_append_drop j fs).symm
    unfold stM
    rw [List.map_append]
    conv => rhs; rw [e]
    congr 1
    · simp [marksM, Function.comp_def]
    · cases fs.drop j <;> simp [Function.comp_def]
  rw [h2] at h1
  exact h1
theorem st_set {d : DiskD} {fs : List Nat} {svs : List SegV} {j f i n : Nat} {e : EntD} {x : SegV} {A : Option Addr} {c : Nat} (h : fs[j]? = some f) (hm : svs.map SegV.m = stM d fs j i) (hx : svs[j]? = some x) (hxf : x.f = f) (hxl : x.l = (marksB d f).take i) (he : (entsB d f)[i]? = some (e, n)) :
  (svs.set j ⟨x.f, x.l ++ [(e.t, n)], A, c⟩).map SegV.m = stM d fs j (i + 1) := by
 have hlt := (List.getElem?_eq_some_iff.1 h).1
 rw [List.map_set, hm, stM_at h, stM_at h]
 have hl : (marksM d (fs.take j)).length = j := by simp [marksM]; omega
 rw [List.set_append_right _ _ (by omega), hl, Nat.sub_self, List.set_cons_zero]
 congr 2
 show (x.f, x.l ++ [(e.t, n)]) = _
 rw [hxf, hxl, List.take_add_one]
 have : (marksB d f)[i]? = some (e.t, n) := by unfold marksB; rw [List.getElem?_map, he]; rfl
 rw [this]
 rfl
def lastIT (L : List EntD) : Int × Int := match L.getLast? with | none => (0, 0) | some e => (e.t, e.i)
theorem lastIT_push (L : List EntD) (e : EntD) : lastIT (L ++ [e]) = (e.t, e.i) := by unfold lastIT; rw [List.getLast?_append]; rfl
def upTo (d : DiskD) (fs : List Nat) (j : Nat) (f i : Nat) : List EntD := listM d (fs.take j) ++ ((entsB d f).take i).map (·.1)
theorem upTo_push {d : DiskD} {fs : List Nat} {j f i n : Nat} {e : EntD} (he : (entsB d f)[i]? = some (e, n)) : upTo d fs j f (i + 1) = upTo d fs j f i ++ [e] := by
 unfold upTo
 rw [List.take_add_one, he, List.map_append, ← List.append_assoc]
 rfl
theorem upTo_0 (d : DiskD) (fs : List Nat) (j f : Nat) : upTo d fs j f 0 = listM d (fs.take j) := by unfold upTo; simp
theorem upTo_end {d : DiskD} {fs : List Nat} {j f : Nat} (h : fs[j]? = some f) : upTo d fs j f (entsB d f).length = listM d (fs.take (j + 1)) := by
 unfold upTo
 rw [List.take_length, listM_take h]
def PrevT (g : Nat) (m : Int × Int) : Ass := fun rs => ∃ (k : Int) (A : Option Addr) (n c : Nat) (z : Int), Parts [cell g 34 #[.int .i64 k, .int .u64 m.1, .int .u64 m.2, .slice A n c, .int .i64 z]] rs
structure PrevV where
  k : Int
  A : Option Addr
  n : Nat
  c : Nat
  z : Int
theorem PrevT.open_ {g : Nat} {m : Int × Int} : ∀ rs, PrevT g m rs → ∃ x : PrevV, Parts [cell g 34 #[.int .i64 x.k, .int .u64 m.1, .int .u64 m.2, .slice x.A x.n x.c, .int .i64 x.z]] rs := fun _ ⟨k, A, n, c, z, h⟩ => ⟨⟨k, A, n, c, z⟩, h⟩
theorem prevT_mk {g : Nat} {m : Int × Int} {k z t i : Int} {A : Option Addr} {n c : Nat} (h : (t, i) = m) : ∀ rs, Parts [cell g 34 #[.int .i64 k, .int .u64 t, .int .u64 i, .slice A n c, .int .i64 z]] rs → PrevT g m rs := fun _ hz => by subst h; exact ⟨k, A, n, c, z, hz⟩
def LdI (sv : Value) (gs gp : Nat) (d : DiskD) (fs : List Nat) (j f i : Nat) : Ass := fun rs => ∃ svs : List SegV, Parts [Vec 92 2 encSg sv svs, MksE svs, cell gs 100 #[elp sv (j * 2)], PrevT gp (lastIT (upTo d fs j f i)), fact (svs.map SegV.m = stM d fs j i)] rs
theorem LdI.open_ {sv : Value} {gs gp : Nat} {d : DiskD} {fs : List Nat} {j f i : Nat} : ∀ rs, LdI sv gs gp d fs j f i rs → ∃ svs : List SegV, Parts [Vec 92 2 encSg sv svs, MksE svs, cell gs 100 #[elp sv (j * 2)], PrevT gp (lastIT (upTo d fs j f i)), fact (svs.map SegV.m = stM d fs j i)] rs := fun _ h => h
theorem ldI_mk {sv : Value} {gs gp : Nat} {d : DiskD} {fs : List Nat} {j f i : Nat} {svs : List SegV} (h : svs.map SegV.m = stM d fs j i) : ∀ rs, Parts [Vec 92 2 encSg sv svs, MksE svs, cell gs 100 #[elp sv (j * 2)], PrevT gp (lastIT (upTo d fs j f i))] rs → LdI sv gs gp d fs j f i rs := fun _ hz => ⟨svs, fact_add h hz⟩
theorem ldI_mk0 {sv : Value} {gs gp : Nat} {d : DiskD} {fs : List Nat} {j f : Nat} {svs : List SegV} (h : svs.map SegV.m = stM d fs j 0) : ∀ rs, Parts [Vec 92 2 encSg sv svs, MksE svs, cell gs 100 #[elp sv (j * 2)], PrevT gp (lastIT (listM d (fs.take j)))] rs → LdI sv gs gp d fs j f 0 rs := fun rs hz => ldI_mk h rs (by rw [upTo_0]; exact hz)
theorem LdI.end_ {sv : Value} {gs gp : Nat} {d : DiskD} {fs : List Nat} {j f : Nat} (hf : fs[j]? = some f) : ∀ rs, LdI sv gs gp d fs j f (entsB d f).length rs → ∃ svs : List SegV, Parts [Vec 92 2 encSg sv svs, MksE svs, cell gs 100 #[elp sv (j * 2)], PrevT gp (lastIT (listM d (fs.take (j + 1)))), fact (svs.map SegV.m = stM d fs j (entsB d f).length)] rs := fun _ h => by
 rw [← upTo_end hf]
 exact h
theorem ents_le {d : DiskD} {fs : List Nat} {j f N : Nat} (hf : fs[j]? = some f) (hL : (listM d fs).length ≤ N) : (entsB d f).length ≤ N := by
 have h1 := listM_le d fs (j + 1)
 rw [listM_take hf] at h1
 simp only [List.length_append, List.length_map] at h1
 omega
theorem prevT_0 {g : Nat} {d : DiskD} {fs : List Nat} : ∀ rs, Parts [cell g 34 #[.int .i64 0, .int .u64 0, .int .u64 0, .slice none 0 0, .int .i64 0]] rs → PrevT g (lastIT (listM d (fs.take 0))) rs := prevT_mk (by rw [List.take_zero]; rfl)
theorem segR_mk {svs : List SegV} {ss : SegsM} {g : Nat} {m : Int × Int} (h : svs.map SegV.m = ss) : ∀ rs, Parts [MksE svs, PrevT g m] rs → star [MksE svs, PrevT g m, fact (svs.map SegV.m = ss)] rs := fun rs hz => star_close rs (fact_add h hz)
theorem mks_open {svs : List SegV} {j : Nat} {x : SegV} (hj : svs[j]? = some x) : ∀ rs, MksE svs rs → ∃ _ : Unit, Parts [Each (fun x : SegV => Vec 104 2 encMk x.v x.l) (svs.take j), Vec 104 2 encMk (.slice x.A x.l.length x.c) x.l, Each (fun x : SegV => Vec 104 2 encMk x.v x.l) (svs.drop (j + 1))] rs := fun rs h => each_open hj rs h
theorem mks_back {svs : List SegV} {j : Nat} {y : SegV} (hj : j < svs.length) : ∀ rs, Parts [Each (fun x : SegV => Vec 104 2 encMk x.v x.l) (svs.take j), Vec 104 2 encMk (.slice y.A y.l.length y.c) y.l, Each (fun x : SegV => Vec 104 2 encMk x.v x.l) (svs.drop (j + 1))] rs → MksE (svs.set j y) rs := fun rs h => by
 have h1 := each_back rs h
 rw [each_set hj] at h1
 exact h1
end Go.Proofs.YtaipejaeeohpkaaGreatDoor.Sep
