/-
  SgU · SgV · Beh
-/
import Derived.Test.YtjcfimmcogkopaaGreatDoorWI01
import Derived.Test.YtjcfimmcogkopaaGreatDoorWL02
import Derived.Scope
import Derived.OrdersIn
set_option linter.unusedSimpArgs false
set_option linter.unusedVariables false
set_option maxRecDepth 100000
namespace Go.Proofs.YtjcfimmcogkopaaGreatDoor.Sep
open Go.RowKit
open Go.Proofs.YtjcfimmcogkopaaGreatDoor.Mem (Bb Ci Chg Aw)
theorem CL {w0 w : World} {B : Nat → Prop} {os : List Ass} {svs : List SegV} {j : Nat} {x : SegV} (i : Nat) (hi : os[i]? = some (Bc svs)) (hj : svs[j]? = some x) (hH : Hp B w0 w os) : DP w 2 (.slice x.A x.l.length x.c) x.l.length (flat encMk x.l) := by
 obtain ⟨ys, h1, h2⟩ := hH.each i hi hj
 exact h1.all Gm h2
theorem CB {svs : List SegV} {ss : SegsM} {f : Nat} {l : List (Int × Nat)} (h : svs.map SegV.m = ss ++ [(f, l)]) : ∃ x, svs[ss.length]? = some x ∧ x.f = f ∧ x.l = l ∧ svs.length = ss.length + 1 := by
  have h1 := congrArg (·[ss.length]?) h
  simp only [List.getElem?_map] at h1
  rw [List.getElem?_append_right (Nat.le_refl _), Nat.sub_self] at h1
  have h2 := congrArg List.length h
  rw [List.length_map, List.length_append] at h2
  cases hx : svs[ss.length]? with
  | none => rw [hx] at h1; simp at h1
  | some x =>
    rw [hx] at h1
    simp [SegV.m] at h1
    exact ⟨x, rfl, h1.1, h1.2, h2⟩
theorem SZ (w : World) {kp kx zp zx pt pi xt xi : Int} {Ap Ax : Option Addr} {np cp nx cx : Nat} (h : pi = 0) : Calls Tryz.prog 68 #[.agg #[.int .i64 kp, .int .u64 pt, .int .u64 pi, .slice Ap np cp, .int .i64 zp], .agg #[.int .i64 kx, .int .u64 xt, .int .u64 xi, .slice Ax nx cx, .int .i64 zx]] w fun e w' => e = .returned (.bool true) ∧ Below w.heap.size w w' := by
 refine Gi (args := [.agg #[.int .i64 kp, .int .u64 pt, .int .u64 pi, .slice Ap np cp, .int .i64 zp], .agg #[.int .i64 kx, .int .u64 xt, .int .u64 xi, .slice Ax nx cx, .int .i64 zx]]) 23 Tryz.func68 rfl rfl rfl (Ad (Af Ae rfl (Al (post := fun g1 => [cell g1 53 #[.int .i64 kp, .int .u64 pt, .int .u64 pi, .slice Ap np cp, .int .i64 zp]]) rfl (CW (cs := #[.int .i64 kp, .int .u64 pt, .int .u64 pi, .slice Ap np cp, .int .i64 zp]) rfl rfl rfl) ?_))); rintro g1
 refine Al (post := fun g2 => [cell g2 53 #[.int .i64 kx, .int .u64 xt, .int .u64 xi, .slice Ax nx cx, .int .i64 zx], cell g1 53 #[.int .i64 kp, .int .u64 pt, .int .u64 pi, .slice Ap np cp, .int .i64 zp]]) rfl (CW (cs := #[.int .i64 kx, .int .u64 xt, .int .u64 xi, .slice Ax nx cx, .int .i64 zx]) rfl rfl rfl) ?_; rintro g2
 refine Af Ae rfl (Ab (Ad (Af Ae rfl (Aa rfl (.int .u64 pi) (fun b w hb hH => Ba rfl rfl (Bl AQ rfl) (hH.row 1 rfl) hb) (Aa rfl (.bool true) (fun b w hb hH => A5 rfl rfl rfl (Fw (by omega)) hb) (Af Ae rfl (Ab (AB ?_))))))))
 exact AA (.tmp rfl) (fun w h => ⟨rfl, Aw h.up⟩) rfl
theorem S0 (w : World) {kp kx zp zx pt pi xt xi : Int} {Ap Ax : Option Addr} {np cp nx cx : Nat} (h0 : pi ≠ 0) (h1 : xi = pi + 1) (h2 : pt ≤ xt) (h3 : 0 ≤ pi ∧ pi ≤ 72057594037927935) : Calls Tryz.prog 68 #[.agg #[.int .i64 kp, .int .u64 pt, .int .u64 pi, .slice Ap np cp, .int .i64 zp], .agg #[.int .i64 kx, .int .u64 xt, .int .u64 xi, .slice Ax nx cx, .int .i64 zx]] w fun e w' => e = .returned (.bool true) ∧ Below w.heap.size w w' := by
 refine Gi (args := [.agg #[.int .i64 kp, .int .u64 pt, .int .u64 pi, .slice Ap np cp, .int .i64 zp], .agg #[.int .i64 kx, .int .u64 xt, .int .u64 xi, .slice Ax nx cx, .int .i64 zx]]) 23 Tryz.func68 rfl rfl rfl (Ad (Af Ae rfl (Al (post := fun g1 => [cell g1 53 #[.int .i64 kp, .int .u64 pt, .int .u64 pi, .slice Ap np cp, .int .i64 zp]]) rfl (CW (cs := #[.int .i64 kp, .int .u64 pt, .int .u64 pi, .slice Ap np cp, .int .i64 zp]) rfl rfl rfl) ?_))); rintro g1
 refine Al (post := fun g2 => [cell g2 53 #[.int .i64 kx, .int .u64 xt, .int .u64 xi, .slice Ax nx cx, .int .i64 zx], cell g1 53 #[.int .i64 kp, .int .u64 pt, .int .u64 pi, .slice Ap np cp, .int .i64 zp]]) rfl (CW (cs := #[.int .i64 kx, .int .u64 xt, .int .u64 xi, .slice Ax nx cx, .int .i64 zx]) rfl rfl rfl) ?_; rintro g2
 refine Af Ae rfl (Ab (Ad (Af Ae rfl (Aa rfl (.int .u64 pi) (fun b w hb hH => Ba rfl rfl (Bl AQ rfl) (hH.row 1 rfl) hb) (Aa rfl (.bool false) (fun b w hb hH => A5 rfl rfl rfl (EM (by omega)) hb) (Af Ae rfl (Aa rfl (.int .u64 xi) (fun b w hb hH => Ba rfl rfl (Bl AQ rfl) (hH.row 0 rfl) hb) (Af Ae rfl (Aa rfl (.int .u64 pi) (fun b w hb hH => Ba rfl rfl (Bl AQ rfl) (hH.row 1 rfl) hb) (Aa rfl (.int .u64 (pi + 1)) (fun b w hb hH => AJ rfl rfl rfl rfl (IntWalk.u64_in _ (by omega)) hb) ?_))))))))))
 refine Aa rfl (.bool true) (fun b w hb hH => A5 rfl rfl rfl (Fw (by omega)) hb) (Af Ae rfl (Aa rfl (.int .u64 xt) (fun b w hb hH => Ba rfl rfl (Bl AQ rfl) (hH.row 0 rfl) hb) (Af Ae rfl (Aa rfl (.int .u64 pt) (fun b w hb hH => Ba rfl rfl (Bl AQ rfl) (hH.row 1 rfl) hb) (Aa rfl (.bool true) (fun b w hb hH => A5 rfl rfl rfl (Cb (by omega)) hb) (Af Ae rfl (Ab (AB ?_))))))))
 exact AA (.tmp rfl) (fun w h => ⟨rfl, Aw h.up⟩) rfl
theorem Kw (w : World) {kp kx zp zx pt pi xt xi : Int} {Ap Ax : Option Addr} {np cp nx cx : Nat} (h : pi = 0 ∨ (pi ≠ 0 ∧ xi = pi + 1 ∧ pt ≤ xt)) (h3 : 0 ≤ pi ∧ pi ≤ 72057594037927935) : Calls Tryz.prog 68 #[.agg #[.int .i64 kp, .int .u64 pt, .int .u64 pi, .slice Ap np cp, .int .i64 zp], .agg #[.int .i64 kx, .int .u64 xt, .int .u64 xi, .slice Ax nx cx, .int .i64 zx]] w fun e w' => e = .returned (.bool true) ∧ Below w.heap.size w w' := by
  rcases h with h0 | ⟨h0, h1, h2⟩
  · exact SZ w h0
  · exact S0 w h0 h1 h2 h3
theorem G0 (w : World) {x : SegV} {m : Int × Nat} (hu : DP w 2 (.slice x.A x.l.length x.c) x.l.length (flat encMk x.l)) (hm : x.l[x.l.length - 1]? = some m) (h0 : 0 < x.l.length) (hl : x.l.length ≤ 1000000) : Calls Tryz.prog 94 #[.agg #[.int .u64 (x.f : Int), .slice x.A x.l.length x.c]] w fun e w' => e = .returned (.int .i64 (m.2 : Int)) ∧ Below w.heap.size w w' := by
 refine Gi (args := [.agg #[.int .u64 (x.f : Int), .slice x.A x.l.length x.c]]) 12 Tryz.func94 rfl rfl rfl (Ad (Af Ae rfl (Al (post := fun g1 => [cell g1 83 #[.int .u64 (x.f : Int), .slice x.A x.l.length x.c]]) rfl (CW (cs := #[.int .u64 (x.f : Int), .slice x.A x.l.length x.c]) rfl rfl rfl) ?_))); rintro g1
 refine Af Ae rfl (Ab (Ad (Af Ae rfl (Aa rfl (.slice x.A x.l.length x.c) (fun b w hb hH => Ba rfl rfl (Bl Bm rfl) (hH.row 0 rfl) hb) (Af Ae rfl (Aa rfl (.slice x.A x.l.length x.c) (fun b w hb hH => Ba rfl rfl (Bl Bm rfl) (hH.row 0 rfl) hb) (Aa rfl (.int .i64 (x.l.length : Int)) (fun b w hb hH => Be ((Lu hu hH)) Tryz.underlying81 rfl rfl hb) (Aa rfl (.int .i64 ((x.l.length - 1 : Nat) : Int)) (fun b w hb hH => AJ rfl rfl rfl rfl (by rw [IntWalk.i64_in _ (by omega)]; omega) hb) (Aa rfl (AN (.slice x.A x.l.length x.c) ((x.l.length - 1) * 2)) (fun b w hb hH => DW Gm ((Lu hu hH)) CY (j := (x.l.length - 1)) hm rfl rfl rfl hb) (Aa rfl (AN (.slice x.A x.l.length x.c) ((x.l.length - 1) * 2 + 1)) (fun b w hb hH => FR Gm (by decide) ((Lu hu hH)) (j := (x.l.length - 1)) hm Gk rfl rfl hb) ?_))))))))))
 refine Aa rfl (.int .i64 (m.2 : Int)) (fun b w hb hH => Bq Gm (by decide) ((Lu hu hH)) (j := (x.l.length - 1)) hm Br (off := 1) rfl rfl rfl hb) (Af Ae rfl (Ab (AB ?_)))
 exact AA (.tmp rfl) (fun w h => ⟨rfl, Aw h.up⟩) rfl
theorem QO (w : World) {x : SegV} (h0 : 0 < x.l.length) (hl : x.l.length ≤ 1000000) (hf : x.f ≤ 72057594037927935) (hu : DP w 2 (.slice x.A x.l.length x.c) x.l.length (flat encMk x.l)) : Calls Tryz.prog 89 #[.agg #[.int .u64 (x.f : Int), .slice x.A x.l.length x.c]] w fun e w' => e = .returned (.int .u64 ((x.f + x.l.length - 1 : Nat) : Int)) ∧ Below w.heap.size w w' := by
 refine Gi (args := [.agg #[.int .u64 (x.f : Int), .slice x.A x.l.length x.c]]) 11 Tryz.func89 rfl rfl rfl (Ad (Af Ae rfl (Al (post := fun g1 => [cell g1 83 #[.int .u64 (x.f : Int), .slice x.A x.l.length x.c]]) rfl (CW (cs := #[.int .u64 (x.f : Int), .slice x.A x.l.length x.c]) rfl rfl rfl) ?_))); rintro g1
 refine Af Ae rfl (Ab (Ad (Af Ae rfl (Aa rfl (.int .u64 (x.f : Int)) (fun b w hb hH => Ba rfl rfl (Bl AQ rfl) (hH.row 0 rfl) hb) (Af Ae rfl (Aa rfl (.slice x.A x.l.length x.c) (fun b w hb hH => Ba rfl rfl (Bl Bm rfl) (hH.row 0 rfl) hb) (Aa rfl (.int .i64 (x.l.length : Int)) (fun b w hb hH => Be ((Lu hu hH)) Tryz.underlying81 rfl rfl hb) (Aa rfl (.int .u64 (x.l.length : Int)) (fun b w hb hH => Bi Tryz.underlying3 Tryz.underlying38 (IntWalk.u64_in _ (by omega)) rfl rfl hb) (Aa rfl (.int .u64 ((x.f + x.l.length : Nat) : Int)) (fun b w hb hH => AJ rfl rfl rfl rfl (by rw [IntWalk.u64_in _ (by omega)]; omega) hb) (Aa rfl (.int .u64 ((x.f + x.l.length - 1 : Nat) : Int)) (fun b w hb hH => AJ rfl rfl rfl rfl (by rw [IntWalk.u64_in _ (by omega)]; omega) hb) ?_))))))))))
 refine Af Ae rfl (Ab (AB ?_))
 exact AA (.tmp rfl) (fun w h => ⟨rfl, Aw h.up⟩) rfl
theorem BZ {p dk lim n : Nat} {sv : Value} {svs : List SegV} (hn : svs.length = n + 1) (hl : n ≤ 1000000) : AV Tryz.prog 86 #[.pointer (some ⟨p, 0, none⟩)] [cell p 76 #[.pointer (some ⟨dk, 0, none⟩), .int .i64 (lim : Int), sv], Aj 83 2 encSg sv svs] (fun (_ : Unit) => AN sv (n * 2)) (fun (_ : Unit) => [cell p 76 #[.pointer (some ⟨dk, 0, none⟩), .int .i64 (lim : Int), sv], Aj 83 2 encSg sv svs]) := by
 refine Bo (args := [.pointer (some ⟨p, 0, none⟩)]) 14 Tryz.func86 rfl rfl rfl ?_; intro w rs
 refine Ad (Af Ae rfl (Ab (Ar ?_)))
 refine BV 11 0 [⟨.quiet, [], fun _ => .pointer (some ⟨p, 0, none⟩), []⟩, ⟨.quiet, [], fun _ => .pointer (some ⟨p, 0, none⟩), [0]⟩, ⟨.quiet, [], fun _ => .pointer (some ⟨p, 2, none⟩), [1]⟩, ⟨.quiet, [], fun _ => sv, [2]⟩, ⟨.quiet, [], fun _ => .pointer (some ⟨p, 0, none⟩), []⟩, ⟨.quiet, [], fun _ => .pointer (some ⟨p, 0, none⟩), [4]⟩, ⟨.quiet, [], fun _ => .pointer (some ⟨p, 2, none⟩), [5]⟩, ⟨.quiet, [], fun _ => sv, [6]⟩, ⟨.quiet, [], fun _ => .int .i64 ((n + 1 : Nat) : Int), [7]⟩, ⟨.quiet, [], fun _ => .int .i64 (n : Int), [8]⟩, ⟨.quiet, [], fun _ => AN sv (n * 2), [3, 9]⟩] [(0, .pointer (some ⟨p, 0, none⟩)), (2, .pointer none)] (fun _ => [cell p 76 #[.pointer (some ⟨dk, 0, none⟩), .int .i64 (lim : Int), sv], Aj 83 2 encSg sv svs]) (by kernel_rfl) (by kernel_rfl) ⟨rfl, rfl, trivial⟩ rfl ?_ ?_
 refine Ac (by exact ⟨rfl, fun b w hH hb => Ah Ae rfl hb⟩) (Ac (by exact ⟨rfl, fun b w hH hb => by exact B4 rfl rfl hb⟩) (Ac (by exact ⟨rfl, fun b w hH hb => Ah Ae rfl hb⟩) (Ac (by exact ⟨rfl, fun b w hH hb => Ba rfl rfl (Bl C6 rfl) (hH.row 0 rfl) hb⟩) (Ac (by exact ⟨rfl, fun b w hH hb => Ah Ae rfl hb⟩) (Ac (by exact ⟨rfl, fun b w hH hb => by exact B4 rfl rfl hb⟩) (Ac (by exact ⟨rfl, fun b w hH hb => Ah Ae rfl hb⟩) (Ac (by exact ⟨rfl, fun b w hH hb => Ba rfl rfl (Bl C6 rfl) (hH.row 0 rfl) hb⟩) (Ac (by exact ⟨rfl, fun b w hH hb => BG 1 hn Tryz.underlying74 rfl rfl rfl hH hb⟩) (Ac (by exact ⟨rfl, fun b w hH hb => AJ rfl rfl rfl rfl (by rw [IntWalk.i64_in _ (by omega)]; omega) hb⟩) ?_)))))))))
 refine Ac (by exact ⟨rfl, fun b w hH hb => EZ 1 BT AM rfl n (by omega) rfl rfl rfl hH hb⟩) ?_
 exact B9
 refine BU.keep (env' := [(2, .pointer none), (13, AN sv (n * 2))]) ⟨rfl, rfl, trivial⟩ (Af Ae rfl (AG (AC (AB ?_))))
 exact AA (.tmp rfl) (fun w h => AH () rfl [0, 1] rfl h El) rfl
theorem S1 {p dk lim : Nat} {ss : SegsM} {f : Nat} {l : List (Int × Nat)} (hl : ss.length ≤ 1000000) (hl2 : l.length ≤ 1000000) (hf : f ≤ 72057594037927935) (h0 : l ≠ []) : AV Tryz.prog 33 #[.pointer (some ⟨p, 0, none⟩)] [Ay p dk lim (ss ++ [(f, l)])] (fun (_ : Unit) => .int .u64 ((f + l.length - 1 : Nat) : Int)) (fun (_ : Unit) => [Ay p dk lim (ss ++ [(f, l)])]) := by
 refine Bo (args := [.pointer (some ⟨p, 0, none⟩)]) 14 Tryz.func33 rfl rfl rfl ?_; intro w rs
 refine AX 0 rfl Ay.open_ (fun _ => rfl) ?_; rintro ⟨sv, svs⟩
 refine AL.fact 3 rfl (fun _ h => h.2) ?_; rintro hm
 refine AL.leave [3] rfl rfl ?_
 replace hm : svs.map SegV.m = ss ++ [(f, l)] := hm
 obtain ⟨x, hx, rfl, rfl, hn⟩ := CB hm
 have hl0 : 0 < x.l.length := List.length_pos_iff.2 h0
 refine Ad (Af Ae rfl (Ab (Ar (Ad (Af Ae rfl (Aa rfl (.pointer (some ⟨p, 0, none⟩)) (fun b w hb hH => by exact B4 rfl rfl hb) (Af Ae rfl (Aa rfl (sv) (fun b w hb hH => Ba rfl rfl (Bl C6 rfl) (hH.row 0 rfl) hb) (Aa rfl (.int .i64 ((ss.length + 1 : Nat) : Int)) (fun b w hb hH => BG 1 hn Tryz.underlying74 rfl rfl rfl hH hb) (Aa rfl (.bool false) (fun b w hb hH => A5 rfl rfl rfl (EM (by omega)) hb) (Ab (Au rfl (Av (AC (Ad ?_)))))))))))))))
 refine Af Ae rfl (Al rfl (As (os' := fun _ => [cell p 76 #[.pointer (some ⟨dk, 0, none⟩), .int .i64 (lim : Int), sv], Aj 83 2 encSg sv svs, Bc svs]) [0, 1] 0 (Ai Tryz.func86 (by kernel_rfl) rfl) (BZ hn (by omega)) rfl rfl rfl (fun _ => rfl) rfl rfl rfl) ?_); rintro ⟨⟩
 refine Aa rfl (AN sv (ss.length * 2)) (fun b w hb hH => BE 1 rfl (j := ss.length) (List.getElem?_eq_some_iff.1 hx).1 rfl rfl hH hb) ?_
 refine Aa rfl (.agg (encSg x).toArray) (fun b w hb hH => Dp AM (by decide) (hH.vec 1 rfl AM) (j := ss.length) hx B1 rfl rfl hb) (Al (post := fun _ => [cell p 76 #[.pointer (some ⟨dk, 0, none⟩), .int .i64 (lim : Int), sv], Aj 83 2 encSg sv svs, Bc svs]) rfl (Bk (Ai Tryz.func89 (by kernel_rfl) rfl) (fun w hH => QO w hl0 hl2 hf (CL 2 rfl hx hH)) rfl rfl rfl) ?_); rintro ⟨⟩
 refine Af Ae rfl (Ab (AB ?_))
 exact AA (.tmp rfl) (fun w h => AH () rfl [0, 1, 2] rfl h (fun z hz => by obtain ⟨z2, p2, h2⟩ := (Am.perm (List.Perm.refl _) hz); exact ⟨z2, p2, Am.one (CV hm z2 h2)⟩)) rfl
theorem UM {p dk lim : Nat} {ss : SegsM} {f : Nat} {l : List (Int × Nat)} (hl : ss.length ≤ 1000000) (hl2 : l.length ≤ 1000000) (hf : f ≤ 72057594037927935) (h0 : l ≠ []) {m : Int × Nat} (hm1 : l[l.length - 1]? = some m) : AV Tryz.prog 66 #[.pointer (some ⟨p, 0, none⟩)] [Ay p dk lim (ss ++ [(f, l)])] (fun (_ : Unit) => .agg #[.int .i64 0, .int .u64 m.1, .int .u64 ((f + l.length - 1 : Nat) : Int), .slice none 0 0, .int .i64 0]) (fun (_ : Unit) => [Ay p dk lim (ss ++ [(f, l)])]) := by
  refine Bo (args := [.pointer (some ⟨p, 0, none⟩)]) 31 Tryz.func66 rfl rfl rfl ?_; intro w rs
  refine AX 0 rfl Ay.open_ (fun _ => rfl) ?_; rintro ⟨sv, svs⟩
  refine AL.fact 3 rfl (fun _ h => h.2) ?_; rintro hm
  refine AL.leave [3] rfl rfl ?_
  replace hm : svs.map SegV.m = ss ++ [(f, l)] := hm
  obtain ⟨x, hx, rfl, rfl, hn⟩ := CB hm
  have hl0 : 0 < x.l.length := List.length_pos_iff.2 h0
  refine Ad (Af Ae rfl (Al (post := fun g => [cell g 53 #[.int .i64 0, .int .u64 0, .int .u64 0, .slice none 0 0, .int .i64 0], cell p 76 #[.pointer (some ⟨dk, 0, none⟩), .int .i64 (lim : Int), sv], Aj 83 2 encSg sv svs, Bc svs]) rfl (Cl BQ rfl) ?_)); rintro g
  refine Ab (Ar (Ad (Af Ae rfl (Aa rfl (.pointer (some ⟨p, 0, none⟩)) (fun b w hb hH => by exact B4 rfl rfl hb) (Af Ae rfl (Aa rfl (sv) (fun b w hb hH => Ba rfl rfl (Bl C6 rfl) (hH.row 1 rfl) hb) (Aa rfl (.int .i64 ((ss.length + 1 : Nat) : Int)) (fun b w hb hH => BG 2 hn Tryz.underlying74 rfl rfl rfl hH hb) (Aa rfl (.bool false) (fun b w hb hH => A5 rfl rfl rfl (EM (by omega)) hb) (Ab (Au rfl (Av (AC (Ad (Af Ae rfl (Al rfl (As (os' := fun _ => [cell g 53 #[.int .i64 0, .int .u64 0, .int .u64 0, .slice none 0 0, .int .i64 0], cell p 76 #[.pointer (some ⟨dk, 0, none⟩), .int .i64 (lim : Int), sv], Aj 83 2 encSg sv svs, Bc svs]) [1, 2] 0 (Ai Tryz.func86 (by kernel_rfl) rfl) (BZ hn (by omega)) rfl rfl rfl (fun _ => rfl) rfl rfl rfl) ?_))))))))))))))); rintro ⟨⟩
  refine Af Ae rfl (Ab (Ar ?_))
  refine BV 18 1 [⟨.quiet, [none], fun _ => AN sv (ss.length * 2), []⟩, ⟨.quiet, [none], fun _ => AN sv (ss.length * 2), [0]⟩, ⟨.quiet, [none], fun _ => .agg (encSg x).toArray, [1]⟩, ⟨.actv 0, [some false], fun _ => .int .u64 ((x.f + x.l.length - 1 : Nat) : Int), [2]⟩, ⟨.quiet, [none], fun _ => AN sv (ss.length * 2), []⟩, ⟨.quiet, [none], fun _ => AN sv (ss.length * 2), [4]⟩, ⟨.quiet, [none], fun _ => AN sv (ss.length * 2 + 1), [5]⟩, ⟨.quiet, [none], fun _ => .slice x.A x.l.length x.c, [6]⟩, ⟨.quiet, [none], fun _ => AN sv (ss.length * 2), []⟩, ⟨.quiet, [none], fun _ => AN sv (ss.length * 2), [8]⟩, ⟨.quiet, [none], fun _ => AN sv (ss.length * 2 + 1), [9]⟩, ⟨.quiet, [none], fun _ => .slice x.A x.l.length x.c, [10]⟩, ⟨.quiet, [none], fun _ => .int .i64 (x.l.length : Int), [11]⟩, ⟨.quiet, [none], fun _ => .int .i64 ((x.l.length - 1 : Nat) : Int), [12]⟩, ⟨.quiet, [none], fun _ => AN (.slice x.A x.l.length x.c) ((x.l.length - 1) * 2), [7, 13]⟩, ⟨.quiet, [none], fun _ => AN (.slice x.A x.l.length x.c) ((x.l.length - 1) * 2 + 0), [14]⟩, ⟨.quiet, [none], fun _ => .int .u64 m.1, [15]⟩, ⟨.quiet, [some true], fun _ => .agg #[.int .i64 0, .int .u64 m.1, .int .u64 ((x.f + x.l.length - 1 : Nat) : Int), .slice none 0 0, .int .i64 0], [3, 16]⟩] [(2, .pointer (some ⟨g, 0, none⟩)), (3, AN sv (ss.length * 2))] (fun ρ => match ρ with | [r0] => [cell g 53 #[.int .i64 0, .int .u64 0, .int .u64 0, .slice none 0 0, .int .i64 0], cell p 76 #[.pointer (some ⟨dk, 0, none⟩), .int .i64 (lim : Int), sv], Aj 83 2 encSg sv svs, Bc svs] | _ => []) (by kernel_rfl) (by kernel_rfl) ⟨rfl, rfl, trivial⟩ rfl ?_ ?_
  refine Ac (by intro r0_; exact ⟨rfl, fun b w hH hb => Ah Ae rfl hb⟩) ?_
  refine Ac (by intro r0_; exact ⟨rfl, fun b w hH hb => BE 2 rfl (j := ss.length) (List.getElem?_eq_some_iff.1 hx).1 rfl rfl hH hb⟩) ?_
  refine Ac (by intro r0_; exact ⟨rfl, fun b w hH hb => Dp AM (by decide) (hH.vec 2 rfl AM) (j := ss.length) hx B1 rfl rfl hb⟩) (Ac (by exact ⟨rfl, Bt.su (Bk (Ai Tryz.func89 (by kernel_rfl) rfl) (fun w hH => QO w hl0 hl2 hf (CL 3 rfl hx hH)) rfl rfl rfl) rfl⟩) (Ac (by intro r0_; exact ⟨rfl, fun b w hH hb => Ah Ae rfl hb⟩) ?_))
  refine Ac (by intro r0_; exact ⟨rfl, fun b w hH hb => BE 2 rfl (j := ss.length) (List.getElem?_eq_some_iff.1 hx).1 rfl rfl hH hb⟩) ?_
  refine Ac (by intro r0_; exact ⟨rfl, fun b w hH hb => FR AM (by decide) (hH.vec 2 rfl AM) (j := ss.length) hx A7 rfl rfl hb⟩) (Ac (by intro r0_; exact ⟨rfl, fun b w hH hb => Bq AM (by decide) (hH.vec 2 rfl AM) (j := ss.length) hx Bm (off := 1) rfl rfl rfl hb⟩) (Ac (by intro r0_; exact ⟨rfl, fun b w hH hb => Ah Ae rfl hb⟩) ?_))
  refine Ac (by intro r0_; exact ⟨rfl, fun b w hH hb => BE 2 rfl (j := ss.length) (List.getElem?_eq_some_iff.1 hx).1 rfl rfl hH hb⟩) ?_
  refine Ac (by intro r0_; exact ⟨rfl, fun b w hH hb => FR AM (by decide) (hH.vec 2 rfl AM) (j := ss.length) hx A7 rfl rfl hb⟩) (Ac (by intro r0_; exact ⟨rfl, fun b w hH hb => Bq AM (by decide) (hH.vec 2 rfl AM) (j := ss.length) hx Bm (off := 1) rfl rfl rfl hb⟩) (Ac (by intro r0_; exact ⟨rfl, fun b w hH hb => Be ((CL 3 rfl hx hH)) Tryz.underlying81 rfl rfl hb⟩) (Ac (by intro r0_; exact ⟨rfl, fun b w hH hb => AJ rfl rfl rfl rfl (by rw [IntWalk.i64_in _ (by omega)]; omega) hb⟩) (Ac (by intro r0_; exact ⟨rfl, fun b w hH hb => DW Gm ((CL 3 rfl hx hH)) CY (j := (x.l.length - 1)) hm1 rfl rfl rfl hb⟩) (Ac (by intro r0_; exact ⟨rfl, fun b w hH hb => FR Gm (by decide) ((CL 3 rfl hx hH)) (j := (x.l.length - 1)) hm1 IM rfl rfl hb⟩) (Ac (by intro r0_; exact ⟨rfl, fun b w hH hb => Bq Gm (by decide) ((CL 3 rfl hx hH)) (j := (x.l.length - 1)) hm1 AQ (off := 0) rfl rfl rfl hb⟩) (Ac (by intro v0_; exact ⟨rfl, fun b w hH hb => BA rfl rfl (by kernel_rfl) hb⟩) ?_)))))))
  exact B9
  intro v0_
  refine BU.keep (env' := [(2, .pointer (some ⟨g, 0, none⟩)), (30, .agg #[.int .i64 0, .int .u64 m.1, .int .u64 ((x.f + x.l.length - 1 : Nat) : Int), .slice none 0 0, .int .i64 0])]) ⟨rfl, rfl, trivial⟩ (Af Ae rfl (AR (post := fun _ => [cell g 53 #[.int .i64 0, .int .u64 m.1, .int .u64 ((x.f + x.l.length - 1 : Nat) : Int), .slice none 0 0, .int .i64 0], cell p 76 #[.pointer (some ⟨dk, 0, none⟩), .int .i64 (lim : Int), sv], Aj 83 2 encSg sv svs, Bc svs]) rfl rfl (AZ 0 (v := .agg #[.int .i64 0, .int .u64 m.1, .int .u64 ((x.f + x.l.length - 1 : Nat) : Int), .slice none 0 0, .int .i64 0]) #[.int .i64 0, .int .u64 m.1, .int .u64 ((x.f + x.l.length - 1 : Nat) : Int), .slice none 0 0, .int .i64 0] B0.2 rfl rfl rfl rfl rfl rfl rfl rfl rfl) ?_)); rintro ⟨⟩
  refine AG (AC (AB ?_))
  exact AA (.cell 0 (v := .agg #[.int .i64 0, .int .u64 m.1, .int .u64 ((x.f + x.l.length - 1 : Nat) : Int), .slice none 0 0, .int .i64 0]) (Ft (cs := [.int .i64 0, .int .u64 m.1, .int .u64 ((x.f + x.l.length - 1 : Nat) : Int), .slice none 0 0, .int .i64 0]) B0 rfl) rfl rfl) (fun w h => AH () rfl [1, 2, 3] rfl h (fun z hz => by obtain ⟨z2, p2, h2⟩ := (Am.perm (List.Perm.refl _) hz); exact ⟨z2, p2, Am.one (CV hm z2 h2)⟩)) rfl
theorem S2 {p dk lim : Nat} : AV Tryz.prog 33 #[.pointer (some ⟨p, 0, none⟩)] [Ay p dk lim ([])] (fun (_ : Unit) => .int .u64 0) (fun (_ : Unit) => [Ay p dk lim ([])]) := by
 refine Bo (args := [.pointer (some ⟨p, 0, none⟩)]) 14 Tryz.func33 rfl rfl rfl ?_; intro w rs
 refine AX 0 rfl Ay.open_ (fun _ => rfl) ?_; rintro ⟨sv, svs⟩
 refine AL.fact 3 rfl (fun _ h => h.2) ?_; rintro hm
 refine AL.leave [3] rfl rfl ?_
 replace hm : svs.map SegV.m = [] := hm
 have hn : svs.length = 0 := by have := congrArg List.length hm; simpa using this
 refine Ad (Af Ae rfl (Ab (Ar (Ad (Af Ae rfl (Aa rfl (.pointer (some ⟨p, 0, none⟩)) (fun b w hb hH => by exact B4 rfl rfl hb) (Af Ae rfl (Aa rfl (sv) (fun b w hb hH => Ba rfl rfl (Bl C6 rfl) (hH.row 0 rfl) hb) (Aa rfl (.int .i64 ((0 : Nat) : Int)) (fun b w hb hH => BG 1 hn Tryz.underlying74 rfl rfl rfl hH hb) (Aa rfl (.bool true) (fun b w hb hH => A5 rfl rfl rfl (Fw (by omega)) hb) (Ab (AE rfl (Ad ?_)))))))))))))
 refine Af Ae rfl (Ab (AB (Ek ?_)))
 exact AA (.tmp rfl) (fun w h => AH () rfl [0, 1, 2] rfl h (fun z hz => ⟨z, .refl _, Am.one (CV hm z hz)⟩)) rfl
theorem UN {p dk lim : Nat} : AV Tryz.prog 66 #[.pointer (some ⟨p, 0, none⟩)] [Ay p dk lim ([])] (fun (_ : Unit) => .agg #[.int .i64 0, .int .u64 0, .int .u64 0, .slice none 0 0, .int .i64 0]) (fun (_ : Unit) => [Ay p dk lim ([])]) := by
 refine Bo (args := [.pointer (some ⟨p, 0, none⟩)]) 31 Tryz.func66 rfl rfl rfl ?_; intro w rs
 refine AX 0 rfl Ay.open_ (fun _ => rfl) ?_; rintro ⟨sv, svs⟩
 refine AL.fact 3 rfl (fun _ h => h.2) ?_; rintro hm
 refine AL.leave [3] rfl rfl ?_
 replace hm : svs.map SegV.m = [] := hm
 have hn : svs.length = 0 := by have := congrArg List.length hm; simpa using this
 refine Ad (Af Ae rfl (Al (post := fun g => [cell g 53 #[.int .i64 0, .int .u64 0, .int .u64 0, .slice none 0 0, .int .i64 0], cell p 76 #[.pointer (some ⟨dk, 0, none⟩), .int .i64 (lim : Int), sv], Aj 83 2 encSg sv svs, Bc svs]) rfl (Cl BQ rfl) ?_)); rintro g
 refine Ab (Ar (Ad (Af Ae rfl (Aa rfl (.pointer (some ⟨p, 0, none⟩)) (fun b w hb hH => by exact B4 rfl rfl hb) (Af Ae rfl (Aa rfl (sv) (fun b w hb hH => Ba rfl rfl (Bl C6 rfl) (hH.row 1 rfl) hb) (Aa rfl (.int .i64 ((0 : Nat) : Int)) (fun b w hb hH => BG 2 hn Tryz.underlying74 rfl rfl rfl hH hb) (Aa rfl (.bool true) (fun b w hb hH => A5 rfl rfl rfl (Fw (by omega)) hb) (Ab (AE rfl (Ad (Af Ae rfl (Aa rfl (.agg #[.int .i64 0, .int .u64 0, .int .u64 0, .slice none 0 0, .int .i64 0]) (fun b w hb hH => BA rfl rfl (by kernel_rfl) hb) ?_)))))))))))))
 refine AR (post := fun _ => [cell g 53 #[.int .i64 0, .int .u64 0, .int .u64 0, .slice none 0 0, .int .i64 0], cell p 76 #[.pointer (some ⟨dk, 0, none⟩), .int .i64 (lim : Int), sv], Aj 83 2 encSg sv svs, Bc svs]) rfl rfl (AZ 0 (v := .agg #[.int .i64 0, .int .u64 0, .int .u64 0, .slice none 0 0, .int .i64 0]) #[.int .i64 0, .int .u64 0, .int .u64 0, .slice none 0 0, .int .i64 0] B0.2 rfl rfl rfl rfl rfl rfl rfl rfl rfl) ?_; rintro ⟨⟩
 refine Ab (AB (Ek ?_))
 exact AA (.cell 0 (v := .agg #[.int .i64 0, .int .u64 0, .int .u64 0, .slice none 0 0, .int .i64 0]) (Ft (cs := [.int .i64 0, .int .u64 0, .int .u64 0, .slice none 0 0, .int .i64 0]) B0 rfl) rfl rfl) (fun w h => AH () rfl [1, 2, 3] rfl h (fun z hz => ⟨z, .refl _, Am.one (CV hm z hz)⟩)) rfl
end Go.Proofs.YtjcfimmcogkopaaGreatDoor.Sep
namespace Go.Proofs.YtjcfimmcogkopaaGreatDoor.Sep
open Go.RowKit
open Go.Proofs.YtjcfimmcogkopaaGreatDoor.Mem (Bb Ci Chg Aw)
section
variable {P : Program} {Q : Exit → Act → World → Prop} {n : Nat} {B : Nat → Prop} {w0 : World} {rs : List Ass} {env : List (Nat × Value)}
theorem V8 {c : Code} (h : AL P (Exit.noGoto Q) n env B w0 rs c) : AL P Q n env B w0 rs (.scope c) := fun a w hF hH => wp_scope_straight (h a w hF hH)
theorem V9 {l : Nat} (h : CE Q n env B w0 rs .normal) : AL P Q n env B w0 rs (.label l) := fun a w hF hH => wp_label (h a w hF hH)
end
theorem Xr {e : TypeId} {k : Nat} {α : Type} {enc : α → List Value} {v : Value} {l : List α} {j : Nat} {a : α} {m : Nat} (hj : l[j]? = some a) {rs : List RowT} (h : Aj e k enc v l rs) : (AN v m).cells = #[AN v m] ∧ (AN v m).oneCell' = true := by
  have hlt := (List.getElem?_eq_some_iff.1 hj).1
  rcases h with ⟨h1, h2, h3⟩ | ⟨g, c, cs, h2, _⟩
  · subst h2; exact absurd hlt (Nat.not_lt_zero _)
  · subst h2
    exact ⟨rfl, rfl⟩
def Cg (d : DiskD) (f : Nat) : List (Int × Nat) := (Ca d f).map fun e => (e.1.t, e.2)
def marksM (d : DiskD) (fs : List Nat) : SegsM := fs.map fun f => (f, Cg d f)
def Ga (d : DiskD) (fs : List Nat) (j i : Nat) : SegsM := marksM d (fs.take j) ++ match fs.drop j with | [] => [] | f :: r => (f, (Cg d f).take i) :: r.map fun f => (f, [])
theorem X2 (d : DiskD) (fs : List Nat) : Ga d fs 0 0 = fs.map fun f => (f, []) := by
 unfold Ga marksM
 cases fs <;> simp
theorem En {α : Type} {l : List α} {j : Nat} {a : α} (h : l[j]? = some a) : l.drop j = a :: l.drop (j + 1) := by
 have hlt := (List.getElem?_eq_some_iff.1 h).1
 rw [List.drop_eq_getElem_cons hlt, (List.getElem?_eq_some_iff.1 h).2]
theorem NX {d : DiskD} {fs : List Nat} {j f i : Nat} (h : fs[j]? = some f) : Ga d fs j i = marksM d (fs.take j) ++ (f, (Cg d f).take i) :: (fs.drop (j + 1)).map fun f => (f, []) := by
 unfold Ga
 rw [En h]
theorem UO {d : DiskD} {fs : List Nat} {j f : Nat} (h : fs[j]? = some f) : Ga d fs j (Ca d f).length = Ga d fs (j + 1) 0 := by
 have h1 : (Cg d f).take (Ca d f).length = Cg d f := List.take_of_length_le (by unfold Cg; rw [List.length_map]; exact Nat.le_refl _)
 have e1 : marksM d (fs.take (j + 1)) = marksM d (fs.take j) ++ [(f, Cg d f)] := by rw [List.take_add_one, h]; simp [marksM]
 rw [NX h, h1]
 unfold Ga
 rw [e1, List.append_assoc]
 congr 1
 cases fs.drop (j + 1) <;> simp
theorem RO {d : DiskD} {fs : List Nat} {N i : Nat} (h : fs.length = N) : Ga d fs N i = marksM d fs := by
 unfold Ga
 rw [List.drop_of_length_le (by omega), List.take_of_length_le (by omega), List.append_nil]
theorem QP {d : DiskD} {fs : List Nat} {svs : List SegV} {j f i : Nat} (h : fs[j]? = some f) (hm : svs.map SegV.m = Ga d fs j i) : ∃ x, svs[j]? = some x ∧ x.f = f ∧ x.l = (Cg d f).take i := by
  have hlt := (List.getElem?_eq_some_iff.1 h).1
  have h1 := congrArg (·[j]?) hm
  simp only [List.getElem?_map] at h1
  rw [NX h, List.getElem?_append_right (by simp [marksM]; omega)] at h1
  have hl : (marksM d (fs.take j)).length = j := by simp [marksM]; omega
  rw [hl, Nat.sub_self] at h1
  cases hx : svs[j]? with
  | none => rw [hx] at h1; simp at h1
  | some x =>
    rw [hx] at h1
    simp [SegV.m] at h1
    exact ⟨x, rfl, h1.1, h1.2⟩
theorem RP {d : DiskD} {fs : List Nat} {svs : List SegV} {j i : Nat} (hm : svs.map SegV.m = Ga d fs j i) : svs.map SegV.f = fs := by
  have h1 := congrArg (List.map (·.1)) hm
  rw [List.map_map] at h1
  have h2 : (Ga d fs j i).map (·.1) = fs := by
    have e : fs = fs.take j ++ fs.drop j := (List.take_append_drop j fs).symm
    unfold Ga
    rw [List.map_append]
    conv => rhs; rw [e]
    congr 1
    · simp [marksM, Function.comp_def]
    · cases fs.drop j <;> simp [Function.comp_def]
  rw [h2] at h1
  exact h1
theorem Xs {d : DiskD} {fs : List Nat} {svs : List SegV} {j f i n : Nat} {e : EntD} {x : SegV} {A : Option Addr} {c : Nat} (h : fs[j]? = some f) (hm : svs.map SegV.m = Ga d fs j i) (hx : svs[j]? = some x) (hxf : x.f = f) (hxl : x.l = (Cg d f).take i) (he : (Ca d f)[i]? = some (e, n)) :
  (svs.set j ⟨x.f, x.l ++ [(e.t, n)], A, c⟩).map SegV.m = Ga d fs j (i + 1) := by
 have hlt := (List.getElem?_eq_some_iff.1 h).1
 rw [List.map_set, hm, NX h, NX h]
 have hl : (marksM d (fs.take j)).length = j := by simp [marksM]; omega
 rw [List.set_append_right _ _ (by omega), hl, Nat.sub_self, List.set_cons_zero]
 congr 2
 show (x.f, x.l ++ [(e.t, n)]) = _
 rw [hxf, hxl, List.take_add_one]
 have : (Cg d f)[i]? = some (e.t, n) := by unfold Cg; rw [List.getElem?_map, he]; rfl
 rw [this]
 rfl
def AD (L : List EntD) : Int × Int := match L.getLast? with | none => (0, 0) | some e => (e.t, e.i)
theorem D3 (L : List EntD) (e : EntD) : AD (L ++ [e]) = (e.t, e.i) := by unfold AD; rw [List.getLast?_append]; rfl
def Cr (d : DiskD) (fs : List Nat) (j : Nat) (f i : Nat) : List EntD := Bz d (fs.take j) ++ ((Ca d f).take i).map (·.1)
theorem S3 {d : DiskD} {fs : List Nat} {j f i n : Nat} {e : EntD} (he : (Ca d f)[i]? = some (e, n)) : Cr d fs j f (i + 1) = Cr d fs j f i ++ [e] := by
 unfold Cr
 rw [List.take_add_one, he, List.map_append, ← List.append_assoc]
 rfl
theorem Xt (d : DiskD) (fs : List Nat) (j f : Nat) : Cr d fs j f 0 = Bz d (fs.take j) := by unfold Cr; simp
theorem UP {d : DiskD} {fs : List Nat} {j f : Nat} (h : fs[j]? = some f) : Cr d fs j f (Ca d f).length = Bz d (fs.take (j + 1)) := by
 unfold Cr
 rw [List.take_length, GZ h]
def Cy (g : Nat) (m : Int × Int) : Ass := fun rs => ∃ (k : Int) (A : Option Addr) (n c : Nat) (z : Int), Am [cell g 53 #[.int .i64 k, .int .u64 m.1, .int .u64 m.2, .slice A n c, .int .i64 z]] rs
structure PrevV where
  k : Int
  A : Option Addr
  n : Nat
  c : Nat
  z : Int
theorem Cy.open_ {g : Nat} {m : Int × Int} : ∀ rs, Cy g m rs → ∃ x : PrevV, Am [cell g 53 #[.int .i64 x.k, .int .u64 m.1, .int .u64 m.2, .slice x.A x.n x.c, .int .i64 x.z]] rs := fun _ ⟨k, A, n, c, z, h⟩ => ⟨⟨k, A, n, c, z⟩, h⟩
theorem JQ {g : Nat} {m : Int × Int} {k z t i : Int} {A : Option Addr} {n c : Nat} (h : (t, i) = m) : ∀ rs, Am [cell g 53 #[.int .i64 k, .int .u64 t, .int .u64 i, .slice A n c, .int .i64 z]] rs → Cy g m rs := fun _ hz => by subst h; exact ⟨k, A, n, c, z, hz⟩
def QQ (sv : Value) (gs gp : Nat) (d : DiskD) (fs : List Nat) (j f i : Nat) : Ass := fun rs => ∃ svs : List SegV, Am [Aj 83 2 encSg sv svs, Bc svs, cell gs 124 #[AN sv (j * 2)], Cy gp (AD (Cr d fs j f i)), fact (svs.map SegV.m = Ga d fs j i)] rs
theorem QQ.open_ {sv : Value} {gs gp : Nat} {d : DiskD} {fs : List Nat} {j f i : Nat} : ∀ rs, QQ sv gs gp d fs j f i rs → ∃ svs : List SegV, Am [Aj 83 2 encSg sv svs, Bc svs, cell gs 124 #[AN sv (j * 2)], Cy gp (AD (Cr d fs j f i)), fact (svs.map SegV.m = Ga d fs j i)] rs := fun _ h => h
theorem UQ {sv : Value} {gs gp : Nat} {d : DiskD} {fs : List Nat} {j f i : Nat} {svs : List SegV} (h : svs.map SegV.m = Ga d fs j i) : ∀ rs, Am [Aj 83 2 encSg sv svs, Bc svs, cell gs 124 #[AN sv (j * 2)], Cy gp (AD (Cr d fs j f i))] rs → QQ sv gs gp d fs j f i rs := fun _ hz => ⟨svs, D1 h hz⟩
theorem Wa {sv : Value} {gs gp : Nat} {d : DiskD} {fs : List Nat} {j f : Nat} {svs : List SegV} (h : svs.map SegV.m = Ga d fs j 0) : ∀ rs, Am [Aj 83 2 encSg sv svs, Bc svs, cell gs 124 #[AN sv (j * 2)], Cy gp (AD (Bz d (fs.take j)))] rs → QQ sv gs gp d fs j f 0 rs := fun rs hz => UQ h rs (by rw [Xt]; exact hz)
theorem QQ.end_ {sv : Value} {gs gp : Nat} {d : DiskD} {fs : List Nat} {j f : Nat} (hf : fs[j]? = some f) : ∀ rs, QQ sv gs gp d fs j f (Ca d f).length rs → ∃ svs : List SegV, Am [Aj 83 2 encSg sv svs, Bc svs, cell gs 124 #[AN sv (j * 2)], Cy gp (AD (Bz d (fs.take (j + 1)))), fact (svs.map SegV.m = Ga d fs j (Ca d f).length)] rs := fun _ h => by
 rw [← UP hf]
 exact h
theorem NY {d : DiskD} {fs : List Nat} {j f N : Nat} (hf : fs[j]? = some f) (hL : (Bz d fs).length ≤ N) : (Ca d f).length ≤ N := by
 have h1 := Ph d fs (j + 1)
 rw [GZ hf] at h1
 simp only [List.length_append, List.length_map] at h1
 omega
theorem Wb {g : Nat} {d : DiskD} {fs : List Nat} : ∀ rs, Am [cell g 53 #[.int .i64 0, .int .u64 0, .int .u64 0, .slice none 0 0, .int .i64 0]] rs → Cy g (AD (Bz d (fs.take 0))) rs := JQ (by rw [List.take_zero]; rfl)
theorem Le {svs : List SegV} {ss : SegsM} {g : Nat} {m : Int × Int} (h : svs.map SegV.m = ss) : ∀ rs, Am [Bc svs, Cy g m] rs → Fk [Bc svs, Cy g m, fact (svs.map SegV.m = ss)] rs := fun rs hz => Jd rs (D1 h hz)
theorem JR {svs : List SegV} {j : Nat} {x : SegV} (hj : svs[j]? = some x) : ∀ rs, Bc svs rs → ∃ _ : Unit, Am [AY (fun x : SegV => Aj 137 2 encMk x.v x.l) (svs.take j), Aj 137 2 encMk (.slice x.A x.l.length x.c) x.l, AY (fun x : SegV => Aj 137 2 encMk x.v x.l) (svs.drop (j + 1))] rs := fun rs h => MU hj rs h
theorem Mj {svs : List SegV} {j : Nat} {y : SegV} (hj : j < svs.length) : ∀ rs, Am [AY (fun x : SegV => Aj 137 2 encMk x.v x.l) (svs.take j), Aj 137 2 encMk (.slice y.A y.l.length y.c) y.l, AY (fun x : SegV => Aj 137 2 encMk x.v x.l) (svs.drop (j + 1))] rs → Bc (svs.set j y) rs := fun rs h => by
 have h1 := MV rs h
 rw [OD hj] at h1
 exact h1
end Go.Proofs.YtjcfimmcogkopaaGreatDoor.Sep
namespace Go.Proofs.YtjcfimmcogkopaaGreatDoor.Sep
open Go.RowKit
open Go.Proofs.YtjcfimmcogkopaaGreatDoor.Mem (Bb Ci Chg Aw)
section
variable {P : Program} {ops : Array Oper} {Q : Exit → Act → World → Prop} {n d D : Nat} {env : List (Nat × Value)} {B : Nat → Prop} {w0 w : World} {os : List Ass} {o : Oper} {a : Act} {rest : List Oper}
variable {f i : Nat} {listed : Array Bool}
theorem UR {id : Nat} {K : Exit → Act → World → Prop} {a : Act} {w : World} (h : K .normal a w) : Exit.inBlock id K (.exit id) a w := by
 show (if id = id then _ else _)
 rw [if_pos rfl]
 exact h
end
end Go.Proofs.YtjcfimmcogkopaaGreatDoor.Sep
