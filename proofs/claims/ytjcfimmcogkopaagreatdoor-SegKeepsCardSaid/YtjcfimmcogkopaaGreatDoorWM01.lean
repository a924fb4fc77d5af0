/-
  SgU · SgV · Beh
-/
import Derived.Test.YtjcfimmcogkopaaGreatDoorWX01
import Derived.Test.YtjcfimmcogkopaaGreatDoorWI01
import Derived.Test.YtjcfimmcogkopaaGreatDoorWL02
import Derived.Scope
import Derived.OrdersIn
set_option linter.unusedSimpArgs false
set_option linter.unusedVariables false
set_option maxHeartbeats 4000000
set_option maxRecDepth 100000
namespace Go.Proofs.YtjcfimmcogkopaaGreatDoor.Sep
variable {Ap Ax : Option Addr} {cp cx dk f lim np nx p : Nat} {l : List (Int × Nat)} {ss : SegsM} {svs : List SegV} {x : SegV}
open Go.RowKit
open Go.Proofs.YtjcfimmcogkopaaGreatDoor.Mem (AG BC Chg Ak)
theorem B6 {w0 w : World} {B : Nat → Prop} {os : List Ass} {j : Nat} (i : Nat) (hi : os[i]? = some (AX svs)) (hj : svs[j]? = some x) (hH : Hp B w0 w os) : Dh w 2 (.slice x.A x.l.length x.c) x.l.length (flat encMk x.l) := by
 obtain ⟨ys, h1, h2⟩ := hH.each i hi hj
 exact h1.all GV h2
theorem BQ (h : svs.map SegV.m = ss ++ [(f, l)]) : ∃ x, svs[ss.length]? = some x ∧ x.f = f ∧ x.l = l ∧ svs.length = ss.length + 1 := by
  have h1 := congrArg (·[ss.length]?) h
  simp only [List.getElem?_map] at h1
  rw [List.getElem?_append_right (Nat.le_refl _), Nat.sub_self] at h1
  have h2 := congrArg List.length h
  rw [List.length_map, List.length_append] at h2
  cases hx : svs[ss.length]? with
  | none => rw [hx] at h1; simp at h1
  | some x =>
    rw [hx] at h1
    simp [SegV.m] at h1
    exact ⟨x, rfl, h1.1, h1.2, h2⟩
theorem S7 (w : World) {kp kx zp zx pt pi xt xi : Int} (h : pi = 0) : Calls Tryz.prog 68 #[.agg #[.int .i64 kp, .int .u64 pt, .int .u64 pi, .slice Ap np cp, .int .i64 zp], .agg #[.int .i64 kx, .int .u64 xt, .int .u64 xi, .slice Ax nx cx, .int .i64 zx]] w fun e w' => e = .returned (.bool true) ∧ Below w.heap.size w w' := by
 refine FR (args := [.agg #[.int .i64 kp, .int .u64 pt, .int .u64 pi, .slice Ap np cp, .int .i64 zp], .agg #[.int .i64 kx, .int .u64 xt, .int .u64 xi, .slice Ax nx cx, .int .i64 zx]]) 23 Tryz.func68 rfl rfl rfl (Al (Am Ac rfl (I5 ?_))); rintro g1
 refine I5 ?_; rintro g2
 refine Ce ?_
 exact An (.tmp rfl) (fun w h => ⟨rfl, Ak h.up⟩) rfl
theorem S8 (w : World) {kp kx zp zx pt pi xt xi : Int} (h0 : pi ≠ 0) (h1 : xi = pi + 1) (h2 : pt ≤ xt) (h3 : 0 ≤ pi ∧ pi ≤ 72057594037927935) : Calls Tryz.prog 68 #[.agg #[.int .i64 kp, .int .u64 pt, .int .u64 pi, .slice Ap np cp, .int .i64 zp], .agg #[.int .i64 kx, .int .u64 xt, .int .u64 xi, .slice Ax nx cx, .int .i64 zx]] w fun e w' => e = .returned (.bool true) ∧ Below w.heap.size w w' := by
 refine FR (args := [.agg #[.int .i64 kp, .int .u64 pt, .int .u64 pi, .slice Ap np cp, .int .i64 zp], .agg #[.int .i64 kx, .int .u64 xt, .int .u64 xi, .slice Ax nx cx, .int .i64 zx]]) 23 Tryz.func68 rfl rfl rfl (Al (Am Ac rfl (I5 ?_))); rintro g1
 refine I5 ?_; rintro g2
 refine Ci ?_
 refine Ai ?_
 exact An (.tmp rfl) (fun w h => ⟨rfl, Ak h.up⟩) rfl
theorem Kv (w : World) {kp kx zp zx pt pi xt xi : Int} (h : pi = 0 ∨ (pi ≠ 0 ∧ xi = pi + 1 ∧ pt ≤ xt)) (h3 : 0 ≤ pi ∧ pi ≤ 72057594037927935) : Calls Tryz.prog 68 #[.agg #[.int .i64 kp, .int .u64 pt, .int .u64 pi, .slice Ap np cp, .int .i64 zp], .agg #[.int .i64 kx, .int .u64 xt, .int .u64 xi, .slice Ax nx cx, .int .i64 zx]] w fun e w' => e = .returned (.bool true) ∧ Below w.heap.size w w' := by
  rcases h with h0 | ⟨h0, h1, h2⟩
  · exact S7 w h0
  · exact S8 w h0 h1 h2 h3
theorem GD (w : World) {m : Int × Nat} (hu : Dh w 2 (.slice x.A x.l.length x.c) x.l.length (flat encMk x.l)) (hm : x.l[x.l.length - 1]? = some m) (h0 : 0 < x.l.length) (hl : x.l.length ≤ 1000000) : Calls Tryz.prog 94 #[.agg #[.int .u64 (x.f : Int), .slice x.A x.l.length x.c]] w fun e w' => e = .returned (.int .i64 (m.2 : Int)) ∧ Below w.heap.size w w' := by
 refine FR (args := [.agg #[.int .u64 (x.f : Int), .slice x.A x.l.length x.c]]) 12 Tryz.func94 rfl rfl rfl (Al (Am Ac rfl (I5 ?_))); rintro g1
 refine AV ?_
 refine Aa rfl (.int .i64 (x.l.length : Int)) (fun b w hb hH => AJ ((Lw hu hH)) Tryz.underlying81 rfl rfl hb) (Aa rfl (.int .i64 ((x.l.length - 1 : Nat) : Int)) (fun b w hb hH => Ay rfl rfl rfl rfl (by rw [IntWalk.i64_in _ (by omega)]; omega) hb) (Aa rfl (AN (.slice x.A x.l.length x.c) ((x.l.length - 1) * 2)) (fun b w hb hH => Dp GV ((Lw hu hH)) B4 (j := (x.l.length - 1)) hm rfl rfl rfl hb) (Aa rfl (AN (.slice x.A x.l.length x.c) ((x.l.length - 1) * 2 + 1)) (fun b w hb hH => TR GV (by decide) ((Lw hu hH)) (j := (x.l.length - 1)) hm IA rfl rfl hb) (Aa rfl (.int .i64 (m.2 : Int)) (fun b w hb hH => De GV (by decide) ((Lw hu hH)) (j := (x.l.length - 1)) hm Hd (off := 1) rfl rfl rfl hb) (Aq ?_)))))
 exact An (.tmp rfl) (fun w h => ⟨rfl, Ak h.up⟩) rfl
theorem QT (w : World) (h0 : 0 < x.l.length) (hl : x.l.length ≤ 1000000) (hf : x.f ≤ 72057594037927935) (hu : Dh w 2 (.slice x.A x.l.length x.c) x.l.length (flat encMk x.l)) : Calls Tryz.prog 89 #[.agg #[.int .u64 (x.f : Int), .slice x.A x.l.length x.c]] w fun e w' => e = .returned (.int .u64 ((x.f + x.l.length - 1 : Nat) : Int)) ∧ Below w.heap.size w w' := by
 refine FR (args := [.agg #[.int .u64 (x.f : Int), .slice x.A x.l.length x.c]]) 11 Tryz.func89 rfl rfl rfl (Al (Am Ac rfl (I5 ?_))); rintro g1
 refine AV ?_
 refine Aa rfl (.int .i64 (x.l.length : Int)) (fun b w hb hH => AJ ((Lw hu hH)) Tryz.underlying81 rfl rfl hb) (Ai ?_)
 refine Aa rfl (.int .u64 ((x.f + x.l.length : Nat) : Int)) (fun b w hb hH => Ay rfl rfl rfl rfl (by rw [IntWalk.u64_in _ (by omega)]; omega) hb) (Aa rfl (.int .u64 ((x.f + x.l.length - 1 : Nat) : Int)) (fun b w hb hH => Ay rfl rfl rfl rfl (by rw [IntWalk.u64_in _ (by omega)]; omega) hb) (Aq ?_))
 exact An (.tmp rfl) (fun w h => ⟨rfl, Ak h.up⟩) rfl
theorem Bm {n : Nat} {sv : Value} (hn : svs.length = n + 1) (hl : n ≤ 1000000) : AA Tryz.prog 86 #[.pointer (some ⟨p, 0, none⟩)] [cell p 76 #[.pointer (some ⟨dk, 0, none⟩), .int .i64 (lim : Int), sv], Af 83 2 encSg sv svs] (fun (_ : Unit) => AN sv (n * 2)) (fun (_ : Unit) => [cell p 76 #[.pointer (some ⟨dk, 0, none⟩), .int .i64 (lim : Int), sv], Af 83 2 encSg sv svs]) := by
 refine AP (args := [.pointer (some ⟨p, 0, none⟩)]) 14 Tryz.func86 rfl rfl rfl ?_; intro w rs
 refine AK ?_
 refine Bk 11 0 [⟨.quiet, [], fun _ => .pointer (some ⟨p, 0, none⟩), []⟩, ⟨.quiet, [], fun _ => .pointer (some ⟨p, 0, none⟩), [0]⟩, ⟨.quiet, [], fun _ => .pointer (some ⟨p, 2, none⟩), [1]⟩, ⟨.quiet, [], fun _ => sv, [2]⟩, ⟨.quiet, [], fun _ => .pointer (some ⟨p, 0, none⟩), []⟩, ⟨.quiet, [], fun _ => .pointer (some ⟨p, 0, none⟩), [4]⟩, ⟨.quiet, [], fun _ => .pointer (some ⟨p, 2, none⟩), [5]⟩, ⟨.quiet, [], fun _ => sv, [6]⟩, ⟨.quiet, [], fun _ => .int .i64 ((n + 1 : Nat) : Int), [7]⟩, ⟨.quiet, [], fun _ => .int .i64 (n : Int), [8]⟩, ⟨.quiet, [], fun _ => AN sv (n * 2), [3, 9]⟩] [(0, .pointer (some ⟨p, 0, none⟩)), (2, .pointer none)] (fun _ => [cell p 76 #[.pointer (some ⟨dk, 0, none⟩), .int .i64 (lim : Int), sv], Af 83 2 encSg sv svs]) (by kernel_rfl) (by kernel_rfl) ⟨rfl, rfl, trivial⟩ rfl ?_ ?_
 refine Ai ?_
 refine Ai ?_
 refine Ai ?_
 refine Ai ?_
 refine Ai ?_
 refine Ai ?_
 refine Ai ?_
 refine Ai ?_
 refine Ad (by exact ⟨rfl, fun b w hH hb => A7 1 hn Tryz.underlying74 rfl rfl rfl hH hb⟩) (Ad (by exact ⟨rfl, fun b w hH hb => Ay rfl rfl rfl rfl (by rw [IntWalk.i64_in _ (by omega)]; omega) hb⟩) (Ad (by exact ⟨rfl, fun b w hH hb => Ez 1 Bg CI rfl n (by omega) rfl rfl rfl hH hb⟩) ?_))
 exact Bv
 refine A5.keep (env' := [(2, .pointer none), (13, AN sv (n * 2))]) ⟨rfl, rfl, trivial⟩ (Aq ?_)
 exact An (.tmp rfl) (fun w h => As () rfl [0, 1] rfl h DK) rfl
theorem S9 (hl : ss.length ≤ 1000000) (hl2 : l.length ≤ 1000000) (hf : f ≤ 72057594037927935) (h0 : l ≠ []) : AA Tryz.prog 33 #[.pointer (some ⟨p, 0, none⟩)] [Ao p dk lim (ss ++ [(f, l)])] (fun (_ : Unit) => .int .u64 ((f + l.length - 1 : Nat) : Int)) (fun (_ : Unit) => [Ao p dk lim (ss ++ [(f, l)])]) := by
 refine AP (args := [.pointer (some ⟨p, 0, none⟩)]) 14 Tryz.func33 rfl rfl rfl ?_; intro w rs
 refine oC 0 Ao.open_ ?_; rintro ⟨sv, svs⟩
 refine AH.fact 3 rfl (fun _ h => h.2) ?_; rintro hm
 refine lC [3] ?_
 replace hm : svs.map SegV.m = ss ++ [(f, l)] := hm
 obtain ⟨x, hx, rfl, rfl, hn⟩ := BQ hm
 have hl0 : 0 < x.l.length := List.length_pos_iff.2 h0
 refine Ce ?_
 refine Aa rfl (.int .i64 ((ss.length + 1 : Nat) : Int)) (fun b w hb hH => A7 1 hn Tryz.underlying74 rfl rfl rfl hH hb) (Ce ?_)
 refine Am Ac rfl (CE [0, 1] (Bm hn (by omega)) ?_)
 refine Aa rfl (AN sv (ss.length * 2)) (fun b w hb hH => A6 1 rfl (j := ss.length) (List.getElem?_eq_some_iff.1 hx).1 rfl rfl hH hb) ?_
 refine Aa rfl (.agg (encSg x).toArray) (fun b w hb hH => CD CI (by decide) (hH.vec 1 rfl CI) (j := ss.length) hx Bj rfl rfl hb) (FD (fun w hH => QT w hl0 hl2 hf (B6 2 rfl hx hH)) ?_)
 refine Aq ?_
 exact An (.tmp rfl) (fun w h => As () rfl [0, 1, 2] rfl h (fun z hz => by obtain ⟨z2, p2, h2⟩ := (Ae.perm (List.Perm.refl _) hz); exact ⟨z2, p2, Ae.one (Ch hm z2 h2)⟩)) rfl
theorem UZ (hl : ss.length ≤ 1000000) (hl2 : l.length ≤ 1000000) (hf : f ≤ 72057594037927935) (h0 : l ≠ []) {m : Int × Nat} (hm1 : l[l.length - 1]? = some m) : AA Tryz.prog 66 #[.pointer (some ⟨p, 0, none⟩)] [Ao p dk lim (ss ++ [(f, l)])] (fun (_ : Unit) => .agg #[.int .i64 0, .int .u64 m.1, .int .u64 ((f + l.length - 1 : Nat) : Int), .slice none 0 0, .int .i64 0]) (fun (_ : Unit) => [Ao p dk lim (ss ++ [(f, l)])]) := by
  refine AP (args := [.pointer (some ⟨p, 0, none⟩)]) 31 Tryz.func66 rfl rfl rfl ?_; intro w rs
  refine oC 0 Ao.open_ ?_; rintro ⟨sv, svs⟩
  refine AH.fact 3 rfl (fun _ h => h.2) ?_; rintro hm
  refine lC [3] ?_
  replace hm : svs.map SegV.m = ss ++ [(f, l)] := hm
  obtain ⟨x, hx, rfl, rfl, hn⟩ := BQ hm
  have hl0 : 0 < x.l.length := List.length_pos_iff.2 h0
  refine Al (Am Ac rfl (K5 ?_)); rintro g
  refine BD ?_
  refine Aa rfl (.int .i64 ((ss.length + 1 : Nat) : Int)) (fun b w hb hH => A7 2 hn Tryz.underlying74 rfl rfl rfl hH hb) (Ce ?_)
  refine Am Ac rfl (CE [1, 2] (Bm hn (by omega)) ?_)
  refine Aq ?_
  refine Bk 18 1 [⟨.quiet, [none], fun _ => AN sv (ss.length * 2), []⟩, ⟨.quiet, [none], fun _ => AN sv (ss.length * 2), [0]⟩, ⟨.quiet, [none], fun _ => .agg (encSg x).toArray, [1]⟩, ⟨.actv 0, [some false], fun _ => .int .u64 ((x.f + x.l.length - 1 : Nat) : Int), [2]⟩, ⟨.quiet, [none], fun _ => AN sv (ss.length * 2), []⟩, ⟨.quiet, [none], fun _ => AN sv (ss.length * 2), [4]⟩, ⟨.quiet, [none], fun _ => AN sv (ss.length * 2 + 1), [5]⟩, ⟨.quiet, [none], fun _ => .slice x.A x.l.length x.c, [6]⟩, ⟨.quiet, [none], fun _ => AN sv (ss.length * 2), []⟩, ⟨.quiet, [none], fun _ => AN sv (ss.length * 2), [8]⟩, ⟨.quiet, [none], fun _ => AN sv (ss.length * 2 + 1), [9]⟩, ⟨.quiet, [none], fun _ => .slice x.A x.l.length x.c, [10]⟩, ⟨.quiet, [none], fun _ => .int .i64 (x.l.length : Int), [11]⟩, ⟨.quiet, [none], fun _ => .int .i64 ((x.l.length - 1 : Nat) : Int), [12]⟩, ⟨.quiet, [none], fun _ => AN (.slice x.A x.l.length x.c) ((x.l.length - 1) * 2), [7, 13]⟩, ⟨.quiet, [none], fun _ => AN (.slice x.A x.l.length x.c) ((x.l.length - 1) * 2 + 0), [14]⟩, ⟨.quiet, [none], fun _ => .int .u64 m.1, [15]⟩, ⟨.quiet, [some true], fun _ => .agg #[.int .i64 0, .int .u64 m.1, .int .u64 ((x.f + x.l.length - 1 : Nat) : Int), .slice none 0 0, .int .i64 0], [3, 16]⟩] [(2, .pointer (some ⟨g, 0, none⟩)), (3, AN sv (ss.length * 2))] (fun ρ => match ρ with | [r0] => [cell g 53 #[.int .i64 0, .int .u64 0, .int .u64 0, .slice none 0 0, .int .i64 0], cell p 76 #[.pointer (some ⟨dk, 0, none⟩), .int .i64 (lim : Int), sv], Af 83 2 encSg sv svs, AX svs] | _ => []) (by kernel_rfl) (by kernel_rfl) ⟨rfl, rfl, trivial⟩ rfl ?_ ?_
  refine Ai ?_
  refine Ad (by intro r0_; exact ⟨rfl, fun b w hH hb => A6 2 rfl (j := ss.length) (List.getElem?_eq_some_iff.1 hx).1 rfl rfl hH hb⟩) ?_
  refine Ad (by intro r0_; exact ⟨rfl, fun b w hH hb => CD CI (by decide) (hH.vec 2 rfl CI) (j := ss.length) hx Bj rfl rfl hb⟩) (Ad (by exact ⟨rfl, AR.su (Da (Ah Tryz.func89 (by kernel_rfl) rfl) (fun w hH => QT w hl0 hl2 hf (B6 3 rfl hx hH)) rfl rfl rfl) rfl⟩) (Ai ?_))
  refine Ad (by intro r0_; exact ⟨rfl, fun b w hH hb => A6 2 rfl (j := ss.length) (List.getElem?_eq_some_iff.1 hx).1 rfl rfl hH hb⟩) ?_
  refine AK ?_
  refine Ad (by intro r0_; exact ⟨rfl, fun b w hH hb => A6 2 rfl (j := ss.length) (List.getElem?_eq_some_iff.1 hx).1 rfl rfl hH hb⟩) ?_
  refine Ai ?_
  refine Ai ?_
  refine Ad (by intro r0_; exact ⟨rfl, fun b w hH hb => AJ ((B6 3 rfl hx hH)) Tryz.underlying81 rfl rfl hb⟩) (Ad (by intro r0_; exact ⟨rfl, fun b w hH hb => Ay rfl rfl rfl rfl (by rw [IntWalk.i64_in _ (by omega)]; omega) hb⟩) (Ad (by intro r0_; exact ⟨rfl, fun b w hH hb => Dp GV ((B6 3 rfl hx hH)) B4 (j := (x.l.length - 1)) hm1 rfl rfl rfl hb⟩) (Ad (by intro r0_; exact ⟨rfl, fun b w hH hb => TR GV (by decide) ((B6 3 rfl hx hH)) (j := (x.l.length - 1)) hm1 Iz rfl rfl hb⟩) (Ad (by intro r0_; exact ⟨rfl, fun b w hH hb => De GV (by decide) ((B6 3 rfl hx hH)) (j := (x.l.length - 1)) hm1 F6 (off := 0) rfl rfl rfl hb⟩) (Ad (by intro v0_; exact ⟨rfl, fun b w hH hb => AY rfl rfl (by kernel_rfl) hb⟩) ?_)))))
  exact Bv
  intro v0_
  refine A5.keep (env' := [(2, .pointer (some ⟨g, 0, none⟩)), (30, .agg #[.int .i64 0, .int .u64 m.1, .int .u64 ((x.f + x.l.length - 1 : Nat) : Int), .slice none 0 0, .int .i64 0])]) ⟨rfl, rfl, trivial⟩ (Am Ac rfl (Bt (post := fun _ => [cell g 53 #[.int .i64 0, .int .u64 m.1, .int .u64 ((x.f + x.l.length - 1 : Nat) : Int), .slice none 0 0, .int .i64 0], cell p 76 #[.pointer (some ⟨dk, 0, none⟩), .int .i64 (lim : Int), sv], Af 83 2 encSg sv svs, AX svs]) rfl rfl (CW 0 (v := .agg #[.int .i64 0, .int .u64 m.1, .int .u64 ((x.f + x.l.length - 1 : Nat) : Int), .slice none 0 0, .int .i64 0]) #[.int .i64 0, .int .u64 m.1, .int .u64 ((x.f + x.l.length - 1 : Nat) : Int), .slice none 0 0, .int .i64 0] Em.2 rfl rfl rfl rfl rfl rfl rfl rfl rfl) ?_)); rintro ⟨⟩
  refine Aq ?_
  exact An (.cell 0 (v := .agg #[.int .i64 0, .int .u64 m.1, .int .u64 ((x.f + x.l.length - 1 : Nat) : Int), .slice none 0 0, .int .i64 0]) (Lj (cs := [.int .i64 0, .int .u64 m.1, .int .u64 ((x.f + x.l.length - 1 : Nat) : Int), .slice none 0 0, .int .i64 0]) Em rfl) rfl rfl) (fun w h => As () rfl [1, 2, 3] rfl h (fun z hz => by obtain ⟨z2, p2, h2⟩ := (Ae.perm (List.Perm.refl _) hz); exact ⟨z2, p2, Ae.one (Ch hm z2 h2)⟩)) rfl
theorem Ta : AA Tryz.prog 33 #[.pointer (some ⟨p, 0, none⟩)] [Ao p dk lim ([])] (fun (_ : Unit) => .int .u64 0) (fun (_ : Unit) => [Ao p dk lim ([])]) := by
 refine AP (args := [.pointer (some ⟨p, 0, none⟩)]) 14 Tryz.func33 rfl rfl rfl ?_; intro w rs
 refine oC 0 Ao.open_ ?_; rintro ⟨sv, svs⟩
 refine AH.fact 3 rfl (fun _ h => h.2) ?_; rintro hm
 refine lC [3] ?_
 replace hm : svs.map SegV.m = [] := hm
 have hn : svs.length = 0 := by have := congrArg List.length hm; simpa using this
 refine Ce ?_
 refine Aa rfl (.int .i64 ((0 : Nat) : Int)) (fun b w hb hH => A7 1 hn Tryz.underlying74 rfl rfl rfl hH hb) (Dc ?_)
 exact An (.tmp rfl) (fun w h => As () rfl [0, 1, 2] rfl h (fun z hz => ⟨z, .refl _, Ae.one (Ch hm z hz)⟩)) rfl
theorem U0 : AA Tryz.prog 66 #[.pointer (some ⟨p, 0, none⟩)] [Ao p dk lim ([])] (fun (_ : Unit) => .agg #[.int .i64 0, .int .u64 0, .int .u64 0, .slice none 0 0, .int .i64 0]) (fun (_ : Unit) => [Ao p dk lim ([])]) := by
 refine AP (args := [.pointer (some ⟨p, 0, none⟩)]) 31 Tryz.func66 rfl rfl rfl ?_; intro w rs
 refine oC 0 Ao.open_ ?_; rintro ⟨sv, svs⟩
 refine AH.fact 3 rfl (fun _ h => h.2) ?_; rintro hm
 refine lC [3] ?_
 replace hm : svs.map SegV.m = [] := hm
 have hn : svs.length = 0 := by have := congrArg List.length hm; simpa using this
 refine Al (Am Ac rfl (K5 ?_)); rintro g
 refine BD ?_
 refine Aa rfl (.int .i64 ((0 : Nat) : Int)) (fun b w hb hH => A7 2 hn Tryz.underlying74 rfl rfl rfl hH hb) (AV ?_)
 refine Am Ac rfl (Aa rfl (.agg #[.int .i64 0, .int .u64 0, .int .u64 0, .slice none 0 0, .int .i64 0]) (fun b w hb hH => AY rfl rfl (by kernel_rfl) hb) (AV ?_))
 exact An (.cell 0 (v := .agg #[.int .i64 0, .int .u64 0, .int .u64 0, .slice none 0 0, .int .i64 0]) (Lj (cs := [.int .i64 0, .int .u64 0, .int .u64 0, .slice none 0 0, .int .i64 0]) Em rfl) rfl rfl) (fun w h => As () rfl [1, 2, 3] rfl h (fun z hz => ⟨z, .refl _, Ae.one (Ch hm z hz)⟩)) rfl
end Go.Proofs.YtjcfimmcogkopaaGreatDoor.Sep
namespace Go.Proofs.YtjcfimmcogkopaaGreatDoor.Sep
variable {A : Option Addr} {d : DiskD} {e : EntD} {f g gp gs i j n : Nat} {fs : List Nat} {sv : Value} {svs : List SegV} {x : SegV} {α : Type}
open Go.RowKit
open Go.Proofs.YtjcfimmcogkopaaGreatDoor.Mem (AG BC Chg Ak)
section
variable {P : Program} {Q : Exit → Act → World → Prop} {n : Nat} {B : Nat → Prop} {w0 : World} {rs : List Ass} {env : List (Nat × Value)}
theorem Wr {c : Code} (h : AH P (Exit.noGoto Q) n env B w0 rs c) : AH P Q n env B w0 rs (.scope c) := fun a w hF hH => wp_scope_straight (h a w hF hH)
theorem Ws {l : Nat} (h : BW Q n env B w0 rs .normal) : AH P Q n env B w0 rs (.label l) := fun a w hF hH => wp_label (h a w hF hH)
end
theorem XU {e : TypeId} {k : Nat} {enc : α → List Value} {v : Value} {l : List α} {a : α} {m : Nat} (hj : l[j]? = some a) {rs : List RowT} (h : Af e k enc v l rs) : (AN v m).cells = #[AN v m] ∧ (AN v m).oneCell' = true := by
  have hlt := (List.getElem?_eq_some_iff.1 hj).1
  rcases h with ⟨h1, h2, h3⟩ | ⟨g, c, cs, h2, _⟩
  · subst h2; exact absurd hlt (Nat.not_lt_zero _)
  · subst h2
    exact ⟨rfl, rfl⟩
def BA (d : DiskD) (f : Nat) : List (Int × Nat) := (BB d f).map fun e => (e.1.t, e.2)
def marksM (d : DiskD) (fs : List Nat) : SegsM := fs.map fun f => (f, BA d f)
def FK (d : DiskD) (fs : List Nat) (j i : Nat) : SegsM := marksM d (fs.take j) ++ match fs.drop j with | [] => [] | f :: r => (f, (BA d f).take i) :: r.map fun f => (f, [])
theorem Yx (d : DiskD) (fs : List Nat) : FK d fs 0 0 = fs.map fun f => (f, []) := by
 unfold FK marksM
 cases fs <;> simp
theorem DM {l : List α} {a : α} (h : l[j]? = some a) : l.drop j = a :: l.drop (j + 1) := by
 have hlt := (List.getElem?_eq_some_iff.1 h).1
 rw [List.drop_eq_getElem_cons hlt, (List.getElem?_eq_some_iff.1 h).2]
theorem N0 (h : fs[j]? = some f) : FK d fs j i = marksM d (fs.take j) ++ (f, (BA d f).take i) :: (fs.drop (j + 1)).map fun f => (f, []) := by
 unfold FK
 rw [DM h]
theorem U1 (h : fs[j]? = some f) : FK d fs j (BB d f).length = FK d fs (j + 1) 0 := by
 have h1 : (BA d f).take (BB d f).length = BA d f := List.take_of_length_le (by unfold BA; rw [List.length_map]; exact Nat.le_refl _)
 have e1 : marksM d (fs.take (j + 1)) = marksM d (fs.take j) ++ [(f, BA d f)] := by rw [List.take_add_one, h]; simp [marksM]
 rw [N0 h, h1]
 unfold FK
 rw [e1, List.append_assoc]
 congr 1
 cases fs.drop (j + 1) <;> simp
theorem RQ {N : Nat} (h : fs.length = N) : FK d fs N i = marksM d fs := by
 unfold FK
 rw [List.drop_of_length_le (by omega), List.take_of_length_le (by omega), List.append_nil]
theorem QU (h : fs[j]? = some f) (hm : svs.map SegV.m = FK d fs j i) : ∃ x, svs[j]? = some x ∧ x.f = f ∧ x.l = (BA d f).take i := by
  have hlt := (List.getElem?_eq_some_iff.1 h).1
  have h1 := congrArg (·[j]?) hm
  simp only [List.getElem?_map] at h1
  rw [N0 h, List.getElem?_append_right (by simp [marksM]; omega)] at h1
  have hl : (marksM d (fs.take j)).length = j := by simp [marksM]; omega
  rw [hl, Nat.sub_self] at h1
  cases hx : svs[j]? with
  | none => rw [hx] at h1; simp at h1
  | some x =>
    rw [hx] at h1
    simp [SegV.m] at h1
    exact ⟨x, rfl, h1.1, h1.2⟩
theorem RR (hm : svs.map SegV.m = FK d fs j i) : svs.map SegV.f = fs := by
  have h1 := congrArg (List.map (·.1)) hm
  rw [List.map_map] at h1
  have h2 : (FK d fs j i).map (·.1) = fs := by
    have e : fs = fs.take j ++ fs.drop j := (List.take_append_drop j fs).symm
    unfold FK
    rw [List.map_append]
    conv => rhs; rw [e]
    congr 1
    · simp [marksM, Function.comp_def]
    · cases fs.drop j <;> simp [Function.comp_def]
  rw [h2] at h1
  exact h1
theorem XV {c : Nat} (h : fs[j]? = some f) (hm : svs.map SegV.m = FK d fs j i) (hx : svs[j]? = some x) (hxf : x.f = f) (hxl : x.l = (BA d f).take i) (he : (BB d f)[i]? = some (e, n)) :
  (svs.set j ⟨x.f, x.l ++ [(e.t, n)], A, c⟩).map SegV.m = FK d fs j (i + 1) := by
 have hlt := (List.getElem?_eq_some_iff.1 h).1
 rw [List.map_set, hm, N0 h, N0 h]
 have hl : (marksM d (fs.take j)).length = j := by simp [marksM]; omega
 rw [List.set_append_right _ _ (by omega), hl, Nat.sub_self, List.set_cons_zero]
 congr 2
 show (x.f, x.l ++ [(e.t, n)]) = _
 rw [hxf, hxl, List.take_add_one]
 have : (BA d f)[i]? = some (e.t, n) := by unfold BA; rw [List.getElem?_map, he]; rfl
 rw [this]
 rfl
def Ar (L : List EntD) : Int × Int := match L.getLast? with | none => (0, 0) | some e => (e.t, e.i)
theorem Dt (L : List EntD) (e : EntD) : Ar (L ++ [e]) = (e.t, e.i) := by unfold Ar; rw [List.getLast?_append]; rfl
def BL (d : DiskD) (fs : List Nat) (j : Nat) (f i : Nat) : List EntD := Ba d (fs.take j) ++ ((BB d f).take i).map (·.1)
theorem Tc (he : (BB d f)[i]? = some (e, n)) : BL d fs j f (i + 1) = BL d fs j f i ++ [e] := by
 unfold BL
 rw [List.take_add_one, he, List.map_append, ← List.append_assoc]
 rfl
theorem XW (d : DiskD) (fs : List Nat) (j f : Nat) : BL d fs j f 0 = Ba d (fs.take j) := by unfold BL; simp
theorem U2 (h : fs[j]? = some f) : BL d fs j f (BB d f).length = Ba d (fs.take (j + 1)) := by
 unfold BL
 rw [List.take_length, GB h]
def Ck (g : Nat) (m : Int × Int) : Ass := fun rs => ∃ (k : Int) (A : Option Addr) (n c : Nat) (z : Int), Ae [cell g 53 #[.int .i64 k, .int .u64 m.1, .int .u64 m.2, .slice A n c, .int .i64 z]] rs
structure PrevV where
  k : Int
  A : Option Addr
  n : Nat
  c : Nat
  z : Int
theorem Ck.open_ {m : Int × Int} : ∀ rs, Ck g m rs → ∃ x : PrevV, Ae [cell g 53 #[.int .i64 x.k, .int .u64 m.1, .int .u64 m.2, .slice x.A x.n x.c, .int .i64 x.z]] rs := fun _ ⟨k, A, n, c, z, h⟩ => ⟨⟨k, A, n, c, z⟩, h⟩
theorem JH {m : Int × Int} {k z t i : Int} {c : Nat} (h : (t, i) = m) : ∀ rs, Ae [cell g 53 #[.int .i64 k, .int .u64 t, .int .u64 i, .slice A n c, .int .i64 z]] rs → Ck g m rs := fun _ hz => by subst h; exact ⟨k, A, n, c, z, hz⟩
def Td (sv : Value) (gs gp : Nat) (d : DiskD) (fs : List Nat) (j f i : Nat) : Ass := fun rs => ∃ svs : List SegV, Ae [Af 83 2 encSg sv svs, AX svs, cell gs 124 #[AN sv (j * 2)], Ck gp (Ar (BL d fs j f i)), fact (svs.map SegV.m = FK d fs j i)] rs
theorem Td.open_ : ∀ rs, Td sv gs gp d fs j f i rs → ∃ svs : List SegV, Ae [Af 83 2 encSg sv svs, AX svs, cell gs 124 #[AN sv (j * 2)], Ck gp (Ar (BL d fs j f i)), fact (svs.map SegV.m = FK d fs j i)] rs := fun _ h => h
theorem U3 (h : svs.map SegV.m = FK d fs j i) : ∀ rs, Ae [Af 83 2 encSg sv svs, AX svs, cell gs 124 #[AN sv (j * 2)], Ck gp (Ar (BL d fs j f i))] rs → Td sv gs gp d fs j f i rs := fun _ hz => ⟨svs, Ds h hz⟩
theorem Wt (h : svs.map SegV.m = FK d fs j 0) : ∀ rs, Ae [Af 83 2 encSg sv svs, AX svs, cell gs 124 #[AN sv (j * 2)], Ck gp (Ar (Ba d (fs.take j)))] rs → Td sv gs gp d fs j f 0 rs := fun rs hz => U3 h rs (by rw [XW]; exact hz)
theorem Td.end_ (hf : fs[j]? = some f) : ∀ rs, Td sv gs gp d fs j f (BB d f).length rs → ∃ svs : List SegV, Ae [Af 83 2 encSg sv svs, AX svs, cell gs 124 #[AN sv (j * 2)], Ck gp (Ar (Ba d (fs.take (j + 1)))), fact (svs.map SegV.m = FK d fs j (BB d f).length)] rs := fun _ h => by
 rw [← U2 hf]
 exact h
theorem N1 {N : Nat} (hf : fs[j]? = some f) (hL : (Ba d fs).length ≤ N) : (BB d f).length ≤ N := by
 have h1 := Pl d fs (j + 1)
 rw [GB hf] at h1
 simp only [List.length_append, List.length_map] at h1
 omega
theorem Wu : ∀ rs, Ae [cell g 53 #[.int .i64 0, .int .u64 0, .int .u64 0, .slice none 0 0, .int .i64 0]] rs → Ck g (Ar (Ba d (fs.take 0))) rs := JH (by rw [List.take_zero]; rfl)
theorem Lh {ss : SegsM} {m : Int × Int} (h : svs.map SegV.m = ss) : ∀ rs, Ae [AX svs, Ck g m] rs → Fk [AX svs, Ck g m, fact (svs.map SegV.m = ss)] rs := fun rs hz => I2 rs (Ds h hz)
theorem JI (hj : svs[j]? = some x) : ∀ rs, AX svs rs → ∃ _ : Unit, Ae [AE (fun x : SegV => Af 137 2 encMk x.v x.l) (svs.take j), Af 137 2 encMk (.slice x.A x.l.length x.c) x.l, AE (fun x : SegV => Af 137 2 encMk x.v x.l) (svs.drop (j + 1))] rs := fun rs h => MW hj rs h
theorem Mm {y : SegV} (hj : j < svs.length) : ∀ rs, Ae [AE (fun x : SegV => Af 137 2 encMk x.v x.l) (svs.take j), Af 137 2 encMk (.slice y.A y.l.length y.c) y.l, AE (fun x : SegV => Af 137 2 encMk x.v x.l) (svs.drop (j + 1))] rs → AX (svs.set j y) rs := fun rs h => by
 have h1 := MX rs h
 rw [OH hj] at h1
 exact h1
end Go.Proofs.YtjcfimmcogkopaaGreatDoor.Sep
namespace Go.Proofs.YtjcfimmcogkopaaGreatDoor.Sep
open Go.RowKit
open Go.Proofs.YtjcfimmcogkopaaGreatDoor.Mem (AG BC Chg Ak)
section
variable {P : Program} {ops : Array Oper} {Q : Exit → Act → World → Prop} {n d D : Nat} {env : List (Nat × Value)} {B : Nat → Prop} {w0 w : World} {os : List Ass} {o : Oper} {a : Act} {rest : List Oper}
variable {f i : Nat} {listed : Array Bool}
theorem U4 {id : Nat} {K : Exit → Act → World → Prop} {a : Act} {w : World} (h : K .normal a w) : Exit.inBlock id K (.exit id) a w := by
 show (if id = id then _ else _)
 rw [if_pos rfl]
 exact h
end
end Go.Proofs.YtjcfimmcogkopaaGreatDoor.Sep
