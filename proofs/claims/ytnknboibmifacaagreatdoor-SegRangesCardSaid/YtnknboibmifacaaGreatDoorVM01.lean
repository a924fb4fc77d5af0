/-
  SgU · SgV
-/
import Derived.Test.YtnknboibmifacaaGreatDoorVL01
import Derived.Scope
set_option linter.unusedSimpArgs false
set_option linter.unusedVariables false
set_option maxRecDepth 100000
namespace Go.Proofs.YtnknboibmifacaaGreatDoor.Sep
open Go.RowKit
open Go.Proofs.YtnknboibmifacaaGreatDoor.Mem (AR B3 Chg Av)
theorem DF {w0 w : World} {B : Nat → Prop} {os : List Ass} {svs : List SegV} {j : Nat} {x : SegV} (i : Nat) (hi : os[i]? = some (Bd svs)) (hj : svs[j]? = some x) (hH : Hp B w0 w os) : Dd w 2 (.slice x.A x.l.length x.c) x.l.length (flat encMk x.l) := by
 obtain ⟨ys, h1, h2⟩ := hH.each i hi hj
 exact h1.all Fd h2
theorem Da {svs : List SegV} {ss : SegsM} {f : Nat} {l : List (Int × Nat)} (h : svs.map SegV.m = ss ++ [(f, l)]) : ∃ x, svs[ss.length]? = some x ∧ x.f = f ∧ x.l = l ∧ svs.length = ss.length + 1 := by
  have h1 := congrArg (·[ss.length]?) h
  simp only [List.getElem?_map] at h1
  rw [List.getElem?_append_right (Nat.le_refl _), Nat.sub_self] at h1
  have h2 := congrArg List.length h
  rw [List.length_map, List.length_append] at h2
  cases hx : svs[ss.length]? with
  | none => rw [hx] at h1; simp at h1
  | some x =>
    rw [hx] at h1
    simp [SegV.m] at h1
    exact ⟨x, rfl, h1.1, h1.2, h2⟩
theorem R3 (w : World) {kp kx zp zx pt pi xt xi : Int} {Ap Ax : Option Addr} {np cp nx cx : Nat} (h : pi = 0) : Calls Tryz.prog 45 #[.agg #[.int .i64 kp, .int .u64 pt, .int .u64 pi, .slice Ap np cp, .int .i64 zp], .agg #[.int .i64 kx, .int .u64 xt, .int .u64 xi, .slice Ax nx cx, .int .i64 zx]] w fun e w' => e = .returned (.bool true) ∧ Below w.heap.size w w' := by
 refine FW (args := [.agg #[.int .i64 kp, .int .u64 pt, .int .u64 pi, .slice Ap np cp, .int .i64 zp], .agg #[.int .i64 kx, .int .u64 xt, .int .u64 xi, .slice Ax nx cx, .int .i64 zx]]) 23 Tryz.func45 rfl rfl rfl ?_
 refine Ad ?_
 refine Af Ae rfl ?_
 refine Am (post := fun g1 => [cell g1 34 #[.int .i64 kp, .int .u64 pt, .int .u64 pi, .slice Ap np cp, .int .i64 zp]]) rfl (CD (cs := #[.int .i64 kp, .int .u64 pt, .int .u64 pi, .slice Ap np cp, .int .i64 zp]) rfl rfl rfl) ?_; rintro g1
 refine Am (post := fun g2 => [cell g2 34 #[.int .i64 kx, .int .u64 xt, .int .u64 xi, .slice Ax nx cx, .int .i64 zx], cell g1 34 #[.int .i64 kp, .int .u64 pt, .int .u64 pi, .slice Ap np cp, .int .i64 zp]]) rfl (CD (cs := #[.int .i64 kx, .int .u64 xt, .int .u64 xi, .slice Ax nx cx, .int .i64 zx]) rfl rfl rfl) ?_; rintro g2
 refine Af Ae rfl ?_
 refine Ab (Ad ?_)
 refine Af Ae rfl ?_
 refine Aa rfl (.int .u64 pi) (fun b w hb hH => AY rfl rfl (Bi AO rfl) (hH.row 1 rfl) hb) ?_
 refine Aa rfl (.bool true) (fun b w hb hH => AZ rfl rfl rfl (FI (by omega)) hb) ?_
 refine Af Ae rfl ?_
 refine Ab (Az ?_)
 exact Ay (.tmp rfl) (fun w h => ⟨rfl, Av h.up⟩) rfl
theorem R4 (w : World) {kp kx zp zx pt pi xt xi : Int} {Ap Ax : Option Addr} {np cp nx cx : Nat} (h0 : pi ≠ 0) (h1 : xi = pi + 1) (h2 : pt ≤ xt) (h3 : 0 ≤ pi ∧ pi ≤ 72057594037927935) : Calls Tryz.prog 45 #[.agg #[.int .i64 kp, .int .u64 pt, .int .u64 pi, .slice Ap np cp, .int .i64 zp], .agg #[.int .i64 kx, .int .u64 xt, .int .u64 xi, .slice Ax nx cx, .int .i64 zx]] w fun e w' => e = .returned (.bool true) ∧ Below w.heap.size w w' := by
 refine FW (args := [.agg #[.int .i64 kp, .int .u64 pt, .int .u64 pi, .slice Ap np cp, .int .i64 zp], .agg #[.int .i64 kx, .int .u64 xt, .int .u64 xi, .slice Ax nx cx, .int .i64 zx]]) 23 Tryz.func45 rfl rfl rfl ?_
 refine Ad ?_
 refine Af Ae rfl ?_
 refine Am (post := fun g1 => [cell g1 34 #[.int .i64 kp, .int .u64 pt, .int .u64 pi, .slice Ap np cp, .int .i64 zp]]) rfl (CD (cs := #[.int .i64 kp, .int .u64 pt, .int .u64 pi, .slice Ap np cp, .int .i64 zp]) rfl rfl rfl) ?_; rintro g1
 refine Am (post := fun g2 => [cell g2 34 #[.int .i64 kx, .int .u64 xt, .int .u64 xi, .slice Ax nx cx, .int .i64 zx], cell g1 34 #[.int .i64 kp, .int .u64 pt, .int .u64 pi, .slice Ap np cp, .int .i64 zp]]) rfl (CD (cs := #[.int .i64 kx, .int .u64 xt, .int .u64 xi, .slice Ax nx cx, .int .i64 zx]) rfl rfl rfl) ?_; rintro g2
 refine Af Ae rfl ?_
 refine Ab (Ad ?_)
 refine Af Ae rfl ?_
 refine Aa rfl (.int .u64 pi) (fun b w hb hH => AY rfl rfl (Bi AO rfl) (hH.row 1 rfl) hb) ?_
 refine Aa rfl (.bool false) (fun b w hb hH => AZ rfl rfl rfl (EK (by omega)) hb) ?_
 refine Af Ae rfl ?_
 refine Aa rfl (.int .u64 xi) (fun b w hb hH => AY rfl rfl (Bi AO rfl) (hH.row 0 rfl) hb) ?_
 refine Af Ae rfl ?_
 refine Aa rfl (.int .u64 pi) (fun b w hb hH => AY rfl rfl (Bi AO rfl) (hH.row 1 rfl) hb) ?_
 refine Aa rfl (.int .u64 (pi + 1)) (fun b w hb hH => AH rfl rfl rfl rfl (IntWalk.u64_in _ (by omega)) hb) ?_
 refine Aa rfl (.bool true) (fun b w hb hH => AZ rfl rfl rfl (FI (by omega)) hb) ?_
 refine Af Ae rfl ?_
 refine Aa rfl (.int .u64 xt) (fun b w hb hH => AY rfl rfl (Bi AO rfl) (hH.row 0 rfl) hb) ?_
 refine Af Ae rfl ?_
 refine Aa rfl (.int .u64 pt) (fun b w hb hH => AY rfl rfl (Bi AO rfl) (hH.row 1 rfl) hb) ?_
 refine Aa rfl (.bool true) (fun b w hb hH => AZ rfl rfl rfl (BX (by omega)) hb) ?_
 refine Af Ae rfl ?_
 refine Ab (Az ?_)
 exact Ay (.tmp rfl) (fun w h => ⟨rfl, Av h.up⟩) rfl
theorem JH (w : World) {kp kx zp zx pt pi xt xi : Int} {Ap Ax : Option Addr} {np cp nx cx : Nat} (h : pi = 0 ∨ (pi ≠ 0 ∧ xi = pi + 1 ∧ pt ≤ xt)) (h3 : 0 ≤ pi ∧ pi ≤ 72057594037927935) : Calls Tryz.prog 45 #[.agg #[.int .i64 kp, .int .u64 pt, .int .u64 pi, .slice Ap np cp, .int .i64 zp], .agg #[.int .i64 kx, .int .u64 xt, .int .u64 xi, .slice Ax nx cx, .int .i64 zx]] w fun e w' => e = .returned (.bool true) ∧ Below w.heap.size w w' := by
  rcases h with h0 | ⟨h0, h1, h2⟩
  · exact R3 w h0
  · exact R4 w h0 h1 h2 h3
theorem Lj (w : World) {x : SegV} {m : Int × Nat} (hu : Dd w 2 (.slice x.A x.l.length x.c) x.l.length (flat encMk x.l)) (hm : x.l[x.l.length - 1]? = some m) (h0 : 0 < x.l.length) (hl : x.l.length ≤ 1000000) : Calls Tryz.prog 93 #[.agg #[.int .u64 (x.f : Int), .slice x.A x.l.length x.c]] w fun e w' => e = .returned (.int .i64 (m.2 : Int)) ∧ Below w.heap.size w w' := by
 refine FW (args := [.agg #[.int .u64 (x.f : Int), .slice x.A x.l.length x.c]]) 12 Tryz.func93 rfl rfl rfl ?_
 refine Ad ?_
 refine Af Ae rfl ?_
 refine Am (post := fun g1 => [cell g1 92 #[.int .u64 (x.f : Int), .slice x.A x.l.length x.c]]) rfl (CD (cs := #[.int .u64 (x.f : Int), .slice x.A x.l.length x.c]) rfl rfl rfl) ?_; rintro g1
 refine Af Ae rfl ?_
 refine Ab (Ad ?_)
 refine Af Ae rfl ?_
 refine Aa rfl (.slice x.A x.l.length x.c) (fun b w hb hH => AY rfl rfl (Bi Bw rfl) (hH.row 0 rfl) hb) ?_
 refine Af Ae rfl ?_
 refine Aa rfl (.slice x.A x.l.length x.c) (fun b w hb hH => AY rfl rfl (Bi Bw rfl) (hH.row 0 rfl) hb) ?_
 refine Aa rfl (.int .i64 (x.l.length : Int)) (fun b w hb hH => Bp ((Kz hu hH)) Tryz.underlying90 rfl rfl hb) ?_
 refine Aa rfl (.int .i64 ((x.l.length - 1 : Nat) : Int)) (fun b w hb hH => AH rfl rfl rfl rfl (by rw [IntWalk.i64_in _ (by omega)]; omega) hb) ?_
 refine Aa rfl (AV (.slice x.A x.l.length x.c) ((x.l.length - 1) * 2)) (fun b w hb hH => ED Fd ((Kz hu hH)) Cl (j := (x.l.length - 1)) hm rfl rfl rfl hb) ?_
 refine Aa rfl (AV (.slice x.A x.l.length x.c) ((x.l.length - 1) * 2 + 1)) (fun b w hb hH => GJ Fd (by decide) ((Kz hu hH)) (j := (x.l.length - 1)) hm FT rfl rfl hb) ?_
 refine Aa rfl (.int .i64 (m.2 : Int)) (fun b w hb hH => BD Fd (by decide) ((Kz hu hH)) (j := (x.l.length - 1)) hm Bh (off := 1) rfl rfl rfl hb) ?_
 refine Af Ae rfl ?_
 refine Ab (Az ?_)
 exact Ay (.tmp rfl) (fun w h => ⟨rfl, Av h.up⟩) rfl
theorem Lk (w : World) {x : SegV} (h0 : 0 < x.l.length) (hl : x.l.length ≤ 1000000) (hf : x.f ≤ 72057594037927935) (hu : Dd w 2 (.slice x.A x.l.length x.c) x.l.length (flat encMk x.l)) : Calls Tryz.prog 52 #[.agg #[.int .u64 (x.f : Int), .slice x.A x.l.length x.c]] w fun e w' => e = .returned (.int .u64 ((x.f + x.l.length - 1 : Nat) : Int)) ∧ Below w.heap.size w w' := by
 refine FW (args := [.agg #[.int .u64 (x.f : Int), .slice x.A x.l.length x.c]]) 11 Tryz.func52 rfl rfl rfl ?_
 refine Ad ?_
 refine Af Ae rfl ?_
 refine Am (post := fun g1 => [cell g1 92 #[.int .u64 (x.f : Int), .slice x.A x.l.length x.c]]) rfl (CD (cs := #[.int .u64 (x.f : Int), .slice x.A x.l.length x.c]) rfl rfl rfl) ?_; rintro g1
 refine Af Ae rfl ?_
 refine Ab (Ad ?_)
 refine Af Ae rfl ?_
 refine Aa rfl (.int .u64 (x.f : Int)) (fun b w hb hH => AY rfl rfl (Bi AO rfl) (hH.row 0 rfl) hb) ?_
 refine Af Ae rfl ?_
 refine Aa rfl (.slice x.A x.l.length x.c) (fun b w hb hH => AY rfl rfl (Bi Bw rfl) (hH.row 0 rfl) hb) ?_
 refine Aa rfl (.int .i64 (x.l.length : Int)) (fun b w hb hH => Bp ((Kz hu hH)) Tryz.underlying90 rfl rfl hb) ?_
 refine Aa rfl (.int .u64 (x.l.length : Int)) (fun b w hb hH => A5 Tryz.underlying3 Tryz.underlying31 (IntWalk.u64_in _ (by omega)) rfl rfl hb) ?_
 refine Aa rfl (.int .u64 ((x.f + x.l.length : Nat) : Int)) (fun b w hb hH => AH rfl rfl rfl rfl (by rw [IntWalk.u64_in _ (by omega)]; omega) hb) ?_
 refine Aa rfl (.int .u64 ((x.f + x.l.length - 1 : Nat) : Int)) (fun b w hb hH => AH rfl rfl rfl rfl (by rw [IntWalk.u64_in _ (by omega)]; omega) hb) ?_
 refine Af Ae rfl ?_
 refine Ab (Az ?_)
 exact Ay (.tmp rfl) (fun w h => ⟨rfl, Av h.up⟩) rfl
theorem Co {p dk lim n : Nat} {sv : Value} {svs : List SegV} (hn : svs.length = n + 1) (hl : n ≤ 1000000) : AP Tryz.prog 49 #[.pointer (some ⟨p, 0, none⟩)] [cell p 87 #[.pointer (some ⟨dk, 0, none⟩), .int .i64 (lim : Int), sv], Ak 92 2 encSg sv svs] (fun (_ : Unit) => AV sv (n * 2)) (fun (_ : Unit) => [cell p 87 #[.pointer (some ⟨dk, 0, none⟩), .int .i64 (lim : Int), sv], Ak 92 2 encSg sv svs]) := by
  refine Bj (args := [.pointer (some ⟨p, 0, none⟩)]) 14 Tryz.func49 rfl rfl rfl ?_; intro w rs
  refine Ad ?_
  refine Af Ae rfl ?_
  refine Ab (An ?_)
  refine BV 11 0 [⟨.quiet, [], fun _ => .pointer (some ⟨p, 0, none⟩), []⟩, ⟨.quiet, [], fun _ => .pointer (some ⟨p, 0, none⟩), [0]⟩, ⟨.quiet, [], fun _ => .pointer (some ⟨p, 2, none⟩), [1]⟩, ⟨.quiet, [], fun _ => sv, [2]⟩, ⟨.quiet, [], fun _ => .pointer (some ⟨p, 0, none⟩), []⟩, ⟨.quiet, [], fun _ => .pointer (some ⟨p, 0, none⟩), [4]⟩, ⟨.quiet, [], fun _ => .pointer (some ⟨p, 2, none⟩), [5]⟩, ⟨.quiet, [], fun _ => sv, [6]⟩, ⟨.quiet, [], fun _ => .int .i64 ((n + 1 : Nat) : Int), [7]⟩, ⟨.quiet, [], fun _ => .int .i64 (n : Int), [8]⟩, ⟨.quiet, [], fun _ => AV sv (n * 2), [3, 9]⟩] [(0, .pointer (some ⟨p, 0, none⟩)), (2, .pointer none)] (fun _ => [cell p 87 #[.pointer (some ⟨dk, 0, none⟩), .int .i64 (lim : Int), sv], Ak 92 2 encSg sv svs]) (by kernel_rfl) (by kernel_rfl) ⟨rfl, rfl, trivial⟩ rfl ?_ ?_
  · skip
    refine Ac (by exact ⟨rfl, fun b w hH hb => Ah Ae rfl hb⟩) ?_
    refine Ac (by exact ⟨rfl, fun b w hH hb => by exact B8 rfl rfl hb⟩) ?_
    refine Ac (by exact ⟨rfl, fun b w hH hb => Ah Ae rfl hb⟩) ?_
    refine Ac (by exact ⟨rfl, fun b w hH hb => AY rfl rfl (Bi C4 rfl) (hH.row 0 rfl) hb⟩) ?_
    refine Ac (by exact ⟨rfl, fun b w hH hb => Ah Ae rfl hb⟩) ?_
    refine Ac (by exact ⟨rfl, fun b w hH hb => by exact B8 rfl rfl hb⟩) ?_
    refine Ac (by exact ⟨rfl, fun b w hH hb => Ah Ae rfl hb⟩) ?_
    refine Ac (by exact ⟨rfl, fun b w hH hb => AY rfl rfl (Bi C4 rfl) (hH.row 0 rfl) hb⟩) ?_
    refine Ac (by exact ⟨rfl, fun b w hH hb => BS 1 hn Tryz.underlying85 rfl rfl rfl hH hb⟩) ?_
    refine Ac (by exact ⟨rfl, fun b w hH hb => AH rfl rfl rfl rfl (by rw [IntWalk.i64_in _ (by omega)]; omega) hb⟩) ?_
    refine Ac (by exact ⟨rfl, fun b w hH hb => EB 1 Ba AT rfl n (by omega) rfl rfl rfl hH hb⟩) ?_
    exact B7
  refine BT.keep (env' := [(2, .pointer none), (13, AV sv (n * 2))]) ⟨rfl, rfl, trivial⟩ ?_
  refine Af Ae rfl ?_
  refine AD (AB (Az ?_))
  exact Ay (.tmp rfl) (fun w h => AC () rfl [0, 1] rfl h Ed) rfl
theorem R5 {p dk lim : Nat} {ss : SegsM} {f : Nat} {l : List (Int × Nat)} (hl : ss.length ≤ 1000000) (hl2 : l.length ≤ 1000000) (hf : f ≤ 72057594037927935) (h0 : l ≠ []) : AP Tryz.prog 17 #[.pointer (some ⟨p, 0, none⟩)] [AA p dk lim (ss ++ [(f, l)])] (fun (_ : Unit) => .int .u64 ((f + l.length - 1 : Nat) : Int)) (fun (_ : Unit) => [AA p dk lim (ss ++ [(f, l)])]) := by
 refine Bj (args := [.pointer (some ⟨p, 0, none⟩)]) 14 Tryz.func17 rfl rfl rfl ?_; intro w rs
 refine A7 0 rfl AA.open_ (fun _ => rfl) ?_; rintro ⟨sv, svs⟩
 refine AN.fact 3 rfl (fun _ h => h.2) ?_; rintro hm
 refine AN.leave [3] rfl rfl ?_
 replace hm : svs.map SegV.m = ss ++ [(f, l)] := hm
 obtain ⟨x, hx, rfl, rfl, hn⟩ := Da hm
 have hl0 : 0 < x.l.length := List.length_pos_iff.2 h0
 refine Ad ?_
 refine Af Ae rfl ?_
 refine Ab (An (Ad ?_))
 refine Af Ae rfl ?_
 refine Aa rfl (.pointer (some ⟨p, 0, none⟩)) (fun b w hb hH => by exact B8 rfl rfl hb) ?_
 refine Af Ae rfl ?_
 refine Aa rfl (sv) (fun b w hb hH => AY rfl rfl (Bi C4 rfl) (hH.row 0 rfl) hb) ?_
 refine Aa rfl (.int .i64 ((ss.length + 1 : Nat) : Int)) (fun b w hb hH => BS 1 hn Tryz.underlying85 rfl rfl rfl hH hb) ?_
 refine Aa rfl (.bool false) (fun b w hb hH => AZ rfl rfl rfl (EK (by omega)) hb) ?_
 refine Ab (As rfl (Aw (AB (Ad ?_))))
 refine Af Ae rfl ?_
 refine Am rfl (Au (os' := fun _ => [cell p 87 #[.pointer (some ⟨dk, 0, none⟩), .int .i64 (lim : Int), sv], Ak 92 2 encSg sv svs, Bd svs]) [0, 1] 0 (Aj Tryz.func49 (by kernel_rfl) rfl) (Co hn (by omega)) rfl rfl rfl (fun _ => rfl) rfl rfl rfl) ?_; rintro ⟨⟩
 refine Aa rfl (AV sv (ss.length * 2)) (fun b w hb hH => B0 1 rfl (j := ss.length) (List.getElem?_eq_some_iff.1 hx).1 rfl rfl hH hb) ?_
 refine Aa rfl (.agg (encSg x).toArray) (fun b w hb hH => Dz AT (by decide) (hH.vec 1 rfl AT) (j := ss.length) hx B5 rfl rfl hb) ?_
 refine Am (post := fun _ => [cell p 87 #[.pointer (some ⟨dk, 0, none⟩), .int .i64 (lim : Int), sv], Ak 92 2 encSg sv svs, Bd svs]) rfl (Bc (Aj Tryz.func52 (by kernel_rfl) rfl) (fun w hH => Lk w hl0 hl2 hf (DF 2 rfl hx hH)) rfl rfl rfl) ?_; rintro ⟨⟩
 refine Af Ae rfl ?_
 refine Ab (Az ?_)
 exact Ay (.tmp rfl) (fun w h => AC () rfl [0, 1, 2] rfl h (fun z hz => by obtain ⟨z2, p2, h2⟩ := (Al.perm (List.Perm.refl _) hz); exact ⟨z2, p2, Al.one (Dv hm z2 h2)⟩)) rfl
theorem TM {p dk lim : Nat} {ss : SegsM} {f : Nat} {l : List (Int × Nat)} (hl : ss.length ≤ 1000000) (hl2 : l.length ≤ 1000000) (hf : f ≤ 72057594037927935) (h0 : l ≠ []) {m : Int × Nat} (hm1 : l[l.length - 1]? = some m) : AP Tryz.prog 43 #[.pointer (some ⟨p, 0, none⟩)] [AA p dk lim (ss ++ [(f, l)])] (fun (_ : Unit) => .agg #[.int .i64 0, .int .u64 m.1, .int .u64 ((f + l.length - 1 : Nat) : Int), .slice none 0 0, .int .i64 0]) (fun (_ : Unit) => [AA p dk lim (ss ++ [(f, l)])]) := by
  refine Bj (args := [.pointer (some ⟨p, 0, none⟩)]) 31 Tryz.func43 rfl rfl rfl ?_; intro w rs
  refine A7 0 rfl AA.open_ (fun _ => rfl) ?_; rintro ⟨sv, svs⟩
  refine AN.fact 3 rfl (fun _ h => h.2) ?_; rintro hm
  refine AN.leave [3] rfl rfl ?_
  replace hm : svs.map SegV.m = ss ++ [(f, l)] := hm
  obtain ⟨x, hx, rfl, rfl, hn⟩ := Da hm
  have hl0 : 0 < x.l.length := List.length_pos_iff.2 h0
  refine Ad ?_
  refine Af Ae rfl ?_
  refine Am (post := fun g => [cell g 34 #[.int .i64 0, .int .u64 0, .int .u64 0, .slice none 0 0, .int .i64 0], cell p 87 #[.pointer (some ⟨dk, 0, none⟩), .int .i64 (lim : Int), sv], Ak 92 2 encSg sv svs, Bd svs]) rfl (BW Bz rfl) ?_; rintro g
  refine Ab (An (Ad ?_))
  refine Af Ae rfl ?_
  refine Aa rfl (.pointer (some ⟨p, 0, none⟩)) (fun b w hb hH => by exact B8 rfl rfl hb) ?_
  refine Af Ae rfl ?_
  refine Aa rfl (sv) (fun b w hb hH => AY rfl rfl (Bi C4 rfl) (hH.row 1 rfl) hb) ?_
  refine Aa rfl (.int .i64 ((ss.length + 1 : Nat) : Int)) (fun b w hb hH => BS 2 hn Tryz.underlying85 rfl rfl rfl hH hb) ?_
  refine Aa rfl (.bool false) (fun b w hb hH => AZ rfl rfl rfl (EK (by omega)) hb) ?_
  refine Ab (As rfl (Aw (AB (Ad ?_))))
  refine Af Ae rfl ?_
  refine Am rfl (Au (os' := fun _ => [cell g 34 #[.int .i64 0, .int .u64 0, .int .u64 0, .slice none 0 0, .int .i64 0], cell p 87 #[.pointer (some ⟨dk, 0, none⟩), .int .i64 (lim : Int), sv], Ak 92 2 encSg sv svs, Bd svs]) [1, 2] 0 (Aj Tryz.func49 (by kernel_rfl) rfl) (Co hn (by omega)) rfl rfl rfl (fun _ => rfl) rfl rfl rfl) ?_; rintro ⟨⟩
  refine Af Ae rfl ?_
  refine Ab (An ?_)
  refine BV 18 1 [⟨.quiet, [none], fun _ => AV sv (ss.length * 2), []⟩, ⟨.quiet, [none], fun _ => AV sv (ss.length * 2), [0]⟩, ⟨.quiet, [none], fun _ => .agg (encSg x).toArray, [1]⟩, ⟨.actv 0, [some false], fun _ => .int .u64 ((x.f + x.l.length - 1 : Nat) : Int), [2]⟩, ⟨.quiet, [none], fun _ => AV sv (ss.length * 2), []⟩, ⟨.quiet, [none], fun _ => AV sv (ss.length * 2), [4]⟩, ⟨.quiet, [none], fun _ => AV sv (ss.length * 2 + 1), [5]⟩, ⟨.quiet, [none], fun _ => .slice x.A x.l.length x.c, [6]⟩, ⟨.quiet, [none], fun _ => AV sv (ss.length * 2), []⟩, ⟨.quiet, [none], fun _ => AV sv (ss.length * 2), [8]⟩, ⟨.quiet, [none], fun _ => AV sv (ss.length * 2 + 1), [9]⟩, ⟨.quiet, [none], fun _ => .slice x.A x.l.length x.c, [10]⟩, ⟨.quiet, [none], fun _ => .int .i64 (x.l.length : Int), [11]⟩, ⟨.quiet, [none], fun _ => .int .i64 ((x.l.length - 1 : Nat) : Int), [12]⟩, ⟨.quiet, [none], fun _ => AV (.slice x.A x.l.length x.c) ((x.l.length - 1) * 2), [7, 13]⟩, ⟨.quiet, [none], fun _ => AV (.slice x.A x.l.length x.c) ((x.l.length - 1) * 2 + 0), [14]⟩, ⟨.quiet, [none], fun _ => .int .u64 m.1, [15]⟩, ⟨.quiet, [some true], fun _ => .agg #[.int .i64 0, .int .u64 m.1, .int .u64 ((x.f + x.l.length - 1 : Nat) : Int), .slice none 0 0, .int .i64 0], [3, 16]⟩] [(2, .pointer (some ⟨g, 0, none⟩)), (3, AV sv (ss.length * 2))] (fun ρ => match ρ with | [r0] => [cell g 34 #[.int .i64 0, .int .u64 0, .int .u64 0, .slice none 0 0, .int .i64 0], cell p 87 #[.pointer (some ⟨dk, 0, none⟩), .int .i64 (lim : Int), sv], Ak 92 2 encSg sv svs, Bd svs] | _ => []) (by kernel_rfl) (by kernel_rfl) ⟨rfl, rfl, trivial⟩ rfl ?_ ?_
  · skip
    refine Ac (by intro r0_; exact ⟨rfl, fun b w hH hb => Ah Ae rfl hb⟩) ?_
    refine Ac (by intro r0_; exact ⟨rfl, fun b w hH hb => B0 2 rfl (j := ss.length) (List.getElem?_eq_some_iff.1 hx).1 rfl rfl hH hb⟩) ?_
    refine Ac (by intro r0_; exact ⟨rfl, fun b w hH hb => Dz AT (by decide) (hH.vec 2 rfl AT) (j := ss.length) hx B5 rfl rfl hb⟩) ?_
    refine Ac (by exact ⟨rfl, Bm.su (Bc (Aj Tryz.func52 (by kernel_rfl) rfl) (fun w hH => Lk w hl0 hl2 hf (DF 3 rfl hx hH)) rfl rfl rfl) rfl⟩) ?_
    refine Ac (by intro r0_; exact ⟨rfl, fun b w hH hb => Ah Ae rfl hb⟩) ?_
    refine Ac (by intro r0_; exact ⟨rfl, fun b w hH hb => B0 2 rfl (j := ss.length) (List.getElem?_eq_some_iff.1 hx).1 rfl rfl hH hb⟩) ?_
    refine Ac (by intro r0_; exact ⟨rfl, fun b w hH hb => GJ AT (by decide) (hH.vec 2 rfl AT) (j := ss.length) hx Bo rfl rfl hb⟩) ?_
    refine Ac (by intro r0_; exact ⟨rfl, fun b w hH hb => BD AT (by decide) (hH.vec 2 rfl AT) (j := ss.length) hx Bw (off := 1) rfl rfl rfl hb⟩) ?_
    refine Ac (by intro r0_; exact ⟨rfl, fun b w hH hb => Ah Ae rfl hb⟩) ?_
    refine Ac (by intro r0_; exact ⟨rfl, fun b w hH hb => B0 2 rfl (j := ss.length) (List.getElem?_eq_some_iff.1 hx).1 rfl rfl hH hb⟩) ?_
    refine Ac (by intro r0_; exact ⟨rfl, fun b w hH hb => GJ AT (by decide) (hH.vec 2 rfl AT) (j := ss.length) hx Bo rfl rfl hb⟩) ?_
    refine Ac (by intro r0_; exact ⟨rfl, fun b w hH hb => BD AT (by decide) (hH.vec 2 rfl AT) (j := ss.length) hx Bw (off := 1) rfl rfl rfl hb⟩) ?_
    refine Ac (by intro r0_; exact ⟨rfl, fun b w hH hb => Bp ((DF 3 rfl hx hH)) Tryz.underlying90 rfl rfl hb⟩) ?_
    refine Ac (by intro r0_; exact ⟨rfl, fun b w hH hb => AH rfl rfl rfl rfl (by rw [IntWalk.i64_in _ (by omega)]; omega) hb⟩) ?_
    refine Ac (by intro r0_; exact ⟨rfl, fun b w hH hb => ED Fd ((DF 3 rfl hx hH)) Cl (j := (x.l.length - 1)) hm1 rfl rfl rfl hb⟩) ?_
    refine Ac (by intro r0_; exact ⟨rfl, fun b w hH hb => GJ Fd (by decide) ((DF 3 rfl hx hH)) (j := (x.l.length - 1)) hm1 H6 rfl rfl hb⟩) ?_
    refine Ac (by intro r0_; exact ⟨rfl, fun b w hH hb => BD Fd (by decide) ((DF 3 rfl hx hH)) (j := (x.l.length - 1)) hm1 AO (off := 0) rfl rfl rfl hb⟩) ?_
    refine Ac (by intro v0_; exact ⟨rfl, fun b w hH hb => Bv rfl rfl (by kernel_rfl) hb⟩) ?_
    exact B7
  intro v0_
  refine BT.keep (env' := [(2, .pointer (some ⟨g, 0, none⟩)), (30, .agg #[.int .i64 0, .int .u64 m.1, .int .u64 ((x.f + x.l.length - 1 : Nat) : Int), .slice none 0 0, .int .i64 0])]) ⟨rfl, rfl, trivial⟩ ?_
  refine Af Ae rfl ?_
  refine AL (post := fun _ => [cell g 34 #[.int .i64 0, .int .u64 m.1, .int .u64 ((x.f + x.l.length - 1 : Nat) : Int), .slice none 0 0, .int .i64 0], cell p 87 #[.pointer (some ⟨dk, 0, none⟩), .int .i64 (lim : Int), sv], Ak 92 2 encSg sv svs, Bd svs]) rfl rfl (AU 0 (v := .agg #[.int .i64 0, .int .u64 m.1, .int .u64 ((x.f + x.l.length - 1 : Nat) : Int), .slice none 0 0, .int .i64 0]) #[.int .i64 0, .int .u64 m.1, .int .u64 ((x.f + x.l.length - 1 : Nat) : Int), .slice none 0 0, .int .i64 0] BH.2 rfl rfl rfl rfl rfl rfl rfl rfl rfl) ?_; rintro ⟨⟩
  refine AD (AB (Az ?_))
  exact Ay (.cell 0 (v := .agg #[.int .i64 0, .int .u64 m.1, .int .u64 ((x.f + x.l.length - 1 : Nat) : Int), .slice none 0 0, .int .i64 0]) (EY (cs := [.int .i64 0, .int .u64 m.1, .int .u64 ((x.f + x.l.length - 1 : Nat) : Int), .slice none 0 0, .int .i64 0]) BH rfl) rfl rfl) (fun w h => AC () rfl [1, 2, 3] rfl h (fun z hz => by obtain ⟨z2, p2, h2⟩ := (Al.perm (List.Perm.refl _) hz); exact ⟨z2, p2, Al.one (Dv hm z2 h2)⟩)) rfl
theorem R6 {p dk lim : Nat} : AP Tryz.prog 17 #[.pointer (some ⟨p, 0, none⟩)] [AA p dk lim ([])] (fun (_ : Unit) => .int .u64 0) (fun (_ : Unit) => [AA p dk lim ([])]) := by
 refine Bj (args := [.pointer (some ⟨p, 0, none⟩)]) 14 Tryz.func17 rfl rfl rfl ?_; intro w rs
 refine A7 0 rfl AA.open_ (fun _ => rfl) ?_; rintro ⟨sv, svs⟩
 refine AN.fact 3 rfl (fun _ h => h.2) ?_; rintro hm
 refine AN.leave [3] rfl rfl ?_
 replace hm : svs.map SegV.m = [] := hm
 have hn : svs.length = 0 := by have := congrArg List.length hm; simpa using this
 refine Ad ?_
 refine Af Ae rfl ?_
 refine Ab (An (Ad ?_))
 refine Af Ae rfl ?_
 refine Aa rfl (.pointer (some ⟨p, 0, none⟩)) (fun b w hb hH => by exact B8 rfl rfl hb) ?_
 refine Af Ae rfl ?_
 refine Aa rfl (sv) (fun b w hb hH => AY rfl rfl (Bi C4 rfl) (hH.row 0 rfl) hb) ?_
 refine Aa rfl (.int .i64 ((0 : Nat) : Int)) (fun b w hb hH => BS 1 hn Tryz.underlying85 rfl rfl rfl hH hb) ?_
 refine Aa rfl (.bool true) (fun b w hb hH => AZ rfl rfl rfl (FI (by omega)) hb) ?_
 refine Ab (AI rfl (Ad ?_))
 refine Af Ae rfl ?_
 refine Ab (Az (D8 ?_))
 exact Ay (.tmp rfl) (fun w h => AC () rfl [0, 1, 2] rfl h (fun z hz => ⟨z, .refl _, Al.one (Dv hm z hz)⟩)) rfl
theorem TN {p dk lim : Nat} : AP Tryz.prog 43 #[.pointer (some ⟨p, 0, none⟩)] [AA p dk lim ([])] (fun (_ : Unit) => .agg #[.int .i64 0, .int .u64 0, .int .u64 0, .slice none 0 0, .int .i64 0]) (fun (_ : Unit) => [AA p dk lim ([])]) := by
 refine Bj (args := [.pointer (some ⟨p, 0, none⟩)]) 31 Tryz.func43 rfl rfl rfl ?_; intro w rs
 refine A7 0 rfl AA.open_ (fun _ => rfl) ?_; rintro ⟨sv, svs⟩
 refine AN.fact 3 rfl (fun _ h => h.2) ?_; rintro hm
 refine AN.leave [3] rfl rfl ?_
 replace hm : svs.map SegV.m = [] := hm
 have hn : svs.length = 0 := by have := congrArg List.length hm; simpa using this
 refine Ad ?_
 refine Af Ae rfl ?_
 refine Am (post := fun g => [cell g 34 #[.int .i64 0, .int .u64 0, .int .u64 0, .slice none 0 0, .int .i64 0], cell p 87 #[.pointer (some ⟨dk, 0, none⟩), .int .i64 (lim : Int), sv], Ak 92 2 encSg sv svs, Bd svs]) rfl (BW Bz rfl) ?_; rintro g
 refine Ab (An (Ad ?_))
 refine Af Ae rfl ?_
 refine Aa rfl (.pointer (some ⟨p, 0, none⟩)) (fun b w hb hH => by exact B8 rfl rfl hb) ?_
 refine Af Ae rfl ?_
 refine Aa rfl (sv) (fun b w hb hH => AY rfl rfl (Bi C4 rfl) (hH.row 1 rfl) hb) ?_
 refine Aa rfl (.int .i64 ((0 : Nat) : Int)) (fun b w hb hH => BS 2 hn Tryz.underlying85 rfl rfl rfl hH hb) ?_
 refine Aa rfl (.bool true) (fun b w hb hH => AZ rfl rfl rfl (FI (by omega)) hb) ?_
 refine Ab (AI rfl (Ad ?_))
 refine Af Ae rfl ?_
 refine Aa rfl (.agg #[.int .i64 0, .int .u64 0, .int .u64 0, .slice none 0 0, .int .i64 0]) (fun b w hb hH => Bv rfl rfl (by kernel_rfl) hb) ?_
 refine AL (post := fun _ => [cell g 34 #[.int .i64 0, .int .u64 0, .int .u64 0, .slice none 0 0, .int .i64 0], cell p 87 #[.pointer (some ⟨dk, 0, none⟩), .int .i64 (lim : Int), sv], Ak 92 2 encSg sv svs, Bd svs]) rfl rfl (AU 0 (v := .agg #[.int .i64 0, .int .u64 0, .int .u64 0, .slice none 0 0, .int .i64 0]) #[.int .i64 0, .int .u64 0, .int .u64 0, .slice none 0 0, .int .i64 0] BH.2 rfl rfl rfl rfl rfl rfl rfl rfl rfl) ?_; rintro ⟨⟩
 refine Ab (Az (D8 ?_))
 exact Ay (.cell 0 (v := .agg #[.int .i64 0, .int .u64 0, .int .u64 0, .slice none 0 0, .int .i64 0]) (EY (cs := [.int .i64 0, .int .u64 0, .int .u64 0, .slice none 0 0, .int .i64 0]) BH rfl) rfl rfl) (fun w h => AC () rfl [1, 2, 3] rfl h (fun z hz => ⟨z, .refl _, Al.one (Dv hm z hz)⟩)) rfl
end Go.Proofs.YtnknboibmifacaaGreatDoor.Sep
namespace Go.Proofs.YtnknboibmifacaaGreatDoor.Sep
open Go.RowKit
open Go.Proofs.YtnknboibmifacaaGreatDoor.Mem (AR B3 Chg Av)
section
variable {P : Program} {Q : Exit → Act → World → Prop} {n : Nat} {B : Nat → Prop} {w0 : World} {rs : List Ass} {env : List (Nat × Value)}
theorem Vf {c : Code} (h : AN P (Exit.noGoto Q) n env B w0 rs c) : AN P Q n env B w0 rs (.scope c) := fun a w hF hH => wp_scope_straight (h a w hF hH)
theorem Vg {l : Nat} (h : CC Q n env B w0 rs .normal) : AN P Q n env B w0 rs (.label l) := fun a w hF hH => wp_label (h a w hF hH)
end
theorem WG {e : TypeId} {k : Nat} {α : Type} {enc : α → List Value} {v : Value} {l : List α} {j : Nat} {a : α} {m : Nat} (hj : l[j]? = some a) {rs : List RowT} (h : Ak e k enc v l rs) : (AV v m).cells = #[AV v m] ∧ (AV v m).oneCell' = true := by
  have hlt := (List.getElem?_eq_some_iff.1 hj).1
  rcases h with ⟨h1, h2, h3⟩ | ⟨g, c, cs, h2, _⟩
  · subst h2; exact absurd hlt (Nat.not_lt_zero _)
  · subst h2
    exact ⟨rfl, rfl⟩
def CA (d : DiskD) (f : Nat) : List (Int × Nat) := (Cn d f).map fun e => (e.1.t, e.2)
def marksM (d : DiskD) (fs : List Nat) : SegsM := fs.map fun f => (f, CA d f)
def GK (d : DiskD) (fs : List Nat) (j i : Nat) : SegsM := marksM d (fs.take j) ++ match fs.drop j with | [] => [] | f :: r => (f, (CA d f).take i) :: r.map fun f => (f, [])
theorem Xl (d : DiskD) (fs : List Nat) : GK d fs 0 0 = fs.map fun f => (f, []) := by
 unfold GK marksM
 cases fs <;> simp
theorem Dt {α : Type} {l : List α} {j : Nat} {a : α} (h : l[j]? = some a) : l.drop j = a :: l.drop (j + 1) := by
 have hlt := (List.getElem?_eq_some_iff.1 h).1
 rw [List.drop_eq_getElem_cons hlt, (List.getElem?_eq_some_iff.1 h).2]
theorem M7 {d : DiskD} {fs : List Nat} {j f i : Nat} (h : fs[j]? = some f) : GK d fs j i = marksM d (fs.take j) ++ (f, (CA d f).take i) :: (fs.drop (j + 1)).map fun f => (f, []) := by
 unfold GK
 rw [Dt h]
theorem TO {d : DiskD} {fs : List Nat} {j f : Nat} (h : fs[j]? = some f) : GK d fs j (Cn d f).length = GK d fs (j + 1) 0 := by
 have h1 : (CA d f).take (Cn d f).length = CA d f := List.take_of_length_le (by unfold CA; rw [List.length_map]; exact Nat.le_refl _)
 have e1 : marksM d (fs.take (j + 1)) = marksM d (fs.take j) ++ [(f, CA d f)] := by rw [List.take_add_one, h]; simp [marksM]
 rw [M7 h, h1]
 unfold GK
 rw [e1, List.append_assoc]
 congr 1
 cases fs.drop (j + 1) <;> simp
theorem Vh {d : DiskD} {fs : List Nat} {N i : Nat} (h : fs.length = N) : GK d fs N i = marksM d fs := by
 unfold GK
 rw [List.drop_of_length_le (by omega), List.take_of_length_le (by omega), List.append_nil]
theorem P0 {d : DiskD} {fs : List Nat} {svs : List SegV} {j f i : Nat} (h : fs[j]? = some f) (hm : svs.map SegV.m = GK d fs j i) : ∃ x, svs[j]? = some x ∧ x.f = f ∧ x.l = (CA d f).take i := by
  have hlt := (List.getElem?_eq_some_iff.1 h).1
  have h1 := congrArg (·[j]?) hm
  simp only [List.getElem?_map] at h1
  rw [M7 h, List.getElem?_append_right (by simp [marksM]; omega)] at h1
  have hl : (marksM d (fs.take j)).length = j := by simp [marksM]; omega
  rw [hl, Nat.sub_self] at h1
  cases hx : svs[j]? with
  | none => rw [hx] at h1; simp at h1
  | some x =>
    rw [hx] at h1
    simp [SegV.m] at h1
    exact ⟨x, rfl, h1.1, h1.2⟩
theorem VT {d : DiskD} {fs : List Nat} {svs : List SegV} {j i : Nat} (hm : svs.map SegV.m = GK d fs j i) : svs.map SegV.f = fs := by
  have h1 := congrArg (List.map (·.1)) hm
  rw [List.map_map] at h1
  have h2 : (GK d fs j i).map (·.1) = fs := by
    have e : fs = fs.take j ++ fs.drop j := (List.take_append_drop j fs).symm
    unfold GK
    rw [List.map_append]
    conv => rhs; rw [e]
    congr 1
    · simp [marksM, Function.comp_def]
    · cases fs.drop j <;> simp [Function.comp_def]
  rw [h2] at h1
  exact h1
theorem TP {d : DiskD} {fs : List Nat} {svs : List SegV} {j f i n : Nat} {e : EntD} {x : SegV} {A : Option Addr} {c : Nat} (h : fs[j]? = some f) (hm : svs.map SegV.m = GK d fs j i) (hx : svs[j]? = some x) (hxf : x.f = f) (hxl : x.l = (CA d f).take i) (he : (Cn d f)[i]? = some (e, n)) :
  (svs.set j ⟨x.f, x.l ++ [(e.t, n)], A, c⟩).map SegV.m = GK d fs j (i + 1) := by
 have hlt := (List.getElem?_eq_some_iff.1 h).1
 rw [List.map_set, hm, M7 h, M7 h]
 have hl : (marksM d (fs.take j)).length = j := by simp [marksM]; omega
 rw [List.set_append_right _ _ (by omega), hl, Nat.sub_self, List.set_cons_zero]
 congr 2
 show (x.f, x.l ++ [(e.t, n)]) = _
 rw [hxf, hxl, List.take_add_one]
 have : (CA d f)[i]? = some (e.t, n) := by unfold CA; rw [List.getElem?_map, he]; rfl
 rw [this]
 rfl
def AG (L : List EntD) : Int × Int := match L.getLast? with | none => (0, 0) | some e => (e.t, e.i)
theorem DG (L : List EntD) (e : EntD) : AG (L ++ [e]) = (e.t, e.i) := by unfold AG; rw [List.getLast?_append]; rfl
def Cr (d : DiskD) (fs : List Nat) (j : Nat) (f i : Nat) : List EntD := By d (fs.take j) ++ ((Cn d f).take i).map (·.1)
theorem Mo {d : DiskD} {fs : List Nat} {j f i n : Nat} {e : EntD} (he : (Cn d f)[i]? = some (e, n)) : Cr d fs j f (i + 1) = Cr d fs j f i ++ [e] := by
 unfold Cr
 rw [List.take_add_one, he, List.map_append, ← List.append_assoc]
 rfl
theorem WH (d : DiskD) (fs : List Nat) (j f : Nat) : Cr d fs j f 0 = By d (fs.take j) := by unfold Cr; simp
theorem TQ {d : DiskD} {fs : List Nat} {j f : Nat} (h : fs[j]? = some f) : Cr d fs j f (Cn d f).length = By d (fs.take (j + 1)) := by
 unfold Cr
 rw [List.take_length, Gu h]
def Ct (g : Nat) (m : Int × Int) : Ass := fun rs => ∃ (k : Int) (A : Option Addr) (n c : Nat) (z : Int), Al [cell g 34 #[.int .i64 k, .int .u64 m.1, .int .u64 m.2, .slice A n c, .int .i64 z]] rs
structure PrevV where
  k : Int
  A : Option Addr
  n : Nat
  c : Nat
  z : Int
theorem Ct.open_ {g : Nat} {m : Int × Int} : ∀ rs, Ct g m rs → ∃ x : PrevV, Al [cell g 34 #[.int .i64 x.k, .int .u64 m.1, .int .u64 m.2, .slice x.A x.n x.c, .int .i64 x.z]] rs := fun _ ⟨k, A, n, c, z, h⟩ => ⟨⟨k, A, n, c, z⟩, h⟩
theorem Hc {g : Nat} {m : Int × Int} {k z t i : Int} {A : Option Addr} {n c : Nat} (h : (t, i) = m) : ∀ rs, Al [cell g 34 #[.int .i64 k, .int .u64 t, .int .u64 i, .slice A n c, .int .i64 z]] rs → Ct g m rs := fun _ hz => by subst h; exact ⟨k, A, n, c, z, hz⟩
def P1 (sv : Value) (gs gp : Nat) (d : DiskD) (fs : List Nat) (j f i : Nat) : Ass := fun rs => ∃ svs : List SegV, Al [Ak 92 2 encSg sv svs, Bd svs, cell gs 100 #[AV sv (j * 2)], Ct gp (AG (Cr d fs j f i)), fact (svs.map SegV.m = GK d fs j i)] rs
theorem P1.open_ {sv : Value} {gs gp : Nat} {d : DiskD} {fs : List Nat} {j f i : Nat} : ∀ rs, P1 sv gs gp d fs j f i rs → ∃ svs : List SegV, Al [Ak 92 2 encSg sv svs, Bd svs, cell gs 100 #[AV sv (j * 2)], Ct gp (AG (Cr d fs j f i)), fact (svs.map SegV.m = GK d fs j i)] rs := fun _ h => h
theorem P2 {sv : Value} {gs gp : Nat} {d : DiskD} {fs : List Nat} {j f i : Nat} {svs : List SegV} (h : svs.map SegV.m = GK d fs j i) : ∀ rs, Al [Ak 92 2 encSg sv svs, Bd svs, cell gs 100 #[AV sv (j * 2)], Ct gp (AG (Cr d fs j f i))] rs → P1 sv gs gp d fs j f i rs := fun _ hz => ⟨svs, DV h hz⟩
theorem Vi {sv : Value} {gs gp : Nat} {d : DiskD} {fs : List Nat} {j f : Nat} {svs : List SegV} (h : svs.map SegV.m = GK d fs j 0) : ∀ rs, Al [Ak 92 2 encSg sv svs, Bd svs, cell gs 100 #[AV sv (j * 2)], Ct gp (AG (By d (fs.take j)))] rs → P1 sv gs gp d fs j f 0 rs := fun rs hz => P2 h rs (by rw [WH]; exact hz)
theorem P1.end_ {sv : Value} {gs gp : Nat} {d : DiskD} {fs : List Nat} {j f : Nat} (hf : fs[j]? = some f) : ∀ rs, P1 sv gs gp d fs j f (Cn d f).length rs → ∃ svs : List SegV, Al [Ak 92 2 encSg sv svs, Bd svs, cell gs 100 #[AV sv (j * 2)], Ct gp (AG (By d (fs.take (j + 1)))), fact (svs.map SegV.m = GK d fs j (Cn d f).length)] rs := fun _ h => by
 rw [← TQ hf]
 exact h
theorem M8 {d : DiskD} {fs : List Nat} {j f N : Nat} (hf : fs[j]? = some f) (hL : (By d fs).length ≤ N) : (Cn d f).length ≤ N := by
 have h1 := Or d fs (j + 1)
 rw [Gu hf] at h1
 simp only [List.length_append, List.length_map] at h1
 omega
theorem Vj {g : Nat} {d : DiskD} {fs : List Nat} : ∀ rs, Al [cell g 34 #[.int .i64 0, .int .u64 0, .int .u64 0, .slice none 0 0, .int .i64 0]] rs → Ct g (AG (By d (fs.take 0))) rs := Hc (by rw [List.take_zero]; rfl)
theorem QS {svs : List SegV} {ss : SegsM} {g : Nat} {m : Int × Int} (h : svs.map SegV.m = ss) : ∀ rs, Al [Bd svs, Ct g m] rs → Fq [Bd svs, Ct g m, fact (svs.map SegV.m = ss)] rs := fun rs hz => Iv rs (DV h hz)
theorem F7 {svs : List SegV} {j : Nat} {x : SegV} (hj : svs[j]? = some x) : ∀ rs, Bd svs rs → ∃ _ : Unit, Al [Bb (fun x : SegV => Ak 104 2 encMk x.v x.l) (svs.take j), Ak 104 2 encMk (.slice x.A x.l.length x.c) x.l, Bb (fun x : SegV => Ak 104 2 encMk x.v x.l) (svs.drop (j + 1))] rs := fun rs h => L6 hj rs h
theorem I7 {svs : List SegV} {j : Nat} {y : SegV} (hj : j < svs.length) : ∀ rs, Al [Bb (fun x : SegV => Ak 104 2 encMk x.v x.l) (svs.take j), Ak 104 2 encMk (.slice y.A y.l.length y.c) y.l, Bb (fun x : SegV => Ak 104 2 encMk x.v x.l) (svs.drop (j + 1))] rs → Bd (svs.set j y) rs := fun rs h => by
 have h1 := L7 rs h
 rw [NN hj] at h1
 exact h1
end Go.Proofs.YtnknboibmifacaaGreatDoor.Sep
