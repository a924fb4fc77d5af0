/-
  RlS · RlT · RlU
-/
import Derived.Test.YtnebloeideodmaaPK01
set_option linter.unusedSimpArgs false
set_option linter.unusedVariables false
set_option maxRecDepth 100000
namespace Go.Proofs.Ytnebloeideodmaa.Sep
open Go.RowKit
open Go.Proofs.Ytnebloeideodmaa.Mem (AM BA Chg Aq)
theorem GV (g : Nat) (bi bt bc : Int) (es : List EntD) (hI : InvL bi bt es) (di dt dc : Int) (hdi : 0 ≤ di ∧ di ≤ 18446744073709551615) (u : Nat) (hu : Dt bi es.length di = u) : AV Try.prog 37 #[.pointer (some ⟨g, 0, none⟩), .agg #[.int .u64 di, .int .u64 dt, .int .i64 dc]] [Av g bi bt bc es] (fun (_ : Unit) => .tuple #[]) (fun (_ : Unit) => [Av g di dt dc (es.drop u)]) := by
  have hb0 := hI.hi
  have ht0 := hI.ht
  have hle0 := hI.len
  have hm0 : (es.length : Int) ≤ 72057594037927935 := by omega
  have hls : 0 ≤ bi ∧ 0 ≤ (es.length : Int) ∧ bi + (es.length : Int) ≤ 9223372036854775807 := by omega
  have hul : u ≤ es.length := by rw [← hu]; exact HL
  refine Bk (args := [.pointer (some ⟨g, 0, none⟩), .agg #[.int .u64 di, .int .u64 dt, .int .i64 dc]]) 16 Try.func37 rfl rfl rfl ?_; intro w rs
  refine Af (Ag Ab rfl (Al (post := fun g3 => [cell g3 28 #[.int .u64 di, .int .u64 dt, .int .i64 dc], Av g bi bt bc es]) rfl (Co (cs := #[.int .u64 di, .int .u64 dt, .int .i64 dc]) rfl rfl rfl) ?_)); rintro g3
  refine Ae (Ax ?_)
  refine Bi 8 2 [⟨.quiet, [none, none], fun _ => .pointer (some ⟨g, 0, none⟩), []⟩, ⟨.quiet, [none, none], fun _ => .pointer (some ⟨g, 0, none⟩), [0]⟩, ⟨.quiet, [none, none], fun _ => .pointer (some ⟨g, 3, none⟩), [1]⟩, ⟨.quiet, [none, none], fun _ => .pointer (some ⟨g, 0, none⟩), []⟩, ⟨.quiet, [none, none], fun _ => .pointer (some ⟨g3, 0, none⟩), []⟩, ⟨.quiet, [none, none], fun _ => .int .u64 di, [4]⟩, ⟨.actv 0, [some false, some false], fun _ => .int .i64 (u : Int), [3, 5]⟩, ⟨.actv 1, [some true, some false], fun _ => .tuple #[], [2, 6]⟩] [(0, .pointer (some ⟨g, 0, none⟩)), (3, .pointer (some ⟨g3, 0, none⟩))] (fun ρ => match ρ with | [rq0, rq1] => [cell g3 28 #[.int .u64 di, .int .u64 dt, .int .i64 dc], Ct rq1 (fun _ => Av g bi bt bc (es.drop u)) (Av g bi bt bc es)] | _ => []) (by kernel_rfl) (by kernel_rfl) ⟨rfl, rfl, trivial⟩ rfl ?_ ?_
  refine Ad (by intro r0_ r1_; exact ⟨rfl, fun b w hH hb => Ah Ab rfl hb⟩) (Ad (by intro r0_ r1_; exact ⟨rfl, fun b w hH hb => by exact BF rfl rfl hb⟩) (Ad (by intro r0_ r1_; exact ⟨rfl, fun b w hH hb => Ah Ab rfl hb⟩) (Ad (by intro r0_ r1_; exact ⟨rfl, fun b w hH hb => Ah Ab rfl hb⟩) (Ad (by intro r0_ r1_; exact ⟨rfl, fun b w hH hb => Ah Ab rfl hb⟩) (Ad (by intro r0_ r1_; exact ⟨rfl, fun b w hH hb => AD rfl rfl (AL Ai rfl) (hH.row 0 rfl) hb⟩) (Ad (by exact ⟨rfl, AZ.su (Ao (os' := fun _ => [cell g3 28 #[.int .u64 di, .int .u64 dt, .int .i64 dc], Av g bi bt bc es]) [1] 0 (Aj Try.func36 (by kernel_rfl) rfl) (Se g bi bt bc es hI di hdi u hu) rfl rfl rfl (fun _ => rfl) rfl rfl rfl) rfl⟩) (Ad (by intro v0_; exact ⟨rfl, AZ.su (Ao (os' := fun _ => [cell g3 28 #[.int .u64 di, .int .u64 dt, .int .i64 dc], Av g bi bt bc (es.drop u)]) [1] 0 (Aj Try.func64 (by kernel_rfl) rfl) (P0 g bi bt bc es u hul (by omega)) rfl rfl rfl (fun _ => rfl) rfl rfl rfl) rfl⟩) ?_)))))))
  exact Bx
  intro v0_ v1_
  refine BM.keep (env' := [(0, .pointer (some ⟨g, 0, none⟩)), (3, .pointer (some ⟨g3, 0, none⟩))]) ⟨rfl, rfl, trivial⟩ (AE (AJ (Bo 1 rfl Av.open_ (fun _ => rfl) ?_))); rintro ⟨v, sl, f⟩
  refine AY.fact 3 rfl (fun _ h => h.2) ?_; rintro hR
  refine AY.leave [3] rfl rfl ?_
  have hR : RingD sl f (es.drop u) := hR
  have hsz := hR.sz
  refine AR (Ag Ab rfl (Ac rfl (.agg #[.int .u64 di, .int .u64 dt, .int .i64 dc]) (fun b w hb hH => AD rfl rfl (Dd (cs := [.int .u64 di, .int .u64 dt, .int .i64 dc]) Au rfl) (hH.row 3 rfl) hb) (Ac rfl (.pointer (some ⟨g, 0, none⟩)) (fun b w hb hH => by exact BF rfl rfl hb) (Ag Ab rfl (A5 (post := fun _ => [cell g 67 #[.int .u64 di, .int .u64 dt, .int .i64 dc, v, .int .i64 (f : Int), .int .i64 ((es.drop u).length : Int)], As 32 5 encV v sl, An dat sl, cell g3 28 #[.int .u64 di, .int .u64 dt, .int .i64 dc]]) rfl rfl (AP 0 (v := .agg #[.int .u64 di, .int .u64 dt, .int .i64 dc]) #[.int .u64 di, .int .u64 dt, .int .i64 dc, v, .int .i64 (f : Int), .int .i64 ((es.drop u).length : Int)] Au.2 rfl rfl rfl rfl rfl rfl rfl rfl rfl) ?_))))); rintro ⟨⟩
  refine AE ?_
  exact DJ  (fun w h => AG () rfl [0, 1, 2] rfl h (I6 hR)) rfl
theorem NN (g : Nat) (bi bt bc : Int) (es : List EntD) (hI : InvL bi bt es) (x : Int) (hx : 0 ≤ x ∧ x ≤ 18446744073709551615) (h : x ≤ bi ∨ bi + (es.length : Int) < x) : AV Try.prog 14 #[.pointer (some ⟨g, 0, none⟩), .int .u64 x] [Av g bi bt bc es] (fun (_ : Unit) => .int .i64 1) (fun (_ : Unit) => [Av g bi bt bc es]) := by
 have hb0 := hI.hi
 have ht0 := hI.ht
 have hle0 := hI.len
 have hm0 : (es.length : Int) ≤ 72057594037927935 := by omega
 have hls : 0 ≤ bi ∧ 0 ≤ (es.length : Int) ∧ bi + (es.length : Int) ≤ 9223372036854775807 := by omega
 refine Bk (args := [.pointer (some ⟨g, 0, none⟩), .int .u64 x]) 34 Try.func14 rfl rfl rfl ?_; intro w rs
 refine Bo 0 rfl Av.open_ (fun _ => rfl) ?_; rintro ⟨v, sl, f⟩
 refine AY.fact 3 rfl (fun _ h => h.2) ?_; rintro hR
 refine AY.leave [3] rfl rfl ?_
 have hR : RingD sl f es := hR
 have hsz := hR.sz
 refine Af (Ag Ab rfl (Ae (Ax ?_)))
 rcases Int.lt_or_le bi x with hn | hn
 refine Af (Ag Ab rfl (Ac rfl (.pointer (some ⟨g, 0, none⟩)) (fun b w hb hH => by exact BF rfl rfl hb) (Ag Ab rfl (Ac rfl (.int .u64 bi) (fun b w hb hH => AD rfl rfl (AL Ai rfl) (hH.row 0 rfl) hb) (Ac rfl (.bool false) (fun b w hb hH => AI rfl rfl rfl (Bp (by omega)) hb) (Ag Ab rfl (Al rfl (Ao (os' := fun _ => [cell g 67 #[.int .u64 bi, .int .u64 bt, .int .i64 bc, v, .int .i64 (f : Int), .int .i64 (es.length : Int)], As 32 5 encV v sl, An dat sl]) [0] 0 (Aj Try.func17 (by kernel_rfl) rfl) (CZ g bi bt bc v (f : Int) (es.length : Int) hls) rfl rfl rfl (fun _ => rfl) rfl rfl rfl) ?_))))))); rintro ⟨⟩
 refine Ac rfl (.bool true) (fun b w hb hH => AI rfl rfl rfl (Cv (by omega)) hb) (Ag Ab rfl (Ae (AC rfl (Af (Ag Ab rfl (Ae (Aw (Cc ?_))))))))
 exact Ar (.tmp rfl) (fun w h => AG () rfl [0, 1, 2] rfl h (I6 hR)) rfl
 refine Af (Ag Ab rfl (Ac rfl (.pointer (some ⟨g, 0, none⟩)) (fun b w hb hH => by exact BF rfl rfl hb) (Ag Ab rfl (Ac rfl (.int .u64 bi) (fun b w hb hH => AD rfl rfl (AL Ai rfl) (hH.row 0 rfl) hb) (Ac rfl (.bool true) (fun b w hb hH => AI rfl rfl rfl (Bu (by omega)) hb) (Ag Ab rfl (Ae (AC rfl (Af (Ag Ab rfl (Ae (Aw (Cc ?_)))))))))))))
 exact Ar (.tmp rfl) (fun w h => AG () rfl [0, 1, 2] rfl h (I6 hR)) rfl
theorem NO (g : Nat) (bi bt bc : Int) (es : List EntD) (hI : InvL bi bt es) (x : Int) (h1 : bi < x) (h2 : x ≤ bi + (es.length : Int)) (a : Int) (ht : BO bi bt es x = (a, true)) (p q : Int) (hc : Ez (bc, bi) (es.take (Dt bi es.length x)) = (p, q)) (u : Nat) (hu : Dt bi es.length x = u) : AV Try.prog 14 #[.pointer (some ⟨g, 0, none⟩), .int .u64 x] [Av g bi bt bc es] (fun (_ : Unit) => .int .i64 0) (fun (_ : Unit) => [Av g x a p (es.drop u)]) := by
 have hb0 := hI.hi
 have ht0 := hI.ht
 have hle0 := hI.len
 have hm0 : (es.length : Int) ≤ 72057594037927935 := by omega
 have hls : 0 ≤ bi ∧ 0 ≤ (es.length : Int) ∧ bi + (es.length : Int) ≤ 9223372036854775807 := by omega
 have hx : 0 ≤ x ∧ x ≤ 18446744073709551615 := by omega
 refine Bk (args := [.pointer (some ⟨g, 0, none⟩), .int .u64 x]) 34 Try.func14 rfl rfl rfl ?_; intro w rs
 refine Bo 0 rfl Av.open_ (fun _ => rfl) ?_; rintro ⟨v, sl, f⟩
 refine AY.fact 3 rfl (fun _ h => h.2) ?_; rintro hR
 refine AY.leave [3] rfl rfl ?_
 have hR : RingD sl f es := hR
 have hsz := hR.sz
 refine Af (Ag Ab rfl (Ae (Ax (Af (Ag Ab rfl (Ac rfl (.pointer (some ⟨g, 0, none⟩)) (fun b w hb hH => by exact BF rfl rfl hb) (Ag Ab rfl (Ac rfl (.int .u64 bi) (fun b w hb hH => AD rfl rfl (AL Ai rfl) (hH.row 0 rfl) hb) (Ac rfl (.bool false) (fun b w hb hH => AI rfl rfl rfl (Bp (by omega)) hb) (Ag Ab rfl (Al rfl (Ao (os' := fun _ => [cell g 67 #[.int .u64 bi, .int .u64 bt, .int .i64 bc, v, .int .i64 (f : Int), .int .i64 (es.length : Int)], As 32 5 encV v sl, An dat sl]) [0] 0 (Aj Try.func17 (by kernel_rfl) rfl) (CZ g bi bt bc v (f : Int) (es.length : Int) hls) rfl rfl rfl (fun _ => rfl) rfl rfl rfl) ?_))))))))))); rintro ⟨⟩
 refine Ac rfl (.bool false) (fun b w hb hH => AI rfl rfl rfl (BT (by omega)) hb) (Ag Ab rfl (Ae (Az rfl (AK (AJ (Af (Ag Ab rfl (Al rfl (Ao (os' := fun _ => [cell g 67 #[.int .u64 bi, .int .u64 bt, .int .i64 bc, v, .int .i64 (f : Int), .int .i64 (es.length : Int)], As 32 5 encV v sl, An dat sl]) [0, 1, 2] 0 (Aj Try.func32 (by kernel_rfl) rfl) (E4 g bi bt bc es hI v sl f hR x hx a true ht) rfl rfl rfl (fun _ => rfl) rfl rfl rfl) ?_)))))))); rintro ⟨⟩
 refine Ag Ab rfl (Ae (Be [0, 1, 2] rfl (Av.mk rfl hR) rfl (Af (Ag Ab rfl (Al rfl (Ao (os' := fun _ => [Av g bi bt bc es]) [0] 0 (Aj Try.func38 (by kernel_rfl) rfl) (Mn g bi bt bc es hI x hx p q hc) rfl rfl rfl (fun _ => rfl) rfl rfl rfl) ?_))))); rintro ⟨⟩
 refine Ac rfl (.agg #[.int .u64 x, .int .u64 a, .int .i64 p]) (fun b w hb hH => Bn rfl rfl (by kernel_rfl) hb) (Al rfl (Ao (os' := fun _ => [Av g x a p (es.drop u)]) [0] 0 (Aj Try.func37 (by kernel_rfl) rfl) (GV g bi bt bc es hI x a p hx u hu) rfl rfl rfl (fun _ => rfl) rfl rfl rfl) ?_); rintro ⟨⟩
 refine Ae (Af (Ag Ab rfl (Ae (Aw ?_))))
 exact Ar (.tmp rfl) (fun w h => AG () rfl [0] rfl h CV) rfl
theorem I9 {di dt dc : Int} (h : C0 di dt dc = true) : (di == 0 && (dt == 0 && dc == 0)) = false := by
 unfold C0 at h
 simp only [Bool.and_eq_true] at h
 obtain ⟨⟨⟨h1, _⟩, _⟩, _⟩ := h
 unfold BX at h1
 simp at h1
 simp; omega
theorem K5 {di dt dc : Int} (h : C0 di dt dc = true) : CS di dt dc = true := by unfold CS; rw [h]; simp
theorem Sg {di dt dc : Int} (h : C0 di dt dc = false) (hz : (di == 0 && (dt == 0 && dc == 0)) = false) : CS di dt dc = false := by unfold CS; rw [h, hz]; rfl
theorem Tt {bi bt : Int} {es : List EntD} (h : InvL bi bt es) : InvL bi bt (es.take 0) := ⟨h.hi, h.ht, by rw [List.take_zero]; rfl⟩
theorem NP (g : Nat) (bi bt bc : Int) (es : List EntD) (hI : InvL bi bt es) (di dt dc : Int) (hdi : 0 ≤ di ∧ di ≤ 18446744073709551615) (hdc : -9223372036854775808 ≤ dc ∧ dc ≤ 9223372036854775807) (h : C0 di dt dc = false) : AV Try.prog 16 #[.pointer (some ⟨g, 0, none⟩), .agg #[.int .u64 di, .int .u64 dt, .int .i64 dc]] [Av g bi bt bc es] (fun (_ : Unit) => .bool false) (fun (_ : Unit) => [Av g bi bt bc es]) := by
 refine Bk (args := [.pointer (some ⟨g, 0, none⟩), .agg #[.int .u64 di, .int .u64 dt, .int .i64 dc]]) 30 Try.func16 rfl rfl rfl ?_; intro w rs
 refine Af (Ag Ab rfl (Al (post := fun g3 => [cell g3 28 #[.int .u64 di, .int .u64 dt, .int .i64 dc], Av g bi bt bc es]) rfl (Co (cs := #[.int .u64 di, .int .u64 dt, .int .i64 dc]) rfl rfl rfl) ?_)); rintro g3
 refine Ag Ab rfl (Ae (Ax ?_))
 cases hz : (di == 0 && (dt == 0 && dc == 0))
 refine Af (Ag Ab rfl (Ac rfl (.agg #[.int .u64 di, .int .u64 dt, .int .i64 dc]) (fun b w hb hH => AD rfl rfl (Dd (cs := [.int .u64 di, .int .u64 dt, .int .i64 dc]) Au rfl) (hH.row 0 rfl) hb) (Ac rfl (.agg #[.int .u64 0, .int .u64 0, .int .i64 0]) (fun b w hb hH => Bn rfl rfl (by kernel_rfl) hb) (Ac rfl (.bool false) (fun b w hb hH => Bl (C1 di dt dc 0 0 0 false hz) rfl rfl rfl hb) (Ag Ab rfl (Ac rfl (.agg #[.int .u64 di, .int .u64 dt, .int .i64 dc]) (fun b w hb hH => AD rfl rfl (Dd (cs := [.int .u64 di, .int .u64 dt, .int .i64 dc]) Au rfl) (hH.row 0 rfl) hb) (Al (post := fun _ => [cell g3 28 #[.int .u64 di, .int .u64 dt, .int .i64 dc], Av g bi bt bc es]) rfl (AH (Aj Try.func29 (by kernel_rfl) rfl) (fun w hH => Gy w di dt dc hdc false (Sg h hz)) rfl rfl rfl) ?_))))))); rintro ⟨⟩
 refine Ag Ab rfl (Ae (AC rfl (Af (Ag Ab rfl (Ae (Aw (Cc ?_)))))))
 exact Ar (.tmp rfl) (fun w h => AG () rfl [1] rfl h CV) rfl
 refine Af (Ag Ab rfl (Ac rfl (.agg #[.int .u64 di, .int .u64 dt, .int .i64 dc]) (fun b w hb hH => AD rfl rfl (Dd (cs := [.int .u64 di, .int .u64 dt, .int .i64 dc]) Au rfl) (hH.row 0 rfl) hb) (Ac rfl (.agg #[.int .u64 0, .int .u64 0, .int .i64 0]) (fun b w hb hH => Bn rfl rfl (by kernel_rfl) hb) (Ac rfl (.bool true) (fun b w hb hH => Bl (C1 di dt dc 0 0 0 true hz) rfl rfl rfl hb) (Ag Ab rfl (Ae (AC rfl (Af (Ag Ab rfl (Ae (Aw (Cc ?_))))))))))))
 exact Ar (.tmp rfl) (fun w h => AG () rfl [1] rfl h CV) rfl
theorem K6 (g : Nat) (bi bt bc : Int) (es : List EntD) (hI : InvL bi bt es) (di dt dc : Int) (hdi : 0 ≤ di ∧ di ≤ 18446744073709551615) (hdc : -9223372036854775808 ≤ dc ∧ dc ≤ 9223372036854775807) (h : C0 di dt dc = true) (hh : CY bi bt es di dt = true) (u : Nat) (hu : Dt bi es.length di = u) : AV Try.prog 16 #[.pointer (some ⟨g, 0, none⟩), .agg #[.int .u64 di, .int .u64 dt, .int .i64 dc]] [Av g bi bt bc es] (fun (_ : Unit) => .bool true) (fun (_ : Unit) => [Av g di dt dc (es.drop u)]) := by
 have hz := I9 h
 refine Bk (args := [.pointer (some ⟨g, 0, none⟩), .agg #[.int .u64 di, .int .u64 dt, .int .i64 dc]]) 30 Try.func16 rfl rfl rfl ?_; intro w rs
 refine Af (Ag Ab rfl (Al (post := fun g3 => [cell g3 28 #[.int .u64 di, .int .u64 dt, .int .i64 dc], Av g bi bt bc es]) rfl (Co (cs := #[.int .u64 di, .int .u64 dt, .int .i64 dc]) rfl rfl rfl) ?_)); rintro g3
 refine Ag Ab rfl (Ae (Ax (Af (Ag Ab rfl (Ac rfl (.agg #[.int .u64 di, .int .u64 dt, .int .i64 dc]) (fun b w hb hH => AD rfl rfl (Dd (cs := [.int .u64 di, .int .u64 dt, .int .i64 dc]) Au rfl) (hH.row 0 rfl) hb) (Ac rfl (.agg #[.int .u64 0, .int .u64 0, .int .i64 0]) (fun b w hb hH => Bn rfl rfl (by kernel_rfl) hb) (Ac rfl (.bool false) (fun b w hb hH => Bl (C1 di dt dc 0 0 0 false hz) rfl rfl rfl hb) (Ag Ab rfl (Ac rfl (.agg #[.int .u64 di, .int .u64 dt, .int .i64 dc]) (fun b w hb hH => AD rfl rfl (Dd (cs := [.int .u64 di, .int .u64 dt, .int .i64 dc]) Au rfl) (hH.row 0 rfl) hb) (Al (post := fun _ => [cell g3 28 #[.int .u64 di, .int .u64 dt, .int .i64 dc], Av g bi bt bc es]) rfl (AH (Aj Try.func29 (by kernel_rfl) rfl) (fun w hH => Gy w di dt dc hdc true (K5 h)) rfl rfl rfl) ?_)))))))))); rintro ⟨⟩
 refine Ag Ab rfl (Ae (Az rfl (AK (AJ (Af (Ag Ab rfl (Ac rfl (.int .u64 di) (fun b w hb hH => AD rfl rfl (AL Ai rfl) (hH.row 0 rfl) hb) (Ag Ab rfl (Ac rfl (.int .u64 dt) (fun b w hb hH => AD rfl rfl (AL Ai rfl) (hH.row 0 rfl) hb) (Al rfl (Ao (os' := fun _ => [cell g3 28 #[.int .u64 di, .int .u64 dt, .int .i64 dc], Av g bi bt bc es]) [1] 0 (Aj Try.func34 (by kernel_rfl) rfl) (I7 g bi bt bc es hI di dt hdi true hh) rfl rfl rfl (fun _ => rfl) rfl rfl rfl) ?_)))))))))); rintro ⟨⟩
 refine Ag Ab rfl (Ae (Ax (Af (Ag Ab rfl (Ae (Az rfl (AK (AJ (Af (Ag Ab rfl (Ac rfl (.agg #[.int .u64 di, .int .u64 dt, .int .i64 dc]) (fun b w hb hH => AD rfl rfl (Dd (cs := [.int .u64 di, .int .u64 dt, .int .i64 dc]) Au rfl) (hH.row 0 rfl) hb) (Al rfl (Ao (os' := fun _ => [cell g3 28 #[.int .u64 di, .int .u64 dt, .int .i64 dc], Av g di dt dc (es.drop u)]) [1] 0 (Aj Try.func37 (by kernel_rfl) rfl) (GV g bi bt bc es hI di dt dc hdi u hu) rfl rfl rfl (fun _ => rfl) rfl rfl rfl) ?_)))))))))))); rintro ⟨⟩
 refine Ae (Af (Ag Ab rfl (Ae (Aw ?_))))
 exact Ar (.tmp rfl) (fun w h => AG () rfl [1] rfl h CV) rfl
theorem Mo (g : Nat) (bi bt bc : Int) (es : List EntD) (hI : InvL bi bt es) (di dt dc : Int) (hdi : 0 ≤ di ∧ di ≤ 18446744073709551615) (hdc : -9223372036854775808 ≤ dc ∧ dc ≤ 9223372036854775807) (h : C0 di dt dc = true) (hh : CY bi bt es di dt = false) : AV Try.prog 16 #[.pointer (some ⟨g, 0, none⟩), .agg #[.int .u64 di, .int .u64 dt, .int .i64 dc]] [Av g bi bt bc es] (fun (_ : Unit) => .bool false) (fun (_ : Unit) => [Av g di dt dc ([])]) := by
 have hz := I9 h
 refine Bk (args := [.pointer (some ⟨g, 0, none⟩), .agg #[.int .u64 di, .int .u64 dt, .int .i64 dc]]) 30 Try.func16 rfl rfl rfl ?_; intro w rs
 refine Af (Ag Ab rfl (Al (post := fun g3 => [cell g3 28 #[.int .u64 di, .int .u64 dt, .int .i64 dc], Av g bi bt bc es]) rfl (Co (cs := #[.int .u64 di, .int .u64 dt, .int .i64 dc]) rfl rfl rfl) ?_)); rintro g3
 refine Ag Ab rfl (Ae (Ax (Af (Ag Ab rfl (Ac rfl (.agg #[.int .u64 di, .int .u64 dt, .int .i64 dc]) (fun b w hb hH => AD rfl rfl (Dd (cs := [.int .u64 di, .int .u64 dt, .int .i64 dc]) Au rfl) (hH.row 0 rfl) hb) (Ac rfl (.agg #[.int .u64 0, .int .u64 0, .int .i64 0]) (fun b w hb hH => Bn rfl rfl (by kernel_rfl) hb) (Ac rfl (.bool false) (fun b w hb hH => Bl (C1 di dt dc 0 0 0 false hz) rfl rfl rfl hb) (Ag Ab rfl (Ac rfl (.agg #[.int .u64 di, .int .u64 dt, .int .i64 dc]) (fun b w hb hH => AD rfl rfl (Dd (cs := [.int .u64 di, .int .u64 dt, .int .i64 dc]) Au rfl) (hH.row 0 rfl) hb) (Al (post := fun _ => [cell g3 28 #[.int .u64 di, .int .u64 dt, .int .i64 dc], Av g bi bt bc es]) rfl (AH (Aj Try.func29 (by kernel_rfl) rfl) (fun w hH => Gy w di dt dc hdc true (K5 h)) rfl rfl rfl) ?_)))))))))); rintro ⟨⟩
 refine Ag Ab rfl (Ae (Az rfl (AK (AJ (Af (Ag Ab rfl (Ac rfl (.int .u64 di) (fun b w hb hH => AD rfl rfl (AL Ai rfl) (hH.row 0 rfl) hb) (Ag Ab rfl (Ac rfl (.int .u64 dt) (fun b w hb hH => AD rfl rfl (AL Ai rfl) (hH.row 0 rfl) hb) (Al rfl (Ao (os' := fun _ => [cell g3 28 #[.int .u64 di, .int .u64 dt, .int .i64 dc], Av g bi bt bc es]) [1] 0 (Aj Try.func34 (by kernel_rfl) rfl) (I7 g bi bt bc es hI di dt hdi false hh) rfl rfl rfl (fun _ => rfl) rfl rfl rfl) ?_)))))))))); rintro ⟨⟩
 refine Ag Ab rfl (Ae (Ax (Af (Ag Ab rfl (Ae (AC rfl (AR (Ag Ab rfl (Ac rfl (.pointer (some ⟨g, 0, none⟩)) (fun b w hb hH => by exact BF rfl rfl hb) (Ag Ab rfl (Al rfl (Ao (os' := fun _ => [cell g3 28 #[.int .u64 di, .int .u64 dt, .int .i64 dc], Av g bi bt bc (es.take 0)]) [1] 0 (Aj Try.func35 (by kernel_rfl) rfl) (Mk g bi bt bc es 0 (by decide)) rfl rfl rfl (fun _ => rfl) rfl rfl rfl) ?_))))))))))); rintro ⟨⟩
 refine AE (AJ (Af (Ag Ab rfl (Ac rfl (.agg #[.int .u64 di, .int .u64 dt, .int .i64 dc]) (fun b w hb hH => AD rfl rfl (Dd (cs := [.int .u64 di, .int .u64 dt, .int .i64 dc]) Au rfl) (hH.row 0 rfl) hb) (Al rfl (Ao (os' := fun _ => [cell g3 28 #[.int .u64 di, .int .u64 dt, .int .i64 dc], Av g di dt dc ((es.take 0).drop (Dt bi (es.take 0).length di))]) [1] 0 (Aj Try.func37 (by kernel_rfl) rfl) (GV g bi bt bc (es.take 0) (Tt hI) di dt dc hdi (Dt bi (es.take 0).length di) rfl) rfl rfl rfl (fun _ => rfl) rfl rfl rfl) ?_))))); rintro ⟨⟩
 refine Ae (Af (Ag Ab rfl (Ae (Aw ?_))))
 exact Ar (.tmp rfl) (fun w h => AG () rfl [1] rfl h (fun z hz => ⟨z, .refl _, by rw [List.take_zero, List.drop_nil] at hz; exact hz⟩)) rfl
end Go.Proofs.Ytnebloeideodmaa.Sep
namespace Go.Proofs.Ytnebloeideodmaa.Sep
open Go.RowKit
open Go.Proofs.Ytnebloeideodmaa.Mem (AM BA Chg Aq)
theorem Mp {g : Nat} {bi bt bc : Int} {v : Value} {sl : List EntV} {f : Nat} {es : List EntD} {X : Ass} (h : RingD sl f es) {z : List RowT} (hz : Am [cell g 67 #[.int .u64 bi, .int .u64 bt, .int .i64 bc, v, .int .i64 (f : Int), .int .i64 (es.length : Int)], As 32 5 encV v (sl), An dat sl, X] z) : Am [Av g bi bt bc es, X] z := by
 obtain ⟨a, b, e, h1, c, d, e2, h2, p, q, e3, h3, h4⟩ := hz
 exact ⟨a ++ (c ++ p), q, by rw [e, e2, e3]; simp, Av.mk rfl h _ ⟨a, c ++ p, rfl, h1, c, p, rfl, h2, Am.one h3⟩, h4⟩
theorem P5 (g : Nat) (bi bt bc : Int) (es : List EntD) (hI : InvL bi bt es) (X : Ass) (A : Option Addr) (c : Nat) (l : List EntV) (hX : Cx X (.slice A l.length c) l) (hd : ∀ x, x ∈ l → x.e.d.length ≤ 140737488351232) (hs : (es.length + l.length) * 56 ≤ 140737488351232) (h : BY (bi + (es.length : Int)) (Ev bt es) (l.map (·.e)) = true) : AV Try.prog 52 #[.pointer (some ⟨g, 0, none⟩), .slice A l.length c] [Av g bi bt bc es, X] (fun (_ : Unit) => .int .i64 0) (fun (_ : Unit) => [Av g bi bt bc (es ++ (l.map (·.e))), X]) := by
  have hb0 := hI.hi
  have ht0 := hI.ht
  have hle0 := hI.len
  have hm0 : (es.length : Int) ≤ 72057594037927935 := by omega
  have hls : 0 ≤ bi ∧ 0 ≤ (es.length : Int) ∧ bi + (es.length : Int) ≤ 9223372036854775807 := by omega
  have hln : l.length ≤ 9223372036854775807 := by omega
  refine Bk (args := [.pointer (some ⟨g, 0, none⟩), .slice A l.length c]) 15 Try.func52 rfl rfl rfl ?_; intro w rs
  refine Bo 0 rfl Av.open_ (fun _ => rfl) ?_; rintro ⟨v, sl, f⟩
  refine AY.fact 3 rfl (fun _ h => h.2) ?_; rintro hR
  refine AY.leave [3] rfl rfl ?_
  have hR : RingD sl f es := hR
  have hsz := hR.sz
  refine Af (Ag Ab rfl (Ae (Ax (Af (Ag Ab rfl (Al rfl (Ao (os' := fun _ => [cell g 67 #[.int .u64 bi, .int .u64 bt, .int .i64 bc, v, .int .i64 (f : Int), .int .i64 (es.length : Int)], As 32 5 encV v sl, An dat sl, X]) [0] 0 (Aj Try.func17 (by kernel_rfl) rfl) (CZ g bi bt bc v (f : Int) (es.length : Int) hls) rfl rfl rfl (fun _ => rfl) rfl rfl rfl) ?_)))))); rintro ⟨⟩
  refine Ag Ab rfl (Al rfl (Ao (os' := fun _ => [cell g 67 #[.int .u64 bi, .int .u64 bt, .int .i64 bc, v, .int .i64 (f : Int), .int .i64 (es.length : Int)], As 32 5 encV v sl, An dat sl, X]) [0, 1, 2] 0 (Aj Try.func33 (by kernel_rfl) rfl) (K3 g bi bt bc es hI v sl f hR ) rfl rfl rfl (fun _ => rfl) rfl rfl rfl) ?_); rintro ⟨⟩
  refine Ag Ab rfl (Al rfl (Ao (os' := fun _ => [cell g 67 #[.int .u64 bi, .int .u64 bt, .int .i64 bc, v, .int .i64 (f : Int), .int .i64 (es.length : Int)], As 32 5 encV v sl, An dat sl, X]) [3] 0 (Aj Try.func30 (by kernel_rfl) rfl) (F8 X A c l hX hln (bi + (es.length : Int)) (Ev bt es) (by omega) (by have := I1 hI; omega) true h) rfl rfl rfl (fun _ => rfl) rfl rfl rfl) ?_); rintro ⟨⟩
  refine Ag Ab rfl (Ae (Az rfl (AK (AJ (Be [0, 1, 2] rfl (Av.mk rfl hR) rfl (Af (Ag Ab rfl (Al rfl (Ao (os' := fun _ => [Av g bi bt bc (es ++ l.map (·.e)), X]) [0, 1] 0 (Aj Try.func31 (by kernel_rfl) rfl) (HN g bi bt bc es X A c l hX hln hd hs) rfl rfl rfl (fun _ => rfl) rfl rfl rfl) ?_)))))))); rintro ⟨⟩
  refine Ae (Af (Ag Ab rfl (Ae (Aw ?_))))
  exact Ar (.tmp rfl) (fun w h => AG () rfl [0, 1] rfl h CV) rfl
theorem P6 (g : Nat) (bi bt bc : Int) (es : List EntD) (hI : InvL bi bt es) (X : Ass) (A : Option Addr) (c : Nat) (l : List EntV) (hX : Cx X (.slice A l.length c) l) (hd : ∀ x, x ∈ l → x.e.d.length ≤ 140737488351232) (hs : (es.length + l.length) * 56 ≤ 140737488351232) (h : BY (bi + (es.length : Int)) (Ev bt es) (l.map (·.e)) = false) : AV Try.prog 52 #[.pointer (some ⟨g, 0, none⟩), .slice A l.length c] [Av g bi bt bc es, X] (fun (_ : Unit) => .int .i64 1) (fun (_ : Unit) => [Av g bi bt bc es, X]) := by
  have hb0 := hI.hi
  have ht0 := hI.ht
  have hle0 := hI.len
  have hm0 : (es.length : Int) ≤ 72057594037927935 := by omega
  have hls : 0 ≤ bi ∧ 0 ≤ (es.length : Int) ∧ bi + (es.length : Int) ≤ 9223372036854775807 := by omega
  have hln : l.length ≤ 9223372036854775807 := by omega
  refine Bk (args := [.pointer (some ⟨g, 0, none⟩), .slice A l.length c]) 15 Try.func52 rfl rfl rfl ?_; intro w rs
  refine Bo 0 rfl Av.open_ (fun _ => rfl) ?_; rintro ⟨v, sl, f⟩
  refine AY.fact 3 rfl (fun _ h => h.2) ?_; rintro hR
  refine AY.leave [3] rfl rfl ?_
  have hR : RingD sl f es := hR
  have hsz := hR.sz
  refine Af (Ag Ab rfl (Ae (Ax (Af (Ag Ab rfl (Al rfl (Ao (os' := fun _ => [cell g 67 #[.int .u64 bi, .int .u64 bt, .int .i64 bc, v, .int .i64 (f : Int), .int .i64 (es.length : Int)], As 32 5 encV v sl, An dat sl, X]) [0] 0 (Aj Try.func17 (by kernel_rfl) rfl) (CZ g bi bt bc v (f : Int) (es.length : Int) hls) rfl rfl rfl (fun _ => rfl) rfl rfl rfl) ?_)))))); rintro ⟨⟩
  refine Ag Ab rfl (Al rfl (Ao (os' := fun _ => [cell g 67 #[.int .u64 bi, .int .u64 bt, .int .i64 bc, v, .int .i64 (f : Int), .int .i64 (es.length : Int)], As 32 5 encV v sl, An dat sl, X]) [0, 1, 2] 0 (Aj Try.func33 (by kernel_rfl) rfl) (K3 g bi bt bc es hI v sl f hR ) rfl rfl rfl (fun _ => rfl) rfl rfl rfl) ?_); rintro ⟨⟩
  refine Ag Ab rfl (Al rfl (Ao (os' := fun _ => [cell g 67 #[.int .u64 bi, .int .u64 bt, .int .i64 bc, v, .int .i64 (f : Int), .int .i64 (es.length : Int)], As 32 5 encV v sl, An dat sl, X]) [3] 0 (Aj Try.func30 (by kernel_rfl) rfl) (F8 X A c l hX hln (bi + (es.length : Int)) (Ev bt es) (by omega) (by have := I1 hI; omega) false h) rfl rfl rfl (fun _ => rfl) rfl rfl rfl) ?_); rintro ⟨⟩
  refine Ag Ab rfl (Ae (AC rfl (Af (Ag Ab rfl (Ae (Aw (Cc ?_)))))))
  exact Ar (.tmp rfl) (fun w h => AG () rfl [0, 1, 2, 3] rfl h (fun z hz => ⟨z, .refl _, Mp hR hz⟩)) rfl
theorem Vg (bi bt bc : Int) (hbi : 0 ≤ bi ∧ bi ≤ 18446744073709551615) (hbt : 0 ≤ bt ∧ bt ≤ 18446744073709551615) (hbc : -9223372036854775808 ≤ bc ∧ bc ≤ 9223372036854775807) (X : Ass) (A : Option Addr) (c : Nat) (l : List EntV) (hX : Cx X (.slice A l.length c) l) (hd : ∀ x, x ∈ l → x.e.d.length ≤ 140737488351232) (hs : l.length * 56 ≤ 140737488351232) (h : CS bi bt bc = true) (h2 : BY bi bt (l.map (·.e)) = true) : AV Try.prog 8 #[.agg #[.int .u64 bi, .int .u64 bt, .int .i64 bc], .slice A l.length c] [X] (fun (g : Nat) => .tuple #[.pointer (some ⟨g, 0, none⟩), .int .i64 0]) (fun (g : Nat) => [Av g bi bt bc (l.map (·.e)), X]) := by
  have hln : l.length ≤ 9223372036854775807 := by omega
  refine Bk (args := [.agg #[.int .u64 bi, .int .u64 bt, .int .i64 bc], .slice A l.length c]) 26 Try.func8 rfl rfl rfl ?_; intro w rs
  refine Af (Ag Ab rfl (Al (post := fun g2 => [cell g2 28 #[.int .u64 bi, .int .u64 bt, .int .i64 bc], X]) rfl (Co (cs := #[.int .u64 bi, .int .u64 bt, .int .i64 bc]) rfl rfl rfl) ?_)); rintro g2
  refine Ag Ab rfl (Ae (Ax (Af (Ag Ab rfl (Ac rfl (.agg #[.int .u64 bi, .int .u64 bt, .int .i64 bc]) (fun b w hb hH => AD rfl rfl (Dd (cs := [.int .u64 bi, .int .u64 bt, .int .i64 bc]) Au rfl) (hH.row 0 rfl) hb) (Al (post := fun _ => [cell g2 28 #[.int .u64 bi, .int .u64 bt, .int .i64 bc], X]) rfl (AH (Aj Try.func29 (by kernel_rfl) rfl) (fun w hH => Gy w bi bt bc hbc true h) rfl rfl rfl) ?_)))))); rintro ⟨⟩
  refine Ag Ab rfl (Ac rfl (.int .u64 bi) (fun b w hb hH => AD rfl rfl (AL Ai rfl) (hH.row 0 rfl) hb) (Ag Ab rfl (Ac rfl (.int .u64 bt) (fun b w hb hH => AD rfl rfl (AL Ai rfl) (hH.row 0 rfl) hb) (Ag Ab rfl (Al rfl (Ao (os' := fun _ => [cell g2 28 #[.int .u64 bi, .int .u64 bt, .int .i64 bc], X]) [1] 0 (Aj Try.func30 (by kernel_rfl) rfl) (F8 X A c l hX hln bi bt hbi hbt true h2) rfl rfl rfl (fun _ => rfl) rfl rfl rfl) ?_))))); rintro ⟨⟩
  refine Ag Ab rfl (Ae (Az rfl (AK (AJ (Af (Ag Ab rfl (Ac rfl (.agg #[.int .u64 bi, .int .u64 bt, .int .i64 bc]) (fun b w hb hH => AD rfl rfl (Dd (cs := [.int .u64 bi, .int .u64 bt, .int .i64 bc]) Au rfl) (hH.row 0 rfl) hb) (Ac rfl (.agg #[.int .u64 bi, .int .u64 bt, .int .i64 bc, .slice none 0 0, .int .i64 0, .int .i64 0]) (fun b w hb hH => Bn rfl rfl (by kernel_rfl) hb) (Al (post := fun g => [cell g 67 #[.int .u64 bi, .int .u64 bt, .int .i64 bc, .slice none 0 0, .int .i64 0, .int .i64 0], cell g2 28 #[.int .u64 bi, .int .u64 bt, .int .i64 bc], X]) rfl (Co (cs := #[.int .u64 bi, .int .u64 bt, .int .i64 bc, .slice none 0 0, .int .i64 0, .int .i64 0]) rfl rfl rfl) ?_))))))))); rintro g
  refine Ag Ab rfl (Ae (G7 32 5 encV (H3 (t := An dat ([])) (IX) (Be [2, 1, 0] rfl (Av.mk (n := 0) rfl PV) rfl (AY.keep (env' := [(0, .agg #[.int .u64 bi, .int .u64 bt, .int .i64 bc]), (1, .slice A l.length c), (2, .pointer (some ⟨g2, 0, none⟩)), (4, .pointer none), (5, .int .i64 0), (7, .agg #[.int .u64 bi, .int .u64 bt, .int .i64 bc]), (8, .bool true), (9, .bool false), (10, .bool false), (11, .pointer (some ⟨g2, 0, none⟩)), (12, .int .u64 bi), (13, .pointer (some ⟨g2, 1, none⟩)), (14, .int .u64 bt), (15, .slice A l.length c), (16, .bool true), (17, .bool false), (18, .bool false), (19, .agg #[.int .u64 bi, .int .u64 bt, .int .i64 bc]), (20, .agg #[.int .u64 bi, .int .u64 bt, .int .i64 bc, .slice none 0 0, .int .i64 0, .int .i64 0]), (21, .pointer (some ⟨g, 0, none⟩)), (6, .pointer (some ⟨g, 0, none⟩))]) ⟨rfl, rfl, rfl, rfl, rfl, rfl, rfl, rfl, rfl, rfl, rfl, rfl, rfl, rfl, rfl, rfl, rfl, rfl, rfl, rfl, rfl, trivial⟩ (AY.mid [Av g bi bt bc ([]), cell g2 28 #[.int .u64 bi, .int .u64 bt, .int .i64 bc], X] (.refl _) (Af (Ag Ab rfl (Al rfl (Ao (os' := fun _ => [Av g bi bt bc (([]) ++ l.map (·.e)), cell g2 28 #[.int .u64 bi, .int .u64 bt, .int .i64 bc], X]) [0, 2] 0 (Aj Try.func31 (by kernel_rfl) rfl) (HN g bi bt bc ([]) X A c l hX hln hd (by simpa using hs)) rfl rfl rfl (fun _ => rfl) rfl rfl rfl) ?_))))))))); rintro ⟨⟩
  refine Ae (Af (Ag Ab rfl (Ae (Aw ?_))))
  exact BU (.tmp rfl) (.tmp rfl) (fun w h => AG g rfl [0, 2] rfl h CV) rfl
end Go.Proofs.Ytnebloeideodmaa.Sep
namespace Go.Proofs.Ytnebloeideodmaa.Sep
open Go.RowKit
open Go.Proofs.Ytnebloeideodmaa.Mem (AM BA Chg Aq)
theorem NQ (g : Nat) (bi bt bc : Int) (es : List EntD) (hI : InvL bi bt es) (X : Ass) (A : Option Addr) (c : Nat) (l : List EntV) (hX : Cx X (.slice A l.length c) l) (hd : ∀ x, x ∈ l → x.e.d.length ≤ 140737488351232) (hs : (es.length + l.length) * 56 ≤ 140737488351232) (x y : Int) (hx : 0 ≤ x ∧ x ≤ 18446744073709551615) (hy : 0 ≤ y ∧ y ≤ 18446744073709551615) (h : (CY bi bt es x y && BY x y (l.map (·.e))) = false) : AV Try.prog 13 #[.pointer (some ⟨g, 0, none⟩), .int .u64 x, .int .u64 y, .slice A l.length c] [Av g bi bt bc es, X] (fun (_ : Unit) => .tuple #[.int .u64 0, .bool false]) (fun (_ : Unit) => [Av g bi bt bc es, X]) := by
  have hln : l.length ≤ 9223372036854775807 := by omega
  refine Bk (args := [.pointer (some ⟨g, 0, none⟩), .int .u64 x, .int .u64 y, .slice A l.length c]) 55 Try.func13 rfl rfl rfl ?_; intro w rs
  refine Af (Ag Ab rfl (Ae (Ax ?_)))
  cases h1 : CY bi bt es x y
  refine Af (Ag Ab rfl (Al rfl (Ao (os' := fun _ => [Av g bi bt bc es, X]) [0] 0 (Aj Try.func34 (by kernel_rfl) rfl) (I7 g bi bt bc es hI x y hx false h1) rfl rfl rfl (fun _ => rfl) rfl rfl rfl) ?_)); rintro ⟨⟩
  refine Ag Ab rfl (Ae (AC rfl (Af (Ag Ab rfl (Ae (Aw (Cc ?_)))))))
  exact BU (.tmp rfl) (.tmp rfl) (fun w h => AG () rfl [0, 1] rfl h CV) rfl
  have h2 : BY x y (l.map (·.e)) = false := by rw [h1] at h; exact h
  refine Af (Ag Ab rfl (Al rfl (Ao (os' := fun _ => [Av g bi bt bc es, X]) [0] 0 (Aj Try.func34 (by kernel_rfl) rfl) (I7 g bi bt bc es hI x y hx true h1) rfl rfl rfl (fun _ => rfl) rfl rfl rfl) ?_)); rintro ⟨⟩
  refine Ag Ab rfl (Al rfl (Ao (os' := fun _ => [Av g bi bt bc es, X]) [1] 0 (Aj Try.func30 (by kernel_rfl) rfl) (F8 X A c l hX hln x y hx hy false h2) rfl rfl rfl (fun _ => rfl) rfl rfl rfl) ?_); rintro ⟨⟩
  refine Ag Ab rfl (Ae (AC rfl (Af (Ag Ab rfl (Ae (Aw (Cc ?_)))))))
  exact BU (.tmp rfl) (.tmp rfl) (fun w h => AG () rfl [0, 1] rfl h CV) rfl
theorem NR (g : Nat) (bi bt bc : Int) (es : List EntD) (hI : InvL bi bt es) (X : Ass) (A : Option Addr) (c : Nat) (l : List EntV) (hX : Cx X (.slice A l.length c) l) (hd : ∀ x, x ∈ l → x.e.d.length ≤ 140737488351232) (hs : (es.length + l.length) * 56 ≤ 140737488351232) (hcp : l.length ≤ c) (x y : Int) (hx : 0 ≤ x ∧ x ≤ 18446744073709551615) (hy : 0 ≤ y ∧ y ≤ 18446744073709551615) (h1 : CY bi bt es x y = true) (h2 : BY x y (l.map (·.e)) = true) (es2 : List EntD) (fr : Int) (h3 : E3 bi bt es (l.map (·.e)) = (es2, fr)) : AV Try.prog 13 #[.pointer (some ⟨g, 0, none⟩), .int .u64 x, .int .u64 y, .slice A l.length c] [Av g bi bt bc es, X] (fun (_ : Unit) => .tuple #[.int .u64 fr, .bool true]) (fun (_ : Unit) => [Av g bi bt bc es2, X]) := by
  have hb0 := hI.hi
  have ht0 := hI.ht
  have hle0 := hI.len
  have hm0 : (es.length : Int) ≤ 72057594037927935 := by omega
  have hls : 0 ≤ bi ∧ 0 ≤ (es.length : Int) ∧ bi + (es.length : Int) ≤ 9223372036854775807 := by omega
  have hln : l.length ≤ 9223372036854775807 := by omega
  refine Bk (args := [.pointer (some ⟨g, 0, none⟩), .int .u64 x, .int .u64 y, .slice A l.length c]) 55 Try.func13 rfl rfl rfl ?_; intro w rs
  refine Af (Ag Ab rfl (Ae (Ax (Af (Ag Ab rfl (Al rfl (Ao (os' := fun _ => [Av g bi bt bc es, X]) [0] 0 (Aj Try.func34 (by kernel_rfl) rfl) (I7 g bi bt bc es hI x y hx true h1) rfl rfl rfl (fun _ => rfl) rfl rfl rfl) ?_)))))); rintro ⟨⟩
  refine Ag Ab rfl (Al rfl (Ao (os' := fun _ => [Av g bi bt bc es, X]) [1] 0 (Aj Try.func30 (by kernel_rfl) rfl) (F8 X A c l hX hln x y hx hy true h2) rfl rfl rfl (fun _ => rfl) rfl rfl rfl) ?_); rintro ⟨⟩
  refine Ag Ab rfl (Ae (Az rfl (AK (AJ (Ax (Af (Ag Ab rfl (Ac rfl (.int .i64 (l.length : Int)) (fun b w hb hH => A8 (((hH.rdEs 1 rfl hX).1)) Try.underlying34 rfl rfl hb) (Ag Ab rfl (Ae (AN (Cw (α := Nat) (fun j => [(0, .pointer (some ⟨g, 0, none⟩)), (3, .slice A l.length c), (8, .int .u64 0), (9, .bool false), (24, .slice A l.length c), (25, .int .i64 (l.length : Int)), (26, .int .i64 (j : Int))]) (fun j => [Av g bi bt bc es, X]) (fun j => j ≤ l.length ∧ E3 bi bt es ((l.drop j).map (·.e)) = (es2, fr)) (fun j => l.length - j) 0 ⟨Nat.zero_le _, h3⟩ ⟨rfl, rfl, rfl, rfl, rfl, rfl, rfl, trivial⟩ rfl ?_))))))))))))
  rintro j hI8
  refine AY.at_ (env' := [(0, .pointer (some ⟨g, 0, none⟩)), (3, .slice A l.length c), (8, .int .u64 0), (9, .bool false), (24, .slice A l.length c), (25, .int .i64 (l.length : Int)), (26, .int .i64 (j : Int))]) (rs' := [Av g bi bt bc es, X]) ⟨rfl, rfl, rfl, rfl, rfl, rfl, rfl, trivial⟩ rfl ?_
  have hj1 : j ≤ l.length := hI8.1
  have hj2 : E3 bi bt es ((l.drop j).map (·.e)) = (es2, fr) := hI8.2
  rcases Nat.lt_or_ge j l.length with hn | hn
  obtain ⟨z, hz⟩ : ∃ z, l[j]? = some z := ⟨_, List.getElem?_eq_getElem hn⟩
  have hm := List.mem_of_getElem? hz
  have hdr : (l.drop j).map (·.e) = z.e :: (l.drop (j + 1)).map (·.e) := by rw [List.drop_eq_getElem_cons hn, (List.getElem?_eq_some_iff.1 hz).2]; rfl
  have hfz := I0 h2 (k := j) (e := z.e) (by rw [List.getElem?_map, hz]; rfl)
  have hri := (CJ hfz.2.1).2.1
  have hx9 : 0 ≤ z.e.i ∧ z.e.i ≤ 18446744073709551615 := by omega
  refine Af (Ag Ab rfl (Ac rfl (.bool true) (fun b w hb hH => AI rfl rfl rfl (Bc (by omega)) hb) (Ae (Ax (AC rfl (AK (AJ (Ax (AN (Af (Ag Ab rfl (Ac rfl (AW (.slice A l.length c) (j * 5)) (fun b w hb hH => Bw Bd (((hH.rdEs 1 rfl hX).1)) Ak (j := j) hz rfl rfl rfl hb) (Ac rfl (.agg (encV z).toArray) (fun b w hb hH => DF Bd (by decide) (((hH.rdEs 1 rfl hX).1)) (j := j) hz Cl rfl rfl hb) (Al (post := fun g11 => [cell g11 32 #[.int .i64 0, .int .u64 0, .int .u64 0, .slice none 0 0, .int .i64 0], Av g bi bt bc es, X]) rfl (B4 BK rfl) ?_)))))))))))))); rintro g11
  refine Ag Ab rfl (A5 (post := fun _ => [cell g11 32 #[.int .i64 z.e.k, .int .u64 z.e.t, .int .u64 z.e.i, z.v, .int .i64 z.e.c], Av g bi bt bc es, X]) rfl rfl (AP 0 (v := .agg (encV z).toArray) #[.int .i64 z.e.k, .int .u64 z.e.t, .int .u64 z.e.i, z.v, .int .i64 z.e.c] Cl.2 rfl rfl rfl rfl rfl rfl rfl rfl rfl) ?_); rintro ⟨⟩
  refine Ae ?_
  cases hh : CY bi bt es z.e.i z.e.t
  obtain ⟨u, hu⟩ : ∃ u, Dt bi es.length (z.e.i - 1) = u := ⟨_, rfl⟩
  have hul : u ≤ es.length := by rw [← hu]; exact HL
  obtain ⟨rfl, rfl⟩ : es.take u ++ (l.drop j).map (·.e) = es2 ∧ z.e.i = fr := by rw [hdr] at hj2 ⊢; unfold E3 at hj2; rw [hh, hu] at hj2; exact ⟨congrArg Prod.fst hj2, congrArg Prod.snd hj2⟩
  refine Af (Ag Ab rfl (Ac rfl (.int .u64 z.e.i) (fun b w hb hH => AD rfl rfl (AL Ai rfl) (hH.row 0 rfl) hb) (Ag Ab rfl (Ac rfl (.int .u64 z.e.t) (fun b w hb hH => AD rfl rfl (AL Ai rfl) (hH.row 0 rfl) hb) (Al rfl (Ao (os' := fun _ => [cell g11 32 #[.int .i64 z.e.k, .int .u64 z.e.t, .int .u64 z.e.i, z.v, .int .i64 z.e.c], Av g bi bt bc es, X]) [1] 0 (Aj Try.func34 (by kernel_rfl) rfl) (I7 g bi bt bc es hI z.e.i z.e.t hx9 false hh) rfl rfl rfl (fun _ => rfl) rfl rfl rfl) ?_))))); rintro ⟨⟩
  refine Ag Ab rfl (Ae (AC rfl (Ax ?_)))
  refine Bi 9 2 [⟨.quiet, [none, none], fun _ => .pointer (some ⟨g, 0, none⟩), []⟩, ⟨.quiet, [none, none], fun _ => .pointer (some ⟨g, 0, none⟩), [0]⟩, ⟨.quiet, [none, none], fun _ => .pointer (some ⟨g, 3, none⟩), [1]⟩, ⟨.quiet, [none, none], fun _ => .pointer (some ⟨g, 0, none⟩), []⟩, ⟨.quiet, [none, none], fun _ => .pointer (some ⟨g11, 2, none⟩), []⟩, ⟨.quiet, [none, none], fun _ => .int .u64 z.e.i, [4]⟩, ⟨.quiet, [none, none], fun _ => .int .u64 (z.e.i - 1), [5]⟩, ⟨.actv 0, [some false, some false], fun _ => .int .i64 (u : Int), [3, 6]⟩, ⟨.actv 1, [some true, some false], fun _ => .tuple #[], [2, 7]⟩] [(0, .pointer (some ⟨g, 0, none⟩)), (3, .slice A l.length c), (8, .int .u64 0), (9, .bool false), (24, .slice A l.length c), (25, .int .i64 (l.length : Int)), (26, .int .i64 (j : Int)), (27, .bool true), (28, .int .i64 (j : Int)), (29, AW (.slice A l.length c) (j * 5)), (30, .agg (encV z).toArray), (11, .pointer (some ⟨g11, 0, none⟩)), (10, .int .i64 (j : Int)), (31, .pointer (some ⟨g, 0, none⟩)), (32, .pointer (some ⟨g11, 2, none⟩)), (33, .int .u64 z.e.i), (34, .pointer (some ⟨g11, 1, none⟩)), (35, .int .u64 z.e.t), (36, .bool false), (37, .bool true)] (fun ρ => match ρ with | [rq0, rq1] => [cell g11 32 #[.int .i64 z.e.k, .int .u64 z.e.t, .int .u64 z.e.i, z.v, .int .i64 z.e.c], Ct rq1 (fun _ => Av g bi bt bc (es.take u)) (Av g bi bt bc es), X] | _ => []) (by kernel_rfl) (by kernel_rfl) ⟨rfl, rfl, rfl, rfl, rfl, rfl, rfl, rfl, rfl, rfl, rfl, rfl, rfl, rfl, rfl, rfl, rfl, rfl, rfl, rfl, trivial⟩ rfl ?_ ?_
  refine Ad (by intro r0_ r1_; exact ⟨rfl, fun b w hH hb => Ah Ab rfl hb⟩) (Ad (by intro r0_ r1_; exact ⟨rfl, fun b w hH hb => by exact BF rfl rfl hb⟩) (Ad (by intro r0_ r1_; exact ⟨rfl, fun b w hH hb => Ah Ab rfl hb⟩) (Ad (by intro r0_ r1_; exact ⟨rfl, fun b w hH hb => Ah Ab rfl hb⟩) (Ad (by intro r0_ r1_; exact ⟨rfl, fun b w hH hb => Ah Ab rfl hb⟩) (Ad (by intro r0_ r1_; exact ⟨rfl, fun b w hH hb => AD rfl rfl (AL Ai rfl) (hH.row 0 rfl) hb⟩) (Ad (by intro r0_ r1_; exact ⟨rfl, fun b w hH hb => Ay rfl rfl rfl rfl (IntWalk.u64_in _ (by omega)) hb⟩) (Ad (by exact ⟨rfl, AZ.su (Ao (os' := fun _ => [cell g11 32 #[.int .i64 z.e.k, .int .u64 z.e.t, .int .u64 z.e.i, z.v, .int .i64 z.e.c], Av g bi bt bc es, X]) [1] 0 (Aj Try.func36 (by kernel_rfl) rfl) (Se g bi bt bc es hI (z.e.i - 1) (by omega) u hu) rfl rfl rfl (fun _ => rfl) rfl rfl rfl) rfl⟩) (Ad (by intro v0_; exact ⟨rfl, AZ.su (Ao (os' := fun _ => [cell g11 32 #[.int .i64 z.e.k, .int .u64 z.e.t, .int .u64 z.e.i, z.v, .int .i64 z.e.c], Av g bi bt bc (es.take u), X]) [1] 0 (Aj Try.func35 (by kernel_rfl) rfl) (Mk g bi bt bc es u (by omega)) rfl rfl rfl (fun _ => rfl) rfl rfl rfl) rfl⟩) ?_))))))))
  exact Bx
  intro v0_ v1_
  refine BM.keep (env' := [(0, .pointer (some ⟨g, 0, none⟩)), (3, .slice A l.length c), (8, .int .u64 0), (9, .bool false), (24, .slice A l.length c), (25, .int .i64 (l.length : Int)), (26, .int .i64 (j : Int)), (27, .bool true), (28, .int .i64 (j : Int)), (29, AW (.slice A l.length c) (j * 5)), (30, .agg (encV z).toArray), (11, .pointer (some ⟨g11, 0, none⟩)), (10, .int .i64 (j : Int)), (31, .pointer (some ⟨g, 0, none⟩)), (32, .pointer (some ⟨g11, 2, none⟩)), (33, .int .u64 z.e.i), (34, .pointer (some ⟨g11, 1, none⟩)), (35, .int .u64 z.e.t), (36, .bool false), (37, .bool true), (38, .pointer (some ⟨g, 0, none⟩)), (39, .pointer (some ⟨g, 0, none⟩)), (40, .pointer (some ⟨g, 3, none⟩)), (41, .pointer (some ⟨g, 0, none⟩)), (42, .pointer (some ⟨g11, 2, none⟩)), (43, .int .u64 z.e.i), (44, .int .u64 (z.e.i - 1)), (45, .int .i64 (u : Int))]) ⟨rfl, rfl, rfl, rfl, rfl, rfl, rfl, rfl, rfl, rfl, rfl, rfl, rfl, rfl, rfl, rfl, rfl, rfl, rfl, rfl, rfl, rfl, rfl, rfl, rfl, rfl, rfl, rfl, trivial⟩ (AE (AJ (Af (Ag Ab rfl (Ac rfl (.slice (EB A c j) (l.drop j).length (c - j)) (fun b w hb hH => FM (i := j) Ak Gx hj1 rfl rfl rfl hH hb) (Al rfl (Ao (os' := fun _ => [cell g11 32 #[.int .i64 z.e.k, .int .u64 z.e.t, .int .u64 z.e.i, z.v, .int .i64 z.e.c], Av g bi bt bc ((es.take u) ++ (l.drop j).map (·.e)), X]) [1, 2] 0 (Aj Try.func31 (by kernel_rfl) rfl) (HN g bi bt bc (es.take u) X (EB A c j) (c - j) (l.drop j) (K4 hX hj1 hcp) (by rw [List.length_drop]; omega) (fun x hx => hd x (List.mem_of_mem_drop hx)) (by rw [List.length_drop, List.length_take]; omega)) rfl rfl rfl (fun _ => rfl) rfl rfl rfl) ?_)))))); rintro ⟨⟩
  refine Ae (Af (Ag Ab rfl (Ac rfl (.int .u64 z.e.i) (fun b w hb hH => AD rfl rfl (AL Ai rfl) (hH.row 0 rfl) hb) (Ag Ab rfl (Ae (Aw (AA (Cc (Cc (AA (Cc ?_)))))))))))
  exact BU (.tmp rfl) (.tmp rfl) (fun w h => AG () rfl [1, 2] rfl h CV) rfl
  refine Af (Ag Ab rfl (Ac rfl (.int .u64 z.e.i) (fun b w hb hH => AD rfl rfl (AL Ai rfl) (hH.row 0 rfl) hb) (Ag Ab rfl (Ac rfl (.int .u64 z.e.t) (fun b w hb hH => AD rfl rfl (AL Ai rfl) (hH.row 0 rfl) hb) (Al rfl (Ao (os' := fun _ => [cell g11 32 #[.int .i64 z.e.k, .int .u64 z.e.t, .int .u64 z.e.i, z.v, .int .i64 z.e.c], Av g bi bt bc es, X]) [1] 0 (Aj Try.func34 (by kernel_rfl) rfl) (I7 g bi bt bc es hI z.e.i z.e.t hx9 true hh) rfl rfl rfl (fun _ => rfl) rfl rfl rfl) ?_))))); rintro ⟨⟩
  refine Ag Ab rfl (Ae (Az rfl (AK (AU (AJ (AR (Ag Ab rfl (Ac rfl (.int .i64 ((j + 1 : Nat) : Int)) (fun b w hb hH => Ay rfl rfl rfl rfl (by rw [IntWalk.i64_in _ (by omega)]; omega) hb) (Ag Ab rfl (AE ?_))))))))))
  exact BS (j + 1) 1 ⟨hn, by rw [hdr] at hj2; unfold E3 at hj2; rw [hh] at hj2; exact hj2⟩ (show l.length - (j + 1) < l.length - j by omega) ⟨rfl, rfl, rfl, rfl, rfl, rfl, rfl, trivial⟩ rfl
  obtain ⟨rfl, rfl⟩ : es = es2 ∧ 0 = fr := by rw [List.drop_of_length_le hn] at hj2; exact ⟨congrArg Prod.fst hj2, congrArg Prod.snd hj2⟩
  refine Af (Ag Ab rfl (Ac rfl (.bool false) (fun b w hb hH => AI rfl rfl rfl (Bf (by omega)) hb) (Ae (Ax (Az rfl (B6 (ES (ES (AQ (AJ (Af (Ag Ab rfl (Ae (Aw ?_))))))))))))))
  exact BU (.tmp rfl) (.tmp rfl) (fun w h => AG () rfl [0, 1] rfl h CV) rfl
end Go.Proofs.Ytnebloeideodmaa.Sep
