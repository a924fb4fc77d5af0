/-
  RlAc
-/
import Derived.Test.YtnebloeideodmaaPN01
set_option linter.unusedSimpArgs false
set_option linter.unusedVariables false
set_option maxRecDepth 100000
namespace Go.Proofs.Ytnebloeideodmaa.Sep
open Go.RowKit
open Go.Proofs.Ytnebloeideodmaa.Mem (AM BA Chg Aq)
theorem Jd {bi bt : Int} {es : List EntD} {x a : Int} (h : BO bi bt es x = (a, true)) : bi ≤ x ∧ x ≤ bi + (es.length : Int) := by
 refine Decidable.byContradiction fun hn => ?_
 have := DH (bt := bt) (es := es) (show x < bi ∨ bi + (es.length : Int) < x by omega)
 rw [h] at this
 exact absurd (congrArg Prod.snd this) (by simp)
theorem Lb (g : Nat) (bi bt bc : Int) (es : List EntD) (hI : InvL bi bt es) (x : Int) (hx : 0 ≤ x ∧ x ≤ 18446744073709551615) (h : x ≤ bi ∨ bi + (es.length : Int) < x) : AV Try.prog 50 #[.pointer (some ⟨g, 0, none⟩), .int .u64 x] [BG g bi bt bc es] (fun (_ : Unit) => .bool false) (fun (_ : Unit) => [BG g bi bt bc es]) := by
  have hb0 := hI.hi
  have ht0 := hI.ht
  have hle0 := hI.len
  have hm0 : (es.length : Int) ≤ 72057594037927935 := by omega
  have hls : 0 ≤ bi ∧ 0 ≤ (es.length : Int) ∧ bi + (es.length : Int) ≤ 9223372036854775807 := by omega
  refine Bk (args := [.pointer (some ⟨g, 0, none⟩), .int .u64 x]) 57 Try.func50 rfl rfl rfl ?_; intro w rs
  refine Bo 0 rfl BG.open_ (fun _ => rfl) ?_; rintro ⟨⟨A1, c1, L⟩, hL, hcp⟩
  have hL : L.map (·.e) = es := hL
  have hcp : L.length ≤ c1 := hcp
  have hLl : L.length = es.length := by rw [← hL, List.length_map]
  have hdL : ∀ x, x ∈ L → x.e.d.length ≤ 140737488351232 := fun x hx => by obtain ⟨k, hk⟩ := List.getElem?_of_mem hx; have := Dn (hI.at_ (Do hL hk)).2.1; omega
  refine Af (Ag Ab rfl (Ae (Ax ?_)))
  rcases Int.lt_or_le bi x with hn | hn
  refine Af (Ag Ab rfl (Ac rfl (.pointer (some ⟨g, 0, none⟩)) (fun b w hb hH => by exact BF rfl rfl hb) (Ag Ab rfl (Ac rfl (.int .u64 bi) (fun b w hb hH => AD rfl rfl (AL Ai rfl) (hH.row 0 rfl) hb) (Ac rfl (.bool false) (fun b w hb hH => AI rfl rfl rfl (Bp (by omega)) hb) (Ag Ab rfl (Al rfl (Ao (os' := fun _ => [cell g 74 #[.int .u64 bi, .int .u64 bt, .int .i64 bc, .slice A1 L.length c1], As 32 5 encV (.slice A1 L.length c1) L, An dat L]) [0, 1] 0 (Aj Try.func42 (by kernel_rfl) rfl) (Cs g bi bt bc es hI A1 c1 L hL ) rfl rfl rfl (fun _ => rfl) rfl rfl rfl) ?_))))))); rintro ⟨⟩
  refine Ac rfl (.bool true) (fun b w hb hH => AI rfl rfl rfl (Cv (by omega)) hb) (Ag Ab rfl (Ae (AC rfl (Af (Ag Ab rfl (Ae (Aw (Cc ?_))))))))
  exact Ar (.tmp rfl) (fun w h => AG () rfl [0, 1, 2] rfl h (fun z hz => ⟨z, .refl _, Am.one (BG.back hL hcp z hz)⟩)) rfl
  refine Af (Ag Ab rfl (Ac rfl (.pointer (some ⟨g, 0, none⟩)) (fun b w hb hH => by exact BF rfl rfl hb) (Ag Ab rfl (Ac rfl (.int .u64 bi) (fun b w hb hH => AD rfl rfl (AL Ai rfl) (hH.row 0 rfl) hb) (Ac rfl (.bool true) (fun b w hb hH => AI rfl rfl rfl (Bu (by omega)) hb) (Ag Ab rfl (Ae (AC rfl (Af (Ag Ab rfl (Ae (Aw (Cc ?_)))))))))))))
  exact Ar (.tmp rfl) (fun w h => AG () rfl [0, 1, 2] rfl h (fun z hz => ⟨z, .refl _, Am.one (BG.back hL hcp z hz)⟩)) rfl
theorem Lc (g : Nat) (bi bt bc : Int) (es : List EntD) (hI : InvL bi bt es) (x : Int) (h1 : bi < x) (h2 : x ≤ bi + (es.length : Int)) (a : Int) (ht : BO bi bt es x = (a, true)) (p q : Int) (hc : Ez (bc, bi) (es.take (Dt bi es.length x)) = (p, q)) (u : Nat) (hu : Dt bi es.length x = u) (hs : es.length * 56 ≤ 140737488351232) : AV Try.prog 50 #[.pointer (some ⟨g, 0, none⟩), .int .u64 x] [BG g bi bt bc es] (fun (_ : Unit) => .bool true) (fun (_ : Unit) => [BG g x a p (es.drop u)]) := by
  have hb0 := hI.hi
  have ht0 := hI.ht
  have hle0 := hI.len
  have hm0 : (es.length : Int) ≤ 72057594037927935 := by omega
  have hls : 0 ≤ bi ∧ 0 ≤ (es.length : Int) ∧ bi + (es.length : Int) ≤ 9223372036854775807 := by omega
  have hx : 0 ≤ x ∧ x ≤ 18446744073709551615 := by omega
  have hue : x - bi = (u : Int) := by unfold Dt at hu; omega
  refine Bk (args := [.pointer (some ⟨g, 0, none⟩), .int .u64 x]) 57 Try.func50 rfl rfl rfl ?_; intro w rs
  refine Bo 0 rfl BG.open_ (fun _ => rfl) ?_; rintro ⟨⟨A1, c1, L⟩, hL, hcp⟩
  have hL : L.map (·.e) = es := hL
  have hcp : L.length ≤ c1 := hcp
  have hLl : L.length = es.length := by rw [← hL, List.length_map]
  have hdL : ∀ x, x ∈ L → x.e.d.length ≤ 140737488351232 := fun x hx => by obtain ⟨k, hk⟩ := List.getElem?_of_mem hx; have := Dn (hI.at_ (Do hL hk)).2.1; omega
  have hul : u ≤ L.length := by omega
  refine Af (Ag Ab rfl (Ae (Ax (Af (Ag Ab rfl (Ac rfl (.pointer (some ⟨g, 0, none⟩)) (fun b w hb hH => by exact BF rfl rfl hb) (Ag Ab rfl (Ac rfl (.int .u64 bi) (fun b w hb hH => AD rfl rfl (AL Ai rfl) (hH.row 0 rfl) hb) (Ac rfl (.bool false) (fun b w hb hH => AI rfl rfl rfl (Bp (by omega)) hb) (Ag Ab rfl (Al rfl (Ao (os' := fun _ => [cell g 74 #[.int .u64 bi, .int .u64 bt, .int .i64 bc, .slice A1 L.length c1], As 32 5 encV (.slice A1 L.length c1) L, An dat L]) [0, 1] 0 (Aj Try.func42 (by kernel_rfl) rfl) (Cs g bi bt bc es hI A1 c1 L hL ) rfl rfl rfl (fun _ => rfl) rfl rfl rfl) ?_))))))))))); rintro ⟨⟩
  refine Ac rfl (.bool false) (fun b w hb hH => AI rfl rfl rfl (BT (by omega)) hb) (Ag Ab rfl (Ae (Az rfl (AK (AJ (Af (Ag Ab rfl (Al rfl (Ao (os' := fun _ => [cell g 74 #[.int .u64 bi, .int .u64 bt, .int .i64 bc, .slice A1 L.length c1], As 32 5 encV (.slice A1 L.length c1) L, An dat L]) [0, 1] 0 (Aj Try.func45 (by kernel_rfl) rfl) (Cy g bi bt bc es hI A1 c1 L hL x hx a true ht) rfl rfl rfl (fun _ => rfl) rfl rfl rfl) ?_)))))))); rintro ⟨⟩
  refine Ag Ab rfl (Ae (Af (Ag Ab rfl (Al rfl (Ao (os' := fun _ => [cell g 74 #[.int .u64 bi, .int .u64 bt, .int .i64 bc, .slice A1 L.length c1], As 32 5 encV (.slice A1 L.length c1) L, An dat L]) [0, 1] 0 (Aj Try.func46 (by kernel_rfl) rfl) (Jc g bi bt bc es hI A1 c1 L hL x hx p q hc) rfl rfl rfl (fun _ => rfl) rfl rfl rfl) ?_)))); rintro ⟨⟩
  refine Ag Ab rfl (Ae (Ax (Ep 1 rfl ?_)))
  refine Bi 16 1 [⟨.quiet, [none], fun _ => .pointer (some ⟨g, 0, none⟩), []⟩, ⟨.quiet, [none], fun _ => .pointer (some ⟨g, 0, none⟩), []⟩, ⟨.quiet, [none], fun _ => .pointer (some ⟨g, 0, none⟩), [1]⟩, ⟨.quiet, [none], fun _ => .pointer (some ⟨g, 3, none⟩), [2]⟩, ⟨.quiet, [none], fun _ => .slice A1 L.length c1, [3]⟩, ⟨.quiet, [none], fun _ => .int .u64 x, []⟩, ⟨.quiet, [none], fun _ => .pointer (some ⟨g, 0, none⟩), []⟩, ⟨.quiet, [none], fun _ => .pointer (some ⟨g, 0, none⟩), [6]⟩, ⟨.quiet, [none], fun _ => .pointer (some ⟨g, 0, none⟩), [7]⟩, ⟨.quiet, [none], fun _ => .pointer (some ⟨g, 0, none⟩), [8]⟩, ⟨.quiet, [none], fun _ => .int .u64 bi, [9]⟩, ⟨.quiet, [none], fun _ => .int .u64 (u : Int), [5, 10]⟩, ⟨.quiet, [none], fun _ => .slice (EB A1 c1 u) (L.drop u).length (c1 - u), [4, 11]⟩, ⟨.act 0, [some false], fun _ => undef, [12]⟩, ⟨.quiet, [some true], fun _ => .pointer (some ⟨g, 0, none⟩), [0]⟩, ⟨.quiet, [some true], fun _ => .pointer (some ⟨g, 3, none⟩), [14]⟩] [(0, .pointer (some ⟨g, 0, none⟩)), (1, .int .u64 x), (4, .bool false), (5, .int .u64 a), (7, .int .i64 p)] (fun ρ => match ρ with | [rq0] => [Ct rq0 (fun ev => BQ ev (es.drop u)) (Dw), cell g 74 #[.int .u64 bi, .int .u64 bt, .int .i64 bc, .slice A1 L.length c1], As 32 5 encV (.slice A1 L.length c1) L, An dat L] | _ => []) (by kernel_rfl) (by kernel_rfl) ⟨rfl, rfl, rfl, rfl, rfl, trivial⟩ rfl ?_ ?_
  refine Ad (by intro r0_; exact ⟨rfl, fun b w hH hb => Ah Ab rfl hb⟩) (Ad (by intro r0_; exact ⟨rfl, fun b w hH hb => Ah Ab rfl hb⟩) (Ad (by intro r0_; exact ⟨rfl, fun b w hH hb => by exact BF rfl rfl hb⟩) (Ad (by intro r0_; exact ⟨rfl, fun b w hH hb => Ah Ab rfl hb⟩) (Ad (by intro r0_; exact ⟨rfl, fun b w hH hb => AD rfl rfl (AL Ap rfl) (hH.row 1 rfl) hb⟩) (Ad (by intro r0_; exact ⟨rfl, fun b w hH hb => Ah Ab rfl hb⟩) (Ad (by intro r0_; exact ⟨rfl, fun b w hH hb => Ah Ab rfl hb⟩) (Ad (by intro r0_; exact ⟨rfl, fun b w hH hb => by exact BF rfl rfl hb⟩) (Ad (by intro r0_; exact ⟨rfl, fun b w hH hb => Ah Ab rfl hb⟩) (Ad (by intro r0_; exact ⟨rfl, fun b w hH hb => Ah Ab rfl hb⟩) ?_)))))))))
  refine Ad (by intro r0_; exact ⟨rfl, fun b w hH hb => AD rfl rfl (AL Ai rfl) (hH.row 1 rfl) hb⟩) (Ad (by intro r0_; exact ⟨rfl, fun b w hH hb => Ay rfl rfl rfl rfl (by rw [IntWalk.u64_in _ (by omega)]; omega) hb⟩) (Ad (by intro r0_; exact ⟨rfl, fun b w hH hb => FM (i := u) Ak Gx hul rfl rfl rfl hH hb⟩) (Ad (by exact ⟨rfl, AZ.s (CC (os' := fun ev => [BQ ev (es.drop u), cell g 74 #[.int .u64 bi, .int .u64 bt, .int .i64 bc, .slice A1 L.length c1], As 32 5 encV (.slice A1 L.length c1) L, An dat L]) [0] 1 (Aj Try.func39 (by kernel_rfl) rfl) (fun w hH => Eu w (.slice (EB A1 c1 u) (L.drop u).length (c1 - u)) (L.drop u) (K7 (GW 2 3 rfl rfl hH) hul hcp) (by rw [List.length_drop]; omega) (fun x hx => hdL x (List.mem_of_mem_drop hx)) (es.drop u) (by rw [List.map_drop, hL])) rfl rfl rfl (fun _ => rfl) rfl rfl rfl) (fun _ => rfl)⟩) (Ad (by intro ev; exact ⟨rfl, fun b w hH hb => by exact BF rfl rfl hb⟩) (Ad (by intro ev; exact ⟨rfl, fun b w hH hb => Ah Ab rfl hb⟩) ?_)))))
  exact Bx
  intro ev
  refine BM.keep (env' := [(0, .pointer (some ⟨g, 0, none⟩)), (1, .int .u64 x), (4, .bool false), (5, .int .u64 a), (7, .int .i64 p), (47, ev), (49, .pointer (some ⟨g, 3, none⟩))]) ⟨rfl, rfl, rfl, rfl, rfl, rfl, rfl, trivial⟩ (Ag Ab rfl (A5 (post := fun _ => [BQ ev (es.drop u), cell g 74 #[.int .u64 bi, .int .u64 bt, .int .i64 bc, ev], As 32 5 encV (.slice A1 L.length c1) L, An dat L]) rfl rfl (DT 1 0 (v := ev) #[.int .u64 bi, .int .u64 bt, .int .i64 bc, ev] Ap.2 rfl (fun _ h => BQ.c1 _ h) rfl rfl rfl rfl rfl rfl rfl) ?_)); rintro ⟨⟩
  refine AE (AJ (Af (Ag Ab rfl (Ac rfl (.agg #[.int .u64 x, .int .u64 a, .int .i64 p]) (fun b w hb hH => Bn rfl rfl (by kernel_rfl) hb) (Ac rfl (.pointer (some ⟨g, 0, none⟩)) (fun b w hb hH => by exact BF rfl rfl hb) (Ag Ab rfl (A5 (post := fun _ => [BQ ev (es.drop u), cell g 74 #[.int .u64 x, .int .u64 a, .int .i64 p, ev], As 32 5 encV (.slice A1 L.length c1) L, An dat L]) rfl rfl (AP 1 (v := .agg #[.int .u64 x, .int .u64 a, .int .i64 p]) #[.int .u64 x, .int .u64 a, .int .i64 p, ev] Au.2 rfl rfl rfl rfl rfl rfl rfl rfl rfl) ?_))))))); rintro ⟨⟩
  refine Ae (Af (Ag Ab rfl (Ae (Aw ?_))))
  exact Ar (.tmp rfl) (fun w h => AG () rfl [1, 0] rfl h (fun z hz => ⟨z, .refl _, Am.one (BG.mk z hz)⟩)) rfl
theorem Ld (g : Nat) (bi bt bc : Int) (es : List EntD) (hI : InvL bi bt es) (di dt dc : Int) (hdi : 0 ≤ di ∧ di ≤ 18446744073709551615) (h : C0 di dt dc = false) : AV Try.prog 51 #[.pointer (some ⟨g, 0, none⟩), .agg #[.int .u64 di, .int .u64 dt, .int .i64 dc]] [BG g bi bt bc es] (fun (_ : Unit) => .bool false) (fun (_ : Unit) => [BG g bi bt bc es]) := by
 refine Bk (args := [.pointer (some ⟨g, 0, none⟩), .agg #[.int .u64 di, .int .u64 dt, .int .i64 dc]]) 51 Try.func51 rfl rfl rfl ?_; intro w rs
 refine Af (Ag Ab rfl (Al (post := fun g3 => [cell g3 28 #[.int .u64 di, .int .u64 dt, .int .i64 dc], BG g bi bt bc es]) rfl (Co (cs := #[.int .u64 di, .int .u64 dt, .int .i64 dc]) rfl rfl rfl) ?_)); rintro g3
 refine Ag Ab rfl (Ae (Ax (Af (Ag Ab rfl (Ac rfl (.agg #[.int .u64 di, .int .u64 dt, .int .i64 dc]) (fun b w hb hH => AD rfl rfl (Dd (cs := [.int .u64 di, .int .u64 dt, .int .i64 dc]) Au rfl) (hH.row 0 rfl) hb) (Al (post := fun _ => [cell g3 28 #[.int .u64 di, .int .u64 dt, .int .i64 dc], BG g bi bt bc es]) rfl (AH (Aj Try.func66 (by kernel_rfl) rfl) (fun w hH => Gu w di dt dc false h) rfl rfl rfl) ?_)))))); rintro ⟨⟩
 refine Ag Ab rfl (Ae (AC rfl (Af (Ag Ab rfl (Ae (Aw (Cc ?_)))))))
 exact Ar (.tmp rfl) (fun w h => AG () rfl [1] rfl h CV) rfl
theorem Je (g : Nat) (bi bt bc : Int) (es : List EntD) (hI : InvL bi bt es) (di dt dc : Int) (hdi : 0 ≤ di ∧ di ≤ 18446744073709551615) (h : C0 di dt dc = true) (hh : CY bi bt es di dt = true) (u : Nat) (hu : Dt bi es.length di = u) (hs : es.length * 56 ≤ 140737488351232) : AV Try.prog 51 #[.pointer (some ⟨g, 0, none⟩), .agg #[.int .u64 di, .int .u64 dt, .int .i64 dc]] [BG g bi bt bc es] (fun (_ : Unit) => .bool true) (fun (_ : Unit) => [BG g di dt dc (es.drop u)]) := by
  have hb0 := hI.hi
  have ht0 := hI.ht
  have hle0 := hI.len
  have hm0 : (es.length : Int) ≤ 72057594037927935 := by omega
  have hls : 0 ≤ bi ∧ 0 ≤ (es.length : Int) ∧ bi + (es.length : Int) ≤ 9223372036854775807 := by omega
  have ht := DW.1 hh
  have hue : di - bi = (u : Int) := by have := Jd ht; unfold Dt at hu; omega
  refine Bk (args := [.pointer (some ⟨g, 0, none⟩), .agg #[.int .u64 di, .int .u64 dt, .int .i64 dc]]) 51 Try.func51 rfl rfl rfl ?_; intro w rs
  refine Bo 0 rfl BG.open_ (fun _ => rfl) ?_; rintro ⟨⟨A1, c1, L⟩, hL, hcp⟩
  have hL : L.map (·.e) = es := hL
  have hcp : L.length ≤ c1 := hcp
  have hLl : L.length = es.length := by rw [← hL, List.length_map]
  have hdL : ∀ x, x ∈ L → x.e.d.length ≤ 140737488351232 := fun x hx => by obtain ⟨k, hk⟩ := List.getElem?_of_mem hx; have := Dn (hI.at_ (Do hL hk)).2.1; omega
  have hul : u ≤ L.length := by rw [hLl, ← hu]; exact HL
  refine Af (Ag Ab rfl (Al (post := fun g3 => [cell g3 28 #[.int .u64 di, .int .u64 dt, .int .i64 dc], cell g 74 #[.int .u64 bi, .int .u64 bt, .int .i64 bc, .slice A1 L.length c1], As 32 5 encV (.slice A1 L.length c1) L, An dat L]) rfl (Co (cs := #[.int .u64 di, .int .u64 dt, .int .i64 dc]) rfl rfl rfl) ?_)); rintro g3
  refine Ag Ab rfl (Ae (Ax (Af (Ag Ab rfl (Ac rfl (.agg #[.int .u64 di, .int .u64 dt, .int .i64 dc]) (fun b w hb hH => AD rfl rfl (Dd (cs := [.int .u64 di, .int .u64 dt, .int .i64 dc]) Au rfl) (hH.row 0 rfl) hb) (Al (post := fun _ => [cell g3 28 #[.int .u64 di, .int .u64 dt, .int .i64 dc], cell g 74 #[.int .u64 bi, .int .u64 bt, .int .i64 bc, .slice A1 L.length c1], As 32 5 encV (.slice A1 L.length c1) L, An dat L]) rfl (AH (Aj Try.func66 (by kernel_rfl) rfl) (fun w hH => Gu w di dt dc true h) rfl rfl rfl) ?_)))))); rintro ⟨⟩
  refine Ag Ab rfl (Ae (Az rfl (AK (AJ (Af (Ag Ab rfl (Ac rfl (.int .u64 di) (fun b w hb hH => AD rfl rfl (AL Ai rfl) (hH.row 0 rfl) hb) (Al rfl (Ao (os' := fun _ => [cell g3 28 #[.int .u64 di, .int .u64 dt, .int .i64 dc], cell g 74 #[.int .u64 bi, .int .u64 bt, .int .i64 bc, .slice A1 L.length c1], As 32 5 encV (.slice A1 L.length c1) L, An dat L]) [1, 2] 0 (Aj Try.func45 (by kernel_rfl) rfl) (Cy g bi bt bc es hI A1 c1 L hL di hdi dt true ht) rfl rfl rfl (fun _ => rfl) rfl rfl rfl) ?_)))))))); rintro ⟨⟩
  refine Ag Ab rfl (Ae (Af (Ag Ab rfl (Ac rfl (.int .u64 dt) (fun b w hb hH => AD rfl rfl (AL Ai rfl) (hH.row 0 rfl) hb) (Ac rfl (.bool true) (fun b w hb hH => AI rfl rfl rfl (DK rfl) hb) (Ag Ab rfl (Ae (Ax (Af (Ag Ab rfl (Ae (AC rfl (Ep 1 rfl ?_)))))))))))))
  refine Bi 17 1 [⟨.quiet, [none], fun _ => .pointer (some ⟨g, 0, none⟩), []⟩, ⟨.quiet, [none], fun _ => .pointer (some ⟨g, 0, none⟩), []⟩, ⟨.quiet, [none], fun _ => .pointer (some ⟨g, 0, none⟩), [1]⟩, ⟨.quiet, [none], fun _ => .pointer (some ⟨g, 3, none⟩), [2]⟩, ⟨.quiet, [none], fun _ => .slice A1 L.length c1, [3]⟩, ⟨.quiet, [none], fun _ => .pointer (some ⟨g3, 0, none⟩), []⟩, ⟨.quiet, [none], fun _ => .int .u64 di, [5]⟩, ⟨.quiet, [none], fun _ => .pointer (some ⟨g, 0, none⟩), []⟩, ⟨.quiet, [none], fun _ => .pointer (some ⟨g, 0, none⟩), [7]⟩, ⟨.quiet, [none], fun _ => .pointer (some ⟨g, 0, none⟩), [8]⟩, ⟨.quiet, [none], fun _ => .pointer (some ⟨g, 0, none⟩), [9]⟩, ⟨.quiet, [none], fun _ => .int .u64 bi, [10]⟩, ⟨.quiet, [none], fun _ => .int .u64 (u : Int), [6, 11]⟩, ⟨.quiet, [none], fun _ => .slice (EB A1 c1 u) (L.drop u).length (c1 - u), [4, 12]⟩, ⟨.act 0, [some false], fun _ => undef, [13]⟩, ⟨.quiet, [some true], fun _ => .pointer (some ⟨g, 0, none⟩), [0]⟩, ⟨.quiet, [some true], fun _ => .pointer (some ⟨g, 3, none⟩), [15]⟩] [(0, .pointer (some ⟨g, 0, none⟩)), (3, .pointer (some ⟨g3, 0, none⟩)), (4, .bool false), (7, .bool true)] (fun ρ => match ρ with | [rq0] => [Ct rq0 (fun ev => BQ ev (es.drop u)) (Dw), cell g3 28 #[.int .u64 di, .int .u64 dt, .int .i64 dc], cell g 74 #[.int .u64 bi, .int .u64 bt, .int .i64 bc, .slice A1 L.length c1], As 32 5 encV (.slice A1 L.length c1) L, An dat L] | _ => []) (by kernel_rfl) (by kernel_rfl) ⟨rfl, rfl, rfl, rfl, trivial⟩ rfl ?_ ?_
  refine Ad (by intro r0_; exact ⟨rfl, fun b w hH hb => Ah Ab rfl hb⟩) (Ad (by intro r0_; exact ⟨rfl, fun b w hH hb => Ah Ab rfl hb⟩) (Ad (by intro r0_; exact ⟨rfl, fun b w hH hb => by exact BF rfl rfl hb⟩) (Ad (by intro r0_; exact ⟨rfl, fun b w hH hb => Ah Ab rfl hb⟩) (Ad (by intro r0_; exact ⟨rfl, fun b w hH hb => AD rfl rfl (AL Ap rfl) (hH.row 2 rfl) hb⟩) (Ad (by intro r0_; exact ⟨rfl, fun b w hH hb => Ah Ab rfl hb⟩) (Ad (by intro r0_; exact ⟨rfl, fun b w hH hb => AD rfl rfl (AL Ai rfl) (hH.row 1 rfl) hb⟩) (Ad (by intro r0_; exact ⟨rfl, fun b w hH hb => Ah Ab rfl hb⟩) (Ad (by intro r0_; exact ⟨rfl, fun b w hH hb => by exact BF rfl rfl hb⟩) (Ad (by intro r0_; exact ⟨rfl, fun b w hH hb => Ah Ab rfl hb⟩) ?_)))))))))
  refine Ad (by intro r0_; exact ⟨rfl, fun b w hH hb => Ah Ab rfl hb⟩) (Ad (by intro r0_; exact ⟨rfl, fun b w hH hb => AD rfl rfl (AL Ai rfl) (hH.row 2 rfl) hb⟩) (Ad (by intro r0_; exact ⟨rfl, fun b w hH hb => Ay rfl rfl rfl rfl (by rw [IntWalk.u64_in _ (by omega)]; omega) hb⟩) (Ad (by intro r0_; exact ⟨rfl, fun b w hH hb => FM (i := u) Ak Gx hul rfl rfl rfl hH hb⟩) (Ad (by exact ⟨rfl, AZ.s (CC (os' := fun ev => [BQ ev (es.drop u), cell g3 28 #[.int .u64 di, .int .u64 dt, .int .i64 dc], cell g 74 #[.int .u64 bi, .int .u64 bt, .int .i64 bc, .slice A1 L.length c1], As 32 5 encV (.slice A1 L.length c1) L, An dat L]) [0] 1 (Aj Try.func39 (by kernel_rfl) rfl) (fun w hH => Eu w (.slice (EB A1 c1 u) (L.drop u).length (c1 - u)) (L.drop u) (K7 (GW 3 4 rfl rfl hH) hul hcp) (by rw [List.length_drop]; omega) (fun x hx => hdL x (List.mem_of_mem_drop hx)) (es.drop u) (by rw [List.map_drop, hL])) rfl rfl rfl (fun _ => rfl) rfl rfl rfl) (fun _ => rfl)⟩) (Ad (by intro ev; exact ⟨rfl, fun b w hH hb => by exact BF rfl rfl hb⟩) (Ad (by intro ev; exact ⟨rfl, fun b w hH hb => Ah Ab rfl hb⟩) ?_))))))
  exact Bx
  intro ev
  refine BM.keep (env' := [(0, .pointer (some ⟨g, 0, none⟩)), (3, .pointer (some ⟨g3, 0, none⟩)), (4, .bool false), (7, .bool true), (40, ev), (42, .pointer (some ⟨g, 3, none⟩))]) ⟨rfl, rfl, rfl, rfl, rfl, rfl, trivial⟩ (Ag Ab rfl (A5 (post := fun _ => [BQ ev (es.drop u), cell g3 28 #[.int .u64 di, .int .u64 dt, .int .i64 dc], cell g 74 #[.int .u64 bi, .int .u64 bt, .int .i64 bc, ev], As 32 5 encV (.slice A1 L.length c1) L, An dat L]) rfl rfl (DT 2 0 (v := ev) #[.int .u64 bi, .int .u64 bt, .int .i64 bc, ev] Ap.2 rfl (fun _ h => BQ.c1 _ h) rfl rfl rfl rfl rfl rfl rfl) ?_)); rintro ⟨⟩
  refine AE (AJ (Af (Ag Ab rfl (Ac rfl (.agg #[.int .u64 di, .int .u64 dt, .int .i64 dc]) (fun b w hb hH => AD rfl rfl (Dd (cs := [.int .u64 di, .int .u64 dt, .int .i64 dc]) Au rfl) (hH.row 1 rfl) hb) (Ac rfl (.pointer (some ⟨g, 0, none⟩)) (fun b w hb hH => by exact BF rfl rfl hb) (Ag Ab rfl (A5 (post := fun _ => [BQ ev (es.drop u), cell g3 28 #[.int .u64 di, .int .u64 dt, .int .i64 dc], cell g 74 #[.int .u64 di, .int .u64 dt, .int .i64 dc, ev], As 32 5 encV (.slice A1 L.length c1) L, An dat L]) rfl rfl (AP 2 (v := .agg #[.int .u64 di, .int .u64 dt, .int .i64 dc]) #[.int .u64 di, .int .u64 dt, .int .i64 dc, ev] Au.2 rfl rfl rfl rfl rfl rfl rfl rfl rfl) ?_))))))); rintro ⟨⟩
  refine Ae (Af (Ag Ab rfl (Ae (Aw ?_))))
  exact Ar (.tmp rfl) (fun w h => AG () rfl [2, 0] rfl h (fun z hz => ⟨z, .refl _, Am.one (BG.mk z hz)⟩)) rfl
theorem Jw (g : Nat) (bi bt bc : Int) (es : List EntD) (hI : InvL bi bt es) (di dt dc : Int) (hdi : 0 ≤ di ∧ di ≤ 18446744073709551615) (h : C0 di dt dc = true) (hh : CY bi bt es di dt = false) : AV Try.prog 51 #[.pointer (some ⟨g, 0, none⟩), .agg #[.int .u64 di, .int .u64 dt, .int .i64 dc]] [BG g bi bt bc es] (fun (_ : Unit) => .bool false) (fun (_ : Unit) => [BG g di dt dc ([])]) := by
  have hb0 := hI.hi
  have ht0 := hI.ht
  have hle0 := hI.len
  have hm0 : (es.length : Int) ≤ 72057594037927935 := by omega
  have hls : 0 ≤ bi ∧ 0 ≤ (es.length : Int) ∧ bi + (es.length : Int) ≤ 9223372036854775807 := by omega
  obtain ⟨⟨a, ok⟩, ht⟩ : ∃ r, BO bi bt es di = r := ⟨_, rfl⟩
  unfold CY at hh
  rw [ht] at hh
  have hh : (ok && a == dt) = false := hh
  refine Bk (args := [.pointer (some ⟨g, 0, none⟩), .agg #[.int .u64 di, .int .u64 dt, .int .i64 dc]]) 51 Try.func51 rfl rfl rfl ?_; intro w rs
  refine Bo 0 rfl BG.open_ (fun _ => rfl) ?_; rintro ⟨⟨A1, c1, L⟩, hL, hcp⟩
  have hL : L.map (·.e) = es := hL
  have hcp : L.length ≤ c1 := hcp
  have hLl : L.length = es.length := by rw [← hL, List.length_map]
  have hdL : ∀ x, x ∈ L → x.e.d.length ≤ 140737488351232 := fun x hx => by obtain ⟨k, hk⟩ := List.getElem?_of_mem hx; have := Dn (hI.at_ (Do hL hk)).2.1; omega
  refine Af (Ag Ab rfl (Al (post := fun g3 => [cell g3 28 #[.int .u64 di, .int .u64 dt, .int .i64 dc], cell g 74 #[.int .u64 bi, .int .u64 bt, .int .i64 bc, .slice A1 L.length c1], As 32 5 encV (.slice A1 L.length c1) L, An dat L]) rfl (Co (cs := #[.int .u64 di, .int .u64 dt, .int .i64 dc]) rfl rfl rfl) ?_)); rintro g3
  refine Ag Ab rfl (Ae (Ax (Af (Ag Ab rfl (Ac rfl (.agg #[.int .u64 di, .int .u64 dt, .int .i64 dc]) (fun b w hb hH => AD rfl rfl (Dd (cs := [.int .u64 di, .int .u64 dt, .int .i64 dc]) Au rfl) (hH.row 0 rfl) hb) (Al (post := fun _ => [cell g3 28 #[.int .u64 di, .int .u64 dt, .int .i64 dc], cell g 74 #[.int .u64 bi, .int .u64 bt, .int .i64 bc, .slice A1 L.length c1], As 32 5 encV (.slice A1 L.length c1) L, An dat L]) rfl (AH (Aj Try.func66 (by kernel_rfl) rfl) (fun w hH => Gu w di dt dc true h) rfl rfl rfl) ?_)))))); rintro ⟨⟩
  refine Ag Ab rfl (Ae (Az rfl (AK (AJ ?_))))
  cases ok
  rotate_left
  have hne : ¬ a = dt := by simpa using hh
  refine Af (Ag Ab rfl (Ac rfl (.int .u64 di) (fun b w hb hH => AD rfl rfl (AL Ai rfl) (hH.row 0 rfl) hb) (Al rfl (Ao (os' := fun _ => [cell g3 28 #[.int .u64 di, .int .u64 dt, .int .i64 dc], cell g 74 #[.int .u64 bi, .int .u64 bt, .int .i64 bc, .slice A1 L.length c1], As 32 5 encV (.slice A1 L.length c1) L, An dat L]) [1, 2] 0 (Aj Try.func45 (by kernel_rfl) rfl) (Cy g bi bt bc es hI A1 c1 L hL di hdi a true ht) rfl rfl rfl (fun _ => rfl) rfl rfl rfl) ?_))); rintro ⟨⟩
  refine Ag Ab rfl (Ae (Af (Ag Ab rfl (Ac rfl (.int .u64 dt) (fun b w hb hH => AD rfl rfl (AL Ai rfl) (hH.row 0 rfl) hb) (Ac rfl (.bool false) (fun b w hb hH => AI rfl rfl rfl (Dq hne) hb) (Ag Ab rfl (Ae (Ax (Af (Ag Ab rfl (Ae (Az rfl (AR (Ag Ab rfl ?_))))))))))))))
  refine Ac rfl (.pointer (some ⟨g, 0, none⟩)) (fun b w hb hH => by exact BF rfl rfl hb) (Ag Ab rfl (A5 (post := fun _ => [cell g3 28 #[.int .u64 di, .int .u64 dt, .int .i64 dc], cell g 74 #[.int .u64 bi, .int .u64 bt, .int .i64 bc, .slice none 0 0], As 32 5 encV (.slice A1 L.length c1) L, An dat L]) rfl rfl (AP 1 (v := .slice none 0 0) #[.int .u64 bi, .int .u64 bt, .int .i64 bc, .slice none 0 0] Ap.2 rfl rfl rfl rfl rfl rfl rfl rfl rfl) ?_)); rintro ⟨⟩
  refine AE (AJ (Af (Ag Ab rfl (Ac rfl (.agg #[.int .u64 di, .int .u64 dt, .int .i64 dc]) (fun b w hb hH => AD rfl rfl (Dd (cs := [.int .u64 di, .int .u64 dt, .int .i64 dc]) Au rfl) (hH.row 0 rfl) hb) (Ac rfl (.pointer (some ⟨g, 0, none⟩)) (fun b w hb hH => by exact BF rfl rfl hb) (Ag Ab rfl (A5 (post := fun _ => [cell g3 28 #[.int .u64 di, .int .u64 dt, .int .i64 dc], cell g 74 #[.int .u64 di, .int .u64 dt, .int .i64 dc, .slice none 0 0], As 32 5 encV (.slice A1 L.length c1) L, An dat L]) rfl rfl (AP 1 (v := .agg #[.int .u64 di, .int .u64 dt, .int .i64 dc]) #[.int .u64 di, .int .u64 dt, .int .i64 dc, .slice none 0 0] Au.2 rfl rfl rfl rfl rfl rfl rfl rfl rfl) ?_))))))); rintro ⟨⟩
  refine Ae (Af (Ag Ab rfl (Ae (Aw ?_))))
  exact Ar (.tmp rfl) (fun w h => AG () rfl [1] rfl h (fun z hz => ⟨z, .refl _, Am.one (BG.mk0 z hz)⟩)) rfl
  refine Af (Ag Ab rfl (Ac rfl (.int .u64 di) (fun b w hb hH => AD rfl rfl (AL Ai rfl) (hH.row 0 rfl) hb) (Al rfl (Ao (os' := fun _ => [cell g3 28 #[.int .u64 di, .int .u64 dt, .int .i64 dc], cell g 74 #[.int .u64 bi, .int .u64 bt, .int .i64 bc, .slice A1 L.length c1], As 32 5 encV (.slice A1 L.length c1) L, An dat L]) [1, 2] 0 (Aj Try.func45 (by kernel_rfl) rfl) (Cy g bi bt bc es hI A1 c1 L hL di hdi a false ht) rfl rfl rfl (fun _ => rfl) rfl rfl rfl) ?_))); rintro ⟨⟩
  refine Ag Ab rfl (Ae (Af (Ag Ab rfl (Ae (Ax (Af (Ag Ab rfl (Ae (Az rfl (AR (Ag Ab rfl (Ac rfl (.pointer (some ⟨g, 0, none⟩)) (fun b w hb hH => by exact BF rfl rfl hb) (Ag Ab rfl (A5 (post := fun _ => [cell g3 28 #[.int .u64 di, .int .u64 dt, .int .i64 dc], cell g 74 #[.int .u64 bi, .int .u64 bt, .int .i64 bc, .slice none 0 0], As 32 5 encV (.slice A1 L.length c1) L, An dat L]) rfl rfl (AP 1 (v := .slice none 0 0) #[.int .u64 bi, .int .u64 bt, .int .i64 bc, .slice none 0 0] Ap.2 rfl rfl rfl rfl rfl rfl rfl rfl rfl) ?_)))))))))))))); rintro ⟨⟩
  refine AE (AJ (Af (Ag Ab rfl (Ac rfl (.agg #[.int .u64 di, .int .u64 dt, .int .i64 dc]) (fun b w hb hH => AD rfl rfl (Dd (cs := [.int .u64 di, .int .u64 dt, .int .i64 dc]) Au rfl) (hH.row 0 rfl) hb) (Ac rfl (.pointer (some ⟨g, 0, none⟩)) (fun b w hb hH => by exact BF rfl rfl hb) (Ag Ab rfl (A5 (post := fun _ => [cell g3 28 #[.int .u64 di, .int .u64 dt, .int .i64 dc], cell g 74 #[.int .u64 di, .int .u64 dt, .int .i64 dc, .slice none 0 0], As 32 5 encV (.slice A1 L.length c1) L, An dat L]) rfl rfl (AP 1 (v := .agg #[.int .u64 di, .int .u64 dt, .int .i64 dc]) #[.int .u64 di, .int .u64 dt, .int .i64 dc, .slice none 0 0] Au.2 rfl rfl rfl rfl rfl rfl rfl rfl rfl) ?_))))))); rintro ⟨⟩
  refine Ae (Af (Ag Ab rfl (Ae (Aw ?_))))
  exact Ar (.tmp rfl) (fun w h => AG () rfl [1] rfl h (fun z hz => ⟨z, .refl _, Am.one (BG.mk0 z hz)⟩)) rfl
end Go.Proofs.Ytnebloeideodmaa.Sep
