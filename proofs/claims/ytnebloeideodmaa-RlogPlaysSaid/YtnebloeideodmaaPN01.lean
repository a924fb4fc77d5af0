/-
  RlZ · RlAa · RlAb
-/
import Derived.Test.YtnebloeideodmaaPL01
import Derived.Test.YtnebloeideodmaaPM01
set_option linter.unusedSimpArgs false
set_option linter.unusedVariables false
set_option maxRecDepth 100000
namespace Go.Proofs.Ytnebloeideodmaa.Sep
open Go.RowKit
open Go.Proofs.Ytnebloeideodmaa.Mem (AM BA Chg Aq)
theorem K9 : BQ (.slice none 0 0) [] [] := ⟨[], rfl, Ed⟩
theorem Si {A : Option Addr} {c q m : Nat} {l : List EntV} (h : q + m ≤ l.length) : DS 5 (.slice A l.length c) q (q + m) = .slice (EB A c q) ((l.drop q).take m).length (c - q) := by
  rw [List.length_take, List.length_drop, Nat.min_eq_left (by omega)]
  show Value.slice (if c = q then A else A.map (·.add (q * 5))) (q + m - q) (c - q) = .slice (if c = q then A else A.map (·.add (q * 5))) m (c - q)
  rw [show q + m - q = m by omega]
theorem Sj {w : World} {A : Option Addr} {c q m : Nat} {l : List EntV} (h : Bj w (.slice A l.length c) l) (hq : q + m ≤ l.length) (hc : l.length ≤ c) : Bj w (.slice (EB A c q) ((l.drop q).take m).length (c - q)) ((l.drop q).take m) :=
 K8 (K7 h (by omega) hc) (by rw [List.length_drop]; omega)
theorem P7 (g : Nat) (bi bt bc : Int) (es : List EntD) (hI : InvL bi bt es) (A : Option Addr) (c : Nat) (L : List EntV) (hL : L.map (·.e) = es) (hd : ∀ x, x ∈ L → x.e.d.length ≤ 140737488351232) (hcp : L.length ≤ c) (hes : es.length * 56 ≤ 140737488351232) (x most : Int) (hx : 0 ≤ x ∧ x ≤ 18446744073709551615) (hmo : -9223372036854775808 ≤ most ∧ most ≤ 9223372036854775807) (l0 : List EntD) (hl0 : Cf bi es x most = l0) : AV Try.prog 48 #[.pointer (some ⟨g, 0, none⟩), .int .u64 x, .int .i64 most] [cell g 74 #[.int .u64 bi, .int .u64 bt, .int .i64 bc, .slice A L.length c], As 32 5 encV (.slice A L.length c) L, An dat L] (fun (ev : Value) => ev) (fun (ev : Value) => [cell g 74 #[.int .u64 bi, .int .u64 bt, .int .i64 bc, .slice A L.length c], As 32 5 encV (.slice A L.length c) L, An dat L, BQ ev l0]) := by
  have hb0 := hI.hi
  have ht0 := hI.ht
  have hle0 := hI.len
  have hm0 : (es.length : Int) ≤ 72057594037927935 := by omega
  have hls : 0 ≤ bi ∧ 0 ≤ (es.length : Int) ∧ bi + (es.length : Int) ≤ 9223372036854775807 := by omega
  have hLl : L.length = es.length := by rw [← hL, List.length_map]
  refine Bk (args := [.pointer (some ⟨g, 0, none⟩), .int .u64 x, .int .i64 most]) 52 Try.func48 rfl rfl rfl ?_; intro w rs
  refine Af (Ag Ab rfl (Ae (Ax ?_)))
  rcases (show x ≤ bi ∨ (bi < x ∧ bi + (es.length : Int) < x) ∨ (bi < x ∧ x ≤ bi + (es.length : Int) ∧ most ≤ 0) ∨ (bi < x ∧ x ≤ bi + (es.length : Int) ∧ 0 < most) by omega) with hn | ⟨hn, hn2⟩ | ⟨hn, hn2, hn3⟩ | ⟨hn, hn2, hn3⟩
  obtain rfl : [] = l0 := by rw [← hl0]; unfold Cf; rw [if_pos (by omega)]
  refine Af (Ag Ab rfl (Ac rfl (.pointer (some ⟨g, 0, none⟩)) (fun b w hb hH => by exact BF rfl rfl hb) (Ag Ab rfl (Ac rfl (.int .u64 bi) (fun b w hb hH => AD rfl rfl (AL Ai rfl) (hH.row 0 rfl) hb) (Ac rfl (.bool true) (fun b w hb hH => AI rfl rfl rfl (Bu (by omega)) hb) (Ag Ab rfl (Ae (AC rfl (H3 (t := BQ (.slice none 0 0) ([])) (K9) (Af ?_))))))))))
  refine Ag Ab rfl (Ae (Aw (Cc ?_)))
  exact Ar (.tmp rfl) (fun w h => AG (.slice none 0 0) rfl [1, 2, 3, 0] rfl h CV) rfl
  obtain rfl : [] = l0 := by rw [← hl0]; unfold Cf; split; rfl; rw [show Dt bi es.length (x - 1) = es.length by unfold Dt; omega, List.drop_length, List.take_nil]
  refine Af (Ag Ab rfl (Ac rfl (.pointer (some ⟨g, 0, none⟩)) (fun b w hb hH => by exact BF rfl rfl hb) (Ag Ab rfl (Ac rfl (.int .u64 bi) (fun b w hb hH => AD rfl rfl (AL Ai rfl) (hH.row 0 rfl) hb) (Ac rfl (.bool false) (fun b w hb hH => AI rfl rfl rfl (Bp (by omega)) hb) (Ag Ab rfl (Al rfl (Ao (os' := fun _ => [cell g 74 #[.int .u64 bi, .int .u64 bt, .int .i64 bc, .slice A L.length c], As 32 5 encV (.slice A L.length c) L, An dat L]) [0, 1] 0 (Aj Try.func42 (by kernel_rfl) rfl) (Cs g bi bt bc es hI A c L hL ) rfl rfl rfl (fun _ => rfl) rfl rfl rfl) ?_))))))); rintro ⟨⟩
  refine Ac rfl (.bool true) (fun b w hb hH => AI rfl rfl rfl (Cv (by omega)) hb) (Ag Ab rfl (Ae (AC rfl (H3 (t := BQ (.slice none 0 0) ([])) (K9) (Af (Ag Ab rfl (Ae (Aw (Cc ?_)))))))))
  exact Ar (.tmp rfl) (fun w h => AG (.slice none 0 0) rfl [1, 2, 3, 0] rfl h CV) rfl
  obtain rfl : [] = l0 := by rw [← hl0]; unfold Cf; rw [if_pos (by omega)]
  refine Af (Ag Ab rfl (Ac rfl (.pointer (some ⟨g, 0, none⟩)) (fun b w hb hH => by exact BF rfl rfl hb) (Ag Ab rfl (Ac rfl (.int .u64 bi) (fun b w hb hH => AD rfl rfl (AL Ai rfl) (hH.row 0 rfl) hb) (Ac rfl (.bool false) (fun b w hb hH => AI rfl rfl rfl (Bp (by omega)) hb) (Ag Ab rfl (Al rfl (Ao (os' := fun _ => [cell g 74 #[.int .u64 bi, .int .u64 bt, .int .i64 bc, .slice A L.length c], As 32 5 encV (.slice A L.length c) L, An dat L]) [0, 1] 0 (Aj Try.func42 (by kernel_rfl) rfl) (Cs g bi bt bc es hI A c L hL ) rfl rfl rfl (fun _ => rfl) rfl rfl rfl) ?_))))))); rintro ⟨⟩
  refine Ac rfl (.bool false) (fun b w hb hH => AI rfl rfl rfl (BT (by omega)) hb) (Ag Ab rfl (Ac rfl (.bool true) (fun b w hb hH => AI rfl rfl rfl (Bu (by omega)) hb) (Ag Ab rfl (Ae (AC rfl (H3 (t := BQ (.slice none 0 0) ([])) (K9) (Af (Ag Ab rfl (Ae (Aw (Cc ?_)))))))))))
  exact Ar (.tmp rfl) (fun w h => AG (.slice none 0 0) rfl [1, 2, 3, 0] rfl h CV) rfl
  obtain ⟨q, hq⟩ : ∃ q, Dt bi es.length (x - 1) = q := ⟨_, rfl⟩
  have hq2 : x - bi - 1 = (q : Int) := by unfold Dt at hq; omega
  have hql : q ≤ L.length := by omega
  obtain ⟨m, hm⟩ : ∃ m, min most.toNat (L.length - q) = m := ⟨_, rfl⟩
  have hqm : q + m ≤ L.length := by omega
  have hlq : ((L.drop q).take m).map (·.e) = l0 := by rw [← hl0]; unfold Cf; rw [if_neg (by omega), hq, ← hm, J1 (by rw [List.length_drop]), List.map_take, List.map_drop, hL]
  have hmd : ∀ x, x ∈ (L.drop q).take m → x.e.d.length ≤ 140737488351232 := fun x hx => hd x (List.mem_of_mem_drop (List.mem_of_mem_take hx))
  have hlm : ((L.drop q).take m).length * 56 ≤ 140737488351232 := by rw [List.length_take, List.length_drop]; omega
  refine Af (Ag Ab rfl (Ac rfl (.pointer (some ⟨g, 0, none⟩)) (fun b w hb hH => by exact BF rfl rfl hb) (Ag Ab rfl (Ac rfl (.int .u64 bi) (fun b w hb hH => AD rfl rfl (AL Ai rfl) (hH.row 0 rfl) hb) (Ac rfl (.bool false) (fun b w hb hH => AI rfl rfl rfl (Bp (by omega)) hb) (Ag Ab rfl (Al rfl (Ao (os' := fun _ => [cell g 74 #[.int .u64 bi, .int .u64 bt, .int .i64 bc, .slice A L.length c], As 32 5 encV (.slice A L.length c) L, An dat L]) [0, 1] 0 (Aj Try.func42 (by kernel_rfl) rfl) (Cs g bi bt bc es hI A c L hL ) rfl rfl rfl (fun _ => rfl) rfl rfl rfl) ?_))))))); rintro ⟨⟩
  refine Ac rfl (.bool false) (fun b w hb hH => AI rfl rfl rfl (BT (by omega)) hb) (Ag Ab rfl (Ac rfl (.bool false) (fun b w hb hH => AI rfl rfl rfl (Bp (by omega)) hb) (Ag Ab rfl (Ae (Az rfl (AK (AJ (Af (Ag Ab rfl (Ac rfl (.pointer (some ⟨g, 0, none⟩)) (fun b w hb hH => by exact BF rfl rfl hb) (Ag Ab rfl (Ac rfl (.int .u64 bi) (fun b w hb hH => AD rfl rfl (AL Ai rfl) (hH.row 0 rfl) hb) (Ac rfl (.int .u64 (x - bi)) (fun b w hb hH => Ay rfl rfl rfl rfl (IntWalk.u64_in _ (by omega)) hb) ?_)))))))))))))
  refine Ac rfl (.int .u64 (q : Int)) (fun b w hb hH => Ay rfl rfl rfl rfl (by rw [IntWalk.u64_in _ (by omega)]; omega) hb) (Ac rfl (.int .i64 (q : Int)) (fun b w hb hH => BR Try.underlying26 Try.underlying3 (by rw [IntWalk.i64_in _ (by omega)]) rfl rfl hb) (Ag Ab rfl (Ae (Ax (Ep 1 rfl ?_)))))
  refine Bi 18 1 [⟨.quiet, [none], fun _ => .pointer (some ⟨g, 0, none⟩), []⟩, ⟨.quiet, [none], fun _ => .pointer (some ⟨g, 0, none⟩), [0]⟩, ⟨.quiet, [none], fun _ => .pointer (some ⟨g, 3, none⟩), [1]⟩, ⟨.quiet, [none], fun _ => .slice A L.length c, [2]⟩, ⟨.quiet, [none], fun _ => .int .i64 (q : Int), []⟩, ⟨.quiet, [none], fun _ => .int .i64 (q : Int), []⟩, ⟨.quiet, [none], fun _ => .int .i64 most, []⟩, ⟨.quiet, [none], fun _ => .pointer (some ⟨g, 0, none⟩), []⟩, ⟨.quiet, [none], fun _ => .pointer (some ⟨g, 0, none⟩), [7]⟩, ⟨.quiet, [none], fun _ => .pointer (some ⟨g, 3, none⟩), [8]⟩, ⟨.quiet, [none], fun _ => .slice A L.length c, [9]⟩, ⟨.quiet, [none], fun _ => .int .i64 (L.length : Int), [10]⟩, ⟨.quiet, [none], fun _ => .int .i64 (q : Int), []⟩, ⟨.quiet, [none], fun _ => .int .i64 ((L.length - q : Nat) : Int), [11, 12]⟩, ⟨.quiet, [none], fun _ => .int .i64 (m : Int), [6, 13]⟩, ⟨.quiet, [none], fun _ => .int .i64 ((q + m : Nat) : Int), [5, 14]⟩, ⟨.quiet, [none], fun _ => .slice (EB A c q) ((L.drop q).take m).length (c - q), [3, 4, 15]⟩, ⟨.act 0, [some false], fun _ => undef, [16]⟩] [(0, .pointer (some ⟨g, 0, none⟩)), (2, .int .i64 most), (6, .slice none 0 0), (7, .int .i64 (q : Int))] (fun ρ => match ρ with | [rq0] => [Ct rq0 (fun ev => BQ ev l0) (Dw), cell g 74 #[.int .u64 bi, .int .u64 bt, .int .i64 bc, .slice A L.length c], As 32 5 encV (.slice A L.length c) L, An dat L] | _ => []) (by kernel_rfl) (by kernel_rfl) ⟨rfl, rfl, rfl, rfl, trivial⟩ rfl ?_ ?_
  refine Ad (by intro r0_; exact ⟨rfl, fun b w hH hb => Ah Ab rfl hb⟩) (Ad (by intro r0_; exact ⟨rfl, fun b w hH hb => by exact BF rfl rfl hb⟩) (Ad (by intro r0_; exact ⟨rfl, fun b w hH hb => Ah Ab rfl hb⟩) (Ad (by intro r0_; exact ⟨rfl, fun b w hH hb => AD rfl rfl (AL Ap rfl) (hH.row 1 rfl) hb⟩) (Ad (by intro r0_; exact ⟨rfl, fun b w hH hb => Ah Ab rfl hb⟩) (Ad (by intro r0_; exact ⟨rfl, fun b w hH hb => Ah Ab rfl hb⟩) (Ad (by intro r0_; exact ⟨rfl, fun b w hH hb => Ah Ab rfl hb⟩) (Ad (by intro r0_; exact ⟨rfl, fun b w hH hb => Ah Ab rfl hb⟩) (Ad (by intro r0_; exact ⟨rfl, fun b w hH hb => by exact BF rfl rfl hb⟩) (Ad (by intro r0_; exact ⟨rfl, fun b w hH hb => Ah Ab rfl hb⟩) ?_)))))))))
  refine Ad (by intro r0_; exact ⟨rfl, fun b w hH hb => AD rfl rfl (AL Ap rfl) (hH.row 1 rfl) hb⟩) (Ad (by intro r0_; exact ⟨rfl, fun b w hH hb => D8 Ak rfl rfl hH hb⟩) (Ad (by intro r0_; exact ⟨rfl, fun b w hH hb => Ah Ab rfl hb⟩) (Ad (by intro r0_; exact ⟨rfl, fun b w hH hb => Ay rfl rfl rfl rfl (by rw [IntWalk.i64_in _ (by omega)]; omega) hb⟩) (Ad (by intro r0_; exact ⟨rfl, fun b w hH hb => BH rfl rfl (fun cs => (fun w cs => DN (by omega) _ _ w cs) w cs) hb⟩) (Ad (by intro r0_; exact ⟨rfl, fun b w hH hb => Ay rfl rfl rfl rfl (by rw [IntWalk.i64_in _ (by omega)]; omega) hb⟩) (Ad (by intro r0_; exact ⟨rfl, fun b w hH hb => Wf (i := q) (j := (q + m)) Ak (Si hqm) (by omega) (by omega) rfl rfl rfl rfl hH hb⟩) (Ad (by exact ⟨rfl, AZ.s (CC (os' := fun ev => [BQ ev l0, cell g 74 #[.int .u64 bi, .int .u64 bt, .int .i64 bc, .slice A L.length c], As 32 5 encV (.slice A L.length c) L, An dat L]) [0] 1 (Aj Try.func39 (by kernel_rfl) rfl) (fun w hH => Eu w (.slice (EB A c q) ((L.drop q).take m).length (c - q)) ((L.drop q).take m) (Sj (GW 2 3 rfl rfl hH) hqm hcp) hlm hmd l0 hlq) rfl rfl rfl (fun _ => rfl) rfl rfl rfl) (fun _ => rfl)⟩) ?_)))))))
  exact Bx
  intro ev
  refine BM.keep (env' := [(6, .slice none 0 0), (51, ev)]) ⟨rfl, rfl, trivial⟩ (Ag Ab rfl (AE (AJ (Aw ?_))))
  exact Ar (.tmp rfl) (fun w h => AG ev rfl [1, 2, 3, 0] rfl h CV) rfl
end Go.Proofs.Ytnebloeideodmaa.Sep
namespace Go.Proofs.Ytnebloeideodmaa.Sep
open Go.RowKit
open Go.Proofs.Ytnebloeideodmaa.Mem (AM BA Chg Aq)
theorem F9 (X : Ass) (A : Option Addr) (c : Nat) (l : List EntV) (hX : Cx X (.slice A l.length c) l) (hl : l.length ≤ 9223372036854775807) (ix tm : Int) (h1 : 0 ≤ ix ∧ ix ≤ 18446744073709551615) (h2 : 0 ≤ tm ∧ tm ≤ 18446744073709551615) (b : Bool) (hb : BY ix tm (l.map (·.e)) = b) : AV Try.prog 41 #[.int .u64 ix, .int .u64 tm, .slice A l.length c] [X] (fun (_ : Unit) => .bool b) (fun (_ : Unit) => [X]) := by
  refine Bk (args := [.int .u64 ix, .int .u64 tm, .slice A l.length c]) 47 Try.func41 rfl rfl rfl ?_; intro w rs
  refine Af (Ag Ab rfl (Ae (Ax (Af (Ag Ab rfl (Ae (AN (Cw (α := Nat × Int × Int) (fun ⟨j, i, y⟩ => [(0, .int .u64 ix), (1, .int .u64 y), (2, .slice A l.length c), (6, .bool false), (7, .int .i64 (j : Int))]) (fun ⟨j, i, y⟩ => [X]) (fun ⟨j, i, y⟩ => j ≤ l.length ∧ i = (ix + (j : Int)) % 18446744073709551616 ∧ BY i y ((l.drop j).map (·.e)) = b) (fun ⟨j, i, y⟩ => l.length - j) (0, ix, tm) ⟨Nat.zero_le _, (by show ix = (ix + ((0 : Nat) : Int)) % _; omega), hb⟩ ⟨rfl, rfl, rfl, rfl, rfl, trivial⟩ rfl ?_))))))))
  rintro ⟨j, i, y⟩ hI
  refine AY.at_ (env' := [(0, .int .u64 ix), (1, .int .u64 y), (2, .slice A l.length c), (6, .bool false), (7, .int .i64 (j : Int))]) (rs' := [X]) ⟨rfl, rfl, rfl, rfl, rfl, trivial⟩ rfl ?_
  have hI1 : j ≤ l.length := hI.1
  have hI2 : i = (ix + (j : Int)) % 18446744073709551616 := hI.2.1
  have hI3 : BY i y ((l.drop j).map (·.e)) = b := hI.2.2
  refine Ax ?_
  rcases Nat.lt_or_ge j l.length with hn | hn
  · skip
    obtain ⟨x, hx⟩ : ∃ x, l[j]? = some x := ⟨_, List.getElem?_eq_getElem hn⟩
    have hm := List.mem_of_getElem? hx
    have hdr : (l.drop j).map (·.e) = x.e :: (l.drop (j + 1)).map (·.e) := by rw [List.drop_eq_getElem_cons hn, (List.getElem?_eq_some_iff.1 hx).2]; rfl
    obtain ⟨a1, ha1, ha2⟩ := wrap_u64 (z := ix + 1)
    obtain ⟨ai, hai, hai2⟩ := wrap_u64 (z := a1 + (j : Int))
    refine Af (Ag Ab rfl (Ac rfl (.int .i64 (l.length : Int)) (fun b w hb hH => A8 (((hH.rdEs 0 rfl hX).1)) Try.underlying34 rfl rfl hb) (Ac rfl (.bool true) (fun b w hb hH => AI rfl rfl rfl (Bc (by omega)) hb) (Ae (AC rfl (AK (AJ (Ax (AN (Ax ?_))))))))))
    cases hr : BV x.e
    rotate_left
    have hr2 := (CJ hr).2.1
    by_cases he : x.e.i = i + 1
    rcases Int.lt_or_le x.e.t y with ht | ht
    obtain rfl : false = b := by rw [← hI3, hdr, BN]; rw [decide_eq_false (by omega : ¬ y ≤ x.e.t)]; simp
    refine Af (Ag Ab rfl (Ac rfl (AW (.slice A l.length c) (j * 5)) (fun b w hb hH => Bw Bd (((hH.rdEs 0 rfl hX).1)) Ak (j := j) hx rfl rfl rfl hb) (Ac rfl (.agg (encV x).toArray) (fun b w hb hH => DF Bd (by decide) (((hH.rdEs 0 rfl hX).1)) (j := j) hx Cl rfl rfl hb) (Al (post := fun _ => [X]) rfl (AH (Aj Try.func67 (by kernel_rfl) rfl) (fun w hH => EL w x ((hH.rdEs 0 rfl hX).2 x hm) true hr) rfl rfl rfl) ?_)))); rintro ⟨⟩
    refine Ag Ab rfl (Ac rfl (AW (.slice A l.length c) (j * 5)) (fun b w hb hH => Bw Bd (((hH.rdEs 0 rfl hX).1)) Ak (j := j) hx rfl rfl rfl hb) (Ac rfl (AW (.slice A l.length c) (j * 5 + 2)) (fun b w hb hH => Gt Bd (by decide) (((hH.rdEs 0 rfl hX).1)) (j := j) hx AX rfl rfl hb) (Ac rfl (.int .u64 x.e.i) (fun b w hb hH => Bh Bd (by decide) (((hH.rdEs 0 rfl hX).1)) (j := j) hx Ai (off := 2) rfl rfl rfl hb) (Ag Ab rfl (Ac rfl (.int .u64 a1) (fun b w hb hH => Ay rfl rfl rfl rfl ha1 hb) (Ag Ab rfl (Ac rfl (.int .u64 (j : Int)) (fun b w hb hH => BR Try.underlying3 Try.underlying26 (by rw [IntWalk.u64_in _ (by omega)]) rfl rfl hb) (Ac rfl (.int .u64 ai) (fun b w hb hH => Ay rfl rfl rfl rfl hai hb) (Ac rfl (.bool false) (fun b w hb hH => AI rfl rfl rfl (BB (by omega)) hb) ?_)))))))))
    refine Ag Ab rfl (Ac rfl (AW (.slice A l.length c) (j * 5)) (fun b w hb hH => Bw Bd (((hH.rdEs 0 rfl hX).1)) Ak (j := j) hx rfl rfl rfl hb) (Ac rfl (AW (.slice A l.length c) (j * 5 + 1)) (fun b w hb hH => Gt Bd (by decide) (((hH.rdEs 0 rfl hX).1)) (j := j) hx BL rfl rfl hb) (Ac rfl (.int .u64 x.e.t) (fun b w hb hH => Bh Bd (by decide) (((hH.rdEs 0 rfl hX).1)) (j := j) hx Ai (off := 1) rfl rfl rfl hb) (Ag Ab rfl (Ac rfl (.bool true) (fun b w hb hH => AI rfl rfl rfl (Bc (by omega)) hb) (Ag Ab rfl (Ae (AC rfl (Af (Ag Ab rfl (Ae (Aw (Cc (AA (Cc (Cc (AA (Cc ?_))))))))))))))))))
    exact Ar (.tmp rfl) (fun w h => AG () rfl [0] rfl h CV) rfl
    refine Af (Ag Ab rfl (Ac rfl (AW (.slice A l.length c) (j * 5)) (fun b w hb hH => Bw Bd (((hH.rdEs 0 rfl hX).1)) Ak (j := j) hx rfl rfl rfl hb) (Ac rfl (.agg (encV x).toArray) (fun b w hb hH => DF Bd (by decide) (((hH.rdEs 0 rfl hX).1)) (j := j) hx Cl rfl rfl hb) (Al (post := fun _ => [X]) rfl (AH (Aj Try.func67 (by kernel_rfl) rfl) (fun w hH => EL w x ((hH.rdEs 0 rfl hX).2 x hm) true hr) rfl rfl rfl) ?_)))); rintro ⟨⟩
    refine Ag Ab rfl (Ac rfl (AW (.slice A l.length c) (j * 5)) (fun b w hb hH => Bw Bd (((hH.rdEs 0 rfl hX).1)) Ak (j := j) hx rfl rfl rfl hb) (Ac rfl (AW (.slice A l.length c) (j * 5 + 2)) (fun b w hb hH => Gt Bd (by decide) (((hH.rdEs 0 rfl hX).1)) (j := j) hx AX rfl rfl hb) (Ac rfl (.int .u64 x.e.i) (fun b w hb hH => Bh Bd (by decide) (((hH.rdEs 0 rfl hX).1)) (j := j) hx Ai (off := 2) rfl rfl rfl hb) (Ag Ab rfl (Ac rfl (.int .u64 a1) (fun b w hb hH => Ay rfl rfl rfl rfl ha1 hb) (Ag Ab rfl (Ac rfl (.int .u64 (j : Int)) (fun b w hb hH => BR Try.underlying3 Try.underlying26 (by rw [IntWalk.u64_in _ (by omega)]) rfl rfl hb) (Ac rfl (.int .u64 ai) (fun b w hb hH => Ay rfl rfl rfl rfl hai hb) (Ac rfl (.bool false) (fun b w hb hH => AI rfl rfl rfl (BB (by omega)) hb) ?_)))))))))
    refine Ag Ab rfl (Ac rfl (AW (.slice A l.length c) (j * 5)) (fun b w hb hH => Bw Bd (((hH.rdEs 0 rfl hX).1)) Ak (j := j) hx rfl rfl rfl hb) (Ac rfl (AW (.slice A l.length c) (j * 5 + 1)) (fun b w hb hH => Gt Bd (by decide) (((hH.rdEs 0 rfl hX).1)) (j := j) hx BL rfl rfl hb) (Ac rfl (.int .u64 x.e.t) (fun b w hb hH => Bh Bd (by decide) (((hH.rdEs 0 rfl hX).1)) (j := j) hx Ai (off := 1) rfl rfl rfl hb) (Ag Ab rfl (Ac rfl (.bool false) (fun b w hb hH => AI rfl rfl rfl (Bf (by omega)) hb) (Ag Ab rfl (Ae (Az rfl (AK (AJ (AR (Ag Ab rfl (Ac rfl (AW (.slice A l.length c) (j * 5)) (fun b w hb hH => Bw Bd (((hH.rdEs 0 rfl hX).1)) Ak (j := j) hx rfl rfl rfl hb) ?_)))))))))))))
    refine Ac rfl (AW (.slice A l.length c) (j * 5 + 1)) (fun b w hb hH => Gt Bd (by decide) (((hH.rdEs 0 rfl hX).1)) (j := j) hx BL rfl rfl hb) (Ac rfl (.int .u64 x.e.t) (fun b w hb hH => Bh Bd (by decide) (((hH.rdEs 0 rfl hX).1)) (j := j) hx Ai (off := 1) rfl rfl rfl hb) (Ag Ab rfl (AE (AU (AJ (AR (Ag Ab rfl (Ac rfl (.int .i64 ((j + 1 : Nat) : Int)) (fun b w hb hH => Ay rfl rfl rfl rfl (by rw [IntWalk.i64_in _ (by omega)]; omega) hb) (Ag Ab rfl (AE ?_))))))))))
    exact BS (j + 1, x.e.i, x.e.t) 0 ⟨hn, (by show x.e.i = (ix + ((j + 1 : Nat) : Int)) % 18446744073709551616; omega), (by rw [← hI3, hdr, BN, hr, decide_eq_true he, decide_eq_true ht]; rfl)⟩ (show l.length - (j + 1) < l.length - j by omega) ⟨rfl, rfl, rfl, rfl, rfl, trivial⟩ rfl
    obtain rfl : false = b := by rw [← hI3, hdr, BN]; rw [decide_eq_false he]; simp
    refine Af (Ag Ab rfl (Ac rfl (AW (.slice A l.length c) (j * 5)) (fun b w hb hH => Bw Bd (((hH.rdEs 0 rfl hX).1)) Ak (j := j) hx rfl rfl rfl hb) (Ac rfl (.agg (encV x).toArray) (fun b w hb hH => DF Bd (by decide) (((hH.rdEs 0 rfl hX).1)) (j := j) hx Cl rfl rfl hb) (Al (post := fun _ => [X]) rfl (AH (Aj Try.func67 (by kernel_rfl) rfl) (fun w hH => EL w x ((hH.rdEs 0 rfl hX).2 x hm) true hr) rfl rfl rfl) ?_)))); rintro ⟨⟩
    refine Ag Ab rfl (Ac rfl (AW (.slice A l.length c) (j * 5)) (fun b w hb hH => Bw Bd (((hH.rdEs 0 rfl hX).1)) Ak (j := j) hx rfl rfl rfl hb) (Ac rfl (AW (.slice A l.length c) (j * 5 + 2)) (fun b w hb hH => Gt Bd (by decide) (((hH.rdEs 0 rfl hX).1)) (j := j) hx AX rfl rfl hb) (Ac rfl (.int .u64 x.e.i) (fun b w hb hH => Bh Bd (by decide) (((hH.rdEs 0 rfl hX).1)) (j := j) hx Ai (off := 2) rfl rfl rfl hb) (Ag Ab rfl (Ac rfl (.int .u64 a1) (fun b w hb hH => Ay rfl rfl rfl rfl ha1 hb) (Ag Ab rfl (Ac rfl (.int .u64 (j : Int)) (fun b w hb hH => BR Try.underlying3 Try.underlying26 (by rw [IntWalk.u64_in _ (by omega)]) rfl rfl hb) (Ac rfl (.int .u64 ai) (fun b w hb hH => Ay rfl rfl rfl rfl hai hb) (Ac rfl (.bool true) (fun b w hb hH => AI rfl rfl rfl (DE (by omega)) hb) ?_)))))))))
    refine Ag Ab rfl (Ae (AC rfl (Af (Ag Ab rfl (Ae (Aw (Cc (AA (Cc (Cc (AA (Cc ?_))))))))))))
    exact Ar (.tmp rfl) (fun w h => AG () rfl [0] rfl h CV) rfl
    obtain rfl : false = b := by rw [← hI3, hdr, BN]; rw [hr]; rfl
    refine Af (Ag Ab rfl (Ac rfl (AW (.slice A l.length c) (j * 5)) (fun b w hb hH => Bw Bd (((hH.rdEs 0 rfl hX).1)) Ak (j := j) hx rfl rfl rfl hb) (Ac rfl (.agg (encV x).toArray) (fun b w hb hH => DF Bd (by decide) (((hH.rdEs 0 rfl hX).1)) (j := j) hx Cl rfl rfl hb) (Al (post := fun _ => [X]) rfl (AH (Aj Try.func67 (by kernel_rfl) rfl) (fun w hH => EL w x ((hH.rdEs 0 rfl hX).2 x hm) false hr) rfl rfl rfl) ?_)))); rintro ⟨⟩
    refine Ag Ab rfl (Ae (AC rfl (Af (Ag Ab rfl (Ae (Aw (Cc (AA (Cc (Cc (AA (Cc ?_))))))))))))
    exact Ar (.tmp rfl) (fun w h => AG () rfl [0] rfl h CV) rfl
  obtain rfl : true = b := by rw [← hI3, List.drop_of_length_le hn]; rfl
  refine Af (Ag Ab rfl (Ac rfl (.int .i64 (l.length : Int)) (fun b w hb hH => A8 (((hH.rdEs 0 rfl hX).1)) Try.underlying34 rfl rfl hb) (Ac rfl (.bool false) (fun b w hb hH => AI rfl rfl rfl (Bf (by omega)) hb) (Ae (Az rfl (B6 (ES (ES (AQ (AJ (Af (Ag Ab rfl (Ae (Aw ?_))))))))))))))
  exact Ar (.tmp rfl) (fun w h => AG () rfl [0] rfl h CV) rfl
theorem Tu (w : World) (bi bt bc : Int) (b : Bool) (hb : CS bi bt bc = b) : Calls Try.prog 40 #[.agg #[.int .u64 bi, .int .u64 bt, .int .i64 bc]] w fun e w' => e = .returned (.bool b) ∧ Below w.heap.size w w' := by
 unfold CS at hb
 refine Fw (args := [.agg #[.int .u64 bi, .int .u64 bt, .int .i64 bc]]) 10 Try.func40 rfl rfl rfl (Af (Ag Ab rfl (Al (post := fun g1 => [cell g1 28 #[.int .u64 bi, .int .u64 bt, .int .i64 bc]]) rfl (Co (cs := #[.int .u64 bi, .int .u64 bt, .int .i64 bc]) rfl rfl rfl) ?_))); rintro g1
 refine Ag Ab rfl (Ae ?_)
 cases hz : (bi == 0 && (bt == 0 && bc == 0))
 rw [hz] at hb
 have hb : C0 bi bt bc = b := hb
 refine Af (Ag Ab rfl (Ac rfl (.agg #[.int .u64 bi, .int .u64 bt, .int .i64 bc]) (fun b w hb hH => AD rfl rfl (Dd (cs := [.int .u64 bi, .int .u64 bt, .int .i64 bc]) Au rfl) (hH.row 0 rfl) hb) (Ac rfl (.agg #[.int .u64 0, .int .u64 0, .int .i64 0]) (fun b w hb hH => Bn rfl rfl (by kernel_rfl) hb) (Ac rfl (.bool false) (fun b w hb hH => Bl (C1 bi bt bc 0 0 0 false hz) rfl rfl rfl hb) (Ag Ab rfl (Ac rfl (.agg #[.int .u64 bi, .int .u64 bt, .int .i64 bc]) (fun b w hb hH => AD rfl rfl (Dd (cs := [.int .u64 bi, .int .u64 bt, .int .i64 bc]) Au rfl) (hH.row 0 rfl) hb) (Al (post := fun _ => [cell g1 28 #[.int .u64 bi, .int .u64 bt, .int .i64 bc]]) rfl (AH (Aj Try.func66 (by kernel_rfl) rfl) (fun w hH => Gu w bi bt bc b hb) rfl rfl rfl) ?_))))))); rintro ⟨⟩
 refine Ag Ab rfl (Ae (Aw ?_))
 exact Ar (.tmp rfl) (fun w h => ⟨rfl, Aq h.up⟩) rfl
 obtain rfl : b = true := by rw [← hb, hz]; rfl
 refine Af (Ag Ab rfl (Ac rfl (.agg #[.int .u64 bi, .int .u64 bt, .int .i64 bc]) (fun b w hb hH => AD rfl rfl (Dd (cs := [.int .u64 bi, .int .u64 bt, .int .i64 bc]) Au rfl) (hH.row 0 rfl) hb) (Ac rfl (.agg #[.int .u64 0, .int .u64 0, .int .i64 0]) (fun b w hb hH => Bn rfl rfl (by kernel_rfl) hb) (Ac rfl (.bool true) (fun b w hb hH => Bl (C1 bi bt bc 0 0 0 true hz) rfl rfl rfl hb) (Ag Ab rfl (Ae (Aw ?_)))))))
 exact Ar (.tmp rfl) (fun w h => ⟨rfl, Aq h.up⟩) rfl
end Go.Proofs.Ytnebloeideodmaa.Sep
namespace Go.Proofs.Ytnebloeideodmaa.Sep
open Go.RowKit
open Go.Proofs.Ytnebloeideodmaa.Mem (AM BA Chg Aq)
theorem Ee {g : Nat} {bi bt bc : Int} {A : Option Addr} {c : Nat} {L : List EntV} {es : List EntD} {X : Ass} (hL : L.map (·.e) = es) {z : List RowT} (hz : Am [cell g 74 #[.int .u64 bi, .int .u64 bt, .int .i64 bc, .slice A L.length c], As 32 5 encV (.slice A L.length c) L, An dat L, X] z) : Am [BG g bi bt bc es, X] z := by
  obtain ⟨a, b, e, h1, p, d, e2, h2, q, r, e3, h3, h4⟩ := hz
  exact ⟨a ++ (p ++ q), r, by rw [e, e2, e3]; simp, BG.back hL (Ja h2) _ ⟨a, p ++ q, rfl, h1, p, q, rfl, h2, Am.one h3⟩, h4⟩
theorem La {g : Nat} {bi bt bc : Int} {v : Value} {es : List EntD} {X : Ass} {z : List RowT} (hz : Am [cell g 74 #[.int .u64 bi, .int .u64 bt, .int .i64 bc, v], BQ v es, X] z) : Am [BG g bi bt bc es, X] z := by
 obtain ⟨a, b, e, h1, p, d, e2, h2, h3⟩ := hz
 exact ⟨a ++ p, d, by rw [e, e2]; simp, BG.mk _ ⟨a, p, rfl, h1, Am.one h2⟩, h3⟩
theorem Sk (bi bt bc : Int) (hbi : 0 ≤ bi ∧ bi ≤ 18446744073709551615) (hbt : 0 ≤ bt ∧ bt ≤ 18446744073709551615) (hbc : -9223372036854775808 ≤ bc ∧ bc ≤ 9223372036854775807) (X : Ass) (A : Option Addr) (c : Nat) (l : List EntV) (hX : Cx X (.slice A l.length c) l) (hd : ∀ x, x ∈ l → x.e.d.length ≤ 140737488351232) (hs : l.length * 56 ≤ 140737488351232) (h : CS bi bt bc = true) (h2 : BY bi bt (l.map (·.e)) = true) : AV Try.prog 22 #[.agg #[.int .u64 bi, .int .u64 bt, .int .i64 bc], .slice A l.length c] [X] (fun (g : Nat) => .pointer (some ⟨g, 0, none⟩)) (fun (g : Nat) => [BG g bi bt bc (l.map (·.e)), X]) := by
  have hln : l.length ≤ 9223372036854775807 := by omega
  refine Bk (args := [.agg #[.int .u64 bi, .int .u64 bt, .int .i64 bc], .slice A l.length c]) 22 Try.func22 rfl rfl rfl ?_; intro w rs
  refine Af (Ag Ab rfl (Al (post := fun g2 => [cell g2 28 #[.int .u64 bi, .int .u64 bt, .int .i64 bc], X]) rfl (Co (cs := #[.int .u64 bi, .int .u64 bt, .int .i64 bc]) rfl rfl rfl) ?_)); rintro g2
  refine Ag Ab rfl (Ae (Ax (Af (Ag Ab rfl (Ac rfl (.agg #[.int .u64 bi, .int .u64 bt, .int .i64 bc]) (fun b w hb hH => AD rfl rfl (Dd (cs := [.int .u64 bi, .int .u64 bt, .int .i64 bc]) Au rfl) (hH.row 0 rfl) hb) (Al (post := fun _ => [cell g2 28 #[.int .u64 bi, .int .u64 bt, .int .i64 bc], X]) rfl (AH (Aj Try.func40 (by kernel_rfl) rfl) (fun w hH => Tu w bi bt bc true h) rfl rfl rfl) ?_)))))); rintro ⟨⟩
  refine Ag Ab rfl (Ac rfl (.int .u64 bi) (fun b w hb hH => AD rfl rfl (AL Ai rfl) (hH.row 0 rfl) hb) (Ag Ab rfl (Ac rfl (.int .u64 bt) (fun b w hb hH => AD rfl rfl (AL Ai rfl) (hH.row 0 rfl) hb) (Ag Ab rfl (Al rfl (Ao (os' := fun _ => [cell g2 28 #[.int .u64 bi, .int .u64 bt, .int .i64 bc], X]) [1] 0 (Aj Try.func41 (by kernel_rfl) rfl) (F9 X A c l hX hln bi bt hbi hbt true h2) rfl rfl rfl (fun _ => rfl) rfl rfl rfl) ?_))))); rintro ⟨⟩
  refine Ag Ab rfl (Ae (Az rfl (AK (AJ (Ax (Ep 1 rfl ?_))))))
  refine Bi 3 1 [⟨.quiet, [none], fun _ => .agg #[.int .u64 bi, .int .u64 bt, .int .i64 bc], []⟩, ⟨.quiet, [none], fun _ => .slice A l.length c, []⟩, ⟨.act 0, [some false], fun _ => undef, [1]⟩] [(1, .slice A l.length c), (2, .pointer (some ⟨g2, 0, none⟩)), (4, .pointer none)] (fun ρ => match ρ with | [rq0] => [Ct rq0 (fun ev => BQ ev (l.map (·.e))) (Dw), cell g2 28 #[.int .u64 bi, .int .u64 bt, .int .i64 bc], X] | _ => []) (by kernel_rfl) (by kernel_rfl) ⟨rfl, rfl, rfl, trivial⟩ rfl ?_ ?_
  refine Ad (by intro r0_; exact ⟨rfl, fun b w hH hb => AD rfl rfl (Dd (cs := [.int .u64 bi, .int .u64 bt, .int .i64 bc]) Au rfl) (hH.row 1 rfl) hb⟩) (Ad (by intro r0_; exact ⟨rfl, fun b w hH hb => Ah Ab rfl hb⟩) (Ad (by exact ⟨rfl, AZ.s (CC (os' := fun ev => [BQ ev (l.map (·.e)), cell g2 28 #[.int .u64 bi, .int .u64 bt, .int .i64 bc], X]) [0] 1 (Aj Try.func39 (by kernel_rfl) rfl) (fun w hH => Eu w (.slice A l.length c) l (hH.rdEs 2 rfl hX) hs hd (l.map (·.e)) rfl) rfl rfl rfl (fun _ => rfl) rfl rfl rfl) (fun _ => rfl)⟩) ?_))
  exact Bx
  intro ev
  refine BM.keep (env' := [(4, .pointer none), (17, .agg #[.int .u64 bi, .int .u64 bt, .int .i64 bc]), (19, ev)]) ⟨rfl, rfl, rfl, trivial⟩ (M5 0 rfl BQ.open2 (fun _ => rfl) ?_); rintro ⟨L, hL⟩
  have hL : L.map (·.e) = (l.map (·.e)) := hL
  refine BM.fact 0 rfl (fun _ h => As.is h) ?_; rintro ⟨A9, c9, hev⟩
  subst hev
  refine BM.keep (env' := [(4, .pointer none), (17, .agg #[.int .u64 bi, .int .u64 bt, .int .i64 bc]), (19, .slice A9 L.length c9)]) ⟨rfl, rfl, rfl, trivial⟩ (BM.mid [As 32 5 encV (.slice A9 L.length c9) L, An dat L, cell g2 28 #[.int .u64 bi, .int .u64 bt, .int .i64 bc], X] (.refl _) (Ag Ab rfl (Ac rfl (.agg #[.int .u64 bi, .int .u64 bt, .int .i64 bc, .slice A9 L.length c9]) (fun b w hb hH => Bn rfl rfl (by kernel_rfl) hb) (Al (post := fun g => [cell g 74 #[.int .u64 bi, .int .u64 bt, .int .i64 bc, .slice A9 L.length c9], As 32 5 encV (.slice A9 L.length c9) L, An dat L, cell g2 28 #[.int .u64 bi, .int .u64 bt, .int .i64 bc], X]) rfl (Co (cs := #[.int .u64 bi, .int .u64 bt, .int .i64 bc, .slice A9 L.length c9]) rfl rfl rfl) ?_)))); rintro g
  refine Ag Ab rfl (AE (AJ (Aw ?_)))
  exact Ar (.tmp rfl) (fun w h => AG g rfl [0, 1, 2, 4] rfl h (fun z hz => ⟨z, .refl _, Ee hL hz⟩)) rfl
theorem Mq (g : Nat) (bi bt bc : Int) (es : List EntD) (hI : InvL bi bt es) (X : Ass) (A : Option Addr) (c : Nat) (l : List EntV) (hX : Cx X (.slice A l.length c) l) (hd : ∀ x, x ∈ l → x.e.d.length ≤ 140737488351232) (hs : (es.length + l.length) * 56 ≤ 140737488351232) (h : BY (bi + (es.length : Int)) (Ev bt es) (l.map (·.e)) = true) : AV Try.prog 53 #[.pointer (some ⟨g, 0, none⟩), .slice A l.length c] [BG g bi bt bc es, X] (fun (_ : Unit) => .bool true) (fun (_ : Unit) => [BG g bi bt bc (es ++ (l.map (·.e))), X]) := by
  have hb0 := hI.hi
  have ht0 := hI.ht
  have hle0 := hI.len
  have hm0 : (es.length : Int) ≤ 72057594037927935 := by omega
  have hls : 0 ≤ bi ∧ 0 ≤ (es.length : Int) ∧ bi + (es.length : Int) ≤ 9223372036854775807 := by omega
  have hln : l.length ≤ 9223372036854775807 := by omega
  refine Bk (args := [.pointer (some ⟨g, 0, none⟩), .slice A l.length c]) 31 Try.func53 rfl rfl rfl ?_; intro w rs
  refine Bo 0 rfl BG.open_ (fun _ => rfl) ?_; rintro ⟨⟨A1, c1, L⟩, hL, hcp⟩
  have hL : L.map (·.e) = es := hL
  have hcp : L.length ≤ c1 := hcp
  have hLl : L.length = es.length := by rw [← hL, List.length_map]
  have hdL : ∀ x, x ∈ L → x.e.d.length ≤ 140737488351232 := fun x hx => by obtain ⟨k, hk⟩ := List.getElem?_of_mem hx; have := Dn (hI.at_ (Do hL hk)).2.1; omega
  refine Af (Ag Ab rfl (Ae (Af (Ag Ab rfl (Al rfl (Ao (os' := fun _ => [cell g 74 #[.int .u64 bi, .int .u64 bt, .int .i64 bc, .slice A1 L.length c1], As 32 5 encV (.slice A1 L.length c1) L, An dat L, X]) [0, 1] 0 (Aj Try.func42 (by kernel_rfl) rfl) (Cs g bi bt bc es hI A1 c1 L hL ) rfl rfl rfl (fun _ => rfl) rfl rfl rfl) ?_))))); rintro ⟨⟩
  refine Al rfl (Ao (os' := fun _ => [cell g 74 #[.int .u64 bi, .int .u64 bt, .int .i64 bc, .slice A1 L.length c1], As 32 5 encV (.slice A1 L.length c1) L, An dat L, X]) [0, 1] 0 (Aj Try.func45 (by kernel_rfl) rfl) (Cy g bi bt bc es hI A1 c1 L hL (bi + (es.length : Int)) (by omega) (Ev bt es) true C9) rfl rfl rfl (fun _ => rfl) rfl rfl rfl) ?_; rintro ⟨⟩
  refine Ag Ab rfl (Ae (Ax (Af (Ag Ab rfl (Al rfl (Ao (os' := fun _ => [cell g 74 #[.int .u64 bi, .int .u64 bt, .int .i64 bc, .slice A1 L.length c1], As 32 5 encV (.slice A1 L.length c1) L, An dat L, X]) [0, 1] 0 (Aj Try.func42 (by kernel_rfl) rfl) (Cs g bi bt bc es hI A1 c1 L hL ) rfl rfl rfl (fun _ => rfl) rfl rfl rfl) ?_))))); rintro ⟨⟩
  refine Ag Ab rfl (Al rfl (Ao (os' := fun _ => [cell g 74 #[.int .u64 bi, .int .u64 bt, .int .i64 bc, .slice A1 L.length c1], As 32 5 encV (.slice A1 L.length c1) L, An dat L, X]) [3] 0 (Aj Try.func41 (by kernel_rfl) rfl) (F9 X A c l hX hln (bi + (es.length : Int)) (Ev bt es) (by omega) (by have := I1 hI; omega) true h) rfl rfl rfl (fun _ => rfl) rfl rfl rfl) ?_); rintro ⟨⟩
  refine Ag Ab rfl (Ae (Az rfl (AK (AJ (Af (Ag Ab rfl (Ac rfl (.pointer (some ⟨g, 0, none⟩)) (fun b w hb hH => by exact BF rfl rfl hb) (Ag Ab rfl (Ac rfl (.slice A1 L.length c1) (fun b w hb hH => AD rfl rfl (AL Ap rfl) (hH.row 0 rfl) hb) (Al (post := fun ev1 => [BQ ev1 es, cell g 74 #[.int .u64 bi, .int .u64 bt, .int .i64 bc, .slice A1 L.length c1], As 32 5 encV (.slice A1 L.length c1) L, An dat L, X]) rfl (CC (os' := fun ev1 => [BQ ev1 es, cell g 74 #[.int .u64 bi, .int .u64 bt, .int .i64 bc, .slice A1 L.length c1], As 32 5 encV (.slice A1 L.length c1) L, An dat L, X]) [] 0 (Aj Try.func39 (by kernel_rfl) rfl) (fun w hH => Eu w (.slice A1 L.length c1) L (GW 1 2 rfl rfl hH) (by omega) hdL es hL) rfl rfl rfl (fun _ => rfl) rfl rfl rfl) ?_)))))))))); rintro ev1
  refine Ag Ab rfl (Al (post := fun ev2 => [BQ ev2 (l.map (·.e)), BQ ev1 es, cell g 74 #[.int .u64 bi, .int .u64 bt, .int .i64 bc, .slice A1 L.length c1], As 32 5 encV (.slice A1 L.length c1) L, An dat L, X]) rfl (CC (os' := fun ev2 => [BQ ev2 (l.map (·.e)), BQ ev1 es, cell g 74 #[.int .u64 bi, .int .u64 bt, .int .i64 bc, .slice A1 L.length c1], As 32 5 encV (.slice A1 L.length c1) L, An dat L, X]) [] 0 (Aj Try.func39 (by kernel_rfl) rfl) (fun w hH => Eu w (.slice A l.length c) l (hH.rdEs 4 rfl hX) (by omega) hd (l.map (·.e)) rfl) rfl rfl rfl (fun _ => rfl) rfl rfl rfl) ?_); rintro ev2
  refine Al (post := fun ev3 => [Dw, BQ ev3 (es ++ (l.map (·.e))), cell g 74 #[.int .u64 bi, .int .u64 bt, .int .i64 bc, .slice A1 L.length c1], As 32 5 encV (.slice A1 L.length c1) L, An dat L, X]) rfl (GX 1 0 (by decide) Ak (by kernel_rfl) rfl rfl (by rw [List.length_map]; omega) rfl rfl rfl) ?_; rintro ev3
  refine Ac rfl (.pointer (some ⟨g, 0, none⟩)) (fun b w hb hH => by exact BF rfl rfl hb) (Ag Ab rfl (A5 (post := fun _ => [Dw, BQ ev3 (es ++ (l.map (·.e))), cell g 74 #[.int .u64 bi, .int .u64 bt, .int .i64 bc, ev3], As 32 5 encV (.slice A1 L.length c1) L, An dat L, X]) rfl rfl (DT 2 1 (v := ev3) #[.int .u64 bi, .int .u64 bt, .int .i64 bc, ev3] Ap.2 rfl (fun _ h => BQ.c1 _ h) rfl rfl rfl rfl rfl rfl rfl) ?_)); rintro ⟨⟩
  refine Ae (Af (Ag Ab rfl (Ae (Aw ?_))))
  exact Ar (.tmp rfl) (fun w h => AG () rfl [2, 1, 5] rfl h (fun z hz => ⟨z, .refl _, La hz⟩)) rfl
theorem Mr (g : Nat) (bi bt bc : Int) (es : List EntD) (hI : InvL bi bt es) (X : Ass) (A : Option Addr) (c : Nat) (l : List EntV) (hX : Cx X (.slice A l.length c) l) (hd : ∀ x, x ∈ l → x.e.d.length ≤ 140737488351232) (hs : (es.length + l.length) * 56 ≤ 140737488351232) (h : BY (bi + (es.length : Int)) (Ev bt es) (l.map (·.e)) = false) : AV Try.prog 53 #[.pointer (some ⟨g, 0, none⟩), .slice A l.length c] [BG g bi bt bc es, X] (fun (_ : Unit) => .bool false) (fun (_ : Unit) => [BG g bi bt bc es, X]) := by
  have hb0 := hI.hi
  have ht0 := hI.ht
  have hle0 := hI.len
  have hm0 : (es.length : Int) ≤ 72057594037927935 := by omega
  have hls : 0 ≤ bi ∧ 0 ≤ (es.length : Int) ∧ bi + (es.length : Int) ≤ 9223372036854775807 := by omega
  have hln : l.length ≤ 9223372036854775807 := by omega
  refine Bk (args := [.pointer (some ⟨g, 0, none⟩), .slice A l.length c]) 31 Try.func53 rfl rfl rfl ?_; intro w rs
  refine Bo 0 rfl BG.open_ (fun _ => rfl) ?_; rintro ⟨⟨A1, c1, L⟩, hL, hcp⟩
  have hL : L.map (·.e) = es := hL
  have hcp : L.length ≤ c1 := hcp
  have hLl : L.length = es.length := by rw [← hL, List.length_map]
  have hdL : ∀ x, x ∈ L → x.e.d.length ≤ 140737488351232 := fun x hx => by obtain ⟨k, hk⟩ := List.getElem?_of_mem hx; have := Dn (hI.at_ (Do hL hk)).2.1; omega
  refine Af (Ag Ab rfl (Ae (Af (Ag Ab rfl (Al rfl (Ao (os' := fun _ => [cell g 74 #[.int .u64 bi, .int .u64 bt, .int .i64 bc, .slice A1 L.length c1], As 32 5 encV (.slice A1 L.length c1) L, An dat L, X]) [0, 1] 0 (Aj Try.func42 (by kernel_rfl) rfl) (Cs g bi bt bc es hI A1 c1 L hL ) rfl rfl rfl (fun _ => rfl) rfl rfl rfl) ?_))))); rintro ⟨⟩
  refine Al rfl (Ao (os' := fun _ => [cell g 74 #[.int .u64 bi, .int .u64 bt, .int .i64 bc, .slice A1 L.length c1], As 32 5 encV (.slice A1 L.length c1) L, An dat L, X]) [0, 1] 0 (Aj Try.func45 (by kernel_rfl) rfl) (Cy g bi bt bc es hI A1 c1 L hL (bi + (es.length : Int)) (by omega) (Ev bt es) true C9) rfl rfl rfl (fun _ => rfl) rfl rfl rfl) ?_; rintro ⟨⟩
  refine Ag Ab rfl (Ae (Ax (Af (Ag Ab rfl (Al rfl (Ao (os' := fun _ => [cell g 74 #[.int .u64 bi, .int .u64 bt, .int .i64 bc, .slice A1 L.length c1], As 32 5 encV (.slice A1 L.length c1) L, An dat L, X]) [0, 1] 0 (Aj Try.func42 (by kernel_rfl) rfl) (Cs g bi bt bc es hI A1 c1 L hL ) rfl rfl rfl (fun _ => rfl) rfl rfl rfl) ?_))))); rintro ⟨⟩
  refine Ag Ab rfl (Al rfl (Ao (os' := fun _ => [cell g 74 #[.int .u64 bi, .int .u64 bt, .int .i64 bc, .slice A1 L.length c1], As 32 5 encV (.slice A1 L.length c1) L, An dat L, X]) [3] 0 (Aj Try.func41 (by kernel_rfl) rfl) (F9 X A c l hX hln (bi + (es.length : Int)) (Ev bt es) (by omega) (by have := I1 hI; omega) false h) rfl rfl rfl (fun _ => rfl) rfl rfl rfl) ?_); rintro ⟨⟩
  refine Ag Ab rfl (Ae (AC rfl (Af (Ag Ab rfl (Ae (Aw (Cc ?_)))))))
  exact Ar (.tmp rfl) (fun w h => AG () rfl [0, 1, 2, 3] rfl h (fun z hz => ⟨z, .refl _, Ee hL hz⟩)) rfl
end Go.Proofs.Ytnebloeideodmaa.Sep
