/-
  RlAo
-/
import Derived.Test.YtnebloeideodmaaPZ01
set_option linter.unusedSimpArgs false
set_option linter.unusedVariables false
namespace Go.Proofs.Ytnebloeideodmaa.Sep
open Go.RowKit
open Go.Proofs.Ytnebloeideodmaa.Mem (AM BA Chg Aq)
theorem NX {ci ct cc : Int} (h1 : 1 ≤ ci ∧ ci ≤ 50) (h2 : 1 ≤ ct ∧ ct ≤ 5) (h3 : 0 ≤ cc ∧ cc < 127) : CS ci ct (2 * (1 + cc)) = true := by
 have a1 : BX ci = true := by unfold BX; simp; omega
 have a2 : BX ct = true := by unfold BX; simp; omega
 have a3 : CX (2 * (1 + cc)) = true := by unfold CX; simp; omega
 have a4 : (2 * (1 + cc) != 0) = true := by simp; omega
 unfold CS C0
 rw [a1, a2, a3, a4]; simp
set_option maxRecDepth 100000 in
set_option maxHeartbeats 1000000 in
theorem plays_law (X : Ass) (v0 : Value) (l0 : List EntV) (hX0 : Cx X v0 l0) (ho0 : ∀ x, x ∈ l0 → x.e.ok) (v1 : Value) (l1 : List StepE) (hXs : Rd X 9 encSt v1 l1) (hXe : ∀ y ∈ l1, Cx X y.lv y.l) (ho1 : ∀ y ∈ l1, y.ok) (hl1 : l1.length ≤ 9223372036854775807) (bi bt bc : Int) (hbi : 0 ≤ bi ∧ bi ≤ 18446744073709551615) (hbt : 0 ≤ bt ∧ bt ≤ 18446744073709551615) (hbc : -9223372036854775808 ≤ bc ∧ bc ≤ 9223372036854775807) : AV Try.prog 5 #[.agg #[.int .u64 bi, .int .u64 bt, .int .i64 bc], v0, v1] [X] (fun (_ : Unit) => .bool true) (fun (_ : Unit) => [X]) := by
  obtain ⟨q0, hq0⟩ : ∃ r, bi % 50 = r := ⟨_, rfl⟩
  obtain ⟨q1, hq1⟩ : ∃ r, bt % 5 = r := ⟨_, rfl⟩
  obtain ⟨cc, hcc⟩ : ∃ r, bc % 127 = r := ⟨_, rfl⟩
  obtain ⟨ci, hci⟩ : ∃ r, 1 + q0 = r := ⟨_, rfl⟩
  obtain ⟨ct, hct⟩ : ∃ r, 1 + q1 = r := ⟨_, rfl⟩
  have hci1 : 1 ≤ ci ∧ ci ≤ 50 := by omega
  have hct1 : 1 ≤ ct ∧ ct ≤ 5 := by omega
  have hcc1 : 0 ≤ cc ∧ cc < 127 := by omega
  have hbq := NX hci1 hct1 hcc1
  obtain ⟨en, hen⟩ : ∃ r, CE ci ct ((l0.take 8).map (·.e)) = r := ⟨_, rfl⟩
  have hl8 : ((l0.take 8).map (·.e)).length ≤ 8 := by rw [List.length_map, List.length_take]; omega
  have henl : en.length ≤ 8 := by rw [← hen, Gz]; exact hl8
  have hI : InvL ci ct en := by rw [← hen]; exact Sr hci1.1 (by omega) hct1.1 (by omega)
  refine Bk (args := [.agg #[.int .u64 bi, .int .u64 bt, .int .i64 bc], v0, v1]) 83 Try.func5 rfl rfl rfl ?_; intro w rs
  refine Af (Ag Ab rfl (Al (post := fun g3 => [cell g3 28 #[.int .u64 bi, .int .u64 bt, .int .i64 bc], X]) rfl (Co (cs := #[.int .u64 bi, .int .u64 bt, .int .i64 bc]) rfl rfl rfl) ?_)); rintro g3
  refine Ag Ab rfl (Ae (Ax ?_))
  refine Bi 14 2 [⟨.quiet, [none, none], fun _ => .pointer (some ⟨g3, 0, none⟩), []⟩, ⟨.quiet, [none, none], fun _ => .int .u64 bi, [0]⟩, ⟨.quiet, [none, none], fun _ => .int .u64 q0, [1]⟩, ⟨.quiet, [none, none], fun _ => .int .u64 ci, [2]⟩, ⟨.quiet, [none, none], fun _ => .pointer (some ⟨g3, 1, none⟩), []⟩, ⟨.quiet, [none, none], fun _ => .int .u64 bt, [4]⟩, ⟨.quiet, [none, none], fun _ => .int .u64 q1, [5]⟩, ⟨.quiet, [none, none], fun _ => .int .u64 ct, [6]⟩, ⟨.quiet, [none, none], fun _ => .pointer (some ⟨g3, 2, none⟩), []⟩, ⟨.quiet, [none, none], fun _ => .int .i64 bc, [8]⟩, ⟨.actv 0, [some false, some false], fun _ => .int .i64 cc, [9]⟩, ⟨.quiet, [some true, none], fun _ => .int .i64 (1 + cc), [10]⟩, ⟨.quiet, [some true, none], fun _ => .int .i64 (2 * (1 + cc)), [11]⟩, ⟨.actv 1, [some true, some false], fun _ => .agg #[.int .u64 ci, .int .u64 ct, .int .i64 (2 * (1 + cc))], [3, 7, 12]⟩] [(1, v0), (2, v1), (3, .pointer (some ⟨g3, 0, none⟩)), (6, .bool false)] (fun ρ => match ρ with | [rq0, rq1] => [cell g3 28 #[.int .u64 bi, .int .u64 bt, .int .i64 bc], X] | _ => []) (by kernel_rfl) (by kernel_rfl) ⟨rfl, rfl, rfl, rfl, trivial⟩ rfl ?_ ?_
  refine Ad (by intro r0_ r1_; exact ⟨rfl, fun b w hH hb => Ah Ab rfl hb⟩) (Ad (by intro r0_ r1_; exact ⟨rfl, fun b w hH hb => AD rfl rfl (AL Ai rfl) (hH.row 0 rfl) hb⟩) (Ad (by intro r0_ r1_; exact ⟨rfl, fun b w hH hb => Br rfl rfl rfl (by decide) ((Int.tmod_eq_emod_of_nonneg hbi.1).trans hq0) hb⟩) (Ad (by intro r0_ r1_; exact ⟨rfl, fun b w hH hb => Ay rfl rfl rfl rfl (by rw [IntWalk.u64_in _ (by omega)]; exact hci) hb⟩) (Ad (by intro r0_ r1_; exact ⟨rfl, fun b w hH hb => Ah Ab rfl hb⟩) (Ad (by intro r0_ r1_; exact ⟨rfl, fun b w hH hb => AD rfl rfl (AL Ai rfl) (hH.row 0 rfl) hb⟩) (Ad (by intro r0_ r1_; exact ⟨rfl, fun b w hH hb => Br rfl rfl rfl (by decide) ((Int.tmod_eq_emod_of_nonneg hbt.1).trans hq1) hb⟩) (Ad (by intro r0_ r1_; exact ⟨rfl, fun b w hH hb => Ay rfl rfl rfl rfl (by rw [IntWalk.u64_in _ (by omega)]; exact hct) hb⟩) (Ad (by intro r0_ r1_; exact ⟨rfl, fun b w hH hb => Ah Ab rfl hb⟩) (Ad (by intro r0_ r1_; exact ⟨rfl, fun b w hH hb => AD rfl rfl (AL AB rfl) (hH.row 0 rfl) hb⟩) ?_)))))))))
  refine Ad (by exact ⟨rfl, AZ.su (AH (Aj Try.func19 (by kernel_rfl) rfl) (fun w hH => pick w bc 127 hbc (by decide) hcc) rfl rfl rfl) rfl⟩) (Ad (by intro v0_ r1_; exact ⟨rfl, fun b w hH hb => Ay rfl rfl rfl rfl (by rw [IntWalk.i64_in _ (by omega)]) hb⟩) (Ad (by intro v0_ r1_; exact ⟨rfl, fun b w hH hb => Ay rfl rfl rfl rfl (by rw [IntWalk.i64_in _ (by omega)]) hb⟩) (Ad (by intro v0_; exact ⟨rfl, AZ.su (AH (Aj Try.func9 (by kernel_rfl) rfl) (fun w hH => J4 w ci ct (2 * (1 + cc))) rfl rfl rfl) rfl⟩) ?_)))
  exact Bx
  intro v0_ v1_
  refine BM.keep (env' := [(1, v0), (2, v1), (3, .pointer (some ⟨g3, 0, none⟩)), (6, .bool false), (24, .agg #[.int .u64 ci, .int .u64 ct, .int .i64 (2 * (1 + cc))])]) ⟨rfl, rfl, rfl, rfl, rfl, trivial⟩ (Ag Ab rfl (A5 (post := fun _ => [cell g3 28 #[.int .u64 ci, .int .u64 ct, .int .i64 (2 * (1 + cc))], X]) rfl rfl (AP 0 (v := .agg #[.int .u64 ci, .int .u64 ct, .int .i64 (2 * (1 + cc))]) #[.int .u64 ci, .int .u64 ct, .int .i64 (2 * (1 + cc))] Au.2 rfl rfl rfl rfl rfl rfl rfl rfl rfl) ?_)); rintro ⟨⟩
  refine AE (AJ (Af (Ag Ab rfl (Ac rfl (.int .u64 ci) (fun b w hb hH => AD rfl rfl (AL Ai rfl) (hH.row 0 rfl) hb) (Ag Ab rfl (Ac rfl (.int .u64 ct) (fun b w hb hH => AD rfl rfl (AL Ai rfl) (hH.row 0 rfl) hb) (Ag Ab rfl (Al (post := fun hn9 => [BQ hn9 en, cell g3 28 #[.int .u64 ci, .int .u64 ct, .int .i64 (2 * (1 + cc))], X]) rfl (CC (os' := fun hn9 => [BQ hn9 en, cell g3 28 #[.int .u64 ci, .int .u64 ct, .int .i64 (2 * (1 + cc))], X]) [] 0 (Aj Try.func20 (by kernel_rfl) rfl) (fun w hH => Sp w l0 v0 (hH.rdEs 1 rfl hX0) ho0 ci ct 8 (by omega) (by omega) (by decide) en hen) rfl rfl rfl (fun _ => rfl) rfl rfl rfl) ?_)))))))); rintro hn9
  refine Ag Ab rfl (Ae (Bo 0 rfl BQ.openE (fun _ => rfl) ?_)); rintro ⟨⟨A0, c0, L0⟩, hv0, hL0, hc0⟩
  have hv0 : hn9 = .slice A0 L0.length c0 := hv0
  have hL0 : L0.map (·.e) = en := hL0
  have hc0 : L0.length ≤ c0 := hc0
  have hl0 : L0.length = en.length := by rw [← hL0, List.length_map]
  subst hv0
  refine AY.keep (env' := [(2, v1), (3, .pointer (some ⟨g3, 0, none⟩)), (6, .bool false), (24, .agg #[.int .u64 ci, .int .u64 ct, .int .i64 (2 * (1 + cc))]), (25, .pointer (some ⟨g3, 0, none⟩)), (26, .int .u64 ci), (27, .pointer (some ⟨g3, 1, none⟩)), (28, .int .u64 ct), (29, v0), (30, .slice A0 L0.length c0), (1, .slice A0 L0.length c0)]) ⟨rfl, rfl, rfl, rfl, rfl, rfl, rfl, rfl, rfl, rfl, rfl, trivial⟩ (AY.mid [CW A0 c0 L0, cell g3 28 #[.int .u64 ci, .int .u64 ct, .int .i64 (2 * (1 + cc))], X] (.refl _) ?_)
  have hd0 := Ji (by rw [hL0, ← hen])
  refine Ax (Ep 2 rfl ?_)
  refine Bi 8 2 [⟨.quiet, [none, none], fun _ => .agg #[.int .u64 ci, .int .u64 ct, .int .i64 (2 * (1 + cc))], []⟩, ⟨.quiet, [none, none], fun _ => .slice A0 L0.length c0, []⟩, ⟨.act 0, [some false, some false], fun _ => undef, [1]⟩, ⟨.act 1, [some true, some false], fun _ => undef, [0, 2]⟩, ⟨.quiet, [some true, some true], fun ρ => match ρ with | [_, some nv] => nv | _ => undef, [3]⟩, ⟨.quiet, [some true, some true], fun ρ => match ρ with | [_, some nv] => (Qd nv 0) | _ => undef, [4]⟩, ⟨.quiet, [some true, some true], fun ρ => match ρ with | [_, some nv] => (Qd nv 1) | _ => undef, [4]⟩, ⟨.quiet, [some true, some true], fun ρ => match ρ with | [_, some nv] => (Qd nv 0) | _ => undef, [5]⟩] [(2, v1), (3, .pointer (some ⟨g3, 0, none⟩)), (6, .bool false), (1, .slice A0 L0.length c0)] (fun ρ => match ρ with | [rq0, rq1] => [Ct rq1 (fun nv => Ct rq0 (fun cp => BQ cp en) (Dw)) (Dw), Ct rq1 (fun nv => Vw nv ci ct (2 * (1 + cc)) en) (Ct rq0 (fun cp => BQ cp en) (Dw)), CW A0 c0 L0, cell g3 28 #[.int .u64 ci, .int .u64 ct, .int .i64 (2 * (1 + cc))], X] | _ => []) (by kernel_rfl) (by kernel_rfl) ⟨rfl, rfl, rfl, rfl, trivial⟩ rfl ?_ ?_
  refine Ad (by intro r0_ r1_; exact ⟨rfl, fun b w hH hb => AD rfl rfl (Dd (cs := [.int .u64 ci, .int .u64 ct, .int .i64 (2 * (1 + cc))]) Au rfl) (hH.row 3 rfl) hb⟩) (Ad (by intro r0_ r1_; exact ⟨rfl, fun b w hH hb => Ah Ab rfl hb⟩) (Ad (by exact ⟨rfl, AZ.s (CC (os' := fun cp => [Dw, BQ cp en, CW A0 c0 L0, cell g3 28 #[.int .u64 ci, .int .u64 ct, .int .i64 (2 * (1 + cc))], X]) [1] 1 (Aj Try.func21 (by kernel_rfl) rfl) (fun w hH => Mu w (.slice A0 L0.length c0) L0 (hH.rdEs 2 rfl DI) (by omega) hd0 en hL0) rfl rfl rfl (fun _ => rfl) rfl rfl rfl) (fun _ => rfl)⟩) (Ad (by intro cp; exact ⟨rfl, AZ.s (Ao (os' := fun nv => [BQ cp en, Vw nv ci ct (2 * (1 + cc)) en, CW A0 c0 L0, cell g3 28 #[.int .u64 ci, .int .u64 ct, .int .i64 (2 * (1 + cc))], X]) [1, 0] 1 (Aj Try.func8 (by kernel_rfl) rfl) (WJ ci ct (2 * (1 + cc)) (by omega) (by omega) (by omega) cp en (WK hd0 hL0) (by omega) hbq hI.hf) rfl rfl rfl (fun _ => rfl) rfl rfl rfl) (fun _ => rfl)⟩) (Ad (by intro cp nv; exact ⟨rfl, fun b w hH hb => Ah Ab rfl hb⟩) (Ad (by intro cp nv; exact ⟨rfl, fun b w hH hb => WI 1 (by decide) rfl rfl rfl hH hb⟩) (Ad (by intro cp nv; exact ⟨rfl, fun b w hH hb => WI 1 (by decide) rfl rfl rfl hH hb⟩) (Ad (by intro cp nv; exact ⟨rfl, fun b w hH hb => Ah Ab rfl hb⟩) ?_)))))))
  exact Bx
  intro cp nv
  refine BM.keep (env' := [(2, v1), (3, .pointer (some ⟨g3, 0, none⟩)), (6, .bool false), (1, .slice A0 L0.length c0), (37, (Qd nv 1)), (7, (Qd nv 0))]) ⟨rfl, rfl, rfl, rfl, rfl, rfl, trivial⟩ (Ag Ab rfl (AE (AJ (Bo 1 rfl Vw.open_ (fun _ => rfl) ?_)))); rintro ⟨g, hnv⟩
  have hnv : nv = .tuple #[.pointer (some ⟨g, 0, none⟩), .int .i64 0] := hnv
  subst hnv
  refine AY.keep (env' := [(2, v1), (3, .pointer (some ⟨g3, 0, none⟩)), (6, .bool false), (1, .slice A0 L0.length c0), (37, .int .i64 0), (7, .pointer (some ⟨g, 0, none⟩)), (8, .int .i64 0)]) ⟨rfl, rfl, rfl, rfl, rfl, rfl, rfl, trivial⟩ (AY.mid [Av g ci ct (2 * (1 + cc)) en, BQ cp en, CW A0 c0 L0, cell g3 28 #[.int .u64 ci, .int .u64 ct, .int .i64 (2 * (1 + cc))], X] (.refl _) (Af (Ag Ab rfl (Ac rfl (.agg #[.int .u64 ci, .int .u64 ct, .int .i64 (2 * (1 + cc))]) (fun b w hb hH => AD rfl rfl (Dd (cs := [.int .u64 ci, .int .u64 ct, .int .i64 (2 * (1 + cc))]) Au rfl) (hH.row 3 rfl) hb) (Ag Ab rfl (Al rfl (Ao (os' := fun gq => [CW A0 c0 L0, Av g ci ct (2 * (1 + cc)) en, BQ cp en, BG gq ci ct (2 * (1 + cc)) en, cell g3 28 #[.int .u64 ci, .int .u64 ct, .int .i64 (2 * (1 + cc))], X]) [2] 0 (Aj Try.func22 (by kernel_rfl) rfl) (Ty ci ct (2 * (1 + cc)) (by omega) (by omega) (by omega) (CW A0 c0 L0) A0 c0 L0 DI hd0 (by omega) en hL0 hbq hI.hf) rfl rfl rfl (fun _ => rfl) rfl rfl rfl) ?_)))))); rintro gq
  refine Ag Ab rfl (Ae (Ax (Af (Ag Ab rfl (Al (post := fun _ => [CW A0 c0 L0, Av g ci ct (2 * (1 + cc)) en, BQ cp en, BG gq ci ct (2 * (1 + cc)) en, cell g3 28 #[.int .u64 ci, .int .u64 ct, .int .i64 (2 * (1 + cc))], X]) rfl (AH (Aj Try.func11 (by kernel_rfl) rfl) (fun w hH => Run.known_calls w) rfl rfl rfl) ?_))))); rintro ⟨⟩
  refine Ag Ab rfl (Ac rfl (.bool false) (fun b w hb hH => AI rfl rfl rfl (BB (by omega)) hb) (Ag Ab rfl (Ac rfl (.bool false) (fun b w hb hH => GH (by kernel_rfl) rfl rfl rfl hb) (Ag Ab rfl (Ac rfl (.bool false) (fun b w hb hH => GH (by kernel_rfl) rfl rfl rfl hb) (Ag Ab rfl (Ae (Az rfl (AK (AJ (Ax (Af (Ag Ab rfl (Ae (AN ?_)))))))))))))))
  refine Be [5] rfl Vz rfl (Be [2, 4] rfl (Da (n := 8 + 6 * 0) hI (by omega) (by omega)) rfl (Cw (α := Nat) (fun i => [(2, v1), (6, .bool false), (7, .pointer (some ⟨g, 0, none⟩)), (9, .pointer (some ⟨gq, 0, none⟩)), (10, .int .i64 (i : Int))]) (fun i => [J5 g gq (8 + 6 * i), X, CW A0 c0 L0, BQ cp en, cell g3 28 #[.int .u64 ci, .int .u64 ct, .int .i64 (2 * (1 + cc))]]) (fun i => i ≤ l1.length ∧ i ≤ 80) (fun i => l1.length - i) 0 ⟨Nat.zero_le _, Nat.zero_le _⟩ ⟨rfl, rfl, rfl, rfl, rfl, trivial⟩ rfl ?_))
  rintro i hJ
  refine AY.at_ (env' := [(2, v1), (6, .bool false), (7, .pointer (some ⟨g, 0, none⟩)), (9, .pointer (some ⟨gq, 0, none⟩)), (10, .int .i64 (i : Int))]) (rs' := [J5 g gq (8 + 6 * i), X, CW A0 c0 L0, BQ cp en, cell g3 28 #[.int .u64 ci, .int .u64 ct, .int .i64 (2 * (1 + cc))]]) ⟨rfl, rfl, rfl, rfl, rfl, trivial⟩ rfl ?_
  have hJ1 : i ≤ l1.length := hJ.1
  have hJ2 : i ≤ 80 := hJ.2
  refine Ax ?_
  rcases (show (i < l1.length ∧ i < 80) ∨ (i < l1.length ∧ 80 ≤ i) ∨ l1.length ≤ i by omega) with ⟨hn, hn2⟩ | ⟨hn, hn2⟩ | hn
  obtain ⟨y, hy⟩ : ∃ y, l1[i]? = some y := ⟨_, List.getElem?_eq_getElem hn⟩
  have hmy := List.mem_of_getElem? hy
  have hoy := ho1 y hmy
  refine Bo 0 rfl J5.open_ (fun _ => rfl) ?_; rintro ⟨⟨bi, bt, bc, es⟩, hSt⟩
  have hSt : OkS (8 + 6 * i) ⟨bi, bt, bc, es⟩ := hSt
  have hes9 : es.length ≤ 8 + 6 * i := hSt.le
  refine Af (Ag Ab rfl (Ac rfl (.int .i64 (l1.length : Int)) (fun b w hb hH => A8 ((hH.rd 2 rfl hXs)) Try.underlying53 rfl rfl hb) (Ac rfl (.bool true) (fun b w hb hH => AI rfl rfl rfl (Bc (by omega)) hb) (Ag Ab rfl (Ac rfl (.bool true) (fun b w hb hH => AI rfl rfl rfl (Bc (by omega)) hb) (Ag Ab rfl (Ae (AC rfl (AK (AJ (Ax (AN (Af (Ag Ab rfl (Ac rfl (AW v1 (i * 9)) (fun b w hb hH => Bw SB ((hH.rd 2 rfl hXs)) Ea (j := i) hy rfl rfl rfl hb) ?_)))))))))))))))
  refine Ac rfl (.agg (encSt y).toArray) (fun b w hb hH => DF SB (by decide) ((hH.rd 2 rfl hXs)) (j := i) hy D9 rfl rfl hb) (Al rfl (Ao (os' := fun _ => [J5 g gq (es.length + 6), X, Dw, CW A0 c0 L0, BQ cp en, cell g3 28 #[.int .u64 ci, .int .u64 ct, .int .i64 (2 * (1 + cc))]]) [0, 1, 2] 0 (Aj Try.func24 (by kernel_rfl) rfl) (TG g gq bi bt bc hSt.bc es hSt.inv (by omega) X y.A y.c y.l (hXe y hmy) hoy.ok hoy.hd hoy.cap y.what y.x1 y.x2 y.b1 y.b2 y.b3 y.off y.nr hoy.what hoy.x1 hoy.x2 hoy.b1 hoy.b2 hoy.b3 hoy.off) rfl rfl rfl (fun _ => rfl) rfl rfl rfl) ?_); rintro ⟨⟩
  refine BM.leave [2] rfl rfl (M5 0 rfl J5.open_ (fun _ => rfl) ?_); rintro ⟨⟨b0, b1, b2, e2⟩, hSu⟩
  have hSu : OkS (es.length + 6) ⟨b0, b1, b2, e2⟩ := hSu
  have he29 : e2.length ≤ es.length + 6 := hSu.le
  refine Ag Ab rfl (Ac rfl (AW v1 (i * 9)) (fun b w hb hH => Bw SB ((hH.rd 2 rfl hXs)) Ea (j := i) hy rfl rfl rfl hb) (Ac rfl (.agg (encSt y).toArray) (fun b w hb hH => DF SB (by decide) ((hH.rd 2 rfl hXs)) (j := i) hy D9 rfl rfl hb) (Al rfl (Ao (os' := fun _ => [Av g b0 b1 b2 e2, BG gq b0 b1 b2 e2, X, CW A0 c0 L0, BQ cp en, cell g3 28 #[.int .u64 ci, .int .u64 ct, .int .i64 (2 * (1 + cc))]]) [0, 1] 0 (Aj Try.func23 (by kernel_rfl) rfl) (Sq g gq b0 b1 b2 hSu.bc e2 hSu.inv (by omega) y.what y.x1 y.x2 hoy.x1 hoy.x2 y.A y.l.length y.c y.b1 y.b2 y.b3 y.nr y.off hoy.off) rfl rfl rfl (fun _ => rfl) rfl rfl rfl) ?_))); rintro ⟨⟩
  refine Cz [0, 1] rfl (Da (n := 8 + 6 * (i + 1)) hSu.inv hSu.bc (by omega)) rfl (Ag Ab rfl (Ae (Az rfl (AK (AU (AJ (AR (Ag Ab rfl (Ac rfl (.int .i64 ((i + 1 : Nat) : Int)) (fun b w hb hH => Ay rfl rfl rfl rfl (by rw [IntWalk.i64_in _ (by omega)]; omega) hb) (Ag Ab rfl (AE ?_)))))))))))
  exact BS (i + 1) 0 ⟨hn, hn2⟩ (show l1.length - (i + 1) < l1.length - i by omega) ⟨rfl, rfl, rfl, rfl, rfl, trivial⟩ rfl
  refine Af (Ag Ab rfl (Ac rfl (.int .i64 (l1.length : Int)) (fun b w hb hH => A8 ((hH.rd 1 rfl hXs)) Try.underlying53 rfl rfl hb) (Ac rfl (.bool true) (fun b w hb hH => AI rfl rfl rfl (Bc (by omega)) hb) (Ag Ab rfl (Ac rfl (.bool false) (fun b w hb hH => AI rfl rfl rfl (Bf (by omega)) hb) (Ag Ab rfl (Ae (Az rfl (B6 (ES (ES (AQ (AJ (Af (Ag Ab rfl (Ae (Aw ?_)))))))))))))))))
  exact Ar (.tmp rfl) (fun w h => AG () rfl [1] rfl h CV) rfl
  refine Af (Ag Ab rfl (Ac rfl (.int .i64 (l1.length : Int)) (fun b w hb hH => A8 ((hH.rd 1 rfl hXs)) Try.underlying53 rfl rfl hb) (Ac rfl (.bool false) (fun b w hb hH => AI rfl rfl rfl (Bf (by omega)) hb) (Ag Ab rfl (Ae (Az rfl (B6 (ES (ES (AQ (AJ (Af (Ag Ab rfl (Ae (Aw ?_)))))))))))))))
  exact Ar (.tmp rfl) (fun w h => AG () rfl [1] rfl h CV) rfl
end Go.Proofs.Ytnebloeideodmaa.Sep
