/-
  CmdR · CmdL · CmdO · CmdP · CmdQ · CmdE · CmdF · CmdG · CmdN · CmdI · Crc · Sum · Seal · RefSum · RefText · Reader · Mk · RpcM · RpcN
-/
import Derived.Test.YtjcfimmcogkopaaGreatYA06
import Derived.Test.YtjcfimmcogkopaaGreatYA07
import Derived.Test.YtjcfimmcogkopaaGreatYB01
import Derived.Test.YtjcfimmcogkopaaGreatYB02
import Derived.Lib.SmallJoins
import Derived.ChangeMaps5
import Derived.SizedLaws
import Derived.Deep.QuietTactic
import Derived.BigQuiet
import Derived.Deep.RegionHeld3
set_option linter.unusedSimpArgs false
set_option linter.unusedVariables false
set_option maxRecDepth 100000
namespace Go.Proofs.YtjcfimmcogkopaaGreat.Sep
open Go.RowKit
open Go.Proofs.YtjcfimmcogkopaaGreat.Mem (AZ Ci Chg Au)
theorem Pe {most f : Nat} {l : List UInt8} (h : f ≠ 0) : Ba most l f = (0, l, f) := NC h
theorem RE {most f : Nat} {l : List UInt8} (hf : f = 0) (h : l.length = 0) : Ba most l f = (0, l, 10) := by
 subst hf
 rw [List.eq_nil_of_length_eq_zero h]; rfl
theorem RF {most f : Nat} {l : List UInt8} {x : UInt8} (hf : f = 0) (hx : l[0]? = some x) (h : most < x.toNat) : Ba most l f = (0, l, 12) := by
  subst hf
  cases l with
  | nil => simp at hx
  | cons b r =>
    simp only [List.getElem?_cons_zero, Option.some.injEq] at hx
    subst hx
    simp only [Ba]
    rw [if_neg (by simp), if_pos h]
theorem Pf {most f : Nat} {l : List UInt8} {x : UInt8} (hf : f = 0) (hx : l[0]? = some x) (h : ¬ most < x.toNat) : Ba most l f = (x.toNat, l.drop 1, f) := by
  subst hf
  cases l with
  | nil => simp at hx
  | cons b r =>
    simp only [List.getElem?_cons_zero, Option.some.injEq] at hx
    subst hx
    simp only [Ba]
    rw [if_neg (by simp), if_neg h]; rfl
theorem QF (most : Nat) (l : List UInt8) : (BC most l 0 0).2.1 ≤ l.length := by
 rcases FC most l 0 0 (by omega) (by decide) with h | h <;> omega
theorem QG (most : Nat) (l : List UInt8) (f : Nat) : ∃ (x : UInt8) (l1 : List UInt8) (f1 : Nat), Ba most l f = (x.toNat, l1, f1) := by
 have h := Iy most l f
 obtain ⟨⟨n, l1, f1⟩, e⟩ : ∃ R, Ba most l f = R := ⟨_, rfl⟩
 rw [e] at h
 exact ⟨UInt8.ofNat n, l1, f1, by rw [e, Iz n h]⟩
section
variable {P : Program} {n : Nat} {B : Nat → Prop} {w0 w : World} {os : List Ass} {env : List (Nat × Value)} {o : Oper} {a : Act}
end
theorem S4 (u : World) (v : Value) (l : List UInt8) (hv : D6 u v l) (hl : l.length ≤ 140737488355328) : EO u Tryz.prog 92 #[v] [] (fun (g : Nat) => .pointer (some ⟨g, 0, none⟩)) (fun (g : Nat) => [DY g l 0]) := by
 refine Mv (args := [v]) 7 Tryz.func92 rfl rfl rfl ?_; intro w rs hU hS
 refine Ad (Af An rfl (Ab (Ad (Af An rfl (Aj (post := fun v2 => [Ap 5 1 encB v2 l]) rfl (JW hU hS (os' := fun v2 => [Ap 5 1 encB v2 l]) [] 0 (Ag Tryz.func64 (by kernel_rfl) rfl) (UC u hv hl) rfl rfl rfl (fun _ => rfl) rfl rfl rfl) ?_))))); rintro v2
 refine Ce.fact 0 rfl (fun _ h => Ap.is h) ?_; rintro ⟨A, c, rfl⟩
 refine Ac rfl (.agg #[.slice A l.length c, .int .i64 0]) (fun b w hb hH => Bh rfl rfl (by kernel_rfl) hb) (Aj (post := fun g1 => [cell g1 138 #[.slice A l.length c, .int .i64 0], Ap 5 1 encB (.slice A l.length c) l]) rfl (CU (cs := #[.slice A l.length c, .int .i64 0]) rfl rfl rfl) ?_); rintro g1
 refine Af An rfl (Ab (Av ?_))
 exact As (.tmp rfl) (fun w h => AG g1 rfl [0, 1] rfl h (fun z hz => ⟨z, .refl _, Ak.one (DY.mk_ rfl Db hl z hz)⟩)) rfl
theorem QH (g : Nat) (l : List UInt8) (f most : Nat) (hm : most < 256) (R : Nat × List UInt8 × Nat) (h : Ba most l f = R) : AW Tryz.prog 94 #[.pointer (some ⟨g, 0, none⟩), .int .u8 (most : Int)] [DY g l f] (fun (_ : Unit) => .int .u8 (R.1 : Int)) (fun (_ : Unit) => [DY g R.2.1 R.2.2]) := by
  refine Be (args := [.pointer (some ⟨g, 0, none⟩), .int .u8 (most : Int)]) 41 Tryz.func94 rfl rfl rfl ?_; intro w rs
  refine Bd 0 rfl DY.open_ (fun _ => rfl) ?_; rintro ⟨⟨X, A, c⟩, hR, hL⟩
  refine Bv.keep (env' := [(0, .pointer (some ⟨g, 0, none⟩)), (1, .int .u8 (most : Int))]) ⟨rfl, rfl, trivial⟩ (Bv.mid [cell g 138 #[.slice A l.length c, .int .i64 (f : Int)], X] (.refl _) (Ad (Af An rfl (Ab (Aq ?_)))))
  by_cases hf : f = 0
  refine Ad (Af An rfl (Ac rfl (.pointer (some ⟨g, 0, none⟩)) (fun b w hb hH => by exact BQ rfl rfl hb) (Af An rfl (Ac rfl (.int .i64 (f : Int)) (fun b w hb hH => Bb rfl rfl (Bn BJ rfl) (hH.row 0 rfl) hb) (Ac rfl (.bool false) (fun b w hb hH => Bc rfl rfl rfl (AK (by omega)) hb) (Ab (Aw rfl (AC (AO (Aq ?_))))))))))
  rcases Nat.eq_zero_or_pos l.length with h0 | h0
  obtain rfl : R = (0, l, 10) := h.symm.trans (RE hf h0)
  refine Ad (Af An rfl (Ac rfl (.pointer (some ⟨g, 0, none⟩)) (fun b w hb hH => by exact BQ rfl rfl hb) (Af An rfl (Ac rfl (.slice A l.length c) (fun b w hb hH => Bb rfl rfl (Bn Cy rfl) (hH.row 0 rfl) hb) (Ac rfl (.int .i64 (l.length : Int)) (fun b w hb hH => Gp AE rfl rfl hH hb) (Ac rfl (.bool true) (fun b w hb hH => Bc rfl rfl rfl (JV (by omega)) hb) (Ab (AI rfl (Ad (Af An rfl (Ac rfl (.pointer (some ⟨g, 0, none⟩)) (fun b w hb hH => by exact BQ rfl rfl hb) ?_)))))))))))
  refine Af An rfl (AU (post := fun _ => [cell g 138 #[.slice A l.length c, .int .i64 10], X]) rfl rfl (AQ 0 (v := .int .i64 10) #[.slice A l.length c, .int .i64 10] BJ.2 rfl rfl rfl rfl rfl rfl rfl rfl rfl) ?_); rintro ⟨⟩
  refine Ab (Ad (Af An rfl (Ab (Av (C0 ?_)))))
  exact As (.tmp rfl) (fun w h => AG () rfl [0, 1] rfl h (fun z hz => ⟨z, .refl _, Ak.one (DY.mk_ rfl hR hL z hz)⟩)) rfl
  obtain ⟨x, hx⟩ : ∃ x, l[0]? = some x := ⟨_, List.getElem?_eq_getElem h0⟩
  refine Ad (Af An rfl (Ac rfl (.pointer (some ⟨g, 0, none⟩)) (fun b w hb hH => by exact BQ rfl rfl hb) (Af An rfl (Ac rfl (.slice A l.length c) (fun b w hb hH => Bb rfl rfl (Bn Cy rfl) (hH.row 0 rfl) hb) (Ac rfl (.int .i64 (l.length : Int)) (fun b w hb hH => Gp AE rfl rfl hH hb) (Ac rfl (.bool false) (fun b w hb hH => Bc rfl rfl rfl (JR (by omega)) hb) (Ab (Aw rfl (AC (AO (Ad (Af An rfl (Ac rfl (.pointer (some ⟨g, 0, none⟩)) (fun b w hb hH => by exact BQ rfl rfl hb) ?_)))))))))))))
  refine Af An rfl (Ac rfl (.slice A l.length c) (fun b w hb hH => Bb rfl rfl (Bn Cy rfl) (hH.row 0 rfl) hb) (Ac rfl (SM (.slice A l.length c) (0 * 1)) (fun b w hb hH => VK 1 hR.rd AE rfl 0 h0 rfl rfl rfl hH hb) (Ac rfl (.int .u8 ((x).toNat : Int)) (fun b w hb hH => SN 1 hR.rd B0 EK rfl 0 (a := x) hx rfl rfl rfl hH hb) (Af An rfl (Ab (Aq ?_))))))
  by_cases hb : most < x.toNat
  obtain rfl : R = (0, l, 12) := h.symm.trans (RF hf hx hb)
  refine Ad (Af An rfl (Ac rfl (.bool true) (fun b w hb hH => Bc rfl rfl rfl (B4 (by omega)) hb) (Ab (AI rfl (Ad (Af An rfl (Ac rfl (.pointer (some ⟨g, 0, none⟩)) (fun b w hb hH => by exact BQ rfl rfl hb) (Af An rfl (AU (post := fun _ => [cell g 138 #[.slice A l.length c, .int .i64 12], X]) rfl rfl (AQ 0 (v := .int .i64 12) #[.slice A l.length c, .int .i64 12] BJ.2 rfl rfl rfl rfl rfl rfl rfl rfl rfl) ?_))))))))); rintro ⟨⟩
  refine Ab (Ad (Af An rfl (Ab (Av (C0 ?_)))))
  exact As (.tmp rfl) (fun w h => AG () rfl [0, 1] rfl h (fun z hz => ⟨z, .refl _, Ak.one (DY.mk_ rfl hR hL z hz)⟩)) rfl
  obtain ⟨A2, hA2⟩ : ∃ A2, (if c = 1 then A else A.map (·.add 1)) = A2 := ⟨_, rfl⟩
  obtain ⟨l2, hl2⟩ : ∃ l2, l.drop 1 = l2 := ⟨_, rfl⟩
  have hR2 : Cu X (.slice A2 l2.length (c - 1)) l2 := by rw [← hA2, ← hl2]; exact hR.drop (by omega)
  have hn2 : l2.length = l.length - 1 := by rw [← hl2, List.length_drop]
  have hL2 : l2.length ≤ 140737488355328 := by omega
  have hsub : Cp 1 (.slice A l.length c) 1 l.length = .slice A2 l2.length (c - 1) := by rw [← hA2]; exact Kt (by omega) (by omega)
  obtain rfl : R = (x.toNat, l2, f) := by rw [← h, ← hl2]; exact Pf hf hx hb
  refine Ad (Af An rfl (Ac rfl (.bool false) (fun b w hb hH => Bc rfl rfl rfl (BE (by omega)) hb) (Ab (Aw rfl (AC (AO (Ad (Af An rfl (Ac rfl (.pointer (some ⟨g, 0, none⟩)) (fun b w hb hH => by exact BQ rfl rfl hb) (Af An rfl (Ac rfl (.slice A l.length c) (fun b w hb hH => Bb rfl rfl (Bn Cy rfl) (hH.row 0 rfl) hb) (Ac rfl (.slice A2 l2.length (c - 1)) (fun b w hb hH => FB (i := 1) AE hsub h0 rfl rfl rfl hH hb) (Ac rfl (.pointer (some ⟨g, 0, none⟩)) (fun b w hb hH => by exact BQ rfl rfl hb) ?_)))))))))))))
  refine Af An rfl (AU (post := fun _ => [cell g 138 #[.slice A2 l2.length (c - 1), .int .i64 (f : Int)], X]) rfl rfl (AQ 0 (v := .slice A2 l2.length (c - 1)) #[.slice A2 l2.length (c - 1), .int .i64 (f : Int)] Cy.2 rfl rfl rfl rfl rfl rfl rfl rfl rfl) ?_); rintro ⟨⟩
  refine Ab (Ad (Af An rfl (Ab (Av ?_))))
  exact As (.tmp rfl) (fun w h => AG () rfl [0, 1] rfl h (fun z hz => ⟨z, .refl _, Ak.one (DY.mk_ rfl hR2 hL2 z hz)⟩)) rfl
  obtain rfl : R = (0, l, f) := h.symm.trans (Pe hf)
  refine Ad (Af An rfl (Ac rfl (.pointer (some ⟨g, 0, none⟩)) (fun b w hb hH => by exact BQ rfl rfl hb) (Af An rfl (Ac rfl (.int .i64 (f : Int)) (fun b w hb hH => Bb rfl rfl (Bn BJ rfl) (hH.row 0 rfl) hb) (Ac rfl (.bool true) (fun b w hb hH => Bc rfl rfl rfl (BO (by omega)) hb) (Ab (AI rfl (Ad (Af An rfl (Ab (Av (C0 ?_))))))))))))
  exact As (.tmp rfl) (fun w h => AG () rfl [0, 1] rfl h (fun z hz => ⟨z, .refl _, Ak.one (DY.mk_ rfl hR hL z hz)⟩)) rfl
theorem MF (g : Nat) (l : List UInt8) (f most : Nat) (hm : most < 18446744073709551616) (R : Nat × List UInt8 × Nat) (h : BL most l f = R) : AW Tryz.prog 93 #[.pointer (some ⟨g, 0, none⟩), .int .u64 (most : Int)] [DY g l f] (fun (_ : Unit) => .int .u64 (R.1 : Int)) (fun (_ : Unit) => [DY g R.2.1 R.2.2]) := by
  refine Be (args := [.pointer (some ⟨g, 0, none⟩), .int .u64 (most : Int)]) 37 Tryz.func93 rfl rfl rfl ?_; intro w rs
  refine Bd 0 rfl DY.open_ (fun _ => rfl) ?_; rintro ⟨⟨X, A, c⟩, hR, hL⟩
  refine Bv.keep (env' := [(0, .pointer (some ⟨g, 0, none⟩)), (1, .int .u64 (most : Int))]) ⟨rfl, rfl, trivial⟩ (Bv.mid [cell g 138 #[.slice A l.length c, .int .i64 (f : Int)], X] (.refl _) (Ad (Af An rfl (Ab (Aq ?_)))))
  by_cases hf : f = 0
  have hz := QF most l
  obtain ⟨⟨n, sz, e2⟩, hv⟩ : ∃ R, BC most l 0 0 = R := ⟨_, rfl⟩
  rw [hv] at hz
  simp only at hz
  obtain ⟨A2, hA2⟩ : ∃ A2, (if c = sz then A else A.map (·.add sz)) = A2 := ⟨_, rfl⟩
  obtain ⟨l2, hl2⟩ : ∃ l2, l.drop sz = l2 := ⟨_, rfl⟩
  have hR2 : Cu X (.slice A2 l2.length (c - sz)) l2 := by rw [← hA2, ← hl2]; exact hR.drop (by omega)
  have hn2 : l2.length = l.length - sz := by rw [← hl2, List.length_drop]
  have hL2 : l2.length ≤ 140737488355328 := by omega
  have hsub : Cp 1 (.slice A l.length c) sz l.length = .slice A2 l2.length (c - sz) := by rw [← hA2]; exact Kt (by omega) (by omega)
  obtain rfl : R = (n, l2, e2) := by rw [← h, ← hl2]; unfold BL; rw [if_neg (by simp [hf]), hv]
  refine Ad (Af An rfl (Ac rfl (.pointer (some ⟨g, 0, none⟩)) (fun b w hb hH => by exact BQ rfl rfl hb) (Af An rfl (Ac rfl (.int .i64 (f : Int)) (fun b w hb hH => Bb rfl rfl (Bn BJ rfl) (hH.row 0 rfl) hb) (Ac rfl (.bool false) (fun b w hb hH => Bc rfl rfl rfl (AK (by omega)) hb) (Ab (Aw rfl (AC (AO (Ad (Af An rfl (Ac rfl (.pointer (some ⟨g, 0, none⟩)) (fun b w hb hH => by exact BQ rfl rfl hb) (Af An rfl ?_)))))))))))))
  refine Ac rfl (.slice A l.length c) (fun b w hb hH => Bb rfl rfl (Bn Cy rfl) (hH.row 0 rfl) hb) (Af An rfl (Aj (post := fun _ => [cell g 138 #[.slice A l.length c, .int .i64 (f : Int)], X]) rfl (Bg (Ag Tryz.func102 (by kernel_rfl) rfl) (fun w hH => QA (hH.rd8 1 rfl hR) hL most hm (n, sz, e2) hv) rfl rfl rfl) ?_)); rintro ⟨⟩
  refine Af An rfl (Ab (Ad (Af An rfl (Ac rfl (.pointer (some ⟨g, 0, none⟩)) (fun b w hb hH => by exact BQ rfl rfl hb) (Af An rfl (AU (post := fun _ => [cell g 138 #[.slice A l.length c, .int .i64 (e2 : Int)], X]) rfl rfl (AQ 0 (v := .int .i64 (e2 : Int)) #[.slice A l.length c, .int .i64 (e2 : Int)] BJ.2 rfl rfl rfl rfl rfl rfl rfl rfl rfl) ?_)))))); rintro ⟨⟩
  refine Ab (Ad (Af An rfl (Ac rfl (.pointer (some ⟨g, 0, none⟩)) (fun b w hb hH => by exact BQ rfl rfl hb) (Af An rfl (Ac rfl (.slice A l.length c) (fun b w hb hH => Bb rfl rfl (Bn Cy rfl) (hH.row 0 rfl) hb) (Af An rfl (Ac rfl (.slice A2 l2.length (c - sz)) (fun b w hb hH => FB (i := sz) AE hsub hz rfl rfl rfl hH hb) (Ac rfl (.pointer (some ⟨g, 0, none⟩)) (fun b w hb hH => by exact BQ rfl rfl hb) (Af An rfl (AU (post := fun _ => [cell g 138 #[.slice A2 l2.length (c - sz), .int .i64 (e2 : Int)], X]) rfl rfl (AQ 0 (v := .slice A2 l2.length (c - sz)) #[.slice A2 l2.length (c - sz), .int .i64 (e2 : Int)] Cy.2 rfl rfl rfl rfl rfl rfl rfl rfl rfl) ?_)))))))))); rintro ⟨⟩
  refine Ab (Ad (Af An rfl (Ab (Av ?_))))
  exact As (.tmp rfl) (fun w h => AG () rfl [0, 1] rfl h (fun z hz => ⟨z, .refl _, Ak.one (DY.mk_ rfl hR2 hL2 z hz)⟩)) rfl
  obtain rfl : R = (0, l, f) := h.symm.trans (O3 hf)
  refine Ad (Af An rfl (Ac rfl (.pointer (some ⟨g, 0, none⟩)) (fun b w hb hH => by exact BQ rfl rfl hb) (Af An rfl (Ac rfl (.int .i64 (f : Int)) (fun b w hb hH => Bb rfl rfl (Bn BJ rfl) (hH.row 0 rfl) hb) (Ac rfl (.bool true) (fun b w hb hH => Bc rfl rfl rfl (BO (by omega)) hb) (Ab (AI rfl (Ad (Af An rfl (Ab (Av (C0 ?_))))))))))))
  exact As (.tmp rfl) (fun w h => AG () rfl [0, 1] rfl h (fun z hz => ⟨z, .refl _, Ak.one (DY.mk_ rfl hR hL z hz)⟩)) rfl
theorem Pg (g : Nat) (l : List UInt8) (f r : Nat) (h : Dy l f = r) : AW Tryz.prog 96 #[.pointer (some ⟨g, 0, none⟩)] [DY g l f] (fun (_ : Unit) => .int .i64 (r : Int)) (fun (_ : Unit) => [DY g l f]) := by
 refine Be (args := [.pointer (some ⟨g, 0, none⟩)]) 20 Tryz.func96 rfl rfl rfl ?_; intro w rs
 refine Bd 0 rfl DY.open_ (fun _ => rfl) ?_; rintro ⟨⟨X, A, c⟩, hR, hL⟩
 refine Bv.keep (env' := [(0, .pointer (some ⟨g, 0, none⟩))]) ⟨rfl, trivial⟩ (Bv.mid [cell g 138 #[.slice A l.length c, .int .i64 (f : Int)], X] (.refl _) (Ad (Af An rfl (Ab (Aq ?_)))))
 have hc : (f = 0 ∧ 0 < l.length) ∨ (f = 0 ∧ ¬ 0 < l.length) ∨ f ≠ 0 := by omega
 rcases hc with ⟨hf, h0⟩ | ⟨hf, h0⟩ | hf
 obtain rfl : r = 11 := by rw [← h]; unfold Dy; rw [if_pos ⟨hf, h0⟩]
 refine Ad (Af An rfl (Ac rfl (.pointer (some ⟨g, 0, none⟩)) (fun b w hb hH => by exact BQ rfl rfl hb) (Af An rfl (Ac rfl (.int .i64 (f : Int)) (fun b w hb hH => Bb rfl rfl (Bn BJ rfl) (hH.row 0 rfl) hb) (Ac rfl (.bool true) (fun b w hb hH => Bc rfl rfl rfl (JV (by omega)) hb) (Af An rfl (Ac rfl (.pointer (some ⟨g, 0, none⟩)) (fun b w hb hH => by exact BQ rfl rfl hb) (Af An rfl (Ac rfl (.slice A l.length c) (fun b w hb hH => Bb rfl rfl (Bn Cy rfl) (hH.row 0 rfl) hb) ?_)))))))))
 refine Ac rfl (.int .i64 (l.length : Int)) (fun b w hb hH => Gp AE rfl rfl hH hb) (Ac rfl (.bool true) (fun b w hb hH => Bc rfl rfl rfl (B4 (by omega)) hb) (Af An rfl (Ab (AI rfl (Ad (Af An rfl (Ab (Av (C0 ?_)))))))))
 exact As (.tmp rfl) (fun w h => AG () rfl [0, 1] rfl h (fun z hz => ⟨z, .refl _, Ak.one (DY.mk_ rfl hR hL z hz)⟩)) rfl
 have hr : r = f := by rw [← h]; unfold Dy; rw [if_neg (fun hh => h0 hh.2)]
 refine Ad (Af An rfl (Ac rfl (.pointer (some ⟨g, 0, none⟩)) (fun b w hb hH => by exact BQ rfl rfl hb) (Af An rfl (Ac rfl (.int .i64 (f : Int)) (fun b w hb hH => Bb rfl rfl (Bn BJ rfl) (hH.row 0 rfl) hb) (Ac rfl (.bool true) (fun b w hb hH => Bc rfl rfl rfl (JV (by omega)) hb) (Af An rfl (Ac rfl (.pointer (some ⟨g, 0, none⟩)) (fun b w hb hH => by exact BQ rfl rfl hb) (Af An rfl (Ac rfl (.slice A l.length c) (fun b w hb hH => Bb rfl rfl (Bn Cy rfl) (hH.row 0 rfl) hb) ?_)))))))))
 refine Ac rfl (.int .i64 (l.length : Int)) (fun b w hb hH => Gp AE rfl rfl hH hb) (Ac rfl (.bool false) (fun b w hb hH => Bc rfl rfl rfl (BE (by omega)) hb) (Af An rfl (Ab (Aw rfl (AC (AO (Ad (Af An rfl (Ac rfl (.pointer (some ⟨g, 0, none⟩)) (fun b w hb hH => by exact BQ rfl rfl hb) (Af An rfl (Ac rfl (.int .i64 (f : Int)) (fun b w hb hH => Bb rfl rfl (Bn BJ rfl) (hH.row 0 rfl) hb) (Af An rfl (Ab (Av ?_))))))))))))))
 exact As (.tmp rfl) (fun w h => AG () (by rw [hr]) [0, 1] rfl h (fun z hz => ⟨z, .refl _, Ak.one (DY.mk_ rfl hR hL z hz)⟩)) rfl
 have hr : r = f := by rw [← h]; unfold Dy; rw [if_neg (fun hh => hf hh.1)]
 refine Ad (Af An rfl (Ac rfl (.pointer (some ⟨g, 0, none⟩)) (fun b w hb hH => by exact BQ rfl rfl hb) (Af An rfl (Ac rfl (.int .i64 (f : Int)) (fun b w hb hH => Bb rfl rfl (Bn BJ rfl) (hH.row 0 rfl) hb) (Ac rfl (.bool false) (fun b w hb hH => Bc rfl rfl rfl (JR (by omega)) hb) (Af An rfl (Ab (Aw rfl (AC (AO (Ad (Af An rfl (Ac rfl (.pointer (some ⟨g, 0, none⟩)) (fun b w hb hH => by exact BQ rfl rfl hb) ?_)))))))))))))
 refine Af An rfl (Ac rfl (.int .i64 (f : Int)) (fun b w hb hH => Bb rfl rfl (Bn BJ rfl) (hH.row 0 rfl) hb) (Af An rfl (Ab (Av ?_))))
 exact As (.tmp rfl) (fun w h => AG () (by rw [hr]) [0, 1] rfl h (fun z hz => ⟨z, .refl _, Ak.one (DY.mk_ rfl hR hL z hz)⟩)) rfl
end Go.Proofs.YtjcfimmcogkopaaGreat.Sep
namespace Go.Proofs.YtjcfimmcogkopaaGreat.Sep
open Go.RowKit
open Go.Proofs.YtjcfimmcogkopaaGreat.Mem (AZ Ci Chg Au)
end Go.Proofs.YtjcfimmcogkopaaGreat.Sep
namespace Go.Proofs.YtjcfimmcogkopaaGreat.Sep
open Go.ChangeShapes Go.WideShapes Go.ChangeAt Go.RowKit
section
variable {H : Type} {enc : TypeId × Value → H} {W : World} {base b0 : Nat} {r : Reach} {spare : Nat → Bool} {held : Bool} {v : Value} {d : DataW H} {p : List MemPlace}
end
end Go.Proofs.YtjcfimmcogkopaaGreat.Sep
namespace Go.Proofs.YtjcfimmcogkopaaGreat.Sep
open Go.RowKit
open Go.Proofs.YtjcfimmcogkopaaGreat.Mem (AZ Ci Chg Au)
end Go.Proofs.YtjcfimmcogkopaaGreat.Sep
namespace Go.Proofs.YtjcfimmcogkopaaGreat.Sep
open Go.RowKit
open Go.Proofs.YtjcfimmcogkopaaGreat.Mem (AZ Ci Chg Au)
end Go.Proofs.YtjcfimmcogkopaaGreat.Sep
namespace Go.Proofs.YtjcfimmcogkopaaGreat.Sep
open Go.RowKit
open Go.Proofs.YtjcfimmcogkopaaGreat.Mem (AZ Ci Chg Au)
end Go.Proofs.YtjcfimmcogkopaaGreat.Sep
namespace Go.Proofs.YtjcfimmcogkopaaGreat.Sep
open Go.RowKit
open Go.Proofs.YtjcfimmcogkopaaGreat.Mem (AZ Ci Chg Au)
end Go.Proofs.YtjcfimmcogkopaaGreat.Sep
namespace Go.Proofs.YtjcfimmcogkopaaGreat.Sep
open Go.RowKit
open Go.Proofs.YtjcfimmcogkopaaGreat.Mem (AZ Ci Chg Au)
structure RepD where
  code : Int
  val : Int
  hi : Int
  lo : Int
  sc : Int
deriving DecidableEq
structure RepD.ok (r : RepD) : Prop where
  code : Qv r.code
  val : M9 r.val
  hi : Qv r.hi
  lo : M9 r.lo
  sc : Qv r.sc
def RepD.right (r : RepD) : Bool := (decide (0 ≤ r.code) && decide (r.code ≤ 99)) && Xn r.sc
end Go.Proofs.YtjcfimmcogkopaaGreat.Sep
namespace Go.Proofs.YtjcfimmcogkopaaGreat.Sep
open Go.RowKit
open Go.Proofs.YtjcfimmcogkopaaGreat.Mem (AZ Ci Chg Au)
end Go.Proofs.YtjcfimmcogkopaaGreat.Sep
namespace Go.Proofs.YtjcfimmcogkopaaGreat.Sep
open Go.RowKit
open Go.Proofs.YtjcfimmcogkopaaGreat.Mem (AZ Ci Chg Au)
theorem pick (w : World) (a m : Int) (ha : -9223372036854775808 ≤ a ∧ a ≤ 9223372036854775807) (hm : 1 ≤ m ∧ m ≤ 9223372036854775807) {r : Int} (hr : a % m = r) : Calls Tryz.prog 8 #[.int .i64 a, .int .i64 m] w fun e w' => e = .returned (.int .i64 r) ∧ Below w.heap.size w w' := by
  have hlt := Int.emod_lt_of_pos a (show 0 < m by omega)
  have hge := Int.emod_nonneg a (show m ≠ 0 by omega)
  have ht : (0 ≤ a.tmod m ∧ a.tmod m = r) ∨ (a.tmod m < 0 ∧ a.tmod m + m = r) := by
    rw [Int.tmod_eq_emod, ← hr]
    split
    · left; omega
    · rename_i h
      right
      have hne : a % m ≠ 0 := fun e => h (.inr (Int.dvd_of_emod_eq_zero e))
      omega
  rw [hr] at hlt hge
  obtain ⟨t, htm⟩ : ∃ t, a.tmod m = t := ⟨_, rfl⟩
  rw [htm] at ht
  refine Fz (args := [.int .i64 a, .int .i64 m]) 14 Tryz.func8 rfl rfl rfl (Ad (Af An rfl (Ab (Ad (Af An rfl (Ac rfl (.int .i64 t) (fun b w hb hH => DT rfl rfl rfl (by omega) htm hb) (Af An rfl (Ab (Aq ?_)))))))))
  rcases ht with ⟨h1, h2⟩ | ⟨h1, h2⟩
  subst h2
  refine Ad (Af An rfl (Ac rfl (.bool false) (fun b w hb hH => Bc rfl rfl rfl (B9 (by omega)) hb) (Ab (Aw rfl (AC (AO (Ad (Af An rfl (Ab (Av ?_))))))))))
  exact As (.tmp rfl) (fun w h => ⟨rfl, Au h.up⟩) rfl
  refine Ad (Af An rfl (Ac rfl (.bool true) (fun b w hb hH => Bc rfl rfl rfl (BN (by omega)) hb) (Ab (AI rfl (BV (Af An rfl (Ac rfl (.int .i64 r) (fun b w hb hH => AS rfl rfl rfl rfl (by rw [IntWalk.i64_in _ (by omega)]; omega) hb) (Af An rfl (Bi (AO (Ad (Af An rfl (Ab (Av ?_))))))))))))))
  exact As (.tmp rfl) (fun w h => ⟨rfl, Au h.up⟩) rfl
end Go.Proofs.YtjcfimmcogkopaaGreat.Sep
namespace Go.Proofs.YtjcfimmcogkopaaGreat
open Go.RowKit
def QI : BitVec 32 := 2197175160#32
def H3 (h : BitVec 32) : BitVec 32 := (h >>> 1) ^^^ (if h.getLsbD 0 then QI else 0#32)
def Fl : Nat → BitVec 32 → BitVec 32
  | 0, h => h
  | n + 1, h => H3 (Fl n h)
def MG (h : BitVec 32) (c : UInt8) : BitVec 32 := Fl 8 (h ^^^ BitVec.ofNat 32 c.toNat)
def Ea (h : BitVec 32) (l : List UInt8) : BitVec 32 := l.foldl MG h
def BM (l : List UInt8) : Nat := (~~~ Ea (BitVec.allOnes 32) l).toNat
theorem LF (a : Nat) (ha : a < 4294967296) : BitVec.ofInt 32 (a : Int) = BitVec.ofNat 32 a := BitVec.ofInt_natCast ..
theorem J3 (a b : BitVec 32) : bits .xor .u32 (a.toNat : Int) (b.toNat : Int) = ((a ^^^ b).toNat : Int) := by
 show IntKind.u32.wrap ((BitVec.ofInt 32 (a.toNat : Int) ^^^ BitVec.ofInt 32 (b.toNat : Int)).toNat : Int) = _
 rw [BitVec.ofInt_natCast, BitVec.ofInt_natCast, BitVec.ofNat_toNat, BitVec.ofNat_toNat, BitVec.setWidth_eq, BitVec.setWidth_eq, IntKind.wrap_u32]
 have := (a ^^^ b).isLt
 omega
theorem GN (a : BitVec 32) : bits .and .u32 (a.toNat : Int) 1 = if a.getLsbD 0 then 1 else 0 := by
  show IntKind.u32.wrap ((BitVec.ofInt 32 (a.toNat : Int) &&& BitVec.ofInt 32 1).toNat : Int) = _
  have h1 : BitVec.ofInt 32 1 = 1#32 := by decide
  rw [BitVec.ofInt_natCast, BitVec.ofNat_toNat, BitVec.setWidth_eq, h1, BitVec.toNat_and, IntKind.wrap_u32]
  have e : a.toNat &&& (1#32).toNat = a.toNat % 2 := Nat.and_one_is_mod _
  rw [e]
  have e2 : a.getLsbD 0 = decide (a.toNat % 2 = 1) := by simp [BitVec.getLsbD, Nat.testBit_zero]
  rw [e2]
  by_cases h : a.toNat % 2 = 1
  · simp [h]
  · have : a.toNat % 2 = 0 := by omega
    simp [this]
theorem QJ (a : BitVec 32) : bits .xor .u32 ((a.toNat : Int) / 2) (IntKind.u32.wrap (bits .and .u32 (a.toNat : Int) 1 * 2197175160)) = ((H3 a).toNat : Int) := by
  have e1 : (a.toNat : Int) / (2 : Int) = ((a >>> 1).toNat : Int) := by
    rw [BitVec.toNat_ushiftRight, Nat.shiftRight_eq_div_pow]; omega
  have e2 : IntKind.u32.wrap (bits .and .u32 (a.toNat : Int) 1 * 2197175160) = ((if a.getLsbD 0 then QI else 0#32).toNat : Int) := by
    rw [GN, IntKind.wrap_u32]
    cases a.getLsbD 0
    · rfl
    · rfl
  rw [e1, e2, J3]
  rfl
theorem UI (a : BitVec 32) (h : a.getLsbD 0 = true) : bits .xor .u32 ((a.toNat : Int) / 2) 2197175160 = ((H3 a).toNat : Int) := by
 have := QJ a
 rw [GN, h] at this
 exact this
theorem S5 (a : BitVec 32) (h : a.getLsbD 0 = false) : (a.toNat : Int) / 2 = ((H3 a).toNat : Int) := by
 have e1 : (a.toNat : Int) / (2 : Int) = ((a >>> 1).toNat : Int) := by
  rw [BitVec.toNat_ushiftRight, Nat.shiftRight_eq_div_pow]; omega
 rw [e1]
 unfold H3
 rw [h]
 simp
theorem S6 (a : BitVec 32) (c : UInt8) : bits .xor .u32 (a.toNat : Int) (c.toNat : Int) = ((a ^^^ BitVec.ofNat 32 c.toNat).toNat : Int) := by
 rw [← J3]
 have := UInt8.toNat_lt c
 rw [BitVec.toNat_ofNat, Nat.mod_eq_of_lt (by omega)]
theorem Ph (a b : Nat) (ha : a < 4294967296) (hb : b < 4294967296) : bits .or .u32 (a : Int) (b : Int) = ((a ||| b : Nat) : Int) := by
 have hx : a ||| b < 2 ^ 32 := Nat.or_lt_two_pow (by omega) (by omega)
 show IntKind.u32.wrap ((BitVec.ofInt 32 (a : Int) ||| BitVec.ofInt 32 (b : Int)).toNat : Int) = _
 rw [BitVec.toNat_or, LF a ha, LF b hb, BitVec.toNat_ofNat, BitVec.toNat_ofNat, Nat.mod_eq_of_lt (by omega), Nat.mod_eq_of_lt (by omega), IntKind.wrap_u32]
 omega
theorem UJ (r : BitVec 32) : bits .xor .u32 IntKind.u32.max (r.toNat : Int) = ((~~~ r).toNat : Int) := by
 have h : IntKind.u32.max = ((BitVec.allOnes 32).toNat : Int) := by decide
 rw [h, J3, BitVec.allOnes_xor]
theorem S7 (r : BitVec 32) : bits .xor .u32 (r.toNat : Int) 4294967295 = ((~~~ r).toNat : Int) := by
 have h : (4294967295 : Int) = ((BitVec.allOnes 32).toNat : Int) := by decide
 rw [h, J3, BitVec.xor_allOnes]
end Go.Proofs.YtjcfimmcogkopaaGreat
namespace Go.Proofs.YtjcfimmcogkopaaGreat
open Go.RowKit
theorem UK {S : Nat → Prop} (w : World) (A : Option Addr) (c : Nat) (l : List UInt8) (h : Bs S w A c l) (hl : l.length ≤ 140737488355328) :
    Calls Tryz.prog 81 #[.slice A l.length c] w fun e w' => e = .returned (.int .u32 (BM l : Int)) ∧ w = w' := by
  go_enter Tryz.func81, Tryz.ntmps81
  go_wp2
  go_loop [3, 5, 6, 9] (fun h _ _ i => ∃ k : Nat, k ≤ l.length ∧ i = .int .i64 k ∧ h = .int .u32 ((Ea (BitVec.allOnes 32) (l.take k)).toNat : Int)) (fun _ _ _ i => l.length - (intOf i).toNat)
  case atStart => exact ⟨0, Nat.zero_le _, rfl, rfl⟩
  case round =>
    obtain ⟨k, hk, rfl, rfl⟩ := hrel
    by_cases hlt : k < l.length
    · obtain ⟨g, o, rfl, hs, hc⟩ := h.2.2 (by omega)
      have hb := hc k l[k] (List.getElem?_eq_getElem hlt)
      unfold OI at hb
      clear hc
      have ht : Ea (BitVec.allOnes 32) (l.take (k + 1)) = MG (Ea (BitVec.allOnes 32) (l.take k)) l[k] := by
        rw [List.take_succ_eq_append_getElem hlt]; unfold Ea; rw [List.foldl_append]; rfl
      have HT := DZ ht
      clear ht
      obtain ⟨b, hbb⟩ : ∃ b, b = l[k] := ⟨_, rfl⟩
      rw [← hbb] at hb HT
      have HB := DZ hbb
      clear hbb
      obtain ⟨x, hx⟩ : ∃ x, x = Ea (BitVec.allOnes 32) (l.take k) := ⟨_, rfl⟩
      rw [← hx] at HT ⊢
      have HX := DZ hx
      clear hx
      have hin := S6 x b
      obtain ⟨y, hy⟩ : ∃ y, y = x ^^^ BitVec.ofNat 32 b.toNat := ⟨_, rfl⟩
      rw [← hy] at hin
      have HY := DZ hy
      clear hy
      obtain ⟨n, hn⟩ : ∃ n, n = b.toNat := ⟨_, rfl⟩
      have hn2 : n < 256 := by rw [hn]; exact UInt8.toNat_lt _
      rw [← hn] at hin hb
      clear hn
      go_wp2
      go_loop [3, 6, 17] (fun h _ j => ∃ i : Nat, i ≤ 8 ∧ j = .int .i64 i ∧ h = .int .u32 ((Fl i y).toNat : Int)) (fun _ _ j => 8 - (intOf j).toNat)
      case atStart => exact ⟨0, by omega, rfl, rfl⟩
      case round =>
        obtain ⟨i, hi, rfl, rfl⟩ := hrel
        by_cases hi8 : i < 8
        · have hbit := QJ (Fl i y)
          rw [IntKind.wrap_u32] at hbit
          obtain ⟨z, hz⟩ : ∃ z, z = Fl i y := ⟨_, rfl⟩
          rw [← hz] at hbit ⊢
          have HZ := DZ hz
          clear hz
          obtain ⟨z', hz'⟩ : ∃ z', z' = H3 z := ⟨_, rfl⟩
          rw [← hz'] at hbit
          have HZ' := DZ hz'
          clear hz'
          go_wp2
          go_round
          case rel => exact ⟨i + 1, by omega, by go_num, by rw [HZ'.out, HZ.out]; rfl⟩
          case measure => simp [intOf]; omega
        · have e8 : i = 8 := by omega
          subst e8
          obtain ⟨z, hz⟩ : ∃ z, z = Fl 8 y := ⟨_, rfl⟩
          rw [← hz]
          have HZ := DZ hz
          clear hz
          go_wp2
          go_round
          case rel => exact ⟨k + 1, by omega, by go_num, by rw [HT.out, HZ.out, HY.out]; rfl⟩
          case measure => simp [intOf]; omega
    · have e : l.take k = l := List.take_of_length_le (by omega)
      rw [e]
      clear e
      obtain ⟨r, hr⟩ : ∃ r, r = Ea (BitVec.allOnes 32) l := ⟨_, rfl⟩
      rw [← hr]
      have HR := DZ hr
      clear hr
      have hnot := UJ r
      obtain ⟨q, hq⟩ : ∃ q : Nat, q = (~~~ r).toNat := ⟨_, rfl⟩
      rw [← hq] at hnot
      have HQ := DZ hq
      clear hq
      go_wp2
      all_goals
        go_ret
        refine ⟨Qs ?_, rfl⟩
        unfold BM
        rw [← HR.out, ← HQ.out]
end Go.Proofs.YtjcfimmcogkopaaGreat
namespace Go.Proofs.YtjcfimmcogkopaaGreat
open Go.RowKit
end Go.Proofs.YtjcfimmcogkopaaGreat
namespace Go.Proofs.YtjcfimmcogkopaaGreat
open Go.RowKit
theorem Pi {S : Nat → Prop} (w : World) (A : Option Addr) (c : Nat) (l : List UInt8) (h : Bs S w A c l) (hl : l.length ≤ 140737488355328) :
    Calls Tryz.prog 59 #[.slice A l.length c] w fun e w' => e = .returned (.int .u32 (BM l : Int)) ∧ w = w' := by
  go_enter Tryz.func59, Tryz.ntmps59
  go_wp2
  go_loop [3, 4, 5, 6] (fun h i _ _ => ∃ k : Nat, k ≤ l.length ∧ i = .int .i64 k ∧ h = .int .u32 ((Ea (BitVec.allOnes 32) (l.take k)).toNat : Int)) (fun _ i _ _ => l.length - (intOf i).toNat)
  case atStart => exact ⟨0, Nat.zero_le _, rfl, rfl⟩
  case round =>
    obtain ⟨k, hk, rfl, rfl⟩ := hrel
    by_cases hlt : k < l.length
    · obtain ⟨g, o, rfl, hs, hc⟩ := h.2.2 (by omega)
      have hb := hc k l[k] (List.getElem?_eq_getElem hlt)
      unfold OI at hb
      clear hc
      have ht : Ea (BitVec.allOnes 32) (l.take (k + 1)) = MG (Ea (BitVec.allOnes 32) (l.take k)) l[k] := by
        rw [List.take_succ_eq_append_getElem hlt]; unfold Ea; rw [List.foldl_append]; rfl
      have HT := DZ ht
      clear ht
      obtain ⟨b, hbb⟩ : ∃ b, b = l[k] := ⟨_, rfl⟩
      rw [← hbb] at hb HT
      have HB := DZ hbb
      clear hbb
      obtain ⟨x, hx⟩ : ∃ x, x = Ea (BitVec.allOnes 32) (l.take k) := ⟨_, rfl⟩
      rw [← hx] at HT ⊢
      have HX := DZ hx
      clear hx
      have hin := S6 x b
      obtain ⟨y, hy⟩ : ∃ y, y = x ^^^ BitVec.ofNat 32 b.toNat := ⟨_, rfl⟩
      rw [← hy] at hin
      have HY := DZ hy
      clear hy
      obtain ⟨n, hn⟩ : ∃ n, n = b.toNat := ⟨_, rfl⟩
      have hn2 : n < 256 := by rw [hn]; exact UInt8.toNat_lt _
      rw [← hn] at hin hb
      clear hn
      go_wp2
      go_loop [3, 5, 6] (fun h j _ => ∃ i : Nat, i ≤ 8 ∧ j = .int .i64 i ∧ h = .int .u32 ((Fl i y).toNat : Int)) (fun _ j _ => 8 - (intOf j).toNat)
      case atStart => exact ⟨0, by omega, rfl, rfl⟩
      case round =>
        obtain ⟨i, hi, rfl, rfl⟩ := hrel
        obtain ⟨z, hz⟩ : ∃ z, z = Fl i y := ⟨_, rfl⟩
        rw [← hz]
        have HZ := DZ hz
        clear hz
        by_cases hi8 : i < 8
        · have hand := GN z
          cases hodd : z.getLsbD 0
          · have hq := S5 z hodd
            rw [hodd] at hand
            simp only [Bool.false_eq_true, if_false] at hand
            clear hodd
            have HQ := DZ hq
            clear hq
            go_wp2
            go_round
            case rel => exact ⟨i + 1, by omega, by go_num, by rw [HQ.out, HZ.out]; rfl⟩
            case measure => simp [intOf]; omega
          · have hq := UI z hodd
            rw [hodd] at hand
            simp only [if_true] at hand
            clear hodd
            obtain ⟨z', hz'⟩ : ∃ z', z' = H3 z := ⟨_, rfl⟩
            rw [← hz'] at hq
            have HZ' := DZ hz'
            clear hz'
            go_wp2
            go_round
            case rel => exact ⟨i + 1, by omega, by go_num, by rw [HZ'.out, HZ.out]; rfl⟩
            case measure => simp [intOf]; omega
        · have e8 : i = 8 := by omega
          subst e8
          go_wp2
          go_round
          case rel => exact ⟨k + 1, by omega, by go_num, by rw [HT.out, HZ.out, HY.out]; rfl⟩
          case measure => simp [intOf]; omega
    · have e : l.take k = l := List.take_of_length_le (by omega)
      rw [e]
      clear e
      obtain ⟨r, hr⟩ : ∃ r, r = Ea (BitVec.allOnes 32) l := ⟨_, rfl⟩
      rw [← hr]
      have HR := DZ hr
      clear hr
      have hnot := S7 r
      obtain ⟨q, hq⟩ : ∃ q : Nat, q = (~~~ r).toNat := ⟨_, rfl⟩
      rw [← hq] at hnot
      have HQ := DZ hq
      clear hq
      go_wp2
      all_goals
        go_ret
        refine ⟨Qs ?_, rfl⟩
        unfold BM
        rw [← HR.out, ← HQ.out]
end Go.Proofs.YtjcfimmcogkopaaGreat
namespace Go.Proofs.YtjcfimmcogkopaaGreat
open Go.RowKit
theorem MH {P : Program} {t e : TypeId} {base c : Nat} {v : Value} {l m : List UInt8} {S : Nat → Prop} {A : Option Addr} {w : World} {o : Oper} {a : Act} {K : Act → World → Prop} {Q : Exit → Act → World → Prop}
  (hu : U8 P t e) (s x : Operand) (ho : o.op = .call { callee := .builtin .append, args := #[s, x], argTypes := #[t, t] })
  (hown : EW e w base v l) (hb : base ≤ w.heap.size) (hr : Bs S w A c m) (n : Nat) (hn : n = l.length + m.length) (hs : a.eval s = v) (hx : a.eval x = .slice A m.length c) (hlen : n ≤ 140737488355328)
  (h : ∀ A' c' w', EW e w' base (.slice A' n c') (l ++ m) → Mod (At v) w w' → (∀ k, At (.slice A' n c') k → At v k ∨ k = w.heap.size) → K (a.put o.dst (.slice A' n c')) w') : Oper.wp P o a w K Q := by
 obtain ⟨v', w', hrun, h2, h3, h4⟩ := Hr (P := P) (ty := o.type) hu hown hb hr (by omega)
 obtain ⟨A', c', rfl, _⟩ := h2.form
 rw [List.length_append, ← hn] at h2 hrun h4
 unfold Oper.wp execOp
 simp only [ho, resolve, invoke, builtin, Sem.run_bind, Sem.run_pure, Result.andThen_ok, List.map_toArray, List.map_cons, List.map_nil, hs, hx, hrun]
 exact h A' c' w' h2 h3 h4
set_option maxHeartbeats 4000000 in
theorem MI {S : Nat → Prop} (w : World) (p c f : Nat) (most : Int) (A : Option Addr) (b l : List UInt8) (h : OW S w p A c b l f) (hm1 : -9223372036854775808 ≤ most) (hm : most ≤ 9223372036854775807) :
    Calls Tryz.prog 42 #[.pointer (some ⟨p, 0, none⟩), .int .i64 most] w fun e w' =>
      ∃ v', e = .returned v' ∧ EW 5 w' w.heap.size v' (BZ most l f).1 ∧ OW S w' p A c b (BZ most l f).2.1 (BZ most l f).2.2 ∧ Mod (Hq p) w w' := by
  have h' := h
  obtain ⟨j, hj, rfl, hr, hs, hl, hne⟩ := h
  have h0 := hr.cell 0
  have h1 := hr.cell 1
  have h2 := hr.cell 2
  simp at h0 h1 h2
  by_cases hf : f = 0
  · subst hf
    have hC := JF w p c 0 most.toNat A b (b.drop j) h' (by omega)
    have hn : BL most.toNat (b.drop j) 0 = ((BC most.toNat (b.drop j) 0 0).1, (b.drop j).drop (BC most.toNat (b.drop j) 0 0).2.1, (BC most.toNat (b.drop j) 0 0).2.2) := by unfold BL; rw [if_neg (by simp)]
    rw [hn] at hC
    have hcv : IntKind.u64.wrap (max most 0) = (most.toNat : Int) := by rw [IntKind.wrap_u64]; omega
    have hends := FC most.toNat (b.drop j) 0 0 (by omega) (by decide)
    have hE : BZ most (b.drop j) 0 = if (BC most.toNat (b.drop j) 0 0).2.2 ≠ 0 then ([], b.drop j, (BC most.toNat (b.drop j) 0 0).2.2)
      else if (b.drop j).length - (BC most.toNat (b.drop j) 0 0).2.1 < (BC most.toNat (b.drop j) 0 0).1 then ([], b.drop j, 10)
      else (((b.drop j).drop (BC most.toNat (b.drop j) 0 0).2.1).take (BC most.toNat (b.drop j) 0 0).1, (b.drop j).drop ((BC most.toNat (b.drop j) 0 0).2.1 + (BC most.toNat (b.drop j) 0 0).1), 0) := by unfold BZ; rw [if_neg (by simp)]
    obtain ⟨⟨n, s, e2⟩, hx⟩ : ∃ x, BC most.toNat (b.drop j) 0 0 = x := ⟨_, rfl⟩
    rw [hx] at hC hE hends
    simp only at hC hE hends
    have hC' : ∀ x : Int, x = (most.toNat : Int) → Calls Tryz.prog 40 #[.pointer (some ⟨p, 0, none⟩), .int .u64 x] w fun e w' =>
      e = .returned (.int .u64 (n : Int)) ∧ OW S w' p A c b ((b.drop j).drop s) e2 ∧ Mod (Hq p) w w' := fun x hx => by rw [hx]; exact hC
    have HC := DZ hC'
    have HE := DZ hE
    clear hC hC' hx hn hE h'
    by_cases he2 : e2 = 0
    · subst he2
      have hs0 : 0 < s ∧ s ≤ (b.drop j).length ∧ n ≤ most.toNat := by omega
      clear hends
      have HS := DZ hs0
      clear hs0
      have hn63 : n ≤ 9223372036854775807 := by have := HS.out; omega
      go_enter Tryz.func42, Tryz.ntmps42
      go_wp2_with (go_at_call 40; refine Calls.mono (HC.out _ (by omega)) ?_; rintro e w1 ⟨rfl, ⟨j1, hj1, hl1, hr1, hs1, _, _⟩, hm1⟩; have k0 := hr1.cell 0; have k1 := hr1.cell 1; have k2 := hr1.cell 2; have g1 := hr1.frozen 1; simp at k0 k1 k2)
      all_goals
        have hd1 : (b.drop j).length - s = b.length - j1 := by rw [← List.length_drop, hl1, List.length_drop]
        have HD1 := DZ hd1
        have HL1 := DZ hl1
        clear hd1 hl1
        by_cases hlt : b.length - j1 < n
        · have hlt' : (b.length : Int) - j1 < n := by omega
          go_quiet (fail)
          go_wp2_with (go_at_call 77; refine (Ct _ p _ _ _ _ _ (hr1.mod ((Mod.refl Nil w1).drewN _) (fun hf => hf))).mono ?_; rintro e w2 ⟨rfl, hr2, hm2⟩)
          go_ret
          rw [HE.out, if_neg (by simp), HD1.out, if_pos hlt]
          have hm3 := (hm1.drewN _).same hm2
          exact ⟨_, rfl, EW.nil _ _ _, ⟨j, hj, rfl, hr2, hs.mod hm3 hne, hl, hne⟩, hm3⟩
        · have hlt' : (n : Int) ≤ (b.length : Int) - j1 := by omega
          obtain ⟨A2, hs2, hsl0⟩ := Ut Mg hs1 j1 (j1 + n) (by omega) (by omega)
          have e1 : (b.take (j1 + n)).drop j1 = (b.drop j1).take n := by rw [List.drop_take]; congr 1; omega
          have e2 : ((b.drop j1).take n).length = n := by rw [List.length_take, List.length_drop]; omega
          rw [e1] at hsl0 hs2
          obtain ⟨T, hT⟩ : ∃ T, T = (b.drop j1).take n := ⟨_, rfl⟩
          rw [← hT] at hsl0 hs2 e2
          simp only [Int.natCast_add] at hsl0
          have HT := DZ hT
          have H2 := DZ e2
          have hTl : T.length ≤ 140737488355328 := by omega
          clear e1 e2 hT
          have own0 : ∀ W : World, EW 5 (W.alloc (.cells #[] 5)) W.heap.size (.slice (some ⟨W.heap.size, 0, none⟩) 0 0) [] := fun W => World.ownsRow_made W #[] 0 (Nat.le_refl _) (by simp [maxLen]) rfl
          have src : ∀ W, Mod Nil w1 W → Bs S W A2 (c - j1) T := fun W hW => hs2.mod hW (fun _ _ hf => hf)
          have mk : ∀ W, Mod Nil w1 W → W.cell? ⟨p, 0, none⟩ = some (.slice A b.length c) ∧ W.cell? ⟨p, 1, none⟩ = some (.int .i64 (j1 : Int)) := fun W hW => by
            have hr2 := hr1.mod hW (fun hf => hf)
            have q0 := hr2.cell 0
            have q1 := hr2.cell 1
            simp at q0 q1
            exact ⟨q0, q1⟩
          have MK := DZ mk
          have hwn : IntKind.i64.wrap (n : Int) = n := by rw [IntKind.wrap_i64]; omega
          have hwj : IntKind.i64.wrap ((j1 : Int) + n) = j1 + n := by rw [IntKind.wrap_i64]; omega
          clear mk hs2
          go_quiet (fail)
          go_wp2_with fail
          go_region_held3 (fun W => W.cell? ⟨p, 0, none⟩ = some (.slice A b.length c) ∧ W.cell? ⟨p, 1, none⟩ = some (.int .i64 (j1 : Int)))
            (first
              | exact MK.out _ (((Mod.refl Nil w1).drewN _).drew)
              | exact MK.out _ ((((Mod.refl Nil w1).drewN _).drew).alloc _)
              | exact MK.out _ hM5)
            (first | (rw [if_pos (by rfl)]; refine MH (t := 32) Mg (.tmp 43) (.tmp 59) rfl (own0 _) (by simp) (src _ ((((Mod.refl Nil w1).drewN _).drew).alloc _)) T.length (by simp) rfl rfl (by omega) ?_; intro A5 c5 w5 ho5 hm5 ha5; have hM5 : Mod Nil w1 w5 := ((((Mod.refl Nil w1).drewN _).drew).alloc _).trans hm5 (fun i hi hk => by rw [At.iff] at hk; have hk' : i = w1.heap.size := hk; omega)))
          have hr5 := hr1.mod hM5 (fun hf => hf)
          have q0 := hr5.cell 0
          have q1 := hr5.cell 1
          have fz := hr5.frozen 1
          simp at q0 q1
          go_wp2_with fail
          go_ret
          have e3 : T = ((b.drop j).drop s).take n := by rw [HL1.out]; exact HT.out
          have e4 : (b.drop j).drop (s + n) = b.drop (j1 + n) := by rw [← List.drop_drop, HL1.out, List.drop_drop]
          rw [HE.out, if_neg (by simp), HD1.out, if_neg hlt, ← e3, e4]
          rw [List.nil_append] at ho5
          have hp1 := hr1.lt
          have hsz := hm1.size
          have ho6 : EW 5 w5 w.heap.size (.slice A5 T.length c5) T := ho5.rebase (fun k hk => Nat.le_trans hsz (ho5.lt k hk).1)
          have hall : Mod (Hq p) w (w5.setCell ⟨p, 1, none⟩ (.int .i64 ((j1 : Int) + n))) := (hm1.trans hM5 (fun _ _ hf => hf.elim)).same (Mod.one _ _ _ _)
          refine ⟨_, rfl, ho6.mod (Mod.one _ p 1 _) (fun k hk e => ?_), ⟨j1 + n, by omega, rfl, ?_, hs.mod hall hne, hl, hne⟩, hall⟩
          · have h5 : w1.heap.size ≤ k := (ho5.lt k hk).1
            unfold Hq at e
            omega
          · exact hr5.set 1 _
    · have HS := DZ (show s = 0 by omega)
      clear hends
      go_enter Tryz.func42, Tryz.ntmps42
      go_wp2_with (go_at_call 40; refine Calls.mono (HC.out _ (by omega)) ?_; rintro e w1 ⟨rfl, ⟨j1, hj1, hl1, hr1, hs1, _, _⟩, hm1⟩; have k0 := hr1.cell 0; have k1 := hr1.cell 1; have k2 := hr1.cell 2; have g1 := hr1.frozen 1; simp at k0 k1 k2)
      all_goals
        go_ret
        rw [HE.out, if_pos he2]
        rw [HS.out, List.drop_zero] at hl1
        exact ⟨_, rfl, EW.nil _ _ _, ⟨j1, hj1, hl1, hr1, hs1, hl, hne⟩, hm1⟩
  · have hE : BZ most (b.drop j) f = ([], b.drop j, f) := by unfold BZ; rw [if_pos hf]
    have HE := DZ hE
    clear hE
    go_enter Tryz.func42, Tryz.ntmps42
    go_wp2
    go_ret
    rw [HE.out]
    exact ⟨_, rfl, EW.nil _ _ _, ⟨j, hj, rfl, hr, hs, hl, hne⟩, Mod.refl _ _⟩
end Go.Proofs.YtjcfimmcogkopaaGreat
namespace Go.Proofs.YtjcfimmcogkopaaGreat
open Go.RowKit
def WY (w : World) (base p : Nat) (l : List UInt8) (f : Nat) : Prop :=
  l.length ≤ 140737488355328 ∧ ∃ A c, CY w p 138 #[.slice A l.length c, .int .i64 (f : Int)] ∧ Bs (fun k => base ≤ k ∧ k < p) w A c l
theorem WY.mod {S : Nat → Prop} {w w' : World} {base p f : Nat} {l : List UInt8} (h : WY w base p l f) (hm : Mod S w w') (hn : ∀ k, base ≤ k → k ≤ p → ¬ S k) (hb : base ≤ p) : WY w' base p l f := by
 obtain ⟨hl, A, c, hr, hs⟩ := h
 exact ⟨hl, A, c, hr.mod hm (hn p hb (Nat.le_refl _)), hs.mod hm (fun k hk => hn k hk.1 (by omega))⟩
theorem WY.lt {w : World} {base p f : Nat} {l : List UInt8} (h : WY w base p l f) : p < w.heap.size := by
 obtain ⟨_, _, _, hr, _⟩ := h
 exact hr.lt
end Go.Proofs.YtjcfimmcogkopaaGreat
namespace Go.Proofs.YtjcfimmcogkopaaGreat.Sep
open Go.RowKit
open Go.Proofs.YtjcfimmcogkopaaGreat.Mem (AZ Ci Chg Au)
section
variable {P : Program} {Q : Exit → Act → World → Prop} {n : Nat} {env : List (Nat × Value)} {B : Nat → Prop} {w0 w : World} {os : List Ass} {o : Oper}
theorem MJ {X : Type} {F : FuncId} {f : Operand} {args : Array Operand} {ats : Array TypeId} {vs : List Value} {val : X → Value} {post : X → List Ass} {os' : X → List Ass} (ids : List Nat) (pads : Nat) (hE : Uv P F) (hc : ∀ w, Hp B w0 w os → EO w P F vs.toArray [] val post) (hp : Ee ids os = List.replicate pads EF) (hn : Da ids = true) (hb : (ids.all fun i => Nat.blt i os.length) = true) (he : ∀ x, (post x).drop ids.length ++ EN ids (E7 ids.length (post x)) os = os' x) (ho : o.op = .call { callee := .value f, args := args, argTypes := ats }) (hf : evs env f = some (.func (.func F) #[] #[])) (hx : evl env args.toList = some vs) :
  Bq P Q n env B w0 os o val os' := fun b w hH hb' K hK => by
 unfold Oper.wp
 rw [GX hE ho hf hx hb', Oper.upon_enter]
 obtain ⟨x, h0, h1, h2, h3, h4⟩ := hH.give2 ids (BX hn)
 rw [hp] at h1
 have hx0 : x = [] := Eo.1 h1
 subst hx0
 refine (hc w hH w [] (Below.refl _ _) (fun x hx => by cases hx) rfl trivial trivial).mono ?_
 rintro e w' ⟨x, rfl, rs', hpx, hch⟩
 have hq := h4 (post x) rs' w' hpx hch
 refine hK x w' (he x ▸ Hp.imp hq fun rs h => ?_)
 obtain ⟨a, c, e, ha, hc'⟩ := h.split
 obtain ⟨a', p, ha'⟩ := Ev (k := ids.length) ha
 have h2 := Ak.app ha' hc'
 rw [List.append_assoc] at h2
 obtain ⟨r2, p2, h3⟩ := h2.perm ((I5 (xs := post x) (BX hn) hb).append_left _)
 exact ⟨r2, e ▸ (p.append_right c).trans p2, h3⟩
end
section
variable {P : Program} {F : FuncId} {args : Array Value} {l m b l' : List UInt8} {u : World} {g f f' : Nat} {v B : Value} {val : Value}
theorem S8 (hv : D6 u v m) (g : Nat) (l : List UInt8) (r : List UInt8) (hr : l ++ O8 m = r) (hl : l.length + m.length + 10 ≤ 140737488355328) : EO u Tryz.prog 85 #[.pointer (some ⟨g, 0, none⟩), v] [Mx g l] (fun _ : Unit => .tuple #[]) (fun _ => [Mx g r]) := fun w rs hU hS h1 h2 h3 => by
  obtain ⟨wv, rv, rfl, hv0, hw⟩ := O4 h1.one' h2
  obtain ⟨A, c, rfl, hb⟩ := hv
  have hfoot : ∀ k, HH g wv k → Ci ((g, Ed 133, #[wv]) :: rv) k := by
    rintro k (rfl | hk)
    · exact ⟨_, List.mem_cons_self, rfl⟩
    · rcases hv0 with ⟨e1, _, _⟩ | ⟨g', c, cs, e1, _, _, _, _, e6⟩
      · subst e1; exact absurd hk At.none
      · subst e1; subst e6
        exact ⟨(g', Ed 5, cs), by simp, (At.iff.1 hk).symm⟩
  have hb2 : Bs (fun k => k < u.heap.size) w A c m := (hb.weaken (T := fun k => k < u.heap.size) fun k hk _ => hk).below hU fun _ hk => hk
  refine (Ks w g wv l A c m hw hb2 (fun k hk hf => ?_) hl).mono ?_
  · obtain ⟨x, hx, ex⟩ := hfoot k hf
    have := hS x hx
    have hk : k < u.heap.size := hk
    have ex : x.1 = k := ex
    omega
  rintro e w' ⟨v', he, hw', hm, hat⟩
  obtain ⟨rs', hv', hr', hd', hx'⟩ := G6 hw'.2
  have er : l ++ Dx m.length ++ m = r := by rw [← hr]; simp [O8]
  rw [er] at hw' hv'
  refine ⟨(), he, (g, Ed 133, #[v']) :: rs', Ak.one ⟨v', [(g, Ed 133, #[v'])], rs', rfl, rfl, Ak.one hv'⟩, hm.weaken fun k hk hf => hfoot k hf, ⟨hw'.1, hr'⟩, ⟨fun y hy e => hw'.2.ne_row hw'.1 (by decide) ((show y.1 = g from e) ▸ (hx' y hy).1), hd'⟩, fun x hxm hlt => ?_⟩
  rcases List.mem_cons.1 hxm with rfl | hxm
  · exact ⟨_, List.mem_cons_self, rfl⟩
  · rcases hat _ (hx' x hxm).1 with h | h
    · exact hfoot _ (.inr h)
    · omega
theorem VW {w w' : World} {x y : Array Value} {rv rs' : List RowT} (h2 : RowsOf w ((g, Ed 83, x) :: rv)) (h3 : AZ ((g, Ed 83, x) :: rv)) (hy : CY w' g 83 y) (hm : Mod (Hq g) w w') (hr' : RowsOf w' rs') (hd' : AZ rs') (hn : ∀ x ∈ rs', w.heap.size ≤ x.1) : Chg w w' ((g, Ed 83, x) :: rv) (((g, Ed 83, y) :: rv) ++ rs') := by
  have hrv : RowsOf w' rv := AN.2 fun z hz => by
    refine (AN.1 h2.2 z hz).mod hm fun e => ?_
    unfold Hq at e
    exact h3.1 z hz e
  refine ⟨hm.weaken fun k _ e => ⟨_, List.mem_cons_self, e.symm⟩, AN.2 fun z hz => ?_, Mem.dist_app ⟨h3.1, h3.2⟩ hd' fun p hp q hq e => ?_, fun p hp hlt => ?_⟩
  · rcases List.mem_append.1 hz with h | h
    · exact AN.1 (show RowsOf w' ((g, Ed 83, y) :: rv) from ⟨hy, hrv⟩) z h
    · exact AN.1 hr' z h
  · have h1 := hn q hq
    rcases List.mem_cons.1 hp with rfl | hp
    · have := h2.1.lt
      have e : q.1 = g := e
      omega
    · have := (AN.1 h2.2 p hp).lt
      omega
  · rcases List.mem_append.1 hp with h | h
    · rcases List.mem_cons.1 h with rfl | h
      · exact ⟨_, List.mem_cons_self, rfl⟩
      · exact ⟨p, List.mem_cons_of_mem _ h, rfl⟩
    · have := hn p h
      omega
end
end Go.Proofs.YtjcfimmcogkopaaGreat.Sep
namespace Go.Proofs.YtjcfimmcogkopaaGreat
structure MsgD where
  k : Int
  a : Int
  b : Int
  t : Int
  i : Int
  lt : Int
  es : List EntD
  co : Int
  rf : Bool
  bi : Int
  bt : Int
  bc : Int
  o : Int
  d : List UInt8
  la : Bool
deriving DecidableEq
def MsgD.zero : MsgD := ⟨0, 0, 0, 0, 0, 0, [], 0, false, 0, 0, 0, 0, [], false⟩
structure MsgD.ok (m : MsgD) : Prop where
  k : Qv m.k
  a : Qv m.a
  b : Qv m.b
  t : M9 m.t
  i : M9 m.i
  lt : M9 m.lt
  es : m.es.length ≤ 9223372036854775807 ∧ ∀ e, e ∈ m.es → e.ok
  co : M9 m.co
  bi : M9 m.bi
  bt : M9 m.bt
  bc : Qv m.bc
  o : Qv m.o
  d : m.d.length ≤ 9223372036854775807
def fm (k : Int) : Nat := if k = 1 then 131 else if k = 2 then 144 else if k = 3 then 15 else if k = 4 then 17 else if k = 5 then 480 else if k = 6 then 96 else 0
def KL (b : Int × Int × Int) : List UInt8 := Fu b.1 ++ (Fu b.2.1 ++ [UInt8.ofNat b.2.2.toNat])
def NQ (l : List UInt8) (f : Nat) : EntD × List UInt8 × Nat :=
  match BZ 160 l f with
  | (x, l1, f1) => if f1 ≠ 0 then (.zero, l1, f1) else ((Gy x).1, l1, (Gy x).2)
theorem RG {l l1 x : List UInt8} {f f1 : Nat} (h : BZ 160 l f = (x, l1, f1)) (hf : f1 ≠ 0) : NQ l f = (.zero, l1, f1) := by
 unfold NQ
 rw [h]
 simp only
 rw [if_pos hf]
theorem UL {l l1 x : List UInt8} {f e : Nat} {y : EntD} (h : BZ 160 l f = (x, l1, 0)) (he : Gy x = (y, e)) : NQ l f = (y, l1, e) := by
 unfold NQ
 rw [h]
 simp only
 rw [if_neg (by simp), he]
theorem Pj {l l' : List UInt8} {f : Nat} {e : EntD} (h : NQ l f = (e, l', 0)) : HI e = true := by
  obtain ⟨⟨x, l1, f1⟩, h1⟩ : ∃ R, BZ 160 l f = R := ⟨_, rfl⟩
  by_cases hf : f1 = 0
  · subst hf
    obtain ⟨⟨y, e'⟩, h2⟩ : ∃ R, Gy x = R := ⟨_, rfl⟩
    have e1 := (UL h1 h2).symm.trans h
    simp only [Prod.mk.injEq] at e1
    obtain ⟨rfl, rfl, rfl⟩ := e1
    have hb := Rw x
    rw [h2] at hb
    rcases hb with ⟨hb, _⟩ | ⟨_, hb, _⟩
    · exact absurd rfl hb
    · exact hb
  · have e1 := (RG h1 hf).symm.trans h
    simp only [Prod.mk.injEq] at e1
    exact absurd e1.2.2 hf
def JJ : Nat → List UInt8 → Nat → List EntD × List UInt8 × Nat
  | 0, l, f => ([], l, f)
  | n + 1, l, f => match NQ l f with
    | (e, l1, f1) => if f1 ≠ 0 then ([], l1, f1) else match JJ n l1 0 with
      | (es, l2, f2) => (e :: es, l2, f2)
theorem S9 {n : Nat} {l l1 l2 : List UInt8} {f f2 : Nat} {e : EntD} {es : List EntD} (h : NQ l f = (e, l1, 0)) (h2 : JJ n l1 0 = (es, l2, f2)) : JJ (n + 1) l f = (e :: es, l2, f2) := by
 rw [JJ, h]
 simp only
 rw [if_neg (by simp), h2]
def NR (l : List UInt8) (f : Nat) : List EntD × List UInt8 × Nat :=
  match BL 4 l f with
  | (n, l1, f1) => JJ n l1 f1
def KM (l : List UInt8) (f : Nat) : (Int × Int × Int) × List UInt8 × Nat :=
  match BL 72057594037927935 l f with
  | (x, l1, f1) => match BL 72057594037927935 l1 f1 with
    | (y, l2, f2) => match Ba 254 l2 f2 with
      | (z, l3, f3) => (((x : Int), (y : Int), (z : Int)), l3, f3)
theorem Fc {l l1 l2 l3 : List UInt8} {f f1 f2 f3 x y z : Nat} (h1 : BL 72057594037927935 l f = (x, l1, f1)) (h2 : BL 72057594037927935 l1 f1 = (y, l2, f2)) (h3 : Ba 254 l2 f2 = (z, l3, f3)) : KM l f = (((x : Int), (y : Int), (z : Int)), l3, f3) := by
 simp only [KM, h1, h2, h3]
theorem RH : Good KM KL (fun b => (0 ≤ b.1 ∧ b.1 ≤ 72057594037927935) ∧ (0 ≤ b.2.1 ∧ b.2.1 ≤ 72057594037927935) ∧ (0 ≤ b.2.2 ∧ b.2.2 ≤ 254)) (fun b => M9 b.1 ∧ M9 b.2.1 ∧ (0 ≤ b.2.2 ∧ b.2.2 ≤ 255)) where
 lay b r h := by
  obtain ⟨x, y, z⟩ := b
  obtain ⟨h1, h2, h3⟩ := h
  simp only at h1 h2 h3
  have e1 : BL 72057594037927935 (KL (x, y, z) ++ r) 0 = (x.toNat, Fu y ++ ([UInt8.ofNat z.toNat] ++ r), 0) := by
   unfold KL
   rw [List.append_assoc, List.append_assoc]
   exact (Ex _).lay x.toNat _ (by omega)
  rw [Fc e1 ((Ex _).lay y.toNat _ (by omega)) ((EZ 254).lay z.toNat r (by omega))]
  rw [show ((x.toNat : Nat) : Int) = x by omega, show ((y.toNat : Nat) : Int) = y by omega, show ((z.toNat : Nat) : Int) = z by omega]
 back l f h := by
  obtain ⟨⟨x, l1, f1⟩, h1⟩ : ∃ R, BL 72057594037927935 l f = R := ⟨_, rfl⟩
  obtain ⟨⟨y, l2, f2⟩, h2⟩ : ∃ R, BL 72057594037927935 l1 f1 = R := ⟨_, rfl⟩
  obtain ⟨⟨z, l3, f3⟩, h3⟩ : ∃ R, Ba 254 l2 f2 = R := ⟨_, rfl⟩
  rw [Fc h1 h2 h3] at h ⊢
  simp only at h ⊢
  subst h
  obtain ⟨rfl, b3⟩ := (EZ _).back_of h3
  obtain ⟨rfl, b2⟩ := (Ex _).back_of h2
  obtain ⟨rfl, b1⟩ := (Ex _).back_of h1
  refine ⟨rfl, ?_⟩
  rw [b1, b2, b3]
  simp [KL, Fu]
 ok l f := by
  obtain ⟨⟨x, l1, f1⟩, h1⟩ : ∃ R, BL 72057594037927935 l f = R := ⟨_, rfl⟩
  obtain ⟨⟨y, l2, f2⟩, h2⟩ : ∃ R, BL 72057594037927935 l1 f1 = R := ⟨_, rfl⟩
  obtain ⟨⟨z, l3, f3⟩, h3⟩ : ∃ R, Ba 254 l2 f2 = R := ⟨_, rfl⟩
  rw [Fc h1 h2 h3]
  have a1 := (Ex _).ok_of h1
  have a2 := (Ex _).ok_of h2
  have a3 := (EZ _).ok_of h3
  exact ⟨⟨by simp only; omega, by simp only; omega⟩, ⟨by simp only; omega, by simp only; omega⟩, by simp only; omega, by simp only; omega⟩
def Vt (l : List UInt8) : MsgD × List UInt8 × Nat :=
  match Ba 6 l 0 with
  | (k, l0, f0) => match rI (k != 0) 0 (Ba 7 l0 f0) l0 f0 with
  | (a, l1, f1) => match rI (k != 0) 0 (Ba 7 l1 f1) l1 f1 with
  | (b, l2, f2) => match rI (k != 0) 0 (BL 72057594037927935 l2 f2) l2 f2 with
  | (t, l3, f3) => match rI (Hv (fm (k : Int)) 1) 0 (BL 72057594037927935 l3 f3) l3 f3 with
  | (i, l4, f4) => match rI (Hv (fm (k : Int)) 2) 0 (BL 72057594037927935 l4 f4) l4 f4 with
  | (lt, l5, f5) => match rI (Hv (fm (k : Int)) 4) 0 (BL 72057594037927935 l5 f5) l5 f5 with
  | (co, l6, f6) => match rI (Hv (fm (k : Int)) 8) [] (NR l6 f6) l6 f6 with
  | (es, l7, f7) => match rI (Hv (fm (k : Int)) 16) 0 (Ba 1 l7 f7) l7 f7 with
  | (rf, l8, f8) => match rI (Hv (fm (k : Int)) 32) (0, 0, 0) (KM l8 f8) l8 f8 with
  | ((bi, bt, bc), l9, f9) => match rI (Hv (fm (k : Int)) 64) 0 (BL 32768 l9 f9) l9 f9 with
  | (o, l10, f10) => match rI (Hv (fm (k : Int)) 128) 0 (Ba 1 l10 f10) l10 f10 with
  | (la, l11, f11) => match rI (Hv (fm (k : Int)) 256) [] (BZ 256 l11 f11) l11 f11 with
  | (d, l12, f12) => (⟨(k : Int), (a : Int), (b : Int), (t : Int), (i : Int), (lt : Int), es, (co : Int), rf == 1, bi, bt, bc, (o : Int), d, la == 1⟩, l12, f12)
structure ReadM (l : List UInt8) (m : MsgD) (l' : List UInt8) (f' : Nat) where
  mk ::
  k : Nat
  l0 : List UInt8
  f0 : Nat
  h0 : Ba 6 l 0 = (k, l0, f0)
  a : Nat
  l1 : List UInt8
  f1 : Nat
  h1 : rI (k != 0) 0 (Ba 7 l0 f0) l0 f0 = (a, l1, f1)
  b : Nat
  l2 : List UInt8
  f2 : Nat
  h2 : rI (k != 0) 0 (Ba 7 l1 f1) l1 f1 = (b, l2, f2)
  t : Nat
  l3 : List UInt8
  f3 : Nat
  h3 : rI (k != 0) 0 (BL 72057594037927935 l2 f2) l2 f2 = (t, l3, f3)
  i : Nat
  l4 : List UInt8
  f4 : Nat
  h4 : rI (Hv (fm (k : Int)) 1) 0 (BL 72057594037927935 l3 f3) l3 f3 = (i, l4, f4)
  lt : Nat
  l5 : List UInt8
  f5 : Nat
  h5 : rI (Hv (fm (k : Int)) 2) 0 (BL 72057594037927935 l4 f4) l4 f4 = (lt, l5, f5)
  co : Nat
  l6 : List UInt8
  f6 : Nat
  h6 : rI (Hv (fm (k : Int)) 4) 0 (BL 72057594037927935 l5 f5) l5 f5 = (co, l6, f6)
  es : List EntD
  l7 : List UInt8
  f7 : Nat
  h7 : rI (Hv (fm (k : Int)) 8) [] (NR l6 f6) l6 f6 = (es, l7, f7)
  rf : Nat
  l8 : List UInt8
  f8 : Nat
  h8 : rI (Hv (fm (k : Int)) 16) 0 (Ba 1 l7 f7) l7 f7 = (rf, l8, f8)
  bi : Int
  bt : Int
  bc : Int
  l9 : List UInt8
  f9 : Nat
  h9 : rI (Hv (fm (k : Int)) 32) (0, 0, 0) (KM l8 f8) l8 f8 = ((bi, bt, bc), l9, f9)
  o : Nat
  l10 : List UInt8
  f10 : Nat
  h10 : rI (Hv (fm (k : Int)) 64) 0 (BL 32768 l9 f9) l9 f9 = (o, l10, f10)
  la : Nat
  l11 : List UInt8
  f11 : Nat
  h11 : rI (Hv (fm (k : Int)) 128) 0 (Ba 1 l10 f10) l10 f10 = (la, l11, f11)
  d : List UInt8
  h12 : rI (Hv (fm (k : Int)) 256) [] (BZ 256 l11 f11) l11 f11 = (d, l', f')
  hm : m = ⟨(k : Int), (a : Int), (b : Int), (t : Int), (i : Int), (lt : Int), es, (co : Int), rf == 1, bi, bt, bc, (o : Int), d, la == 1⟩
theorem ReadM.is {l l' : List UInt8} {m : MsgD} {f' : Nat} (h : ReadM l m l' f') : Vt l = (m, l', f') := by
 obtain ⟨k, l0, f0, h0, a, l1, f1, h1, b, l2, f2, h2, t, l3, f3, h3, i, l4, f4, h4, lt, l5, f5, h5, co, l6, f6, h6, es, l7, f7, h7, rf, l8, f8, h8, bi, bt, bc, l9, f9, h9, o, l10, f10, h10, la, l11, f11, h11, d, h12, rfl⟩ := h
 simp only [Vt, h0, h1, h2, h3, h4, h5, h6, h7, h8, h9, h10, h11, h12]
end Go.Proofs.YtjcfimmcogkopaaGreat
namespace Go.Proofs.YtjcfimmcogkopaaGreat
end Go.Proofs.YtjcfimmcogkopaaGreat
