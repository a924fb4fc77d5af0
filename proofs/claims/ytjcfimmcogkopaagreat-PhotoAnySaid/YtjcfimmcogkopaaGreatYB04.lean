/-
  RpcF · RpcA · RpcB · RpcC · App · Bld · RpcD · DskS · DskW
-/
import Derived.Test.YtjcfimmcogkopaaGreatYA05
import Derived.Test.YtjcfimmcogkopaaGreatYB02
import Derived.Test.YtjcfimmcogkopaaGreatYB03
set_option linter.unusedSimpArgs false
set_option linter.unusedVariables false
set_option maxRecDepth 100000
namespace Go.Proofs.YtjcfimmcogkopaaGreat
structure RentsAt (n : Nat) (l : List UInt8) (f : Nat) (es : List EntD) (j : Nat) (l1 : List UInt8) : Prop where
  le : j ≤ n
  len : es.length = j
  right : ∀ e, e ∈ es → HI e = true
  rest : ∀ es' l' f', JJ (n - j) l1 0 = (es', l', f') → JJ n l f = (es ++ es', l', f')
theorem RentsAt.step {n j : Nat} {l l1 l2 : List UInt8} {f : Nat} {es : List EntD} {e : EntD} (h : RentsAt n l f es j l1) (hj : j < n) (he : NQ l1 0 = (e, l2, 0)) : RentsAt n l f (es ++ [e]) (j + 1) l2 where
  le := hj
  len := by rw [List.length_append, h.len]; rfl
  right x hx := by
    rcases List.mem_append.1 hx with hx | hx
    · exact h.right x hx
    · rw [List.mem_singleton.1 hx]; exact Pj he
  rest es' l' f' hr := by
    have e1 : n - j = (n - (j + 1)) + 1 := by omega
    have := h.rest (e :: es') l' f' (by rw [e1]; exact S9 he hr)
    rw [this, List.append_assoc]; rfl
theorem RentsAt.done {n : Nat} {l l1 : List UInt8} {f : Nat} {es : List EntD} (h : RentsAt n l f es n l1) : JJ n l f = (es, l1, 0) := by
 have := h.rest [] l1 0 (by rw [Nat.sub_self]; rfl)
 rwa [List.append_nil] at this
end Go.Proofs.YtjcfimmcogkopaaGreat
namespace Go.Proofs.YtjcfimmcogkopaaGreat.Sep
open Go.RowKit
open Go.Proofs.YtjcfimmcogkopaaGreat.Mem (AZ Ci Chg Au)
def ML (c : Int) : Bool := Ge c && c != 0
theorem KN (w : World) (c : Int) (r : Bool) (hr : Ge c = r) : Calls Tryz.prog 79 #[.int .i64 c] w fun e w' => e = .returned (.bool r) ∧ Below w.heap.size w w' := by
 refine Fz (args := [.int .i64 c]) 14 Tryz.func79 rfl rfl rfl (Ad (Af An rfl (Ab ?_)))
 have hc : c < 0 ∨ (0 ≤ c ∧ c ≤ 254 ∧ c % 2 = 0) ∨ (0 ≤ c ∧ c ≤ 254 ∧ c % 2 ≠ 0) ∨ 254 < c := by omega
 rcases hc with h1 | ⟨h1, h2, h3⟩ | ⟨h1, h2, h3⟩ | h1
 obtain rfl : r = false := by rw [← hr]; simp [ML, Ge]; omega
 refine Ad (Af An rfl (Ac rfl (.bool false) (fun b w hb hH => Bc rfl rfl rfl (Di (by omega)) hb) (Af An rfl (Ab (Av ?_)))))
 exact As (.tmp rfl) (fun w h => ⟨rfl, Au h.up⟩) rfl
 obtain rfl : r = true := by rw [← hr]; simp [ML, Ge]; omega
 refine Ad (Af An rfl (Ac rfl (.bool true) (fun b w hb hH => Bc rfl rfl rfl (B5 (by omega)) hb) (Af An rfl (Ac rfl (.bool true) (fun b w hb hH => Bc rfl rfl rfl (C2 (by omega)) hb) (Af An rfl (Ac rfl (.int .i64 (c % 2)) (fun b w hb hH => DT rfl rfl rfl (by decide) (Int.tmod_eq_emod_of_nonneg (by omega)) hb) (Ac rfl (.bool true) (fun b w hb hH => Bc rfl rfl rfl (JV h3) hb) (Af An rfl (Ab (Av ?_))))))))))
 exact As (.tmp rfl) (fun w h => ⟨rfl, Au h.up⟩) rfl
 obtain rfl : r = false := by rw [← hr]; simp [ML, Ge]; omega
 refine Ad (Af An rfl (Ac rfl (.bool true) (fun b w hb hH => Bc rfl rfl rfl (B5 (by omega)) hb) (Af An rfl (Ac rfl (.bool true) (fun b w hb hH => Bc rfl rfl rfl (C2 (by omega)) hb) (Af An rfl (Ac rfl (.int .i64 (c % 2)) (fun b w hb hH => DT rfl rfl rfl (by decide) (Int.tmod_eq_emod_of_nonneg (by omega)) hb) (Ac rfl (.bool false) (fun b w hb hH => Bc rfl rfl rfl (JR h3) hb) (Af An rfl (Ab (Av ?_))))))))))
 exact As (.tmp rfl) (fun w h => ⟨rfl, Au h.up⟩) rfl
 obtain rfl : r = false := by rw [← hr]; simp [ML, Ge]; omega
 refine Ad (Af An rfl (Ac rfl (.bool true) (fun b w hb hH => Bc rfl rfl rfl (B5 (by omega)) hb) (Af An rfl (Ac rfl (.bool false) (fun b w hb hH => Bc rfl rfl rfl (DS (by omega)) hb) (Af An rfl (Ab (Av ?_)))))))
 exact As (.tmp rfl) (fun w h => ⟨rfl, Au h.up⟩) rfl
theorem Ji (w : World) (b0 b1 b2 : Int) (r : Bool) (hr : (Ef b0 && Ef b1 && Ge b2 && b2 != 0) = r) : Calls Tryz.prog 46 #[.agg #[.int .u64 b0, .int .u64 b1, .int .i64 b2]] w fun e w' => e = .returned (.bool r) ∧ Below w.heap.size w w' := by
 obtain ⟨v1, hv1⟩ : ∃ v1, Ef b0 = v1 := ⟨_, rfl⟩
 obtain ⟨v2, hv2⟩ : ∃ v2, Ef b1 = v2 := ⟨_, rfl⟩
 obtain ⟨v3, hv3⟩ : ∃ v3, ML b2 = v3 := ⟨_, rfl⟩
 obtain ⟨v4, hv4⟩ : ∃ v4, Ge b2 = v4 := ⟨_, rfl⟩
 have hR : (v1 && v2 && v3) = r := by rw [← hr, ← hv1, ← hv2, ← hv3]; unfold ML; simp only [Bool.and_assoc]
 refine Fz (args := [.agg #[.int .u64 b0, .int .u64 b1, .int .i64 b2]]) 21 Tryz.func46 rfl rfl rfl (Ad (Af An rfl (Aj (post := fun gb => [cell gb 31 #[.int .u64 b0, .int .u64 b1, .int .i64 b2]]) rfl (CU (cs := #[.int .u64 b0, .int .u64 b1, .int .i64 b2]) rfl rfl rfl) ?_))); rintro gb
 refine Af An rfl (Ab ?_)
 cases v1
 obtain rfl : r = false := by rw [← hR]; rfl
 refine Ad (Af An rfl (Ac rfl (.int .u64 b0) (fun b w hb hH => Bb rfl rfl (Bn Bz rfl) (hH.row 0 rfl) hb) (Aj (post := fun _ => [cell gb 31 #[.int .u64 b0, .int .u64 b1, .int .i64 b2]]) rfl (Bg (Ag Tryz.func78 (by kernel_rfl) rfl) (fun w hH => CP w true b0 false (by simpa [Gu] using hv1)) rfl rfl rfl) ?_))); rintro ⟨⟩
 refine Af An rfl (Ab (Av ?_))
 exact As (.tmp rfl) (fun w h => ⟨rfl, Au h.up⟩) rfl
 cases v2
 obtain rfl : r = false := by rw [← hR]; rfl
 refine Ad (Af An rfl (Ac rfl (.int .u64 b0) (fun b w hb hH => Bb rfl rfl (Bn Bz rfl) (hH.row 0 rfl) hb) (Aj (post := fun _ => [cell gb 31 #[.int .u64 b0, .int .u64 b1, .int .i64 b2]]) rfl (Bg (Ag Tryz.func78 (by kernel_rfl) rfl) (fun w hH => CP w true b0 true (by simpa [Gu] using hv1)) rfl rfl rfl) ?_))); rintro ⟨⟩
 refine Af An rfl (Ac rfl (.int .u64 b1) (fun b w hb hH => Bb rfl rfl (Bn Bz rfl) (hH.row 0 rfl) hb) (Aj (post := fun _ => [cell gb 31 #[.int .u64 b0, .int .u64 b1, .int .i64 b2]]) rfl (Bg (Ag Tryz.func78 (by kernel_rfl) rfl) (fun w hH => CP w true b1 false (by simpa [Gu] using hv2)) rfl rfl rfl) ?_)); rintro ⟨⟩
 refine Af An rfl (Ab (Av ?_))
 exact As (.tmp rfl) (fun w h => ⟨rfl, Au h.up⟩) rfl
 cases v4
 obtain rfl : r = false := by rw [← hR, ← hv3]; simp [ML, hv4]
 refine Ad (Af An rfl (Ac rfl (.int .u64 b0) (fun b w hb hH => Bb rfl rfl (Bn Bz rfl) (hH.row 0 rfl) hb) (Aj (post := fun _ => [cell gb 31 #[.int .u64 b0, .int .u64 b1, .int .i64 b2]]) rfl (Bg (Ag Tryz.func78 (by kernel_rfl) rfl) (fun w hH => CP w true b0 true (by simpa [Gu] using hv1)) rfl rfl rfl) ?_))); rintro ⟨⟩
 refine Af An rfl (Ac rfl (.int .u64 b1) (fun b w hb hH => Bb rfl rfl (Bn Bz rfl) (hH.row 0 rfl) hb) (Aj (post := fun _ => [cell gb 31 #[.int .u64 b0, .int .u64 b1, .int .i64 b2]]) rfl (Bg (Ag Tryz.func78 (by kernel_rfl) rfl) (fun w hH => CP w true b1 true (by simpa [Gu] using hv2)) rfl rfl rfl) ?_)); rintro ⟨⟩
 refine Af An rfl (Ac rfl (.int .i64 b2) (fun b w hb hH => Bb rfl rfl (Bn Bt rfl) (hH.row 0 rfl) hb) (Aj (post := fun _ => [cell gb 31 #[.int .u64 b0, .int .u64 b1, .int .i64 b2]]) rfl (Bg (Ag Tryz.func79 (by kernel_rfl) rfl) (fun w hH => KN w b2 false hv4) rfl rfl rfl) ?_)); rintro ⟨⟩
 refine Af An rfl (Ab (Av ?_))
 exact As (.tmp rfl) (fun w h => ⟨rfl, Au h.up⟩) rfl
 by_cases hc : b2 = 0
 obtain rfl : r = false := by rw [← hR, ← hv3]; simp [ML, hc]
 refine Ad (Af An rfl (Ac rfl (.int .u64 b0) (fun b w hb hH => Bb rfl rfl (Bn Bz rfl) (hH.row 0 rfl) hb) (Aj (post := fun _ => [cell gb 31 #[.int .u64 b0, .int .u64 b1, .int .i64 b2]]) rfl (Bg (Ag Tryz.func78 (by kernel_rfl) rfl) (fun w hH => CP w true b0 true (by simpa [Gu] using hv1)) rfl rfl rfl) ?_))); rintro ⟨⟩
 refine Af An rfl (Ac rfl (.int .u64 b1) (fun b w hb hH => Bb rfl rfl (Bn Bz rfl) (hH.row 0 rfl) hb) (Aj (post := fun _ => [cell gb 31 #[.int .u64 b0, .int .u64 b1, .int .i64 b2]]) rfl (Bg (Ag Tryz.func78 (by kernel_rfl) rfl) (fun w hH => CP w true b1 true (by simpa [Gu] using hv2)) rfl rfl rfl) ?_)); rintro ⟨⟩
 refine Af An rfl (Ac rfl (.int .i64 b2) (fun b w hb hH => Bb rfl rfl (Bn Bt rfl) (hH.row 0 rfl) hb) (Aj (post := fun _ => [cell gb 31 #[.int .u64 b0, .int .u64 b1, .int .i64 b2]]) rfl (Bg (Ag Tryz.func79 (by kernel_rfl) rfl) (fun w hH => KN w b2 true hv4) rfl rfl rfl) ?_)); rintro ⟨⟩
 refine Af An rfl (Ac rfl (.int .i64 b2) (fun b w hb hH => Bb rfl rfl (Bn Bt rfl) (hH.row 0 rfl) hb) (Ac rfl (.bool false) (fun b w hb hH => Bc rfl rfl rfl (AK hc) hb) (Af An rfl (Ab (Av ?_)))))
 exact As (.tmp rfl) (fun w h => ⟨rfl, Au h.up⟩) rfl
 obtain rfl : r = true := by rw [← hR, ← hv3]; simp [ML, hv4, hc]
 refine Ad (Af An rfl (Ac rfl (.int .u64 b0) (fun b w hb hH => Bb rfl rfl (Bn Bz rfl) (hH.row 0 rfl) hb) (Aj (post := fun _ => [cell gb 31 #[.int .u64 b0, .int .u64 b1, .int .i64 b2]]) rfl (Bg (Ag Tryz.func78 (by kernel_rfl) rfl) (fun w hH => CP w true b0 true (by simpa [Gu] using hv1)) rfl rfl rfl) ?_))); rintro ⟨⟩
 refine Af An rfl (Ac rfl (.int .u64 b1) (fun b w hb hH => Bb rfl rfl (Bn Bz rfl) (hH.row 0 rfl) hb) (Aj (post := fun _ => [cell gb 31 #[.int .u64 b0, .int .u64 b1, .int .i64 b2]]) rfl (Bg (Ag Tryz.func78 (by kernel_rfl) rfl) (fun w hH => CP w true b1 true (by simpa [Gu] using hv2)) rfl rfl rfl) ?_)); rintro ⟨⟩
 refine Af An rfl (Ac rfl (.int .i64 b2) (fun b w hb hH => Bb rfl rfl (Bn Bt rfl) (hH.row 0 rfl) hb) (Aj (post := fun _ => [cell gb 31 #[.int .u64 b0, .int .u64 b1, .int .i64 b2]]) rfl (Bg (Ag Tryz.func79 (by kernel_rfl) rfl) (fun w hH => KN w b2 true hv4) rfl rfl rfl) ?_)); rintro ⟨⟩
 refine Af An rfl (Ac rfl (.int .i64 b2) (fun b w hb hH => Bb rfl rfl (Bn Bt rfl) (hH.row 0 rfl) hb) (Ac rfl (.bool true) (fun b w hb hH => Bc rfl rfl rfl (BO hc) hb) (Af An rfl (Ab (Av ?_)))))
 exact As (.tmp rfl) (fun w h => ⟨rfl, Au h.up⟩) rfl
end Go.Proofs.YtjcfimmcogkopaaGreat.Sep
namespace Go.Proofs.YtjcfimmcogkopaaGreat.Sep
open Go.RowKit
open Go.Proofs.YtjcfimmcogkopaaGreat.Mem (AZ Ci Chg Au)
theorem J4 {w : World} {A : Option Addr} {n c : Nat} {l : List UInt8} (h : D6 w (.slice A n c) l) : l.length ≤ c := by
 obtain ⟨A', c', e, hb⟩ := h
 simp only [Value.slice.injEq] at e
 obtain ⟨rfl, _, rfl⟩ := e
 exact hb.1
theorem Cu.mid {X : Ass} {A : Option Addr} {c i j : Nat} {l : List UInt8} (h : Cu X (.slice A l.length c) l) (hij : i ≤ j) (hj : j ≤ l.length) : Cu X (.slice (if c = i then A else A.map (·.add i)) (j - i) (c - i)) ((l.take j).drop i) := fun rs w h1 h2 => by
  have h3 := (h rs w h1 h2).takes hj
  have hl : (l.take j).length = j := by rw [List.length_take]; omega
  have h4 := h3.drop (k := i) (by omega)
  rw [List.length_drop, hl] at h4
  exact h4
theorem II {A : Option Addr} {n c i j : Nat} : Cp 1 (.slice A n c) i j = .slice (if c = i then A else A.map (·.add i)) (j - i) (c - i) := by
  show Value.slice (if c = i then A else A.map (·.add (i * 1))) (j - i) (c - i) = _
  rw [Nat.mul_one]
theorem NS {most n sz e : Nat} {l : List UInt8} {f : Nat} (hf : f = 0) (hv : BC most l 0 0 = (n, sz, e)) (he : e ≠ 0) : BZ (most : Int) l f = ([], l, e) := by
 unfold BZ
 rw [if_neg (by simp [hf]), Int.toNat_natCast, hv, if_pos he]
theorem NT {most n sz : Nat} {l : List UInt8} {f : Nat} (hf : f = 0) (hv : BC most l 0 0 = (n, sz, 0)) (hn : l.length - sz < n) : BZ (most : Int) l f = ([], l, 10) := by
 unfold BZ
 rw [if_neg (by simp [hf]), Int.toNat_natCast, hv, if_neg (by simp), if_pos hn]
theorem Pk {most n sz : Nat} {l : List UInt8} {f : Nat} (hf : f = 0) (hv : BC most l 0 0 = (n, sz, 0)) (hn : ¬ l.length - sz < n) : BZ (most : Int) l f = ((l.drop sz).take n, l.drop (sz + n), f) := by
 unfold BZ
 rw [if_neg (by simp [hf]), Int.toNat_natCast, hv, if_neg (by simp), if_neg hn, hf]
theorem UM {w : World} {A : Option Addr} {c : Nat} {l : List UInt8} (h : D6 w (.slice A l.length c) l) (hl : l.length ≤ 140737488355328) (most : Nat) (hm : most < 18446744073709551616) (n sz e : Nat) (hv : BC most l 0 0 = (n, sz, e)) : Calls Tryz.prog 102 #[.slice A l.length c, .int .u64 (most : Int)] w fun x w' => x = .returned (.tuple #[.int .u64 (n : Int), .int .i64 (sz : Int), .int .i64 (e : Int)]) ∧ Below w.heap.size w w' := QA h hl most hm (n, sz, e) hv
theorem UN (most : Nat) (l : List UInt8) : (BC most l 0 0).1 ≤ most := by
  rcases FC most l 0 0 (by omega) (by decide) with ⟨_, _, _, h, _⟩ | ⟨h, _⟩
  · exact h
  · rw [h]; exact Nat.zero_le _
theorem QK (g : Nat) (l : List UInt8) (f most : Nat) (hm : most ≤ 9223372036854775807) (R : List UInt8 × List UInt8 × Nat) (h : BZ (most : Int) l f = R) : AW Tryz.prog 95 #[.pointer (some ⟨g, 0, none⟩), .int .i64 (most : Int)] [DY g l f] (fun (v : Value) => v) (fun (v : Value) => [DY g R.2.1 R.2.2, Ap 5 1 encB v R.1]) := by
  refine Be (args := [.pointer (some ⟨g, 0, none⟩), .int .i64 (most : Int)]) 68 Tryz.func95 rfl rfl rfl ?_; intro w rs
  refine Bd 0 rfl DY.open_ (fun _ => rfl) ?_; rintro ⟨⟨X, A, c⟩, hR, hL⟩
  refine Bv.keep (env' := [(0, .pointer (some ⟨g, 0, none⟩)), (1, .int .i64 (most : Int))]) ⟨rfl, rfl, trivial⟩ (Bv.mid [cell g 138 #[.slice A l.length c, .int .i64 (f : Int)], X] (.refl _) (Ad (Af An rfl (Ab (Aq ?_)))))
  by_cases hf : f = 0
  have hz := QF most l
  have hle := UN most l
  obtain ⟨⟨n, sz, e2⟩, hv⟩ : ∃ R, BC most l 0 0 = R := ⟨_, rfl⟩
  rw [hv] at hz hle
  simp only at hz hle
  refine Ad (Af An rfl (Ac rfl (.pointer (some ⟨g, 0, none⟩)) (fun b w hb hH => by exact BQ rfl rfl hb) (Af An rfl (Ac rfl (.int .i64 (f : Int)) (fun b w hb hH => Bb rfl rfl (Bn BJ rfl) (hH.row 0 rfl) hb) (Ac rfl (.bool false) (fun b w hb hH => Bc rfl rfl rfl (AK (by omega)) hb) (Ab (Aw rfl (AC (AO (Ad (Af An rfl (Ac rfl (.pointer (some ⟨g, 0, none⟩)) (fun b w hb hH => by exact BQ rfl rfl hb) (Af An rfl ?_)))))))))))))
  refine Ac rfl (.slice A l.length c) (fun b w hb hH => Bb rfl rfl (Bn Cy rfl) (hH.row 0 rfl) hb) (Af An rfl (Ac rfl (.int .i64 (most : Int)) (fun b w hb hH => BT rfl rfl (fun cs => (fun w cs => SE (by rw [if_neg (by omega)]) _ _ w cs) w cs) hb) (Ac rfl (.int .u64 (most : Int)) (fun b w hb hH => AR Tryz.underlying3 Tryz.underlying29 (IntWalk.u64_in _ (by omega)) rfl rfl hb) (Aj (post := fun _ => [cell g 138 #[.slice A l.length c, .int .i64 (f : Int)], X]) rfl (Bg (Ag Tryz.func102 (by kernel_rfl) rfl) (fun w hH => UM (hH.rd8 1 rfl hR) hL most (by omega) n sz e2 hv) rfl rfl rfl) ?_)))); rintro ⟨⟩
  refine Af An rfl (Ab (Aq ?_))
  by_cases he : e2 = 0
  subst he
  refine Ad (Af An rfl (Ac rfl (.bool false) (fun b w hb hH => Bc rfl rfl rfl (AK (by omega)) hb) (Ab (Aw rfl (AC (AO (Aq ?_)))))))
  by_cases hn : l.length - sz < n
  obtain rfl : R = ([], l, 10) := h.symm.trans (NT hf hv hn)
  refine Ad (Af An rfl (Ac rfl (.int .i64 (n : Int)) (fun b w hb hH => AR Tryz.underlying29 Tryz.underlying3 (IntWalk.i64_in _ (by omega)) rfl rfl hb) (Af An rfl (Ac rfl (.pointer (some ⟨g, 0, none⟩)) (fun b w hb hH => by exact BQ rfl rfl hb) (Af An rfl (Ac rfl (.slice A l.length c) (fun b w hb hH => Bb rfl rfl (Bn Cy rfl) (hH.row 0 rfl) hb) (Ac rfl (.int .i64 (l.length : Int)) (fun b w hb hH => Gp AE rfl rfl hH hb) (Af An rfl (Ac rfl (.int .i64 ((l.length : Int) - (sz : Int))) (fun b w hb hH => AS rfl rfl rfl rfl (IntWalk.i64_in _ (by omega)) hb) ?_)))))))))
  refine Ac rfl (.bool true) (fun b w hb hH => Bc rfl rfl rfl (B4 (by omega)) hb) (Ab (AI rfl (Ad (Af An rfl (Ac rfl (.pointer (some ⟨g, 0, none⟩)) (fun b w hb hH => by exact BQ rfl rfl hb) (Af An rfl (AU (post := fun _ => [cell g 138 #[.slice A l.length c, .int .i64 10], X]) rfl rfl (AQ 0 (v := .int .i64 10) #[.slice A l.length c, .int .i64 10] BJ.2 rfl rfl rfl rfl rfl rfl rfl rfl rfl) ?_))))))); rintro ⟨⟩
  refine Ab (Bk [0, 1] rfl (DY.mk_ rfl hR hL) rfl (BY 5 1 encB (Ad (Af An rfl (Ab (Av (C0 ?_)))))))
  exact As (.tmp rfl) (fun w h => AG (.slice none 0 0) rfl [1, 0] rfl h CV) rfl
  obtain ⟨A2, hA2⟩ : ∃ A2, (if c = (sz + n) then A else A.map (·.add (sz + n))) = A2 := ⟨_, rfl⟩
  obtain ⟨l2, hl2⟩ : ∃ l2, l.drop (sz + n) = l2 := ⟨_, rfl⟩
  have hR2 : Cu X (.slice A2 l2.length (c - (sz + n))) l2 := by rw [← hA2, ← hl2]; exact hR.drop (by omega)
  have hn2 : l2.length = l.length - (sz + n) := by rw [← hl2, List.length_drop]
  have hL2 : l2.length ≤ 140737488355328 := by omega
  have hsub : Cp 1 (.slice A l.length c) (sz + n) l.length = .slice A2 l2.length (c - (sz + n)) := by rw [← hA2]; exact Kt (by omega) (by omega)
  obtain ⟨A3, hA3⟩ : ∃ A3, (if c = sz then A else A.map (·.add sz)) = A3 := ⟨_, rfl⟩
  obtain ⟨l3, hl3⟩ : ∃ l3, (l.take (sz + n)).drop sz = l3 := ⟨_, rfl⟩
  have hR3 : Cu X (.slice A3 (sz + n - sz) (c - sz)) l3 := by rw [← hA3, ← hl3]; exact hR.mid (by omega) (by omega)
  have hsub3 : Cp 1 (.slice A l.length c) sz (sz + n) = .slice A3 (sz + n - sz) (c - sz) := by rw [← hA3]; exact II
  have hl4 : (l.drop sz).take n = l3 := by rw [← hl3, List.drop_take, Nat.add_sub_cancel_left]
  have hl5 : l3.length ≤ 140737488355328 := by rw [← hl4, List.length_take, List.length_drop]; omega
  obtain rfl : R = (l3, l2, f) := by rw [← h, ← hl4, ← hl2]; exact Pk hf hv hn
  refine Ad (Af An rfl (Ac rfl (.int .i64 (n : Int)) (fun b w hb hH => AR Tryz.underlying29 Tryz.underlying3 (IntWalk.i64_in _ (by omega)) rfl rfl hb) (Af An rfl (Ac rfl (.pointer (some ⟨g, 0, none⟩)) (fun b w hb hH => by exact BQ rfl rfl hb) (Af An rfl (Ac rfl (.slice A l.length c) (fun b w hb hH => Bb rfl rfl (Bn Cy rfl) (hH.row 0 rfl) hb) (Ac rfl (.int .i64 (l.length : Int)) (fun b w hb hH => Gp AE rfl rfl hH hb) (Af An rfl (Ac rfl (.int .i64 ((l.length : Int) - (sz : Int))) (fun b w hb hH => AS rfl rfl rfl rfl (IntWalk.i64_in _ (by omega)) hb) ?_)))))))))
  refine Ac rfl (.bool false) (fun b w hb hH => Bc rfl rfl rfl (BE (by omega)) hb) (Ab (Aw rfl (AC (AO (Ad (Af An rfl (Ac rfl (.int .i64 (n : Int)) (fun b w hb hH => AR Tryz.underlying29 Tryz.underlying3 (IntWalk.i64_in _ (by omega)) rfl rfl hb) (Ac rfl (.int .i64 ((sz + n : Nat) : Int)) (fun b w hb hH => AS rfl rfl rfl rfl (by rw [IntWalk.i64_in _ (by omega)]; omega) hb) (Af An rfl (Ab (Ad (Af An rfl (Ac rfl (.pointer (some ⟨g, 0, none⟩)) (fun b w hb hH => by exact BQ rfl rfl hb) (Af An rfl ?_))))))))))))))
  refine Ac rfl (.slice A l.length c) (fun b w hb hH => Bb rfl rfl (Bn Cy rfl) (hH.row 0 rfl) hb) (Af An rfl (Ac rfl (.slice A3 (sz + n - sz) (c - sz)) (fun b w hb hH => Vr (i := sz) (j := (sz + n)) AE hsub3 (by omega) (Nat.le_trans (by omega) (J4 (A := A) (n := l.length) (c := c) (hH.rd8 1 rfl hR))) rfl rfl rfl rfl hH hb) (Aj rfl (Am (os' := fun v9 => [Ap 5 1 encB v9 l3, cell g 138 #[.slice A l.length c, .int .i64 (f : Int)], X]) [1] 0 (Ag Tryz.func64 (by kernel_rfl) rfl) (Gv hR3 hl5) rfl rfl rfl (fun _ => rfl) rfl rfl rfl) ?_))); rintro v9
  refine Af An rfl (Ab (Bv.keep (env' := [(0, .pointer (some ⟨g, 0, none⟩)), (4, .slice none 0 0), (8, .int .i64 ((sz + n : Nat) : Int)), (9, v9)]) ⟨rfl, rfl, rfl, rfl, trivial⟩ (Ad (Af An rfl (Ac rfl (.pointer (some ⟨g, 0, none⟩)) (fun b w hb hH => by exact BQ rfl rfl hb) (Af An rfl (Ac rfl (.slice A l.length c) (fun b w hb hH => Bb rfl rfl (Bn Cy rfl) (hH.row 1 rfl) hb) (Af An rfl (Ac rfl (.slice A2 l2.length (c - (sz + n))) (fun b w hb hH => FB (i := (sz + n)) AE hsub (by omega) rfl rfl rfl hH hb) ?_)))))))))
  refine Ac rfl (.pointer (some ⟨g, 0, none⟩)) (fun b w hb hH => by exact BQ rfl rfl hb) (Af An rfl (AU (post := fun _ => [Ap 5 1 encB v9 l3, cell g 138 #[.slice A2 l2.length (c - (sz + n)), .int .i64 (f : Int)], X]) rfl rfl (AQ 1 (v := .slice A2 l2.length (c - (sz + n))) #[.slice A2 l2.length (c - (sz + n)), .int .i64 (f : Int)] Cy.2 rfl rfl rfl rfl rfl rfl rfl rfl rfl) ?_)); rintro ⟨⟩
  refine Ab (Bk [1, 2] rfl (DY.mk_ rfl hR2 hL2) rfl (Ad (Af An rfl (Ab (Av ?_)))))
  exact As (.tmp rfl) (fun w h => AG v9 rfl [0, 1] rfl h CV) rfl
  obtain rfl : R = ([], l, e2) := h.symm.trans (NS hf hv he)
  refine Ad (Af An rfl (Ac rfl (.bool true) (fun b w hb hH => Bc rfl rfl rfl (BO (by omega)) hb) (Ab (AI rfl (Ad (Af An rfl (Ac rfl (.pointer (some ⟨g, 0, none⟩)) (fun b w hb hH => by exact BQ rfl rfl hb) (Af An rfl (AU (post := fun _ => [cell g 138 #[.slice A l.length c, .int .i64 (e2 : Int)], X]) rfl rfl (AQ 0 (v := .int .i64 (e2 : Int)) #[.slice A l.length c, .int .i64 (e2 : Int)] BJ.2 rfl rfl rfl rfl rfl rfl rfl rfl rfl) ?_))))))))); rintro ⟨⟩
  refine Ab (Bk [0, 1] rfl (DY.mk_ rfl hR hL) rfl (BY 5 1 encB (Ad (Af An rfl (Ab (Av (C0 ?_)))))))
  exact As (.tmp rfl) (fun w h => AG (.slice none 0 0) rfl [1, 0] rfl h CV) rfl
  obtain rfl : R = ([], l, f) := h.symm.trans (ND hf)
  refine Ad (Af An rfl (Ac rfl (.pointer (some ⟨g, 0, none⟩)) (fun b w hb hH => by exact BQ rfl rfl hb) (Af An rfl (Ac rfl (.int .i64 (f : Int)) (fun b w hb hH => Bb rfl rfl (Bn BJ rfl) (hH.row 0 rfl) hb) (Ac rfl (.bool true) (fun b w hb hH => Bc rfl rfl rfl (BO (by omega)) hb) (Ab (AI rfl (Bk [0, 1] rfl (DY.mk_ rfl hR hL) rfl (BY 5 1 encB (Ad ?_))))))))))
  refine Af An rfl (Ab (Av (C0 ?_)))
  exact As (.tmp rfl) (fun w h => AG (.slice none 0 0) rfl [1, 0] rfl h CV) rfl
end Go.Proofs.YtjcfimmcogkopaaGreat.Sep
namespace Go.Proofs.YtjcfimmcogkopaaGreat.Sep
open Go.RowKit
open Go.Proofs.YtjcfimmcogkopaaGreat.Mem (AZ Ci Chg Au)
end Go.Proofs.YtjcfimmcogkopaaGreat.Sep
namespace Go.Proofs.YtjcfimmcogkopaaGreat.Sep
open Go.RowKit
open Go.Proofs.YtjcfimmcogkopaaGreat.Mem (AZ Ci Chg)
section
variable {P : Program} {t e ty : TypeId} {k : Nat} {α : Type} {enc : α → List Value} {v u : Value} {l m : List α} {w w' : World} {rs : List RowT}
theorem NU {nb : Nat} (hT : SliceT P t e k) (hb : (P.info? e).map (fun i => i.bytes) = some nb) (hb1 : 1 ≤ nb) (he : EncOf k enc) (h : Ap e k enc v l rs) (hr : RowsOf w rs) (hd : AZ rs) (hu : DX w k u m.length (flat enc m)) (hlen : (l.length + m.length) * nb ≤ 140737488355328) :
    ∃ v' w', (Builtin.append_ #[t, t] ty #[v, u]).run P w = .ok v' w' ∧ ∃ rs', Ap e k enc v' (l ++ m) rs' ∧ Chg w w' rs rs' := by
  obtain ⟨i, z, hi, hz, hk, hby, hzs, _⟩ := hT.inf
  have hbn : i.bytes = nb := by simpa [hi] using hb
  have hl1 : l.length + m.length ≤ 140737488355328 := Nat.le_trans (Nat.le_mul_of_pos_right _ hb1) hlen
  obtain ⟨hul, A, c, rfl, hA⟩ := hu
  have hu1 := Kj he m
  rcases hA with ⟨rfl, hm⟩ | ⟨a, rfl, hcells⟩
  · have hm' : m = [] := List.length_eq_zero_iff.1 hm
    subst hm'
    refine ⟨v, w, ?_, rs, by simpa using h, ⟨Mod.refl _ _, hr, hd, fun x hx _ => ⟨x, hx, rfl⟩⟩⟩
    rcases h with ⟨h1, h2, h3⟩ | ⟨g, c', cs, h1, h2, h3, h4, h5, h6⟩
    · subst h1
      simp [Builtin.append_, run_underlying hT.ht, sizeOf, typeInfo, hi, Builtin.lenOf, Builtin.firstCells]
    · subst h1
      simp [Builtin.append_, run_underlying hT.ht, sizeOf, typeInfo, hi, Builtin.lenOf, Builtin.firstCells, h2, storeCells]
  · have hown : w.ownsRow 0 e k v l.length (flat enc l) := by
      refine ⟨D3 he l, ?_⟩
      rcases h with ⟨h1, h2, h3⟩ | ⟨g, c', cs, h1, h2, h3, h4, h5, h6⟩
      · exact .inl ⟨h1, by rw [h2]; rfl⟩
      · subst h6
        exact .inr ⟨g, c', cs, h1, Nat.zero_le _, hr.1, h2, h3, h4, h5⟩
    obtain ⟨v', w', hrun, h2, h3, _, h5⟩ := run_append_own_at (P := P) w 0 t ty e i z k i.bytes hT.ht hi hz hk rfl hzs hT.pos v l.length (flat enc l) hown a m.length c (flat enc m) hul hcells hu1 (by unfold maxLen; omega)
      (by rw [hbn]; omega) (Nat.zero_le _)
    refine ⟨v', w', hrun, ?_⟩
    have hm : Mod (At v) w w' := Mod.of_grown h3 (fun k hk => hk)
    have hmB : Mod (Ci rs) w w' := hm.weaken fun j _ hj => by
      rcases h with ⟨h1, _, _⟩ | ⟨g, c', cs, h1, _, _, _, _, h6⟩
      · subst h1; unfold At at hj; simp [Value.ownBlock] at hj
      · subst h1; subst h6
        unfold At at hj
        simp [Value.ownBlock] at hj
        exact ⟨(g, Ed e, cs), by simp, hj⟩
    rcases h2.2 with ⟨h1, hn⟩ | ⟨g, c', cs, h1, _, hrow, hle, hmx, hsz, htk⟩
    · have : l ++ m = [] := List.length_eq_zero_iff.1 (by rw [List.length_append]; exact hn)
      exact ⟨[], .inl ⟨h1, this, rfl⟩, ⟨hmB, trivial, trivial, fun x hx => by simp at hx⟩⟩
    · refine ⟨[(g, Ed e, cs)], .inr ⟨g, c', cs, by rw [h1, List.length_append], by rw [List.length_append]; exact hle, hmx, hsz, by rw [List.length_append, Io]; exact htk, rfl⟩, ⟨hmB, ⟨hrow, trivial⟩, ⟨(fun _ h => by cases h), trivial⟩, fun x hx hlt => ?_⟩⟩
      have : x = (g, Ed e, cs) := by simpa using hx
      subst this
      rcases h5 with h5 | h5
      · subst h1
        rcases h with ⟨h1, _, _⟩ | ⟨g', c'', cs', h1, _, _, _, _, h6⟩
        · subst h1; simp [Value.ownBlock] at h5
        · subst h1; subst h6
          simp [Value.ownBlock] at h5
          exact ⟨(g', Ed e, cs'), by simp, h5.symm⟩
      · subst h1
        simp [Value.ownBlock] at h5
        exact absurd hlt (by show ¬ g < w.heap.size; omega)
variable {Q : Exit → Act → World → Prop} {n : Nat} {B : Nat → Prop} {w0 : World} {os : List Ass} {env : List (Nat × Value)} {o : Oper}
theorem Ha {nb : Nat} (i : Nat) (hT : SliceT P t e k) (he : EncOf k enc) (hb : (P.info? e).map (fun i => i.bytes) = some nb) (hb1 : 1 ≤ nb) (hi : os[i]? = some (Ap e k enc v l)) (m : List α) (hu : ∀ w, Hp B w0 w os → DX w k u m.length (flat enc m)) (hlen : (l.length + m.length) * nb ≤ 140737488355328) {x y : Operand} (ho : o.op = .call { callee := .builtin .append, args := #[x, y], argTypes := #[t, t] }) (hx : evs env x = some v) (hy : evs env y = some u) {r : List α} (hr : l ++ m = r) :
  Bq P Q n env B w0 os o (fun v : Value => v) (fun v' => os.set i (Ap e k enc v' r)) := fun act w hH hF K hK => by
 subst hr
 have hH' := hH
 obtain ⟨rs0, hp, hm⟩ := hH
 obtain ⟨a, z, b, e1, hz, hbb⟩ := hp.at_ hi
 subst e1
 have p : (a ++ (z ++ b)).Perm (z ++ (a ++ b)) := by rw [← List.append_assoc, ← List.append_assoc]; exact List.perm_append_comm.append_right b
 have h5 := CN hm p
 have hd := Bf.1 h5.apart
 rw [List.map_append] at hd
 obtain ⟨v', w', hr, y', hy', hc⟩ := NU (P := P) (ty := o.type) hT hb hb1 he hz (AN.2 fun z hz => h5.rows.mem z (by simp [hz])) (Bf.2 (List.nodup_append.1 hd).1) (hu w hH') hlen
 have p' : (y' ++ (a ++ b)).Perm (a ++ (y' ++ b)) := by rw [← List.append_assoc, ← List.append_assoc]; exact List.perm_append_comm.append_right b
 refine E8 (w0 := w) act (ER ho (vs := [v, u]) (by simp [evl, hx, hy]) (fun cs => ?_) hF) (hK v' w' ⟨_, hbb _ y' hy', CN (E6 h5 hc) p'⟩)
 simp only [builtin, Sem.run_bind, Sem.run_pure, Result.andThen_ok, hr]
end
end Go.Proofs.YtjcfimmcogkopaaGreat.Sep
namespace Go.Proofs.YtjcfimmcogkopaaGreat.Sep
open Go.RowKit
open Go.Proofs.YtjcfimmcogkopaaGreat.Mem (AZ Ci Chg)
theorem NV : ∀ (ys : List Value) (n : Nat) (cs : Array Value), n + ys.length ≤ cs.size →
    ((ys.zipIdx n).foldl (fun (cs : Array Value) (p : Value × Nat) => cs.setIfInBounds p.2 p.1) cs).toList = cs.toList.take n ++ ys ++ cs.toList.drop (n + ys.length)
  | [], n, cs, _ => by simp
  | y :: ys, n, cs, h => by
    have hl : (y :: ys).length = ys.length + 1 := rfl
    have hn : n < cs.toList.length := by rw [Array.length_toList]; omega
    rw [List.zipIdx_cons, List.foldl_cons, NV ys (n + 1) _ (by rw [Array.size_setIfInBounds]; omega), Array.toList_setIfInBounds]
    have e1 : (cs.toList.set n y).take (n + 1) = cs.toList.take n ++ [y] := by
      rw [List.set_eq_take_append_cons_drop, if_pos hn, List.take_append, List.length_take, Nat.min_eq_left (by omega), List.take_of_length_le (by rw [List.length_take]; omega), show n + 1 - n = 1 by omega]
      rfl
    have e2 : (cs.toList.set n y).drop (n + 1 + ys.length) = cs.toList.drop (n + (ys.length + 1)) := by
      rw [List.drop_set, if_pos (by omega)]
      congr 1
      omega
    rw [e1, e2, hl]
    simp
variable {P : Program} {Q : Exit → Act → World → Prop} {n : Nat} {B : Nat → Prop} {w0 : World} {os : List Ass} {env : List (Nat × Value)} {o : Oper}
variable {t e : TypeId} {k : Nat} {α : Type} {enc : α → List Value}
theorem Ta {v : Value} {cells : Array Value} (h : v.cells.size = cells.size) (hk : v.cells.size = k) : Instr.fill (fun i => some (i * k, k)) cells [(0, v)] = some v.cells := by
 have h1 : ¬ ((v.cells.size ≠ k || 0 * k + v.cells.size > cells.size) = true) := by simp [hk]; omega
 have h2 : (v.cells.zipIdx.foldl (fun (cs : Array Value) (p : Value × Nat) => cs.setIfInBounds (0 * k + p.2) p.1) cells) = v.cells := by
  have hf : (fun (cs : Array Value) (p : Value × Nat) => cs.setIfInBounds (0 * k + p.2) p.1) = fun cs p => cs.setIfInBounds p.2 p.1 := by
   funext cs p
   rw [Nat.zero_mul, Nat.zero_add]
  rw [hf, ← Array.foldl_toList, Array.toList_zipIdx]
  apply Array.toList_inj.1
  rw [NV _ 0 _ (by rw [Array.length_toList]; omega), Array.length_toList]
  simp [h]
 unfold Instr.fill
 simp only
 rw [if_neg h1]
 exact congrArg some h2
theorem Pl (hT : SliceT P t e k) (hk : k ≤ 4096) {x : Value} (hx : x.cells.size = k) (w : World) : (Instr.buildSlice t 1 #[(0, x)]).run P w = .ok (.slice (some ⟨w.heap.size, 0, none⟩) 1 1) (w.alloc (.cells x.cells e)) := by
 obtain ⟨inf, z, hinf, hz, hsz, _, hzs, _⟩ := hT.inf
 have hp := hT.pos
 have hf : Instr.fill (fun i => some (i * k, k)) ((Array.range k).map (fun j => z.cells[j % z.cells.size]!)) [(0, x)] = some x.cells := Ta (by simp [hx]) hx
 have h1 : ¬ 1 * k > 2 ^ 24 := by omega
 have h2 : ¬ 1 * k = 0 := by omega
 simp only [Instr.buildSlice, run_underlying hT.ht, hT.sizeOf, Sem.run_bind, Sem.run_pure, Result.andThen_ok, if_neg h1, if_neg h2, zeroValue, typeInfo, hinf, hz]
 simp [newRow, zeroValue, typeInfo, hinf, hz, h1, h2]
 rw [hf]
 simp
theorem Fd (hT : SliceT P t e k) (hk : k ≤ 4096) (he : EncOf k enc) {x : Operand} {c : Value} (a : α) (hc : c.cells.toList = enc a) (ho : o.op = .buildSlice t 1 #[(0, x)]) (hx : evs env x = some c) : Bq P Q n env B w0 os o (fun v : Value => v) (fun v => Ap e k enc v [a] :: os) := fun b w hH hF K hK => by
 have hsz : c.cells.size = k := by rw [← he.len a, ← hc, Array.length_toList]
 have hrun : (execOp b.eval o).run P w = .ok (.value (.slice (some ⟨w.heap.size, 0, none⟩) 1 1)) (w.alloc (.cells c.cells e)) := by
  unfold execOp
  simp [ho, hF.evs hx, Sem.run_bind, Pl hT hk hsz]
 refine E8 (w0 := w) b hrun (hK _ _ ?_)
 have := hH.new e c.cells
 obtain ⟨rs, ⟨r1, r2, e1, h1, h2⟩, h3⟩ := this
 unfold cell at h1
 exact ⟨rs, ⟨r1, r2, e1, .inr ⟨w.heap.size, 1, c.cells, rfl, Nat.le_refl _, by unfold maxLen; omega, by simp [hsz], by rw [hc]; simp only [flat, List.flatMap_cons, List.flatMap_nil, List.append_nil, List.length_cons, List.length_nil, Nat.zero_add, Nat.one_mul]; exact List.take_of_length_le (by rw [he.len]; exact Nat.le_refl _), h1⟩, h2⟩, h3⟩
end Go.Proofs.YtjcfimmcogkopaaGreat.Sep
namespace Go.Proofs.YtjcfimmcogkopaaGreat.Sep
open Go.RowKit
open Go.Proofs.YtjcfimmcogkopaaGreat.Mem (AZ Ci Chg Au)
section
variable {P : Program} {ops : Array Oper} {Q : Exit → Act → World → Prop} {n : Nat} {env : List (Nat × Value)} {B : Nat → Prop} {w0 : World} {os : List Ass} {t : Ass}
theorem RI (h : t []) : ∀ rs, Ak os rs → ∃ _ : Unit, ∃ rs', rs.Perm rs' ∧ Ak (t :: os) rs' := fun rs hr => ⟨(), rs, .refl _, [], rs, rfl, h, hr⟩
theorem Hy (h0 : t []) {c : Code} (h : Bv P Q n env B w0 (t :: os) c) : Bv P Q n env B w0 os c := Bv.via (fun _ : Unit => _) (RI h0) fun _ => h
theorem C5 {xs : List Ass} {p : Prop} (hp : p) {z : List RowT} (h : Ak xs z) : Ak (xs ++ [fact p]) z := by
 have := Ak.app h (show Ak [fact p] [] from ⟨[], [], rfl, ⟨rfl, hp⟩, rfl⟩)
 rwa [List.append_nil] at this
end
end Go.Proofs.YtjcfimmcogkopaaGreat.Sep
namespace Go.Proofs.YtjcfimmcogkopaaGreat.Sep
open Go.RowKit
open Go.Proofs.YtjcfimmcogkopaaGreat.Mem (AZ Ci Chg Au)
end Go.Proofs.YtjcfimmcogkopaaGreat.Sep
namespace Go.Proofs.YtjcfimmcogkopaaGreat.Sep
open Go.RowKit
def OpD.size : OpD → Nat
  | .app _ b => b.length
  | _ => 0
def DiskD.fit (d : DiskD) : Prop := AF d.syn + (d.wait.map OpD.size).sum ≤ 1099511627776 ∧ d.wait.length ≤ 10000
def KO (m n : Nat) (L : List (List UInt8)) : Prop := L.length ≤ m ∧ ∀ b, b ∈ L → b.length ≤ n
theorem QL {n : Nat} : ∀ {L : List (List UInt8)}, (∀ b, b ∈ L → b.length ≤ n) → L.flatten.length ≤ L.length * n
  | [], _ => by simp
  | b :: r, h => by
    have h1 := h b (List.mem_cons_self ..)
    have h2 := QL (L := r) fun c hc => h c (List.mem_cons_of_mem _ hc)
    rw [List.flatten_cons, List.length_append, List.length_cons, Nat.succ_mul]
    omega
theorem KO.flat {m n : Nat} {L : List (List UInt8)} (h : KO m n L) : L.flatten.length ≤ m * n := Nat.le_trans (QL h.2) (Nat.mul_le_mul_right n h.1)
theorem KO.take {m n : Nat} {L : List (List UInt8)} (h : KO m n L) (i : Nat) : KO m n (L.take i) := ⟨by have := h.1; rw [List.length_take]; omega, fun b hb => h.2 b (List.mem_of_mem_take hb)⟩
def encKs (s : List UInt8) : List Value := [.string (bs s)]
end Go.Proofs.YtjcfimmcogkopaaGreat.Sep
