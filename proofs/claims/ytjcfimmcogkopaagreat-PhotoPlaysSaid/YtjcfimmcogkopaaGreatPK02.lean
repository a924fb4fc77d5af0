/-
  PhA
-/
import Derived.Test.YtjcfimmcogkopaaGreatPB03
import Derived.Test.YtjcfimmcogkopaaGreatPB04
import Derived.Test.YtjcfimmcogkopaaGreatPE01
import Derived.Test.YtjcfimmcogkopaaGreatPE02
import Derived.Test.YtjcfimmcogkopaaGreatPI01
import Derived.Test.YtjcfimmcogkopaaGreatPK01
set_option linter.unusedSimpArgs false
set_option linter.unusedVariables false
set_option maxRecDepth 100000
namespace Go.Proofs.YtjcfimmcogkopaaGreat.Sep
open Go.RowKit
open Go.Proofs.YtjcfimmcogkopaaGreat.Mem (Bh Cs Chg AA)
theorem Nq (w : World) (n : Int) (r : Bool) (hr : EC n = r) : Calls Tryz.prog 44 #[.int .u64 n] w fun e w' => e = .returned (.bool r) ∧ Below w.heap.size w w' := by
 refine Fj (args := [.int .u64 n]) 9 Tryz.func44 rfl rfl rfl ?_
 unfold EC at hr
 refine Ad (Ae Ag rfl (Ab ?_))
 rcases Classical.em (n ≥ 1) with h1 | h1
 rcases Classical.em (n ≤ 72057594037927935) with h2 | h2
 obtain rfl : r = true := by rw [← hr]; simp [h1, h2]
 refine Ad (Ae Ag rfl (Aa rfl (.bool true) (fun b w hb hH => AZ rfl rfl rfl (B1 h1) hb) (Ae Ag rfl (Aa rfl (.bool true) (fun b w hb hH => AZ rfl rfl rfl (Dk h2) hb) (Ae Ag rfl (Ab (Ax ?_)))))))
 exact Aw (.tmp rfl) (fun w h => ⟨rfl, AA h.up⟩) rfl
 obtain rfl : r = false := by rw [← hr]; simp [h2]
 refine Ad (Ae Ag rfl (Aa rfl (.bool true) (fun b w hb hH => AZ rfl rfl rfl (B1 h1) hb) (Ae Ag rfl (Aa rfl (.bool false) (fun b w hb hH => AZ rfl rfl rfl (DO (by omega)) hb) (Ae Ag rfl (Ab (Ax ?_)))))))
 exact Aw (.tmp rfl) (fun w h => ⟨rfl, AA h.up⟩) rfl
 obtain rfl : r = false := by rw [← hr]; simp [h1]
 refine Ad (Ae Ag rfl (Aa rfl (.bool false) (fun b w hb hH => AZ rfl rfl rfl (C6 (by omega)) hb) (Ae Ag rfl (Ab (Ax ?_)))))
 exact Aw (.tmp rfl) (fun w h => ⟨rfl, AA h.up⟩) rfl
theorem Xr (w : World) (c : Int) (r : Bool) (hr : (GU c && (c != 0)) = r) : Calls Tryz.prog 45 #[.int .i64 c] w fun e w' => e = .returned (.bool r) ∧ Below w.heap.size w w' := by
 refine Fj (args := [.int .i64 c]) 14 Tryz.func45 rfl rfl rfl ?_
 have hr2 : (decide (c > 0) && (decide (c ≤ 254) && decide (c % 2 = 0))) = r := by rw [← hr, Bool.eq_iff_iff]; unfold GU; simp only [Bool.and_eq_true, decide_eq_true_eq, bne_iff_ne, ne_eq]; omega
 refine Ad (Ae Ag rfl (Ab ?_))
 rcases Classical.em (c > 0) with h1 | h1
 rcases Classical.em (c ≤ 254) with h2 | h2
 rcases Classical.em (c % 2 = 0) with h3 | h3
 obtain rfl : r = true := by rw [← hr2]; simp [h1, h2, h3]
 refine Ad (Ae Ag rfl (Aa rfl (.bool true) (fun b w hb hH => AZ rfl rfl rfl (B0 h1) hb) (Ae Ag rfl (Aa rfl (.bool true) (fun b w hb hH => AZ rfl rfl rfl (Dk h2) hb) (Ae Ag rfl (Aa rfl (.int .i64 (c % 2)) (fun b w hb hH => DR rfl rfl rfl (by decide) (Rt (Int.le_of_lt h1)) hb) (Aa rfl (.bool true) (fun b w hb hH => AZ rfl rfl rfl (GT h3) hb) (Ae Ag rfl (Ab (Ax ?_))))))))))
 exact Aw (.tmp rfl) (fun w h => ⟨rfl, AA h.up⟩) rfl
 obtain rfl : r = false := by rw [← hr2]; simp [h3]
 refine Ad (Ae Ag rfl (Aa rfl (.bool true) (fun b w hb hH => AZ rfl rfl rfl (B0 h1) hb) (Ae Ag rfl (Aa rfl (.bool true) (fun b w hb hH => AZ rfl rfl rfl (Dk h2) hb) (Ae Ag rfl (Aa rfl (.int .i64 (c % 2)) (fun b w hb hH => DR rfl rfl rfl (by decide) (Rt (Int.le_of_lt h1)) hb) (Aa rfl (.bool false) (fun b w hb hH => AZ rfl rfl rfl (Fu (by omega)) hb) (Ae Ag rfl (Ab (Ax ?_))))))))))
 exact Aw (.tmp rfl) (fun w h => ⟨rfl, AA h.up⟩) rfl
 obtain rfl : r = false := by rw [← hr2]; simp [h2]
 refine Ad (Ae Ag rfl (Aa rfl (.bool true) (fun b w hb hH => AZ rfl rfl rfl (B0 h1) hb) (Ae Ag rfl (Aa rfl (.bool false) (fun b w hb hH => AZ rfl rfl rfl (DO (by omega)) hb) (Ae Ag rfl (Ab (Ax ?_)))))))
 exact Aw (.tmp rfl) (fun w h => ⟨rfl, AA h.up⟩) rfl
 obtain rfl : r = false := by rw [← hr2]; simp [h1]
 refine Ad (Ae Ag rfl (Aa rfl (.bool false) (fun b w hb hH => AZ rfl rfl rfl (BI (by omega)) hb) (Ae Ag rfl (Ab (Ax ?_)))))
 exact Aw (.tmp rfl) (fun w h => ⟨rfl, AA h.up⟩) rfl
theorem Xs (w : World) (i t c : Int) {A : Option Addr} {n cp : Nat} (r : Bool) (hr : (EC i && (EC t && ((GU c && (c != 0)) && decide (n ≤ 32768)))) = r) : Calls Tryz.prog 15 #[.agg #[.int .u64 i, .int .u64 t, .int .i64 c, .slice A n cp]] w fun e w' => e = .returned (.bool r) ∧ Below w.heap.size w w' := by
 refine Fj (args := [.agg #[.int .u64 i, .int .u64 t, .int .i64 c, .slice A n cp]]) 25 Tryz.func15 rfl rfl rfl (Ad (Ae Ag rfl (Aj (post := fun g => [cell g 34 #[.int .u64 i, .int .u64 t, .int .i64 c, .slice A n cp]]) rfl (CL (cs := #[.int .u64 i, .int .u64 t, .int .i64 c, .slice A n cp]) rfl rfl rfl) ?_))); rintro g
 refine Ae Ag rfl (Ab ?_)
 rcases hi : EC i with _ | _
 rotate_left
 rcases ht : EC t with _ | _
 rotate_left
 rcases hc : (GU c && (c != 0)) with _ | _
 rotate_left
 rcases Classical.em (n ≤ 32768) with hn | hn
 obtain rfl : r = true := by rw [← hr, hi, ht, hc]; simp [hn]
 refine Ad (Ae Ag rfl (Aa rfl (.int .u64 i) (fun b w hb hH => Ba rfl rfl (Bm By rfl) (hH.row 0 rfl) hb) (Aj (post := fun _ => [cell g 34 #[.int .u64 i, .int .u64 t, .int .i64 c, .slice A n cp]]) rfl (AU (Ai Tryz.func44 (by kernel_rfl) rfl) (fun w hH => Nq w i true hi) rfl rfl rfl) ?_))); rintro ⟨⟩
 refine Ae Ag rfl (Aa rfl (.int .u64 t) (fun b w hb hH => Ba rfl rfl (Bm By rfl) (hH.row 0 rfl) hb) (Aj (post := fun _ => [cell g 34 #[.int .u64 i, .int .u64 t, .int .i64 c, .slice A n cp]]) rfl (AU (Ai Tryz.func44 (by kernel_rfl) rfl) (fun w hH => Nq w t true ht) rfl rfl rfl) ?_)); rintro ⟨⟩
 refine Ae Ag rfl (Aa rfl (.int .i64 c) (fun b w hb hH => Ba rfl rfl (Bm Bc rfl) (hH.row 0 rfl) hb) (Aj (post := fun _ => [cell g 34 #[.int .u64 i, .int .u64 t, .int .i64 c, .slice A n cp]]) rfl (AU (Ai Tryz.func45 (by kernel_rfl) rfl) (fun w hH => Xr w c true hc) rfl rfl rfl) ?_)); rintro ⟨⟩
 refine Ae Ag rfl (Aa rfl (.slice A n cp) (fun b w hb hH => Ba rfl rfl (Bm Cx rfl) (hH.row 0 rfl) hb) (Aa rfl (.int .i64 (n : Int)) (fun b w hb hH => FT AJ rfl rfl hH hb) (Aa rfl (.bool true) (fun b w hb hH => AZ rfl rfl rfl (Dk (by omega)) hb) (Ae Ag rfl (Ab (Ax ?_))))))
 exact Aw (.tmp rfl) (fun w h => ⟨rfl, AA h.up⟩) rfl
 obtain rfl : r = false := by rw [← hr, hi, ht, hc]; simp [hn]
 refine Ad (Ae Ag rfl (Aa rfl (.int .u64 i) (fun b w hb hH => Ba rfl rfl (Bm By rfl) (hH.row 0 rfl) hb) (Aj (post := fun _ => [cell g 34 #[.int .u64 i, .int .u64 t, .int .i64 c, .slice A n cp]]) rfl (AU (Ai Tryz.func44 (by kernel_rfl) rfl) (fun w hH => Nq w i true hi) rfl rfl rfl) ?_))); rintro ⟨⟩
 refine Ae Ag rfl (Aa rfl (.int .u64 t) (fun b w hb hH => Ba rfl rfl (Bm By rfl) (hH.row 0 rfl) hb) (Aj (post := fun _ => [cell g 34 #[.int .u64 i, .int .u64 t, .int .i64 c, .slice A n cp]]) rfl (AU (Ai Tryz.func44 (by kernel_rfl) rfl) (fun w hH => Nq w t true ht) rfl rfl rfl) ?_)); rintro ⟨⟩
 refine Ae Ag rfl (Aa rfl (.int .i64 c) (fun b w hb hH => Ba rfl rfl (Bm Bc rfl) (hH.row 0 rfl) hb) (Aj (post := fun _ => [cell g 34 #[.int .u64 i, .int .u64 t, .int .i64 c, .slice A n cp]]) rfl (AU (Ai Tryz.func45 (by kernel_rfl) rfl) (fun w hH => Xr w c true hc) rfl rfl rfl) ?_)); rintro ⟨⟩
 refine Ae Ag rfl (Aa rfl (.slice A n cp) (fun b w hb hH => Ba rfl rfl (Bm Cx rfl) (hH.row 0 rfl) hb) (Aa rfl (.int .i64 (n : Int)) (fun b w hb hH => FT AJ rfl rfl hH hb) (Aa rfl (.bool false) (fun b w hb hH => AZ rfl rfl rfl (DO (by omega)) hb) (Ae Ag rfl (Ab (Ax ?_))))))
 exact Aw (.tmp rfl) (fun w h => ⟨rfl, AA h.up⟩) rfl
 obtain rfl : r = false := by rw [← hr, hi]; rfl
 refine Ad (Ae Ag rfl (Aa rfl (.int .u64 i) (fun b w hb hH => Ba rfl rfl (Bm By rfl) (hH.row 0 rfl) hb) (Aj (post := fun _ => [cell g 34 #[.int .u64 i, .int .u64 t, .int .i64 c, .slice A n cp]]) rfl (AU (Ai Tryz.func44 (by kernel_rfl) rfl) (fun w hH => Nq w i false hi) rfl rfl rfl) ?_))); rintro ⟨⟩
 refine Ae Ag rfl (Ab (Ax ?_))
 exact Aw (.tmp rfl) (fun w h => ⟨rfl, AA h.up⟩) rfl
 obtain rfl : r = false := by rw [← hr, hi, ht]; rfl
 refine Ad (Ae Ag rfl (Aa rfl (.int .u64 i) (fun b w hb hH => Ba rfl rfl (Bm By rfl) (hH.row 0 rfl) hb) (Aj (post := fun _ => [cell g 34 #[.int .u64 i, .int .u64 t, .int .i64 c, .slice A n cp]]) rfl (AU (Ai Tryz.func44 (by kernel_rfl) rfl) (fun w hH => Nq w i true hi) rfl rfl rfl) ?_))); rintro ⟨⟩
 refine Ae Ag rfl (Aa rfl (.int .u64 t) (fun b w hb hH => Ba rfl rfl (Bm By rfl) (hH.row 0 rfl) hb) (Aj (post := fun _ => [cell g 34 #[.int .u64 i, .int .u64 t, .int .i64 c, .slice A n cp]]) rfl (AU (Ai Tryz.func44 (by kernel_rfl) rfl) (fun w hH => Nq w t false ht) rfl rfl rfl) ?_)); rintro ⟨⟩
 refine Ae Ag rfl (Ab (Ax ?_))
 exact Aw (.tmp rfl) (fun w h => ⟨rfl, AA h.up⟩) rfl
 obtain rfl : r = false := by rw [← hr, hi, ht, hc]; rfl
 refine Ad (Ae Ag rfl (Aa rfl (.int .u64 i) (fun b w hb hH => Ba rfl rfl (Bm By rfl) (hH.row 0 rfl) hb) (Aj (post := fun _ => [cell g 34 #[.int .u64 i, .int .u64 t, .int .i64 c, .slice A n cp]]) rfl (AU (Ai Tryz.func44 (by kernel_rfl) rfl) (fun w hH => Nq w i true hi) rfl rfl rfl) ?_))); rintro ⟨⟩
 refine Ae Ag rfl (Aa rfl (.int .u64 t) (fun b w hb hH => Ba rfl rfl (Bm By rfl) (hH.row 0 rfl) hb) (Aj (post := fun _ => [cell g 34 #[.int .u64 i, .int .u64 t, .int .i64 c, .slice A n cp]]) rfl (AU (Ai Tryz.func44 (by kernel_rfl) rfl) (fun w hH => Nq w t true ht) rfl rfl rfl) ?_)); rintro ⟨⟩
 refine Ae Ag rfl (Aa rfl (.int .i64 c) (fun b w hb hH => Ba rfl rfl (Bm Bc rfl) (hH.row 0 rfl) hb) (Aj (post := fun _ => [cell g 34 #[.int .u64 i, .int .u64 t, .int .i64 c, .slice A n cp]]) rfl (AU (Ai Tryz.func45 (by kernel_rfl) rfl) (fun w hH => Xr w c false hc) rfl rfl rfl) ?_)); rintro ⟨⟩
 refine Ae Ag rfl (Ab (Ax ?_))
 exact Aw (.tmp rfl) (fun w h => ⟨rfl, AA h.up⟩) rfl
theorem SS (s : SnV) : (EC s.i && (EC s.t && ((GU s.c && (s.c != 0)) && decide (s.d.length ≤ 32768)))) = D9 s := by unfold D9; simp only [Bool.and_assoc]
theorem Fz (w : World) {s : SnV} {A : Option Addr} {cp : Nat} (r : Bool) (h : D9 s = r) : Calls Tryz.prog 15 #[.agg #[.int .u64 s.i, .int .u64 s.t, .int .i64 s.c, .slice A s.d.length cp]] w fun e w' => e = .returned (.bool r) ∧ Below w.heap.size w w' :=
 Xs w _ _ _ r ((SS s).trans h)
theorem ST {u : World} {s : SnV} {A : Option Addr} {cp : Nat} (hk : SnOk s) (hv : D6 u (.slice A s.d.length cp) s.d) : EG u Tryz.prog 48 #[.agg #[.int .u64 s.i, .int .u64 s.t, .int .i64 s.c, .slice A s.d.length cp]] [] (fun (v : Value) => v) (fun (v : Value) => [Ar 5 1 encB v (Ff s)]) := by
 refine M1 (args := [.agg #[.int .u64 s.i, .int .u64 s.t, .int .i64 s.c, .slice A s.d.length cp]]) 27 Tryz.func48 rfl rfl rfl ?_; intro w rs hU hS
 have h1 := hk.i
 have h2 := hk.t
 have h3 := hk.c
 have h5 := hk.d
 have e1 : (De s.i).length ≤ 8 := Cb 7 s.i.toNat (by omega)
 have e2 : (De s.t).length ≤ 8 := Cb 7 s.t.toNat (by omega)
 refine Ad (Ae Ag rfl (Aj (post := fun g1 => [cell g1 34 #[.int .u64 s.i, .int .u64 s.t, .int .i64 s.c, .slice A s.d.length cp]]) rfl (CL (cs := #[.int .u64 s.i, .int .u64 s.t, .int .i64 s.c, .slice A s.d.length cp]) rfl rfl rfl) ?_)); rintro g1
 refine Ae Ag rfl (Ab (Ad (Ae Ag rfl (Aj rfl (Ak (os' := fun g => [M3 g ([]), cell g1 34 #[.int .u64 s.i, .int .u64 s.t, .int .i64 s.c, .slice A s.d.length cp]]) [] 0 (Ai Tryz.func82 (by kernel_rfl) rfl) (WN) rfl rfl rfl (fun _ => rfl) rfl rfl rfl) ?_)))); rintro g
 refine Ae Ag rfl (Ab (Ad (Ae Ag rfl (Aa rfl (.int .u64 s.i) (fun b w hb hH => Ba rfl rfl (Bm By rfl) (hH.row 1 rfl) hb) (Aj rfl (Ak (os' := fun _ => [M3 g (De s.i), cell g1 34 #[.int .u64 s.i, .int .u64 s.t, .int .i64 s.c, .slice A s.d.length cp]]) [0] 0 (Ai Tryz.func83 (by kernel_rfl) rfl) (Tw g [] s.i ⟨by omega, by omega⟩ (De s.i) rfl (by simp)) rfl rfl rfl (fun _ => rfl) rfl rfl rfl) ?_))))); rintro ⟨⟩
 refine Ab (Ad (Ae Ag rfl (Aa rfl (.int .u64 s.t) (fun b w hb hH => Ba rfl rfl (Bm By rfl) (hH.row 1 rfl) hb) (Aj rfl (Ak (os' := fun _ => [M3 g (De s.i ++ De s.t), cell g1 34 #[.int .u64 s.i, .int .u64 s.t, .int .i64 s.c, .slice A s.d.length cp]]) [0] 0 (Ai Tryz.func83 (by kernel_rfl) rfl) (Tw g (De s.i) s.t ⟨by omega, by omega⟩ (De s.i ++ De s.t) rfl (by omega)) rfl rfl rfl (fun _ => rfl) rfl rfl rfl) ?_)))); rintro ⟨⟩
 refine Ab (Ad (Ae Ag rfl (Aa rfl (.int .i64 s.c) (fun b w hb hH => Ba rfl rfl (Bm Bc rfl) (hH.row 1 rfl) hb) (Aa rfl (.int .u8 s.c) (fun b w hb hH => AW Tryz.underlying3 Tryz.underlying5 (IntWalk.u8_in _ (by omega)) rfl rfl hb) (Aj rfl (Ak (os' := fun _ => [M3 g (IG (s.i, s.t, s.c)), cell g1 34 #[.int .u64 s.i, .int .u64 s.t, .int .i64 s.c, .slice A s.d.length cp]]) [0] 0 (Ai Tryz.func84 (by kernel_rfl) rfl) (Vu g (De s.i ++ De s.t) s.c ⟨by omega, by omega⟩ (IG (s.i, s.t, s.c)) (by unfold IG; simp) (by rw [List.length_append]; omega)) rfl rfl rfl (fun _ => rfl) rfl rfl rfl) ?_))))); rintro ⟨⟩
 refine Ab (Ad (Ae Ag rfl (Aa rfl (.slice A s.d.length cp) (fun b w hb hH => Ba rfl rfl (Bm Cx rfl) (hH.row 1 rfl) hb) (Aj (post := fun _ => [M3 g (Ff s), cell g1 34 #[.int .u64 s.i, .int .u64 s.t, .int .i64 s.c, .slice A s.d.length cp]]) rfl (Kr hU hS (os' := fun _ => [M3 g (Ff s), cell g1 34 #[.int .u64 s.i, .int .u64 s.t, .int .i64 s.c, .slice A s.d.length cp]]) [0] 0 (Ai Tryz.func85 (by kernel_rfl) rfl) (TP hv g (IG (s.i, s.t, s.c)) (Ff s) rfl (by unfold IG; simp only [List.length_append, List.length_cons, List.length_nil]; omega)) rfl rfl rfl (fun _ => rfl) rfl rfl rfl) ?_)))); rintro ⟨⟩
 refine Ab (Ad (Ae Ag rfl (Aj rfl (Ak (os' := fun v => [Ar 5 1 encB v (Ff s), M3 g (Ff s), cell g1 34 #[.int .u64 s.i, .int .u64 s.t, .int .i64 s.c, .slice A s.d.length cp]]) [0] 0 (Ai Tryz.func86 (by kernel_rfl) rfl) (Tx g (Ff s) (by have := Hy hk; omega)) rfl rfl rfl (fun _ => rfl) rfl rfl rfl) ?_))); rintro v
 refine Ae Ag rfl (Ab (Ax ?_))
 exact Aw (.tmp rfl) (fun w h => AH v rfl [0] rfl h CK) rfl
theorem Qr {u : World} {v : Value} {l : List UInt8} (hv : D6 u v l) (hl : l.length ≤ 65536) {s : SnV} (ho : Ju l = some s) : EG u Tryz.prog 76 #[v] [] (fun (x : Option Addr × Nat) => .tuple #[.agg #[.int .u64 s.i, .int .u64 s.t, .int .i64 s.c, .slice x.1 s.d.length x.2], .bool true]) (fun (x : Option Addr × Nat) => [Ar 5 1 encB (.slice x.1 s.d.length x.2) s.d]) := by
 obtain ⟨⟨n1, l1, f1⟩, h1⟩ : ∃ R, BW 72057594037927935 l 0 = R := ⟨_, rfl⟩
 obtain ⟨⟨n2, l2, f2⟩, h2⟩ : ∃ R, BW 72057594037927935 l1 f1 = R := ⟨_, rfl⟩
 obtain ⟨x3, l3, f3, h3⟩ := Q5 254 l2 f2
 obtain ⟨⟨d, l4, f4⟩, h4⟩ : ∃ R, B8 32768 l3 f3 = R := ⟨_, rfl⟩
 obtain ⟨r5, h5⟩ : ∃ r, DP l4 f4 = r := ⟨_, rfl⟩
 have hx3 := x3.toNat_lt
 rw [Hx (FK h1 h2 h3) h4, h5] at ho
 obtain ⟨rr, hrr⟩ : ∃ rr, D9 ⟨(n1 : Int), (n2 : Int), (x3.toNat : Int), d⟩ = rr := ⟨_, rfl⟩
 rw [hrr] at ho
 have hr5 : r5 = 0 := by by_cases e : r5 = 0; exact e; rw [if_neg e] at ho; cases ho
 rw [if_pos hr5] at ho
 have hrt : rr = true := by by_cases e : rr = true; exact e; rw [if_neg e] at ho; cases ho
 rw [if_pos hrt] at ho
 subst hrt
 obtain rfl := Option.some.inj ho
 refine M1 (args := [v]) 34 Tryz.func76 rfl rfl rfl ?_; intro w rs hU hS
 refine Ad (Ae Ag rfl (Aj (post := fun g2 => [cell g2 34 #[.int .u64 0, .int .u64 0, .int .i64 0, .slice none 0 0]]) rfl (BT Bl rfl) ?_)); rintro g2
 refine Ae Ag rfl (Ab (Ad (Ae Ag rfl (Aj (post := fun g => [Eh g l 0, cell g2 34 #[.int .u64 0, .int .u64 0, .int .i64 0, .slice none 0 0]]) rfl (Kr hU hS (os' := fun g => [Eh g l 0, cell g2 34 #[.int .u64 0, .int .u64 0, .int .i64 0, .slice none 0 0]]) [] 0 (Ai Tryz.func92 (by kernel_rfl) rfl) (TL u v l hv (by omega)) rfl rfl rfl (fun _ => rfl) rfl rfl rfl) ?_)))); rintro g
 refine Ae Ag rfl (Ab (Ad (Ae Ag rfl (Aj (post := fun gs => [cell gs 34 #[.int .u64 0, .int .u64 0, .int .i64 0, .slice none 0 0], Eh g l 0, cell g2 34 #[.int .u64 0, .int .u64 0, .int .i64 0, .slice none 0 0]]) rfl (BT Bl rfl) ?_)))); rintro gs
 refine Ab (Ad (Ae Ag rfl (Aj rfl (Ak (os' := fun _ => [cell gs 34 #[.int .u64 0, .int .u64 0, .int .i64 0, .slice none 0 0], Eh g l1 f1, cell g2 34 #[.int .u64 0, .int .u64 0, .int .i64 0, .slice none 0 0]]) [1] 0 (Ai Tryz.func93 (by kernel_rfl) rfl) (Nc g l 0 72057594037927935 (by decide) (n1, l1, f1) h1) rfl rfl rfl (fun _ => rfl) rfl rfl rfl) ?_))); rintro ⟨⟩
 refine Ae Ag rfl (AF (post := fun _ => [cell gs 34 #[.int .u64 ((n1 : Nat) : Int), .int .u64 0, .int .i64 0, .slice none 0 0], Eh g l1 f1, cell g2 34 #[.int .u64 0, .int .u64 0, .int .i64 0, .slice none 0 0]]) rfl rfl (AE 0 (v := .int .u64 ((n1 : Nat) : Int)) #[.int .u64 ((n1 : Nat) : Int), .int .u64 0, .int .i64 0, .slice none 0 0] By.2 rfl rfl rfl rfl rfl rfl rfl rfl rfl) ?_); rintro ⟨⟩
 refine Ab (Ad (Ae Ag rfl (Aj rfl (Ak (os' := fun _ => [cell gs 34 #[.int .u64 ((n1 : Nat) : Int), .int .u64 0, .int .i64 0, .slice none 0 0], Eh g l2 f2, cell g2 34 #[.int .u64 0, .int .u64 0, .int .i64 0, .slice none 0 0]]) [1] 0 (Ai Tryz.func93 (by kernel_rfl) rfl) (Nc g l1 f1 72057594037927935 (by decide) (n2, l2, f2) h2) rfl rfl rfl (fun _ => rfl) rfl rfl rfl) ?_))); rintro ⟨⟩
 refine Ae Ag rfl (AF (post := fun _ => [cell gs 34 #[.int .u64 ((n1 : Nat) : Int), .int .u64 ((n2 : Nat) : Int), .int .i64 0, .slice none 0 0], Eh g l2 f2, cell g2 34 #[.int .u64 0, .int .u64 0, .int .i64 0, .slice none 0 0]]) rfl rfl (AE 0 (v := .int .u64 ((n2 : Nat) : Int)) #[.int .u64 ((n1 : Nat) : Int), .int .u64 ((n2 : Nat) : Int), .int .i64 0, .slice none 0 0] By.2 rfl rfl rfl rfl rfl rfl rfl rfl rfl) ?_); rintro ⟨⟩
 refine Ab (Ad (Ae Ag rfl (Aj rfl (Ak (os' := fun _ => [cell gs 34 #[.int .u64 ((n1 : Nat) : Int), .int .u64 ((n2 : Nat) : Int), .int .i64 0, .slice none 0 0], Eh g l3 f3, cell g2 34 #[.int .u64 0, .int .u64 0, .int .i64 0, .slice none 0 0]]) [1] 0 (Ai Tryz.func94 (by kernel_rfl) rfl) (Q6 g l2 f2 254 (by decide) (x3.toNat, l3, f3) h3) rfl rfl rfl (fun _ => rfl) rfl rfl rfl) ?_))); rintro ⟨⟩
 refine Aa rfl (.int .i64 (x3.toNat : Int)) (fun b w hb hH => AW Tryz.underlying5 Tryz.underlying3 (IntWalk.i64_in _ (by omega)) rfl rfl hb) (Ae Ag rfl (AF (post := fun _ => [cell gs 34 #[.int .u64 ((n1 : Nat) : Int), .int .u64 ((n2 : Nat) : Int), .int .i64 (x3.toNat : Int), .slice none 0 0], Eh g l3 f3, cell g2 34 #[.int .u64 0, .int .u64 0, .int .i64 0, .slice none 0 0]]) rfl rfl (AE 0 (v := .int .i64 (x3.toNat : Int)) #[.int .u64 ((n1 : Nat) : Int), .int .u64 ((n2 : Nat) : Int), .int .i64 (x3.toNat : Int), .slice none 0 0] Bc.2 rfl rfl rfl rfl rfl rfl rfl rfl rfl) ?_)); rintro ⟨⟩
 refine Ab (Ad (Ae Ag rfl (Aj rfl (Ak (os' := fun v9 => [Ar 5 1 encB v9 d, cell gs 34 #[.int .u64 ((n1 : Nat) : Int), .int .u64 ((n2 : Nat) : Int), .int .i64 (x3.toNat : Int), .slice none 0 0], Eh g l4 f4, cell g2 34 #[.int .u64 0, .int .u64 0, .int .i64 0, .slice none 0 0]]) [1] 0 (Ai Tryz.func95 (by kernel_rfl) rfl) (Q9 g l3 f3 32768 (by decide) (d, l4, f4) h4) rfl rfl rfl (fun _ => rfl) rfl rfl rfl) ?_))); rintro v9
 refine Cf.fact 0 rfl (fun _ h => Ar.is h) ?_; rintro ⟨A9, c9, rfl⟩
 refine Ae Ag rfl (AF (post := fun _ => [Ar 5 1 encB (.slice A9 d.length c9) d, cell gs 34 #[.int .u64 ((n1 : Nat) : Int), .int .u64 ((n2 : Nat) : Int), .int .i64 (x3.toNat : Int), .slice A9 d.length c9], Eh g l4 f4, cell g2 34 #[.int .u64 0, .int .u64 0, .int .i64 0, .slice none 0 0]]) rfl rfl (AE 1 (v := .slice A9 d.length c9) #[.int .u64 ((n1 : Nat) : Int), .int .u64 ((n2 : Nat) : Int), .int .i64 (x3.toNat : Int), .slice A9 d.length c9] Cx.2 rfl rfl rfl rfl rfl rfl rfl rfl rfl) ?_); rintro ⟨⟩
 refine Ab (Av (Ad (Ae Ag rfl (Aj rfl (Ak (os' := fun _ => [Ar 5 1 encB (.slice A9 d.length c9) d, cell gs 34 #[.int .u64 ((n1 : Nat) : Int), .int .u64 ((n2 : Nat) : Int), .int .i64 (x3.toNat : Int), .slice A9 d.length c9], Eh g l4 f4, cell g2 34 #[.int .u64 0, .int .u64 0, .int .i64 0, .slice none 0 0]]) [2] 0 (Ai Tryz.func96 (by kernel_rfl) rfl) (PH g l4 f4 r5 h5) rfl rfl rfl (fun _ => rfl) rfl rfl rfl) ?_)))); rintro ⟨⟩
 refine Aa rfl (.bool false) (fun b w hb hH => AZ rfl rfl rfl (AP (by omega)) hb) (Ae Ag rfl (Aa rfl (.agg #[.int .u64 ((n1 : Nat) : Int), .int .u64 ((n2 : Nat) : Int), .int .i64 (x3.toNat : Int), .slice A9 d.length c9]) (fun b w hb hH => Ba rfl rfl (DM (cs := [.int .u64 ((n1 : Nat) : Int), .int .u64 ((n2 : Nat) : Int), .int .i64 (x3.toNat : Int), .slice A9 d.length c9]) Aq rfl) (hH.row 1 rfl) hb) (Aj (post := fun _ => [Ar 5 1 encB (.slice A9 d.length c9) d, cell gs 34 #[.int .u64 ((n1 : Nat) : Int), .int .u64 ((n2 : Nat) : Int), .int .i64 (x3.toNat : Int), .slice A9 d.length c9], Eh g l4 f4, cell g2 34 #[.int .u64 0, .int .u64 0, .int .i64 0, .slice none 0 0]]) rfl (AU (Ai Tryz.func15 (by kernel_rfl) rfl) (fun w hH => Fz (s := ⟨(n1 : Int), (n2 : Int), (x3.toNat : Int), d⟩) w true hrr) rfl rfl rfl) ?_))); rintro ⟨⟩
 refine Ae Ag rfl (Ab (As rfl (AB (AL (Ad (Ae Ag rfl (Aa rfl (.agg #[.int .u64 ((n1 : Nat) : Int), .int .u64 ((n2 : Nat) : Int), .int .i64 (x3.toNat : Int), .slice A9 d.length c9]) (fun b w hb hH => Ba rfl rfl (DM (cs := [.int .u64 ((n1 : Nat) : Int), .int .u64 ((n2 : Nat) : Int), .int .i64 (x3.toNat : Int), .slice A9 d.length c9]) Aq rfl) (hH.row 1 rfl) hb) (AF (post := fun _ => [Ar 5 1 encB (.slice A9 d.length c9) d, cell gs 34 #[.int .u64 ((n1 : Nat) : Int), .int .u64 ((n2 : Nat) : Int), .int .i64 (x3.toNat : Int), .slice A9 d.length c9], Eh g l4 f4, cell g2 34 #[.int .u64 ((n1 : Nat) : Int), .int .u64 ((n2 : Nat) : Int), .int .i64 (x3.toNat : Int), .slice A9 d.length c9]]) rfl rfl (AE 3 (v := .agg #[.int .u64 ((n1 : Nat) : Int), .int .u64 ((n2 : Nat) : Int), .int .i64 (x3.toNat : Int), .slice A9 d.length c9]) #[.int .u64 ((n1 : Nat) : Int), .int .u64 ((n2 : Nat) : Int), .int .i64 (x3.toNat : Int), .slice A9 d.length c9] Aq.2 rfl rfl rfl rfl rfl rfl rfl rfl rfl) ?_)))))))); rintro ⟨⟩
 refine Ae Ag rfl (Ab (Ax ?_))
 exact CC (.cell 3 (v := .agg #[.int .u64 ((n1 : Nat) : Int), .int .u64 ((n2 : Nat) : Int), .int .i64 (x3.toNat : Int), .slice A9 d.length c9]) (DM (cs := [.int .u64 ((n1 : Nat) : Int), .int .u64 ((n2 : Nat) : Int), .int .i64 (x3.toNat : Int), .slice A9 d.length c9]) Aq rfl) rfl rfl) (.tmp rfl) (fun w h => AH (A9, c9) rfl [0] rfl h CK) rfl
theorem Qs {u : World} {v : Value} {l : List UInt8} (hv : D6 u v l) (hl : l.length ≤ 65536) (ho : Ju l = none) : EG u Tryz.prog 76 #[v] [] (fun (_ : Unit) => .tuple #[.agg #[.int .u64 0, .int .u64 0, .int .i64 0, .slice none 0 0], .bool false]) (fun (_ : Unit) => []) := by
 obtain ⟨⟨n1, l1, f1⟩, h1⟩ : ∃ R, BW 72057594037927935 l 0 = R := ⟨_, rfl⟩
 obtain ⟨⟨n2, l2, f2⟩, h2⟩ : ∃ R, BW 72057594037927935 l1 f1 = R := ⟨_, rfl⟩
 obtain ⟨x3, l3, f3, h3⟩ := Q5 254 l2 f2
 obtain ⟨⟨d, l4, f4⟩, h4⟩ : ∃ R, B8 32768 l3 f3 = R := ⟨_, rfl⟩
 obtain ⟨r5, h5⟩ : ∃ r, DP l4 f4 = r := ⟨_, rfl⟩
 have hx3 := x3.toNat_lt
 rw [Hx (FK h1 h2 h3) h4, h5] at ho
 obtain ⟨rr, hrr⟩ : ∃ rr, D9 ⟨(n1 : Int), (n2 : Int), (x3.toNat : Int), d⟩ = rr := ⟨_, rfl⟩
 rw [hrr] at ho
 refine M1 (args := [v]) 34 Tryz.func76 rfl rfl rfl ?_; intro w rs hU hS
 refine Ad (Ae Ag rfl (Aj (post := fun g2 => [cell g2 34 #[.int .u64 0, .int .u64 0, .int .i64 0, .slice none 0 0]]) rfl (BT Bl rfl) ?_)); rintro g2
 refine Ae Ag rfl (Ab (Ad (Ae Ag rfl (Aj (post := fun g => [Eh g l 0, cell g2 34 #[.int .u64 0, .int .u64 0, .int .i64 0, .slice none 0 0]]) rfl (Kr hU hS (os' := fun g => [Eh g l 0, cell g2 34 #[.int .u64 0, .int .u64 0, .int .i64 0, .slice none 0 0]]) [] 0 (Ai Tryz.func92 (by kernel_rfl) rfl) (TL u v l hv (by omega)) rfl rfl rfl (fun _ => rfl) rfl rfl rfl) ?_)))); rintro g
 refine Ae Ag rfl (Ab (Ad (Ae Ag rfl (Aj (post := fun gs => [cell gs 34 #[.int .u64 0, .int .u64 0, .int .i64 0, .slice none 0 0], Eh g l 0, cell g2 34 #[.int .u64 0, .int .u64 0, .int .i64 0, .slice none 0 0]]) rfl (BT Bl rfl) ?_)))); rintro gs
 refine Ab (Ad (Ae Ag rfl (Aj rfl (Ak (os' := fun _ => [cell gs 34 #[.int .u64 0, .int .u64 0, .int .i64 0, .slice none 0 0], Eh g l1 f1, cell g2 34 #[.int .u64 0, .int .u64 0, .int .i64 0, .slice none 0 0]]) [1] 0 (Ai Tryz.func93 (by kernel_rfl) rfl) (Nc g l 0 72057594037927935 (by decide) (n1, l1, f1) h1) rfl rfl rfl (fun _ => rfl) rfl rfl rfl) ?_))); rintro ⟨⟩
 refine Ae Ag rfl (AF (post := fun _ => [cell gs 34 #[.int .u64 ((n1 : Nat) : Int), .int .u64 0, .int .i64 0, .slice none 0 0], Eh g l1 f1, cell g2 34 #[.int .u64 0, .int .u64 0, .int .i64 0, .slice none 0 0]]) rfl rfl (AE 0 (v := .int .u64 ((n1 : Nat) : Int)) #[.int .u64 ((n1 : Nat) : Int), .int .u64 0, .int .i64 0, .slice none 0 0] By.2 rfl rfl rfl rfl rfl rfl rfl rfl rfl) ?_); rintro ⟨⟩
 refine Ab (Ad (Ae Ag rfl (Aj rfl (Ak (os' := fun _ => [cell gs 34 #[.int .u64 ((n1 : Nat) : Int), .int .u64 0, .int .i64 0, .slice none 0 0], Eh g l2 f2, cell g2 34 #[.int .u64 0, .int .u64 0, .int .i64 0, .slice none 0 0]]) [1] 0 (Ai Tryz.func93 (by kernel_rfl) rfl) (Nc g l1 f1 72057594037927935 (by decide) (n2, l2, f2) h2) rfl rfl rfl (fun _ => rfl) rfl rfl rfl) ?_))); rintro ⟨⟩
 refine Ae Ag rfl (AF (post := fun _ => [cell gs 34 #[.int .u64 ((n1 : Nat) : Int), .int .u64 ((n2 : Nat) : Int), .int .i64 0, .slice none 0 0], Eh g l2 f2, cell g2 34 #[.int .u64 0, .int .u64 0, .int .i64 0, .slice none 0 0]]) rfl rfl (AE 0 (v := .int .u64 ((n2 : Nat) : Int)) #[.int .u64 ((n1 : Nat) : Int), .int .u64 ((n2 : Nat) : Int), .int .i64 0, .slice none 0 0] By.2 rfl rfl rfl rfl rfl rfl rfl rfl rfl) ?_); rintro ⟨⟩
 refine Ab (Ad (Ae Ag rfl (Aj rfl (Ak (os' := fun _ => [cell gs 34 #[.int .u64 ((n1 : Nat) : Int), .int .u64 ((n2 : Nat) : Int), .int .i64 0, .slice none 0 0], Eh g l3 f3, cell g2 34 #[.int .u64 0, .int .u64 0, .int .i64 0, .slice none 0 0]]) [1] 0 (Ai Tryz.func94 (by kernel_rfl) rfl) (Q6 g l2 f2 254 (by decide) (x3.toNat, l3, f3) h3) rfl rfl rfl (fun _ => rfl) rfl rfl rfl) ?_))); rintro ⟨⟩
 refine Aa rfl (.int .i64 (x3.toNat : Int)) (fun b w hb hH => AW Tryz.underlying5 Tryz.underlying3 (IntWalk.i64_in _ (by omega)) rfl rfl hb) (Ae Ag rfl (AF (post := fun _ => [cell gs 34 #[.int .u64 ((n1 : Nat) : Int), .int .u64 ((n2 : Nat) : Int), .int .i64 (x3.toNat : Int), .slice none 0 0], Eh g l3 f3, cell g2 34 #[.int .u64 0, .int .u64 0, .int .i64 0, .slice none 0 0]]) rfl rfl (AE 0 (v := .int .i64 (x3.toNat : Int)) #[.int .u64 ((n1 : Nat) : Int), .int .u64 ((n2 : Nat) : Int), .int .i64 (x3.toNat : Int), .slice none 0 0] Bc.2 rfl rfl rfl rfl rfl rfl rfl rfl rfl) ?_)); rintro ⟨⟩
 refine Ab (Ad (Ae Ag rfl (Aj rfl (Ak (os' := fun v9 => [Ar 5 1 encB v9 d, cell gs 34 #[.int .u64 ((n1 : Nat) : Int), .int .u64 ((n2 : Nat) : Int), .int .i64 (x3.toNat : Int), .slice none 0 0], Eh g l4 f4, cell g2 34 #[.int .u64 0, .int .u64 0, .int .i64 0, .slice none 0 0]]) [1] 0 (Ai Tryz.func95 (by kernel_rfl) rfl) (Q9 g l3 f3 32768 (by decide) (d, l4, f4) h4) rfl rfl rfl (fun _ => rfl) rfl rfl rfl) ?_))); rintro v9
 refine Cf.fact 0 rfl (fun _ h => Ar.is h) ?_; rintro ⟨A9, c9, rfl⟩
 refine Ae Ag rfl (AF (post := fun _ => [Ar 5 1 encB (.slice A9 d.length c9) d, cell gs 34 #[.int .u64 ((n1 : Nat) : Int), .int .u64 ((n2 : Nat) : Int), .int .i64 (x3.toNat : Int), .slice A9 d.length c9], Eh g l4 f4, cell g2 34 #[.int .u64 0, .int .u64 0, .int .i64 0, .slice none 0 0]]) rfl rfl (AE 1 (v := .slice A9 d.length c9) #[.int .u64 ((n1 : Nat) : Int), .int .u64 ((n2 : Nat) : Int), .int .i64 (x3.toNat : Int), .slice A9 d.length c9] Cx.2 rfl rfl rfl rfl rfl rfl rfl rfl rfl) ?_); rintro ⟨⟩
 refine Ab (Av ?_)
 rcases Nat.eq_zero_or_pos r5 with hr5 | hr5
 have hrt : rr = false := by cases hrv : rr with | false => rfl | true => (exfalso; rw [if_pos hr5, if_pos hrv] at ho; cases ho)
 subst hrt
 refine Ad (Ae Ag rfl (Aj rfl (Ak (os' := fun _ => [Ar 5 1 encB (.slice A9 d.length c9) d, cell gs 34 #[.int .u64 ((n1 : Nat) : Int), .int .u64 ((n2 : Nat) : Int), .int .i64 (x3.toNat : Int), .slice A9 d.length c9], Eh g l4 f4, cell g2 34 #[.int .u64 0, .int .u64 0, .int .i64 0, .slice none 0 0]]) [2] 0 (Ai Tryz.func96 (by kernel_rfl) rfl) (PH g l4 f4 r5 h5) rfl rfl rfl (fun _ => rfl) rfl rfl rfl) ?_)); rintro ⟨⟩
 refine Aa rfl (.bool false) (fun b w hb hH => AZ rfl rfl rfl (AP (by omega)) hb) (Ae Ag rfl (Aa rfl (.agg #[.int .u64 ((n1 : Nat) : Int), .int .u64 ((n2 : Nat) : Int), .int .i64 (x3.toNat : Int), .slice A9 d.length c9]) (fun b w hb hH => Ba rfl rfl (DM (cs := [.int .u64 ((n1 : Nat) : Int), .int .u64 ((n2 : Nat) : Int), .int .i64 (x3.toNat : Int), .slice A9 d.length c9]) Aq rfl) (hH.row 1 rfl) hb) (Aj (post := fun _ => [Ar 5 1 encB (.slice A9 d.length c9) d, cell gs 34 #[.int .u64 ((n1 : Nat) : Int), .int .u64 ((n2 : Nat) : Int), .int .i64 (x3.toNat : Int), .slice A9 d.length c9], Eh g l4 f4, cell g2 34 #[.int .u64 0, .int .u64 0, .int .i64 0, .slice none 0 0]]) rfl (AU (Ai Tryz.func15 (by kernel_rfl) rfl) (fun w hH => Fz (s := ⟨(n1 : Int), (n2 : Int), (x3.toNat : Int), d⟩) w false hrr) rfl rfl rfl) ?_))); rintro ⟨⟩
 refine Ae Ag rfl (Ab (AI rfl (Ad (Ae Ag rfl (Aa rfl (.agg #[.int .u64 0, .int .u64 0, .int .i64 0, .slice none 0 0]) (fun b w hb hH => Bn rfl rfl (by kernel_rfl) hb) (AF (post := fun _ => [Ar 5 1 encB (.slice A9 d.length c9) d, cell gs 34 #[.int .u64 ((n1 : Nat) : Int), .int .u64 ((n2 : Nat) : Int), .int .i64 (x3.toNat : Int), .slice A9 d.length c9], Eh g l4 f4, cell g2 34 #[.int .u64 0, .int .u64 0, .int .i64 0, .slice none 0 0]]) rfl rfl (AE 3 (v := .agg #[.int .u64 0, .int .u64 0, .int .i64 0, .slice none 0 0]) #[.int .u64 0, .int .u64 0, .int .i64 0, .slice none 0 0] Aq.2 rfl rfl rfl rfl rfl rfl rfl rfl rfl) ?_)))))); rintro ⟨⟩
 refine Ae Ag rfl (Ab (Ax (C4 ?_)))
 exact CC (.cell 3 (v := .agg #[.int .u64 0, .int .u64 0, .int .i64 0, .slice none 0 0]) (DM (cs := [.int .u64 0, .int .u64 0, .int .i64 0, .slice none 0 0]) Aq rfl) rfl rfl) (.tmp rfl) (fun w h => AH () rfl [] rfl h CK) rfl
 refine Ad (Ae Ag rfl (Aj rfl (Ak (os' := fun _ => [Ar 5 1 encB (.slice A9 d.length c9) d, cell gs 34 #[.int .u64 ((n1 : Nat) : Int), .int .u64 ((n2 : Nat) : Int), .int .i64 (x3.toNat : Int), .slice A9 d.length c9], Eh g l4 f4, cell g2 34 #[.int .u64 0, .int .u64 0, .int .i64 0, .slice none 0 0]]) [2] 0 (Ai Tryz.func96 (by kernel_rfl) rfl) (PH g l4 f4 r5 h5) rfl rfl rfl (fun _ => rfl) rfl rfl rfl) ?_)); rintro ⟨⟩
 refine Aa rfl (.bool true) (fun b w hb hH => AZ rfl rfl rfl (BO (by omega)) hb) (Ae Ag rfl (Ab (AI rfl (Ad (Ae Ag rfl (Aa rfl (.agg #[.int .u64 0, .int .u64 0, .int .i64 0, .slice none 0 0]) (fun b w hb hH => Bn rfl rfl (by kernel_rfl) hb) (AF (post := fun _ => [Ar 5 1 encB (.slice A9 d.length c9) d, cell gs 34 #[.int .u64 ((n1 : Nat) : Int), .int .u64 ((n2 : Nat) : Int), .int .i64 (x3.toNat : Int), .slice A9 d.length c9], Eh g l4 f4, cell g2 34 #[.int .u64 0, .int .u64 0, .int .i64 0, .slice none 0 0]]) rfl rfl (AE 3 (v := .agg #[.int .u64 0, .int .u64 0, .int .i64 0, .slice none 0 0]) #[.int .u64 0, .int .u64 0, .int .i64 0, .slice none 0 0] Aq.2 rfl rfl rfl rfl rfl rfl rfl rfl rfl) ?_))))))); rintro ⟨⟩
 refine Ae Ag rfl (Ab (Ax (C4 ?_)))
 exact CC (.cell 3 (v := .agg #[.int .u64 0, .int .u64 0, .int .i64 0, .slice none 0 0]) (DM (cs := [.int .u64 0, .int .u64 0, .int .i64 0, .slice none 0 0]) Aq rfl) rfl rfl) (.tmp rfl) (fun w h => AH () rfl [] rfl h CK) rfl
theorem LN {p : Nat} {d d1 : DiskD} {e : Nat} (hd : d.fit) (h : Ce d = (d1, e)) : AX Tryz.prog 33 #[.pointer (some ⟨p, 0, none⟩)] [Ao p d] (fun (_ : Unit) => .int .i64 (e : Int)) (fun (_ : Unit) => [Ao p d1]) := by
 refine Bg (args := [.pointer (some ⟨p, 0, none⟩)]) 14 Tryz.func33 rfl rfl rfl ?_; intro w rs
 obtain ⟨b, hb⟩ : ∃ b, (Bx d snewN).getD [] = b := ⟨_, rfl⟩
 refine Ad (Ae Ag rfl (Ab (Av ?_)))
 rcases hok : (Bx d snewN).isSome with _ | _
 obtain ⟨rfl, rfl⟩ : d = d1 ∧ 0 = e := by unfold Ce at h; rw [if_neg (by rw [hok]; simp)] at h; exact Prod.mk.inj h
 refine Ad (Ae Ag rfl (Aj rfl (Ak (os' := fun bv => [Ar 5 1 encB bv b, Ao p d]) [0] 0 (Ai Tryz.func34 (by kernel_rfl) rfl) (Gl (n := snewN) hd hok hb) rfl rfl rfl (fun _ => rfl) rfl rfl rfl) ?_)); rintro bv
 refine Ae Ag rfl (Ab (Ad (Ae Ag rfl (Ab (AI rfl (Ad (Ae Ag rfl (Ab (Ax (C4 ?_))))))))))
 exact Aw (.tmp rfl) (fun w h => AH () rfl [1] rfl h CK) rfl
 have hdel : Fp d snewN = (d1, e) := by unfold Ce at h; rwa [if_pos hok] at h
 refine Ad (Ae Ag rfl (Aj rfl (Ak (os' := fun bv => [Ar 5 1 encB bv b, Ao p d]) [0] 0 (Ai Tryz.func34 (by kernel_rfl) rfl) (Gl (n := snewN) hd hok hb) rfl rfl rfl (fun _ => rfl) rfl rfl rfl) ?_)); rintro bv
 refine Ae Ag rfl (Ab (Ad (Ae Ag rfl (Ab (As rfl (AB (AL (Ad (Ae Ag rfl (Aj rfl (Ak (os' := fun _ => [Ar 5 1 encB bv b, Ao p d1]) [1] 0 (Ai Tryz.func74 (by kernel_rfl) rfl) (OA (n := snewN) hd hdel) rfl rfl rfl (fun _ => rfl) rfl rfl rfl) ?_)))))))))); rintro ⟨⟩
 refine Ae Ag rfl (Ab (Ax ?_))
 exact Aw (.tmp rfl) (fun w h => AH () rfl [1] rfl h CK) rfl
end Go.Proofs.YtjcfimmcogkopaaGreat.Sep
