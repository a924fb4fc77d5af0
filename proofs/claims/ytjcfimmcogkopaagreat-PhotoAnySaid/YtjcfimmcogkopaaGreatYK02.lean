/-
  PhA
-/
import Derived.Test.YtjcfimmcogkopaaGreatYB03
import Derived.Test.YtjcfimmcogkopaaGreatYB04
import Derived.Test.YtjcfimmcogkopaaGreatYE01
import Derived.Test.YtjcfimmcogkopaaGreatYE02
import Derived.Test.YtjcfimmcogkopaaGreatYI01
import Derived.Test.YtjcfimmcogkopaaGreatYK01
set_option linter.unusedSimpArgs false
set_option linter.unusedVariables false
set_option maxRecDepth 100000
namespace Go.Proofs.YtjcfimmcogkopaaGreat.Sep
open Go.RowKit
open Go.Proofs.YtjcfimmcogkopaaGreat.Mem (AZ Ci Chg Au)
theorem MW (w : World) (n : Int) (r : Bool) (hr : Ef n = r) : Calls Tryz.prog 44 #[.int .u64 n] w fun e w' => e = .returned (.bool r) ∧ Below w.heap.size w w' := by
 refine Fz (args := [.int .u64 n]) 9 Tryz.func44 rfl rfl rfl ?_
 unfold Ef at hr
 refine Ad (Af Ah rfl (Ab ?_))
 rcases Classical.em (n ≥ 1) with h1 | h1
 rcases Classical.em (n ≤ 72057594037927935) with h2 | h2
 obtain rfl : r = true := by rw [← hr]; simp [h1, h2]
 refine Ad (Af Ah rfl (Ac rfl (.bool true) (fun b w hb hH => Bc rfl rfl rfl (B5 h1) hb) (Af Ah rfl (Ac rfl (.bool true) (fun b w hb hH => Bc rfl rfl rfl (C2 h2) hb) (Af Ah rfl (Ab (Av ?_)))))))
 exact As (.tmp rfl) (fun w h => ⟨rfl, Au h.up⟩) rfl
 obtain rfl : r = false := by rw [← hr]; simp [h2]
 refine Ad (Af Ah rfl (Ac rfl (.bool true) (fun b w hb hH => Bc rfl rfl rfl (B5 h1) hb) (Af Ah rfl (Ac rfl (.bool false) (fun b w hb hH => Bc rfl rfl rfl (DS (by omega)) hb) (Af Ah rfl (Ab (Av ?_)))))))
 exact As (.tmp rfl) (fun w h => ⟨rfl, Au h.up⟩) rfl
 obtain rfl : r = false := by rw [← hr]; simp [h1]
 refine Ad (Af Ah rfl (Ac rfl (.bool false) (fun b w hb hH => Bc rfl rfl rfl (Di (by omega)) hb) (Af Ah rfl (Ab (Av ?_)))))
 exact As (.tmp rfl) (fun w h => ⟨rfl, Au h.up⟩) rfl
theorem Ws (w : World) (c : Int) (r : Bool) (hr : (Ge c && (c != 0)) = r) : Calls Tryz.prog 45 #[.int .i64 c] w fun e w' => e = .returned (.bool r) ∧ Below w.heap.size w w' := by
 refine Fz (args := [.int .i64 c]) 14 Tryz.func45 rfl rfl rfl ?_
 have hr2 : (decide (c > 0) && (decide (c ≤ 254) && decide (c % 2 = 0))) = r := by rw [← hr, Bool.eq_iff_iff]; unfold Ge; simp only [Bool.and_eq_true, decide_eq_true_eq, bne_iff_ne, ne_eq]; omega
 refine Ad (Af Ah rfl (Ab ?_))
 rcases Classical.em (c > 0) with h1 | h1
 rcases Classical.em (c ≤ 254) with h2 | h2
 rcases Classical.em (c % 2 = 0) with h3 | h3
 obtain rfl : r = true := by rw [← hr2]; simp [h1, h2, h3]
 refine Ad (Af Ah rfl (Ac rfl (.bool true) (fun b w hb hH => Bc rfl rfl rfl (B4 h1) hb) (Af Ah rfl (Ac rfl (.bool true) (fun b w hb hH => Bc rfl rfl rfl (C2 h2) hb) (Af Ah rfl (Ac rfl (.int .i64 (c % 2)) (fun b w hb hH => DT rfl rfl rfl (by decide) (Vz (Int.le_of_lt h1)) hb) (Ac rfl (.bool true) (fun b w hb hH => Bc rfl rfl rfl (JV h3) hb) (Af Ah rfl (Ab (Av ?_))))))))))
 exact As (.tmp rfl) (fun w h => ⟨rfl, Au h.up⟩) rfl
 obtain rfl : r = false := by rw [← hr2]; simp [h3]
 refine Ad (Af Ah rfl (Ac rfl (.bool true) (fun b w hb hH => Bc rfl rfl rfl (B4 h1) hb) (Af Ah rfl (Ac rfl (.bool true) (fun b w hb hH => Bc rfl rfl rfl (C2 h2) hb) (Af Ah rfl (Ac rfl (.int .i64 (c % 2)) (fun b w hb hH => DT rfl rfl rfl (by decide) (Vz (Int.le_of_lt h1)) hb) (Ac rfl (.bool false) (fun b w hb hH => Bc rfl rfl rfl (JR (by omega)) hb) (Af Ah rfl (Ab (Av ?_))))))))))
 exact As (.tmp rfl) (fun w h => ⟨rfl, Au h.up⟩) rfl
 obtain rfl : r = false := by rw [← hr2]; simp [h2]
 refine Ad (Af Ah rfl (Ac rfl (.bool true) (fun b w hb hH => Bc rfl rfl rfl (B4 h1) hb) (Af Ah rfl (Ac rfl (.bool false) (fun b w hb hH => Bc rfl rfl rfl (DS (by omega)) hb) (Af Ah rfl (Ab (Av ?_)))))))
 exact As (.tmp rfl) (fun w h => ⟨rfl, Au h.up⟩) rfl
 obtain rfl : r = false := by rw [← hr2]; simp [h1]
 refine Ad (Af Ah rfl (Ac rfl (.bool false) (fun b w hb hH => Bc rfl rfl rfl (BE (by omega)) hb) (Af Ah rfl (Ab (Av ?_)))))
 exact As (.tmp rfl) (fun w h => ⟨rfl, Au h.up⟩) rfl
theorem Wt (w : World) (i t c : Int) {A : Option Addr} {n cp : Nat} (r : Bool) (hr : (Ef i && (Ef t && ((Ge c && (c != 0)) && decide (n ≤ 32768)))) = r) : Calls Tryz.prog 15 #[.agg #[.int .u64 i, .int .u64 t, .int .i64 c, .slice A n cp]] w fun e w' => e = .returned (.bool r) ∧ Below w.heap.size w w' := by
 refine Fz (args := [.agg #[.int .u64 i, .int .u64 t, .int .i64 c, .slice A n cp]]) 25 Tryz.func15 rfl rfl rfl (Ad (Af Ah rfl (Aj (post := fun g => [cell g 34 #[.int .u64 i, .int .u64 t, .int .i64 c, .slice A n cp]]) rfl (CU (cs := #[.int .u64 i, .int .u64 t, .int .i64 c, .slice A n cp]) rfl rfl rfl) ?_))); rintro g
 refine Af Ah rfl (Ab ?_)
 rcases hi : Ef i with _ | _
 rotate_left
 rcases ht : Ef t with _ | _
 rotate_left
 rcases hc : (Ge c && (c != 0)) with _ | _
 rotate_left
 rcases Classical.em (n ≤ 32768) with hn | hn
 obtain rfl : r = true := by rw [← hr, hi, ht, hc]; simp [hn]
 refine Ad (Af Ah rfl (Ac rfl (.int .u64 i) (fun b w hb hH => Bb rfl rfl (Bn Bz rfl) (hH.row 0 rfl) hb) (Aj (post := fun _ => [cell g 34 #[.int .u64 i, .int .u64 t, .int .i64 c, .slice A n cp]]) rfl (Bg (Ag Tryz.func44 (by kernel_rfl) rfl) (fun w hH => MW w i true hi) rfl rfl rfl) ?_))); rintro ⟨⟩
 refine Af Ah rfl (Ac rfl (.int .u64 t) (fun b w hb hH => Bb rfl rfl (Bn Bz rfl) (hH.row 0 rfl) hb) (Aj (post := fun _ => [cell g 34 #[.int .u64 i, .int .u64 t, .int .i64 c, .slice A n cp]]) rfl (Bg (Ag Tryz.func44 (by kernel_rfl) rfl) (fun w hH => MW w t true ht) rfl rfl rfl) ?_)); rintro ⟨⟩
 refine Af Ah rfl (Ac rfl (.int .i64 c) (fun b w hb hH => Bb rfl rfl (Bn Bt rfl) (hH.row 0 rfl) hb) (Aj (post := fun _ => [cell g 34 #[.int .u64 i, .int .u64 t, .int .i64 c, .slice A n cp]]) rfl (Bg (Ag Tryz.func45 (by kernel_rfl) rfl) (fun w hH => Ws w c true hc) rfl rfl rfl) ?_)); rintro ⟨⟩
 refine Af Ah rfl (Ac rfl (.slice A n cp) (fun b w hb hH => Bb rfl rfl (Bn Cy rfl) (hH.row 0 rfl) hb) (Ac rfl (.int .i64 (n : Int)) (fun b w hb hH => Gp AE rfl rfl hH hb) (Ac rfl (.bool true) (fun b w hb hH => Bc rfl rfl rfl (C2 (by omega)) hb) (Af Ah rfl (Ab (Av ?_))))))
 exact As (.tmp rfl) (fun w h => ⟨rfl, Au h.up⟩) rfl
 obtain rfl : r = false := by rw [← hr, hi, ht, hc]; simp [hn]
 refine Ad (Af Ah rfl (Ac rfl (.int .u64 i) (fun b w hb hH => Bb rfl rfl (Bn Bz rfl) (hH.row 0 rfl) hb) (Aj (post := fun _ => [cell g 34 #[.int .u64 i, .int .u64 t, .int .i64 c, .slice A n cp]]) rfl (Bg (Ag Tryz.func44 (by kernel_rfl) rfl) (fun w hH => MW w i true hi) rfl rfl rfl) ?_))); rintro ⟨⟩
 refine Af Ah rfl (Ac rfl (.int .u64 t) (fun b w hb hH => Bb rfl rfl (Bn Bz rfl) (hH.row 0 rfl) hb) (Aj (post := fun _ => [cell g 34 #[.int .u64 i, .int .u64 t, .int .i64 c, .slice A n cp]]) rfl (Bg (Ag Tryz.func44 (by kernel_rfl) rfl) (fun w hH => MW w t true ht) rfl rfl rfl) ?_)); rintro ⟨⟩
 refine Af Ah rfl (Ac rfl (.int .i64 c) (fun b w hb hH => Bb rfl rfl (Bn Bt rfl) (hH.row 0 rfl) hb) (Aj (post := fun _ => [cell g 34 #[.int .u64 i, .int .u64 t, .int .i64 c, .slice A n cp]]) rfl (Bg (Ag Tryz.func45 (by kernel_rfl) rfl) (fun w hH => Ws w c true hc) rfl rfl rfl) ?_)); rintro ⟨⟩
 refine Af Ah rfl (Ac rfl (.slice A n cp) (fun b w hb hH => Bb rfl rfl (Bn Cy rfl) (hH.row 0 rfl) hb) (Ac rfl (.int .i64 (n : Int)) (fun b w hb hH => Gp AE rfl rfl hH hb) (Ac rfl (.bool false) (fun b w hb hH => Bc rfl rfl rfl (DS (by omega)) hb) (Af Ah rfl (Ab (Av ?_))))))
 exact As (.tmp rfl) (fun w h => ⟨rfl, Au h.up⟩) rfl
 obtain rfl : r = false := by rw [← hr, hi]; rfl
 refine Ad (Af Ah rfl (Ac rfl (.int .u64 i) (fun b w hb hH => Bb rfl rfl (Bn Bz rfl) (hH.row 0 rfl) hb) (Aj (post := fun _ => [cell g 34 #[.int .u64 i, .int .u64 t, .int .i64 c, .slice A n cp]]) rfl (Bg (Ag Tryz.func44 (by kernel_rfl) rfl) (fun w hH => MW w i false hi) rfl rfl rfl) ?_))); rintro ⟨⟩
 refine Af Ah rfl (Ab (Av ?_))
 exact As (.tmp rfl) (fun w h => ⟨rfl, Au h.up⟩) rfl
 obtain rfl : r = false := by rw [← hr, hi, ht]; rfl
 refine Ad (Af Ah rfl (Ac rfl (.int .u64 i) (fun b w hb hH => Bb rfl rfl (Bn Bz rfl) (hH.row 0 rfl) hb) (Aj (post := fun _ => [cell g 34 #[.int .u64 i, .int .u64 t, .int .i64 c, .slice A n cp]]) rfl (Bg (Ag Tryz.func44 (by kernel_rfl) rfl) (fun w hH => MW w i true hi) rfl rfl rfl) ?_))); rintro ⟨⟩
 refine Af Ah rfl (Ac rfl (.int .u64 t) (fun b w hb hH => Bb rfl rfl (Bn Bz rfl) (hH.row 0 rfl) hb) (Aj (post := fun _ => [cell g 34 #[.int .u64 i, .int .u64 t, .int .i64 c, .slice A n cp]]) rfl (Bg (Ag Tryz.func44 (by kernel_rfl) rfl) (fun w hH => MW w t false ht) rfl rfl rfl) ?_)); rintro ⟨⟩
 refine Af Ah rfl (Ab (Av ?_))
 exact As (.tmp rfl) (fun w h => ⟨rfl, Au h.up⟩) rfl
 obtain rfl : r = false := by rw [← hr, hi, ht, hc]; rfl
 refine Ad (Af Ah rfl (Ac rfl (.int .u64 i) (fun b w hb hH => Bb rfl rfl (Bn Bz rfl) (hH.row 0 rfl) hb) (Aj (post := fun _ => [cell g 34 #[.int .u64 i, .int .u64 t, .int .i64 c, .slice A n cp]]) rfl (Bg (Ag Tryz.func44 (by kernel_rfl) rfl) (fun w hH => MW w i true hi) rfl rfl rfl) ?_))); rintro ⟨⟩
 refine Af Ah rfl (Ac rfl (.int .u64 t) (fun b w hb hH => Bb rfl rfl (Bn Bz rfl) (hH.row 0 rfl) hb) (Aj (post := fun _ => [cell g 34 #[.int .u64 i, .int .u64 t, .int .i64 c, .slice A n cp]]) rfl (Bg (Ag Tryz.func44 (by kernel_rfl) rfl) (fun w hH => MW w t true ht) rfl rfl rfl) ?_)); rintro ⟨⟩
 refine Af Ah rfl (Ac rfl (.int .i64 c) (fun b w hb hH => Bb rfl rfl (Bn Bt rfl) (hH.row 0 rfl) hb) (Aj (post := fun _ => [cell g 34 #[.int .u64 i, .int .u64 t, .int .i64 c, .slice A n cp]]) rfl (Bg (Ag Tryz.func45 (by kernel_rfl) rfl) (fun w hH => Ws w c false hc) rfl rfl rfl) ?_)); rintro ⟨⟩
 refine Af Ah rfl (Ab (Av ?_))
 exact As (.tmp rfl) (fun w h => ⟨rfl, Au h.up⟩) rfl
theorem Sg (s : SnV) : (Ef s.i && (Ef s.t && ((Ge s.c && (s.c != 0)) && decide (s.d.length ≤ 32768)))) = EL s := by unfold EL; simp only [Bool.and_assoc]
theorem Jy (w : World) {s : SnV} {A : Option Addr} {cp : Nat} (r : Bool) (h : EL s = r) : Calls Tryz.prog 15 #[.agg #[.int .u64 s.i, .int .u64 s.t, .int .i64 s.c, .slice A s.d.length cp]] w fun e w' => e = .returned (.bool r) ∧ Below w.heap.size w w' :=
 Wt w _ _ _ r ((Sg s).trans h)
theorem Sh {u : World} {s : SnV} {A : Option Addr} {cp : Nat} (hk : SnOk s) (hv : D6 u (.slice A s.d.length cp) s.d) : EO u Tryz.prog 48 #[.agg #[.int .u64 s.i, .int .u64 s.t, .int .i64 s.c, .slice A s.d.length cp]] [] (fun (v : Value) => v) (fun (v : Value) => [Ap 5 1 encB v (FM s)]) := by
 refine Mv (args := [.agg #[.int .u64 s.i, .int .u64 s.t, .int .i64 s.c, .slice A s.d.length cp]]) 27 Tryz.func48 rfl rfl rfl ?_; intro w rs hU hS
 have h1 := hk.i
 have h2 := hk.t
 have h3 := hk.c
 have h5 := hk.d
 have e1 : (Fu s.i).length ≤ 8 := Cq 7 s.i.toNat (by omega)
 have e2 : (Fu s.t).length ≤ 8 := Cq 7 s.t.toNat (by omega)
 refine Ad (Af Ah rfl (Aj (post := fun g1 => [cell g1 34 #[.int .u64 s.i, .int .u64 s.t, .int .i64 s.c, .slice A s.d.length cp]]) rfl (CU (cs := #[.int .u64 s.i, .int .u64 s.t, .int .i64 s.c, .slice A s.d.length cp]) rfl rfl rfl) ?_)); rintro g1
 refine Af Ah rfl (Ab (Ad (Af Ah rfl (Aj rfl (Am (os' := fun g => [Mx g ([]), cell g1 34 #[.int .u64 s.i, .int .u64 s.t, .int .i64 s.c, .slice A s.d.length cp]]) [] 0 (Ag Tryz.func82 (by kernel_rfl) rfl) (VP) rfl rfl rfl (fun _ => rfl) rfl rfl rfl) ?_)))); rintro g
 refine Af Ah rfl (Ab (Ad (Af Ah rfl (Ac rfl (.int .u64 s.i) (fun b w hb hH => Bb rfl rfl (Bn Bz rfl) (hH.row 1 rfl) hb) (Aj rfl (Am (os' := fun _ => [Mx g (Fu s.i), cell g1 34 #[.int .u64 s.i, .int .u64 s.t, .int .i64 s.c, .slice A s.d.length cp]]) [0] 0 (Ag Tryz.func83 (by kernel_rfl) rfl) (ST g [] s.i ⟨by omega, by omega⟩ (Fu s.i) rfl (by simp)) rfl rfl rfl (fun _ => rfl) rfl rfl rfl) ?_))))); rintro ⟨⟩
 refine Ab (Ad (Af Ah rfl (Ac rfl (.int .u64 s.t) (fun b w hb hH => Bb rfl rfl (Bn Bz rfl) (hH.row 1 rfl) hb) (Aj rfl (Am (os' := fun _ => [Mx g (Fu s.i ++ Fu s.t), cell g1 34 #[.int .u64 s.i, .int .u64 s.t, .int .i64 s.c, .slice A s.d.length cp]]) [0] 0 (Ag Tryz.func83 (by kernel_rfl) rfl) (ST g (Fu s.i) s.t ⟨by omega, by omega⟩ (Fu s.i ++ Fu s.t) rfl (by omega)) rfl rfl rfl (fun _ => rfl) rfl rfl rfl) ?_)))); rintro ⟨⟩
 refine Ab (Ad (Af Ah rfl (Ac rfl (.int .i64 s.c) (fun b w hb hH => Bb rfl rfl (Bn Bt rfl) (hH.row 1 rfl) hb) (Ac rfl (.int .u8 s.c) (fun b w hb hH => AR Tryz.underlying3 Tryz.underlying5 (IntWalk.u8_in _ (by omega)) rfl rfl hb) (Aj rfl (Am (os' := fun _ => [Mx g (KL (s.i, s.t, s.c)), cell g1 34 #[.int .u64 s.i, .int .u64 s.t, .int .i64 s.c, .slice A s.d.length cp]]) [0] 0 (Ag Tryz.func84 (by kernel_rfl) rfl) (UD g (Fu s.i ++ Fu s.t) s.c ⟨by omega, by omega⟩ (KL (s.i, s.t, s.c)) (by unfold KL; simp) (by rw [List.length_append]; omega)) rfl rfl rfl (fun _ => rfl) rfl rfl rfl) ?_))))); rintro ⟨⟩
 refine Ab (Ad (Af Ah rfl (Ac rfl (.slice A s.d.length cp) (fun b w hb hH => Bb rfl rfl (Bn Cy rfl) (hH.row 1 rfl) hb) (Aj (post := fun _ => [Mx g (FM s), cell g1 34 #[.int .u64 s.i, .int .u64 s.t, .int .i64 s.c, .slice A s.d.length cp]]) rfl (JW hU hS (os' := fun _ => [Mx g (FM s), cell g1 34 #[.int .u64 s.i, .int .u64 s.t, .int .i64 s.c, .slice A s.d.length cp]]) [0] 0 (Ag Tryz.func85 (by kernel_rfl) rfl) (S8 hv g (KL (s.i, s.t, s.c)) (FM s) rfl (by unfold KL; simp only [List.length_append, List.length_cons, List.length_nil]; omega)) rfl rfl rfl (fun _ => rfl) rfl rfl rfl) ?_)))); rintro ⟨⟩
 refine Ab (Ad (Af Ah rfl (Aj rfl (Am (os' := fun v => [Ap 5 1 encB v (FM s), Mx g (FM s), cell g1 34 #[.int .u64 s.i, .int .u64 s.t, .int .i64 s.c, .slice A s.d.length cp]]) [0] 0 (Ag Tryz.func86 (by kernel_rfl) rfl) (SU g (FM s) (by have := IW hk; omega)) rfl rfl rfl (fun _ => rfl) rfl rfl rfl) ?_))); rintro v
 refine Af Ah rfl (Ab (Av ?_))
 exact As (.tmp rfl) (fun w h => AG v rfl [0] rfl h CV) rfl
theorem P2 {u : World} {v : Value} {l : List UInt8} (hv : D6 u v l) (hl : l.length ≤ 65536) {s : SnV} (ho : IV l = some s) : EO u Tryz.prog 76 #[v] [] (fun (x : Option Addr × Nat) => .tuple #[.agg #[.int .u64 s.i, .int .u64 s.t, .int .i64 s.c, .slice x.1 s.d.length x.2], .bool true]) (fun (x : Option Addr × Nat) => [Ap 5 1 encB (.slice x.1 s.d.length x.2) s.d]) := by
 obtain ⟨⟨n1, l1, f1⟩, h1⟩ : ∃ R, BL 72057594037927935 l 0 = R := ⟨_, rfl⟩
 obtain ⟨⟨n2, l2, f2⟩, h2⟩ : ∃ R, BL 72057594037927935 l1 f1 = R := ⟨_, rfl⟩
 obtain ⟨x3, l3, f3, h3⟩ := QG 254 l2 f2
 obtain ⟨⟨d, l4, f4⟩, h4⟩ : ∃ R, BZ 32768 l3 f3 = R := ⟨_, rfl⟩
 obtain ⟨r5, h5⟩ : ∃ r, Dy l4 f4 = r := ⟨_, rfl⟩
 have hx3 := x3.toNat_lt
 rw [GT (Fc h1 h2 h3) h4, h5] at ho
 obtain ⟨rr, hrr⟩ : ∃ rr, EL ⟨(n1 : Int), (n2 : Int), (x3.toNat : Int), d⟩ = rr := ⟨_, rfl⟩
 rw [hrr] at ho
 have hr5 : r5 = 0 := by by_cases e : r5 = 0; exact e; rw [if_neg e] at ho; cases ho
 rw [if_pos hr5] at ho
 have hrt : rr = true := by by_cases e : rr = true; exact e; rw [if_neg e] at ho; cases ho
 rw [if_pos hrt] at ho
 subst hrt
 obtain rfl := Option.some.inj ho
 refine Mv (args := [v]) 34 Tryz.func76 rfl rfl rfl ?_; intro w rs hU hS
 refine Ad (Af Ah rfl (Aj (post := fun g2 => [cell g2 34 #[.int .u64 0, .int .u64 0, .int .i64 0, .slice none 0 0]]) rfl (Ch BA rfl) ?_)); rintro g2
 refine Af Ah rfl (Ab (Ad (Af Ah rfl (Aj (post := fun g => [DY g l 0, cell g2 34 #[.int .u64 0, .int .u64 0, .int .i64 0, .slice none 0 0]]) rfl (JW hU hS (os' := fun g => [DY g l 0, cell g2 34 #[.int .u64 0, .int .u64 0, .int .i64 0, .slice none 0 0]]) [] 0 (Ag Tryz.func92 (by kernel_rfl) rfl) (S4 u v l hv (by omega)) rfl rfl rfl (fun _ => rfl) rfl rfl rfl) ?_)))); rintro g
 refine Af Ah rfl (Ab (Ad (Af Ah rfl (Aj (post := fun gs => [cell gs 34 #[.int .u64 0, .int .u64 0, .int .i64 0, .slice none 0 0], DY g l 0, cell g2 34 #[.int .u64 0, .int .u64 0, .int .i64 0, .slice none 0 0]]) rfl (Ch BA rfl) ?_)))); rintro gs
 refine Ab (Ad (Af Ah rfl (Aj rfl (Am (os' := fun _ => [cell gs 34 #[.int .u64 0, .int .u64 0, .int .i64 0, .slice none 0 0], DY g l1 f1, cell g2 34 #[.int .u64 0, .int .u64 0, .int .i64 0, .slice none 0 0]]) [1] 0 (Ag Tryz.func93 (by kernel_rfl) rfl) (MF g l 0 72057594037927935 (by decide) (n1, l1, f1) h1) rfl rfl rfl (fun _ => rfl) rfl rfl rfl) ?_))); rintro ⟨⟩
 refine Af Ah rfl (AU (post := fun _ => [cell gs 34 #[.int .u64 ((n1 : Nat) : Int), .int .u64 0, .int .i64 0, .slice none 0 0], DY g l1 f1, cell g2 34 #[.int .u64 0, .int .u64 0, .int .i64 0, .slice none 0 0]]) rfl rfl (AQ 0 (v := .int .u64 ((n1 : Nat) : Int)) #[.int .u64 ((n1 : Nat) : Int), .int .u64 0, .int .i64 0, .slice none 0 0] Bz.2 rfl rfl rfl rfl rfl rfl rfl rfl rfl) ?_); rintro ⟨⟩
 refine Ab (Ad (Af Ah rfl (Aj rfl (Am (os' := fun _ => [cell gs 34 #[.int .u64 ((n1 : Nat) : Int), .int .u64 0, .int .i64 0, .slice none 0 0], DY g l2 f2, cell g2 34 #[.int .u64 0, .int .u64 0, .int .i64 0, .slice none 0 0]]) [1] 0 (Ag Tryz.func93 (by kernel_rfl) rfl) (MF g l1 f1 72057594037927935 (by decide) (n2, l2, f2) h2) rfl rfl rfl (fun _ => rfl) rfl rfl rfl) ?_))); rintro ⟨⟩
 refine Af Ah rfl (AU (post := fun _ => [cell gs 34 #[.int .u64 ((n1 : Nat) : Int), .int .u64 ((n2 : Nat) : Int), .int .i64 0, .slice none 0 0], DY g l2 f2, cell g2 34 #[.int .u64 0, .int .u64 0, .int .i64 0, .slice none 0 0]]) rfl rfl (AQ 0 (v := .int .u64 ((n2 : Nat) : Int)) #[.int .u64 ((n1 : Nat) : Int), .int .u64 ((n2 : Nat) : Int), .int .i64 0, .slice none 0 0] Bz.2 rfl rfl rfl rfl rfl rfl rfl rfl rfl) ?_); rintro ⟨⟩
 refine Ab (Ad (Af Ah rfl (Aj rfl (Am (os' := fun _ => [cell gs 34 #[.int .u64 ((n1 : Nat) : Int), .int .u64 ((n2 : Nat) : Int), .int .i64 0, .slice none 0 0], DY g l3 f3, cell g2 34 #[.int .u64 0, .int .u64 0, .int .i64 0, .slice none 0 0]]) [1] 0 (Ag Tryz.func94 (by kernel_rfl) rfl) (QH g l2 f2 254 (by decide) (x3.toNat, l3, f3) h3) rfl rfl rfl (fun _ => rfl) rfl rfl rfl) ?_))); rintro ⟨⟩
 refine Ac rfl (.int .i64 (x3.toNat : Int)) (fun b w hb hH => AR Tryz.underlying5 Tryz.underlying3 (IntWalk.i64_in _ (by omega)) rfl rfl hb) (Af Ah rfl (AU (post := fun _ => [cell gs 34 #[.int .u64 ((n1 : Nat) : Int), .int .u64 ((n2 : Nat) : Int), .int .i64 (x3.toNat : Int), .slice none 0 0], DY g l3 f3, cell g2 34 #[.int .u64 0, .int .u64 0, .int .i64 0, .slice none 0 0]]) rfl rfl (AQ 0 (v := .int .i64 (x3.toNat : Int)) #[.int .u64 ((n1 : Nat) : Int), .int .u64 ((n2 : Nat) : Int), .int .i64 (x3.toNat : Int), .slice none 0 0] Bt.2 rfl rfl rfl rfl rfl rfl rfl rfl rfl) ?_)); rintro ⟨⟩
 refine Ab (Ad (Af Ah rfl (Aj rfl (Am (os' := fun v9 => [Ap 5 1 encB v9 d, cell gs 34 #[.int .u64 ((n1 : Nat) : Int), .int .u64 ((n2 : Nat) : Int), .int .i64 (x3.toNat : Int), .slice none 0 0], DY g l4 f4, cell g2 34 #[.int .u64 0, .int .u64 0, .int .i64 0, .slice none 0 0]]) [1] 0 (Ag Tryz.func95 (by kernel_rfl) rfl) (QK g l3 f3 32768 (by decide) (d, l4, f4) h4) rfl rfl rfl (fun _ => rfl) rfl rfl rfl) ?_))); rintro v9
 refine Ce.fact 0 rfl (fun _ h => Ap.is h) ?_; rintro ⟨A9, c9, rfl⟩
 refine Af Ah rfl (AU (post := fun _ => [Ap 5 1 encB (.slice A9 d.length c9) d, cell gs 34 #[.int .u64 ((n1 : Nat) : Int), .int .u64 ((n2 : Nat) : Int), .int .i64 (x3.toNat : Int), .slice A9 d.length c9], DY g l4 f4, cell g2 34 #[.int .u64 0, .int .u64 0, .int .i64 0, .slice none 0 0]]) rfl rfl (AQ 1 (v := .slice A9 d.length c9) #[.int .u64 ((n1 : Nat) : Int), .int .u64 ((n2 : Nat) : Int), .int .i64 (x3.toNat : Int), .slice A9 d.length c9] Cy.2 rfl rfl rfl rfl rfl rfl rfl rfl rfl) ?_); rintro ⟨⟩
 refine Ab (Aq (Ad (Af Ah rfl (Aj rfl (Am (os' := fun _ => [Ap 5 1 encB (.slice A9 d.length c9) d, cell gs 34 #[.int .u64 ((n1 : Nat) : Int), .int .u64 ((n2 : Nat) : Int), .int .i64 (x3.toNat : Int), .slice A9 d.length c9], DY g l4 f4, cell g2 34 #[.int .u64 0, .int .u64 0, .int .i64 0, .slice none 0 0]]) [2] 0 (Ag Tryz.func96 (by kernel_rfl) rfl) (Pg g l4 f4 r5 h5) rfl rfl rfl (fun _ => rfl) rfl rfl rfl) ?_)))); rintro ⟨⟩
 refine Ac rfl (.bool false) (fun b w hb hH => Bc rfl rfl rfl (AK (by omega)) hb) (Af Ah rfl (Ac rfl (.agg #[.int .u64 ((n1 : Nat) : Int), .int .u64 ((n2 : Nat) : Int), .int .i64 (x3.toNat : Int), .slice A9 d.length c9]) (fun b w hb hH => Bb rfl rfl (EX (cs := [.int .u64 ((n1 : Nat) : Int), .int .u64 ((n2 : Nat) : Int), .int .i64 (x3.toNat : Int), .slice A9 d.length c9]) AA rfl) (hH.row 1 rfl) hb) (Aj (post := fun _ => [Ap 5 1 encB (.slice A9 d.length c9) d, cell gs 34 #[.int .u64 ((n1 : Nat) : Int), .int .u64 ((n2 : Nat) : Int), .int .i64 (x3.toNat : Int), .slice A9 d.length c9], DY g l4 f4, cell g2 34 #[.int .u64 0, .int .u64 0, .int .i64 0, .slice none 0 0]]) rfl (Bg (Ag Tryz.func15 (by kernel_rfl) rfl) (fun w hH => Jy (s := ⟨(n1 : Int), (n2 : Int), (x3.toNat : Int), d⟩) w true hrr) rfl rfl rfl) ?_))); rintro ⟨⟩
 refine Af Ah rfl (Ab (Aw rfl (AC (AO (Ad (Af Ah rfl (Ac rfl (.agg #[.int .u64 ((n1 : Nat) : Int), .int .u64 ((n2 : Nat) : Int), .int .i64 (x3.toNat : Int), .slice A9 d.length c9]) (fun b w hb hH => Bb rfl rfl (EX (cs := [.int .u64 ((n1 : Nat) : Int), .int .u64 ((n2 : Nat) : Int), .int .i64 (x3.toNat : Int), .slice A9 d.length c9]) AA rfl) (hH.row 1 rfl) hb) (AU (post := fun _ => [Ap 5 1 encB (.slice A9 d.length c9) d, cell gs 34 #[.int .u64 ((n1 : Nat) : Int), .int .u64 ((n2 : Nat) : Int), .int .i64 (x3.toNat : Int), .slice A9 d.length c9], DY g l4 f4, cell g2 34 #[.int .u64 ((n1 : Nat) : Int), .int .u64 ((n2 : Nat) : Int), .int .i64 (x3.toNat : Int), .slice A9 d.length c9]]) rfl rfl (AQ 3 (v := .agg #[.int .u64 ((n1 : Nat) : Int), .int .u64 ((n2 : Nat) : Int), .int .i64 (x3.toNat : Int), .slice A9 d.length c9]) #[.int .u64 ((n1 : Nat) : Int), .int .u64 ((n2 : Nat) : Int), .int .i64 (x3.toNat : Int), .slice A9 d.length c9] AA.2 rfl rfl rfl rfl rfl rfl rfl rfl rfl) ?_)))))))); rintro ⟨⟩
 refine Af Ah rfl (Ab (Av ?_))
 exact Cr (.cell 3 (v := .agg #[.int .u64 ((n1 : Nat) : Int), .int .u64 ((n2 : Nat) : Int), .int .i64 (x3.toNat : Int), .slice A9 d.length c9]) (EX (cs := [.int .u64 ((n1 : Nat) : Int), .int .u64 ((n2 : Nat) : Int), .int .i64 (x3.toNat : Int), .slice A9 d.length c9]) AA rfl) rfl rfl) (.tmp rfl) (fun w h => AG (A9, c9) rfl [0] rfl h CV) rfl
theorem P3 {u : World} {v : Value} {l : List UInt8} (hv : D6 u v l) (hl : l.length ≤ 65536) (ho : IV l = none) : EO u Tryz.prog 76 #[v] [] (fun (_ : Unit) => .tuple #[.agg #[.int .u64 0, .int .u64 0, .int .i64 0, .slice none 0 0], .bool false]) (fun (_ : Unit) => []) := by
 obtain ⟨⟨n1, l1, f1⟩, h1⟩ : ∃ R, BL 72057594037927935 l 0 = R := ⟨_, rfl⟩
 obtain ⟨⟨n2, l2, f2⟩, h2⟩ : ∃ R, BL 72057594037927935 l1 f1 = R := ⟨_, rfl⟩
 obtain ⟨x3, l3, f3, h3⟩ := QG 254 l2 f2
 obtain ⟨⟨d, l4, f4⟩, h4⟩ : ∃ R, BZ 32768 l3 f3 = R := ⟨_, rfl⟩
 obtain ⟨r5, h5⟩ : ∃ r, Dy l4 f4 = r := ⟨_, rfl⟩
 have hx3 := x3.toNat_lt
 rw [GT (Fc h1 h2 h3) h4, h5] at ho
 obtain ⟨rr, hrr⟩ : ∃ rr, EL ⟨(n1 : Int), (n2 : Int), (x3.toNat : Int), d⟩ = rr := ⟨_, rfl⟩
 rw [hrr] at ho
 refine Mv (args := [v]) 34 Tryz.func76 rfl rfl rfl ?_; intro w rs hU hS
 refine Ad (Af Ah rfl (Aj (post := fun g2 => [cell g2 34 #[.int .u64 0, .int .u64 0, .int .i64 0, .slice none 0 0]]) rfl (Ch BA rfl) ?_)); rintro g2
 refine Af Ah rfl (Ab (Ad (Af Ah rfl (Aj (post := fun g => [DY g l 0, cell g2 34 #[.int .u64 0, .int .u64 0, .int .i64 0, .slice none 0 0]]) rfl (JW hU hS (os' := fun g => [DY g l 0, cell g2 34 #[.int .u64 0, .int .u64 0, .int .i64 0, .slice none 0 0]]) [] 0 (Ag Tryz.func92 (by kernel_rfl) rfl) (S4 u v l hv (by omega)) rfl rfl rfl (fun _ => rfl) rfl rfl rfl) ?_)))); rintro g
 refine Af Ah rfl (Ab (Ad (Af Ah rfl (Aj (post := fun gs => [cell gs 34 #[.int .u64 0, .int .u64 0, .int .i64 0, .slice none 0 0], DY g l 0, cell g2 34 #[.int .u64 0, .int .u64 0, .int .i64 0, .slice none 0 0]]) rfl (Ch BA rfl) ?_)))); rintro gs
 refine Ab (Ad (Af Ah rfl (Aj rfl (Am (os' := fun _ => [cell gs 34 #[.int .u64 0, .int .u64 0, .int .i64 0, .slice none 0 0], DY g l1 f1, cell g2 34 #[.int .u64 0, .int .u64 0, .int .i64 0, .slice none 0 0]]) [1] 0 (Ag Tryz.func93 (by kernel_rfl) rfl) (MF g l 0 72057594037927935 (by decide) (n1, l1, f1) h1) rfl rfl rfl (fun _ => rfl) rfl rfl rfl) ?_))); rintro ⟨⟩
 refine Af Ah rfl (AU (post := fun _ => [cell gs 34 #[.int .u64 ((n1 : Nat) : Int), .int .u64 0, .int .i64 0, .slice none 0 0], DY g l1 f1, cell g2 34 #[.int .u64 0, .int .u64 0, .int .i64 0, .slice none 0 0]]) rfl rfl (AQ 0 (v := .int .u64 ((n1 : Nat) : Int)) #[.int .u64 ((n1 : Nat) : Int), .int .u64 0, .int .i64 0, .slice none 0 0] Bz.2 rfl rfl rfl rfl rfl rfl rfl rfl rfl) ?_); rintro ⟨⟩
 refine Ab (Ad (Af Ah rfl (Aj rfl (Am (os' := fun _ => [cell gs 34 #[.int .u64 ((n1 : Nat) : Int), .int .u64 0, .int .i64 0, .slice none 0 0], DY g l2 f2, cell g2 34 #[.int .u64 0, .int .u64 0, .int .i64 0, .slice none 0 0]]) [1] 0 (Ag Tryz.func93 (by kernel_rfl) rfl) (MF g l1 f1 72057594037927935 (by decide) (n2, l2, f2) h2) rfl rfl rfl (fun _ => rfl) rfl rfl rfl) ?_))); rintro ⟨⟩
 refine Af Ah rfl (AU (post := fun _ => [cell gs 34 #[.int .u64 ((n1 : Nat) : Int), .int .u64 ((n2 : Nat) : Int), .int .i64 0, .slice none 0 0], DY g l2 f2, cell g2 34 #[.int .u64 0, .int .u64 0, .int .i64 0, .slice none 0 0]]) rfl rfl (AQ 0 (v := .int .u64 ((n2 : Nat) : Int)) #[.int .u64 ((n1 : Nat) : Int), .int .u64 ((n2 : Nat) : Int), .int .i64 0, .slice none 0 0] Bz.2 rfl rfl rfl rfl rfl rfl rfl rfl rfl) ?_); rintro ⟨⟩
 refine Ab (Ad (Af Ah rfl (Aj rfl (Am (os' := fun _ => [cell gs 34 #[.int .u64 ((n1 : Nat) : Int), .int .u64 ((n2 : Nat) : Int), .int .i64 0, .slice none 0 0], DY g l3 f3, cell g2 34 #[.int .u64 0, .int .u64 0, .int .i64 0, .slice none 0 0]]) [1] 0 (Ag Tryz.func94 (by kernel_rfl) rfl) (QH g l2 f2 254 (by decide) (x3.toNat, l3, f3) h3) rfl rfl rfl (fun _ => rfl) rfl rfl rfl) ?_))); rintro ⟨⟩
 refine Ac rfl (.int .i64 (x3.toNat : Int)) (fun b w hb hH => AR Tryz.underlying5 Tryz.underlying3 (IntWalk.i64_in _ (by omega)) rfl rfl hb) (Af Ah rfl (AU (post := fun _ => [cell gs 34 #[.int .u64 ((n1 : Nat) : Int), .int .u64 ((n2 : Nat) : Int), .int .i64 (x3.toNat : Int), .slice none 0 0], DY g l3 f3, cell g2 34 #[.int .u64 0, .int .u64 0, .int .i64 0, .slice none 0 0]]) rfl rfl (AQ 0 (v := .int .i64 (x3.toNat : Int)) #[.int .u64 ((n1 : Nat) : Int), .int .u64 ((n2 : Nat) : Int), .int .i64 (x3.toNat : Int), .slice none 0 0] Bt.2 rfl rfl rfl rfl rfl rfl rfl rfl rfl) ?_)); rintro ⟨⟩
 refine Ab (Ad (Af Ah rfl (Aj rfl (Am (os' := fun v9 => [Ap 5 1 encB v9 d, cell gs 34 #[.int .u64 ((n1 : Nat) : Int), .int .u64 ((n2 : Nat) : Int), .int .i64 (x3.toNat : Int), .slice none 0 0], DY g l4 f4, cell g2 34 #[.int .u64 0, .int .u64 0, .int .i64 0, .slice none 0 0]]) [1] 0 (Ag Tryz.func95 (by kernel_rfl) rfl) (QK g l3 f3 32768 (by decide) (d, l4, f4) h4) rfl rfl rfl (fun _ => rfl) rfl rfl rfl) ?_))); rintro v9
 refine Ce.fact 0 rfl (fun _ h => Ap.is h) ?_; rintro ⟨A9, c9, rfl⟩
 refine Af Ah rfl (AU (post := fun _ => [Ap 5 1 encB (.slice A9 d.length c9) d, cell gs 34 #[.int .u64 ((n1 : Nat) : Int), .int .u64 ((n2 : Nat) : Int), .int .i64 (x3.toNat : Int), .slice A9 d.length c9], DY g l4 f4, cell g2 34 #[.int .u64 0, .int .u64 0, .int .i64 0, .slice none 0 0]]) rfl rfl (AQ 1 (v := .slice A9 d.length c9) #[.int .u64 ((n1 : Nat) : Int), .int .u64 ((n2 : Nat) : Int), .int .i64 (x3.toNat : Int), .slice A9 d.length c9] Cy.2 rfl rfl rfl rfl rfl rfl rfl rfl rfl) ?_); rintro ⟨⟩
 refine Ab (Aq ?_)
 rcases Nat.eq_zero_or_pos r5 with hr5 | hr5
 have hrt : rr = false := by cases hrv : rr with | false => rfl | true => (exfalso; rw [if_pos hr5, if_pos hrv] at ho; cases ho)
 subst hrt
 refine Ad (Af Ah rfl (Aj rfl (Am (os' := fun _ => [Ap 5 1 encB (.slice A9 d.length c9) d, cell gs 34 #[.int .u64 ((n1 : Nat) : Int), .int .u64 ((n2 : Nat) : Int), .int .i64 (x3.toNat : Int), .slice A9 d.length c9], DY g l4 f4, cell g2 34 #[.int .u64 0, .int .u64 0, .int .i64 0, .slice none 0 0]]) [2] 0 (Ag Tryz.func96 (by kernel_rfl) rfl) (Pg g l4 f4 r5 h5) rfl rfl rfl (fun _ => rfl) rfl rfl rfl) ?_)); rintro ⟨⟩
 refine Ac rfl (.bool false) (fun b w hb hH => Bc rfl rfl rfl (AK (by omega)) hb) (Af Ah rfl (Ac rfl (.agg #[.int .u64 ((n1 : Nat) : Int), .int .u64 ((n2 : Nat) : Int), .int .i64 (x3.toNat : Int), .slice A9 d.length c9]) (fun b w hb hH => Bb rfl rfl (EX (cs := [.int .u64 ((n1 : Nat) : Int), .int .u64 ((n2 : Nat) : Int), .int .i64 (x3.toNat : Int), .slice A9 d.length c9]) AA rfl) (hH.row 1 rfl) hb) (Aj (post := fun _ => [Ap 5 1 encB (.slice A9 d.length c9) d, cell gs 34 #[.int .u64 ((n1 : Nat) : Int), .int .u64 ((n2 : Nat) : Int), .int .i64 (x3.toNat : Int), .slice A9 d.length c9], DY g l4 f4, cell g2 34 #[.int .u64 0, .int .u64 0, .int .i64 0, .slice none 0 0]]) rfl (Bg (Ag Tryz.func15 (by kernel_rfl) rfl) (fun w hH => Jy (s := ⟨(n1 : Int), (n2 : Int), (x3.toNat : Int), d⟩) w false hrr) rfl rfl rfl) ?_))); rintro ⟨⟩
 refine Af Ah rfl (Ab (AI rfl (Ad (Af Ah rfl (Ac rfl (.agg #[.int .u64 0, .int .u64 0, .int .i64 0, .slice none 0 0]) (fun b w hb hH => Bh rfl rfl (by kernel_rfl) hb) (AU (post := fun _ => [Ap 5 1 encB (.slice A9 d.length c9) d, cell gs 34 #[.int .u64 ((n1 : Nat) : Int), .int .u64 ((n2 : Nat) : Int), .int .i64 (x3.toNat : Int), .slice A9 d.length c9], DY g l4 f4, cell g2 34 #[.int .u64 0, .int .u64 0, .int .i64 0, .slice none 0 0]]) rfl rfl (AQ 3 (v := .agg #[.int .u64 0, .int .u64 0, .int .i64 0, .slice none 0 0]) #[.int .u64 0, .int .u64 0, .int .i64 0, .slice none 0 0] AA.2 rfl rfl rfl rfl rfl rfl rfl rfl rfl) ?_)))))); rintro ⟨⟩
 refine Af Ah rfl (Ab (Av (C0 ?_)))
 exact Cr (.cell 3 (v := .agg #[.int .u64 0, .int .u64 0, .int .i64 0, .slice none 0 0]) (EX (cs := [.int .u64 0, .int .u64 0, .int .i64 0, .slice none 0 0]) AA rfl) rfl rfl) (.tmp rfl) (fun w h => AG () rfl [] rfl h CV) rfl
 refine Ad (Af Ah rfl (Aj rfl (Am (os' := fun _ => [Ap 5 1 encB (.slice A9 d.length c9) d, cell gs 34 #[.int .u64 ((n1 : Nat) : Int), .int .u64 ((n2 : Nat) : Int), .int .i64 (x3.toNat : Int), .slice A9 d.length c9], DY g l4 f4, cell g2 34 #[.int .u64 0, .int .u64 0, .int .i64 0, .slice none 0 0]]) [2] 0 (Ag Tryz.func96 (by kernel_rfl) rfl) (Pg g l4 f4 r5 h5) rfl rfl rfl (fun _ => rfl) rfl rfl rfl) ?_)); rintro ⟨⟩
 refine Ac rfl (.bool true) (fun b w hb hH => Bc rfl rfl rfl (BO (by omega)) hb) (Af Ah rfl (Ab (AI rfl (Ad (Af Ah rfl (Ac rfl (.agg #[.int .u64 0, .int .u64 0, .int .i64 0, .slice none 0 0]) (fun b w hb hH => Bh rfl rfl (by kernel_rfl) hb) (AU (post := fun _ => [Ap 5 1 encB (.slice A9 d.length c9) d, cell gs 34 #[.int .u64 ((n1 : Nat) : Int), .int .u64 ((n2 : Nat) : Int), .int .i64 (x3.toNat : Int), .slice A9 d.length c9], DY g l4 f4, cell g2 34 #[.int .u64 0, .int .u64 0, .int .i64 0, .slice none 0 0]]) rfl rfl (AQ 3 (v := .agg #[.int .u64 0, .int .u64 0, .int .i64 0, .slice none 0 0]) #[.int .u64 0, .int .u64 0, .int .i64 0, .slice none 0 0] AA.2 rfl rfl rfl rfl rfl rfl rfl rfl rfl) ?_))))))); rintro ⟨⟩
 refine Af Ah rfl (Ab (Av (C0 ?_)))
 exact Cr (.cell 3 (v := .agg #[.int .u64 0, .int .u64 0, .int .i64 0, .slice none 0 0]) (EX (cs := [.int .u64 0, .int .u64 0, .int .i64 0, .slice none 0 0]) AA rfl) rfl rfl) (.tmp rfl) (fun w h => AG () rfl [] rfl h CV) rfl
theorem K8 {p : Nat} {d d1 : DiskD} {e : Nat} (hd : d.fit) (h : Ck d = (d1, e)) : AW Tryz.prog 33 #[.pointer (some ⟨p, 0, none⟩)] [Ao p d] (fun (_ : Unit) => .int .i64 (e : Int)) (fun (_ : Unit) => [Ao p d1]) := by
 refine Be (args := [.pointer (some ⟨p, 0, none⟩)]) 14 Tryz.func33 rfl rfl rfl ?_; intro w rs
 obtain ⟨b, hb⟩ : ∃ b, (Bo d snewN).getD [] = b := ⟨_, rfl⟩
 refine Ad (Af Ah rfl (Ab (Aq ?_)))
 rcases hok : (Bo d snewN).isSome with _ | _
 obtain ⟨rfl, rfl⟩ : d = d1 ∧ 0 = e := by unfold Ck at h; rw [if_neg (by rw [hok]; simp)] at h; exact Prod.mk.inj h
 refine Ad (Af Ah rfl (Aj rfl (Am (os' := fun bv => [Ap 5 1 encB bv b, Ao p d]) [0] 0 (Ag Tryz.func34 (by kernel_rfl) rfl) (FJ (n := snewN) hd hok hb) rfl rfl rfl (fun _ => rfl) rfl rfl rfl) ?_)); rintro bv
 refine Af Ah rfl (Ab (Ad (Af Ah rfl (Ab (AI rfl (Ad (Af Ah rfl (Ab (Av (C0 ?_))))))))))
 exact As (.tmp rfl) (fun w h => AG () rfl [1] rfl h CV) rfl
 have hdel : Fw d snewN = (d1, e) := by unfold Ck at h; rwa [if_pos hok] at h
 refine Ad (Af Ah rfl (Aj rfl (Am (os' := fun bv => [Ap 5 1 encB bv b, Ao p d]) [0] 0 (Ag Tryz.func34 (by kernel_rfl) rfl) (FJ (n := snewN) hd hok hb) rfl rfl rfl (fun _ => rfl) rfl rfl rfl) ?_)); rintro bv
 refine Af Ah rfl (Ab (Ad (Af Ah rfl (Ab (Aw rfl (AC (AO (Ad (Af Ah rfl (Aj rfl (Am (os' := fun _ => [Ap 5 1 encB bv b, Ao p d1]) [1] 0 (Ag Tryz.func74 (by kernel_rfl) rfl) (N9 (n := snewN) hd hdel) rfl rfl rfl (fun _ => rfl) rfl rfl rfl) ?_)))))))))); rintro ⟨⟩
 refine Af Ah rfl (Ab (Av ?_))
 exact As (.tmp rfl) (fun w h => AG () rfl [1] rfl h CV) rfl
end Go.Proofs.YtjcfimmcogkopaaGreat.Sep
