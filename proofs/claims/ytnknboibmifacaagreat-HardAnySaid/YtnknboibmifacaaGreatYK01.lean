/-
  HdK
-/
import Derived.Test.YtnknboibmifacaaGreatYB02
import Derived.Test.YtnknboibmifacaaGreatYJ03
set_option linter.unusedSimpArgs false
set_option linter.unusedVariables false
namespace Go.Proofs.YtnknboibmifacaaGreat.Sep
open Go.RowKit
open Go.Proofs.YtnknboibmifacaaGreat.Mem (Bd Cj Chg AF)
def encHv (x : Int × Int) : List Value := [.int .u64 x.1, .int .i64 x.2]
theorem Ps : EncOf 2 encHv := ⟨fun _ => rfl, fun x v h => by unfold encHv at h; simp at h; rcases h with rfl | rfl <;> rfl⟩
def hz (x : HV) : Int × Int := (((x.1 : Nat) : Int), ((x.2 : Nat) : Int))
def Vu (x : Int × Int) : Prop := (0 ≤ x.1 ∧ x.1 ≤ 18446744073709551615) ∧ (-9223372036854775808 ≤ x.2 ∧ x.2 ≤ 9223372036854775807)
theorem Tj (a b c d : Int) : TQ Tryz.prog 31 (.agg #[.int .u64 a, .int .i64 b]) (.agg #[.int .u64 c, .int .i64 d]) (a == c && b == d) := fun x y w => by
 go_simp
 by_cases h1 : a = c <;> by_cases h2 : b = d <;> simp [h1, h2]
theorem Ut (y x : HV) (b : Bool) (h : decide (y = x) = b) : TQ Tryz.prog 31 (.agg #[.int .u64 ((y.1 : Nat) : Int), .int .i64 ((y.2 : Nat) : Int)]) (.agg #[.int .u64 ((x.1 : Nat) : Int), .int .i64 ((x.2 : Nat) : Int)]) b := by
 have h1 := Tj ((y.1 : Nat) : Int) ((y.2 : Nat) : Int) ((x.1 : Nat) : Int) ((x.2 : Nat) : Int)
 have h2 : (((y.1 : Nat) : Int) == ((x.1 : Nat) : Int) && ((y.2 : Nat) : Int) == ((x.2 : Nat) : Int)) = b := by
  rw [← h, Bool.eq_iff_iff]
  simp [Prod.ext_iff]
  omega
 rwa [h2] at h1
theorem UO (a b : Int) : TQ Tryz.prog 31 (.agg #[.int .u64 a, .int .i64 b]) (.agg #[.int .u64 a, .int .i64 b]) true := by
 have h1 := Tj a b a b
 rwa [show (a == a && b == b) = true by simp] at h1
theorem Cg {k j : Nat} {d : DiskD} (h : d.fitK k) (hj : j ≤ k) : d.fitK j := by
 obtain ⟨h1, h2⟩ := h
 exact ⟨by omega, by omega⟩
theorem Jy {k : Nat} {d : DiskD} {x : HV} (h : d.fitK (k + 3)) (hx : Fz x) : (Fg d x).1.fitK k := by
  have hl := MH hx
  unfold Fg
  split
  · exact Cg (GM (k := k + 2) h (by omega)) (by omega)
  · unfold Hi
    have h1 := J8 (k := k + 2) h
    split
    · exact Cg h1 (by omega)
    · have h2 := GM (n := newN) (b := Be (layH x)) (k := k + 1) h1 (by omega)
      split
      · exact Cg h2 (by omega)
      · exact S9 h2
theorem NX {room : Int} {k : Nat} (hk : k ≤ 9000) : (HU room).fitK k := ⟨by
 show 0 + 0 + 65536 * k ≤ _
 omega, by
 show 0 + k ≤ _
 omega⟩
theorem HS.fit0 {d : DiskD} {L : List HV} {k : Nat} (h : HS d L) (hw : d.wait = []) (hk : k ≤ 9000) : d.fitK k := by
  have h1 := h.used
  have h2 : d.now = d.syn := by unfold DiskD.now; rw [hw]; rfl
  rw [h2] at h1
  refine ⟨?_, ?_⟩
  · rw [hw]
    show AE d.syn + 0 + _ ≤ _
    omega
  · rw [hw]
    show 0 + k ≤ _
    omega
theorem Uu {d : DiskD} {L : List HV} (h : HS d L) {b : List UInt8} (hb : (BB (Bb d).1 hardN).getD [] = b) : b.length ≤ 137438953472 := by
 have hrm : Bb d = (d, 0) := by
  unfold Bb BB
  rw [if_neg]
  rw [h.up, if_neg (by simp), h.none_]
  simp
 rw [hrm] at hb
 have hr : (BB d hardN).getD [] = K2 L := by
  unfold BB
  rw [h.up, if_neg (by simp), h.at_]
 have := h.le
 rw [← hb, hr]; omega
theorem LS {room : Int} {f : FS} {V : HV → Prop} (h : HFile f V) {b : List UInt8} (hb : (BB (Bb ⟨room, f, [], none, false⟩).1 hardN).getD [] = b) : b.length ≤ 137438953472 := by
  have h1 : (BB (Bb ⟨room, f, [], none, false⟩).1 hardN).getD [] = (AL f hardN).getD [] := by
    unfold Bb
    split
    · rename_i hs
      have hx : ∃ x, AL f newN = some x := Option.isSome_iff_exists.1 hs
      obtain ⟨x, hx⟩ := hx
      have hdel : Hq ⟨room, f, [], none, false⟩ newN = (Cn ⟨room, f, [], none, false⟩ (.del newN), 0) := by
        unfold Hq
        rw [EF rfl rfl]
        simp only
        rw [if_neg (by simp)]
        show (match AL f newN with | none => _ | some _ => _) = _
        rw [hx]
      rw [hdel]
      show ((if false = true then none else AL (Cn ⟨room, f, [], none, false⟩ (.del newN)).now hardN).getD []) = _
      rw [if_neg (by simp), CJ]
      show (AL (BS f newN) hardN).getD [] = _
      rw [IB h.nd, if_neg Fu]
    · rfl
  have := h.lh
  rw [← hb, h1]; omega
structure KI (i a : Nat) (A : List HV) (d : DiskD) (L : List HV) : Prop where
  hs : HS d L
  cr : CR d fun x => ∃ j, a ≤ j ∧ A[j]? = some x
  len : A.length = i + 1
  ai : a ≤ i
  last : A[i]? = some (Bq L)
  fit : d.fitK (300 - 3 * i)
theorem KI.sync {i a : Nat} {A : List HV} {d : DiskD} {L : List HV} (h : KI i a A d L) : ∃ d', Ge d = (d', 0) ∧ KI i i A d' L := by
 obtain ⟨d', h1, h2, h3, h4⟩ := Qk h.hs (V := fun x => ∃ j, i ≤ j ∧ A[j]? = some x) ⟨i, Nat.le_refl _, h.last⟩
 exact ⟨d', h1, h2, h3, h.len, Nat.le_refl _, h.last, h2.fit0 h4 (by omega)⟩
theorem KI.save {i a : Nat} {A : List HV} {d : DiskD} {L : List HV} (h : KI i a A d L) (hi : i < 90) {x : HV} (hx : Fz x) : ∃ d' L', Fg d x = (d', 0) ∧ KI (i + 1) a (A ++ [x]) d' L' := by
 have hold : ∀ y, (∃ j, a ≤ j ∧ A[j]? = some y) → ∃ j, a ≤ j ∧ (A ++ [x])[j]? = some y := fun y ⟨j, h1, h2⟩ => ⟨j, h1, by rw [List.getElem?_append_left (List.getElem?_eq_some_iff.1 h2).1]; exact h2⟩
 have hnew : (A ++ [x])[i + 1]? = some x := by rw [List.getElem?_append_right (by rw [h.len]; omega), h.len]; simp
 obtain ⟨d', L', h1, h2, h3, h4, _, _⟩ := h.hs.save (h.cr.imp hold) (hold _ ⟨i, h.ai, h.last⟩) hx ⟨i + 1, by have := h.ai; omega, hnew⟩
 refine ⟨d', L', h1, h2, h3, by rw [List.length_append, h.len]; rfl, by have := h.ai; omega, by rw [h4]; exact hnew, ?_⟩
 have h5 := Jy (k := 300 - 3 * (i + 1)) (d := d) (x := x) (Cg h.fit (by omega)) hx
 rwa [h1] at h5
theorem KI.crash {i a : Nat} {A : List HV} {d : DiskD} {L : List HV} (h : KI i a A d L) (keep torn : Int) : (DU d keep torn).fitK 9 ∧ (∀ b, (BB (Bb (DU d keep torn)).1 hardN).getD [] = b → b.length ≤ 137438953472) ∧ ∃ d' x j, C5 (DU d keep torn) = (d', x, 0) ∧ a ≤ j ∧ A[j]? = some x := by
 obtain ⟨h1, d', x, h2, j, h3, h4⟩ := h.cr.crash keep torn
 exact ⟨h1, fun b hb => LS (h.cr (DD d keep) (KD d keep) |>.left torn) hb, d', x, j, h2, h3, h4⟩
theorem Rw {a b : Int} (h : 0 ≤ a) : a.tmod b = a % b := Int.tmod_eq_emod_of_nonneg h
theorem Wd : ∃ d1 d2 d3 : DiskD, Fg (HU 1048576) (3, 1) = (d1, 0) ∧ d1.fit ∧ Ge d1 = (d2, 0) ∧ d2.fitK 9 ∧ Fg d2 (4, 2) = (d3, 0) ∧ d3.fitK 6 ∧ C5 d3 = (d3, (4, 2), 0) ∧ (∀ b, (BB (Bb d3).1 hardN).getD [] = b → b.length ≤ 137438953472) ∧ (DU d3 0 3).fitK 9 ∧ (∀ b, (BB (Bb (DU d3 0 3)).1 hardN).getD [] = b → b.length ≤ 137438953472) ∧ ∃ d4, C5 (DU d3 0 3) = (d4, (3, 1), 0) := by
 have hs0 : HS (HU 1048576) [] := Vq rfl
 obtain ⟨d1, L1, h1, hs1, hc1, hl1, hw1, _⟩ := hs0.save (Vr (V := fun _ => True) trivial) trivial (x := (3, 1)) (by decide) trivial
 have hf1 := Jy (k := 6) (d := HU 1048576) (x := (3, 1)) (NX (by decide)) (by decide)
 rw [h1] at hf1
 obtain ⟨d2, h2, hs2, hc2, hw2⟩ := Qk hs1 (V := fun _ => True) trivial
 obtain ⟨d3, L3, h3, hs3, hc3, hl3, hw3, hk3⟩ := hs2.save hc2 trivial (x := (4, 2)) (by decide) trivial
 have hf3 := Jy (k := 6) (d := d2) (x := (4, 2)) (hs2.fit0 hw2 (by decide)) (by decide)
 rw [h3] at hf3
 have hk := hk3 (fun x => x = (3, 1)) hl1
 have he : DD d3 0 = d2.wait.length := by rw [hw2]; unfold DD; simp
 rw [← he] at hk
 obtain ⟨hf4, d4, x, h4, rfl⟩ := hk.crash 3
 exact ⟨d1, d2, d3, h1, hf1.fit, h2, hs2.fit0 hw2 (by decide), h3, hf3, by rw [Ur hs3, hl3], fun b hb => Uu hs3 hb, hf4, fun b hb => LS (hk.left 3) hb, d4, h4⟩
set_option maxRecDepth 100000 in
theorem Fv (w : World)  : Calls Tryz.prog 6 #[] w fun e w' => e = .returned (.bool true) ∧ Below w.heap.size w w' := by
 refine In (args := []) 62 Tryz.func6 rfl rfl rfl ?_
 obtain ⟨d1, d2, d3, k1, f1, k2, f2, k3, f3, k4, r4, f5, r5, d4, k5⟩ := Wd
 obtain ⟨d0, hd0⟩ : ∃ d0, HU 1048576 = d0 := ⟨_, rfl⟩
 have f0 : d0.fitK 9 := by rw [← hd0]; exact NX (by decide)
 rw [hd0] at k1
 obtain ⟨dc, hdc⟩ : ∃ dc, DU d3 0 3 = dc := ⟨_, rfl⟩
 rw [hdc] at f5 r5 k5
 obtain ⟨kk, hkk⟩ : ∃ k, DD d3 0 = k := ⟨_, rfl⟩
 refine Ad ?_
 refine Af Ak rfl ?_
 refine Ab (Ad ?_)
 refine Af Ak rfl ?_
 refine Ai rfl (Am (os' := fun p => [Ap p d0]) [] 0 (Ah Tryz.func20 (by kernel_rfl) rfl) ((hd0 ▸ Nz 1048576 (by decide))) rfl rfl rfl (fun _ => rfl) rfl rfl rfl) ?_; rintro p
 refine Af Ak rfl ?_
 refine Ab (Aq (Ad ?_))
 refine Af Ak rfl ?_
 refine Ac rfl (.bool false) (fun b w hb hH => Bh rfl rfl rfl (AU (by decide)) hb) ?_
 refine Af Ak rfl ?_
 refine Ac rfl (.bool false) (fun b w hb hH => DL (by kernel_rfl) rfl rfl rfl hb) ?_
 refine Af Ak rfl ?_
 refine Ac rfl (.agg #[.int .u64 3, .int .i64 1]) (fun b w hb hH => AV rfl rfl (by kernel_rfl) hb) ?_
 refine Ai rfl (Am (os' := fun _ => [Ap p d1]) [0] 0 (Ah Tryz.func16 (by kernel_rfl) rfl) (K6 (z := (3, 1)) (by decide) (Cg f0 (by decide)) k1) rfl rfl rfl (fun _ => rfl) rfl rfl rfl) ?_; rintro ⟨⟩
 refine Ac rfl (.bool false) (fun b w hb hH => Bh rfl rfl rfl (AU (by decide)) hb) ?_
 refine Af Ak rfl ?_
 refine Ai rfl (Am (os' := fun _ => [Ap p d2]) [0] 0 (Ah Tryz.func9 (by kernel_rfl) rfl) (Jp f1 k2) rfl rfl rfl (fun _ => rfl) rfl rfl rfl) ?_; rintro ⟨⟩
 refine Ac rfl (.bool false) (fun b w hb hH => Bh rfl rfl rfl (AU (by decide)) hb) ?_
 refine Af Ak rfl ?_
 refine Ac rfl (.agg #[.int .u64 4, .int .i64 2]) (fun b w hb hH => AV rfl rfl (by kernel_rfl) hb) ?_
 refine Ai rfl (Am (os' := fun _ => [Ap p d3]) [0] 0 (Ah Tryz.func16 (by kernel_rfl) rfl) (K6 (z := (4, 2)) (by decide) (Cg f2 (by decide)) k3) rfl rfl rfl (fun _ => rfl) rfl rfl rfl) ?_; rintro ⟨⟩
 refine Ac rfl (.bool false) (fun b w hb hH => Bh rfl rfl rfl (AU (by decide)) hb) ?_
 refine Af Ak rfl ?_
 refine Ab (Au rfl (Ax (AG (Ad ?_))))
 refine Af Ak rfl ?_
 refine Ai rfl (Am (os' := fun _ => [Ap p d3]) [0] 0 (Ah Tryz.func11 (by kernel_rfl) rfl) (Es (Cg f3 (by decide)) r4 k4) rfl rfl rfl (fun _ => rfl) rfl rfl rfl) ?_; rintro ⟨⟩
 refine Af Ak rfl ?_
 refine Ai (post := fun g3 => [cell g3 31 #[.int .u64 0, .int .i64 0], Ap p d3]) rfl (BL Bk rfl) ?_; rintro g3
 refine AT (post := fun _ => [cell g3 31 #[.int .u64 4, .int .i64 2], Ap p d3]) rfl rfl (AM 0 (v := .agg #[.int .u64 4, .int .i64 2]) #[.int .u64 4, .int .i64 2] An.2 rfl rfl rfl rfl rfl rfl rfl rfl rfl) ?_; rintro ⟨⟩
 refine Af Ak rfl ?_
 refine Ab (Ad ?_)
 refine Af Ak rfl ?_
 refine Ai rfl (Am (os' := fun _ => [cell g3 31 #[.int .u64 4, .int .i64 2], Ap p dc]) [1] 0 (Ah Tryz.func23 (by kernel_rfl) rfl) (O0 f3.fit (by decide) (by decide) hkk hdc) rfl rfl rfl (fun _ => rfl) rfl rfl rfl) ?_; rintro ⟨⟩
 refine Ab (Ad ?_)
 refine Af Ak rfl ?_
 refine Ai rfl (Am (os' := fun _ => [cell g3 31 #[.int .u64 4, .int .i64 2], Ap p d4]) [1] 0 (Ah Tryz.func11 (by kernel_rfl) rfl) (Es (Cg f5 (by decide)) r5 k5) rfl rfl rfl (fun _ => rfl) rfl rfl rfl) ?_; rintro ⟨⟩
 refine Af Ak rfl ?_
 refine Ai (post := fun g5 => [cell g5 31 #[.int .u64 0, .int .i64 0], cell g3 31 #[.int .u64 4, .int .i64 2], Ap p d4]) rfl (BL Bk rfl) ?_; rintro g5
 refine AT (post := fun _ => [cell g5 31 #[.int .u64 3, .int .i64 1], cell g3 31 #[.int .u64 4, .int .i64 2], Ap p d4]) rfl rfl (AM 0 (v := .agg #[.int .u64 3, .int .i64 1]) #[.int .u64 3, .int .i64 1] An.2 rfl rfl rfl rfl rfl rfl rfl rfl rfl) ?_; rintro ⟨⟩
 refine Af Ak rfl ?_
 refine Ab ?_
 refine Bo.keep (env' := [(0, .bool false), (3, .pointer (some ⟨g3, 0, none⟩)), (4, .int .i64 0), (5, .pointer (some ⟨g5, 0, none⟩)), (6, .int .i64 0)]) ⟨rfl, rfl, rfl, rfl, rfl, trivial⟩ ?_
 refine Ad ?_
 refine Af Ak rfl ?_
 refine Ac rfl (.bool true) (fun b w hb hH => Bh rfl rfl rfl (Ks (by decide)) hb) ?_
 refine Af Ak rfl ?_
 refine Ac rfl (.agg #[.int .u64 4, .int .i64 2]) (fun b w hb hH => Bg rfl rfl (EH (cs := [.int .u64 4, .int .i64 2]) An rfl) (hH.row 1 rfl) hb) ?_
 refine Ac rfl (.agg #[.int .u64 4, .int .i64 2]) (fun b w hb hH => AV rfl rfl (by kernel_rfl) hb) ?_
 refine Ac rfl (.bool true) (fun b w hb hH => FA (UO 4 2) rfl rfl rfl hb) ?_
 refine Af Ak rfl ?_
 refine Ac rfl (.bool true) (fun b w hb hH => Bh rfl rfl rfl (Ks (by decide)) hb) ?_
 refine Af Ak rfl ?_
 refine Ac rfl (.agg #[.int .u64 3, .int .i64 1]) (fun b w hb hH => Bg rfl rfl (EH (cs := [.int .u64 3, .int .i64 1]) An rfl) (hH.row 0 rfl) hb) ?_
 refine Ac rfl (.agg #[.int .u64 3, .int .i64 1]) (fun b w hb hH => AV rfl rfl (by kernel_rfl) hb) ?_
 refine Ac rfl (.bool true) (fun b w hb hH => FA (UO 3 1) rfl rfl rfl hb) ?_
 refine Af Ak rfl ?_
 refine Ab (Az ?_)
 exact Ay (.tmp rfl) (fun w h => ⟨rfl, AF h.up⟩) rfl
end Go.Proofs.YtnknboibmifacaaGreat.Sep
