/-
  HdK
-/
import Derived.Test.YtnknboibmifacaaGreatPB02
import Derived.Test.YtnknboibmifacaaGreatPJ03
set_option linter.unusedSimpArgs false
set_option linter.unusedVariables false
namespace Go.Proofs.YtnknboibmifacaaGreat.Sep
open Go.RowKit
open Go.Proofs.YtnknboibmifacaaGreat.Mem (Bl Co Chg AG)
def hz (x : HV) : Int × Int := (((x.1 : Nat) : Int), ((x.2 : Nat) : Int))
def Ty (x : Int × Int) : Prop := (0 ≤ x.1 ∧ x.1 ≤ 18446744073709551615) ∧ (-9223372036854775808 ≤ x.2 ∧ x.2 ≤ 9223372036854775807)
theorem Tz (a b c d : Int) : Sb Tryz.prog 31 (.agg #[.int .u64 a, .int .i64 b]) (.agg #[.int .u64 c, .int .i64 d]) (a == c && b == d) := fun x y w => by
 go_simp
 by_cases h1 : a = c <;> by_cases h2 : b = d <;> simp [h1, h2]
theorem Wp (y x : HV) (b : Bool) (h : decide (y = x) = b) : Sb Tryz.prog 31 (.agg #[.int .u64 ((y.1 : Nat) : Int), .int .i64 ((y.2 : Nat) : Int)]) (.agg #[.int .u64 ((x.1 : Nat) : Int), .int .i64 ((x.2 : Nat) : Int)]) b := by
 have h1 := Tz ((y.1 : Nat) : Int) ((y.2 : Nat) : Int) ((x.1 : Nat) : Int) ((x.2 : Nat) : Int)
 have h2 : (((y.1 : Nat) : Int) == ((x.1 : Nat) : Int) && ((y.2 : Nat) : Int) == ((x.2 : Nat) : Int)) = b := by
  rw [← h, Bool.eq_iff_iff]
  simp [Prod.ext_iff]
  omega
 rwa [h2] at h1
theorem Vc (a b : Int) : Sb Tryz.prog 31 (.agg #[.int .u64 a, .int .i64 b]) (.agg #[.int .u64 a, .int .i64 b]) true := by
 have h1 := Tz a b a b
 rwa [show (a == a && b == b) = true by simp] at h1
theorem CB {k j : Nat} {d : DiskD} (h : d.fitK k) (hj : j ≤ k) : d.fitK j := by
 obtain ⟨h1, h2⟩ := h
 exact ⟨by omega, by omega⟩
theorem JR {k : Nat} {d : DiskD} {x : HV} (h : d.fitK (k + 3)) (hx : E5 x) : (Et d x).1.fitK k := by
  have hl := Lo hx
  unfold Et
  split
  · exact CB (FL (k := k + 2) h (by omega)) (by omega)
  · unfold GC
    have h1 := Jg (k := k + 2) h
    split
    · exact CB h1 (by omega)
    · have h2 := FL (n := newN) (b := Bc (layH x)) (k := k + 1) h1 (by omega)
      split
      · exact CB h2 (by omega)
      · exact To h2
theorem Of {room : Int} {k : Nat} (hk : k ≤ 9000) : (GW room).fitK k := ⟨by
 show 0 + 0 + 65536 * k ≤ _
 omega, by
 show 0 + k ≤ _
 omega⟩
theorem HS.fit0 {d : DiskD} {L : List HV} {k : Nat} (h : HS d L) (hw : d.wait = []) (hk : k ≤ 9000) : d.fitK k := by
  have h1 := h.used
  have h2 : d.now = d.syn := by unfold DiskD.now; rw [hw]; rfl
  rw [h2] at h1
  refine ⟨?_, ?_⟩
  · rw [hw]
    show AK d.syn + 0 + _ ≤ _
    omega
  · rw [hw]
    show 0 + k ≤ _
    omega
theorem UR {d : DiskD} {L : List HV} (h : HS d L) {b : List UInt8} (hb : (BJ (Be d).1 hardN).getD [] = b) : b.length ≤ 137438953472 := by
 have hrm : Be d = (d, 0) := by
  unfold Be BJ
  rw [if_neg]
  rw [h.up, if_neg (by simp), h.none_]
  simp
 rw [hrm] at hb
 have hr : (BJ d hardN).getD [] = Lm L := by
  unfold BJ
  rw [h.up, if_neg (by simp), h.at_]
 have := h.le
 rw [← hb, hr]; omega
theorem Mf {room : Int} {f : FS} {V : HV → Prop} (h : HFile f V) {b : List UInt8} (hb : (BJ (Be ⟨room, f, [], none, false⟩).1 hardN).getD [] = b) : b.length ≤ 137438953472 := by
  have h1 : (BJ (Be ⟨room, f, [], none, false⟩).1 hardN).getD [] = (AQ f hardN).getD [] := by
    unfold Be
    split
    · rename_i hs
      have hx : ∃ x, AQ f newN = some x := Option.isSome_iff_exists.1 hs
      obtain ⟨x, hx⟩ := hx
      have hdel : GH ⟨room, f, [], none, false⟩ newN = (Cr ⟨room, f, [], none, false⟩ (.del newN), 0) := by
        unfold GH
        rw [EY rfl rfl]
        simp only
        rw [if_neg (by simp)]
        show (match AQ f newN with | none => _ | some _ => _) = _
        rw [hx]
      rw [hdel]
      show ((if false = true then none else AQ (Cr ⟨room, f, [], none, false⟩ (.del newN)).now hardN).getD []) = _
      rw [if_neg (by simp), C2]
      show (AQ (BX f newN) hardN).getD [] = _
      rw [IX h.nd, if_neg FM]
    · rfl
  have := h.lh
  rw [← hb, h1]; omega
structure KI (i a : Nat) (A : List HV) (d : DiskD) (L : List HV) : Prop where
  hs : HS d L
  cr : CR d fun x => ∃ j, a ≤ j ∧ A[j]? = some x
  len : A.length = i + 1
  ai : a ≤ i
  last : A[i]? = some (Bz L)
  fit : d.fitK (300 - 3 * i)
theorem KI.sync {i a : Nat} {A : List HV} {d : DiskD} {L : List HV} (h : KI i a A d L) : ∃ d', F1 d = (d', 0) ∧ KI i i A d' L := by
 obtain ⟨d', h1, h2, h3, h4⟩ := QB h.hs (V := fun x => ∃ j, i ≤ j ∧ A[j]? = some x) ⟨i, Nat.le_refl _, h.last⟩
 exact ⟨d', h1, h2, h3, h.len, Nat.le_refl _, h.last, h2.fit0 h4 (by omega)⟩
theorem KI.save {i a : Nat} {A : List HV} {d : DiskD} {L : List HV} (h : KI i a A d L) (hi : i < 90) {x : HV} (hx : E5 x) : ∃ d' L', Et d x = (d', 0) ∧ KI (i + 1) a (A ++ [x]) d' L' := by
 have hold : ∀ y, (∃ j, a ≤ j ∧ A[j]? = some y) → ∃ j, a ≤ j ∧ (A ++ [x])[j]? = some y := fun y ⟨j, h1, h2⟩ => ⟨j, h1, by rw [List.getElem?_append_left (List.getElem?_eq_some_iff.1 h2).1]; exact h2⟩
 have hnew : (A ++ [x])[i + 1]? = some x := by rw [List.getElem?_append_right (by rw [h.len]; omega), h.len]; simp
 obtain ⟨d', L', h1, h2, h3, h4, _, _⟩ := h.hs.save (h.cr.imp hold) (hold _ ⟨i, h.ai, h.last⟩) hx ⟨i + 1, by have := h.ai; omega, hnew⟩
 refine ⟨d', L', h1, h2, h3, by rw [List.length_append, h.len]; rfl, by have := h.ai; omega, by rw [h4]; exact hnew, ?_⟩
 have h5 := JR (k := 300 - 3 * (i + 1)) (d := d) (x := x) (CB h.fit (by omega)) hx
 rwa [h1] at h5
theorem KI.crash {i a : Nat} {A : List HV} {d : DiskD} {L : List HV} (h : KI i a A d L) (keep torn : Int) : (Cn d keep torn).fitK 9 ∧ (∀ b, (BJ (Be (Cn d keep torn)).1 hardN).getD [] = b → b.length ≤ 137438953472) ∧ ∃ d' x j, DF (Cn d keep torn) = (d', x, 0) ∧ a ≤ j ∧ A[j]? = some x := by
 obtain ⟨h1, d', x, h2, j, h3, h4⟩ := h.cr.crash keep torn
 exact ⟨h1, fun b hb => Mf (h.cr (Cs d keep) (I5 d keep) |>.left torn) hb, d', x, j, h2, h3, h4⟩
def Lr (y : Int × Int) : HV := ((y.1 % 400).toNat, (y.2 % 8).toNat)
theorem TA (y : Int × Int) : E5 (Lr y) ∧ (((Lr y).1 : Nat) : Int) = y.1 % 400 ∧ (((Lr y).2 : Nat) : Int) = y.2 % 8 := by
 have h1 := Int.emod_nonneg y.1 (show (400 : Int) ≠ 0 by decide)
 have h2 := Int.emod_lt_of_pos y.1 (show (0 : Int) < 400 by decide)
 have h3 := Int.emod_nonneg y.2 (show (8 : Int) ≠ 0 by decide)
 have h4 := Int.emod_lt_of_pos y.2 (show (0 : Int) < 8 by decide)
 unfold Lr E5
 simp only
 omega
theorem RO {a b : Int} (h : 0 ≤ a) : a.tmod b = a % b := Int.tmod_eq_emod_of_nonneg h
theorem WF : ∃ d1 d2 d3 : DiskD, Et (GW 1048576) (3, 1) = (d1, 0) ∧ d1.fit ∧ F1 d1 = (d2, 0) ∧ d2.fitK 9 ∧ Et d2 (4, 2) = (d3, 0) ∧ d3.fitK 6 ∧ DF d3 = (d3, (4, 2), 0) ∧ (∀ b, (BJ (Be d3).1 hardN).getD [] = b → b.length ≤ 137438953472) ∧ (Cn d3 0 3).fitK 9 ∧ (∀ b, (BJ (Be (Cn d3 0 3)).1 hardN).getD [] = b → b.length ≤ 137438953472) ∧ ∃ d4, DF (Cn d3 0 3) = (d4, (3, 1), 0) := by
 have hs0 : HS (GW 1048576) [] := VM rfl
 obtain ⟨d1, L1, h1, hs1, hc1, hl1, hw1, _⟩ := hs0.save (VN (V := fun _ => True) trivial) trivial (x := (3, 1)) (by decide) trivial
 have hf1 := JR (k := 6) (d := GW 1048576) (x := (3, 1)) (Of (by decide)) (by decide)
 rw [h1] at hf1
 obtain ⟨d2, h2, hs2, hc2, hw2⟩ := QB hs1 (V := fun _ => True) trivial
 obtain ⟨d3, L3, h3, hs3, hc3, hl3, hw3, hk3⟩ := hs2.save hc2 trivial (x := (4, 2)) (by decide) trivial
 have hf3 := JR (k := 6) (d := d2) (x := (4, 2)) (hs2.fit0 hw2 (by decide)) (by decide)
 rw [h3] at hf3
 have hk := hk3 (fun x => x = (3, 1)) hl1
 have he : Cs d3 0 = d2.wait.length := by rw [hw2]; unfold Cs; simp
 rw [← he] at hk
 obtain ⟨hf4, d4, x, h4, rfl⟩ := hk.crash 3
 exact ⟨d1, d2, d3, h1, hf1.fit, h2, hs2.fit0 hw2 (by decide), h3, hf3, by rw [UP hs3, hl3], fun b hb => UR hs3 hb, hf4, fun b hb => Mf (hk.left 3) hb, d4, h4⟩
set_option maxRecDepth 100000 in
theorem Og (w : World)  : Calls Tryz.prog 6 #[] w fun e w' => e = .returned (.bool true) ∧ Below w.heap.size w w' := by
 refine Fy (args := []) 62 Tryz.func6 rfl rfl rfl ?_
 obtain ⟨d1, d2, d3, k1, f1, k2, f2, k3, f3, k4, r4, f5, r5, d4, k5⟩ := WF
 obtain ⟨d0, hd0⟩ : ∃ d0, GW 1048576 = d0 := ⟨_, rfl⟩
 have f0 : d0.fitK 9 := by rw [← hd0]; exact Of (by decide)
 rw [hd0] at k1
 obtain ⟨dc, hdc⟩ : ∃ dc, Cn d3 0 3 = dc := ⟨_, rfl⟩
 rw [hdc] at f5 r5 k5
 obtain ⟨kk, hkk⟩ : ∃ k, Cs d3 0 = k := ⟨_, rfl⟩
 refine Ad ?_
 refine Ae Ai rfl ?_
 refine Aa (Ad ?_)
 refine Ae Ai rfl ?_
 refine Aj rfl (Al (os' := fun p => [Ao p d0]) [] 0 (Ah Tryz.func20 (by kernel_rfl) rfl) ((hd0 ▸ NQ 1048576 (by decide))) rfl rfl rfl (fun _ => rfl) rfl rfl rfl) ?_; rintro p
 refine Ae Ai rfl ?_
 refine Aa (Aq (Ad ?_))
 refine Ae Ai rfl ?_
 refine Ab rfl (.bool false) (fun b w hb hH => AV rfl rfl rfl (AS (by decide)) hb) ?_
 refine Ae Ai rfl ?_
 refine Ab rfl (.bool false) (fun b w hb hH => CJ (by kernel_rfl) rfl rfl rfl hb) ?_
 refine Ae Ai rfl ?_
 refine Ab rfl (.agg #[.int .u64 3, .int .i64 1]) (fun b w hb hH => Bg rfl rfl (by kernel_rfl) hb) ?_
 refine Aj rfl (Al (os' := fun _ => [Ao p d1]) [0] 0 (Ah Tryz.func16 (by kernel_rfl) rfl) (Iw (z := (3, 1)) (by decide) (CB f0 (by decide)) k1) rfl rfl rfl (fun _ => rfl) rfl rfl rfl) ?_; rintro ⟨⟩
 refine Ab rfl (.bool false) (fun b w hb hH => AV rfl rfl rfl (AS (by decide)) hb) ?_
 refine Ae Ai rfl ?_
 refine Aj rfl (Al (os' := fun _ => [Ao p d2]) [0] 0 (Ah Tryz.func9 (by kernel_rfl) rfl) (HC f1 k2) rfl rfl rfl (fun _ => rfl) rfl rfl rfl) ?_; rintro ⟨⟩
 refine Ab rfl (.bool false) (fun b w hb hH => AV rfl rfl rfl (AS (by decide)) hb) ?_
 refine Ae Ai rfl ?_
 refine Ab rfl (.agg #[.int .u64 4, .int .i64 2]) (fun b w hb hH => Bg rfl rfl (by kernel_rfl) hb) ?_
 refine Aj rfl (Al (os' := fun _ => [Ao p d3]) [0] 0 (Ah Tryz.func16 (by kernel_rfl) rfl) (Iw (z := (4, 2)) (by decide) (CB f2 (by decide)) k3) rfl rfl rfl (fun _ => rfl) rfl rfl rfl) ?_; rintro ⟨⟩
 refine Ab rfl (.bool false) (fun b w hb hH => AV rfl rfl rfl (AS (by decide)) hb) ?_
 refine Ae Ai rfl ?_
 refine Aa (Ar rfl (Ax (AE (Ad ?_))))
 refine Ae Ai rfl ?_
 refine Aj rfl (Al (os' := fun _ => [Ao p d3]) [0] 0 (Ah Tryz.func11 (by kernel_rfl) rfl) (GD (CB f3 (by decide)) r4 k4) rfl rfl rfl (fun _ => rfl) rfl rfl rfl) ?_; rintro ⟨⟩
 refine Ae Ai rfl ?_
 refine Aj (post := fun g3 => [cell g3 31 #[.int .u64 0, .int .i64 0], Ao p d3]) rfl (BS Bq rfl) ?_; rintro g3
 refine AH (post := fun _ => [cell g3 31 #[.int .u64 4, .int .i64 2], Ao p d3]) rfl rfl (AD 0 (v := .agg #[.int .u64 4, .int .i64 2]) #[.int .u64 4, .int .i64 2] Am.2 rfl rfl rfl rfl rfl rfl rfl rfl rfl) ?_; rintro ⟨⟩
 refine Ae Ai rfl ?_
 refine Aa (Ad ?_)
 refine Ae Ai rfl ?_
 refine Aj rfl (Al (os' := fun _ => [cell g3 31 #[.int .u64 4, .int .i64 2], Ao p dc]) [1] 0 (Ah Tryz.func23 (by kernel_rfl) rfl) (Ld f3.fit (by decide) (by decide) hkk hdc) rfl rfl rfl (fun _ => rfl) rfl rfl rfl) ?_; rintro ⟨⟩
 refine Aa (Ad ?_)
 refine Ae Ai rfl ?_
 refine Aj rfl (Al (os' := fun _ => [cell g3 31 #[.int .u64 4, .int .i64 2], Ao p d4]) [1] 0 (Ah Tryz.func11 (by kernel_rfl) rfl) (GD (CB f5 (by decide)) r5 k5) rfl rfl rfl (fun _ => rfl) rfl rfl rfl) ?_; rintro ⟨⟩
 refine Ae Ai rfl ?_
 refine Aj (post := fun g5 => [cell g5 31 #[.int .u64 0, .int .i64 0], cell g3 31 #[.int .u64 4, .int .i64 2], Ao p d4]) rfl (BS Bq rfl) ?_; rintro g5
 refine AH (post := fun _ => [cell g5 31 #[.int .u64 3, .int .i64 1], cell g3 31 #[.int .u64 4, .int .i64 2], Ao p d4]) rfl rfl (AD 0 (v := .agg #[.int .u64 3, .int .i64 1]) #[.int .u64 3, .int .i64 1] Am.2 rfl rfl rfl rfl rfl rfl rfl rfl rfl) ?_; rintro ⟨⟩
 refine Ae Ai rfl ?_
 refine Aa ?_
 refine Bv.keep (env' := [(0, .bool false), (3, .pointer (some ⟨g3, 0, none⟩)), (4, .int .i64 0), (5, .pointer (some ⟨g5, 0, none⟩)), (6, .int .i64 0)]) ⟨rfl, rfl, rfl, rfl, rfl, trivial⟩ ?_
 refine Ad ?_
 refine Ae Ai rfl ?_
 refine Ab rfl (.bool true) (fun b w hb hH => AV rfl rfl rfl (H7 (by decide)) hb) ?_
 refine Ae Ai rfl ?_
 refine Ab rfl (.agg #[.int .u64 4, .int .i64 2]) (fun b w hb hH => A6 rfl rfl (D3 (cs := [.int .u64 4, .int .i64 2]) Am rfl) (hH.row 1 rfl) hb) ?_
 refine Ab rfl (.agg #[.int .u64 4, .int .i64 2]) (fun b w hb hH => Bg rfl rfl (by kernel_rfl) hb) ?_
 refine Ab rfl (.bool true) (fun b w hb hH => FV (Vc 4 2) rfl rfl rfl hb) ?_
 refine Ae Ai rfl ?_
 refine Ab rfl (.bool true) (fun b w hb hH => AV rfl rfl rfl (H7 (by decide)) hb) ?_
 refine Ae Ai rfl ?_
 refine Ab rfl (.agg #[.int .u64 3, .int .i64 1]) (fun b w hb hH => A6 rfl rfl (D3 (cs := [.int .u64 3, .int .i64 1]) Am rfl) (hH.row 0 rfl) hb) ?_
 refine Ab rfl (.agg #[.int .u64 3, .int .i64 1]) (fun b w hb hH => Bg rfl rfl (by kernel_rfl) hb) ?_
 refine Ab rfl (.bool true) (fun b w hb hH => FV (Vc 3 1) rfl rfl rfl hb) ?_
 refine Ae Ai rfl ?_
 refine Aa (Ay ?_)
 exact Av (.tmp rfl) (fun w h => ⟨rfl, AG h.up⟩) rfl
end Go.Proofs.YtnknboibmifacaaGreat.Sep
