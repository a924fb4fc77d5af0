/-
  DskQ · DskC · DskK · DskN2
-/
import Derived.Test.YtnknboibmifacaaGreatYD01
import Derived.Test.YtnknboibmifacaaGreatYE01
import Derived.Test.YtnknboibmifacaaGreatYE02
import Derived.Shelf.SlIter.Nil
import Derived.Shelf.SortM.Plain
import Derived.Shelf.SortM.SortNone
import Derived.Ground.GgzProg
import Derived.Ground.SlgmProg
import Derived.StringKeys
set_option linter.unusedSimpArgs false
set_option linter.unusedVariables false
set_option maxRecDepth 100000
namespace Go.Proofs.YtnknboibmifacaaGreat.Sep
open Go.RowKit
open Go.Proofs.YtnknboibmifacaaGreat.Mem (Bd Cj Chg AF)
theorem SN {p : Nat} {d d1 : DiskD} {n : List UInt8} {s : Int} (h : Ba d = (d1, 3)) : AS Tryz.prog 34 #[.pointer (some ⟨p, 0, none⟩), .string (bs n), .int .i64 s] [Ap p d] (fun (_ : Unit) => .int .i64 3) (fun (_ : Unit) => [Ap p d1]) := by
 refine A6 (args := [.pointer (some ⟨p, 0, none⟩), .string (bs n), .int .i64 s]) 35 Tryz.func34 rfl rfl rfl ?_; intro w rs
 refine Ad ?_
 refine Af Aj rfl ?_
 refine Ab (Aq (Ad ?_))
 refine Af Aj rfl ?_
 refine Ai rfl (Am (os' := fun _ => [Ap p d1]) [0] 0 (Ah Tryz.func28 (by kernel_rfl) rfl) (GC h) rfl rfl rfl (fun _ => rfl) rfl rfl rfl) ?_; rintro ⟨⟩
 refine Af Aj rfl ?_
 refine Ab (AD rfl (Ad ?_))
 refine Af Aj rfl ?_
 refine Ab (Az (CO ?_))
 exact Ay (.tmp rfl) (fun w h => AB () rfl [0] rfl h Cz) rfl
theorem O1 {p : Nat} {d d1 : DiskD} {n : List UInt8} {s : Int} (hfit : d.fit) (h : Ba d = (d1, 0)) (hg : AL d1.now n = none) : AS Tryz.prog 34 #[.pointer (some ⟨p, 0, none⟩), .string (bs n), .int .i64 s] [Ap p d] (fun (_ : Unit) => .int .i64 4) (fun (_ : Unit) => [Ap p d1]) := by
 have hd1 := (Dp h).1
 have hfit1 := Da h hfit
 refine A6 (args := [.pointer (some ⟨p, 0, none⟩), .string (bs n), .int .i64 s]) 35 Tryz.func34 rfl rfl rfl ?_; intro w rs
 refine Ad ?_
 refine Af Aj rfl ?_
 refine Ab (Aq (Ad ?_))
 refine Af Aj rfl ?_
 refine Ai rfl (Am (os' := fun _ => [Ap p d1]) [0] 0 (Ah Tryz.func28 (by kernel_rfl) rfl) (C7 h) rfl rfl rfl (fun _ => rfl) rfl rfl rfl) ?_; rintro ⟨⟩
 refine Af Aj rfl ?_
 refine Ab (Au rfl (Ax (AG (Aq ?_))))
 refine AY 0 rfl (CW hd1) (fun _ => rfl) ?_; rintro x
 refine Bo.fact 3 rfl Bx ?_; rintro hsn
 refine Bo.fact 4 rfl BK ?_; rintro hgn
 have hgL : AL x.L n = none := by rw [F2 x.hg hgn] at hg; simpa using hg
 refine Ad ?_
 refine Af Aj rfl ?_
 refine Ac rfl (.pointer (some ⟨p, 0, none⟩)) (fun b w hb hH => by exact BO rfl rfl hb) ?_
 refine Af Aj rfl ?_
 refine Ac rfl (x.sh) (fun b w hb hH => Bg rfl rfl (Bt AJ rfl) (hH.row 0 rfl) hb) ?_
 refine Af Aj rfl ?_
 refine Ai rfl (Am (os' := fun _ => [cell p 67 #[.int .i64 d1.room, .int .i64 (CV d1.fuse), .bool false, x.pv, x.sm, x.sh], Ao 99 5 encO x.pv x.W, BF x.W, Av x.sm d1.syn, By encKey AH x.sh x.L, Bn x.L]) [4] 0 (Ah Tryz.func57 (by kernel_rfl) rfl) (Fp _ _ n _ hgL) rfl rfl rfl (fun _ => rfl) rfl rfl rfl) ?_; rintro ⟨⟩
 refine Af Aj rfl ?_
 refine Ab (AD rfl (Ad ?_))
 refine Af Aj rfl ?_
 refine Ab (Az (CO ?_))
 exact Ay (.tmp rfl) (fun w h => AB () rfl [0, 1, 2, 3, 4, 5] rfl h (CG (os := []) x hd1)) rfl
theorem Rj {p : Nat} {d d1 : DiskD} {n : List UInt8} {s : Int} {y : List UInt8} (hfit : d.fit) (h : Ba d = (d1, 0)) (hg : AL d1.now n = some y) (hs : s < 0 ∨ (y.length : Int) < s) : AS Tryz.prog 34 #[.pointer (some ⟨p, 0, none⟩), .string (bs n), .int .i64 s] [Ap p d] (fun (_ : Unit) => .int .i64 1) (fun (_ : Unit) => [Ap p d1]) := by
  have hd1 := (Dp h).1
  have hfit1 := Da h hfit
  refine A6 (args := [.pointer (some ⟨p, 0, none⟩), .string (bs n), .int .i64 s]) 35 Tryz.func34 rfl rfl rfl ?_; intro w rs
  refine Ad ?_
  refine Af Aj rfl ?_
  refine Ab (Aq (Ad ?_))
  refine Af Aj rfl ?_
  refine Ai rfl (Am (os' := fun _ => [Ap p d1]) [0] 0 (Ah Tryz.func28 (by kernel_rfl) rfl) (C7 h) rfl rfl rfl (fun _ => rfl) rfl rfl rfl) ?_; rintro ⟨⟩
  refine Af Aj rfl ?_
  refine Ab (Au rfl (Ax (AG (Aq ?_))))
  refine AY 0 rfl (CW hd1) (fun _ => rfl) ?_; rintro x
  refine Bo.fact 3 rfl Bx ?_; rintro hsn
  refine Bo.fact 4 rfl BK ?_; rintro hgn
  obtain ⟨r, hgL, hry⟩ : ∃ r, AL x.L n = some r ∧ r.2 = y := by rw [F2 x.hg hgn] at hg; exact Option.map_eq_some_iff.1 hg
  subst hry
  have hm : (n, r) ∈ x.L := (B3 (by rw [DN] at hgn; exact hgn)).1 hgL
  refine Ad ?_
  refine Af Aj rfl ?_
  refine Ac rfl (.pointer (some ⟨p, 0, none⟩)) (fun b w hb hH => by exact BO rfl rfl hb) ?_
  refine Af Aj rfl ?_
  refine Ac rfl (x.sh) (fun b w hb hH => Bg rfl rfl (Bt AJ rfl) (hH.row 0 rfl) hb) ?_
  refine Af Aj rfl ?_
  refine Ai rfl (Am (os' := fun _ => [cell p 67 #[.int .i64 d1.room, .int .i64 (CV d1.fuse), .bool false, x.pv, x.sm, x.sh], Ao 99 5 encO x.pv x.W, BF x.W, Av x.sm d1.syn, By encKey AH x.sh x.L, Bn x.L]) [4] 0 (Ah Tryz.func57 (by kernel_rfl) rfl) (Fp _ _ n _ hgL) rfl rfl rfl (fun _ => rfl) rfl rfl rfl) ?_; rintro ⟨⟩
  refine Af Aj rfl ?_
  refine Ab (Au rfl (Ax (AG (Aq ?_))))
  rcases Int.lt_or_le s 0 with h0 | h0
  · skip
    refine Ad ?_
    refine Af Aj rfl ?_
    refine Ac rfl (.bool true) (fun b w hb hH => Bh rfl rfl rfl (Bl (by omega)) hb) ?_
    refine Af Aj rfl ?_
    refine Ab (AD rfl (Ad ?_))
    refine Af Aj rfl ?_
    refine Ab (Az (CO ?_))
    exact Ay (.tmp rfl) (fun w h => AB () rfl [0, 1, 2, 3, 4, 5] rfl h (CG (os := []) x hd1)) rfl
  · skip
    refine Ad ?_
    refine Af Aj rfl ?_
    refine Ac rfl (.bool false) (fun b w hb hH => Bh rfl rfl rfl (Bu (by omega)) hb) ?_
    refine Af Aj rfl ?_
    refine Ac rfl (.pointer (some ⟨p, 0, none⟩)) (fun b w hb hH => by exact BO rfl rfl hb) ?_
    refine Af Aj rfl ?_
    refine Ac rfl (x.sh) (fun b w hb hH => Bg rfl rfl (Bt AJ rfl) (hH.row 0 rfl) hb) ?_
    refine Af Aj rfl ?_
    refine Ac rfl (r.1) (fun b w hb hH => Gx 4 CU rfl (k := n) (r := some r) hgL rfl rfl rfl hH hb) ?_
    refine Ac rfl (.int .i64 (r.2.length : Int)) (fun b w hb hH => AQ ((hH.rd8 5 rfl (G9 hm)).rd) Tryz.underlying48 rfl rfl hb) ?_
    refine Ac rfl (.bool true) (fun b w hb hH => Bh rfl rfl rfl (B2 (by omega)) hb) ?_
    refine Af Aj rfl ?_
    refine Ab (AD rfl (Ad ?_))
    refine Af Aj rfl ?_
    refine Ab (Az (CO ?_))
    exact Ay (.tmp rfl) (fun w h => AB () rfl [0, 1, 2, 3, 4, 5] rfl h (CG (os := []) x hd1)) rfl
theorem SO {p : Nat} {d d1 : DiskD} {n : List UInt8} {s : Nat} {y : List UInt8} (hfit : d.fit) (h : Ba d = (d1, 0)) (hg : AL d1.now n = some y) (hs : s ≤ y.length) : AS Tryz.prog 34 #[.pointer (some ⟨p, 0, none⟩), .string (bs n), .int .i64 (s : Int)] [Ap p d] (fun (_ : Unit) => .int .i64 0) (fun (_ : Unit) => [Ap p (Cn d1 (.cut n s))]) := by
 have hd1 := (Dp h).1
 have hfit1 := Da h hfit
 have hg_ := hg
 refine A6 (args := [.pointer (some ⟨p, 0, none⟩), .string (bs n), .int .i64 (s : Int)]) 35 Tryz.func34 rfl rfl rfl ?_; intro w rs
 refine Ad ?_
 refine Af Aj rfl ?_
 refine Ab (Aq (Ad ?_))
 refine Af Aj rfl ?_
 refine Ai rfl (Am (os' := fun _ => [Ap p d1]) [0] 0 (Ah Tryz.func28 (by kernel_rfl) rfl) (C7 h) rfl rfl rfl (fun _ => rfl) rfl rfl rfl) ?_; rintro ⟨⟩
 refine Af Aj rfl ?_
 refine Ab (Au rfl (Ax (AG (Aq ?_))))
 refine AY 0 rfl (CW hd1) (fun _ => rfl) ?_; rintro x
 refine Bo.fact 3 rfl Bx ?_; rintro hsn
 refine Bo.fact 4 rfl BK ?_; rintro hgn
 obtain ⟨r, hgL, hry⟩ : ∃ r, AL x.L n = some r ∧ r.2 = y := by rw [F2 x.hg hgn] at hg; exact Option.map_eq_some_iff.1 hg
 subst hry
 have hm : (n, r) ∈ x.L := (B3 (by rw [DN] at hgn; exact hgn)).1 hgL
 refine Ad ?_
 refine Af Aj rfl ?_
 refine Ac rfl (.pointer (some ⟨p, 0, none⟩)) (fun b w hb hH => by exact BO rfl rfl hb) ?_
 refine Af Aj rfl ?_
 refine Ac rfl (x.sh) (fun b w hb hH => Bg rfl rfl (Bt AJ rfl) (hH.row 0 rfl) hb) ?_
 refine Af Aj rfl ?_
 refine Ai rfl (Am (os' := fun _ => [cell p 67 #[.int .i64 d1.room, .int .i64 (CV d1.fuse), .bool false, x.pv, x.sm, x.sh], Ao 99 5 encO x.pv x.W, BF x.W, Av x.sm d1.syn, By encKey AH x.sh x.L, Bn x.L]) [4] 0 (Ah Tryz.func57 (by kernel_rfl) rfl) (Fp _ _ n _ hgL) rfl rfl rfl (fun _ => rfl) rfl rfl rfl) ?_; rintro ⟨⟩
 refine Af Aj rfl ?_
 refine Ab (Au rfl (Ax (AG (Aq (Ad ?_)))))
 refine Af Aj rfl ?_
 refine Ac rfl (.bool false) (fun b w hb hH => Bh rfl rfl rfl (Bu (by omega)) hb) ?_
 refine Af Aj rfl ?_
 refine Ac rfl (.pointer (some ⟨p, 0, none⟩)) (fun b w hb hH => by exact BO rfl rfl hb) ?_
 refine Af Aj rfl ?_
 refine Ac rfl (x.sh) (fun b w hb hH => Bg rfl rfl (Bt AJ rfl) (hH.row 0 rfl) hb) ?_
 refine Af Aj rfl ?_
 refine Ac rfl (r.1) (fun b w hb hH => Gx 4 CU rfl (k := n) (r := some r) hgL rfl rfl rfl hH hb) ?_
 refine Ac rfl (.int .i64 (r.2.length : Int)) (fun b w hb hH => AQ ((hH.rd8 5 rfl (G9 hm)).rd) Tryz.underlying48 rfl rfl hb) ?_
 refine Ac rfl (.bool false) (fun b w hb hH => Bh rfl rfl rfl (BC (by omega)) hb) ?_
 refine Af Aj rfl ?_
 refine Ab (Au rfl (Ax (AG ?_)))
 refine Bf [0, 1, 2, 3, 4, 5] rfl (Hc x hd1) rfl ?_
 refine BZ 5 1 encB ?_
 refine Ad ?_
 refine Af Aj rfl ?_
 refine Ac rfl (.agg #[.int .i64 1, .string (bs n), .slice none 0 0, .int .i64 (s : Int), .string { data := #[] }]) (fun b w hb hH => AV rfl rfl (by kernel_rfl) hb) ?_
 refine Ai rfl (Am (os' := fun _ => [E0, Ap p (Cn d1 (⟨.cut n s, none, 0⟩ : OpV).o)]) [1, 0] 0 (Ah Tryz.func58 (by kernel_rfl) rfl) (KT (x := ⟨.cut n s, none, 0⟩) hd1 hfit1 ⟨_, hg_, hs⟩ (Nat.zero_le _)) rfl rfl rfl (fun _ => rfl) rfl rfl rfl) ?_; rintro ⟨⟩
 refine Ch.leave [0] rfl rfl ?_
 refine Af Aj rfl ?_
 refine Ab (Az ?_)
 exact Ay (.tmp rfl) (fun w h => AB () rfl [0] rfl h Cz) rfl
theorem Lm {p : Nat} {d d' : DiskD} {n : List UInt8} {s : Int} {e : Nat} (hd : d.fit) (h : IG d n s = (d', e)) : AS Tryz.prog 34 #[.pointer (some ⟨p, 0, none⟩), .string (bs n), .int .i64 s] [Ap p d] (fun _ : Unit => .int .i64 (e : Int)) (fun _ => [Ap p d']) := by
  unfold IG at h
  obtain ⟨d1, e1, h1⟩ : ∃ d1 e1, Ba d = (d1, e1) := ⟨_, _, rfl⟩
  have h01 := GD d
  rw [h1] at h h01
  simp only at h h01
  rcases h01 with rfl | rfl
  · rw [if_pos (by decide)] at h
    cases h
    exact SN h1
  · rw [if_neg (by decide)] at h
    cases hg : AL d1.now n with
    | none => rw [hg] at h; cases h; exact O1 hd h1 hg
    | some y =>
      rw [hg] at h
      simp only at h
      by_cases hs : s < 0 ∨ (y.length : Int) < s
      · rw [if_pos hs] at h; cases h; exact Rj hd h1 hg hs
      · rw [if_neg hs] at h
        cases h
        obtain ⟨k, rfl⟩ : ∃ k : Nat, s = (k : Int) := ⟨s.toNat, by omega⟩
        exact SO hd h1 hg (by omega)
theorem Vg {p : Nat} {d d1 : DiskD} {n : List UInt8} {b2 : List UInt8} (h : Ba d = (d1, 3)) : AS Tryz.prog 79 #[.pointer (some ⟨p, 0, none⟩), .string (bs n), .string (bs b2)] [Ap p d] (fun (_ : Unit) => .int .i64 3) (fun (_ : Unit) => [Ap p d1]) := by
 refine A6 (args := [.pointer (some ⟨p, 0, none⟩), .string (bs n), .string (bs b2)]) 25 Tryz.func79 rfl rfl rfl ?_; intro w rs
 refine Ad ?_
 refine Af Aj rfl ?_
 refine Ab (Aq (Ad ?_))
 refine Af Aj rfl ?_
 refine Ai rfl (Am (os' := fun _ => [Ap p d1]) [0] 0 (Ah Tryz.func28 (by kernel_rfl) rfl) (GC h) rfl rfl rfl (fun _ => rfl) rfl rfl rfl) ?_; rintro ⟨⟩
 refine Af Aj rfl ?_
 refine Ab (AD rfl (Ad ?_))
 refine Af Aj rfl ?_
 refine Ab (Az (CO ?_))
 exact Ay (.tmp rfl) (fun w h => AB () rfl [0] rfl h Cz) rfl
theorem Uk {p : Nat} {d d1 : DiskD} {n : List UInt8} {b2 : List UInt8} (h : Ba d = (d1, 0)) (hn : CA b2 = false) : AS Tryz.prog 79 #[.pointer (some ⟨p, 0, none⟩), .string (bs n), .string (bs b2)] [Ap p d] (fun (_ : Unit) => .int .i64 1) (fun (_ : Unit) => [Ap p d1]) := by
 refine A6 (args := [.pointer (some ⟨p, 0, none⟩), .string (bs n), .string (bs b2)]) 25 Tryz.func79 rfl rfl rfl ?_; intro w rs
 refine Ad ?_
 refine Af Aj rfl ?_
 refine Ab (Aq (Ad ?_))
 refine Af Aj rfl ?_
 refine Ai rfl (Am (os' := fun _ => [Ap p d1]) [0] 0 (Ah Tryz.func28 (by kernel_rfl) rfl) (C7 h) rfl rfl rfl (fun _ => rfl) rfl rfl rfl) ?_; rintro ⟨⟩
 refine Af Aj rfl ?_
 refine Ab (Au rfl (Ax (AG (Aq (Ad ?_)))))
 refine Af Aj rfl ?_
 refine Ai (post := fun _ => [Ap p d1]) rfl (BQ (Ah Tryz.func56 (by kernel_rfl) rfl) (fun w hH => KQ w b2 hn) rfl rfl rfl) ?_; rintro ⟨⟩
 refine Af Aj rfl ?_
 refine Ab (AD rfl (Ad ?_))
 refine Af Aj rfl ?_
 refine Ab (Az (CO ?_))
 exact Ay (.tmp rfl) (fun w h => AB () rfl [0] rfl h Cz) rfl
theorem SP {p : Nat} {d d1 : DiskD} {n : List UInt8} {b2 : List UInt8} (hfit : d.fit) (h : Ba d = (d1, 0)) (hn : CA b2 = true) (hg : AL d1.now n = none) : AS Tryz.prog 79 #[.pointer (some ⟨p, 0, none⟩), .string (bs n), .string (bs b2)] [Ap p d] (fun (_ : Unit) => .int .i64 4) (fun (_ : Unit) => [Ap p d1]) := by
 have hd1 := (Dp h).1
 have hfit1 := Da h hfit
 refine A6 (args := [.pointer (some ⟨p, 0, none⟩), .string (bs n), .string (bs b2)]) 25 Tryz.func79 rfl rfl rfl ?_; intro w rs
 refine Ad ?_
 refine Af Aj rfl ?_
 refine Ab (Aq (Ad ?_))
 refine Af Aj rfl ?_
 refine Ai rfl (Am (os' := fun _ => [Ap p d1]) [0] 0 (Ah Tryz.func28 (by kernel_rfl) rfl) (C7 h) rfl rfl rfl (fun _ => rfl) rfl rfl rfl) ?_; rintro ⟨⟩
 refine Af Aj rfl ?_
 refine Ab (Au rfl (Ax (AG (Aq (Ad ?_)))))
 refine Af Aj rfl ?_
 refine Ai (post := fun _ => [Ap p d1]) rfl (BQ (Ah Tryz.func56 (by kernel_rfl) rfl) (fun w hH => F3 w b2 hn) rfl rfl rfl) ?_; rintro ⟨⟩
 refine Af Aj rfl ?_
 refine Ab (Au rfl (Ax (AG (Aq ?_))))
 refine AY 0 rfl (CW hd1) (fun _ => rfl) ?_; rintro x
 refine Bo.fact 3 rfl Bx ?_; rintro hsn
 refine Bo.fact 4 rfl BK ?_; rintro hgn
 have hgL : AL x.L n = none := by rw [F2 x.hg hgn] at hg; simpa using hg
 refine Ad ?_
 refine Af Aj rfl ?_
 refine Ac rfl (.pointer (some ⟨p, 0, none⟩)) (fun b w hb hH => by exact BO rfl rfl hb) ?_
 refine Af Aj rfl ?_
 refine Ac rfl (x.sh) (fun b w hb hH => Bg rfl rfl (Bt AJ rfl) (hH.row 0 rfl) hb) ?_
 refine Af Aj rfl ?_
 refine Ai rfl (Am (os' := fun _ => [cell p 67 #[.int .i64 d1.room, .int .i64 (CV d1.fuse), .bool false, x.pv, x.sm, x.sh], Ao 99 5 encO x.pv x.W, BF x.W, Av x.sm d1.syn, By encKey AH x.sh x.L, Bn x.L]) [4] 0 (Ah Tryz.func57 (by kernel_rfl) rfl) (Fp _ _ n _ hgL) rfl rfl rfl (fun _ => rfl) rfl rfl rfl) ?_; rintro ⟨⟩
 refine Af Aj rfl ?_
 refine Ab (AD rfl (Ad ?_))
 refine Af Aj rfl ?_
 refine Ab (Az (CO ?_))
 exact Ay (.tmp rfl) (fun w h => AB () rfl [0, 1, 2, 3, 4, 5] rfl h (CG (os := []) x hd1)) rfl
theorem Vh {p : Nat} {d d1 : DiskD} {n : List UInt8} {b2 : List UInt8} {y : List UInt8} (hfit : d.fit) (h : Ba d = (d1, 0)) (hn : CA b2 = true) (hg : AL d1.now n = some y) : AS Tryz.prog 79 #[.pointer (some ⟨p, 0, none⟩), .string (bs n), .string (bs b2)] [Ap p d] (fun (_ : Unit) => .int .i64 0) (fun (_ : Unit) => [Ap p (Cn d1 (.ren n b2))]) := by
 have hd1 := (Dp h).1
 have hfit1 := Da h hfit
 have hg_ := hg
 refine A6 (args := [.pointer (some ⟨p, 0, none⟩), .string (bs n), .string (bs b2)]) 25 Tryz.func79 rfl rfl rfl ?_; intro w rs
 refine Ad ?_
 refine Af Aj rfl ?_
 refine Ab (Aq (Ad ?_))
 refine Af Aj rfl ?_
 refine Ai rfl (Am (os' := fun _ => [Ap p d1]) [0] 0 (Ah Tryz.func28 (by kernel_rfl) rfl) (C7 h) rfl rfl rfl (fun _ => rfl) rfl rfl rfl) ?_; rintro ⟨⟩
 refine Af Aj rfl ?_
 refine Ab (Au rfl (Ax (AG (Aq (Ad ?_)))))
 refine Af Aj rfl ?_
 refine Ai (post := fun _ => [Ap p d1]) rfl (BQ (Ah Tryz.func56 (by kernel_rfl) rfl) (fun w hH => F3 w b2 hn) rfl rfl rfl) ?_; rintro ⟨⟩
 refine Af Aj rfl ?_
 refine Ab (Au rfl (Ax (AG (Aq ?_))))
 refine AY 0 rfl (CW hd1) (fun _ => rfl) ?_; rintro x
 refine Bo.fact 3 rfl Bx ?_; rintro hsn
 refine Bo.fact 4 rfl BK ?_; rintro hgn
 obtain ⟨r, hgL, hry⟩ : ∃ r, AL x.L n = some r ∧ r.2 = y := by rw [F2 x.hg hgn] at hg; exact Option.map_eq_some_iff.1 hg
 subst hry
 have hm : (n, r) ∈ x.L := (B3 (by rw [DN] at hgn; exact hgn)).1 hgL
 refine Ad ?_
 refine Af Aj rfl ?_
 refine Ac rfl (.pointer (some ⟨p, 0, none⟩)) (fun b w hb hH => by exact BO rfl rfl hb) ?_
 refine Af Aj rfl ?_
 refine Ac rfl (x.sh) (fun b w hb hH => Bg rfl rfl (Bt AJ rfl) (hH.row 0 rfl) hb) ?_
 refine Af Aj rfl ?_
 refine Ai rfl (Am (os' := fun _ => [cell p 67 #[.int .i64 d1.room, .int .i64 (CV d1.fuse), .bool false, x.pv, x.sm, x.sh], Ao 99 5 encO x.pv x.W, BF x.W, Av x.sm d1.syn, By encKey AH x.sh x.L, Bn x.L]) [4] 0 (Ah Tryz.func57 (by kernel_rfl) rfl) (Fp _ _ n _ hgL) rfl rfl rfl (fun _ => rfl) rfl rfl rfl) ?_; rintro ⟨⟩
 refine Af Aj rfl ?_
 refine Ab (Au rfl (Ax (AG ?_)))
 refine Bf [0, 1, 2, 3, 4, 5] rfl (Hc x hd1) rfl ?_
 refine BZ 5 1 encB ?_
 refine Ad ?_
 refine Af Aj rfl ?_
 refine Ac rfl (.agg #[.int .i64 2, .string (bs n), .slice none 0 0, .int .i64 0, .string (bs b2)]) (fun b w hb hH => AV rfl rfl (by kernel_rfl) hb) ?_
 refine Ai rfl (Am (os' := fun _ => [E0, Ap p (Cn d1 (⟨.ren n b2, none, 0⟩ : OpV).o)]) [1, 0] 0 (Ah Tryz.func58 (by kernel_rfl) rfl) (KT (x := ⟨.ren n b2, none, 0⟩) hd1 hfit1 ⟨⟨_, hg_⟩, hn⟩ (Nat.zero_le _)) rfl rfl rfl (fun _ => rfl) rfl rfl rfl) ?_; rintro ⟨⟩
 refine Ch.leave [0] rfl rfl ?_
 refine Af Aj rfl ?_
 refine Ab (Az ?_)
 exact Ay (.tmp rfl) (fun w h => AB () rfl [0] rfl h Cz) rfl
theorem NE {p : Nat} {d d' : DiskD} {n b : List UInt8} {e : Nat} (hd : d.fit) (h : Ll d n b = (d', e)) : AS Tryz.prog 79 #[.pointer (some ⟨p, 0, none⟩), .string (bs n), .string (bs b)] [Ap p d] (fun _ : Unit => .int .i64 (e : Int)) (fun _ => [Ap p d']) := by
  unfold Ll at h
  obtain ⟨d1, e1, h1⟩ : ∃ d1 e1, Ba d = (d1, e1) := ⟨_, _, rfl⟩
  have h01 := GD d
  rw [h1] at h h01
  simp only at h h01
  rcases h01 with rfl | rfl
  · rw [if_pos (by decide)] at h
    cases h
    exact Vg h1
  · rw [if_neg (by decide)] at h
    cases hn : CA b
    · rw [hn, if_pos rfl] at h
      cases h
      exact Uk h1 hn
    · rw [hn, if_neg (by decide)] at h
      cases hg : AL d1.now n with
      | none => rw [hg] at h; cases h; exact SP hd h1 hn hg
      | some y => rw [hg] at h; cases h; exact Vh hd h1 hn hg
end Go.Proofs.YtnknboibmifacaaGreat.Sep
namespace Go.Proofs.YtnknboibmifacaaGreat.Sep
open Go.RowKit Go.Maps Go.Sort Go.Shelf
open Go.Proofs.YtnknboibmifacaaGreat.Mem (Bd Cj Chg AF)
def keysL_ren : Go.Shelf.Ren := ⟨fun | 7 => 81 | 10 => 92 | n => n, fun | 23 => 65 | 26 => 9 | 3 => 48 | 28 => 122 | 0 => 0 | 27 => 121 | 33 => 95 | 4 => 4 | n => n, fun | n => n⟩
theorem P9 : Go.Proofs.SlLaysZ.n7 Tryz.prog keysL_ren := {
 mixed := by kernel_rfl
 f7 := ⟨Tryz.f81.name, by decide, Tryz.func81.trans (congrArg some (by kernel_rfl))⟩
 f10 := ⟨Tryz.f92.name, by decide, Tryz.func92.trans (congrArg some (by kernel_rfl))⟩
 t0 := Tryz.underlying0
 a0 := Tryz.isAgg0
 z0 := Tryz.sizeOf0
 v0 := Tryz.zeroValue0
 t4 := Tryz.underlying4
 a4 := Tryz.isAgg4
 z4 := Tryz.sizeOf4
 v4 := Tryz.zeroValue4
 t23 := Tryz.underlying65
 a23 := Tryz.isAgg65
 z23 := Tryz.sizeOf65
 v23 := Tryz.zeroValue65
 t26 := Tryz.underlying9
 a26 := Tryz.isAgg9
 z26 := Tryz.sizeOf9
 v26 := Tryz.zeroValue9
 t27 := Tryz.underlying121
 a27 := Tryz.isAgg121
 z27 := Tryz.sizeOf121
 v27 := Tryz.zeroValue121
 t28 := Tryz.underlying122
 a28 := Tryz.isAgg122
 z28 := Tryz.sizeOf122
 v28 := Tryz.zeroValue122
 t33 := Tryz.underlying95
 a33 := Tryz.isAgg95
 z33 := Tryz.sizeOf95
 v33 := Tryz.zeroValue95 }
def sortedL_ren : Go.Shelf.Ren := ⟨fun | 6 => 80 | 8 => 90 | 9 => 91 | 11 => 96 | 13 => 98 | 12 => 97 | 23 => 109 | 24 => 110 | 14 => 100 | 15 => 101 | 16 => 102 | 17 => 103 | 18 => 104 | 19 => 105 | 20 => 106 | 21 => 107 | 22 => 108 | 25 => 111 | 26 => 112 | 27 => 113 | 28 => 114 | 29 => 115 | 30 => 116 | 31 => 117 | n => n, fun | 26 => 9 | 28 => 122 | 24 => 88 | 0 => 0 | 3 => 3 | 37 => 93 | 48 => 91 | 50 => 29 | 4 => 4 | 40 => 142 | 39 => 141 | 45 => 147 | 5 => 5 | 9 => 9 | 51 => 151 | 55 => 155 | 57 => 157 | 58 => 158 | 33 => 95 | n => n, fun | n => n⟩
theorem Qa : Go.Proofs.SlLaysZ.n6 Tryz.prog sortedL_ren := {
 mixed := by kernel_rfl
 f6 := ⟨Tryz.f80.name, by decide, Tryz.func80.trans (congrArg some (by kernel_rfl))⟩
 f8 := ⟨Tryz.f90.name, by decide, Tryz.func90.trans (congrArg some (by kernel_rfl))⟩
 f11 := ⟨Tryz.f96.name, by decide, Tryz.func96.trans (congrArg some (by kernel_rfl))⟩
 t0 := Tryz.underlying0
 a0 := Tryz.isAgg0
 z0 := Tryz.sizeOf0
 v0 := Tryz.zeroValue0
 t24 := Tryz.underlying88
 a24 := Tryz.isAgg88
 z24 := Tryz.sizeOf88
 v24 := Tryz.zeroValue88
 t26 := Tryz.underlying9
 a26 := Tryz.isAgg9
 z26 := Tryz.sizeOf9
 v26 := Tryz.zeroValue9
 t28 := Tryz.underlying122
 a28 := Tryz.isAgg122
 z28 := Tryz.sizeOf122
 v28 := Tryz.zeroValue122
 i26 := by kernel_rfl }
def sortL_ren : Go.Shelf.Ren := ⟨fun | 6 => 91 | 8 => 98 | 9 => 97 | 19 => 109 | 20 => 110 | 21 => 100 | 22 => 101 | 23 => 102 | 24 => 103 | 25 => 104 | 26 => 105 | 27 => 106 | 28 => 107 | 29 => 108 | 36 => 111 | 31 => 112 | 32 => 113 | 37 => 114 | 38 => 115 | 39 => 116 | 41 => 117 | n => n, fun | 27 => 88 | 29 => 9 | 3 => 3 | 32 => 93 | 26 => 88 | 0 => 0 | 44 => 91 | 46 => 29 | 4 => 4 | 36 => 142 | 35 => 141 | 41 => 147 | 5 => 5 | 9 => 9 | 53 => 151 | 57 => 155 | 63 => 157 | 64 => 158 | n => n, fun | n => n⟩
theorem UI : Go.Proofs.SlLaysM.n6 Tryz.prog sortL_ren := {
 mixed := by kernel_rfl
 f6 := ⟨Tryz.f91.name, by decide, Tryz.func91.trans (congrArg some (by kernel_rfl))⟩
 f8 := Tryz.func98.trans (congrArg some (by kernel_rfl))
 f9 := ⟨Tryz.f97.name, by decide, Tryz.func97.trans (congrArg some (by kernel_rfl))⟩
 f19 := Tryz.func109.trans (congrArg some (by kernel_rfl))
 f20 := Tryz.func110.trans (congrArg some (by kernel_rfl))
 f21 := ⟨Tryz.f100.name, by decide, Tryz.func100.trans (congrArg some (by kernel_rfl))⟩
 f22 := ⟨Tryz.f101.name, by decide, Tryz.func101.trans (congrArg some (by kernel_rfl))⟩
 f23 := ⟨Tryz.f102.name, by decide, Tryz.func102.trans (congrArg some (by kernel_rfl))⟩
 f24 := ⟨Tryz.f103.name, by decide, Tryz.func103.trans (congrArg some (by kernel_rfl))⟩
 f25 := ⟨Tryz.f104.name, by decide, Tryz.func104.trans (congrArg some (by kernel_rfl))⟩
 f26 := ⟨Tryz.f105.name, by decide, Tryz.func105.trans (congrArg some (by kernel_rfl))⟩
 f27 := ⟨Tryz.f106.name, by decide, Tryz.func106.trans (congrArg some (by kernel_rfl))⟩
 f28 := ⟨Tryz.f107.name, by decide, Tryz.func107.trans (congrArg some (by kernel_rfl))⟩
 f29 := ⟨Tryz.f108.name, by decide, Tryz.func108.trans (congrArg some (by kernel_rfl))⟩
 f31 := Tryz.func112.trans (congrArg some (by kernel_rfl))
 f32 := Tryz.func113.trans (congrArg some (by kernel_rfl))
 f36 := ⟨Tryz.f111.name, by decide, Tryz.func111.trans (congrArg some (by kernel_rfl))⟩
 f37 := ⟨Tryz.f114.name, by decide, Tryz.func114.trans (congrArg some (by kernel_rfl))⟩
 f38 := ⟨Tryz.f115.name, by decide, Tryz.func115.trans (congrArg some (by kernel_rfl))⟩
 f39 := ⟨Tryz.f116.name, by decide, Tryz.func116.trans (congrArg some (by kernel_rfl))⟩
 f41 := ⟨Tryz.f117.name, by decide, Tryz.func117.trans (congrArg some (by kernel_rfl))⟩
 t0 := Tryz.underlying0
 a0 := Tryz.isAgg0
 z0 := Tryz.sizeOf0
 v0 := Tryz.zeroValue0
 t3 := Tryz.underlying3
 a3 := Tryz.isAgg3
 z3 := Tryz.sizeOf3
 v3 := Tryz.zeroValue3
 t4 := Tryz.underlying4
 a4 := Tryz.isAgg4
 z4 := Tryz.sizeOf4
 v4 := Tryz.zeroValue4
 t5 := Tryz.underlying5
 a5 := Tryz.isAgg5
 z5 := Tryz.sizeOf5
 v5 := Tryz.zeroValue5
 t9 := Tryz.underlying9
 a9 := Tryz.isAgg9
 z9 := Tryz.sizeOf9
 v9 := Tryz.zeroValue9
 t26 := Tryz.underlying88
 a26 := Tryz.isAgg88
 z26 := Tryz.sizeOf88
 v26 := Tryz.zeroValue88
 t27 := Tryz.underlying88
 a27 := Tryz.isAgg88
 z27 := Tryz.sizeOf88
 v27 := Tryz.zeroValue88
 t29 := Tryz.underlying9
 a29 := Tryz.isAgg9
 z29 := Tryz.sizeOf9
 v29 := Tryz.zeroValue9
 t32 := Tryz.underlying93
 a32 := Tryz.isAgg93
 z32 := Tryz.sizeOf93
 v32 := Tryz.zeroValue93
 t35 := Tryz.underlying141
 a35 := Tryz.isAgg141
 z35 := Tryz.sizeOf141
 v35 := Tryz.zeroValue141
 t36 := Tryz.underlying142
 a36 := Tryz.isAgg142
 z36 := Tryz.sizeOf142
 v36 := Tryz.zeroValue142
 t41 := Tryz.underlying147
 a41 := Tryz.isAgg147
 z41 := Tryz.sizeOf147
 v41 := Tryz.zeroValue147
 t44 := Tryz.underlying91
 a44 := Tryz.isAgg91
 z44 := Tryz.sizeOf91
 v44 := Tryz.zeroValue91
 t46 := Tryz.underlying29
 a46 := Tryz.isAgg29
 z46 := Tryz.sizeOf29
 v46 := Tryz.zeroValue29
 t53 := Tryz.underlying151
 a53 := Tryz.isAgg151
 z53 := Tryz.sizeOf151
 v53 := Tryz.zeroValue151
 t57 := Tryz.underlying155
 a57 := Tryz.isAgg155
 z57 := Tryz.sizeOf155
 v57 := Tryz.zeroValue155
 t63 := Tryz.underlying157
 a63 := Tryz.isAgg157
 z63 := Tryz.sizeOf157
 v63 := Tryz.zeroValue157
 t64 := Tryz.underlying158
 a64 := Tryz.isAgg158
 z64 := Tryz.sizeOf158
 v64 := Tryz.zeroValue158 }
theorem SQ (m : Nat) : AnyZ.SortsIn Tryz.prog sortedL_ren Fence.wide m :=
  ⟨fun blk off cap ss W hH hblk hsz => callsIn_wide.2 (AnyM.slices_Sort_string UI blk off cap ss W hH hblk hsz),
   fun p cap W => callsIn_wide.2 (AnyM.slices_Sort_string_none UI p cap W)⟩
theorem SR : AS Tryz.prog 81 #[.map none] [] (fun g : Nat => .func (.func 92) #[] #[.pointer (some ⟨g, 0, none⟩)]) (fun g => [cell g 65 #[.map none]]) := fun w rs h1 h2 h3 => by
 obtain rfl : rs = [] := h1
 refine (callsIn_wide.1 (AnyZ.keys_in P9 Fence.wide 5 trivial rfl none w)).mono ?_
 rintro e w' ⟨rfl, rfl⟩
 refine ⟨w.heap.size, rfl, [(w.heap.size, EZ 65, #[.map none])], ⟨_, [], rfl, rfl, rfl⟩, ?_⟩
 exact G8 (rs := []) trivial trivial ((Below.refl _ w).alloc (Nat.le_refl _) _) ⟨heap_alloc_new w _, trivial⟩ ⟨(fun _ h => by cases h), trivial⟩ fun x hx => by rw [List.mem_singleton.1 hx]; exact Nat.le_refl _
theorem O2 (w : World) (g : Nat) (hg : w.heap[g]? = some (.cells #[.map none] 65 (0, 0))) : Calls Tryz.prog 80 #[.func (.func 92) #[] #[.pointer (some ⟨g, 0, none⟩)]] w fun e w' => e = .returned (.slice none 0 0) ∧ Below w.heap.size w w' := by
 have hlt := (Array.getElem?_eq_some_iff.1 hg).1
 have hc : w.cell? ⟨g, 0, none⟩ = some (.map none) := by simp [World.cell?, hg]
 have hseq : SeqGives Fence.wide 2 Tryz.prog 92 #[.pointer (some ⟨g, 0, none⟩)] encStr (fun ss : List (List UInt8) => ss = []) 0 w :=
  AnyZ.keys_gives_nil (ρ := keysL_ren) { P9 with } Fence.wide _ trivial rfl g w hlt hc
 refine (callsIn_wide.1 (AnyZ.sorted_in Qa Fence.wide 5 trivial trivial trivial trivial rfl (by omega) (SQ _) (enters_of Tryz.func91 (by kernel_rfl) rfl) 92 #[.pointer (some ⟨g, 0, none⟩)] trivial (enters_of Tryz.func92 (by kernel_rfl) rfl) _ 0 (Nat.zero_le _) (by omega) _ hseq)).mono ?_
 rintro e w' ⟨v, ss, rfl, hS, _, hnil, hb⟩
 rw [hnil.2 hS]
 exact ⟨rfl, hb⟩
theorem O3 {p : Nat} {d : DiskD} (h : d.down = true) : AS Tryz.prog 48 #[.pointer (some ⟨p, 0, none⟩)] [Ap p d] (fun (v : Value) => v) (fun (v : Value) => [Ap p d, Ao 9 1 encKs v ([])]) := by
 have hd := h
 refine A6 (args := [.pointer (some ⟨p, 0, none⟩)]) 9 Tryz.func48 rfl rfl rfl ?_; intro w rs
 refine AY 0 rfl (J3 hd) (fun _ => rfl) ?_; rintro x
 refine BZ 9 1 encKs ?_
 refine Ad ?_
 refine Af Aj rfl ?_
 refine Ab (Ad ?_)
 refine Af Aj rfl ?_
 refine Ac rfl (.pointer (some ⟨p, 0, none⟩)) (fun b w hb hH => by exact BO rfl rfl hb) ?_
 refine Af Aj rfl ?_
 refine Ac rfl (.map none) (fun b w hb hH => Bg rfl rfl (Bt AJ rfl) (hH.row 1 rfl) hb) ?_
 refine Ai rfl (Am (os' := fun g => [cell g 65 #[.map none], Ao 9 1 encKs (.slice none 0 0) ([]), cell p 67 #[.int .i64 d.room, .int .i64 (CV d.fuse), .bool true, x.pv, x.sm, .map none], Ao 99 5 encO x.pv x.W, BF x.W, Av x.sm d.syn]) [] 0 (Ah Tryz.func81 (by kernel_rfl) rfl) (SR) rfl rfl rfl (fun _ => rfl) rfl rfl rfl) ?_; rintro g
 refine Ai (post := fun _ => [cell g 65 #[.map none], Ao 9 1 encKs (.slice none 0 0) ([]), cell p 67 #[.int .i64 d.room, .int .i64 (CV d.fuse), .bool true, x.pv, x.sm, .map none], Ao 99 5 encO x.pv x.W, BF x.W, Av x.sm d.syn]) rfl (BQ (Ah Tryz.func80 (by kernel_rfl) rfl) (fun w hH => O2 w g (hH.row 0 rfl)) rfl rfl rfl) ?_; rintro ⟨⟩
 refine Af Aj rfl ?_
 refine Ab (Az ?_)
 exact Ay (.tmp rfl) (fun w h => AB (.slice none 0 0) rfl [2, 3, 4, 5, 1] rfl h (IL ⟨x.pv, x.sm, .map none, x.W, [], x.hW, (fun h => by rw [hd] at h; cases h), x.hok, x.hf, x.hr, x.hk⟩ hd rfl)) rfl
end Go.Proofs.YtnknboibmifacaaGreat.Sep
namespace Go.Proofs.YtnknboibmifacaaGreat.Sep
open Go.RowKit Go.Maps Go.Sort Go.Shelf
open Go.Proofs.YtnknboibmifacaaGreat.Mem (Bd Cj Chg AF)
theorem Rk (b0 : Nat) : AS Tryz.prog 81 #[.map (some b0)] [] (fun g : Nat => .func (.func 92) #[] #[.pointer (some ⟨g, 0, none⟩)]) (fun g => [cell g 65 #[.map (some b0)]]) := fun w rs h1 h2 h3 => by
 obtain rfl : rs = [] := h1
 refine (callsIn_wide.1 (AnyZ.keys_in P9 Fence.wide 5 trivial rfl (some b0) w)).mono ?_
 rintro e w' ⟨rfl, rfl⟩
 refine ⟨w.heap.size, rfl, [(w.heap.size, EZ 65, #[.map (some b0)])], ⟨_, [], rfl, rfl, rfl⟩, ?_⟩
 exact G8 (rs := []) trivial trivial ((Below.refl _ w).alloc (Nat.le_refl _) _) ⟨heap_alloc_new w _, trivial⟩ ⟨(fun _ h => by cases h), trivial⟩ fun x hx => by rw [List.mem_singleton.1 hx]; exact Nat.le_refl _
def Er (f : FS) : List (List UInt8) := (AI f).mergeSort fun x y => decide (x ≤ y)
theorem JK {f g : FS} (h : f.Perm g) : Er f = Er g := mergeSort_of_perm (CD h)
def O4 (_ : Value) : Option (DataW Unit × List MemPlace) := some (.nil, [])
theorem NF (n : List UInt8) (h : n.length ≤ 16) : keyOf Tryz.prog 9 (.string (bs n)) = some (.string n) := by
 rw [Go.WideMaps.keyOf_string_mk Tryz.underlying9 (by show n.toArray.size ≤ maxLen; simp; unfold maxLen; omega)]
 rfl
theorem SS (x : MapEntry) (n : List UInt8) (h : n.length ≤ 16) (hx : x.key = .string (bs n)) : Go.WideElems.rg Tryz.prog 9 O4 x = (.string n, .nil) := by
 unfold Go.WideElems.rg Go.WideElems.rd
 rw [hx, NF n h]; rfl
theorem O5 {w : World} {b0 c : Nat} {es : Array MapEntry} {L : FilL} (hb : w.heap[b0]? = some (.map es c)) (hL : MapL encKey AH es c L) (hn : ∀ k, k ∈ AI L → k.length ≤ 16) (hs : L.length ≤ 1000000) : ∃ D : DataW Unit, w.ownsMap Tryz.prog 9 O4 b0 L.length D ∧ (strKeys D).Perm (AI L) ∧ Maps.size D = L.length := by
  have hkey : ∀ x, x ∈ es.toList → ∃ p, p ∈ L ∧ x.key = .string (bs p.1) := fun x hx => by
    have h1 : (x.key, x.val) ∈ L.map fun p => (encKey p.1, AH p.2) := by rw [← hL.at_]; exact List.mem_map_of_mem (f := fun x : MapEntry => (x.key, x.val)) hx
    obtain ⟨p, hp, he⟩ := List.mem_map.1 h1
    exact ⟨p, hp, (congrArg Prod.fst he).symm⟩
  have hrg : es.toList.map (Go.WideElems.rg Tryz.prog 9 O4) = L.map fun p => ((Lit.string p.1, DataW.nil) : Lit × DataW Unit) := by
    have h1 : es.toList.map (Go.WideElems.rg Tryz.prog 9 O4) = (es.toList.map (fun x => (x.key, x.val))).map fun y => Go.WideElems.rg Tryz.prog 9 O4 { key := y.1, val := y.2, born := 0 } := by
      rw [List.map_map]
      exact List.map_congr_left fun x hx => by
        obtain ⟨p, hp, e⟩ := hkey x hx
        have h2 := hn p.1 (List.mem_map_of_mem hp)
        rw [SS x p.1 h2 e]
        exact (SS _ p.1 h2 e).symm
    rw [h1, hL.at_, List.map_map]
    exact List.map_congr_left fun p hp => SS _ p.1 (hn p.1 (List.mem_map_of_mem hp)) rfl
  have hfit : Go.WideElems.Fit Tryz.prog 9 O4 es c := by
    refine ⟨by rw [hL.len]; unfold maxLen; omega, ⟨hL.old, hL.born, ?_⟩, fun x hx => ?_⟩
    · have h1 : es.toList.map (·.key) = L.map fun p => encKey p.1 := by
        have := congrArg (List.map Prod.fst) hL.at_
        rw [List.map_map, List.map_map] at this
        exact this
      rw [h1]
      have h2 : (L.map fun p => encKey p.1) = (AI L).map encKey := by unfold AI; rw [List.map_map]; rfl
      rw [h2]
      refine List.Pairwise.map encKey ?_ hL.keys
      intro a b hab e
      exact hab (RW (by simpa [encKey] using e))
    · obtain ⟨p, hp, e⟩ := hkey x hx
      refine ⟨(.string p.1, .nil), ?_⟩
      unfold Go.WideElems.rd
      rw [e, NF p.1 (hn p.1 (List.mem_map_of_mem hp))]; rfl
  refine ⟨_, ⟨es, c, hb, hfit, by rw [hL.len]; exact Nat.le_refl _, rfl⟩, ?_, ?_⟩
  · have h1 := ((Go.WideShapes.sorted_perm (es.toList.map (Go.WideElems.rg Tryz.prog 9 O4))).map fun p => strOf p.1)
    rw [hrg] at h1
    have h2 : (L.map fun p => ((Lit.string p.1, DataW.nil) : Lit × DataW Unit)).map (fun p => strOf p.1) = AI L := by rw [List.map_map]; rfl
    rw [h2] at h1
    show (List.map (fun p : Lit × DataW Unit => strOf p.1) _).Perm _
    rw [hrg]; exact h1
  · show (List.foldr DataW.insert [] _).length = _
    rw [length_sorted, hrg, List.length_map]
theorem NG (w : World) {g b0 c : Nat} {es : Array MapEntry} {L : FilL} (hg : w.heap[g]? = some (.cells #[.map (some b0)] 65 (0, 0))) (hb : w.heap[b0]? = some (.map es c)) (hL : MapL encKey AH es c L) (hn : ∀ k, k ∈ AI L → k.length ≤ 16) (hs : L.length ≤ 1000000) : Calls Tryz.prog 80 #[.func (.func 92) #[] #[.pointer (some ⟨g, 0, none⟩)]] w fun e w' => ∃ v, e = .returned v ∧ w'.ownsRow w.heap.size 9 1 v (AI L).length ((((AI L).mergeSort fun x y => decide (x ≤ y))).map encStr) ∧ Below w.heap.size w w' := by
 have hlt := (Array.getElem?_eq_some_iff.1 hg).1
 have hc : w.cell? ⟨g, 0, none⟩ = some (.map (some b0)) := by simp [World.cell?, hg]
 obtain ⟨D, hown, hperm, hsz⟩ := O5 hb hL hn hs
 have hseq : SeqGives Fence.wide 2 Tryz.prog 92 #[.pointer (some ⟨g, 0, none⟩)] encStr (fun ss : List (List UInt8) => ss.Perm (strKeys D)) (Maps.size D) w :=
  AnyZ.keys_gives (ρ := keysL_ren) { P9 with } Fence.wide _ trivial rfl (by omega) g b0 L.length D w hlt hc hown
 refine (callsIn_wide.1 (AnyZ.sorted_in Qa Fence.wide 5 trivial trivial trivial trivial rfl (by omega) (SQ _) (enters_of Tryz.func91 (by kernel_rfl) rfl) 92 #[.pointer (some ⟨g, 0, none⟩)] trivial (enters_of Tryz.func92 (by kernel_rfl) rfl) _ (Maps.size D) (by rw [hsz]; unfold maxLen; omega) (by rw [hsz]; omega) _ hseq)).mono ?_
 rintro e w' ⟨v, ss, rfl, hS, hrow, hnil, hb'⟩
 have hp : ss.Perm (AI L) := hS.trans hperm
 refine ⟨v, rfl, ?_, hb'⟩
 rw [← hp.length_eq, ← mergeSort_of_perm hp]
 exact hrow
theorem Ul {w' : World} {base : Nat} {v : Value} {l : List (List UInt8)} (h : w'.ownsRow base 9 1 v l.length (l.map encStr)) : ∃ rs, Ao 9 1 encKs v l rs ∧ RowsOf w' rs ∧ Bd rs ∧ ∀ x ∈ rs, base ≤ x.1 := by
  have hf : l.map encStr = flat encKs l := by
    induction l with
    | nil => rfl
    | cons x r ih =>
      rw [List.map_cons, DW, ← (by
        clear ih h
        induction r with
        | nil => rfl
        | cons y q ih => rw [List.map_cons, DW, ih]; rfl : r.map encStr = flat encKs r)]
      rfl
  rcases h.2 with ⟨h1, h2⟩ | ⟨g, cap, cur, h1, h2, h3, h4, h5, h6, h7⟩
  · have : l = [] := List.eq_nil_of_length_eq_zero h2
    subst this
    exact ⟨[], .inl ⟨h1, rfl, rfl⟩, trivial, trivial, fun x hx => by cases hx⟩
  · refine ⟨[(g, EZ 9, cur)], .inr ⟨g, cap, cur, h1, h4, h5, h6, by rw [h7, hf], rfl⟩, ⟨h3, trivial⟩, ⟨(fun _ h => by cases h), trivial⟩, fun x hx => by rw [List.mem_singleton.1 hx]; exact h2⟩
theorem NH {g b0 : Nat} {L : FilL} (hn : ∀ k, k ∈ AI L → k.length ≤ 16) (hs : L.length ≤ 1000000) : AS Tryz.prog 80 #[.func (.func 92) #[] #[.pointer (some ⟨g, 0, none⟩)]] [cell g 65 #[.map (some b0)], By encKey AH (.map (some b0)) L] (fun v : Value => v) (fun v => [cell g 65 #[.map (some b0)], By encKey AH (.map (some b0)) L, Ao 9 1 encKs v ((AI L).mergeSort fun x y => decide (x ≤ y))]) := fun w rs h1 h2 h3 => by
 obtain ⟨a, r, rfl, rfl, b, r2, rfl, ⟨g2, es, c, e1, rfl, hL⟩, rfl⟩ := h1
 cases e1
 have hr := AN.1 h2
 have hg := hr _ (List.mem_append.2 (.inl (List.mem_singleton.2 rfl)))
 have hb : w.heap[b0]? = some (.map es c) := Dk.1 (hr (b0, none, E7 es c) (by simp))
 refine (NG w hg hb hL hn hs).mono ?_
 rintro e w' ⟨v, he, hrow, hbl⟩
 have hlen : (AI L).length = ((AI L).mergeSort fun x y => decide (x ≤ y)).length := (List.length_mergeSort _).symm
 rw [hlen] at hrow
 obtain ⟨rs', hv, hr', hd', hx'⟩ := Ul hrow
 exact ⟨v, he, _, ⟨_, _, List.append_assoc .., rfl, _, _, rfl, ⟨b0, es, c, rfl, rfl, hL⟩, Al.one hv⟩, by simpa using G8 h2 h3 hbl hr' hd' hx'⟩
theorem NI {p : Nat} {d : DiskD} {ss : List (List UInt8)} (hd : d.down = false) (hs : d.now.length ≤ 1000000) (hss : Er d.now = ss) : AS Tryz.prog 48 #[.pointer (some ⟨p, 0, none⟩)] [Ap p d] (fun (v : Value) => v) (fun (v : Value) => [Ap p d, Ao 9 1 encKs v ss]) := by
 refine A6 (args := [.pointer (some ⟨p, 0, none⟩)]) 9 Tryz.func48 rfl rfl rfl ?_; intro w rs
 refine AY 0 rfl (CW hd) (fun _ => rfl) ?_; rintro x
 refine Bo.fact 3 rfl Bx ?_; rintro hsn
 refine Bo.fact 4 rfl BK ?_; rintro hgn
 refine Bo.fact 4 rfl (fun _ h => By.is _ h) ?_; rintro ⟨mb, hmb⟩
 have hLn : x.L.length ≤ 1000000 := by have := x.hg.length_eq; simp only [B6, List.length_map] at this; omega
 have hk16 : ∀ k, k ∈ AI x.L → k.length ≤ 16 := fun k hk => ((G6 k).1 (LF hsn x.hk x.hok k ((CD x.hg).mem_iff.1 (by rw [DN]; exact hk)))).2
 have hsk : (AI x.L).mergeSort (fun x y => decide (x ≤ y)) = ss := by rw [← hss, ← JK x.hg]; unfold Er; rw [DN]
 rw [hmb]
 refine Ad ?_
 refine Af Aj rfl ?_
 refine Ab (Ad ?_)
 refine Af Aj rfl ?_
 refine Ac rfl (.pointer (some ⟨p, 0, none⟩)) (fun b w hb hH => by exact BO rfl rfl hb) ?_
 refine Af Aj rfl ?_
 refine Ac rfl (.map (some mb)) (fun b w hb hH => Bg rfl rfl (Bt AJ rfl) (hH.row 0 rfl) hb) ?_
 refine Ai rfl (Am (os' := fun g => [cell g 65 #[.map (some mb)], cell p 67 #[.int .i64 d.room, .int .i64 (CV d.fuse), .bool false, x.pv, x.sm, .map (some mb)], Ao 99 5 encO x.pv x.W, BF x.W, Av x.sm d.syn, By encKey AH (.map (some mb)) x.L, Bn x.L]) [] 0 (Ah Tryz.func81 (by kernel_rfl) rfl) (Rk mb) rfl rfl rfl (fun _ => rfl) rfl rfl rfl) ?_; rintro g
 refine Ai rfl (Am (os' := fun v9 => [Ao 9 1 encKs v9 ((AI x.L).mergeSort (fun x y => decide (x ≤ y))), cell g 65 #[.map (some mb)], cell p 67 #[.int .i64 d.room, .int .i64 (CV d.fuse), .bool false, x.pv, x.sm, .map (some mb)], Ao 99 5 encO x.pv x.W, BF x.W, Av x.sm d.syn, By encKey AH (.map (some mb)) x.L, Bn x.L]) [0, 5] 0 (Ah Tryz.func80 (by kernel_rfl) rfl) (NH hk16 hLn) rfl rfl rfl (fun _ => rfl) rfl rfl rfl) ?_; rintro v9
 refine Af Aj rfl ?_
 refine Ab (Az ?_)
 exact Ay (.tmp rfl) (fun w h => AB v9 rfl [2, 3, 4, 5, 6, 7, 0] rfl h (by rw [← hmb, ← hsk]; exact CG x hd)) rfl
end Go.Proofs.YtnknboibmifacaaGreat.Sep
