/-
  RdkG
-/
import Derived.Test.YtnknboibmifacaaGreatPN02
set_option linter.unusedSimpArgs false
set_option linter.unusedVariables false
set_option maxRecDepth 100000
namespace Go.Proofs.YtnknboibmifacaaGreat.Sep
open Go.RowKit
open Go.Proofs.YtnknboibmifacaaGreat.Mem (Bl Co Chg AG)
theorem MZ : CX D1 (.slice none 0 0) [] := fun rs w h1 h2 => Kh w
theorem Ol {p : Nat} {d d' : DiskD} {n : List UInt8} {s : Nat} {e : Nat} (hf : d.fit) (hsi : -9223372036854775808 ≤ (s : Int) ∧ (s : Int) ≤ 9223372036854775807) (h : I3 d n (s : Int) = (d', e)) : AU Tryz.prog 42 #[.pointer (some ⟨p, 0, none⟩), .string (bs n), .int .i64 (s : Int)] [Au p d] (fun (_ : Unit) => .int .i64 (e : Int)) (fun (_ : Unit) => [Au p d']) := by
  refine Bd (args := [.pointer (some ⟨p, 0, none⟩), .string (bs n), .int .i64 (s : Int)]) 42 Tryz.func42 rfl rfl rfl ?_; intro w rs
  obtain ⟨⟨d1, e1⟩, hb⟩ : ∃ R, Bi d = R := ⟨_, rfl⟩
  have hf1 := Fu hb hf
  unfold I3 at h
  rw [hb] at h; simp only at h
  refine Ad ?_
  refine Ae Ag rfl ?_
  refine Aa (Aq (Ad ?_))
  refine Ae Ag rfl ?_
  refine Aj rfl (Al (os' := fun _ => [Au p d1]) [0] 0 (Ah Tryz.func30 (by kernel_rfl) rfl) (Jj hb) rfl rfl rfl (fun _ => rfl) rfl rfl rfl) ?_; rintro ⟨⟩
  refine Ae Ag rfl ?_
  refine Aa ?_
  rcases Nat.eq_zero_or_pos e1 with he1 | he1
  rcases hg : AQ d1.now n with _ | b
  · skip
    subst he1
    rw [if_neg (by simp), hg] at h
    obtain ⟨rfl, rfl⟩ := Prod.mk.inj h
    obtain ⟨hdn, hs1, hw1, hr1⟩ := DR hb
    obtain ⟨fu, hfu⟩ : ∃ fu, d1.fuse.isSome = fu := ⟨_, rfl⟩
    refine Ad ?_
    refine Ae Ag rfl ?_
    refine Ab rfl (.bool false) (fun b w hb hH => AV rfl rfl rfl (AS (by omega)) hb) ?_
    refine Aa (Ar rfl (Ax (AE ?_)))
    refine AZ 0 rfl (Cy hfu hdn) (fun _ => rfl) ?_; rintro x
    have hn64 := x.now64
    refine Ad ?_
    refine Ae Ag rfl ?_
    refine Ab rfl (.pointer (some ⟨p, 0, none⟩)) (fun b w hb hH => by exact BA rfl rfl hb) ?_
    refine Ae Ag rfl ?_
    refine Ab rfl (x.nv) (fun b w hb hH => A6 rfl rfl (Bk An rfl) (hH.row 0 rfl) hb) ?_
    refine Ae Ag rfl ?_
    refine Aj rfl (Al (os' := fun _ => [cell p 59 #[.int .i64 d1.room, x.sv, x.nv, x.wv, .bool fu, .int .i64 x.fz, .bool false], x.F, x.Y, As 103 5 encRO x.wv x.W]) [1] 0 (Ah Tryz.func61 (by kernel_rfl) rfl) (Dn x.rn (by omega) (x.no_ hg)) rfl rfl rfl (fun _ => rfl) rfl rfl rfl) ?_; rintro ⟨⟩
    refine Ae Ag rfl ?_
    refine Aa (Aq (Ad ?_))
    refine Ae Ag rfl ?_
    refine Ab rfl (.bool true) (fun b w hb hH => AV rfl rfl rfl (A7 (by omega)) hb) ?_
    refine Aa (AC rfl ?_)
    refine AX [0, 1, 2, 3] rfl (Cb x hfu hdn) rfl ?_
    refine Ad ?_
    refine Ae Ag rfl ?_
    refine Aa (Ay (CM ?_))
    exact Av (.tmp rfl) (fun w h => AB () rfl [0] rfl h Cl) rfl
  · skip
    subst he1
    rw [if_neg (by simp), hg] at h
    simp only at h
    obtain ⟨hdn, hs1, hw1, hr1⟩ := DR hb
    obtain ⟨fu, hfu⟩ : ∃ fu, d1.fuse.isSome = fu := ⟨_, rfl⟩
    refine Ad ?_
    refine Ae Ag rfl ?_
    refine Ab rfl (.bool false) (fun b w hb hH => AV rfl rfl rfl (AS (by omega)) hb) ?_
    refine Aa (Ar rfl (Ax (AE ?_)))
    refine AZ 0 rfl (Cy hfu hdn) (fun _ => rfl) ?_; rintro x
    have hn64 := x.now64
    obtain ⟨j, q, hj, hq, hlt, hqb, hm⟩ := x.yes_ hg
    subst hqb
    refine Ad ?_
    refine Ae Ag rfl ?_
    refine Ab rfl (.pointer (some ⟨p, 0, none⟩)) (fun b w hb hH => by exact BA rfl rfl hb) ?_
    refine Ae Ag rfl ?_
    refine Ab rfl (x.nv) (fun b w hb hH => A6 rfl rfl (Bk An rfl) (hH.row 0 rfl) hb) ?_
    refine Ae Ag rfl ?_
    refine Aj rfl (Al (os' := fun _ => [cell p 59 #[.int .i64 d1.room, x.sv, x.nv, x.wv, .bool fu, .int .i64 x.fz, .bool false], x.F, x.Y, As 103 5 encRO x.wv x.W]) [1] 0 (Ah Tryz.func61 (by kernel_rfl) rfl) (C7 x.rn (by omega) hj hq hlt) rfl rfl rfl (fun _ => rfl) rfl rfl rfl) ?_; rintro ⟨⟩
    refine Ae Ag rfl ?_
    refine Aa (Aq (Ad ?_))
    refine Ae Ag rfl ?_
    refine Ab rfl (.bool false) (fun b w hb hH => AV rfl rfl rfl (Bn (by omega)) hb) ?_
    refine Aa (Ar rfl (Ax (AE (Aq ?_))))
    rcases Classical.em ((q.d.length : Int) < (s : Int)) with h2 | h2
    · skip
      rw [if_pos (.inr h2)] at h
      obtain ⟨rfl, rfl⟩ := Prod.mk.inj h
      refine Ad ?_
      refine Ae Ag rfl ?_
      refine Ab rfl (.bool false) (fun b w hb hH => AV rfl rfl rfl (Bn (by omega)) hb) ?_
      refine Ae Ag rfl ?_
      refine Ab rfl (.pointer (some ⟨p, 0, none⟩)) (fun b w hb hH => by exact BA rfl rfl hb) ?_
      refine Ae Ag rfl ?_
      refine Ab rfl (x.nv) (fun b w hb hH => A6 rfl rfl (Bk An rfl) (hH.row 0 rfl) hb) ?_
      refine Ae Ag rfl ?_
      refine Ab rfl (BP x.nv (j * 2)) (fun b w hb hH => BF BT ((hH.rdFs 1 rfl x.rn)) Az (j := j) hj rfl rfl rfl hb) ?_
      refine Ab rfl (BP x.nv (j * 2 + 1)) (fun b w hb hH => IS BT (by decide) ((hH.rdFs 1 rfl x.rn)) (j := j) hj BC rfl rfl hb) ?_
      refine Ab rfl (.slice q.A q.d.length q.c) (fun b w hb hH => Bm BT (by decide) ((hH.rdFs 1 rfl x.rn)) (j := j) hj C3 (off := 1) rfl rfl rfl hb) ?_
      refine Ab rfl (.int .i64 (q.d.length : Int)) (fun b w hb hH => H6 AJ rfl rfl hH hb) ?_
      refine Ab rfl (.bool true) (fun b w hb hH => AV rfl rfl rfl (BY (by omega)) hb) ?_
      refine Ae Ag rfl ?_
      refine Aa (AC rfl ?_)
      refine AX [0, 1, 2, 3] rfl (Cb x hfu hdn) rfl ?_
      refine Ad ?_
      refine Ae Ag rfl ?_
      refine Aa (Ay (CM ?_))
      exact Av (.tmp rfl) (fun w h => AB () rfl [0] rfl h Cl) rfl
    · skip
      rw [if_neg (by omega)] at h
      obtain ⟨rfl, rfl⟩ := Prod.mk.inj h
      rw [Int.toNat_natCast]
      have hok : LB d1.now (.cut n s) := ⟨q.d, hg, by omega⟩
      have hfew := Hg (o := .cut n s) hn64.1 (fun m c e _ => by cases e)
      refine Ad ?_
      refine Ae Ag rfl ?_
      refine Ab rfl (.bool false) (fun b w hb hH => AV rfl rfl rfl (Bn (by omega)) hb) ?_
      refine Ae Ag rfl ?_
      refine Ab rfl (.pointer (some ⟨p, 0, none⟩)) (fun b w hb hH => by exact BA rfl rfl hb) ?_
      refine Ae Ag rfl ?_
      refine Ab rfl (x.nv) (fun b w hb hH => A6 rfl rfl (Bk An rfl) (hH.row 0 rfl) hb) ?_
      refine Ae Ag rfl ?_
      refine Ab rfl (BP x.nv (j * 2)) (fun b w hb hH => BF BT ((hH.rdFs 1 rfl x.rn)) Az (j := j) hj rfl rfl rfl hb) ?_
      refine Ab rfl (BP x.nv (j * 2 + 1)) (fun b w hb hH => IS BT (by decide) ((hH.rdFs 1 rfl x.rn)) (j := j) hj BC rfl rfl hb) ?_
      refine Ab rfl (.slice q.A q.d.length q.c) (fun b w hb hH => Bm BT (by decide) ((hH.rdFs 1 rfl x.rn)) (j := j) hj C3 (off := 1) rfl rfl rfl hb) ?_
      refine Ab rfl (.int .i64 (q.d.length : Int)) (fun b w hb hH => H6 AJ rfl rfl hH hb) ?_
      refine Ab rfl (.bool false) (fun b w hb hH => AV rfl rfl rfl (BE (by omega)) hb) ?_
      refine Ae Ag rfl ?_
      refine Aa (Ar rfl (Ax (AE ?_)))
      refine AX [0, 1, 2, 3] rfl (Cb x hfu hdn) rfl ?_
      refine F2 (t := D1) (rfl) ?_
      refine Ad ?_
      refine Ae Ag rfl ?_
      refine Ab rfl (.agg #[.int .i64 1, .string (bs n), .string { data := #[] }, .slice none 0 0, .int .i64 (s : Int)]) (fun b w hb hH => Bg rfl rfl (by kernel_rfl) hb) ?_
      refine Aj rfl (Al (os' := fun _ => [D1, Au p (Cr d1 (.cut n s))]) [1, 0] 0 (Ah Tryz.func62 (by kernel_rfl) rfl) (Ok (y := ⟨.cut n s, none, 0⟩) hf1 hdn hok hfew MZ (Nat.le_refl 0) (Nat.zero_le _)) rfl rfl rfl (fun _ => rfl) rfl rfl rfl) ?_; rintro ⟨⟩
      refine Cg.leave [0] rfl rfl ?_
      refine Ae Ag rfl ?_
      refine Aa (Ay ?_)
      exact Av (.tmp rfl) (fun w h => AB () rfl [0] rfl h Cl) rfl
  · skip
    rw [if_pos (by omega)] at h
    obtain ⟨rfl, rfl⟩ := Prod.mk.inj h
    refine Ad ?_
    refine Ae Ag rfl ?_
    refine Ab rfl (.bool true) (fun b w hb hH => AV rfl rfl rfl (BQ (by omega)) hb) ?_
    refine Aa (AC rfl (Ad ?_))
    refine Ae Ag rfl ?_
    refine Aa (Ay (CM ?_))
    exact Av (.tmp rfl) (fun w h => AB () rfl [0] rfl h Cl) rfl
theorem QI {p : Nat} {d d' : DiskD} {n m : List UInt8} {e : Nat} (hf : d.fit) (hml : m.length ≤ 9223372036854775807) (h : I4 d n m = (d', e)) : AU Tryz.prog 47 #[.pointer (some ⟨p, 0, none⟩), .string (bs n), .string (bs m)] [Au p d] (fun (_ : Unit) => .int .i64 (e : Int)) (fun (_ : Unit) => [Au p d']) := by
  refine Bd (args := [.pointer (some ⟨p, 0, none⟩), .string (bs n), .string (bs m)]) 28 Tryz.func47 rfl rfl rfl ?_; intro w rs
  obtain ⟨⟨d1, e1⟩, hb⟩ : ∃ R, Bi d = R := ⟨_, rfl⟩
  have hf1 := Fu hb hf
  unfold I4 at h
  rw [hb] at h; simp only at h
  refine Ad ?_
  refine Ae Ag rfl ?_
  refine Aa (Aq (Ad ?_))
  refine Ae Ag rfl ?_
  refine Aj rfl (Al (os' := fun _ => [Au p d1]) [0] 0 (Ah Tryz.func30 (by kernel_rfl) rfl) (Jj hb) rfl rfl rfl (fun _ => rfl) rfl rfl rfl) ?_; rintro ⟨⟩
  refine Ae Ag rfl ?_
  refine Aa ?_
  rcases Nat.eq_zero_or_pos e1 with he1 | he1
  rcases hnm : CE m with _ | _
  rotate_left
  rcases hg : AQ d1.now n with _ | b
  · skip
    subst he1
    rw [if_neg (by simp), if_neg (by simp [hnm]), hg] at h
    obtain ⟨rfl, rfl⟩ := Prod.mk.inj h
    obtain ⟨hdn, hs1, hw1, hr1⟩ := DR hb
    obtain ⟨fu, hfu⟩ : ∃ fu, d1.fuse.isSome = fu := ⟨_, rfl⟩
    refine Ad ?_
    refine Ae Ag rfl ?_
    refine Ab rfl (.bool false) (fun b w hb hH => AV rfl rfl rfl (AS (by omega)) hb) ?_
    refine Aa (Ar rfl (Ax (AE (Aq (Ad ?_)))))
    refine Ae Ag rfl ?_
    refine Aj (post := fun _ => [Au p d1]) rfl (By (Ah Tryz.func60 (by kernel_rfl) rfl) (fun w hH => Mj w m true hnm (by omega)) rfl rfl rfl) ?_; rintro ⟨⟩
    refine Ae Ag rfl ?_
    refine Aa (Ar rfl (Ax (AE (Aq ?_))))
    refine AZ 0 rfl (Cy hfu hdn) (fun _ => rfl) ?_; rintro x
    have hn64 := x.now64
    refine Ad ?_
    refine Ae Ag rfl ?_
    refine Ab rfl (.pointer (some ⟨p, 0, none⟩)) (fun b w hb hH => by exact BA rfl rfl hb) ?_
    refine Ae Ag rfl ?_
    refine Ab rfl (x.nv) (fun b w hb hH => A6 rfl rfl (Bk An rfl) (hH.row 0 rfl) hb) ?_
    refine Ae Ag rfl ?_
    refine Aj rfl (Al (os' := fun _ => [cell p 59 #[.int .i64 d1.room, x.sv, x.nv, x.wv, .bool fu, .int .i64 x.fz, .bool false], x.F, x.Y, As 103 5 encRO x.wv x.W]) [1] 0 (Ah Tryz.func61 (by kernel_rfl) rfl) (Dn x.rn (by omega) (x.no_ hg)) rfl rfl rfl (fun _ => rfl) rfl rfl rfl) ?_; rintro ⟨⟩
    refine Ab rfl (.bool true) (fun b w hb hH => AV rfl rfl rfl (A7 (by omega)) hb) ?_
    refine Aa (AC rfl ?_)
    refine AX [0, 1, 2, 3] rfl (Cb x hfu hdn) rfl ?_
    refine Ad ?_
    refine Ae Ag rfl ?_
    refine Aa (Ay (CM ?_))
    exact Av (.tmp rfl) (fun w h => AB () rfl [0] rfl h Cl) rfl
  · skip
    subst he1
    rw [if_neg (by simp), if_neg (by simp [hnm]), hg] at h
    obtain ⟨rfl, rfl⟩ := Prod.mk.inj h
    obtain ⟨hdn, hs1, hw1, hr1⟩ := DR hb
    obtain ⟨fu, hfu⟩ : ∃ fu, d1.fuse.isSome = fu := ⟨_, rfl⟩
    refine Ad ?_
    refine Ae Ag rfl ?_
    refine Ab rfl (.bool false) (fun b w hb hH => AV rfl rfl rfl (AS (by omega)) hb) ?_
    refine Aa (Ar rfl (Ax (AE (Aq (Ad ?_)))))
    refine Ae Ag rfl ?_
    refine Aj (post := fun _ => [Au p d1]) rfl (By (Ah Tryz.func60 (by kernel_rfl) rfl) (fun w hH => Mj w m true hnm (by omega)) rfl rfl rfl) ?_; rintro ⟨⟩
    refine Ae Ag rfl ?_
    refine Aa (Ar rfl (Ax (AE (Aq ?_))))
    refine AZ 0 rfl (Cy hfu hdn) (fun _ => rfl) ?_; rintro x
    have hn64 := x.now64
    obtain ⟨j, q, hj, hq, hlt, hqb, hm⟩ := x.yes_ hg
    subst hqb
    have hok : LB d1.now (.ren n m) := ⟨⟨_, hg⟩, hnm⟩
    have hfew := Hg (o := .ren n m) hn64.1 (fun m c e _ => by cases e)
    refine Ad ?_
    refine Ae Ag rfl ?_
    refine Ab rfl (.pointer (some ⟨p, 0, none⟩)) (fun b w hb hH => by exact BA rfl rfl hb) ?_
    refine Ae Ag rfl ?_
    refine Ab rfl (x.nv) (fun b w hb hH => A6 rfl rfl (Bk An rfl) (hH.row 0 rfl) hb) ?_
    refine Ae Ag rfl ?_
    refine Aj rfl (Al (os' := fun _ => [cell p 59 #[.int .i64 d1.room, x.sv, x.nv, x.wv, .bool fu, .int .i64 x.fz, .bool false], x.F, x.Y, As 103 5 encRO x.wv x.W]) [1] 0 (Ah Tryz.func61 (by kernel_rfl) rfl) (C7 x.rn (by omega) hj hq hlt) rfl rfl rfl (fun _ => rfl) rfl rfl rfl) ?_; rintro ⟨⟩
    refine Ab rfl (.bool false) (fun b w hb hH => AV rfl rfl rfl (Bn (by omega)) hb) ?_
    refine Aa (Ar rfl (Ax (AE ?_)))
    refine AX [0, 1, 2, 3] rfl (Cb x hfu hdn) rfl ?_
    refine F2 (t := D1) (rfl) ?_
    refine Ad ?_
    refine Ae Ag rfl ?_
    refine Ab rfl (.agg #[.int .i64 2, .string (bs n), .string (bs m), .slice none 0 0, .int .i64 0]) (fun b w hb hH => Bg rfl rfl (by kernel_rfl) hb) ?_
    refine Aj rfl (Al (os' := fun _ => [D1, Au p (Cr d1 (.ren n m))]) [1, 0] 0 (Ah Tryz.func62 (by kernel_rfl) rfl) (Ok (y := ⟨.ren n m, none, 0⟩) hf1 hdn hok hfew MZ (Nat.le_refl 0) (Nat.zero_le _)) rfl rfl rfl (fun _ => rfl) rfl rfl rfl) ?_; rintro ⟨⟩
    refine Cg.leave [0] rfl rfl ?_
    refine Ae Ag rfl ?_
    refine Aa (Ay ?_)
    exact Av (.tmp rfl) (fun w h => AB () rfl [0] rfl h Cl) rfl
  · skip
    rw [if_pos (by omega)] at h
    obtain ⟨rfl, rfl⟩ := Prod.mk.inj h
    refine Ad ?_
    refine Ae Ag rfl ?_
    refine Ab rfl (.bool true) (fun b w hb hH => AV rfl rfl rfl (BQ (by omega)) hb) ?_
    refine Aa (AC rfl (Ad ?_))
    refine Ae Ag rfl ?_
    refine Aa (Ay (CM ?_))
    exact Av (.tmp rfl) (fun w h => AB () rfl [0] rfl h Cl) rfl
  · skip
    subst he1
    rw [if_neg (by simp), if_pos hnm] at h
    obtain ⟨rfl, rfl⟩ := Prod.mk.inj h
    refine Ad ?_
    refine Ae Ag rfl ?_
    refine Ab rfl (.bool false) (fun b w hb hH => AV rfl rfl rfl (AS (by omega)) hb) ?_
    refine Aa (Ar rfl (Ax (AE (Aq (Ad ?_)))))
    refine Ae Ag rfl ?_
    refine Aj (post := fun _ => [Au p d1]) rfl (By (Ah Tryz.func60 (by kernel_rfl) rfl) (fun w hH => Mj w m false hnm (by omega)) rfl rfl rfl) ?_; rintro ⟨⟩
    refine Ae Ag rfl ?_
    refine Aa (AC rfl (Ad ?_))
    refine Ae Ag rfl ?_
    refine Aa (Ay (CM ?_))
    exact Av (.tmp rfl) (fun w h => AB () rfl [0] rfl h Cl) rfl
theorem M0 {p : Nat} {d d' : DiskD} {n : List UInt8} {e : Nat} (hf : d.fit) (h : GH d n = (d', e)) : AU Tryz.prog 36 #[.pointer (some ⟨p, 0, none⟩), .string (bs n)] [Au p d] (fun (_ : Unit) => .int .i64 (e : Int)) (fun (_ : Unit) => [Au p d']) := by
  refine Bd (args := [.pointer (some ⟨p, 0, none⟩), .string (bs n)]) 22 Tryz.func36 rfl rfl rfl ?_; intro w rs
  obtain ⟨⟨d1, e1⟩, hb⟩ : ∃ R, Bi d = R := ⟨_, rfl⟩
  have hf1 := Fu hb hf
  unfold GH at h
  rw [hb] at h; simp only at h
  refine Ad ?_
  refine Ae Ag rfl ?_
  refine Aa (Aq (Ad ?_))
  refine Ae Ag rfl ?_
  refine Aj rfl (Al (os' := fun _ => [Au p d1]) [0] 0 (Ah Tryz.func30 (by kernel_rfl) rfl) (Jj hb) rfl rfl rfl (fun _ => rfl) rfl rfl rfl) ?_; rintro ⟨⟩
  refine Ae Ag rfl ?_
  refine Aa ?_
  rcases Nat.eq_zero_or_pos e1 with he1 | he1
  rcases hg : AQ d1.now n with _ | b
  · skip
    subst he1
    rw [if_neg (by simp), hg] at h
    obtain ⟨rfl, rfl⟩ := Prod.mk.inj h
    obtain ⟨hdn, hs1, hw1, hr1⟩ := DR hb
    obtain ⟨fu, hfu⟩ : ∃ fu, d1.fuse.isSome = fu := ⟨_, rfl⟩
    refine Ad ?_
    refine Ae Ag rfl ?_
    refine Ab rfl (.bool false) (fun b w hb hH => AV rfl rfl rfl (AS (by omega)) hb) ?_
    refine Aa (Ar rfl (Ax (AE (Aq ?_))))
    refine AZ 0 rfl (Cy hfu hdn) (fun _ => rfl) ?_; rintro x
    have hn64 := x.now64
    refine Ad ?_
    refine Ae Ag rfl ?_
    refine Ab rfl (.pointer (some ⟨p, 0, none⟩)) (fun b w hb hH => by exact BA rfl rfl hb) ?_
    refine Ae Ag rfl ?_
    refine Ab rfl (x.nv) (fun b w hb hH => A6 rfl rfl (Bk An rfl) (hH.row 0 rfl) hb) ?_
    refine Ae Ag rfl ?_
    refine Aj rfl (Al (os' := fun _ => [cell p 59 #[.int .i64 d1.room, x.sv, x.nv, x.wv, .bool fu, .int .i64 x.fz, .bool false], x.F, x.Y, As 103 5 encRO x.wv x.W]) [1] 0 (Ah Tryz.func61 (by kernel_rfl) rfl) (Dn x.rn (by omega) (x.no_ hg)) rfl rfl rfl (fun _ => rfl) rfl rfl rfl) ?_; rintro ⟨⟩
    refine Ab rfl (.bool true) (fun b w hb hH => AV rfl rfl rfl (A7 (by omega)) hb) ?_
    refine Aa (AC rfl ?_)
    refine AX [0, 1, 2, 3] rfl (Cb x hfu hdn) rfl ?_
    refine Ad ?_
    refine Ae Ag rfl ?_
    refine Aa (Ay (CM ?_))
    exact Av (.tmp rfl) (fun w h => AB () rfl [0] rfl h Cl) rfl
  · skip
    subst he1
    rw [if_neg (by simp), hg] at h
    obtain ⟨rfl, rfl⟩ := Prod.mk.inj h
    obtain ⟨hdn, hs1, hw1, hr1⟩ := DR hb
    obtain ⟨fu, hfu⟩ : ∃ fu, d1.fuse.isSome = fu := ⟨_, rfl⟩
    refine Ad ?_
    refine Ae Ag rfl ?_
    refine Ab rfl (.bool false) (fun b w hb hH => AV rfl rfl rfl (AS (by omega)) hb) ?_
    refine Aa (Ar rfl (Ax (AE (Aq ?_))))
    refine AZ 0 rfl (Cy hfu hdn) (fun _ => rfl) ?_; rintro x
    have hn64 := x.now64
    obtain ⟨j, q, hj, hq, hlt, hqb, hm⟩ := x.yes_ hg
    subst hqb
    have hok : LB d1.now (.del n) := trivial
    have hfew := Hg (o := .del n) hn64.1 (fun m c e _ => by cases e)
    refine Ad ?_
    refine Ae Ag rfl ?_
    refine Ab rfl (.pointer (some ⟨p, 0, none⟩)) (fun b w hb hH => by exact BA rfl rfl hb) ?_
    refine Ae Ag rfl ?_
    refine Ab rfl (x.nv) (fun b w hb hH => A6 rfl rfl (Bk An rfl) (hH.row 0 rfl) hb) ?_
    refine Ae Ag rfl ?_
    refine Aj rfl (Al (os' := fun _ => [cell p 59 #[.int .i64 d1.room, x.sv, x.nv, x.wv, .bool fu, .int .i64 x.fz, .bool false], x.F, x.Y, As 103 5 encRO x.wv x.W]) [1] 0 (Ah Tryz.func61 (by kernel_rfl) rfl) (C7 x.rn (by omega) hj hq hlt) rfl rfl rfl (fun _ => rfl) rfl rfl rfl) ?_; rintro ⟨⟩
    refine Ab rfl (.bool false) (fun b w hb hH => AV rfl rfl rfl (Bn (by omega)) hb) ?_
    refine Aa (Ar rfl (Ax (AE ?_)))
    refine AX [0, 1, 2, 3] rfl (Cb x hfu hdn) rfl ?_
    refine F2 (t := D1) (rfl) ?_
    refine Ad ?_
    refine Ae Ag rfl ?_
    refine Ab rfl (.agg #[.int .i64 3, .string (bs n), .string { data := #[] }, .slice none 0 0, .int .i64 0]) (fun b w hb hH => Bg rfl rfl (by kernel_rfl) hb) ?_
    refine Aj rfl (Al (os' := fun _ => [D1, Au p (Cr d1 (.del n))]) [1, 0] 0 (Ah Tryz.func62 (by kernel_rfl) rfl) (Ok (y := ⟨.del n, none, 0⟩) hf1 hdn hok hfew MZ (Nat.le_refl 0) (Nat.zero_le _)) rfl rfl rfl (fun _ => rfl) rfl rfl rfl) ?_; rintro ⟨⟩
    refine Cg.leave [0] rfl rfl ?_
    refine Ae Ag rfl ?_
    refine Aa (Ay ?_)
    exact Av (.tmp rfl) (fun w h => AB () rfl [0] rfl h Cl) rfl
  · skip
    rw [if_pos (by omega)] at h
    obtain ⟨rfl, rfl⟩ := Prod.mk.inj h
    refine Ad ?_
    refine Ae Ag rfl ?_
    refine Ab rfl (.bool true) (fun b w hb hH => AV rfl rfl rfl (BQ (by omega)) hb) ?_
    refine Aa (AC rfl (Ad ?_))
    refine Ae Ag rfl ?_
    refine Aa (Ay (CM ?_))
    exact Av (.tmp rfl) (fun w h => AB () rfl [0] rfl h Cl) rfl
def RDk.sync {d : DiskD} (x : RDk d) : RDk { d with syn := d.now, wait := [] } where
  F := x.F
  Y := x.Y
  sv := x.nv
  nv := x.nv
  wv := .slice none 0 0
  sl := x.nl
  nl := x.nl
  W := []
  fz := x.fz
  hs := x.hn
  hn := x.hn
  ps := x.pn
  pn := x.pn
  hW := rfl
  rs := x.rn
  rn := x.rn
  ys := x.yn
  yn := x.yn
  yw := fun q h => nomatch h
  yc := fun q h => nomatch h
  hok := trivial
  few := fun k => by rw [List.take_nil]; exact x.now64.1
  hz := x.hz
  zr := x.zr
  nc := x.nc
  sc := x.nc
theorem TM {p : Nat} {d : DiskD} (x : RDk d) {fu dn : Bool} (hfu : d.fuse.isSome = fu) (hdn : d.down = dn) : ∀ rs, Ap [cell p 59 #[.int .i64 d.room, x.nv, x.nv, .slice none 0 0, .bool fu, .int .i64 x.fz, .bool dn], x.F, x.Y] rs → Au p { d with syn := d.now, wait := [] } rs := fun rs h => ⟨x.sync, by
 subst hfu; subst hdn
 obtain ⟨r1, _, rfl, h1, r2, _, rfl, h2, r3, _, rfl, h3, rfl⟩ := h
 exact ⟨r1, _, rfl, h1, r2, _, rfl, h2, r3, [], by simp, h3, [], [], rfl, Ga, rfl⟩⟩
theorem TN {p : Nat} {d d' : DiskD} {e : Nat} (hf : d.fit) (h : F1 d = (d', e)) : AU Tryz.prog 10 #[.pointer (some ⟨p, 0, none⟩)] [Au p d] (fun (_ : Unit) => .int .i64 (e : Int)) (fun (_ : Unit) => [Au p d']) := by
  refine Bd (args := [.pointer (some ⟨p, 0, none⟩)]) 19 Tryz.func10 rfl rfl rfl ?_; intro w rs
  obtain ⟨⟨d1, e1⟩, hb⟩ : ∃ R, Bi d = R := ⟨_, rfl⟩
  have hf1 := Fu hb hf
  unfold F1 at h
  rw [hb] at h; simp only at h
  refine Ad ?_
  refine Ae Ag rfl ?_
  refine Aa (Aq (Ad ?_))
  refine Ae Ag rfl ?_
  refine Aj rfl (Al (os' := fun _ => [Au p d1]) [0] 0 (Ah Tryz.func30 (by kernel_rfl) rfl) (Jj hb) rfl rfl rfl (fun _ => rfl) rfl rfl rfl) ?_; rintro ⟨⟩
  refine Ae Ag rfl ?_
  refine Aa ?_
  rcases Nat.eq_zero_or_pos e1 with he1 | he1
  · skip
    subst he1
    rw [if_neg (by simp)] at h
    obtain ⟨rfl, rfl⟩ := Prod.mk.inj h
    obtain ⟨hdn, hs1, hw1, hr1⟩ := DR hb
    obtain ⟨fu, hfu⟩ : ∃ fu, d1.fuse.isSome = fu := ⟨_, rfl⟩
    refine Ad ?_
    refine Ae Ag rfl ?_
    refine Ab rfl (.bool false) (fun b w hb hH => AV rfl rfl rfl (AS (by omega)) hb) ?_
    refine Aa (Ar rfl (Ax (AE ?_)))
    refine AZ 0 rfl (Cy hfu hdn) (fun _ => rfl) ?_; rintro x
    refine Ad ?_
    refine Ae Ag rfl ?_
    refine Ab rfl (.pointer (some ⟨p, 0, none⟩)) (fun b w hb hH => by exact BA rfl rfl hb) ?_
    refine Ae Ag rfl ?_
    refine Ab rfl (x.nv) (fun b w hb hH => A6 rfl rfl (Bk An rfl) (hH.row 0 rfl) hb) ?_
    refine Ab rfl (.pointer (some ⟨p, 0, none⟩)) (fun b w hb hH => by exact BA rfl rfl hb) ?_
    refine Ae Ag rfl ?_
    refine AH (post := fun _ => [cell p 59 #[.int .i64 d1.room, x.nv, x.nv, x.wv, .bool fu, .int .i64 x.fz, .bool false], x.F, x.Y, As 103 5 encRO x.wv x.W]) rfl rfl (Ci 0 1 (v := x.nv) #[.int .i64 d1.room, x.nv, x.nv, x.wv, .bool fu, .int .i64 x.fz, .bool false] An.2 rfl (fun _ h => (fun _ => x.nc) h) rfl rfl rfl rfl rfl rfl rfl) ?_; rintro ⟨⟩
    refine Aa (Ad ?_)
    refine Ae Ag rfl ?_
    refine Ab rfl (.pointer (some ⟨p, 0, none⟩)) (fun b w hb hH => by exact BA rfl rfl hb) ?_
    refine Ae Ag rfl ?_
    refine AH (post := fun _ => [cell p 59 #[.int .i64 d1.room, x.nv, x.nv, .slice none 0 0, .bool fu, .int .i64 x.fz, .bool false], x.F, x.Y, As 103 5 encRO x.wv x.W]) rfl rfl (AD 0 (v := .slice none 0 0) #[.int .i64 d1.room, x.nv, x.nv, .slice none 0 0, .bool fu, .int .i64 x.fz, .bool false] AF.2 rfl rfl rfl rfl rfl rfl rfl rfl rfl) ?_; rintro ⟨⟩
    refine Aa ?_
    refine AX [0, 1, 2] rfl (TM x hfu hdn) rfl ?_
    refine Ad ?_
    refine Ae Ag rfl ?_
    refine Aa (Ay ?_)
    exact Av (.tmp rfl) (fun w h => AB () rfl [0] rfl h Cl) rfl
  · skip
    rw [if_pos (by omega)] at h
    obtain ⟨rfl, rfl⟩ := Prod.mk.inj h
    refine Ad ?_
    refine Ae Ag rfl ?_
    refine Ab rfl (.bool true) (fun b w hb hH => AV rfl rfl rfl (BQ (by omega)) hb) ?_
    refine Aa (AC rfl (Ad ?_))
    refine Ae Ag rfl ?_
    refine Aa (Ay (CM ?_))
    exact Av (.tmp rfl) (fun w h => AB () rfl [0] rfl h Cl) rfl
theorem Wq {p : Nat} {d d' : DiskD} {n : Int} (hn : -9223372036854775808 ≤ n ∧ n ≤ 9223372036854775807) (h : Fo d n = d') : AU Tryz.prog 25 #[.pointer (some ⟨p, 0, none⟩), .int .i64 n] [Au p d] (fun (_ : Unit) => .tuple #[]) (fun (_ : Unit) => [Au p d']) := by
  refine Bd (args := [.pointer (some ⟨p, 0, none⟩), .int .i64 n]) 14 Tryz.func25 rfl rfl rfl ?_; intro w rs
  subst h
  obtain ⟨fu, hfu⟩ : ∃ fu, d.fuse.isSome = fu := ⟨_, rfl⟩
  obtain ⟨dn, hdn⟩ : ∃ dn, d.down = dn := ⟨_, rfl⟩
  rcases Classical.em (0 ≤ n) with h0 | h0
  · skip
    obtain ⟨k, rfl⟩ : ∃ k : Nat, n = (k : Int) := ⟨n.toNat, by omega⟩
    have hfd : Fo d (k : Int) = { d with fuse := some k } := by unfold Fo; rw [if_pos h0]; rfl
    rw [hfd]
    refine AZ 0 rfl (Cy hfu hdn) (fun _ => rfl) ?_; rintro x
    refine Ad ?_
    refine Ae Ag rfl ?_
    refine Ab rfl (.bool true) (fun b w hb hH => AV rfl rfl rfl (B7 (by omega)) hb) ?_
    refine Ab rfl (.pointer (some ⟨p, 0, none⟩)) (fun b w hb hH => by exact BA rfl rfl hb) ?_
    refine Ae Ag rfl ?_
    refine AH (post := fun _ => [cell p 59 #[.int .i64 d.room, x.sv, x.nv, x.wv, .bool true, .int .i64 x.fz, .bool dn], x.F, x.Y, As 103 5 encRO x.wv x.W]) rfl rfl (AD 0 (v := .bool true) #[.int .i64 d.room, x.sv, x.nv, x.wv, .bool true, .int .i64 x.fz, .bool dn] Bo.2 rfl rfl rfl rfl rfl rfl rfl rfl rfl) ?_; rintro ⟨⟩
    refine Aa (Br ?_)
    refine Ae Ag rfl ?_
    refine Ab rfl (.int .i64 (k : Int)) (fun b w hb hH => BU rfl rfl (fun cs => (fun w cs => Nd (by omega) _ _ w cs) w cs) hb) ?_
    refine Ab rfl (.pointer (some ⟨p, 0, none⟩)) (fun b w hb hH => by exact BA rfl rfl hb) ?_
    refine Ae Ag rfl ?_
    refine AH (post := fun _ => [cell p 59 #[.int .i64 d.room, x.sv, x.nv, x.wv, .bool true, .int .i64 (k : Int), .bool dn], x.F, x.Y, As 103 5 encRO x.wv x.W]) rfl rfl (AD 0 (v := .int .i64 (k : Int)) #[.int .i64 d.room, x.sv, x.nv, x.wv, .bool true, .int .i64 (k : Int), .bool dn] AR.2 rfl rfl rfl rfl rfl rfl rfl rfl rfl) ?_; rintro ⟨⟩
    refine AP ?_
    exact CG  (fun w h => AB (X := Unit) () rfl [0, 1, 2, 3] rfl h (fun z hz => ⟨z, .refl _, Ap.one (Gb (d' := { d with fuse := some k }) x rfl rfl rfl rfl hdn (fun q hq => by cases hq; rfl) (by omega) z hz)⟩)) rfl
  · skip
    have hfd : Fo d n = { d with fuse := none } := by unfold Fo; rw [if_neg h0]
    rw [hfd]
    refine AZ 0 rfl (Cy hfu hdn) (fun _ => rfl) ?_; rintro x
    refine Ad ?_
    refine Ae Ag rfl ?_
    refine Ab rfl (.bool false) (fun b w hb hH => AV rfl rfl rfl (De (by omega)) hb) ?_
    refine Ab rfl (.pointer (some ⟨p, 0, none⟩)) (fun b w hb hH => by exact BA rfl rfl hb) ?_
    refine Ae Ag rfl ?_
    refine AH (post := fun _ => [cell p 59 #[.int .i64 d.room, x.sv, x.nv, x.wv, .bool false, .int .i64 x.fz, .bool dn], x.F, x.Y, As 103 5 encRO x.wv x.W]) rfl rfl (AD 0 (v := .bool false) #[.int .i64 d.room, x.sv, x.nv, x.wv, .bool false, .int .i64 x.fz, .bool dn] Bo.2 rfl rfl rfl rfl rfl rfl rfl rfl rfl) ?_; rintro ⟨⟩
    refine Aa (Br ?_)
    refine Ae Ag rfl ?_
    refine Ab rfl (.int .i64 0) (fun b w hb hH => BU rfl rfl (fun cs => (fun w cs => Nd (by omega) _ _ w cs) w cs) hb) ?_
    refine Ab rfl (.pointer (some ⟨p, 0, none⟩)) (fun b w hb hH => by exact BA rfl rfl hb) ?_
    refine Ae Ag rfl ?_
    refine AH (post := fun _ => [cell p 59 #[.int .i64 d.room, x.sv, x.nv, x.wv, .bool false, .int .i64 0, .bool dn], x.F, x.Y, As 103 5 encRO x.wv x.W]) rfl rfl (AD 0 (v := .int .i64 0) #[.int .i64 d.room, x.sv, x.nv, x.wv, .bool false, .int .i64 0, .bool dn] AR.2 rfl rfl rfl rfl rfl rfl rfl rfl rfl) ?_; rintro ⟨⟩
    refine AP ?_
    exact CG  (fun w h => AB (X := Unit) () rfl [0, 1, 2, 3] rfl h (fun z hz => ⟨z, .refl _, Ap.one (Gb (d' := { d with fuse := none }) x rfl rfl rfl rfl hdn (fun q hq => nomatch hq) (by decide) z hz)⟩)) rfl
end Go.Proofs.YtnknboibmifacaaGreat.Sep
