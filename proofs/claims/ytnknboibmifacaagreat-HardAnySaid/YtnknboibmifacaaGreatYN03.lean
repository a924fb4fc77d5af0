/-
  RdkG
-/
import Derived.Test.YtnknboibmifacaaGreatYN02
set_option linter.unusedSimpArgs false
set_option linter.unusedVariables false
set_option maxRecDepth 100000
namespace Go.Proofs.YtnknboibmifacaaGreat.Sep
open Go.RowKit
open Go.Proofs.YtnknboibmifacaaGreat.Mem (Bd Cj Chg AF)
theorem Qs : Cw E0 (.slice none 0 0) [] := fun rs w h1 h2 => JX w
theorem N1 {p : Nat} {d d' : DiskD} {n : List UInt8} {s : Nat} {e : Nat} (hf : d.fit) (hsi : -9223372036854775808 ≤ (s : Int) ∧ (s : Int) ≤ 9223372036854775807) (h : IG d n (s : Int) = (d', e)) : AS Tryz.prog 42 #[.pointer (some ⟨p, 0, none⟩), .string (bs n), .int .i64 (s : Int)] [AA p d] (fun (_ : Unit) => .int .i64 (e : Int)) (fun (_ : Unit) => [AA p d']) := by
  refine A6 (args := [.pointer (some ⟨p, 0, none⟩), .string (bs n), .int .i64 (s : Int)]) 42 Tryz.func42 rfl rfl rfl ?_; intro w rs
  obtain ⟨⟨d1, e1⟩, hb⟩ : ∃ R, Ba d = R := ⟨_, rfl⟩
  have hf1 := Ga hb hf
  unfold IG at h
  rw [hb] at h; simp only at h
  refine Ad ?_
  refine Af Ag rfl ?_
  refine Ab (Aq (Ad ?_))
  refine Af Ag rfl ?_
  refine Ai rfl (Am (os' := fun _ => [AA p d1]) [0] 0 (Ah Tryz.func30 (by kernel_rfl) rfl) (Ka hb) rfl rfl rfl (fun _ => rfl) rfl rfl rfl) ?_; rintro ⟨⟩
  refine Af Ag rfl ?_
  refine Ab ?_
  rcases Nat.eq_zero_or_pos e1 with he1 | he1
  rcases hg : AL d1.now n with _ | b
  · skip
    subst he1
    rw [if_neg (by simp), hg] at h
    obtain ⟨rfl, rfl⟩ := Prod.mk.inj h
    obtain ⟨hdn, hs1, hw1, hr1⟩ := Et hb
    obtain ⟨fu, hfu⟩ : ∃ fu, d1.fuse.isSome = fu := ⟨_, rfl⟩
    refine Ad ?_
    refine Af Ag rfl ?_
    refine Ac rfl (.bool false) (fun b w hb hH => Bh rfl rfl rfl (AU (by omega)) hb) ?_
    refine Ab (Au rfl (Ax (AG ?_)))
    refine AY 0 rfl (CX hfu hdn) (fun _ => rfl) ?_; rintro x
    have hn64 := x.now64
    refine Ad ?_
    refine Af Ag rfl ?_
    refine Ac rfl (.pointer (some ⟨p, 0, none⟩)) (fun b w hb hH => by exact BO rfl rfl hb) ?_
    refine Af Ag rfl ?_
    refine Ac rfl (x.nv) (fun b w hb hH => Bg rfl rfl (Bt Aw rfl) (hH.row 0 rfl) hb) ?_
    refine Af Ag rfl ?_
    refine Ai rfl (Am (os' := fun _ => [cell p 59 #[.int .i64 d1.room, x.sv, x.nv, x.wv, .bool fu, .int .i64 x.fz, .bool false], x.F, x.Y, Ao 103 5 encRO x.wv x.W]) [1] 0 (Ah Tryz.func61 (by kernel_rfl) rfl) (Dw x.rn (by omega) (x.no_ hg)) rfl rfl rfl (fun _ => rfl) rfl rfl rfl) ?_; rintro ⟨⟩
    refine Af Ag rfl ?_
    refine Ab (Aq (Ad ?_))
    refine Af Ag rfl ?_
    refine Ac rfl (.bool true) (fun b w hb hH => Bh rfl rfl rfl (Bl (by omega)) hb) ?_
    refine Ab (AD rfl ?_)
    refine Bf [0, 1, 2, 3] rfl (Ce x hfu hdn) rfl ?_
    refine Ad ?_
    refine Af Ag rfl ?_
    refine Ab (Az (CO ?_))
    exact Ay (.tmp rfl) (fun w h => AB () rfl [0] rfl h Cz) rfl
  · skip
    subst he1
    rw [if_neg (by simp), hg] at h
    simp only at h
    obtain ⟨hdn, hs1, hw1, hr1⟩ := Et hb
    obtain ⟨fu, hfu⟩ : ∃ fu, d1.fuse.isSome = fu := ⟨_, rfl⟩
    refine Ad ?_
    refine Af Ag rfl ?_
    refine Ac rfl (.bool false) (fun b w hb hH => Bh rfl rfl rfl (AU (by omega)) hb) ?_
    refine Ab (Au rfl (Ax (AG ?_)))
    refine AY 0 rfl (CX hfu hdn) (fun _ => rfl) ?_; rintro x
    have hn64 := x.now64
    obtain ⟨j, q, hj, hq, hlt, hqb, hm⟩ := x.yes_ hg
    subst hqb
    refine Ad ?_
    refine Af Ag rfl ?_
    refine Ac rfl (.pointer (some ⟨p, 0, none⟩)) (fun b w hb hH => by exact BO rfl rfl hb) ?_
    refine Af Ag rfl ?_
    refine Ac rfl (x.nv) (fun b w hb hH => Bg rfl rfl (Bt Aw rfl) (hH.row 0 rfl) hb) ?_
    refine Af Ag rfl ?_
    refine Ai rfl (Am (os' := fun _ => [cell p 59 #[.int .i64 d1.room, x.sv, x.nv, x.wv, .bool fu, .int .i64 x.fz, .bool false], x.F, x.Y, Ao 103 5 encRO x.wv x.W]) [1] 0 (Ah Tryz.func61 (by kernel_rfl) rfl) (C6 x.rn (by omega) hj hq hlt) rfl rfl rfl (fun _ => rfl) rfl rfl rfl) ?_; rintro ⟨⟩
    refine Af Ag rfl ?_
    refine Ab (Aq (Ad ?_))
    refine Af Ag rfl ?_
    refine Ac rfl (.bool false) (fun b w hb hH => Bh rfl rfl rfl (Bu (by omega)) hb) ?_
    refine Ab (Au rfl (Ax (AG (Aq ?_))))
    rcases Classical.em ((q.d.length : Int) < (s : Int)) with h2 | h2
    · skip
      rw [if_pos (.inr h2)] at h
      obtain ⟨rfl, rfl⟩ := Prod.mk.inj h
      refine Ad ?_
      refine Af Ag rfl ?_
      refine Ac rfl (.bool false) (fun b w hb hH => Bh rfl rfl rfl (Bu (by omega)) hb) ?_
      refine Af Ag rfl ?_
      refine Ac rfl (.pointer (some ⟨p, 0, none⟩)) (fun b w hb hH => by exact BO rfl rfl hb) ?_
      refine Af Ag rfl ?_
      refine Ac rfl (x.nv) (fun b w hb hH => Bg rfl rfl (Bt Aw rfl) (hH.row 0 rfl) hb) ?_
      refine Af Ag rfl ?_
      refine Ac rfl (Cc x.nv (j * 2)) (fun b w hb hH => BA BH ((hH.rdFs 1 rfl x.rn)) Ar (j := j) hj rfl rfl rfl hb) ?_
      refine Ac rfl (Cc x.nv (j * 2 + 1)) (fun b w hb hH => Lf BH (by decide) ((hH.rdFs 1 rfl x.rn)) (j := j) hj Bw rfl rfl hb) ?_
      refine Ac rfl (.slice q.A q.d.length q.c) (fun b w hb hH => Bp BH (by decide) ((hH.rdFs 1 rfl x.rn)) (j := j) hj C3 (off := 1) rfl rfl rfl hb) ?_
      refine Ac rfl (.int .i64 (q.d.length : Int)) (fun b w hb hH => Gs AC rfl rfl hH hb) ?_
      refine Ac rfl (.bool true) (fun b w hb hH => Bh rfl rfl rfl (B2 (by omega)) hb) ?_
      refine Af Ag rfl ?_
      refine Ab (AD rfl ?_)
      refine Bf [0, 1, 2, 3] rfl (Ce x hfu hdn) rfl ?_
      refine Ad ?_
      refine Af Ag rfl ?_
      refine Ab (Az (CO ?_))
      exact Ay (.tmp rfl) (fun w h => AB () rfl [0] rfl h Cz) rfl
    · skip
      rw [if_neg (by omega)] at h
      obtain ⟨rfl, rfl⟩ := Prod.mk.inj h
      rw [Int.toNat_natCast]
      have hok : Ly d1.now (.cut n s) := ⟨q.d, hg, by omega⟩
      have hfew := IY (o := .cut n s) hn64.1 (fun m c e _ => by cases e)
      refine Ad ?_
      refine Af Ag rfl ?_
      refine Ac rfl (.bool false) (fun b w hb hH => Bh rfl rfl rfl (Bu (by omega)) hb) ?_
      refine Af Ag rfl ?_
      refine Ac rfl (.pointer (some ⟨p, 0, none⟩)) (fun b w hb hH => by exact BO rfl rfl hb) ?_
      refine Af Ag rfl ?_
      refine Ac rfl (x.nv) (fun b w hb hH => Bg rfl rfl (Bt Aw rfl) (hH.row 0 rfl) hb) ?_
      refine Af Ag rfl ?_
      refine Ac rfl (Cc x.nv (j * 2)) (fun b w hb hH => BA BH ((hH.rdFs 1 rfl x.rn)) Ar (j := j) hj rfl rfl rfl hb) ?_
      refine Ac rfl (Cc x.nv (j * 2 + 1)) (fun b w hb hH => Lf BH (by decide) ((hH.rdFs 1 rfl x.rn)) (j := j) hj Bw rfl rfl hb) ?_
      refine Ac rfl (.slice q.A q.d.length q.c) (fun b w hb hH => Bp BH (by decide) ((hH.rdFs 1 rfl x.rn)) (j := j) hj C3 (off := 1) rfl rfl rfl hb) ?_
      refine Ac rfl (.int .i64 (q.d.length : Int)) (fun b w hb hH => Gs AC rfl rfl hH hb) ?_
      refine Ac rfl (.bool false) (fun b w hb hH => Bh rfl rfl rfl (BC (by omega)) hb) ?_
      refine Af Ag rfl ?_
      refine Ab (Au rfl (Ax (AG ?_)))
      refine Bf [0, 1, 2, 3] rfl (Ce x hfu hdn) rfl ?_
      refine HF (t := E0) (rfl) ?_
      refine Ad ?_
      refine Af Ag rfl ?_
      refine Ac rfl (.agg #[.int .i64 1, .string (bs n), .string { data := #[] }, .slice none 0 0, .int .i64 (s : Int)]) (fun b w hb hH => AV rfl rfl (by kernel_rfl) hb) ?_
      refine Ai rfl (Am (os' := fun _ => [E0, AA p (Cn d1 (.cut n s))]) [1, 0] 0 (Ah Tryz.func62 (by kernel_rfl) rfl) (Qq (y := ⟨.cut n s, none, 0⟩) hf1 hdn hok hfew Qs (Nat.le_refl 0) (Nat.zero_le _)) rfl rfl rfl (fun _ => rfl) rfl rfl rfl) ?_; rintro ⟨⟩
      refine Ch.leave [0] rfl rfl ?_
      refine Af Ag rfl ?_
      refine Ab (Az ?_)
      exact Ay (.tmp rfl) (fun w h => AB () rfl [0] rfl h Cz) rfl
  · skip
    rw [if_pos (by omega)] at h
    obtain ⟨rfl, rfl⟩ := Prod.mk.inj h
    refine Ad ?_
    refine Af Ag rfl ?_
    refine Ac rfl (.bool true) (fun b w hb hH => Bh rfl rfl rfl (BY (by omega)) hb) ?_
    refine Ab (AD rfl (Ad ?_))
    refine Af Ag rfl ?_
    refine Ab (Az (CO ?_))
    exact Ay (.tmp rfl) (fun w h => AB () rfl [0] rfl h Cz) rfl
theorem Qt {p : Nat} {d d' : DiskD} {n : List UInt8} {e : Nat} (hf : d.fit) (h : Hq d n = (d', e)) : AS Tryz.prog 36 #[.pointer (some ⟨p, 0, none⟩), .string (bs n)] [AA p d] (fun (_ : Unit) => .int .i64 (e : Int)) (fun (_ : Unit) => [AA p d']) := by
  refine A6 (args := [.pointer (some ⟨p, 0, none⟩), .string (bs n)]) 22 Tryz.func36 rfl rfl rfl ?_; intro w rs
  obtain ⟨⟨d1, e1⟩, hb⟩ : ∃ R, Ba d = R := ⟨_, rfl⟩
  have hf1 := Ga hb hf
  unfold Hq at h
  rw [hb] at h; simp only at h
  refine Ad ?_
  refine Af Ag rfl ?_
  refine Ab (Aq (Ad ?_))
  refine Af Ag rfl ?_
  refine Ai rfl (Am (os' := fun _ => [AA p d1]) [0] 0 (Ah Tryz.func30 (by kernel_rfl) rfl) (Ka hb) rfl rfl rfl (fun _ => rfl) rfl rfl rfl) ?_; rintro ⟨⟩
  refine Af Ag rfl ?_
  refine Ab ?_
  rcases Nat.eq_zero_or_pos e1 with he1 | he1
  rcases hg : AL d1.now n with _ | b
  · skip
    subst he1
    rw [if_neg (by simp), hg] at h
    obtain ⟨rfl, rfl⟩ := Prod.mk.inj h
    obtain ⟨hdn, hs1, hw1, hr1⟩ := Et hb
    obtain ⟨fu, hfu⟩ : ∃ fu, d1.fuse.isSome = fu := ⟨_, rfl⟩
    refine Ad ?_
    refine Af Ag rfl ?_
    refine Ac rfl (.bool false) (fun b w hb hH => Bh rfl rfl rfl (AU (by omega)) hb) ?_
    refine Ab (Au rfl (Ax (AG (Aq ?_))))
    refine AY 0 rfl (CX hfu hdn) (fun _ => rfl) ?_; rintro x
    have hn64 := x.now64
    refine Ad ?_
    refine Af Ag rfl ?_
    refine Ac rfl (.pointer (some ⟨p, 0, none⟩)) (fun b w hb hH => by exact BO rfl rfl hb) ?_
    refine Af Ag rfl ?_
    refine Ac rfl (x.nv) (fun b w hb hH => Bg rfl rfl (Bt Aw rfl) (hH.row 0 rfl) hb) ?_
    refine Af Ag rfl ?_
    refine Ai rfl (Am (os' := fun _ => [cell p 59 #[.int .i64 d1.room, x.sv, x.nv, x.wv, .bool fu, .int .i64 x.fz, .bool false], x.F, x.Y, Ao 103 5 encRO x.wv x.W]) [1] 0 (Ah Tryz.func61 (by kernel_rfl) rfl) (Dw x.rn (by omega) (x.no_ hg)) rfl rfl rfl (fun _ => rfl) rfl rfl rfl) ?_; rintro ⟨⟩
    refine Ac rfl (.bool true) (fun b w hb hH => Bh rfl rfl rfl (Bl (by omega)) hb) ?_
    refine Ab (AD rfl ?_)
    refine Bf [0, 1, 2, 3] rfl (Ce x hfu hdn) rfl ?_
    refine Ad ?_
    refine Af Ag rfl ?_
    refine Ab (Az (CO ?_))
    exact Ay (.tmp rfl) (fun w h => AB () rfl [0] rfl h Cz) rfl
  · skip
    subst he1
    rw [if_neg (by simp), hg] at h
    obtain ⟨rfl, rfl⟩ := Prod.mk.inj h
    obtain ⟨hdn, hs1, hw1, hr1⟩ := Et hb
    obtain ⟨fu, hfu⟩ : ∃ fu, d1.fuse.isSome = fu := ⟨_, rfl⟩
    refine Ad ?_
    refine Af Ag rfl ?_
    refine Ac rfl (.bool false) (fun b w hb hH => Bh rfl rfl rfl (AU (by omega)) hb) ?_
    refine Ab (Au rfl (Ax (AG (Aq ?_))))
    refine AY 0 rfl (CX hfu hdn) (fun _ => rfl) ?_; rintro x
    have hn64 := x.now64
    obtain ⟨j, q, hj, hq, hlt, hqb, hm⟩ := x.yes_ hg
    subst hqb
    have hok : Ly d1.now (.del n) := trivial
    have hfew := IY (o := .del n) hn64.1 (fun m c e _ => by cases e)
    refine Ad ?_
    refine Af Ag rfl ?_
    refine Ac rfl (.pointer (some ⟨p, 0, none⟩)) (fun b w hb hH => by exact BO rfl rfl hb) ?_
    refine Af Ag rfl ?_
    refine Ac rfl (x.nv) (fun b w hb hH => Bg rfl rfl (Bt Aw rfl) (hH.row 0 rfl) hb) ?_
    refine Af Ag rfl ?_
    refine Ai rfl (Am (os' := fun _ => [cell p 59 #[.int .i64 d1.room, x.sv, x.nv, x.wv, .bool fu, .int .i64 x.fz, .bool false], x.F, x.Y, Ao 103 5 encRO x.wv x.W]) [1] 0 (Ah Tryz.func61 (by kernel_rfl) rfl) (C6 x.rn (by omega) hj hq hlt) rfl rfl rfl (fun _ => rfl) rfl rfl rfl) ?_; rintro ⟨⟩
    refine Ac rfl (.bool false) (fun b w hb hH => Bh rfl rfl rfl (Bu (by omega)) hb) ?_
    refine Ab (Au rfl (Ax (AG ?_)))
    refine Bf [0, 1, 2, 3] rfl (Ce x hfu hdn) rfl ?_
    refine HF (t := E0) (rfl) ?_
    refine Ad ?_
    refine Af Ag rfl ?_
    refine Ac rfl (.agg #[.int .i64 3, .string (bs n), .string { data := #[] }, .slice none 0 0, .int .i64 0]) (fun b w hb hH => AV rfl rfl (by kernel_rfl) hb) ?_
    refine Ai rfl (Am (os' := fun _ => [E0, AA p (Cn d1 (.del n))]) [1, 0] 0 (Ah Tryz.func62 (by kernel_rfl) rfl) (Qq (y := ⟨.del n, none, 0⟩) hf1 hdn hok hfew Qs (Nat.le_refl 0) (Nat.zero_le _)) rfl rfl rfl (fun _ => rfl) rfl rfl rfl) ?_; rintro ⟨⟩
    refine Ch.leave [0] rfl rfl ?_
    refine Af Ag rfl ?_
    refine Ab (Az ?_)
    exact Ay (.tmp rfl) (fun w h => AB () rfl [0] rfl h Cz) rfl
  · skip
    rw [if_pos (by omega)] at h
    obtain ⟨rfl, rfl⟩ := Prod.mk.inj h
    refine Ad ?_
    refine Af Ag rfl ?_
    refine Ac rfl (.bool true) (fun b w hb hH => Bh rfl rfl rfl (BY (by omega)) hb) ?_
    refine Ab (AD rfl (Ad ?_))
    refine Af Ag rfl ?_
    refine Ab (Az (CO ?_))
    exact Ay (.tmp rfl) (fun w h => AB () rfl [0] rfl h Cz) rfl
def RDk.sync {d : DiskD} (x : RDk d) : RDk { d with syn := d.now, wait := [] } where
  F := x.F
  Y := x.Y
  sv := x.nv
  nv := x.nv
  wv := .slice none 0 0
  sl := x.nl
  nl := x.nl
  W := []
  fz := x.fz
  hs := x.hn
  hn := x.hn
  ps := x.pn
  pn := x.pn
  hW := rfl
  rs := x.rn
  rn := x.rn
  ys := x.yn
  yn := x.yn
  yw := fun q h => nomatch h
  yc := fun q h => nomatch h
  hok := trivial
  few := fun k => by rw [List.take_nil]; exact x.now64.1
  hz := x.hz
  zr := x.zr
  nc := x.nc
  sc := x.nc
theorem Tw {p : Nat} {d : DiskD} (x : RDk d) {fu dn : Bool} (hfu : d.fuse.isSome = fu) (hdn : d.down = dn) : ∀ rs, Al [cell p 59 #[.int .i64 d.room, x.nv, x.nv, .slice none 0 0, .bool fu, .int .i64 x.fz, .bool dn], x.F, x.Y] rs → AA p { d with syn := d.now, wait := [] } rs := fun rs h => ⟨x.sync, by
 subst hfu; subst hdn
 obtain ⟨r1, _, rfl, h1, r2, _, rfl, h2, r3, _, rfl, h3, rfl⟩ := h
 exact ⟨r1, _, rfl, h1, r2, _, rfl, h2, r3, [], by simp, h3, [], [], rfl, IX, rfl⟩⟩
theorem UP {p : Nat} {d d' : DiskD} {e : Nat} (hf : d.fit) (h : Ge d = (d', e)) : AS Tryz.prog 10 #[.pointer (some ⟨p, 0, none⟩)] [AA p d] (fun (_ : Unit) => .int .i64 (e : Int)) (fun (_ : Unit) => [AA p d']) := by
  refine A6 (args := [.pointer (some ⟨p, 0, none⟩)]) 19 Tryz.func10 rfl rfl rfl ?_; intro w rs
  obtain ⟨⟨d1, e1⟩, hb⟩ : ∃ R, Ba d = R := ⟨_, rfl⟩
  have hf1 := Ga hb hf
  unfold Ge at h
  rw [hb] at h; simp only at h
  refine Ad ?_
  refine Af Ag rfl ?_
  refine Ab (Aq (Ad ?_))
  refine Af Ag rfl ?_
  refine Ai rfl (Am (os' := fun _ => [AA p d1]) [0] 0 (Ah Tryz.func30 (by kernel_rfl) rfl) (Ka hb) rfl rfl rfl (fun _ => rfl) rfl rfl rfl) ?_; rintro ⟨⟩
  refine Af Ag rfl ?_
  refine Ab ?_
  rcases Nat.eq_zero_or_pos e1 with he1 | he1
  · skip
    subst he1
    rw [if_neg (by simp)] at h
    obtain ⟨rfl, rfl⟩ := Prod.mk.inj h
    obtain ⟨hdn, hs1, hw1, hr1⟩ := Et hb
    obtain ⟨fu, hfu⟩ : ∃ fu, d1.fuse.isSome = fu := ⟨_, rfl⟩
    refine Ad ?_
    refine Af Ag rfl ?_
    refine Ac rfl (.bool false) (fun b w hb hH => Bh rfl rfl rfl (AU (by omega)) hb) ?_
    refine Ab (Au rfl (Ax (AG ?_)))
    refine AY 0 rfl (CX hfu hdn) (fun _ => rfl) ?_; rintro x
    refine Ad ?_
    refine Af Ag rfl ?_
    refine Ac rfl (.pointer (some ⟨p, 0, none⟩)) (fun b w hb hH => by exact BO rfl rfl hb) ?_
    refine Af Ag rfl ?_
    refine Ac rfl (x.nv) (fun b w hb hH => Bg rfl rfl (Bt Aw rfl) (hH.row 0 rfl) hb) ?_
    refine Ac rfl (.pointer (some ⟨p, 0, none⟩)) (fun b w hb hH => by exact BO rfl rfl hb) ?_
    refine Af Ag rfl ?_
    refine AT (post := fun _ => [cell p 59 #[.int .i64 d1.room, x.nv, x.nv, x.wv, .bool fu, .int .i64 x.fz, .bool false], x.F, x.Y, Ao 103 5 encRO x.wv x.W]) rfl rfl (Gq 0 1 (v := x.nv) #[.int .i64 d1.room, x.nv, x.nv, x.wv, .bool fu, .int .i64 x.fz, .bool false] Aw.2 rfl (fun _ h => (fun _ => x.nc) h) rfl rfl rfl rfl rfl rfl rfl) ?_; rintro ⟨⟩
    refine Ab (Ad ?_)
    refine Af Ag rfl ?_
    refine Ac rfl (.pointer (some ⟨p, 0, none⟩)) (fun b w hb hH => by exact BO rfl rfl hb) ?_
    refine Af Ag rfl ?_
    refine AT (post := fun _ => [cell p 59 #[.int .i64 d1.room, x.nv, x.nv, .slice none 0 0, .bool fu, .int .i64 x.fz, .bool false], x.F, x.Y, Ao 103 5 encRO x.wv x.W]) rfl rfl (AM 0 (v := .slice none 0 0) #[.int .i64 d1.room, x.nv, x.nv, .slice none 0 0, .bool fu, .int .i64 x.fz, .bool false] Ck.2 rfl rfl rfl rfl rfl rfl rfl rfl rfl) ?_; rintro ⟨⟩
    refine Ab ?_
    refine Bf [0, 1, 2] rfl (Tw x hfu hdn) rfl ?_
    refine Ad ?_
    refine Af Ag rfl ?_
    refine Ab (Az ?_)
    exact Ay (.tmp rfl) (fun w h => AB () rfl [0] rfl h Cz) rfl
  · skip
    rw [if_pos (by omega)] at h
    obtain ⟨rfl, rfl⟩ := Prod.mk.inj h
    refine Ad ?_
    refine Af Ag rfl ?_
    refine Ac rfl (.bool true) (fun b w hb hH => Bh rfl rfl rfl (BY (by omega)) hb) ?_
    refine Ab (AD rfl (Ad ?_))
    refine Af Ag rfl ?_
    refine Ab (Az (CO ?_))
    exact Ay (.tmp rfl) (fun w h => AB () rfl [0] rfl h Cz) rfl
end Go.Proofs.YtnknboibmifacaaGreat.Sep
