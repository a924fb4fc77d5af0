/-
  RdkG
-/
import Derived.Test.YtjcfimmcogkopaaGreatPP02
set_option linter.unusedSimpArgs false
set_option linter.unusedVariables false
set_option maxRecDepth 100000
namespace Go.Proofs.YtjcfimmcogkopaaGreat.Sep
open Go.RowKit
open Go.Proofs.YtjcfimmcogkopaaGreat.Mem (Bh Cs Chg AA)
theorem RE : CO DN (.slice none 0 0) [] := fun rs w h1 h2 => Q0 w
theorem Wc {p : Nat} {d d' : DiskD} {n m : List UInt8} {e : Nat} (hf : d.fit) (hml : m.length ≤ 9223372036854775807) (h : Ie d n m = (d', e)) : AX Tryz.prog 52 #[.pointer (some ⟨p, 0, none⟩), .string (bs n), .string (bs m)] [An p d] (fun (_ : Unit) => .int .i64 (e : Int)) (fun (_ : Unit) => [An p d']) := by
 refine Bg (args := [.pointer (some ⟨p, 0, none⟩), .string (bs n), .string (bs m)]) 28 Tryz.func52 rfl rfl rfl ?_; intro w rs
 obtain ⟨⟨d1, e1⟩, hb⟩ : ∃ R, Bv d = R := ⟨_, rfl⟩
 have hf1 := GP hb hf
 unfold Ie at h
 rw [hb] at h; simp only at h
 refine Ad (Ae Ah rfl (Ab (Av (Ad (Ae Ah rfl (Aj rfl (Ak (os' := fun _ => [An p d1]) [0] 0 (Ai Tryz.func32 (by kernel_rfl) rfl) (KF hb) rfl rfl rfl (fun _ => rfl) rfl rfl rfl) ?_)))))); rintro ⟨⟩
 refine Ae Ah rfl (Ab ?_)
 rcases Nat.eq_zero_or_pos e1 with he1 | he1
 rcases hnm : CI m with _ | _
 rotate_left
 rcases hg : AS d1.now n with _ | b
 subst he1
 rw [if_neg (by simp), if_neg (by simp [hnm]), hg] at h
 obtain ⟨rfl, rfl⟩ := Prod.mk.inj h
 obtain ⟨hdn, hs1, hw1, hr1⟩ := EY hb
 obtain ⟨fu, hfu⟩ : ∃ fu, d1.fuse.isSome = fu := ⟨_, rfl⟩
 refine Ad (Ae Ah rfl (Aa rfl (.bool false) (fun b w hb hH => AZ rfl rfl rfl (AP (by omega)) hb) (Ab (As rfl (AB (AL (Av (Ad (Ae Ah rfl (Aj (post := fun _ => [An p d1]) rfl (AU (Ai Tryz.func65 (by kernel_rfl) rfl) (fun w hH => ME w m true hnm (by omega)) rfl rfl rfl) ?_)))))))))); rintro ⟨⟩
 refine Ae Ah rfl (Ab (As rfl (AB (AL (Av (Be 0 rfl (CS hfu hdn) (fun _ => rfl) ?_)))))); rintro x
 have hn64 := x.now64
 refine Ad (Ae Ah rfl (Aa rfl (.pointer (some ⟨p, 0, none⟩)) (fun b w hb hH => by exact BD rfl rfl hb) (Ae Ah rfl (Aa rfl (x.nv) (fun b w hb hH => Ba rfl rfl (Bm Ap rfl) (hH.row 0 rfl) hb) (Ae Ah rfl (Aj rfl (Ak (os' := fun _ => [cell p 61 #[.int .i64 d1.room, x.sv, x.nv, x.wv, .bool fu, .int .i64 x.fz, .bool false], x.F, x.Y, Ar 107 5 encRO x.wv x.W]) [1] 0 (Ai Tryz.func66 (by kernel_rfl) rfl) (DK x.rn (by omega) (x.no_ hg)) rfl rfl rfl (fun _ => rfl) rfl rfl rfl) ?_)))))); rintro ⟨⟩
 refine Aa rfl (.bool true) (fun b w hb hH => AZ rfl rfl rfl (Bw (by omega)) hb) (Ab (AI rfl (Bi [0, 1, 2, 3] rfl (CD x hfu hdn) rfl (Ad (Ae Ah rfl (Ab (Ax (C4 ?_))))))))
 exact Aw (.tmp rfl) (fun w h => AH () rfl [0] rfl h CK) rfl
 subst he1
 rw [if_neg (by simp), if_neg (by simp [hnm]), hg] at h
 obtain ⟨rfl, rfl⟩ := Prod.mk.inj h
 obtain ⟨hdn, hs1, hw1, hr1⟩ := EY hb
 obtain ⟨fu, hfu⟩ : ∃ fu, d1.fuse.isSome = fu := ⟨_, rfl⟩
 refine Ad (Ae Ah rfl (Aa rfl (.bool false) (fun b w hb hH => AZ rfl rfl rfl (AP (by omega)) hb) (Ab (As rfl (AB (AL (Av (Ad (Ae Ah rfl (Aj (post := fun _ => [An p d1]) rfl (AU (Ai Tryz.func65 (by kernel_rfl) rfl) (fun w hH => ME w m true hnm (by omega)) rfl rfl rfl) ?_)))))))))); rintro ⟨⟩
 refine Ae Ah rfl (Ab (As rfl (AB (AL (Av (Be 0 rfl (CS hfu hdn) (fun _ => rfl) ?_)))))); rintro x
 have hn64 := x.now64
 obtain ⟨j, q, hj, hq, hlt, hqb, hm⟩ := x.yes_ hg
 subst hqb
 have hok : L2 d1.now (.ren n m) := ⟨⟨_, hg⟩, hnm⟩
 have hfew := Jy (o := .ren n m) hn64.1 (fun m c e _ => by cases e)
 refine Ad (Ae Ah rfl (Aa rfl (.pointer (some ⟨p, 0, none⟩)) (fun b w hb hH => by exact BD rfl rfl hb) (Ae Ah rfl (Aa rfl (x.nv) (fun b w hb hH => Ba rfl rfl (Bm Ap rfl) (hH.row 0 rfl) hb) (Ae Ah rfl (Aj rfl (Ak (os' := fun _ => [cell p 61 #[.int .i64 d1.room, x.sv, x.nv, x.wv, .bool fu, .int .i64 x.fz, .bool false], x.F, x.Y, Ar 107 5 encRO x.wv x.W]) [1] 0 (Ai Tryz.func66 (by kernel_rfl) rfl) (Dv x.rn (by omega) hj hq hlt) rfl rfl rfl (fun _ => rfl) rfl rfl rfl) ?_)))))); rintro ⟨⟩
 refine Aa rfl (.bool false) (fun b w hb hH => AZ rfl rfl rfl (BS (by omega)) hb) (Ab (As rfl (AB (AL (Bi [0, 1, 2, 3] rfl (CD x hfu hdn) rfl (Gh (t := DN) (rfl) (Ad (Ae Ah rfl (Aa rfl (.agg #[.int .i64 2, .string (bs n), .string (bs m), .slice none 0 0, .int .i64 0]) (fun b w hb hH => Bn rfl rfl (by kernel_rfl) hb) (Aj rfl (Ak (os' := fun _ => [DN, An p (Cp d1 (.ren n m))]) [1, 0] 0 (Ai Tryz.func67 (by kernel_rfl) rfl) (RB (y := ⟨.ren n m, none, 0⟩) hf1 hdn hok hfew RE (Nat.le_refl 0) (Nat.zero_le _)) rfl rfl rfl (fun _ => rfl) rfl rfl rfl) ?_)))))))))); rintro ⟨⟩
 refine Cf.leave [0] rfl rfl (Ae Ah rfl (Ab (Ax ?_)))
 exact Aw (.tmp rfl) (fun w h => AH () rfl [0] rfl h CK) rfl
 rw [if_pos (by omega)] at h
 obtain ⟨rfl, rfl⟩ := Prod.mk.inj h
 refine Ad (Ae Ah rfl (Aa rfl (.bool true) (fun b w hb hH => AZ rfl rfl rfl (BO (by omega)) hb) (Ab (AI rfl (Ad (Ae Ah rfl (Ab (Ax (C4 ?_)))))))))
 exact Aw (.tmp rfl) (fun w h => AH () rfl [0] rfl h CK) rfl
 subst he1
 rw [if_neg (by simp), if_pos hnm] at h
 obtain ⟨rfl, rfl⟩ := Prod.mk.inj h
 refine Ad (Ae Ah rfl (Aa rfl (.bool false) (fun b w hb hH => AZ rfl rfl rfl (AP (by omega)) hb) (Ab (As rfl (AB (AL (Av (Ad (Ae Ah rfl (Aj (post := fun _ => [An p d1]) rfl (AU (Ai Tryz.func65 (by kernel_rfl) rfl) (fun w hH => ME w m false hnm (by omega)) rfl rfl rfl) ?_)))))))))); rintro ⟨⟩
 refine Ae Ah rfl (Ab (AI rfl (Ad (Ae Ah rfl (Ab (Ax (C4 ?_)))))))
 exact Aw (.tmp rfl) (fun w h => AH () rfl [0] rfl h CK) rfl
theorem Jz {p : Nat} {d d' : DiskD} {n : List UInt8} {e : Nat} (hf : d.fit) (h : Fp d n = (d', e)) : AX Tryz.prog 37 #[.pointer (some ⟨p, 0, none⟩), .string (bs n)] [An p d] (fun (_ : Unit) => .int .i64 (e : Int)) (fun (_ : Unit) => [An p d']) := by
 refine Bg (args := [.pointer (some ⟨p, 0, none⟩), .string (bs n)]) 22 Tryz.func37 rfl rfl rfl ?_; intro w rs
 obtain ⟨⟨d1, e1⟩, hb⟩ : ∃ R, Bv d = R := ⟨_, rfl⟩
 have hf1 := GP hb hf
 unfold Fp at h
 rw [hb] at h; simp only at h
 refine Ad (Ae Ah rfl (Ab (Av (Ad (Ae Ah rfl (Aj rfl (Ak (os' := fun _ => [An p d1]) [0] 0 (Ai Tryz.func32 (by kernel_rfl) rfl) (KF hb) rfl rfl rfl (fun _ => rfl) rfl rfl rfl) ?_)))))); rintro ⟨⟩
 refine Ae Ah rfl (Ab ?_)
 rcases Nat.eq_zero_or_pos e1 with he1 | he1
 rcases hg : AS d1.now n with _ | b
 subst he1
 rw [if_neg (by simp), hg] at h
 obtain ⟨rfl, rfl⟩ := Prod.mk.inj h
 obtain ⟨hdn, hs1, hw1, hr1⟩ := EY hb
 obtain ⟨fu, hfu⟩ : ∃ fu, d1.fuse.isSome = fu := ⟨_, rfl⟩
 refine Ad (Ae Ah rfl (Aa rfl (.bool false) (fun b w hb hH => AZ rfl rfl rfl (AP (by omega)) hb) (Ab (As rfl (AB (AL (Av (Be 0 rfl (CS hfu hdn) (fun _ => rfl) ?_)))))))); rintro x
 have hn64 := x.now64
 refine Ad (Ae Ah rfl (Aa rfl (.pointer (some ⟨p, 0, none⟩)) (fun b w hb hH => by exact BD rfl rfl hb) (Ae Ah rfl (Aa rfl (x.nv) (fun b w hb hH => Ba rfl rfl (Bm Ap rfl) (hH.row 0 rfl) hb) (Ae Ah rfl (Aj rfl (Ak (os' := fun _ => [cell p 61 #[.int .i64 d1.room, x.sv, x.nv, x.wv, .bool fu, .int .i64 x.fz, .bool false], x.F, x.Y, Ar 107 5 encRO x.wv x.W]) [1] 0 (Ai Tryz.func66 (by kernel_rfl) rfl) (DK x.rn (by omega) (x.no_ hg)) rfl rfl rfl (fun _ => rfl) rfl rfl rfl) ?_)))))); rintro ⟨⟩
 refine Aa rfl (.bool true) (fun b w hb hH => AZ rfl rfl rfl (Bw (by omega)) hb) (Ab (AI rfl (Bi [0, 1, 2, 3] rfl (CD x hfu hdn) rfl (Ad (Ae Ah rfl (Ab (Ax (C4 ?_))))))))
 exact Aw (.tmp rfl) (fun w h => AH () rfl [0] rfl h CK) rfl
 subst he1
 rw [if_neg (by simp), hg] at h
 obtain ⟨rfl, rfl⟩ := Prod.mk.inj h
 obtain ⟨hdn, hs1, hw1, hr1⟩ := EY hb
 obtain ⟨fu, hfu⟩ : ∃ fu, d1.fuse.isSome = fu := ⟨_, rfl⟩
 refine Ad (Ae Ah rfl (Aa rfl (.bool false) (fun b w hb hH => AZ rfl rfl rfl (AP (by omega)) hb) (Ab (As rfl (AB (AL (Av (Be 0 rfl (CS hfu hdn) (fun _ => rfl) ?_)))))))); rintro x
 have hn64 := x.now64
 obtain ⟨j, q, hj, hq, hlt, hqb, hm⟩ := x.yes_ hg
 subst hqb
 have hok : L2 d1.now (.del n) := trivial
 have hfew := Jy (o := .del n) hn64.1 (fun m c e _ => by cases e)
 refine Ad (Ae Ah rfl (Aa rfl (.pointer (some ⟨p, 0, none⟩)) (fun b w hb hH => by exact BD rfl rfl hb) (Ae Ah rfl (Aa rfl (x.nv) (fun b w hb hH => Ba rfl rfl (Bm Ap rfl) (hH.row 0 rfl) hb) (Ae Ah rfl (Aj rfl (Ak (os' := fun _ => [cell p 61 #[.int .i64 d1.room, x.sv, x.nv, x.wv, .bool fu, .int .i64 x.fz, .bool false], x.F, x.Y, Ar 107 5 encRO x.wv x.W]) [1] 0 (Ai Tryz.func66 (by kernel_rfl) rfl) (Dv x.rn (by omega) hj hq hlt) rfl rfl rfl (fun _ => rfl) rfl rfl rfl) ?_)))))); rintro ⟨⟩
 refine Aa rfl (.bool false) (fun b w hb hH => AZ rfl rfl rfl (BS (by omega)) hb) (Ab (As rfl (AB (AL (Bi [0, 1, 2, 3] rfl (CD x hfu hdn) rfl (Gh (t := DN) (rfl) (Ad (Ae Ah rfl (Aa rfl (.agg #[.int .i64 3, .string (bs n), .string { data := #[] }, .slice none 0 0, .int .i64 0]) (fun b w hb hH => Bn rfl rfl (by kernel_rfl) hb) (Aj rfl (Ak (os' := fun _ => [DN, An p (Cp d1 (.del n))]) [1, 0] 0 (Ai Tryz.func67 (by kernel_rfl) rfl) (RB (y := ⟨.del n, none, 0⟩) hf1 hdn hok hfew RE (Nat.le_refl 0) (Nat.zero_le _)) rfl rfl rfl (fun _ => rfl) rfl rfl rfl) ?_)))))))))); rintro ⟨⟩
 refine Cf.leave [0] rfl rfl (Ae Ah rfl (Ab (Ax ?_)))
 exact Aw (.tmp rfl) (fun w h => AH () rfl [0] rfl h CK) rfl
 rw [if_pos (by omega)] at h
 obtain ⟨rfl, rfl⟩ := Prod.mk.inj h
 refine Ad (Ae Ah rfl (Aa rfl (.bool true) (fun b w hb hH => AZ rfl rfl rfl (BO (by omega)) hb) (Ab (AI rfl (Ad (Ae Ah rfl (Ab (Ax (C4 ?_)))))))))
 exact Aw (.tmp rfl) (fun w h => AH () rfl [0] rfl h CK) rfl
def RDk.sync {d : DiskD} (x : RDk d) : RDk { d with syn := d.now, wait := [] } where
  F := x.F
  Y := x.Y
  sv := x.nv
  nv := x.nv
  wv := .slice none 0 0
  sl := x.nl
  nl := x.nl
  W := []
  fz := x.fz
  hs := x.hn
  hn := x.hn
  ps := x.pn
  pn := x.pn
  hW := rfl
  rs := x.rn
  rn := x.rn
  ys := x.yn
  yn := x.yn
  yw := fun q h => nomatch h
  yc := fun q h => nomatch h
  hok := trivial
  few := fun k => by rw [List.take_nil]; exact x.now64.1
  hz := x.hz
  zr := x.zr
  nc := x.nc
  sc := x.nc
theorem UU {p : Nat} {d : DiskD} (x : RDk d) {fu dn : Bool} (hfu : d.fuse.isSome = fu) (hdn : d.down = dn) : ∀ rs, Al [cell p 61 #[.int .i64 d.room, x.nv, x.nv, .slice none 0 0, .bool fu, .int .i64 x.fz, .bool dn], x.F, x.Y] rs → An p { d with syn := d.now, wait := [] } rs := fun rs h => ⟨x.sync, by
 subst hfu; subst hdn
 obtain ⟨r1, _, rfl, h1, r2, _, rfl, h2, r3, _, rfl, h3, rfl⟩ := h
 exact ⟨r1, _, rfl, h1, r2, _, rfl, h2, r3, [], by simp, h3, [], [], rfl, Gs, rfl⟩⟩
theorem RF {p : Nat} {d d' : DiskD} {e : Nat} (hf : d.fit) (h : E5 d = (d', e)) : AX Tryz.prog 10 #[.pointer (some ⟨p, 0, none⟩)] [An p d] (fun (_ : Unit) => .int .i64 (e : Int)) (fun (_ : Unit) => [An p d']) := by
 refine Bg (args := [.pointer (some ⟨p, 0, none⟩)]) 19 Tryz.func10 rfl rfl rfl ?_; intro w rs
 obtain ⟨⟨d1, e1⟩, hb⟩ : ∃ R, Bv d = R := ⟨_, rfl⟩
 have hf1 := GP hb hf
 unfold E5 at h
 rw [hb] at h; simp only at h
 refine Ad (Ae Ah rfl (Ab (Av (Ad (Ae Ah rfl (Aj rfl (Ak (os' := fun _ => [An p d1]) [0] 0 (Ai Tryz.func32 (by kernel_rfl) rfl) (KF hb) rfl rfl rfl (fun _ => rfl) rfl rfl rfl) ?_)))))); rintro ⟨⟩
 refine Ae Ah rfl (Ab ?_)
 rcases Nat.eq_zero_or_pos e1 with he1 | he1
 subst he1
 rw [if_neg (by simp)] at h
 obtain ⟨rfl, rfl⟩ := Prod.mk.inj h
 obtain ⟨hdn, hs1, hw1, hr1⟩ := EY hb
 obtain ⟨fu, hfu⟩ : ∃ fu, d1.fuse.isSome = fu := ⟨_, rfl⟩
 refine Ad (Ae Ah rfl (Aa rfl (.bool false) (fun b w hb hH => AZ rfl rfl rfl (AP (by omega)) hb) (Ab (As rfl (AB (AL (Be 0 rfl (CS hfu hdn) (fun _ => rfl) ?_))))))); rintro x
 refine Ad (Ae Ah rfl (Aa rfl (.pointer (some ⟨p, 0, none⟩)) (fun b w hb hH => by exact BD rfl rfl hb) (Ae Ah rfl (Aa rfl (x.nv) (fun b w hb hH => Ba rfl rfl (Bm Ap rfl) (hH.row 0 rfl) hb) (Aa rfl (.pointer (some ⟨p, 0, none⟩)) (fun b w hb hH => by exact BD rfl rfl hb) (Ae Ah rfl (AF (post := fun _ => [cell p 61 #[.int .i64 d1.room, x.nv, x.nv, x.wv, .bool fu, .int .i64 x.fz, .bool false], x.F, x.Y, Ar 107 5 encRO x.wv x.W]) rfl rfl (Cv 0 1 (v := x.nv) #[.int .i64 d1.room, x.nv, x.nv, x.wv, .bool fu, .int .i64 x.fz, .bool false] Ap.2 rfl (fun _ h => (fun _ => x.nc) h) rfl rfl rfl rfl rfl rfl rfl) ?_))))))); rintro ⟨⟩
 refine Ab (Ad (Ae Ah rfl (Aa rfl (.pointer (some ⟨p, 0, none⟩)) (fun b w hb hH => by exact BD rfl rfl hb) (Ae Ah rfl (AF (post := fun _ => [cell p 61 #[.int .i64 d1.room, x.nv, x.nv, .slice none 0 0, .bool fu, .int .i64 x.fz, .bool false], x.F, x.Y, Ar 107 5 encRO x.wv x.W]) rfl rfl (AE 0 (v := .slice none 0 0) #[.int .i64 d1.room, x.nv, x.nv, .slice none 0 0, .bool fu, .int .i64 x.fz, .bool false] AM.2 rfl rfl rfl rfl rfl rfl rfl rfl rfl) ?_))))); rintro ⟨⟩
 refine Ab (Bi [0, 1, 2] rfl (UU x hfu hdn) rfl (Ad (Ae Ah rfl (Ab (Ax ?_)))))
 exact Aw (.tmp rfl) (fun w h => AH () rfl [0] rfl h CK) rfl
 rw [if_pos (by omega)] at h
 obtain ⟨rfl, rfl⟩ := Prod.mk.inj h
 refine Ad (Ae Ah rfl (Aa rfl (.bool true) (fun b w hb hH => AZ rfl rfl rfl (BO (by omega)) hb) (Ab (AI rfl (Ad (Ae Ah rfl (Ab (Ax (C4 ?_)))))))))
 exact Aw (.tmp rfl) (fun w h => AH () rfl [0] rfl h CK) rfl
theorem X8 {p : Nat} {d d' : DiskD} {n : Int} (hn : -9223372036854775808 ≤ n ∧ n ≤ 9223372036854775807) (h : FI d n = d') : AX Tryz.prog 27 #[.pointer (some ⟨p, 0, none⟩), .int .i64 n] [An p d] (fun (_ : Unit) => .tuple #[]) (fun (_ : Unit) => [An p d']) := by
  refine Bg (args := [.pointer (some ⟨p, 0, none⟩), .int .i64 n]) 14 Tryz.func27 rfl rfl rfl ?_; intro w rs
  subst h
  obtain ⟨fu, hfu⟩ : ∃ fu, d.fuse.isSome = fu := ⟨_, rfl⟩
  obtain ⟨dn, hdn⟩ : ∃ dn, d.down = dn := ⟨_, rfl⟩
  rcases Classical.em (0 ≤ n) with h0 | h0
  obtain ⟨k, rfl⟩ : ∃ k : Nat, n = (k : Int) := ⟨n.toNat, by omega⟩
  have hfd : FI d (k : Int) = { d with fuse := some k } := by unfold FI; rw [if_pos h0]; rfl
  rw [hfd]
  refine Be 0 rfl (CS hfu hdn) (fun _ => rfl) ?_; rintro x
  refine Ad (Ae Ah rfl (Aa rfl (.bool true) (fun b w hb hH => AZ rfl rfl rfl (B1 (by omega)) hb) (Aa rfl (.pointer (some ⟨p, 0, none⟩)) (fun b w hb hH => by exact BD rfl rfl hb) (Ae Ah rfl (AF (post := fun _ => [cell p 61 #[.int .i64 d.room, x.sv, x.nv, x.wv, .bool true, .int .i64 x.fz, .bool dn], x.F, x.Y, Ar 107 5 encRO x.wv x.W]) rfl rfl (AE 0 (v := .bool true) #[.int .i64 d.room, x.sv, x.nv, x.wv, .bool true, .int .i64 x.fz, .bool dn] Bt.2 rfl rfl rfl rfl rfl rfl rfl rfl rfl) ?_))))); rintro ⟨⟩
  refine Ab (Bp (Ae Ah rfl (Aa rfl (.int .i64 (k : Int)) (fun b w hb hH => BV rfl rfl (fun cs => (fun w cs => KO (by omega) _ _ w cs) w cs) hb) (Aa rfl (.pointer (some ⟨p, 0, none⟩)) (fun b w hb hH => by exact BD rfl rfl hb) (Ae Ah rfl (AF (post := fun _ => [cell p 61 #[.int .i64 d.room, x.sv, x.nv, x.wv, .bool true, .int .i64 (k : Int), .bool dn], x.F, x.Y, Ar 107 5 encRO x.wv x.W]) rfl rfl (AE 0 (v := .int .i64 (k : Int)) #[.int .i64 d.room, x.sv, x.nv, x.wv, .bool true, .int .i64 (k : Int), .bool dn] Bc.2 rfl rfl rfl rfl rfl rfl rfl rfl rfl) ?_)))))); rintro ⟨⟩
  refine AV ?_
  exact CQ  (fun w h => AH (X := Unit) () rfl [0, 1, 2, 3] rfl h (fun z hz => ⟨z, .refl _, Al.one (Gt (d' := { d with fuse := some k }) x rfl rfl rfl rfl hdn (fun q hq => by cases hq; rfl) (by omega) z hz)⟩)) rfl
  have hfd : FI d n = { d with fuse := none } := by unfold FI; rw [if_neg h0]
  rw [hfd]
  refine Be 0 rfl (CS hfu hdn) (fun _ => rfl) ?_; rintro x
  refine Ad (Ae Ah rfl (Aa rfl (.bool false) (fun b w hb hH => AZ rfl rfl rfl (C6 (by omega)) hb) (Aa rfl (.pointer (some ⟨p, 0, none⟩)) (fun b w hb hH => by exact BD rfl rfl hb) (Ae Ah rfl (AF (post := fun _ => [cell p 61 #[.int .i64 d.room, x.sv, x.nv, x.wv, .bool false, .int .i64 x.fz, .bool dn], x.F, x.Y, Ar 107 5 encRO x.wv x.W]) rfl rfl (AE 0 (v := .bool false) #[.int .i64 d.room, x.sv, x.nv, x.wv, .bool false, .int .i64 x.fz, .bool dn] Bt.2 rfl rfl rfl rfl rfl rfl rfl rfl rfl) ?_))))); rintro ⟨⟩
  refine Ab (Bp (Ae Ah rfl (Aa rfl (.int .i64 0) (fun b w hb hH => BV rfl rfl (fun cs => (fun w cs => KO (by omega) _ _ w cs) w cs) hb) (Aa rfl (.pointer (some ⟨p, 0, none⟩)) (fun b w hb hH => by exact BD rfl rfl hb) (Ae Ah rfl (AF (post := fun _ => [cell p 61 #[.int .i64 d.room, x.sv, x.nv, x.wv, .bool false, .int .i64 0, .bool dn], x.F, x.Y, Ar 107 5 encRO x.wv x.W]) rfl rfl (AE 0 (v := .int .i64 0) #[.int .i64 d.room, x.sv, x.nv, x.wv, .bool false, .int .i64 0, .bool dn] Bc.2 rfl rfl rfl rfl rfl rfl rfl rfl rfl) ?_)))))); rintro ⟨⟩
  refine AV ?_
  exact CQ  (fun w h => AH (X := Unit) () rfl [0, 1, 2, 3] rfl h (fun z hz => ⟨z, .refl _, Al.one (Gt (d' := { d with fuse := none }) x rfl rfl rfl rfl hdn (fun q hq => nomatch hq) (by decide) z hz)⟩)) rfl
end Go.Proofs.YtjcfimmcogkopaaGreat.Sep
