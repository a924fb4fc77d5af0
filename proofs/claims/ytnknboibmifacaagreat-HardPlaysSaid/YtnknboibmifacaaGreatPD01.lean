/-
  DskE · DskG
-/
import Derived.Test.YtnknboibmifacaaGreatPB03
import Derived.Test.YtnknboibmifacaaGreatPC02
set_option linter.unusedSimpArgs false
set_option linter.unusedVariables false
set_option maxRecDepth 100000
namespace Go.Proofs.YtnknboibmifacaaGreat.Sep
open Go.RowKit
open Go.Proofs.YtnknboibmifacaaGreat.Mem (Bl Co Chg AG)
theorem SW {p : Nat} {d : DiskD} (hd : d.down = true) : AU Tryz.prog 28 #[.pointer (some ⟨p, 0, none⟩)] [Ao p d] (fun (_ : Unit) => .bool false) (fun (_ : Unit) => [Ao p d]) := by
 refine Bd (args := [.pointer (some ⟨p, 0, none⟩)]) 30 Tryz.func28 rfl rfl rfl ?_; intro w rs
 refine AZ 0 rfl (Km hd) (fun _ => rfl) ?_; rintro x
 refine Ad ?_
 refine Ae Ak rfl ?_
 refine Aa (Aq (Ad ?_))
 refine Ae Ak rfl ?_
 refine Ab rfl (.pointer (some ⟨p, 0, none⟩)) (fun b w hb hH => by exact BA rfl rfl hb) ?_
 refine Ae Ak rfl ?_
 refine Ab rfl (.bool true) (fun b w hb hH => A6 rfl rfl (Bk Bo rfl) (hH.row 0 rfl) hb) ?_
 refine Aa (AC rfl (Ad ?_))
 refine Ae Ak rfl ?_
 refine Aa (Ay (CM ?_))
 exact Av (.tmp rfl) (fun w h => AB () rfl [0, 1, 2, 3] rfl h (Ja (os := []) ⟨x.pv, x.sm, .map none, x.W, [], x.hW, (fun h => by rw [hd] at h; cases h), x.hok, x.hf, x.hr, x.hk⟩ hd rfl)) rfl
theorem NN {p : Nat} {d : DiskD} (hd : d.down = false) (hf : d.fuse = some 0) : AU Tryz.prog 28 #[.pointer (some ⟨p, 0, none⟩)] [Ao p d] (fun (_ : Unit) => .bool false) (fun (_ : Unit) => [Ao p ({ d with down := true })]) := by
 refine Bd (args := [.pointer (some ⟨p, 0, none⟩)]) 30 Tryz.func28 rfl rfl rfl ?_; intro w rs
 refine AZ 0 rfl (Hx hd) (fun _ => rfl) ?_; rintro x
 refine Ad ?_
 refine Ae Ak rfl ?_
 refine Aa (Aq (Ad ?_))
 refine Ae Ak rfl ?_
 refine Ab rfl (.pointer (some ⟨p, 0, none⟩)) (fun b w hb hH => by exact BA rfl rfl hb) ?_
 refine Ae Ak rfl ?_
 refine Ab rfl (.bool false) (fun b w hb hH => A6 rfl rfl (Bk Bo rfl) (hH.row 0 rfl) hb) ?_
 refine Aa (Ar rfl (Ax (AE (Aq (Ad ?_)))))
 refine Ae Ak rfl ?_
 refine Ab rfl (.pointer (some ⟨p, 0, none⟩)) (fun b w hb hH => by exact BA rfl rfl hb) ?_
 refine Ae Ak rfl ?_
 refine Ab rfl (.int .i64 (C9 d.fuse)) (fun b w hb hH => A6 rfl rfl (Bk AR rfl) (hH.row 0 rfl) hb) ?_
 refine Ab rfl (.bool true) (fun b w hb hH => AV rfl rfl rfl (H7 (by rw [hf]; rfl)) hb) ?_
 refine Aa (AC rfl (Ad ?_))
 refine Ae Ak rfl ?_
 refine Ab rfl (.pointer (some ⟨p, 0, none⟩)) (fun b w hb hH => by exact BA rfl rfl hb) ?_
 refine Ae Ak rfl ?_
 refine AH (post := fun _ => [cell p 67 #[.int .i64 d.room, .int .i64 (C9 d.fuse), .bool true, x.pv, x.sm, x.sh], As 99 5 encO x.pv x.W, BL x.W, AA x.sm d.syn, AA x.sh x.g]) rfl rfl (AD 0 (v := .bool true) #[.int .i64 d.room, .int .i64 (C9 d.fuse), .bool true, x.pv, x.sm, x.sh] Bo.2 rfl rfl rfl rfl rfl rfl rfl rfl rfl) ?_; rintro ⟨⟩
 refine Ab rfl (.pointer (some ⟨p, 0, none⟩)) (fun b w hb hH => by exact BA rfl rfl hb) ?_
 refine Ae Ak rfl ?_
 refine AH (post := fun _ => [cell p 67 #[.int .i64 d.room, .int .i64 (C9 d.fuse), .bool true, x.pv, x.sm, .map none], As 99 5 encO x.pv x.W, BL x.W, AA x.sm d.syn, AA x.sh x.g]) rfl rfl (AD 0 (v := .map none) #[.int .i64 d.room, .int .i64 (C9 d.fuse), .bool true, x.pv, x.sm, .map none] AO.2 rfl rfl rfl rfl rfl rfl rfl rfl rfl) ?_; rintro ⟨⟩
 refine Aa (Ad ?_)
 refine Ae Ak rfl ?_
 refine Aa (Ay (CM ?_))
 exact Av (.tmp rfl) (fun w h => AB () rfl [0, 1, 2, 3] rfl h (Ja (os := []) (d := { d with down := true }) ⟨x.pv, x.sm, .map none, x.W, [], x.hW, (fun h => by cases h), x.hok, x.hf, x.hr, x.hk⟩ rfl rfl)) rfl
theorem Pd {p : Nat} {d : DiskD} {n : Nat} (hd : d.down = false) (hf : d.fuse = some (n + 1)) : AU Tryz.prog 28 #[.pointer (some ⟨p, 0, none⟩)] [Ao p d] (fun (_ : Unit) => .bool true) (fun (_ : Unit) => [Ao p ({ d with fuse := some n })]) := by
 refine Bd (args := [.pointer (some ⟨p, 0, none⟩)]) 30 Tryz.func28 rfl rfl rfl ?_; intro w rs
 refine AZ 0 rfl (Hx hd) (fun _ => rfl) ?_; rintro x
 have hz : C9 d.fuse = (n : Int) + 1 := by rw [hf]; rfl
 have hn := x.hf _ hf
 refine Ad ?_
 refine Ae Ak rfl ?_
 refine Aa (Aq (Ad ?_))
 refine Ae Ak rfl ?_
 refine Ab rfl (.pointer (some ⟨p, 0, none⟩)) (fun b w hb hH => by exact BA rfl rfl hb) ?_
 refine Ae Ak rfl ?_
 refine Ab rfl (.bool false) (fun b w hb hH => A6 rfl rfl (Bk Bo rfl) (hH.row 0 rfl) hb) ?_
 refine Aa (Ar rfl (Ax (AE (Aq (Ad ?_)))))
 refine Ae Ak rfl ?_
 refine Ab rfl (.pointer (some ⟨p, 0, none⟩)) (fun b w hb hH => by exact BA rfl rfl hb) ?_
 refine Ae Ak rfl ?_
 refine Ab rfl (.int .i64 (C9 d.fuse)) (fun b w hb hH => A6 rfl rfl (Bk AR rfl) (hH.row 0 rfl) hb) ?_
 refine Ab rfl (.bool false) (fun b w hb hH => AV rfl rfl rfl (Ge (by omega)) hb) ?_
 refine Aa (Ar rfl (Ax (AE (Aq (Ad ?_)))))
 refine Ae Ak rfl ?_
 refine Ab rfl (.pointer (some ⟨p, 0, none⟩)) (fun b w hb hH => by exact BA rfl rfl hb) ?_
 refine Ae Ak rfl ?_
 refine Ab rfl (.int .i64 (C9 d.fuse)) (fun b w hb hH => A6 rfl rfl (Bk AR rfl) (hH.row 0 rfl) hb) ?_
 refine Ab rfl (.bool true) (fun b w hb hH => AV rfl rfl rfl (BY (by omega)) hb) ?_
 refine Aa (AC rfl (Br ?_))
 refine Ae Ak rfl ?_
 refine Ab rfl (.pointer (some ⟨p, 0, none⟩)) (fun b w hb hH => by exact BA rfl rfl hb) ?_
 refine Ae Ak rfl ?_
 refine Ab rfl (.int .i64 (C9 d.fuse)) (fun b w hb hH => A6 rfl rfl (Bk AR rfl) (hH.row 0 rfl) hb) ?_
 refine Ab rfl (.int .i64 (n : Int)) (fun b w hb hH => AN rfl rfl rfl rfl (by rw [IntWalk.i64_in _ (by omega)]; omega) hb) ?_
 refine Ab rfl (.pointer (some ⟨p, 0, none⟩)) (fun b w hb hH => by exact BA rfl rfl hb) ?_
 refine Ae Ak rfl ?_
 refine AH (post := fun _ => [cell p 67 #[.int .i64 d.room, .int .i64 (n : Int), .bool false, x.pv, x.sm, x.sh], As 99 5 encO x.pv x.W, BL x.W, AA x.sm d.syn, AA x.sh x.g]) rfl rfl (AD 0 (v := .int .i64 (n : Int)) #[.int .i64 d.room, .int .i64 (n : Int), .bool false, x.pv, x.sm, x.sh] AR.2 rfl rfl rfl rfl rfl rfl rfl rfl rfl) ?_; rintro ⟨⟩
 refine AP (AE (Ad ?_))
 refine Ae Ak rfl ?_
 refine Aa (Ay ?_)
 exact Av (.tmp rfl) (fun w h => AB () rfl [0, 1, 2, 3, 4] rfl h (F4 (os := []) (d := { d with fuse := some n }) ⟨x.pv, x.sm, x.sh, x.W, x.g, x.hW, x.hg, x.hok, (fun m hm => by cases hm; omega), x.hr, x.hk⟩ hd)) rfl
theorem Rv {p : Nat} {d : DiskD} (hd : d.down = false) (hf : d.fuse = none) : AU Tryz.prog 28 #[.pointer (some ⟨p, 0, none⟩)] [Ao p d] (fun (_ : Unit) => .bool true) (fun (_ : Unit) => [Ao p d]) := by
 refine Bd (args := [.pointer (some ⟨p, 0, none⟩)]) 30 Tryz.func28 rfl rfl rfl ?_; intro w rs
 refine AZ 0 rfl (Hx hd) (fun _ => rfl) ?_; rintro x
 have hz : C9 d.fuse = -1 := by rw [hf]; rfl
 refine Ad ?_
 refine Ae Ak rfl ?_
 refine Aa (Aq (Ad ?_))
 refine Ae Ak rfl ?_
 refine Ab rfl (.pointer (some ⟨p, 0, none⟩)) (fun b w hb hH => by exact BA rfl rfl hb) ?_
 refine Ae Ak rfl ?_
 refine Ab rfl (.bool false) (fun b w hb hH => A6 rfl rfl (Bk Bo rfl) (hH.row 0 rfl) hb) ?_
 refine Aa (Ar rfl (Ax (AE (Aq (Ad ?_)))))
 refine Ae Ak rfl ?_
 refine Ab rfl (.pointer (some ⟨p, 0, none⟩)) (fun b w hb hH => by exact BA rfl rfl hb) ?_
 refine Ae Ak rfl ?_
 refine Ab rfl (.int .i64 (C9 d.fuse)) (fun b w hb hH => A6 rfl rfl (Bk AR rfl) (hH.row 0 rfl) hb) ?_
 refine Ab rfl (.bool false) (fun b w hb hH => AV rfl rfl rfl (Ge (by omega)) hb) ?_
 refine Aa (Ar rfl (Ax (AE (Aq (Ad ?_)))))
 refine Ae Ak rfl ?_
 refine Ab rfl (.pointer (some ⟨p, 0, none⟩)) (fun b w hb hH => by exact BA rfl rfl hb) ?_
 refine Ae Ak rfl ?_
 refine Ab rfl (.int .i64 (C9 d.fuse)) (fun b w hb hH => A6 rfl rfl (Bk AR rfl) (hH.row 0 rfl) hb) ?_
 refine Ab rfl (.bool false) (fun b w hb hH => AV rfl rfl rfl (BE (by omega)) hb) ?_
 refine Aa (Ar rfl (Ax (AE (Ad ?_))))
 refine Ae Ak rfl ?_
 refine Aa (Ay ?_)
 exact Av (.tmp rfl) (fun w h => AB () rfl [0, 1, 2, 3, 4] rfl h (F4 (os := []) x hd)) rfl
theorem G0 {p : Nat} {d d1 : DiskD} (h : Bi d = (d1, 3)) : AU Tryz.prog 28 #[.pointer (some ⟨p, 0, none⟩)] [Ao p d] (fun _ : Unit => .bool false) (fun _ => [Ao p d1]) := by
  unfold Bi at h
  cases hd : d.down
  · cases hf : d.fuse with
    | none => rw [if_neg (by simp [hd, hf])] at h; cases h
    | some n =>
      cases n with
      | zero => rw [if_pos (.inr hf)] at h; cases h; exact NN hd hf
      | succ n => rw [if_neg (by simp [hd, hf])] at h; cases h
  · rw [if_pos (.inl hd)] at h
    cases h
    have e : ({ d with down := true } : DiskD) = d := by obtain ⟨_, _, _, _, dn⟩ := d; cases hd; rfl
    rw [e]; exact SW hd
theorem Dp {p : Nat} {d d1 : DiskD} (h : Bi d = (d1, 0)) : AU Tryz.prog 28 #[.pointer (some ⟨p, 0, none⟩)] [Ao p d] (fun _ : Unit => .bool true) (fun _ => [Ao p d1]) := by
  unfold Bi at h
  cases hd : d.down
  · cases hf : d.fuse with
    | none =>
      rw [if_neg (by simp [hd, hf])] at h
      cases h
      have e : ({ d with fuse := d.fuse.map (· - 1) } : DiskD) = d := by obtain ⟨_, _, _, fu, _⟩ := d; cases hf; rfl
      rw [e]; exact Rv hd hf
    | some n =>
      cases n with
      | zero => rw [if_pos (.inr hf)] at h; cases h
      | succ n =>
        rw [if_neg (by simp [hd, hf])] at h
        cases h
        rw [hf]; exact Pd hd hf
  · rw [if_pos (.inl hd)] at h; cases h
theorem DE {d d1 : DiskD} (h : Bi d = (d1, 0)) : d1.down = false ∧ d1.syn = d.syn ∧ d1.wait = d.wait ∧ d1.room = d.room := by
  unfold Bi at h
  cases hd : d.down
  · by_cases hf : d.fuse = some 0
    · rw [if_pos (.inr hf)] at h; cases h
    · rw [if_neg (by simp [hd, hf])] at h; cases h; exact ⟨hd, rfl, rfl, rfl⟩
  · rw [if_pos (.inl hd)] at h; cases h
theorem G1 (d : DiskD) : (Bi d).2 = 3 ∨ (Bi d).2 = 0 := by
  unfold Bi
  split
  · exact .inl rfl
  · exact .inr rfl
theorem Dq {d d1 : DiskD} (h : Bi d = (d1, 0)) (hd : d.fit) : d1.fit := by
 obtain ⟨_, h1, h2, _⟩ := DE h
 unfold DiskD.fit
 rw [h1, h2]; exact hd
theorem Lc {p : Nat} {d : DiskD} {x : OpV} (hd : d.down = false) (hfit : d.fit) (ho : LB d.now x.o) (hl : x.o.size ≤ 1048576) : AU Tryz.prog 58 #[.pointer (some ⟨p, 0, none⟩), .agg (encO x).toArray] [Ao p d, As 5 1 encB x.v x.o.data] (fun (_ : Unit) => .int .i64 0) (fun (_ : Unit) => [Ao p (Cr d x.o)]) := by
  refine Bd (args := [.pointer (some ⟨p, 0, none⟩), .agg (encO x).toArray]) 21 Tryz.func58 rfl rfl rfl ?_; intro w rs
  refine AZ 0 rfl (Hx hd) (fun _ => rfl) ?_; rintro y
  refine Bv.fact 3 rfl BD ?_; rintro hsn
  refine Bv.fact 4 rfl BD ?_; rintro hgn
  have hu : AK y.g ≤ 1099511627776 := by rw [Df (y.hg hd)]; exact Ip hfit hsn y.hok
  have hWl := Kn y
  have hw := hfit.2
  have ho2 := K4 (y.hg hd).symm (L0 hsn) ho
  refine Ad ?_
  refine Ae Ak rfl ?_
  refine Aj (post := fun g1 => [cell g1 99 #[.int .i64 x.o.kind, .string (bs x.o.name), x.v, .int .i64 (x.o.cutS : Int), .string (bs x.o.to)], cell p 67 #[.int .i64 d.room, .int .i64 (C9 d.fuse), .bool false, y.pv, y.sm, y.sh], As 99 5 encO y.pv y.W, BL y.W, AA y.sm d.syn, AA y.sh y.g, As 5 1 encB x.v x.o.data]) rfl (CC (cs := #[.int .i64 x.o.kind, .string (bs x.o.name), x.v, .int .i64 (x.o.cutS : Int), .string (bs x.o.to)]) rfl rfl rfl) ?_; rintro g1
  refine Ae Ak rfl ?_
  refine Aa (Aq ?_)
  refine BO 6 1 [⟨.quiet, [none], fun _ => .pointer (some ⟨p, 0, none⟩), []⟩, ⟨.quiet, [none], fun _ => .pointer (some ⟨p, 0, none⟩), [0]⟩, ⟨.quiet, [none], fun _ => .pointer (some ⟨p, 5, none⟩), [1]⟩, ⟨.quiet, [none], fun _ => y.sh, [2]⟩, ⟨.quiet, [none], fun _ => .agg #[.int .i64 x.o.kind, .string (bs x.o.name), x.v, .int .i64 (x.o.cutS : Int), .string (bs x.o.to)], []⟩, ⟨.actv 0, [some false], fun _ => .tuple #[], [3, 4]⟩] [(0, .pointer (some ⟨p, 0, none⟩)), (3, .pointer (some ⟨g1, 0, none⟩)), (4, .int .i64 0)] (fun ρ => match ρ with | [r0] => [cell g1 99 #[.int .i64 x.o.kind, .string (bs x.o.name), x.v, .int .i64 (x.o.cutS : Int), .string (bs x.o.to)], cell p 67 #[.int .i64 d.room, .int .i64 (C9 d.fuse), .bool false, y.pv, y.sm, y.sh], As 99 5 encO y.pv y.W, BL y.W, AA y.sm d.syn, CD r0 (fun _ => AA y.sh (AI y.g x.o)) (AA y.sh y.g), As 5 1 encB x.v x.o.data] | _ => []) (by kernel_rfl) (by kernel_rfl) ⟨rfl, rfl, rfl, trivial⟩ rfl ?_ ?_
  · skip
    refine Ac (by intro r0_; exact ⟨rfl, fun b w hH hb => Af Ak rfl hb⟩) ?_
    refine Ac (by intro r0_; exact ⟨rfl, fun b w hH hb => by exact BA rfl rfl hb⟩) ?_
    refine Ac (by intro r0_; exact ⟨rfl, fun b w hH hb => Af Ak rfl hb⟩) ?_
    refine Ac (by intro r0_; exact ⟨rfl, fun b w hH hb => A6 rfl rfl (Bk AO rfl) (hH.row 1 rfl) hb⟩) ?_
    refine Ac (by intro r0_; exact ⟨rfl, fun b w hH hb => A6 rfl rfl (D3 (cs := [.int .i64 x.o.kind, .string (bs x.o.name), x.v, .int .i64 (x.o.cutS : Int), .string (bs x.o.to)]) Cj rfl) (hH.row 0 rfl) hb⟩) ?_
    refine Ac (by exact ⟨rfl, Bp.su (Al (os' := fun _ => [cell g1 99 #[.int .i64 x.o.kind, .string (bs x.o.name), x.v, .int .i64 (x.o.cutS : Int), .string (bs x.o.to)], cell p 67 #[.int .i64 d.room, .int .i64 (C9 d.fuse), .bool false, y.pv, y.sm, y.sh], As 99 5 encO y.pv y.W, BL y.W, AA y.sm d.syn, AA y.sh (AI y.g x.o), As 5 1 encB x.v x.o.data]) [5, 6] 0 (Ah Tryz.func68 (by kernel_rfl) rfl) (SV ho2 CU (by omega) rfl) rfl rfl rfl (fun _ => rfl) rfl rfl rfl) rfl⟩) ?_
    exact B2
  intro v0_
  refine Cg.keep (env' := [(0, .pointer (some ⟨p, 0, none⟩)), (3, .pointer (some ⟨g1, 0, none⟩)), (4, .int .i64 0)]) ⟨rfl, rfl, rfl, trivial⟩ ?_
  refine AP (AE (Aq ?_))
  refine EF 1 rfl ?_
  refine BO 10 2 [⟨.quiet, [none, none], fun _ => .pointer (some ⟨p, 0, none⟩), []⟩, ⟨.quiet, [none, none], fun _ => .pointer (some ⟨p, 0, none⟩), []⟩, ⟨.quiet, [none, none], fun _ => .pointer (some ⟨p, 0, none⟩), [1]⟩, ⟨.quiet, [none, none], fun _ => .pointer (some ⟨p, 3, none⟩), [2]⟩, ⟨.quiet, [none, none], fun _ => y.pv, [3]⟩, ⟨.quiet, [none, none], fun _ => .agg #[.int .i64 x.o.kind, .string (bs x.o.name), x.v, .int .i64 (x.o.cutS : Int), .string (bs x.o.to)], []⟩, ⟨.act 0, [some false, some false], fun _ => undef, [5]⟩, ⟨.act 1, [some true, some false], fun _ => undef, [4, 6]⟩, ⟨.quiet, [some true, some true], fun _ => .pointer (some ⟨p, 0, none⟩), [0]⟩, ⟨.quiet, [some true, some true], fun _ => .pointer (some ⟨p, 3, none⟩), [8]⟩] [(0, .pointer (some ⟨p, 0, none⟩)), (3, .pointer (some ⟨g1, 0, none⟩)), (4, .int .i64 0)] (fun ρ => match ρ with | [r0, r1] => [CD r0 (fun u1 => As 99 5 encO u1 ([x])) (D1), cell g1 99 #[.int .i64 x.o.kind, .string (bs x.o.name), x.v, .int .i64 (x.o.cutS : Int), .string (bs x.o.to)], cell p 67 #[.int .i64 d.room, .int .i64 (C9 d.fuse), .bool false, y.pv, y.sm, y.sh], CD r1 (fun u2 => As 99 5 encO u2 (y.W ++ ([x]))) (As 99 5 encO y.pv y.W), BL y.W, AA y.sm d.syn, AA y.sh (AI y.g x.o), As 5 1 encB x.v x.o.data] | _ => []) (by kernel_rfl) (by kernel_rfl) ⟨rfl, rfl, rfl, trivial⟩ rfl ?_ ?_
  · skip
    refine Ac (by intro r0_ r1_; exact ⟨rfl, fun b w hH hb => Af Ak rfl hb⟩) ?_
    refine Ac (by intro r0_ r1_; exact ⟨rfl, fun b w hH hb => Af Ak rfl hb⟩) ?_
    refine Ac (by intro r0_ r1_; exact ⟨rfl, fun b w hH hb => by exact BA rfl rfl hb⟩) ?_
    refine Ac (by intro r0_ r1_; exact ⟨rfl, fun b w hH hb => Af Ak rfl hb⟩) ?_
    refine Ac (by intro r0_ r1_; exact ⟨rfl, fun b w hH hb => A6 rfl rfl (Bk BV rfl) (hH.row 2 rfl) hb⟩) ?_
    refine Ac (by intro r0_ r1_; exact ⟨rfl, fun b w hH hb => A6 rfl rfl (D3 (cs := [.int .i64 x.o.kind, .string (bs x.o.name), x.v, .int .i64 (x.o.cutS : Int), .string (bs x.o.to)]) Cj rfl) (hH.row 1 rfl) hb⟩) ?_
    refine Ac (by exact ⟨rfl, Bp.s (Bp.place (val := fun u1 : Value => u1) (t := fun u1 => As 99 5 encO u1 ([x])) (os' := fun u1 => [As 99 5 encO u1 ([x]), cell g1 99 #[.int .i64 x.o.kind, .string (bs x.o.name), x.v, .int .i64 (x.o.cutS : Int), .string (bs x.o.to)], cell p 67 #[.int .i64 d.room, .int .i64 (C9 d.fuse), .bool false, y.pv, y.sm, y.sh], As 99 5 encO y.pv y.W, BL y.W, AA y.sm d.syn, AA y.sh (AI y.g x.o), As 5 1 encB x.v x.o.data]) 0 rfl (by refine GZ (e := 99) (t := 63) (k := 5) (enc := encO) (x := .tmp 16) (c := .agg #[.int .i64 x.o.kind, .string (bs x.o.name), x.v, .int .i64 (x.o.cutS : Int), .string (bs x.o.to)]) ?_ ?_ ?_ x ?_ ?_ ?_; exact CA; exact (by decide); exact Qk; exact rfl; exact rfl; exact rfl) (fun _ => rfl)) (fun _ => rfl)⟩) ?_
    refine Ac (by intro u1; exact ⟨rfl, Bp.s (DB 3 CA Qk rfl ([x]) (fun w hH => hH.vec 0 rfl Qk) (by simp only [List.length_cons, List.length_nil]; omega) rfl rfl rfl rfl) (fun _ => rfl)⟩) ?_
    refine Ac (by intro u1 u2; exact ⟨rfl, fun b w hH hb => by exact BA rfl rfl hb⟩) ?_
    refine Ac (by intro u1 u2; exact ⟨rfl, fun b w hH hb => Af Ak rfl hb⟩) ?_
    exact B2
  intro u1 u2
  refine Cg.keep (env' := [(4, .int .i64 0), (18, u2), (20, .pointer (some ⟨p, 3, none⟩))]) ⟨rfl, rfl, rfl, trivial⟩ ?_
  refine Ae Ak rfl ?_
  refine AH (post := fun _ => [As 99 5 encO u1 ([x]), cell g1 99 #[.int .i64 x.o.kind, .string (bs x.o.name), x.v, .int .i64 (x.o.cutS : Int), .string (bs x.o.to)], cell p 67 #[.int .i64 d.room, .int .i64 (C9 d.fuse), .bool false, u2, y.sm, y.sh], As 99 5 encO u2 (y.W ++ ([x])), BL y.W, AA y.sm d.syn, AA y.sh (AI y.g x.o), As 5 1 encB x.v x.o.data]) rfl rfl (Ci 2 3 (v := u2) #[.int .i64 d.room, .int .i64 (C9 d.fuse), .bool false, u2, y.sm, y.sh] BV.2 rfl (fun _ h => As.c1 h) rfl rfl rfl rfl rfl rfl rfl) ?_; rintro ⟨⟩
  refine AP (AE ?_)
  refine AX [4, 7] rfl Ij rfl ?_
  refine Ad ?_
  refine Ae Ak rfl ?_
  refine Aa (Ay ?_)
  exact Av (.tmp rfl) (fun w h => AB () rfl [3, 4, 0, 5, 6] rfl h (F4 (os := []) (d := Cr d x.o) ⟨u2, y.sm, y.sh, y.W ++ [x], AI y.g x.o, (by rw [show DN (y.W ++ [x]) = DN y.W ++ [x.o] by simp [DN], y.hW]; rfl), (fun _ => by rw [C2]; exact Rj (y.hg hd) hgn x.o), JF y.hok ho, y.hf, y.hr, y.hk⟩ hd)) rfl
end Go.Proofs.YtnknboibmifacaaGreat.Sep
namespace Go.Proofs.YtnknboibmifacaaGreat.Sep
open Go.RowKit
open Go.Proofs.YtnknboibmifacaaGreat.Mem (Bl Co Chg AG)
theorem NO {p k : Nat} {r1 r2 r3 pv sm sh : Value} {W K : List OpV} {f f' : FS} (hk : k ≤ W.length) (hW : W.length ≤ 1000000) (hK : W.take k = K) (hok : E4 f (DN K)) (hsz : AK f + ((DN K).map OpD.size).sum ≤ 1099511627776) (hf : (DN K).foldl AI f = f') : AU Tryz.prog 29 #[.pointer (some ⟨p, 0, none⟩), .int .i64 (k : Int)] [cell p 67 #[r1, r2, r3, pv, sm, sh], As 99 5 encO pv W, BL W, AA sm f] (fun (_ : Unit) => .tuple #[]) (fun (_ : Unit) => [cell p 67 #[r1, r2, r3, .slice none 0 0, sm, sh], As 99 5 encO pv W, BL W, AA sm f']) := by
  refine Bd (args := [.pointer (some ⟨p, 0, none⟩), .int .i64 (k : Int)]) 27 Tryz.func29 rfl rfl rfl ?_; intro w rs
  refine Bv.fact 3 rfl BD ?_; rintro hnd
  have hKl : K.length ≤ W.length := by rw [← hK, List.length_take]; omega
  refine Aq (Ad ?_)
  refine Ae Ak rfl ?_
  refine Ab rfl (.pointer (some ⟨p, 0, none⟩)) (fun b w hb hH => by exact BA rfl rfl hb) ?_
  refine Ae Ak rfl ?_
  refine Ab rfl (pv) (fun b w hb hH => A6 rfl rfl (Bk BV rfl) (hH.row 0 rfl) hb) ?_
  refine Ae Ak rfl ?_
  refine Ab rfl (Cm 5 pv 0 k) (fun b w hb hH => Ho 1 (b := k) CA rfl hk rfl rfl rfl hH hb) ?_
  refine Ab rfl (.int .i64 (K.length : Int)) (fun b w hb hH => AT (hH.vecq 1 rfl Qk (Nat.zero_le _) hk (m := K) (by simpa using hK)) Tryz.underlying63 rfl rfl hb) ?_
  refine Ae Ak rfl ?_
  refine Aa (Bb ?_)
  refine CO (α := Nat) (fun i => [(0, .pointer (some ⟨p, 0, none⟩)), (11, Cm 5 pv 0 k), (12, .int .i64 (K.length : Int)), (13, .int .i64 ((i : Nat) : Int))]) (fun i => [cell p 67 #[r1, r2, r3, pv, sm, sh], As 99 5 encO pv W, BL W, AA sm (((DN K).take i).foldl AI f)]) (fun i => i ≤ K.length) (fun i => K.length - i) 0 (Nat.zero_le _) ⟨rfl, rfl, rfl, rfl, trivial⟩ rfl ?_
  rintro i hI
  refine Bv.at_ (env' := [(0, .pointer (some ⟨p, 0, none⟩)), (11, Cm 5 pv 0 k), (12, .int .i64 (K.length : Int)), (13, .int .i64 ((i : Nat) : Int))]) (rs' := [cell p 67 #[r1, r2, r3, pv, sm, sh], As 99 5 encO pv W, BL W, AA sm (((DN K).take i).foldl AI f)]) ⟨rfl, rfl, rfl, rfl, trivial⟩ rfl ?_
  have hc : i < K.length ∨ K.length ≤ i := by omega
  rcases hc with hi | hi
  · skip
    obtain ⟨a, ha⟩ : ∃ a, K[i]? = some a := ⟨_, List.getElem?_eq_getElem hi⟩
    have haW : a ∈ W := by rw [← hK] at ha; exact List.mem_of_mem_take (List.mem_of_getElem? ha)
    have hao : (DN K)[i]? = some a.o := by unfold DN; rw [List.getElem?_map, ha]; rfl
    have hsa : AK (((DN K).take i).foldl AI f) + a.o.size ≤ 1099511627776 := Ep hnd hok hao hsz
    refine Ad ?_
    refine Ae Ak rfl ?_
    refine Ab rfl (.bool true) (fun b w hb hH => AV rfl rfl rfl (A7 (by omega)) hb) ?_
    refine Aa (Aq (AC rfl (Ax (AE (Aq (Bb (Ad ?_)))))))
    refine Ae Ak rfl ?_
    refine Ab rfl (BP (Cm 5 pv 0 k) (i * 5)) (fun b w hb hH => BF Qk (hH.vecq 1 rfl Qk (Nat.zero_le _) hk (m := K) (by simpa using hK)) CA (j := i) ha rfl rfl rfl hb) ?_
    refine Ab rfl (.agg (encO a).toArray) (fun b w hb hH => Ih Qk (by decide) (hH.vecq 1 rfl Qk (Nat.zero_le _) hk (m := K) (by simpa using hK)) (j := i) ha Cj rfl rfl hb) ?_
    refine Aj (post := fun gc => [cell gc 99 #[.int .i64 0, .string { data := #[] }, .slice none 0 0, .int .i64 0, .string { data := #[] }], cell p 67 #[r1, r2, r3, pv, sm, sh], As 99 5 encO pv W, BL W, AA sm (((DN K).take i).foldl AI f)]) rfl (BS I6 rfl) ?_; rintro gc
    refine AH (post := fun _ => [cell gc 99 #[.int .i64 a.o.kind, .string (bs a.o.name), a.v, .int .i64 (a.o.cutS : Int), .string (bs a.o.to)], cell p 67 #[r1, r2, r3, pv, sm, sh], As 99 5 encO pv W, BL W, AA sm (((DN K).take i).foldl AI f)]) rfl rfl (AD 0 (v := .agg (encO a).toArray) #[.int .i64 a.o.kind, .string (bs a.o.name), a.v, .int .i64 (a.o.cutS : Int), .string (bs a.o.to)] Cj.2 rfl rfl rfl rfl rfl rfl rfl rfl rfl) ?_; rintro ⟨⟩
    refine Aa ?_
    refine BO 6 1 [⟨.quiet, [none], fun _ => .pointer (some ⟨p, 0, none⟩), []⟩, ⟨.quiet, [none], fun _ => .pointer (some ⟨p, 0, none⟩), [0]⟩, ⟨.quiet, [none], fun _ => .pointer (some ⟨p, 4, none⟩), [1]⟩, ⟨.quiet, [none], fun _ => sm, [2]⟩, ⟨.quiet, [none], fun _ => .agg #[.int .i64 a.o.kind, .string (bs a.o.name), a.v, .int .i64 (a.o.cutS : Int), .string (bs a.o.to)], []⟩, ⟨.actv 0, [some false], fun _ => .tuple #[], [3, 4]⟩] [(0, .pointer (some ⟨p, 0, none⟩)), (11, Cm 5 pv 0 k), (12, .int .i64 (K.length : Int)), (13, .int .i64 ((i : Nat) : Int)), (14, .bool true), (15, BP (Cm 5 pv 0 k) (i * 5)), (16, .agg (encO a).toArray), (5, .pointer (some ⟨gc, 0, none⟩))] (fun ρ => match ρ with | [r0] => [cell gc 99 #[.int .i64 a.o.kind, .string (bs a.o.name), a.v, .int .i64 (a.o.cutS : Int), .string (bs a.o.to)], cell p 67 #[r1, r2, r3, pv, sm, sh], As 99 5 encO pv W, BL W, CD r0 (fun _ => AA sm (((DN K).take (i + 1)).foldl AI f)) (AA sm (((DN K).take i).foldl AI f))] | _ => []) (by kernel_rfl) (by kernel_rfl) ⟨rfl, rfl, rfl, rfl, rfl, rfl, rfl, rfl, trivial⟩ rfl ?_ ?_
    · skip
      refine Ac (by intro r0_; exact ⟨rfl, fun b w hH hb => Af Ak rfl hb⟩) ?_
      refine Ac (by intro r0_; exact ⟨rfl, fun b w hH hb => by exact BA rfl rfl hb⟩) ?_
      refine Ac (by intro r0_; exact ⟨rfl, fun b w hH hb => Af Ak rfl hb⟩) ?_
      refine Ac (by intro r0_; exact ⟨rfl, fun b w hH hb => A6 rfl rfl (Bk AO rfl) (hH.row 1 rfl) hb⟩) ?_
      refine Ac (by intro r0_; exact ⟨rfl, fun b w hH hb => A6 rfl rfl (D3 (cs := [.int .i64 a.o.kind, .string (bs a.o.name), a.v, .int .i64 (a.o.cutS : Int), .string (bs a.o.to)]) Cj rfl) (hH.row 0 rfl) hb⟩) ?_
      refine Ac (by exact ⟨rfl, Bp.su (Al (os' := fun _ => [cell gc 99 #[.int .i64 a.o.kind, .string (bs a.o.name), a.v, .int .i64 (a.o.cutS : Int), .string (bs a.o.to)], cell p 67 #[r1, r2, r3, pv, sm, sh], As 99 5 encO pv W, BL W, AA sm (((DN K).take (i + 1)).foldl AI f)]) [4, 3] 0 (Ah Tryz.func68 (by kernel_rfl) rfl) (SV (Kl hok hao) (Ql haW) (by omega) (JI hao f).symm) rfl rfl rfl (fun _ => rfl) rfl rfl rfl) rfl⟩) ?_
      exact B2
    intro v0_
    refine Cg.keep (env' := [(0, .pointer (some ⟨p, 0, none⟩)), (11, Cm 5 pv 0 k), (12, .int .i64 (K.length : Int)), (13, .int .i64 ((i : Nat) : Int)), (14, .bool true), (15, BP (Cm 5 pv 0 k) (i * 5)), (16, .agg (encO a).toArray), (5, .pointer (some ⟨gc, 0, none⟩)), (17, .pointer (some ⟨p, 0, none⟩)), (18, .pointer (some ⟨p, 0, none⟩)), (19, .pointer (some ⟨p, 4, none⟩)), (20, sm), (21, .agg #[.int .i64 a.o.kind, .string (bs a.o.name), a.v, .int .i64 (a.o.cutS : Int), .string (bs a.o.to)])]) ⟨rfl, rfl, rfl, rfl, rfl, rfl, rfl, rfl, rfl, rfl, rfl, rfl, rfl, trivial⟩ ?_
    refine AP (Bt (AE ?_))
    refine Bv.leave [0] rfl rfl ?_
    refine Br ?_
    refine Ae Ak rfl ?_
    refine Ab rfl (.int .i64 ((i + 1 : Nat) : Int)) (fun b w hb hH => AN rfl rfl rfl rfl (by rw [IntWalk.i64_in _ (by omega)]; omega) hb) ?_
    refine Ae Ak rfl ?_
    refine AP ?_
    exact Cc (i + 1) 0 (by omega) (by show K.length - (i + 1) < K.length - i; omega) ⟨rfl, rfl, rfl, rfl, trivial⟩ rfl
  · skip
    have he : ((DN K).take i).foldl AI f = f' := by rw [List.take_of_length_le (by unfold DN; rw [List.length_map]; exact hi)]; exact hf
    refine Ad ?_
    refine Ae Ak rfl ?_
    refine Ab rfl (.bool false) (fun b w hb hH => AV rfl rfl rfl (Bn (by omega)) hb) ?_
    refine Aa (Aq (Ar rfl (Cu (E0 (E0 (Bh (AE ?_)))))))
    rw [he]
    refine Br ?_
    refine Ae Ak rfl ?_
    refine Ab rfl (.pointer (some ⟨p, 0, none⟩)) (fun b w hb hH => by exact BA rfl rfl hb) ?_
    refine Ae Ak rfl ?_
    refine AH (post := fun _ => [cell p 67 #[r1, r2, r3, .slice none 0 0, sm, sh], As 99 5 encO pv W, BL W, AA sm f']) rfl rfl (AD 0 (v := .slice none 0 0) #[r1, r2, r3, .slice none 0 0, sm, sh] BV.2 rfl rfl rfl rfl rfl rfl rfl rfl rfl) ?_; rintro ⟨⟩
    refine AP ?_
    exact CG  (fun w h => AB () rfl [0, 1, 2, 3] rfl h Cl) rfl
theorem SX {X : Ass} {v : Value} {f : FS} {x : OpV} {torn : Int} (hX : CX X x.v x.o.data) (hd : x.o.data = []) : AU Tryz.prog 64 #[v, .agg (encO x).toArray, .int .i64 torn] [AA v f, X] (fun (_ : Unit) => .tuple #[]) (fun (_ : Unit) => [AA v f, X]) := by
 refine Bd (args := [v, .agg (encO x).toArray, .int .i64 torn]) 26 Tryz.func64 rfl rfl rfl ?_; intro w rs
 refine Ad ?_
 refine Ae Ak rfl ?_
 refine Aj (post := fun g1 => [cell g1 99 #[.int .i64 x.o.kind, .string (bs x.o.name), x.v, .int .i64 (x.o.cutS : Int), .string (bs x.o.to)], AA v f, X]) rfl (CC (cs := #[.int .i64 x.o.kind, .string (bs x.o.name), x.v, .int .i64 (x.o.cutS : Int), .string (bs x.o.to)]) rfl rfl rfl) ?_; rintro g1
 refine Aa (Aq (Ad ?_))
 refine Ae Ak rfl ?_
 refine Ab rfl (x.v) (fun b w hb hH => A6 rfl rfl (Bk C3 rfl) (hH.row 0 rfl) hb) ?_
 refine Ab rfl (.int .i64 (x.o.data.length : Int)) (fun b w hb hH => AT ((hH.rd8 2 rfl hX).rd) Tryz.underlying48 rfl rfl hb) ?_
 refine Ab rfl (.bool true) (fun b w hb hH => AV rfl rfl rfl (H7 (by rw [hd]; rfl)) hb) ?_
 refine Aa (AC rfl (Ay (CM ?_)))
 exact Kz  (fun w h => AB () rfl [1, 2] rfl h Cl) rfl
theorem SY {X : Ass} {v : Value} {f f' : FS} {n y b1 : List UInt8} {A : Option Addr} {c : Nat} {torn : Int} (hX : CX X (.slice A y.length c) y) (hl : AK f + y.length ≤ 1099511627776) (hy : y ≠ []) (ht : (torn % (y.length : Int)).toNat = b1.length) (hb1 : y.take b1.length = b1) (h : F5 f (.app n y) torn = f') : AU Tryz.prog 64 #[v, .agg #[.int .i64 0, .string (bs n), .slice A y.length c, .int .i64 0, .string (bs ([]))], .int .i64 torn] [AA v f, X] (fun (_ : Unit) => .tuple #[]) (fun (_ : Unit) => [AA v f', X]) := by
  have h_ := h
  have hb0 : 0 < y.length := List.length_pos_iff.2 hy
  have h1 := Int.emod_nonneg torn (show (y.length : Int) ≠ 0 by omega)
  have h2 := Int.emod_lt_of_pos torn (show 0 < (y.length : Int) by omega)
  have hX1 : CX X (.slice A b1.length c) b1 := fun rs w ha hb => by
    have := (hX rs w ha hb).takes (k := b1.length) (by omega)
    rwa [hb1] at this
  have hsub : Cm 1 (.slice A y.length c) 0 b1.length = .slice A b1.length c := I1
  unfold F5 at h_
  simp only [ht, hy, or_false, hb1] at h_
  refine Bd (args := [v, .agg #[.int .i64 0, .string (bs n), .slice A y.length c, .int .i64 0, .string (bs ([]))], .int .i64 torn]) 26 Tryz.func64 rfl rfl rfl ?_; intro w rs
  refine Ad ?_
  refine Ae Ak rfl ?_
  refine Aj (post := fun g1 => [cell g1 99 #[.int .i64 0, .string (bs n), .slice A y.length c, .int .i64 0, .string (bs ([]))], AA v f, X]) rfl (CC (cs := #[.int .i64 0, .string (bs n), .slice A y.length c, .int .i64 0, .string (bs ([]))]) rfl rfl rfl) ?_; rintro g1
  refine Aa (Aq (Ad ?_))
  refine Ae Ak rfl ?_
  refine Ab rfl (.slice A y.length c) (fun b w hb hH => A6 rfl rfl (Bk C3 rfl) (hH.row 0 rfl) hb) ?_
  refine Ab rfl (.int .i64 (y.length : Int)) (fun b w hb hH => AT ((hH.rd8 2 rfl hX).rd) Tryz.underlying48 rfl rfl hb) ?_
  refine Ab rfl (.bool false) (fun b w hb hH => AV rfl rfl rfl (Ge (by omega)) hb) ?_
  refine Aa (Ar rfl (Ax (AE (Aq ?_))))
  refine BO 9 1 [⟨.quiet, [none], fun _ => .pointer (some ⟨g1, 2, none⟩), []⟩, ⟨.quiet, [none], fun _ => .slice A y.length c, [0]⟩, ⟨.quiet, [none], fun _ => .int .i64 torn, []⟩, ⟨.quiet, [none], fun _ => .pointer (some ⟨g1, 2, none⟩), []⟩, ⟨.quiet, [none], fun _ => .slice A y.length c, [3]⟩, ⟨.quiet, [none], fun _ => .int .i64 (y.length : Int), [4]⟩, ⟨.actv 0, [some false], fun _ => .int .i64 (b1.length : Int), [2, 5]⟩, ⟨.quiet, [some true], fun _ => .slice A b1.length c, [1, 6]⟩, ⟨.quiet, [some true], fun _ => .pointer (some ⟨g1, 2, none⟩), []⟩] [(0, v), (2, .int .i64 torn), (4, .pointer (some ⟨g1, 0, none⟩))] (fun ρ => match ρ with | [r0] => [cell g1 99 #[.int .i64 0, .string (bs n), .slice A y.length c, .int .i64 0, .string (bs ([]))], AA v f, X] | _ => []) (by kernel_rfl) (by kernel_rfl) ⟨rfl, rfl, rfl, trivial⟩ rfl ?_ ?_
  · skip
    refine Ac (by intro r0_; exact ⟨rfl, fun b w hH hb => Af Ak rfl hb⟩) ?_
    refine Ac (by intro r0_; exact ⟨rfl, fun b w hH hb => A6 rfl rfl (Bk C3 rfl) (hH.row 0 rfl) hb⟩) ?_
    refine Ac (by intro r0_; exact ⟨rfl, fun b w hH hb => Af Ak rfl hb⟩) ?_
    refine Ac (by intro r0_; exact ⟨rfl, fun b w hH hb => Af Ak rfl hb⟩) ?_
    refine Ac (by intro r0_; exact ⟨rfl, fun b w hH hb => A6 rfl rfl (Bk C3 rfl) (hH.row 0 rfl) hb⟩) ?_
    refine Ac (by intro r0_; exact ⟨rfl, fun b w hH hb => AT ((hH.rd8 2 rfl hX).rd) Tryz.underlying48 rfl rfl hb⟩) ?_
    refine Ac (by exact ⟨rfl, Bp.su (By (Ah Tryz.func63 (by kernel_rfl) rfl) (fun w hH => La w torn (y.length : Int) (b1.length : Int) (by omega) (by omega) (by omega)) rfl rfl rfl) rfl⟩) ?_
    refine Ac (by intro v0_; exact ⟨rfl, fun b w hH hb => IK (j := b1.length) AJ hsub (Nat.le_trans (by omega) (MK (A := A) (n := y.length) (c := c) (hH.rd8 2 rfl hX))) rfl rfl rfl hH hb⟩) ?_
    refine Ac (by intro v0_; exact ⟨rfl, fun b w hH hb => Af Ak rfl hb⟩) ?_
    exact B2
  intro v0_
  refine Cg.keep (env' := [(0, v), (4, .pointer (some ⟨g1, 0, none⟩)), (17, .slice A b1.length c), (18, .pointer (some ⟨g1, 2, none⟩))]) ⟨rfl, rfl, rfl, rfl, trivial⟩ ?_
  refine Ae Ak rfl ?_
  refine AH (post := fun _ => [cell g1 99 #[.int .i64 0, .string (bs n), .slice A b1.length c, .int .i64 0, .string (bs ([]))], AA v f, X]) rfl rfl (AD 0 (v := .slice A b1.length c) #[.int .i64 0, .string (bs n), .slice A b1.length c, .int .i64 0, .string (bs ([]))] C3.2 rfl rfl rfl rfl rfl rfl rfl rfl rfl) ?_; rintro ⟨⟩
  refine AP (AE ?_)
  rcases Nat.eq_zero_or_pos b1.length with h0 | h0
  · skip
    rw [if_pos h0] at h_
    subst h_
    refine Ad ?_
    refine Ae Ak rfl ?_
    refine Ab rfl (.slice A b1.length c) (fun b w hb hH => A6 rfl rfl (Bk C3 rfl) (hH.row 0 rfl) hb) ?_
    refine Ab rfl (.int .i64 (b1.length : Int)) (fun b w hb hH => AT ((hH.rd8 2 rfl hX1).rd) Tryz.underlying48 rfl rfl hb) ?_
    refine Ab rfl (.bool false) (fun b w hb hH => AV rfl rfl rfl (BE (by omega)) hb) ?_
    refine Aa (Ar rfl (Ax ?_))
    exact CG  (fun w h => AB () rfl [1, 2] rfl h Cl) rfl
  · skip
    rw [if_neg (by omega)] at h_
    refine Ad ?_
    refine Ae Ak rfl ?_
    refine Ab rfl (.slice A b1.length c) (fun b w hb hH => A6 rfl rfl (Bk C3 rfl) (hH.row 0 rfl) hb) ?_
    refine Ab rfl (.int .i64 (b1.length : Int)) (fun b w hb hH => AT ((hH.rd8 2 rfl hX1).rd) Tryz.underlying48 rfl rfl hb) ?_
    refine Ab rfl (.bool true) (fun b w hb hH => AV rfl rfl rfl (BY (by omega)) hb) ?_
    refine Aa (AC rfl (Br ?_))
    refine Ae Ak rfl ?_
    refine Ab rfl (.agg #[.int .i64 0, .string (bs n), .slice A b1.length c, .int .i64 0, .string (bs ([]))]) (fun b w hb hH => A6 rfl rfl (D3 (cs := [.int .i64 0, .string (bs n), .slice A b1.length c, .int .i64 0, .string (bs ([]))]) Cj rfl) (hH.row 0 rfl) hb) ?_
    refine Aj rfl (Al (os' := fun _ => [cell g1 99 #[.int .i64 0, .string (bs n), .slice A b1.length c, .int .i64 0, .string (bs ([]))], AA v f', X]) [1, 2] 0 (Ah Tryz.func68 (by kernel_rfl) rfl) (SU hX1 (by omega) h_) rfl rfl rfl (fun _ => rfl) rfl rfl rfl) ?_; rintro ⟨⟩
    refine AP ?_
    exact CG  (fun w h => AB () rfl [1, 2] rfl h Cl) rfl
theorem SZ {X : Ass} {v : Value} {f f' : FS} {x : OpV} {torn : Int} (hX : CX X x.v x.o.data) (hl : AK f + x.o.size ≤ 1099511627776) (h : F5 f x.o torn = f') : AU Tryz.prog 64 #[v, .agg (encO x).toArray, .int .i64 torn] [AA v f, X] (fun _ : Unit => .tuple #[]) (fun _ => [AA v f', X]) := by
  by_cases hd : x.o.data = []
  · rw [SR hd] at h
    subst h
    exact SX hX hd
  · obtain ⟨o, A, c⟩ := x
    cases o with
    | app n b =>
      have hb : b ≠ [] := hd
      have h0 : 0 < b.length := List.length_pos_iff.2 hb
      have h1 := Int.emod_nonneg torn (show (b.length : Int) ≠ 0 by omega)
      have h2 := Int.emod_lt_of_pos torn (show 0 < (b.length : Int) by omega)
      have h3 : (b.take (torn % (b.length : Int)).toNat).length = (torn % (b.length : Int)).toNat := by rw [List.length_take]; omega
      exact SY (b1 := b.take (torn % (b.length : Int)).toNat) hX hl hb h3.symm (congrArg (fun k => b.take k) h3) h
    | cut n s => exact absurd rfl hd
    | ren a b => exact absurd rfl hd
    | del n => exact absurd rfl hd
theorem NP {v : Value} {f : FS} (hl : AK f ≤ 1099511627776) : AU Tryz.prog 65 #[v] [AA v f] (fun (x : { q : Nat × FS // q.2.Perm f }) => .map (some x.1.1)) (fun (x : { q : Nat × FS // q.2.Perm f }) => [AA v f, AA (.map (some x.1.1)) x.1.2]) := by
  refine Bd (args := [v]) 21 Tryz.func65 rfl rfl rfl ?_; intro w rs
  refine Bv.fact 0 rfl BD ?_; rintro hnd
  refine AZ 0 rfl Fq (fun _ => rfl) ?_; rintro ⟨L, hL⟩
  subst hL
  refine Ad ?_
  refine Ae Ak rfl ?_
  refine Aa (Ad ?_)
  refine Ae Ak rfl ?_
  refine Ab rfl (.int .i64 (L.length : Int)) (fun b w hb hH => OT 0 Tryz.underlying65 rfl rfl rfl hH hb) ?_
  refine Aj (post := fun gc => [BH encKey AM (.map (some gc)) ([]), BH encKey AM v L, Bx L]) rfl (SS (kk := encKey) (vv := AM) Tryz.underlying65 rfl rfl) ?_; rintro gc
  refine Ae Ak rfl ?_
  refine Aa (Aq ?_)
  refine F2 (t := Bx ([])) (EV) ?_
  refine Ad ?_
  refine Ae Ak rfl ?_
  refine Aj (post := fun g1 => [Bx ([]), BH encKey AM (.map (some gc)) ([]), FQ encKey AM v (.pointer (some ⟨g1, 0, none⟩)) L L none, Bx L]) rfl (MB 2 Tryz.underlying65 rfl rfl rfl) ?_; rintro g1
  refine Aa (Bb ?_)
  refine CO (α := FilL × FilL × Option (List UInt8 × PtT)) (fun ⟨left, done, cur⟩ => [(2, .map none), (3, .map (some gc)), (10, .pointer (some ⟨g1, 0, none⟩))]) (fun ⟨left, done, cur⟩ => [Bx done, BH encKey AM (.map (some gc)) done, FQ encKey AM v (.pointer (some ⟨g1, 0, none⟩)) L left cur, Bx L]) (fun ⟨left, done, cur⟩ => (Ce done ++ Ce left).Perm (Ce L) ∧ ∀ p, p ∈ left → p ∈ L) (fun ⟨left, done, cur⟩ => left.length) (L, [], none) ⟨.refl _, fun _ h => h⟩ ⟨rfl, rfl, rfl, trivial⟩ rfl ?_
  rintro ⟨left, done, cur⟩ hI
  refine Bv.at_ (env' := [(2, .map none), (3, .map (some gc)), (10, .pointer (some ⟨g1, 0, none⟩))]) (rs' := [Bx done, BH encKey AM (.map (some gc)) done, FQ encKey AM v (.pointer (some ⟨g1, 0, none⟩)) L left cur, Bx L]) ⟨rfl, rfl, rfl, trivial⟩ rfl ?_
  rcases Classical.em (left = []) with hc | hc
  · skip
    have hp : (Ce done).Perm (Ce L) := by have := hI.1; rw [hc] at this; simpa [Ce] using this
    refine Ad ?_
    refine Ae Ak rfl ?_
    refine Ab rfl (.tuple #[.bool false]) (fun b w hb hH => MC 2 rfl hc rfl rfl hH hb) ?_
    refine Ae Ak rfl ?_
    refine Aa (Aq (Ar rfl (Cu (E0 (E0 (Bh (AE ?_)))))))
    refine AZ 2 rfl JA (fun _ => rfl) ?_; rintro ⟨⟩
    refine Bv.leave [1] rfl rfl ?_
    refine Ad ?_
    refine Ae Ak rfl ?_
    refine Aa (Ay ?_)
    exact Av (.tmp rfl) (fun w h => AB (X := { q : Nat × FS // q.2.Perm (Ce L) }) ⟨(gc, Ce done), hp⟩ rfl [0, 3, 2, 1] rfl h (NM rfl)) rfl
  · skip
    refine Ad ?_
    refine Ae Ak rfl ?_
    refine Aj (post := fun q : { q : Nat × List UInt8 × PtT // (left)[q.1]? = some q.2 } => [Bx done, BH encKey AM (.map (some gc)) done, FQ encKey AM v (.pointer (some ⟨g1, 0, none⟩)) L (left.eraseIdx q.1.1) (some (q.1.2.1, q.1.2.2)), Bx L]) rfl (MD 2 rfl hc rfl rfl) ?_; rintro q
    refine Ae Ak rfl ?_
    refine Aa (Aq (AC rfl (Ax (AE (Bb ?_)))))
    have hqm : q.1.2 ∈ L := hI.2 _ (List.mem_of_getElem? q.2)
    have hqn : E1 q.1.2.1 done 0 = none := Pa hnd hI.1 q.2
    have hql : q.1.2.2.2.length ≤ AK (Ce L) := I9 hnd ((B8 hnd).2 (List.mem_map.2 ⟨_, hqm, rfl⟩))
    refine Ad ?_
    refine Ae Ak rfl ?_
    refine Ab rfl (.tuple #[.string (bs q.1.2.1), q.1.2.2.1]) (fun b w hb hH => ME 2 rfl rfl rfl hH hb) ?_
    refine Ae Ak rfl ?_
    refine Aa (Br ?_)
    refine Ae Ak rfl ?_
    refine Aj rfl (Al (os' := fun v9 => [As 5 1 encB v9 q.1.2.2.2, Bx done, BH encKey AM (.map (some gc)) done, FQ encKey AM v (.pointer (some ⟨g1, 0, none⟩)) L (left.eraseIdx q.1.1) (some (q.1.2.1, q.1.2.2)), Bx L]) [3] 0 (Ah Tryz.func59 (by kernel_rfl) rfl) (FP (Hu hqm) (by omega)) rfl rfl rfl (fun _ => rfl) rfl rfl rfl) ?_; rintro v9
    refine AH (post := fun _ => [As 5 1 encB v9 q.1.2.2.2, Bx done, BH encKey AM (.map (some gc)) (BG done q.1.2.1 (v9, q.1.2.2.2)), FQ encKey AM v (.pointer (some ⟨g1, 0, none⟩)) L (left.eraseIdx q.1.1) (some (q.1.2.1, q.1.2.2)), Bx L]) rfl rfl (Jz 2 Dh rfl q.1.2.1 (v9, q.1.2.2.2) rfl rfl rfl rfl rfl rfl) ?_; rintro ⟨⟩
    refine Ue [1, 0] rfl (Qc hqn (v9, q.1.2.2.2)) rfl ?_
    refine AP (Bt ?_)
    exact Cc (left.eraseIdx q.1.1, BG done q.1.2.1 (v9, q.1.2.2.2), some (q.1.2.1, q.1.2.2)) 0 ⟨NL hI.1 q.2 hqn, fun p hp => hI.2 p (List.mem_of_mem_eraseIdx hp)⟩ (show (left.eraseIdx q.1.1).length < left.length from In q.2) ⟨rfl, rfl, rfl, trivial⟩ rfl
end Go.Proofs.YtnknboibmifacaaGreat.Sep
