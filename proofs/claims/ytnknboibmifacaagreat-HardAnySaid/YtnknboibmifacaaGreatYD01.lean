/-
  DskE · DskG
-/
import Derived.Test.YtnknboibmifacaaGreatYB03
import Derived.Test.YtnknboibmifacaaGreatYC01
set_option linter.unusedSimpArgs false
set_option linter.unusedVariables false
set_option maxRecDepth 100000
namespace Go.Proofs.YtnknboibmifacaaGreat.Sep
open Go.RowKit
open Go.Proofs.YtnknboibmifacaaGreat.Mem (Bd Cj Chg AF)
theorem SH {p : Nat} {d : DiskD} (hd : d.down = true) : AS Tryz.prog 28 #[.pointer (some ⟨p, 0, none⟩)] [Ap p d] (fun (_ : Unit) => .bool false) (fun (_ : Unit) => [Ap p d]) := by
 refine A6 (args := [.pointer (some ⟨p, 0, none⟩)]) 30 Tryz.func28 rfl rfl rfl ?_; intro w rs
 refine AY 0 rfl (J3 hd) (fun _ => rfl) ?_; rintro x
 refine Ad ?_
 refine Af Aj rfl ?_
 refine Ab (Aq (Ad ?_))
 refine Af Aj rfl ?_
 refine Ac rfl (.pointer (some ⟨p, 0, none⟩)) (fun b w hb hH => by exact BO rfl rfl hb) ?_
 refine Af Aj rfl ?_
 refine Ac rfl (.bool true) (fun b w hb hH => Bg rfl rfl (Bt BN rfl) (hH.row 0 rfl) hb) ?_
 refine Ab (AD rfl (Ad ?_))
 refine Af Aj rfl ?_
 refine Ab (Az (CO ?_))
 exact Ay (.tmp rfl) (fun w h => AB () rfl [0, 1, 2, 3] rfl h (IL (os := []) ⟨x.pv, x.sm, .map none, x.W, [], x.hW, (fun h => by rw [hd] at h; cases h), x.hok, x.hf, x.hr, x.hk⟩ hd rfl)) rfl
theorem Nw {p : Nat} {d : DiskD} (hd : d.down = false) (hf : d.fuse = some 0) : AS Tryz.prog 28 #[.pointer (some ⟨p, 0, none⟩)] [Ap p d] (fun (_ : Unit) => .bool false) (fun (_ : Unit) => [Ap p ({ d with down := true })]) := by
 refine A6 (args := [.pointer (some ⟨p, 0, none⟩)]) 30 Tryz.func28 rfl rfl rfl ?_; intro w rs
 refine AY 0 rfl (Hb hd) (fun _ => rfl) ?_; rintro x
 refine Ad ?_
 refine Af Aj rfl ?_
 refine Ab (Aq (Ad ?_))
 refine Af Aj rfl ?_
 refine Ac rfl (.pointer (some ⟨p, 0, none⟩)) (fun b w hb hH => by exact BO rfl rfl hb) ?_
 refine Af Aj rfl ?_
 refine Ac rfl (.bool false) (fun b w hb hH => Bg rfl rfl (Bt BN rfl) (hH.row 0 rfl) hb) ?_
 refine Ab (Au rfl (Ax (AG (Aq (Ad ?_)))))
 refine Af Aj rfl ?_
 refine Ac rfl (.pointer (some ⟨p, 0, none⟩)) (fun b w hb hH => by exact BO rfl rfl hb) ?_
 refine Af Aj rfl ?_
 refine Ac rfl (.int .i64 (CV d.fuse)) (fun b w hb hH => Bg rfl rfl (Bt Bj rfl) (hH.row 0 rfl) hb) ?_
 refine Ac rfl (.bool true) (fun b w hb hH => Bh rfl rfl rfl (Ks (by rw [hf]; rfl)) hb) ?_
 refine Ab (AD rfl (Ad ?_))
 refine Af Aj rfl ?_
 refine Ac rfl (.pointer (some ⟨p, 0, none⟩)) (fun b w hb hH => by exact BO rfl rfl hb) ?_
 refine Af Aj rfl ?_
 refine AT (post := fun _ => [cell p 67 #[.int .i64 d.room, .int .i64 (CV d.fuse), .bool true, x.pv, x.sm, x.sh], Ao 99 5 encO x.pv x.W, BF x.W, Av x.sm d.syn, Av x.sh x.g]) rfl rfl (AM 0 (v := .bool true) #[.int .i64 d.room, .int .i64 (CV d.fuse), .bool true, x.pv, x.sm, x.sh] BN.2 rfl rfl rfl rfl rfl rfl rfl rfl rfl) ?_; rintro ⟨⟩
 refine Ac rfl (.pointer (some ⟨p, 0, none⟩)) (fun b w hb hH => by exact BO rfl rfl hb) ?_
 refine Af Aj rfl ?_
 refine AT (post := fun _ => [cell p 67 #[.int .i64 d.room, .int .i64 (CV d.fuse), .bool true, x.pv, x.sm, .map none], Ao 99 5 encO x.pv x.W, BF x.W, Av x.sm d.syn, Av x.sh x.g]) rfl rfl (AM 0 (v := .map none) #[.int .i64 d.room, .int .i64 (CV d.fuse), .bool true, x.pv, x.sm, .map none] AJ.2 rfl rfl rfl rfl rfl rfl rfl rfl rfl) ?_; rintro ⟨⟩
 refine Ab (Ad ?_)
 refine Af Aj rfl ?_
 refine Ab (Az (CO ?_))
 exact Ay (.tmp rfl) (fun w h => AB () rfl [0, 1, 2, 3] rfl h (IL (os := []) (d := { d with down := true }) ⟨x.pv, x.sm, .map none, x.W, [], x.hW, (fun h => by cases h), x.hok, x.hf, x.hr, x.hk⟩ rfl rfl)) rfl
theorem OY {p : Nat} {d : DiskD} {n : Nat} (hd : d.down = false) (hf : d.fuse = some (n + 1)) : AS Tryz.prog 28 #[.pointer (some ⟨p, 0, none⟩)] [Ap p d] (fun (_ : Unit) => .bool true) (fun (_ : Unit) => [Ap p ({ d with fuse := some n })]) := by
 refine A6 (args := [.pointer (some ⟨p, 0, none⟩)]) 30 Tryz.func28 rfl rfl rfl ?_; intro w rs
 refine AY 0 rfl (Hb hd) (fun _ => rfl) ?_; rintro x
 have hz : CV d.fuse = (n : Int) + 1 := by rw [hf]; rfl
 have hn := x.hf _ hf
 refine Ad ?_
 refine Af Aj rfl ?_
 refine Ab (Aq (Ad ?_))
 refine Af Aj rfl ?_
 refine Ac rfl (.pointer (some ⟨p, 0, none⟩)) (fun b w hb hH => by exact BO rfl rfl hb) ?_
 refine Af Aj rfl ?_
 refine Ac rfl (.bool false) (fun b w hb hH => Bg rfl rfl (Bt BN rfl) (hH.row 0 rfl) hb) ?_
 refine Ab (Au rfl (Ax (AG (Aq (Ad ?_)))))
 refine Af Aj rfl ?_
 refine Ac rfl (.pointer (some ⟨p, 0, none⟩)) (fun b w hb hH => by exact BO rfl rfl hb) ?_
 refine Af Aj rfl ?_
 refine Ac rfl (.int .i64 (CV d.fuse)) (fun b w hb hH => Bg rfl rfl (Bt Bj rfl) (hH.row 0 rfl) hb) ?_
 refine Ac rfl (.bool false) (fun b w hb hH => Bh rfl rfl rfl (Le (by omega)) hb) ?_
 refine Ab (Au rfl (Ax (AG (Aq (Ad ?_)))))
 refine Af Aj rfl ?_
 refine Ac rfl (.pointer (some ⟨p, 0, none⟩)) (fun b w hb hH => by exact BO rfl rfl hb) ?_
 refine Af Aj rfl ?_
 refine Ac rfl (.int .i64 (CV d.fuse)) (fun b w hb hH => Bg rfl rfl (Bt Bj rfl) (hH.row 0 rfl) hb) ?_
 refine Ac rfl (.bool true) (fun b w hb hH => Bh rfl rfl rfl (B2 (by omega)) hb) ?_
 refine Ab (AD rfl (BI ?_))
 refine Af Aj rfl ?_
 refine Ac rfl (.pointer (some ⟨p, 0, none⟩)) (fun b w hb hH => by exact BO rfl rfl hb) ?_
 refine Af Aj rfl ?_
 refine Ac rfl (.int .i64 (CV d.fuse)) (fun b w hb hH => Bg rfl rfl (Bt Bj rfl) (hH.row 0 rfl) hb) ?_
 refine Ac rfl (.int .i64 (n : Int)) (fun b w hb hH => AK rfl rfl rfl rfl (by rw [IntWalk.i64_in _ (by omega)]; omega) hb) ?_
 refine Ac rfl (.pointer (some ⟨p, 0, none⟩)) (fun b w hb hH => by exact BO rfl rfl hb) ?_
 refine Af Aj rfl ?_
 refine AT (post := fun _ => [cell p 67 #[.int .i64 d.room, .int .i64 (n : Int), .bool false, x.pv, x.sm, x.sh], Ao 99 5 encO x.pv x.W, BF x.W, Av x.sm d.syn, Av x.sh x.g]) rfl rfl (AM 0 (v := .int .i64 (n : Int)) #[.int .i64 d.room, .int .i64 (n : Int), .bool false, x.pv, x.sm, x.sh] Bj.2 rfl rfl rfl rfl rfl rfl rfl rfl rfl) ?_; rintro ⟨⟩
 refine AP (AG (Ad ?_))
 refine Af Aj rfl ?_
 refine Ab (Az ?_)
 exact Ay (.tmp rfl) (fun w h => AB () rfl [0, 1, 2, 3, 4] rfl h (FI (os := []) (d := { d with fuse := some n }) ⟨x.pv, x.sm, x.sh, x.W, x.g, x.hW, x.hg, x.hok, (fun m hm => by cases hm; omega), x.hr, x.hk⟩ hd)) rfl
theorem Rf {p : Nat} {d : DiskD} (hd : d.down = false) (hf : d.fuse = none) : AS Tryz.prog 28 #[.pointer (some ⟨p, 0, none⟩)] [Ap p d] (fun (_ : Unit) => .bool true) (fun (_ : Unit) => [Ap p d]) := by
 refine A6 (args := [.pointer (some ⟨p, 0, none⟩)]) 30 Tryz.func28 rfl rfl rfl ?_; intro w rs
 refine AY 0 rfl (Hb hd) (fun _ => rfl) ?_; rintro x
 have hz : CV d.fuse = -1 := by rw [hf]; rfl
 refine Ad ?_
 refine Af Aj rfl ?_
 refine Ab (Aq (Ad ?_))
 refine Af Aj rfl ?_
 refine Ac rfl (.pointer (some ⟨p, 0, none⟩)) (fun b w hb hH => by exact BO rfl rfl hb) ?_
 refine Af Aj rfl ?_
 refine Ac rfl (.bool false) (fun b w hb hH => Bg rfl rfl (Bt BN rfl) (hH.row 0 rfl) hb) ?_
 refine Ab (Au rfl (Ax (AG (Aq (Ad ?_)))))
 refine Af Aj rfl ?_
 refine Ac rfl (.pointer (some ⟨p, 0, none⟩)) (fun b w hb hH => by exact BO rfl rfl hb) ?_
 refine Af Aj rfl ?_
 refine Ac rfl (.int .i64 (CV d.fuse)) (fun b w hb hH => Bg rfl rfl (Bt Bj rfl) (hH.row 0 rfl) hb) ?_
 refine Ac rfl (.bool false) (fun b w hb hH => Bh rfl rfl rfl (Le (by omega)) hb) ?_
 refine Ab (Au rfl (Ax (AG (Aq (Ad ?_)))))
 refine Af Aj rfl ?_
 refine Ac rfl (.pointer (some ⟨p, 0, none⟩)) (fun b w hb hH => by exact BO rfl rfl hb) ?_
 refine Af Aj rfl ?_
 refine Ac rfl (.int .i64 (CV d.fuse)) (fun b w hb hH => Bg rfl rfl (Bt Bj rfl) (hH.row 0 rfl) hb) ?_
 refine Ac rfl (.bool false) (fun b w hb hH => Bh rfl rfl rfl (BC (by omega)) hb) ?_
 refine Ab (Au rfl (Ax (AG (Ad ?_))))
 refine Af Aj rfl ?_
 refine Ab (Az ?_)
 exact Ay (.tmp rfl) (fun w h => AB () rfl [0, 1, 2, 3, 4] rfl h (FI (os := []) x hd)) rfl
theorem GC {p : Nat} {d d1 : DiskD} (h : Ba d = (d1, 3)) : AS Tryz.prog 28 #[.pointer (some ⟨p, 0, none⟩)] [Ap p d] (fun _ : Unit => .bool false) (fun _ => [Ap p d1]) := by
  unfold Ba at h
  cases hd : d.down
  · cases hf : d.fuse with
    | none => rw [if_neg (by simp [hd, hf])] at h; cases h
    | some n =>
      cases n with
      | zero => rw [if_pos (.inr hf)] at h; cases h; exact Nw hd hf
      | succ n => rw [if_neg (by simp [hd, hf])] at h; cases h
  · rw [if_pos (.inl hd)] at h
    cases h
    have e : ({ d with down := true } : DiskD) = d := by obtain ⟨_, _, _, _, dn⟩ := d; cases hd; rfl
    rw [e]; exact SH hd
theorem C7 {p : Nat} {d d1 : DiskD} (h : Ba d = (d1, 0)) : AS Tryz.prog 28 #[.pointer (some ⟨p, 0, none⟩)] [Ap p d] (fun _ : Unit => .bool true) (fun _ => [Ap p d1]) := by
  unfold Ba at h
  cases hd : d.down
  · cases hf : d.fuse with
    | none =>
      rw [if_neg (by simp [hd, hf])] at h
      cases h
      have e : ({ d with fuse := d.fuse.map (· - 1) } : DiskD) = d := by obtain ⟨_, _, _, fu, _⟩ := d; cases hf; rfl
      rw [e]; exact Rf hd hf
    | some n =>
      cases n with
      | zero => rw [if_pos (.inr hf)] at h; cases h
      | succ n =>
        rw [if_neg (by simp [hd, hf])] at h
        cases h
        rw [hf]; exact OY hd hf
  · rw [if_pos (.inl hd)] at h; cases h
theorem Dp {d d1 : DiskD} (h : Ba d = (d1, 0)) : d1.down = false ∧ d1.syn = d.syn ∧ d1.wait = d.wait ∧ d1.room = d.room := by
  unfold Ba at h
  cases hd : d.down
  · by_cases hf : d.fuse = some 0
    · rw [if_pos (.inr hf)] at h; cases h
    · rw [if_neg (by simp [hd, hf])] at h; cases h; exact ⟨hd, rfl, rfl, rfl⟩
  · rw [if_pos (.inl hd)] at h; cases h
theorem GD (d : DiskD) : (Ba d).2 = 3 ∨ (Ba d).2 = 0 := by
  unfold Ba
  split
  · exact .inl rfl
  · exact .inr rfl
theorem Da {d d1 : DiskD} (h : Ba d = (d1, 0)) (hd : d.fit) : d1.fit := by
 obtain ⟨_, h1, h2, _⟩ := Dp h
 unfold DiskD.fit
 rw [h1, h2]; exact hd
theorem KT {p : Nat} {d : DiskD} {x : OpV} (hd : d.down = false) (hfit : d.fit) (ho : Ly d.now x.o) (hl : x.o.size ≤ 1048576) : AS Tryz.prog 58 #[.pointer (some ⟨p, 0, none⟩), .agg (encO x).toArray] [Ap p d, Ao 5 1 encB x.v x.o.data] (fun (_ : Unit) => .int .i64 0) (fun (_ : Unit) => [Ap p (Cn d x.o)]) := by
  refine A6 (args := [.pointer (some ⟨p, 0, none⟩), .agg (encO x).toArray]) 21 Tryz.func58 rfl rfl rfl ?_; intro w rs
  refine AY 0 rfl (Hb hd) (fun _ => rfl) ?_; rintro y
  refine Bo.fact 3 rfl Bx ?_; rintro hsn
  refine Bo.fact 4 rfl Bx ?_; rintro hgn
  have hu : AE y.g ≤ 1099511627776 := by rw [C9 (y.hg hd)]; exact H7 hfit hsn y.hok
  have hWl := J4 y
  have hw := hfit.2
  have ho2 := Nr (y.hg hd).symm (LG hsn) ho
  refine Ad ?_
  refine Af Aj rfl ?_
  refine Ai (post := fun g1 => [cell g1 99 #[.int .i64 x.o.kind, .string (bs x.o.name), x.v, .int .i64 (x.o.cutS : Int), .string (bs x.o.to)], cell p 67 #[.int .i64 d.room, .int .i64 (CV d.fuse), .bool false, y.pv, y.sm, y.sh], Ao 99 5 encO y.pv y.W, BF y.W, Av y.sm d.syn, Av y.sh y.g, Ao 5 1 encB x.v x.o.data]) rfl (CZ (cs := #[.int .i64 x.o.kind, .string (bs x.o.name), x.v, .int .i64 (x.o.cutS : Int), .string (bs x.o.to)]) rfl rfl rfl) ?_; rintro g1
  refine Af Aj rfl ?_
  refine Ab (Aq ?_)
  refine BM 6 1 [⟨.quiet, [none], fun _ => .pointer (some ⟨p, 0, none⟩), []⟩, ⟨.quiet, [none], fun _ => .pointer (some ⟨p, 0, none⟩), [0]⟩, ⟨.quiet, [none], fun _ => .pointer (some ⟨p, 5, none⟩), [1]⟩, ⟨.quiet, [none], fun _ => y.sh, [2]⟩, ⟨.quiet, [none], fun _ => .agg #[.int .i64 x.o.kind, .string (bs x.o.name), x.v, .int .i64 (x.o.cutS : Int), .string (bs x.o.to)], []⟩, ⟨.actv 0, [some false], fun _ => .tuple #[], [3, 4]⟩] [(0, .pointer (some ⟨p, 0, none⟩)), (3, .pointer (some ⟨g1, 0, none⟩)), (4, .int .i64 0)] (fun ρ => match ρ with | [r0] => [cell g1 99 #[.int .i64 x.o.kind, .string (bs x.o.name), x.v, .int .i64 (x.o.cutS : Int), .string (bs x.o.to)], cell p 67 #[.int .i64 d.room, .int .i64 (CV d.fuse), .bool false, y.pv, y.sm, y.sh], Ao 99 5 encO y.pv y.W, BF y.W, Av y.sm d.syn, CP r0 (fun _ => Av y.sh (AW y.g x.o)) (Av y.sh y.g), Ao 5 1 encB x.v x.o.data] | _ => []) (by kernel_rfl) (by kernel_rfl) ⟨rfl, rfl, rfl, trivial⟩ rfl ?_ ?_
  · skip
    refine Aa (by intro r0_; exact ⟨rfl, fun b w hH hb => Ae Aj rfl hb⟩) ?_
    refine Aa (by intro r0_; exact ⟨rfl, fun b w hH hb => by exact BO rfl rfl hb⟩) ?_
    refine Aa (by intro r0_; exact ⟨rfl, fun b w hH hb => Ae Aj rfl hb⟩) ?_
    refine Aa (by intro r0_; exact ⟨rfl, fun b w hH hb => Bg rfl rfl (Bt AJ rfl) (hH.row 1 rfl) hb⟩) ?_
    refine Aa (by intro r0_; exact ⟨rfl, fun b w hH hb => Bg rfl rfl (EH (cs := [.int .i64 x.o.kind, .string (bs x.o.name), x.v, .int .i64 (x.o.cutS : Int), .string (bs x.o.to)]) Cd rfl) (hH.row 0 rfl) hb⟩) ?_
    refine Aa (by exact ⟨rfl, Br.su (Am (os' := fun _ => [cell g1 99 #[.int .i64 x.o.kind, .string (bs x.o.name), x.v, .int .i64 (x.o.cutS : Int), .string (bs x.o.to)], cell p 67 #[.int .i64 d.room, .int .i64 (CV d.fuse), .bool false, y.pv, y.sm, y.sh], Ao 99 5 encO y.pv y.W, BF y.W, Av y.sm d.syn, Av y.sh (AW y.g x.o), Ao 5 1 encB x.v x.o.data]) [5, 6] 0 (Ah Tryz.func68 (by kernel_rfl) rfl) (SG ho2 CQ (by omega) rfl) rfl rfl rfl (fun _ => rfl) rfl rfl rfl) rfl⟩) ?_
    exact B7
  intro v0_
  refine Ch.keep (env' := [(0, .pointer (some ⟨p, 0, none⟩)), (3, .pointer (some ⟨g1, 0, none⟩)), (4, .int .i64 0)]) ⟨rfl, rfl, rfl, trivial⟩ ?_
  refine AP (AG (Aq ?_))
  refine EL 1 rfl ?_
  refine BM 10 2 [⟨.quiet, [none, none], fun _ => .pointer (some ⟨p, 0, none⟩), []⟩, ⟨.quiet, [none, none], fun _ => .pointer (some ⟨p, 0, none⟩), []⟩, ⟨.quiet, [none, none], fun _ => .pointer (some ⟨p, 0, none⟩), [1]⟩, ⟨.quiet, [none, none], fun _ => .pointer (some ⟨p, 3, none⟩), [2]⟩, ⟨.quiet, [none, none], fun _ => y.pv, [3]⟩, ⟨.quiet, [none, none], fun _ => .agg #[.int .i64 x.o.kind, .string (bs x.o.name), x.v, .int .i64 (x.o.cutS : Int), .string (bs x.o.to)], []⟩, ⟨.act 0, [some false, some false], fun _ => undef, [5]⟩, ⟨.act 1, [some true, some false], fun _ => undef, [4, 6]⟩, ⟨.quiet, [some true, some true], fun _ => .pointer (some ⟨p, 0, none⟩), [0]⟩, ⟨.quiet, [some true, some true], fun _ => .pointer (some ⟨p, 3, none⟩), [8]⟩] [(0, .pointer (some ⟨p, 0, none⟩)), (3, .pointer (some ⟨g1, 0, none⟩)), (4, .int .i64 0)] (fun ρ => match ρ with | [r0, r1] => [CP r0 (fun u1 => Ao 99 5 encO u1 ([x])) (E0), cell g1 99 #[.int .i64 x.o.kind, .string (bs x.o.name), x.v, .int .i64 (x.o.cutS : Int), .string (bs x.o.to)], cell p 67 #[.int .i64 d.room, .int .i64 (CV d.fuse), .bool false, y.pv, y.sm, y.sh], CP r1 (fun u2 => Ao 99 5 encO u2 (y.W ++ ([x]))) (Ao 99 5 encO y.pv y.W), BF y.W, Av y.sm d.syn, Av y.sh (AW y.g x.o), Ao 5 1 encB x.v x.o.data] | _ => []) (by kernel_rfl) (by kernel_rfl) ⟨rfl, rfl, rfl, trivial⟩ rfl ?_ ?_
  · skip
    refine Aa (by intro r0_ r1_; exact ⟨rfl, fun b w hH hb => Ae Aj rfl hb⟩) ?_
    refine Aa (by intro r0_ r1_; exact ⟨rfl, fun b w hH hb => Ae Aj rfl hb⟩) ?_
    refine Aa (by intro r0_ r1_; exact ⟨rfl, fun b w hH hb => by exact BO rfl rfl hb⟩) ?_
    refine Aa (by intro r0_ r1_; exact ⟨rfl, fun b w hH hb => Ae Aj rfl hb⟩) ?_
    refine Aa (by intro r0_ r1_; exact ⟨rfl, fun b w hH hb => Bg rfl rfl (Bt BP rfl) (hH.row 2 rfl) hb⟩) ?_
    refine Aa (by intro r0_ r1_; exact ⟨rfl, fun b w hH hb => Bg rfl rfl (EH (cs := [.int .i64 x.o.kind, .string (bs x.o.name), x.v, .int .i64 (x.o.cutS : Int), .string (bs x.o.to)]) Cd rfl) (hH.row 1 rfl) hb⟩) ?_
    refine Aa (by exact ⟨rfl, Br.s (Br.place (val := fun u1 : Value => u1) (t := fun u1 => Ao 99 5 encO u1 ([x])) (os' := fun u1 => [Ao 99 5 encO u1 ([x]), cell g1 99 #[.int .i64 x.o.kind, .string (bs x.o.name), x.v, .int .i64 (x.o.cutS : Int), .string (bs x.o.to)], cell p 67 #[.int .i64 d.room, .int .i64 (CV d.fuse), .bool false, y.pv, y.sm, y.sh], Ao 99 5 encO y.pv y.W, BF y.W, Av y.sm d.syn, Av y.sh (AW y.g x.o), Ao 5 1 encB x.v x.o.data]) 0 rfl (by refine Ec (e := 99) (t := 63) (k := 5) (enc := encO) (x := .tmp 16) (c := .agg #[.int .i64 x.o.kind, .string (bs x.o.name), x.v, .int .i64 (x.o.cutS : Int), .string (bs x.o.to)]) ?_ ?_ ?_ x ?_ ?_ ?_; exact Ct; exact (by decide); exact P4; exact rfl; exact rfl; exact rfl) (fun _ => rfl)) (fun _ => rfl)⟩) ?_
    refine Aa (by intro u1; exact ⟨rfl, Br.s (DK 3 Ct P4 rfl ([x]) (fun w hH => hH.vec 0 rfl P4) (by simp only [List.length_cons, List.length_nil]; omega) rfl rfl rfl rfl) (fun _ => rfl)⟩) ?_
    refine Aa (by intro u1 u2; exact ⟨rfl, fun b w hH hb => by exact BO rfl rfl hb⟩) ?_
    refine Aa (by intro u1 u2; exact ⟨rfl, fun b w hH hb => Ae Aj rfl hb⟩) ?_
    exact B7
  intro u1 u2
  refine Ch.keep (env' := [(4, .int .i64 0), (18, u2), (20, .pointer (some ⟨p, 3, none⟩))]) ⟨rfl, rfl, rfl, trivial⟩ ?_
  refine Af Aj rfl ?_
  refine AT (post := fun _ => [Ao 99 5 encO u1 ([x]), cell g1 99 #[.int .i64 x.o.kind, .string (bs x.o.name), x.v, .int .i64 (x.o.cutS : Int), .string (bs x.o.to)], cell p 67 #[.int .i64 d.room, .int .i64 (CV d.fuse), .bool false, u2, y.sm, y.sh], Ao 99 5 encO u2 (y.W ++ ([x])), BF y.W, Av y.sm d.syn, Av y.sh (AW y.g x.o), Ao 5 1 encB x.v x.o.data]) rfl rfl (Gq 2 3 (v := u2) #[.int .i64 d.room, .int .i64 (CV d.fuse), .bool false, u2, y.sm, y.sh] BP.2 rfl (fun _ h => Ao.c1 h) rfl rfl rfl rfl rfl rfl rfl) ?_; rintro ⟨⟩
  refine AP (AG ?_)
  refine Bf [4, 7] rfl HP rfl ?_
  refine Ad ?_
  refine Af Aj rfl ?_
  refine Ab (Az ?_)
  exact Ay (.tmp rfl) (fun w h => AB () rfl [3, 4, 0, 5, 6] rfl h (FI (os := []) (d := Cn d x.o) ⟨u2, y.sm, y.sh, y.W ++ [x], AW y.g x.o, (by rw [show DF (y.W ++ [x]) = DF y.W ++ [x.o] by simp [DF], y.hW]; rfl), (fun _ => by rw [CJ]; exact Q2 (y.hg hd) hgn x.o), Jk y.hok ho, y.hf, y.hr, y.hk⟩ hd)) rfl
end Go.Proofs.YtnknboibmifacaaGreat.Sep
namespace Go.Proofs.YtnknboibmifacaaGreat.Sep
open Go.RowKit
open Go.Proofs.YtnknboibmifacaaGreat.Mem (Bd Cj Chg AF)
theorem Nx {p k : Nat} {r1 r2 r3 pv sm sh : Value} {W K : List OpV} {f f' : FS} (hk : k ≤ W.length) (hW : W.length ≤ 1000000) (hK : W.take k = K) (hok : Fe f (DF K)) (hsz : AE f + ((DF K).map OpD.size).sum ≤ 1099511627776) (hf : (DF K).foldl AW f = f') : AS Tryz.prog 29 #[.pointer (some ⟨p, 0, none⟩), .int .i64 (k : Int)] [cell p 67 #[r1, r2, r3, pv, sm, sh], Ao 99 5 encO pv W, BF W, Av sm f] (fun (_ : Unit) => .tuple #[]) (fun (_ : Unit) => [cell p 67 #[r1, r2, r3, .slice none 0 0, sm, sh], Ao 99 5 encO pv W, BF W, Av sm f']) := by
  refine A6 (args := [.pointer (some ⟨p, 0, none⟩), .int .i64 (k : Int)]) 27 Tryz.func29 rfl rfl rfl ?_; intro w rs
  refine Bo.fact 3 rfl Bx ?_; rintro hnd
  have hKl : K.length ≤ W.length := by rw [← hK, List.length_take]; omega
  refine Aq (Ad ?_)
  refine Af Aj rfl ?_
  refine Ac rfl (.pointer (some ⟨p, 0, none⟩)) (fun b w hb hH => by exact BO rfl rfl hb) ?_
  refine Af Aj rfl ?_
  refine Ac rfl (pv) (fun b w hb hH => Bg rfl rfl (Bt BP rfl) (hH.row 0 rfl) hb) ?_
  refine Af Aj rfl ?_
  refine Ac rfl (Ci 5 pv 0 k) (fun b w hb hH => G2 1 (b := k) Ct rfl hk rfl rfl rfl hH hb) ?_
  refine Ac rfl (.int .i64 (K.length : Int)) (fun b w hb hH => AQ (hH.vecq 1 rfl P4 (Nat.zero_le _) hk (m := K) (by simpa using hK)) Tryz.underlying63 rfl rfl hb) ?_
  refine Af Aj rfl ?_
  refine Ab (AX ?_)
  refine CE (α := Nat) (fun i => [(0, .pointer (some ⟨p, 0, none⟩)), (11, Ci 5 pv 0 k), (12, .int .i64 (K.length : Int)), (13, .int .i64 ((i : Nat) : Int))]) (fun i => [cell p 67 #[r1, r2, r3, pv, sm, sh], Ao 99 5 encO pv W, BF W, Av sm (((DF K).take i).foldl AW f)]) (fun i => i ≤ K.length) (fun i => K.length - i) 0 (Nat.zero_le _) ⟨rfl, rfl, rfl, rfl, trivial⟩ rfl ?_
  rintro i hI
  refine Bo.at_ (env' := [(0, .pointer (some ⟨p, 0, none⟩)), (11, Ci 5 pv 0 k), (12, .int .i64 (K.length : Int)), (13, .int .i64 ((i : Nat) : Int))]) (rs' := [cell p 67 #[r1, r2, r3, pv, sm, sh], Ao 99 5 encO pv W, BF W, Av sm (((DF K).take i).foldl AW f)]) ⟨rfl, rfl, rfl, rfl, trivial⟩ rfl ?_
  have hc : i < K.length ∨ K.length ≤ i := by omega
  rcases hc with hi | hi
  · skip
    obtain ⟨a, ha⟩ : ∃ a, K[i]? = some a := ⟨_, List.getElem?_eq_getElem hi⟩
    have haW : a ∈ W := by rw [← hK] at ha; exact List.mem_of_mem_take (List.mem_of_getElem? ha)
    have hao : (DF K)[i]? = some a.o := by unfold DF; rw [List.getElem?_map, ha]; rfl
    have hsa : AE (((DF K).take i).foldl AW f) + a.o.size ≤ 1099511627776 := IM hnd hok hao hsz
    refine Ad ?_
    refine Af Aj rfl ?_
    refine Ac rfl (.bool true) (fun b w hb hH => Bh rfl rfl rfl (Bl (by omega)) hb) ?_
    refine Ab (Aq (AD rfl (Ax (AG (Aq (AX (Ad ?_)))))))
    refine Af Aj rfl ?_
    refine Ac rfl (Cc (Ci 5 pv 0 k) (i * 5)) (fun b w hb hH => BA P4 (hH.vecq 1 rfl P4 (Nat.zero_le _) hk (m := K) (by simpa using hK)) Ct (j := i) ha rfl rfl rfl hb) ?_
    refine Ac rfl (.agg (encO a).toArray) (fun b w hb hH => Oj P4 (by decide) (hH.vecq 1 rfl P4 (Nat.zero_le _) hk (m := K) (by simpa using hK)) (j := i) ha Cd rfl rfl hb) ?_
    refine Ai (post := fun gc => [cell gc 99 #[.int .i64 0, .string { data := #[] }, .slice none 0 0, .int .i64 0, .string { data := #[] }], cell p 67 #[r1, r2, r3, pv, sm, sh], Ao 99 5 encO pv W, BF W, Av sm (((DF K).take i).foldl AW f)]) rfl (BL IH rfl) ?_; rintro gc
    refine AT (post := fun _ => [cell gc 99 #[.int .i64 a.o.kind, .string (bs a.o.name), a.v, .int .i64 (a.o.cutS : Int), .string (bs a.o.to)], cell p 67 #[r1, r2, r3, pv, sm, sh], Ao 99 5 encO pv W, BF W, Av sm (((DF K).take i).foldl AW f)]) rfl rfl (AM 0 (v := .agg (encO a).toArray) #[.int .i64 a.o.kind, .string (bs a.o.name), a.v, .int .i64 (a.o.cutS : Int), .string (bs a.o.to)] Cd.2 rfl rfl rfl rfl rfl rfl rfl rfl rfl) ?_; rintro ⟨⟩
    refine Ab ?_
    refine BM 6 1 [⟨.quiet, [none], fun _ => .pointer (some ⟨p, 0, none⟩), []⟩, ⟨.quiet, [none], fun _ => .pointer (some ⟨p, 0, none⟩), [0]⟩, ⟨.quiet, [none], fun _ => .pointer (some ⟨p, 4, none⟩), [1]⟩, ⟨.quiet, [none], fun _ => sm, [2]⟩, ⟨.quiet, [none], fun _ => .agg #[.int .i64 a.o.kind, .string (bs a.o.name), a.v, .int .i64 (a.o.cutS : Int), .string (bs a.o.to)], []⟩, ⟨.actv 0, [some false], fun _ => .tuple #[], [3, 4]⟩] [(0, .pointer (some ⟨p, 0, none⟩)), (11, Ci 5 pv 0 k), (12, .int .i64 (K.length : Int)), (13, .int .i64 ((i : Nat) : Int)), (14, .bool true), (15, Cc (Ci 5 pv 0 k) (i * 5)), (16, .agg (encO a).toArray), (5, .pointer (some ⟨gc, 0, none⟩))] (fun ρ => match ρ with | [r0] => [cell gc 99 #[.int .i64 a.o.kind, .string (bs a.o.name), a.v, .int .i64 (a.o.cutS : Int), .string (bs a.o.to)], cell p 67 #[r1, r2, r3, pv, sm, sh], Ao 99 5 encO pv W, BF W, CP r0 (fun _ => Av sm (((DF K).take (i + 1)).foldl AW f)) (Av sm (((DF K).take i).foldl AW f))] | _ => []) (by kernel_rfl) (by kernel_rfl) ⟨rfl, rfl, rfl, rfl, rfl, rfl, rfl, rfl, trivial⟩ rfl ?_ ?_
    · skip
      refine Aa (by intro r0_; exact ⟨rfl, fun b w hH hb => Ae Aj rfl hb⟩) ?_
      refine Aa (by intro r0_; exact ⟨rfl, fun b w hH hb => by exact BO rfl rfl hb⟩) ?_
      refine Aa (by intro r0_; exact ⟨rfl, fun b w hH hb => Ae Aj rfl hb⟩) ?_
      refine Aa (by intro r0_; exact ⟨rfl, fun b w hH hb => Bg rfl rfl (Bt AJ rfl) (hH.row 1 rfl) hb⟩) ?_
      refine Aa (by intro r0_; exact ⟨rfl, fun b w hH hb => Bg rfl rfl (EH (cs := [.int .i64 a.o.kind, .string (bs a.o.name), a.v, .int .i64 (a.o.cutS : Int), .string (bs a.o.to)]) Cd rfl) (hH.row 0 rfl) hb⟩) ?_
      refine Aa (by exact ⟨rfl, Br.su (Am (os' := fun _ => [cell gc 99 #[.int .i64 a.o.kind, .string (bs a.o.name), a.v, .int .i64 (a.o.cutS : Int), .string (bs a.o.to)], cell p 67 #[r1, r2, r3, pv, sm, sh], Ao 99 5 encO pv W, BF W, Av sm (((DF K).take (i + 1)).foldl AW f)]) [4, 3] 0 (Ah Tryz.func68 (by kernel_rfl) rfl) (SG (Mw hok hao) (P5 haW) (by omega) (Re hao f).symm) rfl rfl rfl (fun _ => rfl) rfl rfl rfl) rfl⟩) ?_
      exact B7
    intro v0_
    refine Ch.keep (env' := [(0, .pointer (some ⟨p, 0, none⟩)), (11, Ci 5 pv 0 k), (12, .int .i64 (K.length : Int)), (13, .int .i64 ((i : Nat) : Int)), (14, .bool true), (15, Cc (Ci 5 pv 0 k) (i * 5)), (16, .agg (encO a).toArray), (5, .pointer (some ⟨gc, 0, none⟩)), (17, .pointer (some ⟨p, 0, none⟩)), (18, .pointer (some ⟨p, 0, none⟩)), (19, .pointer (some ⟨p, 4, none⟩)), (20, sm), (21, .agg #[.int .i64 a.o.kind, .string (bs a.o.name), a.v, .int .i64 (a.o.cutS : Int), .string (bs a.o.to)])]) ⟨rfl, rfl, rfl, rfl, rfl, rfl, rfl, rfl, rfl, rfl, rfl, rfl, rfl, trivial⟩ ?_
    refine AP (BJ (AG ?_))
    refine Bo.leave [0] rfl rfl ?_
    refine BI ?_
    refine Af Aj rfl ?_
    refine Ac rfl (.int .i64 ((i + 1 : Nat) : Int)) (fun b w hb hH => AK rfl rfl rfl rfl (by rw [IntWalk.i64_in _ (by omega)]; omega) hb) ?_
    refine Af Aj rfl ?_
    refine AP ?_
    exact Cr (i + 1) 0 (by omega) (by show K.length - (i + 1) < K.length - i; omega) ⟨rfl, rfl, rfl, rfl, trivial⟩ rfl
  · skip
    have he : ((DF K).take i).foldl AW f = f' := by rw [List.take_of_length_le (by unfold DF; rw [List.length_map]; exact hi)]; exact hf
    refine Ad ?_
    refine Af Aj rfl ?_
    refine Ac rfl (.bool false) (fun b w hb hH => Bh rfl rfl rfl (Bu (by omega)) hb) ?_
    refine Ab (Aq (Au rfl (Cu (EO (EO (Bc (AG ?_)))))))
    rw [he]
    refine BI ?_
    refine Af Aj rfl ?_
    refine Ac rfl (.pointer (some ⟨p, 0, none⟩)) (fun b w hb hH => by exact BO rfl rfl hb) ?_
    refine Af Aj rfl ?_
    refine AT (post := fun _ => [cell p 67 #[r1, r2, r3, .slice none 0 0, sm, sh], Ao 99 5 encO pv W, BF W, Av sm f']) rfl rfl (AM 0 (v := .slice none 0 0) #[r1, r2, r3, .slice none 0 0, sm, sh] BP.2 rfl rfl rfl rfl rfl rfl rfl rfl rfl) ?_; rintro ⟨⟩
    refine AP ?_
    exact DP  (fun w h => AB () rfl [0, 1, 2, 3] rfl h Cz) rfl
theorem SI {X : Ass} {v : Value} {f : FS} {x : OpV} {torn : Int} (hX : Cw X x.v x.o.data) (hd : x.o.data = []) : AS Tryz.prog 64 #[v, .agg (encO x).toArray, .int .i64 torn] [Av v f, X] (fun (_ : Unit) => .tuple #[]) (fun (_ : Unit) => [Av v f, X]) := by
 refine A6 (args := [v, .agg (encO x).toArray, .int .i64 torn]) 26 Tryz.func64 rfl rfl rfl ?_; intro w rs
 refine Ad ?_
 refine Af Aj rfl ?_
 refine Ai (post := fun g1 => [cell g1 99 #[.int .i64 x.o.kind, .string (bs x.o.name), x.v, .int .i64 (x.o.cutS : Int), .string (bs x.o.to)], Av v f, X]) rfl (CZ (cs := #[.int .i64 x.o.kind, .string (bs x.o.name), x.v, .int .i64 (x.o.cutS : Int), .string (bs x.o.to)]) rfl rfl rfl) ?_; rintro g1
 refine Ab (Aq (Ad ?_))
 refine Af Aj rfl ?_
 refine Ac rfl (x.v) (fun b w hb hH => Bg rfl rfl (Bt C3 rfl) (hH.row 0 rfl) hb) ?_
 refine Ac rfl (.int .i64 (x.o.data.length : Int)) (fun b w hb hH => AQ ((hH.rd8 2 rfl hX).rd) Tryz.underlying48 rfl rfl hb) ?_
 refine Ac rfl (.bool true) (fun b w hb hH => Bh rfl rfl rfl (Ks (by rw [hd]; rfl)) hb) ?_
 refine Ab (AD rfl (Az (CO ?_)))
 exact Kh  (fun w h => AB () rfl [1, 2] rfl h Cz) rfl
theorem SJ {X : Ass} {v : Value} {f f' : FS} {n y b1 : List UInt8} {A : Option Addr} {c : Nat} {torn : Int} (hX : Cw X (.slice A y.length c) y) (hl : AE f + y.length ≤ 1099511627776) (hy : y ≠ []) (ht : (torn % (y.length : Int)).toNat = b1.length) (hb1 : y.take b1.length = b1) (h : Gf f (.app n y) torn = f') : AS Tryz.prog 64 #[v, .agg #[.int .i64 0, .string (bs n), .slice A y.length c, .int .i64 0, .string (bs ([]))], .int .i64 torn] [Av v f, X] (fun (_ : Unit) => .tuple #[]) (fun (_ : Unit) => [Av v f', X]) := by
  have h_ := h
  have hb0 : 0 < y.length := List.length_pos_iff.2 hy
  have h1 := Int.emod_nonneg torn (show (y.length : Int) ≠ 0 by omega)
  have h2 := Int.emod_lt_of_pos torn (show 0 < (y.length : Int) by omega)
  have hX1 : Cw X (.slice A b1.length c) b1 := fun rs w ha hb => by
    have := (hX rs w ha hb).takes (k := b1.length) (by omega)
    rwa [hb1] at this
  have hsub : Ci 1 (.slice A y.length c) 0 b1.length = .slice A b1.length c := JY
  unfold Gf at h_
  simp only [ht, hy, or_false, hb1] at h_
  refine A6 (args := [v, .agg #[.int .i64 0, .string (bs n), .slice A y.length c, .int .i64 0, .string (bs ([]))], .int .i64 torn]) 26 Tryz.func64 rfl rfl rfl ?_; intro w rs
  refine Ad ?_
  refine Af Aj rfl ?_
  refine Ai (post := fun g1 => [cell g1 99 #[.int .i64 0, .string (bs n), .slice A y.length c, .int .i64 0, .string (bs ([]))], Av v f, X]) rfl (CZ (cs := #[.int .i64 0, .string (bs n), .slice A y.length c, .int .i64 0, .string (bs ([]))]) rfl rfl rfl) ?_; rintro g1
  refine Ab (Aq (Ad ?_))
  refine Af Aj rfl ?_
  refine Ac rfl (.slice A y.length c) (fun b w hb hH => Bg rfl rfl (Bt C3 rfl) (hH.row 0 rfl) hb) ?_
  refine Ac rfl (.int .i64 (y.length : Int)) (fun b w hb hH => AQ ((hH.rd8 2 rfl hX).rd) Tryz.underlying48 rfl rfl hb) ?_
  refine Ac rfl (.bool false) (fun b w hb hH => Bh rfl rfl rfl (Le (by omega)) hb) ?_
  refine Ab (Au rfl (Ax (AG (Aq ?_))))
  refine BM 9 1 [⟨.quiet, [none], fun _ => .pointer (some ⟨g1, 2, none⟩), []⟩, ⟨.quiet, [none], fun _ => .slice A y.length c, [0]⟩, ⟨.quiet, [none], fun _ => .int .i64 torn, []⟩, ⟨.quiet, [none], fun _ => .pointer (some ⟨g1, 2, none⟩), []⟩, ⟨.quiet, [none], fun _ => .slice A y.length c, [3]⟩, ⟨.quiet, [none], fun _ => .int .i64 (y.length : Int), [4]⟩, ⟨.actv 0, [some false], fun _ => .int .i64 (b1.length : Int), [2, 5]⟩, ⟨.quiet, [some true], fun _ => .slice A b1.length c, [1, 6]⟩, ⟨.quiet, [some true], fun _ => .pointer (some ⟨g1, 2, none⟩), []⟩] [(0, v), (2, .int .i64 torn), (4, .pointer (some ⟨g1, 0, none⟩))] (fun ρ => match ρ with | [r0] => [cell g1 99 #[.int .i64 0, .string (bs n), .slice A y.length c, .int .i64 0, .string (bs ([]))], Av v f, X] | _ => []) (by kernel_rfl) (by kernel_rfl) ⟨rfl, rfl, rfl, trivial⟩ rfl ?_ ?_
  · skip
    refine Aa (by intro r0_; exact ⟨rfl, fun b w hH hb => Ae Aj rfl hb⟩) ?_
    refine Aa (by intro r0_; exact ⟨rfl, fun b w hH hb => Bg rfl rfl (Bt C3 rfl) (hH.row 0 rfl) hb⟩) ?_
    refine Aa (by intro r0_; exact ⟨rfl, fun b w hH hb => Ae Aj rfl hb⟩) ?_
    refine Aa (by intro r0_; exact ⟨rfl, fun b w hH hb => Ae Aj rfl hb⟩) ?_
    refine Aa (by intro r0_; exact ⟨rfl, fun b w hH hb => Bg rfl rfl (Bt C3 rfl) (hH.row 0 rfl) hb⟩) ?_
    refine Aa (by intro r0_; exact ⟨rfl, fun b w hH hb => AQ ((hH.rd8 2 rfl hX).rd) Tryz.underlying48 rfl rfl hb⟩) ?_
    refine Aa (by exact ⟨rfl, Br.su (BQ (Ah Tryz.func63 (by kernel_rfl) rfl) (fun w hH => KR w torn (y.length : Int) (b1.length : Int) (by omega) (by omega) (by omega)) rfl rfl rfl) rfl⟩) ?_
    refine Aa (by intro v0_; exact ⟨rfl, fun b w hH hb => Gr (j := b1.length) AC hsub (Nat.le_trans (by omega) (Mv (A := A) (n := y.length) (c := c) (hH.rd8 2 rfl hX))) rfl rfl rfl hH hb⟩) ?_
    refine Aa (by intro v0_; exact ⟨rfl, fun b w hH hb => Ae Aj rfl hb⟩) ?_
    exact B7
  intro v0_
  refine Ch.keep (env' := [(0, v), (4, .pointer (some ⟨g1, 0, none⟩)), (17, .slice A b1.length c), (18, .pointer (some ⟨g1, 2, none⟩))]) ⟨rfl, rfl, rfl, rfl, trivial⟩ ?_
  refine Af Aj rfl ?_
  refine AT (post := fun _ => [cell g1 99 #[.int .i64 0, .string (bs n), .slice A b1.length c, .int .i64 0, .string (bs ([]))], Av v f, X]) rfl rfl (AM 0 (v := .slice A b1.length c) #[.int .i64 0, .string (bs n), .slice A b1.length c, .int .i64 0, .string (bs ([]))] C3.2 rfl rfl rfl rfl rfl rfl rfl rfl rfl) ?_; rintro ⟨⟩
  refine AP (AG ?_)
  rcases Nat.eq_zero_or_pos b1.length with h0 | h0
  · skip
    rw [if_pos h0] at h_
    subst h_
    refine Ad ?_
    refine Af Aj rfl ?_
    refine Ac rfl (.slice A b1.length c) (fun b w hb hH => Bg rfl rfl (Bt C3 rfl) (hH.row 0 rfl) hb) ?_
    refine Ac rfl (.int .i64 (b1.length : Int)) (fun b w hb hH => AQ ((hH.rd8 2 rfl hX1).rd) Tryz.underlying48 rfl rfl hb) ?_
    refine Ac rfl (.bool false) (fun b w hb hH => Bh rfl rfl rfl (BC (by omega)) hb) ?_
    refine Ab (Au rfl (Ax ?_))
    exact DP  (fun w h => AB () rfl [1, 2] rfl h Cz) rfl
  · skip
    rw [if_neg (by omega)] at h_
    refine Ad ?_
    refine Af Aj rfl ?_
    refine Ac rfl (.slice A b1.length c) (fun b w hb hH => Bg rfl rfl (Bt C3 rfl) (hH.row 0 rfl) hb) ?_
    refine Ac rfl (.int .i64 (b1.length : Int)) (fun b w hb hH => AQ ((hH.rd8 2 rfl hX1).rd) Tryz.underlying48 rfl rfl hb) ?_
    refine Ac rfl (.bool true) (fun b w hb hH => Bh rfl rfl rfl (B2 (by omega)) hb) ?_
    refine Ab (AD rfl (BI ?_))
    refine Af Aj rfl ?_
    refine Ac rfl (.agg #[.int .i64 0, .string (bs n), .slice A b1.length c, .int .i64 0, .string (bs ([]))]) (fun b w hb hH => Bg rfl rfl (EH (cs := [.int .i64 0, .string (bs n), .slice A b1.length c, .int .i64 0, .string (bs ([]))]) Cd rfl) (hH.row 0 rfl) hb) ?_
    refine Ai rfl (Am (os' := fun _ => [cell g1 99 #[.int .i64 0, .string (bs n), .slice A b1.length c, .int .i64 0, .string (bs ([]))], Av v f', X]) [1, 2] 0 (Ah Tryz.func68 (by kernel_rfl) rfl) (SF hX1 (by omega) h_) rfl rfl rfl (fun _ => rfl) rfl rfl rfl) ?_; rintro ⟨⟩
    refine AP ?_
    exact DP  (fun w h => AB () rfl [1, 2] rfl h Cz) rfl
theorem SK {X : Ass} {v : Value} {f f' : FS} {x : OpV} {torn : Int} (hX : Cw X x.v x.o.data) (hl : AE f + x.o.size ≤ 1099511627776) (h : Gf f x.o torn = f') : AS Tryz.prog 64 #[v, .agg (encO x).toArray, .int .i64 torn] [Av v f, X] (fun _ : Unit => .tuple #[]) (fun _ => [Av v f', X]) := by
  by_cases hd : x.o.data = []
  · rw [SC hd] at h
    subst h
    exact SI hX hd
  · obtain ⟨o, A, c⟩ := x
    cases o with
    | app n b =>
      have hb : b ≠ [] := hd
      have h0 : 0 < b.length := List.length_pos_iff.2 hb
      have h1 := Int.emod_nonneg torn (show (b.length : Int) ≠ 0 by omega)
      have h2 := Int.emod_lt_of_pos torn (show 0 < (b.length : Int) by omega)
      have h3 : (b.take (torn % (b.length : Int)).toNat).length = (torn % (b.length : Int)).toNat := by rw [List.length_take]; omega
      exact SJ (b1 := b.take (torn % (b.length : Int)).toNat) hX hl hb h3.symm (congrArg (fun k => b.take k) h3) h
    | cut n s => exact absurd rfl hd
    | ren a b => exact absurd rfl hd
    | del n => exact absurd rfl hd
theorem Ny {v : Value} {f : FS} (hl : AE f ≤ 1099511627776) : AS Tryz.prog 65 #[v] [Av v f] (fun (x : { q : Nat × FS // q.2.Perm f }) => .map (some x.1.1)) (fun (x : { q : Nat × FS // q.2.Perm f }) => [Av v f, Av (.map (some x.1.1)) x.1.2]) := by
  refine A6 (args := [v]) 21 Tryz.func65 rfl rfl rfl ?_; intro w rs
  refine Bo.fact 0 rfl Bx ?_; rintro hnd
  refine AY 0 rfl Fd (fun _ => rfl) ?_; rintro ⟨L, hL⟩
  subst hL
  refine Ad ?_
  refine Af Aj rfl ?_
  refine Ab (Ad ?_)
  refine Af Aj rfl ?_
  refine Ac rfl (.int .i64 (L.length : Int)) (fun b w hb hH => OC 0 Tryz.underlying65 rfl rfl rfl hH hb) ?_
  refine Ai (post := fun gc => [By encKey AH (.map (some gc)) ([]), By encKey AH v L, Bn L]) rfl (SD (kk := encKey) (vv := AH) Tryz.underlying65 rfl rfl) ?_; rintro gc
  refine Af Aj rfl ?_
  refine Ab (Aq ?_)
  refine HF (t := Bn ([])) (EB) ?_
  refine Ad ?_
  refine Af Aj rfl ?_
  refine Ai (post := fun g1 => [Bn ([]), By encKey AH (.map (some gc)) ([]), Fy encKey AH v (.pointer (some ⟨g1, 0, none⟩)) L L none, Bn L]) rfl (Mm 2 Tryz.underlying65 rfl rfl rfl) ?_; rintro g1
  refine Ab (AX ?_)
  refine CE (α := FilL × FilL × Option (List UInt8 × PtT)) (fun ⟨left, done, cur⟩ => [(2, .map none), (3, .map (some gc)), (10, .pointer (some ⟨g1, 0, none⟩))]) (fun ⟨left, done, cur⟩ => [Bn done, By encKey AH (.map (some gc)) done, Fy encKey AH v (.pointer (some ⟨g1, 0, none⟩)) L left cur, Bn L]) (fun ⟨left, done, cur⟩ => (B6 done ++ B6 left).Perm (B6 L) ∧ ∀ p, p ∈ left → p ∈ L) (fun ⟨left, done, cur⟩ => left.length) (L, [], none) ⟨.refl _, fun _ h => h⟩ ⟨rfl, rfl, rfl, trivial⟩ rfl ?_
  rintro ⟨left, done, cur⟩ hI
  refine Bo.at_ (env' := [(2, .map none), (3, .map (some gc)), (10, .pointer (some ⟨g1, 0, none⟩))]) (rs' := [Bn done, By encKey AH (.map (some gc)) done, Fy encKey AH v (.pointer (some ⟨g1, 0, none⟩)) L left cur, Bn L]) ⟨rfl, rfl, rfl, trivial⟩ rfl ?_
  rcases Classical.em (left = []) with hc | hc
  · skip
    have hp : (B6 done).Perm (B6 L) := by have := hI.1; rw [hc] at this; simpa [B6] using this
    refine Ad ?_
    refine Af Aj rfl ?_
    refine Ac rfl (.tuple #[.bool false]) (fun b w hb hH => Mn 2 rfl hc rfl rfl hH hb) ?_
    refine Af Aj rfl ?_
    refine Ab (Aq (Au rfl (Cu (EO (EO (Bc (AG ?_)))))))
    refine AY 2 rfl Jf (fun _ => rfl) ?_; rintro ⟨⟩
    refine Bo.leave [1] rfl rfl ?_
    refine Ad ?_
    refine Af Aj rfl ?_
    refine Ab (Az ?_)
    exact Ay (.tmp rfl) (fun w h => AB (X := { q : Nat × FS // q.2.Perm (B6 L) }) ⟨(gc, B6 done), hp⟩ rfl [0, 3, 2, 1] rfl h (Nv rfl)) rfl
  · skip
    refine Ad ?_
    refine Af Aj rfl ?_
    refine Ai (post := fun q : { q : Nat × List UInt8 × PtT // (left)[q.1]? = some q.2 } => [Bn done, By encKey AH (.map (some gc)) done, Fy encKey AH v (.pointer (some ⟨g1, 0, none⟩)) L (left.eraseIdx q.1.1) (some (q.1.2.1, q.1.2.2)), Bn L]) rfl (Mo 2 rfl hc rfl rfl) ?_; rintro q
    refine Af Aj rfl ?_
    refine Ab (Aq (AD rfl (Ax (AG (AX ?_)))))
    have hqm : q.1.2 ∈ L := hI.2 _ (List.mem_of_getElem? q.2)
    have hqn : EJ q.1.2.1 done 0 = none := OV hnd hI.1 q.2
    have hql : q.1.2.2.2.length ≤ AE (B6 L) := IK hnd ((B3 hnd).2 (List.mem_map.2 ⟨_, hqm, rfl⟩))
    refine Ad ?_
    refine Af Aj rfl ?_
    refine Ac rfl (.tuple #[.string (bs q.1.2.1), q.1.2.2.1]) (fun b w hb hH => Mp 2 rfl rfl rfl hH hb) ?_
    refine Af Aj rfl ?_
    refine Ab (BI ?_)
    refine Af Aj rfl ?_
    refine Ai rfl (Am (os' := fun v9 => [Ao 5 1 encB v9 q.1.2.2.2, Bn done, By encKey AH (.map (some gc)) done, Fy encKey AH v (.pointer (some ⟨g1, 0, none⟩)) L (left.eraseIdx q.1.1) (some (q.1.2.1, q.1.2.2)), Bn L]) [3] 0 (Ah Tryz.func59 (by kernel_rfl) rfl) (Fx (G9 hqm) (by omega)) rfl rfl rfl (fun _ => rfl) rfl rfl rfl) ?_; rintro v9
    refine AT (post := fun _ => [Ao 5 1 encB v9 q.1.2.2.2, Bn done, By encKey AH (.map (some gc)) (Bz done q.1.2.1 (v9, q.1.2.2.2)), Fy encKey AH v (.pointer (some ⟨g1, 0, none⟩)) L (left.eraseIdx q.1.1) (some (q.1.2.1, q.1.2.2)), Bn L]) rfl rfl (Je 2 CU rfl q.1.2.1 (v9, q.1.2.2.2) rfl rfl rfl rfl rfl rfl) ?_; rintro ⟨⟩
    refine TT [1, 0] rfl (PW hqn (v9, q.1.2.2.2)) rfl ?_
    refine AP (BJ ?_)
    exact Cr (left.eraseIdx q.1.1, Bz done q.1.2.1 (v9, q.1.2.2.2), some (q.1.2.1, q.1.2.2)) 0 ⟨Nu hI.1 q.2 hqn, fun p hp => hI.2 p (List.mem_of_mem_eraseIdx hp)⟩ (show (left.eraseIdx q.1.1).length < left.length from H4 q.2) ⟨rfl, rfl, rfl, trivial⟩ rfl
end Go.Proofs.YtnknboibmifacaaGreat.Sep
