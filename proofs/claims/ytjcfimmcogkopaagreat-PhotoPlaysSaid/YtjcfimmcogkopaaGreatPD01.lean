/-
  DskE · DskG
-/
import Derived.Test.YtjcfimmcogkopaaGreatPB04
import Derived.Test.YtjcfimmcogkopaaGreatPC02
set_option linter.unusedSimpArgs false
set_option linter.unusedVariables false
set_option maxRecDepth 100000
namespace Go.Proofs.YtjcfimmcogkopaaGreat.Sep
open Go.RowKit
open Go.Proofs.YtjcfimmcogkopaaGreat.Mem (Bh Cs Chg AA)
theorem T1 {p : Nat} {d : DiskD} (hd : d.down = true) : AX Tryz.prog 30 #[.pointer (some ⟨p, 0, none⟩)] [Ao p d] (fun (_ : Unit) => .bool false) (fun (_ : Unit) => [Ao p d]) := by
 refine Bg (args := [.pointer (some ⟨p, 0, none⟩)]) 30 Tryz.func30 rfl rfl rfl ?_; intro w rs
 refine Be 0 rfl (KA hd) (fun _ => rfl) ?_; rintro x
 refine Ad (Ae Am rfl (Ab (Av (Ad (Ae Am rfl (Aa rfl (.pointer (some ⟨p, 0, none⟩)) (fun b w hb hH => by exact BD rfl rfl hb) (Ae Am rfl (Aa rfl (.bool true) (fun b w hb hH => Ba rfl rfl (Bm Bt rfl) (hH.row 0 rfl) hb) (Ab (AI rfl (Ad (Ae Am rfl (Ab (Ax (C4 ?_)))))))))))))))
 exact Aw (.tmp rfl) (fun w h => AH () rfl [0, 1, 2, 3] rfl h (Jm (os := []) ⟨x.pv, x.sm, .map none, x.W, [], x.hW, (fun h => by rw [hd] at h; cases h), x.hok, x.hf, x.hr, x.hk⟩ hd rfl)) rfl
theorem Or {p : Nat} {d : DiskD} (hd : d.down = false) (hf : d.fuse = some 0) : AX Tryz.prog 30 #[.pointer (some ⟨p, 0, none⟩)] [Ao p d] (fun (_ : Unit) => .bool false) (fun (_ : Unit) => [Ao p ({ d with down := true })]) := by
 refine Bg (args := [.pointer (some ⟨p, 0, none⟩)]) 30 Tryz.func30 rfl rfl rfl ?_; intro w rs
 refine Be 0 rfl (H6 hd) (fun _ => rfl) ?_; rintro x
 refine Ad (Ae Am rfl (Ab (Av (Ad (Ae Am rfl (Aa rfl (.pointer (some ⟨p, 0, none⟩)) (fun b w hb hH => by exact BD rfl rfl hb) (Ae Am rfl (Aa rfl (.bool false) (fun b w hb hH => Ba rfl rfl (Bm Bt rfl) (hH.row 0 rfl) hb) (Ab (As rfl (AB (AL (Av (Ad (Ae Am rfl (Aa rfl (.pointer (some ⟨p, 0, none⟩)) (fun b w hb hH => by exact BD rfl rfl hb) ?_))))))))))))))))
 refine Ae Am rfl (Aa rfl (.int .i64 (Dn d.fuse)) (fun b w hb hH => Ba rfl rfl (Bm Bc rfl) (hH.row 0 rfl) hb) (Aa rfl (.bool true) (fun b w hb hH => AZ rfl rfl rfl (GT (by rw [hf]; rfl)) hb) (Ab (AI rfl (Ad (Ae Am rfl (Aa rfl (.pointer (some ⟨p, 0, none⟩)) (fun b w hb hH => by exact BD rfl rfl hb) (Ae Am rfl (AF (post := fun _ => [cell p 70 #[.int .i64 d.room, .int .i64 (Dn d.fuse), .bool true, x.pv, x.sm, x.sh], Ar 103 5 encO x.pv x.W, BQ x.W, AC x.sm d.syn, AC x.sh x.g]) rfl rfl (AE 0 (v := .bool true) #[.int .i64 d.room, .int .i64 (Dn d.fuse), .bool true, x.pv, x.sm, x.sh] Bt.2 rfl rfl rfl rfl rfl rfl rfl rfl rfl) ?_))))))))); rintro ⟨⟩
 refine Aa rfl (.pointer (some ⟨p, 0, none⟩)) (fun b w hb hH => by exact BD rfl rfl hb) (Ae Am rfl (AF (post := fun _ => [cell p 70 #[.int .i64 d.room, .int .i64 (Dn d.fuse), .bool true, x.pv, x.sm, .map none], Ar 103 5 encO x.pv x.W, BQ x.W, AC x.sm d.syn, AC x.sh x.g]) rfl rfl (AE 0 (v := .map none) #[.int .i64 d.room, .int .i64 (Dn d.fuse), .bool true, x.pv, x.sm, .map none] AY.2 rfl rfl rfl rfl rfl rfl rfl rfl rfl) ?_)); rintro ⟨⟩
 refine Ab (Ad (Ae Am rfl (Ab (Ax (C4 ?_)))))
 exact Aw (.tmp rfl) (fun w h => AH () rfl [0, 1, 2, 3] rfl h (Jm (os := []) (d := { d with down := true }) ⟨x.pv, x.sm, .map none, x.W, [], x.hW, (fun h => by cases h), x.hok, x.hf, x.hr, x.hk⟩ rfl rfl)) rfl
theorem PV {p : Nat} {d : DiskD} {n : Nat} (hd : d.down = false) (hf : d.fuse = some (n + 1)) : AX Tryz.prog 30 #[.pointer (some ⟨p, 0, none⟩)] [Ao p d] (fun (_ : Unit) => .bool true) (fun (_ : Unit) => [Ao p ({ d with fuse := some n })]) := by
 refine Bg (args := [.pointer (some ⟨p, 0, none⟩)]) 30 Tryz.func30 rfl rfl rfl ?_; intro w rs
 refine Be 0 rfl (H6 hd) (fun _ => rfl) ?_; rintro x
 have hz : Dn d.fuse = (n : Int) + 1 := by rw [hf]; rfl
 have hn := x.hf _ hf
 refine Ad (Ae Am rfl (Ab (Av (Ad (Ae Am rfl (Aa rfl (.pointer (some ⟨p, 0, none⟩)) (fun b w hb hH => by exact BD rfl rfl hb) (Ae Am rfl (Aa rfl (.bool false) (fun b w hb hH => Ba rfl rfl (Bm Bt rfl) (hH.row 0 rfl) hb) (Ab (As rfl (AB (AL (Av (Ad (Ae Am rfl (Aa rfl (.pointer (some ⟨p, 0, none⟩)) (fun b w hb hH => by exact BD rfl rfl hb) ?_))))))))))))))))
 refine Ae Am rfl (Aa rfl (.int .i64 (Dn d.fuse)) (fun b w hb hH => Ba rfl rfl (Bm Bc rfl) (hH.row 0 rfl) hb) (Aa rfl (.bool false) (fun b w hb hH => AZ rfl rfl rfl (Fu (by omega)) hb) (Ab (As rfl (AB (AL (Av (Ad (Ae Am rfl (Aa rfl (.pointer (some ⟨p, 0, none⟩)) (fun b w hb hH => by exact BD rfl rfl hb) (Ae Am rfl (Aa rfl (.int .i64 (Dn d.fuse)) (fun b w hb hH => Ba rfl rfl (Bm Bc rfl) (hH.row 0 rfl) hb) (Aa rfl (.bool true) (fun b w hb hH => AZ rfl rfl rfl (B0 (by omega)) hb) (Ab (AI rfl (Bp ?_))))))))))))))))
 refine Ae Am rfl (Aa rfl (.pointer (some ⟨p, 0, none⟩)) (fun b w hb hH => by exact BD rfl rfl hb) (Ae Am rfl (Aa rfl (.int .i64 (Dn d.fuse)) (fun b w hb hH => Ba rfl rfl (Bm Bc rfl) (hH.row 0 rfl) hb) (Aa rfl (.int .i64 (n : Int)) (fun b w hb hH => AQ rfl rfl rfl rfl (by rw [IntWalk.i64_in _ (by omega)]; omega) hb) (Aa rfl (.pointer (some ⟨p, 0, none⟩)) (fun b w hb hH => by exact BD rfl rfl hb) (Ae Am rfl (AF (post := fun _ => [cell p 70 #[.int .i64 d.room, .int .i64 (n : Int), .bool false, x.pv, x.sm, x.sh], Ar 103 5 encO x.pv x.W, BQ x.W, AC x.sm d.syn, AC x.sh x.g]) rfl rfl (AE 0 (v := .int .i64 (n : Int)) #[.int .i64 d.room, .int .i64 (n : Int), .bool false, x.pv, x.sm, x.sh] Bc.2 rfl rfl rfl rfl rfl rfl rfl rfl rfl) ?_))))))); rintro ⟨⟩
 refine AV (AL (Ad (Ae Am rfl (Ab (Ax ?_)))))
 exact Aw (.tmp rfl) (fun w h => AH () rfl [0, 1, 2, 3, 4] rfl h (Gj (os := []) (d := { d with fuse := some n }) ⟨x.pv, x.sm, x.sh, x.W, x.g, x.hW, x.hg, x.hok, (fun m hm => by cases hm; omega), x.hr, x.hk⟩ hd)) rfl
theorem So {p : Nat} {d : DiskD} (hd : d.down = false) (hf : d.fuse = none) : AX Tryz.prog 30 #[.pointer (some ⟨p, 0, none⟩)] [Ao p d] (fun (_ : Unit) => .bool true) (fun (_ : Unit) => [Ao p d]) := by
 refine Bg (args := [.pointer (some ⟨p, 0, none⟩)]) 30 Tryz.func30 rfl rfl rfl ?_; intro w rs
 refine Be 0 rfl (H6 hd) (fun _ => rfl) ?_; rintro x
 have hz : Dn d.fuse = -1 := by rw [hf]; rfl
 refine Ad (Ae Am rfl (Ab (Av (Ad (Ae Am rfl (Aa rfl (.pointer (some ⟨p, 0, none⟩)) (fun b w hb hH => by exact BD rfl rfl hb) (Ae Am rfl (Aa rfl (.bool false) (fun b w hb hH => Ba rfl rfl (Bm Bt rfl) (hH.row 0 rfl) hb) (Ab (As rfl (AB (AL (Av (Ad (Ae Am rfl (Aa rfl (.pointer (some ⟨p, 0, none⟩)) (fun b w hb hH => by exact BD rfl rfl hb) ?_))))))))))))))))
 refine Ae Am rfl (Aa rfl (.int .i64 (Dn d.fuse)) (fun b w hb hH => Ba rfl rfl (Bm Bc rfl) (hH.row 0 rfl) hb) (Aa rfl (.bool false) (fun b w hb hH => AZ rfl rfl rfl (Fu (by omega)) hb) (Ab (As rfl (AB (AL (Av (Ad (Ae Am rfl (Aa rfl (.pointer (some ⟨p, 0, none⟩)) (fun b w hb hH => by exact BD rfl rfl hb) (Ae Am rfl (Aa rfl (.int .i64 (Dn d.fuse)) (fun b w hb hH => Ba rfl rfl (Bm Bc rfl) (hH.row 0 rfl) hb) (Aa rfl (.bool false) (fun b w hb hH => AZ rfl rfl rfl (BI (by omega)) hb) (Ab (As rfl (AB (AL (Ad ?_))))))))))))))))))
 refine Ae Am rfl (Ab (Ax ?_))
 exact Aw (.tmp rfl) (fun w h => AH () rfl [0, 1, 2, 3, 4] rfl h (Gj (os := []) x hd)) rfl
theorem Jo {p : Nat} {d d1 : DiskD} (h : Bv d = (d1, 3)) : AX Tryz.prog 30 #[.pointer (some ⟨p, 0, none⟩)] [Ao p d] (fun _ : Unit => .bool false) (fun _ => [Ao p d1]) := by
  unfold Bv at h
  cases hd : d.down
  · cases hf : d.fuse with
    | none => rw [if_neg (by simp [hd, hf])] at h; cases h
    | some n =>
      cases n with
      | zero => rw [if_pos (.inr hf)] at h; cases h; exact Or hd hf
      | succ n => rw [if_neg (by simp [hd, hf])] at h; cases h
  · rw [if_pos (.inl hd)] at h
    cases h
    have e : ({ d with down := true } : DiskD) = d := by obtain ⟨_, _, _, _, dn⟩ := d; cases hd; rfl
    rw [e]; exact T1 hd
theorem Et {p : Nat} {d d1 : DiskD} (h : Bv d = (d1, 0)) : AX Tryz.prog 30 #[.pointer (some ⟨p, 0, none⟩)] [Ao p d] (fun _ : Unit => .bool true) (fun _ => [Ao p d1]) := by
  unfold Bv at h
  cases hd : d.down
  · cases hf : d.fuse with
    | none =>
      rw [if_neg (by simp [hd, hf])] at h
      cases h
      have e : ({ d with fuse := d.fuse.map (· - 1) } : DiskD) = d := by obtain ⟨_, _, _, fu, _⟩ := d; cases hf; rfl
      rw [e]; exact So hd hf
    | some n =>
      cases n with
      | zero => rw [if_pos (.inr hf)] at h; cases h
      | succ n =>
        rw [if_neg (by simp [hd, hf])] at h
        cases h
        rw [hf]; exact PV hd hf
  · rw [if_pos (.inl hd)] at h; cases h
theorem E7 {d d1 : DiskD} (h : Bv d = (d1, 0)) : d1.down = false ∧ d1.syn = d.syn ∧ d1.wait = d.wait ∧ d1.room = d.room := by
  unfold Bv at h
  cases hd : d.down
  · by_cases hf : d.fuse = some 0
    · rw [if_pos (.inr hf)] at h; cases h
    · rw [if_neg (by simp [hd, hf])] at h; cases h; exact ⟨hd, rfl, rfl, rfl⟩
  · rw [if_pos (.inl hd)] at h; cases h
theorem Jp (d : DiskD) : (Bv d).2 = 3 ∨ (Bv d).2 = 0 := by
  unfold Bv
  split
  · exact .inl rfl
  · exact .inr rfl
theorem ER {d d1 : DiskD} (h : Bv d = (d1, 0)) (hd : d.fit) : d1.fit := by
 obtain ⟨_, h1, h2, _⟩ := E7 h
 unfold DiskD.fit
 rw [h1, h2]; exact hd
theorem Nk {p : Nat} {d : DiskD} {x : OpV} (hd : d.down = false) (hfit : d.fit) (ho : L2 d.now x.o) (hl : x.o.size ≤ 1048576) : AX Tryz.prog 63 #[.pointer (some ⟨p, 0, none⟩), .agg (encO x).toArray] [Ao p d, Ar 5 1 encB x.v x.o.data] (fun (_ : Unit) => .int .i64 0) (fun (_ : Unit) => [Ao p (Cp d x.o)]) := by
  refine Bg (args := [.pointer (some ⟨p, 0, none⟩), .agg (encO x).toArray]) 21 Tryz.func63 rfl rfl rfl ?_; intro w rs
  refine Be 0 rfl (H6 hd) (fun _ => rfl) ?_; rintro y
  refine BB.fact 3 rfl BR ?_; rintro hsn
  refine BB.fact 4 rfl BR ?_; rintro hgn
  have hu : AN y.g ≤ 1099511627776 := by rw [Dl (y.hg hd)]; exact IH hfit hsn y.hok
  have hWl := KB y
  have hw := hfit.2
  have ho2 := Lq (y.hg hd).symm (Mq hsn) ho
  refine Ad (Ae Am rfl (Aj (post := fun g1 => [cell g1 103 #[.int .i64 x.o.kind, .string (bs x.o.name), x.v, .int .i64 (x.o.cutS : Int), .string (bs x.o.to)], cell p 70 #[.int .i64 d.room, .int .i64 (Dn d.fuse), .bool false, y.pv, y.sm, y.sh], Ar 103 5 encO y.pv y.W, BQ y.W, AC y.sm d.syn, AC y.sh y.g, Ar 5 1 encB x.v x.o.data]) rfl (CL (cs := #[.int .i64 x.o.kind, .string (bs x.o.name), x.v, .int .i64 (x.o.cutS : Int), .string (bs x.o.to)]) rfl rfl rfl) ?_)); rintro g1
  refine Ae Am rfl (Ab (Av ?_))
  refine BL 6 1 [⟨.quiet, [none], fun _ => .pointer (some ⟨p, 0, none⟩), []⟩, ⟨.quiet, [none], fun _ => .pointer (some ⟨p, 0, none⟩), [0]⟩, ⟨.quiet, [none], fun _ => .pointer (some ⟨p, 5, none⟩), [1]⟩, ⟨.quiet, [none], fun _ => y.sh, [2]⟩, ⟨.quiet, [none], fun _ => .agg #[.int .i64 x.o.kind, .string (bs x.o.name), x.v, .int .i64 (x.o.cutS : Int), .string (bs x.o.to)], []⟩, ⟨.actv 0, [some false], fun _ => .tuple #[], [3, 4]⟩] [(0, .pointer (some ⟨p, 0, none⟩)), (3, .pointer (some ⟨g1, 0, none⟩)), (4, .int .i64 0)] (fun ρ => match ρ with | [r0] => [cell g1 103 #[.int .i64 x.o.kind, .string (bs x.o.name), x.v, .int .i64 (x.o.cutS : Int), .string (bs x.o.to)], cell p 70 #[.int .i64 d.room, .int .i64 (Dn d.fuse), .bool false, y.pv, y.sm, y.sh], Ar 103 5 encO y.pv y.W, BQ y.W, AC y.sm d.syn, Co r0 (fun _ => AC y.sh (AG y.g x.o)) (AC y.sh y.g), Ar 5 1 encB x.v x.o.data] | _ => []) (by kernel_rfl) (by kernel_rfl) ⟨rfl, rfl, rfl, trivial⟩ rfl ?_ ?_
  refine Ac (by intro r0_; exact ⟨rfl, fun b w hH hb => Af Am rfl hb⟩) (Ac (by intro r0_; exact ⟨rfl, fun b w hH hb => by exact BD rfl rfl hb⟩) (Ac (by intro r0_; exact ⟨rfl, fun b w hH hb => Af Am rfl hb⟩) (Ac (by intro r0_; exact ⟨rfl, fun b w hH hb => Ba rfl rfl (Bm AY rfl) (hH.row 1 rfl) hb⟩) (Ac (by intro r0_; exact ⟨rfl, fun b w hH hb => Ba rfl rfl (DM (cs := [.int .i64 x.o.kind, .string (bs x.o.name), x.v, .int .i64 (x.o.cutS : Int), .string (bs x.o.to)]) Cy rfl) (hH.row 0 rfl) hb⟩) (Ac (by exact ⟨rfl, Bk.su (Ak (os' := fun _ => [cell g1 103 #[.int .i64 x.o.kind, .string (bs x.o.name), x.v, .int .i64 (x.o.cutS : Int), .string (bs x.o.to)], cell p 70 #[.int .i64 d.room, .int .i64 (Dn d.fuse), .bool false, y.pv, y.sm, y.sh], Ar 103 5 encO y.pv y.W, BQ y.W, AC y.sm d.syn, AC y.sh (AG y.g x.o), Ar 5 1 encB x.v x.o.data]) [5, 6] 0 (Ai Tryz.func73 (by kernel_rfl) rfl) (T0 ho2 C9 (by omega) rfl) rfl rfl rfl (fun _ => rfl) rfl rfl rfl) rfl⟩) ?_)))))
  exact B7
  intro v0_
  refine Cf.keep (env' := [(0, .pointer (some ⟨p, 0, none⟩)), (3, .pointer (some ⟨g1, 0, none⟩)), (4, .int .i64 0)]) ⟨rfl, rfl, rfl, trivial⟩ (AV (AL (Av (DW 1 rfl ?_))))
  refine BL 10 2 [⟨.quiet, [none, none], fun _ => .pointer (some ⟨p, 0, none⟩), []⟩, ⟨.quiet, [none, none], fun _ => .pointer (some ⟨p, 0, none⟩), []⟩, ⟨.quiet, [none, none], fun _ => .pointer (some ⟨p, 0, none⟩), [1]⟩, ⟨.quiet, [none, none], fun _ => .pointer (some ⟨p, 3, none⟩), [2]⟩, ⟨.quiet, [none, none], fun _ => y.pv, [3]⟩, ⟨.quiet, [none, none], fun _ => .agg #[.int .i64 x.o.kind, .string (bs x.o.name), x.v, .int .i64 (x.o.cutS : Int), .string (bs x.o.to)], []⟩, ⟨.act 0, [some false, some false], fun _ => undef, [5]⟩, ⟨.act 1, [some true, some false], fun _ => undef, [4, 6]⟩, ⟨.quiet, [some true, some true], fun _ => .pointer (some ⟨p, 0, none⟩), [0]⟩, ⟨.quiet, [some true, some true], fun _ => .pointer (some ⟨p, 3, none⟩), [8]⟩] [(0, .pointer (some ⟨p, 0, none⟩)), (3, .pointer (some ⟨g1, 0, none⟩)), (4, .int .i64 0)] (fun ρ => match ρ with | [r0, r1] => [Co r0 (fun u1 => Ar 103 5 encO u1 ([x])) (DN), cell g1 103 #[.int .i64 x.o.kind, .string (bs x.o.name), x.v, .int .i64 (x.o.cutS : Int), .string (bs x.o.to)], cell p 70 #[.int .i64 d.room, .int .i64 (Dn d.fuse), .bool false, y.pv, y.sm, y.sh], Co r1 (fun u2 => Ar 103 5 encO u2 (y.W ++ ([x]))) (Ar 103 5 encO y.pv y.W), BQ y.W, AC y.sm d.syn, AC y.sh (AG y.g x.o), Ar 5 1 encB x.v x.o.data] | _ => []) (by kernel_rfl) (by kernel_rfl) ⟨rfl, rfl, rfl, trivial⟩ rfl ?_ ?_
  refine Ac (by intro r0_ r1_; exact ⟨rfl, fun b w hH hb => Af Am rfl hb⟩) (Ac (by intro r0_ r1_; exact ⟨rfl, fun b w hH hb => Af Am rfl hb⟩) (Ac (by intro r0_ r1_; exact ⟨rfl, fun b w hH hb => by exact BD rfl rfl hb⟩) (Ac (by intro r0_ r1_; exact ⟨rfl, fun b w hH hb => Af Am rfl hb⟩) (Ac (by intro r0_ r1_; exact ⟨rfl, fun b w hH hb => Ba rfl rfl (Bm B2 rfl) (hH.row 2 rfl) hb⟩) (Ac (by intro r0_ r1_; exact ⟨rfl, fun b w hH hb => Ba rfl rfl (DM (cs := [.int .i64 x.o.kind, .string (bs x.o.name), x.v, .int .i64 (x.o.cutS : Int), .string (bs x.o.to)]) Cy rfl) (hH.row 1 rfl) hb⟩) ?_)))))
  refine Ac (by exact ⟨rfl, Bk.s (Bk.place (val := fun u1 : Value => u1) (t := fun u1 => Ar 103 5 encO u1 ([x])) (os' := fun u1 => [Ar 103 5 encO u1 ([x]), cell g1 103 #[.int .i64 x.o.kind, .string (bs x.o.name), x.v, .int .i64 (x.o.cutS : Int), .string (bs x.o.to)], cell p 70 #[.int .i64 d.room, .int .i64 (Dn d.fuse), .bool false, y.pv, y.sm, y.sh], Ar 103 5 encO y.pv y.W, BQ y.W, AC y.sm d.syn, AC y.sh (AG y.g x.o), Ar 5 1 encB x.v x.o.data]) 0 rfl (by refine Hr (e := 103) (t := 66) (k := 5) (enc := encO) (x := .tmp 16) (c := .agg #[.int .i64 x.o.kind, .string (bs x.o.name), x.v, .int .i64 (x.o.cutS : Int), .string (bs x.o.to)]) ?_ ?_ ?_ x ?_ ?_ ?_; exact CN; exact (by decide); exact Rb; exact rfl; exact rfl; exact rfl) (fun _ => rfl)) (fun _ => rfl)⟩) ?_
  refine Ac (by intro u1; exact ⟨rfl, Bk.s (C8 3 CN Rb rfl ([x]) (fun w hH => hH.vec 0 rfl Rb) (by simp only [List.length_cons, List.length_nil]; omega) rfl rfl rfl rfl) (fun _ => rfl)⟩) (Ac (by intro u1 u2; exact ⟨rfl, fun b w hH hb => by exact BD rfl rfl hb⟩) (Ac (by intro u1 u2; exact ⟨rfl, fun b w hH hb => Af Am rfl hb⟩) ?_))
  exact B7
  intro u1 u2
  refine Cf.keep (env' := [(4, .int .i64 0), (18, u2), (20, .pointer (some ⟨p, 3, none⟩))]) ⟨rfl, rfl, rfl, trivial⟩ (Ae Am rfl (AF (post := fun _ => [Ar 103 5 encO u1 ([x]), cell g1 103 #[.int .i64 x.o.kind, .string (bs x.o.name), x.v, .int .i64 (x.o.cutS : Int), .string (bs x.o.to)], cell p 70 #[.int .i64 d.room, .int .i64 (Dn d.fuse), .bool false, u2, y.sm, y.sh], Ar 103 5 encO u2 (y.W ++ ([x])), BQ y.W, AC y.sm d.syn, AC y.sh (AG y.g x.o), Ar 5 1 encB x.v x.o.data]) rfl rfl (Cv 2 3 (v := u2) #[.int .i64 d.room, .int .i64 (Dn d.fuse), .bool false, u2, y.sm, y.sh] B2.2 rfl (fun _ h => Ar.c1 h) rfl rfl rfl rfl rfl rfl rfl) ?_)); rintro ⟨⟩
  refine AV (AL (Bi [4, 7] rfl Iz rfl (Ad (Ae Am rfl (Ab (Ax ?_))))))
  exact Aw (.tmp rfl) (fun w h => AH () rfl [3, 4, 0, 5, 6] rfl h (Gj (os := []) (d := Cp d x.o) ⟨u2, y.sm, y.sh, y.W ++ [x], AG y.g x.o, (by rw [show DS (y.W ++ [x]) = DS y.W ++ [x.o] by simp [DS], y.hW]; rfl), (fun _ => by rw [Cq]; exact R8 (y.hg hd) hgn x.o), JT y.hok ho, y.hf, y.hr, y.hk⟩ hd)) rfl
end Go.Proofs.YtjcfimmcogkopaaGreat.Sep
namespace Go.Proofs.YtjcfimmcogkopaaGreat.Sep
open Go.RowKit
open Go.Proofs.YtjcfimmcogkopaaGreat.Mem (Bh Cs Chg AA)
theorem Ot {p k : Nat} {r1 r2 r3 pv sm sh : Value} {W K : List OpV} {f f' : FS} (hk : k ≤ W.length) (hW : W.length ≤ 1000000) (hK : W.take k = K) (hok : Fe f (DS K)) (hsz : AN f + ((DS K).map OpD.size).sum ≤ 1099511627776) (hf : (DS K).foldl AG f = f') : AX Tryz.prog 31 #[.pointer (some ⟨p, 0, none⟩), .int .i64 (k : Int)] [cell p 70 #[r1, r2, r3, pv, sm, sh], Ar 103 5 encO pv W, BQ W, AC sm f] (fun (_ : Unit) => .tuple #[]) (fun (_ : Unit) => [cell p 70 #[r1, r2, r3, .slice none 0 0, sm, sh], Ar 103 5 encO pv W, BQ W, AC sm f']) := by
  refine Bg (args := [.pointer (some ⟨p, 0, none⟩), .int .i64 (k : Int)]) 27 Tryz.func31 rfl rfl rfl ?_; intro w rs
  refine BB.fact 3 rfl BR ?_; rintro hnd
  have hKl : K.length ≤ W.length := by rw [← hK, List.length_take]; omega
  refine Av (Ad (Ae Am rfl (Aa rfl (.pointer (some ⟨p, 0, none⟩)) (fun b w hb hH => by exact BD rfl rfl hb) (Ae Am rfl (Aa rfl (pv) (fun b w hb hH => Ba rfl rfl (Bm B2 rfl) (hH.row 0 rfl) hb) (Ae Am rfl (Aa rfl (CB 5 pv 0 k) (fun b w hb hH => HU 1 (b := k) CN rfl hk rfl rfl rfl hH hb) (Aa rfl (.int .i64 (K.length : Int)) (fun b w hb hH => Bf (hH.vecq 1 rfl Rb (Nat.zero_le _) hk (m := K) (by simpa using hK)) Tryz.underlying66 rfl rfl hb) (Ae Am rfl (Ab (Bo ?_)))))))))))
  refine Dd (α := Nat) (fun i => [(0, .pointer (some ⟨p, 0, none⟩)), (11, CB 5 pv 0 k), (12, .int .i64 (K.length : Int)), (13, .int .i64 ((i : Nat) : Int))]) (fun i => [cell p 70 #[r1, r2, r3, pv, sm, sh], Ar 103 5 encO pv W, BQ W, AC sm (((DS K).take i).foldl AG f)]) (fun i => i ≤ K.length) (fun i => K.length - i) 0 (Nat.zero_le _) ⟨rfl, rfl, rfl, rfl, trivial⟩ rfl ?_
  rintro i hI
  refine BB.at_ (env' := [(0, .pointer (some ⟨p, 0, none⟩)), (11, CB 5 pv 0 k), (12, .int .i64 (K.length : Int)), (13, .int .i64 ((i : Nat) : Int))]) (rs' := [cell p 70 #[r1, r2, r3, pv, sm, sh], Ar 103 5 encO pv W, BQ W, AC sm (((DS K).take i).foldl AG f)]) ⟨rfl, rfl, rfl, rfl, trivial⟩ rfl ?_
  have hc : i < K.length ∨ K.length ≤ i := by omega
  rcases hc with hi | hi
  obtain ⟨a, ha⟩ : ∃ a, K[i]? = some a := ⟨_, List.getElem?_eq_getElem hi⟩
  have haW : a ∈ W := by rw [← hK] at ha; exact List.mem_of_mem_take (List.mem_of_getElem? ha)
  have hao : (DS K)[i]? = some a.o := by unfold DS; rw [List.getElem?_map, ha]; rfl
  have hsa : AN (((DS K).take i).foldl AG f) + a.o.size ≤ 1099511627776 := Es hnd hok hao hsz
  refine Ad (Ae Am rfl (Aa rfl (.bool true) (fun b w hb hH => AZ rfl rfl rfl (Bw (by omega)) hb) (Ab (Av (AI rfl (AB (AL (Av (Bo (Ad (Ae Am rfl (Aa rfl (BN (CB 5 pv 0 k) (i * 5)) (fun b w hb hH => BH Rb (hH.vecq 1 rfl Rb (Nat.zero_le _) hk (m := K) (by simpa using hK)) CN (j := i) ha rfl rfl rfl hb) (Aa rfl (.agg (encO a).toArray) (fun b w hb hH => GC Rb (by decide) (hH.vecq 1 rfl Rb (Nat.zero_le _) hk (m := K) (by simpa using hK)) (j := i) ha Cy rfl rfl hb) (Aj (post := fun gc => [cell gc 103 #[.int .i64 0, .string { data := #[] }, .slice none 0 0, .int .i64 0, .string { data := #[] }], cell p 70 #[r1, r2, r3, pv, sm, sh], Ar 103 5 encO pv W, BQ W, AC sm (((DS K).take i).foldl AG f)]) rfl (BT Jh rfl) ?_)))))))))))))); rintro gc
  refine AF (post := fun _ => [cell gc 103 #[.int .i64 a.o.kind, .string (bs a.o.name), a.v, .int .i64 (a.o.cutS : Int), .string (bs a.o.to)], cell p 70 #[r1, r2, r3, pv, sm, sh], Ar 103 5 encO pv W, BQ W, AC sm (((DS K).take i).foldl AG f)]) rfl rfl (AE 0 (v := .agg (encO a).toArray) #[.int .i64 a.o.kind, .string (bs a.o.name), a.v, .int .i64 (a.o.cutS : Int), .string (bs a.o.to)] Cy.2 rfl rfl rfl rfl rfl rfl rfl rfl rfl) ?_; rintro ⟨⟩
  refine Ab ?_
  refine BL 6 1 [⟨.quiet, [none], fun _ => .pointer (some ⟨p, 0, none⟩), []⟩, ⟨.quiet, [none], fun _ => .pointer (some ⟨p, 0, none⟩), [0]⟩, ⟨.quiet, [none], fun _ => .pointer (some ⟨p, 4, none⟩), [1]⟩, ⟨.quiet, [none], fun _ => sm, [2]⟩, ⟨.quiet, [none], fun _ => .agg #[.int .i64 a.o.kind, .string (bs a.o.name), a.v, .int .i64 (a.o.cutS : Int), .string (bs a.o.to)], []⟩, ⟨.actv 0, [some false], fun _ => .tuple #[], [3, 4]⟩] [(0, .pointer (some ⟨p, 0, none⟩)), (11, CB 5 pv 0 k), (12, .int .i64 (K.length : Int)), (13, .int .i64 ((i : Nat) : Int)), (14, .bool true), (15, BN (CB 5 pv 0 k) (i * 5)), (16, .agg (encO a).toArray), (5, .pointer (some ⟨gc, 0, none⟩))] (fun ρ => match ρ with | [r0] => [cell gc 103 #[.int .i64 a.o.kind, .string (bs a.o.name), a.v, .int .i64 (a.o.cutS : Int), .string (bs a.o.to)], cell p 70 #[r1, r2, r3, pv, sm, sh], Ar 103 5 encO pv W, BQ W, Co r0 (fun _ => AC sm (((DS K).take (i + 1)).foldl AG f)) (AC sm (((DS K).take i).foldl AG f))] | _ => []) (by kernel_rfl) (by kernel_rfl) ⟨rfl, rfl, rfl, rfl, rfl, rfl, rfl, rfl, trivial⟩ rfl ?_ ?_
  refine Ac (by intro r0_; exact ⟨rfl, fun b w hH hb => Af Am rfl hb⟩) (Ac (by intro r0_; exact ⟨rfl, fun b w hH hb => by exact BD rfl rfl hb⟩) (Ac (by intro r0_; exact ⟨rfl, fun b w hH hb => Af Am rfl hb⟩) (Ac (by intro r0_; exact ⟨rfl, fun b w hH hb => Ba rfl rfl (Bm AY rfl) (hH.row 1 rfl) hb⟩) (Ac (by intro r0_; exact ⟨rfl, fun b w hH hb => Ba rfl rfl (DM (cs := [.int .i64 a.o.kind, .string (bs a.o.name), a.v, .int .i64 (a.o.cutS : Int), .string (bs a.o.to)]) Cy rfl) (hH.row 0 rfl) hb⟩) (Ac (by exact ⟨rfl, Bk.su (Ak (os' := fun _ => [cell gc 103 #[.int .i64 a.o.kind, .string (bs a.o.name), a.v, .int .i64 (a.o.cutS : Int), .string (bs a.o.to)], cell p 70 #[r1, r2, r3, pv, sm, sh], Ar 103 5 encO pv W, BQ W, AC sm (((DS K).take (i + 1)).foldl AG f)]) [4, 3] 0 (Ai Tryz.func73 (by kernel_rfl) rfl) (T0 (Kz hok hao) (Rc haW) (by omega) (JX hao f).symm) rfl rfl rfl (fun _ => rfl) rfl rfl rfl) rfl⟩) ?_)))))
  exact B7
  intro v0_
  refine Cf.keep (env' := [(0, .pointer (some ⟨p, 0, none⟩)), (11, CB 5 pv 0 k), (12, .int .i64 (K.length : Int)), (13, .int .i64 ((i : Nat) : Int)), (14, .bool true), (15, BN (CB 5 pv 0 k) (i * 5)), (16, .agg (encO a).toArray), (5, .pointer (some ⟨gc, 0, none⟩)), (17, .pointer (some ⟨p, 0, none⟩)), (18, .pointer (some ⟨p, 0, none⟩)), (19, .pointer (some ⟨p, 4, none⟩)), (20, sm), (21, .agg #[.int .i64 a.o.kind, .string (bs a.o.name), a.v, .int .i64 (a.o.cutS : Int), .string (bs a.o.to)])]) ⟨rfl, rfl, rfl, rfl, rfl, rfl, rfl, rfl, rfl, rfl, rfl, rfl, rfl, trivial⟩ (AV (BC (AL (BB.leave [0] rfl rfl (Bp (Ae Am rfl (Aa rfl (.int .i64 ((i + 1 : Nat) : Int)) (fun b w hb hH => AQ rfl rfl rfl rfl (by rw [IntWalk.i64_in _ (by omega)]; omega) hb) (Ae Am rfl (AV ?_)))))))))
  exact Cr (i + 1) 0 (by omega) (by show K.length - (i + 1) < K.length - i; omega) ⟨rfl, rfl, rfl, rfl, trivial⟩ rfl
  have he : ((DS K).take i).foldl AG f = f' := by rw [List.take_of_length_le (by unfold DS; rw [List.length_map]; exact hi)]; exact hf
  refine Ad (Ae Am rfl (Aa rfl (.bool false) (fun b w hb hH => AZ rfl rfl rfl (BS (by omega)) hb) (Ab (Av (As rfl (CP (FP (FP (Br (AL ?_))))))))))
  rw [he]
  refine Bp (Ae Am rfl (Aa rfl (.pointer (some ⟨p, 0, none⟩)) (fun b w hb hH => by exact BD rfl rfl hb) (Ae Am rfl (AF (post := fun _ => [cell p 70 #[r1, r2, r3, .slice none 0 0, sm, sh], Ar 103 5 encO pv W, BQ W, AC sm f']) rfl rfl (AE 0 (v := .slice none 0 0) #[r1, r2, r3, .slice none 0 0, sm, sh] B2.2 rfl rfl rfl rfl rfl rfl rfl rfl rfl) ?_)))); rintro ⟨⟩
  refine AV ?_
  exact CQ  (fun w h => AH () rfl [0, 1, 2, 3] rfl h CK) rfl
theorem T2 {X : Ass} {v : Value} {f : FS} {x : OpV} {torn : Int} (hX : CO X x.v x.o.data) (hd : x.o.data = []) : AX Tryz.prog 69 #[v, .agg (encO x).toArray, .int .i64 torn] [AC v f, X] (fun (_ : Unit) => .tuple #[]) (fun (_ : Unit) => [AC v f, X]) := by
 refine Bg (args := [v, .agg (encO x).toArray, .int .i64 torn]) 26 Tryz.func69 rfl rfl rfl ?_; intro w rs
 refine Ad (Ae Am rfl (Aj (post := fun g1 => [cell g1 103 #[.int .i64 x.o.kind, .string (bs x.o.name), x.v, .int .i64 (x.o.cutS : Int), .string (bs x.o.to)], AC v f, X]) rfl (CL (cs := #[.int .i64 x.o.kind, .string (bs x.o.name), x.v, .int .i64 (x.o.cutS : Int), .string (bs x.o.to)]) rfl rfl rfl) ?_)); rintro g1
 refine Ab (Av (Ad (Ae Am rfl (Aa rfl (x.v) (fun b w hb hH => Ba rfl rfl (Bm Cx rfl) (hH.row 0 rfl) hb) (Aa rfl (.int .i64 (x.o.data.length : Int)) (fun b w hb hH => Bf ((hH.rd8 2 rfl hX).rd) Tryz.underlying32 rfl rfl hb) (Aa rfl (.bool true) (fun b w hb hH => AZ rfl rfl rfl (GT (by rw [hd]; rfl)) hb) (Ab (AI rfl (Ax (C4 ?_))))))))))
 exact MV  (fun w h => AH () rfl [1, 2] rfl h CK) rfl
theorem T3 {X : Ass} {v : Value} {f f' : FS} {n y b1 : List UInt8} {A : Option Addr} {c : Nat} {torn : Int} (hX : CO X (.slice A y.length c) y) (hl : AN f + y.length ≤ 1099511627776) (hy : y ≠ []) (ht : (torn % (y.length : Int)).toNat = b1.length) (hb1 : y.take b1.length = b1) (h : Gk f (.app n y) torn = f') : AX Tryz.prog 69 #[v, .agg #[.int .i64 0, .string (bs n), .slice A y.length c, .int .i64 0, .string (bs ([]))], .int .i64 torn] [AC v f, X] (fun (_ : Unit) => .tuple #[]) (fun (_ : Unit) => [AC v f', X]) := by
  have h_ := h
  have hb0 : 0 < y.length := List.length_pos_iff.2 hy
  have h1 := Int.emod_nonneg torn (show (y.length : Int) ≠ 0 by omega)
  have h2 := Int.emod_lt_of_pos torn (show 0 < (y.length : Int) by omega)
  have hX1 : CO X (.slice A b1.length c) b1 := fun rs w ha hb => by
    have := (hX rs w ha hb).takes (k := b1.length) (by omega)
    rwa [hb1] at this
  have hsub : CB 1 (.slice A y.length c) 0 b1.length = .slice A b1.length c := Jf
  unfold Gk at h_
  simp only [ht, hy, or_false, hb1] at h_
  refine Bg (args := [v, .agg #[.int .i64 0, .string (bs n), .slice A y.length c, .int .i64 0, .string (bs ([]))], .int .i64 torn]) 26 Tryz.func69 rfl rfl rfl ?_; intro w rs
  refine Ad (Ae Am rfl (Aj (post := fun g1 => [cell g1 103 #[.int .i64 0, .string (bs n), .slice A y.length c, .int .i64 0, .string (bs ([]))], AC v f, X]) rfl (CL (cs := #[.int .i64 0, .string (bs n), .slice A y.length c, .int .i64 0, .string (bs ([]))]) rfl rfl rfl) ?_)); rintro g1
  refine Ab (Av (Ad (Ae Am rfl (Aa rfl (.slice A y.length c) (fun b w hb hH => Ba rfl rfl (Bm Cx rfl) (hH.row 0 rfl) hb) (Aa rfl (.int .i64 (y.length : Int)) (fun b w hb hH => Bf ((hH.rd8 2 rfl hX).rd) Tryz.underlying32 rfl rfl hb) (Aa rfl (.bool false) (fun b w hb hH => AZ rfl rfl rfl (Fu (by omega)) hb) (Ab (As rfl (AB (AL (Av ?_)))))))))))
  refine BL 9 1 [⟨.quiet, [none], fun _ => .pointer (some ⟨g1, 2, none⟩), []⟩, ⟨.quiet, [none], fun _ => .slice A y.length c, [0]⟩, ⟨.quiet, [none], fun _ => .int .i64 torn, []⟩, ⟨.quiet, [none], fun _ => .pointer (some ⟨g1, 2, none⟩), []⟩, ⟨.quiet, [none], fun _ => .slice A y.length c, [3]⟩, ⟨.quiet, [none], fun _ => .int .i64 (y.length : Int), [4]⟩, ⟨.actv 0, [some false], fun _ => .int .i64 (b1.length : Int), [2, 5]⟩, ⟨.quiet, [some true], fun _ => .slice A b1.length c, [1, 6]⟩, ⟨.quiet, [some true], fun _ => .pointer (some ⟨g1, 2, none⟩), []⟩] [(0, v), (2, .int .i64 torn), (4, .pointer (some ⟨g1, 0, none⟩))] (fun ρ => match ρ with | [r0] => [cell g1 103 #[.int .i64 0, .string (bs n), .slice A y.length c, .int .i64 0, .string (bs ([]))], AC v f, X] | _ => []) (by kernel_rfl) (by kernel_rfl) ⟨rfl, rfl, rfl, trivial⟩ rfl ?_ ?_
  refine Ac (by intro r0_; exact ⟨rfl, fun b w hH hb => Af Am rfl hb⟩) (Ac (by intro r0_; exact ⟨rfl, fun b w hH hb => Ba rfl rfl (Bm Cx rfl) (hH.row 0 rfl) hb⟩) (Ac (by intro r0_; exact ⟨rfl, fun b w hH hb => Af Am rfl hb⟩) (Ac (by intro r0_; exact ⟨rfl, fun b w hH hb => Af Am rfl hb⟩) (Ac (by intro r0_; exact ⟨rfl, fun b w hH hb => Ba rfl rfl (Bm Cx rfl) (hH.row 0 rfl) hb⟩) (Ac (by intro r0_; exact ⟨rfl, fun b w hH hb => Bf ((hH.rd8 2 rfl hX).rd) Tryz.underlying32 rfl rfl hb⟩) (Ac (by exact ⟨rfl, Bk.su (AU (Ai Tryz.func68 (by kernel_rfl) rfl) (fun w hH => Lw w torn (y.length : Int) (b1.length : Int) (by omega) (by omega) (by omega)) rfl rfl rfl) rfl⟩) (Ac (by intro v0_; exact ⟨rfl, fun b w hH hb => I2 (j := b1.length) AJ hsub (Nat.le_trans (by omega) (Ky (A := A) (n := y.length) (c := c) (hH.rd8 2 rfl hX))) rfl rfl rfl hH hb⟩) (Ac (by intro v0_; exact ⟨rfl, fun b w hH hb => Af Am rfl hb⟩) ?_))))))))
  exact B7
  intro v0_
  refine Cf.keep (env' := [(0, v), (4, .pointer (some ⟨g1, 0, none⟩)), (17, .slice A b1.length c), (18, .pointer (some ⟨g1, 2, none⟩))]) ⟨rfl, rfl, rfl, rfl, trivial⟩ (Ae Am rfl (AF (post := fun _ => [cell g1 103 #[.int .i64 0, .string (bs n), .slice A b1.length c, .int .i64 0, .string (bs ([]))], AC v f, X]) rfl rfl (AE 0 (v := .slice A b1.length c) #[.int .i64 0, .string (bs n), .slice A b1.length c, .int .i64 0, .string (bs ([]))] Cx.2 rfl rfl rfl rfl rfl rfl rfl rfl rfl) ?_)); rintro ⟨⟩
  refine AV (AL ?_)
  rcases Nat.eq_zero_or_pos b1.length with h0 | h0
  rw [if_pos h0] at h_
  subst h_
  refine Ad (Ae Am rfl (Aa rfl (.slice A b1.length c) (fun b w hb hH => Ba rfl rfl (Bm Cx rfl) (hH.row 0 rfl) hb) (Aa rfl (.int .i64 (b1.length : Int)) (fun b w hb hH => Bf ((hH.rd8 2 rfl hX1).rd) Tryz.underlying32 rfl rfl hb) (Aa rfl (.bool false) (fun b w hb hH => AZ rfl rfl rfl (BI (by omega)) hb) (Ab (As rfl (AB ?_)))))))
  exact CQ  (fun w h => AH () rfl [1, 2] rfl h CK) rfl
  rw [if_neg (by omega)] at h_
  refine Ad (Ae Am rfl (Aa rfl (.slice A b1.length c) (fun b w hb hH => Ba rfl rfl (Bm Cx rfl) (hH.row 0 rfl) hb) (Aa rfl (.int .i64 (b1.length : Int)) (fun b w hb hH => Bf ((hH.rd8 2 rfl hX1).rd) Tryz.underlying32 rfl rfl hb) (Aa rfl (.bool true) (fun b w hb hH => AZ rfl rfl rfl (B0 (by omega)) hb) (Ab (AI rfl (Bp (Ae Am rfl (Aa rfl (.agg #[.int .i64 0, .string (bs n), .slice A b1.length c, .int .i64 0, .string (bs ([]))]) (fun b w hb hH => Ba rfl rfl (DM (cs := [.int .i64 0, .string (bs n), .slice A b1.length c, .int .i64 0, .string (bs ([]))]) Cy rfl) (hH.row 0 rfl) hb) (Aj rfl (Ak (os' := fun _ => [cell g1 103 #[.int .i64 0, .string (bs n), .slice A b1.length c, .int .i64 0, .string (bs ([]))], AC v f', X]) [1, 2] 0 (Ai Tryz.func73 (by kernel_rfl) rfl) (TZ hX1 (by omega) h_) rfl rfl rfl (fun _ => rfl) rfl rfl rfl) ?_)))))))))); rintro ⟨⟩
  refine AV ?_
  exact CQ  (fun w h => AH () rfl [1, 2] rfl h CK) rfl
theorem T4 {X : Ass} {v : Value} {f f' : FS} {x : OpV} {torn : Int} (hX : CO X x.v x.o.data) (hl : AN f + x.o.size ≤ 1099511627776) (h : Gk f x.o torn = f') : AX Tryz.prog 69 #[v, .agg (encO x).toArray, .int .i64 torn] [AC v f, X] (fun _ : Unit => .tuple #[]) (fun _ => [AC v f', X]) := by
  by_cases hd : x.o.data = []
  · rw [TW hd] at h
    subst h
    exact T2 hX hd
  · obtain ⟨o, A, c⟩ := x
    cases o with
    | app n b =>
      have hb : b ≠ [] := hd
      have h0 : 0 < b.length := List.length_pos_iff.2 hb
      have h1 := Int.emod_nonneg torn (show (b.length : Int) ≠ 0 by omega)
      have h2 := Int.emod_lt_of_pos torn (show 0 < (b.length : Int) by omega)
      have h3 : (b.take (torn % (b.length : Int)).toNat).length = (torn % (b.length : Int)).toNat := by rw [List.length_take]; omega
      exact T3 (b1 := b.take (torn % (b.length : Int)).toNat) hX hl hb h3.symm (congrArg (fun k => b.take k) h3) h
    | cut n s => exact absurd rfl hd
    | ren a b => exact absurd rfl hd
    | del n => exact absurd rfl hd
theorem Ou {v : Value} {f : FS} (hl : AN f ≤ 1099511627776) : AX Tryz.prog 70 #[v] [AC v f] (fun (x : { q : Nat × FS // q.2.Perm f }) => .map (some x.1.1)) (fun (x : { q : Nat × FS // q.2.Perm f }) => [AC v f, AC (.map (some x.1.1)) x.1.2]) := by
 refine Bg (args := [v]) 21 Tryz.func70 rfl rfl rfl ?_; intro w rs
 refine BB.fact 0 rfl BR ?_; rintro hnd
 refine Be 0 rfl FJ (fun _ => rfl) ?_; rintro ⟨L, hL⟩
 subst hL
 refine Ad (Ae Am rfl (Ab (Ad (Ae Am rfl (Aa rfl (.int .i64 (L.length : Int)) (fun b w hb hH => Pz 0 Tryz.underlying68 rfl rfl rfl hH hb) (Aj (post := fun gc => [BK encKey AR (.map (some gc)) ([]), BK encKey AR v L, BA L]) rfl (TX (kk := encKey) (vv := AR) Tryz.underlying68 rfl rfl) ?_)))))); rintro gc
 refine Ae Am rfl (Ab (Av (Gh (t := BA ([])) (E4) (Ad (Ae Am rfl (Aj (post := fun g1 => [BA ([]), BK encKey AR (.map (some gc)) ([]), F6 encKey AR v (.pointer (some ⟨g1, 0, none⟩)) L L none, BA L]) rfl (M4 2 Tryz.underlying68 rfl rfl rfl) ?_)))))); rintro g1
 refine Ab (Bo (Dd (α := FilL × FilL × Option (List UInt8 × PtT)) (fun ⟨left, done, cur⟩ => [(2, .map none), (3, .map (some gc)), (10, .pointer (some ⟨g1, 0, none⟩))]) (fun ⟨left, done, cur⟩ => [BA done, BK encKey AR (.map (some gc)) done, F6 encKey AR v (.pointer (some ⟨g1, 0, none⟩)) L left cur, BA L]) (fun ⟨left, done, cur⟩ => (Cm done ++ Cm left).Perm (Cm L) ∧ ∀ p, p ∈ left → p ∈ L) (fun ⟨left, done, cur⟩ => left.length) (L, [], none) ⟨.refl _, fun _ h => h⟩ ⟨rfl, rfl, rfl, trivial⟩ rfl ?_))
 rintro ⟨left, done, cur⟩ hI
 refine BB.at_ (env' := [(2, .map none), (3, .map (some gc)), (10, .pointer (some ⟨g1, 0, none⟩))]) (rs' := [BA done, BK encKey AR (.map (some gc)) done, F6 encKey AR v (.pointer (some ⟨g1, 0, none⟩)) L left cur, BA L]) ⟨rfl, rfl, rfl, trivial⟩ rfl ?_
 rcases Classical.em (left = []) with hc | hc
 have hp : (Cm done).Perm (Cm L) := by have := hI.1; rw [hc] at this; simpa [Cm] using this
 refine Ad (Ae Am rfl (Aa rfl (.tuple #[.bool false]) (fun b w hb hH => M5 2 rfl hc rfl rfl hH hb) (Ae Am rfl (Ab (Av (As rfl (CP (FP (FP (Br (AL (Be 2 rfl JN (fun _ => rfl) ?_)))))))))))); rintro ⟨⟩
 refine BB.leave [1] rfl rfl (Ad (Ae Am rfl (Ab (Ax ?_))))
 exact Aw (.tmp rfl) (fun w h => AH (X := { q : Nat × FS // q.2.Perm (Cm L) }) ⟨(gc, Cm done), hp⟩ rfl [0, 3, 2, 1] rfl h (Oq rfl)) rfl
 refine Ad (Ae Am rfl (Aj (post := fun q : { q : Nat × List UInt8 × PtT // (left)[q.1]? = some q.2 } => [BA done, BK encKey AR (.map (some gc)) done, F6 encKey AR v (.pointer (some ⟨g1, 0, none⟩)) L (left.eraseIdx q.1.1) (some (q.1.2.1, q.1.2.2)), BA L]) rfl (M6 2 rfl hc rfl rfl) ?_)); rintro q
 refine Ae Am rfl (Ab (Av (AI rfl (AB (AL (Bo ?_))))))
 have hqm : q.1.2 ∈ L := hI.2 _ (List.mem_of_getElem? q.2)
 have hqn : Fb q.1.2.1 done 0 = none := PQ hnd hI.1 q.2
 have hql : q.1.2.2.2.length ≤ AN (Cm L) := Jl hnd ((Cz hnd).2 (List.mem_map.2 ⟨_, hqm, rfl⟩))
 refine Ad (Ae Am rfl (Aa rfl (.tuple #[.string (bs q.1.2.1), q.1.2.2.1]) (fun b w hb hH => M7 2 rfl rfl rfl hH hb) (Ae Am rfl (Ab (Bp (Ae Am rfl (Aj rfl (Ak (os' := fun v9 => [Ar 5 1 encB v9 q.1.2.2.2, BA done, BK encKey AR (.map (some gc)) done, F6 encKey AR v (.pointer (some ⟨g1, 0, none⟩)) L (left.eraseIdx q.1.1) (some (q.1.2.1, q.1.2.2)), BA L]) [3] 0 (Ai Tryz.func64 (by kernel_rfl) rfl) (G7 (Ku hqm) (by omega)) rfl rfl rfl (fun _ => rfl) rfl rfl rfl) ?_))))))); rintro v9
 refine AF (post := fun _ => [Ar 5 1 encB v9 q.1.2.2.2, BA done, BK encKey AR (.map (some gc)) (BF done q.1.2.1 (v9, q.1.2.2.2)), F6 encKey AR v (.pointer (some ⟨g1, 0, none⟩)) L (left.eraseIdx q.1.1) (some (q.1.2.1, q.1.2.2)), BA L]) rfl rfl (JM 2 Dz rfl q.1.2.1 (v9, q.1.2.2.2) rfl rfl rfl rfl rfl rfl) ?_; rintro ⟨⟩
 refine Vo [1, 0] rfl (Q3 hqn (v9, q.1.2.2.2)) rfl (AV (BC ?_))
 exact Cr (left.eraseIdx q.1.1, BF done q.1.2.1 (v9, q.1.2.2.2), some (q.1.2.1, q.1.2.2)) 0 ⟨Oo hI.1 q.2 hqn, fun p hp => hI.2 p (List.mem_of_mem_eraseIdx hp)⟩ (show (left.eraseIdx q.1.1).length < left.length from IE q.2) ⟨rfl, rfl, rfl, trivial⟩ rfl
end Go.Proofs.YtjcfimmcogkopaaGreat.Sep
