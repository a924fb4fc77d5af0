/-
  DskE · DskG
-/
import Derived.Test.YtjcfimmcogkopaaGreatYB04
import Derived.Test.YtjcfimmcogkopaaGreatYC01
set_option linter.unusedSimpArgs false
set_option linter.unusedVariables false
set_option maxRecDepth 100000
namespace Go.Proofs.YtjcfimmcogkopaaGreat.Sep
open Go.RowKit
open Go.Proofs.YtjcfimmcogkopaaGreat.Mem (AZ Ci Chg Au)
theorem Tk {p : Nat} {d : DiskD} (hd : d.down = true) : AW Tryz.prog 30 #[.pointer (some ⟨p, 0, none⟩)] [Ao p d] (fun (_ : Unit) => .bool false) (fun (_ : Unit) => [Ao p d]) := by
 refine Be (args := [.pointer (some ⟨p, 0, none⟩)]) 30 Tryz.func30 rfl rfl rfl ?_; intro w rs
 refine Bd 0 rfl (J5 hd) (fun _ => rfl) ?_; rintro x
 refine Ad (Af Al rfl (Ab (Aq (Ad (Af Al rfl (Ac rfl (.pointer (some ⟨p, 0, none⟩)) (fun b w hb hH => by exact BQ rfl rfl hb) (Af Al rfl (Ac rfl (.bool true) (fun b w hb hH => Bb rfl rfl (Bn BP rfl) (hH.row 0 rfl) hb) (Ab (AI rfl (Ad (Af Al rfl (Ab (Av (C0 ?_)))))))))))))))
 exact As (.tmp rfl) (fun w h => AG () rfl [0, 1, 2, 3] rfl h (IL (os := []) ⟨x.pv, x.sm, .map none, x.W, [], x.hW, (fun h => by rw [hd] at h; cases h), x.hok, x.hf, x.hr, x.hk⟩ hd rfl)) rfl
theorem N1 {p : Nat} {d : DiskD} (hd : d.down = false) (hf : d.fuse = some 0) : AW Tryz.prog 30 #[.pointer (some ⟨p, 0, none⟩)] [Ao p d] (fun (_ : Unit) => .bool false) (fun (_ : Unit) => [Ao p ({ d with down := true })]) := by
 refine Be (args := [.pointer (some ⟨p, 0, none⟩)]) 30 Tryz.func30 rfl rfl rfl ?_; intro w rs
 refine Bd 0 rfl (Hc hd) (fun _ => rfl) ?_; rintro x
 refine Ad (Af Al rfl (Ab (Aq (Ad (Af Al rfl (Ac rfl (.pointer (some ⟨p, 0, none⟩)) (fun b w hb hH => by exact BQ rfl rfl hb) (Af Al rfl (Ac rfl (.bool false) (fun b w hb hH => Bb rfl rfl (Bn BP rfl) (hH.row 0 rfl) hb) (Ab (Aw rfl (AC (AO (Aq (Ad (Af Al rfl (Ac rfl (.pointer (some ⟨p, 0, none⟩)) (fun b w hb hH => by exact BQ rfl rfl hb) ?_))))))))))))))))
 refine Af Al rfl (Ac rfl (.int .i64 (C7 d.fuse)) (fun b w hb hH => Bb rfl rfl (Bn Bt rfl) (hH.row 0 rfl) hb) (Ac rfl (.bool true) (fun b w hb hH => Bc rfl rfl rfl (JV (by rw [hf]; rfl)) hb) (Ab (AI rfl (Ad (Af Al rfl (Ac rfl (.pointer (some ⟨p, 0, none⟩)) (fun b w hb hH => by exact BQ rfl rfl hb) (Af Al rfl (AU (post := fun _ => [cell p 70 #[.int .i64 d.room, .int .i64 (C7 d.fuse), .bool true, x.pv, x.sm, x.sh], Ap 103 5 encO x.pv x.W, BI x.W, Ax x.sm d.syn, Ax x.sh x.g]) rfl rfl (AQ 0 (v := .bool true) #[.int .i64 d.room, .int .i64 (C7 d.fuse), .bool true, x.pv, x.sm, x.sh] BP.2 rfl rfl rfl rfl rfl rfl rfl rfl rfl) ?_))))))))); rintro ⟨⟩
 refine Ac rfl (.pointer (some ⟨p, 0, none⟩)) (fun b w hb hH => by exact BQ rfl rfl hb) (Af Al rfl (AU (post := fun _ => [cell p 70 #[.int .i64 d.room, .int .i64 (C7 d.fuse), .bool true, x.pv, x.sm, .map none], Ap 103 5 encO x.pv x.W, BI x.W, Ax x.sm d.syn, Ax x.sh x.g]) rfl rfl (AQ 0 (v := .map none) #[.int .i64 d.room, .int .i64 (C7 d.fuse), .bool true, x.pv, x.sm, .map none] AT.2 rfl rfl rfl rfl rfl rfl rfl rfl rfl) ?_)); rintro ⟨⟩
 refine Ab (Ad (Af Al rfl (Ab (Av (C0 ?_)))))
 exact As (.tmp rfl) (fun w h => AG () rfl [0, 1, 2, 3] rfl h (IL (os := []) (d := { d with down := true }) ⟨x.pv, x.sm, .map none, x.W, [], x.hW, (fun h => by cases h), x.hok, x.hf, x.hr, x.hk⟩ rfl rfl)) rfl
theorem Ps {p : Nat} {d : DiskD} {n : Nat} (hd : d.down = false) (hf : d.fuse = some (n + 1)) : AW Tryz.prog 30 #[.pointer (some ⟨p, 0, none⟩)] [Ao p d] (fun (_ : Unit) => .bool true) (fun (_ : Unit) => [Ao p ({ d with fuse := some n })]) := by
 refine Be (args := [.pointer (some ⟨p, 0, none⟩)]) 30 Tryz.func30 rfl rfl rfl ?_; intro w rs
 refine Bd 0 rfl (Hc hd) (fun _ => rfl) ?_; rintro x
 have hz : C7 d.fuse = (n : Int) + 1 := by rw [hf]; rfl
 have hn := x.hf _ hf
 refine Ad (Af Al rfl (Ab (Aq (Ad (Af Al rfl (Ac rfl (.pointer (some ⟨p, 0, none⟩)) (fun b w hb hH => by exact BQ rfl rfl hb) (Af Al rfl (Ac rfl (.bool false) (fun b w hb hH => Bb rfl rfl (Bn BP rfl) (hH.row 0 rfl) hb) (Ab (Aw rfl (AC (AO (Aq (Ad (Af Al rfl (Ac rfl (.pointer (some ⟨p, 0, none⟩)) (fun b w hb hH => by exact BQ rfl rfl hb) ?_))))))))))))))))
 refine Af Al rfl (Ac rfl (.int .i64 (C7 d.fuse)) (fun b w hb hH => Bb rfl rfl (Bn Bt rfl) (hH.row 0 rfl) hb) (Ac rfl (.bool false) (fun b w hb hH => Bc rfl rfl rfl (JR (by omega)) hb) (Ab (Aw rfl (AC (AO (Aq (Ad (Af Al rfl (Ac rfl (.pointer (some ⟨p, 0, none⟩)) (fun b w hb hH => by exact BQ rfl rfl hb) (Af Al rfl (Ac rfl (.int .i64 (C7 d.fuse)) (fun b w hb hH => Bb rfl rfl (Bn Bt rfl) (hH.row 0 rfl) hb) (Ac rfl (.bool true) (fun b w hb hH => Bc rfl rfl rfl (B4 (by omega)) hb) (Ab (AI rfl (BV ?_))))))))))))))))
 refine Af Al rfl (Ac rfl (.pointer (some ⟨p, 0, none⟩)) (fun b w hb hH => by exact BQ rfl rfl hb) (Af Al rfl (Ac rfl (.int .i64 (C7 d.fuse)) (fun b w hb hH => Bb rfl rfl (Bn Bt rfl) (hH.row 0 rfl) hb) (Ac rfl (.int .i64 (n : Int)) (fun b w hb hH => AS rfl rfl rfl rfl (by rw [IntWalk.i64_in _ (by omega)]; omega) hb) (Ac rfl (.pointer (some ⟨p, 0, none⟩)) (fun b w hb hH => by exact BQ rfl rfl hb) (Af Al rfl (AU (post := fun _ => [cell p 70 #[.int .i64 d.room, .int .i64 (n : Int), .bool false, x.pv, x.sm, x.sh], Ap 103 5 encO x.pv x.W, BI x.W, Ax x.sm d.syn, Ax x.sh x.g]) rfl rfl (AQ 0 (v := .int .i64 (n : Int)) #[.int .i64 d.room, .int .i64 (n : Int), .bool false, x.pv, x.sm, x.sh] Bt.2 rfl rfl rfl rfl rfl rfl rfl rfl rfl) ?_))))))); rintro ⟨⟩
 refine Bi (AO (Ad (Af Al rfl (Ab (Av ?_)))))
 exact As (.tmp rfl) (fun w h => AG () rfl [0, 1, 2, 3, 4] rfl h (FI (os := []) (d := { d with fuse := some n }) ⟨x.pv, x.sm, x.sh, x.W, x.g, x.hW, x.hg, x.hok, (fun m hm => by cases hm; omega), x.hr, x.hk⟩ hd)) rfl
theorem RQ {p : Nat} {d : DiskD} (hd : d.down = false) (hf : d.fuse = none) : AW Tryz.prog 30 #[.pointer (some ⟨p, 0, none⟩)] [Ao p d] (fun (_ : Unit) => .bool true) (fun (_ : Unit) => [Ao p d]) := by
 refine Be (args := [.pointer (some ⟨p, 0, none⟩)]) 30 Tryz.func30 rfl rfl rfl ?_; intro w rs
 refine Bd 0 rfl (Hc hd) (fun _ => rfl) ?_; rintro x
 have hz : C7 d.fuse = -1 := by rw [hf]; rfl
 refine Ad (Af Al rfl (Ab (Aq (Ad (Af Al rfl (Ac rfl (.pointer (some ⟨p, 0, none⟩)) (fun b w hb hH => by exact BQ rfl rfl hb) (Af Al rfl (Ac rfl (.bool false) (fun b w hb hH => Bb rfl rfl (Bn BP rfl) (hH.row 0 rfl) hb) (Ab (Aw rfl (AC (AO (Aq (Ad (Af Al rfl (Ac rfl (.pointer (some ⟨p, 0, none⟩)) (fun b w hb hH => by exact BQ rfl rfl hb) ?_))))))))))))))))
 refine Af Al rfl (Ac rfl (.int .i64 (C7 d.fuse)) (fun b w hb hH => Bb rfl rfl (Bn Bt rfl) (hH.row 0 rfl) hb) (Ac rfl (.bool false) (fun b w hb hH => Bc rfl rfl rfl (JR (by omega)) hb) (Ab (Aw rfl (AC (AO (Aq (Ad (Af Al rfl (Ac rfl (.pointer (some ⟨p, 0, none⟩)) (fun b w hb hH => by exact BQ rfl rfl hb) (Af Al rfl (Ac rfl (.int .i64 (C7 d.fuse)) (fun b w hb hH => Bb rfl rfl (Bn Bt rfl) (hH.row 0 rfl) hb) (Ac rfl (.bool false) (fun b w hb hH => Bc rfl rfl rfl (BE (by omega)) hb) (Ab (Aw rfl (AC (AO (Ad ?_))))))))))))))))))
 refine Af Al rfl (Ab (Av ?_))
 exact As (.tmp rfl) (fun w h => AG () rfl [0, 1, 2, 3, 4] rfl h (FI (os := []) x hd)) rfl
theorem IP {p : Nat} {d d1 : DiskD} (h : Bj d = (d1, 3)) : AW Tryz.prog 30 #[.pointer (some ⟨p, 0, none⟩)] [Ao p d] (fun _ : Unit => .bool false) (fun _ => [Ao p d1]) := by
  unfold Bj at h
  cases hd : d.down
  · cases hf : d.fuse with
    | none => rw [if_neg (by simp [hd, hf])] at h; cases h
    | some n =>
      cases n with
      | zero => rw [if_pos (.inr hf)] at h; cases h; exact N1 hd hf
      | succ n => rw [if_neg (by simp [hd, hf])] at h; cases h
  · rw [if_pos (.inl hd)] at h
    cases h
    have e : ({ d with down := true } : DiskD) = d := by obtain ⟨_, _, _, _, dn⟩ := d; cases hd; rfl
    rw [e]; exact Tk hd
theorem Eb {p : Nat} {d d1 : DiskD} (h : Bj d = (d1, 0)) : AW Tryz.prog 30 #[.pointer (some ⟨p, 0, none⟩)] [Ao p d] (fun _ : Unit => .bool true) (fun _ => [Ao p d1]) := by
  unfold Bj at h
  cases hd : d.down
  · cases hf : d.fuse with
    | none =>
      rw [if_neg (by simp [hd, hf])] at h
      cases h
      have e : ({ d with fuse := d.fuse.map (· - 1) } : DiskD) = d := by obtain ⟨_, _, _, fu, _⟩ := d; cases hf; rfl
      rw [e]; exact RQ hd hf
    | some n =>
      cases n with
      | zero => rw [if_pos (.inr hf)] at h; cases h
      | succ n =>
        rw [if_neg (by simp [hd, hf])] at h
        cases h
        rw [hf]; exact Ps hd hf
  · rw [if_pos (.inl hd)] at h; cases h
theorem EC {d d1 : DiskD} (h : Bj d = (d1, 0)) : d1.down = false ∧ d1.syn = d.syn ∧ d1.wait = d.wait ∧ d1.room = d.room := by
  unfold Bj at h
  cases hd : d.down
  · by_cases hf : d.fuse = some 0
    · rw [if_pos (.inr hf)] at h; cases h
    · rw [if_neg (by simp [hd, hf])] at h; cases h; exact ⟨hd, rfl, rfl, rfl⟩
  · rw [if_pos (.inl hd)] at h; cases h
theorem IQ (d : DiskD) : (Bj d).2 = 3 ∨ (Bj d).2 = 0 := by
  unfold Bj
  split
  · exact .inl rfl
  · exact .inr rfl
theorem Er {d d1 : DiskD} (h : Bj d = (d1, 0)) (hd : d.fit) : d1.fit := by
 obtain ⟨_, h1, h2, _⟩ := EC h
 unfold DiskD.fit
 rw [h1, h2]; exact hd
theorem MQ {p : Nat} {d : DiskD} {x : OpV} (hd : d.down = false) (hfit : d.fit) (ho : MM d.now x.o) (hl : x.o.size ≤ 1048576) : AW Tryz.prog 63 #[.pointer (some ⟨p, 0, none⟩), .agg (encO x).toArray] [Ao p d, Ap 5 1 encB x.v x.o.data] (fun (_ : Unit) => .int .i64 0) (fun (_ : Unit) => [Ao p (Cj d x.o)]) := by
  refine Be (args := [.pointer (some ⟨p, 0, none⟩), .agg (encO x).toArray]) 21 Tryz.func63 rfl rfl rfl ?_; intro w rs
  refine Bd 0 rfl (Hc hd) (fun _ => rfl) ?_; rintro y
  refine Bv.fact 3 rfl BG ?_; rintro hsn
  refine Bv.fact 4 rfl BG ?_; rintro hgn
  have hu : AF y.g ≤ 1099511627776 := by rw [Dj (y.hg hd)]; exact H5 hfit hsn y.hok
  have hWl := J6 y
  have hw := hfit.2
  have ho2 := NW (y.hg hd).symm (LN hsn) ho
  refine Ad (Af Al rfl (Aj (post := fun g1 => [cell g1 103 #[.int .i64 x.o.kind, .string (bs x.o.name), x.v, .int .i64 (x.o.cutS : Int), .string (bs x.o.to)], cell p 70 #[.int .i64 d.room, .int .i64 (C7 d.fuse), .bool false, y.pv, y.sm, y.sh], Ap 103 5 encO y.pv y.W, BI y.W, Ax y.sm d.syn, Ax y.sh y.g, Ap 5 1 encB x.v x.o.data]) rfl (CU (cs := #[.int .i64 x.o.kind, .string (bs x.o.name), x.v, .int .i64 (x.o.cutS : Int), .string (bs x.o.to)]) rfl rfl rfl) ?_)); rintro g1
  refine Af Al rfl (Ab (Aq ?_))
  refine BK 6 1 [⟨.quiet, [none], fun _ => .pointer (some ⟨p, 0, none⟩), []⟩, ⟨.quiet, [none], fun _ => .pointer (some ⟨p, 0, none⟩), [0]⟩, ⟨.quiet, [none], fun _ => .pointer (some ⟨p, 5, none⟩), [1]⟩, ⟨.quiet, [none], fun _ => y.sh, [2]⟩, ⟨.quiet, [none], fun _ => .agg #[.int .i64 x.o.kind, .string (bs x.o.name), x.v, .int .i64 (x.o.cutS : Int), .string (bs x.o.to)], []⟩, ⟨.actv 0, [some false], fun _ => .tuple #[], [3, 4]⟩] [(0, .pointer (some ⟨p, 0, none⟩)), (3, .pointer (some ⟨g1, 0, none⟩)), (4, .int .i64 0)] (fun ρ => match ρ with | [r0] => [cell g1 103 #[.int .i64 x.o.kind, .string (bs x.o.name), x.v, .int .i64 (x.o.cutS : Int), .string (bs x.o.to)], cell p 70 #[.int .i64 d.room, .int .i64 (C7 d.fuse), .bool false, y.pv, y.sm, y.sh], Ap 103 5 encO y.pv y.W, BI y.W, Ax y.sm d.syn, CJ r0 (fun _ => Ax y.sh (AP y.g x.o)) (Ax y.sh y.g), Ap 5 1 encB x.v x.o.data] | _ => []) (by kernel_rfl) (by kernel_rfl) ⟨rfl, rfl, rfl, trivial⟩ rfl ?_ ?_
  refine Aa (by intro r0_; exact ⟨rfl, fun b w hH hb => Ae Al rfl hb⟩) (Aa (by intro r0_; exact ⟨rfl, fun b w hH hb => by exact BQ rfl rfl hb⟩) (Aa (by intro r0_; exact ⟨rfl, fun b w hH hb => Ae Al rfl hb⟩) (Aa (by intro r0_; exact ⟨rfl, fun b w hH hb => Bb rfl rfl (Bn AT rfl) (hH.row 1 rfl) hb⟩) (Aa (by intro r0_; exact ⟨rfl, fun b w hH hb => Bb rfl rfl (EX (cs := [.int .i64 x.o.kind, .string (bs x.o.name), x.v, .int .i64 (x.o.cutS : Int), .string (bs x.o.to)]) Cm rfl) (hH.row 0 rfl) hb⟩) (Aa (by exact ⟨rfl, Bq.su (Am (os' := fun _ => [cell g1 103 #[.int .i64 x.o.kind, .string (bs x.o.name), x.v, .int .i64 (x.o.cutS : Int), .string (bs x.o.to)], cell p 70 #[.int .i64 d.room, .int .i64 (C7 d.fuse), .bool false, y.pv, y.sm, y.sh], Ap 103 5 encO y.pv y.W, BI y.W, Ax y.sm d.syn, Ax y.sh (AP y.g x.o), Ap 5 1 encB x.v x.o.data]) [5, 6] 0 (Ag Tryz.func73 (by kernel_rfl) rfl) (Tj ho2 Db (by omega) rfl) rfl rfl rfl (fun _ => rfl) rfl rfl rfl) rfl⟩) ?_)))))
  exact Cf
  intro v0_
  refine Ce.keep (env' := [(0, .pointer (some ⟨p, 0, none⟩)), (3, .pointer (some ⟨g1, 0, none⟩)), (4, .int .i64 0)]) ⟨rfl, rfl, rfl, trivial⟩ (Bi (AO (Aq (Ep 1 rfl ?_))))
  refine BK 10 2 [⟨.quiet, [none, none], fun _ => .pointer (some ⟨p, 0, none⟩), []⟩, ⟨.quiet, [none, none], fun _ => .pointer (some ⟨p, 0, none⟩), []⟩, ⟨.quiet, [none, none], fun _ => .pointer (some ⟨p, 0, none⟩), [1]⟩, ⟨.quiet, [none, none], fun _ => .pointer (some ⟨p, 3, none⟩), [2]⟩, ⟨.quiet, [none, none], fun _ => y.pv, [3]⟩, ⟨.quiet, [none, none], fun _ => .agg #[.int .i64 x.o.kind, .string (bs x.o.name), x.v, .int .i64 (x.o.cutS : Int), .string (bs x.o.to)], []⟩, ⟨.act 0, [some false, some false], fun _ => undef, [5]⟩, ⟨.act 1, [some true, some false], fun _ => undef, [4, 6]⟩, ⟨.quiet, [some true, some true], fun _ => .pointer (some ⟨p, 0, none⟩), [0]⟩, ⟨.quiet, [some true, some true], fun _ => .pointer (some ⟨p, 3, none⟩), [8]⟩] [(0, .pointer (some ⟨p, 0, none⟩)), (3, .pointer (some ⟨g1, 0, none⟩)), (4, .int .i64 0)] (fun ρ => match ρ with | [r0, r1] => [CJ r0 (fun u1 => Ap 103 5 encO u1 ([x])) (EF), cell g1 103 #[.int .i64 x.o.kind, .string (bs x.o.name), x.v, .int .i64 (x.o.cutS : Int), .string (bs x.o.to)], cell p 70 #[.int .i64 d.room, .int .i64 (C7 d.fuse), .bool false, y.pv, y.sm, y.sh], CJ r1 (fun u2 => Ap 103 5 encO u2 (y.W ++ ([x]))) (Ap 103 5 encO y.pv y.W), BI y.W, Ax y.sm d.syn, Ax y.sh (AP y.g x.o), Ap 5 1 encB x.v x.o.data] | _ => []) (by kernel_rfl) (by kernel_rfl) ⟨rfl, rfl, rfl, trivial⟩ rfl ?_ ?_
  refine Aa (by intro r0_ r1_; exact ⟨rfl, fun b w hH hb => Ae Al rfl hb⟩) (Aa (by intro r0_ r1_; exact ⟨rfl, fun b w hH hb => Ae Al rfl hb⟩) (Aa (by intro r0_ r1_; exact ⟨rfl, fun b w hH hb => by exact BQ rfl rfl hb⟩) (Aa (by intro r0_ r1_; exact ⟨rfl, fun b w hH hb => Ae Al rfl hb⟩) (Aa (by intro r0_ r1_; exact ⟨rfl, fun b w hH hb => Bb rfl rfl (Bn BU rfl) (hH.row 2 rfl) hb⟩) (Aa (by intro r0_ r1_; exact ⟨rfl, fun b w hH hb => Bb rfl rfl (EX (cs := [.int .i64 x.o.kind, .string (bs x.o.name), x.v, .int .i64 (x.o.cutS : Int), .string (bs x.o.to)]) Cm rfl) (hH.row 1 rfl) hb⟩) ?_)))))
  refine Aa (by exact ⟨rfl, Bq.s (Bq.place (val := fun u1 : Value => u1) (t := fun u1 => Ap 103 5 encO u1 ([x])) (os' := fun u1 => [Ap 103 5 encO u1 ([x]), cell g1 103 #[.int .i64 x.o.kind, .string (bs x.o.name), x.v, .int .i64 (x.o.cutS : Int), .string (bs x.o.to)], cell p 70 #[.int .i64 d.room, .int .i64 (C7 d.fuse), .bool false, y.pv, y.sm, y.sh], Ap 103 5 encO y.pv y.W, BI y.W, Ax y.sm d.syn, Ax y.sh (AP y.g x.o), Ap 5 1 encB x.v x.o.data]) 0 rfl (by refine Fd (e := 103) (t := 66) (k := 5) (enc := encO) (x := .tmp 16) (c := .agg #[.int .i64 x.o.kind, .string (bs x.o.name), x.v, .int .i64 (x.o.cutS : Int), .string (bs x.o.to)]) ?_ ?_ ?_ x ?_ ?_ ?_; exact Cx; exact (by decide); exact QM; exact rfl; exact rfl; exact rfl) (fun _ => rfl)) (fun _ => rfl)⟩) ?_
  refine Aa (by intro u1; exact ⟨rfl, Bq.s (Dr 3 Cx QM rfl ([x]) (fun w hH => hH.vec 0 rfl QM) (by simp only [List.length_cons, List.length_nil]; omega) rfl rfl rfl rfl) (fun _ => rfl)⟩) (Aa (by intro u1 u2; exact ⟨rfl, fun b w hH hb => by exact BQ rfl rfl hb⟩) (Aa (by intro u1 u2; exact ⟨rfl, fun b w hH hb => Ae Al rfl hb⟩) ?_))
  exact Cf
  intro u1 u2
  refine Ce.keep (env' := [(4, .int .i64 0), (18, u2), (20, .pointer (some ⟨p, 3, none⟩))]) ⟨rfl, rfl, rfl, trivial⟩ (Af Al rfl (AU (post := fun _ => [Ap 103 5 encO u1 ([x]), cell g1 103 #[.int .i64 x.o.kind, .string (bs x.o.name), x.v, .int .i64 (x.o.cutS : Int), .string (bs x.o.to)], cell p 70 #[.int .i64 d.room, .int .i64 (C7 d.fuse), .bool false, u2, y.sm, y.sh], Ap 103 5 encO u2 (y.W ++ ([x])), BI y.W, Ax y.sm d.syn, Ax y.sh (AP y.g x.o), Ap 5 1 encB x.v x.o.data]) rfl rfl (Gn 2 3 (v := u2) #[.int .i64 d.room, .int .i64 (C7 d.fuse), .bool false, u2, y.sm, y.sh] BU.2 rfl (fun _ h => Ap.c1 h) rfl rfl rfl rfl rfl rfl rfl) ?_)); rintro ⟨⟩
  refine Bi (AO (Bk [4, 7] rfl HJ rfl (Ad (Af Al rfl (Ab (Av ?_))))))
  exact As (.tmp rfl) (fun w h => AG () rfl [3, 4, 0, 5, 6] rfl h (FI (os := []) (d := Cj d x.o) ⟨u2, y.sm, y.sh, y.W ++ [x], AP y.g x.o, (by rw [show DE (y.W ++ [x]) = DE y.W ++ [x.o] by simp [DE], y.hW]; rfl), (fun _ => by rw [Cg]; exact RB (y.hg hd) hgn x.o), Jj y.hok ho, y.hf, y.hr, y.hk⟩ hd)) rfl
end Go.Proofs.YtjcfimmcogkopaaGreat.Sep
namespace Go.Proofs.YtjcfimmcogkopaaGreat.Sep
open Go.RowKit
open Go.Proofs.YtjcfimmcogkopaaGreat.Mem (AZ Ci Chg Au)
theorem N2 {p k : Nat} {r1 r2 r3 pv sm sh : Value} {W K : List OpV} {f f' : FS} (hk : k ≤ W.length) (hW : W.length ≤ 1000000) (hK : W.take k = K) (hok : Fe f (DE K)) (hsz : AF f + ((DE K).map OpD.size).sum ≤ 1099511627776) (hf : (DE K).foldl AP f = f') : AW Tryz.prog 31 #[.pointer (some ⟨p, 0, none⟩), .int .i64 (k : Int)] [cell p 70 #[r1, r2, r3, pv, sm, sh], Ap 103 5 encO pv W, BI W, Ax sm f] (fun (_ : Unit) => .tuple #[]) (fun (_ : Unit) => [cell p 70 #[r1, r2, r3, .slice none 0 0, sm, sh], Ap 103 5 encO pv W, BI W, Ax sm f']) := by
  refine Be (args := [.pointer (some ⟨p, 0, none⟩), .int .i64 (k : Int)]) 27 Tryz.func31 rfl rfl rfl ?_; intro w rs
  refine Bv.fact 3 rfl BG ?_; rintro hnd
  have hKl : K.length ≤ W.length := by rw [← hK, List.length_take]; omega
  refine Aq (Ad (Af Al rfl (Ac rfl (.pointer (some ⟨p, 0, none⟩)) (fun b w hb hH => by exact BQ rfl rfl hb) (Af Al rfl (Ac rfl (pv) (fun b w hb hH => Bb rfl rfl (Bn BU rfl) (hH.row 0 rfl) hb) (Af Al rfl (Ac rfl (Cp 5 pv 0 k) (fun b w hb hH => G2 1 (b := k) Cx rfl hk rfl rfl rfl hH hb) (Ac rfl (.int .i64 (K.length : Int)) (fun b w hb hH => AY (hH.vecq 1 rfl QM (Nat.zero_le _) hk (m := K) (by simpa using hK)) Tryz.underlying66 rfl rfl hb) (Af Al rfl (Ab (Bm ?_)))))))))))
  refine C9 (α := Nat) (fun i => [(0, .pointer (some ⟨p, 0, none⟩)), (11, Cp 5 pv 0 k), (12, .int .i64 (K.length : Int)), (13, .int .i64 ((i : Nat) : Int))]) (fun i => [cell p 70 #[r1, r2, r3, pv, sm, sh], Ap 103 5 encO pv W, BI W, Ax sm (((DE K).take i).foldl AP f)]) (fun i => i ≤ K.length) (fun i => K.length - i) 0 (Nat.zero_le _) ⟨rfl, rfl, rfl, rfl, trivial⟩ rfl ?_
  rintro i hI
  refine Bv.at_ (env' := [(0, .pointer (some ⟨p, 0, none⟩)), (11, Cp 5 pv 0 k), (12, .int .i64 (K.length : Int)), (13, .int .i64 ((i : Nat) : Int))]) (rs' := [cell p 70 #[r1, r2, r3, pv, sm, sh], Ap 103 5 encO pv W, BI W, Ax sm (((DE K).take i).foldl AP f)]) ⟨rfl, rfl, rfl, rfl, trivial⟩ rfl ?_
  have hc : i < K.length ∨ K.length ≤ i := by omega
  rcases hc with hi | hi
  obtain ⟨a, ha⟩ : ∃ a, K[i]? = some a := ⟨_, List.getElem?_eq_getElem hi⟩
  have haW : a ∈ W := by rw [← hK] at ha; exact List.mem_of_mem_take (List.mem_of_getElem? ha)
  have hao : (DE K)[i]? = some a.o := by unfold DE; rw [List.getElem?_map, ha]; rfl
  have hsa : AF (((DE K).take i).foldl AP f) + a.o.size ≤ 1099511627776 := IN hnd hok hao hsz
  refine Ad (Af Al rfl (Ac rfl (.bool true) (fun b w hb hH => Bc rfl rfl rfl (BN (by omega)) hb) (Ab (Aq (AI rfl (AC (AO (Aq (Bm (Ad (Af Al rfl (Ac rfl (Cs (Cp 5 pv 0 k) (i * 5)) (fun b w hb hH => BH QM (hH.vecq 1 rfl QM (Nat.zero_le _) hk (m := K) (by simpa using hK)) Cx (j := i) ha rfl rfl rfl hb) (Ac rfl (.agg (encO a).toArray) (fun b w hb hH => OR QM (by decide) (hH.vecq 1 rfl QM (Nat.zero_le _) hk (m := K) (by simpa using hK)) (j := i) ha Cm rfl rfl hb) (Aj (post := fun gc => [cell gc 103 #[.int .i64 0, .string { data := #[] }, .slice none 0 0, .int .i64 0, .string { data := #[] }], cell p 70 #[r1, r2, r3, pv, sm, sh], Ap 103 5 encO pv W, BI W, Ax sm (((DE K).take i).foldl AP f)]) rfl (Ch IG rfl) ?_)))))))))))))); rintro gc
  refine AU (post := fun _ => [cell gc 103 #[.int .i64 a.o.kind, .string (bs a.o.name), a.v, .int .i64 (a.o.cutS : Int), .string (bs a.o.to)], cell p 70 #[r1, r2, r3, pv, sm, sh], Ap 103 5 encO pv W, BI W, Ax sm (((DE K).take i).foldl AP f)]) rfl rfl (AQ 0 (v := .agg (encO a).toArray) #[.int .i64 a.o.kind, .string (bs a.o.name), a.v, .int .i64 (a.o.cutS : Int), .string (bs a.o.to)] Cm.2 rfl rfl rfl rfl rfl rfl rfl rfl rfl) ?_; rintro ⟨⟩
  refine Ab ?_
  refine BK 6 1 [⟨.quiet, [none], fun _ => .pointer (some ⟨p, 0, none⟩), []⟩, ⟨.quiet, [none], fun _ => .pointer (some ⟨p, 0, none⟩), [0]⟩, ⟨.quiet, [none], fun _ => .pointer (some ⟨p, 4, none⟩), [1]⟩, ⟨.quiet, [none], fun _ => sm, [2]⟩, ⟨.quiet, [none], fun _ => .agg #[.int .i64 a.o.kind, .string (bs a.o.name), a.v, .int .i64 (a.o.cutS : Int), .string (bs a.o.to)], []⟩, ⟨.actv 0, [some false], fun _ => .tuple #[], [3, 4]⟩] [(0, .pointer (some ⟨p, 0, none⟩)), (11, Cp 5 pv 0 k), (12, .int .i64 (K.length : Int)), (13, .int .i64 ((i : Nat) : Int)), (14, .bool true), (15, Cs (Cp 5 pv 0 k) (i * 5)), (16, .agg (encO a).toArray), (5, .pointer (some ⟨gc, 0, none⟩))] (fun ρ => match ρ with | [r0] => [cell gc 103 #[.int .i64 a.o.kind, .string (bs a.o.name), a.v, .int .i64 (a.o.cutS : Int), .string (bs a.o.to)], cell p 70 #[r1, r2, r3, pv, sm, sh], Ap 103 5 encO pv W, BI W, CJ r0 (fun _ => Ax sm (((DE K).take (i + 1)).foldl AP f)) (Ax sm (((DE K).take i).foldl AP f))] | _ => []) (by kernel_rfl) (by kernel_rfl) ⟨rfl, rfl, rfl, rfl, rfl, rfl, rfl, rfl, trivial⟩ rfl ?_ ?_
  refine Aa (by intro r0_; exact ⟨rfl, fun b w hH hb => Ae Al rfl hb⟩) (Aa (by intro r0_; exact ⟨rfl, fun b w hH hb => by exact BQ rfl rfl hb⟩) (Aa (by intro r0_; exact ⟨rfl, fun b w hH hb => Ae Al rfl hb⟩) (Aa (by intro r0_; exact ⟨rfl, fun b w hH hb => Bb rfl rfl (Bn AT rfl) (hH.row 1 rfl) hb⟩) (Aa (by intro r0_; exact ⟨rfl, fun b w hH hb => Bb rfl rfl (EX (cs := [.int .i64 a.o.kind, .string (bs a.o.name), a.v, .int .i64 (a.o.cutS : Int), .string (bs a.o.to)]) Cm rfl) (hH.row 0 rfl) hb⟩) (Aa (by exact ⟨rfl, Bq.su (Am (os' := fun _ => [cell gc 103 #[.int .i64 a.o.kind, .string (bs a.o.name), a.v, .int .i64 (a.o.cutS : Int), .string (bs a.o.to)], cell p 70 #[r1, r2, r3, pv, sm, sh], Ap 103 5 encO pv W, BI W, Ax sm (((DE K).take (i + 1)).foldl AP f)]) [4, 3] 0 (Ag Tryz.func73 (by kernel_rfl) rfl) (Tj (MN hok hao) (QN haW) (by omega) (RP hao f).symm) rfl rfl rfl (fun _ => rfl) rfl rfl rfl) rfl⟩) ?_)))))
  exact Cf
  intro v0_
  refine Ce.keep (env' := [(0, .pointer (some ⟨p, 0, none⟩)), (11, Cp 5 pv 0 k), (12, .int .i64 (K.length : Int)), (13, .int .i64 ((i : Nat) : Int)), (14, .bool true), (15, Cs (Cp 5 pv 0 k) (i * 5)), (16, .agg (encO a).toArray), (5, .pointer (some ⟨gc, 0, none⟩)), (17, .pointer (some ⟨p, 0, none⟩)), (18, .pointer (some ⟨p, 0, none⟩)), (19, .pointer (some ⟨p, 4, none⟩)), (20, sm), (21, .agg #[.int .i64 a.o.kind, .string (bs a.o.name), a.v, .int .i64 (a.o.cutS : Int), .string (bs a.o.to)])]) ⟨rfl, rfl, rfl, rfl, rfl, rfl, rfl, rfl, rfl, rfl, rfl, rfl, rfl, trivial⟩ (Bi (B3 (AO (Bv.leave [0] rfl rfl (BV (Af Al rfl (Ac rfl (.int .i64 ((i + 1 : Nat) : Int)) (fun b w hb hH => AS rfl rfl rfl rfl (by rw [IntWalk.i64_in _ (by omega)]; omega) hb) (Af Al rfl (Bi ?_)))))))))
  exact CM (i + 1) 0 (by omega) (by show K.length - (i + 1) < K.length - i; omega) ⟨rfl, rfl, rfl, rfl, trivial⟩ rfl
  have he : ((DE K).take i).foldl AP f = f' := by rw [List.take_of_length_le (by unfold DE; rw [List.length_map]; exact hi)]; exact hf
  refine Ad (Af Al rfl (Ac rfl (.bool false) (fun b w hb hH => Bc rfl rfl rfl (B9 (by omega)) hb) (Ab (Aq (Aw rfl (CQ (FR (FR (Br (AO ?_))))))))))
  rw [he]
  refine BV (Af Al rfl (Ac rfl (.pointer (some ⟨p, 0, none⟩)) (fun b w hb hH => by exact BQ rfl rfl hb) (Af Al rfl (AU (post := fun _ => [cell p 70 #[r1, r2, r3, .slice none 0 0, sm, sh], Ap 103 5 encO pv W, BI W, Ax sm f']) rfl rfl (AQ 0 (v := .slice none 0 0) #[r1, r2, r3, .slice none 0 0, sm, sh] BU.2 rfl rfl rfl rfl rfl rfl rfl rfl rfl) ?_)))); rintro ⟨⟩
  refine Bi ?_
  exact DM  (fun w h => AG () rfl [0, 1, 2, 3] rfl h CV) rfl
theorem Tl {X : Ass} {v : Value} {f : FS} {x : OpV} {torn : Int} (hX : Cu X x.v x.o.data) (hd : x.o.data = []) : AW Tryz.prog 69 #[v, .agg (encO x).toArray, .int .i64 torn] [Ax v f, X] (fun (_ : Unit) => .tuple #[]) (fun (_ : Unit) => [Ax v f, X]) := by
 refine Be (args := [v, .agg (encO x).toArray, .int .i64 torn]) 26 Tryz.func69 rfl rfl rfl ?_; intro w rs
 refine Ad (Af Al rfl (Aj (post := fun g1 => [cell g1 103 #[.int .i64 x.o.kind, .string (bs x.o.name), x.v, .int .i64 (x.o.cutS : Int), .string (bs x.o.to)], Ax v f, X]) rfl (CU (cs := #[.int .i64 x.o.kind, .string (bs x.o.name), x.v, .int .i64 (x.o.cutS : Int), .string (bs x.o.to)]) rfl rfl rfl) ?_)); rintro g1
 refine Ab (Aq (Ad (Af Al rfl (Ac rfl (x.v) (fun b w hb hH => Bb rfl rfl (Bn Cy rfl) (hH.row 0 rfl) hb) (Ac rfl (.int .i64 (x.o.data.length : Int)) (fun b w hb hH => AY ((hH.rd8 2 rfl hX).rd) Tryz.underlying32 rfl rfl hb) (Ac rfl (.bool true) (fun b w hb hH => Bc rfl rfl rfl (JV (by rw [hd]; rfl)) hb) (Ab (AI rfl (Av (C0 ?_))))))))))
 exact Mp  (fun w h => AG () rfl [1, 2] rfl h CV) rfl
theorem Tm {X : Ass} {v : Value} {f f' : FS} {n y b1 : List UInt8} {A : Option Addr} {c : Nat} {torn : Int} (hX : Cu X (.slice A y.length c) y) (hl : AF f + y.length ≤ 1099511627776) (hy : y ≠ []) (ht : (torn % (y.length : Int)).toNat = b1.length) (hb1 : y.take b1.length = b1) (h : Gd f (.app n y) torn = f') : AW Tryz.prog 69 #[v, .agg #[.int .i64 0, .string (bs n), .slice A y.length c, .int .i64 0, .string (bs ([]))], .int .i64 torn] [Ax v f, X] (fun (_ : Unit) => .tuple #[]) (fun (_ : Unit) => [Ax v f', X]) := by
  have h_ := h
  have hb0 : 0 < y.length := List.length_pos_iff.2 hy
  have h1 := Int.emod_nonneg torn (show (y.length : Int) ≠ 0 by omega)
  have h2 := Int.emod_lt_of_pos torn (show 0 < (y.length : Int) by omega)
  have hX1 : Cu X (.slice A b1.length c) b1 := fun rs w ha hb => by
    have := (hX rs w ha hb).takes (k := b1.length) (by omega)
    rwa [hb1] at this
  have hsub : Cp 1 (.slice A y.length c) 0 b1.length = .slice A b1.length c := JZ
  unfold Gd at h_
  simp only [ht, hy, or_false, hb1] at h_
  refine Be (args := [v, .agg #[.int .i64 0, .string (bs n), .slice A y.length c, .int .i64 0, .string (bs ([]))], .int .i64 torn]) 26 Tryz.func69 rfl rfl rfl ?_; intro w rs
  refine Ad (Af Al rfl (Aj (post := fun g1 => [cell g1 103 #[.int .i64 0, .string (bs n), .slice A y.length c, .int .i64 0, .string (bs ([]))], Ax v f, X]) rfl (CU (cs := #[.int .i64 0, .string (bs n), .slice A y.length c, .int .i64 0, .string (bs ([]))]) rfl rfl rfl) ?_)); rintro g1
  refine Ab (Aq (Ad (Af Al rfl (Ac rfl (.slice A y.length c) (fun b w hb hH => Bb rfl rfl (Bn Cy rfl) (hH.row 0 rfl) hb) (Ac rfl (.int .i64 (y.length : Int)) (fun b w hb hH => AY ((hH.rd8 2 rfl hX).rd) Tryz.underlying32 rfl rfl hb) (Ac rfl (.bool false) (fun b w hb hH => Bc rfl rfl rfl (JR (by omega)) hb) (Ab (Aw rfl (AC (AO (Aq ?_)))))))))))
  refine BK 9 1 [⟨.quiet, [none], fun _ => .pointer (some ⟨g1, 2, none⟩), []⟩, ⟨.quiet, [none], fun _ => .slice A y.length c, [0]⟩, ⟨.quiet, [none], fun _ => .int .i64 torn, []⟩, ⟨.quiet, [none], fun _ => .pointer (some ⟨g1, 2, none⟩), []⟩, ⟨.quiet, [none], fun _ => .slice A y.length c, [3]⟩, ⟨.quiet, [none], fun _ => .int .i64 (y.length : Int), [4]⟩, ⟨.actv 0, [some false], fun _ => .int .i64 (b1.length : Int), [2, 5]⟩, ⟨.quiet, [some true], fun _ => .slice A b1.length c, [1, 6]⟩, ⟨.quiet, [some true], fun _ => .pointer (some ⟨g1, 2, none⟩), []⟩] [(0, v), (2, .int .i64 torn), (4, .pointer (some ⟨g1, 0, none⟩))] (fun ρ => match ρ with | [r0] => [cell g1 103 #[.int .i64 0, .string (bs n), .slice A y.length c, .int .i64 0, .string (bs ([]))], Ax v f, X] | _ => []) (by kernel_rfl) (by kernel_rfl) ⟨rfl, rfl, rfl, trivial⟩ rfl ?_ ?_
  refine Aa (by intro r0_; exact ⟨rfl, fun b w hH hb => Ae Al rfl hb⟩) (Aa (by intro r0_; exact ⟨rfl, fun b w hH hb => Bb rfl rfl (Bn Cy rfl) (hH.row 0 rfl) hb⟩) (Aa (by intro r0_; exact ⟨rfl, fun b w hH hb => Ae Al rfl hb⟩) (Aa (by intro r0_; exact ⟨rfl, fun b w hH hb => Ae Al rfl hb⟩) (Aa (by intro r0_; exact ⟨rfl, fun b w hH hb => Bb rfl rfl (Bn Cy rfl) (hH.row 0 rfl) hb⟩) (Aa (by intro r0_; exact ⟨rfl, fun b w hH hb => AY ((hH.rd8 2 rfl hX).rd) Tryz.underlying32 rfl rfl hb⟩) (Aa (by exact ⟨rfl, Bq.su (Bg (Ag Tryz.func68 (by kernel_rfl) rfl) (fun w hH => KT w torn (y.length : Int) (b1.length : Int) (by omega) (by omega) (by omega)) rfl rfl rfl) rfl⟩) (Aa (by intro v0_; exact ⟨rfl, fun b w hH hb => Ir (j := b1.length) AE hsub (Nat.le_trans (by omega) (J4 (A := A) (n := y.length) (c := c) (hH.rd8 2 rfl hX))) rfl rfl rfl hH hb⟩) (Aa (by intro v0_; exact ⟨rfl, fun b w hH hb => Ae Al rfl hb⟩) ?_))))))))
  exact Cf
  intro v0_
  refine Ce.keep (env' := [(0, v), (4, .pointer (some ⟨g1, 0, none⟩)), (17, .slice A b1.length c), (18, .pointer (some ⟨g1, 2, none⟩))]) ⟨rfl, rfl, rfl, rfl, trivial⟩ (Af Al rfl (AU (post := fun _ => [cell g1 103 #[.int .i64 0, .string (bs n), .slice A b1.length c, .int .i64 0, .string (bs ([]))], Ax v f, X]) rfl rfl (AQ 0 (v := .slice A b1.length c) #[.int .i64 0, .string (bs n), .slice A b1.length c, .int .i64 0, .string (bs ([]))] Cy.2 rfl rfl rfl rfl rfl rfl rfl rfl rfl) ?_)); rintro ⟨⟩
  refine Bi (AO ?_)
  rcases Nat.eq_zero_or_pos b1.length with h0 | h0
  rw [if_pos h0] at h_
  subst h_
  refine Ad (Af Al rfl (Ac rfl (.slice A b1.length c) (fun b w hb hH => Bb rfl rfl (Bn Cy rfl) (hH.row 0 rfl) hb) (Ac rfl (.int .i64 (b1.length : Int)) (fun b w hb hH => AY ((hH.rd8 2 rfl hX1).rd) Tryz.underlying32 rfl rfl hb) (Ac rfl (.bool false) (fun b w hb hH => Bc rfl rfl rfl (BE (by omega)) hb) (Ab (Aw rfl (AC ?_)))))))
  exact DM  (fun w h => AG () rfl [1, 2] rfl h CV) rfl
  rw [if_neg (by omega)] at h_
  refine Ad (Af Al rfl (Ac rfl (.slice A b1.length c) (fun b w hb hH => Bb rfl rfl (Bn Cy rfl) (hH.row 0 rfl) hb) (Ac rfl (.int .i64 (b1.length : Int)) (fun b w hb hH => AY ((hH.rd8 2 rfl hX1).rd) Tryz.underlying32 rfl rfl hb) (Ac rfl (.bool true) (fun b w hb hH => Bc rfl rfl rfl (B4 (by omega)) hb) (Ab (AI rfl (BV (Af Al rfl (Ac rfl (.agg #[.int .i64 0, .string (bs n), .slice A b1.length c, .int .i64 0, .string (bs ([]))]) (fun b w hb hH => Bb rfl rfl (EX (cs := [.int .i64 0, .string (bs n), .slice A b1.length c, .int .i64 0, .string (bs ([]))]) Cm rfl) (hH.row 0 rfl) hb) (Aj rfl (Am (os' := fun _ => [cell g1 103 #[.int .i64 0, .string (bs n), .slice A b1.length c, .int .i64 0, .string (bs ([]))], Ax v f', X]) [1, 2] 0 (Ag Tryz.func73 (by kernel_rfl) rfl) (Ti hX1 (by omega) h_) rfl rfl rfl (fun _ => rfl) rfl rfl rfl) ?_)))))))))); rintro ⟨⟩
  refine Bi ?_
  exact DM  (fun w h => AG () rfl [1, 2] rfl h CV) rfl
theorem Tn {X : Ass} {v : Value} {f f' : FS} {x : OpV} {torn : Int} (hX : Cu X x.v x.o.data) (hl : AF f + x.o.size ≤ 1099511627776) (h : Gd f x.o torn = f') : AW Tryz.prog 69 #[v, .agg (encO x).toArray, .int .i64 torn] [Ax v f, X] (fun _ : Unit => .tuple #[]) (fun _ => [Ax v f', X]) := by
  by_cases hd : x.o.data = []
  · rw [Tf hd] at h
    subst h
    exact Tl hX hd
  · obtain ⟨o, A, c⟩ := x
    cases o with
    | app n b =>
      have hb : b ≠ [] := hd
      have h0 : 0 < b.length := List.length_pos_iff.2 hb
      have h1 := Int.emod_nonneg torn (show (b.length : Int) ≠ 0 by omega)
      have h2 := Int.emod_lt_of_pos torn (show 0 < (b.length : Int) by omega)
      have h3 : (b.take (torn % (b.length : Int)).toNat).length = (torn % (b.length : Int)).toNat := by rw [List.length_take]; omega
      exact Tm (b1 := b.take (torn % (b.length : Int)).toNat) hX hl hb h3.symm (congrArg (fun k => b.take k) h3) h
    | cut n s => exact absurd rfl hd
    | ren a b => exact absurd rfl hd
    | del n => exact absurd rfl hd
theorem N3 {v : Value} {f : FS} (hl : AF f ≤ 1099511627776) : AW Tryz.prog 70 #[v] [Ax v f] (fun (x : { q : Nat × FS // q.2.Perm f }) => .map (some x.1.1)) (fun (x : { q : Nat × FS // q.2.Perm f }) => [Ax v f, Ax (.map (some x.1.1)) x.1.2]) := by
 refine Be (args := [v]) 21 Tryz.func70 rfl rfl rfl ?_; intro w rs
 refine Bv.fact 0 rfl BG ?_; rintro hnd
 refine Bd 0 rfl Fb (fun _ => rfl) ?_; rintro ⟨L, hL⟩
 subst hL
 refine Ad (Af Al rfl (Ab (Ad (Af Al rfl (Ac rfl (.int .i64 (L.length : Int)) (fun b w hb hH => O7 0 Tryz.underlying68 rfl rfl rfl hH hb) (Aj (post := fun gc => [BB encKey AJ (.map (some gc)) ([]), BB encKey AJ v L, Bp L]) rfl (Tg (kk := encKey) (vv := AJ) Tryz.underlying68 rfl rfl) ?_)))))); rintro gc
 refine Af Al rfl (Ab (Aq (Hy (t := Bp ([])) (Ey) (Ad (Af Al rfl (Aj (post := fun g1 => [Bp ([]), BB encKey AJ (.map (some gc)) ([]), Fv encKey AJ v (.pointer (some ⟨g1, 0, none⟩)) L L none, Bp L]) rfl (My 2 Tryz.underlying68 rfl rfl rfl) ?_)))))); rintro g1
 refine Ab (Bm (C9 (α := FilL × FilL × Option (List UInt8 × PtT)) (fun ⟨left, done, cur⟩ => [(2, .map none), (3, .map (some gc)), (10, .pointer (some ⟨g1, 0, none⟩))]) (fun ⟨left, done, cur⟩ => [Bp done, BB encKey AJ (.map (some gc)) done, Fv encKey AJ v (.pointer (some ⟨g1, 0, none⟩)) L left cur, Bp L]) (fun ⟨left, done, cur⟩ => (Cd done ++ Cd left).Perm (Cd L) ∧ ∀ p, p ∈ left → p ∈ L) (fun ⟨left, done, cur⟩ => left.length) (L, [], none) ⟨.refl _, fun _ h => h⟩ ⟨rfl, rfl, rfl, trivial⟩ rfl ?_))
 rintro ⟨left, done, cur⟩ hI
 refine Bv.at_ (env' := [(2, .map none), (3, .map (some gc)), (10, .pointer (some ⟨g1, 0, none⟩))]) (rs' := [Bp done, BB encKey AJ (.map (some gc)) done, Fv encKey AJ v (.pointer (some ⟨g1, 0, none⟩)) L left cur, Bp L]) ⟨rfl, rfl, rfl, trivial⟩ rfl ?_
 rcases Classical.em (left = []) with hc | hc
 have hp : (Cd done).Perm (Cd L) := by have := hI.1; rw [hc] at this; simpa [Cd] using this
 refine Ad (Af Al rfl (Ac rfl (.tuple #[.bool false]) (fun b w hb hH => Mz 2 rfl hc rfl rfl hH hb) (Af Al rfl (Ab (Aq (Aw rfl (CQ (FR (FR (Br (AO (Bd 2 rfl Je (fun _ => rfl) ?_)))))))))))); rintro ⟨⟩
 refine Bv.leave [1] rfl rfl (Ad (Af Al rfl (Ab (Av ?_))))
 exact As (.tmp rfl) (fun w h => AG (X := { q : Nat × FS // q.2.Perm (Cd L) }) ⟨(gc, Cd done), hp⟩ rfl [0, 3, 2, 1] rfl h (N0 rfl)) rfl
 refine Ad (Af Al rfl (Aj (post := fun q : { q : Nat × List UInt8 × PtT // (left)[q.1]? = some q.2 } => [Bp done, BB encKey AJ (.map (some gc)) done, Fv encKey AJ v (.pointer (some ⟨g1, 0, none⟩)) L (left.eraseIdx q.1.1) (some (q.1.2.1, q.1.2.2)), Bp L]) rfl (MA 2 rfl hc rfl rfl) ?_)); rintro q
 refine Af Al rfl (Ab (Aq (AI rfl (AC (AO (Bm ?_))))))
 have hqm : q.1.2 ∈ L := hI.2 _ (List.mem_of_getElem? q.2)
 have hqn : EG q.1.2.1 done 0 = none := Pp hnd hI.1 q.2
 have hql : q.1.2.2.2.length ≤ AF (Cd L) := IK hnd ((Cn hnd).2 (List.mem_map.2 ⟨_, hqm, rfl⟩))
 refine Ad (Af Al rfl (Ac rfl (.tuple #[.string (bs q.1.2.1), q.1.2.2.1]) (fun b w hb hH => MB 2 rfl rfl rfl hH hb) (Af Al rfl (Ab (BV (Af Al rfl (Aj rfl (Am (os' := fun v9 => [Ap 5 1 encB v9 q.1.2.2.2, Bp done, BB encKey AJ (.map (some gc)) done, Fv encKey AJ v (.pointer (some ⟨g1, 0, none⟩)) L (left.eraseIdx q.1.1) (some (q.1.2.1, q.1.2.2)), Bp L]) [3] 0 (Ag Tryz.func64 (by kernel_rfl) rfl) (Gv (J0 hqm) (by omega)) rfl rfl rfl (fun _ => rfl) rfl rfl rfl) ?_))))))); rintro v9
 refine AU (post := fun _ => [Ap 5 1 encB v9 q.1.2.2.2, Bp done, BB encKey AJ (.map (some gc)) (Bx done q.1.2.1 (v9, q.1.2.2.2)), Fv encKey AJ v (.pointer (some ⟨g1, 0, none⟩)) L (left.eraseIdx q.1.1) (some (q.1.2.1, q.1.2.2)), Bp L]) rfl rfl (Jd 2 Dk rfl q.1.2.1 (v9, q.1.2.2.2) rfl rfl rfl rfl rfl rfl) ?_; rintro ⟨⟩
 refine Qn [1, 0] rfl (QE hqn (v9, q.1.2.2.2)) rfl (Bi (B3 ?_))
 exact CM (left.eraseIdx q.1.1, Bx done q.1.2.1 (v9, q.1.2.2.2), some (q.1.2.1, q.1.2.2)) 0 ⟨NZ hI.1 q.2 hqn, fun p hp => hI.2 p (List.mem_of_mem_eraseIdx hp)⟩ (show (left.eraseIdx q.1.1).length < left.length from H1 q.2) ⟨rfl, rfl, rfl, trivial⟩ rfl
end Go.Proofs.YtjcfimmcogkopaaGreat.Sep
