/-
  DskE · DskG
-/
import Derived.Test.YtnknboibmifacaaGreatDoorVB05
import Derived.Test.YtnknboibmifacaaGreatDoorVC01
set_option linter.unusedSimpArgs false
set_option linter.unusedVariables false
set_option maxRecDepth 100000
namespace Go.Proofs.YtnknboibmifacaaGreatDoor.Sep
open Go.RowKit
open Go.Proofs.YtnknboibmifacaaGreatDoor.Mem (AR B3 Chg Av)
theorem Tj {p : Nat} {d : DiskD} (hd : d.down = true) : AP Tryz.prog 84 #[.pointer (some ⟨p, 0, none⟩)] [Ag p d] (fun (_ : Unit) => .bool false) (fun (_ : Unit) => [Ag p d]) := by
 refine Bj (args := [.pointer (some ⟨p, 0, none⟩)]) 30 Tryz.func84 rfl rfl rfl ?_; intro w rs
 refine A7 0 rfl (QE hd) (fun _ => rfl) ?_; rintro x
 refine Ad ?_
 refine Af Ar rfl ?_
 refine Ab (An (Ad ?_))
 refine Af Ar rfl ?_
 refine Aa rfl (.pointer (some ⟨p, 0, none⟩)) (fun b w hb hH => by exact B8 rfl rfl hb) ?_
 refine Af Ar rfl ?_
 refine Aa rfl (.bool true) (fun b w hb hH => AY rfl rfl (Bi IX rfl) (hH.row 0 rfl) hb) ?_
 refine Ab (AI rfl (Ad ?_))
 refine Af Ar rfl ?_
 refine Ab (Az (D8 ?_))
 exact Ay (.tmp rfl) (fun w h => AC () rfl [0, 1, 2, 3] rfl h (KX (os := []) ⟨x.pv, x.sm, .map none, x.W, [], x.hW, (fun h => by rw [hd] at h; cases h), x.hok, x.hf, x.hr, x.hk⟩ hd rfl)) rfl
theorem N2 {p : Nat} {d : DiskD} (hd : d.down = false) (hf : d.fuse = some 0) : AP Tryz.prog 84 #[.pointer (some ⟨p, 0, none⟩)] [Ag p d] (fun (_ : Unit) => .bool false) (fun (_ : Unit) => [Ag p ({ d with down := true })]) := by
 refine Bj (args := [.pointer (some ⟨p, 0, none⟩)]) 30 Tryz.func84 rfl rfl rfl ?_; intro w rs
 refine A7 0 rfl (I0 hd) (fun _ => rfl) ?_; rintro x
 refine Ad ?_
 refine Af Ar rfl ?_
 refine Ab (An (Ad ?_))
 refine Af Ar rfl ?_
 refine Aa rfl (.pointer (some ⟨p, 0, none⟩)) (fun b w hb hH => by exact B8 rfl rfl hb) ?_
 refine Af Ar rfl ?_
 refine Aa rfl (.bool false) (fun b w hb hH => AY rfl rfl (Bi IX rfl) (hH.row 0 rfl) hb) ?_
 refine Ab (As rfl (Aw (AB (An (Ad ?_)))))
 refine Af Ar rfl ?_
 refine Aa rfl (.pointer (some ⟨p, 0, none⟩)) (fun b w hb hH => by exact B8 rfl rfl hb) ?_
 refine Af Ar rfl ?_
 refine Aa rfl (.int .i64 (Ek d.fuse)) (fun b w hb hH => AY rfl rfl (Bi Bh rfl) (hH.row 0 rfl) hb) ?_
 refine Aa rfl (.bool true) (fun b w hb hH => AZ rfl rfl rfl (FI (by rw [hf]; rfl)) hb) ?_
 refine Ab (AI rfl (Ad ?_))
 refine Af Ar rfl ?_
 refine Aa rfl (.pointer (some ⟨p, 0, none⟩)) (fun b w hb hH => by exact B8 rfl rfl hb) ?_
 refine Af Ar rfl ?_
 refine AL (post := fun _ => [cell p 84 #[.int .i64 d.room, .int .i64 (Ek d.fuse), .bool true, x.pv, x.sm, x.sh], Ak 127 5 encO x.pv x.W, Cq x.W, AJ x.sm d.syn, AJ x.sh x.g]) rfl rfl (AU 0 (v := .bool true) #[.int .i64 d.room, .int .i64 (Ek d.fuse), .bool true, x.pv, x.sm, x.sh] IX.2 rfl rfl rfl rfl rfl rfl rfl rfl rfl) ?_; rintro ⟨⟩
 refine Aa rfl (.pointer (some ⟨p, 0, none⟩)) (fun b w hb hH => by exact B8 rfl rfl hb) ?_
 refine Af Ar rfl ?_
 refine AL (post := fun _ => [cell p 84 #[.int .i64 d.room, .int .i64 (Ek d.fuse), .bool true, x.pv, x.sm, .map none], Ak 127 5 encO x.pv x.W, Cq x.W, AJ x.sm d.syn, AJ x.sh x.g]) rfl rfl (AU 0 (v := .map none) #[.int .i64 d.room, .int .i64 (Ek d.fuse), .bool true, x.pv, x.sm, .map none] AX.2 rfl rfl rfl rfl rfl rfl rfl rfl rfl) ?_; rintro ⟨⟩
 refine Ab (Ad ?_)
 refine Af Ar rfl ?_
 refine Ab (Az (D8 ?_))
 exact Ay (.tmp rfl) (fun w h => AC () rfl [0, 1, 2, 3] rfl h (KX (os := []) (d := { d with down := true }) ⟨x.pv, x.sm, .map none, x.W, [], x.hW, (fun h => by cases h), x.hok, x.hf, x.hr, x.hk⟩ rfl rfl)) rfl
theorem PA {p : Nat} {d : DiskD} {n : Nat} (hd : d.down = false) (hf : d.fuse = some (n + 1)) : AP Tryz.prog 84 #[.pointer (some ⟨p, 0, none⟩)] [Ag p d] (fun (_ : Unit) => .bool true) (fun (_ : Unit) => [Ag p ({ d with fuse := some n })]) := by
 refine Bj (args := [.pointer (some ⟨p, 0, none⟩)]) 30 Tryz.func84 rfl rfl rfl ?_; intro w rs
 refine A7 0 rfl (I0 hd) (fun _ => rfl) ?_; rintro x
 have hz : Ek d.fuse = (n : Int) + 1 := by rw [hf]; rfl
 have hn := x.hf _ hf
 refine Ad ?_
 refine Af Ar rfl ?_
 refine Ab (An (Ad ?_))
 refine Af Ar rfl ?_
 refine Aa rfl (.pointer (some ⟨p, 0, none⟩)) (fun b w hb hH => by exact B8 rfl rfl hb) ?_
 refine Af Ar rfl ?_
 refine Aa rfl (.bool false) (fun b w hb hH => AY rfl rfl (Bi IX rfl) (hH.row 0 rfl) hb) ?_
 refine Ab (As rfl (Aw (AB (An (Ad ?_)))))
 refine Af Ar rfl ?_
 refine Aa rfl (.pointer (some ⟨p, 0, none⟩)) (fun b w hb hH => by exact B8 rfl rfl hb) ?_
 refine Af Ar rfl ?_
 refine Aa rfl (.int .i64 (Ek d.fuse)) (fun b w hb hH => AY rfl rfl (Bi Bh rfl) (hH.row 0 rfl) hb) ?_
 refine Aa rfl (.bool false) (fun b w hb hH => AZ rfl rfl rfl (EK (by omega)) hb) ?_
 refine Ab (As rfl (Aw (AB (An (Ad ?_)))))
 refine Af Ar rfl ?_
 refine Aa rfl (.pointer (some ⟨p, 0, none⟩)) (fun b w hb hH => by exact B8 rfl rfl hb) ?_
 refine Af Ar rfl ?_
 refine Aa rfl (.int .i64 (Ek d.fuse)) (fun b w hb hH => AY rfl rfl (Bi Bh rfl) (hH.row 0 rfl) hb) ?_
 refine Aa rfl (.bool true) (fun b w hb hH => AZ rfl rfl rfl (BO (by omega)) hb) ?_
 refine Ab (AI rfl (BJ ?_))
 refine Af Ar rfl ?_
 refine Aa rfl (.pointer (some ⟨p, 0, none⟩)) (fun b w hb hH => by exact B8 rfl rfl hb) ?_
 refine Af Ar rfl ?_
 refine Aa rfl (.int .i64 (Ek d.fuse)) (fun b w hb hH => AY rfl rfl (Bi Bh rfl) (hH.row 0 rfl) hb) ?_
 refine Aa rfl (.int .i64 (n : Int)) (fun b w hb hH => AH rfl rfl rfl rfl (by rw [IntWalk.i64_in _ (by omega)]; omega) hb) ?_
 refine Aa rfl (.pointer (some ⟨p, 0, none⟩)) (fun b w hb hH => by exact B8 rfl rfl hb) ?_
 refine Af Ar rfl ?_
 refine AL (post := fun _ => [cell p 84 #[.int .i64 d.room, .int .i64 (n : Int), .bool false, x.pv, x.sm, x.sh], Ak 127 5 encO x.pv x.W, Cq x.W, AJ x.sm d.syn, AJ x.sh x.g]) rfl rfl (AU 0 (v := .int .i64 (n : Int)) #[.int .i64 d.room, .int .i64 (n : Int), .bool false, x.pv, x.sm, x.sh] Bh.2 rfl rfl rfl rfl rfl rfl rfl rfl rfl) ?_; rintro ⟨⟩
 refine AD (AB (Ad ?_))
 refine Af Ar rfl ?_
 refine Ab (Az ?_)
 exact Ay (.tmp rfl) (fun w h => AC () rfl [0, 1, 2, 3, 4] rfl h (KY (os := []) (d := { d with fuse := some n }) ⟨x.pv, x.sm, x.sh, x.W, x.g, x.hW, x.hg, x.hok, (fun m hm => by cases hm; omega), x.hr, x.hk⟩ hd)) rfl
theorem RJ {p : Nat} {d : DiskD} (hd : d.down = false) (hf : d.fuse = none) : AP Tryz.prog 84 #[.pointer (some ⟨p, 0, none⟩)] [Ag p d] (fun (_ : Unit) => .bool true) (fun (_ : Unit) => [Ag p d]) := by
 refine Bj (args := [.pointer (some ⟨p, 0, none⟩)]) 30 Tryz.func84 rfl rfl rfl ?_; intro w rs
 refine A7 0 rfl (I0 hd) (fun _ => rfl) ?_; rintro x
 have hz : Ek d.fuse = -1 := by rw [hf]; rfl
 refine Ad ?_
 refine Af Ar rfl ?_
 refine Ab (An (Ad ?_))
 refine Af Ar rfl ?_
 refine Aa rfl (.pointer (some ⟨p, 0, none⟩)) (fun b w hb hH => by exact B8 rfl rfl hb) ?_
 refine Af Ar rfl ?_
 refine Aa rfl (.bool false) (fun b w hb hH => AY rfl rfl (Bi IX rfl) (hH.row 0 rfl) hb) ?_
 refine Ab (As rfl (Aw (AB (An (Ad ?_)))))
 refine Af Ar rfl ?_
 refine Aa rfl (.pointer (some ⟨p, 0, none⟩)) (fun b w hb hH => by exact B8 rfl rfl hb) ?_
 refine Af Ar rfl ?_
 refine Aa rfl (.int .i64 (Ek d.fuse)) (fun b w hb hH => AY rfl rfl (Bi Bh rfl) (hH.row 0 rfl) hb) ?_
 refine Aa rfl (.bool false) (fun b w hb hH => AZ rfl rfl rfl (EK (by omega)) hb) ?_
 refine Ab (As rfl (Aw (AB (An (Ad ?_)))))
 refine Af Ar rfl ?_
 refine Aa rfl (.pointer (some ⟨p, 0, none⟩)) (fun b w hb hH => by exact B8 rfl rfl hb) ?_
 refine Af Ar rfl ?_
 refine Aa rfl (.int .i64 (Ek d.fuse)) (fun b w hb hH => AY rfl rfl (Bi Bh rfl) (hH.row 0 rfl) hb) ?_
 refine Aa rfl (.bool false) (fun b w hb hH => AZ rfl rfl rfl (BE (by omega)) hb) ?_
 refine Ab (As rfl (Aw (AB (Ad ?_))))
 refine Af Ar rfl ?_
 refine Ab (Az ?_)
 exact Ay (.tmp rfl) (fun w h => AC () rfl [0, 1, 2, 3, 4] rfl h (KY (os := []) x hd)) rfl
theorem K1 {p : Nat} {d d1 : DiskD} (h : Cj d = (d1, 3)) : AP Tryz.prog 84 #[.pointer (some ⟨p, 0, none⟩)] [Ag p d] (fun _ : Unit => .bool false) (fun _ => [Ag p d1]) := by
  unfold Cj at h
  cases hd : d.down
  · cases hf : d.fuse with
    | none => rw [if_neg (by simp [hd, hf])] at h; cases h
    | some n =>
      cases n with
      | zero => rw [if_pos (.inr hf)] at h; cases h; exact N2 hd hf
      | succ n => rw [if_neg (by simp [hd, hf])] at h; cases h
  · rw [if_pos (.inl hd)] at h
    cases h
    have e : ({ d with down := true } : DiskD) = d := by obtain ⟨_, _, _, _, dn⟩ := d; cases hd; rfl
    rw [e]; exact Tj hd
theorem EU {p : Nat} {d d1 : DiskD} (h : Cj d = (d1, 0)) : AP Tryz.prog 84 #[.pointer (some ⟨p, 0, none⟩)] [Ag p d] (fun _ : Unit => .bool true) (fun _ => [Ag p d1]) := by
  unfold Cj at h
  cases hd : d.down
  · cases hf : d.fuse with
    | none =>
      rw [if_neg (by simp [hd, hf])] at h
      cases h
      have e : ({ d with fuse := d.fuse.map (· - 1) } : DiskD) = d := by obtain ⟨_, _, _, fu, _⟩ := d; cases hf; rfl
      rw [e]; exact RJ hd hf
    | some n =>
      cases n with
      | zero => rw [if_pos (.inr hf)] at h; cases h
      | succ n =>
        rw [if_neg (by simp [hd, hf])] at h
        cases h
        rw [hf]; exact PA hd hf
  · rw [if_pos (.inl hd)] at h; cases h
theorem EV {d d1 : DiskD} (h : Cj d = (d1, 0)) : d1.down = false ∧ d1.syn = d.syn ∧ d1.wait = d.wait ∧ d1.room = d.room := by
  unfold Cj at h
  cases hd : d.down
  · by_cases hf : d.fuse = some 0
    · rw [if_pos (.inr hf)] at h; cases h
    · rw [if_neg (by simp [hd, hf])] at h; cases h; exact ⟨hd, rfl, rfl, rfl⟩
  · rw [if_pos (.inl hd)] at h; cases h
theorem K2 (d : DiskD) : (Cj d).2 = 3 ∨ (Cj d).2 = 0 := by
  unfold Cj
  split
  · exact .inl rfl
  · exact .inr rfl
theorem EG {d d1 : DiskD} (h : Cj d = (d1, 0)) (hd : d.fit) : d1.fit := by
 obtain ⟨_, h1, h2, _⟩ := EV h
 unfold DiskD.fit
 rw [h1, h2]; exact hd
theorem MT {p : Nat} {d : DiskD} {x : OpV} (hd : d.down = false) (hfit : d.fit) (ho : VH d.now x.o) (hl : x.o.size ≤ 1048576) : AP Tryz.prog 104 #[.pointer (some ⟨p, 0, none⟩), .agg (encO x).toArray] [Ag p d, Ak 5 1 encB x.v x.o.data] (fun (_ : Unit) => .int .i64 0) (fun (_ : Unit) => [Ag p (Dk d x.o)]) := by
  refine Bj (args := [.pointer (some ⟨p, 0, none⟩), .agg (encO x).toArray]) 21 Tryz.func104 rfl rfl rfl ?_; intro w rs
  refine A7 0 rfl (I0 hd) (fun _ => rfl) ?_; rintro y
  refine AN.fact 3 rfl BY ?_; rintro hsn
  refine AN.fact 4 rfl BY ?_; rintro hgn
  have hu : Be y.g ≤ 1099511627776 := by rw [EF (y.hg hd)]; exact MS hfit hsn y.hok
  have hWl := US y
  have hw := hfit.2
  have ho2 := Td (y.hg hd).symm (RI hsn) ho
  refine Ad ?_
  refine Af Ar rfl ?_
  refine Am (post := fun g1 => [cell g1 127 #[.int .i64 x.o.kind, .string (bs x.o.name), x.v, .int .i64 (x.o.cutS : Int), .string (bs x.o.to)], cell p 84 #[.int .i64 d.room, .int .i64 (Ek d.fuse), .bool false, y.pv, y.sm, y.sh], Ak 127 5 encO y.pv y.W, Cq y.W, AJ y.sm d.syn, AJ y.sh y.g, Ak 5 1 encB x.v x.o.data]) rfl (CD (cs := #[.int .i64 x.o.kind, .string (bs x.o.name), x.v, .int .i64 (x.o.cutS : Int), .string (bs x.o.to)]) rfl rfl rfl) ?_; rintro g1
  refine Af Ar rfl ?_
  refine Ab (An ?_)
  refine BV 6 1 [⟨.quiet, [none], fun _ => .pointer (some ⟨p, 0, none⟩), []⟩, ⟨.quiet, [none], fun _ => .pointer (some ⟨p, 0, none⟩), [0]⟩, ⟨.quiet, [none], fun _ => .pointer (some ⟨p, 5, none⟩), [1]⟩, ⟨.quiet, [none], fun _ => y.sh, [2]⟩, ⟨.quiet, [none], fun _ => .agg #[.int .i64 x.o.kind, .string (bs x.o.name), x.v, .int .i64 (x.o.cutS : Int), .string (bs x.o.to)], []⟩, ⟨.actv 0, [some false], fun _ => .tuple #[], [3, 4]⟩] [(0, .pointer (some ⟨p, 0, none⟩)), (3, .pointer (some ⟨g1, 0, none⟩)), (4, .int .i64 0)] (fun ρ => match ρ with | [r0] => [cell g1 127 #[.int .i64 x.o.kind, .string (bs x.o.name), x.v, .int .i64 (x.o.cutS : Int), .string (bs x.o.to)], cell p 84 #[.int .i64 d.room, .int .i64 (Ek d.fuse), .bool false, y.pv, y.sm, y.sh], Ak 127 5 encO y.pv y.W, Cq y.W, AJ y.sm d.syn, DR r0 (fun _ => AJ y.sh (CP y.g x.o)) (AJ y.sh y.g), Ak 5 1 encB x.v x.o.data] | _ => []) (by kernel_rfl) (by kernel_rfl) ⟨rfl, rfl, rfl, trivial⟩ rfl ?_ ?_
  · skip
    refine Ac (by intro r0_; exact ⟨rfl, fun b w hH hb => Ah Ar rfl hb⟩) ?_
    refine Ac (by intro r0_; exact ⟨rfl, fun b w hH hb => by exact B8 rfl rfl hb⟩) ?_
    refine Ac (by intro r0_; exact ⟨rfl, fun b w hH hb => Ah Ar rfl hb⟩) ?_
    refine Ac (by intro r0_; exact ⟨rfl, fun b w hH hb => AY rfl rfl (Bi AX rfl) (hH.row 1 rfl) hb⟩) ?_
    refine Ac (by intro r0_; exact ⟨rfl, fun b w hH hb => AY rfl rfl (EY (cs := [.int .i64 x.o.kind, .string (bs x.o.name), x.v, .int .i64 (x.o.cutS : Int), .string (bs x.o.to)]) FK rfl) (hH.row 0 rfl) hb⟩) ?_
    refine Ac (by exact ⟨rfl, Bm.su (Au (os' := fun _ => [cell g1 127 #[.int .i64 x.o.kind, .string (bs x.o.name), x.v, .int .i64 (x.o.cutS : Int), .string (bs x.o.to)], cell p 84 #[.int .i64 d.room, .int .i64 (Ek d.fuse), .bool false, y.pv, y.sm, y.sh], Ak 127 5 encO y.pv y.W, Cq y.W, AJ y.sm d.syn, AJ y.sh (CP y.g x.o), Ak 5 1 encB x.v x.o.data]) [5, 6] 0 (Aj Tryz.func128 (by kernel_rfl) rfl) (Wo ho2 DI (by omega) rfl) rfl rfl rfl (fun _ => rfl) rfl rfl rfl) rfl⟩) ?_
    exact B7
  intro v0_
  refine BT.keep (env' := [(0, .pointer (some ⟨p, 0, none⟩)), (3, .pointer (some ⟨g1, 0, none⟩)), (4, .int .i64 0)]) ⟨rfl, rfl, rfl, trivial⟩ ?_
  refine AD (AB (An ?_))
  refine Gh 1 rfl ?_
  refine BV 10 2 [⟨.quiet, [none, none], fun _ => .pointer (some ⟨p, 0, none⟩), []⟩, ⟨.quiet, [none, none], fun _ => .pointer (some ⟨p, 0, none⟩), []⟩, ⟨.quiet, [none, none], fun _ => .pointer (some ⟨p, 0, none⟩), [1]⟩, ⟨.quiet, [none, none], fun _ => .pointer (some ⟨p, 3, none⟩), [2]⟩, ⟨.quiet, [none, none], fun _ => y.pv, [3]⟩, ⟨.quiet, [none, none], fun _ => .agg #[.int .i64 x.o.kind, .string (bs x.o.name), x.v, .int .i64 (x.o.cutS : Int), .string (bs x.o.to)], []⟩, ⟨.act 0, [some false, some false], fun _ => undef, [5]⟩, ⟨.act 1, [some true, some false], fun _ => undef, [4, 6]⟩, ⟨.quiet, [some true, some true], fun _ => .pointer (some ⟨p, 0, none⟩), [0]⟩, ⟨.quiet, [some true, some true], fun _ => .pointer (some ⟨p, 3, none⟩), [8]⟩] [(0, .pointer (some ⟨p, 0, none⟩)), (3, .pointer (some ⟨g1, 0, none⟩)), (4, .int .i64 0)] (fun ρ => match ρ with | [r0, r1] => [DR r0 (fun u1 => Ak 127 5 encO u1 ([x])) (GE), cell g1 127 #[.int .i64 x.o.kind, .string (bs x.o.name), x.v, .int .i64 (x.o.cutS : Int), .string (bs x.o.to)], cell p 84 #[.int .i64 d.room, .int .i64 (Ek d.fuse), .bool false, y.pv, y.sm, y.sh], DR r1 (fun u2 => Ak 127 5 encO u2 (y.W ++ ([x]))) (Ak 127 5 encO y.pv y.W), Cq y.W, AJ y.sm d.syn, AJ y.sh (CP y.g x.o), Ak 5 1 encB x.v x.o.data] | _ => []) (by kernel_rfl) (by kernel_rfl) ⟨rfl, rfl, rfl, trivial⟩ rfl ?_ ?_
  · skip
    refine Ac (by intro r0_ r1_; exact ⟨rfl, fun b w hH hb => Ah Ar rfl hb⟩) ?_
    refine Ac (by intro r0_ r1_; exact ⟨rfl, fun b w hH hb => Ah Ar rfl hb⟩) ?_
    refine Ac (by intro r0_ r1_; exact ⟨rfl, fun b w hH hb => by exact B8 rfl rfl hb⟩) ?_
    refine Ac (by intro r0_ r1_; exact ⟨rfl, fun b w hH hb => Ah Ar rfl hb⟩) ?_
    refine Ac (by intro r0_ r1_; exact ⟨rfl, fun b w hH hb => AY rfl rfl (Bi E4 rfl) (hH.row 2 rfl) hb⟩) ?_
    refine Ac (by intro r0_ r1_; exact ⟨rfl, fun b w hH hb => AY rfl rfl (EY (cs := [.int .i64 x.o.kind, .string (bs x.o.name), x.v, .int .i64 (x.o.cutS : Int), .string (bs x.o.to)]) FK rfl) (hH.row 1 rfl) hb⟩) ?_
    refine Ac (by exact ⟨rfl, Bm.s (Bm.place (val := fun u1 : Value => u1) (t := fun u1 => Ak 127 5 encO u1 ([x])) (os' := fun u1 => [Ak 127 5 encO u1 ([x]), cell g1 127 #[.int .i64 x.o.kind, .string (bs x.o.name), x.v, .int .i64 (x.o.cutS : Int), .string (bs x.o.to)], cell p 84 #[.int .i64 d.room, .int .i64 (Ek d.fuse), .bool false, y.pv, y.sm, y.sh], Ak 127 5 encO y.pv y.W, Cq y.W, AJ y.sm d.syn, AJ y.sh (CP y.g x.o), Ak 5 1 encB x.v x.o.data]) 0 rfl (by refine Dl (e := 127) (t := 82) (k := 5) (enc := encO) (x := .tmp 16) (c := .agg #[.int .i64 x.o.kind, .string (bs x.o.name), x.v, .int .i64 (x.o.cutS : Int), .string (bs x.o.to)]) ?_ ?_ ?_ x ?_ ?_ ?_; exact FL; exact (by decide); exact Xu; exact rfl; exact rfl; exact rfl) (fun _ => rfl)) (fun _ => rfl)⟩) ?_
    refine Ac (by intro u1; exact ⟨rfl, Bm.s (Nz 3 FL Xu rfl ([x]) (fun w hH => hH.vec 0 rfl Xu) (by simp only [List.length_cons, List.length_nil]; omega) rfl rfl rfl rfl) (fun _ => rfl)⟩) ?_
    refine Ac (by intro u1 u2; exact ⟨rfl, fun b w hH hb => by exact B8 rfl rfl hb⟩) ?_
    refine Ac (by intro u1 u2; exact ⟨rfl, fun b w hH hb => Ah Ar rfl hb⟩) ?_
    exact B7
  intro u1 u2
  refine BT.keep (env' := [(4, .int .i64 0), (18, u2), (20, .pointer (some ⟨p, 3, none⟩))]) ⟨rfl, rfl, rfl, trivial⟩ ?_
  refine Af Ar rfl ?_
  refine AL (post := fun _ => [Ak 127 5 encO u1 ([x]), cell g1 127 #[.int .i64 x.o.kind, .string (bs x.o.name), x.v, .int .i64 (x.o.cutS : Int), .string (bs x.o.to)], cell p 84 #[.int .i64 d.room, .int .i64 (Ek d.fuse), .bool false, u2, y.sm, y.sh], Ak 127 5 encO u2 (y.W ++ ([x])), Cq y.W, AJ y.sm d.syn, AJ y.sh (CP y.g x.o), Ak 5 1 encB x.v x.o.data]) rfl rfl (Ee 2 3 (v := u2) #[.int .i64 d.room, .int .i64 (Ek d.fuse), .bool false, u2, y.sm, y.sh] E4.2 rfl (fun _ h => Ak.c1 h) rfl rfl rfl rfl rfl rfl rfl) ?_; rintro ⟨⟩
  refine AD (AB ?_)
  refine Bg [4, 7] rfl Gm rfl ?_
  refine Ad ?_
  refine Af Ar rfl ?_
  refine Ab (Az ?_)
  exact Ay (.tmp rfl) (fun w h => AC () rfl [3, 4, 0, 5, 6] rfl h (KY (os := []) (d := Dk d x.o) ⟨u2, y.sm, y.sh, y.W ++ [x], CP y.g x.o, (by rw [show RB (y.W ++ [x]) = RB y.W ++ [x.o] by simp [RB], y.hW]; rfl), (fun _ => by rw [GZ]; exact Ru (y.hg hd) hgn x.o), Ma y.hok ho, y.hf, y.hr, y.hk⟩ hd)) rfl
end Go.Proofs.YtnknboibmifacaaGreatDoor.Sep
namespace Go.Proofs.YtnknboibmifacaaGreatDoor.Sep
open Go.RowKit
open Go.Proofs.YtnknboibmifacaaGreatDoor.Mem (AR B3 Chg Av)
end Go.Proofs.YtnknboibmifacaaGreatDoor.Sep
