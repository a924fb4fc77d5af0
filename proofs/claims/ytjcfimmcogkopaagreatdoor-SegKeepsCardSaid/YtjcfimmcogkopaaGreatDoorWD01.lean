/-
  DskE · DskG
-/
import Derived.Test.YtjcfimmcogkopaaGreatDoorWB05
import Derived.Test.YtjcfimmcogkopaaGreatDoorWC01
set_option linter.unusedSimpArgs false
set_option linter.unusedVariables false
set_option maxRecDepth 100000
namespace Go.Proofs.YtjcfimmcogkopaaGreatDoor.Sep
open Go.RowKit
open Go.Proofs.YtjcfimmcogkopaaGreatDoor.Mem (Bb Ci Chg Aw)
theorem Ug {p : Nat} {d : DiskD} (hd : d.down = true) : AV Tryz.prog 70 #[.pointer (some ⟨p, 0, none⟩)] [Ag p d] (fun (_ : Unit) => .bool false) (fun (_ : Unit) => [Ag p d]) := by
 refine Bo (args := [.pointer (some ⟨p, 0, none⟩)]) 30 Tryz.func70 rfl rfl rfl ?_; intro w rs
 refine AX 0 rfl (RB hd) (fun _ => rfl) ?_; rintro x
 refine Ad (Af Aq rfl (Ab (Ar (Ad (Af Aq rfl (Aa rfl (.pointer (some ⟨p, 0, none⟩)) (fun b w hb hH => by exact B4 rfl rfl hb) (Af Aq rfl (Aa rfl (.bool true) (fun b w hb hH => Ba rfl rfl (Bl GS rfl) (hH.row 0 rfl) hb) (Ab (AE rfl (Ad (Af Aq rfl (Ab (AB (Ek ?_)))))))))))))))
 exact AA (.tmp rfl) (fun w h => AH () rfl [0, 1, 2, 3] rfl h (LY (os := []) ⟨x.pv, x.sm, .map none, x.W, [], x.hW, (fun h => by rw [hd] at h; cases h), x.hok, x.hf, x.hr, x.hk⟩ hd rfl)) rfl
theorem OT {p : Nat} {d : DiskD} (hd : d.down = false) (hf : d.fuse = some 0) : AV Tryz.prog 70 #[.pointer (some ⟨p, 0, none⟩)] [Ag p d] (fun (_ : Unit) => .bool false) (fun (_ : Unit) => [Ag p ({ d with down := true })]) := by
 refine Bo (args := [.pointer (some ⟨p, 0, none⟩)]) 30 Tryz.func70 rfl rfl rfl ?_; intro w rs
 refine AX 0 rfl (It hd) (fun _ => rfl) ?_; rintro x
 refine Ad (Af Aq rfl (Ab (Ar (Ad (Af Aq rfl (Aa rfl (.pointer (some ⟨p, 0, none⟩)) (fun b w hb hH => by exact B4 rfl rfl hb) (Af Aq rfl (Aa rfl (.bool false) (fun b w hb hH => Ba rfl rfl (Bl GS rfl) (hH.row 0 rfl) hb) (Ab (Au rfl (Av (AC (Ar (Ad (Af Aq rfl (Aa rfl (.pointer (some ⟨p, 0, none⟩)) (fun b w hb hH => by exact B4 rfl rfl hb) ?_))))))))))))))))
 refine Af Aq rfl (Aa rfl (.int .i64 (D2 d.fuse)) (fun b w hb hH => Ba rfl rfl (Bl Br rfl) (hH.row 0 rfl) hb) (Aa rfl (.bool true) (fun b w hb hH => A5 rfl rfl rfl (Fw (by rw [hf]; rfl)) hb) (Ab (AE rfl (Ad (Af Aq rfl (Aa rfl (.pointer (some ⟨p, 0, none⟩)) (fun b w hb hH => by exact B4 rfl rfl hb) (Af Aq rfl (AR (post := fun _ => [cell p 101 #[.int .i64 d.room, .int .i64 (D2 d.fuse), .bool true, x.pv, x.sm, x.sh], Aj 106 5 encO x.pv x.W, BW x.W, Az x.sm d.syn, Az x.sh x.g]) rfl rfl (AZ 0 (v := .bool true) #[.int .i64 d.room, .int .i64 (D2 d.fuse), .bool true, x.pv, x.sm, x.sh] GS.2 rfl rfl rfl rfl rfl rfl rfl rfl rfl) ?_))))))))); rintro ⟨⟩
 refine Aa rfl (.pointer (some ⟨p, 0, none⟩)) (fun b w hb hH => by exact B4 rfl rfl hb) (Af Aq rfl (AR (post := fun _ => [cell p 101 #[.int .i64 d.room, .int .i64 (D2 d.fuse), .bool true, x.pv, x.sm, .map none], Aj 106 5 encO x.pv x.W, BW x.W, Az x.sm d.syn, Az x.sh x.g]) rfl rfl (AZ 0 (v := .map none) #[.int .i64 d.room, .int .i64 (D2 d.fuse), .bool true, x.pv, x.sm, .map none] AO.2 rfl rfl rfl rfl rfl rfl rfl rfl rfl) ?_)); rintro ⟨⟩
 refine Ab (Ad (Af Aq rfl (Ab (AB (Ek ?_)))))
 exact AA (.tmp rfl) (fun w h => AH () rfl [0, 1, 2, 3] rfl h (LY (os := []) (d := { d with down := true }) ⟨x.pv, x.sm, .map none, x.W, [], x.hW, (fun h => by cases h), x.hok, x.hf, x.hr, x.hk⟩ rfl rfl)) rfl
theorem Qn {p : Nat} {d : DiskD} {n : Nat} (hd : d.down = false) (hf : d.fuse = some (n + 1)) : AV Tryz.prog 70 #[.pointer (some ⟨p, 0, none⟩)] [Ag p d] (fun (_ : Unit) => .bool true) (fun (_ : Unit) => [Ag p ({ d with fuse := some n })]) := by
 refine Bo (args := [.pointer (some ⟨p, 0, none⟩)]) 30 Tryz.func70 rfl rfl rfl ?_; intro w rs
 refine AX 0 rfl (It hd) (fun _ => rfl) ?_; rintro x
 have hz : D2 d.fuse = (n : Int) + 1 := by rw [hf]; rfl
 have hn := x.hf _ hf
 refine Ad (Af Aq rfl (Ab (Ar (Ad (Af Aq rfl (Aa rfl (.pointer (some ⟨p, 0, none⟩)) (fun b w hb hH => by exact B4 rfl rfl hb) (Af Aq rfl (Aa rfl (.bool false) (fun b w hb hH => Ba rfl rfl (Bl GS rfl) (hH.row 0 rfl) hb) (Ab (Au rfl (Av (AC (Ar (Ad (Af Aq rfl (Aa rfl (.pointer (some ⟨p, 0, none⟩)) (fun b w hb hH => by exact B4 rfl rfl hb) ?_))))))))))))))))
 refine Af Aq rfl (Aa rfl (.int .i64 (D2 d.fuse)) (fun b w hb hH => Ba rfl rfl (Bl Br rfl) (hH.row 0 rfl) hb) (Aa rfl (.bool false) (fun b w hb hH => A5 rfl rfl rfl (EM (by omega)) hb) (Ab (Au rfl (Av (AC (Ar (Ad (Af Aq rfl (Aa rfl (.pointer (some ⟨p, 0, none⟩)) (fun b w hb hH => by exact B4 rfl rfl hb) (Af Aq rfl (Aa rfl (.int .i64 (D2 d.fuse)) (fun b w hb hH => Ba rfl rfl (Bl Br rfl) (hH.row 0 rfl) hb) (Aa rfl (.bool true) (fun b w hb hH => A5 rfl rfl rfl (BD (by omega)) hb) (Ab (AE rfl (BB ?_))))))))))))))))
 refine Af Aq rfl (Aa rfl (.pointer (some ⟨p, 0, none⟩)) (fun b w hb hH => by exact B4 rfl rfl hb) (Af Aq rfl (Aa rfl (.int .i64 (D2 d.fuse)) (fun b w hb hH => Ba rfl rfl (Bl Br rfl) (hH.row 0 rfl) hb) (Aa rfl (.int .i64 (n : Int)) (fun b w hb hH => AJ rfl rfl rfl rfl (by rw [IntWalk.i64_in _ (by omega)]; omega) hb) (Aa rfl (.pointer (some ⟨p, 0, none⟩)) (fun b w hb hH => by exact B4 rfl rfl hb) (Af Aq rfl (AR (post := fun _ => [cell p 101 #[.int .i64 d.room, .int .i64 (n : Int), .bool false, x.pv, x.sm, x.sh], Aj 106 5 encO x.pv x.W, BW x.W, Az x.sm d.syn, Az x.sh x.g]) rfl rfl (AZ 0 (v := .int .i64 (n : Int)) #[.int .i64 d.room, .int .i64 (n : Int), .bool false, x.pv, x.sm, x.sh] Br.2 rfl rfl rfl rfl rfl rfl rfl rfl rfl) ?_))))))); rintro ⟨⟩
 refine AG (AC (Ad (Af Aq rfl (Ab (AB ?_)))))
 exact AA (.tmp rfl) (fun w h => AH () rfl [0, 1, 2, 3, 4] rfl h (Gx (os := []) (d := { d with fuse := some n }) ⟨x.pv, x.sm, x.sh, x.W, x.g, x.hW, x.hg, x.hok, (fun m hm => by cases hm; omega), x.hr, x.hk⟩ hd)) rfl
theorem SF {p : Nat} {d : DiskD} (hd : d.down = false) (hf : d.fuse = none) : AV Tryz.prog 70 #[.pointer (some ⟨p, 0, none⟩)] [Ag p d] (fun (_ : Unit) => .bool true) (fun (_ : Unit) => [Ag p d]) := by
 refine Bo (args := [.pointer (some ⟨p, 0, none⟩)]) 30 Tryz.func70 rfl rfl rfl ?_; intro w rs
 refine AX 0 rfl (It hd) (fun _ => rfl) ?_; rintro x
 have hz : D2 d.fuse = -1 := by rw [hf]; rfl
 refine Ad (Af Aq rfl (Ab (Ar (Ad (Af Aq rfl (Aa rfl (.pointer (some ⟨p, 0, none⟩)) (fun b w hb hH => by exact B4 rfl rfl hb) (Af Aq rfl (Aa rfl (.bool false) (fun b w hb hH => Ba rfl rfl (Bl GS rfl) (hH.row 0 rfl) hb) (Ab (Au rfl (Av (AC (Ar (Ad (Af Aq rfl (Aa rfl (.pointer (some ⟨p, 0, none⟩)) (fun b w hb hH => by exact B4 rfl rfl hb) ?_))))))))))))))))
 refine Af Aq rfl (Aa rfl (.int .i64 (D2 d.fuse)) (fun b w hb hH => Ba rfl rfl (Bl Br rfl) (hH.row 0 rfl) hb) (Aa rfl (.bool false) (fun b w hb hH => A5 rfl rfl rfl (EM (by omega)) hb) (Ab (Au rfl (Av (AC (Ar (Ad (Af Aq rfl (Aa rfl (.pointer (some ⟨p, 0, none⟩)) (fun b w hb hH => by exact B4 rfl rfl hb) (Af Aq rfl (Aa rfl (.int .i64 (D2 d.fuse)) (fun b w hb hH => Ba rfl rfl (Bl Br rfl) (hH.row 0 rfl) hb) (Aa rfl (.bool false) (fun b w hb hH => A5 rfl rfl rfl (By (by omega)) hb) (Ab (Au rfl (Av (AC (Ad ?_))))))))))))))))))
 refine Af Aq rfl (Ab (AB ?_))
 exact AA (.tmp rfl) (fun w h => AH () rfl [0, 1, 2, 3, 4] rfl h (Gx (os := []) x hd)) rfl
theorem JK {p : Nat} {d d1 : DiskD} (h : Ce d = (d1, 3)) : AV Tryz.prog 70 #[.pointer (some ⟨p, 0, none⟩)] [Ag p d] (fun _ : Unit => .bool false) (fun _ => [Ag p d1]) := by
  unfold Ce at h
  cases hd : d.down
  · cases hf : d.fuse with
    | none => rw [if_neg (by simp [hd, hf])] at h; cases h
    | some n =>
      cases n with
      | zero => rw [if_pos (.inr hf)] at h; cases h; exact OT hd hf
      | succ n => rw [if_neg (by simp [hd, hf])] at h; cases h
  · rw [if_pos (.inl hd)] at h
    cases h
    have e : ({ d with down := true } : DiskD) = d := by obtain ⟨_, _, _, _, dn⟩ := d; cases hd; rfl
    rw [e]; exact Ug hd
theorem EK {p : Nat} {d d1 : DiskD} (h : Ce d = (d1, 0)) : AV Tryz.prog 70 #[.pointer (some ⟨p, 0, none⟩)] [Ag p d] (fun _ : Unit => .bool true) (fun _ => [Ag p d1]) := by
  unfold Ce at h
  cases hd : d.down
  · cases hf : d.fuse with
    | none =>
      rw [if_neg (by simp [hd, hf])] at h
      cases h
      have e : ({ d with fuse := d.fuse.map (· - 1) } : DiskD) = d := by obtain ⟨_, _, _, fu, _⟩ := d; cases hf; rfl
      rw [e]; exact SF hd hf
    | some n =>
      cases n with
      | zero => rw [if_pos (.inr hf)] at h; cases h
      | succ n =>
        rw [if_neg (by simp [hd, hf])] at h
        cases h
        rw [hf]; exact Qn hd hf
  · rw [if_pos (.inl hd)] at h; cases h
theorem EL {d d1 : DiskD} (h : Ce d = (d1, 0)) : d1.down = false ∧ d1.syn = d.syn ∧ d1.wait = d.wait ∧ d1.room = d.room := by
  unfold Ce at h
  cases hd : d.down
  · by_cases hf : d.fuse = some 0
    · rw [if_pos (.inr hf)] at h; cases h
    · rw [if_neg (by simp [hd, hf])] at h; cases h; exact ⟨hd, rfl, rfl, rfl⟩
  · rw [if_pos (.inl hd)] at h; cases h
theorem JL (d : DiskD) : (Ce d).2 = 3 ∨ (Ce d).2 = 0 := by
  unfold Ce
  split
  · exact .inl rfl
  · exact .inr rfl
theorem Ev {d d1 : DiskD} (h : Ce d = (d1, 0)) (hd : d.fit) : d1.fit := by
 obtain ⟨_, h1, h2, _⟩ := EL h
 unfold DiskD.fit
 rw [h1, h2]; exact hd
theorem NN {p : Nat} {d : DiskD} {x : OpV} (hd : d.down = false) (hfit : d.fit) (ho : Vh d.now x.o) (hl : x.o.size ≤ 1048576) : AV Tryz.prog 77 #[.pointer (some ⟨p, 0, none⟩), .agg (encO x).toArray] [Ag p d, Aj 5 1 encB x.v x.o.data] (fun (_ : Unit) => .int .i64 0) (fun (_ : Unit) => [Ag p (Cw d x.o)]) := by
  refine Bo (args := [.pointer (some ⟨p, 0, none⟩), .agg (encO x).toArray]) 21 Tryz.func77 rfl rfl rfl ?_; intro w rs
  refine AX 0 rfl (It hd) (fun _ => rfl) ?_; rintro y
  refine AL.fact 3 rfl BO ?_; rintro hsn
  refine AL.fact 4 rfl BO ?_; rintro hgn
  have hu : AT y.g ≤ 1099511627776 := by rw [E2 (y.hg hd)]; exact NK hfit hsn y.hok
  have hWl := NL y
  have hw := hfit.2
  have ho2 := T6 (y.hg hd).symm (SE hsn) ho
  refine Ad (Af Aq rfl (Al (post := fun g1 => [cell g1 106 #[.int .i64 x.o.kind, .string (bs x.o.name), x.v, .int .i64 (x.o.cutS : Int), .string (bs x.o.to)], cell p 101 #[.int .i64 d.room, .int .i64 (D2 d.fuse), .bool false, y.pv, y.sm, y.sh], Aj 106 5 encO y.pv y.W, BW y.W, Az y.sm d.syn, Az y.sh y.g, Aj 5 1 encB x.v x.o.data]) rfl (CW (cs := #[.int .i64 x.o.kind, .string (bs x.o.name), x.v, .int .i64 (x.o.cutS : Int), .string (bs x.o.to)]) rfl rfl rfl) ?_)); rintro g1
  refine Af Aq rfl (Ab (Ar ?_))
  refine BV 6 1 [⟨.quiet, [none], fun _ => .pointer (some ⟨p, 0, none⟩), []⟩, ⟨.quiet, [none], fun _ => .pointer (some ⟨p, 0, none⟩), [0]⟩, ⟨.quiet, [none], fun _ => .pointer (some ⟨p, 5, none⟩), [1]⟩, ⟨.quiet, [none], fun _ => y.sh, [2]⟩, ⟨.quiet, [none], fun _ => .agg #[.int .i64 x.o.kind, .string (bs x.o.name), x.v, .int .i64 (x.o.cutS : Int), .string (bs x.o.to)], []⟩, ⟨.actv 0, [some false], fun _ => .tuple #[], [3, 4]⟩] [(0, .pointer (some ⟨p, 0, none⟩)), (3, .pointer (some ⟨g1, 0, none⟩)), (4, .int .i64 0)] (fun ρ => match ρ with | [r0] => [cell g1 106 #[.int .i64 x.o.kind, .string (bs x.o.name), x.v, .int .i64 (x.o.cutS : Int), .string (bs x.o.to)], cell p 101 #[.int .i64 d.room, .int .i64 (D2 d.fuse), .bool false, y.pv, y.sm, y.sh], Aj 106 5 encO y.pv y.W, BW y.W, Az y.sm d.syn, DT r0 (fun _ => Az y.sh (BJ y.g x.o)) (Az y.sh y.g), Aj 5 1 encB x.v x.o.data] | _ => []) (by kernel_rfl) (by kernel_rfl) ⟨rfl, rfl, rfl, trivial⟩ rfl ?_ ?_
  refine Ac (by intro r0_; exact ⟨rfl, fun b w hH hb => Ah Aq rfl hb⟩) (Ac (by intro r0_; exact ⟨rfl, fun b w hH hb => by exact B4 rfl rfl hb⟩) (Ac (by intro r0_; exact ⟨rfl, fun b w hH hb => Ah Aq rfl hb⟩) (Ac (by intro r0_; exact ⟨rfl, fun b w hH hb => Ba rfl rfl (Bl AO rfl) (hH.row 1 rfl) hb⟩) (Ac (by intro r0_; exact ⟨rfl, fun b w hH hb => Ba rfl rfl (Ft (cs := [.int .i64 x.o.kind, .string (bs x.o.name), x.v, .int .i64 (x.o.cutS : Int), .string (bs x.o.to)]) Cx rfl) (hH.row 0 rfl) hb⟩) (Ac (by exact ⟨rfl, Bt.su (As (os' := fun _ => [cell g1 106 #[.int .i64 x.o.kind, .string (bs x.o.name), x.v, .int .i64 (x.o.cutS : Int), .string (bs x.o.to)], cell p 101 #[.int .i64 d.room, .int .i64 (D2 d.fuse), .bool false, y.pv, y.sm, y.sh], Aj 106 5 encO y.pv y.W, BW y.W, Az y.sm d.syn, Az y.sh (BJ y.g x.o), Aj 5 1 encB x.v x.o.data]) [5, 6] 0 (Ai Tryz.func106 (by kernel_rfl) rfl) (Uf ho2 D7 (by omega) rfl) rfl rfl rfl (fun _ => rfl) rfl rfl rfl) rfl⟩) ?_)))))
  exact B9
  intro v0_
  refine BU.keep (env' := [(0, .pointer (some ⟨p, 0, none⟩)), (3, .pointer (some ⟨g1, 0, none⟩)), (4, .int .i64 0)]) ⟨rfl, rfl, rfl, trivial⟩ (AG (AC (Ar (EY 1 rfl ?_))))
  refine BV 10 2 [⟨.quiet, [none, none], fun _ => .pointer (some ⟨p, 0, none⟩), []⟩, ⟨.quiet, [none, none], fun _ => .pointer (some ⟨p, 0, none⟩), []⟩, ⟨.quiet, [none, none], fun _ => .pointer (some ⟨p, 0, none⟩), [1]⟩, ⟨.quiet, [none, none], fun _ => .pointer (some ⟨p, 3, none⟩), [2]⟩, ⟨.quiet, [none, none], fun _ => y.pv, [3]⟩, ⟨.quiet, [none, none], fun _ => .agg #[.int .i64 x.o.kind, .string (bs x.o.name), x.v, .int .i64 (x.o.cutS : Int), .string (bs x.o.to)], []⟩, ⟨.act 0, [some false, some false], fun _ => undef, [5]⟩, ⟨.act 1, [some true, some false], fun _ => undef, [4, 6]⟩, ⟨.quiet, [some true, some true], fun _ => .pointer (some ⟨p, 0, none⟩), [0]⟩, ⟨.quiet, [some true, some true], fun _ => .pointer (some ⟨p, 3, none⟩), [8]⟩] [(0, .pointer (some ⟨p, 0, none⟩)), (3, .pointer (some ⟨g1, 0, none⟩)), (4, .int .i64 0)] (fun ρ => match ρ with | [r0, r1] => [DT r0 (fun u1 => Aj 106 5 encO u1 ([x])) (Gj), cell g1 106 #[.int .i64 x.o.kind, .string (bs x.o.name), x.v, .int .i64 (x.o.cutS : Int), .string (bs x.o.to)], cell p 101 #[.int .i64 d.room, .int .i64 (D2 d.fuse), .bool false, y.pv, y.sm, y.sh], DT r1 (fun u2 => Aj 106 5 encO u2 (y.W ++ ([x]))) (Aj 106 5 encO y.pv y.W), BW y.W, Az y.sm d.syn, Az y.sh (BJ y.g x.o), Aj 5 1 encB x.v x.o.data] | _ => []) (by kernel_rfl) (by kernel_rfl) ⟨rfl, rfl, rfl, trivial⟩ rfl ?_ ?_
  refine Ac (by intro r0_ r1_; exact ⟨rfl, fun b w hH hb => Ah Aq rfl hb⟩) (Ac (by intro r0_ r1_; exact ⟨rfl, fun b w hH hb => Ah Aq rfl hb⟩) (Ac (by intro r0_ r1_; exact ⟨rfl, fun b w hH hb => by exact B4 rfl rfl hb⟩) (Ac (by intro r0_ r1_; exact ⟨rfl, fun b w hH hb => Ah Aq rfl hb⟩) (Ac (by intro r0_ r1_; exact ⟨rfl, fun b w hH hb => Ba rfl rfl (Bl Cf rfl) (hH.row 2 rfl) hb⟩) (Ac (by intro r0_ r1_; exact ⟨rfl, fun b w hH hb => Ba rfl rfl (Ft (cs := [.int .i64 x.o.kind, .string (bs x.o.name), x.v, .int .i64 (x.o.cutS : Int), .string (bs x.o.to)]) Cx rfl) (hH.row 1 rfl) hb⟩) ?_)))))
  refine Ac (by exact ⟨rfl, Bt.s (Bt.place (val := fun u1 : Value => u1) (t := fun u1 => Aj 106 5 encO u1 ([x])) (os' := fun u1 => [Aj 106 5 encO u1 ([x]), cell g1 106 #[.int .i64 x.o.kind, .string (bs x.o.name), x.v, .int .i64 (x.o.cutS : Int), .string (bs x.o.to)], cell p 101 #[.int .i64 d.room, .int .i64 (D2 d.fuse), .bool false, y.pv, y.sm, y.sh], Aj 106 5 encO y.pv y.W, BW y.W, Az y.sm d.syn, Az y.sh (BJ y.g x.o), Aj 5 1 encB x.v x.o.data]) 0 rfl (by refine Dm (e := 106) (t := 97) (k := 5) (enc := encO) (x := .tmp 16) (c := .agg #[.int .i64 x.o.kind, .string (bs x.o.name), x.v, .int .i64 (x.o.cutS : Int), .string (bs x.o.to)]) ?_ ?_ ?_ x ?_ ?_ ?_; exact CS; exact (by decide); exact Rv; exact rfl; exact rfl; exact rfl) (fun _ => rfl)) (fun _ => rfl)⟩) ?_
  refine Ac (by intro u1; exact ⟨rfl, Bt.s (On 3 CS Rv rfl ([x]) (fun w hH => hH.vec 0 rfl Rv) (by simp only [List.length_cons, List.length_nil]; omega) rfl rfl rfl rfl) (fun _ => rfl)⟩) (Ac (by intro u1 u2; exact ⟨rfl, fun b w hH hb => by exact B4 rfl rfl hb⟩) (Ac (by intro u1 u2; exact ⟨rfl, fun b w hH hb => Ah Aq rfl hb⟩) ?_))
  exact B9
  intro u1 u2
  refine BU.keep (env' := [(4, .int .i64 0), (18, u2), (20, .pointer (some ⟨p, 3, none⟩))]) ⟨rfl, rfl, rfl, trivial⟩ (Af Aq rfl (AR (post := fun _ => [Aj 106 5 encO u1 ([x]), cell g1 106 #[.int .i64 x.o.kind, .string (bs x.o.name), x.v, .int .i64 (x.o.cutS : Int), .string (bs x.o.to)], cell p 101 #[.int .i64 d.room, .int .i64 (D2 d.fuse), .bool false, u2, y.sm, y.sh], Aj 106 5 encO u2 (y.W ++ ([x])), BW y.W, Az y.sm d.syn, Az y.sh (BJ y.g x.o), Aj 5 1 encB x.v x.o.data]) rfl rfl (Ez 2 3 (v := u2) #[.int .i64 d.room, .int .i64 (D2 d.fuse), .bool false, u2, y.sm, y.sh] Cf.2 rfl (fun _ h => Aj.c1 h) rfl rfl rfl rfl rfl rfl rfl) ?_)); rintro ⟨⟩
  refine AG (AC (Bj [4, 7] rfl GQ rfl (Ad (Af Aq rfl (Ab (AB ?_))))))
  exact AA (.tmp rfl) (fun w h => AH () rfl [3, 4, 0, 5, 6] rfl h (Gx (os := []) (d := Cw d x.o) ⟨u2, y.sm, y.sh, y.W ++ [x], BJ y.g x.o, (by rw [show EJ (y.W ++ [x]) = EJ y.W ++ [x.o] by simp [EJ], y.hW]; rfl), (fun _ => by rw [Gv]; exact Sp (y.hg hd) hgn x.o), MZ y.hok ho, y.hf, y.hr, y.hk⟩ hd)) rfl
end Go.Proofs.YtjcfimmcogkopaaGreatDoor.Sep
namespace Go.Proofs.YtjcfimmcogkopaaGreatDoor.Sep
open Go.RowKit
open Go.Proofs.YtjcfimmcogkopaaGreatDoor.Mem (Bb Ci Chg Aw)
theorem OU {p k : Nat} {r1 r2 r3 pv sm sh : Value} {W K : List OpV} {f f' : FS} (hk : k ≤ W.length) (hW : W.length ≤ 1000000) (hK : W.take k = K) (hok : Ha f (EJ K)) (hsz : AT f + ((EJ K).map OpD.size).sum ≤ 1099511627776) (hf : (EJ K).foldl BJ f = f') : AV Tryz.prog 55 #[.pointer (some ⟨p, 0, none⟩), .int .i64 (k : Int)] [cell p 101 #[r1, r2, r3, pv, sm, sh], Aj 106 5 encO pv W, BW W, Az sm f] (fun (_ : Unit) => .tuple #[]) (fun (_ : Unit) => [cell p 101 #[r1, r2, r3, .slice none 0 0, sm, sh], Aj 106 5 encO pv W, BW W, Az sm f']) := by
  refine Bo (args := [.pointer (some ⟨p, 0, none⟩), .int .i64 (k : Int)]) 27 Tryz.func55 rfl rfl rfl ?_; intro w rs
  refine AL.fact 3 rfl BO ?_; rintro hnd
  have hKl : K.length ≤ W.length := by rw [← hK, List.length_take]; omega
  refine Ar (Ad (Af Aq rfl (Aa rfl (.pointer (some ⟨p, 0, none⟩)) (fun b w hb hH => by exact B4 rfl rfl hb) (Af Aq rfl (Aa rfl (pv) (fun b w hb hH => Ba rfl rfl (Bl Cf rfl) (hH.row 0 rfl) hb) (Af Aq rfl (Aa rfl (Cu 5 pv 0 k) (fun b w hb hH => MN 1 (b := k) CS rfl hk rfl rfl rfl hH hb) (Aa rfl (.int .i64 (K.length : Int)) (fun b w hb hH => Be (hH.vecq 1 rfl Rv (Nat.zero_le _) hk (m := K) (by simpa using hK)) Tryz.underlying97 rfl rfl hb) (Af Aq rfl (Ab (AK ?_)))))))))))
  refine CC (α := Nat) (fun i => [(0, .pointer (some ⟨p, 0, none⟩)), (11, Cu 5 pv 0 k), (12, .int .i64 (K.length : Int)), (13, .int .i64 ((i : Nat) : Int))]) (fun i => [cell p 101 #[r1, r2, r3, pv, sm, sh], Aj 106 5 encO pv W, BW W, Az sm (((EJ K).take i).foldl BJ f)]) (fun i => i ≤ K.length) (fun i => K.length - i) 0 (Nat.zero_le _) ⟨rfl, rfl, rfl, rfl, trivial⟩ rfl ?_
  rintro i hI
  refine AL.at_ (env' := [(0, .pointer (some ⟨p, 0, none⟩)), (11, Cu 5 pv 0 k), (12, .int .i64 (K.length : Int)), (13, .int .i64 ((i : Nat) : Int))]) (rs' := [cell p 101 #[r1, r2, r3, pv, sm, sh], Aj 106 5 encO pv W, BW W, Az sm (((EJ K).take i).foldl BJ f)]) ⟨rfl, rfl, rfl, rfl, trivial⟩ rfl ?_
  have hc : i < K.length ∨ K.length ≤ i := by omega
  rcases hc with hi | hi
  obtain ⟨a, ha⟩ : ∃ a, K[i]? = some a := ⟨_, List.getElem?_eq_getElem hi⟩
  have haW : a ∈ W := by rw [← hK] at ha; exact List.mem_of_mem_take (List.mem_of_getElem? ha)
  have hao : (EJ K)[i]? = some a.o := by unfold EJ; rw [List.getElem?_map, ha]; rfl
  have hsa : AT (((EJ K).take i).foldl BJ f) + a.o.size ≤ 1099511627776 := JJ hnd hok hao hsz
  refine Ad (Af Aq rfl (Aa rfl (.bool true) (fun b w hb hH => A5 rfl rfl rfl (BY (by omega)) hb) (Ab (Ar (AE rfl (Av (AC (Ar (AK (Ad (Af Aq rfl (Aa rfl (AN (Cu 5 pv 0 k) (i * 5)) (fun b w hb hH => DW Rv (hH.vecq 1 rfl Rv (Nat.zero_le _) hk (m := K) (by simpa using hK)) CS (j := i) ha rfl rfl rfl hb) (Aa rfl (.agg (encO a).toArray) (fun b w hb hH => Dp Rv (by decide) (hH.vecq 1 rfl Rv (Nat.zero_le _) hk (m := K) (by simpa using hK)) (j := i) ha Cx rfl rfl hb) (Al (post := fun gc => [cell gc 106 #[.int .i64 0, .string { data := #[] }, .slice none 0 0, .int .i64 0, .string { data := #[] }], cell p 101 #[r1, r2, r3, pv, sm, sh], Aj 106 5 encO pv W, BW W, Az sm (((EJ K).take i).foldl BJ f)]) rfl (Cl JD rfl) ?_)))))))))))))); rintro gc
  refine AR (post := fun _ => [cell gc 106 #[.int .i64 a.o.kind, .string (bs a.o.name), a.v, .int .i64 (a.o.cutS : Int), .string (bs a.o.to)], cell p 101 #[r1, r2, r3, pv, sm, sh], Aj 106 5 encO pv W, BW W, Az sm (((EJ K).take i).foldl BJ f)]) rfl rfl (AZ 0 (v := .agg (encO a).toArray) #[.int .i64 a.o.kind, .string (bs a.o.name), a.v, .int .i64 (a.o.cutS : Int), .string (bs a.o.to)] Cx.2 rfl rfl rfl rfl rfl rfl rfl rfl rfl) ?_; rintro ⟨⟩
  refine Ab ?_
  refine BV 6 1 [⟨.quiet, [none], fun _ => .pointer (some ⟨p, 0, none⟩), []⟩, ⟨.quiet, [none], fun _ => .pointer (some ⟨p, 0, none⟩), [0]⟩, ⟨.quiet, [none], fun _ => .pointer (some ⟨p, 4, none⟩), [1]⟩, ⟨.quiet, [none], fun _ => sm, [2]⟩, ⟨.quiet, [none], fun _ => .agg #[.int .i64 a.o.kind, .string (bs a.o.name), a.v, .int .i64 (a.o.cutS : Int), .string (bs a.o.to)], []⟩, ⟨.actv 0, [some false], fun _ => .tuple #[], [3, 4]⟩] [(0, .pointer (some ⟨p, 0, none⟩)), (11, Cu 5 pv 0 k), (12, .int .i64 (K.length : Int)), (13, .int .i64 ((i : Nat) : Int)), (14, .bool true), (15, AN (Cu 5 pv 0 k) (i * 5)), (16, .agg (encO a).toArray), (5, .pointer (some ⟨gc, 0, none⟩))] (fun ρ => match ρ with | [r0] => [cell gc 106 #[.int .i64 a.o.kind, .string (bs a.o.name), a.v, .int .i64 (a.o.cutS : Int), .string (bs a.o.to)], cell p 101 #[r1, r2, r3, pv, sm, sh], Aj 106 5 encO pv W, BW W, DT r0 (fun _ => Az sm (((EJ K).take (i + 1)).foldl BJ f)) (Az sm (((EJ K).take i).foldl BJ f))] | _ => []) (by kernel_rfl) (by kernel_rfl) ⟨rfl, rfl, rfl, rfl, rfl, rfl, rfl, rfl, trivial⟩ rfl ?_ ?_
  refine Ac (by intro r0_; exact ⟨rfl, fun b w hH hb => Ah Aq rfl hb⟩) (Ac (by intro r0_; exact ⟨rfl, fun b w hH hb => by exact B4 rfl rfl hb⟩) (Ac (by intro r0_; exact ⟨rfl, fun b w hH hb => Ah Aq rfl hb⟩) (Ac (by intro r0_; exact ⟨rfl, fun b w hH hb => Ba rfl rfl (Bl AO rfl) (hH.row 1 rfl) hb⟩) (Ac (by intro r0_; exact ⟨rfl, fun b w hH hb => Ba rfl rfl (Ft (cs := [.int .i64 a.o.kind, .string (bs a.o.name), a.v, .int .i64 (a.o.cutS : Int), .string (bs a.o.to)]) Cx rfl) (hH.row 0 rfl) hb⟩) (Ac (by exact ⟨rfl, Bt.su (As (os' := fun _ => [cell gc 106 #[.int .i64 a.o.kind, .string (bs a.o.name), a.v, .int .i64 (a.o.cutS : Int), .string (bs a.o.to)], cell p 101 #[r1, r2, r3, pv, sm, sh], Aj 106 5 encO pv W, BW W, Az sm (((EJ K).take (i + 1)).foldl BJ f)]) [4, 3] 0 (Ai Tryz.func106 (by kernel_rfl) rfl) (Uf (NI hok hao) (Rw haW) (by omega) (SD hao f).symm) rfl rfl rfl (fun _ => rfl) rfl rfl rfl) rfl⟩) ?_)))))
  exact B9
  intro v0_
  refine BU.keep (env' := [(0, .pointer (some ⟨p, 0, none⟩)), (11, Cu 5 pv 0 k), (12, .int .i64 (K.length : Int)), (13, .int .i64 ((i : Nat) : Int)), (14, .bool true), (15, AN (Cu 5 pv 0 k) (i * 5)), (16, .agg (encO a).toArray), (5, .pointer (some ⟨gc, 0, none⟩)), (17, .pointer (some ⟨p, 0, none⟩)), (18, .pointer (some ⟨p, 0, none⟩)), (19, .pointer (some ⟨p, 4, none⟩)), (20, sm), (21, .agg #[.int .i64 a.o.kind, .string (bs a.o.name), a.v, .int .i64 (a.o.cutS : Int), .string (bs a.o.to)])]) ⟨rfl, rfl, rfl, rfl, rfl, rfl, rfl, rfl, rfl, rfl, rfl, rfl, rfl, trivial⟩ (AG (A6 (AC (AL.leave [0] rfl rfl (BB (Af Aq rfl (Aa rfl (.int .i64 ((i + 1 : Nat) : Int)) (fun b w hb hH => AJ rfl rfl rfl rfl (by rw [IntWalk.i64_in _ (by omega)]; omega) hb) (Af Aq rfl (AG ?_)))))))))
  exact B6 (i + 1) 0 (by omega) (by show K.length - (i + 1) < K.length - i; omega) ⟨rfl, rfl, rfl, rfl, trivial⟩ rfl
  have he : ((EJ K).take i).foldl BJ f = f' := by rw [List.take_of_length_le (by unfold EJ; rw [List.length_map]; exact hi)]; exact hf
  refine Ad (Af Aq rfl (Aa rfl (.bool false) (fun b w hb hH => A5 rfl rfl rfl (BI (by omega)) hb) (Ab (Ar (Au rfl (CJ (Fq (Fq (Bg (AC ?_))))))))))
  rw [he]
  refine BB (Af Aq rfl (Aa rfl (.pointer (some ⟨p, 0, none⟩)) (fun b w hb hH => by exact B4 rfl rfl hb) (Af Aq rfl (AR (post := fun _ => [cell p 101 #[r1, r2, r3, .slice none 0 0, sm, sh], Aj 106 5 encO pv W, BW W, Az sm f']) rfl rfl (AZ 0 (v := .slice none 0 0) #[r1, r2, r3, .slice none 0 0, sm, sh] Cf.2 rfl rfl rfl rfl rfl rfl rfl rfl rfl) ?_)))); rintro ⟨⟩
  refine AG ?_
  exact D5  (fun w h => AH () rfl [0, 1, 2, 3] rfl h El) rfl
theorem Uh {X : Ass} {v : Value} {f : FS} {x : OpV} {torn : Int} (hX : EN X x.v x.o.data) (hd : x.o.data = []) : AV Tryz.prog 56 #[v, .agg (encO x).toArray, .int .i64 torn] [Az v f, X] (fun (_ : Unit) => .tuple #[]) (fun (_ : Unit) => [Az v f, X]) := by
 refine Bo (args := [v, .agg (encO x).toArray, .int .i64 torn]) 26 Tryz.func56 rfl rfl rfl ?_; intro w rs
 refine Ad (Af Aq rfl (Al (post := fun g1 => [cell g1 106 #[.int .i64 x.o.kind, .string (bs x.o.name), x.v, .int .i64 (x.o.cutS : Int), .string (bs x.o.to)], Az v f, X]) rfl (CW (cs := #[.int .i64 x.o.kind, .string (bs x.o.name), x.v, .int .i64 (x.o.cutS : Int), .string (bs x.o.to)]) rfl rfl rfl) ?_)); rintro g1
 refine Ab (Ar (Ad (Af Aq rfl (Aa rfl (x.v) (fun b w hb hH => Ba rfl rfl (Bl CI rfl) (hH.row 0 rfl) hb) (Aa rfl (.int .i64 (x.o.data.length : Int)) (fun b w hb hH => Be ((hH.rd8 2 rfl hX).rd) Tryz.underlying49 rfl rfl hb) (Aa rfl (.bool true) (fun b w hb hH => A5 rfl rfl rfl (Fw (by rw [hd]; rfl)) hb) (Ab (AE rfl (AB (Ek ?_))))))))))
 exact JY  (fun w h => AH () rfl [1, 2] rfl h El) rfl
theorem Ui {X : Ass} {v : Value} {f f' : FS} {n y b1 : List UInt8} {A : Option Addr} {c : Nat} {torn : Int} (hX : EN X (.slice A y.length c) y) (hl : AT f + y.length ≤ 1099511627776) (hy : y ≠ []) (ht : (torn % (y.length : Int)).toNat = b1.length) (hb1 : y.take b1.length = b1) (h : Gy f (.app n y) torn = f') : AV Tryz.prog 56 #[v, .agg #[.int .i64 0, .string (bs n), .slice A y.length c, .int .i64 0, .string (bs ([]))], .int .i64 torn] [Az v f, X] (fun (_ : Unit) => .tuple #[]) (fun (_ : Unit) => [Az v f', X]) := by
  have h_ := h
  have hb0 : 0 < y.length := List.length_pos_iff.2 hy
  have h1 := Int.emod_nonneg torn (show (y.length : Int) ≠ 0 by omega)
  have h2 := Int.emod_lt_of_pos torn (show 0 < (y.length : Int) by omega)
  have hX1 : EN X (.slice A b1.length c) b1 := fun rs w ha hb => by
    have := (hX rs w ha hb).takes (k := b1.length) (by omega)
    rwa [hb1] at this
  have hsub : Cu 1 (.slice A y.length c) 0 b1.length = .slice A b1.length c := Rm
  unfold Gy at h_
  simp only [ht, hy, or_false, hb1] at h_
  refine Bo (args := [v, .agg #[.int .i64 0, .string (bs n), .slice A y.length c, .int .i64 0, .string (bs ([]))], .int .i64 torn]) 26 Tryz.func56 rfl rfl rfl ?_; intro w rs
  refine Ad (Af Aq rfl (Al (post := fun g1 => [cell g1 106 #[.int .i64 0, .string (bs n), .slice A y.length c, .int .i64 0, .string (bs ([]))], Az v f, X]) rfl (CW (cs := #[.int .i64 0, .string (bs n), .slice A y.length c, .int .i64 0, .string (bs ([]))]) rfl rfl rfl) ?_)); rintro g1
  refine Ab (Ar (Ad (Af Aq rfl (Aa rfl (.slice A y.length c) (fun b w hb hH => Ba rfl rfl (Bl CI rfl) (hH.row 0 rfl) hb) (Aa rfl (.int .i64 (y.length : Int)) (fun b w hb hH => Be ((hH.rd8 2 rfl hX).rd) Tryz.underlying49 rfl rfl hb) (Aa rfl (.bool false) (fun b w hb hH => A5 rfl rfl rfl (EM (by omega)) hb) (Ab (Au rfl (Av (AC (Ar ?_)))))))))))
  refine BV 9 1 [⟨.quiet, [none], fun _ => .pointer (some ⟨g1, 2, none⟩), []⟩, ⟨.quiet, [none], fun _ => .slice A y.length c, [0]⟩, ⟨.quiet, [none], fun _ => .int .i64 torn, []⟩, ⟨.quiet, [none], fun _ => .pointer (some ⟨g1, 2, none⟩), []⟩, ⟨.quiet, [none], fun _ => .slice A y.length c, [3]⟩, ⟨.quiet, [none], fun _ => .int .i64 (y.length : Int), [4]⟩, ⟨.actv 0, [some false], fun _ => .int .i64 (b1.length : Int), [2, 5]⟩, ⟨.quiet, [some true], fun _ => .slice A b1.length c, [1, 6]⟩, ⟨.quiet, [some true], fun _ => .pointer (some ⟨g1, 2, none⟩), []⟩] [(0, v), (2, .int .i64 torn), (4, .pointer (some ⟨g1, 0, none⟩))] (fun ρ => match ρ with | [r0] => [cell g1 106 #[.int .i64 0, .string (bs n), .slice A y.length c, .int .i64 0, .string (bs ([]))], Az v f, X] | _ => []) (by kernel_rfl) (by kernel_rfl) ⟨rfl, rfl, rfl, trivial⟩ rfl ?_ ?_
  refine Ac (by intro r0_; exact ⟨rfl, fun b w hH hb => Ah Aq rfl hb⟩) (Ac (by intro r0_; exact ⟨rfl, fun b w hH hb => Ba rfl rfl (Bl CI rfl) (hH.row 0 rfl) hb⟩) (Ac (by intro r0_; exact ⟨rfl, fun b w hH hb => Ah Aq rfl hb⟩) (Ac (by intro r0_; exact ⟨rfl, fun b w hH hb => Ah Aq rfl hb⟩) (Ac (by intro r0_; exact ⟨rfl, fun b w hH hb => Ba rfl rfl (Bl CI rfl) (hH.row 0 rfl) hb⟩) (Ac (by intro r0_; exact ⟨rfl, fun b w hH hb => Be ((hH.rd8 2 rfl hX).rd) Tryz.underlying49 rfl rfl hb⟩) (Ac (by exact ⟨rfl, Bt.su (Bk (Ai Tryz.func54 (by kernel_rfl) rfl) (fun w hH => L6 w torn (y.length : Int) (b1.length : Int) (by omega) (by omega) (by omega)) rfl rfl rfl) rfl⟩) (Ac (by intro v0_; exact ⟨rfl, fun b w hH hb => FQ (j := b1.length) Bh hsub (Nat.le_trans (by omega) (Lb (A := A) (n := y.length) (c := c) (hH.rd8 2 rfl hX))) rfl rfl rfl hH hb⟩) (Ac (by intro v0_; exact ⟨rfl, fun b w hH hb => Ah Aq rfl hb⟩) ?_))))))))
  exact B9
  intro v0_
  refine BU.keep (env' := [(0, v), (4, .pointer (some ⟨g1, 0, none⟩)), (17, .slice A b1.length c), (18, .pointer (some ⟨g1, 2, none⟩))]) ⟨rfl, rfl, rfl, rfl, trivial⟩ (Af Aq rfl (AR (post := fun _ => [cell g1 106 #[.int .i64 0, .string (bs n), .slice A b1.length c, .int .i64 0, .string (bs ([]))], Az v f, X]) rfl rfl (AZ 0 (v := .slice A b1.length c) #[.int .i64 0, .string (bs n), .slice A b1.length c, .int .i64 0, .string (bs ([]))] CI.2 rfl rfl rfl rfl rfl rfl rfl rfl rfl) ?_)); rintro ⟨⟩
  refine AG (AC ?_)
  rcases Nat.eq_zero_or_pos b1.length with h0 | h0
  rw [if_pos h0] at h_
  subst h_
  refine Ad (Af Aq rfl (Aa rfl (.slice A b1.length c) (fun b w hb hH => Ba rfl rfl (Bl CI rfl) (hH.row 0 rfl) hb) (Aa rfl (.int .i64 (b1.length : Int)) (fun b w hb hH => Be ((hH.rd8 2 rfl hX1).rd) Tryz.underlying49 rfl rfl hb) (Aa rfl (.bool false) (fun b w hb hH => A5 rfl rfl rfl (By (by omega)) hb) (Ab (Au rfl (Av ?_)))))))
  exact D5  (fun w h => AH () rfl [1, 2] rfl h El) rfl
  rw [if_neg (by omega)] at h_
  refine Ad (Af Aq rfl (Aa rfl (.slice A b1.length c) (fun b w hb hH => Ba rfl rfl (Bl CI rfl) (hH.row 0 rfl) hb) (Aa rfl (.int .i64 (b1.length : Int)) (fun b w hb hH => Be ((hH.rd8 2 rfl hX1).rd) Tryz.underlying49 rfl rfl hb) (Aa rfl (.bool true) (fun b w hb hH => A5 rfl rfl rfl (BD (by omega)) hb) (Ab (AE rfl (BB (Af Aq rfl (Aa rfl (.agg #[.int .i64 0, .string (bs n), .slice A b1.length c, .int .i64 0, .string (bs ([]))]) (fun b w hb hH => Ba rfl rfl (Ft (cs := [.int .i64 0, .string (bs n), .slice A b1.length c, .int .i64 0, .string (bs ([]))]) Cx rfl) (hH.row 0 rfl) hb) (Al rfl (As (os' := fun _ => [cell g1 106 #[.int .i64 0, .string (bs n), .slice A b1.length c, .int .i64 0, .string (bs ([]))], Az v f', X]) [1, 2] 0 (Ai Tryz.func106 (by kernel_rfl) rfl) (Ue hX1 (by omega) h_) rfl rfl rfl (fun _ => rfl) rfl rfl rfl) ?_)))))))))); rintro ⟨⟩
  refine AG ?_
  exact D5  (fun w h => AH () rfl [1, 2] rfl h El) rfl
theorem Uj {X : Ass} {v : Value} {f f' : FS} {x : OpV} {torn : Int} (hX : EN X x.v x.o.data) (hl : AT f + x.o.size ≤ 1099511627776) (h : Gy f x.o torn = f') : AV Tryz.prog 56 #[v, .agg (encO x).toArray, .int .i64 torn] [Az v f, X] (fun _ : Unit => .tuple #[]) (fun _ => [Az v f', X]) := by
  by_cases hd : x.o.data = []
  · rw [Ub hd] at h
    subst h
    exact Uh hX hd
  · obtain ⟨o, A, c⟩ := x
    cases o with
    | app n b =>
      have hb : b ≠ [] := hd
      have h0 : 0 < b.length := List.length_pos_iff.2 hb
      have h1 := Int.emod_nonneg torn (show (b.length : Int) ≠ 0 by omega)
      have h2 := Int.emod_lt_of_pos torn (show 0 < (b.length : Int) by omega)
      have h3 : (b.take (torn % (b.length : Int)).toNat).length = (torn % (b.length : Int)).toNat := by rw [List.length_take]; omega
      exact Ui (b1 := b.take (torn % (b.length : Int)).toNat) hX hl hb h3.symm (congrArg (fun k => b.take k) h3) h
    | cut n s => exact absurd rfl hd
    | ren a b => exact absurd rfl hd
    | del n => exact absurd rfl hd
theorem OV {v : Value} {f : FS} (hl : AT f ≤ 1099511627776) : AV Tryz.prog 57 #[v] [Az v f] (fun (x : { q : Nat × FS // q.2.Perm f }) => .map (some x.1.1)) (fun (x : { q : Nat × FS // q.2.Perm f }) => [Az v f, Az (.map (some x.1.1)) x.1.2]) := by
 refine Bo (args := [v]) 21 Tryz.func57 rfl rfl rfl ?_; intro w rs
 refine AL.fact 0 rfl BO ?_; rintro hnd
 refine AX 0 rfl F3 (fun _ => rfl) ?_; rintro ⟨L, hL⟩
 subst hL
 refine Ad (Af Aq rfl (Ab (Ad (Af Aq rfl (Aa rfl (.int .i64 (L.length : Int)) (fun b w hb hH => PZ 0 Tryz.underlying99 rfl rfl rfl hH hb) (Al (post := fun gc => [BF encKey AI (.map (some gc)) ([]), BF encKey AI v L, Bx L]) rfl (Uc (kk := encKey) (vv := AI) Tryz.underlying99 rfl rfl) ?_)))))); rintro gc
 refine Af Aq rfl (Ab (Ar (H2 (t := Bx ([])) (DE) (Ad (Af Aq rfl (Al (post := fun g1 => [Bx ([]), BF encKey AI (.map (some gc)) ([]), Hs encKey AI v (.pointer (some ⟨g1, 0, none⟩)) L L none, Bx L]) rfl (Rh 2 Tryz.underlying99 rfl rfl rfl) ?_)))))); rintro g1
 refine Ab (AK (CC (α := FilL × FilL × Option (List UInt8 × PtT)) (fun ⟨left, done, cur⟩ => [(2, .map none), (3, .map (some gc)), (10, .pointer (some ⟨g1, 0, none⟩))]) (fun ⟨left, done, cur⟩ => [Bx done, BF encKey AI (.map (some gc)) done, Hs encKey AI v (.pointer (some ⟨g1, 0, none⟩)) L left cur, Bx L]) (fun ⟨left, done, cur⟩ => (Cs done ++ Cs left).Perm (Cs L) ∧ ∀ p, p ∈ left → p ∈ L) (fun ⟨left, done, cur⟩ => left.length) (L, [], none) ⟨.refl _, fun _ h => h⟩ ⟨rfl, rfl, rfl, trivial⟩ rfl ?_))
 rintro ⟨left, done, cur⟩ hI
 refine AL.at_ (env' := [(2, .map none), (3, .map (some gc)), (10, .pointer (some ⟨g1, 0, none⟩))]) (rs' := [Bx done, BF encKey AI (.map (some gc)) done, Hs encKey AI v (.pointer (some ⟨g1, 0, none⟩)) L left cur, Bx L]) ⟨rfl, rfl, rfl, trivial⟩ rfl ?_
 rcases Classical.em (left = []) with hc | hc
 have hp : (Cs done).Perm (Cs L) := by have := hI.1; rw [hc] at this; simpa [Cs] using this
 refine Ad (Af Aq rfl (Aa rfl (.tuple #[.bool false]) (fun b w hb hH => Ri 2 rfl hc rfl rfl hH hb) (Af Aq rfl (Ab (Ar (Au rfl (CJ (Fq (Fq (Bg (AC (AX 2 rfl MR (fun _ => rfl) ?_)))))))))))); rintro ⟨⟩
 refine AL.leave [1] rfl rfl (Ad (Af Aq rfl (Ab (AB ?_))))
 exact AA (.tmp rfl) (fun w h => AH (X := { q : Nat × FS // q.2.Perm (Cs L) }) ⟨(gc, Cs done), hp⟩ rfl [0, 3, 2, 1] rfl h (OS rfl)) rfl
 refine Ad (Af Aq rfl (Al (post := fun q : { q : Nat × List UInt8 × PtT // (left)[q.1]? = some q.2 } => [Bx done, BF encKey AI (.map (some gc)) done, Hs encKey AI v (.pointer (some ⟨g1, 0, none⟩)) L (left.eraseIdx q.1.1) (some (q.1.2.1, q.1.2.2)), Bx L]) rfl (Rj 2 rfl hc rfl rfl) ?_)); rintro q
 refine Af Aq rfl (Ab (Ar (AE rfl (Av (AC (AK ?_))))))
 have hqm : q.1.2 ∈ L := hI.2 _ (List.mem_of_getElem? q.2)
 have hqn : Fj q.1.2.1 done 0 = none := Qj hnd hI.1 q.2
 have hql : q.1.2.2.2.length ≤ AT (Cs L) := LX hnd ((Cc hnd).2 (List.mem_map.2 ⟨_, hqm, rfl⟩))
 refine Ad (Af Aq rfl (Aa rfl (.tuple #[.string (bs q.1.2.1), q.1.2.2.1]) (fun b w hb hH => Rk 2 rfl rfl rfl hH hb) (Af Aq rfl (Ab (BB (Af Aq rfl (Al rfl (As (os' := fun v9 => [Aj 5 1 encB v9 q.1.2.2.2, Bx done, BF encKey AI (.map (some gc)) done, Hs encKey AI v (.pointer (some ⟨g1, 0, none⟩)) L (left.eraseIdx q.1.1) (some (q.1.2.1, q.1.2.2)), Bx L]) [3] 0 (Ai Tryz.func78 (by kernel_rfl) rfl) (FU (JE hqm) (by omega)) rfl rfl rfl (fun _ => rfl) rfl rfl rfl) ?_))))))); rintro v9
 refine AR (post := fun _ => [Aj 5 1 encB v9 q.1.2.2.2, Bx done, BF encKey AI (.map (some gc)) (BM done q.1.2.1 (v9, q.1.2.2.2)), Hs encKey AI v (.pointer (some ⟨g1, 0, none⟩)) L (left.eraseIdx q.1.1) (some (q.1.2.1, q.1.2.2)), Bx L]) rfl rfl (J8 2 Dx rfl q.1.2.1 (v9, q.1.2.2.2) rfl rfl rfl rfl rfl rfl) ?_; rintro ⟨⟩
 refine K4 [1, 0] rfl (Rp hqn (v9, q.1.2.2.2)) rfl (AG (A6 ?_))
 exact B6 (left.eraseIdx q.1.1, BM done q.1.2.1 (v9, q.1.2.2.2), some (q.1.2.1, q.1.2.2)) 0 ⟨OR hI.1 q.2 hqn, fun p hp => hI.2 p (List.mem_of_mem_eraseIdx hp)⟩ (show (left.eraseIdx q.1.1).length < left.length from LT q.2) ⟨rfl, rfl, rfl, trivial⟩ rfl
end Go.Proofs.YtjcfimmcogkopaaGreatDoor.Sep
