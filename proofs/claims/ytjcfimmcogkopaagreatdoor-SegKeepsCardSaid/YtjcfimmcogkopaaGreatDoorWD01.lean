/-
  DskE · DskG
-/
import Derived.Test.YtjcfimmcogkopaaGreatDoorWX01
import Derived.Test.YtjcfimmcogkopaaGreatDoorWB05
import Derived.Test.YtjcfimmcogkopaaGreatDoorWC01
set_option linter.unusedSimpArgs false
set_option linter.unusedVariables false
set_option maxHeartbeats 4000000
set_option maxRecDepth 100000
namespace Go.Proofs.YtjcfimmcogkopaaGreatDoor.Sep
variable {d d1 : DiskD} {p : Nat}
open Go.RowKit
open Go.Proofs.YtjcfimmcogkopaaGreatDoor.Mem (AG BC Chg Ak)
theorem Uu (hd : d.down = true) : AA Tryz.prog 70 #[.pointer (some ⟨p, 0, none⟩)] [Ab p d] (fun (_ : Unit) => .bool false) (fun (_ : Unit) => [Ab p d]) := by
 refine AP (args := [.pointer (some ⟨p, 0, none⟩)]) 30 Tryz.func70 rfl rfl rfl ?_; intro w rs
 refine oC 0 (RD hd) ?_; rintro x
 refine Ci ?_
 exact An (.tmp rfl) (fun w h => As () rfl [0, 1, 2, 3] rfl h (L5 (os := []) ⟨x.pv, x.sm, .map none, x.W, [], x.hW, (fun h => by rw [hd] at h; cases h), x.hok, x.hf, x.hr, x.hk⟩ hd rfl)) rfl
theorem OX (hd : d.down = false) (hf : d.fuse = some 0) : AA Tryz.prog 70 #[.pointer (some ⟨p, 0, none⟩)] [Ab p d] (fun (_ : Unit) => .bool false) (fun (_ : Unit) => [Ab p ({ d with down := true })]) := by
 refine AP (args := [.pointer (some ⟨p, 0, none⟩)]) 30 Tryz.func70 rfl rfl rfl ?_; intro w rs
 refine oC 0 (Ie hd) ?_; rintro x
 refine Ci ?_
 refine Aq ?_
 refine Aa rfl (.bool true) (fun b w hb hH => DS rfl rfl rfl (Vu (by rw [hf]; rfl)) hb) (Ci ?_)
 exact An (.tmp rfl) (fun w h => As () rfl [0, 1, 2, 3] rfl h (L5 (os := []) (d := { d with down := true }) ⟨x.pv, x.sm, .map none, x.W, [], x.hW, (fun h => by cases h), x.hok, x.hf, x.hr, x.hk⟩ rfl rfl)) rfl
theorem Qs {n : Nat} (hd : d.down = false) (hf : d.fuse = some (n + 1)) : AA Tryz.prog 70 #[.pointer (some ⟨p, 0, none⟩)] [Ab p d] (fun (_ : Unit) => .bool true) (fun (_ : Unit) => [Ab p ({ d with fuse := some n })]) := by
 refine AP (args := [.pointer (some ⟨p, 0, none⟩)]) 30 Tryz.func70 rfl rfl rfl ?_; intro w rs
 refine oC 0 (Ie hd) ?_; rintro x
 have hz : FW d.fuse = (n : Int) + 1 := by rw [hf]; rfl
 have hn := x.hf _ hf
 refine Ci ?_
 refine Ci ?_
 refine BD ?_
 refine Aa rfl (.int .i64 (n : Int)) (fun b w hb hH => Ay rfl rfl rfl rfl (by rw [IntWalk.i64_in _ (by omega)]; omega) hb) (Ce ?_)
 exact An (.tmp rfl) (fun w h => As () rfl [0, 1, 2, 3, 4] rfl h (F9 (os := []) (d := { d with fuse := some n }) ⟨x.pv, x.sm, x.sh, x.W, x.g, x.hW, x.hg, x.hok, (fun m hm => by cases hm; omega), x.hr, x.hk⟩ hd)) rfl
theorem SM (hd : d.down = false) (hf : d.fuse = none) : AA Tryz.prog 70 #[.pointer (some ⟨p, 0, none⟩)] [Ab p d] (fun (_ : Unit) => .bool true) (fun (_ : Unit) => [Ab p d]) := by
 refine AP (args := [.pointer (some ⟨p, 0, none⟩)]) 30 Tryz.func70 rfl rfl rfl ?_; intro w rs
 refine oC 0 (Ie hd) ?_; rintro x
 have hz : FW d.fuse = -1 := by rw [hf]; rfl
 refine Ci ?_
 refine Ci ?_
 refine Dc ?_
 exact An (.tmp rfl) (fun w h => As () rfl [0, 1, 2, 3, 4] rfl h (F9 (os := []) x hd)) rfl
theorem JB (h : Bz d = (d1, 3)) : AA Tryz.prog 70 #[.pointer (some ⟨p, 0, none⟩)] [Ab p d] (fun _ : Unit => .bool false) (fun _ => [Ab p d1]) := by
  unfold Bz at h
  cases hd : d.down
  · cases hf : d.fuse with
    | none => rw [if_neg (by simp [hd, hf])] at h; cases h
    | some n =>
      cases n with
      | zero => rw [if_pos (.inr hf)] at h; cases h; exact OX hd hf
      | succ n => rw [if_neg (by simp [hd, hf])] at h; cases h
  · rw [if_pos (.inl hd)] at h
    cases h
    have e : ({ d with down := true } : DiskD) = d := by obtain ⟨_, _, _, _, dn⟩ := d; cases hd; rfl
    rw [e]; exact Uu hd
theorem Ei (h : Bz d = (d1, 0)) : AA Tryz.prog 70 #[.pointer (some ⟨p, 0, none⟩)] [Ab p d] (fun _ : Unit => .bool true) (fun _ => [Ab p d1]) := by
  unfold Bz at h
  cases hd : d.down
  · cases hf : d.fuse with
    | none =>
      rw [if_neg (by simp [hd, hf])] at h
      cases h
      have e : ({ d with fuse := d.fuse.map (· - 1) } : DiskD) = d := by obtain ⟨_, _, _, fu, _⟩ := d; cases hf; rfl
      rw [e]; exact SM hd hf
    | some n =>
      cases n with
      | zero => rw [if_pos (.inr hf)] at h; cases h
      | succ n =>
        rw [if_neg (by simp [hd, hf])] at h
        cases h
        rw [hf]; exact Qs hd hf
  · rw [if_pos (.inl hd)] at h; cases h
theorem Ej (h : Bz d = (d1, 0)) : d1.down = false ∧ d1.syn = d.syn ∧ d1.wait = d.wait ∧ d1.room = d.room := by
  unfold Bz at h
  cases hd : d.down
  · by_cases hf : d.fuse = some 0
    · rw [if_pos (.inr hf)] at h; cases h
    · rw [if_neg (by simp [hd, hf])] at h; cases h; exact ⟨hd, rfl, rfl, rfl⟩
  · rw [if_pos (.inl hd)] at h; cases h
theorem JC (d : DiskD) : (Bz d).2 = 3 ∨ (Bz d).2 = 0 := by
  unfold Bz
  split
  · exact .inl rfl
  · exact .inr rfl
theorem D0 (h : Bz d = (d1, 0)) (hd : d.fit) : d1.fit := by
 obtain ⟨_, h1, h2, _⟩ := Ej h
 unfold DiskD.fit
 rw [h1, h2]; exact hd
theorem NQ {x : OpV} (hd : d.down = false) (hfit : d.fit) (ho : Vv d.now x.o) (hl : x.o.size ≤ 1048576) : AA Tryz.prog 77 #[.pointer (some ⟨p, 0, none⟩), .agg (encO x).toArray] [Ab p d, Af 5 1 encB x.v x.o.data] (fun (_ : Unit) => .int .i64 0) (fun (_ : Unit) => [Ab p (B3 d x.o)]) := by
  refine AP (args := [.pointer (some ⟨p, 0, none⟩), .agg (encO x).toArray]) 21 Tryz.func77 rfl rfl rfl ?_; intro w rs
  refine oC 0 (Ie hd) ?_; rintro y
  refine AH.fact 3 rfl Bh ?_; rintro hsn
  refine AH.fact 4 rfl Bh ?_; rintro hgn
  have hu : Az y.g ≤ 1099511627776 := by rw [EC (y.hg hd)]; exact NN hfit hsn y.hok
  have hWl := NO y
  have hw := hfit.2
  have ho2 := Uj (y.hg hd).symm (SL hsn) ho
  refine Al (Am Ac rfl (I5 ?_)); rintro g1
  refine Aq ?_
  refine Bk 6 1 [⟨.quiet, [none], fun _ => .pointer (some ⟨p, 0, none⟩), []⟩, ⟨.quiet, [none], fun _ => .pointer (some ⟨p, 0, none⟩), [0]⟩, ⟨.quiet, [none], fun _ => .pointer (some ⟨p, 5, none⟩), [1]⟩, ⟨.quiet, [none], fun _ => y.sh, [2]⟩, ⟨.quiet, [none], fun _ => .agg #[.int .i64 x.o.kind, .string (bs x.o.name), x.v, .int .i64 (x.o.cutS : Int), .string (bs x.o.to)], []⟩, ⟨.actv 0, [some false], fun _ => .tuple #[], [3, 4]⟩] [(0, .pointer (some ⟨p, 0, none⟩)), (3, .pointer (some ⟨g1, 0, none⟩)), (4, .int .i64 0)] (fun ρ => match ρ with | [r0] => [cell g1 106 #[.int .i64 x.o.kind, .string (bs x.o.name), x.v, .int .i64 (x.o.cutS : Int), .string (bs x.o.to)], cell p 101 #[.int .i64 d.room, .int .i64 (FW d.fuse), .bool false, y.pv, y.sm, y.sh], Af 106 5 encO y.pv y.W, B1 y.W, Au y.sm d.syn, Dm r0 (fun _ => Au y.sh (Bf y.g x.o)) (Au y.sh y.g), Af 5 1 encB x.v x.o.data] | _ => []) (by kernel_rfl) (by kernel_rfl) ⟨rfl, rfl, rfl, trivial⟩ rfl ?_ ?_
  refine Ai ?_
  refine Ai ?_
  refine Ai ?_
  refine Ai ?_
  refine Ad (by intro r0_; exact ⟨rfl, fun b w hH hb => GN rfl rfl (Lj (cs := [.int .i64 x.o.kind, .string (bs x.o.name), x.v, .int .i64 (x.o.cutS : Int), .string (bs x.o.to)]) Cc rfl) (hH.row 0 rfl) hb⟩) (Ad (by exact ⟨rfl, AR.su (AM (os' := fun _ => [cell g1 106 #[.int .i64 x.o.kind, .string (bs x.o.name), x.v, .int .i64 (x.o.cutS : Int), .string (bs x.o.to)], cell p 101 #[.int .i64 d.room, .int .i64 (FW d.fuse), .bool false, y.pv, y.sm, y.sh], Af 106 5 encO y.pv y.W, B1 y.W, Au y.sm d.syn, Au y.sh (Bf y.g x.o), Af 5 1 encB x.v x.o.data]) [5, 6] 0 (Ah Tryz.func106 (by kernel_rfl) rfl) (Ut ho2 Dx (by omega) rfl) rfl rfl rfl (fun _ => rfl) rfl rfl rfl) rfl⟩) ?_)
  exact Bv
  intro v0_
  refine A5.keep (env' := [(0, .pointer (some ⟨p, 0, none⟩)), (3, .pointer (some ⟨g1, 0, none⟩)), (4, .int .i64 0)]) ⟨rfl, rfl, rfl, trivial⟩ (Aq ?_)
  refine Ey 1 rfl ?_
  refine Bk 10 2 [⟨.quiet, [none, none], fun _ => .pointer (some ⟨p, 0, none⟩), []⟩, ⟨.quiet, [none, none], fun _ => .pointer (some ⟨p, 0, none⟩), []⟩, ⟨.quiet, [none, none], fun _ => .pointer (some ⟨p, 0, none⟩), [1]⟩, ⟨.quiet, [none, none], fun _ => .pointer (some ⟨p, 3, none⟩), [2]⟩, ⟨.quiet, [none, none], fun _ => y.pv, [3]⟩, ⟨.quiet, [none, none], fun _ => .agg #[.int .i64 x.o.kind, .string (bs x.o.name), x.v, .int .i64 (x.o.cutS : Int), .string (bs x.o.to)], []⟩, ⟨.act 0, [some false, some false], fun _ => undef, [5]⟩, ⟨.act 1, [some true, some false], fun _ => undef, [4, 6]⟩, ⟨.quiet, [some true, some true], fun _ => .pointer (some ⟨p, 0, none⟩), [0]⟩, ⟨.quiet, [some true, some true], fun _ => .pointer (some ⟨p, 3, none⟩), [8]⟩] [(0, .pointer (some ⟨p, 0, none⟩)), (3, .pointer (some ⟨g1, 0, none⟩)), (4, .int .i64 0)] (fun ρ => match ρ with | [r0, r1] => [Dm r0 (fun u1 => Af 106 5 encO u1 ([x])) (emp), cell g1 106 #[.int .i64 x.o.kind, .string (bs x.o.name), x.v, .int .i64 (x.o.cutS : Int), .string (bs x.o.to)], cell p 101 #[.int .i64 d.room, .int .i64 (FW d.fuse), .bool false, y.pv, y.sm, y.sh], Dm r1 (fun u2 => Af 106 5 encO u2 (y.W ++ ([x]))) (Af 106 5 encO y.pv y.W), B1 y.W, Au y.sm d.syn, Au y.sh (Bf y.g x.o), Af 5 1 encB x.v x.o.data] | _ => []) (by kernel_rfl) (by kernel_rfl) ⟨rfl, rfl, rfl, trivial⟩ rfl ?_ ?_
  refine Ai ?_
  refine Ai ?_
  refine Ai ?_
  refine Ai ?_
  refine Ai ?_
  refine Ad (by intro r0_ r1_; exact ⟨rfl, fun b w hH hb => GN rfl rfl (Lj (cs := [.int .i64 x.o.kind, .string (bs x.o.name), x.v, .int .i64 (x.o.cutS : Int), .string (bs x.o.to)]) Cc rfl) (hH.row 1 rfl) hb⟩) ?_
  refine Ad (by exact ⟨rfl, AR.s (AR.place (val := fun u1 : Value => u1) (t := fun u1 => Af 106 5 encO u1 ([x])) (os' := fun u1 => [Af 106 5 encO u1 ([x]), cell g1 106 #[.int .i64 x.o.kind, .string (bs x.o.name), x.v, .int .i64 (x.o.cutS : Int), .string (bs x.o.to)], cell p 101 #[.int .i64 d.room, .int .i64 (FW d.fuse), .bool false, y.pv, y.sm, y.sh], Af 106 5 encO y.pv y.W, B1 y.W, Au y.sm d.syn, Au y.sh (Bf y.g x.o), Af 5 1 encB x.v x.o.data]) 0 rfl (by refine CA (e := 106) (t := 97) (k := 5) (enc := encO) (x := .tmp 16) (c := .agg #[.int .i64 x.o.kind, .string (bs x.o.name), x.v, .int .i64 (x.o.cutS : Int), .string (bs x.o.to)]) ?_ ?_ ?_ x ?_ ?_ ?_; exact BO; exact (by decide); exact Qj; exact rfl; exact rfl; exact rfl) (fun _ => rfl)) (fun _ => rfl)⟩) ?_
  refine Ad (by intro u1; exact ⟨rfl, AR.s (Or 3 BO Qj rfl ([x]) (fun w hH => hH.vec 0 rfl Qj) (by simp only [List.length_cons, List.length_nil]; omega) rfl rfl rfl rfl) (fun _ => rfl)⟩) (Aq ?_)
  exact Bv
  intro u1 u2
  refine A5.keep (env' := [(4, .int .i64 0), (18, u2), (20, .pointer (some ⟨p, 3, none⟩))]) ⟨rfl, rfl, rfl, trivial⟩ (Am Ac rfl (Bt (post := fun _ => [Af 106 5 encO u1 ([x]), cell g1 106 #[.int .i64 x.o.kind, .string (bs x.o.name), x.v, .int .i64 (x.o.cutS : Int), .string (bs x.o.to)], cell p 101 #[.int .i64 d.room, .int .i64 (FW d.fuse), .bool false, u2, y.sm, y.sh], Af 106 5 encO u2 (y.W ++ ([x])), B1 y.W, Au y.sm d.syn, Au y.sh (Bf y.g x.o), Af 5 1 encB x.v x.o.data]) rfl rfl (D8 2 3 (v := u2) #[.int .i64 d.room, .int .i64 (FW d.fuse), .bool false, u2, y.sm, y.sh] DB.2 rfl (fun _ h => Af.c1 h) rfl rfl rfl rfl rfl rfl rfl) ?_)); rintro ⟨⟩
  refine Aw (cC [4, 7] Gt ?_)
  refine AK ?_
  exact An (.tmp rfl) (fun w h => As () rfl [3, 4, 0, 5, 6] rfl h (F9 (os := []) (d := B3 d x.o) ⟨u2, y.sm, y.sh, y.W ++ [x], Bf y.g x.o, (by rw [show ED (y.W ++ [x]) = ED y.W ++ [x.o] by simp [ED], y.hW]; rfl), (fun _ => by rw [F4]; exact Sv (y.hg hd) hgn x.o), M4 y.hok ho, y.hf, y.hr, y.hk⟩ hd)) rfl
end Go.Proofs.YtjcfimmcogkopaaGreatDoor.Sep
namespace Go.Proofs.YtjcfimmcogkopaaGreatDoor.Sep
variable {X : Ass} {f f' : FS} {torn : Int} {x : OpV}
open Go.RowKit
open Go.Proofs.YtjcfimmcogkopaaGreatDoor.Mem (AG BC Chg Ak)
theorem OY {p k : Nat} {r1 r2 r3 pv sm sh : Value} {W K : List OpV} (hk : k ≤ W.length) (hW : W.length ≤ 1000000) (hK : W.take k = K) (hok : GR f (ED K)) (hsz : Az f + ((ED K).map OpD.size).sum ≤ 1099511627776) (hf : (ED K).foldl Bf f = f') : AA Tryz.prog 55 #[.pointer (some ⟨p, 0, none⟩), .int .i64 (k : Int)] [cell p 101 #[r1, r2, r3, pv, sm, sh], Af 106 5 encO pv W, B1 W, Au sm f] (fun (_ : Unit) => .tuple #[]) (fun (_ : Unit) => [cell p 101 #[r1, r2, r3, .slice none 0 0, sm, sh], Af 106 5 encO pv W, B1 W, Au sm f']) := by
  refine AP (args := [.pointer (some ⟨p, 0, none⟩), .int .i64 (k : Int)]) 27 Tryz.func55 rfl rfl rfl ?_; intro w rs
  refine AH.fact 3 rfl Bh ?_; rintro hnd
  have hKl : K.length ≤ W.length := by rw [← hK, List.length_take]; omega
  refine AV ?_
  refine Am Ac rfl (Aa rfl (BN 5 pv 0 k) (fun b w hb hH => MP 1 (b := k) BO rfl hk rfl rfl rfl hH hb) (Aa rfl (.int .i64 (K.length : Int)) (fun b w hb hH => AJ (hH.vecq 1 rfl Qj (Nat.zero_le _) hk (m := K) (by simpa using hK)) Tryz.underlying97 rfl rfl hb) (Aq ?_)))
  refine BT (α := Nat) (fun i => [(0, .pointer (some ⟨p, 0, none⟩)), (11, BN 5 pv 0 k), (12, .int .i64 (K.length : Int)), (13, .int .i64 ((i : Nat) : Int))]) (fun i => [cell p 101 #[r1, r2, r3, pv, sm, sh], Af 106 5 encO pv W, B1 W, Au sm (((ED K).take i).foldl Bf f)]) (fun i => i ≤ K.length) (fun i => K.length - i) 0 (Nat.zero_le _) ⟨rfl, rfl, rfl, rfl, trivial⟩ rfl ?_
  rintro i hI
  refine AH.at_ (env' := [(0, .pointer (some ⟨p, 0, none⟩)), (11, BN 5 pv 0 k), (12, .int .i64 (K.length : Int)), (13, .int .i64 ((i : Nat) : Int))]) (rs' := [cell p 101 #[r1, r2, r3, pv, sm, sh], Af 106 5 encO pv W, B1 W, Au sm (((ED K).take i).foldl Bf f)]) ⟨rfl, rfl, rfl, rfl, trivial⟩ rfl ?_
  have hc : i < K.length ∨ K.length ≤ i := by omega
  rcases hc with hi | hi
  obtain ⟨a, ha⟩ : ∃ a, K[i]? = some a := ⟨_, List.getElem?_eq_getElem hi⟩
  have haW : a ∈ W := by rw [← hK] at ha; exact List.mem_of_mem_take (List.mem_of_getElem? ha)
  have hao : (ED K)[i]? = some a.o := by unfold ED; rw [List.getElem?_map, ha]; rfl
  have hsa : Az (((ED K).take i).foldl Bf f) + a.o.size ≤ 1099511627776 := JA hnd hok hao hsz
  refine GK ?_
  refine Am Ac rfl (Aa rfl (AN (BN 5 pv 0 k) (i * 5)) (fun b w hb hH => Dp Qj (hH.vecq 1 rfl Qj (Nat.zero_le _) hk (m := K) (by simpa using hK)) BO (j := i) ha rfl rfl rfl hb) (Aa rfl (.agg (encO a).toArray) (fun b w hb hH => CD Qj (by decide) (hH.vecq 1 rfl Qj (Nat.zero_le _) hk (m := K) (by simpa using hK)) (j := i) ha Cc rfl rfl hb) (K5 ?_))); rintro gc
  refine Aq ?_
  refine Bk 6 1 [⟨.quiet, [none], fun _ => .pointer (some ⟨p, 0, none⟩), []⟩, ⟨.quiet, [none], fun _ => .pointer (some ⟨p, 0, none⟩), [0]⟩, ⟨.quiet, [none], fun _ => .pointer (some ⟨p, 4, none⟩), [1]⟩, ⟨.quiet, [none], fun _ => sm, [2]⟩, ⟨.quiet, [none], fun _ => .agg #[.int .i64 a.o.kind, .string (bs a.o.name), a.v, .int .i64 (a.o.cutS : Int), .string (bs a.o.to)], []⟩, ⟨.actv 0, [some false], fun _ => .tuple #[], [3, 4]⟩] [(0, .pointer (some ⟨p, 0, none⟩)), (11, BN 5 pv 0 k), (12, .int .i64 (K.length : Int)), (13, .int .i64 ((i : Nat) : Int)), (14, .bool true), (15, AN (BN 5 pv 0 k) (i * 5)), (16, .agg (encO a).toArray), (5, .pointer (some ⟨gc, 0, none⟩))] (fun ρ => match ρ with | [r0] => [cell gc 106 #[.int .i64 a.o.kind, .string (bs a.o.name), a.v, .int .i64 (a.o.cutS : Int), .string (bs a.o.to)], cell p 101 #[r1, r2, r3, pv, sm, sh], Af 106 5 encO pv W, B1 W, Dm r0 (fun _ => Au sm (((ED K).take (i + 1)).foldl Bf f)) (Au sm (((ED K).take i).foldl Bf f))] | _ => []) (by kernel_rfl) (by kernel_rfl) ⟨rfl, rfl, rfl, rfl, rfl, rfl, rfl, rfl, trivial⟩ rfl ?_ ?_
  refine Ai ?_
  refine Ai ?_
  refine Ai ?_
  refine Ai ?_
  refine Ad (by intro r0_; exact ⟨rfl, fun b w hH hb => GN rfl rfl (Lj (cs := [.int .i64 a.o.kind, .string (bs a.o.name), a.v, .int .i64 (a.o.cutS : Int), .string (bs a.o.to)]) Cc rfl) (hH.row 0 rfl) hb⟩) (Ad (by exact ⟨rfl, AR.su (AM (os' := fun _ => [cell gc 106 #[.int .i64 a.o.kind, .string (bs a.o.name), a.v, .int .i64 (a.o.cutS : Int), .string (bs a.o.to)], cell p 101 #[r1, r2, r3, pv, sm, sh], Af 106 5 encO pv W, B1 W, Au sm (((ED K).take (i + 1)).foldl Bf f)]) [4, 3] 0 (Ah Tryz.func106 (by kernel_rfl) rfl) (Ut (NL hok hao) (Rz haW) (by omega) (SK hao f).symm) rfl rfl rfl (fun _ => rfl) rfl rfl rfl) rfl⟩) ?_)
  exact Bv
  intro v0_
  refine A5.keep (env' := [(0, .pointer (some ⟨p, 0, none⟩)), (11, BN 5 pv 0 k), (12, .int .i64 (K.length : Int)), (13, .int .i64 ((i : Nat) : Int)), (14, .bool true), (15, AN (BN 5 pv 0 k) (i * 5)), (16, .agg (encO a).toArray), (5, .pointer (some ⟨gc, 0, none⟩)), (17, .pointer (some ⟨p, 0, none⟩)), (18, .pointer (some ⟨p, 0, none⟩)), (19, .pointer (some ⟨p, 4, none⟩)), (20, sm), (21, .agg #[.int .i64 a.o.kind, .string (bs a.o.name), a.v, .int .i64 (a.o.cutS : Int), .string (bs a.o.to)])]) ⟨rfl, rfl, rfl, rfl, rfl, rfl, rfl, rfl, rfl, rfl, rfl, rfl, rfl, trivial⟩ (AK ?_)
  refine lC [0] ?_
  refine Dl (Am Ac rfl (Aa rfl (.int .i64 ((i + 1 : Nat) : Int)) (fun b w hb hH => Ay rfl rfl rfl rfl (by rw [IntWalk.i64_in _ (by omega)]; omega) hb) (Ai ?_)))
  exact Br (i + 1) 0 (by omega) (by show K.length - (i + 1) < K.length - i; omega) ⟨rfl, rfl, rfl, rfl, trivial⟩ rfl
  have he : ((ED K).take i).foldl Bf f = f' := by rw [List.take_of_length_le (by unfold ED; rw [List.length_map]; exact hi)]; exact hf
  refine Al (Am Ac rfl (Aa rfl (.bool false) (fun b w hb hH => DS rfl rfl rfl (Fa (by omega)) hb) (AK ?_)))
  refine B2 (AV ?_)
  rw [he]
  refine Dl (Am Ac rfl (Aa rfl (.pointer (some ⟨p, 0, none⟩)) (fun b w hb hH => by exact Ir rfl rfl hb) (Am Ac rfl (Bt (post := fun _ => [cell p 101 #[r1, r2, r3, .slice none 0 0, sm, sh], Af 106 5 encO pv W, B1 W, Au sm f']) rfl rfl (CW 0 (v := .slice none 0 0) #[r1, r2, r3, .slice none 0 0, sm, sh] DB.2 rfl rfl rfl rfl rfl rfl rfl rfl rfl) ?_)))); rintro ⟨⟩
  refine DU ?_
  exact Dv  (fun w h => As () rfl [0, 1, 2, 3] rfl h DK) rfl
theorem Uv {v : Value} (hX : El X x.v x.o.data) (hd : x.o.data = []) : AA Tryz.prog 56 #[v, .agg (encO x).toArray, .int .i64 torn] [Au v f, X] (fun (_ : Unit) => .tuple #[]) (fun (_ : Unit) => [Au v f, X]) := by
 refine AP (args := [v, .agg (encO x).toArray, .int .i64 torn]) 26 Tryz.func56 rfl rfl rfl ?_; intro w rs
 refine Al (Am Ac rfl (I5 ?_)); rintro g1
 refine AV ?_
 refine Aa rfl (.int .i64 (x.o.data.length : Int)) (fun b w hb hH => AJ ((hH.rd8 2 rfl hX).rd) Tryz.underlying49 rfl rfl hb) (Aa rfl (.bool true) (fun b w hb hH => DS rfl rfl rfl (Vu (by rw [hd]; rfl)) hb) (AV ?_))
 exact JQ  (fun w h => As () rfl [1, 2] rfl h DK) rfl
theorem Uw {v : Value} {n y b1 : List UInt8} {A : Option Addr} {c : Nat} (hX : El X (.slice A y.length c) y) (hl : Az f + y.length ≤ 1099511627776) (hy : y ≠ []) (ht : (torn % (y.length : Int)).toNat = b1.length) (hb1 : y.take b1.length = b1) (h : Ga f (.app n y) torn = f') : AA Tryz.prog 56 #[v, .agg #[.int .i64 0, .string (bs n), .slice A y.length c, .int .i64 0, .string (bs ([]))], .int .i64 torn] [Au v f, X] (fun (_ : Unit) => .tuple #[]) (fun (_ : Unit) => [Au v f', X]) := by
  have h_ := h
  have hb0 : 0 < y.length := List.length_pos_iff.2 hy
  have h1 := Int.emod_nonneg torn (show (y.length : Int) ≠ 0 by omega)
  have h2 := Int.emod_lt_of_pos torn (show 0 < (y.length : Int) by omega)
  have hX1 : El X (.slice A b1.length c) b1 := fun rs w ha hb => by
    have := (hX rs w ha hb).takes (k := b1.length) (by omega)
    rwa [hb1] at this
  have hsub : BN 1 (.slice A y.length c) 0 b1.length = .slice A b1.length c := Rq
  unfold Ga at h_
  simp only [ht, hy, or_false, hb1] at h_
  refine AP (args := [v, .agg #[.int .i64 0, .string (bs n), .slice A y.length c, .int .i64 0, .string (bs ([]))], .int .i64 torn]) 26 Tryz.func56 rfl rfl rfl ?_; intro w rs
  refine Al (Am Ac rfl (I5 ?_)); rintro g1
  refine AV ?_
  refine Aa rfl (.int .i64 (y.length : Int)) (fun b w hb hH => AJ ((hH.rd8 2 rfl hX).rd) Tryz.underlying49 rfl rfl hb) (Ce ?_)
  refine Bk 9 1 [⟨.quiet, [none], fun _ => .pointer (some ⟨g1, 2, none⟩), []⟩, ⟨.quiet, [none], fun _ => .slice A y.length c, [0]⟩, ⟨.quiet, [none], fun _ => .int .i64 torn, []⟩, ⟨.quiet, [none], fun _ => .pointer (some ⟨g1, 2, none⟩), []⟩, ⟨.quiet, [none], fun _ => .slice A y.length c, [3]⟩, ⟨.quiet, [none], fun _ => .int .i64 (y.length : Int), [4]⟩, ⟨.actv 0, [some false], fun _ => .int .i64 (b1.length : Int), [2, 5]⟩, ⟨.quiet, [some true], fun _ => .slice A b1.length c, [1, 6]⟩, ⟨.quiet, [some true], fun _ => .pointer (some ⟨g1, 2, none⟩), []⟩] [(0, v), (2, .int .i64 torn), (4, .pointer (some ⟨g1, 0, none⟩))] (fun ρ => match ρ with | [r0] => [cell g1 106 #[.int .i64 0, .string (bs n), .slice A y.length c, .int .i64 0, .string (bs ([]))], Au v f, X] | _ => []) (by kernel_rfl) (by kernel_rfl) ⟨rfl, rfl, rfl, trivial⟩ rfl ?_ ?_
  refine Ai ?_
  refine Ai ?_
  refine Ai ?_
  refine Ai ?_
  refine Ai ?_
  refine Ad (by intro r0_; exact ⟨rfl, fun b w hH hb => AJ ((hH.rd8 2 rfl hX).rd) Tryz.underlying49 rfl rfl hb⟩) (Ad (by exact ⟨rfl, AR.su (Da (Ah Tryz.func54 (by kernel_rfl) rfl) (fun w hH => L9 w torn (y.length : Int) (b1.length : Int) (by omega) (by omega) (by omega)) rfl rfl rfl) rfl⟩) (Ad (by intro v0_; exact ⟨rfl, fun b w hH hb => Fq (j := b1.length) AL hsub (Nat.le_trans (by omega) (Le (A := A) (n := y.length) (c := c) (hH.rd8 2 rfl hX))) rfl rfl rfl hH hb⟩) (Ai ?_)))
  exact Bv
  intro v0_
  refine A5.keep (env' := [(0, v), (4, .pointer (some ⟨g1, 0, none⟩)), (17, .slice A b1.length c), (18, .pointer (some ⟨g1, 2, none⟩))]) ⟨rfl, rfl, rfl, rfl, trivial⟩ (Am Ac rfl (Bt (post := fun _ => [cell g1 106 #[.int .i64 0, .string (bs n), .slice A b1.length c, .int .i64 0, .string (bs ([]))], Au v f, X]) rfl rfl (CW 0 (v := .slice A b1.length c) #[.int .i64 0, .string (bs n), .slice A b1.length c, .int .i64 0, .string (bs ([]))] GQ.2 rfl rfl rfl rfl rfl rfl rfl rfl rfl) ?_)); rintro ⟨⟩
  refine Aw ?_
  rcases Nat.eq_zero_or_pos b1.length with h0 | h0
  rw [if_pos h0] at h_
  subst h_
  refine Aq ?_
  refine Aa rfl (.int .i64 (b1.length : Int)) (fun b w hb hH => AJ ((hH.rd8 2 rfl hX1).rd) Tryz.underlying49 rfl rfl hb) (AV ?_)
  exact Dv  (fun w h => As () rfl [1, 2] rfl h DK) rfl
  rw [if_neg (by omega)] at h_
  refine Aq ?_
  refine Aa rfl (.int .i64 (b1.length : Int)) (fun b w hb hH => AJ ((hH.rd8 2 rfl hX1).rd) Tryz.underlying49 rfl rfl hb) (BD ?_)
  refine CE [1, 2] (Us hX1 (by omega) h_) ?_
  refine DU ?_
  exact Dv  (fun w h => As () rfl [1, 2] rfl h DK) rfl
theorem Ux {v : Value} (hX : El X x.v x.o.data) (hl : Az f + x.o.size ≤ 1099511627776) (h : Ga f x.o torn = f') : AA Tryz.prog 56 #[v, .agg (encO x).toArray, .int .i64 torn] [Au v f, X] (fun _ : Unit => .tuple #[]) (fun _ => [Au v f', X]) := by
  by_cases hd : x.o.data = []
  · rw [Uo hd] at h
    subst h
    exact Uv hX hd
  · obtain ⟨o, A, c⟩ := x
    cases o with
    | app n b =>
      have hb : b ≠ [] := hd
      have h0 : 0 < b.length := List.length_pos_iff.2 hb
      have h1 := Int.emod_nonneg torn (show (b.length : Int) ≠ 0 by omega)
      have h2 := Int.emod_lt_of_pos torn (show 0 < (b.length : Int) by omega)
      have h3 : (b.take (torn % (b.length : Int)).toNat).length = (torn % (b.length : Int)).toNat := by rw [List.length_take]; omega
      exact Uw (b1 := b.take (torn % (b.length : Int)).toNat) hX hl hb h3.symm (congrArg (fun k => b.take k) h3) h
    | cut n s => exact absurd rfl hd
    | ren a b => exact absurd rfl hd
    | del n => exact absurd rfl hd
theorem OZ {v : Value} (hl : Az f ≤ 1099511627776) : AA Tryz.prog 57 #[v] [Au v f] (fun (x : { q : Nat × FS // q.2.Perm f }) => .map (some x.1.1)) (fun (x : { q : Nat × FS // q.2.Perm f }) => [Au v f, Au (.map (some x.1.1)) x.1.2]) := by
 refine AP (args := [v]) 21 Tryz.func57 rfl rfl rfl ?_; intro w rs
 refine AH.fact 0 rfl Bh ?_; rintro hnd
 refine oC 0 FC ?_; rintro ⟨L, hL⟩
 subst hL
 refine AK ?_
 refine Am Ac rfl (Aa rfl (.int .i64 (L.length : Int)) (fun b w hb hH => P3 0 Tryz.underlying99 rfl rfl rfl hH hb) (AQ (post := fun gc => [Bn encKey AD (.map (some gc)) ([]), Bn encKey AD v L, Bc L]) rfl (Uq (kk := encKey) (vv := AD) Tryz.underlying99 rfl rfl) ?_)); rintro gc
 refine Aq ?_
 refine Hx (t := Bc ([])) (C0) (Al (Am Ac rfl (AQ (post := fun g1 => [Bc ([]), Bn encKey AD (.map (some gc)) ([]), Ij encKey AD v (.pointer (some ⟨g1, 0, none⟩)) L L none, Bc L]) rfl (Rl 2 Tryz.underlying99 rfl rfl rfl) ?_))); rintro g1
 refine Aq ?_
 refine BT (α := FilL × FilL × Option (List UInt8 × PtT)) (fun ⟨left, done, cur⟩ => [(2, .map none), (3, .map (some gc)), (10, .pointer (some ⟨g1, 0, none⟩))]) (fun ⟨left, done, cur⟩ => [Bc done, Bn encKey AD (.map (some gc)) done, Ij encKey AD v (.pointer (some ⟨g1, 0, none⟩)) L left cur, Bc L]) (fun ⟨left, done, cur⟩ => (BM done ++ BM left).Perm (BM L) ∧ ∀ p, p ∈ left → p ∈ L) (fun ⟨left, done, cur⟩ => left.length) (L, [], none) ⟨.refl _, fun _ h => h⟩ ⟨rfl, rfl, rfl, trivial⟩ rfl ?_
 rintro ⟨left, done, cur⟩ hI
 refine AH.at_ (env' := [(2, .map none), (3, .map (some gc)), (10, .pointer (some ⟨g1, 0, none⟩))]) (rs' := [Bc done, Bn encKey AD (.map (some gc)) done, Ij encKey AD v (.pointer (some ⟨g1, 0, none⟩)) L left cur, Bc L]) ⟨rfl, rfl, rfl, trivial⟩ rfl ?_
 rcases Classical.em (left = []) with hc | hc
 have hp : (BM done).Perm (BM L) := by have := hI.1; rw [hc] at this; simpa [BM] using this
 refine Al (Am Ac rfl (Aa rfl (.tuple #[.bool false]) (fun b w hb hH => Rm 2 rfl hc rfl rfl hH hb) (AK ?_)))
 refine B2 (AV ?_)
 refine oC 2 MT ?_; rintro ⟨⟩
 refine lC [1] ?_
 refine AK ?_
 exact An (.tmp rfl) (fun w h => As (X := { q : Nat × FS // q.2.Perm (BM L) }) ⟨(gc, BM done), hp⟩ rfl [0, 3, 2, 1] rfl h (OW rfl)) rfl
 refine Al (Am Ac rfl (AQ (post := fun q : { q : Nat × List UInt8 × PtT // (left)[q.1]? = some q.2 } => [Bc done, Bn encKey AD (.map (some gc)) done, Ij encKey AD v (.pointer (some ⟨g1, 0, none⟩)) L (left.eraseIdx q.1.1) (some (q.1.2.1, q.1.2.2)), Bc L]) rfl (Rn 2 rfl hc rfl rfl) ?_)); rintro q
 refine Ce ?_
 have hqm : q.1.2 ∈ L := hI.2 _ (List.mem_of_getElem? q.2)
 have hqn : EY q.1.2.1 done 0 = none := Qo hnd hI.1 q.2
 have hql : q.1.2.2.2.length ≤ Az (BM L) := L4 hnd ((Bw hnd).2 (List.mem_map.2 ⟨_, hqm, rfl⟩))
 refine Al (Am Ac rfl (Aa rfl (.tuple #[.string (bs q.1.2.1), q.1.2.2.1]) (fun b w hb hH => Ro 2 rfl rfl rfl hH hb) (Aq ?_)))
 refine Am Ac rfl (GI [3] (Ft (Jv hqm) (by omega)) ?_); rintro v9
 refine Bt (post := fun _ => [Af 5 1 encB v9 q.1.2.2.2, Bc done, Bn encKey AD (.map (some gc)) (Bd done q.1.2.1 (v9, q.1.2.2.2)), Ij encKey AD v (.pointer (some ⟨g1, 0, none⟩)) L (left.eraseIdx q.1.1) (some (q.1.2.1, q.1.2.2)), Bc L]) rfl rfl (J3 2 CO rfl q.1.2.1 (v9, q.1.2.2.2) rfl rfl rfl rfl rfl rfl) ?_; rintro ⟨⟩
 refine cL [1, 0] (Rt hqn (v9, q.1.2.2.2)) ?_
 refine Aq ?_
 exact Br (left.eraseIdx q.1.1, Bd done q.1.2.1 (v9, q.1.2.2.2), some (q.1.2.1, q.1.2.2)) 0 ⟨OV hI.1 q.2 hqn, fun p hp => hI.2 p (List.mem_of_mem_eraseIdx hp)⟩ (show (left.eraseIdx q.1.1).length < left.length from LW q.2) ⟨rfl, rfl, rfl, trivial⟩ rfl
end Go.Proofs.YtjcfimmcogkopaaGreatDoor.Sep
