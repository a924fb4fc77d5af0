/-
  DskH · DskI
-/
import Derived.Test.YtjcfimmcogkopaaGreatDoorWX01
import Derived.Test.YtjcfimmcogkopaaGreatDoorWD01
set_option linter.unusedSimpArgs false
set_option linter.unusedVariables false
set_option maxHeartbeats 4000000
set_option maxRecDepth 100000
namespace Go.Proofs.YtjcfimmcogkopaaGreatDoor.Sep
variable {d : DiskD} {p : Nat}
open Go.RowKit
open Go.Proofs.YtjcfimmcogkopaaGreatDoor.Mem (AG BC Chg Ak)
theorem O0 (room : Int) (h : 0 ≤ room ∧ room ≤ 1048576) : AA Tryz.prog 20 #[.int .i64 room] [] (fun (p : Nat) => .tuple #[.pointer (some ⟨p, 0, none⟩), .int .i64 0]) (fun (p : Nat) => [Ab p (K4 room)]) := by
 have h_ := h
 refine AP (args := [.int .i64 room]) 12 Tryz.func20 rfl rfl rfl ?_; intro w rs
 refine AV ?_
 refine Am Ac rfl (FD (fun w hH => Qq w room h) ?_)
 refine AV ?_
 refine Bb 106 5 encO (Hx (t := B1 ([])) (C0) (Hx (t := Bc ([])) (C0) (Hx (t := Bc ([])) (C0) (Al (Am Ac rfl (AQ (post := fun ga => [Bn encKey AD (.map (some ga)) ([]), Bc ([]), Bc ([]), B1 ([]), Af 106 5 encO (.slice none 0 0) ([])]) rfl (Rk (kk := encKey) (vv := AD) rfl rfl) ?_)))))); rintro ga
 refine AQ (post := fun gb => [Bn encKey AD (.map (some gb)) ([]), Bn encKey AD (.map (some ga)) ([]), Bc ([]), Bc ([]), B1 ([]), Af 106 5 encO (.slice none 0 0) ([])]) rfl (Rk (kk := encKey) (vv := AD) rfl rfl) ?_; rintro gb
 refine Aa rfl (.agg #[.int .i64 room, .int .i64 (-1), .bool false, .slice none 0 0, .map (some ga), .map (some gb)]) (fun b w hb hH => AY rfl rfl (by kernel_rfl) hb) (I5 ?_); rintro p
 refine Aq ?_
 exact BJ (.tmp rfl) (.tmp rfl) (fun w h => As p rfl [0, 6, 5, 2, 4, 1, 3] rfl h (Un h_)) rfl
theorem XG {n y : List UInt8}  (hd : d.down = true) : AA Tryz.prog 95 #[.pointer (some ⟨p, 0, none⟩), .string (bs n)] [Ab p d] (fun (v : Value) => .tuple #[v, .bool false]) (fun (v : Value) => [Ab p d, Af 5 1 encB v ([])]) := by
  refine AP (args := [.pointer (some ⟨p, 0, none⟩), .string (bs n)]) 19 Tryz.func95 rfl rfl rfl ?_; intro w rs
  refine oC 0 (RD hd) ?_; rintro x
  refine Bb 5 1 encB (AK ?_)
  refine Ey 1 rfl ?_
  refine Bk 13 2 [⟨.quiet, [none, none], fun _ => .pointer (some ⟨p, 0, none⟩), []⟩, ⟨.quiet, [none, none], fun _ => .pointer (some ⟨p, 0, none⟩), [0]⟩, ⟨.quiet, [none, none], fun _ => .pointer (some ⟨p, 5, none⟩), [1]⟩, ⟨.quiet, [none, none], fun _ => .map none, [2]⟩, ⟨.quiet, [none, none], fun _ => .string (bs n), []⟩, ⟨.quiet, [none, none], fun _ => .slice none 0 0, [3, 4]⟩, ⟨.act 0, [some false, some false], fun _ => undef, [5]⟩, ⟨.quiet, [none, none], fun _ => .pointer (some ⟨p, 0, none⟩), []⟩, ⟨.quiet, [none, none], fun _ => .pointer (some ⟨p, 0, none⟩), [7]⟩, ⟨.quiet, [none, none], fun _ => .pointer (some ⟨p, 5, none⟩), [8]⟩, ⟨.quiet, [none, none], fun _ => .map none, [9]⟩, ⟨.quiet, [none, none], fun _ => .string (bs n), []⟩, ⟨.actv 1, [some true, some false], fun _ => .bool false, [10, 11]⟩] [(0, .pointer (some ⟨p, 0, none⟩)), (1, .string (bs n)), (4, .slice none 0 0), (5, .bool false)] (fun ρ => match ρ with | [r0, r1] => [Dm r0 (fun v9 => Af 5 1 encB v9 ([])) (emp), Af 5 1 encB (.slice none 0 0) ([]), cell p 101 #[.int .i64 d.room, .int .i64 (FW d.fuse), .bool true, x.pv, x.sm, .map none], Af 106 5 encO x.pv x.W, B1 x.W, Au x.sm d.syn] | _ => []) (by kernel_rfl) (by kernel_rfl) ⟨rfl, rfl, rfl, rfl, trivial⟩ rfl ?_ ?_
  refine Ai ?_
  refine Ai ?_
  refine Ai ?_
  refine Ai ?_
  refine Ai ?_
  refine Ad (by intro r0_ r1_; exact ⟨rfl, fun b w hH hb => V2 CO rfl (k := n) rfl rfl hb⟩) (Ad (by exact ⟨rfl, AR.s (AM (os' := fun v9 => [Af 5 1 encB v9 ([]), Af 5 1 encB (.slice none 0 0) ([]), cell p 101 #[.int .i64 d.room, .int .i64 (FW d.fuse), .bool true, x.pv, x.sm, .map none], Af 106 5 encO x.pv x.W, B1 x.W, Au x.sm d.syn]) [1, 0] 1 (Ah Tryz.func78 (by kernel_rfl) rfl) (Ft Dx (by decide)) rfl rfl rfl (fun _ => rfl) rfl rfl rfl) (fun _ => rfl)⟩) (BD ?_))
  refine Ad (by intro v9; exact ⟨rfl, AR.su (AM (os' := fun _ => [Af 5 1 encB v9 ([]), Af 5 1 encB (.slice none 0 0) ([]), cell p 101 #[.int .i64 d.room, .int .i64 (FW d.fuse), .bool true, x.pv, x.sm, .map none], Af 106 5 encO x.pv x.W, B1 x.W, Au x.sm d.syn]) [] 0 (Ah Tryz.func75 (by kernel_rfl) rfl) (V4 n) rfl rfl rfl (fun _ => rfl) rfl rfl rfl) rfl⟩) ?_
  exact Bv
  intro v9 v1_
  refine A5.keep (env' := [(4, .slice none 0 0), (5, .bool false), (12, v9), (18, .bool false)]) ⟨rfl, rfl, rfl, rfl, trivial⟩ (Aq ?_)
  exact BJ (.tmp rfl) (.tmp rfl) (fun w h => As v9 rfl [2, 3, 4, 5, 0] rfl h (L5 ⟨x.pv, x.sm, .map none, x.W, [], x.hW, (fun h => by rw [hd] at h; cases h), x.hok, x.hf, x.hr, x.hk⟩ hd rfl)) rfl
theorem Uy {n y : List UInt8}  (hd : d.down = false) (hg : AW d.now n = none) : AA Tryz.prog 95 #[.pointer (some ⟨p, 0, none⟩), .string (bs n)] [Ab p d] (fun (v : Value) => .tuple #[v, .bool false]) (fun (v : Value) => [Ab p d, Af 5 1 encB v ([])]) := by
  refine AP (args := [.pointer (some ⟨p, 0, none⟩), .string (bs n)]) 19 Tryz.func95 rfl rfl rfl ?_; intro w rs
  refine oC 0 (DH hd) ?_; rintro y
  refine AH.fact 3 rfl Bh ?_; rintro hsn
  refine AH.fact 4 rfl BG ?_; rintro hgn
  have hgL : AW y.L n = none := by rw [IT y.hg hgn] at hg; simpa using hg
  refine Bb 5 1 encB (AK ?_)
  refine Ey 1 rfl ?_
  refine Bk 13 2 [⟨.quiet, [none, none], fun _ => .pointer (some ⟨p, 0, none⟩), []⟩, ⟨.quiet, [none, none], fun _ => .pointer (some ⟨p, 0, none⟩), [0]⟩, ⟨.quiet, [none, none], fun _ => .pointer (some ⟨p, 5, none⟩), [1]⟩, ⟨.quiet, [none, none], fun _ => y.sh, [2]⟩, ⟨.quiet, [none, none], fun _ => .string (bs n), []⟩, ⟨.quiet, [none, none], fun _ => .slice none 0 0, [3, 4]⟩, ⟨.act 0, [some false, some false], fun _ => undef, [5]⟩, ⟨.quiet, [none, none], fun _ => .pointer (some ⟨p, 0, none⟩), []⟩, ⟨.quiet, [none, none], fun _ => .pointer (some ⟨p, 0, none⟩), [7]⟩, ⟨.quiet, [none, none], fun _ => .pointer (some ⟨p, 5, none⟩), [8]⟩, ⟨.quiet, [none, none], fun _ => y.sh, [9]⟩, ⟨.quiet, [none, none], fun _ => .string (bs n), []⟩, ⟨.actv 1, [some true, some false], fun _ => .bool false, [10, 11]⟩] [(0, .pointer (some ⟨p, 0, none⟩)), (1, .string (bs n)), (4, .slice none 0 0), (5, .bool false)] (fun ρ => match ρ with | [r0, r1] => [Dm r0 (fun v9 => Af 5 1 encB v9 ([])) (emp), Af 5 1 encB (.slice none 0 0) ([]), cell p 101 #[.int .i64 d.room, .int .i64 (FW d.fuse), .bool false, y.pv, y.sm, y.sh], Af 106 5 encO y.pv y.W, B1 y.W, Au y.sm d.syn, Bn encKey AD y.sh y.L, Bc y.L] | _ => []) (by kernel_rfl) (by kernel_rfl) ⟨rfl, rfl, rfl, rfl, trivial⟩ rfl ?_ ?_
  refine Ai ?_
  refine Ai ?_
  refine Ai ?_
  refine Ai ?_
  refine Ai ?_
  refine Ad (by intro r0_ r1_; exact ⟨rfl, fun b w hH hb => G9 6 CO rfl (k := n) (r := none) hgL rfl rfl rfl hH hb⟩) (Ad (by exact ⟨rfl, AR.s (AM (os' := fun v9 => [Af 5 1 encB v9 ([]), Af 5 1 encB (.slice none 0 0) ([]), cell p 101 #[.int .i64 d.room, .int .i64 (FW d.fuse), .bool false, y.pv, y.sm, y.sh], Af 106 5 encO y.pv y.W, B1 y.W, Au y.sm d.syn, Bn encKey AD y.sh y.L, Bc y.L]) [1, 0] 1 (Ah Tryz.func78 (by kernel_rfl) rfl) (Ft Dx (by decide)) rfl rfl rfl (fun _ => rfl) rfl rfl rfl) (fun _ => rfl)⟩) (BD ?_))
  refine Ad (by intro v9; exact ⟨rfl, AR.su (AM (os' := fun _ => [Af 5 1 encB v9 ([]), Af 5 1 encB (.slice none 0 0) ([]), cell p 101 #[.int .i64 d.room, .int .i64 (FW d.fuse), .bool false, y.pv, y.sm, y.sh], Af 106 5 encO y.pv y.W, B1 y.W, Au y.sm d.syn, Bn encKey AD y.sh y.L, Bc y.L]) [6] 0 (Ah Tryz.func75 (by kernel_rfl) rfl) (GJ _ _ n _ hgL) rfl rfl rfl (fun _ => rfl) rfl rfl rfl) rfl⟩) ?_
  exact Bv
  intro v9 v1_
  refine A5.keep (env' := [(4, .slice none 0 0), (5, .bool false), (12, v9), (18, .bool false)]) ⟨rfl, rfl, rfl, rfl, trivial⟩ (Aq ?_)
  exact BJ (.tmp rfl) (.tmp rfl) (fun w h => As v9 rfl [2, 3, 4, 5, 6, 7, 0] rfl h (C7 y hd)) rfl
theorem Uz {n y : List UInt8}  (hd : d.down = false) (hfit : d.fit) (hg : AW d.now n = some y) : AA Tryz.prog 95 #[.pointer (some ⟨p, 0, none⟩), .string (bs n)] [Ab p d] (fun (v : Value) => .tuple #[v, .bool true]) (fun (v : Value) => [Ab p d, Af 5 1 encB v y]) := by
  refine AP (args := [.pointer (some ⟨p, 0, none⟩), .string (bs n)]) 19 Tryz.func95 rfl rfl rfl ?_; intro w rs
  refine oC 0 (DH hd) ?_; rintro x
  refine AH.fact 3 rfl Bh ?_; rintro hsn
  refine AH.fact 4 rfl BG ?_; rintro hgn
  obtain ⟨r, hgL, hry⟩ : ∃ r, AW x.L n = some r ∧ r.2 = y := by rw [IT x.hg hgn] at hg; exact Option.map_eq_some_iff.1 hg
  subst hry
  have hm : (n, r) ∈ x.L := (Bw (by rw [Ef] at hgn; exact hgn)).1 hgL
  have hpu : Az (BM x.L) ≤ 1099511627776 := by rw [EC x.hg]; exact NN hfit hsn x.hok
  have hrl : r.2.length ≤ Az (BM x.L) := L4 hgn (by rw [Eg, hgL]; rfl)
  refine AK ?_
  refine Ey 1 rfl ?_
  refine Bk 13 2 [⟨.quiet, [none, none], fun _ => .pointer (some ⟨p, 0, none⟩), []⟩, ⟨.quiet, [none, none], fun _ => .pointer (some ⟨p, 0, none⟩), [0]⟩, ⟨.quiet, [none, none], fun _ => .pointer (some ⟨p, 5, none⟩), [1]⟩, ⟨.quiet, [none, none], fun _ => x.sh, [2]⟩, ⟨.quiet, [none, none], fun _ => .string (bs n), []⟩, ⟨.quiet, [none, none], fun _ => r.1, [3, 4]⟩, ⟨.act 0, [some false, some false], fun _ => undef, [5]⟩, ⟨.quiet, [none, none], fun _ => .pointer (some ⟨p, 0, none⟩), []⟩, ⟨.quiet, [none, none], fun _ => .pointer (some ⟨p, 0, none⟩), [7]⟩, ⟨.quiet, [none, none], fun _ => .pointer (some ⟨p, 5, none⟩), [8]⟩, ⟨.quiet, [none, none], fun _ => x.sh, [9]⟩, ⟨.quiet, [none, none], fun _ => .string (bs n), []⟩, ⟨.actv 1, [some true, some false], fun _ => .bool true, [10, 11]⟩] [(0, .pointer (some ⟨p, 0, none⟩)), (1, .string (bs n)), (4, .slice none 0 0), (5, .bool false)] (fun ρ => match ρ with | [r0, r1] => [Dm r0 (fun v9 => Af 5 1 encB v9 r.2) (emp), cell p 101 #[.int .i64 d.room, .int .i64 (FW d.fuse), .bool false, x.pv, x.sm, x.sh], Af 106 5 encO x.pv x.W, B1 x.W, Au x.sm d.syn, Bn encKey AD x.sh x.L, Bc x.L] | _ => []) (by kernel_rfl) (by kernel_rfl) ⟨rfl, rfl, rfl, rfl, trivial⟩ rfl ?_ ?_
  refine Ai ?_
  refine Ai ?_
  refine Ai ?_
  refine Ai ?_
  refine Ai ?_
  refine Ad (by intro r0_ r1_; exact ⟨rfl, fun b w hH hb => G9 5 CO rfl (k := n) (r := some r) hgL rfl rfl rfl hH hb⟩) (Ad (by exact ⟨rfl, AR.s (AM (os' := fun v9 => [Af 5 1 encB v9 r.2, cell p 101 #[.int .i64 d.room, .int .i64 (FW d.fuse), .bool false, x.pv, x.sm, x.sh], Af 106 5 encO x.pv x.W, B1 x.W, Au x.sm d.syn, Bn encKey AD x.sh x.L, Bc x.L]) [6, 0] 1 (Ah Tryz.func78 (by kernel_rfl) rfl) (Ft (Jv hm) (by show r.2.length ≤ _; omega)) rfl rfl rfl (fun _ => rfl) rfl rfl rfl) (fun _ => rfl)⟩) (BD ?_))
  refine Ad (by intro v9; exact ⟨rfl, AR.su (AM (os' := fun _ => [Af 5 1 encB v9 r.2, cell p 101 #[.int .i64 d.room, .int .i64 (FW d.fuse), .bool false, x.pv, x.sm, x.sh], Af 106 5 encO x.pv x.W, B1 x.W, Au x.sm d.syn, Bn encKey AD x.sh x.L, Bc x.L]) [5] 0 (Ah Tryz.func75 (by kernel_rfl) rfl) (GJ _ _ n _ hgL) rfl rfl rfl (fun _ => rfl) rfl rfl rfl) rfl⟩) ?_
  exact Bv
  intro v9 v1_
  refine A5.keep (env' := [(4, .slice none 0 0), (5, .bool false), (12, v9), (18, .bool true)]) ⟨rfl, rfl, rfl, rfl, trivial⟩ (Aq ?_)
  exact BJ (.tmp rfl) (.tmp rfl) (fun w h => As v9 rfl [1, 2, 3, 4, 5, 6, 0] rfl h (C7 x hd)) rfl
theorem SN {n b : List UInt8} {ok : Bool} (hd : d.fit) (h : (BH d n).isSome = ok) (hb : (BH d n).getD [] = b) : AA Tryz.prog 95 #[.pointer (some ⟨p, 0, none⟩), .string (bs n)] [Ab p d] (fun v : Value => .tuple #[v, .bool ok]) (fun v => [Ab p d, Af 5 1 encB v b]) := by
  subst h hb
  unfold BH
  cases hdn : d.down
  · rw [if_neg (by simp)]
    cases hg : AW d.now n with
    | none => exact Uy (y := []) hdn hg
    | some y => exact Uz hdn hd hg
  · rw [if_pos rfl]
    exact XG (y := []) hdn
end Go.Proofs.YtjcfimmcogkopaaGreatDoor.Sep
namespace Go.Proofs.YtjcfimmcogkopaaGreatDoor.Sep
variable {X : Ass} {d d1 : DiskD} {e p : Nat} {n : List UInt8}
open Go.RowKit
open Go.Proofs.YtjcfimmcogkopaaGreatDoor.Mem (AG BC Chg Ak)
theorem SO {n y : List UInt8} {v : Value} (h : Bz d = (d1, 3)) : AA Tryz.prog 26 #[.pointer (some ⟨p, 0, none⟩), .string (bs n), v] [Ab p d, X] (fun (_ : Unit) => .int .i64 3) (fun (_ : Unit) => [Ab p d1, X]) := by
 refine AP (args := [.pointer (some ⟨p, 0, none⟩), .string (bs n), v]) 48 Tryz.func26 rfl rfl rfl ?_; intro w rs
 refine AV ?_
 refine Am Ac rfl (CE [0] (JB h) ?_)
 refine Ce ?_
 exact An (.tmp rfl) (fun w h => As () rfl [0, 1] rfl h DK) rfl
theorem Qt {n y : List UInt8} {v : Value} (h : Bz d = (d1, 0)) (hn : Dz n = false) : AA Tryz.prog 26 #[.pointer (some ⟨p, 0, none⟩), .string (bs n), v] [Ab p d, X] (fun (_ : Unit) => .int .i64 1) (fun (_ : Unit) => [Ab p d1, X]) := by
 refine AP (args := [.pointer (some ⟨p, 0, none⟩), .string (bs n), v]) 48 Tryz.func26 rfl rfl rfl ?_; intro w rs
 refine AV ?_
 refine Am Ac rfl (CE [0] (Ei h) ?_)
 refine Ce ?_
 refine Am Ac rfl (FD (fun w hH => Qr w n hn) ?_)
 refine Ce ?_
 exact An (.tmp rfl) (fun w h => As () rfl [0, 1] rfl h DK) rfl
theorem O1 {y : List UInt8} {v : Value} (hX : El X v y) (hfit : d.fit) (h : Bz d = (d1, 0)) (hn : Dz n = true) (hy : y.length ≤ 140737488355328) (hf : Iy d1 n y = false) : AA Tryz.prog 26 #[.pointer (some ⟨p, 0, none⟩), .string (bs n), v] [Ab p d, X] (fun (_ : Unit) => .int .i64 2) (fun (_ : Unit) => [Ab p d1, X]) := by
  have hd1 := (Ej h).1
  have hfit1 := D0 h hfit
  refine AP (args := [.pointer (some ⟨p, 0, none⟩), .string (bs n), v]) 48 Tryz.func26 rfl rfl rfl ?_; intro w rs
  refine AV ?_
  refine Am Ac rfl (CE [0] (Ei h) ?_)
  refine Ce ?_
  refine Am Ac rfl (FD (fun w hH => L8 w n hn) ?_)
  refine AV ?_
  refine oC 0 (DH hd1) ?_; rintro x
  refine AH.fact 3 rfl Bh ?_; rintro hsn
  refine AH.fact 4 rfl BG ?_; rintro hgn
  have hr := x.hr
  have hpu : Az (BM x.L) ≤ 1099511627776 := by rw [EC x.hg]; exact NN hfit1 hsn x.hok
  rcases SI x.hg hgn hf with ⟨hlen, hgL⟩ | ⟨hlen, r, hgL⟩ | ⟨hlen, hgL, h64⟩
  refine AK ?_
  refine Am Ac rfl (CE [4] (GJ _ _ n _ hgL) ?_)
  refine AK ?_
  refine Bk 21 1 [⟨.quiet, [none], fun _ => v, []⟩, ⟨.quiet, [none], fun _ => .int .i64 (y.length : Int), [0]⟩, ⟨.quiet, [none], fun _ => .pointer (some ⟨p, 0, none⟩), []⟩, ⟨.quiet, [none], fun _ => .pointer (some ⟨p, 0, none⟩), [2]⟩, ⟨.quiet, [none], fun _ => .pointer (some ⟨p, 0, none⟩), [3]⟩, ⟨.quiet, [none], fun _ => .int .i64 d1.room, [4]⟩, ⟨.quiet, [none], fun _ => .pointer (some ⟨p, 0, none⟩), []⟩, ⟨.actv 0, [some false], fun _ => .int .i64 ((Az (BM x.L) : Nat) : Int), [6]⟩, ⟨.quiet, [some true], fun _ => .int .i64 (d1.room - (Az (BM x.L) : Int)), [5, 7]⟩, ⟨.quiet, [some true], fun _ => .bool true, [1, 8]⟩, ⟨.quiet, [some true], fun _ => .bool true, [9]⟩, ⟨.skip, [some true], fun _ => undef, [10]⟩, ⟨.skip, [some true], fun _ => undef, [11, 10]⟩, ⟨.skip, [some true], fun _ => undef, [12]⟩, ⟨.skip, [some true], fun _ => undef, [13, 12]⟩, ⟨.skip, [some true], fun _ => undef, [14, 12]⟩, ⟨.skip, [some true], fun _ => undef, [15, 12]⟩, ⟨.skip, [some true], fun _ => undef, [16, 12]⟩, ⟨.skip, [some true], fun _ => undef, [17, 12]⟩, ⟨.skip, [some true], fun _ => undef, [12, 18, 10]⟩, ⟨.quiet, [some true], fun _ => .bool true, [10, 19]⟩] [(0, .pointer (some ⟨p, 0, none⟩)), (1, .string (bs n)), (2, v), (6, .int .i64 0), (7, .bool true)] (fun ρ => match ρ with | [r0] => [cell p 101 #[.int .i64 d1.room, .int .i64 (FW d1.fuse), .bool false, x.pv, x.sm, x.sh], Af 106 5 encO x.pv x.W, B1 x.W, Au x.sm d1.syn, Bn encKey AD x.sh x.L, Bc x.L, X] | _ => []) (by kernel_rfl) (by kernel_rfl) ⟨rfl, rfl, rfl, rfl, rfl, trivial⟩ rfl ?_ ?_
  refine Ai ?_
  refine Ad (by intro r0_; exact ⟨rfl, fun b w hH hb => AJ ((hH.rd8 6 rfl hX).rd) Tryz.underlying49 rfl rfl hb⟩) (Ai ?_)
  refine Ai ?_
  refine Ai ?_
  refine Ai ?_
  refine Ai ?_
  refine Ad (by exact ⟨rfl, AR.su (AM (os' := fun _ => [cell p 101 #[.int .i64 d1.room, .int .i64 (FW d1.fuse), .bool false, x.pv, x.sm, x.sh], Af 106 5 encO x.pv x.W, B1 x.W, Au x.sm d1.syn, Bn encKey AD x.sh x.L, Bc x.L, X]) [0, 4, 5] 0 (Ah Tryz.func76 (by kernel_rfl) rfl) (Ma p _ _ _ _ _ _ x.L hpu) rfl rfl rfl (fun _ => rfl) rfl rfl rfl) rfl⟩) (Ad (by intro v0_; exact ⟨rfl, fun b w hH hb => Ay rfl rfl rfl rfl (IntWalk.i64_in _ (by omega)) hb⟩) (Ai ?_))
  refine Ai ?_
  refine Ai ?_
  refine Ai ?_
  refine Ai ?_
  refine Ai ?_
  refine Ai ?_
  refine Ai ?_
  refine Ai ?_
  refine Ai ?_
  refine Ai ?_
  refine Ai ?_
  exact Bv
  intro v0_
  refine A5.keep (env' := [(0, .pointer (some ⟨p, 0, none⟩)), (1, .string (bs n)), (2, v), (6, .int .i64 0), (41, .bool true)]) ⟨rfl, rfl, rfl, rfl, rfl, trivial⟩ (Ce ?_)
  exact An (.tmp rfl) (fun w h => As () rfl [0, 1, 2, 3, 4, 5, 6] rfl h (C7 x hd1)) rfl
  refine Al (Am Ac rfl (Aa rfl (.pointer (some ⟨p, 0, none⟩)) (fun b w hb hH => by exact Ir rfl rfl hb) (Am Ac rfl (Aa rfl (x.sh) (fun b w hb hH => GN rfl rfl (JO EL rfl) (hH.row 0 rfl) hb) (Am Ac rfl (AQ rfl (AM (os' := fun _ => [cell p 101 #[.int .i64 d1.room, .int .i64 (FW d1.fuse), .bool false, x.pv, x.sm, x.sh], Af 106 5 encO x.pv x.W, B1 x.W, Au x.sm d1.syn, Bn encKey AD x.sh x.L, Bc x.L, X]) [4] 0 (Ah Tryz.func75 (by kernel_rfl) rfl) (GJ _ _ n _ hgL) rfl rfl rfl (fun _ => rfl) rfl rfl rfl) ?_)))))); rintro ⟨⟩
  refine AK ?_
  refine Bk 21 1 [⟨.quiet, [none], fun _ => v, []⟩, ⟨.quiet, [none], fun _ => .int .i64 (y.length : Int), [0]⟩, ⟨.quiet, [none], fun _ => .pointer (some ⟨p, 0, none⟩), []⟩, ⟨.quiet, [none], fun _ => .pointer (some ⟨p, 0, none⟩), [2]⟩, ⟨.quiet, [none], fun _ => .pointer (some ⟨p, 0, none⟩), [3]⟩, ⟨.quiet, [none], fun _ => .int .i64 d1.room, [4]⟩, ⟨.quiet, [none], fun _ => .pointer (some ⟨p, 0, none⟩), []⟩, ⟨.actv 0, [some false], fun _ => .int .i64 ((Az (BM x.L) : Nat) : Int), [6]⟩, ⟨.quiet, [some true], fun _ => .int .i64 (d1.room - (Az (BM x.L) : Int)), [5, 7]⟩, ⟨.quiet, [some true], fun _ => .bool true, [1, 8]⟩, ⟨.quiet, [some true], fun _ => .bool true, [9]⟩, ⟨.skip, [some true], fun _ => undef, [10]⟩, ⟨.skip, [some true], fun _ => undef, [11, 10]⟩, ⟨.skip, [some true], fun _ => undef, [12]⟩, ⟨.skip, [some true], fun _ => undef, [13, 12]⟩, ⟨.skip, [some true], fun _ => undef, [14, 12]⟩, ⟨.skip, [some true], fun _ => undef, [15, 12]⟩, ⟨.skip, [some true], fun _ => undef, [16, 12]⟩, ⟨.skip, [some true], fun _ => undef, [17, 12]⟩, ⟨.skip, [some true], fun _ => undef, [12, 18, 10]⟩, ⟨.quiet, [some true], fun _ => .bool true, [10, 19]⟩] [(0, .pointer (some ⟨p, 0, none⟩)), (1, .string (bs n)), (2, v), (6, .int .i64 0), (7, .bool false)] (fun ρ => match ρ with | [r0] => [cell p 101 #[.int .i64 d1.room, .int .i64 (FW d1.fuse), .bool false, x.pv, x.sm, x.sh], Af 106 5 encO x.pv x.W, B1 x.W, Au x.sm d1.syn, Bn encKey AD x.sh x.L, Bc x.L, X] | _ => []) (by kernel_rfl) (by kernel_rfl) ⟨rfl, rfl, rfl, rfl, rfl, trivial⟩ rfl ?_ ?_
  refine Ai ?_
  refine Ad (by intro r0_; exact ⟨rfl, fun b w hH hb => AJ ((hH.rd8 6 rfl hX).rd) Tryz.underlying49 rfl rfl hb⟩) (Ai ?_)
  refine Ai ?_
  refine Ai ?_
  refine Ai ?_
  refine Ai ?_
  refine Ad (by exact ⟨rfl, AR.su (AM (os' := fun _ => [cell p 101 #[.int .i64 d1.room, .int .i64 (FW d1.fuse), .bool false, x.pv, x.sm, x.sh], Af 106 5 encO x.pv x.W, B1 x.W, Au x.sm d1.syn, Bn encKey AD x.sh x.L, Bc x.L, X]) [0, 4, 5] 0 (Ah Tryz.func76 (by kernel_rfl) rfl) (Ma p _ _ _ _ _ _ x.L hpu) rfl rfl rfl (fun _ => rfl) rfl rfl rfl) rfl⟩) (Ad (by intro v0_; exact ⟨rfl, fun b w hH hb => Ay rfl rfl rfl rfl (IntWalk.i64_in _ (by omega)) hb⟩) (Ai ?_))
  refine Ai ?_
  refine Ai ?_
  refine Ai ?_
  refine Ai ?_
  refine Ai ?_
  refine Ai ?_
  refine Ai ?_
  refine Ai ?_
  refine Ai ?_
  refine Ai ?_
  refine Ai ?_
  exact Bv
  intro v0_
  refine A5.keep (env' := [(0, .pointer (some ⟨p, 0, none⟩)), (1, .string (bs n)), (2, v), (6, .int .i64 0), (41, .bool true)]) ⟨rfl, rfl, rfl, rfl, rfl, trivial⟩ (Ce ?_)
  exact An (.tmp rfl) (fun w h => As () rfl [0, 1, 2, 3, 4, 5, 6] rfl h (C7 x hd1)) rfl
  refine Al (Am Ac rfl (Aa rfl (.pointer (some ⟨p, 0, none⟩)) (fun b w hb hH => by exact Ir rfl rfl hb) (Am Ac rfl (Aa rfl (x.sh) (fun b w hb hH => GN rfl rfl (JO EL rfl) (hH.row 0 rfl) hb) (Am Ac rfl (AQ rfl (AM (os' := fun _ => [cell p 101 #[.int .i64 d1.room, .int .i64 (FW d1.fuse), .bool false, x.pv, x.sm, x.sh], Af 106 5 encO x.pv x.W, B1 x.W, Au x.sm d1.syn, Bn encKey AD x.sh x.L, Bc x.L, X]) [4] 0 (Ah Tryz.func75 (by kernel_rfl) rfl) (GJ _ _ n _ hgL) rfl rfl rfl (fun _ => rfl) rfl rfl rfl) ?_)))))); rintro ⟨⟩
  refine AK ?_
  refine Bk 21 1 [⟨.quiet, [none], fun _ => v, []⟩, ⟨.quiet, [none], fun _ => .int .i64 (y.length : Int), [0]⟩, ⟨.quiet, [none], fun _ => .pointer (some ⟨p, 0, none⟩), []⟩, ⟨.quiet, [none], fun _ => .pointer (some ⟨p, 0, none⟩), [2]⟩, ⟨.quiet, [none], fun _ => .pointer (some ⟨p, 0, none⟩), [3]⟩, ⟨.quiet, [none], fun _ => .int .i64 d1.room, [4]⟩, ⟨.quiet, [none], fun _ => .pointer (some ⟨p, 0, none⟩), []⟩, ⟨.actv 0, [some false], fun _ => .int .i64 ((Az (BM x.L) : Nat) : Int), [6]⟩, ⟨.quiet, [some true], fun _ => .int .i64 (d1.room - (Az (BM x.L) : Int)), [5, 7]⟩, ⟨.quiet, [some true], fun _ => .bool false, [1, 8]⟩, ⟨.quiet, [some true], fun _ => .bool false, [9]⟩, ⟨.quiet, [some true], fun _ => .bool true, [10]⟩, ⟨.quiet, [some true], fun _ => .bool true, [11, 10]⟩, ⟨.quiet, [some true], fun _ => .pointer (some ⟨p, 0, none⟩), [12]⟩, ⟨.quiet, [some true], fun _ => .pointer (some ⟨p, 0, none⟩), [13, 12]⟩, ⟨.quiet, [some true], fun _ => .pointer (some ⟨p, 5, none⟩), [14, 12]⟩, ⟨.quiet, [some true], fun _ => x.sh, [15, 12]⟩, ⟨.quiet, [some true], fun _ => .int .i64 (x.L.length : Int), [16, 12]⟩, ⟨.quiet, [some true], fun _ => .bool true, [17, 12]⟩, ⟨.quiet, [some true], fun _ => .bool true, [12, 18, 10]⟩, ⟨.quiet, [some true], fun _ => .bool true, [10, 19]⟩] [(0, .pointer (some ⟨p, 0, none⟩)), (1, .string (bs n)), (2, v), (6, .int .i64 0), (7, .bool true)] (fun ρ => match ρ with | [r0] => [cell p 101 #[.int .i64 d1.room, .int .i64 (FW d1.fuse), .bool false, x.pv, x.sm, x.sh], Af 106 5 encO x.pv x.W, B1 x.W, Au x.sm d1.syn, Bn encKey AD x.sh x.L, Bc x.L, X] | _ => []) (by kernel_rfl) (by kernel_rfl) ⟨rfl, rfl, rfl, rfl, rfl, trivial⟩ rfl ?_ ?_
  refine Ai ?_
  refine Ad (by intro r0_; exact ⟨rfl, fun b w hH hb => AJ ((hH.rd8 6 rfl hX).rd) Tryz.underlying49 rfl rfl hb⟩) (Ai ?_)
  refine Ai ?_
  refine Ai ?_
  refine Ai ?_
  refine Ai ?_
  refine Ad (by exact ⟨rfl, AR.su (AM (os' := fun _ => [cell p 101 #[.int .i64 d1.room, .int .i64 (FW d1.fuse), .bool false, x.pv, x.sm, x.sh], Af 106 5 encO x.pv x.W, B1 x.W, Au x.sm d1.syn, Bn encKey AD x.sh x.L, Bc x.L, X]) [0, 4, 5] 0 (Ah Tryz.func76 (by kernel_rfl) rfl) (Ma p _ _ _ _ _ _ x.L hpu) rfl rfl rfl (fun _ => rfl) rfl rfl rfl) rfl⟩) (Ad (by intro v0_; exact ⟨rfl, fun b w hH hb => Ay rfl rfl rfl rfl (IntWalk.i64_in _ (by omega)) hb⟩) (Ai ?_))
  refine Ai ?_
  refine Ai ?_
  refine Ai ?_
  refine Ai ?_
  refine Ai ?_
  refine Ai ?_
  refine Ai ?_
  refine Ad (by intro v0_; exact ⟨rfl, fun b w hH hb => P3 4 Tryz.underlying99 rfl rfl rfl hH hb⟩) (Ai ?_)
  refine Ai ?_
  refine Ai ?_
  exact Bv
  intro v0_
  refine A5.keep (env' := [(0, .pointer (some ⟨p, 0, none⟩)), (1, .string (bs n)), (2, v), (6, .int .i64 0), (41, .bool true)]) ⟨rfl, rfl, rfl, rfl, rfl, trivial⟩ (Ce ?_)
  exact An (.tmp rfl) (fun w h => As () rfl [0, 1, 2, 3, 4, 5, 6] rfl h (C7 x hd1)) rfl
theorem SP {y : List UInt8} {v : Value} (hX : El X v y) (hfit : d.fit) (h : Bz d = (d1, 0)) (hn : Dz n = true) (hy : y.length ≤ 140737488355328) (hf : Iy d1 n y = true) : AA Tryz.prog 26 #[.pointer (some ⟨p, 0, none⟩), .string (bs n), v] [Ab p d, X] (fun (_ : Unit) => .int .i64 0) (fun (_ : Unit) => [Ab p (B3 d1 (.app n y)), X]) := by
  have hd1 := (Ej h).1
  have hfit1 := D0 h hfit
  refine AP (args := [.pointer (some ⟨p, 0, none⟩), .string (bs n), v]) 48 Tryz.func26 rfl rfl rfl ?_; intro w rs
  refine AV ?_
  refine Am Ac rfl (CE [0] (Ei h) ?_)
  refine Ce ?_
  refine Am Ac rfl (FD (fun w hH => L8 w n hn) ?_)
  refine AV ?_
  refine oC 0 (DH hd1) ?_; rintro x
  refine AH.fact 3 rfl Bh ?_; rintro hsn
  refine AH.fact 4 rfl BG ?_; rintro hgn
  have hr := x.hr
  have hpu : Az (BM x.L) ≤ 1099511627776 := by rw [EC x.hg]; exact NN hfit1 hsn x.hok
  obtain ⟨hlen, hw⟩ := V1 x.hg hgn hf
  have hsz : (OpD.app n y).size ≤ 1048576 := by show y.length ≤ _; omega
  rcases hw with ⟨r, hgL⟩ | ⟨hgL, h64⟩
  refine AK ?_
  refine Am Ac rfl (CE [4] (GJ _ _ n _ hgL) ?_)
  refine AK ?_
  refine Bk 21 1 [⟨.quiet, [none], fun _ => v, []⟩, ⟨.quiet, [none], fun _ => .int .i64 (y.length : Int), [0]⟩, ⟨.quiet, [none], fun _ => .pointer (some ⟨p, 0, none⟩), []⟩, ⟨.quiet, [none], fun _ => .pointer (some ⟨p, 0, none⟩), [2]⟩, ⟨.quiet, [none], fun _ => .pointer (some ⟨p, 0, none⟩), [3]⟩, ⟨.quiet, [none], fun _ => .int .i64 d1.room, [4]⟩, ⟨.quiet, [none], fun _ => .pointer (some ⟨p, 0, none⟩), []⟩, ⟨.actv 0, [some false], fun _ => .int .i64 ((Az (BM x.L) : Nat) : Int), [6]⟩, ⟨.quiet, [some true], fun _ => .int .i64 (d1.room - (Az (BM x.L) : Int)), [5, 7]⟩, ⟨.quiet, [some true], fun _ => .bool false, [1, 8]⟩, ⟨.quiet, [some true], fun _ => .bool false, [9]⟩, ⟨.quiet, [some true], fun _ => .bool false, [10]⟩, ⟨.quiet, [some true], fun _ => .bool false, [11, 10]⟩, ⟨.skip, [some true], fun _ => undef, [12]⟩, ⟨.skip, [some true], fun _ => undef, [13, 12]⟩, ⟨.skip, [some true], fun _ => undef, [14, 12]⟩, ⟨.skip, [some true], fun _ => undef, [15, 12]⟩, ⟨.skip, [some true], fun _ => undef, [16, 12]⟩, ⟨.skip, [some true], fun _ => undef, [17, 12]⟩, ⟨.quiet, [some true], fun _ => .bool false, [12, 18, 10]⟩, ⟨.quiet, [some true], fun _ => .bool false, [10, 19]⟩] [(0, .pointer (some ⟨p, 0, none⟩)), (1, .string (bs n)), (2, v), (6, .int .i64 0), (7, .bool false)] (fun ρ => match ρ with | [r0] => [cell p 101 #[.int .i64 d1.room, .int .i64 (FW d1.fuse), .bool false, x.pv, x.sm, x.sh], Af 106 5 encO x.pv x.W, B1 x.W, Au x.sm d1.syn, Bn encKey AD x.sh x.L, Bc x.L, X] | _ => []) (by kernel_rfl) (by kernel_rfl) ⟨rfl, rfl, rfl, rfl, rfl, trivial⟩ rfl ?_ ?_
  refine Ai ?_
  refine Ad (by intro r0_; exact ⟨rfl, fun b w hH hb => AJ ((hH.rd8 6 rfl hX).rd) Tryz.underlying49 rfl rfl hb⟩) (Ai ?_)
  refine Ai ?_
  refine Ai ?_
  refine Ai ?_
  refine Ai ?_
  refine Ad (by exact ⟨rfl, AR.su (AM (os' := fun _ => [cell p 101 #[.int .i64 d1.room, .int .i64 (FW d1.fuse), .bool false, x.pv, x.sm, x.sh], Af 106 5 encO x.pv x.W, B1 x.W, Au x.sm d1.syn, Bn encKey AD x.sh x.L, Bc x.L, X]) [0, 4, 5] 0 (Ah Tryz.func76 (by kernel_rfl) rfl) (Ma p _ _ _ _ _ _ x.L hpu) rfl rfl rfl (fun _ => rfl) rfl rfl rfl) rfl⟩) (Ad (by intro v0_; exact ⟨rfl, fun b w hH hb => Ay rfl rfl rfl rfl (IntWalk.i64_in _ (by omega)) hb⟩) (Ai ?_))
  refine Ai ?_
  refine Ai ?_
  refine Ai ?_
  refine Ai ?_
  refine Ai ?_
  refine Ai ?_
  refine Ai ?_
  refine Ai ?_
  refine Ai ?_
  refine Ai ?_
  refine Ai ?_
  exact Bv
  intro v0_
  refine A5.keep (env' := [(0, .pointer (some ⟨p, 0, none⟩)), (1, .string (bs n)), (2, v), (6, .int .i64 0), (41, .bool false)]) ⟨rfl, rfl, rfl, rfl, rfl, trivial⟩ (AV ?_)
  refine Gn [0, 1, 2, 3, 4, 5] rfl (Jz x hd1) rfl (Al (Am Ac rfl (GI [1] (Ft hX (by omega)) ?_))); rintro v9
  refine A5.fact 0 rfl (fun _ h => Af.is h) ?_; rintro ⟨A9, c9, rfl⟩
  refine Aa rfl (.agg #[.int .i64 0, .string (bs n), .slice A9 y.length c9, .int .i64 0, .string { data := #[] }]) (fun b w hb hH => AY rfl rfl (by kernel_rfl) hb) (CE [1, 0] (NQ (x := ⟨.app n y, A9, c9⟩) hd1 hfit1 hn hsz) ?_)
  refine lL [0] ?_
  refine Aq ?_
  exact An (.tmp rfl) (fun w h => As () rfl [0, 1] rfl h DK) rfl
  refine AK ?_
  refine Am Ac rfl (CE [4] (GJ _ _ n _ hgL) ?_)
  refine AK ?_
  refine Bk 21 1 [⟨.quiet, [none], fun _ => v, []⟩, ⟨.quiet, [none], fun _ => .int .i64 (y.length : Int), [0]⟩, ⟨.quiet, [none], fun _ => .pointer (some ⟨p, 0, none⟩), []⟩, ⟨.quiet, [none], fun _ => .pointer (some ⟨p, 0, none⟩), [2]⟩, ⟨.quiet, [none], fun _ => .pointer (some ⟨p, 0, none⟩), [3]⟩, ⟨.quiet, [none], fun _ => .int .i64 d1.room, [4]⟩, ⟨.quiet, [none], fun _ => .pointer (some ⟨p, 0, none⟩), []⟩, ⟨.actv 0, [some false], fun _ => .int .i64 ((Az (BM x.L) : Nat) : Int), [6]⟩, ⟨.quiet, [some true], fun _ => .int .i64 (d1.room - (Az (BM x.L) : Int)), [5, 7]⟩, ⟨.quiet, [some true], fun _ => .bool false, [1, 8]⟩, ⟨.quiet, [some true], fun _ => .bool false, [9]⟩, ⟨.quiet, [some true], fun _ => .bool true, [10]⟩, ⟨.quiet, [some true], fun _ => .bool true, [11, 10]⟩, ⟨.quiet, [some true], fun _ => .pointer (some ⟨p, 0, none⟩), [12]⟩, ⟨.quiet, [some true], fun _ => .pointer (some ⟨p, 0, none⟩), [13, 12]⟩, ⟨.quiet, [some true], fun _ => .pointer (some ⟨p, 5, none⟩), [14, 12]⟩, ⟨.quiet, [some true], fun _ => x.sh, [15, 12]⟩, ⟨.quiet, [some true], fun _ => .int .i64 (x.L.length : Int), [16, 12]⟩, ⟨.quiet, [some true], fun _ => .bool false, [17, 12]⟩, ⟨.quiet, [some true], fun _ => .bool false, [12, 18, 10]⟩, ⟨.quiet, [some true], fun _ => .bool false, [10, 19]⟩] [(0, .pointer (some ⟨p, 0, none⟩)), (1, .string (bs n)), (2, v), (6, .int .i64 0), (7, .bool true)] (fun ρ => match ρ with | [r0] => [cell p 101 #[.int .i64 d1.room, .int .i64 (FW d1.fuse), .bool false, x.pv, x.sm, x.sh], Af 106 5 encO x.pv x.W, B1 x.W, Au x.sm d1.syn, Bn encKey AD x.sh x.L, Bc x.L, X] | _ => []) (by kernel_rfl) (by kernel_rfl) ⟨rfl, rfl, rfl, rfl, rfl, trivial⟩ rfl ?_ ?_
  refine Ai ?_
  refine Ad (by intro r0_; exact ⟨rfl, fun b w hH hb => AJ ((hH.rd8 6 rfl hX).rd) Tryz.underlying49 rfl rfl hb⟩) (Ai ?_)
  refine Ai ?_
  refine Ai ?_
  refine Ai ?_
  refine Ai ?_
  refine Ad (by exact ⟨rfl, AR.su (AM (os' := fun _ => [cell p 101 #[.int .i64 d1.room, .int .i64 (FW d1.fuse), .bool false, x.pv, x.sm, x.sh], Af 106 5 encO x.pv x.W, B1 x.W, Au x.sm d1.syn, Bn encKey AD x.sh x.L, Bc x.L, X]) [0, 4, 5] 0 (Ah Tryz.func76 (by kernel_rfl) rfl) (Ma p _ _ _ _ _ _ x.L hpu) rfl rfl rfl (fun _ => rfl) rfl rfl rfl) rfl⟩) (Ad (by intro v0_; exact ⟨rfl, fun b w hH hb => Ay rfl rfl rfl rfl (IntWalk.i64_in _ (by omega)) hb⟩) (Ai ?_))
  refine Ai ?_
  refine Ai ?_
  refine Ai ?_
  refine Ai ?_
  refine Ai ?_
  refine Ai ?_
  refine Ai ?_
  refine Ad (by intro v0_; exact ⟨rfl, fun b w hH hb => P3 4 Tryz.underlying99 rfl rfl rfl hH hb⟩) (Ai ?_)
  refine Ai ?_
  refine Ai ?_
  exact Bv
  intro v0_
  refine A5.keep (env' := [(0, .pointer (some ⟨p, 0, none⟩)), (1, .string (bs n)), (2, v), (6, .int .i64 0), (41, .bool false)]) ⟨rfl, rfl, rfl, rfl, rfl, trivial⟩ (AV ?_)
  refine Gn [0, 1, 2, 3, 4, 5] rfl (Jz x hd1) rfl (Al (Am Ac rfl (GI [1] (Ft hX (by omega)) ?_))); rintro v9
  refine A5.fact 0 rfl (fun _ h => Af.is h) ?_; rintro ⟨A9, c9, rfl⟩
  refine Aa rfl (.agg #[.int .i64 0, .string (bs n), .slice A9 y.length c9, .int .i64 0, .string { data := #[] }]) (fun b w hb hH => AY rfl rfl (by kernel_rfl) hb) (CE [1, 0] (NQ (x := ⟨.app n y, A9, c9⟩) hd1 hfit1 hn hsz) ?_)
  refine lL [0] ?_
  refine Aq ?_
  exact An (.tmp rfl) (fun w h => As () rfl [0, 1] rfl h DK) rfl
theorem NR {d' : DiskD} {b : List UInt8} {v : Value} (hd : d.fit) (hb : b.length ≤ 140737488355328) (hX : El X v b) (h : BU d n b = (d', e)) : AA Tryz.prog 26 #[.pointer (some ⟨p, 0, none⟩), .string (bs n), v] [Ab p d, X] (fun _ : Unit => .int .i64 (e : Int)) (fun _ => [Ab p d', X]) := by
  unfold BU at h
  obtain ⟨d1, e1, h1⟩ : ∃ d1 e1, Bz d = (d1, e1) := ⟨_, _, rfl⟩
  have h01 := JC d
  rw [h1] at h h01
  simp only at h h01
  rcases h01 with rfl | rfl
  · rw [if_pos (by decide)] at h
    cases h
    exact SO (y := b) h1
  · rw [if_neg (by decide)] at h
    cases hn : Dz n
    · rw [hn, if_pos rfl] at h
      cases h
      exact Qt (y := b) h1 hn
    · rw [hn, if_neg (by decide)] at h
      cases hf : Iy d1 n b
      · rw [hf, if_pos rfl] at h
        cases h
        exact O1 hX hd h1 hn hb hf
      · rw [hf, if_neg (by decide)] at h
        cases h
        exact SP hX hd h1 hn hb hf
theorem KI {d' : DiskD} {b : List UInt8} {v : Value} (hd : d.fit) (hb : b.length ≤ 140737488351232) (hX : El X v b) (h : BU d n b = (d', e)) : AA Tryz.prog 26 #[.pointer (some ⟨p, 0, none⟩), .string (bs n), v] [Ab p d, X] (fun _ : Unit => .int .i64 (e : Int)) (fun _ => [Ab p d', X]) := NR hd (by omega) hX h
end Go.Proofs.YtjcfimmcogkopaaGreatDoor.Sep
