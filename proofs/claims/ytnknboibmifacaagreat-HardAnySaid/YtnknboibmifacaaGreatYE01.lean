/-
  DskH · DskI
-/
import Derived.Test.YtnknboibmifacaaGreatYD01
set_option linter.unusedSimpArgs false
set_option linter.unusedVariables false
set_option maxRecDepth 100000
namespace Go.Proofs.YtnknboibmifacaaGreat.Sep
open Go.RowKit
open Go.Proofs.YtnknboibmifacaaGreat.Mem (Bd Cj Chg AF)
theorem Nz (room : Int) (h : 0 ≤ room ∧ room ≤ 1048576) : AS Tryz.prog 20 #[.int .i64 room] [] (fun (p : Nat) => .tuple #[.pointer (some ⟨p, 0, none⟩), .int .i64 0]) (fun (p : Nat) => [Ap p (HU room)]) := by
 have h_ := h
 refine A6 (args := [.int .i64 room]) 12 Tryz.func20 rfl rfl rfl ?_; intro w rs
 refine Ad ?_
 refine Af Aj rfl ?_
 refine Ab (Aq (Ad ?_))
 refine Af Aj rfl ?_
 refine Ai (post := fun _ => []) rfl (BQ (Ah Tryz.func55 (by kernel_rfl) rfl) (fun w hH => OX w room h) rfl rfl rfl) ?_; rintro ⟨⟩
 refine Af Aj rfl ?_
 refine Ab (Au rfl (Ax (AG ?_)))
 refine BZ 99 5 encO ?_
 refine HF (t := BF ([])) (EB) ?_
 refine HF (t := Bn ([])) (EB) ?_
 refine HF (t := Bn ([])) (EB) ?_
 refine Ad ?_
 refine Af Aj rfl ?_
 refine Ai (post := fun ga => [By encKey AH (.map (some ga)) ([]), Bn ([]), Bn ([]), BF ([]), Ao 99 5 encO (.slice none 0 0) ([])]) rfl (PT (kk := encKey) (vv := AH) rfl rfl) ?_; rintro ga
 refine Ai (post := fun gb => [By encKey AH (.map (some gb)) ([]), By encKey AH (.map (some ga)) ([]), Bn ([]), Bn ([]), BF ([]), Ao 99 5 encO (.slice none 0 0) ([])]) rfl (PT (kk := encKey) (vv := AH) rfl rfl) ?_; rintro gb
 refine Ac rfl (.agg #[.int .i64 room, .int .i64 (-1), .bool false, .slice none 0 0, .map (some ga), .map (some gb)]) (fun b w hb hH => AV rfl rfl (by kernel_rfl) hb) ?_
 refine Ai (post := fun p => [cell p 67 #[.int .i64 room, .int .i64 (-1), .bool false, .slice none 0 0, .map (some ga), .map (some gb)], By encKey AH (.map (some gb)) ([]), By encKey AH (.map (some ga)) ([]), Bn ([]), Bn ([]), BF ([]), Ao 99 5 encO (.slice none 0 0) ([])]) rfl (CZ (cs := #[.int .i64 room, .int .i64 (-1), .bool false, .slice none 0 0, .map (some ga), .map (some gb)]) rfl rfl rfl) ?_; rintro p
 refine Af Aj rfl ?_
 refine Ab (Az ?_)
 exact BX (.tmp rfl) (.tmp rfl) (fun w h => AB p rfl [0, 6, 5, 2, 4, 1, 3] rfl h (SB h_)) rfl
theorem IN {p : Nat} {d : DiskD} {n : Nat} (h : d.wait.length = n) : AS Tryz.prog 52 #[.pointer (some ⟨p, 0, none⟩)] [Ap p d] (fun (_ : Unit) => .int .i64 (n : Int)) (fun (_ : Unit) => [Ap p d]) := by
 refine A6 (args := [.pointer (some ⟨p, 0, none⟩)]) 8 Tryz.func52 rfl rfl rfl ?_; intro w rs
 refine AY 0 rfl Jo (fun _ => rfl) ?_; rintro x
 have hn : x.W.length = n := (J4 x).trans h
 refine Ad ?_
 refine Af Aj rfl ?_
 refine Ab (Ad ?_)
 refine Af Aj rfl ?_
 refine Ac rfl (.pointer (some ⟨p, 0, none⟩)) (fun b w hb hH => by exact BO rfl rfl hb) ?_
 refine Af Aj rfl ?_
 refine Ac rfl (x.pv) (fun b w hb hH => Bg rfl rfl (Bt BP rfl) (hH.row 0 rfl) hb) ?_
 refine Ac rfl (.int .i64 (x.W.length : Int)) (fun b w hb hH => C2 1 Tryz.underlying63 rfl rfl rfl hH hb) ?_
 refine Af Aj rfl ?_
 refine Ab (Az ?_)
 exact Ay (.tmp rfl) (fun w h => AB () (by rw [hn]) [0, 1, 2, 3, 4] rfl h (LE (os := []) x)) rfl
theorem LH {p : Nat} {d : DiskD} {b : Bool} (h : d.down = b) : AS Tryz.prog 53 #[.pointer (some ⟨p, 0, none⟩)] [Ap p d] (fun (_ : Unit) => .bool b) (fun (_ : Unit) => [Ap p d]) := by
 refine A6 (args := [.pointer (some ⟨p, 0, none⟩)]) 7 Tryz.func53 rfl rfl rfl ?_; intro w rs
 subst h
 refine AY 0 rfl Jo (fun _ => rfl) ?_; rintro x
 refine Ad ?_
 refine Af Aj rfl ?_
 refine Ab (Ad ?_)
 refine Af Aj rfl ?_
 refine Ac rfl (.pointer (some ⟨p, 0, none⟩)) (fun b w hb hH => by exact BO rfl rfl hb) ?_
 refine Af Aj rfl ?_
 refine Ac rfl (.bool d.down) (fun b w hb hH => Bg rfl rfl (Bt BN rfl) (hH.row 0 rfl) hb) ?_
 refine Af Aj rfl ?_
 refine Ab (Az ?_)
 exact Ay (.tmp rfl) (fun w h => AB () rfl [0, 1, 2, 3, 4] rfl h (LE (os := []) x)) rfl
theorem Vf {p : Nat} {d : DiskD} {n y : List UInt8}  (hd : d.down = true) : AS Tryz.prog 32 #[.pointer (some ⟨p, 0, none⟩), .string (bs n)] [Ap p d] (fun (v : Value) => .tuple #[v, .bool false]) (fun (v : Value) => [Ap p d, Ao 5 1 encB v ([])]) := by
  refine A6 (args := [.pointer (some ⟨p, 0, none⟩), .string (bs n)]) 19 Tryz.func32 rfl rfl rfl ?_; intro w rs
  refine AY 0 rfl (J3 hd) (fun _ => rfl) ?_; rintro x
  refine BZ 5 1 encB ?_
  refine Ad ?_
  refine Af Aj rfl ?_
  refine Ab (Aq ?_)
  refine EL 1 rfl ?_
  refine BM 13 2 [⟨.quiet, [none, none], fun _ => .pointer (some ⟨p, 0, none⟩), []⟩, ⟨.quiet, [none, none], fun _ => .pointer (some ⟨p, 0, none⟩), [0]⟩, ⟨.quiet, [none, none], fun _ => .pointer (some ⟨p, 5, none⟩), [1]⟩, ⟨.quiet, [none, none], fun _ => .map none, [2]⟩, ⟨.quiet, [none, none], fun _ => .string (bs n), []⟩, ⟨.quiet, [none, none], fun _ => .slice none 0 0, [3, 4]⟩, ⟨.act 0, [some false, some false], fun _ => undef, [5]⟩, ⟨.quiet, [none, none], fun _ => .pointer (some ⟨p, 0, none⟩), []⟩, ⟨.quiet, [none, none], fun _ => .pointer (some ⟨p, 0, none⟩), [7]⟩, ⟨.quiet, [none, none], fun _ => .pointer (some ⟨p, 5, none⟩), [8]⟩, ⟨.quiet, [none, none], fun _ => .map none, [9]⟩, ⟨.quiet, [none, none], fun _ => .string (bs n), []⟩, ⟨.actv 1, [some true, some false], fun _ => .bool false, [10, 11]⟩] [(0, .pointer (some ⟨p, 0, none⟩)), (1, .string (bs n)), (4, .slice none 0 0), (5, .bool false)] (fun ρ => match ρ with | [r0, r1] => [CP r0 (fun v9 => Ao 5 1 encB v9 ([])) (E0), Ao 5 1 encB (.slice none 0 0) ([]), cell p 67 #[.int .i64 d.room, .int .i64 (CV d.fuse), .bool true, x.pv, x.sm, .map none], Ao 99 5 encO x.pv x.W, BF x.W, Av x.sm d.syn] | _ => []) (by kernel_rfl) (by kernel_rfl) ⟨rfl, rfl, rfl, rfl, trivial⟩ rfl ?_ ?_
  · skip
    refine Aa (by intro r0_ r1_; exact ⟨rfl, fun b w hH hb => Ae Aj rfl hb⟩) ?_
    refine Aa (by intro r0_ r1_; exact ⟨rfl, fun b w hH hb => by exact BO rfl rfl hb⟩) ?_
    refine Aa (by intro r0_ r1_; exact ⟨rfl, fun b w hH hb => Ae Aj rfl hb⟩) ?_
    refine Aa (by intro r0_ r1_; exact ⟨rfl, fun b w hH hb => Bg rfl rfl (Bt AJ rfl) (hH.row 2 rfl) hb⟩) ?_
    refine Aa (by intro r0_ r1_; exact ⟨rfl, fun b w hH hb => Ae Aj rfl hb⟩) ?_
    refine Aa (by intro r0_ r1_; exact ⟨rfl, fun b w hH hb => Ud CU rfl (k := n) rfl rfl hb⟩) ?_
    refine Aa (by exact ⟨rfl, Br.s (Am (os' := fun v9 => [Ao 5 1 encB v9 ([]), Ao 5 1 encB (.slice none 0 0) ([]), cell p 67 #[.int .i64 d.room, .int .i64 (CV d.fuse), .bool true, x.pv, x.sm, .map none], Ao 99 5 encO x.pv x.W, BF x.W, Av x.sm d.syn]) [1, 0] 1 (Ah Tryz.func59 (by kernel_rfl) rfl) (Fx CQ (by decide)) rfl rfl rfl (fun _ => rfl) rfl rfl rfl) (fun _ => rfl)⟩) ?_
    refine Aa (by intro r0_ r1_; exact ⟨rfl, fun b w hH hb => Ae Aj rfl hb⟩) ?_
    refine Aa (by intro r0_ r1_; exact ⟨rfl, fun b w hH hb => by exact BO rfl rfl hb⟩) ?_
    refine Aa (by intro r0_ r1_; exact ⟨rfl, fun b w hH hb => Ae Aj rfl hb⟩) ?_
    refine Aa (by intro r0_ r1_; exact ⟨rfl, fun b w hH hb => Bg rfl rfl (Bt AJ rfl) (hH.row 2 rfl) hb⟩) ?_
    refine Aa (by intro r0_ r1_; exact ⟨rfl, fun b w hH hb => Ae Aj rfl hb⟩) ?_
    refine Aa (by intro v9; exact ⟨rfl, Br.su (Am (os' := fun _ => [Ao 5 1 encB v9 ([]), Ao 5 1 encB (.slice none 0 0) ([]), cell p 67 #[.int .i64 d.room, .int .i64 (CV d.fuse), .bool true, x.pv, x.sm, .map none], Ao 99 5 encO x.pv x.W, BF x.W, Av x.sm d.syn]) [] 0 (Ah Tryz.func57 (by kernel_rfl) rfl) (Uf n) rfl rfl rfl (fun _ => rfl) rfl rfl rfl) rfl⟩) ?_
    exact B7
  intro v9 v1_
  refine Ch.keep (env' := [(4, .slice none 0 0), (5, .bool false), (12, v9), (18, .bool false)]) ⟨rfl, rfl, rfl, rfl, trivial⟩ ?_
  refine Af Aj rfl ?_
  refine AP (AG (Az ?_))
  exact BX (.tmp rfl) (.tmp rfl) (fun w h => AB v9 rfl [2, 3, 4, 5, 0] rfl h (IL ⟨x.pv, x.sm, .map none, x.W, [], x.hW, (fun h => by rw [hd] at h; cases h), x.hok, x.hf, x.hr, x.hk⟩ hd rfl)) rfl
theorem SL {p : Nat} {d : DiskD} {n y : List UInt8}  (hd : d.down = false) (hg : AL d.now n = none) : AS Tryz.prog 32 #[.pointer (some ⟨p, 0, none⟩), .string (bs n)] [Ap p d] (fun (v : Value) => .tuple #[v, .bool false]) (fun (v : Value) => [Ap p d, Ao 5 1 encB v ([])]) := by
  refine A6 (args := [.pointer (some ⟨p, 0, none⟩), .string (bs n)]) 19 Tryz.func32 rfl rfl rfl ?_; intro w rs
  refine AY 0 rfl (CW hd) (fun _ => rfl) ?_; rintro y
  refine Bo.fact 3 rfl Bx ?_; rintro hsn
  refine Bo.fact 4 rfl BK ?_; rintro hgn
  have hgL : AL y.L n = none := by rw [F2 y.hg hgn] at hg; simpa using hg
  refine BZ 5 1 encB ?_
  refine Ad ?_
  refine Af Aj rfl ?_
  refine Ab (Aq ?_)
  refine EL 1 rfl ?_
  refine BM 13 2 [⟨.quiet, [none, none], fun _ => .pointer (some ⟨p, 0, none⟩), []⟩, ⟨.quiet, [none, none], fun _ => .pointer (some ⟨p, 0, none⟩), [0]⟩, ⟨.quiet, [none, none], fun _ => .pointer (some ⟨p, 5, none⟩), [1]⟩, ⟨.quiet, [none, none], fun _ => y.sh, [2]⟩, ⟨.quiet, [none, none], fun _ => .string (bs n), []⟩, ⟨.quiet, [none, none], fun _ => .slice none 0 0, [3, 4]⟩, ⟨.act 0, [some false, some false], fun _ => undef, [5]⟩, ⟨.quiet, [none, none], fun _ => .pointer (some ⟨p, 0, none⟩), []⟩, ⟨.quiet, [none, none], fun _ => .pointer (some ⟨p, 0, none⟩), [7]⟩, ⟨.quiet, [none, none], fun _ => .pointer (some ⟨p, 5, none⟩), [8]⟩, ⟨.quiet, [none, none], fun _ => y.sh, [9]⟩, ⟨.quiet, [none, none], fun _ => .string (bs n), []⟩, ⟨.actv 1, [some true, some false], fun _ => .bool false, [10, 11]⟩] [(0, .pointer (some ⟨p, 0, none⟩)), (1, .string (bs n)), (4, .slice none 0 0), (5, .bool false)] (fun ρ => match ρ with | [r0, r1] => [CP r0 (fun v9 => Ao 5 1 encB v9 ([])) (E0), Ao 5 1 encB (.slice none 0 0) ([]), cell p 67 #[.int .i64 d.room, .int .i64 (CV d.fuse), .bool false, y.pv, y.sm, y.sh], Ao 99 5 encO y.pv y.W, BF y.W, Av y.sm d.syn, By encKey AH y.sh y.L, Bn y.L] | _ => []) (by kernel_rfl) (by kernel_rfl) ⟨rfl, rfl, rfl, rfl, trivial⟩ rfl ?_ ?_
  · skip
    refine Aa (by intro r0_ r1_; exact ⟨rfl, fun b w hH hb => Ae Aj rfl hb⟩) ?_
    refine Aa (by intro r0_ r1_; exact ⟨rfl, fun b w hH hb => by exact BO rfl rfl hb⟩) ?_
    refine Aa (by intro r0_ r1_; exact ⟨rfl, fun b w hH hb => Ae Aj rfl hb⟩) ?_
    refine Aa (by intro r0_ r1_; exact ⟨rfl, fun b w hH hb => Bg rfl rfl (Bt AJ rfl) (hH.row 2 rfl) hb⟩) ?_
    refine Aa (by intro r0_ r1_; exact ⟨rfl, fun b w hH hb => Ae Aj rfl hb⟩) ?_
    refine Aa (by intro r0_ r1_; exact ⟨rfl, fun b w hH hb => Gx 6 CU rfl (k := n) (r := none) hgL rfl rfl rfl hH hb⟩) ?_
    refine Aa (by exact ⟨rfl, Br.s (Am (os' := fun v9 => [Ao 5 1 encB v9 ([]), Ao 5 1 encB (.slice none 0 0) ([]), cell p 67 #[.int .i64 d.room, .int .i64 (CV d.fuse), .bool false, y.pv, y.sm, y.sh], Ao 99 5 encO y.pv y.W, BF y.W, Av y.sm d.syn, By encKey AH y.sh y.L, Bn y.L]) [1, 0] 1 (Ah Tryz.func59 (by kernel_rfl) rfl) (Fx CQ (by decide)) rfl rfl rfl (fun _ => rfl) rfl rfl rfl) (fun _ => rfl)⟩) ?_
    refine Aa (by intro r0_ r1_; exact ⟨rfl, fun b w hH hb => Ae Aj rfl hb⟩) ?_
    refine Aa (by intro r0_ r1_; exact ⟨rfl, fun b w hH hb => by exact BO rfl rfl hb⟩) ?_
    refine Aa (by intro r0_ r1_; exact ⟨rfl, fun b w hH hb => Ae Aj rfl hb⟩) ?_
    refine Aa (by intro r0_ r1_; exact ⟨rfl, fun b w hH hb => Bg rfl rfl (Bt AJ rfl) (hH.row 2 rfl) hb⟩) ?_
    refine Aa (by intro r0_ r1_; exact ⟨rfl, fun b w hH hb => Ae Aj rfl hb⟩) ?_
    refine Aa (by intro v9; exact ⟨rfl, Br.su (Am (os' := fun _ => [Ao 5 1 encB v9 ([]), Ao 5 1 encB (.slice none 0 0) ([]), cell p 67 #[.int .i64 d.room, .int .i64 (CV d.fuse), .bool false, y.pv, y.sm, y.sh], Ao 99 5 encO y.pv y.W, BF y.W, Av y.sm d.syn, By encKey AH y.sh y.L, Bn y.L]) [6] 0 (Ah Tryz.func57 (by kernel_rfl) rfl) (Fp _ _ n _ hgL) rfl rfl rfl (fun _ => rfl) rfl rfl rfl) rfl⟩) ?_
    exact B7
  intro v9 v1_
  refine Ch.keep (env' := [(4, .slice none 0 0), (5, .bool false), (12, v9), (18, .bool false)]) ⟨rfl, rfl, rfl, rfl, trivial⟩ ?_
  refine Af Aj rfl ?_
  refine AP (AG (Az ?_))
  exact BX (.tmp rfl) (.tmp rfl) (fun w h => AB v9 rfl [2, 3, 4, 5, 6, 7, 0] rfl h (CG y hd)) rfl
theorem SM {p : Nat} {d : DiskD} {n y : List UInt8}  (hd : d.down = false) (hfit : d.fit) (hg : AL d.now n = some y) : AS Tryz.prog 32 #[.pointer (some ⟨p, 0, none⟩), .string (bs n)] [Ap p d] (fun (v : Value) => .tuple #[v, .bool true]) (fun (v : Value) => [Ap p d, Ao 5 1 encB v y]) := by
  refine A6 (args := [.pointer (some ⟨p, 0, none⟩), .string (bs n)]) 19 Tryz.func32 rfl rfl rfl ?_; intro w rs
  refine AY 0 rfl (CW hd) (fun _ => rfl) ?_; rintro x
  refine Bo.fact 3 rfl Bx ?_; rintro hsn
  refine Bo.fact 4 rfl BK ?_; rintro hgn
  obtain ⟨r, hgL, hry⟩ : ∃ r, AL x.L n = some r ∧ r.2 = y := by rw [F2 x.hg hgn] at hg; exact Option.map_eq_some_iff.1 hg
  subst hry
  have hm : (n, r) ∈ x.L := (B3 (by rw [DN] at hgn; exact hgn)).1 hgL
  have hpu : AE (B6 x.L) ≤ 1099511627776 := by rw [C9 x.hg]; exact H7 hfit hsn x.hok
  have hrl : r.2.length ≤ AE (B6 x.L) := IK hgn (by rw [Ea, hgL]; rfl)
  refine Ad ?_
  refine Af Aj rfl ?_
  refine Ab (Aq ?_)
  refine EL 1 rfl ?_
  refine BM 13 2 [⟨.quiet, [none, none], fun _ => .pointer (some ⟨p, 0, none⟩), []⟩, ⟨.quiet, [none, none], fun _ => .pointer (some ⟨p, 0, none⟩), [0]⟩, ⟨.quiet, [none, none], fun _ => .pointer (some ⟨p, 5, none⟩), [1]⟩, ⟨.quiet, [none, none], fun _ => x.sh, [2]⟩, ⟨.quiet, [none, none], fun _ => .string (bs n), []⟩, ⟨.quiet, [none, none], fun _ => r.1, [3, 4]⟩, ⟨.act 0, [some false, some false], fun _ => undef, [5]⟩, ⟨.quiet, [none, none], fun _ => .pointer (some ⟨p, 0, none⟩), []⟩, ⟨.quiet, [none, none], fun _ => .pointer (some ⟨p, 0, none⟩), [7]⟩, ⟨.quiet, [none, none], fun _ => .pointer (some ⟨p, 5, none⟩), [8]⟩, ⟨.quiet, [none, none], fun _ => x.sh, [9]⟩, ⟨.quiet, [none, none], fun _ => .string (bs n), []⟩, ⟨.actv 1, [some true, some false], fun _ => .bool true, [10, 11]⟩] [(0, .pointer (some ⟨p, 0, none⟩)), (1, .string (bs n)), (4, .slice none 0 0), (5, .bool false)] (fun ρ => match ρ with | [r0, r1] => [CP r0 (fun v9 => Ao 5 1 encB v9 r.2) (E0), cell p 67 #[.int .i64 d.room, .int .i64 (CV d.fuse), .bool false, x.pv, x.sm, x.sh], Ao 99 5 encO x.pv x.W, BF x.W, Av x.sm d.syn, By encKey AH x.sh x.L, Bn x.L] | _ => []) (by kernel_rfl) (by kernel_rfl) ⟨rfl, rfl, rfl, rfl, trivial⟩ rfl ?_ ?_
  · skip
    refine Aa (by intro r0_ r1_; exact ⟨rfl, fun b w hH hb => Ae Aj rfl hb⟩) ?_
    refine Aa (by intro r0_ r1_; exact ⟨rfl, fun b w hH hb => by exact BO rfl rfl hb⟩) ?_
    refine Aa (by intro r0_ r1_; exact ⟨rfl, fun b w hH hb => Ae Aj rfl hb⟩) ?_
    refine Aa (by intro r0_ r1_; exact ⟨rfl, fun b w hH hb => Bg rfl rfl (Bt AJ rfl) (hH.row 1 rfl) hb⟩) ?_
    refine Aa (by intro r0_ r1_; exact ⟨rfl, fun b w hH hb => Ae Aj rfl hb⟩) ?_
    refine Aa (by intro r0_ r1_; exact ⟨rfl, fun b w hH hb => Gx 5 CU rfl (k := n) (r := some r) hgL rfl rfl rfl hH hb⟩) ?_
    refine Aa (by exact ⟨rfl, Br.s (Am (os' := fun v9 => [Ao 5 1 encB v9 r.2, cell p 67 #[.int .i64 d.room, .int .i64 (CV d.fuse), .bool false, x.pv, x.sm, x.sh], Ao 99 5 encO x.pv x.W, BF x.W, Av x.sm d.syn, By encKey AH x.sh x.L, Bn x.L]) [6, 0] 1 (Ah Tryz.func59 (by kernel_rfl) rfl) (Fx (G9 hm) (by show r.2.length ≤ _; omega)) rfl rfl rfl (fun _ => rfl) rfl rfl rfl) (fun _ => rfl)⟩) ?_
    refine Aa (by intro r0_ r1_; exact ⟨rfl, fun b w hH hb => Ae Aj rfl hb⟩) ?_
    refine Aa (by intro r0_ r1_; exact ⟨rfl, fun b w hH hb => by exact BO rfl rfl hb⟩) ?_
    refine Aa (by intro r0_ r1_; exact ⟨rfl, fun b w hH hb => Ae Aj rfl hb⟩) ?_
    refine Aa (by intro r0_ r1_; exact ⟨rfl, fun b w hH hb => Bg rfl rfl (Bt AJ rfl) (hH.row 1 rfl) hb⟩) ?_
    refine Aa (by intro r0_ r1_; exact ⟨rfl, fun b w hH hb => Ae Aj rfl hb⟩) ?_
    refine Aa (by intro v9; exact ⟨rfl, Br.su (Am (os' := fun _ => [Ao 5 1 encB v9 r.2, cell p 67 #[.int .i64 d.room, .int .i64 (CV d.fuse), .bool false, x.pv, x.sm, x.sh], Ao 99 5 encO x.pv x.W, BF x.W, Av x.sm d.syn, By encKey AH x.sh x.L, Bn x.L]) [5] 0 (Ah Tryz.func57 (by kernel_rfl) rfl) (Fp _ _ n _ hgL) rfl rfl rfl (fun _ => rfl) rfl rfl rfl) rfl⟩) ?_
    exact B7
  intro v9 v1_
  refine Ch.keep (env' := [(4, .slice none 0 0), (5, .bool false), (12, v9), (18, .bool true)]) ⟨rfl, rfl, rfl, rfl, trivial⟩ ?_
  refine Af Aj rfl ?_
  refine AP (AG (Az ?_))
  exact BX (.tmp rfl) (.tmp rfl) (fun w h => AB v9 rfl [1, 2, 3, 4, 5, 6, 0] rfl h (CG x hd)) rfl
theorem FJ {p : Nat} {d : DiskD} {n b : List UInt8} {ok : Bool} (hd : d.fit) (h : (BB d n).isSome = ok) (hb : (BB d n).getD [] = b) : AS Tryz.prog 32 #[.pointer (some ⟨p, 0, none⟩), .string (bs n)] [Ap p d] (fun v : Value => .tuple #[v, .bool ok]) (fun v => [Ap p d, Ao 5 1 encB v b]) := by
  subst h hb
  unfold BB
  cases hdn : d.down
  · rw [if_neg (by simp)]
    cases hg : AL d.now n with
    | none => exact SL (y := []) hdn hg
    | some y => exact SM hdn hd hg
  · rw [if_pos rfl]
    exact Vf (y := []) hdn
end Go.Proofs.YtnknboibmifacaaGreat.Sep
namespace Go.Proofs.YtnknboibmifacaaGreat.Sep
open Go.RowKit
open Go.Proofs.YtnknboibmifacaaGreat.Mem (Bd Cj Chg AF)
theorem Rg {X : Ass} {p : Nat} {d d1 : DiskD} {n y : List UInt8} {v : Value} (h : Ba d = (d1, 3)) : AS Tryz.prog 21 #[.pointer (some ⟨p, 0, none⟩), .string (bs n), v] [Ap p d, X] (fun (_ : Unit) => .int .i64 3) (fun (_ : Unit) => [Ap p d1, X]) := by
 refine A6 (args := [.pointer (some ⟨p, 0, none⟩), .string (bs n), v]) 48 Tryz.func21 rfl rfl rfl ?_; intro w rs
 refine Ad ?_
 refine Af Aj rfl ?_
 refine Ab (Aq (Ad ?_))
 refine Af Aj rfl ?_
 refine Ai rfl (Am (os' := fun _ => [Ap p d1, X]) [0] 0 (Ah Tryz.func28 (by kernel_rfl) rfl) (GC h) rfl rfl rfl (fun _ => rfl) rfl rfl rfl) ?_; rintro ⟨⟩
 refine Af Aj rfl ?_
 refine Ab (AD rfl (Ad ?_))
 refine Af Aj rfl ?_
 refine Ab (Az (CO ?_))
 exact Ay (.tmp rfl) (fun w h => AB () rfl [0, 1] rfl h Cz) rfl
theorem OZ {X : Ass} {p : Nat} {d d1 : DiskD} {n y : List UInt8} {v : Value} (h : Ba d = (d1, 0)) (hn : CA n = false) : AS Tryz.prog 21 #[.pointer (some ⟨p, 0, none⟩), .string (bs n), v] [Ap p d, X] (fun (_ : Unit) => .int .i64 1) (fun (_ : Unit) => [Ap p d1, X]) := by
 refine A6 (args := [.pointer (some ⟨p, 0, none⟩), .string (bs n), v]) 48 Tryz.func21 rfl rfl rfl ?_; intro w rs
 refine Ad ?_
 refine Af Aj rfl ?_
 refine Ab (Aq (Ad ?_))
 refine Af Aj rfl ?_
 refine Ai rfl (Am (os' := fun _ => [Ap p d1, X]) [0] 0 (Ah Tryz.func28 (by kernel_rfl) rfl) (C7 h) rfl rfl rfl (fun _ => rfl) rfl rfl rfl) ?_; rintro ⟨⟩
 refine Af Aj rfl ?_
 refine Ab (Au rfl (Ax (AG (Aq (Ad ?_)))))
 refine Af Aj rfl ?_
 refine Ai (post := fun _ => [Ap p d1, X]) rfl (BQ (Ah Tryz.func56 (by kernel_rfl) rfl) (fun w hH => KQ w n hn) rfl rfl rfl) ?_; rintro ⟨⟩
 refine Af Aj rfl ?_
 refine Ab (AD rfl (Ad ?_))
 refine Af Aj rfl ?_
 refine Ab (Az (CO ?_))
 exact Ay (.tmp rfl) (fun w h => AB () rfl [0, 1] rfl h Cz) rfl
theorem NA {X : Ass} {p : Nat} {d d1 : DiskD} {n y : List UInt8} {v : Value} (hX : Cw X v y) (hfit : d.fit) (h : Ba d = (d1, 0)) (hn : CA n = true) (hy : y.length ≤ 140737488355328) (hf : EC d1 n y = false) : AS Tryz.prog 21 #[.pointer (some ⟨p, 0, none⟩), .string (bs n), v] [Ap p d, X] (fun (_ : Unit) => .int .i64 2) (fun (_ : Unit) => [Ap p d1, X]) := by
  have hd1 := (Dp h).1
  have hfit1 := Da h hfit
  refine A6 (args := [.pointer (some ⟨p, 0, none⟩), .string (bs n), v]) 48 Tryz.func21 rfl rfl rfl ?_; intro w rs
  refine Ad ?_
  refine Af Aj rfl ?_
  refine Ab (Aq (Ad ?_))
  refine Af Aj rfl ?_
  refine Ai rfl (Am (os' := fun _ => [Ap p d1, X]) [0] 0 (Ah Tryz.func28 (by kernel_rfl) rfl) (C7 h) rfl rfl rfl (fun _ => rfl) rfl rfl rfl) ?_; rintro ⟨⟩
  refine Af Aj rfl ?_
  refine Ab (Au rfl (Ax (AG (Aq (Ad ?_)))))
  refine Af Aj rfl ?_
  refine Ai (post := fun _ => [Ap p d1, X]) rfl (BQ (Ah Tryz.func56 (by kernel_rfl) rfl) (fun w hH => F3 w n hn) rfl rfl rfl) ?_; rintro ⟨⟩
  refine Af Aj rfl ?_
  refine Ab (Au rfl (Ax (AG ?_)))
  refine AY 0 rfl (CW hd1) (fun _ => rfl) ?_; rintro x
  refine Bo.fact 3 rfl Bx ?_; rintro hsn
  refine Bo.fact 4 rfl BK ?_; rintro hgn
  have hr := x.hr
  have hpu : AE (B6 x.L) ≤ 1099511627776 := by rw [C9 x.hg]; exact H7 hfit1 hsn x.hok
  rcases Rb x.hg hgn hf with ⟨hlen, hgL⟩ | ⟨hlen, r, hgL⟩ | ⟨hlen, hgL, h64⟩
  · skip
    refine Ad ?_
    refine Af Aj rfl ?_
    refine Ac rfl (.pointer (some ⟨p, 0, none⟩)) (fun b w hb hH => by exact BO rfl rfl hb) ?_
    refine Af Aj rfl ?_
    refine Ac rfl (x.sh) (fun b w hb hH => Bg rfl rfl (Bt AJ rfl) (hH.row 0 rfl) hb) ?_
    refine Af Aj rfl ?_
    refine Ai rfl (Am (os' := fun _ => [cell p 67 #[.int .i64 d1.room, .int .i64 (CV d1.fuse), .bool false, x.pv, x.sm, x.sh], Ao 99 5 encO x.pv x.W, BF x.W, Av x.sm d1.syn, By encKey AH x.sh x.L, Bn x.L, X]) [4] 0 (Ah Tryz.func57 (by kernel_rfl) rfl) (Fp _ _ n _ hgL) rfl rfl rfl (fun _ => rfl) rfl rfl rfl) ?_; rintro ⟨⟩
    refine Af Aj rfl ?_
    refine Ab (Aq (Aq ?_))
    refine BM 21 1 [⟨.quiet, [none], fun _ => v, []⟩, ⟨.quiet, [none], fun _ => .int .i64 (y.length : Int), [0]⟩, ⟨.quiet, [none], fun _ => .pointer (some ⟨p, 0, none⟩), []⟩, ⟨.quiet, [none], fun _ => .pointer (some ⟨p, 0, none⟩), [2]⟩, ⟨.quiet, [none], fun _ => .pointer (some ⟨p, 0, none⟩), [3]⟩, ⟨.quiet, [none], fun _ => .int .i64 d1.room, [4]⟩, ⟨.quiet, [none], fun _ => .pointer (some ⟨p, 0, none⟩), []⟩, ⟨.actv 0, [some false], fun _ => .int .i64 ((AE (B6 x.L) : Nat) : Int), [6]⟩, ⟨.quiet, [some true], fun _ => .int .i64 (d1.room - (AE (B6 x.L) : Int)), [5, 7]⟩, ⟨.quiet, [some true], fun _ => .bool true, [1, 8]⟩, ⟨.quiet, [some true], fun _ => .bool true, [9]⟩, ⟨.skip, [some true], fun _ => undef, [10]⟩, ⟨.skip, [some true], fun _ => undef, [11, 10]⟩, ⟨.skip, [some true], fun _ => undef, [12]⟩, ⟨.skip, [some true], fun _ => undef, [13, 12]⟩, ⟨.skip, [some true], fun _ => undef, [14, 12]⟩, ⟨.skip, [some true], fun _ => undef, [15, 12]⟩, ⟨.skip, [some true], fun _ => undef, [16, 12]⟩, ⟨.skip, [some true], fun _ => undef, [17, 12]⟩, ⟨.skip, [some true], fun _ => undef, [12, 18, 10]⟩, ⟨.quiet, [some true], fun _ => .bool true, [10, 19]⟩] [(0, .pointer (some ⟨p, 0, none⟩)), (1, .string (bs n)), (2, v), (6, .int .i64 0), (7, .bool true)] (fun ρ => match ρ with | [r0] => [cell p 67 #[.int .i64 d1.room, .int .i64 (CV d1.fuse), .bool false, x.pv, x.sm, x.sh], Ao 99 5 encO x.pv x.W, BF x.W, Av x.sm d1.syn, By encKey AH x.sh x.L, Bn x.L, X] | _ => []) (by kernel_rfl) (by kernel_rfl) ⟨rfl, rfl, rfl, rfl, rfl, trivial⟩ rfl ?_ ?_
    · skip
      refine Aa (by intro r0_; exact ⟨rfl, fun b w hH hb => Ae Aj rfl hb⟩) ?_
      refine Aa (by intro r0_; exact ⟨rfl, fun b w hH hb => AQ ((hH.rd8 6 rfl hX).rd) Tryz.underlying48 rfl rfl hb⟩) ?_
      refine Aa (by intro r0_; exact ⟨rfl, fun b w hH hb => Ae Aj rfl hb⟩) ?_
      refine Aa (by intro r0_; exact ⟨rfl, fun b w hH hb => by exact BO rfl rfl hb⟩) ?_
      refine Aa (by intro r0_; exact ⟨rfl, fun b w hH hb => Ae Aj rfl hb⟩) ?_
      refine Aa (by intro r0_; exact ⟨rfl, fun b w hH hb => Bg rfl rfl (Bt Bj rfl) (hH.row 0 rfl) hb⟩) ?_
      refine Aa (by intro r0_; exact ⟨rfl, fun b w hH hb => Ae Aj rfl hb⟩) ?_
      refine Aa (by exact ⟨rfl, Br.su (Am (os' := fun _ => [cell p 67 #[.int .i64 d1.room, .int .i64 (CV d1.fuse), .bool false, x.pv, x.sm, x.sh], Ao 99 5 encO x.pv x.W, BF x.W, Av x.sm d1.syn, By encKey AH x.sh x.L, Bn x.L, X]) [0, 4, 5] 0 (Ah Tryz.func50 (by kernel_rfl) rfl) (KS p _ _ _ _ _ _ x.L hpu) rfl rfl rfl (fun _ => rfl) rfl rfl rfl) rfl⟩) ?_
      refine Aa (by intro v0_; exact ⟨rfl, fun b w hH hb => AK rfl rfl rfl rfl (IntWalk.i64_in _ (by omega)) hb⟩) ?_
      refine Aa (by intro v0_; exact ⟨rfl, fun b w hH hb => Bh rfl rfl rfl (B2 (by omega)) hb⟩) ?_
      refine Aa (by intro v0_; exact ⟨rfl, fun b w hH hb => Ae Aj rfl hb⟩) ?_
      refine Aa (by intro v0_; exact ⟨rfl, rfl⟩) ?_
      refine Aa (by intro v0_; exact ⟨rfl, rfl⟩) ?_
      refine Aa (by intro v0_; exact ⟨rfl, rfl⟩) ?_
      refine Aa (by intro v0_; exact ⟨rfl, rfl⟩) ?_
      refine Aa (by intro v0_; exact ⟨rfl, rfl⟩) ?_
      refine Aa (by intro v0_; exact ⟨rfl, rfl⟩) ?_
      refine Aa (by intro v0_; exact ⟨rfl, rfl⟩) ?_
      refine Aa (by intro v0_; exact ⟨rfl, rfl⟩) ?_
      refine Aa (by intro v0_; exact ⟨rfl, rfl⟩) ?_
      refine Aa (by intro v0_; exact ⟨rfl, fun b w hH hb => Ae Aj rfl hb⟩) ?_
      exact B7
    intro v0_
    refine Ch.keep (env' := [(0, .pointer (some ⟨p, 0, none⟩)), (1, .string (bs n)), (2, v), (6, .int .i64 0), (41, .bool true)]) ⟨rfl, rfl, rfl, rfl, rfl, trivial⟩ ?_
    refine AP (AG (AD rfl (Ad ?_)))
    refine Af Aj rfl ?_
    refine Ab (Az (CO ?_))
    exact Ay (.tmp rfl) (fun w h => AB () rfl [0, 1, 2, 3, 4, 5, 6] rfl h (CG x hd1)) rfl
  · skip
    refine Ad ?_
    refine Af Aj rfl ?_
    refine Ac rfl (.pointer (some ⟨p, 0, none⟩)) (fun b w hb hH => by exact BO rfl rfl hb) ?_
    refine Af Aj rfl ?_
    refine Ac rfl (x.sh) (fun b w hb hH => Bg rfl rfl (Bt AJ rfl) (hH.row 0 rfl) hb) ?_
    refine Af Aj rfl ?_
    refine Ai rfl (Am (os' := fun _ => [cell p 67 #[.int .i64 d1.room, .int .i64 (CV d1.fuse), .bool false, x.pv, x.sm, x.sh], Ao 99 5 encO x.pv x.W, BF x.W, Av x.sm d1.syn, By encKey AH x.sh x.L, Bn x.L, X]) [4] 0 (Ah Tryz.func57 (by kernel_rfl) rfl) (Fp _ _ n _ hgL) rfl rfl rfl (fun _ => rfl) rfl rfl rfl) ?_; rintro ⟨⟩
    refine Af Aj rfl ?_
    refine Ab (Aq (Aq ?_))
    refine BM 21 1 [⟨.quiet, [none], fun _ => v, []⟩, ⟨.quiet, [none], fun _ => .int .i64 (y.length : Int), [0]⟩, ⟨.quiet, [none], fun _ => .pointer (some ⟨p, 0, none⟩), []⟩, ⟨.quiet, [none], fun _ => .pointer (some ⟨p, 0, none⟩), [2]⟩, ⟨.quiet, [none], fun _ => .pointer (some ⟨p, 0, none⟩), [3]⟩, ⟨.quiet, [none], fun _ => .int .i64 d1.room, [4]⟩, ⟨.quiet, [none], fun _ => .pointer (some ⟨p, 0, none⟩), []⟩, ⟨.actv 0, [some false], fun _ => .int .i64 ((AE (B6 x.L) : Nat) : Int), [6]⟩, ⟨.quiet, [some true], fun _ => .int .i64 (d1.room - (AE (B6 x.L) : Int)), [5, 7]⟩, ⟨.quiet, [some true], fun _ => .bool true, [1, 8]⟩, ⟨.quiet, [some true], fun _ => .bool true, [9]⟩, ⟨.skip, [some true], fun _ => undef, [10]⟩, ⟨.skip, [some true], fun _ => undef, [11, 10]⟩, ⟨.skip, [some true], fun _ => undef, [12]⟩, ⟨.skip, [some true], fun _ => undef, [13, 12]⟩, ⟨.skip, [some true], fun _ => undef, [14, 12]⟩, ⟨.skip, [some true], fun _ => undef, [15, 12]⟩, ⟨.skip, [some true], fun _ => undef, [16, 12]⟩, ⟨.skip, [some true], fun _ => undef, [17, 12]⟩, ⟨.skip, [some true], fun _ => undef, [12, 18, 10]⟩, ⟨.quiet, [some true], fun _ => .bool true, [10, 19]⟩] [(0, .pointer (some ⟨p, 0, none⟩)), (1, .string (bs n)), (2, v), (6, .int .i64 0), (7, .bool false)] (fun ρ => match ρ with | [r0] => [cell p 67 #[.int .i64 d1.room, .int .i64 (CV d1.fuse), .bool false, x.pv, x.sm, x.sh], Ao 99 5 encO x.pv x.W, BF x.W, Av x.sm d1.syn, By encKey AH x.sh x.L, Bn x.L, X] | _ => []) (by kernel_rfl) (by kernel_rfl) ⟨rfl, rfl, rfl, rfl, rfl, trivial⟩ rfl ?_ ?_
    · skip
      refine Aa (by intro r0_; exact ⟨rfl, fun b w hH hb => Ae Aj rfl hb⟩) ?_
      refine Aa (by intro r0_; exact ⟨rfl, fun b w hH hb => AQ ((hH.rd8 6 rfl hX).rd) Tryz.underlying48 rfl rfl hb⟩) ?_
      refine Aa (by intro r0_; exact ⟨rfl, fun b w hH hb => Ae Aj rfl hb⟩) ?_
      refine Aa (by intro r0_; exact ⟨rfl, fun b w hH hb => by exact BO rfl rfl hb⟩) ?_
      refine Aa (by intro r0_; exact ⟨rfl, fun b w hH hb => Ae Aj rfl hb⟩) ?_
      refine Aa (by intro r0_; exact ⟨rfl, fun b w hH hb => Bg rfl rfl (Bt Bj rfl) (hH.row 0 rfl) hb⟩) ?_
      refine Aa (by intro r0_; exact ⟨rfl, fun b w hH hb => Ae Aj rfl hb⟩) ?_
      refine Aa (by exact ⟨rfl, Br.su (Am (os' := fun _ => [cell p 67 #[.int .i64 d1.room, .int .i64 (CV d1.fuse), .bool false, x.pv, x.sm, x.sh], Ao 99 5 encO x.pv x.W, BF x.W, Av x.sm d1.syn, By encKey AH x.sh x.L, Bn x.L, X]) [0, 4, 5] 0 (Ah Tryz.func50 (by kernel_rfl) rfl) (KS p _ _ _ _ _ _ x.L hpu) rfl rfl rfl (fun _ => rfl) rfl rfl rfl) rfl⟩) ?_
      refine Aa (by intro v0_; exact ⟨rfl, fun b w hH hb => AK rfl rfl rfl rfl (IntWalk.i64_in _ (by omega)) hb⟩) ?_
      refine Aa (by intro v0_; exact ⟨rfl, fun b w hH hb => Bh rfl rfl rfl (B2 (by omega)) hb⟩) ?_
      refine Aa (by intro v0_; exact ⟨rfl, fun b w hH hb => Ae Aj rfl hb⟩) ?_
      refine Aa (by intro v0_; exact ⟨rfl, rfl⟩) ?_
      refine Aa (by intro v0_; exact ⟨rfl, rfl⟩) ?_
      refine Aa (by intro v0_; exact ⟨rfl, rfl⟩) ?_
      refine Aa (by intro v0_; exact ⟨rfl, rfl⟩) ?_
      refine Aa (by intro v0_; exact ⟨rfl, rfl⟩) ?_
      refine Aa (by intro v0_; exact ⟨rfl, rfl⟩) ?_
      refine Aa (by intro v0_; exact ⟨rfl, rfl⟩) ?_
      refine Aa (by intro v0_; exact ⟨rfl, rfl⟩) ?_
      refine Aa (by intro v0_; exact ⟨rfl, rfl⟩) ?_
      refine Aa (by intro v0_; exact ⟨rfl, fun b w hH hb => Ae Aj rfl hb⟩) ?_
      exact B7
    intro v0_
    refine Ch.keep (env' := [(0, .pointer (some ⟨p, 0, none⟩)), (1, .string (bs n)), (2, v), (6, .int .i64 0), (41, .bool true)]) ⟨rfl, rfl, rfl, rfl, rfl, trivial⟩ ?_
    refine AP (AG (AD rfl (Ad ?_)))
    refine Af Aj rfl ?_
    refine Ab (Az (CO ?_))
    exact Ay (.tmp rfl) (fun w h => AB () rfl [0, 1, 2, 3, 4, 5, 6] rfl h (CG x hd1)) rfl
  · skip
    refine Ad ?_
    refine Af Aj rfl ?_
    refine Ac rfl (.pointer (some ⟨p, 0, none⟩)) (fun b w hb hH => by exact BO rfl rfl hb) ?_
    refine Af Aj rfl ?_
    refine Ac rfl (x.sh) (fun b w hb hH => Bg rfl rfl (Bt AJ rfl) (hH.row 0 rfl) hb) ?_
    refine Af Aj rfl ?_
    refine Ai rfl (Am (os' := fun _ => [cell p 67 #[.int .i64 d1.room, .int .i64 (CV d1.fuse), .bool false, x.pv, x.sm, x.sh], Ao 99 5 encO x.pv x.W, BF x.W, Av x.sm d1.syn, By encKey AH x.sh x.L, Bn x.L, X]) [4] 0 (Ah Tryz.func57 (by kernel_rfl) rfl) (Fp _ _ n _ hgL) rfl rfl rfl (fun _ => rfl) rfl rfl rfl) ?_; rintro ⟨⟩
    refine Af Aj rfl ?_
    refine Ab (Aq (Aq ?_))
    refine BM 21 1 [⟨.quiet, [none], fun _ => v, []⟩, ⟨.quiet, [none], fun _ => .int .i64 (y.length : Int), [0]⟩, ⟨.quiet, [none], fun _ => .pointer (some ⟨p, 0, none⟩), []⟩, ⟨.quiet, [none], fun _ => .pointer (some ⟨p, 0, none⟩), [2]⟩, ⟨.quiet, [none], fun _ => .pointer (some ⟨p, 0, none⟩), [3]⟩, ⟨.quiet, [none], fun _ => .int .i64 d1.room, [4]⟩, ⟨.quiet, [none], fun _ => .pointer (some ⟨p, 0, none⟩), []⟩, ⟨.actv 0, [some false], fun _ => .int .i64 ((AE (B6 x.L) : Nat) : Int), [6]⟩, ⟨.quiet, [some true], fun _ => .int .i64 (d1.room - (AE (B6 x.L) : Int)), [5, 7]⟩, ⟨.quiet, [some true], fun _ => .bool false, [1, 8]⟩, ⟨.quiet, [some true], fun _ => .bool false, [9]⟩, ⟨.quiet, [some true], fun _ => .bool true, [10]⟩, ⟨.quiet, [some true], fun _ => .bool true, [11, 10]⟩, ⟨.quiet, [some true], fun _ => .pointer (some ⟨p, 0, none⟩), [12]⟩, ⟨.quiet, [some true], fun _ => .pointer (some ⟨p, 0, none⟩), [13, 12]⟩, ⟨.quiet, [some true], fun _ => .pointer (some ⟨p, 5, none⟩), [14, 12]⟩, ⟨.quiet, [some true], fun _ => x.sh, [15, 12]⟩, ⟨.quiet, [some true], fun _ => .int .i64 (x.L.length : Int), [16, 12]⟩, ⟨.quiet, [some true], fun _ => .bool true, [17, 12]⟩, ⟨.quiet, [some true], fun _ => .bool true, [12, 18, 10]⟩, ⟨.quiet, [some true], fun _ => .bool true, [10, 19]⟩] [(0, .pointer (some ⟨p, 0, none⟩)), (1, .string (bs n)), (2, v), (6, .int .i64 0), (7, .bool true)] (fun ρ => match ρ with | [r0] => [cell p 67 #[.int .i64 d1.room, .int .i64 (CV d1.fuse), .bool false, x.pv, x.sm, x.sh], Ao 99 5 encO x.pv x.W, BF x.W, Av x.sm d1.syn, By encKey AH x.sh x.L, Bn x.L, X] | _ => []) (by kernel_rfl) (by kernel_rfl) ⟨rfl, rfl, rfl, rfl, rfl, trivial⟩ rfl ?_ ?_
    · skip
      refine Aa (by intro r0_; exact ⟨rfl, fun b w hH hb => Ae Aj rfl hb⟩) ?_
      refine Aa (by intro r0_; exact ⟨rfl, fun b w hH hb => AQ ((hH.rd8 6 rfl hX).rd) Tryz.underlying48 rfl rfl hb⟩) ?_
      refine Aa (by intro r0_; exact ⟨rfl, fun b w hH hb => Ae Aj rfl hb⟩) ?_
      refine Aa (by intro r0_; exact ⟨rfl, fun b w hH hb => by exact BO rfl rfl hb⟩) ?_
      refine Aa (by intro r0_; exact ⟨rfl, fun b w hH hb => Ae Aj rfl hb⟩) ?_
      refine Aa (by intro r0_; exact ⟨rfl, fun b w hH hb => Bg rfl rfl (Bt Bj rfl) (hH.row 0 rfl) hb⟩) ?_
      refine Aa (by intro r0_; exact ⟨rfl, fun b w hH hb => Ae Aj rfl hb⟩) ?_
      refine Aa (by exact ⟨rfl, Br.su (Am (os' := fun _ => [cell p 67 #[.int .i64 d1.room, .int .i64 (CV d1.fuse), .bool false, x.pv, x.sm, x.sh], Ao 99 5 encO x.pv x.W, BF x.W, Av x.sm d1.syn, By encKey AH x.sh x.L, Bn x.L, X]) [0, 4, 5] 0 (Ah Tryz.func50 (by kernel_rfl) rfl) (KS p _ _ _ _ _ _ x.L hpu) rfl rfl rfl (fun _ => rfl) rfl rfl rfl) rfl⟩) ?_
      refine Aa (by intro v0_; exact ⟨rfl, fun b w hH hb => AK rfl rfl rfl rfl (IntWalk.i64_in _ (by omega)) hb⟩) ?_
      refine Aa (by intro v0_; exact ⟨rfl, fun b w hH hb => Bh rfl rfl rfl (BC (by omega)) hb⟩) ?_
      refine Aa (by intro v0_; exact ⟨rfl, fun b w hH hb => Ae Aj rfl hb⟩) ?_
      refine Aa (by intro v0_; exact ⟨rfl, fun b w hH hb => Ae Aj rfl hb⟩) ?_
      refine Aa (by intro v0_; exact ⟨rfl, fun b w hH hb => Ae Aj rfl hb⟩) ?_
      refine Aa (by intro v0_; exact ⟨rfl, fun b w hH hb => Ae Aj rfl hb⟩) ?_
      refine Aa (by intro v0_; exact ⟨rfl, fun b w hH hb => by exact BO rfl rfl hb⟩) ?_
      refine Aa (by intro v0_; exact ⟨rfl, fun b w hH hb => Ae Aj rfl hb⟩) ?_
      refine Aa (by intro v0_; exact ⟨rfl, fun b w hH hb => Bg rfl rfl (Bt AJ rfl) (hH.row 0 rfl) hb⟩) ?_
      refine Aa (by intro v0_; exact ⟨rfl, fun b w hH hb => OC 4 Tryz.underlying65 rfl rfl rfl hH hb⟩) ?_
      refine Aa (by intro v0_; exact ⟨rfl, fun b w hH hb => Bh rfl rfl rfl (Cs (by omega)) hb⟩) ?_
      refine Aa (by intro v0_; exact ⟨rfl, fun b w hH hb => Ae Aj rfl hb⟩) ?_
      refine Aa (by intro v0_; exact ⟨rfl, fun b w hH hb => Ae Aj rfl hb⟩) ?_
      exact B7
    intro v0_
    refine Ch.keep (env' := [(0, .pointer (some ⟨p, 0, none⟩)), (1, .string (bs n)), (2, v), (6, .int .i64 0), (41, .bool true)]) ⟨rfl, rfl, rfl, rfl, rfl, trivial⟩ ?_
    refine AP (AG (AD rfl (Ad ?_)))
    refine Af Aj rfl ?_
    refine Ab (Az (CO ?_))
    exact Ay (.tmp rfl) (fun w h => AB () rfl [0, 1, 2, 3, 4, 5, 6] rfl h (CG x hd1)) rfl
theorem Rh {X : Ass} {p : Nat} {d d1 : DiskD} {n y : List UInt8} {v : Value} (hX : Cw X v y) (hfit : d.fit) (h : Ba d = (d1, 0)) (hn : CA n = true) (hy : y.length ≤ 140737488355328) (hf : EC d1 n y = true) : AS Tryz.prog 21 #[.pointer (some ⟨p, 0, none⟩), .string (bs n), v] [Ap p d, X] (fun (_ : Unit) => .int .i64 0) (fun (_ : Unit) => [Ap p (Cn d1 (.app n y)), X]) := by
  have hd1 := (Dp h).1
  have hfit1 := Da h hfit
  refine A6 (args := [.pointer (some ⟨p, 0, none⟩), .string (bs n), v]) 48 Tryz.func21 rfl rfl rfl ?_; intro w rs
  refine Ad ?_
  refine Af Aj rfl ?_
  refine Ab (Aq (Ad ?_))
  refine Af Aj rfl ?_
  refine Ai rfl (Am (os' := fun _ => [Ap p d1, X]) [0] 0 (Ah Tryz.func28 (by kernel_rfl) rfl) (C7 h) rfl rfl rfl (fun _ => rfl) rfl rfl rfl) ?_; rintro ⟨⟩
  refine Af Aj rfl ?_
  refine Ab (Au rfl (Ax (AG (Aq (Ad ?_)))))
  refine Af Aj rfl ?_
  refine Ai (post := fun _ => [Ap p d1, X]) rfl (BQ (Ah Tryz.func56 (by kernel_rfl) rfl) (fun w hH => F3 w n hn) rfl rfl rfl) ?_; rintro ⟨⟩
  refine Af Aj rfl ?_
  refine Ab (Au rfl (Ax (AG ?_)))
  refine AY 0 rfl (CW hd1) (fun _ => rfl) ?_; rintro x
  refine Bo.fact 3 rfl Bx ?_; rintro hsn
  refine Bo.fact 4 rfl BK ?_; rintro hgn
  have hr := x.hr
  have hpu : AE (B6 x.L) ≤ 1099511627776 := by rw [C9 x.hg]; exact H7 hfit1 hsn x.hok
  obtain ⟨hlen, hw⟩ := Uc x.hg hgn hf
  have hsz : (OpD.app n y).size ≤ 1048576 := by show y.length ≤ _; omega
  rcases hw with ⟨r, hgL⟩ | ⟨hgL, h64⟩
  · skip
    refine Ad ?_
    refine Af Aj rfl ?_
    refine Ac rfl (.pointer (some ⟨p, 0, none⟩)) (fun b w hb hH => by exact BO rfl rfl hb) ?_
    refine Af Aj rfl ?_
    refine Ac rfl (x.sh) (fun b w hb hH => Bg rfl rfl (Bt AJ rfl) (hH.row 0 rfl) hb) ?_
    refine Af Aj rfl ?_
    refine Ai rfl (Am (os' := fun _ => [cell p 67 #[.int .i64 d1.room, .int .i64 (CV d1.fuse), .bool false, x.pv, x.sm, x.sh], Ao 99 5 encO x.pv x.W, BF x.W, Av x.sm d1.syn, By encKey AH x.sh x.L, Bn x.L, X]) [4] 0 (Ah Tryz.func57 (by kernel_rfl) rfl) (Fp _ _ n _ hgL) rfl rfl rfl (fun _ => rfl) rfl rfl rfl) ?_; rintro ⟨⟩
    refine Af Aj rfl ?_
    refine Ab (Aq (Aq ?_))
    refine BM 21 1 [⟨.quiet, [none], fun _ => v, []⟩, ⟨.quiet, [none], fun _ => .int .i64 (y.length : Int), [0]⟩, ⟨.quiet, [none], fun _ => .pointer (some ⟨p, 0, none⟩), []⟩, ⟨.quiet, [none], fun _ => .pointer (some ⟨p, 0, none⟩), [2]⟩, ⟨.quiet, [none], fun _ => .pointer (some ⟨p, 0, none⟩), [3]⟩, ⟨.quiet, [none], fun _ => .int .i64 d1.room, [4]⟩, ⟨.quiet, [none], fun _ => .pointer (some ⟨p, 0, none⟩), []⟩, ⟨.actv 0, [some false], fun _ => .int .i64 ((AE (B6 x.L) : Nat) : Int), [6]⟩, ⟨.quiet, [some true], fun _ => .int .i64 (d1.room - (AE (B6 x.L) : Int)), [5, 7]⟩, ⟨.quiet, [some true], fun _ => .bool false, [1, 8]⟩, ⟨.quiet, [some true], fun _ => .bool false, [9]⟩, ⟨.quiet, [some true], fun _ => .bool false, [10]⟩, ⟨.quiet, [some true], fun _ => .bool false, [11, 10]⟩, ⟨.skip, [some true], fun _ => undef, [12]⟩, ⟨.skip, [some true], fun _ => undef, [13, 12]⟩, ⟨.skip, [some true], fun _ => undef, [14, 12]⟩, ⟨.skip, [some true], fun _ => undef, [15, 12]⟩, ⟨.skip, [some true], fun _ => undef, [16, 12]⟩, ⟨.skip, [some true], fun _ => undef, [17, 12]⟩, ⟨.quiet, [some true], fun _ => .bool false, [12, 18, 10]⟩, ⟨.quiet, [some true], fun _ => .bool false, [10, 19]⟩] [(0, .pointer (some ⟨p, 0, none⟩)), (1, .string (bs n)), (2, v), (6, .int .i64 0), (7, .bool false)] (fun ρ => match ρ with | [r0] => [cell p 67 #[.int .i64 d1.room, .int .i64 (CV d1.fuse), .bool false, x.pv, x.sm, x.sh], Ao 99 5 encO x.pv x.W, BF x.W, Av x.sm d1.syn, By encKey AH x.sh x.L, Bn x.L, X] | _ => []) (by kernel_rfl) (by kernel_rfl) ⟨rfl, rfl, rfl, rfl, rfl, trivial⟩ rfl ?_ ?_
    · skip
      refine Aa (by intro r0_; exact ⟨rfl, fun b w hH hb => Ae Aj rfl hb⟩) ?_
      refine Aa (by intro r0_; exact ⟨rfl, fun b w hH hb => AQ ((hH.rd8 6 rfl hX).rd) Tryz.underlying48 rfl rfl hb⟩) ?_
      refine Aa (by intro r0_; exact ⟨rfl, fun b w hH hb => Ae Aj rfl hb⟩) ?_
      refine Aa (by intro r0_; exact ⟨rfl, fun b w hH hb => by exact BO rfl rfl hb⟩) ?_
      refine Aa (by intro r0_; exact ⟨rfl, fun b w hH hb => Ae Aj rfl hb⟩) ?_
      refine Aa (by intro r0_; exact ⟨rfl, fun b w hH hb => Bg rfl rfl (Bt Bj rfl) (hH.row 0 rfl) hb⟩) ?_
      refine Aa (by intro r0_; exact ⟨rfl, fun b w hH hb => Ae Aj rfl hb⟩) ?_
      refine Aa (by exact ⟨rfl, Br.su (Am (os' := fun _ => [cell p 67 #[.int .i64 d1.room, .int .i64 (CV d1.fuse), .bool false, x.pv, x.sm, x.sh], Ao 99 5 encO x.pv x.W, BF x.W, Av x.sm d1.syn, By encKey AH x.sh x.L, Bn x.L, X]) [0, 4, 5] 0 (Ah Tryz.func50 (by kernel_rfl) rfl) (KS p _ _ _ _ _ _ x.L hpu) rfl rfl rfl (fun _ => rfl) rfl rfl rfl) rfl⟩) ?_
      refine Aa (by intro v0_; exact ⟨rfl, fun b w hH hb => AK rfl rfl rfl rfl (IntWalk.i64_in _ (by omega)) hb⟩) ?_
      refine Aa (by intro v0_; exact ⟨rfl, fun b w hH hb => Bh rfl rfl rfl (BC (by omega)) hb⟩) ?_
      refine Aa (by intro v0_; exact ⟨rfl, fun b w hH hb => Ae Aj rfl hb⟩) ?_
      refine Aa (by intro v0_; exact ⟨rfl, fun b w hH hb => Ae Aj rfl hb⟩) ?_
      refine Aa (by intro v0_; exact ⟨rfl, fun b w hH hb => Ae Aj rfl hb⟩) ?_
      refine Aa (by intro v0_; exact ⟨rfl, rfl⟩) ?_
      refine Aa (by intro v0_; exact ⟨rfl, rfl⟩) ?_
      refine Aa (by intro v0_; exact ⟨rfl, rfl⟩) ?_
      refine Aa (by intro v0_; exact ⟨rfl, rfl⟩) ?_
      refine Aa (by intro v0_; exact ⟨rfl, rfl⟩) ?_
      refine Aa (by intro v0_; exact ⟨rfl, rfl⟩) ?_
      refine Aa (by intro v0_; exact ⟨rfl, fun b w hH hb => Ae Aj rfl hb⟩) ?_
      refine Aa (by intro v0_; exact ⟨rfl, fun b w hH hb => Ae Aj rfl hb⟩) ?_
      exact B7
    intro v0_
    refine Ch.keep (env' := [(0, .pointer (some ⟨p, 0, none⟩)), (1, .string (bs n)), (2, v), (6, .int .i64 0), (41, .bool false)]) ⟨rfl, rfl, rfl, rfl, rfl, trivial⟩ ?_
    refine AP (AG (Au rfl (Ax (AG ?_))))
    refine Bf [0, 1, 2, 3, 4, 5] rfl (Hc x hd1) rfl ?_
    refine Ad ?_
    refine Af Aj rfl ?_
    refine Ai rfl (Am (os' := fun v9 => [Ao 5 1 encB v9 y, Ap p d1, X]) [1] 0 (Ah Tryz.func59 (by kernel_rfl) rfl) (Fx hX (by omega)) rfl rfl rfl (fun _ => rfl) rfl rfl rfl) ?_; rintro v9
    refine Ch.fact 0 rfl (fun _ h => Ao.is h) ?_; rintro ⟨A9, c9, rfl⟩
    refine Ac rfl (.agg #[.int .i64 0, .string (bs n), .slice A9 y.length c9, .int .i64 0, .string { data := #[] }]) (fun b w hb hH => AV rfl rfl (by kernel_rfl) hb) ?_
    refine Ai rfl (Am (os' := fun _ => [E0, Ap p (Cn d1 (.app n y)), X]) [1, 0] 0 (Ah Tryz.func58 (by kernel_rfl) rfl) (KT (x := ⟨.app n y, A9, c9⟩) hd1 hfit1 hn hsz) rfl rfl rfl (fun _ => rfl) rfl rfl rfl) ?_; rintro ⟨⟩
    refine Ch.leave [0] rfl rfl ?_
    refine Af Aj rfl ?_
    refine Ab (Az ?_)
    exact Ay (.tmp rfl) (fun w h => AB () rfl [0, 1] rfl h Cz) rfl
  · skip
    refine Ad ?_
    refine Af Aj rfl ?_
    refine Ac rfl (.pointer (some ⟨p, 0, none⟩)) (fun b w hb hH => by exact BO rfl rfl hb) ?_
    refine Af Aj rfl ?_
    refine Ac rfl (x.sh) (fun b w hb hH => Bg rfl rfl (Bt AJ rfl) (hH.row 0 rfl) hb) ?_
    refine Af Aj rfl ?_
    refine Ai rfl (Am (os' := fun _ => [cell p 67 #[.int .i64 d1.room, .int .i64 (CV d1.fuse), .bool false, x.pv, x.sm, x.sh], Ao 99 5 encO x.pv x.W, BF x.W, Av x.sm d1.syn, By encKey AH x.sh x.L, Bn x.L, X]) [4] 0 (Ah Tryz.func57 (by kernel_rfl) rfl) (Fp _ _ n _ hgL) rfl rfl rfl (fun _ => rfl) rfl rfl rfl) ?_; rintro ⟨⟩
    refine Af Aj rfl ?_
    refine Ab (Aq (Aq ?_))
    refine BM 21 1 [⟨.quiet, [none], fun _ => v, []⟩, ⟨.quiet, [none], fun _ => .int .i64 (y.length : Int), [0]⟩, ⟨.quiet, [none], fun _ => .pointer (some ⟨p, 0, none⟩), []⟩, ⟨.quiet, [none], fun _ => .pointer (some ⟨p, 0, none⟩), [2]⟩, ⟨.quiet, [none], fun _ => .pointer (some ⟨p, 0, none⟩), [3]⟩, ⟨.quiet, [none], fun _ => .int .i64 d1.room, [4]⟩, ⟨.quiet, [none], fun _ => .pointer (some ⟨p, 0, none⟩), []⟩, ⟨.actv 0, [some false], fun _ => .int .i64 ((AE (B6 x.L) : Nat) : Int), [6]⟩, ⟨.quiet, [some true], fun _ => .int .i64 (d1.room - (AE (B6 x.L) : Int)), [5, 7]⟩, ⟨.quiet, [some true], fun _ => .bool false, [1, 8]⟩, ⟨.quiet, [some true], fun _ => .bool false, [9]⟩, ⟨.quiet, [some true], fun _ => .bool true, [10]⟩, ⟨.quiet, [some true], fun _ => .bool true, [11, 10]⟩, ⟨.quiet, [some true], fun _ => .pointer (some ⟨p, 0, none⟩), [12]⟩, ⟨.quiet, [some true], fun _ => .pointer (some ⟨p, 0, none⟩), [13, 12]⟩, ⟨.quiet, [some true], fun _ => .pointer (some ⟨p, 5, none⟩), [14, 12]⟩, ⟨.quiet, [some true], fun _ => x.sh, [15, 12]⟩, ⟨.quiet, [some true], fun _ => .int .i64 (x.L.length : Int), [16, 12]⟩, ⟨.quiet, [some true], fun _ => .bool false, [17, 12]⟩, ⟨.quiet, [some true], fun _ => .bool false, [12, 18, 10]⟩, ⟨.quiet, [some true], fun _ => .bool false, [10, 19]⟩] [(0, .pointer (some ⟨p, 0, none⟩)), (1, .string (bs n)), (2, v), (6, .int .i64 0), (7, .bool true)] (fun ρ => match ρ with | [r0] => [cell p 67 #[.int .i64 d1.room, .int .i64 (CV d1.fuse), .bool false, x.pv, x.sm, x.sh], Ao 99 5 encO x.pv x.W, BF x.W, Av x.sm d1.syn, By encKey AH x.sh x.L, Bn x.L, X] | _ => []) (by kernel_rfl) (by kernel_rfl) ⟨rfl, rfl, rfl, rfl, rfl, trivial⟩ rfl ?_ ?_
    · skip
      refine Aa (by intro r0_; exact ⟨rfl, fun b w hH hb => Ae Aj rfl hb⟩) ?_
      refine Aa (by intro r0_; exact ⟨rfl, fun b w hH hb => AQ ((hH.rd8 6 rfl hX).rd) Tryz.underlying48 rfl rfl hb⟩) ?_
      refine Aa (by intro r0_; exact ⟨rfl, fun b w hH hb => Ae Aj rfl hb⟩) ?_
      refine Aa (by intro r0_; exact ⟨rfl, fun b w hH hb => by exact BO rfl rfl hb⟩) ?_
      refine Aa (by intro r0_; exact ⟨rfl, fun b w hH hb => Ae Aj rfl hb⟩) ?_
      refine Aa (by intro r0_; exact ⟨rfl, fun b w hH hb => Bg rfl rfl (Bt Bj rfl) (hH.row 0 rfl) hb⟩) ?_
      refine Aa (by intro r0_; exact ⟨rfl, fun b w hH hb => Ae Aj rfl hb⟩) ?_
      refine Aa (by exact ⟨rfl, Br.su (Am (os' := fun _ => [cell p 67 #[.int .i64 d1.room, .int .i64 (CV d1.fuse), .bool false, x.pv, x.sm, x.sh], Ao 99 5 encO x.pv x.W, BF x.W, Av x.sm d1.syn, By encKey AH x.sh x.L, Bn x.L, X]) [0, 4, 5] 0 (Ah Tryz.func50 (by kernel_rfl) rfl) (KS p _ _ _ _ _ _ x.L hpu) rfl rfl rfl (fun _ => rfl) rfl rfl rfl) rfl⟩) ?_
      refine Aa (by intro v0_; exact ⟨rfl, fun b w hH hb => AK rfl rfl rfl rfl (IntWalk.i64_in _ (by omega)) hb⟩) ?_
      refine Aa (by intro v0_; exact ⟨rfl, fun b w hH hb => Bh rfl rfl rfl (BC (by omega)) hb⟩) ?_
      refine Aa (by intro v0_; exact ⟨rfl, fun b w hH hb => Ae Aj rfl hb⟩) ?_
      refine Aa (by intro v0_; exact ⟨rfl, fun b w hH hb => Ae Aj rfl hb⟩) ?_
      refine Aa (by intro v0_; exact ⟨rfl, fun b w hH hb => Ae Aj rfl hb⟩) ?_
      refine Aa (by intro v0_; exact ⟨rfl, fun b w hH hb => Ae Aj rfl hb⟩) ?_
      refine Aa (by intro v0_; exact ⟨rfl, fun b w hH hb => by exact BO rfl rfl hb⟩) ?_
      refine Aa (by intro v0_; exact ⟨rfl, fun b w hH hb => Ae Aj rfl hb⟩) ?_
      refine Aa (by intro v0_; exact ⟨rfl, fun b w hH hb => Bg rfl rfl (Bt AJ rfl) (hH.row 0 rfl) hb⟩) ?_
      refine Aa (by intro v0_; exact ⟨rfl, fun b w hH hb => OC 4 Tryz.underlying65 rfl rfl rfl hH hb⟩) ?_
      refine Aa (by intro v0_; exact ⟨rfl, fun b w hH hb => Bh rfl rfl rfl (DX (by omega)) hb⟩) ?_
      refine Aa (by intro v0_; exact ⟨rfl, fun b w hH hb => Ae Aj rfl hb⟩) ?_
      refine Aa (by intro v0_; exact ⟨rfl, fun b w hH hb => Ae Aj rfl hb⟩) ?_
      exact B7
    intro v0_
    refine Ch.keep (env' := [(0, .pointer (some ⟨p, 0, none⟩)), (1, .string (bs n)), (2, v), (6, .int .i64 0), (41, .bool false)]) ⟨rfl, rfl, rfl, rfl, rfl, trivial⟩ ?_
    refine AP (AG (Au rfl (Ax (AG ?_))))
    refine Bf [0, 1, 2, 3, 4, 5] rfl (Hc x hd1) rfl ?_
    refine Ad ?_
    refine Af Aj rfl ?_
    refine Ai rfl (Am (os' := fun v9 => [Ao 5 1 encB v9 y, Ap p d1, X]) [1] 0 (Ah Tryz.func59 (by kernel_rfl) rfl) (Fx hX (by omega)) rfl rfl rfl (fun _ => rfl) rfl rfl rfl) ?_; rintro v9
    refine Ch.fact 0 rfl (fun _ h => Ao.is h) ?_; rintro ⟨A9, c9, rfl⟩
    refine Ac rfl (.agg #[.int .i64 0, .string (bs n), .slice A9 y.length c9, .int .i64 0, .string { data := #[] }]) (fun b w hb hH => AV rfl rfl (by kernel_rfl) hb) ?_
    refine Ai rfl (Am (os' := fun _ => [E0, Ap p (Cn d1 (.app n y)), X]) [1, 0] 0 (Ah Tryz.func58 (by kernel_rfl) rfl) (KT (x := ⟨.app n y, A9, c9⟩) hd1 hfit1 hn hsz) rfl rfl rfl (fun _ => rfl) rfl rfl rfl) ?_; rintro ⟨⟩
    refine Ch.leave [0] rfl rfl ?_
    refine Af Aj rfl ?_
    refine Ab (Az ?_)
    exact Ay (.tmp rfl) (fun w h => AB () rfl [0, 1] rfl h Cz) rfl
theorem GE {p : Nat} {d d' : DiskD} {n b : List UInt8} {X : Ass} {v : Value} {e : Nat} (hd : d.fit) (hb : b.length ≤ 140737488355328) (hX : Cw X v b) (h : Cl d n b = (d', e)) : AS Tryz.prog 21 #[.pointer (some ⟨p, 0, none⟩), .string (bs n), v] [Ap p d, X] (fun _ : Unit => .int .i64 (e : Int)) (fun _ => [Ap p d', X]) := by
  unfold Cl at h
  obtain ⟨d1, e1, h1⟩ : ∃ d1 e1, Ba d = (d1, e1) := ⟨_, _, rfl⟩
  have h01 := GD d
  rw [h1] at h h01
  simp only at h h01
  rcases h01 with rfl | rfl
  · rw [if_pos (by decide)] at h
    cases h
    exact Rg (y := b) h1
  · rw [if_neg (by decide)] at h
    cases hn : CA n
    · rw [hn, if_pos rfl] at h
      cases h
      exact OZ (y := b) h1 hn
    · rw [hn, if_neg (by decide)] at h
      cases hf : EC d1 n b
      · rw [hf, if_pos rfl] at h
        cases h
        exact NA hX hd h1 hn hb hf
      · rw [hf, if_neg (by decide)] at h
        cases h
        exact Rh hX hd h1 hn hb hf
end Go.Proofs.YtnknboibmifacaaGreat.Sep
