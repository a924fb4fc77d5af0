/-
  DskH · DskI · DskJ
-/
import Derived.Test.YtnknboibmifacaaGreatDoorVD01
set_option linter.unusedSimpArgs false
set_option linter.unusedVariables false
set_option maxRecDepth 100000
namespace Go.Proofs.YtnknboibmifacaaGreatDoor.Sep
open Go.RowKit
open Go.Proofs.YtnknboibmifacaaGreatDoor.Mem (AR B3 Chg Av)
theorem N3 (room : Int) (h : 0 ≤ room ∧ room ≤ 1048576) : AP Tryz.prog 10 #[.int .i64 room] [] (fun (p : Nat) => .tuple #[.pointer (some ⟨p, 0, none⟩), .int .i64 0]) (fun (p : Nat) => [Ag p (G0 room)]) := by
 have h_ := h
 refine Bj (args := [.int .i64 room]) 12 Tryz.func10 rfl rfl rfl ?_; intro w rs
 refine Ad ?_
 refine Af Ar rfl ?_
 refine Ab (An (Ad ?_))
 refine Af Ar rfl ?_
 refine Am (post := fun _ => []) rfl (Bc (Aj Tryz.func39 (by kernel_rfl) rfl) (fun w hH => Py w room h) rfl rfl rfl) ?_; rintro ⟨⟩
 refine Af Ar rfl ?_
 refine Ab (As rfl (Aw (AB ?_)))
 refine BN 127 5 encO ?_
 refine NY (t := Cq ([])) (Fy) ?_
 refine NY (t := BA ([])) (Fy) ?_
 refine NY (t := BA ([])) (Fy) ?_
 refine Ad ?_
 refine Af Ar rfl ?_
 refine Am (post := fun ga => [BG encKey AM (.map (some ga)) ([]), BA ([]), BA ([]), Cq ([]), Ak 127 5 encO (.slice none 0 0) ([])]) rfl (Qt (kk := encKey) (vv := AM) rfl rfl) ?_; rintro ga
 refine Am (post := fun gb => [BG encKey AM (.map (some gb)) ([]), BG encKey AM (.map (some ga)) ([]), BA ([]), BA ([]), Cq ([]), Ak 127 5 encO (.slice none 0 0) ([])]) rfl (Qt (kk := encKey) (vv := AM) rfl rfl) ?_; rintro gb
 refine Aa rfl (.agg #[.int .i64 room, .int .i64 (-1), .bool false, .slice none 0 0, .map (some ga), .map (some gb)]) (fun b w hb hH => Bv rfl rfl (by kernel_rfl) hb) ?_
 refine Am (post := fun p => [cell p 84 #[.int .i64 room, .int .i64 (-1), .bool false, .slice none 0 0, .map (some ga), .map (some gb)], BG encKey AM (.map (some gb)) ([]), BG encKey AM (.map (some ga)) ([]), BA ([]), BA ([]), Cq ([]), Ak 127 5 encO (.slice none 0 0) ([])]) rfl (CD (cs := #[.int .i64 room, .int .i64 (-1), .bool false, .slice none 0 0, .map (some ga), .map (some gb)]) rfl rfl rfl) ?_; rintro p
 refine Af Ar rfl ?_
 refine Ab (Az ?_)
 exact Ch (.tmp rfl) (.tmp rfl) (fun w h => AC p rfl [0, 6, 5, 2, 4, 1, 3] rfl h (Th h_)) rfl
theorem Wp {p : Nat} {d : DiskD} {n y : List UInt8}  (hd : d.down = true) : AP Tryz.prog 94 #[.pointer (some ⟨p, 0, none⟩), .string (bs n)] [Ag p d] (fun (v : Value) => .tuple #[v, .bool false]) (fun (v : Value) => [Ag p d, Ak 5 1 encB v ([])]) := by
  refine Bj (args := [.pointer (some ⟨p, 0, none⟩), .string (bs n)]) 19 Tryz.func94 rfl rfl rfl ?_; intro w rs
  refine A7 0 rfl (QE hd) (fun _ => rfl) ?_; rintro x
  refine BN 5 1 encB ?_
  refine Ad ?_
  refine Af Ar rfl ?_
  refine Ab (An ?_)
  refine Gh 1 rfl ?_
  refine BV 13 2 [⟨.quiet, [none, none], fun _ => .pointer (some ⟨p, 0, none⟩), []⟩, ⟨.quiet, [none, none], fun _ => .pointer (some ⟨p, 0, none⟩), [0]⟩, ⟨.quiet, [none, none], fun _ => .pointer (some ⟨p, 5, none⟩), [1]⟩, ⟨.quiet, [none, none], fun _ => .map none, [2]⟩, ⟨.quiet, [none, none], fun _ => .string (bs n), []⟩, ⟨.quiet, [none, none], fun _ => .slice none 0 0, [3, 4]⟩, ⟨.act 0, [some false, some false], fun _ => undef, [5]⟩, ⟨.quiet, [none, none], fun _ => .pointer (some ⟨p, 0, none⟩), []⟩, ⟨.quiet, [none, none], fun _ => .pointer (some ⟨p, 0, none⟩), [7]⟩, ⟨.quiet, [none, none], fun _ => .pointer (some ⟨p, 5, none⟩), [8]⟩, ⟨.quiet, [none, none], fun _ => .map none, [9]⟩, ⟨.quiet, [none, none], fun _ => .string (bs n), []⟩, ⟨.actv 1, [some true, some false], fun _ => .bool false, [10, 11]⟩] [(0, .pointer (some ⟨p, 0, none⟩)), (1, .string (bs n)), (4, .slice none 0 0), (5, .bool false)] (fun ρ => match ρ with | [r0, r1] => [DR r0 (fun v9 => Ak 5 1 encB v9 ([])) (GE), Ak 5 1 encB (.slice none 0 0) ([]), cell p 84 #[.int .i64 d.room, .int .i64 (Ek d.fuse), .bool true, x.pv, x.sm, .map none], Ak 127 5 encO x.pv x.W, Cq x.W, AJ x.sm d.syn] | _ => []) (by kernel_rfl) (by kernel_rfl) ⟨rfl, rfl, rfl, rfl, trivial⟩ rfl ?_ ?_
  · skip
    refine Ac (by intro r0_ r1_; exact ⟨rfl, fun b w hH hb => Ah Ar rfl hb⟩) ?_
    refine Ac (by intro r0_ r1_; exact ⟨rfl, fun b w hH hb => by exact B8 rfl rfl hb⟩) ?_
    refine Ac (by intro r0_ r1_; exact ⟨rfl, fun b w hH hb => Ah Ar rfl hb⟩) ?_
    refine Ac (by intro r0_ r1_; exact ⟨rfl, fun b w hH hb => AY rfl rfl (Bi AX rfl) (hH.row 2 rfl) hb⟩) ?_
    refine Ac (by intro r0_ r1_; exact ⟨rfl, fun b w hH hb => Ah Ar rfl hb⟩) ?_
    refine Ac (by intro r0_ r1_; exact ⟨rfl, fun b w hH hb => UT Dg rfl (k := n) rfl rfl hb⟩) ?_
    refine Ac (by exact ⟨rfl, Bm.s (Au (os' := fun v9 => [Ak 5 1 encB v9 ([]), Ak 5 1 encB (.slice none 0 0) ([]), cell p 84 #[.int .i64 d.room, .int .i64 (Ek d.fuse), .bool true, x.pv, x.sm, .map none], Ak 127 5 encO x.pv x.W, Cq x.W, AJ x.sm d.syn]) [1, 0] 1 (Aj Tryz.func114 (by kernel_rfl) rfl) (FQ DI (by decide)) rfl rfl rfl (fun _ => rfl) rfl rfl rfl) (fun _ => rfl)⟩) ?_
    refine Ac (by intro r0_ r1_; exact ⟨rfl, fun b w hH hb => Ah Ar rfl hb⟩) ?_
    refine Ac (by intro r0_ r1_; exact ⟨rfl, fun b w hH hb => by exact B8 rfl rfl hb⟩) ?_
    refine Ac (by intro r0_ r1_; exact ⟨rfl, fun b w hH hb => Ah Ar rfl hb⟩) ?_
    refine Ac (by intro r0_ r1_; exact ⟨rfl, fun b w hH hb => AY rfl rfl (Bi AX rfl) (hH.row 2 rfl) hb⟩) ?_
    refine Ac (by intro r0_ r1_; exact ⟨rfl, fun b w hH hb => Ah Ar rfl hb⟩) ?_
    refine Ac (by intro v9; exact ⟨rfl, Bm.su (Au (os' := fun _ => [Ak 5 1 encB v9 ([]), Ak 5 1 encB (.slice none 0 0) ([]), cell p 84 #[.int .i64 d.room, .int .i64 (Ek d.fuse), .bool true, x.pv, x.sm, .map none], Ak 127 5 encO x.pv x.W, Cq x.W, AJ x.sm d.syn]) [] 0 (Aj Tryz.func103 (by kernel_rfl) rfl) (UV n) rfl rfl rfl (fun _ => rfl) rfl rfl rfl) rfl⟩) ?_
    exact B7
  intro v9 v1_
  refine BT.keep (env' := [(4, .slice none 0 0), (5, .bool false), (12, v9), (18, .bool false)]) ⟨rfl, rfl, rfl, rfl, trivial⟩ ?_
  refine Af Ar rfl ?_
  refine AD (AB (Az ?_))
  exact Ch (.tmp rfl) (.tmp rfl) (fun w h => AC v9 rfl [2, 3, 4, 5, 0] rfl h (KX ⟨x.pv, x.sm, .map none, x.W, [], x.hW, (fun h => by rw [hd] at h; cases h), x.hok, x.hf, x.hr, x.hk⟩ hd rfl)) rfl
theorem Tk {p : Nat} {d : DiskD} {n y : List UInt8}  (hd : d.down = false) (hg : Bq d.now n = none) : AP Tryz.prog 94 #[.pointer (some ⟨p, 0, none⟩), .string (bs n)] [Ag p d] (fun (v : Value) => .tuple #[v, .bool false]) (fun (v : Value) => [Ag p d, Ak 5 1 encB v ([])]) := by
  refine Bj (args := [.pointer (some ⟨p, 0, none⟩), .string (bs n)]) 19 Tryz.func94 rfl rfl rfl ?_; intro w rs
  refine A7 0 rfl (DW hd) (fun _ => rfl) ?_; rintro y
  refine AN.fact 3 rfl BY ?_; rintro hsn
  refine AN.fact 4 rfl B4 ?_; rintro hgn
  have hgL : Bq y.L n = none := by rw [Ij y.hg hgn] at hg; simpa using hg
  refine BN 5 1 encB ?_
  refine Ad ?_
  refine Af Ar rfl ?_
  refine Ab (An ?_)
  refine Gh 1 rfl ?_
  refine BV 13 2 [⟨.quiet, [none, none], fun _ => .pointer (some ⟨p, 0, none⟩), []⟩, ⟨.quiet, [none, none], fun _ => .pointer (some ⟨p, 0, none⟩), [0]⟩, ⟨.quiet, [none, none], fun _ => .pointer (some ⟨p, 5, none⟩), [1]⟩, ⟨.quiet, [none, none], fun _ => y.sh, [2]⟩, ⟨.quiet, [none, none], fun _ => .string (bs n), []⟩, ⟨.quiet, [none, none], fun _ => .slice none 0 0, [3, 4]⟩, ⟨.act 0, [some false, some false], fun _ => undef, [5]⟩, ⟨.quiet, [none, none], fun _ => .pointer (some ⟨p, 0, none⟩), []⟩, ⟨.quiet, [none, none], fun _ => .pointer (some ⟨p, 0, none⟩), [7]⟩, ⟨.quiet, [none, none], fun _ => .pointer (some ⟨p, 5, none⟩), [8]⟩, ⟨.quiet, [none, none], fun _ => y.sh, [9]⟩, ⟨.quiet, [none, none], fun _ => .string (bs n), []⟩, ⟨.actv 1, [some true, some false], fun _ => .bool false, [10, 11]⟩] [(0, .pointer (some ⟨p, 0, none⟩)), (1, .string (bs n)), (4, .slice none 0 0), (5, .bool false)] (fun ρ => match ρ with | [r0, r1] => [DR r0 (fun v9 => Ak 5 1 encB v9 ([])) (GE), Ak 5 1 encB (.slice none 0 0) ([]), cell p 84 #[.int .i64 d.room, .int .i64 (Ek d.fuse), .bool false, y.pv, y.sm, y.sh], Ak 127 5 encO y.pv y.W, Cq y.W, AJ y.sm d.syn, BG encKey AM y.sh y.L, BA y.L] | _ => []) (by kernel_rfl) (by kernel_rfl) ⟨rfl, rfl, rfl, rfl, trivial⟩ rfl ?_ ?_
  · skip
    refine Ac (by intro r0_ r1_; exact ⟨rfl, fun b w hH hb => Ah Ar rfl hb⟩) ?_
    refine Ac (by intro r0_ r1_; exact ⟨rfl, fun b w hH hb => by exact B8 rfl rfl hb⟩) ?_
    refine Ac (by intro r0_ r1_; exact ⟨rfl, fun b w hH hb => Ah Ar rfl hb⟩) ?_
    refine Ac (by intro r0_ r1_; exact ⟨rfl, fun b w hH hb => AY rfl rfl (Bi AX rfl) (hH.row 2 rfl) hb⟩) ?_
    refine Ac (by intro r0_ r1_; exact ⟨rfl, fun b w hH hb => Ah Ar rfl hb⟩) ?_
    refine Ac (by intro r0_ r1_; exact ⟨rfl, fun b w hH hb => GW 6 Dg rfl (k := n) (r := none) hgL rfl rfl rfl hH hb⟩) ?_
    refine Ac (by exact ⟨rfl, Bm.s (Au (os' := fun v9 => [Ak 5 1 encB v9 ([]), Ak 5 1 encB (.slice none 0 0) ([]), cell p 84 #[.int .i64 d.room, .int .i64 (Ek d.fuse), .bool false, y.pv, y.sm, y.sh], Ak 127 5 encO y.pv y.W, Cq y.W, AJ y.sm d.syn, BG encKey AM y.sh y.L, BA y.L]) [1, 0] 1 (Aj Tryz.func114 (by kernel_rfl) rfl) (FQ DI (by decide)) rfl rfl rfl (fun _ => rfl) rfl rfl rfl) (fun _ => rfl)⟩) ?_
    refine Ac (by intro r0_ r1_; exact ⟨rfl, fun b w hH hb => Ah Ar rfl hb⟩) ?_
    refine Ac (by intro r0_ r1_; exact ⟨rfl, fun b w hH hb => by exact B8 rfl rfl hb⟩) ?_
    refine Ac (by intro r0_ r1_; exact ⟨rfl, fun b w hH hb => Ah Ar rfl hb⟩) ?_
    refine Ac (by intro r0_ r1_; exact ⟨rfl, fun b w hH hb => AY rfl rfl (Bi AX rfl) (hH.row 2 rfl) hb⟩) ?_
    refine Ac (by intro r0_ r1_; exact ⟨rfl, fun b w hH hb => Ah Ar rfl hb⟩) ?_
    refine Ac (by intro v9; exact ⟨rfl, Bm.su (Au (os' := fun _ => [Ak 5 1 encB v9 ([]), Ak 5 1 encB (.slice none 0 0) ([]), cell p 84 #[.int .i64 d.room, .int .i64 (Ek d.fuse), .bool false, y.pv, y.sm, y.sh], Ak 127 5 encO y.pv y.W, Cq y.W, AJ y.sm d.syn, BG encKey AM y.sh y.L, BA y.L]) [6] 0 (Aj Tryz.func103 (by kernel_rfl) rfl) (Gz _ _ n _ hgL) rfl rfl rfl (fun _ => rfl) rfl rfl rfl) rfl⟩) ?_
    exact B7
  intro v9 v1_
  refine BT.keep (env' := [(4, .slice none 0 0), (5, .bool false), (12, v9), (18, .bool false)]) ⟨rfl, rfl, rfl, rfl, trivial⟩ ?_
  refine Af Ar rfl ?_
  refine AD (AB (Az ?_))
  exact Ch (.tmp rfl) (.tmp rfl) (fun w h => AC v9 rfl [2, 3, 4, 5, 6, 7, 0] rfl h (Dp y hd)) rfl
theorem Tl {p : Nat} {d : DiskD} {n y : List UInt8}  (hd : d.down = false) (hfit : d.fit) (hg : Bq d.now n = some y) : AP Tryz.prog 94 #[.pointer (some ⟨p, 0, none⟩), .string (bs n)] [Ag p d] (fun (v : Value) => .tuple #[v, .bool true]) (fun (v : Value) => [Ag p d, Ak 5 1 encB v y]) := by
  refine Bj (args := [.pointer (some ⟨p, 0, none⟩), .string (bs n)]) 19 Tryz.func94 rfl rfl rfl ?_; intro w rs
  refine A7 0 rfl (DW hd) (fun _ => rfl) ?_; rintro x
  refine AN.fact 3 rfl BY ?_; rintro hsn
  refine AN.fact 4 rfl B4 ?_; rintro hgn
  obtain ⟨r, hgL, hry⟩ : ∃ r, Bq x.L n = some r ∧ r.2 = y := by rw [Ij x.hg hgn] at hg; exact Option.map_eq_some_iff.1 hg
  subst hry
  have hm : (n, r) ∈ x.L := (Cx (by rw [FC] at hgn; exact hgn)).1 hgL
  have hpu : Be (CW x.L) ≤ 1099511627776 := by rw [EF x.hg]; exact MS hfit hsn x.hok
  have hrl : r.2.length ≤ Be (CW x.L) := N0 hgn (by rw [Ej, hgL]; rfl)
  refine Ad ?_
  refine Af Ar rfl ?_
  refine Ab (An ?_)
  refine Gh 1 rfl ?_
  refine BV 13 2 [⟨.quiet, [none, none], fun _ => .pointer (some ⟨p, 0, none⟩), []⟩, ⟨.quiet, [none, none], fun _ => .pointer (some ⟨p, 0, none⟩), [0]⟩, ⟨.quiet, [none, none], fun _ => .pointer (some ⟨p, 5, none⟩), [1]⟩, ⟨.quiet, [none, none], fun _ => x.sh, [2]⟩, ⟨.quiet, [none, none], fun _ => .string (bs n), []⟩, ⟨.quiet, [none, none], fun _ => r.1, [3, 4]⟩, ⟨.act 0, [some false, some false], fun _ => undef, [5]⟩, ⟨.quiet, [none, none], fun _ => .pointer (some ⟨p, 0, none⟩), []⟩, ⟨.quiet, [none, none], fun _ => .pointer (some ⟨p, 0, none⟩), [7]⟩, ⟨.quiet, [none, none], fun _ => .pointer (some ⟨p, 5, none⟩), [8]⟩, ⟨.quiet, [none, none], fun _ => x.sh, [9]⟩, ⟨.quiet, [none, none], fun _ => .string (bs n), []⟩, ⟨.actv 1, [some true, some false], fun _ => .bool true, [10, 11]⟩] [(0, .pointer (some ⟨p, 0, none⟩)), (1, .string (bs n)), (4, .slice none 0 0), (5, .bool false)] (fun ρ => match ρ with | [r0, r1] => [DR r0 (fun v9 => Ak 5 1 encB v9 r.2) (GE), cell p 84 #[.int .i64 d.room, .int .i64 (Ek d.fuse), .bool false, x.pv, x.sm, x.sh], Ak 127 5 encO x.pv x.W, Cq x.W, AJ x.sm d.syn, BG encKey AM x.sh x.L, BA x.L] | _ => []) (by kernel_rfl) (by kernel_rfl) ⟨rfl, rfl, rfl, rfl, trivial⟩ rfl ?_ ?_
  · skip
    refine Ac (by intro r0_ r1_; exact ⟨rfl, fun b w hH hb => Ah Ar rfl hb⟩) ?_
    refine Ac (by intro r0_ r1_; exact ⟨rfl, fun b w hH hb => by exact B8 rfl rfl hb⟩) ?_
    refine Ac (by intro r0_ r1_; exact ⟨rfl, fun b w hH hb => Ah Ar rfl hb⟩) ?_
    refine Ac (by intro r0_ r1_; exact ⟨rfl, fun b w hH hb => AY rfl rfl (Bi AX rfl) (hH.row 1 rfl) hb⟩) ?_
    refine Ac (by intro r0_ r1_; exact ⟨rfl, fun b w hH hb => Ah Ar rfl hb⟩) ?_
    refine Ac (by intro r0_ r1_; exact ⟨rfl, fun b w hH hb => GW 5 Dg rfl (k := n) (r := some r) hgL rfl rfl rfl hH hb⟩) ?_
    refine Ac (by exact ⟨rfl, Bm.s (Au (os' := fun v9 => [Ak 5 1 encB v9 r.2, cell p 84 #[.int .i64 d.room, .int .i64 (Ek d.fuse), .bool false, x.pv, x.sm, x.sh], Ak 127 5 encO x.pv x.W, Cq x.W, AJ x.sm d.syn, BG encKey AM x.sh x.L, BA x.L]) [6, 0] 1 (Aj Tryz.func114 (by kernel_rfl) rfl) (FQ (Kh hm) (by show r.2.length ≤ _; omega)) rfl rfl rfl (fun _ => rfl) rfl rfl rfl) (fun _ => rfl)⟩) ?_
    refine Ac (by intro r0_ r1_; exact ⟨rfl, fun b w hH hb => Ah Ar rfl hb⟩) ?_
    refine Ac (by intro r0_ r1_; exact ⟨rfl, fun b w hH hb => by exact B8 rfl rfl hb⟩) ?_
    refine Ac (by intro r0_ r1_; exact ⟨rfl, fun b w hH hb => Ah Ar rfl hb⟩) ?_
    refine Ac (by intro r0_ r1_; exact ⟨rfl, fun b w hH hb => AY rfl rfl (Bi AX rfl) (hH.row 1 rfl) hb⟩) ?_
    refine Ac (by intro r0_ r1_; exact ⟨rfl, fun b w hH hb => Ah Ar rfl hb⟩) ?_
    refine Ac (by intro v9; exact ⟨rfl, Bm.su (Au (os' := fun _ => [Ak 5 1 encB v9 r.2, cell p 84 #[.int .i64 d.room, .int .i64 (Ek d.fuse), .bool false, x.pv, x.sm, x.sh], Ak 127 5 encO x.pv x.W, Cq x.W, AJ x.sm d.syn, BG encKey AM x.sh x.L, BA x.L]) [5] 0 (Aj Tryz.func103 (by kernel_rfl) rfl) (Gz _ _ n _ hgL) rfl rfl rfl (fun _ => rfl) rfl rfl rfl) rfl⟩) ?_
    exact B7
  intro v9 v1_
  refine BT.keep (env' := [(4, .slice none 0 0), (5, .bool false), (12, v9), (18, .bool true)]) ⟨rfl, rfl, rfl, rfl, trivial⟩ ?_
  refine Af Ar rfl ?_
  refine AD (AB (Az ?_))
  exact Ch (.tmp rfl) (.tmp rfl) (fun w h => AC v9 rfl [1, 2, 3, 4, 5, 6, 0] rfl h (Dp x hd)) rfl
theorem RK {p : Nat} {d : DiskD} {n b : List UInt8} {ok : Bool} (hd : d.fit) (h : (D6 d n).isSome = ok) (hb : (D6 d n).getD [] = b) : AP Tryz.prog 94 #[.pointer (some ⟨p, 0, none⟩), .string (bs n)] [Ag p d] (fun v : Value => .tuple #[v, .bool ok]) (fun v => [Ag p d, Ak 5 1 encB v b]) := by
  subst h hb
  unfold D6
  cases hdn : d.down
  · rw [if_neg (by simp)]
    cases hg : Bq d.now n with
    | none => exact Tk (y := []) hdn hg
    | some y => exact Tl hdn hd hg
  · rw [if_pos rfl]
    exact Wp (y := []) hdn
end Go.Proofs.YtnknboibmifacaaGreatDoor.Sep
namespace Go.Proofs.YtnknboibmifacaaGreatDoor.Sep
open Go.RowKit
open Go.Proofs.YtnknboibmifacaaGreatDoor.Mem (AR B3 Chg Av)
theorem RL {X : Ass} {p : Nat} {d d1 : DiskD} {n y : List UInt8} {v : Value} (h : Cj d = (d1, 3)) : AP Tryz.prog 55 #[.pointer (some ⟨p, 0, none⟩), .string (bs n), v] [Ag p d, X] (fun (_ : Unit) => .int .i64 3) (fun (_ : Unit) => [Ag p d1, X]) := by
 refine Bj (args := [.pointer (some ⟨p, 0, none⟩), .string (bs n), v]) 48 Tryz.func55 rfl rfl rfl ?_; intro w rs
 refine Ad ?_
 refine Af Ar rfl ?_
 refine Ab (An (Ad ?_))
 refine Af Ar rfl ?_
 refine Am rfl (Au (os' := fun _ => [Ag p d1, X]) [0] 0 (Aj Tryz.func84 (by kernel_rfl) rfl) (K1 h) rfl rfl rfl (fun _ => rfl) rfl rfl rfl) ?_; rintro ⟨⟩
 refine Af Ar rfl ?_
 refine Ab (AI rfl (Ad ?_))
 refine Af Ar rfl ?_
 refine Ab (Az (D8 ?_))
 exact Ay (.tmp rfl) (fun w h => AC () rfl [0, 1] rfl h Ed) rfl
theorem PB {X : Ass} {p : Nat} {d d1 : DiskD} {n y : List UInt8} {v : Value} (h : Cj d = (d1, 0)) (hn : DM n = false) : AP Tryz.prog 55 #[.pointer (some ⟨p, 0, none⟩), .string (bs n), v] [Ag p d, X] (fun (_ : Unit) => .int .i64 1) (fun (_ : Unit) => [Ag p d1, X]) := by
 refine Bj (args := [.pointer (some ⟨p, 0, none⟩), .string (bs n), v]) 48 Tryz.func55 rfl rfl rfl ?_; intro w rs
 refine Ad ?_
 refine Af Ar rfl ?_
 refine Ab (An (Ad ?_))
 refine Af Ar rfl ?_
 refine Am rfl (Au (os' := fun _ => [Ag p d1, X]) [0] 0 (Aj Tryz.func84 (by kernel_rfl) rfl) (EU h) rfl rfl rfl (fun _ => rfl) rfl rfl rfl) ?_; rintro ⟨⟩
 refine Af Ar rfl ?_
 refine Ab (As rfl (Aw (AB (An (Ad ?_)))))
 refine Af Ar rfl ?_
 refine Am (post := fun _ => [Ag p d1, X]) rfl (Bc (Aj Tryz.func112 (by kernel_rfl) rfl) (fun w hH => Pz w n hn) rfl rfl rfl) ?_; rintro ⟨⟩
 refine Af Ar rfl ?_
 refine Ab (AI rfl (Ad ?_))
 refine Af Ar rfl ?_
 refine Ab (Az (D8 ?_))
 exact Ay (.tmp rfl) (fun w h => AC () rfl [0, 1] rfl h Ed) rfl
theorem N4 {X : Ass} {p : Nat} {d d1 : DiskD} {n y : List UInt8} {v : Value} (hX : E3 X v y) (hfit : d.fit) (h : Cj d = (d1, 0)) (hn : DM n = true) (hy : y.length ≤ 140737488355328) (hf : H4 d1 n y = false) : AP Tryz.prog 55 #[.pointer (some ⟨p, 0, none⟩), .string (bs n), v] [Ag p d, X] (fun (_ : Unit) => .int .i64 2) (fun (_ : Unit) => [Ag p d1, X]) := by
  have hd1 := (EV h).1
  have hfit1 := EG h hfit
  refine Bj (args := [.pointer (some ⟨p, 0, none⟩), .string (bs n), v]) 48 Tryz.func55 rfl rfl rfl ?_; intro w rs
  refine Ad ?_
  refine Af Ar rfl ?_
  refine Ab (An (Ad ?_))
  refine Af Ar rfl ?_
  refine Am rfl (Au (os' := fun _ => [Ag p d1, X]) [0] 0 (Aj Tryz.func84 (by kernel_rfl) rfl) (EU h) rfl rfl rfl (fun _ => rfl) rfl rfl rfl) ?_; rintro ⟨⟩
  refine Af Ar rfl ?_
  refine Ab (As rfl (Aw (AB (An (Ad ?_)))))
  refine Af Ar rfl ?_
  refine Am (post := fun _ => [Ag p d1, X]) rfl (Bc (Aj Tryz.func112 (by kernel_rfl) rfl) (fun w hH => KZ w n hn) rfl rfl rfl) ?_; rintro ⟨⟩
  refine Af Ar rfl ?_
  refine Ab (As rfl (Aw (AB ?_)))
  refine A7 0 rfl (DW hd1) (fun _ => rfl) ?_; rintro x
  refine AN.fact 3 rfl BY ?_; rintro hsn
  refine AN.fact 4 rfl B4 ?_; rintro hgn
  have hr := x.hr
  have hpu : Be (CW x.L) ≤ 1099511627776 := by rw [EF x.hg]; exact MS hfit1 hsn x.hok
  rcases RG x.hg hgn hf with ⟨hlen, hgL⟩ | ⟨hlen, r, hgL⟩ | ⟨hlen, hgL, h64⟩
  · skip
    refine Ad ?_
    refine Af Ar rfl ?_
    refine Aa rfl (.pointer (some ⟨p, 0, none⟩)) (fun b w hb hH => by exact B8 rfl rfl hb) ?_
    refine Af Ar rfl ?_
    refine Aa rfl (x.sh) (fun b w hb hH => AY rfl rfl (Bi AX rfl) (hH.row 0 rfl) hb) ?_
    refine Af Ar rfl ?_
    refine Am rfl (Au (os' := fun _ => [cell p 84 #[.int .i64 d1.room, .int .i64 (Ek d1.fuse), .bool false, x.pv, x.sm, x.sh], Ak 127 5 encO x.pv x.W, Cq x.W, AJ x.sm d1.syn, BG encKey AM x.sh x.L, BA x.L, X]) [4] 0 (Aj Tryz.func103 (by kernel_rfl) rfl) (Gz _ _ n _ hgL) rfl rfl rfl (fun _ => rfl) rfl rfl rfl) ?_; rintro ⟨⟩
    refine Af Ar rfl ?_
    refine Ab (An (An ?_))
    refine BV 21 1 [⟨.quiet, [none], fun _ => v, []⟩, ⟨.quiet, [none], fun _ => .int .i64 (y.length : Int), [0]⟩, ⟨.quiet, [none], fun _ => .pointer (some ⟨p, 0, none⟩), []⟩, ⟨.quiet, [none], fun _ => .pointer (some ⟨p, 0, none⟩), [2]⟩, ⟨.quiet, [none], fun _ => .pointer (some ⟨p, 0, none⟩), [3]⟩, ⟨.quiet, [none], fun _ => .int .i64 d1.room, [4]⟩, ⟨.quiet, [none], fun _ => .pointer (some ⟨p, 0, none⟩), []⟩, ⟨.actv 0, [some false], fun _ => .int .i64 ((Be (CW x.L) : Nat) : Int), [6]⟩, ⟨.quiet, [some true], fun _ => .int .i64 (d1.room - (Be (CW x.L) : Int)), [5, 7]⟩, ⟨.quiet, [some true], fun _ => .bool true, [1, 8]⟩, ⟨.quiet, [some true], fun _ => .bool true, [9]⟩, ⟨.skip, [some true], fun _ => undef, [10]⟩, ⟨.skip, [some true], fun _ => undef, [11, 10]⟩, ⟨.skip, [some true], fun _ => undef, [12]⟩, ⟨.skip, [some true], fun _ => undef, [13, 12]⟩, ⟨.skip, [some true], fun _ => undef, [14, 12]⟩, ⟨.skip, [some true], fun _ => undef, [15, 12]⟩, ⟨.skip, [some true], fun _ => undef, [16, 12]⟩, ⟨.skip, [some true], fun _ => undef, [17, 12]⟩, ⟨.skip, [some true], fun _ => undef, [12, 18, 10]⟩, ⟨.quiet, [some true], fun _ => .bool true, [10, 19]⟩] [(0, .pointer (some ⟨p, 0, none⟩)), (1, .string (bs n)), (2, v), (6, .int .i64 0), (7, .bool true)] (fun ρ => match ρ with | [r0] => [cell p 84 #[.int .i64 d1.room, .int .i64 (Ek d1.fuse), .bool false, x.pv, x.sm, x.sh], Ak 127 5 encO x.pv x.W, Cq x.W, AJ x.sm d1.syn, BG encKey AM x.sh x.L, BA x.L, X] | _ => []) (by kernel_rfl) (by kernel_rfl) ⟨rfl, rfl, rfl, rfl, rfl, trivial⟩ rfl ?_ ?_
    · skip
      refine Ac (by intro r0_; exact ⟨rfl, fun b w hH hb => Ah Ar rfl hb⟩) ?_
      refine Ac (by intro r0_; exact ⟨rfl, fun b w hH hb => Bp ((hH.rd8 6 rfl hX).rd) Tryz.underlying30 rfl rfl hb⟩) ?_
      refine Ac (by intro r0_; exact ⟨rfl, fun b w hH hb => Ah Ar rfl hb⟩) ?_
      refine Ac (by intro r0_; exact ⟨rfl, fun b w hH hb => by exact B8 rfl rfl hb⟩) ?_
      refine Ac (by intro r0_; exact ⟨rfl, fun b w hH hb => Ah Ar rfl hb⟩) ?_
      refine Ac (by intro r0_; exact ⟨rfl, fun b w hH hb => AY rfl rfl (Bi Bh rfl) (hH.row 0 rfl) hb⟩) ?_
      refine Ac (by intro r0_; exact ⟨rfl, fun b w hH hb => Ah Ar rfl hb⟩) ?_
      refine Ac (by exact ⟨rfl, Bm.su (Au (os' := fun _ => [cell p 84 #[.int .i64 d1.room, .int .i64 (Ek d1.fuse), .bool false, x.pv, x.sm, x.sh], Ak 127 5 encO x.pv x.W, Cq x.W, AJ x.sm d1.syn, BG encKey AM x.sh x.L, BA x.L, X]) [0, 4, 5] 0 (Aj Tryz.func113 (by kernel_rfl) rfl) (K0 p _ _ _ _ _ _ x.L hpu) rfl rfl rfl (fun _ => rfl) rfl rfl rfl) rfl⟩) ?_
      refine Ac (by intro v0_; exact ⟨rfl, fun b w hH hb => AH rfl rfl rfl rfl (IntWalk.i64_in _ (by omega)) hb⟩) ?_
      refine Ac (by intro v0_; exact ⟨rfl, fun b w hH hb => AZ rfl rfl rfl (BO (by omega)) hb⟩) ?_
      refine Ac (by intro v0_; exact ⟨rfl, fun b w hH hb => Ah Ar rfl hb⟩) ?_
      refine Ac (by intro v0_; exact ⟨rfl, rfl⟩) ?_
      refine Ac (by intro v0_; exact ⟨rfl, rfl⟩) ?_
      refine Ac (by intro v0_; exact ⟨rfl, rfl⟩) ?_
      refine Ac (by intro v0_; exact ⟨rfl, rfl⟩) ?_
      refine Ac (by intro v0_; exact ⟨rfl, rfl⟩) ?_
      refine Ac (by intro v0_; exact ⟨rfl, rfl⟩) ?_
      refine Ac (by intro v0_; exact ⟨rfl, rfl⟩) ?_
      refine Ac (by intro v0_; exact ⟨rfl, rfl⟩) ?_
      refine Ac (by intro v0_; exact ⟨rfl, rfl⟩) ?_
      refine Ac (by intro v0_; exact ⟨rfl, fun b w hH hb => Ah Ar rfl hb⟩) ?_
      exact B7
    intro v0_
    refine BT.keep (env' := [(0, .pointer (some ⟨p, 0, none⟩)), (1, .string (bs n)), (2, v), (6, .int .i64 0), (41, .bool true)]) ⟨rfl, rfl, rfl, rfl, rfl, trivial⟩ ?_
    refine AD (AB (AI rfl (Ad ?_)))
    refine Af Ar rfl ?_
    refine Ab (Az (D8 ?_))
    exact Ay (.tmp rfl) (fun w h => AC () rfl [0, 1, 2, 3, 4, 5, 6] rfl h (Dp x hd1)) rfl
  · skip
    refine Ad ?_
    refine Af Ar rfl ?_
    refine Aa rfl (.pointer (some ⟨p, 0, none⟩)) (fun b w hb hH => by exact B8 rfl rfl hb) ?_
    refine Af Ar rfl ?_
    refine Aa rfl (x.sh) (fun b w hb hH => AY rfl rfl (Bi AX rfl) (hH.row 0 rfl) hb) ?_
    refine Af Ar rfl ?_
    refine Am rfl (Au (os' := fun _ => [cell p 84 #[.int .i64 d1.room, .int .i64 (Ek d1.fuse), .bool false, x.pv, x.sm, x.sh], Ak 127 5 encO x.pv x.W, Cq x.W, AJ x.sm d1.syn, BG encKey AM x.sh x.L, BA x.L, X]) [4] 0 (Aj Tryz.func103 (by kernel_rfl) rfl) (Gz _ _ n _ hgL) rfl rfl rfl (fun _ => rfl) rfl rfl rfl) ?_; rintro ⟨⟩
    refine Af Ar rfl ?_
    refine Ab (An (An ?_))
    refine BV 21 1 [⟨.quiet, [none], fun _ => v, []⟩, ⟨.quiet, [none], fun _ => .int .i64 (y.length : Int), [0]⟩, ⟨.quiet, [none], fun _ => .pointer (some ⟨p, 0, none⟩), []⟩, ⟨.quiet, [none], fun _ => .pointer (some ⟨p, 0, none⟩), [2]⟩, ⟨.quiet, [none], fun _ => .pointer (some ⟨p, 0, none⟩), [3]⟩, ⟨.quiet, [none], fun _ => .int .i64 d1.room, [4]⟩, ⟨.quiet, [none], fun _ => .pointer (some ⟨p, 0, none⟩), []⟩, ⟨.actv 0, [some false], fun _ => .int .i64 ((Be (CW x.L) : Nat) : Int), [6]⟩, ⟨.quiet, [some true], fun _ => .int .i64 (d1.room - (Be (CW x.L) : Int)), [5, 7]⟩, ⟨.quiet, [some true], fun _ => .bool true, [1, 8]⟩, ⟨.quiet, [some true], fun _ => .bool true, [9]⟩, ⟨.skip, [some true], fun _ => undef, [10]⟩, ⟨.skip, [some true], fun _ => undef, [11, 10]⟩, ⟨.skip, [some true], fun _ => undef, [12]⟩, ⟨.skip, [some true], fun _ => undef, [13, 12]⟩, ⟨.skip, [some true], fun _ => undef, [14, 12]⟩, ⟨.skip, [some true], fun _ => undef, [15, 12]⟩, ⟨.skip, [some true], fun _ => undef, [16, 12]⟩, ⟨.skip, [some true], fun _ => undef, [17, 12]⟩, ⟨.skip, [some true], fun _ => undef, [12, 18, 10]⟩, ⟨.quiet, [some true], fun _ => .bool true, [10, 19]⟩] [(0, .pointer (some ⟨p, 0, none⟩)), (1, .string (bs n)), (2, v), (6, .int .i64 0), (7, .bool false)] (fun ρ => match ρ with | [r0] => [cell p 84 #[.int .i64 d1.room, .int .i64 (Ek d1.fuse), .bool false, x.pv, x.sm, x.sh], Ak 127 5 encO x.pv x.W, Cq x.W, AJ x.sm d1.syn, BG encKey AM x.sh x.L, BA x.L, X] | _ => []) (by kernel_rfl) (by kernel_rfl) ⟨rfl, rfl, rfl, rfl, rfl, trivial⟩ rfl ?_ ?_
    · skip
      refine Ac (by intro r0_; exact ⟨rfl, fun b w hH hb => Ah Ar rfl hb⟩) ?_
      refine Ac (by intro r0_; exact ⟨rfl, fun b w hH hb => Bp ((hH.rd8 6 rfl hX).rd) Tryz.underlying30 rfl rfl hb⟩) ?_
      refine Ac (by intro r0_; exact ⟨rfl, fun b w hH hb => Ah Ar rfl hb⟩) ?_
      refine Ac (by intro r0_; exact ⟨rfl, fun b w hH hb => by exact B8 rfl rfl hb⟩) ?_
      refine Ac (by intro r0_; exact ⟨rfl, fun b w hH hb => Ah Ar rfl hb⟩) ?_
      refine Ac (by intro r0_; exact ⟨rfl, fun b w hH hb => AY rfl rfl (Bi Bh rfl) (hH.row 0 rfl) hb⟩) ?_
      refine Ac (by intro r0_; exact ⟨rfl, fun b w hH hb => Ah Ar rfl hb⟩) ?_
      refine Ac (by exact ⟨rfl, Bm.su (Au (os' := fun _ => [cell p 84 #[.int .i64 d1.room, .int .i64 (Ek d1.fuse), .bool false, x.pv, x.sm, x.sh], Ak 127 5 encO x.pv x.W, Cq x.W, AJ x.sm d1.syn, BG encKey AM x.sh x.L, BA x.L, X]) [0, 4, 5] 0 (Aj Tryz.func113 (by kernel_rfl) rfl) (K0 p _ _ _ _ _ _ x.L hpu) rfl rfl rfl (fun _ => rfl) rfl rfl rfl) rfl⟩) ?_
      refine Ac (by intro v0_; exact ⟨rfl, fun b w hH hb => AH rfl rfl rfl rfl (IntWalk.i64_in _ (by omega)) hb⟩) ?_
      refine Ac (by intro v0_; exact ⟨rfl, fun b w hH hb => AZ rfl rfl rfl (BO (by omega)) hb⟩) ?_
      refine Ac (by intro v0_; exact ⟨rfl, fun b w hH hb => Ah Ar rfl hb⟩) ?_
      refine Ac (by intro v0_; exact ⟨rfl, rfl⟩) ?_
      refine Ac (by intro v0_; exact ⟨rfl, rfl⟩) ?_
      refine Ac (by intro v0_; exact ⟨rfl, rfl⟩) ?_
      refine Ac (by intro v0_; exact ⟨rfl, rfl⟩) ?_
      refine Ac (by intro v0_; exact ⟨rfl, rfl⟩) ?_
      refine Ac (by intro v0_; exact ⟨rfl, rfl⟩) ?_
      refine Ac (by intro v0_; exact ⟨rfl, rfl⟩) ?_
      refine Ac (by intro v0_; exact ⟨rfl, rfl⟩) ?_
      refine Ac (by intro v0_; exact ⟨rfl, rfl⟩) ?_
      refine Ac (by intro v0_; exact ⟨rfl, fun b w hH hb => Ah Ar rfl hb⟩) ?_
      exact B7
    intro v0_
    refine BT.keep (env' := [(0, .pointer (some ⟨p, 0, none⟩)), (1, .string (bs n)), (2, v), (6, .int .i64 0), (41, .bool true)]) ⟨rfl, rfl, rfl, rfl, rfl, trivial⟩ ?_
    refine AD (AB (AI rfl (Ad ?_)))
    refine Af Ar rfl ?_
    refine Ab (Az (D8 ?_))
    exact Ay (.tmp rfl) (fun w h => AC () rfl [0, 1, 2, 3, 4, 5, 6] rfl h (Dp x hd1)) rfl
  · skip
    refine Ad ?_
    refine Af Ar rfl ?_
    refine Aa rfl (.pointer (some ⟨p, 0, none⟩)) (fun b w hb hH => by exact B8 rfl rfl hb) ?_
    refine Af Ar rfl ?_
    refine Aa rfl (x.sh) (fun b w hb hH => AY rfl rfl (Bi AX rfl) (hH.row 0 rfl) hb) ?_
    refine Af Ar rfl ?_
    refine Am rfl (Au (os' := fun _ => [cell p 84 #[.int .i64 d1.room, .int .i64 (Ek d1.fuse), .bool false, x.pv, x.sm, x.sh], Ak 127 5 encO x.pv x.W, Cq x.W, AJ x.sm d1.syn, BG encKey AM x.sh x.L, BA x.L, X]) [4] 0 (Aj Tryz.func103 (by kernel_rfl) rfl) (Gz _ _ n _ hgL) rfl rfl rfl (fun _ => rfl) rfl rfl rfl) ?_; rintro ⟨⟩
    refine Af Ar rfl ?_
    refine Ab (An (An ?_))
    refine BV 21 1 [⟨.quiet, [none], fun _ => v, []⟩, ⟨.quiet, [none], fun _ => .int .i64 (y.length : Int), [0]⟩, ⟨.quiet, [none], fun _ => .pointer (some ⟨p, 0, none⟩), []⟩, ⟨.quiet, [none], fun _ => .pointer (some ⟨p, 0, none⟩), [2]⟩, ⟨.quiet, [none], fun _ => .pointer (some ⟨p, 0, none⟩), [3]⟩, ⟨.quiet, [none], fun _ => .int .i64 d1.room, [4]⟩, ⟨.quiet, [none], fun _ => .pointer (some ⟨p, 0, none⟩), []⟩, ⟨.actv 0, [some false], fun _ => .int .i64 ((Be (CW x.L) : Nat) : Int), [6]⟩, ⟨.quiet, [some true], fun _ => .int .i64 (d1.room - (Be (CW x.L) : Int)), [5, 7]⟩, ⟨.quiet, [some true], fun _ => .bool false, [1, 8]⟩, ⟨.quiet, [some true], fun _ => .bool false, [9]⟩, ⟨.quiet, [some true], fun _ => .bool true, [10]⟩, ⟨.quiet, [some true], fun _ => .bool true, [11, 10]⟩, ⟨.quiet, [some true], fun _ => .pointer (some ⟨p, 0, none⟩), [12]⟩, ⟨.quiet, [some true], fun _ => .pointer (some ⟨p, 0, none⟩), [13, 12]⟩, ⟨.quiet, [some true], fun _ => .pointer (some ⟨p, 5, none⟩), [14, 12]⟩, ⟨.quiet, [some true], fun _ => x.sh, [15, 12]⟩, ⟨.quiet, [some true], fun _ => .int .i64 (x.L.length : Int), [16, 12]⟩, ⟨.quiet, [some true], fun _ => .bool true, [17, 12]⟩, ⟨.quiet, [some true], fun _ => .bool true, [12, 18, 10]⟩, ⟨.quiet, [some true], fun _ => .bool true, [10, 19]⟩] [(0, .pointer (some ⟨p, 0, none⟩)), (1, .string (bs n)), (2, v), (6, .int .i64 0), (7, .bool true)] (fun ρ => match ρ with | [r0] => [cell p 84 #[.int .i64 d1.room, .int .i64 (Ek d1.fuse), .bool false, x.pv, x.sm, x.sh], Ak 127 5 encO x.pv x.W, Cq x.W, AJ x.sm d1.syn, BG encKey AM x.sh x.L, BA x.L, X] | _ => []) (by kernel_rfl) (by kernel_rfl) ⟨rfl, rfl, rfl, rfl, rfl, trivial⟩ rfl ?_ ?_
    · skip
      refine Ac (by intro r0_; exact ⟨rfl, fun b w hH hb => Ah Ar rfl hb⟩) ?_
      refine Ac (by intro r0_; exact ⟨rfl, fun b w hH hb => Bp ((hH.rd8 6 rfl hX).rd) Tryz.underlying30 rfl rfl hb⟩) ?_
      refine Ac (by intro r0_; exact ⟨rfl, fun b w hH hb => Ah Ar rfl hb⟩) ?_
      refine Ac (by intro r0_; exact ⟨rfl, fun b w hH hb => by exact B8 rfl rfl hb⟩) ?_
      refine Ac (by intro r0_; exact ⟨rfl, fun b w hH hb => Ah Ar rfl hb⟩) ?_
      refine Ac (by intro r0_; exact ⟨rfl, fun b w hH hb => AY rfl rfl (Bi Bh rfl) (hH.row 0 rfl) hb⟩) ?_
      refine Ac (by intro r0_; exact ⟨rfl, fun b w hH hb => Ah Ar rfl hb⟩) ?_
      refine Ac (by exact ⟨rfl, Bm.su (Au (os' := fun _ => [cell p 84 #[.int .i64 d1.room, .int .i64 (Ek d1.fuse), .bool false, x.pv, x.sm, x.sh], Ak 127 5 encO x.pv x.W, Cq x.W, AJ x.sm d1.syn, BG encKey AM x.sh x.L, BA x.L, X]) [0, 4, 5] 0 (Aj Tryz.func113 (by kernel_rfl) rfl) (K0 p _ _ _ _ _ _ x.L hpu) rfl rfl rfl (fun _ => rfl) rfl rfl rfl) rfl⟩) ?_
      refine Ac (by intro v0_; exact ⟨rfl, fun b w hH hb => AH rfl rfl rfl rfl (IntWalk.i64_in _ (by omega)) hb⟩) ?_
      refine Ac (by intro v0_; exact ⟨rfl, fun b w hH hb => AZ rfl rfl rfl (BE (by omega)) hb⟩) ?_
      refine Ac (by intro v0_; exact ⟨rfl, fun b w hH hb => Ah Ar rfl hb⟩) ?_
      refine Ac (by intro v0_; exact ⟨rfl, fun b w hH hb => Ah Ar rfl hb⟩) ?_
      refine Ac (by intro v0_; exact ⟨rfl, fun b w hH hb => Ah Ar rfl hb⟩) ?_
      refine Ac (by intro v0_; exact ⟨rfl, fun b w hH hb => Ah Ar rfl hb⟩) ?_
      refine Ac (by intro v0_; exact ⟨rfl, fun b w hH hb => by exact B8 rfl rfl hb⟩) ?_
      refine Ac (by intro v0_; exact ⟨rfl, fun b w hH hb => Ah Ar rfl hb⟩) ?_
      refine Ac (by intro v0_; exact ⟨rfl, fun b w hH hb => AY rfl rfl (Bi AX rfl) (hH.row 0 rfl) hb⟩) ?_
      refine Ac (by intro v0_; exact ⟨rfl, fun b w hH hb => SS 4 Tryz.underlying81 rfl rfl rfl hH hb⟩) ?_
      refine Ac (by intro v0_; exact ⟨rfl, fun b w hH hb => AZ rfl rfl rfl (BX (by omega)) hb⟩) ?_
      refine Ac (by intro v0_; exact ⟨rfl, fun b w hH hb => Ah Ar rfl hb⟩) ?_
      refine Ac (by intro v0_; exact ⟨rfl, fun b w hH hb => Ah Ar rfl hb⟩) ?_
      exact B7
    intro v0_
    refine BT.keep (env' := [(0, .pointer (some ⟨p, 0, none⟩)), (1, .string (bs n)), (2, v), (6, .int .i64 0), (41, .bool true)]) ⟨rfl, rfl, rfl, rfl, rfl, trivial⟩ ?_
    refine AD (AB (AI rfl (Ad ?_)))
    refine Af Ar rfl ?_
    refine Ab (Az (D8 ?_))
    exact Ay (.tmp rfl) (fun w h => AC () rfl [0, 1, 2, 3, 4, 5, 6] rfl h (Dp x hd1)) rfl
theorem RM {X : Ass} {p : Nat} {d d1 : DiskD} {n y : List UInt8} {v : Value} (hX : E3 X v y) (hfit : d.fit) (h : Cj d = (d1, 0)) (hn : DM n = true) (hy : y.length ≤ 140737488355328) (hf : H4 d1 n y = true) : AP Tryz.prog 55 #[.pointer (some ⟨p, 0, none⟩), .string (bs n), v] [Ag p d, X] (fun (_ : Unit) => .int .i64 0) (fun (_ : Unit) => [Ag p (Dk d1 (.app n y)), X]) := by
  have hd1 := (EV h).1
  have hfit1 := EG h hfit
  refine Bj (args := [.pointer (some ⟨p, 0, none⟩), .string (bs n), v]) 48 Tryz.func55 rfl rfl rfl ?_; intro w rs
  refine Ad ?_
  refine Af Ar rfl ?_
  refine Ab (An (Ad ?_))
  refine Af Ar rfl ?_
  refine Am rfl (Au (os' := fun _ => [Ag p d1, X]) [0] 0 (Aj Tryz.func84 (by kernel_rfl) rfl) (EU h) rfl rfl rfl (fun _ => rfl) rfl rfl rfl) ?_; rintro ⟨⟩
  refine Af Ar rfl ?_
  refine Ab (As rfl (Aw (AB (An (Ad ?_)))))
  refine Af Ar rfl ?_
  refine Am (post := fun _ => [Ag p d1, X]) rfl (Bc (Aj Tryz.func112 (by kernel_rfl) rfl) (fun w hH => KZ w n hn) rfl rfl rfl) ?_; rintro ⟨⟩
  refine Af Ar rfl ?_
  refine Ab (As rfl (Aw (AB ?_)))
  refine A7 0 rfl (DW hd1) (fun _ => rfl) ?_; rintro x
  refine AN.fact 3 rfl BY ?_; rintro hsn
  refine AN.fact 4 rfl B4 ?_; rintro hgn
  have hr := x.hr
  have hpu : Be (CW x.L) ≤ 1099511627776 := by rw [EF x.hg]; exact MS hfit1 hsn x.hok
  obtain ⟨hlen, hw⟩ := UR x.hg hgn hf
  have hsz : (OpD.app n y).size ≤ 1048576 := by show y.length ≤ _; omega
  rcases hw with ⟨r, hgL⟩ | ⟨hgL, h64⟩
  · skip
    refine Ad ?_
    refine Af Ar rfl ?_
    refine Aa rfl (.pointer (some ⟨p, 0, none⟩)) (fun b w hb hH => by exact B8 rfl rfl hb) ?_
    refine Af Ar rfl ?_
    refine Aa rfl (x.sh) (fun b w hb hH => AY rfl rfl (Bi AX rfl) (hH.row 0 rfl) hb) ?_
    refine Af Ar rfl ?_
    refine Am rfl (Au (os' := fun _ => [cell p 84 #[.int .i64 d1.room, .int .i64 (Ek d1.fuse), .bool false, x.pv, x.sm, x.sh], Ak 127 5 encO x.pv x.W, Cq x.W, AJ x.sm d1.syn, BG encKey AM x.sh x.L, BA x.L, X]) [4] 0 (Aj Tryz.func103 (by kernel_rfl) rfl) (Gz _ _ n _ hgL) rfl rfl rfl (fun _ => rfl) rfl rfl rfl) ?_; rintro ⟨⟩
    refine Af Ar rfl ?_
    refine Ab (An (An ?_))
    refine BV 21 1 [⟨.quiet, [none], fun _ => v, []⟩, ⟨.quiet, [none], fun _ => .int .i64 (y.length : Int), [0]⟩, ⟨.quiet, [none], fun _ => .pointer (some ⟨p, 0, none⟩), []⟩, ⟨.quiet, [none], fun _ => .pointer (some ⟨p, 0, none⟩), [2]⟩, ⟨.quiet, [none], fun _ => .pointer (some ⟨p, 0, none⟩), [3]⟩, ⟨.quiet, [none], fun _ => .int .i64 d1.room, [4]⟩, ⟨.quiet, [none], fun _ => .pointer (some ⟨p, 0, none⟩), []⟩, ⟨.actv 0, [some false], fun _ => .int .i64 ((Be (CW x.L) : Nat) : Int), [6]⟩, ⟨.quiet, [some true], fun _ => .int .i64 (d1.room - (Be (CW x.L) : Int)), [5, 7]⟩, ⟨.quiet, [some true], fun _ => .bool false, [1, 8]⟩, ⟨.quiet, [some true], fun _ => .bool false, [9]⟩, ⟨.quiet, [some true], fun _ => .bool false, [10]⟩, ⟨.quiet, [some true], fun _ => .bool false, [11, 10]⟩, ⟨.skip, [some true], fun _ => undef, [12]⟩, ⟨.skip, [some true], fun _ => undef, [13, 12]⟩, ⟨.skip, [some true], fun _ => undef, [14, 12]⟩, ⟨.skip, [some true], fun _ => undef, [15, 12]⟩, ⟨.skip, [some true], fun _ => undef, [16, 12]⟩, ⟨.skip, [some true], fun _ => undef, [17, 12]⟩, ⟨.quiet, [some true], fun _ => .bool false, [12, 18, 10]⟩, ⟨.quiet, [some true], fun _ => .bool false, [10, 19]⟩] [(0, .pointer (some ⟨p, 0, none⟩)), (1, .string (bs n)), (2, v), (6, .int .i64 0), (7, .bool false)] (fun ρ => match ρ with | [r0] => [cell p 84 #[.int .i64 d1.room, .int .i64 (Ek d1.fuse), .bool false, x.pv, x.sm, x.sh], Ak 127 5 encO x.pv x.W, Cq x.W, AJ x.sm d1.syn, BG encKey AM x.sh x.L, BA x.L, X] | _ => []) (by kernel_rfl) (by kernel_rfl) ⟨rfl, rfl, rfl, rfl, rfl, trivial⟩ rfl ?_ ?_
    · skip
      refine Ac (by intro r0_; exact ⟨rfl, fun b w hH hb => Ah Ar rfl hb⟩) ?_
      refine Ac (by intro r0_; exact ⟨rfl, fun b w hH hb => Bp ((hH.rd8 6 rfl hX).rd) Tryz.underlying30 rfl rfl hb⟩) ?_
      refine Ac (by intro r0_; exact ⟨rfl, fun b w hH hb => Ah Ar rfl hb⟩) ?_
      refine Ac (by intro r0_; exact ⟨rfl, fun b w hH hb => by exact B8 rfl rfl hb⟩) ?_
      refine Ac (by intro r0_; exact ⟨rfl, fun b w hH hb => Ah Ar rfl hb⟩) ?_
      refine Ac (by intro r0_; exact ⟨rfl, fun b w hH hb => AY rfl rfl (Bi Bh rfl) (hH.row 0 rfl) hb⟩) ?_
      refine Ac (by intro r0_; exact ⟨rfl, fun b w hH hb => Ah Ar rfl hb⟩) ?_
      refine Ac (by exact ⟨rfl, Bm.su (Au (os' := fun _ => [cell p 84 #[.int .i64 d1.room, .int .i64 (Ek d1.fuse), .bool false, x.pv, x.sm, x.sh], Ak 127 5 encO x.pv x.W, Cq x.W, AJ x.sm d1.syn, BG encKey AM x.sh x.L, BA x.L, X]) [0, 4, 5] 0 (Aj Tryz.func113 (by kernel_rfl) rfl) (K0 p _ _ _ _ _ _ x.L hpu) rfl rfl rfl (fun _ => rfl) rfl rfl rfl) rfl⟩) ?_
      refine Ac (by intro v0_; exact ⟨rfl, fun b w hH hb => AH rfl rfl rfl rfl (IntWalk.i64_in _ (by omega)) hb⟩) ?_
      refine Ac (by intro v0_; exact ⟨rfl, fun b w hH hb => AZ rfl rfl rfl (BE (by omega)) hb⟩) ?_
      refine Ac (by intro v0_; exact ⟨rfl, fun b w hH hb => Ah Ar rfl hb⟩) ?_
      refine Ac (by intro v0_; exact ⟨rfl, fun b w hH hb => Ah Ar rfl hb⟩) ?_
      refine Ac (by intro v0_; exact ⟨rfl, fun b w hH hb => Ah Ar rfl hb⟩) ?_
      refine Ac (by intro v0_; exact ⟨rfl, rfl⟩) ?_
      refine Ac (by intro v0_; exact ⟨rfl, rfl⟩) ?_
      refine Ac (by intro v0_; exact ⟨rfl, rfl⟩) ?_
      refine Ac (by intro v0_; exact ⟨rfl, rfl⟩) ?_
      refine Ac (by intro v0_; exact ⟨rfl, rfl⟩) ?_
      refine Ac (by intro v0_; exact ⟨rfl, rfl⟩) ?_
      refine Ac (by intro v0_; exact ⟨rfl, fun b w hH hb => Ah Ar rfl hb⟩) ?_
      refine Ac (by intro v0_; exact ⟨rfl, fun b w hH hb => Ah Ar rfl hb⟩) ?_
      exact B7
    intro v0_
    refine BT.keep (env' := [(0, .pointer (some ⟨p, 0, none⟩)), (1, .string (bs n)), (2, v), (6, .int .i64 0), (41, .bool false)]) ⟨rfl, rfl, rfl, rfl, rfl, trivial⟩ ?_
    refine AD (AB (As rfl (Aw (AB ?_))))
    refine Bg [0, 1, 2, 3, 4, 5] rfl (I1 x hd1) rfl ?_
    refine Ad ?_
    refine Af Ar rfl ?_
    refine Am rfl (Au (os' := fun v9 => [Ak 5 1 encB v9 y, Ag p d1, X]) [1] 0 (Aj Tryz.func114 (by kernel_rfl) rfl) (FQ hX (by omega)) rfl rfl rfl (fun _ => rfl) rfl rfl rfl) ?_; rintro v9
    refine BT.fact 0 rfl (fun _ h => Ak.is h) ?_; rintro ⟨A9, c9, rfl⟩
    refine Aa rfl (.agg #[.int .i64 0, .string (bs n), .slice A9 y.length c9, .int .i64 0, .string { data := #[] }]) (fun b w hb hH => Bv rfl rfl (by kernel_rfl) hb) ?_
    refine Am rfl (Au (os' := fun _ => [GE, Ag p (Dk d1 (.app n y)), X]) [1, 0] 0 (Aj Tryz.func104 (by kernel_rfl) rfl) (MT (x := ⟨.app n y, A9, c9⟩) hd1 hfit1 hn hsz) rfl rfl rfl (fun _ => rfl) rfl rfl rfl) ?_; rintro ⟨⟩
    refine BT.leave [0] rfl rfl ?_
    refine Af Ar rfl ?_
    refine Ab (Az ?_)
    exact Ay (.tmp rfl) (fun w h => AC () rfl [0, 1] rfl h Ed) rfl
  · skip
    refine Ad ?_
    refine Af Ar rfl ?_
    refine Aa rfl (.pointer (some ⟨p, 0, none⟩)) (fun b w hb hH => by exact B8 rfl rfl hb) ?_
    refine Af Ar rfl ?_
    refine Aa rfl (x.sh) (fun b w hb hH => AY rfl rfl (Bi AX rfl) (hH.row 0 rfl) hb) ?_
    refine Af Ar rfl ?_
    refine Am rfl (Au (os' := fun _ => [cell p 84 #[.int .i64 d1.room, .int .i64 (Ek d1.fuse), .bool false, x.pv, x.sm, x.sh], Ak 127 5 encO x.pv x.W, Cq x.W, AJ x.sm d1.syn, BG encKey AM x.sh x.L, BA x.L, X]) [4] 0 (Aj Tryz.func103 (by kernel_rfl) rfl) (Gz _ _ n _ hgL) rfl rfl rfl (fun _ => rfl) rfl rfl rfl) ?_; rintro ⟨⟩
    refine Af Ar rfl ?_
    refine Ab (An (An ?_))
    refine BV 21 1 [⟨.quiet, [none], fun _ => v, []⟩, ⟨.quiet, [none], fun _ => .int .i64 (y.length : Int), [0]⟩, ⟨.quiet, [none], fun _ => .pointer (some ⟨p, 0, none⟩), []⟩, ⟨.quiet, [none], fun _ => .pointer (some ⟨p, 0, none⟩), [2]⟩, ⟨.quiet, [none], fun _ => .pointer (some ⟨p, 0, none⟩), [3]⟩, ⟨.quiet, [none], fun _ => .int .i64 d1.room, [4]⟩, ⟨.quiet, [none], fun _ => .pointer (some ⟨p, 0, none⟩), []⟩, ⟨.actv 0, [some false], fun _ => .int .i64 ((Be (CW x.L) : Nat) : Int), [6]⟩, ⟨.quiet, [some true], fun _ => .int .i64 (d1.room - (Be (CW x.L) : Int)), [5, 7]⟩, ⟨.quiet, [some true], fun _ => .bool false, [1, 8]⟩, ⟨.quiet, [some true], fun _ => .bool false, [9]⟩, ⟨.quiet, [some true], fun _ => .bool true, [10]⟩, ⟨.quiet, [some true], fun _ => .bool true, [11, 10]⟩, ⟨.quiet, [some true], fun _ => .pointer (some ⟨p, 0, none⟩), [12]⟩, ⟨.quiet, [some true], fun _ => .pointer (some ⟨p, 0, none⟩), [13, 12]⟩, ⟨.quiet, [some true], fun _ => .pointer (some ⟨p, 5, none⟩), [14, 12]⟩, ⟨.quiet, [some true], fun _ => x.sh, [15, 12]⟩, ⟨.quiet, [some true], fun _ => .int .i64 (x.L.length : Int), [16, 12]⟩, ⟨.quiet, [some true], fun _ => .bool false, [17, 12]⟩, ⟨.quiet, [some true], fun _ => .bool false, [12, 18, 10]⟩, ⟨.quiet, [some true], fun _ => .bool false, [10, 19]⟩] [(0, .pointer (some ⟨p, 0, none⟩)), (1, .string (bs n)), (2, v), (6, .int .i64 0), (7, .bool true)] (fun ρ => match ρ with | [r0] => [cell p 84 #[.int .i64 d1.room, .int .i64 (Ek d1.fuse), .bool false, x.pv, x.sm, x.sh], Ak 127 5 encO x.pv x.W, Cq x.W, AJ x.sm d1.syn, BG encKey AM x.sh x.L, BA x.L, X] | _ => []) (by kernel_rfl) (by kernel_rfl) ⟨rfl, rfl, rfl, rfl, rfl, trivial⟩ rfl ?_ ?_
    · skip
      refine Ac (by intro r0_; exact ⟨rfl, fun b w hH hb => Ah Ar rfl hb⟩) ?_
      refine Ac (by intro r0_; exact ⟨rfl, fun b w hH hb => Bp ((hH.rd8 6 rfl hX).rd) Tryz.underlying30 rfl rfl hb⟩) ?_
      refine Ac (by intro r0_; exact ⟨rfl, fun b w hH hb => Ah Ar rfl hb⟩) ?_
      refine Ac (by intro r0_; exact ⟨rfl, fun b w hH hb => by exact B8 rfl rfl hb⟩) ?_
      refine Ac (by intro r0_; exact ⟨rfl, fun b w hH hb => Ah Ar rfl hb⟩) ?_
      refine Ac (by intro r0_; exact ⟨rfl, fun b w hH hb => AY rfl rfl (Bi Bh rfl) (hH.row 0 rfl) hb⟩) ?_
      refine Ac (by intro r0_; exact ⟨rfl, fun b w hH hb => Ah Ar rfl hb⟩) ?_
      refine Ac (by exact ⟨rfl, Bm.su (Au (os' := fun _ => [cell p 84 #[.int .i64 d1.room, .int .i64 (Ek d1.fuse), .bool false, x.pv, x.sm, x.sh], Ak 127 5 encO x.pv x.W, Cq x.W, AJ x.sm d1.syn, BG encKey AM x.sh x.L, BA x.L, X]) [0, 4, 5] 0 (Aj Tryz.func113 (by kernel_rfl) rfl) (K0 p _ _ _ _ _ _ x.L hpu) rfl rfl rfl (fun _ => rfl) rfl rfl rfl) rfl⟩) ?_
      refine Ac (by intro v0_; exact ⟨rfl, fun b w hH hb => AH rfl rfl rfl rfl (IntWalk.i64_in _ (by omega)) hb⟩) ?_
      refine Ac (by intro v0_; exact ⟨rfl, fun b w hH hb => AZ rfl rfl rfl (BE (by omega)) hb⟩) ?_
      refine Ac (by intro v0_; exact ⟨rfl, fun b w hH hb => Ah Ar rfl hb⟩) ?_
      refine Ac (by intro v0_; exact ⟨rfl, fun b w hH hb => Ah Ar rfl hb⟩) ?_
      refine Ac (by intro v0_; exact ⟨rfl, fun b w hH hb => Ah Ar rfl hb⟩) ?_
      refine Ac (by intro v0_; exact ⟨rfl, fun b w hH hb => Ah Ar rfl hb⟩) ?_
      refine Ac (by intro v0_; exact ⟨rfl, fun b w hH hb => by exact B8 rfl rfl hb⟩) ?_
      refine Ac (by intro v0_; exact ⟨rfl, fun b w hH hb => Ah Ar rfl hb⟩) ?_
      refine Ac (by intro v0_; exact ⟨rfl, fun b w hH hb => AY rfl rfl (Bi AX rfl) (hH.row 0 rfl) hb⟩) ?_
      refine Ac (by intro v0_; exact ⟨rfl, fun b w hH hb => SS 4 Tryz.underlying81 rfl rfl rfl hH hb⟩) ?_
      refine Ac (by intro v0_; exact ⟨rfl, fun b w hH hb => AZ rfl rfl rfl (CT (by omega)) hb⟩) ?_
      refine Ac (by intro v0_; exact ⟨rfl, fun b w hH hb => Ah Ar rfl hb⟩) ?_
      refine Ac (by intro v0_; exact ⟨rfl, fun b w hH hb => Ah Ar rfl hb⟩) ?_
      exact B7
    intro v0_
    refine BT.keep (env' := [(0, .pointer (some ⟨p, 0, none⟩)), (1, .string (bs n)), (2, v), (6, .int .i64 0), (41, .bool false)]) ⟨rfl, rfl, rfl, rfl, rfl, trivial⟩ ?_
    refine AD (AB (As rfl (Aw (AB ?_))))
    refine Bg [0, 1, 2, 3, 4, 5] rfl (I1 x hd1) rfl ?_
    refine Ad ?_
    refine Af Ar rfl ?_
    refine Am rfl (Au (os' := fun v9 => [Ak 5 1 encB v9 y, Ag p d1, X]) [1] 0 (Aj Tryz.func114 (by kernel_rfl) rfl) (FQ hX (by omega)) rfl rfl rfl (fun _ => rfl) rfl rfl rfl) ?_; rintro v9
    refine BT.fact 0 rfl (fun _ h => Ak.is h) ?_; rintro ⟨A9, c9, rfl⟩
    refine Aa rfl (.agg #[.int .i64 0, .string (bs n), .slice A9 y.length c9, .int .i64 0, .string { data := #[] }]) (fun b w hb hH => Bv rfl rfl (by kernel_rfl) hb) ?_
    refine Am rfl (Au (os' := fun _ => [GE, Ag p (Dk d1 (.app n y)), X]) [1, 0] 0 (Aj Tryz.func104 (by kernel_rfl) rfl) (MT (x := ⟨.app n y, A9, c9⟩) hd1 hfit1 hn hsz) rfl rfl rfl (fun _ => rfl) rfl rfl rfl) ?_; rintro ⟨⟩
    refine BT.leave [0] rfl rfl ?_
    refine Af Ar rfl ?_
    refine Ab (Az ?_)
    exact Ay (.tmp rfl) (fun w h => AC () rfl [0, 1] rfl h Ed) rfl
theorem MU {p : Nat} {d d' : DiskD} {n b : List UInt8} {X : Ass} {v : Value} {e : Nat} (hd : d.fit) (hb : b.length ≤ 140737488355328) (hX : E3 X v b) (h : CO d n b = (d', e)) : AP Tryz.prog 55 #[.pointer (some ⟨p, 0, none⟩), .string (bs n), v] [Ag p d, X] (fun _ : Unit => .int .i64 (e : Int)) (fun _ => [Ag p d', X]) := by
  unfold CO at h
  obtain ⟨d1, e1, h1⟩ : ∃ d1 e1, Cj d = (d1, e1) := ⟨_, _, rfl⟩
  have h01 := K2 d
  rw [h1] at h h01
  simp only at h h01
  rcases h01 with rfl | rfl
  · rw [if_pos (by decide)] at h
    cases h
    exact RL (y := b) h1
  · rw [if_neg (by decide)] at h
    cases hn : DM n
    · rw [hn, if_pos rfl] at h
      cases h
      exact PB (y := b) h1 hn
    · rw [hn, if_neg (by decide)] at h
      cases hf : H4 d1 n b
      · rw [hf, if_pos rfl] at h
        cases h
        exact N4 hX hd h1 hn hb hf
      · rw [hf, if_neg (by decide)] at h
        cases h
        exact RM hX hd h1 hn hb hf
theorem JU {p : Nat} {d d' : DiskD} {n b : List UInt8} {X : Ass} {v : Value} {e : Nat} (hd : d.fit) (hb : b.length ≤ 140737488351232) (hX : E3 X v b) (h : CO d n b = (d', e)) : AP Tryz.prog 55 #[.pointer (some ⟨p, 0, none⟩), .string (bs n), v] [Ag p d, X] (fun _ : Unit => .int .i64 (e : Int)) (fun _ => [Ag p d', X]) := MU hd (by omega) hX h
end Go.Proofs.YtnknboibmifacaaGreatDoor.Sep
namespace Go.Proofs.YtnknboibmifacaaGreatDoor.Sep
open Go.RowKit
open Go.Proofs.YtnknboibmifacaaGreatDoor.Mem (AR B3 Chg Av)
theorem RN {p : Nat} {d d1 : DiskD} {n : List UInt8} (h : Cj d = (d1, 3)) : AP Tryz.prog 89 #[.pointer (some ⟨p, 0, none⟩), .string (bs n)] [Ag p d] (fun (_ : Unit) => .int .i64 3) (fun (_ : Unit) => [Ag p d1]) := by
 refine Bj (args := [.pointer (some ⟨p, 0, none⟩), .string (bs n)]) 19 Tryz.func89 rfl rfl rfl ?_; intro w rs
 refine Ad ?_
 refine Af Ar rfl ?_
 refine Ab (An (Ad ?_))
 refine Af Ar rfl ?_
 refine Am rfl (Au (os' := fun _ => [Ag p d1]) [0] 0 (Aj Tryz.func84 (by kernel_rfl) rfl) (K1 h) rfl rfl rfl (fun _ => rfl) rfl rfl rfl) ?_; rintro ⟨⟩
 refine Af Ar rfl ?_
 refine Ab (AI rfl (Ad ?_))
 refine Af Ar rfl ?_
 refine Ab (Az (D8 ?_))
 exact Ay (.tmp rfl) (fun w h => AC () rfl [0] rfl h Ed) rfl
theorem N5 {p : Nat} {d d1 : DiskD} {n : List UInt8} (hfit : d.fit) (h : Cj d = (d1, 0)) (hg : Bq d1.now n = none) : AP Tryz.prog 89 #[.pointer (some ⟨p, 0, none⟩), .string (bs n)] [Ag p d] (fun (_ : Unit) => .int .i64 4) (fun (_ : Unit) => [Ag p d1]) := by
 have hd1 := (EV h).1
 have hfit1 := EG h hfit
 refine Bj (args := [.pointer (some ⟨p, 0, none⟩), .string (bs n)]) 19 Tryz.func89 rfl rfl rfl ?_; intro w rs
 refine Ad ?_
 refine Af Ar rfl ?_
 refine Ab (An (Ad ?_))
 refine Af Ar rfl ?_
 refine Am rfl (Au (os' := fun _ => [Ag p d1]) [0] 0 (Aj Tryz.func84 (by kernel_rfl) rfl) (EU h) rfl rfl rfl (fun _ => rfl) rfl rfl rfl) ?_; rintro ⟨⟩
 refine Af Ar rfl ?_
 refine Ab (As rfl (Aw (AB (An ?_))))
 refine A7 0 rfl (DW hd1) (fun _ => rfl) ?_; rintro x
 refine AN.fact 3 rfl BY ?_; rintro hsn
 refine AN.fact 4 rfl B4 ?_; rintro hgn
 have hgL : Bq x.L n = none := by rw [Ij x.hg hgn] at hg; simpa using hg
 refine Ad ?_
 refine Af Ar rfl ?_
 refine Aa rfl (.pointer (some ⟨p, 0, none⟩)) (fun b w hb hH => by exact B8 rfl rfl hb) ?_
 refine Af Ar rfl ?_
 refine Aa rfl (x.sh) (fun b w hb hH => AY rfl rfl (Bi AX rfl) (hH.row 0 rfl) hb) ?_
 refine Af Ar rfl ?_
 refine Am rfl (Au (os' := fun _ => [cell p 84 #[.int .i64 d1.room, .int .i64 (Ek d1.fuse), .bool false, x.pv, x.sm, x.sh], Ak 127 5 encO x.pv x.W, Cq x.W, AJ x.sm d1.syn, BG encKey AM x.sh x.L, BA x.L]) [4] 0 (Aj Tryz.func103 (by kernel_rfl) rfl) (Gz _ _ n _ hgL) rfl rfl rfl (fun _ => rfl) rfl rfl rfl) ?_; rintro ⟨⟩
 refine Af Ar rfl ?_
 refine Ab (AI rfl (Ad ?_))
 refine Af Ar rfl ?_
 refine Ab (Az (D8 ?_))
 exact Ay (.tmp rfl) (fun w h => AC () rfl [0, 1, 2, 3, 4, 5] rfl h (Dp (os := []) x hd1)) rfl
theorem N6 {p : Nat} {d d1 : DiskD} {n : List UInt8} {y : List UInt8} (hfit : d.fit) (h : Cj d = (d1, 0)) (hg : Bq d1.now n = some y) : AP Tryz.prog 89 #[.pointer (some ⟨p, 0, none⟩), .string (bs n)] [Ag p d] (fun (_ : Unit) => .int .i64 0) (fun (_ : Unit) => [Ag p (Dk d1 (.del n))]) := by
 have hd1 := (EV h).1
 have hfit1 := EG h hfit
 refine Bj (args := [.pointer (some ⟨p, 0, none⟩), .string (bs n)]) 19 Tryz.func89 rfl rfl rfl ?_; intro w rs
 refine Ad ?_
 refine Af Ar rfl ?_
 refine Ab (An (Ad ?_))
 refine Af Ar rfl ?_
 refine Am rfl (Au (os' := fun _ => [Ag p d1]) [0] 0 (Aj Tryz.func84 (by kernel_rfl) rfl) (EU h) rfl rfl rfl (fun _ => rfl) rfl rfl rfl) ?_; rintro ⟨⟩
 refine Af Ar rfl ?_
 refine Ab (As rfl (Aw (AB (An ?_))))
 refine A7 0 rfl (DW hd1) (fun _ => rfl) ?_; rintro x
 refine AN.fact 3 rfl BY ?_; rintro hsn
 refine AN.fact 4 rfl B4 ?_; rintro hgn
 obtain ⟨r, hgL, _⟩ : ∃ r, Bq x.L n = some r ∧ r.2 = y := by rw [Ij x.hg hgn] at hg; exact Option.map_eq_some_iff.1 hg
 refine Ad ?_
 refine Af Ar rfl ?_
 refine Aa rfl (.pointer (some ⟨p, 0, none⟩)) (fun b w hb hH => by exact B8 rfl rfl hb) ?_
 refine Af Ar rfl ?_
 refine Aa rfl (x.sh) (fun b w hb hH => AY rfl rfl (Bi AX rfl) (hH.row 0 rfl) hb) ?_
 refine Af Ar rfl ?_
 refine Am rfl (Au (os' := fun _ => [cell p 84 #[.int .i64 d1.room, .int .i64 (Ek d1.fuse), .bool false, x.pv, x.sm, x.sh], Ak 127 5 encO x.pv x.W, Cq x.W, AJ x.sm d1.syn, BG encKey AM x.sh x.L, BA x.L]) [4] 0 (Aj Tryz.func103 (by kernel_rfl) rfl) (Gz _ _ n _ hgL) rfl rfl rfl (fun _ => rfl) rfl rfl rfl) ?_; rintro ⟨⟩
 refine Af Ar rfl ?_
 refine Ab (As rfl (Aw (AB ?_)))
 refine Bg [0, 1, 2, 3, 4, 5] rfl (I1 x hd1) rfl ?_
 refine BN 5 1 encB ?_
 refine Ad ?_
 refine Af Ar rfl ?_
 refine Aa rfl (.agg #[.int .i64 3, .string (bs n), .slice none 0 0, .int .i64 0, .string { data := #[] }]) (fun b w hb hH => Bv rfl rfl (by kernel_rfl) hb) ?_
 refine Am rfl (Au (os' := fun _ => [GE, Ag p (Dk d1 (.del n))]) [1, 0] 0 (Aj Tryz.func104 (by kernel_rfl) rfl) (MT (x := ⟨.del n, none, 0⟩) hd1 hfit1 trivial (Nat.zero_le _)) rfl rfl rfl (fun _ => rfl) rfl rfl rfl) ?_; rintro ⟨⟩
 refine BT.leave [0] rfl rfl ?_
 refine Af Ar rfl ?_
 refine Ab (Az ?_)
 exact Ay (.tmp rfl) (fun w h => AC () rfl [0] rfl h Ed) rfl
theorem JV {p : Nat} {d d' : DiskD} {n : List UInt8} {e : Nat} (hd : d.fit) (h : Jp d n = (d', e)) : AP Tryz.prog 89 #[.pointer (some ⟨p, 0, none⟩), .string (bs n)] [Ag p d] (fun _ : Unit => .int .i64 (e : Int)) (fun _ => [Ag p d']) := by
  unfold Jp at h
  obtain ⟨d1, e1, h1⟩ : ∃ d1 e1, Cj d = (d1, e1) := ⟨_, _, rfl⟩
  have h01 := K2 d
  rw [h1] at h h01
  simp only at h h01
  rcases h01 with rfl | rfl
  · rw [if_pos (by decide)] at h
    cases h
    exact RN h1
  · rw [if_neg (by decide)] at h
    cases hg : Bq d1.now n with
    | none => rw [hg] at h; cases h; exact N5 hd h1 hg
    | some y => rw [hg] at h; cases h; exact N6 hd h1 hg
end Go.Proofs.YtnknboibmifacaaGreatDoor.Sep
