/-
  DskH · DskI
-/
import Derived.Test.YtnknboibmifacaaGreatPD01
set_option linter.unusedSimpArgs false
set_option linter.unusedVariables false
set_option maxRecDepth 100000
namespace Go.Proofs.YtnknboibmifacaaGreat.Sep
open Go.RowKit
open Go.Proofs.YtnknboibmifacaaGreat.Mem (Bl Co Chg AG)
theorem UC {d : DiskD} {n : Int} {k : Nat} (h : -9223372036854775808 ≤ n ∧ n ≤ 9223372036854775807) (hk : (Fo d n).fuse = some k) : k ≤ 9223372036854775807 := by
  unfold Fo at hk
  simp only at hk
  split at hk
  · cases hk; omega
  · cases hk
theorem NQ (room : Int) (h : 0 ≤ room ∧ room ≤ 1048576) : AU Tryz.prog 20 #[.int .i64 room] [] (fun (p : Nat) => .tuple #[.pointer (some ⟨p, 0, none⟩), .int .i64 0]) (fun (p : Nat) => [Ao p (GW room)]) := by
 have h_ := h
 refine Bd (args := [.int .i64 room]) 12 Tryz.func20 rfl rfl rfl ?_; intro w rs
 refine Ad ?_
 refine Ae Ak rfl ?_
 refine Aa (Aq (Ad ?_))
 refine Ae Ak rfl ?_
 refine Aj (post := fun _ => []) rfl (By (Ah Tryz.func55 (by kernel_rfl) rfl) (fun w hH => K8 w room h) rfl rfl rfl) ?_; rintro ⟨⟩
 refine Ae Ak rfl ?_
 refine Aa (Ar rfl (Ax (AE ?_)))
 refine B4 99 5 encO ?_
 refine F2 (t := BL ([])) (EV) ?_
 refine F2 (t := Bx ([])) (EV) ?_
 refine F2 (t := Bx ([])) (EV) ?_
 refine Ad ?_
 refine Ae Ak rfl ?_
 refine Aj (post := fun ga => [BH encKey AM (.map (some ga)) ([]), Bx ([]), Bx ([]), BL ([]), As 99 5 encO (.slice none 0 0) ([])]) rfl (P9 (kk := encKey) (vv := AM) rfl rfl) ?_; rintro ga
 refine Aj (post := fun gb => [BH encKey AM (.map (some gb)) ([]), BH encKey AM (.map (some ga)) ([]), Bx ([]), Bx ([]), BL ([]), As 99 5 encO (.slice none 0 0) ([])]) rfl (P9 (kk := encKey) (vv := AM) rfl rfl) ?_; rintro gb
 refine Ab rfl (.agg #[.int .i64 room, .int .i64 (-1), .bool false, .slice none 0 0, .map (some ga), .map (some gb)]) (fun b w hb hH => Bg rfl rfl (by kernel_rfl) hb) ?_
 refine Aj (post := fun p => [cell p 67 #[.int .i64 room, .int .i64 (-1), .bool false, .slice none 0 0, .map (some ga), .map (some gb)], BH encKey AM (.map (some gb)) ([]), BH encKey AM (.map (some ga)) ([]), Bx ([]), Bx ([]), BL ([]), As 99 5 encO (.slice none 0 0) ([])]) rfl (CC (cs := #[.int .i64 room, .int .i64 (-1), .bool false, .slice none 0 0, .map (some ga), .map (some gb)]) rfl rfl rfl) ?_; rintro p
 refine Ae Ak rfl ?_
 refine Aa (Ay ?_)
 exact B3 (.tmp rfl) (.tmp rfl) (fun w h => AB p rfl [0, 6, 5, 2, 4, 1, 3] rfl h (SQ h_)) rfl
theorem Jb {p : Nat} {d : DiskD} {n : Nat} (h : d.wait.length = n) : AU Tryz.prog 52 #[.pointer (some ⟨p, 0, none⟩)] [Ao p d] (fun (_ : Unit) => .int .i64 (n : Int)) (fun (_ : Unit) => [Ao p d]) := by
 refine Bd (args := [.pointer (some ⟨p, 0, none⟩)]) 8 Tryz.func52 rfl rfl rfl ?_; intro w rs
 refine AZ 0 rfl F3 (fun _ => rfl) ?_; rintro x
 have hn : x.W.length = n := (Kn x).trans h
 refine Ad ?_
 refine Ae Ak rfl ?_
 refine Aa (Ad ?_)
 refine Ae Ak rfl ?_
 refine Ab rfl (.pointer (some ⟨p, 0, none⟩)) (fun b w hb hH => by exact BA rfl rfl hb) ?_
 refine Ae Ak rfl ?_
 refine Ab rfl (x.pv) (fun b w hb hH => A6 rfl rfl (Bk BV rfl) (hH.row 0 rfl) hb) ?_
 refine Ab rfl (.int .i64 (x.W.length : Int)) (fun b w hb hH => Cv 1 Tryz.underlying63 rfl rfl rfl hH hb) ?_
 refine Ae Ak rfl ?_
 refine Aa (Ay ?_)
 exact Av (.tmp rfl) (fun w h => AB () (by rw [hn]) [0, 1, 2, 3, 4] rfl h (Hy (os := []) x)) rfl
theorem L2 {p : Nat} {d : DiskD} {b : Bool} (h : d.down = b) : AU Tryz.prog 53 #[.pointer (some ⟨p, 0, none⟩)] [Ao p d] (fun (_ : Unit) => .bool b) (fun (_ : Unit) => [Ao p d]) := by
 refine Bd (args := [.pointer (some ⟨p, 0, none⟩)]) 7 Tryz.func53 rfl rfl rfl ?_; intro w rs
 subst h
 refine AZ 0 rfl F3 (fun _ => rfl) ?_; rintro x
 refine Ad ?_
 refine Ae Ak rfl ?_
 refine Aa (Ad ?_)
 refine Ae Ak rfl ?_
 refine Ab rfl (.pointer (some ⟨p, 0, none⟩)) (fun b w hb hH => by exact BA rfl rfl hb) ?_
 refine Ae Ak rfl ?_
 refine Ab rfl (.bool d.down) (fun b w hb hH => A6 rfl rfl (Bk Bo rfl) (hH.row 0 rfl) hb) ?_
 refine Ae Ak rfl ?_
 refine Aa (Ay ?_)
 exact Av (.tmp rfl) (fun w h => AB () rfl [0, 1, 2, 3, 4] rfl h (Hy (os := []) x)) rfl
theorem Rw {p : Nat} {d d' : DiskD} {n : Int} (h : -9223372036854775808 ≤ n ∧ n ≤ 9223372036854775807) (he : Fo d n = d') : AU Tryz.prog 24 #[.pointer (some ⟨p, 0, none⟩), .int .i64 n] [Ao p d] (fun (_ : Unit) => .tuple #[]) (fun (_ : Unit) => [Ao p d']) := by
  subst he
  have h_ := h
  obtain ⟨m, hm⟩ : ∃ m, C9 (if 0 ≤ n then some n.toNat else none) = m := ⟨_, rfl⟩
  have hmx : (if -1 > n then -1 else n) = m := by
    rw [← hm]
    by_cases h0 : 0 ≤ n
    · rw [if_pos h0, if_neg (by omega)]; show n = (n.toNat : Int); omega
    · rw [if_neg h0]; show _ = (-1 : Int); split <;> omega
  refine Bd (args := [.pointer (some ⟨p, 0, none⟩), .int .i64 n]) 9 Tryz.func24 rfl rfl rfl ?_; intro w rs
  refine AZ 0 rfl F3 (fun _ => rfl) ?_; rintro x
  refine Br ?_
  refine Ae Ak rfl ?_
  refine Ab rfl (.int .i64 m) (fun b w hb hH => Ru rfl rfl rfl hmx hb) ?_
  refine Ab rfl (.pointer (some ⟨p, 0, none⟩)) (fun b w hb hH => by exact BA rfl rfl hb) ?_
  refine Ae Ak rfl ?_
  refine AH (post := fun _ => [cell p 67 #[.int .i64 d.room, .int .i64 m, .bool d.down, x.pv, x.sm, x.sh], As 99 5 encO x.pv x.W, BL x.W, AA x.sm d.syn, NK d.down x.sh x.g]) rfl rfl (AD 0 (v := .int .i64 m) #[.int .i64 d.room, .int .i64 m, .bool d.down, x.pv, x.sm, x.sh] AR.2 rfl rfl rfl rfl rfl rfl rfl rfl rfl) ?_; rintro ⟨⟩
  refine AP ?_
  exact CG  (fun w h => AB () rfl [0, 1, 2, 3, 4] rfl h (by rw [← hm]; exact Hy (os := []) (d := Fo d n) ⟨x.pv, x.sm, x.sh, x.W, x.g, x.hW, x.hg, x.hok, (fun k hk => UC h_ hk), x.hr, x.hk⟩)) rfl
theorem VB {p : Nat} {d : DiskD} {n y : List UInt8}  (hd : d.down = true) : AU Tryz.prog 32 #[.pointer (some ⟨p, 0, none⟩), .string (bs n)] [Ao p d] (fun (v : Value) => .tuple #[v, .bool false]) (fun (v : Value) => [Ao p d, As 5 1 encB v ([])]) := by
  refine Bd (args := [.pointer (some ⟨p, 0, none⟩), .string (bs n)]) 19 Tryz.func32 rfl rfl rfl ?_; intro w rs
  refine AZ 0 rfl (Km hd) (fun _ => rfl) ?_; rintro x
  refine B4 5 1 encB ?_
  refine Ad ?_
  refine Ae Ak rfl ?_
  refine Aa (Aq ?_)
  refine EF 1 rfl ?_
  refine BO 13 2 [⟨.quiet, [none, none], fun _ => .pointer (some ⟨p, 0, none⟩), []⟩, ⟨.quiet, [none, none], fun _ => .pointer (some ⟨p, 0, none⟩), [0]⟩, ⟨.quiet, [none, none], fun _ => .pointer (some ⟨p, 5, none⟩), [1]⟩, ⟨.quiet, [none, none], fun _ => .map none, [2]⟩, ⟨.quiet, [none, none], fun _ => .string (bs n), []⟩, ⟨.quiet, [none, none], fun _ => .slice none 0 0, [3, 4]⟩, ⟨.act 0, [some false, some false], fun _ => undef, [5]⟩, ⟨.quiet, [none, none], fun _ => .pointer (some ⟨p, 0, none⟩), []⟩, ⟨.quiet, [none, none], fun _ => .pointer (some ⟨p, 0, none⟩), [7]⟩, ⟨.quiet, [none, none], fun _ => .pointer (some ⟨p, 5, none⟩), [8]⟩, ⟨.quiet, [none, none], fun _ => .map none, [9]⟩, ⟨.quiet, [none, none], fun _ => .string (bs n), []⟩, ⟨.actv 1, [some true, some false], fun _ => .bool false, [10, 11]⟩] [(0, .pointer (some ⟨p, 0, none⟩)), (1, .string (bs n)), (4, .slice none 0 0), (5, .bool false)] (fun ρ => match ρ with | [r0, r1] => [CD r0 (fun v9 => As 5 1 encB v9 ([])) (D1), As 5 1 encB (.slice none 0 0) ([]), cell p 67 #[.int .i64 d.room, .int .i64 (C9 d.fuse), .bool true, x.pv, x.sm, .map none], As 99 5 encO x.pv x.W, BL x.W, AA x.sm d.syn] | _ => []) (by kernel_rfl) (by kernel_rfl) ⟨rfl, rfl, rfl, rfl, trivial⟩ rfl ?_ ?_
  · skip
    refine Ac (by intro r0_ r1_; exact ⟨rfl, fun b w hH hb => Af Ak rfl hb⟩) ?_
    refine Ac (by intro r0_ r1_; exact ⟨rfl, fun b w hH hb => by exact BA rfl rfl hb⟩) ?_
    refine Ac (by intro r0_ r1_; exact ⟨rfl, fun b w hH hb => Af Ak rfl hb⟩) ?_
    refine Ac (by intro r0_ r1_; exact ⟨rfl, fun b w hH hb => A6 rfl rfl (Bk AO rfl) (hH.row 2 rfl) hb⟩) ?_
    refine Ac (by intro r0_ r1_; exact ⟨rfl, fun b w hH hb => Af Ak rfl hb⟩) ?_
    refine Ac (by intro r0_ r1_; exact ⟨rfl, fun b w hH hb => Uz Dh rfl (k := n) rfl rfl hb⟩) ?_
    refine Ac (by exact ⟨rfl, Bp.s (Al (os' := fun v9 => [As 5 1 encB v9 ([]), As 5 1 encB (.slice none 0 0) ([]), cell p 67 #[.int .i64 d.room, .int .i64 (C9 d.fuse), .bool true, x.pv, x.sm, .map none], As 99 5 encO x.pv x.W, BL x.W, AA x.sm d.syn]) [1, 0] 1 (Ah Tryz.func59 (by kernel_rfl) rfl) (FP CU (by decide)) rfl rfl rfl (fun _ => rfl) rfl rfl rfl) (fun _ => rfl)⟩) ?_
    refine Ac (by intro r0_ r1_; exact ⟨rfl, fun b w hH hb => Af Ak rfl hb⟩) ?_
    refine Ac (by intro r0_ r1_; exact ⟨rfl, fun b w hH hb => by exact BA rfl rfl hb⟩) ?_
    refine Ac (by intro r0_ r1_; exact ⟨rfl, fun b w hH hb => Af Ak rfl hb⟩) ?_
    refine Ac (by intro r0_ r1_; exact ⟨rfl, fun b w hH hb => A6 rfl rfl (Bk AO rfl) (hH.row 2 rfl) hb⟩) ?_
    refine Ac (by intro r0_ r1_; exact ⟨rfl, fun b w hH hb => Af Ak rfl hb⟩) ?_
    refine Ac (by intro v9; exact ⟨rfl, Bp.su (Al (os' := fun _ => [As 5 1 encB v9 ([]), As 5 1 encB (.slice none 0 0) ([]), cell p 67 #[.int .i64 d.room, .int .i64 (C9 d.fuse), .bool true, x.pv, x.sm, .map none], As 99 5 encO x.pv x.W, BL x.W, AA x.sm d.syn]) [] 0 (Ah Tryz.func57 (by kernel_rfl) rfl) (UB n) rfl rfl rfl (fun _ => rfl) rfl rfl rfl) rfl⟩) ?_
    exact B2
  intro v9 v1_
  refine Cg.keep (env' := [(4, .slice none 0 0), (5, .bool false), (12, v9), (18, .bool false)]) ⟨rfl, rfl, rfl, rfl, trivial⟩ ?_
  refine Ae Ak rfl ?_
  refine AP (AE (Ay ?_))
  exact B3 (.tmp rfl) (.tmp rfl) (fun w h => AB v9 rfl [2, 3, 4, 5, 0] rfl h (Ja ⟨x.pv, x.sm, .map none, x.W, [], x.hW, (fun h => by rw [hd] at h; cases h), x.hok, x.hf, x.hr, x.hk⟩ hd rfl)) rfl
theorem S0 {p : Nat} {d : DiskD} {n y : List UInt8}  (hd : d.down = false) (hg : AQ d.now n = none) : AU Tryz.prog 32 #[.pointer (some ⟨p, 0, none⟩), .string (bs n)] [Ao p d] (fun (v : Value) => .tuple #[v, .bool false]) (fun (v : Value) => [Ao p d, As 5 1 encB v ([])]) := by
  refine Bd (args := [.pointer (some ⟨p, 0, none⟩), .string (bs n)]) 19 Tryz.func32 rfl rfl rfl ?_; intro w rs
  refine AZ 0 rfl (Di hd) (fun _ => rfl) ?_; rintro y
  refine Bv.fact 3 rfl BD ?_; rintro hsn
  refine Bv.fact 4 rfl BR ?_; rintro hgn
  have hgL : AQ y.L n = none := by rw [Gu y.hg hgn] at hg; simpa using hg
  refine B4 5 1 encB ?_
  refine Ad ?_
  refine Ae Ak rfl ?_
  refine Aa (Aq ?_)
  refine EF 1 rfl ?_
  refine BO 13 2 [⟨.quiet, [none, none], fun _ => .pointer (some ⟨p, 0, none⟩), []⟩, ⟨.quiet, [none, none], fun _ => .pointer (some ⟨p, 0, none⟩), [0]⟩, ⟨.quiet, [none, none], fun _ => .pointer (some ⟨p, 5, none⟩), [1]⟩, ⟨.quiet, [none, none], fun _ => y.sh, [2]⟩, ⟨.quiet, [none, none], fun _ => .string (bs n), []⟩, ⟨.quiet, [none, none], fun _ => .slice none 0 0, [3, 4]⟩, ⟨.act 0, [some false, some false], fun _ => undef, [5]⟩, ⟨.quiet, [none, none], fun _ => .pointer (some ⟨p, 0, none⟩), []⟩, ⟨.quiet, [none, none], fun _ => .pointer (some ⟨p, 0, none⟩), [7]⟩, ⟨.quiet, [none, none], fun _ => .pointer (some ⟨p, 5, none⟩), [8]⟩, ⟨.quiet, [none, none], fun _ => y.sh, [9]⟩, ⟨.quiet, [none, none], fun _ => .string (bs n), []⟩, ⟨.actv 1, [some true, some false], fun _ => .bool false, [10, 11]⟩] [(0, .pointer (some ⟨p, 0, none⟩)), (1, .string (bs n)), (4, .slice none 0 0), (5, .bool false)] (fun ρ => match ρ with | [r0, r1] => [CD r0 (fun v9 => As 5 1 encB v9 ([])) (D1), As 5 1 encB (.slice none 0 0) ([]), cell p 67 #[.int .i64 d.room, .int .i64 (C9 d.fuse), .bool false, y.pv, y.sm, y.sh], As 99 5 encO y.pv y.W, BL y.W, AA y.sm d.syn, BH encKey AM y.sh y.L, Bx y.L] | _ => []) (by kernel_rfl) (by kernel_rfl) ⟨rfl, rfl, rfl, rfl, trivial⟩ rfl ?_ ?_
  · skip
    refine Ac (by intro r0_ r1_; exact ⟨rfl, fun b w hH hb => Af Ak rfl hb⟩) ?_
    refine Ac (by intro r0_ r1_; exact ⟨rfl, fun b w hH hb => by exact BA rfl rfl hb⟩) ?_
    refine Ac (by intro r0_ r1_; exact ⟨rfl, fun b w hH hb => Af Ak rfl hb⟩) ?_
    refine Ac (by intro r0_ r1_; exact ⟨rfl, fun b w hH hb => A6 rfl rfl (Bk AO rfl) (hH.row 2 rfl) hb⟩) ?_
    refine Ac (by intro r0_ r1_; exact ⟨rfl, fun b w hH hb => Af Ak rfl hb⟩) ?_
    refine Ac (by intro r0_ r1_; exact ⟨rfl, fun b w hH hb => GU 6 Dh rfl (k := n) (r := none) hgL rfl rfl rfl hH hb⟩) ?_
    refine Ac (by exact ⟨rfl, Bp.s (Al (os' := fun v9 => [As 5 1 encB v9 ([]), As 5 1 encB (.slice none 0 0) ([]), cell p 67 #[.int .i64 d.room, .int .i64 (C9 d.fuse), .bool false, y.pv, y.sm, y.sh], As 99 5 encO y.pv y.W, BL y.W, AA y.sm d.syn, BH encKey AM y.sh y.L, Bx y.L]) [1, 0] 1 (Ah Tryz.func59 (by kernel_rfl) rfl) (FP CU (by decide)) rfl rfl rfl (fun _ => rfl) rfl rfl rfl) (fun _ => rfl)⟩) ?_
    refine Ac (by intro r0_ r1_; exact ⟨rfl, fun b w hH hb => Af Ak rfl hb⟩) ?_
    refine Ac (by intro r0_ r1_; exact ⟨rfl, fun b w hH hb => by exact BA rfl rfl hb⟩) ?_
    refine Ac (by intro r0_ r1_; exact ⟨rfl, fun b w hH hb => Af Ak rfl hb⟩) ?_
    refine Ac (by intro r0_ r1_; exact ⟨rfl, fun b w hH hb => A6 rfl rfl (Bk AO rfl) (hH.row 2 rfl) hb⟩) ?_
    refine Ac (by intro r0_ r1_; exact ⟨rfl, fun b w hH hb => Af Ak rfl hb⟩) ?_
    refine Ac (by intro v9; exact ⟨rfl, Bp.su (Al (os' := fun _ => [As 5 1 encB v9 ([]), As 5 1 encB (.slice none 0 0) ([]), cell p 67 #[.int .i64 d.room, .int .i64 (C9 d.fuse), .bool false, y.pv, y.sm, y.sh], As 99 5 encO y.pv y.W, BL y.W, AA y.sm d.syn, BH encKey AM y.sh y.L, Bx y.L]) [6] 0 (Ah Tryz.func57 (by kernel_rfl) rfl) (FH _ _ n _ hgL) rfl rfl rfl (fun _ => rfl) rfl rfl rfl) rfl⟩) ?_
    exact B2
  intro v9 v1_
  refine Cg.keep (env' := [(4, .slice none 0 0), (5, .bool false), (12, v9), (18, .bool false)]) ⟨rfl, rfl, rfl, rfl, trivial⟩ ?_
  refine Ae Ak rfl ?_
  refine AP (AE (Ay ?_))
  exact B3 (.tmp rfl) (.tmp rfl) (fun w h => AB v9 rfl [2, 3, 4, 5, 6, 7, 0] rfl h (C0 y hd)) rfl
theorem S1 {p : Nat} {d : DiskD} {n y : List UInt8}  (hd : d.down = false) (hfit : d.fit) (hg : AQ d.now n = some y) : AU Tryz.prog 32 #[.pointer (some ⟨p, 0, none⟩), .string (bs n)] [Ao p d] (fun (v : Value) => .tuple #[v, .bool true]) (fun (v : Value) => [Ao p d, As 5 1 encB v y]) := by
  refine Bd (args := [.pointer (some ⟨p, 0, none⟩), .string (bs n)]) 19 Tryz.func32 rfl rfl rfl ?_; intro w rs
  refine AZ 0 rfl (Di hd) (fun _ => rfl) ?_; rintro x
  refine Bv.fact 3 rfl BD ?_; rintro hsn
  refine Bv.fact 4 rfl BR ?_; rintro hgn
  obtain ⟨r, hgL, hry⟩ : ∃ r, AQ x.L n = some r ∧ r.2 = y := by rw [Gu x.hg hgn] at hg; exact Option.map_eq_some_iff.1 hg
  subst hry
  have hm : (n, r) ∈ x.L := (B8 (by rw [DZ] at hgn; exact hgn)).1 hgL
  have hpu : AK (Ce x.L) ≤ 1099511627776 := by rw [Df x.hg]; exact Ip hfit hsn x.hok
  have hrl : r.2.length ≤ AK (Ce x.L) := I9 hgn (by rw [Em, hgL]; rfl)
  refine Ad ?_
  refine Ae Ak rfl ?_
  refine Aa (Aq ?_)
  refine EF 1 rfl ?_
  refine BO 13 2 [⟨.quiet, [none, none], fun _ => .pointer (some ⟨p, 0, none⟩), []⟩, ⟨.quiet, [none, none], fun _ => .pointer (some ⟨p, 0, none⟩), [0]⟩, ⟨.quiet, [none, none], fun _ => .pointer (some ⟨p, 5, none⟩), [1]⟩, ⟨.quiet, [none, none], fun _ => x.sh, [2]⟩, ⟨.quiet, [none, none], fun _ => .string (bs n), []⟩, ⟨.quiet, [none, none], fun _ => r.1, [3, 4]⟩, ⟨.act 0, [some false, some false], fun _ => undef, [5]⟩, ⟨.quiet, [none, none], fun _ => .pointer (some ⟨p, 0, none⟩), []⟩, ⟨.quiet, [none, none], fun _ => .pointer (some ⟨p, 0, none⟩), [7]⟩, ⟨.quiet, [none, none], fun _ => .pointer (some ⟨p, 5, none⟩), [8]⟩, ⟨.quiet, [none, none], fun _ => x.sh, [9]⟩, ⟨.quiet, [none, none], fun _ => .string (bs n), []⟩, ⟨.actv 1, [some true, some false], fun _ => .bool true, [10, 11]⟩] [(0, .pointer (some ⟨p, 0, none⟩)), (1, .string (bs n)), (4, .slice none 0 0), (5, .bool false)] (fun ρ => match ρ with | [r0, r1] => [CD r0 (fun v9 => As 5 1 encB v9 r.2) (D1), cell p 67 #[.int .i64 d.room, .int .i64 (C9 d.fuse), .bool false, x.pv, x.sm, x.sh], As 99 5 encO x.pv x.W, BL x.W, AA x.sm d.syn, BH encKey AM x.sh x.L, Bx x.L] | _ => []) (by kernel_rfl) (by kernel_rfl) ⟨rfl, rfl, rfl, rfl, trivial⟩ rfl ?_ ?_
  · skip
    refine Ac (by intro r0_ r1_; exact ⟨rfl, fun b w hH hb => Af Ak rfl hb⟩) ?_
    refine Ac (by intro r0_ r1_; exact ⟨rfl, fun b w hH hb => by exact BA rfl rfl hb⟩) ?_
    refine Ac (by intro r0_ r1_; exact ⟨rfl, fun b w hH hb => Af Ak rfl hb⟩) ?_
    refine Ac (by intro r0_ r1_; exact ⟨rfl, fun b w hH hb => A6 rfl rfl (Bk AO rfl) (hH.row 1 rfl) hb⟩) ?_
    refine Ac (by intro r0_ r1_; exact ⟨rfl, fun b w hH hb => Af Ak rfl hb⟩) ?_
    refine Ac (by intro r0_ r1_; exact ⟨rfl, fun b w hH hb => GU 5 Dh rfl (k := n) (r := some r) hgL rfl rfl rfl hH hb⟩) ?_
    refine Ac (by exact ⟨rfl, Bp.s (Al (os' := fun v9 => [As 5 1 encB v9 r.2, cell p 67 #[.int .i64 d.room, .int .i64 (C9 d.fuse), .bool false, x.pv, x.sm, x.sh], As 99 5 encO x.pv x.W, BL x.W, AA x.sm d.syn, BH encKey AM x.sh x.L, Bx x.L]) [6, 0] 1 (Ah Tryz.func59 (by kernel_rfl) rfl) (FP (Hu hm) (by show r.2.length ≤ _; omega)) rfl rfl rfl (fun _ => rfl) rfl rfl rfl) (fun _ => rfl)⟩) ?_
    refine Ac (by intro r0_ r1_; exact ⟨rfl, fun b w hH hb => Af Ak rfl hb⟩) ?_
    refine Ac (by intro r0_ r1_; exact ⟨rfl, fun b w hH hb => by exact BA rfl rfl hb⟩) ?_
    refine Ac (by intro r0_ r1_; exact ⟨rfl, fun b w hH hb => Af Ak rfl hb⟩) ?_
    refine Ac (by intro r0_ r1_; exact ⟨rfl, fun b w hH hb => A6 rfl rfl (Bk AO rfl) (hH.row 1 rfl) hb⟩) ?_
    refine Ac (by intro r0_ r1_; exact ⟨rfl, fun b w hH hb => Af Ak rfl hb⟩) ?_
    refine Ac (by intro v9; exact ⟨rfl, Bp.su (Al (os' := fun _ => [As 5 1 encB v9 r.2, cell p 67 #[.int .i64 d.room, .int .i64 (C9 d.fuse), .bool false, x.pv, x.sm, x.sh], As 99 5 encO x.pv x.W, BL x.W, AA x.sm d.syn, BH encKey AM x.sh x.L, Bx x.L]) [5] 0 (Ah Tryz.func57 (by kernel_rfl) rfl) (FH _ _ n _ hgL) rfl rfl rfl (fun _ => rfl) rfl rfl rfl) rfl⟩) ?_
    exact B2
  intro v9 v1_
  refine Cg.keep (env' := [(4, .slice none 0 0), (5, .bool false), (12, v9), (18, .bool true)]) ⟨rfl, rfl, rfl, rfl, trivial⟩ ?_
  refine Ae Ak rfl ?_
  refine AP (AE (Ay ?_))
  exact B3 (.tmp rfl) (.tmp rfl) (fun w h => AB v9 rfl [1, 2, 3, 4, 5, 6, 0] rfl h (C0 x hd)) rfl
theorem F6 {p : Nat} {d : DiskD} {n b : List UInt8} {ok : Bool} (hd : d.fit) (h : (BJ d n).isSome = ok) (hb : (BJ d n).getD [] = b) : AU Tryz.prog 32 #[.pointer (some ⟨p, 0, none⟩), .string (bs n)] [Ao p d] (fun v : Value => .tuple #[v, .bool ok]) (fun v => [Ao p d, As 5 1 encB v b]) := by
  subst h hb
  unfold BJ
  cases hdn : d.down
  · rw [if_neg (by simp)]
    cases hg : AQ d.now n with
    | none => exact S0 (y := []) hdn hg
    | some y => exact S1 hdn hd hg
  · rw [if_pos rfl]
    exact VB (y := []) hdn
end Go.Proofs.YtnknboibmifacaaGreat.Sep
namespace Go.Proofs.YtnknboibmifacaaGreat.Sep
open Go.RowKit
open Go.Proofs.YtnknboibmifacaaGreat.Mem (Bl Co Chg AG)
theorem Rx {X : Ass} {p : Nat} {d d1 : DiskD} {n y : List UInt8} {v : Value} (h : Bi d = (d1, 3)) : AU Tryz.prog 21 #[.pointer (some ⟨p, 0, none⟩), .string (bs n), v] [Ao p d, X] (fun (_ : Unit) => .int .i64 3) (fun (_ : Unit) => [Ao p d1, X]) := by
 refine Bd (args := [.pointer (some ⟨p, 0, none⟩), .string (bs n), v]) 48 Tryz.func21 rfl rfl rfl ?_; intro w rs
 refine Ad ?_
 refine Ae Ak rfl ?_
 refine Aa (Aq (Ad ?_))
 refine Ae Ak rfl ?_
 refine Aj rfl (Al (os' := fun _ => [Ao p d1, X]) [0] 0 (Ah Tryz.func28 (by kernel_rfl) rfl) (G0 h) rfl rfl rfl (fun _ => rfl) rfl rfl rfl) ?_; rintro ⟨⟩
 refine Ae Ak rfl ?_
 refine Aa (AC rfl (Ad ?_))
 refine Ae Ak rfl ?_
 refine Aa (Ay (CM ?_))
 exact Av (.tmp rfl) (fun w h => AB () rfl [0, 1] rfl h Cl) rfl
theorem Pe {X : Ass} {p : Nat} {d d1 : DiskD} {n y : List UInt8} {v : Value} (h : Bi d = (d1, 0)) (hn : CE n = false) : AU Tryz.prog 21 #[.pointer (some ⟨p, 0, none⟩), .string (bs n), v] [Ao p d, X] (fun (_ : Unit) => .int .i64 1) (fun (_ : Unit) => [Ao p d1, X]) := by
 refine Bd (args := [.pointer (some ⟨p, 0, none⟩), .string (bs n), v]) 48 Tryz.func21 rfl rfl rfl ?_; intro w rs
 refine Ad ?_
 refine Ae Ak rfl ?_
 refine Aa (Aq (Ad ?_))
 refine Ae Ak rfl ?_
 refine Aj rfl (Al (os' := fun _ => [Ao p d1, X]) [0] 0 (Ah Tryz.func28 (by kernel_rfl) rfl) (Dp h) rfl rfl rfl (fun _ => rfl) rfl rfl rfl) ?_; rintro ⟨⟩
 refine Ae Ak rfl ?_
 refine Aa (Ar rfl (Ax (AE (Aq (Ad ?_)))))
 refine Ae Ak rfl ?_
 refine Aj (post := fun _ => [Ao p d1, X]) rfl (By (Ah Tryz.func56 (by kernel_rfl) rfl) (fun w hH => K9 w n hn) rfl rfl rfl) ?_; rintro ⟨⟩
 refine Ae Ak rfl ?_
 refine Aa (AC rfl (Ad ?_))
 refine Ae Ak rfl ?_
 refine Aa (Ay (CM ?_))
 exact Av (.tmp rfl) (fun w h => AB () rfl [0, 1] rfl h Cl) rfl
theorem NR {X : Ass} {p : Nat} {d d1 : DiskD} {n y : List UInt8} {v : Value} (hX : CX X v y) (hfit : d.fit) (h : Bi d = (d1, 0)) (hn : CE n = true) (hy : y.length ≤ 140737488351232) (hf : EW d1 n y = false) : AU Tryz.prog 21 #[.pointer (some ⟨p, 0, none⟩), .string (bs n), v] [Ao p d, X] (fun (_ : Unit) => .int .i64 2) (fun (_ : Unit) => [Ao p d1, X]) := by
  have hd1 := (DE h).1
  have hfit1 := Dq h hfit
  refine Bd (args := [.pointer (some ⟨p, 0, none⟩), .string (bs n), v]) 48 Tryz.func21 rfl rfl rfl ?_; intro w rs
  refine Ad ?_
  refine Ae Ak rfl ?_
  refine Aa (Aq (Ad ?_))
  refine Ae Ak rfl ?_
  refine Aj rfl (Al (os' := fun _ => [Ao p d1, X]) [0] 0 (Ah Tryz.func28 (by kernel_rfl) rfl) (Dp h) rfl rfl rfl (fun _ => rfl) rfl rfl rfl) ?_; rintro ⟨⟩
  refine Ae Ak rfl ?_
  refine Aa (Ar rfl (Ax (AE (Aq (Ad ?_)))))
  refine Ae Ak rfl ?_
  refine Aj (post := fun _ => [Ao p d1, X]) rfl (By (Ah Tryz.func56 (by kernel_rfl) rfl) (fun w hH => Gw w n hn) rfl rfl rfl) ?_; rintro ⟨⟩
  refine Ae Ak rfl ?_
  refine Aa (Ar rfl (Ax (AE ?_)))
  refine AZ 0 rfl (Di hd1) (fun _ => rfl) ?_; rintro x
  refine Bv.fact 3 rfl BD ?_; rintro hsn
  refine Bv.fact 4 rfl BR ?_; rintro hgn
  have hr := x.hr
  have hpu : AK (Ce x.L) ≤ 1099511627776 := by rw [Df x.hg]; exact Ip hfit1 hsn x.hok
  rcases Rs x.hg hgn hf with ⟨hlen, hgL⟩ | ⟨hlen, r, hgL⟩ | ⟨hlen, hgL, h64⟩
  · skip
    refine Ad ?_
    refine Ae Ak rfl ?_
    refine Ab rfl (.pointer (some ⟨p, 0, none⟩)) (fun b w hb hH => by exact BA rfl rfl hb) ?_
    refine Ae Ak rfl ?_
    refine Ab rfl (x.sh) (fun b w hb hH => A6 rfl rfl (Bk AO rfl) (hH.row 0 rfl) hb) ?_
    refine Ae Ak rfl ?_
    refine Aj rfl (Al (os' := fun _ => [cell p 67 #[.int .i64 d1.room, .int .i64 (C9 d1.fuse), .bool false, x.pv, x.sm, x.sh], As 99 5 encO x.pv x.W, BL x.W, AA x.sm d1.syn, BH encKey AM x.sh x.L, Bx x.L, X]) [4] 0 (Ah Tryz.func57 (by kernel_rfl) rfl) (FH _ _ n _ hgL) rfl rfl rfl (fun _ => rfl) rfl rfl rfl) ?_; rintro ⟨⟩
    refine Ae Ak rfl ?_
    refine Aa (Aq (Aq ?_))
    refine BO 21 1 [⟨.quiet, [none], fun _ => v, []⟩, ⟨.quiet, [none], fun _ => .int .i64 (y.length : Int), [0]⟩, ⟨.quiet, [none], fun _ => .pointer (some ⟨p, 0, none⟩), []⟩, ⟨.quiet, [none], fun _ => .pointer (some ⟨p, 0, none⟩), [2]⟩, ⟨.quiet, [none], fun _ => .pointer (some ⟨p, 0, none⟩), [3]⟩, ⟨.quiet, [none], fun _ => .int .i64 d1.room, [4]⟩, ⟨.quiet, [none], fun _ => .pointer (some ⟨p, 0, none⟩), []⟩, ⟨.actv 0, [some false], fun _ => .int .i64 ((AK (Ce x.L) : Nat) : Int), [6]⟩, ⟨.quiet, [some true], fun _ => .int .i64 (d1.room - (AK (Ce x.L) : Int)), [5, 7]⟩, ⟨.quiet, [some true], fun _ => .bool true, [1, 8]⟩, ⟨.quiet, [some true], fun _ => .bool true, [9]⟩, ⟨.skip, [some true], fun _ => undef, [10]⟩, ⟨.skip, [some true], fun _ => undef, [11, 10]⟩, ⟨.skip, [some true], fun _ => undef, [12]⟩, ⟨.skip, [some true], fun _ => undef, [13, 12]⟩, ⟨.skip, [some true], fun _ => undef, [14, 12]⟩, ⟨.skip, [some true], fun _ => undef, [15, 12]⟩, ⟨.skip, [some true], fun _ => undef, [16, 12]⟩, ⟨.skip, [some true], fun _ => undef, [17, 12]⟩, ⟨.skip, [some true], fun _ => undef, [12, 18, 10]⟩, ⟨.quiet, [some true], fun _ => .bool true, [10, 19]⟩] [(0, .pointer (some ⟨p, 0, none⟩)), (1, .string (bs n)), (2, v), (6, .int .i64 0), (7, .bool true)] (fun ρ => match ρ with | [r0] => [cell p 67 #[.int .i64 d1.room, .int .i64 (C9 d1.fuse), .bool false, x.pv, x.sm, x.sh], As 99 5 encO x.pv x.W, BL x.W, AA x.sm d1.syn, BH encKey AM x.sh x.L, Bx x.L, X] | _ => []) (by kernel_rfl) (by kernel_rfl) ⟨rfl, rfl, rfl, rfl, rfl, trivial⟩ rfl ?_ ?_
    · skip
      refine Ac (by intro r0_; exact ⟨rfl, fun b w hH hb => Af Ak rfl hb⟩) ?_
      refine Ac (by intro r0_; exact ⟨rfl, fun b w hH hb => AT ((hH.rd8 6 rfl hX).rd) Tryz.underlying48 rfl rfl hb⟩) ?_
      refine Ac (by intro r0_; exact ⟨rfl, fun b w hH hb => Af Ak rfl hb⟩) ?_
      refine Ac (by intro r0_; exact ⟨rfl, fun b w hH hb => by exact BA rfl rfl hb⟩) ?_
      refine Ac (by intro r0_; exact ⟨rfl, fun b w hH hb => Af Ak rfl hb⟩) ?_
      refine Ac (by intro r0_; exact ⟨rfl, fun b w hH hb => A6 rfl rfl (Bk AR rfl) (hH.row 0 rfl) hb⟩) ?_
      refine Ac (by intro r0_; exact ⟨rfl, fun b w hH hb => Af Ak rfl hb⟩) ?_
      refine Ac (by exact ⟨rfl, Bp.su (Al (os' := fun _ => [cell p 67 #[.int .i64 d1.room, .int .i64 (C9 d1.fuse), .bool false, x.pv, x.sm, x.sh], As 99 5 encO x.pv x.W, BL x.W, AA x.sm d1.syn, BH encKey AM x.sh x.L, Bx x.L, X]) [0, 4, 5] 0 (Ah Tryz.func50 (by kernel_rfl) rfl) (Lb p _ _ _ _ _ _ x.L hpu) rfl rfl rfl (fun _ => rfl) rfl rfl rfl) rfl⟩) ?_
      refine Ac (by intro v0_; exact ⟨rfl, fun b w hH hb => AN rfl rfl rfl rfl (IntWalk.i64_in _ (by omega)) hb⟩) ?_
      refine Ac (by intro v0_; exact ⟨rfl, fun b w hH hb => AV rfl rfl rfl (BY (by omega)) hb⟩) ?_
      refine Ac (by intro v0_; exact ⟨rfl, fun b w hH hb => Af Ak rfl hb⟩) ?_
      refine Ac (by intro v0_; exact ⟨rfl, rfl⟩) ?_
      refine Ac (by intro v0_; exact ⟨rfl, rfl⟩) ?_
      refine Ac (by intro v0_; exact ⟨rfl, rfl⟩) ?_
      refine Ac (by intro v0_; exact ⟨rfl, rfl⟩) ?_
      refine Ac (by intro v0_; exact ⟨rfl, rfl⟩) ?_
      refine Ac (by intro v0_; exact ⟨rfl, rfl⟩) ?_
      refine Ac (by intro v0_; exact ⟨rfl, rfl⟩) ?_
      refine Ac (by intro v0_; exact ⟨rfl, rfl⟩) ?_
      refine Ac (by intro v0_; exact ⟨rfl, rfl⟩) ?_
      refine Ac (by intro v0_; exact ⟨rfl, fun b w hH hb => Af Ak rfl hb⟩) ?_
      exact B2
    intro v0_
    refine Cg.keep (env' := [(0, .pointer (some ⟨p, 0, none⟩)), (1, .string (bs n)), (2, v), (6, .int .i64 0), (41, .bool true)]) ⟨rfl, rfl, rfl, rfl, rfl, trivial⟩ ?_
    refine AP (AE (AC rfl (Ad ?_)))
    refine Ae Ak rfl ?_
    refine Aa (Ay (CM ?_))
    exact Av (.tmp rfl) (fun w h => AB () rfl [0, 1, 2, 3, 4, 5, 6] rfl h (C0 x hd1)) rfl
  · skip
    refine Ad ?_
    refine Ae Ak rfl ?_
    refine Ab rfl (.pointer (some ⟨p, 0, none⟩)) (fun b w hb hH => by exact BA rfl rfl hb) ?_
    refine Ae Ak rfl ?_
    refine Ab rfl (x.sh) (fun b w hb hH => A6 rfl rfl (Bk AO rfl) (hH.row 0 rfl) hb) ?_
    refine Ae Ak rfl ?_
    refine Aj rfl (Al (os' := fun _ => [cell p 67 #[.int .i64 d1.room, .int .i64 (C9 d1.fuse), .bool false, x.pv, x.sm, x.sh], As 99 5 encO x.pv x.W, BL x.W, AA x.sm d1.syn, BH encKey AM x.sh x.L, Bx x.L, X]) [4] 0 (Ah Tryz.func57 (by kernel_rfl) rfl) (FH _ _ n _ hgL) rfl rfl rfl (fun _ => rfl) rfl rfl rfl) ?_; rintro ⟨⟩
    refine Ae Ak rfl ?_
    refine Aa (Aq (Aq ?_))
    refine BO 21 1 [⟨.quiet, [none], fun _ => v, []⟩, ⟨.quiet, [none], fun _ => .int .i64 (y.length : Int), [0]⟩, ⟨.quiet, [none], fun _ => .pointer (some ⟨p, 0, none⟩), []⟩, ⟨.quiet, [none], fun _ => .pointer (some ⟨p, 0, none⟩), [2]⟩, ⟨.quiet, [none], fun _ => .pointer (some ⟨p, 0, none⟩), [3]⟩, ⟨.quiet, [none], fun _ => .int .i64 d1.room, [4]⟩, ⟨.quiet, [none], fun _ => .pointer (some ⟨p, 0, none⟩), []⟩, ⟨.actv 0, [some false], fun _ => .int .i64 ((AK (Ce x.L) : Nat) : Int), [6]⟩, ⟨.quiet, [some true], fun _ => .int .i64 (d1.room - (AK (Ce x.L) : Int)), [5, 7]⟩, ⟨.quiet, [some true], fun _ => .bool true, [1, 8]⟩, ⟨.quiet, [some true], fun _ => .bool true, [9]⟩, ⟨.skip, [some true], fun _ => undef, [10]⟩, ⟨.skip, [some true], fun _ => undef, [11, 10]⟩, ⟨.skip, [some true], fun _ => undef, [12]⟩, ⟨.skip, [some true], fun _ => undef, [13, 12]⟩, ⟨.skip, [some true], fun _ => undef, [14, 12]⟩, ⟨.skip, [some true], fun _ => undef, [15, 12]⟩, ⟨.skip, [some true], fun _ => undef, [16, 12]⟩, ⟨.skip, [some true], fun _ => undef, [17, 12]⟩, ⟨.skip, [some true], fun _ => undef, [12, 18, 10]⟩, ⟨.quiet, [some true], fun _ => .bool true, [10, 19]⟩] [(0, .pointer (some ⟨p, 0, none⟩)), (1, .string (bs n)), (2, v), (6, .int .i64 0), (7, .bool false)] (fun ρ => match ρ with | [r0] => [cell p 67 #[.int .i64 d1.room, .int .i64 (C9 d1.fuse), .bool false, x.pv, x.sm, x.sh], As 99 5 encO x.pv x.W, BL x.W, AA x.sm d1.syn, BH encKey AM x.sh x.L, Bx x.L, X] | _ => []) (by kernel_rfl) (by kernel_rfl) ⟨rfl, rfl, rfl, rfl, rfl, trivial⟩ rfl ?_ ?_
    · skip
      refine Ac (by intro r0_; exact ⟨rfl, fun b w hH hb => Af Ak rfl hb⟩) ?_
      refine Ac (by intro r0_; exact ⟨rfl, fun b w hH hb => AT ((hH.rd8 6 rfl hX).rd) Tryz.underlying48 rfl rfl hb⟩) ?_
      refine Ac (by intro r0_; exact ⟨rfl, fun b w hH hb => Af Ak rfl hb⟩) ?_
      refine Ac (by intro r0_; exact ⟨rfl, fun b w hH hb => by exact BA rfl rfl hb⟩) ?_
      refine Ac (by intro r0_; exact ⟨rfl, fun b w hH hb => Af Ak rfl hb⟩) ?_
      refine Ac (by intro r0_; exact ⟨rfl, fun b w hH hb => A6 rfl rfl (Bk AR rfl) (hH.row 0 rfl) hb⟩) ?_
      refine Ac (by intro r0_; exact ⟨rfl, fun b w hH hb => Af Ak rfl hb⟩) ?_
      refine Ac (by exact ⟨rfl, Bp.su (Al (os' := fun _ => [cell p 67 #[.int .i64 d1.room, .int .i64 (C9 d1.fuse), .bool false, x.pv, x.sm, x.sh], As 99 5 encO x.pv x.W, BL x.W, AA x.sm d1.syn, BH encKey AM x.sh x.L, Bx x.L, X]) [0, 4, 5] 0 (Ah Tryz.func50 (by kernel_rfl) rfl) (Lb p _ _ _ _ _ _ x.L hpu) rfl rfl rfl (fun _ => rfl) rfl rfl rfl) rfl⟩) ?_
      refine Ac (by intro v0_; exact ⟨rfl, fun b w hH hb => AN rfl rfl rfl rfl (IntWalk.i64_in _ (by omega)) hb⟩) ?_
      refine Ac (by intro v0_; exact ⟨rfl, fun b w hH hb => AV rfl rfl rfl (BY (by omega)) hb⟩) ?_
      refine Ac (by intro v0_; exact ⟨rfl, fun b w hH hb => Af Ak rfl hb⟩) ?_
      refine Ac (by intro v0_; exact ⟨rfl, rfl⟩) ?_
      refine Ac (by intro v0_; exact ⟨rfl, rfl⟩) ?_
      refine Ac (by intro v0_; exact ⟨rfl, rfl⟩) ?_
      refine Ac (by intro v0_; exact ⟨rfl, rfl⟩) ?_
      refine Ac (by intro v0_; exact ⟨rfl, rfl⟩) ?_
      refine Ac (by intro v0_; exact ⟨rfl, rfl⟩) ?_
      refine Ac (by intro v0_; exact ⟨rfl, rfl⟩) ?_
      refine Ac (by intro v0_; exact ⟨rfl, rfl⟩) ?_
      refine Ac (by intro v0_; exact ⟨rfl, rfl⟩) ?_
      refine Ac (by intro v0_; exact ⟨rfl, fun b w hH hb => Af Ak rfl hb⟩) ?_
      exact B2
    intro v0_
    refine Cg.keep (env' := [(0, .pointer (some ⟨p, 0, none⟩)), (1, .string (bs n)), (2, v), (6, .int .i64 0), (41, .bool true)]) ⟨rfl, rfl, rfl, rfl, rfl, trivial⟩ ?_
    refine AP (AE (AC rfl (Ad ?_)))
    refine Ae Ak rfl ?_
    refine Aa (Ay (CM ?_))
    exact Av (.tmp rfl) (fun w h => AB () rfl [0, 1, 2, 3, 4, 5, 6] rfl h (C0 x hd1)) rfl
  · skip
    refine Ad ?_
    refine Ae Ak rfl ?_
    refine Ab rfl (.pointer (some ⟨p, 0, none⟩)) (fun b w hb hH => by exact BA rfl rfl hb) ?_
    refine Ae Ak rfl ?_
    refine Ab rfl (x.sh) (fun b w hb hH => A6 rfl rfl (Bk AO rfl) (hH.row 0 rfl) hb) ?_
    refine Ae Ak rfl ?_
    refine Aj rfl (Al (os' := fun _ => [cell p 67 #[.int .i64 d1.room, .int .i64 (C9 d1.fuse), .bool false, x.pv, x.sm, x.sh], As 99 5 encO x.pv x.W, BL x.W, AA x.sm d1.syn, BH encKey AM x.sh x.L, Bx x.L, X]) [4] 0 (Ah Tryz.func57 (by kernel_rfl) rfl) (FH _ _ n _ hgL) rfl rfl rfl (fun _ => rfl) rfl rfl rfl) ?_; rintro ⟨⟩
    refine Ae Ak rfl ?_
    refine Aa (Aq (Aq ?_))
    refine BO 21 1 [⟨.quiet, [none], fun _ => v, []⟩, ⟨.quiet, [none], fun _ => .int .i64 (y.length : Int), [0]⟩, ⟨.quiet, [none], fun _ => .pointer (some ⟨p, 0, none⟩), []⟩, ⟨.quiet, [none], fun _ => .pointer (some ⟨p, 0, none⟩), [2]⟩, ⟨.quiet, [none], fun _ => .pointer (some ⟨p, 0, none⟩), [3]⟩, ⟨.quiet, [none], fun _ => .int .i64 d1.room, [4]⟩, ⟨.quiet, [none], fun _ => .pointer (some ⟨p, 0, none⟩), []⟩, ⟨.actv 0, [some false], fun _ => .int .i64 ((AK (Ce x.L) : Nat) : Int), [6]⟩, ⟨.quiet, [some true], fun _ => .int .i64 (d1.room - (AK (Ce x.L) : Int)), [5, 7]⟩, ⟨.quiet, [some true], fun _ => .bool false, [1, 8]⟩, ⟨.quiet, [some true], fun _ => .bool false, [9]⟩, ⟨.quiet, [some true], fun _ => .bool true, [10]⟩, ⟨.quiet, [some true], fun _ => .bool true, [11, 10]⟩, ⟨.quiet, [some true], fun _ => .pointer (some ⟨p, 0, none⟩), [12]⟩, ⟨.quiet, [some true], fun _ => .pointer (some ⟨p, 0, none⟩), [13, 12]⟩, ⟨.quiet, [some true], fun _ => .pointer (some ⟨p, 5, none⟩), [14, 12]⟩, ⟨.quiet, [some true], fun _ => x.sh, [15, 12]⟩, ⟨.quiet, [some true], fun _ => .int .i64 (x.L.length : Int), [16, 12]⟩, ⟨.quiet, [some true], fun _ => .bool true, [17, 12]⟩, ⟨.quiet, [some true], fun _ => .bool true, [12, 18, 10]⟩, ⟨.quiet, [some true], fun _ => .bool true, [10, 19]⟩] [(0, .pointer (some ⟨p, 0, none⟩)), (1, .string (bs n)), (2, v), (6, .int .i64 0), (7, .bool true)] (fun ρ => match ρ with | [r0] => [cell p 67 #[.int .i64 d1.room, .int .i64 (C9 d1.fuse), .bool false, x.pv, x.sm, x.sh], As 99 5 encO x.pv x.W, BL x.W, AA x.sm d1.syn, BH encKey AM x.sh x.L, Bx x.L, X] | _ => []) (by kernel_rfl) (by kernel_rfl) ⟨rfl, rfl, rfl, rfl, rfl, trivial⟩ rfl ?_ ?_
    · skip
      refine Ac (by intro r0_; exact ⟨rfl, fun b w hH hb => Af Ak rfl hb⟩) ?_
      refine Ac (by intro r0_; exact ⟨rfl, fun b w hH hb => AT ((hH.rd8 6 rfl hX).rd) Tryz.underlying48 rfl rfl hb⟩) ?_
      refine Ac (by intro r0_; exact ⟨rfl, fun b w hH hb => Af Ak rfl hb⟩) ?_
      refine Ac (by intro r0_; exact ⟨rfl, fun b w hH hb => by exact BA rfl rfl hb⟩) ?_
      refine Ac (by intro r0_; exact ⟨rfl, fun b w hH hb => Af Ak rfl hb⟩) ?_
      refine Ac (by intro r0_; exact ⟨rfl, fun b w hH hb => A6 rfl rfl (Bk AR rfl) (hH.row 0 rfl) hb⟩) ?_
      refine Ac (by intro r0_; exact ⟨rfl, fun b w hH hb => Af Ak rfl hb⟩) ?_
      refine Ac (by exact ⟨rfl, Bp.su (Al (os' := fun _ => [cell p 67 #[.int .i64 d1.room, .int .i64 (C9 d1.fuse), .bool false, x.pv, x.sm, x.sh], As 99 5 encO x.pv x.W, BL x.W, AA x.sm d1.syn, BH encKey AM x.sh x.L, Bx x.L, X]) [0, 4, 5] 0 (Ah Tryz.func50 (by kernel_rfl) rfl) (Lb p _ _ _ _ _ _ x.L hpu) rfl rfl rfl (fun _ => rfl) rfl rfl rfl) rfl⟩) ?_
      refine Ac (by intro v0_; exact ⟨rfl, fun b w hH hb => AN rfl rfl rfl rfl (IntWalk.i64_in _ (by omega)) hb⟩) ?_
      refine Ac (by intro v0_; exact ⟨rfl, fun b w hH hb => AV rfl rfl rfl (BE (by omega)) hb⟩) ?_
      refine Ac (by intro v0_; exact ⟨rfl, fun b w hH hb => Af Ak rfl hb⟩) ?_
      refine Ac (by intro v0_; exact ⟨rfl, fun b w hH hb => Af Ak rfl hb⟩) ?_
      refine Ac (by intro v0_; exact ⟨rfl, fun b w hH hb => Af Ak rfl hb⟩) ?_
      refine Ac (by intro v0_; exact ⟨rfl, fun b w hH hb => Af Ak rfl hb⟩) ?_
      refine Ac (by intro v0_; exact ⟨rfl, fun b w hH hb => by exact BA rfl rfl hb⟩) ?_
      refine Ac (by intro v0_; exact ⟨rfl, fun b w hH hb => Af Ak rfl hb⟩) ?_
      refine Ac (by intro v0_; exact ⟨rfl, fun b w hH hb => A6 rfl rfl (Bk AO rfl) (hH.row 0 rfl) hb⟩) ?_
      refine Ac (by intro v0_; exact ⟨rfl, fun b w hH hb => OT 4 Tryz.underlying65 rfl rfl rfl hH hb⟩) ?_
      refine Ac (by intro v0_; exact ⟨rfl, fun b w hH hb => AV rfl rfl rfl (B7 (by omega)) hb⟩) ?_
      refine Ac (by intro v0_; exact ⟨rfl, fun b w hH hb => Af Ak rfl hb⟩) ?_
      refine Ac (by intro v0_; exact ⟨rfl, fun b w hH hb => Af Ak rfl hb⟩) ?_
      exact B2
    intro v0_
    refine Cg.keep (env' := [(0, .pointer (some ⟨p, 0, none⟩)), (1, .string (bs n)), (2, v), (6, .int .i64 0), (41, .bool true)]) ⟨rfl, rfl, rfl, rfl, rfl, trivial⟩ ?_
    refine AP (AE (AC rfl (Ad ?_)))
    refine Ae Ak rfl ?_
    refine Aa (Ay (CM ?_))
    exact Av (.tmp rfl) (fun w h => AB () rfl [0, 1, 2, 3, 4, 5, 6] rfl h (C0 x hd1)) rfl
theorem Ry {X : Ass} {p : Nat} {d d1 : DiskD} {n y : List UInt8} {v : Value} (hX : CX X v y) (hfit : d.fit) (h : Bi d = (d1, 0)) (hn : CE n = true) (hy : y.length ≤ 140737488351232) (hf : EW d1 n y = true) : AU Tryz.prog 21 #[.pointer (some ⟨p, 0, none⟩), .string (bs n), v] [Ao p d, X] (fun (_ : Unit) => .int .i64 0) (fun (_ : Unit) => [Ao p (Cr d1 (.app n y)), X]) := by
  have hd1 := (DE h).1
  have hfit1 := Dq h hfit
  refine Bd (args := [.pointer (some ⟨p, 0, none⟩), .string (bs n), v]) 48 Tryz.func21 rfl rfl rfl ?_; intro w rs
  refine Ad ?_
  refine Ae Ak rfl ?_
  refine Aa (Aq (Ad ?_))
  refine Ae Ak rfl ?_
  refine Aj rfl (Al (os' := fun _ => [Ao p d1, X]) [0] 0 (Ah Tryz.func28 (by kernel_rfl) rfl) (Dp h) rfl rfl rfl (fun _ => rfl) rfl rfl rfl) ?_; rintro ⟨⟩
  refine Ae Ak rfl ?_
  refine Aa (Ar rfl (Ax (AE (Aq (Ad ?_)))))
  refine Ae Ak rfl ?_
  refine Aj (post := fun _ => [Ao p d1, X]) rfl (By (Ah Tryz.func56 (by kernel_rfl) rfl) (fun w hH => Gw w n hn) rfl rfl rfl) ?_; rintro ⟨⟩
  refine Ae Ak rfl ?_
  refine Aa (Ar rfl (Ax (AE ?_)))
  refine AZ 0 rfl (Di hd1) (fun _ => rfl) ?_; rintro x
  refine Bv.fact 3 rfl BD ?_; rintro hsn
  refine Bv.fact 4 rfl BR ?_; rintro hgn
  have hr := x.hr
  have hpu : AK (Ce x.L) ≤ 1099511627776 := by rw [Df x.hg]; exact Ip hfit1 hsn x.hok
  obtain ⟨hlen, hw⟩ := Uy x.hg hgn hf
  have hsz : (OpD.app n y).size ≤ 1048576 := by show y.length ≤ _; omega
  rcases hw with ⟨r, hgL⟩ | ⟨hgL, h64⟩
  · skip
    refine Ad ?_
    refine Ae Ak rfl ?_
    refine Ab rfl (.pointer (some ⟨p, 0, none⟩)) (fun b w hb hH => by exact BA rfl rfl hb) ?_
    refine Ae Ak rfl ?_
    refine Ab rfl (x.sh) (fun b w hb hH => A6 rfl rfl (Bk AO rfl) (hH.row 0 rfl) hb) ?_
    refine Ae Ak rfl ?_
    refine Aj rfl (Al (os' := fun _ => [cell p 67 #[.int .i64 d1.room, .int .i64 (C9 d1.fuse), .bool false, x.pv, x.sm, x.sh], As 99 5 encO x.pv x.W, BL x.W, AA x.sm d1.syn, BH encKey AM x.sh x.L, Bx x.L, X]) [4] 0 (Ah Tryz.func57 (by kernel_rfl) rfl) (FH _ _ n _ hgL) rfl rfl rfl (fun _ => rfl) rfl rfl rfl) ?_; rintro ⟨⟩
    refine Ae Ak rfl ?_
    refine Aa (Aq (Aq ?_))
    refine BO 21 1 [⟨.quiet, [none], fun _ => v, []⟩, ⟨.quiet, [none], fun _ => .int .i64 (y.length : Int), [0]⟩, ⟨.quiet, [none], fun _ => .pointer (some ⟨p, 0, none⟩), []⟩, ⟨.quiet, [none], fun _ => .pointer (some ⟨p, 0, none⟩), [2]⟩, ⟨.quiet, [none], fun _ => .pointer (some ⟨p, 0, none⟩), [3]⟩, ⟨.quiet, [none], fun _ => .int .i64 d1.room, [4]⟩, ⟨.quiet, [none], fun _ => .pointer (some ⟨p, 0, none⟩), []⟩, ⟨.actv 0, [some false], fun _ => .int .i64 ((AK (Ce x.L) : Nat) : Int), [6]⟩, ⟨.quiet, [some true], fun _ => .int .i64 (d1.room - (AK (Ce x.L) : Int)), [5, 7]⟩, ⟨.quiet, [some true], fun _ => .bool false, [1, 8]⟩, ⟨.quiet, [some true], fun _ => .bool false, [9]⟩, ⟨.quiet, [some true], fun _ => .bool false, [10]⟩, ⟨.quiet, [some true], fun _ => .bool false, [11, 10]⟩, ⟨.skip, [some true], fun _ => undef, [12]⟩, ⟨.skip, [some true], fun _ => undef, [13, 12]⟩, ⟨.skip, [some true], fun _ => undef, [14, 12]⟩, ⟨.skip, [some true], fun _ => undef, [15, 12]⟩, ⟨.skip, [some true], fun _ => undef, [16, 12]⟩, ⟨.skip, [some true], fun _ => undef, [17, 12]⟩, ⟨.quiet, [some true], fun _ => .bool false, [12, 18, 10]⟩, ⟨.quiet, [some true], fun _ => .bool false, [10, 19]⟩] [(0, .pointer (some ⟨p, 0, none⟩)), (1, .string (bs n)), (2, v), (6, .int .i64 0), (7, .bool false)] (fun ρ => match ρ with | [r0] => [cell p 67 #[.int .i64 d1.room, .int .i64 (C9 d1.fuse), .bool false, x.pv, x.sm, x.sh], As 99 5 encO x.pv x.W, BL x.W, AA x.sm d1.syn, BH encKey AM x.sh x.L, Bx x.L, X] | _ => []) (by kernel_rfl) (by kernel_rfl) ⟨rfl, rfl, rfl, rfl, rfl, trivial⟩ rfl ?_ ?_
    · skip
      refine Ac (by intro r0_; exact ⟨rfl, fun b w hH hb => Af Ak rfl hb⟩) ?_
      refine Ac (by intro r0_; exact ⟨rfl, fun b w hH hb => AT ((hH.rd8 6 rfl hX).rd) Tryz.underlying48 rfl rfl hb⟩) ?_
      refine Ac (by intro r0_; exact ⟨rfl, fun b w hH hb => Af Ak rfl hb⟩) ?_
      refine Ac (by intro r0_; exact ⟨rfl, fun b w hH hb => by exact BA rfl rfl hb⟩) ?_
      refine Ac (by intro r0_; exact ⟨rfl, fun b w hH hb => Af Ak rfl hb⟩) ?_
      refine Ac (by intro r0_; exact ⟨rfl, fun b w hH hb => A6 rfl rfl (Bk AR rfl) (hH.row 0 rfl) hb⟩) ?_
      refine Ac (by intro r0_; exact ⟨rfl, fun b w hH hb => Af Ak rfl hb⟩) ?_
      refine Ac (by exact ⟨rfl, Bp.su (Al (os' := fun _ => [cell p 67 #[.int .i64 d1.room, .int .i64 (C9 d1.fuse), .bool false, x.pv, x.sm, x.sh], As 99 5 encO x.pv x.W, BL x.W, AA x.sm d1.syn, BH encKey AM x.sh x.L, Bx x.L, X]) [0, 4, 5] 0 (Ah Tryz.func50 (by kernel_rfl) rfl) (Lb p _ _ _ _ _ _ x.L hpu) rfl rfl rfl (fun _ => rfl) rfl rfl rfl) rfl⟩) ?_
      refine Ac (by intro v0_; exact ⟨rfl, fun b w hH hb => AN rfl rfl rfl rfl (IntWalk.i64_in _ (by omega)) hb⟩) ?_
      refine Ac (by intro v0_; exact ⟨rfl, fun b w hH hb => AV rfl rfl rfl (BE (by omega)) hb⟩) ?_
      refine Ac (by intro v0_; exact ⟨rfl, fun b w hH hb => Af Ak rfl hb⟩) ?_
      refine Ac (by intro v0_; exact ⟨rfl, fun b w hH hb => Af Ak rfl hb⟩) ?_
      refine Ac (by intro v0_; exact ⟨rfl, fun b w hH hb => Af Ak rfl hb⟩) ?_
      refine Ac (by intro v0_; exact ⟨rfl, rfl⟩) ?_
      refine Ac (by intro v0_; exact ⟨rfl, rfl⟩) ?_
      refine Ac (by intro v0_; exact ⟨rfl, rfl⟩) ?_
      refine Ac (by intro v0_; exact ⟨rfl, rfl⟩) ?_
      refine Ac (by intro v0_; exact ⟨rfl, rfl⟩) ?_
      refine Ac (by intro v0_; exact ⟨rfl, rfl⟩) ?_
      refine Ac (by intro v0_; exact ⟨rfl, fun b w hH hb => Af Ak rfl hb⟩) ?_
      refine Ac (by intro v0_; exact ⟨rfl, fun b w hH hb => Af Ak rfl hb⟩) ?_
      exact B2
    intro v0_
    refine Cg.keep (env' := [(0, .pointer (some ⟨p, 0, none⟩)), (1, .string (bs n)), (2, v), (6, .int .i64 0), (41, .bool false)]) ⟨rfl, rfl, rfl, rfl, rfl, trivial⟩ ?_
    refine AP (AE (Ar rfl (Ax (AE ?_))))
    refine AX [0, 1, 2, 3, 4, 5] rfl (Hz x hd1) rfl ?_
    refine Ad ?_
    refine Ae Ak rfl ?_
    refine Aj rfl (Al (os' := fun v9 => [As 5 1 encB v9 y, Ao p d1, X]) [1] 0 (Ah Tryz.func59 (by kernel_rfl) rfl) (FP hX (by omega)) rfl rfl rfl (fun _ => rfl) rfl rfl rfl) ?_; rintro v9
    refine Cg.fact 0 rfl (fun _ h => As.is h) ?_; rintro ⟨A9, c9, rfl⟩
    refine Ab rfl (.agg #[.int .i64 0, .string (bs n), .slice A9 y.length c9, .int .i64 0, .string { data := #[] }]) (fun b w hb hH => Bg rfl rfl (by kernel_rfl) hb) ?_
    refine Aj rfl (Al (os' := fun _ => [D1, Ao p (Cr d1 (.app n y)), X]) [1, 0] 0 (Ah Tryz.func58 (by kernel_rfl) rfl) (Lc (x := ⟨.app n y, A9, c9⟩) hd1 hfit1 hn hsz) rfl rfl rfl (fun _ => rfl) rfl rfl rfl) ?_; rintro ⟨⟩
    refine Cg.leave [0] rfl rfl ?_
    refine Ae Ak rfl ?_
    refine Aa (Ay ?_)
    exact Av (.tmp rfl) (fun w h => AB () rfl [0, 1] rfl h Cl) rfl
  · skip
    refine Ad ?_
    refine Ae Ak rfl ?_
    refine Ab rfl (.pointer (some ⟨p, 0, none⟩)) (fun b w hb hH => by exact BA rfl rfl hb) ?_
    refine Ae Ak rfl ?_
    refine Ab rfl (x.sh) (fun b w hb hH => A6 rfl rfl (Bk AO rfl) (hH.row 0 rfl) hb) ?_
    refine Ae Ak rfl ?_
    refine Aj rfl (Al (os' := fun _ => [cell p 67 #[.int .i64 d1.room, .int .i64 (C9 d1.fuse), .bool false, x.pv, x.sm, x.sh], As 99 5 encO x.pv x.W, BL x.W, AA x.sm d1.syn, BH encKey AM x.sh x.L, Bx x.L, X]) [4] 0 (Ah Tryz.func57 (by kernel_rfl) rfl) (FH _ _ n _ hgL) rfl rfl rfl (fun _ => rfl) rfl rfl rfl) ?_; rintro ⟨⟩
    refine Ae Ak rfl ?_
    refine Aa (Aq (Aq ?_))
    refine BO 21 1 [⟨.quiet, [none], fun _ => v, []⟩, ⟨.quiet, [none], fun _ => .int .i64 (y.length : Int), [0]⟩, ⟨.quiet, [none], fun _ => .pointer (some ⟨p, 0, none⟩), []⟩, ⟨.quiet, [none], fun _ => .pointer (some ⟨p, 0, none⟩), [2]⟩, ⟨.quiet, [none], fun _ => .pointer (some ⟨p, 0, none⟩), [3]⟩, ⟨.quiet, [none], fun _ => .int .i64 d1.room, [4]⟩, ⟨.quiet, [none], fun _ => .pointer (some ⟨p, 0, none⟩), []⟩, ⟨.actv 0, [some false], fun _ => .int .i64 ((AK (Ce x.L) : Nat) : Int), [6]⟩, ⟨.quiet, [some true], fun _ => .int .i64 (d1.room - (AK (Ce x.L) : Int)), [5, 7]⟩, ⟨.quiet, [some true], fun _ => .bool false, [1, 8]⟩, ⟨.quiet, [some true], fun _ => .bool false, [9]⟩, ⟨.quiet, [some true], fun _ => .bool true, [10]⟩, ⟨.quiet, [some true], fun _ => .bool true, [11, 10]⟩, ⟨.quiet, [some true], fun _ => .pointer (some ⟨p, 0, none⟩), [12]⟩, ⟨.quiet, [some true], fun _ => .pointer (some ⟨p, 0, none⟩), [13, 12]⟩, ⟨.quiet, [some true], fun _ => .pointer (some ⟨p, 5, none⟩), [14, 12]⟩, ⟨.quiet, [some true], fun _ => x.sh, [15, 12]⟩, ⟨.quiet, [some true], fun _ => .int .i64 (x.L.length : Int), [16, 12]⟩, ⟨.quiet, [some true], fun _ => .bool false, [17, 12]⟩, ⟨.quiet, [some true], fun _ => .bool false, [12, 18, 10]⟩, ⟨.quiet, [some true], fun _ => .bool false, [10, 19]⟩] [(0, .pointer (some ⟨p, 0, none⟩)), (1, .string (bs n)), (2, v), (6, .int .i64 0), (7, .bool true)] (fun ρ => match ρ with | [r0] => [cell p 67 #[.int .i64 d1.room, .int .i64 (C9 d1.fuse), .bool false, x.pv, x.sm, x.sh], As 99 5 encO x.pv x.W, BL x.W, AA x.sm d1.syn, BH encKey AM x.sh x.L, Bx x.L, X] | _ => []) (by kernel_rfl) (by kernel_rfl) ⟨rfl, rfl, rfl, rfl, rfl, trivial⟩ rfl ?_ ?_
    · skip
      refine Ac (by intro r0_; exact ⟨rfl, fun b w hH hb => Af Ak rfl hb⟩) ?_
      refine Ac (by intro r0_; exact ⟨rfl, fun b w hH hb => AT ((hH.rd8 6 rfl hX).rd) Tryz.underlying48 rfl rfl hb⟩) ?_
      refine Ac (by intro r0_; exact ⟨rfl, fun b w hH hb => Af Ak rfl hb⟩) ?_
      refine Ac (by intro r0_; exact ⟨rfl, fun b w hH hb => by exact BA rfl rfl hb⟩) ?_
      refine Ac (by intro r0_; exact ⟨rfl, fun b w hH hb => Af Ak rfl hb⟩) ?_
      refine Ac (by intro r0_; exact ⟨rfl, fun b w hH hb => A6 rfl rfl (Bk AR rfl) (hH.row 0 rfl) hb⟩) ?_
      refine Ac (by intro r0_; exact ⟨rfl, fun b w hH hb => Af Ak rfl hb⟩) ?_
      refine Ac (by exact ⟨rfl, Bp.su (Al (os' := fun _ => [cell p 67 #[.int .i64 d1.room, .int .i64 (C9 d1.fuse), .bool false, x.pv, x.sm, x.sh], As 99 5 encO x.pv x.W, BL x.W, AA x.sm d1.syn, BH encKey AM x.sh x.L, Bx x.L, X]) [0, 4, 5] 0 (Ah Tryz.func50 (by kernel_rfl) rfl) (Lb p _ _ _ _ _ _ x.L hpu) rfl rfl rfl (fun _ => rfl) rfl rfl rfl) rfl⟩) ?_
      refine Ac (by intro v0_; exact ⟨rfl, fun b w hH hb => AN rfl rfl rfl rfl (IntWalk.i64_in _ (by omega)) hb⟩) ?_
      refine Ac (by intro v0_; exact ⟨rfl, fun b w hH hb => AV rfl rfl rfl (BE (by omega)) hb⟩) ?_
      refine Ac (by intro v0_; exact ⟨rfl, fun b w hH hb => Af Ak rfl hb⟩) ?_
      refine Ac (by intro v0_; exact ⟨rfl, fun b w hH hb => Af Ak rfl hb⟩) ?_
      refine Ac (by intro v0_; exact ⟨rfl, fun b w hH hb => Af Ak rfl hb⟩) ?_
      refine Ac (by intro v0_; exact ⟨rfl, fun b w hH hb => Af Ak rfl hb⟩) ?_
      refine Ac (by intro v0_; exact ⟨rfl, fun b w hH hb => by exact BA rfl rfl hb⟩) ?_
      refine Ac (by intro v0_; exact ⟨rfl, fun b w hH hb => Af Ak rfl hb⟩) ?_
      refine Ac (by intro v0_; exact ⟨rfl, fun b w hH hb => A6 rfl rfl (Bk AO rfl) (hH.row 0 rfl) hb⟩) ?_
      refine Ac (by intro v0_; exact ⟨rfl, fun b w hH hb => OT 4 Tryz.underlying65 rfl rfl rfl hH hb⟩) ?_
      refine Ac (by intro v0_; exact ⟨rfl, fun b w hH hb => AV rfl rfl rfl (De (by omega)) hb⟩) ?_
      refine Ac (by intro v0_; exact ⟨rfl, fun b w hH hb => Af Ak rfl hb⟩) ?_
      refine Ac (by intro v0_; exact ⟨rfl, fun b w hH hb => Af Ak rfl hb⟩) ?_
      exact B2
    intro v0_
    refine Cg.keep (env' := [(0, .pointer (some ⟨p, 0, none⟩)), (1, .string (bs n)), (2, v), (6, .int .i64 0), (41, .bool false)]) ⟨rfl, rfl, rfl, rfl, rfl, trivial⟩ ?_
    refine AP (AE (Ar rfl (Ax (AE ?_))))
    refine AX [0, 1, 2, 3, 4, 5] rfl (Hz x hd1) rfl ?_
    refine Ad ?_
    refine Ae Ak rfl ?_
    refine Aj rfl (Al (os' := fun v9 => [As 5 1 encB v9 y, Ao p d1, X]) [1] 0 (Ah Tryz.func59 (by kernel_rfl) rfl) (FP hX (by omega)) rfl rfl rfl (fun _ => rfl) rfl rfl rfl) ?_; rintro v9
    refine Cg.fact 0 rfl (fun _ h => As.is h) ?_; rintro ⟨A9, c9, rfl⟩
    refine Ab rfl (.agg #[.int .i64 0, .string (bs n), .slice A9 y.length c9, .int .i64 0, .string { data := #[] }]) (fun b w hb hH => Bg rfl rfl (by kernel_rfl) hb) ?_
    refine Aj rfl (Al (os' := fun _ => [D1, Ao p (Cr d1 (.app n y)), X]) [1, 0] 0 (Ah Tryz.func58 (by kernel_rfl) rfl) (Lc (x := ⟨.app n y, A9, c9⟩) hd1 hfit1 hn hsz) rfl rfl rfl (fun _ => rfl) rfl rfl rfl) ?_; rintro ⟨⟩
    refine Cg.leave [0] rfl rfl ?_
    refine Ae Ak rfl ?_
    refine Aa (Ay ?_)
    exact Av (.tmp rfl) (fun w h => AB () rfl [0, 1] rfl h Cl) rfl
theorem G2 {p : Nat} {d d' : DiskD} {n b : List UInt8} {X : Ass} {v : Value} {e : Nat} (hd : d.fit) (hb : b.length ≤ 140737488351232) (hX : CX X v b) (h : Cp d n b = (d', e)) : AU Tryz.prog 21 #[.pointer (some ⟨p, 0, none⟩), .string (bs n), v] [Ao p d, X] (fun _ : Unit => .int .i64 (e : Int)) (fun _ => [Ao p d', X]) := by
  unfold Cp at h
  obtain ⟨d1, e1, h1⟩ : ∃ d1 e1, Bi d = (d1, e1) := ⟨_, _, rfl⟩
  have h01 := G1 d
  rw [h1] at h h01
  simp only at h h01
  rcases h01 with rfl | rfl
  · rw [if_pos (by decide)] at h
    cases h
    exact Rx (y := b) h1
  · rw [if_neg (by decide)] at h
    cases hn : CE n
    · rw [hn, if_pos rfl] at h
      cases h
      exact Pe (y := b) h1 hn
    · rw [hn, if_neg (by decide)] at h
      cases hf : EW d1 n b
      · rw [hf, if_pos rfl] at h
        cases h
        exact NR hX hd h1 hn hb hf
      · rw [hf, if_neg (by decide)] at h
        cases h
        exact Ry hX hd h1 hn hb hf
end Go.Proofs.YtnknboibmifacaaGreat.Sep
