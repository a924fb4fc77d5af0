/-
  HdU · RdkE · HdS
-/
import Derived.Test.YtjcfimmcogkopaaGreatPB03
import Derived.Test.YtjcfimmcogkopaaGreatPD01
import Derived.Test.YtjcfimmcogkopaaGreatPE01
import Derived.Test.YtjcfimmcogkopaaGreatPE02
import Derived.Test.YtjcfimmcogkopaaGreatPF01
import Derived.Test.YtjcfimmcogkopaaGreatPI01
import Derived.Test.YtjcfimmcogkopaaGreatPP01
import Derived.Test.YtjcfimmcogkopaaGreatPQ02
import Derived.Laws.IdiomRangeMap
set_option linter.unusedSimpArgs false
set_option linter.unusedVariables false
set_option maxRecDepth 100000
namespace Go.Proofs.YtjcfimmcogkopaaGreat.Sep
open Go.RowKit
open Go.Proofs.YtjcfimmcogkopaaGreat.Mem (Bh Cs Chg AA)
theorem S4 {p : Nat} {w : World} {a b c pv sm : Value} (hr : w.heap[p]? = some (.cells #[a, b, c, pv, sm, .map none] 70 (0, 0))) : Calls Tryz.prog 55 #[.pointer (some ⟨p, 0, none⟩)] w fun e w' => e = .returned (.int .i64 0) ∧ Below w.heap.size w w' := by
 have hrg := run_range_nilMap (P := Tryz.prog) w 68 9 32 Tryz.underlying68
 have hnx : ∀ ty, (Instr.next (.pointer (some ⟨w.heap.size, 0, none⟩)) false ty).run Tryz.prog (w.alloc (.mapIter none 0 #[] 0)) = _ := fun ty => run_next_nilMap w ty 0 0 #[]
 have hc : w.cell? ⟨p, 5, none⟩ = some (.map none) := by simp [World.cell?, hr]
 go_enter Tryz.func55, Tryz.ntmps55
 go_wp2
 refine wp_loop_rounds 1 ?_
 rw [rounds_succ]
 go_wp2
 go_ret
 exact ⟨rfl, (Below.refl _ w).alloc (Nat.le_refl _) _⟩
theorem S5 {p : Nat} {d : DiskD} {k : Nat} (hdn : d.down = false) (hfit : d.fit) (h : Q1 d = k) : AX Tryz.prog 55 #[.pointer (some ⟨p, 0, none⟩)] [Ao p d] (fun (_ : Unit) => .int .i64 (k : Int)) (fun (_ : Unit) => [Ao p d]) := by
 refine Bg (args := [.pointer (some ⟨p, 0, none⟩)]) 20 Tryz.func55 rfl rfl rfl ?_; intro w rs
 refine Be 0 rfl (D2 hdn) (fun _ => rfl) ?_; rintro x
 refine BB.fact 3 rfl BR ?_; rintro hsn
 refine BB.fact 4 rfl Cl ?_; rintro hgn
 have hpu : AN (Cm x.L) ≤ 1099511627776 := by rw [Dl x.hg]; exact IH hfit hsn x.hok
 have hk_ : AN (Cm x.L) = k := by rw [← h]; unfold Q1; rw [hdn, if_neg (by simp)]; exact Dl x.hg
 refine Ad (Ae Am rfl (Ab (Ad (Ae Am rfl (Ab (Av (Ad (Ae Am rfl (Aa rfl (.pointer (some ⟨p, 0, none⟩)) (fun b w hb hH => by exact BD rfl rfl hb) (Ae Am rfl (Aa rfl (x.sh) (fun b w hb hH => Ba rfl rfl (Bm AY rfl) (hH.row 0 rfl) hb) (Aj (post := fun g1 => [cell p 70 #[.int .i64 d.room, .int .i64 (Dn d.fuse), .bool false, x.pv, x.sm, x.sh], Ar 103 5 encO x.pv x.W, BQ x.W, AC x.sm d.syn, F6 encKey AR x.sh (.pointer (some ⟨g1, 0, none⟩)) x.L x.L none, BA x.L]) rfl (M4 4 Tryz.underlying68 rfl rfl rfl) ?_)))))))))))); rintro g1
 refine Ab (Bo (Dd (α := Nat × FilL × Option (List UInt8 × PtT)) (fun ⟨n, left, cur⟩ => [(2, .int .i64 0), (3, .int .i64 ((n : Nat) : Int)), (10, .pointer (some ⟨g1, 0, none⟩))]) (fun ⟨n, left, cur⟩ => [cell p 70 #[.int .i64 d.room, .int .i64 (Dn d.fuse), .bool false, x.pv, x.sm, x.sh], Ar 103 5 encO x.pv x.W, BQ x.W, AC x.sm d.syn, F6 encKey AR x.sh (.pointer (some ⟨g1, 0, none⟩)) x.L left cur, BA x.L]) (fun ⟨n, left, cur⟩ => n + AN (Cm left) = AN (Cm x.L) ∧ ∀ p, p ∈ left → p ∈ x.L) (fun ⟨n, left, cur⟩ => left.length) (0, x.L, none) ⟨Nat.zero_add _, fun _ h => h⟩ ⟨rfl, rfl, rfl, trivial⟩ rfl ?_))
 rintro ⟨n, left, cur⟩ hI
 refine BB.at_ (env' := [(2, .int .i64 0), (3, .int .i64 ((n : Nat) : Int)), (10, .pointer (some ⟨g1, 0, none⟩))]) (rs' := [cell p 70 #[.int .i64 d.room, .int .i64 (Dn d.fuse), .bool false, x.pv, x.sm, x.sh], Ar 103 5 encO x.pv x.W, BQ x.W, AC x.sm d.syn, F6 encKey AR x.sh (.pointer (some ⟨g1, 0, none⟩)) x.L left cur, BA x.L]) ⟨rfl, rfl, rfl, trivial⟩ rfl ?_
 have hI1 : n + AN (Cm left) = AN (Cm x.L) := hI.1
 rcases Classical.em (left = []) with hc | hc
 have hn : n = k := by rw [hc] at hI1; rw [← hk_]; simpa [Cm, AN] using hI1
 refine Ad (Ae Am rfl (Aa rfl (.tuple #[.bool false]) (fun b w hb hH => M5 4 rfl hc rfl rfl hH hb) (Ae Am rfl (Ab (Av (As rfl (CP (FP (FP (Br (AL (Be 4 rfl JN (fun _ => rfl) ?_)))))))))))); rintro ⟨⟩
 refine BB.leave [1] rfl rfl (Ad (Ae Am rfl (Ab (Ax ?_))))
 exact Aw (.tmp rfl) (fun w h => AH () (by rw [hn]) [1, 2, 3, 4, 0, 5] rfl h (DT (os := []) x hdn)) rfl
 refine Ad (Ae Am rfl (Aj (post := fun q : { q : Nat × List UInt8 × PtT // (left)[q.1]? = some q.2 } => [cell p 70 #[.int .i64 d.room, .int .i64 (Dn d.fuse), .bool false, x.pv, x.sm, x.sh], Ar 103 5 encO x.pv x.W, BQ x.W, AC x.sm d.syn, F6 encKey AR x.sh (.pointer (some ⟨g1, 0, none⟩)) x.L (left.eraseIdx q.1.1) (some (q.1.2.1, q.1.2.2)), BA x.L]) rfl (M6 4 rfl hc rfl rfl) ?_)); rintro q
 refine Ae Am rfl (Ab (Av (AI rfl (AB (AL (Bo ?_))))))
 have hqm : q.1.2 ∈ x.L := hI.2 _ (List.mem_of_getElem? q.2)
 have hqu : AN (Cm (left.eraseIdx q.1.1)) + q.1.2.2.2.length = AN (Cm left) := Lm q.2
 refine Ad (Ae Am rfl (Aa rfl (.tuple #[.string (bs q.1.2.1), q.1.2.2.1]) (fun b w hb hH => M7 4 rfl rfl rfl hH hb) (Ae Am rfl (Ab (Bp (Ae Am rfl (Aa rfl (.int .i64 (q.1.2.2.2.length : Int)) (fun b w hb hH => Bf ((hH.rd8 5 rfl (Ku hqm)).rd) Tryz.underlying32 rfl rfl hb) (Aa rfl (.int .i64 ((n + q.1.2.2.2.length : Nat) : Int)) (fun b w hb hH => AQ rfl rfl rfl rfl (by rw [IntWalk.i64_in _ (by omega)]; omega) hb) (Ae Am rfl (AV (BC ?_)))))))))))
 exact Cr (n + q.1.2.2.2.length, left.eraseIdx q.1.1, some (q.1.2.1, q.1.2.2)) 0 ⟨by omega, fun p hp => hI.2 p (List.mem_of_mem_eraseIdx hp)⟩ (show (left.eraseIdx q.1.1).length < left.length from IE q.2) ⟨rfl, rfl, rfl, trivial⟩ rfl
theorem Nx {p : Nat} {d : DiskD} (h : d.down = true) : AX Tryz.prog 55 #[.pointer (some ⟨p, 0, none⟩)] [Ao p d] (fun (_ : Unit) => .int .i64 0) (fun (_ : Unit) => [Ao p d]) := fun w rs h1 h2 h3 => by
  have hrs : Ao p d rs := h1.one'
  obtain ⟨x, hx⟩ := KA h rs hrs
  obtain ⟨r1, r2, rfl, hc, _⟩ := hx
  have hrow : w.heap[p]? = some (.cells #[.int .i64 d.room, .int .i64 (Dn d.fuse), .bool true, x.pv, x.sm, .map none] 70 (0, 0)) := by
    have h4 : r1 = [(p, Ez 70, #[.int .i64 d.room, .int .i64 (Dn d.fuse), .bool true, x.pv, x.sm, .map none])] := hc
    subst h4
    exact AT.1 h2 (p, Ez 70, #[.int .i64 d.room, .int .i64 (Dn d.fuse), .bool true, x.pv, x.sm, .map none]) (List.mem_append_left _ (List.mem_singleton.2 rfl))
  refine (S4 hrow).mono fun e w' ⟨he, hb⟩ => ⟨(), he, r1 ++ r2, h1, ?_⟩
  have h5 := FW (rs' := []) h2 h3 hb trivial trivial (fun _ h => nomatch h)
  rwa [List.append_nil] at h5
end Go.Proofs.YtjcfimmcogkopaaGreat.Sep
namespace Go.Proofs.YtjcfimmcogkopaaGreat.Sep
open Go.RowKit
open Go.Proofs.YtjcfimmcogkopaaGreat.Mem (Bh Cs Chg AA)
theorem Wd {p : Nat} {d : DiskD} (x : RDk d) {v : Value} {b : List UInt8} {fu dn : Bool} (hfu : d.fuse.isSome = fu) (hdn : d.down = dn) (hv : CO x.Y v b) (hs : ∃ A c, v = .slice A b.length c) : ∀ rs, Al [cell p 61 #[.int .i64 d.room, x.sv, x.nv, x.wv, .bool fu, .int .i64 x.fz, .bool dn], x.F, x.Y, Ar 107 5 encRO x.wv x.W] rs → DY p d v b rs := fun rs h => ⟨x, ⟨hv, hs⟩, by subst hfu; subst hdn; exact h⟩
theorem UZ {p : Nat} {d : DiskD} {n : List UInt8} (hr : Bx d n = none) : AX Tryz.prog 38 #[.pointer (some ⟨p, 0, none⟩), .string (bs n)] [An p d] (fun (_ : Unit) => .tuple #[.slice none 0 0, .bool false]) (fun (_ : Unit) => [An p d]) := by
 refine Bg (args := [.pointer (some ⟨p, 0, none⟩), .string (bs n)]) 29 Tryz.func38 rfl rfl rfl ?_; intro w rs
 obtain ⟨fu, hfu⟩ : ∃ fu, d.fuse.isSome = fu := ⟨_, rfl⟩
 have hn64 : True := trivial
 refine Ad (Ae Ah rfl (Ab ?_))
 rcases hdn : d.down with _ | _
 refine Be 0 rfl (CS hfu hdn) (fun _ => rfl) ?_; rintro x
 have hn64 := x.nlen
 have hg : AS d.now n = none := by unfold Bx at hr; rwa [hdn, if_neg (by simp)] at hr
 have hno := x.no_ hg
 refine Ad (Ae Ah rfl (Aa rfl (.pointer (some ⟨p, 0, none⟩)) (fun b w hb hH => by exact BD rfl rfl hb) (Ae Ah rfl (Aa rfl (x.nv) (fun b w hb hH => Ba rfl rfl (Bm Ap rfl) (hH.row 0 rfl) hb) (Ae Ah rfl (Aj rfl (Ak (os' := fun _ => [cell p 61 #[.int .i64 d.room, x.sv, x.nv, x.wv, .bool fu, .int .i64 x.fz, .bool false], x.F, x.Y, Ar 107 5 encRO x.wv x.W]) [1] 0 (Ai Tryz.func66 (by kernel_rfl) rfl) (DK x.rn (by omega) hno) rfl rfl rfl (fun _ => rfl) rfl rfl rfl) ?_)))))); rintro ⟨⟩
 refine Ae Ah rfl (Ab (Av (Ad (Ae Ah rfl (Aa rfl (.pointer (some ⟨p, 0, none⟩)) (fun b w hb hH => by exact BD rfl rfl hb) (Ae Ah rfl (Aa rfl (.bool false) (fun b w hb hH => Ba rfl rfl (Bm Bt rfl) (hH.row 0 rfl) hb) (Ae Ah rfl (Aa rfl (.bool true) (fun b w hb hH => AZ rfl rfl rfl (Bw (by omega)) hb) (Ae Ah rfl (Ab (AI rfl ?_))))))))))))
 refine Bi [0, 1, 2, 3] rfl (CD x hfu hdn) rfl (Ad (Ae Ah rfl (Ab (Ax (C4 ?_)))))
 exact CC (.tmp rfl) (.tmp rfl) (fun w h => AH () rfl [0] rfl h CK) rfl
 refine Be 0 rfl (CS hfu hdn) (fun _ => rfl) ?_; rintro x
 have hn64 := x.nlen
 obtain ⟨j, hfj⟩ : ∃ j : Int, AX Tryz.prog 66 #[x.nv, .string (bs n)] [x.F] (fun (_ : Unit) => .int .i64 j) (fun (_ : Unit) => [x.F]) := (x.at_ n).elim (fun ⟨j, q, hj, hq, hlt, _, _⟩ => ⟨_, Dv x.rn (by omega) hj hq hlt⟩) (fun ⟨hno, _⟩ => ⟨_, DK x.rn (by omega) hno⟩)
 refine Ad (Ae Ah rfl (Aa rfl (.pointer (some ⟨p, 0, none⟩)) (fun b w hb hH => by exact BD rfl rfl hb) (Ae Ah rfl (Aa rfl (x.nv) (fun b w hb hH => Ba rfl rfl (Bm Ap rfl) (hH.row 0 rfl) hb) (Ae Ah rfl (Aj rfl (Ak (os' := fun _ => [cell p 61 #[.int .i64 d.room, x.sv, x.nv, x.wv, .bool fu, .int .i64 x.fz, .bool true], x.F, x.Y, Ar 107 5 encRO x.wv x.W]) [1] 0 (Ai Tryz.func66 (by kernel_rfl) rfl) (hfj) rfl rfl rfl (fun _ => rfl) rfl rfl rfl) ?_)))))); rintro ⟨⟩
 refine Ae Ah rfl (Ab (Av (Ad (Ae Ah rfl (Aa rfl (.pointer (some ⟨p, 0, none⟩)) (fun b w hb hH => by exact BD rfl rfl hb) (Ae Ah rfl (Aa rfl (.bool true) (fun b w hb hH => Ba rfl rfl (Bm Bt rfl) (hH.row 0 rfl) hb) (Ae Ah rfl (Ab (AI rfl (Bi [0, 1, 2, 3] rfl (CD x hfu hdn) rfl (Ad ?_))))))))))))
 refine Ae Ah rfl (Ab (Ax (C4 ?_)))
 exact CC (.tmp rfl) (.tmp rfl) (fun w h => AH () rfl [0] rfl h CK) rfl
theorem MF {p : Nat} {d : DiskD} {n b : List UInt8} (hr : Bx d n = some b) : AX Tryz.prog 38 #[.pointer (some ⟨p, 0, none⟩), .string (bs n)] [An p d] (fun (v : Value) => .tuple #[v, .bool true]) (fun (v : Value) => [DY p d v b]) := by
 refine Bg (args := [.pointer (some ⟨p, 0, none⟩), .string (bs n)]) 29 Tryz.func38 rfl rfl rfl ?_; intro w rs
 obtain ⟨fu, hfu⟩ : ∃ fu, d.fuse.isSome = fu := ⟨_, rfl⟩
 have hdn : d.down = false := by unfold Bx at hr; split at hr; cases hr; rename_i h; simpa using h
 have hg : AS d.now n = some b := by unfold Bx at hr; rwa [hdn, if_neg (by simp)] at hr
 refine Be 0 rfl (CS hfu hdn) (fun _ => rfl) ?_; rintro x
 have hn64 := x.nlen
 obtain ⟨j, q, hj, hq, hlt, hqb, hm⟩ := x.yes_ hg
 subst hqb
 refine Ad (Ae Ah rfl (Ab (Ad (Ae Ah rfl (Aa rfl (.pointer (some ⟨p, 0, none⟩)) (fun b w hb hH => by exact BD rfl rfl hb) (Ae Ah rfl (Aa rfl (x.nv) (fun b w hb hH => Ba rfl rfl (Bm Ap rfl) (hH.row 0 rfl) hb) (Ae Ah rfl (Aj rfl (Ak (os' := fun _ => [cell p 61 #[.int .i64 d.room, x.sv, x.nv, x.wv, .bool fu, .int .i64 x.fz, .bool false], x.F, x.Y, Ar 107 5 encRO x.wv x.W]) [1] 0 (Ai Tryz.func66 (by kernel_rfl) rfl) (Dv x.rn (by omega) hj hq hlt) rfl rfl rfl (fun _ => rfl) rfl rfl rfl) ?_))))))))); rintro ⟨⟩
 refine Ae Ah rfl (Ab (Av (Ad (Ae Ah rfl (Aa rfl (.pointer (some ⟨p, 0, none⟩)) (fun b w hb hH => by exact BD rfl rfl hb) (Ae Ah rfl (Aa rfl (.bool false) (fun b w hb hH => Ba rfl rfl (Bm Bt rfl) (hH.row 0 rfl) hb) (Ae Ah rfl (Aa rfl (.bool false) (fun b w hb hH => AZ rfl rfl rfl (BS (by omega)) hb) (Ae Ah rfl (Ab (As rfl (AB (AL (Ad ?_)))))))))))))))
 refine Ae Ah rfl (Aa rfl (.pointer (some ⟨p, 0, none⟩)) (fun b w hb hH => by exact BD rfl rfl hb) (Ae Ah rfl (Aa rfl (x.nv) (fun b w hb hH => Ba rfl rfl (Bm Ap rfl) (hH.row 0 rfl) hb) (Ae Ah rfl (Aa rfl (BN x.nv (j * 2)) (fun b w hb hH => BH B3 ((hH.rdFs 1 rfl x.rn)) AD (j := j) hj rfl rfl rfl hb) (Aa rfl (BN x.nv (j * 2 + 1)) (fun b w hb hH => JH B3 (by decide) ((hH.rdFs 1 rfl x.rn)) (j := j) hj BP rfl rfl hb) (Aa rfl (.slice q.A q.d.length q.c) (fun b w hb hH => Bu B3 (by decide) ((hH.rdFs 1 rfl x.rn)) (j := j) hj Cx (off := 1) rfl rfl rfl hb) (Ae Ah rfl (Ab (Ax ?_))))))))))
 exact CC (.tmp rfl) (.tmp rfl) (fun w h => AH (X := Value) (.slice q.A q.d.length q.c) rfl [0, 1, 2, 3] rfl h (fun z hz => ⟨z, .refl _, (Al.one (Wd x hfu hdn (x.yn q hm) ⟨_, _, rfl⟩ z hz))⟩)) rfl
theorem U0 {p : Nat} {d : DiskD} : ∀ rs, An p d rs → DY p d (.slice none 0 0) [] rs := fun rs ⟨x, h⟩ => ⟨x, ⟨fun rs w _ _ => Q0 w, none, 0, rfl⟩, h⟩
theorem J9 {p : Nat} {d : DiskD} {n b : List UInt8} {ok : Bool} (hok : (Bx d n).isSome = ok) (hb : (Bx d n).getD [] = b) : AX Tryz.prog 38 #[.pointer (some ⟨p, 0, none⟩), .string (bs n)] [An p d] (fun v : Value => .tuple #[v, .bool ok]) (fun v => [DY p d v b]) := by
  cases e : Bx d n with
  | none =>
    rw [e] at hok hb
    subst hok; subst hb
    exact (UZ e).too fun _ => ⟨_, rfl, fun rs h => ⟨rs, .refl _, Al.one (U0 rs h.one')⟩⟩
  | some x =>
    rw [e] at hok hb
    subst hok; subst hb
    exact MF e
end Go.Proofs.YtjcfimmcogkopaaGreat.Sep
namespace Go.Proofs.YtjcfimmcogkopaaGreat.Sep
open Go.RowKit
open Go.Proofs.YtjcfimmcogkopaaGreat.Mem (Bh Cs Chg AA)
structure HarmD where
  w : Int
  a : Int
  b : Int
structure HarmD.ok (h : HarmD) : Prop where
  w : -9223372036854775808 ≤ h.w ∧ h.w ≤ 9223372036854775807
  a : -9223372036854775808 ≤ h.a ∧ h.a ≤ 9223372036854775807
  b : -9223372036854775808 ≤ h.b ∧ h.b ≤ 9223372036854775807
theorem Xy {p : Nat} {d : DiskD} : ∀ rs, An p d rs → d.now.length ≤ 64 := fun rs ⟨x, _⟩ => x.now64.1
def Gu (d : DiskD) (h : HarmD) : DiskD := if h.w % 9 = 6 then FI d (h.a % 9) else if h.w % 9 = 7 then Cg d h.a h.b else if h.w % 9 = 8 then { d with room := h.a % 2000 } else d
theorem U1 {d : DiskD} {h : HarmD} (h6 : h.w % 9 ≠ 6) (h7 : h.w % 9 ≠ 7) (h8 : h.w % 9 ≠ 8) : Gu d h = d := by unfold Gu; rw [if_neg h6, if_neg h7, if_neg h8]
theorem Xz {d : DiskD} {h : HarmD} (h6 : h.w % 9 = 6) : Gu d h = FI d (h.a % 9) := by unfold Gu; rw [if_pos h6]
theorem XA {d : DiskD} {h : HarmD} (h7 : h.w % 9 = 7) : Gu d h = Cg d h.a h.b := by unfold Gu; rw [if_neg (by omega), if_pos h7]
theorem XB {d : DiskD} {h : HarmD} (h8 : h.w % 9 = 8) : Gu d h = { d with room := h.a % 2000 } := by unfold Gu; rw [if_neg (by omega), if_neg (by omega), if_pos h8]
theorem We {A B : Ass} {os : List Ass} (hB : ∀ rs, Al os rs → B rs) : ∀ rs, Al (A :: os) rs → ∃ z, rs.Perm z ∧ Al [A, B] z := fun rs h => by
 obtain ⟨a, b, rfl, h1, h2⟩ := h
 exact ⟨_, .refl _, a, b, rfl, h1, b, [], by simp, hB b h2, rfl⟩
theorem QD {p q : Nat} {d : DiskD} {h : HarmD} (hf : d.fit) (hh : h.ok) : AX Tryz.prog 7 #[.pointer (some ⟨p, 0, none⟩), .pointer (some ⟨q, 0, none⟩), .agg #[.int .i64 h.w, .int .i64 h.a, .int .i64 h.b]] [Ao p d, An q d] (fun (_ : Unit) => .tuple #[]) (fun (_ : Unit) => [Ao p (Gu d h), An q (Gu d h)]) := by
 refine Bg (args := [.pointer (some ⟨p, 0, none⟩), .pointer (some ⟨q, 0, none⟩), .agg #[.int .i64 h.w, .int .i64 h.a, .int .i64 h.b]]) 48 Tryz.func7 rfl rfl rfl ?_; intro w rs
 obtain ⟨hw1, ha1, hb1⟩ := hh
 obtain ⟨m, hm⟩ : ∃ m, h.w % 9 = m := ⟨_, rfl⟩
 refine Ad (Ae Ag rfl (Aj (post := fun g5 => [cell g5 36 #[.int .i64 h.w, .int .i64 h.a, .int .i64 h.b], Ao p d, An q d]) rfl (CL (cs := #[.int .i64 h.w, .int .i64 h.a, .int .i64 h.b]) rfl rfl rfl) ?_)); rintro g5
 refine Ab (Ad (Ae Ag rfl (Aa rfl (.int .i64 h.w) (fun b w hb hH => Ba rfl rfl (Bm Bc rfl) (hH.row 0 rfl) hb) (Aj (post := fun _ => [cell g5 36 #[.int .i64 h.w, .int .i64 h.a, .int .i64 h.b], Ao p d, An q d]) rfl (AU (Ai Tryz.func8 (by kernel_rfl) rfl) (fun w hH => pick w h.w 9 hw1 (by decide) hm) rfl rfl rfl) ?_)))); rintro ⟨⟩
 refine Ab (Bo ?_)
 rcases Classical.em (m = 6) with h6 | h6
 rotate_left
 rcases Classical.em (m = 7) with h7 | h7
 rotate_left
 rcases Classical.em (m = 8) with h8 | h8
 rw [XB (hm.trans h8)]
 obtain ⟨r, hr⟩ : ∃ r, h.a % 2000 = r := ⟨_, rfl⟩
 have hr1 : 0 ≤ r ∧ r < 2000 := by omega
 have hroom : Rh d r = ({ d with room := r }, 0) := by unfold Rh; rw [if_pos (by omega)]
 rw [hr]
 obtain ⟨fu, hfu⟩ : ∃ fu, d.fuse.isSome = fu := ⟨_, rfl⟩
 obtain ⟨dn, hdn⟩ : ∃ dn, d.down = dn := ⟨_, rfl⟩
 refine Ad (Ae Ag rfl (Aa rfl (.bool false) (fun b w hb hH => AZ rfl rfl rfl (Fu (by omega)) hb) (Ae Ag rfl (Ab (As rfl (Ad (Ae Ag rfl (Aa rfl (.bool false) (fun b w hb hH => AZ rfl rfl rfl (Fu (by omega)) hb) (Ae Ag rfl (Ab (As rfl (Ad (Ae Ag rfl ?_)))))))))))))
 refine Aa rfl (.bool true) (fun b w hb hH => AZ rfl rfl rfl (GT (by omega)) hb) (Ae Ag rfl (Ab (AI rfl (Ad (Ae Ag rfl (Aa rfl (.int .i64 h.a) (fun b w hb hH => Ba rfl rfl (Bm Bc rfl) (hH.row 0 rfl) hb) (Aj (post := fun _ => [cell g5 36 #[.int .i64 h.w, .int .i64 h.a, .int .i64 h.b], Ao p d, An q d]) rfl (AU (Ai Tryz.func8 (by kernel_rfl) rfl) (fun w hH => pick w h.a 2000 ha1 (by decide) hr) rfl rfl rfl) ?_))))))); rintro ⟨⟩
 refine Ae Ag rfl (Ab (Ad (Ae Ag rfl (Aj rfl (Ak (os' := fun _ => [cell g5 36 #[.int .i64 h.w, .int .i64 h.a, .int .i64 h.b], Ao p ({ d with room := r }), An q d]) [1] 0 (Ai Tryz.func29 (by kernel_rfl) rfl) (St hroom) rfl rfl rfl (fun _ => rfl) rfl rfl rfl) ?_)))); rintro ⟨⟩
 refine Ab (Be 2 rfl (CS hfu hdn) (fun _ => rfl) ?_); rintro x
 refine Bp (Ae Ag rfl (Aa rfl (.pointer (some ⟨q, 0, none⟩)) (fun b w hb hH => by exact BD rfl rfl hb) (Ae Ag rfl (AF (post := fun _ => [cell q 61 #[.int .i64 r, x.sv, x.nv, x.wv, .bool fu, .int .i64 x.fz, .bool dn], x.F, x.Y, Ar 107 5 encRO x.wv x.W, cell g5 36 #[.int .i64 h.w, .int .i64 h.a, .int .i64 h.b], Ao p ({ d with room := r })]) rfl rfl (AE 0 (v := .int .i64 r) #[.int .i64 r, x.sv, x.nv, x.wv, .bool fu, .int .i64 x.fz, .bool dn] Bc.2 rfl rfl rfl rfl rfl rfl rfl rfl rfl) ?_)))); rintro ⟨⟩
 refine AV (BC ?_)
 exact CQ  (fun w h => AH (X := Unit) () rfl [5, 0, 1, 2, 3] rfl h (fun z hz => We (A := Ao p { d with room := r }) (Gt (p := q) (d' := { d with room := r }) x rfl rfl rfl hfu hdn x.hz x.zr) z hz)) rfl
 rw [U1 (by omega) (by omega) (by omega)]
 refine Ad (Ae Ag rfl (Aa rfl (.bool false) (fun b w hb hH => AZ rfl rfl rfl (Fu (by omega)) hb) (Ae Ag rfl (Ab (As rfl (Ad (Ae Ag rfl (Aa rfl (.bool false) (fun b w hb hH => AZ rfl rfl rfl (Fu (by omega)) hb) (Ae Ag rfl (Ab (As rfl (Ad (Ae Ag rfl ?_)))))))))))))
 refine Aa rfl (.bool false) (fun b w hb hH => AZ rfl rfl rfl (Fu (by omega)) hb) (Ae Ag rfl (Ab (As rfl (AB (BC ?_)))))
 exact CQ  (fun w h => AH () rfl [1, 2] rfl h CK) rfl
 rw [Xz (hm.trans h6)]
 obtain ⟨r, hr⟩ : ∃ r, h.a % 9 = r := ⟨_, rfl⟩
 have hr1 : 0 ≤ r ∧ r < 9 := by omega
 rw [hr]
 refine Ad (Ae Ag rfl (Aa rfl (.bool true) (fun b w hb hH => AZ rfl rfl rfl (GT (by omega)) hb) (Ae Ag rfl (Ab (AI rfl (Ad (Ae Ag rfl (Aa rfl (.int .i64 h.a) (fun b w hb hH => Ba rfl rfl (Bm Bc rfl) (hH.row 0 rfl) hb) (Aj (post := fun _ => [cell g5 36 #[.int .i64 h.w, .int .i64 h.a, .int .i64 h.b], Ao p d, An q d]) rfl (AU (Ai Tryz.func8 (by kernel_rfl) rfl) (fun w hH => pick w h.a 9 ha1 (by decide) hr) rfl rfl rfl) ?_))))))))); rintro ⟨⟩
 refine Aj rfl (Ak (os' := fun _ => [cell g5 36 #[.int .i64 h.w, .int .i64 h.a, .int .i64 h.b], Ao p (FI d r), An q d]) [1] 0 (Ai Tryz.func26 (by kernel_rfl) rfl) (Sp (by omega) rfl) rfl rfl rfl (fun _ => rfl) rfl rfl rfl) ?_; rintro ⟨⟩
 refine Ab (Bp (Ae Ag rfl (Aa rfl (.int .i64 h.a) (fun b w hb hH => Ba rfl rfl (Bm Bc rfl) (hH.row 0 rfl) hb) (Aj (post := fun _ => [cell g5 36 #[.int .i64 h.w, .int .i64 h.a, .int .i64 h.b], Ao p (FI d r), An q d]) rfl (AU (Ai Tryz.func8 (by kernel_rfl) rfl) (fun w hH => pick w h.a 9 ha1 (by decide) hr) rfl rfl rfl) ?_)))); rintro ⟨⟩
 refine Aj rfl (Ak (os' := fun _ => [cell g5 36 #[.int .i64 h.w, .int .i64 h.a, .int .i64 h.b], Ao p (FI d r), An q (FI d r)]) [2] 0 (Ai Tryz.func27 (by kernel_rfl) rfl) (X8 (by omega) rfl) rfl rfl rfl (fun _ => rfl) rfl rfl rfl) ?_; rintro ⟨⟩
 refine AV (BC ?_)
 exact CQ  (fun w h => AH () rfl [1, 2] rfl h CK) rfl
 rw [XA (hm.trans h7)]
 obtain ⟨kk, hkk⟩ : ∃ k, Cw d h.a = k := ⟨_, rfl⟩
 refine Ad (Ae Ag rfl (Aa rfl (.bool false) (fun b w hb hH => AZ rfl rfl rfl (Fu (by omega)) hb) (Ae Ag rfl (Ab (As rfl (Ad (Ae Ag rfl (Aa rfl (.bool true) (fun b w hb hH => AZ rfl rfl rfl (GT (by omega)) hb) (Ae Ag rfl (Ab (AI rfl (Ad (Ae Ag rfl ?_)))))))))))))
 refine Aa rfl (.int .i64 h.a) (fun b w hb hH => Ba rfl rfl (Bm Bc rfl) (hH.row 0 rfl) hb) (Ae Ag rfl (Aa rfl (.int .i64 h.b) (fun b w hb hH => Ba rfl rfl (Bm Bc rfl) (hH.row 0 rfl) hb) (Aj rfl (Ak (os' := fun _ => [cell g5 36 #[.int .i64 h.w, .int .i64 h.a, .int .i64 h.b], Ao p (Cg d h.a h.b), An q d]) [1] 0 (Ai Tryz.func25 (by kernel_rfl) rfl) (Ly hf ha1 hb1 hkk rfl) rfl rfl rfl (fun _ => rfl) rfl rfl rfl) ?_))); rintro ⟨⟩
 refine Ab (Bp (Ae Ag rfl (Aa rfl (.int .i64 h.a) (fun b w hb hH => Ba rfl rfl (Bm Bc rfl) (hH.row 0 rfl) hb) (Ae Ag rfl (Aa rfl (.int .i64 h.b) (fun b w hb hH => Ba rfl rfl (Bm Bc rfl) (hH.row 0 rfl) hb) (Aj rfl (Ak (os' := fun _ => [cell g5 36 #[.int .i64 h.w, .int .i64 h.a, .int .i64 h.b], Ao p (Cg d h.a h.b), An q (Cg d h.a h.b)]) [2] 0 (Ai Tryz.func28 (by kernel_rfl) rfl) (Xx hf ha1 hb1 hkk rfl) rfl rfl rfl (fun _ => rfl) rfl rfl rfl) ?_)))))); rintro ⟨⟩
 refine AV (BC ?_)
 exact CQ  (fun w h => AH () rfl [1, 2] rfl h CK) rfl
theorem S6 {d : DiskD} {n : List UInt8} (hd : d.down = false) (h : n ∈ ES d.now) : ∃ b, Bx d n = some b := by
  unfold ES at h
  have h1 : n ∈ AO d.now := (List.mergeSort_perm _ _).mem_iff.1 h
  unfold Bx
  rw [hd, if_neg (by simp)]
  cases e : AS d.now n with
  | some b => exact ⟨b, rfl⟩
  | none => exact absurd h1 (CM.1 e)
theorem S7 {d : DiskD} : (ES d.now).length = d.now.length := by
 unfold ES
 rw [(List.mergeSort_perm _ _).length_eq]
 simp [AO]
theorem Wf {p q : Nat} {d : DiskD} (hf : d.fit) (hdn : d.down = false) : AX Tryz.prog 19 #[.pointer (some ⟨p, 0, none⟩), .pointer (some ⟨q, 0, none⟩)] [Ao p d, An q d] (fun (_ : Unit) => .bool true) (fun (_ : Unit) => [Ao p d, An q d]) := by
  refine Bg (args := [.pointer (some ⟨p, 0, none⟩), .pointer (some ⟨q, 0, none⟩)]) 87 Tryz.func19 rfl rfl rfl ?_; intro w rs
  obtain ⟨fu, hfu⟩ : ∃ fu, d.fuse.isSome = fu := ⟨_, rfl⟩
  refine BB.fact 1 rfl Xy ?_; rintro hn64
  obtain ⟨ss, hss⟩ : ∃ ss, ES d.now = ss := ⟨_, rfl⟩
  have hsl : ss.length ≤ 64 := by rw [← hss, S7]; exact hn64
  have huse : Q1 d = AN d.now := by unfold Q1; rw [hdn, if_neg (by simp)]
  refine Ad (Ae Ag rfl (Ab (Ad (Ae Ag rfl (Aj rfl (Ak (os' := fun lv => [Ar 9 1 encKs lv ss, Ao p d, An q d]) [0] 0 (Ai Tryz.func53 (by kernel_rfl) rfl) (OG hdn (by omega) hss) rfl rfl rfl (fun _ => rfl) rfl rfl rfl) ?_))))); rintro lv
  refine Ae Ag rfl (Ab (Ad (Ae Ag rfl (Aj rfl (Ak (os' := fun wv => [Ar 9 1 encKs wv ss, Ar 9 1 encKs lv ss, Ao p d, An q d]) [2] 0 (Ai Tryz.func54 (by kernel_rfl) rfl) ((hss ▸ Xw (p := q) hdn)) rfl rfl rfl (fun _ => rfl) rfl rfl rfl) ?_)))); rintro wv
  refine Ae Ag rfl (Ab (Av (Be 3 rfl (CS hfu hdn) (fun _ => rfl) ?_))); rintro x
  have hwl := x.wlen
  refine Av ?_
  refine BL 31 4 [⟨.quiet, [none, none, none, none], fun _ => lv, []⟩, ⟨.quiet, [none, none, none, none], fun _ => .int .i64 (ss.length : Int), [0]⟩, ⟨.quiet, [none, none, none, none], fun _ => wv, []⟩, ⟨.quiet, [none, none, none, none], fun _ => .int .i64 (ss.length : Int), [2]⟩, ⟨.quiet, [none, none, none, none], fun _ => .bool false, [1, 3]⟩, ⟨.quiet, [none, none, none, none], fun _ => .bool false, [4]⟩, ⟨.quiet, [none, none, none, none], fun _ => .pointer (some ⟨p, 0, none⟩), [5]⟩, ⟨.actv 0, [some false, some false, some false, some false], fun _ => .int .i64 ((AN d.now : Nat) : Int), [6, 5]⟩, ⟨.quiet, [none, none, none, none], fun _ => .pointer (some ⟨q, 0, none⟩), [5]⟩, ⟨.actv 1, [some true, some false, some false, some false], fun _ => .int .i64 ((AN d.now : Nat) : Int), [8, 5]⟩, ⟨.quiet, [some true, some true, none, none], fun _ => .bool false, [7, 9, 5]⟩, ⟨.quiet, [some true, some true, none, none], fun _ => .bool false, [5, 10]⟩, ⟨.quiet, [some true, some true, none, none], fun _ => .bool false, [11]⟩, ⟨.quiet, [some true, some true, none, none], fun _ => .pointer (some ⟨p, 0, none⟩), [12]⟩, ⟨.actv 2, [some true, some true, some false, some false], fun _ => .int .i64 (d.wait.length : Int), [13, 12]⟩, ⟨.quiet, [some true, some true, none, none], fun _ => .pointer (some ⟨q, 0, none⟩), [12]⟩, ⟨.quiet, [some true, some true, none, none], fun _ => .pointer (some ⟨q, 0, none⟩), [15, 12]⟩, ⟨.quiet, [some true, some true, none, none], fun _ => .pointer (some ⟨q, 3, none⟩), [16, 12]⟩, ⟨.quiet, [some true, some true, none, none], fun _ => x.wv, [17, 12]⟩, ⟨.quiet, [some true, some true, none, none], fun _ => .int .i64 (x.W.length : Int), [18, 12]⟩, ⟨.quiet, [some true, some true, some true, none], fun _ => .bool false, [14, 19, 12]⟩, ⟨.quiet, [some true, some true, some true, none], fun _ => .bool false, [12, 20]⟩, ⟨.quiet, [some true, some true, some true, none], fun _ => .bool false, [21]⟩, ⟨.quiet, [some true, some true, some true, none], fun _ => .pointer (some ⟨p, 0, none⟩), [22]⟩, ⟨.actv 3, [some true, some true, some true, some false], fun _ => .bool false, [23, 22]⟩, ⟨.quiet, [some true, some true, some true, none], fun _ => .pointer (some ⟨q, 0, none⟩), [22]⟩, ⟨.quiet, [some true, some true, some true, none], fun _ => .pointer (some ⟨q, 0, none⟩), [25, 22]⟩, ⟨.quiet, [some true, some true, some true, none], fun _ => .pointer (some ⟨q, 6, none⟩), [26, 22]⟩, ⟨.quiet, [some true, some true, some true, none], fun _ => .bool false, [27, 22]⟩, ⟨.quiet, [some true, some true, some true, some true], fun _ => .bool false, [24, 28, 22]⟩, ⟨.quiet, [some true, some true, some true, some true], fun _ => .bool false, [22, 29]⟩] [(0, .pointer (some ⟨p, 0, none⟩)), (1, .pointer (some ⟨q, 0, none⟩)), (4, .bool false), (5, lv), (6, wv)] (fun ρ => match ρ with | [r0, r1, r2, r3] => [cell q 61 #[.int .i64 d.room, x.sv, x.nv, x.wv, .bool fu, .int .i64 x.fz, .bool false], x.F, x.Y, Ar 107 5 encRO x.wv x.W, Ar 9 1 encKs wv ss, Ar 9 1 encKs lv ss, Ao p d] | _ => []) (by kernel_rfl) (by kernel_rfl) ⟨rfl, rfl, rfl, rfl, rfl, trivial⟩ rfl ?_ ?_
  refine Ac (by intro r0_ r1_ r2_ r3_; exact ⟨rfl, fun b w hH hb => Af Ag rfl hb⟩) (Ac (by intro r0_ r1_ r2_ r3_; exact ⟨rfl, fun b w hH hb => Ds 5 Tryz.underlying93 rfl rfl rfl hH hb⟩) (Ac (by intro r0_ r1_ r2_ r3_; exact ⟨rfl, fun b w hH hb => Af Ag rfl hb⟩) (Ac (by intro r0_ r1_ r2_ r3_; exact ⟨rfl, fun b w hH hb => Ds 4 Tryz.underlying93 rfl rfl rfl hH hb⟩) (Ac (by intro r0_ r1_ r2_ r3_; exact ⟨rfl, fun b w hH hb => AZ rfl rfl rfl (AP (by omega)) hb⟩) (Ac (by intro r0_ r1_ r2_ r3_; exact ⟨rfl, fun b w hH hb => Af Ag rfl hb⟩) (Ac (by intro r0_ r1_ r2_ r3_; exact ⟨rfl, fun b w hH hb => Af Ag rfl hb⟩) (Ac (by exact ⟨rfl, Bk.su (Ak (os' := fun _ => [cell q 61 #[.int .i64 d.room, x.sv, x.nv, x.wv, .bool fu, .int .i64 x.fz, .bool false], x.F, x.Y, Ar 107 5 encRO x.wv x.W, Ar 9 1 encKs wv ss, Ar 9 1 encKs lv ss, Ao p d]) [6] 0 (Ai Tryz.func55 (by kernel_rfl) rfl) (S5 hdn hf huse) rfl rfl rfl (fun _ => rfl) rfl rfl rfl) rfl⟩) (Ac (by intro r0_ r1_ r2_ r3_; exact ⟨rfl, fun b w hH hb => Af Ag rfl hb⟩) (Ac (by intro v0_; exact ⟨rfl, Bk.su (Ak (os' := fun _ => [cell q 61 #[.int .i64 d.room, x.sv, x.nv, x.wv, .bool fu, .int .i64 x.fz, .bool false], x.F, x.Y, Ar 107 5 encRO x.wv x.W, Ar 9 1 encKs wv ss, Ar 9 1 encKs lv ss, Ao p d]) [0, 1] 0 (Ai Tryz.func56 (by kernel_rfl) rfl) (LS x hf) rfl rfl rfl (fun _ => rfl) rfl rfl rfl) rfl⟩) ?_)))))))))
  refine Ac (by intro v0_ v1_ r2_ r3_; exact ⟨rfl, fun b w hH hb => AZ rfl rfl rfl (AP (by omega)) hb⟩) (Ac (by intro v0_ v1_ r2_ r3_; exact ⟨rfl, fun b w hH hb => Af Ag rfl hb⟩) (Ac (by intro v0_ v1_ r2_ r3_; exact ⟨rfl, fun b w hH hb => Af Ag rfl hb⟩) (Ac (by intro v0_ v1_ r2_ r3_; exact ⟨rfl, fun b w hH hb => Af Ag rfl hb⟩) (Ac (by intro v0_ v1_; exact ⟨rfl, Bk.su (Ak (os' := fun _ => [cell q 61 #[.int .i64 d.room, x.sv, x.nv, x.wv, .bool fu, .int .i64 x.fz, .bool false], x.F, x.Y, Ar 107 5 encRO x.wv x.W, Ar 9 1 encKs wv ss, Ar 9 1 encKs lv ss, Ao p d]) [6] 0 (Ai Tryz.func57 (by kernel_rfl) rfl) (Jq rfl) rfl rfl rfl (fun _ => rfl) rfl rfl rfl) rfl⟩) (Ac (by intro v0_ v1_ r2_ r3_; exact ⟨rfl, fun b w hH hb => Af Ag rfl hb⟩) (Ac (by intro v0_ v1_ r2_ r3_; exact ⟨rfl, fun b w hH hb => by exact BD rfl rfl hb⟩) (Ac (by intro v0_ v1_ r2_ r3_; exact ⟨rfl, fun b w hH hb => Af Ag rfl hb⟩) (Ac (by intro v0_ v1_ r2_ r3_; exact ⟨rfl, fun b w hH hb => Ba rfl rfl (Bm AM rfl) (hH.row 0 rfl) hb⟩) (Ac (by intro v0_ v1_ r2_ r3_; exact ⟨rfl, fun b w hH hb => Ds 3 Tryz.underlying59 rfl rfl rfl hH hb⟩) ?_)))))))))
  refine Ac (by intro v0_ v1_ v2_ r3_; exact ⟨rfl, fun b w hH hb => AZ rfl rfl rfl (AP (by omega)) hb⟩) (Ac (by intro v0_ v1_ v2_ r3_; exact ⟨rfl, fun b w hH hb => Af Ag rfl hb⟩) (Ac (by intro v0_ v1_ v2_ r3_; exact ⟨rfl, fun b w hH hb => Af Ag rfl hb⟩) (Ac (by intro v0_ v1_ v2_ r3_; exact ⟨rfl, fun b w hH hb => Af Ag rfl hb⟩) (Ac (by intro v0_ v1_ v2_; exact ⟨rfl, Bk.su (Ak (os' := fun _ => [cell q 61 #[.int .i64 d.room, x.sv, x.nv, x.wv, .bool fu, .int .i64 x.fz, .bool false], x.F, x.Y, Ar 107 5 encRO x.wv x.W, Ar 9 1 encKs wv ss, Ar 9 1 encKs lv ss, Ao p d]) [6] 0 (Ai Tryz.func58 (by kernel_rfl) rfl) (Mr hdn) rfl rfl rfl (fun _ => rfl) rfl rfl rfl) rfl⟩) (Ac (by intro v0_ v1_ v2_ r3_; exact ⟨rfl, fun b w hH hb => Af Ag rfl hb⟩) (Ac (by intro v0_ v1_ v2_ r3_; exact ⟨rfl, fun b w hH hb => by exact BD rfl rfl hb⟩) (Ac (by intro v0_ v1_ v2_ r3_; exact ⟨rfl, fun b w hH hb => Af Ag rfl hb⟩) (Ac (by intro v0_ v1_ v2_ r3_; exact ⟨rfl, fun b w hH hb => Ba rfl rfl (Bm Bt rfl) (hH.row 0 rfl) hb⟩) (Ac (by intro v0_ v1_ v2_ v3_; exact ⟨rfl, fun b w hH hb => NK (Yl false false) rfl rfl rfl hb⟩) ?_)))))))))
  refine Ac (by intro v0_ v1_ v2_ v3_; exact ⟨rfl, fun b w hH hb => Af Ag rfl hb⟩) ?_
  exact B7
  intro v0_ v1_ v2_ v3_
  refine Cf.keep (env' := [(0, .pointer (some ⟨p, 0, none⟩)), (1, .pointer (some ⟨q, 0, none⟩)), (4, .bool false), (5, lv), (6, wv), (46, .bool false)]) ⟨rfl, rfl, rfl, rfl, rfl, rfl, trivial⟩ (AV (AL (As rfl (AB (AL (Av (Ad (Ae Ag rfl (Ab (Bo (Bi [0, 1, 2, 3] rfl (CD (p := q) x hfu hdn) rfl (Dd (α := Nat) (fun i => [(0, .pointer (some ⟨p, 0, none⟩)), (1, .pointer (some ⟨q, 0, none⟩)), (4, .bool false), (5, lv), (6, wv), (7, .int .i64 ((i : Nat) : Int))]) (fun i => [An q d, Ar 9 1 encKs wv ss, Ar 9 1 encKs lv ss, Ao p d]) (fun i => i ≤ ss.length) (fun i => ss.length - i) 0 (Nat.zero_le _) ⟨rfl, rfl, rfl, rfl, rfl, rfl, trivial⟩ rfl ?_))))))))))))
  rintro i hI
  refine BB.at_ (env' := [(0, .pointer (some ⟨p, 0, none⟩)), (1, .pointer (some ⟨q, 0, none⟩)), (4, .bool false), (5, lv), (6, wv), (7, .int .i64 ((i : Nat) : Int))]) (rs' := [An q d, Ar 9 1 encKs wv ss, Ar 9 1 encKs lv ss, Ao p d]) ⟨rfl, rfl, rfl, rfl, rfl, rfl, trivial⟩ rfl (Av ?_)
  rcases Nat.lt_or_ge i ss.length with hi | hi
  obtain ⟨n, hni⟩ : ∃ n, ss[i]? = some n := ⟨_, List.getElem?_eq_getElem hi⟩
  obtain ⟨b, hrb⟩ := S6 hdn (n := n) (by rw [hss]; exact List.mem_of_getElem? hni)
  refine Ad (Ae Ag rfl (Aa rfl (.int .i64 (ss.length : Int)) (fun b w hb hH => Ds 2 Tryz.underlying93 rfl rfl rfl hH hb) (Aa rfl (.bool true) (fun b w hb hH => AZ rfl rfl rfl (Bw (by omega)) hb) (Ab (AI rfl (AB (AL (Av (Bo (Ad (Ae Ag rfl (Aa rfl (BN wv (i * 1)) (fun b w hb hH => El 1 Fw HG rfl i hi rfl rfl rfl hH hb) (Aa rfl (.string (bs n)) (fun b w hb hH => I1 1 Bd HG rfl i (a := n) hni rfl rfl rfl hH hb) (Aj rfl (Ak (os' := fun av => [Ar 5 1 encB av b, An q d, Ar 9 1 encKs wv ss, Ar 9 1 encKs lv ss, Ao p d]) [3] 0 (Ai Tryz.func34 (by kernel_rfl) rfl) (Gl (n := n) hf (congrArg (fun o => o.isSome) hrb) (congrArg (fun o => o.getD []) hrb)) rfl rfl rfl (fun _ => rfl) rfl rfl rfl) ?_)))))))))))))); rintro av
  refine Ae Ag rfl (Ab (Ad (Ae Ag rfl (Aa rfl (BN wv (i * 1)) (fun b w hb hH => El 2 Fw HG rfl i hi rfl rfl rfl hH hb) (Aa rfl (.string (bs n)) (fun b w hb hH => I1 2 Bd HG rfl i (a := n) hni rfl rfl rfl hH hb) (Aj rfl (Ak (os' := fun rv => [Ar 5 1 encB av b, DY q d rv b, Ar 9 1 encKs wv ss, Ar 9 1 encKs lv ss, Ao p d]) [1] 0 (Ai Tryz.func38 (by kernel_rfl) rfl) (MF (p := q) hrb) rfl rfl rfl (fun _ => rfl) rfl rfl rfl) ?_)))))); rintro rv
  refine Ae Ag rfl (Ab (Av ?_))
  refine BL 16 0 [⟨.quiet, [], fun _ => lv, []⟩, ⟨.quiet, [], fun _ => .int .i64 ((i : Nat) : Int), []⟩, ⟨.quiet, [], fun _ => BN lv (i * 1), [0, 1]⟩, ⟨.quiet, [], fun _ => .string (bs n), [2]⟩, ⟨.quiet, [], fun _ => wv, []⟩, ⟨.quiet, [], fun _ => .int .i64 ((i : Nat) : Int), []⟩, ⟨.quiet, [], fun _ => BN wv (i * 1), [4, 5]⟩, ⟨.quiet, [], fun _ => .string (bs n), [6]⟩, ⟨.quiet, [], fun _ => .bool false, [3, 7]⟩, ⟨.quiet, [], fun _ => .bool false, [8]⟩, ⟨.quiet, [], fun _ => av, [9]⟩, ⟨.quiet, [], fun _ => .string (bs b), [10, 9]⟩, ⟨.quiet, [], fun _ => rv, [9]⟩, ⟨.quiet, [], fun _ => .string (bs b), [12, 9]⟩, ⟨.quiet, [], fun _ => .bool false, [11, 13, 9]⟩, ⟨.quiet, [], fun _ => .bool false, [9, 14]⟩] [(0, .pointer (some ⟨p, 0, none⟩)), (1, .pointer (some ⟨q, 0, none⟩)), (4, .bool false), (5, lv), (6, wv), (7, .int .i64 ((i : Nat) : Int)), (47, .int .i64 ((i : Nat) : Int)), (48, lv), (49, .int .i64 (ss.length : Int)), (50, .bool true), (54, .pointer (some ⟨p, 0, none⟩)), (55, wv), (56, .int .i64 ((i : Nat) : Int)), (57, BN wv (i * 1)), (58, .string (bs n)), (59, .tuple #[av, .bool true]), (53, .tuple #[av, .bool true]), (60, av), (61, .bool true), (8, av), (63, .pointer (some ⟨q, 0, none⟩)), (64, wv), (65, .int .i64 ((i : Nat) : Int)), (66, BN wv (i * 1)), (67, .string (bs n)), (68, .tuple #[rv, .bool true]), (62, .tuple #[rv, .bool true]), (69, rv), (70, .bool true), (10, rv)] (fun _ => [Ar 5 1 encB av b, DY q d rv b, Ar 9 1 encKs wv ss, Ar 9 1 encKs lv ss, Ao p d]) (by kernel_rfl) (by kernel_rfl) ⟨rfl, rfl, rfl, rfl, rfl, rfl, rfl, rfl, rfl, rfl, rfl, rfl, rfl, rfl, rfl, rfl, rfl, rfl, rfl, rfl, rfl, rfl, rfl, rfl, rfl, rfl, rfl, rfl, rfl, rfl, trivial⟩ rfl ?_ ?_
  refine Ac (by exact ⟨rfl, fun b w hH hb => Af Ag rfl hb⟩) (Ac (by exact ⟨rfl, fun b w hH hb => Af Ag rfl hb⟩) (Ac (by exact ⟨rfl, fun b w hH hb => El 3 Fw HG rfl i hi rfl rfl rfl hH hb⟩) (Ac (by exact ⟨rfl, fun b w hH hb => I1 3 Bd HG rfl i (a := n) hni rfl rfl rfl hH hb⟩) (Ac (by exact ⟨rfl, fun b w hH hb => Af Ag rfl hb⟩) (Ac (by exact ⟨rfl, fun b w hH hb => Af Ag rfl hb⟩) (Ac (by exact ⟨rfl, fun b w hH hb => El 2 Fw HG rfl i hi rfl rfl rfl hH hb⟩) (Ac (by exact ⟨rfl, fun b w hH hb => I1 2 Bd HG rfl i (a := n) hni rfl rfl rfl hH hb⟩) (Ac (by exact ⟨rfl, fun b w hH hb => H9 (by simp) rfl rfl rfl hb⟩) (Ac (by exact ⟨rfl, fun b w hH hb => Af Ag rfl hb⟩) ?_)))))))))
  refine Ac (by exact ⟨rfl, fun b w hH hb => Af Ag rfl hb⟩) (Ac (by exact ⟨rfl, fun b w hH hb => H3 Tryz.underlying32 Tryz.underlying5 (by kernel_rfl) Tryz.underlying9 (hH.sl8 0 rfl) rfl rfl hb⟩) (Ac (by exact ⟨rfl, fun b w hH hb => Af Ag rfl hb⟩) (Ac (by exact ⟨rfl, fun b w hH hb => H3 Tryz.underlying32 Tryz.underlying5 (by kernel_rfl) Tryz.underlying9 ((hH.rd8 1 rfl Gr)) rfl rfl hb⟩) (Ac (by exact ⟨rfl, fun b w hH hb => H9 (by simp) rfl rfl rfl hb⟩) (Ac (by exact ⟨rfl, fun b w hH hb => Af Ag rfl hb⟩) ?_)))))
  exact B7
  refine Cf.keep (env' := [(0, .pointer (some ⟨p, 0, none⟩)), (1, .pointer (some ⟨q, 0, none⟩)), (4, .bool false), (5, lv), (6, wv), (7, .int .i64 ((i : Nat) : Int)), (47, .int .i64 ((i : Nat) : Int)), (48, lv), (49, .int .i64 (ss.length : Int)), (50, .bool true), (54, .pointer (some ⟨p, 0, none⟩)), (55, wv), (56, .int .i64 ((i : Nat) : Int)), (57, BN wv (i * 1)), (58, .string (bs n)), (59, .tuple #[av, .bool true]), (53, .tuple #[av, .bool true]), (60, av), (61, .bool true), (8, av), (63, .pointer (some ⟨q, 0, none⟩)), (64, wv), (65, .int .i64 ((i : Nat) : Int)), (66, BN wv (i * 1)), (67, .string (bs n)), (68, .tuple #[rv, .bool true]), (62, .tuple #[rv, .bool true]), (69, rv), (70, .bool true), (10, rv), (71, lv), (72, .int .i64 ((i : Nat) : Int)), (73, BN lv (i * 1)), (74, .string (bs n)), (75, wv), (76, .int .i64 ((i : Nat) : Int)), (77, BN wv (i * 1)), (78, .string (bs n)), (79, .bool false), (80, .bool false), (81, av), (82, .string (bs b)), (83, rv), (84, .string (bs b)), (85, .bool false), (86, .bool false)]) ⟨rfl, rfl, rfl, rfl, rfl, rfl, rfl, rfl, rfl, rfl, rfl, rfl, rfl, rfl, rfl, rfl, rfl, rfl, rfl, rfl, rfl, rfl, rfl, rfl, rfl, rfl, rfl, rfl, rfl, rfl, rfl, rfl, rfl, rfl, rfl, rfl, rfl, rfl, rfl, rfl, rfl, rfl, rfl, rfl, rfl, rfl, trivial⟩ (AV (AL (As rfl (AB (BC (AL (Bi [1] rfl FA rfl (BB.leave [1] rfl rfl (Bp (Ae Ag rfl (Aa rfl (.int .i64 ((i + 1 : Nat) : Int)) (fun b w hb hH => AQ rfl rfl rfl rfl (by rw [IntWalk.i64_in _ (by omega)]; omega) hb) (Ae Ag rfl (AV ?_)))))))))))))
  exact Cr (i + 1) 0 hi (show ss.length - (i + 1) < ss.length - i by omega) ⟨rfl, rfl, rfl, rfl, rfl, rfl, trivial⟩ rfl
  refine Ad (Ae Ag rfl (Aa rfl (.int .i64 (ss.length : Int)) (fun b w hb hH => Ds 2 Tryz.underlying93 rfl rfl rfl hH hb) (Aa rfl (.bool false) (fun b w hb hH => AZ rfl rfl rfl (BS (by omega)) hb) (Ab (As rfl (CP (FP (FP (Br (AL (Ad (Ae Ag rfl (Ab (Ax ?_))))))))))))))
  exact Aw (.tmp rfl) (fun w h => AH () rfl [3, 0] rfl h CK) rfl
theorem Wg {p q : Nat} {d : DiskD} (hdn : d.down = true) : AX Tryz.prog 19 #[.pointer (some ⟨p, 0, none⟩), .pointer (some ⟨q, 0, none⟩)] [Ao p d, An q d] (fun (_ : Unit) => .bool true) (fun (_ : Unit) => [Ao p d, An q d]) := by
  refine Bg (args := [.pointer (some ⟨p, 0, none⟩), .pointer (some ⟨q, 0, none⟩)]) 87 Tryz.func19 rfl rfl rfl ?_; intro w rs
  obtain ⟨fu, hfu⟩ : ∃ fu, d.fuse.isSome = fu := ⟨_, rfl⟩
  refine Ad (Ae Ag rfl (Ab (Ad (Ae Ag rfl (Aj rfl (Ak (os' := fun lv => [Ar 9 1 encKs lv ([] : List (List UInt8)), Ao p d, An q d]) [0] 0 (Ai Tryz.func53 (by kernel_rfl) rfl) (PY hdn) rfl rfl rfl (fun _ => rfl) rfl rfl rfl) ?_))))); rintro lv
  refine Ae Ag rfl (Ab (Ad (Ae Ag rfl (Aj rfl (Ak (os' := fun wv => [Ar 9 1 encKs wv ([] : List (List UInt8)), Ar 9 1 encKs lv ([] : List (List UInt8)), Ao p d, An q d]) [2] 0 (Ai Tryz.func54 (by kernel_rfl) rfl) (S3 (p := q) hdn) rfl rfl rfl (fun _ => rfl) rfl rfl rfl) ?_)))); rintro wv
  refine Ae Ag rfl (Ab (Av (Be 3 rfl (CS hfu hdn) (fun _ => rfl) ?_))); rintro x
  have hwl := x.wlen
  refine Av ?_
  refine BL 31 4 [⟨.quiet, [none, none, none, none], fun _ => lv, []⟩, ⟨.quiet, [none, none, none, none], fun _ => .int .i64 (([] : List (List UInt8)).length : Int), [0]⟩, ⟨.quiet, [none, none, none, none], fun _ => wv, []⟩, ⟨.quiet, [none, none, none, none], fun _ => .int .i64 (([] : List (List UInt8)).length : Int), [2]⟩, ⟨.quiet, [none, none, none, none], fun _ => .bool false, [1, 3]⟩, ⟨.quiet, [none, none, none, none], fun _ => .bool false, [4]⟩, ⟨.quiet, [none, none, none, none], fun _ => .pointer (some ⟨p, 0, none⟩), [5]⟩, ⟨.actv 0, [some false, some false, some false, some false], fun _ => .int .i64 0, [6, 5]⟩, ⟨.quiet, [none, none, none, none], fun _ => .pointer (some ⟨q, 0, none⟩), [5]⟩, ⟨.actv 1, [some true, some false, some false, some false], fun _ => .int .i64 0, [8, 5]⟩, ⟨.quiet, [some true, some true, none, none], fun _ => .bool false, [7, 9, 5]⟩, ⟨.quiet, [some true, some true, none, none], fun _ => .bool false, [5, 10]⟩, ⟨.quiet, [some true, some true, none, none], fun _ => .bool false, [11]⟩, ⟨.quiet, [some true, some true, none, none], fun _ => .pointer (some ⟨p, 0, none⟩), [12]⟩, ⟨.actv 2, [some true, some true, some false, some false], fun _ => .int .i64 (d.wait.length : Int), [13, 12]⟩, ⟨.quiet, [some true, some true, none, none], fun _ => .pointer (some ⟨q, 0, none⟩), [12]⟩, ⟨.quiet, [some true, some true, none, none], fun _ => .pointer (some ⟨q, 0, none⟩), [15, 12]⟩, ⟨.quiet, [some true, some true, none, none], fun _ => .pointer (some ⟨q, 3, none⟩), [16, 12]⟩, ⟨.quiet, [some true, some true, none, none], fun _ => x.wv, [17, 12]⟩, ⟨.quiet, [some true, some true, none, none], fun _ => .int .i64 (x.W.length : Int), [18, 12]⟩, ⟨.quiet, [some true, some true, some true, none], fun _ => .bool false, [14, 19, 12]⟩, ⟨.quiet, [some true, some true, some true, none], fun _ => .bool false, [12, 20]⟩, ⟨.quiet, [some true, some true, some true, none], fun _ => .bool false, [21]⟩, ⟨.quiet, [some true, some true, some true, none], fun _ => .pointer (some ⟨p, 0, none⟩), [22]⟩, ⟨.actv 3, [some true, some true, some true, some false], fun _ => .bool true, [23, 22]⟩, ⟨.quiet, [some true, some true, some true, none], fun _ => .pointer (some ⟨q, 0, none⟩), [22]⟩, ⟨.quiet, [some true, some true, some true, none], fun _ => .pointer (some ⟨q, 0, none⟩), [25, 22]⟩, ⟨.quiet, [some true, some true, some true, none], fun _ => .pointer (some ⟨q, 6, none⟩), [26, 22]⟩, ⟨.quiet, [some true, some true, some true, none], fun _ => .bool true, [27, 22]⟩, ⟨.quiet, [some true, some true, some true, some true], fun _ => .bool false, [24, 28, 22]⟩, ⟨.quiet, [some true, some true, some true, some true], fun _ => .bool false, [22, 29]⟩] [(0, .pointer (some ⟨p, 0, none⟩)), (1, .pointer (some ⟨q, 0, none⟩)), (4, .bool false), (5, lv), (6, wv)] (fun ρ => match ρ with | [r0, r1, r2, r3] => [cell q 61 #[.int .i64 d.room, x.sv, x.nv, x.wv, .bool fu, .int .i64 x.fz, .bool true], x.F, x.Y, Ar 107 5 encRO x.wv x.W, Ar 9 1 encKs wv ([] : List (List UInt8)), Ar 9 1 encKs lv ([] : List (List UInt8)), Ao p d] | _ => []) (by kernel_rfl) (by kernel_rfl) ⟨rfl, rfl, rfl, rfl, rfl, trivial⟩ rfl ?_ ?_
  refine Ac (by intro r0_ r1_ r2_ r3_; exact ⟨rfl, fun b w hH hb => Af Ag rfl hb⟩) (Ac (by intro r0_ r1_ r2_ r3_; exact ⟨rfl, fun b w hH hb => Ds 5 Tryz.underlying93 rfl rfl rfl hH hb⟩) (Ac (by intro r0_ r1_ r2_ r3_; exact ⟨rfl, fun b w hH hb => Af Ag rfl hb⟩) (Ac (by intro r0_ r1_ r2_ r3_; exact ⟨rfl, fun b w hH hb => Ds 4 Tryz.underlying93 rfl rfl rfl hH hb⟩) (Ac (by intro r0_ r1_ r2_ r3_; exact ⟨rfl, fun b w hH hb => AZ rfl rfl rfl (AP (by simp)) hb⟩) (Ac (by intro r0_ r1_ r2_ r3_; exact ⟨rfl, fun b w hH hb => Af Ag rfl hb⟩) (Ac (by intro r0_ r1_ r2_ r3_; exact ⟨rfl, fun b w hH hb => Af Ag rfl hb⟩) (Ac (by exact ⟨rfl, Bk.su (Ak (os' := fun _ => [cell q 61 #[.int .i64 d.room, x.sv, x.nv, x.wv, .bool fu, .int .i64 x.fz, .bool true], x.F, x.Y, Ar 107 5 encRO x.wv x.W, Ar 9 1 encKs wv ([] : List (List UInt8)), Ar 9 1 encKs lv ([] : List (List UInt8)), Ao p d]) [6] 0 (Ai Tryz.func55 (by kernel_rfl) rfl) (Nx hdn) rfl rfl rfl (fun _ => rfl) rfl rfl rfl) rfl⟩) (Ac (by intro r0_ r1_ r2_ r3_; exact ⟨rfl, fun b w hH hb => Af Ag rfl hb⟩) (Ac (by intro v0_; exact ⟨rfl, Bk.su (Ak (os' := fun _ => [cell q 61 #[.int .i64 d.room, x.sv, x.nv, x.wv, .bool fu, .int .i64 x.fz, .bool true], x.F, x.Y, Ar 107 5 encRO x.wv x.W, Ar 9 1 encKs wv ([] : List (List UInt8)), Ar 9 1 encKs lv ([] : List (List UInt8)), Ao p d]) [0, 1] 0 (Ai Tryz.func56 (by kernel_rfl) rfl) (S2 x) rfl rfl rfl (fun _ => rfl) rfl rfl rfl) rfl⟩) ?_)))))))))
  refine Ac (by intro v0_ v1_ r2_ r3_; exact ⟨rfl, fun b w hH hb => AZ rfl rfl rfl (AP (by omega)) hb⟩) (Ac (by intro v0_ v1_ r2_ r3_; exact ⟨rfl, fun b w hH hb => Af Ag rfl hb⟩) (Ac (by intro v0_ v1_ r2_ r3_; exact ⟨rfl, fun b w hH hb => Af Ag rfl hb⟩) (Ac (by intro v0_ v1_ r2_ r3_; exact ⟨rfl, fun b w hH hb => Af Ag rfl hb⟩) (Ac (by intro v0_ v1_; exact ⟨rfl, Bk.su (Ak (os' := fun _ => [cell q 61 #[.int .i64 d.room, x.sv, x.nv, x.wv, .bool fu, .int .i64 x.fz, .bool true], x.F, x.Y, Ar 107 5 encRO x.wv x.W, Ar 9 1 encKs wv ([] : List (List UInt8)), Ar 9 1 encKs lv ([] : List (List UInt8)), Ao p d]) [6] 0 (Ai Tryz.func57 (by kernel_rfl) rfl) (Jq rfl) rfl rfl rfl (fun _ => rfl) rfl rfl rfl) rfl⟩) (Ac (by intro v0_ v1_ r2_ r3_; exact ⟨rfl, fun b w hH hb => Af Ag rfl hb⟩) (Ac (by intro v0_ v1_ r2_ r3_; exact ⟨rfl, fun b w hH hb => by exact BD rfl rfl hb⟩) (Ac (by intro v0_ v1_ r2_ r3_; exact ⟨rfl, fun b w hH hb => Af Ag rfl hb⟩) (Ac (by intro v0_ v1_ r2_ r3_; exact ⟨rfl, fun b w hH hb => Ba rfl rfl (Bm AM rfl) (hH.row 0 rfl) hb⟩) (Ac (by intro v0_ v1_ r2_ r3_; exact ⟨rfl, fun b w hH hb => Ds 3 Tryz.underlying59 rfl rfl rfl hH hb⟩) ?_)))))))))
  refine Ac (by intro v0_ v1_ v2_ r3_; exact ⟨rfl, fun b w hH hb => AZ rfl rfl rfl (AP (by omega)) hb⟩) (Ac (by intro v0_ v1_ v2_ r3_; exact ⟨rfl, fun b w hH hb => Af Ag rfl hb⟩) (Ac (by intro v0_ v1_ v2_ r3_; exact ⟨rfl, fun b w hH hb => Af Ag rfl hb⟩) (Ac (by intro v0_ v1_ v2_ r3_; exact ⟨rfl, fun b w hH hb => Af Ag rfl hb⟩) (Ac (by intro v0_ v1_ v2_; exact ⟨rfl, Bk.su (Ak (os' := fun _ => [cell q 61 #[.int .i64 d.room, x.sv, x.nv, x.wv, .bool fu, .int .i64 x.fz, .bool true], x.F, x.Y, Ar 107 5 encRO x.wv x.W, Ar 9 1 encKs wv ([] : List (List UInt8)), Ar 9 1 encKs lv ([] : List (List UInt8)), Ao p d]) [6] 0 (Ai Tryz.func58 (by kernel_rfl) rfl) (Mr hdn) rfl rfl rfl (fun _ => rfl) rfl rfl rfl) rfl⟩) (Ac (by intro v0_ v1_ v2_ r3_; exact ⟨rfl, fun b w hH hb => Af Ag rfl hb⟩) (Ac (by intro v0_ v1_ v2_ r3_; exact ⟨rfl, fun b w hH hb => by exact BD rfl rfl hb⟩) (Ac (by intro v0_ v1_ v2_ r3_; exact ⟨rfl, fun b w hH hb => Af Ag rfl hb⟩) (Ac (by intro v0_ v1_ v2_ r3_; exact ⟨rfl, fun b w hH hb => Ba rfl rfl (Bm Bt rfl) (hH.row 0 rfl) hb⟩) (Ac (by intro v0_ v1_ v2_ v3_; exact ⟨rfl, fun b w hH hb => NK (Yl true true) rfl rfl rfl hb⟩) ?_)))))))))
  refine Ac (by intro v0_ v1_ v2_ v3_; exact ⟨rfl, fun b w hH hb => Af Ag rfl hb⟩) ?_
  exact B7
  intro v0_ v1_ v2_ v3_
  refine Cf.keep (env' := [(0, .pointer (some ⟨p, 0, none⟩)), (1, .pointer (some ⟨q, 0, none⟩)), (4, .bool false), (5, lv), (6, wv), (46, .bool false)]) ⟨rfl, rfl, rfl, rfl, rfl, rfl, trivial⟩ (AV (AL (As rfl (AB (AL (Av (Ad (Ae Ag rfl (Ab (Bo (Bi [0, 1, 2, 3] rfl (CD (p := q) x hfu hdn) rfl (Dd (α := Nat) (fun i => [(0, .pointer (some ⟨p, 0, none⟩)), (1, .pointer (some ⟨q, 0, none⟩)), (4, .bool false), (5, lv), (6, wv), (7, .int .i64 ((i : Nat) : Int))]) (fun i => [An q d, Ar 9 1 encKs wv ([] : List (List UInt8)), Ar 9 1 encKs lv ([] : List (List UInt8)), Ao p d]) (fun i => i = 0) (fun i => i) 0 rfl ⟨rfl, rfl, rfl, rfl, rfl, rfl, trivial⟩ rfl ?_))))))))))))
  rintro i hI
  refine BB.at_ (env' := [(0, .pointer (some ⟨p, 0, none⟩)), (1, .pointer (some ⟨q, 0, none⟩)), (4, .bool false), (5, lv), (6, wv), (7, .int .i64 ((i : Nat) : Int))]) (rs' := [An q d, Ar 9 1 encKs wv ([] : List (List UInt8)), Ar 9 1 encKs lv ([] : List (List UInt8)), Ao p d]) ⟨rfl, rfl, rfl, rfl, rfl, rfl, trivial⟩ rfl (Av (Ad (Ae Ag rfl (Aa rfl (.int .i64 (([] : List (List UInt8)).length : Int)) (fun b w hb hH => Ds 2 Tryz.underlying93 rfl rfl rfl hH hb) (Aa rfl (.bool false) (fun b w hb hH => AZ rfl rfl rfl (BS (by simp only [List.length_nil]; omega)) hb) (Ab (As rfl (CP (FP (FP (Br (AL (Ad (Ae Ag rfl (Ab (Ax ?_))))))))))))))))
  exact Aw (.tmp rfl) (fun w h => AH () rfl [3, 0] rfl h CK) rfl
theorem FB {p q : Nat} {d : DiskD} (hf : d.fit) : AX Tryz.prog 19 #[.pointer (some ⟨p, 0, none⟩), .pointer (some ⟨q, 0, none⟩)] [Ao p d, An q d] (fun _ : Unit => .bool true) (fun _ => [Ao p d, An q d]) := by
  cases h : d.down with
  | false => exact Wf hf h
  | true => exact Wg h
end Go.Proofs.YtjcfimmcogkopaaGreat.Sep
