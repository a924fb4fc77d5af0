/-
  HdU · RdkE · HdS
-/
import Derived.Test.YtnknboibmifacaaGreatPB02
import Derived.Test.YtnknboibmifacaaGreatPD01
import Derived.Test.YtnknboibmifacaaGreatPE01
import Derived.Test.YtnknboibmifacaaGreatPE02
import Derived.Test.YtnknboibmifacaaGreatPF01
import Derived.Test.YtnknboibmifacaaGreatPJ01
import Derived.Test.YtnknboibmifacaaGreatPN01
import Derived.Test.YtnknboibmifacaaGreatPO02
import Derived.Laws.IdiomRangeMap
set_option linter.unusedSimpArgs false
set_option linter.unusedVariables false
set_option maxRecDepth 100000
namespace Go.Proofs.YtnknboibmifacaaGreat.Sep
open Go.RowKit
open Go.Proofs.YtnknboibmifacaaGreat.Mem (Bl Co Chg AG)
theorem RX {p : Nat} {w : World} {a b c pv sm : Value} (hr : w.heap[p]? = some (.cells #[a, b, c, pv, sm, .map none] 67 (0, 0))) : Calls Tryz.prog 50 #[.pointer (some ⟨p, 0, none⟩)] w fun e w' => e = .returned (.int .i64 0) ∧ Below w.heap.size w w' := by
 have hrg := run_range_nilMap (P := Tryz.prog) w 65 9 48 Tryz.underlying65
 have hnx : ∀ ty, (Instr.next (.pointer (some ⟨w.heap.size, 0, none⟩)) false ty).run Tryz.prog (w.alloc (.mapIter none 0 #[] 0)) = _ := fun ty => run_next_nilMap w ty 0 0 #[]
 have hc : w.cell? ⟨p, 5, none⟩ = some (.map none) := by simp [World.cell?, hr]
 go_enter Tryz.func50, Tryz.ntmps50
 go_wp2
 refine wp_loop_rounds 1 ?_
 rw [rounds_succ]
 go_wp2
 go_ret
 exact ⟨rfl, (Below.refl _ w).alloc (Nat.le_refl _) _⟩
theorem RY {p : Nat} {d : DiskD} {k : Nat} (hdn : d.down = false) (hfit : d.fit) (h : Qa d = k) : AU Tryz.prog 50 #[.pointer (some ⟨p, 0, none⟩)] [Ao p d] (fun (_ : Unit) => .int .i64 (k : Int)) (fun (_ : Unit) => [Ao p d]) := by
  refine Bd (args := [.pointer (some ⟨p, 0, none⟩)]) 20 Tryz.func50 rfl rfl rfl ?_; intro w rs
  refine AZ 0 rfl (Di hdn) (fun _ => rfl) ?_; rintro x
  refine Bv.fact 3 rfl BD ?_; rintro hsn
  refine Bv.fact 4 rfl BR ?_; rintro hgn
  have hpu : AK (Ce x.L) ≤ 1099511627776 := by rw [Df x.hg]; exact Ip hfit hsn x.hok
  have hk_ : AK (Ce x.L) = k := by rw [← h]; unfold Qa; rw [hdn, if_neg (by simp)]; exact Df x.hg
  refine Ad ?_
  refine Ae Ak rfl ?_
  refine Aa (Ad ?_)
  refine Ae Ak rfl ?_
  refine Aa (Aq (Ad ?_))
  refine Ae Ak rfl ?_
  refine Ab rfl (.pointer (some ⟨p, 0, none⟩)) (fun b w hb hH => by exact BA rfl rfl hb) ?_
  refine Ae Ak rfl ?_
  refine Ab rfl (x.sh) (fun b w hb hH => A6 rfl rfl (Bk AO rfl) (hH.row 0 rfl) hb) ?_
  refine Aj (post := fun g1 => [cell p 67 #[.int .i64 d.room, .int .i64 (C9 d.fuse), .bool false, x.pv, x.sm, x.sh], As 99 5 encO x.pv x.W, BL x.W, AA x.sm d.syn, FQ encKey AM x.sh (.pointer (some ⟨g1, 0, none⟩)) x.L x.L none, Bx x.L]) rfl (MB 4 Tryz.underlying65 rfl rfl rfl) ?_; rintro g1
  refine Aa (Bb ?_)
  refine CO (α := Nat × FilL × Option (List UInt8 × PtT)) (fun ⟨n, left, cur⟩ => [(2, .int .i64 0), (3, .int .i64 ((n : Nat) : Int)), (10, .pointer (some ⟨g1, 0, none⟩))]) (fun ⟨n, left, cur⟩ => [cell p 67 #[.int .i64 d.room, .int .i64 (C9 d.fuse), .bool false, x.pv, x.sm, x.sh], As 99 5 encO x.pv x.W, BL x.W, AA x.sm d.syn, FQ encKey AM x.sh (.pointer (some ⟨g1, 0, none⟩)) x.L left cur, Bx x.L]) (fun ⟨n, left, cur⟩ => n + AK (Ce left) = AK (Ce x.L) ∧ ∀ p, p ∈ left → p ∈ x.L) (fun ⟨n, left, cur⟩ => left.length) (0, x.L, none) ⟨Nat.zero_add _, fun _ h => h⟩ ⟨rfl, rfl, rfl, trivial⟩ rfl ?_
  rintro ⟨n, left, cur⟩ hI
  refine Bv.at_ (env' := [(2, .int .i64 0), (3, .int .i64 ((n : Nat) : Int)), (10, .pointer (some ⟨g1, 0, none⟩))]) (rs' := [cell p 67 #[.int .i64 d.room, .int .i64 (C9 d.fuse), .bool false, x.pv, x.sm, x.sh], As 99 5 encO x.pv x.W, BL x.W, AA x.sm d.syn, FQ encKey AM x.sh (.pointer (some ⟨g1, 0, none⟩)) x.L left cur, Bx x.L]) ⟨rfl, rfl, rfl, trivial⟩ rfl ?_
  have hI1 : n + AK (Ce left) = AK (Ce x.L) := hI.1
  rcases Classical.em (left = []) with hc | hc
  · skip
    have hn : n = k := by rw [hc] at hI1; rw [← hk_]; simpa [Ce, AK] using hI1
    refine Ad ?_
    refine Ae Ak rfl ?_
    refine Ab rfl (.tuple #[.bool false]) (fun b w hb hH => MC 4 rfl hc rfl rfl hH hb) ?_
    refine Ae Ak rfl ?_
    refine Aa (Aq (Ar rfl (Cu (E0 (E0 (Bh (AE ?_)))))))
    refine AZ 4 rfl JA (fun _ => rfl) ?_; rintro ⟨⟩
    refine Bv.leave [1] rfl rfl ?_
    refine Ad ?_
    refine Ae Ak rfl ?_
    refine Aa (Ay ?_)
    exact Av (.tmp rfl) (fun w h => AB () (by rw [hn]) [1, 2, 3, 4, 0, 5] rfl h (C0 (os := []) x hdn)) rfl
  · skip
    refine Ad ?_
    refine Ae Ak rfl ?_
    refine Aj (post := fun q : { q : Nat × List UInt8 × PtT // (left)[q.1]? = some q.2 } => [cell p 67 #[.int .i64 d.room, .int .i64 (C9 d.fuse), .bool false, x.pv, x.sm, x.sh], As 99 5 encO x.pv x.W, BL x.W, AA x.sm d.syn, FQ encKey AM x.sh (.pointer (some ⟨g1, 0, none⟩)) x.L (left.eraseIdx q.1.1) (some (q.1.2.1, q.1.2.2)), Bx x.L]) rfl (MD 4 rfl hc rfl rfl) ?_; rintro q
    refine Ae Ak rfl ?_
    refine Aa (Aq (AC rfl (Ax (AE (Bb ?_)))))
    have hqm : q.1.2 ∈ x.L := hI.2 _ (List.mem_of_getElem? q.2)
    have hqu : AK (Ce (left.eraseIdx q.1.1)) + q.1.2.2.2.length = AK (Ce left) := K2 q.2
    refine Ad ?_
    refine Ae Ak rfl ?_
    refine Ab rfl (.tuple #[.string (bs q.1.2.1), q.1.2.2.1]) (fun b w hb hH => ME 4 rfl rfl rfl hH hb) ?_
    refine Ae Ak rfl ?_
    refine Aa (Br ?_)
    refine Ae Ak rfl ?_
    refine Ab rfl (.int .i64 (q.1.2.2.2.length : Int)) (fun b w hb hH => AT ((hH.rd8 5 rfl (Hu hqm)).rd) Tryz.underlying48 rfl rfl hb) ?_
    refine Ab rfl (.int .i64 ((n + q.1.2.2.2.length : Nat) : Int)) (fun b w hb hH => AN rfl rfl rfl rfl (by rw [IntWalk.i64_in _ (by omega)]; omega) hb) ?_
    refine Ae Ak rfl ?_
    refine AP (Bt ?_)
    exact Cc (n + q.1.2.2.2.length, left.eraseIdx q.1.1, some (q.1.2.1, q.1.2.2)) 0 ⟨by omega, fun p hp => hI.2 p (List.mem_of_mem_eraseIdx hp)⟩ (show (left.eraseIdx q.1.1).length < left.length from In q.2) ⟨rfl, rfl, rfl, trivial⟩ rfl
theorem M2 {p : Nat} {d : DiskD} (h : d.down = true) : AU Tryz.prog 50 #[.pointer (some ⟨p, 0, none⟩)] [Ao p d] (fun (_ : Unit) => .int .i64 0) (fun (_ : Unit) => [Ao p d]) := fun w rs h1 h2 h3 => by
  have hrs : Ao p d rs := h1.one'
  obtain ⟨x, hx⟩ := Km h rs hrs
  obtain ⟨r1, r2, rfl, hc, _⟩ := hx
  have hrow : w.heap[p]? = some (.cells #[.int .i64 d.room, .int .i64 (C9 d.fuse), .bool true, x.pv, x.sm, .map none] 67 (0, 0)) := by
    have h4 : r1 = [(p, Fg 67, #[.int .i64 d.room, .int .i64 (C9 d.fuse), .bool true, x.pv, x.sm, .map none])] := hc
    subst h4
    exact AW.1 h2 (p, Fg 67, #[.int .i64 d.room, .int .i64 (C9 d.fuse), .bool true, x.pv, x.sm, .map none]) (List.mem_append_left _ (List.mem_singleton.2 rfl))
  refine (RX hrow).mono fun e w' ⟨he, hb⟩ => ⟨(), he, r1 ++ r2, h1, ?_⟩
  have h5 := Gm (rs' := []) h2 h3 hb trivial trivial (fun _ h => nomatch h)
  rwa [List.append_nil] at h5
end Go.Proofs.YtnknboibmifacaaGreat.Sep
namespace Go.Proofs.YtnknboibmifacaaGreat.Sep
open Go.RowKit
open Go.Proofs.YtnknboibmifacaaGreat.Mem (Bl Co Chg AG)
theorem UV {p : Nat} {d : DiskD} (x : RDk d) {v : Value} {b : List UInt8} {fu dn : Bool} (hfu : d.fuse.isSome = fu) (hdn : d.down = dn) (hv : CX x.Y v b) (hs : ∃ A c, v = .slice A b.length c) : ∀ rs, Ap [cell p 59 #[.int .i64 d.room, x.sv, x.nv, x.wv, .bool fu, .int .i64 x.fz, .bool dn], x.F, x.Y, As 103 5 encRO x.wv x.W] rs → Ca p d v b rs := fun rs h => ⟨x, ⟨hv, hs⟩, by subst hfu; subst hdn; exact h⟩
theorem TS {p : Nat} {d : DiskD} {n : List UInt8} (hr : BJ d n = none) : AU Tryz.prog 37 #[.pointer (some ⟨p, 0, none⟩), .string (bs n)] [Au p d] (fun (_ : Unit) => .tuple #[.slice none 0 0, .bool false]) (fun (_ : Unit) => [Au p d]) := by
  refine Bd (args := [.pointer (some ⟨p, 0, none⟩), .string (bs n)]) 29 Tryz.func37 rfl rfl rfl ?_; intro w rs
  obtain ⟨fu, hfu⟩ : ∃ fu, d.fuse.isSome = fu := ⟨_, rfl⟩
  have hn64 : True := trivial
  refine Ad ?_
  refine Ae Ag rfl ?_
  refine Aa ?_
  rcases hdn : d.down with _ | _
  · skip
    refine AZ 0 rfl (Cy hfu hdn) (fun _ => rfl) ?_; rintro x
    have hn64 := x.nlen
    have hg : AQ d.now n = none := by unfold BJ at hr; rwa [hdn, if_neg (by simp)] at hr
    have hno := x.no_ hg
    refine Ad ?_
    refine Ae Ag rfl ?_
    refine Ab rfl (.pointer (some ⟨p, 0, none⟩)) (fun b w hb hH => by exact BA rfl rfl hb) ?_
    refine Ae Ag rfl ?_
    refine Ab rfl (x.nv) (fun b w hb hH => A6 rfl rfl (Bk An rfl) (hH.row 0 rfl) hb) ?_
    refine Ae Ag rfl ?_
    refine Aj rfl (Al (os' := fun _ => [cell p 59 #[.int .i64 d.room, x.sv, x.nv, x.wv, .bool fu, .int .i64 x.fz, .bool false], x.F, x.Y, As 103 5 encRO x.wv x.W]) [1] 0 (Ah Tryz.func61 (by kernel_rfl) rfl) (Dn x.rn (by omega) hno) rfl rfl rfl (fun _ => rfl) rfl rfl rfl) ?_; rintro ⟨⟩
    refine Ae Ag rfl ?_
    refine Aa (Aq (Ad ?_))
    refine Ae Ag rfl ?_
    refine Ab rfl (.pointer (some ⟨p, 0, none⟩)) (fun b w hb hH => by exact BA rfl rfl hb) ?_
    refine Ae Ag rfl ?_
    refine Ab rfl (.bool false) (fun b w hb hH => A6 rfl rfl (Bk Bo rfl) (hH.row 0 rfl) hb) ?_
    refine Ae Ag rfl ?_
    refine Ab rfl (.bool true) (fun b w hb hH => AV rfl rfl rfl (A7 (by omega)) hb) ?_
    refine Ae Ag rfl ?_
    refine Aa (AC rfl ?_)
    refine AX [0, 1, 2, 3] rfl (Cb x hfu hdn) rfl ?_
    refine Ad ?_
    refine Ae Ag rfl ?_
    refine Aa (Ay (CM ?_))
    exact B3 (.tmp rfl) (.tmp rfl) (fun w h => AB () rfl [0] rfl h Cl) rfl
  · skip
    refine AZ 0 rfl (Cy hfu hdn) (fun _ => rfl) ?_; rintro x
    have hn64 := x.nlen
    obtain ⟨j, hfj⟩ : ∃ j : Int, AU Tryz.prog 61 #[x.nv, .string (bs n)] [x.F] (fun (_ : Unit) => .int .i64 j) (fun (_ : Unit) => [x.F]) := (x.at_ n).elim (fun ⟨j, q, hj, hq, hlt, _, _⟩ => ⟨_, C7 x.rn (by omega) hj hq hlt⟩) (fun ⟨hno, _⟩ => ⟨_, Dn x.rn (by omega) hno⟩)
    refine Ad ?_
    refine Ae Ag rfl ?_
    refine Ab rfl (.pointer (some ⟨p, 0, none⟩)) (fun b w hb hH => by exact BA rfl rfl hb) ?_
    refine Ae Ag rfl ?_
    refine Ab rfl (x.nv) (fun b w hb hH => A6 rfl rfl (Bk An rfl) (hH.row 0 rfl) hb) ?_
    refine Ae Ag rfl ?_
    refine Aj rfl (Al (os' := fun _ => [cell p 59 #[.int .i64 d.room, x.sv, x.nv, x.wv, .bool fu, .int .i64 x.fz, .bool true], x.F, x.Y, As 103 5 encRO x.wv x.W]) [1] 0 (Ah Tryz.func61 (by kernel_rfl) rfl) (hfj) rfl rfl rfl (fun _ => rfl) rfl rfl rfl) ?_; rintro ⟨⟩
    refine Ae Ag rfl ?_
    refine Aa (Aq (Ad ?_))
    refine Ae Ag rfl ?_
    refine Ab rfl (.pointer (some ⟨p, 0, none⟩)) (fun b w hb hH => by exact BA rfl rfl hb) ?_
    refine Ae Ag rfl ?_
    refine Ab rfl (.bool true) (fun b w hb hH => A6 rfl rfl (Bk Bo rfl) (hH.row 0 rfl) hb) ?_
    refine Ae Ag rfl ?_
    refine Aa (AC rfl ?_)
    refine AX [0, 1, 2, 3] rfl (Cb x hfu hdn) rfl ?_
    refine Ad ?_
    refine Ae Ag rfl ?_
    refine Aa (Ay (CM ?_))
    exact B3 (.tmp rfl) (.tmp rfl) (fun w h => AB () rfl [0] rfl h Cl) rfl
theorem Mk {p : Nat} {d : DiskD} {n b : List UInt8} (hr : BJ d n = some b) : AU Tryz.prog 37 #[.pointer (some ⟨p, 0, none⟩), .string (bs n)] [Au p d] (fun (v : Value) => .tuple #[v, .bool true]) (fun (v : Value) => [Ca p d v b]) := by
 refine Bd (args := [.pointer (some ⟨p, 0, none⟩), .string (bs n)]) 29 Tryz.func37 rfl rfl rfl ?_; intro w rs
 obtain ⟨fu, hfu⟩ : ∃ fu, d.fuse.isSome = fu := ⟨_, rfl⟩
 have hdn : d.down = false := by unfold BJ at hr; split at hr; cases hr; rename_i h; simpa using h
 have hg : AQ d.now n = some b := by unfold BJ at hr; rwa [hdn, if_neg (by simp)] at hr
 refine AZ 0 rfl (Cy hfu hdn) (fun _ => rfl) ?_; rintro x
 have hn64 := x.nlen
 obtain ⟨j, q, hj, hq, hlt, hqb, hm⟩ := x.yes_ hg
 subst hqb
 refine Ad ?_
 refine Ae Ag rfl ?_
 refine Aa (Ad ?_)
 refine Ae Ag rfl ?_
 refine Ab rfl (.pointer (some ⟨p, 0, none⟩)) (fun b w hb hH => by exact BA rfl rfl hb) ?_
 refine Ae Ag rfl ?_
 refine Ab rfl (x.nv) (fun b w hb hH => A6 rfl rfl (Bk An rfl) (hH.row 0 rfl) hb) ?_
 refine Ae Ag rfl ?_
 refine Aj rfl (Al (os' := fun _ => [cell p 59 #[.int .i64 d.room, x.sv, x.nv, x.wv, .bool fu, .int .i64 x.fz, .bool false], x.F, x.Y, As 103 5 encRO x.wv x.W]) [1] 0 (Ah Tryz.func61 (by kernel_rfl) rfl) (C7 x.rn (by omega) hj hq hlt) rfl rfl rfl (fun _ => rfl) rfl rfl rfl) ?_; rintro ⟨⟩
 refine Ae Ag rfl ?_
 refine Aa (Aq (Ad ?_))
 refine Ae Ag rfl ?_
 refine Ab rfl (.pointer (some ⟨p, 0, none⟩)) (fun b w hb hH => by exact BA rfl rfl hb) ?_
 refine Ae Ag rfl ?_
 refine Ab rfl (.bool false) (fun b w hb hH => A6 rfl rfl (Bk Bo rfl) (hH.row 0 rfl) hb) ?_
 refine Ae Ag rfl ?_
 refine Ab rfl (.bool false) (fun b w hb hH => AV rfl rfl rfl (Bn (by omega)) hb) ?_
 refine Ae Ag rfl ?_
 refine Aa (Ar rfl (Ax (AE (Ad ?_))))
 refine Ae Ag rfl ?_
 refine Ab rfl (.pointer (some ⟨p, 0, none⟩)) (fun b w hb hH => by exact BA rfl rfl hb) ?_
 refine Ae Ag rfl ?_
 refine Ab rfl (x.nv) (fun b w hb hH => A6 rfl rfl (Bk An rfl) (hH.row 0 rfl) hb) ?_
 refine Ae Ag rfl ?_
 refine Ab rfl (BP x.nv (j * 2)) (fun b w hb hH => BF BT ((hH.rdFs 1 rfl x.rn)) Az (j := j) hj rfl rfl rfl hb) ?_
 refine Ab rfl (BP x.nv (j * 2 + 1)) (fun b w hb hH => IS BT (by decide) ((hH.rdFs 1 rfl x.rn)) (j := j) hj BC rfl rfl hb) ?_
 refine Ab rfl (.slice q.A q.d.length q.c) (fun b w hb hH => Bm BT (by decide) ((hH.rdFs 1 rfl x.rn)) (j := j) hj C3 (off := 1) rfl rfl rfl hb) ?_
 refine Ae Ag rfl ?_
 refine Aa (Ay ?_)
 exact B3 (.tmp rfl) (.tmp rfl) (fun w h => AB (X := Value) (.slice q.A q.d.length q.c) rfl [0, 1, 2, 3] rfl h (fun z hz => ⟨z, .refl _, (Ap.one (UV x hfu hdn (x.yn q hm) ⟨_, _, rfl⟩ z hz))⟩)) rfl
theorem TT {p : Nat} {d : DiskD} : ∀ rs, Au p d rs → Ca p d (.slice none 0 0) [] rs := fun rs ⟨x, h⟩ => ⟨x, ⟨fun rs w _ _ => Kh w, none, 0, rfl⟩, h⟩
theorem JV {p : Nat} {d : DiskD} {n b : List UInt8} {ok : Bool} (hok : (BJ d n).isSome = ok) (hb : (BJ d n).getD [] = b) : AU Tryz.prog 37 #[.pointer (some ⟨p, 0, none⟩), .string (bs n)] [Au p d] (fun v : Value => .tuple #[v, .bool ok]) (fun v => [Ca p d v b]) := by
  cases e : BJ d n with
  | none =>
    rw [e] at hok hb
    subst hok; subst hb
    exact (TS e).too fun _ => ⟨_, rfl, fun rs h => ⟨rs, .refl _, Ap.one (TT rs h.one')⟩⟩
  | some x =>
    rw [e] at hok hb
    subst hok; subst hb
    exact Mk e
end Go.Proofs.YtnknboibmifacaaGreat.Sep
namespace Go.Proofs.YtnknboibmifacaaGreat.Sep
open Go.RowKit
open Go.Proofs.YtnknboibmifacaaGreat.Mem (Bl Co Chg AG)
structure HarmD where
  w : Int
  a : Int
  b : Int
structure HarmD.ok (h : HarmD) : Prop where
  w : -9223372036854775808 ≤ h.w ∧ h.w ≤ 9223372036854775807
  a : -9223372036854775808 ≤ h.a ∧ h.a ≤ 9223372036854775807
  b : -9223372036854775808 ≤ h.b ∧ h.b ≤ 9223372036854775807
theorem VT {p : Nat} {d : DiskD} : ∀ rs, Au p d rs → d.now.length ≤ 64 := fun rs ⟨x, _⟩ => x.now64.1
def Gc (d : DiskD) (h : HarmD) : DiskD := if h.w % 9 = 6 then Fo d (h.a % 9) else if h.w % 9 = 7 then Cn d h.a h.b else if h.w % 9 = 8 then { d with room := h.a % 2000 } else d
theorem TU {d : DiskD} {h : HarmD} (h6 : h.w % 9 ≠ 6) (h7 : h.w % 9 ≠ 7) (h8 : h.w % 9 ≠ 8) : Gc d h = d := by unfold Gc; rw [if_neg h6, if_neg h7, if_neg h8]
theorem VU {d : DiskD} {h : HarmD} (h6 : h.w % 9 = 6) : Gc d h = Fo d (h.a % 9) := by unfold Gc; rw [if_pos h6]
theorem VV {d : DiskD} {h : HarmD} (h7 : h.w % 9 = 7) : Gc d h = Cn d h.a h.b := by unfold Gc; rw [if_neg (by omega), if_pos h7]
theorem VW {d : DiskD} {h : HarmD} (h8 : h.w % 9 = 8) : Gc d h = { d with room := h.a % 2000 } := by unfold Gc; rw [if_neg (by omega), if_neg (by omega), if_pos h8]
theorem UW {A B : Ass} {os : List Ass} (hB : ∀ rs, Ap os rs → B rs) : ∀ rs, Ap (A :: os) rs → ∃ z, rs.Perm z ∧ Ap [A, B] z := fun rs h => by
 obtain ⟨a, b, rfl, h1, h2⟩ := h
 exact ⟨_, .refl _, a, b, rfl, h1, b, [], by simp, hB b h2, rfl⟩
theorem PO {p q : Nat} {d : DiskD} {h : HarmD} (hf : d.fit) (hh : h.ok) : AU Tryz.prog 7 #[.pointer (some ⟨p, 0, none⟩), .pointer (some ⟨q, 0, none⟩), .agg #[.int .i64 h.w, .int .i64 h.a, .int .i64 h.b]] [Ao p d, Au q d] (fun (_ : Unit) => .tuple #[]) (fun (_ : Unit) => [Ao p (Gc d h), Au q (Gc d h)]) := by
  refine Bd (args := [.pointer (some ⟨p, 0, none⟩), .pointer (some ⟨q, 0, none⟩), .agg #[.int .i64 h.w, .int .i64 h.a, .int .i64 h.b]]) 48 Tryz.func7 rfl rfl rfl ?_; intro w rs
  obtain ⟨hw1, ha1, hb1⟩ := hh
  obtain ⟨m, hm⟩ : ∃ m, h.w % 9 = m := ⟨_, rfl⟩
  refine Ad ?_
  refine Ae Ai rfl ?_
  refine Aj (post := fun g5 => [cell g5 33 #[.int .i64 h.w, .int .i64 h.a, .int .i64 h.b], Ao p d, Au q d]) rfl (CC (cs := #[.int .i64 h.w, .int .i64 h.a, .int .i64 h.b]) rfl rfl rfl) ?_; rintro g5
  refine Aa (Ad ?_)
  refine Ae Ai rfl ?_
  refine Ab rfl (.int .i64 h.w) (fun b w hb hH => A6 rfl rfl (Bk AR rfl) (hH.row 0 rfl) hb) ?_
  refine Aj (post := fun _ => [cell g5 33 #[.int .i64 h.w, .int .i64 h.a, .int .i64 h.b], Ao p d, Au q d]) rfl (By (Ah Tryz.func8 (by kernel_rfl) rfl) (fun w hH => pick w h.w 9 hw1 (by decide) hm) rfl rfl rfl) ?_; rintro ⟨⟩
  refine Aa (Bb ?_)
  rcases Classical.em (m = 6) with h6 | h6
  rotate_left
  rcases Classical.em (m = 7) with h7 | h7
  rotate_left
  rcases Classical.em (m = 8) with h8 | h8
  · skip
    rw [VW (hm.trans h8)]
    obtain ⟨r, hr⟩ : ∃ r, h.a % 2000 = r := ⟨_, rfl⟩
    have hr1 : 0 ≤ r ∧ r < 2000 := by omega
    have hroom : Qp d r = ({ d with room := r }, 0) := by unfold Qp; rw [if_pos (by omega)]
    rw [hr]
    obtain ⟨fu, hfu⟩ : ∃ fu, d.fuse.isSome = fu := ⟨_, rfl⟩
    obtain ⟨dn, hdn⟩ : ∃ dn, d.down = dn := ⟨_, rfl⟩
    refine Ad ?_
    refine Ae Ai rfl ?_
    refine Ab rfl (.bool false) (fun b w hb hH => AV rfl rfl rfl (Ge (by omega)) hb) ?_
    refine Ae Ai rfl ?_
    refine Aa (Ar rfl (Ad ?_))
    refine Ae Ai rfl ?_
    refine Ab rfl (.bool false) (fun b w hb hH => AV rfl rfl rfl (Ge (by omega)) hb) ?_
    refine Ae Ai rfl ?_
    refine Aa (Ar rfl (Ad ?_))
    refine Ae Ai rfl ?_
    refine Ab rfl (.bool true) (fun b w hb hH => AV rfl rfl rfl (H7 (by omega)) hb) ?_
    refine Ae Ai rfl ?_
    refine Aa (AC rfl (Ad ?_))
    refine Ae Ai rfl ?_
    refine Ab rfl (.int .i64 h.a) (fun b w hb hH => A6 rfl rfl (Bk AR rfl) (hH.row 0 rfl) hb) ?_
    refine Aj (post := fun _ => [cell g5 33 #[.int .i64 h.w, .int .i64 h.a, .int .i64 h.b], Ao p d, Au q d]) rfl (By (Ah Tryz.func8 (by kernel_rfl) rfl) (fun w hH => pick w h.a 2000 ha1 (by decide) hr) rfl rfl rfl) ?_; rintro ⟨⟩
    refine Ae Ai rfl ?_
    refine Aa (Ad ?_)
    refine Ae Ai rfl ?_
    refine Aj rfl (Al (os' := fun _ => [cell g5 33 #[.int .i64 h.w, .int .i64 h.a, .int .i64 h.b], Ao p ({ d with room := r }), Au q d]) [1] 0 (Ah Tryz.func27 (by kernel_rfl) rfl) (RB hroom) rfl rfl rfl (fun _ => rfl) rfl rfl rfl) ?_; rintro ⟨⟩
    refine Aa ?_
    refine AZ 2 rfl (Cy hfu hdn) (fun _ => rfl) ?_; rintro x
    refine Br ?_
    refine Ae Ai rfl ?_
    refine Ab rfl (.pointer (some ⟨q, 0, none⟩)) (fun b w hb hH => by exact BA rfl rfl hb) ?_
    refine Ae Ai rfl ?_
    refine AH (post := fun _ => [cell q 59 #[.int .i64 r, x.sv, x.nv, x.wv, .bool fu, .int .i64 x.fz, .bool dn], x.F, x.Y, As 103 5 encRO x.wv x.W, cell g5 33 #[.int .i64 h.w, .int .i64 h.a, .int .i64 h.b], Ao p ({ d with room := r })]) rfl rfl (AD 0 (v := .int .i64 r) #[.int .i64 r, x.sv, x.nv, x.wv, .bool fu, .int .i64 x.fz, .bool dn] AR.2 rfl rfl rfl rfl rfl rfl rfl rfl rfl) ?_; rintro ⟨⟩
    refine AP (Bt ?_)
    exact CG  (fun w h => AB (X := Unit) () rfl [5, 0, 1, 2, 3] rfl h (fun z hz => UW (A := Ao p { d with room := r }) (Gb (p := q) (d' := { d with room := r }) x rfl rfl rfl hfu hdn x.hz x.zr) z hz)) rfl
  · skip
    rw [TU (by omega) (by omega) (by omega)]
    refine Ad ?_
    refine Ae Ai rfl ?_
    refine Ab rfl (.bool false) (fun b w hb hH => AV rfl rfl rfl (Ge (by omega)) hb) ?_
    refine Ae Ai rfl ?_
    refine Aa (Ar rfl (Ad ?_))
    refine Ae Ai rfl ?_
    refine Ab rfl (.bool false) (fun b w hb hH => AV rfl rfl rfl (Ge (by omega)) hb) ?_
    refine Ae Ai rfl ?_
    refine Aa (Ar rfl (Ad ?_))
    refine Ae Ai rfl ?_
    refine Ab rfl (.bool false) (fun b w hb hH => AV rfl rfl rfl (Ge (by omega)) hb) ?_
    refine Ae Ai rfl ?_
    refine Aa (Ar rfl (Ax (Bt ?_)))
    exact CG  (fun w h => AB () rfl [1, 2] rfl h Cl) rfl
  · skip
    rw [VU (hm.trans h6)]
    obtain ⟨r, hr⟩ : ∃ r, h.a % 9 = r := ⟨_, rfl⟩
    have hr1 : 0 ≤ r ∧ r < 9 := by omega
    rw [hr]
    refine Ad ?_
    refine Ae Ai rfl ?_
    refine Ab rfl (.bool true) (fun b w hb hH => AV rfl rfl rfl (H7 (by omega)) hb) ?_
    refine Ae Ai rfl ?_
    refine Aa (AC rfl (Ad ?_))
    refine Ae Ai rfl ?_
    refine Ab rfl (.int .i64 h.a) (fun b w hb hH => A6 rfl rfl (Bk AR rfl) (hH.row 0 rfl) hb) ?_
    refine Aj (post := fun _ => [cell g5 33 #[.int .i64 h.w, .int .i64 h.a, .int .i64 h.b], Ao p d, Au q d]) rfl (By (Ah Tryz.func8 (by kernel_rfl) rfl) (fun w hH => pick w h.a 9 ha1 (by decide) hr) rfl rfl rfl) ?_; rintro ⟨⟩
    refine Aj rfl (Al (os' := fun _ => [cell g5 33 #[.int .i64 h.w, .int .i64 h.a, .int .i64 h.b], Ao p (Fo d r), Au q d]) [1] 0 (Ah Tryz.func24 (by kernel_rfl) rfl) (Rw (by omega) rfl) rfl rfl rfl (fun _ => rfl) rfl rfl rfl) ?_; rintro ⟨⟩
    refine Aa (Br ?_)
    refine Ae Ai rfl ?_
    refine Ab rfl (.int .i64 h.a) (fun b w hb hH => A6 rfl rfl (Bk AR rfl) (hH.row 0 rfl) hb) ?_
    refine Aj (post := fun _ => [cell g5 33 #[.int .i64 h.w, .int .i64 h.a, .int .i64 h.b], Ao p (Fo d r), Au q d]) rfl (By (Ah Tryz.func8 (by kernel_rfl) rfl) (fun w hH => pick w h.a 9 ha1 (by decide) hr) rfl rfl rfl) ?_; rintro ⟨⟩
    refine Aj rfl (Al (os' := fun _ => [cell g5 33 #[.int .i64 h.w, .int .i64 h.a, .int .i64 h.b], Ao p (Fo d r), Au q (Fo d r)]) [2] 0 (Ah Tryz.func25 (by kernel_rfl) rfl) (Wq (by omega) rfl) rfl rfl rfl (fun _ => rfl) rfl rfl rfl) ?_; rintro ⟨⟩
    refine AP (Bt ?_)
    exact CG  (fun w h => AB () rfl [1, 2] rfl h Cl) rfl
  · skip
    rw [VV (hm.trans h7)]
    obtain ⟨kk, hkk⟩ : ∃ k, Cs d h.a = k := ⟨_, rfl⟩
    refine Ad ?_
    refine Ae Ai rfl ?_
    refine Ab rfl (.bool false) (fun b w hb hH => AV rfl rfl rfl (Ge (by omega)) hb) ?_
    refine Ae Ai rfl ?_
    refine Aa (Ar rfl (Ad ?_))
    refine Ae Ai rfl ?_
    refine Ab rfl (.bool true) (fun b w hb hH => AV rfl rfl rfl (H7 (by omega)) hb) ?_
    refine Ae Ai rfl ?_
    refine Aa (AC rfl (Ad ?_))
    refine Ae Ai rfl ?_
    refine Ab rfl (.int .i64 h.a) (fun b w hb hH => A6 rfl rfl (Bk AR rfl) (hH.row 0 rfl) hb) ?_
    refine Ae Ai rfl ?_
    refine Ab rfl (.int .i64 h.b) (fun b w hb hH => A6 rfl rfl (Bk AR rfl) (hH.row 0 rfl) hb) ?_
    refine Aj rfl (Al (os' := fun _ => [cell g5 33 #[.int .i64 h.w, .int .i64 h.a, .int .i64 h.b], Ao p (Cn d h.a h.b), Au q d]) [1] 0 (Ah Tryz.func23 (by kernel_rfl) rfl) (Ld hf ha1 hb1 hkk rfl) rfl rfl rfl (fun _ => rfl) rfl rfl rfl) ?_; rintro ⟨⟩
    refine Aa (Br ?_)
    refine Ae Ai rfl ?_
    refine Ab rfl (.int .i64 h.a) (fun b w hb hH => A6 rfl rfl (Bk AR rfl) (hH.row 0 rfl) hb) ?_
    refine Ae Ai rfl ?_
    refine Ab rfl (.int .i64 h.b) (fun b w hb hH => A6 rfl rfl (Bk AR rfl) (hH.row 0 rfl) hb) ?_
    refine Aj rfl (Al (os' := fun _ => [cell g5 33 #[.int .i64 h.w, .int .i64 h.a, .int .i64 h.b], Ao p (Cn d h.a h.b), Au q (Cn d h.a h.b)]) [2] 0 (Ah Tryz.func26 (by kernel_rfl) rfl) (VS hf ha1 hb1 hkk rfl) rfl rfl rfl (fun _ => rfl) rfl rfl rfl) ?_; rintro ⟨⟩
    refine AP (Bt ?_)
    exact CG  (fun w h => AB () rfl [1, 2] rfl h Cl) rfl
theorem RZ {d : DiskD} {n : List UInt8} (hd : d.down = false) (h : n ∈ EK d.now) : ∃ b, BJ d n = some b := by
  unfold EK at h
  have h1 : n ∈ AL d.now := (List.mergeSort_perm _ _).mem_iff.1 h
  unfold BJ
  rw [hd, if_neg (by simp)]
  cases e : AQ d.now n with
  | some b => exact ⟨b, rfl⟩
  | none => exact absurd h1 (CZ.1 e)
theorem R0 {d : DiskD} : (EK d.now).length = d.now.length := by
 unfold EK
 rw [(List.mergeSort_perm _ _).length_eq]
 simp [AL]
theorem UX {p q : Nat} {d : DiskD} (hf : d.fit) (hdn : d.down = false) : AU Tryz.prog 18 #[.pointer (some ⟨p, 0, none⟩), .pointer (some ⟨q, 0, none⟩)] [Ao p d, Au q d] (fun (_ : Unit) => .bool true) (fun (_ : Unit) => [Ao p d, Au q d]) := by
  refine Bd (args := [.pointer (some ⟨p, 0, none⟩), .pointer (some ⟨q, 0, none⟩)]) 87 Tryz.func18 rfl rfl rfl ?_; intro w rs
  obtain ⟨fu, hfu⟩ : ∃ fu, d.fuse.isSome = fu := ⟨_, rfl⟩
  refine Bv.fact 1 rfl VT ?_; rintro hn64
  obtain ⟨ss, hss⟩ : ∃ ss, EK d.now = ss := ⟨_, rfl⟩
  have hsl : ss.length ≤ 64 := by rw [← hss, R0]; exact hn64
  have huse : Qa d = AK d.now := by unfold Qa; rw [hdn, if_neg (by simp)]
  refine Ad ?_
  refine Ae Ai rfl ?_
  refine Aa (Ad ?_)
  refine Ae Ai rfl ?_
  refine Aj rfl (Al (os' := fun lv => [As 9 1 encKs lv ss, Ao p d, Au q d]) [0] 0 (Ah Tryz.func48 (by kernel_rfl) rfl) (NZ hdn (by omega) hss) rfl rfl rfl (fun _ => rfl) rfl rfl rfl) ?_; rintro lv
  refine Ae Ai rfl ?_
  refine Aa (Ad ?_)
  refine Ae Ai rfl ?_
  refine Aj rfl (Al (os' := fun wv => [As 9 1 encKs wv ss, As 9 1 encKs lv ss, Ao p d, Au q d]) [2] 0 (Ah Tryz.func49 (by kernel_rfl) rfl) ((hss ▸ VR (p := q) hdn)) rfl rfl rfl (fun _ => rfl) rfl rfl rfl) ?_; rintro wv
  refine Ae Ai rfl ?_
  refine Aa (Aq ?_)
  refine AZ 3 rfl (Cy hfu hdn) (fun _ => rfl) ?_; rintro x
  have hwl := x.wlen
  refine Aq ?_
  refine BO 31 4 [⟨.quiet, [none, none, none, none], fun _ => lv, []⟩, ⟨.quiet, [none, none, none, none], fun _ => .int .i64 (ss.length : Int), [0]⟩, ⟨.quiet, [none, none, none, none], fun _ => wv, []⟩, ⟨.quiet, [none, none, none, none], fun _ => .int .i64 (ss.length : Int), [2]⟩, ⟨.quiet, [none, none, none, none], fun _ => .bool false, [1, 3]⟩, ⟨.quiet, [none, none, none, none], fun _ => .bool false, [4]⟩, ⟨.quiet, [none, none, none, none], fun _ => .pointer (some ⟨p, 0, none⟩), [5]⟩, ⟨.actv 0, [some false, some false, some false, some false], fun _ => .int .i64 ((AK d.now : Nat) : Int), [6, 5]⟩, ⟨.quiet, [none, none, none, none], fun _ => .pointer (some ⟨q, 0, none⟩), [5]⟩, ⟨.actv 1, [some true, some false, some false, some false], fun _ => .int .i64 ((AK d.now : Nat) : Int), [8, 5]⟩, ⟨.quiet, [some true, some true, none, none], fun _ => .bool false, [7, 9, 5]⟩, ⟨.quiet, [some true, some true, none, none], fun _ => .bool false, [5, 10]⟩, ⟨.quiet, [some true, some true, none, none], fun _ => .bool false, [11]⟩, ⟨.quiet, [some true, some true, none, none], fun _ => .pointer (some ⟨p, 0, none⟩), [12]⟩, ⟨.actv 2, [some true, some true, some false, some false], fun _ => .int .i64 (d.wait.length : Int), [13, 12]⟩, ⟨.quiet, [some true, some true, none, none], fun _ => .pointer (some ⟨q, 0, none⟩), [12]⟩, ⟨.quiet, [some true, some true, none, none], fun _ => .pointer (some ⟨q, 0, none⟩), [15, 12]⟩, ⟨.quiet, [some true, some true, none, none], fun _ => .pointer (some ⟨q, 3, none⟩), [16, 12]⟩, ⟨.quiet, [some true, some true, none, none], fun _ => x.wv, [17, 12]⟩, ⟨.quiet, [some true, some true, none, none], fun _ => .int .i64 (x.W.length : Int), [18, 12]⟩, ⟨.quiet, [some true, some true, some true, none], fun _ => .bool false, [14, 19, 12]⟩, ⟨.quiet, [some true, some true, some true, none], fun _ => .bool false, [12, 20]⟩, ⟨.quiet, [some true, some true, some true, none], fun _ => .bool false, [21]⟩, ⟨.quiet, [some true, some true, some true, none], fun _ => .pointer (some ⟨p, 0, none⟩), [22]⟩, ⟨.actv 3, [some true, some true, some true, some false], fun _ => .bool false, [23, 22]⟩, ⟨.quiet, [some true, some true, some true, none], fun _ => .pointer (some ⟨q, 0, none⟩), [22]⟩, ⟨.quiet, [some true, some true, some true, none], fun _ => .pointer (some ⟨q, 0, none⟩), [25, 22]⟩, ⟨.quiet, [some true, some true, some true, none], fun _ => .pointer (some ⟨q, 6, none⟩), [26, 22]⟩, ⟨.quiet, [some true, some true, some true, none], fun _ => .bool false, [27, 22]⟩, ⟨.quiet, [some true, some true, some true, some true], fun _ => .bool false, [24, 28, 22]⟩, ⟨.quiet, [some true, some true, some true, some true], fun _ => .bool false, [22, 29]⟩] [(0, .pointer (some ⟨p, 0, none⟩)), (1, .pointer (some ⟨q, 0, none⟩)), (4, .bool false), (5, lv), (6, wv)] (fun ρ => match ρ with | [r0, r1, r2, r3] => [cell q 59 #[.int .i64 d.room, x.sv, x.nv, x.wv, .bool fu, .int .i64 x.fz, .bool false], x.F, x.Y, As 103 5 encRO x.wv x.W, As 9 1 encKs wv ss, As 9 1 encKs lv ss, Ao p d] | _ => []) (by kernel_rfl) (by kernel_rfl) ⟨rfl, rfl, rfl, rfl, rfl, trivial⟩ rfl ?_ ?_
  · skip
    refine Ac (by intro r0_ r1_ r2_ r3_; exact ⟨rfl, fun b w hH hb => Af Ai rfl hb⟩) ?_
    refine Ac (by intro r0_ r1_ r2_ r3_; exact ⟨rfl, fun b w hH hb => Cv 5 Tryz.underlying88 rfl rfl rfl hH hb⟩) ?_
    refine Ac (by intro r0_ r1_ r2_ r3_; exact ⟨rfl, fun b w hH hb => Af Ai rfl hb⟩) ?_
    refine Ac (by intro r0_ r1_ r2_ r3_; exact ⟨rfl, fun b w hH hb => Cv 4 Tryz.underlying88 rfl rfl rfl hH hb⟩) ?_
    refine Ac (by intro r0_ r1_ r2_ r3_; exact ⟨rfl, fun b w hH hb => AV rfl rfl rfl (AS (by omega)) hb⟩) ?_
    refine Ac (by intro r0_ r1_ r2_ r3_; exact ⟨rfl, fun b w hH hb => Af Ai rfl hb⟩) ?_
    refine Ac (by intro r0_ r1_ r2_ r3_; exact ⟨rfl, fun b w hH hb => Af Ai rfl hb⟩) ?_
    refine Ac (by exact ⟨rfl, Bp.su (Al (os' := fun _ => [cell q 59 #[.int .i64 d.room, x.sv, x.nv, x.wv, .bool fu, .int .i64 x.fz, .bool false], x.F, x.Y, As 103 5 encRO x.wv x.W, As 9 1 encKs wv ss, As 9 1 encKs lv ss, Ao p d]) [6] 0 (Ah Tryz.func50 (by kernel_rfl) rfl) (RY hdn hf huse) rfl rfl rfl (fun _ => rfl) rfl rfl rfl) rfl⟩) ?_
    refine Ac (by intro r0_ r1_ r2_ r3_; exact ⟨rfl, fun b w hH hb => Af Ai rfl hb⟩) ?_
    refine Ac (by intro v0_; exact ⟨rfl, Bp.su (Al (os' := fun _ => [cell q 59 #[.int .i64 d.room, x.sv, x.nv, x.wv, .bool fu, .int .i64 x.fz, .bool false], x.F, x.Y, As 103 5 encRO x.wv x.W, As 9 1 encKs wv ss, As 9 1 encKs lv ss, Ao p d]) [0, 1] 0 (Ah Tryz.func51 (by kernel_rfl) rfl) (Lw x hf) rfl rfl rfl (fun _ => rfl) rfl rfl rfl) rfl⟩) ?_
    refine Ac (by intro v0_ v1_ r2_ r3_; exact ⟨rfl, fun b w hH hb => AV rfl rfl rfl (AS (by omega)) hb⟩) ?_
    refine Ac (by intro v0_ v1_ r2_ r3_; exact ⟨rfl, fun b w hH hb => Af Ai rfl hb⟩) ?_
    refine Ac (by intro v0_ v1_ r2_ r3_; exact ⟨rfl, fun b w hH hb => Af Ai rfl hb⟩) ?_
    refine Ac (by intro v0_ v1_ r2_ r3_; exact ⟨rfl, fun b w hH hb => Af Ai rfl hb⟩) ?_
    refine Ac (by intro v0_ v1_; exact ⟨rfl, Bp.su (Al (os' := fun _ => [cell q 59 #[.int .i64 d.room, x.sv, x.nv, x.wv, .bool fu, .int .i64 x.fz, .bool false], x.F, x.Y, As 103 5 encRO x.wv x.W, As 9 1 encKs wv ss, As 9 1 encKs lv ss, Ao p d]) [6] 0 (Ah Tryz.func52 (by kernel_rfl) rfl) (Jb rfl) rfl rfl rfl (fun _ => rfl) rfl rfl rfl) rfl⟩) ?_
    refine Ac (by intro v0_ v1_ r2_ r3_; exact ⟨rfl, fun b w hH hb => Af Ai rfl hb⟩) ?_
    refine Ac (by intro v0_ v1_ r2_ r3_; exact ⟨rfl, fun b w hH hb => by exact BA rfl rfl hb⟩) ?_
    refine Ac (by intro v0_ v1_ r2_ r3_; exact ⟨rfl, fun b w hH hb => Af Ai rfl hb⟩) ?_
    refine Ac (by intro v0_ v1_ r2_ r3_; exact ⟨rfl, fun b w hH hb => A6 rfl rfl (Bk AF rfl) (hH.row 0 rfl) hb⟩) ?_
    refine Ac (by intro v0_ v1_ r2_ r3_; exact ⟨rfl, fun b w hH hb => Cv 3 Tryz.underlying57 rfl rfl rfl hH hb⟩) ?_
    refine Ac (by intro v0_ v1_ v2_ r3_; exact ⟨rfl, fun b w hH hb => AV rfl rfl rfl (AS (by omega)) hb⟩) ?_
    refine Ac (by intro v0_ v1_ v2_ r3_; exact ⟨rfl, fun b w hH hb => Af Ai rfl hb⟩) ?_
    refine Ac (by intro v0_ v1_ v2_ r3_; exact ⟨rfl, fun b w hH hb => Af Ai rfl hb⟩) ?_
    refine Ac (by intro v0_ v1_ v2_ r3_; exact ⟨rfl, fun b w hH hb => Af Ai rfl hb⟩) ?_
    refine Ac (by intro v0_ v1_ v2_; exact ⟨rfl, Bp.su (Al (os' := fun _ => [cell q 59 #[.int .i64 d.room, x.sv, x.nv, x.wv, .bool fu, .int .i64 x.fz, .bool false], x.F, x.Y, As 103 5 encRO x.wv x.W, As 9 1 encKs wv ss, As 9 1 encKs lv ss, Ao p d]) [6] 0 (Ah Tryz.func53 (by kernel_rfl) rfl) (L2 hdn) rfl rfl rfl (fun _ => rfl) rfl rfl rfl) rfl⟩) ?_
    refine Ac (by intro v0_ v1_ v2_ r3_; exact ⟨rfl, fun b w hH hb => Af Ai rfl hb⟩) ?_
    refine Ac (by intro v0_ v1_ v2_ r3_; exact ⟨rfl, fun b w hH hb => by exact BA rfl rfl hb⟩) ?_
    refine Ac (by intro v0_ v1_ v2_ r3_; exact ⟨rfl, fun b w hH hb => Af Ai rfl hb⟩) ?_
    refine Ac (by intro v0_ v1_ v2_ r3_; exact ⟨rfl, fun b w hH hb => A6 rfl rfl (Bk Bo rfl) (hH.row 0 rfl) hb⟩) ?_
    refine Ac (by intro v0_ v1_ v2_ v3_; exact ⟨rfl, fun b w hH hb => Ng (WB false false) rfl rfl rfl hb⟩) ?_
    refine Ac (by intro v0_ v1_ v2_ v3_; exact ⟨rfl, fun b w hH hb => Af Ai rfl hb⟩) ?_
    exact B2
  intro v0_ v1_ v2_ v3_
  refine Cg.keep (env' := [(0, .pointer (some ⟨p, 0, none⟩)), (1, .pointer (some ⟨q, 0, none⟩)), (4, .bool false), (5, lv), (6, wv), (46, .bool false)]) ⟨rfl, rfl, rfl, rfl, rfl, rfl, trivial⟩ ?_
  refine AP (AE (Ar rfl (Ax (AE (Aq (Ad ?_))))))
  refine Ae Ai rfl ?_
  refine Aa (Bb ?_)
  refine AX [0, 1, 2, 3] rfl (Cb (p := q) x hfu hdn) rfl ?_
  refine CO (α := Nat) (fun i => [(0, .pointer (some ⟨p, 0, none⟩)), (1, .pointer (some ⟨q, 0, none⟩)), (4, .bool false), (5, lv), (6, wv), (7, .int .i64 ((i : Nat) : Int))]) (fun i => [Au q d, As 9 1 encKs wv ss, As 9 1 encKs lv ss, Ao p d]) (fun i => i ≤ ss.length) (fun i => ss.length - i) 0 (Nat.zero_le _) ⟨rfl, rfl, rfl, rfl, rfl, rfl, trivial⟩ rfl ?_
  rintro i hI
  refine Bv.at_ (env' := [(0, .pointer (some ⟨p, 0, none⟩)), (1, .pointer (some ⟨q, 0, none⟩)), (4, .bool false), (5, lv), (6, wv), (7, .int .i64 ((i : Nat) : Int))]) (rs' := [Au q d, As 9 1 encKs wv ss, As 9 1 encKs lv ss, Ao p d]) ⟨rfl, rfl, rfl, rfl, rfl, rfl, trivial⟩ rfl ?_
  refine Aq ?_
  rcases Nat.lt_or_ge i ss.length with hi | hi
  · skip
    obtain ⟨n, hni⟩ : ∃ n, ss[i]? = some n := ⟨_, List.getElem?_eq_getElem hi⟩
    obtain ⟨b, hrb⟩ := RZ hdn (n := n) (by rw [hss]; exact List.mem_of_getElem? hni)
    refine Ad ?_
    refine Ae Ai rfl ?_
    refine Ab rfl (.int .i64 (ss.length : Int)) (fun b w hb hH => Cv 2 Tryz.underlying88 rfl rfl rfl hH hb) ?_
    refine Ab rfl (.bool true) (fun b w hb hH => AV rfl rfl rfl (A7 (by omega)) hb) ?_
    refine Aa (AC rfl (Ax (AE (Aq (Bb (Ad ?_))))))
    refine Ae Ai rfl ?_
    refine Ab rfl (BP wv (i * 1)) (fun b w hb hH => Ej 1 Fh Hh rfl i hi rfl rfl rfl hH hb) ?_
    refine Ab rfl (.string (bs n)) (fun b w hb hH => IJ 1 Ba Hh rfl i (a := n) hni rfl rfl rfl hH hb) ?_
    refine Aj rfl (Al (os' := fun av => [As 5 1 encB av b, Au q d, As 9 1 encKs wv ss, As 9 1 encKs lv ss, Ao p d]) [3] 0 (Ah Tryz.func32 (by kernel_rfl) rfl) (F6 (n := n) hf (congrArg (fun o => o.isSome) hrb) (congrArg (fun o => o.getD []) hrb)) rfl rfl rfl (fun _ => rfl) rfl rfl rfl) ?_; rintro av
    refine Ae Ai rfl ?_
    refine Aa (Ad ?_)
    refine Ae Ai rfl ?_
    refine Ab rfl (BP wv (i * 1)) (fun b w hb hH => Ej 2 Fh Hh rfl i hi rfl rfl rfl hH hb) ?_
    refine Ab rfl (.string (bs n)) (fun b w hb hH => IJ 2 Ba Hh rfl i (a := n) hni rfl rfl rfl hH hb) ?_
    refine Aj rfl (Al (os' := fun rv => [As 5 1 encB av b, Ca q d rv b, As 9 1 encKs wv ss, As 9 1 encKs lv ss, Ao p d]) [1] 0 (Ah Tryz.func37 (by kernel_rfl) rfl) (Mk (p := q) hrb) rfl rfl rfl (fun _ => rfl) rfl rfl rfl) ?_; rintro rv
    refine Ae Ai rfl ?_
    refine Aa (Aq ?_)
    refine BO 16 0 [⟨.quiet, [], fun _ => lv, []⟩, ⟨.quiet, [], fun _ => .int .i64 ((i : Nat) : Int), []⟩, ⟨.quiet, [], fun _ => BP lv (i * 1), [0, 1]⟩, ⟨.quiet, [], fun _ => .string (bs n), [2]⟩, ⟨.quiet, [], fun _ => wv, []⟩, ⟨.quiet, [], fun _ => .int .i64 ((i : Nat) : Int), []⟩, ⟨.quiet, [], fun _ => BP wv (i * 1), [4, 5]⟩, ⟨.quiet, [], fun _ => .string (bs n), [6]⟩, ⟨.quiet, [], fun _ => .bool false, [3, 7]⟩, ⟨.quiet, [], fun _ => .bool false, [8]⟩, ⟨.quiet, [], fun _ => av, [9]⟩, ⟨.quiet, [], fun _ => .string (bs b), [10, 9]⟩, ⟨.quiet, [], fun _ => rv, [9]⟩, ⟨.quiet, [], fun _ => .string (bs b), [12, 9]⟩, ⟨.quiet, [], fun _ => .bool false, [11, 13, 9]⟩, ⟨.quiet, [], fun _ => .bool false, [9, 14]⟩] [(0, .pointer (some ⟨p, 0, none⟩)), (1, .pointer (some ⟨q, 0, none⟩)), (4, .bool false), (5, lv), (6, wv), (7, .int .i64 ((i : Nat) : Int)), (47, .int .i64 ((i : Nat) : Int)), (48, lv), (49, .int .i64 (ss.length : Int)), (50, .bool true), (54, .pointer (some ⟨p, 0, none⟩)), (55, wv), (56, .int .i64 ((i : Nat) : Int)), (57, BP wv (i * 1)), (58, .string (bs n)), (59, .tuple #[av, .bool true]), (53, .tuple #[av, .bool true]), (60, av), (61, .bool true), (8, av), (63, .pointer (some ⟨q, 0, none⟩)), (64, wv), (65, .int .i64 ((i : Nat) : Int)), (66, BP wv (i * 1)), (67, .string (bs n)), (68, .tuple #[rv, .bool true]), (62, .tuple #[rv, .bool true]), (69, rv), (70, .bool true), (10, rv)] (fun _ => [As 5 1 encB av b, Ca q d rv b, As 9 1 encKs wv ss, As 9 1 encKs lv ss, Ao p d]) (by kernel_rfl) (by kernel_rfl) ⟨rfl, rfl, rfl, rfl, rfl, rfl, rfl, rfl, rfl, rfl, rfl, rfl, rfl, rfl, rfl, rfl, rfl, rfl, rfl, rfl, rfl, rfl, rfl, rfl, rfl, rfl, rfl, rfl, rfl, rfl, trivial⟩ rfl ?_ ?_
    · skip
      refine Ac (by exact ⟨rfl, fun b w hH hb => Af Ai rfl hb⟩) ?_
      refine Ac (by exact ⟨rfl, fun b w hH hb => Af Ai rfl hb⟩) ?_
      refine Ac (by exact ⟨rfl, fun b w hH hb => Ej 3 Fh Hh rfl i hi rfl rfl rfl hH hb⟩) ?_
      refine Ac (by exact ⟨rfl, fun b w hH hb => IJ 3 Ba Hh rfl i (a := n) hni rfl rfl rfl hH hb⟩) ?_
      refine Ac (by exact ⟨rfl, fun b w hH hb => Af Ai rfl hb⟩) ?_
      refine Ac (by exact ⟨rfl, fun b w hH hb => Af Ai rfl hb⟩) ?_
      refine Ac (by exact ⟨rfl, fun b w hH hb => Ej 2 Fh Hh rfl i hi rfl rfl rfl hH hb⟩) ?_
      refine Ac (by exact ⟨rfl, fun b w hH hb => IJ 2 Ba Hh rfl i (a := n) hni rfl rfl rfl hH hb⟩) ?_
      refine Ac (by exact ⟨rfl, fun b w hH hb => HP (by simp) rfl rfl rfl hb⟩) ?_
      refine Ac (by exact ⟨rfl, fun b w hH hb => Af Ai rfl hb⟩) ?_
      refine Ac (by exact ⟨rfl, fun b w hH hb => Af Ai rfl hb⟩) ?_
      refine Ac (by exact ⟨rfl, fun b w hH hb => LR Tryz.underlying48 Tryz.underlying5 (by kernel_rfl) Tryz.underlying9 (hH.sl8 0 rfl) rfl rfl hb⟩) ?_
      refine Ac (by exact ⟨rfl, fun b w hH hb => Af Ai rfl hb⟩) ?_
      refine Ac (by exact ⟨rfl, fun b w hH hb => LR Tryz.underlying48 Tryz.underlying5 (by kernel_rfl) Tryz.underlying9 ((hH.rd8 1 rfl EZ)) rfl rfl hb⟩) ?_
      refine Ac (by exact ⟨rfl, fun b w hH hb => HP (by simp) rfl rfl rfl hb⟩) ?_
      refine Ac (by exact ⟨rfl, fun b w hH hb => Af Ai rfl hb⟩) ?_
      exact B2
    refine Cg.keep (env' := [(0, .pointer (some ⟨p, 0, none⟩)), (1, .pointer (some ⟨q, 0, none⟩)), (4, .bool false), (5, lv), (6, wv), (7, .int .i64 ((i : Nat) : Int)), (47, .int .i64 ((i : Nat) : Int)), (48, lv), (49, .int .i64 (ss.length : Int)), (50, .bool true), (54, .pointer (some ⟨p, 0, none⟩)), (55, wv), (56, .int .i64 ((i : Nat) : Int)), (57, BP wv (i * 1)), (58, .string (bs n)), (59, .tuple #[av, .bool true]), (53, .tuple #[av, .bool true]), (60, av), (61, .bool true), (8, av), (63, .pointer (some ⟨q, 0, none⟩)), (64, wv), (65, .int .i64 ((i : Nat) : Int)), (66, BP wv (i * 1)), (67, .string (bs n)), (68, .tuple #[rv, .bool true]), (62, .tuple #[rv, .bool true]), (69, rv), (70, .bool true), (10, rv), (71, lv), (72, .int .i64 ((i : Nat) : Int)), (73, BP lv (i * 1)), (74, .string (bs n)), (75, wv), (76, .int .i64 ((i : Nat) : Int)), (77, BP wv (i * 1)), (78, .string (bs n)), (79, .bool false), (80, .bool false), (81, av), (82, .string (bs b)), (83, rv), (84, .string (bs b)), (85, .bool false), (86, .bool false)]) ⟨rfl, rfl, rfl, rfl, rfl, rfl, rfl, rfl, rfl, rfl, rfl, rfl, rfl, rfl, rfl, rfl, rfl, rfl, rfl, rfl, rfl, rfl, rfl, rfl, rfl, rfl, rfl, rfl, rfl, rfl, rfl, rfl, rfl, rfl, rfl, rfl, rfl, rfl, rfl, rfl, rfl, rfl, rfl, rfl, rfl, rfl, trivial⟩ ?_
    refine AP (AE (Ar rfl (Ax (Bt (AE ?_)))))
    refine AX [1] rfl DQ rfl ?_
    refine Bv.leave [1] rfl rfl ?_
    refine Br ?_
    refine Ae Ai rfl ?_
    refine Ab rfl (.int .i64 ((i + 1 : Nat) : Int)) (fun b w hb hH => AN rfl rfl rfl rfl (by rw [IntWalk.i64_in _ (by omega)]; omega) hb) ?_
    refine Ae Ai rfl ?_
    refine AP ?_
    exact Cc (i + 1) 0 hi (show ss.length - (i + 1) < ss.length - i by omega) ⟨rfl, rfl, rfl, rfl, rfl, rfl, trivial⟩ rfl
  · skip
    refine Ad ?_
    refine Ae Ai rfl ?_
    refine Ab rfl (.int .i64 (ss.length : Int)) (fun b w hb hH => Cv 2 Tryz.underlying88 rfl rfl rfl hH hb) ?_
    refine Ab rfl (.bool false) (fun b w hb hH => AV rfl rfl rfl (Bn (by omega)) hb) ?_
    refine Aa (Ar rfl (Cu (E0 (E0 (Bh (AE (Ad ?_)))))))
    refine Ae Ai rfl ?_
    refine Aa (Ay ?_)
    exact Av (.tmp rfl) (fun w h => AB () rfl [3, 0] rfl h Cl) rfl
theorem UY {p q : Nat} {d : DiskD} (hdn : d.down = true) : AU Tryz.prog 18 #[.pointer (some ⟨p, 0, none⟩), .pointer (some ⟨q, 0, none⟩)] [Ao p d, Au q d] (fun (_ : Unit) => .bool true) (fun (_ : Unit) => [Ao p d, Au q d]) := by
  refine Bd (args := [.pointer (some ⟨p, 0, none⟩), .pointer (some ⟨q, 0, none⟩)]) 87 Tryz.func18 rfl rfl rfl ?_; intro w rs
  obtain ⟨fu, hfu⟩ : ∃ fu, d.fuse.isSome = fu := ⟨_, rfl⟩
  refine Ad ?_
  refine Ae Ai rfl ?_
  refine Aa (Ad ?_)
  refine Ae Ai rfl ?_
  refine Aj rfl (Al (os' := fun lv => [As 9 1 encKs lv ([] : List (List UInt8)), Ao p d, Au q d]) [0] 0 (Ah Tryz.func48 (by kernel_rfl) rfl) (Ph hdn) rfl rfl rfl (fun _ => rfl) rfl rfl rfl) ?_; rintro lv
  refine Ae Ai rfl ?_
  refine Aa (Ad ?_)
  refine Ae Ai rfl ?_
  refine Aj rfl (Al (os' := fun wv => [As 9 1 encKs wv ([] : List (List UInt8)), As 9 1 encKs lv ([] : List (List UInt8)), Ao p d, Au q d]) [2] 0 (Ah Tryz.func49 (by kernel_rfl) rfl) (RW (p := q) hdn) rfl rfl rfl (fun _ => rfl) rfl rfl rfl) ?_; rintro wv
  refine Ae Ai rfl ?_
  refine Aa (Aq ?_)
  refine AZ 3 rfl (Cy hfu hdn) (fun _ => rfl) ?_; rintro x
  have hwl := x.wlen
  refine Aq ?_
  refine BO 31 4 [⟨.quiet, [none, none, none, none], fun _ => lv, []⟩, ⟨.quiet, [none, none, none, none], fun _ => .int .i64 (([] : List (List UInt8)).length : Int), [0]⟩, ⟨.quiet, [none, none, none, none], fun _ => wv, []⟩, ⟨.quiet, [none, none, none, none], fun _ => .int .i64 (([] : List (List UInt8)).length : Int), [2]⟩, ⟨.quiet, [none, none, none, none], fun _ => .bool false, [1, 3]⟩, ⟨.quiet, [none, none, none, none], fun _ => .bool false, [4]⟩, ⟨.quiet, [none, none, none, none], fun _ => .pointer (some ⟨p, 0, none⟩), [5]⟩, ⟨.actv 0, [some false, some false, some false, some false], fun _ => .int .i64 0, [6, 5]⟩, ⟨.quiet, [none, none, none, none], fun _ => .pointer (some ⟨q, 0, none⟩), [5]⟩, ⟨.actv 1, [some true, some false, some false, some false], fun _ => .int .i64 0, [8, 5]⟩, ⟨.quiet, [some true, some true, none, none], fun _ => .bool false, [7, 9, 5]⟩, ⟨.quiet, [some true, some true, none, none], fun _ => .bool false, [5, 10]⟩, ⟨.quiet, [some true, some true, none, none], fun _ => .bool false, [11]⟩, ⟨.quiet, [some true, some true, none, none], fun _ => .pointer (some ⟨p, 0, none⟩), [12]⟩, ⟨.actv 2, [some true, some true, some false, some false], fun _ => .int .i64 (d.wait.length : Int), [13, 12]⟩, ⟨.quiet, [some true, some true, none, none], fun _ => .pointer (some ⟨q, 0, none⟩), [12]⟩, ⟨.quiet, [some true, some true, none, none], fun _ => .pointer (some ⟨q, 0, none⟩), [15, 12]⟩, ⟨.quiet, [some true, some true, none, none], fun _ => .pointer (some ⟨q, 3, none⟩), [16, 12]⟩, ⟨.quiet, [some true, some true, none, none], fun _ => x.wv, [17, 12]⟩, ⟨.quiet, [some true, some true, none, none], fun _ => .int .i64 (x.W.length : Int), [18, 12]⟩, ⟨.quiet, [some true, some true, some true, none], fun _ => .bool false, [14, 19, 12]⟩, ⟨.quiet, [some true, some true, some true, none], fun _ => .bool false, [12, 20]⟩, ⟨.quiet, [some true, some true, some true, none], fun _ => .bool false, [21]⟩, ⟨.quiet, [some true, some true, some true, none], fun _ => .pointer (some ⟨p, 0, none⟩), [22]⟩, ⟨.actv 3, [some true, some true, some true, some false], fun _ => .bool true, [23, 22]⟩, ⟨.quiet, [some true, some true, some true, none], fun _ => .pointer (some ⟨q, 0, none⟩), [22]⟩, ⟨.quiet, [some true, some true, some true, none], fun _ => .pointer (some ⟨q, 0, none⟩), [25, 22]⟩, ⟨.quiet, [some true, some true, some true, none], fun _ => .pointer (some ⟨q, 6, none⟩), [26, 22]⟩, ⟨.quiet, [some true, some true, some true, none], fun _ => .bool true, [27, 22]⟩, ⟨.quiet, [some true, some true, some true, some true], fun _ => .bool false, [24, 28, 22]⟩, ⟨.quiet, [some true, some true, some true, some true], fun _ => .bool false, [22, 29]⟩] [(0, .pointer (some ⟨p, 0, none⟩)), (1, .pointer (some ⟨q, 0, none⟩)), (4, .bool false), (5, lv), (6, wv)] (fun ρ => match ρ with | [r0, r1, r2, r3] => [cell q 59 #[.int .i64 d.room, x.sv, x.nv, x.wv, .bool fu, .int .i64 x.fz, .bool true], x.F, x.Y, As 103 5 encRO x.wv x.W, As 9 1 encKs wv ([] : List (List UInt8)), As 9 1 encKs lv ([] : List (List UInt8)), Ao p d] | _ => []) (by kernel_rfl) (by kernel_rfl) ⟨rfl, rfl, rfl, rfl, rfl, trivial⟩ rfl ?_ ?_
  · skip
    refine Ac (by intro r0_ r1_ r2_ r3_; exact ⟨rfl, fun b w hH hb => Af Ai rfl hb⟩) ?_
    refine Ac (by intro r0_ r1_ r2_ r3_; exact ⟨rfl, fun b w hH hb => Cv 5 Tryz.underlying88 rfl rfl rfl hH hb⟩) ?_
    refine Ac (by intro r0_ r1_ r2_ r3_; exact ⟨rfl, fun b w hH hb => Af Ai rfl hb⟩) ?_
    refine Ac (by intro r0_ r1_ r2_ r3_; exact ⟨rfl, fun b w hH hb => Cv 4 Tryz.underlying88 rfl rfl rfl hH hb⟩) ?_
    refine Ac (by intro r0_ r1_ r2_ r3_; exact ⟨rfl, fun b w hH hb => AV rfl rfl rfl (AS (by simp)) hb⟩) ?_
    refine Ac (by intro r0_ r1_ r2_ r3_; exact ⟨rfl, fun b w hH hb => Af Ai rfl hb⟩) ?_
    refine Ac (by intro r0_ r1_ r2_ r3_; exact ⟨rfl, fun b w hH hb => Af Ai rfl hb⟩) ?_
    refine Ac (by exact ⟨rfl, Bp.su (Al (os' := fun _ => [cell q 59 #[.int .i64 d.room, x.sv, x.nv, x.wv, .bool fu, .int .i64 x.fz, .bool true], x.F, x.Y, As 103 5 encRO x.wv x.W, As 9 1 encKs wv ([] : List (List UInt8)), As 9 1 encKs lv ([] : List (List UInt8)), Ao p d]) [6] 0 (Ah Tryz.func50 (by kernel_rfl) rfl) (M2 hdn) rfl rfl rfl (fun _ => rfl) rfl rfl rfl) rfl⟩) ?_
    refine Ac (by intro r0_ r1_ r2_ r3_; exact ⟨rfl, fun b w hH hb => Af Ai rfl hb⟩) ?_
    refine Ac (by intro v0_; exact ⟨rfl, Bp.su (Al (os' := fun _ => [cell q 59 #[.int .i64 d.room, x.sv, x.nv, x.wv, .bool fu, .int .i64 x.fz, .bool true], x.F, x.Y, As 103 5 encRO x.wv x.W, As 9 1 encKs wv ([] : List (List UInt8)), As 9 1 encKs lv ([] : List (List UInt8)), Ao p d]) [0, 1] 0 (Ah Tryz.func51 (by kernel_rfl) rfl) (RV x) rfl rfl rfl (fun _ => rfl) rfl rfl rfl) rfl⟩) ?_
    refine Ac (by intro v0_ v1_ r2_ r3_; exact ⟨rfl, fun b w hH hb => AV rfl rfl rfl (AS (by omega)) hb⟩) ?_
    refine Ac (by intro v0_ v1_ r2_ r3_; exact ⟨rfl, fun b w hH hb => Af Ai rfl hb⟩) ?_
    refine Ac (by intro v0_ v1_ r2_ r3_; exact ⟨rfl, fun b w hH hb => Af Ai rfl hb⟩) ?_
    refine Ac (by intro v0_ v1_ r2_ r3_; exact ⟨rfl, fun b w hH hb => Af Ai rfl hb⟩) ?_
    refine Ac (by intro v0_ v1_; exact ⟨rfl, Bp.su (Al (os' := fun _ => [cell q 59 #[.int .i64 d.room, x.sv, x.nv, x.wv, .bool fu, .int .i64 x.fz, .bool true], x.F, x.Y, As 103 5 encRO x.wv x.W, As 9 1 encKs wv ([] : List (List UInt8)), As 9 1 encKs lv ([] : List (List UInt8)), Ao p d]) [6] 0 (Ah Tryz.func52 (by kernel_rfl) rfl) (Jb rfl) rfl rfl rfl (fun _ => rfl) rfl rfl rfl) rfl⟩) ?_
    refine Ac (by intro v0_ v1_ r2_ r3_; exact ⟨rfl, fun b w hH hb => Af Ai rfl hb⟩) ?_
    refine Ac (by intro v0_ v1_ r2_ r3_; exact ⟨rfl, fun b w hH hb => by exact BA rfl rfl hb⟩) ?_
    refine Ac (by intro v0_ v1_ r2_ r3_; exact ⟨rfl, fun b w hH hb => Af Ai rfl hb⟩) ?_
    refine Ac (by intro v0_ v1_ r2_ r3_; exact ⟨rfl, fun b w hH hb => A6 rfl rfl (Bk AF rfl) (hH.row 0 rfl) hb⟩) ?_
    refine Ac (by intro v0_ v1_ r2_ r3_; exact ⟨rfl, fun b w hH hb => Cv 3 Tryz.underlying57 rfl rfl rfl hH hb⟩) ?_
    refine Ac (by intro v0_ v1_ v2_ r3_; exact ⟨rfl, fun b w hH hb => AV rfl rfl rfl (AS (by omega)) hb⟩) ?_
    refine Ac (by intro v0_ v1_ v2_ r3_; exact ⟨rfl, fun b w hH hb => Af Ai rfl hb⟩) ?_
    refine Ac (by intro v0_ v1_ v2_ r3_; exact ⟨rfl, fun b w hH hb => Af Ai rfl hb⟩) ?_
    refine Ac (by intro v0_ v1_ v2_ r3_; exact ⟨rfl, fun b w hH hb => Af Ai rfl hb⟩) ?_
    refine Ac (by intro v0_ v1_ v2_; exact ⟨rfl, Bp.su (Al (os' := fun _ => [cell q 59 #[.int .i64 d.room, x.sv, x.nv, x.wv, .bool fu, .int .i64 x.fz, .bool true], x.F, x.Y, As 103 5 encRO x.wv x.W, As 9 1 encKs wv ([] : List (List UInt8)), As 9 1 encKs lv ([] : List (List UInt8)), Ao p d]) [6] 0 (Ah Tryz.func53 (by kernel_rfl) rfl) (L2 hdn) rfl rfl rfl (fun _ => rfl) rfl rfl rfl) rfl⟩) ?_
    refine Ac (by intro v0_ v1_ v2_ r3_; exact ⟨rfl, fun b w hH hb => Af Ai rfl hb⟩) ?_
    refine Ac (by intro v0_ v1_ v2_ r3_; exact ⟨rfl, fun b w hH hb => by exact BA rfl rfl hb⟩) ?_
    refine Ac (by intro v0_ v1_ v2_ r3_; exact ⟨rfl, fun b w hH hb => Af Ai rfl hb⟩) ?_
    refine Ac (by intro v0_ v1_ v2_ r3_; exact ⟨rfl, fun b w hH hb => A6 rfl rfl (Bk Bo rfl) (hH.row 0 rfl) hb⟩) ?_
    refine Ac (by intro v0_ v1_ v2_ v3_; exact ⟨rfl, fun b w hH hb => Ng (WB true true) rfl rfl rfl hb⟩) ?_
    refine Ac (by intro v0_ v1_ v2_ v3_; exact ⟨rfl, fun b w hH hb => Af Ai rfl hb⟩) ?_
    exact B2
  intro v0_ v1_ v2_ v3_
  refine Cg.keep (env' := [(0, .pointer (some ⟨p, 0, none⟩)), (1, .pointer (some ⟨q, 0, none⟩)), (4, .bool false), (5, lv), (6, wv), (46, .bool false)]) ⟨rfl, rfl, rfl, rfl, rfl, rfl, trivial⟩ ?_
  refine AP (AE (Ar rfl (Ax (AE (Aq (Ad ?_))))))
  refine Ae Ai rfl ?_
  refine Aa (Bb ?_)
  refine AX [0, 1, 2, 3] rfl (Cb (p := q) x hfu hdn) rfl ?_
  refine CO (α := Nat) (fun i => [(0, .pointer (some ⟨p, 0, none⟩)), (1, .pointer (some ⟨q, 0, none⟩)), (4, .bool false), (5, lv), (6, wv), (7, .int .i64 ((i : Nat) : Int))]) (fun i => [Au q d, As 9 1 encKs wv ([] : List (List UInt8)), As 9 1 encKs lv ([] : List (List UInt8)), Ao p d]) (fun i => i = 0) (fun i => i) 0 rfl ⟨rfl, rfl, rfl, rfl, rfl, rfl, trivial⟩ rfl ?_
  rintro i hI
  refine Bv.at_ (env' := [(0, .pointer (some ⟨p, 0, none⟩)), (1, .pointer (some ⟨q, 0, none⟩)), (4, .bool false), (5, lv), (6, wv), (7, .int .i64 ((i : Nat) : Int))]) (rs' := [Au q d, As 9 1 encKs wv ([] : List (List UInt8)), As 9 1 encKs lv ([] : List (List UInt8)), Ao p d]) ⟨rfl, rfl, rfl, rfl, rfl, rfl, trivial⟩ rfl ?_
  refine Aq (Ad ?_)
  refine Ae Ai rfl ?_
  refine Ab rfl (.int .i64 (([] : List (List UInt8)).length : Int)) (fun b w hb hH => Cv 2 Tryz.underlying88 rfl rfl rfl hH hb) ?_
  refine Ab rfl (.bool false) (fun b w hb hH => AV rfl rfl rfl (Bn (by simp only [List.length_nil]; omega)) hb) ?_
  refine Aa (Ar rfl (Cu (E0 (E0 (Bh (AE (Ad ?_)))))))
  refine Ae Ai rfl ?_
  refine Aa (Ay ?_)
  exact Av (.tmp rfl) (fun w h => AB () rfl [3, 0] rfl h Cl) rfl
theorem Gd {p q : Nat} {d : DiskD} (hf : d.fit) : AU Tryz.prog 18 #[.pointer (some ⟨p, 0, none⟩), .pointer (some ⟨q, 0, none⟩)] [Ao p d, Au q d] (fun _ : Unit => .bool true) (fun _ => [Ao p d, Au q d]) := by
  cases h : d.down with
  | false => exact UX hf h
  | true => exact UY h
end Go.Proofs.YtnknboibmifacaaGreat.Sep
