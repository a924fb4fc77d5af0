/-
  HdU · RdkE · HdS
-/
import Derived.Test.YtjcfimmcogkopaaGreatYB03
import Derived.Test.YtjcfimmcogkopaaGreatYD01
import Derived.Test.YtjcfimmcogkopaaGreatYE01
import Derived.Test.YtjcfimmcogkopaaGreatYE02
import Derived.Test.YtjcfimmcogkopaaGreatYF01
import Derived.Test.YtjcfimmcogkopaaGreatYI01
import Derived.Test.YtjcfimmcogkopaaGreatYP01
import Derived.Test.YtjcfimmcogkopaaGreatYQ01
import Derived.Laws.IdiomRangeMap
set_option linter.unusedSimpArgs false
set_option linter.unusedVariables false
set_option maxRecDepth 100000
namespace Go.Proofs.YtjcfimmcogkopaaGreat.Sep
open Go.RowKit
open Go.Proofs.YtjcfimmcogkopaaGreat.Mem (AZ Ci Chg Au)
theorem St {p : Nat} {w : World} {a b c pv sm : Value} (hr : w.heap[p]? = some (.cells #[a, b, c, pv, sm, .map none] 70 (0, 0))) : Calls Tryz.prog 55 #[.pointer (some ⟨p, 0, none⟩)] w fun e w' => e = .returned (.int .i64 0) ∧ Below w.heap.size w w' := by
 have hrg := run_range_nilMap (P := Tryz.prog) w 68 9 32 Tryz.underlying68
 have hnx : ∀ ty, (Instr.next (.pointer (some ⟨w.heap.size, 0, none⟩)) false ty).run Tryz.prog (w.alloc (.mapIter none 0 #[] 0)) = _ := fun ty => run_next_nilMap w ty 0 0 #[]
 have hc : w.cell? ⟨p, 5, none⟩ = some (.map none) := by simp [World.cell?, hr]
 go_enter Tryz.func55, Tryz.ntmps55
 go_wp2
 refine wp_loop_rounds 1 ?_
 rw [rounds_succ]
 go_wp2
 go_ret
 exact ⟨rfl, (Below.refl _ w).alloc (Nat.le_refl _) _⟩
theorem Su {p : Nat} {d : DiskD} {k : Nat} (hdn : d.down = false) (hfit : d.fit) (h : QC d = k) : AW Tryz.prog 55 #[.pointer (some ⟨p, 0, none⟩)] [Ao p d] (fun (_ : Unit) => .int .i64 (k : Int)) (fun (_ : Unit) => [Ao p d]) := by
 refine Be (args := [.pointer (some ⟨p, 0, none⟩)]) 20 Tryz.func55 rfl rfl rfl ?_; intro w rs
 refine Bd 0 rfl (DJ hdn) (fun _ => rfl) ?_; rintro x
 refine Bv.fact 3 rfl BG ?_; rintro hsn
 refine Bv.fact 4 rfl Cb ?_; rintro hgn
 have hpu : AF (Cd x.L) ≤ 1099511627776 := by rw [Dj x.hg]; exact H5 hfit hsn x.hok
 have hk_ : AF (Cd x.L) = k := by rw [← h]; unfold QC; rw [hdn, if_neg (by simp)]; exact Dj x.hg
 refine Ad (Af Al rfl (Ab (Ad (Af Al rfl (Ab (Aq (Ad (Af Al rfl (Ac rfl (.pointer (some ⟨p, 0, none⟩)) (fun b w hb hH => by exact BQ rfl rfl hb) (Af Al rfl (Ac rfl (x.sh) (fun b w hb hH => Bb rfl rfl (Bn AT rfl) (hH.row 0 rfl) hb) (Aj (post := fun g1 => [cell p 70 #[.int .i64 d.room, .int .i64 (C7 d.fuse), .bool false, x.pv, x.sm, x.sh], Ap 103 5 encO x.pv x.W, BI x.W, Ax x.sm d.syn, Fv encKey AJ x.sh (.pointer (some ⟨g1, 0, none⟩)) x.L x.L none, Bp x.L]) rfl (My 4 Tryz.underlying68 rfl rfl rfl) ?_)))))))))))); rintro g1
 refine Ab (Bm (C9 (α := Nat × FilL × Option (List UInt8 × PtT)) (fun ⟨n, left, cur⟩ => [(2, .int .i64 0), (3, .int .i64 ((n : Nat) : Int)), (10, .pointer (some ⟨g1, 0, none⟩))]) (fun ⟨n, left, cur⟩ => [cell p 70 #[.int .i64 d.room, .int .i64 (C7 d.fuse), .bool false, x.pv, x.sm, x.sh], Ap 103 5 encO x.pv x.W, BI x.W, Ax x.sm d.syn, Fv encKey AJ x.sh (.pointer (some ⟨g1, 0, none⟩)) x.L left cur, Bp x.L]) (fun ⟨n, left, cur⟩ => n + AF (Cd left) = AF (Cd x.L) ∧ ∀ p, p ∈ left → p ∈ x.L) (fun ⟨n, left, cur⟩ => left.length) (0, x.L, none) ⟨Nat.zero_add _, fun _ h => h⟩ ⟨rfl, rfl, rfl, trivial⟩ rfl ?_))
 rintro ⟨n, left, cur⟩ hI
 refine Bv.at_ (env' := [(2, .int .i64 0), (3, .int .i64 ((n : Nat) : Int)), (10, .pointer (some ⟨g1, 0, none⟩))]) (rs' := [cell p 70 #[.int .i64 d.room, .int .i64 (C7 d.fuse), .bool false, x.pv, x.sm, x.sh], Ap 103 5 encO x.pv x.W, BI x.W, Ax x.sm d.syn, Fv encKey AJ x.sh (.pointer (some ⟨g1, 0, none⟩)) x.L left cur, Bp x.L]) ⟨rfl, rfl, rfl, trivial⟩ rfl ?_
 have hI1 : n + AF (Cd left) = AF (Cd x.L) := hI.1
 rcases Classical.em (left = []) with hc | hc
 have hn : n = k := by rw [hc] at hI1; rw [← hk_]; simpa [Cd, AF] using hI1
 refine Ad (Af Al rfl (Ac rfl (.tuple #[.bool false]) (fun b w hb hH => Mz 4 rfl hc rfl rfl hH hb) (Af Al rfl (Ab (Aq (Aw rfl (CQ (FR (FR (Br (AO (Bd 4 rfl Je (fun _ => rfl) ?_)))))))))))); rintro ⟨⟩
 refine Bv.leave [1] rfl rfl (Ad (Af Al rfl (Ab (Av ?_))))
 exact As (.tmp rfl) (fun w h => AG () (by rw [hn]) [1, 2, 3, 4, 0, 5] rfl h (DB (os := []) x hdn)) rfl
 refine Ad (Af Al rfl (Aj (post := fun q : { q : Nat × List UInt8 × PtT // (left)[q.1]? = some q.2 } => [cell p 70 #[.int .i64 d.room, .int .i64 (C7 d.fuse), .bool false, x.pv, x.sm, x.sh], Ap 103 5 encO x.pv x.W, BI x.W, Ax x.sm d.syn, Fv encKey AJ x.sh (.pointer (some ⟨g1, 0, none⟩)) x.L (left.eraseIdx q.1.1) (some (q.1.2.1, q.1.2.2)), Bp x.L]) rfl (MA 4 rfl hc rfl rfl) ?_)); rintro q
 refine Af Al rfl (Ab (Aq (AI rfl (AC (AO (Bm ?_))))))
 have hqm : q.1.2 ∈ x.L := hI.2 _ (List.mem_of_getElem? q.2)
 have hqu : AF (Cd (left.eraseIdx q.1.1)) + q.1.2.2.2.length = AF (Cd left) := KK q.2
 refine Ad (Af Al rfl (Ac rfl (.tuple #[.string (bs q.1.2.1), q.1.2.2.1]) (fun b w hb hH => MB 4 rfl rfl rfl hH hb) (Af Al rfl (Ab (BV (Af Al rfl (Ac rfl (.int .i64 (q.1.2.2.2.length : Int)) (fun b w hb hH => AY ((hH.rd8 5 rfl (J0 hqm)).rd) Tryz.underlying32 rfl rfl hb) (Ac rfl (.int .i64 ((n + q.1.2.2.2.length : Nat) : Int)) (fun b w hb hH => AS rfl rfl rfl rfl (by rw [IntWalk.i64_in _ (by omega)]; omega) hb) (Af Al rfl (Bi (B3 ?_)))))))))))
 exact CM (n + q.1.2.2.2.length, left.eraseIdx q.1.1, some (q.1.2.1, q.1.2.2)) 0 ⟨by omega, fun p hp => hI.2 p (List.mem_of_mem_eraseIdx hp)⟩ (show (left.eraseIdx q.1.1).length < left.length from H1 q.2) ⟨rfl, rfl, rfl, trivial⟩ rfl
theorem M4 {p : Nat} {d : DiskD} (h : d.down = true) : AW Tryz.prog 55 #[.pointer (some ⟨p, 0, none⟩)] [Ao p d] (fun (_ : Unit) => .int .i64 0) (fun (_ : Unit) => [Ao p d]) := fun w rs h1 h2 h3 => by
  have hrs : Ao p d rs := h1.one'
  obtain ⟨x, hx⟩ := J5 h rs hrs
  obtain ⟨r1, r2, rfl, hc, _⟩ := hx
  have hrow : w.heap[p]? = some (.cells #[.int .i64 d.room, .int .i64 (C7 d.fuse), .bool true, x.pv, x.sm, .map none] 70 (0, 0)) := by
    have h4 : r1 = [(p, Ed 70, #[.int .i64 d.room, .int .i64 (C7 d.fuse), .bool true, x.pv, x.sm, .map none])] := hc
    subst h4
    exact AN.1 h2 (p, Ed 70, #[.int .i64 d.room, .int .i64 (C7 d.fuse), .bool true, x.pv, x.sm, .map none]) (List.mem_append_left _ (List.mem_singleton.2 rfl))
  refine (St hrow).mono fun e w' ⟨he, hb⟩ => ⟨(), he, r1 ++ r2, h1, ?_⟩
  have h5 := G8 (rs' := []) h2 h3 hb trivial trivial (fun _ h => nomatch h)
  rwa [List.append_nil] at h5
end Go.Proofs.YtjcfimmcogkopaaGreat.Sep
namespace Go.Proofs.YtjcfimmcogkopaaGreat.Sep
open Go.RowKit
open Go.Proofs.YtjcfimmcogkopaaGreat.Mem (AZ Ci Chg Au)
theorem Vk {p : Nat} {d : DiskD} (x : RDk d) {v : Value} {b : List UInt8} {fu dn : Bool} (hfu : d.fuse.isSome = fu) (hdn : d.down = dn) (hv : Cu x.Y v b) (hs : ∃ A c, v = .slice A b.length c) : ∀ rs, Ak [cell p 61 #[.int .i64 d.room, x.sv, x.nv, x.wv, .bool fu, .int .i64 x.fz, .bool dn], x.F, x.Y, Ap 107 5 encRO x.wv x.W] rs → DG p d v b rs := fun rs h => ⟨x, ⟨hv, hs⟩, by subst hfu; subst hdn; exact h⟩
theorem Uf {p : Nat} {d : DiskD} {n : List UInt8} (hr : Bo d n = none) : AW Tryz.prog 38 #[.pointer (some ⟨p, 0, none⟩), .string (bs n)] [AB p d] (fun (_ : Unit) => .tuple #[.slice none 0 0, .bool false]) (fun (_ : Unit) => [AB p d]) := by
 refine Be (args := [.pointer (some ⟨p, 0, none⟩), .string (bs n)]) 29 Tryz.func38 rfl rfl rfl ?_; intro w rs
 obtain ⟨fu, hfu⟩ : ∃ fu, d.fuse.isSome = fu := ⟨_, rfl⟩
 have hn64 : True := trivial
 refine Ad (Af Ai rfl (Ab ?_))
 rcases hdn : d.down with _ | _
 refine Bd 0 rfl (Dl hfu hdn) (fun _ => rfl) ?_; rintro x
 have hn64 := x.nlen
 have hg : AL d.now n = none := by unfold Bo at hr; rwa [hdn, if_neg (by simp)] at hr
 have hno := x.no_ hg
 refine Ad (Af Ai rfl (Ac rfl (.pointer (some ⟨p, 0, none⟩)) (fun b w hb hH => by exact BQ rfl rfl hb) (Af Ai rfl (Ac rfl (x.nv) (fun b w hb hH => Bb rfl rfl (Bn AD rfl) (hH.row 0 rfl) hb) (Af Ai rfl (Aj rfl (Am (os' := fun _ => [cell p 61 #[.int .i64 d.room, x.sv, x.nv, x.wv, .bool fu, .int .i64 x.fz, .bool false], x.F, x.Y, Ap 107 5 encRO x.wv x.W]) [1] 0 (Ag Tryz.func66 (by kernel_rfl) rfl) (DP x.rn (by omega) hno) rfl rfl rfl (fun _ => rfl) rfl rfl rfl) ?_)))))); rintro ⟨⟩
 refine Af Ai rfl (Ab (Aq (Ad (Af Ai rfl (Ac rfl (.pointer (some ⟨p, 0, none⟩)) (fun b w hb hH => by exact BQ rfl rfl hb) (Af Ai rfl (Ac rfl (.bool false) (fun b w hb hH => Bb rfl rfl (Bn BP rfl) (hH.row 0 rfl) hb) (Af Ai rfl (Ac rfl (.bool true) (fun b w hb hH => Bc rfl rfl rfl (BN (by omega)) hb) (Af Ai rfl (Ab (AI rfl ?_))))))))))))
 refine Bk [0, 1, 2, 3] rfl (Cz x hfu hdn) rfl (Ad (Af Ai rfl (Ab (Av (C0 ?_)))))
 exact Cr (.tmp rfl) (.tmp rfl) (fun w h => AG () rfl [0] rfl h CV) rfl
 refine Bd 0 rfl (Dl hfu hdn) (fun _ => rfl) ?_; rintro x
 have hn64 := x.nlen
 obtain ⟨j, hfj⟩ : ∃ j : Int, AW Tryz.prog 66 #[x.nv, .string (bs n)] [x.F] (fun (_ : Unit) => .int .i64 j) (fun (_ : Unit) => [x.F]) := (x.at_ n).elim (fun ⟨j, q, hj, hq, hlt, _, _⟩ => ⟨_, Dw x.rn (by omega) hj hq hlt⟩) (fun ⟨hno, _⟩ => ⟨_, DP x.rn (by omega) hno⟩)
 refine Ad (Af Ai rfl (Ac rfl (.pointer (some ⟨p, 0, none⟩)) (fun b w hb hH => by exact BQ rfl rfl hb) (Af Ai rfl (Ac rfl (x.nv) (fun b w hb hH => Bb rfl rfl (Bn AD rfl) (hH.row 0 rfl) hb) (Af Ai rfl (Aj rfl (Am (os' := fun _ => [cell p 61 #[.int .i64 d.room, x.sv, x.nv, x.wv, .bool fu, .int .i64 x.fz, .bool true], x.F, x.Y, Ap 107 5 encRO x.wv x.W]) [1] 0 (Ag Tryz.func66 (by kernel_rfl) rfl) (hfj) rfl rfl rfl (fun _ => rfl) rfl rfl rfl) ?_)))))); rintro ⟨⟩
 refine Af Ai rfl (Ab (Aq (Ad (Af Ai rfl (Ac rfl (.pointer (some ⟨p, 0, none⟩)) (fun b w hb hH => by exact BQ rfl rfl hb) (Af Ai rfl (Ac rfl (.bool true) (fun b w hb hH => Bb rfl rfl (Bn BP rfl) (hH.row 0 rfl) hb) (Af Ai rfl (Ab (AI rfl (Bk [0, 1, 2, 3] rfl (Cz x hfu hdn) rfl (Ad ?_))))))))))))
 refine Af Ai rfl (Ab (Av (C0 ?_)))
 exact Cr (.tmp rfl) (.tmp rfl) (fun w h => AG () rfl [0] rfl h CV) rfl
theorem L5 {p : Nat} {d : DiskD} {n b : List UInt8} (hr : Bo d n = some b) : AW Tryz.prog 38 #[.pointer (some ⟨p, 0, none⟩), .string (bs n)] [AB p d] (fun (v : Value) => .tuple #[v, .bool true]) (fun (v : Value) => [DG p d v b]) := by
 refine Be (args := [.pointer (some ⟨p, 0, none⟩), .string (bs n)]) 29 Tryz.func38 rfl rfl rfl ?_; intro w rs
 obtain ⟨fu, hfu⟩ : ∃ fu, d.fuse.isSome = fu := ⟨_, rfl⟩
 have hdn : d.down = false := by unfold Bo at hr; split at hr; cases hr; rename_i h; simpa using h
 have hg : AL d.now n = some b := by unfold Bo at hr; rwa [hdn, if_neg (by simp)] at hr
 refine Bd 0 rfl (Dl hfu hdn) (fun _ => rfl) ?_; rintro x
 have hn64 := x.nlen
 obtain ⟨j, q, hj, hq, hlt, hqb, hm⟩ := x.yes_ hg
 subst hqb
 refine Ad (Af Ai rfl (Ab (Ad (Af Ai rfl (Ac rfl (.pointer (some ⟨p, 0, none⟩)) (fun b w hb hH => by exact BQ rfl rfl hb) (Af Ai rfl (Ac rfl (x.nv) (fun b w hb hH => Bb rfl rfl (Bn AD rfl) (hH.row 0 rfl) hb) (Af Ai rfl (Aj rfl (Am (os' := fun _ => [cell p 61 #[.int .i64 d.room, x.sv, x.nv, x.wv, .bool fu, .int .i64 x.fz, .bool false], x.F, x.Y, Ap 107 5 encRO x.wv x.W]) [1] 0 (Ag Tryz.func66 (by kernel_rfl) rfl) (Dw x.rn (by omega) hj hq hlt) rfl rfl rfl (fun _ => rfl) rfl rfl rfl) ?_))))))))); rintro ⟨⟩
 refine Af Ai rfl (Ab (Aq (Ad (Af Ai rfl (Ac rfl (.pointer (some ⟨p, 0, none⟩)) (fun b w hb hH => by exact BQ rfl rfl hb) (Af Ai rfl (Ac rfl (.bool false) (fun b w hb hH => Bb rfl rfl (Bn BP rfl) (hH.row 0 rfl) hb) (Af Ai rfl (Ac rfl (.bool false) (fun b w hb hH => Bc rfl rfl rfl (B9 (by omega)) hb) (Af Ai rfl (Ab (Aw rfl (AC (AO (Ad ?_)))))))))))))))
 refine Af Ai rfl (Ac rfl (.pointer (some ⟨p, 0, none⟩)) (fun b w hb hH => by exact BQ rfl rfl hb) (Af Ai rfl (Ac rfl (x.nv) (fun b w hb hH => Bb rfl rfl (Bn AD rfl) (hH.row 0 rfl) hb) (Af Ai rfl (Ac rfl (Cs x.nv (j * 2)) (fun b w hb hH => BH BS ((hH.rdFs 1 rfl x.rn)) Ar (j := j) hj rfl rfl rfl hb) (Ac rfl (Cs x.nv (j * 2 + 1)) (fun b w hb hH => M8 BS (by decide) ((hH.rdFs 1 rfl x.rn)) (j := j) hj BF rfl rfl hb) (Ac rfl (.slice q.A q.d.length q.c) (fun b w hb hH => By BS (by decide) ((hH.rdFs 1 rfl x.rn)) (j := j) hj Cy (off := 1) rfl rfl rfl hb) (Af Ai rfl (Ab (Av ?_))))))))))
 exact Cr (.tmp rfl) (.tmp rfl) (fun w h => AG (X := Value) (.slice q.A q.d.length q.c) rfl [0, 1, 2, 3] rfl h (fun z hz => ⟨z, .refl _, (Ak.one (Vk x hfu hdn (x.yn q hm) ⟨_, _, rfl⟩ z hz))⟩)) rfl
theorem Ug {p : Nat} {d : DiskD} : ∀ rs, AB p d rs → DG p d (.slice none 0 0) [] rs := fun rs ⟨x, h⟩ => ⟨x, ⟨fun rs w _ _ => QB w, none, 0, rfl⟩, h⟩
theorem JA {p : Nat} {d : DiskD} {n b : List UInt8} {ok : Bool} (hok : (Bo d n).isSome = ok) (hb : (Bo d n).getD [] = b) : AW Tryz.prog 38 #[.pointer (some ⟨p, 0, none⟩), .string (bs n)] [AB p d] (fun v : Value => .tuple #[v, .bool ok]) (fun v => [DG p d v b]) := by
  cases e : Bo d n with
  | none =>
    rw [e] at hok hb
    subst hok; subst hb
    exact (Uf e).too fun _ => ⟨_, rfl, fun rs h => ⟨rs, .refl _, Ak.one (Ug rs h.one')⟩⟩
  | some x =>
    rw [e] at hok hb
    subst hok; subst hb
    exact L5 e
end Go.Proofs.YtjcfimmcogkopaaGreat.Sep
namespace Go.Proofs.YtjcfimmcogkopaaGreat.Sep
open Go.RowKit
open Go.Proofs.YtjcfimmcogkopaaGreat.Mem (AZ Ci Chg Au)
structure HarmD where
  w : Int
  a : Int
  b : Int
structure HarmD.ok (h : HarmD) : Prop where
  w : -9223372036854775808 ≤ h.w ∧ h.w ≤ 9223372036854775807
  a : -9223372036854775808 ≤ h.a ∧ h.a ≤ 9223372036854775807
  b : -9223372036854775808 ≤ h.b ∧ h.b ≤ 9223372036854775807
theorem Wz {p : Nat} {d : DiskD} : ∀ rs, AB p d rs → d.now.length ≤ 64 := fun rs ⟨x, _⟩ => x.now64.1
theorem Sv {d : DiskD} {n : List UInt8} (hd : d.down = false) (h : n ∈ Es d.now) : ∃ b, Bo d n = some b := by
  unfold Es at h
  have h1 : n ∈ AH d.now := (List.mergeSort_perm _ _).mem_iff.1 h
  unfold Bo
  rw [hd, if_neg (by simp)]
  cases e : AL d.now n with
  | some b => exact ⟨b, rfl⟩
  | none => exact absurd h1 (Cw.1 e)
theorem Sw {d : DiskD} : (Es d.now).length = d.now.length := by
 unfold Es
 rw [(List.mergeSort_perm _ _).length_eq]
 simp [AH]
theorem Vl {p q : Nat} {d : DiskD} (hf : d.fit) (hdn : d.down = false) : AW Tryz.prog 19 #[.pointer (some ⟨p, 0, none⟩), .pointer (some ⟨q, 0, none⟩)] [Ao p d, AB q d] (fun (_ : Unit) => .bool true) (fun (_ : Unit) => [Ao p d, AB q d]) := by
  refine Be (args := [.pointer (some ⟨p, 0, none⟩), .pointer (some ⟨q, 0, none⟩)]) 87 Tryz.func19 rfl rfl rfl ?_; intro w rs
  obtain ⟨fu, hfu⟩ : ∃ fu, d.fuse.isSome = fu := ⟨_, rfl⟩
  refine Bv.fact 1 rfl Wz ?_; rintro hn64
  obtain ⟨ss, hss⟩ : ∃ ss, Es d.now = ss := ⟨_, rfl⟩
  have hsl : ss.length ≤ 64 := by rw [← hss, Sw]; exact hn64
  have huse : QC d = AF d.now := by unfold QC; rw [hdn, if_neg (by simp)]
  refine Ad (Af Ah rfl (Ab (Ad (Af Ah rfl (Aj rfl (Am (os' := fun lv => [Ap 9 1 encKs lv ss, Ao p d, AB q d]) [0] 0 (Ag Tryz.func53 (by kernel_rfl) rfl) (Of hdn (by omega) hss) rfl rfl rfl (fun _ => rfl) rfl rfl rfl) ?_))))); rintro lv
  refine Af Ah rfl (Ab (Ad (Af Ah rfl (Aj rfl (Am (os' := fun wv => [Ap 9 1 encKs wv ss, Ap 9 1 encKs lv ss, Ao p d, AB q d]) [2] 0 (Ag Tryz.func54 (by kernel_rfl) rfl) ((hss ▸ Wy (p := q) hdn)) rfl rfl rfl (fun _ => rfl) rfl rfl rfl) ?_)))); rintro wv
  refine Af Ah rfl (Ab (Aq (Bd 3 rfl (Dl hfu hdn) (fun _ => rfl) ?_))); rintro x
  have hwl := x.wlen
  refine Aq ?_
  refine BK 31 4 [⟨.quiet, [none, none, none, none], fun _ => lv, []⟩, ⟨.quiet, [none, none, none, none], fun _ => .int .i64 (ss.length : Int), [0]⟩, ⟨.quiet, [none, none, none, none], fun _ => wv, []⟩, ⟨.quiet, [none, none, none, none], fun _ => .int .i64 (ss.length : Int), [2]⟩, ⟨.quiet, [none, none, none, none], fun _ => .bool false, [1, 3]⟩, ⟨.quiet, [none, none, none, none], fun _ => .bool false, [4]⟩, ⟨.quiet, [none, none, none, none], fun _ => .pointer (some ⟨p, 0, none⟩), [5]⟩, ⟨.actv 0, [some false, some false, some false, some false], fun _ => .int .i64 ((AF d.now : Nat) : Int), [6, 5]⟩, ⟨.quiet, [none, none, none, none], fun _ => .pointer (some ⟨q, 0, none⟩), [5]⟩, ⟨.actv 1, [some true, some false, some false, some false], fun _ => .int .i64 ((AF d.now : Nat) : Int), [8, 5]⟩, ⟨.quiet, [some true, some true, none, none], fun _ => .bool false, [7, 9, 5]⟩, ⟨.quiet, [some true, some true, none, none], fun _ => .bool false, [5, 10]⟩, ⟨.quiet, [some true, some true, none, none], fun _ => .bool false, [11]⟩, ⟨.quiet, [some true, some true, none, none], fun _ => .pointer (some ⟨p, 0, none⟩), [12]⟩, ⟨.actv 2, [some true, some true, some false, some false], fun _ => .int .i64 (d.wait.length : Int), [13, 12]⟩, ⟨.quiet, [some true, some true, none, none], fun _ => .pointer (some ⟨q, 0, none⟩), [12]⟩, ⟨.quiet, [some true, some true, none, none], fun _ => .pointer (some ⟨q, 0, none⟩), [15, 12]⟩, ⟨.quiet, [some true, some true, none, none], fun _ => .pointer (some ⟨q, 3, none⟩), [16, 12]⟩, ⟨.quiet, [some true, some true, none, none], fun _ => x.wv, [17, 12]⟩, ⟨.quiet, [some true, some true, none, none], fun _ => .int .i64 (x.W.length : Int), [18, 12]⟩, ⟨.quiet, [some true, some true, some true, none], fun _ => .bool false, [14, 19, 12]⟩, ⟨.quiet, [some true, some true, some true, none], fun _ => .bool false, [12, 20]⟩, ⟨.quiet, [some true, some true, some true, none], fun _ => .bool false, [21]⟩, ⟨.quiet, [some true, some true, some true, none], fun _ => .pointer (some ⟨p, 0, none⟩), [22]⟩, ⟨.actv 3, [some true, some true, some true, some false], fun _ => .bool false, [23, 22]⟩, ⟨.quiet, [some true, some true, some true, none], fun _ => .pointer (some ⟨q, 0, none⟩), [22]⟩, ⟨.quiet, [some true, some true, some true, none], fun _ => .pointer (some ⟨q, 0, none⟩), [25, 22]⟩, ⟨.quiet, [some true, some true, some true, none], fun _ => .pointer (some ⟨q, 6, none⟩), [26, 22]⟩, ⟨.quiet, [some true, some true, some true, none], fun _ => .bool false, [27, 22]⟩, ⟨.quiet, [some true, some true, some true, some true], fun _ => .bool false, [24, 28, 22]⟩, ⟨.quiet, [some true, some true, some true, some true], fun _ => .bool false, [22, 29]⟩] [(0, .pointer (some ⟨p, 0, none⟩)), (1, .pointer (some ⟨q, 0, none⟩)), (4, .bool false), (5, lv), (6, wv)] (fun ρ => match ρ with | [r0, r1, r2, r3] => [cell q 61 #[.int .i64 d.room, x.sv, x.nv, x.wv, .bool fu, .int .i64 x.fz, .bool false], x.F, x.Y, Ap 107 5 encRO x.wv x.W, Ap 9 1 encKs wv ss, Ap 9 1 encKs lv ss, Ao p d] | _ => []) (by kernel_rfl) (by kernel_rfl) ⟨rfl, rfl, rfl, rfl, rfl, trivial⟩ rfl ?_ ?_
  refine Aa (by intro r0_ r1_ r2_ r3_; exact ⟨rfl, fun b w hH hb => Ae Ah rfl hb⟩) (Aa (by intro r0_ r1_ r2_ r3_; exact ⟨rfl, fun b w hH hb => EI 5 Tryz.underlying93 rfl rfl rfl hH hb⟩) (Aa (by intro r0_ r1_ r2_ r3_; exact ⟨rfl, fun b w hH hb => Ae Ah rfl hb⟩) (Aa (by intro r0_ r1_ r2_ r3_; exact ⟨rfl, fun b w hH hb => EI 4 Tryz.underlying93 rfl rfl rfl hH hb⟩) (Aa (by intro r0_ r1_ r2_ r3_; exact ⟨rfl, fun b w hH hb => Bc rfl rfl rfl (AK (by omega)) hb⟩) (Aa (by intro r0_ r1_ r2_ r3_; exact ⟨rfl, fun b w hH hb => Ae Ah rfl hb⟩) (Aa (by intro r0_ r1_ r2_ r3_; exact ⟨rfl, fun b w hH hb => Ae Ah rfl hb⟩) (Aa (by exact ⟨rfl, Bq.su (Am (os' := fun _ => [cell q 61 #[.int .i64 d.room, x.sv, x.nv, x.wv, .bool fu, .int .i64 x.fz, .bool false], x.F, x.Y, Ap 107 5 encRO x.wv x.W, Ap 9 1 encKs wv ss, Ap 9 1 encKs lv ss, Ao p d]) [6] 0 (Ag Tryz.func55 (by kernel_rfl) rfl) (Su hdn hf huse) rfl rfl rfl (fun _ => rfl) rfl rfl rfl) rfl⟩) (Aa (by intro r0_ r1_ r2_ r3_; exact ⟨rfl, fun b w hH hb => Ae Ah rfl hb⟩) (Aa (by intro v0_; exact ⟨rfl, Bq.su (Am (os' := fun _ => [cell q 61 #[.int .i64 d.room, x.sv, x.nv, x.wv, .bool fu, .int .i64 x.fz, .bool false], x.F, x.Y, Ap 107 5 encRO x.wv x.W, Ap 9 1 encKs wv ss, Ap 9 1 encKs lv ss, Ao p d]) [0, 1] 0 (Ag Tryz.func56 (by kernel_rfl) rfl) (Le x hf) rfl rfl rfl (fun _ => rfl) rfl rfl rfl) rfl⟩) ?_)))))))))
  refine Aa (by intro v0_ v1_ r2_ r3_; exact ⟨rfl, fun b w hH hb => Bc rfl rfl rfl (AK (by omega)) hb⟩) (Aa (by intro v0_ v1_ r2_ r3_; exact ⟨rfl, fun b w hH hb => Ae Ah rfl hb⟩) (Aa (by intro v0_ v1_ r2_ r3_; exact ⟨rfl, fun b w hH hb => Ae Ah rfl hb⟩) (Aa (by intro v0_ v1_ r2_ r3_; exact ⟨rfl, fun b w hH hb => Ae Ah rfl hb⟩) (Aa (by intro v0_ v1_; exact ⟨rfl, Bq.su (Am (os' := fun _ => [cell q 61 #[.int .i64 d.room, x.sv, x.nv, x.wv, .bool fu, .int .i64 x.fz, .bool false], x.F, x.Y, Ap 107 5 encRO x.wv x.W, Ap 9 1 encKs wv ss, Ap 9 1 encKs lv ss, Ao p d]) [6] 0 (Ag Tryz.func57 (by kernel_rfl) rfl) (IR rfl) rfl rfl rfl (fun _ => rfl) rfl rfl rfl) rfl⟩) (Aa (by intro v0_ v1_ r2_ r3_; exact ⟨rfl, fun b w hH hb => Ae Ah rfl hb⟩) (Aa (by intro v0_ v1_ r2_ r3_; exact ⟨rfl, fun b w hH hb => by exact BQ rfl rfl hb⟩) (Aa (by intro v0_ v1_ r2_ r3_; exact ⟨rfl, fun b w hH hb => Ae Ah rfl hb⟩) (Aa (by intro v0_ v1_ r2_ r3_; exact ⟨rfl, fun b w hH hb => Bb rfl rfl (Bn CE rfl) (hH.row 0 rfl) hb⟩) (Aa (by intro v0_ v1_ r2_ r3_; exact ⟨rfl, fun b w hH hb => EI 3 Tryz.underlying59 rfl rfl rfl hH hb⟩) ?_)))))))))
  refine Aa (by intro v0_ v1_ v2_ r3_; exact ⟨rfl, fun b w hH hb => Bc rfl rfl rfl (AK (by omega)) hb⟩) (Aa (by intro v0_ v1_ v2_ r3_; exact ⟨rfl, fun b w hH hb => Ae Ah rfl hb⟩) (Aa (by intro v0_ v1_ v2_ r3_; exact ⟨rfl, fun b w hH hb => Ae Ah rfl hb⟩) (Aa (by intro v0_ v1_ v2_ r3_; exact ⟨rfl, fun b w hH hb => Ae Ah rfl hb⟩) (Aa (by intro v0_ v1_ v2_; exact ⟨rfl, Bq.su (Am (os' := fun _ => [cell q 61 #[.int .i64 d.room, x.sv, x.nv, x.wv, .bool fu, .int .i64 x.fz, .bool false], x.F, x.Y, Ap 107 5 encRO x.wv x.W, Ap 9 1 encKs wv ss, Ap 9 1 encKs lv ss, Ao p d]) [6] 0 (Ag Tryz.func58 (by kernel_rfl) rfl) (LO hdn) rfl rfl rfl (fun _ => rfl) rfl rfl rfl) rfl⟩) (Aa (by intro v0_ v1_ v2_ r3_; exact ⟨rfl, fun b w hH hb => Ae Ah rfl hb⟩) (Aa (by intro v0_ v1_ v2_ r3_; exact ⟨rfl, fun b w hH hb => by exact BQ rfl rfl hb⟩) (Aa (by intro v0_ v1_ v2_ r3_; exact ⟨rfl, fun b w hH hb => Ae Ah rfl hb⟩) (Aa (by intro v0_ v1_ v2_ r3_; exact ⟨rfl, fun b w hH hb => Bb rfl rfl (Bn BP rfl) (hH.row 0 rfl) hb⟩) (Aa (by intro v0_ v1_ v2_ v3_; exact ⟨rfl, fun b w hH hb => No (Xp false false) rfl rfl rfl hb⟩) ?_)))))))))
  refine Aa (by intro v0_ v1_ v2_ v3_; exact ⟨rfl, fun b w hH hb => Ae Ah rfl hb⟩) ?_
  exact Cf
  intro v0_ v1_ v2_ v3_
  refine Ce.keep (env' := [(0, .pointer (some ⟨p, 0, none⟩)), (1, .pointer (some ⟨q, 0, none⟩)), (4, .bool false), (5, lv), (6, wv), (46, .bool false)]) ⟨rfl, rfl, rfl, rfl, rfl, rfl, trivial⟩ (Bi (AO (Aw rfl (AC (AO (Aq (Ad (Af Ah rfl (Ab (Bm (Bk [0, 1, 2, 3] rfl (Cz (p := q) x hfu hdn) rfl (C9 (α := Nat) (fun i => [(0, .pointer (some ⟨p, 0, none⟩)), (1, .pointer (some ⟨q, 0, none⟩)), (4, .bool false), (5, lv), (6, wv), (7, .int .i64 ((i : Nat) : Int))]) (fun i => [AB q d, Ap 9 1 encKs wv ss, Ap 9 1 encKs lv ss, Ao p d]) (fun i => i ≤ ss.length) (fun i => ss.length - i) 0 (Nat.zero_le _) ⟨rfl, rfl, rfl, rfl, rfl, rfl, trivial⟩ rfl ?_))))))))))))
  rintro i hI
  refine Bv.at_ (env' := [(0, .pointer (some ⟨p, 0, none⟩)), (1, .pointer (some ⟨q, 0, none⟩)), (4, .bool false), (5, lv), (6, wv), (7, .int .i64 ((i : Nat) : Int))]) (rs' := [AB q d, Ap 9 1 encKs wv ss, Ap 9 1 encKs lv ss, Ao p d]) ⟨rfl, rfl, rfl, rfl, rfl, rfl, trivial⟩ rfl (Aq ?_)
  rcases Nat.lt_or_ge i ss.length with hi | hi
  obtain ⟨n, hni⟩ : ∃ n, ss[i]? = some n := ⟨_, List.getElem?_eq_getElem hi⟩
  obtain ⟨b, hrb⟩ := Sv hdn (n := n) (by rw [hss]; exact List.mem_of_getElem? hni)
  refine Ad (Af Ah rfl (Ac rfl (.int .i64 (ss.length : Int)) (fun b w hb hH => EI 2 Tryz.underlying93 rfl rfl rfl hH hb) (Ac rfl (.bool true) (fun b w hb hH => Bc rfl rfl rfl (BN (by omega)) hb) (Ab (AI rfl (AC (AO (Aq (Bm (Ad (Af Ah rfl (Ac rfl (Cs wv (i * 1)) (fun b w hb hH => Kl 1 E1 GW rfl i hi rfl rfl rfl hH hb) (Ac rfl (.string (bs n)) (fun b w hb hH => Iq 1 AX GW rfl i (a := n) hni rfl rfl rfl hH hb) (Aj rfl (Am (os' := fun av => [Ap 5 1 encB av b, AB q d, Ap 9 1 encKs wv ss, Ap 9 1 encKs lv ss, Ao p d]) [3] 0 (Ag Tryz.func34 (by kernel_rfl) rfl) (FJ (n := n) hf (congrArg (fun o => o.isSome) hrb) (congrArg (fun o => o.getD []) hrb)) rfl rfl rfl (fun _ => rfl) rfl rfl rfl) ?_)))))))))))))); rintro av
  refine Af Ah rfl (Ab (Ad (Af Ah rfl (Ac rfl (Cs wv (i * 1)) (fun b w hb hH => Kl 2 E1 GW rfl i hi rfl rfl rfl hH hb) (Ac rfl (.string (bs n)) (fun b w hb hH => Iq 2 AX GW rfl i (a := n) hni rfl rfl rfl hH hb) (Aj rfl (Am (os' := fun rv => [Ap 5 1 encB av b, DG q d rv b, Ap 9 1 encKs wv ss, Ap 9 1 encKs lv ss, Ao p d]) [1] 0 (Ag Tryz.func38 (by kernel_rfl) rfl) (L5 (p := q) hrb) rfl rfl rfl (fun _ => rfl) rfl rfl rfl) ?_)))))); rintro rv
  refine Af Ah rfl (Ab (Aq ?_))
  refine BK 16 0 [⟨.quiet, [], fun _ => lv, []⟩, ⟨.quiet, [], fun _ => .int .i64 ((i : Nat) : Int), []⟩, ⟨.quiet, [], fun _ => Cs lv (i * 1), [0, 1]⟩, ⟨.quiet, [], fun _ => .string (bs n), [2]⟩, ⟨.quiet, [], fun _ => wv, []⟩, ⟨.quiet, [], fun _ => .int .i64 ((i : Nat) : Int), []⟩, ⟨.quiet, [], fun _ => Cs wv (i * 1), [4, 5]⟩, ⟨.quiet, [], fun _ => .string (bs n), [6]⟩, ⟨.quiet, [], fun _ => .bool false, [3, 7]⟩, ⟨.quiet, [], fun _ => .bool false, [8]⟩, ⟨.quiet, [], fun _ => av, [9]⟩, ⟨.quiet, [], fun _ => .string (bs b), [10, 9]⟩, ⟨.quiet, [], fun _ => rv, [9]⟩, ⟨.quiet, [], fun _ => .string (bs b), [12, 9]⟩, ⟨.quiet, [], fun _ => .bool false, [11, 13, 9]⟩, ⟨.quiet, [], fun _ => .bool false, [9, 14]⟩] [(0, .pointer (some ⟨p, 0, none⟩)), (1, .pointer (some ⟨q, 0, none⟩)), (4, .bool false), (5, lv), (6, wv), (7, .int .i64 ((i : Nat) : Int)), (47, .int .i64 ((i : Nat) : Int)), (48, lv), (49, .int .i64 (ss.length : Int)), (50, .bool true), (54, .pointer (some ⟨p, 0, none⟩)), (55, wv), (56, .int .i64 ((i : Nat) : Int)), (57, Cs wv (i * 1)), (58, .string (bs n)), (59, .tuple #[av, .bool true]), (53, .tuple #[av, .bool true]), (60, av), (61, .bool true), (8, av), (63, .pointer (some ⟨q, 0, none⟩)), (64, wv), (65, .int .i64 ((i : Nat) : Int)), (66, Cs wv (i * 1)), (67, .string (bs n)), (68, .tuple #[rv, .bool true]), (62, .tuple #[rv, .bool true]), (69, rv), (70, .bool true), (10, rv)] (fun _ => [Ap 5 1 encB av b, DG q d rv b, Ap 9 1 encKs wv ss, Ap 9 1 encKs lv ss, Ao p d]) (by kernel_rfl) (by kernel_rfl) ⟨rfl, rfl, rfl, rfl, rfl, rfl, rfl, rfl, rfl, rfl, rfl, rfl, rfl, rfl, rfl, rfl, rfl, rfl, rfl, rfl, rfl, rfl, rfl, rfl, rfl, rfl, rfl, rfl, rfl, rfl, trivial⟩ rfl ?_ ?_
  refine Aa (by exact ⟨rfl, fun b w hH hb => Ae Ah rfl hb⟩) (Aa (by exact ⟨rfl, fun b w hH hb => Ae Ah rfl hb⟩) (Aa (by exact ⟨rfl, fun b w hH hb => Kl 3 E1 GW rfl i hi rfl rfl rfl hH hb⟩) (Aa (by exact ⟨rfl, fun b w hH hb => Iq 3 AX GW rfl i (a := n) hni rfl rfl rfl hH hb⟩) (Aa (by exact ⟨rfl, fun b w hH hb => Ae Ah rfl hb⟩) (Aa (by exact ⟨rfl, fun b w hH hb => Ae Ah rfl hb⟩) (Aa (by exact ⟨rfl, fun b w hH hb => Kl 2 E1 GW rfl i hi rfl rfl rfl hH hb⟩) (Aa (by exact ⟨rfl, fun b w hH hb => Iq 2 AX GW rfl i (a := n) hni rfl rfl rfl hH hb⟩) (Aa (by exact ⟨rfl, fun b w hH hb => Hf (by simp) rfl rfl rfl hb⟩) (Aa (by exact ⟨rfl, fun b w hH hb => Ae Ah rfl hb⟩) ?_)))))))))
  refine Aa (by exact ⟨rfl, fun b w hH hb => Ae Ah rfl hb⟩) (Aa (by exact ⟨rfl, fun b w hH hb => G9 Tryz.underlying32 Tryz.underlying5 (by kernel_rfl) Tryz.underlying9 (hH.sl8 0 rfl) rfl rfl hb⟩) (Aa (by exact ⟨rfl, fun b w hH hb => Ae Ah rfl hb⟩) (Aa (by exact ⟨rfl, fun b w hH hb => G9 Tryz.underlying32 Tryz.underlying5 (by kernel_rfl) Tryz.underlying9 ((hH.rd8 1 rfl FO)) rfl rfl hb⟩) (Aa (by exact ⟨rfl, fun b w hH hb => Hf (by simp) rfl rfl rfl hb⟩) (Aa (by exact ⟨rfl, fun b w hH hb => Ae Ah rfl hb⟩) ?_)))))
  exact Cf
  refine Ce.keep (env' := [(0, .pointer (some ⟨p, 0, none⟩)), (1, .pointer (some ⟨q, 0, none⟩)), (4, .bool false), (5, lv), (6, wv), (7, .int .i64 ((i : Nat) : Int)), (47, .int .i64 ((i : Nat) : Int)), (48, lv), (49, .int .i64 (ss.length : Int)), (50, .bool true), (54, .pointer (some ⟨p, 0, none⟩)), (55, wv), (56, .int .i64 ((i : Nat) : Int)), (57, Cs wv (i * 1)), (58, .string (bs n)), (59, .tuple #[av, .bool true]), (53, .tuple #[av, .bool true]), (60, av), (61, .bool true), (8, av), (63, .pointer (some ⟨q, 0, none⟩)), (64, wv), (65, .int .i64 ((i : Nat) : Int)), (66, Cs wv (i * 1)), (67, .string (bs n)), (68, .tuple #[rv, .bool true]), (62, .tuple #[rv, .bool true]), (69, rv), (70, .bool true), (10, rv), (71, lv), (72, .int .i64 ((i : Nat) : Int)), (73, Cs lv (i * 1)), (74, .string (bs n)), (75, wv), (76, .int .i64 ((i : Nat) : Int)), (77, Cs wv (i * 1)), (78, .string (bs n)), (79, .bool false), (80, .bool false), (81, av), (82, .string (bs b)), (83, rv), (84, .string (bs b)), (85, .bool false), (86, .bool false)]) ⟨rfl, rfl, rfl, rfl, rfl, rfl, rfl, rfl, rfl, rfl, rfl, rfl, rfl, rfl, rfl, rfl, rfl, rfl, rfl, rfl, rfl, rfl, rfl, rfl, rfl, rfl, rfl, rfl, rfl, rfl, rfl, rfl, rfl, rfl, rfl, rfl, rfl, rfl, rfl, rfl, rfl, rfl, rfl, rfl, rfl, rfl, trivial⟩ (Bi (AO (Aw rfl (AC (B3 (AO (Bk [1] rfl E3 rfl (Bv.leave [1] rfl rfl (BV (Af Ah rfl (Ac rfl (.int .i64 ((i + 1 : Nat) : Int)) (fun b w hb hH => AS rfl rfl rfl rfl (by rw [IntWalk.i64_in _ (by omega)]; omega) hb) (Af Ah rfl (Bi ?_)))))))))))))
  exact CM (i + 1) 0 hi (show ss.length - (i + 1) < ss.length - i by omega) ⟨rfl, rfl, rfl, rfl, rfl, rfl, trivial⟩ rfl
  refine Ad (Af Ah rfl (Ac rfl (.int .i64 (ss.length : Int)) (fun b w hb hH => EI 2 Tryz.underlying93 rfl rfl rfl hH hb) (Ac rfl (.bool false) (fun b w hb hH => Bc rfl rfl rfl (B9 (by omega)) hb) (Ab (Aw rfl (CQ (FR (FR (Br (AO (Ad (Af Ah rfl (Ab (Av ?_))))))))))))))
  exact As (.tmp rfl) (fun w h => AG () rfl [3, 0] rfl h CV) rfl
theorem Vm {p q : Nat} {d : DiskD} (hdn : d.down = true) : AW Tryz.prog 19 #[.pointer (some ⟨p, 0, none⟩), .pointer (some ⟨q, 0, none⟩)] [Ao p d, AB q d] (fun (_ : Unit) => .bool true) (fun (_ : Unit) => [Ao p d, AB q d]) := by
  refine Be (args := [.pointer (some ⟨p, 0, none⟩), .pointer (some ⟨q, 0, none⟩)]) 87 Tryz.func19 rfl rfl rfl ?_; intro w rs
  obtain ⟨fu, hfu⟩ : ∃ fu, d.fuse.isSome = fu := ⟨_, rfl⟩
  refine Ad (Af Ah rfl (Ab (Ad (Af Ah rfl (Aj rfl (Am (os' := fun lv => [Ap 9 1 encKs lv ([] : List (List UInt8)), Ao p d, AB q d]) [0] 0 (Ag Tryz.func53 (by kernel_rfl) rfl) (Pw hdn) rfl rfl rfl (fun _ => rfl) rfl rfl rfl) ?_))))); rintro lv
  refine Af Ah rfl (Ab (Ad (Af Ah rfl (Aj rfl (Am (os' := fun wv => [Ap 9 1 encKs wv ([] : List (List UInt8)), Ap 9 1 encKs lv ([] : List (List UInt8)), Ao p d, AB q d]) [2] 0 (Ag Tryz.func54 (by kernel_rfl) rfl) (Ss (p := q) hdn) rfl rfl rfl (fun _ => rfl) rfl rfl rfl) ?_)))); rintro wv
  refine Af Ah rfl (Ab (Aq (Bd 3 rfl (Dl hfu hdn) (fun _ => rfl) ?_))); rintro x
  have hwl := x.wlen
  refine Aq ?_
  refine BK 31 4 [⟨.quiet, [none, none, none, none], fun _ => lv, []⟩, ⟨.quiet, [none, none, none, none], fun _ => .int .i64 (([] : List (List UInt8)).length : Int), [0]⟩, ⟨.quiet, [none, none, none, none], fun _ => wv, []⟩, ⟨.quiet, [none, none, none, none], fun _ => .int .i64 (([] : List (List UInt8)).length : Int), [2]⟩, ⟨.quiet, [none, none, none, none], fun _ => .bool false, [1, 3]⟩, ⟨.quiet, [none, none, none, none], fun _ => .bool false, [4]⟩, ⟨.quiet, [none, none, none, none], fun _ => .pointer (some ⟨p, 0, none⟩), [5]⟩, ⟨.actv 0, [some false, some false, some false, some false], fun _ => .int .i64 0, [6, 5]⟩, ⟨.quiet, [none, none, none, none], fun _ => .pointer (some ⟨q, 0, none⟩), [5]⟩, ⟨.actv 1, [some true, some false, some false, some false], fun _ => .int .i64 0, [8, 5]⟩, ⟨.quiet, [some true, some true, none, none], fun _ => .bool false, [7, 9, 5]⟩, ⟨.quiet, [some true, some true, none, none], fun _ => .bool false, [5, 10]⟩, ⟨.quiet, [some true, some true, none, none], fun _ => .bool false, [11]⟩, ⟨.quiet, [some true, some true, none, none], fun _ => .pointer (some ⟨p, 0, none⟩), [12]⟩, ⟨.actv 2, [some true, some true, some false, some false], fun _ => .int .i64 (d.wait.length : Int), [13, 12]⟩, ⟨.quiet, [some true, some true, none, none], fun _ => .pointer (some ⟨q, 0, none⟩), [12]⟩, ⟨.quiet, [some true, some true, none, none], fun _ => .pointer (some ⟨q, 0, none⟩), [15, 12]⟩, ⟨.quiet, [some true, some true, none, none], fun _ => .pointer (some ⟨q, 3, none⟩), [16, 12]⟩, ⟨.quiet, [some true, some true, none, none], fun _ => x.wv, [17, 12]⟩, ⟨.quiet, [some true, some true, none, none], fun _ => .int .i64 (x.W.length : Int), [18, 12]⟩, ⟨.quiet, [some true, some true, some true, none], fun _ => .bool false, [14, 19, 12]⟩, ⟨.quiet, [some true, some true, some true, none], fun _ => .bool false, [12, 20]⟩, ⟨.quiet, [some true, some true, some true, none], fun _ => .bool false, [21]⟩, ⟨.quiet, [some true, some true, some true, none], fun _ => .pointer (some ⟨p, 0, none⟩), [22]⟩, ⟨.actv 3, [some true, some true, some true, some false], fun _ => .bool true, [23, 22]⟩, ⟨.quiet, [some true, some true, some true, none], fun _ => .pointer (some ⟨q, 0, none⟩), [22]⟩, ⟨.quiet, [some true, some true, some true, none], fun _ => .pointer (some ⟨q, 0, none⟩), [25, 22]⟩, ⟨.quiet, [some true, some true, some true, none], fun _ => .pointer (some ⟨q, 6, none⟩), [26, 22]⟩, ⟨.quiet, [some true, some true, some true, none], fun _ => .bool true, [27, 22]⟩, ⟨.quiet, [some true, some true, some true, some true], fun _ => .bool false, [24, 28, 22]⟩, ⟨.quiet, [some true, some true, some true, some true], fun _ => .bool false, [22, 29]⟩] [(0, .pointer (some ⟨p, 0, none⟩)), (1, .pointer (some ⟨q, 0, none⟩)), (4, .bool false), (5, lv), (6, wv)] (fun ρ => match ρ with | [r0, r1, r2, r3] => [cell q 61 #[.int .i64 d.room, x.sv, x.nv, x.wv, .bool fu, .int .i64 x.fz, .bool true], x.F, x.Y, Ap 107 5 encRO x.wv x.W, Ap 9 1 encKs wv ([] : List (List UInt8)), Ap 9 1 encKs lv ([] : List (List UInt8)), Ao p d] | _ => []) (by kernel_rfl) (by kernel_rfl) ⟨rfl, rfl, rfl, rfl, rfl, trivial⟩ rfl ?_ ?_
  refine Aa (by intro r0_ r1_ r2_ r3_; exact ⟨rfl, fun b w hH hb => Ae Ah rfl hb⟩) (Aa (by intro r0_ r1_ r2_ r3_; exact ⟨rfl, fun b w hH hb => EI 5 Tryz.underlying93 rfl rfl rfl hH hb⟩) (Aa (by intro r0_ r1_ r2_ r3_; exact ⟨rfl, fun b w hH hb => Ae Ah rfl hb⟩) (Aa (by intro r0_ r1_ r2_ r3_; exact ⟨rfl, fun b w hH hb => EI 4 Tryz.underlying93 rfl rfl rfl hH hb⟩) (Aa (by intro r0_ r1_ r2_ r3_; exact ⟨rfl, fun b w hH hb => Bc rfl rfl rfl (AK (by simp)) hb⟩) (Aa (by intro r0_ r1_ r2_ r3_; exact ⟨rfl, fun b w hH hb => Ae Ah rfl hb⟩) (Aa (by intro r0_ r1_ r2_ r3_; exact ⟨rfl, fun b w hH hb => Ae Ah rfl hb⟩) (Aa (by exact ⟨rfl, Bq.su (Am (os' := fun _ => [cell q 61 #[.int .i64 d.room, x.sv, x.nv, x.wv, .bool fu, .int .i64 x.fz, .bool true], x.F, x.Y, Ap 107 5 encRO x.wv x.W, Ap 9 1 encKs wv ([] : List (List UInt8)), Ap 9 1 encKs lv ([] : List (List UInt8)), Ao p d]) [6] 0 (Ag Tryz.func55 (by kernel_rfl) rfl) (M4 hdn) rfl rfl rfl (fun _ => rfl) rfl rfl rfl) rfl⟩) (Aa (by intro r0_ r1_ r2_ r3_; exact ⟨rfl, fun b w hH hb => Ae Ah rfl hb⟩) (Aa (by intro v0_; exact ⟨rfl, Bq.su (Am (os' := fun _ => [cell q 61 #[.int .i64 d.room, x.sv, x.nv, x.wv, .bool fu, .int .i64 x.fz, .bool true], x.F, x.Y, Ap 107 5 encRO x.wv x.W, Ap 9 1 encKs wv ([] : List (List UInt8)), Ap 9 1 encKs lv ([] : List (List UInt8)), Ao p d]) [0, 1] 0 (Ag Tryz.func56 (by kernel_rfl) rfl) (Sr x) rfl rfl rfl (fun _ => rfl) rfl rfl rfl) rfl⟩) ?_)))))))))
  refine Aa (by intro v0_ v1_ r2_ r3_; exact ⟨rfl, fun b w hH hb => Bc rfl rfl rfl (AK (by omega)) hb⟩) (Aa (by intro v0_ v1_ r2_ r3_; exact ⟨rfl, fun b w hH hb => Ae Ah rfl hb⟩) (Aa (by intro v0_ v1_ r2_ r3_; exact ⟨rfl, fun b w hH hb => Ae Ah rfl hb⟩) (Aa (by intro v0_ v1_ r2_ r3_; exact ⟨rfl, fun b w hH hb => Ae Ah rfl hb⟩) (Aa (by intro v0_ v1_; exact ⟨rfl, Bq.su (Am (os' := fun _ => [cell q 61 #[.int .i64 d.room, x.sv, x.nv, x.wv, .bool fu, .int .i64 x.fz, .bool true], x.F, x.Y, Ap 107 5 encRO x.wv x.W, Ap 9 1 encKs wv ([] : List (List UInt8)), Ap 9 1 encKs lv ([] : List (List UInt8)), Ao p d]) [6] 0 (Ag Tryz.func57 (by kernel_rfl) rfl) (IR rfl) rfl rfl rfl (fun _ => rfl) rfl rfl rfl) rfl⟩) (Aa (by intro v0_ v1_ r2_ r3_; exact ⟨rfl, fun b w hH hb => Ae Ah rfl hb⟩) (Aa (by intro v0_ v1_ r2_ r3_; exact ⟨rfl, fun b w hH hb => by exact BQ rfl rfl hb⟩) (Aa (by intro v0_ v1_ r2_ r3_; exact ⟨rfl, fun b w hH hb => Ae Ah rfl hb⟩) (Aa (by intro v0_ v1_ r2_ r3_; exact ⟨rfl, fun b w hH hb => Bb rfl rfl (Bn CE rfl) (hH.row 0 rfl) hb⟩) (Aa (by intro v0_ v1_ r2_ r3_; exact ⟨rfl, fun b w hH hb => EI 3 Tryz.underlying59 rfl rfl rfl hH hb⟩) ?_)))))))))
  refine Aa (by intro v0_ v1_ v2_ r3_; exact ⟨rfl, fun b w hH hb => Bc rfl rfl rfl (AK (by omega)) hb⟩) (Aa (by intro v0_ v1_ v2_ r3_; exact ⟨rfl, fun b w hH hb => Ae Ah rfl hb⟩) (Aa (by intro v0_ v1_ v2_ r3_; exact ⟨rfl, fun b w hH hb => Ae Ah rfl hb⟩) (Aa (by intro v0_ v1_ v2_ r3_; exact ⟨rfl, fun b w hH hb => Ae Ah rfl hb⟩) (Aa (by intro v0_ v1_ v2_; exact ⟨rfl, Bq.su (Am (os' := fun _ => [cell q 61 #[.int .i64 d.room, x.sv, x.nv, x.wv, .bool fu, .int .i64 x.fz, .bool true], x.F, x.Y, Ap 107 5 encRO x.wv x.W, Ap 9 1 encKs wv ([] : List (List UInt8)), Ap 9 1 encKs lv ([] : List (List UInt8)), Ao p d]) [6] 0 (Ag Tryz.func58 (by kernel_rfl) rfl) (LO hdn) rfl rfl rfl (fun _ => rfl) rfl rfl rfl) rfl⟩) (Aa (by intro v0_ v1_ v2_ r3_; exact ⟨rfl, fun b w hH hb => Ae Ah rfl hb⟩) (Aa (by intro v0_ v1_ v2_ r3_; exact ⟨rfl, fun b w hH hb => by exact BQ rfl rfl hb⟩) (Aa (by intro v0_ v1_ v2_ r3_; exact ⟨rfl, fun b w hH hb => Ae Ah rfl hb⟩) (Aa (by intro v0_ v1_ v2_ r3_; exact ⟨rfl, fun b w hH hb => Bb rfl rfl (Bn BP rfl) (hH.row 0 rfl) hb⟩) (Aa (by intro v0_ v1_ v2_ v3_; exact ⟨rfl, fun b w hH hb => No (Xp true true) rfl rfl rfl hb⟩) ?_)))))))))
  refine Aa (by intro v0_ v1_ v2_ v3_; exact ⟨rfl, fun b w hH hb => Ae Ah rfl hb⟩) ?_
  exact Cf
  intro v0_ v1_ v2_ v3_
  refine Ce.keep (env' := [(0, .pointer (some ⟨p, 0, none⟩)), (1, .pointer (some ⟨q, 0, none⟩)), (4, .bool false), (5, lv), (6, wv), (46, .bool false)]) ⟨rfl, rfl, rfl, rfl, rfl, rfl, trivial⟩ (Bi (AO (Aw rfl (AC (AO (Aq (Ad (Af Ah rfl (Ab (Bm (Bk [0, 1, 2, 3] rfl (Cz (p := q) x hfu hdn) rfl (C9 (α := Nat) (fun i => [(0, .pointer (some ⟨p, 0, none⟩)), (1, .pointer (some ⟨q, 0, none⟩)), (4, .bool false), (5, lv), (6, wv), (7, .int .i64 ((i : Nat) : Int))]) (fun i => [AB q d, Ap 9 1 encKs wv ([] : List (List UInt8)), Ap 9 1 encKs lv ([] : List (List UInt8)), Ao p d]) (fun i => i = 0) (fun i => i) 0 rfl ⟨rfl, rfl, rfl, rfl, rfl, rfl, trivial⟩ rfl ?_))))))))))))
  rintro i hI
  refine Bv.at_ (env' := [(0, .pointer (some ⟨p, 0, none⟩)), (1, .pointer (some ⟨q, 0, none⟩)), (4, .bool false), (5, lv), (6, wv), (7, .int .i64 ((i : Nat) : Int))]) (rs' := [AB q d, Ap 9 1 encKs wv ([] : List (List UInt8)), Ap 9 1 encKs lv ([] : List (List UInt8)), Ao p d]) ⟨rfl, rfl, rfl, rfl, rfl, rfl, trivial⟩ rfl (Aq (Ad (Af Ah rfl (Ac rfl (.int .i64 (([] : List (List UInt8)).length : Int)) (fun b w hb hH => EI 2 Tryz.underlying93 rfl rfl rfl hH hb) (Ac rfl (.bool false) (fun b w hb hH => Bc rfl rfl rfl (B9 (by simp only [List.length_nil]; omega)) hb) (Ab (Aw rfl (CQ (FR (FR (Br (AO (Ad (Af Ah rfl (Ab (Av ?_))))))))))))))))
  exact As (.tmp rfl) (fun w h => AG () rfl [3, 0] rfl h CV) rfl
theorem L6 {p q : Nat} {d : DiskD} (hf : d.fit) : AW Tryz.prog 19 #[.pointer (some ⟨p, 0, none⟩), .pointer (some ⟨q, 0, none⟩)] [Ao p d, AB q d] (fun _ : Unit => .bool true) (fun _ => [Ao p d, AB q d]) := by
  cases h : d.down with
  | false => exact Vl hf h
  | true => exact Vm h
end Go.Proofs.YtjcfimmcogkopaaGreat.Sep
