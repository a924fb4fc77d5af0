/-
  HdU · RdkE · HdS
-/
import Derived.Test.YtnknboibmifacaaGreatYB02
import Derived.Test.YtnknboibmifacaaGreatYD01
import Derived.Test.YtnknboibmifacaaGreatYE01
import Derived.Test.YtnknboibmifacaaGreatYE02
import Derived.Test.YtnknboibmifacaaGreatYF01
import Derived.Test.YtnknboibmifacaaGreatYJ01
import Derived.Test.YtnknboibmifacaaGreatYN01
import Derived.Test.YtnknboibmifacaaGreatYO01
import Derived.Laws.IdiomRangeMap
set_option linter.unusedSimpArgs false
set_option linter.unusedVariables false
set_option maxRecDepth 100000
namespace Go.Proofs.YtnknboibmifacaaGreat.Sep
open Go.RowKit
open Go.Proofs.YtnknboibmifacaaGreat.Mem (Bd Cj Chg AF)
theorem RG {p : Nat} {w : World} {a b c pv sm : Value} (hr : w.heap[p]? = some (.cells #[a, b, c, pv, sm, .map none] 67 (0, 0))) : Calls Tryz.prog 50 #[.pointer (some ⟨p, 0, none⟩)] w fun e w' => e = .returned (.int .i64 0) ∧ Below w.heap.size w w' := by
 have hrg := run_range_nilMap (P := Tryz.prog) w 65 9 48 Tryz.underlying65
 have hnx : ∀ ty, (Instr.next (.pointer (some ⟨w.heap.size, 0, none⟩)) false ty).run Tryz.prog (w.alloc (.mapIter none 0 #[] 0)) = _ := fun ty => run_next_nilMap w ty 0 0 #[]
 have hc : w.cell? ⟨p, 5, none⟩ = some (.map none) := by simp [World.cell?, hr]
 go_enter Tryz.func50, Tryz.ntmps50
 go_wp2
 refine wp_loop_rounds 1 ?_
 rw [rounds_succ]
 go_wp2
 go_ret
 exact ⟨rfl, (Below.refl _ w).alloc (Nat.le_refl _) _⟩
theorem RH {p : Nat} {d : DiskD} {k : Nat} (hdn : d.down = false) (hfit : d.fit) (h : PU d = k) : AS Tryz.prog 50 #[.pointer (some ⟨p, 0, none⟩)] [Ap p d] (fun (_ : Unit) => .int .i64 (k : Int)) (fun (_ : Unit) => [Ap p d]) := by
  refine A6 (args := [.pointer (some ⟨p, 0, none⟩)]) 20 Tryz.func50 rfl rfl rfl ?_; intro w rs
  refine AY 0 rfl (CW hdn) (fun _ => rfl) ?_; rintro x
  refine Bo.fact 3 rfl Bx ?_; rintro hsn
  refine Bo.fact 4 rfl BK ?_; rintro hgn
  have hpu : AE (B6 x.L) ≤ 1099511627776 := by rw [C9 x.hg]; exact H7 hfit hsn x.hok
  have hk_ : AE (B6 x.L) = k := by rw [← h]; unfold PU; rw [hdn, if_neg (by simp)]; exact C9 x.hg
  refine Ad ?_
  refine Af Aj rfl ?_
  refine Ab (Ad ?_)
  refine Af Aj rfl ?_
  refine Ab (Aq (Ad ?_))
  refine Af Aj rfl ?_
  refine Ac rfl (.pointer (some ⟨p, 0, none⟩)) (fun b w hb hH => by exact BO rfl rfl hb) ?_
  refine Af Aj rfl ?_
  refine Ac rfl (x.sh) (fun b w hb hH => Bg rfl rfl (Bt AJ rfl) (hH.row 0 rfl) hb) ?_
  refine Ai (post := fun g1 => [cell p 67 #[.int .i64 d.room, .int .i64 (CV d.fuse), .bool false, x.pv, x.sm, x.sh], Ao 99 5 encO x.pv x.W, BF x.W, Av x.sm d.syn, Fy encKey AH x.sh (.pointer (some ⟨g1, 0, none⟩)) x.L x.L none, Bn x.L]) rfl (Mm 4 Tryz.underlying65 rfl rfl rfl) ?_; rintro g1
  refine Ab (AX ?_)
  refine CE (α := Nat × FilL × Option (List UInt8 × PtT)) (fun ⟨n, left, cur⟩ => [(2, .int .i64 0), (3, .int .i64 ((n : Nat) : Int)), (10, .pointer (some ⟨g1, 0, none⟩))]) (fun ⟨n, left, cur⟩ => [cell p 67 #[.int .i64 d.room, .int .i64 (CV d.fuse), .bool false, x.pv, x.sm, x.sh], Ao 99 5 encO x.pv x.W, BF x.W, Av x.sm d.syn, Fy encKey AH x.sh (.pointer (some ⟨g1, 0, none⟩)) x.L left cur, Bn x.L]) (fun ⟨n, left, cur⟩ => n + AE (B6 left) = AE (B6 x.L) ∧ ∀ p, p ∈ left → p ∈ x.L) (fun ⟨n, left, cur⟩ => left.length) (0, x.L, none) ⟨Nat.zero_add _, fun _ h => h⟩ ⟨rfl, rfl, rfl, trivial⟩ rfl ?_
  rintro ⟨n, left, cur⟩ hI
  refine Bo.at_ (env' := [(2, .int .i64 0), (3, .int .i64 ((n : Nat) : Int)), (10, .pointer (some ⟨g1, 0, none⟩))]) (rs' := [cell p 67 #[.int .i64 d.room, .int .i64 (CV d.fuse), .bool false, x.pv, x.sm, x.sh], Ao 99 5 encO x.pv x.W, BF x.W, Av x.sm d.syn, Fy encKey AH x.sh (.pointer (some ⟨g1, 0, none⟩)) x.L left cur, Bn x.L]) ⟨rfl, rfl, rfl, trivial⟩ rfl ?_
  have hI1 : n + AE (B6 left) = AE (B6 x.L) := hI.1
  rcases Classical.em (left = []) with hc | hc
  · skip
    have hn : n = k := by rw [hc] at hI1; rw [← hk_]; simpa [B6, AE] using hI1
    refine Ad ?_
    refine Af Aj rfl ?_
    refine Ac rfl (.tuple #[.bool false]) (fun b w hb hH => Mn 4 rfl hc rfl rfl hH hb) ?_
    refine Af Aj rfl ?_
    refine Ab (Aq (Au rfl (Cu (EO (EO (Bc (AG ?_)))))))
    refine AY 4 rfl Jf (fun _ => rfl) ?_; rintro ⟨⟩
    refine Bo.leave [1] rfl rfl ?_
    refine Ad ?_
    refine Af Aj rfl ?_
    refine Ab (Az ?_)
    exact Ay (.tmp rfl) (fun w h => AB () (by rw [hn]) [1, 2, 3, 4, 0, 5] rfl h (CG (os := []) x hdn)) rfl
  · skip
    refine Ad ?_
    refine Af Aj rfl ?_
    refine Ai (post := fun q : { q : Nat × List UInt8 × PtT // (left)[q.1]? = some q.2 } => [cell p 67 #[.int .i64 d.room, .int .i64 (CV d.fuse), .bool false, x.pv, x.sm, x.sh], Ao 99 5 encO x.pv x.W, BF x.W, Av x.sm d.syn, Fy encKey AH x.sh (.pointer (some ⟨g1, 0, none⟩)) x.L (left.eraseIdx q.1.1) (some (q.1.2.1, q.1.2.2)), Bn x.L]) rfl (Mo 4 rfl hc rfl rfl) ?_; rintro q
    refine Af Aj rfl ?_
    refine Ab (Aq (AD rfl (Ax (AG (AX ?_)))))
    have hqm : q.1.2 ∈ x.L := hI.2 _ (List.mem_of_getElem? q.2)
    have hqu : AE (B6 (left.eraseIdx q.1.1)) + q.1.2.2.2.length = AE (B6 left) := KL q.2
    refine Ad ?_
    refine Af Aj rfl ?_
    refine Ac rfl (.tuple #[.string (bs q.1.2.1), q.1.2.2.1]) (fun b w hb hH => Mp 4 rfl rfl rfl hH hb) ?_
    refine Af Aj rfl ?_
    refine Ab (BI ?_)
    refine Af Aj rfl ?_
    refine Ac rfl (.int .i64 (q.1.2.2.2.length : Int)) (fun b w hb hH => AQ ((hH.rd8 5 rfl (G9 hqm)).rd) Tryz.underlying48 rfl rfl hb) ?_
    refine Ac rfl (.int .i64 ((n + q.1.2.2.2.length : Nat) : Int)) (fun b w hb hH => AK rfl rfl rfl rfl (by rw [IntWalk.i64_in _ (by omega)]; omega) hb) ?_
    refine Af Aj rfl ?_
    refine AP (BJ ?_)
    exact Cr (n + q.1.2.2.2.length, left.eraseIdx q.1.1, some (q.1.2.1, q.1.2.2)) 0 ⟨by omega, fun p hp => hI.2 p (List.mem_of_mem_eraseIdx hp)⟩ (show (left.eraseIdx q.1.1).length < left.length from H4 q.2) ⟨rfl, rfl, rfl, trivial⟩ rfl
theorem MM {p : Nat} {d : DiskD} (h : d.down = true) : AS Tryz.prog 50 #[.pointer (some ⟨p, 0, none⟩)] [Ap p d] (fun (_ : Unit) => .int .i64 0) (fun (_ : Unit) => [Ap p d]) := fun w rs h1 h2 h3 => by
  have hrs : Ap p d rs := h1.one'
  obtain ⟨x, hx⟩ := J3 h rs hrs
  obtain ⟨r1, r2, rfl, hc, _⟩ := hx
  have hrow : w.heap[p]? = some (.cells #[.int .i64 d.room, .int .i64 (CV d.fuse), .bool true, x.pv, x.sm, .map none] 67 (0, 0)) := by
    have h4 : r1 = [(p, EZ 67, #[.int .i64 d.room, .int .i64 (CV d.fuse), .bool true, x.pv, x.sm, .map none])] := hc
    subst h4
    exact AN.1 h2 (p, EZ 67, #[.int .i64 d.room, .int .i64 (CV d.fuse), .bool true, x.pv, x.sm, .map none]) (List.mem_append_left _ (List.mem_singleton.2 rfl))
  refine (RG hrow).mono fun e w' ⟨he, hb⟩ => ⟨(), he, r1 ++ r2, h1, ?_⟩
  have h5 := G8 (rs' := []) h2 h3 hb trivial trivial (fun _ h => nomatch h)
  rwa [List.append_nil] at h5
end Go.Proofs.YtnknboibmifacaaGreat.Sep
namespace Go.Proofs.YtnknboibmifacaaGreat.Sep
open Go.RowKit
open Go.Proofs.YtnknboibmifacaaGreat.Mem (Bd Cj Chg AF)
theorem UA {p : Nat} {d : DiskD} (x : RDk d) {v : Value} {b : List UInt8} {fu dn : Bool} (hfu : d.fuse.isSome = fu) (hdn : d.down = dn) (hv : Cw x.Y v b) (hs : ∃ A c, v = .slice A b.length c) : ∀ rs, Al [cell p 59 #[.int .i64 d.room, x.sv, x.nv, x.wv, .bool fu, .int .i64 x.fz, .bool dn], x.F, x.Y, Ao 103 5 encRO x.wv x.W] rs → B8 p d v b rs := fun rs h => ⟨x, ⟨hv, hs⟩, by subst hfu; subst hdn; exact h⟩
theorem Tz {p : Nat} {d : DiskD} {n : List UInt8} (hr : BB d n = none) : AS Tryz.prog 37 #[.pointer (some ⟨p, 0, none⟩), .string (bs n)] [AA p d] (fun (_ : Unit) => .tuple #[.slice none 0 0, .bool false]) (fun (_ : Unit) => [AA p d]) := by
  refine A6 (args := [.pointer (some ⟨p, 0, none⟩), .string (bs n)]) 29 Tryz.func37 rfl rfl rfl ?_; intro w rs
  obtain ⟨fu, hfu⟩ : ∃ fu, d.fuse.isSome = fu := ⟨_, rfl⟩
  have hn64 : True := trivial
  refine Ad ?_
  refine Af Ag rfl ?_
  refine Ab ?_
  rcases hdn : d.down with _ | _
  · skip
    refine AY 0 rfl (CX hfu hdn) (fun _ => rfl) ?_; rintro x
    have hn64 := x.nlen
    have hg : AL d.now n = none := by unfold BB at hr; rwa [hdn, if_neg (by simp)] at hr
    have hno := x.no_ hg
    refine Ad ?_
    refine Af Ag rfl ?_
    refine Ac rfl (.pointer (some ⟨p, 0, none⟩)) (fun b w hb hH => by exact BO rfl rfl hb) ?_
    refine Af Ag rfl ?_
    refine Ac rfl (x.nv) (fun b w hb hH => Bg rfl rfl (Bt Aw rfl) (hH.row 0 rfl) hb) ?_
    refine Af Ag rfl ?_
    refine Ai rfl (Am (os' := fun _ => [cell p 59 #[.int .i64 d.room, x.sv, x.nv, x.wv, .bool fu, .int .i64 x.fz, .bool false], x.F, x.Y, Ao 103 5 encRO x.wv x.W]) [1] 0 (Ah Tryz.func61 (by kernel_rfl) rfl) (Dw x.rn (by omega) hno) rfl rfl rfl (fun _ => rfl) rfl rfl rfl) ?_; rintro ⟨⟩
    refine Af Ag rfl ?_
    refine Ab (Aq (Ad ?_))
    refine Af Ag rfl ?_
    refine Ac rfl (.pointer (some ⟨p, 0, none⟩)) (fun b w hb hH => by exact BO rfl rfl hb) ?_
    refine Af Ag rfl ?_
    refine Ac rfl (.bool false) (fun b w hb hH => Bg rfl rfl (Bt BN rfl) (hH.row 0 rfl) hb) ?_
    refine Af Ag rfl ?_
    refine Ac rfl (.bool true) (fun b w hb hH => Bh rfl rfl rfl (Bl (by omega)) hb) ?_
    refine Af Ag rfl ?_
    refine Ab (AD rfl ?_)
    refine Bf [0, 1, 2, 3] rfl (Ce x hfu hdn) rfl ?_
    refine Ad ?_
    refine Af Ag rfl ?_
    refine Ab (Az (CO ?_))
    exact BX (.tmp rfl) (.tmp rfl) (fun w h => AB () rfl [0] rfl h Cz) rfl
  · skip
    refine AY 0 rfl (CX hfu hdn) (fun _ => rfl) ?_; rintro x
    have hn64 := x.nlen
    obtain ⟨j, hfj⟩ : ∃ j : Int, AS Tryz.prog 61 #[x.nv, .string (bs n)] [x.F] (fun (_ : Unit) => .int .i64 j) (fun (_ : Unit) => [x.F]) := (x.at_ n).elim (fun ⟨j, q, hj, hq, hlt, _, _⟩ => ⟨_, C6 x.rn (by omega) hj hq hlt⟩) (fun ⟨hno, _⟩ => ⟨_, Dw x.rn (by omega) hno⟩)
    refine Ad ?_
    refine Af Ag rfl ?_
    refine Ac rfl (.pointer (some ⟨p, 0, none⟩)) (fun b w hb hH => by exact BO rfl rfl hb) ?_
    refine Af Ag rfl ?_
    refine Ac rfl (x.nv) (fun b w hb hH => Bg rfl rfl (Bt Aw rfl) (hH.row 0 rfl) hb) ?_
    refine Af Ag rfl ?_
    refine Ai rfl (Am (os' := fun _ => [cell p 59 #[.int .i64 d.room, x.sv, x.nv, x.wv, .bool fu, .int .i64 x.fz, .bool true], x.F, x.Y, Ao 103 5 encRO x.wv x.W]) [1] 0 (Ah Tryz.func61 (by kernel_rfl) rfl) (hfj) rfl rfl rfl (fun _ => rfl) rfl rfl rfl) ?_; rintro ⟨⟩
    refine Af Ag rfl ?_
    refine Ab (Aq (Ad ?_))
    refine Af Ag rfl ?_
    refine Ac rfl (.pointer (some ⟨p, 0, none⟩)) (fun b w hb hH => by exact BO rfl rfl hb) ?_
    refine Af Ag rfl ?_
    refine Ac rfl (.bool true) (fun b w hb hH => Bg rfl rfl (Bt BN rfl) (hH.row 0 rfl) hb) ?_
    refine Af Ag rfl ?_
    refine Ab (AD rfl ?_)
    refine Bf [0, 1, 2, 3] rfl (Ce x hfu hdn) rfl ?_
    refine Ad ?_
    refine Af Ag rfl ?_
    refine Ab (Az (CO ?_))
    exact BX (.tmp rfl) (.tmp rfl) (fun w h => AB () rfl [0] rfl h Cz) rfl
theorem LY {p : Nat} {d : DiskD} {n b : List UInt8} (hr : BB d n = some b) : AS Tryz.prog 37 #[.pointer (some ⟨p, 0, none⟩), .string (bs n)] [AA p d] (fun (v : Value) => .tuple #[v, .bool true]) (fun (v : Value) => [B8 p d v b]) := by
 refine A6 (args := [.pointer (some ⟨p, 0, none⟩), .string (bs n)]) 29 Tryz.func37 rfl rfl rfl ?_; intro w rs
 obtain ⟨fu, hfu⟩ : ∃ fu, d.fuse.isSome = fu := ⟨_, rfl⟩
 have hdn : d.down = false := by unfold BB at hr; split at hr; cases hr; rename_i h; simpa using h
 have hg : AL d.now n = some b := by unfold BB at hr; rwa [hdn, if_neg (by simp)] at hr
 refine AY 0 rfl (CX hfu hdn) (fun _ => rfl) ?_; rintro x
 have hn64 := x.nlen
 obtain ⟨j, q, hj, hq, hlt, hqb, hm⟩ := x.yes_ hg
 subst hqb
 refine Ad ?_
 refine Af Ag rfl ?_
 refine Ab (Ad ?_)
 refine Af Ag rfl ?_
 refine Ac rfl (.pointer (some ⟨p, 0, none⟩)) (fun b w hb hH => by exact BO rfl rfl hb) ?_
 refine Af Ag rfl ?_
 refine Ac rfl (x.nv) (fun b w hb hH => Bg rfl rfl (Bt Aw rfl) (hH.row 0 rfl) hb) ?_
 refine Af Ag rfl ?_
 refine Ai rfl (Am (os' := fun _ => [cell p 59 #[.int .i64 d.room, x.sv, x.nv, x.wv, .bool fu, .int .i64 x.fz, .bool false], x.F, x.Y, Ao 103 5 encRO x.wv x.W]) [1] 0 (Ah Tryz.func61 (by kernel_rfl) rfl) (C6 x.rn (by omega) hj hq hlt) rfl rfl rfl (fun _ => rfl) rfl rfl rfl) ?_; rintro ⟨⟩
 refine Af Ag rfl ?_
 refine Ab (Aq (Ad ?_))
 refine Af Ag rfl ?_
 refine Ac rfl (.pointer (some ⟨p, 0, none⟩)) (fun b w hb hH => by exact BO rfl rfl hb) ?_
 refine Af Ag rfl ?_
 refine Ac rfl (.bool false) (fun b w hb hH => Bg rfl rfl (Bt BN rfl) (hH.row 0 rfl) hb) ?_
 refine Af Ag rfl ?_
 refine Ac rfl (.bool false) (fun b w hb hH => Bh rfl rfl rfl (Bu (by omega)) hb) ?_
 refine Af Ag rfl ?_
 refine Ab (Au rfl (Ax (AG (Ad ?_))))
 refine Af Ag rfl ?_
 refine Ac rfl (.pointer (some ⟨p, 0, none⟩)) (fun b w hb hH => by exact BO rfl rfl hb) ?_
 refine Af Ag rfl ?_
 refine Ac rfl (x.nv) (fun b w hb hH => Bg rfl rfl (Bt Aw rfl) (hH.row 0 rfl) hb) ?_
 refine Af Ag rfl ?_
 refine Ac rfl (Cc x.nv (j * 2)) (fun b w hb hH => BA BH ((hH.rdFs 1 rfl x.rn)) Ar (j := j) hj rfl rfl rfl hb) ?_
 refine Ac rfl (Cc x.nv (j * 2 + 1)) (fun b w hb hH => Lf BH (by decide) ((hH.rdFs 1 rfl x.rn)) (j := j) hj Bw rfl rfl hb) ?_
 refine Ac rfl (.slice q.A q.d.length q.c) (fun b w hb hH => Bp BH (by decide) ((hH.rdFs 1 rfl x.rn)) (j := j) hj C3 (off := 1) rfl rfl rfl hb) ?_
 refine Af Ag rfl ?_
 refine Ab (Az ?_)
 exact BX (.tmp rfl) (.tmp rfl) (fun w h => AB (X := Value) (.slice q.A q.d.length q.c) rfl [0, 1, 2, 3] rfl h (fun z hz => ⟨z, .refl _, (Al.one (UA x hfu hdn (x.yn q hm) ⟨_, _, rfl⟩ z hz))⟩)) rfl
theorem TA {p : Nat} {d : DiskD} : ∀ rs, AA p d rs → B8 p d (.slice none 0 0) [] rs := fun rs ⟨x, h⟩ => ⟨x, ⟨fun rs w _ _ => JX w, none, 0, rfl⟩, h⟩
theorem LZ {p : Nat} {d : DiskD} {n b : List UInt8} {ok : Bool} (hok : (BB d n).isSome = ok) (hb : (BB d n).getD [] = b) : AS Tryz.prog 37 #[.pointer (some ⟨p, 0, none⟩), .string (bs n)] [AA p d] (fun v : Value => .tuple #[v, .bool ok]) (fun v => [B8 p d v b]) := by
  cases e : BB d n with
  | none =>
    rw [e] at hok hb
    subst hok; subst hb
    exact (Tz e).too fun _ => ⟨_, rfl, fun rs h => ⟨rs, .refl _, Al.one (TA rs h.one')⟩⟩
  | some x =>
    rw [e] at hok hb
    subst hok; subst hb
    exact LY e
end Go.Proofs.YtnknboibmifacaaGreat.Sep
namespace Go.Proofs.YtnknboibmifacaaGreat.Sep
open Go.RowKit
open Go.Proofs.YtnknboibmifacaaGreat.Mem (Bd Cj Chg AF)
structure HarmD where
  w : Int
  a : Int
  b : Int
structure HarmD.ok (h : HarmD) : Prop where
  w : -9223372036854775808 ≤ h.w ∧ h.w ≤ 9223372036854775807
  a : -9223372036854775808 ≤ h.a ∧ h.a ≤ 9223372036854775807
  b : -9223372036854775808 ≤ h.b ∧ h.b ≤ 9223372036854775807
theorem Vz {p : Nat} {d : DiskD} : ∀ rs, AA p d rs → d.now.length ≤ 64 := fun rs ⟨x, _⟩ => x.now64.1
theorem RI {d : DiskD} {n : List UInt8} (hd : d.down = false) (h : n ∈ Er d.now) : ∃ b, BB d n = some b := by
  unfold Er at h
  have h1 : n ∈ AI d.now := (List.mergeSort_perm _ _).mem_iff.1 h
  unfold BB
  rw [hd, if_neg (by simp)]
  cases e : AL d.now n with
  | some b => exact ⟨b, rfl⟩
  | none => exact absurd h1 (CF.1 e)
theorem RJ {d : DiskD} : (Er d.now).length = d.now.length := by
 unfold Er
 rw [(List.mergeSort_perm _ _).length_eq]
 simp [AI]
theorem UB {p q : Nat} {d : DiskD} (hf : d.fit) (hdn : d.down = false) : AS Tryz.prog 18 #[.pointer (some ⟨p, 0, none⟩), .pointer (some ⟨q, 0, none⟩)] [Ap p d, AA q d] (fun (_ : Unit) => .bool true) (fun (_ : Unit) => [Ap p d, AA q d]) := by
  refine A6 (args := [.pointer (some ⟨p, 0, none⟩), .pointer (some ⟨q, 0, none⟩)]) 87 Tryz.func18 rfl rfl rfl ?_; intro w rs
  obtain ⟨fu, hfu⟩ : ∃ fu, d.fuse.isSome = fu := ⟨_, rfl⟩
  refine Bo.fact 1 rfl Vz ?_; rintro hn64
  obtain ⟨ss, hss⟩ : ∃ ss, Er d.now = ss := ⟨_, rfl⟩
  have hsl : ss.length ≤ 64 := by rw [← hss, RJ]; exact hn64
  have huse : PU d = AE d.now := by unfold PU; rw [hdn, if_neg (by simp)]
  refine Ad ?_
  refine Af Ak rfl ?_
  refine Ab (Ad ?_)
  refine Af Ak rfl ?_
  refine Ai rfl (Am (os' := fun lv => [Ao 9 1 encKs lv ss, Ap p d, AA q d]) [0] 0 (Ah Tryz.func48 (by kernel_rfl) rfl) (NI hdn (by omega) hss) rfl rfl rfl (fun _ => rfl) rfl rfl rfl) ?_; rintro lv
  refine Af Ak rfl ?_
  refine Ab (Ad ?_)
  refine Af Ak rfl ?_
  refine Ai rfl (Am (os' := fun wv => [Ao 9 1 encKs wv ss, Ao 9 1 encKs lv ss, Ap p d, AA q d]) [2] 0 (Ah Tryz.func49 (by kernel_rfl) rfl) ((hss ▸ Vy (p := q) hdn)) rfl rfl rfl (fun _ => rfl) rfl rfl rfl) ?_; rintro wv
  refine Af Ak rfl ?_
  refine Ab (Aq ?_)
  refine AY 3 rfl (CX hfu hdn) (fun _ => rfl) ?_; rintro x
  have hwl := x.wlen
  refine Aq ?_
  refine BM 31 4 [⟨.quiet, [none, none, none, none], fun _ => lv, []⟩, ⟨.quiet, [none, none, none, none], fun _ => .int .i64 (ss.length : Int), [0]⟩, ⟨.quiet, [none, none, none, none], fun _ => wv, []⟩, ⟨.quiet, [none, none, none, none], fun _ => .int .i64 (ss.length : Int), [2]⟩, ⟨.quiet, [none, none, none, none], fun _ => .bool false, [1, 3]⟩, ⟨.quiet, [none, none, none, none], fun _ => .bool false, [4]⟩, ⟨.quiet, [none, none, none, none], fun _ => .pointer (some ⟨p, 0, none⟩), [5]⟩, ⟨.actv 0, [some false, some false, some false, some false], fun _ => .int .i64 ((AE d.now : Nat) : Int), [6, 5]⟩, ⟨.quiet, [none, none, none, none], fun _ => .pointer (some ⟨q, 0, none⟩), [5]⟩, ⟨.actv 1, [some true, some false, some false, some false], fun _ => .int .i64 ((AE d.now : Nat) : Int), [8, 5]⟩, ⟨.quiet, [some true, some true, none, none], fun _ => .bool false, [7, 9, 5]⟩, ⟨.quiet, [some true, some true, none, none], fun _ => .bool false, [5, 10]⟩, ⟨.quiet, [some true, some true, none, none], fun _ => .bool false, [11]⟩, ⟨.quiet, [some true, some true, none, none], fun _ => .pointer (some ⟨p, 0, none⟩), [12]⟩, ⟨.actv 2, [some true, some true, some false, some false], fun _ => .int .i64 (d.wait.length : Int), [13, 12]⟩, ⟨.quiet, [some true, some true, none, none], fun _ => .pointer (some ⟨q, 0, none⟩), [12]⟩, ⟨.quiet, [some true, some true, none, none], fun _ => .pointer (some ⟨q, 0, none⟩), [15, 12]⟩, ⟨.quiet, [some true, some true, none, none], fun _ => .pointer (some ⟨q, 3, none⟩), [16, 12]⟩, ⟨.quiet, [some true, some true, none, none], fun _ => x.wv, [17, 12]⟩, ⟨.quiet, [some true, some true, none, none], fun _ => .int .i64 (x.W.length : Int), [18, 12]⟩, ⟨.quiet, [some true, some true, some true, none], fun _ => .bool false, [14, 19, 12]⟩, ⟨.quiet, [some true, some true, some true, none], fun _ => .bool false, [12, 20]⟩, ⟨.quiet, [some true, some true, some true, none], fun _ => .bool false, [21]⟩, ⟨.quiet, [some true, some true, some true, none], fun _ => .pointer (some ⟨p, 0, none⟩), [22]⟩, ⟨.actv 3, [some true, some true, some true, some false], fun _ => .bool false, [23, 22]⟩, ⟨.quiet, [some true, some true, some true, none], fun _ => .pointer (some ⟨q, 0, none⟩), [22]⟩, ⟨.quiet, [some true, some true, some true, none], fun _ => .pointer (some ⟨q, 0, none⟩), [25, 22]⟩, ⟨.quiet, [some true, some true, some true, none], fun _ => .pointer (some ⟨q, 6, none⟩), [26, 22]⟩, ⟨.quiet, [some true, some true, some true, none], fun _ => .bool false, [27, 22]⟩, ⟨.quiet, [some true, some true, some true, some true], fun _ => .bool false, [24, 28, 22]⟩, ⟨.quiet, [some true, some true, some true, some true], fun _ => .bool false, [22, 29]⟩] [(0, .pointer (some ⟨p, 0, none⟩)), (1, .pointer (some ⟨q, 0, none⟩)), (4, .bool false), (5, lv), (6, wv)] (fun ρ => match ρ with | [r0, r1, r2, r3] => [cell q 59 #[.int .i64 d.room, x.sv, x.nv, x.wv, .bool fu, .int .i64 x.fz, .bool false], x.F, x.Y, Ao 103 5 encRO x.wv x.W, Ao 9 1 encKs wv ss, Ao 9 1 encKs lv ss, Ap p d] | _ => []) (by kernel_rfl) (by kernel_rfl) ⟨rfl, rfl, rfl, rfl, rfl, trivial⟩ rfl ?_ ?_
  · skip
    refine Aa (by intro r0_ r1_ r2_ r3_; exact ⟨rfl, fun b w hH hb => Ae Ak rfl hb⟩) ?_
    refine Aa (by intro r0_ r1_ r2_ r3_; exact ⟨rfl, fun b w hH hb => C2 5 Tryz.underlying88 rfl rfl rfl hH hb⟩) ?_
    refine Aa (by intro r0_ r1_ r2_ r3_; exact ⟨rfl, fun b w hH hb => Ae Ak rfl hb⟩) ?_
    refine Aa (by intro r0_ r1_ r2_ r3_; exact ⟨rfl, fun b w hH hb => C2 4 Tryz.underlying88 rfl rfl rfl hH hb⟩) ?_
    refine Aa (by intro r0_ r1_ r2_ r3_; exact ⟨rfl, fun b w hH hb => Bh rfl rfl rfl (AU (by omega)) hb⟩) ?_
    refine Aa (by intro r0_ r1_ r2_ r3_; exact ⟨rfl, fun b w hH hb => Ae Ak rfl hb⟩) ?_
    refine Aa (by intro r0_ r1_ r2_ r3_; exact ⟨rfl, fun b w hH hb => Ae Ak rfl hb⟩) ?_
    refine Aa (by exact ⟨rfl, Br.su (Am (os' := fun _ => [cell q 59 #[.int .i64 d.room, x.sv, x.nv, x.wv, .bool fu, .int .i64 x.fz, .bool false], x.F, x.Y, Ao 103 5 encRO x.wv x.W, Ao 9 1 encKs wv ss, Ao 9 1 encKs lv ss, Ap p d]) [6] 0 (Ah Tryz.func50 (by kernel_rfl) rfl) (RH hdn hf huse) rfl rfl rfl (fun _ => rfl) rfl rfl rfl) rfl⟩) ?_
    refine Aa (by intro r0_ r1_ r2_ r3_; exact ⟨rfl, fun b w hH hb => Ae Ak rfl hb⟩) ?_
    refine Aa (by intro v0_; exact ⟨rfl, Br.su (Am (os' := fun _ => [cell q 59 #[.int .i64 d.room, x.sv, x.nv, x.wv, .bool fu, .int .i64 x.fz, .bool false], x.F, x.Y, Ao 103 5 encRO x.wv x.W, Ao 9 1 encKs wv ss, Ao 9 1 encKs lv ss, Ap p d]) [0, 1] 0 (Ah Tryz.func51 (by kernel_rfl) rfl) (Lb x hf) rfl rfl rfl (fun _ => rfl) rfl rfl rfl) rfl⟩) ?_
    refine Aa (by intro v0_ v1_ r2_ r3_; exact ⟨rfl, fun b w hH hb => Bh rfl rfl rfl (AU (by omega)) hb⟩) ?_
    refine Aa (by intro v0_ v1_ r2_ r3_; exact ⟨rfl, fun b w hH hb => Ae Ak rfl hb⟩) ?_
    refine Aa (by intro v0_ v1_ r2_ r3_; exact ⟨rfl, fun b w hH hb => Ae Ak rfl hb⟩) ?_
    refine Aa (by intro v0_ v1_ r2_ r3_; exact ⟨rfl, fun b w hH hb => Ae Ak rfl hb⟩) ?_
    refine Aa (by intro v0_ v1_; exact ⟨rfl, Br.su (Am (os' := fun _ => [cell q 59 #[.int .i64 d.room, x.sv, x.nv, x.wv, .bool fu, .int .i64 x.fz, .bool false], x.F, x.Y, Ao 103 5 encRO x.wv x.W, Ao 9 1 encKs wv ss, Ao 9 1 encKs lv ss, Ap p d]) [6] 0 (Ah Tryz.func52 (by kernel_rfl) rfl) (IN rfl) rfl rfl rfl (fun _ => rfl) rfl rfl rfl) rfl⟩) ?_
    refine Aa (by intro v0_ v1_ r2_ r3_; exact ⟨rfl, fun b w hH hb => Ae Ak rfl hb⟩) ?_
    refine Aa (by intro v0_ v1_ r2_ r3_; exact ⟨rfl, fun b w hH hb => by exact BO rfl rfl hb⟩) ?_
    refine Aa (by intro v0_ v1_ r2_ r3_; exact ⟨rfl, fun b w hH hb => Ae Ak rfl hb⟩) ?_
    refine Aa (by intro v0_ v1_ r2_ r3_; exact ⟨rfl, fun b w hH hb => Bg rfl rfl (Bt Ck rfl) (hH.row 0 rfl) hb⟩) ?_
    refine Aa (by intro v0_ v1_ r2_ r3_; exact ⟨rfl, fun b w hH hb => C2 3 Tryz.underlying57 rfl rfl rfl hH hb⟩) ?_
    refine Aa (by intro v0_ v1_ v2_ r3_; exact ⟨rfl, fun b w hH hb => Bh rfl rfl rfl (AU (by omega)) hb⟩) ?_
    refine Aa (by intro v0_ v1_ v2_ r3_; exact ⟨rfl, fun b w hH hb => Ae Ak rfl hb⟩) ?_
    refine Aa (by intro v0_ v1_ v2_ r3_; exact ⟨rfl, fun b w hH hb => Ae Ak rfl hb⟩) ?_
    refine Aa (by intro v0_ v1_ v2_ r3_; exact ⟨rfl, fun b w hH hb => Ae Ak rfl hb⟩) ?_
    refine Aa (by intro v0_ v1_ v2_; exact ⟨rfl, Br.su (Am (os' := fun _ => [cell q 59 #[.int .i64 d.room, x.sv, x.nv, x.wv, .bool fu, .int .i64 x.fz, .bool false], x.F, x.Y, Ao 103 5 encRO x.wv x.W, Ao 9 1 encKs wv ss, Ao 9 1 encKs lv ss, Ap p d]) [6] 0 (Ah Tryz.func53 (by kernel_rfl) rfl) (LH hdn) rfl rfl rfl (fun _ => rfl) rfl rfl rfl) rfl⟩) ?_
    refine Aa (by intro v0_ v1_ v2_ r3_; exact ⟨rfl, fun b w hH hb => Ae Ak rfl hb⟩) ?_
    refine Aa (by intro v0_ v1_ v2_ r3_; exact ⟨rfl, fun b w hH hb => by exact BO rfl rfl hb⟩) ?_
    refine Aa (by intro v0_ v1_ v2_ r3_; exact ⟨rfl, fun b w hH hb => Ae Ak rfl hb⟩) ?_
    refine Aa (by intro v0_ v1_ v2_ r3_; exact ⟨rfl, fun b w hH hb => Bg rfl rfl (Bt BN rfl) (hH.row 0 rfl) hb⟩) ?_
    refine Aa (by intro v0_ v1_ v2_ v3_; exact ⟨rfl, fun b w hH hb => MX (Wb false false) rfl rfl rfl hb⟩) ?_
    refine Aa (by intro v0_ v1_ v2_ v3_; exact ⟨rfl, fun b w hH hb => Ae Ak rfl hb⟩) ?_
    exact B7
  intro v0_ v1_ v2_ v3_
  refine Ch.keep (env' := [(0, .pointer (some ⟨p, 0, none⟩)), (1, .pointer (some ⟨q, 0, none⟩)), (4, .bool false), (5, lv), (6, wv), (46, .bool false)]) ⟨rfl, rfl, rfl, rfl, rfl, rfl, trivial⟩ ?_
  refine AP (AG (Au rfl (Ax (AG (Aq (Ad ?_))))))
  refine Af Ak rfl ?_
  refine Ab (AX ?_)
  refine Bf [0, 1, 2, 3] rfl (Ce (p := q) x hfu hdn) rfl ?_
  refine CE (α := Nat) (fun i => [(0, .pointer (some ⟨p, 0, none⟩)), (1, .pointer (some ⟨q, 0, none⟩)), (4, .bool false), (5, lv), (6, wv), (7, .int .i64 ((i : Nat) : Int))]) (fun i => [AA q d, Ao 9 1 encKs wv ss, Ao 9 1 encKs lv ss, Ap p d]) (fun i => i ≤ ss.length) (fun i => ss.length - i) 0 (Nat.zero_le _) ⟨rfl, rfl, rfl, rfl, rfl, rfl, trivial⟩ rfl ?_
  rintro i hI
  refine Bo.at_ (env' := [(0, .pointer (some ⟨p, 0, none⟩)), (1, .pointer (some ⟨q, 0, none⟩)), (4, .bool false), (5, lv), (6, wv), (7, .int .i64 ((i : Nat) : Int))]) (rs' := [AA q d, Ao 9 1 encKs wv ss, Ao 9 1 encKs lv ss, Ap p d]) ⟨rfl, rfl, rfl, rfl, rfl, rfl, trivial⟩ rfl ?_
  refine Aq ?_
  rcases Nat.lt_or_ge i ss.length with hi | hi
  · skip
    obtain ⟨n, hni⟩ : ∃ n, ss[i]? = some n := ⟨_, List.getElem?_eq_getElem hi⟩
    obtain ⟨b, hrb⟩ := RI hdn (n := n) (by rw [hss]; exact List.mem_of_getElem? hni)
    refine Ad ?_
    refine Af Ak rfl ?_
    refine Ac rfl (.int .i64 (ss.length : Int)) (fun b w hb hH => C2 2 Tryz.underlying88 rfl rfl rfl hH hb) ?_
    refine Ac rfl (.bool true) (fun b w hb hH => Bh rfl rfl rfl (Bl (by omega)) hb) ?_
    refine Ab (AD rfl (Ax (AG (Aq (AX (Ad ?_))))))
    refine Af Ak rfl ?_
    refine Ac rfl (Cc wv (i * 1)) (fun b w hb hH => Kn 1 E2 GW rfl i hi rfl rfl rfl hH hb) ?_
    refine Ac rfl (.string (bs n)) (fun b w hb hH => Ir 1 AR GW rfl i (a := n) hni rfl rfl rfl hH hb) ?_
    refine Ai rfl (Am (os' := fun av => [Ao 5 1 encB av b, AA q d, Ao 9 1 encKs wv ss, Ao 9 1 encKs lv ss, Ap p d]) [3] 0 (Ah Tryz.func32 (by kernel_rfl) rfl) (FJ (n := n) hf (congrArg (fun o => o.isSome) hrb) (congrArg (fun o => o.getD []) hrb)) rfl rfl rfl (fun _ => rfl) rfl rfl rfl) ?_; rintro av
    refine Af Ak rfl ?_
    refine Ab (Ad ?_)
    refine Af Ak rfl ?_
    refine Ac rfl (Cc wv (i * 1)) (fun b w hb hH => Kn 2 E2 GW rfl i hi rfl rfl rfl hH hb) ?_
    refine Ac rfl (.string (bs n)) (fun b w hb hH => Ir 2 AR GW rfl i (a := n) hni rfl rfl rfl hH hb) ?_
    refine Ai rfl (Am (os' := fun rv => [Ao 5 1 encB av b, B8 q d rv b, Ao 9 1 encKs wv ss, Ao 9 1 encKs lv ss, Ap p d]) [1] 0 (Ah Tryz.func37 (by kernel_rfl) rfl) (LY (p := q) hrb) rfl rfl rfl (fun _ => rfl) rfl rfl rfl) ?_; rintro rv
    refine Af Ak rfl ?_
    refine Ab (Aq ?_)
    refine BM 16 0 [⟨.quiet, [], fun _ => lv, []⟩, ⟨.quiet, [], fun _ => .int .i64 ((i : Nat) : Int), []⟩, ⟨.quiet, [], fun _ => Cc lv (i * 1), [0, 1]⟩, ⟨.quiet, [], fun _ => .string (bs n), [2]⟩, ⟨.quiet, [], fun _ => wv, []⟩, ⟨.quiet, [], fun _ => .int .i64 ((i : Nat) : Int), []⟩, ⟨.quiet, [], fun _ => Cc wv (i * 1), [4, 5]⟩, ⟨.quiet, [], fun _ => .string (bs n), [6]⟩, ⟨.quiet, [], fun _ => .bool false, [3, 7]⟩, ⟨.quiet, [], fun _ => .bool false, [8]⟩, ⟨.quiet, [], fun _ => av, [9]⟩, ⟨.quiet, [], fun _ => .string (bs b), [10, 9]⟩, ⟨.quiet, [], fun _ => rv, [9]⟩, ⟨.quiet, [], fun _ => .string (bs b), [12, 9]⟩, ⟨.quiet, [], fun _ => .bool false, [11, 13, 9]⟩, ⟨.quiet, [], fun _ => .bool false, [9, 14]⟩] [(0, .pointer (some ⟨p, 0, none⟩)), (1, .pointer (some ⟨q, 0, none⟩)), (4, .bool false), (5, lv), (6, wv), (7, .int .i64 ((i : Nat) : Int)), (47, .int .i64 ((i : Nat) : Int)), (48, lv), (49, .int .i64 (ss.length : Int)), (50, .bool true), (54, .pointer (some ⟨p, 0, none⟩)), (55, wv), (56, .int .i64 ((i : Nat) : Int)), (57, Cc wv (i * 1)), (58, .string (bs n)), (59, .tuple #[av, .bool true]), (53, .tuple #[av, .bool true]), (60, av), (61, .bool true), (8, av), (63, .pointer (some ⟨q, 0, none⟩)), (64, wv), (65, .int .i64 ((i : Nat) : Int)), (66, Cc wv (i * 1)), (67, .string (bs n)), (68, .tuple #[rv, .bool true]), (62, .tuple #[rv, .bool true]), (69, rv), (70, .bool true), (10, rv)] (fun _ => [Ao 5 1 encB av b, B8 q d rv b, Ao 9 1 encKs wv ss, Ao 9 1 encKs lv ss, Ap p d]) (by kernel_rfl) (by kernel_rfl) ⟨rfl, rfl, rfl, rfl, rfl, rfl, rfl, rfl, rfl, rfl, rfl, rfl, rfl, rfl, rfl, rfl, rfl, rfl, rfl, rfl, rfl, rfl, rfl, rfl, rfl, rfl, rfl, rfl, rfl, rfl, trivial⟩ rfl ?_ ?_
    · skip
      refine Aa (by exact ⟨rfl, fun b w hH hb => Ae Ak rfl hb⟩) ?_
      refine Aa (by exact ⟨rfl, fun b w hH hb => Ae Ak rfl hb⟩) ?_
      refine Aa (by exact ⟨rfl, fun b w hH hb => Kn 3 E2 GW rfl i hi rfl rfl rfl hH hb⟩) ?_
      refine Aa (by exact ⟨rfl, fun b w hH hb => Ir 3 AR GW rfl i (a := n) hni rfl rfl rfl hH hb⟩) ?_
      refine Aa (by exact ⟨rfl, fun b w hH hb => Ae Ak rfl hb⟩) ?_
      refine Aa (by exact ⟨rfl, fun b w hH hb => Ae Ak rfl hb⟩) ?_
      refine Aa (by exact ⟨rfl, fun b w hH hb => Kn 2 E2 GW rfl i hi rfl rfl rfl hH hb⟩) ?_
      refine Aa (by exact ⟨rfl, fun b w hH hb => Ir 2 AR GW rfl i (a := n) hni rfl rfl rfl hH hb⟩) ?_
      refine Aa (by exact ⟨rfl, fun b w hH hb => Hl (by simp) rfl rfl rfl hb⟩) ?_
      refine Aa (by exact ⟨rfl, fun b w hH hb => Ae Ak rfl hb⟩) ?_
      refine Aa (by exact ⟨rfl, fun b w hH hb => Ae Ak rfl hb⟩) ?_
      refine Aa (by exact ⟨rfl, fun b w hH hb => Lv Tryz.underlying48 Tryz.underlying5 (by kernel_rfl) Tryz.underlying9 (hH.sl8 0 rfl) rfl rfl hb⟩) ?_
      refine Aa (by exact ⟨rfl, fun b w hH hb => Ae Ak rfl hb⟩) ?_
      refine Aa (by exact ⟨rfl, fun b w hH hb => Lv Tryz.underlying48 Tryz.underlying5 (by kernel_rfl) Tryz.underlying9 ((hH.rd8 1 rfl FN)) rfl rfl hb⟩) ?_
      refine Aa (by exact ⟨rfl, fun b w hH hb => Hl (by simp) rfl rfl rfl hb⟩) ?_
      refine Aa (by exact ⟨rfl, fun b w hH hb => Ae Ak rfl hb⟩) ?_
      exact B7
    refine Ch.keep (env' := [(0, .pointer (some ⟨p, 0, none⟩)), (1, .pointer (some ⟨q, 0, none⟩)), (4, .bool false), (5, lv), (6, wv), (7, .int .i64 ((i : Nat) : Int)), (47, .int .i64 ((i : Nat) : Int)), (48, lv), (49, .int .i64 (ss.length : Int)), (50, .bool true), (54, .pointer (some ⟨p, 0, none⟩)), (55, wv), (56, .int .i64 ((i : Nat) : Int)), (57, Cc wv (i * 1)), (58, .string (bs n)), (59, .tuple #[av, .bool true]), (53, .tuple #[av, .bool true]), (60, av), (61, .bool true), (8, av), (63, .pointer (some ⟨q, 0, none⟩)), (64, wv), (65, .int .i64 ((i : Nat) : Int)), (66, Cc wv (i * 1)), (67, .string (bs n)), (68, .tuple #[rv, .bool true]), (62, .tuple #[rv, .bool true]), (69, rv), (70, .bool true), (10, rv), (71, lv), (72, .int .i64 ((i : Nat) : Int)), (73, Cc lv (i * 1)), (74, .string (bs n)), (75, wv), (76, .int .i64 ((i : Nat) : Int)), (77, Cc wv (i * 1)), (78, .string (bs n)), (79, .bool false), (80, .bool false), (81, av), (82, .string (bs b)), (83, rv), (84, .string (bs b)), (85, .bool false), (86, .bool false)]) ⟨rfl, rfl, rfl, rfl, rfl, rfl, rfl, rfl, rfl, rfl, rfl, rfl, rfl, rfl, rfl, rfl, rfl, rfl, rfl, rfl, rfl, rfl, rfl, rfl, rfl, rfl, rfl, rfl, rfl, rfl, rfl, rfl, rfl, rfl, rfl, rfl, rfl, rfl, rfl, rfl, rfl, rfl, rfl, rfl, rfl, rfl, trivial⟩ ?_
    refine AP (AG (Au rfl (Ax (BJ (AG ?_)))))
    refine Bf [1] rfl E4 rfl ?_
    refine Bo.leave [1] rfl rfl ?_
    refine BI ?_
    refine Af Ak rfl ?_
    refine Ac rfl (.int .i64 ((i + 1 : Nat) : Int)) (fun b w hb hH => AK rfl rfl rfl rfl (by rw [IntWalk.i64_in _ (by omega)]; omega) hb) ?_
    refine Af Ak rfl ?_
    refine AP ?_
    exact Cr (i + 1) 0 hi (show ss.length - (i + 1) < ss.length - i by omega) ⟨rfl, rfl, rfl, rfl, rfl, rfl, trivial⟩ rfl
  · skip
    refine Ad ?_
    refine Af Ak rfl ?_
    refine Ac rfl (.int .i64 (ss.length : Int)) (fun b w hb hH => C2 2 Tryz.underlying88 rfl rfl rfl hH hb) ?_
    refine Ac rfl (.bool false) (fun b w hb hH => Bh rfl rfl rfl (Bu (by omega)) hb) ?_
    refine Ab (Au rfl (Cu (EO (EO (Bc (AG (Ad ?_)))))))
    refine Af Ak rfl ?_
    refine Ab (Az ?_)
    exact Ay (.tmp rfl) (fun w h => AB () rfl [3, 0] rfl h Cz) rfl
theorem UC {p q : Nat} {d : DiskD} (hdn : d.down = true) : AS Tryz.prog 18 #[.pointer (some ⟨p, 0, none⟩), .pointer (some ⟨q, 0, none⟩)] [Ap p d, AA q d] (fun (_ : Unit) => .bool true) (fun (_ : Unit) => [Ap p d, AA q d]) := by
  refine A6 (args := [.pointer (some ⟨p, 0, none⟩), .pointer (some ⟨q, 0, none⟩)]) 87 Tryz.func18 rfl rfl rfl ?_; intro w rs
  obtain ⟨fu, hfu⟩ : ∃ fu, d.fuse.isSome = fu := ⟨_, rfl⟩
  refine Ad ?_
  refine Af Ak rfl ?_
  refine Ab (Ad ?_)
  refine Af Ak rfl ?_
  refine Ai rfl (Am (os' := fun lv => [Ao 9 1 encKs lv ([] : List (List UInt8)), Ap p d, AA q d]) [0] 0 (Ah Tryz.func48 (by kernel_rfl) rfl) (O3 hdn) rfl rfl rfl (fun _ => rfl) rfl rfl rfl) ?_; rintro lv
  refine Af Ak rfl ?_
  refine Ab (Ad ?_)
  refine Af Ak rfl ?_
  refine Ai rfl (Am (os' := fun wv => [Ao 9 1 encKs wv ([] : List (List UInt8)), Ao 9 1 encKs lv ([] : List (List UInt8)), Ap p d, AA q d]) [2] 0 (Ah Tryz.func49 (by kernel_rfl) rfl) (RF (p := q) hdn) rfl rfl rfl (fun _ => rfl) rfl rfl rfl) ?_; rintro wv
  refine Af Ak rfl ?_
  refine Ab (Aq ?_)
  refine AY 3 rfl (CX hfu hdn) (fun _ => rfl) ?_; rintro x
  have hwl := x.wlen
  refine Aq ?_
  refine BM 31 4 [⟨.quiet, [none, none, none, none], fun _ => lv, []⟩, ⟨.quiet, [none, none, none, none], fun _ => .int .i64 (([] : List (List UInt8)).length : Int), [0]⟩, ⟨.quiet, [none, none, none, none], fun _ => wv, []⟩, ⟨.quiet, [none, none, none, none], fun _ => .int .i64 (([] : List (List UInt8)).length : Int), [2]⟩, ⟨.quiet, [none, none, none, none], fun _ => .bool false, [1, 3]⟩, ⟨.quiet, [none, none, none, none], fun _ => .bool false, [4]⟩, ⟨.quiet, [none, none, none, none], fun _ => .pointer (some ⟨p, 0, none⟩), [5]⟩, ⟨.actv 0, [some false, some false, some false, some false], fun _ => .int .i64 0, [6, 5]⟩, ⟨.quiet, [none, none, none, none], fun _ => .pointer (some ⟨q, 0, none⟩), [5]⟩, ⟨.actv 1, [some true, some false, some false, some false], fun _ => .int .i64 0, [8, 5]⟩, ⟨.quiet, [some true, some true, none, none], fun _ => .bool false, [7, 9, 5]⟩, ⟨.quiet, [some true, some true, none, none], fun _ => .bool false, [5, 10]⟩, ⟨.quiet, [some true, some true, none, none], fun _ => .bool false, [11]⟩, ⟨.quiet, [some true, some true, none, none], fun _ => .pointer (some ⟨p, 0, none⟩), [12]⟩, ⟨.actv 2, [some true, some true, some false, some false], fun _ => .int .i64 (d.wait.length : Int), [13, 12]⟩, ⟨.quiet, [some true, some true, none, none], fun _ => .pointer (some ⟨q, 0, none⟩), [12]⟩, ⟨.quiet, [some true, some true, none, none], fun _ => .pointer (some ⟨q, 0, none⟩), [15, 12]⟩, ⟨.quiet, [some true, some true, none, none], fun _ => .pointer (some ⟨q, 3, none⟩), [16, 12]⟩, ⟨.quiet, [some true, some true, none, none], fun _ => x.wv, [17, 12]⟩, ⟨.quiet, [some true, some true, none, none], fun _ => .int .i64 (x.W.length : Int), [18, 12]⟩, ⟨.quiet, [some true, some true, some true, none], fun _ => .bool false, [14, 19, 12]⟩, ⟨.quiet, [some true, some true, some true, none], fun _ => .bool false, [12, 20]⟩, ⟨.quiet, [some true, some true, some true, none], fun _ => .bool false, [21]⟩, ⟨.quiet, [some true, some true, some true, none], fun _ => .pointer (some ⟨p, 0, none⟩), [22]⟩, ⟨.actv 3, [some true, some true, some true, some false], fun _ => .bool true, [23, 22]⟩, ⟨.quiet, [some true, some true, some true, none], fun _ => .pointer (some ⟨q, 0, none⟩), [22]⟩, ⟨.quiet, [some true, some true, some true, none], fun _ => .pointer (some ⟨q, 0, none⟩), [25, 22]⟩, ⟨.quiet, [some true, some true, some true, none], fun _ => .pointer (some ⟨q, 6, none⟩), [26, 22]⟩, ⟨.quiet, [some true, some true, some true, none], fun _ => .bool true, [27, 22]⟩, ⟨.quiet, [some true, some true, some true, some true], fun _ => .bool false, [24, 28, 22]⟩, ⟨.quiet, [some true, some true, some true, some true], fun _ => .bool false, [22, 29]⟩] [(0, .pointer (some ⟨p, 0, none⟩)), (1, .pointer (some ⟨q, 0, none⟩)), (4, .bool false), (5, lv), (6, wv)] (fun ρ => match ρ with | [r0, r1, r2, r3] => [cell q 59 #[.int .i64 d.room, x.sv, x.nv, x.wv, .bool fu, .int .i64 x.fz, .bool true], x.F, x.Y, Ao 103 5 encRO x.wv x.W, Ao 9 1 encKs wv ([] : List (List UInt8)), Ao 9 1 encKs lv ([] : List (List UInt8)), Ap p d] | _ => []) (by kernel_rfl) (by kernel_rfl) ⟨rfl, rfl, rfl, rfl, rfl, trivial⟩ rfl ?_ ?_
  · skip
    refine Aa (by intro r0_ r1_ r2_ r3_; exact ⟨rfl, fun b w hH hb => Ae Ak rfl hb⟩) ?_
    refine Aa (by intro r0_ r1_ r2_ r3_; exact ⟨rfl, fun b w hH hb => C2 5 Tryz.underlying88 rfl rfl rfl hH hb⟩) ?_
    refine Aa (by intro r0_ r1_ r2_ r3_; exact ⟨rfl, fun b w hH hb => Ae Ak rfl hb⟩) ?_
    refine Aa (by intro r0_ r1_ r2_ r3_; exact ⟨rfl, fun b w hH hb => C2 4 Tryz.underlying88 rfl rfl rfl hH hb⟩) ?_
    refine Aa (by intro r0_ r1_ r2_ r3_; exact ⟨rfl, fun b w hH hb => Bh rfl rfl rfl (AU (by simp)) hb⟩) ?_
    refine Aa (by intro r0_ r1_ r2_ r3_; exact ⟨rfl, fun b w hH hb => Ae Ak rfl hb⟩) ?_
    refine Aa (by intro r0_ r1_ r2_ r3_; exact ⟨rfl, fun b w hH hb => Ae Ak rfl hb⟩) ?_
    refine Aa (by exact ⟨rfl, Br.su (Am (os' := fun _ => [cell q 59 #[.int .i64 d.room, x.sv, x.nv, x.wv, .bool fu, .int .i64 x.fz, .bool true], x.F, x.Y, Ao 103 5 encRO x.wv x.W, Ao 9 1 encKs wv ([] : List (List UInt8)), Ao 9 1 encKs lv ([] : List (List UInt8)), Ap p d]) [6] 0 (Ah Tryz.func50 (by kernel_rfl) rfl) (MM hdn) rfl rfl rfl (fun _ => rfl) rfl rfl rfl) rfl⟩) ?_
    refine Aa (by intro r0_ r1_ r2_ r3_; exact ⟨rfl, fun b w hH hb => Ae Ak rfl hb⟩) ?_
    refine Aa (by intro v0_; exact ⟨rfl, Br.su (Am (os' := fun _ => [cell q 59 #[.int .i64 d.room, x.sv, x.nv, x.wv, .bool fu, .int .i64 x.fz, .bool true], x.F, x.Y, Ao 103 5 encRO x.wv x.W, Ao 9 1 encKs wv ([] : List (List UInt8)), Ao 9 1 encKs lv ([] : List (List UInt8)), Ap p d]) [0, 1] 0 (Ah Tryz.func51 (by kernel_rfl) rfl) (RE x) rfl rfl rfl (fun _ => rfl) rfl rfl rfl) rfl⟩) ?_
    refine Aa (by intro v0_ v1_ r2_ r3_; exact ⟨rfl, fun b w hH hb => Bh rfl rfl rfl (AU (by omega)) hb⟩) ?_
    refine Aa (by intro v0_ v1_ r2_ r3_; exact ⟨rfl, fun b w hH hb => Ae Ak rfl hb⟩) ?_
    refine Aa (by intro v0_ v1_ r2_ r3_; exact ⟨rfl, fun b w hH hb => Ae Ak rfl hb⟩) ?_
    refine Aa (by intro v0_ v1_ r2_ r3_; exact ⟨rfl, fun b w hH hb => Ae Ak rfl hb⟩) ?_
    refine Aa (by intro v0_ v1_; exact ⟨rfl, Br.su (Am (os' := fun _ => [cell q 59 #[.int .i64 d.room, x.sv, x.nv, x.wv, .bool fu, .int .i64 x.fz, .bool true], x.F, x.Y, Ao 103 5 encRO x.wv x.W, Ao 9 1 encKs wv ([] : List (List UInt8)), Ao 9 1 encKs lv ([] : List (List UInt8)), Ap p d]) [6] 0 (Ah Tryz.func52 (by kernel_rfl) rfl) (IN rfl) rfl rfl rfl (fun _ => rfl) rfl rfl rfl) rfl⟩) ?_
    refine Aa (by intro v0_ v1_ r2_ r3_; exact ⟨rfl, fun b w hH hb => Ae Ak rfl hb⟩) ?_
    refine Aa (by intro v0_ v1_ r2_ r3_; exact ⟨rfl, fun b w hH hb => by exact BO rfl rfl hb⟩) ?_
    refine Aa (by intro v0_ v1_ r2_ r3_; exact ⟨rfl, fun b w hH hb => Ae Ak rfl hb⟩) ?_
    refine Aa (by intro v0_ v1_ r2_ r3_; exact ⟨rfl, fun b w hH hb => Bg rfl rfl (Bt Ck rfl) (hH.row 0 rfl) hb⟩) ?_
    refine Aa (by intro v0_ v1_ r2_ r3_; exact ⟨rfl, fun b w hH hb => C2 3 Tryz.underlying57 rfl rfl rfl hH hb⟩) ?_
    refine Aa (by intro v0_ v1_ v2_ r3_; exact ⟨rfl, fun b w hH hb => Bh rfl rfl rfl (AU (by omega)) hb⟩) ?_
    refine Aa (by intro v0_ v1_ v2_ r3_; exact ⟨rfl, fun b w hH hb => Ae Ak rfl hb⟩) ?_
    refine Aa (by intro v0_ v1_ v2_ r3_; exact ⟨rfl, fun b w hH hb => Ae Ak rfl hb⟩) ?_
    refine Aa (by intro v0_ v1_ v2_ r3_; exact ⟨rfl, fun b w hH hb => Ae Ak rfl hb⟩) ?_
    refine Aa (by intro v0_ v1_ v2_; exact ⟨rfl, Br.su (Am (os' := fun _ => [cell q 59 #[.int .i64 d.room, x.sv, x.nv, x.wv, .bool fu, .int .i64 x.fz, .bool true], x.F, x.Y, Ao 103 5 encRO x.wv x.W, Ao 9 1 encKs wv ([] : List (List UInt8)), Ao 9 1 encKs lv ([] : List (List UInt8)), Ap p d]) [6] 0 (Ah Tryz.func53 (by kernel_rfl) rfl) (LH hdn) rfl rfl rfl (fun _ => rfl) rfl rfl rfl) rfl⟩) ?_
    refine Aa (by intro v0_ v1_ v2_ r3_; exact ⟨rfl, fun b w hH hb => Ae Ak rfl hb⟩) ?_
    refine Aa (by intro v0_ v1_ v2_ r3_; exact ⟨rfl, fun b w hH hb => by exact BO rfl rfl hb⟩) ?_
    refine Aa (by intro v0_ v1_ v2_ r3_; exact ⟨rfl, fun b w hH hb => Ae Ak rfl hb⟩) ?_
    refine Aa (by intro v0_ v1_ v2_ r3_; exact ⟨rfl, fun b w hH hb => Bg rfl rfl (Bt BN rfl) (hH.row 0 rfl) hb⟩) ?_
    refine Aa (by intro v0_ v1_ v2_ v3_; exact ⟨rfl, fun b w hH hb => MX (Wb true true) rfl rfl rfl hb⟩) ?_
    refine Aa (by intro v0_ v1_ v2_ v3_; exact ⟨rfl, fun b w hH hb => Ae Ak rfl hb⟩) ?_
    exact B7
  intro v0_ v1_ v2_ v3_
  refine Ch.keep (env' := [(0, .pointer (some ⟨p, 0, none⟩)), (1, .pointer (some ⟨q, 0, none⟩)), (4, .bool false), (5, lv), (6, wv), (46, .bool false)]) ⟨rfl, rfl, rfl, rfl, rfl, rfl, trivial⟩ ?_
  refine AP (AG (Au rfl (Ax (AG (Aq (Ad ?_))))))
  refine Af Ak rfl ?_
  refine Ab (AX ?_)
  refine Bf [0, 1, 2, 3] rfl (Ce (p := q) x hfu hdn) rfl ?_
  refine CE (α := Nat) (fun i => [(0, .pointer (some ⟨p, 0, none⟩)), (1, .pointer (some ⟨q, 0, none⟩)), (4, .bool false), (5, lv), (6, wv), (7, .int .i64 ((i : Nat) : Int))]) (fun i => [AA q d, Ao 9 1 encKs wv ([] : List (List UInt8)), Ao 9 1 encKs lv ([] : List (List UInt8)), Ap p d]) (fun i => i = 0) (fun i => i) 0 rfl ⟨rfl, rfl, rfl, rfl, rfl, rfl, trivial⟩ rfl ?_
  rintro i hI
  refine Bo.at_ (env' := [(0, .pointer (some ⟨p, 0, none⟩)), (1, .pointer (some ⟨q, 0, none⟩)), (4, .bool false), (5, lv), (6, wv), (7, .int .i64 ((i : Nat) : Int))]) (rs' := [AA q d, Ao 9 1 encKs wv ([] : List (List UInt8)), Ao 9 1 encKs lv ([] : List (List UInt8)), Ap p d]) ⟨rfl, rfl, rfl, rfl, rfl, rfl, trivial⟩ rfl ?_
  refine Aq (Ad ?_)
  refine Af Ak rfl ?_
  refine Ac rfl (.int .i64 (([] : List (List UInt8)).length : Int)) (fun b w hb hH => C2 2 Tryz.underlying88 rfl rfl rfl hH hb) ?_
  refine Ac rfl (.bool false) (fun b w hb hH => Bh rfl rfl rfl (Bu (by simp only [List.length_nil]; omega)) hb) ?_
  refine Ab (Au rfl (Cu (EO (EO (Bc (AG (Ad ?_)))))))
  refine Af Ak rfl ?_
  refine Ab (Az ?_)
  exact Ay (.tmp rfl) (fun w h => AB () rfl [3, 0] rfl h Cz) rfl
theorem Hn {p q : Nat} {d : DiskD} (hf : d.fit) : AS Tryz.prog 18 #[.pointer (some ⟨p, 0, none⟩), .pointer (some ⟨q, 0, none⟩)] [Ap p d, AA q d] (fun _ : Unit => .bool true) (fun _ => [Ap p d, AA q d]) := by
  cases h : d.down with
  | false => exact UB hf h
  | true => exact UC h
end Go.Proofs.YtnknboibmifacaaGreat.Sep
