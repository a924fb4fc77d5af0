/-
  RrX · HdR · HdO
-/
import Derived.Test.YtnknboibmifacaaGreatPA08
import Derived.Test.YtnknboibmifacaaGreatPB02
import Derived.Test.YtnknboibmifacaaGreatPH01
import Derived.Test.YtnknboibmifacaaGreatPJ01
import Derived.Test.YtnknboibmifacaaGreatPL01
import Derived.Test.YtnknboibmifacaaGreatPN03
import Derived.Test.YtnknboibmifacaaGreatPP01
set_option linter.unusedSimpArgs false
set_option linter.unusedVariables false
set_option maxRecDepth 100000
namespace Go.Proofs.YtnknboibmifacaaGreat.Sep
open Go.RowKit
open Go.Proofs.YtnknboibmifacaaGreat.Mem (Bl Co Chg AG)
variable {X : Ass} {v B : Value} {b l l' : List UInt8} {g f f' : Nat} {F : FuncId} {args : Array Value} {val : Value}
theorem R2 (hX : CX X v b) {rs : List RowT} (h : X rs) {w : World} (hr : RowsOf w rs) (hn : ∀ x ∈ rs, x.1 ≠ g) (hg : g < w.heap.size) : ∃ A c, v = .slice A b.length c ∧ Bs (fun k => k ≠ g) w A c b := by
 obtain ⟨A, c, e, hb⟩ := hX rs w h hr
 refine ⟨A, c, e, hb.1, hb.2.1, fun hl => ?_⟩
 obtain ⟨g1, o, eA, _, hc⟩ := hb.2.2 hl
 refine ⟨g1, o, eA, fun eg => ?_, hc⟩
 subst eg
 have hr2 : RowsOf (w.putObj g1 (.deferred none)) rs := hr.map_ fun x hx hrx => by
  obtain ⟨ob, h1, h2⟩ := hrx.obj
  exact h2 _ ((World.putObj_heap_other (fun e => hn x hx e)).trans h1)
 obtain ⟨A2, c2, e2, hb2⟩ := hX rs _ h hr2
 rw [e] at e2
 simp only [Value.slice.injEq] at e2
 obtain ⟨rfl, _, rfl⟩ := e2
 obtain ⟨g2, o2, eA2, _, hc2⟩ := hb2.2.2 hl
 rw [eA] at eA2
 simp only [Option.some.injEq, Addr.mk.injEq] at eA2
 obtain ⟨rfl, rfl, _⟩ := eA2
 have h5 := hc2 0 (b[0]) (by simp [hl])
 have h6 : (w.putObj g1 (.deferred none)).heap[g1]? = some (.deferred none) := World.putObj_heap_same hg
 simp [World.cell?, h6] at h5
theorem Ly (hX : CX X B b) (hl : b.length ≤ 140737488355328) (h : ∀ w A c, B = .slice A b.length c → R6 (fun k => k ≠ g) w g A c b l f → Calls Tryz.prog F args w fun e w' => e = .returned val ∧ R6 (fun k => k ≠ g) w' g A c b l' f' ∧ Mod (JW g) w w') : AU Tryz.prog F args [J0 B b g l f, X] (fun _ : Unit => val) (fun _ => [J0 B b g l' f', X]) := fun w rs h1 h2 h3 => by
  obtain ⟨r1, r2, rfl, ⟨j, hj, hlj, rfl⟩, hx⟩ := h1
  have hx2 : X r2 := hx.one'
  have hd := Bu.1 h3
  simp only [List.cons_append, List.nil_append, List.map_cons, List.nodup_cons] at hd
  have hr2 : RowsOf w r2 := AW.2 fun x hx => AW.1 h2 x (List.mem_append_right _ hx)
  have hn : ∀ x ∈ r2, x.1 ≠ g := fun x hx e => hd.1 (e ▸ List.mem_map_of_mem hx)
  have hrow := AW.1 h2 _ (List.mem_append_left _ (List.mem_singleton.2 rfl))
  have hrow2 : Dj w g 81 #[B, .int .i64 (j : Int), .int .i64 (f : Int)] := hrow
  have hg : g < w.heap.size := (Array.getElem?_eq_some_iff.1 hrow2).1
  obtain ⟨A, c, rfl, hb⟩ := R2 hX hx2 hr2 hn hg
  refine (h w A c rfl ⟨j, hj, hlj, hrow2, hb, hl, fun k hk e => hk e⟩).mono ?_
  rintro e w' ⟨he, ⟨j', hj', hl', hr', _⟩, hm⟩
  refine ⟨(), he, [(g, Fg 81, #[.slice A b.length c, .int .i64 (j' : Int), .int .i64 (f' : Int)])] ++ r2, ⟨_, r2, rfl, ⟨j', hj', hl', rfl⟩, hx⟩, hm.weaken fun k _ e => ⟨_, List.mem_append_left _ (List.mem_singleton.2 rfl), e.symm⟩, AW.2 fun x hx => ?_, Bu.2 ?_, fun x hx _ => ?_⟩
  · rcases List.mem_append.1 hx with h | h
    · rw [List.mem_singleton.1 h]; exact hr'
    · obtain ⟨ob, h4, h5⟩ := (AW.1 hr2 x h).obj
      exact h5 _ ((hm.block x.1 (Array.getElem?_eq_some_iff.1 h4).1 (fun e => hn x h e)).trans h4)
  · simp only [List.cons_append, List.nil_append, List.map_cons, List.nodup_cons]
    exact hd
  · rcases List.mem_append.1 hx with h | h
    · rw [List.mem_singleton.1 h]; exact ⟨_, List.mem_append_left _ (List.mem_singleton.2 rfl), rfl⟩
    · exact ⟨x, List.mem_append_right _ h, rfl⟩
theorem Oq (hX : CX X B b) (hl : b.length ≤ 140737488355328) (most : Nat) (hm : most < 256) (R : Nat × List UInt8 × Nat) (h : Bj most l f = R) : AU Tryz.prog 40 #[.pointer (some ⟨g, 0, none⟩), .int .u8 (most : Int)] [J0 B b g l f, X] (fun _ : Unit => .int .u8 (R.1 : Int)) (fun _ => [J0 B b g R.2.1 R.2.2, X]) := by
 subst h
 exact Ly hX hl fun w A c _ hr => No w g c f most A b l hr hm
theorem QK (hX : CX X B b) (hl : b.length ≤ 140737488355328) (most : Nat) (hm : most < 18446744073709551616) (R : Nat × List UInt8 × Nat) (h : B5 most l f = R) : AU Tryz.prog 39 #[.pointer (some ⟨g, 0, none⟩), .int .u64 (most : Int)] [J0 B b g l f, X] (fun _ : Unit => .int .u64 (R.1 : Int)) (fun _ => [J0 B b g R.2.1 R.2.2, X]) := by
 subst h
 exact Ly hX hl fun w A c _ hr => Np w g c f most A b l hr hm
theorem QL (hX : CX X B b) (hl : b.length ≤ 140737488355328) (r : Nat) (h : D6 l f = r) : AU Tryz.prog 41 #[.pointer (some ⟨g, 0, none⟩)] [J0 B b g l f, X] (fun _ : Unit => .int .i64 (r : Int)) (fun _ => [J0 B b g l f, X]) := by
 subst h
 refine Ly hX hl fun w A c _ hr => (OJ w g c f A b l hr).mono ?_
 rintro e w' ⟨he, hb⟩
 exact ⟨he, hr.mod (Mod.of_below hb Nil) (fun h => h.elim) (fun _ _ h => h), Mod.of_below hb _⟩
end Go.Proofs.YtnknboibmifacaaGreat.Sep
namespace Go.Proofs.YtnknboibmifacaaGreat.Sep
open Go.RowKit
open Go.Proofs.YtnknboibmifacaaGreat.Mem (Bl Co Chg AG)
theorem TZ {B : Value} {b : List UInt8} {g : Nat} : ∀ rs, Ap [cell g 81 #[B, .int .i64 0, .int .i64 0]] rs → J0 B b g b 0 rs := fun rs h => by
 have h1 : rs = [(g, Fg 81, #[B, .int .i64 0, .int .i64 0])] := h.one'
 exact ⟨0, Nat.zero_le _, by simp, h1⟩
theorem QM {p : Nat} {d : DiskD} {n : List UInt8} {r : Bool} (hr : (BJ d n).isSome = r) : AU Tryz.prog 35 #[.pointer (some ⟨p, 0, none⟩), .string (bs n)] [Au p d] (fun (_ : Unit) => .bool r) (fun (_ : Unit) => [Au p d]) := by
 refine Bd (args := [.pointer (some ⟨p, 0, none⟩), .string (bs n)]) 14 Tryz.func35 rfl rfl rfl ?_; intro w rs
 refine Ad ?_
 refine Ae Ai rfl ?_
 refine Aa (Ad ?_)
 refine Ae Ai rfl ?_
 refine Aj rfl (Al (os' := fun rv => [Ca p d rv ((BJ d n).getD [])]) [0] 0 (Ah Tryz.func37 (by kernel_rfl) rfl) (JV hr rfl) rfl rfl rfl (fun _ => rfl) rfl rfl rfl) ?_; rintro rv
 refine Ae Ai rfl ?_
 refine Aa ?_
 refine AX [0] rfl DQ rfl ?_
 refine Ad ?_
 refine Ae Ai rfl ?_
 refine Aa (Ay ?_)
 exact Av (.tmp rfl) (fun w h => AB () rfl [0] rfl h Cl) rfl
theorem M3 (w : World) (t v : Int) (r : Bool) (hr : (decide (t ≤ 72057594037927935) && (decide (v ≥ 0) && decide (v ≤ 7))) = r) : Calls Tryz.prog 15 #[.agg #[.int .u64 t, .int .i64 v]] w fun e w' => e = .returned (.bool r) ∧ Below w.heap.size w w' := by
  refine Fy (args := [.agg #[.int .u64 t, .int .i64 v]]) 16 Tryz.func15 rfl rfl rfl ?_
  refine Ad ?_
  refine Ae Ai rfl ?_
  refine Aj (post := fun g => [cell g 31 #[.int .u64 t, .int .i64 v]]) rfl (CC (cs := #[.int .u64 t, .int .i64 v]) rfl rfl rfl) ?_; rintro g
  refine Ae Ai rfl ?_
  refine Aa ?_
  rcases Classical.em (t ≤ 72057594037927935) with h1 | h1
  rcases Classical.em (v ≥ 0) with h2 | h2
  rcases Classical.em (v ≤ 7) with h3 | h3
  · skip
    obtain rfl : r = true := by rw [← hr]; simp [h1, h2, h3]
    refine Ad ?_
    refine Ae Ai rfl ?_
    refine Ab rfl (.int .u64 t) (fun b w hb hH => A6 rfl rfl (Bk Dg rfl) (hH.row 0 rfl) hb) ?_
    refine Ab rfl (.bool true) (fun b w hb hH => AV rfl rfl rfl (Dd h1) hb) ?_
    refine Ae Ai rfl ?_
    refine Ab rfl (.int .i64 v) (fun b w hb hH => A6 rfl rfl (Bk AR rfl) (hH.row 0 rfl) hb) ?_
    refine Ab rfl (.bool true) (fun b w hb hH => AV rfl rfl rfl (B7 h2) hb) ?_
    refine Ae Ai rfl ?_
    refine Ab rfl (.int .i64 v) (fun b w hb hH => A6 rfl rfl (Bk AR rfl) (hH.row 0 rfl) hb) ?_
    refine Ab rfl (.bool true) (fun b w hb hH => AV rfl rfl rfl (Dd h3) hb) ?_
    refine Ae Ai rfl ?_
    refine Aa (Ay ?_)
    exact Av (.tmp rfl) (fun w h => ⟨rfl, AG h.up⟩) rfl
  · skip
    obtain rfl : r = false := by rw [← hr]; simp [h3]
    refine Ad ?_
    refine Ae Ai rfl ?_
    refine Ab rfl (.int .u64 t) (fun b w hb hH => A6 rfl rfl (Bk Dg rfl) (hH.row 0 rfl) hb) ?_
    refine Ab rfl (.bool true) (fun b w hb hH => AV rfl rfl rfl (Dd h1) hb) ?_
    refine Ae Ai rfl ?_
    refine Ab rfl (.int .i64 v) (fun b w hb hH => A6 rfl rfl (Bk AR rfl) (hH.row 0 rfl) hb) ?_
    refine Ab rfl (.bool true) (fun b w hb hH => AV rfl rfl rfl (B7 h2) hb) ?_
    refine Ae Ai rfl ?_
    refine Ab rfl (.int .i64 v) (fun b w hb hH => A6 rfl rfl (Bk AR rfl) (hH.row 0 rfl) hb) ?_
    refine Ab rfl (.bool false) (fun b w hb hH => AV rfl rfl rfl (EG (by omega)) hb) ?_
    refine Ae Ai rfl ?_
    refine Aa (Ay ?_)
    exact Av (.tmp rfl) (fun w h => ⟨rfl, AG h.up⟩) rfl
  · skip
    obtain rfl : r = false := by rw [← hr]; simp [h2]
    refine Ad ?_
    refine Ae Ai rfl ?_
    refine Ab rfl (.int .u64 t) (fun b w hb hH => A6 rfl rfl (Bk Dg rfl) (hH.row 0 rfl) hb) ?_
    refine Ab rfl (.bool true) (fun b w hb hH => AV rfl rfl rfl (Dd h1) hb) ?_
    refine Ae Ai rfl ?_
    refine Ab rfl (.int .i64 v) (fun b w hb hH => A6 rfl rfl (Bk AR rfl) (hH.row 0 rfl) hb) ?_
    refine Ab rfl (.bool false) (fun b w hb hH => AV rfl rfl rfl (De (by omega)) hb) ?_
    refine Ae Ai rfl ?_
    refine Aa (Ay ?_)
    exact Av (.tmp rfl) (fun w h => ⟨rfl, AG h.up⟩) rfl
  · skip
    obtain rfl : r = false := by rw [← hr]; simp [h1]
    refine Ad ?_
    refine Ae Ai rfl ?_
    refine Ab rfl (.int .u64 t) (fun b w hb hH => A6 rfl rfl (Bk Dg rfl) (hH.row 0 rfl) hb) ?_
    refine Ab rfl (.bool false) (fun b w hb hH => AV rfl rfl rfl (EG (by omega)) hb) ?_
    refine Ae Ai rfl ?_
    refine Aa (Ay ?_)
    exact Av (.tmp rfl) (fun w h => ⟨rfl, AG h.up⟩) rfl
end Go.Proofs.YtnknboibmifacaaGreat.Sep
namespace Go.Proofs.YtnknboibmifacaaGreat.Sep
open Go.RowKit
open Go.Proofs.YtnknboibmifacaaGreat.Mem (Bl Co Chg AG)
theorem Fv {te : TypeId} {v : Value} {l : List PtT} {y : PtT} {j : Nat} (hj : l[j]? = some y) : CX (BM te v l) y.1 y.2 := Uq (u := y.1) (d := y.2) hj
theorem T0 {te : TypeId} {v : Value} {l : List PtT} {y : PtT} {j : Nat} (hj : l[j]? = some y) : ∀ rs, BM te v l rs → ∃ A c, y.1 = .slice A y.2.length c := fun rs h => by
 obtain ⟨a, b, rfl, _, h2⟩ := h
 obtain ⟨_, ys, _, _, h3, _⟩ := Ap.at_ (i := j) (o := As 5 1 encB y.1 y.2) h2.one' (by simp [hj])
 exact As.is h3
theorem QN {b : List UInt8} {ps : List (List UInt8)} {k : Nat} {z : HV} {n : Nat} (hl : BK b = (ps, k)) (h : Iu b = (z, n)) : Bz ((Kq ps).take (Kq ps).length) = z ∧ Cx (ps.take (Kq ps).length) = n := by
 unfold Iu at h
 rw [hl] at h
 rw [List.take_length]
 exact Prod.mk.inj h
theorem Mm {b : List UInt8} {ps : List (List UInt8)} {k : Nat} (hl : BK b = (ps, k)) (j : Nat) : Cx (ps.take j) ≤ b.length := by
 have h1 := Kp (BK b).1 j
 have h2 : (BK b).2 = Cx (BK b).1 := F7 b.length b
 have h3 : (BK b).2 ≤ b.length := HF b.length b
 rw [hl] at h1 h2 h3
 simp only at h1 h2 h3
 omega
theorem Lz {p : Nat} {d d' : DiskD} {z : HV} {e : Nat} (hf : d.fitK 2) (hbl : ∀ b, (BJ (Be d).1 hardN).getD [] = b → b.length ≤ 137438953472) (h : DF d = (d', z, e)) : AU Tryz.prog 12 #[.pointer (some ⟨p, 0, none⟩)] [Au p d] (fun (_ : Unit) => .tuple #[.agg #[.int .u64 ((z.1 : Nat) : Int), .int .i64 ((z.2 : Nat) : Int)], .int .i64 (e : Int)]) (fun (_ : Unit) => [Au p d']) := by
  refine Bd (args := [.pointer (some ⟨p, 0, none⟩)]) 79 Tryz.func12 rfl rfl rfl ?_; intro w rs
  obtain ⟨⟨d1, e1⟩, hrm⟩ : ∃ R, Be d = R := ⟨_, rfl⟩
  have hr1 : (Be d).1 = d1 := by rw [hrm]
  have hr2 : (Be d).2 = e1 := by rw [hrm]
  have hf1 : d1.fitK 1 := by rw [← hr1]; exact Jg hf
  obtain ⟨b, hb⟩ : ∃ b, (BJ d1 hardN).getD [] = b := ⟨_, rfl⟩
  obtain ⟨⟨z1, n1⟩, hlat⟩ : ∃ R, Iu b = R := ⟨_, rfl⟩
  obtain ⟨⟨d2, e2⟩, hcut⟩ : ∃ R, I3 d1 hardN (n1 : Int) = R := ⟨_, rfl⟩
  unfold DF at h
  rw [hr1, hr2, hb, hlat] at h
  simp only at h
  rw [hcut] at h
  simp only at h
  obtain ⟨ok, hok⟩ : ∃ ok, (BJ d1 hardN).isSome = ok := ⟨_, rfl⟩
  replace hbl : b.length ≤ 137438953472 := hbl b (by rw [hr1]; exact hb)
  obtain ⟨⟨ps, k9⟩, hls⟩ : ∃ R, BK b = R := ⟨_, rfl⟩
  obtain ⟨L, hLd⟩ : ∃ L, Kq ps = L := ⟨_, rfl⟩
  have hLl : L.length ≤ ps.length := by rw [← hLd]; exact MT ps
  have hlen : ∀ x, x ∈ ps → x.length ≤ 65536 := by have h7 := Gy b.length b; change ∀ x, x ∈ (BK b).1 → x.length ≤ 65536 at h7; rwa [hls] at h7
  have hpsl : ps.length ≤ b.length := by have h7 := Le b.length b; change (BK b).1.length * 8 ≤ (BK b).2 at h7; have h8 : (BK b).2 ≤ b.length := HF b.length b; rw [hls] at h7 h8; simp only at h7 h8; omega
  have hn1 : n1 ≤ b.length := by have := UO b; rw [hlat] at this; exact this
  refine Ad ?_
  refine Ae Ai rfl ?_
  refine Aj (post := fun g2 => [cell g2 31 #[.int .u64 0, .int .i64 0], Au p d]) rfl (BS Bq rfl) ?_; rintro g2
  refine Ae Ai rfl ?_
  refine Aa (Aq (Ad ?_))
  refine Ae Ai rfl ?_
  refine Ab rfl (.bool false) (fun b w hb hH => CJ (by kernel_rfl) rfl rfl rfl hb) ?_
  refine Aa (Ar rfl (Ax (AE (Aq ?_))))
  obtain ⟨r, hs⟩ : ∃ r, (BJ d newN).isSome = r := ⟨_, rfl⟩
  rcases Nat.eq_zero_or_pos e1 with he1 | he1
  · skip
    rw [if_neg (by omega)] at h
    refine Ad ?_
    refine Ae Ai rfl ?_
    refine Aj rfl (Al (os' := fun _ => [cell g2 31 #[.int .u64 0, .int .i64 0], Au p d]) [1] 0 (Ah Tryz.func35 (by kernel_rfl) rfl) (QM (n := newN) hs) rfl rfl rfl (fun _ => rfl) rfl rfl rfl) ?_; rintro ⟨⟩
    refine Aa ?_
    refine Se [(0, .pointer (some ⟨p, 0, none⟩)), (2, .pointer (some ⟨g2, 0, none⟩)), (3, .int .i64 0)] [cell g2 31 #[.int .u64 0, .int .i64 0], Au p d1] ?_ ?_
    · skip
      cases r
      · skip
        obtain rfl : d1 = d := by unfold Be at hrm; rw [if_neg (by rw [hs]; simp)] at hrm; exact (Prod.mk.inj hrm).1.symm
        refine Ar rfl (Ax ?_)
        exact PV 0 ⟨rfl, rfl, rfl, trivial⟩ rfl
      · skip
        have hdel : GH d newN = (d1, e1) := by unfold Be at hrm; rwa [if_pos hs] at hrm
        refine AC rfl (Ad ?_)
        refine Ae Ai rfl ?_
        refine Aj rfl (Al (os' := fun _ => [cell g2 31 #[.int .u64 0, .int .i64 0], Au p d1]) [1] 0 (Ah Tryz.func36 (by kernel_rfl) rfl) (M0 (n := newN) hf.fit hdel) rfl rfl rfl (fun _ => rfl) rfl rfl rfl) ?_; rintro ⟨⟩
        refine Ae Ai rfl ?_
        refine Aa (Ad ?_)
        refine Ae Ai rfl ?_
        refine Ab rfl (.bool false) (fun b w hb hH => AV rfl rfl rfl (AS (by omega)) hb) ?_
        refine Aa (Ar rfl (Ax ?_))
        exact PV 0 ⟨rfl, rfl, rfl, trivial⟩ rfl
    refine AE (Ad ?_)
    refine Ae Ai rfl ?_
    refine Aj rfl (Al (os' := fun rv => [cell g2 31 #[.int .u64 0, .int .i64 0], Ca p d1 rv b]) [1] 0 (Ah Tryz.func37 (by kernel_rfl) rfl) (JV (n := hardN) hok hb) rfl rfl rfl (fun _ => rfl) rfl rfl rfl) ?_; rintro rv
    refine Ae Ai rfl ?_
    refine Aa ?_
    refine Bv.fact 1 rfl UT ?_; rintro ⟨A9, c9, hrv⟩
    subst hrv
    refine Bv.keep (env' := [(0, .pointer (some ⟨p, 0, none⟩)), (2, .pointer (some ⟨g2, 0, none⟩)), (3, .int .i64 0), (27, .pointer (some ⟨p, 0, none⟩)), (28, .tuple #[.slice A9 b.length c9, .bool ok]), (26, .tuple #[.slice A9 b.length c9, .bool ok]), (29, .slice A9 b.length c9), (30, .bool ok), (5, .slice A9 b.length c9), (6, .bool ok)]) ⟨rfl, rfl, rfl, rfl, rfl, rfl, rfl, rfl, rfl, rfl, trivial⟩ ?_
    refine Bv.mid [cell g2 31 #[.int .u64 0, .int .i64 0], Ca p d1 (.slice A9 b.length c9) b] (.refl _) ?_
    refine Ad ?_
    refine Ae Ai rfl ?_
    refine Aj rfl (Al (os' := fun (x : PsV) => [BM 48 x.v x.l, fact (x.l.map (·.2) = ps), cell g2 31 #[.int .u64 0, .int .i64 0], Ca p d1 (.slice A9 b.length c9) b]) [1] 0 (Ah Tryz.func38 (by kernel_rfl) rfl) (Qi EZ hbl hls) rfl rfl rfl (fun _ => rfl) rfl rfl rfl) ?_; rintro x
    refine Cg.fact 1 rfl (fun _ h => h.2) ?_; rintro hxps
    refine Cg.leave [1] rfl rfl ?_
    replace hxps : x.l.map (·.2) = ps := hxps
    have hxl : x.l.length = ps.length := by rw [← hxps, List.length_map]
    refine Ae Ai rfl ?_
    refine Aa (Ad ?_)
    refine Ae Ai rfl ?_
    refine Aj (post := fun gh => [cell gh 31 #[.int .u64 0, .int .i64 0], BM 48 x.v x.l, cell g2 31 #[.int .u64 0, .int .i64 0], Ca p d1 (.slice A9 b.length c9) b]) rfl (BS Bq rfl) ?_; rintro gh
    refine Aa (Ad ?_)
    refine Ae Ai rfl ?_
    refine Aa (Aq (Ad ?_))
    refine Ae Ai rfl ?_
    refine Aa (Bb ?_)
    refine CO (α := Nat) (fun j => [(0, .pointer (some ⟨p, 0, none⟩)), (2, .pointer (some ⟨g2, 0, none⟩)), (3, .int .i64 0), (5, .slice A9 b.length c9), (7, x.v), (9, .pointer (some ⟨gh, 0, none⟩)), (10, .int .i64 ((Cx (ps.take j) : Nat) : Int)), (11, .int .i64 ((j : Nat) : Int))]) (fun j => [cell gh 31 #[.int .u64 (((Bz (L.take j)).1 : Nat) : Int), .int .i64 (((Bz (L.take j)).2 : Nat) : Int)], BM 48 x.v x.l, cell g2 31 #[.int .u64 0, .int .i64 0], Ca p d1 (.slice A9 b.length c9) b]) (fun j => j ≤ L.length) (fun j => L.length - j) 0 (Nat.zero_le _) ⟨rfl, rfl, rfl, rfl, rfl, rfl, rfl, rfl, trivial⟩ rfl ?_
    rintro j hI
    refine Bv.at_ (env' := [(0, .pointer (some ⟨p, 0, none⟩)), (2, .pointer (some ⟨g2, 0, none⟩)), (3, .int .i64 0), (5, .slice A9 b.length c9), (7, x.v), (9, .pointer (some ⟨gh, 0, none⟩)), (10, .int .i64 ((Cx (ps.take j) : Nat) : Int)), (11, .int .i64 ((j : Nat) : Int))]) (rs' := [cell gh 31 #[.int .u64 (((Bz (L.take j)).1 : Nat) : Int), .int .i64 (((Bz (L.take j)).2 : Nat) : Int)], BM 48 x.v x.l, cell g2 31 #[.int .u64 0, .int .i64 0], Ca p d1 (.slice A9 b.length c9) b]) ⟨rfl, rfl, rfl, rfl, rfl, rfl, rfl, rfl, trivial⟩ rfl ?_
    have hI1 : j ≤ L.length := hI
    have hs0 := Mm hls j
    refine Aq ?_
    rcases Nat.lt_or_ge j ps.length with hjp | hjp
    rcases Nat.lt_or_ge j L.length with hjL | hjL
    · skip
      obtain ⟨⟨v5, dd⟩, hxj⟩ : ∃ y, x.l[j]? = some y := ⟨_, List.getElem?_eq_getElem (by omega)⟩
      have hpj : ps[j]? = some dd := by rw [← hxps, List.getElem?_map, hxj]; rfl
      have hyl : dd.length ≤ 65536 := hlen _ (List.mem_of_getElem? hpj)
      obtain ⟨⟨n2, l2, f2⟩, hn2⟩ : ∃ R, B5 72057594037927935 dd 0 = R := ⟨_, rfl⟩
      obtain ⟨x3, l3, f3, hn3⟩ := Qd 7 l2 f2
      obtain ⟨r4, hn4⟩ : ∃ r, D6 l3 f3 = r := ⟨_, rfl⟩
      have hrd := G7 hn2 hn3
      rw [hn4] at hrd
      have hx3 := x3.toNat_lt
      obtain ⟨qv, hLj⟩ : ∃ q, L[j]? = some q := ⟨_, List.getElem?_eq_getElem hjL⟩
      obtain ⟨p9, hp1, hp2⟩ := MU (ps := ps) (by rw [hLd]; exact hLj)
      rw [hpj] at hp1
      obtain rfl := Option.some.inj hp1
      have hr4 : r4 = 0 := by by_cases e9 : r4 = 0; exact e9; rw [if_neg e9] at hrd; rw [hrd] at hp2; cases hp2
      rw [if_pos hr4, hp2] at hrd
      obtain rfl := Option.some.inj hrd
      have hst := HJ hpj
      have hs1 := Mm hls (j + 1)
      have hlj := It hLj
      refine Bv.fact 1 rfl (T0 hxj) ?_; rintro ⟨A5, c5, hv5⟩
      change v5 = .slice A5 dd.length c5 at hv5
      subst hv5
      refine Ad ?_
      refine Ae Ai rfl ?_
      refine Ab rfl (.int .i64 (x.l.length : Int)) (fun b w hb hH => OY 1 Tryz.underlying76 rfl rfl rfl hH hb) ?_
      refine Ab rfl (.bool true) (fun b w hb hH => AV rfl rfl rfl (A7 (by omega)) hb) ?_
      refine Aa (AC rfl (Ax (AE (Aq (Bb (Ad ?_))))))
      refine Ae Ai rfl ?_
      refine Ab rfl (BP x.v (j * 1)) (fun b w hb hH => OZ 1 Fp rfl j (by omega) rfl rfl rfl hH hb) ?_
      refine Ab rfl (.slice A5 dd.length c5) (fun b w hb hH => MH 1 C3 rfl j hxj rfl rfl hH hb) ?_
      refine Ab rfl (.agg #[.slice A5 dd.length c5, .int .i64 0, .int .i64 0]) (fun b w hb hH => Bg rfl rfl (by kernel_rfl) hb) ?_
      refine Aj (post := fun g12 => [cell g12 81 #[.slice A5 dd.length c5, .int .i64 0, .int .i64 0], cell gh 31 #[.int .u64 (((Bz (L.take j)).1 : Nat) : Int), .int .i64 (((Bz (L.take j)).2 : Nat) : Int)], BM 48 x.v x.l, cell g2 31 #[.int .u64 0, .int .i64 0], Ca p d1 (.slice A9 b.length c9) b]) rfl (CC (cs := #[.slice A5 dd.length c5, .int .i64 0, .int .i64 0]) rfl rfl rfl) ?_; rintro g12
      refine Ae Ai rfl ?_
      refine Aa ?_
      refine AX [0] rfl (TZ (b := dd)) rfl ?_
      refine Ad ?_
      refine Ae Ai rfl ?_
      refine Aj rfl (Al (os' := fun _ => [J0 (.slice A5 dd.length c5) dd g12 l2 f2, cell gh 31 #[.int .u64 (((Bz (L.take j)).1 : Nat) : Int), .int .i64 (((Bz (L.take j)).2 : Nat) : Int)], BM 48 x.v x.l, cell g2 31 #[.int .u64 0, .int .i64 0], Ca p d1 (.slice A9 b.length c9) b]) [0, 2] 0 (Ah Tryz.func39 (by kernel_rfl) rfl) (QK (Fv hxj) (by show dd.length ≤ _; omega) 72057594037927935 (by decide) (n2, l2, f2) hn2) rfl rfl rfl (fun _ => rfl) rfl rfl rfl) ?_; rintro ⟨⟩
      refine Ab rfl (.agg #[.int .u64 ((n2 : Nat) : Int), .int .i64 0]) (fun b w hb hH => Bg rfl rfl (by kernel_rfl) hb) ?_
      refine Aj (post := fun g13 => [cell g13 31 #[.int .u64 0, .int .i64 0], J0 (.slice A5 dd.length c5) dd g12 l2 f2, cell gh 31 #[.int .u64 (((Bz (L.take j)).1 : Nat) : Int), .int .i64 (((Bz (L.take j)).2 : Nat) : Int)], BM 48 x.v x.l, cell g2 31 #[.int .u64 0, .int .i64 0], Ca p d1 (.slice A9 b.length c9) b]) rfl (BS Bq rfl) ?_; rintro g13
      refine AH (post := fun _ => [cell g13 31 #[.int .u64 ((n2 : Nat) : Int), .int .i64 0], J0 (.slice A5 dd.length c5) dd g12 l2 f2, cell gh 31 #[.int .u64 (((Bz (L.take j)).1 : Nat) : Int), .int .i64 (((Bz (L.take j)).2 : Nat) : Int)], BM 48 x.v x.l, cell g2 31 #[.int .u64 0, .int .i64 0], Ca p d1 (.slice A9 b.length c9) b]) rfl rfl (AD 0 (v := .agg #[.int .u64 ((n2 : Nat) : Int), .int .i64 0]) #[.int .u64 ((n2 : Nat) : Int), .int .i64 0] Am.2 rfl rfl rfl rfl rfl rfl rfl rfl rfl) ?_; rintro ⟨⟩
      refine Aa (Ad ?_)
      refine Ae Ai rfl ?_
      refine Aj rfl (Al (os' := fun _ => [cell g13 31 #[.int .u64 ((n2 : Nat) : Int), .int .i64 0], J0 (.slice A5 dd.length c5) dd g12 l3 f3, cell gh 31 #[.int .u64 (((Bz (L.take j)).1 : Nat) : Int), .int .i64 (((Bz (L.take j)).2 : Nat) : Int)], BM 48 x.v x.l, cell g2 31 #[.int .u64 0, .int .i64 0], Ca p d1 (.slice A9 b.length c9) b]) [1, 3] 0 (Ah Tryz.func40 (by kernel_rfl) rfl) (Oq (Fv hxj) (by show dd.length ≤ _; omega) 7 (by decide) (x3.toNat, l3, f3) hn3) rfl rfl rfl (fun _ => rfl) rfl rfl rfl) ?_; rintro ⟨⟩
      refine Ab rfl (.int .i64 (x3.toNat : Int)) (fun b w hb hH => AY Tryz.underlying5 Tryz.underlying3 (IntWalk.i64_in _ (by omega)) rfl rfl hb) ?_
      refine Ae Ai rfl ?_
      refine AH (post := fun _ => [cell g13 31 #[.int .u64 ((n2 : Nat) : Int), .int .i64 (x3.toNat : Int)], J0 (.slice A5 dd.length c5) dd g12 l3 f3, cell gh 31 #[.int .u64 (((Bz (L.take j)).1 : Nat) : Int), .int .i64 (((Bz (L.take j)).2 : Nat) : Int)], BM 48 x.v x.l, cell g2 31 #[.int .u64 0, .int .i64 0], Ca p d1 (.slice A9 b.length c9) b]) rfl rfl (AD 0 (v := .int .i64 (x3.toNat : Int)) #[.int .u64 ((n2 : Nat) : Int), .int .i64 (x3.toNat : Int)] AR.2 rfl rfl rfl rfl rfl rfl rfl rfl rfl) ?_; rintro ⟨⟩
      refine Aa (Aq (Ad ?_))
      refine Ae Ai rfl ?_
      refine Aj rfl (Al (os' := fun _ => [cell g13 31 #[.int .u64 ((n2 : Nat) : Int), .int .i64 (x3.toNat : Int)], J0 (.slice A5 dd.length c5) dd g12 l3 f3, cell gh 31 #[.int .u64 (((Bz (L.take j)).1 : Nat) : Int), .int .i64 (((Bz (L.take j)).2 : Nat) : Int)], BM 48 x.v x.l, cell g2 31 #[.int .u64 0, .int .i64 0], Ca p d1 (.slice A9 b.length c9) b]) [1, 3] 0 (Ah Tryz.func41 (by kernel_rfl) rfl) (QL (Fv hxj) (by show dd.length ≤ _; omega) r4 hn4) rfl rfl rfl (fun _ => rfl) rfl rfl rfl) ?_; rintro ⟨⟩
      refine Ab rfl (.bool false) (fun b w hb hH => AV rfl rfl rfl (AS (by omega)) hb) ?_
      refine Aa (Ar rfl (Ax (AE (Ad ?_))))
      refine Ae Ai rfl ?_
      refine Ab rfl (.agg #[.int .u64 ((n2 : Nat) : Int), .int .i64 (x3.toNat : Int)]) (fun b w hb hH => A6 rfl rfl (D3 (cs := [.int .u64 ((n2 : Nat) : Int), .int .i64 (x3.toNat : Int)]) Am rfl) (hH.row 0 rfl) hb) ?_
      refine AH (post := fun _ => [cell g13 31 #[.int .u64 ((n2 : Nat) : Int), .int .i64 (x3.toNat : Int)], J0 (.slice A5 dd.length c5) dd g12 l3 f3, cell gh 31 #[.int .u64 ((n2 : Nat) : Int), .int .i64 (x3.toNat : Int)], BM 48 x.v x.l, cell g2 31 #[.int .u64 0, .int .i64 0], Ca p d1 (.slice A9 b.length c9) b]) rfl rfl (AD 2 (v := .agg #[.int .u64 ((n2 : Nat) : Int), .int .i64 (x3.toNat : Int)]) #[.int .u64 ((n2 : Nat) : Int), .int .i64 (x3.toNat : Int)] Am.2 rfl rfl rfl rfl rfl rfl rfl rfl rfl) ?_; rintro ⟨⟩
      refine Aa (Br ?_)
      refine Ae Ai rfl ?_
      refine Ab rfl (.int .i64 (((Cx (ps.take j) : Nat) : Int) + 8)) (fun b w hb hH => AN rfl rfl rfl rfl (IntWalk.i64_in _ (by omega)) hb) ?_
      refine Ae Ai rfl ?_
      refine Ab rfl (BP x.v (j * 1)) (fun b w hb hH => OZ 3 Fp rfl j (by omega) rfl rfl rfl hH hb) ?_
      refine Ab rfl (.slice A5 dd.length c5) (fun b w hb hH => MH 3 C3 rfl j hxj rfl rfl hH hb) ?_
      refine Ab rfl (.int .i64 (dd.length : Int)) (fun b w hb hH => AT (((hH.rd8 3 rfl (Fv hxj)).rd)) Tryz.underlying48 rfl rfl hb) ?_
      refine Ab rfl (.int .i64 ((Cx (ps.take (j + 1)) : Nat) : Int)) (fun b w hb hH => AN rfl rfl rfl rfl (by rw [IntWalk.i64_in _ (by omega)]; omega) hb) ?_
      refine Ae Ai rfl ?_
      refine AP (Bt (AE (Br ?_)))
      refine Ae Ai rfl ?_
      refine Ab rfl (.int .i64 ((j + 1 : Nat) : Int)) (fun b w hb hH => AN rfl rfl rfl rfl (by rw [IntWalk.i64_in _ (by omega)]; omega) hb) ?_
      refine Ae Ai rfl ?_
      refine AP ?_
      rw [show (((n2 : Nat) : Int) = (((Bz (L.take (j + 1))).1 : Nat) : Int)) by rw [hlj], show ((x3.toNat : Int) = (((Bz (L.take (j + 1))).2 : Nat) : Int)) by rw [hlj]]
      exact Cc (j + 1) 2 hjL (show L.length - (j + 1) < L.length - j by omega) ⟨rfl, rfl, rfl, rfl, rfl, rfl, rfl, rfl, trivial⟩ rfl
    · skip
      obtain ⟨⟨v5, dd⟩, hxj⟩ : ∃ y, x.l[j]? = some y := ⟨_, List.getElem?_eq_getElem (by omega)⟩
      have hpj : ps[j]? = some dd := by rw [← hxps, List.getElem?_map, hxj]; rfl
      have hyl : dd.length ≤ 65536 := hlen _ (List.mem_of_getElem? hpj)
      obtain ⟨⟨n2, l2, f2⟩, hn2⟩ : ∃ R, B5 72057594037927935 dd 0 = R := ⟨_, rfl⟩
      obtain ⟨x3, l3, f3, hn3⟩ := Qd 7 l2 f2
      obtain ⟨r4, hn4⟩ : ∃ r, D6 l3 f3 = r := ⟨_, rfl⟩
      have hrd := G7 hn2 hn3
      rw [hn4] at hrd
      have hx3 := x3.toNat_lt
      have hjE : j = L.length := by omega
      have hbad : EX dd = none := Ll (ps := ps) (by rw [hLd, ← hjE]; exact hpj)
      have hr4 : r4 ≠ 0 := fun e9 => by rw [if_pos e9, hbad] at hrd; cases hrd
      refine Bv.fact 1 rfl (T0 hxj) ?_; rintro ⟨A5, c5, hv5⟩
      change v5 = .slice A5 dd.length c5 at hv5
      subst hv5
      refine Ad ?_
      refine Ae Ai rfl ?_
      refine Ab rfl (.int .i64 (x.l.length : Int)) (fun b w hb hH => OY 1 Tryz.underlying76 rfl rfl rfl hH hb) ?_
      refine Ab rfl (.bool true) (fun b w hb hH => AV rfl rfl rfl (A7 (by omega)) hb) ?_
      refine Aa (AC rfl (Ax (AE (Aq (Bb (Ad ?_))))))
      refine Ae Ai rfl ?_
      refine Ab rfl (BP x.v (j * 1)) (fun b w hb hH => OZ 1 Fp rfl j (by omega) rfl rfl rfl hH hb) ?_
      refine Ab rfl (.slice A5 dd.length c5) (fun b w hb hH => MH 1 C3 rfl j hxj rfl rfl hH hb) ?_
      refine Ab rfl (.agg #[.slice A5 dd.length c5, .int .i64 0, .int .i64 0]) (fun b w hb hH => Bg rfl rfl (by kernel_rfl) hb) ?_
      refine Aj (post := fun g12 => [cell g12 81 #[.slice A5 dd.length c5, .int .i64 0, .int .i64 0], cell gh 31 #[.int .u64 (((Bz (L.take j)).1 : Nat) : Int), .int .i64 (((Bz (L.take j)).2 : Nat) : Int)], BM 48 x.v x.l, cell g2 31 #[.int .u64 0, .int .i64 0], Ca p d1 (.slice A9 b.length c9) b]) rfl (CC (cs := #[.slice A5 dd.length c5, .int .i64 0, .int .i64 0]) rfl rfl rfl) ?_; rintro g12
      refine Ae Ai rfl ?_
      refine Aa ?_
      refine AX [0] rfl (TZ (b := dd)) rfl ?_
      refine Ad ?_
      refine Ae Ai rfl ?_
      refine Aj rfl (Al (os' := fun _ => [J0 (.slice A5 dd.length c5) dd g12 l2 f2, cell gh 31 #[.int .u64 (((Bz (L.take j)).1 : Nat) : Int), .int .i64 (((Bz (L.take j)).2 : Nat) : Int)], BM 48 x.v x.l, cell g2 31 #[.int .u64 0, .int .i64 0], Ca p d1 (.slice A9 b.length c9) b]) [0, 2] 0 (Ah Tryz.func39 (by kernel_rfl) rfl) (QK (Fv hxj) (by show dd.length ≤ _; omega) 72057594037927935 (by decide) (n2, l2, f2) hn2) rfl rfl rfl (fun _ => rfl) rfl rfl rfl) ?_; rintro ⟨⟩
      refine Ab rfl (.agg #[.int .u64 ((n2 : Nat) : Int), .int .i64 0]) (fun b w hb hH => Bg rfl rfl (by kernel_rfl) hb) ?_
      refine Aj (post := fun g13 => [cell g13 31 #[.int .u64 0, .int .i64 0], J0 (.slice A5 dd.length c5) dd g12 l2 f2, cell gh 31 #[.int .u64 (((Bz (L.take j)).1 : Nat) : Int), .int .i64 (((Bz (L.take j)).2 : Nat) : Int)], BM 48 x.v x.l, cell g2 31 #[.int .u64 0, .int .i64 0], Ca p d1 (.slice A9 b.length c9) b]) rfl (BS Bq rfl) ?_; rintro g13
      refine AH (post := fun _ => [cell g13 31 #[.int .u64 ((n2 : Nat) : Int), .int .i64 0], J0 (.slice A5 dd.length c5) dd g12 l2 f2, cell gh 31 #[.int .u64 (((Bz (L.take j)).1 : Nat) : Int), .int .i64 (((Bz (L.take j)).2 : Nat) : Int)], BM 48 x.v x.l, cell g2 31 #[.int .u64 0, .int .i64 0], Ca p d1 (.slice A9 b.length c9) b]) rfl rfl (AD 0 (v := .agg #[.int .u64 ((n2 : Nat) : Int), .int .i64 0]) #[.int .u64 ((n2 : Nat) : Int), .int .i64 0] Am.2 rfl rfl rfl rfl rfl rfl rfl rfl rfl) ?_; rintro ⟨⟩
      refine Aa (Ad ?_)
      refine Ae Ai rfl ?_
      refine Aj rfl (Al (os' := fun _ => [cell g13 31 #[.int .u64 ((n2 : Nat) : Int), .int .i64 0], J0 (.slice A5 dd.length c5) dd g12 l3 f3, cell gh 31 #[.int .u64 (((Bz (L.take j)).1 : Nat) : Int), .int .i64 (((Bz (L.take j)).2 : Nat) : Int)], BM 48 x.v x.l, cell g2 31 #[.int .u64 0, .int .i64 0], Ca p d1 (.slice A9 b.length c9) b]) [1, 3] 0 (Ah Tryz.func40 (by kernel_rfl) rfl) (Oq (Fv hxj) (by show dd.length ≤ _; omega) 7 (by decide) (x3.toNat, l3, f3) hn3) rfl rfl rfl (fun _ => rfl) rfl rfl rfl) ?_; rintro ⟨⟩
      refine Ab rfl (.int .i64 (x3.toNat : Int)) (fun b w hb hH => AY Tryz.underlying5 Tryz.underlying3 (IntWalk.i64_in _ (by omega)) rfl rfl hb) ?_
      refine Ae Ai rfl ?_
      refine AH (post := fun _ => [cell g13 31 #[.int .u64 ((n2 : Nat) : Int), .int .i64 (x3.toNat : Int)], J0 (.slice A5 dd.length c5) dd g12 l3 f3, cell gh 31 #[.int .u64 (((Bz (L.take j)).1 : Nat) : Int), .int .i64 (((Bz (L.take j)).2 : Nat) : Int)], BM 48 x.v x.l, cell g2 31 #[.int .u64 0, .int .i64 0], Ca p d1 (.slice A9 b.length c9) b]) rfl rfl (AD 0 (v := .int .i64 (x3.toNat : Int)) #[.int .u64 ((n2 : Nat) : Int), .int .i64 (x3.toNat : Int)] AR.2 rfl rfl rfl rfl rfl rfl rfl rfl rfl) ?_; rintro ⟨⟩
      refine Aa (Aq (Ad ?_))
      refine Ae Ai rfl ?_
      refine Aj rfl (Al (os' := fun _ => [cell g13 31 #[.int .u64 ((n2 : Nat) : Int), .int .i64 (x3.toNat : Int)], J0 (.slice A5 dd.length c5) dd g12 l3 f3, cell gh 31 #[.int .u64 (((Bz (L.take j)).1 : Nat) : Int), .int .i64 (((Bz (L.take j)).2 : Nat) : Int)], BM 48 x.v x.l, cell g2 31 #[.int .u64 0, .int .i64 0], Ca p d1 (.slice A9 b.length c9) b]) [1, 3] 0 (Ah Tryz.func41 (by kernel_rfl) rfl) (QL (Fv hxj) (by show dd.length ≤ _; omega) r4 hn4) rfl rfl rfl (fun _ => rfl) rfl rfl rfl) ?_; rintro ⟨⟩
      refine Ab rfl (.bool true) (fun b w hb hH => AV rfl rfl rfl (BQ (by omega)) hb) ?_
      refine Aa (AC rfl (Cu (E0 (EP (by decide) (E0 (E0 (Bh (AE (Aq ?_)))))))))
      obtain ⟨hz1, hz2⟩ := QN hls hlat
      rw [hLd, ← hjE] at hz1 hz2
      rw [hz1, hz2]
      rcases Nat.lt_or_ge n1 b.length with hlt | hge
      · skip
        rw [if_pos hlt] at h
        refine Ad ?_
        refine Ae Ai rfl ?_
        refine Ab rfl (.int .i64 (b.length : Int)) (fun b w hb hH => AT (((hH.rd8 5 rfl EZ).rd)) Tryz.underlying48 rfl rfl hb) ?_
        refine Ab rfl (.bool true) (fun b w hb hH => AV rfl rfl rfl (A7 (by omega)) hb) ?_
        refine Aa (AC rfl ?_)
        refine AX [5] rfl DQ rfl ?_
        refine Ad ?_
        refine Ae Ai rfl ?_
        refine Aj rfl (Al (os' := fun _ => [Au p d2, cell g13 31 #[.int .u64 ((n2 : Nat) : Int), .int .i64 (x3.toNat : Int)], J0 (.slice A5 dd.length c5) dd g12 l3 f3, cell gh 31 #[.int .u64 ((z1.1 : Nat) : Int), .int .i64 ((z1.2 : Nat) : Int)], BM 48 x.v x.l, cell g2 31 #[.int .u64 0, .int .i64 0]]) [0] 0 (Ah Tryz.func42 (by kernel_rfl) rfl) (Ol (n := hardN) hf1.fit (by omega) hcut) rfl rfl rfl (fun _ => rfl) rfl rfl rfl) ?_; rintro ⟨⟩
        refine Ae Ai rfl ?_
        refine Aa ?_
        rcases Nat.eq_zero_or_pos e2 with he2 | he2
        · skip
          rw [if_neg (by omega)] at h
          obtain ⟨rfl, rfl, rfl⟩ : d2 = d' ∧ z1 = z ∧ 0 = e := by simpa [Prod.ext_iff] using h
          refine Ad ?_
          refine Ae Ai rfl ?_
          refine Ab rfl (.bool false) (fun b w hb hH => AV rfl rfl rfl (AS (by omega)) hb) ?_
          refine Aa (Ar rfl (Ax (AE (Ad ?_))))
          refine Ae Ai rfl ?_
          refine Ab rfl (.agg #[.int .u64 ((z1.1 : Nat) : Int), .int .i64 ((z1.2 : Nat) : Int)]) (fun b w hb hH => A6 rfl rfl (D3 (cs := [.int .u64 ((z1.1 : Nat) : Int), .int .i64 ((z1.2 : Nat) : Int)]) Am rfl) (hH.row 3 rfl) hb) ?_
          refine AH (post := fun _ => [Au p d2, cell g13 31 #[.int .u64 ((n2 : Nat) : Int), .int .i64 (x3.toNat : Int)], J0 (.slice A5 dd.length c5) dd g12 l3 f3, cell gh 31 #[.int .u64 ((z1.1 : Nat) : Int), .int .i64 ((z1.2 : Nat) : Int)], BM 48 x.v x.l, cell g2 31 #[.int .u64 ((z1.1 : Nat) : Int), .int .i64 ((z1.2 : Nat) : Int)]]) rfl rfl (AD 5 (v := .agg #[.int .u64 ((z1.1 : Nat) : Int), .int .i64 ((z1.2 : Nat) : Int)]) #[.int .u64 ((z1.1 : Nat) : Int), .int .i64 ((z1.2 : Nat) : Int)] Am.2 rfl rfl rfl rfl rfl rfl rfl rfl rfl) ?_; rintro ⟨⟩
          refine Ae Ai rfl ?_
          refine Aa (Ay ?_)
          exact B3 (.cell 5 (v := .agg #[.int .u64 ((z1.1 : Nat) : Int), .int .i64 ((z1.2 : Nat) : Int)]) (D3 (cs := [.int .u64 ((z1.1 : Nat) : Int), .int .i64 ((z1.2 : Nat) : Int)]) Am rfl) rfl rfl) (.tmp rfl) (fun w h => AB () rfl [0] rfl h Cl) rfl
        · skip
          rw [if_pos (by omega)] at h
          obtain ⟨rfl, rfl, rfl⟩ : d2 = d' ∧ (0, 0) = z ∧ e2 = e := by simpa [Prod.ext_iff] using h
          refine Ad ?_
          refine Ae Ai rfl ?_
          refine Ab rfl (.bool true) (fun b w hb hH => AV rfl rfl rfl (BQ (by omega)) hb) ?_
          refine Aa (AC rfl (Ad ?_))
          refine Ae Ai rfl ?_
          refine Ab rfl (.agg #[.int .u64 0, .int .i64 0]) (fun b w hb hH => Bg rfl rfl (by kernel_rfl) hb) ?_
          refine Ae Ai rfl ?_
          refine AH (post := fun _ => [Au p d2, cell g13 31 #[.int .u64 ((n2 : Nat) : Int), .int .i64 (x3.toNat : Int)], J0 (.slice A5 dd.length c5) dd g12 l3 f3, cell gh 31 #[.int .u64 ((z1.1 : Nat) : Int), .int .i64 ((z1.2 : Nat) : Int)], BM 48 x.v x.l, cell g2 31 #[.int .u64 0, .int .i64 0]]) rfl rfl (AD 5 (v := .agg #[.int .u64 0, .int .i64 0]) #[.int .u64 0, .int .i64 0] Am.2 rfl rfl rfl rfl rfl rfl rfl rfl rfl) ?_; rintro ⟨⟩
          refine Ae Ai rfl ?_
          refine Aa (Ay (CM ?_))
          exact B3 (.cell 5 (v := .agg #[.int .u64 0, .int .i64 0]) (D3 (cs := [.int .u64 0, .int .i64 0]) Am rfl) rfl rfl) (.tmp rfl) (fun w h => AB () rfl [0] rfl h Cl) rfl
      · skip
        rw [if_neg (by omega)] at h
        obtain ⟨rfl, rfl, rfl⟩ : d1 = d' ∧ z1 = z ∧ 0 = e := by simpa [Prod.ext_iff] using h
        refine Ad ?_
        refine Ae Ai rfl ?_
        refine Ab rfl (.int .i64 (b.length : Int)) (fun b w hb hH => AT (((hH.rd8 5 rfl EZ).rd)) Tryz.underlying48 rfl rfl hb) ?_
        refine Ab rfl (.bool false) (fun b w hb hH => AV rfl rfl rfl (Bn (by omega)) hb) ?_
        refine Aa (Ar rfl (Ax (AE ?_)))
        refine AX [5] rfl DQ rfl ?_
        refine Ad ?_
        refine Ae Ai rfl ?_
        refine Ab rfl (.agg #[.int .u64 ((z1.1 : Nat) : Int), .int .i64 ((z1.2 : Nat) : Int)]) (fun b w hb hH => A6 rfl rfl (D3 (cs := [.int .u64 ((z1.1 : Nat) : Int), .int .i64 ((z1.2 : Nat) : Int)]) Am rfl) (hH.row 3 rfl) hb) ?_
        refine AH (post := fun _ => [Au p d1, cell g13 31 #[.int .u64 ((n2 : Nat) : Int), .int .i64 (x3.toNat : Int)], J0 (.slice A5 dd.length c5) dd g12 l3 f3, cell gh 31 #[.int .u64 ((z1.1 : Nat) : Int), .int .i64 ((z1.2 : Nat) : Int)], BM 48 x.v x.l, cell g2 31 #[.int .u64 ((z1.1 : Nat) : Int), .int .i64 ((z1.2 : Nat) : Int)]]) rfl rfl (AD 5 (v := .agg #[.int .u64 ((z1.1 : Nat) : Int), .int .i64 ((z1.2 : Nat) : Int)]) #[.int .u64 ((z1.1 : Nat) : Int), .int .i64 ((z1.2 : Nat) : Int)] Am.2 rfl rfl rfl rfl rfl rfl rfl rfl rfl) ?_; rintro ⟨⟩
        refine Ae Ai rfl ?_
        refine Aa (Ay ?_)
        exact B3 (.cell 5 (v := .agg #[.int .u64 ((z1.1 : Nat) : Int), .int .i64 ((z1.2 : Nat) : Int)]) (D3 (cs := [.int .u64 ((z1.1 : Nat) : Int), .int .i64 ((z1.2 : Nat) : Int)]) Am rfl) rfl rfl) (.tmp rfl) (fun w h => AB () rfl [0] rfl h Cl) rfl
    · skip
      have hjE : j = L.length := by omega
      refine Ad ?_
      refine Ae Ai rfl ?_
      refine Ab rfl (.int .i64 (x.l.length : Int)) (fun b w hb hH => OY 1 Tryz.underlying76 rfl rfl rfl hH hb) ?_
      refine Ab rfl (.bool false) (fun b w hb hH => AV rfl rfl rfl (Bn (by omega)) hb) ?_
      refine Aa (Ar rfl (Cu (E0 (E0 (Bh (AE (Aq ?_)))))))
      obtain ⟨hz1, hz2⟩ := QN hls hlat
      rw [hLd, ← hjE] at hz1 hz2
      rw [hz1, hz2]
      rcases Nat.lt_or_ge n1 b.length with hlt | hge
      · skip
        rw [if_pos hlt] at h
        refine Ad ?_
        refine Ae Ai rfl ?_
        refine Ab rfl (.int .i64 (b.length : Int)) (fun b w hb hH => AT (((hH.rd8 3 rfl EZ).rd)) Tryz.underlying48 rfl rfl hb) ?_
        refine Ab rfl (.bool true) (fun b w hb hH => AV rfl rfl rfl (A7 (by omega)) hb) ?_
        refine Aa (AC rfl ?_)
        refine AX [3] rfl DQ rfl ?_
        refine Ad ?_
        refine Ae Ai rfl ?_
        refine Aj rfl (Al (os' := fun _ => [Au p d2, cell gh 31 #[.int .u64 ((z1.1 : Nat) : Int), .int .i64 ((z1.2 : Nat) : Int)], BM 48 x.v x.l, cell g2 31 #[.int .u64 0, .int .i64 0]]) [0] 0 (Ah Tryz.func42 (by kernel_rfl) rfl) (Ol (n := hardN) hf1.fit (by omega) hcut) rfl rfl rfl (fun _ => rfl) rfl rfl rfl) ?_; rintro ⟨⟩
        refine Ae Ai rfl ?_
        refine Aa ?_
        rcases Nat.eq_zero_or_pos e2 with he2 | he2
        · skip
          rw [if_neg (by omega)] at h
          obtain ⟨rfl, rfl, rfl⟩ : d2 = d' ∧ z1 = z ∧ 0 = e := by simpa [Prod.ext_iff] using h
          refine Ad ?_
          refine Ae Ai rfl ?_
          refine Ab rfl (.bool false) (fun b w hb hH => AV rfl rfl rfl (AS (by omega)) hb) ?_
          refine Aa (Ar rfl (Ax (AE (Ad ?_))))
          refine Ae Ai rfl ?_
          refine Ab rfl (.agg #[.int .u64 ((z1.1 : Nat) : Int), .int .i64 ((z1.2 : Nat) : Int)]) (fun b w hb hH => A6 rfl rfl (D3 (cs := [.int .u64 ((z1.1 : Nat) : Int), .int .i64 ((z1.2 : Nat) : Int)]) Am rfl) (hH.row 1 rfl) hb) ?_
          refine AH (post := fun _ => [Au p d2, cell gh 31 #[.int .u64 ((z1.1 : Nat) : Int), .int .i64 ((z1.2 : Nat) : Int)], BM 48 x.v x.l, cell g2 31 #[.int .u64 ((z1.1 : Nat) : Int), .int .i64 ((z1.2 : Nat) : Int)]]) rfl rfl (AD 3 (v := .agg #[.int .u64 ((z1.1 : Nat) : Int), .int .i64 ((z1.2 : Nat) : Int)]) #[.int .u64 ((z1.1 : Nat) : Int), .int .i64 ((z1.2 : Nat) : Int)] Am.2 rfl rfl rfl rfl rfl rfl rfl rfl rfl) ?_; rintro ⟨⟩
          refine Ae Ai rfl ?_
          refine Aa (Ay ?_)
          exact B3 (.cell 3 (v := .agg #[.int .u64 ((z1.1 : Nat) : Int), .int .i64 ((z1.2 : Nat) : Int)]) (D3 (cs := [.int .u64 ((z1.1 : Nat) : Int), .int .i64 ((z1.2 : Nat) : Int)]) Am rfl) rfl rfl) (.tmp rfl) (fun w h => AB () rfl [0] rfl h Cl) rfl
        · skip
          rw [if_pos (by omega)] at h
          obtain ⟨rfl, rfl, rfl⟩ : d2 = d' ∧ (0, 0) = z ∧ e2 = e := by simpa [Prod.ext_iff] using h
          refine Ad ?_
          refine Ae Ai rfl ?_
          refine Ab rfl (.bool true) (fun b w hb hH => AV rfl rfl rfl (BQ (by omega)) hb) ?_
          refine Aa (AC rfl (Ad ?_))
          refine Ae Ai rfl ?_
          refine Ab rfl (.agg #[.int .u64 0, .int .i64 0]) (fun b w hb hH => Bg rfl rfl (by kernel_rfl) hb) ?_
          refine Ae Ai rfl ?_
          refine AH (post := fun _ => [Au p d2, cell gh 31 #[.int .u64 ((z1.1 : Nat) : Int), .int .i64 ((z1.2 : Nat) : Int)], BM 48 x.v x.l, cell g2 31 #[.int .u64 0, .int .i64 0]]) rfl rfl (AD 3 (v := .agg #[.int .u64 0, .int .i64 0]) #[.int .u64 0, .int .i64 0] Am.2 rfl rfl rfl rfl rfl rfl rfl rfl rfl) ?_; rintro ⟨⟩
          refine Ae Ai rfl ?_
          refine Aa (Ay (CM ?_))
          exact B3 (.cell 3 (v := .agg #[.int .u64 0, .int .i64 0]) (D3 (cs := [.int .u64 0, .int .i64 0]) Am rfl) rfl rfl) (.tmp rfl) (fun w h => AB () rfl [0] rfl h Cl) rfl
      · skip
        rw [if_neg (by omega)] at h
        obtain ⟨rfl, rfl, rfl⟩ : d1 = d' ∧ z1 = z ∧ 0 = e := by simpa [Prod.ext_iff] using h
        refine Ad ?_
        refine Ae Ai rfl ?_
        refine Ab rfl (.int .i64 (b.length : Int)) (fun b w hb hH => AT (((hH.rd8 3 rfl EZ).rd)) Tryz.underlying48 rfl rfl hb) ?_
        refine Ab rfl (.bool false) (fun b w hb hH => AV rfl rfl rfl (Bn (by omega)) hb) ?_
        refine Aa (Ar rfl (Ax (AE ?_)))
        refine AX [3] rfl DQ rfl ?_
        refine Ad ?_
        refine Ae Ai rfl ?_
        refine Ab rfl (.agg #[.int .u64 ((z1.1 : Nat) : Int), .int .i64 ((z1.2 : Nat) : Int)]) (fun b w hb hH => A6 rfl rfl (D3 (cs := [.int .u64 ((z1.1 : Nat) : Int), .int .i64 ((z1.2 : Nat) : Int)]) Am rfl) (hH.row 1 rfl) hb) ?_
        refine AH (post := fun _ => [Au p d1, cell gh 31 #[.int .u64 ((z1.1 : Nat) : Int), .int .i64 ((z1.2 : Nat) : Int)], BM 48 x.v x.l, cell g2 31 #[.int .u64 ((z1.1 : Nat) : Int), .int .i64 ((z1.2 : Nat) : Int)]]) rfl rfl (AD 3 (v := .agg #[.int .u64 ((z1.1 : Nat) : Int), .int .i64 ((z1.2 : Nat) : Int)]) #[.int .u64 ((z1.1 : Nat) : Int), .int .i64 ((z1.2 : Nat) : Int)] Am.2 rfl rfl rfl rfl rfl rfl rfl rfl rfl) ?_; rintro ⟨⟩
        refine Ae Ai rfl ?_
        refine Aa (Ay ?_)
        exact B3 (.cell 3 (v := .agg #[.int .u64 ((z1.1 : Nat) : Int), .int .i64 ((z1.2 : Nat) : Int)]) (D3 (cs := [.int .u64 ((z1.1 : Nat) : Int), .int .i64 ((z1.2 : Nat) : Int)]) Am rfl) rfl rfl) (.tmp rfl) (fun w h => AB () rfl [0] rfl h Cl) rfl
  · skip
    have hs2 : (BJ d newN).isSome = true := by cases h9 : (BJ d newN).isSome with | true => rfl | false => (exfalso; unfold Be at hrm; rw [if_neg (by rw [h9]; simp)] at hrm; have := (Prod.mk.inj hrm).2; omega)
    obtain rfl : r = true := hs.symm.trans hs2
    have hdel : GH d newN = (d1, e1) := by unfold Be at hrm; rwa [if_pos hs] at hrm
    rw [if_pos (by omega)] at h
    obtain ⟨rfl, rfl, rfl⟩ : d1 = d' ∧ (0, 0) = z ∧ e1 = e := by simpa [Prod.ext_iff] using h
    refine Ad ?_
    refine Ae Ai rfl ?_
    refine Aj rfl (Al (os' := fun _ => [cell g2 31 #[.int .u64 0, .int .i64 0], Au p d]) [1] 0 (Ah Tryz.func35 (by kernel_rfl) rfl) (QM (n := newN) hs) rfl rfl rfl (fun _ => rfl) rfl rfl rfl) ?_; rintro ⟨⟩
    refine Aa (AC rfl (Ad ?_))
    refine Ae Ai rfl ?_
    refine Aj rfl (Al (os' := fun _ => [cell g2 31 #[.int .u64 0, .int .i64 0], Au p d1]) [1] 0 (Ah Tryz.func36 (by kernel_rfl) rfl) (M0 (n := newN) hf.fit hdel) rfl rfl rfl (fun _ => rfl) rfl rfl rfl) ?_; rintro ⟨⟩
    refine Ae Ai rfl ?_
    refine Aa (Ad ?_)
    refine Ae Ai rfl ?_
    refine Ab rfl (.bool true) (fun b w hb hH => AV rfl rfl rfl (BQ (by omega)) hb) ?_
    refine Aa (AC rfl (Ad ?_))
    refine Ae Ai rfl ?_
    refine Ab rfl (.agg #[.int .u64 0, .int .i64 0]) (fun b w hb hH => Bg rfl rfl (by kernel_rfl) hb) ?_
    refine Ae Ai rfl ?_
    refine AH (post := fun _ => [cell g2 31 #[.int .u64 0, .int .i64 0], Au p d1]) rfl rfl (AD 0 (v := .agg #[.int .u64 0, .int .i64 0]) #[.int .u64 0, .int .i64 0] Am.2 rfl rfl rfl rfl rfl rfl rfl rfl rfl) ?_; rintro ⟨⟩
    refine Ae Ai rfl ?_
    refine Aa (Ay (CM ?_))
    exact B3 (.cell 0 (v := .agg #[.int .u64 0, .int .i64 0]) (D3 (cs := [.int .u64 0, .int .i64 0]) Am rfl) rfl rfl) (.tmp rfl) (fun w h => AB () rfl [1] rfl h Cl) rfl
end Go.Proofs.YtnknboibmifacaaGreat.Sep
