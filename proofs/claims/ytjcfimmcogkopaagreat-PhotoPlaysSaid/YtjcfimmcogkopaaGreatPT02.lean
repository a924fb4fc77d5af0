/-
  PhT
-/
import Derived.Test.YtjcfimmcogkopaaGreatPN01
import Derived.Test.YtjcfimmcogkopaaGreatPP03
import Derived.Test.YtjcfimmcogkopaaGreatPR01
import Derived.Test.YtjcfimmcogkopaaGreatPS01
import Derived.Test.YtjcfimmcogkopaaGreatPT01
set_option linter.unusedSimpArgs false
set_option linter.unusedVariables false
set_option maxRecDepth 100000
namespace Go.Proofs.YtjcfimmcogkopaaGreat.Sep
open Go.RowKit
open Go.Proofs.YtjcfimmcogkopaaGreat.Mem (Bh Cs Chg AA)
theorem XD (w : World) (i t c : Int) {A : Option Addr} {n cp : Nat} (r : Bool) (hr : ((EC i && EC t && GU c && (c != 0)) && decide (n ≤ 32768)) = r) : Calls Tryz.prog 16 #[.agg #[.int .u64 i, .int .u64 t, .int .i64 c, .slice A n cp]] w fun e w' => e = .returned (.bool r) ∧ Below w.heap.size w w' := by
 refine Fj (args := [.agg #[.int .u64 i, .int .u64 t, .int .i64 c, .slice A n cp]]) 12 Tryz.func16 rfl rfl rfl (Ad (Ae Ag rfl (Aj (post := fun g => [cell g 34 #[.int .u64 i, .int .u64 t, .int .i64 c, .slice A n cp]]) rfl (CL (cs := #[.int .u64 i, .int .u64 t, .int .i64 c, .slice A n cp]) rfl rfl rfl) ?_))); rintro g
 refine Ae Ag rfl (Ab ?_)
 rcases hb1 : (EC i && EC t && GU c && (c != 0)) with _ | _
 rotate_left
 rcases Classical.em (n ≤ 32768) with hn | hn
 obtain rfl : r = true := by rw [← hr, hb1]; simp [hn]
 refine Ad (Ae Ag rfl (Aa rfl (.agg #[.int .u64 i, .int .u64 t, .int .i64 c]) (fun b w hb hH => Ba rfl rfl (DM (cs := [.int .u64 i, .int .u64 t, .int .i64 c, .slice A n cp]) CU rfl) (hH.row 0 rfl) hb) (Aj (post := fun _ => [cell g 34 #[.int .u64 i, .int .u64 t, .int .i64 c, .slice A n cp]]) rfl (AU (Ai Tryz.func46 (by kernel_rfl) rfl) (fun w hH => JR w i t c true hb1) rfl rfl rfl) ?_))); rintro ⟨⟩
 refine Ae Ag rfl (Aa rfl (.slice A n cp) (fun b w hb hH => Ba rfl rfl (Bm Cx rfl) (hH.row 0 rfl) hb) (Aa rfl (.int .i64 (n : Int)) (fun b w hb hH => FT AJ rfl rfl hH hb) (Aa rfl (.bool true) (fun b w hb hH => AZ rfl rfl rfl (Dk (by omega)) hb) (Ae Ag rfl (Ab (Ax ?_))))))
 exact Aw (.tmp rfl) (fun w h => ⟨rfl, AA h.up⟩) rfl
 obtain rfl : r = false := by rw [← hr, hb1]; simp [hn]
 refine Ad (Ae Ag rfl (Aa rfl (.agg #[.int .u64 i, .int .u64 t, .int .i64 c]) (fun b w hb hH => Ba rfl rfl (DM (cs := [.int .u64 i, .int .u64 t, .int .i64 c, .slice A n cp]) CU rfl) (hH.row 0 rfl) hb) (Aj (post := fun _ => [cell g 34 #[.int .u64 i, .int .u64 t, .int .i64 c, .slice A n cp]]) rfl (AU (Ai Tryz.func46 (by kernel_rfl) rfl) (fun w hH => JR w i t c true hb1) rfl rfl rfl) ?_))); rintro ⟨⟩
 refine Ae Ag rfl (Aa rfl (.slice A n cp) (fun b w hb hH => Ba rfl rfl (Bm Cx rfl) (hH.row 0 rfl) hb) (Aa rfl (.int .i64 (n : Int)) (fun b w hb hH => FT AJ rfl rfl hH hb) (Aa rfl (.bool false) (fun b w hb hH => AZ rfl rfl rfl (DO (by omega)) hb) (Ae Ag rfl (Ab (Ax ?_))))))
 exact Aw (.tmp rfl) (fun w h => ⟨rfl, AA h.up⟩) rfl
 obtain rfl : r = false := by rw [← hr, hb1]; rfl
 refine Ad (Ae Ag rfl (Aa rfl (.agg #[.int .u64 i, .int .u64 t, .int .i64 c]) (fun b w hb hH => Ba rfl rfl (DM (cs := [.int .u64 i, .int .u64 t, .int .i64 c, .slice A n cp]) CU rfl) (hH.row 0 rfl) hb) (Aj (post := fun _ => [cell g 34 #[.int .u64 i, .int .u64 t, .int .i64 c, .slice A n cp]]) rfl (AU (Ai Tryz.func46 (by kernel_rfl) rfl) (fun w hH => JR w i t c false hb1) rfl rfl rfl) ?_))); rintro ⟨⟩
 refine Ae Ag rfl (Ab (Ax ?_))
 exact Aw (.tmp rfl) (fun w h => ⟨rfl, AA h.up⟩) rfl
theorem FC (w : World) {s : SnV} {A : Option Addr} {cp : Nat} (r : Bool) (h : D9 s = r) : Calls Tryz.prog 16 #[.agg #[.int .u64 s.i, .int .u64 s.t, .int .i64 s.c, .slice A s.d.length cp]] w fun e w' => e = .returned (.bool r) ∧ Below w.heap.size w w' :=
 XD w _ _ _ r h
theorem RI {te : TypeId} {v : Value} {l : List PtT} {y : PtT} {j : Nat} (hj : l[j]? = some y) : ∀ rs, Bb te v l rs → ∃ A c, y.1 = .slice A y.2.length c := fun rs h => by
 obtain ⟨a, b, rfl, _, h2⟩ := h
 obtain ⟨_, ys, _, _, h3, _⟩ := Al.at_ (i := j) (o := Ar 5 1 encB y.1 y.2) h2.one' (by simp [hj])
 exact Ar.is h3
theorem QF {q : Nat} {d d' : DiskD} {s : SnV} {e : Nat} (hf : d.fitK 2) (hbl : ∀ b, (Bx (Ce d).1 snapN).getD [] = b → b.length ≤ 137438953472) (h : C5 d = (d', some s, e)) : AX Tryz.prog 12 #[.pointer (some ⟨q, 0, none⟩)] [An q d] (fun (x : Option Addr × Nat) => .tuple #[.agg #[.int .u64 s.i, .int .u64 s.t, .int .i64 s.c, .slice x.1 s.d.length x.2], .bool true, .int .i64 (e : Int)]) (fun (x : Option Addr × Nat) => [An q d', Ar 5 1 encB (.slice x.1 s.d.length x.2) s.d]) := by
  refine Bg (args := [.pointer (some ⟨q, 0, none⟩)]) 74 Tryz.func12 rfl rfl rfl ?_; intro w rs
  obtain ⟨⟨d1, e1⟩, hrm⟩ : ∃ R, Ce d = R := ⟨_, rfl⟩
  have hr1 : (Ce d).1 = d1 := by rw [hrm]
  have hr2 : (Ce d).2 = e1 := by rw [hrm]
  have hf1 : d1.fitK 1 := by rw [← hr1]; exact FN hf
  obtain ⟨b, hb⟩ : ∃ b, (Bx d1 snapN).getD [] = b := ⟨_, rfl⟩
  unfold C5 at h
  rw [hr1, hr2, hb] at h
  obtain ⟨ok, hok⟩ : ∃ ok, (Bx d1 snapN).isSome = ok := ⟨_, rfl⟩
  replace hbl : b.length ≤ 137438953472 := hbl b (by rw [hr1]; exact hb)
  have he1 : e1 = 0 := by by_cases h9 : e1 = 0; exact h9; rw [if_pos h9] at h; cases h
  rw [if_neg (by omega)] at h
  obtain ⟨rfl, ho, rfl⟩ : d1 = d' ∧ Ev b = some s ∧ 0 = e := by simpa [Prod.ext_iff] using h
  obtain ⟨p, hls, hrd⟩ := OW ho
  obtain ⟨ps, hps⟩ : ∃ ps, ps = [p] := ⟨_, rfl⟩
  obtain ⟨k, hk⟩ : ∃ k, k = b.length := ⟨_, rfl⟩
  rw [← hps, ← hk] at hls
  obtain ⟨r, hs⟩ : ∃ r, (Bx d snewN).isSome = r := ⟨_, rfl⟩
  obtain ⟨⟨n1, l1, f1⟩, h1⟩ : ∃ R, BW 72057594037927935 p 0 = R := ⟨_, rfl⟩
  obtain ⟨⟨n2, l2, f2⟩, h2⟩ : ∃ R, BW 72057594037927935 l1 f1 = R := ⟨_, rfl⟩
  obtain ⟨x3, l3, f3, h3⟩ := Q5 254 l2 f2
  obtain ⟨⟨dd, l4, f4⟩, h4⟩ : ∃ R, B8 32768 l3 f3 = R := ⟨_, rfl⟩
  obtain ⟨r5, h5⟩ : ∃ r, DP l4 f4 = r := ⟨_, rfl⟩
  have hx3 := x3.toNat_lt
  rw [Hx (FK h1 h2 h3) h4, h5] at hrd
  obtain ⟨rr, hrr⟩ : ∃ rr, D9 ⟨(n1 : Int), (n2 : Int), (x3.toNat : Int), dd⟩ = rr := ⟨_, rfl⟩
  rw [hrr] at hrd
  have hr5 : r5 = 0 := by by_cases e9 : r5 = 0; exact e9; rw [if_neg e9] at hrd; cases hrd
  rw [if_pos hr5] at hrd
  have hrt : rr = true := by by_cases e9 : rr = true; exact e9; rw [if_neg e9] at hrd; cases hrd
  rw [if_pos hrt] at hrd
  subst hrt
  obtain rfl := Option.some.inj hrd
  refine Ad (Ae Ag rfl (Aj (post := fun g2 => [cell g2 34 #[.int .u64 0, .int .u64 0, .int .i64 0, .slice none 0 0], An q d]) rfl (BT Bl rfl) ?_)); rintro g2
  refine Ae Ag rfl (Ab (Av (Ad (Ae Ag rfl (Aa rfl (.bool false) (fun b w hb hH => Ct (by kernel_rfl) rfl rfl rfl hb) (Ab (As rfl (AB (AL (Av (Ad (Ae Ag rfl (Aj rfl (Ak (os' := fun _ => [cell g2 34 #[.int .u64 0, .int .u64 0, .int .i64 0, .slice none 0 0], An q d]) [1] 0 (Ai Tryz.func36 (by kernel_rfl) rfl) (O7 (n := snewN) hs) rfl rfl rfl (fun _ => rfl) rfl rfl rfl) ?_))))))))))))); rintro ⟨⟩
  refine Ab ?_
  refine NM [(0, .pointer (some ⟨q, 0, none⟩)), (2, .pointer (some ⟨g2, 0, none⟩)), (3, .bool false), (4, .int .i64 0)] [cell g2 34 #[.int .u64 0, .int .u64 0, .int .i64 0, .slice none 0 0], An q d1] ?_ ?_
  cases r
  obtain rfl : d1 = d := by unfold Ce at hrm; rw [if_neg (by rw [hs]; simp)] at hrm; exact (Prod.mk.inj hrm).1.symm
  refine As rfl (AB ?_)
  exact Kd 0 ⟨rfl, rfl, rfl, rfl, trivial⟩ rfl
  have hdel : Fp d snewN = (d1, e1) := by unfold Ce at hrm; rwa [if_pos hs] at hrm
  refine AI rfl (Ad (Ae Ag rfl (Aj rfl (Ak (os' := fun _ => [cell g2 34 #[.int .u64 0, .int .u64 0, .int .i64 0, .slice none 0 0], An q d1]) [1] 0 (Ai Tryz.func37 (by kernel_rfl) rfl) (Jz (n := snewN) hf.fit hdel) rfl rfl rfl (fun _ => rfl) rfl rfl rfl) ?_))); rintro ⟨⟩
  refine Ae Ag rfl (Ab (Ad (Ae Ag rfl (Aa rfl (.bool false) (fun b w hb hH => AZ rfl rfl rfl (AP (by omega)) hb) (Ab (As rfl (AB ?_)))))))
  exact Kd 0 ⟨rfl, rfl, rfl, rfl, trivial⟩ rfl
  refine AL (Ad (Ae Ag rfl (Aj rfl (Ak (os' := fun rv => [cell g2 34 #[.int .u64 0, .int .u64 0, .int .i64 0, .slice none 0 0], DY q d1 rv b]) [1] 0 (Ai Tryz.func38 (by kernel_rfl) rfl) (J9 (n := snapN) hok hb) rfl rfl rfl (fun _ => rfl) rfl rfl rfl) ?_))); rintro rv
  refine Ae Ag rfl (Ab (BB.fact 1 rfl RA ?_)); rintro ⟨A9, c9, hrv⟩
  subst hrv
  refine BB.keep (env' := [(0, .pointer (some ⟨q, 0, none⟩)), (2, .pointer (some ⟨g2, 0, none⟩)), (3, .bool false), (4, .int .i64 0), (24, .pointer (some ⟨q, 0, none⟩)), (25, .tuple #[.slice A9 b.length c9, .bool ok]), (23, .tuple #[.slice A9 b.length c9, .bool ok]), (26, .slice A9 b.length c9), (27, .bool ok), (6, .slice A9 b.length c9), (7, .bool ok)]) ⟨rfl, rfl, rfl, rfl, rfl, rfl, rfl, rfl, rfl, rfl, rfl, trivial⟩ (BB.mid [cell g2 34 #[.int .u64 0, .int .u64 0, .int .i64 0, .slice none 0 0], DY q d1 (.slice A9 b.length c9) b] (.refl _) (Ad (Ae Ag rfl (Aj rfl (Ak (os' := fun (x : PsV) => [Bb 32 x.v x.l, fact (x.l.map (·.2) = ps), cell g2 34 #[.int .u64 0, .int .u64 0, .int .i64 0, .slice none 0 0], DY q d1 (.slice A9 b.length c9) b]) [1] 0 (Ai Tryz.func39 (by kernel_rfl) rfl) (Og Gr hbl hls) rfl rfl rfl (fun _ => rfl) rfl rfl rfl) ?_)))); rintro x
  refine Cf.fact 1 rfl (fun _ h => h.2) ?_; rintro hxps
  refine Cf.leave [1] rfl rfl ?_
  replace hxps : x.l.map (·.2) = ps := hxps
  have hxl : x.l.length = ps.length := by rw [← hxps, List.length_map]
  refine Ae Ag rfl (Ab (Av ?_))
  obtain ⟨⟨v5, p5⟩, hxj⟩ : ∃ y, x.l[0]? = some y := ⟨_, List.getElem?_eq_getElem (by rw [hxl, hps]; exact Nat.succ_pos _)⟩
  have h9 : (x.l.map (·.2))[0]? = some p5 := by rw [List.getElem?_map, hxj]; rfl
  rw [hxps, hps] at h9
  obtain rfl := Option.some.inj h9
  have hpl : p.length ≤ 65536 := by have h7 := ET b.length b; change ∀ x, x ∈ (Ca b).1 → x.length ≤ 65536 at h7; rw [hls, hps] at h7; exact h7 p (by simp)
  refine BB.fact 0 rfl (RI hxj) ?_; rintro ⟨A5, c5, hv5⟩
  change v5 = .slice A5 p.length c5 at hv5
  subst hv5
  refine Ad (Ae Ag rfl (Aa rfl (.int .i64 (x.l.length : Int)) (fun b w hb hH => Hb 0 Tryz.underlying78 rfl rfl rfl hH hb) (Aa rfl (.bool false) (fun b w hb hH => AZ rfl rfl rfl (AP (by rw [hxl, hps]; rfl)) hb) (Ae Ag rfl (Aa rfl (.int .i64 (b.length : Int)) (fun b w hb hH => Bf (((hH.rd8 2 rfl Gr).rd)) Tryz.underlying32 rfl rfl hb) (Aa rfl (.bool false) (fun b w hb hH => AZ rfl rfl rfl (AP (by omega)) hb) (Ae Ag rfl (Ab (As rfl (AB (AL (Bi [2] rfl FA rfl ?_))))))))))))
  refine Ad (Ae Ag rfl (Aa rfl (BN x.v (0 * 1)) (fun b w hb hH => Na 1 DJ rfl 0 (by rw [hxl, hps]; exact Nat.succ_pos _) rfl rfl rfl hH hb) (Aa rfl (.slice A5 p.length c5) (fun b w hb hH => Kt 1 Cx rfl 0 hxj rfl rfl hH hb) (Aa rfl (.agg #[.slice A5 p.length c5, .int .i64 0, .int .i64 0]) (fun b w hb hH => Bn rfl rfl (by kernel_rfl) hb) (Aj (post := fun g12 => [cell g12 83 #[.slice A5 p.length c5, .int .i64 0, .int .i64 0], An q d1, Bb 32 x.v x.l, cell g2 34 #[.int .u64 0, .int .u64 0, .int .i64 0, .slice none 0 0]]) rfl (CL (cs := #[.slice A5 p.length c5, .int .i64 0, .int .i64 0]) rfl rfl rfl) ?_))))); rintro g12
  refine Ae Ag rfl (Ab (Ad (Ae Ag rfl (Aj (post := fun g11 => [cell g11 34 #[.int .u64 0, .int .u64 0, .int .i64 0, .slice none 0 0], cell g12 83 #[.slice A5 p.length c5, .int .i64 0, .int .i64 0], An q d1, Bb 32 x.v x.l, cell g2 34 #[.int .u64 0, .int .u64 0, .int .i64 0, .slice none 0 0]]) rfl (BT Bl rfl) ?_)))); rintro g11
  refine Ab (Bi [1] rfl (U6 (b := p)) rfl (Ad (Ae Ag rfl (Aj rfl (Ak (os' := fun _ => [G8 (.slice A5 p.length c5) p g12 l1 f1, cell g11 34 #[.int .u64 0, .int .u64 0, .int .i64 0, .slice none 0 0], An q d1, Bb 32 x.v x.l, cell g2 34 #[.int .u64 0, .int .u64 0, .int .i64 0, .slice none 0 0]]) [0, 3] 0 (Ai Tryz.func40 (by kernel_rfl) rfl) (KJ (Do hxj) (by show p.length ≤ _; omega) 72057594037927935 (by decide) (n1, l1, f1) h1) rfl rfl rfl (fun _ => rfl) rfl rfl rfl) ?_)))); rintro ⟨⟩
  refine Ae Ag rfl (AF (post := fun _ => [G8 (.slice A5 p.length c5) p g12 l1 f1, cell g11 34 #[.int .u64 ((n1 : Nat) : Int), .int .u64 0, .int .i64 0, .slice none 0 0], An q d1, Bb 32 x.v x.l, cell g2 34 #[.int .u64 0, .int .u64 0, .int .i64 0, .slice none 0 0]]) rfl rfl (AE 1 (v := .int .u64 ((n1 : Nat) : Int)) #[.int .u64 ((n1 : Nat) : Int), .int .u64 0, .int .i64 0, .slice none 0 0] By.2 rfl rfl rfl rfl rfl rfl rfl rfl rfl) ?_); rintro ⟨⟩
  refine Ab (Ad (Ae Ag rfl (Aj rfl (Ak (os' := fun _ => [G8 (.slice A5 p.length c5) p g12 l2 f2, cell g11 34 #[.int .u64 ((n1 : Nat) : Int), .int .u64 0, .int .i64 0, .slice none 0 0], An q d1, Bb 32 x.v x.l, cell g2 34 #[.int .u64 0, .int .u64 0, .int .i64 0, .slice none 0 0]]) [0, 3] 0 (Ai Tryz.func40 (by kernel_rfl) rfl) (KJ (Do hxj) (by show p.length ≤ _; omega) 72057594037927935 (by decide) (n2, l2, f2) h2) rfl rfl rfl (fun _ => rfl) rfl rfl rfl) ?_))); rintro ⟨⟩
  refine Ae Ag rfl (AF (post := fun _ => [G8 (.slice A5 p.length c5) p g12 l2 f2, cell g11 34 #[.int .u64 ((n1 : Nat) : Int), .int .u64 ((n2 : Nat) : Int), .int .i64 0, .slice none 0 0], An q d1, Bb 32 x.v x.l, cell g2 34 #[.int .u64 0, .int .u64 0, .int .i64 0, .slice none 0 0]]) rfl rfl (AE 1 (v := .int .u64 ((n2 : Nat) : Int)) #[.int .u64 ((n1 : Nat) : Int), .int .u64 ((n2 : Nat) : Int), .int .i64 0, .slice none 0 0] By.2 rfl rfl rfl rfl rfl rfl rfl rfl rfl) ?_); rintro ⟨⟩
  refine Ab (Ad (Ae Ag rfl (Aj rfl (Ak (os' := fun _ => [G8 (.slice A5 p.length c5) p g12 l3 f3, cell g11 34 #[.int .u64 ((n1 : Nat) : Int), .int .u64 ((n2 : Nat) : Int), .int .i64 0, .slice none 0 0], An q d1, Bb 32 x.v x.l, cell g2 34 #[.int .u64 0, .int .u64 0, .int .i64 0, .slice none 0 0]]) [0, 3] 0 (Ai Tryz.func41 (by kernel_rfl) rfl) (O6 (Do hxj) (by show p.length ≤ _; omega) 254 (by decide) (x3.toNat, l3, f3) h3) rfl rfl rfl (fun _ => rfl) rfl rfl rfl) ?_))); rintro ⟨⟩
  refine Aa rfl (.int .i64 (x3.toNat : Int)) (fun b w hb hH => AW Tryz.underlying5 Tryz.underlying3 (IntWalk.i64_in _ (by omega)) rfl rfl hb) (Ae Ag rfl (AF (post := fun _ => [G8 (.slice A5 p.length c5) p g12 l3 f3, cell g11 34 #[.int .u64 ((n1 : Nat) : Int), .int .u64 ((n2 : Nat) : Int), .int .i64 (x3.toNat : Int), .slice none 0 0], An q d1, Bb 32 x.v x.l, cell g2 34 #[.int .u64 0, .int .u64 0, .int .i64 0, .slice none 0 0]]) rfl rfl (AE 1 (v := .int .i64 (x3.toNat : Int)) #[.int .u64 ((n1 : Nat) : Int), .int .u64 ((n2 : Nat) : Int), .int .i64 (x3.toNat : Int), .slice none 0 0] Bc.2 rfl rfl rfl rfl rfl rfl rfl rfl rfl) ?_)); rintro ⟨⟩
  refine Ab (BB.keep (env' := [(2, .pointer (some ⟨g2, 0, none⟩)), (3, .bool false), (4, .int .i64 0), (10, .pointer (some ⟨g12, 0, none⟩)), (11, .pointer (some ⟨g11, 0, none⟩))]) ⟨rfl, rfl, rfl, rfl, rfl, trivial⟩ (Ad (Ae Ag rfl (Aj rfl (Ak (os' := fun v9 => [Ar 5 1 encB v9 dd, G8 (.slice A5 p.length c5) p g12 l4 f4, cell g11 34 #[.int .u64 ((n1 : Nat) : Int), .int .u64 ((n2 : Nat) : Int), .int .i64 (x3.toNat : Int), .slice none 0 0], An q d1, Bb 32 x.v x.l, cell g2 34 #[.int .u64 0, .int .u64 0, .int .i64 0, .slice none 0 0]]) [0, 3] 0 (Ai Tryz.func42 (by kernel_rfl) rfl) (MI (Do hxj) (by show p.length ≤ _; omega) 32768 (by decide) (by decide) (dd, l4, f4) h4) rfl rfl rfl (fun _ => rfl) rfl rfl rfl) ?_)))); rintro v9
  refine Cf.fact 0 rfl (fun _ h => Ar.is h) ?_; rintro ⟨A8, c8, rfl⟩
  refine Ae Ag rfl (AF (post := fun _ => [Ar 5 1 encB (.slice A8 dd.length c8) dd, G8 (.slice A5 p.length c5) p g12 l4 f4, cell g11 34 #[.int .u64 ((n1 : Nat) : Int), .int .u64 ((n2 : Nat) : Int), .int .i64 (x3.toNat : Int), .slice A8 dd.length c8], An q d1, Bb 32 x.v x.l, cell g2 34 #[.int .u64 0, .int .u64 0, .int .i64 0, .slice none 0 0]]) rfl rfl (AE 2 (v := .slice A8 dd.length c8) #[.int .u64 ((n1 : Nat) : Int), .int .u64 ((n2 : Nat) : Int), .int .i64 (x3.toNat : Int), .slice A8 dd.length c8] Cx.2 rfl rfl rfl rfl rfl rfl rfl rfl rfl) ?_); rintro ⟨⟩
  refine Ab (Av (Ad (Ae Ag rfl (Aj rfl (Ak (os' := fun _ => [Ar 5 1 encB (.slice A8 dd.length c8) dd, G8 (.slice A5 p.length c5) p g12 l4 f4, cell g11 34 #[.int .u64 ((n1 : Nat) : Int), .int .u64 ((n2 : Nat) : Int), .int .i64 (x3.toNat : Int), .slice A8 dd.length c8], An q d1, Bb 32 x.v x.l, cell g2 34 #[.int .u64 0, .int .u64 0, .int .i64 0, .slice none 0 0]]) [1, 4] 0 (Ai Tryz.func43 (by kernel_rfl) rfl) (Ny (Do hxj) (by show p.length ≤ _; omega) r5 h5) rfl rfl rfl (fun _ => rfl) rfl rfl rfl) ?_)))); rintro ⟨⟩
  refine Aa rfl (.bool false) (fun b w hb hH => AZ rfl rfl rfl (AP (by omega)) hb) (Ae Ag rfl (Aa rfl (.agg #[.int .u64 ((n1 : Nat) : Int), .int .u64 ((n2 : Nat) : Int), .int .i64 (x3.toNat : Int), .slice A8 dd.length c8]) (fun b w hb hH => Ba rfl rfl (DM (cs := [.int .u64 ((n1 : Nat) : Int), .int .u64 ((n2 : Nat) : Int), .int .i64 (x3.toNat : Int), .slice A8 dd.length c8]) Aq rfl) (hH.row 2 rfl) hb) (Aj (post := fun _ => [Ar 5 1 encB (.slice A8 dd.length c8) dd, G8 (.slice A5 p.length c5) p g12 l4 f4, cell g11 34 #[.int .u64 ((n1 : Nat) : Int), .int .u64 ((n2 : Nat) : Int), .int .i64 (x3.toNat : Int), .slice A8 dd.length c8], An q d1, Bb 32 x.v x.l, cell g2 34 #[.int .u64 0, .int .u64 0, .int .i64 0, .slice none 0 0]]) rfl (AU (Ai Tryz.func16 (by kernel_rfl) rfl) (fun w hH => FC (s := ⟨(n1 : Int), (n2 : Int), (x3.toNat : Int), dd⟩) w true hrr) rfl rfl rfl) ?_))); rintro ⟨⟩
  refine Ae Ag rfl (Ab (As rfl (AB (AL (Ad (Ae Ag rfl (Aa rfl (.agg #[.int .u64 ((n1 : Nat) : Int), .int .u64 ((n2 : Nat) : Int), .int .i64 (x3.toNat : Int), .slice A8 dd.length c8]) (fun b w hb hH => Ba rfl rfl (DM (cs := [.int .u64 ((n1 : Nat) : Int), .int .u64 ((n2 : Nat) : Int), .int .i64 (x3.toNat : Int), .slice A8 dd.length c8]) Aq rfl) (hH.row 2 rfl) hb) (AF (post := fun _ => [Ar 5 1 encB (.slice A8 dd.length c8) dd, G8 (.slice A5 p.length c5) p g12 l4 f4, cell g11 34 #[.int .u64 ((n1 : Nat) : Int), .int .u64 ((n2 : Nat) : Int), .int .i64 (x3.toNat : Int), .slice A8 dd.length c8], An q d1, Bb 32 x.v x.l, cell g2 34 #[.int .u64 ((n1 : Nat) : Int), .int .u64 ((n2 : Nat) : Int), .int .i64 (x3.toNat : Int), .slice A8 dd.length c8]]) rfl rfl (AE 5 (v := .agg #[.int .u64 ((n1 : Nat) : Int), .int .u64 ((n2 : Nat) : Int), .int .i64 (x3.toNat : Int), .slice A8 dd.length c8]) #[.int .u64 ((n1 : Nat) : Int), .int .u64 ((n2 : Nat) : Int), .int .i64 (x3.toNat : Int), .slice A8 dd.length c8] Aq.2 rfl rfl rfl rfl rfl rfl rfl rfl rfl) ?_)))))))); rintro ⟨⟩
  refine Ae Ag rfl (Ab (Ax ?_))
  exact EM (.cell 5 (v := .agg #[.int .u64 ((n1 : Nat) : Int), .int .u64 ((n2 : Nat) : Int), .int .i64 (x3.toNat : Int), .slice A8 dd.length c8]) (DM (cs := [.int .u64 ((n1 : Nat) : Int), .int .u64 ((n2 : Nat) : Int), .int .i64 (x3.toNat : Int), .slice A8 dd.length c8]) Aq rfl) rfl rfl) (.tmp rfl) (.tmp rfl) (fun w h => AH (A8, c8) rfl [3, 0] rfl h CK) rfl
theorem QG {q : Nat} {d d' : DiskD} {e : Nat} (hf : d.fitK 2) (hbl : ∀ b, (Bx (Ce d).1 snapN).getD [] = b → b.length ≤ 137438953472) (h : C5 d = (d', none, e)) : AX Tryz.prog 12 #[.pointer (some ⟨q, 0, none⟩)] [An q d] (fun (_ : Unit) => .tuple #[.agg #[.int .u64 0, .int .u64 0, .int .i64 0, .slice none 0 0], .bool false, .int .i64 (e : Int)]) (fun (_ : Unit) => [An q d']) := by
  refine Bg (args := [.pointer (some ⟨q, 0, none⟩)]) 74 Tryz.func12 rfl rfl rfl ?_; intro w rs
  obtain ⟨⟨d1, e1⟩, hrm⟩ : ∃ R, Ce d = R := ⟨_, rfl⟩
  have hr1 : (Ce d).1 = d1 := by rw [hrm]
  have hr2 : (Ce d).2 = e1 := by rw [hrm]
  have hf1 : d1.fitK 1 := by rw [← hr1]; exact FN hf
  obtain ⟨b, hb⟩ : ∃ b, (Bx d1 snapN).getD [] = b := ⟨_, rfl⟩
  unfold C5 at h
  rw [hr1, hr2, hb] at h
  obtain ⟨ok, hok⟩ : ∃ ok, (Bx d1 snapN).isSome = ok := ⟨_, rfl⟩
  replace hbl : b.length ≤ 137438953472 := hbl b (by rw [hr1]; exact hb)
  refine Ad (Ae Ag rfl (Aj (post := fun g2 => [cell g2 34 #[.int .u64 0, .int .u64 0, .int .i64 0, .slice none 0 0], An q d]) rfl (BT Bl rfl) ?_)); rintro g2
  refine Ae Ag rfl (Ab (Av (Ad (Ae Ag rfl (Aa rfl (.bool false) (fun b w hb hH => Ct (by kernel_rfl) rfl rfl rfl hb) (Ab (As rfl (AB (AL (Av ?_))))))))))
  obtain ⟨r, hs⟩ : ∃ r, (Bx d snewN).isSome = r := ⟨_, rfl⟩
  rcases Nat.eq_zero_or_pos e1 with he1 | he1
  · skip
    rw [if_neg (by omega)] at h
    obtain ⟨rfl, ho, rfl⟩ : d1 = d' ∧ Ev b = none ∧ 0 = e := by simpa [Prod.ext_iff] using h
    obtain ⟨⟨ps, k⟩, hls⟩ : ∃ R, Ca b = R := ⟨_, rfl⟩
    have hno := MA ho
    rw [hls] at hno
    refine Ad (Ae Ag rfl (Aj rfl (Ak (os' := fun _ => [cell g2 34 #[.int .u64 0, .int .u64 0, .int .i64 0, .slice none 0 0], An q d]) [1] 0 (Ai Tryz.func36 (by kernel_rfl) rfl) (O7 (n := snewN) hs) rfl rfl rfl (fun _ => rfl) rfl rfl rfl) ?_)); rintro ⟨⟩
    refine Ab ?_
    refine NM [(0, .pointer (some ⟨q, 0, none⟩)), (2, .pointer (some ⟨g2, 0, none⟩)), (3, .bool false), (4, .int .i64 0)] [cell g2 34 #[.int .u64 0, .int .u64 0, .int .i64 0, .slice none 0 0], An q d1] ?_ ?_
    cases r
    obtain rfl : d1 = d := by unfold Ce at hrm; rw [if_neg (by rw [hs]; simp)] at hrm; exact (Prod.mk.inj hrm).1.symm
    refine As rfl (AB ?_)
    exact Kd 0 ⟨rfl, rfl, rfl, rfl, trivial⟩ rfl
    have hdel : Fp d snewN = (d1, e1) := by unfold Ce at hrm; rwa [if_pos hs] at hrm
    refine AI rfl (Ad (Ae Ag rfl (Aj rfl (Ak (os' := fun _ => [cell g2 34 #[.int .u64 0, .int .u64 0, .int .i64 0, .slice none 0 0], An q d1]) [1] 0 (Ai Tryz.func37 (by kernel_rfl) rfl) (Jz (n := snewN) hf.fit hdel) rfl rfl rfl (fun _ => rfl) rfl rfl rfl) ?_))); rintro ⟨⟩
    refine Ae Ag rfl (Ab (Ad (Ae Ag rfl (Aa rfl (.bool false) (fun b w hb hH => AZ rfl rfl rfl (AP (by omega)) hb) (Ab (As rfl (AB ?_)))))))
    exact Kd 0 ⟨rfl, rfl, rfl, rfl, trivial⟩ rfl
    refine AL (Ad (Ae Ag rfl (Aj rfl (Ak (os' := fun rv => [cell g2 34 #[.int .u64 0, .int .u64 0, .int .i64 0, .slice none 0 0], DY q d1 rv b]) [1] 0 (Ai Tryz.func38 (by kernel_rfl) rfl) (J9 (n := snapN) hok hb) rfl rfl rfl (fun _ => rfl) rfl rfl rfl) ?_))); rintro rv
    refine Ae Ag rfl (Ab (BB.fact 1 rfl RA ?_)); rintro ⟨A9, c9, hrv⟩
    subst hrv
    refine BB.keep (env' := [(0, .pointer (some ⟨q, 0, none⟩)), (2, .pointer (some ⟨g2, 0, none⟩)), (3, .bool false), (4, .int .i64 0), (24, .pointer (some ⟨q, 0, none⟩)), (25, .tuple #[.slice A9 b.length c9, .bool ok]), (23, .tuple #[.slice A9 b.length c9, .bool ok]), (26, .slice A9 b.length c9), (27, .bool ok), (6, .slice A9 b.length c9), (7, .bool ok)]) ⟨rfl, rfl, rfl, rfl, rfl, rfl, rfl, rfl, rfl, rfl, rfl, trivial⟩ (BB.mid [cell g2 34 #[.int .u64 0, .int .u64 0, .int .i64 0, .slice none 0 0], DY q d1 (.slice A9 b.length c9) b] (.refl _) (Ad (Ae Ag rfl (Aj rfl (Ak (os' := fun (x : PsV) => [Bb 32 x.v x.l, fact (x.l.map (·.2) = ps), cell g2 34 #[.int .u64 0, .int .u64 0, .int .i64 0, .slice none 0 0], DY q d1 (.slice A9 b.length c9) b]) [1] 0 (Ai Tryz.func39 (by kernel_rfl) rfl) (Og Gr hbl hls) rfl rfl rfl (fun _ => rfl) rfl rfl rfl) ?_)))); rintro x
    refine Cf.fact 1 rfl (fun _ h => h.2) ?_; rintro hxps
    refine Cf.leave [1] rfl rfl ?_
    replace hxps : x.l.map (·.2) = ps := hxps
    have hxl : x.l.length = ps.length := by rw [← hxps, List.length_map]
    refine Ae Ag rfl (Ab (Av ?_))
    rcases hno with ⟨p, h0, hrd⟩ | h0
    rotate_left
    rcases Classical.em (ps.length = 1) with h2 | h2
    refine Ad (Ae Ag rfl (Aa rfl (.int .i64 (x.l.length : Int)) (fun b w hb hH => Hb 0 Tryz.underlying78 rfl rfl rfl hH hb) (Aa rfl (.bool false) (fun b w hb hH => AZ rfl rfl rfl (AP (by omega)) hb) (Ae Ag rfl (Aa rfl (.int .i64 (b.length : Int)) (fun b w hb hH => Bf (((hH.rd8 2 rfl Gr).rd)) Tryz.underlying32 rfl rfl hb) (Aa rfl (.bool true) (fun b w hb hH => AZ rfl rfl rfl (BO (by rcases h0 with h0 | h0; exact absurd h2 h0; simp only at h0; omega)) hb) (Ae Ag rfl (Ab (AI rfl (Bi [2] rfl FA rfl ?_))))))))))
    refine Ad (Ae Ag rfl (Aa rfl (.agg #[.int .u64 0, .int .u64 0, .int .i64 0, .slice none 0 0]) (fun b w hb hH => Bn rfl rfl (by kernel_rfl) hb) (AF (post := fun _ => [An q d1, Bb 32 x.v x.l, cell g2 34 #[.int .u64 0, .int .u64 0, .int .i64 0, .slice none 0 0]]) rfl rfl (AE 2 (v := .agg #[.int .u64 0, .int .u64 0, .int .i64 0, .slice none 0 0]) #[.int .u64 0, .int .u64 0, .int .i64 0, .slice none 0 0] Aq.2 rfl rfl rfl rfl rfl rfl rfl rfl rfl) ?_))); rintro ⟨⟩
    refine Ae Ag rfl (Ab (Ax (C4 ?_)))
    exact EM (.cell 2 (v := .agg #[.int .u64 0, .int .u64 0, .int .i64 0, .slice none 0 0]) (DM (cs := [.int .u64 0, .int .u64 0, .int .i64 0, .slice none 0 0]) Aq rfl) rfl rfl) (.tmp rfl) (.tmp rfl) (fun w h => AH () rfl [0] rfl h CK) rfl
    refine Ad (Ae Ag rfl (Aa rfl (.int .i64 (x.l.length : Int)) (fun b w hb hH => Hb 0 Tryz.underlying78 rfl rfl rfl hH hb) (Aa rfl (.bool true) (fun b w hb hH => AZ rfl rfl rfl (BO (by omega)) hb) (Ae Ag rfl (Ab (AI rfl (Bi [2] rfl FA rfl (Ad (Ae Ag rfl (Aa rfl (.agg #[.int .u64 0, .int .u64 0, .int .i64 0, .slice none 0 0]) (fun b w hb hH => Bn rfl rfl (by kernel_rfl) hb) ?_))))))))))
    refine AF (post := fun _ => [An q d1, Bb 32 x.v x.l, cell g2 34 #[.int .u64 0, .int .u64 0, .int .i64 0, .slice none 0 0]]) rfl rfl (AE 2 (v := .agg #[.int .u64 0, .int .u64 0, .int .i64 0, .slice none 0 0]) #[.int .u64 0, .int .u64 0, .int .i64 0, .slice none 0 0] Aq.2 rfl rfl rfl rfl rfl rfl rfl rfl rfl) ?_; rintro ⟨⟩
    refine Ae Ag rfl (Ab (Ax (C4 ?_)))
    exact EM (.cell 2 (v := .agg #[.int .u64 0, .int .u64 0, .int .i64 0, .slice none 0 0]) (DM (cs := [.int .u64 0, .int .u64 0, .int .i64 0, .slice none 0 0]) Aq rfl) rfl rfl) (.tmp rfl) (.tmp rfl) (fun w h => AH () rfl [0] rfl h CK) rfl
    obtain ⟨hps, hk⟩ := Prod.mk.inj h0
    obtain ⟨⟨v5, p5⟩, hxj⟩ : ∃ y, x.l[0]? = some y := ⟨_, List.getElem?_eq_getElem (by rw [hxl, hps]; exact Nat.succ_pos _)⟩
    have h9 : (x.l.map (·.2))[0]? = some p5 := by rw [List.getElem?_map, hxj]; rfl
    rw [hxps, hps] at h9
    obtain rfl := Option.some.inj h9
    have hpl : p.length ≤ 65536 := by have h7 := ET b.length b; change ∀ x, x ∈ (Ca b).1 → x.length ≤ 65536 at h7; rw [hls, hps] at h7; exact h7 p (by simp)
    obtain ⟨⟨n1, l1, f1⟩, h1⟩ : ∃ R, BW 72057594037927935 p 0 = R := ⟨_, rfl⟩
    obtain ⟨⟨n2, l2, f2⟩, h2⟩ : ∃ R, BW 72057594037927935 l1 f1 = R := ⟨_, rfl⟩
    obtain ⟨x3, l3, f3, h3⟩ := Q5 254 l2 f2
    obtain ⟨⟨dd, l4, f4⟩, h4⟩ : ∃ R, B8 32768 l3 f3 = R := ⟨_, rfl⟩
    obtain ⟨r5, h5⟩ : ∃ r, DP l4 f4 = r := ⟨_, rfl⟩
    have hx3 := x3.toNat_lt
    rw [Hx (FK h1 h2 h3) h4, h5] at hrd
    obtain ⟨rr, hrr⟩ : ∃ rr, D9 ⟨(n1 : Int), (n2 : Int), (x3.toNat : Int), dd⟩ = rr := ⟨_, rfl⟩
    rw [hrr] at hrd
    refine BB.fact 0 rfl (RI hxj) ?_; rintro ⟨A5, c5, hv5⟩
    change v5 = .slice A5 p.length c5 at hv5
    subst hv5
    refine Ad (Ae Ag rfl (Aa rfl (.int .i64 (x.l.length : Int)) (fun b w hb hH => Hb 0 Tryz.underlying78 rfl rfl rfl hH hb) (Aa rfl (.bool false) (fun b w hb hH => AZ rfl rfl rfl (AP (by rw [hxl, hps]; rfl)) hb) (Ae Ag rfl (Aa rfl (.int .i64 (b.length : Int)) (fun b w hb hH => Bf (((hH.rd8 2 rfl Gr).rd)) Tryz.underlying32 rfl rfl hb) (Aa rfl (.bool false) (fun b w hb hH => AZ rfl rfl rfl (AP (by omega)) hb) (Ae Ag rfl (Ab (As rfl (AB (AL (Bi [2] rfl FA rfl ?_))))))))))))
    refine Ad (Ae Ag rfl (Aa rfl (BN x.v (0 * 1)) (fun b w hb hH => Na 1 DJ rfl 0 (by rw [hxl, hps]; exact Nat.succ_pos _) rfl rfl rfl hH hb) (Aa rfl (.slice A5 p.length c5) (fun b w hb hH => Kt 1 Cx rfl 0 hxj rfl rfl hH hb) (Aa rfl (.agg #[.slice A5 p.length c5, .int .i64 0, .int .i64 0]) (fun b w hb hH => Bn rfl rfl (by kernel_rfl) hb) (Aj (post := fun g12 => [cell g12 83 #[.slice A5 p.length c5, .int .i64 0, .int .i64 0], An q d1, Bb 32 x.v x.l, cell g2 34 #[.int .u64 0, .int .u64 0, .int .i64 0, .slice none 0 0]]) rfl (CL (cs := #[.slice A5 p.length c5, .int .i64 0, .int .i64 0]) rfl rfl rfl) ?_))))); rintro g12
    refine Ae Ag rfl (Ab (Ad (Ae Ag rfl (Aj (post := fun g11 => [cell g11 34 #[.int .u64 0, .int .u64 0, .int .i64 0, .slice none 0 0], cell g12 83 #[.slice A5 p.length c5, .int .i64 0, .int .i64 0], An q d1, Bb 32 x.v x.l, cell g2 34 #[.int .u64 0, .int .u64 0, .int .i64 0, .slice none 0 0]]) rfl (BT Bl rfl) ?_)))); rintro g11
    refine Ab (Bi [1] rfl (U6 (b := p)) rfl (Ad (Ae Ag rfl (Aj rfl (Ak (os' := fun _ => [G8 (.slice A5 p.length c5) p g12 l1 f1, cell g11 34 #[.int .u64 0, .int .u64 0, .int .i64 0, .slice none 0 0], An q d1, Bb 32 x.v x.l, cell g2 34 #[.int .u64 0, .int .u64 0, .int .i64 0, .slice none 0 0]]) [0, 3] 0 (Ai Tryz.func40 (by kernel_rfl) rfl) (KJ (Do hxj) (by show p.length ≤ _; omega) 72057594037927935 (by decide) (n1, l1, f1) h1) rfl rfl rfl (fun _ => rfl) rfl rfl rfl) ?_)))); rintro ⟨⟩
    refine Ae Ag rfl (AF (post := fun _ => [G8 (.slice A5 p.length c5) p g12 l1 f1, cell g11 34 #[.int .u64 ((n1 : Nat) : Int), .int .u64 0, .int .i64 0, .slice none 0 0], An q d1, Bb 32 x.v x.l, cell g2 34 #[.int .u64 0, .int .u64 0, .int .i64 0, .slice none 0 0]]) rfl rfl (AE 1 (v := .int .u64 ((n1 : Nat) : Int)) #[.int .u64 ((n1 : Nat) : Int), .int .u64 0, .int .i64 0, .slice none 0 0] By.2 rfl rfl rfl rfl rfl rfl rfl rfl rfl) ?_); rintro ⟨⟩
    refine Ab (Ad (Ae Ag rfl (Aj rfl (Ak (os' := fun _ => [G8 (.slice A5 p.length c5) p g12 l2 f2, cell g11 34 #[.int .u64 ((n1 : Nat) : Int), .int .u64 0, .int .i64 0, .slice none 0 0], An q d1, Bb 32 x.v x.l, cell g2 34 #[.int .u64 0, .int .u64 0, .int .i64 0, .slice none 0 0]]) [0, 3] 0 (Ai Tryz.func40 (by kernel_rfl) rfl) (KJ (Do hxj) (by show p.length ≤ _; omega) 72057594037927935 (by decide) (n2, l2, f2) h2) rfl rfl rfl (fun _ => rfl) rfl rfl rfl) ?_))); rintro ⟨⟩
    refine Ae Ag rfl (AF (post := fun _ => [G8 (.slice A5 p.length c5) p g12 l2 f2, cell g11 34 #[.int .u64 ((n1 : Nat) : Int), .int .u64 ((n2 : Nat) : Int), .int .i64 0, .slice none 0 0], An q d1, Bb 32 x.v x.l, cell g2 34 #[.int .u64 0, .int .u64 0, .int .i64 0, .slice none 0 0]]) rfl rfl (AE 1 (v := .int .u64 ((n2 : Nat) : Int)) #[.int .u64 ((n1 : Nat) : Int), .int .u64 ((n2 : Nat) : Int), .int .i64 0, .slice none 0 0] By.2 rfl rfl rfl rfl rfl rfl rfl rfl rfl) ?_); rintro ⟨⟩
    refine Ab (Ad (Ae Ag rfl (Aj rfl (Ak (os' := fun _ => [G8 (.slice A5 p.length c5) p g12 l3 f3, cell g11 34 #[.int .u64 ((n1 : Nat) : Int), .int .u64 ((n2 : Nat) : Int), .int .i64 0, .slice none 0 0], An q d1, Bb 32 x.v x.l, cell g2 34 #[.int .u64 0, .int .u64 0, .int .i64 0, .slice none 0 0]]) [0, 3] 0 (Ai Tryz.func41 (by kernel_rfl) rfl) (O6 (Do hxj) (by show p.length ≤ _; omega) 254 (by decide) (x3.toNat, l3, f3) h3) rfl rfl rfl (fun _ => rfl) rfl rfl rfl) ?_))); rintro ⟨⟩
    refine Aa rfl (.int .i64 (x3.toNat : Int)) (fun b w hb hH => AW Tryz.underlying5 Tryz.underlying3 (IntWalk.i64_in _ (by omega)) rfl rfl hb) (Ae Ag rfl (AF (post := fun _ => [G8 (.slice A5 p.length c5) p g12 l3 f3, cell g11 34 #[.int .u64 ((n1 : Nat) : Int), .int .u64 ((n2 : Nat) : Int), .int .i64 (x3.toNat : Int), .slice none 0 0], An q d1, Bb 32 x.v x.l, cell g2 34 #[.int .u64 0, .int .u64 0, .int .i64 0, .slice none 0 0]]) rfl rfl (AE 1 (v := .int .i64 (x3.toNat : Int)) #[.int .u64 ((n1 : Nat) : Int), .int .u64 ((n2 : Nat) : Int), .int .i64 (x3.toNat : Int), .slice none 0 0] Bc.2 rfl rfl rfl rfl rfl rfl rfl rfl rfl) ?_)); rintro ⟨⟩
    refine Ab (BB.keep (env' := [(2, .pointer (some ⟨g2, 0, none⟩)), (3, .bool false), (4, .int .i64 0), (10, .pointer (some ⟨g12, 0, none⟩)), (11, .pointer (some ⟨g11, 0, none⟩))]) ⟨rfl, rfl, rfl, rfl, rfl, trivial⟩ (Ad (Ae Ag rfl (Aj rfl (Ak (os' := fun v9 => [Ar 5 1 encB v9 dd, G8 (.slice A5 p.length c5) p g12 l4 f4, cell g11 34 #[.int .u64 ((n1 : Nat) : Int), .int .u64 ((n2 : Nat) : Int), .int .i64 (x3.toNat : Int), .slice none 0 0], An q d1, Bb 32 x.v x.l, cell g2 34 #[.int .u64 0, .int .u64 0, .int .i64 0, .slice none 0 0]]) [0, 3] 0 (Ai Tryz.func42 (by kernel_rfl) rfl) (MI (Do hxj) (by show p.length ≤ _; omega) 32768 (by decide) (by decide) (dd, l4, f4) h4) rfl rfl rfl (fun _ => rfl) rfl rfl rfl) ?_)))); rintro v9
    refine Cf.fact 0 rfl (fun _ h => Ar.is h) ?_; rintro ⟨A8, c8, rfl⟩
    refine Ae Ag rfl (AF (post := fun _ => [Ar 5 1 encB (.slice A8 dd.length c8) dd, G8 (.slice A5 p.length c5) p g12 l4 f4, cell g11 34 #[.int .u64 ((n1 : Nat) : Int), .int .u64 ((n2 : Nat) : Int), .int .i64 (x3.toNat : Int), .slice A8 dd.length c8], An q d1, Bb 32 x.v x.l, cell g2 34 #[.int .u64 0, .int .u64 0, .int .i64 0, .slice none 0 0]]) rfl rfl (AE 2 (v := .slice A8 dd.length c8) #[.int .u64 ((n1 : Nat) : Int), .int .u64 ((n2 : Nat) : Int), .int .i64 (x3.toNat : Int), .slice A8 dd.length c8] Cx.2 rfl rfl rfl rfl rfl rfl rfl rfl rfl) ?_); rintro ⟨⟩
    refine Ab (Av ?_)
    rcases Nat.eq_zero_or_pos r5 with hr5 | hr5
    have hrt : rr = false := by cases hrv : rr with | false => rfl | true => (exfalso; rw [if_pos hr5, if_pos hrv] at hrd; cases hrd)
    subst hrt
    refine Ad (Ae Ag rfl (Aj rfl (Ak (os' := fun _ => [Ar 5 1 encB (.slice A8 dd.length c8) dd, G8 (.slice A5 p.length c5) p g12 l4 f4, cell g11 34 #[.int .u64 ((n1 : Nat) : Int), .int .u64 ((n2 : Nat) : Int), .int .i64 (x3.toNat : Int), .slice A8 dd.length c8], An q d1, Bb 32 x.v x.l, cell g2 34 #[.int .u64 0, .int .u64 0, .int .i64 0, .slice none 0 0]]) [1, 4] 0 (Ai Tryz.func43 (by kernel_rfl) rfl) (Ny (Do hxj) (by show p.length ≤ _; omega) r5 h5) rfl rfl rfl (fun _ => rfl) rfl rfl rfl) ?_)); rintro ⟨⟩
    refine Aa rfl (.bool false) (fun b w hb hH => AZ rfl rfl rfl (AP (by omega)) hb) (Ae Ag rfl (Aa rfl (.agg #[.int .u64 ((n1 : Nat) : Int), .int .u64 ((n2 : Nat) : Int), .int .i64 (x3.toNat : Int), .slice A8 dd.length c8]) (fun b w hb hH => Ba rfl rfl (DM (cs := [.int .u64 ((n1 : Nat) : Int), .int .u64 ((n2 : Nat) : Int), .int .i64 (x3.toNat : Int), .slice A8 dd.length c8]) Aq rfl) (hH.row 2 rfl) hb) (Aj (post := fun _ => [Ar 5 1 encB (.slice A8 dd.length c8) dd, G8 (.slice A5 p.length c5) p g12 l4 f4, cell g11 34 #[.int .u64 ((n1 : Nat) : Int), .int .u64 ((n2 : Nat) : Int), .int .i64 (x3.toNat : Int), .slice A8 dd.length c8], An q d1, Bb 32 x.v x.l, cell g2 34 #[.int .u64 0, .int .u64 0, .int .i64 0, .slice none 0 0]]) rfl (AU (Ai Tryz.func16 (by kernel_rfl) rfl) (fun w hH => FC (s := ⟨(n1 : Int), (n2 : Int), (x3.toNat : Int), dd⟩) w false hrr) rfl rfl rfl) ?_))); rintro ⟨⟩
    refine Ae Ag rfl (Ab (AI rfl (Ad (Ae Ag rfl (Aa rfl (.agg #[.int .u64 0, .int .u64 0, .int .i64 0, .slice none 0 0]) (fun b w hb hH => Bn rfl rfl (by kernel_rfl) hb) (AF (post := fun _ => [Ar 5 1 encB (.slice A8 dd.length c8) dd, G8 (.slice A5 p.length c5) p g12 l4 f4, cell g11 34 #[.int .u64 ((n1 : Nat) : Int), .int .u64 ((n2 : Nat) : Int), .int .i64 (x3.toNat : Int), .slice A8 dd.length c8], An q d1, Bb 32 x.v x.l, cell g2 34 #[.int .u64 0, .int .u64 0, .int .i64 0, .slice none 0 0]]) rfl rfl (AE 5 (v := .agg #[.int .u64 0, .int .u64 0, .int .i64 0, .slice none 0 0]) #[.int .u64 0, .int .u64 0, .int .i64 0, .slice none 0 0] Aq.2 rfl rfl rfl rfl rfl rfl rfl rfl rfl) ?_)))))); rintro ⟨⟩
    refine Ae Ag rfl (Ab (Ax (C4 ?_)))
    exact EM (.cell 5 (v := .agg #[.int .u64 0, .int .u64 0, .int .i64 0, .slice none 0 0]) (DM (cs := [.int .u64 0, .int .u64 0, .int .i64 0, .slice none 0 0]) Aq rfl) rfl rfl) (.tmp rfl) (.tmp rfl) (fun w h => AH () rfl [3] rfl h CK) rfl
    refine Ad (Ae Ag rfl (Aj rfl (Ak (os' := fun _ => [Ar 5 1 encB (.slice A8 dd.length c8) dd, G8 (.slice A5 p.length c5) p g12 l4 f4, cell g11 34 #[.int .u64 ((n1 : Nat) : Int), .int .u64 ((n2 : Nat) : Int), .int .i64 (x3.toNat : Int), .slice A8 dd.length c8], An q d1, Bb 32 x.v x.l, cell g2 34 #[.int .u64 0, .int .u64 0, .int .i64 0, .slice none 0 0]]) [1, 4] 0 (Ai Tryz.func43 (by kernel_rfl) rfl) (Ny (Do hxj) (by show p.length ≤ _; omega) r5 h5) rfl rfl rfl (fun _ => rfl) rfl rfl rfl) ?_)); rintro ⟨⟩
    refine Aa rfl (.bool true) (fun b w hb hH => AZ rfl rfl rfl (BO (by omega)) hb) (Ae Ag rfl (Ab (AI rfl (Ad (Ae Ag rfl (Aa rfl (.agg #[.int .u64 0, .int .u64 0, .int .i64 0, .slice none 0 0]) (fun b w hb hH => Bn rfl rfl (by kernel_rfl) hb) (AF (post := fun _ => [Ar 5 1 encB (.slice A8 dd.length c8) dd, G8 (.slice A5 p.length c5) p g12 l4 f4, cell g11 34 #[.int .u64 ((n1 : Nat) : Int), .int .u64 ((n2 : Nat) : Int), .int .i64 (x3.toNat : Int), .slice A8 dd.length c8], An q d1, Bb 32 x.v x.l, cell g2 34 #[.int .u64 0, .int .u64 0, .int .i64 0, .slice none 0 0]]) rfl rfl (AE 5 (v := .agg #[.int .u64 0, .int .u64 0, .int .i64 0, .slice none 0 0]) #[.int .u64 0, .int .u64 0, .int .i64 0, .slice none 0 0] Aq.2 rfl rfl rfl rfl rfl rfl rfl rfl rfl) ?_))))))); rintro ⟨⟩
    refine Ae Ag rfl (Ab (Ax (C4 ?_)))
    exact EM (.cell 5 (v := .agg #[.int .u64 0, .int .u64 0, .int .i64 0, .slice none 0 0]) (DM (cs := [.int .u64 0, .int .u64 0, .int .i64 0, .slice none 0 0]) Aq rfl) rfl rfl) (.tmp rfl) (.tmp rfl) (fun w h => AH () rfl [3] rfl h CK) rfl
  have hs2 : (Bx d snewN).isSome = true := by cases h9 : (Bx d snewN).isSome with | true => rfl | false => (exfalso; unfold Ce at hrm; rw [if_neg (by rw [h9]; simp)] at hrm; have := (Prod.mk.inj hrm).2; omega)
  obtain rfl : r = true := hs.symm.trans hs2
  have hdel : Fp d snewN = (d1, e1) := by unfold Ce at hrm; rwa [if_pos hs] at hrm
  rw [if_pos (by omega)] at h
  obtain ⟨rfl, rfl⟩ : d1 = d' ∧ e1 = e := by simpa [Prod.ext_iff] using h
  refine Ad (Ae Ag rfl (Aj rfl (Ak (os' := fun _ => [cell g2 34 #[.int .u64 0, .int .u64 0, .int .i64 0, .slice none 0 0], An q d]) [1] 0 (Ai Tryz.func36 (by kernel_rfl) rfl) (O7 (n := snewN) hs) rfl rfl rfl (fun _ => rfl) rfl rfl rfl) ?_)); rintro ⟨⟩
  refine Ab (AI rfl (Ad (Ae Ag rfl (Aj rfl (Ak (os' := fun _ => [cell g2 34 #[.int .u64 0, .int .u64 0, .int .i64 0, .slice none 0 0], An q d1]) [1] 0 (Ai Tryz.func37 (by kernel_rfl) rfl) (Jz (n := snewN) hf.fit hdel) rfl rfl rfl (fun _ => rfl) rfl rfl rfl) ?_)))); rintro ⟨⟩
  refine Ae Ag rfl (Ab (Ad (Ae Ag rfl (Aa rfl (.bool true) (fun b w hb hH => AZ rfl rfl rfl (BO (by omega)) hb) (Ab (AI rfl (Ad (Ae Ag rfl (Aa rfl (.agg #[.int .u64 0, .int .u64 0, .int .i64 0, .slice none 0 0]) (fun b w hb hH => Bn rfl rfl (by kernel_rfl) hb) (Ae Ag rfl (AF (post := fun _ => [cell g2 34 #[.int .u64 0, .int .u64 0, .int .i64 0, .slice none 0 0], An q d1]) rfl rfl (AE 0 (v := .agg #[.int .u64 0, .int .u64 0, .int .i64 0, .slice none 0 0]) #[.int .u64 0, .int .u64 0, .int .i64 0, .slice none 0 0] Aq.2 rfl rfl rfl rfl rfl rfl rfl rfl rfl) ?_))))))))))); rintro ⟨⟩
  refine Ae Ag rfl (Ab (Ax (C4 ?_)))
  exact EM (.cell 0 (v := .agg #[.int .u64 0, .int .u64 0, .int .i64 0, .slice none 0 0]) (DM (cs := [.int .u64 0, .int .u64 0, .int .i64 0, .slice none 0 0]) Aq rfl) rfl rfl) (.tmp rfl) (.tmp rfl) (fun w h => AH () rfl [1] rfl h CK) rfl
theorem MM {q : Nat} {d d' : DiskD} {o : Option SnV} {e : Nat} (hf : d.fitK 2) (hbl : ∀ b, (Bx (Ce d).1 snapN).getD [] = b → b.length ≤ 137438953472) (h : C5 d = (d', o, e)) : AX Tryz.prog 12 #[.pointer (some ⟨q, 0, none⟩)] [An q d] (fun x : Option Addr × Nat => .tuple #[.agg #[.int .u64 (AK o).i, .int .u64 (AK o).t, .int .i64 (AK o).c, .slice x.1 (AK o).d.length x.2], .bool o.isSome, .int .i64 (e : Int)]) (fun x => [An q d', J7 (.slice x.1 (AK o).d.length x.2) (AK o).d]) :=
 MJ (K := An q) (fun s hs => QF hf hbl (by rw [h, hs])) (fun hn => QG hf hbl (by rw [h, hn]))
end Go.Proofs.YtjcfimmcogkopaaGreat.Sep
