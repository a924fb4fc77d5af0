/-
  PhT
-/
import Derived.Test.YtjcfimmcogkopaaGreatYN01
import Derived.Test.YtjcfimmcogkopaaGreatYP02
import Derived.Test.YtjcfimmcogkopaaGreatYR01
import Derived.Test.YtjcfimmcogkopaaGreatYS01
import Derived.Test.YtjcfimmcogkopaaGreatYT01
set_option linter.unusedSimpArgs false
set_option linter.unusedVariables false
set_option maxRecDepth 100000
namespace Go.Proofs.YtjcfimmcogkopaaGreat.Sep
open Go.RowKit
open Go.Proofs.YtjcfimmcogkopaaGreat.Mem (AZ Ci Chg Au)
theorem WB (w : World) (i t c : Int) {A : Option Addr} {n cp : Nat} (r : Bool) (hr : ((Ef i && Ef t && Ge c && (c != 0)) && decide (n ≤ 32768)) = r) : Calls Tryz.prog 16 #[.agg #[.int .u64 i, .int .u64 t, .int .i64 c, .slice A n cp]] w fun e w' => e = .returned (.bool r) ∧ Below w.heap.size w w' := by
 refine Fz (args := [.agg #[.int .u64 i, .int .u64 t, .int .i64 c, .slice A n cp]]) 12 Tryz.func16 rfl rfl rfl (Ad (Af Ah rfl (Aj (post := fun g => [cell g 34 #[.int .u64 i, .int .u64 t, .int .i64 c, .slice A n cp]]) rfl (CU (cs := #[.int .u64 i, .int .u64 t, .int .i64 c, .slice A n cp]) rfl rfl rfl) ?_))); rintro g
 refine Af Ah rfl (Ab ?_)
 rcases hb1 : (Ef i && Ef t && Ge c && (c != 0)) with _ | _
 rotate_left
 rcases Classical.em (n ≤ 32768) with hn | hn
 obtain rfl : r = true := by rw [← hr, hb1]; simp [hn]
 refine Ad (Af Ah rfl (Ac rfl (.agg #[.int .u64 i, .int .u64 t, .int .i64 c]) (fun b w hb hH => Bb rfl rfl (EX (cs := [.int .u64 i, .int .u64 t, .int .i64 c, .slice A n cp]) Du rfl) (hH.row 0 rfl) hb) (Aj (post := fun _ => [cell g 34 #[.int .u64 i, .int .u64 t, .int .i64 c, .slice A n cp]]) rfl (Bg (Ag Tryz.func46 (by kernel_rfl) rfl) (fun w hH => Ji w i t c true hb1) rfl rfl rfl) ?_))); rintro ⟨⟩
 refine Af Ah rfl (Ac rfl (.slice A n cp) (fun b w hb hH => Bb rfl rfl (Bn Cy rfl) (hH.row 0 rfl) hb) (Ac rfl (.int .i64 (n : Int)) (fun b w hb hH => Gp AE rfl rfl hH hb) (Ac rfl (.bool true) (fun b w hb hH => Bc rfl rfl rfl (C2 (by omega)) hb) (Af Ah rfl (Ab (Av ?_))))))
 exact As (.tmp rfl) (fun w h => ⟨rfl, Au h.up⟩) rfl
 obtain rfl : r = false := by rw [← hr, hb1]; simp [hn]
 refine Ad (Af Ah rfl (Ac rfl (.agg #[.int .u64 i, .int .u64 t, .int .i64 c]) (fun b w hb hH => Bb rfl rfl (EX (cs := [.int .u64 i, .int .u64 t, .int .i64 c, .slice A n cp]) Du rfl) (hH.row 0 rfl) hb) (Aj (post := fun _ => [cell g 34 #[.int .u64 i, .int .u64 t, .int .i64 c, .slice A n cp]]) rfl (Bg (Ag Tryz.func46 (by kernel_rfl) rfl) (fun w hH => Ji w i t c true hb1) rfl rfl rfl) ?_))); rintro ⟨⟩
 refine Af Ah rfl (Ac rfl (.slice A n cp) (fun b w hb hH => Bb rfl rfl (Bn Cy rfl) (hH.row 0 rfl) hb) (Ac rfl (.int .i64 (n : Int)) (fun b w hb hH => Gp AE rfl rfl hH hb) (Ac rfl (.bool false) (fun b w hb hH => Bc rfl rfl rfl (DS (by omega)) hb) (Af Ah rfl (Ab (Av ?_))))))
 exact As (.tmp rfl) (fun w h => ⟨rfl, Au h.up⟩) rfl
 obtain rfl : r = false := by rw [← hr, hb1]; rfl
 refine Ad (Af Ah rfl (Ac rfl (.agg #[.int .u64 i, .int .u64 t, .int .i64 c]) (fun b w hb hH => Bb rfl rfl (EX (cs := [.int .u64 i, .int .u64 t, .int .i64 c, .slice A n cp]) Du rfl) (hH.row 0 rfl) hb) (Aj (post := fun _ => [cell g 34 #[.int .u64 i, .int .u64 t, .int .i64 c, .slice A n cp]]) rfl (Bg (Ag Tryz.func46 (by kernel_rfl) rfl) (fun w hH => Ji w i t c false hb1) rfl rfl rfl) ?_))); rintro ⟨⟩
 refine Af Ah rfl (Ab (Av ?_))
 exact As (.tmp rfl) (fun w h => ⟨rfl, Au h.up⟩) rfl
theorem Md (w : World) {s : SnV} {A : Option Addr} {cp : Nat} (r : Bool) (h : EL s = r) : Calls Tryz.prog 16 #[.agg #[.int .u64 s.i, .int .u64 s.t, .int .i64 s.c, .slice A s.d.length cp]] w fun e w' => e = .returned (.bool r) ∧ Below w.heap.size w w' :=
 WB w _ _ _ r h
theorem Ra {te : TypeId} {v : Value} {l : List PtT} {y : PtT} {j : Nat} (hj : l[j]? = some y) : ∀ rs, AV te v l rs → ∃ A c, y.1 = .slice A y.2.length c := fun rs h => by
 obtain ⟨a, b, rfl, _, h2⟩ := h
 obtain ⟨_, ys, _, _, h3, _⟩ := Ak.at_ (i := j) (o := Ap 5 1 encB y.1 y.2) h2.one' (by simp [hj])
 exact Ap.is h3
theorem Qf {q : Nat} {d d' : DiskD} {s : SnV} {e : Nat} (hf : d.fitK 2) (hbl : ∀ b, (Bo (Ck d).1 snapN).getD [] = b → b.length ≤ 137438953472) (h : CL d = (d', some s, e)) : AW Tryz.prog 12 #[.pointer (some ⟨q, 0, none⟩)] [AB q d] (fun (x : Option Addr × Nat) => .tuple #[.agg #[.int .u64 s.i, .int .u64 s.t, .int .i64 s.c, .slice x.1 s.d.length x.2], .bool true, .int .i64 (e : Int)]) (fun (x : Option Addr × Nat) => [AB q d', Ap 5 1 encB (.slice x.1 s.d.length x.2) s.d]) := by
  refine Be (args := [.pointer (some ⟨q, 0, none⟩)]) 74 Tryz.func12 rfl rfl rfl ?_; intro w rs
  obtain ⟨⟨d1, e1⟩, hrm⟩ : ∃ R, Ck d = R := ⟨_, rfl⟩
  have hr1 : (Ck d).1 = d1 := by rw [hrm]
  have hr2 : (Ck d).2 = e1 := by rw [hrm]
  have hf1 : d1.fitK 1 := by rw [← hr1]; exact FN hf
  obtain ⟨b, hb⟩ : ∃ b, (Bo d1 snapN).getD [] = b := ⟨_, rfl⟩
  unfold CL at h
  rw [hr1, hr2, hb] at h
  obtain ⟨ok, hok⟩ : ∃ ok, (Bo d1 snapN).isSome = ok := ⟨_, rfl⟩
  replace hbl : b.length ≤ 137438953472 := hbl b (by rw [hr1]; exact hb)
  have he1 : e1 = 0 := by by_cases h9 : e1 = 0; exact h9; rw [if_pos h9] at h; cases h
  rw [if_neg (by omega)] at h
  obtain ⟨rfl, ho, rfl⟩ : d1 = d' ∧ Ec b = some s ∧ 0 = e := by simpa [Prod.ext_iff] using h
  obtain ⟨p, hls, hrd⟩ := Oy ho
  obtain ⟨ps, hps⟩ : ∃ ps, ps = [p] := ⟨_, rfl⟩
  obtain ⟨k, hk⟩ : ∃ k, k = b.length := ⟨_, rfl⟩
  rw [← hps, ← hk] at hls
  obtain ⟨r, hs⟩ : ∃ r, (Bo d snewN).isSome = r := ⟨_, rfl⟩
  obtain ⟨⟨n1, l1, f1⟩, h1⟩ : ∃ R, BL 72057594037927935 p 0 = R := ⟨_, rfl⟩
  obtain ⟨⟨n2, l2, f2⟩, h2⟩ : ∃ R, BL 72057594037927935 l1 f1 = R := ⟨_, rfl⟩
  obtain ⟨x3, l3, f3, h3⟩ := QG 254 l2 f2
  obtain ⟨⟨dd, l4, f4⟩, h4⟩ : ∃ R, BZ 32768 l3 f3 = R := ⟨_, rfl⟩
  obtain ⟨r5, h5⟩ : ∃ r, Dy l4 f4 = r := ⟨_, rfl⟩
  have hx3 := x3.toNat_lt
  rw [GT (Fc h1 h2 h3) h4, h5] at hrd
  obtain ⟨rr, hrr⟩ : ∃ rr, EL ⟨(n1 : Int), (n2 : Int), (x3.toNat : Int), dd⟩ = rr := ⟨_, rfl⟩
  rw [hrr] at hrd
  have hr5 : r5 = 0 := by by_cases e9 : r5 = 0; exact e9; rw [if_neg e9] at hrd; cases hrd
  rw [if_pos hr5] at hrd
  have hrt : rr = true := by by_cases e9 : rr = true; exact e9; rw [if_neg e9] at hrd; cases hrd
  rw [if_pos hrt] at hrd
  subst hrt
  obtain rfl := Option.some.inj hrd
  refine Ad (Af Ah rfl (Aj (post := fun g2 => [cell g2 34 #[.int .u64 0, .int .u64 0, .int .i64 0, .slice none 0 0], AB q d]) rfl (Ch BA rfl) ?_)); rintro g2
  refine Af Ah rfl (Ab (Aq (Ad (Af Ah rfl (Ac rfl (.bool false) (fun b w hb hH => CT (by kernel_rfl) rfl rfl rfl hb) (Ab (Aw rfl (AC (AO (Aq (Ad (Af Ah rfl (Aj rfl (Am (os' := fun _ => [cell g2 34 #[.int .u64 0, .int .u64 0, .int .i64 0, .slice none 0 0], AB q d]) [1] 0 (Ag Tryz.func36 (by kernel_rfl) rfl) (Ul (n := snewN) hs) rfl rfl rfl (fun _ => rfl) rfl rfl rfl) ?_))))))))))))); rintro ⟨⟩
  refine Ab ?_
  refine Ql [(0, .pointer (some ⟨q, 0, none⟩)), (2, .pointer (some ⟨g2, 0, none⟩)), (3, .bool false), (4, .int .i64 0)] [cell g2 34 #[.int .u64 0, .int .u64 0, .int .i64 0, .slice none 0 0], AB q d1] ?_ ?_
  cases r
  obtain rfl : d1 = d := by unfold Ck at hrm; rw [if_neg (by rw [hs]; simp)] at hrm; exact (Prod.mk.inj hrm).1.symm
  refine Aw rfl (AC ?_)
  exact Lu 0 ⟨rfl, rfl, rfl, rfl, trivial⟩ rfl
  have hdel : Fw d snewN = (d1, e1) := by unfold Ck at hrm; rwa [if_pos hs] at hrm
  refine AI rfl (Ad (Af Ah rfl (Aj rfl (Am (os' := fun _ => [cell g2 34 #[.int .u64 0, .int .u64 0, .int .i64 0, .slice none 0 0], AB q d1]) [1] 0 (Ag Tryz.func37 (by kernel_rfl) rfl) (M3 (n := snewN) hf.fit hdel) rfl rfl rfl (fun _ => rfl) rfl rfl rfl) ?_))); rintro ⟨⟩
  refine Af Ah rfl (Ab (Ad (Af Ah rfl (Ac rfl (.bool false) (fun b w hb hH => Bc rfl rfl rfl (AK (by omega)) hb) (Ab (Aw rfl (AC ?_)))))))
  exact Lu 0 ⟨rfl, rfl, rfl, rfl, trivial⟩ rfl
  refine AO (Ad (Af Ah rfl (Aj rfl (Am (os' := fun rv => [cell g2 34 #[.int .u64 0, .int .u64 0, .int .i64 0, .slice none 0 0], DG q d1 rv b]) [1] 0 (Ag Tryz.func38 (by kernel_rfl) rfl) (JA (n := snapN) hok hb) rfl rfl rfl (fun _ => rfl) rfl rfl rfl) ?_))); rintro rv
  refine Af Ah rfl (Ab (Bv.fact 1 rfl Q5 ?_)); rintro ⟨A9, c9, hrv⟩
  subst hrv
  refine Bv.keep (env' := [(0, .pointer (some ⟨q, 0, none⟩)), (2, .pointer (some ⟨g2, 0, none⟩)), (3, .bool false), (4, .int .i64 0), (24, .pointer (some ⟨q, 0, none⟩)), (25, .tuple #[.slice A9 b.length c9, .bool ok]), (23, .tuple #[.slice A9 b.length c9, .bool ok]), (26, .slice A9 b.length c9), (27, .bool ok), (6, .slice A9 b.length c9), (7, .bool ok)]) ⟨rfl, rfl, rfl, rfl, rfl, rfl, rfl, rfl, rfl, rfl, rfl, trivial⟩ (Bv.mid [cell g2 34 #[.int .u64 0, .int .u64 0, .int .i64 0, .slice none 0 0], DG q d1 (.slice A9 b.length c9) b] (.refl _) (Ad (Af Ah rfl (Aj rfl (Am (os' := fun (x : PsV) => [AV 32 x.v x.l, fact (x.l.map (·.2) = ps), cell g2 34 #[.int .u64 0, .int .u64 0, .int .i64 0, .slice none 0 0], DG q d1 (.slice A9 b.length c9) b]) [1] 0 (Ag Tryz.func39 (by kernel_rfl) rfl) (NR FO hbl hls) rfl rfl rfl (fun _ => rfl) rfl rfl rfl) ?_)))); rintro x
  refine Ce.fact 1 rfl (fun _ h => h.2) ?_; rintro hxps
  refine Ce.leave [1] rfl rfl ?_
  replace hxps : x.l.map (·.2) = ps := hxps
  have hxl : x.l.length = ps.length := by rw [← hxps, List.length_map]
  refine Af Ah rfl (Ab (Aq ?_))
  obtain ⟨⟨v5, p5⟩, hxj⟩ : ∃ y, x.l[0]? = some y := ⟨_, List.getElem?_eq_getElem (by rw [hxl, hps]; exact Nat.succ_pos _)⟩
  have h9 : (x.l.map (·.2))[0]? = some p5 := by rw [List.getElem?_map, hxj]; rfl
  rw [hxps, hps] at h9
  obtain rfl := Option.some.inj h9
  have hpl : p.length ≤ 65536 := by have h7 := Et b.length b; change ∀ x, x ∈ (B1 b).1 → x.length ≤ 65536 at h7; rw [hls, hps] at h7; exact h7 p (by simp)
  refine Bv.fact 0 rfl (Ra hxj) ?_; rintro ⟨A5, c5, hv5⟩
  change v5 = .slice A5 p.length c5 at hv5
  subst hv5
  refine Ad (Af Ah rfl (Ac rfl (.int .i64 (x.l.length : Int)) (fun b w hb hH => Gz 0 Tryz.underlying78 rfl rfl rfl hH hb) (Ac rfl (.bool false) (fun b w hb hH => Bc rfl rfl rfl (AK (by rw [hxl, hps]; rfl)) hb) (Af Ah rfl (Ac rfl (.int .i64 (b.length : Int)) (fun b w hb hH => AY (((hH.rd8 2 rfl FO).rd)) Tryz.underlying32 rfl rfl hb) (Ac rfl (.bool false) (fun b w hb hH => Bc rfl rfl rfl (AK (by omega)) hb) (Af Ah rfl (Ab (Aw rfl (AC (AO (Bk [2] rfl E3 rfl ?_))))))))))))
  refine Ad (Af Ah rfl (Ac rfl (Cs x.v (0 * 1)) (fun b w hb hH => MD 1 Dv rfl 0 (by rw [hxl, hps]; exact Nat.succ_pos _) rfl rfl rfl hH hb) (Ac rfl (.slice A5 p.length c5) (fun b w hb hH => JY 1 Cy rfl 0 hxj rfl rfl hH hb) (Ac rfl (.agg #[.slice A5 p.length c5, .int .i64 0, .int .i64 0]) (fun b w hb hH => Bh rfl rfl (by kernel_rfl) hb) (Aj (post := fun g12 => [cell g12 83 #[.slice A5 p.length c5, .int .i64 0, .int .i64 0], AB q d1, AV 32 x.v x.l, cell g2 34 #[.int .u64 0, .int .u64 0, .int .i64 0, .slice none 0 0]]) rfl (CU (cs := #[.slice A5 p.length c5, .int .i64 0, .int .i64 0]) rfl rfl rfl) ?_))))); rintro g12
  refine Af Ah rfl (Ab (Ad (Af Ah rfl (Aj (post := fun g11 => [cell g11 34 #[.int .u64 0, .int .u64 0, .int .i64 0, .slice none 0 0], cell g12 83 #[.slice A5 p.length c5, .int .i64 0, .int .i64 0], AB q d1, AV 32 x.v x.l, cell g2 34 #[.int .u64 0, .int .u64 0, .int .i64 0, .slice none 0 0]]) rfl (Ch BA rfl) ?_)))); rintro g11
  refine Ab (Bk [1] rfl (Uk (b := p)) rfl (Ad (Af Ah rfl (Aj rfl (Am (os' := fun _ => [Gw (.slice A5 p.length c5) p g12 l1 f1, cell g11 34 #[.int .u64 0, .int .u64 0, .int .i64 0, .slice none 0 0], AB q d1, AV 32 x.v x.l, cell g2 34 #[.int .u64 0, .int .u64 0, .int .i64 0, .slice none 0 0]]) [0, 3] 0 (Ag Tryz.func40 (by kernel_rfl) rfl) (Ka (C6 hxj) (by show p.length ≤ _; omega) 72057594037927935 (by decide) (n1, l1, f1) h1) rfl rfl rfl (fun _ => rfl) rfl rfl rfl) ?_)))); rintro ⟨⟩
  refine Af Ah rfl (AU (post := fun _ => [Gw (.slice A5 p.length c5) p g12 l1 f1, cell g11 34 #[.int .u64 ((n1 : Nat) : Int), .int .u64 0, .int .i64 0, .slice none 0 0], AB q d1, AV 32 x.v x.l, cell g2 34 #[.int .u64 0, .int .u64 0, .int .i64 0, .slice none 0 0]]) rfl rfl (AQ 1 (v := .int .u64 ((n1 : Nat) : Int)) #[.int .u64 ((n1 : Nat) : Int), .int .u64 0, .int .i64 0, .slice none 0 0] Bz.2 rfl rfl rfl rfl rfl rfl rfl rfl rfl) ?_); rintro ⟨⟩
  refine Ab (Ad (Af Ah rfl (Aj rfl (Am (os' := fun _ => [Gw (.slice A5 p.length c5) p g12 l2 f2, cell g11 34 #[.int .u64 ((n1 : Nat) : Int), .int .u64 0, .int .i64 0, .slice none 0 0], AB q d1, AV 32 x.v x.l, cell g2 34 #[.int .u64 0, .int .u64 0, .int .i64 0, .slice none 0 0]]) [0, 3] 0 (Ag Tryz.func40 (by kernel_rfl) rfl) (Ka (C6 hxj) (by show p.length ≤ _; omega) 72057594037927935 (by decide) (n2, l2, f2) h2) rfl rfl rfl (fun _ => rfl) rfl rfl rfl) ?_))); rintro ⟨⟩
  refine Af Ah rfl (AU (post := fun _ => [Gw (.slice A5 p.length c5) p g12 l2 f2, cell g11 34 #[.int .u64 ((n1 : Nat) : Int), .int .u64 ((n2 : Nat) : Int), .int .i64 0, .slice none 0 0], AB q d1, AV 32 x.v x.l, cell g2 34 #[.int .u64 0, .int .u64 0, .int .i64 0, .slice none 0 0]]) rfl rfl (AQ 1 (v := .int .u64 ((n2 : Nat) : Int)) #[.int .u64 ((n1 : Nat) : Int), .int .u64 ((n2 : Nat) : Int), .int .i64 0, .slice none 0 0] Bz.2 rfl rfl rfl rfl rfl rfl rfl rfl rfl) ?_); rintro ⟨⟩
  refine Ab (Ad (Af Ah rfl (Aj rfl (Am (os' := fun _ => [Gw (.slice A5 p.length c5) p g12 l3 f3, cell g11 34 #[.int .u64 ((n1 : Nat) : Int), .int .u64 ((n2 : Nat) : Int), .int .i64 0, .slice none 0 0], AB q d1, AV 32 x.v x.l, cell g2 34 #[.int .u64 0, .int .u64 0, .int .i64 0, .slice none 0 0]]) [0, 3] 0 (Ag Tryz.func41 (by kernel_rfl) rfl) (OG (C6 hxj) (by show p.length ≤ _; omega) 254 (by decide) (x3.toNat, l3, f3) h3) rfl rfl rfl (fun _ => rfl) rfl rfl rfl) ?_))); rintro ⟨⟩
  refine Ac rfl (.int .i64 (x3.toNat : Int)) (fun b w hb hH => AR Tryz.underlying5 Tryz.underlying3 (IntWalk.i64_in _ (by omega)) rfl rfl hb) (Af Ah rfl (AU (post := fun _ => [Gw (.slice A5 p.length c5) p g12 l3 f3, cell g11 34 #[.int .u64 ((n1 : Nat) : Int), .int .u64 ((n2 : Nat) : Int), .int .i64 (x3.toNat : Int), .slice none 0 0], AB q d1, AV 32 x.v x.l, cell g2 34 #[.int .u64 0, .int .u64 0, .int .i64 0, .slice none 0 0]]) rfl rfl (AQ 1 (v := .int .i64 (x3.toNat : Int)) #[.int .u64 ((n1 : Nat) : Int), .int .u64 ((n2 : Nat) : Int), .int .i64 (x3.toNat : Int), .slice none 0 0] Bt.2 rfl rfl rfl rfl rfl rfl rfl rfl rfl) ?_)); rintro ⟨⟩
  refine Ab (Bv.keep (env' := [(2, .pointer (some ⟨g2, 0, none⟩)), (3, .bool false), (4, .int .i64 0), (10, .pointer (some ⟨g12, 0, none⟩)), (11, .pointer (some ⟨g11, 0, none⟩))]) ⟨rfl, rfl, rfl, rfl, rfl, trivial⟩ (Ad (Af Ah rfl (Aj rfl (Am (os' := fun v9 => [Ap 5 1 encB v9 dd, Gw (.slice A5 p.length c5) p g12 l4 f4, cell g11 34 #[.int .u64 ((n1 : Nat) : Int), .int .u64 ((n2 : Nat) : Int), .int .i64 (x3.toNat : Int), .slice none 0 0], AB q d1, AV 32 x.v x.l, cell g2 34 #[.int .u64 0, .int .u64 0, .int .i64 0, .slice none 0 0]]) [0, 3] 0 (Ag Tryz.func42 (by kernel_rfl) rfl) (Ma (C6 hxj) (by show p.length ≤ _; omega) 32768 (by decide) (by decide) (dd, l4, f4) h4) rfl rfl rfl (fun _ => rfl) rfl rfl rfl) ?_)))); rintro v9
  refine Ce.fact 0 rfl (fun _ h => Ap.is h) ?_; rintro ⟨A8, c8, rfl⟩
  refine Af Ah rfl (AU (post := fun _ => [Ap 5 1 encB (.slice A8 dd.length c8) dd, Gw (.slice A5 p.length c5) p g12 l4 f4, cell g11 34 #[.int .u64 ((n1 : Nat) : Int), .int .u64 ((n2 : Nat) : Int), .int .i64 (x3.toNat : Int), .slice A8 dd.length c8], AB q d1, AV 32 x.v x.l, cell g2 34 #[.int .u64 0, .int .u64 0, .int .i64 0, .slice none 0 0]]) rfl rfl (AQ 2 (v := .slice A8 dd.length c8) #[.int .u64 ((n1 : Nat) : Int), .int .u64 ((n2 : Nat) : Int), .int .i64 (x3.toNat : Int), .slice A8 dd.length c8] Cy.2 rfl rfl rfl rfl rfl rfl rfl rfl rfl) ?_); rintro ⟨⟩
  refine Ab (Aq (Ad (Af Ah rfl (Aj rfl (Am (os' := fun _ => [Ap 5 1 encB (.slice A8 dd.length c8) dd, Gw (.slice A5 p.length c5) p g12 l4 f4, cell g11 34 #[.int .u64 ((n1 : Nat) : Int), .int .u64 ((n2 : Nat) : Int), .int .i64 (x3.toNat : Int), .slice A8 dd.length c8], AB q d1, AV 32 x.v x.l, cell g2 34 #[.int .u64 0, .int .u64 0, .int .i64 0, .slice none 0 0]]) [1, 4] 0 (Ag Tryz.func43 (by kernel_rfl) rfl) (M5 (C6 hxj) (by show p.length ≤ _; omega) r5 h5) rfl rfl rfl (fun _ => rfl) rfl rfl rfl) ?_)))); rintro ⟨⟩
  refine Ac rfl (.bool false) (fun b w hb hH => Bc rfl rfl rfl (AK (by omega)) hb) (Af Ah rfl (Ac rfl (.agg #[.int .u64 ((n1 : Nat) : Int), .int .u64 ((n2 : Nat) : Int), .int .i64 (x3.toNat : Int), .slice A8 dd.length c8]) (fun b w hb hH => Bb rfl rfl (EX (cs := [.int .u64 ((n1 : Nat) : Int), .int .u64 ((n2 : Nat) : Int), .int .i64 (x3.toNat : Int), .slice A8 dd.length c8]) AA rfl) (hH.row 2 rfl) hb) (Aj (post := fun _ => [Ap 5 1 encB (.slice A8 dd.length c8) dd, Gw (.slice A5 p.length c5) p g12 l4 f4, cell g11 34 #[.int .u64 ((n1 : Nat) : Int), .int .u64 ((n2 : Nat) : Int), .int .i64 (x3.toNat : Int), .slice A8 dd.length c8], AB q d1, AV 32 x.v x.l, cell g2 34 #[.int .u64 0, .int .u64 0, .int .i64 0, .slice none 0 0]]) rfl (Bg (Ag Tryz.func16 (by kernel_rfl) rfl) (fun w hH => Md (s := ⟨(n1 : Int), (n2 : Int), (x3.toNat : Int), dd⟩) w true hrr) rfl rfl rfl) ?_))); rintro ⟨⟩
  refine Af Ah rfl (Ab (Aw rfl (AC (AO (Ad (Af Ah rfl (Ac rfl (.agg #[.int .u64 ((n1 : Nat) : Int), .int .u64 ((n2 : Nat) : Int), .int .i64 (x3.toNat : Int), .slice A8 dd.length c8]) (fun b w hb hH => Bb rfl rfl (EX (cs := [.int .u64 ((n1 : Nat) : Int), .int .u64 ((n2 : Nat) : Int), .int .i64 (x3.toNat : Int), .slice A8 dd.length c8]) AA rfl) (hH.row 2 rfl) hb) (AU (post := fun _ => [Ap 5 1 encB (.slice A8 dd.length c8) dd, Gw (.slice A5 p.length c5) p g12 l4 f4, cell g11 34 #[.int .u64 ((n1 : Nat) : Int), .int .u64 ((n2 : Nat) : Int), .int .i64 (x3.toNat : Int), .slice A8 dd.length c8], AB q d1, AV 32 x.v x.l, cell g2 34 #[.int .u64 ((n1 : Nat) : Int), .int .u64 ((n2 : Nat) : Int), .int .i64 (x3.toNat : Int), .slice A8 dd.length c8]]) rfl rfl (AQ 5 (v := .agg #[.int .u64 ((n1 : Nat) : Int), .int .u64 ((n2 : Nat) : Int), .int .i64 (x3.toNat : Int), .slice A8 dd.length c8]) #[.int .u64 ((n1 : Nat) : Int), .int .u64 ((n2 : Nat) : Int), .int .i64 (x3.toNat : Int), .slice A8 dd.length c8] AA.2 rfl rfl rfl rfl rfl rfl rfl rfl rfl) ?_)))))))); rintro ⟨⟩
  refine Af Ah rfl (Ab (Av ?_))
  exact Em (.cell 5 (v := .agg #[.int .u64 ((n1 : Nat) : Int), .int .u64 ((n2 : Nat) : Int), .int .i64 (x3.toNat : Int), .slice A8 dd.length c8]) (EX (cs := [.int .u64 ((n1 : Nat) : Int), .int .u64 ((n2 : Nat) : Int), .int .i64 (x3.toNat : Int), .slice A8 dd.length c8]) AA rfl) rfl rfl) (.tmp rfl) (.tmp rfl) (fun w h => AG (A8, c8) rfl [3, 0] rfl h CV) rfl
theorem Qg {q : Nat} {d d' : DiskD} {e : Nat} (hf : d.fitK 2) (hbl : ∀ b, (Bo (Ck d).1 snapN).getD [] = b → b.length ≤ 137438953472) (h : CL d = (d', none, e)) : AW Tryz.prog 12 #[.pointer (some ⟨q, 0, none⟩)] [AB q d] (fun (_ : Unit) => .tuple #[.agg #[.int .u64 0, .int .u64 0, .int .i64 0, .slice none 0 0], .bool false, .int .i64 (e : Int)]) (fun (_ : Unit) => [AB q d']) := by
  refine Be (args := [.pointer (some ⟨q, 0, none⟩)]) 74 Tryz.func12 rfl rfl rfl ?_; intro w rs
  obtain ⟨⟨d1, e1⟩, hrm⟩ : ∃ R, Ck d = R := ⟨_, rfl⟩
  have hr1 : (Ck d).1 = d1 := by rw [hrm]
  have hr2 : (Ck d).2 = e1 := by rw [hrm]
  have hf1 : d1.fitK 1 := by rw [← hr1]; exact FN hf
  obtain ⟨b, hb⟩ : ∃ b, (Bo d1 snapN).getD [] = b := ⟨_, rfl⟩
  unfold CL at h
  rw [hr1, hr2, hb] at h
  obtain ⟨ok, hok⟩ : ∃ ok, (Bo d1 snapN).isSome = ok := ⟨_, rfl⟩
  replace hbl : b.length ≤ 137438953472 := hbl b (by rw [hr1]; exact hb)
  refine Ad (Af Ah rfl (Aj (post := fun g2 => [cell g2 34 #[.int .u64 0, .int .u64 0, .int .i64 0, .slice none 0 0], AB q d]) rfl (Ch BA rfl) ?_)); rintro g2
  refine Af Ah rfl (Ab (Aq (Ad (Af Ah rfl (Ac rfl (.bool false) (fun b w hb hH => CT (by kernel_rfl) rfl rfl rfl hb) (Ab (Aw rfl (AC (AO (Aq ?_))))))))))
  obtain ⟨r, hs⟩ : ∃ r, (Bo d snewN).isSome = r := ⟨_, rfl⟩
  rcases Nat.eq_zero_or_pos e1 with he1 | he1
  · skip
    rw [if_neg (by omega)] at h
    obtain ⟨rfl, ho, rfl⟩ : d1 = d' ∧ Ec b = none ∧ 0 = e := by simpa [Prod.ext_iff] using h
    obtain ⟨⟨ps, k⟩, hls⟩ : ∃ R, B1 b = R := ⟨_, rfl⟩
    have hno := LZ ho
    rw [hls] at hno
    refine Ad (Af Ah rfl (Aj rfl (Am (os' := fun _ => [cell g2 34 #[.int .u64 0, .int .u64 0, .int .i64 0, .slice none 0 0], AB q d]) [1] 0 (Ag Tryz.func36 (by kernel_rfl) rfl) (Ul (n := snewN) hs) rfl rfl rfl (fun _ => rfl) rfl rfl rfl) ?_)); rintro ⟨⟩
    refine Ab ?_
    refine Ql [(0, .pointer (some ⟨q, 0, none⟩)), (2, .pointer (some ⟨g2, 0, none⟩)), (3, .bool false), (4, .int .i64 0)] [cell g2 34 #[.int .u64 0, .int .u64 0, .int .i64 0, .slice none 0 0], AB q d1] ?_ ?_
    cases r
    obtain rfl : d1 = d := by unfold Ck at hrm; rw [if_neg (by rw [hs]; simp)] at hrm; exact (Prod.mk.inj hrm).1.symm
    refine Aw rfl (AC ?_)
    exact Lu 0 ⟨rfl, rfl, rfl, rfl, trivial⟩ rfl
    have hdel : Fw d snewN = (d1, e1) := by unfold Ck at hrm; rwa [if_pos hs] at hrm
    refine AI rfl (Ad (Af Ah rfl (Aj rfl (Am (os' := fun _ => [cell g2 34 #[.int .u64 0, .int .u64 0, .int .i64 0, .slice none 0 0], AB q d1]) [1] 0 (Ag Tryz.func37 (by kernel_rfl) rfl) (M3 (n := snewN) hf.fit hdel) rfl rfl rfl (fun _ => rfl) rfl rfl rfl) ?_))); rintro ⟨⟩
    refine Af Ah rfl (Ab (Ad (Af Ah rfl (Ac rfl (.bool false) (fun b w hb hH => Bc rfl rfl rfl (AK (by omega)) hb) (Ab (Aw rfl (AC ?_)))))))
    exact Lu 0 ⟨rfl, rfl, rfl, rfl, trivial⟩ rfl
    refine AO (Ad (Af Ah rfl (Aj rfl (Am (os' := fun rv => [cell g2 34 #[.int .u64 0, .int .u64 0, .int .i64 0, .slice none 0 0], DG q d1 rv b]) [1] 0 (Ag Tryz.func38 (by kernel_rfl) rfl) (JA (n := snapN) hok hb) rfl rfl rfl (fun _ => rfl) rfl rfl rfl) ?_))); rintro rv
    refine Af Ah rfl (Ab (Bv.fact 1 rfl Q5 ?_)); rintro ⟨A9, c9, hrv⟩
    subst hrv
    refine Bv.keep (env' := [(0, .pointer (some ⟨q, 0, none⟩)), (2, .pointer (some ⟨g2, 0, none⟩)), (3, .bool false), (4, .int .i64 0), (24, .pointer (some ⟨q, 0, none⟩)), (25, .tuple #[.slice A9 b.length c9, .bool ok]), (23, .tuple #[.slice A9 b.length c9, .bool ok]), (26, .slice A9 b.length c9), (27, .bool ok), (6, .slice A9 b.length c9), (7, .bool ok)]) ⟨rfl, rfl, rfl, rfl, rfl, rfl, rfl, rfl, rfl, rfl, rfl, trivial⟩ (Bv.mid [cell g2 34 #[.int .u64 0, .int .u64 0, .int .i64 0, .slice none 0 0], DG q d1 (.slice A9 b.length c9) b] (.refl _) (Ad (Af Ah rfl (Aj rfl (Am (os' := fun (x : PsV) => [AV 32 x.v x.l, fact (x.l.map (·.2) = ps), cell g2 34 #[.int .u64 0, .int .u64 0, .int .i64 0, .slice none 0 0], DG q d1 (.slice A9 b.length c9) b]) [1] 0 (Ag Tryz.func39 (by kernel_rfl) rfl) (NR FO hbl hls) rfl rfl rfl (fun _ => rfl) rfl rfl rfl) ?_)))); rintro x
    refine Ce.fact 1 rfl (fun _ h => h.2) ?_; rintro hxps
    refine Ce.leave [1] rfl rfl ?_
    replace hxps : x.l.map (·.2) = ps := hxps
    have hxl : x.l.length = ps.length := by rw [← hxps, List.length_map]
    refine Af Ah rfl (Ab (Aq ?_))
    rcases hno with ⟨p, h0, hrd⟩ | h0
    rotate_left
    rcases Classical.em (ps.length = 1) with h2 | h2
    refine Ad (Af Ah rfl (Ac rfl (.int .i64 (x.l.length : Int)) (fun b w hb hH => Gz 0 Tryz.underlying78 rfl rfl rfl hH hb) (Ac rfl (.bool false) (fun b w hb hH => Bc rfl rfl rfl (AK (by omega)) hb) (Af Ah rfl (Ac rfl (.int .i64 (b.length : Int)) (fun b w hb hH => AY (((hH.rd8 2 rfl FO).rd)) Tryz.underlying32 rfl rfl hb) (Ac rfl (.bool true) (fun b w hb hH => Bc rfl rfl rfl (BO (by rcases h0 with h0 | h0; exact absurd h2 h0; simp only at h0; omega)) hb) (Af Ah rfl (Ab (AI rfl (Bk [2] rfl E3 rfl ?_))))))))))
    refine Ad (Af Ah rfl (Ac rfl (.agg #[.int .u64 0, .int .u64 0, .int .i64 0, .slice none 0 0]) (fun b w hb hH => Bh rfl rfl (by kernel_rfl) hb) (AU (post := fun _ => [AB q d1, AV 32 x.v x.l, cell g2 34 #[.int .u64 0, .int .u64 0, .int .i64 0, .slice none 0 0]]) rfl rfl (AQ 2 (v := .agg #[.int .u64 0, .int .u64 0, .int .i64 0, .slice none 0 0]) #[.int .u64 0, .int .u64 0, .int .i64 0, .slice none 0 0] AA.2 rfl rfl rfl rfl rfl rfl rfl rfl rfl) ?_))); rintro ⟨⟩
    refine Af Ah rfl (Ab (Av (C0 ?_)))
    exact Em (.cell 2 (v := .agg #[.int .u64 0, .int .u64 0, .int .i64 0, .slice none 0 0]) (EX (cs := [.int .u64 0, .int .u64 0, .int .i64 0, .slice none 0 0]) AA rfl) rfl rfl) (.tmp rfl) (.tmp rfl) (fun w h => AG () rfl [0] rfl h CV) rfl
    refine Ad (Af Ah rfl (Ac rfl (.int .i64 (x.l.length : Int)) (fun b w hb hH => Gz 0 Tryz.underlying78 rfl rfl rfl hH hb) (Ac rfl (.bool true) (fun b w hb hH => Bc rfl rfl rfl (BO (by omega)) hb) (Af Ah rfl (Ab (AI rfl (Bk [2] rfl E3 rfl (Ad (Af Ah rfl (Ac rfl (.agg #[.int .u64 0, .int .u64 0, .int .i64 0, .slice none 0 0]) (fun b w hb hH => Bh rfl rfl (by kernel_rfl) hb) ?_))))))))))
    refine AU (post := fun _ => [AB q d1, AV 32 x.v x.l, cell g2 34 #[.int .u64 0, .int .u64 0, .int .i64 0, .slice none 0 0]]) rfl rfl (AQ 2 (v := .agg #[.int .u64 0, .int .u64 0, .int .i64 0, .slice none 0 0]) #[.int .u64 0, .int .u64 0, .int .i64 0, .slice none 0 0] AA.2 rfl rfl rfl rfl rfl rfl rfl rfl rfl) ?_; rintro ⟨⟩
    refine Af Ah rfl (Ab (Av (C0 ?_)))
    exact Em (.cell 2 (v := .agg #[.int .u64 0, .int .u64 0, .int .i64 0, .slice none 0 0]) (EX (cs := [.int .u64 0, .int .u64 0, .int .i64 0, .slice none 0 0]) AA rfl) rfl rfl) (.tmp rfl) (.tmp rfl) (fun w h => AG () rfl [0] rfl h CV) rfl
    obtain ⟨hps, hk⟩ := Prod.mk.inj h0
    obtain ⟨⟨v5, p5⟩, hxj⟩ : ∃ y, x.l[0]? = some y := ⟨_, List.getElem?_eq_getElem (by rw [hxl, hps]; exact Nat.succ_pos _)⟩
    have h9 : (x.l.map (·.2))[0]? = some p5 := by rw [List.getElem?_map, hxj]; rfl
    rw [hxps, hps] at h9
    obtain rfl := Option.some.inj h9
    have hpl : p.length ≤ 65536 := by have h7 := Et b.length b; change ∀ x, x ∈ (B1 b).1 → x.length ≤ 65536 at h7; rw [hls, hps] at h7; exact h7 p (by simp)
    obtain ⟨⟨n1, l1, f1⟩, h1⟩ : ∃ R, BL 72057594037927935 p 0 = R := ⟨_, rfl⟩
    obtain ⟨⟨n2, l2, f2⟩, h2⟩ : ∃ R, BL 72057594037927935 l1 f1 = R := ⟨_, rfl⟩
    obtain ⟨x3, l3, f3, h3⟩ := QG 254 l2 f2
    obtain ⟨⟨dd, l4, f4⟩, h4⟩ : ∃ R, BZ 32768 l3 f3 = R := ⟨_, rfl⟩
    obtain ⟨r5, h5⟩ : ∃ r, Dy l4 f4 = r := ⟨_, rfl⟩
    have hx3 := x3.toNat_lt
    rw [GT (Fc h1 h2 h3) h4, h5] at hrd
    obtain ⟨rr, hrr⟩ : ∃ rr, EL ⟨(n1 : Int), (n2 : Int), (x3.toNat : Int), dd⟩ = rr := ⟨_, rfl⟩
    rw [hrr] at hrd
    refine Bv.fact 0 rfl (Ra hxj) ?_; rintro ⟨A5, c5, hv5⟩
    change v5 = .slice A5 p.length c5 at hv5
    subst hv5
    refine Ad (Af Ah rfl (Ac rfl (.int .i64 (x.l.length : Int)) (fun b w hb hH => Gz 0 Tryz.underlying78 rfl rfl rfl hH hb) (Ac rfl (.bool false) (fun b w hb hH => Bc rfl rfl rfl (AK (by rw [hxl, hps]; rfl)) hb) (Af Ah rfl (Ac rfl (.int .i64 (b.length : Int)) (fun b w hb hH => AY (((hH.rd8 2 rfl FO).rd)) Tryz.underlying32 rfl rfl hb) (Ac rfl (.bool false) (fun b w hb hH => Bc rfl rfl rfl (AK (by omega)) hb) (Af Ah rfl (Ab (Aw rfl (AC (AO (Bk [2] rfl E3 rfl ?_))))))))))))
    refine Ad (Af Ah rfl (Ac rfl (Cs x.v (0 * 1)) (fun b w hb hH => MD 1 Dv rfl 0 (by rw [hxl, hps]; exact Nat.succ_pos _) rfl rfl rfl hH hb) (Ac rfl (.slice A5 p.length c5) (fun b w hb hH => JY 1 Cy rfl 0 hxj rfl rfl hH hb) (Ac rfl (.agg #[.slice A5 p.length c5, .int .i64 0, .int .i64 0]) (fun b w hb hH => Bh rfl rfl (by kernel_rfl) hb) (Aj (post := fun g12 => [cell g12 83 #[.slice A5 p.length c5, .int .i64 0, .int .i64 0], AB q d1, AV 32 x.v x.l, cell g2 34 #[.int .u64 0, .int .u64 0, .int .i64 0, .slice none 0 0]]) rfl (CU (cs := #[.slice A5 p.length c5, .int .i64 0, .int .i64 0]) rfl rfl rfl) ?_))))); rintro g12
    refine Af Ah rfl (Ab (Ad (Af Ah rfl (Aj (post := fun g11 => [cell g11 34 #[.int .u64 0, .int .u64 0, .int .i64 0, .slice none 0 0], cell g12 83 #[.slice A5 p.length c5, .int .i64 0, .int .i64 0], AB q d1, AV 32 x.v x.l, cell g2 34 #[.int .u64 0, .int .u64 0, .int .i64 0, .slice none 0 0]]) rfl (Ch BA rfl) ?_)))); rintro g11
    refine Ab (Bk [1] rfl (Uk (b := p)) rfl (Ad (Af Ah rfl (Aj rfl (Am (os' := fun _ => [Gw (.slice A5 p.length c5) p g12 l1 f1, cell g11 34 #[.int .u64 0, .int .u64 0, .int .i64 0, .slice none 0 0], AB q d1, AV 32 x.v x.l, cell g2 34 #[.int .u64 0, .int .u64 0, .int .i64 0, .slice none 0 0]]) [0, 3] 0 (Ag Tryz.func40 (by kernel_rfl) rfl) (Ka (C6 hxj) (by show p.length ≤ _; omega) 72057594037927935 (by decide) (n1, l1, f1) h1) rfl rfl rfl (fun _ => rfl) rfl rfl rfl) ?_)))); rintro ⟨⟩
    refine Af Ah rfl (AU (post := fun _ => [Gw (.slice A5 p.length c5) p g12 l1 f1, cell g11 34 #[.int .u64 ((n1 : Nat) : Int), .int .u64 0, .int .i64 0, .slice none 0 0], AB q d1, AV 32 x.v x.l, cell g2 34 #[.int .u64 0, .int .u64 0, .int .i64 0, .slice none 0 0]]) rfl rfl (AQ 1 (v := .int .u64 ((n1 : Nat) : Int)) #[.int .u64 ((n1 : Nat) : Int), .int .u64 0, .int .i64 0, .slice none 0 0] Bz.2 rfl rfl rfl rfl rfl rfl rfl rfl rfl) ?_); rintro ⟨⟩
    refine Ab (Ad (Af Ah rfl (Aj rfl (Am (os' := fun _ => [Gw (.slice A5 p.length c5) p g12 l2 f2, cell g11 34 #[.int .u64 ((n1 : Nat) : Int), .int .u64 0, .int .i64 0, .slice none 0 0], AB q d1, AV 32 x.v x.l, cell g2 34 #[.int .u64 0, .int .u64 0, .int .i64 0, .slice none 0 0]]) [0, 3] 0 (Ag Tryz.func40 (by kernel_rfl) rfl) (Ka (C6 hxj) (by show p.length ≤ _; omega) 72057594037927935 (by decide) (n2, l2, f2) h2) rfl rfl rfl (fun _ => rfl) rfl rfl rfl) ?_))); rintro ⟨⟩
    refine Af Ah rfl (AU (post := fun _ => [Gw (.slice A5 p.length c5) p g12 l2 f2, cell g11 34 #[.int .u64 ((n1 : Nat) : Int), .int .u64 ((n2 : Nat) : Int), .int .i64 0, .slice none 0 0], AB q d1, AV 32 x.v x.l, cell g2 34 #[.int .u64 0, .int .u64 0, .int .i64 0, .slice none 0 0]]) rfl rfl (AQ 1 (v := .int .u64 ((n2 : Nat) : Int)) #[.int .u64 ((n1 : Nat) : Int), .int .u64 ((n2 : Nat) : Int), .int .i64 0, .slice none 0 0] Bz.2 rfl rfl rfl rfl rfl rfl rfl rfl rfl) ?_); rintro ⟨⟩
    refine Ab (Ad (Af Ah rfl (Aj rfl (Am (os' := fun _ => [Gw (.slice A5 p.length c5) p g12 l3 f3, cell g11 34 #[.int .u64 ((n1 : Nat) : Int), .int .u64 ((n2 : Nat) : Int), .int .i64 0, .slice none 0 0], AB q d1, AV 32 x.v x.l, cell g2 34 #[.int .u64 0, .int .u64 0, .int .i64 0, .slice none 0 0]]) [0, 3] 0 (Ag Tryz.func41 (by kernel_rfl) rfl) (OG (C6 hxj) (by show p.length ≤ _; omega) 254 (by decide) (x3.toNat, l3, f3) h3) rfl rfl rfl (fun _ => rfl) rfl rfl rfl) ?_))); rintro ⟨⟩
    refine Ac rfl (.int .i64 (x3.toNat : Int)) (fun b w hb hH => AR Tryz.underlying5 Tryz.underlying3 (IntWalk.i64_in _ (by omega)) rfl rfl hb) (Af Ah rfl (AU (post := fun _ => [Gw (.slice A5 p.length c5) p g12 l3 f3, cell g11 34 #[.int .u64 ((n1 : Nat) : Int), .int .u64 ((n2 : Nat) : Int), .int .i64 (x3.toNat : Int), .slice none 0 0], AB q d1, AV 32 x.v x.l, cell g2 34 #[.int .u64 0, .int .u64 0, .int .i64 0, .slice none 0 0]]) rfl rfl (AQ 1 (v := .int .i64 (x3.toNat : Int)) #[.int .u64 ((n1 : Nat) : Int), .int .u64 ((n2 : Nat) : Int), .int .i64 (x3.toNat : Int), .slice none 0 0] Bt.2 rfl rfl rfl rfl rfl rfl rfl rfl rfl) ?_)); rintro ⟨⟩
    refine Ab (Bv.keep (env' := [(2, .pointer (some ⟨g2, 0, none⟩)), (3, .bool false), (4, .int .i64 0), (10, .pointer (some ⟨g12, 0, none⟩)), (11, .pointer (some ⟨g11, 0, none⟩))]) ⟨rfl, rfl, rfl, rfl, rfl, trivial⟩ (Ad (Af Ah rfl (Aj rfl (Am (os' := fun v9 => [Ap 5 1 encB v9 dd, Gw (.slice A5 p.length c5) p g12 l4 f4, cell g11 34 #[.int .u64 ((n1 : Nat) : Int), .int .u64 ((n2 : Nat) : Int), .int .i64 (x3.toNat : Int), .slice none 0 0], AB q d1, AV 32 x.v x.l, cell g2 34 #[.int .u64 0, .int .u64 0, .int .i64 0, .slice none 0 0]]) [0, 3] 0 (Ag Tryz.func42 (by kernel_rfl) rfl) (Ma (C6 hxj) (by show p.length ≤ _; omega) 32768 (by decide) (by decide) (dd, l4, f4) h4) rfl rfl rfl (fun _ => rfl) rfl rfl rfl) ?_)))); rintro v9
    refine Ce.fact 0 rfl (fun _ h => Ap.is h) ?_; rintro ⟨A8, c8, rfl⟩
    refine Af Ah rfl (AU (post := fun _ => [Ap 5 1 encB (.slice A8 dd.length c8) dd, Gw (.slice A5 p.length c5) p g12 l4 f4, cell g11 34 #[.int .u64 ((n1 : Nat) : Int), .int .u64 ((n2 : Nat) : Int), .int .i64 (x3.toNat : Int), .slice A8 dd.length c8], AB q d1, AV 32 x.v x.l, cell g2 34 #[.int .u64 0, .int .u64 0, .int .i64 0, .slice none 0 0]]) rfl rfl (AQ 2 (v := .slice A8 dd.length c8) #[.int .u64 ((n1 : Nat) : Int), .int .u64 ((n2 : Nat) : Int), .int .i64 (x3.toNat : Int), .slice A8 dd.length c8] Cy.2 rfl rfl rfl rfl rfl rfl rfl rfl rfl) ?_); rintro ⟨⟩
    refine Ab (Aq ?_)
    rcases Nat.eq_zero_or_pos r5 with hr5 | hr5
    have hrt : rr = false := by cases hrv : rr with | false => rfl | true => (exfalso; rw [if_pos hr5, if_pos hrv] at hrd; cases hrd)
    subst hrt
    refine Ad (Af Ah rfl (Aj rfl (Am (os' := fun _ => [Ap 5 1 encB (.slice A8 dd.length c8) dd, Gw (.slice A5 p.length c5) p g12 l4 f4, cell g11 34 #[.int .u64 ((n1 : Nat) : Int), .int .u64 ((n2 : Nat) : Int), .int .i64 (x3.toNat : Int), .slice A8 dd.length c8], AB q d1, AV 32 x.v x.l, cell g2 34 #[.int .u64 0, .int .u64 0, .int .i64 0, .slice none 0 0]]) [1, 4] 0 (Ag Tryz.func43 (by kernel_rfl) rfl) (M5 (C6 hxj) (by show p.length ≤ _; omega) r5 h5) rfl rfl rfl (fun _ => rfl) rfl rfl rfl) ?_)); rintro ⟨⟩
    refine Ac rfl (.bool false) (fun b w hb hH => Bc rfl rfl rfl (AK (by omega)) hb) (Af Ah rfl (Ac rfl (.agg #[.int .u64 ((n1 : Nat) : Int), .int .u64 ((n2 : Nat) : Int), .int .i64 (x3.toNat : Int), .slice A8 dd.length c8]) (fun b w hb hH => Bb rfl rfl (EX (cs := [.int .u64 ((n1 : Nat) : Int), .int .u64 ((n2 : Nat) : Int), .int .i64 (x3.toNat : Int), .slice A8 dd.length c8]) AA rfl) (hH.row 2 rfl) hb) (Aj (post := fun _ => [Ap 5 1 encB (.slice A8 dd.length c8) dd, Gw (.slice A5 p.length c5) p g12 l4 f4, cell g11 34 #[.int .u64 ((n1 : Nat) : Int), .int .u64 ((n2 : Nat) : Int), .int .i64 (x3.toNat : Int), .slice A8 dd.length c8], AB q d1, AV 32 x.v x.l, cell g2 34 #[.int .u64 0, .int .u64 0, .int .i64 0, .slice none 0 0]]) rfl (Bg (Ag Tryz.func16 (by kernel_rfl) rfl) (fun w hH => Md (s := ⟨(n1 : Int), (n2 : Int), (x3.toNat : Int), dd⟩) w false hrr) rfl rfl rfl) ?_))); rintro ⟨⟩
    refine Af Ah rfl (Ab (AI rfl (Ad (Af Ah rfl (Ac rfl (.agg #[.int .u64 0, .int .u64 0, .int .i64 0, .slice none 0 0]) (fun b w hb hH => Bh rfl rfl (by kernel_rfl) hb) (AU (post := fun _ => [Ap 5 1 encB (.slice A8 dd.length c8) dd, Gw (.slice A5 p.length c5) p g12 l4 f4, cell g11 34 #[.int .u64 ((n1 : Nat) : Int), .int .u64 ((n2 : Nat) : Int), .int .i64 (x3.toNat : Int), .slice A8 dd.length c8], AB q d1, AV 32 x.v x.l, cell g2 34 #[.int .u64 0, .int .u64 0, .int .i64 0, .slice none 0 0]]) rfl rfl (AQ 5 (v := .agg #[.int .u64 0, .int .u64 0, .int .i64 0, .slice none 0 0]) #[.int .u64 0, .int .u64 0, .int .i64 0, .slice none 0 0] AA.2 rfl rfl rfl rfl rfl rfl rfl rfl rfl) ?_)))))); rintro ⟨⟩
    refine Af Ah rfl (Ab (Av (C0 ?_)))
    exact Em (.cell 5 (v := .agg #[.int .u64 0, .int .u64 0, .int .i64 0, .slice none 0 0]) (EX (cs := [.int .u64 0, .int .u64 0, .int .i64 0, .slice none 0 0]) AA rfl) rfl rfl) (.tmp rfl) (.tmp rfl) (fun w h => AG () rfl [3] rfl h CV) rfl
    refine Ad (Af Ah rfl (Aj rfl (Am (os' := fun _ => [Ap 5 1 encB (.slice A8 dd.length c8) dd, Gw (.slice A5 p.length c5) p g12 l4 f4, cell g11 34 #[.int .u64 ((n1 : Nat) : Int), .int .u64 ((n2 : Nat) : Int), .int .i64 (x3.toNat : Int), .slice A8 dd.length c8], AB q d1, AV 32 x.v x.l, cell g2 34 #[.int .u64 0, .int .u64 0, .int .i64 0, .slice none 0 0]]) [1, 4] 0 (Ag Tryz.func43 (by kernel_rfl) rfl) (M5 (C6 hxj) (by show p.length ≤ _; omega) r5 h5) rfl rfl rfl (fun _ => rfl) rfl rfl rfl) ?_)); rintro ⟨⟩
    refine Ac rfl (.bool true) (fun b w hb hH => Bc rfl rfl rfl (BO (by omega)) hb) (Af Ah rfl (Ab (AI rfl (Ad (Af Ah rfl (Ac rfl (.agg #[.int .u64 0, .int .u64 0, .int .i64 0, .slice none 0 0]) (fun b w hb hH => Bh rfl rfl (by kernel_rfl) hb) (AU (post := fun _ => [Ap 5 1 encB (.slice A8 dd.length c8) dd, Gw (.slice A5 p.length c5) p g12 l4 f4, cell g11 34 #[.int .u64 ((n1 : Nat) : Int), .int .u64 ((n2 : Nat) : Int), .int .i64 (x3.toNat : Int), .slice A8 dd.length c8], AB q d1, AV 32 x.v x.l, cell g2 34 #[.int .u64 0, .int .u64 0, .int .i64 0, .slice none 0 0]]) rfl rfl (AQ 5 (v := .agg #[.int .u64 0, .int .u64 0, .int .i64 0, .slice none 0 0]) #[.int .u64 0, .int .u64 0, .int .i64 0, .slice none 0 0] AA.2 rfl rfl rfl rfl rfl rfl rfl rfl rfl) ?_))))))); rintro ⟨⟩
    refine Af Ah rfl (Ab (Av (C0 ?_)))
    exact Em (.cell 5 (v := .agg #[.int .u64 0, .int .u64 0, .int .i64 0, .slice none 0 0]) (EX (cs := [.int .u64 0, .int .u64 0, .int .i64 0, .slice none 0 0]) AA rfl) rfl rfl) (.tmp rfl) (.tmp rfl) (fun w h => AG () rfl [3] rfl h CV) rfl
  have hs2 : (Bo d snewN).isSome = true := by cases h9 : (Bo d snewN).isSome with | true => rfl | false => (exfalso; unfold Ck at hrm; rw [if_neg (by rw [h9]; simp)] at hrm; have := (Prod.mk.inj hrm).2; omega)
  obtain rfl : r = true := hs.symm.trans hs2
  have hdel : Fw d snewN = (d1, e1) := by unfold Ck at hrm; rwa [if_pos hs] at hrm
  rw [if_pos (by omega)] at h
  obtain ⟨rfl, rfl⟩ : d1 = d' ∧ e1 = e := by simpa [Prod.ext_iff] using h
  refine Ad (Af Ah rfl (Aj rfl (Am (os' := fun _ => [cell g2 34 #[.int .u64 0, .int .u64 0, .int .i64 0, .slice none 0 0], AB q d]) [1] 0 (Ag Tryz.func36 (by kernel_rfl) rfl) (Ul (n := snewN) hs) rfl rfl rfl (fun _ => rfl) rfl rfl rfl) ?_)); rintro ⟨⟩
  refine Ab (AI rfl (Ad (Af Ah rfl (Aj rfl (Am (os' := fun _ => [cell g2 34 #[.int .u64 0, .int .u64 0, .int .i64 0, .slice none 0 0], AB q d1]) [1] 0 (Ag Tryz.func37 (by kernel_rfl) rfl) (M3 (n := snewN) hf.fit hdel) rfl rfl rfl (fun _ => rfl) rfl rfl rfl) ?_)))); rintro ⟨⟩
  refine Af Ah rfl (Ab (Ad (Af Ah rfl (Ac rfl (.bool true) (fun b w hb hH => Bc rfl rfl rfl (BO (by omega)) hb) (Ab (AI rfl (Ad (Af Ah rfl (Ac rfl (.agg #[.int .u64 0, .int .u64 0, .int .i64 0, .slice none 0 0]) (fun b w hb hH => Bh rfl rfl (by kernel_rfl) hb) (Af Ah rfl (AU (post := fun _ => [cell g2 34 #[.int .u64 0, .int .u64 0, .int .i64 0, .slice none 0 0], AB q d1]) rfl rfl (AQ 0 (v := .agg #[.int .u64 0, .int .u64 0, .int .i64 0, .slice none 0 0]) #[.int .u64 0, .int .u64 0, .int .i64 0, .slice none 0 0] AA.2 rfl rfl rfl rfl rfl rfl rfl rfl rfl) ?_))))))))))); rintro ⟨⟩
  refine Af Ah rfl (Ab (Av (C0 ?_)))
  exact Em (.cell 0 (v := .agg #[.int .u64 0, .int .u64 0, .int .i64 0, .slice none 0 0]) (EX (cs := [.int .u64 0, .int .u64 0, .int .i64 0, .slice none 0 0]) AA rfl) rfl rfl) (.tmp rfl) (.tmp rfl) (fun w h => AG () rfl [1] rfl h CV) rfl
theorem Me {q : Nat} {d d' : DiskD} {o : Option SnV} {e : Nat} (hf : d.fitK 2) (hbl : ∀ b, (Bo (Ck d).1 snapN).getD [] = b → b.length ≤ 137438953472) (h : CL d = (d', o, e)) : AW Tryz.prog 12 #[.pointer (some ⟨q, 0, none⟩)] [AB q d] (fun x : Option Addr × Nat => .tuple #[.agg #[.int .u64 (AM o).i, .int .u64 (AM o).t, .int .i64 (AM o).c, .slice x.1 (AM o).d.length x.2], .bool o.isSome, .int .i64 (e : Int)]) (fun x => [AB q d', Jx (.slice x.1 (AM o).d.length x.2) (AM o).d]) :=
 Mb (K := AB q) (fun s hs => Qf hf hbl (by rw [h, hs])) (fun hn => Qg hf hbl (by rw [h, hn]))
end Go.Proofs.YtjcfimmcogkopaaGreat.Sep
