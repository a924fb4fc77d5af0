/-
  PhC
-/
import Derived.Test.YtjcfimmcogkopaaGreatYE01
import Derived.Test.YtjcfimmcogkopaaGreatYF01
import Derived.Test.YtjcfimmcogkopaaGreatYG01
import Derived.Test.YtjcfimmcogkopaaGreatYI01
import Derived.Test.YtjcfimmcogkopaaGreatYK02
set_option linter.unusedSimpArgs false
set_option linter.unusedVariables false
set_option maxRecDepth 100000
namespace Go.Proofs.YtjcfimmcogkopaaGreat.Sep
open Go.RowKit
open Go.Proofs.YtjcfimmcogkopaaGreat.Mem (AZ Ci Chg Au)
theorem Oy {b : List UInt8} {s : SnV} (h : Ec b = some s) : ∃ p, B1 b = ([p], b.length) ∧ IV p = some s := by
  unfold Ec at h
  split at h
  · rename_i p k e
    split at h
    · rename_i hk
      exact ⟨p, by rw [e, hk], h⟩
    · cases h
  · cases h
theorem LZ {b : List UInt8} (h : Ec b = none) : (∃ p, B1 b = ([p], b.length) ∧ IV p = none) ∨ ((B1 b).1.length ≠ 1 ∨ (B1 b).2 ≠ b.length) := by
  unfold Ec at h
  split at h
  · rename_i p k e
    split at h
    · rename_i hk
      exact .inl ⟨p, by rw [e, hk], h⟩
    · rename_i hk
      exact .inr (.inr (by rw [e]; exact hk))
  · rename_i hn
    refine .inr (.inl fun hl => ?_)
    obtain ⟨p, hp⟩ := List.length_eq_one_iff.1 hl
    exact hn p (B1 b).2 (Prod.ext hp rfl)
theorem P4 {X : Ass} {v : Value} {b : List UInt8} {s : SnV} (hX : Cu X v b) (hl : b.length ≤ 137438953472) (ho : Ec b = some s) : AW Tryz.prog 35 #[v] [X] (fun (x : Option Addr × Nat) => .tuple #[.agg #[.int .u64 s.i, .int .u64 s.t, .int .i64 s.c, .slice x.1 s.d.length x.2], .bool true]) (fun (x : Option Addr × Nat) => [X, Ap 5 1 encB (.slice x.1 s.d.length x.2) s.d]) := by
  refine Be (args := [v]) 27 Tryz.func35 rfl rfl rfl ?_; intro w rs
  obtain ⟨p, hls, hrd⟩ := Oy ho
  obtain ⟨ps, hps⟩ : ∃ ps, ps = [p] := ⟨_, rfl⟩
  obtain ⟨k, hk⟩ : ∃ k, k = b.length := ⟨_, rfl⟩
  rw [← hps, ← hk] at hls
  refine Ad (Af Ah rfl (Aj (post := fun g2 => [cell g2 34 #[.int .u64 0, .int .u64 0, .int .i64 0, .slice none 0 0], X]) rfl (Ch BA rfl) ?_)); rintro g2
  refine Af Ah rfl (Ab (Ad (Af Ah rfl (Aj rfl (Am (os' := fun (x : PsV) => [AV 32 x.v x.l, fact (x.l.map (·.2) = ps), cell g2 34 #[.int .u64 0, .int .u64 0, .int .i64 0, .slice none 0 0], X]) [1] 0 (Ag Tryz.func75 (by kernel_rfl) rfl) (K1 hX hl hls) rfl rfl rfl (fun _ => rfl) rfl rfl rfl) ?_)))); rintro x
  refine Ce.fact 1 rfl (fun _ h => h.2) ?_; rintro hxps
  refine Ce.leave [1] rfl rfl ?_
  replace hxps : x.l.map (·.2) = ps := hxps
  have hxl : x.l.length = ps.length := by rw [← hxps, List.length_map]
  refine Af Ah rfl (Ab (Aq ?_))
  obtain ⟨⟨v5, p5⟩, hxj⟩ : ∃ y, x.l[0]? = some y := ⟨_, List.getElem?_eq_getElem (by rw [hxl, hps]; exact Nat.succ_pos _)⟩
  have h9 : (x.l.map (·.2))[0]? = some p5 := by rw [List.getElem?_map, hxj]; rfl
  rw [hxps, hps] at h9
  obtain rfl := Option.some.inj h9
  have hpl : p.length ≤ 65536 := by have h7 := Et b.length b; change ∀ x, x ∈ (B1 b).1 → x.length ≤ 65536 at h7; rw [hls, hps] at h7; exact h7 p (by simp)
  refine Ad (Af Ah rfl (Ac rfl (.int .i64 (x.l.length : Int)) (fun b w hb hH => Gz 0 Tryz.underlying78 rfl rfl rfl hH hb) (Ac rfl (.bool false) (fun b w hb hH => Bc rfl rfl rfl (AK (by rw [hxl, hps]; rfl)) hb) (Af Ah rfl (Ac rfl (.int .i64 (b.length : Int)) (fun b w hb hH => AY (((hH.rd8 2 rfl hX).rd)) Tryz.underlying32 rfl rfl hb) (Ac rfl (.bool false) (fun b w hb hH => Bc rfl rfl rfl (AK (by omega)) hb) (Af Ah rfl (Ab (Aw rfl (AC (AO (Ad (Af Ah rfl ?_)))))))))))))
  refine Ac rfl (Cs x.v (0 * 1)) (fun b w hb hH => MD 0 Dv rfl 0 (by rw [hxl, hps]; exact Nat.succ_pos _) rfl rfl rfl hH hb) (Ac rfl (v5) (fun b w hb hH => JY 0 Cy rfl 0 hxj rfl rfl hH hb) (Aj rfl (MJ  [] 0 (Ag Tryz.func76 (by kernel_rfl) rfl) (fun w hH => P2 (u := w) (hH.rd8 0 rfl (C6 hxj)) hpl hrd) rfl rfl rfl (fun _ => rfl) rfl rfl rfl) ?_)); rintro ⟨A9, c9⟩
  refine Af Ah rfl (AU (post := fun _ => [Ap 5 1 encB (.slice A9 s.d.length c9) s.d, AV 32 x.v x.l, cell g2 34 #[.int .u64 s.i, .int .u64 s.t, .int .i64 s.c, .slice A9 s.d.length c9], X]) rfl rfl (AQ 2 (v := .agg #[.int .u64 s.i, .int .u64 s.t, .int .i64 s.c, .slice A9 s.d.length c9]) #[.int .u64 s.i, .int .u64 s.t, .int .i64 s.c, .slice A9 s.d.length c9] AA.2 rfl rfl rfl rfl rfl rfl rfl rfl rfl) ?_); rintro ⟨⟩
  refine Af Ah rfl (Ab (Av ?_))
  exact Cr (.cell 2 (v := .agg #[.int .u64 s.i, .int .u64 s.t, .int .i64 s.c, .slice A9 s.d.length c9]) (EX (cs := [.int .u64 s.i, .int .u64 s.t, .int .i64 s.c, .slice A9 s.d.length c9]) AA rfl) rfl rfl) (.tmp rfl) (fun w h => AG (A9, c9) rfl [3, 0] rfl h CV) rfl
theorem P5 {X : Ass} {v : Value} {b : List UInt8} (hX : Cu X v b) (hl : b.length ≤ 137438953472) (ho : Ec b = none) : AW Tryz.prog 35 #[v] [X] (fun (_ : Unit) => .tuple #[.agg #[.int .u64 0, .int .u64 0, .int .i64 0, .slice none 0 0], .bool false]) (fun (_ : Unit) => [X]) := by
  refine Be (args := [v]) 27 Tryz.func35 rfl rfl rfl ?_; intro w rs
  obtain ⟨⟨ps, k⟩, hls⟩ : ∃ R, B1 b = R := ⟨_, rfl⟩
  have hno := LZ ho
  rw [hls] at hno
  refine Ad (Af Ah rfl (Aj (post := fun g2 => [cell g2 34 #[.int .u64 0, .int .u64 0, .int .i64 0, .slice none 0 0], X]) rfl (Ch BA rfl) ?_)); rintro g2
  refine Af Ah rfl (Ab (Ad (Af Ah rfl (Aj rfl (Am (os' := fun (x : PsV) => [AV 32 x.v x.l, fact (x.l.map (·.2) = ps), cell g2 34 #[.int .u64 0, .int .u64 0, .int .i64 0, .slice none 0 0], X]) [1] 0 (Ag Tryz.func75 (by kernel_rfl) rfl) (K1 hX hl hls) rfl rfl rfl (fun _ => rfl) rfl rfl rfl) ?_)))); rintro x
  refine Ce.fact 1 rfl (fun _ h => h.2) ?_; rintro hxps
  refine Ce.leave [1] rfl rfl ?_
  replace hxps : x.l.map (·.2) = ps := hxps
  have hxl : x.l.length = ps.length := by rw [← hxps, List.length_map]
  refine Af Ah rfl (Ab (Aq ?_))
  rcases hno with ⟨p, h1, hrd⟩ | h1
  rotate_left
  rcases Classical.em (ps.length = 1) with h2 | h2
  refine Ad (Af Ah rfl (Ac rfl (.int .i64 (x.l.length : Int)) (fun b w hb hH => Gz 0 Tryz.underlying78 rfl rfl rfl hH hb) (Ac rfl (.bool false) (fun b w hb hH => Bc rfl rfl rfl (AK (by omega)) hb) (Af Ah rfl (Ac rfl (.int .i64 (b.length : Int)) (fun b w hb hH => AY (((hH.rd8 2 rfl hX).rd)) Tryz.underlying32 rfl rfl hb) (Ac rfl (.bool true) (fun b w hb hH => Bc rfl rfl rfl (BO (by rcases h1 with h1 | h1; exact absurd h2 h1; simp only at h1; omega)) hb) (Af Ah rfl (Ab (AI rfl (Ad (Af Ah rfl ?_)))))))))))
  refine Ac rfl (.agg #[.int .u64 0, .int .u64 0, .int .i64 0, .slice none 0 0]) (fun b w hb hH => Bh rfl rfl (by kernel_rfl) hb) (AU (post := fun _ => [AV 32 x.v x.l, cell g2 34 #[.int .u64 0, .int .u64 0, .int .i64 0, .slice none 0 0], X]) rfl rfl (AQ 1 (v := .agg #[.int .u64 0, .int .u64 0, .int .i64 0, .slice none 0 0]) #[.int .u64 0, .int .u64 0, .int .i64 0, .slice none 0 0] AA.2 rfl rfl rfl rfl rfl rfl rfl rfl rfl) ?_); rintro ⟨⟩
  refine Af Ah rfl (Ab (Av (C0 ?_)))
  exact Cr (.cell 1 (v := .agg #[.int .u64 0, .int .u64 0, .int .i64 0, .slice none 0 0]) (EX (cs := [.int .u64 0, .int .u64 0, .int .i64 0, .slice none 0 0]) AA rfl) rfl rfl) (.tmp rfl) (fun w h => AG () rfl [2] rfl h CV) rfl
  refine Ad (Af Ah rfl (Ac rfl (.int .i64 (x.l.length : Int)) (fun b w hb hH => Gz 0 Tryz.underlying78 rfl rfl rfl hH hb) (Ac rfl (.bool true) (fun b w hb hH => Bc rfl rfl rfl (BO (by omega)) hb) (Af Ah rfl (Ab (AI rfl (Ad (Af Ah rfl (Ac rfl (.agg #[.int .u64 0, .int .u64 0, .int .i64 0, .slice none 0 0]) (fun b w hb hH => Bh rfl rfl (by kernel_rfl) hb) (AU (post := fun _ => [AV 32 x.v x.l, cell g2 34 #[.int .u64 0, .int .u64 0, .int .i64 0, .slice none 0 0], X]) rfl rfl (AQ 1 (v := .agg #[.int .u64 0, .int .u64 0, .int .i64 0, .slice none 0 0]) #[.int .u64 0, .int .u64 0, .int .i64 0, .slice none 0 0] AA.2 rfl rfl rfl rfl rfl rfl rfl rfl rfl) ?_)))))))))); rintro ⟨⟩
  refine Af Ah rfl (Ab (Av (C0 ?_)))
  exact Cr (.cell 1 (v := .agg #[.int .u64 0, .int .u64 0, .int .i64 0, .slice none 0 0]) (EX (cs := [.int .u64 0, .int .u64 0, .int .i64 0, .slice none 0 0]) AA rfl) rfl rfl) (.tmp rfl) (fun w h => AG () rfl [2] rfl h CV) rfl
  obtain ⟨hps, hk⟩ := Prod.mk.inj h1
  obtain ⟨⟨v5, p5⟩, hxj⟩ : ∃ y, x.l[0]? = some y := ⟨_, List.getElem?_eq_getElem (by rw [hxl, hps]; exact Nat.succ_pos _)⟩
  have h9 : (x.l.map (·.2))[0]? = some p5 := by rw [List.getElem?_map, hxj]; rfl
  rw [hxps, hps] at h9
  obtain rfl := Option.some.inj h9
  have hpl : p.length ≤ 65536 := by have h7 := Et b.length b; change ∀ x, x ∈ (B1 b).1 → x.length ≤ 65536 at h7; rw [hls, hps] at h7; exact h7 p (by simp)
  refine Ad (Af Ah rfl (Ac rfl (.int .i64 (x.l.length : Int)) (fun b w hb hH => Gz 0 Tryz.underlying78 rfl rfl rfl hH hb) (Ac rfl (.bool false) (fun b w hb hH => Bc rfl rfl rfl (AK (by rw [hxl, hps]; rfl)) hb) (Af Ah rfl (Ac rfl (.int .i64 (b.length : Int)) (fun b w hb hH => AY (((hH.rd8 2 rfl hX).rd)) Tryz.underlying32 rfl rfl hb) (Ac rfl (.bool false) (fun b w hb hH => Bc rfl rfl rfl (AK (by omega)) hb) (Af Ah rfl (Ab (Aw rfl (AC (AO (Ad (Af Ah rfl ?_)))))))))))))
  refine Ac rfl (Cs x.v (0 * 1)) (fun b w hb hH => MD 0 Dv rfl 0 (by rw [hxl, hps]; exact Nat.succ_pos _) rfl rfl rfl hH hb) (Ac rfl (v5) (fun b w hb hH => JY 0 Cy rfl 0 hxj rfl rfl hH hb) (Aj (post := fun _ => [AV 32 x.v x.l, cell g2 34 #[.int .u64 0, .int .u64 0, .int .i64 0, .slice none 0 0], X]) rfl (MJ (os' := fun _ => [AV 32 x.v x.l, cell g2 34 #[.int .u64 0, .int .u64 0, .int .i64 0, .slice none 0 0], X]) [] 0 (Ag Tryz.func76 (by kernel_rfl) rfl) (fun w hH => P3 (u := w) (hH.rd8 0 rfl (C6 hxj)) hpl hrd) rfl rfl rfl (fun _ => rfl) rfl rfl rfl) ?_)); rintro ⟨⟩
  refine Af Ah rfl (AU (post := fun _ => [AV 32 x.v x.l, cell g2 34 #[.int .u64 0, .int .u64 0, .int .i64 0, .slice none 0 0], X]) rfl rfl (AQ 1 (v := .agg #[.int .u64 0, .int .u64 0, .int .i64 0, .slice none 0 0]) #[.int .u64 0, .int .u64 0, .int .i64 0, .slice none 0 0] AA.2 rfl rfl rfl rfl rfl rfl rfl rfl rfl) ?_); rintro ⟨⟩
  refine Af Ah rfl (Ab (Av ?_))
  exact Cr (.cell 1 (v := .agg #[.int .u64 0, .int .u64 0, .int .i64 0, .slice none 0 0]) (EX (cs := [.int .u64 0, .int .u64 0, .int .i64 0, .slice none 0 0]) AA rfl) rfl rfl) (.tmp rfl) (fun w h => AG () rfl [2] rfl h CV) rfl
theorem Ib {p : Nat} {d d' : DiskD} {s : SnV} {e : Nat} (hf : d.fitK 2) (hbl : ∀ b, (Bo (Ck d).1 snapN).getD [] = b → b.length ≤ 137438953472) (h : CL d = (d', some s, e)) : AW Tryz.prog 11 #[.pointer (some ⟨p, 0, none⟩)] [Ao p d] (fun (x : Option Addr × Nat) => .tuple #[.agg #[.int .u64 s.i, .int .u64 s.t, .int .i64 s.c, .slice x.1 s.d.length x.2], .bool true, .int .i64 (e : Int)]) (fun (x : Option Addr × Nat) => [Ao p d', Ap 5 1 encB (.slice x.1 s.d.length x.2) s.d]) := by
 refine Be (args := [.pointer (some ⟨p, 0, none⟩)]) 31 Tryz.func11 rfl rfl rfl ?_; intro w rs
 obtain ⟨⟨d1, e1⟩, hrm⟩ : ∃ R, Ck d = R := ⟨_, rfl⟩
 have hr1 : (Ck d).1 = d1 := by rw [hrm]
 have hr2 : (Ck d).2 = e1 := by rw [hrm]
 have hf1 : d1.fitK 1 := by rw [← hr1]; exact FN hf
 obtain ⟨b, hb⟩ : ∃ b, (Bo d1 snapN).getD [] = b := ⟨_, rfl⟩
 unfold CL at h
 rw [hr1, hr2, hb] at h
 obtain ⟨ok, hok⟩ : ∃ ok, (Bo d1 snapN).isSome = ok := ⟨_, rfl⟩
 replace hbl : b.length ≤ 137438953472 := hbl b (by rw [hr1]; exact hb)
 have he1 : e1 = 0 := by by_cases h9 : e1 = 0; exact h9; rw [if_pos h9] at h; cases h
 rw [if_neg (by omega)] at h
 obtain ⟨rfl, ho, rfl⟩ : d1 = d' ∧ Ec b = some s ∧ 0 = e := by simpa [Prod.ext_iff] using h
 refine Ad (Af Ah rfl (Aj (post := fun g2 => [cell g2 34 #[.int .u64 0, .int .u64 0, .int .i64 0, .slice none 0 0], Ao p d]) rfl (Ch BA rfl) ?_)); rintro g2
 refine Af Ah rfl (Ab (Aq (Ad (Af Ah rfl (Ac rfl (.bool false) (fun b w hb hH => CT (by kernel_rfl) rfl rfl rfl hb) (Ab (Aw rfl (AC (AO (Aq (Ad (Af Ah rfl (Aj rfl (Am (os' := fun _ => [cell g2 34 #[.int .u64 0, .int .u64 0, .int .i64 0, .slice none 0 0], Ao p d1]) [1] 0 (Ag Tryz.func33 (by kernel_rfl) rfl) (K8 hf.fit hrm) rfl rfl rfl (fun _ => rfl) rfl rfl rfl) ?_))))))))))))); rintro ⟨⟩
 refine Af Ah rfl (Ab (Ad (Af Ah rfl (Ac rfl (.bool false) (fun b w hb hH => Bc rfl rfl rfl (AK (by omega)) hb) (Ab (Aw rfl (AC (AO (Ad (Af Ah rfl (Aj rfl (Am (os' := fun bv => [Ap 5 1 encB bv b, cell g2 34 #[.int .u64 0, .int .u64 0, .int .i64 0, .slice none 0 0], Ao p d1]) [1] 0 (Ag Tryz.func34 (by kernel_rfl) rfl) (FJ (n := snapN) hf1.fit hok hb) rfl rfl rfl (fun _ => rfl) rfl rfl rfl) ?_))))))))))); rintro bv
 refine Af Ah rfl (Ab (Ad (Af Ah rfl (Aj rfl (Am  [0] 0 (Ag Tryz.func35 (by kernel_rfl) rfl) (P4 (b := b) Db hbl ho) rfl rfl rfl (fun _ => rfl) rfl rfl rfl) ?_)))); rintro ⟨A9, c9⟩
 refine Af Ah rfl (Aj (post := fun g8 => [cell g8 34 #[.int .u64 0, .int .u64 0, .int .i64 0, .slice none 0 0], Ap 5 1 encB (.slice A9 s.d.length c9) s.d, Ap 5 1 encB bv b, cell g2 34 #[.int .u64 0, .int .u64 0, .int .i64 0, .slice none 0 0], Ao p d1]) rfl (Ch BA rfl) ?_); rintro g8
 refine AU (post := fun _ => [cell g8 34 #[.int .u64 s.i, .int .u64 s.t, .int .i64 s.c, .slice A9 s.d.length c9], Ap 5 1 encB (.slice A9 s.d.length c9) s.d, Ap 5 1 encB bv b, cell g2 34 #[.int .u64 0, .int .u64 0, .int .i64 0, .slice none 0 0], Ao p d1]) rfl rfl (AQ 0 (v := .agg #[.int .u64 s.i, .int .u64 s.t, .int .i64 s.c, .slice A9 s.d.length c9]) #[.int .u64 s.i, .int .u64 s.t, .int .i64 s.c, .slice A9 s.d.length c9] AA.2 rfl rfl rfl rfl rfl rfl rfl rfl rfl) ?_; rintro ⟨⟩
 refine Af Ah rfl (Ab (Ad (Af Ah rfl (Ac rfl (.agg #[.int .u64 s.i, .int .u64 s.t, .int .i64 s.c, .slice A9 s.d.length c9]) (fun b w hb hH => Bb rfl rfl (EX (cs := [.int .u64 s.i, .int .u64 s.t, .int .i64 s.c, .slice A9 s.d.length c9]) AA rfl) (hH.row 0 rfl) hb) (Af Ah rfl (AU (post := fun _ => [cell g8 34 #[.int .u64 s.i, .int .u64 s.t, .int .i64 s.c, .slice A9 s.d.length c9], Ap 5 1 encB (.slice A9 s.d.length c9) s.d, Ap 5 1 encB bv b, cell g2 34 #[.int .u64 s.i, .int .u64 s.t, .int .i64 s.c, .slice A9 s.d.length c9], Ao p d1]) rfl rfl (AQ 3 (v := .agg #[.int .u64 s.i, .int .u64 s.t, .int .i64 s.c, .slice A9 s.d.length c9]) #[.int .u64 s.i, .int .u64 s.t, .int .i64 s.c, .slice A9 s.d.length c9] AA.2 rfl rfl rfl rfl rfl rfl rfl rfl rfl) ?_)))))); rintro ⟨⟩
 refine Af Ah rfl (Ab (Av ?_))
 exact Em (.cell 3 (v := .agg #[.int .u64 s.i, .int .u64 s.t, .int .i64 s.c, .slice A9 s.d.length c9]) (EX (cs := [.int .u64 s.i, .int .u64 s.t, .int .i64 s.c, .slice A9 s.d.length c9]) AA rfl) rfl rfl) (.tmp rfl) (.tmp rfl) (fun w h => AG (A9, c9) rfl [4, 1] rfl h CV) rfl
theorem P6 {p : Nat} {d d' : DiskD} {e : Nat} (hf : d.fitK 2) (hbl : ∀ b, (Bo (Ck d).1 snapN).getD [] = b → b.length ≤ 137438953472) (h : CL d = (d', none, e)) : AW Tryz.prog 11 #[.pointer (some ⟨p, 0, none⟩)] [Ao p d] (fun (_ : Unit) => .tuple #[.agg #[.int .u64 0, .int .u64 0, .int .i64 0, .slice none 0 0], .bool false, .int .i64 (e : Int)]) (fun (_ : Unit) => [Ao p d']) := by
 refine Be (args := [.pointer (some ⟨p, 0, none⟩)]) 31 Tryz.func11 rfl rfl rfl ?_; intro w rs
 obtain ⟨⟨d1, e1⟩, hrm⟩ : ∃ R, Ck d = R := ⟨_, rfl⟩
 have hr1 : (Ck d).1 = d1 := by rw [hrm]
 have hr2 : (Ck d).2 = e1 := by rw [hrm]
 have hf1 : d1.fitK 1 := by rw [← hr1]; exact FN hf
 obtain ⟨b, hb⟩ : ∃ b, (Bo d1 snapN).getD [] = b := ⟨_, rfl⟩
 unfold CL at h
 rw [hr1, hr2, hb] at h
 obtain ⟨ok, hok⟩ : ∃ ok, (Bo d1 snapN).isSome = ok := ⟨_, rfl⟩
 replace hbl : b.length ≤ 137438953472 := hbl b (by rw [hr1]; exact hb)
 refine Ad (Af Ah rfl (Aj (post := fun g2 => [cell g2 34 #[.int .u64 0, .int .u64 0, .int .i64 0, .slice none 0 0], Ao p d]) rfl (Ch BA rfl) ?_)); rintro g2
 refine Af Ah rfl (Ab (Aq (Ad (Af Ah rfl (Ac rfl (.bool false) (fun b w hb hH => CT (by kernel_rfl) rfl rfl rfl hb) (Ab (Aw rfl (AC (AO (Aq (Ad (Af Ah rfl (Aj rfl (Am (os' := fun _ => [cell g2 34 #[.int .u64 0, .int .u64 0, .int .i64 0, .slice none 0 0], Ao p d1]) [1] 0 (Ag Tryz.func33 (by kernel_rfl) rfl) (K8 hf.fit hrm) rfl rfl rfl (fun _ => rfl) rfl rfl rfl) ?_))))))))))))); rintro ⟨⟩
 refine Af Ah rfl (Ab ?_)
 rcases Nat.eq_zero_or_pos e1 with he1 | he1
 rw [if_neg (by omega)] at h
 obtain ⟨rfl, ho, rfl⟩ : d1 = d' ∧ Ec b = none ∧ 0 = e := by simpa [Prod.ext_iff] using h
 refine Ad (Af Ah rfl (Ac rfl (.bool false) (fun b w hb hH => Bc rfl rfl rfl (AK (by omega)) hb) (Ab (Aw rfl (AC (AO (Ad (Af Ah rfl (Aj rfl (Am (os' := fun bv => [Ap 5 1 encB bv b, cell g2 34 #[.int .u64 0, .int .u64 0, .int .i64 0, .slice none 0 0], Ao p d1]) [1] 0 (Ag Tryz.func34 (by kernel_rfl) rfl) (FJ (n := snapN) hf1.fit hok hb) rfl rfl rfl (fun _ => rfl) rfl rfl rfl) ?_))))))))); rintro bv
 refine Af Ah rfl (Ab (Ad (Af Ah rfl (Aj rfl (Am (os' := fun _ => [Ap 5 1 encB bv b, cell g2 34 #[.int .u64 0, .int .u64 0, .int .i64 0, .slice none 0 0], Ao p d1]) [0] 0 (Ag Tryz.func35 (by kernel_rfl) rfl) (P5 (b := b) Db hbl ho) rfl rfl rfl (fun _ => rfl) rfl rfl rfl) ?_)))); rintro ⟨⟩
 refine Af Ah rfl (Aj (post := fun g8 => [cell g8 34 #[.int .u64 0, .int .u64 0, .int .i64 0, .slice none 0 0], Ap 5 1 encB bv b, cell g2 34 #[.int .u64 0, .int .u64 0, .int .i64 0, .slice none 0 0], Ao p d1]) rfl (Ch BA rfl) ?_); rintro g8
 refine AU (post := fun _ => [cell g8 34 #[.int .u64 0, .int .u64 0, .int .i64 0, .slice none 0 0], Ap 5 1 encB bv b, cell g2 34 #[.int .u64 0, .int .u64 0, .int .i64 0, .slice none 0 0], Ao p d1]) rfl rfl (AQ 0 (v := .agg #[.int .u64 0, .int .u64 0, .int .i64 0, .slice none 0 0]) #[.int .u64 0, .int .u64 0, .int .i64 0, .slice none 0 0] AA.2 rfl rfl rfl rfl rfl rfl rfl rfl rfl) ?_; rintro ⟨⟩
 refine Af Ah rfl (Ab (Ad (Af Ah rfl (Ac rfl (.agg #[.int .u64 0, .int .u64 0, .int .i64 0, .slice none 0 0]) (fun b w hb hH => Bb rfl rfl (EX (cs := [.int .u64 0, .int .u64 0, .int .i64 0, .slice none 0 0]) AA rfl) (hH.row 0 rfl) hb) (Af Ah rfl (AU (post := fun _ => [cell g8 34 #[.int .u64 0, .int .u64 0, .int .i64 0, .slice none 0 0], Ap 5 1 encB bv b, cell g2 34 #[.int .u64 0, .int .u64 0, .int .i64 0, .slice none 0 0], Ao p d1]) rfl rfl (AQ 2 (v := .agg #[.int .u64 0, .int .u64 0, .int .i64 0, .slice none 0 0]) #[.int .u64 0, .int .u64 0, .int .i64 0, .slice none 0 0] AA.2 rfl rfl rfl rfl rfl rfl rfl rfl rfl) ?_)))))); rintro ⟨⟩
 refine Af Ah rfl (Ab (Av ?_))
 exact Em (.cell 2 (v := .agg #[.int .u64 0, .int .u64 0, .int .i64 0, .slice none 0 0]) (EX (cs := [.int .u64 0, .int .u64 0, .int .i64 0, .slice none 0 0]) AA rfl) rfl rfl) (.tmp rfl) (.tmp rfl) (fun w h => AG () rfl [3] rfl h CV) rfl
 rw [if_pos (by omega)] at h
 obtain ⟨rfl, rfl⟩ : d1 = d' ∧ e1 = e := by simpa [Prod.ext_iff] using h
 refine Ad (Af Ah rfl (Ac rfl (.bool true) (fun b w hb hH => Bc rfl rfl rfl (BO (by omega)) hb) (Ab (AI rfl (Ad (Af Ah rfl (Ac rfl (.agg #[.int .u64 0, .int .u64 0, .int .i64 0, .slice none 0 0]) (fun b w hb hH => Bh rfl rfl (by kernel_rfl) hb) (Af Ah rfl (AU (post := fun _ => [cell g2 34 #[.int .u64 0, .int .u64 0, .int .i64 0, .slice none 0 0], Ao p d1]) rfl rfl (AQ 0 (v := .agg #[.int .u64 0, .int .u64 0, .int .i64 0, .slice none 0 0]) #[.int .u64 0, .int .u64 0, .int .i64 0, .slice none 0 0] AA.2 rfl rfl rfl rfl rfl rfl rfl rfl rfl) ?_))))))))); rintro ⟨⟩
 refine Af Ah rfl (Ab (Av (C0 ?_)))
 exact Em (.cell 0 (v := .agg #[.int .u64 0, .int .u64 0, .int .i64 0, .slice none 0 0]) (EX (cs := [.int .u64 0, .int .u64 0, .int .i64 0, .slice none 0 0]) AA rfl) rfl rfl) (.tmp rfl) (.tmp rfl) (fun w h => AG () rfl [1] rfl h CV) rfl
theorem K9 {p : Nat} {d d' : DiskD} {s : SnV} {e : Nat} {X : Ass} {A : Option Addr} {cp : Nat} (hk : SnOk s) (hf : d.fitK 3) (hX : Cu X (.slice A s.d.length cp) s.d) (h : Ga d (Id s) = (d', e)) : AW Tryz.prog 17 #[.pointer (some ⟨p, 0, none⟩), .agg #[.int .u64 s.i, .int .u64 s.t, .int .i64 s.c, .slice A s.d.length cp]] [Ao p d, X] (fun (_ : Unit) => .int .i64 (e : Int)) (fun (_ : Unit) => [Ao p d', X]) := by
 refine Be (args := [.pointer (some ⟨p, 0, none⟩), .agg #[.int .u64 s.i, .int .u64 s.t, .int .i64 s.c, .slice A s.d.length cp]]) 29 Tryz.func17 rfl rfl rfl ?_; intro w rs
 obtain ⟨⟨d1, e1⟩, hrm⟩ : ∃ R, Ck d = R := ⟨_, rfl⟩
 have hr1 : (Ck d).1 = d1 := by rw [hrm]
 have hf1 : d1.fitK 2 := by rw [← hr1]; exact FN hf
 have hll := IW hk
 have hfl := Hd hk
 obtain ⟨⟨d2, e2⟩, happ⟩ : ∃ R, Cc d1 snewN (Id s) = R := ⟨_, rfl⟩
 have hf2 : d2.fitK 1 := by have := Fq (n := snewN) (b := Id s) hf1 (by omega); rwa [happ] at this
 unfold Ga at h
 rw [hrm] at h
 simp only at h
 rw [happ] at h
 simp only at h
 refine Ad (Af Ah rfl (Aj (post := fun g3 => [cell g3 34 #[.int .u64 s.i, .int .u64 s.t, .int .i64 s.c, .slice A s.d.length cp], Ao p d, X]) rfl (CU (cs := #[.int .u64 s.i, .int .u64 s.t, .int .i64 s.c, .slice A s.d.length cp]) rfl rfl rfl) ?_)); rintro g3
 refine Af Ah rfl (Ab (Aq (Ad (Af Ah rfl (Ac rfl (.bool false) (fun b w hb hH => CT (by kernel_rfl) rfl rfl rfl hb) (Af Ah rfl (Ac rfl (.agg #[.int .u64 s.i, .int .u64 s.t, .int .i64 s.c, .slice A s.d.length cp]) (fun b w hb hH => Bb rfl rfl (EX (cs := [.int .u64 s.i, .int .u64 s.t, .int .i64 s.c, .slice A s.d.length cp]) AA rfl) (hH.row 0 rfl) hb) (Aj (post := fun _ => [cell g3 34 #[.int .u64 s.i, .int .u64 s.t, .int .i64 s.c, .slice A s.d.length cp], Ao p d, X]) rfl (Bg (Ag Tryz.func15 (by kernel_rfl) rfl) (fun w hH => Jy w true (F9.2 hk)) rfl rfl rfl) ?_)))))))); rintro ⟨⟩
 refine Af Ah rfl (Ab (Aw rfl (AC (AO (Aq (Ad (Af Ah rfl (Aj rfl (Am (os' := fun _ => [cell g3 34 #[.int .u64 s.i, .int .u64 s.t, .int .i64 s.c, .slice A s.d.length cp], Ao p d1, X]) [1] 0 (Ag Tryz.func33 (by kernel_rfl) rfl) (K8 hf.fit hrm) rfl rfl rfl (fun _ => rfl) rfl rfl rfl) ?_)))))))); rintro ⟨⟩
 refine Af Ah rfl (Ab ?_)
 rcases Nat.eq_zero_or_pos e1 with he1 | he1
 rw [if_neg (by omega)] at h
 refine Ad (Af Ah rfl (Ac rfl (.bool false) (fun b w hb hH => Bc rfl rfl rfl (AK (by omega)) hb) (Ab (Aw rfl (AC (AO (Aq (Ad (Af Ah rfl (Ac rfl (.agg #[.int .u64 s.i, .int .u64 s.t, .int .i64 s.c, .slice A s.d.length cp]) (fun b w hb hH => Bb rfl rfl (EX (cs := [.int .u64 s.i, .int .u64 s.t, .int .i64 s.c, .slice A s.d.length cp]) AA rfl) (hH.row 0 rfl) hb) (Aj (post := fun lv => [Ap 5 1 encB lv (FM s), cell g3 34 #[.int .u64 s.i, .int .u64 s.t, .int .i64 s.c, .slice A s.d.length cp], Ao p d1, X]) rfl (MJ (os' := fun lv => [Ap 5 1 encB lv (FM s), cell g3 34 #[.int .u64 s.i, .int .u64 s.t, .int .i64 s.c, .slice A s.d.length cp], Ao p d1, X]) [] 0 (Ag Tryz.func48 (by kernel_rfl) rfl) (fun w hH => Sh (u := w) hk (hH.rd8 2 rfl hX)) rfl rfl rfl (fun _ => rfl) rfl rfl rfl) ?_))))))))))); rintro lv
 refine Aj rfl (Am (os' := fun fv => [Ap 5 1 encB fv (Id s), Ap 5 1 encB lv (FM s), cell g3 34 #[.int .u64 s.i, .int .u64 s.t, .int .i64 s.c, .slice A s.d.length cp], Ao p d1, X]) [0] 0 (Ag Tryz.func47 (by kernel_rfl) rfl) (PH Db (by omega) rfl) rfl rfl rfl (fun _ => rfl) rfl rfl rfl) ?_; rintro fv
 refine Aj rfl (Am (os' := fun _ => [Ap 5 1 encB fv (Id s), Ap 5 1 encB lv (FM s), cell g3 34 #[.int .u64 s.i, .int .u64 s.t, .int .i64 s.c, .slice A s.d.length cp], Ao p d2, X]) [3, 0] 0 (Ag Tryz.func22 (by kernel_rfl) rfl) (N6 (n := snewN) hf1.fit (by omega) Db happ) rfl rfl rfl (fun _ => rfl) rfl rfl rfl) ?_; rintro ⟨⟩
 refine Af Ah rfl (Ab ?_)
 rcases Nat.eq_zero_or_pos e2 with he2 | he2
 rw [if_neg (by omega)] at h
 have hren : Jf d2 snewN snapN = (d', e) := h
 refine Ad (Af Ah rfl (Ac rfl (.bool false) (fun b w hb hH => Bc rfl rfl rfl (AK (by omega)) hb) (Ab (Aw rfl (AC (AO (Ad (Af Ah rfl (Aj rfl (Am (os' := fun _ => [Ap 5 1 encB fv (Id s), Ap 5 1 encB lv (FM s), cell g3 34 #[.int .u64 s.i, .int .u64 s.t, .int .i64 s.c, .slice A s.d.length cp], Ao p d', X]) [3] 0 (Ag Tryz.func49 (by kernel_rfl) rfl) (Oa (n := snewN) (b := snapN) hf2.fit hren) rfl rfl rfl (fun _ => rfl) rfl rfl rfl) ?_))))))))); rintro ⟨⟩
 refine Af Ah rfl (Ab (Av ?_))
 exact As (.tmp rfl) (fun w h => AG () rfl [3, 4] rfl h CV) rfl
 rw [if_pos (by omega)] at h
 obtain ⟨rfl, rfl⟩ : d2 = d' ∧ e2 = e := Prod.mk.inj h
 refine Ad (Af Ah rfl (Ac rfl (.bool true) (fun b w hb hH => Bc rfl rfl rfl (BO (by omega)) hb) (Ab (AI rfl (Ad (Af Ah rfl (Ab (Av (C0 ?_)))))))))
 exact As (.tmp rfl) (fun w h => AG () rfl [3, 4] rfl h CV) rfl
 rw [if_pos (by omega)] at h
 obtain ⟨rfl, rfl⟩ : d1 = d' ∧ e1 = e := Prod.mk.inj h
 refine Ad (Af Ah rfl (Ac rfl (.bool true) (fun b w hb hH => Bc rfl rfl rfl (BO (by omega)) hb) (Ab (AI rfl (Ad (Af Ah rfl (Ab (Av (C0 ?_)))))))))
 exact As (.tmp rfl) (fun w h => AG () rfl [1, 2] rfl h CV) rfl
end Go.Proofs.YtjcfimmcogkopaaGreat.Sep
