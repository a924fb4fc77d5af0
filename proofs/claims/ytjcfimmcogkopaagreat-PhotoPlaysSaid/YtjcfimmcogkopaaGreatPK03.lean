/-
  PhC
-/
import Derived.Test.YtjcfimmcogkopaaGreatPE01
import Derived.Test.YtjcfimmcogkopaaGreatPF01
import Derived.Test.YtjcfimmcogkopaaGreatPG01
import Derived.Test.YtjcfimmcogkopaaGreatPI01
import Derived.Test.YtjcfimmcogkopaaGreatPK02
set_option linter.unusedSimpArgs false
set_option linter.unusedVariables false
set_option maxRecDepth 100000
namespace Go.Proofs.YtjcfimmcogkopaaGreat.Sep
open Go.RowKit
open Go.Proofs.YtjcfimmcogkopaaGreat.Mem (Bh Cs Chg AA)
theorem OW {b : List UInt8} {s : SnV} (h : Ev b = some s) : ∃ p, Ca b = ([p], b.length) ∧ Ju p = some s := by
  unfold Ev at h
  split at h
  · rename_i p k e
    split at h
    · rename_i hk
      exact ⟨p, by rw [e, hk], h⟩
    · cases h
  · cases h
theorem MA {b : List UInt8} (h : Ev b = none) : (∃ p, Ca b = ([p], b.length) ∧ Ju p = none) ∨ ((Ca b).1.length ≠ 1 ∨ (Ca b).2 ≠ b.length) := by
  unfold Ev at h
  split at h
  · rename_i p k e
    split at h
    · rename_i hk
      exact .inl ⟨p, by rw [e, hk], h⟩
    · rename_i hk
      exact .inr (.inr (by rw [e]; exact hk))
  · rename_i hn
    refine .inr (.inl fun hl => ?_)
    obtain ⟨p, hp⟩ := List.length_eq_one_iff.1 hl
    exact hn p (Ca b).2 (Prod.ext hp rfl)
theorem Qt {X : Ass} {v : Value} {b : List UInt8} {s : SnV} (hX : CO X v b) (hl : b.length ≤ 137438953472) (ho : Ev b = some s) : AX Tryz.prog 35 #[v] [X] (fun (x : Option Addr × Nat) => .tuple #[.agg #[.int .u64 s.i, .int .u64 s.t, .int .i64 s.c, .slice x.1 s.d.length x.2], .bool true]) (fun (x : Option Addr × Nat) => [X, Ar 5 1 encB (.slice x.1 s.d.length x.2) s.d]) := by
  refine Bg (args := [v]) 27 Tryz.func35 rfl rfl rfl ?_; intro w rs
  obtain ⟨p, hls, hrd⟩ := OW ho
  obtain ⟨ps, hps⟩ : ∃ ps, ps = [p] := ⟨_, rfl⟩
  obtain ⟨k, hk⟩ : ∃ k, k = b.length := ⟨_, rfl⟩
  rw [← hps, ← hk] at hls
  refine Ad (Ae Ag rfl (Aj (post := fun g2 => [cell g2 34 #[.int .u64 0, .int .u64 0, .int .i64 0, .slice none 0 0], X]) rfl (BT Bl rfl) ?_)); rintro g2
  refine Ae Ag rfl (Ab (Ad (Ae Ag rfl (Aj rfl (Ak (os' := fun (x : PsV) => [Bb 32 x.v x.l, fact (x.l.map (·.2) = ps), cell g2 34 #[.int .u64 0, .int .u64 0, .int .i64 0, .slice none 0 0], X]) [1] 0 (Ai Tryz.func75 (by kernel_rfl) rfl) (LF hX hl hls) rfl rfl rfl (fun _ => rfl) rfl rfl rfl) ?_)))); rintro x
  refine Cf.fact 1 rfl (fun _ h => h.2) ?_; rintro hxps
  refine Cf.leave [1] rfl rfl ?_
  replace hxps : x.l.map (·.2) = ps := hxps
  have hxl : x.l.length = ps.length := by rw [← hxps, List.length_map]
  refine Ae Ag rfl (Ab (Av ?_))
  obtain ⟨⟨v5, p5⟩, hxj⟩ : ∃ y, x.l[0]? = some y := ⟨_, List.getElem?_eq_getElem (by rw [hxl, hps]; exact Nat.succ_pos _)⟩
  have h9 : (x.l.map (·.2))[0]? = some p5 := by rw [List.getElem?_map, hxj]; rfl
  rw [hxps, hps] at h9
  obtain rfl := Option.some.inj h9
  have hpl : p.length ≤ 65536 := by have h7 := ET b.length b; change ∀ x, x ∈ (Ca b).1 → x.length ≤ 65536 at h7; rw [hls, hps] at h7; exact h7 p (by simp)
  refine Ad (Ae Ag rfl (Aa rfl (.int .i64 (x.l.length : Int)) (fun b w hb hH => Hb 0 Tryz.underlying78 rfl rfl rfl hH hb) (Aa rfl (.bool false) (fun b w hb hH => AZ rfl rfl rfl (AP (by rw [hxl, hps]; rfl)) hb) (Ae Ag rfl (Aa rfl (.int .i64 (b.length : Int)) (fun b w hb hH => Bf (((hH.rd8 2 rfl hX).rd)) Tryz.underlying32 rfl rfl hb) (Aa rfl (.bool false) (fun b w hb hH => AZ rfl rfl rfl (AP (by omega)) hb) (Ae Ag rfl (Ab (As rfl (AB (AL (Ad (Ae Ag rfl ?_)))))))))))))
  refine Aa rfl (BN x.v (0 * 1)) (fun b w hb hH => Na 0 DJ rfl 0 (by rw [hxl, hps]; exact Nat.succ_pos _) rfl rfl rfl hH hb) (Aa rfl (v5) (fun b w hb hH => Kt 0 Cx rfl 0 hxj rfl rfl hH hb) (Aj rfl (Kx  [] 0 (Ai Tryz.func76 (by kernel_rfl) rfl) (fun w hH => Qr (u := w) (hH.rd8 0 rfl (Do hxj)) hpl hrd) rfl rfl rfl (fun _ => rfl) rfl rfl rfl) ?_)); rintro ⟨A9, c9⟩
  refine Ae Ag rfl (AF (post := fun _ => [Ar 5 1 encB (.slice A9 s.d.length c9) s.d, Bb 32 x.v x.l, cell g2 34 #[.int .u64 s.i, .int .u64 s.t, .int .i64 s.c, .slice A9 s.d.length c9], X]) rfl rfl (AE 2 (v := .agg #[.int .u64 s.i, .int .u64 s.t, .int .i64 s.c, .slice A9 s.d.length c9]) #[.int .u64 s.i, .int .u64 s.t, .int .i64 s.c, .slice A9 s.d.length c9] Aq.2 rfl rfl rfl rfl rfl rfl rfl rfl rfl) ?_); rintro ⟨⟩
  refine Ae Ag rfl (Ab (Ax ?_))
  exact CC (.cell 2 (v := .agg #[.int .u64 s.i, .int .u64 s.t, .int .i64 s.c, .slice A9 s.d.length c9]) (DM (cs := [.int .u64 s.i, .int .u64 s.t, .int .i64 s.c, .slice A9 s.d.length c9]) Aq rfl) rfl rfl) (.tmp rfl) (fun w h => AH (A9, c9) rfl [3, 0] rfl h CK) rfl
theorem Qu {X : Ass} {v : Value} {b : List UInt8} (hX : CO X v b) (hl : b.length ≤ 137438953472) (ho : Ev b = none) : AX Tryz.prog 35 #[v] [X] (fun (_ : Unit) => .tuple #[.agg #[.int .u64 0, .int .u64 0, .int .i64 0, .slice none 0 0], .bool false]) (fun (_ : Unit) => [X]) := by
  refine Bg (args := [v]) 27 Tryz.func35 rfl rfl rfl ?_; intro w rs
  obtain ⟨⟨ps, k⟩, hls⟩ : ∃ R, Ca b = R := ⟨_, rfl⟩
  have hno := MA ho
  rw [hls] at hno
  refine Ad (Ae Ag rfl (Aj (post := fun g2 => [cell g2 34 #[.int .u64 0, .int .u64 0, .int .i64 0, .slice none 0 0], X]) rfl (BT Bl rfl) ?_)); rintro g2
  refine Ae Ag rfl (Ab (Ad (Ae Ag rfl (Aj rfl (Ak (os' := fun (x : PsV) => [Bb 32 x.v x.l, fact (x.l.map (·.2) = ps), cell g2 34 #[.int .u64 0, .int .u64 0, .int .i64 0, .slice none 0 0], X]) [1] 0 (Ai Tryz.func75 (by kernel_rfl) rfl) (LF hX hl hls) rfl rfl rfl (fun _ => rfl) rfl rfl rfl) ?_)))); rintro x
  refine Cf.fact 1 rfl (fun _ h => h.2) ?_; rintro hxps
  refine Cf.leave [1] rfl rfl ?_
  replace hxps : x.l.map (·.2) = ps := hxps
  have hxl : x.l.length = ps.length := by rw [← hxps, List.length_map]
  refine Ae Ag rfl (Ab (Av ?_))
  rcases hno with ⟨p, h1, hrd⟩ | h1
  rotate_left
  rcases Classical.em (ps.length = 1) with h2 | h2
  refine Ad (Ae Ag rfl (Aa rfl (.int .i64 (x.l.length : Int)) (fun b w hb hH => Hb 0 Tryz.underlying78 rfl rfl rfl hH hb) (Aa rfl (.bool false) (fun b w hb hH => AZ rfl rfl rfl (AP (by omega)) hb) (Ae Ag rfl (Aa rfl (.int .i64 (b.length : Int)) (fun b w hb hH => Bf (((hH.rd8 2 rfl hX).rd)) Tryz.underlying32 rfl rfl hb) (Aa rfl (.bool true) (fun b w hb hH => AZ rfl rfl rfl (BO (by rcases h1 with h1 | h1; exact absurd h2 h1; simp only at h1; omega)) hb) (Ae Ag rfl (Ab (AI rfl (Ad (Ae Ag rfl ?_)))))))))))
  refine Aa rfl (.agg #[.int .u64 0, .int .u64 0, .int .i64 0, .slice none 0 0]) (fun b w hb hH => Bn rfl rfl (by kernel_rfl) hb) (AF (post := fun _ => [Bb 32 x.v x.l, cell g2 34 #[.int .u64 0, .int .u64 0, .int .i64 0, .slice none 0 0], X]) rfl rfl (AE 1 (v := .agg #[.int .u64 0, .int .u64 0, .int .i64 0, .slice none 0 0]) #[.int .u64 0, .int .u64 0, .int .i64 0, .slice none 0 0] Aq.2 rfl rfl rfl rfl rfl rfl rfl rfl rfl) ?_); rintro ⟨⟩
  refine Ae Ag rfl (Ab (Ax (C4 ?_)))
  exact CC (.cell 1 (v := .agg #[.int .u64 0, .int .u64 0, .int .i64 0, .slice none 0 0]) (DM (cs := [.int .u64 0, .int .u64 0, .int .i64 0, .slice none 0 0]) Aq rfl) rfl rfl) (.tmp rfl) (fun w h => AH () rfl [2] rfl h CK) rfl
  refine Ad (Ae Ag rfl (Aa rfl (.int .i64 (x.l.length : Int)) (fun b w hb hH => Hb 0 Tryz.underlying78 rfl rfl rfl hH hb) (Aa rfl (.bool true) (fun b w hb hH => AZ rfl rfl rfl (BO (by omega)) hb) (Ae Ag rfl (Ab (AI rfl (Ad (Ae Ag rfl (Aa rfl (.agg #[.int .u64 0, .int .u64 0, .int .i64 0, .slice none 0 0]) (fun b w hb hH => Bn rfl rfl (by kernel_rfl) hb) (AF (post := fun _ => [Bb 32 x.v x.l, cell g2 34 #[.int .u64 0, .int .u64 0, .int .i64 0, .slice none 0 0], X]) rfl rfl (AE 1 (v := .agg #[.int .u64 0, .int .u64 0, .int .i64 0, .slice none 0 0]) #[.int .u64 0, .int .u64 0, .int .i64 0, .slice none 0 0] Aq.2 rfl rfl rfl rfl rfl rfl rfl rfl rfl) ?_)))))))))); rintro ⟨⟩
  refine Ae Ag rfl (Ab (Ax (C4 ?_)))
  exact CC (.cell 1 (v := .agg #[.int .u64 0, .int .u64 0, .int .i64 0, .slice none 0 0]) (DM (cs := [.int .u64 0, .int .u64 0, .int .i64 0, .slice none 0 0]) Aq rfl) rfl rfl) (.tmp rfl) (fun w h => AH () rfl [2] rfl h CK) rfl
  obtain ⟨hps, hk⟩ := Prod.mk.inj h1
  obtain ⟨⟨v5, p5⟩, hxj⟩ : ∃ y, x.l[0]? = some y := ⟨_, List.getElem?_eq_getElem (by rw [hxl, hps]; exact Nat.succ_pos _)⟩
  have h9 : (x.l.map (·.2))[0]? = some p5 := by rw [List.getElem?_map, hxj]; rfl
  rw [hxps, hps] at h9
  obtain rfl := Option.some.inj h9
  have hpl : p.length ≤ 65536 := by have h7 := ET b.length b; change ∀ x, x ∈ (Ca b).1 → x.length ≤ 65536 at h7; rw [hls, hps] at h7; exact h7 p (by simp)
  refine Ad (Ae Ag rfl (Aa rfl (.int .i64 (x.l.length : Int)) (fun b w hb hH => Hb 0 Tryz.underlying78 rfl rfl rfl hH hb) (Aa rfl (.bool false) (fun b w hb hH => AZ rfl rfl rfl (AP (by rw [hxl, hps]; rfl)) hb) (Ae Ag rfl (Aa rfl (.int .i64 (b.length : Int)) (fun b w hb hH => Bf (((hH.rd8 2 rfl hX).rd)) Tryz.underlying32 rfl rfl hb) (Aa rfl (.bool false) (fun b w hb hH => AZ rfl rfl rfl (AP (by omega)) hb) (Ae Ag rfl (Ab (As rfl (AB (AL (Ad (Ae Ag rfl ?_)))))))))))))
  refine Aa rfl (BN x.v (0 * 1)) (fun b w hb hH => Na 0 DJ rfl 0 (by rw [hxl, hps]; exact Nat.succ_pos _) rfl rfl rfl hH hb) (Aa rfl (v5) (fun b w hb hH => Kt 0 Cx rfl 0 hxj rfl rfl hH hb) (Aj (post := fun _ => [Bb 32 x.v x.l, cell g2 34 #[.int .u64 0, .int .u64 0, .int .i64 0, .slice none 0 0], X]) rfl (Kx (os' := fun _ => [Bb 32 x.v x.l, cell g2 34 #[.int .u64 0, .int .u64 0, .int .i64 0, .slice none 0 0], X]) [] 0 (Ai Tryz.func76 (by kernel_rfl) rfl) (fun w hH => Qs (u := w) (hH.rd8 0 rfl (Do hxj)) hpl hrd) rfl rfl rfl (fun _ => rfl) rfl rfl rfl) ?_)); rintro ⟨⟩
  refine Ae Ag rfl (AF (post := fun _ => [Bb 32 x.v x.l, cell g2 34 #[.int .u64 0, .int .u64 0, .int .i64 0, .slice none 0 0], X]) rfl rfl (AE 1 (v := .agg #[.int .u64 0, .int .u64 0, .int .i64 0, .slice none 0 0]) #[.int .u64 0, .int .u64 0, .int .i64 0, .slice none 0 0] Aq.2 rfl rfl rfl rfl rfl rfl rfl rfl rfl) ?_); rintro ⟨⟩
  refine Ae Ag rfl (Ab (Ax ?_))
  exact CC (.cell 1 (v := .agg #[.int .u64 0, .int .u64 0, .int .i64 0, .slice none 0 0]) (DM (cs := [.int .u64 0, .int .u64 0, .int .i64 0, .slice none 0 0]) Aq rfl) rfl rfl) (.tmp rfl) (fun w h => AH () rfl [2] rfl h CK) rfl
theorem IN {p : Nat} {d d' : DiskD} {s : SnV} {e : Nat} (hf : d.fitK 2) (hbl : ∀ b, (Bx (Ce d).1 snapN).getD [] = b → b.length ≤ 137438953472) (h : C5 d = (d', some s, e)) : AX Tryz.prog 11 #[.pointer (some ⟨p, 0, none⟩)] [Ao p d] (fun (x : Option Addr × Nat) => .tuple #[.agg #[.int .u64 s.i, .int .u64 s.t, .int .i64 s.c, .slice x.1 s.d.length x.2], .bool true, .int .i64 (e : Int)]) (fun (x : Option Addr × Nat) => [Ao p d', Ar 5 1 encB (.slice x.1 s.d.length x.2) s.d]) := by
 refine Bg (args := [.pointer (some ⟨p, 0, none⟩)]) 31 Tryz.func11 rfl rfl rfl ?_; intro w rs
 obtain ⟨⟨d1, e1⟩, hrm⟩ : ∃ R, Ce d = R := ⟨_, rfl⟩
 have hr1 : (Ce d).1 = d1 := by rw [hrm]
 have hr2 : (Ce d).2 = e1 := by rw [hrm]
 have hf1 : d1.fitK 1 := by rw [← hr1]; exact FN hf
 obtain ⟨b, hb⟩ : ∃ b, (Bx d1 snapN).getD [] = b := ⟨_, rfl⟩
 unfold C5 at h
 rw [hr1, hr2, hb] at h
 obtain ⟨ok, hok⟩ : ∃ ok, (Bx d1 snapN).isSome = ok := ⟨_, rfl⟩
 replace hbl : b.length ≤ 137438953472 := hbl b (by rw [hr1]; exact hb)
 have he1 : e1 = 0 := by by_cases h9 : e1 = 0; exact h9; rw [if_pos h9] at h; cases h
 rw [if_neg (by omega)] at h
 obtain ⟨rfl, ho, rfl⟩ : d1 = d' ∧ Ev b = some s ∧ 0 = e := by simpa [Prod.ext_iff] using h
 refine Ad (Ae Ag rfl (Aj (post := fun g2 => [cell g2 34 #[.int .u64 0, .int .u64 0, .int .i64 0, .slice none 0 0], Ao p d]) rfl (BT Bl rfl) ?_)); rintro g2
 refine Ae Ag rfl (Ab (Av (Ad (Ae Ag rfl (Aa rfl (.bool false) (fun b w hb hH => Ct (by kernel_rfl) rfl rfl rfl hb) (Ab (As rfl (AB (AL (Av (Ad (Ae Ag rfl (Aj rfl (Ak (os' := fun _ => [cell g2 34 #[.int .u64 0, .int .u64 0, .int .i64 0, .slice none 0 0], Ao p d1]) [1] 0 (Ai Tryz.func33 (by kernel_rfl) rfl) (LN hf.fit hrm) rfl rfl rfl (fun _ => rfl) rfl rfl rfl) ?_))))))))))))); rintro ⟨⟩
 refine Ae Ag rfl (Ab (Ad (Ae Ag rfl (Aa rfl (.bool false) (fun b w hb hH => AZ rfl rfl rfl (AP (by omega)) hb) (Ab (As rfl (AB (AL (Ad (Ae Ag rfl (Aj rfl (Ak (os' := fun bv => [Ar 5 1 encB bv b, cell g2 34 #[.int .u64 0, .int .u64 0, .int .i64 0, .slice none 0 0], Ao p d1]) [1] 0 (Ai Tryz.func34 (by kernel_rfl) rfl) (Gl (n := snapN) hf1.fit hok hb) rfl rfl rfl (fun _ => rfl) rfl rfl rfl) ?_))))))))))); rintro bv
 refine Ae Ag rfl (Ab (Ad (Ae Ag rfl (Aj rfl (Ak  [0] 0 (Ai Tryz.func35 (by kernel_rfl) rfl) (Qt (b := b) C9 hbl ho) rfl rfl rfl (fun _ => rfl) rfl rfl rfl) ?_)))); rintro ⟨A9, c9⟩
 refine Ae Ag rfl (Aj (post := fun g8 => [cell g8 34 #[.int .u64 0, .int .u64 0, .int .i64 0, .slice none 0 0], Ar 5 1 encB (.slice A9 s.d.length c9) s.d, Ar 5 1 encB bv b, cell g2 34 #[.int .u64 0, .int .u64 0, .int .i64 0, .slice none 0 0], Ao p d1]) rfl (BT Bl rfl) ?_); rintro g8
 refine AF (post := fun _ => [cell g8 34 #[.int .u64 s.i, .int .u64 s.t, .int .i64 s.c, .slice A9 s.d.length c9], Ar 5 1 encB (.slice A9 s.d.length c9) s.d, Ar 5 1 encB bv b, cell g2 34 #[.int .u64 0, .int .u64 0, .int .i64 0, .slice none 0 0], Ao p d1]) rfl rfl (AE 0 (v := .agg #[.int .u64 s.i, .int .u64 s.t, .int .i64 s.c, .slice A9 s.d.length c9]) #[.int .u64 s.i, .int .u64 s.t, .int .i64 s.c, .slice A9 s.d.length c9] Aq.2 rfl rfl rfl rfl rfl rfl rfl rfl rfl) ?_; rintro ⟨⟩
 refine Ae Ag rfl (Ab (Ad (Ae Ag rfl (Aa rfl (.agg #[.int .u64 s.i, .int .u64 s.t, .int .i64 s.c, .slice A9 s.d.length c9]) (fun b w hb hH => Ba rfl rfl (DM (cs := [.int .u64 s.i, .int .u64 s.t, .int .i64 s.c, .slice A9 s.d.length c9]) Aq rfl) (hH.row 0 rfl) hb) (Ae Ag rfl (AF (post := fun _ => [cell g8 34 #[.int .u64 s.i, .int .u64 s.t, .int .i64 s.c, .slice A9 s.d.length c9], Ar 5 1 encB (.slice A9 s.d.length c9) s.d, Ar 5 1 encB bv b, cell g2 34 #[.int .u64 s.i, .int .u64 s.t, .int .i64 s.c, .slice A9 s.d.length c9], Ao p d1]) rfl rfl (AE 3 (v := .agg #[.int .u64 s.i, .int .u64 s.t, .int .i64 s.c, .slice A9 s.d.length c9]) #[.int .u64 s.i, .int .u64 s.t, .int .i64 s.c, .slice A9 s.d.length c9] Aq.2 rfl rfl rfl rfl rfl rfl rfl rfl rfl) ?_)))))); rintro ⟨⟩
 refine Ae Ag rfl (Ab (Ax ?_))
 exact EM (.cell 3 (v := .agg #[.int .u64 s.i, .int .u64 s.t, .int .i64 s.c, .slice A9 s.d.length c9]) (DM (cs := [.int .u64 s.i, .int .u64 s.t, .int .i64 s.c, .slice A9 s.d.length c9]) Aq rfl) rfl rfl) (.tmp rfl) (.tmp rfl) (fun w h => AH (A9, c9) rfl [4, 1] rfl h CK) rfl
theorem Qv {p : Nat} {d d' : DiskD} {e : Nat} (hf : d.fitK 2) (hbl : ∀ b, (Bx (Ce d).1 snapN).getD [] = b → b.length ≤ 137438953472) (h : C5 d = (d', none, e)) : AX Tryz.prog 11 #[.pointer (some ⟨p, 0, none⟩)] [Ao p d] (fun (_ : Unit) => .tuple #[.agg #[.int .u64 0, .int .u64 0, .int .i64 0, .slice none 0 0], .bool false, .int .i64 (e : Int)]) (fun (_ : Unit) => [Ao p d']) := by
 refine Bg (args := [.pointer (some ⟨p, 0, none⟩)]) 31 Tryz.func11 rfl rfl rfl ?_; intro w rs
 obtain ⟨⟨d1, e1⟩, hrm⟩ : ∃ R, Ce d = R := ⟨_, rfl⟩
 have hr1 : (Ce d).1 = d1 := by rw [hrm]
 have hr2 : (Ce d).2 = e1 := by rw [hrm]
 have hf1 : d1.fitK 1 := by rw [← hr1]; exact FN hf
 obtain ⟨b, hb⟩ : ∃ b, (Bx d1 snapN).getD [] = b := ⟨_, rfl⟩
 unfold C5 at h
 rw [hr1, hr2, hb] at h
 obtain ⟨ok, hok⟩ : ∃ ok, (Bx d1 snapN).isSome = ok := ⟨_, rfl⟩
 replace hbl : b.length ≤ 137438953472 := hbl b (by rw [hr1]; exact hb)
 refine Ad (Ae Ag rfl (Aj (post := fun g2 => [cell g2 34 #[.int .u64 0, .int .u64 0, .int .i64 0, .slice none 0 0], Ao p d]) rfl (BT Bl rfl) ?_)); rintro g2
 refine Ae Ag rfl (Ab (Av (Ad (Ae Ag rfl (Aa rfl (.bool false) (fun b w hb hH => Ct (by kernel_rfl) rfl rfl rfl hb) (Ab (As rfl (AB (AL (Av (Ad (Ae Ag rfl (Aj rfl (Ak (os' := fun _ => [cell g2 34 #[.int .u64 0, .int .u64 0, .int .i64 0, .slice none 0 0], Ao p d1]) [1] 0 (Ai Tryz.func33 (by kernel_rfl) rfl) (LN hf.fit hrm) rfl rfl rfl (fun _ => rfl) rfl rfl rfl) ?_))))))))))))); rintro ⟨⟩
 refine Ae Ag rfl (Ab ?_)
 rcases Nat.eq_zero_or_pos e1 with he1 | he1
 rw [if_neg (by omega)] at h
 obtain ⟨rfl, ho, rfl⟩ : d1 = d' ∧ Ev b = none ∧ 0 = e := by simpa [Prod.ext_iff] using h
 refine Ad (Ae Ag rfl (Aa rfl (.bool false) (fun b w hb hH => AZ rfl rfl rfl (AP (by omega)) hb) (Ab (As rfl (AB (AL (Ad (Ae Ag rfl (Aj rfl (Ak (os' := fun bv => [Ar 5 1 encB bv b, cell g2 34 #[.int .u64 0, .int .u64 0, .int .i64 0, .slice none 0 0], Ao p d1]) [1] 0 (Ai Tryz.func34 (by kernel_rfl) rfl) (Gl (n := snapN) hf1.fit hok hb) rfl rfl rfl (fun _ => rfl) rfl rfl rfl) ?_))))))))); rintro bv
 refine Ae Ag rfl (Ab (Ad (Ae Ag rfl (Aj rfl (Ak (os' := fun _ => [Ar 5 1 encB bv b, cell g2 34 #[.int .u64 0, .int .u64 0, .int .i64 0, .slice none 0 0], Ao p d1]) [0] 0 (Ai Tryz.func35 (by kernel_rfl) rfl) (Qu (b := b) C9 hbl ho) rfl rfl rfl (fun _ => rfl) rfl rfl rfl) ?_)))); rintro ⟨⟩
 refine Ae Ag rfl (Aj (post := fun g8 => [cell g8 34 #[.int .u64 0, .int .u64 0, .int .i64 0, .slice none 0 0], Ar 5 1 encB bv b, cell g2 34 #[.int .u64 0, .int .u64 0, .int .i64 0, .slice none 0 0], Ao p d1]) rfl (BT Bl rfl) ?_); rintro g8
 refine AF (post := fun _ => [cell g8 34 #[.int .u64 0, .int .u64 0, .int .i64 0, .slice none 0 0], Ar 5 1 encB bv b, cell g2 34 #[.int .u64 0, .int .u64 0, .int .i64 0, .slice none 0 0], Ao p d1]) rfl rfl (AE 0 (v := .agg #[.int .u64 0, .int .u64 0, .int .i64 0, .slice none 0 0]) #[.int .u64 0, .int .u64 0, .int .i64 0, .slice none 0 0] Aq.2 rfl rfl rfl rfl rfl rfl rfl rfl rfl) ?_; rintro ⟨⟩
 refine Ae Ag rfl (Ab (Ad (Ae Ag rfl (Aa rfl (.agg #[.int .u64 0, .int .u64 0, .int .i64 0, .slice none 0 0]) (fun b w hb hH => Ba rfl rfl (DM (cs := [.int .u64 0, .int .u64 0, .int .i64 0, .slice none 0 0]) Aq rfl) (hH.row 0 rfl) hb) (Ae Ag rfl (AF (post := fun _ => [cell g8 34 #[.int .u64 0, .int .u64 0, .int .i64 0, .slice none 0 0], Ar 5 1 encB bv b, cell g2 34 #[.int .u64 0, .int .u64 0, .int .i64 0, .slice none 0 0], Ao p d1]) rfl rfl (AE 2 (v := .agg #[.int .u64 0, .int .u64 0, .int .i64 0, .slice none 0 0]) #[.int .u64 0, .int .u64 0, .int .i64 0, .slice none 0 0] Aq.2 rfl rfl rfl rfl rfl rfl rfl rfl rfl) ?_)))))); rintro ⟨⟩
 refine Ae Ag rfl (Ab (Ax ?_))
 exact EM (.cell 2 (v := .agg #[.int .u64 0, .int .u64 0, .int .i64 0, .slice none 0 0]) (DM (cs := [.int .u64 0, .int .u64 0, .int .i64 0, .slice none 0 0]) Aq rfl) rfl rfl) (.tmp rfl) (.tmp rfl) (fun w h => AH () rfl [3] rfl h CK) rfl
 rw [if_pos (by omega)] at h
 obtain ⟨rfl, rfl⟩ : d1 = d' ∧ e1 = e := by simpa [Prod.ext_iff] using h
 refine Ad (Ae Ag rfl (Aa rfl (.bool true) (fun b w hb hH => AZ rfl rfl rfl (BO (by omega)) hb) (Ab (AI rfl (Ad (Ae Ag rfl (Aa rfl (.agg #[.int .u64 0, .int .u64 0, .int .i64 0, .slice none 0 0]) (fun b w hb hH => Bn rfl rfl (by kernel_rfl) hb) (Ae Ag rfl (AF (post := fun _ => [cell g2 34 #[.int .u64 0, .int .u64 0, .int .i64 0, .slice none 0 0], Ao p d1]) rfl rfl (AE 0 (v := .agg #[.int .u64 0, .int .u64 0, .int .i64 0, .slice none 0 0]) #[.int .u64 0, .int .u64 0, .int .i64 0, .slice none 0 0] Aq.2 rfl rfl rfl rfl rfl rfl rfl rfl rfl) ?_))))))))); rintro ⟨⟩
 refine Ae Ag rfl (Ab (Ax (C4 ?_)))
 exact EM (.cell 0 (v := .agg #[.int .u64 0, .int .u64 0, .int .i64 0, .slice none 0 0]) (DM (cs := [.int .u64 0, .int .u64 0, .int .i64 0, .slice none 0 0]) Aq rfl) rfl rfl) (.tmp rfl) (.tmp rfl) (fun w h => AH () rfl [1] rfl h CK) rfl
theorem IP {p : Nat} {d d' : DiskD} {s : SnV} {e : Nat} {X : Ass} {A : Option Addr} {cp : Nat} (hk : SnOk s) (hf : d.fitK 3) (hX : CO X (.slice A s.d.length cp) s.d) (h : Ew d (GR s) = (d', e)) : AX Tryz.prog 17 #[.pointer (some ⟨p, 0, none⟩), .agg #[.int .u64 s.i, .int .u64 s.t, .int .i64 s.c, .slice A s.d.length cp]] [Ao p d, X] (fun (_ : Unit) => .int .i64 (e : Int)) (fun (_ : Unit) => [Ao p d', X]) := by
 refine Bg (args := [.pointer (some ⟨p, 0, none⟩), .agg #[.int .u64 s.i, .int .u64 s.t, .int .i64 s.c, .slice A s.d.length cp]]) 29 Tryz.func17 rfl rfl rfl ?_; intro w rs
 obtain ⟨⟨d1, e1⟩, hrm⟩ : ∃ R, Ce d = R := ⟨_, rfl⟩
 have hr1 : (Ce d).1 = d1 := by rw [hrm]
 have hf1 : d1.fitK 2 := by rw [← hr1]; exact FN hf
 have hll := Hy hk
 have hfl := F2 hk
 obtain ⟨⟨d2, e2⟩, happ⟩ : ∃ R, Ci d1 snewN (GR s) = R := ⟨_, rfl⟩
 have hf2 : d2.fitK 1 := by have := E8 (n := snewN) (b := GR s) hf1 (by omega); rwa [happ] at this
 unfold Ew at h
 rw [hrm] at h
 simp only at h
 rw [happ] at h
 simp only at h
 refine Ad (Ae Ag rfl (Aj (post := fun g3 => [cell g3 34 #[.int .u64 s.i, .int .u64 s.t, .int .i64 s.c, .slice A s.d.length cp], Ao p d, X]) rfl (CL (cs := #[.int .u64 s.i, .int .u64 s.t, .int .i64 s.c, .slice A s.d.length cp]) rfl rfl rfl) ?_)); rintro g3
 refine Ae Ag rfl (Ab (Av (Ad (Ae Ag rfl (Aa rfl (.bool false) (fun b w hb hH => Ct (by kernel_rfl) rfl rfl rfl hb) (Ae Ag rfl (Aa rfl (.agg #[.int .u64 s.i, .int .u64 s.t, .int .i64 s.c, .slice A s.d.length cp]) (fun b w hb hH => Ba rfl rfl (DM (cs := [.int .u64 s.i, .int .u64 s.t, .int .i64 s.c, .slice A s.d.length cp]) Aq rfl) (hH.row 0 rfl) hb) (Aj (post := fun _ => [cell g3 34 #[.int .u64 s.i, .int .u64 s.t, .int .i64 s.c, .slice A s.d.length cp], Ao p d, X]) rfl (AU (Ai Tryz.func15 (by kernel_rfl) rfl) (fun w hH => Fz w true (EV.2 hk)) rfl rfl rfl) ?_)))))))); rintro ⟨⟩
 refine Ae Ag rfl (Ab (As rfl (AB (AL (Av (Ad (Ae Ag rfl (Aj rfl (Ak (os' := fun _ => [cell g3 34 #[.int .u64 s.i, .int .u64 s.t, .int .i64 s.c, .slice A s.d.length cp], Ao p d1, X]) [1] 0 (Ai Tryz.func33 (by kernel_rfl) rfl) (LN hf.fit hrm) rfl rfl rfl (fun _ => rfl) rfl rfl rfl) ?_)))))))); rintro ⟨⟩
 refine Ae Ag rfl (Ab ?_)
 rcases Nat.eq_zero_or_pos e1 with he1 | he1
 rw [if_neg (by omega)] at h
 refine Ad (Ae Ag rfl (Aa rfl (.bool false) (fun b w hb hH => AZ rfl rfl rfl (AP (by omega)) hb) (Ab (As rfl (AB (AL (Av (Ad (Ae Ag rfl (Aa rfl (.agg #[.int .u64 s.i, .int .u64 s.t, .int .i64 s.c, .slice A s.d.length cp]) (fun b w hb hH => Ba rfl rfl (DM (cs := [.int .u64 s.i, .int .u64 s.t, .int .i64 s.c, .slice A s.d.length cp]) Aq rfl) (hH.row 0 rfl) hb) (Aj (post := fun lv => [Ar 5 1 encB lv (Ff s), cell g3 34 #[.int .u64 s.i, .int .u64 s.t, .int .i64 s.c, .slice A s.d.length cp], Ao p d1, X]) rfl (Kx (os' := fun lv => [Ar 5 1 encB lv (Ff s), cell g3 34 #[.int .u64 s.i, .int .u64 s.t, .int .i64 s.c, .slice A s.d.length cp], Ao p d1, X]) [] 0 (Ai Tryz.func48 (by kernel_rfl) rfl) (fun w hH => ST (u := w) hk (hH.rd8 2 rfl hX)) rfl rfl rfl (fun _ => rfl) rfl rfl rfl) ?_))))))))))); rintro lv
 refine Aj rfl (Ak (os' := fun fv => [Ar 5 1 encB fv (GR s), Ar 5 1 encB lv (Ff s), cell g3 34 #[.int .u64 s.i, .int .u64 s.t, .int .i64 s.c, .slice A s.d.length cp], Ao p d1, X]) [0] 0 (Ai Tryz.func47 (by kernel_rfl) rfl) (P9 C9 (by omega) rfl) rfl rfl rfl (fun _ => rfl) rfl rfl rfl) ?_; rintro fv
 refine Aj rfl (Ak (os' := fun _ => [Ar 5 1 encB fv (GR s), Ar 5 1 encB lv (Ff s), cell g3 34 #[.int .u64 s.i, .int .u64 s.t, .int .i64 s.c, .slice A s.d.length cp], Ao p d2, X]) [3, 0] 0 (Ai Tryz.func22 (by kernel_rfl) rfl) (Ox (n := snewN) hf1.fit (by omega) C9 happ) rfl rfl rfl (fun _ => rfl) rfl rfl rfl) ?_; rintro ⟨⟩
 refine Ae Ag rfl (Ab ?_)
 rcases Nat.eq_zero_or_pos e2 with he2 | he2
 rw [if_neg (by omega)] at h
 have hren : Ie d2 snewN snapN = (d', e) := h
 refine Ad (Ae Ag rfl (Aa rfl (.bool false) (fun b w hb hH => AZ rfl rfl rfl (AP (by omega)) hb) (Ab (As rfl (AB (AL (Ad (Ae Ag rfl (Aj rfl (Ak (os' := fun _ => [Ar 5 1 encB fv (GR s), Ar 5 1 encB lv (Ff s), cell g3 34 #[.int .u64 s.i, .int .u64 s.t, .int .i64 s.c, .slice A s.d.length cp], Ao p d', X]) [3] 0 (Ai Tryz.func49 (by kernel_rfl) rfl) (OC (n := snewN) (b := snapN) hf2.fit hren) rfl rfl rfl (fun _ => rfl) rfl rfl rfl) ?_))))))))); rintro ⟨⟩
 refine Ae Ag rfl (Ab (Ax ?_))
 exact Aw (.tmp rfl) (fun w h => AH () rfl [3, 4] rfl h CK) rfl
 rw [if_pos (by omega)] at h
 obtain ⟨rfl, rfl⟩ : d2 = d' ∧ e2 = e := Prod.mk.inj h
 refine Ad (Ae Ag rfl (Aa rfl (.bool true) (fun b w hb hH => AZ rfl rfl rfl (BO (by omega)) hb) (Ab (AI rfl (Ad (Ae Ag rfl (Ab (Ax (C4 ?_)))))))))
 exact Aw (.tmp rfl) (fun w h => AH () rfl [3, 4] rfl h CK) rfl
 rw [if_pos (by omega)] at h
 obtain ⟨rfl, rfl⟩ : d1 = d' ∧ e1 = e := Prod.mk.inj h
 refine Ad (Ae Ag rfl (Aa rfl (.bool true) (fun b w hb hH => AZ rfl rfl rfl (BO (by omega)) hb) (Ab (AI rfl (Ad (Ae Ag rfl (Ab (Ax (C4 ?_)))))))))
 exact Aw (.tmp rfl) (fun w h => AH () rfl [1, 2] rfl h CK) rfl
theorem SU (w : World) {p : Nat} {s : SnV} {A : Option Addr} {cp : Nat} (hb : D9 s = false) : Calls Tryz.prog 17 #[.pointer (some ⟨p, 0, none⟩), .agg #[.int .u64 s.i, .int .u64 s.t, .int .i64 s.c, .slice A s.d.length cp]] w fun e w' => e = .returned (.int .i64 1) ∧ Below w.heap.size w w' := by
 refine Fj (args := [.pointer (some ⟨p, 0, none⟩), .agg #[.int .u64 s.i, .int .u64 s.t, .int .i64 s.c, .slice A s.d.length cp]]) 29 Tryz.func17 rfl rfl rfl (Ad (Ae Ag rfl (Aj (post := fun g3 => [cell g3 34 #[.int .u64 s.i, .int .u64 s.t, .int .i64 s.c, .slice A s.d.length cp]]) rfl (CL (cs := #[.int .u64 s.i, .int .u64 s.t, .int .i64 s.c, .slice A s.d.length cp]) rfl rfl rfl) ?_))); rintro g3
 refine Ae Ag rfl (Ab (Av (Ad (Ae Ag rfl (Aa rfl (.bool false) (fun b w hb hH => Ct (by kernel_rfl) rfl rfl rfl hb) (Ae Ag rfl (Aa rfl (.agg #[.int .u64 s.i, .int .u64 s.t, .int .i64 s.c, .slice A s.d.length cp]) (fun b w hb hH => Ba rfl rfl (DM (cs := [.int .u64 s.i, .int .u64 s.t, .int .i64 s.c, .slice A s.d.length cp]) Aq rfl) (hH.row 0 rfl) hb) (Aj (post := fun _ => [cell g3 34 #[.int .u64 s.i, .int .u64 s.t, .int .i64 s.c, .slice A s.d.length cp]]) rfl (AU (Ai Tryz.func15 (by kernel_rfl) rfl) (fun w hH => Fz w false hb) rfl rfl rfl) ?_)))))))); rintro ⟨⟩
 refine Ae Ag rfl (Ab (AI rfl (Ad (Ae Ag rfl (Ab (Ax (C4 ?_)))))))
 exact Aw (.tmp rfl) (fun w h => ⟨rfl, AA h.up⟩) rfl
end Go.Proofs.YtjcfimmcogkopaaGreat.Sep
