/-
  bursarlaw1.reads: both readers say the same.
-/
import Derived.Test.YtefggpcfijcneaaKnown
import Derived.Test.YtefggpcfijcneaaReader
import Derived.Test.YtefggpcfijcneaaRefText
import Derived.Deep.RegionWith
import Derived.Deep.RegionHeld3
namespace Go.Proofs.Ytefggpcfijcneaa
open Go.RowKit

/-- one Ask, as it lies -/
structure AskD where
  what : Int
  b : UInt8
  n : Nat
  t : Int
def AskD.ok (x : AskD) : Prop := -9223372036854775808 ≤ x.what ∧ x.what ≤ 9223372036854775807 ∧ x.n < 18446744073709551616 ∧ -9223372036854775808 ≤ x.t ∧ x.t ≤ 9223372036854775807
def AskAt (w : World) (g o : Nat) (x : AskD) : Prop :=
  x.ok ∧ w.cell? ⟨g, o, none⟩ = some (.int .i64 x.what) ∧ w.cell? ⟨g, o + 1, none⟩ = some (.int .u8 (x.b.toNat : Int)) ∧ w.cell? ⟨g, o + 2, none⟩ = some (.int .u64 (x.n : Int)) ∧ w.cell? ⟨g, o + 3, none⟩ = some (.int .i64 x.t)
/-- a slice of them, in blocks of S -/
def Asks (S : Nat → Prop) (w : World) (A : Option Addr) (xs : List AskD) : Prop :=
  0 < xs.length → ∃ g o, A = some ⟨g, o, none⟩ ∧ S g ∧ g < w.heap.size ∧ ∀ k x, xs[k]? = some x → AskAt w g (o + k * 4) x
theorem AskAt.mod {S : Nat → Prop} {w w' : World} {g o : Nat} {x : AskD} (h : AskAt w g o x) (hm : Mod S w w') (hg : g < w.heap.size) (hn : ¬ S g) : AskAt w' g o x := by
  obtain ⟨h0, h1, h2, h3, h4⟩ := h
  refine ⟨h0, ?_, ?_, ?_, ?_⟩ <;> rw [hm.cell hg hn] <;> assumption
theorem Asks.mod {S T : Nat → Prop} {w w' : World} {A : Option Addr} {xs : List AskD} (h : Asks S w A xs) (hm : Mod T w w') (hn : ∀ k, S k → ¬ T k) : Asks S w' A xs := by
  intro h0
  obtain ⟨g, o, rfl, hs, hg, hat⟩ := h h0
  exact ⟨g, o, rfl, hs, Nat.lt_of_lt_of_le hg hm.size, fun k x hx => (hat k x hx).mod hm hg (hn g hs)⟩

theorem Asks.grow {w : World} {n m : Nat} {A : Option Addr} {xs : List AskD} (h : Asks (fun k => k < n) w A xs) (hnm : n ≤ m) : Asks (fun k => k < m) w A xs := by
  intro h0
  obtain ⟨g, o, hA, hs, hg, hat⟩ := h h0
  exact ⟨g, o, hA, Nat.lt_of_lt_of_le hs hnm, hg, hat⟩

theorem run_own {w : World} {base n c : Nat} {A : Option Addr} {l : List UInt8} (h : Own 5 w base (.slice A n c) l) : (convert 24 9 (.slice A n c)).run Try.prog w = .ok (.string ⟨l.toArray⟩) w := by
  obtain ⟨A', c', he, hs⟩ := h.form
  cases he
  exact run_str tyU8 tyStr hs

/-- both readers stand alike; own's bytes and what came in are as they were -/
structure RI (w a : World) (base p q : Nat) (vo : Value) (A : Option Addr) (c : Nat) (b l : List UInt8) (f : Nat) : Prop where
  rd : Rdr a base p l f
  rr : RRd (fun k => k < w.heap.size) a q A c b l f
  own : Own 5 a w.heap.size vo b
  up : Up w.heap.size w a
  lo : w.heap.size ≤ base
  bp : base ≤ p
  pq : p < q
  ob : ∀ k, At vo k → k < base

section
variable {w a a1 a2 : World} {base p q c f f' : Nat} {vo : Value} {A : Option Addr} {b l l' : List UInt8}
theorem RI.below (h : RI w a base p q vo A c b l f) (hb : Below a.heap.size a a1) : RI w a1 base p q vo A c b l f :=
  ⟨h.rd.mod (Mod.of_below hb Nil) (fun _ _ _ hf => hf) h.bp, h.rr.mod (Mod.of_below hb Nil) (fun hf => hf) (fun _ _ hf => hf), h.own.old hb, h.up.trans hb, h.lo, h.bp, h.pq, h.ob⟩
theorem RI.mid (h : RI w a base p q vo A c b l f) (hm : Mod (One p) a a1) : RRd (fun k => k < w.heap.size) a1 q A c b l f ∧ Up w.heap.size w a1 ∧ Own 5 a1 w.heap.size vo b := by
  have h1 := h.lo
  have h2 := h.bp
  have h3 := h.pq
  exact ⟨h.rr.mod hm (fun e => by unfold One at e; omega) (fun k hk e => by unfold One at e; omega), h.up.one hm (by omega), h.own.mod hm (fun k hk e => by have := h.ob k hk; unfold One at e; omega)⟩
theorem RI.step (h : RI w a base p q vo A c b l f) (hm : Mod (One p) a a1) (hr : Rdr a1 base p l' f') (hm2 : Mod (One q) a1 a2) (hr2 : RRd (fun k => k < w.heap.size) a2 q A c b l' f') : RI w a2 base p q vo A c b l' f' := by
  have h1 := h.lo
  have h2 := h.bp
  have h3 := h.pq
  obtain ⟨_, hu, ho⟩ := h.mid hm
  exact ⟨hr.mod hm2 (fun k hk1 hk2 e => by unfold One at e; omega) h2, hr2, ho.mod hm2 (fun k hk e => by have := h.ob k hk; unfold One at e; omega), hu.one hm2 (by omega), h1, h2, h3, h.ob⟩
theorem RI.far (h : RI w a base p q vo A c b l f) {g : Nat} (hg : q < g) (hm : Mod (One g) a a1) : RI w a1 base p q vo A c b l f := by
  have h1 := h.lo
  have h2 := h.bp
  have h3 := h.pq
  exact ⟨h.rd.mod hm (fun k hk1 hk2 e => by unfold One at e; omega) h2, h.rr.mod hm (fun e => by unfold One at e; omega) (fun k hk e => by unfold One at e; omega), h.own.mod hm (fun k hk e => by have := h.ob k hk; unfold One at e; omega), h.up.one hm (by omega), h1, h2, h3, h.ob⟩
end

set_option maxRecDepth 100000 in
set_option maxHeartbeats 8000000 in
theorem reads_any (w : World) (A : Option Addr) (c : Nat) (b : List UInt8) (Q : Option Addr) (cq : Nat) (xs : List AskD) (h : Bs (fun k => k < w.heap.size) w A c b) (hl : b.length ≤ 140737488355328)
    (hq : Asks (fun k => k < w.heap.size) w Q xs) (hlen : xs.length ≤ 9223372036854775807) :
    Calls Try.prog 32 #[.slice A b.length c, .slice Q xs.length cq] w fun e w' => e = .returned (.bool true) ∧ Below w.heap.size w w' := by
  have own0 : Own 5 (w.alloc (.cells #[] 5)) w.heap.size (.slice (some ⟨w.heap.size, 0, none⟩) 0 0) [] := World.ownsRow_made w #[] 0 (Nat.le_refl _) (by simp [maxLen]) rfl
  have src : Bs (fun k => k < w.heap.size) (w.alloc (.cells #[] 5)) A c b := h.mod ((Mod.refl Nil w).alloc _) (fun _ _ hf => hf)
  go_enter Try.func32, Try.ntmps32
  go_wp2_with (at_builtin; refine wpList_append_bs (t := 24) tyU8 rfl (.tmp 12) (.tmp 13) rfl own0 (by simp) src b.length (by simp) rfl rfl (by omega) ?_; intro A1 c1 w1 ho1 hm1 ha1)
  have hU1 : Up w.heap.size w w1 := ((Up.refl w).alloc _).mod hm1 (fun k hk => by rw [At.iff] at hk; omega)
  rw [List.nil_append] at ho1
  obtain ⟨A1', c1', he1, hs1⟩ := ho1.form
  cases he1
  refine (newReader_any w1 A1 c1 b hs1 hl).mono ?_; rintro e w2 ⟨p, rfl, hp2, hr2, hb2⟩
  have hU2 := hU1.trans hb2
  have ho2 := ho1.old hb2
  go_wp2_with fail
  have hI3 : RI w (w2.alloc (.cells #[.slice A b.length c, .int .i64 0, .int .i64 0] 72)) w1.heap.size p w2.heap.size (.slice A1 b.length c1) A c b b 0 := by
    have hm3 := (Mod.refl Nil w2).alloc (.cells #[.slice A b.length c, .int .i64 0, .int .i64 0] 72)
    have hb3 := (Below.refl w2.heap.size w2).alloc (Nat.le_refl _) (.cells #[.slice A b.length c, .int .i64 0, .int .i64 0] 72)
    refine ⟨hr2.mod hm3 (fun _ _ _ hf => hf) hp2, ⟨0, Nat.zero_le _, rfl, Row.new _ _ _, h.below (hU2.trans hb3).below (fun _ hk => hk), hl, fun k hk e => ?_⟩, ho2.old hb3, hU2.trans hb3, hU1.size, hp2, hr2.lt, fun k hk => (ho1.lt k hk).2⟩
    have := hU2.size
    unfold One at e
    omega
  have hpq : ∃ q, q = w2.heap.size := ⟨_, rfl⟩
  go_loopw [8] (fun i wr => ∃ (k : Nat) (l : List UInt8) (f : Nat), k ≤ xs.length ∧ i = .int .i64 k ∧ RI w wr w1.heap.size p w2.heap.size (.slice A1 b.length c1) A c b l f) (fun i _ => xs.length - (intOf i).toNat)
  case atStart => exact ⟨0, _, _, Nat.zero_le _, rfl, hI3⟩
  case round =>
    obtain ⟨k, l, f, hk, rfl, hI⟩ := hrel
    clear hI3
    by_cases hlt : k < xs.length
    · obtain ⟨g, o, rfl, hg, hgs, hat⟩ := (hq.mod (Mod.of_below hI.up.below (fun k => w.heap.size ≤ k)) (fun k hk hn => by omega)) (by omega)
      have hx : xs[k]? = some xs[k] := List.getElem?_eq_getElem hlt
      obtain ⟨x, hxx⟩ : ∃ x, x = xs[k] := ⟨_, rfl⟩
      rw [← hxx] at hx
      obtain ⟨hxo, c0, c1', c2', c3'⟩ := hat k x hx
      clear hat hxx
      obtain ⟨hx1, hx2, hx3, hx4, hx5⟩ := hxo
      have hbt := UInt8.toNat_lt x.b
      have hP := pick_any wr x.what 5 hx1 hx2 (by omega) (by omega)
      have hq0 := Int.emod_nonneg x.what (show (5 : Int) ≠ 0 by omega)
      have hq5 := Int.emod_lt_of_pos x.what (show (0 : Int) < 5 by omega)
      obtain ⟨q, hqq⟩ : ∃ q, q = x.what % 5 := ⟨_, rfl⟩
      rw [← hqq] at hP hq0 hq5
      have HP := hid hP
      have hD : RI w wr.drew w1.heap.size p w2.heap.size (.slice A1 b.length c1) A c b l f := hI.below (Below.refl _ _).drew
      have mk : ∀ W, Up w.heap.size w W → W.cell? ⟨g, o + k * 4 + 1, none⟩ = some (.int .u8 (x.b.toNat : Int)) ∧ W.cell? ⟨g, o + k * 4 + 2, none⟩ = some (.int .u64 (x.n : Int)) ∧ W.cell? ⟨g, o + k * 4 + 3, none⟩ = some (.int .i64 x.t) := fun W hW => by
        have e : ∀ j, W.cell? ⟨g, j, none⟩ = wr.cell? ⟨g, j, none⟩ := fun j => (hW.below.cell (p := ⟨g, j, none⟩) hg).trans (hI.up.below.cell (p := ⟨g, j, none⟩) hg).symm
        rw [e, e, e]
        exact ⟨c1', c2', c3'⟩
      have MK := hid mk
      clear hP hqq mk
      by_cases h0 : q = 0
      · subst h0
        have hz : ∃ z, rbyte x.b.toNat l f = z := ⟨_, rfl⟩
        have hC1 := fun W (hW : Rdr W w1.heap.size p l f) => readerByte_any W w1.heap.size p f x.b.toNat l hW hbt
        have hC2 := fun W (hW : RRd (fun k => k < w.heap.size) W w2.heap.size A c b l f) => refByte_any W w2.heap.size c f x.b.toNat A b l hW hbt
        obtain ⟨⟨z1, l', f'⟩, hz⟩ := hz
        rw [hz] at hC1 hC2
        simp only at hC1 hC2
        have HC1 := hid hC1
        have HC2 := hid hC2
        clear hC1 hC2 hz
        go_wp2_with (go_at_call 23; refine Calls.mono HP.out ?_; rintro e w' ⟨rfl, rfl⟩)
        go_region_held3 (fun W => W.cell? ⟨g, o + k * 4 + 1, none⟩ = some (.int .u8 (x.b.toNat : Int)) ∧ W.cell? ⟨g, o + k * 4 + 2, none⟩ = some (.int .u64 (x.n : Int)) ∧ W.cell? ⟨g, o + k * 4 + 3, none⟩ = some (.int .i64 x.t))
          (first | exact MK.out _ hD.up | exact MK.out _ hU5 | exact MK.out _ (hD.step hm5 hrd5 hm6 hrr6).up)
          (first
            | (go_at_call 13; refine Calls.mono (HC1.out _ hD.rd) ?_; rintro e w5 ⟨rfl, hrd5, hm5⟩; obtain ⟨hrr5, hU5, _⟩ := hD.mid hm5)
            | (go_at_call 39; refine Calls.mono (HC2.out _ hrr5) ?_; rintro e w6 ⟨rfl, hrr6, hm6⟩))
        have hI6 := hD.step hm5 hrd5 hm6 hrr6
        go_wp2_with fail
        go_roundw
        case rel => exact ⟨k + 1, l', f', by omega, by go_num, hI6⟩
        case measure => simp [intOf]; omega
      by_cases h1 : q = 1
      · subst h1
        have hz : ∃ z, rnum x.n l f = z := ⟨_, rfl⟩
        have hC1 := fun W (hW : Rdr W w1.heap.size p l f) => readerNum_any W w1.heap.size p f x.n l hW hx3
        have hC2 := fun W (hW : RRd (fun k => k < w.heap.size) W w2.heap.size A c b l f) => refRNum_any W w2.heap.size c f x.n A b l hW hx3
        obtain ⟨⟨z1, l', f'⟩, hz⟩ := hz
        rw [hz] at hC1 hC2
        simp only at hC1 hC2
        have HC1 := hid hC1
        have HC2 := hid hC2
        clear hC1 hC2 hz
        go_wp2_with (go_at_call 23; refine Calls.mono HP.out ?_; rintro e w' ⟨rfl, rfl⟩)
        go_region_held3 (fun W => W.cell? ⟨g, o + k * 4 + 1, none⟩ = some (.int .u8 (x.b.toNat : Int)) ∧ W.cell? ⟨g, o + k * 4 + 2, none⟩ = some (.int .u64 (x.n : Int)) ∧ W.cell? ⟨g, o + k * 4 + 3, none⟩ = some (.int .i64 x.t))
          (first | exact MK.out _ hD.up | exact MK.out _ hU5 | exact MK.out _ (hD.step hm5 hrd5 hm6 hrr6).up)
          (first
            | (go_at_call 14; refine Calls.mono (HC1.out _ hD.rd) ?_; rintro e w5 ⟨rfl, hrd5, hm5⟩; obtain ⟨hrr5, hU5, _⟩ := hD.mid hm5)
            | (go_at_call 40; refine Calls.mono (HC2.out _ hrr5) ?_; rintro e w6 ⟨rfl, hrr6, hm6⟩))
        have hI6 := hD.step hm5 hrd5 hm6 hrr6
        go_wp2_with fail
        go_roundw
        case rel => exact ⟨k + 1, l', f', by omega, by go_num, hI6⟩
        case measure => simp [intOf]; omega
      by_cases h3 : q = 3
      · subst h3
        have hz : ∃ z, rint l f = z := ⟨_, rfl⟩
        have hC1 := readerInt_any wr w1.heap.size p f l hI.rd
        have hC2 := fun W (hW : RRd (fun k => k < w.heap.size) W w2.heap.size A c b l f) => refRInt_any W w2.heap.size c f A b l hW
        obtain ⟨⟨z1, l', f'⟩, hz⟩ := hz
        rw [hz] at hC1 hC2
        simp only at hC1 hC2
        have HC1 := hid hC1
        have HC2 := hid hC2
        clear hC1 hC2 hz
        go_wp2_with (first
          | (go_at_call 23; refine Calls.mono HP.out ?_; rintro e w' ⟨rfl, rfl⟩)
          | (go_at_call 15; refine Calls.mono HC1.out ?_; rintro e w5 ⟨rfl, hrd5, hm5⟩; obtain ⟨hrr5, hU5, _⟩ := hI.mid hm5)
          | (go_at_call 42; refine Calls.mono (HC2.out _ hrr5) ?_; rintro e w6 ⟨rfl, hrr6, hm6⟩))
        have hI6 := hI.step hm5 hrd5 hm6 hrr6
        go_roundw
        case rel => exact ⟨k + 1, l', f', by omega, by go_num, hI6⟩
        case measure => simp [intOf]; omega
      by_cases h2 : q = 2
      · subst h2
        have hz : ∃ z, rtext x.t l f = z := ⟨_, rfl⟩
        have hC1 := fun W (hW : Rdr W w1.heap.size p l f) => readerText_any W w1.heap.size p f x.t l hW hx4 hx5
        have hC2 := fun W (hW : RRd (fun k => k < w.heap.size) W w2.heap.size A c b l f) => refRText_any W w2.heap.size c f x.t A b l hW hx4 hx5
        obtain ⟨⟨T, l', f'⟩, hz⟩ := hz
        rw [hz] at hC1 hC2
        simp only at hC1 hC2
        have HC1 := hid hC1
        have HC2 := hid hC2
        clear hC1 hC2 hz
        go_wp2_with (first
          | (go_at_call 23; refine Calls.mono HP.out ?_; rintro e w' ⟨rfl, rfl⟩)
          | (go_at_call 16; refine Calls.mono (HC1.out _ hI.rd) ?_; rintro e w5 ⟨v5, rfl, ho5, hrd5, hm5⟩; obtain ⟨hrr5, hU5, _⟩ := hI.mid hm5))
        have hqs := hI.rr.lt
        have h5 := hI.lo
        have h6 := hI.bp
        have h7 := hI.pq
        obtain ⟨A5, c5, rfl, hs5⟩ := ho5.form
        have hr5 := run_str (P := Try.prog) tyU8 tyStr (hs5.old (Below.refl _ _).drew)
        have hrr5d := hrr5.mod ((Mod.refl Nil w5).drew) (fun hf => hf) (fun _ _ hf => hf)
        have hU5d := hU5.drew
        have d3 := (MK.out w5.drew hU5d).2.2
        have hnq : ∀ k, At (.slice A5 T.length c5) k → ¬ One w2.heap.size k := fun k hk e => by
          have := (ho5.lt k hk).1
          unfold One at e
          omega
        go_region_with (go_at_call 41; refine Calls.mono (HC2.out _ hrr5d) ?_; rintro e w6 ⟨v6, rfl, ho6, hrr6, hm6⟩; obtain ⟨A6, c6, rfl, hs6⟩ := ho6.form; have hr6 := run_str (P := Try.prog) tyU8 tyStr hs6; have hs5' := (hs5.old (Below.refl _ _).drew).mod hm6 hnq; have hr5' := run_str (P := Try.prog) tyU8 tyStr hs5'; have d6 := (MK.out w6 (hU5d.one hm6 (by omega))).2.2)
        all_goals
          have hm56 := ((Mod.refl (One w2.heap.size) w5).drew).same hm6
          have hI6 := hI.step hm5 hrd5 hm56 hrr6
          have hx6 : Own 5 w6 (w2.heap.size + 1) (.slice A5 T.length c5) T := (ho5.mod hm56 hnq).rebase (fun k hk => by have := (ho5.lt k hk).1; omega)
          clear hr5 hrr5d hU5d d3 hr6 hs5' hr5' d6 hm56 hm6 hrr6 hs6 ho6 hrd5 hm5 hrr5 hU5 hs5 ho5 hnq
          go_wp2_with fail
          go_loopw [11] (fun i wi => ∃ (j : Nat) (m : List UInt8), j ≤ T.length ∧ i = .int .i64 j ∧ m.length = T.length ∧ RI w wi w1.heap.size p w2.heap.size (.slice A1 b.length c1) A c b l' f' ∧ Own 5 wi (w2.heap.size + 1) (.slice A5 T.length c5) m) (fun i _ => T.length - (intOf i).toNat)
          case atStart => exact ⟨0, T, Nat.zero_le _, rfl, rfl, hI6, hx6⟩
          case round =>
            clear hI6 hx6
            obtain ⟨j, m, hj, rfl, hml, hI8, ho8⟩ := hrel
            by_cases hjl : j < T.length
            · obtain ⟨gg, cc, he, hg1, hg2, hg3, hg4, hcell, hfz⟩ := ho8.block (by omega)
              rw [hml] at he
              cases he
              unfold maxLen at hg4
              have hc := hcell j m[j] (List.getElem?_eq_getElem (by omega))
              have hf := hfz j
              have hI9 := hI8.far (show w2.heap.size < gg by omega) (Mod.one wr gg j (.int .u8 238))
              rw [← hml] at ho8
              have ho9 := ho8.set (k := j) (238 : UInt8)
              rw [List.length_set, hml] at ho9
              clear hcell hfz hI8 ho8
              go_wp2_with fail
              go_roundw
              case rel => exact ⟨j + 1, m.set j 238, by omega, by go_num, by rw [List.length_set]; exact hml, hI9, ho9⟩
              case measure => simp [intOf]; omega
            · go_wp2_with fail
              go_roundw
              case rel => exact ⟨k + 1, l', f', by omega, by go_num, hI8⟩
              case measure => simp [intOf]; omega
      · have h4 : q = 4 := by omega
        subst h4
        have hC1 := readerEnd_any wr w1.heap.size p f l hI.rd
        have hC2 := refEnd_any wr w2.heap.size c f A b l hI.rr
        obtain ⟨z, hz⟩ : ∃ z, z = rend l f := ⟨_, rfl⟩
        rw [← hz] at hC1 hC2
        have HC1 := hid hC1
        have HC2 := hid hC2
        clear hC1 hC2 hz
        go_wp2_with (first
          | (go_at_call 23; refine Calls.mono HP.out ?_; rintro e w' ⟨rfl, rfl⟩)
          | (go_at_call 17; refine Calls.mono HC1.out ?_; rintro e w5 ⟨rfl, rfl⟩)
          | (go_at_call 43; refine Calls.mono HC2.out ?_; rintro e w6 ⟨rfl, hb6⟩))
        go_roundw
        case rel => exact ⟨k + 1, l, f, by omega, by go_num, hI.below hb6⟩
        case measure => simp [intOf]; omega
    · have hC1 := readerEnd_any wr w1.heap.size p f l hI.rd
      have hC2 := refEnd_any wr w2.heap.size c f A b l hI.rr
      obtain ⟨z, hz⟩ : ∃ z, z = rend l f := ⟨_, rfl⟩
      rw [← hz] at hC1 hC2
      have HC1 := hid hC1
      have HC2 := hid hC2
      clear hC1 hC2 hz
      go_wp2_with (first
        | (go_at_call 17; refine Calls.mono HC1.out ?_; rintro e w5 ⟨rfl, rfl⟩)
        | (go_at_call 43; refine Calls.mono HC2.out ?_; rintro e w6 ⟨rfl, hb6⟩; have hI6 := hI.below hb6; have hso := run_own hI6.own; have hsb := run_str (P := Try.prog) tyU8 tyStr (h.below hI6.up.below (fun _ hk => hk))))
      go_ret
      exact ⟨rfl, hI6.up.below⟩
end Go.Proofs.Ytefggpcfijcneaa
