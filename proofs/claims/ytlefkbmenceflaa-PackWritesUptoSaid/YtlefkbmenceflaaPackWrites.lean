/-
  What is laid by any calls is laid as the reference lays it; what comes out is its owner's, what was handed in stays. Where what comes in is of bulk at most 1048576.
-/
import Derived.Test.YtlefkbmenceflaaLaid
import Derived.Test.YtlefkbmenceflaaRefLay
import Derived.Deep.RegionWith
import Derived.BigQuiet
import Derived.Deep.RegionHeld3
namespace Go.Proofs.Ytlefkbmenceflaa.packWrites
open Go.ChangeShapes Go.WideShapes Go.ChangeAt Go.RowKit

/-- the writer holds L, the reference's bytes are M; they share no block; what came in is as it was -/
structure WI (w a : World) (p : Nat) (v : Value) (L : List UInt8) (vw : Value) (M : List UInt8) : Prop where
  wtr : Wtr a p v L
  own : Own 5 a w.heap.size vw M
  up : Up w.heap.size w a
  foot : ∀ j, Foot p v j → w.heap.size ≤ j
  dis : ∀ j, Foot p v j → ¬ At vw j

section
variable {w a b : World} {p : Nat} {v vw v' : Value} {L M N : List UInt8}
theorem WI.below (h : WI w a p v L vw M) (hb : Below a.heap.size a b) : WI w b p v L vw M :=
  ⟨h.wtr.mod (Mod.of_below hb Nil) (fun _ _ hf => hf), h.own.old hb, h.up.trans hb, h.foot, h.dis⟩
theorem WI.write (h : WI w a p v L vw M) (hw : Wtr b p v' N) (hm : Mod (Foot p v) a b) (ha : ∀ k, At v' k → At v k ∨ a.heap.size ≤ k) : WI w b p v' N vw M := by
  obtain ⟨h1, h2, h3⟩ := foot_step h.up.below h.up.size h.foot hm ha
  refine ⟨hw, h.own.mod hm (fun k hk hf => h.dis k hf hk), ⟨h1, h2⟩, h3, ?_⟩
  rintro j (rfl | hj) hk
  · exact h.dis _ (.inl rfl) hk
  · rcases ha j hj with hj | hj
    · exact h.dis j (.inr hj) hk
    · have := (h.own.lt j hk).2
      omega
theorem WI.want (h : WI w a p v L vw M) (ho : Own 5 b w.heap.size v' N) (hm : Mod (At vw) a b) (ha : ∀ k, At v' k → At vw k ∨ k = a.heap.size) : WI w b p v L v' N := by
  refine ⟨h.wtr.mod hm (fun k hk hf => h.dis k hk hf), ho, h.up.mod hm (fun k hk => (h.own.lt k hk).1), h.foot, ?_⟩
  intro j hj hk
  rcases ha j hk with hk | hk
  · exact h.dis j hj hk
  · have := h.wtr.lt j hj
    omega
theorem WI.aside (h : WI w a p v L vw M) {S : Nat → Prop} (hS : ∀ k, S k → w.heap.size ≤ k ∧ ¬ Foot p v k ∧ ¬ At vw k) (hm : Mod S a b) : WI w b p v L vw M :=
  ⟨h.wtr.mod hm (fun k hk hs => (hS k hs).2.1 hk), h.own.mod hm (fun k hk hs => (hS k hs).2.2 hk), h.up.mod hm (fun k hk => (hS k hk).1), h.foot, h.dis⟩
theorem WI.apart (h : WI w a p v L vw M) {g : Nat} (hg : w.heap.size ≤ g) (hf : ¬ Foot p v g) (ha : ¬ At vw g) (hm : Mod (One g) a b) : WI w b p v L vw M :=
  ⟨h.wtr.mod hm (fun k hk e => by unfold One at e; subst e; exact hf hk), h.own.mod hm (fun k hk e => by unfold One at e; subst e; exact ha hk), h.up.one hm hg, h.foot, h.dis⟩
end

set_option maxRecDepth 100000 in
set_option maxHeartbeats 8000000 in
theorem walk (w : World) (A : Option Addr) (c : Nat) (xs : List LayD) (h : Lays w w.heap.size A xs) (hlen : xs.length ≤ maxLen) (hw : weight xs ≤ 1048576) :
    Calls Try.prog 4 #[.slice A xs.length c] w fun e w' => e = .returned (.bool true) ∧ Below w.heap.size w w' := by
  have hok := h.ok
  unfold maxLen at hlen
  go_enter Try.func4, Try.ntmps4
  go_wp2_with fail
  refine (newWriter_any _).mono ?_; rintro e w1 ⟨p, rfl, hp1, hw1, hb1⟩
  go_wp2_with fail
  refine (known_any w1).mono ?_; rintro e w2 ⟨rfl, hb2⟩
  have hI2 : WI w w2 p (.slice none 0 0) (laidAll (xs.take 0)) (.slice none 0 0) (laidAll (xs.take 0)) := by
    have : WI w w1 p (.slice none 0 0) (laidAll (xs.take 0)) (.slice none 0 0) (laidAll (xs.take 0)) := by
      refine ⟨hw1, Own.nil _ _ _, ⟨hb1, hb1.size⟩, ?_, fun _ _ => At.none⟩
      rintro k (rfl | hk)
      · exact hp1
      · exact absurd hk At.none
    exact this.below hb2
  go_wp2_with fail
  go_loopw [3, 5, 6, 7, 29, 66, 83, 100] (fun vw i _ _ _ _ _ _ wr => ∃ (k : Nat) (v : Value) (A' : Option Addr) (c' : Nat), k ≤ xs.length ∧ i = .int .i64 k ∧ vw = .slice A' (laidAll (xs.take k)).length c' ∧ WI w wr p v (laidAll (xs.take k)) (.slice A' (laidAll (xs.take k)).length c') (laidAll (xs.take k))) (fun _ i _ _ _ _ _ _ _ => xs.length - (intOf i).toNat)
  case atStart => exact ⟨0, _, _, _, Nat.zero_le _, rfl, rfl, hI2⟩
  case round =>
    obtain ⟨k, v, A', c', hk, rfl, rfl, hI⟩ := hrel
    clear hI2
    by_cases hlt : k < xs.length
    · obtain ⟨g, o, rfl, hg, hat⟩ := h (by omega)
      have hx : xs[k]? = some xs[k] := List.getElem?_eq_getElem hlt
      obtain ⟨x, hxx⟩ : ∃ x, x = xs[k] := ⟨_, rfl⟩
      rw [← hxx] at hx
      have hatk := hat k x hx
      have hL := hatk.up hI.up.below hg
      obtain ⟨hxo, c0, c1, c2, c3, c4, hT⟩ := hL
      clear hat hxx
      have hbl := laidAll_length (xs := xs.take k) (fun y hy => hok y (List.mem_of_mem_take hy)) (by have := weight_take xs k; omega)
      have hwt := weight_get hx
      have hlt2 := laidAll_take hx
      obtain ⟨L, hLL⟩ : ∃ L, L = laidAll (xs.take k) := ⟨_, rfl⟩
      rw [← hLL] at hI hbl hlt2 ⊢
      have htl : x.t.length ≤ 1048576 := by omega
      have hLl : L.length ≤ 2097152 := by omega
      clear hbl hwt hLL
      obtain ⟨hx1, hx2, hx3, hx4, hx5⟩ := hxo
      have hP := pick_any wr x.what 4 hx1 hx2 (by omega) (by omega)
      have hq0 := Int.emod_nonneg x.what (show (4 : Int) ≠ 0 by omega)
      have hq4 := Int.emod_lt_of_pos x.what (show (0 : Int) < 4 by omega)
      have hbytes : x.bytes = if x.what % 4 = 0 then [x.b] else if x.what % 4 = 1 then vlay x.n else if x.what % 4 = 3 then vlay (zig x.i) else vlay x.t.length ++ x.t := rfl
      obtain ⟨q, hq⟩ : ∃ q, q = x.what % 4 := ⟨_, rfl⟩
      rw [← hq] at hP hq0 hq4 hbytes
      have HP := hid hP
      have HL := hid hlt2
      have HX := hid hx3
      clear hP hlt2 hx3 hq
      have hgs : g < wr.heap.size := Nat.lt_of_lt_of_le hg hI.up.size
      by_cases h0 : q = 0
      · subst h0
        rw [if_pos rfl] at hbytes
        have HY := hid hbytes
        clear hbytes
        go_wp2_with (go_at_call 23; refine Calls.mono HP.out ?_; rintro e w' ⟨rfl, rfl⟩)
        refine (writerByte_any wr p v L x.b hI.wtr (by omega)).mono ?_; rintro e w3 ⟨v3, rfl, hw3, hm3, ha3⟩
        have hI3 := hI.write hw3 hm3 ha3
        obtain ⟨_, _, d1, _, _, _, _⟩ := hatk.up hI3.up.below hg
        have hI4 := hI3.below ((Below.refl _ _).alloc (Nat.le_refl _) (.cells #[.int .u8 (x.b.toNat : Int)] 5))
        go_wp2_with (at_builtin; refine wpList_append_bs (t := 24) tyU8 rfl (.tmp 75) (.tmp 81) rfl hI4.own hI4.up.size (one_src w3 5 x.b rfl) (L.length + 1) rfl rfl rfl (by omega) ?_; intro A5 c5 w5 ho5 hm5 ha5)
        have hI5 := hI4.want ho5 hm5 ha5
        go_roundw
        case rel =>
          refine ⟨k + 1, v3, A5, c5, by omega, by go_num, ?_, ?_⟩
          · rw [HL.out, HY.out]; simp
          · rw [HL.out, HY.out, List.length_append]; exact hI5
        case measure => simp [intOf]; omega
      by_cases h1 : q = 1
      · subst h1
        rw [if_neg (by decide), if_pos rfl] at hbytes
        have HY := hid hbytes
        clear hbytes
        have hvl := vlay_length x.n HX.out
        obtain ⟨V, hV⟩ : ∃ V, V = vlay x.n := ⟨_, rfl⟩
        have hcw := writerNum_any wr p v L x.n hI.wtr HX.out (by omega)
        have hcr := fun W => refNum_any W x.n HX.out
        rw [← hV] at hcw hvl HY
        simp only [← hV] at hcr
        have HCW := hid hcw
        have HCR := hid hcr
        have HVL := hid hvl
        clear hcw hcr hV hvl
        go_wp2_with (go_at_call 23; refine Calls.mono HP.out ?_; rintro e w' ⟨rfl, rfl⟩)
        refine Calls.mono HCW.out ?_; rintro e w3 ⟨v3, rfl, hw3, hm3, ha3⟩
        have hI3 := hI.write hw3 hm3 ha3
        obtain ⟨_, _, _, d2, _, _, _⟩ := hatk.up hI3.up.below hg
        go_wp2_with fail
        refine Calls.mono (HCR.out w3) ?_; rintro e w4 ⟨v4, rfl, ho4, hb4⟩
        have hI4 := hI3.below hb4
        obtain ⟨A4, c4', rfl, hs4⟩ := ho4.form
        have hVl : V.length ≤ 10 := HVL.out
        go_wp2_with (at_builtin; refine wpList_append_bs (t := 24) tyU8 rfl (.tmp 92) (.tmp 98) rfl hI4.own hI4.up.size hs4 (L.length + V.length) rfl rfl rfl (by omega) ?_; intro A5 c5 w5 ho5 hm5 ha5)
        have hI5 := hI4.want ho5 hm5 ha5
        go_roundw
        case rel =>
          refine ⟨k + 1, v3, A5, c5, by omega, by go_num, ?_, ?_⟩
          · rw [HL.out, HY.out]; simp
          · rw [HL.out, HY.out, List.length_append]; exact hI5
        case measure => simp [intOf]; omega
      by_cases h3 : q = 3
      · subst h3
        rw [if_neg (by decide), if_neg (by decide), if_pos rfl] at hbytes
        have HY := hid hbytes
        clear hbytes
        have hvl := vlay_length (zig x.i) (zig_lt _ hx4 hx5)
        obtain ⟨V, hV⟩ : ∃ V, V = vlay (zig x.i) := ⟨_, rfl⟩
        have hcw := writerInt_any wr p v L x.i hI.wtr hx4 hx5 (by omega)
        have hcr := fun W => refInt_any W x.i hx4 hx5
        rw [← hV] at hcw hvl HY
        simp only [← hV] at hcr
        have HCW := hid hcw
        have HCR := hid hcr
        have HVL := hid hvl
        clear hcw hcr hV hvl
        go_wp2_with (go_at_call 23; refine Calls.mono HP.out ?_; rintro e w' ⟨rfl, rfl⟩)
        refine Calls.mono HCW.out ?_; rintro e w3 ⟨v3, rfl, hw3, hm3, ha3⟩
        have hI3 := hI.write hw3 hm3 ha3
        obtain ⟨_, _, _, _, d3, _, _⟩ := hatk.up hI3.up.below hg
        go_wp2_with fail
        refine Calls.mono (HCR.out w3) ?_; rintro e w4 ⟨v4, rfl, ho4, hb4⟩
        have hI4 := hI3.below hb4
        obtain ⟨A4, c4', rfl, hs4⟩ := ho4.form
        have hVl : V.length ≤ 10 := HVL.out
        go_wp2_with (at_builtin; refine wpList_append_bs (t := 24) tyU8 rfl (.tmp 109) (.tmp 115) rfl hI4.own hI4.up.size hs4 (L.length + V.length) rfl rfl rfl (by omega) ?_; intro A5 c5 w5 ho5 hm5 ha5)
        have hI5 := hI4.want ho5 hm5 ha5
        go_roundw
        case rel =>
          refine ⟨k + 1, v3, A5, c5, by omega, by go_num, ?_, ?_⟩
          · rw [HL.out, HY.out]; simp
          · rw [HL.out, HY.out, List.length_append]; exact hI5
        case measure => simp [intOf]; omega
      have h2 : q = 2 := by omega
      · subst h2
        rw [if_neg (by decide), if_neg (by decide), if_neg (by decide)] at hbytes
        have HY := hid hbytes
        clear hbytes
        have hvl := vlay_length x.t.length (by omega)
        obtain ⟨V, hV⟩ : ∃ V, V = vlay x.t.length := ⟨_, rfl⟩
        rw [← hV] at hvl HY
        have HV := hid hV
        have HVL := hid hvl
        clear hV hvl
        have hI1 := hI.below ((Below.refl wr.heap.size wr).alloc (Nat.le_refl _) (.cells #[] 5))
        have own0 : Own 5 (wr.alloc (.cells #[] 5)) wr.heap.size (.slice (some ⟨wr.heap.size, 0, none⟩) 0 0) [] := World.ownsRow_made wr #[] 0 (Nat.le_refl _) (by simp [maxLen]) rfl
        have src : Bs (fun k => k < w.heap.size) (wr.alloc (.cells #[] 5)) x.A x.c x.t := hT.mod ((Mod.refl Nil wr).alloc _) (fun _ _ hf => hf)
        go_wp2_with (first
          | (go_at_call 23; refine Calls.mono HP.out ?_; rintro e w' ⟨rfl, rfl⟩)
          | (at_builtin; refine wpList_append_bs (t := 24) tyU8 rfl (.tmp 30) (.tmp 35) rfl own0 (by simp) src x.t.length (by simp) rfl rfl (by omega) ?_; intro Ao co wo hoo hmo hao))
        rw [List.nil_append] at hoo
        have hI6 : WI w wo p v L (.slice A' L.length c') L := by
          refine hI1.aside (S := At (.slice (some ⟨wr.heap.size, 0, none⟩) 0 0)) (fun k hk => ?_) hmo
          have hk' : k = wr.heap.size := by rw [At.iff] at hk; omega
          subst hk'
          exact ⟨hI.up.size, fun hf => Nat.lt_irrefl _ (hI.wtr.lt _ hf), fun hf => Nat.lt_irrefl _ (hI.own.lt _ hf).2⟩
        have hfar : ∀ k, At (.slice Ao x.t.length co) k → w.heap.size ≤ k ∧ ¬ Foot p v k ∧ ¬ At (.slice A' L.length c') k := fun k hk => by
          have h1 := (hoo.lt k hk).1
          exact ⟨Nat.le_trans hI.up.size h1, fun hf => by have := hI.wtr.lt k hf; omega, fun hf => by have := (hI.own.lt k hf).2; omega⟩
        obtain ⟨U, hU⟩ : ∃ U, U = V ++ x.t := ⟨_, rfl⟩
        have hUl : U.length ≤ 1048586 := by
          have : V.length ≤ 10 := HVL.out
          rw [hU, List.length_append]; omega
        have hHU := hid hU
        have hso : Bs (At (.slice Ao x.t.length co)) wo Ao co x.t := by
          obtain ⟨A6, c6, he6, hs6⟩ := hoo.form
          cases he6
          exact hs6
        have hcw := writerText_any (S := At (.slice Ao x.t.length co)) wo p v L Ao co x.t hI6.wtr hso (fun k hk => (hfar k hk).2.1) (by omega)
        rw [List.append_assoc, ← HV.out, ← hU] at hcw
        have hcr := fun W (hb : Bs (fun k => k < w.heap.size) W x.A x.c x.t) => refText_any W x.A x.c x.t hb (by omega)
        simp only [← HV.out, ← hU] at hcr
        have HCW := hid hcw
        have HCR := hid hcr
        have HUL := hid hUl
        clear hcw hcr hU hUl
        refine Calls.mono HCW.out ?_; rintro e w3 ⟨v3, rfl, hw3, hm3, ha3⟩
        have hI3 := hI6.write hw3 hm3 ha3
        have hoo3 := hoo.mod hm3 (fun k hk hf => (hfar k hk).2.1 hf)
        obtain ⟨_, _, _, _, _, d4, hT3⟩ := hatk.up hI3.up.below hg
        go_wp2_with fail
        refine Calls.mono (HCR.out w3 hT3) ?_; rintro e w4 ⟨v4, rfl, ho4, hb4⟩
        have hI4 := hI3.below hb4
        obtain ⟨A4, c4', rfl, hs4⟩ := ho4.form
        have hUl : U.length ≤ 1048586 := HUL.out
        go_wp2_with (at_builtin; refine wpList_append_bs (t := 24) tyU8 rfl (.tmp 40) (.tmp 46) rfl hI4.own hI4.up.size hs4 (L.length + U.length) rfl rfl rfl (by omega) ?_; intro A5 c5 w5 ho5 hm5 ha5)
        have hI5 := hI4.want ho5 hm5 ha5
        have hoo5 := (hoo3.old hb4).mod hm5 (fun k hk hf => (hfar k hk).2.2 hf)
        have hfar5 : ∀ k, At (.slice Ao x.t.length co) k → ¬ Foot p v3 k ∧ ¬ At (.slice A5 (L.length + U.length) c5) k := fun k hk => by
          have h1 := (hfar k hk).2
          have h2 := (hoo.lt k hk).2
          have h3 := (hoo3.lt k hk).2
          have h4 := hb4.size
          refine ⟨?_, fun hf => ?_⟩
          · rintro (rfl | hf)
            · exact h1.1 (.inl rfl)
            · rcases ha3 k hf with hf | hf
              · exact h1.1 (.inr hf)
              · omega
          · rcases ha5 k hf with hf | hf
            · exact h1.2 hf
            · omega
        obtain ⟨_, _, _, _, _, d5, hT5⟩ := hatk.up hI5.up.below hg
        have hso5 : Bs (At (.slice Ao x.t.length co)) w5 Ao co x.t := by
          obtain ⟨A6, c6, he6, hs6⟩ := hoo5.form
          cases he6
          exact hs6
        have mk : ∀ W, Up w5.heap.size w5 W → W.cell? ⟨g, o + k * 5 + 4, none⟩ = some (.slice x.A x.t.length x.c)
            ∧ (convert 24 9 (.slice Ao x.t.length co)).run Try.prog W = .ok (.string ⟨x.t.toArray⟩) W
            ∧ (convert 24 9 (.slice x.A x.t.length x.c)).run Try.prog W = .ok (.string ⟨x.t.toArray⟩) W := by
          intro W hW
          have hbw := hW.below
          have k5 := hbw.cell (p := ⟨g, o + k * 5 + 4, none⟩) (Nat.lt_of_lt_of_le hg hI5.up.size)
          exact ⟨by rw [k5]; exact d5, run_str tyU8 tyStr (hso5.old hbw), run_str tyU8 tyStr (hT5.old hbw)⟩
        have MK := hid mk
        clear mk d5
        go_region_held3 (fun W => W.cell? ⟨g, o + k * 5 + 4, none⟩ = some (.slice x.A x.t.length x.c)
            ∧ (convert 24 9 (.slice Ao x.t.length co)).run Try.prog W = .ok (.string ⟨x.t.toArray⟩) W
            ∧ (convert 24 9 (.slice x.A x.t.length x.c)).run Try.prog W = .ok (.string ⟨x.t.toArray⟩) W)
          (exact MK.out _ (Up.refl w5).drew) (fail)
        have hI7 : WI w w5.drew p v3 (L ++ U) (.slice A5 (L.length + U.length) c5) (L ++ U) := hI5.below (Below.refl _ _).drew
        have hoo7 : Own 5 w5.drew wr.heap.size (.slice Ao x.t.length co) x.t := hoo5.old (Below.refl _ _).drew
        have hfarB : ∀ k, At (.slice Ao x.t.length co) k → w.heap.size ≤ k := fun k hk => (hfar k hk).1
        clear hm3 ha3 hoo3 hI3 hb4 hI4 hm5 ha5 hI5 hoo5 hso5 hT5 hT3 hs4 ho4 ho5 hI6 hfar hso hoo hmo hao own0 src hI1 MK HCW HCR
        go_wp2_with fail
        go_loopw [7] (fun i wi => ∃ (j : Nat) (m : List UInt8), j ≤ x.t.length ∧ i = .int .i64 j ∧ m.length = x.t.length ∧ WI w wi p v3 (L ++ U) (.slice A5 (L.length + U.length) c5) (L ++ U) ∧ Own 5 wi w.heap.size (.slice Ao x.t.length co) m) (fun i _ => x.t.length - (intOf i).toNat)
        case atStart => exact ⟨0, x.t, Nat.zero_le _, rfl, rfl, hI7, hoo7.rebase hfarB⟩
        case round =>
          clear hI7 hoo7
          obtain ⟨j, m, hj, rfl, hml, hI8, ho8⟩ := hrel
          by_cases hjl : j < x.t.length
          · obtain ⟨gg, cc, he, hg1, hg2, hg3, hg4, hcell, hfz⟩ := ho8.block (by omega)
            rw [hml] at he
            cases he
            have hc := hcell j m[j] (List.getElem?_eq_getElem (by omega))
            have hf := hfz j
            have hgA : At (.slice (some ⟨gg, 0, none⟩) x.t.length co) gg := At.iff.2 rfl
            have hI9 := hI8.apart (hfarB gg hgA) (hfar5 gg hgA).1 (hfar5 gg hgA).2 (Mod.one wr gg j (.int .u8 238))
            have ho9 : Own 5 (wr.setCell ⟨gg, j, none⟩ (.int .u8 238)) w.heap.size (.slice (some ⟨gg, 0, none⟩) x.t.length co) (m.set j 238) := by
              rw [← hml] at ho8
              have := ho8.set (k := j) (238 : UInt8)
              rw [List.length_set, hml] at this
              exact this
            clear hcell hfz hI8 ho8
            go_wp2_with fail
            go_roundw
            case rel => exact ⟨j + 1, m.set j 238, by omega, by go_num, by rw [List.length_set]; exact hml, hI9, ho9⟩
            case measure => simp [intOf]; omega
          · go_wp2_with fail
            go_roundw
            case rel =>
              refine ⟨k + 1, v3, A5, c5, by omega, by go_num, ?_, ?_⟩
              · rw [HL.out, HY.out, ← hHU.out]; simp
              · rw [HL.out, HY.out, ← hHU.out, List.length_append]; exact hI8
            case measure => simp [intOf]; omega
    · have hbl := laidAll_length (xs := xs.take k) (fun y hy => hok y (List.mem_of_mem_take hy)) (by have := weight_take xs k; omega)
      have hwt := weight_take xs k
      obtain ⟨L, hLL⟩ : ∃ L, L = laidAll (xs.take k) := ⟨_, rfl⟩
      rw [← hLL] at hI hbl ⊢
      have hLl : L.length ≤ 2097152 := by omega
      clear hbl hwt hLL
      go_wp2_with fail
      refine (writerBytes_any wr p v L hI.wtr (by omega)).mono ?_; rintro e w3 ⟨va, rfl, hoa, hba⟩
      have hI3 := hI.below hba
      have hfar : ∀ k, At va k → w.heap.size ≤ k ∧ ¬ Foot p v k ∧ ¬ At (.slice A' L.length c') k := fun k hk => by
        have h1 := (hoa.lt k hk).1
        exact ⟨Nat.le_trans hI.up.size h1, fun hf => by have := hI.wtr.lt k hf; omega, fun hf => by have := (hI.own.lt k hf).2; omega⟩
      obtain ⟨Aa, ca, rfl, hsa⟩ := hoa.form
      have hsw : Bs (At (.slice A' L.length c')) w3 A' c' L := by
        obtain ⟨A6, c6, he6, hs6⟩ := hI3.own.form
        cases he6
        exact hs6
      have ra := run_str (P := Try.prog) tyU8 tyStr hsa
      have rw3 := run_str (P := Try.prog) tyU8 tyStr hsw
      go_wp2_with fail
      clear ra rw3 hsa hsw hba
      go_loopw [10] (fun i wi => ∃ (j : Nat) (m : List UInt8), j ≤ L.length ∧ i = .int .i64 j ∧ m.length = L.length ∧ WI w wi p v L (.slice A' L.length c') L ∧ Own 5 wi wr.heap.size (.slice Aa L.length ca) m) (fun i _ => L.length - (intOf i).toNat)
      case atStart => exact ⟨0, L, Nat.zero_le _, rfl, rfl, hI3, hoa⟩
      case round =>
        clear hI3 hoa hI
        obtain ⟨j, m, hj, rfl, hml, hI8, ho8⟩ := hrel
        by_cases hjl : j < L.length
        · obtain ⟨gg, cc, he, hg1, hg2, hg3, hg4, hcell, hfz⟩ := ho8.block (by omega)
          rw [hml] at he
          cases he
          have hc := hcell j m[j] (List.getElem?_eq_getElem (by omega))
          have hf := hfz j
          have hgA : At (.slice (some ⟨gg, 0, none⟩) L.length ca) gg := At.iff.2 rfl
          have hI9 := hI8.apart (hfar gg hgA).1 (hfar gg hgA).2.1 (hfar gg hgA).2.2 (Mod.one wr gg j (.int .u8 238))
          rw [← hml] at ho8
          have ho9 := ho8.set (k := j) (238 : UInt8)
          rw [List.length_set, hml] at ho9
          clear hcell hfz hI8 ho8
          go_wp2_with fail
          go_roundw
          case rel => exact ⟨j + 1, m.set j 238, by omega, by go_num, by rw [List.length_set]; exact hml, hI9, ho9⟩
          case measure => simp [intOf]; omega
        · have hI9 : WI w wr.drew p v L (.slice A' L.length c') L := hI8.below (Below.refl _ _).drew
          have hsw : Bs (At (.slice A' L.length c')) wr.drew A' c' L := by
            obtain ⟨A6, c6, he6, hs6⟩ := hI9.own.form
            cases he6
            exact hs6
          have rw9 := run_str (P := Try.prog) tyU8 tyStr hsw
          go_wp2_with fail
          go_region_with (go_at_call 31; refine (writerBytes_any wr.drew p v L hI9.wtr (by omega)).mono ?_; rintro e w9 ⟨v9, rfl, ho9, hb9⟩; obtain ⟨A9, c9, rfl, hs9⟩ := ho9.form; have r9 := run_str (P := Try.prog) tyU8 tyStr hs9; have q9 := run_str (P := Try.prog) tyU8 tyStr (hsw.old hb9))
          all_goals
            go_wp2_with fail
            go_ret
            exact ⟨rfl, (hI9.below hb9).up.below⟩
theorem contract (H : Type) (enc : TypeId × Value → H) (W : World) (base : Nat) (args : Array Value) (ds gs : List (DataW H)) (before : List MemPlace)
    (hval : ∀ (j : Nat) t v, Try.f4.params[j]? = some t → args[j]? = some v → Value.okWide Try.prog W .any base t v)
    (hW : DataW.Whole enc Try.prog Try.f4.params.toList Rows.packWritesSpec.vars false W args.toList ds gs before)
    (hk : Rows.uptoSmall H (ds ++ gs) = true) :
    Calls Try.prog 4 args W fun e W' => ∃ v, e = .returned v ∧ Rows.packWritesSpec.post enc Try.prog Try.f4 false true false false W args v W' := by
  have hW' := hW
  obtain ⟨p, q, hA0, hV, rfl, hfz, hnd⟩ := hW
  have hA : DataW.TrodAll enc Try.prog W 0 (fun _ => true) true Try.f4.params.toList args.toList ds p := hA0
  rw [Try.params4] at hA hval
  obtain ⟨v0, vs0, d0, ds0, p0, q0, hargs, rfl, rfl, h0, r0⟩ := trodAll_cons hA
  obtain ⟨rfl, rfl, rfl⟩ := trodAll_nil r0
  obtain rfl : args = #[v0] := by cases args; simp_all
  obtain ⟨rfl, rfl⟩ := trodVars_none hV
  obtain ⟨A0, c0, xs0, rfl, hlen0, hL0, hw0⟩ := open_lays (hval 0 38 v0 rfl rfl) h0
  have hbd := bound hk
  simp only [List.append_nil, List.cons_append, List.nil_append, Rows.uptoBulkAll] at hbd
  refine (walk W A0 c0 xs0 hL0 hlen0 (by omega)).mono fun e W' ⟨he, hbl⟩ => ⟨.bool true, he, ?_⟩
  exact law_post laidOut (by kernel_rfl) Try.underlying4 (readable_of (by kernel_rfl)) rfl rfl hW' hbl

set_option maxRecDepth 100000 in
theorem lifted (os : Os) (started : os.Started) (H : Type) (enc : TypeId × Value → H) (F : Stop.Interp) :
    ReturnsInHanded {} Try.checked os 4 .any ((Rows.OpenSpec.upto Rows.packWritesSpec).pre6 enc Try.prog Try.f4 Rows.packWritesUptoRow.domain false) (((Rows.OpenSpec.upto Rows.packWritesSpec).at F).post enc Try.prog Try.f4 false true false false) := by
  refine returnsInHanded_of_cond (C := Try.checked) (s := Rows.OpenSpec.upto Rows.packWritesSpec) (k := Rows.uptoSmall) rfl own started (by kernel_rfl) Try.func4
    (OpenSpec.witness (enc := enc) (C := Try.checked) (s := Rows.OpenSpec.upto Rows.packWritesSpec) (k := Rows.uptoSmall) rfl false ⟨#[], #[.slice none 0 0], []⟩ 8 (by kernel_rfl) (by kernel_rfl) (by kernel_rfl)
      (x := ([.nil], [], [])) (by kernel_rfl) rfl (by kernel_rfl)) ?_
  intro W base args ds gs before hval hW _ hk _
  exact contract H enc W base args ds gs before hval hW hk

theorem proved : Rows.PackWritesUptoSaid :=
  OpenClaim.holds_of_cond 4 Try.f4 rfl rfl rfl rfl rfl rfl rfl ⟨rfl, rfl, rfl, rfl, rfl⟩ rfl rfl rfl rfl rfl (by kernel_rfl) Try.func4 (by kernel_rfl)
    (of_decide_eq_true (by kernel_rfl)) (by unfold Func.isWrapper; first | (rw [if_pos (by decide +kernel)]; kernel_rfl) | (rw [if_neg (by decide +kernel)]; exact ⟨rfl, rfl⟩))
    (fun os started H enc _ F => lifted os started H enc F)
end Go.Proofs.Ytlefkbmenceflaa.packWrites
