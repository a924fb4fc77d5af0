/-
  The program's Reader: NewReader, Byte, Num, Int, Text, End: what they answer, and what they leave.
-/
import Derived.Test.YtefggpcfijcneaaVarint
namespace Go.Proofs.Ytefggpcfijcneaa
open Go.RowKit

/-- At block p lies a Reader of the bytes l with the fault f; its bytes lie in the blocks from base on, ahead of p. -/
def Rdr (w : World) (base p : Nat) (l : List UInt8) (f : Nat) : Prop :=
  l.length ≤ 140737488355328 ∧ ∃ A c, Row w p 64 #[.slice A l.length c, .int .i64 (f : Int)] ∧ Bs (fun k => base ≤ k ∧ k < p) w A c l

abbrev ptr (p : Nat) : Value := .pointer (some ⟨p, 0, none⟩)

theorem Rdr.mod {S : Nat → Prop} {w w' : World} {base p f : Nat} {l : List UInt8} (h : Rdr w base p l f) (hm : Mod S w w') (hn : ∀ k, base ≤ k → k ≤ p → ¬ S k) (hb : base ≤ p) : Rdr w' base p l f := by
  obtain ⟨hl, A, c, hr, hs⟩ := h
  exact ⟨hl, A, c, hr.mod hm (hn p hb (Nat.le_refl _)), hs.mod hm (fun k hk => hn k hk.1 (by omega))⟩
theorem Rdr.lt {w : World} {base p f : Nat} {l : List UInt8} (h : Rdr w base p l f) : p < w.heap.size := by
  obtain ⟨_, _, _, hr, _⟩ := h
  exact hr.lt

theorem newReader_any {S : Nat → Prop} (w : World) (A : Option Addr) (c : Nat) (l : List UInt8) (h : Bs S w A c l) (hl : l.length ≤ 140737488355328) :
    Calls Try.prog 12 #[.slice A l.length c] w fun e w' => ∃ p, e = .returned (ptr p) ∧ w.heap.size ≤ p ∧ Rdr w' w.heap.size p l 0 ∧ Below w.heap.size w w' := by
  go_enter Try.func12, Try.ntmps12
  go_wp2_with (go_at_call 37; refine (clone_any w A c l h hl).mono ?_; rintro e w' ⟨v', rfl, ho, hb⟩; obtain ⟨A', c', rfl, hs⟩ := ho.form)
  go_ret
  refine ⟨w'.heap.size, rfl, hb.size, ⟨hl, A', c', Row.new _ _ _, ?_⟩, hb.alloc hb.size _⟩
  exact (hs.weaken fun k hk hat => ⟨(ho.lt k hat).1, hk⟩).mod ((Mod.refl Nil w').alloc _) (fun _ _ hf => hf)

theorem readerByte_any (w : World) (base p f most : Nat) (l : List UInt8) (h : Rdr w base p l f) (hm : most < 256) :
    Calls Try.prog 13 #[ptr p, .int .u8 (most : Int)] w fun e w' =>
      e = .returned (.int .u8 ((rbyte most l f).1 : Int)) ∧ Rdr w' base p (rbyte most l f).2.1 (rbyte most l f).2.2 ∧ Mod (One p) w w' := by
  obtain ⟨hl, A, c, hr, hs⟩ := h
  have h0 := hr.cell 0
  have h1 := hr.cell 1
  have f0 := hr.frozen 0
  have f1 := hr.frozen 1
  simp at h0 h1
  by_cases hf : f = 0
  · subst hf
    cases l with
    | nil =>
      go_enter Try.func13, Try.ntmps13
      go_wp2
      go_ret
      refine ⟨rfl, ⟨hl, A, c, hr.set 1 _, hs.mod (Mod.one _ _ _ _) (fun k hk => by omega)⟩, Mod.one _ _ _ _⟩
    | cons b r =>
      obtain ⟨g, o, rfl, hg, hc⟩ := hs.2.2 (by simp)
      have hb := hc 0 b rfl
      unfold u8v at hb
      rw [Nat.add_zero] at hb
      clear hc
      obtain ⟨n, hn⟩ : ∃ n : Nat, n = b.toNat := ⟨_, rfl⟩
      have hn2 : n < 256 := by rw [hn]; exact UInt8.toNat_lt _
      rw [← hn] at hb
      obtain ⟨A', hs', hsl0⟩ := run_from tyU8 hs 1 (by simp)
      have hsl : ∀ W, (Instr.slice 24 (.slice (some ⟨g, o, none⟩) (r.length + 1) c) (some (.int .i64 1)) none none).run Try.prog W = .ok (.slice A' r.length (c - 1)) W := hsl0
      clear hsl0
      have HN := hid hn
      clear hn
      by_cases hmb : most < n
      · have hE : rbyte most (b :: r) 0 = (0, b :: r, 12) := by simp only [rbyte, ← HN.out]; rw [if_neg (by simp), if_pos hmb]
        have HE := hid hE
        clear hE
        go_enter Try.func13, Try.ntmps13
        go_wp2
        go_ret
        rw [HE.out]
        refine ⟨rfl, ⟨hl, _, c, hr.set 1 _, hs.mod (Mod.one _ _ _ _) (fun k hk => by omega)⟩, Mod.one _ _ _ _⟩
      · have hE : rbyte most (b :: r) 0 = (n, r, 0) := by simp only [rbyte, ← HN.out]; rw [if_neg (by simp), if_neg hmb]
        have HE := hid hE
        clear hE
        have hlen : (b :: r).length = r.length + 1 := rfl
        have hc1 := hs.1
        have hc2 := hs.2.1
        unfold maxLen at hc2
        go_enter Try.func13, Try.ntmps13
        go_wp2
        go_ret
        rw [HE.out]
        refine ⟨rfl, ⟨Nat.le_of_succ_le hl, A', c - 1, hr.set 0 _, hs'.mod (Mod.one _ _ _ _) (fun k hk => by omega)⟩, Mod.one _ _ _ _⟩
  · have hE : rbyte most l f = (0, l, f) := by unfold rbyte; rw [if_pos hf]
    have HE := hid hE
    clear hE
    go_enter Try.func13, Try.ntmps13
    go_wp2
    go_ret
    rw [HE.out]
    exact ⟨rfl, ⟨hl, A, c, hr, hs⟩, Mod.refl _ _⟩

theorem vnum_size (most : Nat) (l : List UInt8) : (vnum most l 0 0).2.1 ≤ l.length := by
  rcases vnum_ends most l 0 0 (by omega) (by decide) with h | h <;> omega
theorem vnum_u64 (most : Nat) (l : List UInt8) : (vnum most l 0 0).1 < 18446744073709551616 := by
  rcases vnum_ends most l 0 0 (by omega) (by decide) with h | h <;> omega

theorem readerNum_any (w : World) (base p f most : Nat) (l : List UInt8) (h : Rdr w base p l f) (hm : most < 18446744073709551616) :
    Calls Try.prog 14 #[ptr p, .int .u64 (most : Int)] w fun e w' =>
      e = .returned (.int .u64 ((rnum most l f).1 : Int)) ∧ Rdr w' base p (rnum most l f).2.1 (rnum most l f).2.2 ∧ Mod (One p) w w' := by
  obtain ⟨hl, A, c, hr, hs⟩ := h
  have h0 := hr.cell 0
  have h1 := hr.cell 1
  have f0 := hr.frozen 0
  have f1 := hr.frozen 1
  simp at h0 h1
  by_cases hf : f = 0
  · subst hf
    have hsz := vnum_size most l
    have hC := varint_any w A c l most hs hl hm
    have hE : rnum most l 0 = ((vnum most l 0 0).1, l.drop (vnum most l 0 0).2.1, (vnum most l 0 0).2.2) := by unfold rnum; rw [if_neg (by simp)]
    obtain ⟨⟨n, s, e2⟩, hx⟩ : ∃ x, vnum most l 0 0 = x := ⟨_, rfl⟩
    rw [hx] at hsz hC hE
    simp only at hsz hC hE
    obtain ⟨A', hs', hsl⟩ := run_from tyU8 hs s hsz
    have HE := hid hE
    have HC := hid hC
    have HM := hid hm
    clear hE hC hx hm
    go_enter Try.func14, Try.ntmps14
    go_wp2_with (go_at_call 38; refine Calls.mono HC.out ?_; rintro e w' ⟨rfl, rfl⟩)
    go_ret
    rw [HE.out]
    refine ⟨rfl, ⟨by show (l.drop s).length ≤ _; rw [List.length_drop]; omega, A', c - s, by simpa [List.length_drop] using (hr.set 1 (.int .i64 (e2 : Int))).set 0 (.slice A' (l.length - s) (c - s)), (hs'.mod (Mod.one _ _ _ _) (fun k hk => by omega)).mod (Mod.one _ _ _ _) (fun k hk => by omega)⟩, (Mod.one _ _ _ _).same (Mod.one _ _ _ _)⟩
  · have hE : rnum most l f = (0, l, f) := by unfold rnum; rw [if_pos hf]
    have HE := hid hE
    have HM := hid hm
    clear hE hm
    go_enter Try.func14, Try.ntmps14
    go_wp2
    go_ret
    rw [HE.out]
    exact ⟨rfl, ⟨hl, A, c, hr, hs⟩, Mod.refl _ _⟩

theorem readerInt_any (w : World) (base p f : Nat) (l : List UInt8) (h : Rdr w base p l f) :
    Calls Try.prog 15 #[ptr p] w fun e w' =>
      e = .returned (.int .i64 (rint l f).1) ∧ Rdr w' base p (rint l f).2.1 (rint l f).2.2 ∧ Mod (One p) w w' := by
  have hC := readerNum_any w base p f 18446744073709551615 l h (by decide)
  have hn : (rnum 18446744073709551615 l f).1 < 18446744073709551616 := by
    unfold rnum; split
    · show (0 : Nat) < _; decide
    · exact vnum_u64 _ _
  unfold rint
  obtain ⟨⟨n, l', f'⟩, hx⟩ : ∃ x, rnum 18446744073709551615 l f = x := ⟨_, rfl⟩
  rw [hx] at hC hn ⊢
  simp only at hC hn ⊢
  clear hx
  have HC := hid hC
  clear hC
  go_enter Try.func15, Try.ntmps15
  go_wp2_with (go_at_call 14; refine Calls.mono HC.out ?_; rintro e w' ⟨rfl, hr', hm'⟩)
  go_ret
  refine ⟨ret_int (a := bits .xor .i64 ((n : Int) / 2) (wrap64 (-wrap64 (bits .and .u64 (n : Int) 1)))) ?_, hr', hm'⟩
  exact unzig_bits n hn

theorem readerText_any (w : World) (base p f : Nat) (most : Int) (l : List UInt8) (h : Rdr w base p l f) (hm1 : -9223372036854775808 ≤ most) (hm : most ≤ 9223372036854775807) :
    Calls Try.prog 16 #[ptr p, .int .i64 most] w fun e w' =>
      ∃ v', e = .returned v' ∧ Own 5 w' w.heap.size v' (rtext most l f).1 ∧ Rdr w' base p (rtext most l f).2.1 (rtext most l f).2.2 ∧ Mod (One p) w w' := by
  obtain ⟨hl, A, c, hr, hs⟩ := h
  have h0 := hr.cell 0
  have h1 := hr.cell 1
  have f0 := hr.frozen 0
  have f1 := hr.frozen 1
  simp at h0 h1
  by_cases hf : f = 0
  · subst hf
    have hC := varint_any w A c l most.toNat hs hl (by omega)
    have hcv : IntKind.u64.wrap (max most 0) = (most.toNat : Int) := by rw [IntKind.wrap_u64]; omega
    have hends := vnum_ends most.toNat l 0 0 (by omega) (by decide)
    have hE : rtext most l 0 = if (vnum most.toNat l 0 0).2.2 ≠ 0 then ([], l, (vnum most.toNat l 0 0).2.2)
      else if l.length - (vnum most.toNat l 0 0).2.1 < (vnum most.toNat l 0 0).1 then ([], l, 10)
      else ((l.drop (vnum most.toNat l 0 0).2.1).take (vnum most.toNat l 0 0).1, l.drop ((vnum most.toNat l 0 0).2.1 + (vnum most.toNat l 0 0).1), 0) := by unfold rtext; rw [if_neg (by simp)]
    obtain ⟨⟨n, s, e2⟩, hx⟩ : ∃ x, vnum most.toNat l 0 0 = x := ⟨_, rfl⟩
    rw [hx] at hC hE hends
    simp only at hC hE hends
    have hC' : ∀ x : Int, x = (most.toNat : Int) → Calls Try.prog 38 #[.slice A l.length c, .int .u64 x] w fun e w' =>
      e = .returned (.tuple #[.int .u64 (n : Int), .int .i64 (s : Int), .int .i64 (e2 : Int)]) ∧ w = w' := fun x hx => by rw [hx]; exact hC
    have HC := hid hC'
    clear hC hC' hx hcv
    by_cases he2 : e2 = 0
    · subst he2
      have hn : n ≤ 9223372036854775807 := by omega
      have hsl : s ≤ l.length := by omega
      have hq : l.length - s < n ∨ n ≤ l.length - s := by omega
      clear hends
      rw [if_neg (by simp)] at hE
      by_cases hlt : l.length - s < n
      · rw [if_pos hlt] at hE
        have HT := hid hE
        clear hE
        have hlt' : (l.length : Int) - s < n := by omega
        clear hq
        go_enter Try.func16, Try.ntmps16
        go_wp2_with (go_at_call 38; refine Calls.mono (HC.out _ (by omega)) ?_; rintro e w' ⟨rfl, rfl⟩)
        all_goals
          go_ret
          rw [HT.out]
          exact ⟨_, rfl, Own.nil _ _ _, ⟨hl, A, c, hr.set 1 _, hs.mod (Mod.one _ _ _ _) (fun k hk => by omega)⟩, Mod.one _ _ _ _⟩
      · rw [if_neg hlt] at hE
        have HT := hid hE
        clear hE hq
        have hle : n ≤ l.length - s := by omega
        have hle' : (n : Int) ≤ (l.length : Int) - s := by omega
        obtain ⟨A1, hs1, hsl1⟩ := run_cut tyU8 hs s (s + n) (by omega) (by omega)
        obtain ⟨A2, hs2, hsl2⟩ := run_from tyU8 hs (s + n) (by omega)
        have e1 : (l.take (s + n)).drop s = (l.drop s).take n := by rw [List.drop_take]; congr 1; omega
        have e2 : ((l.drop s).take n).length = n := by rw [List.length_take, List.length_drop]; omega
        rw [e1] at hsl1 hs1
        rw [e2] at hsl1
        simp only [Int.natCast_add] at hsl1 hsl2
        have hcl : ∀ W, Bs (fun k => base ≤ k ∧ k < p) W A1 (c - s) ((l.drop s).take n) → Calls Try.prog 37 #[.slice A1 n (c - s)] W fun e w' => ∃ v', e = .returned v' ∧ Own 5 w' W.heap.size v' ((l.drop s).take n) ∧ Below W.heap.size W w' := by
          intro W hW
          have := clone_any W A1 (c - s) ((l.drop s).take n) hW (by rw [e2]; omega)
          rwa [e2] at this
        have HL := hid hcl
        have H1 := hid e1
        have H2 := hid e2
        clear e1 e2 hcl
        have hps := hr.lt
        go_enter Try.func16, Try.ntmps16
        go_wp2_with (first
          | (go_at_call 38; refine Calls.mono (HC.out _ (by omega)) ?_; rintro e w' ⟨rfl, rfl⟩)
          | (go_at_call 37; refine Calls.mono (HL.out _ hs1) ?_; rintro e w1 ⟨v', rfl, ho, hb⟩; have k0 := (hb.cell (p := ⟨p, 0, none⟩) hps).trans h0; have g0 := (hb.frozen (p := ⟨p, 0, none⟩) hps).trans f0; obtain ⟨A3, c3, rfl, _⟩ := ho.form))
        all_goals
          go_ret
          rw [HT.out]
          rw [H2.out] at ho
          have hr1 := hr.below hb hps
          have hm1 := Mod.of_below hb (One p)
          refine ⟨_, rfl, (ho.mod (Mod.one _ p 0 _) (fun k hk hk1 => by have := ho.lt k hk; unfold One at hk1; omega)), ⟨by show (l.drop (s + n)).length ≤ _; rw [List.length_drop]; omega, A2, c - (s + n), ?_, (hs2.old hb).mod (Mod.one _ _ _ _) (fun k hk => by omega)⟩, hm1.same (Mod.one _ _ _ _)⟩
          simpa [List.length_drop] using hr1.set 0 (.slice A2 (l.length - (s + n)) (c - (s + n)))
    · rw [if_pos he2] at hE
      have HT := hid hE
      clear hE
      go_enter Try.func16, Try.ntmps16
      go_wp2_with (go_at_call 38; refine Calls.mono (HC.out _ (by omega)) ?_; rintro e w' ⟨rfl, rfl⟩)
      all_goals
        go_ret
        rw [HT.out]
        exact ⟨_, rfl, Own.nil _ _ _, ⟨hl, A, c, hr.set 1 _, hs.mod (Mod.one _ _ _ _) (fun k hk => by omega)⟩, Mod.one _ _ _ _⟩
  · have hE : rtext most l f = ([], l, f) := by unfold rtext; rw [if_pos hf]
    have HE := hid hE
    clear hE
    go_enter Try.func16, Try.ntmps16
    go_wp2
    go_ret
    rw [HE.out]
    exact ⟨_, rfl, Own.nil _ _ _, ⟨hl, A, c, hr, hs⟩, Mod.refl _ _⟩

theorem readerEnd_any (w : World) (base p f : Nat) (l : List UInt8) (h : Rdr w base p l f) :
    Calls Try.prog 17 #[ptr p] w fun e w' => e = .returned (.int .i64 (rend l f : Int)) ∧ w = w' := by
  obtain ⟨hl, A, c, hr, hs⟩ := h
  have h0 := hr.cell 0
  have h1 := hr.cell 1
  have f0 := hr.frozen 0
  have f1 := hr.frozen 1
  simp at h0 h1
  by_cases hf : f = 0
  · subst hf
    by_cases h : 0 < l.length
    · have hE : rend l 0 = 11 := by unfold rend; rw [if_pos ⟨rfl, h⟩]
      rw [hE]
      clear hE
      go_enter Try.func17, Try.ntmps17
      go_wp2
      go_ret
      exact ⟨rfl, rfl⟩
    · have hE : rend l 0 = 0 := by unfold rend; rw [if_neg (by omega)]
      have hl0 : l = [] := List.eq_nil_of_length_eq_zero (by omega)
      subst hl0
      rw [hE]
      clear hE
      go_enter Try.func17, Try.ntmps17
      go_wp2
      go_ret
      exact ⟨rfl, rfl⟩
  · have hE : rend l f = f := by unfold rend; rw [if_neg (by omega)]
    rw [hE]
    clear hE
    go_enter Try.func17, Try.ntmps17
    go_wp2
    go_ret
    exact ⟨rfl, rfl⟩
end Go.Proofs.Ytefggpcfijcneaa
