/-
  Math · Bits · Writer · Varint · RefLay · RefRead · OneMath · Read · CmdM
-/
import Derived.Test.YtnknboibmifacaaGreatPA06
import Derived.WalkKit
import Derived.Deep.QuietTactic
import Derived.BigQuiet
set_option linter.unusedSimpArgs false
set_option linter.unusedVariables false
set_option maxRecDepth 100000
namespace Go.Proofs.YtnknboibmifacaaGreat
def BW (most : Nat) : List UInt8 → Nat → Nat → Nat × Nat × Nat
  | [], _, _ => (0, 0, 10)
  | c :: r, k, a =>
    if k = 9 ∧ 1 < c.toNat then (0, 0, 11)
    else if 128 ≤ c.toNat then BW most r (k + 1) (a + c.toNat % 128 * 2 ^ (7 * k))
    else if c.toNat = 0 ∧ 0 < k then (0, 0, 11)
    else if most < a + c.toNat % 128 * 2 ^ (7 * k) then (0, 0, 12)
    else (a + c.toNat % 128 * 2 ^ (7 * k), k + 1, 0)
theorem Jv (most : Nat) : ∀ (l : List UInt8) (k a : Nat), k ≤ 9 → a < 2 ^ (7 * k) →
    ((BW most l k a).2.2 = 0 ∧ k < (BW most l k a).2.1 ∧ (BW most l k a).2.1 ≤ k + l.length ∧ (BW most l k a).1 ≤ most ∧ (BW most l k a).1 < 18446744073709551616) ∨
    ((BW most l k a).1 = 0 ∧ (BW most l k a).2.1 = 0 ∧ ((BW most l k a).2.2 = 10 ∨ (BW most l k a).2.2 = 11 ∨ (BW most l k a).2.2 = 12))
  | [], k, a, _, _ => .inr ⟨rfl, rfl, .inl rfl⟩
  | c :: r, k, a, hk, ha => by
    unfold BW
    by_cases h1 : k = 9 ∧ 1 < c.toNat
    · rw [if_pos h1]; exact .inr ⟨rfl, rfl, .inr (.inl rfl)⟩
    rw [if_neg h1]
    have hp : (2 : Nat) ^ (7 * (k + 1)) = 128 * 2 ^ (7 * k) := by rw [Nat.mul_add, Nat.pow_add]; omega
    have hc : c.toNat % 128 * 2 ^ (7 * k) ≤ 127 * 2 ^ (7 * k) := Nat.mul_le_mul_right _ (by omega)
    by_cases h2 : 128 ≤ c.toNat
    · rw [if_pos h2]
      have := Jv most r (k + 1) (a + c.toNat % 128 * 2 ^ (7 * k)) (by omega) (by rw [hp]; omega)
      rcases this with ⟨a1, a2, a3, a4, a5⟩ | h
      · exact .inl ⟨a1, by omega, by rw [List.length_cons]; omega, a4, a5⟩
      · exact .inr h
    rw [if_neg h2]
    by_cases h3 : c.toNat = 0 ∧ 0 < k
    · rw [if_pos h3]; exact .inr ⟨rfl, rfl, .inr (.inl rfl)⟩
    rw [if_neg h3]
    by_cases h4 : most < a + c.toNat % 128 * 2 ^ (7 * k)
    · rw [if_pos h4]; exact .inr ⟨rfl, rfl, .inr (.inr rfl)⟩
    rw [if_neg h4]
    refine .inl ⟨rfl, by show k < k + 1; omega, by rw [List.length_cons]; show k + 1 ≤ _; omega, by show a + _ ≤ _; omega, ?_⟩
    show a + c.toNat % 128 * 2 ^ (7 * k) < 18446744073709551616
    by_cases h9 : k = 9
    · subst h9
      have hc1 : c.toNat % 128 * 2 ^ (7 * 9) ≤ 1 * 2 ^ (7 * 9) := Nat.mul_le_mul_right _ (by omega)
      omega
    · have : (2 : Nat) ^ (7 * k) ≤ 2 ^ 56 := Nat.pow_le_pow_right (by omega) (by omega)
      omega
def Do (n : Nat) : List UInt8 := if n < 128 then [UInt8.ofNat n] else UInt8.ofNat (n % 128 + 128) :: Do (n / 128)
termination_by n
decreasing_by omega
theorem EI {n : Nat} (h : n < 128) : Do n = [UInt8.ofNat n] := by rw [Do, if_pos h]
theorem FY {n : Nat} (h : 128 ≤ n) : Do n = UInt8.ofNat (n % 128 + 128) :: Do (n / 128) := by rw [Do, if_neg (by omega)]
theorem D2 : ∀ (k n : Nat), n < 128 ^ (k + 1) → (Do n).length ≤ k + 1
  | 0, n, h => by rw [EI (by simpa using h)]; simp
  | k + 1, n, h => by
    by_cases h1 : n < 128
    · rw [EI h1]; simp
    · rw [FY (by omega), List.length_cons]
      have := D2 k (n / 128) (by rw [Nat.div_lt_iff_lt_mul (by omega)]; rw [Nat.pow_succ] at h; exact h)
      omega
theorem GS (n : Nat) (h : n < 18446744073709551616) : (Do n).length ≤ 10 := D2 9 n (by omega)
theorem Nn (n : Nat) : 0 < (Do n).length := by
 rw [Do]; split <;> simp
def Bj (most : Nat) (l : List UInt8) (f : Nat) : Nat × List UInt8 × Nat :=
  if f ≠ 0 then (0, l, f)
  else match l with
    | [] => (0, [], 10)
    | b :: r => if most < b.toNat then (0, b :: r, 12) else (b.toNat, r, 0)
def B5 (most : Nat) (l : List UInt8) (f : Nat) : Nat × List UInt8 × Nat :=
  if f ≠ 0 then (0, l, f) else ((BW most l 0 0).1, l.drop (BW most l 0 0).2.1, (BW most l 0 0).2.2)
def PZ (n : Nat) : Int := if n % 2 = 0 then (n / 2 : Nat) else -((n / 2 : Nat) : Int) - 1
def OD (l : List UInt8) (f : Nat) : Int × List UInt8 × Nat := (PZ (B5 18446744073709551615 l f).1, (B5 18446744073709551615 l f).2)
def Du (most : Int) (l : List UInt8) (f : Nat) : List UInt8 × List UInt8 × Nat :=
  if f ≠ 0 then ([], l, f)
  else if (BW most.toNat l 0 0).2.2 ≠ 0 then ([], l, (BW most.toNat l 0 0).2.2)
  else if l.length - (BW most.toNat l 0 0).2.1 < (BW most.toNat l 0 0).1 then ([], l, 10)
  else ((l.drop (BW most.toNat l 0 0).2.1).take (BW most.toNat l 0 0).1, l.drop ((BW most.toNat l 0 0).2.1 + (BW most.toNat l 0 0).1), 0)
def D6 (l : List UInt8) (f : Nat) : Nat := if f = 0 ∧ 0 < l.length then 11 else f
end Go.Proofs.YtnknboibmifacaaGreat
namespace Go.Proofs.YtnknboibmifacaaGreat
open Go.RowKit
theorem OE (b : Nat) (h : b < 256) : bits .andNot .u8 (b : Int) 128 = ((b % 128 : Nat) : Int) := by
 have : ∀ x : Fin 256, bits .andNot .u8 ((x.val : Nat) : Int) 128 = ((x.val % 128 : Nat) : Int) := by decide +kernel
 exact this ⟨b, h⟩
theorem LO (a : Nat) (ha : a < 18446744073709551616) : (BitVec.ofInt 64 (a : Int)).toNat = a := by
 rw [BitVec.ofInt_natCast, BitVec.toNat_ofNat]; exact Nat.mod_eq_of_lt (by omega)
theorem DM (a : Nat) (ha : a < 18446744073709551616) : IntKind.u64.wrap (a : Int) = (a : Int) := by
 simp [IntKind.wrap, IntKind.signed, IntKind.bits]
 omega
theorem OF (a b : Nat) (ha : a < 18446744073709551616) (hb : b < 18446744073709551616) : bits .or .u64 (a : Int) (b : Int) = ((a ||| b : Nat) : Int) := by
  have hx : a ||| b < 2 ^ 64 := Nat.or_lt_two_pow (by omega) (by omega)
  show IntKind.u64.wrap ((BitVec.ofInt 64 (a : Int) ||| BitVec.ofInt 64 (b : Int)).toNat : Int) = _
  rw [BitVec.toNat_or, LO a ha, LO b hb]
  exact DM _ hx
theorem KL (a b k : Nat) (hb : b < 256) (hk : k ≤ 9) (ha : a < 2 ^ (7 * k)) (h9 : ¬ (k = 9 ∧ 1 < b)) (h1 : k = 9 → b < 128) :
    bits .or .u64 (a : Int) (IntKind.u64.wrap (IntKind.u64.wrap (bits .andNot .u8 (b : Int) 128) * 2 ^ (7 * k))) = ((a + b % 128 * 2 ^ (7 * k) : Nat) : Int) := by
  have hm : b % 128 * 2 ^ (7 * k) + a < 18446744073709551616 := by
    by_cases h : k = 9
    · subst h
      have hc1 : b % 128 * 2 ^ (7 * 9) ≤ 1 * 2 ^ (7 * 9) := Nat.mul_le_mul_right _ (by omega)
      omega
    · have : (2 : Nat) ^ (7 * k) ≤ 2 ^ 56 := Nat.pow_le_pow_right (by omega) (by omega)
      have hc1 : b % 128 * 2 ^ (7 * k) ≤ 127 * 2 ^ (7 * k) := Nat.mul_le_mul_right _ (by omega)
      omega
  rw [OE b hb, DM _ (by omega)]
  have e : ((b % 128 : Nat) : Int) * 2 ^ (7 * k) = ((b % 128 * 2 ^ (7 * k) : Nat) : Int) := by
    rw [Int.natCast_mul, Int.natCast_pow]; rfl
  rw [e, DM _ (by omega), OF _ _ (by omega) (by omega)]
  congr 1
  rw [Nat.or_comm, Nat.add_comm, ← Nat.shiftLeft_eq, Nat.shiftLeft_add_eq_or_of_lt ha]
theorem P0 {k : IntKind} {a b : Int} (h : a = b) : Ending.returned (.int k a) = .returned (.int k b) := by rw [h]
end Go.Proofs.YtnknboibmifacaaGreat
namespace Go.Proofs.YtnknboibmifacaaGreat
open Go.RowKit
def OG (w : World) (p : Nat) (v : Value) (l : List UInt8) : Prop := Dj w p 130 #[v] ∧ FN 5 w 0 v l
def Kc (p : Nat) (v : Value) : Nat → Prop := fun k => k = p ∨ At v k
theorem OG.mod {S : Nat → Prop} {w w' : World} {p : Nat} {v : Value} {l : List UInt8} (h : OG w p v l) (hm : Mod S w w') (hn : ∀ k, Kc p v k → ¬ S k) : OG w' p v l :=
 ⟨h.1.mod hm (hn p (.inl rfl)), h.2.mod hm (fun k hk => hn k (.inr hk))⟩
theorem OG.lt {w : World} {p : Nat} {v : Value} {l : List UInt8} (h : OG w p v l) : ∀ k, Kc p v k → k < w.heap.size := by
  rintro k (rfl | hk)
  · exact h.1.lt
  · exact (h.2.lt k hk).2
theorem LG (w : World) :
  Calls Tryz.prog 75 #[] w fun e w' => ∃ p, e = .returned (.pointer (some ⟨p, 0, none⟩)) ∧ w.heap.size ≤ p ∧ OG w' p (.slice none 0 0) [] ∧ Below w.heap.size w w' := by
 go_enter Tryz.func75, Tryz.ntmps75
 go_wp2
 go_ret
 exact ⟨w.heap.size, rfl, Nat.le_refl _, ⟨Dj.new _ _ _, FN.nil _ _ _⟩, (Below.refl _ _).alloc (Nat.le_refl _) _⟩
theorem KM (w : World) (p : Nat) (v : Value) (l : List UInt8) (b : UInt8) (h : OG w p v l) (hl : l.length + 1 ≤ 140737488355328) :
    Calls Tryz.prog 77 #[.pointer (some ⟨p, 0, none⟩), .int .u8 (b.toNat : Int)] w fun e w' =>
      ∃ v', e = .returned (.tuple #[]) ∧ OG w' p v' (l ++ [b]) ∧ Mod (Kc p v) w w' ∧ ∀ k, At v' k → At v k ∨ w.heap.size ≤ k := by
  obtain ⟨hr, ho⟩ := h
  have hp := hr.lt
  have hne := ho.ne_row hr (by decide)
  obtain ⟨A, c, rfl, hs⟩ := ho.form
  have h0 := hr.cell 0
  have f0 := hr.frozen 0
  simp at h0
  go_enter Tryz.func77, Tryz.ntmps77
  have own1 : FN 5 (w.alloc (.cells #[.int .u8 (b.toNat : Int)] 5)) 0 (.slice A l.length c) l := ho.mod ((Mod.refl Nil w).alloc _) (fun _ _ hf => hf)
  have hr1 := hr.alloc (.cells #[.int .u8 (b.toNat : Int)] 5)
  have hsz : w.heap.size < (w.alloc (.cells #[.int .u8 (b.toNat : Int)] 5)).heap.size := by simp
  go_wp2_with (at_builtin; refine CK (t := 48) QZ rfl (.tmp 8) (.tmp 10) rfl own1 (Nat.zero_le _) (Iy w 5 b rfl) (l.length + 1) rfl rfl rfl hl ?_; intro A1 c1 w1 ho1 hm1 ha1; have hr2 := hr1.mod hm1 hne; have k0 := hr2.cell 0; have g0 := hr2.frozen 0; simp at k0; have hne1 := ho1.ne_row hr2 (by decide))
  go_end0
  refine ⟨_, rfl, ⟨hr2.set 0 _, ho1.mod (Mod.one _ _ _ _) (fun k hk e => by subst e; exact hne1 hk)⟩, ?_, fun k hk => ?_⟩
  · refine (((Mod.refl (Kc p (.slice A l.length c)) w).alloc _).trans hm1 (fun k _ hk => .inr hk)).trans (Mod.one _ _ _ _) (fun k _ hk => .inl hk)
  · rcases ha1 k hk with h | h
    · exact .inl h
    · right; simp at h; omega
theorem P1 (n : Nat) (h : n < 256) : (UInt8.ofNat n).toNat = n := by simp [UInt8.toNat_ofNat']; omega
theorem Vm (b : Nat) (h : b < 256) : bits .or .u8 (b : Int) 128 = ((b % 128 + 128 : Nat) : Int) := by
 have : ∀ x : Fin 256, bits .or .u8 ((x.val : Nat) : Int) 128 = ((x.val % 128 + 128 : Nat) : Int) := by decide +kernel
 exact this ⟨b, h⟩
theorem LH (w : World) (p : Nat) (v : Value) (l : List UInt8) (n : Nat) (h : OG w p v l) (hn : n < 18446744073709551616) (hl : l.length + 10 ≤ 140737488355328) :
    Calls Tryz.prog 76 #[.pointer (some ⟨p, 0, none⟩), .int .u64 (n : Int)] w fun e w' =>
      ∃ v', e = .returned (.tuple #[]) ∧ OG w' p v' (l ++ Do n) ∧ Mod (Kc p v) w w' ∧ ∀ k, At v' k → At v k ∨ w.heap.size ≤ k := by
  have hvl := GS n hn
  obtain ⟨N, hN⟩ : ∃ N, N = Do n := ⟨_, rfl⟩
  rw [← hN] at hvl ⊢
  have HN := Ey hN
  have HNB := Ey hn
  clear hN hn
  go_enter Tryz.func76, Tryz.ntmps76
  go_wp2
  go_loopw [1] (fun x wr => ∃ (y : Nat) (v1 : Value) (l1 : List UInt8), x = .int .u64 (y : Int) ∧ y < 18446744073709551616 ∧ N = l1 ++ Do y ∧ OG wr p v1 (l ++ l1) ∧ Mod (Kc p v) w wr ∧ ∀ k, At v1 k → At v k ∨ w.heap.size ≤ k) (fun x _ => (intOf x).toNat)
  case atStart => exact ⟨n, v, [], rfl, HNB.out, by rw [HN.out]; rfl, by simpa using h, Mod.refl _ _, fun k hk => .inl hk⟩
  case round =>
    obtain ⟨y, v1, l1, rfl, hy, hN, hw, hm, ha⟩ := hrel
    have hpos := Nn y
    have hlN : N.length = l1.length + (Do y).length := by rw [hN]; simp
    obtain ⟨L, hL⟩ : ∃ L, L = l ++ l1 := ⟨_, rfl⟩
    have hll : L.length + 1 ≤ 140737488355328 := by rw [hL, List.length_append]; omega
    rw [← hL] at hw
    clear hlN
    have HL := Ey hL
    have HNN := Ey hN
    have HY := Ey hy
    clear hN hy hL hpos
    obtain ⟨hr, ho⟩ := hw
    have hp := hr.lt
    have hne := ho.ne_row hr (by decide)
    obtain ⟨A, c, rfl, hs⟩ := ho.form
    have h0 := hr.cell 0
    have f0 := hr.frozen 0
    simp only [List.getElem?_toArray, List.getElem?_cons_zero] at h0
    by_cases h128 : 128 ≤ y
    · have hx : bits .or .u8 ((y : Int) % 256) 128 = ((UInt8.ofNat (y % 128 + 128)).toNat : Int) := by
        rw [P1 _ (by omega), show (y : Int) % 256 = ((y % 256 : Nat) : Int) by omega, Vm _ (by omega)]
        congr 2; omega
      obtain ⟨b, hb⟩ : ∃ b, b = UInt8.ofNat (y % 128 + 128) := ⟨_, rfl⟩
      rw [← hb] at hx
      have HB := Ey hb
      have own1 : FN 5 (wr.alloc (.cells #[.int .u8 (b.toNat : Int)] 5)) 0 (.slice A L.length c) L := ho.mod ((Mod.refl Nil wr).alloc _) (fun _ _ hf => hf)
      have hr1 := hr.alloc (.cells #[.int .u8 (b.toNat : Int)] 5)
      clear hb
      go_wp2_with (at_builtin; refine CK (t := 48) QZ rfl (.tmp 10) (.tmp 14) rfl own1 (Nat.zero_le _) (Iy wr 5 b rfl) (L.length + 1) rfl rfl rfl hll ?_; intro A1 c1 w1 ho1 hm1 ha1; have hr2 := hr1.mod hm1 hne; have k0 := hr2.cell 0; have g0 := hr2.frozen 0; simp at k0; have hne1 := ho1.ne_row hr2 (by decide))
      have hfoot : Mod (Kc p v) w (w1.setCell ⟨p, 0, none⟩ (.slice A1 (L.length + 1) c1)) := hm.trans ((((Mod.refl (Kc p (.slice A L.length c)) wr).alloc _).trans hm1 (fun k _ hk => .inr hk)).trans (Mod.one _ _ _ _) (fun k _ hk => .inl hk)) (fun k hk hf => by
        rcases hf with hf | hf
        · exact .inl hf
        · rcases ha k hf with hf | hf
          · exact .inr hf
          · omega)
      have hws : w.heap.size ≤ wr.heap.size := hm.size
      go_roundw
      case rel =>
        refine ⟨y / 128, .slice A1 (L.length + 1) c1, l1 ++ [b], by go_num, by have := HY.out; omega, ?_, ⟨?_, ?_⟩, hfoot, ?_⟩
        · rw [HNN.out, FY h128, ← HB.out]; simp
        · exact hr2.set 0 _
        · rw [← List.append_assoc, ← HL.out]
          exact ho1.mod (Mod.one _ _ _ _) (fun k hk e => by subst e; exact hne1 hk)
        · intro k hk
          rcases ha1 k hk with h | h
          · exact ha k h
          · right; simp at h; omega
      case measure => simp [intOf]; omega
    · have hyb : y < 128 := by omega
      obtain ⟨b, hb⟩ : ∃ b, b = UInt8.ofNat y := ⟨_, rfl⟩
      have hx : (y : Int) = (b.toNat : Int) := by rw [hb, P1 _ (by omega)]
      have HB := Ey hb
      have HX := Ey hx
      have own1 : FN 5 (wr.alloc (.cells #[.int .u8 (y : Int)] 5)) 0 (.slice A L.length c) L := ho.mod ((Mod.refl Nil wr).alloc _) (fun _ _ hf => hf)
      have hr1 := hr.alloc (.cells #[.int .u8 (y : Int)] 5)
      clear hb hx
      go_wp2_with (at_builtin; refine CK (t := 48) QZ rfl (.tmp 24) (.tmp 27) rfl own1 (Nat.zero_le _) (Iy wr 5 b HX.out) (L.length + 1) rfl rfl rfl hll ?_; intro A1 c1 w1 ho1 hm1 ha1; have hr2 := hr1.mod hm1 hne; have k0 := hr2.cell 0; have g0 := hr2.frozen 0; simp at k0; have hne1 := ho1.ne_row hr2 (by decide))
      have hfoot : Mod (Kc p v) w (w1.setCell ⟨p, 0, none⟩ (.slice A1 (L.length + 1) c1)) := hm.trans ((((Mod.refl (Kc p (.slice A L.length c)) wr).alloc _).trans hm1 (fun k _ hk => .inr hk)).trans (Mod.one _ _ _ _) (fun k _ hk => .inl hk)) (fun k hk hf => by
        rcases hf with hf | hf
        · exact .inl hf
        · rcases ha k hf with hf | hf
          · exact .inr hf
          · omega)
      have hws : w.heap.size ≤ wr.heap.size := hm.size
      go_end0
      refine ⟨_, rfl, ⟨hr2.set 0 _, ?_⟩, hfoot, ?_⟩
      · rw [HNN.out, EI hyb, ← HB.out, ← List.append_assoc, ← HL.out]
        exact ho1.mod (Mod.one _ _ _ _) (fun k hk e => by subst e; exact hne1 hk)
      · intro k hk
        rcases ha1 k hk with h | h
        · exact ha k h
        · right; simp at h; omega
theorem Kd (w : World) (p : Nat) (v : Value) (l : List UInt8) (h : OG w p v l) (hl : l.length ≤ 140737488355328) :
  Calls Tryz.prog 78 #[.pointer (some ⟨p, 0, none⟩)] w fun e w' => ∃ v', e = .returned v' ∧ FN 5 w' w.heap.size v' l ∧ Below w.heap.size w w' := by
 obtain ⟨hr, ho⟩ := h
 obtain ⟨A, c, rfl, hs⟩ := ho.form
 have h0 := hr.cell 0
 have f0 := hr.frozen 0
 simp only [List.getElem?_toArray, List.getElem?_cons_zero] at h0
 go_enter Tryz.func78, Tryz.ntmps78
 go_wp2_with (go_at_call 59; refine (Ju w A c l hs hl).mono ?_; rintro e w' ⟨v', rfl, ho', hb⟩)
 go_ret
 exact ⟨_, rfl, ho', hb⟩
end Go.Proofs.YtnknboibmifacaaGreat
namespace Go.Proofs.YtnknboibmifacaaGreat
open Go.RowKit
theorem OH {S : Nat → Prop} (w : World) (A : Option Addr) (c : Nat) (l : List UInt8) (most : Nat) (h : Bs S w A c l) (hl : l.length ≤ 140737488355328) (hm : most < 18446744073709551616) :
    Calls Tryz.prog 95 #[.slice A l.length c, .int .u64 (most : Int)] w fun e w' =>
      e = .returned (.tuple #[.int .u64 ((BW most l 0 0).1 : Int), .int .i64 ((BW most l 0 0).2.1 : Int), .int .i64 ((BW most l 0 0).2.2 : Int)]) ∧ w = w' := by
  go_enter Tryz.func95, Tryz.ntmps95
  go_wp2
  go_loop [4, 7, 8, 11] (fun n _ _ i => ∃ k a : Nat, k ≤ l.length ∧ k ≤ 9 ∧ a < 2 ^ (7 * k) ∧ BW most l 0 0 = BW most (l.drop k) k a ∧ i = .int .i64 k ∧ n = .int .u64 a) (fun _ _ _ i => l.length - (intOf i).toNat)
  case atStart => exact ⟨0, 0, Nat.zero_le _, by omega, by decide, rfl, rfl, rfl⟩
  case round =>
    obtain ⟨k, a, hk, hk9, ha, hv, rfl, rfl⟩ := hrel
    have HV := Ey hv
    clear hv
    by_cases hlt : k < l.length
    · obtain ⟨g, o, rfl, hs, hc⟩ := h.2.2 (by omega)
      have hb := hc k l[k] (List.getElem?_eq_getElem hlt)
      unfold Or at hb
      clear hc
      obtain ⟨b, hbb⟩ : ∃ b : Nat, b = (l[k]).toNat := ⟨_, rfl⟩
      have hb2 : b < 256 := by rw [hbb]; exact UInt8.toNat_lt _
      rw [← hbb] at hb
      have HB := Ey hbb
      clear hbb
      have hd : l.drop k = l[k] :: l.drop (k + 1) := List.drop_eq_getElem_cons hlt
      have HD := Ey hd
      clear hd
      have HA := Ey ha
      have HM := Ey hm
      clear hm
      by_cases h9 : k = 9 ∧ 1 < b
      · obtain ⟨rfl, hb1⟩ := h9
        clear ha
        go_wp2
        refine bodyPost_ret (results_tmp3 rfl _ _ _) rfl ⟨?_, rfl⟩
        rw [HV.out, HD.out]
        unfold BW
        rw [← HB.out, if_pos ⟨rfl, hb1⟩]
        rfl
      obtain ⟨X, hX⟩ : ∃ X : Nat, X = a + b % 128 * 2 ^ (7 * k) := ⟨_, rfl⟩
      by_cases h1 : 128 ≤ b
      · have hk8 : k ≤ 8 := by omega
        have hN := KL a b k hb2 hk9 ha h9 (by omega)
        rw [← hX] at hN
        have HX := Ey hX
        clear ha hX
        go_wp2
        go_round
        case rel =>
          refine ⟨k + 1, X, by omega, by omega, ?_, ?_, by go_num, rfl⟩
          · have hp : (2 : Nat) ^ (7 * (k + 1)) = 128 * 2 ^ (7 * k) := by rw [Nat.mul_add, Nat.pow_add]; omega
            have hc : b % 128 * 2 ^ (7 * k) ≤ 127 * 2 ^ (7 * k) := Nat.mul_le_mul_right _ (by omega)
            have := HA.out
            have := HX.out
            omega
          · rw [HV.out, HD.out]
            conv => lhs; unfold BW
            rw [← HB.out, if_neg h9, if_pos h1, ← HX.out]
        case measure => simp [intOf]; omega
      have h1' : b < 128 := by omega
      by_cases h0 : b = 0 ∧ 0 < k
      · obtain ⟨rfl, hk0⟩ := h0
        clear ha hX
        go_wp2
        all_goals
          refine bodyPost_ret (results_tmp3 rfl _ _ _) rfl ⟨?_, rfl⟩
          rw [HV.out, HD.out]
          unfold BW
          rw [← HB.out, if_neg h9, if_neg h1, if_pos ⟨rfl, hk0⟩]
          rfl
      have hN := KL a b k hb2 hk9 ha h9 (by omega)
      rw [← hX] at hN
      have HX := Ey hX
      clear ha hX
      by_cases e9 : k = 9
      · subst e9
        rw [show (2 : Int) ^ (7 * 9) = 9223372036854775808 from rfl] at hN
        have hb1 : b ≤ 1 := by omega
        by_cases hl2 : most < X
        · go_wp2
          all_goals
            refine bodyPost_ret (results_tmp3 rfl _ _ _) rfl ⟨?_, rfl⟩
            rw [HV.out, HD.out]
            unfold BW
            rw [← HB.out, if_neg (by omega), if_neg h1, if_neg (by omega), ← HX.out, if_pos hl2]
            rfl
        · go_wp2
          all_goals
            refine bodyPost_ret (results_tmp3 rfl _ _ _) rfl ⟨?_, rfl⟩
            rw [HV.out, HD.out]
            unfold BW
            rw [← HB.out, if_neg (by omega), if_neg h1, if_neg (by omega), ← HX.out, if_neg hl2]
            rfl
      have hk8 : k ≤ 8 := by omega
      by_cases hl2 : most < X
      · go_wp2
        all_goals
          refine bodyPost_ret (results_tmp3 rfl _ _ _) rfl ⟨?_, rfl⟩
          rw [HV.out, HD.out]
          unfold BW
          rw [← HB.out, if_neg h9, if_neg h1, if_neg h0, ← HX.out, if_pos hl2]
          rfl
      · go_wp2
        all_goals
          refine bodyPost_ret (results_tmp3 rfl _ _ _) rfl ⟨?_, rfl⟩
          rw [HV.out, HD.out]
          unfold BW
          rw [← HB.out, if_neg h9, if_neg h1, if_neg h0, ← HX.out, if_neg hl2]
          rfl
    · have hk' : k = l.length := by omega
      have hd : l.drop k = [] := by rw [hk']; exact List.drop_length
      have HD := Ey hd
      clear hd hk' ha hm
      go_wp2
      refine bodyPost_ret (results_tmp3 rfl _ _ _) rfl ⟨?_, rfl⟩
      rw [HV.out, HD.out]
      rfl
end Go.Proofs.YtnknboibmifacaaGreat
namespace Go.Proofs.YtnknboibmifacaaGreat
open Go.RowKit
theorem P2 (n : Nat) (h : n < 256) : (UInt8.ofNat n).toNat = n := by simp [UInt8.toNat_ofNat']; omega
theorem OI (w : World) (n : Nat) (hn : n < 18446744073709551616) :
    Calls Tryz.prog 46 #[.int .u64 (n : Int)] w fun e w' => ∃ v', e = .returned v' ∧ FN 5 w' w.heap.size v' (Do n) ∧ Below w.heap.size w w' := by
  have hvl := GS n hn
  obtain ⟨N, hN⟩ : ∃ N, N = Do n := ⟨_, rfl⟩
  rw [← hN] at hvl ⊢
  have HN := Ey hN
  have HNB := Ey hn
  clear hN hn
  go_enter Tryz.func46, Tryz.ntmps46
  go_wp2
  go_loopw [0, 3] (fun x v wr => ∃ (y : Nat) (l1 : List UInt8) (A : Option Addr) (c : Nat), x = .int .u64 (y : Int) ∧ y < 18446744073709551616 ∧ N = l1 ++ Do y ∧ v = .slice A l1.length c ∧ FN 5 wr w.heap.size (.slice A l1.length c) l1 ∧ Up w.heap.size w wr) (fun x _ _ => (intOf x).toNat)
  case atStart => exact ⟨n, [], none, 0, rfl, HNB.out, by rw [HN.out]; rfl, rfl, FN.nil _ _ _, Up.refl w⟩
  case round =>
    obtain ⟨y, l1, A, c, rfl, hy, hN, rfl, ho, hU⟩ := hrel
    have hpos := Nn y
    have hlN : N.length = l1.length + (Do y).length := by rw [hN]; simp
    have hll : l1.length + 1 ≤ 140737488355328 := by omega
    have HNN := Ey hN
    have HY := Ey hy
    clear hN hy hpos hlN
    by_cases h128 : 128 ≤ y
    · obtain ⟨b, hb⟩ : ∃ b, b = UInt8.ofNat (y % 128 + 128) := ⟨_, rfl⟩
      have hx : (y : Int) % 128 + 128 = (b.toNat : Int) := by rw [hb, P2 _ (by omega)]; omega
      have hwrap : IntKind.u64.wrap ((y : Int) / 128) = ((y / 128 : Nat) : Int) := by rw [IntKind.wrap_u64]; have := HY.out; omega
      have HB := Ey hb
      have HX := Ey hx
      have own1 : FN 5 (wr.alloc (.cells #[.int .u8 ((y : Int) % 128 + 128)] 5)) w.heap.size (.slice A l1.length c) l1 := ho.mod ((Mod.refl Nil wr).alloc _) (fun _ _ hf => hf)
      have hsz : w.heap.size ≤ (wr.alloc (.cells #[.int .u8 ((y : Int) % 128 + 128)] 5)).heap.size := (hU.alloc _).size
      clear hb hx
      go_wp2_with (at_builtin; refine CK (t := 48) QZ rfl (.tmp 6) (.tmp 11) rfl own1 hsz (Iy wr 5 b HX.out) (l1.length + 1) rfl rfl rfl hll ?_; intro A1 c1 w1 ho1 hm1 ha1)
      have hU1 : Up w.heap.size w w1 := (hU.alloc _).mod hm1 (fun j hj => (own1.lt j hj).1)
      go_roundw
      case rel =>
        refine ⟨y / 128, l1 ++ [b], A1, c1, by first | rfl | (rw [hwrap]) | go_num, by have := HY.out; omega, ?_, by simp, by simpa using ho1, hU1⟩
        rw [HNN.out, FY h128, ← HB.out]; simp
      case measure => simp [intOf]; omega
    · have hyb : y < 128 := by omega
      obtain ⟨b, hb⟩ : ∃ b, b = UInt8.ofNat y := ⟨_, rfl⟩
      have hx : (y : Int) = (b.toNat : Int) := by rw [hb, P2 _ (by omega)]
      have HB := Ey hb
      have HX := Ey hx
      have own1 : FN 5 (wr.alloc (.cells #[.int .u8 (y : Int)] 5)) w.heap.size (.slice A l1.length c) l1 := ho.mod ((Mod.refl Nil wr).alloc _) (fun _ _ hf => hf)
      have hsz : w.heap.size ≤ (wr.alloc (.cells #[.int .u8 (y : Int)] 5)).heap.size := (hU.alloc _).size
      clear hb hx
      go_wp2_with (at_builtin; refine CK (t := 48) QZ rfl (.tmp 15) (.tmp 18) rfl own1 hsz (Iy wr 5 b HX.out) (l1.length + 1) rfl rfl rfl hll ?_; intro A1 c1 w1 ho1 hm1 ha1)
      have hU1 : Up w.heap.size w w1 := (hU.alloc _).mod hm1 (fun j hj => (own1.lt j hj).1)
      go_ret
      refine ⟨_, rfl, ?_, hU1.below⟩
      rw [HNN.out, EI hyb, ← HB.out]
      exact ho1
end Go.Proofs.YtnknboibmifacaaGreat
namespace Go.Proofs.YtnknboibmifacaaGreat
open Go.RowKit
def R6 (S : Nat → Prop) (w : World) (p : Nat) (A : Option Addr) (c : Nat) (b l : List UInt8) (f : Nat) : Prop :=
  ∃ j, j ≤ b.length ∧ l = b.drop j ∧ Dj w p 81 #[.slice A b.length c, .int .i64 (j : Int), .int .i64 (f : Int)] ∧ Bs S w A c b ∧ b.length ≤ 140737488355328 ∧ ∀ k, S k → ¬ JW p k
theorem R6.mod {S T : Nat → Prop} {w w' : World} {p c f : Nat} {A : Option Addr} {b l : List UInt8} (h : R6 S w p A c b l f) (hm : Mod T w w') (hp : ¬ T p) (hn : ∀ k, S k → ¬ T k) : R6 S w' p A c b l f := by
 obtain ⟨j, hj, hl, hr, hs, hb, hne⟩ := h
 exact ⟨j, hj, hl, hr.mod hm hp, hs.mod hm hn, hb, hne⟩
theorem R6.lt {S : Nat → Prop} {w : World} {p c f : Nat} {A : Option Addr} {b l : List UInt8} (h : R6 S w p A c b l f) : p < w.heap.size := by
 obtain ⟨_, _, _, hr, _⟩ := h
 exact hr.lt
theorem CH (w : World) (p : Nat) (x : Value) (j f a q : Int) (h : Dj w p 81 #[x, .int .i64 j, .int .i64 f]) :
  Calls Tryz.prog 72 #[.pointer (some ⟨p, 0, none⟩), .int .i64 a, .int .i64 q] w fun e w' =>
   e = .returned (.int .u64 0) ∧ Dj w' p 81 #[x, .int .i64 a, .int .i64 q] ∧ Mod (JW p) w w' := by
 have h0 := h.cell 0
 have h1 := h.cell 1
 have h2 := h.cell 2
 have f1 := h.frozen 1
 have f2 := h.frozen 2
 simp at h0 h1 h2
 go_enter Tryz.func72, Tryz.ntmps72
 go_wp2
 go_ret
 exact ⟨rfl, (h.set 2 _).set 1 _, (Mod.one _ _ _ _).same (Mod.one _ _ _ _)⟩
theorem No {S : Nat → Prop} (w : World) (p c f most : Nat) (A : Option Addr) (b l : List UInt8) (h : R6 S w p A c b l f) (hm : most < 256) :
    Calls Tryz.prog 40 #[.pointer (some ⟨p, 0, none⟩), .int .u8 (most : Int)] w fun e w' =>
      e = .returned (.int .u8 ((Bj most l f).1 : Int)) ∧ R6 S w' p A c b (Bj most l f).2.1 (Bj most l f).2.2 ∧ Mod (JW p) w w' := by
  obtain ⟨j, hj, rfl, hr, hs, hl, hne⟩ := h
  have h0 := hr.cell 0
  have h1 := hr.cell 1
  have h2 := hr.cell 2
  have f1 := hr.frozen 1
  simp at h0 h1 h2
  by_cases hf : f = 0
  · subst hf
    by_cases hlt : j < b.length
    · obtain ⟨g, o, rfl, hg, hc⟩ := hs.2.2 (by omega)
      have hb := hc j b[j] (List.getElem?_eq_getElem hlt)
      unfold Or at hb
      clear hc
      have hd : b.drop j = b[j] :: b.drop (j + 1) := List.drop_eq_getElem_cons hlt
      obtain ⟨n, hn⟩ : ∃ n : Nat, n = (b[j]).toNat := ⟨_, rfl⟩
      have hn2 : n < 256 := by rw [hn]; exact UInt8.toNat_lt _
      rw [← hn] at hb
      by_cases hmb : most < n
      · have hE : Bj most (b.drop j) 0 = (0, b.drop j, 12) := by rw [hd]; simp only [Bj, ← hn]; rw [if_neg (by simp), if_pos hmb]
        have HE := Ey hE
        clear hE hd hn
        go_enter Tryz.func40, Tryz.ntmps40
        go_wp2_with fail
        go_quiet (fail)
        go_wp2_with fail
        go_quiet (fail)
        go_wp2_with (go_at_call 72; refine (CH _ p _ _ _ _ _ (hr.mod ((Mod.refl Nil w).drewN _) (fun hf => hf))).mono ?_; rintro e w' ⟨rfl, hr', hm'⟩)
        go_ret
        rw [HE.out]
        have hm1 := ((Mod.refl (JW p) w).drewN _).same hm'
        exact ⟨rfl, ⟨j, hj, rfl, hr', hs.mod hm1 hne, hl, hne⟩, hm1⟩
      · have hE : Bj most (b.drop j) 0 = (n, b.drop (j + 1), 0) := by rw [hd]; simp only [Bj, ← hn]; rw [if_neg (by simp), if_neg hmb]
        have HE := Ey hE
        have hmN : ∀ N, Mod (JW p) w ((w.drewN N).setCell ⟨p, 1, none⟩ (.int .i64 ((j : Int) + 1))) := fun N => ((Mod.refl (JW p) w).drewN N).same (Mod.one _ _ _ _)
        have hrN : ∀ N, Dj ((w.drewN N).setCell ⟨p, 1, none⟩ (.int .i64 ((j : Int) + 1))) p 81 #[.slice (some ⟨g, o, none⟩) b.length c, .int .i64 ((j : Int) + 1), .int .i64 ((0 : Nat) : Int)] :=
          fun N => (hr.mod ((Mod.refl Nil w).drewN N) (fun hf => hf)).set 1 (.int .i64 ((j : Int) + 1))
        have k0 : ∀ N, ((w.drewN N).setCell ⟨p, 1, none⟩ (.int .i64 ((j : Int) + 1))).cell? ⟨p, 0, none⟩ = some (.slice (some ⟨g, o, none⟩) b.length c) := fun N => by simpa using (hrN N).cell 0
        have k1 : ∀ N, ((w.drewN N).setCell ⟨p, 1, none⟩ (.int .i64 ((j : Int) + 1))).cell? ⟨p, 1, none⟩ = some (.int .i64 ((j : Int) + 1)) := fun N => by simpa using (hrN N).cell 1
        have kb : ∀ N, ((w.drewN N).setCell ⟨p, 1, none⟩ (.int .i64 ((j : Int) + 1))).cell? ⟨g, o + j, none⟩ = some (.int .u8 (n : Int)) := fun N => by
          obtain ⟨g2, o2, he, _, hc2⟩ := (hs.mod (hmN N) hne).2.2 (by omega)
          cases he
          have := hc2 j b[j] (List.getElem?_eq_getElem hlt)
          unfold Or at this
          rw [this, hn]
        clear hE hd hn
        go_enter Tryz.func40, Tryz.ntmps40
        go_wp2_with fail
        go_quiet (fail)
        go_wp2_with fail
        go_quiet (fail)
        go_wp2_with fail
        go_quiet (fail)
        go_wp2_with fail
        go_ret
        rw [HE.out]
        exact ⟨rfl, ⟨j + 1, by omega, rfl, (hrN _).mod ((Mod.refl Nil _).drewN _) (fun hf => hf), hs.mod ((hmN _).drewN _) hne, hl, hne⟩, (hmN _).drewN _⟩
    · have hE : Bj most (b.drop j) 0 = (0, b.drop j, 10) := by rw [List.drop_eq_nil_of_le (by omega)]; rfl
      have HE := Ey hE
      clear hE
      go_enter Tryz.func40, Tryz.ntmps40
      go_wp2_with fail
      go_quiet (fail)
      go_wp2_with (go_at_call 72; refine (CH _ p _ _ _ _ _ (hr.mod ((Mod.refl Nil w).drewN _) (fun hf => hf))).mono ?_; rintro e w' ⟨rfl, hr', hm'⟩)
      go_ret
      rw [HE.out]
      have hm1 := ((Mod.refl (JW p) w).drewN _).same hm'
      exact ⟨rfl, ⟨j, hj, rfl, hr', hs.mod hm1 hne, hl, hne⟩, hm1⟩
  · have hE : Bj most (b.drop j) f = (0, b.drop j, f) := by unfold Bj; rw [if_pos hf]
    have HE := Ey hE
    clear hE
    go_enter Tryz.func40, Tryz.ntmps40
    go_wp2
    go_ret
    rw [HE.out]
    exact ⟨rfl, ⟨j, hj, rfl, hr, hs, hl, hne⟩, Mod.refl _ _⟩
theorem OJ {S : Nat → Prop} (w : World) (p c f : Nat) (A : Option Addr) (b l : List UInt8) (h : R6 S w p A c b l f) :
    Calls Tryz.prog 41 #[.pointer (some ⟨p, 0, none⟩)] w fun e w' => e = .returned (.int .i64 (D6 l f : Int)) ∧ Below w.heap.size w w' := by
  obtain ⟨j, hj, rfl, hr, hs, hl, hne⟩ := h
  have h0 := hr.cell 0
  have h1 := hr.cell 1
  have h2 := hr.cell 2
  simp at h0 h1 h2
  by_cases hf : f = 0
  · subst hf
    by_cases hlt : j < b.length
    · have hE : D6 (b.drop j) 0 = 11 := by unfold D6; rw [if_pos ⟨rfl, by rw [List.length_drop]; omega⟩]
      rw [hE]
      clear hE
      go_enter Tryz.func41, Tryz.ntmps41
      go_wp2_with fail
      go_quiet (fail)
      go_wp2_with fail
      go_ret
      exact ⟨rfl, ((Up.refl w).drewN _).below⟩
    · have hE : D6 (b.drop j) 0 = 0 := by unfold D6; rw [if_neg (by rw [List.length_drop]; omega)]
      rw [hE]
      clear hE
      go_enter Tryz.func41, Tryz.ntmps41
      go_wp2_with fail
      go_quiet (fail)
      go_wp2_with fail
      go_ret
      exact ⟨rfl, ((Up.refl w).drewN _).below⟩
  · have hE : D6 (b.drop j) f = f := by unfold D6; rw [if_neg (by omega)]
    rw [hE]
    clear hE
    go_enter Tryz.func41, Tryz.ntmps41
    go_wp2_with fail
    go_quiet (fail)
    go_wp2_with fail
    go_ret
    exact ⟨rfl, ((Up.refl w).drewN _).below⟩
theorem Q0 (a b k : Nat) (hk : k ≤ 9) (ha : a < 2 ^ (7 * k)) (h9 : ¬ (k = 9 ∧ 1 < b)) :
    IntKind.u64.wrap ((a : Int) + IntKind.u64.wrap ((b : Int) % 128 * 2 ^ (7 * k))) = ((a + b % 128 * 2 ^ (7 * k) : Nat) : Int) := by
  have hm : b % 128 * 2 ^ (7 * k) + a < 18446744073709551616 := by
    by_cases h : k = 9
    · subst h
      have hc1 : b % 128 * 2 ^ (7 * 9) ≤ 1 * 2 ^ (7 * 9) := Nat.mul_le_mul_right _ (by omega)
      omega
    · have : (2 : Nat) ^ (7 * k) ≤ 2 ^ 56 := Nat.pow_le_pow_right (by omega) (by omega)
      have hc1 : b % 128 * 2 ^ (7 * k) ≤ 127 * 2 ^ (7 * k) := Nat.mul_le_mul_right _ (by omega)
      omega
  have e : ((b : Int) % 128 * 2 ^ (7 * k)) = ((b % 128 * 2 ^ (7 * k) : Nat) : Int) := by push_cast; rfl
  rw [e, DM _ (by omega), ← Int.natCast_add, DM _ (by omega)]
theorem OK (a b : Nat) (ha : a < 2 ^ (7 * 9)) (hb : b ≤ 1) :
  IntKind.u64.wrap ((a : Int) + (b : Int) % 128 * 9223372036854775808) = ((a + b % 128 * 2 ^ (7 * 9) : Nat) : Int) := by
 have hm : b % 128 * 9223372036854775808 + a < 18446744073709551616 := by omega
 have e : ((a : Int) + (b : Int) % 128 * 9223372036854775808) = ((a + b % 128 * 2 ^ (7 * 9) : Nat) : Int) := by omega
 rw [e, DM _ (by omega)]
set_option maxHeartbeats 4000000 in
theorem Np {S : Nat → Prop} (w : World) (p c f most : Nat) (A : Option Addr) (b l : List UInt8) (h : R6 S w p A c b l f) (hm : most < 18446744073709551616) :
    Calls Tryz.prog 39 #[.pointer (some ⟨p, 0, none⟩), .int .u64 (most : Int)] w fun e w' =>
      e = .returned (.int .u64 ((B5 most l f).1 : Int)) ∧ R6 S w' p A c b (B5 most l f).2.1 (B5 most l f).2.2 ∧ Mod (JW p) w w' := by
  obtain ⟨j, hj, rfl, hr, hs, hl, hne⟩ := h
  have h0 := hr.cell 0
  have h1 := hr.cell 1
  have h2 := hr.cell 2
  have f1 := hr.frozen 1
  simp at h0 h1 h2
  by_cases hf : f = 0
  · subst hf
    have hE : B5 most (b.drop j) 0 = ((BW most (b.drop j) 0 0).1, (b.drop j).drop (BW most (b.drop j) 0 0).2.1, (BW most (b.drop j) 0 0).2.2) := by unfold B5; rw [if_neg (by simp)]
    rw [hE]
    clear hE
    go_enter Tryz.func39, Tryz.ntmps39
    go_wp2_with fail
    go_loop [6, 7, 8] (fun n i _ => ∃ k a : Nat, j + k ≤ b.length ∧ k ≤ 9 ∧ a < 2 ^ (7 * k) ∧ BW most (b.drop j) 0 0 = BW most (b.drop (j + k)) k a ∧ i = .int .i64 k ∧ n = .int .u64 a) (fun _ i _ => b.length - (intOf i).toNat)
    case atStart => exact ⟨0, 0, by omega, by omega, by decide, rfl, rfl, rfl⟩
    case round =>
      obtain ⟨k, a, hk, hk9, ha, hv, rfl, rfl⟩ := hrel
      have HV := Ey hv
      clear hv
      by_cases hlt : j + k < b.length
      · obtain ⟨g, o, rfl, hg, hc⟩ := hs.2.2 (by omega)
        have hb := hc (j + k) b[j + k] (List.getElem?_eq_getElem hlt)
        unfold Or at hb
        clear hc
        obtain ⟨x, hx⟩ : ∃ x : Nat, x = (b[j + k]).toNat := ⟨_, rfl⟩
        have hx2 : x < 256 := by rw [hx]; exact UInt8.toNat_lt _
        rw [← hx] at hb
        have HB := Ey hx
        clear hx
        have hd : b.drop (j + k) = b[j + k] :: b.drop (j + (k + 1)) := List.drop_eq_getElem_cons hlt
        have HD := Ey hd
        clear hd
        have HA := Ey ha
        have HM := Ey hm
        clear hm
        by_cases h9 : k = 9 ∧ 1 < x
        · obtain ⟨rfl, hb1⟩ := h9
          clear ha
          go_wp2_with (go_at_call 72; refine (CH _ p _ _ _ _ _ hr).mono ?_; rintro e w' ⟨rfl, hr', hm'⟩)
          go_ret
          rw [HV.out, HD.out]
          unfold BW
          rw [← HB.out, if_pos ⟨rfl, hb1⟩]
          exact ⟨rfl, ⟨j, hj, by simp, hr', hs.mod hm' hne, hl, hne⟩, hm'⟩
        obtain ⟨X, hX⟩ : ∃ X : Nat, X = a + x % 128 * 2 ^ (7 * k) := ⟨_, rfl⟩
        have hN := Q0 a x k hk9 ha h9
        rw [← hX] at hN
        by_cases h1 : 128 ≤ x
        · have hk8 : k ≤ 8 := by omega
          have HX := Ey hX
          clear ha hX
          go_wp2_with fail
          go_round
          case rel =>
            refine ⟨k + 1, X, by omega, by omega, ?_, ?_, by go_num, rfl⟩
            · have hp : (2 : Nat) ^ (7 * (k + 1)) = 128 * 2 ^ (7 * k) := by rw [Nat.mul_add, Nat.pow_add]; omega
              have hc : x % 128 * 2 ^ (7 * k) ≤ 127 * 2 ^ (7 * k) := Nat.mul_le_mul_right _ (by omega)
              have := HA.out
              have := HX.out
              omega
            · rw [HV.out, HD.out]
              conv => lhs; unfold BW
              rw [← HB.out, if_neg h9, if_pos h1, ← HX.out]
          case measure => simp [intOf]; omega
        have h1' : x < 128 := by omega
        by_cases hz : x = 0 ∧ 0 < k
        · obtain ⟨rfl, hk0⟩ := hz
          clear ha hX
          go_wp2_with (go_at_call 72; refine (CH _ p _ _ _ _ _ hr).mono ?_; rintro e w' ⟨rfl, hr', hm'⟩)
          all_goals
            go_ret
            rw [HV.out, HD.out]
            unfold BW
            rw [← HB.out, if_neg h9, if_neg h1, if_pos ⟨rfl, hk0⟩]
            exact ⟨rfl, ⟨j, hj, by simp, hr', hs.mod hm' hne, hl, hne⟩, hm'⟩
        by_cases e9 : k = 9
        · subst e9
          have hb1 : x ≤ 1 := by omega
          have hN9 := OK a x ha hb1
          rw [← hX] at hN9
          have HX := Ey hX
          clear ha hX hN
          by_cases hl2 : most < X
          · go_wp2_with (go_at_call 72; refine (CH _ p _ _ _ _ _ hr).mono ?_; rintro e w' ⟨rfl, hr', hm'⟩)
            all_goals
              go_ret
              rw [HV.out, HD.out]
              unfold BW
              rw [← HB.out, if_neg (by omega), if_neg h1, if_neg (by omega), ← HX.out, if_pos hl2]
              exact ⟨rfl, ⟨j, hj, by simp, hr', hs.mod hm' hne, hl, hne⟩, hm'⟩
          · go_wp2_with (go_at_call 72; refine (CH _ p _ _ _ _ _ hr).mono ?_; rintro e w' ⟨rfl, hr', hm'⟩)
            all_goals
              go_ret
              rw [HV.out, HD.out]
              unfold BW
              rw [← HB.out, if_neg (by omega), if_neg h1, if_neg (by omega), ← HX.out, if_neg hl2]
              refine ⟨rfl, ⟨j + 9 + 1, by omega, by simp only [List.drop_drop], ?_, hs.mod (Mod.one _ _ _ _) hne, hl, hne⟩, Mod.one _ _ _ _⟩
              exact hr.set 1 _
        have hk8 : k ≤ 8 := by omega
        have HX := Ey hX
        clear ha hX
        by_cases hl2 : most < X
        · go_wp2_with (go_at_call 72; refine (CH _ p _ _ _ _ _ hr).mono ?_; rintro e w' ⟨rfl, hr', hm'⟩)
          all_goals
            go_ret
            rw [HV.out, HD.out]
            unfold BW
            rw [← HB.out, if_neg h9, if_neg h1, if_neg hz, ← HX.out, if_pos hl2]
            exact ⟨rfl, ⟨j, hj, by simp, hr', hs.mod hm' hne, hl, hne⟩, hm'⟩
        · go_wp2_with (go_at_call 72; refine (CH _ p _ _ _ _ _ hr).mono ?_; rintro e w' ⟨rfl, hr', hm'⟩)
          all_goals
            go_ret
            rw [HV.out, HD.out]
            unfold BW
            rw [← HB.out, if_neg h9, if_neg h1, if_neg hz, ← HX.out, if_neg hl2]
            refine ⟨rfl, ⟨j + k + 1, by omega, by simp only [List.drop_drop]; congr 1, ?_, hs.mod (Mod.one _ _ _ _) hne, hl, hne⟩, Mod.one _ _ _ _⟩
            exact hr.set 1 _
      · have hd : b.drop (j + k) = [] := List.drop_eq_nil_of_le (by omega)
        have HD := Ey hd
        clear hd ha hm
        go_wp2_with (go_at_call 72; refine (CH _ p _ _ _ _ _ hr).mono ?_; rintro e w' ⟨rfl, hr', hm'⟩)
        go_ret
        rw [HV.out, HD.out]
        exact ⟨rfl, ⟨j, hj, by simp [BW], hr', hs.mod hm' hne, hl, hne⟩, hm'⟩
  · have hE : B5 most (b.drop j) f = (0, b.drop j, f) := by unfold B5; rw [if_pos hf]
    have HE := Ey hE
    clear hE
    go_enter Tryz.func39, Tryz.ntmps39
    go_wp2
    go_ret
    rw [HE.out]
    exact ⟨rfl, ⟨j, hj, rfl, hr, hs, hl, hne⟩, Mod.refl _ _⟩
end Go.Proofs.YtnknboibmifacaaGreat
namespace Go.Proofs.YtnknboibmifacaaGreat
theorem Jw (most : Nat) : ∀ (l : List UInt8) (k a : Nat), (BW most l k a).2.2 = 0 →
    ∃ m, (BW most l k a).1 = a + m * 2 ^ (7 * k) ∧ (0 < k → m ≠ 0) ∧ k < (BW most l k a).2.1 ∧ l.take ((BW most l k a).2.1 - k) = Do m
  | [], k, a, h => by cases h
  | c :: r, k, a, h => by
    unfold BW at h ⊢
    by_cases h1 : k = 9 ∧ 1 < c.toNat
    · rw [if_pos h1] at h; cases h
    rw [if_neg h1] at h ⊢
    have hc := UInt8.toNat_lt c
    by_cases h2 : 128 ≤ c.toNat
    · rw [if_pos h2] at h ⊢
      obtain ⟨m, e, hm, hk, ht⟩ := Jw most r (k + 1) _ h
      have hm := hm (by omega)
      refine ⟨c.toNat % 128 + 128 * m, ?_, fun _ => by omega, by omega, ?_⟩
      · rw [e, show 7 * (k + 1) = 7 * k + 7 by omega, Nat.pow_add, Nat.add_mul, Nat.add_assoc]
        congr 2
        rw [show (2 : Nat) ^ 7 = 128 by decide, Nat.mul_comm (2 ^ (7 * k)) 128, ← Nat.mul_assoc, Nat.mul_comm m 128]
      · rw [FY (by omega), show (c.toNat % 128 + 128 * m) / 128 = m by omega, ← ht]
        obtain ⟨j, hj⟩ : ∃ j, (BW most r (k + 1) (a + c.toNat % 128 * 2 ^ (7 * k))).2.1 = k + 1 + (j + 1) := ⟨(BW most r (k + 1) (a + c.toNat % 128 * 2 ^ (7 * k))).2.1 - (k + 2), by omega⟩
        rw [hj, show k + 1 + (j + 1) - k = (j + 1) + 1 by omega, show k + 1 + (j + 1) - (k + 1) = j + 1 by omega, List.take_succ_cons]
        congr 1
        apply UInt8.toNat_inj.1
        rw [UInt8.toNat_ofNat']
        omega
    rw [if_neg h2] at h ⊢
    by_cases h3 : c.toNat = 0 ∧ 0 < k
    · rw [if_pos h3] at h; cases h
    rw [if_neg h3] at h ⊢
    by_cases h4 : most < a + c.toNat % 128 * 2 ^ (7 * k)
    · rw [if_pos h4] at h; cases h
    rw [if_neg h4] at h ⊢
    refine ⟨c.toNat, by rw [Nat.mod_eq_of_lt (by omega)], fun hk => by omega, by show k < k + 1; omega, ?_⟩
    show (c :: r).take (k + 1 - k) = _
    rw [show k + 1 - k = 0 + 1 by omega, List.take_succ_cons, EI (by omega)]
    simp
theorem Q1 {most : Nat} {l : List UInt8} (h : (B5 most l 0).2.2 = 0) : l = Do (B5 most l 0).1 ++ (B5 most l 0).2.1 := by
 have e : B5 most l 0 = ((BW most l 0 0).1, l.drop (BW most l 0 0).2.1, (BW most l 0 0).2.2) := by
  unfold B5; rw [if_neg (by simp)]
 rw [e] at h ⊢
 obtain ⟨m, e1, _, _, e2⟩ := Jw most l 0 0 h
 show l = Do (BW most l 0 0).1 ++ l.drop (BW most l 0 0).2.1
 rw [show (BW most l 0 0).1 = m by rw [e1]; simp, ← e2, Nat.sub_zero, List.take_append_drop]
theorem Nq {n : Nat} (h : n < 18446744073709551616) : -9223372036854775808 ≤ PZ n ∧ PZ n ≤ 9223372036854775807 := by
 unfold PZ
 split <;> omega
theorem Kg (most : Nat) (l : List UInt8) (f : Nat) : (B5 most l f).1 < 18446744073709551616 := by
  unfold B5
  split
  · show (0 : Nat) < _; decide
  · rcases Jv most l 0 0 (by omega) (by decide) with ⟨_, _, _, _, h⟩ | ⟨h, _⟩
    · exact h
    · show (BW most l 0 0).1 < _
      rw [h]; decide
theorem OL (l : List UInt8) (f : Nat) : -9223372036854775808 ≤ (OD l f).1 ∧ (OD l f).1 ≤ 9223372036854775807 := Nq (Kg _ _ _)
theorem IT (most : Nat) (l : List UInt8) (f : Nat) : (Bj most l f).1 < 256 := by
  unfold Bj
  split
  · show (0 : Nat) < _; decide
  · cases l with
    | nil => show (0 : Nat) < _; decide
    | cons b r =>
      have hb := UInt8.toNat_lt b
      simp only
      split
      · show (0 : Nat) < _; decide
      · exact hb
theorem OM {most : Int} {l : List UInt8} (h : (Du most l 0).2.2 = 0) : l = Do (Du most l 0).1.length ++ (Du most l 0).1 ++ (Du most l 0).2.1 := by
  unfold Du at h ⊢
  rw [if_neg (by simp)] at h ⊢
  by_cases h1 : (BW most.toNat l 0 0).2.2 ≠ 0
  · rw [if_pos h1] at h; exact absurd h h1
  rw [if_neg h1] at h ⊢
  by_cases h2 : l.length - (BW most.toNat l 0 0).2.1 < (BW most.toNat l 0 0).1
  · rw [if_pos h2] at h; cases h
  rw [if_neg h2]
  obtain ⟨m, e1, _, _, e2⟩ := Jw most.toNat l 0 0 (by omega)
  obtain ⟨j, hj⟩ : ∃ j, j = (BW most.toNat l 0 0).2.1 := ⟨_, rfl⟩
  obtain ⟨n, hn⟩ : ∃ n, n = (BW most.toNat l 0 0).1 := ⟨_, rfl⟩
  rw [← hj, Nat.sub_zero] at e2
  rw [← hn] at e1
  rw [← hj, ← hn] at h2 ⊢
  have hm : m = n := by rw [e1]; simp
  subst hm
  show l = Do ((l.drop j).take m).length ++ (l.drop j).take m ++ l.drop (j + m)
  rw [List.length_take, List.length_drop, Nat.min_eq_left (by omega), ← e2, List.append_assoc, ← List.drop_drop, List.take_append_drop, List.take_append_drop]
theorem Nr {most f : Nat} {l : List UInt8} (h : f ≠ 0) : (Bj most l f).2.2 = f := by unfold Bj; rw [if_pos h]
theorem ON {most f : Nat} {l : List UInt8} (h : f ≠ 0) : (B5 most l f).2.2 = f := by unfold B5; rw [if_pos h]
theorem Ns {most : Int} {f : Nat} {l : List UInt8} (h : f ≠ 0) : (Du most l f).2.2 = f := by unfold Du; rw [if_pos h]
theorem Q2 {most : Nat} {l : List UInt8} {f : Nat} (h : (B5 most l f).2.2 = 0) : f = 0 ∧ l = Do (B5 most l f).1 ++ (B5 most l f).2.1 := by
  by_cases hf : f = 0
  · subst hf; exact ⟨rfl, Q1 h⟩
  · rw [ON hf] at h; exact absurd h hf
theorem OO {most : Int} {l : List UInt8} {f : Nat} (h : (Du most l f).2.2 = 0) : f = 0 ∧ l = Do (Du most l f).1.length ++ (Du most l f).1 ++ (Du most l f).2.1 := by
  by_cases hf : f = 0
  · subst hf; exact ⟨rfl, OM h⟩
  · rw [Ns hf] at h; exact absurd h hf
end Go.Proofs.YtnknboibmifacaaGreat
namespace Go.Proofs.YtnknboibmifacaaGreat
theorem Sn (k : Nat) : (2 : Nat) ^ (7 * (k + 1)) = 128 * 2 ^ (7 * k) := by rw [Nat.mul_add, Nat.pow_add]; omega
theorem IU (n : Nat) (h : n < 256) : (UInt8.ofNat n).toNat = n := by simp [UInt8.toNat_ofNat']; omega
theorem Jx (n k a : Nat) : a + n % 128 * 2 ^ (7 * k) + n / 128 * 2 ^ (7 * (k + 1)) = a + n * 2 ^ (7 * k) := by
 rw [Sn]
 have h : n = 128 * (n / 128) + n % 128 := by omega
 have h2 : n * 2 ^ (7 * k) = (128 * (n / 128) + n % 128) * 2 ^ (7 * k) := by rw [← h]
 rw [h2, Nat.add_mul, Nat.mul_comm 128 (n / 128), Nat.mul_assoc]
 omega
theorem P3 {n k a : Nat} (hs : a + n * 2 ^ (7 * k) < 18446744073709551616) (hk : k ≤ 9) (hn : 2 ≤ n) : k < 9 := by
  rcases Nat.lt_or_ge k 9 with h | h
  · exact h
  · have : k = 9 := by omega
    subst this
    have : 2 * 2 ^ (7 * 9) ≤ n * 2 ^ (7 * 9) := Nat.mul_le_mul_right _ hn
    omega
theorem So (most : Nat) (n : Nat) : ∀ (k a : Nat) (r : List UInt8), (0 < k → 0 < n) → a + n * 2 ^ (7 * k) ≤ most → a + n * 2 ^ (7 * k) < 18446744073709551616 → k ≤ 9 →
    BW most (Do n ++ r) k a = (a + n * 2 ^ (7 * k), k + (Do n).length, 0) := by
  induction n using Nat.strongRecOn with
  | _ n ih =>
    intro k a r h0 hm hs hk
    by_cases hn : n < 128
    · rw [EI hn]
      simp only [List.cons_append, List.nil_append, List.length_cons, List.length_nil]
      unfold BW
      rw [IU n (by omega), if_neg, if_neg (by omega), if_neg (by omega), Nat.mod_eq_of_lt hn, if_neg (by omega)]
      rintro ⟨rfl, h1⟩
      have := P3 hs hk h1
      omega
    · have hk9 := P3 hs hk (show 2 ≤ n by omega)
      rw [FY (by omega)]
      simp only [List.cons_append, List.length_cons]
      unfold BW
      rw [IU _ (by omega), if_neg (by omega), if_pos (by omega), show (n % 128 + 128) % 128 = n % 128 by omega]
      rw [ih (n / 128) (by omega) (k + 1) _ r (fun _ => by omega) (by rw [Jx]; exact hm) (by rw [Jx]; exact hs) (by omega), Jx]
      congr 2
      omega
theorem LP (most n : Nat) (r : List UInt8) (hm : n ≤ most) (hs : n < 18446744073709551616) : BW most (Do n ++ r) 0 0 = (n, (Do n).length, 0) := by
 have := So most n 0 0 r (by omega) (by simpa using hm) (by simpa using hs) (by omega)
 simpa using this
theorem Q3 (most : Nat) (b : UInt8) (r : List UInt8) (h : b.toNat ≤ most) : Bj most (b :: r) 0 = (b.toNat, r, 0) := by
 simp only [Bj]
 rw [if_neg (by simp), if_neg (by omega)]
theorem Nt (most n : Nat) (r : List UInt8) (hm : n ≤ most) (hs : n < 18446744073709551616) : B5 most (Do n ++ r) 0 = (n, r, 0) := by
 unfold B5
 rw [if_neg (by simp), LP most n r hm hs]
 simp
theorem Q4 (most : Int) (t r : List UInt8) (hm : (t.length : Int) ≤ most) (hs : t.length < 18446744073709551616) : Du most (Do t.length ++ t ++ r) 0 = (t, r, 0) := by
 unfold Du
 rw [if_neg (by simp), List.append_assoc, LP most.toNat t.length (t ++ r) (by omega) hs]
 simp only [List.length_append, List.drop_append_of_le_length (Nat.le_refl _), List.drop_length, List.nil_append]
 rw [if_neg (by simp), if_neg (by omega)]
 simp [List.drop_append, Nat.add_sub_cancel_left]
theorem Nu {most f : Nat} {l : List UInt8} (h : f ≠ 0) : Bj most l f = (0, l, f) := by simp [Bj, h]
theorem OP {most f : Nat} {l : List UInt8} (h : f ≠ 0) : B5 most l f = (0, l, f) := by simp [B5, h]
def Sp (D l : List UInt8) (f : Nat) : Prop := f = 10 ∨ (f = 0 ∧ ∃ m, m < D.length ∧ l = D.take m)
theorem Sp.parts {B R l : List UInt8} {f : Nat} (h : Sp (B ++ R) l f) : f = 10 ∨ (f = 0 ∧ ∃ m, m < B.length ∧ l = B.take m) ∨ (f = 0 ∧ ∃ m, m < R.length ∧ l = B ++ R.take m) := by
  rcases h with h | ⟨h, m, hm, rfl⟩
  · exact .inl h
  · rw [List.length_append] at hm
    by_cases hb : m < B.length
    · exact .inr (.inl ⟨h, m, hb, List.take_append_of_le_length (by omega)⟩)
    · obtain ⟨j, rfl⟩ : ∃ j, m = B.length + j := ⟨m - B.length, by omega⟩
      exact .inr (.inr ⟨h, j, by omega, List.take_length_add_append ..⟩)
end Go.Proofs.YtnknboibmifacaaGreat
namespace Go.Proofs.YtnknboibmifacaaGreat
structure CmdD where
  k : Int
  s : Int
  q : Int
  a : Int
  b : Int
  hi : Int
  lo : Int
  sc : Int
  x : List UInt8
  y : List UInt8
deriving DecidableEq
def CmdD.zero : CmdD := ⟨0, 0, 0, 0, 0, 0, 0, 0, [], []⟩
def M5 (n : Int) : Prop := 0 ≤ n ∧ n ≤ 18446744073709551615
def P4 (n : Int) : Prop := -9223372036854775808 ≤ n ∧ n ≤ 9223372036854775807
structure CmdD.ok (c : CmdD) : Prop where
  k : P4 c.k
  s : M5 c.s
  q : M5 c.q
  a : M5 c.a
  b : M5 c.b
  hi : P4 c.hi
  lo : M5 c.lo
  sc : P4 c.sc
  x : c.x.length ≤ 9223372036854775807
  y : c.y.length ≤ 9223372036854775807
def fo (k : Int) : Nat := if k = 6 ∨ k = 8 then 31 else if k = 4 ∨ k = 5 then 23 else if k = 9 then 7 else if k = 7 then 115 else if k = 11 then 99 else if k = 3 ∨ k = 10 then 35 else if k = 2 then 39 else if k = 1 then 1 else 0
def H8 (h f : Nat) : Bool := (h &&& f) != 0
def Uh (n : Int) : Bool := decide (n ≥ 1) && decide (n ≤ 72057594037927935)
def Ui (b : UInt8) : Bool := decide (65 ≤ b.toNat) && decide (b.toNat ≤ 90)
def CE (l : List UInt8) : Bool := decide (l.length = 3) && l.all Ui
def Wx (n : Int) : Bool := decide (n ≥ 0) && decide (n ≤ 18)
def OQ (has right zero : Bool) : Bool := match has with | true => right | false => zero
def Wb (c : CmdD) : Bool := c.hi == 0 && (c.lo == 0 && c.sc == 0)
def Sq (c : CmdD) : Bool :=
  fo c.k != 0 && OQ (H8 (fo c.k) 1) (Uh c.s) (c.s == 0) && OQ (H8 (fo c.k) 2) (Uh c.q) (c.q == 0) && OQ (H8 (fo c.k) 4) true (c.a == 0) && OQ (H8 (fo c.k) 8) true (c.b == 0)
    && OQ (H8 (fo c.k) 16) (Wx c.sc) (Wb c) && OQ (H8 (fo c.k) 32) (CE c.x) (c.x == []) && OQ (H8 (fo c.k) 64) (CE c.y) (c.y == [])
def Jy (n : Int) : List UInt8 := Do n.toNat
theorem Sr {n : Int} (h : M5 n) : (Jy n).length ≤ 10 := GS _ (by have := h.2; omega)
def Wc (b : Bool) (r : Nat × List UInt8 × Nat) (l : List UInt8) (f : Nat) : Nat × List UInt8 × Nat := match b with | true => r | false => (0, l, f)
def Vn (l : List UInt8) (f : Nat) : (Int × Nat × Nat) × List UInt8 × Nat :=
  (((OD (Bj 18 l f).2.1 (Bj 18 l f).2.2).1, (B5 18446744073709551615 (OD (Bj 18 l f).2.1 (Bj 18 l f).2.2).2.1 (OD (Bj 18 l f).2.1 (Bj 18 l f).2.2).2.2).1, (Bj 18 l f).1), (B5 18446744073709551615 (OD (Bj 18 l f).2.1 (Bj 18 l f).2.2).2.1 (OD (Bj 18 l f).2.1 (Bj 18 l f).2.2).2.2).2)
def Vo (l : List UInt8) (f : Nat) : List UInt8 × List UInt8 × Nat :=
  ([UInt8.ofNat (Bj 90 l f).1, UInt8.ofNat (Bj 90 (Bj 90 l f).2.1 (Bj 90 l f).2.2).1, UInt8.ofNat (Bj 90 (Bj 90 (Bj 90 l f).2.1 (Bj 90 l f).2.2).2.1 (Bj 90 (Bj 90 l f).2.1 (Bj 90 l f).2.2).2.2).1], (Bj 90 (Bj 90 (Bj 90 l f).2.1 (Bj 90 l f).2.2).2.1 (Bj 90 (Bj 90 l f).2.1 (Bj 90 l f).2.2).2.2).2)
def Wd (b : Bool) (l : List UInt8) (f : Nat) : (Int × Nat × Nat) × List UInt8 × Nat := match b with | true => Vn l f | false => ((0, 0, 0), l, f)
def Vp (b : Bool) (l : List UInt8) (f : Nat) : List UInt8 × List UInt8 × Nat := match b with | true => Vo l f | false => ([], l, f)
structure Read (l : List UInt8) (c : CmdD) (l' : List UInt8) (f' : Nat) where
  mk ::
  n0 : Nat
  l0 : List UInt8
  f0 : Nat
  h0 : Bj 11 l 0 = (n0, l0, f0)
  n1 : Nat
  l1 : List UInt8
  f1 : Nat
  h1 : Wc (H8 (fo (n0 : Int)) 1) (B5 72057594037927935 l0 f0) l0 f0 = (n1, l1, f1)
  n2 : Nat
  l2 : List UInt8
  f2 : Nat
  h2 : Wc (H8 (fo (n0 : Int)) 2) (B5 72057594037927935 l1 f1) l1 f1 = (n2, l2, f2)
  n3 : Nat
  l3 : List UInt8
  f3 : Nat
  h3 : Wc (H8 (fo (n0 : Int)) 4) (B5 18446744073709551615 l2 f2) l2 f2 = (n3, l3, f3)
  n4 : Nat
  l4 : List UInt8
  f4 : Nat
  h4 : Wc (H8 (fo (n0 : Int)) 8) (B5 18446744073709551615 l3 f3) l3 f3 = (n4, l4, f4)
  hi : Int
  lo : Nat
  sc : Nat
  l5 : List UInt8
  f5 : Nat
  h5 : Wd (H8 (fo (n0 : Int)) 16) l4 f4 = ((hi, lo, sc), l5, f5)
  x : List UInt8
  l6 : List UInt8
  f6 : Nat
  h6 : Vp (H8 (fo (n0 : Int)) 32) l5 f5 = (x, l6, f6)
  y : List UInt8
  h7 : Vp (H8 (fo (n0 : Int)) 64) l6 f6 = (y, l', f')
  hc : c = ⟨(n0 : Int), (n1 : Int), (n2 : Int), (n3 : Int), (n4 : Int), hi, (lo : Int), (sc : Int), x, y⟩
structure Decoded (l : List UInt8) (c : CmdD) (e : Nat) : Prop where
  is : (l.length > 128 ∧ c = .zero ∧ e = 12) ∨ (l.length ≤ 128 ∧ ∃ c0 l' f', Nonempty (Read l c0 l' f') ∧ ((D6 l' f' ≠ 0 ∧ c = .zero ∧ e = D6 l' f') ∨ (D6 l' f' = 0 ∧ Sq c0 = false ∧ c = .zero ∧ e = 11) ∨ (D6 l' f' = 0 ∧ Sq c0 = true ∧ c = c0 ∧ e = 0)))
theorem Hr {l : List UInt8} (h : CE l = true) : ∃ a b c, l = [a, b, c] ∧ Ui a = true ∧ Ui b = true ∧ Ui c = true := by
  unfold CE at h
  simp only [Bool.and_eq_true, decide_eq_true_eq] at h
  obtain ⟨h1, h2⟩ := h
  match l, h1 with
  | [a, b, c], _ => exact ⟨a, b, c, rfl, by simpa using h2⟩
theorem Nv {most : Nat} {l : List UInt8} {f : Nat} (h : (Bj most l f).2.2 = 0) : f = 0 ∧ (Bj most l f).1 ≤ most ∧ (Bj most l f).1 < 256 ∧ l = UInt8.ofNat (Bj most l f).1 :: (Bj most l f).2.1 := by
  by_cases hf : f = 0
  · subst hf
    unfold Bj at h ⊢
    rw [if_neg (by simp)] at h ⊢
    cases l with
    | nil => cases h
    | cons b r =>
      have hb := UInt8.toNat_lt b
      simp only at h ⊢
      by_cases hm : most < b.toNat
      · rw [if_pos hm] at h; cases h
      · rw [if_neg hm]
        exact ⟨trivial, by show b.toNat ≤ most; omega, hb, by simp⟩
  · rw [Nr hf] at h; exact absurd h hf
theorem MA {b : Bool} {most : Nat} {l : List UInt8} {f n f' : Nat} {l' : List UInt8} (h : Wc b (B5 most l f) l f = (n, l', f')) : n < 18446744073709551616 := by
  cases b with
  | true =>
    have h' : B5 most l f = (n, l', f') := h
    have := Kg most l f
    rwa [h'] at this
  | false =>
    have h' : (0, l, f) = (n, l', f') := h
    simp only [Prod.mk.injEq] at h'
    rw [← h'.1]; decide
theorem Uj {b : Bool} {hi : Int} {lo sc f f' : Nat} {l l' : List UInt8} (h : Wd b l f = ((hi, lo, sc), l', f')) : P4 hi ∧ lo < 18446744073709551616 ∧ sc < 256 := by
  cases b with
  | true =>
    have h' : Vn l f = ((hi, lo, sc), l', f') := h
    unfold Vn at h'
    simp only [Prod.mk.injEq] at h'
    obtain ⟨⟨rfl, rfl, rfl⟩, _⟩ := h'
    exact ⟨OL _ _, Kg _ _ _, IT _ _ _⟩
  | false =>
    have h' : (((0 : Int), (0 : Nat), (0 : Nat)), l, f) = ((hi, lo, sc), l', f') := h
    simp only [Prod.mk.injEq] at h'
    obtain ⟨⟨rfl, rfl, rfl⟩, _⟩ := h'
    exact ⟨⟨by decide, by decide⟩, by decide, by decide⟩
theorem P5 {b : Bool} {x : List UInt8} {f f' : Nat} {l l' : List UInt8} (h : Vp b l f = (x, l', f')) : x.length ≤ 3 := by
  cases b with
  | true =>
    have h' : Vo l f = (x, l', f') := h
    unfold Vo at h'
    simp only [Prod.mk.injEq] at h'
    rw [← h'.1]; simp
  | false =>
    have h' : (([] : List UInt8), l, f) = (x, l', f') := h
    simp only [Prod.mk.injEq] at h'
    rw [← h'.1]; simp
theorem Read.ok {l l' : List UInt8} {c : CmdD} {f' : Nat} (h : Read l c l' f') : c.ok := by
 obtain ⟨n0, l0, f0, h0, n1, l1, f1, h1, n2, l2, f2, h2, n3, l3, f3, h3, n4, l4, f4, h4, hi, lo, sc, l5, f5, h5, x, l6, f6, h6, y, h7, rfl⟩ := h
 have b0 := IT 11 l 0
 rw [h0] at b0
 have b1 := MA h1
 have b2 := MA h2
 have b3 := MA h3
 have b4 := MA h4
 obtain ⟨b5, b6, b7⟩ := Uj h5
 have b8 := P5 h6
 have b9 := P5 h7
 have b0 : n0 < 256 := b0
 exact ⟨⟨by simp only; omega, by simp only; omega⟩, ⟨by simp only; omega, by simp only; omega⟩, ⟨by simp only; omega, by simp only; omega⟩, ⟨by simp only; omega, by simp only; omega⟩, ⟨by simp only; omega, by simp only; omega⟩, b5, ⟨by simp only; omega, by simp only; omega⟩, ⟨by simp only; omega, by simp only; omega⟩, by simp only; omega, by simp only; omega⟩
theorem Read.one {l l1 l2 : List UInt8} {c1 c2 : CmdD} {f1 f2 : Nat} (h : Read l c1 l1 f1) (g : Read l c2 l2 f2) : c1 = c2 ∧ l1 = l2 ∧ f1 = f2 := by
 obtain ⟨n0, l0, f0, h0, n1, l1', f1', h1, n2, l2', f2', h2, n3, l3, f3, h3, n4, l4, f4, h4, hi, lo, sc, l5, f5, h5, x, l6, f6, h6, y, h7, rfl⟩ := h
 obtain ⟨m0, k0, g0, i0, m1, k1, g1, i1, m2, k2, g2, i2, m3, k3, g3, i3, m4, k4, g4, i4, hi', lo', sc', k5, g5, i5, x', k6, g6, i6, y', i7, rfl⟩ := g
 have e0 := h0.symm.trans i0; simp only [Prod.mk.injEq] at e0; obtain ⟨rfl, rfl, rfl⟩ := e0
 have e1 := h1.symm.trans i1; simp only [Prod.mk.injEq] at e1; obtain ⟨rfl, rfl, rfl⟩ := e1
 have e2 := h2.symm.trans i2; simp only [Prod.mk.injEq] at e2; obtain ⟨rfl, rfl, rfl⟩ := e2
 have e3 := h3.symm.trans i3; simp only [Prod.mk.injEq] at e3; obtain ⟨rfl, rfl, rfl⟩ := e3
 have e4 := h4.symm.trans i4; simp only [Prod.mk.injEq] at e4; obtain ⟨rfl, rfl, rfl⟩ := e4
 have e5 := h5.symm.trans i5; simp only [Prod.mk.injEq] at e5; obtain ⟨⟨rfl, rfl, rfl⟩, rfl, rfl⟩ := e5
 have e6 := h6.symm.trans i6; simp only [Prod.mk.injEq] at e6; obtain ⟨rfl, rfl, rfl⟩ := e6
 have e7 := h7.symm.trans i7; simp only [Prod.mk.injEq] at e7; obtain ⟨rfl, rfl, rfl⟩ := e7
 exact ⟨rfl, rfl, rfl⟩
theorem Decoded.one {l : List UInt8} {c1 c2 : CmdD} {e1 e2 : Nat} (h : Decoded l c1 e1) (g : Decoded l c2 e2) : c1 = c2 ∧ e1 = e2 := by
  rcases h.is with ⟨h1, h2, h3⟩ | ⟨h1, a, b, d, ⟨hr⟩, h2⟩ <;> rcases g.is with ⟨g1, g2, g3⟩ | ⟨g1, a', b', d', ⟨gr⟩, g2⟩
  · exact ⟨h2.trans g2.symm, h3.trans g3.symm⟩
  · omega
  · omega
  · obtain ⟨rfl, rfl, rfl⟩ := hr.one gr
    rcases h2 with ⟨p, q, r⟩ | ⟨p, q, r, t⟩ | ⟨p, q, r, t⟩ <;> rcases g2 with ⟨p', q', r'⟩ | ⟨p', q', r', t'⟩ | ⟨p', q', r', t'⟩
    all_goals first
      | exact ⟨q.trans q'.symm, r.trans r'.symm⟩
      | exact ⟨r.trans r'.symm, t.trans t'.symm⟩
      | exact absurd p' p
      | exact absurd p p'
      | (rw [q] at q'; cases q')
end Go.Proofs.YtnknboibmifacaaGreat
