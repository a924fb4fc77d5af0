/-
  Math · Bits · Writer · Varint · RefLay · RefRead · OneMath · Read · CmdM
-/
import Derived.Test.YtnknboibmifacaaGreatYA06
import Derived.WalkKit
import Derived.Deep.QuietTactic
import Derived.BigQuiet
set_option linter.unusedSimpArgs false
set_option linter.unusedVariables false
set_option maxRecDepth 100000
namespace Go.Proofs.YtnknboibmifacaaGreat
def BR (most : Nat) : List UInt8 → Nat → Nat → Nat × Nat × Nat
  | [], _, _ => (0, 0, 10)
  | c :: r, k, a =>
    if k = 9 ∧ 1 < c.toNat then (0, 0, 11)
    else if 128 ≤ c.toNat then BR most r (k + 1) (a + c.toNat % 128 * 2 ^ (7 * k))
    else if c.toNat = 0 ∧ 0 < k then (0, 0, 11)
    else if most < a + c.toNat % 128 * 2 ^ (7 * k) then (0, 0, 12)
    else (a + c.toNat % 128 * 2 ^ (7 * k), k + 1, 0)
theorem Jb (most : Nat) : ∀ (l : List UInt8) (k a : Nat), k ≤ 9 → a < 2 ^ (7 * k) →
    ((BR most l k a).2.2 = 0 ∧ k < (BR most l k a).2.1 ∧ (BR most l k a).2.1 ≤ k + l.length ∧ (BR most l k a).1 ≤ most ∧ (BR most l k a).1 < 18446744073709551616) ∨
    ((BR most l k a).1 = 0 ∧ (BR most l k a).2.1 = 0 ∧ ((BR most l k a).2.2 = 10 ∨ (BR most l k a).2.2 = 11 ∨ (BR most l k a).2.2 = 12))
  | [], k, a, _, _ => .inr ⟨rfl, rfl, .inl rfl⟩
  | c :: r, k, a, hk, ha => by
    unfold BR
    by_cases h1 : k = 9 ∧ 1 < c.toNat
    · rw [if_pos h1]; exact .inr ⟨rfl, rfl, .inr (.inl rfl)⟩
    rw [if_neg h1]
    have hp : (2 : Nat) ^ (7 * (k + 1)) = 128 * 2 ^ (7 * k) := by rw [Nat.mul_add, Nat.pow_add]; omega
    have hc : c.toNat % 128 * 2 ^ (7 * k) ≤ 127 * 2 ^ (7 * k) := Nat.mul_le_mul_right _ (by omega)
    by_cases h2 : 128 ≤ c.toNat
    · rw [if_pos h2]
      have := Jb most r (k + 1) (a + c.toNat % 128 * 2 ^ (7 * k)) (by omega) (by rw [hp]; omega)
      rcases this with ⟨a1, a2, a3, a4, a5⟩ | h
      · exact .inl ⟨a1, by omega, by rw [List.length_cons]; omega, a4, a5⟩
      · exact .inr h
    rw [if_neg h2]
    by_cases h3 : c.toNat = 0 ∧ 0 < k
    · rw [if_pos h3]; exact .inr ⟨rfl, rfl, .inr (.inl rfl)⟩
    rw [if_neg h3]
    by_cases h4 : most < a + c.toNat % 128 * 2 ^ (7 * k)
    · rw [if_pos h4]; exact .inr ⟨rfl, rfl, .inr (.inr rfl)⟩
    rw [if_neg h4]
    refine .inl ⟨rfl, by show k < k + 1; omega, by rw [List.length_cons]; show k + 1 ≤ _; omega, by show a + _ ≤ _; omega, ?_⟩
    show a + c.toNat % 128 * 2 ^ (7 * k) < 18446744073709551616
    by_cases h9 : k = 9
    · subst h9
      have hc1 : c.toNat % 128 * 2 ^ (7 * 9) ≤ 1 * 2 ^ (7 * 9) := Nat.mul_le_mul_right _ (by omega)
      omega
    · have : (2 : Nat) ^ (7 * k) ≤ 2 ^ 56 := Nat.pow_le_pow_right (by omega) (by omega)
      omega
def Dy (n : Nat) : List UInt8 := if n < 128 then [UInt8.ofNat n] else UInt8.ofNat (n % 128 + 128) :: Dy (n / 128)
termination_by n
decreasing_by omega
theorem Fb {n : Nat} (h : n < 128) : Dy n = [UInt8.ofNat n] := by rw [Dy, if_pos h]
theorem G5 {n : Nat} (h : 128 ≤ n) : Dy n = UInt8.ofNat (n % 128 + 128) :: Dy (n / 128) := by rw [Dy, if_neg (by omega)]
theorem DQ : ∀ (k n : Nat), n < 128 ^ (k + 1) → (Dy n).length ≤ k + 1
  | 0, n, h => by rw [Fb (by simpa using h)]; simp
  | k + 1, n, h => by
    by_cases h1 : n < 128
    · rw [Fb h1]; simp
    · rw [G5 (by omega), List.length_cons]
      have := DQ k (n / 128) (by rw [Nat.div_lt_iff_lt_mul (by omega)]; rw [Nat.pow_succ] at h; exact h)
      omega
theorem M5 (n : Nat) (h : n < 18446744073709551616) : (Dy n).length ≤ 10 := DQ 9 n (by omega)
theorem R7 (n : Nat) : 0 < (Dy n).length := by
 rw [Dy]; split <;> simp
def A7 (most : Nat) (l : List UInt8) (f : Nat) : Nat × List UInt8 × Nat :=
  if f ≠ 0 then (0, l, f)
  else match l with
    | [] => (0, [], 10)
    | b :: r => if most < b.toNat then (0, b :: r, 12) else (b.toNat, r, 0)
def B0 (most : Nat) (l : List UInt8) (f : Nat) : Nat × List UInt8 × Nat :=
  if f ≠ 0 then (0, l, f) else ((BR most l 0 0).1, l.drop (BR most l 0 0).2.1, (BR most l 0 0).2.2)
def PK (n : Nat) : Int := if n % 2 = 0 then (n / 2 : Nat) else -((n / 2 : Nat) : Int) - 1
def Ok (l : List UInt8) (f : Nat) : Int × List UInt8 × Nat := (PK (B0 18446744073709551615 l f).1, (B0 18446744073709551615 l f).2)
def Dg (most : Int) (l : List UInt8) (f : Nat) : List UInt8 × List UInt8 × Nat :=
  if f ≠ 0 then ([], l, f)
  else if (BR most.toNat l 0 0).2.2 ≠ 0 then ([], l, (BR most.toNat l 0 0).2.2)
  else if l.length - (BR most.toNat l 0 0).2.1 < (BR most.toNat l 0 0).1 then ([], l, 10)
  else ((l.drop (BR most.toNat l 0 0).2.1).take (BR most.toNat l 0 0).1, l.drop ((BR most.toNat l 0 0).2.1 + (BR most.toNat l 0 0).1), 0)
def DT (l : List UInt8) (f : Nat) : Nat := if f = 0 ∧ 0 < l.length then 11 else f
end Go.Proofs.YtnknboibmifacaaGreat
namespace Go.Proofs.YtnknboibmifacaaGreat
open Go.RowKit
theorem Ol (b : Nat) (h : b < 256) : bits .andNot .u8 (b : Int) 128 = ((b % 128 : Nat) : Int) := by
 have : ∀ x : Fin 256, bits .andNot .u8 ((x.val : Nat) : Int) 128 = ((x.val % 128 : Nat) : Int) := by decide +kernel
 exact this ⟨b, h⟩
theorem Ls (a : Nat) (ha : a < 18446744073709551616) : (BitVec.ofInt 64 (a : Int)).toNat = a := by
 rw [BitVec.ofInt_natCast, BitVec.toNat_ofNat]; exact Nat.mod_eq_of_lt (by omega)
theorem Dz (a : Nat) (ha : a < 18446744073709551616) : IntKind.u64.wrap (a : Int) = (a : Int) := by
 simp [IntKind.wrap, IntKind.signed, IntKind.bits]
 omega
theorem Om (a b : Nat) (ha : a < 18446744073709551616) (hb : b < 18446744073709551616) : bits .or .u64 (a : Int) (b : Int) = ((a ||| b : Nat) : Int) := by
  have hx : a ||| b < 2 ^ 64 := Nat.or_lt_two_pow (by omega) (by omega)
  show IntKind.u64.wrap ((BitVec.ofInt 64 (a : Int) ||| BitVec.ofInt 64 (b : Int)).toNat : Int) = _
  rw [BitVec.toNat_or, Ls a ha, Ls b hb]
  exact Dz _ hx
theorem Kt (a b k : Nat) (hb : b < 256) (hk : k ≤ 9) (ha : a < 2 ^ (7 * k)) (h9 : ¬ (k = 9 ∧ 1 < b)) (h1 : k = 9 → b < 128) :
    bits .or .u64 (a : Int) (IntKind.u64.wrap (IntKind.u64.wrap (bits .andNot .u8 (b : Int) 128) * 2 ^ (7 * k))) = ((a + b % 128 * 2 ^ (7 * k) : Nat) : Int) := by
  have hm : b % 128 * 2 ^ (7 * k) + a < 18446744073709551616 := by
    by_cases h : k = 9
    · subst h
      have hc1 : b % 128 * 2 ^ (7 * 9) ≤ 1 * 2 ^ (7 * 9) := Nat.mul_le_mul_right _ (by omega)
      omega
    · have : (2 : Nat) ^ (7 * k) ≤ 2 ^ 56 := Nat.pow_le_pow_right (by omega) (by omega)
      have hc1 : b % 128 * 2 ^ (7 * k) ≤ 127 * 2 ^ (7 * k) := Nat.mul_le_mul_right _ (by omega)
      omega
  rw [Ol b hb, Dz _ (by omega)]
  have e : ((b % 128 : Nat) : Int) * 2 ^ (7 * k) = ((b % 128 * 2 ^ (7 * k) : Nat) : Int) := by
    rw [Int.natCast_mul, Int.natCast_pow]; rfl
  rw [e, Dz _ (by omega), Om _ _ (by omega) (by omega)]
  congr 1
  rw [Nat.or_comm, Nat.add_comm, ← Nat.shiftLeft_eq, Nat.shiftLeft_add_eq_or_of_lt ha]
theorem PL {k : IntKind} {a b : Int} (h : a = b) : Ending.returned (.int k a) = .returned (.int k b) := by rw [h]
end Go.Proofs.YtnknboibmifacaaGreat
namespace Go.Proofs.YtnknboibmifacaaGreat
open Go.RowKit
def On (w : World) (p : Nat) (v : Value) (l : List UInt8) : Prop := CY w p 130 #[v] ∧ Gg 5 w 0 v l
def JR (p : Nat) (v : Value) : Nat → Prop := fun k => k = p ∨ At v k
theorem On.mod {S : Nat → Prop} {w w' : World} {p : Nat} {v : Value} {l : List UInt8} (h : On w p v l) (hm : Mod S w w') (hn : ∀ k, JR p v k → ¬ S k) : On w' p v l :=
 ⟨h.1.mod hm (hn p (.inl rfl)), h.2.mod hm (fun k hk => hn k (.inr hk))⟩
theorem On.lt {w : World} {p : Nat} {v : Value} {l : List UInt8} (h : On w p v l) : ∀ k, JR p v k → k < w.heap.size := by
  rintro k (rfl | hk)
  · exact h.1.lt
  · exact (h.2.lt k hk).2
theorem Lj (w : World) :
  Calls Tryz.prog 75 #[] w fun e w' => ∃ p, e = .returned (.pointer (some ⟨p, 0, none⟩)) ∧ w.heap.size ≤ p ∧ On w' p (.slice none 0 0) [] ∧ Below w.heap.size w w' := by
 go_enter Tryz.func75, Tryz.ntmps75
 go_wp2
 go_ret
 exact ⟨w.heap.size, rfl, Nat.le_refl _, ⟨CY.new _ _ _, Gg.nil _ _ _⟩, (Below.refl _ _).alloc (Nat.le_refl _) _⟩
theorem Ku (w : World) (p : Nat) (v : Value) (l : List UInt8) (b : UInt8) (h : On w p v l) (hl : l.length + 1 ≤ 140737488355328) :
    Calls Tryz.prog 77 #[.pointer (some ⟨p, 0, none⟩), .int .u8 (b.toNat : Int)] w fun e w' =>
      ∃ v', e = .returned (.tuple #[]) ∧ On w' p v' (l ++ [b]) ∧ Mod (JR p v) w w' ∧ ∀ k, At v' k → At v k ∨ w.heap.size ≤ k := by
  obtain ⟨hr, ho⟩ := h
  have hp := hr.lt
  have hne := ho.ne_row hr (by decide)
  obtain ⟨A, c, rfl, hs⟩ := ho.form
  have h0 := hr.cell 0
  have f0 := hr.frozen 0
  simp at h0
  go_enter Tryz.func77, Tryz.ntmps77
  have own1 : Gg 5 (w.alloc (.cells #[.int .u8 (b.toNat : Int)] 5)) 0 (.slice A l.length c) l := ho.mod ((Mod.refl Nil w).alloc _) (fun _ _ hf => hf)
  have hr1 := hr.alloc (.cells #[.int .u8 (b.toNat : Int)] 5)
  have hsz : w.heap.size < (w.alloc (.cells #[.int .u8 (b.toNat : Int)] 5)).heap.size := by simp
  go_wp2_with (at_builtin; refine Dx (t := 48) RQ rfl (.tmp 8) (.tmp 10) rfl own1 (Nat.zero_le _) (L6 w 5 b rfl) (l.length + 1) rfl rfl rfl hl ?_; intro A1 c1 w1 ho1 hm1 ha1; have hr2 := hr1.mod hm1 hne; have k0 := hr2.cell 0; have g0 := hr2.frozen 0; simp at k0; have hne1 := ho1.ne_row hr2 (by decide))
  go_end0
  refine ⟨_, rfl, ⟨hr2.set 0 _, ho1.mod (Mod.one _ _ _ _) (fun k hk e => by subst e; exact hne1 hk)⟩, ?_, fun k hk => ?_⟩
  · refine (((Mod.refl (JR p (.slice A l.length c)) w).alloc _).trans hm1 (fun k _ hk => .inr hk)).trans (Mod.one _ _ _ _) (fun k _ hk => .inl hk)
  · rcases ha1 k hk with h | h
    · exact .inl h
    · right; simp at h; omega
theorem PM (n : Nat) (h : n < 256) : (UInt8.ofNat n).toNat = n := by simp [UInt8.toNat_ofNat']; omega
theorem U0 (b : Nat) (h : b < 256) : bits .or .u8 (b : Int) 128 = ((b % 128 + 128 : Nat) : Int) := by
 have : ∀ x : Fin 256, bits .or .u8 ((x.val : Nat) : Int) 128 = ((x.val % 128 + 128 : Nat) : Int) := by decide +kernel
 exact this ⟨b, h⟩
theorem Lk (w : World) (p : Nat) (v : Value) (l : List UInt8) (n : Nat) (h : On w p v l) (hn : n < 18446744073709551616) (hl : l.length + 10 ≤ 140737488355328) :
    Calls Tryz.prog 76 #[.pointer (some ⟨p, 0, none⟩), .int .u64 (n : Int)] w fun e w' =>
      ∃ v', e = .returned (.tuple #[]) ∧ On w' p v' (l ++ Dy n) ∧ Mod (JR p v) w w' ∧ ∀ k, At v' k → At v k ∨ w.heap.size ≤ k := by
  have hvl := M5 n hn
  obtain ⟨N, hN⟩ : ∃ N, N = Dy n := ⟨_, rfl⟩
  rw [← hN] at hvl ⊢
  have HN := EY hN
  have HNB := EY hn
  clear hN hn
  go_enter Tryz.func76, Tryz.ntmps76
  go_wp2
  go_loopw [1] (fun x wr => ∃ (y : Nat) (v1 : Value) (l1 : List UInt8), x = .int .u64 (y : Int) ∧ y < 18446744073709551616 ∧ N = l1 ++ Dy y ∧ On wr p v1 (l ++ l1) ∧ Mod (JR p v) w wr ∧ ∀ k, At v1 k → At v k ∨ w.heap.size ≤ k) (fun x _ => (intOf x).toNat)
  case atStart => exact ⟨n, v, [], rfl, HNB.out, by rw [HN.out]; rfl, by simpa using h, Mod.refl _ _, fun k hk => .inl hk⟩
  case round =>
    obtain ⟨y, v1, l1, rfl, hy, hN, hw, hm, ha⟩ := hrel
    have hpos := R7 y
    have hlN : N.length = l1.length + (Dy y).length := by rw [hN]; simp
    obtain ⟨L, hL⟩ : ∃ L, L = l ++ l1 := ⟨_, rfl⟩
    have hll : L.length + 1 ≤ 140737488355328 := by rw [hL, List.length_append]; omega
    rw [← hL] at hw
    clear hlN
    have HL := EY hL
    have HNN := EY hN
    have HY := EY hy
    clear hN hy hL hpos
    obtain ⟨hr, ho⟩ := hw
    have hp := hr.lt
    have hne := ho.ne_row hr (by decide)
    obtain ⟨A, c, rfl, hs⟩ := ho.form
    have h0 := hr.cell 0
    have f0 := hr.frozen 0
    simp only [List.getElem?_toArray, List.getElem?_cons_zero] at h0
    by_cases h128 : 128 ≤ y
    · have hx : bits .or .u8 ((y : Int) % 256) 128 = ((UInt8.ofNat (y % 128 + 128)).toNat : Int) := by
        rw [PM _ (by omega), show (y : Int) % 256 = ((y % 256 : Nat) : Int) by omega, U0 _ (by omega)]
        congr 2; omega
      obtain ⟨b, hb⟩ : ∃ b, b = UInt8.ofNat (y % 128 + 128) := ⟨_, rfl⟩
      rw [← hb] at hx
      have HB := EY hb
      have own1 : Gg 5 (wr.alloc (.cells #[.int .u8 (b.toNat : Int)] 5)) 0 (.slice A L.length c) L := ho.mod ((Mod.refl Nil wr).alloc _) (fun _ _ hf => hf)
      have hr1 := hr.alloc (.cells #[.int .u8 (b.toNat : Int)] 5)
      clear hb
      go_wp2_with (at_builtin; refine Dx (t := 48) RQ rfl (.tmp 10) (.tmp 14) rfl own1 (Nat.zero_le _) (L6 wr 5 b rfl) (L.length + 1) rfl rfl rfl hll ?_; intro A1 c1 w1 ho1 hm1 ha1; have hr2 := hr1.mod hm1 hne; have k0 := hr2.cell 0; have g0 := hr2.frozen 0; simp at k0; have hne1 := ho1.ne_row hr2 (by decide))
      have hfoot : Mod (JR p v) w (w1.setCell ⟨p, 0, none⟩ (.slice A1 (L.length + 1) c1)) := hm.trans ((((Mod.refl (JR p (.slice A L.length c)) wr).alloc _).trans hm1 (fun k _ hk => .inr hk)).trans (Mod.one _ _ _ _) (fun k _ hk => .inl hk)) (fun k hk hf => by
        rcases hf with hf | hf
        · exact .inl hf
        · rcases ha k hf with hf | hf
          · exact .inr hf
          · omega)
      have hws : w.heap.size ≤ wr.heap.size := hm.size
      go_roundw
      case rel =>
        refine ⟨y / 128, .slice A1 (L.length + 1) c1, l1 ++ [b], by go_num, by have := HY.out; omega, ?_, ⟨?_, ?_⟩, hfoot, ?_⟩
        · rw [HNN.out, G5 h128, ← HB.out]; simp
        · exact hr2.set 0 _
        · rw [← List.append_assoc, ← HL.out]
          exact ho1.mod (Mod.one _ _ _ _) (fun k hk e => by subst e; exact hne1 hk)
        · intro k hk
          rcases ha1 k hk with h | h
          · exact ha k h
          · right; simp at h; omega
      case measure => simp [intOf]; omega
    · have hyb : y < 128 := by omega
      obtain ⟨b, hb⟩ : ∃ b, b = UInt8.ofNat y := ⟨_, rfl⟩
      have hx : (y : Int) = (b.toNat : Int) := by rw [hb, PM _ (by omega)]
      have HB := EY hb
      have HX := EY hx
      have own1 : Gg 5 (wr.alloc (.cells #[.int .u8 (y : Int)] 5)) 0 (.slice A L.length c) L := ho.mod ((Mod.refl Nil wr).alloc _) (fun _ _ hf => hf)
      have hr1 := hr.alloc (.cells #[.int .u8 (y : Int)] 5)
      clear hb hx
      go_wp2_with (at_builtin; refine Dx (t := 48) RQ rfl (.tmp 24) (.tmp 27) rfl own1 (Nat.zero_le _) (L6 wr 5 b HX.out) (L.length + 1) rfl rfl rfl hll ?_; intro A1 c1 w1 ho1 hm1 ha1; have hr2 := hr1.mod hm1 hne; have k0 := hr2.cell 0; have g0 := hr2.frozen 0; simp at k0; have hne1 := ho1.ne_row hr2 (by decide))
      have hfoot : Mod (JR p v) w (w1.setCell ⟨p, 0, none⟩ (.slice A1 (L.length + 1) c1)) := hm.trans ((((Mod.refl (JR p (.slice A L.length c)) wr).alloc _).trans hm1 (fun k _ hk => .inr hk)).trans (Mod.one _ _ _ _) (fun k _ hk => .inl hk)) (fun k hk hf => by
        rcases hf with hf | hf
        · exact .inl hf
        · rcases ha k hf with hf | hf
          · exact .inr hf
          · omega)
      have hws : w.heap.size ≤ wr.heap.size := hm.size
      go_end0
      refine ⟨_, rfl, ⟨hr2.set 0 _, ?_⟩, hfoot, ?_⟩
      · rw [HNN.out, Fb hyb, ← HB.out, ← List.append_assoc, ← HL.out]
        exact ho1.mod (Mod.one _ _ _ _) (fun k hk e => by subst e; exact hne1 hk)
      · intro k hk
        rcases ha1 k hk with h | h
        · exact ha k h
        · right; simp at h; omega
theorem JS (w : World) (p : Nat) (v : Value) (l : List UInt8) (h : On w p v l) (hl : l.length ≤ 140737488355328) :
  Calls Tryz.prog 78 #[.pointer (some ⟨p, 0, none⟩)] w fun e w' => ∃ v', e = .returned v' ∧ Gg 5 w' w.heap.size v' l ∧ Below w.heap.size w w' := by
 obtain ⟨hr, ho⟩ := h
 obtain ⟨A, c, rfl, hs⟩ := ho.form
 have h0 := hr.cell 0
 have f0 := hr.frozen 0
 simp only [List.getElem?_toArray, List.getElem?_cons_zero] at h0
 go_enter Tryz.func78, Tryz.ntmps78
 go_wp2_with (go_at_call 59; refine (Ja w A c l hs hl).mono ?_; rintro e w' ⟨v', rfl, ho', hb⟩)
 go_ret
 exact ⟨_, rfl, ho', hb⟩
end Go.Proofs.YtnknboibmifacaaGreat
namespace Go.Proofs.YtnknboibmifacaaGreat
open Go.RowKit
theorem Oo {S : Nat → Prop} (w : World) (A : Option Addr) (c : Nat) (l : List UInt8) (most : Nat) (h : Bs S w A c l) (hl : l.length ≤ 140737488355328) (hm : most < 18446744073709551616) :
    Calls Tryz.prog 95 #[.slice A l.length c, .int .u64 (most : Int)] w fun e w' =>
      e = .returned (.tuple #[.int .u64 ((BR most l 0 0).1 : Int), .int .i64 ((BR most l 0 0).2.1 : Int), .int .i64 ((BR most l 0 0).2.2 : Int)]) ∧ w = w' := by
  go_enter Tryz.func95, Tryz.ntmps95
  go_wp2
  go_loop [4, 7, 8, 11] (fun n _ _ i => ∃ k a : Nat, k ≤ l.length ∧ k ≤ 9 ∧ a < 2 ^ (7 * k) ∧ BR most l 0 0 = BR most (l.drop k) k a ∧ i = .int .i64 k ∧ n = .int .u64 a) (fun _ _ _ i => l.length - (intOf i).toNat)
  case atStart => exact ⟨0, 0, Nat.zero_le _, by omega, by decide, rfl, rfl, rfl⟩
  case round =>
    obtain ⟨k, a, hk, hk9, ha, hv, rfl, rfl⟩ := hrel
    have HV := EY hv
    clear hv
    by_cases hlt : k < l.length
    · obtain ⟨g, o, rfl, hs, hc⟩ := h.2.2 (by omega)
      have hb := hc k l[k] (List.getElem?_eq_getElem hlt)
      unfold N7 at hb
      clear hc
      obtain ⟨b, hbb⟩ : ∃ b : Nat, b = (l[k]).toNat := ⟨_, rfl⟩
      have hb2 : b < 256 := by rw [hbb]; exact UInt8.toNat_lt _
      rw [← hbb] at hb
      have HB := EY hbb
      clear hbb
      have hd : l.drop k = l[k] :: l.drop (k + 1) := List.drop_eq_getElem_cons hlt
      have HD := EY hd
      clear hd
      have HA := EY ha
      have HM := EY hm
      clear hm
      by_cases h9 : k = 9 ∧ 1 < b
      · obtain ⟨rfl, hb1⟩ := h9
        clear ha
        go_wp2
        refine bodyPost_ret (results_tmp3 rfl _ _ _) rfl ⟨?_, rfl⟩
        rw [HV.out, HD.out]
        unfold BR
        rw [← HB.out, if_pos ⟨rfl, hb1⟩]
        rfl
      obtain ⟨X, hX⟩ : ∃ X : Nat, X = a + b % 128 * 2 ^ (7 * k) := ⟨_, rfl⟩
      by_cases h1 : 128 ≤ b
      · have hk8 : k ≤ 8 := by omega
        have hN := Kt a b k hb2 hk9 ha h9 (by omega)
        rw [← hX] at hN
        have HX := EY hX
        clear ha hX
        go_wp2
        go_round
        case rel =>
          refine ⟨k + 1, X, by omega, by omega, ?_, ?_, by go_num, rfl⟩
          · have hp : (2 : Nat) ^ (7 * (k + 1)) = 128 * 2 ^ (7 * k) := by rw [Nat.mul_add, Nat.pow_add]; omega
            have hc : b % 128 * 2 ^ (7 * k) ≤ 127 * 2 ^ (7 * k) := Nat.mul_le_mul_right _ (by omega)
            have := HA.out
            have := HX.out
            omega
          · rw [HV.out, HD.out]
            conv => lhs; unfold BR
            rw [← HB.out, if_neg h9, if_pos h1, ← HX.out]
        case measure => simp [intOf]; omega
      have h1' : b < 128 := by omega
      by_cases h0 : b = 0 ∧ 0 < k
      · obtain ⟨rfl, hk0⟩ := h0
        clear ha hX
        go_wp2
        all_goals
          refine bodyPost_ret (results_tmp3 rfl _ _ _) rfl ⟨?_, rfl⟩
          rw [HV.out, HD.out]
          unfold BR
          rw [← HB.out, if_neg h9, if_neg h1, if_pos ⟨rfl, hk0⟩]
          rfl
      have hN := Kt a b k hb2 hk9 ha h9 (by omega)
      rw [← hX] at hN
      have HX := EY hX
      clear ha hX
      by_cases e9 : k = 9
      · subst e9
        rw [show (2 : Int) ^ (7 * 9) = 9223372036854775808 from rfl] at hN
        have hb1 : b ≤ 1 := by omega
        by_cases hl2 : most < X
        · go_wp2
          all_goals
            refine bodyPost_ret (results_tmp3 rfl _ _ _) rfl ⟨?_, rfl⟩
            rw [HV.out, HD.out]
            unfold BR
            rw [← HB.out, if_neg (by omega), if_neg h1, if_neg (by omega), ← HX.out, if_pos hl2]
            rfl
        · go_wp2
          all_goals
            refine bodyPost_ret (results_tmp3 rfl _ _ _) rfl ⟨?_, rfl⟩
            rw [HV.out, HD.out]
            unfold BR
            rw [← HB.out, if_neg (by omega), if_neg h1, if_neg (by omega), ← HX.out, if_neg hl2]
            rfl
      have hk8 : k ≤ 8 := by omega
      by_cases hl2 : most < X
      · go_wp2
        all_goals
          refine bodyPost_ret (results_tmp3 rfl _ _ _) rfl ⟨?_, rfl⟩
          rw [HV.out, HD.out]
          unfold BR
          rw [← HB.out, if_neg h9, if_neg h1, if_neg h0, ← HX.out, if_pos hl2]
          rfl
      · go_wp2
        all_goals
          refine bodyPost_ret (results_tmp3 rfl _ _ _) rfl ⟨?_, rfl⟩
          rw [HV.out, HD.out]
          unfold BR
          rw [← HB.out, if_neg h9, if_neg h1, if_neg h0, ← HX.out, if_neg hl2]
          rfl
    · have hk' : k = l.length := by omega
      have hd : l.drop k = [] := by rw [hk']; exact List.drop_length
      have HD := EY hd
      clear hd hk' ha hm
      go_wp2
      refine bodyPost_ret (results_tmp3 rfl _ _ _) rfl ⟨?_, rfl⟩
      rw [HV.out, HD.out]
      rfl
end Go.Proofs.YtnknboibmifacaaGreat
namespace Go.Proofs.YtnknboibmifacaaGreat
open Go.RowKit
end Go.Proofs.YtnknboibmifacaaGreat
namespace Go.Proofs.YtnknboibmifacaaGreat
open Go.RowKit
def RN (S : Nat → Prop) (w : World) (p : Nat) (A : Option Addr) (c : Nat) (b l : List UInt8) (f : Nat) : Prop :=
  ∃ j, j ≤ b.length ∧ l = b.drop j ∧ CY w p 81 #[.slice A b.length c, .int .i64 (j : Int), .int .i64 (f : Int)] ∧ Bs S w A c b ∧ b.length ≤ 140737488355328 ∧ ∀ k, S k → ¬ JB p k
theorem RN.mod {S T : Nat → Prop} {w w' : World} {p c f : Nat} {A : Option Addr} {b l : List UInt8} (h : RN S w p A c b l f) (hm : Mod T w w') (hp : ¬ T p) (hn : ∀ k, S k → ¬ T k) : RN S w' p A c b l f := by
 obtain ⟨j, hj, hl, hr, hs, hb, hne⟩ := h
 exact ⟨j, hj, hl, hr.mod hm hp, hs.mod hm hn, hb, hne⟩
theorem RN.lt {S : Nat → Prop} {w : World} {p c f : Nat} {A : Option Addr} {b l : List UInt8} (h : RN S w p A c b l f) : p < w.heap.size := by
 obtain ⟨_, _, _, hr, _⟩ := h
 exact hr.lt
theorem Cx (w : World) (p : Nat) (x : Value) (j f a q : Int) (h : CY w p 81 #[x, .int .i64 j, .int .i64 f]) :
  Calls Tryz.prog 72 #[.pointer (some ⟨p, 0, none⟩), .int .i64 a, .int .i64 q] w fun e w' =>
   e = .returned (.int .u64 0) ∧ CY w' p 81 #[x, .int .i64 a, .int .i64 q] ∧ Mod (JB p) w w' := by
 have h0 := h.cell 0
 have h1 := h.cell 1
 have h2 := h.cell 2
 have f1 := h.frozen 1
 have f2 := h.frozen 2
 simp at h0 h1 h2
 go_enter Tryz.func72, Tryz.ntmps72
 go_wp2
 go_ret
 exact ⟨rfl, (h.set 2 _).set 1 _, (Mod.one _ _ _ _).same (Mod.one _ _ _ _)⟩
theorem M6 {S : Nat → Prop} (w : World) (p c f most : Nat) (A : Option Addr) (b l : List UInt8) (h : RN S w p A c b l f) (hm : most < 256) :
    Calls Tryz.prog 40 #[.pointer (some ⟨p, 0, none⟩), .int .u8 (most : Int)] w fun e w' =>
      e = .returned (.int .u8 ((A7 most l f).1 : Int)) ∧ RN S w' p A c b (A7 most l f).2.1 (A7 most l f).2.2 ∧ Mod (JB p) w w' := by
  obtain ⟨j, hj, rfl, hr, hs, hl, hne⟩ := h
  have h0 := hr.cell 0
  have h1 := hr.cell 1
  have h2 := hr.cell 2
  have f1 := hr.frozen 1
  simp at h0 h1 h2
  by_cases hf : f = 0
  · subst hf
    by_cases hlt : j < b.length
    · obtain ⟨g, o, rfl, hg, hc⟩ := hs.2.2 (by omega)
      have hb := hc j b[j] (List.getElem?_eq_getElem hlt)
      unfold N7 at hb
      clear hc
      have hd : b.drop j = b[j] :: b.drop (j + 1) := List.drop_eq_getElem_cons hlt
      obtain ⟨n, hn⟩ : ∃ n : Nat, n = (b[j]).toNat := ⟨_, rfl⟩
      have hn2 : n < 256 := by rw [hn]; exact UInt8.toNat_lt _
      rw [← hn] at hb
      by_cases hmb : most < n
      · have hE : A7 most (b.drop j) 0 = (0, b.drop j, 12) := by rw [hd]; simp only [A7, ← hn]; rw [if_neg (by simp), if_pos hmb]
        have HE := EY hE
        clear hE hd hn
        go_enter Tryz.func40, Tryz.ntmps40
        go_wp2_with fail
        go_quiet (fail)
        go_wp2_with fail
        go_quiet (fail)
        go_wp2_with (go_at_call 72; refine (Cx _ p _ _ _ _ _ (hr.mod ((Mod.refl Nil w).drewN _) (fun hf => hf))).mono ?_; rintro e w' ⟨rfl, hr', hm'⟩)
        go_ret
        rw [HE.out]
        have hm1 := ((Mod.refl (JB p) w).drewN _).same hm'
        exact ⟨rfl, ⟨j, hj, rfl, hr', hs.mod hm1 hne, hl, hne⟩, hm1⟩
      · have hE : A7 most (b.drop j) 0 = (n, b.drop (j + 1), 0) := by rw [hd]; simp only [A7, ← hn]; rw [if_neg (by simp), if_neg hmb]
        have HE := EY hE
        have hmN : ∀ N, Mod (JB p) w ((w.drewN N).setCell ⟨p, 1, none⟩ (.int .i64 ((j : Int) + 1))) := fun N => ((Mod.refl (JB p) w).drewN N).same (Mod.one _ _ _ _)
        have hrN : ∀ N, CY ((w.drewN N).setCell ⟨p, 1, none⟩ (.int .i64 ((j : Int) + 1))) p 81 #[.slice (some ⟨g, o, none⟩) b.length c, .int .i64 ((j : Int) + 1), .int .i64 ((0 : Nat) : Int)] :=
          fun N => (hr.mod ((Mod.refl Nil w).drewN N) (fun hf => hf)).set 1 (.int .i64 ((j : Int) + 1))
        have k0 : ∀ N, ((w.drewN N).setCell ⟨p, 1, none⟩ (.int .i64 ((j : Int) + 1))).cell? ⟨p, 0, none⟩ = some (.slice (some ⟨g, o, none⟩) b.length c) := fun N => by simpa using (hrN N).cell 0
        have k1 : ∀ N, ((w.drewN N).setCell ⟨p, 1, none⟩ (.int .i64 ((j : Int) + 1))).cell? ⟨p, 1, none⟩ = some (.int .i64 ((j : Int) + 1)) := fun N => by simpa using (hrN N).cell 1
        have kb : ∀ N, ((w.drewN N).setCell ⟨p, 1, none⟩ (.int .i64 ((j : Int) + 1))).cell? ⟨g, o + j, none⟩ = some (.int .u8 (n : Int)) := fun N => by
          obtain ⟨g2, o2, he, _, hc2⟩ := (hs.mod (hmN N) hne).2.2 (by omega)
          cases he
          have := hc2 j b[j] (List.getElem?_eq_getElem hlt)
          unfold N7 at this
          rw [this, hn]
        clear hE hd hn
        go_enter Tryz.func40, Tryz.ntmps40
        go_wp2_with fail
        go_quiet (fail)
        go_wp2_with fail
        go_quiet (fail)
        go_wp2_with fail
        go_quiet (fail)
        go_wp2_with fail
        go_ret
        rw [HE.out]
        exact ⟨rfl, ⟨j + 1, by omega, rfl, (hrN _).mod ((Mod.refl Nil _).drewN _) (fun hf => hf), hs.mod ((hmN _).drewN _) hne, hl, hne⟩, (hmN _).drewN _⟩
    · have hE : A7 most (b.drop j) 0 = (0, b.drop j, 10) := by rw [List.drop_eq_nil_of_le (by omega)]; rfl
      have HE := EY hE
      clear hE
      go_enter Tryz.func40, Tryz.ntmps40
      go_wp2_with fail
      go_quiet (fail)
      go_wp2_with (go_at_call 72; refine (Cx _ p _ _ _ _ _ (hr.mod ((Mod.refl Nil w).drewN _) (fun hf => hf))).mono ?_; rintro e w' ⟨rfl, hr', hm'⟩)
      go_ret
      rw [HE.out]
      have hm1 := ((Mod.refl (JB p) w).drewN _).same hm'
      exact ⟨rfl, ⟨j, hj, rfl, hr', hs.mod hm1 hne, hl, hne⟩, hm1⟩
  · have hE : A7 most (b.drop j) f = (0, b.drop j, f) := by unfold A7; rw [if_pos hf]
    have HE := EY hE
    clear hE
    go_enter Tryz.func40, Tryz.ntmps40
    go_wp2
    go_ret
    rw [HE.out]
    exact ⟨rfl, ⟨j, hj, rfl, hr, hs, hl, hne⟩, Mod.refl _ _⟩
theorem Oq {S : Nat → Prop} (w : World) (p c f : Nat) (A : Option Addr) (b l : List UInt8) (h : RN S w p A c b l f) :
    Calls Tryz.prog 41 #[.pointer (some ⟨p, 0, none⟩)] w fun e w' => e = .returned (.int .i64 (DT l f : Int)) ∧ Below w.heap.size w w' := by
  obtain ⟨j, hj, rfl, hr, hs, hl, hne⟩ := h
  have h0 := hr.cell 0
  have h1 := hr.cell 1
  have h2 := hr.cell 2
  simp at h0 h1 h2
  by_cases hf : f = 0
  · subst hf
    by_cases hlt : j < b.length
    · have hE : DT (b.drop j) 0 = 11 := by unfold DT; rw [if_pos ⟨rfl, by rw [List.length_drop]; omega⟩]
      rw [hE]
      clear hE
      go_enter Tryz.func41, Tryz.ntmps41
      go_wp2_with fail
      go_quiet (fail)
      go_wp2_with fail
      go_ret
      exact ⟨rfl, ((Up.refl w).drewN _).below⟩
    · have hE : DT (b.drop j) 0 = 0 := by unfold DT; rw [if_neg (by rw [List.length_drop]; omega)]
      rw [hE]
      clear hE
      go_enter Tryz.func41, Tryz.ntmps41
      go_wp2_with fail
      go_quiet (fail)
      go_wp2_with fail
      go_ret
      exact ⟨rfl, ((Up.refl w).drewN _).below⟩
  · have hE : DT (b.drop j) f = f := by unfold DT; rw [if_neg (by omega)]
    rw [hE]
    clear hE
    go_enter Tryz.func41, Tryz.ntmps41
    go_wp2_with fail
    go_quiet (fail)
    go_wp2_with fail
    go_ret
    exact ⟨rfl, ((Up.refl w).drewN _).below⟩
theorem QI (a b k : Nat) (hk : k ≤ 9) (ha : a < 2 ^ (7 * k)) (h9 : ¬ (k = 9 ∧ 1 < b)) :
    IntKind.u64.wrap ((a : Int) + IntKind.u64.wrap ((b : Int) % 128 * 2 ^ (7 * k))) = ((a + b % 128 * 2 ^ (7 * k) : Nat) : Int) := by
  have hm : b % 128 * 2 ^ (7 * k) + a < 18446744073709551616 := by
    by_cases h : k = 9
    · subst h
      have hc1 : b % 128 * 2 ^ (7 * 9) ≤ 1 * 2 ^ (7 * 9) := Nat.mul_le_mul_right _ (by omega)
      omega
    · have : (2 : Nat) ^ (7 * k) ≤ 2 ^ 56 := Nat.pow_le_pow_right (by omega) (by omega)
      have hc1 : b % 128 * 2 ^ (7 * k) ≤ 127 * 2 ^ (7 * k) := Nat.mul_le_mul_right _ (by omega)
      omega
  have e : ((b : Int) % 128 * 2 ^ (7 * k)) = ((b % 128 * 2 ^ (7 * k) : Nat) : Int) := by push_cast; rfl
  rw [e, Dz _ (by omega), ← Int.natCast_add, Dz _ (by omega)]
theorem Or (a b : Nat) (ha : a < 2 ^ (7 * 9)) (hb : b ≤ 1) :
  IntKind.u64.wrap ((a : Int) + (b : Int) % 128 * 9223372036854775808) = ((a + b % 128 * 2 ^ (7 * 9) : Nat) : Int) := by
 have hm : b % 128 * 9223372036854775808 + a < 18446744073709551616 := by omega
 have e : ((a : Int) + (b : Int) % 128 * 9223372036854775808) = ((a + b % 128 * 2 ^ (7 * 9) : Nat) : Int) := by omega
 rw [e, Dz _ (by omega)]
set_option maxHeartbeats 4000000 in
theorem M7 {S : Nat → Prop} (w : World) (p c f most : Nat) (A : Option Addr) (b l : List UInt8) (h : RN S w p A c b l f) (hm : most < 18446744073709551616) :
    Calls Tryz.prog 39 #[.pointer (some ⟨p, 0, none⟩), .int .u64 (most : Int)] w fun e w' =>
      e = .returned (.int .u64 ((B0 most l f).1 : Int)) ∧ RN S w' p A c b (B0 most l f).2.1 (B0 most l f).2.2 ∧ Mod (JB p) w w' := by
  obtain ⟨j, hj, rfl, hr, hs, hl, hne⟩ := h
  have h0 := hr.cell 0
  have h1 := hr.cell 1
  have h2 := hr.cell 2
  have f1 := hr.frozen 1
  simp at h0 h1 h2
  by_cases hf : f = 0
  · subst hf
    have hE : B0 most (b.drop j) 0 = ((BR most (b.drop j) 0 0).1, (b.drop j).drop (BR most (b.drop j) 0 0).2.1, (BR most (b.drop j) 0 0).2.2) := by unfold B0; rw [if_neg (by simp)]
    rw [hE]
    clear hE
    go_enter Tryz.func39, Tryz.ntmps39
    go_wp2_with fail
    go_loop [6, 7, 8] (fun n i _ => ∃ k a : Nat, j + k ≤ b.length ∧ k ≤ 9 ∧ a < 2 ^ (7 * k) ∧ BR most (b.drop j) 0 0 = BR most (b.drop (j + k)) k a ∧ i = .int .i64 k ∧ n = .int .u64 a) (fun _ i _ => b.length - (intOf i).toNat)
    case atStart => exact ⟨0, 0, by omega, by omega, by decide, rfl, rfl, rfl⟩
    case round =>
      obtain ⟨k, a, hk, hk9, ha, hv, rfl, rfl⟩ := hrel
      have HV := EY hv
      clear hv
      by_cases hlt : j + k < b.length
      · obtain ⟨g, o, rfl, hg, hc⟩ := hs.2.2 (by omega)
        have hb := hc (j + k) b[j + k] (List.getElem?_eq_getElem hlt)
        unfold N7 at hb
        clear hc
        obtain ⟨x, hx⟩ : ∃ x : Nat, x = (b[j + k]).toNat := ⟨_, rfl⟩
        have hx2 : x < 256 := by rw [hx]; exact UInt8.toNat_lt _
        rw [← hx] at hb
        have HB := EY hx
        clear hx
        have hd : b.drop (j + k) = b[j + k] :: b.drop (j + (k + 1)) := List.drop_eq_getElem_cons hlt
        have HD := EY hd
        clear hd
        have HA := EY ha
        have HM := EY hm
        clear hm
        by_cases h9 : k = 9 ∧ 1 < x
        · obtain ⟨rfl, hb1⟩ := h9
          clear ha
          go_wp2_with (go_at_call 72; refine (Cx _ p _ _ _ _ _ hr).mono ?_; rintro e w' ⟨rfl, hr', hm'⟩)
          go_ret
          rw [HV.out, HD.out]
          unfold BR
          rw [← HB.out, if_pos ⟨rfl, hb1⟩]
          exact ⟨rfl, ⟨j, hj, by simp, hr', hs.mod hm' hne, hl, hne⟩, hm'⟩
        obtain ⟨X, hX⟩ : ∃ X : Nat, X = a + x % 128 * 2 ^ (7 * k) := ⟨_, rfl⟩
        have hN := QI a x k hk9 ha h9
        rw [← hX] at hN
        by_cases h1 : 128 ≤ x
        · have hk8 : k ≤ 8 := by omega
          have HX := EY hX
          clear ha hX
          go_wp2_with fail
          go_round
          case rel =>
            refine ⟨k + 1, X, by omega, by omega, ?_, ?_, by go_num, rfl⟩
            · have hp : (2 : Nat) ^ (7 * (k + 1)) = 128 * 2 ^ (7 * k) := by rw [Nat.mul_add, Nat.pow_add]; omega
              have hc : x % 128 * 2 ^ (7 * k) ≤ 127 * 2 ^ (7 * k) := Nat.mul_le_mul_right _ (by omega)
              have := HA.out
              have := HX.out
              omega
            · rw [HV.out, HD.out]
              conv => lhs; unfold BR
              rw [← HB.out, if_neg h9, if_pos h1, ← HX.out]
          case measure => simp [intOf]; omega
        have h1' : x < 128 := by omega
        by_cases hz : x = 0 ∧ 0 < k
        · obtain ⟨rfl, hk0⟩ := hz
          clear ha hX
          go_wp2_with (go_at_call 72; refine (Cx _ p _ _ _ _ _ hr).mono ?_; rintro e w' ⟨rfl, hr', hm'⟩)
          all_goals
            go_ret
            rw [HV.out, HD.out]
            unfold BR
            rw [← HB.out, if_neg h9, if_neg h1, if_pos ⟨rfl, hk0⟩]
            exact ⟨rfl, ⟨j, hj, by simp, hr', hs.mod hm' hne, hl, hne⟩, hm'⟩
        by_cases e9 : k = 9
        · subst e9
          have hb1 : x ≤ 1 := by omega
          have hN9 := Or a x ha hb1
          rw [← hX] at hN9
          have HX := EY hX
          clear ha hX hN
          by_cases hl2 : most < X
          · go_wp2_with (go_at_call 72; refine (Cx _ p _ _ _ _ _ hr).mono ?_; rintro e w' ⟨rfl, hr', hm'⟩)
            all_goals
              go_ret
              rw [HV.out, HD.out]
              unfold BR
              rw [← HB.out, if_neg (by omega), if_neg h1, if_neg (by omega), ← HX.out, if_pos hl2]
              exact ⟨rfl, ⟨j, hj, by simp, hr', hs.mod hm' hne, hl, hne⟩, hm'⟩
          · go_wp2_with (go_at_call 72; refine (Cx _ p _ _ _ _ _ hr).mono ?_; rintro e w' ⟨rfl, hr', hm'⟩)
            all_goals
              go_ret
              rw [HV.out, HD.out]
              unfold BR
              rw [← HB.out, if_neg (by omega), if_neg h1, if_neg (by omega), ← HX.out, if_neg hl2]
              refine ⟨rfl, ⟨j + 9 + 1, by omega, by simp only [List.drop_drop], ?_, hs.mod (Mod.one _ _ _ _) hne, hl, hne⟩, Mod.one _ _ _ _⟩
              exact hr.set 1 _
        have hk8 : k ≤ 8 := by omega
        have HX := EY hX
        clear ha hX
        by_cases hl2 : most < X
        · go_wp2_with (go_at_call 72; refine (Cx _ p _ _ _ _ _ hr).mono ?_; rintro e w' ⟨rfl, hr', hm'⟩)
          all_goals
            go_ret
            rw [HV.out, HD.out]
            unfold BR
            rw [← HB.out, if_neg h9, if_neg h1, if_neg hz, ← HX.out, if_pos hl2]
            exact ⟨rfl, ⟨j, hj, by simp, hr', hs.mod hm' hne, hl, hne⟩, hm'⟩
        · go_wp2_with (go_at_call 72; refine (Cx _ p _ _ _ _ _ hr).mono ?_; rintro e w' ⟨rfl, hr', hm'⟩)
          all_goals
            go_ret
            rw [HV.out, HD.out]
            unfold BR
            rw [← HB.out, if_neg h9, if_neg h1, if_neg hz, ← HX.out, if_neg hl2]
            refine ⟨rfl, ⟨j + k + 1, by omega, by simp only [List.drop_drop]; congr 1, ?_, hs.mod (Mod.one _ _ _ _) hne, hl, hne⟩, Mod.one _ _ _ _⟩
            exact hr.set 1 _
      · have hd : b.drop (j + k) = [] := List.drop_eq_nil_of_le (by omega)
        have HD := EY hd
        clear hd ha hm
        go_wp2_with (go_at_call 72; refine (Cx _ p _ _ _ _ _ hr).mono ?_; rintro e w' ⟨rfl, hr', hm'⟩)
        go_ret
        rw [HV.out, HD.out]
        exact ⟨rfl, ⟨j, hj, by simp [BR], hr', hs.mod hm' hne, hl, hne⟩, hm'⟩
  · have hE : B0 most (b.drop j) f = (0, b.drop j, f) := by unfold B0; rw [if_pos hf]
    have HE := EY hE
    clear hE
    go_enter Tryz.func39, Tryz.ntmps39
    go_wp2
    go_ret
    rw [HE.out]
    exact ⟨rfl, ⟨j, hj, rfl, hr, hs, hl, hne⟩, Mod.refl _ _⟩
end Go.Proofs.YtnknboibmifacaaGreat
namespace Go.Proofs.YtnknboibmifacaaGreat
theorem Jc (most : Nat) : ∀ (l : List UInt8) (k a : Nat), (BR most l k a).2.2 = 0 →
    ∃ m, (BR most l k a).1 = a + m * 2 ^ (7 * k) ∧ (0 < k → m ≠ 0) ∧ k < (BR most l k a).2.1 ∧ l.take ((BR most l k a).2.1 - k) = Dy m
  | [], k, a, h => by cases h
  | c :: r, k, a, h => by
    unfold BR at h ⊢
    by_cases h1 : k = 9 ∧ 1 < c.toNat
    · rw [if_pos h1] at h; cases h
    rw [if_neg h1] at h ⊢
    have hc := UInt8.toNat_lt c
    by_cases h2 : 128 ≤ c.toNat
    · rw [if_pos h2] at h ⊢
      obtain ⟨m, e, hm, hk, ht⟩ := Jc most r (k + 1) _ h
      have hm := hm (by omega)
      refine ⟨c.toNat % 128 + 128 * m, ?_, fun _ => by omega, by omega, ?_⟩
      · rw [e, show 7 * (k + 1) = 7 * k + 7 by omega, Nat.pow_add, Nat.add_mul, Nat.add_assoc]
        congr 2
        rw [show (2 : Nat) ^ 7 = 128 by decide, Nat.mul_comm (2 ^ (7 * k)) 128, ← Nat.mul_assoc, Nat.mul_comm m 128]
      · rw [G5 (by omega), show (c.toNat % 128 + 128 * m) / 128 = m by omega, ← ht]
        obtain ⟨j, hj⟩ : ∃ j, (BR most r (k + 1) (a + c.toNat % 128 * 2 ^ (7 * k))).2.1 = k + 1 + (j + 1) := ⟨(BR most r (k + 1) (a + c.toNat % 128 * 2 ^ (7 * k))).2.1 - (k + 2), by omega⟩
        rw [hj, show k + 1 + (j + 1) - k = (j + 1) + 1 by omega, show k + 1 + (j + 1) - (k + 1) = j + 1 by omega, List.take_succ_cons]
        congr 1
        apply UInt8.toNat_inj.1
        rw [UInt8.toNat_ofNat']
        omega
    rw [if_neg h2] at h ⊢
    by_cases h3 : c.toNat = 0 ∧ 0 < k
    · rw [if_pos h3] at h; cases h
    rw [if_neg h3] at h ⊢
    by_cases h4 : most < a + c.toNat % 128 * 2 ^ (7 * k)
    · rw [if_pos h4] at h; cases h
    rw [if_neg h4] at h ⊢
    refine ⟨c.toNat, by rw [Nat.mod_eq_of_lt (by omega)], fun hk => by omega, by show k < k + 1; omega, ?_⟩
    show (c :: r).take (k + 1 - k) = _
    rw [show k + 1 - k = 0 + 1 by omega, List.take_succ_cons, Fb (by omega)]
    simp
theorem QJ {most : Nat} {l : List UInt8} (h : (B0 most l 0).2.2 = 0) : l = Dy (B0 most l 0).1 ++ (B0 most l 0).2.1 := by
 have e : B0 most l 0 = ((BR most l 0 0).1, l.drop (BR most l 0 0).2.1, (BR most l 0 0).2.2) := by
  unfold B0; rw [if_neg (by simp)]
 rw [e] at h ⊢
 obtain ⟨m, e1, _, _, e2⟩ := Jc most l 0 0 h
 show l = Dy (BR most l 0 0).1 ++ l.drop (BR most l 0 0).2.1
 rw [show (BR most l 0 0).1 = m by rw [e1]; simp, ← e2, Nat.sub_zero, List.take_append_drop]
theorem M8 {n : Nat} (h : n < 18446744073709551616) : -9223372036854775808 ≤ PK n ∧ PK n ≤ 9223372036854775807 := by
 unfold PK
 split <;> omega
theorem JV (most : Nat) (l : List UInt8) (f : Nat) : (B0 most l f).1 < 18446744073709551616 := by
  unfold B0
  split
  · show (0 : Nat) < _; decide
  · rcases Jb most l 0 0 (by omega) (by decide) with ⟨_, _, _, _, h⟩ | ⟨h, _⟩
    · exact h
    · show (BR most l 0 0).1 < _
      rw [h]; decide
theorem Ot (l : List UInt8) (f : Nat) : -9223372036854775808 ≤ (Ok l f).1 ∧ (Ok l f).1 ≤ 9223372036854775807 := M8 (JV _ _ _)
theorem Iy (most : Nat) (l : List UInt8) (f : Nat) : (A7 most l f).1 < 256 := by
  unfold A7
  split
  · show (0 : Nat) < _; decide
  · cases l with
    | nil => show (0 : Nat) < _; decide
    | cons b r =>
      have hb := UInt8.toNat_lt b
      simp only
      split
      · show (0 : Nat) < _; decide
      · exact hb
theorem Ou {most : Int} {l : List UInt8} (h : (Dg most l 0).2.2 = 0) : l = Dy (Dg most l 0).1.length ++ (Dg most l 0).1 ++ (Dg most l 0).2.1 := by
  unfold Dg at h ⊢
  rw [if_neg (by simp)] at h ⊢
  by_cases h1 : (BR most.toNat l 0 0).2.2 ≠ 0
  · rw [if_pos h1] at h; exact absurd h h1
  rw [if_neg h1] at h ⊢
  by_cases h2 : l.length - (BR most.toNat l 0 0).2.1 < (BR most.toNat l 0 0).1
  · rw [if_pos h2] at h; cases h
  rw [if_neg h2]
  obtain ⟨m, e1, _, _, e2⟩ := Jc most.toNat l 0 0 (by omega)
  obtain ⟨j, hj⟩ : ∃ j, j = (BR most.toNat l 0 0).2.1 := ⟨_, rfl⟩
  obtain ⟨n, hn⟩ : ∃ n, n = (BR most.toNat l 0 0).1 := ⟨_, rfl⟩
  rw [← hj, Nat.sub_zero] at e2
  rw [← hn] at e1
  rw [← hj, ← hn] at h2 ⊢
  have hm : m = n := by rw [e1]; simp
  subst hm
  show l = Dy ((l.drop j).take m).length ++ (l.drop j).take m ++ l.drop (j + m)
  rw [List.length_take, List.length_drop, Nat.min_eq_left (by omega), ← e2, List.append_assoc, ← List.drop_drop, List.take_append_drop, List.take_append_drop]
theorem M9 {most f : Nat} {l : List UInt8} (h : f ≠ 0) : (A7 most l f).2.2 = f := by unfold A7; rw [if_pos h]
theorem Ov {most f : Nat} {l : List UInt8} (h : f ≠ 0) : (B0 most l f).2.2 = f := by unfold B0; rw [if_pos h]
theorem Na {most : Int} {f : Nat} {l : List UInt8} (h : f ≠ 0) : (Dg most l f).2.2 = f := by unfold Dg; rw [if_pos h]
theorem QK {most : Nat} {l : List UInt8} {f : Nat} (h : (B0 most l f).2.2 = 0) : f = 0 ∧ l = Dy (B0 most l f).1 ++ (B0 most l f).2.1 := by
  by_cases hf : f = 0
  · subst hf; exact ⟨rfl, QJ h⟩
  · rw [Ov hf] at h; exact absurd h hf
theorem Ow {most : Int} {l : List UInt8} {f : Nat} (h : (Dg most l f).2.2 = 0) : f = 0 ∧ l = Dy (Dg most l f).1.length ++ (Dg most l f).1 ++ (Dg most l f).2.1 := by
  by_cases hf : f = 0
  · subst hf; exact ⟨rfl, Ou h⟩
  · rw [Na hf] at h; exact absurd h hf
end Go.Proofs.YtnknboibmifacaaGreat
namespace Go.Proofs.YtnknboibmifacaaGreat
theorem R8 (k : Nat) : (2 : Nat) ^ (7 * (k + 1)) = 128 * 2 ^ (7 * k) := by rw [Nat.mul_add, Nat.pow_add]; omega
theorem Iz (n : Nat) (h : n < 256) : (UInt8.ofNat n).toNat = n := by simp [UInt8.toNat_ofNat']; omega
theorem Jd (n k a : Nat) : a + n % 128 * 2 ^ (7 * k) + n / 128 * 2 ^ (7 * (k + 1)) = a + n * 2 ^ (7 * k) := by
 rw [R8]
 have h : n = 128 * (n / 128) + n % 128 := by omega
 have h2 : n * 2 ^ (7 * k) = (128 * (n / 128) + n % 128) * 2 ^ (7 * k) := by rw [← h]
 rw [h2, Nat.add_mul, Nat.mul_comm 128 (n / 128), Nat.mul_assoc]
 omega
theorem PN {n k a : Nat} (hs : a + n * 2 ^ (7 * k) < 18446744073709551616) (hk : k ≤ 9) (hn : 2 ≤ n) : k < 9 := by
  rcases Nat.lt_or_ge k 9 with h | h
  · exact h
  · have : k = 9 := by omega
    subst this
    have : 2 * 2 ^ (7 * 9) ≤ n * 2 ^ (7 * 9) := Nat.mul_le_mul_right _ hn
    omega
theorem R9 (most : Nat) (n : Nat) : ∀ (k a : Nat) (r : List UInt8), (0 < k → 0 < n) → a + n * 2 ^ (7 * k) ≤ most → a + n * 2 ^ (7 * k) < 18446744073709551616 → k ≤ 9 →
    BR most (Dy n ++ r) k a = (a + n * 2 ^ (7 * k), k + (Dy n).length, 0) := by
  induction n using Nat.strongRecOn with
  | _ n ih =>
    intro k a r h0 hm hs hk
    by_cases hn : n < 128
    · rw [Fb hn]
      simp only [List.cons_append, List.nil_append, List.length_cons, List.length_nil]
      unfold BR
      rw [Iz n (by omega), if_neg, if_neg (by omega), if_neg (by omega), Nat.mod_eq_of_lt hn, if_neg (by omega)]
      rintro ⟨rfl, h1⟩
      have := PN hs hk h1
      omega
    · have hk9 := PN hs hk (show 2 ≤ n by omega)
      rw [G5 (by omega)]
      simp only [List.cons_append, List.length_cons]
      unfold BR
      rw [Iz _ (by omega), if_neg (by omega), if_pos (by omega), show (n % 128 + 128) % 128 = n % 128 by omega]
      rw [ih (n / 128) (by omega) (k + 1) _ r (fun _ => by omega) (by rw [Jd]; exact hm) (by rw [Jd]; exact hs) (by omega), Jd]
      congr 2
      omega
theorem Lt (most n : Nat) (r : List UInt8) (hm : n ≤ most) (hs : n < 18446744073709551616) : BR most (Dy n ++ r) 0 0 = (n, (Dy n).length, 0) := by
 have := R9 most n 0 0 r (by omega) (by simpa using hm) (by simpa using hs) (by omega)
 simpa using this
theorem QL (most : Nat) (b : UInt8) (r : List UInt8) (h : b.toNat ≤ most) : A7 most (b :: r) 0 = (b.toNat, r, 0) := by
 simp only [A7]
 rw [if_neg (by simp), if_neg (by omega)]
theorem Nb (most n : Nat) (r : List UInt8) (hm : n ≤ most) (hs : n < 18446744073709551616) : B0 most (Dy n ++ r) 0 = (n, r, 0) := by
 unfold B0
 rw [if_neg (by simp), Lt most n r hm hs]
 simp
theorem QM (most : Int) (t r : List UInt8) (hm : (t.length : Int) ≤ most) (hs : t.length < 18446744073709551616) : Dg most (Dy t.length ++ t ++ r) 0 = (t, r, 0) := by
 unfold Dg
 rw [if_neg (by simp), List.append_assoc, Lt most.toNat t.length (t ++ r) (by omega) hs]
 simp only [List.length_append, List.drop_append_of_le_length (Nat.le_refl _), List.drop_length, List.nil_append]
 rw [if_neg (by simp), if_neg (by omega)]
 simp [List.drop_append, Nat.add_sub_cancel_left]
theorem Nc {most f : Nat} {l : List UInt8} (h : f ≠ 0) : A7 most l f = (0, l, f) := by simp [A7, h]
theorem Ox {most f : Nat} {l : List UInt8} (h : f ≠ 0) : B0 most l f = (0, l, f) := by simp [B0, h]
def Sa (D l : List UInt8) (f : Nat) : Prop := f = 10 ∨ (f = 0 ∧ ∃ m, m < D.length ∧ l = D.take m)
theorem Sa.parts {B R l : List UInt8} {f : Nat} (h : Sa (B ++ R) l f) : f = 10 ∨ (f = 0 ∧ ∃ m, m < B.length ∧ l = B.take m) ∨ (f = 0 ∧ ∃ m, m < R.length ∧ l = B ++ R.take m) := by
  rcases h with h | ⟨h, m, hm, rfl⟩
  · exact .inl h
  · rw [List.length_append] at hm
    by_cases hb : m < B.length
    · exact .inr (.inl ⟨h, m, hb, List.take_append_of_le_length (by omega)⟩)
    · obtain ⟨j, rfl⟩ : ∃ j, m = B.length + j := ⟨m - B.length, by omega⟩
      exact .inr (.inr ⟨h, j, by omega, List.take_length_add_append ..⟩)
end Go.Proofs.YtnknboibmifacaaGreat
namespace Go.Proofs.YtnknboibmifacaaGreat
structure CmdD where
  k : Int
  s : Int
  q : Int
  a : Int
  b : Int
  hi : Int
  lo : Int
  sc : Int
  x : List UInt8
  y : List UInt8
deriving DecidableEq
def CmdD.zero : CmdD := ⟨0, 0, 0, 0, 0, 0, 0, 0, [], []⟩
def N8 (n : Int) : Prop := 0 ≤ n ∧ n ≤ 18446744073709551615
def PO (n : Int) : Prop := -9223372036854775808 ≤ n ∧ n ≤ 9223372036854775807
structure CmdD.ok (c : CmdD) : Prop where
  k : PO c.k
  s : N8 c.s
  q : N8 c.q
  a : N8 c.a
  b : N8 c.b
  hi : PO c.hi
  lo : N8 c.lo
  sc : PO c.sc
  x : c.x.length ≤ 9223372036854775807
  y : c.y.length ≤ 9223372036854775807
def fo (k : Int) : Nat := if k = 6 ∨ k = 8 then 31 else if k = 4 ∨ k = 5 then 23 else if k = 9 then 7 else if k = 7 then 115 else if k = 11 then 99 else if k = 3 ∨ k = 10 then 35 else if k = 2 then 39 else if k = 1 then 1 else 0
def Hy (h f : Nat) : Bool := (h &&& f) != 0
def TW (n : Int) : Bool := decide (n ≥ 1) && decide (n ≤ 72057594037927935)
def TX (b : UInt8) : Bool := decide (65 ≤ b.toNat) && decide (b.toNat ≤ 90)
def CA (l : List UInt8) : Bool := decide (l.length = 3) && l.all TX
def V9 (n : Int) : Bool := decide (n ≥ 0) && decide (n ≤ 18)
def Oy (has right zero : Bool) : Bool := match has with | true => right | false => zero
def VO (c : CmdD) : Bool := c.hi == 0 && (c.lo == 0 && c.sc == 0)
def Sb (c : CmdD) : Bool :=
  fo c.k != 0 && Oy (Hy (fo c.k) 1) (TW c.s) (c.s == 0) && Oy (Hy (fo c.k) 2) (TW c.q) (c.q == 0) && Oy (Hy (fo c.k) 4) true (c.a == 0) && Oy (Hy (fo c.k) 8) true (c.b == 0)
    && Oy (Hy (fo c.k) 16) (V9 c.sc) (VO c) && Oy (Hy (fo c.k) 32) (CA c.x) (c.x == []) && Oy (Hy (fo c.k) 64) (CA c.y) (c.y == [])
def QN (n : Int) : List UInt8 := Dy n.toNat
def VP (b : Bool) (r : Nat × List UInt8 × Nat) (l : List UInt8) (f : Nat) : Nat × List UInt8 × Nat := match b with | true => r | false => (0, l, f)
def U1 (l : List UInt8) (f : Nat) : (Int × Nat × Nat) × List UInt8 × Nat :=
  (((Ok (A7 18 l f).2.1 (A7 18 l f).2.2).1, (B0 18446744073709551615 (Ok (A7 18 l f).2.1 (A7 18 l f).2.2).2.1 (Ok (A7 18 l f).2.1 (A7 18 l f).2.2).2.2).1, (A7 18 l f).1), (B0 18446744073709551615 (Ok (A7 18 l f).2.1 (A7 18 l f).2.2).2.1 (Ok (A7 18 l f).2.1 (A7 18 l f).2.2).2.2).2)
def U2 (l : List UInt8) (f : Nat) : List UInt8 × List UInt8 × Nat :=
  ([UInt8.ofNat (A7 90 l f).1, UInt8.ofNat (A7 90 (A7 90 l f).2.1 (A7 90 l f).2.2).1, UInt8.ofNat (A7 90 (A7 90 (A7 90 l f).2.1 (A7 90 l f).2.2).2.1 (A7 90 (A7 90 l f).2.1 (A7 90 l f).2.2).2.2).1], (A7 90 (A7 90 (A7 90 l f).2.1 (A7 90 l f).2.2).2.1 (A7 90 (A7 90 l f).2.1 (A7 90 l f).2.2).2.2).2)
def VQ (b : Bool) (l : List UInt8) (f : Nat) : (Int × Nat × Nat) × List UInt8 × Nat := match b with | true => U1 l f | false => ((0, 0, 0), l, f)
def U3 (b : Bool) (l : List UInt8) (f : Nat) : List UInt8 × List UInt8 × Nat := match b with | true => U2 l f | false => ([], l, f)
structure Read (l : List UInt8) (c : CmdD) (l' : List UInt8) (f' : Nat) where
  mk ::
  n0 : Nat
  l0 : List UInt8
  f0 : Nat
  h0 : A7 11 l 0 = (n0, l0, f0)
  n1 : Nat
  l1 : List UInt8
  f1 : Nat
  h1 : VP (Hy (fo (n0 : Int)) 1) (B0 72057594037927935 l0 f0) l0 f0 = (n1, l1, f1)
  n2 : Nat
  l2 : List UInt8
  f2 : Nat
  h2 : VP (Hy (fo (n0 : Int)) 2) (B0 72057594037927935 l1 f1) l1 f1 = (n2, l2, f2)
  n3 : Nat
  l3 : List UInt8
  f3 : Nat
  h3 : VP (Hy (fo (n0 : Int)) 4) (B0 18446744073709551615 l2 f2) l2 f2 = (n3, l3, f3)
  n4 : Nat
  l4 : List UInt8
  f4 : Nat
  h4 : VP (Hy (fo (n0 : Int)) 8) (B0 18446744073709551615 l3 f3) l3 f3 = (n4, l4, f4)
  hi : Int
  lo : Nat
  sc : Nat
  l5 : List UInt8
  f5 : Nat
  h5 : VQ (Hy (fo (n0 : Int)) 16) l4 f4 = ((hi, lo, sc), l5, f5)
  x : List UInt8
  l6 : List UInt8
  f6 : Nat
  h6 : U3 (Hy (fo (n0 : Int)) 32) l5 f5 = (x, l6, f6)
  y : List UInt8
  h7 : U3 (Hy (fo (n0 : Int)) 64) l6 f6 = (y, l', f')
  hc : c = ⟨(n0 : Int), (n1 : Int), (n2 : Int), (n3 : Int), (n4 : Int), hi, (lo : Int), (sc : Int), x, y⟩
structure Decoded (l : List UInt8) (c : CmdD) (e : Nat) : Prop where
  is : (l.length > 128 ∧ c = .zero ∧ e = 12) ∨ (l.length ≤ 128 ∧ ∃ c0 l' f', Nonempty (Read l c0 l' f') ∧ ((DT l' f' ≠ 0 ∧ c = .zero ∧ e = DT l' f') ∨ (DT l' f' = 0 ∧ Sb c0 = false ∧ c = .zero ∧ e = 11) ∨ (DT l' f' = 0 ∧ Sb c0 = true ∧ c = c0 ∧ e = 0)))
theorem G6 {l : List UInt8} (h : CA l = true) : ∃ a b c, l = [a, b, c] ∧ TX a = true ∧ TX b = true ∧ TX c = true := by
  unfold CA at h
  simp only [Bool.and_eq_true, decide_eq_true_eq] at h
  obtain ⟨h1, h2⟩ := h
  match l, h1 with
  | [a, b, c], _ => exact ⟨a, b, c, rfl, by simpa using h2⟩
theorem Nd {most : Nat} {l : List UInt8} {f : Nat} (h : (A7 most l f).2.2 = 0) : f = 0 ∧ (A7 most l f).1 ≤ most ∧ (A7 most l f).1 < 256 ∧ l = UInt8.ofNat (A7 most l f).1 :: (A7 most l f).2.1 := by
  by_cases hf : f = 0
  · subst hf
    unfold A7 at h ⊢
    rw [if_neg (by simp)] at h ⊢
    cases l with
    | nil => cases h
    | cons b r =>
      have hb := UInt8.toNat_lt b
      simp only at h ⊢
      by_cases hm : most < b.toNat
      · rw [if_pos hm] at h; cases h
      · rw [if_neg hm]
        exact ⟨trivial, by show b.toNat ≤ most; omega, hb, by simp⟩
  · rw [M9 hf] at h; exact absurd h hf
theorem Ml {b : Bool} {most : Nat} {l : List UInt8} {f n f' : Nat} {l' : List UInt8} (h : VP b (B0 most l f) l f = (n, l', f')) : n < 18446744073709551616 := by
  cases b with
  | true =>
    have h' : B0 most l f = (n, l', f') := h
    have := JV most l f
    rwa [h'] at this
  | false =>
    have h' : (0, l, f) = (n, l', f') := h
    simp only [Prod.mk.injEq] at h'
    rw [← h'.1]; decide
theorem TY {b : Bool} {hi : Int} {lo sc f f' : Nat} {l l' : List UInt8} (h : VQ b l f = ((hi, lo, sc), l', f')) : PO hi ∧ lo < 18446744073709551616 ∧ sc < 256 := by
  cases b with
  | true =>
    have h' : U1 l f = ((hi, lo, sc), l', f') := h
    unfold U1 at h'
    simp only [Prod.mk.injEq] at h'
    obtain ⟨⟨rfl, rfl, rfl⟩, _⟩ := h'
    exact ⟨Ot _ _, JV _ _ _, Iy _ _ _⟩
  | false =>
    have h' : (((0 : Int), (0 : Nat), (0 : Nat)), l, f) = ((hi, lo, sc), l', f') := h
    simp only [Prod.mk.injEq] at h'
    obtain ⟨⟨rfl, rfl, rfl⟩, _⟩ := h'
    exact ⟨⟨by decide, by decide⟩, by decide, by decide⟩
theorem PP {b : Bool} {x : List UInt8} {f f' : Nat} {l l' : List UInt8} (h : U3 b l f = (x, l', f')) : x.length ≤ 3 := by
  cases b with
  | true =>
    have h' : U2 l f = (x, l', f') := h
    unfold U2 at h'
    simp only [Prod.mk.injEq] at h'
    rw [← h'.1]; simp
  | false =>
    have h' : (([] : List UInt8), l, f) = (x, l', f') := h
    simp only [Prod.mk.injEq] at h'
    rw [← h'.1]; simp
theorem Read.ok {l l' : List UInt8} {c : CmdD} {f' : Nat} (h : Read l c l' f') : c.ok := by
 obtain ⟨n0, l0, f0, h0, n1, l1, f1, h1, n2, l2, f2, h2, n3, l3, f3, h3, n4, l4, f4, h4, hi, lo, sc, l5, f5, h5, x, l6, f6, h6, y, h7, rfl⟩ := h
 have b0 := Iy 11 l 0
 rw [h0] at b0
 have b1 := Ml h1
 have b2 := Ml h2
 have b3 := Ml h3
 have b4 := Ml h4
 obtain ⟨b5, b6, b7⟩ := TY h5
 have b8 := PP h6
 have b9 := PP h7
 have b0 : n0 < 256 := b0
 exact ⟨⟨by simp only; omega, by simp only; omega⟩, ⟨by simp only; omega, by simp only; omega⟩, ⟨by simp only; omega, by simp only; omega⟩, ⟨by simp only; omega, by simp only; omega⟩, ⟨by simp only; omega, by simp only; omega⟩, b5, ⟨by simp only; omega, by simp only; omega⟩, ⟨by simp only; omega, by simp only; omega⟩, by simp only; omega, by simp only; omega⟩
theorem Read.one {l l1 l2 : List UInt8} {c1 c2 : CmdD} {f1 f2 : Nat} (h : Read l c1 l1 f1) (g : Read l c2 l2 f2) : c1 = c2 ∧ l1 = l2 ∧ f1 = f2 := by
 obtain ⟨n0, l0, f0, h0, n1, l1', f1', h1, n2, l2', f2', h2, n3, l3, f3, h3, n4, l4, f4, h4, hi, lo, sc, l5, f5, h5, x, l6, f6, h6, y, h7, rfl⟩ := h
 obtain ⟨m0, k0, g0, i0, m1, k1, g1, i1, m2, k2, g2, i2, m3, k3, g3, i3, m4, k4, g4, i4, hi', lo', sc', k5, g5, i5, x', k6, g6, i6, y', i7, rfl⟩ := g
 have e0 := h0.symm.trans i0; simp only [Prod.mk.injEq] at e0; obtain ⟨rfl, rfl, rfl⟩ := e0
 have e1 := h1.symm.trans i1; simp only [Prod.mk.injEq] at e1; obtain ⟨rfl, rfl, rfl⟩ := e1
 have e2 := h2.symm.trans i2; simp only [Prod.mk.injEq] at e2; obtain ⟨rfl, rfl, rfl⟩ := e2
 have e3 := h3.symm.trans i3; simp only [Prod.mk.injEq] at e3; obtain ⟨rfl, rfl, rfl⟩ := e3
 have e4 := h4.symm.trans i4; simp only [Prod.mk.injEq] at e4; obtain ⟨rfl, rfl, rfl⟩ := e4
 have e5 := h5.symm.trans i5; simp only [Prod.mk.injEq] at e5; obtain ⟨⟨rfl, rfl, rfl⟩, rfl, rfl⟩ := e5
 have e6 := h6.symm.trans i6; simp only [Prod.mk.injEq] at e6; obtain ⟨rfl, rfl, rfl⟩ := e6
 have e7 := h7.symm.trans i7; simp only [Prod.mk.injEq] at e7; obtain ⟨rfl, rfl, rfl⟩ := e7
 exact ⟨rfl, rfl, rfl⟩
theorem Decoded.one {l : List UInt8} {c1 c2 : CmdD} {e1 e2 : Nat} (h : Decoded l c1 e1) (g : Decoded l c2 e2) : c1 = c2 ∧ e1 = e2 := by
  rcases h.is with ⟨h1, h2, h3⟩ | ⟨h1, a, b, d, ⟨hr⟩, h2⟩ <;> rcases g.is with ⟨g1, g2, g3⟩ | ⟨g1, a', b', d', ⟨gr⟩, g2⟩
  · exact ⟨h2.trans g2.symm, h3.trans g3.symm⟩
  · omega
  · omega
  · obtain ⟨rfl, rfl, rfl⟩ := hr.one gr
    rcases h2 with ⟨p, q, r⟩ | ⟨p, q, r, t⟩ | ⟨p, q, r, t⟩ <;> rcases g2 with ⟨p', q', r'⟩ | ⟨p', q', r', t'⟩ | ⟨p', q', r', t'⟩
    all_goals first
      | exact ⟨q.trans q'.symm, r.trans r'.symm⟩
      | exact ⟨r.trans r'.symm, t.trans t'.symm⟩
      | exact absurd p' p
      | exact absurd p p'
      | (rw [q] at q'; cases q')
end Go.Proofs.YtnknboibmifacaaGreat
