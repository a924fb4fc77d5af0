/-
  Math · Bits · Writer · Varint · RefLay · RefRead · OneMath · Read · CmdM · RdT
-/
import Derived.Test.YtnknboibmifacaaGreatDoorVA06
import Derived.WalkKit
import Derived.Deep.QuietTactic
import Derived.BigQuiet
set_option linter.unusedSimpArgs false
set_option linter.unusedVariables false
set_option maxRecDepth 100000
namespace Go.Proofs.YtnknboibmifacaaGreatDoor
def B1 (most : Nat) : List UInt8 → Nat → Nat → Nat × Nat × Nat
  | [], _, _ => (0, 0, 10)
  | c :: r, k, a =>
    if k = 9 ∧ 1 < c.toNat then (0, 0, 11)
    else if 128 ≤ c.toNat then B1 most r (k + 1) (a + c.toNat % 128 * 2 ^ (7 * k))
    else if c.toNat = 0 ∧ 0 < k then (0, 0, 11)
    else if most < a + c.toNat % 128 * 2 ^ (7 * k) then (0, 0, 12)
    else (a + c.toNat % 128 * 2 ^ (7 * k), k + 1, 0)
theorem Hq (most : Nat) : ∀ (l : List UInt8) (k a : Nat), k ≤ 9 → a < 2 ^ (7 * k) →
    ((B1 most l k a).2.2 = 0 ∧ k < (B1 most l k a).2.1 ∧ (B1 most l k a).2.1 ≤ k + l.length ∧ (B1 most l k a).1 ≤ most ∧ (B1 most l k a).1 < 18446744073709551616) ∨
    ((B1 most l k a).1 = 0 ∧ (B1 most l k a).2.1 = 0 ∧ ((B1 most l k a).2.2 = 10 ∨ (B1 most l k a).2.2 = 11 ∨ (B1 most l k a).2.2 = 12))
  | [], k, a, _, _ => .inr ⟨rfl, rfl, .inl rfl⟩
  | c :: r, k, a, hk, ha => by
    unfold B1
    by_cases h1 : k = 9 ∧ 1 < c.toNat
    · rw [if_pos h1]; exact .inr ⟨rfl, rfl, .inr (.inl rfl)⟩
    rw [if_neg h1]
    have hp : (2 : Nat) ^ (7 * (k + 1)) = 128 * 2 ^ (7 * k) := by rw [Nat.mul_add, Nat.pow_add]; omega
    have hc : c.toNat % 128 * 2 ^ (7 * k) ≤ 127 * 2 ^ (7 * k) := Nat.mul_le_mul_right _ (by omega)
    by_cases h2 : 128 ≤ c.toNat
    · rw [if_pos h2]
      have := Hq most r (k + 1) (a + c.toNat % 128 * 2 ^ (7 * k)) (by omega) (by rw [hp]; omega)
      rcases this with ⟨a1, a2, a3, a4, a5⟩ | h
      · exact .inl ⟨a1, by omega, by rw [List.length_cons]; omega, a4, a5⟩
      · exact .inr h
    rw [if_neg h2]
    by_cases h3 : c.toNat = 0 ∧ 0 < k
    · rw [if_pos h3]; exact .inr ⟨rfl, rfl, .inr (.inl rfl)⟩
    rw [if_neg h3]
    by_cases h4 : most < a + c.toNat % 128 * 2 ^ (7 * k)
    · rw [if_pos h4]; exact .inr ⟨rfl, rfl, .inr (.inr rfl)⟩
    rw [if_neg h4]
    refine .inl ⟨rfl, by show k < k + 1; omega, by rw [List.length_cons]; show k + 1 ≤ _; omega, by show a + _ ≤ _; omega, ?_⟩
    show a + c.toNat % 128 * 2 ^ (7 * k) < 18446744073709551616
    by_cases h9 : k = 9
    · subst h9
      have hc1 : c.toNat % 128 * 2 ^ (7 * 9) ≤ 1 * 2 ^ (7 * 9) := Nat.mul_le_mul_right _ (by omega)
      omega
    · have : (2 : Nat) ^ (7 * k) ≤ 2 ^ 56 := Nat.pow_le_pow_right (by omega) (by omega)
      omega
def DO (n : Nat) : List UInt8 := if n < 128 then [UInt8.ofNat n] else UInt8.ofNat (n % 128 + 128) :: DO (n / 128)
termination_by n
decreasing_by omega
theorem Fu {n : Nat} (h : n < 128) : DO n = [UInt8.ofNat n] := by rw [DO, if_pos h]
theorem Hr {n : Nat} (h : 128 ≤ n) : DO n = UInt8.ofNat (n % 128 + 128) :: DO (n / 128) := by rw [DO, if_neg (by omega)]
theorem DZ : ∀ (k n : Nat), n < 128 ^ (k + 1) → (DO n).length ≤ k + 1
  | 0, n, h => by rw [Fu (by simpa using h)]; simp
  | k + 1, n, h => by
    by_cases h1 : n < 128
    · rw [Fu h1]; simp
    · rw [Hr (by omega), List.length_cons]
      have := DZ k (n / 128) (by rw [Nat.div_lt_iff_lt_mul (by omega)]; rw [Nat.pow_succ] at h; exact h)
      omega
theorem JO (n : Nat) (h : n < 18446744073709551616) : (DO n).length ≤ 10 := DZ 9 n (by omega)
theorem SK (n : Nat) : 0 < (DO n).length := by
 rw [DO]; split <;> simp
def Bl (most : Nat) (l : List UInt8) (f : Nat) : Nat × List UInt8 × Nat :=
  if f ≠ 0 then (0, l, f)
  else match l with
    | [] => (0, [], 10)
    | b :: r => if most < b.toNat then (0, b :: r, 12) else (b.toNat, r, 0)
def Cv (most : Nat) (l : List UInt8) (f : Nat) : Nat × List UInt8 × Nat :=
  if f ≠ 0 then (0, l, f) else ((B1 most l 0 0).1, l.drop (B1 most l 0 0).2.1, (B1 most l 0 0).2.2)
def Ql (n : Nat) : Int := if n % 2 = 0 then (n / 2 : Nat) else -((n / 2 : Nat) : Int) - 1
def O1 (l : List UInt8) (f : Nat) : Int × List UInt8 × Nat := (Ql (Cv 18446744073709551615 l f).1, (Cv 18446744073709551615 l f).2)
def Cw (most : Int) (l : List UInt8) (f : Nat) : List UInt8 × List UInt8 × Nat :=
  if f ≠ 0 then ([], l, f)
  else if (B1 most.toNat l 0 0).2.2 ≠ 0 then ([], l, (B1 most.toNat l 0 0).2.2)
  else if l.length - (B1 most.toNat l 0 0).2.1 < (B1 most.toNat l 0 0).1 then ([], l, 10)
  else ((l.drop (B1 most.toNat l 0 0).2.1).take (B1 most.toNat l 0 0).1, l.drop ((B1 most.toNat l 0 0).2.1 + (B1 most.toNat l 0 0).1), 0)
def EZ (l : List UInt8) (f : Nat) : Nat := if f = 0 ∧ 0 < l.length then 11 else f
end Go.Proofs.YtnknboibmifacaaGreatDoor
namespace Go.Proofs.YtnknboibmifacaaGreatDoor
open Go.RowKit
theorem O2 (b : Nat) (h : b < 256) : bits .andNot .u8 (b : Int) 128 = ((b % 128 : Nat) : Int) := by
 have : ∀ x : Fin 256, bits .andNot .u8 ((x.val : Nat) : Int) 128 = ((x.val % 128 : Nat) : Int) := by decide +kernel
 exact this ⟨b, h⟩
theorem Hs (a : Nat) (ha : a < 18446744073709551616) : (BitVec.ofInt 64 (a : Int)).toNat = a := by
 rw [BitVec.ofInt_natCast, BitVec.toNat_ofNat]; exact Nat.mod_eq_of_lt (by omega)
theorem E6 (a : Nat) (ha : a < 18446744073709551616) : IntKind.u64.wrap (a : Int) = (a : Int) := by
 simp [IntKind.wrap, IntKind.signed, IntKind.bits]
 omega
theorem O3 (a b : Nat) (ha : a < 18446744073709551616) (hb : b < 18446744073709551616) : bits .or .u64 (a : Int) (b : Int) = ((a ||| b : Nat) : Int) := by
  have hx : a ||| b < 2 ^ 64 := Nat.or_lt_two_pow (by omega) (by omega)
  show IntKind.u64.wrap ((BitVec.ofInt 64 (a : Int) ||| BitVec.ofInt 64 (b : Int)).toNat : Int) = _
  rw [BitVec.toNat_or, Hs a ha, Hs b hb]
  exact E6 _ hx
theorem KB (a b k : Nat) (hb : b < 256) (hk : k ≤ 9) (ha : a < 2 ^ (7 * k)) (h9 : ¬ (k = 9 ∧ 1 < b)) (h1 : k = 9 → b < 128) :
    bits .or .u64 (a : Int) (IntKind.u64.wrap (IntKind.u64.wrap (bits .andNot .u8 (b : Int) 128) * 2 ^ (7 * k))) = ((a + b % 128 * 2 ^ (7 * k) : Nat) : Int) := by
  have hm : b % 128 * 2 ^ (7 * k) + a < 18446744073709551616 := by
    by_cases h : k = 9
    · subst h
      have hc1 : b % 128 * 2 ^ (7 * 9) ≤ 1 * 2 ^ (7 * 9) := Nat.mul_le_mul_right _ (by omega)
      omega
    · have : (2 : Nat) ^ (7 * k) ≤ 2 ^ 56 := Nat.pow_le_pow_right (by omega) (by omega)
      have hc1 : b % 128 * 2 ^ (7 * k) ≤ 127 * 2 ^ (7 * k) := Nat.mul_le_mul_right _ (by omega)
      omega
  rw [O2 b hb, E6 _ (by omega)]
  have e : ((b % 128 : Nat) : Int) * 2 ^ (7 * k) = ((b % 128 * 2 ^ (7 * k) : Nat) : Int) := by
    rw [Int.natCast_mul, Int.natCast_pow]; rfl
  rw [e, E6 _ (by omega), O3 _ _ (by omega) (by omega)]
  congr 1
  rw [Nat.or_comm, Nat.add_comm, ← Nat.shiftLeft_eq, Nat.shiftLeft_add_eq_or_of_lt ha]
theorem NB (a b : Nat) (ha : a < 18446744073709551616) (hb : b < 18446744073709551616) : bits .and .u64 (a : Int) (b : Int) = ((a &&& b : Nat) : Int) := by
 have hx : a &&& b < 2 ^ 64 := Nat.and_lt_two_pow _ (by omega)
 show IntKind.u64.wrap ((BitVec.ofInt 64 (a : Int) &&& BitVec.ofInt 64 (b : Int)).toNat : Int) = _
 rw [BitVec.toNat_and, Hs a ha, Hs b hb]
 exact E6 _ hx
theorem Uu {k : IntKind} {a b : Int} (h : a = b) : Ending.returned (.int k a) = .returned (.int k b) := by rw [h]
end Go.Proofs.YtnknboibmifacaaGreatDoor
namespace Go.Proofs.YtnknboibmifacaaGreatDoor
open Go.RowKit
def NC (w : World) (p : Nat) (v : Value) (l : List UInt8) : Prop := C5 w p 222 #[v] ∧ GB 5 w 0 v l
def Ia (p : Nat) (v : Value) : Nat → Prop := fun k => k = p ∨ At v k
theorem NC.mod {S : Nat → Prop} {w w' : World} {p : Nat} {v : Value} {l : List UInt8} (h : NC w p v l) (hm : Mod S w w') (hn : ∀ k, Ia p v k → ¬ S k) : NC w' p v l :=
 ⟨h.1.mod hm (hn p (.inl rfl)), h.2.mod hm (fun k hk => hn k (.inr hk))⟩
theorem NC.lt {w : World} {p : Nat} {v : Value} {l : List UInt8} (h : NC w p v l) : ∀ k, Ia p v k → k < w.heap.size := by
  rintro k (rfl | hk)
  · exact h.1.lt
  · exact (h.2.lt k hk).2
theorem LP (w : World) :
  Calls Tryz.prog 141 #[] w fun e w' => ∃ p, e = .returned (.pointer (some ⟨p, 0, none⟩)) ∧ w.heap.size ≤ p ∧ NC w' p (.slice none 0 0) [] ∧ Below w.heap.size w w' := by
 go_enter Tryz.func141, Tryz.ntmps141
 go_wp2
 go_ret
 exact ⟨w.heap.size, rfl, Nat.le_refl _, ⟨C5.new _ _ _, GB.nil _ _ _⟩, (Below.refl _ _).alloc (Nat.le_refl _) _⟩
theorem KC (w : World) (p : Nat) (v : Value) (l : List UInt8) (b : UInt8) (h : NC w p v l) (hl : l.length + 1 ≤ 140737488355328) :
    Calls Tryz.prog 142 #[.pointer (some ⟨p, 0, none⟩), .int .u8 (b.toNat : Int)] w fun e w' =>
      ∃ v', e = .returned (.tuple #[]) ∧ NC w' p v' (l ++ [b]) ∧ Mod (Ia p v) w w' ∧ ∀ k, At v' k → At v k ∨ w.heap.size ≤ k := by
  obtain ⟨hr, ho⟩ := h
  have hp := hr.lt
  have hne := ho.ne_row hr (by decide)
  obtain ⟨A, c, rfl, hs⟩ := ho.form
  have h0 := hr.cell 0
  have f0 := hr.frozen 0
  simp at h0
  go_enter Tryz.func142, Tryz.ntmps142
  have own1 : GB 5 (w.alloc (.cells #[.int .u8 (b.toNat : Int)] 5)) 0 (.slice A l.length c) l := ho.mod ((Mod.refl Nil w).alloc _) (fun _ _ hf => hf)
  have hr1 := hr.alloc (.cells #[.int .u8 (b.toNat : Int)] 5)
  have hsz : w.heap.size < (w.alloc (.cells #[.int .u8 (b.toNat : Int)] 5)).heap.size := by simp
  go_wp2_with (at_builtin; refine C6 (t := 30) Re rfl (.tmp 8) (.tmp 10) rfl own1 (Nat.zero_le _) (Mx w 5 b rfl) (l.length + 1) rfl rfl rfl hl ?_; intro A1 c1 w1 ho1 hm1 ha1; have hr2 := hr1.mod hm1 hne; have k0 := hr2.cell 0; have g0 := hr2.frozen 0; simp at k0; have hne1 := ho1.ne_row hr2 (by decide))
  go_end0
  refine ⟨_, rfl, ⟨hr2.set 0 _, ho1.mod (Mod.one _ _ _ _) (fun k hk e => by subst e; exact hne1 hk)⟩, ?_, fun k hk => ?_⟩
  · refine (((Mod.refl (Ia p (.slice A l.length c)) w).alloc _).trans hm1 (fun k _ hk => .inr hk)).trans (Mod.one _ _ _ _) (fun k _ hk => .inl hk)
  · rcases ha1 k hk with h | h
    · exact .inl h
    · right; simp at h; omega
theorem Qm (n : Nat) (h : n < 256) : (UInt8.ofNat n).toNat = n := by simp [UInt8.toNat_ofNat']; omega
theorem V9 (b : Nat) (h : b < 256) : bits .or .u8 (b : Int) 128 = ((b % 128 + 128 : Nat) : Int) := by
 have : ∀ x : Fin 256, bits .or .u8 ((x.val : Nat) : Int) 128 = ((x.val % 128 + 128 : Nat) : Int) := by decide +kernel
 exact this ⟨b, h⟩
theorem H0 (w : World) (p : Nat) (v : Value) (l : List UInt8) (n : Nat) (h : NC w p v l) (hn : n < 18446744073709551616) (hl : l.length + 10 ≤ 140737488355328) :
    Calls Tryz.prog 143 #[.pointer (some ⟨p, 0, none⟩), .int .u64 (n : Int)] w fun e w' =>
      ∃ v', e = .returned (.tuple #[]) ∧ NC w' p v' (l ++ DO n) ∧ Mod (Ia p v) w w' ∧ ∀ k, At v' k → At v k ∨ w.heap.size ≤ k := by
  have hvl := JO n hn
  obtain ⟨N, hN⟩ : ∃ N, N = DO n := ⟨_, rfl⟩
  rw [← hN] at hvl ⊢
  have HN := Ja hN
  have HNB := Ja hn
  clear hN hn
  go_enter Tryz.func143, Tryz.ntmps143
  go_wp2
  go_loopw [1] (fun x wr => ∃ (y : Nat) (v1 : Value) (l1 : List UInt8), x = .int .u64 (y : Int) ∧ y < 18446744073709551616 ∧ N = l1 ++ DO y ∧ NC wr p v1 (l ++ l1) ∧ Mod (Ia p v) w wr ∧ ∀ k, At v1 k → At v k ∨ w.heap.size ≤ k) (fun x _ => (intOf x).toNat)
  case atStart => exact ⟨n, v, [], rfl, HNB.out, by rw [HN.out]; rfl, by simpa using h, Mod.refl _ _, fun k hk => .inl hk⟩
  case round =>
    obtain ⟨y, v1, l1, rfl, hy, hN, hw, hm, ha⟩ := hrel
    have hpos := SK y
    have hlN : N.length = l1.length + (DO y).length := by rw [hN]; simp
    obtain ⟨L, hL⟩ : ∃ L, L = l ++ l1 := ⟨_, rfl⟩
    have hll : L.length + 1 ≤ 140737488355328 := by rw [hL, List.length_append]; omega
    rw [← hL] at hw
    clear hlN
    have HL := Ja hL
    have HNN := Ja hN
    have HY := Ja hy
    clear hN hy hL hpos
    obtain ⟨hr, ho⟩ := hw
    have hp := hr.lt
    have hne := ho.ne_row hr (by decide)
    obtain ⟨A, c, rfl, hs⟩ := ho.form
    have h0 := hr.cell 0
    have f0 := hr.frozen 0
    simp only [List.getElem?_toArray, List.getElem?_cons_zero] at h0
    by_cases h128 : 128 ≤ y
    · have hx : bits .or .u8 ((y : Int) % 256) 128 = ((UInt8.ofNat (y % 128 + 128)).toNat : Int) := by
        rw [Qm _ (by omega), show (y : Int) % 256 = ((y % 256 : Nat) : Int) by omega, V9 _ (by omega)]
        congr 2; omega
      obtain ⟨b, hb⟩ : ∃ b, b = UInt8.ofNat (y % 128 + 128) := ⟨_, rfl⟩
      rw [← hb] at hx
      have HB := Ja hb
      have own1 : GB 5 (wr.alloc (.cells #[.int .u8 (b.toNat : Int)] 5)) 0 (.slice A L.length c) L := ho.mod ((Mod.refl Nil wr).alloc _) (fun _ _ hf => hf)
      have hr1 := hr.alloc (.cells #[.int .u8 (b.toNat : Int)] 5)
      clear hb
      go_wp2_with (at_builtin; refine C6 (t := 30) Re rfl (.tmp 10) (.tmp 14) rfl own1 (Nat.zero_le _) (Mx wr 5 b rfl) (L.length + 1) rfl rfl rfl hll ?_; intro A1 c1 w1 ho1 hm1 ha1; have hr2 := hr1.mod hm1 hne; have k0 := hr2.cell 0; have g0 := hr2.frozen 0; simp at k0; have hne1 := ho1.ne_row hr2 (by decide))
      have hfoot : Mod (Ia p v) w (w1.setCell ⟨p, 0, none⟩ (.slice A1 (L.length + 1) c1)) := hm.trans ((((Mod.refl (Ia p (.slice A L.length c)) wr).alloc _).trans hm1 (fun k _ hk => .inr hk)).trans (Mod.one _ _ _ _) (fun k _ hk => .inl hk)) (fun k hk hf => by
        rcases hf with hf | hf
        · exact .inl hf
        · rcases ha k hf with hf | hf
          · exact .inr hf
          · omega)
      have hws : w.heap.size ≤ wr.heap.size := hm.size
      go_roundw
      case rel =>
        refine ⟨y / 128, .slice A1 (L.length + 1) c1, l1 ++ [b], by go_num, by have := HY.out; omega, ?_, ⟨?_, ?_⟩, hfoot, ?_⟩
        · rw [HNN.out, Hr h128, ← HB.out]; simp
        · exact hr2.set 0 _
        · rw [← List.append_assoc, ← HL.out]
          exact ho1.mod (Mod.one _ _ _ _) (fun k hk e => by subst e; exact hne1 hk)
        · intro k hk
          rcases ha1 k hk with h | h
          · exact ha k h
          · right; simp at h; omega
      case measure => simp [intOf]; omega
    · have hyb : y < 128 := by omega
      obtain ⟨b, hb⟩ : ∃ b, b = UInt8.ofNat y := ⟨_, rfl⟩
      have hx : (y : Int) = (b.toNat : Int) := by rw [hb, Qm _ (by omega)]
      have HB := Ja hb
      have HX := Ja hx
      have own1 : GB 5 (wr.alloc (.cells #[.int .u8 (y : Int)] 5)) 0 (.slice A L.length c) L := ho.mod ((Mod.refl Nil wr).alloc _) (fun _ _ hf => hf)
      have hr1 := hr.alloc (.cells #[.int .u8 (y : Int)] 5)
      clear hb hx
      go_wp2_with (at_builtin; refine C6 (t := 30) Re rfl (.tmp 24) (.tmp 27) rfl own1 (Nat.zero_le _) (Mx wr 5 b HX.out) (L.length + 1) rfl rfl rfl hll ?_; intro A1 c1 w1 ho1 hm1 ha1; have hr2 := hr1.mod hm1 hne; have k0 := hr2.cell 0; have g0 := hr2.frozen 0; simp at k0; have hne1 := ho1.ne_row hr2 (by decide))
      have hfoot : Mod (Ia p v) w (w1.setCell ⟨p, 0, none⟩ (.slice A1 (L.length + 1) c1)) := hm.trans ((((Mod.refl (Ia p (.slice A L.length c)) wr).alloc _).trans hm1 (fun k _ hk => .inr hk)).trans (Mod.one _ _ _ _) (fun k _ hk => .inl hk)) (fun k hk hf => by
        rcases hf with hf | hf
        · exact .inl hf
        · rcases ha k hf with hf | hf
          · exact .inr hf
          · omega)
      have hws : w.heap.size ≤ wr.heap.size := hm.size
      go_end0
      refine ⟨_, rfl, ⟨hr2.set 0 _, ?_⟩, hfoot, ?_⟩
      · rw [HNN.out, Fu hyb, ← HB.out, ← List.append_assoc, ← HL.out]
        exact ho1.mod (Mod.one _ _ _ _) (fun k hk e => by subst e; exact hne1 hk)
      · intro k hk
        rcases ha1 k hk with h | h
        · exact ha k h
        · right; simp at h; omega
theorem KD {S : Nat → Prop} (w : World) (p : Nat) (v : Value) (l : List UInt8) (A : Option Addr) (c : Nat) (m : List UInt8) (h : NC w p v l) (hm : Bs S w A c m) (hS : ∀ k, S k → ¬ Ia p v k) (hl : l.length + m.length + 10 ≤ 140737488355328) :
    Calls Tryz.prog 144 #[.pointer (some ⟨p, 0, none⟩), .slice A m.length c] w fun e w' =>
      ∃ v', e = .returned (.tuple #[]) ∧ NC w' p v' (l ++ DO m.length ++ m) ∧ Mod (Ia p v) w w' ∧ ∀ k, At v' k → At v k ∨ w.heap.size ≤ k := by
  have hC := H0 w p v l m.length h (by omega) (by omega)
  have HC := Ja hC
  clear hC
  have hvl := JO m.length (by omega)
  obtain ⟨L, hL⟩ : ∃ L, L = l ++ DO m.length := ⟨_, rfl⟩
  have hLl : L.length + m.length ≤ 140737488355328 := by rw [hL, List.length_append]; omega
  rw [← hL] at HC ⊢
  clear hvl hL
  obtain ⟨M, hM⟩ : ∃ M, M = L.length + m.length := ⟨_, rfl⟩
  rw [← hM] at hLl
  have HM := Ja hM
  clear hM
  go_enter Tryz.func144, Tryz.ntmps144
  go_wp2_with (first
    | (go_at_call 143; refine Calls.mono HC.out ?_; rintro e w1 ⟨v1, rfl, ⟨hr1, ho1⟩, hm1, ha1⟩; have hne1 := ho1.ne_row hr1 (by decide); obtain ⟨A1, c1, rfl, hs1⟩ := ho1.form; have h0 := hr1.cell 0; have f0 := hr1.frozen 0; simp only [List.getElem?_toArray, List.getElem?_cons_zero] at h0; have hm' := hm.mod hm1 hS)
    | (at_builtin; refine C6 (t := 30) Re rfl (.tmp 13) (.tmp 14) rfl ho1 (Nat.zero_le _) hm' M HM.out rfl rfl hLl ?_; intro A2 c2 w2 ho2 hm2 ha2; have hr2 := hr1.mod hm2 hne1; have k0 := hr2.cell 0; have g0 := hr2.frozen 0; simp only [List.getElem?_toArray, List.getElem?_cons_zero] at k0; have hne2 := ho2.ne_row hr2 (by decide)))
  go_end0
  refine ⟨_, rfl, ⟨hr2.set 0 _, ho2.mod (Mod.one _ _ _ _) (fun k hk e => by subst e; exact hne2 hk)⟩, ?_, ?_⟩
  · refine (hm1.trans hm2 (fun k hk hk1 => ?_)).trans (Mod.one _ _ _ _) (fun k _ hk => .inl hk)
    rcases ha1 k hk1 with h | h
    · exact .inr h
    · omega
  · intro k hk
    have hws := hm1.size
    rcases ha2 k hk with h | h
    · exact ha1 k h
    · right; omega
theorem J9 (w : World) (p : Nat) (v : Value) (l : List UInt8) (h : NC w p v l) (hl : l.length ≤ 140737488355328) :
  Calls Tryz.prog 145 #[.pointer (some ⟨p, 0, none⟩)] w fun e w' => ∃ v', e = .returned v' ∧ GB 5 w' w.heap.size v' l ∧ Below w.heap.size w w' := by
 obtain ⟨hr, ho⟩ := h
 obtain ⟨A, c, rfl, hs⟩ := ho.form
 have h0 := hr.cell 0
 have f0 := hr.frozen 0
 simp only [List.getElem?_toArray, List.getElem?_cons_zero] at h0
 go_enter Tryz.func145, Tryz.ntmps145
 go_wp2_with (go_at_call 114; refine (Jh w A c l hs hl).mono ?_; rintro e w' ⟨v', rfl, ho', hb⟩)
 go_ret
 exact ⟨_, rfl, ho', hb⟩
end Go.Proofs.YtnknboibmifacaaGreatDoor
namespace Go.Proofs.YtnknboibmifacaaGreatDoor
open Go.RowKit
theorem O4 {S : Nat → Prop} (w : World) (A : Option Addr) (c : Nat) (l : List UInt8) (most : Nat) (h : Bs S w A c l) (hl : l.length ≤ 140737488355328) (hm : most < 18446744073709551616) :
    Calls Tryz.prog 197 #[.slice A l.length c, .int .u64 (most : Int)] w fun e w' =>
      e = .returned (.tuple #[.int .u64 ((B1 most l 0 0).1 : Int), .int .i64 ((B1 most l 0 0).2.1 : Int), .int .i64 ((B1 most l 0 0).2.2 : Int)]) ∧ w = w' := by
  go_enter Tryz.func197, Tryz.ntmps197
  go_wp2
  go_loop [4, 7, 8, 11] (fun n _ _ i => ∃ k a : Nat, k ≤ l.length ∧ k ≤ 9 ∧ a < 2 ^ (7 * k) ∧ B1 most l 0 0 = B1 most (l.drop k) k a ∧ i = .int .i64 k ∧ n = .int .u64 a) (fun _ _ _ i => l.length - (intOf i).toNat)
  case atStart => exact ⟨0, 0, Nat.zero_le _, by omega, by decide, rfl, rfl, rfl⟩
  case round =>
    obtain ⟨k, a, hk, hk9, ha, hv, rfl, rfl⟩ := hrel
    have HV := Ja hv
    clear hv
    by_cases hlt : k < l.length
    · obtain ⟨g, o, rfl, hs, hc⟩ := h.2.2 (by omega)
      have hb := hc k l[k] (List.getElem?_eq_getElem hlt)
      unfold Sn at hb
      clear hc
      obtain ⟨b, hbb⟩ : ∃ b : Nat, b = (l[k]).toNat := ⟨_, rfl⟩
      have hb2 : b < 256 := by rw [hbb]; exact UInt8.toNat_lt _
      rw [← hbb] at hb
      have HB := Ja hbb
      clear hbb
      have hd : l.drop k = l[k] :: l.drop (k + 1) := List.drop_eq_getElem_cons hlt
      have HD := Ja hd
      clear hd
      have HA := Ja ha
      have HM := Ja hm
      clear hm
      by_cases h9 : k = 9 ∧ 1 < b
      · obtain ⟨rfl, hb1⟩ := h9
        clear ha
        go_wp2
        refine bodyPost_ret (results_tmp3 rfl _ _ _) rfl ⟨?_, rfl⟩
        rw [HV.out, HD.out]
        unfold B1
        rw [← HB.out, if_pos ⟨rfl, hb1⟩]
        rfl
      obtain ⟨X, hX⟩ : ∃ X : Nat, X = a + b % 128 * 2 ^ (7 * k) := ⟨_, rfl⟩
      by_cases h1 : 128 ≤ b
      · have hk8 : k ≤ 8 := by omega
        have hN := KB a b k hb2 hk9 ha h9 (by omega)
        rw [← hX] at hN
        have HX := Ja hX
        clear ha hX
        go_wp2
        go_round
        case rel =>
          refine ⟨k + 1, X, by omega, by omega, ?_, ?_, by go_num, rfl⟩
          · have hp : (2 : Nat) ^ (7 * (k + 1)) = 128 * 2 ^ (7 * k) := by rw [Nat.mul_add, Nat.pow_add]; omega
            have hc : b % 128 * 2 ^ (7 * k) ≤ 127 * 2 ^ (7 * k) := Nat.mul_le_mul_right _ (by omega)
            have := HA.out
            have := HX.out
            omega
          · rw [HV.out, HD.out]
            conv => lhs; unfold B1
            rw [← HB.out, if_neg h9, if_pos h1, ← HX.out]
        case measure => simp [intOf]; omega
      have h1' : b < 128 := by omega
      by_cases h0 : b = 0 ∧ 0 < k
      · obtain ⟨rfl, hk0⟩ := h0
        clear ha hX
        go_wp2
        all_goals
          refine bodyPost_ret (results_tmp3 rfl _ _ _) rfl ⟨?_, rfl⟩
          rw [HV.out, HD.out]
          unfold B1
          rw [← HB.out, if_neg h9, if_neg h1, if_pos ⟨rfl, hk0⟩]
          rfl
      have hN := KB a b k hb2 hk9 ha h9 (by omega)
      rw [← hX] at hN
      have HX := Ja hX
      clear ha hX
      by_cases e9 : k = 9
      · subst e9
        rw [show (2 : Int) ^ (7 * 9) = 9223372036854775808 from rfl] at hN
        have hb1 : b ≤ 1 := by omega
        by_cases hl2 : most < X
        · go_wp2
          all_goals
            refine bodyPost_ret (results_tmp3 rfl _ _ _) rfl ⟨?_, rfl⟩
            rw [HV.out, HD.out]
            unfold B1
            rw [← HB.out, if_neg (by omega), if_neg h1, if_neg (by omega), ← HX.out, if_pos hl2]
            rfl
        · go_wp2
          all_goals
            refine bodyPost_ret (results_tmp3 rfl _ _ _) rfl ⟨?_, rfl⟩
            rw [HV.out, HD.out]
            unfold B1
            rw [← HB.out, if_neg (by omega), if_neg h1, if_neg (by omega), ← HX.out, if_neg hl2]
            rfl
      have hk8 : k ≤ 8 := by omega
      by_cases hl2 : most < X
      · go_wp2
        all_goals
          refine bodyPost_ret (results_tmp3 rfl _ _ _) rfl ⟨?_, rfl⟩
          rw [HV.out, HD.out]
          unfold B1
          rw [← HB.out, if_neg h9, if_neg h1, if_neg h0, ← HX.out, if_pos hl2]
          rfl
      · go_wp2
        all_goals
          refine bodyPost_ret (results_tmp3 rfl _ _ _) rfl ⟨?_, rfl⟩
          rw [HV.out, HD.out]
          unfold B1
          rw [← HB.out, if_neg h9, if_neg h1, if_neg h0, ← HX.out, if_neg hl2]
          rfl
    · have hk' : k = l.length := by omega
      have hd : l.drop k = [] := by rw [hk']; exact List.drop_length
      have HD := Ja hd
      clear hd hk' ha hm
      go_wp2
      refine bodyPost_ret (results_tmp3 rfl _ _ _) rfl ⟨?_, rfl⟩
      rw [HV.out, HD.out]
      rfl
end Go.Proofs.YtnknboibmifacaaGreatDoor
namespace Go.Proofs.YtnknboibmifacaaGreatDoor
open Go.RowKit
end Go.Proofs.YtnknboibmifacaaGreatDoor
namespace Go.Proofs.YtnknboibmifacaaGreatDoor
open Go.RowKit
def W6 (S : Nat → Prop) (w : World) (p : Nat) (A : Option Addr) (c : Nat) (b l : List UInt8) (f : Nat) : Prop :=
  ∃ j, j ≤ b.length ∧ l = b.drop j ∧ C5 w p 210 #[.slice A b.length c, .int .i64 (j : Int), .int .i64 (f : Int)] ∧ Bs S w A c b ∧ b.length ≤ 140737488355328 ∧ ∀ k, S k → ¬ Ni p k
theorem W6.mod {S T : Nat → Prop} {w w' : World} {p c f : Nat} {A : Option Addr} {b l : List UInt8} (h : W6 S w p A c b l f) (hm : Mod T w w') (hp : ¬ T p) (hn : ∀ k, S k → ¬ T k) : W6 S w' p A c b l f := by
 obtain ⟨j, hj, hl, hr, hs, hb, hne⟩ := h
 exact ⟨j, hj, hl, hr.mod hm hp, hs.mod hm hn, hb, hne⟩
theorem W6.lt {S : Nat → Prop} {w : World} {p c f : Nat} {A : Option Addr} {b l : List UInt8} (h : W6 S w p A c b l f) : p < w.heap.size := by
 obtain ⟨_, _, _, hr, _⟩ := h
 exact hr.lt
end Go.Proofs.YtnknboibmifacaaGreatDoor
namespace Go.Proofs.YtnknboibmifacaaGreatDoor
theorem Ji (most : Nat) : ∀ (l : List UInt8) (k a : Nat), (B1 most l k a).2.2 = 0 →
    ∃ m, (B1 most l k a).1 = a + m * 2 ^ (7 * k) ∧ (0 < k → m ≠ 0) ∧ k < (B1 most l k a).2.1 ∧ l.take ((B1 most l k a).2.1 - k) = DO m
  | [], k, a, h => by cases h
  | c :: r, k, a, h => by
    unfold B1 at h ⊢
    by_cases h1 : k = 9 ∧ 1 < c.toNat
    · rw [if_pos h1] at h; cases h
    rw [if_neg h1] at h ⊢
    have hc := UInt8.toNat_lt c
    by_cases h2 : 128 ≤ c.toNat
    · rw [if_pos h2] at h ⊢
      obtain ⟨m, e, hm, hk, ht⟩ := Ji most r (k + 1) _ h
      have hm := hm (by omega)
      refine ⟨c.toNat % 128 + 128 * m, ?_, fun _ => by omega, by omega, ?_⟩
      · rw [e, show 7 * (k + 1) = 7 * k + 7 by omega, Nat.pow_add, Nat.add_mul, Nat.add_assoc]
        congr 2
        rw [show (2 : Nat) ^ 7 = 128 by decide, Nat.mul_comm (2 ^ (7 * k)) 128, ← Nat.mul_assoc, Nat.mul_comm m 128]
      · rw [Hr (by omega), show (c.toNat % 128 + 128 * m) / 128 = m by omega, ← ht]
        obtain ⟨j, hj⟩ : ∃ j, (B1 most r (k + 1) (a + c.toNat % 128 * 2 ^ (7 * k))).2.1 = k + 1 + (j + 1) := ⟨(B1 most r (k + 1) (a + c.toNat % 128 * 2 ^ (7 * k))).2.1 - (k + 2), by omega⟩
        rw [hj, show k + 1 + (j + 1) - k = (j + 1) + 1 by omega, show k + 1 + (j + 1) - (k + 1) = j + 1 by omega, List.take_succ_cons]
        congr 1
        apply UInt8.toNat_inj.1
        rw [UInt8.toNat_ofNat']
        omega
    rw [if_neg h2] at h ⊢
    by_cases h3 : c.toNat = 0 ∧ 0 < k
    · rw [if_pos h3] at h; cases h
    rw [if_neg h3] at h ⊢
    by_cases h4 : most < a + c.toNat % 128 * 2 ^ (7 * k)
    · rw [if_pos h4] at h; cases h
    rw [if_neg h4] at h ⊢
    refine ⟨c.toNat, by rw [Nat.mod_eq_of_lt (by omega)], fun hk => by omega, by show k < k + 1; omega, ?_⟩
    show (c :: r).take (k + 1 - k) = _
    rw [show k + 1 - k = 0 + 1 by omega, List.take_succ_cons, Fu (by omega)]
    simp
theorem Rf {most : Nat} {l : List UInt8} (h : (Cv most l 0).2.2 = 0) : l = DO (Cv most l 0).1 ++ (Cv most l 0).2.1 := by
 have e : Cv most l 0 = ((B1 most l 0 0).1, l.drop (B1 most l 0 0).2.1, (B1 most l 0 0).2.2) := by
  unfold Cv; rw [if_neg (by simp)]
 rw [e] at h ⊢
 obtain ⟨m, e1, _, _, e2⟩ := Ji most l 0 0 h
 show l = DO (B1 most l 0 0).1 ++ l.drop (B1 most l 0 0).2.1
 rw [show (B1 most l 0 0).1 = m by rw [e1]; simp, ← e2, Nat.sub_zero, List.take_append_drop]
theorem ND {n : Nat} (h : n < 18446744073709551616) : -9223372036854775808 ≤ Ql n ∧ Ql n ≤ 9223372036854775807 := by
 unfold Ql
 split <;> omega
theorem Kd (most : Nat) (l : List UInt8) (f : Nat) : (Cv most l f).1 < 18446744073709551616 := by
  unfold Cv
  split
  · show (0 : Nat) < _; decide
  · rcases Hq most l 0 0 (by omega) (by decide) with ⟨_, _, _, _, h⟩ | ⟨h, _⟩
    · exact h
    · show (B1 most l 0 0).1 < _
      rw [h]; decide
theorem O5 (l : List UInt8) (f : Nat) : -9223372036854775808 ≤ (O1 l f).1 ∧ (O1 l f).1 ≤ 9223372036854775807 := ND (Kd _ _ _)
theorem KE (most : Nat) (l : List UInt8) (f : Nat) : (Bl most l f).1 < 256 := by
  unfold Bl
  split
  · show (0 : Nat) < _; decide
  · cases l with
    | nil => show (0 : Nat) < _; decide
    | cons b r =>
      have hb := UInt8.toNat_lt b
      simp only
      split
      · show (0 : Nat) < _; decide
      · exact hb
theorem O6 {most : Int} {l : List UInt8} (h : (Cw most l 0).2.2 = 0) : l = DO (Cw most l 0).1.length ++ (Cw most l 0).1 ++ (Cw most l 0).2.1 := by
  unfold Cw at h ⊢
  rw [if_neg (by simp)] at h ⊢
  by_cases h1 : (B1 most.toNat l 0 0).2.2 ≠ 0
  · rw [if_pos h1] at h; exact absurd h h1
  rw [if_neg h1] at h ⊢
  by_cases h2 : l.length - (B1 most.toNat l 0 0).2.1 < (B1 most.toNat l 0 0).1
  · rw [if_pos h2] at h; cases h
  rw [if_neg h2]
  obtain ⟨m, e1, _, _, e2⟩ := Ji most.toNat l 0 0 (by omega)
  obtain ⟨j, hj⟩ : ∃ j, j = (B1 most.toNat l 0 0).2.1 := ⟨_, rfl⟩
  obtain ⟨n, hn⟩ : ∃ n, n = (B1 most.toNat l 0 0).1 := ⟨_, rfl⟩
  rw [← hj, Nat.sub_zero] at e2
  rw [← hn] at e1
  rw [← hj, ← hn] at h2 ⊢
  have hm : m = n := by rw [e1]; simp
  subst hm
  show l = DO ((l.drop j).take m).length ++ (l.drop j).take m ++ l.drop (j + m)
  rw [List.length_take, List.length_drop, Nat.min_eq_left (by omega), ← e2, List.append_assoc, ← List.drop_drop, List.take_append_drop, List.take_append_drop]
theorem NE {most f : Nat} {l : List UInt8} (h : f ≠ 0) : (Bl most l f).2.2 = f := by unfold Bl; rw [if_pos h]
theorem O7 {most f : Nat} {l : List UInt8} (h : f ≠ 0) : (Cv most l f).2.2 = f := by unfold Cv; rw [if_pos h]
theorem NF {most : Int} {f : Nat} {l : List UInt8} (h : f ≠ 0) : (Cw most l f).2.2 = f := by unfold Cw; rw [if_pos h]
theorem Rg {most : Nat} {l : List UInt8} {f : Nat} (h : (Cv most l f).2.2 = 0) : f = 0 ∧ l = DO (Cv most l f).1 ++ (Cv most l f).2.1 := by
  by_cases hf : f = 0
  · subst hf; exact ⟨rfl, Rf h⟩
  · rw [O7 hf] at h; exact absurd h hf
theorem O8 {most : Int} {l : List UInt8} {f : Nat} (h : (Cw most l f).2.2 = 0) : f = 0 ∧ l = DO (Cw most l f).1.length ++ (Cw most l f).1 ++ (Cw most l f).2.1 := by
  by_cases hf : f = 0
  · subst hf; exact ⟨rfl, O6 h⟩
  · rw [NF hf] at h; exact absurd h hf
end Go.Proofs.YtnknboibmifacaaGreatDoor
namespace Go.Proofs.YtnknboibmifacaaGreatDoor
theorem SL (k : Nat) : (2 : Nat) ^ (7 * (k + 1)) = 128 * 2 ^ (7 * k) := by rw [Nat.mul_add, Nat.pow_add]; omega
theorem Ke (n : Nat) (h : n < 256) : (UInt8.ofNat n).toNat = n := by simp [UInt8.toNat_ofNat']; omega
theorem Jj (n k a : Nat) : a + n % 128 * 2 ^ (7 * k) + n / 128 * 2 ^ (7 * (k + 1)) = a + n * 2 ^ (7 * k) := by
 rw [SL]
 have h : n = 128 * (n / 128) + n % 128 := by omega
 have h2 : n * 2 ^ (7 * k) = (128 * (n / 128) + n % 128) * 2 ^ (7 * k) := by rw [← h]
 rw [h2, Nat.add_mul, Nat.mul_comm 128 (n / 128), Nat.mul_assoc]
 omega
theorem Qn {n k a : Nat} (hs : a + n * 2 ^ (7 * k) < 18446744073709551616) (hk : k ≤ 9) (hn : 2 ≤ n) : k < 9 := by
  rcases Nat.lt_or_ge k 9 with h | h
  · exact h
  · have : k = 9 := by omega
    subst this
    have : 2 * 2 ^ (7 * 9) ≤ n * 2 ^ (7 * 9) := Nat.mul_le_mul_right _ hn
    omega
theorem SM (most : Nat) (n : Nat) : ∀ (k a : Nat) (r : List UInt8), (0 < k → 0 < n) → a + n * 2 ^ (7 * k) ≤ most → a + n * 2 ^ (7 * k) < 18446744073709551616 → k ≤ 9 →
    B1 most (DO n ++ r) k a = (a + n * 2 ^ (7 * k), k + (DO n).length, 0) := by
  induction n using Nat.strongRecOn with
  | _ n ih =>
    intro k a r h0 hm hs hk
    by_cases hn : n < 128
    · rw [Fu hn]
      simp only [List.cons_append, List.nil_append, List.length_cons, List.length_nil]
      unfold B1
      rw [Ke n (by omega), if_neg, if_neg (by omega), if_neg (by omega), Nat.mod_eq_of_lt hn, if_neg (by omega)]
      rintro ⟨rfl, h1⟩
      have := Qn hs hk h1
      omega
    · have hk9 := Qn hs hk (show 2 ≤ n by omega)
      rw [Hr (by omega)]
      simp only [List.cons_append, List.length_cons]
      unfold B1
      rw [Ke _ (by omega), if_neg (by omega), if_pos (by omega), show (n % 128 + 128) % 128 = n % 128 by omega]
      rw [ih (n / 128) (by omega) (k + 1) _ r (fun _ => by omega) (by rw [Jj]; exact hm) (by rw [Jj]; exact hs) (by omega), Jj]
      congr 2
      omega
theorem LY (most n : Nat) (r : List UInt8) (hm : n ≤ most) (hs : n < 18446744073709551616) : B1 most (DO n ++ r) 0 0 = (n, (DO n).length, 0) := by
 have := SM most n 0 0 r (by omega) (by simpa using hm) (by simpa using hs) (by omega)
 simpa using this
theorem Rh (most : Nat) (b : UInt8) (r : List UInt8) (h : b.toNat ≤ most) : Bl most (b :: r) 0 = (b.toNat, r, 0) := by
 simp only [Bl]
 rw [if_neg (by simp), if_neg (by omega)]
theorem SN (most n : Nat) (r : List UInt8) (hm : n ≤ most) (hs : n < 18446744073709551616) : Cv most (DO n ++ r) 0 = (n, r, 0) := by
 unfold Cv
 rw [if_neg (by simp), LY most n r hm hs]
 simp
theorem Ri (most : Int) (t r : List UInt8) (hm : (t.length : Int) ≤ most) (hs : t.length < 18446744073709551616) : Cw most (DO t.length ++ t ++ r) 0 = (t, r, 0) := by
 unfold Cw
 rw [if_neg (by simp), List.append_assoc, LY most.toNat t.length (t ++ r) (by omega) hs]
 simp only [List.length_append, List.drop_append_of_le_length (Nat.le_refl _), List.drop_length, List.nil_append]
 rw [if_neg (by simp), if_neg (by omega)]
 simp [List.drop_append, Nat.add_sub_cancel_left]
theorem NG {most f : Nat} {l : List UInt8} (h : f ≠ 0) : Bl most l f = (0, l, f) := by simp [Bl, h]
theorem O9 {most f : Nat} {l : List UInt8} (h : f ≠ 0) : Cv most l f = (0, l, f) := by simp [Cv, h]
theorem NH {most : Int} {f : Nat} {l : List UInt8} (h : f ≠ 0) : Cw most l f = ([], l, f) := by simp [Cw, h]
def MK (D l : List UInt8) (f : Nat) : Prop := f = 10 ∨ (f = 0 ∧ ∃ m, m < D.length ∧ l = D.take m)
theorem MK.parts {B R l : List UInt8} {f : Nat} (h : MK (B ++ R) l f) : f = 10 ∨ (f = 0 ∧ ∃ m, m < B.length ∧ l = B.take m) ∨ (f = 0 ∧ ∃ m, m < R.length ∧ l = B ++ R.take m) := by
  rcases h with h | ⟨h, m, hm, rfl⟩
  · exact .inl h
  · rw [List.length_append] at hm
    by_cases hb : m < B.length
    · exact .inr (.inl ⟨h, m, hb, List.take_append_of_le_length (by omega)⟩)
    · obtain ⟨j, rfl⟩ : ∃ j, m = B.length + j := ⟨m - B.length, by omega⟩
      exact .inr (.inr ⟨h, j, by omega, List.take_length_add_append ..⟩)
theorem MK.end_ {l : List UInt8} {f : Nat} (h : MK [] l f) : EZ l f = 10 := by
  rcases h with rfl | ⟨_, m, hm, _⟩
  · unfold EZ; rw [if_neg (by omega)]
  · simp at hm
end Go.Proofs.YtnknboibmifacaaGreatDoor
namespace Go.Proofs.YtnknboibmifacaaGreatDoor
structure CmdD where
  k : Int
  s : Int
  q : Int
  a : Int
  b : Int
  hi : Int
  lo : Int
  sc : Int
  x : List UInt8
  y : List UInt8
deriving DecidableEq
def CmdD.zero : CmdD := ⟨0, 0, 0, 0, 0, 0, 0, 0, [], []⟩
def OS (n : Int) : Prop := 0 ≤ n ∧ n ≤ 18446744073709551615
def Qo (n : Int) : Prop := -9223372036854775808 ≤ n ∧ n ≤ 9223372036854775807
structure CmdD.ok (c : CmdD) : Prop where
  k : Qo c.k
  s : OS c.s
  q : OS c.q
  a : OS c.a
  b : OS c.b
  hi : Qo c.hi
  lo : OS c.lo
  sc : Qo c.sc
  x : c.x.length ≤ 9223372036854775807
  y : c.y.length ≤ 9223372036854775807
def fo (k : Int) : Nat := if k = 6 ∨ k = 8 then 31 else if k = 4 ∨ k = 5 then 23 else if k = 9 then 7 else if k = 7 then 115 else if k = 11 then 99 else if k = 3 ∨ k = 10 then 35 else if k = 2 then 39 else if k = 1 then 1 else 0
def H1 (h f : Nat) : Bool := (h &&& f) != 0
def GH (n : Int) : Bool := decide (n ≥ 1) && decide (n ≤ 72057594037927935)
def Uv (b : UInt8) : Bool := decide (65 ≤ b.toNat) && decide (b.toNat ≤ 90)
def DM (l : List UInt8) : Bool := decide (l.length = 3) && l.all Uv
def XB (n : Int) : Bool := decide (n ≥ 0) && decide (n ≤ 18)
def Pa (has right zero : Bool) : Bool := match has with | true => right | false => zero
def W7 (c : CmdD) : Bool := c.hi == 0 && (c.lo == 0 && c.sc == 0)
def SO (c : CmdD) : Bool :=
  fo c.k != 0 && Pa (H1 (fo c.k) 1) (GH c.s) (c.s == 0) && Pa (H1 (fo c.k) 2) (GH c.q) (c.q == 0) && Pa (H1 (fo c.k) 4) true (c.a == 0) && Pa (H1 (fo c.k) 8) true (c.b == 0)
    && Pa (H1 (fo c.k) 16) (XB c.sc) (W7 c) && Pa (H1 (fo c.k) 32) (DM c.x) (c.x == []) && Pa (H1 (fo c.k) 64) (DM c.y) (c.y == [])
def F2 (n : Int) : List UInt8 := DO n.toNat
def W8 (b : Bool) (r : Nat × List UInt8 × Nat) (l : List UInt8) (f : Nat) : Nat × List UInt8 × Nat := match b with | true => r | false => (0, l, f)
def Wa (l : List UInt8) (f : Nat) : (Int × Nat × Nat) × List UInt8 × Nat :=
  (((O1 (Bl 18 l f).2.1 (Bl 18 l f).2.2).1, (Cv 18446744073709551615 (O1 (Bl 18 l f).2.1 (Bl 18 l f).2.2).2.1 (O1 (Bl 18 l f).2.1 (Bl 18 l f).2.2).2.2).1, (Bl 18 l f).1), (Cv 18446744073709551615 (O1 (Bl 18 l f).2.1 (Bl 18 l f).2.2).2.1 (O1 (Bl 18 l f).2.1 (Bl 18 l f).2.2).2.2).2)
def Wb (l : List UInt8) (f : Nat) : List UInt8 × List UInt8 × Nat :=
  ([UInt8.ofNat (Bl 90 l f).1, UInt8.ofNat (Bl 90 (Bl 90 l f).2.1 (Bl 90 l f).2.2).1, UInt8.ofNat (Bl 90 (Bl 90 (Bl 90 l f).2.1 (Bl 90 l f).2.2).2.1 (Bl 90 (Bl 90 l f).2.1 (Bl 90 l f).2.2).2.2).1], (Bl 90 (Bl 90 (Bl 90 l f).2.1 (Bl 90 l f).2.2).2.1 (Bl 90 (Bl 90 l f).2.1 (Bl 90 l f).2.2).2.2).2)
def W9 (b : Bool) (l : List UInt8) (f : Nat) : (Int × Nat × Nat) × List UInt8 × Nat := match b with | true => Wa l f | false => ((0, 0, 0), l, f)
def Wc (b : Bool) (l : List UInt8) (f : Nat) : List UInt8 × List UInt8 × Nat := match b with | true => Wb l f | false => ([], l, f)
structure Read (l : List UInt8) (c : CmdD) (l' : List UInt8) (f' : Nat) where
  mk ::
  n0 : Nat
  l0 : List UInt8
  f0 : Nat
  h0 : Bl 11 l 0 = (n0, l0, f0)
  n1 : Nat
  l1 : List UInt8
  f1 : Nat
  h1 : W8 (H1 (fo (n0 : Int)) 1) (Cv 72057594037927935 l0 f0) l0 f0 = (n1, l1, f1)
  n2 : Nat
  l2 : List UInt8
  f2 : Nat
  h2 : W8 (H1 (fo (n0 : Int)) 2) (Cv 72057594037927935 l1 f1) l1 f1 = (n2, l2, f2)
  n3 : Nat
  l3 : List UInt8
  f3 : Nat
  h3 : W8 (H1 (fo (n0 : Int)) 4) (Cv 18446744073709551615 l2 f2) l2 f2 = (n3, l3, f3)
  n4 : Nat
  l4 : List UInt8
  f4 : Nat
  h4 : W8 (H1 (fo (n0 : Int)) 8) (Cv 18446744073709551615 l3 f3) l3 f3 = (n4, l4, f4)
  hi : Int
  lo : Nat
  sc : Nat
  l5 : List UInt8
  f5 : Nat
  h5 : W9 (H1 (fo (n0 : Int)) 16) l4 f4 = ((hi, lo, sc), l5, f5)
  x : List UInt8
  l6 : List UInt8
  f6 : Nat
  h6 : Wc (H1 (fo (n0 : Int)) 32) l5 f5 = (x, l6, f6)
  y : List UInt8
  h7 : Wc (H1 (fo (n0 : Int)) 64) l6 f6 = (y, l', f')
  hc : c = ⟨(n0 : Int), (n1 : Int), (n2 : Int), (n3 : Int), (n4 : Int), hi, (lo : Int), (sc : Int), x, y⟩
structure Decoded (l : List UInt8) (c : CmdD) (e : Nat) : Prop where
  is : (l.length > 128 ∧ c = .zero ∧ e = 12) ∨ (l.length ≤ 128 ∧ ∃ c0 l' f', Nonempty (Read l c0 l' f') ∧ ((EZ l' f' ≠ 0 ∧ c = .zero ∧ e = EZ l' f') ∨ (EZ l' f' = 0 ∧ SO c0 = false ∧ c = .zero ∧ e = 11) ∨ (EZ l' f' = 0 ∧ SO c0 = true ∧ c = c0 ∧ e = 0)))
theorem Ht {l : List UInt8} (h : DM l = true) : ∃ a b c, l = [a, b, c] ∧ Uv a = true ∧ Uv b = true ∧ Uv c = true := by
  unfold DM at h
  simp only [Bool.and_eq_true, decide_eq_true_eq] at h
  obtain ⟨h1, h2⟩ := h
  match l, h1 with
  | [a, b, c], _ => exact ⟨a, b, c, rfl, by simpa using h2⟩
theorem NI {n : Int} (h : GH n = true) : 1 ≤ n ∧ n ≤ 72057594037927935 := by
 unfold GH at h
 simpa using h
theorem Hu {n : Int} (h : n ≤ 72057594037927935) : (F2 n).length ≤ 8 := DZ 7 _ (by omega)
theorem NJ {most : Nat} {l : List UInt8} {f : Nat} (h : (Bl most l f).2.2 = 0) : f = 0 ∧ (Bl most l f).1 ≤ most ∧ (Bl most l f).1 < 256 ∧ l = UInt8.ofNat (Bl most l f).1 :: (Bl most l f).2.1 := by
  by_cases hf : f = 0
  · subst hf
    unfold Bl at h ⊢
    rw [if_neg (by simp)] at h ⊢
    cases l with
    | nil => cases h
    | cons b r =>
      have hb := UInt8.toNat_lt b
      simp only at h ⊢
      by_cases hm : most < b.toNat
      · rw [if_pos hm] at h; cases h
      · rw [if_neg hm]
        exact ⟨trivial, by show b.toNat ≤ most; omega, hb, by simp⟩
  · rw [NE hf] at h; exact absurd h hf
theorem ML {b : Bool} {most : Nat} {l : List UInt8} {f n f' : Nat} {l' : List UInt8} (h : W8 b (Cv most l f) l f = (n, l', f')) : n < 18446744073709551616 := by
  cases b with
  | true =>
    have h' : Cv most l f = (n, l', f') := h
    have := Kd most l f
    rwa [h'] at this
  | false =>
    have h' : (0, l, f) = (n, l', f') := h
    simp only [Prod.mk.injEq] at h'
    rw [← h'.1]; decide
theorem Uw {b : Bool} {hi : Int} {lo sc f f' : Nat} {l l' : List UInt8} (h : W9 b l f = ((hi, lo, sc), l', f')) : Qo hi ∧ lo < 18446744073709551616 ∧ sc < 256 := by
  cases b with
  | true =>
    have h' : Wa l f = ((hi, lo, sc), l', f') := h
    unfold Wa at h'
    simp only [Prod.mk.injEq] at h'
    obtain ⟨⟨rfl, rfl, rfl⟩, _⟩ := h'
    exact ⟨O5 _ _, Kd _ _ _, KE _ _ _⟩
  | false =>
    have h' : (((0 : Int), (0 : Nat), (0 : Nat)), l, f) = ((hi, lo, sc), l', f') := h
    simp only [Prod.mk.injEq] at h'
    obtain ⟨⟨rfl, rfl, rfl⟩, _⟩ := h'
    exact ⟨⟨by decide, by decide⟩, by decide, by decide⟩
theorem Qp {b : Bool} {x : List UInt8} {f f' : Nat} {l l' : List UInt8} (h : Wc b l f = (x, l', f')) : x.length ≤ 3 := by
  cases b with
  | true =>
    have h' : Wb l f = (x, l', f') := h
    unfold Wb at h'
    simp only [Prod.mk.injEq] at h'
    rw [← h'.1]; simp
  | false =>
    have h' : (([] : List UInt8), l, f) = (x, l', f') := h
    simp only [Prod.mk.injEq] at h'
    rw [← h'.1]; simp
theorem Read.ok {l l' : List UInt8} {c : CmdD} {f' : Nat} (h : Read l c l' f') : c.ok := by
 obtain ⟨n0, l0, f0, h0, n1, l1, f1, h1, n2, l2, f2, h2, n3, l3, f3, h3, n4, l4, f4, h4, hi, lo, sc, l5, f5, h5, x, l6, f6, h6, y, h7, rfl⟩ := h
 have b0 := KE 11 l 0
 rw [h0] at b0
 have b1 := ML h1
 have b2 := ML h2
 have b3 := ML h3
 have b4 := ML h4
 obtain ⟨b5, b6, b7⟩ := Uw h5
 have b8 := Qp h6
 have b9 := Qp h7
 have b0 : n0 < 256 := b0
 exact ⟨⟨by simp only; omega, by simp only; omega⟩, ⟨by simp only; omega, by simp only; omega⟩, ⟨by simp only; omega, by simp only; omega⟩, ⟨by simp only; omega, by simp only; omega⟩, ⟨by simp only; omega, by simp only; omega⟩, b5, ⟨by simp only; omega, by simp only; omega⟩, ⟨by simp only; omega, by simp only; omega⟩, by simp only; omega, by simp only; omega⟩
theorem Read.one {l l1 l2 : List UInt8} {c1 c2 : CmdD} {f1 f2 : Nat} (h : Read l c1 l1 f1) (g : Read l c2 l2 f2) : c1 = c2 ∧ l1 = l2 ∧ f1 = f2 := by
 obtain ⟨n0, l0, f0, h0, n1, l1', f1', h1, n2, l2', f2', h2, n3, l3, f3, h3, n4, l4, f4, h4, hi, lo, sc, l5, f5, h5, x, l6, f6, h6, y, h7, rfl⟩ := h
 obtain ⟨m0, k0, g0, i0, m1, k1, g1, i1, m2, k2, g2, i2, m3, k3, g3, i3, m4, k4, g4, i4, hi', lo', sc', k5, g5, i5, x', k6, g6, i6, y', i7, rfl⟩ := g
 have e0 := h0.symm.trans i0; simp only [Prod.mk.injEq] at e0; obtain ⟨rfl, rfl, rfl⟩ := e0
 have e1 := h1.symm.trans i1; simp only [Prod.mk.injEq] at e1; obtain ⟨rfl, rfl, rfl⟩ := e1
 have e2 := h2.symm.trans i2; simp only [Prod.mk.injEq] at e2; obtain ⟨rfl, rfl, rfl⟩ := e2
 have e3 := h3.symm.trans i3; simp only [Prod.mk.injEq] at e3; obtain ⟨rfl, rfl, rfl⟩ := e3
 have e4 := h4.symm.trans i4; simp only [Prod.mk.injEq] at e4; obtain ⟨rfl, rfl, rfl⟩ := e4
 have e5 := h5.symm.trans i5; simp only [Prod.mk.injEq] at e5; obtain ⟨⟨rfl, rfl, rfl⟩, rfl, rfl⟩ := e5
 have e6 := h6.symm.trans i6; simp only [Prod.mk.injEq] at e6; obtain ⟨rfl, rfl, rfl⟩ := e6
 have e7 := h7.symm.trans i7; simp only [Prod.mk.injEq] at e7; obtain ⟨rfl, rfl, rfl⟩ := e7
 exact ⟨rfl, rfl, rfl⟩
theorem Decoded.one {l : List UInt8} {c1 c2 : CmdD} {e1 e2 : Nat} (h : Decoded l c1 e1) (g : Decoded l c2 e2) : c1 = c2 ∧ e1 = e2 := by
  rcases h.is with ⟨h1, h2, h3⟩ | ⟨h1, a, b, d, ⟨hr⟩, h2⟩ <;> rcases g.is with ⟨g1, g2, g3⟩ | ⟨g1, a', b', d', ⟨gr⟩, g2⟩
  · exact ⟨h2.trans g2.symm, h3.trans g3.symm⟩
  · omega
  · omega
  · obtain ⟨rfl, rfl, rfl⟩ := hr.one gr
    rcases h2 with ⟨p, q, r⟩ | ⟨p, q, r, t⟩ | ⟨p, q, r, t⟩ <;> rcases g2 with ⟨p', q', r'⟩ | ⟨p', q', r', t'⟩ | ⟨p', q', r', t'⟩
    all_goals first
      | exact ⟨q.trans q'.symm, r.trans r'.symm⟩
      | exact ⟨r.trans r'.symm, t.trans t'.symm⟩
      | exact absurd p' p
      | exact absurd p p'
      | (rw [q] at q'; cases q')
end Go.Proofs.YtnknboibmifacaaGreatDoor
namespace Go.Proofs.YtnknboibmifacaaGreatDoor.Sep
open Go.RowKit
open Go.Proofs.YtnknboibmifacaaGreatDoor.Mem (AR B3 Chg Av)
theorem NK (l : List UInt8) : flat encB l = LU l := by
  induction l with
  | nil => rfl
  | cons x l ih => rw [DH, ih]; rfl
def D9 (w : World) (v : Value) (l : List UInt8) : Prop := ∃ A c, v = .slice A l.length c ∧ Bs (fun _ => True) w A c l
section
variable {u w w0 : World} {v : Value} {l : List UInt8} {X : Ass} {B : Nat → Prop} {os : List Ass} {rs : List RowT}
theorem D9.below (h : D9 u v l) (hb : Below u.heap.size u w) : D9 w v l := by
 obtain ⟨A, c, e, h⟩ := h
 exact ⟨A, c, e, h.old hb⟩
theorem D9.rd (h : D9 w v l) : Dd w 1 v l.length (flat encB l) := by
  obtain ⟨A, c, rfl, h⟩ := h
  refine ⟨by rw [NK, Fl, Nat.mul_one], A, c, rfl, ?_⟩
  rcases Nat.eq_zero_or_pos l.length with h0 | h0
  · cases A with
    | none => exact .inl ⟨rfl, h0⟩
    | some a =>
      refine .inr ⟨a, rfl, fun j x hx => ?_⟩
      rw [NK] at hx
      have := (List.getElem?_eq_some_iff.1 hx).1
      rw [Fl] at this
      omega
  · obtain ⟨g, o, rfl, _, hc⟩ := h.2.2 h0
    refine .inr ⟨_, rfl, fun j x hx => ?_⟩
    rw [NK] at hx
    obtain ⟨b, hb, rfl⟩ := Qe hx
    rw [Addr.add_lit]
    exact hc j b hb
theorem D9.cells (h : D9 w v l) : v.cells = #[v] := by
 obtain ⟨A, c, rfl, _⟩ := h
 rfl
theorem En (h : D9 u v l) (hU : Below u.heap.size u w0) (hS : ∀ k, B k → u.heap.size ≤ k) (hH : Hp B w0 w os) : D9 w v l := by
 have hm : Below u.heap.size w0 w := hH.up.below hU.size hS
 exact h.below (hU.trans hm)
theorem IN {base : Nat} (h : GB 5 w base v l) : ∃ rs, Ak 5 1 encB v l rs ∧ RowsOf w rs ∧ AR rs ∧ ∀ x ∈ rs, At v x.1 ∧ base ≤ x.1 := by
  obtain ⟨h1, h2⟩ := h
  rcases h2 with ⟨hv, hn⟩ | ⟨g, cap, cur, hv, hb, hg, hnc, hm, hs, ht⟩
  · exact ⟨[], .inl ⟨hv, List.eq_nil_of_length_eq_zero hn, rfl⟩, trivial, trivial, fun x hx => by cases hx⟩
  · refine ⟨[(g, EO 5, cur)], .inr ⟨g, cap, cur, hv, hnc, hm, hs, by rw [NK]; exact ht, rfl⟩, ⟨hg, trivial⟩, ⟨(fun _ h => by cases h), trivial⟩, fun x hx => ?_⟩
    have : x = (g, EO 5, cur) := by simpa using hx
    subst this
    exact ⟨by rw [hv]; rfl, hb⟩
theorem Qq (h : Ak 5 1 encB v l rs) (hr : RowsOf w rs) : GB 5 w 0 v l := by
  refine ⟨by rw [Fl, Nat.mul_one], ?_⟩
  rcases h with ⟨h1, h2, _⟩ | ⟨g, c, cs, h1, h2, h3, h4, h5, h6⟩
  · exact .inl ⟨h1, by rw [h2]; rfl⟩
  · subst h6
    exact .inr ⟨g, c, cs, h1, Nat.zero_le _, hr.1, h2, h3, h4, by rw [← NK]; exact h5⟩
theorem IP (h : Ak 5 1 encB v l rs) (hr : RowsOf w rs) : D9 w v l := by
 obtain ⟨A, c, e, hb⟩ := (Qq h hr).form
 exact ⟨A, c, e, hb.weaken fun _ _ _ => trivial⟩
theorem Hp.sl8 (h : Hp B w0 w os) (i : Nat) (hi : os[i]? = some (Ak 5 1 encB v l)) : D9 w v l := by
 obtain ⟨rs, h1, h2⟩ := h.thing i hi
 exact IP h1 h2
def E3 (X : Ass) (v : Value) (l : List UInt8) : Prop := ∀ rs w, X rs → RowsOf w rs → D9 w v l
theorem E3.rd (h : E3 X v l) : Rd X 1 encB v l := fun rs w h1 h2 => (h rs w h1 h2).rd
theorem DI : E3 (Ak 5 1 encB v l) v l := fun _ _ h1 h2 => IP h1 h2
theorem E3.drop {A : Option Addr} {c k : Nat} (h : E3 X (.slice A l.length c) l) (hk : k ≤ l.length) : E3 X (.slice (if c = k then A else A.map (·.add k)) (l.drop k).length (c - k)) (l.drop k) := fun rs w h1 h2 => by
  obtain ⟨A', c', e, hb⟩ := h rs w h1 h2
  simp only [Value.slice.injEq] at e
  obtain ⟨rfl, _, rfl⟩ := e
  exact ⟨_, _, rfl, hb.drop hk⟩
theorem KF {A : Option Addr} {n c k : Nat} (hl : l.length - k = n) (hn : l.length = n + k) : Ca 1 (.slice A l.length c) k l.length = .slice (if c = k then A else A.map (·.add k)) n (c - k) := by
  show Value.slice (if c = k then A else A.map (·.add (k * 1))) (l.length - k) (c - k) = _
  rw [Nat.mul_one, hl]
theorem Hp.rd8 (h : Hp B w0 w os) (i : Nat) (hi : os[i]? = some X) (hu : E3 X v l) : D9 w v l := by
 obtain ⟨rs, h1, h2⟩ := h.thing i hi
 exact hu rs w h1 h2
end
section
variable {P : Program} {F : FuncId} {args : Array Value} {l : List UInt8} {X : Ass} {u : World}
theorem Kf {w w' : World} {rs rs' : List RowT} (hr : RowsOf w rs) (hd : AR rs) (hb : Below w.heap.size w w') (h1 : RowsOf w' rs') (h2 : AR rs') (h3 : ∀ x ∈ rs', w.heap.size ≤ x.1) : Chg w w' rs (rs ++ rs') := by
  refine ⟨Mod.of_below hb _, Bt.2 fun x hx => ?_, Mem.dist_app hd h2 fun x hx y hy e => ?_, fun x hx hlt => ?_⟩
  · rcases List.mem_append.1 hx with h | h
    · exact (hr.mem x h).below hb (hr.mem x h).lt
    · exact h1.mem x h
  · have := (hr.mem x hx).lt
    have := h3 y hy
    omega
  · rcases List.mem_append.1 hx with h | h
    · exact ⟨x, h, rfl⟩
    · have := h3 x h
      omega
theorem LZ (h : ∀ w rs, X rs → RowsOf w rs → Calls P F args w fun e w' => ∃ v', e = .returned v' ∧ GB 5 w' w.heap.size v' l ∧ Below w.heap.size w w') : AP P F args [X] (fun v : Value => v) (fun v => [X, Ak 5 1 encB v l]) := fun w rs h1 h2 h3 => by
 have hX := h1.one'
 refine (h w rs hX h2).mono ?_
 rintro e w' ⟨v, he, ho, hb⟩
 obtain ⟨rs', hv, hr, hd, hx⟩ := IN ho
 exact ⟨v, he, rs ++ rs', ⟨rs, rs', rfl, hX, Al.one hv⟩, Kf h2 h3 hb hr hd fun x h => (hx x h).2⟩
theorem Rj (h : ∀ w, Below u.heap.size u w → Calls P F args w fun e w' => ∃ v', e = .returned v' ∧ GB 5 w' w.heap.size v' l ∧ Below w.heap.size w w') : ES u P F args [] (fun v : Value => v) (fun v => [Ak 5 1 encB v l]) := fun w rs hU _ h1 h2 h3 => by
 unfold Al at h1
 subst h1
 refine (h w hU).mono ?_
 rintro e w' ⟨v, he, ho, hb⟩
 obtain ⟨rs', hv, hr, hd, hx⟩ := IN ho
 exact ⟨v, he, rs', Al.one hv, by simpa using Kf (rs := []) trivial trivial hb hr hd fun x h => (hx x h).2⟩
end
theorem FQ {X : Ass} {v : Value} {l : List UInt8} (h : E3 X v l) (hl : l.length ≤ 140737488355328) : AP Tryz.prog 114 #[v] [X] (fun v : Value => v) (fun v => [X, Ak 5 1 encB v l]) :=
 LZ fun w rs h1 h2 => by
  obtain ⟨A, c, rfl, hb⟩ := h rs w h1 h2
  exact Jh w A c l hb hl
theorem Ux (u : World) {v : Value} {l : List UInt8} (h : D9 u v l) (hl : l.length ≤ 140737488355328) : ES u Tryz.prog 114 #[v] [] (fun v : Value => v) (fun v => [Ak 5 1 encB v l]) :=
 Rj fun w hU => by
  obtain ⟨A, c, rfl, hb⟩ := h.below hU
  exact Jh w A c l hb hl
def LH (g : Nat) (l : List UInt8) : Ass := fun rs => ∃ v, Al [cell g 222 #[v], Ak 5 1 encB v l] rs
theorem Pb {w : World} {rs : List RowT} {g : Nat} {l : List UInt8} (h : LH g l rs) (hr : RowsOf w rs) : ∃ v rv, rs = (g, EO 222, #[v]) :: rv ∧ Ak 5 1 encB v l rv ∧ NC w g v l := by
 obtain ⟨v, a, b, rfl, h1, h2⟩ := h
 unfold cell at h1
 subst h1
 have h3 := h2.one'
 exact ⟨v, b, rfl, h3, hr.1, Qq h3 hr.2⟩
theorem Qr {F : FuncId} {args : Array Value} {g : Nat} {l m : List UInt8} (h : ∀ w v, NC w g v l → Calls Tryz.prog F args w fun e w' => ∃ v', e = .returned (.tuple #[]) ∧ NC w' g v' m ∧ Mod (Ia g v) w w' ∧ ∀ k, At v' k → At v k ∨ w.heap.size ≤ k) : AP Tryz.prog F args [LH g l] (fun _ : Unit => .tuple #[]) (fun _ => [LH g m]) := fun w rs h1 h2 h3 => by
  obtain ⟨v, rv, rfl, hv, hw⟩ := Pb h1.one' h2
  refine (h w v hw).mono ?_
  rintro e w' ⟨v', he, hw', hm, ha⟩
  obtain ⟨rs', hv', hr', hd', hx⟩ := IN hw'.2
  have hblk : ∀ k, Ia g v k → k < w.heap.size → B3 ((g, EO 222, #[v]) :: rv) k := by
    rintro k (rfl | hk) _
    · exact ⟨_, List.mem_cons_self, rfl⟩
    · rcases hv with ⟨e1, _, _⟩ | ⟨g', c, cs, e1, _, _, _, _, e6⟩
      · subst e1; exact absurd hk At.none
      · subst e1; subst e6
        exact ⟨(g', EO 5, cs), by simp, (At.iff.1 hk).symm⟩
  refine ⟨(), he, (g, EO 222, #[v']) :: rs', Al.one ⟨v', [(g, EO 222, #[v'])], rs', rfl, rfl, Al.one hv'⟩, hm.weaken fun k hk hf => hblk k hf hk, ⟨hw'.1, hr'⟩, ⟨fun y hy e => hw'.2.ne_row hw'.1 (by decide) ((show y.1 = g from e) ▸ (hx y hy).1), hd'⟩, fun x hxm hlt => ?_⟩
  rcases List.mem_cons.1 hxm with rfl | hxm
  · exact ⟨_, List.mem_cons_self, rfl⟩
  · rcases ha _ (hx x hxm).1 with h | h
    · exact hblk _ (.inr h) hlt
    · omega
theorem Wd : AP Tryz.prog 141 #[] [] (fun g : Nat => .pointer (some ⟨g, 0, none⟩)) (fun g => [LH g []]) := fun w rs h1 _ _ => by
  unfold Al at h1
  subst h1
  refine (LP w).mono ?_
  rintro e w' ⟨p, he, hp, hw, hb⟩
  obtain ⟨rs', hv', hr', hd', hx⟩ := IN hw.2
  refine ⟨p, he, (p, EO 222, #[.slice none 0 0]) :: rs', Al.one ⟨_, [(p, EO 222, #[.slice none 0 0])], rs', rfl, rfl, Al.one hv'⟩, ?_⟩
  have h0 : ∀ y ∈ rs', False := fun y hy => At.none (hx y hy).1
  refine ⟨Mod.of_below hb _, ⟨hw.1, hr'⟩, ⟨fun y hy => (h0 y hy).elim, hd'⟩, fun x hxm hlt => ?_⟩
  rcases List.mem_cons.1 hxm with rfl | hxm
  · omega
  · exact (h0 x hxm).elim
theorem Qs (g : Nat) (l : List UInt8) (n : Int) (hn : 0 ≤ n ∧ n < 256) (r : List UInt8) (hr : l ++ [UInt8.ofNat n.toNat] = r) (hl : l.length + 1 ≤ 140737488355328) : AP Tryz.prog 142 #[.pointer (some ⟨g, 0, none⟩), .int .u8 n] [LH g l] (fun _ : Unit => .tuple #[]) (fun _ => [LH g r]) := by
 subst hr
 have e : n = ((UInt8.ofNat n.toNat).toNat : Int) := by rw [Ke _ (by omega)]; omega
 generalize UInt8.ofNat n.toNat = b at e ⊢
 subst e
 exact Qr fun w v hw => KC w g v l b hw hl
theorem SP (g : Nat) (l : List UInt8) (n : Int) (hn : OS n) (r : List UInt8) (hr : l ++ F2 n = r) (hl : l.length + 10 ≤ 140737488355328) : AP Tryz.prog 143 #[.pointer (some ⟨g, 0, none⟩), .int .u64 n] [LH g l] (fun _ : Unit => .tuple #[]) (fun _ => [LH g r]) := by
 subst hr
 have e : n = (n.toNat : Int) := by have := hn.1; omega
 have h2 : n.toNat < 18446744073709551616 := by have := hn.2; omega
 unfold F2
 generalize n.toNat = m at e h2 ⊢
 subst e
 exact Qr fun w v hw => H0 w g v l m hw h2 hl
theorem KG (g : Nat) (l : List UInt8) (hl : l.length ≤ 140737488355328) : AP Tryz.prog 145 #[.pointer (some ⟨g, 0, none⟩)] [LH g l] (fun v : Value => v) (fun v => [LH g l, Ak 5 1 encB v l]) :=
 LZ fun w rs h1 h2 => by
  obtain ⟨v, rv, rfl, hv, hw⟩ := Pb h1 h2
  exact J9 w g v l hw hl
section
variable {u : World} {B : Value} {b l l' : List UInt8} {g f f' : Nat} {F : FuncId} {args : Array Value} {val : Value}
end
def DU (g : Nat) (l : List UInt8) (f : Nat) : Ass := fun rs => ∃ (X : Ass) (A : Option Addr) (c : Nat), E3 X (.slice A l.length c) l ∧ l.length ≤ 140737488355328 ∧ Al [cell g 241 #[.slice A l.length c, .int .i64 (f : Int)], X] rs
theorem DU.open_ {g f : Nat} {l : List UInt8} : ∀ rs, DU g l f rs → ∃ x : { x : Ass × Option Addr × Nat // E3 x.1 (.slice x.2.1 l.length x.2.2) l ∧ l.length ≤ 140737488355328 }, Al [cell g 241 #[.slice x.1.2.1 l.length x.1.2.2, .int .i64 (f : Int)], x.1.1] rs :=
 fun _ ⟨X, A, c, h1, h2, h3⟩ => ⟨⟨(X, A, c), h1, h2⟩, h3⟩
theorem DU.mk_ {g f : Nat} {l : List UInt8} {X : Ass} {A : Option Addr} {n c : Nat} (hn : l.length = n) (h1 : E3 X (.slice A l.length c) l) (h2 : l.length ≤ 140737488355328) : ∀ rs, Al [cell g 241 #[.slice A n c, .int .i64 (f : Int)], X] rs → DU g l f rs :=
 fun _ h3 => by subst hn; exact ⟨X, A, c, h1, h2, h3⟩
end Go.Proofs.YtnknboibmifacaaGreatDoor.Sep
