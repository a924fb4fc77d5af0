/-
  Bits · Writer · Varint · RefLay · RefRead · OneMath · Read · CmdM · RdT
-/
import Derived.Test.YtjcfimmcogkopaaAA06
import Derived.WalkKit
import Derived.Deep.QuietTactic
import Derived.BigQuiet
set_option linter.unusedSimpArgs false
set_option linter.unusedVariables false

namespace Go.Proofs.Ytjcfimmcogkopaa
open Go.RowKit

theorem andNot_128 (b : Nat) (h : b < 256) : bits .andNot .u8 (b : Int) 128 = ((b % 128 : Nat) : Int) := by
  have : ∀ x : Fin 256, bits .andNot .u8 ((x.val : Nat) : Int) 128 = ((x.val % 128 : Nat) : Int) := by decide +kernel
  exact this ⟨b, h⟩

theorem ofInt_u64 (a : Nat) (ha : a < 18446744073709551616) : (BitVec.ofInt 64 (a : Int)).toNat = a := by
  rw [BitVec.ofInt_natCast, BitVec.toNat_ofNat]; exact Nat.mod_eq_of_lt (by omega)

theorem u64_wrap_nat (a : Nat) (ha : a < 18446744073709551616) : IntKind.u64.wrap (a : Int) = (a : Int) := by
  simp [IntKind.wrap, IntKind.signed, IntKind.bits]
  omega

theorem u64_or_nat (a b : Nat) (ha : a < 18446744073709551616) (hb : b < 18446744073709551616) : bits .or .u64 (a : Int) (b : Int) = ((a ||| b : Nat) : Int) := by
  have hx : a ||| b < 2 ^ 64 := Nat.or_lt_two_pow (by omega) (by omega)
  show IntKind.u64.wrap ((BitVec.ofInt 64 (a : Int) ||| BitVec.ofInt 64 (b : Int)).toNat : Int) = _
  rw [BitVec.toNat_or, ofInt_u64 a ha, ofInt_u64 b hb]
  exact u64_wrap_nat _ hx

/-- the next digit of a varint -/
theorem next_digit (a b k : Nat) (hb : b < 256) (hk : k ≤ 9) (ha : a < 2 ^ (7 * k)) (h9 : ¬ (k = 9 ∧ 1 < b)) (h1 : k = 9 → b < 128) :
    bits .or .u64 (a : Int) (IntKind.u64.wrap (IntKind.u64.wrap (bits .andNot .u8 (b : Int) 128) * 2 ^ (7 * k))) = ((a + b % 128 * 2 ^ (7 * k) : Nat) : Int) := by
  have hm : b % 128 * 2 ^ (7 * k) + a < 18446744073709551616 := by
    by_cases h : k = 9
    · subst h
      have hc1 : b % 128 * 2 ^ (7 * 9) ≤ 1 * 2 ^ (7 * 9) := Nat.mul_le_mul_right _ (by omega)
      omega
    · have : (2 : Nat) ^ (7 * k) ≤ 2 ^ 56 := Nat.pow_le_pow_right (by omega) (by omega)
      have hc1 : b % 128 * 2 ^ (7 * k) ≤ 127 * 2 ^ (7 * k) := Nat.mul_le_mul_right _ (by omega)
      omega
  rw [andNot_128 b hb, u64_wrap_nat _ (by omega)]
  have e : ((b % 128 : Nat) : Int) * 2 ^ (7 * k) = ((b % 128 * 2 ^ (7 * k) : Nat) : Int) := by
    rw [Int.natCast_mul, Int.natCast_pow]; rfl
  rw [e, u64_wrap_nat _ (by omega), u64_or_nat _ _ (by omega) (by omega)]
  congr 1
  rw [Nat.or_comm, Nat.add_comm, ← Nat.shiftLeft_eq, Nat.shiftLeft_add_eq_or_of_lt ha]

theorem ret_int {k : IntKind} {a b : Int} (h : a = b) : Ending.returned (.int k a) = .returned (.int k b) := by rw [h]

end Go.Proofs.Ytjcfimmcogkopaa

namespace Go.Proofs.Ytjcfimmcogkopaa
open Go.RowKit

/-- At block p lies a Writer that holds the bytes l, in the slice v. -/
def Wtr (w : World) (p : Nat) (v : Value) (l : List UInt8) : Prop := Row w p 97 #[v] ∧ Own 5 w 0 v l
/-- its blocks -/
def Foot (p : Nat) (v : Value) : Nat → Prop := fun k => k = p ∨ At v k

theorem Wtr.mod {S : Nat → Prop} {w w' : World} {p : Nat} {v : Value} {l : List UInt8} (h : Wtr w p v l) (hm : Mod S w w') (hn : ∀ k, Foot p v k → ¬ S k) : Wtr w' p v l :=
  ⟨h.1.mod hm (hn p (.inl rfl)), h.2.mod hm (fun k hk => hn k (.inr hk))⟩
theorem Wtr.lt {w : World} {p : Nat} {v : Value} {l : List UInt8} (h : Wtr w p v l) : ∀ k, Foot p v k → k < w.heap.size := by
  rintro k (rfl | hk)
  · exact h.1.lt
  · exact (h.2.lt k hk).2

theorem newWriter_any (w : World) :
    Calls Try.prog 41 #[] w fun e w' => ∃ p, e = .returned (.pointer (some ⟨p, 0, none⟩)) ∧ w.heap.size ≤ p ∧ Wtr w' p (.slice none 0 0) [] ∧ Below w.heap.size w w' := by
  go_enter Try.func41, Try.ntmps41
  go_wp2
  go_ret
  exact ⟨w.heap.size, rfl, Nat.le_refl _, ⟨Row.new _ _ _, Own.nil _ _ _⟩, (Below.refl _ _).alloc (Nat.le_refl _) _⟩

theorem writerByte_any (w : World) (p : Nat) (v : Value) (l : List UInt8) (b : UInt8) (h : Wtr w p v l) (hl : l.length + 1 ≤ 140737488355328) :
    Calls Try.prog 43 #[.pointer (some ⟨p, 0, none⟩), .int .u8 (b.toNat : Int)] w fun e w' =>
      ∃ v', e = .returned (.tuple #[]) ∧ Wtr w' p v' (l ++ [b]) ∧ Mod (Foot p v) w w' ∧ ∀ k, At v' k → At v k ∨ w.heap.size ≤ k := by
  obtain ⟨hr, ho⟩ := h
  have hp := hr.lt
  have hne := ho.ne_row hr (by decide)
  obtain ⟨A, c, rfl, hs⟩ := ho.form
  have h0 := hr.cell 0
  have f0 := hr.frozen 0
  simp at h0
  go_enter Try.func43, Try.ntmps43
  have own1 : Own 5 (w.alloc (.cells #[.int .u8 (b.toNat : Int)] 5)) 0 (.slice A l.length c) l := ho.mod ((Mod.refl Nil w).alloc _) (fun _ _ hf => hf)
  have hr1 := hr.alloc (.cells #[.int .u8 (b.toNat : Int)] 5)
  have hsz : w.heap.size < (w.alloc (.cells #[.int .u8 (b.toNat : Int)] 5)).heap.size := by simp
  go_wp2_with (at_builtin; refine wpList_append_bs (t := 29) tyU8 rfl (.tmp 8) (.tmp 10) rfl own1 (Nat.zero_le _) (one_src w 5 b rfl) (l.length + 1) rfl rfl rfl hl ?_; intro A1 c1 w1 ho1 hm1 ha1; have hr2 := hr1.mod hm1 hne; have k0 := hr2.cell 0; have g0 := hr2.frozen 0; simp at k0; have hne1 := ho1.ne_row hr2 (by decide))
  go_end0
  refine ⟨_, rfl, ⟨hr2.set 0 _, ho1.mod (Mod.one _ _ _ _) (fun k hk e => by subst e; exact hne1 hk)⟩, ?_, fun k hk => ?_⟩
  · refine (((Mod.refl (Foot p (.slice A l.length c)) w).alloc _).trans hm1 (fun k _ hk => .inr hk)).trans (Mod.one _ _ _ _) (fun k _ hk => .inl hk)
  · rcases ha1 k hk with h | h
    · exact .inl h
    · right; simp at h; omega

theorem u8_byte (n : Nat) (h : n < 256) : (UInt8.ofNat n).toNat = n := by simp [UInt8.toNat_ofNat']; omega
theorem or_128 (b : Nat) (h : b < 256) : bits .or .u8 (b : Int) 128 = ((b % 128 + 128 : Nat) : Int) := by
  have : ∀ x : Fin 256, bits .or .u8 ((x.val : Nat) : Int) 128 = ((x.val % 128 + 128 : Nat) : Int) := by decide +kernel
  exact this ⟨b, h⟩

set_option maxRecDepth 100000 in
theorem writerNum_any (w : World) (p : Nat) (v : Value) (l : List UInt8) (n : Nat) (h : Wtr w p v l) (hn : n < 18446744073709551616) (hl : l.length + 10 ≤ 140737488355328) :
    Calls Try.prog 42 #[.pointer (some ⟨p, 0, none⟩), .int .u64 (n : Int)] w fun e w' =>
      ∃ v', e = .returned (.tuple #[]) ∧ Wtr w' p v' (l ++ vlay n) ∧ Mod (Foot p v) w w' ∧ ∀ k, At v' k → At v k ∨ w.heap.size ≤ k := by
  have hvl := vlay_length n hn
  obtain ⟨N, hN⟩ : ∃ N, N = vlay n := ⟨_, rfl⟩
  rw [← hN] at hvl ⊢
  have HN := hid hN
  have HNB := hid hn
  clear hN hn
  go_enter Try.func42, Try.ntmps42
  go_wp2
  go_loopw [1] (fun x wr => ∃ (y : Nat) (v1 : Value) (l1 : List UInt8), x = .int .u64 (y : Int) ∧ y < 18446744073709551616 ∧ N = l1 ++ vlay y ∧ Wtr wr p v1 (l ++ l1) ∧ Mod (Foot p v) w wr ∧ ∀ k, At v1 k → At v k ∨ w.heap.size ≤ k) (fun x _ => (intOf x).toNat)
  case atStart => exact ⟨n, v, [], rfl, HNB.out, by rw [HN.out]; rfl, by simpa using h, Mod.refl _ _, fun k hk => .inl hk⟩
  case round =>
    obtain ⟨y, v1, l1, rfl, hy, hN, hw, hm, ha⟩ := hrel
    have hpos := vlay_pos y
    have hlN : N.length = l1.length + (vlay y).length := by rw [hN]; simp
    obtain ⟨L, hL⟩ : ∃ L, L = l ++ l1 := ⟨_, rfl⟩
    have hll : L.length + 1 ≤ 140737488355328 := by rw [hL, List.length_append]; omega
    rw [← hL] at hw
    clear hlN
    have HL := hid hL
    have HNN := hid hN
    have HY := hid hy
    clear hN hy hL hpos
    obtain ⟨hr, ho⟩ := hw
    have hp := hr.lt
    have hne := ho.ne_row hr (by decide)
    obtain ⟨A, c, rfl, hs⟩ := ho.form
    have h0 := hr.cell 0
    have f0 := hr.frozen 0
    simp only [List.getElem?_toArray, List.getElem?_cons_zero] at h0
    by_cases h128 : 128 ≤ y
    · have hx : bits .or .u8 ((y : Int) % 256) 128 = ((UInt8.ofNat (y % 128 + 128)).toNat : Int) := by
        rw [u8_byte _ (by omega), show (y : Int) % 256 = ((y % 256 : Nat) : Int) by omega, or_128 _ (by omega)]
        congr 2; omega
      obtain ⟨b, hb⟩ : ∃ b, b = UInt8.ofNat (y % 128 + 128) := ⟨_, rfl⟩
      rw [← hb] at hx
      have HB := hid hb
      have own1 : Own 5 (wr.alloc (.cells #[.int .u8 (b.toNat : Int)] 5)) 0 (.slice A L.length c) L := ho.mod ((Mod.refl Nil wr).alloc _) (fun _ _ hf => hf)
      have hr1 := hr.alloc (.cells #[.int .u8 (b.toNat : Int)] 5)
      clear hb
      go_wp2_with (at_builtin; refine wpList_append_bs (t := 29) tyU8 rfl (.tmp 10) (.tmp 14) rfl own1 (Nat.zero_le _) (one_src wr 5 b rfl) (L.length + 1) rfl rfl rfl hll ?_; intro A1 c1 w1 ho1 hm1 ha1; have hr2 := hr1.mod hm1 hne; have k0 := hr2.cell 0; have g0 := hr2.frozen 0; simp at k0; have hne1 := ho1.ne_row hr2 (by decide))
      have hfoot : Mod (Foot p v) w (w1.setCell ⟨p, 0, none⟩ (.slice A1 (L.length + 1) c1)) := hm.trans ((((Mod.refl (Foot p (.slice A L.length c)) wr).alloc _).trans hm1 (fun k _ hk => .inr hk)).trans (Mod.one _ _ _ _) (fun k _ hk => .inl hk)) (fun k hk hf => by
        rcases hf with hf | hf
        · exact .inl hf
        · rcases ha k hf with hf | hf
          · exact .inr hf
          · omega)
      have hws : w.heap.size ≤ wr.heap.size := hm.size
      go_roundw
      case rel =>
        refine ⟨y / 128, .slice A1 (L.length + 1) c1, l1 ++ [b], by go_num, by have := HY.out; omega, ?_, ⟨?_, ?_⟩, hfoot, ?_⟩
        · rw [HNN.out, vlay_more h128, ← HB.out]; simp
        · exact hr2.set 0 _
        · rw [← List.append_assoc, ← HL.out]
          exact ho1.mod (Mod.one _ _ _ _) (fun k hk e => by subst e; exact hne1 hk)
        · intro k hk
          rcases ha1 k hk with h | h
          · exact ha k h
          · right; simp at h; omega
      case measure => simp [intOf]; omega
    · have hyb : y < 128 := by omega
      obtain ⟨b, hb⟩ : ∃ b, b = UInt8.ofNat y := ⟨_, rfl⟩
      have hx : (y : Int) = (b.toNat : Int) := by rw [hb, u8_byte _ (by omega)]
      have HB := hid hb
      have HX := hid hx
      have own1 : Own 5 (wr.alloc (.cells #[.int .u8 (y : Int)] 5)) 0 (.slice A L.length c) L := ho.mod ((Mod.refl Nil wr).alloc _) (fun _ _ hf => hf)
      have hr1 := hr.alloc (.cells #[.int .u8 (y : Int)] 5)
      clear hb hx
      go_wp2_with (at_builtin; refine wpList_append_bs (t := 29) tyU8 rfl (.tmp 24) (.tmp 27) rfl own1 (Nat.zero_le _) (one_src wr 5 b HX.out) (L.length + 1) rfl rfl rfl hll ?_; intro A1 c1 w1 ho1 hm1 ha1; have hr2 := hr1.mod hm1 hne; have k0 := hr2.cell 0; have g0 := hr2.frozen 0; simp at k0; have hne1 := ho1.ne_row hr2 (by decide))
      have hfoot : Mod (Foot p v) w (w1.setCell ⟨p, 0, none⟩ (.slice A1 (L.length + 1) c1)) := hm.trans ((((Mod.refl (Foot p (.slice A L.length c)) wr).alloc _).trans hm1 (fun k _ hk => .inr hk)).trans (Mod.one _ _ _ _) (fun k _ hk => .inl hk)) (fun k hk hf => by
        rcases hf with hf | hf
        · exact .inl hf
        · rcases ha k hf with hf | hf
          · exact .inr hf
          · omega)
      have hws : w.heap.size ≤ wr.heap.size := hm.size
      go_end0
      refine ⟨_, rfl, ⟨hr2.set 0 _, ?_⟩, hfoot, ?_⟩
      · rw [HNN.out, vlay_small hyb, ← HB.out, ← List.append_assoc, ← HL.out]
        exact ho1.mod (Mod.one _ _ _ _) (fun k hk e => by subst e; exact hne1 hk)
      · intro k hk
        rcases ha1 k hk with h | h
        · exact ha k h
        · right; simp at h; omega

theorem writerText_any {S : Nat → Prop} (w : World) (p : Nat) (v : Value) (l : List UInt8) (A : Option Addr) (c : Nat) (m : List UInt8) (h : Wtr w p v l) (hm : Bs S w A c m) (hS : ∀ k, S k → ¬ Foot p v k) (hl : l.length + m.length + 10 ≤ 140737488355328) :
    Calls Try.prog 44 #[.pointer (some ⟨p, 0, none⟩), .slice A m.length c] w fun e w' =>
      ∃ v', e = .returned (.tuple #[]) ∧ Wtr w' p v' (l ++ vlay m.length ++ m) ∧ Mod (Foot p v) w w' ∧ ∀ k, At v' k → At v k ∨ w.heap.size ≤ k := by
  have hC := writerNum_any w p v l m.length h (by omega) (by omega)
  have HC := hid hC
  clear hC
  have hvl := vlay_length m.length (by omega)
  obtain ⟨L, hL⟩ : ∃ L, L = l ++ vlay m.length := ⟨_, rfl⟩
  have hLl : L.length + m.length ≤ 140737488355328 := by rw [hL, List.length_append]; omega
  rw [← hL] at HC ⊢
  clear hvl hL
  obtain ⟨M, hM⟩ : ∃ M, M = L.length + m.length := ⟨_, rfl⟩
  rw [← hM] at hLl
  have HM := hid hM
  clear hM
  go_enter Try.func44, Try.ntmps44
  go_wp2_with (first
    | (go_at_call 42; refine Calls.mono HC.out ?_; rintro e w1 ⟨v1, rfl, ⟨hr1, ho1⟩, hm1, ha1⟩; have hne1 := ho1.ne_row hr1 (by decide); obtain ⟨A1, c1, rfl, hs1⟩ := ho1.form; have h0 := hr1.cell 0; have f0 := hr1.frozen 0; simp only [List.getElem?_toArray, List.getElem?_cons_zero] at h0; have hm' := hm.mod hm1 hS)
    | (at_builtin; refine wpList_append_bs (t := 29) tyU8 rfl (.tmp 13) (.tmp 14) rfl ho1 (Nat.zero_le _) hm' M HM.out rfl rfl hLl ?_; intro A2 c2 w2 ho2 hm2 ha2; have hr2 := hr1.mod hm2 hne1; have k0 := hr2.cell 0; have g0 := hr2.frozen 0; simp only [List.getElem?_toArray, List.getElem?_cons_zero] at k0; have hne2 := ho2.ne_row hr2 (by decide)))
  go_end0
  refine ⟨_, rfl, ⟨hr2.set 0 _, ho2.mod (Mod.one _ _ _ _) (fun k hk e => by subst e; exact hne2 hk)⟩, ?_, ?_⟩
  · refine (hm1.trans hm2 (fun k hk hk1 => ?_)).trans (Mod.one _ _ _ _) (fun k _ hk => .inl hk)
    rcases ha1 k hk1 with h | h
    · exact .inr h
    · omega
  · intro k hk
    have hws := hm1.size
    rcases ha2 k hk with h | h
    · exact ha1 k h
    · right; omega

theorem writerBytes_any (w : World) (p : Nat) (v : Value) (l : List UInt8) (h : Wtr w p v l) (hl : l.length ≤ 140737488355328) :
    Calls Try.prog 45 #[.pointer (some ⟨p, 0, none⟩)] w fun e w' => ∃ v', e = .returned v' ∧ Own 5 w' w.heap.size v' l ∧ Below w.heap.size w w' := by
  obtain ⟨hr, ho⟩ := h
  obtain ⟨A, c, rfl, hs⟩ := ho.form
  have h0 := hr.cell 0
  have f0 := hr.frozen 0
  simp only [List.getElem?_toArray, List.getElem?_cons_zero] at h0
  go_enter Try.func45, Try.ntmps45
  go_wp2_with (go_at_call 32; refine (clone_any w A c l hs hl).mono ?_; rintro e w' ⟨v', rfl, ho', hb⟩)
  go_ret
  exact ⟨_, rfl, ho', hb⟩
end Go.Proofs.Ytjcfimmcogkopaa

namespace Go.Proofs.Ytjcfimmcogkopaa
open Go.RowKit

set_option maxRecDepth 100000 in
theorem varint_any {S : Nat → Prop} (w : World) (A : Option Addr) (c : Nat) (l : List UInt8) (most : Nat) (h : Bs S w A c l) (hl : l.length ≤ 140737488355328) (hm : most < 18446744073709551616) :
    Calls Try.prog 55 #[.slice A l.length c, .int .u64 (most : Int)] w fun e w' =>
      e = .returned (.tuple #[.int .u64 ((vnum most l 0 0).1 : Int), .int .i64 ((vnum most l 0 0).2.1 : Int), .int .i64 ((vnum most l 0 0).2.2 : Int)]) ∧ w = w' := by
  go_enter Try.func55, Try.ntmps55
  go_wp2
  go_loop [4, 7, 8, 11] (fun n _ _ i => ∃ k a : Nat, k ≤ l.length ∧ k ≤ 9 ∧ a < 2 ^ (7 * k) ∧ vnum most l 0 0 = vnum most (l.drop k) k a ∧ i = .int .i64 k ∧ n = .int .u64 a) (fun _ _ _ i => l.length - (intOf i).toNat)
  case atStart => exact ⟨0, 0, Nat.zero_le _, by omega, by decide, rfl, rfl, rfl⟩
  case round =>
    obtain ⟨k, a, hk, hk9, ha, hv, rfl, rfl⟩ := hrel
    have HV := hid hv
    clear hv
    by_cases hlt : k < l.length
    · obtain ⟨g, o, rfl, hs, hc⟩ := h.2.2 (by omega)
      have hb := hc k l[k] (List.getElem?_eq_getElem hlt)
      unfold u8v at hb
      clear hc
      obtain ⟨b, hbb⟩ : ∃ b : Nat, b = (l[k]).toNat := ⟨_, rfl⟩
      have hb2 : b < 256 := by rw [hbb]; exact UInt8.toNat_lt _
      rw [← hbb] at hb
      have HB := hid hbb
      clear hbb
      have hd : l.drop k = l[k] :: l.drop (k + 1) := List.drop_eq_getElem_cons hlt
      have HD := hid hd
      clear hd
      have HA := hid ha
      have HM := hid hm
      clear hm
      by_cases h9 : k = 9 ∧ 1 < b
      · obtain ⟨rfl, hb1⟩ := h9
        clear ha
        go_wp2
        refine bodyPost_ret (results_tmp3 rfl _ _ _) rfl ⟨?_, rfl⟩
        rw [HV.out, HD.out]
        unfold vnum
        rw [← HB.out, if_pos ⟨rfl, hb1⟩]
        rfl
      obtain ⟨X, hX⟩ : ∃ X : Nat, X = a + b % 128 * 2 ^ (7 * k) := ⟨_, rfl⟩
      by_cases h1 : 128 ≤ b
      · have hk8 : k ≤ 8 := by omega
        have hN := next_digit a b k hb2 hk9 ha h9 (by omega)
        rw [← hX] at hN
        have HX := hid hX
        clear ha hX
        go_wp2
        go_round
        case rel =>
          refine ⟨k + 1, X, by omega, by omega, ?_, ?_, by go_num, rfl⟩
          · have hp : (2 : Nat) ^ (7 * (k + 1)) = 128 * 2 ^ (7 * k) := by rw [Nat.mul_add, Nat.pow_add]; omega
            have hc : b % 128 * 2 ^ (7 * k) ≤ 127 * 2 ^ (7 * k) := Nat.mul_le_mul_right _ (by omega)
            have := HA.out
            have := HX.out
            omega
          · rw [HV.out, HD.out]
            conv => lhs; unfold vnum
            rw [← HB.out, if_neg h9, if_pos h1, ← HX.out]
        case measure => simp [intOf]; omega
      have h1' : b < 128 := by omega
      by_cases h0 : b = 0 ∧ 0 < k
      · obtain ⟨rfl, hk0⟩ := h0
        clear ha hX
        go_wp2
        all_goals
          refine bodyPost_ret (results_tmp3 rfl _ _ _) rfl ⟨?_, rfl⟩
          rw [HV.out, HD.out]
          unfold vnum
          rw [← HB.out, if_neg h9, if_neg h1, if_pos ⟨rfl, hk0⟩]
          rfl
      have hN := next_digit a b k hb2 hk9 ha h9 (by omega)
      rw [← hX] at hN
      have HX := hid hX
      clear ha hX
      by_cases e9 : k = 9
      · subst e9
        rw [show (2 : Int) ^ (7 * 9) = 9223372036854775808 from rfl] at hN
        have hb1 : b ≤ 1 := by omega
        by_cases hl2 : most < X
        · go_wp2
          all_goals
            refine bodyPost_ret (results_tmp3 rfl _ _ _) rfl ⟨?_, rfl⟩
            rw [HV.out, HD.out]
            unfold vnum
            rw [← HB.out, if_neg (by omega), if_neg h1, if_neg (by omega), ← HX.out, if_pos hl2]
            rfl
        · go_wp2
          all_goals
            refine bodyPost_ret (results_tmp3 rfl _ _ _) rfl ⟨?_, rfl⟩
            rw [HV.out, HD.out]
            unfold vnum
            rw [← HB.out, if_neg (by omega), if_neg h1, if_neg (by omega), ← HX.out, if_neg hl2]
            rfl
      have hk8 : k ≤ 8 := by omega
      by_cases hl2 : most < X
      · go_wp2
        all_goals
          refine bodyPost_ret (results_tmp3 rfl _ _ _) rfl ⟨?_, rfl⟩
          rw [HV.out, HD.out]
          unfold vnum
          rw [← HB.out, if_neg h9, if_neg h1, if_neg h0, ← HX.out, if_pos hl2]
          rfl
      · go_wp2
        all_goals
          refine bodyPost_ret (results_tmp3 rfl _ _ _) rfl ⟨?_, rfl⟩
          rw [HV.out, HD.out]
          unfold vnum
          rw [← HB.out, if_neg h9, if_neg h1, if_neg h0, ← HX.out, if_neg hl2]
          rfl
    · have hk' : k = l.length := by omega
      have hd : l.drop k = [] := by rw [hk']; exact List.drop_length
      have HD := hid hd
      clear hd hk' ha hm
      go_wp2
      refine bodyPost_ret (results_tmp3 rfl _ _ _) rfl ⟨?_, rfl⟩
      rw [HV.out, HD.out]
      rfl
end Go.Proofs.Ytjcfimmcogkopaa

namespace Go.Proofs.Ytjcfimmcogkopaa
open Go.RowKit

end Go.Proofs.Ytjcfimmcogkopaa

namespace Go.Proofs.Ytjcfimmcogkopaa
open Go.RowKit

end Go.Proofs.Ytjcfimmcogkopaa

namespace Go.Proofs.Ytjcfimmcogkopaa

theorem vnum_conv (most : Nat) : ∀ (l : List UInt8) (k a : Nat), (vnum most l k a).2.2 = 0 →
    ∃ m, (vnum most l k a).1 = a + m * 2 ^ (7 * k) ∧ (0 < k → m ≠ 0) ∧ k < (vnum most l k a).2.1 ∧ l.take ((vnum most l k a).2.1 - k) = vlay m
  | [], k, a, h => by cases h
  | c :: r, k, a, h => by
    unfold vnum at h ⊢
    by_cases h1 : k = 9 ∧ 1 < c.toNat
    · rw [if_pos h1] at h; cases h
    rw [if_neg h1] at h ⊢
    have hc := UInt8.toNat_lt c
    by_cases h2 : 128 ≤ c.toNat
    · rw [if_pos h2] at h ⊢
      obtain ⟨m, e, hm, hk, ht⟩ := vnum_conv most r (k + 1) _ h
      have hm := hm (by omega)
      refine ⟨c.toNat % 128 + 128 * m, ?_, fun _ => by omega, by omega, ?_⟩
      · rw [e, show 7 * (k + 1) = 7 * k + 7 by omega, Nat.pow_add, Nat.add_mul, Nat.add_assoc]
        congr 2
        rw [show (2 : Nat) ^ 7 = 128 by decide, Nat.mul_comm (2 ^ (7 * k)) 128, ← Nat.mul_assoc, Nat.mul_comm m 128]
      · rw [vlay_more (by omega), show (c.toNat % 128 + 128 * m) / 128 = m by omega, ← ht]
        obtain ⟨j, hj⟩ : ∃ j, (vnum most r (k + 1) (a + c.toNat % 128 * 2 ^ (7 * k))).2.1 = k + 1 + (j + 1) := ⟨(vnum most r (k + 1) (a + c.toNat % 128 * 2 ^ (7 * k))).2.1 - (k + 2), by omega⟩
        rw [hj, show k + 1 + (j + 1) - k = (j + 1) + 1 by omega, show k + 1 + (j + 1) - (k + 1) = j + 1 by omega, List.take_succ_cons]
        congr 1
        apply UInt8.toNat_inj.1
        rw [UInt8.toNat_ofNat']
        omega
    rw [if_neg h2] at h ⊢
    by_cases h3 : c.toNat = 0 ∧ 0 < k
    · rw [if_pos h3] at h; cases h
    rw [if_neg h3] at h ⊢
    by_cases h4 : most < a + c.toNat % 128 * 2 ^ (7 * k)
    · rw [if_pos h4] at h; cases h
    rw [if_neg h4] at h ⊢
    refine ⟨c.toNat, by rw [Nat.mod_eq_of_lt (by omega)], fun hk => by omega, by show k < k + 1; omega, ?_⟩
    show (c :: r).take (k + 1 - k) = _
    rw [show k + 1 - k = 0 + 1 by omega, List.take_succ_cons, vlay_small (by omega)]
    simp

theorem rnum_conv {most : Nat} {l : List UInt8} (h : (rnum most l 0).2.2 = 0) : l = vlay (rnum most l 0).1 ++ (rnum most l 0).2.1 := by
  have e : rnum most l 0 = ((vnum most l 0 0).1, l.drop (vnum most l 0 0).2.1, (vnum most l 0 0).2.2) := by
    unfold rnum; rw [if_neg (by simp)]
  rw [e] at h ⊢
  obtain ⟨m, e1, _, _, e2⟩ := vnum_conv most l 0 0 h
  show l = vlay (vnum most l 0 0).1 ++ l.drop (vnum most l 0 0).2.1
  rw [show (vnum most l 0 0).1 = m by rw [e1]; simp, ← e2, Nat.sub_zero, List.take_append_drop]
theorem unzig_range {n : Nat} (h : n < 18446744073709551616) : -9223372036854775808 ≤ unzig n ∧ unzig n ≤ 9223372036854775807 := by
  unfold unzig
  split <;> omega
theorem rnum_lt (most : Nat) (l : List UInt8) (f : Nat) : (rnum most l f).1 < 18446744073709551616 := by
  unfold rnum
  split
  · show (0 : Nat) < _; decide
  · rcases vnum_ends most l 0 0 (by omega) (by decide) with ⟨_, _, _, _, h⟩ | ⟨h, _⟩
    · exact h
    · show (vnum most l 0 0).1 < _
      rw [h]; decide
theorem rint_range (l : List UInt8) (f : Nat) : -9223372036854775808 ≤ (rint l f).1 ∧ (rint l f).1 ≤ 9223372036854775807 := unzig_range (rnum_lt _ _ _)
theorem rbyte_lt (most : Nat) (l : List UInt8) (f : Nat) : (rbyte most l f).1 < 256 := by
  unfold rbyte
  split
  · show (0 : Nat) < _; decide
  · cases l with
    | nil => show (0 : Nat) < _; decide
    | cons b r =>
      have hb := UInt8.toNat_lt b
      simp only
      split
      · show (0 : Nat) < _; decide
      · exact hb
theorem rtext_conv {most : Int} {l : List UInt8} (h : (rtext most l 0).2.2 = 0) : l = vlay (rtext most l 0).1.length ++ (rtext most l 0).1 ++ (rtext most l 0).2.1 := by
  unfold rtext at h ⊢
  rw [if_neg (by simp)] at h ⊢
  by_cases h1 : (vnum most.toNat l 0 0).2.2 ≠ 0
  · rw [if_pos h1] at h; exact absurd h h1
  rw [if_neg h1] at h ⊢
  by_cases h2 : l.length - (vnum most.toNat l 0 0).2.1 < (vnum most.toNat l 0 0).1
  · rw [if_pos h2] at h; cases h
  rw [if_neg h2]
  obtain ⟨m, e1, _, _, e2⟩ := vnum_conv most.toNat l 0 0 (by omega)
  obtain ⟨j, hj⟩ : ∃ j, j = (vnum most.toNat l 0 0).2.1 := ⟨_, rfl⟩
  obtain ⟨n, hn⟩ : ∃ n, n = (vnum most.toNat l 0 0).1 := ⟨_, rfl⟩
  rw [← hj, Nat.sub_zero] at e2
  rw [← hn] at e1
  rw [← hj, ← hn] at h2 ⊢
  have hm : m = n := by rw [e1]; simp
  subst hm
  show l = vlay ((l.drop j).take m).length ++ (l.drop j).take m ++ l.drop (j + m)
  rw [List.length_take, List.length_drop, Nat.min_eq_left (by omega), ← e2, List.append_assoc, ← List.drop_drop, List.take_append_drop, List.take_append_drop]
/-- what was wrong stays so -/
theorem rbyte_wrong {most f : Nat} {l : List UInt8} (h : f ≠ 0) : (rbyte most l f).2.2 = f := by unfold rbyte; rw [if_pos h]
theorem rnum_wrong {most f : Nat} {l : List UInt8} (h : f ≠ 0) : (rnum most l f).2.2 = f := by unfold rnum; rw [if_pos h]
theorem rtext_wrong {most : Int} {f : Nat} {l : List UInt8} (h : f ≠ 0) : (rtext most l f).2.2 = f := by unfold rtext; rw [if_pos h]
theorem rnum_back {most : Nat} {l : List UInt8} {f : Nat} (h : (rnum most l f).2.2 = 0) : f = 0 ∧ l = vlay (rnum most l f).1 ++ (rnum most l f).2.1 := by
  by_cases hf : f = 0
  · subst hf; exact ⟨rfl, rnum_conv h⟩
  · rw [rnum_wrong hf] at h; exact absurd h hf
theorem rtext_back {most : Int} {l : List UInt8} {f : Nat} (h : (rtext most l f).2.2 = 0) : f = 0 ∧ l = vlay (rtext most l f).1.length ++ (rtext most l f).1 ++ (rtext most l f).2.1 := by
  by_cases hf : f = 0
  · subst hf; exact ⟨rfl, rtext_conv h⟩
  · rw [rtext_wrong hf] at h; exact absurd h hf
end Go.Proofs.Ytjcfimmcogkopaa

namespace Go.Proofs.Ytjcfimmcogkopaa

theorem pow_step (k : Nat) : (2 : Nat) ^ (7 * (k + 1)) = 128 * 2 ^ (7 * k) := by rw [Nat.mul_add, Nat.pow_add]; omega
theorem byte_of (n : Nat) (h : n < 256) : (UInt8.ofNat n).toNat = n := by simp [UInt8.toNat_ofNat']; omega
theorem digit_sum (n k a : Nat) : a + n % 128 * 2 ^ (7 * k) + n / 128 * 2 ^ (7 * (k + 1)) = a + n * 2 ^ (7 * k) := by
  rw [pow_step]
  have h : n = 128 * (n / 128) + n % 128 := by omega
  have h2 : n * 2 ^ (7 * k) = (128 * (n / 128) + n % 128) * 2 ^ (7 * k) := by rw [← h]
  rw [h2, Nat.add_mul, Nat.mul_comm 128 (n / 128), Nat.mul_assoc]
  omega
theorem small_k {n k a : Nat} (hs : a + n * 2 ^ (7 * k) < 18446744073709551616) (hk : k ≤ 9) (hn : 2 ≤ n) : k < 9 := by
  rcases Nat.lt_or_ge k 9 with h | h
  · exact h
  · have : k = 9 := by omega
    subst this
    have : 2 * 2 ^ (7 * 9) ≤ n * 2 ^ (7 * 9) := Nat.mul_le_mul_right _ hn
    omega

theorem vnum_lay (most : Nat) (n : Nat) : ∀ (k a : Nat) (r : List UInt8), (0 < k → 0 < n) → a + n * 2 ^ (7 * k) ≤ most → a + n * 2 ^ (7 * k) < 18446744073709551616 → k ≤ 9 →
    vnum most (vlay n ++ r) k a = (a + n * 2 ^ (7 * k), k + (vlay n).length, 0) := by
  induction n using Nat.strongRecOn with
  | _ n ih =>
    intro k a r h0 hm hs hk
    by_cases hn : n < 128
    · rw [vlay_small hn]
      simp only [List.cons_append, List.nil_append, List.length_cons, List.length_nil]
      unfold vnum
      rw [byte_of n (by omega), if_neg, if_neg (by omega), if_neg (by omega), Nat.mod_eq_of_lt hn, if_neg (by omega)]
      rintro ⟨rfl, h1⟩
      have := small_k hs hk h1
      omega
    · have hk9 := small_k hs hk (show 2 ≤ n by omega)
      rw [vlay_more (by omega)]
      simp only [List.cons_append, List.length_cons]
      unfold vnum
      rw [byte_of _ (by omega), if_neg (by omega), if_pos (by omega), show (n % 128 + 128) % 128 = n % 128 by omega]
      rw [ih (n / 128) (by omega) (k + 1) _ r (fun _ => by omega) (by rw [digit_sum]; exact hm) (by rw [digit_sum]; exact hs) (by omega), digit_sum]
      congr 2
      omega

theorem vnum_lay0 (most n : Nat) (r : List UInt8) (hm : n ≤ most) (hs : n < 18446744073709551616) : vnum most (vlay n ++ r) 0 0 = (n, (vlay n).length, 0) := by
  have := vnum_lay most n 0 0 r (by omega) (by simpa using hm) (by simpa using hs) (by omega)
  simpa using this
/-! ## whole -/
theorem rbyte_lay (most : Nat) (b : UInt8) (r : List UInt8) (h : b.toNat ≤ most) : rbyte most (b :: r) 0 = (b.toNat, r, 0) := by
  simp only [rbyte]
  rw [if_neg (by simp), if_neg (by omega)]
theorem rnum_lay (most n : Nat) (r : List UInt8) (hm : n ≤ most) (hs : n < 18446744073709551616) : rnum most (vlay n ++ r) 0 = (n, r, 0) := by
  unfold rnum
  rw [if_neg (by simp), vnum_lay0 most n r hm hs]
  simp
theorem rtext_lay (most : Int) (t r : List UInt8) (hm : (t.length : Int) ≤ most) (hs : t.length < 18446744073709551616) : rtext most (vlay t.length ++ t ++ r) 0 = (t, r, 0) := by
  unfold rtext
  rw [if_neg (by simp), List.append_assoc, vnum_lay0 most.toNat t.length (t ++ r) (by omega) hs]
  simp only [List.length_append, List.drop_append_of_le_length (Nat.le_refl _), List.drop_length, List.nil_append]
  rw [if_neg (by simp), if_neg (by omega)]
  simp [List.drop_append, Nat.add_sub_cancel_left]

/-! ## cut off -/
/-! ## a fault stays -/
theorem rbyte_stuck {most f : Nat} {l : List UInt8} (h : f ≠ 0) : rbyte most l f = (0, l, f) := by simp [rbyte, h]
theorem rnum_stuck {most f : Nat} {l : List UInt8} (h : f ≠ 0) : rnum most l f = (0, l, f) := by simp [rnum, h]
theorem rtext_stuck {most : Int} {f : Nat} {l : List UInt8} (h : f ≠ 0) : rtext most l f = ([], l, f) := by simp [rtext, h]

/-! ## a beginning of D, cut off, or a fault that says so -/
def CutInv (D l : List UInt8) (f : Nat) : Prop := f = 10 ∨ (f = 0 ∧ ∃ m, m < D.length ∧ l = D.take m)
theorem CutInv.parts {B R l : List UInt8} {f : Nat} (h : CutInv (B ++ R) l f) : f = 10 ∨ (f = 0 ∧ ∃ m, m < B.length ∧ l = B.take m) ∨ (f = 0 ∧ ∃ m, m < R.length ∧ l = B ++ R.take m) := by
  rcases h with h | ⟨h, m, hm, rfl⟩
  · exact .inl h
  · rw [List.length_append] at hm
    by_cases hb : m < B.length
    · exact .inr (.inl ⟨h, m, hb, List.take_append_of_le_length (by omega)⟩)
    · obtain ⟨j, rfl⟩ : ∃ j, m = B.length + j := ⟨m - B.length, by omega⟩
      exact .inr (.inr ⟨h, j, by omega, List.take_length_add_append ..⟩)
end Go.Proofs.Ytjcfimmcogkopaa

namespace Go.Proofs.Ytjcfimmcogkopaa

/-- a command -/
structure CmdD where
  k : Int
  s : Int
  q : Int
  a : Int
  b : Int
  hi : Int
  lo : Int
  sc : Int
  x : List UInt8
  y : List UInt8
deriving DecidableEq
def CmdD.zero : CmdD := ⟨0, 0, 0, 0, 0, 0, 0, 0, [], []⟩
def U64 (n : Int) : Prop := 0 ≤ n ∧ n ≤ 18446744073709551615
def I64 (n : Int) : Prop := -9223372036854775808 ≤ n ∧ n ≤ 9223372036854775807
structure CmdD.ok (c : CmdD) : Prop where
  k : I64 c.k
  s : U64 c.s
  q : U64 c.q
  a : U64 c.a
  b : U64 c.b
  hi : I64 c.hi
  lo : U64 c.lo
  sc : I64 c.sc
  x : c.x.length ≤ 9223372036854775807
  y : c.y.length ≤ 9223372036854775807

/-- the fields of a kind, as a sum of 1 (session), 2, 4, 8, 16 (amount), 32, 64 -/
def fo (k : Int) : Nat := if k = 6 ∨ k = 8 then 31 else if k = 4 ∨ k = 5 then 23 else if k = 9 then 7 else if k = 7 then 115 else if k = 11 then 99 else if k = 3 ∨ k = 10 then 35 else if k = 2 then 39 else if k = 1 then 1 else 0
def wth (h f : Nat) : Bool := (h &&& f) != 0
def numB (n : Int) : Bool := decide (n ≥ 1) && decide (n ≤ 72057594037927935)
def letB (b : UInt8) : Bool := decide (65 ≤ b.toNat) && decide (b.toNat ≤ 90)
def nameB (l : List UInt8) : Bool := decide (l.length = 3) && l.all letB
def scB (n : Int) : Bool := decide (n ≥ 0) && decide (n ≤ 18)
def mayB (has right zero : Bool) : Bool := match has with | true => right | false => zero
def zeroD (c : CmdD) : Bool := c.hi == 0 && (c.lo == 0 && c.sc == 0)
def rightB (c : CmdD) : Bool :=
  fo c.k != 0 && mayB (wth (fo c.k) 1) (numB c.s) (c.s == 0) && mayB (wth (fo c.k) 2) (numB c.q) (c.q == 0) && mayB (wth (fo c.k) 4) true (c.a == 0) && mayB (wth (fo c.k) 8) true (c.b == 0)
    && mayB (wth (fo c.k) 16) (scB c.sc) (zeroD c) && mayB (wth (fo c.k) 32) (nameB c.x) (c.x == []) && mayB (wth (fo c.k) 64) (nameB c.y) (c.y == [])

/-! ## What is laid -/
def layU (n : Int) : List UInt8 := vlay n.toNat
/-! ## What is read -/
def rIf (b : Bool) (r : Nat × List UInt8 × Nat) (l : List UInt8) (f : Nat) : Nat × List UInt8 × Nat := match b with | true => r | false => (0, l, f)
def rdec (l : List UInt8) (f : Nat) : (Int × Nat × Nat) × List UInt8 × Nat :=
  (((rint (rbyte 18 l f).2.1 (rbyte 18 l f).2.2).1, (rnum 18446744073709551615 (rint (rbyte 18 l f).2.1 (rbyte 18 l f).2.2).2.1 (rint (rbyte 18 l f).2.1 (rbyte 18 l f).2.2).2.2).1, (rbyte 18 l f).1), (rnum 18446744073709551615 (rint (rbyte 18 l f).2.1 (rbyte 18 l f).2.2).2.1 (rint (rbyte 18 l f).2.1 (rbyte 18 l f).2.2).2.2).2)
def rnam (l : List UInt8) (f : Nat) : List UInt8 × List UInt8 × Nat :=
  ([UInt8.ofNat (rbyte 90 l f).1, UInt8.ofNat (rbyte 90 (rbyte 90 l f).2.1 (rbyte 90 l f).2.2).1, UInt8.ofNat (rbyte 90 (rbyte 90 (rbyte 90 l f).2.1 (rbyte 90 l f).2.2).2.1 (rbyte 90 (rbyte 90 l f).2.1 (rbyte 90 l f).2.2).2.2).1], (rbyte 90 (rbyte 90 (rbyte 90 l f).2.1 (rbyte 90 l f).2.2).2.1 (rbyte 90 (rbyte 90 l f).2.1 (rbyte 90 l f).2.2).2.2).2)
def rIfD (b : Bool) (l : List UInt8) (f : Nat) : (Int × Nat × Nat) × List UInt8 × Nat := match b with | true => rdec l f | false => ((0, 0, 0), l, f)
def rIfX (b : Bool) (l : List UInt8) (f : Nat) : List UInt8 × List UInt8 × Nat := match b with | true => rnam l f | false => ([], l, f)
/-- what is read of l: the command, the rest, what was wrong -/
structure Read (l : List UInt8) (c : CmdD) (l' : List UInt8) (f' : Nat) where
  mk ::
  n0 : Nat
  l0 : List UInt8
  f0 : Nat
  h0 : rbyte 11 l 0 = (n0, l0, f0)
  n1 : Nat
  l1 : List UInt8
  f1 : Nat
  h1 : rIf (wth (fo (n0 : Int)) 1) (rnum 72057594037927935 l0 f0) l0 f0 = (n1, l1, f1)
  n2 : Nat
  l2 : List UInt8
  f2 : Nat
  h2 : rIf (wth (fo (n0 : Int)) 2) (rnum 72057594037927935 l1 f1) l1 f1 = (n2, l2, f2)
  n3 : Nat
  l3 : List UInt8
  f3 : Nat
  h3 : rIf (wth (fo (n0 : Int)) 4) (rnum 18446744073709551615 l2 f2) l2 f2 = (n3, l3, f3)
  n4 : Nat
  l4 : List UInt8
  f4 : Nat
  h4 : rIf (wth (fo (n0 : Int)) 8) (rnum 18446744073709551615 l3 f3) l3 f3 = (n4, l4, f4)
  hi : Int
  lo : Nat
  sc : Nat
  l5 : List UInt8
  f5 : Nat
  h5 : rIfD (wth (fo (n0 : Int)) 16) l4 f4 = ((hi, lo, sc), l5, f5)
  x : List UInt8
  l6 : List UInt8
  f6 : Nat
  h6 : rIfX (wth (fo (n0 : Int)) 32) l5 f5 = (x, l6, f6)
  y : List UInt8
  h7 : rIfX (wth (fo (n0 : Int)) 64) l6 f6 = (y, l', f')
  hc : c = ⟨(n0 : Int), (n1 : Int), (n2 : Int), (n3 : Int), (n4 : Int), hi, (lo : Int), (sc : Int), x, y⟩
/-- what Decode answers -/
structure Decoded (l : List UInt8) (c : CmdD) (e : Nat) : Prop where
  is : (l.length > 128 ∧ c = .zero ∧ e = 12) ∨ (l.length ≤ 128 ∧ ∃ c0 l' f', Nonempty (Read l c0 l' f') ∧ ((rend l' f' ≠ 0 ∧ c = .zero ∧ e = rend l' f') ∨ (rend l' f' = 0 ∧ rightB c0 = false ∧ c = .zero ∧ e = 11) ∨ (rend l' f' = 0 ∧ rightB c0 = true ∧ c = c0 ∧ e = 0)))
/-! ## What was laid is read -/
theorem nameB_iff {l : List UInt8} (h : nameB l = true) : ∃ a b c, l = [a, b, c] ∧ letB a = true ∧ letB b = true ∧ letB c = true := by
  unfold nameB at h
  simp only [Bool.and_eq_true, decide_eq_true_eq] at h
  obtain ⟨h1, h2⟩ := h
  match l, h1 with
  | [a, b, c], _ => exact ⟨a, b, c, rfl, by simpa using h2⟩
/-! ## What was read is laid so -/
theorem rbyte_back' {most : Nat} {l : List UInt8} {f : Nat} (h : (rbyte most l f).2.2 = 0) : f = 0 ∧ (rbyte most l f).1 ≤ most ∧ (rbyte most l f).1 < 256 ∧ l = UInt8.ofNat (rbyte most l f).1 :: (rbyte most l f).2.1 := by
  by_cases hf : f = 0
  · subst hf
    unfold rbyte at h ⊢
    rw [if_neg (by simp)] at h ⊢
    cases l with
    | nil => cases h
    | cons b r =>
      have hb := UInt8.toNat_lt b
      simp only at h ⊢
      by_cases hm : most < b.toNat
      · rw [if_pos hm] at h; cases h
      · rw [if_neg hm]
        exact ⟨trivial, by show b.toNat ≤ most; omega, hb, by simp⟩
  · rw [rbyte_wrong hf] at h; exact absurd h hf
theorem rIf_lt {b : Bool} {most : Nat} {l : List UInt8} {f n f' : Nat} {l' : List UInt8} (h : rIf b (rnum most l f) l f = (n, l', f')) : n < 18446744073709551616 := by
  cases b with
  | true =>
    have h' : rnum most l f = (n, l', f') := h
    have := rnum_lt most l f
    rwa [h'] at this
  | false =>
    have h' : (0, l, f) = (n, l', f') := h
    simp only [Prod.mk.injEq] at h'
    rw [← h'.1]; decide
theorem rIfD_ok {b : Bool} {hi : Int} {lo sc f f' : Nat} {l l' : List UInt8} (h : rIfD b l f = ((hi, lo, sc), l', f')) : I64 hi ∧ lo < 18446744073709551616 ∧ sc < 256 := by
  cases b with
  | true =>
    have h' : rdec l f = ((hi, lo, sc), l', f') := h
    unfold rdec at h'
    simp only [Prod.mk.injEq] at h'
    obtain ⟨⟨rfl, rfl, rfl⟩, _⟩ := h'
    exact ⟨rint_range _ _, rnum_lt _ _ _, rbyte_lt _ _ _⟩
  | false =>
    have h' : (((0 : Int), (0 : Nat), (0 : Nat)), l, f) = ((hi, lo, sc), l', f') := h
    simp only [Prod.mk.injEq] at h'
    obtain ⟨⟨rfl, rfl, rfl⟩, _⟩ := h'
    exact ⟨⟨by decide, by decide⟩, by decide, by decide⟩
theorem rIfX_ok {b : Bool} {x : List UInt8} {f f' : Nat} {l l' : List UInt8} (h : rIfX b l f = (x, l', f')) : x.length ≤ 3 := by
  cases b with
  | true =>
    have h' : rnam l f = (x, l', f') := h
    unfold rnam at h'
    simp only [Prod.mk.injEq] at h'
    rw [← h'.1]; simp
  | false =>
    have h' : (([] : List UInt8), l, f) = (x, l', f') := h
    simp only [Prod.mk.injEq] at h'
    rw [← h'.1]; simp
/-- what is read is within its bounds -/
theorem Read.ok {l l' : List UInt8} {c : CmdD} {f' : Nat} (h : Read l c l' f') : c.ok := by
  obtain ⟨n0, l0, f0, h0, n1, l1, f1, h1, n2, l2, f2, h2, n3, l3, f3, h3, n4, l4, f4, h4, hi, lo, sc, l5, f5, h5, x, l6, f6, h6, y, h7, rfl⟩ := h
  have b0 := rbyte_lt 11 l 0
  rw [h0] at b0
  have b1 := rIf_lt h1
  have b2 := rIf_lt h2
  have b3 := rIf_lt h3
  have b4 := rIf_lt h4
  obtain ⟨b5, b6, b7⟩ := rIfD_ok h5
  have b8 := rIfX_ok h6
  have b9 := rIfX_ok h7
  have b0 : n0 < 256 := b0
  exact ⟨⟨by simp only; omega, by simp only; omega⟩, ⟨by simp only; omega, by simp only; omega⟩, ⟨by simp only; omega, by simp only; omega⟩, ⟨by simp only; omega, by simp only; omega⟩, ⟨by simp only; omega, by simp only; omega⟩, b5, ⟨by simp only; omega, by simp only; omega⟩, ⟨by simp only; omega, by simp only; omega⟩, by simp only; omega, by simp only; omega⟩
/-- what is read is one -/
theorem Read.one {l l1 l2 : List UInt8} {c1 c2 : CmdD} {f1 f2 : Nat} (h : Read l c1 l1 f1) (g : Read l c2 l2 f2) : c1 = c2 ∧ l1 = l2 ∧ f1 = f2 := by
  obtain ⟨n0, l0, f0, h0, n1, l1', f1', h1, n2, l2', f2', h2, n3, l3, f3, h3, n4, l4, f4, h4, hi, lo, sc, l5, f5, h5, x, l6, f6, h6, y, h7, rfl⟩ := h
  obtain ⟨m0, k0, g0, i0, m1, k1, g1, i1, m2, k2, g2, i2, m3, k3, g3, i3, m4, k4, g4, i4, hi', lo', sc', k5, g5, i5, x', k6, g6, i6, y', i7, rfl⟩ := g
  have e0 := h0.symm.trans i0; simp only [Prod.mk.injEq] at e0; obtain ⟨rfl, rfl, rfl⟩ := e0
  have e1 := h1.symm.trans i1; simp only [Prod.mk.injEq] at e1; obtain ⟨rfl, rfl, rfl⟩ := e1
  have e2 := h2.symm.trans i2; simp only [Prod.mk.injEq] at e2; obtain ⟨rfl, rfl, rfl⟩ := e2
  have e3 := h3.symm.trans i3; simp only [Prod.mk.injEq] at e3; obtain ⟨rfl, rfl, rfl⟩ := e3
  have e4 := h4.symm.trans i4; simp only [Prod.mk.injEq] at e4; obtain ⟨rfl, rfl, rfl⟩ := e4
  have e5 := h5.symm.trans i5; simp only [Prod.mk.injEq] at e5; obtain ⟨⟨rfl, rfl, rfl⟩, rfl, rfl⟩ := e5
  have e6 := h6.symm.trans i6; simp only [Prod.mk.injEq] at e6; obtain ⟨rfl, rfl, rfl⟩ := e6
  have e7 := h7.symm.trans i7; simp only [Prod.mk.injEq] at e7; obtain ⟨rfl, rfl, rfl⟩ := e7
  exact ⟨rfl, rfl, rfl⟩
theorem Decoded.one {l : List UInt8} {c1 c2 : CmdD} {e1 e2 : Nat} (h : Decoded l c1 e1) (g : Decoded l c2 e2) : c1 = c2 ∧ e1 = e2 := by
  rcases h.is with ⟨h1, h2, h3⟩ | ⟨h1, a, b, d, ⟨hr⟩, h2⟩ <;> rcases g.is with ⟨g1, g2, g3⟩ | ⟨g1, a', b', d', ⟨gr⟩, g2⟩
  · exact ⟨h2.trans g2.symm, h3.trans g3.symm⟩
  · omega
  · omega
  · obtain ⟨rfl, rfl, rfl⟩ := hr.one gr
    rcases h2 with ⟨p, q, r⟩ | ⟨p, q, r, t⟩ | ⟨p, q, r, t⟩ <;> rcases g2 with ⟨p', q', r'⟩ | ⟨p', q', r', t'⟩ | ⟨p', q', r', t'⟩
    all_goals first
      | exact ⟨q.trans q'.symm, r.trans r'.symm⟩
      | exact ⟨r.trans r'.symm, t.trans t'.symm⟩
      | exact absurd p' p
      | exact absurd p p'
      | (rw [q] at q'; cases q')
end Go.Proofs.Ytjcfimmcogkopaa

namespace Go.Proofs.Ytjcfimmcogkopaa.Sep
open Go.RowKit
open Go.Proofs.Ytjcfimmcogkopaa.Mem (Dist Blk Chg below0)

theorem flatB (l : List UInt8) : flat encB l = u8s l := by
  induction l with
  | nil => rfl
  | cons x l ih => rw [flat_cons, ih]; rfl

/-! ## A slice that reads as bytes -/
def Sl8 (w : World) (v : Value) (l : List UInt8) : Prop := ∃ A c, v = .slice A l.length c ∧ Bs (fun _ => True) w A c l
section
variable {u w w0 : World} {v : Value} {l : List UInt8} {X : Ass} {B : Nat → Prop} {os : List Ass} {rs : List RowT}
theorem Sl8.below (h : Sl8 u v l) (hb : Below u.heap.size u w) : Sl8 w v l := by
  obtain ⟨A, c, e, h⟩ := h
  exact ⟨A, c, e, h.old hb⟩
theorem Sl8.rd (h : Sl8 w v l) : SlRd w 1 v l.length (flat encB l) := by
  obtain ⟨A, c, rfl, h⟩ := h
  refine ⟨by rw [flatB, u8s_length, Nat.mul_one], A, c, rfl, ?_⟩
  rcases Nat.eq_zero_or_pos l.length with h0 | h0
  · cases A with
    | none => exact .inl ⟨rfl, h0⟩
    | some a =>
      refine .inr ⟨a, rfl, fun j x hx => ?_⟩
      rw [flatB] at hx
      have := (List.getElem?_eq_some_iff.1 hx).1
      rw [u8s_length] at this
      omega
  · obtain ⟨g, o, rfl, _, hc⟩ := h.2.2 h0
    refine .inr ⟨_, rfl, fun j x hx => ?_⟩
    rw [flatB] at hx
    obtain ⟨b, hb, rfl⟩ := u8s_get hx
    rw [Addr.add_lit]
    exact hc j b hb
theorem Sl8.cells (h : Sl8 w v l) : v.cells = #[v] := by
  obtain ⟨A, c, rfl, _⟩ := h
  rfl
theorem arg8 (h : Sl8 u v l) (hU : Below u.heap.size u w0) (hS : ∀ k, B k → u.heap.size ≤ k) (hH : Hp B w0 w os) : Sl8 w v l := by
  have hm : Below u.heap.size w0 w := hH.up.below hU.size hS
  exact h.below (hU.trans hm)
theorem own_vec {base : Nat} (h : Own 5 w base v l) : ∃ rs, Vec 5 1 encB v l rs ∧ RowsOf w rs ∧ Dist rs ∧ ∀ x ∈ rs, At v x.1 ∧ base ≤ x.1 := by
  obtain ⟨h1, h2⟩ := h
  rcases h2 with ⟨hv, hn⟩ | ⟨g, cap, cur, hv, hb, hg, hnc, hm, hs, ht⟩
  · exact ⟨[], .inl ⟨hv, List.eq_nil_of_length_eq_zero hn, rfl⟩, trivial, trivial, fun x hx => by cases hx⟩
  · refine ⟨[(g, tyR 5, cur)], .inr ⟨g, cap, cur, hv, hnc, hm, hs, by rw [flatB]; exact ht, rfl⟩, ⟨hg, trivial⟩, ⟨(fun _ h => by cases h), trivial⟩, fun x hx => ?_⟩
    have : x = (g, tyR 5, cur) := by simpa using hx
    subst this
    exact ⟨by rw [hv]; rfl, hb⟩
theorem vec_own (h : Vec 5 1 encB v l rs) (hr : RowsOf w rs) : Own 5 w 0 v l := by
  refine ⟨by rw [u8s_length, Nat.mul_one], ?_⟩
  rcases h with ⟨h1, h2, _⟩ | ⟨g, c, cs, h1, h2, h3, h4, h5, h6⟩
  · exact .inl ⟨h1, by rw [h2]; rfl⟩
  · subst h6
    exact .inr ⟨g, c, cs, h1, Nat.zero_le _, hr.1, h2, h3, h4, by rw [← flatB]; exact h5⟩
theorem vec_sl8 (h : Vec 5 1 encB v l rs) (hr : RowsOf w rs) : Sl8 w v l := by
  obtain ⟨A, c, e, hb⟩ := (vec_own h hr).form
  exact ⟨A, c, e, hb.weaken fun _ _ _ => trivial⟩
theorem Hp.sl8 (h : Hp B w0 w os) (i : Nat) (hi : os[i]? = some (Vec 5 1 encB v l)) : Sl8 w v l := by
  obtain ⟨rs, h1, h2⟩ := h.thing i hi
  exact vec_sl8 h1 h2
def Rd8 (X : Ass) (v : Value) (l : List UInt8) : Prop := ∀ rs w, X rs → RowsOf w rs → Sl8 w v l
theorem Rd8.rd (h : Rd8 X v l) : Rd X 1 encB v l := fun rs w h1 h2 => (h rs w h1 h2).rd
theorem rd8_vec : Rd8 (Vec 5 1 encB v l) v l := fun _ _ h1 h2 => vec_sl8 h1 h2
theorem Rd8.drop {A : Option Addr} {c k : Nat} (h : Rd8 X (.slice A l.length c) l) (hk : k ≤ l.length) : Rd8 X (.slice (if c = k then A else A.map (·.add k)) (l.drop k).length (c - k)) (l.drop k) := fun rs w h1 h2 => by
  obtain ⟨A', c', e, hb⟩ := h rs w h1 h2
  simp only [Value.slice.injEq] at e
  obtain ⟨rfl, _, rfl⟩ := e
  exact ⟨_, _, rfl, hb.drop hk⟩
theorem sub_drop {A : Option Addr} {n c k : Nat} (hl : l.length - k = n) (hn : l.length = n + k) : subv 1 (.slice A l.length c) k l.length = .slice (if c = k then A else A.map (·.add k)) n (c - k) := by
  show Value.slice (if c = k then A else A.map (·.add (k * 1))) (l.length - k) (c - k) = _
  rw [Nat.mul_one, hl]
theorem Hp.rd8 (h : Hp B w0 w os) (i : Nat) (hi : os[i]? = some X) (hu : Rd8 X v l) : Sl8 w v l := by
  obtain ⟨rs, h1, h2⟩ := h.thing i hi
  exact hu rs w h1 h2
end

/-! ## Calls that answer new bytes -/
section
variable {P : Program} {F : FuncId} {args : Array Value} {l : List UInt8} {X : Ass} {u : World}
theorem chg_new {w w' : World} {rs rs' : List RowT} (hr : RowsOf w rs) (hd : Dist rs) (hb : Below w.heap.size w w') (h1 : RowsOf w' rs') (h2 : Dist rs') (h3 : ∀ x ∈ rs', w.heap.size ≤ x.1) : Chg w w' rs (rs ++ rs') := by
  refine ⟨Mod.of_below hb _, rows_iff.2 fun x hx => ?_, Mem.dist_app hd h2 fun x hx y hy e => ?_, fun x hx hlt => ?_⟩
  · rcases List.mem_append.1 hx with h | h
    · exact (hr.mem x h).below hb (hr.mem x h).lt
    · exact h1.mem x h
  · have := (hr.mem x hx).lt
    have := h3 y hy
    omega
  · rcases List.mem_append.1 hx with h | h
    · exact ⟨x, h, rfl⟩
    · have := h3 x h
      omega
theorem does_ownX (h : ∀ w rs, X rs → RowsOf w rs → Calls P F args w fun e w' => ∃ v', e = .returned v' ∧ Own 5 w' w.heap.size v' l ∧ Below w.heap.size w w') : Does P F args [X] (fun v : Value => v) (fun v => [X, Vec 5 1 encB v l]) := fun w rs h1 h2 h3 => by
  have hX := h1.one'
  refine (h w rs hX h2).mono ?_
  rintro e w' ⟨v, he, ho, hb⟩
  obtain ⟨rs', hv, hr, hd, hx⟩ := own_vec ho
  exact ⟨v, he, rs ++ rs', ⟨rs, rs', rfl, hX, Parts.one hv⟩, chg_new h2 h3 hb hr hd fun x h => (hx x h).2⟩
theorem does_ownU (h : ∀ w, Below u.heap.size u w → Calls P F args w fun e w' => ∃ v', e = .returned v' ∧ Own 5 w' w.heap.size v' l ∧ Below w.heap.size w w') : DoesU u P F args [] (fun v : Value => v) (fun v => [Vec 5 1 encB v l]) := fun w rs hU _ h1 h2 h3 => by
  unfold Parts at h1
  subst h1
  refine (h w hU).mono ?_
  rintro e w' ⟨v, he, ho, hb⟩
  obtain ⟨rs', hv, hr, hd, hx⟩ := own_vec ho
  exact ⟨v, he, rs', Parts.one hv, by simpa using chg_new (rs := []) trivial trivial hb hr hd fun x h => (hx x h).2⟩
end
theorem clone8 {X : Ass} {v : Value} {l : List UInt8} (h : Rd8 X v l) (hl : l.length ≤ 140737488355328) : Does Try.prog 32 #[v] [X] (fun v : Value => v) (fun v => [X, Vec 5 1 encB v l]) :=
  does_ownX fun w rs h1 h2 => by
    obtain ⟨A, c, rfl, hb⟩ := h rs w h1 h2
    exact clone_any w A c l hb hl
theorem clone8U (u : World) {v : Value} {l : List UInt8} (h : Sl8 u v l) (hl : l.length ≤ 140737488355328) : DoesU u Try.prog 32 #[v] [] (fun v : Value => v) (fun v => [Vec 5 1 encB v l]) :=
  does_ownU fun w hU => by
    obtain ⟨A, c, rfl, hb⟩ := h.below hU
    exact clone_any w A c l hb hl

/-! ## A writer -/
def WtT (g : Nat) (l : List UInt8) : Ass := fun rs => ∃ v, Parts [cell g 97 #[v], Vec 5 1 encB v l] rs
theorem wt_wtr {w : World} {rs : List RowT} {g : Nat} {l : List UInt8} (h : WtT g l rs) (hr : RowsOf w rs) : ∃ v rv, rs = (g, tyR 97, #[v]) :: rv ∧ Vec 5 1 encB v l rv ∧ Wtr w g v l := by
  obtain ⟨v, a, b, rfl, h1, h2⟩ := h
  unfold cell at h1
  subst h1
  have h3 := h2.one'
  exact ⟨v, b, rfl, h3, hr.1, vec_own h3 hr.2⟩
theorem does_wt {F : FuncId} {args : Array Value} {g : Nat} {l m : List UInt8} (h : ∀ w v, Wtr w g v l → Calls Try.prog F args w fun e w' => ∃ v', e = .returned (.tuple #[]) ∧ Wtr w' g v' m ∧ Mod (Foot g v) w w' ∧ ∀ k, At v' k → At v k ∨ w.heap.size ≤ k) : Does Try.prog F args [WtT g l] (fun _ : Unit => .tuple #[]) (fun _ => [WtT g m]) := fun w rs h1 h2 h3 => by
  obtain ⟨v, rv, rfl, hv, hw⟩ := wt_wtr h1.one' h2
  refine (h w v hw).mono ?_
  rintro e w' ⟨v', he, hw', hm, ha⟩
  obtain ⟨rs', hv', hr', hd', hx⟩ := own_vec hw'.2
  have hblk : ∀ k, Foot g v k → k < w.heap.size → Blk ((g, tyR 97, #[v]) :: rv) k := by
    rintro k (rfl | hk) _
    · exact ⟨_, List.mem_cons_self, rfl⟩
    · rcases hv with ⟨e1, _, _⟩ | ⟨g', c, cs, e1, _, _, _, _, e6⟩
      · subst e1; exact absurd hk At.none
      · subst e1; subst e6
        exact ⟨(g', tyR 5, cs), by simp, (At.iff.1 hk).symm⟩
  refine ⟨(), he, (g, tyR 97, #[v']) :: rs', Parts.one ⟨v', [(g, tyR 97, #[v'])], rs', rfl, rfl, Parts.one hv'⟩, hm.weaken fun k hk hf => hblk k hf hk, ⟨hw'.1, hr'⟩, ⟨fun y hy e => hw'.2.ne_row hw'.1 (by decide) ((show y.1 = g from e) ▸ (hx y hy).1), hd'⟩, fun x hxm hlt => ?_⟩
  rcases List.mem_cons.1 hxm with rfl | hxm
  · exact ⟨_, List.mem_cons_self, rfl⟩
  · rcases ha _ (hx x hxm).1 with h | h
    · exact hblk _ (.inr h) hlt
    · omega
theorem wt_new : Does Try.prog 41 #[] [] (fun g : Nat => .pointer (some ⟨g, 0, none⟩)) (fun g => [WtT g []]) := fun w rs h1 _ _ => by
  unfold Parts at h1
  subst h1
  refine (newWriter_any w).mono ?_
  rintro e w' ⟨p, he, hp, hw, hb⟩
  obtain ⟨rs', hv', hr', hd', hx⟩ := own_vec hw.2
  refine ⟨p, he, (p, tyR 97, #[.slice none 0 0]) :: rs', Parts.one ⟨_, [(p, tyR 97, #[.slice none 0 0])], rs', rfl, rfl, Parts.one hv'⟩, ?_⟩
  have h0 : ∀ y ∈ rs', False := fun y hy => At.none (hx y hy).1
  refine ⟨Mod.of_below hb _, ⟨hw.1, hr'⟩, ⟨fun y hy => (h0 y hy).elim, hd'⟩, fun x hxm hlt => ?_⟩
  rcases List.mem_cons.1 hxm with rfl | hxm
  · omega
  · exact (h0 x hxm).elim
theorem wt_byte (g : Nat) (l : List UInt8) (n : Int) (hn : 0 ≤ n ∧ n < 256) (r : List UInt8) (hr : l ++ [UInt8.ofNat n.toNat] = r) (hl : l.length + 1 ≤ 140737488355328) : Does Try.prog 43 #[.pointer (some ⟨g, 0, none⟩), .int .u8 n] [WtT g l] (fun _ : Unit => .tuple #[]) (fun _ => [WtT g r]) := by
  subst hr
  have e : n = ((UInt8.ofNat n.toNat).toNat : Int) := by rw [byte_of _ (by omega)]; omega
  generalize UInt8.ofNat n.toNat = b at e ⊢
  subst e
  exact does_wt fun w v hw => writerByte_any w g v l b hw hl
theorem wt_num (g : Nat) (l : List UInt8) (n : Int) (hn : U64 n) (r : List UInt8) (hr : l ++ layU n = r) (hl : l.length + 10 ≤ 140737488355328) : Does Try.prog 42 #[.pointer (some ⟨g, 0, none⟩), .int .u64 n] [WtT g l] (fun _ : Unit => .tuple #[]) (fun _ => [WtT g r]) := by
  subst hr
  have e : n = (n.toNat : Int) := by have := hn.1; omega
  have h2 : n.toNat < 18446744073709551616 := by have := hn.2; omega
  unfold layU
  generalize n.toNat = m at e h2 ⊢
  subst e
  exact does_wt fun w v hw => writerNum_any w g v l m hw h2 hl
theorem wt_bytes (g : Nat) (l : List UInt8) (hl : l.length ≤ 140737488355328) : Does Try.prog 45 #[.pointer (some ⟨g, 0, none⟩)] [WtT g l] (fun v : Value => v) (fun v => [WtT g l, Vec 5 1 encB v l]) :=
  does_ownX fun w rs h1 h2 => by
    obtain ⟨v, rv, rfl, hv, hw⟩ := wt_wtr h1 h2
    exact writerBytes_any w g v l hw hl
/-! ## What the reference lays -/
section
variable {u : World} {B : Value} {b l l' : List UInt8} {g f f' : Nat} {F : FuncId} {args : Array Value} {val : Value}
end
/-! ## The program's reader -/
def RdT (g : Nat) (l : List UInt8) (f : Nat) : Ass := fun rs => ∃ (X : Ass) (A : Option Addr) (c : Nat), Rd8 X (.slice A l.length c) l ∧ l.length ≤ 140737488355328 ∧ Parts [cell g 101 #[.slice A l.length c, .int .i64 (f : Int)], X] rs
theorem RdT.open_ {g f : Nat} {l : List UInt8} : ∀ rs, RdT g l f rs → ∃ x : { x : Ass × Option Addr × Nat // Rd8 x.1 (.slice x.2.1 l.length x.2.2) l ∧ l.length ≤ 140737488355328 }, Parts [cell g 101 #[.slice x.1.2.1 l.length x.1.2.2, .int .i64 (f : Int)], x.1.1] rs :=
  fun _ ⟨X, A, c, h1, h2, h3⟩ => ⟨⟨(X, A, c), h1, h2⟩, h3⟩
theorem RdT.mk_ {g f : Nat} {l : List UInt8} {X : Ass} {A : Option Addr} {n c : Nat} (hn : l.length = n) (h1 : Rd8 X (.slice A l.length c) l) (h2 : l.length ≤ 140737488355328) : ∀ rs, Parts [cell g 101 #[.slice A n c, .int .i64 (f : Int)], X] rs → RdT g l f rs :=
  fun _ h3 => by subst hn; exact ⟨X, A, c, h1, h2, h3⟩
end Go.Proofs.Ytjcfimmcogkopaa.Sep
