/-
  Bits · Writer · Varint · RefLay · RefRead · OneMath · Read · CmdM
-/
import Derived.Test.YtjcfimmcogkopaaGreatYA06
import Derived.WalkKit
import Derived.Deep.QuietTactic
import Derived.BigQuiet
set_option linter.unusedSimpArgs false
set_option linter.unusedVariables false
set_option maxRecDepth 100000
namespace Go.Proofs.YtjcfimmcogkopaaGreat
open Go.RowKit
theorem OT (b : Nat) (h : b < 256) : bits .andNot .u8 (b : Int) 128 = ((b % 128 : Nat) : Int) := by
 have : ∀ x : Fin 256, bits .andNot .u8 ((x.val : Nat) : Int) 128 = ((x.val % 128 : Nat) : Int) := by decide +kernel
 exact this ⟨b, h⟩
theorem Ly (a : Nat) (ha : a < 18446744073709551616) : (BitVec.ofInt 64 (a : Int)).toNat = a := by
 rw [BitVec.ofInt_natCast, BitVec.toNat_ofNat]; exact Nat.mod_eq_of_lt (by omega)
theorem Dz (a : Nat) (ha : a < 18446744073709551616) : IntKind.u64.wrap (a : Int) = (a : Int) := by
 simp [IntKind.wrap, IntKind.signed, IntKind.bits]
 omega
theorem OU (a b : Nat) (ha : a < 18446744073709551616) (hb : b < 18446744073709551616) : bits .or .u64 (a : Int) (b : Int) = ((a ||| b : Nat) : Int) := by
 have hx : a ||| b < 2 ^ 64 := Nat.or_lt_two_pow (by omega) (by omega)
 show IntKind.u64.wrap ((BitVec.ofInt 64 (a : Int) ||| BitVec.ofInt 64 (b : Int)).toNat : Int) = _
 rw [BitVec.toNat_or, Ly a ha, Ly b hb]
 exact Dz _ hx
theorem Kq (a b k : Nat) (hb : b < 256) (hk : k ≤ 9) (ha : a < 2 ^ (7 * k)) (h9 : ¬ (k = 9 ∧ 1 < b)) (h1 : k = 9 → b < 128) :
    bits .or .u64 (a : Int) (IntKind.u64.wrap (IntKind.u64.wrap (bits .andNot .u8 (b : Int) 128) * 2 ^ (7 * k))) = ((a + b % 128 * 2 ^ (7 * k) : Nat) : Int) := by
  have hm : b % 128 * 2 ^ (7 * k) + a < 18446744073709551616 := by
    by_cases h : k = 9
    · subst h
      have hc1 : b % 128 * 2 ^ (7 * 9) ≤ 1 * 2 ^ (7 * 9) := Nat.mul_le_mul_right _ (by omega)
      omega
    · have : (2 : Nat) ^ (7 * k) ≤ 2 ^ 56 := Nat.pow_le_pow_right (by omega) (by omega)
      have hc1 : b % 128 * 2 ^ (7 * k) ≤ 127 * 2 ^ (7 * k) := Nat.mul_le_mul_right _ (by omega)
      omega
  rw [OT b hb, Dz _ (by omega)]
  have e : ((b % 128 : Nat) : Int) * 2 ^ (7 * k) = ((b % 128 * 2 ^ (7 * k) : Nat) : Int) := by
    rw [Int.natCast_mul, Int.natCast_pow]; rfl
  rw [e, Dz _ (by omega), OU _ _ (by omega) (by omega)]
  congr 1
  rw [Nat.or_comm, Nat.add_comm, ← Nat.shiftLeft_eq, Nat.shiftLeft_add_eq_or_of_lt ha]
theorem Qs {k : IntKind} {a b : Int} (h : a = b) : Ending.returned (.int k a) = .returned (.int k b) := by rw [h]
end Go.Proofs.YtjcfimmcogkopaaGreat
namespace Go.Proofs.YtjcfimmcogkopaaGreat
open Go.RowKit
def Nw (w : World) (p : Nat) (v : Value) (l : List UInt8) : Prop := CY w p 133 #[v] ∧ EW 5 w 0 v l
def HH (p : Nat) (v : Value) : Nat → Prop := fun k => k = p ∨ At v k
theorem Nw.mod {S : Nat → Prop} {w w' : World} {p : Nat} {v : Value} {l : List UInt8} (h : Nw w p v l) (hm : Mod S w w') (hn : ∀ k, HH p v k → ¬ S k) : Nw w' p v l :=
 ⟨h.1.mod hm (hn p (.inl rfl)), h.2.mod hm (fun k hk => hn k (.inr hk))⟩
theorem Nw.lt {w : World} {p : Nat} {v : Value} {l : List UInt8} (h : Nw w p v l) : ∀ k, HH p v k → k < w.heap.size := by
  rintro k (rfl | hk)
  · exact h.1.lt
  · exact (h.2.lt k hk).2
theorem Lk (w : World) :
  Calls Tryz.prog 82 #[] w fun e w' => ∃ p, e = .returned (.pointer (some ⟨p, 0, none⟩)) ∧ w.heap.size ≤ p ∧ Nw w' p (.slice none 0 0) [] ∧ Below w.heap.size w w' := by
 go_enter Tryz.func82, Tryz.ntmps82
 go_wp2
 go_ret
 exact ⟨w.heap.size, rfl, Nat.le_refl _, ⟨CY.new _ _ _, EW.nil _ _ _⟩, (Below.refl _ _).alloc (Nat.le_refl _) _⟩
theorem Kr (w : World) (p : Nat) (v : Value) (l : List UInt8) (b : UInt8) (h : Nw w p v l) (hl : l.length + 1 ≤ 140737488355328) :
    Calls Tryz.prog 84 #[.pointer (some ⟨p, 0, none⟩), .int .u8 (b.toNat : Int)] w fun e w' =>
      ∃ v', e = .returned (.tuple #[]) ∧ Nw w' p v' (l ++ [b]) ∧ Mod (HH p v) w w' ∧ ∀ k, At v' k → At v k ∨ w.heap.size ≤ k := by
  obtain ⟨hr, ho⟩ := h
  have hp := hr.lt
  have hne := ho.ne_row hr (by decide)
  obtain ⟨A, c, rfl, hs⟩ := ho.form
  have h0 := hr.cell 0
  have f0 := hr.frozen 0
  simp at h0
  go_enter Tryz.func84, Tryz.ntmps84
  have own1 : EW 5 (w.alloc (.cells #[.int .u8 (b.toNat : Int)] 5)) 0 (.slice A l.length c) l := ho.mod ((Mod.refl Nil w).alloc _) (fun _ _ hf => hf)
  have hr1 := hr.alloc (.cells #[.int .u8 (b.toNat : Int)] 5)
  have hsz : w.heap.size < (w.alloc (.cells #[.int .u8 (b.toNat : Int)] 5)).heap.size := by simp
  go_wp2_with (at_builtin; refine CZ (t := 32) Mg rfl (.tmp 8) (.tmp 10) rfl own1 (Nat.zero_le _) (Mh w 5 b rfl) (l.length + 1) rfl rfl rfl hl ?_; intro A1 c1 w1 ho1 hm1 ha1; have hr2 := hr1.mod hm1 hne; have k0 := hr2.cell 0; have g0 := hr2.frozen 0; simp at k0; have hne1 := ho1.ne_row hr2 (by decide))
  go_end0
  refine ⟨_, rfl, ⟨hr2.set 0 _, ho1.mod (Mod.one _ _ _ _) (fun k hk e => by subst e; exact hne1 hk)⟩, ?_, fun k hk => ?_⟩
  · refine (((Mod.refl (HH p (.slice A l.length c)) w).alloc _).trans hm1 (fun k _ hk => .inr hk)).trans (Mod.one _ _ _ _) (fun k _ hk => .inl hk)
  · rcases ha1 k hk with h | h
    · exact .inl h
    · right; simp at h; omega
theorem Qt (n : Nat) (h : n < 256) : (UInt8.ofNat n).toNat = n := by simp [UInt8.toNat_ofNat']; omega
theorem VL (b : Nat) (h : b < 256) : bits .or .u8 (b : Int) 128 = ((b % 128 + 128 : Nat) : Int) := by
 have : ∀ x : Fin 256, bits .or .u8 ((x.val : Nat) : Int) 128 = ((x.val % 128 + 128 : Nat) : Int) := by decide +kernel
 exact this ⟨b, h⟩
theorem Hu (w : World) (p : Nat) (v : Value) (l : List UInt8) (n : Nat) (h : Nw w p v l) (hn : n < 18446744073709551616) (hl : l.length + 10 ≤ 140737488355328) :
    Calls Tryz.prog 83 #[.pointer (some ⟨p, 0, none⟩), .int .u64 (n : Int)] w fun e w' =>
      ∃ v', e = .returned (.tuple #[]) ∧ Nw w' p v' (l ++ Dx n) ∧ Mod (HH p v) w w' ∧ ∀ k, At v' k → At v k ∨ w.heap.size ≤ k := by
  have hvl := JE n hn
  obtain ⟨N, hN⟩ : ∃ N, N = Dx n := ⟨_, rfl⟩
  rw [← hN] at hvl ⊢
  have HN := DZ hN
  have HNB := DZ hn
  clear hN hn
  go_enter Tryz.func83, Tryz.ntmps83
  go_wp2
  go_loopw [1] (fun x wr => ∃ (y : Nat) (v1 : Value) (l1 : List UInt8), x = .int .u64 (y : Int) ∧ y < 18446744073709551616 ∧ N = l1 ++ Dx y ∧ Nw wr p v1 (l ++ l1) ∧ Mod (HH p v) w wr ∧ ∀ k, At v1 k → At v k ∨ w.heap.size ≤ k) (fun x _ => (intOf x).toNat)
  case atStart => exact ⟨n, v, [], rfl, HNB.out, by rw [HN.out]; rfl, by simpa using h, Mod.refl _ _, fun k hk => .inl hk⟩
  case round =>
    obtain ⟨y, v1, l1, rfl, hy, hN, hw, hm, ha⟩ := hrel
    have hpos := SO y
    have hlN : N.length = l1.length + (Dx y).length := by rw [hN]; simp
    obtain ⟨L, hL⟩ : ∃ L, L = l ++ l1 := ⟨_, rfl⟩
    have hll : L.length + 1 ≤ 140737488355328 := by rw [hL, List.length_append]; omega
    rw [← hL] at hw
    clear hlN
    have HL := DZ hL
    have HNN := DZ hN
    have HY := DZ hy
    clear hN hy hL hpos
    obtain ⟨hr, ho⟩ := hw
    have hp := hr.lt
    have hne := ho.ne_row hr (by decide)
    obtain ⟨A, c, rfl, hs⟩ := ho.form
    have h0 := hr.cell 0
    have f0 := hr.frozen 0
    simp only [List.getElem?_toArray, List.getElem?_cons_zero] at h0
    by_cases h128 : 128 ≤ y
    · have hx : bits .or .u8 ((y : Int) % 256) 128 = ((UInt8.ofNat (y % 128 + 128)).toNat : Int) := by
        rw [Qt _ (by omega), show (y : Int) % 256 = ((y % 256 : Nat) : Int) by omega, VL _ (by omega)]
        congr 2; omega
      obtain ⟨b, hb⟩ : ∃ b, b = UInt8.ofNat (y % 128 + 128) := ⟨_, rfl⟩
      rw [← hb] at hx
      have HB := DZ hb
      have own1 : EW 5 (wr.alloc (.cells #[.int .u8 (b.toNat : Int)] 5)) 0 (.slice A L.length c) L := ho.mod ((Mod.refl Nil wr).alloc _) (fun _ _ hf => hf)
      have hr1 := hr.alloc (.cells #[.int .u8 (b.toNat : Int)] 5)
      clear hb
      go_wp2_with (at_builtin; refine CZ (t := 32) Mg rfl (.tmp 10) (.tmp 14) rfl own1 (Nat.zero_le _) (Mh wr 5 b rfl) (L.length + 1) rfl rfl rfl hll ?_; intro A1 c1 w1 ho1 hm1 ha1; have hr2 := hr1.mod hm1 hne; have k0 := hr2.cell 0; have g0 := hr2.frozen 0; simp at k0; have hne1 := ho1.ne_row hr2 (by decide))
      have hfoot : Mod (HH p v) w (w1.setCell ⟨p, 0, none⟩ (.slice A1 (L.length + 1) c1)) := hm.trans ((((Mod.refl (HH p (.slice A L.length c)) wr).alloc _).trans hm1 (fun k _ hk => .inr hk)).trans (Mod.one _ _ _ _) (fun k _ hk => .inl hk)) (fun k hk hf => by
        rcases hf with hf | hf
        · exact .inl hf
        · rcases ha k hf with hf | hf
          · exact .inr hf
          · omega)
      have hws : w.heap.size ≤ wr.heap.size := hm.size
      go_roundw
      case rel =>
        refine ⟨y / 128, .slice A1 (L.length + 1) c1, l1 ++ [b], by go_num, by have := HY.out; omega, ?_, ⟨?_, ?_⟩, hfoot, ?_⟩
        · rw [HNN.out, G4 h128, ← HB.out]; simp
        · exact hr2.set 0 _
        · rw [← List.append_assoc, ← HL.out]
          exact ho1.mod (Mod.one _ _ _ _) (fun k hk e => by subst e; exact hne1 hk)
        · intro k hk
          rcases ha1 k hk with h | h
          · exact ha k h
          · right; simp at h; omega
      case measure => simp [intOf]; omega
    · have hyb : y < 128 := by omega
      obtain ⟨b, hb⟩ : ∃ b, b = UInt8.ofNat y := ⟨_, rfl⟩
      have hx : (y : Int) = (b.toNat : Int) := by rw [hb, Qt _ (by omega)]
      have HB := DZ hb
      have HX := DZ hx
      have own1 : EW 5 (wr.alloc (.cells #[.int .u8 (y : Int)] 5)) 0 (.slice A L.length c) L := ho.mod ((Mod.refl Nil wr).alloc _) (fun _ _ hf => hf)
      have hr1 := hr.alloc (.cells #[.int .u8 (y : Int)] 5)
      clear hb hx
      go_wp2_with (at_builtin; refine CZ (t := 32) Mg rfl (.tmp 24) (.tmp 27) rfl own1 (Nat.zero_le _) (Mh wr 5 b HX.out) (L.length + 1) rfl rfl rfl hll ?_; intro A1 c1 w1 ho1 hm1 ha1; have hr2 := hr1.mod hm1 hne; have k0 := hr2.cell 0; have g0 := hr2.frozen 0; simp at k0; have hne1 := ho1.ne_row hr2 (by decide))
      have hfoot : Mod (HH p v) w (w1.setCell ⟨p, 0, none⟩ (.slice A1 (L.length + 1) c1)) := hm.trans ((((Mod.refl (HH p (.slice A L.length c)) wr).alloc _).trans hm1 (fun k _ hk => .inr hk)).trans (Mod.one _ _ _ _) (fun k _ hk => .inl hk)) (fun k hk hf => by
        rcases hf with hf | hf
        · exact .inl hf
        · rcases ha k hf with hf | hf
          · exact .inr hf
          · omega)
      have hws : w.heap.size ≤ wr.heap.size := hm.size
      go_end0
      refine ⟨_, rfl, ⟨hr2.set 0 _, ?_⟩, hfoot, ?_⟩
      · rw [HNN.out, E9 hyb, ← HB.out, ← List.append_assoc, ← HL.out]
        exact ho1.mod (Mod.one _ _ _ _) (fun k hk e => by subst e; exact hne1 hk)
      · intro k hk
        rcases ha1 k hk with h | h
        · exact ha k h
        · right; simp at h; omega
theorem Ks {S : Nat → Prop} (w : World) (p : Nat) (v : Value) (l : List UInt8) (A : Option Addr) (c : Nat) (m : List UInt8) (h : Nw w p v l) (hm : Bs S w A c m) (hS : ∀ k, S k → ¬ HH p v k) (hl : l.length + m.length + 10 ≤ 140737488355328) :
    Calls Tryz.prog 85 #[.pointer (some ⟨p, 0, none⟩), .slice A m.length c] w fun e w' =>
      ∃ v', e = .returned (.tuple #[]) ∧ Nw w' p v' (l ++ Dx m.length ++ m) ∧ Mod (HH p v) w w' ∧ ∀ k, At v' k → At v k ∨ w.heap.size ≤ k := by
  have hC := Hu w p v l m.length h (by omega) (by omega)
  have HC := DZ hC
  clear hC
  have hvl := JE m.length (by omega)
  obtain ⟨L, hL⟩ : ∃ L, L = l ++ Dx m.length := ⟨_, rfl⟩
  have hLl : L.length + m.length ≤ 140737488355328 := by rw [hL, List.length_append]; omega
  rw [← hL] at HC ⊢
  clear hvl hL
  obtain ⟨M, hM⟩ : ∃ M, M = L.length + m.length := ⟨_, rfl⟩
  rw [← hM] at hLl
  have HM := DZ hM
  clear hM
  go_enter Tryz.func85, Tryz.ntmps85
  go_wp2_with (first
    | (go_at_call 83; refine Calls.mono HC.out ?_; rintro e w1 ⟨v1, rfl, ⟨hr1, ho1⟩, hm1, ha1⟩; have hne1 := ho1.ne_row hr1 (by decide); obtain ⟨A1, c1, rfl, hs1⟩ := ho1.form; have h0 := hr1.cell 0; have f0 := hr1.frozen 0; simp only [List.getElem?_toArray, List.getElem?_cons_zero] at h0; have hm' := hm.mod hm1 hS)
    | (at_builtin; refine CZ (t := 32) Mg rfl (.tmp 13) (.tmp 14) rfl ho1 (Nat.zero_le _) hm' M HM.out rfl rfl hLl ?_; intro A2 c2 w2 ho2 hm2 ha2; have hr2 := hr1.mod hm2 hne1; have k0 := hr2.cell 0; have g0 := hr2.frozen 0; simp only [List.getElem?_toArray, List.getElem?_cons_zero] at k0; have hne2 := ho2.ne_row hr2 (by decide)))
  go_end0
  refine ⟨_, rfl, ⟨hr2.set 0 _, ho2.mod (Mod.one _ _ _ _) (fun k hk e => by subst e; exact hne2 hk)⟩, ?_, ?_⟩
  · refine (hm1.trans hm2 (fun k hk hk1 => ?_)).trans (Mod.one _ _ _ _) (fun k _ hk => .inl hk)
    rcases ha1 k hk1 with h | h
    · exact .inr h
    · omega
  · intro k hk
    have hws := hm1.size
    rcases ha2 k hk with h | h
    · exact ha1 k h
    · right; omega
theorem JS (w : World) (p : Nat) (v : Value) (l : List UInt8) (h : Nw w p v l) (hl : l.length ≤ 140737488355328) :
  Calls Tryz.prog 86 #[.pointer (some ⟨p, 0, none⟩)] w fun e w' => ∃ v', e = .returned v' ∧ EW 5 w' w.heap.size v' l ∧ Below w.heap.size w w' := by
 obtain ⟨hr, ho⟩ := h
 obtain ⟨A, c, rfl, hs⟩ := ho.form
 have h0 := hr.cell 0
 have f0 := hr.frozen 0
 simp only [List.getElem?_toArray, List.getElem?_cons_zero] at h0
 go_enter Tryz.func86, Tryz.ntmps86
 go_wp2_with (go_at_call 64; refine (I9 w A c l hs hl).mono ?_; rintro e w' ⟨v', rfl, ho', hb⟩)
 go_ret
 exact ⟨_, rfl, ho', hb⟩
end Go.Proofs.YtjcfimmcogkopaaGreat
namespace Go.Proofs.YtjcfimmcogkopaaGreat
open Go.RowKit
theorem OV {S : Nat → Prop} (w : World) (A : Option Addr) (c : Nat) (l : List UInt8) (most : Nat) (h : Bs S w A c l) (hl : l.length ≤ 140737488355328) (hm : most < 18446744073709551616) :
    Calls Tryz.prog 102 #[.slice A l.length c, .int .u64 (most : Int)] w fun e w' =>
      e = .returned (.tuple #[.int .u64 ((BC most l 0 0).1 : Int), .int .i64 ((BC most l 0 0).2.1 : Int), .int .i64 ((BC most l 0 0).2.2 : Int)]) ∧ w = w' := by
  go_enter Tryz.func102, Tryz.ntmps102
  go_wp2
  go_loop [4, 7, 8, 11] (fun n _ _ i => ∃ k a : Nat, k ≤ l.length ∧ k ≤ 9 ∧ a < 2 ^ (7 * k) ∧ BC most l 0 0 = BC most (l.drop k) k a ∧ i = .int .i64 k ∧ n = .int .u64 a) (fun _ _ _ i => l.length - (intOf i).toNat)
  case atStart => exact ⟨0, 0, Nat.zero_le _, by omega, by decide, rfl, rfl, rfl⟩
  case round =>
    obtain ⟨k, a, hk, hk9, ha, hv, rfl, rfl⟩ := hrel
    have HV := DZ hv
    clear hv
    by_cases hlt : k < l.length
    · obtain ⟨g, o, rfl, hs, hc⟩ := h.2.2 (by omega)
      have hb := hc k l[k] (List.getElem?_eq_getElem hlt)
      unfold OI at hb
      clear hc
      obtain ⟨b, hbb⟩ : ∃ b : Nat, b = (l[k]).toNat := ⟨_, rfl⟩
      have hb2 : b < 256 := by rw [hbb]; exact UInt8.toNat_lt _
      rw [← hbb] at hb
      have HB := DZ hbb
      clear hbb
      have hd : l.drop k = l[k] :: l.drop (k + 1) := List.drop_eq_getElem_cons hlt
      have HD := DZ hd
      clear hd
      have HA := DZ ha
      have HM := DZ hm
      clear hm
      by_cases h9 : k = 9 ∧ 1 < b
      · obtain ⟨rfl, hb1⟩ := h9
        clear ha
        go_wp2
        refine bodyPost_ret (results_tmp3 rfl _ _ _) rfl ⟨?_, rfl⟩
        rw [HV.out, HD.out]
        unfold BC
        rw [← HB.out, if_pos ⟨rfl, hb1⟩]
        rfl
      obtain ⟨X, hX⟩ : ∃ X : Nat, X = a + b % 128 * 2 ^ (7 * k) := ⟨_, rfl⟩
      by_cases h1 : 128 ≤ b
      · have hk8 : k ≤ 8 := by omega
        have hN := Kq a b k hb2 hk9 ha h9 (by omega)
        rw [← hX] at hN
        have HX := DZ hX
        clear ha hX
        go_wp2
        go_round
        case rel =>
          refine ⟨k + 1, X, by omega, by omega, ?_, ?_, by go_num, rfl⟩
          · have hp : (2 : Nat) ^ (7 * (k + 1)) = 128 * 2 ^ (7 * k) := by rw [Nat.mul_add, Nat.pow_add]; omega
            have hc : b % 128 * 2 ^ (7 * k) ≤ 127 * 2 ^ (7 * k) := Nat.mul_le_mul_right _ (by omega)
            have := HA.out
            have := HX.out
            omega
          · rw [HV.out, HD.out]
            conv => lhs; unfold BC
            rw [← HB.out, if_neg h9, if_pos h1, ← HX.out]
        case measure => simp [intOf]; omega
      have h1' : b < 128 := by omega
      by_cases h0 : b = 0 ∧ 0 < k
      · obtain ⟨rfl, hk0⟩ := h0
        clear ha hX
        go_wp2
        all_goals
          refine bodyPost_ret (results_tmp3 rfl _ _ _) rfl ⟨?_, rfl⟩
          rw [HV.out, HD.out]
          unfold BC
          rw [← HB.out, if_neg h9, if_neg h1, if_pos ⟨rfl, hk0⟩]
          rfl
      have hN := Kq a b k hb2 hk9 ha h9 (by omega)
      rw [← hX] at hN
      have HX := DZ hX
      clear ha hX
      by_cases e9 : k = 9
      · subst e9
        rw [show (2 : Int) ^ (7 * 9) = 9223372036854775808 from rfl] at hN
        have hb1 : b ≤ 1 := by omega
        by_cases hl2 : most < X
        · go_wp2
          all_goals
            refine bodyPost_ret (results_tmp3 rfl _ _ _) rfl ⟨?_, rfl⟩
            rw [HV.out, HD.out]
            unfold BC
            rw [← HB.out, if_neg (by omega), if_neg h1, if_neg (by omega), ← HX.out, if_pos hl2]
            rfl
        · go_wp2
          all_goals
            refine bodyPost_ret (results_tmp3 rfl _ _ _) rfl ⟨?_, rfl⟩
            rw [HV.out, HD.out]
            unfold BC
            rw [← HB.out, if_neg (by omega), if_neg h1, if_neg (by omega), ← HX.out, if_neg hl2]
            rfl
      have hk8 : k ≤ 8 := by omega
      by_cases hl2 : most < X
      · go_wp2
        all_goals
          refine bodyPost_ret (results_tmp3 rfl _ _ _) rfl ⟨?_, rfl⟩
          rw [HV.out, HD.out]
          unfold BC
          rw [← HB.out, if_neg h9, if_neg h1, if_neg h0, ← HX.out, if_pos hl2]
          rfl
      · go_wp2
        all_goals
          refine bodyPost_ret (results_tmp3 rfl _ _ _) rfl ⟨?_, rfl⟩
          rw [HV.out, HD.out]
          unfold BC
          rw [← HB.out, if_neg h9, if_neg h1, if_neg h0, ← HX.out, if_neg hl2]
          rfl
    · have hk' : k = l.length := by omega
      have hd : l.drop k = [] := by rw [hk']; exact List.drop_length
      have HD := DZ hd
      clear hd hk' ha hm
      go_wp2
      refine bodyPost_ret (results_tmp3 rfl _ _ _) rfl ⟨?_, rfl⟩
      rw [HV.out, HD.out]
      rfl
end Go.Proofs.YtjcfimmcogkopaaGreat
namespace Go.Proofs.YtjcfimmcogkopaaGreat
open Go.RowKit
end Go.Proofs.YtjcfimmcogkopaaGreat
namespace Go.Proofs.YtjcfimmcogkopaaGreat
open Go.RowKit
def OW (S : Nat → Prop) (w : World) (p : Nat) (A : Option Addr) (c : Nat) (b l : List UInt8) (f : Nat) : Prop :=
  ∃ j, j ≤ b.length ∧ l = b.drop j ∧ CY w p 83 #[.slice A b.length c, .int .i64 (j : Int), .int .i64 (f : Int)] ∧ Bs S w A c b ∧ b.length ≤ 140737488355328 ∧ ∀ k, S k → ¬ Hq p k
theorem OW.mod {S T : Nat → Prop} {w w' : World} {p c f : Nat} {A : Option Addr} {b l : List UInt8} (h : OW S w p A c b l f) (hm : Mod T w w') (hp : ¬ T p) (hn : ∀ k, S k → ¬ T k) : OW S w' p A c b l f := by
 obtain ⟨j, hj, hl, hr, hs, hb, hne⟩ := h
 exact ⟨j, hj, hl, hr.mod hm hp, hs.mod hm hn, hb, hne⟩
theorem OW.lt {S : Nat → Prop} {w : World} {p c f : Nat} {A : Option Addr} {b l : List UInt8} (h : OW S w p A c b l f) : p < w.heap.size := by
 obtain ⟨_, _, _, hr, _⟩ := h
 exact hr.lt
theorem Ct (w : World) (p : Nat) (x : Value) (j f a q : Int) (h : CY w p 83 #[x, .int .i64 j, .int .i64 f]) :
  Calls Tryz.prog 77 #[.pointer (some ⟨p, 0, none⟩), .int .i64 a, .int .i64 q] w fun e w' =>
   e = .returned (.int .u64 0) ∧ CY w' p 83 #[x, .int .i64 a, .int .i64 q] ∧ Mod (Hq p) w w' := by
 have h0 := h.cell 0
 have h1 := h.cell 1
 have h2 := h.cell 2
 have f1 := h.frozen 1
 have f2 := h.frozen 2
 simp at h0 h1 h2
 go_enter Tryz.func77, Tryz.ntmps77
 go_wp2
 go_ret
 exact ⟨rfl, (h.set 2 _).set 1 _, (Mod.one _ _ _ _).same (Mod.one _ _ _ _)⟩
theorem Nx {S : Nat → Prop} (w : World) (p c f most : Nat) (A : Option Addr) (b l : List UInt8) (h : OW S w p A c b l f) (hm : most < 256) :
    Calls Tryz.prog 41 #[.pointer (some ⟨p, 0, none⟩), .int .u8 (most : Int)] w fun e w' =>
      e = .returned (.int .u8 ((Ba most l f).1 : Int)) ∧ OW S w' p A c b (Ba most l f).2.1 (Ba most l f).2.2 ∧ Mod (Hq p) w w' := by
  obtain ⟨j, hj, rfl, hr, hs, hl, hne⟩ := h
  have h0 := hr.cell 0
  have h1 := hr.cell 1
  have h2 := hr.cell 2
  have f1 := hr.frozen 1
  simp at h0 h1 h2
  by_cases hf : f = 0
  · subst hf
    by_cases hlt : j < b.length
    · obtain ⟨g, o, rfl, hg, hc⟩ := hs.2.2 (by omega)
      have hb := hc j b[j] (List.getElem?_eq_getElem hlt)
      unfold OI at hb
      clear hc
      have hd : b.drop j = b[j] :: b.drop (j + 1) := List.drop_eq_getElem_cons hlt
      obtain ⟨n, hn⟩ : ∃ n : Nat, n = (b[j]).toNat := ⟨_, rfl⟩
      have hn2 : n < 256 := by rw [hn]; exact UInt8.toNat_lt _
      rw [← hn] at hb
      by_cases hmb : most < n
      · have hE : Ba most (b.drop j) 0 = (0, b.drop j, 12) := by rw [hd]; simp only [Ba, ← hn]; rw [if_neg (by simp), if_pos hmb]
        have HE := DZ hE
        clear hE hd hn
        go_enter Tryz.func41, Tryz.ntmps41
        go_wp2_with fail
        go_quiet (fail)
        go_wp2_with fail
        go_quiet (fail)
        go_wp2_with (go_at_call 77; refine (Ct _ p _ _ _ _ _ (hr.mod ((Mod.refl Nil w).drewN _) (fun hf => hf))).mono ?_; rintro e w' ⟨rfl, hr', hm'⟩)
        go_ret
        rw [HE.out]
        have hm1 := ((Mod.refl (Hq p) w).drewN _).same hm'
        exact ⟨rfl, ⟨j, hj, rfl, hr', hs.mod hm1 hne, hl, hne⟩, hm1⟩
      · have hE : Ba most (b.drop j) 0 = (n, b.drop (j + 1), 0) := by rw [hd]; simp only [Ba, ← hn]; rw [if_neg (by simp), if_neg hmb]
        have HE := DZ hE
        have hmN : ∀ N, Mod (Hq p) w ((w.drewN N).setCell ⟨p, 1, none⟩ (.int .i64 ((j : Int) + 1))) := fun N => ((Mod.refl (Hq p) w).drewN N).same (Mod.one _ _ _ _)
        have hrN : ∀ N, CY ((w.drewN N).setCell ⟨p, 1, none⟩ (.int .i64 ((j : Int) + 1))) p 83 #[.slice (some ⟨g, o, none⟩) b.length c, .int .i64 ((j : Int) + 1), .int .i64 ((0 : Nat) : Int)] :=
          fun N => (hr.mod ((Mod.refl Nil w).drewN N) (fun hf => hf)).set 1 (.int .i64 ((j : Int) + 1))
        have k0 : ∀ N, ((w.drewN N).setCell ⟨p, 1, none⟩ (.int .i64 ((j : Int) + 1))).cell? ⟨p, 0, none⟩ = some (.slice (some ⟨g, o, none⟩) b.length c) := fun N => by simpa using (hrN N).cell 0
        have k1 : ∀ N, ((w.drewN N).setCell ⟨p, 1, none⟩ (.int .i64 ((j : Int) + 1))).cell? ⟨p, 1, none⟩ = some (.int .i64 ((j : Int) + 1)) := fun N => by simpa using (hrN N).cell 1
        have kb : ∀ N, ((w.drewN N).setCell ⟨p, 1, none⟩ (.int .i64 ((j : Int) + 1))).cell? ⟨g, o + j, none⟩ = some (.int .u8 (n : Int)) := fun N => by
          obtain ⟨g2, o2, he, _, hc2⟩ := (hs.mod (hmN N) hne).2.2 (by omega)
          cases he
          have := hc2 j b[j] (List.getElem?_eq_getElem hlt)
          unfold OI at this
          rw [this, hn]
        clear hE hd hn
        go_enter Tryz.func41, Tryz.ntmps41
        go_wp2_with fail
        go_quiet (fail)
        go_wp2_with fail
        go_quiet (fail)
        go_wp2_with fail
        go_quiet (fail)
        go_wp2_with fail
        go_ret
        rw [HE.out]
        exact ⟨rfl, ⟨j + 1, by omega, rfl, (hrN _).mod ((Mod.refl Nil _).drewN _) (fun hf => hf), hs.mod ((hmN _).drewN _) hne, hl, hne⟩, (hmN _).drewN _⟩
    · have hE : Ba most (b.drop j) 0 = (0, b.drop j, 10) := by rw [List.drop_eq_nil_of_le (by omega)]; rfl
      have HE := DZ hE
      clear hE
      go_enter Tryz.func41, Tryz.ntmps41
      go_wp2_with fail
      go_quiet (fail)
      go_wp2_with (go_at_call 77; refine (Ct _ p _ _ _ _ _ (hr.mod ((Mod.refl Nil w).drewN _) (fun hf => hf))).mono ?_; rintro e w' ⟨rfl, hr', hm'⟩)
      go_ret
      rw [HE.out]
      have hm1 := ((Mod.refl (Hq p) w).drewN _).same hm'
      exact ⟨rfl, ⟨j, hj, rfl, hr', hs.mod hm1 hne, hl, hne⟩, hm1⟩
  · have hE : Ba most (b.drop j) f = (0, b.drop j, f) := by unfold Ba; rw [if_pos hf]
    have HE := DZ hE
    clear hE
    go_enter Tryz.func41, Tryz.ntmps41
    go_wp2
    go_ret
    rw [HE.out]
    exact ⟨rfl, ⟨j, hj, rfl, hr, hs, hl, hne⟩, Mod.refl _ _⟩
theorem OX {S : Nat → Prop} (w : World) (p c f : Nat) (A : Option Addr) (b l : List UInt8) (h : OW S w p A c b l f) :
    Calls Tryz.prog 43 #[.pointer (some ⟨p, 0, none⟩)] w fun e w' => e = .returned (.int .i64 (Dy l f : Int)) ∧ Below w.heap.size w w' := by
  obtain ⟨j, hj, rfl, hr, hs, hl, hne⟩ := h
  have h0 := hr.cell 0
  have h1 := hr.cell 1
  have h2 := hr.cell 2
  simp at h0 h1 h2
  by_cases hf : f = 0
  · subst hf
    by_cases hlt : j < b.length
    · have hE : Dy (b.drop j) 0 = 11 := by unfold Dy; rw [if_pos ⟨rfl, by rw [List.length_drop]; omega⟩]
      rw [hE]
      clear hE
      go_enter Tryz.func43, Tryz.ntmps43
      go_wp2_with fail
      go_quiet (fail)
      go_wp2_with fail
      go_ret
      exact ⟨rfl, ((Up.refl w).drewN _).below⟩
    · have hE : Dy (b.drop j) 0 = 0 := by unfold Dy; rw [if_neg (by rw [List.length_drop]; omega)]
      rw [hE]
      clear hE
      go_enter Tryz.func43, Tryz.ntmps43
      go_wp2_with fail
      go_quiet (fail)
      go_wp2_with fail
      go_ret
      exact ⟨rfl, ((Up.refl w).drewN _).below⟩
  · have hE : Dy (b.drop j) f = f := by unfold Dy; rw [if_neg (by omega)]
    rw [hE]
    clear hE
    go_enter Tryz.func43, Tryz.ntmps43
    go_wp2_with fail
    go_quiet (fail)
    go_wp2_with fail
    go_ret
    exact ⟨rfl, ((Up.refl w).drewN _).below⟩
theorem Rl (a b k : Nat) (hk : k ≤ 9) (ha : a < 2 ^ (7 * k)) (h9 : ¬ (k = 9 ∧ 1 < b)) :
    IntKind.u64.wrap ((a : Int) + IntKind.u64.wrap ((b : Int) % 128 * 2 ^ (7 * k))) = ((a + b % 128 * 2 ^ (7 * k) : Nat) : Int) := by
  have hm : b % 128 * 2 ^ (7 * k) + a < 18446744073709551616 := by
    by_cases h : k = 9
    · subst h
      have hc1 : b % 128 * 2 ^ (7 * 9) ≤ 1 * 2 ^ (7 * 9) := Nat.mul_le_mul_right _ (by omega)
      omega
    · have : (2 : Nat) ^ (7 * k) ≤ 2 ^ 56 := Nat.pow_le_pow_right (by omega) (by omega)
      have hc1 : b % 128 * 2 ^ (7 * k) ≤ 127 * 2 ^ (7 * k) := Nat.mul_le_mul_right _ (by omega)
      omega
  have e : ((b : Int) % 128 * 2 ^ (7 * k)) = ((b % 128 * 2 ^ (7 * k) : Nat) : Int) := by push_cast; rfl
  rw [e, Dz _ (by omega), ← Int.natCast_add, Dz _ (by omega)]
theorem OY (a b : Nat) (ha : a < 2 ^ (7 * 9)) (hb : b ≤ 1) :
  IntKind.u64.wrap ((a : Int) + (b : Int) % 128 * 9223372036854775808) = ((a + b % 128 * 2 ^ (7 * 9) : Nat) : Int) := by
 have hm : b % 128 * 9223372036854775808 + a < 18446744073709551616 := by omega
 have e : ((a : Int) + (b : Int) % 128 * 9223372036854775808) = ((a + b % 128 * 2 ^ (7 * 9) : Nat) : Int) := by omega
 rw [e, Dz _ (by omega)]
set_option maxHeartbeats 4000000 in
theorem JF {S : Nat → Prop} (w : World) (p c f most : Nat) (A : Option Addr) (b l : List UInt8) (h : OW S w p A c b l f) (hm : most < 18446744073709551616) :
    Calls Tryz.prog 40 #[.pointer (some ⟨p, 0, none⟩), .int .u64 (most : Int)] w fun e w' =>
      e = .returned (.int .u64 ((BL most l f).1 : Int)) ∧ OW S w' p A c b (BL most l f).2.1 (BL most l f).2.2 ∧ Mod (Hq p) w w' := by
  obtain ⟨j, hj, rfl, hr, hs, hl, hne⟩ := h
  have h0 := hr.cell 0
  have h1 := hr.cell 1
  have h2 := hr.cell 2
  have f1 := hr.frozen 1
  simp at h0 h1 h2
  by_cases hf : f = 0
  · subst hf
    have hE : BL most (b.drop j) 0 = ((BC most (b.drop j) 0 0).1, (b.drop j).drop (BC most (b.drop j) 0 0).2.1, (BC most (b.drop j) 0 0).2.2) := by unfold BL; rw [if_neg (by simp)]
    rw [hE]
    clear hE
    go_enter Tryz.func40, Tryz.ntmps40
    go_wp2_with fail
    go_loop [6, 7, 8] (fun n i _ => ∃ k a : Nat, j + k ≤ b.length ∧ k ≤ 9 ∧ a < 2 ^ (7 * k) ∧ BC most (b.drop j) 0 0 = BC most (b.drop (j + k)) k a ∧ i = .int .i64 k ∧ n = .int .u64 a) (fun _ i _ => b.length - (intOf i).toNat)
    case atStart => exact ⟨0, 0, by omega, by omega, by decide, rfl, rfl, rfl⟩
    case round =>
      obtain ⟨k, a, hk, hk9, ha, hv, rfl, rfl⟩ := hrel
      have HV := DZ hv
      clear hv
      by_cases hlt : j + k < b.length
      · obtain ⟨g, o, rfl, hg, hc⟩ := hs.2.2 (by omega)
        have hb := hc (j + k) b[j + k] (List.getElem?_eq_getElem hlt)
        unfold OI at hb
        clear hc
        obtain ⟨x, hx⟩ : ∃ x : Nat, x = (b[j + k]).toNat := ⟨_, rfl⟩
        have hx2 : x < 256 := by rw [hx]; exact UInt8.toNat_lt _
        rw [← hx] at hb
        have HB := DZ hx
        clear hx
        have hd : b.drop (j + k) = b[j + k] :: b.drop (j + (k + 1)) := List.drop_eq_getElem_cons hlt
        have HD := DZ hd
        clear hd
        have HA := DZ ha
        have HM := DZ hm
        clear hm
        by_cases h9 : k = 9 ∧ 1 < x
        · obtain ⟨rfl, hb1⟩ := h9
          clear ha
          go_wp2_with (go_at_call 77; refine (Ct _ p _ _ _ _ _ hr).mono ?_; rintro e w' ⟨rfl, hr', hm'⟩)
          go_ret
          rw [HV.out, HD.out]
          unfold BC
          rw [← HB.out, if_pos ⟨rfl, hb1⟩]
          exact ⟨rfl, ⟨j, hj, by simp, hr', hs.mod hm' hne, hl, hne⟩, hm'⟩
        obtain ⟨X, hX⟩ : ∃ X : Nat, X = a + x % 128 * 2 ^ (7 * k) := ⟨_, rfl⟩
        have hN := Rl a x k hk9 ha h9
        rw [← hX] at hN
        by_cases h1 : 128 ≤ x
        · have hk8 : k ≤ 8 := by omega
          have HX := DZ hX
          clear ha hX
          go_wp2_with fail
          go_round
          case rel =>
            refine ⟨k + 1, X, by omega, by omega, ?_, ?_, by go_num, rfl⟩
            · have hp : (2 : Nat) ^ (7 * (k + 1)) = 128 * 2 ^ (7 * k) := by rw [Nat.mul_add, Nat.pow_add]; omega
              have hc : x % 128 * 2 ^ (7 * k) ≤ 127 * 2 ^ (7 * k) := Nat.mul_le_mul_right _ (by omega)
              have := HA.out
              have := HX.out
              omega
            · rw [HV.out, HD.out]
              conv => lhs; unfold BC
              rw [← HB.out, if_neg h9, if_pos h1, ← HX.out]
          case measure => simp [intOf]; omega
        have h1' : x < 128 := by omega
        by_cases hz : x = 0 ∧ 0 < k
        · obtain ⟨rfl, hk0⟩ := hz
          clear ha hX
          go_wp2_with (go_at_call 77; refine (Ct _ p _ _ _ _ _ hr).mono ?_; rintro e w' ⟨rfl, hr', hm'⟩)
          all_goals
            go_ret
            rw [HV.out, HD.out]
            unfold BC
            rw [← HB.out, if_neg h9, if_neg h1, if_pos ⟨rfl, hk0⟩]
            exact ⟨rfl, ⟨j, hj, by simp, hr', hs.mod hm' hne, hl, hne⟩, hm'⟩
        by_cases e9 : k = 9
        · subst e9
          have hb1 : x ≤ 1 := by omega
          have hN9 := OY a x ha hb1
          rw [← hX] at hN9
          have HX := DZ hX
          clear ha hX hN
          by_cases hl2 : most < X
          · go_wp2_with (go_at_call 77; refine (Ct _ p _ _ _ _ _ hr).mono ?_; rintro e w' ⟨rfl, hr', hm'⟩)
            all_goals
              go_ret
              rw [HV.out, HD.out]
              unfold BC
              rw [← HB.out, if_neg (by omega), if_neg h1, if_neg (by omega), ← HX.out, if_pos hl2]
              exact ⟨rfl, ⟨j, hj, by simp, hr', hs.mod hm' hne, hl, hne⟩, hm'⟩
          · go_wp2_with (go_at_call 77; refine (Ct _ p _ _ _ _ _ hr).mono ?_; rintro e w' ⟨rfl, hr', hm'⟩)
            all_goals
              go_ret
              rw [HV.out, HD.out]
              unfold BC
              rw [← HB.out, if_neg (by omega), if_neg h1, if_neg (by omega), ← HX.out, if_neg hl2]
              refine ⟨rfl, ⟨j + 9 + 1, by omega, by simp only [List.drop_drop], ?_, hs.mod (Mod.one _ _ _ _) hne, hl, hne⟩, Mod.one _ _ _ _⟩
              exact hr.set 1 _
        have hk8 : k ≤ 8 := by omega
        have HX := DZ hX
        clear ha hX
        by_cases hl2 : most < X
        · go_wp2_with (go_at_call 77; refine (Ct _ p _ _ _ _ _ hr).mono ?_; rintro e w' ⟨rfl, hr', hm'⟩)
          all_goals
            go_ret
            rw [HV.out, HD.out]
            unfold BC
            rw [← HB.out, if_neg h9, if_neg h1, if_neg hz, ← HX.out, if_pos hl2]
            exact ⟨rfl, ⟨j, hj, by simp, hr', hs.mod hm' hne, hl, hne⟩, hm'⟩
        · go_wp2_with (go_at_call 77; refine (Ct _ p _ _ _ _ _ hr).mono ?_; rintro e w' ⟨rfl, hr', hm'⟩)
          all_goals
            go_ret
            rw [HV.out, HD.out]
            unfold BC
            rw [← HB.out, if_neg h9, if_neg h1, if_neg hz, ← HX.out, if_neg hl2]
            refine ⟨rfl, ⟨j + k + 1, by omega, by simp only [List.drop_drop]; congr 1, ?_, hs.mod (Mod.one _ _ _ _) hne, hl, hne⟩, Mod.one _ _ _ _⟩
            exact hr.set 1 _
      · have hd : b.drop (j + k) = [] := List.drop_eq_nil_of_le (by omega)
        have HD := DZ hd
        clear hd ha hm
        go_wp2_with (go_at_call 77; refine (Ct _ p _ _ _ _ _ hr).mono ?_; rintro e w' ⟨rfl, hr', hm'⟩)
        go_ret
        rw [HV.out, HD.out]
        exact ⟨rfl, ⟨j, hj, by simp [BC], hr', hs.mod hm' hne, hl, hne⟩, hm'⟩
  · have hE : BL most (b.drop j) f = (0, b.drop j, f) := by unfold BL; rw [if_pos hf]
    have HE := DZ hE
    clear hE
    go_enter Tryz.func40, Tryz.ntmps40
    go_wp2
    go_ret
    rw [HE.out]
    exact ⟨rfl, ⟨j, hj, rfl, hr, hs, hl, hne⟩, Mod.refl _ _⟩
end Go.Proofs.YtjcfimmcogkopaaGreat
namespace Go.Proofs.YtjcfimmcogkopaaGreat
theorem Ja (most : Nat) : ∀ (l : List UInt8) (k a : Nat), (BC most l k a).2.2 = 0 →
    ∃ m, (BC most l k a).1 = a + m * 2 ^ (7 * k) ∧ (0 < k → m ≠ 0) ∧ k < (BC most l k a).2.1 ∧ l.take ((BC most l k a).2.1 - k) = Dx m
  | [], k, a, h => by cases h
  | c :: r, k, a, h => by
    unfold BC at h ⊢
    by_cases h1 : k = 9 ∧ 1 < c.toNat
    · rw [if_pos h1] at h; cases h
    rw [if_neg h1] at h ⊢
    have hc := UInt8.toNat_lt c
    by_cases h2 : 128 ≤ c.toNat
    · rw [if_pos h2] at h ⊢
      obtain ⟨m, e, hm, hk, ht⟩ := Ja most r (k + 1) _ h
      have hm := hm (by omega)
      refine ⟨c.toNat % 128 + 128 * m, ?_, fun _ => by omega, by omega, ?_⟩
      · rw [e, show 7 * (k + 1) = 7 * k + 7 by omega, Nat.pow_add, Nat.add_mul, Nat.add_assoc]
        congr 2
        rw [show (2 : Nat) ^ 7 = 128 by decide, Nat.mul_comm (2 ^ (7 * k)) 128, ← Nat.mul_assoc, Nat.mul_comm m 128]
      · rw [G4 (by omega), show (c.toNat % 128 + 128 * m) / 128 = m by omega, ← ht]
        obtain ⟨j, hj⟩ : ∃ j, (BC most r (k + 1) (a + c.toNat % 128 * 2 ^ (7 * k))).2.1 = k + 1 + (j + 1) := ⟨(BC most r (k + 1) (a + c.toNat % 128 * 2 ^ (7 * k))).2.1 - (k + 2), by omega⟩
        rw [hj, show k + 1 + (j + 1) - k = (j + 1) + 1 by omega, show k + 1 + (j + 1) - (k + 1) = j + 1 by omega, List.take_succ_cons]
        congr 1
        apply UInt8.toNat_inj.1
        rw [UInt8.toNat_ofNat']
        omega
    rw [if_neg h2] at h ⊢
    by_cases h3 : c.toNat = 0 ∧ 0 < k
    · rw [if_pos h3] at h; cases h
    rw [if_neg h3] at h ⊢
    by_cases h4 : most < a + c.toNat % 128 * 2 ^ (7 * k)
    · rw [if_pos h4] at h; cases h
    rw [if_neg h4] at h ⊢
    refine ⟨c.toNat, by rw [Nat.mod_eq_of_lt (by omega)], fun hk => by omega, by show k < k + 1; omega, ?_⟩
    show (c :: r).take (k + 1 - k) = _
    rw [show k + 1 - k = 0 + 1 by omega, List.take_succ_cons, E9 (by omega)]
    simp
theorem Rm {most : Nat} {l : List UInt8} (h : (BL most l 0).2.2 = 0) : l = Dx (BL most l 0).1 ++ (BL most l 0).2.1 := by
 have e : BL most l 0 = ((BC most l 0 0).1, l.drop (BC most l 0 0).2.1, (BC most l 0 0).2.2) := by
  unfold BL; rw [if_neg (by simp)]
 rw [e] at h ⊢
 obtain ⟨m, e1, _, _, e2⟩ := Ja most l 0 0 h
 show l = Dx (BC most l 0 0).1 ++ l.drop (BC most l 0 0).2.1
 rw [show (BC most l 0 0).1 = m by rw [e1]; simp, ← e2, Nat.sub_zero, List.take_append_drop]
theorem Ny {n : Nat} (h : n < 18446744073709551616) : -9223372036854775808 ≤ Qr n ∧ Qr n ≤ 9223372036854775807 := by
 unfold Qr
 split <;> omega
theorem JX (most : Nat) (l : List UInt8) (f : Nat) : (BL most l f).1 < 18446744073709551616 := by
  unfold BL
  split
  · show (0 : Nat) < _; decide
  · rcases FC most l 0 0 (by omega) (by decide) with ⟨_, _, _, _, h⟩ | ⟨h, _⟩
    · exact h
    · show (BC most l 0 0).1 < _
      rw [h]; decide
theorem OZ (l : List UInt8) (f : Nat) : -9223372036854775808 ≤ (OS l f).1 ∧ (OS l f).1 ≤ 9223372036854775807 := Ny (JX _ _ _)
theorem Iy (most : Nat) (l : List UInt8) (f : Nat) : (Ba most l f).1 < 256 := by
  unfold Ba
  split
  · show (0 : Nat) < _; decide
  · cases l with
    | nil => show (0 : Nat) < _; decide
    | cons b r =>
      have hb := UInt8.toNat_lt b
      simp only
      split
      · show (0 : Nat) < _; decide
      · exact hb
theorem O0 {most : Int} {l : List UInt8} (h : (BZ most l 0).2.2 = 0) : l = Dx (BZ most l 0).1.length ++ (BZ most l 0).1 ++ (BZ most l 0).2.1 := by
  unfold BZ at h ⊢
  rw [if_neg (by simp)] at h ⊢
  by_cases h1 : (BC most.toNat l 0 0).2.2 ≠ 0
  · rw [if_pos h1] at h; exact absurd h h1
  rw [if_neg h1] at h ⊢
  by_cases h2 : l.length - (BC most.toNat l 0 0).2.1 < (BC most.toNat l 0 0).1
  · rw [if_pos h2] at h; cases h
  rw [if_neg h2]
  obtain ⟨m, e1, _, _, e2⟩ := Ja most.toNat l 0 0 (by omega)
  obtain ⟨j, hj⟩ : ∃ j, j = (BC most.toNat l 0 0).2.1 := ⟨_, rfl⟩
  obtain ⟨n, hn⟩ : ∃ n, n = (BC most.toNat l 0 0).1 := ⟨_, rfl⟩
  rw [← hj, Nat.sub_zero] at e2
  rw [← hn] at e1
  rw [← hj, ← hn] at h2 ⊢
  have hm : m = n := by rw [e1]; simp
  subst hm
  show l = Dx ((l.drop j).take m).length ++ (l.drop j).take m ++ l.drop (j + m)
  rw [List.length_take, List.length_drop, Nat.min_eq_left (by omega), ← e2, List.append_assoc, ← List.drop_drop, List.take_append_drop, List.take_append_drop]
theorem Nz {most f : Nat} {l : List UInt8} (h : f ≠ 0) : (Ba most l f).2.2 = f := by unfold Ba; rw [if_pos h]
theorem O1 {most f : Nat} {l : List UInt8} (h : f ≠ 0) : (BL most l f).2.2 = f := by unfold BL; rw [if_pos h]
theorem NA {most : Int} {f : Nat} {l : List UInt8} (h : f ≠ 0) : (BZ most l f).2.2 = f := by unfold BZ; rw [if_pos h]
theorem Rn {most : Nat} {l : List UInt8} {f : Nat} (h : (BL most l f).2.2 = 0) : f = 0 ∧ l = Dx (BL most l f).1 ++ (BL most l f).2.1 := by
  by_cases hf : f = 0
  · subst hf; exact ⟨rfl, Rm h⟩
  · rw [O1 hf] at h; exact absurd h hf
theorem O2 {most : Int} {l : List UInt8} {f : Nat} (h : (BZ most l f).2.2 = 0) : f = 0 ∧ l = Dx (BZ most l f).1.length ++ (BZ most l f).1 ++ (BZ most l f).2.1 := by
  by_cases hf : f = 0
  · subst hf; exact ⟨rfl, O0 h⟩
  · rw [NA hf] at h; exact absurd h hf
end Go.Proofs.YtjcfimmcogkopaaGreat
namespace Go.Proofs.YtjcfimmcogkopaaGreat
theorem SP (k : Nat) : (2 : Nat) ^ (7 * (k + 1)) = 128 * 2 ^ (7 * k) := by rw [Nat.mul_add, Nat.pow_add]; omega
theorem Iz (n : Nat) (h : n < 256) : (UInt8.ofNat n).toNat = n := by simp [UInt8.toNat_ofNat']; omega
theorem Jb (n k a : Nat) : a + n % 128 * 2 ^ (7 * k) + n / 128 * 2 ^ (7 * (k + 1)) = a + n * 2 ^ (7 * k) := by
 rw [SP]
 have h : n = 128 * (n / 128) + n % 128 := by omega
 have h2 : n * 2 ^ (7 * k) = (128 * (n / 128) + n % 128) * 2 ^ (7 * k) := by rw [← h]
 rw [h2, Nat.add_mul, Nat.mul_comm 128 (n / 128), Nat.mul_assoc]
 omega
theorem Qu {n k a : Nat} (hs : a + n * 2 ^ (7 * k) < 18446744073709551616) (hk : k ≤ 9) (hn : 2 ≤ n) : k < 9 := by
  rcases Nat.lt_or_ge k 9 with h | h
  · exact h
  · have : k = 9 := by omega
    subst this
    have : 2 * 2 ^ (7 * 9) ≤ n * 2 ^ (7 * 9) := Nat.mul_le_mul_right _ hn
    omega
theorem SQ (most : Nat) (n : Nat) : ∀ (k a : Nat) (r : List UInt8), (0 < k → 0 < n) → a + n * 2 ^ (7 * k) ≤ most → a + n * 2 ^ (7 * k) < 18446744073709551616 → k ≤ 9 →
    BC most (Dx n ++ r) k a = (a + n * 2 ^ (7 * k), k + (Dx n).length, 0) := by
  induction n using Nat.strongRecOn with
  | _ n ih =>
    intro k a r h0 hm hs hk
    by_cases hn : n < 128
    · rw [E9 hn]
      simp only [List.cons_append, List.nil_append, List.length_cons, List.length_nil]
      unfold BC
      rw [Iz n (by omega), if_neg, if_neg (by omega), if_neg (by omega), Nat.mod_eq_of_lt hn, if_neg (by omega)]
      rintro ⟨rfl, h1⟩
      have := Qu hs hk h1
      omega
    · have hk9 := Qu hs hk (show 2 ≤ n by omega)
      rw [G4 (by omega)]
      simp only [List.cons_append, List.length_cons]
      unfold BC
      rw [Iz _ (by omega), if_neg (by omega), if_pos (by omega), show (n % 128 + 128) % 128 = n % 128 by omega]
      rw [ih (n / 128) (by omega) (k + 1) _ r (fun _ => by omega) (by rw [Jb]; exact hm) (by rw [Jb]; exact hs) (by omega), Jb]
      congr 2
      omega
theorem Lz (most n : Nat) (r : List UInt8) (hm : n ≤ most) (hs : n < 18446744073709551616) : BC most (Dx n ++ r) 0 0 = (n, (Dx n).length, 0) := by
 have := SQ most n 0 0 r (by omega) (by simpa using hm) (by simpa using hs) (by omega)
 simpa using this
theorem Ro (most : Nat) (b : UInt8) (r : List UInt8) (h : b.toNat ≤ most) : Ba most (b :: r) 0 = (b.toNat, r, 0) := by
 simp only [Ba]
 rw [if_neg (by simp), if_neg (by omega)]
theorem NB (most n : Nat) (r : List UInt8) (hm : n ≤ most) (hs : n < 18446744073709551616) : BL most (Dx n ++ r) 0 = (n, r, 0) := by
 unfold BL
 rw [if_neg (by simp), Lz most n r hm hs]
 simp
theorem Rp (most : Int) (t r : List UInt8) (hm : (t.length : Int) ≤ most) (hs : t.length < 18446744073709551616) : BZ most (Dx t.length ++ t ++ r) 0 = (t, r, 0) := by
 unfold BZ
 rw [if_neg (by simp), List.append_assoc, Lz most.toNat t.length (t ++ r) (by omega) hs]
 simp only [List.length_append, List.drop_append_of_le_length (Nat.le_refl _), List.drop_length, List.nil_append]
 rw [if_neg (by simp), if_neg (by omega)]
 simp [List.drop_append, Nat.add_sub_cancel_left]
theorem NC {most f : Nat} {l : List UInt8} (h : f ≠ 0) : Ba most l f = (0, l, f) := by simp [Ba, h]
theorem O3 {most f : Nat} {l : List UInt8} (h : f ≠ 0) : BL most l f = (0, l, f) := by simp [BL, h]
theorem ND {most : Int} {f : Nat} {l : List UInt8} (h : f ≠ 0) : BZ most l f = ([], l, f) := by simp [BZ, h]
def SR (D l : List UInt8) (f : Nat) : Prop := f = 10 ∨ (f = 0 ∧ ∃ m, m < D.length ∧ l = D.take m)
theorem SR.parts {B R l : List UInt8} {f : Nat} (h : SR (B ++ R) l f) : f = 10 ∨ (f = 0 ∧ ∃ m, m < B.length ∧ l = B.take m) ∨ (f = 0 ∧ ∃ m, m < R.length ∧ l = B ++ R.take m) := by
  rcases h with h | ⟨h, m, hm, rfl⟩
  · exact .inl h
  · rw [List.length_append] at hm
    by_cases hb : m < B.length
    · exact .inr (.inl ⟨h, m, hb, List.take_append_of_le_length (by omega)⟩)
    · obtain ⟨j, rfl⟩ : ∃ j, m = B.length + j := ⟨m - B.length, by omega⟩
      exact .inr (.inr ⟨h, j, by omega, List.take_length_add_append ..⟩)
end Go.Proofs.YtjcfimmcogkopaaGreat
namespace Go.Proofs.YtjcfimmcogkopaaGreat
structure CmdD where
  k : Int
  s : Int
  q : Int
  a : Int
  b : Int
  hi : Int
  lo : Int
  sc : Int
  x : List UInt8
  y : List UInt8
deriving DecidableEq
def CmdD.zero : CmdD := ⟨0, 0, 0, 0, 0, 0, 0, 0, [], []⟩
def M9 (n : Int) : Prop := 0 ≤ n ∧ n ≤ 18446744073709551615
def Qv (n : Int) : Prop := -9223372036854775808 ≤ n ∧ n ≤ 9223372036854775807
structure CmdD.ok (c : CmdD) : Prop where
  k : Qv c.k
  s : M9 c.s
  q : M9 c.q
  a : M9 c.a
  b : M9 c.b
  hi : Qv c.hi
  lo : M9 c.lo
  sc : Qv c.sc
  x : c.x.length ≤ 9223372036854775807
  y : c.y.length ≤ 9223372036854775807
def fo (k : Int) : Nat := if k = 6 ∨ k = 8 then 31 else if k = 4 ∨ k = 5 then 23 else if k = 9 then 7 else if k = 7 then 115 else if k = 11 then 99 else if k = 3 ∨ k = 10 then 35 else if k = 2 then 39 else if k = 1 then 1 else 0
def Hv (h f : Nat) : Bool := (h &&& f) != 0
def Ef (n : Int) : Bool := decide (n ≥ 1) && decide (n ≤ 72057594037927935)
def UA (b : UInt8) : Bool := decide (65 ≤ b.toNat) && decide (b.toNat ≤ 90)
def Cv (l : List UInt8) : Bool := decide (l.length = 3) && l.all UA
def Xn (n : Int) : Bool := decide (n ≥ 0) && decide (n ≤ 18)
def Gu (has right zero : Bool) : Bool := match has with | true => right | false => zero
def WS (c : CmdD) : Bool := c.hi == 0 && (c.lo == 0 && c.sc == 0)
def SS (c : CmdD) : Bool :=
  fo c.k != 0 && Gu (Hv (fo c.k) 1) (Ef c.s) (c.s == 0) && Gu (Hv (fo c.k) 2) (Ef c.q) (c.q == 0) && Gu (Hv (fo c.k) 4) true (c.a == 0) && Gu (Hv (fo c.k) 8) true (c.b == 0)
    && Gu (Hv (fo c.k) 16) (Xn c.sc) (WS c) && Gu (Hv (fo c.k) 32) (Cv c.x) (c.x == []) && Gu (Hv (fo c.k) 64) (Cv c.y) (c.y == [])
def Fu (n : Int) : List UInt8 := Dx n.toNat
def WT (b : Bool) (r : Nat × List UInt8 × Nat) (l : List UInt8) (f : Nat) : Nat × List UInt8 × Nat := match b with | true => r | false => (0, l, f)
def VM (l : List UInt8) (f : Nat) : (Int × Nat × Nat) × List UInt8 × Nat :=
  (((OS (Ba 18 l f).2.1 (Ba 18 l f).2.2).1, (BL 18446744073709551615 (OS (Ba 18 l f).2.1 (Ba 18 l f).2.2).2.1 (OS (Ba 18 l f).2.1 (Ba 18 l f).2.2).2.2).1, (Ba 18 l f).1), (BL 18446744073709551615 (OS (Ba 18 l f).2.1 (Ba 18 l f).2.2).2.1 (OS (Ba 18 l f).2.1 (Ba 18 l f).2.2).2.2).2)
def VN (l : List UInt8) (f : Nat) : List UInt8 × List UInt8 × Nat :=
  ([UInt8.ofNat (Ba 90 l f).1, UInt8.ofNat (Ba 90 (Ba 90 l f).2.1 (Ba 90 l f).2.2).1, UInt8.ofNat (Ba 90 (Ba 90 (Ba 90 l f).2.1 (Ba 90 l f).2.2).2.1 (Ba 90 (Ba 90 l f).2.1 (Ba 90 l f).2.2).2.2).1], (Ba 90 (Ba 90 (Ba 90 l f).2.1 (Ba 90 l f).2.2).2.1 (Ba 90 (Ba 90 l f).2.1 (Ba 90 l f).2.2).2.2).2)
def WU (b : Bool) (l : List UInt8) (f : Nat) : (Int × Nat × Nat) × List UInt8 × Nat := match b with | true => VM l f | false => ((0, 0, 0), l, f)
def VO (b : Bool) (l : List UInt8) (f : Nat) : List UInt8 × List UInt8 × Nat := match b with | true => VN l f | false => ([], l, f)
structure Read (l : List UInt8) (c : CmdD) (l' : List UInt8) (f' : Nat) where
  mk ::
  n0 : Nat
  l0 : List UInt8
  f0 : Nat
  h0 : Ba 11 l 0 = (n0, l0, f0)
  n1 : Nat
  l1 : List UInt8
  f1 : Nat
  h1 : WT (Hv (fo (n0 : Int)) 1) (BL 72057594037927935 l0 f0) l0 f0 = (n1, l1, f1)
  n2 : Nat
  l2 : List UInt8
  f2 : Nat
  h2 : WT (Hv (fo (n0 : Int)) 2) (BL 72057594037927935 l1 f1) l1 f1 = (n2, l2, f2)
  n3 : Nat
  l3 : List UInt8
  f3 : Nat
  h3 : WT (Hv (fo (n0 : Int)) 4) (BL 18446744073709551615 l2 f2) l2 f2 = (n3, l3, f3)
  n4 : Nat
  l4 : List UInt8
  f4 : Nat
  h4 : WT (Hv (fo (n0 : Int)) 8) (BL 18446744073709551615 l3 f3) l3 f3 = (n4, l4, f4)
  hi : Int
  lo : Nat
  sc : Nat
  l5 : List UInt8
  f5 : Nat
  h5 : WU (Hv (fo (n0 : Int)) 16) l4 f4 = ((hi, lo, sc), l5, f5)
  x : List UInt8
  l6 : List UInt8
  f6 : Nat
  h6 : VO (Hv (fo (n0 : Int)) 32) l5 f5 = (x, l6, f6)
  y : List UInt8
  h7 : VO (Hv (fo (n0 : Int)) 64) l6 f6 = (y, l', f')
  hc : c = ⟨(n0 : Int), (n1 : Int), (n2 : Int), (n3 : Int), (n4 : Int), hi, (lo : Int), (sc : Int), x, y⟩
structure Decoded (l : List UInt8) (c : CmdD) (e : Nat) : Prop where
  is : (l.length > 128 ∧ c = .zero ∧ e = 12) ∨ (l.length ≤ 128 ∧ ∃ c0 l' f', Nonempty (Read l c0 l' f') ∧ ((Dy l' f' ≠ 0 ∧ c = .zero ∧ e = Dy l' f') ∨ (Dy l' f' = 0 ∧ SS c0 = false ∧ c = .zero ∧ e = 11) ∨ (Dy l' f' = 0 ∧ SS c0 = true ∧ c = c0 ∧ e = 0)))
theorem G5 {l : List UInt8} (h : Cv l = true) : ∃ a b c, l = [a, b, c] ∧ UA a = true ∧ UA b = true ∧ UA c = true := by
  unfold Cv at h
  simp only [Bool.and_eq_true, decide_eq_true_eq] at h
  obtain ⟨h1, h2⟩ := h
  match l, h1 with
  | [a, b, c], _ => exact ⟨a, b, c, rfl, by simpa using h2⟩
theorem NE {most : Nat} {l : List UInt8} {f : Nat} (h : (Ba most l f).2.2 = 0) : f = 0 ∧ (Ba most l f).1 ≤ most ∧ (Ba most l f).1 < 256 ∧ l = UInt8.ofNat (Ba most l f).1 :: (Ba most l f).2.1 := by
  by_cases hf : f = 0
  · subst hf
    unfold Ba at h ⊢
    rw [if_neg (by simp)] at h ⊢
    cases l with
    | nil => cases h
    | cons b r =>
      have hb := UInt8.toNat_lt b
      simp only at h ⊢
      by_cases hm : most < b.toNat
      · rw [if_pos hm] at h; cases h
      · rw [if_neg hm]
        exact ⟨trivial, by show b.toNat ≤ most; omega, hb, by simp⟩
  · rw [Nz hf] at h; exact absurd h hf
theorem Mw {b : Bool} {most : Nat} {l : List UInt8} {f n f' : Nat} {l' : List UInt8} (h : WT b (BL most l f) l f = (n, l', f')) : n < 18446744073709551616 := by
  cases b with
  | true =>
    have h' : BL most l f = (n, l', f') := h
    have := JX most l f
    rwa [h'] at this
  | false =>
    have h' : (0, l, f) = (n, l', f') := h
    simp only [Prod.mk.injEq] at h'
    rw [← h'.1]; decide
theorem UB {b : Bool} {hi : Int} {lo sc f f' : Nat} {l l' : List UInt8} (h : WU b l f = ((hi, lo, sc), l', f')) : Qv hi ∧ lo < 18446744073709551616 ∧ sc < 256 := by
  cases b with
  | true =>
    have h' : VM l f = ((hi, lo, sc), l', f') := h
    unfold VM at h'
    simp only [Prod.mk.injEq] at h'
    obtain ⟨⟨rfl, rfl, rfl⟩, _⟩ := h'
    exact ⟨OZ _ _, JX _ _ _, Iy _ _ _⟩
  | false =>
    have h' : (((0 : Int), (0 : Nat), (0 : Nat)), l, f) = ((hi, lo, sc), l', f') := h
    simp only [Prod.mk.injEq] at h'
    obtain ⟨⟨rfl, rfl, rfl⟩, _⟩ := h'
    exact ⟨⟨by decide, by decide⟩, by decide, by decide⟩
theorem Qw {b : Bool} {x : List UInt8} {f f' : Nat} {l l' : List UInt8} (h : VO b l f = (x, l', f')) : x.length ≤ 3 := by
  cases b with
  | true =>
    have h' : VN l f = (x, l', f') := h
    unfold VN at h'
    simp only [Prod.mk.injEq] at h'
    rw [← h'.1]; simp
  | false =>
    have h' : (([] : List UInt8), l, f) = (x, l', f') := h
    simp only [Prod.mk.injEq] at h'
    rw [← h'.1]; simp
theorem Read.ok {l l' : List UInt8} {c : CmdD} {f' : Nat} (h : Read l c l' f') : c.ok := by
 obtain ⟨n0, l0, f0, h0, n1, l1, f1, h1, n2, l2, f2, h2, n3, l3, f3, h3, n4, l4, f4, h4, hi, lo, sc, l5, f5, h5, x, l6, f6, h6, y, h7, rfl⟩ := h
 have b0 := Iy 11 l 0
 rw [h0] at b0
 have b1 := Mw h1
 have b2 := Mw h2
 have b3 := Mw h3
 have b4 := Mw h4
 obtain ⟨b5, b6, b7⟩ := UB h5
 have b8 := Qw h6
 have b9 := Qw h7
 have b0 : n0 < 256 := b0
 exact ⟨⟨by simp only; omega, by simp only; omega⟩, ⟨by simp only; omega, by simp only; omega⟩, ⟨by simp only; omega, by simp only; omega⟩, ⟨by simp only; omega, by simp only; omega⟩, ⟨by simp only; omega, by simp only; omega⟩, b5, ⟨by simp only; omega, by simp only; omega⟩, ⟨by simp only; omega, by simp only; omega⟩, by simp only; omega, by simp only; omega⟩
theorem Read.one {l l1 l2 : List UInt8} {c1 c2 : CmdD} {f1 f2 : Nat} (h : Read l c1 l1 f1) (g : Read l c2 l2 f2) : c1 = c2 ∧ l1 = l2 ∧ f1 = f2 := by
 obtain ⟨n0, l0, f0, h0, n1, l1', f1', h1, n2, l2', f2', h2, n3, l3, f3, h3, n4, l4, f4, h4, hi, lo, sc, l5, f5, h5, x, l6, f6, h6, y, h7, rfl⟩ := h
 obtain ⟨m0, k0, g0, i0, m1, k1, g1, i1, m2, k2, g2, i2, m3, k3, g3, i3, m4, k4, g4, i4, hi', lo', sc', k5, g5, i5, x', k6, g6, i6, y', i7, rfl⟩ := g
 have e0 := h0.symm.trans i0; simp only [Prod.mk.injEq] at e0; obtain ⟨rfl, rfl, rfl⟩ := e0
 have e1 := h1.symm.trans i1; simp only [Prod.mk.injEq] at e1; obtain ⟨rfl, rfl, rfl⟩ := e1
 have e2 := h2.symm.trans i2; simp only [Prod.mk.injEq] at e2; obtain ⟨rfl, rfl, rfl⟩ := e2
 have e3 := h3.symm.trans i3; simp only [Prod.mk.injEq] at e3; obtain ⟨rfl, rfl, rfl⟩ := e3
 have e4 := h4.symm.trans i4; simp only [Prod.mk.injEq] at e4; obtain ⟨rfl, rfl, rfl⟩ := e4
 have e5 := h5.symm.trans i5; simp only [Prod.mk.injEq] at e5; obtain ⟨⟨rfl, rfl, rfl⟩, rfl, rfl⟩ := e5
 have e6 := h6.symm.trans i6; simp only [Prod.mk.injEq] at e6; obtain ⟨rfl, rfl, rfl⟩ := e6
 have e7 := h7.symm.trans i7; simp only [Prod.mk.injEq] at e7; obtain ⟨rfl, rfl, rfl⟩ := e7
 exact ⟨rfl, rfl, rfl⟩
theorem Decoded.one {l : List UInt8} {c1 c2 : CmdD} {e1 e2 : Nat} (h : Decoded l c1 e1) (g : Decoded l c2 e2) : c1 = c2 ∧ e1 = e2 := by
  rcases h.is with ⟨h1, h2, h3⟩ | ⟨h1, a, b, d, ⟨hr⟩, h2⟩ <;> rcases g.is with ⟨g1, g2, g3⟩ | ⟨g1, a', b', d', ⟨gr⟩, g2⟩
  · exact ⟨h2.trans g2.symm, h3.trans g3.symm⟩
  · omega
  · omega
  · obtain ⟨rfl, rfl, rfl⟩ := hr.one gr
    rcases h2 with ⟨p, q, r⟩ | ⟨p, q, r, t⟩ | ⟨p, q, r, t⟩ <;> rcases g2 with ⟨p', q', r'⟩ | ⟨p', q', r', t'⟩ | ⟨p', q', r', t'⟩
    all_goals first
      | exact ⟨q.trans q'.symm, r.trans r'.symm⟩
      | exact ⟨r.trans r'.symm, t.trans t'.symm⟩
      | exact absurd p' p
      | exact absurd p p'
      | (rw [q] at q'; cases q')
end Go.Proofs.YtjcfimmcogkopaaGreat
