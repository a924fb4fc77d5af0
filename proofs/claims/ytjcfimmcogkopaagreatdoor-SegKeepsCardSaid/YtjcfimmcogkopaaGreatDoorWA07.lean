/-
  Bits · Writer · Varint · RefLay · RefRead · OneMath · Read · CmdM · RdT
-/
import Derived.Test.YtjcfimmcogkopaaGreatDoorWA06
import Derived.WalkKit
import Derived.Deep.QuietTactic
import Derived.BigQuiet
set_option linter.unusedSimpArgs false
set_option linter.unusedVariables false
set_option maxRecDepth 100000
namespace Go.Proofs.YtjcfimmcogkopaaGreatDoor
open Go.RowKit
theorem PS (b : Nat) (h : b < 256) : bits .andNot .u8 (b : Int) 128 = ((b % 128 : Nat) : Int) := by
 have : ∀ x : Fin 256, bits .andNot .u8 ((x.val : Nat) : Int) 128 = ((x.val % 128 : Nat) : Int) := by decide +kernel
 exact this ⟨b, h⟩
theorem H5 (a : Nat) (ha : a < 18446744073709551616) : (BitVec.ofInt 64 (a : Int)).toNat = a := by
 rw [BitVec.ofInt_natCast, BitVec.toNat_ofNat]; exact Nat.mod_eq_of_lt (by omega)
theorem E6 (a : Nat) (ha : a < 18446744073709551616) : IntKind.u64.wrap (a : Int) = (a : Int) := by
 simp [IntKind.wrap, IntKind.signed, IntKind.bits]
 omega
theorem PT (a b : Nat) (ha : a < 18446744073709551616) (hb : b < 18446744073709551616) : bits .or .u64 (a : Int) (b : Int) = ((a ||| b : Nat) : Int) := by
 have hx : a ||| b < 2 ^ 64 := Nat.or_lt_two_pow (by omega) (by omega)
 show IntKind.u64.wrap ((BitVec.ofInt 64 (a : Int) ||| BitVec.ofInt 64 (b : Int)).toNat : Int) = _
 rw [BitVec.toNat_or, H5 a ha, H5 b hb]
 exact E6 _ hx
theorem Lx (a b k : Nat) (hb : b < 256) (hk : k ≤ 9) (ha : a < 2 ^ (7 * k)) (h9 : ¬ (k = 9 ∧ 1 < b)) (h1 : k = 9 → b < 128) :
    bits .or .u64 (a : Int) (IntKind.u64.wrap (IntKind.u64.wrap (bits .andNot .u8 (b : Int) 128) * 2 ^ (7 * k))) = ((a + b % 128 * 2 ^ (7 * k) : Nat) : Int) := by
  have hm : b % 128 * 2 ^ (7 * k) + a < 18446744073709551616 := by
    by_cases h : k = 9
    · subst h
      have hc1 : b % 128 * 2 ^ (7 * 9) ≤ 1 * 2 ^ (7 * 9) := Nat.mul_le_mul_right _ (by omega)
      omega
    · have : (2 : Nat) ^ (7 * k) ≤ 2 ^ 56 := Nat.pow_le_pow_right (by omega) (by omega)
      have hc1 : b % 128 * 2 ^ (7 * k) ≤ 127 * 2 ^ (7 * k) := Nat.mul_le_mul_right _ (by omega)
      omega
  rw [PS b hb, E6 _ (by omega)]
  have e : ((b % 128 : Nat) : Int) * 2 ^ (7 * k) = ((b % 128 * 2 ^ (7 * k) : Nat) : Int) := by
    rw [Int.natCast_mul, Int.natCast_pow]; rfl
  rw [e, E6 _ (by omega), PT _ _ (by omega) (by omega)]
  congr 1
  rw [Nat.or_comm, Nat.add_comm, ← Nat.shiftLeft_eq, Nat.shiftLeft_add_eq_or_of_lt ha]
theorem Ov (a b : Nat) (ha : a < 18446744073709551616) (hb : b < 18446744073709551616) : bits .and .u64 (a : Int) (b : Int) = ((a &&& b : Nat) : Int) := by
 have hx : a &&& b < 2 ^ 64 := Nat.and_lt_two_pow _ (by omega)
 show IntKind.u64.wrap ((BitVec.ofInt 64 (a : Int) &&& BitVec.ofInt 64 (b : Int)).toNat : Int) = _
 rw [BitVec.toNat_and, H5 a ha, H5 b hb]
 exact E6 _ hx
theorem VJ {k : IntKind} {a b : Int} (h : a = b) : Ending.returned (.int k a) = .returned (.int k b) := by rw [h]
end Go.Proofs.YtjcfimmcogkopaaGreatDoor
namespace Go.Proofs.YtjcfimmcogkopaaGreatDoor
open Go.RowKit
def Ow (w : World) (p : Nat) (v : Value) (l : List UInt8) : Prop := CQ w p 218 #[v] ∧ GM 5 w 0 v l
def II (p : Nat) (v : Value) : Nat → Prop := fun k => k = p ∨ At v k
theorem MK (w : World) :
  Calls Tryz.prog 138 #[] w fun e w' => ∃ p, e = .returned (.pointer (some ⟨p, 0, none⟩)) ∧ w.heap.size ≤ p ∧ Ow w' p (.slice none 0 0) [] ∧ Below w.heap.size w w' := by
 go_enter Tryz.func138, Tryz.ntmps138
 go_wp2
 go_ret
 exact ⟨w.heap.size, rfl, Nat.le_refl _, ⟨CQ.new _ _ _, GM.nil _ _ _⟩, (Below.refl _ _).alloc (Nat.le_refl _) _⟩
theorem Ly (w : World) (p : Nat) (v : Value) (l : List UInt8) (b : UInt8) (h : Ow w p v l) (hl : l.length + 1 ≤ 140737488355328) :
    Calls Tryz.prog 139 #[.pointer (some ⟨p, 0, none⟩), .int .u8 (b.toNat : Int)] w fun e w' =>
      ∃ v', e = .returned (.tuple #[]) ∧ Ow w' p v' (l ++ [b]) ∧ Mod (II p v) w w' ∧ ∀ k, At v' k → At v k ∨ w.heap.size ≤ k := by
  obtain ⟨hr, ho⟩ := h
  have hp := hr.lt
  have hne := ho.ne_row hr (by decide)
  obtain ⟨A, c, rfl, hs⟩ := ho.form
  have h0 := hr.cell 0
  have f0 := hr.frozen 0
  simp at h0
  go_enter Tryz.func139, Tryz.ntmps139
  have own1 : GM 5 (w.alloc (.cells #[.int .u8 (b.toNat : Int)] 5)) 0 (.slice A l.length c) l := ho.mod ((Mod.refl Nil w).alloc _) (fun _ _ hf => hf)
  have hr1 := hr.alloc (.cells #[.int .u8 (b.toNat : Int)] 5)
  have hsz : w.heap.size < (w.alloc (.cells #[.int .u8 (b.toNat : Int)] 5)).heap.size := by simp
  go_wp2_with (at_builtin; refine CJ (t := 49) Sh rfl (.tmp 8) (.tmp 10) rfl own1 (Nat.zero_le _) (Nr w 5 b rfl) (l.length + 1) rfl rfl rfl hl ?_; intro A1 c1 w1 ho1 hm1 ha1; have hr2 := hr1.mod hm1 hne; have k0 := hr2.cell 0; have g0 := hr2.frozen 0; simp at k0; have hne1 := ho1.ne_row hr2 (by decide))
  go_end0
  refine ⟨_, rfl, ⟨hr2.set 0 _, ho1.mod (Mod.one _ _ _ _) (fun k hk e => by subst e; exact hne1 hk)⟩, ?_, fun k hk => ?_⟩
  · refine (((Mod.refl (II p (.slice A l.length c)) w).alloc _).trans hm1 (fun k _ hk => .inr hk)).trans (Mod.one _ _ _ _) (fun k _ hk => .inl hk)
  · rcases ha1 k hk with h | h
    · exact .inl h
    · right; simp at h; omega
theorem Rc (n : Nat) (h : n < 256) : (UInt8.ofNat n).toNat = n := by simp [UInt8.toNat_ofNat']; omega
theorem Xs (b : Nat) (h : b < 256) : bits .or .u8 (b : Int) 128 = ((b % 128 + 128 : Nat) : Int) := by
 have : ∀ x : Fin 256, bits .or .u8 ((x.val : Nat) : Int) 128 = ((x.val % 128 + 128 : Nat) : Int) := by decide +kernel
 exact this ⟨b, h⟩
theorem Iu (w : World) (p : Nat) (v : Value) (l : List UInt8) (n : Nat) (h : Ow w p v l) (hn : n < 18446744073709551616) (hl : l.length + 10 ≤ 140737488355328) :
    Calls Tryz.prog 140 #[.pointer (some ⟨p, 0, none⟩), .int .u64 (n : Int)] w fun e w' =>
      ∃ v', e = .returned (.tuple #[]) ∧ Ow w' p v' (l ++ DA n) ∧ Mod (II p v) w w' ∧ ∀ k, At v' k → At v k ∨ w.heap.size ≤ k := by
  have hvl := KC n hn
  obtain ⟨N, hN⟩ : ∃ N, N = DA n := ⟨_, rfl⟩
  rw [← hN] at hvl ⊢
  have HN := JN hN
  have HNB := JN hn
  clear hN hn
  go_enter Tryz.func140, Tryz.ntmps140
  go_wp2
  go_loopw [1] (fun x wr => ∃ (y : Nat) (v1 : Value) (l1 : List UInt8), x = .int .u64 (y : Int) ∧ y < 18446744073709551616 ∧ N = l1 ++ DA y ∧ Ow wr p v1 (l ++ l1) ∧ Mod (II p v) w wr ∧ ∀ k, At v1 k → At v k ∨ w.heap.size ≤ k) (fun x _ => (intOf x).toNat)
  case atStart => exact ⟨n, v, [], rfl, HNB.out, by rw [HN.out]; rfl, by simpa using h, Mod.refl _ _, fun k hk => .inl hk⟩
  case round =>
    obtain ⟨y, v1, l1, rfl, hy, hN, hw, hm, ha⟩ := hrel
    have hpos := TS y
    have hlN : N.length = l1.length + (DA y).length := by rw [hN]; simp
    obtain ⟨L, hL⟩ : ∃ L, L = l ++ l1 := ⟨_, rfl⟩
    have hll : L.length + 1 ≤ 140737488355328 := by rw [hL, List.length_append]; omega
    rw [← hL] at hw
    clear hlN
    have HL := JN hL
    have HNN := JN hN
    have HY := JN hy
    clear hN hy hL hpos
    obtain ⟨hr, ho⟩ := hw
    have hp := hr.lt
    have hne := ho.ne_row hr (by decide)
    obtain ⟨A, c, rfl, hs⟩ := ho.form
    have h0 := hr.cell 0
    have f0 := hr.frozen 0
    simp only [List.getElem?_toArray, List.getElem?_cons_zero] at h0
    by_cases h128 : 128 ≤ y
    · have hx : bits .or .u8 ((y : Int) % 256) 128 = ((UInt8.ofNat (y % 128 + 128)).toNat : Int) := by
        rw [Rc _ (by omega), show (y : Int) % 256 = ((y % 256 : Nat) : Int) by omega, Xs _ (by omega)]
        congr 2; omega
      obtain ⟨b, hb⟩ : ∃ b, b = UInt8.ofNat (y % 128 + 128) := ⟨_, rfl⟩
      rw [← hb] at hx
      have HB := JN hb
      have own1 : GM 5 (wr.alloc (.cells #[.int .u8 (b.toNat : Int)] 5)) 0 (.slice A L.length c) L := ho.mod ((Mod.refl Nil wr).alloc _) (fun _ _ hf => hf)
      have hr1 := hr.alloc (.cells #[.int .u8 (b.toNat : Int)] 5)
      clear hb
      go_wp2_with (at_builtin; refine CJ (t := 49) Sh rfl (.tmp 10) (.tmp 14) rfl own1 (Nat.zero_le _) (Nr wr 5 b rfl) (L.length + 1) rfl rfl rfl hll ?_; intro A1 c1 w1 ho1 hm1 ha1; have hr2 := hr1.mod hm1 hne; have k0 := hr2.cell 0; have g0 := hr2.frozen 0; simp at k0; have hne1 := ho1.ne_row hr2 (by decide))
      have hfoot : Mod (II p v) w (w1.setCell ⟨p, 0, none⟩ (.slice A1 (L.length + 1) c1)) := hm.trans ((((Mod.refl (II p (.slice A L.length c)) wr).alloc _).trans hm1 (fun k _ hk => .inr hk)).trans (Mod.one _ _ _ _) (fun k _ hk => .inl hk)) (fun k hk hf => by
        rcases hf with hf | hf
        · exact .inl hf
        · rcases ha k hf with hf | hf
          · exact .inr hf
          · omega)
      have hws : w.heap.size ≤ wr.heap.size := hm.size
      go_roundw
      case rel =>
        refine ⟨y / 128, .slice A1 (L.length + 1) c1, l1 ++ [b], by go_num, by have := HY.out; omega, ?_, ⟨?_, ?_⟩, hfoot, ?_⟩
        · rw [HNN.out, H4 h128, ← HB.out]; simp
        · exact hr2.set 0 _
        · rw [← List.append_assoc, ← HL.out]
          exact ho1.mod (Mod.one _ _ _ _) (fun k hk e => by subst e; exact hne1 hk)
        · intro k hk
          rcases ha1 k hk with h | h
          · exact ha k h
          · right; simp at h; omega
      case measure => simp [intOf]; omega
    · have hyb : y < 128 := by omega
      obtain ⟨b, hb⟩ : ∃ b, b = UInt8.ofNat y := ⟨_, rfl⟩
      have hx : (y : Int) = (b.toNat : Int) := by rw [hb, Rc _ (by omega)]
      have HB := JN hb
      have HX := JN hx
      have own1 : GM 5 (wr.alloc (.cells #[.int .u8 (y : Int)] 5)) 0 (.slice A L.length c) L := ho.mod ((Mod.refl Nil wr).alloc _) (fun _ _ hf => hf)
      have hr1 := hr.alloc (.cells #[.int .u8 (y : Int)] 5)
      clear hb hx
      go_wp2_with (at_builtin; refine CJ (t := 49) Sh rfl (.tmp 24) (.tmp 27) rfl own1 (Nat.zero_le _) (Nr wr 5 b HX.out) (L.length + 1) rfl rfl rfl hll ?_; intro A1 c1 w1 ho1 hm1 ha1; have hr2 := hr1.mod hm1 hne; have k0 := hr2.cell 0; have g0 := hr2.frozen 0; simp at k0; have hne1 := ho1.ne_row hr2 (by decide))
      have hfoot : Mod (II p v) w (w1.setCell ⟨p, 0, none⟩ (.slice A1 (L.length + 1) c1)) := hm.trans ((((Mod.refl (II p (.slice A L.length c)) wr).alloc _).trans hm1 (fun k _ hk => .inr hk)).trans (Mod.one _ _ _ _) (fun k _ hk => .inl hk)) (fun k hk hf => by
        rcases hf with hf | hf
        · exact .inl hf
        · rcases ha k hf with hf | hf
          · exact .inr hf
          · omega)
      have hws : w.heap.size ≤ wr.heap.size := hm.size
      go_end0
      refine ⟨_, rfl, ⟨hr2.set 0 _, ?_⟩, hfoot, ?_⟩
      · rw [HNN.out, Fs hyb, ← HB.out, ← List.append_assoc, ← HL.out]
        exact ho1.mod (Mod.one _ _ _ _) (fun k hk e => by subst e; exact hne1 hk)
      · intro k hk
        rcases ha1 k hk with h | h
        · exact ha k h
        · right; simp at h; omega
theorem Lz {S : Nat → Prop} (w : World) (p : Nat) (v : Value) (l : List UInt8) (A : Option Addr) (c : Nat) (m : List UInt8) (h : Ow w p v l) (hm : Bs S w A c m) (hS : ∀ k, S k → ¬ II p v k) (hl : l.length + m.length + 10 ≤ 140737488355328) :
    Calls Tryz.prog 141 #[.pointer (some ⟨p, 0, none⟩), .slice A m.length c] w fun e w' =>
      ∃ v', e = .returned (.tuple #[]) ∧ Ow w' p v' (l ++ DA m.length ++ m) ∧ Mod (II p v) w w' ∧ ∀ k, At v' k → At v k ∨ w.heap.size ≤ k := by
  have hC := Iu w p v l m.length h (by omega) (by omega)
  have HC := JN hC
  clear hC
  have hvl := KC m.length (by omega)
  obtain ⟨L, hL⟩ : ∃ L, L = l ++ DA m.length := ⟨_, rfl⟩
  have hLl : L.length + m.length ≤ 140737488355328 := by rw [hL, List.length_append]; omega
  rw [← hL] at HC ⊢
  clear hvl hL
  obtain ⟨M, hM⟩ : ∃ M, M = L.length + m.length := ⟨_, rfl⟩
  rw [← hM] at hLl
  have HM := JN hM
  clear hM
  go_enter Tryz.func141, Tryz.ntmps141
  go_wp2_with (first
    | (go_at_call 140; refine Calls.mono HC.out ?_; rintro e w1 ⟨v1, rfl, ⟨hr1, ho1⟩, hm1, ha1⟩; have hne1 := ho1.ne_row hr1 (by decide); obtain ⟨A1, c1, rfl, hs1⟩ := ho1.form; have h0 := hr1.cell 0; have f0 := hr1.frozen 0; simp only [List.getElem?_toArray, List.getElem?_cons_zero] at h0; have hm' := hm.mod hm1 hS)
    | (at_builtin; refine CJ (t := 49) Sh rfl (.tmp 13) (.tmp 14) rfl ho1 (Nat.zero_le _) hm' M HM.out rfl rfl hLl ?_; intro A2 c2 w2 ho2 hm2 ha2; have hr2 := hr1.mod hm2 hne1; have k0 := hr2.cell 0; have g0 := hr2.frozen 0; simp only [List.getElem?_toArray, List.getElem?_cons_zero] at k0; have hne2 := ho2.ne_row hr2 (by decide)))
  go_end0
  refine ⟨_, rfl, ⟨hr2.set 0 _, ho2.mod (Mod.one _ _ _ _) (fun k hk e => by subst e; exact hne2 hk)⟩, ?_, ?_⟩
  · refine (hm1.trans hm2 (fun k hk hk1 => ?_)).trans (Mod.one _ _ _ _) (fun k _ hk => .inl hk)
    rcases ha1 k hk1 with h | h
    · exact .inr h
    · omega
  · intro k hk
    have hws := hm1.size
    rcases ha2 k hk with h | h
    · exact ha1 k h
    · right; omega
theorem K2 (w : World) (p : Nat) (v : Value) (l : List UInt8) (h : Ow w p v l) (hl : l.length ≤ 140737488355328) :
  Calls Tryz.prog 142 #[.pointer (some ⟨p, 0, none⟩)] w fun e w' => ∃ v', e = .returned v' ∧ GM 5 w' w.heap.size v' l ∧ Below w.heap.size w w' := by
 obtain ⟨hr, ho⟩ := h
 obtain ⟨A, c, rfl, hs⟩ := ho.form
 have h0 := hr.cell 0
 have f0 := hr.frozen 0
 simp only [List.getElem?_toArray, List.getElem?_cons_zero] at h0
 go_enter Tryz.func142, Tryz.ntmps142
 go_wp2_with (go_at_call 78; refine (JZ w A c l hs hl).mono ?_; rintro e w' ⟨v', rfl, ho', hb⟩)
 go_ret
 exact ⟨_, rfl, ho', hb⟩
end Go.Proofs.YtjcfimmcogkopaaGreatDoor
namespace Go.Proofs.YtjcfimmcogkopaaGreatDoor
open Go.RowKit
theorem PU {S : Nat → Prop} (w : World) (A : Option Addr) (c : Nat) (l : List UInt8) (most : Nat) (h : Bs S w A c l) (hl : l.length ≤ 140737488355328) (hm : most < 18446744073709551616) :
    Calls Tryz.prog 173 #[.slice A l.length c, .int .u64 (most : Int)] w fun e w' =>
      e = .returned (.tuple #[.int .u64 ((By most l 0 0).1 : Int), .int .i64 ((By most l 0 0).2.1 : Int), .int .i64 ((By most l 0 0).2.2 : Int)]) ∧ w = w' := by
  go_enter Tryz.func173, Tryz.ntmps173
  go_wp2
  go_loop [4, 7, 8, 11] (fun n _ _ i => ∃ k a : Nat, k ≤ l.length ∧ k ≤ 9 ∧ a < 2 ^ (7 * k) ∧ By most l 0 0 = By most (l.drop k) k a ∧ i = .int .i64 k ∧ n = .int .u64 a) (fun _ _ _ i => l.length - (intOf i).toNat)
  case atStart => exact ⟨0, 0, Nat.zero_le _, by omega, by decide, rfl, rfl, rfl⟩
  case round =>
    obtain ⟨k, a, hk, hk9, ha, hv, rfl, rfl⟩ := hrel
    have HV := JN hv
    clear hv
    by_cases hlt : k < l.length
    · obtain ⟨g, o, rfl, hs, hc⟩ := h.2.2 (by omega)
      have hb := hc k l[k] (List.getElem?_eq_getElem hlt)
      unfold To at hb
      clear hc
      obtain ⟨b, hbb⟩ : ∃ b : Nat, b = (l[k]).toNat := ⟨_, rfl⟩
      have hb2 : b < 256 := by rw [hbb]; exact UInt8.toNat_lt _
      rw [← hbb] at hb
      have HB := JN hbb
      clear hbb
      have hd : l.drop k = l[k] :: l.drop (k + 1) := List.drop_eq_getElem_cons hlt
      have HD := JN hd
      clear hd
      have HA := JN ha
      have HM := JN hm
      clear hm
      by_cases h9 : k = 9 ∧ 1 < b
      · obtain ⟨rfl, hb1⟩ := h9
        clear ha
        go_wp2
        refine bodyPost_ret (results_tmp3 rfl _ _ _) rfl ⟨?_, rfl⟩
        rw [HV.out, HD.out]
        unfold By
        rw [← HB.out, if_pos ⟨rfl, hb1⟩]
        rfl
      obtain ⟨X, hX⟩ : ∃ X : Nat, X = a + b % 128 * 2 ^ (7 * k) := ⟨_, rfl⟩
      by_cases h1 : 128 ≤ b
      · have hk8 : k ≤ 8 := by omega
        have hN := Lx a b k hb2 hk9 ha h9 (by omega)
        rw [← hX] at hN
        have HX := JN hX
        clear ha hX
        go_wp2
        go_round
        case rel =>
          refine ⟨k + 1, X, by omega, by omega, ?_, ?_, by go_num, rfl⟩
          · have hp : (2 : Nat) ^ (7 * (k + 1)) = 128 * 2 ^ (7 * k) := by rw [Nat.mul_add, Nat.pow_add]; omega
            have hc : b % 128 * 2 ^ (7 * k) ≤ 127 * 2 ^ (7 * k) := Nat.mul_le_mul_right _ (by omega)
            have := HA.out
            have := HX.out
            omega
          · rw [HV.out, HD.out]
            conv => lhs; unfold By
            rw [← HB.out, if_neg h9, if_pos h1, ← HX.out]
        case measure => simp [intOf]; omega
      have h1' : b < 128 := by omega
      by_cases h0 : b = 0 ∧ 0 < k
      · obtain ⟨rfl, hk0⟩ := h0
        clear ha hX
        go_wp2
        all_goals
          refine bodyPost_ret (results_tmp3 rfl _ _ _) rfl ⟨?_, rfl⟩
          rw [HV.out, HD.out]
          unfold By
          rw [← HB.out, if_neg h9, if_neg h1, if_pos ⟨rfl, hk0⟩]
          rfl
      have hN := Lx a b k hb2 hk9 ha h9 (by omega)
      rw [← hX] at hN
      have HX := JN hX
      clear ha hX
      by_cases e9 : k = 9
      · subst e9
        rw [show (2 : Int) ^ (7 * 9) = 9223372036854775808 from rfl] at hN
        have hb1 : b ≤ 1 := by omega
        by_cases hl2 : most < X
        · go_wp2
          all_goals
            refine bodyPost_ret (results_tmp3 rfl _ _ _) rfl ⟨?_, rfl⟩
            rw [HV.out, HD.out]
            unfold By
            rw [← HB.out, if_neg (by omega), if_neg h1, if_neg (by omega), ← HX.out, if_pos hl2]
            rfl
        · go_wp2
          all_goals
            refine bodyPost_ret (results_tmp3 rfl _ _ _) rfl ⟨?_, rfl⟩
            rw [HV.out, HD.out]
            unfold By
            rw [← HB.out, if_neg (by omega), if_neg h1, if_neg (by omega), ← HX.out, if_neg hl2]
            rfl
      have hk8 : k ≤ 8 := by omega
      by_cases hl2 : most < X
      · go_wp2
        all_goals
          refine bodyPost_ret (results_tmp3 rfl _ _ _) rfl ⟨?_, rfl⟩
          rw [HV.out, HD.out]
          unfold By
          rw [← HB.out, if_neg h9, if_neg h1, if_neg h0, ← HX.out, if_pos hl2]
          rfl
      · go_wp2
        all_goals
          refine bodyPost_ret (results_tmp3 rfl _ _ _) rfl ⟨?_, rfl⟩
          rw [HV.out, HD.out]
          unfold By
          rw [← HB.out, if_neg h9, if_neg h1, if_neg h0, ← HX.out, if_neg hl2]
          rfl
    · have hk' : k = l.length := by omega
      have hd : l.drop k = [] := by rw [hk']; exact List.drop_length
      have HD := JN hd
      clear hd hk' ha hm
      go_wp2
      refine bodyPost_ret (results_tmp3 rfl _ _ _) rfl ⟨?_, rfl⟩
      rw [HV.out, HD.out]
      rfl
end Go.Proofs.YtjcfimmcogkopaaGreatDoor
namespace Go.Proofs.YtjcfimmcogkopaaGreatDoor
open Go.RowKit
end Go.Proofs.YtjcfimmcogkopaaGreatDoor
namespace Go.Proofs.YtjcfimmcogkopaaGreatDoor
open Go.RowKit
end Go.Proofs.YtjcfimmcogkopaaGreatDoor
namespace Go.Proofs.YtjcfimmcogkopaaGreatDoor
variable {f most : Nat} {l : List UInt8}
theorem J0 (most : Nat) : ∀ (l : List UInt8) (k a : Nat), (By most l k a).2.2 = 0 →
    ∃ m, (By most l k a).1 = a + m * 2 ^ (7 * k) ∧ (0 < k → m ≠ 0) ∧ k < (By most l k a).2.1 ∧ l.take ((By most l k a).2.1 - k) = DA m
  | [], k, a, h => by cases h
  | c :: r, k, a, h => by
    unfold By at h ⊢
    by_cases h1 : k = 9 ∧ 1 < c.toNat
    · rw [if_pos h1] at h; cases h
    rw [if_neg h1] at h ⊢
    have hc := UInt8.toNat_lt c
    by_cases h2 : 128 ≤ c.toNat
    · rw [if_pos h2] at h ⊢
      obtain ⟨m, e, hm, hk, ht⟩ := J0 most r (k + 1) _ h
      have hm := hm (by omega)
      refine ⟨c.toNat % 128 + 128 * m, ?_, fun _ => by omega, by omega, ?_⟩
      · rw [e, show 7 * (k + 1) = 7 * k + 7 by omega, Nat.pow_add, Nat.add_mul, Nat.add_assoc]
        congr 2
        rw [show (2 : Nat) ^ 7 = 128 by decide, Nat.mul_comm (2 ^ (7 * k)) 128, ← Nat.mul_assoc, Nat.mul_comm m 128]
      · rw [H4 (by omega), show (c.toNat % 128 + 128 * m) / 128 = m by omega, ← ht]
        obtain ⟨j, hj⟩ : ∃ j, (By most r (k + 1) (a + c.toNat % 128 * 2 ^ (7 * k))).2.1 = k + 1 + (j + 1) := ⟨(By most r (k + 1) (a + c.toNat % 128 * 2 ^ (7 * k))).2.1 - (k + 2), by omega⟩
        rw [hj, show k + 1 + (j + 1) - k = (j + 1) + 1 by omega, show k + 1 + (j + 1) - (k + 1) = j + 1 by omega, List.take_succ_cons]
        congr 1
        apply UInt8.toNat_inj.1
        rw [UInt8.toNat_ofNat']
        omega
    rw [if_neg h2] at h ⊢
    by_cases h3 : c.toNat = 0 ∧ 0 < k
    · rw [if_pos h3] at h; cases h
    rw [if_neg h3] at h ⊢
    by_cases h4 : most < a + c.toNat % 128 * 2 ^ (7 * k)
    · rw [if_pos h4] at h; cases h
    rw [if_neg h4] at h ⊢
    refine ⟨c.toNat, by rw [Nat.mod_eq_of_lt (by omega)], fun hk => by omega, by show k < k + 1; omega, ?_⟩
    show (c :: r).take (k + 1 - k) = _
    rw [show k + 1 - k = 0 + 1 by omega, List.take_succ_cons, Fs (by omega)]
    simp
theorem Si (h : (B7 most l 0).2.2 = 0) : l = DA (B7 most l 0).1 ++ (B7 most l 0).2.1 := by
 have e : B7 most l 0 = ((By most l 0 0).1, l.drop (By most l 0 0).2.1, (By most l 0 0).2.2) := by
  unfold B7; rw [if_neg (by simp)]
 rw [e] at h ⊢
 obtain ⟨m, e1, _, _, e2⟩ := J0 most l 0 0 h
 show l = DA (By most l 0 0).1 ++ l.drop (By most l 0 0).2.1
 rw [show (By most l 0 0).1 = m by rw [e1]; simp, ← e2, Nat.sub_zero, List.take_append_drop]
theorem K9 (most : Nat) (l : List UInt8) (f : Nat) : (B7 most l f).1 < 18446744073709551616 := by
  unfold B7
  split
  · show (0 : Nat) < _; decide
  · rcases H3 most l 0 0 (by omega) (by decide) with ⟨_, _, _, _, h⟩ | ⟨h, _⟩
    · exact h
    · show (By most l 0 0).1 < _
      rw [h]; decide
theorem LA (most : Nat) (l : List UInt8) (f : Nat) : (AU most l f).1 < 256 := by
  unfold AU
  split
  · show (0 : Nat) < _; decide
  · cases l with
    | nil => show (0 : Nat) < _; decide
    | cons b r =>
      have hb := UInt8.toNat_lt b
      simp only
      split
      · show (0 : Nat) < _; decide
      · exact hb
theorem PW {most : Int} (h : (Cb most l 0).2.2 = 0) : l = DA (Cb most l 0).1.length ++ (Cb most l 0).1 ++ (Cb most l 0).2.1 := by
  unfold Cb at h ⊢
  rw [if_neg (by simp)] at h ⊢
  by_cases h1 : (By most.toNat l 0 0).2.2 ≠ 0
  · rw [if_pos h1] at h; exact absurd h h1
  rw [if_neg h1] at h ⊢
  by_cases h2 : l.length - (By most.toNat l 0 0).2.1 < (By most.toNat l 0 0).1
  · rw [if_pos h2] at h; cases h
  rw [if_neg h2]
  obtain ⟨m, e1, _, _, e2⟩ := J0 most.toNat l 0 0 (by omega)
  obtain ⟨j, hj⟩ : ∃ j, j = (By most.toNat l 0 0).2.1 := ⟨_, rfl⟩
  obtain ⟨n, hn⟩ : ∃ n, n = (By most.toNat l 0 0).1 := ⟨_, rfl⟩
  rw [← hj, Nat.sub_zero] at e2
  rw [← hn] at e1
  rw [← hj, ← hn] at h2 ⊢
  have hm : m = n := by rw [e1]; simp
  subst hm
  show l = DA ((l.drop j).take m).length ++ (l.drop j).take m ++ l.drop (j + m)
  rw [List.length_take, List.length_drop, Nat.min_eq_left (by omega), ← e2, List.append_assoc, ← List.drop_drop, List.take_append_drop, List.take_append_drop]
theorem Oy (h : f ≠ 0) : (AU most l f).2.2 = f := by unfold AU; rw [if_pos h]
theorem PX (h : f ≠ 0) : (B7 most l f).2.2 = f := by unfold B7; rw [if_pos h]
theorem Oz {most : Int} (h : f ≠ 0) : (Cb most l f).2.2 = f := by unfold Cb; rw [if_pos h]
theorem Sj (h : (B7 most l f).2.2 = 0) : f = 0 ∧ l = DA (B7 most l f).1 ++ (B7 most l f).2.1 := by
  by_cases hf : f = 0
  · subst hf; exact ⟨rfl, Si h⟩
  · rw [PX hf] at h; exact absurd h hf
theorem PY {most : Int} (h : (Cb most l f).2.2 = 0) : f = 0 ∧ l = DA (Cb most l f).1.length ++ (Cb most l f).1 ++ (Cb most l f).2.1 := by
  by_cases hf : f = 0
  · subst hf; exact ⟨rfl, PW h⟩
  · rw [Oz hf] at h; exact absurd h hf
end Go.Proofs.YtjcfimmcogkopaaGreatDoor
namespace Go.Proofs.YtjcfimmcogkopaaGreatDoor
variable {f most : Nat} {l : List UInt8}
theorem TT (k : Nat) : (2 : Nat) ^ (7 * (k + 1)) = 128 * 2 ^ (7 * k) := by rw [Nat.mul_add, Nat.pow_add]; omega
theorem La (n : Nat) (h : n < 256) : (UInt8.ofNat n).toNat = n := by simp [UInt8.toNat_ofNat']; omega
theorem J1 (n k a : Nat) : a + n % 128 * 2 ^ (7 * k) + n / 128 * 2 ^ (7 * (k + 1)) = a + n * 2 ^ (7 * k) := by
 rw [TT]
 have h : n = 128 * (n / 128) + n % 128 := by omega
 have h2 : n * 2 ^ (7 * k) = (128 * (n / 128) + n % 128) * 2 ^ (7 * k) := by rw [← h]
 rw [h2, Nat.add_mul, Nat.mul_comm 128 (n / 128), Nat.mul_assoc]
 omega
theorem Re {n k a : Nat} (hs : a + n * 2 ^ (7 * k) < 18446744073709551616) (hk : k ≤ 9) (hn : 2 ≤ n) : k < 9 := by
  rcases Nat.lt_or_ge k 9 with h | h
  · exact h
  · have : k = 9 := by omega
    subst this
    have : 2 * 2 ^ (7 * 9) ≤ n * 2 ^ (7 * 9) := Nat.mul_le_mul_right _ hn
    omega
theorem TU (most : Nat) (n : Nat) : ∀ (k a : Nat) (r : List UInt8), (0 < k → 0 < n) → a + n * 2 ^ (7 * k) ≤ most → a + n * 2 ^ (7 * k) < 18446744073709551616 → k ≤ 9 →
    By most (DA n ++ r) k a = (a + n * 2 ^ (7 * k), k + (DA n).length, 0) := by
  induction n using Nat.strongRecOn with
  | _ n ih =>
    intro k a r h0 hm hs hk
    by_cases hn : n < 128
    · rw [Fs hn]
      simp only [List.cons_append, List.nil_append, List.length_cons, List.length_nil]
      unfold By
      rw [La n (by omega), if_neg, if_neg (by omega), if_neg (by omega), Nat.mod_eq_of_lt hn, if_neg (by omega)]
      rintro ⟨rfl, h1⟩
      have := Re hs hk h1
      omega
    · have hk9 := Re hs hk (show 2 ≤ n by omega)
      rw [H4 (by omega)]
      simp only [List.cons_append, List.length_cons]
      unfold By
      rw [La _ (by omega), if_neg (by omega), if_pos (by omega), show (n % 128 + 128) % 128 = n % 128 by omega]
      rw [ih (n / 128) (by omega) (k + 1) _ r (fun _ => by omega) (by rw [J1]; exact hm) (by rw [J1]; exact hs) (by omega), J1]
      congr 2
      omega
theorem MR (most n : Nat) (r : List UInt8) (hm : n ≤ most) (hs : n < 18446744073709551616) : By most (DA n ++ r) 0 0 = (n, (DA n).length, 0) := by
 have := TU most n 0 0 r (by omega) (by simpa using hm) (by simpa using hs) (by omega)
 simpa using this
theorem Sk (most : Nat) (b : UInt8) (r : List UInt8) (h : b.toNat ≤ most) : AU most (b :: r) 0 = (b.toNat, r, 0) := by
 simp only [AU]
 rw [if_neg (by simp), if_neg (by omega)]
theorem TV (most n : Nat) (r : List UInt8) (hm : n ≤ most) (hs : n < 18446744073709551616) : B7 most (DA n ++ r) 0 = (n, r, 0) := by
 unfold B7
 rw [if_neg (by simp), MR most n r hm hs]
 simp
theorem Sl (most : Int) (t r : List UInt8) (hm : (t.length : Int) ≤ most) (hs : t.length < 18446744073709551616) : Cb most (DA t.length ++ t ++ r) 0 = (t, r, 0) := by
 unfold Cb
 rw [if_neg (by simp), List.append_assoc, MR most.toNat t.length (t ++ r) (by omega) hs]
 simp only [List.length_append, List.drop_append_of_le_length (Nat.le_refl _), List.drop_length, List.nil_append]
 rw [if_neg (by simp), if_neg (by omega)]
 simp [List.drop_append, Nat.add_sub_cancel_left]
theorem OA (h : f ≠ 0) : AU most l f = (0, l, f) := by simp [AU, h]
theorem PZ (h : f ≠ 0) : B7 most l f = (0, l, f) := by simp [B7, h]
theorem OC {most : Int} (h : f ≠ 0) : Cb most l f = ([], l, f) := by simp [Cb, h]
end Go.Proofs.YtjcfimmcogkopaaGreatDoor
namespace Go.Proofs.YtjcfimmcogkopaaGreatDoor
variable {b : Bool} {f f' most : Nat} {l l' : List UInt8} {n : Int}
def PI (n : Int) : Prop := 0 ≤ n ∧ n ≤ 18446744073709551615
def Rf (n : Int) : Prop := -9223372036854775808 ≤ n ∧ n ≤ 9223372036854775807
def GP (n : Int) : Bool := decide (n ≥ 1) && decide (n ≤ 72057594037927935)
def FZ (n : Int) : List UInt8 := DA n.toNat
theorem OD (h : GP n = true) : 1 ≤ n ∧ n ≤ 72057594037927935 := by
 unfold GP at h
 simpa using h
theorem H7 (h : n ≤ 72057594037927935) : (FZ n).length ≤ 8 := DL 7 _ (by omega)
theorem OE (h : (AU most l f).2.2 = 0) : f = 0 ∧ (AU most l f).1 ≤ most ∧ (AU most l f).1 < 256 ∧ l = UInt8.ofNat (AU most l f).1 :: (AU most l f).2.1 := by
  by_cases hf : f = 0
  · subst hf
    unfold AU at h ⊢
    rw [if_neg (by simp)] at h ⊢
    cases l with
    | nil => cases h
    | cons b r =>
      have hb := UInt8.toNat_lt b
      simp only at h ⊢
      by_cases hm : most < b.toNat
      · rw [if_pos hm] at h; cases h
      · rw [if_neg hm]
        exact ⟨trivial, by show b.toNat ≤ most; omega, hb, by simp⟩
  · rw [Oy hf] at h; exact absurd h hf
end Go.Proofs.YtjcfimmcogkopaaGreatDoor
namespace Go.Proofs.YtjcfimmcogkopaaGreatDoor.Sep
variable {A : Option Addr} {X : Ass} {g : Nat} {l : List UInt8} {rs : List RowT}
open Go.RowKit
open Go.Proofs.YtjcfimmcogkopaaGreatDoor.Mem (AG BC Chg Ak)
theorem OF (l : List UInt8) : flat encB l = MM l := by
  induction l with
  | nil => rfl
  | cons x l ih => rw [Dw, ih]; rfl
def D1 (w : World) (v : Value) (l : List UInt8) : Prop := ∃ A c, v = .slice A l.length c ∧ Bs (fun _ => True) w A c l
section
variable {u w w0 : World} {v : Value} {l : List UInt8} {X : Ass} {B : Nat → Prop} {os : List Ass} {rs : List RowT}
theorem D1.below (h : D1 u v l) (hb : Below u.heap.size u w) : D1 w v l := by
 obtain ⟨A, c, e, h⟩ := h
 exact ⟨A, c, e, h.old hb⟩
theorem D1.rd (h : D1 w v l) : Dh w 1 v l.length (flat encB l) := by
  obtain ⟨A, c, rfl, h⟩ := h
  refine ⟨by rw [OF, Fh, Nat.mul_one], A, c, rfl, ?_⟩
  rcases Nat.eq_zero_or_pos l.length with h0 | h0
  · cases A with
    | none => exact .inl ⟨rfl, h0⟩
    | some a =>
      refine .inr ⟨a, rfl, fun j x hx => ?_⟩
      rw [OF] at hx
      have := (List.getElem?_eq_some_iff.1 hx).1
      rw [Fh] at this
      omega
  · obtain ⟨g, o, rfl, _, hc⟩ := h.2.2 h0
    refine .inr ⟨_, rfl, fun j x hx => ?_⟩
    rw [OF] at hx
    obtain ⟨b, hb, rfl⟩ := Q1 hx
    rw [Addr.add_lit]
    exact hc j b hb
theorem Ea (h : D1 u v l) (hU : Below u.heap.size u w0) (hS : ∀ k, B k → u.heap.size ≤ k) (hH : Hp B w0 w os) : D1 w v l := by
 have hm : Below u.heap.size w0 w := hH.up.below hU.size hS
 exact h.below (hU.trans hm)
theorem Jn {base : Nat} (h : GM 5 w base v l) : ∃ rs, Af 5 1 encB v l rs ∧ RowsOf w rs ∧ AG rs ∧ ∀ x ∈ rs, At v x.1 ∧ base ≤ x.1 := by
  obtain ⟨h1, h2⟩ := h
  rcases h2 with ⟨hv, hn⟩ | ⟨g, cap, cur, hv, hb, hg, hnc, hm, hs, ht⟩
  · exact ⟨[], .inl ⟨hv, List.eq_nil_of_length_eq_zero hn, rfl⟩, trivial, trivial, fun x hx => by cases hx⟩
  · refine ⟨[(g, EO 5, cur)], .inr ⟨g, cap, cur, hv, hnc, hm, hs, by rw [OF]; exact ht, rfl⟩, ⟨hg, trivial⟩, ⟨(fun _ h => by cases h), trivial⟩, fun x hx => ?_⟩
    have : x = (g, EO 5, cur) := by simpa using hx
    subst this
    exact ⟨by rw [hv]; rfl, hb⟩
theorem Rh (h : Af 5 1 encB v l rs) (hr : RowsOf w rs) : GM 5 w 0 v l := by
  refine ⟨by rw [Fh, Nat.mul_one], ?_⟩
  rcases h with ⟨h1, h2, _⟩ | ⟨g, c, cs, h1, h2, h3, h4, h5, h6⟩
  · exact .inl ⟨h1, by rw [h2]; rfl⟩
  · subst h6
    exact .inr ⟨g, c, cs, h1, Nat.zero_le _, hr.1, h2, h3, h4, by rw [← OF]; exact h5⟩
theorem H8 (h : Af 5 1 encB v l rs) (hr : RowsOf w rs) : D1 w v l := by
 obtain ⟨A, c, e, hb⟩ := (Rh h hr).form
 exact ⟨A, c, e, hb.weaken fun _ _ _ => trivial⟩
theorem Hp.sl8 (h : Hp B w0 w os) (i : Nat) (hi : os[i]? = some (Af 5 1 encB v l)) : D1 w v l := by
 obtain ⟨rs, h1, h2⟩ := h.thing i hi
 exact H8 h1 h2
def El (X : Ass) (v : Value) (l : List UInt8) : Prop := ∀ rs w, X rs → RowsOf w rs → D1 w v l
theorem El.rd (h : El X v l) : Rd X 1 encB v l := fun rs w h1 h2 => (h rs w h1 h2).rd
theorem Dx : El (Af 5 1 encB v l) v l := fun _ _ h1 h2 => H8 h1 h2
theorem El.drop {A : Option Addr} {c k : Nat} (h : El X (.slice A l.length c) l) (hk : k ≤ l.length) : El X (.slice (if c = k then A else A.map (·.add k)) (l.drop k).length (c - k)) (l.drop k) := fun rs w h1 h2 => by
  obtain ⟨A', c', e, hb⟩ := h rs w h1 h2
  simp only [Value.slice.injEq] at e
  obtain ⟨rfl, _, rfl⟩ := e
  exact ⟨_, _, rfl, hb.drop hk⟩
theorem LB {n c k : Nat} (hl : l.length - k = n) (hn : l.length = n + k) : BN 1 (.slice A l.length c) k l.length = .slice (if c = k then A else A.map (·.add k)) n (c - k) := by
  show Value.slice (if c = k then A else A.map (·.add (k * 1))) (l.length - k) (c - k) = _
  rw [Nat.mul_one, hl]
theorem Hp.rd8 (h : Hp B w0 w os) (i : Nat) (hi : os[i]? = some X) (hu : El X v l) : D1 w v l := by
 obtain ⟨rs, h1, h2⟩ := h.thing i hi
 exact hu rs w h1 h2
end
section
variable {P : Program} {F : FuncId} {args : Array Value} {l : List UInt8} {X : Ass} {u : World}
theorem Lb {w w' : World} {rs' : List RowT} (hr : RowsOf w rs) (hd : AG rs) (hb : Below w.heap.size w w') (h1 : RowsOf w' rs') (h2 : AG rs') (h3 : ∀ x ∈ rs', w.heap.size ≤ x.1) : Chg w w' rs (rs ++ rs') := by
  refine ⟨Mod.of_below hb _, AZ.2 fun x hx => ?_, Mem.dist_app hd h2 fun x hx y hy e => ?_, fun x hx hlt => ?_⟩
  · rcases List.mem_append.1 hx with h | h
    · exact (hr.mem x h).below hb (hr.mem x h).lt
    · exact h1.mem x h
  · have := (hr.mem x hx).lt
    have := h3 y hy
    omega
  · rcases List.mem_append.1 hx with h | h
    · exact ⟨x, h, rfl⟩
    · have := h3 x h
      omega
theorem MS (h : ∀ w rs, X rs → RowsOf w rs → Calls P F args w fun e w' => ∃ v', e = .returned v' ∧ GM 5 w' w.heap.size v' l ∧ Below w.heap.size w w') : AA P F args [X] (fun v : Value => v) (fun v => [X, Af 5 1 encB v l]) := fun w rs h1 h2 h3 => by
 have hX := h1.one'
 refine (h w rs hX h2).mono ?_
 rintro e w' ⟨v, he, ho, hb⟩
 obtain ⟨rs', hv, hr, hd, hx⟩ := Jn ho
 exact ⟨v, he, rs ++ rs', ⟨rs, rs', rfl, hX, Ae.one hv⟩, Lb h2 h3 hb hr hd fun x h => (hx x h).2⟩
theorem Sm (h : ∀ w, Below u.heap.size u w → Calls P F args w fun e w' => ∃ v', e = .returned v' ∧ GM 5 w' w.heap.size v' l ∧ Below w.heap.size w w') : DY u P F args [] (fun v : Value => v) (fun v => [Af 5 1 encB v l]) := fun w rs hU _ h1 h2 h3 => by
 unfold Ae at h1
 subst h1
 refine (h w hU).mono ?_
 rintro e w' ⟨v, he, ho, hb⟩
 obtain ⟨rs', hv, hr, hd, hx⟩ := Jn ho
 exact ⟨v, he, rs', Ae.one hv, by simpa using Lb (rs := []) trivial trivial hb hr hd fun x h => (hx x h).2⟩
end
theorem Ft {v : Value} (h : El X v l) (hl : l.length ≤ 140737488355328) : AA Tryz.prog 78 #[v] [X] (fun v : Value => v) (fun v => [X, Af 5 1 encB v l]) :=
 MS fun w rs h1 h2 => by
  obtain ⟨A, c, rfl, hb⟩ := h rs w h1 h2
  exact JZ w A c l hb hl
theorem VM (u : World) {v : Value} (h : D1 u v l) (hl : l.length ≤ 140737488355328) : DY u Tryz.prog 78 #[v] [] (fun v : Value => v) (fun v => [Af 5 1 encB v l]) :=
 Sm fun w hU => by
  obtain ⟨A, c, rfl, hb⟩ := h.below hU
  exact JZ w A c l hb hl
def Tp (g : Nat) (l : List UInt8) : Ass := fun rs => ∃ v, Ae [cell g 218 #[v], Af 5 1 encB v l] rs
theorem P1 {w : World} (h : Tp g l rs) (hr : RowsOf w rs) : ∃ v rv, rs = (g, EO 218, #[v]) :: rv ∧ Af 5 1 encB v l rv ∧ Ow w g v l := by
 obtain ⟨v, a, b, rfl, h1, h2⟩ := h
 unfold cell at h1
 subst h1
 have h3 := h2.one'
 exact ⟨v, b, rfl, h3, hr.1, Rh h3 hr.2⟩
theorem Ri {F : FuncId} {args : Array Value} {m : List UInt8} (h : ∀ w v, Ow w g v l → Calls Tryz.prog F args w fun e w' => ∃ v', e = .returned (.tuple #[]) ∧ Ow w' g v' m ∧ Mod (II g v) w w' ∧ ∀ k, At v' k → At v k ∨ w.heap.size ≤ k) : AA Tryz.prog F args [Tp g l] (fun _ : Unit => .tuple #[]) (fun _ => [Tp g m]) := fun w rs h1 h2 h3 => by
  obtain ⟨v, rv, rfl, hv, hw⟩ := P1 h1.one' h2
  refine (h w v hw).mono ?_
  rintro e w' ⟨v', he, hw', hm, ha⟩
  obtain ⟨rs', hv', hr', hd', hx⟩ := Jn hw'.2
  have hblk : ∀ k, II g v k → k < w.heap.size → BC ((g, EO 218, #[v]) :: rv) k := by
    rintro k (rfl | hk) _
    · exact ⟨_, List.mem_cons_self, rfl⟩
    · rcases hv with ⟨e1, _, _⟩ | ⟨g', c, cs, e1, _, _, _, _, e6⟩
      · subst e1; exact absurd hk At.none
      · subst e1; subst e6
        exact ⟨(g', EO 5, cs), by simp, (At.iff.1 hk).symm⟩
  refine ⟨(), he, (g, EO 218, #[v']) :: rs', Ae.one ⟨v', [(g, EO 218, #[v'])], rs', rfl, rfl, Ae.one hv'⟩, hm.weaken fun k hk hf => hblk k hf hk, ⟨hw'.1, hr'⟩, ⟨fun y hy e => hw'.2.ne_row hw'.1 (by decide) ((show y.1 = g from e) ▸ (hx y hy).1), hd'⟩, fun x hxm hlt => ?_⟩
  rcases List.mem_cons.1 hxm with rfl | hxm
  · exact ⟨_, List.mem_cons_self, rfl⟩
  · rcases ha _ (hx x hxm).1 with h | h
    · exact hblk _ (.inr h) hlt
    · omega
theorem Xw : AA Tryz.prog 138 #[] [] (fun g : Nat => .pointer (some ⟨g, 0, none⟩)) (fun g => [Tp g []]) := fun w rs h1 _ _ => by
  unfold Ae at h1
  subst h1
  refine (MK w).mono ?_
  rintro e w' ⟨p, he, hp, hw, hb⟩
  obtain ⟨rs', hv', hr', hd', hx⟩ := Jn hw.2
  refine ⟨p, he, (p, EO 218, #[.slice none 0 0]) :: rs', Ae.one ⟨_, [(p, EO 218, #[.slice none 0 0])], rs', rfl, rfl, Ae.one hv'⟩, ?_⟩
  have h0 : ∀ y ∈ rs', False := fun y hy => At.none (hx y hy).1
  refine ⟨Mod.of_below hb _, ⟨hw.1, hr'⟩, ⟨fun y hy => (h0 y hy).elim, hd'⟩, fun x hxm hlt => ?_⟩
  rcases List.mem_cons.1 hxm with rfl | hxm
  · omega
  · exact (h0 x hxm).elim
theorem Rj (g : Nat) (l : List UInt8) (n : Int) (hn : 0 ≤ n ∧ n < 256) (r : List UInt8) (hr : l ++ [UInt8.ofNat n.toNat] = r) (hl : l.length + 1 ≤ 140737488355328) : AA Tryz.prog 139 #[.pointer (some ⟨g, 0, none⟩), .int .u8 n] [Tp g l] (fun _ : Unit => .tuple #[]) (fun _ => [Tp g r]) := by
 subst hr
 have e : n = ((UInt8.ofNat n.toNat).toNat : Int) := by rw [La _ (by omega)]; omega
 generalize UInt8.ofNat n.toNat = b at e ⊢
 subst e
 exact Ri fun w v hw => Ly w g v l b hw hl
theorem TX (g : Nat) (l : List UInt8) (n : Int) (hn : PI n) (r : List UInt8) (hr : l ++ FZ n = r) (hl : l.length + 10 ≤ 140737488355328) : AA Tryz.prog 140 #[.pointer (some ⟨g, 0, none⟩), .int .u64 n] [Tp g l] (fun _ : Unit => .tuple #[]) (fun _ => [Tp g r]) := by
 subst hr
 have e : n = (n.toNat : Int) := by have := hn.1; omega
 have h2 : n.toNat < 18446744073709551616 := by have := hn.2; omega
 unfold FZ
 generalize n.toNat = m at e h2 ⊢
 subst e
 exact Ri fun w v hw => Iu w g v l m hw h2 hl
theorem LC (g : Nat) (l : List UInt8) (hl : l.length ≤ 140737488355328) : AA Tryz.prog 142 #[.pointer (some ⟨g, 0, none⟩)] [Tp g l] (fun v : Value => v) (fun v => [Tp g l, Af 5 1 encB v l]) :=
 MS fun w rs h1 h2 => by
  obtain ⟨v, rv, rfl, hv, hw⟩ := P1 h1 h2
  exact K2 w g v l hw hl
section
variable {u : World} {B : Value} {b l l' : List UInt8} {g f f' : Nat} {F : FuncId} {args : Array Value} {val : Value}
end
def IJ (g : Nat) (l : List UInt8) (f : Nat) : Ass := fun rs => ∃ (X : Ass) (A : Option Addr) (c : Nat), El X (.slice A l.length c) l ∧ l.length ≤ 140737488355328 ∧ Ae [cell g 221 #[.slice A l.length c, .int .i64 (f : Int)], X] rs
theorem IJ.open_ {f : Nat} : ∀ rs, IJ g l f rs → ∃ x : { x : Ass × Option Addr × Nat // El x.1 (.slice x.2.1 l.length x.2.2) l ∧ l.length ≤ 140737488355328 }, Ae [cell g 221 #[.slice x.1.2.1 l.length x.1.2.2, .int .i64 (f : Int)], x.1.1] rs :=
 fun _ ⟨X, A, c, h1, h2, h3⟩ => ⟨⟨(X, A, c), h1, h2⟩, h3⟩
theorem IJ.mk_ {f : Nat} {n c : Nat} (hn : l.length = n) (h1 : El X (.slice A l.length c) l) (h2 : l.length ≤ 140737488355328) : ∀ rs, Ae [cell g 221 #[.slice A n c, .int .i64 (f : Int)], X] rs → IJ g l f rs :=
 fun _ h3 => by subst hn; exact ⟨X, A, c, h1, h2, h3⟩
end Go.Proofs.YtjcfimmcogkopaaGreatDoor.Sep
