/-
  Bits · Writer · Varint · RefLay · RefRead · OneMath · Read · CmdM · RdT
-/
import Derived.Test.YtjcfimmcogkopaaGreatDoorWA06
import Derived.WalkKit
import Derived.Deep.QuietTactic
import Derived.BigQuiet
set_option linter.unusedSimpArgs false
set_option linter.unusedVariables false
set_option maxRecDepth 100000
namespace Go.Proofs.YtjcfimmcogkopaaGreatDoor
open Go.RowKit
theorem PO (b : Nat) (h : b < 256) : bits .andNot .u8 (b : Int) 128 = ((b % 128 : Nat) : Int) := by
 have : ∀ x : Fin 256, bits .andNot .u8 ((x.val : Nat) : Int) 128 = ((x.val % 128 : Nat) : Int) := by decide +kernel
 exact this ⟨b, h⟩
theorem Ik (a : Nat) (ha : a < 18446744073709551616) : (BitVec.ofInt 64 (a : Int)).toNat = a := by
 rw [BitVec.ofInt_natCast, BitVec.toNat_ofNat]; exact Nat.mod_eq_of_lt (by omega)
theorem Fx (a : Nat) (ha : a < 18446744073709551616) : IntKind.u64.wrap (a : Int) = (a : Int) := by
 simp [IntKind.wrap, IntKind.signed, IntKind.bits]
 omega
theorem PP (a b : Nat) (ha : a < 18446744073709551616) (hb : b < 18446744073709551616) : bits .or .u64 (a : Int) (b : Int) = ((a ||| b : Nat) : Int) := by
 have hx : a ||| b < 2 ^ 64 := Nat.or_lt_two_pow (by omega) (by omega)
 show IntKind.u64.wrap ((BitVec.ofInt 64 (a : Int) ||| BitVec.ofInt 64 (b : Int)).toNat : Int) = _
 rw [BitVec.toNat_or, Ik a ha, Ik b hb]
 exact Fx _ hx
theorem Lv (a b k : Nat) (hb : b < 256) (hk : k ≤ 9) (ha : a < 2 ^ (7 * k)) (h9 : ¬ (k = 9 ∧ 1 < b)) (h1 : k = 9 → b < 128) :
    bits .or .u64 (a : Int) (IntKind.u64.wrap (IntKind.u64.wrap (bits .andNot .u8 (b : Int) 128) * 2 ^ (7 * k))) = ((a + b % 128 * 2 ^ (7 * k) : Nat) : Int) := by
  have hm : b % 128 * 2 ^ (7 * k) + a < 18446744073709551616 := by
    by_cases h : k = 9
    · subst h
      have hc1 : b % 128 * 2 ^ (7 * 9) ≤ 1 * 2 ^ (7 * 9) := Nat.mul_le_mul_right _ (by omega)
      omega
    · have : (2 : Nat) ^ (7 * k) ≤ 2 ^ 56 := Nat.pow_le_pow_right (by omega) (by omega)
      have hc1 : b % 128 * 2 ^ (7 * k) ≤ 127 * 2 ^ (7 * k) := Nat.mul_le_mul_right _ (by omega)
      omega
  rw [PO b hb, Fx _ (by omega)]
  have e : ((b % 128 : Nat) : Int) * 2 ^ (7 * k) = ((b % 128 * 2 ^ (7 * k) : Nat) : Int) := by
    rw [Int.natCast_mul, Int.natCast_pow]; rfl
  rw [e, Fx _ (by omega), PP _ _ (by omega) (by omega)]
  congr 1
  rw [Nat.or_comm, Nat.add_comm, ← Nat.shiftLeft_eq, Nat.shiftLeft_add_eq_or_of_lt ha]
theorem Oq (a b : Nat) (ha : a < 18446744073709551616) (hb : b < 18446744073709551616) : bits .and .u64 (a : Int) (b : Int) = ((a &&& b : Nat) : Int) := by
 have hx : a &&& b < 2 ^ 64 := Nat.and_lt_two_pow _ (by omega)
 show IntKind.u64.wrap ((BitVec.ofInt 64 (a : Int) &&& BitVec.ofInt 64 (b : Int)).toNat : Int) = _
 rw [BitVec.toNat_and, Ik a ha, Ik b hb]
 exact Fx _ hx
theorem Vr {k : IntKind} {a b : Int} (h : a = b) : Ending.returned (.int k a) = .returned (.int k b) := by rw [h]
end Go.Proofs.YtjcfimmcogkopaaGreatDoor
namespace Go.Proofs.YtjcfimmcogkopaaGreatDoor
open Go.RowKit
def Or (w : World) (p : Nat) (v : Value) (l : List UInt8) : Prop := Dy w p 218 #[v] ∧ G6 5 w 0 v l
def IV (p : Nat) (v : Value) : Nat → Prop := fun k => k = p ∨ At v k
theorem Or.mod {S : Nat → Prop} {w w' : World} {p : Nat} {v : Value} {l : List UInt8} (h : Or w p v l) (hm : Mod S w w') (hn : ∀ k, IV p v k → ¬ S k) : Or w' p v l :=
 ⟨h.1.mod hm (hn p (.inl rfl)), h.2.mod hm (fun k hk => hn k (.inr hk))⟩
theorem Or.lt {w : World} {p : Nat} {v : Value} {l : List UInt8} (h : Or w p v l) : ∀ k, IV p v k → k < w.heap.size := by
  rintro k (rfl | hk)
  · exact h.1.lt
  · exact (h.2.lt k hk).2
theorem MI (w : World) :
  Calls Tryz.prog 138 #[] w fun e w' => ∃ p, e = .returned (.pointer (some ⟨p, 0, none⟩)) ∧ w.heap.size ≤ p ∧ Or w' p (.slice none 0 0) [] ∧ Below w.heap.size w w' := by
 go_enter Tryz.func138, Tryz.ntmps138
 go_wp2
 go_ret
 exact ⟨w.heap.size, rfl, Nat.le_refl _, ⟨Dy.new _ _ _, G6.nil _ _ _⟩, (Below.refl _ _).alloc (Nat.le_refl _) _⟩
theorem Lw (w : World) (p : Nat) (v : Value) (l : List UInt8) (b : UInt8) (h : Or w p v l) (hl : l.length + 1 ≤ 140737488355328) :
    Calls Tryz.prog 139 #[.pointer (some ⟨p, 0, none⟩), .int .u8 (b.toNat : Int)] w fun e w' =>
      ∃ v', e = .returned (.tuple #[]) ∧ Or w' p v' (l ++ [b]) ∧ Mod (IV p v) w w' ∧ ∀ k, At v' k → At v k ∨ w.heap.size ≤ k := by
  obtain ⟨hr, ho⟩ := h
  have hp := hr.lt
  have hne := ho.ne_row hr (by decide)
  obtain ⟨A, c, rfl, hs⟩ := ho.form
  have h0 := hr.cell 0
  have f0 := hr.frozen 0
  simp at h0
  go_enter Tryz.func139, Tryz.ntmps139
  have own1 : G6 5 (w.alloc (.cells #[.int .u8 (b.toNat : Int)] 5)) 0 (.slice A l.length c) l := ho.mod ((Mod.refl Nil w).alloc _) (fun _ _ hf => hf)
  have hr1 := hr.alloc (.cells #[.int .u8 (b.toNat : Int)] 5)
  have hsz : w.heap.size < (w.alloc (.cells #[.int .u8 (b.toNat : Int)] 5)).heap.size := by simp
  go_wp2_with (at_builtin; refine Du (t := 49) Sb rfl (.tmp 8) (.tmp 10) rfl own1 (Nat.zero_le _) (Nn w 5 b rfl) (l.length + 1) rfl rfl rfl hl ?_; intro A1 c1 w1 ho1 hm1 ha1; have hr2 := hr1.mod hm1 hne; have k0 := hr2.cell 0; have g0 := hr2.frozen 0; simp at k0; have hne1 := ho1.ne_row hr2 (by decide))
  go_end0
  refine ⟨_, rfl, ⟨hr2.set 0 _, ho1.mod (Mod.one _ _ _ _) (fun k hk e => by subst e; exact hne1 hk)⟩, ?_, fun k hk => ?_⟩
  · refine (((Mod.refl (IV p (.slice A l.length c)) w).alloc _).trans hm1 (fun k _ hk => .inr hk)).trans (Mod.one _ _ _ _) (fun k _ hk => .inl hk)
  · rcases ha1 k hk with h | h
    · exact .inl h
    · right; simp at h; omega
theorem Q8 (n : Nat) (h : n < 256) : (UInt8.ofNat n).toNat = n := by simp [UInt8.toNat_ofNat']; omega
theorem WY (b : Nat) (h : b < 256) : bits .or .u8 (b : Int) 128 = ((b % 128 + 128 : Nat) : Int) := by
 have : ∀ x : Fin 256, bits .or .u8 ((x.val : Nat) : Int) 128 = ((x.val % 128 + 128 : Nat) : Int) := by decide +kernel
 exact this ⟨b, h⟩
theorem IH (w : World) (p : Nat) (v : Value) (l : List UInt8) (n : Nat) (h : Or w p v l) (hn : n < 18446744073709551616) (hl : l.length + 10 ≤ 140737488355328) :
    Calls Tryz.prog 140 #[.pointer (some ⟨p, 0, none⟩), .int .u64 (n : Int)] w fun e w' =>
      ∃ v', e = .returned (.tuple #[]) ∧ Or w' p v' (l ++ Eb n) ∧ Mod (IV p v) w w' ∧ ∀ k, At v' k → At v k ∨ w.heap.size ≤ k := by
  have hvl := KD n hn
  obtain ⟨N, hN⟩ : ∃ N, N = Eb n := ⟨_, rfl⟩
  rw [← hN] at hvl ⊢
  have HN := JW hN
  have HNB := JW hn
  clear hN hn
  go_enter Tryz.func140, Tryz.ntmps140
  go_wp2
  go_loopw [1] (fun x wr => ∃ (y : Nat) (v1 : Value) (l1 : List UInt8), x = .int .u64 (y : Int) ∧ y < 18446744073709551616 ∧ N = l1 ++ Eb y ∧ Or wr p v1 (l ++ l1) ∧ Mod (IV p v) w wr ∧ ∀ k, At v1 k → At v k ∨ w.heap.size ≤ k) (fun x _ => (intOf x).toNat)
  case atStart => exact ⟨n, v, [], rfl, HNB.out, by rw [HN.out]; rfl, by simpa using h, Mod.refl _ _, fun k hk => .inl hk⟩
  case round =>
    obtain ⟨y, v1, l1, rfl, hy, hN, hw, hm, ha⟩ := hrel
    have hpos := TD y
    have hlN : N.length = l1.length + (Eb y).length := by rw [hN]; simp
    obtain ⟨L, hL⟩ : ∃ L, L = l ++ l1 := ⟨_, rfl⟩
    have hll : L.length + 1 ≤ 140737488355328 := by rw [hL, List.length_append]; omega
    rw [← hL] at hw
    clear hlN
    have HL := JW hL
    have HNN := JW hN
    have HY := JW hy
    clear hN hy hL hpos
    obtain ⟨hr, ho⟩ := hw
    have hp := hr.lt
    have hne := ho.ne_row hr (by decide)
    obtain ⟨A, c, rfl, hs⟩ := ho.form
    have h0 := hr.cell 0
    have f0 := hr.frozen 0
    simp only [List.getElem?_toArray, List.getElem?_cons_zero] at h0
    by_cases h128 : 128 ≤ y
    · have hx : bits .or .u8 ((y : Int) % 256) 128 = ((UInt8.ofNat (y % 128 + 128)).toNat : Int) := by
        rw [Q8 _ (by omega), show (y : Int) % 256 = ((y % 256 : Nat) : Int) by omega, WY _ (by omega)]
        congr 2; omega
      obtain ⟨b, hb⟩ : ∃ b, b = UInt8.ofNat (y % 128 + 128) := ⟨_, rfl⟩
      rw [← hb] at hx
      have HB := JW hb
      have own1 : G6 5 (wr.alloc (.cells #[.int .u8 (b.toNat : Int)] 5)) 0 (.slice A L.length c) L := ho.mod ((Mod.refl Nil wr).alloc _) (fun _ _ hf => hf)
      have hr1 := hr.alloc (.cells #[.int .u8 (b.toNat : Int)] 5)
      clear hb
      go_wp2_with (at_builtin; refine Du (t := 49) Sb rfl (.tmp 10) (.tmp 14) rfl own1 (Nat.zero_le _) (Nn wr 5 b rfl) (L.length + 1) rfl rfl rfl hll ?_; intro A1 c1 w1 ho1 hm1 ha1; have hr2 := hr1.mod hm1 hne; have k0 := hr2.cell 0; have g0 := hr2.frozen 0; simp at k0; have hne1 := ho1.ne_row hr2 (by decide))
      have hfoot : Mod (IV p v) w (w1.setCell ⟨p, 0, none⟩ (.slice A1 (L.length + 1) c1)) := hm.trans ((((Mod.refl (IV p (.slice A L.length c)) wr).alloc _).trans hm1 (fun k _ hk => .inr hk)).trans (Mod.one _ _ _ _) (fun k _ hk => .inl hk)) (fun k hk hf => by
        rcases hf with hf | hf
        · exact .inl hf
        · rcases ha k hf with hf | hf
          · exact .inr hf
          · omega)
      have hws : w.heap.size ≤ wr.heap.size := hm.size
      go_roundw
      case rel =>
        refine ⟨y / 128, .slice A1 (L.length + 1) c1, l1 ++ [b], by go_num, by have := HY.out; omega, ?_, ⟨?_, ?_⟩, hfoot, ?_⟩
        · rw [HNN.out, Ij h128, ← HB.out]; simp
        · exact hr2.set 0 _
        · rw [← List.append_assoc, ← HL.out]
          exact ho1.mod (Mod.one _ _ _ _) (fun k hk e => by subst e; exact hne1 hk)
        · intro k hk
          rcases ha1 k hk with h | h
          · exact ha k h
          · right; simp at h; omega
      case measure => simp [intOf]; omega
    · have hyb : y < 128 := by omega
      obtain ⟨b, hb⟩ : ∃ b, b = UInt8.ofNat y := ⟨_, rfl⟩
      have hx : (y : Int) = (b.toNat : Int) := by rw [hb, Q8 _ (by omega)]
      have HB := JW hb
      have HX := JW hx
      have own1 : G6 5 (wr.alloc (.cells #[.int .u8 (y : Int)] 5)) 0 (.slice A L.length c) L := ho.mod ((Mod.refl Nil wr).alloc _) (fun _ _ hf => hf)
      have hr1 := hr.alloc (.cells #[.int .u8 (y : Int)] 5)
      clear hb hx
      go_wp2_with (at_builtin; refine Du (t := 49) Sb rfl (.tmp 24) (.tmp 27) rfl own1 (Nat.zero_le _) (Nn wr 5 b HX.out) (L.length + 1) rfl rfl rfl hll ?_; intro A1 c1 w1 ho1 hm1 ha1; have hr2 := hr1.mod hm1 hne; have k0 := hr2.cell 0; have g0 := hr2.frozen 0; simp at k0; have hne1 := ho1.ne_row hr2 (by decide))
      have hfoot : Mod (IV p v) w (w1.setCell ⟨p, 0, none⟩ (.slice A1 (L.length + 1) c1)) := hm.trans ((((Mod.refl (IV p (.slice A L.length c)) wr).alloc _).trans hm1 (fun k _ hk => .inr hk)).trans (Mod.one _ _ _ _) (fun k _ hk => .inl hk)) (fun k hk hf => by
        rcases hf with hf | hf
        · exact .inl hf
        · rcases ha k hf with hf | hf
          · exact .inr hf
          · omega)
      have hws : w.heap.size ≤ wr.heap.size := hm.size
      go_end0
      refine ⟨_, rfl, ⟨hr2.set 0 _, ?_⟩, hfoot, ?_⟩
      · rw [HNN.out, FT hyb, ← HB.out, ← List.append_assoc, ← HL.out]
        exact ho1.mod (Mod.one _ _ _ _) (fun k hk e => by subst e; exact hne1 hk)
      · intro k hk
        rcases ha1 k hk with h | h
        · exact ha k h
        · right; simp at h; omega
theorem Lx {S : Nat → Prop} (w : World) (p : Nat) (v : Value) (l : List UInt8) (A : Option Addr) (c : Nat) (m : List UInt8) (h : Or w p v l) (hm : Bs S w A c m) (hS : ∀ k, S k → ¬ IV p v k) (hl : l.length + m.length + 10 ≤ 140737488355328) :
    Calls Tryz.prog 141 #[.pointer (some ⟨p, 0, none⟩), .slice A m.length c] w fun e w' =>
      ∃ v', e = .returned (.tuple #[]) ∧ Or w' p v' (l ++ Eb m.length ++ m) ∧ Mod (IV p v) w w' ∧ ∀ k, At v' k → At v k ∨ w.heap.size ≤ k := by
  have hC := IH w p v l m.length h (by omega) (by omega)
  have HC := JW hC
  clear hC
  have hvl := KD m.length (by omega)
  obtain ⟨L, hL⟩ : ∃ L, L = l ++ Eb m.length := ⟨_, rfl⟩
  have hLl : L.length + m.length ≤ 140737488355328 := by rw [hL, List.length_append]; omega
  rw [← hL] at HC ⊢
  clear hvl hL
  obtain ⟨M, hM⟩ : ∃ M, M = L.length + m.length := ⟨_, rfl⟩
  rw [← hM] at hLl
  have HM := JW hM
  clear hM
  go_enter Tryz.func141, Tryz.ntmps141
  go_wp2_with (first
    | (go_at_call 140; refine Calls.mono HC.out ?_; rintro e w1 ⟨v1, rfl, ⟨hr1, ho1⟩, hm1, ha1⟩; have hne1 := ho1.ne_row hr1 (by decide); obtain ⟨A1, c1, rfl, hs1⟩ := ho1.form; have h0 := hr1.cell 0; have f0 := hr1.frozen 0; simp only [List.getElem?_toArray, List.getElem?_cons_zero] at h0; have hm' := hm.mod hm1 hS)
    | (at_builtin; refine Du (t := 49) Sb rfl (.tmp 13) (.tmp 14) rfl ho1 (Nat.zero_le _) hm' M HM.out rfl rfl hLl ?_; intro A2 c2 w2 ho2 hm2 ha2; have hr2 := hr1.mod hm2 hne1; have k0 := hr2.cell 0; have g0 := hr2.frozen 0; simp only [List.getElem?_toArray, List.getElem?_cons_zero] at k0; have hne2 := ho2.ne_row hr2 (by decide)))
  go_end0
  refine ⟨_, rfl, ⟨hr2.set 0 _, ho2.mod (Mod.one _ _ _ _) (fun k hk e => by subst e; exact hne2 hk)⟩, ?_, ?_⟩
  · refine (hm1.trans hm2 (fun k hk hk1 => ?_)).trans (Mod.one _ _ _ _) (fun k _ hk => .inl hk)
    rcases ha1 k hk1 with h | h
    · exact .inr h
    · omega
  · intro k hk
    have hws := hm1.size
    rcases ha2 k hk with h | h
    · exact ha1 k h
    · right; omega
theorem K1 (w : World) (p : Nat) (v : Value) (l : List UInt8) (h : Or w p v l) (hl : l.length ≤ 140737488355328) :
  Calls Tryz.prog 142 #[.pointer (some ⟨p, 0, none⟩)] w fun e w' => ∃ v', e = .returned v' ∧ G6 5 w' w.heap.size v' l ∧ Below w.heap.size w w' := by
 obtain ⟨hr, ho⟩ := h
 obtain ⟨A, c, rfl, hs⟩ := ho.form
 have h0 := hr.cell 0
 have f0 := hr.frozen 0
 simp only [List.getElem?_toArray, List.getElem?_cons_zero] at h0
 go_enter Tryz.func142, Tryz.ntmps142
 go_wp2_with (go_at_call 78; refine (J5 w A c l hs hl).mono ?_; rintro e w' ⟨v', rfl, ho', hb⟩)
 go_ret
 exact ⟨_, rfl, ho', hb⟩
end Go.Proofs.YtjcfimmcogkopaaGreatDoor
namespace Go.Proofs.YtjcfimmcogkopaaGreatDoor
open Go.RowKit
theorem PQ {S : Nat → Prop} (w : World) (A : Option Addr) (c : Nat) (l : List UInt8) (most : Nat) (h : Bs S w A c l) (hl : l.length ≤ 140737488355328) (hm : most < 18446744073709551616) :
    Calls Tryz.prog 173 #[.slice A l.length c, .int .u64 (most : Int)] w fun e w' =>
      e = .returned (.tuple #[.int .u64 ((Cd most l 0 0).1 : Int), .int .i64 ((Cd most l 0 0).2.1 : Int), .int .i64 ((Cd most l 0 0).2.2 : Int)]) ∧ w = w' := by
  go_enter Tryz.func173, Tryz.ntmps173
  go_wp2
  go_loop [4, 7, 8, 11] (fun n _ _ i => ∃ k a : Nat, k ≤ l.length ∧ k ≤ 9 ∧ a < 2 ^ (7 * k) ∧ Cd most l 0 0 = Cd most (l.drop k) k a ∧ i = .int .i64 k ∧ n = .int .u64 a) (fun _ _ _ i => l.length - (intOf i).toNat)
  case atStart => exact ⟨0, 0, Nat.zero_le _, by omega, by decide, rfl, rfl, rfl⟩
  case round =>
    obtain ⟨k, a, hk, hk9, ha, hv, rfl, rfl⟩ := hrel
    have HV := JW hv
    clear hv
    by_cases hlt : k < l.length
    · obtain ⟨g, o, rfl, hs, hc⟩ := h.2.2 (by omega)
      have hb := hc k l[k] (List.getElem?_eq_getElem hlt)
      unfold Te at hb
      clear hc
      obtain ⟨b, hbb⟩ : ∃ b : Nat, b = (l[k]).toNat := ⟨_, rfl⟩
      have hb2 : b < 256 := by rw [hbb]; exact UInt8.toNat_lt _
      rw [← hbb] at hb
      have HB := JW hbb
      clear hbb
      have hd : l.drop k = l[k] :: l.drop (k + 1) := List.drop_eq_getElem_cons hlt
      have HD := JW hd
      clear hd
      have HA := JW ha
      have HM := JW hm
      clear hm
      by_cases h9 : k = 9 ∧ 1 < b
      · obtain ⟨rfl, hb1⟩ := h9
        clear ha
        go_wp2
        refine bodyPost_ret (results_tmp3 rfl _ _ _) rfl ⟨?_, rfl⟩
        rw [HV.out, HD.out]
        unfold Cd
        rw [← HB.out, if_pos ⟨rfl, hb1⟩]
        rfl
      obtain ⟨X, hX⟩ : ∃ X : Nat, X = a + b % 128 * 2 ^ (7 * k) := ⟨_, rfl⟩
      by_cases h1 : 128 ≤ b
      · have hk8 : k ≤ 8 := by omega
        have hN := Lv a b k hb2 hk9 ha h9 (by omega)
        rw [← hX] at hN
        have HX := JW hX
        clear ha hX
        go_wp2
        go_round
        case rel =>
          refine ⟨k + 1, X, by omega, by omega, ?_, ?_, by go_num, rfl⟩
          · have hp : (2 : Nat) ^ (7 * (k + 1)) = 128 * 2 ^ (7 * k) := by rw [Nat.mul_add, Nat.pow_add]; omega
            have hc : b % 128 * 2 ^ (7 * k) ≤ 127 * 2 ^ (7 * k) := Nat.mul_le_mul_right _ (by omega)
            have := HA.out
            have := HX.out
            omega
          · rw [HV.out, HD.out]
            conv => lhs; unfold Cd
            rw [← HB.out, if_neg h9, if_pos h1, ← HX.out]
        case measure => simp [intOf]; omega
      have h1' : b < 128 := by omega
      by_cases h0 : b = 0 ∧ 0 < k
      · obtain ⟨rfl, hk0⟩ := h0
        clear ha hX
        go_wp2
        all_goals
          refine bodyPost_ret (results_tmp3 rfl _ _ _) rfl ⟨?_, rfl⟩
          rw [HV.out, HD.out]
          unfold Cd
          rw [← HB.out, if_neg h9, if_neg h1, if_pos ⟨rfl, hk0⟩]
          rfl
      have hN := Lv a b k hb2 hk9 ha h9 (by omega)
      rw [← hX] at hN
      have HX := JW hX
      clear ha hX
      by_cases e9 : k = 9
      · subst e9
        rw [show (2 : Int) ^ (7 * 9) = 9223372036854775808 from rfl] at hN
        have hb1 : b ≤ 1 := by omega
        by_cases hl2 : most < X
        · go_wp2
          all_goals
            refine bodyPost_ret (results_tmp3 rfl _ _ _) rfl ⟨?_, rfl⟩
            rw [HV.out, HD.out]
            unfold Cd
            rw [← HB.out, if_neg (by omega), if_neg h1, if_neg (by omega), ← HX.out, if_pos hl2]
            rfl
        · go_wp2
          all_goals
            refine bodyPost_ret (results_tmp3 rfl _ _ _) rfl ⟨?_, rfl⟩
            rw [HV.out, HD.out]
            unfold Cd
            rw [← HB.out, if_neg (by omega), if_neg h1, if_neg (by omega), ← HX.out, if_neg hl2]
            rfl
      have hk8 : k ≤ 8 := by omega
      by_cases hl2 : most < X
      · go_wp2
        all_goals
          refine bodyPost_ret (results_tmp3 rfl _ _ _) rfl ⟨?_, rfl⟩
          rw [HV.out, HD.out]
          unfold Cd
          rw [← HB.out, if_neg h9, if_neg h1, if_neg h0, ← HX.out, if_pos hl2]
          rfl
      · go_wp2
        all_goals
          refine bodyPost_ret (results_tmp3 rfl _ _ _) rfl ⟨?_, rfl⟩
          rw [HV.out, HD.out]
          unfold Cd
          rw [← HB.out, if_neg h9, if_neg h1, if_neg h0, ← HX.out, if_neg hl2]
          rfl
    · have hk' : k = l.length := by omega
      have hd : l.drop k = [] := by rw [hk']; exact List.drop_length
      have HD := JW hd
      clear hd hk' ha hm
      go_wp2
      refine bodyPost_ret (results_tmp3 rfl _ _ _) rfl ⟨?_, rfl⟩
      rw [HV.out, HD.out]
      rfl
end Go.Proofs.YtjcfimmcogkopaaGreatDoor
namespace Go.Proofs.YtjcfimmcogkopaaGreatDoor
open Go.RowKit
end Go.Proofs.YtjcfimmcogkopaaGreatDoor
namespace Go.Proofs.YtjcfimmcogkopaaGreatDoor
open Go.RowKit
def XM (S : Nat → Prop) (w : World) (p : Nat) (A : Option Addr) (c : Nat) (b l : List UInt8) (f : Nat) : Prop :=
  ∃ j, j ≤ b.length ∧ l = b.drop j ∧ Dy w p 184 #[.slice A b.length c, .int .i64 (j : Int), .int .i64 (f : Int)] ∧ Bs S w A c b ∧ b.length ≤ 140737488355328 ∧ ∀ k, S k → ¬ N5 p k
theorem XM.mod {S T : Nat → Prop} {w w' : World} {p c f : Nat} {A : Option Addr} {b l : List UInt8} (h : XM S w p A c b l f) (hm : Mod T w w') (hp : ¬ T p) (hn : ∀ k, S k → ¬ T k) : XM S w' p A c b l f := by
 obtain ⟨j, hj, hl, hr, hs, hb, hne⟩ := h
 exact ⟨j, hj, hl, hr.mod hm hp, hs.mod hm hn, hb, hne⟩
theorem XM.lt {S : Nat → Prop} {w : World} {p c f : Nat} {A : Option Addr} {b l : List UInt8} (h : XM S w p A c b l f) : p < w.heap.size := by
 obtain ⟨_, _, _, hr, _⟩ := h
 exact hr.lt
end Go.Proofs.YtjcfimmcogkopaaGreatDoor
namespace Go.Proofs.YtjcfimmcogkopaaGreatDoor
theorem J6 (most : Nat) : ∀ (l : List UInt8) (k a : Nat), (Cd most l k a).2.2 = 0 →
    ∃ m, (Cd most l k a).1 = a + m * 2 ^ (7 * k) ∧ (0 < k → m ≠ 0) ∧ k < (Cd most l k a).2.1 ∧ l.take ((Cd most l k a).2.1 - k) = Eb m
  | [], k, a, h => by cases h
  | c :: r, k, a, h => by
    unfold Cd at h ⊢
    by_cases h1 : k = 9 ∧ 1 < c.toNat
    · rw [if_pos h1] at h; cases h
    rw [if_neg h1] at h ⊢
    have hc := UInt8.toNat_lt c
    by_cases h2 : 128 ≤ c.toNat
    · rw [if_pos h2] at h ⊢
      obtain ⟨m, e, hm, hk, ht⟩ := J6 most r (k + 1) _ h
      have hm := hm (by omega)
      refine ⟨c.toNat % 128 + 128 * m, ?_, fun _ => by omega, by omega, ?_⟩
      · rw [e, show 7 * (k + 1) = 7 * k + 7 by omega, Nat.pow_add, Nat.add_mul, Nat.add_assoc]
        congr 2
        rw [show (2 : Nat) ^ 7 = 128 by decide, Nat.mul_comm (2 ^ (7 * k)) 128, ← Nat.mul_assoc, Nat.mul_comm m 128]
      · rw [Ij (by omega), show (c.toNat % 128 + 128 * m) / 128 = m by omega, ← ht]
        obtain ⟨j, hj⟩ : ∃ j, (Cd most r (k + 1) (a + c.toNat % 128 * 2 ^ (7 * k))).2.1 = k + 1 + (j + 1) := ⟨(Cd most r (k + 1) (a + c.toNat % 128 * 2 ^ (7 * k))).2.1 - (k + 2), by omega⟩
        rw [hj, show k + 1 + (j + 1) - k = (j + 1) + 1 by omega, show k + 1 + (j + 1) - (k + 1) = j + 1 by omega, List.take_succ_cons]
        congr 1
        apply UInt8.toNat_inj.1
        rw [UInt8.toNat_ofNat']
        omega
    rw [if_neg h2] at h ⊢
    by_cases h3 : c.toNat = 0 ∧ 0 < k
    · rw [if_pos h3] at h; cases h
    rw [if_neg h3] at h ⊢
    by_cases h4 : most < a + c.toNat % 128 * 2 ^ (7 * k)
    · rw [if_pos h4] at h; cases h
    rw [if_neg h4] at h ⊢
    refine ⟨c.toNat, by rw [Nat.mod_eq_of_lt (by omega)], fun hk => by omega, by show k < k + 1; omega, ?_⟩
    show (c :: r).take (k + 1 - k) = _
    rw [show k + 1 - k = 0 + 1 by omega, List.take_succ_cons, FT (by omega)]
    simp
theorem Sc {most : Nat} {l : List UInt8} (h : (CN most l 0).2.2 = 0) : l = Eb (CN most l 0).1 ++ (CN most l 0).2.1 := by
 have e : CN most l 0 = ((Cd most l 0 0).1, l.drop (Cd most l 0 0).2.1, (Cd most l 0 0).2.2) := by
  unfold CN; rw [if_neg (by simp)]
 rw [e] at h ⊢
 obtain ⟨m, e1, _, _, e2⟩ := J6 most l 0 0 h
 show l = Eb (Cd most l 0 0).1 ++ l.drop (Cd most l 0 0).2.1
 rw [show (Cd most l 0 0).1 = m by rw [e1]; simp, ← e2, Nat.sub_zero, List.take_append_drop]
theorem Ot {n : Nat} (h : n < 18446744073709551616) : -9223372036854775808 ≤ Q7 n ∧ Q7 n ≤ 9223372036854775807 := by
 unfold Q7
 split <;> omega
theorem K6 (most : Nat) (l : List UInt8) (f : Nat) : (CN most l f).1 < 18446744073709551616 := by
  unfold CN
  split
  · show (0 : Nat) < _; decide
  · rcases Ii most l 0 0 (by omega) (by decide) with ⟨_, _, _, _, h⟩ | ⟨h, _⟩
    · exact h
    · show (Cd most l 0 0).1 < _
      rw [h]; decide
theorem PR (l : List UInt8) (f : Nat) : -9223372036854775808 ≤ (PN l f).1 ∧ (PN l f).1 ≤ 9223372036854775807 := Ot (K6 _ _ _)
theorem Ly (most : Nat) (l : List UInt8) (f : Nat) : (Bv most l f).1 < 256 := by
  unfold Bv
  split
  · show (0 : Nat) < _; decide
  · cases l with
    | nil => show (0 : Nat) < _; decide
    | cons b r =>
      have hb := UInt8.toNat_lt b
      simp only
      split
      · show (0 : Nat) < _; decide
      · exact hb
theorem PS {most : Int} {l : List UInt8} (h : (CQ most l 0).2.2 = 0) : l = Eb (CQ most l 0).1.length ++ (CQ most l 0).1 ++ (CQ most l 0).2.1 := by
  unfold CQ at h ⊢
  rw [if_neg (by simp)] at h ⊢
  by_cases h1 : (Cd most.toNat l 0 0).2.2 ≠ 0
  · rw [if_pos h1] at h; exact absurd h h1
  rw [if_neg h1] at h ⊢
  by_cases h2 : l.length - (Cd most.toNat l 0 0).2.1 < (Cd most.toNat l 0 0).1
  · rw [if_pos h2] at h; cases h
  rw [if_neg h2]
  obtain ⟨m, e1, _, _, e2⟩ := J6 most.toNat l 0 0 (by omega)
  obtain ⟨j, hj⟩ : ∃ j, j = (Cd most.toNat l 0 0).2.1 := ⟨_, rfl⟩
  obtain ⟨n, hn⟩ : ∃ n, n = (Cd most.toNat l 0 0).1 := ⟨_, rfl⟩
  rw [← hj, Nat.sub_zero] at e2
  rw [← hn] at e1
  rw [← hj, ← hn] at h2 ⊢
  have hm : m = n := by rw [e1]; simp
  subst hm
  show l = Eb ((l.drop j).take m).length ++ (l.drop j).take m ++ l.drop (j + m)
  rw [List.length_take, List.length_drop, Nat.min_eq_left (by omega), ← e2, List.append_assoc, ← List.drop_drop, List.take_append_drop, List.take_append_drop]
theorem Ou {most f : Nat} {l : List UInt8} (h : f ≠ 0) : (Bv most l f).2.2 = f := by unfold Bv; rw [if_pos h]
theorem PT {most f : Nat} {l : List UInt8} (h : f ≠ 0) : (CN most l f).2.2 = f := by unfold CN; rw [if_pos h]
theorem Ov {most : Int} {f : Nat} {l : List UInt8} (h : f ≠ 0) : (CQ most l f).2.2 = f := by unfold CQ; rw [if_pos h]
theorem Sd {most : Nat} {l : List UInt8} {f : Nat} (h : (CN most l f).2.2 = 0) : f = 0 ∧ l = Eb (CN most l f).1 ++ (CN most l f).2.1 := by
  by_cases hf : f = 0
  · subst hf; exact ⟨rfl, Sc h⟩
  · rw [PT hf] at h; exact absurd h hf
theorem PU {most : Int} {l : List UInt8} {f : Nat} (h : (CQ most l f).2.2 = 0) : f = 0 ∧ l = Eb (CQ most l f).1.length ++ (CQ most l f).1 ++ (CQ most l f).2.1 := by
  by_cases hf : f = 0
  · subst hf; exact ⟨rfl, PS h⟩
  · rw [Ov hf] at h; exact absurd h hf
end Go.Proofs.YtjcfimmcogkopaaGreatDoor
namespace Go.Proofs.YtjcfimmcogkopaaGreatDoor
theorem TF (k : Nat) : (2 : Nat) ^ (7 * (k + 1)) = 128 * 2 ^ (7 * k) := by rw [Nat.mul_add, Nat.pow_add]; omega
theorem K7 (n : Nat) (h : n < 256) : (UInt8.ofNat n).toNat = n := by simp [UInt8.toNat_ofNat']; omega
theorem J7 (n k a : Nat) : a + n % 128 * 2 ^ (7 * k) + n / 128 * 2 ^ (7 * (k + 1)) = a + n * 2 ^ (7 * k) := by
 rw [TF]
 have h : n = 128 * (n / 128) + n % 128 := by omega
 have h2 : n * 2 ^ (7 * k) = (128 * (n / 128) + n % 128) * 2 ^ (7 * k) := by rw [← h]
 rw [h2, Nat.add_mul, Nat.mul_comm 128 (n / 128), Nat.mul_assoc]
 omega
theorem Q9 {n k a : Nat} (hs : a + n * 2 ^ (7 * k) < 18446744073709551616) (hk : k ≤ 9) (hn : 2 ≤ n) : k < 9 := by
  rcases Nat.lt_or_ge k 9 with h | h
  · exact h
  · have : k = 9 := by omega
    subst this
    have : 2 * 2 ^ (7 * 9) ≤ n * 2 ^ (7 * 9) := Nat.mul_le_mul_right _ hn
    omega
theorem TG (most : Nat) (n : Nat) : ∀ (k a : Nat) (r : List UInt8), (0 < k → 0 < n) → a + n * 2 ^ (7 * k) ≤ most → a + n * 2 ^ (7 * k) < 18446744073709551616 → k ≤ 9 →
    Cd most (Eb n ++ r) k a = (a + n * 2 ^ (7 * k), k + (Eb n).length, 0) := by
  induction n using Nat.strongRecOn with
  | _ n ih =>
    intro k a r h0 hm hs hk
    by_cases hn : n < 128
    · rw [FT hn]
      simp only [List.cons_append, List.nil_append, List.length_cons, List.length_nil]
      unfold Cd
      rw [K7 n (by omega), if_neg, if_neg (by omega), if_neg (by omega), Nat.mod_eq_of_lt hn, if_neg (by omega)]
      rintro ⟨rfl, h1⟩
      have := Q9 hs hk h1
      omega
    · have hk9 := Q9 hs hk (show 2 ≤ n by omega)
      rw [Ij (by omega)]
      simp only [List.cons_append, List.length_cons]
      unfold Cd
      rw [K7 _ (by omega), if_neg (by omega), if_pos (by omega), show (n % 128 + 128) % 128 = n % 128 by omega]
      rw [ih (n / 128) (by omega) (k + 1) _ r (fun _ => by omega) (by rw [J7]; exact hm) (by rw [J7]; exact hs) (by omega), J7]
      congr 2
      omega
theorem MP (most n : Nat) (r : List UInt8) (hm : n ≤ most) (hs : n < 18446744073709551616) : Cd most (Eb n ++ r) 0 0 = (n, (Eb n).length, 0) := by
 have := TG most n 0 0 r (by omega) (by simpa using hm) (by simpa using hs) (by omega)
 simpa using this
theorem Se (most : Nat) (b : UInt8) (r : List UInt8) (h : b.toNat ≤ most) : Bv most (b :: r) 0 = (b.toNat, r, 0) := by
 simp only [Bv]
 rw [if_neg (by simp), if_neg (by omega)]
theorem TH (most n : Nat) (r : List UInt8) (hm : n ≤ most) (hs : n < 18446744073709551616) : CN most (Eb n ++ r) 0 = (n, r, 0) := by
 unfold CN
 rw [if_neg (by simp), MP most n r hm hs]
 simp
theorem Sf (most : Int) (t r : List UInt8) (hm : (t.length : Int) ≤ most) (hs : t.length < 18446744073709551616) : CQ most (Eb t.length ++ t ++ r) 0 = (t, r, 0) := by
 unfold CQ
 rw [if_neg (by simp), List.append_assoc, MP most.toNat t.length (t ++ r) (by omega) hs]
 simp only [List.length_append, List.drop_append_of_le_length (Nat.le_refl _), List.drop_length, List.nil_append]
 rw [if_neg (by simp), if_neg (by omega)]
 simp [List.drop_append, Nat.add_sub_cancel_left]
theorem Ow {most f : Nat} {l : List UInt8} (h : f ≠ 0) : Bv most l f = (0, l, f) := by simp [Bv, h]
theorem PV {most f : Nat} {l : List UInt8} (h : f ≠ 0) : CN most l f = (0, l, f) := by simp [CN, h]
theorem Ox {most : Int} {f : Nat} {l : List UInt8} (h : f ≠ 0) : CQ most l f = ([], l, f) := by simp [CQ, h]
def Nz (D l : List UInt8) (f : Nat) : Prop := f = 10 ∨ (f = 0 ∧ ∃ m, m < D.length ∧ l = D.take m)
theorem Nz.parts {B R l : List UInt8} {f : Nat} (h : Nz (B ++ R) l f) : f = 10 ∨ (f = 0 ∧ ∃ m, m < B.length ∧ l = B.take m) ∨ (f = 0 ∧ ∃ m, m < R.length ∧ l = B ++ R.take m) := by
  rcases h with h | ⟨h, m, hm, rfl⟩
  · exact .inl h
  · rw [List.length_append] at hm
    by_cases hb : m < B.length
    · exact .inr (.inl ⟨h, m, hb, List.take_append_of_le_length (by omega)⟩)
    · obtain ⟨j, rfl⟩ : ∃ j, m = B.length + j := ⟨m - B.length, by omega⟩
      exact .inr (.inr ⟨h, j, by omega, List.take_length_add_append ..⟩)
theorem Nz.end_ {l : List UInt8} {f : Nat} (h : Nz [] l f) : Fl l f = 10 := by
  rcases h with rfl | ⟨_, m, hm, _⟩
  · unfold Fl; rw [if_neg (by omega)]
  · simp at hm
end Go.Proofs.YtjcfimmcogkopaaGreatDoor
namespace Go.Proofs.YtjcfimmcogkopaaGreatDoor
structure CmdD where
  k : Int
  s : Int
  q : Int
  a : Int
  b : Int
  hi : Int
  lo : Int
  sc : Int
  x : List UInt8
  y : List UInt8
deriving DecidableEq
def CmdD.zero : CmdD := ⟨0, 0, 0, 0, 0, 0, 0, 0, [], []⟩
def PE (n : Int) : Prop := 0 ≤ n ∧ n ≤ 18446744073709551615
def Ra (n : Int) : Prop := -9223372036854775808 ≤ n ∧ n ≤ 9223372036854775807
structure CmdD.ok (c : CmdD) : Prop where
  k : Ra c.k
  s : PE c.s
  q : PE c.q
  a : PE c.a
  b : PE c.b
  hi : Ra c.hi
  lo : PE c.lo
  sc : Ra c.sc
  x : c.x.length ≤ 9223372036854775807
  y : c.y.length ≤ 9223372036854775807
def fo (k : Int) : Nat := if k = 6 ∨ k = 8 then 31 else if k = 4 ∨ k = 5 then 23 else if k = 9 then 7 else if k = 7 then 115 else if k = 11 then 99 else if k = 3 ∨ k = 10 then 35 else if k = 2 then 39 else if k = 1 then 1 else 0
def II (h f : Nat) : Bool := (h &&& f) != 0
def G9 (n : Int) : Bool := decide (n ≥ 1) && decide (n ≤ 72057594037927935)
def Vs (b : UInt8) : Bool := decide (65 ≤ b.toNat) && decide (b.toNat ≤ 90)
def D9 (l : List UInt8) : Bool := decide (l.length = 3) && l.all Vs
def Yf (n : Int) : Bool := decide (n ≥ 0) && decide (n ≤ 18)
def PW (has right zero : Bool) : Bool := match has with | true => right | false => zero
def XN (c : CmdD) : Bool := c.hi == 0 && (c.lo == 0 && c.sc == 0)
def TJ (c : CmdD) : Bool :=
  fo c.k != 0 && PW (II (fo c.k) 1) (G9 c.s) (c.s == 0) && PW (II (fo c.k) 2) (G9 c.q) (c.q == 0) && PW (II (fo c.k) 4) true (c.a == 0) && PW (II (fo c.k) 8) true (c.b == 0)
    && PW (II (fo c.k) 16) (Yf c.sc) (XN c) && PW (II (fo c.k) 32) (D9 c.x) (c.x == []) && PW (II (fo c.k) 64) (D9 c.y) (c.y == [])
def Gr (n : Int) : List UInt8 := Eb n.toNat
def XO (b : Bool) (r : Nat × List UInt8 × Nat) (l : List UInt8) (f : Nat) : Nat × List UInt8 × Nat := match b with | true => r | false => (0, l, f)
def WZ (l : List UInt8) (f : Nat) : (Int × Nat × Nat) × List UInt8 × Nat :=
  (((PN (Bv 18 l f).2.1 (Bv 18 l f).2.2).1, (CN 18446744073709551615 (PN (Bv 18 l f).2.1 (Bv 18 l f).2.2).2.1 (PN (Bv 18 l f).2.1 (Bv 18 l f).2.2).2.2).1, (Bv 18 l f).1), (CN 18446744073709551615 (PN (Bv 18 l f).2.1 (Bv 18 l f).2.2).2.1 (PN (Bv 18 l f).2.1 (Bv 18 l f).2.2).2.2).2)
def W2 (l : List UInt8) (f : Nat) : List UInt8 × List UInt8 × Nat :=
  ([UInt8.ofNat (Bv 90 l f).1, UInt8.ofNat (Bv 90 (Bv 90 l f).2.1 (Bv 90 l f).2.2).1, UInt8.ofNat (Bv 90 (Bv 90 (Bv 90 l f).2.1 (Bv 90 l f).2.2).2.1 (Bv 90 (Bv 90 l f).2.1 (Bv 90 l f).2.2).2.2).1], (Bv 90 (Bv 90 (Bv 90 l f).2.1 (Bv 90 l f).2.2).2.1 (Bv 90 (Bv 90 l f).2.1 (Bv 90 l f).2.2).2.2).2)
def XP (b : Bool) (l : List UInt8) (f : Nat) : (Int × Nat × Nat) × List UInt8 × Nat := match b with | true => WZ l f | false => ((0, 0, 0), l, f)
def W3 (b : Bool) (l : List UInt8) (f : Nat) : List UInt8 × List UInt8 × Nat := match b with | true => W2 l f | false => ([], l, f)
structure Read (l : List UInt8) (c : CmdD) (l' : List UInt8) (f' : Nat) where
  mk ::
  n0 : Nat
  l0 : List UInt8
  f0 : Nat
  h0 : Bv 11 l 0 = (n0, l0, f0)
  n1 : Nat
  l1 : List UInt8
  f1 : Nat
  h1 : XO (II (fo (n0 : Int)) 1) (CN 72057594037927935 l0 f0) l0 f0 = (n1, l1, f1)
  n2 : Nat
  l2 : List UInt8
  f2 : Nat
  h2 : XO (II (fo (n0 : Int)) 2) (CN 72057594037927935 l1 f1) l1 f1 = (n2, l2, f2)
  n3 : Nat
  l3 : List UInt8
  f3 : Nat
  h3 : XO (II (fo (n0 : Int)) 4) (CN 18446744073709551615 l2 f2) l2 f2 = (n3, l3, f3)
  n4 : Nat
  l4 : List UInt8
  f4 : Nat
  h4 : XO (II (fo (n0 : Int)) 8) (CN 18446744073709551615 l3 f3) l3 f3 = (n4, l4, f4)
  hi : Int
  lo : Nat
  sc : Nat
  l5 : List UInt8
  f5 : Nat
  h5 : XP (II (fo (n0 : Int)) 16) l4 f4 = ((hi, lo, sc), l5, f5)
  x : List UInt8
  l6 : List UInt8
  f6 : Nat
  h6 : W3 (II (fo (n0 : Int)) 32) l5 f5 = (x, l6, f6)
  y : List UInt8
  h7 : W3 (II (fo (n0 : Int)) 64) l6 f6 = (y, l', f')
  hc : c = ⟨(n0 : Int), (n1 : Int), (n2 : Int), (n3 : Int), (n4 : Int), hi, (lo : Int), (sc : Int), x, y⟩
structure Decoded (l : List UInt8) (c : CmdD) (e : Nat) : Prop where
  is : (l.length > 128 ∧ c = .zero ∧ e = 12) ∨ (l.length ≤ 128 ∧ ∃ c0 l' f', Nonempty (Read l c0 l' f') ∧ ((Fl l' f' ≠ 0 ∧ c = .zero ∧ e = Fl l' f') ∨ (Fl l' f' = 0 ∧ TJ c0 = false ∧ c = .zero ∧ e = 11) ∨ (Fl l' f' = 0 ∧ TJ c0 = true ∧ c = c0 ∧ e = 0)))
theorem Il {l : List UInt8} (h : D9 l = true) : ∃ a b c, l = [a, b, c] ∧ Vs a = true ∧ Vs b = true ∧ Vs c = true := by
  unfold D9 at h
  simp only [Bool.and_eq_true, decide_eq_true_eq] at h
  obtain ⟨h1, h2⟩ := h
  match l, h1 with
  | [a, b, c], _ => exact ⟨a, b, c, rfl, by simpa using h2⟩
theorem Oy {n : Int} (h : G9 n = true) : 1 ≤ n ∧ n ≤ 72057594037927935 := by
 unfold G9 at h
 simpa using h
theorem Im {n : Int} (h : n ≤ 72057594037927935) : (Gr n).length ≤ 8 := Em 7 _ (by omega)
theorem Oz {most : Nat} {l : List UInt8} {f : Nat} (h : (Bv most l f).2.2 = 0) : f = 0 ∧ (Bv most l f).1 ≤ most ∧ (Bv most l f).1 < 256 ∧ l = UInt8.ofNat (Bv most l f).1 :: (Bv most l f).2.1 := by
  by_cases hf : f = 0
  · subst hf
    unfold Bv at h ⊢
    rw [if_neg (by simp)] at h ⊢
    cases l with
    | nil => cases h
    | cons b r =>
      have hb := UInt8.toNat_lt b
      simp only at h ⊢
      by_cases hm : most < b.toNat
      · rw [if_pos hm] at h; cases h
      · rw [if_neg hm]
        exact ⟨trivial, by show b.toNat ≤ most; omega, hb, by simp⟩
  · rw [Ou hf] at h; exact absurd h hf
theorem NA {b : Bool} {most : Nat} {l : List UInt8} {f n f' : Nat} {l' : List UInt8} (h : XO b (CN most l f) l f = (n, l', f')) : n < 18446744073709551616 := by
  cases b with
  | true =>
    have h' : CN most l f = (n, l', f') := h
    have := K6 most l f
    rwa [h'] at this
  | false =>
    have h' : (0, l, f) = (n, l', f') := h
    simp only [Prod.mk.injEq] at h'
    rw [← h'.1]; decide
theorem Vt {b : Bool} {hi : Int} {lo sc f f' : Nat} {l l' : List UInt8} (h : XP b l f = ((hi, lo, sc), l', f')) : Ra hi ∧ lo < 18446744073709551616 ∧ sc < 256 := by
  cases b with
  | true =>
    have h' : WZ l f = ((hi, lo, sc), l', f') := h
    unfold WZ at h'
    simp only [Prod.mk.injEq] at h'
    obtain ⟨⟨rfl, rfl, rfl⟩, _⟩ := h'
    exact ⟨PR _ _, K6 _ _ _, Ly _ _ _⟩
  | false =>
    have h' : (((0 : Int), (0 : Nat), (0 : Nat)), l, f) = ((hi, lo, sc), l', f') := h
    simp only [Prod.mk.injEq] at h'
    obtain ⟨⟨rfl, rfl, rfl⟩, _⟩ := h'
    exact ⟨⟨by decide, by decide⟩, by decide, by decide⟩
theorem Rb {b : Bool} {x : List UInt8} {f f' : Nat} {l l' : List UInt8} (h : W3 b l f = (x, l', f')) : x.length ≤ 3 := by
  cases b with
  | true =>
    have h' : W2 l f = (x, l', f') := h
    unfold W2 at h'
    simp only [Prod.mk.injEq] at h'
    rw [← h'.1]; simp
  | false =>
    have h' : (([] : List UInt8), l, f) = (x, l', f') := h
    simp only [Prod.mk.injEq] at h'
    rw [← h'.1]; simp
theorem Read.ok {l l' : List UInt8} {c : CmdD} {f' : Nat} (h : Read l c l' f') : c.ok := by
 obtain ⟨n0, l0, f0, h0, n1, l1, f1, h1, n2, l2, f2, h2, n3, l3, f3, h3, n4, l4, f4, h4, hi, lo, sc, l5, f5, h5, x, l6, f6, h6, y, h7, rfl⟩ := h
 have b0 := Ly 11 l 0
 rw [h0] at b0
 have b1 := NA h1
 have b2 := NA h2
 have b3 := NA h3
 have b4 := NA h4
 obtain ⟨b5, b6, b7⟩ := Vt h5
 have b8 := Rb h6
 have b9 := Rb h7
 have b0 : n0 < 256 := b0
 exact ⟨⟨by simp only; omega, by simp only; omega⟩, ⟨by simp only; omega, by simp only; omega⟩, ⟨by simp only; omega, by simp only; omega⟩, ⟨by simp only; omega, by simp only; omega⟩, ⟨by simp only; omega, by simp only; omega⟩, b5, ⟨by simp only; omega, by simp only; omega⟩, ⟨by simp only; omega, by simp only; omega⟩, by simp only; omega, by simp only; omega⟩
theorem Read.one {l l1 l2 : List UInt8} {c1 c2 : CmdD} {f1 f2 : Nat} (h : Read l c1 l1 f1) (g : Read l c2 l2 f2) : c1 = c2 ∧ l1 = l2 ∧ f1 = f2 := by
 obtain ⟨n0, l0, f0, h0, n1, l1', f1', h1, n2, l2', f2', h2, n3, l3, f3, h3, n4, l4, f4, h4, hi, lo, sc, l5, f5, h5, x, l6, f6, h6, y, h7, rfl⟩ := h
 obtain ⟨m0, k0, g0, i0, m1, k1, g1, i1, m2, k2, g2, i2, m3, k3, g3, i3, m4, k4, g4, i4, hi', lo', sc', k5, g5, i5, x', k6, g6, i6, y', i7, rfl⟩ := g
 have e0 := h0.symm.trans i0; simp only [Prod.mk.injEq] at e0; obtain ⟨rfl, rfl, rfl⟩ := e0
 have e1 := h1.symm.trans i1; simp only [Prod.mk.injEq] at e1; obtain ⟨rfl, rfl, rfl⟩ := e1
 have e2 := h2.symm.trans i2; simp only [Prod.mk.injEq] at e2; obtain ⟨rfl, rfl, rfl⟩ := e2
 have e3 := h3.symm.trans i3; simp only [Prod.mk.injEq] at e3; obtain ⟨rfl, rfl, rfl⟩ := e3
 have e4 := h4.symm.trans i4; simp only [Prod.mk.injEq] at e4; obtain ⟨rfl, rfl, rfl⟩ := e4
 have e5 := h5.symm.trans i5; simp only [Prod.mk.injEq] at e5; obtain ⟨⟨rfl, rfl, rfl⟩, rfl, rfl⟩ := e5
 have e6 := h6.symm.trans i6; simp only [Prod.mk.injEq] at e6; obtain ⟨rfl, rfl, rfl⟩ := e6
 have e7 := h7.symm.trans i7; simp only [Prod.mk.injEq] at e7; obtain ⟨rfl, rfl, rfl⟩ := e7
 exact ⟨rfl, rfl, rfl⟩
theorem Decoded.one {l : List UInt8} {c1 c2 : CmdD} {e1 e2 : Nat} (h : Decoded l c1 e1) (g : Decoded l c2 e2) : c1 = c2 ∧ e1 = e2 := by
  rcases h.is with ⟨h1, h2, h3⟩ | ⟨h1, a, b, d, ⟨hr⟩, h2⟩ <;> rcases g.is with ⟨g1, g2, g3⟩ | ⟨g1, a', b', d', ⟨gr⟩, g2⟩
  · exact ⟨h2.trans g2.symm, h3.trans g3.symm⟩
  · omega
  · omega
  · obtain ⟨rfl, rfl, rfl⟩ := hr.one gr
    rcases h2 with ⟨p, q, r⟩ | ⟨p, q, r, t⟩ | ⟨p, q, r, t⟩ <;> rcases g2 with ⟨p', q', r'⟩ | ⟨p', q', r', t'⟩ | ⟨p', q', r', t'⟩
    all_goals first
      | exact ⟨q.trans q'.symm, r.trans r'.symm⟩
      | exact ⟨r.trans r'.symm, t.trans t'.symm⟩
      | exact absurd p' p
      | exact absurd p p'
      | (rw [q] at q'; cases q')
end Go.Proofs.YtjcfimmcogkopaaGreatDoor
namespace Go.Proofs.YtjcfimmcogkopaaGreatDoor.Sep
open Go.RowKit
open Go.Proofs.YtjcfimmcogkopaaGreatDoor.Mem (Bb Ci Chg Aw)
theorem OA (l : List UInt8) : flat encB l = MK l := by
  induction l with
  | nil => rfl
  | cons x l ih => rw [D6, ih]; rfl
def Ew (w : World) (v : Value) (l : List UInt8) : Prop := ∃ A c, v = .slice A l.length c ∧ Bs (fun _ => True) w A c l
section
variable {u w w0 : World} {v : Value} {l : List UInt8} {X : Ass} {B : Nat → Prop} {os : List Ass} {rs : List RowT}
theorem Ew.below (h : Ew u v l) (hb : Below u.heap.size u w) : Ew w v l := by
 obtain ⟨A, c, e, h⟩ := h
 exact ⟨A, c, e, h.old hb⟩
theorem Ew.rd (h : Ew w v l) : DP w 1 v l.length (flat encB l) := by
  obtain ⟨A, c, rfl, h⟩ := h
  refine ⟨by rw [OA, FI, Nat.mul_one], A, c, rfl, ?_⟩
  rcases Nat.eq_zero_or_pos l.length with h0 | h0
  · cases A with
    | none => exact .inl ⟨rfl, h0⟩
    | some a =>
      refine .inr ⟨a, rfl, fun j x hx => ?_⟩
      rw [OA] at hx
      have := (List.getElem?_eq_some_iff.1 hx).1
      rw [FI] at this
      omega
  · obtain ⟨g, o, rfl, _, hc⟩ := h.2.2 h0
    refine .inr ⟨_, rfl, fun j x hx => ?_⟩
    rw [OA] at hx
    obtain ⟨b, hb, rfl⟩ := QY hx
    rw [Addr.add_lit]
    exact hc j b hb
theorem Ew.cells (h : Ew w v l) : v.cells = #[v] := by
 obtain ⟨A, c, rfl, _⟩ := h
 rfl
theorem EC (h : Ew u v l) (hU : Below u.heap.size u w0) (hS : ∀ k, B k → u.heap.size ≤ k) (hH : Hp B w0 w os) : Ew w v l := by
 have hm : Below u.heap.size w0 w := hH.up.below hU.size hS
 exact h.below (hU.trans hm)
theorem Jw {base : Nat} (h : G6 5 w base v l) : ∃ rs, Aj 5 1 encB v l rs ∧ RowsOf w rs ∧ Bb rs ∧ ∀ x ∈ rs, At v x.1 ∧ base ≤ x.1 := by
  obtain ⟨h1, h2⟩ := h
  rcases h2 with ⟨hv, hn⟩ | ⟨g, cap, cur, hv, hb, hg, hnc, hm, hs, ht⟩
  · exact ⟨[], .inl ⟨hv, List.eq_nil_of_length_eq_zero hn, rfl⟩, trivial, trivial, fun x hx => by cases hx⟩
  · refine ⟨[(g, Fa 5, cur)], .inr ⟨g, cap, cur, hv, hnc, hm, hs, by rw [OA]; exact ht, rfl⟩, ⟨hg, trivial⟩, ⟨(fun _ h => by cases h), trivial⟩, fun x hx => ?_⟩
    have : x = (g, Fa 5, cur) := by simpa using hx
    subst this
    exact ⟨by rw [hv]; rfl, hb⟩
theorem Rc (h : Aj 5 1 encB v l rs) (hr : RowsOf w rs) : G6 5 w 0 v l := by
  refine ⟨by rw [FI, Nat.mul_one], ?_⟩
  rcases h with ⟨h1, h2, _⟩ | ⟨g, c, cs, h1, h2, h3, h4, h5, h6⟩
  · exact .inl ⟨h1, by rw [h2]; rfl⟩
  · subst h6
    exact .inr ⟨g, c, cs, h1, Nat.zero_le _, hr.1, h2, h3, h4, by rw [← OA]; exact h5⟩
theorem In (h : Aj 5 1 encB v l rs) (hr : RowsOf w rs) : Ew w v l := by
 obtain ⟨A, c, e, hb⟩ := (Rc h hr).form
 exact ⟨A, c, e, hb.weaken fun _ _ _ => trivial⟩
theorem Hp.sl8 (h : Hp B w0 w os) (i : Nat) (hi : os[i]? = some (Aj 5 1 encB v l)) : Ew w v l := by
 obtain ⟨rs, h1, h2⟩ := h.thing i hi
 exact In h1 h2
def EN (X : Ass) (v : Value) (l : List UInt8) : Prop := ∀ rs w, X rs → RowsOf w rs → Ew w v l
theorem EN.rd (h : EN X v l) : Rd X 1 encB v l := fun rs w h1 h2 => (h rs w h1 h2).rd
theorem D7 : EN (Aj 5 1 encB v l) v l := fun _ _ h1 h2 => In h1 h2
theorem EN.drop {A : Option Addr} {c k : Nat} (h : EN X (.slice A l.length c) l) (hk : k ≤ l.length) : EN X (.slice (if c = k then A else A.map (·.add k)) (l.drop k).length (c - k)) (l.drop k) := fun rs w h1 h2 => by
  obtain ⟨A', c', e, hb⟩ := h rs w h1 h2
  simp only [Value.slice.injEq] at e
  obtain ⟨rfl, _, rfl⟩ := e
  exact ⟨_, _, rfl, hb.drop hk⟩
theorem Lz {A : Option Addr} {n c k : Nat} (hl : l.length - k = n) (hn : l.length = n + k) : Cu 1 (.slice A l.length c) k l.length = .slice (if c = k then A else A.map (·.add k)) n (c - k) := by
  show Value.slice (if c = k then A else A.map (·.add (k * 1))) (l.length - k) (c - k) = _
  rw [Nat.mul_one, hl]
theorem Hp.rd8 (h : Hp B w0 w os) (i : Nat) (hi : os[i]? = some X) (hu : EN X v l) : Ew w v l := by
 obtain ⟨rs, h1, h2⟩ := h.thing i hi
 exact hu rs w h1 h2
end
section
variable {P : Program} {F : FuncId} {args : Array Value} {l : List UInt8} {X : Ass} {u : World}
theorem K8 {w w' : World} {rs rs' : List RowT} (hr : RowsOf w rs) (hd : Bb rs) (hb : Below w.heap.size w w') (h1 : RowsOf w' rs') (h2 : Bb rs') (h3 : ∀ x ∈ rs', w.heap.size ≤ x.1) : Chg w w' rs (rs ++ rs') := by
  refine ⟨Mod.of_below hb _, BC.2 fun x hx => ?_, Mem.dist_app hd h2 fun x hx y hy e => ?_, fun x hx hlt => ?_⟩
  · rcases List.mem_append.1 hx with h | h
    · exact (hr.mem x h).below hb (hr.mem x h).lt
    · exact h1.mem x h
  · have := (hr.mem x hx).lt
    have := h3 y hy
    omega
  · rcases List.mem_append.1 hx with h | h
    · exact ⟨x, h, rfl⟩
    · have := h3 x h
      omega
theorem MQ (h : ∀ w rs, X rs → RowsOf w rs → Calls P F args w fun e w' => ∃ v', e = .returned v' ∧ G6 5 w' w.heap.size v' l ∧ Below w.heap.size w w') : AV P F args [X] (fun v : Value => v) (fun v => [X, Aj 5 1 encB v l]) := fun w rs h1 h2 h3 => by
 have hX := h1.one'
 refine (h w rs hX h2).mono ?_
 rintro e w' ⟨v, he, ho, hb⟩
 obtain ⟨rs', hv, hr, hd, hx⟩ := Jw ho
 exact ⟨v, he, rs ++ rs', ⟨rs, rs', rfl, hX, Am.one hv⟩, K8 h2 h3 hb hr hd fun x h => (hx x h).2⟩
theorem Sg (h : ∀ w, Below u.heap.size u w → Calls P F args w fun e w' => ∃ v', e = .returned v' ∧ G6 5 w' w.heap.size v' l ∧ Below w.heap.size w w') : ER u P F args [] (fun v : Value => v) (fun v => [Aj 5 1 encB v l]) := fun w rs hU _ h1 h2 h3 => by
 unfold Am at h1
 subst h1
 refine (h w hU).mono ?_
 rintro e w' ⟨v, he, ho, hb⟩
 obtain ⟨rs', hv, hr, hd, hx⟩ := Jw ho
 exact ⟨v, he, rs', Am.one hv, by simpa using K8 (rs := []) trivial trivial hb hr hd fun x h => (hx x h).2⟩
end
theorem FU {X : Ass} {v : Value} {l : List UInt8} (h : EN X v l) (hl : l.length ≤ 140737488355328) : AV Tryz.prog 78 #[v] [X] (fun v : Value => v) (fun v => [X, Aj 5 1 encB v l]) :=
 MQ fun w rs h1 h2 => by
  obtain ⟨A, c, rfl, hb⟩ := h rs w h1 h2
  exact J5 w A c l hb hl
theorem Vu (u : World) {v : Value} {l : List UInt8} (h : Ew u v l) (hl : l.length ≤ 140737488355328) : ER u Tryz.prog 78 #[v] [] (fun v : Value => v) (fun v => [Aj 5 1 encB v l]) :=
 Sg fun w hU => by
  obtain ⟨A, c, rfl, hb⟩ := h.below hU
  exact J5 w A c l hb hl
def ME (g : Nat) (l : List UInt8) : Ass := fun rs => ∃ v, Am [cell g 218 #[v], Aj 5 1 encB v l] rs
theorem PX {w : World} {rs : List RowT} {g : Nat} {l : List UInt8} (h : ME g l rs) (hr : RowsOf w rs) : ∃ v rv, rs = (g, Fa 218, #[v]) :: rv ∧ Aj 5 1 encB v l rv ∧ Or w g v l := by
 obtain ⟨v, a, b, rfl, h1, h2⟩ := h
 unfold cell at h1
 subst h1
 have h3 := h2.one'
 exact ⟨v, b, rfl, h3, hr.1, Rc h3 hr.2⟩
theorem Re {F : FuncId} {args : Array Value} {g : Nat} {l m : List UInt8} (h : ∀ w v, Or w g v l → Calls Tryz.prog F args w fun e w' => ∃ v', e = .returned (.tuple #[]) ∧ Or w' g v' m ∧ Mod (IV g v) w w' ∧ ∀ k, At v' k → At v k ∨ w.heap.size ≤ k) : AV Tryz.prog F args [ME g l] (fun _ : Unit => .tuple #[]) (fun _ => [ME g m]) := fun w rs h1 h2 h3 => by
  obtain ⟨v, rv, rfl, hv, hw⟩ := PX h1.one' h2
  refine (h w v hw).mono ?_
  rintro e w' ⟨v', he, hw', hm, ha⟩
  obtain ⟨rs', hv', hr', hd', hx⟩ := Jw hw'.2
  have hblk : ∀ k, IV g v k → k < w.heap.size → Ci ((g, Fa 218, #[v]) :: rv) k := by
    rintro k (rfl | hk) _
    · exact ⟨_, List.mem_cons_self, rfl⟩
    · rcases hv with ⟨e1, _, _⟩ | ⟨g', c, cs, e1, _, _, _, _, e6⟩
      · subst e1; exact absurd hk At.none
      · subst e1; subst e6
        exact ⟨(g', Fa 5, cs), by simp, (At.iff.1 hk).symm⟩
  refine ⟨(), he, (g, Fa 218, #[v']) :: rs', Am.one ⟨v', [(g, Fa 218, #[v'])], rs', rfl, rfl, Am.one hv'⟩, hm.weaken fun k hk hf => hblk k hf hk, ⟨hw'.1, hr'⟩, ⟨fun y hy e => hw'.2.ne_row hw'.1 (by decide) ((show y.1 = g from e) ▸ (hx y hy).1), hd'⟩, fun x hxm hlt => ?_⟩
  rcases List.mem_cons.1 hxm with rfl | hxm
  · exact ⟨_, List.mem_cons_self, rfl⟩
  · rcases ha _ (hx x hxm).1 with h | h
    · exact hblk _ (.inr h) hlt
    · omega
theorem W4 : AV Tryz.prog 138 #[] [] (fun g : Nat => .pointer (some ⟨g, 0, none⟩)) (fun g => [ME g []]) := fun w rs h1 _ _ => by
  unfold Am at h1
  subst h1
  refine (MI w).mono ?_
  rintro e w' ⟨p, he, hp, hw, hb⟩
  obtain ⟨rs', hv', hr', hd', hx⟩ := Jw hw.2
  refine ⟨p, he, (p, Fa 218, #[.slice none 0 0]) :: rs', Am.one ⟨_, [(p, Fa 218, #[.slice none 0 0])], rs', rfl, rfl, Am.one hv'⟩, ?_⟩
  have h0 : ∀ y ∈ rs', False := fun y hy => At.none (hx y hy).1
  refine ⟨Mod.of_below hb _, ⟨hw.1, hr'⟩, ⟨fun y hy => (h0 y hy).elim, hd'⟩, fun x hxm hlt => ?_⟩
  rcases List.mem_cons.1 hxm with rfl | hxm
  · omega
  · exact (h0 x hxm).elim
theorem Rf (g : Nat) (l : List UInt8) (n : Int) (hn : 0 ≤ n ∧ n < 256) (r : List UInt8) (hr : l ++ [UInt8.ofNat n.toNat] = r) (hl : l.length + 1 ≤ 140737488355328) : AV Tryz.prog 139 #[.pointer (some ⟨g, 0, none⟩), .int .u8 n] [ME g l] (fun _ : Unit => .tuple #[]) (fun _ => [ME g r]) := by
 subst hr
 have e : n = ((UInt8.ofNat n.toNat).toNat : Int) := by rw [K7 _ (by omega)]; omega
 generalize UInt8.ofNat n.toNat = b at e ⊢
 subst e
 exact Re fun w v hw => Lw w g v l b hw hl
theorem TK (g : Nat) (l : List UInt8) (n : Int) (hn : PE n) (r : List UInt8) (hr : l ++ Gr n = r) (hl : l.length + 10 ≤ 140737488355328) : AV Tryz.prog 140 #[.pointer (some ⟨g, 0, none⟩), .int .u64 n] [ME g l] (fun _ : Unit => .tuple #[]) (fun _ => [ME g r]) := by
 subst hr
 have e : n = (n.toNat : Int) := by have := hn.1; omega
 have h2 : n.toNat < 18446744073709551616 := by have := hn.2; omega
 unfold Gr
 generalize n.toNat = m at e h2 ⊢
 subst e
 exact Re fun w v hw => IH w g v l m hw h2 hl
theorem LA (g : Nat) (l : List UInt8) (hl : l.length ≤ 140737488355328) : AV Tryz.prog 142 #[.pointer (some ⟨g, 0, none⟩)] [ME g l] (fun v : Value => v) (fun v => [ME g l, Aj 5 1 encB v l]) :=
 MQ fun w rs h1 h2 => by
  obtain ⟨v, rv, rfl, hv, hw⟩ := PX h1 h2
  exact K1 w g v l hw hl
section
variable {u : World} {B : Value} {b l l' : List UInt8} {g f f' : Nat} {F : FuncId} {args : Array Value} {val : Value}
end
def Ef (g : Nat) (l : List UInt8) (f : Nat) : Ass := fun rs => ∃ (X : Ass) (A : Option Addr) (c : Nat), EN X (.slice A l.length c) l ∧ l.length ≤ 140737488355328 ∧ Am [cell g 221 #[.slice A l.length c, .int .i64 (f : Int)], X] rs
theorem Ef.open_ {g f : Nat} {l : List UInt8} : ∀ rs, Ef g l f rs → ∃ x : { x : Ass × Option Addr × Nat // EN x.1 (.slice x.2.1 l.length x.2.2) l ∧ l.length ≤ 140737488355328 }, Am [cell g 221 #[.slice x.1.2.1 l.length x.1.2.2, .int .i64 (f : Int)], x.1.1] rs :=
 fun _ ⟨X, A, c, h1, h2, h3⟩ => ⟨⟨(X, A, c), h1, h2⟩, h3⟩
theorem Ef.mk_ {g f : Nat} {l : List UInt8} {X : Ass} {A : Option Addr} {n c : Nat} (hn : l.length = n) (h1 : EN X (.slice A l.length c) l) (h2 : l.length ≤ 140737488355328) : ∀ rs, Am [cell g 221 #[.slice A n c, .int .i64 (f : Int)], X] rs → Ef g l f rs :=
 fun _ h3 => by subst hn; exact ⟨X, A, c, h1, h2, h3⟩
end Go.Proofs.YtjcfimmcogkopaaGreatDoor.Sep
