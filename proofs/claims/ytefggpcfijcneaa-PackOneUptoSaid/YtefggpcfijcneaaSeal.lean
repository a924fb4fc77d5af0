/-
  The program's Seal and Unseal.
-/
import Derived.Test.YtefggpcfijcneaaSum
import Derived.Deep.QuietTactic
import Derived.BigQuiet
namespace Go.Proofs.Ytefggpcfijcneaa
open Go.RowKit

/-- a sum's four bytes, the least significant one first -/
def le4 (h : Nat) : List UInt8 := [UInt8.ofNat (h % 256), UInt8.ofNat (h / 256 % 256), UInt8.ofNat (h / 65536 % 256), UInt8.ofNat (h / 16777216 % 256)]
def sealed (l : List UInt8) : List UInt8 := l ++ le4 (crcSum l)
theorem ofNat_byte (n : Nat) : (UInt8.ofNat (n % 256)).toNat = n % 256 := by simp [UInt8.toNat_ofNat']

theorem le4_src (w : World) (s : Nat) (hs : s < 4294967296) :
    Bs (One w.heap.size) (w.alloc (.cells #[.int .u8 ((s : Int) % 256), .int .u8 ((s : Int) / 256 % 256), .int .u8 ((s : Int) / 65536 % 256), .int .u8 ((s : Int) / 16777216)] 5)) (some ⟨w.heap.size, 0, none⟩) 4 (le4 s) := by
  have h := new_src w 5 (le4 s) (by simp [le4, maxLen])
  have e : (u8s (le4 s)).toArray = #[.int .u8 ((s : Int) % 256), .int .u8 ((s : Int) / 256 % 256), .int .u8 ((s : Int) / 65536 % 256), .int .u8 ((s : Int) / 16777216)] := by
    have e0 : ((s % 256 : Nat) : Int) = (s : Int) % 256 := by omega
    have e1 : ((s / 256 % 256 : Nat) : Int) = (s : Int) / 256 % 256 := by omega
    have e2 : ((s / 65536 % 256 : Nat) : Int) = (s : Int) / 65536 % 256 := by omega
    have e3 : ((s / 16777216 % 256 : Nat) : Int) = (s : Int) / 16777216 := by omega
    simp only [u8s, le4, List.map_cons, List.map_nil, u8v, ofNat_byte, e0, e1, e2, e3]
  rw [e] at h
  exact h

theorem seal_any {S : Nat → Prop} (w : World) (A : Option Addr) (c : Nat) (l : List UInt8) (h : Bs S w A c l) (hl : l.length + 4 ≤ 140737488355328) :
    Calls Try.prog 19 #[.slice A l.length c] w fun e w' => ∃ v', e = .returned v' ∧ Own 5 w' w.heap.size v' (sealed l) ∧ Below w.heap.size w w' := by
  obtain ⟨i0, hi, hz0, hz1, hz2⟩ := info_parts tyU8.info
  have hb0 : i0.bytes * (l.length + 4) ≤ 281474976710656 := by rw [hz2]; omega
  have hs := crcSum_lt l
  obtain ⟨s, hss⟩ : ∃ s, s = crcSum l := ⟨_, rfl⟩
  rw [← hss] at hs
  have hle : sealed l = l ++ le4 s := by unfold sealed; rw [hss]
  rw [hle]
  have HS := hid hss
  clear hss hle
  go_enter Try.func19, Try.ntmps19
  go_wp2_with (first
    | (at_make; refine wpList_make_own _ rfl _ _ 24 rfl w.heap.size 5 i0 (.int .u8 0) 1 Try.underlying24 hi hz0 hz1 .i64 .i64 _ (l.length + 4) rfl rfl (by simp) hb0 (by unfold maxLen; omega) (Nat.le_refl _) ?_; intro w1 ho1' hg1; have ho1 : Own 5 w1 w.heap.size (.slice (some ⟨w.heap.size, 0, none⟩) 0 (l.length + 4)) [] := ho1'; have hm1 : Mod Nil w w1 := Mod.of_grown hg1 (fun _ h => by cases h); have hb1 := h.mod hm1 (fun _ _ hf => hf))
    | (at_builtin; refine wpList_append_bs (t := 24) tyU8 rfl (.tmp 9) (.tmp 10) rfl ho1 hm1.size hb1 l.length (by simp) rfl rfl (by omega) ?_; intro A2 c2 w2 ho2 hm2 ha2; have hmw := hm1.trans hm2 (fun k hk e => by rw [At.iff] at e; omega); have hb2 := h.mod hmw (fun _ _ hf => hf); have hB2 : w.heap.size ≤ (w2.alloc (.cells #[.int .u8 ((s : Int) % 256), .int .u8 ((s : Int) / 256 % 256), .int .u8 ((s : Int) / 65536 % 256), .int .u8 ((s : Int) / 16777216)] 5)).heap.size := Nat.le_trans hmw.size (by simp))
    | (go_at_call 21; refine (sum_any w2 A c l hb2 (by omega)).mono ?_; rintro e w' ⟨rfl, rfl⟩; rw [← HS.out])
    | (at_builtin; refine wpList_append_bs (t := 24) tyU8 rfl (.tmp 14) (.tmp 26) rfl (ho2.mod ((Mod.refl Nil w2).alloc _) (fun _ _ hf => hf)) hB2 (le4_src w2 s hs) (l.length + 4) (by simp [le4]) rfl rfl hl ?_; intro A3 c3 w3 ho3 hm3 ha3))
  go_ret
  refine ⟨_, rfl, by simpa using ho3, ?_⟩
  refine ((hmw.alloc _).trans hm3 (fun k hk e => ?_)).below (Nat.le_refl _) (fun _ hf => hf.elim)
  have := (ho2.lt k e).1
  omega

/-- what is unsealed, and what is wrong -/
def unsealed (l : List UInt8) : List UInt8 × Nat :=
  if l.length < 4 then ([], 10)
  else if l.drop (l.length - 4) = le4 (crcSum (l.take (l.length - 4))) then (l.take (l.length - 4), 0) else ([], 13)

theorem le4_four (b0 b1 b2 b3 : UInt8) (s : Nat) (hs : s < 4294967296) : [b0, b1, b2, b3] = le4 s ↔ b0.toNat + b1.toNat * 256 + b2.toNat * 65536 + b3.toNat * 16777216 = s := by
  have h0 := UInt8.toNat_lt b0
  have h1 := UInt8.toNat_lt b1
  have h2 := UInt8.toNat_lt b2
  have h3 := UInt8.toNat_lt b3
  unfold le4
  simp only [List.cons.injEq, and_true, ← UInt8.toNat_inj, ofNat_byte]
  omega

theorem unseal_any {S : Nat → Prop} (w : World) (A : Option Addr) (c : Nat) (l : List UInt8) (h : Bs S w A c l) (hl : l.length ≤ 140737488355328) :
    Calls Try.prog 18 #[.slice A l.length c] w fun e w' => ∃ v', e = .returned (.tuple #[v', .int .i64 ((unsealed l).2 : Int)]) ∧ Own 5 w' w.heap.size v' (unsealed l).1 ∧ Below w.heap.size w w' := by
  by_cases hs : l.length < 4
  · have hE : unsealed l = ([], 10) := by unfold unsealed; rw [if_pos hs]
    rw [hE]
    clear hE
    go_enter Try.func18, Try.ntmps18
    go_wp2
    go_ret2
    exact ⟨_, rfl, Own.nil _ _ _, Below.refl _ _⟩
  · obtain ⟨n, hn⟩ : ∃ n, l.length = n + 4 := ⟨l.length - 4, by omega⟩
    obtain ⟨A1, hb1, hsl1⟩ := run_from tyU8 h n (by omega)
    obtain ⟨A2, hb2, hsl2⟩ := run_upto tyU8 h n (by omega)
    have hd : (l.drop n).length = 4 := by rw [List.length_drop]; omega
    have ht : (l.take n).length = n := by rw [List.length_take]; omega
    have hE : unsealed l = if l.drop n = le4 (crcSum (l.take n)) then (l.take n, 0) else ([], 13) := by
      unfold unsealed; rw [if_neg hs, hn]; rfl
    obtain ⟨g, o, rfl, _, hc⟩ := hb1.2.2 (by omega)
    obtain ⟨b0, b1, b2, b3, hbs⟩ : ∃ b0 b1 b2 b3, l.drop n = [b0, b1, b2, b3] := by
      match l.drop n, hd with
      | [b0, b1, b2, b3], _ => exact ⟨b0, b1, b2, b3, rfl⟩
    rw [hbs] at hc hE hsl1
    have c0 := hc 0 b0 rfl
    have c1 := hc 1 b1 rfl
    have c2 := hc 2 b2 rfl
    have c3 := hc 3 b3 rfl
    unfold u8v at c0 c1 c2 c3
    rw [Nat.add_zero] at c0
    have hsl := crcSum_lt (l.take n)
    simp only [le4_four b0 b1 b2 b3 _ hsl] at hE
    obtain ⟨x0, e0⟩ : ∃ x, x = b0.toNat := ⟨_, rfl⟩
    obtain ⟨x1, e1⟩ : ∃ x, x = b1.toNat := ⟨_, rfl⟩
    obtain ⟨x2, e2⟩ : ∃ x, x = b2.toNat := ⟨_, rfl⟩
    obtain ⟨x3, e3⟩ : ∃ x, x = b3.toNat := ⟨_, rfl⟩
    have h0 : x0 < 256 := by rw [e0]; exact UInt8.toNat_lt _
    have h1 : x1 < 256 := by rw [e1]; exact UInt8.toNat_lt _
    have h2 : x2 < 256 := by rw [e2]; exact UInt8.toNat_lt _
    have h3 : x3 < 256 := by rw [e3]; exact UInt8.toNat_lt _
    rw [← e0, ← e1, ← e2, ← e3] at hE
    rw [← e0] at c0
    rw [← e1] at c1
    rw [← e2] at c2
    rw [← e3] at c3
    have hor := u32_four x0 x1 x2 x3 h0 h1 h2 h3
    obtain ⟨X, hX⟩ : ∃ X, X = x0 + x1 * 256 + x2 * 65536 + x3 * 16777216 := ⟨_, rfl⟩
    obtain ⟨s, hss⟩ : ∃ s, s = crcSum (l.take n) := ⟨_, rfl⟩
    rw [← hX] at hor hE
    rw [← hss] at hE hsl
    clear e0 e1 e2 e3
    have hCS : ∀ q, Calls Try.prog 21 #[.slice A2 n c] (w.drewN q) fun e w' => e = .returned (.int .u32 (s : Int)) ∧ w.drewN q = w' := fun q => by
      have := sum_any (w.drewN q) A2 c (l.take n) hb2 (by omega)
      rw [ht, ← hss] at this
      exact this
    have hCC : ∀ q, Calls Try.prog 37 #[.slice A2 n c] (w.drewN q) fun e w' => ∃ v', e = .returned v' ∧ Own 5 w' w.heap.size v' (l.take n) ∧ Below w.heap.size w w' := fun q => by
      have := clone_any (w.drewN q) A2 c (l.take n) hb2 (by omega)
      rw [ht] at this
      exact this.mono fun e w' ⟨v', h1, h2, h3⟩ => ⟨v', h1, h2, ⟨h3.os, h3.tape, h3.output, h3.size, h3.block⟩⟩
    rw [ht] at hsl2
    have HCS := hid hCS
    have HCC := hid hCC
    have HX := hid hX
    have HSS := hid hss
    clear hCS hCC hc hb1 hb2 hbs ht hd hX hss
    rw [hn] at hsl1 hsl2
    simp only [List.length_cons, List.length_nil] at hsl1
    have hs4 : ¬ n + 4 < 4 := by omega
    have hl4 : n + 4 ≤ 140737488355328 := by omega
    rw [hn]
    clear hs hl
    have HN := hid hn
    clear hn
    by_cases hXs : X = s
    · rw [if_pos hXs] at hE
      have HE := hid hE
      clear hE
      subst hXs
      go_enter Try.func18, Try.ntmps18
      go_wp2_with fail
      go_quiet (fail)
      go_wp2_with (first
        | (go_at_call 21; refine Calls.mono (HCS.out _) ?_; rintro e w' ⟨rfl, rfl⟩)
        | (go_at_call 37; refine Calls.mono (HCC.out _) ?_; rintro e w' ⟨v', rfl, ho, hb⟩))
      go_ret2
      rw [HE.out]
      exact ⟨_, rfl, ho, hb⟩
    · rw [if_neg hXs] at hE
      have HE := hid hE
      have hXs' : ((X : Int) != (s : Int)) = true := by simp; omega
      clear hE
      go_enter Try.func18, Try.ntmps18
      go_wp2_with fail
      go_quiet (fail)
      go_wp2_with (go_at_call 21; refine Calls.mono (HCS.out _) ?_; rintro e w' ⟨rfl, rfl⟩)
      go_ret2
      rw [HE.out]
      exact ⟨_, rfl, Own.nil _ _ _, ⟨rfl, rfl, rfl, Nat.le_refl _, fun _ _ => rfl⟩⟩

theorem le4_inj {s t : Nat} (hs : s < 4294967296) (ht : t < 4294967296) (h : le4 s = le4 t) : s = t := by
  unfold le4 at h
  simp only [List.cons.injEq, and_true, ← UInt8.toNat_inj, ofNat_byte] at h
  omega
theorem crcSum_set (l : List UInt8) (k : Nat) (hk : k < l.length) (b : UInt8) (hb : b ≠ l[k]) : crcSum (l.set k b) ≠ crcSum l := by
  have h1 : l = l.take k ++ l[k] :: l.drop (k + 1) := by rw [← List.drop_eq_getElem_cons hk, List.take_append_drop]
  have h2 : l.set k b = l.take k ++ b :: l.drop (k + 1) := by rw [List.set_eq_take_append_cons_drop, if_pos hk]
  rw [h2]
  conv => rhs; rw [h1]
  exact crcSum_ne hb
/-- what was sealed and has one byte turned -/
theorem unsealed_turned (l : List UInt8) (k : Nat) (hk : k < (sealed l).length) (b : UInt8) (hb : b ≠ (sealed l)[k]) : unsealed ((sealed l).set k b) = ([], 13) := by
  have hlen : (sealed l).length = l.length + 4 := by simp [sealed, le4]
  have hl4 : (le4 (crcSum l)).length = 4 := rfl
  have hs := crcSum_lt l
  unfold unsealed
  rw [List.length_set, hlen, if_neg (by omega), Nat.add_sub_cancel, if_neg]
  unfold sealed at hk hb ⊢
  intro h
  by_cases hkl : k < l.length
  · rw [List.set_append_left _ _ hkl, List.drop_left' (by simp), List.take_left' (by simp)] at h
    rw [List.getElem_append_left hkl] at hb
    exact crcSum_set l k hkl b hb (le4_inj (crcSum_lt _) hs h.symm)
  · rw [List.set_append_right _ _ (by omega), List.drop_left, List.take_left] at h
    rw [List.getElem_append_right (by omega)] at hb
    have h2 := congrArg (fun x : List UInt8 => x[k - l.length]?) h
    have hk4 : k - l.length < (le4 (crcSum l)).length := by rw [List.length_append] at hk; omega
    rw [List.getElem?_set_self hk4, List.getElem?_eq_getElem hk4] at h2
    exact hb (Option.some.inj h2)
theorem xor_u8 (b : UInt8) (z : Nat) (hz : z < 256) : bits .xor .u8 (b.toNat : Int) (z : Int) = ((b ^^^ UInt8.ofNat z).toNat : Int) := by
  have hb := UInt8.toNat_lt b
  have hx : b.toNat ^^^ z < 2 ^ 8 := Nat.xor_lt_two_pow (by omega) (by omega)
  show IntKind.u8.wrap ((BitVec.ofInt 8 (b.toNat : Int) ^^^ BitVec.ofInt 8 (z : Int)).toNat : Int) = _
  rw [BitVec.ofInt_natCast, BitVec.ofInt_natCast, BitVec.toNat_xor, BitVec.toNat_ofNat, BitVec.toNat_ofNat, Nat.mod_eq_of_lt (by omega), Nat.mod_eq_of_lt (by omega), IntKind.wrap_u8, UInt8.toNat_xor, UInt8.toNat_ofNat', Nat.mod_eq_of_lt (by omega : z < 2 ^ 8)]
  omega
theorem xor_ne (b : UInt8) (z : Nat) (hz : z < 256) (h0 : z ≠ 0) : b ^^^ UInt8.ofNat z ≠ b := by
  intro h
  have h2 := congrArg UInt8.toNat h
  rw [UInt8.toNat_xor, UInt8.toNat_ofNat', Nat.mod_eq_of_lt (by omega : z < 2 ^ 8)] at h2
  have h3 := congrArg (b.toNat ^^^ ·) h2
  simp only [← Nat.xor_assoc, Nat.xor_self, Nat.zero_xor] at h3
  omega
end Go.Proofs.Ytefggpcfijcneaa
