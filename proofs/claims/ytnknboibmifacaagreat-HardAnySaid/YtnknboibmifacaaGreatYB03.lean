/-
  Crc · Sum · Seal · RefSum · RefText · Reader · Mk · RpcM · RpcN · RpcF · RpcA · RpcB · RpcC · App · Bld · RpcD · DskS · DskW
-/
import Derived.Test.YtnknboibmifacaaGreatYA05
import Derived.Test.YtnknboibmifacaaGreatYA06
import Derived.Test.YtnknboibmifacaaGreatYA07
import Derived.Test.YtnknboibmifacaaGreatYB01
import Derived.Test.YtnknboibmifacaaGreatYB02
import Derived.Deep.QuietTactic
import Derived.BigQuiet
import Derived.Deep.RegionHeld3
set_option linter.unusedSimpArgs false
set_option linter.unusedVariables false
namespace Go.Proofs.YtnknboibmifacaaGreat
open Go.RowKit
def PZ : BitVec 32 := 2197175160#32
def H5 (h : BitVec 32) : BitVec 32 := (h >>> 1) ^^^ (if h.getLsbD 0 then PZ else 0#32)
def Fo : Nat → BitVec 32 → BitVec 32
  | 0, h => h
  | n + 1, h => H5 (Fo n h)
def Mu (h : BitVec 32) (c : UInt8) : BitVec 32 := Fo 8 (h ^^^ BitVec.ofNat 32 c.toNat)
def Eb (h : BitVec 32) (l : List UInt8) : BitVec 32 := l.foldl Mu h
def BG (l : List UInt8) : Nat := (~~~ Eb (BitVec.allOnes 32) l).toNat
theorem Lx (a : Nat) (ha : a < 4294967296) : BitVec.ofInt 32 (a : Int) = BitVec.ofNat 32 a := BitVec.ofInt_natCast ..
theorem J0 (a b : BitVec 32) : bits .xor .u32 (a.toNat : Int) (b.toNat : Int) = ((a ^^^ b).toNat : Int) := by
 show IntKind.u32.wrap ((BitVec.ofInt 32 (a.toNat : Int) ^^^ BitVec.ofInt 32 (b.toNat : Int)).toNat : Int) = _
 rw [BitVec.ofInt_natCast, BitVec.ofInt_natCast, BitVec.ofNat_toNat, BitVec.ofNat_toNat, BitVec.setWidth_eq, BitVec.setWidth_eq, IntKind.wrap_u32]
 have := (a ^^^ b).isLt
 omega
theorem GB (a : BitVec 32) : bits .and .u32 (a.toNat : Int) 1 = if a.getLsbD 0 then 1 else 0 := by
  show IntKind.u32.wrap ((BitVec.ofInt 32 (a.toNat : Int) &&& BitVec.ofInt 32 1).toNat : Int) = _
  have h1 : BitVec.ofInt 32 1 = 1#32 := by decide
  rw [BitVec.ofInt_natCast, BitVec.ofNat_toNat, BitVec.setWidth_eq, h1, BitVec.toNat_and, IntKind.wrap_u32]
  have e : a.toNat &&& (1#32).toNat = a.toNat % 2 := Nat.and_one_is_mod _
  rw [e]
  have e2 : a.getLsbD 0 = decide (a.toNat % 2 = 1) := by simp [BitVec.getLsbD, Nat.testBit_zero]
  rw [e2]
  by_cases h : a.toNat % 2 = 1
  · simp [h]
  · have : a.toNat % 2 = 0 := by omega
    simp [this]
theorem P0 (a : BitVec 32) : bits .xor .u32 ((a.toNat : Int) / 2) (IntKind.u32.wrap (bits .and .u32 (a.toNat : Int) 1 * 2197175160)) = ((H5 a).toNat : Int) := by
  have e1 : (a.toNat : Int) / (2 : Int) = ((a >>> 1).toNat : Int) := by
    rw [BitVec.toNat_ushiftRight, Nat.shiftRight_eq_div_pow]; omega
  have e2 : IntKind.u32.wrap (bits .and .u32 (a.toNat : Int) 1 * 2197175160) = ((if a.getLsbD 0 then PZ else 0#32).toNat : Int) := by
    rw [GB, IntKind.wrap_u32]
    cases a.getLsbD 0
    · rfl
    · rfl
  rw [e1, e2, J0]
  rfl
theorem T7 (a : BitVec 32) (h : a.getLsbD 0 = true) : bits .xor .u32 ((a.toNat : Int) / 2) 2197175160 = ((H5 a).toNat : Int) := by
 have := P0 a
 rw [GB, h] at this
 exact this
theorem St (a : BitVec 32) (h : a.getLsbD 0 = false) : (a.toNat : Int) / 2 = ((H5 a).toNat : Int) := by
 have e1 : (a.toNat : Int) / (2 : Int) = ((a >>> 1).toNat : Int) := by
  rw [BitVec.toNat_ushiftRight, Nat.shiftRight_eq_div_pow]; omega
 rw [e1]
 unfold H5
 rw [h]
 simp
theorem Su (a : BitVec 32) (c : UInt8) : bits .xor .u32 (a.toNat : Int) (c.toNat : Int) = ((a ^^^ BitVec.ofNat 32 c.toNat).toNat : Int) := by
 rw [← J0]
 have := UInt8.toNat_lt c
 rw [BitVec.toNat_ofNat, Nat.mod_eq_of_lt (by omega)]
theorem OO (a b : Nat) (ha : a < 4294967296) (hb : b < 4294967296) : bits .or .u32 (a : Int) (b : Int) = ((a ||| b : Nat) : Int) := by
  have hx : a ||| b < 2 ^ 32 := Nat.or_lt_two_pow (by omega) (by omega)
  show IntKind.u32.wrap ((BitVec.ofInt 32 (a : Int) ||| BitVec.ofInt 32 (b : Int)).toNat : Int) = _
  rw [BitVec.toNat_or, Lx a ha, Lx b hb, BitVec.toNat_ofNat, BitVec.toNat_ofNat, Nat.mod_eq_of_lt (by omega), Nat.mod_eq_of_lt (by omega), IntKind.wrap_u32]
  omega
theorem T8 (r : BitVec 32) : bits .xor .u32 IntKind.u32.max (r.toNat : Int) = ((~~~ r).toNat : Int) := by
 have h : IntKind.u32.max = ((BitVec.allOnes 32).toNat : Int) := by decide
 rw [h, J0, BitVec.allOnes_xor]
theorem Sv (r : BitVec 32) : bits .xor .u32 (r.toNat : Int) 4294967295 = ((~~~ r).toNat : Int) := by
 have h : (4294967295 : Int) = ((BitVec.allOnes 32).toNat : Int) := by decide
 rw [h, J0, BitVec.xor_allOnes]
end Go.Proofs.YtnknboibmifacaaGreat
namespace Go.Proofs.YtnknboibmifacaaGreat
open Go.RowKit
theorem T9 {S : Nat → Prop} (w : World) (A : Option Addr) (c : Nat) (l : List UInt8) (h : Bs S w A c l) (hl : l.length ≤ 140737488355328) :
    Calls Tryz.prog 74 #[.slice A l.length c] w fun e w' => e = .returned (.int .u32 (BG l : Int)) ∧ w = w' := by
  go_enter Tryz.func74, Tryz.ntmps74
  go_wp2
  go_loop [3, 5, 6, 9] (fun h _ _ i => ∃ k : Nat, k ≤ l.length ∧ i = .int .i64 k ∧ h = .int .u32 ((Eb (BitVec.allOnes 32) (l.take k)).toNat : Int)) (fun _ _ _ i => l.length - (intOf i).toNat)
  case atStart => exact ⟨0, Nat.zero_le _, rfl, rfl⟩
  case round =>
    obtain ⟨k, hk, rfl, rfl⟩ := hrel
    by_cases hlt : k < l.length
    · obtain ⟨g, o, rfl, hs, hc⟩ := h.2.2 (by omega)
      have hb := hc k l[k] (List.getElem?_eq_getElem hlt)
      unfold N7 at hb
      clear hc
      have ht : Eb (BitVec.allOnes 32) (l.take (k + 1)) = Mu (Eb (BitVec.allOnes 32) (l.take k)) l[k] := by
        rw [List.take_succ_eq_append_getElem hlt]; unfold Eb; rw [List.foldl_append]; rfl
      have HT := EY ht
      clear ht
      obtain ⟨b, hbb⟩ : ∃ b, b = l[k] := ⟨_, rfl⟩
      rw [← hbb] at hb HT
      have HB := EY hbb
      clear hbb
      obtain ⟨x, hx⟩ : ∃ x, x = Eb (BitVec.allOnes 32) (l.take k) := ⟨_, rfl⟩
      rw [← hx] at HT ⊢
      have HX := EY hx
      clear hx
      have hin := Su x b
      obtain ⟨y, hy⟩ : ∃ y, y = x ^^^ BitVec.ofNat 32 b.toNat := ⟨_, rfl⟩
      rw [← hy] at hin
      have HY := EY hy
      clear hy
      obtain ⟨n, hn⟩ : ∃ n, n = b.toNat := ⟨_, rfl⟩
      have hn2 : n < 256 := by rw [hn]; exact UInt8.toNat_lt _
      rw [← hn] at hin hb
      clear hn
      go_wp2
      go_loop [3, 6, 17] (fun h _ j => ∃ i : Nat, i ≤ 8 ∧ j = .int .i64 i ∧ h = .int .u32 ((Fo i y).toNat : Int)) (fun _ _ j => 8 - (intOf j).toNat)
      case atStart => exact ⟨0, by omega, rfl, rfl⟩
      case round =>
        obtain ⟨i, hi, rfl, rfl⟩ := hrel
        by_cases hi8 : i < 8
        · have hbit := P0 (Fo i y)
          rw [IntKind.wrap_u32] at hbit
          obtain ⟨z, hz⟩ : ∃ z, z = Fo i y := ⟨_, rfl⟩
          rw [← hz] at hbit ⊢
          have HZ := EY hz
          clear hz
          obtain ⟨z', hz'⟩ : ∃ z', z' = H5 z := ⟨_, rfl⟩
          rw [← hz'] at hbit
          have HZ' := EY hz'
          clear hz'
          go_wp2
          go_round
          case rel => exact ⟨i + 1, by omega, by go_num, by rw [HZ'.out, HZ.out]; rfl⟩
          case measure => simp [intOf]; omega
        · have e8 : i = 8 := by omega
          subst e8
          obtain ⟨z, hz⟩ : ∃ z, z = Fo 8 y := ⟨_, rfl⟩
          rw [← hz]
          have HZ := EY hz
          clear hz
          go_wp2
          go_round
          case rel => exact ⟨k + 1, by omega, by go_num, by rw [HT.out, HZ.out, HY.out]; rfl⟩
          case measure => simp [intOf]; omega
    · have e : l.take k = l := List.take_of_length_le (by omega)
      rw [e]
      clear e
      obtain ⟨r, hr⟩ : ∃ r, r = Eb (BitVec.allOnes 32) l := ⟨_, rfl⟩
      rw [← hr]
      have HR := EY hr
      clear hr
      have hnot := T8 r
      obtain ⟨q, hq⟩ : ∃ q : Nat, q = (~~~ r).toNat := ⟨_, rfl⟩
      rw [← hq] at hnot
      have HQ := EY hq
      clear hq
      go_wp2
      all_goals
        go_ret
        refine ⟨PL ?_, rfl⟩
        unfold BG
        rw [← HR.out, ← HQ.out]
end Go.Proofs.YtnknboibmifacaaGreat
namespace Go.Proofs.YtnknboibmifacaaGreat
open Go.RowKit
end Go.Proofs.YtnknboibmifacaaGreat
namespace Go.Proofs.YtnknboibmifacaaGreat
open Go.RowKit
theorem OP {S : Nat → Prop} (w : World) (A : Option Addr) (c : Nat) (l : List UInt8) (h : Bs S w A c l) (hl : l.length ≤ 140737488355328) :
    Calls Tryz.prog 54 #[.slice A l.length c] w fun e w' => e = .returned (.int .u32 (BG l : Int)) ∧ w = w' := by
  go_enter Tryz.func54, Tryz.ntmps54
  go_wp2
  go_loop [3, 4, 5, 6] (fun h i _ _ => ∃ k : Nat, k ≤ l.length ∧ i = .int .i64 k ∧ h = .int .u32 ((Eb (BitVec.allOnes 32) (l.take k)).toNat : Int)) (fun _ i _ _ => l.length - (intOf i).toNat)
  case atStart => exact ⟨0, Nat.zero_le _, rfl, rfl⟩
  case round =>
    obtain ⟨k, hk, rfl, rfl⟩ := hrel
    by_cases hlt : k < l.length
    · obtain ⟨g, o, rfl, hs, hc⟩ := h.2.2 (by omega)
      have hb := hc k l[k] (List.getElem?_eq_getElem hlt)
      unfold N7 at hb
      clear hc
      have ht : Eb (BitVec.allOnes 32) (l.take (k + 1)) = Mu (Eb (BitVec.allOnes 32) (l.take k)) l[k] := by
        rw [List.take_succ_eq_append_getElem hlt]; unfold Eb; rw [List.foldl_append]; rfl
      have HT := EY ht
      clear ht
      obtain ⟨b, hbb⟩ : ∃ b, b = l[k] := ⟨_, rfl⟩
      rw [← hbb] at hb HT
      have HB := EY hbb
      clear hbb
      obtain ⟨x, hx⟩ : ∃ x, x = Eb (BitVec.allOnes 32) (l.take k) := ⟨_, rfl⟩
      rw [← hx] at HT ⊢
      have HX := EY hx
      clear hx
      have hin := Su x b
      obtain ⟨y, hy⟩ : ∃ y, y = x ^^^ BitVec.ofNat 32 b.toNat := ⟨_, rfl⟩
      rw [← hy] at hin
      have HY := EY hy
      clear hy
      obtain ⟨n, hn⟩ : ∃ n, n = b.toNat := ⟨_, rfl⟩
      have hn2 : n < 256 := by rw [hn]; exact UInt8.toNat_lt _
      rw [← hn] at hin hb
      clear hn
      go_wp2
      go_loop [3, 5, 6] (fun h j _ => ∃ i : Nat, i ≤ 8 ∧ j = .int .i64 i ∧ h = .int .u32 ((Fo i y).toNat : Int)) (fun _ j _ => 8 - (intOf j).toNat)
      case atStart => exact ⟨0, by omega, rfl, rfl⟩
      case round =>
        obtain ⟨i, hi, rfl, rfl⟩ := hrel
        obtain ⟨z, hz⟩ : ∃ z, z = Fo i y := ⟨_, rfl⟩
        rw [← hz]
        have HZ := EY hz
        clear hz
        by_cases hi8 : i < 8
        · have hand := GB z
          cases hodd : z.getLsbD 0
          · have hq := St z hodd
            rw [hodd] at hand
            simp only [Bool.false_eq_true, if_false] at hand
            clear hodd
            have HQ := EY hq
            clear hq
            go_wp2
            go_round
            case rel => exact ⟨i + 1, by omega, by go_num, by rw [HQ.out, HZ.out]; rfl⟩
            case measure => simp [intOf]; omega
          · have hq := T7 z hodd
            rw [hodd] at hand
            simp only [if_true] at hand
            clear hodd
            obtain ⟨z', hz'⟩ : ∃ z', z' = H5 z := ⟨_, rfl⟩
            rw [← hz'] at hq
            have HZ' := EY hz'
            clear hz'
            go_wp2
            go_round
            case rel => exact ⟨i + 1, by omega, by go_num, by rw [HZ'.out, HZ.out]; rfl⟩
            case measure => simp [intOf]; omega
        · have e8 : i = 8 := by omega
          subst e8
          go_wp2
          go_round
          case rel => exact ⟨k + 1, by omega, by go_num, by rw [HT.out, HZ.out, HY.out]; rfl⟩
          case measure => simp [intOf]; omega
    · have e : l.take k = l := List.take_of_length_le (by omega)
      rw [e]
      clear e
      obtain ⟨r, hr⟩ : ∃ r, r = Eb (BitVec.allOnes 32) l := ⟨_, rfl⟩
      rw [← hr]
      have HR := EY hr
      clear hr
      have hnot := Sv r
      obtain ⟨q, hq⟩ : ∃ q : Nat, q = (~~~ r).toNat := ⟨_, rfl⟩
      rw [← hq] at hnot
      have HQ := EY hq
      clear hq
      go_wp2
      all_goals
        go_ret
        refine ⟨PL ?_, rfl⟩
        unfold BG
        rw [← HR.out, ← HQ.out]
end Go.Proofs.YtnknboibmifacaaGreat
namespace Go.Proofs.YtnknboibmifacaaGreat
open Go.RowKit
end Go.Proofs.YtnknboibmifacaaGreat
namespace Go.Proofs.YtnknboibmifacaaGreat
open Go.RowKit
def VV (w : World) (base p : Nat) (l : List UInt8) (f : Nat) : Prop :=
  l.length ≤ 140737488355328 ∧ ∃ A c, CY w p 134 #[.slice A l.length c, .int .i64 (f : Int)] ∧ Bs (fun k => base ≤ k ∧ k < p) w A c l
theorem VV.mod {S : Nat → Prop} {w w' : World} {base p f : Nat} {l : List UInt8} (h : VV w base p l f) (hm : Mod S w w') (hn : ∀ k, base ≤ k → k ≤ p → ¬ S k) (hb : base ≤ p) : VV w' base p l f := by
 obtain ⟨hl, A, c, hr, hs⟩ := h
 exact ⟨hl, A, c, hr.mod hm (hn p hb (Nat.le_refl _)), hs.mod hm (fun k hk => hn k hk.1 (by omega))⟩
theorem VV.lt {w : World} {base p f : Nat} {l : List UInt8} (h : VV w base p l f) : p < w.heap.size := by
 obtain ⟨_, _, _, hr, _⟩ := h
 exact hr.lt
end Go.Proofs.YtnknboibmifacaaGreat
namespace Go.Proofs.YtnknboibmifacaaGreat.Sep
open Go.RowKit
open Go.Proofs.YtnknboibmifacaaGreat.Mem (Bd Cj Chg AF)
section
variable {P : Program} {Q : Exit → Act → World → Prop} {n : Nat} {env : List (Nat × Value)} {B : Nat → Prop} {w0 w : World} {os : List Ass} {o : Oper}
theorem P1 {X : Type} {F : FuncId} {f : Operand} {args : Array Operand} {ats : Array TypeId} {vs : List Value} {val : X → Value} {post : X → List Ass} {os' : X → List Ass} (ids : List Nat) (pads : Nat) (hE : TP P F) (hc : ∀ w, Hp B w0 w os → FC w P F vs.toArray [] val post) (hp : Eh ids os = List.replicate pads E0) (hn : C1 ids = true) (hb : (ids.all fun i => Nat.blt i os.length) = true) (he : ∀ x, (post x).drop ids.length ++ EP ids (E8 ids.length (post x)) os = os' x) (ho : o.op = .call { callee := .value f, args := args, argTypes := ats }) (hf : evs env f = some (.func (.func F) #[] #[])) (hx : evl env args.toList = some vs) :
  Br P Q n env B w0 os o val os' := fun b w hH hb' K hK => by
 unfold Oper.wp
 rw [GY hE ho hf hx hb', Oper.upon_enter]
 obtain ⟨x, h0, h1, h2, h3, h4⟩ := hH.give2 ids (BT hn)
 rw [hp] at h1
 have hx0 : x = [] := Eo.1 h1
 subst hx0
 refine (hc w hH w [] (Below.refl _ _) (fun x hx => by cases hx) rfl trivial trivial).mono ?_
 rintro e w' ⟨x, rfl, rs', hpx, hch⟩
 have hq := h4 (post x) rs' w' hpx hch
 refine hK x w' (he x ▸ Hp.imp hq fun rs h => ?_)
 obtain ⟨a, c, e, ha, hc'⟩ := h.split
 obtain ⟨a', p, ha'⟩ := Ez (k := ids.length) ha
 have h2 := Al.app ha' hc'
 rw [List.append_assoc] at h2
 obtain ⟨r2, p2, h3⟩ := h2.perm ((I6 (xs := post x) (BT hn) hb).append_left _)
 exact ⟨r2, e ▸ (p.append_right c).trans p2, h3⟩
end
section
variable {P : Program} {F : FuncId} {args : Array Value} {l m b l' : List UInt8} {u : World} {g f f' : Nat} {v B : Value} {val : Value}
end
end Go.Proofs.YtnknboibmifacaaGreat.Sep
namespace Go.Proofs.YtnknboibmifacaaGreat
structure MsgD where
  k : Int
  a : Int
  b : Int
  t : Int
  i : Int
  lt : Int
  es : List EntD
  co : Int
  rf : Bool
  bi : Int
  bt : Int
  bc : Int
  o : Int
  d : List UInt8
  la : Bool
deriving DecidableEq
def MsgD.zero : MsgD := ⟨0, 0, 0, 0, 0, 0, [], 0, false, 0, 0, 0, 0, [], false⟩
structure MsgD.ok (m : MsgD) : Prop where
  k : PO m.k
  a : PO m.a
  b : PO m.b
  t : N8 m.t
  i : N8 m.i
  lt : N8 m.lt
  es : m.es.length ≤ 9223372036854775807 ∧ ∀ e, e ∈ m.es → e.ok
  co : N8 m.co
  bi : N8 m.bi
  bt : N8 m.bt
  bc : PO m.bc
  o : PO m.o
  d : m.d.length ≤ 9223372036854775807
def fm (k : Int) : Nat := if k = 1 then 131 else if k = 2 then 144 else if k = 3 then 15 else if k = 4 then 17 else if k = 5 then 480 else if k = 6 then 96 else 0
def No (l : List UInt8) (f : Nat) : EntD × List UInt8 × Nat :=
  match Dg 160 l f with
  | (x, l1, f1) => if f1 ≠ 0 then (.zero, l1, f1) else ((Gy x).1, l1, (Gy x).2)
theorem Q5 {l l1 x : List UInt8} {f f1 : Nat} (h : Dg 160 l f = (x, l1, f1)) (hf : f1 ≠ 0) : No l f = (.zero, l1, f1) := by
 unfold No
 rw [h]
 simp only
 rw [if_pos hf]
theorem Ua {l l1 x : List UInt8} {f e : Nat} {y : EntD} (h : Dg 160 l f = (x, l1, 0)) (he : Gy x = (y, e)) : No l f = (y, l1, e) := by
 unfold No
 rw [h]
 simp only
 rw [if_neg (by simp), he]
theorem OQ {l l' : List UInt8} {f : Nat} {e : EntD} (h : No l f = (e, l', 0)) : HO e = true := by
  obtain ⟨⟨x, l1, f1⟩, h1⟩ : ∃ R, Dg 160 l f = R := ⟨_, rfl⟩
  by_cases hf : f1 = 0
  · subst hf
    obtain ⟨⟨y, e'⟩, h2⟩ : ∃ R, Gy x = R := ⟨_, rfl⟩
    have e1 := (Ua h1 h2).symm.trans h
    simp only [Prod.mk.injEq] at e1
    obtain ⟨rfl, rfl, rfl⟩ := e1
    have hb := QV x
    rw [h2] at hb
    rcases hb with ⟨hb, _⟩ | ⟨_, hb, _⟩
    · exact absurd rfl hb
    · exact hb
  · have e1 := (Q5 h1 hf).symm.trans h
    simp only [Prod.mk.injEq] at e1
    exact absurd e1.2.2 hf
def JJ : Nat → List UInt8 → Nat → List EntD × List UInt8 × Nat
  | 0, l, f => ([], l, f)
  | n + 1, l, f => match No l f with
    | (e, l1, f1) => if f1 ≠ 0 then ([], l1, f1) else match JJ n l1 0 with
      | (es, l2, f2) => (e :: es, l2, f2)
theorem Sw {n : Nat} {l l1 l2 : List UInt8} {f f2 : Nat} {e : EntD} {es : List EntD} (h : No l f = (e, l1, 0)) (h2 : JJ n l1 0 = (es, l2, f2)) : JJ (n + 1) l f = (e :: es, l2, f2) := by
 rw [JJ, h]
 simp only
 rw [if_neg (by simp), h2]
def P2 (l : List UInt8) (f : Nat) : List EntD × List UInt8 × Nat :=
  match B0 4 l f with
  | (n, l1, f1) => JJ n l1 f1
def UG (l : List UInt8) (f : Nat) : (Int × Int × Int) × List UInt8 × Nat :=
  match B0 72057594037927935 l f with
  | (x, l1, f1) => match B0 72057594037927935 l1 f1 with
    | (y, l2, f2) => match A7 254 l2 f2 with
      | (z, l3, f3) => (((x : Int), (y : Int), (z : Int)), l3, f3)
def UH (l : List UInt8) : MsgD × List UInt8 × Nat :=
  match A7 6 l 0 with
  | (k, l0, f0) => match rI (k != 0) 0 (A7 7 l0 f0) l0 f0 with
  | (a, l1, f1) => match rI (k != 0) 0 (A7 7 l1 f1) l1 f1 with
  | (b, l2, f2) => match rI (k != 0) 0 (B0 72057594037927935 l2 f2) l2 f2 with
  | (t, l3, f3) => match rI (Hy (fm (k : Int)) 1) 0 (B0 72057594037927935 l3 f3) l3 f3 with
  | (i, l4, f4) => match rI (Hy (fm (k : Int)) 2) 0 (B0 72057594037927935 l4 f4) l4 f4 with
  | (lt, l5, f5) => match rI (Hy (fm (k : Int)) 4) 0 (B0 72057594037927935 l5 f5) l5 f5 with
  | (co, l6, f6) => match rI (Hy (fm (k : Int)) 8) [] (P2 l6 f6) l6 f6 with
  | (es, l7, f7) => match rI (Hy (fm (k : Int)) 16) 0 (A7 1 l7 f7) l7 f7 with
  | (rf, l8, f8) => match rI (Hy (fm (k : Int)) 32) (0, 0, 0) (UG l8 f8) l8 f8 with
  | ((bi, bt, bc), l9, f9) => match rI (Hy (fm (k : Int)) 64) 0 (B0 32768 l9 f9) l9 f9 with
  | (o, l10, f10) => match rI (Hy (fm (k : Int)) 128) 0 (A7 1 l10 f10) l10 f10 with
  | (la, l11, f11) => match rI (Hy (fm (k : Int)) 256) [] (Dg 256 l11 f11) l11 f11 with
  | (d, l12, f12) => (⟨(k : Int), (a : Int), (b : Int), (t : Int), (i : Int), (lt : Int), es, (co : Int), rf == 1, bi, bt, bc, (o : Int), d, la == 1⟩, l12, f12)
structure ReadM (l : List UInt8) (m : MsgD) (l' : List UInt8) (f' : Nat) where
  mk ::
  k : Nat
  l0 : List UInt8
  f0 : Nat
  h0 : A7 6 l 0 = (k, l0, f0)
  a : Nat
  l1 : List UInt8
  f1 : Nat
  h1 : rI (k != 0) 0 (A7 7 l0 f0) l0 f0 = (a, l1, f1)
  b : Nat
  l2 : List UInt8
  f2 : Nat
  h2 : rI (k != 0) 0 (A7 7 l1 f1) l1 f1 = (b, l2, f2)
  t : Nat
  l3 : List UInt8
  f3 : Nat
  h3 : rI (k != 0) 0 (B0 72057594037927935 l2 f2) l2 f2 = (t, l3, f3)
  i : Nat
  l4 : List UInt8
  f4 : Nat
  h4 : rI (Hy (fm (k : Int)) 1) 0 (B0 72057594037927935 l3 f3) l3 f3 = (i, l4, f4)
  lt : Nat
  l5 : List UInt8
  f5 : Nat
  h5 : rI (Hy (fm (k : Int)) 2) 0 (B0 72057594037927935 l4 f4) l4 f4 = (lt, l5, f5)
  co : Nat
  l6 : List UInt8
  f6 : Nat
  h6 : rI (Hy (fm (k : Int)) 4) 0 (B0 72057594037927935 l5 f5) l5 f5 = (co, l6, f6)
  es : List EntD
  l7 : List UInt8
  f7 : Nat
  h7 : rI (Hy (fm (k : Int)) 8) [] (P2 l6 f6) l6 f6 = (es, l7, f7)
  rf : Nat
  l8 : List UInt8
  f8 : Nat
  h8 : rI (Hy (fm (k : Int)) 16) 0 (A7 1 l7 f7) l7 f7 = (rf, l8, f8)
  bi : Int
  bt : Int
  bc : Int
  l9 : List UInt8
  f9 : Nat
  h9 : rI (Hy (fm (k : Int)) 32) (0, 0, 0) (UG l8 f8) l8 f8 = ((bi, bt, bc), l9, f9)
  o : Nat
  l10 : List UInt8
  f10 : Nat
  h10 : rI (Hy (fm (k : Int)) 64) 0 (B0 32768 l9 f9) l9 f9 = (o, l10, f10)
  la : Nat
  l11 : List UInt8
  f11 : Nat
  h11 : rI (Hy (fm (k : Int)) 128) 0 (A7 1 l10 f10) l10 f10 = (la, l11, f11)
  d : List UInt8
  h12 : rI (Hy (fm (k : Int)) 256) [] (Dg 256 l11 f11) l11 f11 = (d, l', f')
  hm : m = ⟨(k : Int), (a : Int), (b : Int), (t : Int), (i : Int), (lt : Int), es, (co : Int), rf == 1, bi, bt, bc, (o : Int), d, la == 1⟩
theorem ReadM.is {l l' : List UInt8} {m : MsgD} {f' : Nat} (h : ReadM l m l' f') : UH l = (m, l', f') := by
 obtain ⟨k, l0, f0, h0, a, l1, f1, h1, b, l2, f2, h2, t, l3, f3, h3, i, l4, f4, h4, lt, l5, f5, h5, co, l6, f6, h6, es, l7, f7, h7, rf, l8, f8, h8, bi, bt, bc, l9, f9, h9, o, l10, f10, h10, la, l11, f11, h11, d, h12, rfl⟩ := h
 simp only [UH, h0, h1, h2, h3, h4, h5, h6, h7, h8, h9, h10, h11, h12]
end Go.Proofs.YtnknboibmifacaaGreat
namespace Go.Proofs.YtnknboibmifacaaGreat
end Go.Proofs.YtnknboibmifacaaGreat
namespace Go.Proofs.YtnknboibmifacaaGreat
structure RentsAt (n : Nat) (l : List UInt8) (f : Nat) (es : List EntD) (j : Nat) (l1 : List UInt8) : Prop where
  le : j ≤ n
  len : es.length = j
  right : ∀ e, e ∈ es → HO e = true
  rest : ∀ es' l' f', JJ (n - j) l1 0 = (es', l', f') → JJ n l f = (es ++ es', l', f')
theorem RentsAt.step {n j : Nat} {l l1 l2 : List UInt8} {f : Nat} {es : List EntD} {e : EntD} (h : RentsAt n l f es j l1) (hj : j < n) (he : No l1 0 = (e, l2, 0)) : RentsAt n l f (es ++ [e]) (j + 1) l2 where
  le := hj
  len := by rw [List.length_append, h.len]; rfl
  right x hx := by
    rcases List.mem_append.1 hx with hx | hx
    · exact h.right x hx
    · rw [List.mem_singleton.1 hx]; exact OQ he
  rest es' l' f' hr := by
    have e1 : n - j = (n - (j + 1)) + 1 := by omega
    have := h.rest (e :: es') l' f' (by rw [e1]; exact Sw he hr)
    rw [this, List.append_assoc]; rfl
theorem RentsAt.done {n : Nat} {l l1 : List UInt8} {f : Nat} {es : List EntD} (h : RentsAt n l f es n l1) : JJ n l f = (es, l1, 0) := by
 have := h.rest [] l1 0 (by rw [Nat.sub_self]; rfl)
 rwa [List.append_nil] at this
end Go.Proofs.YtnknboibmifacaaGreat
namespace Go.Proofs.YtnknboibmifacaaGreat.Sep
open Go.RowKit
open Go.Proofs.YtnknboibmifacaaGreat.Mem (Bd Cj Chg AF)
end Go.Proofs.YtnknboibmifacaaGreat.Sep
namespace Go.Proofs.YtnknboibmifacaaGreat.Sep
open Go.RowKit
open Go.Proofs.YtnknboibmifacaaGreat.Mem (Bd Cj Chg AF)
theorem Mv {w : World} {A : Option Addr} {n c : Nat} {l : List UInt8} (h : EQ w (.slice A n c) l) : l.length ≤ c := by
 obtain ⟨A', c', e, hb⟩ := h
 simp only [Value.slice.injEq] at e
 obtain ⟨rfl, _, rfl⟩ := e
 exact hb.1
theorem Cw.mid {X : Ass} {A : Option Addr} {c i j : Nat} {l : List UInt8} (h : Cw X (.slice A l.length c) l) (hij : i ≤ j) (hj : j ≤ l.length) : Cw X (.slice (if c = i then A else A.map (·.add i)) (j - i) (c - i)) ((l.take j).drop i) := fun rs w h1 h2 => by
  have h3 := (h rs w h1 h2).takes hj
  have hl : (l.take j).length = j := by rw [List.length_take]; omega
  have h4 := h3.drop (k := i) (by omega)
  rw [List.length_drop, hl] at h4
  exact h4
theorem J1 {A : Option Addr} {n c i j : Nat} : Ci 1 (.slice A n c) i j = .slice (if c = i then A else A.map (·.add i)) (j - i) (c - i) := by
  show Value.slice (if c = i then A else A.map (·.add (i * 1))) (j - i) (c - i) = _
  rw [Nat.mul_one]
end Go.Proofs.YtnknboibmifacaaGreat.Sep
namespace Go.Proofs.YtnknboibmifacaaGreat.Sep
open Go.RowKit
open Go.Proofs.YtnknboibmifacaaGreat.Mem (Bd Cj Chg AF)
end Go.Proofs.YtnknboibmifacaaGreat.Sep
namespace Go.Proofs.YtnknboibmifacaaGreat.Sep
open Go.RowKit
open Go.Proofs.YtnknboibmifacaaGreat.Mem (Bd Cj Chg)
section
variable {P : Program} {t e ty : TypeId} {k : Nat} {α : Type} {enc : α → List Value} {v u : Value} {l m : List α} {w w' : World} {rs : List RowT}
theorem Np {nb : Nat} (hT : SliceT P t e k) (hb : (P.info? e).map (fun i => i.bytes) = some nb) (hb1 : 1 ≤ nb) (he : EncOf k enc) (h : Ao e k enc v l rs) (hr : RowsOf w rs) (hd : Bd rs) (hu : Di w k u m.length (flat enc m)) (hlen : (l.length + m.length) * nb ≤ 140737488355328) :
    ∃ v' w', (Builtin.append_ #[t, t] ty #[v, u]).run P w = .ok v' w' ∧ ∃ rs', Ao e k enc v' (l ++ m) rs' ∧ Chg w w' rs rs' := by
  obtain ⟨i, z, hi, hz, hk, hby, hzs, _⟩ := hT.inf
  have hbn : i.bytes = nb := by simpa [hi] using hb
  have hl1 : l.length + m.length ≤ 140737488355328 := Nat.le_trans (Nat.le_mul_of_pos_right _ hb1) hlen
  obtain ⟨hul, A, c, rfl, hA⟩ := hu
  have hu1 := Kl he m
  rcases hA with ⟨rfl, hm⟩ | ⟨a, rfl, hcells⟩
  · have hm' : m = [] := List.length_eq_zero_iff.1 hm
    subst hm'
    refine ⟨v, w, ?_, rs, by simpa using h, ⟨Mod.refl _ _, hr, hd, fun x hx _ => ⟨x, hx, rfl⟩⟩⟩
    rcases h with ⟨h1, h2, h3⟩ | ⟨g, c', cs, h1, h2, h3, h4, h5, h6⟩
    · subst h1
      simp [Builtin.append_, run_underlying hT.ht, sizeOf, typeInfo, hi, Builtin.lenOf, Builtin.firstCells]
    · subst h1
      simp [Builtin.append_, run_underlying hT.ht, sizeOf, typeInfo, hi, Builtin.lenOf, Builtin.firstCells, h2, storeCells]
  · have hown : w.ownsRow 0 e k v l.length (flat enc l) := by
      refine ⟨Dl he l, ?_⟩
      rcases h with ⟨h1, h2, h3⟩ | ⟨g, c', cs, h1, h2, h3, h4, h5, h6⟩
      · exact .inl ⟨h1, by rw [h2]; rfl⟩
      · subst h6
        exact .inr ⟨g, c', cs, h1, Nat.zero_le _, hr.1, h2, h3, h4, h5⟩
    obtain ⟨v', w', hrun, h2, h3, _, h5⟩ := run_append_own_at (P := P) w 0 t ty e i z k i.bytes hT.ht hi hz hk rfl hzs hT.pos v l.length (flat enc l) hown a m.length c (flat enc m) hul hcells hu1 (by unfold maxLen; omega)
      (by rw [hbn]; omega) (Nat.zero_le _)
    refine ⟨v', w', hrun, ?_⟩
    have hm : Mod (At v) w w' := Mod.of_grown h3 (fun k hk => hk)
    have hmB : Mod (Cj rs) w w' := hm.weaken fun j _ hj => by
      rcases h with ⟨h1, _, _⟩ | ⟨g, c', cs, h1, _, _, _, _, h6⟩
      · subst h1; unfold At at hj; simp [Value.ownBlock] at hj
      · subst h1; subst h6
        unfold At at hj
        simp [Value.ownBlock] at hj
        exact ⟨(g, EZ e, cs), by simp, hj⟩
    rcases h2.2 with ⟨h1, hn⟩ | ⟨g, c', cs, h1, _, hrow, hle, hmx, hsz, htk⟩
    · have : l ++ m = [] := List.length_eq_zero_iff.1 (by rw [List.length_append]; exact hn)
      exact ⟨[], .inl ⟨h1, this, rfl⟩, ⟨hmB, trivial, trivial, fun x hx => by simp at hx⟩⟩
    · refine ⟨[(g, EZ e, cs)], .inr ⟨g, c', cs, by rw [h1, List.length_append], by rw [List.length_append]; exact hle, hmx, hsz, by rw [List.length_append, Iq]; exact htk, rfl⟩, ⟨hmB, ⟨hrow, trivial⟩, ⟨(fun _ h => by cases h), trivial⟩, fun x hx hlt => ?_⟩⟩
      have : x = (g, EZ e, cs) := by simpa using hx
      subst this
      rcases h5 with h5 | h5
      · subst h1
        rcases h with ⟨h1, _, _⟩ | ⟨g', c'', cs', h1, _, _, _, _, h6⟩
        · subst h1; simp [Value.ownBlock] at h5
        · subst h1; subst h6
          simp [Value.ownBlock] at h5
          exact ⟨(g', EZ e, cs'), by simp, h5.symm⟩
      · subst h1
        simp [Value.ownBlock] at h5
        exact absurd hlt (by show ¬ g < w.heap.size; omega)
variable {Q : Exit → Act → World → Prop} {n : Nat} {B : Nat → Prop} {w0 : World} {os : List Ass} {env : List (Nat × Value)} {o : Oper}
theorem FG {nb : Nat} (i : Nat) (hT : SliceT P t e k) (he : EncOf k enc) (hb : (P.info? e).map (fun i => i.bytes) = some nb) (hb1 : 1 ≤ nb) (hi : os[i]? = some (Ao e k enc v l)) (m : List α) (hu : ∀ w, Hp B w0 w os → Di w k u m.length (flat enc m)) (hlen : (l.length + m.length) * nb ≤ 140737488355328) {x y : Operand} (ho : o.op = .call { callee := .builtin .append, args := #[x, y], argTypes := #[t, t] }) (hx : evs env x = some v) (hy : evs env y = some u) {r : List α} (hr : l ++ m = r) :
  Br P Q n env B w0 os o (fun v : Value => v) (fun v' => os.set i (Ao e k enc v' r)) := fun act w hH hF K hK => by
 subst hr
 have hH' := hH
 obtain ⟨rs0, hp, hm⟩ := hH
 obtain ⟨a, z, b, e1, hz, hbb⟩ := hp.at_ hi
 subst e1
 have p : (a ++ (z ++ b)).Perm (z ++ (a ++ b)) := by rw [← List.append_assoc, ← List.append_assoc]; exact List.perm_append_comm.append_right b
 have h5 := CI hm p
 have hd := Bi.1 h5.apart
 rw [List.map_append] at hd
 obtain ⟨v', w', hr, y', hy', hc⟩ := Np (P := P) (ty := o.type) hT hb hb1 he hz (AN.2 fun z hz => h5.rows.mem z (by simp [hz])) (Bi.2 (List.nodup_append.1 hd).1) (hu w hH') hlen
 have p' : (y' ++ (a ++ b)).Perm (a ++ (y' ++ b)) := by rw [← List.append_assoc, ← List.append_assoc]; exact List.perm_append_comm.append_right b
 refine E9 (w0 := w) act (EU ho (vs := [v, u]) (by simp [evl, hx, hy]) (fun cs => ?_) hF) (hK v' w' ⟨_, hbb _ y' hy', CI (EK h5 hc) p'⟩)
 simp only [builtin, Sem.run_bind, Sem.run_pure, Result.andThen_ok, hr]
end
end Go.Proofs.YtnknboibmifacaaGreat.Sep
namespace Go.Proofs.YtnknboibmifacaaGreat.Sep
open Go.RowKit
open Go.Proofs.YtnknboibmifacaaGreat.Mem (Bd Cj Chg)
theorem Nq : ∀ (ys : List Value) (n : Nat) (cs : Array Value), n + ys.length ≤ cs.size →
    ((ys.zipIdx n).foldl (fun (cs : Array Value) (p : Value × Nat) => cs.setIfInBounds p.2 p.1) cs).toList = cs.toList.take n ++ ys ++ cs.toList.drop (n + ys.length)
  | [], n, cs, _ => by simp
  | y :: ys, n, cs, h => by
    have hl : (y :: ys).length = ys.length + 1 := rfl
    have hn : n < cs.toList.length := by rw [Array.length_toList]; omega
    rw [List.zipIdx_cons, List.foldl_cons, Nq ys (n + 1) _ (by rw [Array.size_setIfInBounds]; omega), Array.toList_setIfInBounds]
    have e1 : (cs.toList.set n y).take (n + 1) = cs.toList.take n ++ [y] := by
      rw [List.set_eq_take_append_cons_drop, if_pos hn, List.take_append, List.length_take, Nat.min_eq_left (by omega), List.take_of_length_le (by rw [List.length_take]; omega), show n + 1 - n = 1 by omega]
      rfl
    have e2 : (cs.toList.set n y).drop (n + 1 + ys.length) = cs.toList.drop (n + (ys.length + 1)) := by
      rw [List.drop_set, if_pos (by omega)]
      congr 1
      omega
    rw [e1, e2, hl]
    simp
variable {P : Program} {Q : Exit → Act → World → Prop} {n : Nat} {B : Nat → Prop} {w0 : World} {os : List Ass} {env : List (Nat × Value)} {o : Oper}
variable {t e : TypeId} {k : Nat} {α : Type} {enc : α → List Value}
theorem Sx {v : Value} {cells : Array Value} (h : v.cells.size = cells.size) (hk : v.cells.size = k) : Instr.fill (fun i => some (i * k, k)) cells [(0, v)] = some v.cells := by
  have h1 : ¬ ((v.cells.size ≠ k || 0 * k + v.cells.size > cells.size) = true) := by simp [hk]; omega
  have h2 : (v.cells.zipIdx.foldl (fun (cs : Array Value) (p : Value × Nat) => cs.setIfInBounds (0 * k + p.2) p.1) cells) = v.cells := by
    have hf : (fun (cs : Array Value) (p : Value × Nat) => cs.setIfInBounds (0 * k + p.2) p.1) = fun cs p => cs.setIfInBounds p.2 p.1 := by
      funext cs p
      rw [Nat.zero_mul, Nat.zero_add]
    rw [hf, ← Array.foldl_toList, Array.toList_zipIdx]
    apply Array.toList_inj.1
    rw [Nq _ 0 _ (by rw [Array.length_toList]; omega), Array.length_toList]
    simp [h]
  unfold Instr.fill
  simp only
  rw [if_neg h1]
  exact congrArg some h2
theorem OR (hT : SliceT P t e k) (hk : k ≤ 4096) {x : Value} (hx : x.cells.size = k) (w : World) : (Instr.buildSlice t 1 #[(0, x)]).run P w = .ok (.slice (some ⟨w.heap.size, 0, none⟩) 1 1) (w.alloc (.cells x.cells e)) := by
 obtain ⟨inf, z, hinf, hz, hsz, _, hzs, _⟩ := hT.inf
 have hp := hT.pos
 have hf : Instr.fill (fun i => some (i * k, k)) ((Array.range k).map (fun j => z.cells[j % z.cells.size]!)) [(0, x)] = some x.cells := Sx (by simp [hx]) hx
 have h1 : ¬ 1 * k > 2 ^ 24 := by omega
 have h2 : ¬ 1 * k = 0 := by omega
 simp only [Instr.buildSlice, run_underlying hT.ht, hT.sizeOf, Sem.run_bind, Sem.run_pure, Result.andThen_ok, if_neg h1, if_neg h2, zeroValue, typeInfo, hinf, hz]
 simp [newRow, zeroValue, typeInfo, hinf, hz, h1, h2]
 rw [hf]
 simp
theorem Ec (hT : SliceT P t e k) (hk : k ≤ 4096) (he : EncOf k enc) {x : Operand} {c : Value} (a : α) (hc : c.cells.toList = enc a) (ho : o.op = .buildSlice t 1 #[(0, x)]) (hx : evs env x = some c) : Br P Q n env B w0 os o (fun v : Value => v) (fun v => Ao e k enc v [a] :: os) := fun b w hH hF K hK => by
 have hsz : c.cells.size = k := by rw [← he.len a, ← hc, Array.length_toList]
 have hrun : (execOp b.eval o).run P w = .ok (.value (.slice (some ⟨w.heap.size, 0, none⟩) 1 1)) (w.alloc (.cells c.cells e)) := by
  unfold execOp
  simp [ho, hF.evs hx, Sem.run_bind, OR hT hk hsz]
 refine E9 (w0 := w) b hrun (hK _ _ ?_)
 have := hH.new e c.cells
 obtain ⟨rs, ⟨r1, r2, e1, h1, h2⟩, h3⟩ := this
 unfold cell at h1
 exact ⟨rs, ⟨r1, r2, e1, .inr ⟨w.heap.size, 1, c.cells, rfl, Nat.le_refl _, by unfold maxLen; omega, by simp [hsz], by rw [hc]; simp only [flat, List.flatMap_cons, List.flatMap_nil, List.append_nil, List.length_cons, List.length_nil, Nat.zero_add, Nat.one_mul]; exact List.take_of_length_le (by rw [he.len]; exact Nat.le_refl _), h1⟩, h2⟩, h3⟩
end Go.Proofs.YtnknboibmifacaaGreat.Sep
namespace Go.Proofs.YtnknboibmifacaaGreat.Sep
open Go.RowKit
open Go.Proofs.YtnknboibmifacaaGreat.Mem (Bd Cj Chg AF)
section
variable {P : Program} {ops : Array Oper} {Q : Exit → Act → World → Prop} {n : Nat} {env : List (Nat × Value)} {B : Nat → Prop} {w0 : World} {os : List Ass} {t : Ass}
theorem Q6 (h : t []) : ∀ rs, Al os rs → ∃ _ : Unit, ∃ rs', rs.Perm rs' ∧ Al (t :: os) rs' := fun rs hr => ⟨(), rs, .refl _, [], rs, rfl, h, hr⟩
theorem HF (h0 : t []) {c : Code} (h : Bo P Q n env B w0 (t :: os) c) : Bo P Q n env B w0 os c := Bo.via (fun _ : Unit => _) (Q6 h0) fun _ => h
theorem Ed {xs : List Ass} {p : Prop} (hp : p) {z : List RowT} (h : Al xs z) : Al (xs ++ [fact p]) z := by
 have := Al.app h (show Al [fact p] [] from ⟨[], [], rfl, ⟨rfl, hp⟩, rfl⟩)
 rwa [List.append_nil] at this
end
end Go.Proofs.YtnknboibmifacaaGreat.Sep
namespace Go.Proofs.YtnknboibmifacaaGreat.Sep
open Go.RowKit
open Go.Proofs.YtnknboibmifacaaGreat.Mem (Bd Cj Chg AF)
end Go.Proofs.YtnknboibmifacaaGreat.Sep
namespace Go.Proofs.YtnknboibmifacaaGreat.Sep
open Go.RowKit
def OpD.size : OpD → Nat
  | .app _ b => b.length
  | _ => 0
def DiskD.fit (d : DiskD) : Prop := AE d.syn + (d.wait.map OpD.size).sum ≤ 1099511627776 ∧ d.wait.length ≤ 10000
def KM (m n : Nat) (L : List (List UInt8)) : Prop := L.length ≤ m ∧ ∀ b, b ∈ L → b.length ≤ n
theorem P3 {n : Nat} : ∀ {L : List (List UInt8)}, (∀ b, b ∈ L → b.length ≤ n) → L.flatten.length ≤ L.length * n
  | [], _ => by simp
  | b :: r, h => by
    have h1 := h b (List.mem_cons_self ..)
    have h2 := P3 (L := r) fun c hc => h c (List.mem_cons_of_mem _ hc)
    rw [List.flatten_cons, List.length_append, List.length_cons, Nat.succ_mul]
    omega
theorem KM.flat {m n : Nat} {L : List (List UInt8)} (h : KM m n L) : L.flatten.length ≤ m * n := Nat.le_trans (P3 h.2) (Nat.mul_le_mul_right n h.1)
theorem KM.take {m n : Nat} {L : List (List UInt8)} (h : KM m n L) (i : Nat) : KM m n (L.take i) := ⟨by have := h.1; rw [List.length_take]; omega, fun b hb => h.2 b (List.mem_of_mem_take hb)⟩
def encKs (s : List UInt8) : List Value := [.string (bs s)]
end Go.Proofs.YtnknboibmifacaaGreat.Sep
