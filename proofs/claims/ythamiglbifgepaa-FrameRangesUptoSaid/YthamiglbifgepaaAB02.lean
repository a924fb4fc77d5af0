/-
  RefSum · RefText · Reader · Mk · RpcM · RpcN · RpcF · RpcA · RpcB · RpcC · App · Bld · RpcD · DskS · MapS · DskM · DskW
-/
import Derived.Test.YthamiglbifgepaaAA04
import Derived.Test.YthamiglbifgepaaAA05
import Derived.Test.YthamiglbifgepaaAB01
import Derived.Deep.RegionHeld3
import Derived.Maps.RangeRun
import Derived.MapKept
set_option linter.unusedSimpArgs false
set_option linter.unusedVariables false

namespace Go.Proofs.Ythamiglbifgepaa
open Go.RowKit

theorem refSum_any {S : Nat → Prop} (w : World) (A : Option Addr) (c : Nat) (l : List UInt8) (h : Bs S w A c l) (hl : l.length ≤ 140737488355328) :
    Calls Try.prog 20 #[.slice A l.length c] w fun e w' => e = .returned (.int .u32 (crcSum l : Int)) ∧ w = w' := by
  go_enter Try.func20, Try.ntmps20
  go_wp2
  go_loop [3, 4, 5, 6] (fun h i _ _ => ∃ k : Nat, k ≤ l.length ∧ i = .int .i64 k ∧ h = .int .u32 ((crcRun (BitVec.allOnes 32) (l.take k)).toNat : Int)) (fun _ i _ _ => l.length - (intOf i).toNat)
  case atStart => exact ⟨0, Nat.zero_le _, rfl, rfl⟩
  case round =>
    obtain ⟨k, hk, rfl, rfl⟩ := hrel
    by_cases hlt : k < l.length
    · obtain ⟨g, o, rfl, hs, hc⟩ := h.2.2 (by omega)
      have hb := hc k l[k] (List.getElem?_eq_getElem hlt)
      unfold u8v at hb
      clear hc
      have ht : crcRun (BitVec.allOnes 32) (l.take (k + 1)) = crcByte (crcRun (BitVec.allOnes 32) (l.take k)) l[k] := by
        rw [List.take_succ_eq_append_getElem hlt]; unfold crcRun; rw [List.foldl_append]; rfl
      have HT := hid ht
      clear ht
      obtain ⟨b, hbb⟩ : ∃ b, b = l[k] := ⟨_, rfl⟩
      rw [← hbb] at hb HT
      have HB := hid hbb
      clear hbb
      obtain ⟨x, hx⟩ : ∃ x, x = crcRun (BitVec.allOnes 32) (l.take k) := ⟨_, rfl⟩
      rw [← hx] at HT ⊢
      have HX := hid hx
      clear hx
      have hin := u32_in x b
      obtain ⟨y, hy⟩ : ∃ y, y = x ^^^ BitVec.ofNat 32 b.toNat := ⟨_, rfl⟩
      rw [← hy] at hin
      have HY := hid hy
      clear hy
      obtain ⟨n, hn⟩ : ∃ n, n = b.toNat := ⟨_, rfl⟩
      have hn2 : n < 256 := by rw [hn]; exact UInt8.toNat_lt _
      rw [← hn] at hin hb
      clear hn
      go_wp2
      go_loop [3, 5, 6] (fun h j _ => ∃ i : Nat, i ≤ 8 ∧ j = .int .i64 i ∧ h = .int .u32 ((crcBits i y).toNat : Int)) (fun _ j _ => 8 - (intOf j).toNat)
      case atStart => exact ⟨0, by omega, rfl, rfl⟩
      case round =>
        obtain ⟨i, hi, rfl, rfl⟩ := hrel
        obtain ⟨z, hz⟩ : ∃ z, z = crcBits i y := ⟨_, rfl⟩
        rw [← hz]
        have HZ := hid hz
        clear hz
        by_cases hi8 : i < 8
        · have hand := u32_and_one z
          cases hodd : z.getLsbD 0
          · have hq := u32_even z hodd
            rw [hodd] at hand
            simp only [Bool.false_eq_true, if_false] at hand
            clear hodd
            have HQ := hid hq
            clear hq
            go_wp2
            go_round
            case rel => exact ⟨i + 1, by omega, by go_num, by rw [HQ.out, HZ.out]; rfl⟩
            case measure => simp [intOf]; omega
          · have hq := u32_odd z hodd
            rw [hodd] at hand
            simp only [if_true] at hand
            clear hodd
            obtain ⟨z', hz'⟩ : ∃ z', z' = crcBit z := ⟨_, rfl⟩
            rw [← hz'] at hq
            have HZ' := hid hz'
            clear hz'
            go_wp2
            go_round
            case rel => exact ⟨i + 1, by omega, by go_num, by rw [HZ'.out, HZ.out]; rfl⟩
            case measure => simp [intOf]; omega
        · have e8 : i = 8 := by omega
          subst e8
          go_wp2
          go_round
          case rel => exact ⟨k + 1, by omega, by go_num, by rw [HT.out, HZ.out, HY.out]; rfl⟩
          case measure => simp [intOf]; omega
    · have e : l.take k = l := List.take_of_length_le (by omega)
      rw [e]
      clear e
      obtain ⟨r, hr⟩ : ∃ r, r = crcRun (BitVec.allOnes 32) l := ⟨_, rfl⟩
      rw [← hr]
      have HR := hid hr
      clear hr
      have hnot := u32_not' r
      obtain ⟨q, hq⟩ : ∃ q : Nat, q = (~~~ r).toNat := ⟨_, rfl⟩
      rw [← hq] at hnot
      have HQ := hid hq
      clear hq
      go_wp2
      all_goals
        go_ret
        refine ⟨ret_int ?_, rfl⟩
        unfold crcSum
        rw [← HR.out, ← HQ.out]

end Go.Proofs.Ythamiglbifgepaa

namespace Go.Proofs.Ythamiglbifgepaa
open Go.RowKit

end Go.Proofs.Ythamiglbifgepaa

namespace Go.Proofs.Ythamiglbifgepaa
open Go.RowKit

end Go.Proofs.Ythamiglbifgepaa

namespace Go.Proofs.Ythamiglbifgepaa.Sep
open Go.RowKit
open Go.Proofs.Ythamiglbifgepaa.Mem (Dist Blk Chg below0)
section
variable {P : Program} {Q : Exit → Act → World → Prop} {n : Nat} {env : List (Nat × Value)} {B : Nat → Prop} {w0 w : World} {os : List Ass} {o : Oper}
end
section
variable {P : Program} {F : FuncId} {args : Array Value} {l m b l' : List UInt8} {u : World} {g f f' : Nat} {v B : Value} {val : Value}
end
end Go.Proofs.Ythamiglbifgepaa.Sep

namespace Go.Proofs.Ythamiglbifgepaa

/-- a message -/
structure MsgD where
  k : Int
  a : Int
  b : Int
  t : Int
  i : Int
  lt : Int
  es : List EntD
  co : Int
  rf : Bool
  bi : Int
  bt : Int
  bc : Int
  o : Int
  d : List UInt8
  la : Bool
deriving DecidableEq
def MsgD.zero : MsgD := ⟨0, 0, 0, 0, 0, 0, [], 0, false, 0, 0, 0, 0, [], false⟩
structure MsgD.ok (m : MsgD) : Prop where
  k : I64 m.k
  a : I64 m.a
  b : I64 m.b
  t : U64 m.t
  i : U64 m.i
  lt : U64 m.lt
  es : m.es.length ≤ 9223372036854775807 ∧ ∀ e, e ∈ m.es → e.ok
  co : U64 m.co
  bi : U64 m.bi
  bt : U64 m.bt
  bc : I64 m.bc
  o : I64 m.o
  d : m.d.length ≤ 9223372036854775807

/-- the fields of a kind, as a sum of 1 (index), 2 (logterm), 4 (commit), 8 (entries), 16 (refused), 32 (base), 64 (offset), 128 (last), 256 (data) -/
def fm (k : Int) : Nat := if k = 1 then 131 else if k = 2 then 144 else if k = 3 then 15 else if k = 4 then 17 else if k = 5 then 480 else if k = 6 then 96 else 0
/-! ## What is laid -/
/-! ## What is read -/
/-- an entry of a message -/
def rent (l : List UInt8) (f : Nat) : EntD × List UInt8 × Nat :=
  match rtext 160 l f with
  | (x, l1, f1) => if f1 ≠ 0 then (.zero, l1, f1) else ((decE x).1, l1, (decE x).2)
theorem rent_text {l l1 x : List UInt8} {f f1 : Nat} (h : rtext 160 l f = (x, l1, f1)) (hf : f1 ≠ 0) : rent l f = (.zero, l1, f1) := by
  unfold rent
  rw [h]
  simp only
  rw [if_pos hf]
theorem rent_of {l l1 x : List UInt8} {f e : Nat} {y : EntD} (h : rtext 160 l f = (x, l1, 0)) (he : decE x = (y, e)) : rent l f = (y, l1, e) := by
  unfold rent
  rw [h]
  simp only
  rw [if_neg (by simp), he]
theorem rent_right {l l' : List UInt8} {f : Nat} {e : EntD} (h : rent l f = (e, l', 0)) : rightE e = true := by
  obtain ⟨⟨x, l1, f1⟩, h1⟩ : ∃ R, rtext 160 l f = R := ⟨_, rfl⟩
  by_cases hf : f1 = 0
  · subst hf
    obtain ⟨⟨y, e'⟩, h2⟩ : ∃ R, decE x = R := ⟨_, rfl⟩
    have e1 := (rent_of h1 h2).symm.trans h
    simp only [Prod.mk.injEq] at e1
    obtain ⟨rfl, rfl, rfl⟩ := e1
    have hb := decE_back x
    rw [h2] at hb
    rcases hb with ⟨hb, _⟩ | ⟨_, hb, _⟩
    · exact absurd rfl hb
    · exact hb
  · have e1 := (rent_text h1 hf).symm.trans h
    simp only [Prod.mk.injEq] at e1
    exact absurd e1.2.2 hf
/-- n entries -/
def rents : Nat → List UInt8 → Nat → List EntD × List UInt8 × Nat
  | 0, l, f => ([], l, f)
  | n + 1, l, f => match rent l f with
    | (e, l1, f1) => if f1 ≠ 0 then ([], l1, f1) else match rents n l1 0 with
      | (es, l2, f2) => (e :: es, l2, f2)
theorem rents_of {n : Nat} {l l1 l2 : List UInt8} {f f2 : Nat} {e : EntD} {es : List EntD} (h : rent l f = (e, l1, 0)) (h2 : rents n l1 0 = (es, l2, f2)) : rents (n + 1) l f = (e :: es, l2, f2) := by
  rw [rents, h]
  simp only
  rw [if_neg (by simp), h2]
/-- a message's entries: their number, then each -/
def rlist (l : List UInt8) (f : Nat) : List EntD × List UInt8 × Nat :=
  match rnum 4 l f with
  | (n, l1, f1) => rents n l1 f1
/-- a base -/
def rbase (l : List UInt8) (f : Nat) : (Int × Int × Int) × List UInt8 × Nat :=
  match rnum 72057594037927935 l f with
  | (x, l1, f1) => match rnum 72057594037927935 l1 f1 with
    | (y, l2, f2) => match rbyte 254 l2 f2 with
      | (z, l3, f3) => (((x : Int), (y : Int), (z : Int)), l3, f3)
/-- what is read of l: the message, the rest, what was wrong -/
def readM (l : List UInt8) : MsgD × List UInt8 × Nat :=
  match rbyte 6 l 0 with
  | (k, l0, f0) => match rI (k != 0) 0 (rbyte 7 l0 f0) l0 f0 with
  | (a, l1, f1) => match rI (k != 0) 0 (rbyte 7 l1 f1) l1 f1 with
  | (b, l2, f2) => match rI (k != 0) 0 (rnum 72057594037927935 l2 f2) l2 f2 with
  | (t, l3, f3) => match rI (wth (fm (k : Int)) 1) 0 (rnum 72057594037927935 l3 f3) l3 f3 with
  | (i, l4, f4) => match rI (wth (fm (k : Int)) 2) 0 (rnum 72057594037927935 l4 f4) l4 f4 with
  | (lt, l5, f5) => match rI (wth (fm (k : Int)) 4) 0 (rnum 72057594037927935 l5 f5) l5 f5 with
  | (co, l6, f6) => match rI (wth (fm (k : Int)) 8) [] (rlist l6 f6) l6 f6 with
  | (es, l7, f7) => match rI (wth (fm (k : Int)) 16) 0 (rbyte 1 l7 f7) l7 f7 with
  | (rf, l8, f8) => match rI (wth (fm (k : Int)) 32) (0, 0, 0) (rbase l8 f8) l8 f8 with
  | ((bi, bt, bc), l9, f9) => match rI (wth (fm (k : Int)) 64) 0 (rnum 32768 l9 f9) l9 f9 with
  | (o, l10, f10) => match rI (wth (fm (k : Int)) 128) 0 (rbyte 1 l10 f10) l10 f10 with
  | (la, l11, f11) => match rI (wth (fm (k : Int)) 256) [] (rtext 256 l11 f11) l11 f11 with
  | (d, l12, f12) => (⟨(k : Int), (a : Int), (b : Int), (t : Int), (i : Int), (lt : Int), es, (co : Int), rf == 1, bi, bt, bc, (o : Int), d, la == 1⟩, l12, f12)
/-- the same, step by step -/
structure ReadM (l : List UInt8) (m : MsgD) (l' : List UInt8) (f' : Nat) where
  mk ::
  k : Nat
  l0 : List UInt8
  f0 : Nat
  h0 : rbyte 6 l 0 = (k, l0, f0)
  a : Nat
  l1 : List UInt8
  f1 : Nat
  h1 : rI (k != 0) 0 (rbyte 7 l0 f0) l0 f0 = (a, l1, f1)
  b : Nat
  l2 : List UInt8
  f2 : Nat
  h2 : rI (k != 0) 0 (rbyte 7 l1 f1) l1 f1 = (b, l2, f2)
  t : Nat
  l3 : List UInt8
  f3 : Nat
  h3 : rI (k != 0) 0 (rnum 72057594037927935 l2 f2) l2 f2 = (t, l3, f3)
  i : Nat
  l4 : List UInt8
  f4 : Nat
  h4 : rI (wth (fm (k : Int)) 1) 0 (rnum 72057594037927935 l3 f3) l3 f3 = (i, l4, f4)
  lt : Nat
  l5 : List UInt8
  f5 : Nat
  h5 : rI (wth (fm (k : Int)) 2) 0 (rnum 72057594037927935 l4 f4) l4 f4 = (lt, l5, f5)
  co : Nat
  l6 : List UInt8
  f6 : Nat
  h6 : rI (wth (fm (k : Int)) 4) 0 (rnum 72057594037927935 l5 f5) l5 f5 = (co, l6, f6)
  es : List EntD
  l7 : List UInt8
  f7 : Nat
  h7 : rI (wth (fm (k : Int)) 8) [] (rlist l6 f6) l6 f6 = (es, l7, f7)
  rf : Nat
  l8 : List UInt8
  f8 : Nat
  h8 : rI (wth (fm (k : Int)) 16) 0 (rbyte 1 l7 f7) l7 f7 = (rf, l8, f8)
  bi : Int
  bt : Int
  bc : Int
  l9 : List UInt8
  f9 : Nat
  h9 : rI (wth (fm (k : Int)) 32) (0, 0, 0) (rbase l8 f8) l8 f8 = ((bi, bt, bc), l9, f9)
  o : Nat
  l10 : List UInt8
  f10 : Nat
  h10 : rI (wth (fm (k : Int)) 64) 0 (rnum 32768 l9 f9) l9 f9 = (o, l10, f10)
  la : Nat
  l11 : List UInt8
  f11 : Nat
  h11 : rI (wth (fm (k : Int)) 128) 0 (rbyte 1 l10 f10) l10 f10 = (la, l11, f11)
  d : List UInt8
  h12 : rI (wth (fm (k : Int)) 256) [] (rtext 256 l11 f11) l11 f11 = (d, l', f')
  hm : m = ⟨(k : Int), (a : Int), (b : Int), (t : Int), (i : Int), (lt : Int), es, (co : Int), rf == 1, bi, bt, bc, (o : Int), d, la == 1⟩
theorem ReadM.is {l l' : List UInt8} {m : MsgD} {f' : Nat} (h : ReadM l m l' f') : readM l = (m, l', f') := by
  obtain ⟨k, l0, f0, h0, a, l1, f1, h1, b, l2, f2, h2, t, l3, f3, h3, i, l4, f4, h4, lt, l5, f5, h5, co, l6, f6, h6, es, l7, f7, h7, rf, l8, f8, h8, bi, bt, bc, l9, f9, h9, o, l10, f10, h10, la, l11, f11, h11, d, h12, rfl⟩ := h
  simp only [readM, h0, h1, h2, h3, h4, h5, h6, h7, h8, h9, h10, h11, h12]
end Go.Proofs.Ythamiglbifgepaa

namespace Go.Proofs.Ythamiglbifgepaa

/-! ## Its bytes are few -/
/-! ## What was read is laid so -/
/-! ## Decode -/
end Go.Proofs.Ythamiglbifgepaa

namespace Go.Proofs.Ythamiglbifgepaa

/-! ## A fault stays -/
/-- the entries that are read one by one: what has been read, what is left -/
structure RentsAt (n : Nat) (l : List UInt8) (f : Nat) (es : List EntD) (j : Nat) (l1 : List UInt8) : Prop where
  le : j ≤ n
  len : es.length = j
  right : ∀ e, e ∈ es → rightE e = true
  rest : ∀ es' l' f', rents (n - j) l1 0 = (es', l', f') → rents n l f = (es ++ es', l', f')
theorem RentsAt.step {n j : Nat} {l l1 l2 : List UInt8} {f : Nat} {es : List EntD} {e : EntD} (h : RentsAt n l f es j l1) (hj : j < n) (he : rent l1 0 = (e, l2, 0)) : RentsAt n l f (es ++ [e]) (j + 1) l2 where
  le := hj
  len := by rw [List.length_append, h.len]; rfl
  right x hx := by
    rcases List.mem_append.1 hx with hx | hx
    · exact h.right x hx
    · rw [List.mem_singleton.1 hx]; exact rent_right he
  rest es' l' f' hr := by
    have e1 : n - j = (n - (j + 1)) + 1 := by omega
    have := h.rest (e :: es') l' f' (by rw [e1]; exact rents_of he hr)
    rw [this, List.append_assoc]; rfl
theorem RentsAt.done {n : Nat} {l l1 : List UInt8} {f : Nat} {es : List EntD} (h : RentsAt n l f es n l1) : rents n l f = (es, l1, 0) := by
  have := h.rest [] l1 0 (by rw [Nat.sub_self]; rfl)
  rwa [List.append_nil] at this
end Go.Proofs.Ythamiglbifgepaa

namespace Go.Proofs.Ythamiglbifgepaa.Sep
open Go.RowKit
open Go.Proofs.Ythamiglbifgepaa.Mem (Dist Blk Chg below0)

end Go.Proofs.Ythamiglbifgepaa.Sep

namespace Go.Proofs.Ythamiglbifgepaa.Sep
open Go.RowKit
open Go.Proofs.Ythamiglbifgepaa.Mem (Dist Blk Chg below0)

theorem sl8_cap {w : World} {A : Option Addr} {n c : Nat} {l : List UInt8} (h : Sl8 w (.slice A n c) l) : l.length ≤ c := by
  obtain ⟨A', c', e, hb⟩ := h
  simp only [Value.slice.injEq] at e
  obtain ⟨rfl, _, rfl⟩ := e
  exact hb.1
theorem Rd8.mid {X : Ass} {A : Option Addr} {c i j : Nat} {l : List UInt8} (h : Rd8 X (.slice A l.length c) l) (hij : i ≤ j) (hj : j ≤ l.length) : Rd8 X (.slice (if c = i then A else A.map (·.add i)) (j - i) (c - i)) ((l.take j).drop i) := fun rs w h1 h2 => by
  have h3 := (h rs w h1 h2).takes hj
  have hl : (l.take j).length = j := by rw [List.length_take]; omega
  have h4 := h3.drop (k := i) (by omega)
  rw [List.length_drop, hl] at h4
  exact h4
theorem sub_mid {A : Option Addr} {n c i j : Nat} : subv 1 (.slice A n c) i j = .slice (if c = i then A else A.map (·.add i)) (j - i) (c - i) := by
  show Value.slice (if c = i then A else A.map (·.add (i * 1))) (j - i) (c - i) = _
  rw [Nat.mul_one]
end Go.Proofs.Ythamiglbifgepaa.Sep

namespace Go.Proofs.Ythamiglbifgepaa.Sep
open Go.RowKit
open Go.Proofs.Ythamiglbifgepaa.Mem (Dist Blk Chg below0)

end Go.Proofs.Ythamiglbifgepaa.Sep

namespace Go.Proofs.Ythamiglbifgepaa.Sep
open Go.RowKit
open Go.Proofs.Ythamiglbifgepaa.Mem (Dist Blk Chg)
section
variable {P : Program} {t e ty : TypeId} {k : Nat} {α : Type} {enc : α → List Value} {v u : Value} {l m : List α} {w w' : World} {rs : List RowT}
variable {Q : Exit → Act → World → Prop} {n : Nat} {B : Nat → Prop} {w0 : World} {os : List Ass} {env : List (Nat × Value)} {o : Oper}
end
end Go.Proofs.Ythamiglbifgepaa.Sep

namespace Go.Proofs.Ythamiglbifgepaa.Sep
open Go.RowKit
open Go.Proofs.Ythamiglbifgepaa.Mem (Dist Blk Chg)
variable {P : Program} {Q : Exit → Act → World → Prop} {n : Nat} {B : Nat → Prop} {w0 : World} {os : List Ass} {env : List (Nat × Value)} {o : Oper}
variable {t e : TypeId} {k : Nat} {α : Type} {enc : α → List Value}
end Go.Proofs.Ythamiglbifgepaa.Sep

namespace Go.Proofs.Ythamiglbifgepaa.Sep
open Go.RowKit
open Go.Proofs.Ythamiglbifgepaa.Mem (Dist Blk Chg below0)

section
variable {P : Program} {ops : Array Oper} {Q : Exit → Act → World → Prop} {n : Nat} {env : List (Nat × Value)} {B : Nat → Prop} {w0 : World} {os : List Ass} {t : Ass}
theorem new_thing (h : t []) : ∀ rs, Parts os rs → ∃ _ : Unit, ∃ rs', rs.Perm rs' ∧ Parts (t :: os) rs' := fun rs hr => ⟨(), rs, .refl _, [], rs, rfl, h, hr⟩
theorem d_new (h0 : t []) {c : Code} (h : WC2 P Q n env B w0 (t :: os) c) : WC2 P Q n env B w0 os c := WC2.via (fun _ : Unit => _) (new_thing h0) fun _ => h
theorem fact_add {xs : List Ass} {p : Prop} (hp : p) {z : List RowT} (h : Parts xs z) : Parts (xs ++ [fact p]) z := by
  have := Parts.app h (show Parts [fact p] [] from ⟨[], [], rfl, ⟨rfl, hp⟩, rfl⟩)
  rwa [List.append_nil] at this
end
end Go.Proofs.Ythamiglbifgepaa.Sep

namespace Go.Proofs.Ythamiglbifgepaa.Sep
open Go.RowKit
open Go.Proofs.Ythamiglbifgepaa.Mem (Dist Blk Chg below0)

theorem short_end {α : Type} {l : List (List α)} {i m n : Nat} (hi : i ≤ l.length) (hm : i ≤ m) (h : l.length ≤ i ∨ m ≤ i) : (l.take i).map (·.take n) = (l.take m).map (·.take n) := by
  congr 1
  rcases h with h | h
  · rw [List.take_of_length_le h, List.take_of_length_le (by omega)]
  · rw [show i = m by omega]
theorem short_next {α : Type} {l : List (List α)} {i n : Nat} {x : List α} (h : l[i]? = some x) : (l.take (i + 1)).map (·.take n) = (l.take i).map (·.take n) ++ [x.take n] := by
  have hlt := (List.getElem?_eq_some_iff.1 h).1
  have hx := (List.getElem?_eq_some_iff.1 h).2
  rw [← hx, List.take_succ_eq_append_getElem hlt, List.map_append]; rfl

set_option maxRecDepth 100000 in
theorem short_does (u : World) (v : Value) (l : List PtV) (hv : PtsRd u v l) (hl : l.length ≤ 9223372036854775807) (hd : ∀ x, x ∈ l → x.d.length ≤ 140737488351232) (m n : Nat) (hm : m ≤ 1000) (hn : n ≤ 9223372036854775807) : DoesU u Try.prog 15 #[v, .int .i64 (m : Int), .int .i64 (n : Int)] [] (fun (x : PsV) => x.v) (fun (x : PsV) => [PartsT 23 x.v x.l, fact (x.l.map (·.2) = ((l.map (·.d)).take m).map (·.take n))]) := by
  refine d_insU (args := [v, .int .i64 (m : Int), .int .i64 (n : Int)]) 38 Try.func15 rfl rfl rfl ?_; intro w rs hU hS
  refine d_reg ?_
  refine h_q hflS rfl ?_
  refine h_done (d_reg ?_)
  refine h_q hflS rfl ?_
  refine h_done (d_seq (d_reg ?_))
  refine h_q hflS rfl ?_
  refine h_done (d_block ?_)
  refine d_new (t := PartsT 23 (.slice none 0 0) ([])) (prts_nil) ?_
  refine d_loop (α := Nat × List PtT × Value) (fun ⟨i, L, pv⟩ => [(0, v), (1, .int .i64 (m : Int)), (2, .int .i64 (n : Int)), (6, .slice none 0 0), (7, pv), (8, .int .i64 ((i : Nat) : Int))]) (fun ⟨i, L, pv⟩ => [PartsT 23 pv L]) (fun ⟨i, L, pv⟩ => i ≤ l.length ∧ i ≤ m ∧ L.map (·.2) = ((l.map (·.d)).take i).map (·.take n)) (fun ⟨i, L, pv⟩ => l.length - i) (0, [], .slice none 0 0) ⟨Nat.zero_le _, Nat.zero_le _, rfl⟩ ⟨rfl, rfl, rfl, rfl, rfl, rfl, trivial⟩ rfl ?_
  rintro ⟨i, L, pv⟩ hI
  refine WC2.at_ (env' := [(0, v), (1, .int .i64 (m : Int)), (2, .int .i64 (n : Int)), (6, .slice none 0 0), (7, pv), (8, .int .i64 ((i : Nat) : Int))]) (rs' := [PartsT 23 pv L]) ⟨rfl, rfl, rfl, rfl, rfl, rfl, trivial⟩ rfl ?_
  have hI1 : i ≤ l.length := hI.1
  have hI2 : i ≤ m := hI.2.1
  have hI3 : L.map (·.2) = ((l.map (·.d)).take i).map (·.take n) := hI.2.2
  have hLl : L.length = i := by have := congrArg List.length hI3; rw [List.length_map, List.length_map, List.length_take, List.length_map] at this; omega
  refine d_seq ?_
  have hc : (i < l.length ∧ i < m) ∨ (i < l.length ∧ m ≤ i) ∨ l.length ≤ i := by omega
  rcases hc with ⟨hi, hj⟩ | ⟨hi, hj⟩ | hi
  · skip
    obtain ⟨x, hx⟩ : ∃ x, l[i]? = some x := ⟨_, List.getElem?_eq_getElem hi⟩
    have hmx := List.mem_of_getElem? hx
    have hxd : (l.map (·.d))[i]? = some x.d := by rw [List.getElem?_map, hx]; rfl
    refine d_reg ?_
    refine h_q hflS rfl ?_
    refine h_val rfl (.int .i64 (l.length : Int)) (fun b w hb hH => e_slen ((argPs hv hU hS hH).1) Try.underlying25 rfl rfl hb) ?_
    refine h_val rfl (.bool true) (fun b w hb hH => exec_cmp rfl rfl rfl (cmp_lss_t (by omega)) hb) ?_
    refine h_q hflS rfl ?_
    refine h_val rfl (.bool true) (fun b w hb hH => exec_cmp rfl rfl rfl (cmp_lss_t (by omega)) hb) ?_
    refine h_q hflS rfl ?_
    refine h_done (d_then rfl (d_skip (f_to (d_seq (d_block ?_)))))
    refine d_open 0 rfl prts_open (fun _ => rfl) ?_; rintro ⟨⟩
    refine d_emps 2 rfl ?_
    refine d_parS 17 4 [⟨.quiet, [none, none, none, none], fun _ => pv, []⟩, ⟨.act 0, [some false, some false, some false, some false], fun _ => undef, []⟩, ⟨.quiet, [none, none, none, none], fun _ => v, []⟩, ⟨.quiet, [none, none, none, none], fun _ => .int .i64 ((i : Nat) : Int), []⟩, ⟨.quiet, [none, none, none, none], fun _ => elp v (i * 1), [2, 3]⟩, ⟨.quiet, [none, none, none, none], fun _ => x.v, [4]⟩, ⟨.quiet, [none, none, none, none], fun _ => v, []⟩, ⟨.quiet, [none, none, none, none], fun _ => .int .i64 ((i : Nat) : Int), []⟩, ⟨.quiet, [none, none, none, none], fun _ => elp v (i * 1), [6, 7]⟩, ⟨.quiet, [none, none, none, none], fun _ => x.v, [8]⟩, ⟨.quiet, [none, none, none, none], fun _ => .int .i64 (x.d.length : Int), [9]⟩, ⟨.quiet, [none, none, none, none], fun _ => .int .i64 (n : Int), []⟩, ⟨.quiet, [none, none, none, none], fun _ => .int .i64 ((x.d.take n).length : Int), [10, 11]⟩, ⟨.quiet, [none, none, none, none], fun _ => .slice x.A (x.d.take n).length x.c, [5, 12]⟩, ⟨.act 1, [some true, some false, some false, some false], fun _ => undef, [1, 13]⟩, ⟨.act 2, [some true, some true, some false, some false], fun _ => undef, [14]⟩, ⟨.act 3, [some true, some true, some true, some false], fun _ => undef, [0, 15]⟩] [(0, v), (1, .int .i64 (m : Int)), (2, .int .i64 (n : Int)), (6, .slice none 0 0), (7, pv), (8, .int .i64 ((i : Nat) : Int)), (9, .int .i64 ((i : Nat) : Int)), (10, v), (11, .int .i64 (l.length : Int)), (12, .bool true), (13, .bool true), (14, .int .i64 ((i : Nat) : Int)), (15, .int .i64 (m : Int)), (16, .bool true), (17, .bool true)] (fun ρ => match ρ with | [r0, r1, r2, r3] => [selS r2 (fun b1 => selS r1 (fun d1 => Vec 23 1 encW b1 ([d1])) (emp)) (emp), selS r1 (fun d1 => Vec 5 1 encB d1 (x.d.take n)) (selS r0 (fun d0 => Vec 5 1 encB d0 ([])) (emp)), selS r3 (fun p1 => selS r1 (fun d1 => Vec 23 1 encW p1 (L.map (·.1) ++ [d1])) (emp)) (Vec 23 1 encW pv (L.map (·.1))), Each (fun x : PtT => Vec 5 1 encB x.1 x.2) L] | _ => []) (by kernel_rfl) (by kernel_rfl) ⟨rfl, rfl, rfl, rfl, rfl, rfl, rfl, rfl, rfl, rfl, rfl, rfl, rfl, rfl, rfl, trivial⟩ rfl ?_ ?_
    · skip
      refine s_cons (by intro r0_ r1_ r2_ r3_; exact ⟨rfl, fun b w hH hb => exec_q1 hflS rfl hb⟩) ?_
      refine s_cons (by exact ⟨rfl, Acts.s (Acts.place (val := fun d0 : Value => d0) (t := fun d0 => Vec 5 1 encB d0 ([])) (os' := fun d0 => [emp, Vec 5 1 encB d0 ([]), Vec 23 1 encW pv (L.map (·.1)), Each (fun x : PtT => Vec 5 1 encB x.1 x.2) L]) 1 rfl (by refine a_build0 (e := 5) (t := 23) (k := 1) (enc := encB) ?_ ?_; exact sl_uint8; exact rfl) (fun _ => rfl)) (fun _ => rfl)⟩) ?_
      refine s_cons (by intro r0_ r1_ r2_ r3_; exact ⟨rfl, fun b w hH hb => exec_q1 hflS rfl hb⟩) ?_
      refine s_cons (by intro r0_ r1_ r2_ r3_; exact ⟨rfl, fun b w hH hb => exec_q1 hflS rfl hb⟩) ?_
      refine s_cons (by intro r0_ r1_ r2_ r3_; exact ⟨rfl, fun b w hH hb => e_sidx okPt ((argPs hv hU hS hH).1) sl_s_uint8 (j := i) hx rfl rfl rfl hb⟩) ?_
      refine s_cons (by intro r0_ r1_ r2_ r3_; exact ⟨rfl, fun b w hH hb => e_sload okPt (by decide) ((argPs hv hU hS hH).1) (j := i) hx ty_s_uint8 (off := 0) rfl rfl rfl hb⟩) ?_
      refine s_cons (by intro r0_ r1_ r2_ r3_; exact ⟨rfl, fun b w hH hb => exec_q1 hflS rfl hb⟩) ?_
      refine s_cons (by intro r0_ r1_ r2_ r3_; exact ⟨rfl, fun b w hH hb => exec_q1 hflS rfl hb⟩) ?_
      refine s_cons (by intro r0_ r1_ r2_ r3_; exact ⟨rfl, fun b w hH hb => e_sidx okPt ((argPs hv hU hS hH).1) sl_s_uint8 (j := i) hx rfl rfl rfl hb⟩) ?_
      refine s_cons (by intro r0_ r1_ r2_ r3_; exact ⟨rfl, fun b w hH hb => e_sload okPt (by decide) ((argPs hv hU hS hH).1) (j := i) hx ty_s_uint8 (off := 0) rfl rfl rfl hb⟩) ?_
      refine s_cons (by intro r0_ r1_ r2_ r3_; exact ⟨rfl, fun b w hH hb => e_slen ((arg8 (hv.2 x hmx) hU hS hH).rd) Try.underlying23 rfl rfl hb⟩) ?_
      refine s_cons (by intro r0_ r1_ r2_ r3_; exact ⟨rfl, fun b w hH hb => exec_q1 hflS rfl hb⟩) ?_
      refine s_cons (by intro r0_ r1_ r2_ r3_; exact ⟨rfl, fun b w hH hb => exec_builtin2 rfl rfl (fun cs => (fun w cs => run_min2 (by rw [takeMin]; split <;> omega) _ _ w cs) w cs) hb⟩) ?_
      refine s_cons (by intro r0_ r1_ r2_ r3_; exact ⟨rfl, fun b w hH hb => e_sub_hi (A := x.A) (sn := x.d.length) (c := x.c) (j := (x.d.take n).length) sl_uint8 subTake (by have := sl8_capN (hv.2 x hmx); rw [List.length_take]; omega) rfl rfl rfl hH hb⟩) ?_
      refine s_cons (by intro d0; exact ⟨rfl, Acts.s (a_append8 1 sl_uint8 (by kernel_rfl) rfl (x.d.take n) (fun w hH => (Sl8.takesN n (arg8 (hv.2 x hmx) hU hS hH)).rd) (by have := hd x hmx; simp only [List.length_nil, List.length_take]; omega) rfl rfl rfl (List.nil_append _)) (fun _ => rfl)⟩) ?_
      refine s_cons (by intro d0 d1; exact ⟨rfl, Acts.s (Acts.place (val := fun b1 : Value => b1) (t := fun b1 => Vec 23 1 encW b1 ([d1])) (os' := fun b1 => [Vec 23 1 encW b1 ([d1]), Vec 5 1 encB d1 (x.d.take n), Vec 23 1 encW pv (L.map (·.1)), Each (fun x : PtT => Vec 5 1 encB x.1 x.2) L]) 0 rfl (by exact a_buildV 1 sl_s_uint8 rfl rfl rfl) (fun _ => rfl)) (fun _ => rfl)⟩) ?_
      refine s_cons (by intro d0 d1 b1; exact ⟨rfl, Acts.s (a_append 2 sl_s_uint8 okW rfl ([d1]) (fun w hH => hH.vec 0 rfl okW) (by simp only [List.length_map, List.length_cons, List.length_nil]; omega) rfl rfl rfl rfl) (fun _ => rfl)⟩) ?_
      exact s_nil
    intro d0 d1 b1 p1
    refine WL2.keep (env' := [(0, v), (1, .int .i64 (m : Int)), (2, .int .i64 (n : Int)), (6, .slice none 0 0), (7, pv), (8, .int .i64 ((i : Nat) : Int)), (9, .int .i64 ((i : Nat) : Int)), (10, v), (11, .int .i64 (l.length : Int)), (12, .bool true), (13, .bool true), (14, .int .i64 ((i : Nat) : Int)), (15, .int .i64 (m : Int)), (16, .bool true), (17, .bool true), (20, pv), (21, d0), (22, v), (23, .int .i64 ((i : Nat) : Int)), (24, elp v (i * 1)), (25, x.v), (26, v), (27, .int .i64 ((i : Nat) : Int)), (28, elp v (i * 1)), (29, x.v), (30, .int .i64 (x.d.length : Int)), (31, .int .i64 (n : Int)), (32, .int .i64 ((x.d.take n).length : Int)), (33, .slice x.A (x.d.take n).length x.c), (34, d1), (35, b1), (36, p1)]) ⟨rfl, rfl, rfl, rfl, rfl, rfl, rfl, rfl, rfl, rfl, rfl, rfl, rfl, rfl, rfl, rfl, rfl, rfl, rfl, rfl, rfl, rfl, rfl, rfl, rfl, rfl, rfl, rfl, rfl, rfl, rfl, rfl, trivial⟩ ?_
    refine h_q hflS rfl ?_
    refine h_nil (f_block (f_to ?_))
    refine WC2.leave [0] rfl rfl ?_
    refine d_close [1, 2, 0] rfl prts_push rfl ?_
    refine d_reg1 ?_
    refine h_q hflS rfl ?_
    refine h_val rfl (.int .i64 ((i + 1 : Nat) : Int)) (fun b w hb hH => exec_ar rfl rfl rfl rfl (by rw [IntWalk.i64_in _ (by omega)]; omega) hb) ?_
    refine h_q hflS rfl ?_
    refine h_nil ?_
    exact f_again (i + 1, L ++ [(d1, x.d.take n)], p1) 0 ⟨hi, hj, by rw [List.map_append, hI3, short_next hxd]; rfl⟩ (show l.length - (i + 1) < l.length - i by omega) ⟨rfl, rfl, rfl, rfl, rfl, rfl, trivial⟩ rfl
  · skip
    refine d_reg ?_
    refine h_q hflS rfl ?_
    refine h_val rfl (.int .i64 (l.length : Int)) (fun b w hb hH => e_slen ((argPs hv hU hS hH).1) Try.underlying25 rfl rfl hb) ?_
    refine h_val rfl (.bool true) (fun b w hb hH => exec_cmp rfl rfl rfl (cmp_lss_t (by omega)) hb) ?_
    refine h_q hflS rfl ?_
    refine h_val rfl (.bool false) (fun b w hb hH => exec_cmp rfl rfl rfl (cmp_lss_f (by omega)) hb) ?_
    refine h_q hflS rfl ?_
    refine h_done (d_else rfl (d_exit (f_then_exit (f_then_exit (f_block_exit (f_to (d_reg ?_)))))))
    refine h_q hflS rfl ?_
    refine h_done (d_ret ?_)
    exact f_fin1 (.tmp rfl) (fun w h => tells (⟨pv, L⟩ : PsV) rfl [0] rfl h (fun z hz => ⟨z, .refl _, fact_add (xs := [_]) (show L.map (·.2) = _ by rw [hI3]; exact short_end (by rw [List.length_map]; omega) hI2 (.inr hj)) hz⟩)) rfl
  · skip
    refine d_reg ?_
    refine h_q hflS rfl ?_
    refine h_val rfl (.int .i64 (l.length : Int)) (fun b w hb hH => e_slen ((argPs hv hU hS hH).1) Try.underlying25 rfl rfl hb) ?_
    refine h_val rfl (.bool false) (fun b w hb hH => exec_cmp rfl rfl rfl (cmp_lss_f (by omega)) hb) ?_
    refine h_q hflS rfl ?_
    refine h_done (d_else rfl (d_exit (f_then_exit (f_then_exit (f_block_exit (f_to (d_reg ?_)))))))
    refine h_q hflS rfl ?_
    refine h_done (d_ret ?_)
    exact f_fin1 (.tmp rfl) (fun w h => tells (⟨pv, L⟩ : PsV) rfl [0] rfl h (fun z hz => ⟨z, .refl _, fact_add (xs := [_]) (show L.map (·.2) = _ by rw [hI3]; exact short_end (by rw [List.length_map]; omega) hI2 (.inl (by rw [List.length_map]; exact hi))) hz⟩)) rfl
end Go.Proofs.Ythamiglbifgepaa.Sep

namespace Go.Proofs.Ythamiglbifgepaa.Sep
open Go.RowKit
open Go.ChangeMaps (setBlock)
open Go.Proofs.Ythamiglbifgepaa.Mem (Dist Blk Chg below0)

/-! ## The list that a map holds -/
def keysM {κ ν : Type} (l : List (κ × ν)) : List κ := l.map (·.1)
section lists
variable {κ ν : Type} [DecidableEq κ]
/-- the place of a key, and what stands there -/
def fnd (k : κ) : List (κ × ν) → Nat → Option (Nat × ν)
  | [], _ => none
  | p :: r, i => if p.1 = k then some (i, p.2) else fnd k r (i + 1)
def getM (l : List (κ × ν)) (k : κ) : Option ν := (fnd k l 0).map (·.2)
def putM (l : List (κ × ν)) (k : κ) (x : ν) : List (κ × ν) := match fnd k l 0 with | some q => l.set q.1 (k, x) | none => l ++ [(k, x)]
def delM (l : List (κ × ν)) (k : κ) : List (κ × ν) := match fnd k l 0 with | some q => l.eraseIdx q.1 | none => l
theorem fnd_some {k : κ} : ∀ {l : List (κ × ν)} {i : Nat} {q : Nat × ν}, fnd k l i = some q → i ≤ q.1 ∧ l[q.1 - i]? = some (k, q.2)
  | [], _, _, h => by cases h
  | p :: r, i, q, h => by
    unfold fnd at h
    split at h
    · rename_i hk
      cases h
      refine ⟨Nat.le_refl _, ?_⟩
      rw [Nat.sub_self, List.getElem?_cons_zero, ← hk]
    · obtain ⟨h1, h2⟩ := fnd_some h
      refine ⟨by omega, ?_⟩
      rw [show q.1 - i = (q.1 - (i + 1)) + 1 by omega, List.getElem?_cons_succ]
      exact h2
theorem fnd_none {k : κ} : ∀ {l : List (κ × ν)} {i : Nat}, fnd k l i = none → k ∉ keysM l
  | [], _, _, hm => by cases hm
  | p :: r, i, h, hm => by
    unfold fnd at h
    split at h
    · cases h
    · rename_i hk
      rcases List.mem_cons.1 hm with e | hm
      · exact hk e.symm
      · exact fnd_none h hm
theorem getM_none {l : List (κ × ν)} {k : κ} : getM l k = none ↔ k ∉ keysM l := by
  constructor
  · intro h
    unfold getM at h
    exact fnd_none (Option.map_eq_none_iff.1 h)
  · intro h
    unfold getM
    cases hq : fnd k l 0 with
    | none => rfl
    | some q =>
      obtain ⟨_, h2⟩ := fnd_some hq
      exact absurd (List.mem_map_of_mem (f := (·.1)) (List.mem_of_getElem? h2)) h
theorem keys_put_old {l : List (κ × ν)} {k : κ} {x y : ν} (h : getM l k = some y) : keysM (putM l k x) = keysM l := by
  unfold getM at h
  obtain ⟨q, hq, _⟩ := Option.map_eq_some_iff.1 h
  obtain ⟨_, h2⟩ := fnd_some hq
  unfold putM keysM
  rw [hq]
  simp only
  rw [List.map_set]
  refine List.ext_getElem? fun i => ?_
  rw [List.getElem?_set]
  rw [Nat.sub_zero] at h2
  by_cases hi : q.1 = i
  · subst hi
    have hlt := (List.getElem?_eq_some_iff.1 h2).1
    rw [if_pos rfl, if_pos (by simpa using hlt), List.getElem?_map, h2]; rfl
  · rw [if_neg hi]
theorem keys_put_new {l : List (κ × ν)} {k : κ} {x : ν} (h : getM l k = none) : putM l k x = l ++ [(k, x)] := by
  unfold getM at h
  unfold putM
  rw [Option.map_eq_none_iff.1 h]
theorem nodup_put {l : List (κ × ν)} {k : κ} {x : ν} (hn : (keysM l).Nodup) : (keysM (putM l k x)).Nodup := by
  cases h : getM l k with
  | some y => rw [keys_put_old h]; exact hn
  | none =>
    rw [keys_put_new h]
    unfold keysM
    rw [List.map_append]
    exact List.nodup_append.2 ⟨hn, by simp, fun a ha b hb e => getM_none.1 h (by simp at hb; rw [← hb, ← e]; exact ha)⟩
end lists

/-! ## Keys -/
section keys
variable {P : Program} {mt kt vt : TypeId} {z : Value}
end keys

/-! ## A map's entries, in its block -/
section mapl0
variable {κ ν : Type} {kk : κ → Value} {vv : ν → Value} {es : Array MapEntry} {c : Nat} {l : List (κ × ν)}
structure MapL (kk : κ → Value) (vv : ν → Value) (es : Array MapEntry) (c : Nat) (l : List (κ × ν)) : Prop where
  at_ : es.toList.map (fun x => (x.key, x.val)) = l.map fun p => (kk p.1, vv p.2)
  keys : (keysM l).Nodup
  born : (es.toList.map (·.born)).Nodup
  old : ∀ x ∈ es.toList, x.born < c
theorem MapL.len (h : MapL kk vv es c l) : es.size = l.length := by
  have := congrArg List.length h.at_
  simpa using this
end mapl0
section mapl
variable {κ ν : Type} [DecidableEq κ] {kk : κ → Value} {vv : ν → Value} {es : Array MapEntry} {c : Nat} {l : List (κ × ν)}
theorem MapL.put (h : MapL kk vv es c l) {k : κ} {x : ν} {q : Nat × ν} (hq : fnd k l 0 = some q) : MapL kk vv (es.modify q.1 fun e => { e with key := kk k, val := vv x }) c (putM l k x) := by
  obtain ⟨_, h2⟩ := fnd_some hq
  rw [Nat.sub_zero] at h2
  have hlt := (List.getElem?_eq_some_iff.1 h2).1
  have e : putM l k x = l.set q.1 (k, x) := by unfold putM; rw [hq]
  refine ⟨?_, nodup_put h.keys, ?_, ?_⟩
  · rw [e, Array.toList_modify, List.map_set]
    refine List.ext_getElem? fun i => ?_
    rw [List.getElem?_map, List.getElem?_modify, List.getElem?_set]
    have hi := congrArg (fun z => z[i]?) h.at_
    simp only [List.getElem?_map] at hi
    by_cases hqi : q.1 = i
    · subst hqi
      rw [if_pos rfl, if_pos (by simpa using hlt)]
      rw [h2] at hi
      cases hE : es.toList[q.1]? with
      | none => rw [hE] at hi; simp at hi
      | some y => simp
    · rw [if_neg hqi]
      cases hE : es.toList[i]? with
      | none => rw [hE] at hi; simp [hqi] at hi ⊢; exact hi
      | some y => rw [hE] at hi; simp [hqi] at hi ⊢; exact hi
  · rw [Array.toList_modify]
    have e2 : (es.toList.modify q.1 fun e => { e with key := kk k, val := vv x }).map (·.born) = es.toList.map (·.born) := by
      refine List.ext_getElem? fun i => ?_
      rw [List.getElem?_map, List.getElem?_modify, List.getElem?_map]
      cases es.toList[i]? with
      | none => rfl
      | some y => simp; split <;> rfl
    rw [e2]; exact h.born
  · intro y hy
    rw [Array.toList_modify] at hy
    obtain ⟨i, hi⟩ := List.getElem?_of_mem hy
    rw [List.getElem?_modify] at hi
    cases hE : es.toList[i]? with
    | none => rw [hE] at hi; simp at hi
    | some u =>
      rw [hE] at hi
      have := h.old u (List.mem_of_getElem? hE)
      simp at hi
      rw [← hi]
      split <;> exact this
theorem MapL.push (h : MapL kk vv es c l) {k : κ} {x : ν} (hq : fnd k l 0 = none) : MapL kk vv (es.push { key := kk k, val := vv x, born := c }) (c + 1) (putM l k x) := by
  have e : putM l k x = l ++ [(k, x)] := by unfold putM; rw [hq]
  refine ⟨?_, nodup_put h.keys, ?_, ?_⟩
  · rw [e, Array.toList_push, List.map_append, List.map_append, h.at_]; rfl
  · rw [Array.toList_push, List.map_append]
    refine List.nodup_append.2 ⟨h.born, by simp, fun a ha b hb e => ?_⟩
    obtain ⟨y, hy, rfl⟩ := List.mem_map.1 ha
    have := h.old y hy
    simp at hb
    omega
  · intro y hy
    rw [Array.toList_push] at hy
    rcases List.mem_append.1 hy with hy | hy
    · have := h.old y hy; omega
    · rw [List.mem_singleton.1 hy]; show c < c + 1; omega
end mapl

/-! ## What is run -/
section runs
variable {P : Program} {κ ν : Type} [DecidableEq κ] {kk : κ → Value} {vv : ν → Value} {es : Array MapEntry} {c g : Nat} {l : List (κ × ν)} {w : World} {mt kt vt : TypeId} {kd : TypeDesc} {z : Value}
end runs
end Go.Proofs.Ythamiglbifgepaa.Sep

namespace Go.Proofs.Ythamiglbifgepaa.Sep

/-! ## Files -/
abbrev FS := List (List UInt8 × List UInt8)
/-- what may be pending -/
inductive OpD where
  | app (n b : List UInt8)
  | cut (n : List UInt8) (size : Nat)
  | ren (a b : List UInt8)
  | del (n : List UInt8)
def doneF (f : FS) : OpD → FS
  | .app n b => putM f n ((getM f n).getD [] ++ b)
  | .cut n s => match getM f n with | some x => putM f n (x.take s) | none => f
  | .ren a b => match getM f a with | some x => putM (delM f a) b x | none => f
  | .del n => delM f n
def usedF (f : FS) : Nat := (f.map fun p => p.2.length).sum
/-! ## A disk -/
structure DiskD where
  room : Int
  syn : FS
  wait : List OpD
  fuse : Option Nat
  down : Bool
def DiskD.now (d : DiskD) : FS := d.wait.foldl doneF d.syn
def nameB (n : List UInt8) : Bool := decide (1 ≤ n.length) && decide (n.length ≤ 16)
/-! ## One file that is appended to -/
end Go.Proofs.Ythamiglbifgepaa.Sep

namespace Go.Proofs.Ythamiglbifgepaa.Sep
open Go.RowKit
/-- the bytes of an operation -/
def OpD.size : OpD → Nat
  | .app _ b => b.length
  | _ => 0
/-- a disk whose sizes are within reach -/
def DiskD.fit (d : DiskD) : Prop := usedF d.syn + (d.wait.map OpD.size).sum ≤ 1099511627776 ∧ d.wait.length ≤ 10000
/-! ## Parts cut short -/
def ShortL (m n : Nat) (L : List (List UInt8)) : Prop := L.length ≤ m ∧ ∀ b, b ∈ L → b.length ≤ n
theorem short_of {m n : Nat} {L P : List (List UInt8)} (h : L = (P.take m).map (·.take n)) : ShortL m n L := by
  subst h
  refine ⟨by rw [List.length_map, List.length_take]; omega, fun b hb => ?_⟩
  obtain ⟨c, _, rfl⟩ := List.mem_map.1 hb
  rw [List.length_take]; omega
theorem flat_le {n : Nat} : ∀ {L : List (List UInt8)}, (∀ b, b ∈ L → b.length ≤ n) → L.flatten.length ≤ L.length * n
  | [], _ => by simp
  | b :: r, h => by
    have h1 := h b (List.mem_cons_self ..)
    have h2 := flat_le (L := r) fun c hc => h c (List.mem_cons_of_mem _ hc)
    rw [List.flatten_cons, List.length_append, List.length_cons, Nat.succ_mul]
    omega
theorem ShortL.flat {m n : Nat} {L : List (List UInt8)} (h : ShortL m n L) : L.flatten.length ≤ m * n := Nat.le_trans (flat_le h.2) (Nat.mul_le_mul_right n h.1)
theorem ShortL.take {m n : Nat} {L : List (List UInt8)} (h : ShortL m n L) (i : Nat) : ShortL m n (L.take i) := ⟨by have := h.1; rw [List.length_take]; omega, fun b hb => h.2 b (List.mem_of_mem_take hb)⟩
/-! ## The example -/
end Go.Proofs.Ythamiglbifgepaa.Sep
