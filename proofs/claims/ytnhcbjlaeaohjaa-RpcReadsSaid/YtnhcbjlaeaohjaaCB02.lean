/-
  Law · CmdO · CmdP · CmdQ · CmdE · CmdF · CmdG · CmdN · CmdI · Crc · Sum · Seal · RefSum · RefText · Reader · Mk · RpcM · RpcN
-/
import Derived.Test.YtnhcbjlaeaohjaaCA01
import Derived.Test.YtnhcbjlaeaohjaaCA07
import Derived.Test.YtnhcbjlaeaohjaaCA08
import Derived.Test.YtnhcbjlaeaohjaaCB01
import Derived.Test.YtnhcbjlaeaohjaaRows
import Derived.ProofKit
import Derived.OpenShut
import Derived.JoinedCond
import Derived.Lib.SmallJoins
import Derived.ChangeMaps5
import Derived.SizedLaws
import Derived.Deep.QuietTactic
import Derived.BigQuiet
import Derived.Deep.RegionHeld3
set_option linter.unusedSimpArgs false
set_option linter.unusedVariables false

namespace Go.Proofs.Ytnhcbjlaeaohjaa
open Go.ChangeShapes Go.WideShapes Go.ChangeAt Go.RowKit

theorem own : ownKnob Try.prog.godebug = none := by kernel_rfl
theorem laidOut : laidOutB Try.prog = true := by kernel_rfl

section
variable {H : Type} {enc : TypeId × Value → H} {P : Program}

/-- what the arguments read as stays, where nothing that was there has changed -/
theorem trodAll_stays (hl : laidOutB P = true) {W W' : World} (hb : Below W.heap.size W W') :
    ∀ {ts : List TypeId} {vs : List Value} {ds : List (DataW H)} {ps : List MemPlace}, (∀ t ∈ ts, P.readableRec t = true ∧ t < P.types.size) → (∀ x ∈ ps, x.block < W.heap.size) →
      DataW.TrodAll enc P W 0 (fun _ => true) true ts vs ds ps → DataW.TrodAll enc P W' 0 (fun b => decide (b < W.heap.size)) true ts vs ds ps
  | [], vs, ds, ps, _, _, h => by
    obtain ⟨rfl, rfl, rfl⟩ := trodAll_nil h
    rfl
  | t :: ts, vs, ds, ps, ht, hp, h => by
    obtain ⟨v, vs1, d, ds1, a, b, rfl, rfl, rfl, h1, h2⟩ := trodAll_cons h
    obtain ⟨hr, hrow⟩ := ht t List.mem_cons_self
    exact ⟨a, b, Below.trod hl hr hrow h1 hb (fun x hx => hp x (List.mem_append_left _ hx)), trodAll_stays hl hb (fun t h => ht t (List.mem_cons_of_mem _ h)) (fun x hx => hp x (List.mem_append_right _ hx)) h2, rfl⟩

theorem law_post {f : Func} {s : ChangeSpec} {tb : TypeId} {W W' : World} {args : Array Value} {ds gs : List (DataW H)} {before : List MemPlace}
    (hl : laidOutB P = true) (hr : f.resultTypes = #[tb]) (htb : P.underlying tb = some .bool) (hread : ∀ t ∈ f.params.toList, P.readableRec t = true ∧ t < P.types.size)
    (hvars : s.vars = []) (hs : s.fn H ds = { results := [.lit (.bool true)], args := ds })
    (hW : DataW.Whole enc P f.params.toList s.vars false W args.toList ds gs before) (hb : Below W.heap.size W W') :
    s.post enc P f false true false false W args (.bool true) W' := by
  have hW' := hW
  obtain ⟨p, q, hA, hV, rfl, hfz, hnd⟩ := hW
  rw [hvars] at hV
  obtain ⟨rfl, rfl⟩ := trodVars_none hV
  have hlt : ∀ x ∈ p, x.block < W.heap.size := fun x hx => hW'.lt x (by simpa using hx)
  refine ⟨ds, [], p ++ [], [], p, [], hW', ?_, ?_, ?_, ?_, fun h => by cases h⟩
  · rw [List.append_nil, hs, hr]
    exact trodAll_cons_mk (shut_bool htb true) trodAll_mk0
  · rw [List.append_nil, hs]
    exact trodAll_stays hl hb hread hlt hA
  · rw [List.append_nil, hs, hvars]
    rfl
  · exact World.keptBut_mono (fun x hx => ⟨hx, .inr (.inl (by simpa using hx))⟩) (hb.frame (· ∈ p ++ []))
end

/-! ## Arguments, opened -/
section
variable {H : Type} {enc : TypeId × Value → H} {P : Program}

theorem spot_none {w : World} {a : Addr} {v : Value} (h : w.cell? a = some v) : a = ⟨a.block, a.off, none⟩ := by
  obtain ⟨b, o, s⟩ := a
  have : s = none := by simpa using World.cell?_spot h
  subst this
  rfl

/-- a []byte, wherever it is met -/
theorem trod_u8s {W : World} {base : Nat} {spare : Nat → Bool} {held : Bool} {t e : TypeId} {fuel : Nat} {cs : List Value} {x : DataW H × List MemPlace} (hu : U8 P t e) (hc : P.cellsOf e = 1)
    (hf : DataW.trod enc P W base spare held fuel t cs = some x) : ∃ A c l, cs = [.slice A l.length c] ∧ Bs (fun k => k < W.heap.size) W A c l ∧ ((x.1 = .nil ∧ l = []) ∨ ∃ es sp, x.1 = .slice es sp ∧ es.length = l.length) := by
  rcases open_ints hu.ht hu.he hc hf with ⟨hcs, hx⟩ | ⟨a, len, cap, zs, hcs, _, hl, hm, hz, hx, hcell, hwz⟩
  · subst hcs
    exact ⟨none, 0, [], rfl, Bs.nil _ _ _ (by simp [maxLen]), .inl ⟨by rw [hx], rfl⟩⟩
  · subst hcs
    have hlz : len ≤ zs.length := by rw [hz]; split <;> omega
    have e0 : ((zs.take len).map (fun z => UInt8.ofNat z.toNat)).length = len := by simp; omega
    refine ⟨some a, cap, (zs.take len).map (fun z => UInt8.ofNat z.toNat), by rw [e0], ⟨by omega, hm, fun hn => ?_⟩, .inr ⟨_, _, by rw [hx], by simp [lits]⟩⟩
    have h0 := hcell 0 (by omega)
    have hs : a = ⟨a.block, a.off, none⟩ := by
      have := h0
      rw [show a.add 0 = a by simp [Addr.add]] at this
      exact spot_none this
    have hb := World.block_lt_of_cell? _ _ h0
    rw [hs, Addr.add_lit] at hb
    refine ⟨a.block, a.off, by rw [← hs], hb, fun j b hj => ?_⟩
    have hjl := (List.getElem?_eq_some_iff.1 hj).1
    rw [e0] at hjl
    have hcj := hcell j (by omega)
    rw [hs, Addr.add_lit] at hcj
    rw [hcj]
    have hbj : b = UInt8.ofNat (zs.getD j 0).toNat := by
      rw [List.getElem?_map, List.getElem?_take, if_pos (by omega), List.getElem?_eq_getElem (by omega)] at hj
      simp only [Option.map_some, Option.some.injEq] at hj
      rw [← hj, List.getD, List.getElem?_eq_getElem (by omega)]
      rfl
    have hw : 0 ≤ zs.getD j 0 ∧ zs.getD j 0 ≤ 255 := by
      have hmem : zs.getD j 0 ∈ zs := by
        rw [List.getD, List.getElem?_eq_getElem (show j < zs.length by omega)]
        exact List.getElem_mem _
      simpa [Lit.wf, IntKind.min, IntKind.max, IntKind.signed, IntKind.bits] using hwz _ hmem
    rw [hbj]
    unfold u8v
    simp only [UInt8.toNat_ofNat']
    congr 2
    omega
/-- a []byte that comes in -/
theorem open_u8s {W : World} {base : Nat} {spare : Nat → Bool} {held : Bool} {r : Reach} {b0 : Nat} {t e : TypeId} {v : Value} {d : DataW H} {p : List MemPlace} (hu : U8 P t e) (hc : P.cellsOf e = 1)
    (hval : Value.okWide P W r b0 t v) (h : DataW.Trod enc P W base spare held t v d p) : ∃ A c l, v = .slice A l.length c ∧ Bs (fun k => k < W.heap.size) W A c l ∧ ((d = .nil ∧ l = []) ∨ ∃ es sp, d = .slice es sp ∧ es.length = l.length) := by
  obtain ⟨a, len, cap, rfl⟩ := okWide_slice hu.ht hval
  obtain ⟨fuel, hf⟩ := h
  obtain ⟨A, c, l, hcs, hb, hd⟩ := trod_u8s hu hc hf
  simp [Value.cells] at hcs
  obtain ⟨rfl, rfl, rfl⟩ := hcs
  exact ⟨a, cap, l, rfl, hb, hd⟩
end


theorem wf_i64 {x : Int} (h : (Lit.int .i64 x).wf = true) : -9223372036854775808 ≤ x ∧ x ≤ 9223372036854775807 := by
  simpa [Lit.wf, IntKind.min, IntKind.max, IntKind.signed, IntKind.bits] using h
theorem wf_u64 {x : Int} (h : (Lit.int .u64 x).wf = true) : 0 ≤ x ∧ x ≤ 18446744073709551615 := by
  simpa [Lit.wf, IntKind.min, IntKind.max, IntKind.signed, IntKind.bits] using h
theorem readable_of {P : Program} {l : List TypeId} (h : l.all (fun t => P.readableRec t && decide (t < P.types.size)) = true) : ∀ t ∈ l, P.readableRec t = true ∧ t < P.types.size := by
  intro t ht
  have := List.all_eq_true.1 h t ht
  simpa using this
theorem cells_u8 : Try.prog.cellsOf 5 = 1 := by kernel_rfl
theorem bytes_u8 : Try.prog.bytesOf 5 = 1 := by kernel_rfl

/-! ## The bound of the second form -/
theorem bound {H : Type} {l : List (DataW H)} (hk : Rows.uptoSmall H l = true) : Rows.uptoBulkAll l ≤ 1048576 := of_decide_eq_true hk
end Go.Proofs.Ytnhcbjlaeaohjaa

namespace Go.Proofs.Ytnhcbjlaeaohjaa.Sep
open Go.ChangeShapes Go.WideShapes Go.ChangeAt Go.RowKit
section
variable {H : Type} {enc : TypeId × Value → H} {W : World} {base b0 : Nat} {r : Reach} {spare : Nat → Bool} {held : Bool} {v : Value} {d : DataW H} {p : List MemPlace}
theorem open_8 {A : Option Addr} {c : Nat} {l : List UInt8} (hb : Bs (fun k => k < W.heap.size) W A c l) : Sl8 W (.slice A l.length c) l := ⟨A, c, rfl, hb.weaken fun _ _ _ => trivial⟩
end
end Go.Proofs.Ytnhcbjlaeaohjaa.Sep

namespace Go.Proofs.Ytnhcbjlaeaohjaa.Sep
open Go.RowKit
open Go.Proofs.Ytnhcbjlaeaohjaa.Mem (Dist Blk Chg below0)

end Go.Proofs.Ytnhcbjlaeaohjaa.Sep

namespace Go.Proofs.Ytnhcbjlaeaohjaa.Sep
open Go.RowKit
open Go.Proofs.Ytnhcbjlaeaohjaa.Mem (Dist Blk Chg below0)

end Go.Proofs.Ytnhcbjlaeaohjaa.Sep

namespace Go.Proofs.Ytnhcbjlaeaohjaa.Sep
open Go.RowKit
open Go.Proofs.Ytnhcbjlaeaohjaa.Mem (Dist Blk Chg below0)

end Go.Proofs.Ytnhcbjlaeaohjaa.Sep

namespace Go.Proofs.Ytnhcbjlaeaohjaa.Sep
open Go.RowKit
open Go.Proofs.Ytnhcbjlaeaohjaa.Mem (Dist Blk Chg below0)

theorem rbyte_le (most : Nat) (l : List UInt8) (f : Nat) : (rbyte most l f).1 ≤ most := by
  unfold rbyte
  split
  · exact Nat.zero_le _
  · cases l with
    | nil => exact Nat.zero_le _
    | cons b r =>
      simp only
      split
      · exact Nat.zero_le _
      · show b.toNat ≤ most; omega
theorem rr_mk {B : Value} {b : List UInt8} {g : Nat} : ∀ rs : List RowT, Parts [cell g 82 #[B, .int .i64 0, .int .i64 0]] rs → RrT B b g b 0 rs := fun rs hz => ⟨0, Nat.zero_le _, rfl, hz.one'⟩
end Go.Proofs.Ytnhcbjlaeaohjaa.Sep

namespace Go.Proofs.Ytnhcbjlaeaohjaa.Sep
open Go.RowKit
open Go.Proofs.Ytnhcbjlaeaohjaa.Mem (Dist Blk Chg below0)

structure RepD where
  code : Int
  val : Int
  hi : Int
  lo : Int
  sc : Int
deriving DecidableEq
structure RepD.ok (r : RepD) : Prop where
  code : I64 r.code
  val : U64 r.val
  hi : I64 r.hi
  lo : U64 r.lo
  sc : I64 r.sc
def RepD.right (r : RepD) : Bool := (decide (0 ≤ r.code) && decide (r.code ≤ 99)) && scB r.sc
end Go.Proofs.Ytnhcbjlaeaohjaa.Sep

namespace Go.Proofs.Ytnhcbjlaeaohjaa.Sep
open Go.RowKit
open Go.Proofs.Ytnhcbjlaeaohjaa.Mem (Dist Blk Chg below0)

end Go.Proofs.Ytnhcbjlaeaohjaa.Sep

namespace Go.Proofs.Ytnhcbjlaeaohjaa.Sep
open Go.RowKit
open Go.Proofs.Ytnhcbjlaeaohjaa.Mem (Dist Blk Chg below0)

set_option maxRecDepth 100000 in
theorem pick (w : World) (a m : Int) (ha : -9223372036854775808 ≤ a ∧ a ≤ 9223372036854775807) (hm : 1 ≤ m ∧ m ≤ 9223372036854775807) {r : Int} (hr : a % m = r) : Calls Try.prog 27 #[.int .i64 a, .int .i64 m] w fun e w' => e = .returned (.int .i64 r) ∧ Below w.heap.size w w' := by
  have hlt := Int.emod_lt_of_pos a (show 0 < m by omega)
  have hge := Int.emod_nonneg a (show m ≠ 0 by omega)
  have ht : (0 ≤ a.tmod m ∧ a.tmod m = r) ∨ (a.tmod m < 0 ∧ a.tmod m + m = r) := by
    rw [Int.tmod_eq_emod, ← hr]
    split
    · left; omega
    · rename_i h
      right
      have hne : a % m ≠ 0 := fun e => h (.inr (Int.dvd_of_emod_eq_zero e))
      omega
  rw [hr] at hlt hge
  obtain ⟨t, htm⟩ : ∃ t, a.tmod m = t := ⟨_, rfl⟩
  rw [htm] at ht
  refine d_in (args := [.int .i64 a, .int .i64 m]) 14 Try.func27 rfl rfl rfl ?_
  refine d_reg ?_
  refine h_q hflS rfl ?_
  refine h_done (d_reg ?_)
  refine h_q hflS rfl ?_
  refine h_val rfl (.int .i64 t) (fun b w hb hH => exec_remI rfl rfl rfl (by omega) htm hb) ?_
  refine h_q hflS rfl ?_
  refine h_done (d_seq ?_)
  rcases ht with ⟨h1, h2⟩ | ⟨h1, h2⟩
  · skip
    subst h2
    refine d_reg ?_
    refine h_q hflS rfl ?_
    refine h_val rfl (.bool false) (fun b w hb hH => exec_cmp rfl rfl rfl (cmp_lss_f (by omega)) hb) ?_
    refine h_done (d_else rfl (d_skip (f_to (d_reg ?_))))
    refine h_q hflS rfl ?_
    refine h_done (d_ret ?_)
    exact f_fin1 (.tmp rfl) (fun w h => ⟨rfl, below0 h.up⟩) rfl
  · skip
    refine d_reg ?_
    refine h_q hflS rfl ?_
    refine h_val rfl (.bool true) (fun b w hb hH => exec_cmp rfl rfl rfl (cmp_lss_t (by omega)) hb) ?_
    refine h_done (d_then rfl (d_reg1 ?_))
    refine h_q hflS rfl ?_
    refine h_val rfl (.int .i64 r) (fun b w hb hH => exec_ar rfl rfl rfl rfl (by rw [IntWalk.i64_in _ (by omega)]; omega) hb) ?_
    refine h_q hflS rfl ?_
    refine h_nil (f_to (d_reg ?_))
    refine h_q hflS rfl ?_
    refine h_done (d_ret ?_)
    exact f_fin1 (.tmp rfl) (fun w h => ⟨rfl, below0 h.up⟩) rfl
end Go.Proofs.Ytnhcbjlaeaohjaa.Sep

namespace Go.Proofs.Ytnhcbjlaeaohjaa
open Go.RowKit

def crcMask : BitVec 32 := 2197175160#32
/-- one bit -/
def crcBit (h : BitVec 32) : BitVec 32 := (h >>> 1) ^^^ (if h.getLsbD 0 then crcMask else 0#32)
def crcBits : Nat → BitVec 32 → BitVec 32
  | 0, h => h
  | n + 1, h => crcBit (crcBits n h)
/-- one byte -/
def crcByte (h : BitVec 32) (c : UInt8) : BitVec 32 := crcBits 8 (h ^^^ BitVec.ofNat 32 c.toNat)
def crcRun (h : BitVec 32) (l : List UInt8) : BitVec 32 := l.foldl crcByte h
def crcSum (l : List UInt8) : Nat := (~~~ crcRun (BitVec.allOnes 32) l).toNat

theorem crcSum_lt (l : List UInt8) : crcSum l < 4294967296 := (~~~ crcRun (BitVec.allOnes 32) l).isLt

/-! ## the model's words -/
theorem u32_xor (a b : BitVec 32) : bits .xor .u32 (a.toNat : Int) (b.toNat : Int) = ((a ^^^ b).toNat : Int) := by
  show IntKind.u32.wrap ((BitVec.ofInt 32 (a.toNat : Int) ^^^ BitVec.ofInt 32 (b.toNat : Int)).toNat : Int) = _
  rw [BitVec.ofInt_natCast, BitVec.ofInt_natCast, BitVec.ofNat_toNat, BitVec.ofNat_toNat, BitVec.setWidth_eq, BitVec.setWidth_eq, IntKind.wrap_u32]
  have := (a ^^^ b).isLt
  omega
theorem u32_and_one (a : BitVec 32) : bits .and .u32 (a.toNat : Int) 1 = if a.getLsbD 0 then 1 else 0 := by
  show IntKind.u32.wrap ((BitVec.ofInt 32 (a.toNat : Int) &&& BitVec.ofInt 32 1).toNat : Int) = _
  have h1 : BitVec.ofInt 32 1 = 1#32 := by decide
  rw [BitVec.ofInt_natCast, BitVec.ofNat_toNat, BitVec.setWidth_eq, h1, BitVec.toNat_and, IntKind.wrap_u32]
  have e : a.toNat &&& (1#32).toNat = a.toNat % 2 := Nat.and_one_is_mod _
  rw [e]
  have e2 : a.getLsbD 0 = decide (a.toNat % 2 = 1) := by simp [BitVec.getLsbD, Nat.testBit_zero]
  rw [e2]
  by_cases h : a.toNat % 2 = 1
  · simp [h]
  · have : a.toNat % 2 = 0 := by omega
    simp [this]
/-- a step as the program's Sum reckons it -/
theorem u32_bit (a : BitVec 32) : bits .xor .u32 ((a.toNat : Int) / 2) (IntKind.u32.wrap (bits .and .u32 (a.toNat : Int) 1 * 2197175160)) = ((crcBit a).toNat : Int) := by
  have e1 : (a.toNat : Int) / (2 : Int) = ((a >>> 1).toNat : Int) := by
    rw [BitVec.toNat_ushiftRight, Nat.shiftRight_eq_div_pow]; omega
  have e2 : IntKind.u32.wrap (bits .and .u32 (a.toNat : Int) 1 * 2197175160) = ((if a.getLsbD 0 then crcMask else 0#32).toNat : Int) := by
    rw [u32_and_one, IntKind.wrap_u32]
    cases a.getLsbD 0
    · rfl
    · rfl
  rw [e1, e2, u32_xor]
  rfl
theorem u32_in (a : BitVec 32) (c : UInt8) : bits .xor .u32 (a.toNat : Int) (c.toNat : Int) = ((a ^^^ BitVec.ofNat 32 c.toNat).toNat : Int) := by
  rw [← u32_xor]
  have := UInt8.toNat_lt c
  rw [BitVec.toNat_ofNat, Nat.mod_eq_of_lt (by omega)]
theorem u32_not (r : BitVec 32) : bits .xor .u32 IntKind.u32.max (r.toNat : Int) = ((~~~ r).toNat : Int) := by
  have h : IntKind.u32.max = ((BitVec.allOnes 32).toNat : Int) := by decide
  rw [h, u32_xor, BitVec.allOnes_xor]
end Go.Proofs.Ytnhcbjlaeaohjaa

namespace Go.Proofs.Ytnhcbjlaeaohjaa
open Go.RowKit

theorem sum_any {S : Nat → Prop} (w : World) (A : Option Addr) (c : Nat) (l : List UInt8) (h : Bs S w A c l) (hl : l.length ≤ 140737488355328) :
    Calls Try.prog 79 #[.slice A l.length c] w fun e w' => e = .returned (.int .u32 (crcSum l : Int)) ∧ w = w' := by
  go_enter Try.func79, Try.ntmps79
  go_wp2
  go_loop [3, 5, 6, 9] (fun h _ _ i => ∃ k : Nat, k ≤ l.length ∧ i = .int .i64 k ∧ h = .int .u32 ((crcRun (BitVec.allOnes 32) (l.take k)).toNat : Int)) (fun _ _ _ i => l.length - (intOf i).toNat)
  case atStart => exact ⟨0, Nat.zero_le _, rfl, rfl⟩
  case round =>
    obtain ⟨k, hk, rfl, rfl⟩ := hrel
    by_cases hlt : k < l.length
    · obtain ⟨g, o, rfl, hs, hc⟩ := h.2.2 (by omega)
      have hb := hc k l[k] (List.getElem?_eq_getElem hlt)
      unfold u8v at hb
      clear hc
      have ht : crcRun (BitVec.allOnes 32) (l.take (k + 1)) = crcByte (crcRun (BitVec.allOnes 32) (l.take k)) l[k] := by
        rw [List.take_succ_eq_append_getElem hlt]; unfold crcRun; rw [List.foldl_append]; rfl
      have HT := hid ht
      clear ht
      obtain ⟨b, hbb⟩ : ∃ b, b = l[k] := ⟨_, rfl⟩
      rw [← hbb] at hb HT
      have HB := hid hbb
      clear hbb
      obtain ⟨x, hx⟩ : ∃ x, x = crcRun (BitVec.allOnes 32) (l.take k) := ⟨_, rfl⟩
      rw [← hx] at HT ⊢
      have HX := hid hx
      clear hx
      have hin := u32_in x b
      obtain ⟨y, hy⟩ : ∃ y, y = x ^^^ BitVec.ofNat 32 b.toNat := ⟨_, rfl⟩
      rw [← hy] at hin
      have HY := hid hy
      clear hy
      obtain ⟨n, hn⟩ : ∃ n, n = b.toNat := ⟨_, rfl⟩
      have hn2 : n < 256 := by rw [hn]; exact UInt8.toNat_lt _
      rw [← hn] at hin hb
      clear hn
      go_wp2
      go_loop [3, 6, 17] (fun h _ j => ∃ i : Nat, i ≤ 8 ∧ j = .int .i64 i ∧ h = .int .u32 ((crcBits i y).toNat : Int)) (fun _ _ j => 8 - (intOf j).toNat)
      case atStart => exact ⟨0, by omega, rfl, rfl⟩
      case round =>
        obtain ⟨i, hi, rfl, rfl⟩ := hrel
        by_cases hi8 : i < 8
        · have hbit := u32_bit (crcBits i y)
          rw [IntKind.wrap_u32] at hbit
          obtain ⟨z, hz⟩ : ∃ z, z = crcBits i y := ⟨_, rfl⟩
          rw [← hz] at hbit ⊢
          have HZ := hid hz
          clear hz
          obtain ⟨z', hz'⟩ : ∃ z', z' = crcBit z := ⟨_, rfl⟩
          rw [← hz'] at hbit
          have HZ' := hid hz'
          clear hz'
          go_wp2
          go_round
          case rel => exact ⟨i + 1, by omega, by go_num, by rw [HZ'.out, HZ.out]; rfl⟩
          case measure => simp [intOf]; omega
        · have e8 : i = 8 := by omega
          subst e8
          obtain ⟨z, hz⟩ : ∃ z, z = crcBits 8 y := ⟨_, rfl⟩
          rw [← hz]
          have HZ := hid hz
          clear hz
          go_wp2
          go_round
          case rel => exact ⟨k + 1, by omega, by go_num, by rw [HT.out, HZ.out, HY.out]; rfl⟩
          case measure => simp [intOf]; omega
    · have e : l.take k = l := List.take_of_length_le (by omega)
      rw [e]
      clear e
      obtain ⟨r, hr⟩ : ∃ r, r = crcRun (BitVec.allOnes 32) l := ⟨_, rfl⟩
      rw [← hr]
      have HR := hid hr
      clear hr
      have hnot := u32_not r
      obtain ⟨q, hq⟩ : ∃ q : Nat, q = (~~~ r).toNat := ⟨_, rfl⟩
      rw [← hq] at hnot
      have HQ := hid hq
      clear hq
      go_wp2
      all_goals
        go_ret
        refine ⟨ret_int ?_, rfl⟩
        unfold crcSum
        rw [← HR.out, ← HQ.out]
end Go.Proofs.Ytnhcbjlaeaohjaa

namespace Go.Proofs.Ytnhcbjlaeaohjaa
open Go.RowKit

/-- a sum's four bytes, the least significant one first -/
def le4 (h : Nat) : List UInt8 := [UInt8.ofNat (h % 256), UInt8.ofNat (h / 256 % 256), UInt8.ofNat (h / 65536 % 256), UInt8.ofNat (h / 16777216 % 256)]
def sealed (l : List UInt8) : List UInt8 := l ++ le4 (crcSum l)
theorem ofNat_byte (n : Nat) : (UInt8.ofNat (n % 256)).toNat = n % 256 := by simp [UInt8.toNat_ofNat']

theorem le4_src (w : World) (s : Nat) (hs : s < 4294967296) :
    Bs (One w.heap.size) (w.alloc (.cells #[.int .u8 ((s : Int) % 256), .int .u8 ((s : Int) / 256 % 256), .int .u8 ((s : Int) / 65536 % 256), .int .u8 ((s : Int) / 16777216)] 5)) (some ⟨w.heap.size, 0, none⟩) 4 (le4 s) := by
  have h := new_src w 5 (le4 s) (by simp [le4, maxLen])
  have e : (u8s (le4 s)).toArray = #[.int .u8 ((s : Int) % 256), .int .u8 ((s : Int) / 256 % 256), .int .u8 ((s : Int) / 65536 % 256), .int .u8 ((s : Int) / 16777216)] := by
    have e0 : ((s % 256 : Nat) : Int) = (s : Int) % 256 := by omega
    have e1 : ((s / 256 % 256 : Nat) : Int) = (s : Int) / 256 % 256 := by omega
    have e2 : ((s / 65536 % 256 : Nat) : Int) = (s : Int) / 65536 % 256 := by omega
    have e3 : ((s / 16777216 % 256 : Nat) : Int) = (s : Int) / 16777216 := by omega
    simp only [u8s, le4, List.map_cons, List.map_nil, u8v, ofNat_byte, e0, e1, e2, e3]
  rw [e] at h
  exact h

theorem seal_any {S : Nat → Prop} (w : World) (A : Option Addr) (c : Nat) (l : List UInt8) (h : Bs S w A c l) (hl : l.length + 4 ≤ 140737488355328) :
    Calls Try.prog 38 #[.slice A l.length c] w fun e w' => ∃ v', e = .returned v' ∧ Own 5 w' w.heap.size v' (sealed l) ∧ Below w.heap.size w w' := by
  obtain ⟨i0, hi, hz0, hz1, hz2⟩ := info_parts tyU8.info
  have hb0 : i0.bytes * (l.length + 4) ≤ 281474976710656 := by rw [hz2]; omega
  have hs := crcSum_lt l
  obtain ⟨s, hss⟩ : ∃ s, s = crcSum l := ⟨_, rfl⟩
  rw [← hss] at hs
  have hle : sealed l = l ++ le4 s := by unfold sealed; rw [hss]
  rw [hle]
  have HS := hid hss
  clear hss hle
  go_enter Try.func38, Try.ntmps38
  go_wp2_with (first
    | (at_make; refine wpList_make_own _ rfl _ _ 26 rfl w.heap.size 5 i0 (.int .u8 0) 1 Try.underlying26 hi hz0 hz1 .i64 .i64 _ (l.length + 4) rfl rfl (by simp) hb0 (by unfold maxLen; omega) (Nat.le_refl _) ?_; intro w1 ho1' hg1; have ho1 : Own 5 w1 w.heap.size (.slice (some ⟨w.heap.size, 0, none⟩) 0 (l.length + 4)) [] := ho1'; have hm1 : Mod Nil w w1 := Mod.of_grown hg1 (fun _ h => by cases h); have hb1 := h.mod hm1 (fun _ _ hf => hf))
    | (at_builtin; refine wpList_append_bs (t := 26) tyU8 rfl (.tmp 9) (.tmp 10) rfl ho1 hm1.size hb1 l.length (by simp) rfl rfl (by omega) ?_; intro A2 c2 w2 ho2 hm2 ha2; have hmw := hm1.trans hm2 (fun k hk e => by rw [At.iff] at e; omega); have hb2 := h.mod hmw (fun _ _ hf => hf); have hB2 : w.heap.size ≤ (w2.alloc (.cells #[.int .u8 ((s : Int) % 256), .int .u8 ((s : Int) / 256 % 256), .int .u8 ((s : Int) / 65536 % 256), .int .u8 ((s : Int) / 16777216)] 5)).heap.size := Nat.le_trans hmw.size (by simp))
    | (go_at_call 79; refine (sum_any w2 A c l hb2 (by omega)).mono ?_; rintro e w' ⟨rfl, rfl⟩; rw [← HS.out])
    | (at_builtin; refine wpList_append_bs (t := 26) tyU8 rfl (.tmp 14) (.tmp 26) rfl (ho2.mod ((Mod.refl Nil w2).alloc _) (fun _ _ hf => hf)) hB2 (le4_src w2 s hs) (l.length + 4) (by simp [le4]) rfl rfl hl ?_; intro A3 c3 w3 ho3 hm3 ha3))
  go_ret
  refine ⟨_, rfl, by simpa using ho3, ?_⟩
  refine ((hmw.alloc _).trans hm3 (fun k hk e => ?_)).below (Nat.le_refl _) (fun _ hf => hf.elim)
  have := (ho2.lt k e).1
  omega

end Go.Proofs.Ytnhcbjlaeaohjaa

namespace Go.Proofs.Ytnhcbjlaeaohjaa
open Go.RowKit

end Go.Proofs.Ytnhcbjlaeaohjaa

namespace Go.Proofs.Ytnhcbjlaeaohjaa
open Go.RowKit

theorem op_append_bs {P : Program} {t e : TypeId} {base c : Nat} {v : Value} {l m : List UInt8} {S : Nat → Prop} {A : Option Addr} {w : World} {o : Oper} {a : Act} {K : Act → World → Prop} {Q : Exit → Act → World → Prop}
    (hu : U8 P t e) (s x : Operand) (ho : o.op = .call { callee := .builtin .append, args := #[s, x], argTypes := #[t, t] })
    (hown : Own e w base v l) (hb : base ≤ w.heap.size) (hr : Bs S w A c m) (n : Nat) (hn : n = l.length + m.length) (hs : a.eval s = v) (hx : a.eval x = .slice A m.length c) (hlen : n ≤ 140737488355328)
    (h : ∀ A' c' w', Own e w' base (.slice A' n c') (l ++ m) → Mod (At v) w w' → (∀ k, At (.slice A' n c') k → At v k ∨ k = w.heap.size) → K (a.put o.dst (.slice A' n c')) w') : Oper.wp P o a w K Q := by
  obtain ⟨v', w', hrun, h2, h3, h4⟩ := run_append_bs (P := P) (ty := o.type) hu hown hb hr (by omega)
  obtain ⟨A', c', rfl, _⟩ := h2.form
  rw [List.length_append, ← hn] at h2 hrun h4
  unfold Oper.wp execOp
  simp only [ho, resolve, invoke, builtin, Sem.run_bind, Sem.run_pure, Result.andThen_ok, List.map_toArray, List.map_cons, List.map_nil, hs, hx, hrun]
  exact h A' c' w' h2 h3 h4

set_option maxRecDepth 100000 in
set_option maxHeartbeats 4000000 in
theorem refRText_any {S : Nat → Prop} (w : World) (p c f : Nat) (most : Int) (A : Option Addr) (b l : List UInt8) (h : RRd S w p A c b l f) (hm1 : -9223372036854775808 ≤ most) (hm : most ≤ 9223372036854775807) :
    Calls Try.prog 64 #[.pointer (some ⟨p, 0, none⟩), .int .i64 most] w fun e w' =>
      ∃ v', e = .returned v' ∧ Own 5 w' w.heap.size v' (rtext most l f).1 ∧ RRd S w' p A c b (rtext most l f).2.1 (rtext most l f).2.2 ∧ Mod (One p) w w' := by
  have h' := h
  obtain ⟨j, hj, rfl, hr, hs, hl, hne⟩ := h
  have h0 := hr.cell 0
  have h1 := hr.cell 1
  have h2 := hr.cell 2
  simp at h0 h1 h2
  by_cases hf : f = 0
  · subst hf
    have hC := refRNum_any w p c 0 most.toNat A b (b.drop j) h' (by omega)
    have hn : rnum most.toNat (b.drop j) 0 = ((vnum most.toNat (b.drop j) 0 0).1, (b.drop j).drop (vnum most.toNat (b.drop j) 0 0).2.1, (vnum most.toNat (b.drop j) 0 0).2.2) := by unfold rnum; rw [if_neg (by simp)]
    rw [hn] at hC
    have hcv : IntKind.u64.wrap (max most 0) = (most.toNat : Int) := by rw [IntKind.wrap_u64]; omega
    have hends := vnum_ends most.toNat (b.drop j) 0 0 (by omega) (by decide)
    have hE : rtext most (b.drop j) 0 = if (vnum most.toNat (b.drop j) 0 0).2.2 ≠ 0 then ([], b.drop j, (vnum most.toNat (b.drop j) 0 0).2.2)
      else if (b.drop j).length - (vnum most.toNat (b.drop j) 0 0).2.1 < (vnum most.toNat (b.drop j) 0 0).1 then ([], b.drop j, 10)
      else (((b.drop j).drop (vnum most.toNat (b.drop j) 0 0).2.1).take (vnum most.toNat (b.drop j) 0 0).1, (b.drop j).drop ((vnum most.toNat (b.drop j) 0 0).2.1 + (vnum most.toNat (b.drop j) 0 0).1), 0) := by unfold rtext; rw [if_neg (by simp)]
    obtain ⟨⟨n, s, e2⟩, hx⟩ : ∃ x, vnum most.toNat (b.drop j) 0 0 = x := ⟨_, rfl⟩
    rw [hx] at hC hE hends
    simp only at hC hE hends
    have hC' : ∀ x : Int, x = (most.toNat : Int) → Calls Try.prog 63 #[.pointer (some ⟨p, 0, none⟩), .int .u64 x] w fun e w' =>
      e = .returned (.int .u64 (n : Int)) ∧ RRd S w' p A c b ((b.drop j).drop s) e2 ∧ Mod (One p) w w' := fun x hx => by rw [hx]; exact hC
    have HC := hid hC'
    have HE := hid hE
    clear hC hC' hx hn hE h'
    by_cases he2 : e2 = 0
    · subst he2
      have hs0 : 0 < s ∧ s ≤ (b.drop j).length ∧ n ≤ most.toNat := by omega
      clear hends
      have HS := hid hs0
      clear hs0
      have hn63 : n ≤ 9223372036854775807 := by have := HS.out; omega
      go_enter Try.func64, Try.ntmps64
      go_wp2_with (go_at_call 63; refine Calls.mono (HC.out _ (by omega)) ?_; rintro e w1 ⟨rfl, ⟨j1, hj1, hl1, hr1, hs1, _, _⟩, hm1⟩; have k0 := hr1.cell 0; have k1 := hr1.cell 1; have k2 := hr1.cell 2; have g1 := hr1.frozen 1; simp at k0 k1 k2)
      all_goals
        have hd1 : (b.drop j).length - s = b.length - j1 := by rw [← List.length_drop, hl1, List.length_drop]
        have HD1 := hid hd1
        have HL1 := hid hl1
        clear hd1 hl1
        by_cases hlt : b.length - j1 < n
        · have hlt' : (b.length : Int) - j1 < n := by omega
          go_quiet (fail)
          go_wp2_with (go_at_call 85; refine (refWrong_any _ p _ _ _ _ _ (hr1.mod ((Mod.refl Nil w1).drewN _) (fun hf => hf))).mono ?_; rintro e w2 ⟨rfl, hr2, hm2⟩)
          go_ret
          rw [HE.out, if_neg (by simp), HD1.out, if_pos hlt]
          have hm3 := (hm1.drewN _).same hm2
          exact ⟨_, rfl, Own.nil _ _ _, ⟨j, hj, rfl, hr2, hs.mod hm3 hne, hl, hne⟩, hm3⟩
        · have hlt' : (n : Int) ≤ (b.length : Int) - j1 := by omega
          obtain ⟨A2, hs2, hsl0⟩ := run_cut tyU8 hs1 j1 (j1 + n) (by omega) (by omega)
          have e1 : (b.take (j1 + n)).drop j1 = (b.drop j1).take n := by rw [List.drop_take]; congr 1; omega
          have e2 : ((b.drop j1).take n).length = n := by rw [List.length_take, List.length_drop]; omega
          rw [e1] at hsl0 hs2
          obtain ⟨T, hT⟩ : ∃ T, T = (b.drop j1).take n := ⟨_, rfl⟩
          rw [← hT] at hsl0 hs2 e2
          simp only [Int.natCast_add] at hsl0
          have HT := hid hT
          have H2 := hid e2
          have hTl : T.length ≤ 140737488355328 := by omega
          clear e1 e2 hT
          have own0 : ∀ W : World, Own 5 (W.alloc (.cells #[] 5)) W.heap.size (.slice (some ⟨W.heap.size, 0, none⟩) 0 0) [] := fun W => World.ownsRow_made W #[] 0 (Nat.le_refl _) (by simp [maxLen]) rfl
          have src : ∀ W, Mod Nil w1 W → Bs S W A2 (c - j1) T := fun W hW => hs2.mod hW (fun _ _ hf => hf)
          have mk : ∀ W, Mod Nil w1 W → W.cell? ⟨p, 0, none⟩ = some (.slice A b.length c) ∧ W.cell? ⟨p, 1, none⟩ = some (.int .i64 (j1 : Int)) := fun W hW => by
            have hr2 := hr1.mod hW (fun hf => hf)
            have q0 := hr2.cell 0
            have q1 := hr2.cell 1
            simp at q0 q1
            exact ⟨q0, q1⟩
          have MK := hid mk
          have hwn : IntKind.i64.wrap (n : Int) = n := by rw [IntKind.wrap_i64]; omega
          have hwj : IntKind.i64.wrap ((j1 : Int) + n) = j1 + n := by rw [IntKind.wrap_i64]; omega
          clear mk hs2
          go_quiet (fail)
          go_wp2_with fail
          go_region_held3 (fun W => W.cell? ⟨p, 0, none⟩ = some (.slice A b.length c) ∧ W.cell? ⟨p, 1, none⟩ = some (.int .i64 (j1 : Int)))
            (first
              | exact MK.out _ (((Mod.refl Nil w1).drewN _).drew)
              | exact MK.out _ ((((Mod.refl Nil w1).drewN _).drew).alloc _)
              | exact MK.out _ hM5)
            (first | (rw [if_pos (by rfl)]; refine op_append_bs (t := 26) tyU8 (.tmp 43) (.tmp 59) rfl (own0 _) (by simp) (src _ ((((Mod.refl Nil w1).drewN _).drew).alloc _)) T.length (by simp) rfl rfl (by omega) ?_; intro A5 c5 w5 ho5 hm5 ha5; have hM5 : Mod Nil w1 w5 := ((((Mod.refl Nil w1).drewN _).drew).alloc _).trans hm5 (fun i hi hk => by rw [At.iff] at hk; have hk' : i = w1.heap.size := hk; omega)))
          have hr5 := hr1.mod hM5 (fun hf => hf)
          have q0 := hr5.cell 0
          have q1 := hr5.cell 1
          have fz := hr5.frozen 1
          simp at q0 q1
          go_wp2_with fail
          go_ret
          have e3 : T = ((b.drop j).drop s).take n := by rw [HL1.out]; exact HT.out
          have e4 : (b.drop j).drop (s + n) = b.drop (j1 + n) := by rw [← List.drop_drop, HL1.out, List.drop_drop]
          rw [HE.out, if_neg (by simp), HD1.out, if_neg hlt, ← e3, e4]
          rw [List.nil_append] at ho5
          have hp1 := hr1.lt
          have hsz := hm1.size
          have ho6 : Own 5 w5 w.heap.size (.slice A5 T.length c5) T := ho5.rebase (fun k hk => Nat.le_trans hsz (ho5.lt k hk).1)
          have hall : Mod (One p) w (w5.setCell ⟨p, 1, none⟩ (.int .i64 ((j1 : Int) + n))) := (hm1.trans hM5 (fun _ _ hf => hf.elim)).same (Mod.one _ _ _ _)
          refine ⟨_, rfl, ho6.mod (Mod.one _ p 1 _) (fun k hk e => ?_), ⟨j1 + n, by omega, rfl, ?_, hs.mod hall hne, hl, hne⟩, hall⟩
          · have h5 : w1.heap.size ≤ k := (ho5.lt k hk).1
            unfold One at e
            omega
          · exact hr5.set 1 _
    · have HS := hid (show s = 0 by omega)
      clear hends
      go_enter Try.func64, Try.ntmps64
      go_wp2_with (go_at_call 63; refine Calls.mono (HC.out _ (by omega)) ?_; rintro e w1 ⟨rfl, ⟨j1, hj1, hl1, hr1, hs1, _, _⟩, hm1⟩; have k0 := hr1.cell 0; have k1 := hr1.cell 1; have k2 := hr1.cell 2; have g1 := hr1.frozen 1; simp at k0 k1 k2)
      all_goals
        go_ret
        rw [HE.out, if_pos he2]
        rw [HS.out, List.drop_zero] at hl1
        exact ⟨_, rfl, Own.nil _ _ _, ⟨j1, hj1, hl1, hr1, hs1, hl, hne⟩, hm1⟩
  · have hE : rtext most (b.drop j) f = ([], b.drop j, f) := by unfold rtext; rw [if_pos hf]
    have HE := hid hE
    clear hE
    go_enter Try.func64, Try.ntmps64
    go_wp2
    go_ret
    rw [HE.out]
    exact ⟨_, rfl, Own.nil _ _ _, ⟨j, hj, rfl, hr, hs, hl, hne⟩, Mod.refl _ _⟩
end Go.Proofs.Ytnhcbjlaeaohjaa

namespace Go.Proofs.Ytnhcbjlaeaohjaa
open Go.RowKit

/-- At block p lies a Reader of the bytes l with the fault f; its bytes lie in the blocks from base on, ahead of p. -/
def Rdr (w : World) (base p : Nat) (l : List UInt8) (f : Nat) : Prop :=
  l.length ≤ 140737488355328 ∧ ∃ A c, Row w p 99 #[.slice A l.length c, .int .i64 (f : Int)] ∧ Bs (fun k => base ≤ k ∧ k < p) w A c l

theorem Rdr.mod {S : Nat → Prop} {w w' : World} {base p f : Nat} {l : List UInt8} (h : Rdr w base p l f) (hm : Mod S w w') (hn : ∀ k, base ≤ k → k ≤ p → ¬ S k) (hb : base ≤ p) : Rdr w' base p l f := by
  obtain ⟨hl, A, c, hr, hs⟩ := h
  exact ⟨hl, A, c, hr.mod hm (hn p hb (Nat.le_refl _)), hs.mod hm (fun k hk => hn k hk.1 (by omega))⟩
theorem Rdr.lt {w : World} {base p f : Nat} {l : List UInt8} (h : Rdr w base p l f) : p < w.heap.size := by
  obtain ⟨_, _, _, hr, _⟩ := h
  exact hr.lt

end Go.Proofs.Ytnhcbjlaeaohjaa

namespace Go.Proofs.Ytnhcbjlaeaohjaa.Sep
open Go.RowKit
open Go.Proofs.Ytnhcbjlaeaohjaa.Mem (Dist Blk Chg below0)
section
variable {P : Program} {Q : Exit → Act → World → Prop} {n : Nat} {env : List (Nat × Value)} {B : Nat → Prop} {w0 w : World} {os : List Ass} {o : Oper}
/-- a call that reads what can be read in the present world, and answers new things -/
theorem a_makes {X : Type} {F : FuncId} {f : Operand} {args : Array Operand} {ats : Array TypeId} {vs : List Value} {val : X → Value} {post : X → List Ass} {os' : X → List Ass} (ids : List Nat) (pads : Nat) (hE : Ent P F) (hc : ∀ w, Hp B w0 w os → DoesU w P F vs.toArray [] val post) (hp : selA ids os = List.replicate pads emp) (hn : nodupB ids = true) (hb : (ids.all fun i => Nat.blt i os.length) = true) (he : ∀ x, (post x).drop ids.length ++ replA ids (padTo ids.length (post x)) os = os' x) (ho : o.op = .call { callee := .value f, args := args, argTypes := ats }) (hf : evs env f = some (.func (.func F) #[] #[])) (hx : evl env args.toList = some vs) :
    Acts P Q n env B w0 os o val os' := fun b w hH hb' K hK => by
  unfold Oper.wp
  rw [exec_call hE ho hf hx hb', Oper.upon_enter]
  obtain ⟨x, h0, h1, h2, h3, h4⟩ := hH.give2 ids (nodupB_iff hn)
  rw [hp] at h1
  have hx0 : x = [] := parts_emp.1 h1
  subst hx0
  refine (hc w hH w [] (Below.refl _ _) (fun x hx => by cases hx) rfl trivial trivial).mono ?_
  rintro e w' ⟨x, rfl, rs', hpx, hch⟩
  have hq := h4 (post x) rs' w' hpx hch
  refine hK x w' (he x ▸ Hp.imp hq fun rs h => ?_)
  obtain ⟨a, c, e, ha, hc'⟩ := h.split
  obtain ⟨a', p, ha'⟩ := padTo_parts (k := ids.length) ha
  have h2 := Parts.app ha' hc'
  rw [List.append_assoc] at h2
  obtain ⟨r2, p2, h3⟩ := h2.perm ((repl_perm (xs := post x) (nodupB_iff hn) hb).append_left _)
  exact ⟨r2, e ▸ (p.append_right c).trans p2, h3⟩
end
section
variable {P : Program} {F : FuncId} {args : Array Value} {l m b l' : List UInt8} {u : World} {g f f' : Nat} {v B : Value} {val : Value}
theorem does_ownV (val : Value → Value) (h : ∀ w, Below u.heap.size u w → Calls P F args w fun e w' => ∃ v', e = .returned (val v') ∧ Own 5 w' w.heap.size v' l ∧ Below w.heap.size w w') : DoesU u P F args [] val (fun v => [Vec 5 1 encB v l]) := fun w rs hU _ h1 h2 h3 => by
  unfold Parts at h1
  subst h1
  refine (h w hU).mono ?_
  rintro e w' ⟨v, he, ho, hb⟩
  obtain ⟨rs', hv, hr, hd, hx⟩ := own_vec ho
  exact ⟨v, he, rs', Parts.one hv, by simpa using chg_new (rs := []) trivial trivial hb hr hd fun x h => (hx x h).2⟩
theorem seal_mk (hv : Sl8 u v l) (hl : l.length + 4 ≤ 140737488355328) (r : List UInt8) (hr : sealed l = r) : DoesU u Try.prog 38 #[v] [] (fun v : Value => v) (fun v => [Vec 5 1 encB v r]) := by
  subst hr
  refine does_ownV (fun v => v) fun w hU => ?_
  obtain ⟨A, c, rfl, hb⟩ := hv.below hU
  exact seal_any w A c l hb hl
theorem r1_text (hv : Sl8 u v l) (hl : l.length + 10 ≤ 140737488355328) (r : List UInt8) (hr : layT l = r) : DoesU u Try.prog 56 #[v] [] (fun v : Value => v) (fun v => [Vec 5 1 encB v r]) := by
  subst hr
  refine does_ownV (fun v => v) fun w hU => ?_
  obtain ⟨A, c, rfl, hb⟩ := hv.below hU
  exact refText_any w A c l hb hl
/-! ## Text into a writer -/
theorem wt_textV (g : Nat) (l m : List UInt8) (v : Value) (r : List UInt8) (hr : l ++ layT m = r) (hl : l.length + m.length + 10 ≤ 140737488355328) : Does Try.prog 45 #[.pointer (some ⟨g, 0, none⟩), v] [WtT g l, Vec 5 1 encB v m] (fun _ : Unit => .tuple #[]) (fun _ => [WtT g r, Vec 5 1 encB v m]) := fun w rs h1 h2 h3 => by
  obtain ⟨a, b, rfl, ha, hb⟩ := h1
  have hb := hb.one'
  have ra : RowsOf w a := rows_iff.2 fun z hz => rows_iff.1 h2 z (by simp [hz])
  have rb : RowsOf w b := rows_iff.2 fun z hz => rows_iff.1 h2 z (by simp [hz])
  have hd := dist_iff.1 h3
  rw [List.map_append] at hd
  obtain ⟨wv, rv, rfl, hv, hw⟩ := wt_wtr ha ra
  have hfoot : ∀ k, Foot g wv k → Blk ((g, 94, #[wv]) :: rv) k := by
    rintro k (rfl | hk)
    · exact ⟨_, List.mem_cons_self, rfl⟩
    · rcases hv with ⟨e1, _, _⟩ | ⟨g', c, cs, e1, _, _, _, _, e6⟩
      · subst e1; exact absurd hk At.none
      · subst e1; subst e6
        exact ⟨(g', 5, cs), by simp, (At.iff.1 hk).symm⟩
  have hatv : ∀ k, At v k → Blk b k := fun k hk => by
    rcases hb with ⟨e1, _, _⟩ | ⟨g', c, cs, e1, _, _, _, _, e6⟩
    · subst e1; exact absurd hk At.none
    · subst e1; subst e6
      exact ⟨(g', 5, cs), by simp, (At.iff.1 hk).symm⟩
  have hap : ∀ k, At v k → ¬ Foot g wv k := fun k hk hf => by
    obtain ⟨x, hx, ex⟩ := hfoot k hf
    obtain ⟨y, hy, ey⟩ := hatv k hk
    exact (List.nodup_append.1 hd).2.2 _ (List.mem_map_of_mem hx) _ (List.mem_map_of_mem hy) (ex.trans ey.symm)
  obtain ⟨A, c, rfl, hbs⟩ := (vec_own hb rb).form
  refine (writerText_any w g wv l A c m hw hbs hap hl).mono ?_
  rintro e w' ⟨v', he, hw', hm, hat⟩
  obtain ⟨rs', hv', hr', hd', hx'⟩ := own_vec hw'.2
  have er : l ++ vlay m.length ++ m = r := by rw [← hr]; simp [layT]
  rw [er] at hw' hv'
  have hb' : RowsOf w' b := rows_iff.2 fun z hz => by
    have hz0 := rows_iff.1 rb z hz
    refine hz0.mod hm fun hf => ?_
    obtain ⟨x, hx, ex⟩ := hfoot _ hf
    exact (List.nodup_append.1 hd).2.2 _ (List.mem_map_of_mem hx) _ (List.mem_map_of_mem hz) ex
  have hnew : ∀ x ∈ (g, 94, #[v']) :: rs', Blk ((g, 94, #[wv]) :: rv) x.1 ∨ w.heap.size ≤ x.1 := fun x hxm => by
    rcases List.mem_cons.1 hxm with rfl | hxm
    · exact .inl ⟨_, List.mem_cons_self, rfl⟩
    · rcases hat _ (hx' x hxm).1 with h | h
      · exact .inl (hfoot _ (.inr h))
      · exact .inr h
  have hda : Dist ((g, 94, #[v']) :: rs') := ⟨fun y hy e => hw'.2.ne_row hw'.1 (by decide) ((show y.1 = g from e) ▸ (hx' y hy).1), hd'⟩
  refine ⟨(), he, ((g, 94, #[v']) :: rs') ++ b, ⟨_, b, rfl, ⟨v', [(g, 94, #[v'])], rs', rfl, rfl, Parts.one hv'⟩, Parts.one hb⟩, hm.weaken fun k hk hf => ?_, rows_iff.2 fun z hz => ?_, Mem.dist_app hda (dist_iff.2 (List.nodup_append.1 hd).2.1) fun x hx y hy e => ?_, fun x hx hlt => ?_⟩
  · obtain ⟨x, hx, ex⟩ := hfoot k hf
    exact ⟨x, List.mem_append_left _ hx, ex⟩
  · rcases List.mem_append.1 hz with h | h
    · exact rows_iff.1 (show RowsOf w' ((g, 94, #[v']) :: rs') from ⟨hw'.1, hr'⟩) z h
    · exact rows_iff.1 hb' z h
  · rcases hnew x hx with ⟨z, hz, ez⟩ | h
    · exact (List.nodup_append.1 hd).2.2 _ (List.mem_map_of_mem hz) _ (List.mem_map_of_mem hy) (ez.trans e.symm)
    · have := (rows_iff.1 rb y hy).lt
      omega
  · rcases List.mem_append.1 hx with h | h
    · rcases hnew x h with ⟨z, hz, ez⟩ | h
      · exact ⟨z, List.mem_append_left _ hz, ez⟩
      · omega
    · exact ⟨x, List.mem_append_right _ h, rfl⟩
theorem wt_textU (hv : Sl8 u v m) (g : Nat) (l : List UInt8) (r : List UInt8) (hr : l ++ layT m = r) (hl : l.length + m.length + 10 ≤ 140737488355328) : DoesU u Try.prog 45 #[.pointer (some ⟨g, 0, none⟩), v] [WtT g l] (fun _ : Unit => .tuple #[]) (fun _ => [WtT g r]) := fun w rs hU hS h1 h2 h3 => by
  obtain ⟨wv, rv, rfl, hv0, hw⟩ := wt_wtr h1.one' h2
  obtain ⟨A, c, rfl, hb⟩ := hv
  have hfoot : ∀ k, Foot g wv k → Blk ((g, 94, #[wv]) :: rv) k := by
    rintro k (rfl | hk)
    · exact ⟨_, List.mem_cons_self, rfl⟩
    · rcases hv0 with ⟨e1, _, _⟩ | ⟨g', c, cs, e1, _, _, _, _, e6⟩
      · subst e1; exact absurd hk At.none
      · subst e1; subst e6
        exact ⟨(g', 5, cs), by simp, (At.iff.1 hk).symm⟩
  have hb2 : Bs (fun k => k < u.heap.size) w A c m := (hb.weaken (T := fun k => k < u.heap.size) fun k hk _ => hk).below hU fun _ hk => hk
  refine (writerText_any w g wv l A c m hw hb2 (fun k hk hf => ?_) hl).mono ?_
  · obtain ⟨x, hx, ex⟩ := hfoot k hf
    have := hS x hx
    have hk : k < u.heap.size := hk
    have ex : x.1 = k := ex
    omega
  rintro e w' ⟨v', he, hw', hm, hat⟩
  obtain ⟨rs', hv', hr', hd', hx'⟩ := own_vec hw'.2
  have er : l ++ vlay m.length ++ m = r := by rw [← hr]; simp [layT]
  rw [er] at hw' hv'
  refine ⟨(), he, (g, 94, #[v']) :: rs', Parts.one ⟨v', [(g, 94, #[v'])], rs', rfl, rfl, Parts.one hv'⟩, hm.weaken fun k hk hf => hfoot k hf, ⟨hw'.1, hr'⟩, ⟨fun y hy e => hw'.2.ne_row hw'.1 (by decide) ((show y.1 = g from e) ▸ (hx' y hy).1), hd'⟩, fun x hxm hlt => ?_⟩
  rcases List.mem_cons.1 hxm with rfl | hxm
  · exact ⟨_, List.mem_cons_self, rfl⟩
  · rcases hat _ (hx' x hxm).1 with h | h
    · exact hfoot _ (.inr h)
    · omega
/-! ## The reference's reader over bytes of its own -/
theorem rx_chg {w w' : World} {x y : Array Value} {rv rs' : List RowT} (h2 : RowsOf w ((g, 82, x) :: rv)) (h3 : Dist ((g, 82, x) :: rv)) (hy : Row w' g 82 y) (hm : Mod (One g) w w') (hr' : RowsOf w' rs') (hd' : Dist rs') (hn : ∀ x ∈ rs', w.heap.size ≤ x.1) : Chg w w' ((g, 82, x) :: rv) (((g, 82, y) :: rv) ++ rs') := by
  have hrv : RowsOf w' rv := rows_iff.2 fun z hz => by
    refine (rows_iff.1 h2.2 z hz).mod hm fun e => ?_
    unfold One at e
    exact h3.1 z hz e
  refine ⟨hm.weaken fun k _ e => ⟨_, List.mem_cons_self, e.symm⟩, rows_iff.2 fun z hz => ?_, Mem.dist_app ⟨h3.1, h3.2⟩ hd' fun p hp q hq e => ?_, fun p hp hlt => ?_⟩
  · rcases List.mem_append.1 hz with h | h
    · exact rows_iff.1 (show RowsOf w' ((g, 82, y) :: rv) from ⟨hy, hrv⟩) z h
    · exact rows_iff.1 hr' z h
  · have h1 := hn q hq
    rcases List.mem_cons.1 hp with rfl | hp
    · have := h2.1.lt
      have e : q.1 = g := e
      omega
    · have := (rows_iff.1 h2.2 p hp).lt
      omega
  · rcases List.mem_append.1 hp with h | h
    · rcases List.mem_cons.1 h with rfl | h
      · exact ⟨_, List.mem_cons_self, rfl⟩
      · exact ⟨p, List.mem_cons_of_mem _ h, rfl⟩
    · have := hn p h
      omega
/-- over an argument's bytes: a text -/
theorem rr_text (hB : Sl8 u B b) (hl : b.length ≤ 140737488355328) (most : Int) (hm1 : -9223372036854775808 ≤ most) (hm : most ≤ 9223372036854775807) (R : List UInt8 × List UInt8 × Nat) (h : rtext most l f = R) : DoesU u Try.prog 64 #[.pointer (some ⟨g, 0, none⟩), .int .i64 most] [RrT B b g l f] (fun v : Value => v) (fun v => [RrT B b g R.2.1 R.2.2, Vec 5 1 encB v R.1]) := fun w rs hU hS h1 h2 h3 => by
  subst h
  obtain ⟨j, hj, hlj, rfl⟩ := h1.one'
  obtain ⟨A, c, rfl, hb⟩ := hB
  have hg : u.heap.size ≤ g := hS _ List.mem_cons_self
  have hb2 : Bs (fun k => k < u.heap.size) w A c b := (hb.weaken (T := fun k => k < u.heap.size) fun k hk _ => hk).below hU fun _ hk => hk
  refine (refRText_any w g c f most A b l ⟨j, hj, hlj, h2.1, hb2, hl, fun k hk e => by unfold One at e; omega⟩ hm1 hm).mono ?_
  rintro e w' ⟨v', he, ho, ⟨j', hj', hl', hr', _⟩, hm⟩
  obtain ⟨rs', hv', hr1, hd', hx'⟩ := own_vec ho
  refine ⟨v', he, _, ?_, rx_chg (rs' := rs') h2 h3 hr' hm hr1 hd' (fun x hx => (hx' x hx).2)⟩
  exact ⟨[_], rs', rfl, ⟨j', hj', hl', rfl⟩, Parts.one hv'⟩
end
end Go.Proofs.Ytnhcbjlaeaohjaa.Sep

namespace Go.Proofs.Ytnhcbjlaeaohjaa

/-- a message -/
structure MsgD where
  k : Int
  a : Int
  b : Int
  t : Int
  i : Int
  lt : Int
  es : List EntD
  co : Int
  rf : Bool
  bi : Int
  bt : Int
  bc : Int
  o : Int
  d : List UInt8
  la : Bool
deriving DecidableEq
def MsgD.zero : MsgD := ⟨0, 0, 0, 0, 0, 0, [], 0, false, 0, 0, 0, 0, [], false⟩
structure MsgD.ok (m : MsgD) : Prop where
  k : I64 m.k
  a : I64 m.a
  b : I64 m.b
  t : U64 m.t
  i : U64 m.i
  lt : U64 m.lt
  es : m.es.length ≤ 9223372036854775807 ∧ ∀ e, e ∈ m.es → e.ok
  co : U64 m.co
  bi : U64 m.bi
  bt : U64 m.bt
  bc : I64 m.bc
  o : I64 m.o
  d : m.d.length ≤ 9223372036854775807

/-- the fields of a kind, as a sum of 1 (index), 2 (logterm), 4 (commit), 8 (entries), 16 (refused), 32 (base), 64 (offset), 128 (last), 256 (data) -/
def fm (k : Int) : Nat := if k = 1 then 131 else if k = 2 then 144 else if k = 3 then 15 else if k = 4 then 17 else if k = 5 then 480 else if k = 6 then 96 else 0
theorem fm_kinds {k : Int} (h : fm k ≠ 0) : k = 1 ∨ k = 2 ∨ k = 3 ∨ k = 4 ∨ k = 5 ∨ k = 6 := by
  unfold fm at h
  repeat' split at h
  all_goals first | omega | exact absurd rfl h
theorem fm_off {k : Int} (h : ¬ (1 ≤ k ∧ k ≤ 6)) : fm k = 0 := by
  rcases Nat.eq_zero_or_pos (fm k) with h0 | h0
  · exact h0
  · have := fm_kinds (k := k) (by omega)
    omega

def nodeB (n : Int) : Bool := decide (n ≥ 1) && decide (n ≤ 7)
def lowB (n : Int) : Bool := decide (n ≤ 72057594037927935)
def baseB (m : MsgD) : Bool := numB m.bi && numB m.bt && setB m.bc && m.bc != 0
def zeroB (m : MsgD) : Bool := m.bi == 0 && (m.bt == 0 && m.bc == 0)
def offB (n : Int) : Bool := decide (n ≥ 0) && decide (n ≤ 32768)
/-- do the entries follow? t: the message's term; i: the index before; p: the term before -/
def follow (t : Int) : Int → Int → List EntD → Bool
  | _, _, [] => true
  | i, p, e :: r => rightE e && e.i == i + 1 && decide (p ≤ e.t) && decide (e.t ≤ t) && follow t (i + 1) e.t r
def entsB (m : MsgD) : Bool := decide (m.es.length ≤ 4) && follow m.t m.i m.lt m.es
def rightM (m : MsgD) : Bool :=
  fm m.k != 0 && nodeB m.a && nodeB m.b && m.a != m.b && numB m.t && mayB (wth (fm m.k) 1) (lowB m.i) (m.i == 0) && mayB (wth (fm m.k) 2) (lowB m.lt) (m.lt == 0) && mayB (wth (fm m.k) 4) (lowB m.co) (m.co == 0)
    && mayB (wth (fm m.k) 8) (entsB m) (m.es == []) && mayB (wth (fm m.k) 16) true (m.rf == false) && mayB (wth (fm m.k) 32) (baseB m) (zeroB m) && mayB (wth (fm m.k) 64) (offB m.o) (m.o == 0) && mayB (wth (fm m.k) 128) true (m.la == false) && mayB (wth (fm m.k) 256) (decide (m.d.length ≤ 256)) (m.d == [])
/-- what a message that may be has -/
structure RightMD (m : MsgD) : Prop where
  k : fm m.k ≠ 0
  a : 1 ≤ m.a ∧ m.a ≤ 7
  b : 1 ≤ m.b ∧ m.b ≤ 7
  n : m.a ≠ m.b
  t : 1 ≤ m.t ∧ m.t ≤ 72057594037927935
  i : mayB (wth (fm m.k) 1) (lowB m.i) (m.i == 0) = true
  lt : mayB (wth (fm m.k) 2) (lowB m.lt) (m.lt == 0) = true
  co : mayB (wth (fm m.k) 4) (lowB m.co) (m.co == 0) = true
  es : mayB (wth (fm m.k) 8) (entsB m) (m.es == []) = true
  rf : mayB (wth (fm m.k) 16) true (m.rf == false) = true
  ba : mayB (wth (fm m.k) 32) (baseB m) (zeroB m) = true
  o : mayB (wth (fm m.k) 64) (offB m.o) (m.o == 0) = true
  la : mayB (wth (fm m.k) 128) true (m.la == false) = true
  d : mayB (wth (fm m.k) 256) (decide (m.d.length ≤ 256)) (m.d == []) = true
theorem nodeB_iff {n : Int} (h : nodeB n = true) : 1 ≤ n ∧ n ≤ 7 := by
  unfold nodeB at h
  simpa using h
theorem rightM_iff {m : MsgD} (h : rightM m = true) : RightMD m := by
  unfold rightM at h
  simp only [Bool.and_eq_true, bne_iff_ne, ne_eq] at h
  obtain ⟨⟨⟨⟨⟨⟨⟨⟨⟨⟨⟨⟨⟨h0, h1⟩, h2⟩, h3⟩, h4⟩, h5⟩, h6⟩, h7⟩, h8⟩, h9⟩, h10⟩, h11⟩, h12⟩, h13⟩ := h
  exact ⟨h0, nodeB_iff h1, nodeB_iff h2, h3, numB_iff h4, h5, h6, h7, h8, h9, h10, h11, h12, h13⟩
theorem follow_right {t : Int} : ∀ {es : List EntD} {i p : Int}, follow t i p es = true → ∀ e, e ∈ es → rightE e = true
  | [], _, _, _, e, he => by cases he
  | e0 :: r, i, p, h, e, he => by
    unfold follow at h
    simp only [Bool.and_eq_true] at h
    rcases List.mem_cons.1 he with rfl | he
    · exact h.1.1.1.1
    · exact follow_right h.2 e he

/-! ## What is laid -/
def flagN (b : Bool) : Nat := match b with | true => 1 | false => 0
def layEs (es : List EntD) : List UInt8 := es.flatMap fun e => layT (layE e)
def layN (es : List EntD) : List UInt8 := vlay es.length ++ layEs es
def layB (b : Int × Int × Int) : List UInt8 := layU b.1 ++ (layU b.2.1 ++ [UInt8.ofNat b.2.2.toNat])
def headM (m : MsgD) : List UInt8 := [UInt8.ofNat m.k.toNat, UInt8.ofNat m.a.toNat, UInt8.ofNat m.b.toNat]
def layM (m : MsgD) : List UInt8 :=
  headM m ++ (layU m.t ++ (opt (wth (fm m.k) 1) (layU m.i) ++ (opt (wth (fm m.k) 2) (layU m.lt) ++ (opt (wth (fm m.k) 4) (layU m.co) ++ (opt (wth (fm m.k) 8) (layN m.es) ++ (opt (wth (fm m.k) 16) [UInt8.ofNat (flagN m.rf)] ++ (opt (wth (fm m.k) 32) (layB (m.bi, m.bt, m.bc)) ++ (opt (wth (fm m.k) 64) (layU m.o) ++ (opt (wth (fm m.k) 128) [UInt8.ofNat (flagN m.la)] ++ opt (wth (fm m.k) 256) (layT m.d))))))))))

/-! ## What is read -/
/-- an entry of a message -/
def rent (l : List UInt8) (f : Nat) : EntD × List UInt8 × Nat :=
  match rtext 160 l f with
  | (x, l1, f1) => if f1 ≠ 0 then (.zero, l1, f1) else ((decE x).1, l1, (decE x).2)
theorem rent_text {l l1 x : List UInt8} {f f1 : Nat} (h : rtext 160 l f = (x, l1, f1)) (hf : f1 ≠ 0) : rent l f = (.zero, l1, f1) := by
  unfold rent
  rw [h]
  simp only
  rw [if_pos hf]
theorem rent_of {l l1 x : List UInt8} {f e : Nat} {y : EntD} (h : rtext 160 l f = (x, l1, 0)) (he : decE x = (y, e)) : rent l f = (y, l1, e) := by
  unfold rent
  rw [h]
  simp only
  rw [if_neg (by simp), he]
theorem rent_right {l l' : List UInt8} {f : Nat} {e : EntD} (h : rent l f = (e, l', 0)) : rightE e = true := by
  obtain ⟨⟨x, l1, f1⟩, h1⟩ : ∃ R, rtext 160 l f = R := ⟨_, rfl⟩
  by_cases hf : f1 = 0
  · subst hf
    obtain ⟨⟨y, e'⟩, h2⟩ : ∃ R, decE x = R := ⟨_, rfl⟩
    have e1 := (rent_of h1 h2).symm.trans h
    simp only [Prod.mk.injEq] at e1
    obtain ⟨rfl, rfl, rfl⟩ := e1
    have hb := decE_back x
    rw [h2] at hb
    rcases hb with ⟨hb, _⟩ | ⟨_, hb, _⟩
    · exact absurd rfl hb
    · exact hb
  · have e1 := (rent_text h1 hf).symm.trans h
    simp only [Prod.mk.injEq] at e1
    exact absurd e1.2.2 hf
/-- n entries -/
def rents : Nat → List UInt8 → Nat → List EntD × List UInt8 × Nat
  | 0, l, f => ([], l, f)
  | n + 1, l, f => match rent l f with
    | (e, l1, f1) => if f1 ≠ 0 then ([], l1, f1) else match rents n l1 0 with
      | (es, l2, f2) => (e :: es, l2, f2)
theorem rents_of {n : Nat} {l l1 l2 : List UInt8} {f f2 : Nat} {e : EntD} {es : List EntD} (h : rent l f = (e, l1, 0)) (h2 : rents n l1 0 = (es, l2, f2)) : rents (n + 1) l f = (e :: es, l2, f2) := by
  rw [rents, h]
  simp only
  rw [if_neg (by simp), h2]
/-- a message's entries: their number, then each -/
def rlist (l : List UInt8) (f : Nat) : List EntD × List UInt8 × Nat :=
  match rnum 4 l f with
  | (n, l1, f1) => rents n l1 f1
/-- a base -/
def rbase (l : List UInt8) (f : Nat) : (Int × Int × Int) × List UInt8 × Nat :=
  match rnum 72057594037927935 l f with
  | (x, l1, f1) => match rnum 72057594037927935 l1 f1 with
    | (y, l2, f2) => match rbyte 254 l2 f2 with
      | (z, l3, f3) => (((x : Int), (y : Int), (z : Int)), l3, f3)
/-- what is read of l: the message, the rest, what was wrong -/
def readM (l : List UInt8) : MsgD × List UInt8 × Nat :=
  match rbyte 6 l 0 with
  | (k, l0, f0) => match rI (k != 0) 0 (rbyte 7 l0 f0) l0 f0 with
  | (a, l1, f1) => match rI (k != 0) 0 (rbyte 7 l1 f1) l1 f1 with
  | (b, l2, f2) => match rI (k != 0) 0 (rnum 72057594037927935 l2 f2) l2 f2 with
  | (t, l3, f3) => match rI (wth (fm (k : Int)) 1) 0 (rnum 72057594037927935 l3 f3) l3 f3 with
  | (i, l4, f4) => match rI (wth (fm (k : Int)) 2) 0 (rnum 72057594037927935 l4 f4) l4 f4 with
  | (lt, l5, f5) => match rI (wth (fm (k : Int)) 4) 0 (rnum 72057594037927935 l5 f5) l5 f5 with
  | (co, l6, f6) => match rI (wth (fm (k : Int)) 8) [] (rlist l6 f6) l6 f6 with
  | (es, l7, f7) => match rI (wth (fm (k : Int)) 16) 0 (rbyte 1 l7 f7) l7 f7 with
  | (rf, l8, f8) => match rI (wth (fm (k : Int)) 32) (0, 0, 0) (rbase l8 f8) l8 f8 with
  | ((bi, bt, bc), l9, f9) => match rI (wth (fm (k : Int)) 64) 0 (rnum 32768 l9 f9) l9 f9 with
  | (o, l10, f10) => match rI (wth (fm (k : Int)) 128) 0 (rbyte 1 l10 f10) l10 f10 with
  | (la, l11, f11) => match rI (wth (fm (k : Int)) 256) [] (rtext 256 l11 f11) l11 f11 with
  | (d, l12, f12) => (⟨(k : Int), (a : Int), (b : Int), (t : Int), (i : Int), (lt : Int), es, (co : Int), rf == 1, bi, bt, bc, (o : Int), d, la == 1⟩, l12, f12)
/-- the same, step by step -/
structure ReadM (l : List UInt8) (m : MsgD) (l' : List UInt8) (f' : Nat) where
  mk ::
  k : Nat
  l0 : List UInt8
  f0 : Nat
  h0 : rbyte 6 l 0 = (k, l0, f0)
  a : Nat
  l1 : List UInt8
  f1 : Nat
  h1 : rI (k != 0) 0 (rbyte 7 l0 f0) l0 f0 = (a, l1, f1)
  b : Nat
  l2 : List UInt8
  f2 : Nat
  h2 : rI (k != 0) 0 (rbyte 7 l1 f1) l1 f1 = (b, l2, f2)
  t : Nat
  l3 : List UInt8
  f3 : Nat
  h3 : rI (k != 0) 0 (rnum 72057594037927935 l2 f2) l2 f2 = (t, l3, f3)
  i : Nat
  l4 : List UInt8
  f4 : Nat
  h4 : rI (wth (fm (k : Int)) 1) 0 (rnum 72057594037927935 l3 f3) l3 f3 = (i, l4, f4)
  lt : Nat
  l5 : List UInt8
  f5 : Nat
  h5 : rI (wth (fm (k : Int)) 2) 0 (rnum 72057594037927935 l4 f4) l4 f4 = (lt, l5, f5)
  co : Nat
  l6 : List UInt8
  f6 : Nat
  h6 : rI (wth (fm (k : Int)) 4) 0 (rnum 72057594037927935 l5 f5) l5 f5 = (co, l6, f6)
  es : List EntD
  l7 : List UInt8
  f7 : Nat
  h7 : rI (wth (fm (k : Int)) 8) [] (rlist l6 f6) l6 f6 = (es, l7, f7)
  rf : Nat
  l8 : List UInt8
  f8 : Nat
  h8 : rI (wth (fm (k : Int)) 16) 0 (rbyte 1 l7 f7) l7 f7 = (rf, l8, f8)
  bi : Int
  bt : Int
  bc : Int
  l9 : List UInt8
  f9 : Nat
  h9 : rI (wth (fm (k : Int)) 32) (0, 0, 0) (rbase l8 f8) l8 f8 = ((bi, bt, bc), l9, f9)
  o : Nat
  l10 : List UInt8
  f10 : Nat
  h10 : rI (wth (fm (k : Int)) 64) 0 (rnum 32768 l9 f9) l9 f9 = (o, l10, f10)
  la : Nat
  l11 : List UInt8
  f11 : Nat
  h11 : rI (wth (fm (k : Int)) 128) 0 (rbyte 1 l10 f10) l10 f10 = (la, l11, f11)
  d : List UInt8
  h12 : rI (wth (fm (k : Int)) 256) [] (rtext 256 l11 f11) l11 f11 = (d, l', f')
  hm : m = ⟨(k : Int), (a : Int), (b : Int), (t : Int), (i : Int), (lt : Int), es, (co : Int), rf == 1, bi, bt, bc, (o : Int), d, la == 1⟩
theorem ReadM.is {l l' : List UInt8} {m : MsgD} {f' : Nat} (h : ReadM l m l' f') : readM l = (m, l', f') := by
  obtain ⟨k, l0, f0, h0, a, l1, f1, h1, b, l2, f2, h2, t, l3, f3, h3, i, l4, f4, h4, lt, l5, f5, h5, co, l6, f6, h6, es, l7, f7, h7, rf, l8, f8, h8, bi, bt, bc, l9, f9, h9, o, l10, f10, h10, la, l11, f11, h11, d, h12, rfl⟩ := h
  simp only [readM, h0, h1, h2, h3, h4, h5, h6, h7, h8, h9, h10, h11, h12]
end Go.Proofs.Ytnhcbjlaeaohjaa

namespace Go.Proofs.Ytnhcbjlaeaohjaa

/-- the numbers of a message that may be -/
structure NumsD (m : MsgD) : Prop where
  k : 1 ≤ m.k ∧ m.k ≤ 6
  i : 0 ≤ m.i ∧ m.i ≤ 72057594037927935
  lt : 0 ≤ m.lt ∧ m.lt ≤ 72057594037927935
  co : 0 ≤ m.co ∧ m.co ≤ 72057594037927935
  bi : 0 ≤ m.bi ∧ m.bi ≤ 72057594037927935
  bt : 0 ≤ m.bt ∧ m.bt ≤ 72057594037927935
  bc : 0 ≤ m.bc ∧ m.bc ≤ 254
  o : 0 ≤ m.o ∧ m.o ≤ 32768
  es : m.es.length ≤ 4 ∧ ∀ e, e ∈ m.es → rightE e = true
  d : m.d.length ≤ 256
theorem low_of {b : Bool} {n : Int} (h : mayB b (lowB n) (n == 0) = true) (hn : U64 n) : 0 ≤ n ∧ n ≤ 72057594037927935 := by
  have h0 := hn.1
  cases hb : b
  · have := mayB_f h hb; simp at this; omega
  · have := mayB_t h hb; unfold lowB at this; simp at this; omega
theorem numsD {m : MsgD} (hi : U64 m.i) (hlt : U64 m.lt) (hco : U64 m.co) (h : rightM m = true) : NumsD m := by
  have R := rightM_iff h
  have hk := fm_kinds R.k
  have hb : (0 ≤ m.bi ∧ m.bi ≤ 72057594037927935) ∧ (0 ≤ m.bt ∧ m.bt ≤ 72057594037927935) ∧ (0 ≤ m.bc ∧ m.bc ≤ 254) := by
    cases hb : wth (fm m.k) 32
    · have := mayB_f R.ba hb
      unfold zeroB at this
      simp at this
      omega
    · have := mayB_t R.ba hb
      unfold baseB at this
      simp only [Bool.and_eq_true, bne_iff_ne, ne_eq] at this
      obtain ⟨⟨⟨h1, h2⟩, h3⟩, _⟩ := this
      have h1 := numB_iff h1
      have h2 := numB_iff h2
      have h3 := setB_iff h3
      omega
  have ho : 0 ≤ m.o ∧ m.o ≤ 32768 := by
    cases hb : wth (fm m.k) 64
    · have := mayB_f R.o hb
      simp at this
      omega
    · have := mayB_t R.o hb
      unfold offB at this
      simp at this
      omega
  have he : m.es.length ≤ 4 ∧ ∀ e, e ∈ m.es → rightE e = true := by
    cases hb : wth (fm m.k) 8
    · have := mayB_f R.es hb
      simp at this
      rw [this]
      exact ⟨by simp, fun e he => by cases he⟩
    · have := mayB_t R.es hb
      unfold entsB at this
      simp only [Bool.and_eq_true, decide_eq_true_eq] at this
      exact ⟨this.1, follow_right this.2⟩
  have hd : m.d.length ≤ 256 := by
    cases hb : wth (fm m.k) 256
    · have := mayB_f R.d hb
      simp at this
      rw [this]; simp
    · have := mayB_t R.d hb
      simpa using this
  exact ⟨by omega, low_of R.i hi, low_of R.lt hlt, low_of R.co hco, hb.1, hb.2.1, hb.2.2, ho, he, hd⟩
/-! ## Its bytes are few -/
theorem layT_len2 {t : List UInt8} (h : t.length ≤ 256) : (layT t).length ≤ 258 := by
  unfold layT
  have := vlay_length_pow 1 t.length (by omega)
  rw [List.length_append]
  omega
theorem layT_lenE {t : List UInt8} (h : t.length ≤ 147) : (layT t).length ≤ 149 := by
  unfold layT
  have := vlay_length_pow 1 t.length (by omega)
  rw [List.length_append]
  omega
theorem layEs_len : ∀ {es : List EntD}, (∀ e, e ∈ es → rightE e = true) → (layEs es).length ≤ 149 * es.length
  | [], _ => by simp [layEs]
  | e :: es, h => by
    have h1 := layT_lenE (layE_len (h e (List.mem_cons_self ..)))
    have h2 := layEs_len (es := es) fun x hx => h x (List.mem_cons_of_mem _ hx)
    have e1 : layEs (e :: es) = layT (layE e) ++ layEs es := by simp [layEs]
    rw [e1, List.length_append, List.length_cons]
    omega
theorem opt_len' (b : Bool) {x : List UInt8} {n : Nat} (h : x.length ≤ n) : (opt b x).length ≤ n := Nat.le_trans (opt_len b x) h
theorem layM_len {m : MsgD} (hi : U64 m.i) (hlt : U64 m.lt) (hco : U64 m.co) (h : rightM m = true) : (layM m).length ≤ 1000 := by
  have R := rightM_iff h
  have N := numsD hi hlt hco h
  have a0 : (headM m).length = 3 := rfl
  have a1 := layU_mlen R.t.2
  have a2 := opt_len' (wth (fm m.k) 1) (layU_mlen N.i.2)
  have a3 := opt_len' (wth (fm m.k) 2) (layU_mlen N.lt.2)
  have a4 := opt_len' (wth (fm m.k) 4) (layU_mlen N.co.2)
  have a5 : (opt (wth (fm m.k) 8) (layN m.es)).length ≤ 597 := by
    refine opt_len' _ ?_
    have h1 := layEs_len N.es.2
    have h2 := vlay_length_pow 0 m.es.length (by have := N.es.1; omega)
    have h3 := N.es.1
    unfold layN
    rw [List.length_append]
    omega
  have a6 : (opt (wth (fm m.k) 16) [UInt8.ofNat (flagN m.rf)]).length ≤ 1 := opt_len' _ (by simp)
  have a7 : (opt (wth (fm m.k) 32) (layB (m.bi, m.bt, m.bc))).length ≤ 17 := by
    refine opt_len' _ ?_
    have h1 := layU_mlen N.bi.2
    have h2 := layU_mlen N.bt.2
    unfold layB
    simp only [List.length_append, List.length_cons, List.length_nil]
    omega
  have a8 := opt_len' (wth (fm m.k) 64) (layU_mlen (n := m.o) (by have := N.o.2; omega))
  have a9 : (opt (wth (fm m.k) 128) [UInt8.ofNat (flagN m.la)]).length ≤ 1 := opt_len' _ (by simp)
  have a10 := opt_len' (wth (fm m.k) 256) (layT_len2 N.d)
  unfold layM
  simp only [List.length_append]
  omega

/-! ## What was read is laid so -/
/-! ## Decode -/
theorem sealed_len (l : List UInt8) : (sealed l).length = l.length + 4 := by simp [sealed, le4]
/-- what Encode lays -/
def encM (m : MsgD) : List UInt8 := sealed (layM m)
end Go.Proofs.Ytnhcbjlaeaohjaa
