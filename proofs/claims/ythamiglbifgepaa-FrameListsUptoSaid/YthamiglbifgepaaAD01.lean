/-
  FrmM · FrmK · TyF · FrmR · FrmN
-/
import Derived.Test.YthamiglbifgepaaAA06
import Derived.Test.YthamiglbifgepaaAB01
import Derived.Test.YthamiglbifgepaaAB02
set_option linter.unusedSimpArgs false
set_option linter.unusedVariables false

namespace Go.Proofs.Ythamiglbifgepaa.Sep
/-- a number in four bytes, the least one first -/
def b4 (n : Nat) : List UInt8 := [UInt8.ofNat n, UInt8.ofNat (n / 256), UInt8.ofNat (n / 65536), UInt8.ofNat (n / 16777216)]
/-- and back: four bytes at a place -/
def n4 (l : List UInt8) (i : Nat) : Nat := (l.getD i 0).toNat + (l.getD (i + 1) 0).toNat * 256 + (l.getD (i + 2) 0).toNat * 65536 + (l.getD (i + 3) 0).toNat * 16777216
def frameL (x : List UInt8) : List UInt8 := if x.length ≤ 65536 then b4 x.length ++ b4 (crcSum x) ++ x else []
/-- the frame at the head, if it is whole -/
def nextF (b : List UInt8) : Option (List UInt8) := if 8 ≤ b.length ∧ n4 b 0 ≤ 65536 ∧ n4 b 0 + 8 ≤ b.length ∧ (b.drop 4).take 4 = b4 (crcSum ((b.drop 8).take (n4 b 0))) then some ((b.drop 8).take (n4 b 0)) else none
def listF : Nat → List UInt8 → List (List UInt8) × Nat
  | 0, _ => ([], 0)
  | k + 1, b => match nextF b with
    | none => ([], 0)
    | some x => (x :: (listF k (b.drop (8 + x.length))).1, 8 + x.length + (listF k (b.drop (8 + x.length))).2)
def listL (b : List UInt8) : List (List UInt8) × Nat := listF b.length b
theorem next_len {b x : List UInt8} (h : nextF b = some x) : 8 + x.length ≤ b.length ∧ x.length ≤ 65536 := by
  unfold nextF at h
  split at h
  · rename_i hc
    cases h
    rw [List.length_take, List.length_drop]; omega
  · cases h
theorem listF_more : ∀ (k : Nat) (b : List UInt8), b.length ≤ k → listF k b = listF b.length b := by
  intro k
  induction k using Nat.strongRecOn with
  | _ k ih =>
    intro b hb
    cases hn : nextF b with
    | none =>
      cases k with
      | zero => have : b.length = 0 := by omega
                rw [this]
      | succ k =>
        cases hl : b.length with
        | zero => simp only [listF, hn]
        | succ m => simp only [listF, hn]
    | some x =>
      have hx := next_len hn
      cases k with
      | zero => omega
      | succ k =>
        obtain ⟨m, hm⟩ : ∃ m, b.length = m + 1 := ⟨b.length - 1, by omega⟩
        rw [hm]
        simp only [listF, hn]
        have hd : (b.drop (8 + x.length)).length = b.length - (8 + x.length) := List.length_drop ..
        rw [ih k (by omega) _ (by omega), ih m (by omega) _ (by omega)]
theorem listL_none {b : List UInt8} (h : nextF b = none) : listL b = ([], 0) := by
  unfold listL
  cases b.length with
  | zero => rfl
  | succ m => simp only [listF, h]
theorem listL_some {b x : List UInt8} (h : nextF b = some x) : listL b = (x :: (listL (b.drop (8 + x.length))).1, 8 + x.length + (listL (b.drop (8 + x.length))).2) := by
  have hx := next_len h
  obtain ⟨m, hm⟩ : ∃ m, b.length = m + 1 := ⟨b.length - 1, by omega⟩
  unfold listL
  rw [hm]
  simp only [listF, h]
  have hd : (b.drop (8 + x.length)).length = b.length - (8 + x.length) := List.length_drop ..
  rw [listF_more m _ (by omega)]
theorem list_le : ∀ (k : Nat) (b : List UInt8), (listF k b).2 ≤ b.length
  | 0, _ => Nat.zero_le _
  | k + 1, b => by
    simp only [listF]
    cases h : nextF b with
    | none => exact Nat.zero_le _
    | some x =>
      have hx := next_len h
      have := list_le k (b.drop (8 + x.length))
      rw [List.length_drop] at this
      simp only
      omega
theorem list_parts : ∀ (k : Nat) (b x : List UInt8), x ∈ (listF k b).1 → x.length ≤ 65536
  | 0, _, _, h => by cases h
  | k + 1, b, x, h => by
    simp only [listF] at h
    cases hn : nextF b with
    | none => rw [hn] at h; cases h
    | some y =>
      rw [hn] at h
      rcases List.mem_cons.1 h with rfl | h
      · exact (next_len hn).2
      · exact list_parts k _ _ h
theorem list_count : ∀ (k : Nat) (b : List UInt8), (listF k b).1.length * 8 ≤ (listF k b).2
  | 0, _ => Nat.le_refl _
  | k + 1, b => by
    simp only [listF]
    cases h : nextF b with
    | none => exact Nat.le_refl _
    | some x =>
      have := list_count k (b.drop (8 + x.length))
      simp only [List.length_cons]
      omega
theorem b4_len (n : Nat) : (b4 n).length = 4 := rfl
theorem crc_lt (l : List UInt8) : crcSum l < 4294967296 := by unfold crcSum; exact (~~~ crcRun (BitVec.allOnes 32) l).isLt
theorem n4_b4 {n : Nat} (h : n < 4294967296) (r : List UInt8) : n4 (b4 n ++ r) 0 = n := by
  unfold n4 b4
  simp only [List.cons_append, List.nil_append, List.getD_cons_zero, List.getD_cons_succ, Nat.zero_add, UInt8.toNat_ofNat']
  omega
theorem frame_len {x : List UInt8} (h : x.length ≤ 65536) : (frameL x).length = 8 + x.length := by
  unfold frameL
  rw [if_pos h]
  simp only [List.length_append, b4_len]
theorem next_frame {x : List UInt8} (h : x.length ≤ 65536) (r : List UInt8) : nextF (frameL x ++ r) = some x := by
  have hl := frame_len h
  have e : frameL x ++ r = b4 x.length ++ (b4 (crcSum x) ++ (x ++ r)) := by unfold frameL; rw [if_pos h]; simp
  have hn : n4 (frameL x ++ r) 0 = x.length := by rw [e]; exact n4_b4 (by omega) _
  have h8 : ((frameL x ++ r).drop 8).take x.length = x := by
    rw [e]
    have : (b4 x.length ++ (b4 (crcSum x) ++ (x ++ r))).drop 8 = x ++ r := rfl
    rw [this]; simp
  unfold nextF
  rw [hn, h8, if_pos]
  refine ⟨by rw [List.length_append]; omega, h, by rw [List.length_append]; omega, ?_⟩
  rw [e]; rfl
def framesL (ps : List (List UInt8)) : List UInt8 := (ps.map frameL).flatten
theorem frames_cons (x : List UInt8) (ps : List (List UInt8)) : framesL (x :: ps) = frameL x ++ framesL ps := rfl
theorem frames_push (x : List UInt8) (ps : List (List UInt8)) : framesL (ps ++ [x]) = framesL ps ++ frameL x := by simp [framesL]
theorem list_frames : ∀ (ps : List (List UInt8)), (∀ x, x ∈ ps → x.length ≤ 65536) → ∀ r, listL (framesL ps ++ r) = (ps ++ (listL r).1, (framesL ps).length + (listL r).2)
  | [], _, r => by simp [framesL]
  | x :: ps, h, r => by
    have hx := h x (List.mem_cons_self ..)
    have hl := frame_len hx
    rw [frames_cons, List.append_assoc, listL_some (next_frame hx _)]
    have hd : (frameL x ++ (framesL ps ++ r)).drop (8 + x.length) = framesL ps ++ r := by rw [← hl]; simp
    rw [hd, list_frames ps (fun y hy => h y (List.mem_cons_of_mem _ hy)) r]
    simp only [List.cons_append, List.length_append, Prod.mk.injEq, true_and]
    omega
/-- a frame that is cut off is none -/
theorem next_cut {x : List UInt8} (h : x.length ≤ 65536) {k : Nat} (hk : k < 8 + x.length) : nextF ((frameL x).take k) = none := by
  have hl := frame_len h
  unfold nextF
  refine if_neg fun ⟨h1, _, h3, _⟩ => ?_
  rw [List.length_take] at h1 h3
  have hn : n4 ((frameL x).take k) 0 = x.length := by
    have e : (frameL x).take k = b4 x.length ++ (b4 (crcSum x) ++ x).take (k - 4) := by
      unfold frameL
      rw [if_pos h, List.append_assoc, List.take_append, b4_len, List.take_of_length_le (by rw [b4_len]; omega)]
    rw [e]; exact n4_b4 (by omega) _
  rw [hn] at h3
  omega
theorem list_cut : ∀ (ps : List (List UInt8)), (∀ x, x ∈ ps → x.length ≤ 65536) → ∀ (n c : Nat), n ≤ ps.length → (framesL (ps.take n)).length ≤ c → c ≤ (framesL ps).length → (n < ps.length → c < (framesL (ps.take (n + 1))).length) → listL ((framesL ps).take c) = (ps.take n, (framesL (ps.take n)).length)
  | [], _, n, c, h1, h2, h3, _ => by
    have : c = 0 := by simpa [framesL] using h3
    subst this
    simp [framesL, listL, listF]
  | x :: ps, h, 0, c, h1, h2, h3, h4 => by
    have hx := h x (List.mem_cons_self ..)
    have hl := frame_len hx
    have h5 := h4 (Nat.succ_pos _)
    have e1 : framesL ((x :: ps).take (0 + 1)) = frameL x := by simp [framesL]
    rw [e1, hl] at h5
    rw [frames_cons, List.take_append_of_le_length (by omega), listL_none (next_cut hx h5)]
    rfl
  | x :: ps, h, n + 1, c, h1, h2, h3, h4 => by
    have hx := h x (List.mem_cons_self ..)
    have hl := frame_len hx
    rw [List.take_succ_cons, frames_cons, List.length_append, hl] at h2
    rw [frames_cons, List.length_append, hl] at h3
    have e : (framesL (x :: ps)).take c = frameL x ++ (framesL ps).take (c - (8 + x.length)) := by
      rw [frames_cons, List.take_append, hl, List.take_of_length_le (by omega)]
    have ih := list_cut ps (fun y hy => h y (List.mem_cons_of_mem _ hy)) n (c - (8 + x.length)) (by simpa using h1) (by omega) (by omega) (fun hn => by
      have := h4 (by rw [List.length_cons]; omega)
      rw [List.take_succ_cons, frames_cons, List.length_append, hl] at this
      omega)
    have hd : (frameL x ++ (framesL ps).take (c - (8 + x.length))).drop (8 + x.length) = (framesL ps).take (c - (8 + x.length)) := by rw [← hl]; simp
    rw [e, listL_some (next_frame hx _), hd, ih, List.take_succ_cons, frames_cons, List.length_append, hl]
end Go.Proofs.Ythamiglbifgepaa.Sep

namespace Go.Proofs.Ythamiglbifgepaa.Sep
open Go.RowKit
open Go.Proofs.Ythamiglbifgepaa.Mem (Dist Blk Chg below0)
theorem wrap_u8 (m : Nat) : IntKind.u8.wrap (m : Int) = ((UInt8.ofNat m).toNat : Int) := by
  rw [UInt8.toNat_ofNat']
  have h : IntKind.u8.wrap (m : Int) = (m : Int) % 256 := by simp [IntKind.wrap, IntKind.signed, IntKind.bits]
  rw [h]; omega
section
variable {P : Program} {n : Nat} {w : World} {env : List (Nat × Value)} {o : Oper} {a : Act}
theorem exec_shrN {T T' : TypeId} {x y : Operand} {k k' : IntKind} {m s h : Nat} (hs : s ≤ k.bits) (hh : m / 2 ^ s = h) (ho : o.op = .binOp .shr T x y T') (hx : evs env x = some (.int k (m : Int))) (hy : evs env y = some (.int k' (s : Int))) (hF : Fr n a env) : (execOp a.eval o).run P w = .ok (.value (.int k (h : Int))) w := by
  subst hh
  have h1 : min s k.bits = s := Nat.min_eq_left hs
  have h2 : (m : Int).fdiv (2 ^ s) = ((m / 2 ^ s : Nat) : Int) := by
    rw [Int.fdiv_eq_ediv_of_nonneg _ (by exact_mod_cast Nat.zero_le _)]
    simp
  have h3 : ¬ ((s : Int) < 0) := by omega
  unfold execOp
  simp only [ho, hF.evs hx, hF.evs hy]
  simp [eqGuard, binOp, Op.shift, h1, h2, h3]
theorem exec_shlN {T T' : TypeId} {x y : Operand} {k k' : IntKind} {m s : Nat} {h : Int} (hs : s ≤ k.bits) (hh : k.wrap ((m : Int) * 2 ^ s) = h) (ho : o.op = .binOp .shl T x y T') (hx : evs env x = some (.int k (m : Int))) (hy : evs env y = some (.int k' (s : Int))) (hF : Fr n a env) : (execOp a.eval o).run P w = .ok (.value (.int k h)) w := by
  subst hh
  have h1 : min s k.bits = s := Nat.min_eq_left hs
  have h3 : ¬ ((s : Int) < 0) := by omega
  unfold execOp
  simp only [ho, hF.evs hx, hF.evs hy]
  simp [eqGuard, binOp, Op.shift, h1, h3]
end
section
variable {P : Program} {Q : Exit → Act → World → Prop} {n : Nat} {B : Nat → Prop} {w0 : World} {os : List Ass} {env : List (Nat × Value)} {o : Oper} {t e : TypeId}
theorem run_build8 (hT : SliceT P t e 1) {c0 c1 c2 c3 c4 c5 c6 c7 : Value} (h0 : c0.cells = #[c0]) (h1 : c1.cells = #[c1]) (h2 : c2.cells = #[c2]) (h3 : c3.cells = #[c3]) (h4 : c4.cells = #[c4]) (h5 : c5.cells = #[c5]) (h6 : c6.cells = #[c6]) (h7 : c7.cells = #[c7]) (w : World) : (Instr.buildSlice t 8 #[(0, c0), (1, c1), (2, c2), (3, c3), (4, c4), (5, c5), (6, c6), (7, c7)]).run P w = .ok (.slice (some ⟨w.heap.size, 0, none⟩) 8 8) (w.alloc (.cells #[c0, c1, c2, c3, c4, c5, c6, c7] e)) := by
  obtain ⟨inf, z, hinf, hz, hk, _, hzs, _⟩ := hT.inf
  simp [Instr.buildSlice, run_underlying hT.ht, hT.sizeOf, zeroValue, typeInfo, hinf, hz, Instr.fill, h0, h1, h2, h3, h4, h5, h6, h7, newRow, Array.range_succ, map_range0]
def vB (a : UInt8) : Value := .int .u8 (a.toNat : Int)
theorem a_build8 (hT : SliceT P t e 1) {x0 x1 x2 x3 x4 x5 x6 x7 : Operand} (a0 a1 a2 a3 a4 a5 a6 a7 : UInt8) (ho : o.op = .buildSlice t 8 #[(0, x0), (1, x1), (2, x2), (3, x3), (4, x4), (5, x5), (6, x6), (7, x7)]) (h0 : evs env x0 = some (vB a0)) (h1 : evs env x1 = some (vB a1)) (h2 : evs env x2 = some (vB a2)) (h3 : evs env x3 = some (vB a3)) (h4 : evs env x4 = some (vB a4)) (h5 : evs env x5 = some (vB a5)) (h6 : evs env x6 = some (vB a6)) (h7 : evs env x7 = some (vB a7)) : Acts P Q n env B w0 os o (fun v : Value => v) (fun v => Vec e 1 encB v [a0, a1, a2, a3, a4, a5, a6, a7] :: os) := fun b w hH hF K hK => by
  have hrun : (execOp b.eval o).run P w = .ok (.value (.slice (some ⟨w.heap.size, 0, none⟩) 8 8)) (w.alloc (.cells #[vB a0, vB a1, vB a2, vB a3, vB a4, vB a5, vB a6, vB a7] e)) := by
    unfold execOp
    simp [ho, hF.evs h0, hF.evs h1, hF.evs h2, hF.evs h3, hF.evs h4, hF.evs h5, hF.evs h6, hF.evs h7, Sem.run_bind, run_build8 hT (c0 := vB a0) (c1 := vB a1) (c2 := vB a2) (c3 := vB a3) (c4 := vB a4) (c5 := vB a5) (c6 := vB a6) (c7 := vB a7) rfl rfl rfl rfl rfl rfl rfl rfl]
  refine a_val (w0 := w) b hrun (hK _ _ ?_)
  have := hH.new e #[vB a0, vB a1, vB a2, vB a3, vB a4, vB a5, vB a6, vB a7]
  obtain ⟨rs, ⟨r1, r2, e1, h1, h2⟩, h3⟩ := this
  unfold cell at h1
  exact ⟨rs, ⟨r1, r2, e1, .inr ⟨w.heap.size, 8, #[vB a0, vB a1, vB a2, vB a3, vB a4, vB a5, vB a6, vB a7], rfl, Nat.le_refl _, by unfold maxLen; omega, rfl, by simp [flat, encB, vB], h1⟩, h2⟩, h3⟩
end
section
variable {v : Value} {l : List UInt8} {w : World}
theorem rsum_c (h : Sl8 w v l) (hl : l.length ≤ 140737488355328) : Calls Try.prog 20 #[v] w fun e w' => e = .returned (.int .u32 (crcSum l : Int)) ∧ Below w.heap.size w w' := by
  obtain ⟨A, c, rfl, hb⟩ := h
  refine (refSum_any w A c l hb hl).mono ?_
  rintro e w' ⟨he, rfl⟩
  exact ⟨he, Below.refl _ _⟩
theorem sum_c (h : Sl8 w v l) (hl : l.length ≤ 140737488355328) : Calls Try.prog 19 #[v] w fun e w' => e = .returned (.int .u32 (crcSum l : Int)) ∧ Below w.heap.size w w' := by
  obtain ⟨A, c, rfl, hb⟩ := h
  refine (sum_any w A c l hb hl).mono ?_
  rintro e w' ⟨he, rfl⟩
  exact ⟨he, Below.refl _ _⟩
end
end Go.Proofs.Ythamiglbifgepaa.Sep

namespace Go.Proofs.Ythamiglbifgepaa.Sep
open Go.RowKit
open Go.Proofs.Ythamiglbifgepaa.Mem (Dist Blk Chg below0)
theorem ty_s_s_uint8 : OneOf Try.prog 25 := oneOf Try.underlying25 rfl (by kernel_rfl)
theorem ze_s_s_uint8 : Zero Try.prog 25 #[.slice none 0 0] := zero_of (z := .slice none 0 0) (by kernel_rfl) rfl
theorem ty_func_s_uint8_bool : OneOf Try.prog 38 := oneOf Try.underlying38 rfl (by kernel_rfl)
end Go.Proofs.Ythamiglbifgepaa.Sep

namespace Go.Proofs.Ythamiglbifgepaa.Sep
open Go.RowKit
open Go.Proofs.Ythamiglbifgepaa.Mem (Dist Blk Chg below0)

set_option maxRecDepth 100000 in
theorem rframeU (u : World) {y r : List UInt8} {A : Option Addr} {c : Nat} (hv : Sl8 u (.slice A y.length c) y) (hl : y.length ≤ 140737488351232) (hr : frameL y = r) : DoesU u Try.prog 10 #[.slice A y.length c] [] (fun (v : Value) => v) (fun (v : Value) => [Vec 5 1 encB v r]) := by
  refine d_insU (args := [.slice A y.length c]) 37 Try.func10 rfl rfl rfl ?_; intro w rs hU hS
  refine d_reg ?_
  refine h_q hflS rfl ?_
  refine h_done (d_seq ?_)
  rcases Nat.lt_or_ge 65536 y.length with h0 | h0
  · skip
    obtain rfl : r = [] := by rw [← hr]; unfold frameL; rw [if_neg (by omega)]
    refine d_reg ?_
    refine h_q hflS rfl ?_
    refine h_val rfl (.int .i64 (y.length : Int)) (fun b w hb hH => e_slen ((arg8 hv hU hS hH).rd) Try.underlying23 rfl rfl hb) ?_
    refine h_val rfl (.bool true) (fun b w hb hH => exec_cmp rfl rfl rfl (cmp_gtr_t (by omega)) hb) ?_
    refine h_done (d_then rfl ?_)
    refine d_nilvec 5 1 encB ?_
    refine d_reg ?_
    refine h_q hflS rfl ?_
    refine h_done (d_ret (f_then_ret ?_))
    exact f_fin1 (.tmp rfl) (fun w h => tells (.slice none 0 0) rfl [0] rfl h same_parts) rfl
  · skip
    have hc := crc_lt y
    have hr_ : b4 y.length ++ b4 (crcSum y) ++ y = r := by rw [← hr]; unfold frameL; rw [if_pos h0]
    refine d_reg ?_
    refine h_q hflS rfl ?_
    refine h_val rfl (.int .i64 (y.length : Int)) (fun b w hb hH => e_slen ((arg8 hv hU hS hH).rd) Try.underlying23 rfl rfl hb) ?_
    refine h_val rfl (.bool false) (fun b w hb hH => exec_cmp rfl rfl rfl (cmp_gtr_f (by omega)) hb) ?_
    refine h_done (d_else rfl (d_skip (f_to (d_reg ?_))))
    refine h_q hflS rfl ?_
    refine h_val rfl (.int .i64 (y.length : Int)) (fun b w hb hH => e_slen ((arg8 hv hU hS hH).rd) Try.underlying23 rfl rfl hb) ?_
    refine h_q hflS rfl ?_
    refine h_done (d_reg ?_)
    refine h_q hflS rfl ?_
    refine h_act (post := fun _ => []) rfl (a_call (ent_of Try.func20 (by kernel_rfl) rfl) (fun w hH => rsum_c (arg8 hv hU hS hH) (by omega)) rfl rfl rfl) ?_; rintro ⟨⟩
    refine h_q hflS rfl ?_
    refine h_done (d_reg ?_)
    refine h_q hflS rfl ?_
    refine h_val rfl (.int .u8 (((UInt8.ofNat y.length)).toNat : Int)) (fun b w hb hH => exec_conv Try.underlying3 Try.underlying5 (wrap_u8 _) rfl rfl hb) ?_
    refine h_q hflS rfl ?_
    refine h_val rfl (.int .i64 ((y.length / 256 : Nat) : Int)) (fun b w hb hH => exec_shrN (s := 8) (by decide) (by omega) rfl rfl rfl hb) ?_
    refine h_val rfl (.int .u8 (((UInt8.ofNat (y.length / 256))).toNat : Int)) (fun b w hb hH => exec_conv Try.underlying3 Try.underlying5 (wrap_u8 _) rfl rfl hb) ?_
    refine h_q hflS rfl ?_
    refine h_val rfl (.int .i64 ((y.length / 65536 : Nat) : Int)) (fun b w hb hH => exec_shrN (s := 16) (by decide) (by omega) rfl rfl rfl hb) ?_
    refine h_val rfl (.int .u8 (((UInt8.ofNat (y.length / 65536))).toNat : Int)) (fun b w hb hH => exec_conv Try.underlying3 Try.underlying5 (wrap_u8 _) rfl rfl hb) ?_
    refine h_q hflS rfl ?_
    refine h_val rfl (.int .i64 ((y.length / 16777216 : Nat) : Int)) (fun b w hb hH => exec_shrN (s := 24) (by decide) (by omega) rfl rfl rfl hb) ?_
    refine h_val rfl (.int .u8 (((UInt8.ofNat (y.length / 16777216))).toNat : Int)) (fun b w hb hH => exec_conv Try.underlying3 Try.underlying5 (wrap_u8 _) rfl rfl hb) ?_
    refine h_q hflS rfl ?_
    refine h_val rfl (.int .u8 (((UInt8.ofNat (crcSum y))).toNat : Int)) (fun b w hb hH => exec_conv Try.underlying41 Try.underlying5 (wrap_u8 _) rfl rfl hb) ?_
    refine h_q hflS rfl ?_
    refine h_val rfl (.int .u32 ((crcSum y / 256 : Nat) : Int)) (fun b w hb hH => exec_shrN (s := 8) (by decide) (by omega) rfl rfl rfl hb) ?_
    refine h_val rfl (.int .u8 (((UInt8.ofNat (crcSum y / 256))).toNat : Int)) (fun b w hb hH => exec_conv Try.underlying41 Try.underlying5 (wrap_u8 _) rfl rfl hb) ?_
    refine h_q hflS rfl ?_
    refine h_val rfl (.int .u32 ((crcSum y / 65536 : Nat) : Int)) (fun b w hb hH => exec_shrN (s := 16) (by decide) (by omega) rfl rfl rfl hb) ?_
    refine h_val rfl (.int .u8 (((UInt8.ofNat (crcSum y / 65536))).toNat : Int)) (fun b w hb hH => exec_conv Try.underlying41 Try.underlying5 (wrap_u8 _) rfl rfl hb) ?_
    refine h_q hflS rfl ?_
    refine h_val rfl (.int .u32 ((crcSum y / 16777216 : Nat) : Int)) (fun b w hb hH => exec_shrN (s := 24) (by decide) (by omega) rfl rfl rfl hb) ?_
    refine h_val rfl (.int .u8 (((UInt8.ofNat (crcSum y / 16777216))).toNat : Int)) (fun b w hb hH => exec_conv Try.underlying41 Try.underlying5 (wrap_u8 _) rfl rfl hb) ?_
    refine h_act (X := Value) (val := fun v : Value => v) (post := fun v8 => [Vec 5 1 encB v8 ([(UInt8.ofNat y.length), (UInt8.ofNat (y.length / 256)), (UInt8.ofNat (y.length / 65536)), (UInt8.ofNat (y.length / 16777216)), (UInt8.ofNat (crcSum y)), (UInt8.ofNat (crcSum y / 256)), (UInt8.ofNat (crcSum y / 65536)), (UInt8.ofNat (crcSum y / 16777216))])]) rfl (by exact a_build8 sl_uint8 (UInt8.ofNat y.length) (UInt8.ofNat (y.length / 256)) (UInt8.ofNat (y.length / 65536)) (UInt8.ofNat (y.length / 16777216)) (UInt8.ofNat (crcSum y)) (UInt8.ofNat (crcSum y / 256)) (UInt8.ofNat (crcSum y / 65536)) (UInt8.ofNat (crcSum y / 16777216)) rfl rfl rfl rfl rfl rfl rfl rfl rfl) ?_; rintro v8
    refine h_q hflS rfl ?_
    refine h_act (post := fun v9 => [Vec 5 1 encB v9 r]) rfl (a_append8 0 sl_uint8 (by kernel_rfl) rfl (y) (fun w hH => (arg8 hv hU hS hH).rd) (by show 8 + y.length ≤ _; omega) rfl rfl rfl hr_) ?_; rintro v9
    refine h_q hflS rfl ?_
    refine h_done (d_ret ?_)
    exact f_fin1 (.tmp rfl) (fun w h => tells v9 rfl [0] rfl h same_parts) rfl

end Go.Proofs.Ythamiglbifgepaa.Sep

namespace Go.Proofs.Ythamiglbifgepaa.Sep
open Go.RowKit
theorem frm_mid {w : World} {A : Option Addr} {c i j : Nat} {l : List UInt8} (h : Sl8 w (.slice A l.length c) l) (hij : i ≤ j) (hj : j ≤ l.length) : Sl8 w (.slice (if c = i then A else A.map (·.add i)) ((l.take j).drop i).length (c - i)) ((l.take j).drop i) := Sl8.drop (h.takes hj) (by rw [List.length_take]; omega)
theorem frm_take8 {y : List UInt8} {i : Nat} {a0 a1 a2 a3 a4 a5 a6 a7 : UInt8} (h0 : y[i]? = some a0) (h1 : y[i + 1]? = some a1) (h2 : y[i + 2]? = some a2) (h3 : y[i + 3]? = some a3) (h4 : y[i + 4]? = some a4) (h5 : y[i + 5]? = some a5) (h6 : y[i + 6]? = some a6) (h7 : y[i + 7]? = some a7) : (y.drop i).take 8 = [a0, a1, a2, a3, a4, a5, a6, a7] := by
  have hlt := (List.getElem?_eq_some_iff.1 h7).1
  refine List.ext_getElem? fun j => ?_
  rw [List.getElem?_take]
  split
  · rename_i hj
    rw [List.getElem?_drop]
    match j, hj with
    | 0, _ => exact h0
    | 1, _ => exact h1
    | 2, _ => exact h2
    | 3, _ => exact h3
    | 4, _ => exact h4
    | 5, _ => exact h5
    | 6, _ => exact h6
    | 7, _ => exact h7
  · rename_i hj
    rw [List.getElem?_eq_none (by simp; omega)]
theorem frm_split {b : List UInt8} {a0 a1 a2 a3 a4 a5 a6 a7 : UInt8} (h : b.take 8 = [a0, a1, a2, a3, a4, a5, a6, a7]) : b = [a0, a1, a2, a3, a4, a5, a6, a7] ++ b.drop 8 := by rw [← h, List.take_append_drop]
theorem frm_n4 {b : List UInt8} {n : Nat} {a0 a1 a2 a3 a4 a5 a6 a7 : UInt8} (h : b.take 8 = [a0, a1, a2, a3, a4, a5, a6, a7]) (hn : a0.toNat + a1.toNat * 256 + a2.toNat * 65536 + a3.toNat * 16777216 = n) : n4 b 0 = n := by
  rw [frm_split h, ← hn]; rfl
theorem frm_sum4 {b : List UInt8} {a0 a1 a2 a3 a4 a5 a6 a7 : UInt8} (h : b.take 8 = [a0, a1, a2, a3, a4, a5, a6, a7]) : (b.drop 4).take 4 = [a4, a5, a6, a7] := by
  rw [frm_split h]; rfl
section
variable {b x : List UInt8} {n s : Nat} {a0 a1 a2 a3 a4 a5 a6 a7 c0 c1 c2 c3 : UInt8}
theorem frm_differs (h : b.take 8 = [a0, a1, a2, a3, a4, a5, a6, a7]) (hn : n4 b 0 = n) (hs : crcSum ((b.drop 8).take n) = s) (h0 : UInt8.ofNat s = c0) (h1 : UInt8.ofNat (s / 256) = c1) (h2 : UInt8.ofNat (s / 65536) = c2) (h3 : UInt8.ofNat (s / 16777216) = c3) (hd : ¬ (a4 = c0 ∧ a5 = c1 ∧ a6 = c2 ∧ a7 = c3)) : nextF b = none := by
  unfold nextF
  rw [hn, hs, frm_sum4 h]
  refine if_neg fun ⟨_, _, _, h4⟩ => hd ?_
  unfold b4 at h4
  rw [h0, h1, h2, h3] at h4
  simpa using h4
theorem frm_whole (h : b.take 8 = [a0, a1, a2, a3, a4, a5, a6, a7]) (hn : n4 b 0 = n) (hn1 : n ≤ 65536) (hx : (b.drop 8).take n = x) (hl : n + 8 ≤ b.length) (hs : crcSum x = s) (h0 : UInt8.ofNat s = c0) (h1 : UInt8.ofNat (s / 256) = c1) (h2 : UInt8.ofNat (s / 65536) = c2) (h3 : UInt8.ofNat (s / 16777216) = c3) (hd : a4.toNat = c0.toNat ∧ a5.toNat = c1.toNat ∧ a6.toNat = c2.toNat ∧ a7.toNat = c3.toNat) : nextF b = some x := by
  unfold nextF
  rw [hn, hx, hs, frm_sum4 h, if_pos]
  refine ⟨by omega, hn1, hl, ?_⟩
  unfold b4
  rw [h0, h1, h2, h3, UInt8.toNat_inj.1 hd.1, UInt8.toNat_inj.1 hd.2.1, UInt8.toNat_inj.1 hd.2.2.1, UInt8.toNat_inj.1 hd.2.2.2]
end
theorem frm_step {l : List (List UInt8) × Nat} {P r : List (List UInt8)} {x : List UInt8} {at_ m n : Nat} (h : l = (P ++ (x :: r, 8 + x.length + m).1, at_ + (x :: r, 8 + x.length + m).2)) (hn : x.length = n) : l = (P ++ [x] ++ r, at_ + 8 + n + m) := by
  rw [h]
  simp only [List.append_assoc, List.cons_append, List.nil_append, Prod.mk.injEq, true_and]
  omega
end Go.Proofs.Ythamiglbifgepaa.Sep
