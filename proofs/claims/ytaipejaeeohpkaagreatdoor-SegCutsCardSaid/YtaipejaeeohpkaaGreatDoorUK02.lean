/-
  SgQ
-/
import Derived.Test.YtaipejaeeohpkaaGreatDoorUK01
set_option linter.unusedSimpArgs false
set_option linter.unusedVariables false
set_option maxRecDepth 100000
namespace Go.Proofs.YtaipejaeeohpkaaGreatDoor.Sep
open Go.RowKit
open Go.Proofs.YtaipejaeeohpkaaGreatDoor.Mem (Dist Blk Chg below0)
theorem exec_shl64 {n : Nat} {env : List (Nat × Value)} {o : Oper} {act : Act} {w : World} {T T' : TypeId} {x y : Operand} (ho : o.op = .binOp .shl T x y T') (hx : evs env x = some (.int .u64 1)) (hy : evs env y = some (.int .u64 64)) (hF : Fr n act env) : (execOp act.eval o).run Tryz.prog w = .ok (.value (.int .u64 0)) w := by
 unfold execOp
 simp only [ho, hF.evs hx, hF.evs hy]
 go_simp
 decide
theorem exec_nilneq {n : Nat} {env : List (Nat × Value)} {o : Oper} {act : Act} {w : World} {x : Operand} (ho : o.op = .binOp .neq 145 x (.const .nilIface) 145) (hx : evs env x = some .nilIface) (hF : Fr n act env) : (execOp act.eval o).run Tryz.prog w = .ok (.value (.bool false)) w := by
 unfold execOp
 simp only [ho, hF.evs hx]
 simp [eqGuard, Act.eval]
 go_simp
theorem digH_lo {d : Nat} (h : d < 10) : (digH d).toNat = 48 + d := by
 have key : ∀ a : Fin 10, (digH a.1).toNat = 48 + a.1 := by decide
 exact key ⟨d, h⟩
theorem digH_hi {d : Nat} (h : 10 ≤ d) (h2 : d < 16) : (digH d).toNat = 87 + d := by
 have key : ∀ a : Fin 6, (digH (10 + a.1)).toNat = 87 + (10 + a.1) := by decide
 have := key ⟨d - 10, by omega⟩
 rwa [show 10 + (d - 10) = d by omega] at this
theorem hexD_at : ∀ {k j n : Nat}, j < k → (hexD k n)[j]? = some (digH (n / 16 ^ (k - 1 - j) % 16))
  | 0, j, _, h => by omega
  | k + 1, 0, n, _ => by simp [hexD]
  | k + 1, j + 1, n, h => by
    simp only [hexD, List.getElem?_cons_succ]
    rw [hexD_at (by omega)]
    rw [show k + 1 - 1 - (j + 1) = k - 1 - j by omega]
theorem or_hi {d : Nat} (h : 10 ≤ d ∧ d < 16) : bits .or .u8 ((87 + d : Nat) : Int) 32 = ((87 + d : Nat) : Int) := by
 have key : ∀ a : Fin 16, 10 ≤ a.1 → bits .or .u8 (((87 + a.1 : Nat)) : Int) 32 = ((87 + a.1 : Nat) : Int) := by decide
 exact key ⟨d, h.2⟩ h.1
theorem trim_name (w : World) (n : Nat) : Calls Tryz.prog 92 #[.string (bs (nameL n)), .string (bs [115])] w fun e w' => e = .returned (.string (bs (hexD 15 n))) ∧ Below w.heap.size w w' := by
 refine (trimPrefix_any w (bs (nameL n)) (bs [115])).mono ?_
 rintro e w' ⟨rfl, hb⟩
 exact ⟨rfl, hb⟩
theorem lower_hi (w : World) {d : Nat} (h : 10 ≤ d ∧ d < 16) : Calls Tryz.prog 171 #[.int .u8 ((87 + d : Nat) : Int)] w fun e w' => e = .returned (.int .u8 ((87 + d : Nat) : Int)) ∧ Below w.heap.size w w' := by
 refine d_in (args := [.int .u8 ((87 + d : Nat) : Int)]) 5 Tryz.func171 rfl rfl rfl ?_
 refine d_reg ?_
 refine h_q hflT rfl ?_
 refine h_done (d_reg ?_)
 refine h_q hflT rfl ?_
 refine h_val rfl (.int .u8 ((87 + d : Nat) : Int)) (fun b w hb hH => exec_or (or_hi h) rfl rfl rfl hb) ?_
 refine h_q hflT rfl ?_
 refine h_done (d_ret ?_)
 exact f_fin1 (.tmp rfl) (fun w h => ⟨rfl, below0 h.up⟩) rfl
theorem ipu16_does {n : Nat} (hn : n ≤ 72057594037927935) : Does Tryz.prog 138 #[.string (bs (hexD 15 n)), .int .i64 16, .int .i64 64] [] (fun (_ : Unit) => .tuple #[.int .u64 (n : Int), .nilIface]) (fun (_ : Unit) => []) := by
  refine d_ins (args := [.string (bs (hexD 15 n)), .int .i64 16, .int .i64 64]) 172 Tryz.func138 rfl rfl rfl ?_; intro w rs
  refine d_reg ?_
  refine h_q hflT rfl ?_
  refine h_done (d_seq (d_reg ?_))
  refine h_q hflT rfl ?_
  refine h_val rfl (.bool false) (fun b w hb hH => exec_same rfl rfl rfl (by simp [hexD]) hb) ?_
  refine h_done (d_else rfl (d_skip (f_to (d_reg ?_))))
  refine h_q hflT rfl ?_
  refine h_val rfl (.bool false) (fun b w hb hH => xCm rfl rfl rfl (cEf (by decide)) hb) ?_
  refine h_q hflT rfl ?_
  refine h_done (d_reg ?_)
  refine h_q hflT rfl ?_
  refine h_done (d_seq (d_block (d_reg ?_)))
  refine h_q hflT rfl ?_
  refine h_val rfl (.bool true) (fun b w hb hH => xCm rfl rfl rfl (cmp_leq_t (by decide)) hb) ?_
  refine h_q hflT rfl ?_
  refine h_val rfl (.bool true) (fun b w hb hH => xCm rfl rfl rfl (cmp_leq_t (by decide)) hb) ?_
  refine h_q hflT rfl ?_
  refine h_done (d_then rfl (d_skip (f_block (f_to (d_seq (d_reg ?_))))))
  refine h_q hflT rfl ?_
  refine h_val rfl (.bool false) (fun b w hb hH => xCm rfl rfl rfl (cEf (by decide)) hb) ?_
  refine h_done (d_else rfl (d_reg ?_))
  refine h_q hflT rfl ?_
  refine h_val rfl (.bool false) (fun b w hb hH => xCm rfl rfl rfl (cmp_lss_f (by decide)) hb) ?_
  refine h_q hflT rfl ?_
  refine h_val rfl (.bool false) (fun b w hb hH => xCm rfl rfl rfl (cmp_gtr_f (by decide)) hb) ?_
  refine h_q hflT rfl ?_
  refine h_done (d_else rfl (d_skip (f_to (d_reg ?_))))
  refine h_q hflT rfl ?_
  refine h_done (d_seq (d_reg ?_))
  refine h_q hflT rfl ?_
  refine h_done (d_block (d_reg ?_))
  refine h_q hflT rfl ?_
  refine h_val rfl (.bool false) (fun b w hb hH => xCm rfl rfl rfl (cEf (by decide)) hb) ?_
  refine h_q hflT rfl ?_
  refine h_done (d_else rfl (d_reg ?_))
  refine h_q hflT rfl ?_
  refine h_val rfl (.bool true) (fun b w hb hH => xCm rfl rfl rfl (cEt (by decide)) hb) ?_
  refine h_q hflT rfl ?_
  refine h_done (d_then rfl (d_reg1 ?_))
  refine h_q hflT rfl ?_
  refine h_nil (f_block (f_to (d_reg ?_)))
  refine h_q hflT rfl ?_
  refine h_val rfl (.int .u64 64) (fun b w hb hH => exec_conv Tryz.underlying3 Tryz.underlying136 (IntWalk.u64_in _ (by omega)) rfl rfl hb) ?_
  refine h_val rfl (.int .u64 0) (fun b w hb hH => exec_shl64 rfl rfl rfl hb) ?_
  refine h_val rfl (.int .u64 18446744073709551615) (fun b w hb hH => exec_ar rfl rfl rfl rfl (by decide) hb) ?_
  refine h_q hflT rfl ?_
  refine h_done (d_reg ?_)
  refine h_q hflT rfl ?_
  refine h_done (d_reg ?_)
  refine h_q hflT rfl ?_
  refine h_done (d_seq (d_reg ?_))
  refine h_q hflT rfl ?_
  refine h_act rfl (a_tobytes Tryz.underlying9 Tryz.underlying30 Tryz.underlying5 rfl rfl) ?_; rintro ⟨gb, cgb⟩
  refine h_val rfl (.int .i64 (((hexD 15 n).length) : Int)) (fun b w hb hH => e_len sl_uint8 rfl rfl hH hb) ?_
  refine h_q hflT rfl ?_
  refine h_done (d_block ?_)
  refine d_loop (α := Nat × Nat) (fun ⟨j, v⟩ => [(1, .int .i64 16), (6, .int .u64 0), (7, .nilIface), (8, .bool false), (9, .string (bs (hexD 15 n))), (10, .int .u64 1152921504606846976), (11, .int .u64 18446744073709551615), (12, .bool false), (13, .int .u64 (v : Int)), (99, .slice (some ⟨gb, 0, none⟩) (hexD 15 n).length cgb), (100, .int .i64 (((hexD 15 n).length) : Int)), (101, .int .i64 (j : Int))]) (fun ⟨j, v⟩ => [BytT 5 gb (hexD 15 n)]) (fun ⟨j, v⟩ => j ≤ 15 ∧ v = n / 16 ^ (15 - j)) (fun ⟨j, v⟩ => 15 - j) (0, 0) ⟨by omega, by show 0 = n / 16 ^ 15; omega⟩ ⟨rfl, rfl, rfl, rfl, rfl, rfl, rfl, rfl, rfl, rfl, rfl, rfl, trivial⟩ rfl ?_
  rintro ⟨j, v⟩ hI
  refine WC2.at_ (env' := [(1, .int .i64 16), (6, .int .u64 0), (7, .nilIface), (8, .bool false), (9, .string (bs (hexD 15 n))), (10, .int .u64 1152921504606846976), (11, .int .u64 18446744073709551615), (12, .bool false), (13, .int .u64 (v : Int)), (99, .slice (some ⟨gb, 0, none⟩) (hexD 15 n).length cgb), (100, .int .i64 (((hexD 15 n).length) : Int)), (101, .int .i64 (j : Int))]) (rs' := [BytT 5 gb (hexD 15 n)]) ⟨rfl, rfl, rfl, rfl, rfl, rfl, rfl, rfl, rfl, rfl, rfl, rfl, trivial⟩ rfl ?_
  have hI1 : j ≤ 15 := hI.1
  have hI2 : v = n / 16 ^ (15 - j) := hI.2
  clear hI
  rcases Nat.lt_or_ge j (hexD 15 n).length with hlt | hlt
  · skip
    have hjl : j < 15 := by rw [hexD_len] at hlt; omega
    obtain ⟨d, hd⟩ : ∃ d, n / 16 ^ (14 - j) % 16 = d := ⟨_, rfl⟩
    have hd16 : d < 16 := by omega
    have hbj : (hexD 15 n)[j]? = some (digH d) := by rw [hexD_at hjl, ← hd]
    have hv1 : n / 16 ^ (15 - (j + 1)) = v * 16 + d := by
        rw [hI2, ← hd, show 15 - j = (14 - j) + 1 by omega, Nat.pow_succ, ← Nat.div_div_eq_div_mul, show 15 - (j + 1) = 14 - j by omega]
        omega
    have hvl : v < 1152921504606846976 := by rw [hI2]; exact Nat.lt_of_le_of_lt (Nat.div_le_self _ _) (by omega)
    have hvn : v * 16 + d ≤ n := by rw [← hv1]; exact Nat.div_le_self _ _
    refine d_reg ?_
    refine h_q hflT rfl ?_
    refine h_val rfl (.bool true) (fun b w hb hH => xCm rfl rfl rfl (cmp_lss_t (by omega)) hb) ?_
    refine h_done (d_seq (d_then rfl (d_skip (f_to (d_seq (d_block ?_))))))
    rcases Nat.lt_or_ge d 10 with hlo | hlo
    · skip
      have hcd : ((digH d).toNat : Int) = ((48 + d : Nat) : Int) := by rw [digH_lo hlo]
      refine d_reg ?_
      refine h_q hflT rfl ?_
      refine h_val rfl (.pointer (some ⟨gb, j, none⟩)) (fun b w hb hH => e_bytix sl_uint8 (by rw [hexD_len]; exact hjl) rfl rfl rfl hb) ?_
      refine h_val rfl (.int .u8 ((48 + d : Nat) : Int)) (fun b w hb hH => e_bytloadc 0 ty_uint8 rfl hbj hcd rfl rfl hH hb) ?_
      refine h_q hflT rfl ?_
      refine h_done (d_reg ?_)
      refine h_q hflT rfl ?_
      refine h_done (d_seq (d_block (d_reg ?_)))
      refine h_q hflT rfl ?_
      refine h_val rfl (.bool false) (fun b w hb hH => xCm rfl rfl rfl (cEf (by omega)) hb) ?_
      refine h_q hflT rfl ?_
      refine h_done (d_else rfl (d_reg ?_))
      refine h_q hflT rfl ?_
      refine h_val rfl (.bool true) (fun b w hb hH => xCm rfl rfl rfl (cmp_leq_t (by omega)) hb) ?_
      refine h_q hflT rfl ?_
      refine h_val rfl (.bool true) (fun b w hb hH => xCm rfl rfl rfl (cmp_leq_t (by omega)) hb) ?_
      refine h_q hflT rfl ?_
      refine h_done (d_then rfl (d_reg1 ?_))
      refine h_q hflT rfl ?_
      refine h_val rfl (.int .u8 (d : Int)) (fun b w hb hH => exec_ar rfl rfl rfl rfl (by rw [IntWalk.u8_in _ (by omega)]; omega) hb) ?_
      refine h_q hflT rfl ?_
      refine h_nil (f_block (f_to (d_seq (d_reg ?_))))
      refine h_q hflT rfl ?_
      refine h_val rfl (.int .u8 16) (fun b w hb hH => exec_conv Tryz.underlying3 Tryz.underlying5 (IntWalk.u8_in _ (by omega)) rfl rfl hb) ?_
      refine h_val rfl (.bool false) (fun b w hb hH => xCm rfl rfl rfl (cmp_geq_f (by omega)) hb) ?_
      refine h_done (d_else rfl (d_skip (f_to (d_seq (d_reg ?_)))))
      refine h_q hflT rfl ?_
      refine h_val rfl (.bool false) (fun b w hb hH => xCm rfl rfl rfl (cmp_geq_f (by omega)) hb) ?_
      refine h_done (d_else rfl (d_skip (f_to (d_reg ?_))))
      refine h_q hflT rfl ?_
      refine h_val rfl (.int .u64 16) (fun b w hb hH => exec_conv Tryz.underlying3 Tryz.underlying31 (IntWalk.u64_in _ (by omega)) rfl rfl hb) ?_
      refine h_val rfl (.int .u64 ((v * 16 : Nat) : Int)) (fun b w hb hH => exec_ar rfl rfl rfl rfl (by rw [IntWalk.u64_in _ (by omega)]; omega) hb) ?_
      refine h_q hflT rfl ?_
      refine h_done (d_reg ?_)
      refine h_q hflT rfl ?_
      refine h_val rfl (.int .u64 (d : Int)) (fun b w hb hH => exec_conv Tryz.underlying5 Tryz.underlying31 (IntWalk.u64_in _ (by omega)) rfl rfl hb) ?_
      refine h_val rfl (.int .u64 ((v * 16 + d : Nat) : Int)) (fun b w hb hH => exec_ar rfl rfl rfl rfl (by rw [IntWalk.u64_in _ (by omega)]; omega) hb) ?_
      refine h_q hflT rfl ?_
      refine h_done (d_seq (d_reg ?_))
      refine h_q hflT rfl ?_
      refine h_val rfl (.bool false) (fun b w hb hH => xCm rfl rfl rfl (cmp_lss_f (by omega)) hb) ?_
      refine h_q hflT rfl ?_
      refine h_val rfl (.bool false) (fun b w hb hH => xCm rfl rfl rfl (cmp_gtr_f (by omega)) hb) ?_
      refine h_q hflT rfl ?_
      refine h_done (d_else rfl (d_skip (f_to (d_reg1 ?_))))
      refine h_q hflT rfl ?_
      refine h_nil (f_block (f_to (d_reg1 ?_)))
      refine h_q hflT rfl ?_
      refine h_val rfl (.int .i64 ((j + 1 : Nat) : Int)) (fun b w hb hH => exec_ar rfl rfl rfl rfl (by rw [IntWalk.i64_in _ (by omega)]; omega) hb) ?_
      refine h_q hflT rfl ?_
      refine h_nil ?_
      exact f_again (j + 1, v * 16 + d) 0 ⟨by omega, hv1.symm⟩ (show 15 - (j + 1) < 15 - j by omega) ⟨rfl, rfl, rfl, rfl, rfl, rfl, rfl, rfl, rfl, rfl, rfl, rfl, trivial⟩ rfl
    · skip
      have hcd : ((digH d).toNat : Int) = ((87 + d : Nat) : Int) := by rw [digH_hi hlo hd16]
      refine d_reg ?_
      refine h_q hflT rfl ?_
      refine h_val rfl (.pointer (some ⟨gb, j, none⟩)) (fun b w hb hH => e_bytix sl_uint8 (by rw [hexD_len]; exact hjl) rfl rfl rfl hb) ?_
      refine h_val rfl (.int .u8 ((87 + d : Nat) : Int)) (fun b w hb hH => e_bytloadc 0 ty_uint8 rfl hbj hcd rfl rfl hH hb) ?_
      refine h_q hflT rfl ?_
      refine h_done (d_reg ?_)
      refine h_q hflT rfl ?_
      refine h_done (d_seq (d_block (d_reg ?_)))
      refine h_q hflT rfl ?_
      refine h_val rfl (.bool false) (fun b w hb hH => xCm rfl rfl rfl (cEf (by omega)) hb) ?_
      refine h_q hflT rfl ?_
      refine h_done (d_else rfl (d_reg ?_))
      refine h_q hflT rfl ?_
      refine h_val rfl (.bool true) (fun b w hb hH => xCm rfl rfl rfl (cmp_leq_t (by omega)) hb) ?_
      refine h_q hflT rfl ?_
      refine h_val rfl (.bool false) (fun b w hb hH => xCm rfl rfl rfl (cmp_leq_f (by omega)) hb) ?_
      refine h_q hflT rfl ?_
      refine h_done (d_else rfl (d_reg ?_))
      refine h_q hflT rfl ?_
      refine h_act (post := fun _ => [BytT 5 gb (hexD 15 n)]) rfl (a_call (ent_of Tryz.func171 (by kernel_rfl) rfl) (fun w hH => lower_hi w ⟨hlo, hd16⟩) rfl rfl rfl) ?_; rintro ⟨⟩
      refine h_val rfl (.bool true) (fun b w hb hH => xCm rfl rfl rfl (cmp_leq_t (by omega)) hb) ?_
      refine h_q hflT rfl ?_
      refine h_act (post := fun _ => [BytT 5 gb (hexD 15 n)]) rfl (a_call (ent_of Tryz.func171 (by kernel_rfl) rfl) (fun w hH => lower_hi w ⟨hlo, hd16⟩) rfl rfl rfl) ?_; rintro ⟨⟩
      refine h_val rfl (.bool true) (fun b w hb hH => xCm rfl rfl rfl (cmp_leq_t (by omega)) hb) ?_
      refine h_q hflT rfl ?_
      refine h_done (d_then rfl (d_reg1 ?_))
      refine h_q hflT rfl ?_
      refine h_act (post := fun _ => [BytT 5 gb (hexD 15 n)]) rfl (a_call (ent_of Tryz.func171 (by kernel_rfl) rfl) (fun w hH => lower_hi w ⟨hlo, hd16⟩) rfl rfl rfl) ?_; rintro ⟨⟩
      refine h_val rfl (.int .u8 ((d - 10 : Nat) : Int)) (fun b w hb hH => exec_ar rfl rfl rfl rfl (by rw [IntWalk.u8_in _ (by omega)]; omega) hb) ?_
      refine h_val rfl (.int .u8 (d : Int)) (fun b w hb hH => exec_ar rfl rfl rfl rfl (by rw [IntWalk.u8_in _ (by omega)]; omega) hb) ?_
      refine h_q hflT rfl ?_
      refine h_nil (f_block (f_to (d_seq (d_reg ?_))))
      refine h_q hflT rfl ?_
      refine h_val rfl (.int .u8 16) (fun b w hb hH => exec_conv Tryz.underlying3 Tryz.underlying5 (IntWalk.u8_in _ (by omega)) rfl rfl hb) ?_
      refine h_val rfl (.bool false) (fun b w hb hH => xCm rfl rfl rfl (cmp_geq_f (by omega)) hb) ?_
      refine h_done (d_else rfl (d_skip (f_to (d_seq (d_reg ?_)))))
      refine h_q hflT rfl ?_
      refine h_val rfl (.bool false) (fun b w hb hH => xCm rfl rfl rfl (cmp_geq_f (by omega)) hb) ?_
      refine h_done (d_else rfl (d_skip (f_to (d_reg ?_))))
      refine h_q hflT rfl ?_
      refine h_val rfl (.int .u64 16) (fun b w hb hH => exec_conv Tryz.underlying3 Tryz.underlying31 (IntWalk.u64_in _ (by omega)) rfl rfl hb) ?_
      refine h_val rfl (.int .u64 ((v * 16 : Nat) : Int)) (fun b w hb hH => exec_ar rfl rfl rfl rfl (by rw [IntWalk.u64_in _ (by omega)]; omega) hb) ?_
      refine h_q hflT rfl ?_
      refine h_done (d_reg ?_)
      refine h_q hflT rfl ?_
      refine h_val rfl (.int .u64 (d : Int)) (fun b w hb hH => exec_conv Tryz.underlying5 Tryz.underlying31 (IntWalk.u64_in _ (by omega)) rfl rfl hb) ?_
      refine h_val rfl (.int .u64 ((v * 16 + d : Nat) : Int)) (fun b w hb hH => exec_ar rfl rfl rfl rfl (by rw [IntWalk.u64_in _ (by omega)]; omega) hb) ?_
      refine h_q hflT rfl ?_
      refine h_done (d_seq (d_reg ?_))
      refine h_q hflT rfl ?_
      refine h_val rfl (.bool false) (fun b w hb hH => xCm rfl rfl rfl (cmp_lss_f (by omega)) hb) ?_
      refine h_q hflT rfl ?_
      refine h_val rfl (.bool false) (fun b w hb hH => xCm rfl rfl rfl (cmp_gtr_f (by omega)) hb) ?_
      refine h_q hflT rfl ?_
      refine h_done (d_else rfl (d_skip (f_to (d_reg1 ?_))))
      refine h_q hflT rfl ?_
      refine h_nil (f_block (f_to (d_reg1 ?_)))
      refine h_q hflT rfl ?_
      refine h_val rfl (.int .i64 ((j + 1 : Nat) : Int)) (fun b w hb hH => exec_ar rfl rfl rfl rfl (by rw [IntWalk.i64_in _ (by omega)]; omega) hb) ?_
      refine h_q hflT rfl ?_
      refine h_nil ?_
      exact f_again (j + 1, v * 16 + d) 0 ⟨by omega, hv1.symm⟩ (show 15 - (j + 1) < 15 - j by omega) ⟨rfl, rfl, rfl, rfl, rfl, rfl, rfl, rfl, rfl, rfl, rfl, rfl, trivial⟩ rfl
  · skip
    have hj15 : j = 15 := by rw [hexD_len] at hlt; omega
    subst hj15
    obtain rfl : v = n := by rw [hI2]; simp
    refine d_reg ?_
    refine h_q hflT rfl ?_
    refine h_val rfl (.bool false) (fun b w hb hH => xCm rfl rfl rfl (cmp_lss_f (by omega)) hb) ?_
    refine h_done (d_seq (d_else rfl (d_exit (fTe (fTe (f_block_exit (f_to (d_seq (d_reg ?_)))))))))
    refine h_q hflT rfl ?_
    refine h_done (d_else rfl (d_skip (f_to (d_reg ?_))))
    refine h_q hflT rfl ?_
    refine h_done (d_ret ?_)
    exact f_fin2 (.tmp rfl) (.tmp rfl) (fun w h => tells () rfl [] rfl h sPr) rfl
theorem pu16_does {n : Nat} (hn : n ≤ 72057594037927935) : Does Tryz.prog 91 #[.string (bs (hexD 15 n)), .int .i64 16, .int .i64 64] [] (fun (_ : Unit) => .tuple #[.int .u64 (n : Int), .nilIface]) (fun (_ : Unit) => []) := by
 refine d_ins (args := [.string (bs (hexD 15 n)), .int .i64 16, .int .i64 64]) 26 Tryz.func91 rfl rfl rfl ?_; intro w rs
 refine d_reg ?_
 refine h_q hflT rfl ?_
 refine h_done (d_reg ?_)
 refine h_q hflT rfl ?_
 refine h_act (post := fun _ => []) rfl (a_does (os' := fun _ => []) [] 0 (ent_of Tryz.func138 (by kernel_rfl) rfl) (ipu16_does hn) rfl rfl rfl (fun _ => rfl) rfl rfl rfl) ?_; rintro ⟨⟩
 refine h_q hflT rfl ?_
 refine h_done (d_seq (d_reg ?_))
 refine h_q hflT rfl ?_
 refine h_val rfl (.bool false) (fun b w hb hH => exec_nilneq rfl rfl hb) ?_
 refine h_done (d_else rfl (d_skip (f_to (d_reg ?_))))
 refine h_q hflT rfl ?_
 refine h_done (d_ret ?_)
 exact f_fin2 (.tmp rfl) (.tmp rfl) (fun w h => tells () rfl [] rfl h sPr) rfl
theorem number_does (tb : Tb) {n : Nat} (hn : n ≤ 72057594037927935) : Does Tryz.prog 40 #[.string (bs (nameL n))] [TabZ tb] (fun (_ : Unit) => .tuple #[.int .u64 (n : Int), .bool true]) (fun (_ : Unit) => [TabZ tb]) := by
 refine d_ins (args := [.string (bs (nameL n))]) 21 Tryz.func40 rfl rfl rfl ?_; intro w rs
 refine d_reg ?_
 refine h_q hflT rfl ?_
 refine h_done (d_reg ?_)
 refine h_q hflT rfl ?_
 refine h_act (post := fun _ => [TabZ tb]) rfl (a_call (ent_of Tryz.func92 (by kernel_rfl) rfl) (fun w hH => trim_name w n) rfl rfl rfl) ?_; rintro ⟨⟩
 refine h_act (post := fun _ => [TabZ tb]) rfl (a_does (os' := fun _ => [TabZ tb]) [] 0 (ent_of Tryz.func91 (by kernel_rfl) rfl) (pu16_does hn) rfl rfl rfl (fun _ => rfl) rfl rfl rfl) ?_; rintro ⟨⟩
 refine h_q hflT rfl ?_
 refine h_done (d_seq (d_reg ?_))
 refine h_q hflT rfl ?_
 refine h_val rfl (.bool false) (fun b w hb hH => exec_nilneq rfl rfl hb) ?_
 refine h_q hflT rfl ?_
 refine h_act (post := fun _ => [TabZ tb]) rfl (a_does (os' := fun _ => [TabZ tb]) [0] 0 (ent_of Tryz.func19 (by kernel_rfl) rfl) (name_does tb hn) rfl rfl rfl (fun _ => rfl) rfl rfl rfl) ?_; rintro ⟨⟩
 refine h_q hflT rfl ?_
 refine h_val rfl (.bool false) (fun b w hb hH => exec_diff (by simp) rfl rfl rfl hb) ?_
 refine h_q hflT rfl ?_
 refine h_done (d_else rfl (d_skip (f_to (d_reg ?_))))
 refine h_q hflT rfl ?_
 refine h_done (d_ret ?_)
 exact f_fin2 (.tmp rfl) (.tmp rfl) (fun w h => tells () rfl [0] rfl h sPr) rfl
end Go.Proofs.YtaipejaeeohpkaaGreatDoor.Sep
