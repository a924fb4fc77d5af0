/-
  SgQ
-/
import Derived.Test.YtjcfimmcogkopaaGreatDoorWX01
import Derived.Test.YtjcfimmcogkopaaGreatDoorWK01
set_option linter.unusedSimpArgs false
set_option linter.unusedVariables false
set_option maxHeartbeats 4000000
set_option maxRecDepth 100000
namespace Go.Proofs.YtjcfimmcogkopaaGreatDoor.Sep
variable {act : Act} {d n : Nat} {env : List (Nat × Value)} {o : Oper} {x : Operand}
open Go.RowKit
open Go.Proofs.YtjcfimmcogkopaaGreatDoor.Mem (AG BC Chg Ak)
theorem QR {w : World} {T T' : TypeId} {y : Operand} (ho : o.op = .binOp .shl T x y T') (hx : evs env x = some (.int .u64 1)) (hy : evs env y = some (.int .u64 64)) (hF : Fr n act env) : (execOp act.eval o).run Tryz.prog w = .ok (.value (.int .u64 0)) w := by
 unfold execOp
 simp only [ho, hF.evs hx, hF.evs hy]
 go_simp
 decide
theorem KR {w : World} (ho : o.op = .binOp .neq 143 x (.const .nilIface) 143) (hx : evs env x = some .nilIface) (hF : Fr n act env) : (execOp act.eval o).run Tryz.prog w = .ok (.value (.bool false)) w := by
 unfold execOp
 simp only [ho, hF.evs hx]
 simp [eqGuard, Act.eval]
 go_simp
theorem Wn (h : d < 10) : (Di d).toNat = 48 + d := by
 have key : ∀ a : Fin 10, (Di a.1).toNat = 48 + a.1 := by decide
 exact key ⟨d, h⟩
theorem Wo (h : 10 ≤ d) (h2 : d < 16) : (Di d).toNat = 87 + d := by
 have key : ∀ a : Fin 6, (Di (10 + a.1)).toNat = 87 + (10 + a.1) := by decide
 have := key ⟨d - 10, by omega⟩
 rwa [show 10 + (d - 10) = d by omega] at this
theorem RN : ∀ {k j n : Nat}, j < k → (BS k n)[j]? = some (Di (n / 16 ^ (k - 1 - j) % 16))
  | 0, j, _, h => by omega
  | k + 1, 0, n, _ => by simp [BS]
  | k + 1, j + 1, n, h => by
    simp only [BS, List.getElem?_cons_succ]
    rw [RN (by omega)]
    rw [show k + 1 - 1 - (j + 1) = k - 1 - j by omega]
theorem Yv (h : 10 ≤ d ∧ d < 16) : bits .or .u8 ((87 + d : Nat) : Int) 32 = ((87 + d : Nat) : Int) := by
 have key : ∀ a : Fin 16, 10 ≤ a.1 → bits .or .u8 (((87 + a.1 : Nat)) : Int) 32 = ((87 + a.1 : Nat) : Int) := by decide
 exact key ⟨d, h.2⟩ h.1
theorem S4 (w : World) (n : Nat) : Calls Tryz.prog 93 #[.string (bs (nameL n)), .string (bs [115])] w fun e w' => e = .returned (.string (bs (BS 15 n))) ∧ Below w.heap.size w w' := by
 refine (Mi w (bs (nameL n)) (bs [115])).mono ?_
 rintro e w' ⟨rfl, hb⟩
 exact ⟨rfl, hb⟩
theorem Mk (w : World) (h : 10 ≤ d ∧ d < 16) : Calls Tryz.prog 164 #[.int .u8 ((87 + d : Nat) : Int)] w fun e w' => e = .returned (.int .u8 ((87 + d : Nat) : Int)) ∧ Below w.heap.size w w' := by
 refine FR (args := [.int .u8 ((87 + d : Nat) : Int)]) 5 Tryz.func164 rfl rfl rfl (AK ?_)
 refine Am Ac rfl (Aa rfl (.int .u8 ((87 + d : Nat) : Int)) (fun b w hb hH => Lc (Yv h) rfl rfl rfl hb) (Aq ?_))
 exact An (.tmp rfl) (fun w h => ⟨rfl, Ak h.up⟩) rfl
theorem QS (hn : n ≤ 72057594037927935) : AA Tryz.prog 131 #[.string (bs (BS 15 n)), .int .i64 16, .int .i64 64] [] (fun (_ : Unit) => .tuple #[.int .u64 (n : Int), .nilIface]) (fun (_ : Unit) => []) := by
 refine AP (args := [.string (bs (BS 15 n)), .int .i64 16, .int .i64 64]) 172 Tryz.func131 rfl rfl rfl ?_; intro w rs
 refine AV ?_
 refine Am Ac rfl (Aa rfl (.bool false) (fun b w hb hH => MO rfl rfl rfl (by simp [BS]) hb) (Ci ?_))
 refine Ci ?_
 refine Ci ?_
 refine Ci ?_
 refine AK ?_
 refine Aa rfl (.int .u64 0) (fun b w hb hH => QR rfl rfl rfl hb) (Aa rfl (.int .u64 18446744073709551615) (fun b w hb hH => Ay rfl rfl rfl rfl (by decide) hb) (Dc ?_))
 refine Am Ac rfl (AQ rfl (S2 Tryz.underlying9 Tryz.underlying49 Tryz.underlying5 rfl rfl) ?_); rintro ⟨gb, cgb⟩
 refine Aa rfl (.int .i64 (((BS 15 n).length) : Int)) (fun b w hb hH => ES AL rfl rfl hH hb) (Aq ?_)
 refine BT (α := Nat × Nat) (fun ⟨j, v⟩ => [(1, .int .i64 16), (6, .int .u64 0), (7, .nilIface), (8, .bool false), (9, .string (bs (BS 15 n))), (10, .int .u64 1152921504606846976), (11, .int .u64 18446744073709551615), (12, .bool false), (13, .int .u64 (v : Int)), (99, .slice (some ⟨gb, 0, none⟩) (BS 15 n).length cgb), (100, .int .i64 (((BS 15 n).length) : Int)), (101, .int .i64 (j : Int))]) (fun ⟨j, v⟩ => [S1 5 gb (BS 15 n)]) (fun ⟨j, v⟩ => j ≤ 15 ∧ v = n / 16 ^ (15 - j)) (fun ⟨j, v⟩ => 15 - j) (0, 0) ⟨by omega, by show 0 = n / 16 ^ 15; omega⟩ ⟨rfl, rfl, rfl, rfl, rfl, rfl, rfl, rfl, rfl, rfl, rfl, rfl, trivial⟩ rfl ?_
 rintro ⟨j, v⟩ hI
 refine AH.at_ (env' := [(1, .int .i64 16), (6, .int .u64 0), (7, .nilIface), (8, .bool false), (9, .string (bs (BS 15 n))), (10, .int .u64 1152921504606846976), (11, .int .u64 18446744073709551615), (12, .bool false), (13, .int .u64 (v : Int)), (99, .slice (some ⟨gb, 0, none⟩) (BS 15 n).length cgb), (100, .int .i64 (((BS 15 n).length) : Int)), (101, .int .i64 (j : Int))]) (rs' := [S1 5 gb (BS 15 n)]) ⟨rfl, rfl, rfl, rfl, rfl, rfl, rfl, rfl, rfl, rfl, rfl, rfl, trivial⟩ rfl ?_
 have hI1 : j ≤ 15 := hI.1
 have hI2 : v = n / 16 ^ (15 - j) := hI.2
 clear hI
 rcases Nat.lt_or_ge j (BS 15 n).length with hlt | hlt
 have hjl : j < 15 := by rw [FH] at hlt; omega
 obtain ⟨d, hd⟩ : ∃ d, n / 16 ^ (14 - j) % 16 = d := ⟨_, rfl⟩
 have hd16 : d < 16 := by omega
 have hbj : (BS 15 n)[j]? = some (Di d) := by rw [RN hjl, ← hd]
 have hv1 : n / 16 ^ (15 - (j + 1)) = v * 16 + d := by
   rw [hI2, ← hd, show 15 - j = (14 - j) + 1 by omega, Nat.pow_succ, ← Nat.div_div_eq_div_mul, show 15 - (j + 1) = 14 - j by omega]
   omega
 have hvl : v < 1152921504606846976 := by rw [hI2]; exact Nat.lt_of_le_of_lt (Nat.div_le_self _ _) (by omega)
 have hvn : v * 16 + d ≤ n := by rw [← hv1]; exact Nat.div_le_self _ _
 refine Kf ?_
 rcases Nat.lt_or_ge d 10 with hlo | hlo
 have hcd : ((Di d).toNat : Int) = ((48 + d : Nat) : Int) := by rw [Wn hlo]
 refine Al (Am Ac rfl (Aa rfl (.pointer (some ⟨gb, j, none⟩)) (fun b w hb hH => RM AL (by rw [FH]; exact hjl) rfl rfl rfl hb) (Aa rfl (.int .u8 ((48 + d : Nat) : Int)) (fun b w hb hH => Mj 0 C5 rfl hbj hcd rfl rfl hH hb) (Ci ?_))))
 refine AK ?_
 refine Am Ac rfl (Aa rfl (.int .u8 (d : Int)) (fun b w hb hH => Ay rfl rfl rfl rfl (by rw [IntWalk.u8_in _ (by omega)]; omega) hb) (Ci ?_))
 refine Eh ?_
 refine Aa rfl (.int .u64 ((v * 16 : Nat) : Int)) (fun b w hb hH => Ay rfl rfl rfl rfl (by rw [IntWalk.u64_in _ (by omega)]; omega) hb) (AK ?_)
 refine Aa rfl (.int .u64 ((v * 16 + d : Nat) : Int)) (fun b w hb hH => Ay rfl rfl rfl rfl (by rw [IntWalk.u64_in _ (by omega)]; omega) hb) (Ci ?_)
 refine Aq ?_
 refine Am Ac rfl (Aa rfl (.int .i64 ((j + 1 : Nat) : Int)) (fun b w hb hH => Ay rfl rfl rfl rfl (by rw [IntWalk.i64_in _ (by omega)]; omega) hb) (Ai ?_))
 exact Br (j + 1, v * 16 + d) 0 ⟨by omega, hv1.symm⟩ (show 15 - (j + 1) < 15 - j by omega) ⟨rfl, rfl, rfl, rfl, rfl, rfl, rfl, rfl, rfl, rfl, rfl, rfl, trivial⟩ rfl
 have hcd : ((Di d).toNat : Int) = ((87 + d : Nat) : Int) := by rw [Wo hlo hd16]
 refine Al (Am Ac rfl (Aa rfl (.pointer (some ⟨gb, j, none⟩)) (fun b w hb hH => RM AL (by rw [FH]; exact hjl) rfl rfl rfl hb) (Aa rfl (.int .u8 ((87 + d : Nat) : Int)) (fun b w hb hH => Mj 0 C5 rfl hbj hcd rfl rfl hH hb) (Ci ?_))))
 refine AK ?_
 refine Am Ac rfl (FD (fun w hH => Mk w ⟨hlo, hd16⟩) ?_)
 refine Ai ?_
 refine Am Ac rfl (FD (fun w hH => Mk w ⟨hlo, hd16⟩) ?_)
 refine AV ?_
 refine Am Ac rfl (FD (fun w hH => Mk w ⟨hlo, hd16⟩) ?_)
 refine Aa rfl (.int .u8 ((d - 10 : Nat) : Int)) (fun b w hb hH => Ay rfl rfl rfl rfl (by rw [IntWalk.u8_in _ (by omega)]; omega) hb) (Aa rfl (.int .u8 (d : Int)) (fun b w hb hH => Ay rfl rfl rfl rfl (by rw [IntWalk.u8_in _ (by omega)]; omega) hb) (Ci ?_))
 refine Eh ?_
 refine Aa rfl (.int .u64 ((v * 16 : Nat) : Int)) (fun b w hb hH => Ay rfl rfl rfl rfl (by rw [IntWalk.u64_in _ (by omega)]; omega) hb) (AK ?_)
 refine Aa rfl (.int .u64 ((v * 16 + d : Nat) : Int)) (fun b w hb hH => Ay rfl rfl rfl rfl (by rw [IntWalk.u64_in _ (by omega)]; omega) hb) (Ci ?_)
 refine Aq ?_
 refine Am Ac rfl (Aa rfl (.int .i64 ((j + 1 : Nat) : Int)) (fun b w hb hH => Ay rfl rfl rfl rfl (by rw [IntWalk.i64_in _ (by omega)]; omega) hb) (Ai ?_))
 exact Br (j + 1, v * 16 + d) 0 ⟨by omega, hv1.symm⟩ (show 15 - (j + 1) < 15 - j by omega) ⟨rfl, rfl, rfl, rfl, rfl, rfl, rfl, rfl, rfl, rfl, rfl, rfl, trivial⟩ rfl
 have hj15 : j = 15 := by rw [FH] at hlt; omega
 subst hj15
 obtain rfl : v = n := by rw [hI2]; simp
 refine BD ?_
 refine B2 (Ci ?_)
 refine Ai ?_
 exact BJ (.tmp rfl) (.tmp rfl) (fun w h => As () rfl [] rfl h DK) rfl
theorem S5 (hn : n ≤ 72057594037927935) : AA Tryz.prog 92 #[.string (bs (BS 15 n)), .int .i64 16, .int .i64 64] [] (fun (_ : Unit) => .tuple #[.int .u64 (n : Int), .nilIface]) (fun (_ : Unit) => []) := by
 refine AP (args := [.string (bs (BS 15 n)), .int .i64 16, .int .i64 64]) 26 Tryz.func92 rfl rfl rfl ?_; intro w rs
 refine AK ?_
 refine Am Ac rfl (CE [] (QS hn) ?_)
 refine AK ?_
 refine Am Ac rfl (Aa rfl (.bool false) (fun b w hb hH => KR rfl rfl hb) (Dc ?_))
 exact BJ (.tmp rfl) (.tmp rfl) (fun w h => As () rfl [] rfl h DK) rfl
theorem KS (tb : Tb) (hn : n ≤ 72057594037927935) : AA Tryz.prog 35 #[.string (bs (nameL n))] [Aj tb] (fun (_ : Unit) => .tuple #[.int .u64 (n : Int), .bool true]) (fun (_ : Unit) => [Aj tb]) := by
 refine AP (args := [.string (bs (nameL n))]) 21 Tryz.func35 rfl rfl rfl ?_; intro w rs
 refine AK ?_
 refine Am Ac rfl (FD (fun w hH => S4 w n) ?_)
 refine CE [] (S5 hn) ?_
 refine AK ?_
 refine Am Ac rfl (Aa rfl (.bool false) (fun b w hb hH => KR rfl rfl hb) (Am Ac rfl (CE [0] (Cn tb hn) ?_)))
 refine Am Ac rfl (Aa rfl (.bool false) (fun b w hb hH => Ni (by simp) rfl rfl rfl hb) (Dc ?_))
 exact BJ (.tmp rfl) (.tmp rfl) (fun w h => As () rfl [0] rfl h DK) rfl
end Go.Proofs.YtjcfimmcogkopaaGreatDoor.Sep
