/-
  SgQ
-/
import Derived.Test.YtjcfimmcogkopaaGreatDoorWK01
set_option linter.unusedSimpArgs false
set_option linter.unusedVariables false
set_option maxRecDepth 100000
namespace Go.Proofs.YtjcfimmcogkopaaGreatDoor.Sep
open Go.RowKit
open Go.Proofs.YtjcfimmcogkopaaGreatDoor.Mem (Bb Ci Chg Aw)
theorem QM {n : Nat} {env : List (Nat × Value)} {o : Oper} {act : Act} {w : World} {T T' : TypeId} {x y : Operand} (ho : o.op = .binOp .shl T x y T') (hx : evs env x = some (.int .u64 1)) (hy : evs env y = some (.int .u64 64)) (hF : Fr n act env) : (execOp act.eval o).run Tryz.prog w = .ok (.value (.int .u64 0)) w := by
 unfold execOp
 simp only [ho, hF.evs hx, hF.evs hy]
 go_simp
 decide
theorem KS {n : Nat} {env : List (Nat × Value)} {o : Oper} {act : Act} {w : World} {x : Operand} (ho : o.op = .binOp .neq 143 x (.const .nilIface) 143) (hx : evs env x = some .nilIface) (hF : Fr n act env) : (execOp act.eval o).run Tryz.prog w = .ok (.value (.bool false)) w := by
 unfold execOp
 simp only [ho, hF.evs hx]
 simp [eqGuard, Act.eval]
 go_simp
theorem V4 {d : Nat} (h : d < 10) : (DQ d).toNat = 48 + d := by
 have key : ∀ a : Fin 10, (DQ a.1).toNat = 48 + a.1 := by decide
 exact key ⟨d, h⟩
theorem V5 {d : Nat} (h : 10 ≤ d) (h2 : d < 16) : (DQ d).toNat = 87 + d := by
 have key : ∀ a : Fin 6, (DQ (10 + a.1)).toNat = 87 + (10 + a.1) := by decide
 have := key ⟨d - 10, by omega⟩
 rwa [show 10 + (d - 10) = d by omega] at this
theorem RL : ∀ {k j n : Nat}, j < k → (Cq k n)[j]? = some (DQ (n / 16 ^ (k - 1 - j) % 16))
  | 0, j, _, h => by omega
  | k + 1, 0, n, _ => by simp [Cq]
  | k + 1, j + 1, n, h => by
    simp only [Cq, List.getElem?_cons_succ]
    rw [RL (by omega)]
    rw [show k + 1 - 1 - (j + 1) = k - 1 - j by omega]
theorem X0 {d : Nat} (h : 10 ≤ d ∧ d < 16) : bits .or .u8 ((87 + d : Nat) : Int) 32 = ((87 + d : Nat) : Int) := by
 have key : ∀ a : Fin 16, 10 ≤ a.1 → bits .or .u8 (((87 + a.1 : Nat)) : Int) 32 = ((87 + a.1 : Nat) : Int) := by decide
 exact key ⟨d, h.2⟩ h.1
theorem SW (w : World) (n : Nat) : Calls Tryz.prog 93 #[.string (bs (nameL n)), .string (bs [115])] w fun e w' => e = .returned (.string (bs (Cq 15 n))) ∧ Below w.heap.size w w' := by
 refine (Mf w (bs (nameL n)) (bs [115])).mono ?_
 rintro e w' ⟨rfl, hb⟩
 exact ⟨rfl, hb⟩
theorem Mh (w : World) {d : Nat} (h : 10 ≤ d ∧ d < 16) : Calls Tryz.prog 164 #[.int .u8 ((87 + d : Nat) : Int)] w fun e w' => e = .returned (.int .u8 ((87 + d : Nat) : Int)) ∧ Below w.heap.size w w' := by
 refine Gi (args := [.int .u8 ((87 + d : Nat) : Int)]) 5 Tryz.func164 rfl rfl rfl (Ad (Af Ae rfl (Ab (Ad (Af Ae rfl (Aa rfl (.int .u8 ((87 + d : Nat) : Int)) (fun b w hb hH => K9 (X0 h) rfl rfl rfl hb) (Af Ae rfl (Ab (AB ?_)))))))))
 exact AA (.tmp rfl) (fun w h => ⟨rfl, Aw h.up⟩) rfl
theorem QN {n : Nat} (hn : n ≤ 72057594037927935) : AV Tryz.prog 131 #[.string (bs (Cq 15 n)), .int .i64 16, .int .i64 64] [] (fun (_ : Unit) => .tuple #[.int .u64 (n : Int), .nilIface]) (fun (_ : Unit) => []) := by
 refine Bo (args := [.string (bs (Cq 15 n)), .int .i64 16, .int .i64 64]) 172 Tryz.func131 rfl rfl rfl ?_; intro w rs
 refine Ad (Af Ae rfl (Ab (Ar (Ad (Af Ae rfl (Aa rfl (.bool false) (fun b w hb hH => MM rfl rfl rfl (by simp [Cq]) hb) (Ab (Au rfl (Av (AC (Ad (Af Ae rfl (Aa rfl (.bool false) (fun b w hb hH => A5 rfl rfl rfl (EM (by decide)) hb) (Af Ae rfl (Ab (Ad ?_))))))))))))))))
 refine Af Ae rfl (Ab (Ar (AK (Ad (Af Ae rfl (Aa rfl (.bool true) (fun b w hb hH => A5 rfl rfl rfl (CA (by decide)) hb) (Af Ae rfl (Aa rfl (.bool true) (fun b w hb hH => A5 rfl rfl rfl (CA (by decide)) hb) (Af Ae rfl (Ab (AE rfl (Av (A6 (AC (Ar (Ad (Af Ae rfl (Aa rfl (.bool false) (fun b w hb hH => A5 rfl rfl rfl (EM (by decide)) hb) ?_))))))))))))))))))
 refine Ab (Au rfl (Ad (Af Ae rfl (Aa rfl (.bool false) (fun b w hb hH => A5 rfl rfl rfl (BI (by decide)) hb) (Af Ae rfl (Aa rfl (.bool false) (fun b w hb hH => A5 rfl rfl rfl (By (by decide)) hb) (Af Ae rfl (Ab (Au rfl (Av (AC (Ad (Af Ae rfl (Ab (Ar (Ad (Af Ae rfl ?_)))))))))))))))))
 refine Ab (AK (Ad (Af Ae rfl (Aa rfl (.bool false) (fun b w hb hH => A5 rfl rfl rfl (EM (by decide)) hb) (Af Ae rfl (Ab (Au rfl (Ad (Af Ae rfl (Aa rfl (.bool true) (fun b w hb hH => A5 rfl rfl rfl (Fw (by decide)) hb) (Af Ae rfl (Ab (AE rfl (BB (Af Ae rfl ?_)))))))))))))))
 refine AG (A6 (AC (Ad (Af Ae rfl (Aa rfl (.int .u64 64) (fun b w hb hH => Bi Tryz.underlying3 Tryz.underlying116 (IntWalk.u64_in _ (by omega)) rfl rfl hb) (Aa rfl (.int .u64 0) (fun b w hb hH => QM rfl rfl rfl hb) (Aa rfl (.int .u64 18446744073709551615) (fun b w hb hH => AJ rfl rfl rfl rfl (by decide) hb) (Af Ae rfl (Ab (Ad (Af Ae rfl (Ab (Ad (Af Ae rfl ?_))))))))))))))
 refine Ab (Ar (Ad (Af Ae rfl (Al rfl (SU Tryz.underlying9 Tryz.underlying49 Tryz.underlying5 rfl rfl) ?_)))); rintro ⟨gb, cgb⟩
 refine Aa rfl (.int .i64 (((Cq 15 n).length) : Int)) (fun b w hb hH => Fd Bh rfl rfl hH hb) (Af Ae rfl (Ab (AK (CC (α := Nat × Nat) (fun ⟨j, v⟩ => [(1, .int .i64 16), (6, .int .u64 0), (7, .nilIface), (8, .bool false), (9, .string (bs (Cq 15 n))), (10, .int .u64 1152921504606846976), (11, .int .u64 18446744073709551615), (12, .bool false), (13, .int .u64 (v : Int)), (99, .slice (some ⟨gb, 0, none⟩) (Cq 15 n).length cgb), (100, .int .i64 (((Cq 15 n).length) : Int)), (101, .int .i64 (j : Int))]) (fun ⟨j, v⟩ => [NV 5 gb (Cq 15 n)]) (fun ⟨j, v⟩ => j ≤ 15 ∧ v = n / 16 ^ (15 - j)) (fun ⟨j, v⟩ => 15 - j) (0, 0) ⟨by omega, by show 0 = n / 16 ^ 15; omega⟩ ⟨rfl, rfl, rfl, rfl, rfl, rfl, rfl, rfl, rfl, rfl, rfl, rfl, trivial⟩ rfl ?_))))
 rintro ⟨j, v⟩ hI
 refine AL.at_ (env' := [(1, .int .i64 16), (6, .int .u64 0), (7, .nilIface), (8, .bool false), (9, .string (bs (Cq 15 n))), (10, .int .u64 1152921504606846976), (11, .int .u64 18446744073709551615), (12, .bool false), (13, .int .u64 (v : Int)), (99, .slice (some ⟨gb, 0, none⟩) (Cq 15 n).length cgb), (100, .int .i64 (((Cq 15 n).length) : Int)), (101, .int .i64 (j : Int))]) (rs' := [NV 5 gb (Cq 15 n)]) ⟨rfl, rfl, rfl, rfl, rfl, rfl, rfl, rfl, rfl, rfl, rfl, rfl, trivial⟩ rfl ?_
 have hI1 : j ≤ 15 := hI.1
 have hI2 : v = n / 16 ^ (15 - j) := hI.2
 clear hI
 rcases Nat.lt_or_ge j (Cq 15 n).length with hlt | hlt
 have hjl : j < 15 := by rw [F7] at hlt; omega
 obtain ⟨d, hd⟩ : ∃ d, n / 16 ^ (14 - j) % 16 = d := ⟨_, rfl⟩
 have hd16 : d < 16 := by omega
 have hbj : (Cq 15 n)[j]? = some (DQ d) := by rw [RL hjl, ← hd]
 have hv1 : n / 16 ^ (15 - (j + 1)) = v * 16 + d := by
   rw [hI2, ← hd, show 15 - j = (14 - j) + 1 by omega, Nat.pow_succ, ← Nat.div_div_eq_div_mul, show 15 - (j + 1) = 14 - j by omega]
   omega
 have hvl : v < 1152921504606846976 := by rw [hI2]; exact Nat.lt_of_le_of_lt (Nat.div_le_self _ _) (by omega)
 have hvn : v * 16 + d ≤ n := by rw [← hv1]; exact Nat.div_le_self _ _
 refine Ad (Af Ae rfl (Aa rfl (.bool true) (fun b w hb hH => A5 rfl rfl rfl (BY (by omega)) hb) (Ab (Ar (AE rfl (Av (AC (Ar (AK ?_)))))))))
 rcases Nat.lt_or_ge d 10 with hlo | hlo
 have hcd : ((DQ d).toNat : Int) = ((48 + d : Nat) : Int) := by rw [V4 hlo]
 refine Ad (Af Ae rfl (Aa rfl (.pointer (some ⟨gb, j, none⟩)) (fun b w hb hH => RK Bh (by rw [F7]; exact hjl) rfl rfl rfl hb) (Aa rfl (.int .u8 ((48 + d : Nat) : Int)) (fun b w hb hH => Mg 0 DZ rfl hbj hcd rfl rfl hH hb) (Af Ae rfl (Ab (Ad (Af Ae rfl (Ab (Ar (AK (Ad (Af Ae rfl (Aa rfl (.bool false) (fun b w hb hH => A5 rfl rfl rfl (EM (by omega)) hb) ?_)))))))))))))
 refine Af Ae rfl (Ab (Au rfl (Ad (Af Ae rfl (Aa rfl (.bool true) (fun b w hb hH => A5 rfl rfl rfl (CA (by omega)) hb) (Af Ae rfl (Aa rfl (.bool true) (fun b w hb hH => A5 rfl rfl rfl (CA (by omega)) hb) (Af Ae rfl (Ab (AE rfl (BB (Af Ae rfl (Aa rfl (.int .u8 (d : Int)) (fun b w hb hH => AJ rfl rfl rfl rfl (by rw [IntWalk.u8_in _ (by omega)]; omega) hb) ?_)))))))))))))
 refine Af Ae rfl (AG (A6 (AC (Ar (Ad (Af Ae rfl (Aa rfl (.int .u8 16) (fun b w hb hH => Bi Tryz.underlying3 Tryz.underlying5 (IntWalk.u8_in _ (by omega)) rfl rfl hb) (Aa rfl (.bool false) (fun b w hb hH => A5 rfl rfl rfl (De (by omega)) hb) (Ab (Au rfl (Av (AC (Ar (Ad (Af Ae rfl (Aa rfl (.bool false) (fun b w hb hH => A5 rfl rfl rfl (De (by omega)) hb) (Ab (Au rfl (Av (AC (Ad (Af Ae rfl ?_))))))))))))))))))))))
 refine Aa rfl (.int .u64 16) (fun b w hb hH => Bi Tryz.underlying3 Tryz.underlying38 (IntWalk.u64_in _ (by omega)) rfl rfl hb) (Aa rfl (.int .u64 ((v * 16 : Nat) : Int)) (fun b w hb hH => AJ rfl rfl rfl rfl (by rw [IntWalk.u64_in _ (by omega)]; omega) hb) (Af Ae rfl (Ab (Ad (Af Ae rfl (Aa rfl (.int .u64 (d : Int)) (fun b w hb hH => Bi Tryz.underlying5 Tryz.underlying38 (IntWalk.u64_in _ (by omega)) rfl rfl hb) (Aa rfl (.int .u64 ((v * 16 + d : Nat) : Int)) (fun b w hb hH => AJ rfl rfl rfl rfl (by rw [IntWalk.u64_in _ (by omega)]; omega) hb) (Af Ae rfl (Ab (Ar (Ad (Af Ae rfl ?_))))))))))))
 refine Aa rfl (.bool false) (fun b w hb hH => A5 rfl rfl rfl (BI (by omega)) hb) (Af Ae rfl (Aa rfl (.bool false) (fun b w hb hH => A5 rfl rfl rfl (By (by omega)) hb) (Af Ae rfl (Ab (Au rfl (Av (AC (BB (Af Ae rfl (AG (A6 (AC (BB (Af Ae rfl (Aa rfl (.int .i64 ((j + 1 : Nat) : Int)) (fun b w hb hH => AJ rfl rfl rfl rfl (by rw [IntWalk.i64_in _ (by omega)]; omega) hb) (Af Ae rfl ?_))))))))))))))))
 refine AG ?_
 exact B6 (j + 1, v * 16 + d) 0 ⟨by omega, hv1.symm⟩ (show 15 - (j + 1) < 15 - j by omega) ⟨rfl, rfl, rfl, rfl, rfl, rfl, rfl, rfl, rfl, rfl, rfl, rfl, trivial⟩ rfl
 have hcd : ((DQ d).toNat : Int) = ((87 + d : Nat) : Int) := by rw [V5 hlo hd16]
 refine Ad (Af Ae rfl (Aa rfl (.pointer (some ⟨gb, j, none⟩)) (fun b w hb hH => RK Bh (by rw [F7]; exact hjl) rfl rfl rfl hb) (Aa rfl (.int .u8 ((87 + d : Nat) : Int)) (fun b w hb hH => Mg 0 DZ rfl hbj hcd rfl rfl hH hb) (Af Ae rfl (Ab (Ad (Af Ae rfl (Ab (Ar (AK (Ad (Af Ae rfl (Aa rfl (.bool false) (fun b w hb hH => A5 rfl rfl rfl (EM (by omega)) hb) ?_)))))))))))))
 refine Af Ae rfl (Ab (Au rfl (Ad (Af Ae rfl (Aa rfl (.bool true) (fun b w hb hH => A5 rfl rfl rfl (CA (by omega)) hb) (Af Ae rfl (Aa rfl (.bool false) (fun b w hb hH => A5 rfl rfl rfl (Gq (by omega)) hb) (Af Ae rfl (Ab (Au rfl (Ad (Af Ae rfl (Al (post := fun _ => [NV 5 gb (Cq 15 n)]) rfl (Bk (Ai Tryz.func164 (by kernel_rfl) rfl) (fun w hH => Mh w ⟨hlo, hd16⟩) rfl rfl rfl) ?_))))))))))))); rintro ⟨⟩
 refine Aa rfl (.bool true) (fun b w hb hH => A5 rfl rfl rfl (CA (by omega)) hb) (Af Ae rfl (Al (post := fun _ => [NV 5 gb (Cq 15 n)]) rfl (Bk (Ai Tryz.func164 (by kernel_rfl) rfl) (fun w hH => Mh w ⟨hlo, hd16⟩) rfl rfl rfl) ?_)); rintro ⟨⟩
 refine Aa rfl (.bool true) (fun b w hb hH => A5 rfl rfl rfl (CA (by omega)) hb) (Af Ae rfl (Ab (AE rfl (BB (Af Ae rfl (Al (post := fun _ => [NV 5 gb (Cq 15 n)]) rfl (Bk (Ai Tryz.func164 (by kernel_rfl) rfl) (fun w hH => Mh w ⟨hlo, hd16⟩) rfl rfl rfl) ?_)))))); rintro ⟨⟩
 refine Aa rfl (.int .u8 ((d - 10 : Nat) : Int)) (fun b w hb hH => AJ rfl rfl rfl rfl (by rw [IntWalk.u8_in _ (by omega)]; omega) hb) (Aa rfl (.int .u8 (d : Int)) (fun b w hb hH => AJ rfl rfl rfl rfl (by rw [IntWalk.u8_in _ (by omega)]; omega) hb) (Af Ae rfl (AG (A6 (AC (Ar (Ad (Af Ae rfl (Aa rfl (.int .u8 16) (fun b w hb hH => Bi Tryz.underlying3 Tryz.underlying5 (IntWalk.u8_in _ (by omega)) rfl rfl hb) (Aa rfl (.bool false) (fun b w hb hH => A5 rfl rfl rfl (De (by omega)) hb) (Ab (Au rfl (Av (AC (Ar (Ad (Af Ae rfl (Aa rfl (.bool false) (fun b w hb hH => A5 rfl rfl rfl (De (by omega)) hb) ?_))))))))))))))))))
 refine Ab (Au rfl (Av (AC (Ad (Af Ae rfl (Aa rfl (.int .u64 16) (fun b w hb hH => Bi Tryz.underlying3 Tryz.underlying38 (IntWalk.u64_in _ (by omega)) rfl rfl hb) (Aa rfl (.int .u64 ((v * 16 : Nat) : Int)) (fun b w hb hH => AJ rfl rfl rfl rfl (by rw [IntWalk.u64_in _ (by omega)]; omega) hb) (Af Ae rfl (Ab (Ad (Af Ae rfl (Aa rfl (.int .u64 (d : Int)) (fun b w hb hH => Bi Tryz.underlying5 Tryz.underlying38 (IntWalk.u64_in _ (by omega)) rfl rfl hb) (Aa rfl (.int .u64 ((v * 16 + d : Nat) : Int)) (fun b w hb hH => AJ rfl rfl rfl rfl (by rw [IntWalk.u64_in _ (by omega)]; omega) hb) (Af Ae rfl ?_))))))))))))))
 refine Ab (Ar (Ad (Af Ae rfl (Aa rfl (.bool false) (fun b w hb hH => A5 rfl rfl rfl (BI (by omega)) hb) (Af Ae rfl (Aa rfl (.bool false) (fun b w hb hH => A5 rfl rfl rfl (By (by omega)) hb) (Af Ae rfl (Ab (Au rfl (Av (AC (BB (Af Ae rfl (AG (A6 (AC (BB (Af Ae rfl ?_))))))))))))))))))
 refine Aa rfl (.int .i64 ((j + 1 : Nat) : Int)) (fun b w hb hH => AJ rfl rfl rfl rfl (by rw [IntWalk.i64_in _ (by omega)]; omega) hb) (Af Ae rfl (AG ?_))
 exact B6 (j + 1, v * 16 + d) 0 ⟨by omega, hv1.symm⟩ (show 15 - (j + 1) < 15 - j by omega) ⟨rfl, rfl, rfl, rfl, rfl, rfl, rfl, rfl, rfl, rfl, rfl, rfl, trivial⟩ rfl
 have hj15 : j = 15 := by rw [F7] at hlt; omega
 subst hj15
 obtain rfl : v = n := by rw [hI2]; simp
 refine Ad (Af Ae rfl (Aa rfl (.bool false) (fun b w hb hH => A5 rfl rfl rfl (BI (by omega)) hb) (Ab (Ar (Au rfl (CJ (Fq (Fq (Bg (AC (Ar (Ad (Af Ae rfl (Ab (Au rfl (Av (AC (Ad (Af Ae rfl (Ab (AB ?_)))))))))))))))))))))
 exact Co (.tmp rfl) (.tmp rfl) (fun w h => AH () rfl [] rfl h El) rfl
theorem SX {n : Nat} (hn : n ≤ 72057594037927935) : AV Tryz.prog 92 #[.string (bs (Cq 15 n)), .int .i64 16, .int .i64 64] [] (fun (_ : Unit) => .tuple #[.int .u64 (n : Int), .nilIface]) (fun (_ : Unit) => []) := by
 refine Bo (args := [.string (bs (Cq 15 n)), .int .i64 16, .int .i64 64]) 26 Tryz.func92 rfl rfl rfl ?_; intro w rs
 refine Ad (Af Ae rfl (Ab (Ad (Af Ae rfl (Al rfl (As (os' := fun _ => []) [] 0 (Ai Tryz.func131 (by kernel_rfl) rfl) (QN hn) rfl rfl rfl (fun _ => rfl) rfl rfl rfl) ?_))))); rintro ⟨⟩
 refine Af Ae rfl (Ab (Ar (Ad (Af Ae rfl (Aa rfl (.bool false) (fun b w hb hH => KS rfl rfl hb) (Ab (Au rfl (Av (AC (Ad (Af Ae rfl (Ab (AB ?_)))))))))))))
 exact Co (.tmp rfl) (.tmp rfl) (fun w h => AH () rfl [] rfl h El) rfl
theorem KT (tb : Tb) {n : Nat} (hn : n ≤ 72057594037927935) : AV Tryz.prog 35 #[.string (bs (nameL n))] [Ao tb] (fun (_ : Unit) => .tuple #[.int .u64 (n : Int), .bool true]) (fun (_ : Unit) => [Ao tb]) := by
 refine Bo (args := [.string (bs (nameL n))]) 21 Tryz.func35 rfl rfl rfl ?_; intro w rs
 refine Ad (Af Ae rfl (Ab (Ad (Af Ae rfl (Al (post := fun _ => [Ao tb]) rfl (Bk (Ai Tryz.func93 (by kernel_rfl) rfl) (fun w hH => SW w n) rfl rfl rfl) ?_))))); rintro ⟨⟩
 refine Al rfl (As (os' := fun _ => [Ao tb]) [] 0 (Ai Tryz.func92 (by kernel_rfl) rfl) (SX hn) rfl rfl rfl (fun _ => rfl) rfl rfl rfl) ?_; rintro ⟨⟩
 refine Af Ae rfl (Ab (Ar (Ad (Af Ae rfl (Aa rfl (.bool false) (fun b w hb hH => KS rfl rfl hb) (Af Ae rfl (Al rfl (As (os' := fun _ => [Ao tb]) [0] 0 (Ai Tryz.func29 (by kernel_rfl) rfl) (C7 tb hn) rfl rfl rfl (fun _ => rfl) rfl rfl rfl) ?_))))))); rintro ⟨⟩
 refine Af Ae rfl (Aa rfl (.bool false) (fun b w hb hH => Ng (by simp) rfl rfl rfl hb) (Af Ae rfl (Ab (Au rfl (Av (AC (Ad (Af Ae rfl (Ab (AB ?_))))))))))
 exact Co (.tmp rfl) (.tmp rfl) (fun w h => AH () rfl [0] rfl h El) rfl
end Go.Proofs.YtjcfimmcogkopaaGreatDoor.Sep
