/-
  SgQ
-/
import Derived.Test.YtnknboibmifacaaGreatDoorVK01
set_option linter.unusedSimpArgs false
set_option linter.unusedVariables false
set_option maxRecDepth 100000
namespace Go.Proofs.YtnknboibmifacaaGreatDoor.Sep
open Go.RowKit
open Go.Proofs.YtnknboibmifacaaGreatDoor.Mem (AR B3 Chg Av)
theorem PY {n : Nat} {env : List (Nat × Value)} {o : Oper} {act : Act} {w : World} {T T' : TypeId} {x y : Operand} (ho : o.op = .binOp .shl T x y T') (hx : evs env x = some (.int .u64 1)) (hy : evs env y = some (.int .u64 64)) (hF : Fr n act env) : (execOp act.eval o).run Tryz.prog w = .ok (.value (.int .u64 0)) w := by
 unfold execOp
 simp only [ho, hF.evs hx, hF.evs hy]
 go_simp
 decide
theorem J5 {n : Nat} {env : List (Nat × Value)} {o : Oper} {act : Act} {w : World} {x : Operand} (ho : o.op = .binOp .neq 145 x (.const .nilIface) 145) (hx : evs env x = some .nilIface) (hF : Fr n act env) : (execOp act.eval o).run Tryz.prog w = .ok (.value (.bool false)) w := by
 unfold execOp
 simp only [ho, hF.evs hx]
 simp [eqGuard, Act.eval]
 go_simp
theorem Vb {d : Nat} (h : d < 10) : (Dw d).toNat = 48 + d := by
 have key : ∀ a : Fin 10, (Dw a.1).toNat = 48 + a.1 := by decide
 exact key ⟨d, h⟩
theorem Vc {d : Nat} (h : 10 ≤ d) (h2 : d < 16) : (Dw d).toNat = 87 + d := by
 have key : ∀ a : Fin 6, (Dw (10 + a.1)).toNat = 87 + (10 + a.1) := by decide
 have := key ⟨d - 10, by omega⟩
 rwa [show 10 + (d - 10) = d by omega] at this
theorem QO : ∀ {k j n : Nat}, j < k → (Ce k n)[j]? = some (Dw (n / 16 ^ (k - 1 - j) % 16))
  | 0, j, _, h => by omega
  | k + 1, 0, n, _ => by simp [Ce]
  | k + 1, j + 1, n, h => by
    simp only [Ce, List.getElem?_cons_succ]
    rw [QO (by omega)]
    rw [show k + 1 - 1 - (j + 1) = k - 1 - j by omega]
theorem Xj {d : Nat} (h : 10 ≤ d ∧ d < 16) : bits .or .u8 ((87 + d : Nat) : Int) 32 = ((87 + d : Nat) : Int) := by
 have key : ∀ a : Fin 16, 10 ≤ a.1 → bits .or .u8 (((87 + a.1 : Nat)) : Int) 32 = ((87 + a.1 : Nat) : Int) := by decide
 exact key ⟨d, h.2⟩ h.1
theorem R0 (w : World) (n : Nat) : Calls Tryz.prog 92 #[.string (bs (nameL n)), .string (bs [115])] w fun e w' => e = .returned (.string (bs (Ce 15 n))) ∧ Below w.heap.size w w' := by
 refine (Le w (bs (nameL n)) (bs [115])).mono ?_
 rintro e w' ⟨rfl, hb⟩
 exact ⟨rfl, hb⟩
theorem Lg (w : World) {d : Nat} (h : 10 ≤ d ∧ d < 16) : Calls Tryz.prog 171 #[.int .u8 ((87 + d : Nat) : Int)] w fun e w' => e = .returned (.int .u8 ((87 + d : Nat) : Int)) ∧ Below w.heap.size w w' := by
 refine FW (args := [.int .u8 ((87 + d : Nat) : Int)]) 5 Tryz.func171 rfl rfl rfl ?_
 refine Ad ?_
 refine Af Ae rfl ?_
 refine Ab (Ad ?_)
 refine Af Ae rfl ?_
 refine Aa rfl (.int .u8 ((87 + d : Nat) : Int)) (fun b w hb hH => Kg (Xj h) rfl rfl rfl hb) ?_
 refine Af Ae rfl ?_
 refine Ab (Az ?_)
 exact Ay (.tmp rfl) (fun w h => ⟨rfl, Av h.up⟩) rfl
theorem PZ {n : Nat} (hn : n ≤ 72057594037927935) : AP Tryz.prog 138 #[.string (bs (Ce 15 n)), .int .i64 16, .int .i64 64] [] (fun (_ : Unit) => .tuple #[.int .u64 (n : Int), .nilIface]) (fun (_ : Unit) => []) := by
  refine Bj (args := [.string (bs (Ce 15 n)), .int .i64 16, .int .i64 64]) 172 Tryz.func138 rfl rfl rfl ?_; intro w rs
  refine Ad ?_
  refine Af Ae rfl ?_
  refine Ab (An (Ad ?_))
  refine Af Ae rfl ?_
  refine Aa rfl (.bool false) (fun b w hb hH => LW rfl rfl rfl (by simp [Ce]) hb) ?_
  refine Ab (As rfl (Aw (AB (Ad ?_))))
  refine Af Ae rfl ?_
  refine Aa rfl (.bool false) (fun b w hb hH => AZ rfl rfl rfl (EK (by decide)) hb) ?_
  refine Af Ae rfl ?_
  refine Ab (Ad ?_)
  refine Af Ae rfl ?_
  refine Ab (An (AQ (Ad ?_)))
  refine Af Ae rfl ?_
  refine Aa rfl (.bool true) (fun b w hb hH => AZ rfl rfl rfl (Cb (by decide)) hb) ?_
  refine Af Ae rfl ?_
  refine Aa rfl (.bool true) (fun b w hb hH => AZ rfl rfl rfl (Cb (by decide)) hb) ?_
  refine Af Ae rfl ?_
  refine Ab (AI rfl (Aw (AW (AB (An (Ad ?_))))))
  refine Af Ae rfl ?_
  refine Aa rfl (.bool false) (fun b w hb hH => AZ rfl rfl rfl (EK (by decide)) hb) ?_
  refine Ab (As rfl (Ad ?_))
  refine Af Ae rfl ?_
  refine Aa rfl (.bool false) (fun b w hb hH => AZ rfl rfl rfl (BU (by decide)) hb) ?_
  refine Af Ae rfl ?_
  refine Aa rfl (.bool false) (fun b w hb hH => AZ rfl rfl rfl (BE (by decide)) hb) ?_
  refine Af Ae rfl ?_
  refine Ab (As rfl (Aw (AB (Ad ?_))))
  refine Af Ae rfl ?_
  refine Ab (An (Ad ?_))
  refine Af Ae rfl ?_
  refine Ab (AQ (Ad ?_))
  refine Af Ae rfl ?_
  refine Aa rfl (.bool false) (fun b w hb hH => AZ rfl rfl rfl (EK (by decide)) hb) ?_
  refine Af Ae rfl ?_
  refine Ab (As rfl (Ad ?_))
  refine Af Ae rfl ?_
  refine Aa rfl (.bool true) (fun b w hb hH => AZ rfl rfl rfl (FI (by decide)) hb) ?_
  refine Af Ae rfl ?_
  refine Ab (AI rfl (BJ ?_))
  refine Af Ae rfl ?_
  refine AD (AW (AB (Ad ?_)))
  refine Af Ae rfl ?_
  refine Aa rfl (.int .u64 64) (fun b w hb hH => A5 Tryz.underlying3 Tryz.underlying136 (IntWalk.u64_in _ (by omega)) rfl rfl hb) ?_
  refine Aa rfl (.int .u64 0) (fun b w hb hH => PY rfl rfl rfl hb) ?_
  refine Aa rfl (.int .u64 18446744073709551615) (fun b w hb hH => AH rfl rfl rfl rfl (by decide) hb) ?_
  refine Af Ae rfl ?_
  refine Ab (Ad ?_)
  refine Af Ae rfl ?_
  refine Ab (Ad ?_)
  refine Af Ae rfl ?_
  refine Ab (An (Ad ?_))
  refine Af Ae rfl ?_
  refine Am rfl (RY Tryz.underlying9 Tryz.underlying30 Tryz.underlying5 rfl rfl) ?_; rintro ⟨gb, cgb⟩
  refine Aa rfl (.int .i64 (((Ce 15 n).length) : Int)) (fun b w hb hH => DL Bf rfl rfl hH hb) ?_
  refine Af Ae rfl ?_
  refine Ab (AQ ?_)
  refine CY (α := Nat × Nat) (fun ⟨j, v⟩ => [(1, .int .i64 16), (6, .int .u64 0), (7, .nilIface), (8, .bool false), (9, .string (bs (Ce 15 n))), (10, .int .u64 1152921504606846976), (11, .int .u64 18446744073709551615), (12, .bool false), (13, .int .u64 (v : Int)), (99, .slice (some ⟨gb, 0, none⟩) (Ce 15 n).length cgb), (100, .int .i64 (((Ce 15 n).length) : Int)), (101, .int .i64 (j : Int))]) (fun ⟨j, v⟩ => [M6 5 gb (Ce 15 n)]) (fun ⟨j, v⟩ => j ≤ 15 ∧ v = n / 16 ^ (15 - j)) (fun ⟨j, v⟩ => 15 - j) (0, 0) ⟨by omega, by show 0 = n / 16 ^ 15; omega⟩ ⟨rfl, rfl, rfl, rfl, rfl, rfl, rfl, rfl, rfl, rfl, rfl, rfl, trivial⟩ rfl ?_
  rintro ⟨j, v⟩ hI
  refine AN.at_ (env' := [(1, .int .i64 16), (6, .int .u64 0), (7, .nilIface), (8, .bool false), (9, .string (bs (Ce 15 n))), (10, .int .u64 1152921504606846976), (11, .int .u64 18446744073709551615), (12, .bool false), (13, .int .u64 (v : Int)), (99, .slice (some ⟨gb, 0, none⟩) (Ce 15 n).length cgb), (100, .int .i64 (((Ce 15 n).length) : Int)), (101, .int .i64 (j : Int))]) (rs' := [M6 5 gb (Ce 15 n)]) ⟨rfl, rfl, rfl, rfl, rfl, rfl, rfl, rfl, rfl, rfl, rfl, rfl, trivial⟩ rfl ?_
  have hI1 : j ≤ 15 := hI.1
  have hI2 : v = n / 16 ^ (15 - j) := hI.2
  clear hI
  rcases Nat.lt_or_ge j (Ce 15 n).length with hlt | hlt
  · skip
    have hjl : j < 15 := by rw [FF] at hlt; omega
    obtain ⟨d, hd⟩ : ∃ d, n / 16 ^ (14 - j) % 16 = d := ⟨_, rfl⟩
    have hd16 : d < 16 := by omega
    have hbj : (Ce 15 n)[j]? = some (Dw d) := by rw [QO hjl, ← hd]
    have hv1 : n / 16 ^ (15 - (j + 1)) = v * 16 + d := by
        rw [hI2, ← hd, show 15 - j = (14 - j) + 1 by omega, Nat.pow_succ, ← Nat.div_div_eq_div_mul, show 15 - (j + 1) = 14 - j by omega]
        omega
    have hvl : v < 1152921504606846976 := by rw [hI2]; exact Nat.lt_of_le_of_lt (Nat.div_le_self _ _) (by omega)
    have hvn : v * 16 + d ≤ n := by rw [← hv1]; exact Nat.div_le_self _ _
    refine Ad ?_
    refine Af Ae rfl ?_
    refine Aa rfl (.bool true) (fun b w hb hH => AZ rfl rfl rfl (Ck (by omega)) hb) ?_
    refine Ab (An (AI rfl (Aw (AB (An (AQ ?_))))))
    rcases Nat.lt_or_ge d 10 with hlo | hlo
    · skip
      have hcd : ((Dw d).toNat : Int) = ((48 + d : Nat) : Int) := by rw [Vb hlo]
      refine Ad ?_
      refine Af Ae rfl ?_
      refine Aa rfl (.pointer (some ⟨gb, j, none⟩)) (fun b w hb hH => QN Bf (by rw [FF]; exact hjl) rfl rfl rfl hb) ?_
      refine Aa rfl (.int .u8 ((48 + d : Nat) : Int)) (fun b w hb hH => Lf 0 DA rfl hbj hcd rfl rfl hH hb) ?_
      refine Af Ae rfl ?_
      refine Ab (Ad ?_)
      refine Af Ae rfl ?_
      refine Ab (An (AQ (Ad ?_)))
      refine Af Ae rfl ?_
      refine Aa rfl (.bool false) (fun b w hb hH => AZ rfl rfl rfl (EK (by omega)) hb) ?_
      refine Af Ae rfl ?_
      refine Ab (As rfl (Ad ?_))
      refine Af Ae rfl ?_
      refine Aa rfl (.bool true) (fun b w hb hH => AZ rfl rfl rfl (Cb (by omega)) hb) ?_
      refine Af Ae rfl ?_
      refine Aa rfl (.bool true) (fun b w hb hH => AZ rfl rfl rfl (Cb (by omega)) hb) ?_
      refine Af Ae rfl ?_
      refine Ab (AI rfl (BJ ?_))
      refine Af Ae rfl ?_
      refine Aa rfl (.int .u8 (d : Int)) (fun b w hb hH => AH rfl rfl rfl rfl (by rw [IntWalk.u8_in _ (by omega)]; omega) hb) ?_
      refine Af Ae rfl ?_
      refine AD (AW (AB (An (Ad ?_))))
      refine Af Ae rfl ?_
      refine Aa rfl (.int .u8 16) (fun b w hb hH => A5 Tryz.underlying3 Tryz.underlying5 (IntWalk.u8_in _ (by omega)) rfl rfl hb) ?_
      refine Aa rfl (.bool false) (fun b w hb hH => AZ rfl rfl rfl (CT (by omega)) hb) ?_
      refine Ab (As rfl (Aw (AB (An (Ad ?_)))))
      refine Af Ae rfl ?_
      refine Aa rfl (.bool false) (fun b w hb hH => AZ rfl rfl rfl (CT (by omega)) hb) ?_
      refine Ab (As rfl (Aw (AB (Ad ?_))))
      refine Af Ae rfl ?_
      refine Aa rfl (.int .u64 16) (fun b w hb hH => A5 Tryz.underlying3 Tryz.underlying31 (IntWalk.u64_in _ (by omega)) rfl rfl hb) ?_
      refine Aa rfl (.int .u64 ((v * 16 : Nat) : Int)) (fun b w hb hH => AH rfl rfl rfl rfl (by rw [IntWalk.u64_in _ (by omega)]; omega) hb) ?_
      refine Af Ae rfl ?_
      refine Ab (Ad ?_)
      refine Af Ae rfl ?_
      refine Aa rfl (.int .u64 (d : Int)) (fun b w hb hH => A5 Tryz.underlying5 Tryz.underlying31 (IntWalk.u64_in _ (by omega)) rfl rfl hb) ?_
      refine Aa rfl (.int .u64 ((v * 16 + d : Nat) : Int)) (fun b w hb hH => AH rfl rfl rfl rfl (by rw [IntWalk.u64_in _ (by omega)]; omega) hb) ?_
      refine Af Ae rfl ?_
      refine Ab (An (Ad ?_))
      refine Af Ae rfl ?_
      refine Aa rfl (.bool false) (fun b w hb hH => AZ rfl rfl rfl (BU (by omega)) hb) ?_
      refine Af Ae rfl ?_
      refine Aa rfl (.bool false) (fun b w hb hH => AZ rfl rfl rfl (BE (by omega)) hb) ?_
      refine Af Ae rfl ?_
      refine Ab (As rfl (Aw (AB (BJ ?_))))
      refine Af Ae rfl ?_
      refine AD (AW (AB (BJ ?_)))
      refine Af Ae rfl ?_
      refine Aa rfl (.int .i64 ((j + 1 : Nat) : Int)) (fun b w hb hH => AH rfl rfl rfl rfl (by rw [IntWalk.i64_in _ (by omega)]; omega) hb) ?_
      refine Af Ae rfl ?_
      refine AD ?_
      exact Cm (j + 1, v * 16 + d) 0 ⟨by omega, hv1.symm⟩ (show 15 - (j + 1) < 15 - j by omega) ⟨rfl, rfl, rfl, rfl, rfl, rfl, rfl, rfl, rfl, rfl, rfl, rfl, trivial⟩ rfl
    · skip
      have hcd : ((Dw d).toNat : Int) = ((87 + d : Nat) : Int) := by rw [Vc hlo hd16]
      refine Ad ?_
      refine Af Ae rfl ?_
      refine Aa rfl (.pointer (some ⟨gb, j, none⟩)) (fun b w hb hH => QN Bf (by rw [FF]; exact hjl) rfl rfl rfl hb) ?_
      refine Aa rfl (.int .u8 ((87 + d : Nat) : Int)) (fun b w hb hH => Lf 0 DA rfl hbj hcd rfl rfl hH hb) ?_
      refine Af Ae rfl ?_
      refine Ab (Ad ?_)
      refine Af Ae rfl ?_
      refine Ab (An (AQ (Ad ?_)))
      refine Af Ae rfl ?_
      refine Aa rfl (.bool false) (fun b w hb hH => AZ rfl rfl rfl (EK (by omega)) hb) ?_
      refine Af Ae rfl ?_
      refine Ab (As rfl (Ad ?_))
      refine Af Ae rfl ?_
      refine Aa rfl (.bool true) (fun b w hb hH => AZ rfl rfl rfl (Cb (by omega)) hb) ?_
      refine Af Ae rfl ?_
      refine Aa rfl (.bool false) (fun b w hb hH => AZ rfl rfl rfl (Fe (by omega)) hb) ?_
      refine Af Ae rfl ?_
      refine Ab (As rfl (Ad ?_))
      refine Af Ae rfl ?_
      refine Am (post := fun _ => [M6 5 gb (Ce 15 n)]) rfl (Bc (Aj Tryz.func171 (by kernel_rfl) rfl) (fun w hH => Lg w ⟨hlo, hd16⟩) rfl rfl rfl) ?_; rintro ⟨⟩
      refine Aa rfl (.bool true) (fun b w hb hH => AZ rfl rfl rfl (Cb (by omega)) hb) ?_
      refine Af Ae rfl ?_
      refine Am (post := fun _ => [M6 5 gb (Ce 15 n)]) rfl (Bc (Aj Tryz.func171 (by kernel_rfl) rfl) (fun w hH => Lg w ⟨hlo, hd16⟩) rfl rfl rfl) ?_; rintro ⟨⟩
      refine Aa rfl (.bool true) (fun b w hb hH => AZ rfl rfl rfl (Cb (by omega)) hb) ?_
      refine Af Ae rfl ?_
      refine Ab (AI rfl (BJ ?_))
      refine Af Ae rfl ?_
      refine Am (post := fun _ => [M6 5 gb (Ce 15 n)]) rfl (Bc (Aj Tryz.func171 (by kernel_rfl) rfl) (fun w hH => Lg w ⟨hlo, hd16⟩) rfl rfl rfl) ?_; rintro ⟨⟩
      refine Aa rfl (.int .u8 ((d - 10 : Nat) : Int)) (fun b w hb hH => AH rfl rfl rfl rfl (by rw [IntWalk.u8_in _ (by omega)]; omega) hb) ?_
      refine Aa rfl (.int .u8 (d : Int)) (fun b w hb hH => AH rfl rfl rfl rfl (by rw [IntWalk.u8_in _ (by omega)]; omega) hb) ?_
      refine Af Ae rfl ?_
      refine AD (AW (AB (An (Ad ?_))))
      refine Af Ae rfl ?_
      refine Aa rfl (.int .u8 16) (fun b w hb hH => A5 Tryz.underlying3 Tryz.underlying5 (IntWalk.u8_in _ (by omega)) rfl rfl hb) ?_
      refine Aa rfl (.bool false) (fun b w hb hH => AZ rfl rfl rfl (CT (by omega)) hb) ?_
      refine Ab (As rfl (Aw (AB (An (Ad ?_)))))
      refine Af Ae rfl ?_
      refine Aa rfl (.bool false) (fun b w hb hH => AZ rfl rfl rfl (CT (by omega)) hb) ?_
      refine Ab (As rfl (Aw (AB (Ad ?_))))
      refine Af Ae rfl ?_
      refine Aa rfl (.int .u64 16) (fun b w hb hH => A5 Tryz.underlying3 Tryz.underlying31 (IntWalk.u64_in _ (by omega)) rfl rfl hb) ?_
      refine Aa rfl (.int .u64 ((v * 16 : Nat) : Int)) (fun b w hb hH => AH rfl rfl rfl rfl (by rw [IntWalk.u64_in _ (by omega)]; omega) hb) ?_
      refine Af Ae rfl ?_
      refine Ab (Ad ?_)
      refine Af Ae rfl ?_
      refine Aa rfl (.int .u64 (d : Int)) (fun b w hb hH => A5 Tryz.underlying5 Tryz.underlying31 (IntWalk.u64_in _ (by omega)) rfl rfl hb) ?_
      refine Aa rfl (.int .u64 ((v * 16 + d : Nat) : Int)) (fun b w hb hH => AH rfl rfl rfl rfl (by rw [IntWalk.u64_in _ (by omega)]; omega) hb) ?_
      refine Af Ae rfl ?_
      refine Ab (An (Ad ?_))
      refine Af Ae rfl ?_
      refine Aa rfl (.bool false) (fun b w hb hH => AZ rfl rfl rfl (BU (by omega)) hb) ?_
      refine Af Ae rfl ?_
      refine Aa rfl (.bool false) (fun b w hb hH => AZ rfl rfl rfl (BE (by omega)) hb) ?_
      refine Af Ae rfl ?_
      refine Ab (As rfl (Aw (AB (BJ ?_))))
      refine Af Ae rfl ?_
      refine AD (AW (AB (BJ ?_)))
      refine Af Ae rfl ?_
      refine Aa rfl (.int .i64 ((j + 1 : Nat) : Int)) (fun b w hb hH => AH rfl rfl rfl rfl (by rw [IntWalk.i64_in _ (by omega)]; omega) hb) ?_
      refine Af Ae rfl ?_
      refine AD ?_
      exact Cm (j + 1, v * 16 + d) 0 ⟨by omega, hv1.symm⟩ (show 15 - (j + 1) < 15 - j by omega) ⟨rfl, rfl, rfl, rfl, rfl, rfl, rfl, rfl, rfl, rfl, rfl, rfl, trivial⟩ rfl
  · skip
    have hj15 : j = 15 := by rw [FF] at hlt; omega
    subst hj15
    obtain rfl : v = n := by rw [hI2]; simp
    refine Ad ?_
    refine Af Ae rfl ?_
    refine Aa rfl (.bool false) (fun b w hb hH => AZ rfl rfl rfl (BU (by omega)) hb) ?_
    refine Ab (An (As rfl (C8 (Gx (Gx (Br (AB (An (Ad ?_)))))))))
    refine Af Ae rfl ?_
    refine Ab (As rfl (Aw (AB (Ad ?_))))
    refine Af Ae rfl ?_
    refine Ab (Az ?_)
    exact Ch (.tmp rfl) (.tmp rfl) (fun w h => AC () rfl [] rfl h Ed) rfl
theorem R1 {n : Nat} (hn : n ≤ 72057594037927935) : AP Tryz.prog 91 #[.string (bs (Ce 15 n)), .int .i64 16, .int .i64 64] [] (fun (_ : Unit) => .tuple #[.int .u64 (n : Int), .nilIface]) (fun (_ : Unit) => []) := by
 refine Bj (args := [.string (bs (Ce 15 n)), .int .i64 16, .int .i64 64]) 26 Tryz.func91 rfl rfl rfl ?_; intro w rs
 refine Ad ?_
 refine Af Ae rfl ?_
 refine Ab (Ad ?_)
 refine Af Ae rfl ?_
 refine Am rfl (Au (os' := fun _ => []) [] 0 (Aj Tryz.func138 (by kernel_rfl) rfl) (PZ hn) rfl rfl rfl (fun _ => rfl) rfl rfl rfl) ?_; rintro ⟨⟩
 refine Af Ae rfl ?_
 refine Ab (An (Ad ?_))
 refine Af Ae rfl ?_
 refine Aa rfl (.bool false) (fun b w hb hH => J5 rfl rfl hb) ?_
 refine Ab (As rfl (Aw (AB (Ad ?_))))
 refine Af Ae rfl ?_
 refine Ab (Az ?_)
 exact Ch (.tmp rfl) (.tmp rfl) (fun w h => AC () rfl [] rfl h Ed) rfl
theorem On (tb : Tb) {n : Nat} (hn : n ≤ 72057594037927935) : AP Tryz.prog 40 #[.string (bs (nameL n))] [Ao tb] (fun (_ : Unit) => .tuple #[.int .u64 (n : Int), .bool true]) (fun (_ : Unit) => [Ao tb]) := by
 refine Bj (args := [.string (bs (nameL n))]) 21 Tryz.func40 rfl rfl rfl ?_; intro w rs
 refine Ad ?_
 refine Af Ae rfl ?_
 refine Ab (Ad ?_)
 refine Af Ae rfl ?_
 refine Am (post := fun _ => [Ao tb]) rfl (Bc (Aj Tryz.func92 (by kernel_rfl) rfl) (fun w hH => R0 w n) rfl rfl rfl) ?_; rintro ⟨⟩
 refine Am rfl (Au (os' := fun _ => [Ao tb]) [] 0 (Aj Tryz.func91 (by kernel_rfl) rfl) (R1 hn) rfl rfl rfl (fun _ => rfl) rfl rfl rfl) ?_; rintro ⟨⟩
 refine Af Ae rfl ?_
 refine Ab (An (Ad ?_))
 refine Af Ae rfl ?_
 refine Aa rfl (.bool false) (fun b w hb hH => J5 rfl rfl hb) ?_
 refine Af Ae rfl ?_
 refine Am rfl (Au (os' := fun _ => [Ao tb]) [0] 0 (Aj Tryz.func19 (by kernel_rfl) rfl) (DK tb hn) rfl rfl rfl (fun _ => rfl) rfl rfl rfl) ?_; rintro ⟨⟩
 refine Af Ae rfl ?_
 refine Aa rfl (.bool false) (fun b w hb hH => Mn (by simp) rfl rfl rfl hb) ?_
 refine Af Ae rfl ?_
 refine Ab (As rfl (Aw (AB (Ad ?_))))
 refine Af Ae rfl ?_
 refine Ab (Az ?_)
 exact Ch (.tmp rfl) (.tmp rfl) (fun w h => AC () rfl [0] rfl h Ed) rfl
end Go.Proofs.YtnknboibmifacaaGreatDoor.Sep
