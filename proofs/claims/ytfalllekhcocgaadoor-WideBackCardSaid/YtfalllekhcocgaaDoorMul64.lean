/-
  bits.Mul64 at this program, by the library's own contract.
-/
import Derived.Test.YtfalllekhcocgaaDoorSign
import Derived.Test.YtfalllekhcocgaaDoorRows
import Derived.Shelf.Bits.Mul64
namespace Go.Proofs.YtfalllekhcocgaaDoor
open Go.RowKit Go.Shelf

def ren64 : Ren := ⟨fun x => if x = 264 then 48 else x, fun x => if x = 46 then 59 else if x = 53 then 22 else x, fun x => x⟩
theorem lays64 : Lays.n264 Tryd.prog ren64 := {
  mixed := by kernel_rfl
  f264 := by kernel_rfl
  t46 := Tryd.underlying59
  a46 := Tryd.isAgg59
  z46 := Tryd.sizeOf59
  v46 := Tryd.zeroValue59
  t53 := Tryd.underlying22
  a53 := Tryd.isAgg22
  z53 := Tryd.sizeOf22
  v53 := Tryd.zeroValue22 }
theorem mul64 (x y : Int) (hx : 0 ≤ x ∧ x < 18446744073709551616) (hy : 0 ≤ y ∧ y < 18446744073709551616) (w : World) :
    Calls Tryd.prog 48 #[.int .u64 x, .int .u64 y] w fun e w' => e = .returned (.tuple #[.int .u64 (x * y / 18446744073709551616), .int .u64 (x * y % 18446744073709551616)]) ∧ w = w' := by
  obtain ⟨x, rfl⟩ := Int.eq_ofNat_of_zero_le hx.1
  obtain ⟨y, rfl⟩ := Int.eq_ofNat_of_zero_le hy.1
  have h := Any.bits_Mul64 lays64 x y (by omega) (by omega) w
  have e1 : ((x * y / 18446744073709551616 : Nat) : Int) = (x : Int) * y / 18446744073709551616 := by rw [Int.natCast_ediv, Int.natCast_mul]; rfl
  have e2 : ((x * y % 18446744073709551616 : Nat) : Int) = (x : Int) * y % 18446744073709551616 := by rw [Int.natCast_emod, Int.natCast_mul]; rfl
  rw [e1, e2] at h
  exact h.mono fun e w' ⟨h1, h2⟩ => ⟨h1, h2.symm⟩
end Go.Proofs.YtfalllekhcocgaaDoor
