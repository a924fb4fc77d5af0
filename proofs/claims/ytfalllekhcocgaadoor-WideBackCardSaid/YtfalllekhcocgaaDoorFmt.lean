/-
  strconv.FormatUint at this program, by the library's contracts of what it calls.
-/
import Derived.Test.YtfalllekhcocgaaDoorScaled
import Derived.Test.YtfalllekhcocgaaDoorLaw
import Derived.Shelf.Strconv.Itoa1
import Derived.Shelf.Strconv.Itoa2
import Derived.Lib.ItoaMem
namespace Go.Proofs.YtfalllekhcocgaaDoor
open Go.RowKit Go.Shelf Go.Sort

def renFmt : Ren := ⟨fun x => if x = 129 then 97 else if x = 284 then 99 else if x = 285 then 100 else if x = 317 then 111 else if x = 318 then 112 else x,
  fun x => if x = 0 then 0 else if x = 3 then 3 else if x = 4 then 4 else if x = 5 then 5 else if x = 9 then 9 else if x = 37 then 46 else if x = 46 then 59 else if x = 51 then 128 else if x = 53 then 22 else if x = 212 then 139 else x,
  fun x => if x = 17 then 2 else x⟩
theorem laysDigits : LaysM.n284 Tryd.prog renFmt := {
  mixed := by kernel_rfl
  f129 := by kernel_rfl
  f284 := by kernel_rfl
  f317 := by kernel_rfl
  f318 := by kernel_rfl
  t0 := Tryd.underlying0
  a0 := Tryd.isAgg0
  z0 := Tryd.sizeOf0
  v0 := Tryd.zeroValue0
  t3 := Tryd.underlying3
  a3 := Tryd.isAgg3
  z3 := Tryd.sizeOf3
  v3 := Tryd.zeroValue3
  t4 := Tryd.underlying4
  a4 := Tryd.isAgg4
  z4 := Tryd.sizeOf4
  v4 := Tryd.zeroValue4
  t5 := Tryd.underlying5
  a5 := Tryd.isAgg5
  z5 := Tryd.sizeOf5
  v5 := Tryd.zeroValue5
  t9 := Tryd.underlying9
  a9 := Tryd.isAgg9
  z9 := Tryd.sizeOf9
  v9 := Tryd.zeroValue9
  t46 := Tryd.underlying59
  a46 := Tryd.isAgg59
  z46 := Tryd.sizeOf59
  v46 := Tryd.zeroValue59
  t53 := Tryd.underlying22
  a53 := Tryd.isAgg22
  z53 := Tryd.sizeOf22
  v53 := Tryd.zeroValue22
  t212 := Tryd.underlying139
  a212 := Tryd.isAgg139
  z212 := Tryd.sizeOf139
  v212 := Tryd.zeroValue139
  g17 := by kernel_rfl
  i0 := by kernel_rfl
  i3 := by kernel_rfl
  i4 := by kernel_rfl
  i5 := by kernel_rfl
  i9 := by kernel_rfl
  i46 := by kernel_rfl
  i53 := by kernel_rfl
  i212 := by kernel_rfl
  m17 := by kernel_rfl }
theorem laysFormat : Lays.n285 Tryd.prog renFmt := {
  mixed := by kernel_rfl
  f285 := by kernel_rfl
  t0 := Tryd.underlying0
  a0 := Tryd.isAgg0
  z0 := Tryd.sizeOf0
  v0 := Tryd.zeroValue0
  t3 := Tryd.underlying3
  a3 := Tryd.isAgg3
  z3 := Tryd.sizeOf3
  v3 := Tryd.zeroValue3
  t4 := Tryd.underlying4
  a4 := Tryd.isAgg4
  z4 := Tryd.sizeOf4
  v4 := Tryd.zeroValue4
  t5 := Tryd.underlying5
  a5 := Tryd.isAgg5
  z5 := Tryd.sizeOf5
  v5 := Tryd.zeroValue5
  t9 := Tryd.underlying9
  a9 := Tryd.isAgg9
  z9 := Tryd.sizeOf9
  v9 := Tryd.zeroValue9
  t37 := Tryd.underlying46
  a37 := Tryd.isAgg46
  z37 := Tryd.sizeOf46
  v37 := Tryd.zeroValue46
  t51 := Tryd.underlying128
  a51 := Tryd.isAgg128
  z51 := Tryd.sizeOf128
  v51 := Tryd.zeroValue128
  t53 := Tryd.underlying22
  a53 := Tryd.isAgg22
  z53 := Tryd.sizeOf22
  v53 := Tryd.zeroValue22 }

abbrev byteV : UInt8 → Value := fun b => .int .u8 (b.toNat : Int)
theorem holds_zeros (w : World) (T : TypeId) (nd : Nat) (hs : nd ≤ 24) : Holds byteV (w.alloc (.cells Lib.zeros24 T)) w.heap.size 0 (Array.replicate nd (0 : UInt8)) := fun j hj => by
  have hj' : j < nd := by simpa using hj
  refine ⟨?_, World.frozen?_alloc_new _ _ _ _⟩
  rw [World.cell?_alloc_new, Lib.zeros24_at _ (by omega), getElem!_pos _ j hj]
  simp [byteV]
theorem below_putRow (w : World) (o : Obj) (dk : Array UInt8) (k : Nat) : Below w.heap.size w ((putRow byteV (w.alloc o) w.heap.size 0 dk).drewN k) := by
  refine ⟨rfl, rfl, rfl, ?_, fun j hj => ?_⟩
  · show w.heap.size ≤ ((w.alloc o).heap.modify w.heap.size _).size
    rw [Array.size_modify]
    simp
  · show ((w.alloc o).heap.modify w.heap.size _)[j]? = w.heap[j]?
    rw [Array.getElem?_modify, if_neg (by omega)]
    exact Below.heap_alloc w o j hj

set_option maxHeartbeats 1000000 in
theorem fmtUint_any (w : World) (u : Nat) (h1 : 100 ≤ u) (h64 : u < 18446744073709551616) (htab : Lib.TabIs Tryd.prog w "internal/strconv.uint64pow10" .u64 Lib.pow10Tab) :
    Calls Tryd.prog 79 #[.int .u64 (u : Int), .int .i64 10] w fun e w' => e = .returned (.string ⟨(Lib.decDigits u).toArray⟩) ∧ Below w.heap.size w w' := by
  have hnd : Lib.nDigits u ≤ 20 := by have := Lib.numDigits_eq u (by omega) h64; split at this <;> omega
  have hH0 := holds_zeros w 124 (Lib.nDigits u) (by omega)
  have hN := fun W (hT : Lib.TabIs Tryd.prog W "internal/strconv.uint64pow10" .u64 Lib.pow10Tab) => Any.internal_strconv_numDigits laysDigits u (by omega) h64 W hT
  have hF := Any.internal_strconv_formatBase10 laysFormat w.heap.size 0 24 u (Array.replicate (Lib.nDigits u) 0) (w.alloc (.cells Lib.zeros24 124)) hH0 (by rw [Array.size_replicate]; exact Lib.lt_pow_nDigits u) h64 (by rw [Array.size_replicate]; omega)
  rw [Array.size_replicate] at hF
  have HN := hid hN
  have HF := hid hF
  have HT := hid htab
  have HH := hid hH0
  clear hN hF htab hH0
  go_enter Tryd.func79, Tryd.ntmps79
  have hsl : ∀ W, (Instr.sliceAt 124 (.pointer (some ⟨w.heap.size, 0, none⟩)) none (some (.int .i64 (Lib.nDigits u : Int))) none).run Tryd.prog W = .ok (.slice (some ⟨w.heap.size, 0, none⟩) (Lib.nDigits u) 24) W := fun W => by
    rw [run_sliceAt_array_h W 124 ⟨w.heap.size, 0, none⟩ (by simp [Program.arrayLen, Program.elem, Tryd.underlying124]) .i64 (Lib.nDigits u : Int) (by omega) (by rw [show Tryd.prog.arrayLen 124 = 24 by simp [Program.arrayLen, Tryd.underlying124]]; omega)]
    go_simp
  obtain ⟨D, hD⟩ : ∃ D, D = Lib.nDigits u := ⟨_, rfl⟩
  have HD := hid hD
  rw [← hD] at hnd hsl HN HF HH
  have HD20 := hid hnd
  clear hD hnd
  go_wp2_with fail
  refine (HN.out _ (Lib.tabIs_alloc HT.out _)).mono ?_; rintro e w' ⟨rfl, rfl⟩
  go_wp2_with fail
  refine Calls.mono HF.out ?_; rintro e w' ⟨rfl, n, v', dk, rfl, hf⟩
  have hcv : (convert 46 9 (.slice (some ⟨w.heap.size, 0, none⟩) D 24)).run Tryd.prog ((putRow byteV (w.alloc (.cells Lib.zeros24 124)) w.heap.size 0 dk).drewN n) = .ok (.string ⟨(Lib.decDigits u).toArray⟩) ((putRow byteV (w.alloc (.cells Lib.zeros24 124)) w.heap.size 0 dk).drewN n) := by
    rw [HD.out] at hf ⊢
    have h := run_convert_bytes_back (P := Tryd.prog) ((putRow byteV (w.alloc (.cells Lib.zeros24 124)) w.heap.size 0 dk).drewN n) 46 9 5 ⟨w.heap.size, 0, none⟩ 24 (Lib.decDigits u) Tryd.underlying46 Tryd.underlying5 Tryd.underlying9 (fun j hj => by
      have hj' : j < Lib.nDigits u := by rw [Lib.decDigits_length] at hj; exact hj
      rw [Lib.row_is_numeral hf j hj, Lib.add_plain, World.cell?_drewN]
      have hh := HH.out
      rw [HD.out] at hh
      exact cell?_putRow byteV _ w.heap.size 0 _ dk hh (by rw [hf.size, Array.size_replicate]) j (by rw [hf.size]; exact hj'))
    rw [Lib.decDigits_length] at h
    exact h
  have hbel := below_putRow w (.cells Lib.zeros24 124) dk n
  clear hf
  have HBEL := hid hbel
  clear hbel
  go_wp2_with fail
  go_ret
  exact ⟨rfl, HBEL.out⟩

theorem formatUint_any (w : World) (u : Nat) (h1 : 100 ≤ u) (h64 : u < 18446744073709551616) (htab : Lib.TabIs Tryd.prog w "internal/strconv.uint64pow10" .u64 Lib.pow10Tab) :
    Calls Tryd.prog 52 #[.int .u64 (u : Int), .int .i64 10] w fun e w' => e = .returned (.string ⟨(Lib.decDigits u).toArray⟩) ∧ Below w.heap.size w w' := by
  have HF := hid (fmtUint_any w u h1 h64 htab)
  clear htab h1 h64
  go_enter Tryd.func52, Tryd.ntmps52
  go_wp2_with (go_at_call 79; refine Calls.mono HF.out ?_; rintro e w' ⟨rfl, hb⟩)
  go_ret
  exact ⟨rfl, hb⟩

/-- what the table holds stays, where nothing that was there has changed -/
theorem tab_below {w w' : World} {B : Nat} (h : Lib.TabIs Tryd.prog w "internal/strconv.uint64pow10" .u64 Lib.pow10Tab) (hb : Below B w w') (hB : 2 < B) : Lib.TabIs Tryd.prog w' "internal/strconv.uint64pow10" .u64 Lib.pow10Tab := by
  have hg : Tryd.prog.globalNamed "internal/strconv.uint64pow10" = some 2 := by kernel_rfl
  unfold Lib.TabIs World.var? at h ⊢
  rw [hg] at h ⊢
  simp only [Option.bind_some] at h ⊢
  rw [hb.block _ hB]
  exact h

end Go.Proofs.YtfalllekhcocgaaDoor
