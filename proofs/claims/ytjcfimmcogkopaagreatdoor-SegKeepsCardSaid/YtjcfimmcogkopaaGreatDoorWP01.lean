/-
  SgW3 · SgKn
-/
import Derived.Test.YtjcfimmcogkopaaGreatDoorWB01
import Derived.Test.YtjcfimmcogkopaaGreatDoorWB04
import Derived.Test.YtjcfimmcogkopaaGreatDoorWO03
set_option linter.unusedSimpArgs false
set_option linter.unusedVariables false
set_option maxRecDepth 100000
namespace Go.Proofs.YtjcfimmcogkopaaGreatDoor.Sep
open Go.RowKit
open Go.Proofs.YtjcfimmcogkopaaGreatDoor.Mem (Bb Ci Chg)
theorem Pu : ∀ (ys : List Value) (m off : Nat) (cs : Array Value), (ys.zipIdx m).foldl (fun (cs : Array Value) (p : Value × Nat) => cs.setIfInBounds (off + p.2) p.1) cs = (ys.zipIdx (off + m)).foldl (fun (cs : Array Value) (p : Value × Nat) => cs.setIfInBounds p.2 p.1) cs
  | [], _, _, _ => rfl
  | y :: ys, m, off, cs => by
    rw [List.zipIdx_cons, List.zipIdx_cons, List.foldl_cons, List.foldl_cons]
    exact Pu ys (m + 1) off _
theorem Kz {k i : Nat} {v : Value} {cells : Array Value} {rest : List (Nat × Value)} (hv : v.cells.size = k) (hc : i * k + k ≤ cells.size) : ∃ C : Array Value, C.toList = cells.toList.take (i * k) ++ v.cells.toList ++ cells.toList.drop (i * k + k) ∧ Instr.fill (fun i => some (i * k, k)) cells ((i, v) :: rest) = Instr.fill (fun i => some (i * k, k)) C rest := by
 have h1 : ¬ ((v.cells.size ≠ k || i * k + v.cells.size > cells.size) = true) := by simp [hv]; omega
 refine ⟨_, ?_, by
  conv => lhs; unfold Instr.fill
  simp only
  rw [if_neg h1]⟩
 rw [← Array.foldl_toList, Array.toList_zipIdx]
 have h2 := Pu v.cells.toList 0 (i * k) cells
 have h3 := LU v.cells.toList (i * k) cells (by rw [Array.length_toList, hv]; exact hc)
 rw [Nat.add_zero] at h2
 rw [← h2, Array.length_toList, hv] at h3
 exact h3
theorem X3 {k : Nat} {v0 v1 v2 : Value} {cells : Array Value} (h0 : v0.cells.size = k) (h1 : v1.cells.size = k) (h2 : v2.cells.size = k) (hc : cells.size = 3 * k) : ∃ C : Array Value, C.toList = v0.cells.toList ++ v1.cells.toList ++ v2.cells.toList ∧ Instr.fill (fun i => some (i * k, k)) cells [(0, v0), (1, v1), (2, v2)] = some C := by
 have l0 : v0.cells.toList.length = k := by rw [Array.length_toList, h0]
 have l1 : v1.cells.toList.length = k := by rw [Array.length_toList, h1]
 have l2 : v2.cells.toList.length = k := by rw [Array.length_toList, h2]
 have lc : cells.toList.length = 3 * k := by rw [Array.length_toList, hc]
 obtain ⟨C1, e1, f1⟩ := Kz (rest := [(1, v1), (2, v2)]) (i := 0) (cells := cells) h0 (by omega)
 have s1 : C1.toList.length = 3 * k := by rw [e1]; simp only [List.length_append, List.length_take, List.length_drop]; omega
 obtain ⟨C2, e2, f2⟩ := Kz (rest := [(2, v2)]) (i := 1) (cells := C1) h1 (by rw [← Array.length_toList]; omega)
 have s2 : C2.toList.length = 3 * k := by rw [e2]; simp only [List.length_append, List.length_take, List.length_drop]; omega
 obtain ⟨C3, e3, f3⟩ := Kz (rest := []) (i := 2) (cells := C2) h2 (by rw [← Array.length_toList]; omega)
 refine ⟨C3, ?_, by rw [f1, f2, f3]; rfl⟩
 rw [Nat.zero_mul, Nat.zero_add, List.take_zero, List.nil_append] at e1
 have t1 : C1.toList.take (1 * k) = v0.cells.toList := by rw [e1, Nat.one_mul, List.take_left' l0]
 rw [t1] at e2
 have t2 : C2.toList.take (2 * k) = v0.cells.toList ++ v1.cells.toList := by rw [e2]; exact List.take_left' (by rw [List.length_append]; omega)
 rw [t2, List.drop_of_length_le (by omega), List.append_nil] at e3
 exact e3
variable {P : Program} {Q : Exit → Act → World → Prop} {n : Nat} {B : Nat → Prop} {w0 : World} {os : List Ass} {env : List (Nat × Value)} {o : Oper}
variable {t e : TypeId} {α : Type} {enc : α → List Value}
theorem Pv (hT : SliceT P t e 5) {v0 v1 v2 : Value} (h0 : v0.cells.size = 5) (h1 : v1.cells.size = 5) (h2 : v2.cells.size = 5) (w : World) : ∃ C : Array Value, C.toList = v0.cells.toList ++ v1.cells.toList ++ v2.cells.toList ∧ (Instr.buildSlice t 3 #[(0, v0), (1, v1), (2, v2)]).run P w = .ok (.slice (some ⟨w.heap.size, 0, none⟩) 3 3) (w.alloc (.cells C e)) := by
 obtain ⟨inf, z, hinf, hz, hsz, _, hzs, _⟩ := hT.inf
 obtain ⟨C, e1, hf⟩ := X3 (cells := (Array.range (3 * 5)).map (fun j => z.cells[j % z.cells.size]!)) h0 h1 h2 (by simp)
 refine ⟨C, e1, ?_⟩
 simp only [Instr.buildSlice, run_underlying hT.ht, hT.sizeOf, Sem.run_bind, Sem.run_pure, Result.andThen_ok, zeroValue, typeInfo, hinf, hz]
 simp [newRow, zeroValue, typeInfo, hinf, hz]
 simp at hf
 rw [hf]
 simp
theorem S7 (hT : SliceT P t e 5) (he : EncOf 5 enc) {x0 x1 x2 : Operand} {c0 c1 c2 : Value} (a0 a1 a2 : α) (g0 : c0.cells.toList = enc a0) (g1 : c1.cells.toList = enc a1) (g2 : c2.cells.toList = enc a2) (ho : o.op = .buildSlice t 3 #[(0, x0), (1, x1), (2, x2)]) (hx0 : evs env x0 = some c0) (hx1 : evs env x1 = some c1) (hx2 : evs env x2 = some c2) : Bt P Q n env B w0 os o (fun v : Value => v) (fun v => Aj e 5 enc v [a0, a1, a2] :: os) := fun b w hH hF K hK => by
 have h0 : c0.cells.size = 5 := by rw [← he.len a0, ← g0, Array.length_toList]
 have h1 : c1.cells.size = 5 := by rw [← he.len a1, ← g1, Array.length_toList]
 have h2 : c2.cells.size = 5 := by rw [← he.len a2, ← g2, Array.length_toList]
 obtain ⟨C, hC, hr⟩ := Pv hT h0 h1 h2 w
 have hrun : (execOp b.eval o).run P w = .ok (.value (.slice (some ⟨w.heap.size, 0, none⟩) 3 3)) (w.alloc (.cells C e)) := by
  unfold execOp
  simp [ho, hF.evs hx0, hF.evs hx1, hF.evs hx2, Sem.run_bind, hr]
 refine FN (w0 := w) b hrun (hK _ _ ?_)
 have hn := hH.new e C
 obtain ⟨rs, ⟨r1, r2, e1, h1', h2'⟩, h3⟩ := hn
 unfold cell at h1'
 have hl : C.toList.length = 15 := by rw [hC]; simp only [List.length_append, Array.length_toList, h0, h1, h2]
 have hfl : C.toList = flat enc [a0, a1, a2] := by rw [hC, g0, g1, g2]; simp [flat]
 exact ⟨rs, ⟨r1, r2, e1, .inr ⟨w.heap.size, 3, C, rfl, Nat.le_refl _, by unfold maxLen; omega, by rw [← Array.length_toList, hl], by
  rw [show [a0, a1, a2].length * 5 = 15 from rfl, List.take_of_length_le (by omega)]; exact hfl, h1'⟩, h2'⟩, h3⟩
theorem S8 {te : TypeId} {v : Value} {l : List EntV} (hl : ∀ z, z ∈ l → z.v = .slice none 0 0 ∧ z.e.d = []) : ∀ rs, Am [Aj te 5 encV v l] rs → Cm te v l rs := fun rs h => by
  have key : ∀ l : List EntV, (∀ z, z ∈ l → z.v = .slice none 0 0 ∧ z.e.d = []) → AY (fun x : EntV => Aj 5 1 encB x.v x.e.d) l [] := by
    intro l
    induction l with
    | nil => intro _; exact DE
    | cons z r ih =>
      intro hl
      obtain ⟨h1, h2⟩ := hl z (List.mem_cons_self ..)
      refine ⟨[], [], rfl, ?_, ih fun x hx => hl x (List.mem_cons_of_mem _ hx)⟩
      show Aj _ 1 encB z.v z.e.d []
      rw [h1, h2]
      exact PH ..
  exact ⟨rs, [], (List.append_nil _).symm, Am.one' h, [], [], rfl, key l hl, rfl⟩
end Go.Proofs.YtjcfimmcogkopaaGreatDoor.Sep
namespace Go.Proofs.YtjcfimmcogkopaaGreatDoor.Sep
open Go.RowKit
open Go.Proofs.YtjcfimmcogkopaaGreatDoor.Mem (Bb Ci Chg Aw)
def Vi (i t : Int) : EntD := ⟨0, t, i, [], 0⟩
def Wl (i t : Int) : EntV := ⟨Vi i t, none, 0⟩
def QT : List EntV := [Wl 5 1, Wl 6 1, Wl 7 2]
theorem Yc : LogC (AU [] ++ QT.map (·.e)) := by
  have h1 : LogC [Vi 5 1] := LogC.nil.push (by decide) (N2 _)
  have h2 : LogC [Vi 5 1, Vi 6 1] := h1.push (e := Vi 6 1) (by decide) ⟨.inr ⟨by decide, by decide, by decide⟩, by decide, by decide⟩
  exact h2.push (e := Vi 7 2) (by decide) ⟨.inr ⟨by decide, by decide, by decide⟩, by decide, by decide⟩
theorem Xx {L' : List EntD} (h : WJ 7 (AU (B3 64 [] QT)) L') : L' = [Vi 5 1, Vi 6 1] := by
 rw [FH] at h
 obtain ⟨c, h1, h2⟩ := h
 have a1 := (h2 1 (Vi 6 1) rfl).2 (by decide)
 have a2 : ¬ 2 < c := fun hc => absurd ((h2 2 (Vi 7 2) rfl).1 hc) (by decide)
 obtain rfl : c = 2 := by omega
 rw [h1]; rfl
theorem Xy {d : DiskD} {w : Nat} (h : LogD d (B3 64 [] QT) w) : (B3 64 [] QT).length ≤ 3 := by
 have h1 := h.g.few
 rw [FH] at h1
 exact h1
theorem Wm : ∀ z, z ∈ QT → z.v = .slice none 0 0 ∧ z.e.d = [] := by
 intro z hz
 simp only [QT, List.mem_cons, List.mem_nil_iff, or_false] at hz
 rcases hz with rfl | rfl | rfl <;> exact ⟨rfl, rfl⟩
theorem QU (w : World) (i t : Int) : Calls Tryz.prog 30 #[.int .u64 i, .int .u64 t] w fun e w' => e = .returned (.agg #[.int .i64 0, .int .u64 t, .int .u64 i, .slice none 0 0, .int .i64 0]) ∧ Below w.heap.size w w' := by
 refine Gi (args := [.int .u64 i, .int .u64 t]) 8 Tryz.func30 rfl rfl rfl (Ad (Af Ae rfl (Al (post := fun g => [cell g 53 #[.int .i64 0, .int .u64 0, .int .u64 0, .slice none 0 0, .int .i64 0]]) rfl (Cl BQ rfl) ?_))); rintro g
 refine Ab (Ad (Af Ae rfl (Aa rfl (.agg #[.int .i64 0, .int .u64 t, .int .u64 i, .slice none 0 0, .int .i64 0]) (fun b w hb hH => BA rfl rfl (by kernel_rfl) hb) (AR (post := fun _ => [cell g 53 #[.int .i64 0, .int .u64 t, .int .u64 i, .slice none 0 0, .int .i64 0]]) rfl rfl (AZ 0 (v := .agg #[.int .i64 0, .int .u64 t, .int .u64 i, .slice none 0 0, .int .i64 0]) #[.int .i64 0, .int .u64 t, .int .u64 i, .slice none 0 0, .int .i64 0] B0.2 rfl rfl rfl rfl rfl rfl rfl rfl rfl) ?_)))); rintro ⟨⟩
 refine Ab (AB ?_)
 exact AA (.cell 0 (v := .agg #[.int .i64 0, .int .u64 t, .int .u64 i, .slice none 0 0, .int .i64 0]) (Ft (cs := [.int .i64 0, .int .u64 t, .int .u64 i, .slice none 0 0, .int .i64 0]) B0 rfl) rfl rfl) (fun w h => ⟨rfl, Aw h.up⟩) rfl
theorem QV (tb : Tb) : AV Tryz.prog 8 #[] [Ao tb] (fun (_ : Unit) => .bool true) (fun (_ : Unit) => [Ao tb]) := by
  refine Bo (args := []) 70 Tryz.func8 rfl rfl rfl ?_; intro w rs
  have hD0 : LogD (Hv 1048576) [] 0 := Pt rfl
  obtain ⟨d2, hD2, hA2⟩ := hD0.append (lim := 64) (l := QT) tb (by decide) Yc (by decide) (by decide)
  have hkf := Xy hD2
  have hk3 : QT.length = 3 := rfl
  obtain ⟨d3, M3, hD3, hc3, hA3⟩ := hD2.cut (lim := 64) (n := 7) tb (by decide) (by omega)
  have h3 := Xx hc3
  refine Ad (Af Ae rfl (Ab (Ad (Af Ae rfl (Al rfl (As (os' := fun dk => [Ag dk (Hv 1048576), Ao tb]) [] 0 (Ai Tryz.func20 (by kernel_rfl) rfl) (OW 1048576 (by decide)) rfl rfl rfl (fun _ => rfl) rfl rfl rfl) ?_))))); rintro dk
  refine Af Ae rfl (Ab (Ar (Ad (Af Ae rfl (Aa rfl (.bool false) (fun b w hb hH => A5 rfl rfl rfl (Bn (by decide)) hb) (Af Ae rfl (Aa rfl (.bool false) (fun b w hb hH => CX (by kernel_rfl) rfl rfl rfl hb) (Af Ae rfl (Al rfl (As (os' := fun _ => [Ag dk (Hv 1048576), Ao tb]) [1] 0 (Ai Tryz.func29 (by kernel_rfl) rfl) (C7 tb (n := 5) (by decide)) rfl rfl rfl (fun _ => rfl) rfl rfl rfl) ?_))))))))); rintro ⟨⟩
  refine Aa rfl (.bool false) (fun b w hb hH => Ng (by decide) rfl rfl rfl hb) (Af Ae rfl (Ab (Au rfl (Av (AC (Ad (Af Ae rfl (Al rfl (As (os' := fun p1 => [Ao tb, Ay p1 dk 64 (An []), Ag dk (Hv 1048576)]) [0, 1] 0 (Ai Tryz.func9 (by kernel_rfl) rfl) (hD0.opens (dk := dk) tb (by omega) (by decide) (by decide)) rfl rfl rfl (fun _ => rfl) rfl rfl rfl) ?_)))))))); rintro p1
  refine Af Ae rfl (Ab (Ar (Ad (Af Ae rfl (Aa rfl (.bool false) (fun b w hb hH => A5 rfl rfl rfl (Bn (by decide)) hb) (Af Ae rfl (Aa rfl (.bool false) (fun b w hb hH => CX (by kernel_rfl) rfl rfl rfl hb) (Af Ae rfl (Al (post := fun _ => [Ao tb, Ay p1 dk 64 (An []), Ag dk (Hv 1048576)]) rfl (Bk (Ai Tryz.func30 (by kernel_rfl) rfl) (fun w hH => QU w 5 1) rfl rfl rfl) ?_))))))))); rintro ⟨⟩
  refine Al (post := fun _ => [Ao tb, Ay p1 dk 64 (An []), Ag dk (Hv 1048576)]) rfl (Bk (Ai Tryz.func30 (by kernel_rfl) rfl) (fun w hH => QU w 6 1) rfl rfl rfl) ?_; rintro ⟨⟩
  refine Al (post := fun _ => [Ao tb, Ay p1 dk 64 (An []), Ag dk (Hv 1048576)]) rfl (Bk (Ai Tryz.func30 (by kernel_rfl) rfl) (fun w hH => QU w 7 2) rfl rfl rfl) ?_; rintro ⟨⟩
  refine Al (X := Value) (val := fun v : Value => v) (post := fun v3 => [Aj 53 5 encV v3 ([Wl 5 1, Wl 6 1, Wl 7 2]), Ao tb, Ay p1 dk 64 (An []), Ag dk (Hv 1048576)]) rfl (by exact S7 AP Ea (Wl 5 1) (Wl 6 1) (Wl 7 2) rfl rfl rfl rfl rfl rfl rfl) ?_; rintro v3
  refine K4 [0] rfl (S8 Wm) rfl (Al rfl (As (os' := fun _ => [Cm 53 v3 QT, Ao tb, Ay p1 dk 64 (An (B3 64 [] QT)), Ag dk d2]) [2, 3, 1, 0] 0 (Ai Tryz.func21 (by kernel_rfl) rfl) (hA2 p1 dk v3) rfl rfl rfl (fun _ => rfl) rfl rfl rfl) ?_); rintro ⟨⟩
  refine Aa rfl (.bool false) (fun b w hb hH => A5 rfl rfl rfl (Bn (by decide)) hb) (Af Ae rfl (Ab (Au rfl (Av (AC (Ad (Af Ae rfl (Al rfl (As (os' := fun _ => [Cm 53 v3 QT, Ao tb, Ay p1 dk 64 (An M3), Ag dk d3]) [2, 3, 1] 0 (Ai Tryz.func31 (by kernel_rfl) rfl) (hA3 p1 dk) rfl rfl rfl (fun _ => rfl) rfl rfl rfl) ?_)))))))); rintro ⟨⟩
  refine Ab (Ad (Af Ae rfl (Al rfl (As (os' := fun p2 => [Ao tb, Cm 53 v3 QT, Ag dk d3, Ay p1 dk 64 (An M3), Ay p2 dk 64 (An M3)]) [3, 1] 0 (Ai Tryz.func9 (by kernel_rfl) rfl) (hD3.opens (dk := dk) tb (by omega) (by decide) (by decide)) rfl rfl rfl (fun _ => rfl) rfl rfl rfl) ?_))); rintro p2
  refine Af Ae rfl (Ab (AL.keep (env' := [(0, .bool false), (5, .pointer (some ⟨p2, 0, none⟩)), (6, .int .i64 0)]) ⟨rfl, rfl, rfl, trivial⟩ (Ad (Af Ae rfl (Aa rfl (.bool true) (fun b w hb hH => A5 rfl rfl rfl (Fw (by decide)) hb) (Af Ae rfl (Aa rfl (.bool true) (fun b w hb hH => MH (by kernel_rfl) rfl rfl rfl hb) (Af Ae rfl (Al rfl (As (os' := fun _ => [Ao tb, Cm 53 v3 QT, Ag dk d3, Ay p1 dk 64 (An M3), Ay p2 dk 64 (An M3)]) [4] 0 (Ai Tryz.func32 (by kernel_rfl) rfl) (hD3.firstD h3 p2 dk 64) rfl rfl rfl (fun _ => rfl) rfl rfl rfl) ?_))))))))); rintro ⟨⟩
  refine Aa rfl (.bool true) (fun b w hb hH => A5 rfl rfl rfl (Fw (by decide)) hb) (Af Ae rfl (Al rfl (As (os' := fun _ => [Ao tb, Cm 53 v3 QT, Ag dk d3, Ay p1 dk 64 (An M3), Ay p2 dk 64 (An M3)]) [4] 0 (Ai Tryz.func33 (by kernel_rfl) rfl) ((h3 ▸ hD3.lastD p2 dk 64)) rfl rfl rfl (fun _ => rfl) rfl rfl rfl) ?_)); rintro ⟨⟩
  refine Aa rfl (.bool true) (fun b w hb hH => A5 rfl rfl rfl (Fw (by decide)) hb) (Af Ae rfl (Al rfl (As (os' := fun (x : EsV) => [Ao tb, fact (x.l.map (·.e) = AU M3), Ag dk d3, Cm 53 v3 QT, Ay p2 dk 64 (An M3), Ay p1 dk 64 (An M3), Cm 53 x.v x.l]) [4, 2, 0] 0 (Ai Tryz.func23 (by kernel_rfl) rfl) (hD3.listD tb (by omega) p2 dk 64) rfl rfl rfl (fun _ => rfl) rfl rfl rfl) ?_)); rintro x
  refine BU.fact 1 rfl (fun _ h => h.2) ?_; rintro hl
  have hl2 : x.l.length = 2 := by have := congrArg List.length (hl : x.l.map (·.e) = AU M3); rw [h3, List.length_map] at this; exact this
  refine FO 6 rfl C5 (fun _ => rfl) ?_; rintro ⟨⟩
  refine Aa rfl (.int .i64 ((2 : Nat) : Int)) (fun b w hb hH => BG 0 hl2 Tryz.underlying39 rfl rfl rfl hH hb) (Aa rfl (.bool true) (fun b w hb hH => A5 rfl rfl rfl (Fw (by omega)) hb) (Af Ae rfl (Ab (AB ?_))))
  exact AA (.tmp rfl) (fun w h => AH () rfl [2] rfl h El) rfl
end Go.Proofs.YtjcfimmcogkopaaGreatDoor.Sep
