/-
  SgW3 · SgKn
-/
import Derived.Test.YtaipejaeeohpkaaGreatDoorUB01
import Derived.Test.YtaipejaeeohpkaaGreatDoorUB04
import Derived.Test.YtaipejaeeohpkaaGreatDoorUO03
set_option linter.unusedSimpArgs false
set_option linter.unusedVariables false
set_option maxRecDepth 100000
namespace Go.Proofs.YtaipejaeeohpkaaGreatDoor.Sep
open Go.RowKit
open Go.Proofs.YtaipejaeeohpkaaGreatDoor.Mem (Dist Blk Chg)
theorem fold_off : ∀ (ys : List Value) (m off : Nat) (cs : Array Value), (ys.zipIdx m).foldl (fun (cs : Array Value) (p : Value × Nat) => cs.setIfInBounds (off + p.2) p.1) cs = (ys.zipIdx (off + m)).foldl (fun (cs : Array Value) (p : Value × Nat) => cs.setIfInBounds p.2 p.1) cs
  | [], _, _, _ => rfl
  | y :: ys, m, off, cs => by
    rw [List.zipIdx_cons, List.zipIdx_cons, List.foldl_cons, List.foldl_cons]
    exact fold_off ys (m + 1) off _
theorem fill_step {k i : Nat} {v : Value} {cells : Array Value} {rest : List (Nat × Value)} (hv : v.cells.size = k) (hc : i * k + k ≤ cells.size) : ∃ C : Array Value, C.toList = cells.toList.take (i * k) ++ v.cells.toList ++ cells.toList.drop (i * k + k) ∧ Instr.fill (fun i => some (i * k, k)) cells ((i, v) :: rest) = Instr.fill (fun i => some (i * k, k)) C rest := by
  have h1 : ¬ ((v.cells.size ≠ k || i * k + v.cells.size > cells.size) = true) := by simp [hv]; omega
  refine ⟨_, ?_, by
    conv => lhs; unfold Instr.fill
    simp only
    rw [if_neg h1]⟩
  rw [← Array.foldl_toList, Array.toList_zipIdx]
  have h2 := fold_off v.cells.toList 0 (i * k) cells
  have h3 := fold_set v.cells.toList (i * k) cells (by rw [Array.length_toList, hv]; exact hc)
  rw [Nat.add_zero] at h2
  rw [← h2, Array.length_toList, hv] at h3
  exact h3
theorem fill3 {k : Nat} {v0 v1 v2 : Value} {cells : Array Value} (h0 : v0.cells.size = k) (h1 : v1.cells.size = k) (h2 : v2.cells.size = k) (hc : cells.size = 3 * k) : ∃ C : Array Value, C.toList = v0.cells.toList ++ v1.cells.toList ++ v2.cells.toList ∧ Instr.fill (fun i => some (i * k, k)) cells [(0, v0), (1, v1), (2, v2)] = some C := by
 have l0 : v0.cells.toList.length = k := by rw [Array.length_toList, h0]
 have l1 : v1.cells.toList.length = k := by rw [Array.length_toList, h1]
 have l2 : v2.cells.toList.length = k := by rw [Array.length_toList, h2]
 have lc : cells.toList.length = 3 * k := by rw [Array.length_toList, hc]
 obtain ⟨C1, e1, f1⟩ := fill_step (rest := [(1, v1), (2, v2)]) (i := 0) (cells := cells) h0 (by omega)
 have s1 : C1.toList.length = 3 * k := by rw [e1]; simp only [List.length_append, List.length_take, List.length_drop]; omega
 obtain ⟨C2, e2, f2⟩ := fill_step (rest := [(2, v2)]) (i := 1) (cells := C1) h1 (by rw [← Array.length_toList]; omega)
 have s2 : C2.toList.length = 3 * k := by rw [e2]; simp only [List.length_append, List.length_take, List.length_drop]; omega
 obtain ⟨C3, e3, f3⟩ := fill_step (rest := []) (i := 2) (cells := C2) h2 (by rw [← Array.length_toList]; omega)
 refine ⟨C3, ?_, by rw [f1, f2, f3]; rfl⟩
 rw [Nat.zero_mul, Nat.zero_add, List.take_zero, List.nil_append] at e1
 have t1 : C1.toList.take (1 * k) = v0.cells.toList := by rw [e1, Nat.one_mul, List.take_left' l0]
 rw [t1] at e2
 have t2 : C2.toList.take (2 * k) = v0.cells.toList ++ v1.cells.toList := by rw [e2]; exact List.take_left' (by rw [List.length_append]; omega)
 rw [t2, List.drop_of_length_le (by omega), List.append_nil] at e3
 exact e3
variable {P : Program} {Q : Exit → Act → World → Prop} {n : Nat} {B : Nat → Prop} {w0 : World} {os : List Ass} {env : List (Nat × Value)} {o : Oper}
variable {t e : TypeId} {α : Type} {enc : α → List Value}
theorem run_build35 (hT : SliceT P t e 5) {v0 v1 v2 : Value} (h0 : v0.cells.size = 5) (h1 : v1.cells.size = 5) (h2 : v2.cells.size = 5) (w : World) : ∃ C : Array Value, C.toList = v0.cells.toList ++ v1.cells.toList ++ v2.cells.toList ∧ (Instr.buildSlice t 3 #[(0, v0), (1, v1), (2, v2)]).run P w = .ok (.slice (some ⟨w.heap.size, 0, none⟩) 3 3) (w.alloc (.cells C e)) := by
 obtain ⟨inf, z, hinf, hz, hsz, _, hzs, _⟩ := hT.inf
 obtain ⟨C, e1, hf⟩ := fill3 (cells := (Array.range (3 * 5)).map (fun j => z.cells[j % z.cells.size]!)) h0 h1 h2 (by simp)
 refine ⟨C, e1, ?_⟩
 simp only [Instr.buildSlice, run_underlying hT.ht, hT.sizeOf, Sem.run_bind, Sem.run_pure, Result.andThen_ok, zeroValue, typeInfo, hinf, hz]
 simp [newRow, zeroValue, typeInfo, hinf, hz]
 simp at hf
 rw [hf]
 simp
theorem a_build35 (hT : SliceT P t e 5) (he : EncOf 5 enc) {x0 x1 x2 : Operand} {c0 c1 c2 : Value} (a0 a1 a2 : α) (g0 : c0.cells.toList = enc a0) (g1 : c1.cells.toList = enc a1) (g2 : c2.cells.toList = enc a2) (ho : o.op = .buildSlice t 3 #[(0, x0), (1, x1), (2, x2)]) (hx0 : evs env x0 = some c0) (hx1 : evs env x1 = some c1) (hx2 : evs env x2 = some c2) : Acts P Q n env B w0 os o (fun v : Value => v) (fun v => Vec e 5 enc v [a0, a1, a2] :: os) := fun b w hH hF K hK => by
 have h0 : c0.cells.size = 5 := by rw [← he.len a0, ← g0, Array.length_toList]
 have h1 : c1.cells.size = 5 := by rw [← he.len a1, ← g1, Array.length_toList]
 have h2 : c2.cells.size = 5 := by rw [← he.len a2, ← g2, Array.length_toList]
 obtain ⟨C, hC, hr⟩ := run_build35 hT h0 h1 h2 w
 have hrun : (execOp b.eval o).run P w = .ok (.value (.slice (some ⟨w.heap.size, 0, none⟩) 3 3)) (w.alloc (.cells C e)) := by
  unfold execOp
  simp [ho, hF.evs hx0, hF.evs hx1, hF.evs hx2, Sem.run_bind, hr]
 refine a_val (w0 := w) b hrun (hK _ _ ?_)
 have hn := hH.new e C
 obtain ⟨rs, ⟨r1, r2, e1, h1', h2'⟩, h3⟩ := hn
 unfold cell at h1'
 have hl : C.toList.length = 15 := by rw [hC]; simp only [List.length_append, Array.length_toList, h0, h1, h2]
 have hfl : C.toList = flat enc [a0, a1, a2] := by rw [hC, g0, g1, g2]; simp [flat]
 exact ⟨rs, ⟨r1, r2, e1, .inr ⟨w.heap.size, 3, C, rfl, Nat.le_refl _, by unfold maxLen; omega, by rw [← Array.length_toList, hl], by
  rw [show [a0, a1, a2].length * 5 = 15 from rfl, List.take_of_length_le (by omega)]; exact hfl, h1'⟩, h2'⟩, h3⟩
theorem ents_bare {te : TypeId} {v : Value} {l : List EntV} (hl : ∀ z, z ∈ l → z.v = .slice none 0 0 ∧ z.e.d = []) : ∀ rs, Parts [Vec te 5 encV v l] rs → Ents te v l rs := fun rs h => by
  have key : ∀ l : List EntV, (∀ z, z ∈ l → z.v = .slice none 0 0 ∧ z.e.d = []) → Each (fun x : EntV => Vec 5 1 encB x.v x.e.d) l [] := by
    intro l
    induction l with
    | nil => intro _; exact each_nil
    | cons z r ih =>
      intro hl
      obtain ⟨h1, h2⟩ := hl z (List.mem_cons_self ..)
      refine ⟨[], [], rfl, ?_, ih fun x hx => hl x (List.mem_cons_of_mem _ hx)⟩
      show Vec _ 1 encB z.v z.e.d []
      rw [h1, h2]
      exact nilVec ..
  exact ⟨rs, [], (List.append_nil _).symm, Parts.one' h, [], [], rfl, key l hl, rfl⟩
end Go.Proofs.YtaipejaeeohpkaaGreatDoor.Sep
namespace Go.Proofs.YtaipejaeeohpkaaGreatDoor.Sep
open Go.RowKit
open Go.Proofs.YtaipejaeeohpkaaGreatDoor.Mem (Dist Blk Chg below0)
def knE (i t : Int) : EntD := ⟨0, t, i, [], 0⟩
def knV (i t : Int) : EntV := ⟨knE i t, none, 0⟩
def knL : List EntV := [knV 5 1, knV 6 1, knV 7 2]
theorem kn_C : LogC (allE [] ++ knL.map (·.e)) := by
  have h1 : LogC [knE 5 1] := LogC.nil.push (by decide) (fol_nil _)
  have h2 : LogC [knE 5 1, knE 6 1] := h1.push (e := knE 6 1) (by decide) ⟨.inr ⟨by decide, by decide, by decide⟩, by decide, by decide⟩
  exact h2.push (e := knE 7 2) (by decide) ⟨.inr ⟨by decide, by decide, by decide⟩, by decide, by decide⟩
theorem kn_cut {L' : List EntD} (h : CutTo 7 (allE (addsL 64 [] knL)) L') : L' = [knE 5 1, knE 6 1] := by
 rw [allE_adds] at h
 obtain ⟨c, h1, h2⟩ := h
 have a1 := (h2 1 (knE 6 1) rfl).2 (by decide)
 have a2 : ¬ 2 < c := fun hc => absurd ((h2 2 (knE 7 2) rfl).1 hc) (by decide)
 obtain rfl : c = 2 := by omega
 rw [h1]; rfl
theorem kn_few {d : DiskD} {w : Nat} (h : LogD d (addsL 64 [] knL) w) : (addsL 64 [] knL).length ≤ 3 := by
 have h1 := h.g.few
 rw [allE_adds] at h1
 exact h1
theorem kn_bare : ∀ z, z ∈ knL → z.v = .slice none 0 0 ∧ z.e.d = [] := by
  intro z hz
  simp only [knL, List.mem_cons, List.mem_nil_iff, or_false] at hz
  rcases hz with rfl | rfl | rfl <;> exact ⟨rfl, rfl⟩
theorem none_c (w : World) (i t : Int) : Calls Tryz.prog 15 #[.int .u64 i, .int .u64 t] w fun e w' => e = .returned (.agg #[.int .i64 0, .int .u64 t, .int .u64 i, .slice none 0 0, .int .i64 0]) ∧ Below w.heap.size w w' := by
 refine d_in (args := [.int .u64 i, .int .u64 t]) 8 Tryz.func15 rfl rfl rfl ?_
 refine d_reg ?_
 refine h_q hflT rfl ?_
 refine h_act (post := fun g => [cell g 34 #[.int .i64 0, .int .u64 0, .int .u64 0, .slice none 0 0, .int .i64 0]]) rfl (a_alloc ze_api_Entry rfl) ?_; rintro g
 refine h_done (d_reg ?_)
 refine h_q hflT rfl ?_
 refine h_val rfl (.agg #[.int .i64 0, .int .u64 t, .int .u64 i, .slice none 0 0, .int .i64 0]) (fun b w hb hH => exec_build rfl rfl (by kernel_rfl) hb) ?_
 refine h_acts (post := fun _ => [cell g 34 #[.int .i64 0, .int .u64 t, .int .u64 i, .slice none 0 0, .int .i64 0]]) rfl rfl (a_store 0 (v := .agg #[.int .i64 0, .int .u64 t, .int .u64 i, .slice none 0 0, .int .i64 0]) #[.int .i64 0, .int .u64 t, .int .u64 i, .slice none 0 0, .int .i64 0] tyEn.2 rfl rfl rfl rfl rfl rfl rfl rfl rfl) ?_; rintro ⟨⟩
 refine h_done (d_ret ?_)
 exact f_fin1 (.cell 0 (v := .agg #[.int .i64 0, .int .u64 t, .int .u64 i, .slice none 0 0, .int .i64 0]) (rAg (cs := [.int .i64 0, .int .u64 t, .int .u64 i, .slice none 0 0, .int .i64 0]) tyEn rfl) rfl rfl) (fun w h => ⟨rfl, below0 h.up⟩) rfl
theorem known_does (tb : Tb) : Does Tryz.prog 12 #[] [TabZ tb] (fun (_ : Unit) => .bool true) (fun (_ : Unit) => [TabZ tb]) := by
  refine d_ins (args := []) 70 Tryz.func12 rfl rfl rfl ?_; intro w rs
  have hD0 : LogD (newD 1048576) [] 0 := logD_new rfl
  obtain ⟨d2, hD2, hA2⟩ := hD0.append (lim := 64) (l := knL) tb (by decide) kn_C (by decide) (by decide)
  have hkf := kn_few hD2
  have hk3 : knL.length = 3 := rfl
  obtain ⟨d3, M3, hD3, hc3, hA3⟩ := hD2.cut (lim := 64) (n := 7) tb (by decide) (by omega)
  have h3 := kn_cut hc3
  refine d_reg ?_
  refine h_q hflT rfl ?_
  refine h_done (d_reg ?_)
  refine h_q hflT rfl ?_
  refine h_act (post := fun dk => [DiskT dk (newD 1048576), TabZ tb]) rfl (a_does (os' := fun dk => [DiskT dk (newD 1048576), TabZ tb]) [] 0 (ent_of Tryz.func10 (by kernel_rfl) rfl) (disk_new 1048576 (by decide)) rfl rfl rfl (fun _ => rfl) rfl rfl rfl) ?_; rintro dk
  refine h_q hflT rfl ?_
  refine h_done (d_seq (d_reg ?_))
  refine h_q hflT rfl ?_
  refine h_val rfl (.bool false) (fun b w hb hH => xCm rfl rfl rfl (cmp_neq_f (by decide)) hb) ?_
  refine h_q hflT rfl ?_
  refine h_val rfl (.bool false) (fun b w hb hH => exec_pnil_eql (by kernel_rfl) rfl rfl rfl hb) ?_
  refine h_q hflT rfl ?_
  refine h_act (post := fun _ => [DiskT dk (newD 1048576), TabZ tb]) rfl (a_does (os' := fun _ => [DiskT dk (newD 1048576), TabZ tb]) [1] 0 (ent_of Tryz.func19 (by kernel_rfl) rfl) (name_does tb (n := 5) (by decide)) rfl rfl rfl (fun _ => rfl) rfl rfl rfl) ?_; rintro ⟨⟩
  refine h_val rfl (.bool false) (fun b w hb hH => exec_diff (by decide) rfl rfl rfl hb) ?_
  refine h_q hflT rfl ?_
  refine h_done (d_else rfl (d_skip (f_to (d_reg ?_))))
  refine h_q hflT rfl ?_
  refine h_act (post := fun p1 => [TabZ tb, LogT p1 dk 64 (marksOf []), DiskT dk (newD 1048576)]) rfl (a_does (os' := fun p1 => [TabZ tb, LogT p1 dk 64 (marksOf []), DiskT dk (newD 1048576)]) [0, 1] 0 (ent_of Tryz.func11 (by kernel_rfl) rfl) (hD0.opens (dk := dk) tb (by omega) (by decide) (by decide)) rfl rfl rfl (fun _ => rfl) rfl rfl rfl) ?_; rintro p1
  refine h_q hflT rfl ?_
  refine h_done (d_seq (d_reg ?_))
  refine h_q hflT rfl ?_
  refine h_val rfl (.bool false) (fun b w hb hH => xCm rfl rfl rfl (cmp_neq_f (by decide)) hb) ?_
  refine h_q hflT rfl ?_
  refine h_val rfl (.bool false) (fun b w hb hH => exec_pnil_eql (by kernel_rfl) rfl rfl rfl hb) ?_
  refine h_q hflT rfl ?_
  refine h_act (post := fun _ => [TabZ tb, LogT p1 dk 64 (marksOf []), DiskT dk (newD 1048576)]) rfl (a_call (ent_of Tryz.func15 (by kernel_rfl) rfl) (fun w hH => none_c w 5 1) rfl rfl rfl) ?_; rintro ⟨⟩
  refine h_act (post := fun _ => [TabZ tb, LogT p1 dk 64 (marksOf []), DiskT dk (newD 1048576)]) rfl (a_call (ent_of Tryz.func15 (by kernel_rfl) rfl) (fun w hH => none_c w 6 1) rfl rfl rfl) ?_; rintro ⟨⟩
  refine h_act (post := fun _ => [TabZ tb, LogT p1 dk 64 (marksOf []), DiskT dk (newD 1048576)]) rfl (a_call (ent_of Tryz.func15 (by kernel_rfl) rfl) (fun w hH => none_c w 7 2) rfl rfl rfl) ?_; rintro ⟨⟩
  refine h_act (X := Value) (val := fun v : Value => v) (post := fun v3 => [Vec 34 5 encV v3 ([knV 5 1, knV 6 1, knV 7 2]), TabZ tb, LogT p1 dk 64 (marksOf []), DiskT dk (newD 1048576)]) rfl (by exact a_build35 sl_api_Entry okV (knV 5 1) (knV 6 1) (knV 7 2) rfl rfl rfl rfl rfl rfl rfl) ?_; rintro v3
  refine h_close [0] rfl (ents_bare kn_bare) rfl ?_
  refine h_act (post := fun _ => [Ents 34 v3 knL, TabZ tb, LogT p1 dk 64 (marksOf (addsL 64 [] knL)), DiskT dk d2]) rfl (a_does (os' := fun _ => [Ents 34 v3 knL, TabZ tb, LogT p1 dk 64 (marksOf (addsL 64 [] knL)), DiskT dk d2]) [2, 3, 1, 0] 0 (ent_of Tryz.func13 (by kernel_rfl) rfl) (hA2 p1 dk v3) rfl rfl rfl (fun _ => rfl) rfl rfl rfl) ?_; rintro ⟨⟩
  refine h_val rfl (.bool false) (fun b w hb hH => xCm rfl rfl rfl (cmp_neq_f (by decide)) hb) ?_
  refine h_q hflT rfl ?_
  refine h_done (d_else rfl (d_skip (f_to (d_reg ?_))))
  refine h_q hflT rfl ?_
  refine h_act (post := fun _ => [Ents 34 v3 knL, TabZ tb, LogT p1 dk 64 (marksOf M3), DiskT dk d3]) rfl (a_does (os' := fun _ => [Ents 34 v3 knL, TabZ tb, LogT p1 dk 64 (marksOf M3), DiskT dk d3]) [2, 3, 1] 0 (ent_of Tryz.func16 (by kernel_rfl) rfl) (hA3 p1 dk) rfl rfl rfl (fun _ => rfl) rfl rfl rfl) ?_; rintro ⟨⟩
  refine h_done (d_reg ?_)
  refine h_q hflT rfl ?_
  refine h_act (post := fun p2 => [TabZ tb, Ents 34 v3 knL, DiskT dk d3, LogT p1 dk 64 (marksOf M3), LogT p2 dk 64 (marksOf M3)]) rfl (a_does (os' := fun p2 => [TabZ tb, Ents 34 v3 knL, DiskT dk d3, LogT p1 dk 64 (marksOf M3), LogT p2 dk 64 (marksOf M3)]) [3, 1] 0 (ent_of Tryz.func11 (by kernel_rfl) rfl) (hD3.opens (dk := dk) tb (by omega) (by decide) (by decide)) rfl rfl rfl (fun _ => rfl) rfl rfl rfl) ?_; rintro p2
  refine h_q hflT rfl ?_
  refine h_done ?_
  refine WC2.keep (env' := [(0, .bool false), (5, .pointer (some ⟨p2, 0, none⟩)), (6, .int .i64 0)]) ⟨rfl, rfl, rfl, trivial⟩ ?_
  refine d_reg ?_
  refine h_q hflT rfl ?_
  refine h_val rfl (.bool true) (fun b w hb hH => xCm rfl rfl rfl (cEt (by decide)) hb) ?_
  refine h_q hflT rfl ?_
  refine h_val rfl (.bool true) (fun b w hb hH => exec_pnil_neq (by kernel_rfl) rfl rfl rfl hb) ?_
  refine h_q hflT rfl ?_
  refine h_act (post := fun _ => [TabZ tb, Ents 34 v3 knL, DiskT dk d3, LogT p1 dk 64 (marksOf M3), LogT p2 dk 64 (marksOf M3)]) rfl (a_does (os' := fun _ => [TabZ tb, Ents 34 v3 knL, DiskT dk d3, LogT p1 dk 64 (marksOf M3), LogT p2 dk 64 (marksOf M3)]) [4] 0 (ent_of Tryz.func18 (by kernel_rfl) rfl) (hD3.firstD h3 p2 dk 64) rfl rfl rfl (fun _ => rfl) rfl rfl rfl) ?_; rintro ⟨⟩
  refine h_val rfl (.bool true) (fun b w hb hH => xCm rfl rfl rfl (cEt (by decide)) hb) ?_
  refine h_q hflT rfl ?_
  refine h_act (post := fun _ => [TabZ tb, Ents 34 v3 knL, DiskT dk d3, LogT p1 dk 64 (marksOf M3), LogT p2 dk 64 (marksOf M3)]) rfl (a_does (os' := fun _ => [TabZ tb, Ents 34 v3 knL, DiskT dk d3, LogT p1 dk 64 (marksOf M3), LogT p2 dk 64 (marksOf M3)]) [4] 0 (ent_of Tryz.func17 (by kernel_rfl) rfl) ((h3 ▸ hD3.lastD p2 dk 64)) rfl rfl rfl (fun _ => rfl) rfl rfl rfl) ?_; rintro ⟨⟩
  refine h_val rfl (.bool true) (fun b w hb hH => xCm rfl rfl rfl (cEt (by decide)) hb) ?_
  refine h_q hflT rfl ?_
  refine h_act (post := fun (x : EsV) => [TabZ tb, fact (x.l.map (·.e) = allE M3), DiskT dk d3, Ents 34 v3 knL, LogT p2 dk 64 (marksOf M3), LogT p1 dk 64 (marksOf M3), Ents 34 x.v x.l]) rfl (a_does (os' := fun (x : EsV) => [TabZ tb, fact (x.l.map (·.e) = allE M3), DiskT dk d3, Ents 34 v3 knL, LogT p2 dk 64 (marksOf M3), LogT p1 dk 64 (marksOf M3), Ents 34 x.v x.l]) [4, 2, 0] 0 (ent_of Tryz.func33 (by kernel_rfl) rfl) (hD3.listD tb (by omega) p2 dk 64) rfl rfl rfl (fun _ => rfl) rfl rfl rfl) ?_; rintro x
  refine WL2.fact 1 rfl (fun _ h => h.2) ?_; rintro hl
  have hl2 : x.l.length = 2 := by have := congrArg List.length (hl : x.l.map (·.e) = allE M3); rw [h3, List.length_map] at this; exact this
  refine h_open 6 rfl ents_open (fun _ => rfl) ?_; rintro ⟨⟩
  refine h_val rfl (.int .i64 ((2 : Nat) : Int)) (fun b w hb hH => e_vlenN 0 hl2 Tryz.underlying52 rfl rfl rfl hH hb) ?_
  refine h_val rfl (.bool true) (fun b w hb hH => xCm rfl rfl rfl (cEt (by omega)) hb) ?_
  refine h_q hflT rfl ?_
  refine h_done (d_ret ?_)
  exact f_fin1 (.tmp rfl) (fun w h => tells () rfl [2] rfl h sPr) rfl
end Go.Proofs.YtaipejaeeohpkaaGreatDoor.Sep
