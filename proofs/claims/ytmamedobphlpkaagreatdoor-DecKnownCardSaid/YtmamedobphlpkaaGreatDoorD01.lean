/-
  RefR · Ref3
-/
import Derived.Test.YtmamedobphlpkaaGreatDoorA08
import Derived.Test.YtmamedobphlpkaaGreatDoorB08
import Derived.Test.YtmamedobphlpkaaGreatDoorB10
set_option linter.unusedSimpArgs false
set_option linter.unusedVariables false

namespace Go.Proofs.YtmamedobphlpkaaGreatDoor
open Go.RowKit

end Go.Proofs.YtmamedobphlpkaaGreatDoor

namespace Go.Proofs.YtmamedobphlpkaaGreatDoor
open Go.RowKit

theorem rright_yes (w : World) (c s : Int) (h : May s) : Calls Tryz.prog 42 #[Dc c s] w fun e w' => e = .returned (.bool true) ∧ Below w.heap.size w w' := by
  obtain ⟨h1, h2⟩ := h
  refine d_in (args := [Dc c s]) 11 Tryz.func42 rfl rfl rfl ?_
  refine d_reg ?_
  refine h_box (cs := #[hiW c, loW c, .int .i64 s]) rfl rfl rfl rfl ?_; intro g1_1
  refine h_q hfl rfl ?_
  refine h_done (d_reg ?_)
  refine h_q hfl rfl ?_
  refine h_load 0 (v := .int .i64 s) (reads_one tyInt rfl) rfl rfl rfl rfl ?_
  refine h_cmp (cmp_geq_t (by omega)) rfl rfl rfl rfl ?_
  refine h_q hfl rfl ?_
  refine h_load 0 (v := .int .i64 s) (reads_one tyInt rfl) rfl rfl rfl rfl ?_
  refine h_cmp (cmp_leq_t (by omega)) rfl rfl rfl rfl ?_
  refine h_q hfl rfl ?_
  refine h_done (d_ret ?_)
  exact f_fin1 (.tmp rfl) (fun w h => ⟨rfl, h.up.below⟩) rfl

theorem rright_low (w : World) (c s : Int) (h : s < 0) : Calls Tryz.prog 42 #[Dc c s] w fun e w' => e = .returned (.bool false) ∧ Below w.heap.size w w' := by
  refine d_in (args := [Dc c s]) 11 Tryz.func42 rfl rfl rfl ?_
  refine d_reg ?_
  refine h_box (cs := #[hiW c, loW c, .int .i64 s]) rfl rfl rfl rfl ?_; intro g1_1
  refine h_q hfl rfl ?_
  refine h_done (d_reg ?_)
  refine h_q hfl rfl ?_
  refine h_load 0 (v := .int .i64 s) (reads_one tyInt rfl) rfl rfl rfl rfl ?_
  refine h_cmp (cmp_geq_f (by omega)) rfl rfl rfl rfl ?_
  refine h_q hfl rfl ?_
  refine h_done (d_ret ?_)
  exact f_fin1 (.tmp rfl) (fun w h => ⟨rfl, h.up.below⟩) rfl

theorem rright_high (w : World) (c s : Int) (h : 18 < s) : Calls Tryz.prog 42 #[Dc c s] w fun e w' => e = .returned (.bool false) ∧ Below w.heap.size w w' := by
  refine d_in (args := [Dc c s]) 11 Tryz.func42 rfl rfl rfl ?_
  refine d_reg ?_
  refine h_box (cs := #[hiW c, loW c, .int .i64 s]) rfl rfl rfl rfl ?_; intro g1_1
  refine h_q hfl rfl ?_
  refine h_done (d_reg ?_)
  refine h_q hfl rfl ?_
  refine h_load 0 (v := .int .i64 s) (reads_one tyInt rfl) rfl rfl rfl rfl ?_
  refine h_cmp (cmp_geq_t (by omega)) rfl rfl rfl rfl ?_
  refine h_q hfl rfl ?_
  refine h_load 0 (v := .int .i64 s) (reads_one tyInt rfl) rfl rfl rfl rfl ?_
  refine h_cmp (cmp_leq_f (by omega)) rfl rfl rfl rfl ?_
  refine h_q hfl rfl ?_
  refine h_done (d_ret ?_)
  exact f_fin1 (.tmp rfl) (fun w h => ⟨rfl, h.up.below⟩) rfl

theorem rright_no (w : World) (c s : Int) (h : ¬ May s) : Calls Tryz.prog 42 #[Dc c s] w fun e w' => e = .returned (.bool false) ∧ Below w.heap.size w w' := by
  by_cases h0 : s < 0
  · exact rright_low w c s h0
  · exact rright_high w c s (by omega)
theorem rWide_nx (w : World) (z : Int) (hz : z.natAbs < BP 16) (hf : ¬ Fits z) : Calls Tryz.prog 83 #[BigZ z] w fun e w' => (∃ v, e = .returned v ∧ ∃ p q : Int, v = .tuple #[.agg #[.int .i64 p, .int .u64 q], .bool false]) ∧ Below w.heap.size w w' :=
  (rWide_no w z hz hf).mono fun e w' h => by
    obtain ⟨⟨p, q, he⟩, hb⟩ := h
    exact ⟨⟨_, he, p, q, rfl⟩, hb⟩

theorem rdec_fit (w : World) (z s : Int) (hf : Fits z) : Calls Tryz.prog 47 #[BigZ z, .int .i64 s] w fun e w' => e = .returned (.tuple #[Dc z s, .int .i64 0]) ∧ Below w.heap.size w w' := by
  refine d_in (args := [BigZ z, .int .i64 s]) 19 Tryz.func47 rfl rfl rfl ?_
  refine d_reg ?_
  refine h_box (cs := bigZ z) rfl rfl rfl rfl ?_; intro g2_1
  refine h_alloc zeDec rfl rfl ?_; intro g4_2
  refine h_q hfl rfl ?_
  refine h_done (d_reg ?_)
  refine h_load 1 (v := BigZ z) (reads_all (tyBigC _)) rfl rfl rfl rfl ?_
  refine h_call (ent_of Tryz.func83 (by kernel_rfl) rfl) (fun w hH => rWide_fit _ z hf) rfl rfl rfl rfl ?_
  refine h_q hfl rfl ?_
  refine h_alloc zeWide rfl rfl ?_; intro g6_3
  refine h_store 0 (v := WV z) (#[hiW z, loW z]) tyWide.2 rfl rfl rfl rfl rfl rfl rfl rfl rfl rfl ?_
  refine h_q hfl rfl ?_
  refine h_done (d_seq (d_reg ?_))
  refine h_q hfl rfl ?_
  refine h_done (d_else rfl (d_skip (f_to (d_reg ?_))))
  refine h_load 0 (v := .agg #[hiW z, loW z]) (reads_agg (cs := [hiW z, loW z]) tyWide rfl) rfl rfl rfl rfl ?_
  refine h_q hfl rfl ?_
  refine h_build (cs := #[hiW z, loW z, .int .i64 s]) (by kernel_rfl) rfl rfl rfl ?_
  refine h_store 1 (v := .agg #[hiW z, loW z, .int .i64 s]) (#[hiW z, loW z, .int .i64 s]) tyDec.2 rfl rfl rfl rfl rfl rfl rfl rfl rfl rfl ?_
  refine h_q hfl rfl ?_
  refine h_done (d_ret ?_)
  exact f_fin2 (.cell 1 (v := .agg #[hiW z, loW z, .int .i64 s]) (reads_agg (cs := [hiW z, loW z, .int .i64 s]) tyDec rfl) rfl rfl) (.tmp rfl) (fun w h => ⟨rfl, h.up.below⟩) rfl

theorem rdec_no (w : World) (z s : Int) (hz : z.natAbs < BP 16) (hf : ¬ Fits z) : Calls Tryz.prog 47 #[BigZ z, .int .i64 s] w fun e w' => e = .returned (.tuple #[Dc 0 0, .int .i64 20]) ∧ Below w.heap.size w w' := by
  refine d_in (args := [BigZ z, .int .i64 s]) 19 Tryz.func47 rfl rfl rfl ?_
  refine d_reg ?_
  refine h_box (cs := bigZ z) rfl rfl rfl rfl ?_; intro g2_1
  refine h_alloc zeDec rfl rfl ?_; intro g4_2
  refine h_q hfl rfl ?_
  refine h_done (d_reg ?_)
  refine h_load 1 (v := BigZ z) (reads_all (tyBigC _)) rfl rfl rfl rfl ?_
  refine h_callx (ent_of Tryz.func83 (by kernel_rfl) rfl) (X := fun v => ∃ p q : Int, v = .tuple #[.agg #[.int .i64 p, .int .u64 q], .bool false]) (fun w hH => rWide_nx _ z hz hf) rfl rfl rfl rfl ?_; rintro _ ⟨p, q, rfl⟩
  refine h_q hfl rfl ?_
  refine h_alloc zeWide rfl rfl ?_; intro g6_3
  refine h_store 0 (v := .agg #[.int .i64 p, .int .u64 q]) (#[.int .i64 p, .int .u64 q]) tyWide.2 rfl rfl rfl rfl rfl rfl rfl rfl rfl rfl ?_
  refine h_q hfl rfl ?_
  refine h_done (d_seq (d_reg ?_))
  refine h_q hfl rfl ?_
  refine h_done (d_then rfl (d_reg ?_))
  refine h_build (cs := #[.int .i64 0, .int .u64 0, .int .i64 0]) (by kernel_rfl) rfl rfl rfl ?_
  refine h_store 1 (v := .agg #[.int .i64 0, .int .u64 0, .int .i64 0]) (#[.int .i64 0, .int .u64 0, .int .i64 0]) tyDec.2 rfl rfl rfl rfl rfl rfl rfl rfl rfl rfl ?_
  refine h_q hfl rfl ?_
  refine h_done (d_ret (f_then_ret ?_))
  exact f_fin2 (.cell 1 (v := .agg #[.int .i64 0, .int .u64 0, .int .i64 0]) (reads_agg (cs := [.int .i64 0, .int .u64 0, .int .i64 0]) tyDec rfl) rfl rfl) (.tmp rfl) (fun w h => ⟨rfl, h.up.below⟩) rfl

end Go.Proofs.YtmamedobphlpkaaGreatDoor
