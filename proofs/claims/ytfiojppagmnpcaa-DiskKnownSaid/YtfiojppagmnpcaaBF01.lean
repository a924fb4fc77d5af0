/-
  DskC · Lit · DskL
-/
import Derived.Test.YtfiojppagmnpcaaBA05
import Derived.Test.YtfiojppagmnpcaaBB01
import Derived.Test.YtfiojppagmnpcaaBB02
import Derived.Test.YtfiojppagmnpcaaBE01
import Derived.Test.YtfiojppagmnpcaaBE02
set_option linter.unusedSimpArgs false
set_option linter.unusedVariables false



namespace Go.Proofs.Ytfiojppagmnpcaa.Sep
open Go.RowKit
open Go.Proofs.Ytfiojppagmnpcaa.Mem (Dist Blk Chg below0)

def LitT (e : TypeId) (v : Value) (l : List UInt8) : Ass := fun rs => ∃ g c cs f, v = .slice (some ⟨g, 0, none⟩) l.length c ∧ l.length ≤ c ∧ c ≤ maxLen ∧ cs.size = c ∧ cs.toList.take l.length = flat encB l ∧ rs = [(g, none, litC cs e f)]
section lit
variable {P : Program} {e t : TypeId} {l : List UInt8} {v : Value} {B : Nat → Prop} {w0 w w' : World} {os : List Ass} {n : Nat} {env : List (Nat × Value)} {Q : Exit → Act → World → Prop} {o : Oper} {act : Act}
theorem mod_freeze {g k m : Nat} : Mod (One g) w (w.freeze ⟨g, k, none⟩ m) := by
  unfold World.freeze
  split
  · exact ⟨rfl, rfl, rfl, Nat.le_refl _, fun _ _ _ => rfl⟩
  · exact ⟨rfl, rfl, rfl, by simp, fun j _ hj => by
      have hj : j ≠ g := hj
      simp [Array.getElem?_modify, Ne.symm hj]⟩
theorem freeze_at {g k m : Nat} {C : Array Value} {f : Nat × Nat} (h : w.heap[g]? = some (.cells C e f)) : ∃ f', (w.freeze ⟨g, k, none⟩ m).heap[g]? = some (.cells C e f') := by
  unfold World.freeze
  split
  · exact ⟨f, h⟩
  · obtain ⟨lo, hi⟩ := f
    refine ⟨if lo == hi then (k, k + m) else (min lo k, max hi (k + m)), ?_⟩
    show (w.heap.modify g _)[g]? = _
    rw [Array.getElem?_modify, if_pos rfl, h]
    rfl
theorem a_lit (i : Nat) (ht : P.underlying t = some (.slice e)) (he : P.underlying e = some (.int .u8)) (hi : os[i]? = some (Vec e 1 encB v l)) (hl : l ≠ []) {x : Operand} (ho : o.op = .convert t t x) (hx : evs env x = some v) :
    Acts P Q n env B w0 os o (fun _ : Unit => v) (fun _ => os.set i (LitT e v l)) := fun act w hH hF K hK => by
  obtain ⟨rs, hv, hr⟩ := hH.thing i hi
  rcases hv with ⟨_, h2, _⟩ | ⟨g, c, cs, rfl, h1, h2, h3, h4, rfl⟩
  · exact absurd h2 hl
  · have hrow : w.heap[g]? = some (.cells cs e (0, 0)) := hr.1
    have hlt : g < w.heap.size := (Array.getElem?_eq_some_iff.1 hrow).1
    have hsh : w.shape? g = some (e, cs.size) := by unfold World.shape?; rw [hrow]
    have hrun : (execOp act.eval o).run P w = .ok (.value (.slice (some ⟨g, 0, none⟩) l.length c)) (w.freeze ⟨g, cs.size, none⟩ 1) := by
      unfold execOp
      simp [ho, hF.evs hx, convert, run_underlying ht, run_underlying he, markStringish, hsh]
    obtain ⟨f', hf'⟩ := freeze_at (k := cs.size) (m := 1) hrow
    refine a_val (w0 := w) act hrun (hK () _ (hH.turn i hi fun rs' hx' hr' hd' => ?_))
    have e1 : rs' = [(g, some e, cs)] := by
      rcases hx' with ⟨h, _⟩ | ⟨g', c', cs', e1, _, _, _, _, e2⟩
      · cases h
      · cases e1
        subst e2
        have h5 : w.heap[g]? = some (.cells cs' e (0, 0)) := hr'.1
        rw [hrow] at h5
        cases h5
        rfl
    subst e1
    exact ⟨[(g, none, litC cs e f')], ⟨g, c, cs, f', rfl, h1, h2, by omega, by simpa using h4, rfl⟩, ⟨mod_freeze.weaken fun k _ e => ⟨_, List.mem_singleton.2 rfl, (show k = g from e).symm⟩, ⟨rowx_lit.2 hf', trivial⟩, ⟨(fun _ h => by cases h), trivial⟩, fun x hx _ => by
      rw [List.mem_singleton.1 hx]
      exact ⟨_, List.mem_singleton.2 rfl, rfl⟩⟩⟩
end lit
theorem rd8_lit {v : Value} {l : List UInt8} : Rd8 (LitT 5 v l) v l := fun rs w h hr => by
  obtain ⟨g, c, cs, f, rfl, h1, h2, h3, h4, rfl⟩ := h
  have hrow : w.heap[g]? = some (.cells cs 5 f) := rowx_lit.1 hr.1
  refine ⟨_, c, rfl, h1, h2, fun _ => ⟨g, 0, rfl, trivial, fun j b hj => ?_⟩⟩
  have h5 : (flat encB l)[j]? = some (u8v b) := by
    rw [flatB]
    simp [u8s, hj]
  have h6 := Vec.take_ okB (by rw [Nat.mul_one]; exact h4) h5
  unfold World.cell?
  rw [hrow]
  simpa using h6
end Go.Proofs.Ytfiojppagmnpcaa.Sep

namespace Go.Proofs.Ytfiojppagmnpcaa.Sep
open Go.RowKit
open Go.Proofs.Ytfiojppagmnpcaa.Mem (Dist Blk Chg below0)

set_option maxRecDepth 100000 in
theorem known7_true (w : World)  : Calls Try.prog 9 #[] w fun e w' => e = .returned (.bool true) ∧ Below w.heap.size w w' := by
  refine d_in (args := []) 55 Try.func9 rfl rfl rfl ?_
  refine d_reg ?_
  refine h_q hflS rfl ?_
  refine h_done (d_reg ?_)
  refine h_q hflS rfl ?_
  refine h_act (post := fun p => [DiskT p kd0]) rfl (a_does (os' := fun p => [DiskT p kd0]) [] 0 (ent_of Try.func8 (by kernel_rfl) rfl) (disk_new 9 (by decide)) rfl rfl rfl (fun _ => rfl) rfl rfl rfl) ?_; rintro p
  refine h_q hflS rfl ?_
  refine h_done (d_seq (d_reg ?_))
  refine h_q hflS rfl ?_
  refine h_val rfl (.bool false) (fun b w hb hH => exec_cmp rfl rfl rfl (cmp_neq_f (by decide)) hb) ?_
  refine h_q hflS rfl ?_
  refine h_val rfl (.bool false) (fun b w hb hH => exec_pnil_eql (by kernel_rfl) rfl rfl rfl hb) ?_
  refine h_q hflS rfl ?_
  refine h_done (d_else rfl (d_skip (f_to (d_reg ?_))))
  refine h_q hflS rfl ?_
  refine h_act (X := Value) (val := fun v : Value => v) (post := fun b1 => [Vec 5 1 encB b1 ([120, 121, 122]), DiskT p kd0]) rfl (by exact a_build3 sl_uint8 120 121 122 rfl rfl rfl rfl) ?_; rintro b1
  refine h_act (post := fun _ => [LitT 5 b1 ([120, 121, 122]), DiskT p kd0]) rfl (a_lit 0 Try.underlying28 Try.underlying5 rfl (by simp) rfl rfl) ?_; rintro ⟨⟩
  refine h_act (post := fun _ => [LitT 5 b1 ([120, 121, 122]), DiskT p kd1]) rfl (a_does (os' := fun _ => [LitT 5 b1 ([120, 121, 122]), DiskT p kd1]) [1, 0] 0 (ent_of Try.func10 (by kernel_rfl) rfl) (disk_append kfit0 (by decide) rd8_lit kn1) rfl rfl rfl (fun _ => rfl) rfl rfl rfl) ?_; rintro ⟨⟩
  refine h_q hflS rfl ?_
  refine h_done (d_reg ?_)
  refine h_q hflS rfl ?_
  refine h_act (post := fun _ => [LitT 5 b1 ([120, 121, 122]), DiskT p kd2]) rfl (a_does (os' := fun _ => [LitT 5 b1 ([120, 121, 122]), DiskT p kd2]) [1] 0 (ent_of Try.func11 (by kernel_rfl) rfl) (disk_sync kfit1 kn2) rfl rfl rfl (fun _ => rfl) rfl rfl rfl) ?_; rintro ⟨⟩
  refine h_done (d_reg ?_)
  refine h_q hflS rfl ?_
  refine h_act (X := Value) (val := fun v : Value => v) (post := fun b2 => [Vec 5 1 encB b2 ([49, 50]), LitT 5 b1 ([120, 121, 122]), DiskT p kd2]) rfl (by exact a_build2 sl_uint8 49 50 rfl rfl rfl) ?_; rintro b2
  refine h_act (post := fun _ => [LitT 5 b2 ([49, 50]), LitT 5 b1 ([120, 121, 122]), DiskT p kd2]) rfl (a_lit 0 Try.underlying28 Try.underlying5 rfl (by simp) rfl rfl) ?_; rintro ⟨⟩
  refine h_act (post := fun _ => [LitT 5 b2 ([49, 50]), LitT 5 b1 ([120, 121, 122]), DiskT p kd3]) rfl (a_does (os' := fun _ => [LitT 5 b2 ([49, 50]), LitT 5 b1 ([120, 121, 122]), DiskT p kd3]) [2, 0] 0 (ent_of Try.func10 (by kernel_rfl) rfl) (disk_append kfit2 (by decide) rd8_lit kn3) rfl rfl rfl (fun _ => rfl) rfl rfl rfl) ?_; rintro ⟨⟩
  refine h_q hflS rfl ?_
  refine h_done (d_reg ?_)
  refine h_q hflS rfl ?_
  refine h_act (post := fun _ => [LitT 5 b2 ([49, 50]), LitT 5 b1 ([120, 121, 122]), DiskT p kd4]) rfl (a_does (os' := fun _ => [LitT 5 b2 ([49, 50]), LitT 5 b1 ([120, 121, 122]), DiskT p kd4]) [2] 0 (ent_of Try.func12 (by kernel_rfl) rfl) (disk_remove kfit3 kn4) rfl rfl rfl (fun _ => rfl) rfl rfl rfl) ?_; rintro ⟨⟩
  refine h_done (d_reg ?_)
  refine h_q hflS rfl ?_
  refine h_act (post := fun _ => [LitT 5 b2 ([49, 50]), LitT 5 b1 ([120, 121, 122]), DiskT p kd5]) rfl (a_does (os' := fun _ => [LitT 5 b2 ([49, 50]), LitT 5 b1 ([120, 121, 122]), DiskT p kd5]) [2] 0 (ent_of Try.func13 (by kernel_rfl) rfl) (disk_crash kfit4 (by decide) (by decide) kn5k kn5) rfl rfl rfl (fun _ => rfl) rfl rfl rfl) ?_; rintro ⟨⟩
  refine h_q hflS rfl ?_
  refine h_done (d_reg ?_)
  refine h_q hflS rfl ?_
  refine h_act (post := fun v => [Vec 5 1 encB v ([120, 121, 122, 49, 50]), LitT 5 b2 ([49, 50]), LitT 5 b1 ([120, 121, 122]), DiskT p kd5]) rfl (a_does (os' := fun v => [Vec 5 1 encB v ([120, 121, 122, 49, 50]), LitT 5 b2 ([49, 50]), LitT 5 b1 ([120, 121, 122]), DiskT p kd5]) [2] 0 (ent_of Try.func14 (by kernel_rfl) rfl) (disk_read kfit5 kr5s kr5b) rfl rfl rfl (fun _ => rfl) rfl rfl rfl) ?_; rintro v
  refine h_q hflS rfl ?_
  refine h_done (d_reg ?_)
  refine h_q hflS rfl ?_
  refine h_val rfl (.bool true) (fun b w hb hH => exec_cmp rfl rfl rfl (cmp_eql_t (by decide)) hb) ?_
  refine h_q hflS rfl ?_
  refine h_val rfl (.bool true) (fun b w hb hH => exec_cmp rfl rfl rfl (cmp_eql_t (by decide)) hb) ?_
  refine h_q hflS rfl ?_
  refine h_val rfl (.bool true) (fun b w hb hH => exec_cmp rfl rfl rfl (cmp_eql_t (by decide)) hb) ?_
  refine h_q hflS rfl ?_
  refine h_val rfl (.string (bs ([120, 121, 122, 49, 50]))) (fun b w hb hH => exec_str8 Try.underlying28 Try.underlying5 (by kernel_rfl) Try.underlying9 (hH.sl8 0 rfl) rfl rfl hb) ?_
  refine h_val rfl (.bool true) (fun b w hb hH => exec_same rfl rfl rfl (by decide) hb) ?_
  refine h_q hflS rfl ?_
  refine h_done ?_
  refine WC2.keep (env' := [(0, .bool true)]) ⟨rfl, trivial⟩ ?_
  refine d_ret ?_
  exact f_fin1 (.tmp rfl) (fun w h => ⟨rfl, below0 h.up⟩) rfl
end Go.Proofs.Ytfiojppagmnpcaa.Sep
