/-
  DskC · Lit · DskL · DskF
-/
import Derived.Test.YtfiojppagmnpcaaAA07
import Derived.Test.YtfiojppagmnpcaaAB01
import Derived.Test.YtfiojppagmnpcaaAB02
import Derived.Test.YtfiojppagmnpcaaAE01
import Derived.Test.YtfiojppagmnpcaaAE02
set_option linter.unusedSimpArgs false
set_option linter.unusedVariables false



namespace Go.Proofs.Ytfiojppagmnpcaa.Sep
open Go.RowKit
open Go.Proofs.Ytfiojppagmnpcaa.Mem (Dist Blk Chg below0)

def LitT (e : TypeId) (v : Value) (l : List UInt8) : Ass := fun rs => ∃ g c cs f, v = .slice (some ⟨g, 0, none⟩) l.length c ∧ l.length ≤ c ∧ c ≤ maxLen ∧ cs.size = c ∧ cs.toList.take l.length = flat encB l ∧ rs = [(g, none, litC cs e f)]
section lit
variable {P : Program} {e t : TypeId} {l : List UInt8} {v : Value} {B : Nat → Prop} {w0 w w' : World} {os : List Ass} {n : Nat} {env : List (Nat × Value)} {Q : Exit → Act → World → Prop} {o : Oper} {act : Act}
theorem mod_freeze {g k m : Nat} : Mod (One g) w (w.freeze ⟨g, k, none⟩ m) := by
  unfold World.freeze
  split
  · exact ⟨rfl, rfl, rfl, Nat.le_refl _, fun _ _ _ => rfl⟩
  · exact ⟨rfl, rfl, rfl, by simp, fun j _ hj => by
      have hj : j ≠ g := hj
      simp [Array.getElem?_modify, Ne.symm hj]⟩
theorem freeze_at {g k m : Nat} {C : Array Value} {f : Nat × Nat} (h : w.heap[g]? = some (.cells C e f)) : ∃ f', (w.freeze ⟨g, k, none⟩ m).heap[g]? = some (.cells C e f') := by
  unfold World.freeze
  split
  · exact ⟨f, h⟩
  · obtain ⟨lo, hi⟩ := f
    refine ⟨if lo == hi then (k, k + m) else (min lo k, max hi (k + m)), ?_⟩
    show (w.heap.modify g _)[g]? = _
    rw [Array.getElem?_modify, if_pos rfl, h]
    rfl
theorem a_lit (i : Nat) (ht : P.underlying t = some (.slice e)) (he : P.underlying e = some (.int .u8)) (hi : os[i]? = some (Vec e 1 encB v l)) (hl : l ≠ []) {x : Operand} (ho : o.op = .convert t t x) (hx : evs env x = some v) :
    Acts P Q n env B w0 os o (fun _ : Unit => v) (fun _ => os.set i (LitT e v l)) := fun act w hH hF K hK => by
  obtain ⟨rs, hv, hr⟩ := hH.thing i hi
  rcases hv with ⟨_, h2, _⟩ | ⟨g, c, cs, rfl, h1, h2, h3, h4, rfl⟩
  · exact absurd h2 hl
  · have hrow : w.heap[g]? = some (.cells cs e (0, 0)) := hr.1
    have hlt : g < w.heap.size := (Array.getElem?_eq_some_iff.1 hrow).1
    have hsh : w.shape? g = some (e, cs.size) := by unfold World.shape?; rw [hrow]
    have hrun : (execOp act.eval o).run P w = .ok (.value (.slice (some ⟨g, 0, none⟩) l.length c)) (w.freeze ⟨g, cs.size, none⟩ 1) := by
      unfold execOp
      simp [ho, hF.evs hx, convert, run_underlying ht, run_underlying he, markStringish, hsh]
    obtain ⟨f', hf'⟩ := freeze_at (k := cs.size) (m := 1) hrow
    refine a_val (w0 := w) act hrun (hK () _ (hH.turn i hi fun rs' hx' hr' hd' => ?_))
    have e1 : rs' = [(g, some e, cs)] := by
      rcases hx' with ⟨h, _⟩ | ⟨g', c', cs', e1, _, _, _, _, e2⟩
      · cases h
      · cases e1
        subst e2
        have h5 : w.heap[g]? = some (.cells cs' e (0, 0)) := hr'.1
        rw [hrow] at h5
        cases h5
        rfl
    subst e1
    exact ⟨[(g, none, litC cs e f')], ⟨g, c, cs, f', rfl, h1, h2, by omega, by simpa using h4, rfl⟩, ⟨mod_freeze.weaken fun k _ e => ⟨_, List.mem_singleton.2 rfl, (show k = g from e).symm⟩, ⟨rowx_lit.2 hf', trivial⟩, ⟨(fun _ h => by cases h), trivial⟩, fun x hx _ => by
      rw [List.mem_singleton.1 hx]
      exact ⟨_, List.mem_singleton.2 rfl, rfl⟩⟩⟩
theorem exec_catR {T T' : TypeId} {x y : Operand} {l m r : List UInt8} (he : l ++ m = r) (hs : l.length + m.length ≤ 9223372036854775807) (ho : o.op = .binOp .add T x y T') (hx : evs env x = some (.string (bs l))) (hy : evs env y = some (.string (bs m))) (hF : Fr n act env) : (execOp act.eval o).run P w = .ok (.value (.string (bs r))) w := he ▸ exec_cat ho hx hy hs hF
theorem exec_diff {T T' : TypeId} {x y : Operand} {l m : List UInt8} {c : Bool} (hc : (l != m) = c) (ho : o.op = .binOp .neq T x y T') (hx : evs env x = some (.string (bs l))) (hy : evs env y = some (.string (bs m))) (hF : Fr n act env) : (execOp act.eval o).run P w = .ok (.value (.bool c)) w := by
  unfold execOp
  subst hc
  simp only [ho, hF.evs hx, hF.evs hy]
  simp [eqGuard, binOp, Op.stringOp, bs_list, bne]
end lit
theorem rd8_lit {v : Value} {l : List UInt8} : Rd8 (LitT 5 v l) v l := fun rs w h hr => by
  obtain ⟨g, c, cs, f, rfl, h1, h2, h3, h4, rfl⟩ := h
  have hrow : w.heap[g]? = some (.cells cs 5 f) := rowx_lit.1 hr.1
  refine ⟨_, c, rfl, h1, h2, fun _ => ⟨g, 0, rfl, trivial, fun j b hj => ?_⟩⟩
  have h5 : (flat encB l)[j]? = some (u8v b) := by
    rw [flatB]
    simp [u8s, hj]
  have h6 := Vec.take_ okB (by rw [Nat.mul_one]; exact h4) h5
  unfold World.cell?
  rw [hrow]
  simpa using h6
theorem sub_take7 {A : Option Addr} {n c j : Nat} : subv 1 (.slice A n c) 0 j = .slice A j c := by
  show Value.slice (if c = 0 then A else A.map (·.add (0 * 1))) (j - 0) (c - 0) = _
  cases A <;> simp [Addr.add]
theorem rd8_cut7 {e : Value} {l r : List UInt8} {k : Nat} (hk : k ≤ l.length) (hr : l.take k = r) : Rd8 (Vec 5 1 encB e l) (subv 1 e 0 k) r := fun rs w h1 h2 => by
  subst hr
  obtain ⟨A, c, rfl, hb⟩ := vec_sl8 h1 h2
  rw [sub_take7]
  exact ⟨A, c, by rw [List.length_take, Nat.min_eq_left hk], hb.take hk⟩
end Go.Proofs.Ytfiojppagmnpcaa.Sep

namespace Go.Proofs.Ytfiojppagmnpcaa.Sep
open Go.RowKit
open Go.Proofs.Ytfiojppagmnpcaa.Mem (Dist Blk Chg below0)

set_option maxRecDepth 100000 in
theorem known7_true (w : World)  : Calls Try.prog 9 #[] w fun e w' => e = .returned (.bool true) ∧ Below w.heap.size w w' := by
  refine d_in (args := []) 55 Try.func9 rfl rfl rfl ?_
  refine d_reg ?_
  refine h_q hflS rfl ?_
  refine h_done (d_reg ?_)
  refine h_q hflS rfl ?_
  refine h_act (post := fun p => [DiskT p kd0]) rfl (a_does (os' := fun p => [DiskT p kd0]) [] 0 (ent_of Try.func8 (by kernel_rfl) rfl) (disk_new 9 (by decide)) rfl rfl rfl (fun _ => rfl) rfl rfl rfl) ?_; rintro p
  refine h_q hflS rfl ?_
  refine h_done (d_seq (d_reg ?_))
  refine h_q hflS rfl ?_
  refine h_val rfl (.bool false) (fun b w hb hH => exec_cmp rfl rfl rfl (cmp_neq_f (by decide)) hb) ?_
  refine h_q hflS rfl ?_
  refine h_val rfl (.bool false) (fun b w hb hH => exec_pnil_eql (by kernel_rfl) rfl rfl rfl hb) ?_
  refine h_q hflS rfl ?_
  refine h_done (d_else rfl (d_skip (f_to (d_reg ?_))))
  refine h_q hflS rfl ?_
  refine h_act (X := Value) (val := fun v : Value => v) (post := fun b1 => [Vec 5 1 encB b1 ([120, 121, 122]), DiskT p kd0]) rfl (by exact a_build3 sl_uint8 120 121 122 rfl rfl rfl rfl) ?_; rintro b1
  refine h_act (post := fun _ => [LitT 5 b1 ([120, 121, 122]), DiskT p kd0]) rfl (a_lit 0 Try.underlying28 Try.underlying5 rfl (by simp) rfl rfl) ?_; rintro ⟨⟩
  refine h_act (post := fun _ => [LitT 5 b1 ([120, 121, 122]), DiskT p kd1]) rfl (a_does (os' := fun _ => [LitT 5 b1 ([120, 121, 122]), DiskT p kd1]) [1, 0] 0 (ent_of Try.func10 (by kernel_rfl) rfl) (disk_append kfit0 (by decide) rd8_lit kn1) rfl rfl rfl (fun _ => rfl) rfl rfl rfl) ?_; rintro ⟨⟩
  refine h_q hflS rfl ?_
  refine h_done (d_reg ?_)
  refine h_q hflS rfl ?_
  refine h_act (post := fun _ => [LitT 5 b1 ([120, 121, 122]), DiskT p kd2]) rfl (a_does (os' := fun _ => [LitT 5 b1 ([120, 121, 122]), DiskT p kd2]) [1] 0 (ent_of Try.func11 (by kernel_rfl) rfl) (disk_sync kfit1 kn2) rfl rfl rfl (fun _ => rfl) rfl rfl rfl) ?_; rintro ⟨⟩
  refine h_done (d_reg ?_)
  refine h_q hflS rfl ?_
  refine h_act (X := Value) (val := fun v : Value => v) (post := fun b2 => [Vec 5 1 encB b2 ([49, 50]), LitT 5 b1 ([120, 121, 122]), DiskT p kd2]) rfl (by exact a_build2 sl_uint8 49 50 rfl rfl rfl) ?_; rintro b2
  refine h_act (post := fun _ => [LitT 5 b2 ([49, 50]), LitT 5 b1 ([120, 121, 122]), DiskT p kd2]) rfl (a_lit 0 Try.underlying28 Try.underlying5 rfl (by simp) rfl rfl) ?_; rintro ⟨⟩
  refine h_act (post := fun _ => [LitT 5 b2 ([49, 50]), LitT 5 b1 ([120, 121, 122]), DiskT p kd3]) rfl (a_does (os' := fun _ => [LitT 5 b2 ([49, 50]), LitT 5 b1 ([120, 121, 122]), DiskT p kd3]) [2, 0] 0 (ent_of Try.func10 (by kernel_rfl) rfl) (disk_append kfit2 (by decide) rd8_lit kn3) rfl rfl rfl (fun _ => rfl) rfl rfl rfl) ?_; rintro ⟨⟩
  refine h_q hflS rfl ?_
  refine h_done (d_reg ?_)
  refine h_q hflS rfl ?_
  refine h_act (post := fun _ => [LitT 5 b2 ([49, 50]), LitT 5 b1 ([120, 121, 122]), DiskT p kd4]) rfl (a_does (os' := fun _ => [LitT 5 b2 ([49, 50]), LitT 5 b1 ([120, 121, 122]), DiskT p kd4]) [2] 0 (ent_of Try.func12 (by kernel_rfl) rfl) (disk_remove kfit3 kn4) rfl rfl rfl (fun _ => rfl) rfl rfl rfl) ?_; rintro ⟨⟩
  refine h_done (d_reg ?_)
  refine h_q hflS rfl ?_
  refine h_act (post := fun _ => [LitT 5 b2 ([49, 50]), LitT 5 b1 ([120, 121, 122]), DiskT p kd5]) rfl (a_does (os' := fun _ => [LitT 5 b2 ([49, 50]), LitT 5 b1 ([120, 121, 122]), DiskT p kd5]) [2] 0 (ent_of Try.func13 (by kernel_rfl) rfl) (disk_crash kfit4 (by decide) (by decide) kn5k kn5) rfl rfl rfl (fun _ => rfl) rfl rfl rfl) ?_; rintro ⟨⟩
  refine h_q hflS rfl ?_
  refine h_done (d_reg ?_)
  refine h_q hflS rfl ?_
  refine h_act (post := fun v => [Vec 5 1 encB v ([120, 121, 122, 49, 50]), LitT 5 b2 ([49, 50]), LitT 5 b1 ([120, 121, 122]), DiskT p kd5]) rfl (a_does (os' := fun v => [Vec 5 1 encB v ([120, 121, 122, 49, 50]), LitT 5 b2 ([49, 50]), LitT 5 b1 ([120, 121, 122]), DiskT p kd5]) [2] 0 (ent_of Try.func14 (by kernel_rfl) rfl) (disk_read kfit5 kr5s kr5b) rfl rfl rfl (fun _ => rfl) rfl rfl rfl) ?_; rintro v
  refine h_q hflS rfl ?_
  refine h_done (d_reg ?_)
  refine h_q hflS rfl ?_
  refine h_val rfl (.bool true) (fun b w hb hH => exec_cmp rfl rfl rfl (cmp_eql_t (by decide)) hb) ?_
  refine h_q hflS rfl ?_
  refine h_val rfl (.bool true) (fun b w hb hH => exec_cmp rfl rfl rfl (cmp_eql_t (by decide)) hb) ?_
  refine h_q hflS rfl ?_
  refine h_val rfl (.bool true) (fun b w hb hH => exec_cmp rfl rfl rfl (cmp_eql_t (by decide)) hb) ?_
  refine h_q hflS rfl ?_
  refine h_val rfl (.string (bs ([120, 121, 122, 49, 50]))) (fun b w hb hH => exec_str8 Try.underlying28 Try.underlying5 (by kernel_rfl) Try.underlying9 (hH.sl8 0 rfl) rfl rfl hb) ?_
  refine h_val rfl (.bool true) (fun b w hb hH => exec_same rfl rfl rfl (by decide) hb) ?_
  refine h_q hflS rfl ?_
  refine h_done ?_
  refine WC2.keep (env' := [(0, .bool true)]) ⟨rfl, trivial⟩ ?_
  refine d_ret ?_
  exact f_fin1 (.tmp rfl) (fun w h => ⟨rfl, below0 h.up⟩) rfl
end Go.Proofs.Ytfiojppagmnpcaa.Sep

namespace Go.Proofs.Ytfiojppagmnpcaa.Sep
open Go.RowKit
open Go.Proofs.Ytfiojppagmnpcaa.Mem (Dist Blk Chg below0)

theorem app_one {p : Nat} {n b : List UInt8} {room : Int} {s : Option (List UInt8)} {ps : List (List UInt8)} {fu : Option Nat} {X : Ass} {v : Value} (hn : nameB n = true) (hf : fu ≠ some 0) (hr : ((s.getD []).length : Int) + (ps.flatten.length : Int) + (b.length : Int) ≤ room) (hro : room ≤ 1048576) (hl : ps.length ≤ 10000) (hX : Rd8 X v b) : Does Try.prog 10 #[.pointer (some ⟨p, 0, none⟩), .string (bs n), v] [DiskT p (oneD n room s ps fu), X] (fun _ : Unit => .int .i64 0) (fun _ => [DiskT p (oneD n room s (ps ++ [b]) (fu.map (· - 1))), X]) :=
  disk_append (e := 0) (oneD_fit' (by omega) hl) (by omega) hX (oneD_append hn hf hr)
theorem prt_rd8m {te : TypeId} {v : Value} {l : List PtT} {y : PtT} {j : Nat} (hj : l[j]? = some y) : Rd8 (PartsT te v l) y.1 y.2 := prt_rd8 (u := y.1) (d := y.2) hj

set_option maxRecDepth 100000 in
theorem disksynced_true (w : World) (v1 : Value) (l1 : List PtV) (hv1 : PtsRd w v1 l1) (hl1 : l1.length ≤ 9223372036854775807) (hd1 : ∀ x, x ∈ l1 → x.d.length ≤ 140737488351232) (v2 : Value) (l2 : List PtV) (hv2 : PtsRd w v2 l2) (hl2 : l2.length ≤ 9223372036854775807) (hd2 : ∀ x, x ∈ l2 → x.d.length ≤ 140737488351232) (keep torn : Int) (hk : -9223372036854775808 ≤ keep ∧ keep ≤ 9223372036854775807) (ht : -9223372036854775808 ≤ torn ∧ torn ≤ 9223372036854775807) : Calls Try.prog 4 #[v1, v2, .int .i64 keep, .int .i64 torn] w fun e w' => e = .returned (.bool true) ∧ Below w.heap.size w w' := by
  refine d_in (args := [v1, v2, .int .i64 keep, .int .i64 torn]) 144 Try.func4 rfl rfl rfl ?_
  refine d_reg ?_
  refine h_q hflS rfl ?_
  refine h_done (d_reg ?_)
  refine h_q hflS rfl ?_
  refine h_act (post := fun p => [DiskT p (newD 1048576)]) rfl (a_does (os' := fun p => [DiskT p (newD 1048576)]) [] 0 (ent_of Try.func8 (by kernel_rfl) rfl) (disk_new 1048576 (by decide)) rfl rfl rfl (fun _ => rfl) rfl rfl rfl) ?_; rintro p
  refine h_q hflS rfl ?_
  refine h_done (d_seq (d_reg ?_))
  refine h_q hflS rfl ?_
  refine h_act (post := fun _ => [DiskT p (newD 1048576)]) rfl (a_call (ent_of Try.func9 (by kernel_rfl) rfl) (fun w hH => known7_true w) rfl rfl rfl) ?_; rintro ⟨⟩
  refine h_q hflS rfl ?_
  refine h_val rfl (.bool false) (fun b w hb hH => exec_cmp rfl rfl rfl (cmp_neq_f (by decide)) hb) ?_
  refine h_q hflS rfl ?_
  refine h_val rfl (.bool false) (fun b w hb hH => exec_pnil_eql (by kernel_rfl) rfl rfl rfl hb) ?_
  refine h_q hflS rfl ?_
  refine h_done (d_else rfl (d_skip (f_to (d_reg ?_))))
  refine h_q hflS rfl ?_
  refine h_act (post := fun (x1 : PsV) => [PartsT 28 x1.v x1.l, fact (x1.l.map (·.2) = ((l1.map (·.d)).take 30).map (·.take 2000)), DiskT p (newD 1048576)]) rfl (a_doesU (Below.refl _ _) (fun _ h => h.elim) (os' := fun (x1 : PsV) => [PartsT 28 x1.v x1.l, fact (x1.l.map (·.2) = ((l1.map (·.d)).take 30).map (·.take 2000)), DiskT p (newD 1048576)]) [] 0 (ent_of Try.func19 (by kernel_rfl) rfl) (short_does w v1 l1 hv1 hl1 hd1 30 2000 (by decide) (by decide)) rfl rfl rfl (fun _ => rfl) rfl rfl rfl) ?_; rintro x1
  refine WL2.fact 1 rfl (fun _ h => h.2) ?_; rintro hx1
  refine WL2.leave [1] rfl rfl ?_
  have hs1 := short_of hx1
  obtain ⟨P1, hP1⟩ : ∃ P, x1.l.map (·.2) = P := ⟨_, rfl⟩
  rw [hP1] at hs1
  have hf1 := hs1.flat
  have hn1 : P1.length = x1.l.length := by rw [← hP1, List.length_map]
  refine h_q hflS rfl ?_
  refine h_done (d_reg ?_)
  refine h_q hflS rfl ?_
  refine h_act (post := fun (x2 : PsV) => [PartsT 28 x2.v x2.l, fact (x2.l.map (·.2) = ((l2.map (·.d)).take 30).map (·.take 2000)), PartsT 28 x1.v x1.l, DiskT p (newD 1048576)]) rfl (a_doesU (Below.refl _ _) (fun _ h => h.elim) (os' := fun (x2 : PsV) => [PartsT 28 x2.v x2.l, fact (x2.l.map (·.2) = ((l2.map (·.d)).take 30).map (·.take 2000)), PartsT 28 x1.v x1.l, DiskT p (newD 1048576)]) [] 0 (ent_of Try.func19 (by kernel_rfl) rfl) (short_does w v2 l2 hv2 hl2 hd2 30 2000 (by decide) (by decide)) rfl rfl rfl (fun _ => rfl) rfl rfl rfl) ?_; rintro x2
  refine WL2.fact 1 rfl (fun _ h => h.2) ?_; rintro hx2
  refine WL2.leave [1] rfl rfl ?_
  have hs2 := short_of hx2
  obtain ⟨P2, hP2⟩ : ∃ P, x2.l.map (·.2) = P := ⟨_, rfl⟩
  rw [hP2] at hs2
  have hf2 := hs2.flat
  have hn2 : P2.length = x2.l.length := by rw [← hP2, List.length_map]
  refine h_q hflS rfl ?_
  refine h_done (d_reg ?_)
  refine h_q hflS rfl ?_
  refine h_done (d_seq (d_reg ?_))
  refine h_q hflS rfl ?_
  refine h_done (d_block ?_)
  refine d_loop (α := Nat × List (List UInt8)) (fun ⟨i0, ps0⟩ => [(2, .int .i64 keep), (3, .int .i64 torn), (8, .bool false), (9, .pointer (some ⟨p, 0, none⟩)), (0, x1.v), (1, x2.v), (11, .string (bs ps0.flatten)), (12, .int .i64 ((i0 : Nat) : Int))]) (fun ⟨i0, ps0⟩ => [PartsT 28 x2.v x2.l, PartsT 28 x1.v x1.l, DiskT p (oneD [97] 1048576 none ps0 none)]) (fun ⟨i0, ps0⟩ => i0 ≤ x1.l.length ∧ ps0 = P1.take i0) (fun ⟨i0, ps0⟩ => x1.l.length - i0) (0, []) ⟨Nat.zero_le _, rfl⟩ ⟨rfl, rfl, rfl, rfl, rfl, rfl, rfl, rfl, trivial⟩ rfl ?_
  rintro ⟨i0, ps0⟩ hI
  refine WC2.at_ (env' := [(2, .int .i64 keep), (3, .int .i64 torn), (8, .bool false), (9, .pointer (some ⟨p, 0, none⟩)), (0, x1.v), (1, x2.v), (11, .string (bs ps0.flatten)), (12, .int .i64 ((i0 : Nat) : Int))]) (rs' := [PartsT 28 x2.v x2.l, PartsT 28 x1.v x1.l, DiskT p (oneD [97] 1048576 none ps0 none)]) ⟨rfl, rfl, rfl, rfl, rfl, rfl, rfl, rfl, trivial⟩ rfl ?_
  have hI1 : i0 ≤ x1.l.length := hI.1
  have hI2 : ps0 = P1.take i0 := hI.2
  have hsp := hs1.take i0
  rw [← hI2] at hsp
  have hfp := hsp.flat
  have hlp := hsp.1
  refine d_seq ?_
  have hc : i0 < x1.l.length ∨ x1.l.length ≤ i0 := by omega
  rcases hc with hi | hi
  · skip
    obtain ⟨y0, hy0⟩ : ∃ y, x1.l[i0]? = some y := ⟨_, List.getElem?_eq_getElem hi⟩
    have hyP : P1[i0]? = some y0.2 := by rw [← hP1, List.getElem?_map, hy0]; rfl
    have hyl := hs1.2 _ (List.mem_of_getElem? hyP)
    have hi30 : i0 < 30 := by have := hs1.1; omega
    refine d_reg ?_
    refine h_q hflS rfl ?_
    refine h_val rfl (.int .i64 (x1.l.length : Int)) (fun b w hb hH => e_plen 1 Try.underlying38 rfl rfl rfl hH hb) ?_
    refine h_val rfl (.bool true) (fun b w hb hH => exec_cmp rfl rfl rfl (cmp_lss_t (by omega)) hb) ?_
    refine h_q hflS rfl ?_
    refine h_val rfl (.bool true) (fun b w hb hH => exec_cmp rfl rfl rfl (cmp_lss_t (by have := hs1.1; omega)) hb) ?_
    refine h_q hflS rfl ?_
    refine h_done (d_then rfl (d_skip (f_to (d_seq (d_block (d_reg ?_))))))
    refine h_q hflS rfl ?_
    refine h_val rfl (elp x1.v (i0 * 1)) (fun b w hb hH => e_pidx 1 sl_s_uint8 rfl i0 hi rfl rfl rfl hH hb) ?_
    refine h_val rfl (y0.1) (fun b w hb hH => e_pload 1 ty_s_uint8 rfl i0 hy0 rfl rfl hH hb) ?_
    refine h_act (post := fun _ => [PartsT 28 x2.v x2.l, PartsT 28 x1.v x1.l, DiskT p (oneD [97] 1048576 none (ps0 ++ [y0.2]) none)]) rfl (a_does (os' := fun _ => [PartsT 28 x2.v x2.l, PartsT 28 x1.v x1.l, DiskT p (oneD [97] 1048576 none (ps0 ++ [y0.2]) none)]) [2, 1] 0 (ent_of Try.func10 (by kernel_rfl) rfl) (app_one (by decide) (by simp) (by simp only [Option.getD_none, List.length_nil]; omega) (by decide) (by omega) (prt_rd8m hy0)) rfl rfl rfl (fun _ => rfl) rfl rfl rfl) ?_; rintro ⟨⟩
    refine h_done (d_reg1 ?_)
    refine h_q hflS rfl ?_
    refine h_val rfl (elp x1.v (i0 * 1)) (fun b w hb hH => e_pidx 1 sl_s_uint8 rfl i0 hi rfl rfl rfl hH hb) ?_
    refine h_val rfl (y0.1) (fun b w hb hH => e_pload 1 ty_s_uint8 rfl i0 hy0 rfl rfl hH hb) ?_
    refine h_val rfl (.string (bs y0.2)) (fun b w hb hH => exec_str8 Try.underlying28 Try.underlying5 (by kernel_rfl) Try.underlying9 (hH.rd8 1 rfl (prt_rd8m hy0)) rfl rfl hb) ?_
    refine h_val rfl (.string (bs ((ps0 ++ [y0.2]).flatten))) (fun b w hb hH => exec_catR (r := (ps0 ++ [y0.2]).flatten) (by simp) (by omega) rfl rfl rfl hb) ?_
    refine h_q hflS rfl ?_
    refine h_nil (f_block (f_to (d_reg1 ?_)))
    refine h_q hflS rfl ?_
    refine h_val rfl (.int .i64 ((i0 + 1 : Nat) : Int)) (fun b w hb hH => exec_ar rfl rfl rfl rfl (by rw [IntWalk.i64_in _ (by omega)]; omega) hb) ?_
    refine h_q hflS rfl ?_
    refine h_nil ?_
    exact f_again (i0 + 1, ps0 ++ [y0.2]) 0 ⟨hi, by rw [hI2]; exact take_push hyP⟩ (show x1.l.length - (i0 + 1) < x1.l.length - i0 by omega) ⟨rfl, rfl, rfl, rfl, rfl, rfl, rfl, rfl, trivial⟩ rfl
  · skip
    have hps : ps0 = P1 := by rw [hI2, List.take_of_length_le (by omega)]
    clear hI hI2
    subst hps
    refine d_reg ?_
    refine h_q hflS rfl ?_
    refine h_val rfl (.int .i64 (x1.l.length : Int)) (fun b w hb hH => e_plen 1 Try.underlying38 rfl rfl rfl hH hb) ?_
    refine h_val rfl (.bool false) (fun b w hb hH => exec_cmp rfl rfl rfl (cmp_lss_f (by omega)) hb) ?_
    refine h_q hflS rfl ?_
    refine h_done (d_else rfl (d_exit (f_then_exit (f_then_exit (f_block_exit (f_to ?_))))))
    refine d_nilvec 5 1 encB ?_
    refine d_reg ?_
    refine h_q hflS rfl ?_
    refine h_act (post := fun _ => [Vec 5 1 encB (.slice none 0 0) ([]), PartsT 28 x2.v x2.l, PartsT 28 x1.v x1.l, DiskT p (oneD [97] 1048576 none (ps0 ++ [[]]) none)]) rfl (a_does (os' := fun _ => [Vec 5 1 encB (.slice none 0 0) ([]), PartsT 28 x2.v x2.l, PartsT 28 x1.v x1.l, DiskT p (oneD [97] 1048576 none (ps0 ++ [[]]) none)]) [3, 0] 0 (ent_of Try.func10 (by kernel_rfl) rfl) (app_one (b := []) (by decide) (by simp) (by simp only [Option.getD_none, List.length_nil]; omega) (by decide) (by omega) rd8_vec) rfl rfl rfl (fun _ => rfl) rfl rfl rfl) ?_; rintro ⟨⟩
    refine h_done (d_seq (d_reg ?_))
    refine h_q hflS rfl ?_
    refine h_act (post := fun _ => [Vec 5 1 encB (.slice none 0 0) ([]), PartsT 28 x2.v x2.l, PartsT 28 x1.v x1.l, DiskT p (oneD [97] 1048576 (some ps0.flatten) ([]) none)]) rfl (a_does (os' := fun _ => [Vec 5 1 encB (.slice none 0 0) ([]), PartsT 28 x2.v x2.l, PartsT 28 x1.v x1.l, DiskT p (oneD [97] 1048576 (some ps0.flatten) ([]) none)]) [3] 0 (ent_of Try.func11 (by kernel_rfl) rfl) (disk_sync (oneD_fit' (by simp only [Option.getD_none, List.length_nil, List.flatten_append, List.length_append, List.flatten_cons, List.flatten_nil]; omega) (by simp only [List.length_append, List.length_cons, List.length_nil]; omega)) sync_one) rfl rfl rfl (fun _ => rfl) rfl rfl rfl) ?_; rintro ⟨⟩
    refine h_val rfl (.bool false) (fun b w hb hH => exec_cmp rfl rfl rfl (cmp_neq_f (by decide)) hb) ?_
    refine h_done (d_else rfl (d_skip (f_to (d_reg ?_))))
    refine h_q hflS rfl ?_
    refine h_done (d_seq (d_reg ?_))
    refine h_q hflS rfl ?_
    refine h_done (d_block ?_)
    refine d_loop (α := Nat × List (List UInt8)) (fun ⟨i1, ps1⟩ => [(2, .int .i64 keep), (3, .int .i64 torn), (8, .bool false), (9, .pointer (some ⟨p, 0, none⟩)), (1, x2.v), (11, .string (bs ps0.flatten)), (13, .string (bs ps1.flatten)), (14, .int .i64 ((i1 : Nat) : Int))]) (fun ⟨i1, ps1⟩ => [Vec 5 1 encB (.slice none 0 0) ([]), PartsT 28 x2.v x2.l, PartsT 28 x1.v x1.l, DiskT p (oneD [97] 1048576 (some ps0.flatten) ps1 none)]) (fun ⟨i1, ps1⟩ => i1 ≤ x2.l.length ∧ ps1 = P2.take i1) (fun ⟨i1, ps1⟩ => x2.l.length - i1) (0, []) ⟨Nat.zero_le _, rfl⟩ ⟨rfl, rfl, rfl, rfl, rfl, rfl, rfl, rfl, trivial⟩ rfl ?_
    rintro ⟨i1, ps1⟩ hI
    refine WC2.at_ (env' := [(2, .int .i64 keep), (3, .int .i64 torn), (8, .bool false), (9, .pointer (some ⟨p, 0, none⟩)), (1, x2.v), (11, .string (bs ps0.flatten)), (13, .string (bs ps1.flatten)), (14, .int .i64 ((i1 : Nat) : Int))]) (rs' := [Vec 5 1 encB (.slice none 0 0) ([]), PartsT 28 x2.v x2.l, PartsT 28 x1.v x1.l, DiskT p (oneD [97] 1048576 (some ps0.flatten) ps1 none)]) ⟨rfl, rfl, rfl, rfl, rfl, rfl, rfl, rfl, trivial⟩ rfl ?_
    have hI1 : i1 ≤ x2.l.length := hI.1
    have hI2 : ps1 = P2.take i1 := hI.2
    have hsp := hs2.take i1
    rw [← hI2] at hsp
    have hfp := hsp.flat
    have hlp := hsp.1
    refine d_seq ?_
    have hc : i1 < x2.l.length ∨ x2.l.length ≤ i1 := by omega
    rcases hc with hi | hi
    · skip
      obtain ⟨y1, hy1⟩ : ∃ y, x2.l[i1]? = some y := ⟨_, List.getElem?_eq_getElem hi⟩
      have hyP : P2[i1]? = some y1.2 := by rw [← hP2, List.getElem?_map, hy1]; rfl
      have hyl := hs2.2 _ (List.mem_of_getElem? hyP)
      have hi30 : i1 < 30 := by have := hs2.1; omega
      refine d_reg ?_
      refine h_q hflS rfl ?_
      refine h_val rfl (.int .i64 (x2.l.length : Int)) (fun b w hb hH => e_plen 1 Try.underlying38 rfl rfl rfl hH hb) ?_
      refine h_val rfl (.bool true) (fun b w hb hH => exec_cmp rfl rfl rfl (cmp_lss_t (by omega)) hb) ?_
      refine h_q hflS rfl ?_
      refine h_val rfl (.bool true) (fun b w hb hH => exec_cmp rfl rfl rfl (cmp_lss_t (by have := hs2.1; omega)) hb) ?_
      refine h_q hflS rfl ?_
      refine h_done (d_then rfl (d_skip (f_to (d_seq (d_block (d_reg ?_))))))
      refine h_q hflS rfl ?_
      refine h_val rfl (elp x2.v (i1 * 1)) (fun b w hb hH => e_pidx 1 sl_s_uint8 rfl i1 hi rfl rfl rfl hH hb) ?_
      refine h_val rfl (y1.1) (fun b w hb hH => e_pload 1 ty_s_uint8 rfl i1 hy1 rfl rfl hH hb) ?_
      refine h_act (post := fun _ => [Vec 5 1 encB (.slice none 0 0) ([]), PartsT 28 x2.v x2.l, PartsT 28 x1.v x1.l, DiskT p (oneD [97] 1048576 (some ps0.flatten) (ps1 ++ [y1.2]) none)]) rfl (a_does (os' := fun _ => [Vec 5 1 encB (.slice none 0 0) ([]), PartsT 28 x2.v x2.l, PartsT 28 x1.v x1.l, DiskT p (oneD [97] 1048576 (some ps0.flatten) (ps1 ++ [y1.2]) none)]) [3, 1] 0 (ent_of Try.func10 (by kernel_rfl) rfl) (app_one (by decide) (by simp) (by simp only [Option.getD_some]; omega) (by decide) (by omega) (prt_rd8m hy1)) rfl rfl rfl (fun _ => rfl) rfl rfl rfl) ?_; rintro ⟨⟩
      refine h_done (d_reg1 ?_)
      refine h_q hflS rfl ?_
      refine h_val rfl (elp x2.v (i1 * 1)) (fun b w hb hH => e_pidx 1 sl_s_uint8 rfl i1 hi rfl rfl rfl hH hb) ?_
      refine h_val rfl (y1.1) (fun b w hb hH => e_pload 1 ty_s_uint8 rfl i1 hy1 rfl rfl hH hb) ?_
      refine h_val rfl (.string (bs y1.2)) (fun b w hb hH => exec_str8 Try.underlying28 Try.underlying5 (by kernel_rfl) Try.underlying9 (hH.rd8 1 rfl (prt_rd8m hy1)) rfl rfl hb) ?_
      refine h_val rfl (.string (bs ((ps1 ++ [y1.2]).flatten))) (fun b w hb hH => exec_catR (r := (ps1 ++ [y1.2]).flatten) (by simp) (by omega) rfl rfl rfl hb) ?_
      refine h_q hflS rfl ?_
      refine h_nil (f_block (f_to (d_reg1 ?_)))
      refine h_q hflS rfl ?_
      refine h_val rfl (.int .i64 ((i1 + 1 : Nat) : Int)) (fun b w hb hH => exec_ar rfl rfl rfl rfl (by rw [IntWalk.i64_in _ (by omega)]; omega) hb) ?_
      refine h_q hflS rfl ?_
      refine h_nil ?_
      exact f_again (i1 + 1, ps1 ++ [y1.2]) 0 ⟨hi, by rw [hI2]; exact take_push hyP⟩ (show x2.l.length - (i1 + 1) < x2.l.length - i1 by omega) ⟨rfl, rfl, rfl, rfl, rfl, rfl, rfl, rfl, trivial⟩ rfl
    · skip
      have hps : ps1 = P2 := by rw [hI2, List.take_of_length_le (by omega)]
      clear hI hI2
      subst hps
      refine d_reg ?_
      refine h_q hflS rfl ?_
      refine h_val rfl (.int .i64 (x2.l.length : Int)) (fun b w hb hH => e_plen 1 Try.underlying38 rfl rfl rfl hH hb) ?_
      refine h_val rfl (.bool false) (fun b w hb hH => exec_cmp rfl rfl rfl (cmp_lss_f (by omega)) hb) ?_
      refine h_q hflS rfl ?_
      refine h_done (d_else rfl (d_exit (f_then_exit (f_then_exit (f_block_exit (f_to ?_))))))
      obtain ⟨m, hm, hcr⟩ := crash_some (n := [97]) (x := ps0.flatten) (room := 1048576) (ps := ps1) (fu := none) keep torn
      have hlW : (ps0.flatten ++ ps1.flatten.take m).length = ps0.flatten.length + m := by rw [List.length_append, List.length_take, Nat.min_eq_left hm]
      refine d_reg ?_
      refine h_q hflS rfl ?_
      refine h_act (post := fun _ => [Vec 5 1 encB (.slice none 0 0) ([]), PartsT 28 x2.v x2.l, PartsT 28 x1.v x1.l, DiskT p (oneD [97] 1048576 (some (ps0.flatten ++ ps1.flatten.take m)) ([]) none)]) rfl (a_does (os' := fun _ => [Vec 5 1 encB (.slice none 0 0) ([]), PartsT 28 x2.v x2.l, PartsT 28 x1.v x1.l, DiskT p (oneD [97] 1048576 (some (ps0.flatten ++ ps1.flatten.take m)) ([]) none)]) [3] 0 (ent_of Try.func13 (by kernel_rfl) rfl) (disk_crash (oneD_fit' (by simp only [Option.getD_some]; omega) (by omega)) hk ht rfl hcr) rfl rfl rfl (fun _ => rfl) rfl rfl rfl) ?_; rintro ⟨⟩
      refine h_done (d_reg ?_)
      refine h_q hflS rfl ?_
      refine h_act (post := fun b1 => [Vec 5 1 encB b1 (ps0.flatten ++ ps1.flatten.take m), Vec 5 1 encB (.slice none 0 0) ([]), PartsT 28 x2.v x2.l, PartsT 28 x1.v x1.l, DiskT p (oneD [97] 1048576 (some (ps0.flatten ++ ps1.flatten.take m)) ([]) none)]) rfl (a_does (os' := fun b1 => [Vec 5 1 encB b1 (ps0.flatten ++ ps1.flatten.take m), Vec 5 1 encB (.slice none 0 0) ([]), PartsT 28 x2.v x2.l, PartsT 28 x1.v x1.l, DiskT p (oneD [97] 1048576 (some (ps0.flatten ++ ps1.flatten.take m)) ([]) none)]) [3] 0 (ent_of Try.func14 (by kernel_rfl) rfl) (disk_read (oneD_fit' (by simp only [Option.getD_some, List.flatten_nil, List.length_nil]; omega) (by decide)) read_somes read_someb) rfl rfl rfl (fun _ => rfl) rfl rfl rfl) ?_; rintro b1
      refine h_q hflS rfl ?_
      refine h_done (d_reg ?_)
      refine h_q hflS rfl ?_
      refine h_val rfl (.int .i64 ((ps0.flatten ++ ps1.flatten.take m).length : Int)) (fun b w hb hH => e_vlen 0 Try.underlying28 rfl rfl rfl hH hb) ?_
      refine h_q hflS rfl ?_
      refine h_val rfl (.int .i64 (ps0.flatten.length : Int)) (fun b w hb hH => exec_builtin2 rfl rfl (fun cs => (fun w cs => run_len_bs Try.underlying9 _ _ w cs) w cs) hb) ?_
      refine h_val rfl (.int .i64 (m : Int)) (fun b w hb hH => exec_ar rfl rfl rfl rfl (by rw [hlW, IntWalk.i64_in _ (by omega)]; omega) hb) ?_
      refine h_q hflS rfl ?_
      refine h_done (d_seq (d_seq ?_))
      refine d_parS 27 1 [⟨.quiet, [none], fun _ => .bool true, []⟩, ⟨.quiet, [none], fun _ => .bool false, [0]⟩, ⟨.quiet, [none], fun _ => .bool false, [1]⟩, ⟨.quiet, [none], fun _ => .int .i64 (m : Int), [2]⟩, ⟨.quiet, [none], fun _ => .bool false, [3, 2]⟩, ⟨.quiet, [none], fun _ => .bool false, [2, 4]⟩, ⟨.quiet, [none], fun _ => .bool false, [5]⟩, ⟨.quiet, [none], fun _ => .int .i64 (m : Int), [6]⟩, ⟨.quiet, [none], fun _ => .string (bs ps1.flatten), [6]⟩, ⟨.quiet, [none], fun _ => .int .i64 (ps1.flatten.length : Int), [8, 6]⟩, ⟨.quiet, [none], fun _ => .bool false, [7, 9, 6]⟩, ⟨.quiet, [none], fun _ => .bool false, [6, 10]⟩, ⟨.quiet, [none], fun _ => .bool false, [11]⟩, ⟨.quiet, [none], fun _ => b1, [12]⟩, ⟨.quiet, [none], fun _ => .string (bs (ps0.flatten ++ ps1.flatten.take m)), [13, 12]⟩, ⟨.quiet, [none], fun _ => .string (bs ps0.flatten), [12]⟩, ⟨.quiet, [none], fun _ => .string (bs ps1.flatten), [12]⟩, ⟨.quiet, [none], fun _ => .int .i64 (m : Int), [12]⟩, ⟨.quiet, [none], fun _ => .string (bs (ps1.flatten.take m)), [16, 17, 12]⟩, ⟨.quiet, [none], fun _ => .string (bs (ps0.flatten ++ ps1.flatten.take m)), [15, 18, 12]⟩, ⟨.quiet, [none], fun _ => .bool false, [14, 19, 12]⟩, ⟨.quiet, [none], fun _ => .bool false, [12, 20]⟩, ⟨.quiet, [none], fun _ => .bool false, [21]⟩, ⟨.quiet, [none], fun _ => .pointer (some ⟨p, 0, none⟩), [22]⟩, ⟨.actv 0, [some false], fun _ => .int .i64 0, [23, 22]⟩, ⟨.quiet, [some true], fun _ => .bool false, [24, 22]⟩, ⟨.quiet, [some true], fun _ => .bool false, [22, 25]⟩] [(2, .int .i64 keep), (3, .int .i64 torn), (8, .bool false), (9, .pointer (some ⟨p, 0, none⟩)), (11, .string (bs ps0.flatten)), (13, .string (bs ps1.flatten)), (15, b1), (16, .bool true), (17, .int .i64 (m : Int))] (fun ρ => match ρ with | [r0] => [Vec 5 1 encB b1 (ps0.flatten ++ ps1.flatten.take m), Vec 5 1 encB (.slice none 0 0) ([]), PartsT 28 x2.v x2.l, PartsT 28 x1.v x1.l, DiskT p (oneD [97] 1048576 (some (ps0.flatten ++ ps1.flatten.take m)) ([]) none)] | _ => []) (by kernel_rfl) (by kernel_rfl) ⟨rfl, rfl, rfl, rfl, rfl, rfl, rfl, rfl, rfl, trivial⟩ rfl ?_ ?_
      · skip
        refine s_cons (by intro r0_; exact ⟨rfl, fun b w hH hb => exec_q1 hflS rfl hb⟩) ?_
        refine s_cons (by intro r0_; exact ⟨rfl, fun b w hH hb => exec_q1 hflS rfl hb⟩) ?_
        refine s_cons (by intro r0_; exact ⟨rfl, fun b w hH hb => exec_q1 hflS rfl hb⟩) ?_
        refine s_cons (by intro r0_; exact ⟨rfl, fun b w hH hb => exec_q1 hflS rfl hb⟩) ?_
        refine s_cons (by intro r0_; exact ⟨rfl, fun b w hH hb => exec_cmp rfl rfl rfl (cmp_lss_f (by omega)) hb⟩) ?_
        refine s_cons (by intro r0_; exact ⟨rfl, fun b w hH hb => exec_q1 hflS rfl hb⟩) ?_
        refine s_cons (by intro r0_; exact ⟨rfl, fun b w hH hb => exec_q1 hflS rfl hb⟩) ?_
        refine s_cons (by intro r0_; exact ⟨rfl, fun b w hH hb => exec_q1 hflS rfl hb⟩) ?_
        refine s_cons (by intro r0_; exact ⟨rfl, fun b w hH hb => exec_q1 hflS rfl hb⟩) ?_
        refine s_cons (by intro r0_; exact ⟨rfl, fun b w hH hb => exec_builtin2 rfl rfl (fun cs => (fun w cs => run_len_bs Try.underlying9 _ _ w cs) w cs) hb⟩) ?_
        refine s_cons (by intro r0_; exact ⟨rfl, fun b w hH hb => exec_cmp rfl rfl rfl (cmp_gtr_f (by omega)) hb⟩) ?_
        refine s_cons (by intro r0_; exact ⟨rfl, fun b w hH hb => exec_q1 hflS rfl hb⟩) ?_
        refine s_cons (by intro r0_; exact ⟨rfl, fun b w hH hb => exec_q1 hflS rfl hb⟩) ?_
        refine s_cons (by intro r0_; exact ⟨rfl, fun b w hH hb => exec_q1 hflS rfl hb⟩) ?_
        refine s_cons (by intro r0_; exact ⟨rfl, fun b w hH hb => exec_str8 Try.underlying28 Try.underlying5 (by kernel_rfl) Try.underlying9 (hH.sl8 0 rfl) rfl rfl hb⟩) ?_
        refine s_cons (by intro r0_; exact ⟨rfl, fun b w hH hb => exec_q1 hflS rfl hb⟩) ?_
        refine s_cons (by intro r0_; exact ⟨rfl, fun b w hH hb => exec_q1 hflS rfl hb⟩) ?_
        refine s_cons (by intro r0_; exact ⟨rfl, fun b w hH hb => exec_q1 hflS rfl hb⟩) ?_
        refine s_cons (by intro r0_; exact ⟨rfl, fun b w hH hb => exec_cutR (i := 0) (j := m) (r := ps1.flatten.take m) Try.underlying9 rfl (Nat.zero_le _) hm rfl rfl rfl ⟨_, rfl⟩ hb⟩) ?_
        refine s_cons (by intro r0_; exact ⟨rfl, fun b w hH hb => exec_catR (r := ps0.flatten ++ ps1.flatten.take m) rfl (by rw [List.length_append] at hlW; omega) rfl rfl rfl hb⟩) ?_
        refine s_cons (by intro r0_; exact ⟨rfl, fun b w hH hb => exec_diff (by simp) rfl rfl rfl hb⟩) ?_
        refine s_cons (by intro r0_; exact ⟨rfl, fun b w hH hb => exec_q1 hflS rfl hb⟩) ?_
        refine s_cons (by intro r0_; exact ⟨rfl, fun b w hH hb => exec_q1 hflS rfl hb⟩) ?_
        refine s_cons (by intro r0_; exact ⟨rfl, fun b w hH hb => exec_q1 hflS rfl hb⟩) ?_
        refine s_cons (by exact ⟨rfl, Acts.su (a_does (os' := fun _ => [Vec 5 1 encB b1 (ps0.flatten ++ ps1.flatten.take m), Vec 5 1 encB (.slice none 0 0) ([]), PartsT 28 x2.v x2.l, PartsT 28 x1.v x1.l, DiskT p (oneD [97] 1048576 (some (ps0.flatten ++ ps1.flatten.take m)) ([]) none)]) [4] 0 (ent_of Try.func18 (by kernel_rfl) rfl) (disk_pending rfl) rfl rfl rfl (fun _ => rfl) rfl rfl rfl) rfl⟩) ?_
        refine s_cons (by intro v0_; exact ⟨rfl, fun b w hH hb => exec_cmp rfl rfl rfl (cmp_neq_f (by decide)) hb⟩) ?_
        refine s_cons (by intro v0_; exact ⟨rfl, fun b w hH hb => exec_q1 hflS rfl hb⟩) ?_
        exact s_nil
      intro v0_
      refine WL2.keep (env' := [(2, .int .i64 keep), (3, .int .i64 torn), (8, .bool false), (9, .pointer (some ⟨p, 0, none⟩)), (15, b1), (129, .bool false)]) ⟨rfl, rfl, rfl, rfl, rfl, rfl, trivial⟩ ?_
      refine h_nil (f_to (d_else rfl (d_skip (f_to (d_reg ?_)))))
      refine h_q hflS rfl ?_
      refine h_act (post := fun _ => [Vec 5 1 encB b1 (ps0.flatten ++ ps1.flatten.take m), Vec 5 1 encB (.slice none 0 0) ([]), PartsT 28 x2.v x2.l, PartsT 28 x1.v x1.l, DiskT p (oneD [97] 1048576 (some (ps0.flatten ++ ps1.flatten.take m)) ([]) none)]) rfl (a_does (os' := fun _ => [Vec 5 1 encB b1 (ps0.flatten ++ ps1.flatten.take m), Vec 5 1 encB (.slice none 0 0) ([]), PartsT 28 x2.v x2.l, PartsT 28 x1.v x1.l, DiskT p (oneD [97] 1048576 (some (ps0.flatten ++ ps1.flatten.take m)) ([]) none)]) [4] 0 (ent_of Try.func13 (by kernel_rfl) rfl) (disk_crash (oneD_fit' (by simp only [Option.getD_some, List.flatten_nil, List.length_nil]; omega) (by decide)) ht hk rfl crash_same) rfl rfl rfl (fun _ => rfl) rfl rfl rfl) ?_; rintro ⟨⟩
      refine h_done (d_reg ?_)
      refine h_q hflS rfl ?_
      refine h_act (post := fun b2 => [Vec 5 1 encB b2 (ps0.flatten ++ ps1.flatten.take m), Vec 5 1 encB b1 (ps0.flatten ++ ps1.flatten.take m), Vec 5 1 encB (.slice none 0 0) ([]), PartsT 28 x2.v x2.l, PartsT 28 x1.v x1.l, DiskT p (oneD [97] 1048576 (some (ps0.flatten ++ ps1.flatten.take m)) ([]) none)]) rfl (a_does (os' := fun b2 => [Vec 5 1 encB b2 (ps0.flatten ++ ps1.flatten.take m), Vec 5 1 encB b1 (ps0.flatten ++ ps1.flatten.take m), Vec 5 1 encB (.slice none 0 0) ([]), PartsT 28 x2.v x2.l, PartsT 28 x1.v x1.l, DiskT p (oneD [97] 1048576 (some (ps0.flatten ++ ps1.flatten.take m)) ([]) none)]) [4] 0 (ent_of Try.func14 (by kernel_rfl) rfl) (disk_read (oneD_fit' (by simp only [Option.getD_some, List.flatten_nil, List.length_nil]; omega) (by decide)) read_somes read_someb) rfl rfl rfl (fun _ => rfl) rfl rfl rfl) ?_; rintro b2
      refine h_q hflS rfl ?_
      refine h_done (d_reg ?_)
      refine h_q hflS rfl ?_
      refine h_val rfl (.string (bs (ps0.flatten ++ ps1.flatten.take m))) (fun b w hb hH => exec_str8 Try.underlying28 Try.underlying5 (by kernel_rfl) Try.underlying9 (hH.sl8 0 rfl) rfl rfl hb) ?_
      refine h_q hflS rfl ?_
      refine h_val rfl (.string (bs (ps0.flatten ++ ps1.flatten.take m))) (fun b w hb hH => exec_str8 Try.underlying28 Try.underlying5 (by kernel_rfl) Try.underlying9 (hH.sl8 1 rfl) rfl rfl hb) ?_
      refine h_val rfl (.bool true) (fun b w hb hH => exec_same rfl rfl rfl (by simp) hb) ?_
      refine h_q hflS rfl ?_
      refine h_done (d_ret ?_)
      exact f_fin1 (.tmp rfl) (fun w h => ⟨rfl, below0 h.up⟩) rfl
end Go.Proofs.Ytfiojppagmnpcaa.Sep
