/-
  PlainD
-/
import Derived.Test.YtmamedobphlpkaaGreatDoorB04
import Derived.Test.YtmamedobphlpkaaGreatDoorB10
import Derived.Shelf.Strings.Search1
set_option linter.unusedSimpArgs false
set_option linter.unusedVariables false

namespace Go.Proofs.YtmamedobphlpkaaGreatDoor
open Go.RowKit Go.Shelf

def renIb : Ren := ⟨fun x => if x = 217 then 106 else if x = 266 then 122 else x,
  fun x => if x = 3 then 3 else if x = 5 then 5 else if x = 9 then 9 else x,
  fun x => x⟩
theorem laysIb : Lays.n217 Tryz.prog renIb := {
  mixed := by kernel_rfl
  f217 := by kernel_rfl
  f266 := by kernel_rfl
  t3 := Tryz.underlying3
  a3 := Tryz.isAgg3
  z3 := Tryz.sizeOf3
  v3 := Tryz.zeroValue3
  t5 := Tryz.underlying5
  a5 := Tryz.isAgg5
  z5 := Tryz.sizeOf5
  v5 := Tryz.zeroValue5
  t9 := Tryz.underlying9
  a9 := Tryz.isAgg9
  z9 := Tryz.sizeOf9
  v9 := Tryz.zeroValue9 }

theorem ne_dec (l : List UInt8) (ha : allD l) : (!(l == [])) = decide (l ≠ [] ∧ allD l) := by
  by_cases h : l = []
  · rw [beq_iff_eq.2 h, decide_eq_false (fun hh => hh.1 h)]; rfl
  · rw [beq_false_of_ne h, decide_eq_true ⟨h, ha⟩]; rfl
theorem neS (l m : List UInt8) : NeAt Tryz.prog 9 (.string (bs l)) (.string (bs m)) (!(l == m)) := fun x y w => by
  simp [eqGuard, binOp, Op.stringOp, bs_list, bne]

theorem plainD_any (w : World) (l : List UInt8) (hlen : l.length ≤ 9223372036854775807) : Calls Tryz.prog 33 #[.string (bs l)] w fun e w' => e = .returned (.bool (decide (l ≠ [] ∧ allD l))) ∧ Below w.heap.size w w' := by
  refine d_in (args := [.string (bs l)]) 22 Tryz.func33 rfl rfl rfl ?_
  refine d_reg ?_
  refine h_q hfl rfl ?_
  refine h_done (d_seq (d_reg ?_))
  refine h_q hfl rfl ?_
  refine h_builtin (v := .int .i64 (l.length : Int)) (fun w cs => run_len_bs Tryz.underlying9 _ _ w cs) rfl rfl rfl ?_
  refine h_q hfl rfl ?_
  refine h_done (d_block ?_)
  refine d_loop (α := Nat) (fun i => [(0, .string (bs l)), (2, .bool false), (5, .int .i64 (l.length : Int)), (6, .int .i64 (i : Int))]) (fun i => []) (fun i => i ≤ l.length ∧ allD (l.take i)) (fun i => l.length - i) 0 ⟨by omega, by simp [allD]⟩ ⟨rfl, rfl, rfl, rfl, trivial⟩ rfl ?_
  rintro i ⟨hi, ha⟩
  refine WC2.at_ (env' := [(0, .string (bs l)), (2, .bool false), (5, .int .i64 (l.length : Int)), (6, .int .i64 (i : Int))]) (rs' := []) ⟨rfl, rfl, rfl, rfl, trivial⟩ rfl ?_
  by_cases hil : i < l.length
  · skip
    obtain ⟨ch, hch⟩ : ∃ ch, l[i]? = some ch := ⟨_, List.getElem?_eq_getElem hil⟩
    refine d_reg ?_
    refine h_cmp (cmp_lss_t (by omega)) rfl rfl rfl rfl ?_
    refine h_done (d_seq (d_then rfl (d_skip (f_to (d_seq (d_block (d_reg ?_)))))))
    refine h_q hfl rfl ?_
    refine h_done ?_
    rcases dig_ways ch with hw | hw | hw
    · skip
      have hno : ¬ (l ≠ [] ∧ allD l) := fun hp => not_allD hch (by unfold isD; omega) hp.2
      refine d_reg ?_
      refine h_q hfl rfl ?_
      refine h_val rfl (.int .u8 (ch.toNat : Int)) (fun b w hb hH => by exact exec_index (i := i) Tryz.underlying9 hch rfl rfl rfl hb) ?_
      refine h_cmp (cmp_lss_t (by omega)) rfl rfl rfl rfl ?_
      refine h_q hfl rfl ?_
      refine h_done (d_then rfl (d_reg ?_))
      refine h_q hfl rfl ?_
      refine h_done (d_ret (f_block_ret (f_then_ret (f_then_ret (f_block_ret (f_then_ret ?_))))))
      exact f_fin1 (.tmp rfl) (fun w h => ⟨by rw [decide_eq_false hno], h.up.below⟩) rfl
    · skip
      have hno : ¬ (l ≠ [] ∧ allD l) := fun hp => not_allD hch (by unfold isD; omega) hp.2
      refine d_reg ?_
      refine h_q hfl rfl ?_
      refine h_val rfl (.int .u8 (ch.toNat : Int)) (fun b w hb hH => by exact exec_index (i := i) Tryz.underlying9 hch rfl rfl rfl hb) ?_
      refine h_cmp (cmp_lss_f (by omega)) rfl rfl rfl rfl ?_
      refine h_q hfl rfl ?_
      refine h_val rfl (.int .u8 (ch.toNat : Int)) (fun b w hb hH => by exact exec_index (i := i) Tryz.underlying9 hch rfl rfl rfl hb) ?_
      refine h_cmp (cmp_gtr_t (by omega)) rfl rfl rfl rfl ?_
      refine h_q hfl rfl ?_
      refine h_done (d_then rfl (d_reg ?_))
      refine h_q hfl rfl ?_
      refine h_done (d_ret (f_block_ret (f_then_ret (f_then_ret (f_block_ret (f_then_ret ?_))))))
      exact f_fin1 (.tmp rfl) (fun w h => ⟨by rw [decide_eq_false hno], h.up.below⟩) rfl
    · skip
      refine d_reg ?_
      refine h_q hfl rfl ?_
      refine h_val rfl (.int .u8 (ch.toNat : Int)) (fun b w hb hH => by exact exec_index (i := i) Tryz.underlying9 hch rfl rfl rfl hb) ?_
      refine h_cmp (cmp_lss_f (by unfold isD at hw; omega)) rfl rfl rfl rfl ?_
      refine h_q hfl rfl ?_
      refine h_val rfl (.int .u8 (ch.toNat : Int)) (fun b w hb hH => by exact exec_index (i := i) Tryz.underlying9 hch rfl rfl rfl hb) ?_
      refine h_cmp (cmp_gtr_f (by unfold isD at hw; omega)) rfl rfl rfl rfl ?_
      refine h_q hfl rfl ?_
      refine h_done (d_else rfl (d_skip (f_block (f_to (d_reg1 ?_)))))
      refine h_ar (z' := ((i + 1 : Nat) : Int)) (by rw [IntWalk.i64_in _ (by omega)]; omega) rfl rfl rfl rfl rfl ?_
      refine h_q hfl rfl ?_
      refine h_nil ?_
      exact f_again (i + 1) 0 ⟨by omega, allD_step hch ha hw⟩ (by omega) ⟨rfl, rfl, rfl, rfl, trivial⟩ rfl
  · skip
    have hall : allD l := take_all hil ▸ ha
    refine d_reg ?_
    refine h_cmp (cmp_lss_f (by omega)) rfl rfl rfl rfl ?_
    refine h_done (d_seq (d_else rfl (d_exit (f_then_exit (f_then_exit (f_block_exit (f_to (d_reg ?_))))))))
    refine h_q hfl rfl ?_
    refine h_nes (neS l []) rfl rfl rfl rfl ?_
    refine h_q hfl rfl ?_
    refine h_done (d_ret ?_)
    exact f_fin1 (.tmp rfl) (fun w h => ⟨by rw [← ne_dec l hall], h.up.below⟩) rfl

theorem indexN (w : World) (l : List UInt8) : Calls Tryz.prog 106 #[.string (bs l), .int .u8 ((46 : UInt8).toNat : Int)] w fun e w' => e = .returned (.int .i64 (Lib.indexByte l 46)) ∧ Below w.heap.size w w' := by
  have := as_same' (Any.stringslite_IndexByte laysIb (bs l) ((46 : UInt8).toNat : Int) w)
  rw [bs_data] at this
  exact this
theorem idx_no {l : List UInt8} (h : ∀ b ∈ l, b ≠ 46) : Lib.indexByte l 46 = -1 := by
  induction l with
  | nil => rfl
  | cons b r ih =>
    have hb : (b == 46) = false := beq_false_of_ne (h b (by simp))
    rw [Lib.indexByte, hb, ih fun x hx => h x (by simp [hx])]
    rfl
theorem idx_yes {p q : List UInt8} (h : ∀ b ∈ p, b ≠ 46) : Lib.indexByte (p ++ 46 :: q) 46 = (p.length : Int) := by
  induction p with
  | nil => simp [Lib.indexByte]
  | cons b r ih =>
    have hb : (b == 46) = false := beq_false_of_ne (h b (by simp))
    have e := ih fun x hx => h x (by simp [hx])
    rw [List.cons_append, Lib.indexByte, hb, e]
    have : ((r.length : Int) == -1) = false := beq_false_of_ne (by omega)
    simp [this]

theorem index_one (w : World) (l : List UInt8) (h : l = [46]) : Calls Tryz.prog 92 #[.string (bs l), .string (bs ([46]))] w fun e w' => e = .returned (.int .i64 (Lib.indexByte l 46)) ∧ Below w.heap.size w w' := by
  refine d_in (args := [.string (bs l), .string (bs ([46]))]) 143 Tryz.func92 rfl rfl rfl ?_
  refine d_reg ?_
  refine h_q hfl rfl ?_
  refine h_done (d_reg ?_)
  refine h_q hfl rfl ?_
  refine h_builtin (v := .int .i64 1) (fun w cs => (run_len_bs Tryz.underlying9 _ _ w cs).trans (by rw [show (([46] : List UInt8).length : Int) = 1 from rfl])) rfl rfl rfl ?_
  refine h_q hfl rfl ?_
  refine h_done (d_seq (d_block (d_reg ?_)))
  refine h_q hfl rfl ?_
  refine h_cmp (cmp_eql_f (by decide)) rfl rfl rfl rfl ?_
  refine h_q hfl rfl ?_
  refine h_same (beq_iff_eq.2 h.symm) rfl rfl rfl rfl ?_
  refine h_q hfl rfl ?_
  refine h_done (d_then rfl (d_reg ?_))
  refine h_q hfl rfl ?_
  refine h_done (d_ret (f_block_ret (f_then_ret ?_)))
  exact f_fin1 (.tmp rfl) (fun w h_ => ⟨by rw [h]; rfl, h_.up.below⟩) rfl

theorem index_more (w : World) (l : List UInt8) (h : l ≠ [46]) : Calls Tryz.prog 92 #[.string (bs l), .string (bs ([46]))] w fun e w' => e = .returned (.int .i64 (Lib.indexByte l 46)) ∧ Below w.heap.size w w' := by
  refine d_in (args := [.string (bs l), .string (bs ([46]))]) 143 Tryz.func92 rfl rfl rfl ?_
  refine d_reg ?_
  refine h_q hfl rfl ?_
  refine h_done (d_reg ?_)
  refine h_q hfl rfl ?_
  refine h_builtin (v := .int .i64 1) (fun w cs => (run_len_bs Tryz.underlying9 _ _ w cs).trans (by rw [show (([46] : List UInt8).length : Int) = 1 from rfl])) rfl rfl rfl ?_
  refine h_q hfl rfl ?_
  refine h_done (d_seq (d_block (d_reg ?_)))
  refine h_q hfl rfl ?_
  refine h_cmp (cmp_eql_f (by decide)) rfl rfl rfl rfl ?_
  refine h_q hfl rfl ?_
  refine h_same (beq_false_of_ne fun e => h e.symm) rfl rfl rfl rfl ?_
  refine h_q hfl rfl ?_
  refine h_done (d_else rfl (d_reg ?_))
  refine h_q hfl rfl ?_
  refine h_cmp (cmp_eql_t (by decide)) rfl rfl rfl rfl ?_
  refine h_q hfl rfl ?_
  refine h_done (d_then rfl (d_reg ?_))
  refine h_q hfl rfl ?_
  refine h_val rfl (.int .u8 ((46 : UInt8).toNat : Int)) (fun b w hb hH => by exact exec_index (i := 0) Tryz.underlying9 rfl rfl rfl rfl hb) ?_
  refine h_call (ent_of Tryz.func106 (by kernel_rfl) rfl) (fun w hH => indexN _ l) rfl rfl rfl rfl ?_
  refine h_q hfl rfl ?_
  refine h_done (d_ret (f_block_ret (f_then_ret ?_)))
  exact f_fin1 (.tmp rfl) (fun w h => ⟨rfl, h.up.below⟩) rfl

theorem indexL (w : World) (l : List UInt8) {z : Int} (h : Lib.indexByte l 46 = z) : Calls Tryz.prog 92 #[.string (bs l), .string (bs [46])] w fun e w' => e = .returned (.int .i64 z) ∧ Below w.heap.size w w' := by
  rw [← h]
  by_cases h1 : l = [46]
  · exact index_one w l h1
  · exact index_more w l h1

theorem cutP_no (w : World) (l : List UInt8) (h : ∀ b ∈ l, b ≠ 46) : Calls Tryz.prog 59 #[.string (bs l), .string (bs ([46]))] w fun e w' => e = .returned (.tuple #[.string (bs l), .string (bs []), .bool false]) ∧ Below w.heap.size w w' := by
  refine d_in (args := [.string (bs l), .string (bs ([46]))]) 23 Tryz.func59 rfl rfl rfl ?_
  refine d_reg ?_
  refine h_q hfl rfl ?_
  refine h_done (d_seq (d_reg ?_))
  refine h_q hfl rfl ?_
  refine h_call (ent_of Tryz.func92 (by kernel_rfl) rfl) (fun w hH => indexL _ l (idx_no h)) rfl rfl rfl rfl ?_
  refine h_q hfl rfl ?_
  refine h_done (d_reg ?_)
  refine h_q hfl rfl ?_
  refine h_cmp (cmp_geq_f (by decide)) rfl rfl rfl rfl ?_
  refine h_done (d_else rfl (d_skip (f_to (d_reg ?_))))
  refine h_q hfl rfl ?_
  refine h_done (d_ret ?_)
  exact f_fin3 (.tmp rfl) (.tmp rfl) (.tmp rfl) (fun w h_ => ⟨rfl, h_.up.below⟩) rfl

theorem cutP_yes (w : World) (p q : List UInt8) (h : ∀ b ∈ p, b ≠ 46) (hlen : (p ++ 46 :: q).length ≤ 9223372036854775807) : Calls Tryz.prog 59 #[.string (bs (p ++ 46 :: q)), .string (bs ([46]))] w fun e w' => e = .returned (.tuple #[.string (bs p), .string (bs q), .bool true]) ∧ Below w.heap.size w w' := by
  have hl : (p ++ 46 :: q).length = p.length + (q.length + 1) := by simp
  refine d_in (args := [.string (bs (p ++ 46 :: q)), .string (bs ([46]))]) 23 Tryz.func59 rfl rfl rfl ?_
  refine d_reg ?_
  refine h_q hfl rfl ?_
  refine h_done (d_seq (d_reg ?_))
  refine h_q hfl rfl ?_
  refine h_call (ent_of Tryz.func92 (by kernel_rfl) rfl) (fun w hH => indexL _ (p ++ 46 :: q) (idx_yes h)) rfl rfl rfl rfl ?_
  refine h_q hfl rfl ?_
  refine h_done (d_reg ?_)
  refine h_q hfl rfl ?_
  refine h_cmp (cmp_geq_t (by omega)) rfl rfl rfl rfl ?_
  refine h_done (d_then rfl (d_seq ?_))
  refine d_par 12 0 [⟨.quiet, 0, fun _ => .string (bs (p ++ 46 :: q)), []⟩, ⟨.quiet, 0, fun _ => .int .i64 (p.length : Int), []⟩, ⟨.quiet, 0, fun _ => .string (bs p), [0, 1]⟩, ⟨.quiet, 0, fun _ => .string (bs (p ++ 46 :: q)), []⟩, ⟨.quiet, 0, fun _ => .int .i64 (p.length : Int), []⟩, ⟨.quiet, 0, fun _ => .string (bs ([46])), []⟩, ⟨.quiet, 0, fun _ => .int .i64 1, [5]⟩, ⟨.quiet, 0, fun _ => .int .i64 ((p.length + 1 : Nat) : Int), [4, 6]⟩, ⟨.quiet, 0, fun _ => .string (bs q), [3, 7]⟩, ⟨.quiet, 0, fun _ => .string (bs p), [2]⟩, ⟨.quiet, 0, fun _ => .string (bs q), [8]⟩, ⟨.quiet, 0, fun _ => .bool true, []⟩] [(0, .string (bs (p ++ 46 :: q))), (1, .string (bs ([46]))), (7, .int .i64 (p.length : Int))] (by kernel_rfl) (by kernel_rfl) ⟨rfl, rfl, rfl, trivial⟩ ?_ ?_
  · skip
    refine o_cons (o_q hfl (fun _ _ => rfl) (fun _ _ => rfl)) ?_
    refine o_cons (o_q hfl (fun _ _ => rfl) (fun _ _ => rfl)) ?_
    refine o_cons (o_cut (i := 0) (j := p.length) (r := p) Tryz.underlying9 (by simp) (by omega) (by omega) (fun _ _ => rfl) rfl (fun _ _ => rfl) (fun _ _ => rfl) (fun _ _ => ⟨_, rfl⟩)) ?_
    refine o_cons (o_q hfl (fun _ _ => rfl) (fun _ _ => rfl)) ?_
    refine o_cons (o_q hfl (fun _ _ => rfl) (fun _ _ => rfl)) ?_
    refine o_cons (o_q hfl (fun _ _ => rfl) (fun _ _ => rfl)) ?_
    refine o_cons (o_builtin (fun w cs => (run_len_bs Tryz.underlying9 _ _ w cs).trans (by rw [show (([46] : List UInt8).length : Int) = 1 from rfl])) (fun _ _ => rfl) rfl (fun _ _ => rfl)) ?_
    refine o_cons (o_ar (by rw [IntWalk.i64_in _ (by omega)]; omega) (fun _ _ => rfl) rfl (fun _ _ => rfl) (fun _ _ => rfl) rfl) ?_
    refine o_cons (o_cut (i := (p.length + 1)) (j := (p ++ 46 :: q).length) (r := q) Tryz.underlying9 (by rw [List.take_length]; simp [List.drop_append]) (by omega) (Nat.le_refl _) (fun _ _ => rfl) rfl (fun _ _ => rfl) (fun _ _ => ⟨_, rfl⟩) (fun _ _ => rfl)) ?_
    refine o_cons (o_q hfl (fun _ _ => rfl) (fun _ _ => rfl)) ?_
    refine o_cons (o_q hfl (fun _ _ => rfl) (fun _ _ => rfl)) ?_
    refine o_cons (o_q hfl (fun _ _ => rfl) (fun _ _ => rfl)) ?_
    exact o_nil
  intro σ1 gs1
  refine WL2.keep (env' := [(0, .string (bs (p ++ 46 :: q))), (4, .string (bs p)), (5, .string (bs q)), (6, .bool true)]) ⟨rfl, rfl, rfl, rfl, trivial⟩ ?_
  refine h_nil (f_to (d_ret (f_then_ret ?_)))
  exact f_fin3 (.tmp rfl) (.tmp rfl) (.tmp rfl) (fun w h_ => ⟨rfl, h_.up.below⟩) rfl

theorem cutD_no (w : World) (l : List UInt8) (h : ∀ b ∈ l, b ≠ 46) : Calls Tryz.prog 32 #[.string (bs l), .string (bs ([46]))] w fun e w' => e = .returned (.tuple #[.string (bs l), .string (bs []), .bool false]) ∧ Below w.heap.size w w' := by
  refine d_in (args := [.string (bs l), .string (bs ([46]))]) 13 Tryz.func32 rfl rfl rfl ?_
  refine d_reg ?_
  refine h_q hfl rfl ?_
  refine h_done (d_reg ?_)
  refine h_q hfl rfl ?_
  refine h_call (ent_of Tryz.func59 (by kernel_rfl) rfl) (fun w hH => cutP_no _ l h) rfl rfl rfl rfl ?_
  refine h_q hfl rfl ?_
  refine h_done (d_ret ?_)
  exact f_fin3 (.tmp rfl) (.tmp rfl) (.tmp rfl) (fun w h_ => ⟨rfl, h_.up.below⟩) rfl

theorem cutD_yes (w : World) (p q : List UInt8) (h : ∀ b ∈ p, b ≠ 46) (hlen : (p ++ 46 :: q).length ≤ 9223372036854775807) : Calls Tryz.prog 32 #[.string (bs (p ++ 46 :: q)), .string (bs ([46]))] w fun e w' => e = .returned (.tuple #[.string (bs p), .string (bs q), .bool true]) ∧ Below w.heap.size w w' := by
  refine d_in (args := [.string (bs (p ++ 46 :: q)), .string (bs ([46]))]) 13 Tryz.func32 rfl rfl rfl ?_
  refine d_reg ?_
  refine h_q hfl rfl ?_
  refine h_done (d_reg ?_)
  refine h_q hfl rfl ?_
  refine h_call (ent_of Tryz.func59 (by kernel_rfl) rfl) (fun w hH => cutP_yes _ p q h hlen) rfl rfl rfl rfl ?_
  refine h_q hfl rfl ?_
  refine h_done (d_ret ?_)
  exact f_fin3 (.tmp rfl) (.tmp rfl) (.tmp rfl) (fun w h_ => ⟨rfl, h_.up.below⟩) rfl

/-- without the noughts ahead -/
def dropZ : List UInt8 → List UInt8
  | [] => []
  | b :: r => if b.toNat = 48 then dropZ r else b :: r
theorem dropZ_drop {l : List UInt8} {i : Nat} {b : UInt8} (h : l[i]? = some b) (e : b.toNat = 48) : dropZ (l.drop i) = dropZ (l.drop (i + 1)) := by
  have hi : i < l.length := (List.getElem?_eq_some_iff.1 h).1
  rw [List.drop_eq_getElem_cons hi]
  have : l[i] = b := by have := List.getElem?_eq_getElem hi; rw [this] at h; exact Option.some.inj h
  rw [dropZ, this, if_pos e]
theorem dropZ_stop {l : List UInt8} {i : Nat} {b : UInt8} (h : l[i]? = some b) (e : b.toNat ≠ 48) : dropZ (l.drop i) = l.drop i := by
  have hi : i < l.length := (List.getElem?_eq_some_iff.1 h).1
  have : l[i] = b := by have := List.getElem?_eq_getElem hi; rw [this] at h; exact Option.some.inj h
  rw [List.drop_eq_getElem_cons hi, dropZ, this, if_neg e]
theorem drop_get (l : List UInt8) (i : Nat) {b : UInt8} (h : l[i]? = some b) : (l.drop i)[0]? = some b := by rw [List.getElem?_drop]; exact h
theorem trim_ways (l : List UInt8) (i : Nat) : (∃ ch, l[i]? = some ch ∧ ch.toNat = 48) ∨ (∃ ch, l[i]? = some ch ∧ ch.toNat ≠ 48) ∨ ¬ i < l.length := by
  by_cases h : i < l.length
  · by_cases hc : (l[i]).toNat = 48
    · exact .inl ⟨_, List.getElem?_eq_getElem h, hc⟩
    · exact .inr (.inl ⟨_, List.getElem?_eq_getElem h, hc⟩)
  · exact .inr (.inr h)

theorem trimB (w : World) (l : List UInt8) : Calls Tryz.prog 60 #[.string (bs l), .int .u8 ((48 : UInt8).toNat : Int)] w fun e w' => e = .returned (.string (bs (dropZ l))) ∧ Below w.heap.size w w' := by
  refine d_in (args := [.string (bs l), .int .u8 ((48 : UInt8).toNat : Int)]) 17 Tryz.func60 rfl rfl rfl ?_
  refine d_reg ?_
  refine h_q hfl rfl ?_
  refine h_done (d_seq (d_block ?_))
  refine d_loop (α := Nat) (fun i => [(0, .string (bs (l.drop i))), (1, .int .u8 ((48 : UInt8).toNat : Int)), (4, .string (bs ([])))]) (fun i => []) (fun i => i ≤ l.length ∧ dropZ l = dropZ (l.drop i)) (fun i => l.length - i) 0 ⟨by omega, rfl⟩ ⟨rfl, rfl, rfl, trivial⟩ rfl ?_
  rintro i ⟨hi, hz⟩
  refine WC2.at_ (env' := [(0, .string (bs (l.drop i))), (1, .int .u8 ((48 : UInt8).toNat : Int)), (4, .string (bs ([])))]) (rs' := []) ⟨rfl, rfl, rfl, trivial⟩ rfl ?_
  refine d_seq ?_
  rcases (show (∃ ch, l[i]? = some ch ∧ ch.toNat = 48) ∨ (∃ ch, l[i]? = some ch ∧ ch.toNat ≠ 48) ∨ ¬ i < l.length from trim_ways l i) with ⟨ch, hch, hc⟩ | ⟨ch, hch, hc⟩ | hil
  · skip
    have hil : i < l.length := (List.getElem?_eq_some_iff.1 hch).1
    refine d_reg ?_
    refine h_q hfl rfl ?_
    refine h_builtin (v := .int .i64 ((l.drop i).length : Int)) (fun w cs => run_len_bs Tryz.underlying9 _ _ w cs) rfl rfl rfl ?_
    refine h_cmp (cmp_gtr_t (by rw [List.length_drop]; omega)) rfl rfl rfl rfl ?_
    refine h_q hfl rfl ?_
    refine h_val rfl (.int .u8 (ch.toNat : Int)) (fun b w hb hH => by exact exec_index (i := 0) Tryz.underlying9 (drop_get l i hch) rfl rfl rfl hb) ?_
    refine h_q hfl rfl ?_
    refine h_cmp (cmp_eql_t (by rw [hc]; rfl)) rfl rfl rfl rfl ?_
    refine h_q hfl rfl ?_
    refine h_done (d_then rfl (d_skip (f_to (d_block (d_reg1 ?_)))))
    refine h_q hfl rfl ?_
    refine h_cut (i := 1) (j := (l.drop i).length) (r := l.drop (i + 1)) Tryz.underlying9 (by rw [List.take_length, List.drop_drop]) (by rw [List.length_drop]; omega) (Nat.le_refl _) rfl rfl rfl ⟨_, rfl⟩ rfl ?_
    refine h_q hfl rfl ?_
    refine h_nil (f_block ?_)
    exact f_again (i + 1) 0 ⟨by omega, by rw [hz]; exact dropZ_drop hch hc⟩ (by omega) ⟨rfl, rfl, rfl, trivial⟩ rfl
  · skip
    have hil : i < l.length := (List.getElem?_eq_some_iff.1 hch).1
    refine d_reg ?_
    refine h_q hfl rfl ?_
    refine h_builtin (v := .int .i64 ((l.drop i).length : Int)) (fun w cs => run_len_bs Tryz.underlying9 _ _ w cs) rfl rfl rfl ?_
    refine h_cmp (cmp_gtr_t (by rw [List.length_drop]; omega)) rfl rfl rfl rfl ?_
    refine h_q hfl rfl ?_
    refine h_val rfl (.int .u8 (ch.toNat : Int)) (fun b w hb hH => by exact exec_index (i := 0) Tryz.underlying9 (drop_get l i hch) rfl rfl rfl hb) ?_
    refine h_q hfl rfl ?_
    refine h_cmp (cmp_eql_f (fun e => hc (Int.ofNat.inj e))) rfl rfl rfl rfl ?_
    refine h_q hfl rfl ?_
    refine h_done (d_else rfl (d_exit (f_then_exit (f_then_exit (f_block_exit (f_to (d_reg ?_)))))))
    refine h_q hfl rfl ?_
    refine h_done (d_ret ?_)
    exact f_fin1 (.tmp rfl) (fun w h => ⟨by rw [hz, dropZ_stop hch hc], h.up.below⟩) rfl
  · skip
    refine d_reg ?_
    refine h_q hfl rfl ?_
    refine h_builtin (v := .int .i64 ((l.drop i).length : Int)) (fun w cs => run_len_bs Tryz.underlying9 _ _ w cs) rfl rfl rfl ?_
    refine h_cmp (cmp_gtr_f (by rw [List.length_drop]; omega)) rfl rfl rfl rfl ?_
    refine h_q hfl rfl ?_
    refine h_done (d_else rfl (d_exit (f_then_exit (f_then_exit (f_block_exit (f_to (d_reg ?_)))))))
    refine h_q hfl rfl ?_
    refine h_done (d_ret ?_)
    exact f_fin1 (.tmp rfl) (fun w h => ⟨by rw [hz, List.drop_eq_nil_of_le (by omega)]; rfl, h.up.below⟩) rfl

theorem trimL_nil (w : World) (l : List UInt8) (h : l = []) : Calls Tryz.prog 35 #[.string (bs l), .string (bs ([48]))] w fun e w' => e = .returned (.string (bs (dropZ l))) ∧ Below w.heap.size w w' := by
  refine d_in (args := [.string (bs l), .string (bs ([48]))]) 37 Tryz.func35 rfl rfl rfl ?_
  refine d_reg ?_
  refine h_q hfl rfl ?_
  refine h_done (d_seq (d_reg ?_))
  refine h_q hfl rfl ?_
  refine h_same (beq_iff_eq.2 h) rfl rfl rfl rfl ?_
  refine h_q hfl rfl ?_
  refine h_done (d_then rfl (d_reg ?_))
  refine h_q hfl rfl ?_
  refine h_done (d_ret (f_then_ret ?_))
  exact f_fin1 (.tmp rfl) (fun w h_ => ⟨by rw [h]; rfl, h_.up.below⟩) rfl

theorem trimL_any0 (w : World) (l : List UInt8) (h : l ≠ []) : Calls Tryz.prog 35 #[.string (bs l), .string (bs ([48]))] w fun e w' => e = .returned (.string (bs (dropZ l))) ∧ Below w.heap.size w w' := by
  refine d_in (args := [.string (bs l), .string (bs ([48]))]) 37 Tryz.func35 rfl rfl rfl ?_
  refine d_reg ?_
  refine h_q hfl rfl ?_
  refine h_done (d_seq (d_reg ?_))
  refine h_q hfl rfl ?_
  refine h_same (beq_false_of_ne h) rfl rfl rfl rfl ?_
  refine h_q hfl rfl ?_
  refine h_same rfl rfl rfl rfl rfl ?_
  refine h_q hfl rfl ?_
  refine h_done (d_else rfl (d_skip (f_to (d_seq (d_reg ?_)))))
  refine h_q hfl rfl ?_
  refine h_builtin (v := .int .i64 1) (fun w cs => (run_len_bs Tryz.underlying9 _ _ w cs).trans (by rw [show (([48] : List UInt8).length : Int) = 1 from rfl])) rfl rfl rfl ?_
  refine h_cmp (cmp_eql_t (by decide)) rfl rfl rfl rfl ?_
  refine h_q hfl rfl ?_
  refine h_val rfl (.int .u8 ((48 : UInt8).toNat : Int)) (fun b w hb hH => by exact exec_index (i := 0) Tryz.underlying9 rfl rfl rfl rfl hb) ?_
  refine h_cmp (cmp_lss_t (by decide)) rfl rfl rfl rfl ?_
  refine h_q hfl rfl ?_
  refine h_done (d_then rfl (d_reg ?_))
  refine h_q hfl rfl ?_
  refine h_val rfl (.int .u8 ((48 : UInt8).toNat : Int)) (fun b w hb hH => by exact exec_index (i := 0) Tryz.underlying9 rfl rfl rfl rfl hb) ?_
  refine h_call (ent_of Tryz.func60 (by kernel_rfl) rfl) (fun w hH => trimB _ l) rfl rfl rfl rfl ?_
  refine h_q hfl rfl ?_
  refine h_done (d_ret (f_then_ret ?_))
  exact f_fin1 (.tmp rfl) (fun w h_ => ⟨rfl, h_.up.below⟩) rfl

theorem trimL_any (w : World) (l : List UInt8) : Calls Tryz.prog 35 #[.string (bs l), .string (bs [48])] w fun e w' => e = .returned (.string (bs (dropZ l))) ∧ Below w.heap.size w w' := by
  by_cases h : l = []
  · exact trimL_nil w l h
  · exact trimL_any0 w l h
theorem tyString : OneOf Tryz.prog 9 := oneOf Tryz.underlying9 rfl (by kernel_rfl)
theorem bsTwo : Bs2 Tryz.prog 95 9 := fun u v w => by kernel_rfl
/-- the first that is not empty, of a text and "0" -/
def orZ (l : List UInt8) : List UInt8 := if l = [] then [48] else l
theorem nez {l : List UInt8} (h : l ≠ []) : NeAt Tryz.prog 9 (.string (bs l)) (.string (bs [])) true := by have := neS l []; rwa [beq_false_of_ne h] at this
theorem eqz {l : List UInt8} (h : l = []) : NeAt Tryz.prog 9 (.string (bs l)) (.string (bs [])) false := by have := neS l []; rwa [beq_iff_eq.2 h] at this

theorem orS_any (w : World) (g : Nat) (a : List UInt8) (hg : g < w.heap.size) (ha : w.cell? ⟨g, 0, none⟩ = some (.string (bs a))) (hb1 : w.cell? ⟨g, 0 + 1, none⟩ = some (.string (bs [48]))) : Calls Tryz.prog 34 #[.slice (some ⟨g, 0, none⟩) 2 2] w fun e w' => e = .returned (.string (bs (orZ a))) ∧ Below w.heap.size w w' := by
  refine d_in (args := [.slice (some ⟨g, 0, none⟩) 2 2]) 18 Tryz.func34 rfl rfl rfl ?_
  refine d_reg ?_
  refine h_q hfl rfl ?_
  refine h_done (d_reg ?_)
  refine h_q hfl rfl ?_
  refine h_done (d_seq (d_reg ?_))
  refine h_q hfl rfl ?_
  refine h_builtin (v := .int .i64 (2 : Int)) (fun w cs => run_len_slice Tryz.underlying95 _ _ _ _ w cs) rfl rfl rfl ?_
  refine h_q hfl rfl ?_
  refine h_done (d_block ?_)
  refine d_loop (α := Nat) (fun i => [(2, .string (bs ([]))), (3, .string (bs ([]))), (6, .slice (some ⟨g, 0, none⟩) 2 2), (7, .int .i64 (2 : Int)), (8, .int .i64 (i : Int))]) (fun i => []) (fun i => i = 0 ∨ (i = 1 ∧ a = [])) (fun i => 2 - i) 0 (.inl rfl) ⟨rfl, rfl, rfl, rfl, rfl, trivial⟩ rfl ?_
  rintro i hI
  refine WC2.at_ (env' := [(2, .string (bs ([]))), (3, .string (bs ([]))), (6, .slice (some ⟨g, 0, none⟩) 2 2), (7, .int .i64 (2 : Int)), (8, .int .i64 (i : Int))]) (rs' := []) ⟨rfl, rfl, rfl, rfl, rfl, trivial⟩ rfl ?_
  rcases (show (i = 0 ∧ a ≠ []) ∨ (i = 0 ∧ a = []) ∨ (i = 1 ∧ a = []) by rcases hI with h | h; (by_cases ha0 : a = []; exact .inr (.inl ⟨h, ha0⟩); exact .inl ⟨h, ha0⟩); exact .inr (.inr h)) with ⟨hi0, h0⟩ | ⟨hi0, h0⟩ | ⟨hi0, h0⟩
  · skip
    refine d_reg ?_
    refine h_cmp (cmp_lss_t (by omega)) rfl rfl rfl rfl ?_
    refine h_done (d_seq (d_then rfl (d_skip (f_to (d_seq (d_block (d_reg ?_)))))))
    refine h_val rfl (.pointer (some ⟨g, 0 + i, none⟩)) (fun b w hb hH => by exact exec_sidx Tryz.underlying95 tyString rfl (by omega) rfl rfl rfl hb) ?_
    refine h_val rfl (.string (bs a)) (fun b w hb hH => by exact exec_load1 tyString ((hH.up.below.cell (show (⟨g, 0 + i, none⟩ : Addr).block < _ from hg)).trans (by rw [hi0]; exact ha)) rfl rfl hb) ?_
    refine h_q hfl rfl ?_
    refine h_done (d_reg ?_)
    refine h_q hfl rfl ?_
    refine h_nes (nez h0) rfl rfl rfl rfl ?_
    refine h_done (d_then rfl (d_reg ?_))
    refine h_q hfl rfl ?_
    refine h_done (d_ret (f_block_ret (f_then_ret (f_then_ret (f_block_ret (f_then_ret ?_))))))
    exact f_fin1 (.tmp rfl) (fun w h => ⟨by rw [orZ, if_neg h0], h.up.below⟩) rfl
  · skip
    refine d_reg ?_
    refine h_cmp (cmp_lss_t (by omega)) rfl rfl rfl rfl ?_
    refine h_done (d_seq (d_then rfl (d_skip (f_to (d_seq (d_block (d_reg ?_)))))))
    refine h_val rfl (.pointer (some ⟨g, 0 + i, none⟩)) (fun b w hb hH => by exact exec_sidx Tryz.underlying95 tyString rfl (by omega) rfl rfl rfl hb) ?_
    refine h_val rfl (.string (bs a)) (fun b w hb hH => by exact exec_load1 tyString ((hH.up.below.cell (show (⟨g, 0 + i, none⟩ : Addr).block < _ from hg)).trans (by rw [hi0]; exact ha)) rfl rfl hb) ?_
    refine h_q hfl rfl ?_
    refine h_done (d_reg ?_)
    refine h_q hfl rfl ?_
    refine h_nes (eqz h0) rfl rfl rfl rfl ?_
    refine h_done (d_else rfl (d_skip (f_block (f_to (d_reg1 ?_)))))
    refine h_ar (z' := ((1 : Nat) : Int)) (by rw [hi0]; rfl) rfl rfl rfl rfl rfl ?_
    refine h_q hfl rfl ?_
    refine h_nil ?_
    exact f_again 1 0 (.inr ⟨rfl, h0⟩) (by omega) ⟨rfl, rfl, rfl, rfl, rfl, trivial⟩ rfl
  · skip
    refine d_reg ?_
    refine h_cmp (cmp_lss_t (by omega)) rfl rfl rfl rfl ?_
    refine h_done (d_seq (d_then rfl (d_skip (f_to (d_seq (d_block (d_reg ?_)))))))
    refine h_val rfl (.pointer (some ⟨g, 0 + i, none⟩)) (fun b w hb hH => by exact exec_sidx Tryz.underlying95 tyString rfl (by omega) rfl rfl rfl hb) ?_
    refine h_val rfl (.string (bs ([48]))) (fun b w hb hH => by exact exec_load1 tyString ((hH.up.below.cell (show (⟨g, 0 + i, none⟩ : Addr).block < _ from hg)).trans (by rw [hi0]; exact hb1)) rfl rfl hb) ?_
    refine h_q hfl rfl ?_
    refine h_done (d_reg ?_)
    refine h_q hfl rfl ?_
    refine h_nes (nez (by decide)) rfl rfl rfl rfl ?_
    refine h_done (d_then rfl (d_reg ?_))
    refine h_q hfl rfl ?_
    refine h_done (d_ret (f_block_ret (f_then_ret (f_then_ret (f_block_ret (f_then_ret ?_))))))
    exact f_fin1 (.tmp rfl) (fun w h => ⟨by rw [orZ, if_pos h0], h.up.below⟩) rfl
end Go.Proofs.YtmamedobphlpkaaGreatDoor
