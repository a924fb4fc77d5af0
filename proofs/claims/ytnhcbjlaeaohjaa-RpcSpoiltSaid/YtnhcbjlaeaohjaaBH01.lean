/-
  RpcL
-/
import Derived.Test.YtnhcbjlaeaohjaaBG01
set_option linter.unusedSimpArgs false
set_option linter.unusedVariables false

namespace Go.Proofs.Ytnhcbjlaeaohjaa.Sep
open Go.RowKit
open Go.Proofs.Ytnhcbjlaeaohjaa.Mem (Dist Blk Chg below0)

/-- bytes read one by one, whatever they are -/
def eat : Nat → List UInt8 → Nat → List UInt8 × Nat
  | 0, l, f => (l, f)
  | i + 1, l, f => (rbyte 255 (eat i l f).1 (eat i l f).2).2
theorem eat_bad {l : List UInt8} {f : Nat} (hf : f ≠ 0) : ∀ i, eat i l f = (l, f)
  | 0 => rfl
  | i + 1 => by unfold eat; rw [eat_bad hf i]; simp only; rw [rbyte_stays hf]
theorem eat_good {l : List UInt8} : ∀ i, (i ≤ l.length ∧ eat i l 0 = (l.drop i, 0)) ∨ (l.length < i ∧ (eat i l 0).2 = 10)
  | 0 => .inl ⟨Nat.zero_le _, rfl⟩
  | i + 1 => by
    rcases eat_good (l := l) i with ⟨h1, h2⟩ | ⟨h1, h2⟩
    · rcases Nat.lt_or_ge i l.length with h3 | h3
      · obtain ⟨x, hx⟩ : ∃ x, (l.drop i)[0]? = some x := by
          rw [List.getElem?_drop]; exact ⟨_, List.getElem?_eq_getElem (by omega)⟩
        have hb := UInt8.toNat_lt x
        refine .inl ⟨h3, ?_⟩
        unfold eat
        rw [h2]
        simp only
        rw [rbyte_fine rfl hx (by omega)]
        simp [List.drop_drop]
      · refine .inr ⟨by omega, ?_⟩
        unfold eat
        rw [h2]
        simp only
        rw [rbyte_nil rfl (by rw [List.length_drop]; omega)]
    · refine .inr ⟨by omega, ?_⟩
      unfold eat
      rw [rbyte_stays (by omega), h2]
theorem eat_all {l : List UInt8} (h : l.length ≤ 1024) : (eat 1025 l 0).2 = 10 := by
  rcases eat_good (l := l) 1025 with ⟨h1, _⟩ | ⟨_, h2⟩
  · omega
  · exact h2
theorem cmp_eq1 (n : Nat) : cmpB .eql (n : Int) 1 = some (n == 1) := by
  by_cases h : n = 1
  · subst h; rfl
  · have h1 : (n == 1) = false := by simpa using h
    rw [h1]; exact cmp_eql_f (by omega)

set_option maxRecDepth 100000 in
theorem runOut_does (g : Nat) (l : List UInt8) (f : Nat) (R : List UInt8 × Nat) (hR : eat 1025 l f = R) : Does Try.prog 86 #[.pointer (some ⟨g, 0, none⟩)] [RdT g l f] (fun (_ : Unit) => .tuple #[]) (fun (_ : Unit) => [RdT g R.1 R.2]) := by
  refine d_ins (args := [.pointer (some ⟨g, 0, none⟩)]) 7 Try.func86 rfl rfl rfl ?_; intro w rs
  refine d_reg ?_
  refine h_q hflS rfl ?_
  refine h_done (d_block ?_)
  refine d_loop (α := Nat × List UInt8 × Nat) (fun ⟨i, lz, fz⟩ => [(0, .pointer (some ⟨g, 0, none⟩)), (2, .int .i64 ((i : Nat) : Int))]) (fun ⟨i, lz, fz⟩ => [RdT g lz fz]) (fun ⟨i, lz, fz⟩ => i ≤ 1025 ∧ eat i l f = (lz, fz)) (fun ⟨i, lz, fz⟩ => 1025 - i) (0, l, f) ⟨Nat.zero_le _, rfl⟩ ⟨rfl, rfl, trivial⟩ rfl ?_
  rintro ⟨i, lz, fz⟩ hI
  refine WC2.at_ (env' := [(0, .pointer (some ⟨g, 0, none⟩)), (2, .int .i64 ((i : Nat) : Int))]) (rs' := [RdT g lz fz]) ⟨rfl, rfl, trivial⟩ rfl ?_
  have hI1 : i ≤ 1025 := hI.1
  have hI2 : eat i l f = (lz, fz) := hI.2
  rcases Nat.lt_or_ge i 1025 with hi | hi
  · skip
    obtain ⟨x, l2, f2, hx⟩ := byteR 255 lz fz
    refine d_reg ?_
    refine h_q hflS rfl ?_
    refine h_val rfl (.bool true) (fun b w hb hH => exec_cmp rfl rfl rfl (cmp_lss_t (by omega)) hb) ?_
    refine h_done (d_seq (d_then rfl (d_skip (f_to (d_seq (d_block (d_reg1 ?_)))))))
    refine h_q hflS rfl ?_
    refine h_act (post := fun _ => [RdT g l2 f2]) rfl (a_does (os' := fun _ => [RdT g l2 f2]) [0] 0 (ent_of Try.func59 (by kernel_rfl) rfl) (rd_byte g lz fz 255 (by decide) (x.toNat, l2, f2) hx) rfl rfl rfl (fun _ => rfl) rfl rfl rfl) ?_; rintro ⟨⟩
    refine h_nil (f_block (f_to (d_reg1 ?_)))
    refine h_q hflS rfl ?_
    refine h_val rfl (.int .i64 ((i + 1 : Nat) : Int)) (fun b w hb hH => exec_ar rfl rfl rfl rfl (by rw [IntWalk.i64_in _ (by omega)]; omega) hb) ?_
    refine h_q hflS rfl ?_
    refine h_nil ?_
    exact f_again (i + 1, l2, f2) 0 ⟨hi, by unfold eat; rw [hI2]; simp only; rw [hx]⟩ (show 1025 - (i + 1) < 1025 - i by omega) ⟨rfl, rfl, trivial⟩ rfl
  · skip
    obtain rfl : i = 1025 := by omega
    obtain rfl : R = (lz, fz) := hR.symm.trans hI2
    refine d_reg ?_
    refine h_q hflS rfl ?_
    refine h_val rfl (.bool false) (fun b w hb hH => exec_cmp rfl rfl rfl (cmp_lss_f (by omega)) hb) ?_
    refine h_done (d_seq (d_else rfl (d_exit (f_then_exit (f_then_exit (f_block_exit ?_))))))
    exact f_fin0n  (fun w h => tells () rfl [0] rfl h same_parts) rfl

set_option maxRecDepth 100000 in
theorem readBool_does (g : Nat) (l : List UInt8) (f n : Nat) (l' : List UInt8) (f' : Nat) (h : rbyte 1 l f = (n, l', f')) : Does Try.prog 82 #[.pointer (some ⟨g, 0, none⟩)] [RdT g l f] (fun (_ : Unit) => .bool (n == 1)) (fun (_ : Unit) => [RdT g l' f']) := by
  refine d_ins (args := [.pointer (some ⟨g, 0, none⟩)]) 6 Try.func82 rfl rfl rfl ?_; intro w rs
  refine d_reg ?_
  refine h_q hflS rfl ?_
  refine h_done (d_reg ?_)
  refine h_q hflS rfl ?_
  refine h_act (post := fun _ => [RdT g l' f']) rfl (a_does (os' := fun _ => [RdT g l' f']) [0] 0 (ent_of Try.func59 (by kernel_rfl) rfl) (rd_byte g l f 1 (by decide) (n, l', f') h) rfl rfl rfl (fun _ => rfl) rfl rfl rfl) ?_; rintro ⟨⟩
  refine h_val rfl (.bool (n == 1)) (fun b w hb hH => exec_cmp rfl rfl rfl (cmp_eq1 n) hb) ?_
  refine h_q hflS rfl ?_
  refine h_done (d_ret ?_)
  exact f_fin1 (.tmp rfl) (fun w h => tells () rfl [0] rfl h same_parts) rfl

set_option maxRecDepth 100000 in
theorem readBase_does (g : Nat) (l : List UInt8) (f : Nat) (x y z : Int) (l' : List UInt8) (f' : Nat) (h : rbase l f = ((x, y, z), l', f')) : Does Try.prog 83 #[.pointer (some ⟨g, 0, none⟩)] [RdT g l f] (fun (_ : Unit) => .agg #[.int .u64 x, .int .u64 y, .int .i64 z]) (fun (_ : Unit) => [RdT g l' f']) := by
  obtain ⟨⟨n1, l1, f1⟩, h1⟩ : ∃ R, rnum 72057594037927935 l f = R := ⟨_, rfl⟩
  obtain ⟨⟨n2, l2, f2⟩, h2⟩ : ∃ R, rnum 72057594037927935 l1 f1 = R := ⟨_, rfl⟩
  obtain ⟨⟨n3, l3, f3⟩, h3⟩ : ∃ R, rbyte 254 l2 f2 = R := ⟨_, rfl⟩
  have hn3 := rbyte_le 254 l2 f2
  rw [h3] at hn3
  have hn3 : n3 ≤ 254 := hn3
  have e := (rbase_of h1 h2 h3).symm.trans h
  simp only [Prod.mk.injEq] at e
  obtain ⟨⟨rfl, rfl, rfl⟩, rfl, rfl⟩ := e
  refine d_ins (args := [.pointer (some ⟨g, 0, none⟩)]) 14 Try.func83 rfl rfl rfl ?_; intro w rs
  refine d_reg ?_
  refine h_q hflS rfl ?_
  refine h_act (post := fun g2 => [cell g2 25 #[.int .u64 0, .int .u64 0, .int .i64 0], RdT g l f]) rfl (a_alloc ze_api_Base rfl) ?_; rintro g2
  refine h_done (d_reg ?_)
  refine h_q hflS rfl ?_
  refine h_act (post := fun _ => [cell g2 25 #[.int .u64 0, .int .u64 0, .int .i64 0], RdT g l1 f1]) rfl (a_does (os' := fun _ => [cell g2 25 #[.int .u64 0, .int .u64 0, .int .i64 0], RdT g l1 f1]) [1] 0 (ent_of Try.func60 (by kernel_rfl) rfl) (rd_num g l f 72057594037927935 (by decide) (n1, l1, f1) h1) rfl rfl rfl (fun _ => rfl) rfl rfl rfl) ?_; rintro ⟨⟩
  refine h_q hflS rfl ?_
  refine h_acts (post := fun _ => [cell g2 25 #[.int .u64 (n1 : Int), .int .u64 0, .int .i64 0], RdT g l1 f1]) rfl rfl (a_store 0 (v := .int .u64 (n1 : Int)) #[.int .u64 (n1 : Int), .int .u64 0, .int .i64 0] ty_uint64.2 rfl rfl rfl rfl rfl rfl rfl rfl rfl) ?_; rintro ⟨⟩
  refine h_done (d_reg ?_)
  refine h_q hflS rfl ?_
  refine h_act (post := fun _ => [cell g2 25 #[.int .u64 (n1 : Int), .int .u64 0, .int .i64 0], RdT g l2 f2]) rfl (a_does (os' := fun _ => [cell g2 25 #[.int .u64 (n1 : Int), .int .u64 0, .int .i64 0], RdT g l2 f2]) [1] 0 (ent_of Try.func60 (by kernel_rfl) rfl) (rd_num g l1 f1 72057594037927935 (by decide) (n2, l2, f2) h2) rfl rfl rfl (fun _ => rfl) rfl rfl rfl) ?_; rintro ⟨⟩
  refine h_q hflS rfl ?_
  refine h_acts (post := fun _ => [cell g2 25 #[.int .u64 (n1 : Int), .int .u64 (n2 : Int), .int .i64 0], RdT g l2 f2]) rfl rfl (a_store 0 (v := .int .u64 (n2 : Int)) #[.int .u64 (n1 : Int), .int .u64 (n2 : Int), .int .i64 0] ty_uint64.2 rfl rfl rfl rfl rfl rfl rfl rfl rfl) ?_; rintro ⟨⟩
  refine h_done (d_reg ?_)
  refine h_q hflS rfl ?_
  refine h_act (post := fun _ => [cell g2 25 #[.int .u64 (n1 : Int), .int .u64 (n2 : Int), .int .i64 0], RdT g l3 f3]) rfl (a_does (os' := fun _ => [cell g2 25 #[.int .u64 (n1 : Int), .int .u64 (n2 : Int), .int .i64 0], RdT g l3 f3]) [1] 0 (ent_of Try.func59 (by kernel_rfl) rfl) (rd_byte g l2 f2 254 (by decide) (n3, l3, f3) h3) rfl rfl rfl (fun _ => rfl) rfl rfl rfl) ?_; rintro ⟨⟩
  refine h_val rfl (.int .i64 (n3 : Int)) (fun b w hb hH => exec_conv Try.underlying5 Try.underlying3 (IntWalk.i64_in _ (by omega)) rfl rfl hb) ?_
  refine h_q hflS rfl ?_
  refine h_acts (post := fun _ => [cell g2 25 #[.int .u64 (n1 : Int), .int .u64 (n2 : Int), .int .i64 (n3 : Int)], RdT g l3 f3]) rfl rfl (a_store 0 (v := .int .i64 (n3 : Int)) #[.int .u64 (n1 : Int), .int .u64 (n2 : Int), .int .i64 (n3 : Int)] ty_int.2 rfl rfl rfl rfl rfl rfl rfl rfl rfl) ?_; rintro ⟨⟩
  refine h_done (d_reg ?_)
  refine h_q hflS rfl ?_
  refine h_val rfl (.agg #[.int .u64 (n1 : Int), .int .u64 (n2 : Int), .int .i64 (n3 : Int)]) (fun b w hb hH => exec_load rfl rfl (reads_agg (cs := [.int .u64 (n1 : Int), .int .u64 (n2 : Int), .int .i64 (n3 : Int)]) ty_api_Base rfl) (hH.row 0 rfl) hb) ?_
  refine h_acts (post := fun _ => [cell g2 25 #[.int .u64 (n1 : Int), .int .u64 (n2 : Int), .int .i64 (n3 : Int)], RdT g l3 f3]) rfl rfl (a_store 0 (v := .agg #[.int .u64 (n1 : Int), .int .u64 (n2 : Int), .int .i64 (n3 : Int)]) #[.int .u64 (n1 : Int), .int .u64 (n2 : Int), .int .i64 (n3 : Int)] ty_api_Base.2 rfl rfl rfl rfl rfl rfl rfl rfl rfl) ?_; rintro ⟨⟩
  refine h_done (d_ret ?_)
  exact f_fin1 (.cell 0 (v := .agg #[.int .u64 (n1 : Int), .int .u64 (n2 : Int), .int .i64 (n3 : Int)]) (reads_agg (cs := [.int .u64 (n1 : Int), .int .u64 (n2 : Int), .int .i64 (n3 : Int)]) ty_api_Base rfl) rfl rfl) (fun w h => tells () rfl [1] rfl h same_parts) rfl

/-- what reading entries comes to, and where they lie -/
structure REX where
  EA : Option Addr
  ec : Nat
  es : List EntV
  en : Nat
  l : List UInt8
  f : Nat
def REX.v (x : REX) : Value := .slice x.EA x.es.length x.ec
/-- the entries are read, or it is told what is wrong, by the answer or by the reader -/
def REOk (R : List EntD × List UInt8 × Nat) (x : REX) : Prop := (R.2.2 = 0 ∧ x.en = 0 ∧ x.l = R.2.1 ∧ x.f = 0 ∧ x.es.map (·.e) = R.1) ∨ (R.2.2 ≠ 0 ∧ ((x.en = R.2.2 ∧ x.f = 0) ∨ (x.en = 0 ∧ x.f = R.2.2)))
theorem rnum_fault {most : Nat} {l l' : List UInt8} {f n f' : Nat} (h : rnum most l f = (n, l', f')) (hf : f' ≠ 0) : n = 0 := by
  by_cases h0 : f = 0
  · unfold rnum at h
    rw [if_neg (by simp [h0])] at h
    simp only [Prod.mk.injEq] at h
    rcases vnum_ends most l 0 0 (by omega) (by decide) with ⟨_, h2, _⟩ | ⟨h2, _⟩
    · exfalso; omega
    · omega
  · rw [rnum_stays h0] at h
    simp only [Prod.mk.injEq] at h
    exact h.1.symm
theorem rtext_fault0 {most : Int} {l l' x : List UInt8} {f f' : Nat} (h : rtext most l f = (x, l', f')) (hf : f' ≠ 0) : x = [] := by
  unfold rtext at h
  split at h
  · simp only [Prod.mk.injEq] at h; exact h.1.symm
  · split at h
    · simp only [Prod.mk.injEq] at h; exact h.1.symm
    · split at h
      · simp only [Prod.mk.injEq] at h; exact h.1.symm
      · simp only [Prod.mk.injEq] at h; omega
theorem decE_nil : decE [] = (.zero, 10) := by
  have h3 : readE [] = (⟨0, 0, 0, [], 0⟩, [], 10) := readE_of (n0 := 0) (n1 := 0) (n2 := 0) (c := 0) rfl (rnum_stays (by decide)) (rnum_stays (by decide)) (rtail_else _ _ (by decide) (by decide))
  exact decE_bad (by decide) h3 (by decide)
theorem Ents.is {te : TypeId} {v : Value} {l : List EntV} : ∀ rs, Ents te v l rs → ∃ A c, v = .slice A l.length c := fun _ h => by
  obtain ⟨a, b, e, h1, _⟩ := h
  exact h1.is

set_option maxRecDepth 100000 in
theorem readEntries_does (g : Nat) (l : List UInt8) (f : Nat) (hl : l.length ≤ 1024) : Does Try.prog 81 #[.pointer (some ⟨g, 0, none⟩)] [RdT g l f] (fun (x : REX) => .tuple #[x.v, .int .i64 (x.en : Int)]) (fun (x : REX) => [RdT g x.l x.f, Ents 36 x.v x.es, fact (REOk (rlist l f) x)]) := by
  obtain ⟨⟨n, l0, f0⟩, hn⟩ : ∃ R, rnum 4 l f = R := ⟨_, rfl⟩
  have hn4 := rnum_most 4 l f
  rw [hn] at hn4
  have hn4 : n ≤ 4 := hn4
  obtain ⟨R, hR⟩ : ∃ R, rents n l0 f0 = R := ⟨_, rfl⟩
  have hRl : rlist l f = R := (rlist_of hn).trans hR
  rw [hRl]
  have hl0 := rnum_length 4 l f
  rw [hn] at hl0
  have hl0 : l0.length ≤ l.length := hl0
  have hf0 : f0 ≠ 0 → n = 0 := rnum_fault hn
  refine d_ins (args := [.pointer (some ⟨g, 0, none⟩)]) 33 Try.func81 rfl rfl rfl ?_; intro w rs
  refine d_reg ?_
  refine h_q hflS rfl ?_
  refine h_done (d_reg ?_)
  refine h_q hflS rfl ?_
  refine h_done (d_seq (d_reg ?_))
  refine h_q hflS rfl ?_
  refine h_act (post := fun _ => [RdT g l0 f0]) rfl (a_does (os' := fun _ => [RdT g l0 f0]) [0] 0 (ent_of Try.func60 (by kernel_rfl) rfl) (rd_num g l f 4 (by decide) (n, l0, f0) hn) rfl rfl rfl (fun _ => rfl) rfl rfl rfl) ?_; rintro ⟨⟩
  refine h_q hflS rfl ?_
  refine h_done (d_block ?_)
  refine d_new (t := Ents 36 (.slice none 0 0) ([])) (entsT_nil) ?_
  refine d_loop (α := Nat × List EntV × Value × List UInt8) (fun ⟨j, L, ev, l1⟩ => [(0, .pointer (some ⟨g, 0, none⟩)), (2, .slice none 0 0), (3, .int .i64 0), (4, ev), (9, .int .u64 (n : Int)), (10, .int .u64 ((j : Nat) : Int))]) (fun ⟨j, L, ev, l1⟩ => [Ents 36 ev L, RdT g l1 f0]) (fun ⟨j, L, ev, l1⟩ => j ≤ n ∧ (f0 = 0 → RentsAt n l0 0 (L.map (·.e)) j l1) ∧ (f0 ≠ 0 → l1 = l0 ∧ L = []) ∧ L.length = j ∧ l1.length ≤ 1024) (fun ⟨j, L, ev, l1⟩ => n - j) (0, [], .slice none 0 0, l0) ⟨Nat.zero_le _, fun _ => rentsAt_0 n l0, fun _ => ⟨rfl, rfl⟩, rfl, by omega⟩ ⟨rfl, rfl, rfl, rfl, rfl, rfl, trivial⟩ rfl ?_
  rintro ⟨j, L, ev, l1⟩ hI
  refine WC2.at_ (env' := [(0, .pointer (some ⟨g, 0, none⟩)), (2, .slice none 0 0), (3, .int .i64 0), (4, ev), (9, .int .u64 (n : Int)), (10, .int .u64 ((j : Nat) : Int))]) (rs' := [Ents 36 ev L, RdT g l1 f0]) ⟨rfl, rfl, rfl, rfl, rfl, rfl, trivial⟩ rfl ?_
  have hI1 : j ≤ n := hI.1
  have hI2 : f0 = 0 → RentsAt n l0 0 (L.map (·.e)) j l1 := hI.2.1
  have hI3 : f0 ≠ 0 → l1 = l0 ∧ L = [] := hI.2.2.1
  have hI4 : L.length = j := hI.2.2.2.1
  have hI5 : l1.length ≤ 1024 := hI.2.2.2.2
  rcases Nat.lt_or_ge j n with hj | hj
  · skip
    have hf : f0 = 0 := by by_cases h0 : f0 = 0; exact h0; have := hf0 h0; omega
    have hA := hI2 hf
    subst hf
    obtain ⟨⟨x, l2, f2⟩, hx⟩ : ∃ R, rtext 160 l1 0 = R := ⟨_, rfl⟩
    have hl2 := rtext_length 160 l1 0
    rw [hx] at hl2
    have hl2 : l2.length ≤ l1.length := by simp only at hl2; omega
    refine d_reg ?_
    refine h_q hflS rfl ?_
    refine h_val rfl (.bool true) (fun b w hb hH => exec_cmp rfl rfl rfl (cmp_lss_t (by omega)) hb) ?_
    refine h_done (d_seq (d_then rfl (d_skip (f_to (d_seq (d_block (d_reg ?_)))))))
    refine h_q hflS rfl ?_
    refine h_act (post := fun v5 => [Vec 5 1 encB v5 x, Ents 36 ev L, RdT g l2 f2]) rfl (a_does (os' := fun v5 => [Vec 5 1 encB v5 x, Ents 36 ev L, RdT g l2 f2]) [1] 0 (ent_of Try.func61 (by kernel_rfl) rfl) (rd_text g l1 0 160 (by decide) (x, l2, f2) hx) rfl rfl rfl (fun _ => rfl) rfl rfl rfl) ?_; rintro v5
    refine h_q hflS rfl ?_
    refine h_done (d_seq ?_)
    rcases Nat.eq_zero_or_pos x.length with h0 | h0
    · skip
      have hx0 := List.eq_nil_of_length_eq_zero h0
      have hx1 := hx
      rw [hx0] at hx1
      obtain ⟨⟨lz, fz⟩, hz⟩ : ∃ R, eat 1025 l2 f2 = R := ⟨_, rfl⟩
      have hfz : R.2.2 = fz ∧ fz ≠ 0 := by
                  by_cases h2 : f2 = 0
                  · rw [h2] at hz hx1
                    have h3 := eat_all (l := l2) (by omega)
                    rw [hz] at h3
                    have h4 := hA.stop hj (rent_of hx1 decE_nil) (by decide)
                    rw [← hR, h4]; simp only at h3 ⊢; omega
                  · rw [eat_bad h2] at hz
                    simp only [Prod.mk.injEq] at hz
                    have h4 := hA.stop hj (rent_text hx h2) h2
                    rw [← hR, h4]; simp only; omega
      refine d_reg ?_
      refine h_q hflS rfl ?_
      refine h_val rfl (.int .i64 (x.length : Int)) (fun b w hb hH => e_vlen 0 Try.underlying26 rfl rfl rfl hH hb) ?_
      refine h_val rfl (.bool true) (fun b w hb hH => exec_cmp rfl rfl rfl (cmp_eql_t (by omega)) hb) ?_
      refine h_done (d_then rfl (d_reg ?_))
      refine h_q hflS rfl ?_
      refine h_act (post := fun _ => [Vec 5 1 encB v5 x, Ents 36 ev L, RdT g lz fz]) rfl (a_does (os' := fun _ => [Vec 5 1 encB v5 x, Ents 36 ev L, RdT g lz fz]) [2] 0 (ent_of Try.func86 (by kernel_rfl) rfl) (runOut_does g l2 f2 (lz, fz) hz) rfl rfl rfl (fun _ => rfl) rfl rfl rfl) ?_; rintro ⟨⟩
      refine h_done ?_
      refine WC2.leave [1, 0] rfl rfl ?_
      refine d_new (t := Ents 36 (.slice none 0 0) ([])) (entsT_nil) ?_
      refine d_reg ?_
      refine h_q hflS rfl ?_
      refine h_done (d_ret (f_then_ret (f_block_ret (f_then_ret (f_then_ret (f_block_ret (f_then_ret ?_)))))))
      exact f_fin2 (.tmp rfl) (.tmp rfl) (fun w h => tells (⟨none, 0, [], 0, lz, fz⟩ : REX) rfl [1, 0] rfl h (fun z hz => ⟨z, .refl _, fact_add (xs := [_, _]) (show REOk R _ from .inr ⟨by rw [hfz.1]; exact hfz.2, .inr ⟨rfl, hfz.1.symm⟩⟩) hz⟩)) rfl
    · skip
      have hf2 : f2 = 0 := by by_cases h2 : f2 = 0; exact h2; have := rtext_fault0 hx h2; rw [this] at h0; simp at h0
      subst hf2
      obtain ⟨⟨e, en⟩, hD⟩ : ∃ R, decE x = R := ⟨_, rfl⟩
      have hxl := rtext_length 160 l1 0
      have hxl : x.length ≤ 140737488355328 := by
                  have h3 := (good_text 160).back_of hx
                  have h4 := congrArg List.length h3.2
                  rw [List.length_append] at h4
                  unfold layT at h4
                  rw [List.length_append] at h4
                  omega
      have hre := rent_of hx hD
      refine d_reg ?_
      refine h_q hflS rfl ?_
      refine h_val rfl (.int .i64 (x.length : Int)) (fun b w hb hH => e_vlen 0 Try.underlying26 rfl rfl rfl hH hb) ?_
      refine h_val rfl (.bool false) (fun b w hb hH => exec_cmp rfl rfl rfl (cmp_eql_f (by omega)) hb) ?_
      refine h_done (d_else rfl (d_skip (f_to (d_reg ?_))))
      refine h_q hflS rfl ?_
      refine h_act rfl (a_makes  [] 0 (ent_of Try.func26 (by kernel_rfl) rfl) (fun w hH => reade_does w v5 x (hH.sl8 0 rfl) hxl e en hD) rfl rfl rfl (fun _ => rfl) rfl rfl rfl) ?_; rintro ⟨A3, c3⟩
      refine h_q hflS rfl ?_
      refine h_act (post := fun g6 => [cell g6 36 #[.int .i64 0, .int .u64 0, .int .u64 0, .slice none 0 0, .int .i64 0], Vec 5 1 encB (.slice A3 e.d.length c3) e.d, Vec 5 1 encB v5 x, Ents 36 ev L, RdT g l2 0]) rfl (a_alloc ze_api_Entry rfl) ?_; rintro g6
      refine h_acts (post := fun _ => [cell g6 36 #[.int .i64 e.k, .int .u64 e.t, .int .u64 e.i, .slice A3 e.d.length c3, .int .i64 e.c], Vec 5 1 encB (.slice A3 e.d.length c3) e.d, Vec 5 1 encB v5 x, Ents 36 ev L, RdT g l2 0]) rfl rfl (a_store 0 (v := .agg #[.int .i64 e.k, .int .u64 e.t, .int .u64 e.i, .slice A3 e.d.length c3, .int .i64 e.c]) #[.int .i64 e.k, .int .u64 e.t, .int .u64 e.i, .slice A3 e.d.length c3, .int .i64 e.c] ty_api_Entry.2 rfl rfl rfl rfl rfl rfl rfl rfl rfl) ?_; rintro ⟨⟩
      refine h_q hflS rfl ?_
      refine h_done (d_seq ?_)
      by_cases he : en = 0
      · skip
        have hre0 := hre
        rw [he] at hre0
        refine d_reg ?_
        refine h_q hflS rfl ?_
        refine h_val rfl (.bool false) (fun b w hb hH => exec_cmp rfl rfl rfl (cmp_neq_f (by omega)) hb) ?_
        refine h_done (d_else rfl (d_skip (f_to ?_)))
        refine WC2.keep (env' := [(0, .pointer (some ⟨g, 0, none⟩)), (2, .slice none 0 0), (3, .int .i64 0), (4, ev), (9, .int .u64 (n : Int)), (10, .int .u64 ((j : Nat) : Int)), (11, .bool true), (12, .pointer (some ⟨g, 0, none⟩)), (13, v5), (5, v5), (14, v5), (15, .int .i64 (x.length : Int)), (16, .bool false), (20, v5), (21, .tuple #[.agg #[.int .i64 e.k, .int .u64 e.t, .int .u64 e.i, .slice A3 e.d.length c3, .int .i64 e.c], .int .i64 (en : Int)]), (19, .tuple #[.agg #[.int .i64 e.k, .int .u64 e.t, .int .u64 e.i, .slice A3 e.d.length c3, .int .i64 e.c], .int .i64 (en : Int)]), (22, .agg #[.int .i64 e.k, .int .u64 e.t, .int .u64 e.i, .slice A3 e.d.length c3, .int .i64 e.c]), (23, .int .i64 (en : Int)), (6, .pointer (some ⟨g6, 0, none⟩)), (7, .int .i64 (en : Int)), (24, .int .i64 (en : Int)), (25, .bool false)]) ⟨rfl, rfl, rfl, rfl, rfl, rfl, rfl, rfl, rfl, rfl, rfl, rfl, rfl, rfl, rfl, rfl, rfl, rfl, rfl, rfl, rfl, rfl, trivial⟩ ?_
        refine WC2.mid [cell g6 36 #[.int .i64 e.k, .int .u64 e.t, .int .u64 e.i, .slice A3 e.d.length c3, .int .i64 e.c], Vec 5 1 encB (.slice A3 e.d.length c3) e.d, Vec 5 1 encB v5 x, Ents 36 ev L, RdT g l2 0] (.refl _) ?_
        refine d_open 3 rfl ents_open (fun _ => rfl) ?_; rintro ⟨⟩
        refine d_reg1 ?_
        refine h_q hflS rfl ?_
        refine h_val rfl (.agg #[.int .i64 e.k, .int .u64 e.t, .int .u64 e.i, .slice A3 e.d.length c3, .int .i64 e.c]) (fun b w hb hH => exec_load rfl rfl (reads_agg (cs := [.int .i64 e.k, .int .u64 e.t, .int .u64 e.i, .slice A3 e.d.length c3, .int .i64 e.c]) ty_api_Entry rfl) (hH.row 2 rfl) hb) ?_
        refine h_act (X := Value) (val := fun v : Value => v) (post := fun u1 => [Vec 36 5 encV u1 ([(⟨e, A3, c3⟩ : EntV)]), Vec 36 5 encV ev L, Each (fun x : EntV => Vec 5 1 encB x.v x.e.d) L, cell g6 36 #[.int .i64 e.k, .int .u64 e.t, .int .u64 e.i, .slice A3 e.d.length c3, .int .i64 e.c], Vec 5 1 encB (.slice A3 e.d.length c3) e.d, Vec 5 1 encB v5 x, RdT g l2 0]) rfl (by refine a_buildK (e := 36) (t := 23) (k := 5) (enc := encV) (x := .tmp 28) (c := .agg #[.int .i64 e.k, .int .u64 e.t, .int .u64 e.i, .slice A3 e.d.length c3, .int .i64 e.c]) ?_ ?_ ?_ (⟨e, A3, c3⟩ : EntV) ?_ ?_ ?_; exact sl_api_Entry; exact (by decide); exact okV; exact rfl; exact rfl; exact rfl) ?_; rintro u1
        refine h_act (post := fun ev2 => [Vec 36 5 encV u1 ([(⟨e, A3, c3⟩ : EntV)]), Vec 36 5 encV ev2 (L ++ [(⟨e, A3, c3⟩ : EntV)]), Each (fun x : EntV => Vec 5 1 encB x.v x.e.d) L, cell g6 36 #[.int .i64 e.k, .int .u64 e.t, .int .u64 e.i, .slice A3 e.d.length c3, .int .i64 e.c], Vec 5 1 encB (.slice A3 e.d.length c3) e.d, Vec 5 1 encB v5 x, RdT g l2 0]) rfl (a_appendK (nb := 56) 1 sl_api_Entry okV (by kernel_rfl) (by decide) rfl ([(⟨e, A3, c3⟩ : EntV)]) (fun w hH => hH.vec 0 rfl okV) (by simp only [List.length_cons, List.length_nil]; omega) rfl rfl rfl rfl) ?_; rintro ev2
        refine h_q hflS rfl ?_
        refine h_nil (f_block (f_to ?_))
        refine WC2.leave [0, 3, 5] rfl rfl ?_
        refine d_close [0, 1, 2] rfl ents_push rfl ?_
        refine d_reg1 ?_
        refine h_q hflS rfl ?_
        refine h_val rfl (.int .u64 ((j + 1 : Nat) : Int)) (fun b w hb hH => exec_ar rfl rfl rfl rfl (by rw [IntWalk.u64_in _ (by omega)]; omega) hb) ?_
        refine h_q hflS rfl ?_
        refine h_nil ?_
        exact f_again (j + 1, L ++ [(⟨e, A3, c3⟩ : EntV)], ev2, l2) 0 ⟨hj, fun _ => by rw [List.map_append]; exact hA.step hj hre0, fun h => absurd rfl h, by rw [List.length_append]; simp [hI4], by omega⟩ (show n - (j + 1) < n - j by omega) ⟨rfl, rfl, rfl, rfl, rfl, rfl, trivial⟩ rfl
      · skip
        have h4 := hA.stop hj hre he
        have h5 : R.2.2 = en := by rw [← hR, h4]
        refine d_reg ?_
        refine h_q hflS rfl ?_
        refine h_val rfl (.bool true) (fun b w hb hH => exec_cmp rfl rfl rfl (cmp_neq_t (by omega)) hb) ?_
        refine h_done (d_then rfl ?_)
        refine WC2.leave [3, 1] rfl rfl ?_
        refine d_new (t := Ents 36 (.slice none 0 0) ([])) (entsT_nil) ?_
        refine d_reg ?_
        refine h_q hflS rfl ?_
        refine h_done (d_ret (f_then_ret (f_block_ret (f_then_ret (f_then_ret (f_block_ret (f_then_ret ?_)))))))
        exact f_fin2 (.tmp rfl) (.tmp rfl) (fun w h => tells (⟨none, 0, [], en, l2, 0⟩ : REX) rfl [3, 0] rfl h (fun z hz => ⟨z, .refl _, fact_add (xs := [_, _]) (show REOk R _ from .inr ⟨by rw [h5]; exact he, .inl ⟨h5.symm, rfl⟩⟩) hz⟩)) rfl
  · skip
    obtain rfl : j = n := by omega
    refine d_reg ?_
    refine h_q hflS rfl ?_
    refine h_val rfl (.bool false) (fun b w hb hH => exec_cmp rfl rfl rfl (cmp_lss_f (by omega)) hb) ?_
    refine h_done (d_seq (d_else rfl (d_exit (f_then_exit (f_then_exit (f_block_exit (f_to ?_)))))))
    refine WC2.fact 0 rfl Ents.is ?_; rintro ⟨A5, c5, rfl⟩
    refine d_reg ?_
    refine h_q hflS rfl ?_
    refine h_done (d_ret ?_)
    exact f_fin2 (.tmp rfl) (.tmp rfl) (fun w h => tells (⟨A5, c5, L, 0, l1, f0⟩ : REX) rfl [1, 0] rfl h (fun z hz => ⟨z, .refl _, fact_add (xs := [_, _]) (show REOk R _ from by
              by_cases h0 : f0 = 0
              · subst h0
                have h4 := (hI2 rfl).done
                exact .inl ⟨by rw [← hR, h4], rfl, by rw [← hR, h4], rfl, by rw [← hR, h4]⟩
              · have h6 := hf0 h0
                have h4 : R.2.2 = f0 := by rw [← hR, h6]; rfl
                exact .inr ⟨by rw [h4]; exact h0, .inr ⟨rfl, h4.symm⟩⟩) hz⟩)) rfl
end Go.Proofs.Ytnhcbjlaeaohjaa.Sep
