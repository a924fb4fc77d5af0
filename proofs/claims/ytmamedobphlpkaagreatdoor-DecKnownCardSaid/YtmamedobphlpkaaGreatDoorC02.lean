/-
  ParseD
-/
import Derived.Test.YtmamedobphlpkaaGreatDoorB04
import Derived.Test.YtmamedobphlpkaaGreatDoorC01
set_option linter.unusedSimpArgs false
set_option linter.unusedVariables false

namespace Go.Proofs.YtmamedobphlpkaaGreatDoor
open Go.RowKit

/-- a decimal, if there is a place for it -/
def decR (z s : Int) : Value := if Fits z then .tuple #[Dc z s, .int .i64 0] else .tuple #[Dc 0 0, .int .i64 20]
/-- what stands ahead of the point, what behind it; is there one? -/
def CutIs (D p q : List UInt8) (pt : Bool) : Prop := (∀ b ∈ p, b ≠ 46) ∧ ((pt = false ∧ q = [] ∧ D = p) ∨ (pt = true ∧ D = p ++ 46 :: q))
def okD (m : Bool) (p q : List UInt8) (pt : Bool) : Prop := plainN p ∧ (pt = true → q ≠ []) ∧ allD q ∧ q.length ≤ 18 ∧ ¬ (m = true ∧ nv (p ++ q) = 0)
instance (m : Bool) (p q : List UInt8) (pt : Bool) : Decidable (okD m p q pt) := inferInstanceAs (Decidable (_ ∧ _))
/-- the decimal that a text in these parts is, or none -/
def valD (m : Bool) (p q : List UInt8) (pt : Bool) : Value := if okD m p q pt then decR (if m then -(nv (p ++ q) : Int) else (nv (p ++ q) : Int)) (q.length : Int) else .tuple #[Dc 0 0, .int .i64 23]
theorem valD_no {m : Bool} {p q : List UInt8} {pt : Bool} (h : ¬ okD m p q pt) : valD m p q pt = .tuple #[Dc 0 0, .int .i64 23] := if_neg h
theorem cut_dot (D : List UInt8) : ∃ p q pt, CutIs D p q pt := by
  induction D with
  | nil => exact ⟨[], [], false, by simp, .inl ⟨rfl, rfl, rfl⟩⟩
  | cons b r ih =>
    by_cases h : b = 46
    · subst h; exact ⟨[], r, true, by simp, .inr ⟨rfl, rfl⟩⟩
    · obtain ⟨p, q, pt, hp, h2⟩ := ih
      refine ⟨b :: p, q, pt, fun x hx => ?_, ?_⟩
      · rcases List.mem_cons.1 hx with rfl | hx
        · exact h
        · exact hp x hx
      · rcases h2 with ⟨a1, a2, a3⟩ | ⟨a1, a3⟩
        · exact .inl ⟨a1, a2, by rw [a3]⟩
        · exact .inr ⟨a1, by rw [a3]; rfl⟩
theorem dropZ_nv (l : List UInt8) : nv (dropZ l) = nv l := by
  induction l with
  | nil => rfl
  | cons b r ih =>
    rw [dropZ]
    split
    · rename_i h
      rw [ih]
      show nv r = nvA 0 (b :: r)
      rw [nvA_cons, h]; rfl
    · rfl
theorem dropZ_all {l : List UInt8} (h : allD l) : allD (dropZ l) := by
  induction l with
  | nil => exact h
  | cons b r ih =>
    rw [dropZ]
    split
    · exact ih (allD_cons.1 h).2
    · exact h
theorem dropZ_head (l : List UInt8) : (dropZ l).head? ≠ some 48 := by
  induction l with
  | nil => simp [dropZ]
  | cons b r ih =>
    rw [dropZ]
    split
    · exact ih
    · rename_i h
      intro e
      have := Option.some.inj e
      exact h (by rw [this]; rfl)
theorem orZ_dd {l : List UInt8} (h : allD l) : orZ (dropZ l) = Lib.decDigits (nv l) := by
  unfold orZ
  by_cases h0 : dropZ l = []
  · rw [if_pos h0]
    have := dropZ_nv l
    rw [h0] at this
    rw [← this]; exact dd_zero.symm
  · rw [if_neg h0, ← dropZ_nv l, dd_nv ⟨h0, dropZ_all h, fun _ => dropZ_head l⟩]
theorem parse_dd (m : Bool) (N : Nat) (h : ¬ (m = true ∧ N = 0)) : parseV (if m then 45 :: Lib.decDigits N else Lib.decDigits N) = resV (if m then -(N : Int) else (N : Int)) := by
  cases m with
  | true =>
    rw [if_pos rfl, parseV_ok (cutS_minus _) (plain_dd _) (by rintro ⟨_, e⟩; exact dd_not48 (fun e => h ⟨rfl, e⟩) e), nv_dd]
  | false =>
    rw [if_neg (by simp), parseV_ok (cutS_dd _) (plain_dd _) (by rintro ⟨e, _⟩; cases e), nv_dd]
theorem parse_dd0 : parseV (45 :: Lib.decDigits 0) = .tuple #[WV 0, .int .i64 23] := parseV_no (cutS_minus _) (fun h => h.2 ⟨rfl, dd_zero⟩)
theorem parseE (w : World) {l : List UInt8} {v : Value} (h : parseV l = v) (hlen : l.length ≤ 9223372036854775807) (hE : ErrIs w) : Calls Tryz.prog 36 #[.string (bs l)] w fun e w' => e = .returned v ∧ Below w.heap.size w w' := by
  rw [← h]; exact parseW_any w l hlen hE
theorem plainDE (w : World) (l : List UInt8) (b : Bool) (hlen : l.length ≤ 9223372036854775807) (h : decide (l ≠ [] ∧ allD l) = b) : Calls Tryz.prog 33 #[.string (bs l)] w fun e w' => e = .returned (.bool b) ∧ Below w.heap.size w w' := by
  rw [← h]; exact plainD_any w l hlen
theorem cutD_at (w : World) {D p q : List UInt8} (hD : D = p ++ 46 :: q) (h : ∀ b ∈ p, b ≠ 46) (hlen : D.length ≤ 9223372036854775807) : Calls Tryz.prog 32 #[.string (bs D), .string (bs [46])] w fun e w' => e = .returned (.tuple #[.string (bs p), .string (bs q), .bool true]) ∧ Below w.heap.size w w' := by
  subst hD
  exact cutD_yes w p q h hlen
/-- the digits ahead of the point, in four ways -/
theorem whole_ways (p : List UInt8) : ¬ (p ≠ [] ∧ allD p) ∨ (p ≠ [] ∧ allD p ∧ 1 < p.length ∧ ∃ b, p[0]? = some b ∧ b.toNat = 48) ∨ (plainN p ∧ p.length ≤ 1 ∧ ∃ b, p[0]? = some b ∧ b.toNat = 48) ∨ (plainN p ∧ ∃ b, p[0]? = some b ∧ b.toNat ≠ 48) := by
  by_cases h : p ≠ [] ∧ allD p
  · rcases head_all p with h0 | ⟨h1, h2, h3⟩ | ⟨h1, h2, h3⟩ | ⟨h1, b, hb, h3⟩
    · exact absurd h0 h.1
    · exact .inr (.inl ⟨h.1, h.2, h2, h3⟩)
    · exact .inr (.inr (.inl ⟨⟨h.1, h.2, fun h => absurd h (by omega)⟩, h2, h3⟩))
    · exact .inr (.inr (.inr ⟨⟨h.1, h.2, fun _ => head_no48 hb h3⟩, b, hb, h3⟩))
  · exact .inl h
theorem not_plain48 {p : List UInt8} {b : UInt8} (h1 : 1 < p.length) (hb : p[0]? = some b) (e : b.toNat = 48) : ¬ plainN p := fun h => h.2.2 h1 (head_48 hb e)
theorem len_orZ (l : List UInt8) : (orZ (dropZ l)).length ≤ max l.length 1 := by
  have h : (dropZ l).length ≤ l.length := by
    induction l with
    | nil => exact Nat.le_refl _
    | cons b r ih =>
      rw [dropZ]
      split
      · simp; omega
      · exact Nat.le_refl _
  unfold orZ
  split
  · simp; omega
  · omega
theorem cut_lent {l D : List UInt8} (hc : cutS l = (true, D)) : D.length + 1 ≤ l.length := by
  have := cut_back hc
  rw [this]; simp
theorem fin_ways (m : Bool) (N : Nat) : (m = true ∧ N = 0) ∨ (¬ (m = true ∧ N = 0) ∧ Fits (-(N : Int))) ∨ (¬ (m = true ∧ N = 0) ∧ ¬ Fits (-(N : Int))) := by
  by_cases h : m = true ∧ N = 0
  · exact .inl h
  · by_cases h' : Fits (-(N : Int))
    · exact .inr (.inl ⟨h, h'⟩)
    · exact .inr (.inr ⟨h, h'⟩)
theorem fin_waysF (N : Nat) : (¬ (false = true ∧ N = 0) ∧ Fits (N : Int)) ∨ (¬ (false = true ∧ N = 0) ∧ ¬ Fits (N : Int)) := by
  by_cases h' : Fits (N : Int)
  · exact .inl ⟨by simp, h'⟩
  · exact .inr ⟨by simp, h'⟩

theorem parsed_ff (w : World) (l p : List UInt8) (hc : cutS l = (false, p)) (hp46 : ∀ b ∈ p, b ≠ 46) (hlen : l.length ≤ 9223372036854775807) (hE : ErrIs w) : Calls Tryz.prog 12 #[.string (bs l)] w fun e w' => e = .returned (valD false p [] false) ∧ Below w.heap.size w w' := by
  have hDl := cut_len hc
  refine d_in (args := [.string (bs l)]) 70 Tryz.func12 rfl rfl rfl ?_
  refine d_reg ?_
  refine h_alloc zeDec rfl rfl ?_; intro g2_1
  refine h_q hfl rfl ?_
  refine h_done (d_reg ?_)
  refine h_q hfl rfl ?_
  refine h_call (ent_of Tryz.func31 (by kernel_rfl) rfl) (fun w hH => cutPrefix_any _ l p false hc hlen) rfl rfl rfl rfl ?_
  refine h_q hfl rfl ?_
  refine h_done (d_reg ?_)
  refine h_q hfl rfl ?_
  refine h_call (ent_of Tryz.func32 (by kernel_rfl) rfl) (fun w hH => cutD_no _ p hp46) rfl rfl rfl rfl ?_
  refine h_q hfl rfl ?_
  refine h_done (d_seq ?_)
  rcases whole_ways p with hw | ⟨hw1, hw2, hw3, ch, hch, hc0⟩ | ⟨hpl, hw3, ch, hch, hc0⟩ | ⟨hpl, ch, hch, hc0⟩
  · skip
    refine d_reg ?_
    refine h_q hfl rfl ?_
    refine h_call (ent_of Tryz.func33 (by kernel_rfl) rfl) (fun w hH => plainDE _ p false (by omega) (decide_eq_false hw)) rfl rfl rfl rfl ?_
    refine h_q hfl rfl ?_
    refine h_done (d_then rfl (d_reg ?_))
    refine h_build (cs := #[.int .i64 0, .int .u64 0, .int .i64 0]) (by kernel_rfl) rfl rfl rfl ?_
    refine h_store 0 (v := .agg #[.int .i64 0, .int .u64 0, .int .i64 0]) (#[.int .i64 0, .int .u64 0, .int .i64 0]) tyDec.2 rfl rfl rfl rfl rfl rfl rfl rfl rfl rfl ?_
    refine h_q hfl rfl ?_
    refine h_done (d_ret (f_then_ret ?_))
    exact f_fin2 (.cell 0 (v := .agg #[.int .i64 0, .int .u64 0, .int .i64 0]) (reads_agg (cs := [.int .i64 0, .int .u64 0, .int .i64 0]) tyDec rfl) rfl rfl) (.tmp rfl) (fun w h => ⟨by rw [valD_no (fun h => hw ⟨h.1.1, h.1.2.1⟩)]; rfl, h.up.below⟩) rfl
  · skip
    refine d_reg ?_
    refine h_q hfl rfl ?_
    refine h_call (ent_of Tryz.func33 (by kernel_rfl) rfl) (fun w hH => plainDE _ p true (by omega) (decide_eq_true ⟨hw1, hw2⟩)) rfl rfl rfl rfl ?_
    refine h_q hfl rfl ?_
    refine h_val rfl (.int .u8 (ch.toNat : Int)) (fun b w hb hH => by exact exec_index (i := 0) Tryz.underlying9 hch rfl rfl rfl hb) ?_
    refine h_cmp (cmp_eql_t (by omega)) rfl rfl rfl rfl ?_
    refine h_q hfl rfl ?_
    refine h_builtin (v := .int .i64 (p.length : Int)) (fun w cs => run_len_bs Tryz.underlying9 _ _ w cs) rfl rfl rfl ?_
    refine h_cmp (cmp_gtr_t (by omega)) rfl rfl rfl rfl ?_
    refine h_q hfl rfl ?_
    refine h_done (d_then rfl (d_reg ?_))
    refine h_build (cs := #[.int .i64 0, .int .u64 0, .int .i64 0]) (by kernel_rfl) rfl rfl rfl ?_
    refine h_store 0 (v := .agg #[.int .i64 0, .int .u64 0, .int .i64 0]) (#[.int .i64 0, .int .u64 0, .int .i64 0]) tyDec.2 rfl rfl rfl rfl rfl rfl rfl rfl rfl rfl ?_
    refine h_q hfl rfl ?_
    refine h_done (d_ret (f_then_ret ?_))
    exact f_fin2 (.cell 0 (v := .agg #[.int .i64 0, .int .u64 0, .int .i64 0]) (reads_agg (cs := [.int .i64 0, .int .u64 0, .int .i64 0]) tyDec rfl) rfl rfl) (.tmp rfl) (fun w h => ⟨by rw [valD_no (fun h => not_plain48 hw3 hch hc0 h.1)]; rfl, h.up.below⟩) rfl
  · skip
    refine d_reg ?_
    refine h_q hfl rfl ?_
    refine h_call (ent_of Tryz.func33 (by kernel_rfl) rfl) (fun w hH => plainDE _ p true (by omega) (decide_eq_true ⟨hpl.1, hpl.2.1⟩)) rfl rfl rfl rfl ?_
    refine h_q hfl rfl ?_
    refine h_val rfl (.int .u8 (ch.toNat : Int)) (fun b w hb hH => by exact exec_index (i := 0) Tryz.underlying9 hch rfl rfl rfl hb) ?_
    refine h_cmp (cmp_eql_t (by omega)) rfl rfl rfl rfl ?_
    refine h_q hfl rfl ?_
    refine h_builtin (v := .int .i64 (p.length : Int)) (fun w cs => run_len_bs Tryz.underlying9 _ _ w cs) rfl rfl rfl ?_
    refine h_cmp (cmp_gtr_f (by omega)) rfl rfl rfl rfl ?_
    refine h_q hfl rfl ?_
    refine h_done (d_else rfl (d_skip (f_to (d_seq ?_))))
    have hqa : allD [] := allD_nil
    have hq0 : false = true → ([] : List UInt8) ≠ [] := by simp
    have hq18 : ([] : List UInt8).length ≤ 18 := by decide
    refine d_reg ?_
    refine h_q hfl rfl ?_
    refine h_builtin (v := .int .i64 (([]).length : Int)) (fun w cs => run_len_bs Tryz.underlying9 _ _ w cs) rfl rfl rfl ?_
    refine h_cmp (cmp_gtr_f (by decide)) rfl rfl rfl rfl ?_
    refine h_q hfl rfl ?_
    refine h_done (d_else rfl (d_skip (f_to ?_)))
    have hall : allD (p ++ []) := allD_app.2 ⟨hpl.2.1, hqa⟩
    have horz : orZ (dropZ (p ++ [])) = Lib.decDigits (nv (p ++ [])) := orZ_dd hall
    have hlx : (orZ (dropZ (p ++ []))).length ≤ 9223372036854775807 := by have := len_orZ (p ++ []); simp only [List.length_append, List.length_nil] at this; first | omega | (simp only [List.length_cons]; omega)
    refine d_reg ?_
    refine h_q hfl rfl ?_
    refine h_cat (r := p ++ ([])) rfl (by first | omega | (simp only [List.length_nil]; omega)) rfl rfl rfl rfl ?_
    refine h_call (ent_of Tryz.func35 (by kernel_rfl) rfl) (fun w hH => trimL_any _ (p ++ [])) rfl rfl rfl rfl ?_
    refine h_bs2 bsTwo rfl rfl rfl rfl ?_; intro g53_2
    refine h_call (ent_of Tryz.func34 (by kernel_rfl) rfl) (fun w hH => orS_any _ _ (dropZ (p ++ [])) (hH.row 0 rfl).lt (by rw [(hH.row 0 rfl).cell]; rfl) (by rw [(hH.row 0 rfl).cell]; rfl)) rfl rfl rfl rfl ?_
    refine h_q hfl rfl ?_
    refine h_done ?_
    refine WC2.keep (env' := [(2, .pointer (some ⟨g2_1, 0, none⟩)), (3, .int .i64 0), (5, .bool false), (7, .string (bs ([]))), (9, .string (bs (orZ (dropZ (p ++ [])))))]) ⟨rfl, rfl, rfl, rfl, rfl, trivial⟩ ?_
    refine d_seq (d_reg ?_)
    refine h_q hfl rfl ?_
    refine h_done (d_else rfl (d_skip (f_to ?_)))
    rcases fin_waysF (nv (p ++ [])) with ⟨hz, hf⟩ | ⟨hz, hf⟩
    · skip
      have hok : okD false p [] false := ⟨hpl, hq0, hqa, hq18, hz⟩
      refine d_reg ?_
      refine h_q hfl rfl ?_
      refine h_call (ent_of Tryz.func36 (by kernel_rfl) rfl) (fun w hH => parseE _ (v := .tuple #[WV (nv (p ++ []) : Int), .int .i64 0]) (by rw [horz]; exact ((parse_dd false (nv (p ++ [])) hz)).trans (resV_fit hf)) hlx (hE.up hH.up.below)) rfl rfl rfl rfl ?_
      refine h_q hfl rfl ?_
      refine h_alloc zeWide rfl rfl ?_; intro g10_3
      refine h_store 0 (v := WV (nv (p ++ []) : Int)) (#[hiW (nv (p ++ []) : Int), loW (nv (p ++ []) : Int)]) tyWide.2 rfl rfl rfl rfl rfl rfl rfl rfl rfl rfl ?_
      refine h_q hfl rfl ?_
      refine h_done (d_reg ?_)
      refine h_load 0 (v := .agg #[hiW (nv (p ++ []) : Int), loW (nv (p ++ []) : Int)]) (reads_agg (cs := [hiW (nv (p ++ []) : Int), loW (nv (p ++ []) : Int)]) tyWide rfl) rfl rfl rfl rfl ?_
      refine h_q hfl rfl ?_
      refine h_builtin (v := .int .i64 (([]).length : Int)) (fun w cs => run_len_bs Tryz.underlying9 _ _ w cs) rfl rfl rfl ?_
      refine h_q hfl rfl ?_
      refine h_call (ent_of Tryz.func24 (by kernel_rfl) rfl) (fun w hH => made_ok _ (nv (p ++ []) : Int) ([].length : Int)) rfl rfl rfl rfl ?_
      refine h_q hfl rfl ?_
      refine h_store 2 (v := Dc (nv (p ++ []) : Int) ([].length : Int)) (#[hiW (nv (p ++ []) : Int), loW (nv (p ++ []) : Int), .int .i64 ([].length : Int)]) tyDec.2 rfl rfl rfl rfl rfl rfl rfl rfl rfl rfl ?_
      refine h_q hfl rfl ?_
      refine h_done (d_ret ?_)
      exact f_fin2 (.cell 2 (v := .agg #[hiW (nv (p ++ []) : Int), loW (nv (p ++ []) : Int), .int .i64 ([].length : Int)]) (reads_agg (cs := [hiW (nv (p ++ []) : Int), loW (nv (p ++ []) : Int), .int .i64 ([].length : Int)]) tyDec rfl) rfl rfl) (.tmp rfl) (fun w h => ⟨by rw [valD, if_pos hok]; exact congrArg _ (if_pos hf).symm, h.up.below⟩) rfl
    · skip
      have hok : okD false p [] false := ⟨hpl, hq0, hqa, hq18, hz⟩
      refine d_reg ?_
      refine h_q hfl rfl ?_
      refine h_call (ent_of Tryz.func36 (by kernel_rfl) rfl) (fun w hH => parseE _ (v := .tuple #[WV 0, .int .i64 20]) (by rw [horz]; exact ((parse_dd false (nv (p ++ [])) hz)).trans (resV_over hf)) hlx (hE.up hH.up.below)) rfl rfl rfl rfl ?_
      refine h_q hfl rfl ?_
      refine h_alloc zeWide rfl rfl ?_; intro g10_4
      refine h_store 0 (v := WV 0) (#[hiW 0, loW 0]) tyWide.2 rfl rfl rfl rfl rfl rfl rfl rfl rfl rfl ?_
      refine h_q hfl rfl ?_
      refine h_done (d_reg ?_)
      refine h_load 0 (v := .agg #[hiW 0, loW 0]) (reads_agg (cs := [hiW 0, loW 0]) tyWide rfl) rfl rfl rfl rfl ?_
      refine h_q hfl rfl ?_
      refine h_builtin (v := .int .i64 (([]).length : Int)) (fun w cs => run_len_bs Tryz.underlying9 _ _ w cs) rfl rfl rfl ?_
      refine h_q hfl rfl ?_
      refine h_call (ent_of Tryz.func24 (by kernel_rfl) rfl) (fun w hH => made_no _ 0 ([].length : Int) 20 (by decide)) rfl rfl rfl rfl ?_
      refine h_q hfl rfl ?_
      refine h_store 2 (v := Dc 0 0) (#[hiW 0, loW 0, .int .i64 0]) tyDec.2 rfl rfl rfl rfl rfl rfl rfl rfl rfl rfl ?_
      refine h_q hfl rfl ?_
      refine h_done (d_ret ?_)
      exact f_fin2 (.cell 2 (v := .agg #[hiW 0, loW 0, .int .i64 0]) (reads_agg (cs := [hiW 0, loW 0, .int .i64 0]) tyDec rfl) rfl rfl) (.tmp rfl) (fun w h => ⟨by rw [valD, if_pos hok]; exact congrArg _ (if_neg hf).symm, h.up.below⟩) rfl
  · skip
    refine d_reg ?_
    refine h_q hfl rfl ?_
    refine h_call (ent_of Tryz.func33 (by kernel_rfl) rfl) (fun w hH => plainDE _ p true (by omega) (decide_eq_true ⟨hpl.1, hpl.2.1⟩)) rfl rfl rfl rfl ?_
    refine h_q hfl rfl ?_
    refine h_val rfl (.int .u8 (ch.toNat : Int)) (fun b w hb hH => by exact exec_index (i := 0) Tryz.underlying9 hch rfl rfl rfl hb) ?_
    refine h_cmp (cmp_eql_f (by omega)) rfl rfl rfl rfl ?_
    refine h_q hfl rfl ?_
    refine h_done (d_else rfl (d_skip (f_to (d_seq ?_))))
    have hqa : allD [] := allD_nil
    have hq0 : false = true → ([] : List UInt8) ≠ [] := by simp
    have hq18 : ([] : List UInt8).length ≤ 18 := by decide
    refine d_reg ?_
    refine h_q hfl rfl ?_
    refine h_builtin (v := .int .i64 (([]).length : Int)) (fun w cs => run_len_bs Tryz.underlying9 _ _ w cs) rfl rfl rfl ?_
    refine h_cmp (cmp_gtr_f (by decide)) rfl rfl rfl rfl ?_
    refine h_q hfl rfl ?_
    refine h_done (d_else rfl (d_skip (f_to ?_)))
    have hall : allD (p ++ []) := allD_app.2 ⟨hpl.2.1, hqa⟩
    have horz : orZ (dropZ (p ++ [])) = Lib.decDigits (nv (p ++ [])) := orZ_dd hall
    have hlx : (orZ (dropZ (p ++ []))).length ≤ 9223372036854775807 := by have := len_orZ (p ++ []); simp only [List.length_append, List.length_nil] at this; first | omega | (simp only [List.length_cons]; omega)
    refine d_reg ?_
    refine h_q hfl rfl ?_
    refine h_cat (r := p ++ ([])) rfl (by first | omega | (simp only [List.length_nil]; omega)) rfl rfl rfl rfl ?_
    refine h_call (ent_of Tryz.func35 (by kernel_rfl) rfl) (fun w hH => trimL_any _ (p ++ [])) rfl rfl rfl rfl ?_
    refine h_bs2 bsTwo rfl rfl rfl rfl ?_; intro g53_5
    refine h_call (ent_of Tryz.func34 (by kernel_rfl) rfl) (fun w hH => orS_any _ _ (dropZ (p ++ [])) (hH.row 0 rfl).lt (by rw [(hH.row 0 rfl).cell]; rfl) (by rw [(hH.row 0 rfl).cell]; rfl)) rfl rfl rfl rfl ?_
    refine h_q hfl rfl ?_
    refine h_done ?_
    refine WC2.keep (env' := [(2, .pointer (some ⟨g2_1, 0, none⟩)), (3, .int .i64 0), (5, .bool false), (7, .string (bs ([]))), (9, .string (bs (orZ (dropZ (p ++ [])))))]) ⟨rfl, rfl, rfl, rfl, rfl, trivial⟩ ?_
    refine d_seq (d_reg ?_)
    refine h_q hfl rfl ?_
    refine h_done (d_else rfl (d_skip (f_to ?_)))
    rcases fin_waysF (nv (p ++ [])) with ⟨hz, hf⟩ | ⟨hz, hf⟩
    · skip
      have hok : okD false p [] false := ⟨hpl, hq0, hqa, hq18, hz⟩
      refine d_reg ?_
      refine h_q hfl rfl ?_
      refine h_call (ent_of Tryz.func36 (by kernel_rfl) rfl) (fun w hH => parseE _ (v := .tuple #[WV (nv (p ++ []) : Int), .int .i64 0]) (by rw [horz]; exact ((parse_dd false (nv (p ++ [])) hz)).trans (resV_fit hf)) hlx (hE.up hH.up.below)) rfl rfl rfl rfl ?_
      refine h_q hfl rfl ?_
      refine h_alloc zeWide rfl rfl ?_; intro g10_6
      refine h_store 0 (v := WV (nv (p ++ []) : Int)) (#[hiW (nv (p ++ []) : Int), loW (nv (p ++ []) : Int)]) tyWide.2 rfl rfl rfl rfl rfl rfl rfl rfl rfl rfl ?_
      refine h_q hfl rfl ?_
      refine h_done (d_reg ?_)
      refine h_load 0 (v := .agg #[hiW (nv (p ++ []) : Int), loW (nv (p ++ []) : Int)]) (reads_agg (cs := [hiW (nv (p ++ []) : Int), loW (nv (p ++ []) : Int)]) tyWide rfl) rfl rfl rfl rfl ?_
      refine h_q hfl rfl ?_
      refine h_builtin (v := .int .i64 (([]).length : Int)) (fun w cs => run_len_bs Tryz.underlying9 _ _ w cs) rfl rfl rfl ?_
      refine h_q hfl rfl ?_
      refine h_call (ent_of Tryz.func24 (by kernel_rfl) rfl) (fun w hH => made_ok _ (nv (p ++ []) : Int) ([].length : Int)) rfl rfl rfl rfl ?_
      refine h_q hfl rfl ?_
      refine h_store 2 (v := Dc (nv (p ++ []) : Int) ([].length : Int)) (#[hiW (nv (p ++ []) : Int), loW (nv (p ++ []) : Int), .int .i64 ([].length : Int)]) tyDec.2 rfl rfl rfl rfl rfl rfl rfl rfl rfl rfl ?_
      refine h_q hfl rfl ?_
      refine h_done (d_ret ?_)
      exact f_fin2 (.cell 2 (v := .agg #[hiW (nv (p ++ []) : Int), loW (nv (p ++ []) : Int), .int .i64 ([].length : Int)]) (reads_agg (cs := [hiW (nv (p ++ []) : Int), loW (nv (p ++ []) : Int), .int .i64 ([].length : Int)]) tyDec rfl) rfl rfl) (.tmp rfl) (fun w h => ⟨by rw [valD, if_pos hok]; exact congrArg _ (if_pos hf).symm, h.up.below⟩) rfl
    · skip
      have hok : okD false p [] false := ⟨hpl, hq0, hqa, hq18, hz⟩
      refine d_reg ?_
      refine h_q hfl rfl ?_
      refine h_call (ent_of Tryz.func36 (by kernel_rfl) rfl) (fun w hH => parseE _ (v := .tuple #[WV 0, .int .i64 20]) (by rw [horz]; exact ((parse_dd false (nv (p ++ [])) hz)).trans (resV_over hf)) hlx (hE.up hH.up.below)) rfl rfl rfl rfl ?_
      refine h_q hfl rfl ?_
      refine h_alloc zeWide rfl rfl ?_; intro g10_7
      refine h_store 0 (v := WV 0) (#[hiW 0, loW 0]) tyWide.2 rfl rfl rfl rfl rfl rfl rfl rfl rfl rfl ?_
      refine h_q hfl rfl ?_
      refine h_done (d_reg ?_)
      refine h_load 0 (v := .agg #[hiW 0, loW 0]) (reads_agg (cs := [hiW 0, loW 0]) tyWide rfl) rfl rfl rfl rfl ?_
      refine h_q hfl rfl ?_
      refine h_builtin (v := .int .i64 (([]).length : Int)) (fun w cs => run_len_bs Tryz.underlying9 _ _ w cs) rfl rfl rfl ?_
      refine h_q hfl rfl ?_
      refine h_call (ent_of Tryz.func24 (by kernel_rfl) rfl) (fun w hH => made_no _ 0 ([].length : Int) 20 (by decide)) rfl rfl rfl rfl ?_
      refine h_q hfl rfl ?_
      refine h_store 2 (v := Dc 0 0) (#[hiW 0, loW 0, .int .i64 0]) tyDec.2 rfl rfl rfl rfl rfl rfl rfl rfl rfl rfl ?_
      refine h_q hfl rfl ?_
      refine h_done (d_ret ?_)
      exact f_fin2 (.cell 2 (v := .agg #[hiW 0, loW 0, .int .i64 0]) (reads_agg (cs := [hiW 0, loW 0, .int .i64 0]) tyDec rfl) rfl rfl) (.tmp rfl) (fun w h => ⟨by rw [valD, if_pos hok]; exact congrArg _ (if_neg hf).symm, h.up.below⟩) rfl

theorem parsed_ft (w : World) (l D p q : List UInt8) (hc : cutS l = (false, D)) (hp46 : ∀ b ∈ p, b ≠ 46) (hD : D = p ++ 46 :: q) (hlen : l.length ≤ 9223372036854775807) (hE : ErrIs w) : Calls Tryz.prog 12 #[.string (bs l)] w fun e w' => e = .returned (valD false p q true) ∧ Below w.heap.size w w' := by
  have hDl := cut_len hc
  have hDp : D.length = p.length + (q.length + 1) := by rw [hD]; simp
  refine d_in (args := [.string (bs l)]) 70 Tryz.func12 rfl rfl rfl ?_
  refine d_reg ?_
  refine h_alloc zeDec rfl rfl ?_; intro g2_1
  refine h_q hfl rfl ?_
  refine h_done (d_reg ?_)
  refine h_q hfl rfl ?_
  refine h_call (ent_of Tryz.func31 (by kernel_rfl) rfl) (fun w hH => cutPrefix_any _ l D false hc hlen) rfl rfl rfl rfl ?_
  refine h_q hfl rfl ?_
  refine h_done (d_reg ?_)
  refine h_q hfl rfl ?_
  refine h_call (ent_of Tryz.func32 (by kernel_rfl) rfl) (fun w hH => cutD_at _ hD hp46 (Nat.le_trans (cut_len hc) hlen)) rfl rfl rfl rfl ?_
  refine h_q hfl rfl ?_
  refine h_done (d_seq ?_)
  rcases whole_ways p with hw | ⟨hw1, hw2, hw3, ch, hch, hc0⟩ | ⟨hpl, hw3, ch, hch, hc0⟩ | ⟨hpl, ch, hch, hc0⟩
  · skip
    refine d_reg ?_
    refine h_q hfl rfl ?_
    refine h_call (ent_of Tryz.func33 (by kernel_rfl) rfl) (fun w hH => plainDE _ p false (by omega) (decide_eq_false hw)) rfl rfl rfl rfl ?_
    refine h_q hfl rfl ?_
    refine h_done (d_then rfl (d_reg ?_))
    refine h_build (cs := #[.int .i64 0, .int .u64 0, .int .i64 0]) (by kernel_rfl) rfl rfl rfl ?_
    refine h_store 0 (v := .agg #[.int .i64 0, .int .u64 0, .int .i64 0]) (#[.int .i64 0, .int .u64 0, .int .i64 0]) tyDec.2 rfl rfl rfl rfl rfl rfl rfl rfl rfl rfl ?_
    refine h_q hfl rfl ?_
    refine h_done (d_ret (f_then_ret ?_))
    exact f_fin2 (.cell 0 (v := .agg #[.int .i64 0, .int .u64 0, .int .i64 0]) (reads_agg (cs := [.int .i64 0, .int .u64 0, .int .i64 0]) tyDec rfl) rfl rfl) (.tmp rfl) (fun w h => ⟨by rw [valD_no (fun h => hw ⟨h.1.1, h.1.2.1⟩)]; rfl, h.up.below⟩) rfl
  · skip
    refine d_reg ?_
    refine h_q hfl rfl ?_
    refine h_call (ent_of Tryz.func33 (by kernel_rfl) rfl) (fun w hH => plainDE _ p true (by omega) (decide_eq_true ⟨hw1, hw2⟩)) rfl rfl rfl rfl ?_
    refine h_q hfl rfl ?_
    refine h_val rfl (.int .u8 (ch.toNat : Int)) (fun b w hb hH => by exact exec_index (i := 0) Tryz.underlying9 hch rfl rfl rfl hb) ?_
    refine h_cmp (cmp_eql_t (by omega)) rfl rfl rfl rfl ?_
    refine h_q hfl rfl ?_
    refine h_builtin (v := .int .i64 (p.length : Int)) (fun w cs => run_len_bs Tryz.underlying9 _ _ w cs) rfl rfl rfl ?_
    refine h_cmp (cmp_gtr_t (by omega)) rfl rfl rfl rfl ?_
    refine h_q hfl rfl ?_
    refine h_done (d_then rfl (d_reg ?_))
    refine h_build (cs := #[.int .i64 0, .int .u64 0, .int .i64 0]) (by kernel_rfl) rfl rfl rfl ?_
    refine h_store 0 (v := .agg #[.int .i64 0, .int .u64 0, .int .i64 0]) (#[.int .i64 0, .int .u64 0, .int .i64 0]) tyDec.2 rfl rfl rfl rfl rfl rfl rfl rfl rfl rfl ?_
    refine h_q hfl rfl ?_
    refine h_done (d_ret (f_then_ret ?_))
    exact f_fin2 (.cell 0 (v := .agg #[.int .i64 0, .int .u64 0, .int .i64 0]) (reads_agg (cs := [.int .i64 0, .int .u64 0, .int .i64 0]) tyDec rfl) rfl rfl) (.tmp rfl) (fun w h => ⟨by rw [valD_no (fun h => not_plain48 hw3 hch hc0 h.1)]; rfl, h.up.below⟩) rfl
  · skip
    refine d_reg ?_
    refine h_q hfl rfl ?_
    refine h_call (ent_of Tryz.func33 (by kernel_rfl) rfl) (fun w hH => plainDE _ p true (by omega) (decide_eq_true ⟨hpl.1, hpl.2.1⟩)) rfl rfl rfl rfl ?_
    refine h_q hfl rfl ?_
    refine h_val rfl (.int .u8 (ch.toNat : Int)) (fun b w hb hH => by exact exec_index (i := 0) Tryz.underlying9 hch rfl rfl rfl hb) ?_
    refine h_cmp (cmp_eql_t (by omega)) rfl rfl rfl rfl ?_
    refine h_q hfl rfl ?_
    refine h_builtin (v := .int .i64 (p.length : Int)) (fun w cs => run_len_bs Tryz.underlying9 _ _ w cs) rfl rfl rfl ?_
    refine h_cmp (cmp_gtr_f (by omega)) rfl rfl rfl rfl ?_
    refine h_q hfl rfl ?_
    refine h_done (d_else rfl (d_skip (f_to (d_seq ?_))))
    rcases (show ¬ (q ≠ [] ∧ allD q) ∨ ((q ≠ [] ∧ allD q) ∧ 18 < q.length) ∨ ((q ≠ [] ∧ allD q) ∧ q.length ≤ 18) by by_cases h : q ≠ [] ∧ allD q; (by_cases h2 : 18 < q.length; exact .inr (.inl ⟨h, h2⟩); exact .inr (.inr ⟨h, by omega⟩)); exact .inl h) with hq | ⟨hq, hq18⟩ | ⟨hq, hq18⟩
    · skip
      refine d_reg ?_
      refine h_q hfl rfl ?_
      refine h_call (ent_of Tryz.func33 (by kernel_rfl) rfl) (fun w hH => plainDE _ q false (by omega) (decide_eq_false hq)) rfl rfl rfl rfl ?_
      refine h_q hfl rfl ?_
      refine h_done (d_then rfl (d_reg ?_))
      refine h_build (cs := #[.int .i64 0, .int .u64 0, .int .i64 0]) (by kernel_rfl) rfl rfl rfl ?_
      refine h_store 0 (v := .agg #[.int .i64 0, .int .u64 0, .int .i64 0]) (#[.int .i64 0, .int .u64 0, .int .i64 0]) tyDec.2 rfl rfl rfl rfl rfl rfl rfl rfl rfl rfl ?_
      refine h_q hfl rfl ?_
      refine h_done (d_ret (f_then_ret ?_))
      exact f_fin2 (.cell 0 (v := .agg #[.int .i64 0, .int .u64 0, .int .i64 0]) (reads_agg (cs := [.int .i64 0, .int .u64 0, .int .i64 0]) tyDec rfl) rfl rfl) (.tmp rfl) (fun w h => ⟨by rw [valD_no (fun h => hq ⟨h.2.1 rfl, h.2.2.1⟩)]; rfl, h.up.below⟩) rfl
    · skip
      refine d_reg ?_
      refine h_q hfl rfl ?_
      refine h_call (ent_of Tryz.func33 (by kernel_rfl) rfl) (fun w hH => plainDE _ q true (by omega) (decide_eq_true hq)) rfl rfl rfl rfl ?_
      refine h_q hfl rfl ?_
      refine h_builtin (v := .int .i64 (q.length : Int)) (fun w cs => run_len_bs Tryz.underlying9 _ _ w cs) rfl rfl rfl ?_
      refine h_cmp (cmp_gtr_t (by omega)) rfl rfl rfl rfl ?_
      refine h_q hfl rfl ?_
      refine h_done (d_then rfl (d_reg ?_))
      refine h_build (cs := #[.int .i64 0, .int .u64 0, .int .i64 0]) (by kernel_rfl) rfl rfl rfl ?_
      refine h_store 0 (v := .agg #[.int .i64 0, .int .u64 0, .int .i64 0]) (#[.int .i64 0, .int .u64 0, .int .i64 0]) tyDec.2 rfl rfl rfl rfl rfl rfl rfl rfl rfl rfl ?_
      refine h_q hfl rfl ?_
      refine h_done (d_ret (f_then_ret ?_))
      exact f_fin2 (.cell 0 (v := .agg #[.int .i64 0, .int .u64 0, .int .i64 0]) (reads_agg (cs := [.int .i64 0, .int .u64 0, .int .i64 0]) tyDec rfl) rfl rfl) (.tmp rfl) (fun w h => ⟨by rw [valD_no (fun h => absurd h.2.2.2.1 (by omega))]; rfl, h.up.below⟩) rfl
    · skip
      have hqa := hq.2
      have hq0 : true = true → q ≠ [] := fun _ => hq.1
      refine d_reg ?_
      refine h_q hfl rfl ?_
      refine h_call (ent_of Tryz.func33 (by kernel_rfl) rfl) (fun w hH => plainDE _ q true (by omega) (decide_eq_true hq)) rfl rfl rfl rfl ?_
      refine h_q hfl rfl ?_
      refine h_builtin (v := .int .i64 (q.length : Int)) (fun w cs => run_len_bs Tryz.underlying9 _ _ w cs) rfl rfl rfl ?_
      refine h_cmp (cmp_gtr_f (by omega)) rfl rfl rfl rfl ?_
      refine h_q hfl rfl ?_
      refine h_done (d_else rfl (d_skip (f_to ?_)))
      have hall : allD (p ++ q) := allD_app.2 ⟨hpl.2.1, hqa⟩
      have horz : orZ (dropZ (p ++ q)) = Lib.decDigits (nv (p ++ q)) := orZ_dd hall
      have hlx : (orZ (dropZ (p ++ q))).length ≤ 9223372036854775807 := by have := len_orZ (p ++ q); simp only [List.length_append, List.length_nil] at this; first | omega | (simp only [List.length_cons]; omega)
      refine d_reg ?_
      refine h_q hfl rfl ?_
      refine h_cat (r := p ++ q) rfl (by first | omega | (simp only [List.length_nil]; omega)) rfl rfl rfl rfl ?_
      refine h_call (ent_of Tryz.func35 (by kernel_rfl) rfl) (fun w hH => trimL_any _ (p ++ q)) rfl rfl rfl rfl ?_
      refine h_bs2 bsTwo rfl rfl rfl rfl ?_; intro g53_2
      refine h_call (ent_of Tryz.func34 (by kernel_rfl) rfl) (fun w hH => orS_any _ _ (dropZ (p ++ q)) (hH.row 0 rfl).lt (by rw [(hH.row 0 rfl).cell]; rfl) (by rw [(hH.row 0 rfl).cell]; rfl)) rfl rfl rfl rfl ?_
      refine h_q hfl rfl ?_
      refine h_done ?_
      refine WC2.keep (env' := [(2, .pointer (some ⟨g2_1, 0, none⟩)), (3, .int .i64 0), (5, .bool false), (7, .string (bs q)), (9, .string (bs (orZ (dropZ (p ++ q)))))]) ⟨rfl, rfl, rfl, rfl, rfl, trivial⟩ ?_
      refine d_seq (d_reg ?_)
      refine h_q hfl rfl ?_
      refine h_done (d_else rfl (d_skip (f_to ?_)))
      rcases fin_waysF (nv (p ++ q)) with ⟨hz, hf⟩ | ⟨hz, hf⟩
      · skip
        have hok : okD false p q true := ⟨hpl, hq0, hqa, hq18, hz⟩
        refine d_reg ?_
        refine h_q hfl rfl ?_
        refine h_call (ent_of Tryz.func36 (by kernel_rfl) rfl) (fun w hH => parseE _ (v := .tuple #[WV (nv (p ++ q) : Int), .int .i64 0]) (by rw [horz]; exact ((parse_dd false (nv (p ++ q)) hz)).trans (resV_fit hf)) hlx (hE.up hH.up.below)) rfl rfl rfl rfl ?_
        refine h_q hfl rfl ?_
        refine h_alloc zeWide rfl rfl ?_; intro g10_3
        refine h_store 0 (v := WV (nv (p ++ q) : Int)) (#[hiW (nv (p ++ q) : Int), loW (nv (p ++ q) : Int)]) tyWide.2 rfl rfl rfl rfl rfl rfl rfl rfl rfl rfl ?_
        refine h_q hfl rfl ?_
        refine h_done (d_reg ?_)
        refine h_load 0 (v := .agg #[hiW (nv (p ++ q) : Int), loW (nv (p ++ q) : Int)]) (reads_agg (cs := [hiW (nv (p ++ q) : Int), loW (nv (p ++ q) : Int)]) tyWide rfl) rfl rfl rfl rfl ?_
        refine h_q hfl rfl ?_
        refine h_builtin (v := .int .i64 (q.length : Int)) (fun w cs => run_len_bs Tryz.underlying9 _ _ w cs) rfl rfl rfl ?_
        refine h_q hfl rfl ?_
        refine h_call (ent_of Tryz.func24 (by kernel_rfl) rfl) (fun w hH => made_ok _ (nv (p ++ q) : Int) (q.length : Int)) rfl rfl rfl rfl ?_
        refine h_q hfl rfl ?_
        refine h_store 2 (v := Dc (nv (p ++ q) : Int) (q.length : Int)) (#[hiW (nv (p ++ q) : Int), loW (nv (p ++ q) : Int), .int .i64 (q.length : Int)]) tyDec.2 rfl rfl rfl rfl rfl rfl rfl rfl rfl rfl ?_
        refine h_q hfl rfl ?_
        refine h_done (d_ret ?_)
        exact f_fin2 (.cell 2 (v := .agg #[hiW (nv (p ++ q) : Int), loW (nv (p ++ q) : Int), .int .i64 (q.length : Int)]) (reads_agg (cs := [hiW (nv (p ++ q) : Int), loW (nv (p ++ q) : Int), .int .i64 (q.length : Int)]) tyDec rfl) rfl rfl) (.tmp rfl) (fun w h => ⟨by rw [valD, if_pos hok]; exact congrArg _ (if_pos hf).symm, h.up.below⟩) rfl
      · skip
        have hok : okD false p q true := ⟨hpl, hq0, hqa, hq18, hz⟩
        refine d_reg ?_
        refine h_q hfl rfl ?_
        refine h_call (ent_of Tryz.func36 (by kernel_rfl) rfl) (fun w hH => parseE _ (v := .tuple #[WV 0, .int .i64 20]) (by rw [horz]; exact ((parse_dd false (nv (p ++ q)) hz)).trans (resV_over hf)) hlx (hE.up hH.up.below)) rfl rfl rfl rfl ?_
        refine h_q hfl rfl ?_
        refine h_alloc zeWide rfl rfl ?_; intro g10_4
        refine h_store 0 (v := WV 0) (#[hiW 0, loW 0]) tyWide.2 rfl rfl rfl rfl rfl rfl rfl rfl rfl rfl ?_
        refine h_q hfl rfl ?_
        refine h_done (d_reg ?_)
        refine h_load 0 (v := .agg #[hiW 0, loW 0]) (reads_agg (cs := [hiW 0, loW 0]) tyWide rfl) rfl rfl rfl rfl ?_
        refine h_q hfl rfl ?_
        refine h_builtin (v := .int .i64 (q.length : Int)) (fun w cs => run_len_bs Tryz.underlying9 _ _ w cs) rfl rfl rfl ?_
        refine h_q hfl rfl ?_
        refine h_call (ent_of Tryz.func24 (by kernel_rfl) rfl) (fun w hH => made_no _ 0 (q.length : Int) 20 (by decide)) rfl rfl rfl rfl ?_
        refine h_q hfl rfl ?_
        refine h_store 2 (v := Dc 0 0) (#[hiW 0, loW 0, .int .i64 0]) tyDec.2 rfl rfl rfl rfl rfl rfl rfl rfl rfl rfl ?_
        refine h_q hfl rfl ?_
        refine h_done (d_ret ?_)
        exact f_fin2 (.cell 2 (v := .agg #[hiW 0, loW 0, .int .i64 0]) (reads_agg (cs := [hiW 0, loW 0, .int .i64 0]) tyDec rfl) rfl rfl) (.tmp rfl) (fun w h => ⟨by rw [valD, if_pos hok]; exact congrArg _ (if_neg hf).symm, h.up.below⟩) rfl
  · skip
    refine d_reg ?_
    refine h_q hfl rfl ?_
    refine h_call (ent_of Tryz.func33 (by kernel_rfl) rfl) (fun w hH => plainDE _ p true (by omega) (decide_eq_true ⟨hpl.1, hpl.2.1⟩)) rfl rfl rfl rfl ?_
    refine h_q hfl rfl ?_
    refine h_val rfl (.int .u8 (ch.toNat : Int)) (fun b w hb hH => by exact exec_index (i := 0) Tryz.underlying9 hch rfl rfl rfl hb) ?_
    refine h_cmp (cmp_eql_f (by omega)) rfl rfl rfl rfl ?_
    refine h_q hfl rfl ?_
    refine h_done (d_else rfl (d_skip (f_to (d_seq ?_))))
    rcases (show ¬ (q ≠ [] ∧ allD q) ∨ ((q ≠ [] ∧ allD q) ∧ 18 < q.length) ∨ ((q ≠ [] ∧ allD q) ∧ q.length ≤ 18) by by_cases h : q ≠ [] ∧ allD q; (by_cases h2 : 18 < q.length; exact .inr (.inl ⟨h, h2⟩); exact .inr (.inr ⟨h, by omega⟩)); exact .inl h) with hq | ⟨hq, hq18⟩ | ⟨hq, hq18⟩
    · skip
      refine d_reg ?_
      refine h_q hfl rfl ?_
      refine h_call (ent_of Tryz.func33 (by kernel_rfl) rfl) (fun w hH => plainDE _ q false (by omega) (decide_eq_false hq)) rfl rfl rfl rfl ?_
      refine h_q hfl rfl ?_
      refine h_done (d_then rfl (d_reg ?_))
      refine h_build (cs := #[.int .i64 0, .int .u64 0, .int .i64 0]) (by kernel_rfl) rfl rfl rfl ?_
      refine h_store 0 (v := .agg #[.int .i64 0, .int .u64 0, .int .i64 0]) (#[.int .i64 0, .int .u64 0, .int .i64 0]) tyDec.2 rfl rfl rfl rfl rfl rfl rfl rfl rfl rfl ?_
      refine h_q hfl rfl ?_
      refine h_done (d_ret (f_then_ret ?_))
      exact f_fin2 (.cell 0 (v := .agg #[.int .i64 0, .int .u64 0, .int .i64 0]) (reads_agg (cs := [.int .i64 0, .int .u64 0, .int .i64 0]) tyDec rfl) rfl rfl) (.tmp rfl) (fun w h => ⟨by rw [valD_no (fun h => hq ⟨h.2.1 rfl, h.2.2.1⟩)]; rfl, h.up.below⟩) rfl
    · skip
      refine d_reg ?_
      refine h_q hfl rfl ?_
      refine h_call (ent_of Tryz.func33 (by kernel_rfl) rfl) (fun w hH => plainDE _ q true (by omega) (decide_eq_true hq)) rfl rfl rfl rfl ?_
      refine h_q hfl rfl ?_
      refine h_builtin (v := .int .i64 (q.length : Int)) (fun w cs => run_len_bs Tryz.underlying9 _ _ w cs) rfl rfl rfl ?_
      refine h_cmp (cmp_gtr_t (by omega)) rfl rfl rfl rfl ?_
      refine h_q hfl rfl ?_
      refine h_done (d_then rfl (d_reg ?_))
      refine h_build (cs := #[.int .i64 0, .int .u64 0, .int .i64 0]) (by kernel_rfl) rfl rfl rfl ?_
      refine h_store 0 (v := .agg #[.int .i64 0, .int .u64 0, .int .i64 0]) (#[.int .i64 0, .int .u64 0, .int .i64 0]) tyDec.2 rfl rfl rfl rfl rfl rfl rfl rfl rfl rfl ?_
      refine h_q hfl rfl ?_
      refine h_done (d_ret (f_then_ret ?_))
      exact f_fin2 (.cell 0 (v := .agg #[.int .i64 0, .int .u64 0, .int .i64 0]) (reads_agg (cs := [.int .i64 0, .int .u64 0, .int .i64 0]) tyDec rfl) rfl rfl) (.tmp rfl) (fun w h => ⟨by rw [valD_no (fun h => absurd h.2.2.2.1 (by omega))]; rfl, h.up.below⟩) rfl
    · skip
      have hqa := hq.2
      have hq0 : true = true → q ≠ [] := fun _ => hq.1
      refine d_reg ?_
      refine h_q hfl rfl ?_
      refine h_call (ent_of Tryz.func33 (by kernel_rfl) rfl) (fun w hH => plainDE _ q true (by omega) (decide_eq_true hq)) rfl rfl rfl rfl ?_
      refine h_q hfl rfl ?_
      refine h_builtin (v := .int .i64 (q.length : Int)) (fun w cs => run_len_bs Tryz.underlying9 _ _ w cs) rfl rfl rfl ?_
      refine h_cmp (cmp_gtr_f (by omega)) rfl rfl rfl rfl ?_
      refine h_q hfl rfl ?_
      refine h_done (d_else rfl (d_skip (f_to ?_)))
      have hall : allD (p ++ q) := allD_app.2 ⟨hpl.2.1, hqa⟩
      have horz : orZ (dropZ (p ++ q)) = Lib.decDigits (nv (p ++ q)) := orZ_dd hall
      have hlx : (orZ (dropZ (p ++ q))).length ≤ 9223372036854775807 := by have := len_orZ (p ++ q); simp only [List.length_append, List.length_nil] at this; first | omega | (simp only [List.length_cons]; omega)
      refine d_reg ?_
      refine h_q hfl rfl ?_
      refine h_cat (r := p ++ q) rfl (by first | omega | (simp only [List.length_nil]; omega)) rfl rfl rfl rfl ?_
      refine h_call (ent_of Tryz.func35 (by kernel_rfl) rfl) (fun w hH => trimL_any _ (p ++ q)) rfl rfl rfl rfl ?_
      refine h_bs2 bsTwo rfl rfl rfl rfl ?_; intro g53_5
      refine h_call (ent_of Tryz.func34 (by kernel_rfl) rfl) (fun w hH => orS_any _ _ (dropZ (p ++ q)) (hH.row 0 rfl).lt (by rw [(hH.row 0 rfl).cell]; rfl) (by rw [(hH.row 0 rfl).cell]; rfl)) rfl rfl rfl rfl ?_
      refine h_q hfl rfl ?_
      refine h_done ?_
      refine WC2.keep (env' := [(2, .pointer (some ⟨g2_1, 0, none⟩)), (3, .int .i64 0), (5, .bool false), (7, .string (bs q)), (9, .string (bs (orZ (dropZ (p ++ q)))))]) ⟨rfl, rfl, rfl, rfl, rfl, trivial⟩ ?_
      refine d_seq (d_reg ?_)
      refine h_q hfl rfl ?_
      refine h_done (d_else rfl (d_skip (f_to ?_)))
      rcases fin_waysF (nv (p ++ q)) with ⟨hz, hf⟩ | ⟨hz, hf⟩
      · skip
        have hok : okD false p q true := ⟨hpl, hq0, hqa, hq18, hz⟩
        refine d_reg ?_
        refine h_q hfl rfl ?_
        refine h_call (ent_of Tryz.func36 (by kernel_rfl) rfl) (fun w hH => parseE _ (v := .tuple #[WV (nv (p ++ q) : Int), .int .i64 0]) (by rw [horz]; exact ((parse_dd false (nv (p ++ q)) hz)).trans (resV_fit hf)) hlx (hE.up hH.up.below)) rfl rfl rfl rfl ?_
        refine h_q hfl rfl ?_
        refine h_alloc zeWide rfl rfl ?_; intro g10_6
        refine h_store 0 (v := WV (nv (p ++ q) : Int)) (#[hiW (nv (p ++ q) : Int), loW (nv (p ++ q) : Int)]) tyWide.2 rfl rfl rfl rfl rfl rfl rfl rfl rfl rfl ?_
        refine h_q hfl rfl ?_
        refine h_done (d_reg ?_)
        refine h_load 0 (v := .agg #[hiW (nv (p ++ q) : Int), loW (nv (p ++ q) : Int)]) (reads_agg (cs := [hiW (nv (p ++ q) : Int), loW (nv (p ++ q) : Int)]) tyWide rfl) rfl rfl rfl rfl ?_
        refine h_q hfl rfl ?_
        refine h_builtin (v := .int .i64 (q.length : Int)) (fun w cs => run_len_bs Tryz.underlying9 _ _ w cs) rfl rfl rfl ?_
        refine h_q hfl rfl ?_
        refine h_call (ent_of Tryz.func24 (by kernel_rfl) rfl) (fun w hH => made_ok _ (nv (p ++ q) : Int) (q.length : Int)) rfl rfl rfl rfl ?_
        refine h_q hfl rfl ?_
        refine h_store 2 (v := Dc (nv (p ++ q) : Int) (q.length : Int)) (#[hiW (nv (p ++ q) : Int), loW (nv (p ++ q) : Int), .int .i64 (q.length : Int)]) tyDec.2 rfl rfl rfl rfl rfl rfl rfl rfl rfl rfl ?_
        refine h_q hfl rfl ?_
        refine h_done (d_ret ?_)
        exact f_fin2 (.cell 2 (v := .agg #[hiW (nv (p ++ q) : Int), loW (nv (p ++ q) : Int), .int .i64 (q.length : Int)]) (reads_agg (cs := [hiW (nv (p ++ q) : Int), loW (nv (p ++ q) : Int), .int .i64 (q.length : Int)]) tyDec rfl) rfl rfl) (.tmp rfl) (fun w h => ⟨by rw [valD, if_pos hok]; exact congrArg _ (if_pos hf).symm, h.up.below⟩) rfl
      · skip
        have hok : okD false p q true := ⟨hpl, hq0, hqa, hq18, hz⟩
        refine d_reg ?_
        refine h_q hfl rfl ?_
        refine h_call (ent_of Tryz.func36 (by kernel_rfl) rfl) (fun w hH => parseE _ (v := .tuple #[WV 0, .int .i64 20]) (by rw [horz]; exact ((parse_dd false (nv (p ++ q)) hz)).trans (resV_over hf)) hlx (hE.up hH.up.below)) rfl rfl rfl rfl ?_
        refine h_q hfl rfl ?_
        refine h_alloc zeWide rfl rfl ?_; intro g10_7
        refine h_store 0 (v := WV 0) (#[hiW 0, loW 0]) tyWide.2 rfl rfl rfl rfl rfl rfl rfl rfl rfl rfl ?_
        refine h_q hfl rfl ?_
        refine h_done (d_reg ?_)
        refine h_load 0 (v := .agg #[hiW 0, loW 0]) (reads_agg (cs := [hiW 0, loW 0]) tyWide rfl) rfl rfl rfl rfl ?_
        refine h_q hfl rfl ?_
        refine h_builtin (v := .int .i64 (q.length : Int)) (fun w cs => run_len_bs Tryz.underlying9 _ _ w cs) rfl rfl rfl ?_
        refine h_q hfl rfl ?_
        refine h_call (ent_of Tryz.func24 (by kernel_rfl) rfl) (fun w hH => made_no _ 0 (q.length : Int) 20 (by decide)) rfl rfl rfl rfl ?_
        refine h_q hfl rfl ?_
        refine h_store 2 (v := Dc 0 0) (#[hiW 0, loW 0, .int .i64 0]) tyDec.2 rfl rfl rfl rfl rfl rfl rfl rfl rfl rfl ?_
        refine h_q hfl rfl ?_
        refine h_done (d_ret ?_)
        exact f_fin2 (.cell 2 (v := .agg #[hiW 0, loW 0, .int .i64 0]) (reads_agg (cs := [hiW 0, loW 0, .int .i64 0]) tyDec rfl) rfl rfl) (.tmp rfl) (fun w h => ⟨by rw [valD, if_pos hok]; exact congrArg _ (if_neg hf).symm, h.up.below⟩) rfl

theorem parsed_tf (w : World) (l p : List UInt8) (hc : cutS l = (true, p)) (hp46 : ∀ b ∈ p, b ≠ 46) (hlen : l.length ≤ 9223372036854775807) (hE : ErrIs w) : Calls Tryz.prog 12 #[.string (bs l)] w fun e w' => e = .returned (valD true p [] false) ∧ Below w.heap.size w w' := by
  have hDl := cut_len hc
  have hDt := cut_lent hc
  refine d_in (args := [.string (bs l)]) 70 Tryz.func12 rfl rfl rfl ?_
  refine d_reg ?_
  refine h_alloc zeDec rfl rfl ?_; intro g2_1
  refine h_q hfl rfl ?_
  refine h_done (d_reg ?_)
  refine h_q hfl rfl ?_
  refine h_call (ent_of Tryz.func31 (by kernel_rfl) rfl) (fun w hH => cutPrefix_any _ l p true hc hlen) rfl rfl rfl rfl ?_
  refine h_q hfl rfl ?_
  refine h_done (d_reg ?_)
  refine h_q hfl rfl ?_
  refine h_call (ent_of Tryz.func32 (by kernel_rfl) rfl) (fun w hH => cutD_no _ p hp46) rfl rfl rfl rfl ?_
  refine h_q hfl rfl ?_
  refine h_done (d_seq ?_)
  rcases whole_ways p with hw | ⟨hw1, hw2, hw3, ch, hch, hc0⟩ | ⟨hpl, hw3, ch, hch, hc0⟩ | ⟨hpl, ch, hch, hc0⟩
  · skip
    refine d_reg ?_
    refine h_q hfl rfl ?_
    refine h_call (ent_of Tryz.func33 (by kernel_rfl) rfl) (fun w hH => plainDE _ p false (by omega) (decide_eq_false hw)) rfl rfl rfl rfl ?_
    refine h_q hfl rfl ?_
    refine h_done (d_then rfl (d_reg ?_))
    refine h_build (cs := #[.int .i64 0, .int .u64 0, .int .i64 0]) (by kernel_rfl) rfl rfl rfl ?_
    refine h_store 0 (v := .agg #[.int .i64 0, .int .u64 0, .int .i64 0]) (#[.int .i64 0, .int .u64 0, .int .i64 0]) tyDec.2 rfl rfl rfl rfl rfl rfl rfl rfl rfl rfl ?_
    refine h_q hfl rfl ?_
    refine h_done (d_ret (f_then_ret ?_))
    exact f_fin2 (.cell 0 (v := .agg #[.int .i64 0, .int .u64 0, .int .i64 0]) (reads_agg (cs := [.int .i64 0, .int .u64 0, .int .i64 0]) tyDec rfl) rfl rfl) (.tmp rfl) (fun w h => ⟨by rw [valD_no (fun h => hw ⟨h.1.1, h.1.2.1⟩)]; rfl, h.up.below⟩) rfl
  · skip
    refine d_reg ?_
    refine h_q hfl rfl ?_
    refine h_call (ent_of Tryz.func33 (by kernel_rfl) rfl) (fun w hH => plainDE _ p true (by omega) (decide_eq_true ⟨hw1, hw2⟩)) rfl rfl rfl rfl ?_
    refine h_q hfl rfl ?_
    refine h_val rfl (.int .u8 (ch.toNat : Int)) (fun b w hb hH => by exact exec_index (i := 0) Tryz.underlying9 hch rfl rfl rfl hb) ?_
    refine h_cmp (cmp_eql_t (by omega)) rfl rfl rfl rfl ?_
    refine h_q hfl rfl ?_
    refine h_builtin (v := .int .i64 (p.length : Int)) (fun w cs => run_len_bs Tryz.underlying9 _ _ w cs) rfl rfl rfl ?_
    refine h_cmp (cmp_gtr_t (by omega)) rfl rfl rfl rfl ?_
    refine h_q hfl rfl ?_
    refine h_done (d_then rfl (d_reg ?_))
    refine h_build (cs := #[.int .i64 0, .int .u64 0, .int .i64 0]) (by kernel_rfl) rfl rfl rfl ?_
    refine h_store 0 (v := .agg #[.int .i64 0, .int .u64 0, .int .i64 0]) (#[.int .i64 0, .int .u64 0, .int .i64 0]) tyDec.2 rfl rfl rfl rfl rfl rfl rfl rfl rfl rfl ?_
    refine h_q hfl rfl ?_
    refine h_done (d_ret (f_then_ret ?_))
    exact f_fin2 (.cell 0 (v := .agg #[.int .i64 0, .int .u64 0, .int .i64 0]) (reads_agg (cs := [.int .i64 0, .int .u64 0, .int .i64 0]) tyDec rfl) rfl rfl) (.tmp rfl) (fun w h => ⟨by rw [valD_no (fun h => not_plain48 hw3 hch hc0 h.1)]; rfl, h.up.below⟩) rfl
  · skip
    refine d_reg ?_
    refine h_q hfl rfl ?_
    refine h_call (ent_of Tryz.func33 (by kernel_rfl) rfl) (fun w hH => plainDE _ p true (by omega) (decide_eq_true ⟨hpl.1, hpl.2.1⟩)) rfl rfl rfl rfl ?_
    refine h_q hfl rfl ?_
    refine h_val rfl (.int .u8 (ch.toNat : Int)) (fun b w hb hH => by exact exec_index (i := 0) Tryz.underlying9 hch rfl rfl rfl hb) ?_
    refine h_cmp (cmp_eql_t (by omega)) rfl rfl rfl rfl ?_
    refine h_q hfl rfl ?_
    refine h_builtin (v := .int .i64 (p.length : Int)) (fun w cs => run_len_bs Tryz.underlying9 _ _ w cs) rfl rfl rfl ?_
    refine h_cmp (cmp_gtr_f (by omega)) rfl rfl rfl rfl ?_
    refine h_q hfl rfl ?_
    refine h_done (d_else rfl (d_skip (f_to (d_seq ?_))))
    have hqa : allD [] := allD_nil
    have hq0 : false = true → ([] : List UInt8) ≠ [] := by simp
    have hq18 : ([] : List UInt8).length ≤ 18 := by decide
    refine d_reg ?_
    refine h_q hfl rfl ?_
    refine h_builtin (v := .int .i64 (([]).length : Int)) (fun w cs => run_len_bs Tryz.underlying9 _ _ w cs) rfl rfl rfl ?_
    refine h_cmp (cmp_gtr_f (by decide)) rfl rfl rfl rfl ?_
    refine h_q hfl rfl ?_
    refine h_done (d_else rfl (d_skip (f_to ?_)))
    have hall : allD (p ++ []) := allD_app.2 ⟨hpl.2.1, hqa⟩
    have horz : orZ (dropZ (p ++ [])) = Lib.decDigits (nv (p ++ [])) := orZ_dd hall
    have hlx : (45 :: orZ (dropZ (p ++ []))).length ≤ 9223372036854775807 := by have := len_orZ (p ++ []); simp only [List.length_append, List.length_nil] at this; first | omega | (simp only [List.length_cons]; omega)
    refine d_reg ?_
    refine h_q hfl rfl ?_
    refine h_cat (r := p ++ ([])) rfl (by first | omega | (simp only [List.length_nil]; omega)) rfl rfl rfl rfl ?_
    refine h_call (ent_of Tryz.func35 (by kernel_rfl) rfl) (fun w hH => trimL_any _ (p ++ [])) rfl rfl rfl rfl ?_
    refine h_bs2 bsTwo rfl rfl rfl rfl ?_; intro g53_2
    refine h_call (ent_of Tryz.func34 (by kernel_rfl) rfl) (fun w hH => orS_any _ _ (dropZ (p ++ [])) (hH.row 0 rfl).lt (by rw [(hH.row 0 rfl).cell]; rfl) (by rw [(hH.row 0 rfl).cell]; rfl)) rfl rfl rfl rfl ?_
    refine h_q hfl rfl ?_
    refine h_done ?_
    refine WC2.keep (env' := [(2, .pointer (some ⟨g2_1, 0, none⟩)), (3, .int .i64 0), (5, .bool true), (7, .string (bs ([]))), (9, .string (bs (orZ (dropZ (p ++ [])))))]) ⟨rfl, rfl, rfl, rfl, rfl, trivial⟩ ?_
    refine d_seq (d_reg ?_)
    refine h_q hfl rfl ?_
    refine h_done (d_then rfl (d_reg1 ?_))
    refine h_q hfl rfl ?_
    refine h_cat (r := ([45]) ++ (orZ (dropZ (p ++ [])))) rfl (by have := len_orZ (p ++ []); simp only [List.length_append, List.length_nil] at this; simp only [List.length_cons, List.length_nil]; omega) rfl rfl rfl rfl ?_
    refine h_q hfl rfl ?_
    refine h_nil (f_to ?_)
    rcases fin_ways true (nv (p ++ [])) with ⟨hm1, hz⟩ | ⟨hz, hf⟩ | ⟨hz, hf⟩
    · skip
      refine d_reg ?_
      refine h_q hfl rfl ?_
      refine h_call (ent_of Tryz.func36 (by kernel_rfl) rfl) (fun w hH => parseE _ (v := .tuple #[WV 0, .int .i64 23]) (by rw [horz, hz]; exact parse_dd0) hlx (hE.up hH.up.below)) rfl rfl rfl rfl ?_
      refine h_q hfl rfl ?_
      refine h_alloc zeWide rfl rfl ?_; intro g10_3
      refine h_store 0 (v := WV 0) (#[hiW 0, loW 0]) tyWide.2 rfl rfl rfl rfl rfl rfl rfl rfl rfl rfl ?_
      refine h_q hfl rfl ?_
      refine h_done (d_reg ?_)
      refine h_load 0 (v := .agg #[hiW 0, loW 0]) (reads_agg (cs := [hiW 0, loW 0]) tyWide rfl) rfl rfl rfl rfl ?_
      refine h_q hfl rfl ?_
      refine h_builtin (v := .int .i64 (([]).length : Int)) (fun w cs => run_len_bs Tryz.underlying9 _ _ w cs) rfl rfl rfl ?_
      refine h_q hfl rfl ?_
      refine h_call (ent_of Tryz.func24 (by kernel_rfl) rfl) (fun w hH => made_no _ 0 ([].length : Int) 23 (by decide)) rfl rfl rfl rfl ?_
      refine h_q hfl rfl ?_
      refine h_store 2 (v := Dc 0 0) (#[hiW 0, loW 0, .int .i64 0]) tyDec.2 rfl rfl rfl rfl rfl rfl rfl rfl rfl rfl ?_
      refine h_q hfl rfl ?_
      refine h_done (d_ret ?_)
      exact f_fin2 (.cell 2 (v := .agg #[hiW 0, loW 0, .int .i64 0]) (reads_agg (cs := [hiW 0, loW 0, .int .i64 0]) tyDec rfl) rfl rfl) (.tmp rfl) (fun w h => ⟨by rw [valD_no (fun h => h.2.2.2.2 ⟨rfl, hz⟩)]; rfl, h.up.below⟩) rfl
    · skip
      have hok : okD true p [] false := ⟨hpl, hq0, hqa, hq18, hz⟩
      refine d_reg ?_
      refine h_q hfl rfl ?_
      refine h_call (ent_of Tryz.func36 (by kernel_rfl) rfl) (fun w hH => parseE _ (v := .tuple #[WV (-(nv (p ++ []) : Int)), .int .i64 0]) (by rw [horz]; exact ((parse_dd true (nv (p ++ [])) hz)).trans (resV_fit hf)) hlx (hE.up hH.up.below)) rfl rfl rfl rfl ?_
      refine h_q hfl rfl ?_
      refine h_alloc zeWide rfl rfl ?_; intro g10_4
      refine h_store 0 (v := WV (-(nv (p ++ []) : Int))) (#[hiW (-(nv (p ++ []) : Int)), loW (-(nv (p ++ []) : Int))]) tyWide.2 rfl rfl rfl rfl rfl rfl rfl rfl rfl rfl ?_
      refine h_q hfl rfl ?_
      refine h_done (d_reg ?_)
      refine h_load 0 (v := .agg #[hiW (-(nv (p ++ []) : Int)), loW (-(nv (p ++ []) : Int))]) (reads_agg (cs := [hiW (-(nv (p ++ []) : Int)), loW (-(nv (p ++ []) : Int))]) tyWide rfl) rfl rfl rfl rfl ?_
      refine h_q hfl rfl ?_
      refine h_builtin (v := .int .i64 (([]).length : Int)) (fun w cs => run_len_bs Tryz.underlying9 _ _ w cs) rfl rfl rfl ?_
      refine h_q hfl rfl ?_
      refine h_call (ent_of Tryz.func24 (by kernel_rfl) rfl) (fun w hH => made_ok _ (-(nv (p ++ []) : Int)) ([].length : Int)) rfl rfl rfl rfl ?_
      refine h_q hfl rfl ?_
      refine h_store 2 (v := Dc (-(nv (p ++ []) : Int)) ([].length : Int)) (#[hiW (-(nv (p ++ []) : Int)), loW (-(nv (p ++ []) : Int)), .int .i64 ([].length : Int)]) tyDec.2 rfl rfl rfl rfl rfl rfl rfl rfl rfl rfl ?_
      refine h_q hfl rfl ?_
      refine h_done (d_ret ?_)
      exact f_fin2 (.cell 2 (v := .agg #[hiW (-(nv (p ++ []) : Int)), loW (-(nv (p ++ []) : Int)), .int .i64 ([].length : Int)]) (reads_agg (cs := [hiW (-(nv (p ++ []) : Int)), loW (-(nv (p ++ []) : Int)), .int .i64 ([].length : Int)]) tyDec rfl) rfl rfl) (.tmp rfl) (fun w h => ⟨by rw [valD, if_pos hok]; exact congrArg _ (if_pos hf).symm, h.up.below⟩) rfl
    · skip
      have hok : okD true p [] false := ⟨hpl, hq0, hqa, hq18, hz⟩
      refine d_reg ?_
      refine h_q hfl rfl ?_
      refine h_call (ent_of Tryz.func36 (by kernel_rfl) rfl) (fun w hH => parseE _ (v := .tuple #[WV 0, .int .i64 20]) (by rw [horz]; exact ((parse_dd true (nv (p ++ [])) hz)).trans (resV_over hf)) hlx (hE.up hH.up.below)) rfl rfl rfl rfl ?_
      refine h_q hfl rfl ?_
      refine h_alloc zeWide rfl rfl ?_; intro g10_5
      refine h_store 0 (v := WV 0) (#[hiW 0, loW 0]) tyWide.2 rfl rfl rfl rfl rfl rfl rfl rfl rfl rfl ?_
      refine h_q hfl rfl ?_
      refine h_done (d_reg ?_)
      refine h_load 0 (v := .agg #[hiW 0, loW 0]) (reads_agg (cs := [hiW 0, loW 0]) tyWide rfl) rfl rfl rfl rfl ?_
      refine h_q hfl rfl ?_
      refine h_builtin (v := .int .i64 (([]).length : Int)) (fun w cs => run_len_bs Tryz.underlying9 _ _ w cs) rfl rfl rfl ?_
      refine h_q hfl rfl ?_
      refine h_call (ent_of Tryz.func24 (by kernel_rfl) rfl) (fun w hH => made_no _ 0 ([].length : Int) 20 (by decide)) rfl rfl rfl rfl ?_
      refine h_q hfl rfl ?_
      refine h_store 2 (v := Dc 0 0) (#[hiW 0, loW 0, .int .i64 0]) tyDec.2 rfl rfl rfl rfl rfl rfl rfl rfl rfl rfl ?_
      refine h_q hfl rfl ?_
      refine h_done (d_ret ?_)
      exact f_fin2 (.cell 2 (v := .agg #[hiW 0, loW 0, .int .i64 0]) (reads_agg (cs := [hiW 0, loW 0, .int .i64 0]) tyDec rfl) rfl rfl) (.tmp rfl) (fun w h => ⟨by rw [valD, if_pos hok]; exact congrArg _ (if_neg hf).symm, h.up.below⟩) rfl
  · skip
    refine d_reg ?_
    refine h_q hfl rfl ?_
    refine h_call (ent_of Tryz.func33 (by kernel_rfl) rfl) (fun w hH => plainDE _ p true (by omega) (decide_eq_true ⟨hpl.1, hpl.2.1⟩)) rfl rfl rfl rfl ?_
    refine h_q hfl rfl ?_
    refine h_val rfl (.int .u8 (ch.toNat : Int)) (fun b w hb hH => by exact exec_index (i := 0) Tryz.underlying9 hch rfl rfl rfl hb) ?_
    refine h_cmp (cmp_eql_f (by omega)) rfl rfl rfl rfl ?_
    refine h_q hfl rfl ?_
    refine h_done (d_else rfl (d_skip (f_to (d_seq ?_))))
    have hqa : allD [] := allD_nil
    have hq0 : false = true → ([] : List UInt8) ≠ [] := by simp
    have hq18 : ([] : List UInt8).length ≤ 18 := by decide
    refine d_reg ?_
    refine h_q hfl rfl ?_
    refine h_builtin (v := .int .i64 (([]).length : Int)) (fun w cs => run_len_bs Tryz.underlying9 _ _ w cs) rfl rfl rfl ?_
    refine h_cmp (cmp_gtr_f (by decide)) rfl rfl rfl rfl ?_
    refine h_q hfl rfl ?_
    refine h_done (d_else rfl (d_skip (f_to ?_)))
    have hall : allD (p ++ []) := allD_app.2 ⟨hpl.2.1, hqa⟩
    have horz : orZ (dropZ (p ++ [])) = Lib.decDigits (nv (p ++ [])) := orZ_dd hall
    have hlx : (45 :: orZ (dropZ (p ++ []))).length ≤ 9223372036854775807 := by have := len_orZ (p ++ []); simp only [List.length_append, List.length_nil] at this; first | omega | (simp only [List.length_cons]; omega)
    refine d_reg ?_
    refine h_q hfl rfl ?_
    refine h_cat (r := p ++ ([])) rfl (by first | omega | (simp only [List.length_nil]; omega)) rfl rfl rfl rfl ?_
    refine h_call (ent_of Tryz.func35 (by kernel_rfl) rfl) (fun w hH => trimL_any _ (p ++ [])) rfl rfl rfl rfl ?_
    refine h_bs2 bsTwo rfl rfl rfl rfl ?_; intro g53_6
    refine h_call (ent_of Tryz.func34 (by kernel_rfl) rfl) (fun w hH => orS_any _ _ (dropZ (p ++ [])) (hH.row 0 rfl).lt (by rw [(hH.row 0 rfl).cell]; rfl) (by rw [(hH.row 0 rfl).cell]; rfl)) rfl rfl rfl rfl ?_
    refine h_q hfl rfl ?_
    refine h_done ?_
    refine WC2.keep (env' := [(2, .pointer (some ⟨g2_1, 0, none⟩)), (3, .int .i64 0), (5, .bool true), (7, .string (bs ([]))), (9, .string (bs (orZ (dropZ (p ++ [])))))]) ⟨rfl, rfl, rfl, rfl, rfl, trivial⟩ ?_
    refine d_seq (d_reg ?_)
    refine h_q hfl rfl ?_
    refine h_done (d_then rfl (d_reg1 ?_))
    refine h_q hfl rfl ?_
    refine h_cat (r := ([45]) ++ (orZ (dropZ (p ++ [])))) rfl (by have := len_orZ (p ++ []); simp only [List.length_append, List.length_nil] at this; simp only [List.length_cons, List.length_nil]; omega) rfl rfl rfl rfl ?_
    refine h_q hfl rfl ?_
    refine h_nil (f_to ?_)
    rcases fin_ways true (nv (p ++ [])) with ⟨hm1, hz⟩ | ⟨hz, hf⟩ | ⟨hz, hf⟩
    · skip
      refine d_reg ?_
      refine h_q hfl rfl ?_
      refine h_call (ent_of Tryz.func36 (by kernel_rfl) rfl) (fun w hH => parseE _ (v := .tuple #[WV 0, .int .i64 23]) (by rw [horz, hz]; exact parse_dd0) hlx (hE.up hH.up.below)) rfl rfl rfl rfl ?_
      refine h_q hfl rfl ?_
      refine h_alloc zeWide rfl rfl ?_; intro g10_7
      refine h_store 0 (v := WV 0) (#[hiW 0, loW 0]) tyWide.2 rfl rfl rfl rfl rfl rfl rfl rfl rfl rfl ?_
      refine h_q hfl rfl ?_
      refine h_done (d_reg ?_)
      refine h_load 0 (v := .agg #[hiW 0, loW 0]) (reads_agg (cs := [hiW 0, loW 0]) tyWide rfl) rfl rfl rfl rfl ?_
      refine h_q hfl rfl ?_
      refine h_builtin (v := .int .i64 (([]).length : Int)) (fun w cs => run_len_bs Tryz.underlying9 _ _ w cs) rfl rfl rfl ?_
      refine h_q hfl rfl ?_
      refine h_call (ent_of Tryz.func24 (by kernel_rfl) rfl) (fun w hH => made_no _ 0 ([].length : Int) 23 (by decide)) rfl rfl rfl rfl ?_
      refine h_q hfl rfl ?_
      refine h_store 2 (v := Dc 0 0) (#[hiW 0, loW 0, .int .i64 0]) tyDec.2 rfl rfl rfl rfl rfl rfl rfl rfl rfl rfl ?_
      refine h_q hfl rfl ?_
      refine h_done (d_ret ?_)
      exact f_fin2 (.cell 2 (v := .agg #[hiW 0, loW 0, .int .i64 0]) (reads_agg (cs := [hiW 0, loW 0, .int .i64 0]) tyDec rfl) rfl rfl) (.tmp rfl) (fun w h => ⟨by rw [valD_no (fun h => h.2.2.2.2 ⟨rfl, hz⟩)]; rfl, h.up.below⟩) rfl
    · skip
      have hok : okD true p [] false := ⟨hpl, hq0, hqa, hq18, hz⟩
      refine d_reg ?_
      refine h_q hfl rfl ?_
      refine h_call (ent_of Tryz.func36 (by kernel_rfl) rfl) (fun w hH => parseE _ (v := .tuple #[WV (-(nv (p ++ []) : Int)), .int .i64 0]) (by rw [horz]; exact ((parse_dd true (nv (p ++ [])) hz)).trans (resV_fit hf)) hlx (hE.up hH.up.below)) rfl rfl rfl rfl ?_
      refine h_q hfl rfl ?_
      refine h_alloc zeWide rfl rfl ?_; intro g10_8
      refine h_store 0 (v := WV (-(nv (p ++ []) : Int))) (#[hiW (-(nv (p ++ []) : Int)), loW (-(nv (p ++ []) : Int))]) tyWide.2 rfl rfl rfl rfl rfl rfl rfl rfl rfl rfl ?_
      refine h_q hfl rfl ?_
      refine h_done (d_reg ?_)
      refine h_load 0 (v := .agg #[hiW (-(nv (p ++ []) : Int)), loW (-(nv (p ++ []) : Int))]) (reads_agg (cs := [hiW (-(nv (p ++ []) : Int)), loW (-(nv (p ++ []) : Int))]) tyWide rfl) rfl rfl rfl rfl ?_
      refine h_q hfl rfl ?_
      refine h_builtin (v := .int .i64 (([]).length : Int)) (fun w cs => run_len_bs Tryz.underlying9 _ _ w cs) rfl rfl rfl ?_
      refine h_q hfl rfl ?_
      refine h_call (ent_of Tryz.func24 (by kernel_rfl) rfl) (fun w hH => made_ok _ (-(nv (p ++ []) : Int)) ([].length : Int)) rfl rfl rfl rfl ?_
      refine h_q hfl rfl ?_
      refine h_store 2 (v := Dc (-(nv (p ++ []) : Int)) ([].length : Int)) (#[hiW (-(nv (p ++ []) : Int)), loW (-(nv (p ++ []) : Int)), .int .i64 ([].length : Int)]) tyDec.2 rfl rfl rfl rfl rfl rfl rfl rfl rfl rfl ?_
      refine h_q hfl rfl ?_
      refine h_done (d_ret ?_)
      exact f_fin2 (.cell 2 (v := .agg #[hiW (-(nv (p ++ []) : Int)), loW (-(nv (p ++ []) : Int)), .int .i64 ([].length : Int)]) (reads_agg (cs := [hiW (-(nv (p ++ []) : Int)), loW (-(nv (p ++ []) : Int)), .int .i64 ([].length : Int)]) tyDec rfl) rfl rfl) (.tmp rfl) (fun w h => ⟨by rw [valD, if_pos hok]; exact congrArg _ (if_pos hf).symm, h.up.below⟩) rfl
    · skip
      have hok : okD true p [] false := ⟨hpl, hq0, hqa, hq18, hz⟩
      refine d_reg ?_
      refine h_q hfl rfl ?_
      refine h_call (ent_of Tryz.func36 (by kernel_rfl) rfl) (fun w hH => parseE _ (v := .tuple #[WV 0, .int .i64 20]) (by rw [horz]; exact ((parse_dd true (nv (p ++ [])) hz)).trans (resV_over hf)) hlx (hE.up hH.up.below)) rfl rfl rfl rfl ?_
      refine h_q hfl rfl ?_
      refine h_alloc zeWide rfl rfl ?_; intro g10_9
      refine h_store 0 (v := WV 0) (#[hiW 0, loW 0]) tyWide.2 rfl rfl rfl rfl rfl rfl rfl rfl rfl rfl ?_
      refine h_q hfl rfl ?_
      refine h_done (d_reg ?_)
      refine h_load 0 (v := .agg #[hiW 0, loW 0]) (reads_agg (cs := [hiW 0, loW 0]) tyWide rfl) rfl rfl rfl rfl ?_
      refine h_q hfl rfl ?_
      refine h_builtin (v := .int .i64 (([]).length : Int)) (fun w cs => run_len_bs Tryz.underlying9 _ _ w cs) rfl rfl rfl ?_
      refine h_q hfl rfl ?_
      refine h_call (ent_of Tryz.func24 (by kernel_rfl) rfl) (fun w hH => made_no _ 0 ([].length : Int) 20 (by decide)) rfl rfl rfl rfl ?_
      refine h_q hfl rfl ?_
      refine h_store 2 (v := Dc 0 0) (#[hiW 0, loW 0, .int .i64 0]) tyDec.2 rfl rfl rfl rfl rfl rfl rfl rfl rfl rfl ?_
      refine h_q hfl rfl ?_
      refine h_done (d_ret ?_)
      exact f_fin2 (.cell 2 (v := .agg #[hiW 0, loW 0, .int .i64 0]) (reads_agg (cs := [hiW 0, loW 0, .int .i64 0]) tyDec rfl) rfl rfl) (.tmp rfl) (fun w h => ⟨by rw [valD, if_pos hok]; exact congrArg _ (if_neg hf).symm, h.up.below⟩) rfl

theorem parsed_tt (w : World) (l D p q : List UInt8) (hc : cutS l = (true, D)) (hp46 : ∀ b ∈ p, b ≠ 46) (hD : D = p ++ 46 :: q) (hlen : l.length ≤ 9223372036854775807) (hE : ErrIs w) : Calls Tryz.prog 12 #[.string (bs l)] w fun e w' => e = .returned (valD true p q true) ∧ Below w.heap.size w w' := by
  have hDl := cut_len hc
  have hDt := cut_lent hc
  have hDp : D.length = p.length + (q.length + 1) := by rw [hD]; simp
  refine d_in (args := [.string (bs l)]) 70 Tryz.func12 rfl rfl rfl ?_
  refine d_reg ?_
  refine h_alloc zeDec rfl rfl ?_; intro g2_1
  refine h_q hfl rfl ?_
  refine h_done (d_reg ?_)
  refine h_q hfl rfl ?_
  refine h_call (ent_of Tryz.func31 (by kernel_rfl) rfl) (fun w hH => cutPrefix_any _ l D true hc hlen) rfl rfl rfl rfl ?_
  refine h_q hfl rfl ?_
  refine h_done (d_reg ?_)
  refine h_q hfl rfl ?_
  refine h_call (ent_of Tryz.func32 (by kernel_rfl) rfl) (fun w hH => cutD_at _ hD hp46 (Nat.le_trans (cut_len hc) hlen)) rfl rfl rfl rfl ?_
  refine h_q hfl rfl ?_
  refine h_done (d_seq ?_)
  rcases whole_ways p with hw | ⟨hw1, hw2, hw3, ch, hch, hc0⟩ | ⟨hpl, hw3, ch, hch, hc0⟩ | ⟨hpl, ch, hch, hc0⟩
  · skip
    refine d_reg ?_
    refine h_q hfl rfl ?_
    refine h_call (ent_of Tryz.func33 (by kernel_rfl) rfl) (fun w hH => plainDE _ p false (by omega) (decide_eq_false hw)) rfl rfl rfl rfl ?_
    refine h_q hfl rfl ?_
    refine h_done (d_then rfl (d_reg ?_))
    refine h_build (cs := #[.int .i64 0, .int .u64 0, .int .i64 0]) (by kernel_rfl) rfl rfl rfl ?_
    refine h_store 0 (v := .agg #[.int .i64 0, .int .u64 0, .int .i64 0]) (#[.int .i64 0, .int .u64 0, .int .i64 0]) tyDec.2 rfl rfl rfl rfl rfl rfl rfl rfl rfl rfl ?_
    refine h_q hfl rfl ?_
    refine h_done (d_ret (f_then_ret ?_))
    exact f_fin2 (.cell 0 (v := .agg #[.int .i64 0, .int .u64 0, .int .i64 0]) (reads_agg (cs := [.int .i64 0, .int .u64 0, .int .i64 0]) tyDec rfl) rfl rfl) (.tmp rfl) (fun w h => ⟨by rw [valD_no (fun h => hw ⟨h.1.1, h.1.2.1⟩)]; rfl, h.up.below⟩) rfl
  · skip
    refine d_reg ?_
    refine h_q hfl rfl ?_
    refine h_call (ent_of Tryz.func33 (by kernel_rfl) rfl) (fun w hH => plainDE _ p true (by omega) (decide_eq_true ⟨hw1, hw2⟩)) rfl rfl rfl rfl ?_
    refine h_q hfl rfl ?_
    refine h_val rfl (.int .u8 (ch.toNat : Int)) (fun b w hb hH => by exact exec_index (i := 0) Tryz.underlying9 hch rfl rfl rfl hb) ?_
    refine h_cmp (cmp_eql_t (by omega)) rfl rfl rfl rfl ?_
    refine h_q hfl rfl ?_
    refine h_builtin (v := .int .i64 (p.length : Int)) (fun w cs => run_len_bs Tryz.underlying9 _ _ w cs) rfl rfl rfl ?_
    refine h_cmp (cmp_gtr_t (by omega)) rfl rfl rfl rfl ?_
    refine h_q hfl rfl ?_
    refine h_done (d_then rfl (d_reg ?_))
    refine h_build (cs := #[.int .i64 0, .int .u64 0, .int .i64 0]) (by kernel_rfl) rfl rfl rfl ?_
    refine h_store 0 (v := .agg #[.int .i64 0, .int .u64 0, .int .i64 0]) (#[.int .i64 0, .int .u64 0, .int .i64 0]) tyDec.2 rfl rfl rfl rfl rfl rfl rfl rfl rfl rfl ?_
    refine h_q hfl rfl ?_
    refine h_done (d_ret (f_then_ret ?_))
    exact f_fin2 (.cell 0 (v := .agg #[.int .i64 0, .int .u64 0, .int .i64 0]) (reads_agg (cs := [.int .i64 0, .int .u64 0, .int .i64 0]) tyDec rfl) rfl rfl) (.tmp rfl) (fun w h => ⟨by rw [valD_no (fun h => not_plain48 hw3 hch hc0 h.1)]; rfl, h.up.below⟩) rfl
  · skip
    refine d_reg ?_
    refine h_q hfl rfl ?_
    refine h_call (ent_of Tryz.func33 (by kernel_rfl) rfl) (fun w hH => plainDE _ p true (by omega) (decide_eq_true ⟨hpl.1, hpl.2.1⟩)) rfl rfl rfl rfl ?_
    refine h_q hfl rfl ?_
    refine h_val rfl (.int .u8 (ch.toNat : Int)) (fun b w hb hH => by exact exec_index (i := 0) Tryz.underlying9 hch rfl rfl rfl hb) ?_
    refine h_cmp (cmp_eql_t (by omega)) rfl rfl rfl rfl ?_
    refine h_q hfl rfl ?_
    refine h_builtin (v := .int .i64 (p.length : Int)) (fun w cs => run_len_bs Tryz.underlying9 _ _ w cs) rfl rfl rfl ?_
    refine h_cmp (cmp_gtr_f (by omega)) rfl rfl rfl rfl ?_
    refine h_q hfl rfl ?_
    refine h_done (d_else rfl (d_skip (f_to (d_seq ?_))))
    rcases (show ¬ (q ≠ [] ∧ allD q) ∨ ((q ≠ [] ∧ allD q) ∧ 18 < q.length) ∨ ((q ≠ [] ∧ allD q) ∧ q.length ≤ 18) by by_cases h : q ≠ [] ∧ allD q; (by_cases h2 : 18 < q.length; exact .inr (.inl ⟨h, h2⟩); exact .inr (.inr ⟨h, by omega⟩)); exact .inl h) with hq | ⟨hq, hq18⟩ | ⟨hq, hq18⟩
    · skip
      refine d_reg ?_
      refine h_q hfl rfl ?_
      refine h_call (ent_of Tryz.func33 (by kernel_rfl) rfl) (fun w hH => plainDE _ q false (by omega) (decide_eq_false hq)) rfl rfl rfl rfl ?_
      refine h_q hfl rfl ?_
      refine h_done (d_then rfl (d_reg ?_))
      refine h_build (cs := #[.int .i64 0, .int .u64 0, .int .i64 0]) (by kernel_rfl) rfl rfl rfl ?_
      refine h_store 0 (v := .agg #[.int .i64 0, .int .u64 0, .int .i64 0]) (#[.int .i64 0, .int .u64 0, .int .i64 0]) tyDec.2 rfl rfl rfl rfl rfl rfl rfl rfl rfl rfl ?_
      refine h_q hfl rfl ?_
      refine h_done (d_ret (f_then_ret ?_))
      exact f_fin2 (.cell 0 (v := .agg #[.int .i64 0, .int .u64 0, .int .i64 0]) (reads_agg (cs := [.int .i64 0, .int .u64 0, .int .i64 0]) tyDec rfl) rfl rfl) (.tmp rfl) (fun w h => ⟨by rw [valD_no (fun h => hq ⟨h.2.1 rfl, h.2.2.1⟩)]; rfl, h.up.below⟩) rfl
    · skip
      refine d_reg ?_
      refine h_q hfl rfl ?_
      refine h_call (ent_of Tryz.func33 (by kernel_rfl) rfl) (fun w hH => plainDE _ q true (by omega) (decide_eq_true hq)) rfl rfl rfl rfl ?_
      refine h_q hfl rfl ?_
      refine h_builtin (v := .int .i64 (q.length : Int)) (fun w cs => run_len_bs Tryz.underlying9 _ _ w cs) rfl rfl rfl ?_
      refine h_cmp (cmp_gtr_t (by omega)) rfl rfl rfl rfl ?_
      refine h_q hfl rfl ?_
      refine h_done (d_then rfl (d_reg ?_))
      refine h_build (cs := #[.int .i64 0, .int .u64 0, .int .i64 0]) (by kernel_rfl) rfl rfl rfl ?_
      refine h_store 0 (v := .agg #[.int .i64 0, .int .u64 0, .int .i64 0]) (#[.int .i64 0, .int .u64 0, .int .i64 0]) tyDec.2 rfl rfl rfl rfl rfl rfl rfl rfl rfl rfl ?_
      refine h_q hfl rfl ?_
      refine h_done (d_ret (f_then_ret ?_))
      exact f_fin2 (.cell 0 (v := .agg #[.int .i64 0, .int .u64 0, .int .i64 0]) (reads_agg (cs := [.int .i64 0, .int .u64 0, .int .i64 0]) tyDec rfl) rfl rfl) (.tmp rfl) (fun w h => ⟨by rw [valD_no (fun h => absurd h.2.2.2.1 (by omega))]; rfl, h.up.below⟩) rfl
    · skip
      have hqa := hq.2
      have hq0 : true = true → q ≠ [] := fun _ => hq.1
      refine d_reg ?_
      refine h_q hfl rfl ?_
      refine h_call (ent_of Tryz.func33 (by kernel_rfl) rfl) (fun w hH => plainDE _ q true (by omega) (decide_eq_true hq)) rfl rfl rfl rfl ?_
      refine h_q hfl rfl ?_
      refine h_builtin (v := .int .i64 (q.length : Int)) (fun w cs => run_len_bs Tryz.underlying9 _ _ w cs) rfl rfl rfl ?_
      refine h_cmp (cmp_gtr_f (by omega)) rfl rfl rfl rfl ?_
      refine h_q hfl rfl ?_
      refine h_done (d_else rfl (d_skip (f_to ?_)))
      have hall : allD (p ++ q) := allD_app.2 ⟨hpl.2.1, hqa⟩
      have horz : orZ (dropZ (p ++ q)) = Lib.decDigits (nv (p ++ q)) := orZ_dd hall
      have hlx : (45 :: orZ (dropZ (p ++ q))).length ≤ 9223372036854775807 := by have := len_orZ (p ++ q); simp only [List.length_append, List.length_nil] at this; first | omega | (simp only [List.length_cons]; omega)
      refine d_reg ?_
      refine h_q hfl rfl ?_
      refine h_cat (r := p ++ q) rfl (by first | omega | (simp only [List.length_nil]; omega)) rfl rfl rfl rfl ?_
      refine h_call (ent_of Tryz.func35 (by kernel_rfl) rfl) (fun w hH => trimL_any _ (p ++ q)) rfl rfl rfl rfl ?_
      refine h_bs2 bsTwo rfl rfl rfl rfl ?_; intro g53_2
      refine h_call (ent_of Tryz.func34 (by kernel_rfl) rfl) (fun w hH => orS_any _ _ (dropZ (p ++ q)) (hH.row 0 rfl).lt (by rw [(hH.row 0 rfl).cell]; rfl) (by rw [(hH.row 0 rfl).cell]; rfl)) rfl rfl rfl rfl ?_
      refine h_q hfl rfl ?_
      refine h_done ?_
      refine WC2.keep (env' := [(2, .pointer (some ⟨g2_1, 0, none⟩)), (3, .int .i64 0), (5, .bool true), (7, .string (bs q)), (9, .string (bs (orZ (dropZ (p ++ q)))))]) ⟨rfl, rfl, rfl, rfl, rfl, trivial⟩ ?_
      refine d_seq (d_reg ?_)
      refine h_q hfl rfl ?_
      refine h_done (d_then rfl (d_reg1 ?_))
      refine h_q hfl rfl ?_
      refine h_cat (r := ([45]) ++ (orZ (dropZ (p ++ q)))) rfl (by have := len_orZ (p ++ q); simp only [List.length_append, List.length_nil] at this; simp only [List.length_cons, List.length_nil]; omega) rfl rfl rfl rfl ?_
      refine h_q hfl rfl ?_
      refine h_nil (f_to ?_)
      rcases fin_ways true (nv (p ++ q)) with ⟨hm1, hz⟩ | ⟨hz, hf⟩ | ⟨hz, hf⟩
      · skip
        refine d_reg ?_
        refine h_q hfl rfl ?_
        refine h_call (ent_of Tryz.func36 (by kernel_rfl) rfl) (fun w hH => parseE _ (v := .tuple #[WV 0, .int .i64 23]) (by rw [horz, hz]; exact parse_dd0) hlx (hE.up hH.up.below)) rfl rfl rfl rfl ?_
        refine h_q hfl rfl ?_
        refine h_alloc zeWide rfl rfl ?_; intro g10_3
        refine h_store 0 (v := WV 0) (#[hiW 0, loW 0]) tyWide.2 rfl rfl rfl rfl rfl rfl rfl rfl rfl rfl ?_
        refine h_q hfl rfl ?_
        refine h_done (d_reg ?_)
        refine h_load 0 (v := .agg #[hiW 0, loW 0]) (reads_agg (cs := [hiW 0, loW 0]) tyWide rfl) rfl rfl rfl rfl ?_
        refine h_q hfl rfl ?_
        refine h_builtin (v := .int .i64 (q.length : Int)) (fun w cs => run_len_bs Tryz.underlying9 _ _ w cs) rfl rfl rfl ?_
        refine h_q hfl rfl ?_
        refine h_call (ent_of Tryz.func24 (by kernel_rfl) rfl) (fun w hH => made_no _ 0 (q.length : Int) 23 (by decide)) rfl rfl rfl rfl ?_
        refine h_q hfl rfl ?_
        refine h_store 2 (v := Dc 0 0) (#[hiW 0, loW 0, .int .i64 0]) tyDec.2 rfl rfl rfl rfl rfl rfl rfl rfl rfl rfl ?_
        refine h_q hfl rfl ?_
        refine h_done (d_ret ?_)
        exact f_fin2 (.cell 2 (v := .agg #[hiW 0, loW 0, .int .i64 0]) (reads_agg (cs := [hiW 0, loW 0, .int .i64 0]) tyDec rfl) rfl rfl) (.tmp rfl) (fun w h => ⟨by rw [valD_no (fun h => h.2.2.2.2 ⟨rfl, hz⟩)]; rfl, h.up.below⟩) rfl
      · skip
        have hok : okD true p q true := ⟨hpl, hq0, hqa, hq18, hz⟩
        refine d_reg ?_
        refine h_q hfl rfl ?_
        refine h_call (ent_of Tryz.func36 (by kernel_rfl) rfl) (fun w hH => parseE _ (v := .tuple #[WV (-(nv (p ++ q) : Int)), .int .i64 0]) (by rw [horz]; exact ((parse_dd true (nv (p ++ q)) hz)).trans (resV_fit hf)) hlx (hE.up hH.up.below)) rfl rfl rfl rfl ?_
        refine h_q hfl rfl ?_
        refine h_alloc zeWide rfl rfl ?_; intro g10_4
        refine h_store 0 (v := WV (-(nv (p ++ q) : Int))) (#[hiW (-(nv (p ++ q) : Int)), loW (-(nv (p ++ q) : Int))]) tyWide.2 rfl rfl rfl rfl rfl rfl rfl rfl rfl rfl ?_
        refine h_q hfl rfl ?_
        refine h_done (d_reg ?_)
        refine h_load 0 (v := .agg #[hiW (-(nv (p ++ q) : Int)), loW (-(nv (p ++ q) : Int))]) (reads_agg (cs := [hiW (-(nv (p ++ q) : Int)), loW (-(nv (p ++ q) : Int))]) tyWide rfl) rfl rfl rfl rfl ?_
        refine h_q hfl rfl ?_
        refine h_builtin (v := .int .i64 (q.length : Int)) (fun w cs => run_len_bs Tryz.underlying9 _ _ w cs) rfl rfl rfl ?_
        refine h_q hfl rfl ?_
        refine h_call (ent_of Tryz.func24 (by kernel_rfl) rfl) (fun w hH => made_ok _ (-(nv (p ++ q) : Int)) (q.length : Int)) rfl rfl rfl rfl ?_
        refine h_q hfl rfl ?_
        refine h_store 2 (v := Dc (-(nv (p ++ q) : Int)) (q.length : Int)) (#[hiW (-(nv (p ++ q) : Int)), loW (-(nv (p ++ q) : Int)), .int .i64 (q.length : Int)]) tyDec.2 rfl rfl rfl rfl rfl rfl rfl rfl rfl rfl ?_
        refine h_q hfl rfl ?_
        refine h_done (d_ret ?_)
        exact f_fin2 (.cell 2 (v := .agg #[hiW (-(nv (p ++ q) : Int)), loW (-(nv (p ++ q) : Int)), .int .i64 (q.length : Int)]) (reads_agg (cs := [hiW (-(nv (p ++ q) : Int)), loW (-(nv (p ++ q) : Int)), .int .i64 (q.length : Int)]) tyDec rfl) rfl rfl) (.tmp rfl) (fun w h => ⟨by rw [valD, if_pos hok]; exact congrArg _ (if_pos hf).symm, h.up.below⟩) rfl
      · skip
        have hok : okD true p q true := ⟨hpl, hq0, hqa, hq18, hz⟩
        refine d_reg ?_
        refine h_q hfl rfl ?_
        refine h_call (ent_of Tryz.func36 (by kernel_rfl) rfl) (fun w hH => parseE _ (v := .tuple #[WV 0, .int .i64 20]) (by rw [horz]; exact ((parse_dd true (nv (p ++ q)) hz)).trans (resV_over hf)) hlx (hE.up hH.up.below)) rfl rfl rfl rfl ?_
        refine h_q hfl rfl ?_
        refine h_alloc zeWide rfl rfl ?_; intro g10_5
        refine h_store 0 (v := WV 0) (#[hiW 0, loW 0]) tyWide.2 rfl rfl rfl rfl rfl rfl rfl rfl rfl rfl ?_
        refine h_q hfl rfl ?_
        refine h_done (d_reg ?_)
        refine h_load 0 (v := .agg #[hiW 0, loW 0]) (reads_agg (cs := [hiW 0, loW 0]) tyWide rfl) rfl rfl rfl rfl ?_
        refine h_q hfl rfl ?_
        refine h_builtin (v := .int .i64 (q.length : Int)) (fun w cs => run_len_bs Tryz.underlying9 _ _ w cs) rfl rfl rfl ?_
        refine h_q hfl rfl ?_
        refine h_call (ent_of Tryz.func24 (by kernel_rfl) rfl) (fun w hH => made_no _ 0 (q.length : Int) 20 (by decide)) rfl rfl rfl rfl ?_
        refine h_q hfl rfl ?_
        refine h_store 2 (v := Dc 0 0) (#[hiW 0, loW 0, .int .i64 0]) tyDec.2 rfl rfl rfl rfl rfl rfl rfl rfl rfl rfl ?_
        refine h_q hfl rfl ?_
        refine h_done (d_ret ?_)
        exact f_fin2 (.cell 2 (v := .agg #[hiW 0, loW 0, .int .i64 0]) (reads_agg (cs := [hiW 0, loW 0, .int .i64 0]) tyDec rfl) rfl rfl) (.tmp rfl) (fun w h => ⟨by rw [valD, if_pos hok]; exact congrArg _ (if_neg hf).symm, h.up.below⟩) rfl
  · skip
    refine d_reg ?_
    refine h_q hfl rfl ?_
    refine h_call (ent_of Tryz.func33 (by kernel_rfl) rfl) (fun w hH => plainDE _ p true (by omega) (decide_eq_true ⟨hpl.1, hpl.2.1⟩)) rfl rfl rfl rfl ?_
    refine h_q hfl rfl ?_
    refine h_val rfl (.int .u8 (ch.toNat : Int)) (fun b w hb hH => by exact exec_index (i := 0) Tryz.underlying9 hch rfl rfl rfl hb) ?_
    refine h_cmp (cmp_eql_f (by omega)) rfl rfl rfl rfl ?_
    refine h_q hfl rfl ?_
    refine h_done (d_else rfl (d_skip (f_to (d_seq ?_))))
    rcases (show ¬ (q ≠ [] ∧ allD q) ∨ ((q ≠ [] ∧ allD q) ∧ 18 < q.length) ∨ ((q ≠ [] ∧ allD q) ∧ q.length ≤ 18) by by_cases h : q ≠ [] ∧ allD q; (by_cases h2 : 18 < q.length; exact .inr (.inl ⟨h, h2⟩); exact .inr (.inr ⟨h, by omega⟩)); exact .inl h) with hq | ⟨hq, hq18⟩ | ⟨hq, hq18⟩
    · skip
      refine d_reg ?_
      refine h_q hfl rfl ?_
      refine h_call (ent_of Tryz.func33 (by kernel_rfl) rfl) (fun w hH => plainDE _ q false (by omega) (decide_eq_false hq)) rfl rfl rfl rfl ?_
      refine h_q hfl rfl ?_
      refine h_done (d_then rfl (d_reg ?_))
      refine h_build (cs := #[.int .i64 0, .int .u64 0, .int .i64 0]) (by kernel_rfl) rfl rfl rfl ?_
      refine h_store 0 (v := .agg #[.int .i64 0, .int .u64 0, .int .i64 0]) (#[.int .i64 0, .int .u64 0, .int .i64 0]) tyDec.2 rfl rfl rfl rfl rfl rfl rfl rfl rfl rfl ?_
      refine h_q hfl rfl ?_
      refine h_done (d_ret (f_then_ret ?_))
      exact f_fin2 (.cell 0 (v := .agg #[.int .i64 0, .int .u64 0, .int .i64 0]) (reads_agg (cs := [.int .i64 0, .int .u64 0, .int .i64 0]) tyDec rfl) rfl rfl) (.tmp rfl) (fun w h => ⟨by rw [valD_no (fun h => hq ⟨h.2.1 rfl, h.2.2.1⟩)]; rfl, h.up.below⟩) rfl
    · skip
      refine d_reg ?_
      refine h_q hfl rfl ?_
      refine h_call (ent_of Tryz.func33 (by kernel_rfl) rfl) (fun w hH => plainDE _ q true (by omega) (decide_eq_true hq)) rfl rfl rfl rfl ?_
      refine h_q hfl rfl ?_
      refine h_builtin (v := .int .i64 (q.length : Int)) (fun w cs => run_len_bs Tryz.underlying9 _ _ w cs) rfl rfl rfl ?_
      refine h_cmp (cmp_gtr_t (by omega)) rfl rfl rfl rfl ?_
      refine h_q hfl rfl ?_
      refine h_done (d_then rfl (d_reg ?_))
      refine h_build (cs := #[.int .i64 0, .int .u64 0, .int .i64 0]) (by kernel_rfl) rfl rfl rfl ?_
      refine h_store 0 (v := .agg #[.int .i64 0, .int .u64 0, .int .i64 0]) (#[.int .i64 0, .int .u64 0, .int .i64 0]) tyDec.2 rfl rfl rfl rfl rfl rfl rfl rfl rfl rfl ?_
      refine h_q hfl rfl ?_
      refine h_done (d_ret (f_then_ret ?_))
      exact f_fin2 (.cell 0 (v := .agg #[.int .i64 0, .int .u64 0, .int .i64 0]) (reads_agg (cs := [.int .i64 0, .int .u64 0, .int .i64 0]) tyDec rfl) rfl rfl) (.tmp rfl) (fun w h => ⟨by rw [valD_no (fun h => absurd h.2.2.2.1 (by omega))]; rfl, h.up.below⟩) rfl
    · skip
      have hqa := hq.2
      have hq0 : true = true → q ≠ [] := fun _ => hq.1
      refine d_reg ?_
      refine h_q hfl rfl ?_
      refine h_call (ent_of Tryz.func33 (by kernel_rfl) rfl) (fun w hH => plainDE _ q true (by omega) (decide_eq_true hq)) rfl rfl rfl rfl ?_
      refine h_q hfl rfl ?_
      refine h_builtin (v := .int .i64 (q.length : Int)) (fun w cs => run_len_bs Tryz.underlying9 _ _ w cs) rfl rfl rfl ?_
      refine h_cmp (cmp_gtr_f (by omega)) rfl rfl rfl rfl ?_
      refine h_q hfl rfl ?_
      refine h_done (d_else rfl (d_skip (f_to ?_)))
      have hall : allD (p ++ q) := allD_app.2 ⟨hpl.2.1, hqa⟩
      have horz : orZ (dropZ (p ++ q)) = Lib.decDigits (nv (p ++ q)) := orZ_dd hall
      have hlx : (45 :: orZ (dropZ (p ++ q))).length ≤ 9223372036854775807 := by have := len_orZ (p ++ q); simp only [List.length_append, List.length_nil] at this; first | omega | (simp only [List.length_cons]; omega)
      refine d_reg ?_
      refine h_q hfl rfl ?_
      refine h_cat (r := p ++ q) rfl (by first | omega | (simp only [List.length_nil]; omega)) rfl rfl rfl rfl ?_
      refine h_call (ent_of Tryz.func35 (by kernel_rfl) rfl) (fun w hH => trimL_any _ (p ++ q)) rfl rfl rfl rfl ?_
      refine h_bs2 bsTwo rfl rfl rfl rfl ?_; intro g53_6
      refine h_call (ent_of Tryz.func34 (by kernel_rfl) rfl) (fun w hH => orS_any _ _ (dropZ (p ++ q)) (hH.row 0 rfl).lt (by rw [(hH.row 0 rfl).cell]; rfl) (by rw [(hH.row 0 rfl).cell]; rfl)) rfl rfl rfl rfl ?_
      refine h_q hfl rfl ?_
      refine h_done ?_
      refine WC2.keep (env' := [(2, .pointer (some ⟨g2_1, 0, none⟩)), (3, .int .i64 0), (5, .bool true), (7, .string (bs q)), (9, .string (bs (orZ (dropZ (p ++ q)))))]) ⟨rfl, rfl, rfl, rfl, rfl, trivial⟩ ?_
      refine d_seq (d_reg ?_)
      refine h_q hfl rfl ?_
      refine h_done (d_then rfl (d_reg1 ?_))
      refine h_q hfl rfl ?_
      refine h_cat (r := ([45]) ++ (orZ (dropZ (p ++ q)))) rfl (by have := len_orZ (p ++ q); simp only [List.length_append, List.length_nil] at this; simp only [List.length_cons, List.length_nil]; omega) rfl rfl rfl rfl ?_
      refine h_q hfl rfl ?_
      refine h_nil (f_to ?_)
      rcases fin_ways true (nv (p ++ q)) with ⟨hm1, hz⟩ | ⟨hz, hf⟩ | ⟨hz, hf⟩
      · skip
        refine d_reg ?_
        refine h_q hfl rfl ?_
        refine h_call (ent_of Tryz.func36 (by kernel_rfl) rfl) (fun w hH => parseE _ (v := .tuple #[WV 0, .int .i64 23]) (by rw [horz, hz]; exact parse_dd0) hlx (hE.up hH.up.below)) rfl rfl rfl rfl ?_
        refine h_q hfl rfl ?_
        refine h_alloc zeWide rfl rfl ?_; intro g10_7
        refine h_store 0 (v := WV 0) (#[hiW 0, loW 0]) tyWide.2 rfl rfl rfl rfl rfl rfl rfl rfl rfl rfl ?_
        refine h_q hfl rfl ?_
        refine h_done (d_reg ?_)
        refine h_load 0 (v := .agg #[hiW 0, loW 0]) (reads_agg (cs := [hiW 0, loW 0]) tyWide rfl) rfl rfl rfl rfl ?_
        refine h_q hfl rfl ?_
        refine h_builtin (v := .int .i64 (q.length : Int)) (fun w cs => run_len_bs Tryz.underlying9 _ _ w cs) rfl rfl rfl ?_
        refine h_q hfl rfl ?_
        refine h_call (ent_of Tryz.func24 (by kernel_rfl) rfl) (fun w hH => made_no _ 0 (q.length : Int) 23 (by decide)) rfl rfl rfl rfl ?_
        refine h_q hfl rfl ?_
        refine h_store 2 (v := Dc 0 0) (#[hiW 0, loW 0, .int .i64 0]) tyDec.2 rfl rfl rfl rfl rfl rfl rfl rfl rfl rfl ?_
        refine h_q hfl rfl ?_
        refine h_done (d_ret ?_)
        exact f_fin2 (.cell 2 (v := .agg #[hiW 0, loW 0, .int .i64 0]) (reads_agg (cs := [hiW 0, loW 0, .int .i64 0]) tyDec rfl) rfl rfl) (.tmp rfl) (fun w h => ⟨by rw [valD_no (fun h => h.2.2.2.2 ⟨rfl, hz⟩)]; rfl, h.up.below⟩) rfl
      · skip
        have hok : okD true p q true := ⟨hpl, hq0, hqa, hq18, hz⟩
        refine d_reg ?_
        refine h_q hfl rfl ?_
        refine h_call (ent_of Tryz.func36 (by kernel_rfl) rfl) (fun w hH => parseE _ (v := .tuple #[WV (-(nv (p ++ q) : Int)), .int .i64 0]) (by rw [horz]; exact ((parse_dd true (nv (p ++ q)) hz)).trans (resV_fit hf)) hlx (hE.up hH.up.below)) rfl rfl rfl rfl ?_
        refine h_q hfl rfl ?_
        refine h_alloc zeWide rfl rfl ?_; intro g10_8
        refine h_store 0 (v := WV (-(nv (p ++ q) : Int))) (#[hiW (-(nv (p ++ q) : Int)), loW (-(nv (p ++ q) : Int))]) tyWide.2 rfl rfl rfl rfl rfl rfl rfl rfl rfl rfl ?_
        refine h_q hfl rfl ?_
        refine h_done (d_reg ?_)
        refine h_load 0 (v := .agg #[hiW (-(nv (p ++ q) : Int)), loW (-(nv (p ++ q) : Int))]) (reads_agg (cs := [hiW (-(nv (p ++ q) : Int)), loW (-(nv (p ++ q) : Int))]) tyWide rfl) rfl rfl rfl rfl ?_
        refine h_q hfl rfl ?_
        refine h_builtin (v := .int .i64 (q.length : Int)) (fun w cs => run_len_bs Tryz.underlying9 _ _ w cs) rfl rfl rfl ?_
        refine h_q hfl rfl ?_
        refine h_call (ent_of Tryz.func24 (by kernel_rfl) rfl) (fun w hH => made_ok _ (-(nv (p ++ q) : Int)) (q.length : Int)) rfl rfl rfl rfl ?_
        refine h_q hfl rfl ?_
        refine h_store 2 (v := Dc (-(nv (p ++ q) : Int)) (q.length : Int)) (#[hiW (-(nv (p ++ q) : Int)), loW (-(nv (p ++ q) : Int)), .int .i64 (q.length : Int)]) tyDec.2 rfl rfl rfl rfl rfl rfl rfl rfl rfl rfl ?_
        refine h_q hfl rfl ?_
        refine h_done (d_ret ?_)
        exact f_fin2 (.cell 2 (v := .agg #[hiW (-(nv (p ++ q) : Int)), loW (-(nv (p ++ q) : Int)), .int .i64 (q.length : Int)]) (reads_agg (cs := [hiW (-(nv (p ++ q) : Int)), loW (-(nv (p ++ q) : Int)), .int .i64 (q.length : Int)]) tyDec rfl) rfl rfl) (.tmp rfl) (fun w h => ⟨by rw [valD, if_pos hok]; exact congrArg _ (if_pos hf).symm, h.up.below⟩) rfl
      · skip
        have hok : okD true p q true := ⟨hpl, hq0, hqa, hq18, hz⟩
        refine d_reg ?_
        refine h_q hfl rfl ?_
        refine h_call (ent_of Tryz.func36 (by kernel_rfl) rfl) (fun w hH => parseE _ (v := .tuple #[WV 0, .int .i64 20]) (by rw [horz]; exact ((parse_dd true (nv (p ++ q)) hz)).trans (resV_over hf)) hlx (hE.up hH.up.below)) rfl rfl rfl rfl ?_
        refine h_q hfl rfl ?_
        refine h_alloc zeWide rfl rfl ?_; intro g10_9
        refine h_store 0 (v := WV 0) (#[hiW 0, loW 0]) tyWide.2 rfl rfl rfl rfl rfl rfl rfl rfl rfl rfl ?_
        refine h_q hfl rfl ?_
        refine h_done (d_reg ?_)
        refine h_load 0 (v := .agg #[hiW 0, loW 0]) (reads_agg (cs := [hiW 0, loW 0]) tyWide rfl) rfl rfl rfl rfl ?_
        refine h_q hfl rfl ?_
        refine h_builtin (v := .int .i64 (q.length : Int)) (fun w cs => run_len_bs Tryz.underlying9 _ _ w cs) rfl rfl rfl ?_
        refine h_q hfl rfl ?_
        refine h_call (ent_of Tryz.func24 (by kernel_rfl) rfl) (fun w hH => made_no _ 0 (q.length : Int) 20 (by decide)) rfl rfl rfl rfl ?_
        refine h_q hfl rfl ?_
        refine h_store 2 (v := Dc 0 0) (#[hiW 0, loW 0, .int .i64 0]) tyDec.2 rfl rfl rfl rfl rfl rfl rfl rfl rfl rfl ?_
        refine h_q hfl rfl ?_
        refine h_done (d_ret ?_)
        exact f_fin2 (.cell 2 (v := .agg #[hiW 0, loW 0, .int .i64 0]) (reads_agg (cs := [hiW 0, loW 0, .int .i64 0]) tyDec rfl) rfl rfl) (.tmp rfl) (fun w h => ⟨by rw [valD, if_pos hok]; exact congrArg _ (if_neg hf).symm, h.up.below⟩) rfl

theorem parseD_any (w : World) (l D p q : List UInt8) (m pt : Bool) (hc : cutS l = (m, D)) (hcut : CutIs D p q pt) (hlen : l.length ≤ 9223372036854775807) (hE : ErrIs w) : Calls Tryz.prog 12 #[.string (bs l)] w fun e w' => e = .returned (valD m p q pt) ∧ Below w.heap.size w w' := by
  obtain ⟨hp, h⟩ := hcut
  rcases h with ⟨rfl, rfl, hD⟩ | ⟨rfl, hD⟩
  · cases m with
    | true => exact parsed_tf w l p (hD ▸ hc) hp hlen hE
    | false => exact parsed_ff w l p (hD ▸ hc) hp hlen hE
  · cases m with
    | true => exact parsed_tt w l D p q hc hp hD hlen hE
    | false => exact parsed_ft w l D p q hc hp hD hlen hE
end Go.Proofs.YtmamedobphlpkaaGreatDoor
