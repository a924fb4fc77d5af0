/-
  HdB
-/
import Derived.Test.YtnknboibmifacaaAI01
import Derived.Test.YtnknboibmifacaaAJ01
set_option linter.unusedSimpArgs false
set_option linter.unusedVariables false

namespace Go.Proofs.Ytnknboibmifacaa.Sep
open Go.RowKit
open Go.Proofs.Ytnknboibmifacaa.Mem (Dist Blk Chg below0)

/-- the last value told, the bytes of an empty frame, and where the last frame ended -/
def HdI (gh gd ge : Nat) (L : List HV) (ps : List (List UInt8)) (j : Nat) : Ass := fun rs => Parts [cell gh 28 #[.int .u64 (((lastH (L.take j)).1 : Nat) : Int), .int .i64 (((lastH (L.take j)).2 : Nat) : Int)], cell gd 3 #[.int .i64 8], cell ge 3 #[.int .i64 ((sumF (ps.take j) : Nat) : Int)]] rs
theorem HdI.open_ {gh gd ge : Nat} {L : List HV} {ps : List (List UInt8)} {j : Nat} : ∀ rs, HdI gh gd ge L ps j rs → ∃ _ : Unit, Parts [cell gh 28 #[.int .u64 (((lastH (L.take j)).1 : Nat) : Int), .int .i64 (((lastH (L.take j)).2 : Nat) : Int)], cell gd 3 #[.int .i64 8], cell ge 3 #[.int .i64 ((sumF (ps.take j) : Nat) : Int)]] rs := fun _ h => ⟨(), h⟩
theorem HdI.openN {gh gd ge : Nat} {L : List HV} {ps : List (List UInt8)} {j n : Nat} {h : HV} (e1 : lastH (L.take j) = h) (e2 : sumF (ps.take j) = n) : ∀ rs, HdI gh gd ge L ps j rs → ∃ _ : Unit, Parts [cell gh 28 #[.int .u64 ((h.1 : Nat) : Int), .int .i64 ((h.2 : Nat) : Int)], cell gd 3 #[.int .i64 8], cell ge 3 #[.int .i64 (n : Int)]] rs := fun _ hz => ⟨(), by subst e1; subst e2; exact hz⟩
theorem hdI_mk {gh gd ge : Nat} {L : List HV} {ps : List (List UInt8)} {j : Nat} {h : HV} (e1 : lastH (L.take j) = h) : ∀ rs, Parts [cell gh 28 #[.int .u64 ((h.1 : Nat) : Int), .int .i64 ((h.2 : Nat) : Int)], cell gd 3 #[.int .i64 8], cell ge 3 #[.int .i64 ((sumF (ps.take j) : Nat) : Int)]] rs → HdI gh gd ge L ps j rs := fun _ hz => by subst e1; exact hz
theorem hdI_0 {gh gd ge : Nat} {L : List HV} {ps : List (List UInt8)} : ∀ rs, Parts [cell gh 28 #[.int .u64 0, .int .i64 0], cell gd 3 #[.int .i64 8], cell ge 3 #[.int .i64 0]] rs → HdI gh gd ge L ps 0 rs := fun _ hz => hdI_mk (h := (0, 0)) rfl _ hz

set_option maxRecDepth 100000 in
theorem latest_a {X : Ass} {v : Value} {y : List UInt8} (hX : Rd8 X v y) (hl : y.length ≤ 137438953472) {ps : List (List UInt8)} {L : List HV} {N n : Nat} {z : HV} (hr : (listL y).1 = ps) (hL : hdP ps = L) (hN : L.length = N) (hNp : ps.length = N) (e1 : lastH (L.take N) = z) (e2 : sumF (ps.take N) = n) : Does Try.prog 17 #[v] [X] (fun (_ : Unit) => .tuple #[.agg #[.int .u64 ((z.1 : Nat) : Int), .int .i64 ((z.2 : Nat) : Int)], .int .i64 (n : Int)]) (fun (_ : Unit) => [X]) := by
  refine d_insM (args := [v]) 31 Try.func17 rfl rfl rfl ?_; intro w rs
  have hlen : ∀ x, x ∈ ps → x.length ≤ 65536 := by have h7 := list_parts y.length y; change ∀ x, x ∈ (listL y).1 → x.length ≤ 65536 at h7; rwa [hr] at h7
  have hsum : ∀ j, sumF (ps.take j) ≤ y.length := fun j => by have h5 := list_sumF y.length y; have h6 := list_le y.length y; change (listL y).2 = sumF (listL y).1 at h5; change (listL y).2 ≤ y.length at h6; have h7 := sumF_le (listL y).1 j; rw [hr] at h7 h5; omega
  refine d_reg ?_
  refine h_q hflU rfl ?_
  refine h_act (post := fun g2 => [cell g2 28 #[.int .u64 0, .int .i64 0], X]) rfl (a_alloc ze_api_Hard rfl) ?_; rintro g2
  refine h_q hflU rfl ?_
  refine h_done (d_reg ?_)
  refine h_q hflU rfl ?_
  refine h_act (post := fun gh => [cell gh 28 #[.int .u64 0, .int .i64 0], cell g2 28 #[.int .u64 0, .int .i64 0], X]) rfl (a_alloc ze_api_Hard rfl) ?_; rintro gh
  refine h_done (d_reg ?_)
  refine h_q hflU rfl ?_
  refine h_act (post := fun v8 => [Vec 5 1 encB v8 (frameL []), cell gh 28 #[.int .u64 0, .int .i64 0], cell g2 28 #[.int .u64 0, .int .i64 0], X]) rfl (a_makes (os' := fun v8 => [Vec 5 1 encB v8 (frameL []), cell gh 28 #[.int .u64 0, .int .i64 0], cell g2 28 #[.int .u64 0, .int .i64 0], X]) [] 0 (ent_of Try.func19 (by kernel_rfl) rfl) (fun w hH => frame_doesU w (sl8_nil w) (by simp) rfl) rfl rfl rfl (fun _ => rfl) rfl rfl rfl) ?_; rintro v8
  refine h_val rfl (.int .i64 8) (fun b w hb hH => e_vlen8 0 Try.underlying50 rfl rfl rfl hH hb) ?_
  refine h_act (post := fun gd => [cell gd 3 #[.int .i64 0], Vec 5 1 encB v8 (frameL []), cell gh 28 #[.int .u64 0, .int .i64 0], cell g2 28 #[.int .u64 0, .int .i64 0], X]) rfl (a_alloc ze_int rfl) ?_; rintro gd
  refine h_act (post := fun ge => [cell ge 3 #[.int .i64 0], cell gd 3 #[.int .i64 0], Vec 5 1 encB v8 (frameL []), cell gh 28 #[.int .u64 0, .int .i64 0], cell g2 28 #[.int .u64 0, .int .i64 0], X]) rfl (a_alloc ze_int rfl) ?_; rintro ge
  refine h_acts (post := fun _ => [cell ge 3 #[.int .i64 0], cell gd 3 #[.int .i64 8], Vec 5 1 encB v8 (frameL []), cell gh 28 #[.int .u64 0, .int .i64 0], cell g2 28 #[.int .u64 0, .int .i64 0], X]) rfl rfl (a_store 1 (v := .int .i64 8) #[.int .i64 8] ty_int.2 rfl rfl rfl rfl rfl rfl rfl rfl rfl) ?_; rintro ⟨⟩
  refine h_acts (post := fun _ => [cell ge 3 #[.int .i64 0], cell gd 3 #[.int .i64 8], Vec 5 1 encB v8 (frameL []), cell gh 28 #[.int .u64 0, .int .i64 0], cell g2 28 #[.int .u64 0, .int .i64 0], X]) rfl rfl (a_store 0 (v := .int .i64 0) #[.int .i64 0] ty_int.2 rfl rfl rfl rfl rfl rfl rfl rfl rfl) ?_; rintro ⟨⟩
  refine h_done (d_seq ?_)
  refine WC2.leave [2] rfl rfl ?_
  refine d_close [2, 1, 0] rfl (hdI_0 (L := L) (ps := ps)) rfl ?_
  refine d_reg ?_
  refine h_q hflU rfl ?_
  refine h_act rfl (a_does  [2] 0 (ent_of Try.func31 (by kernel_rfl) rfl) (all_does hX hl) rfl rfl rfl (fun _ => rfl) rfl rfl rfl) ?_; rintro ⟨g8, w8⟩
  refine h_done (d_block ?_)
  refine WC2.fact 1 rfl (fun _ h => Vec.is h) ?_; rintro ⟨A9, c9, rfl⟩
  refine WC2.keep (env' := [(0, v), (2, .pointer (some ⟨g2, 0, none⟩)), (3, .int .i64 0), (4, .pointer (some ⟨gh, 0, none⟩)), (10, v8), (11, .int .i64 8), (5, .pointer (some ⟨gd, 0, none⟩)), (6, .pointer (some ⟨ge, 0, none⟩)), (12, v), (13, .func (.func 44) #[] #[.pointer (some ⟨g8, 0, none⟩)])]) ⟨rfl, rfl, rfl, rfl, rfl, rfl, rfl, rfl, rfl, rfl, trivial⟩ ?_
  refine WC2.mid [cell g8 50 #[.slice A9 y.length c9], Vec 5 1 encB (.slice A9 y.length c9) y, HdI gh gd ge L ps 0, cell g2 28 #[.int .u64 0, .int .i64 0], X] (.refl _) ?_
  refine wp_rangeF (caps := [.pointer (some ⟨g8, 0, none⟩)]) (post := [HdI gh gd ge L ps N, Vec 5 1 encB (.slice A9 y.length c9) y, cell g8 50 #[.slice A9 y.length c9]]) (os' := [HdI gh gd ge L ps N, Vec 5 1 encB (.slice A9 y.length c9) y, cell g8 50 #[.slice A9 y.length c9], cell g2 28 #[.int .u64 0, .int .i64 0], X]) (.normal) [2, 1, 0] rfl (ent_of Try.func44 (by kernel_rfl) rfl) (fun L1 fn1 tm1 hf1 r1 k11 k12 k13 k14 k15 k16 => it_in (all1 (.yield L1) #[] g8 (fun j => recI L1 r1 (HdI gh gd ge L ps j)) hl hr hlen hNp ?_)) rfl rfl rfl ?_
  · skip
    intro j x d hpj
    have hxl : x.length ≤ 65536 := hlen x (List.mem_of_getElem? hpj)
    have hst := sumF_take hpj
    have hs1 := hsum (j + 1)
    have hje : j < L.length := by have := (List.getElem?_eq_some_iff.1 hpj).1; omega
    obtain ⟨q, hLj⟩ : ∃ q, L[j]? = some q := ⟨_, List.getElem?_eq_getElem hje⟩
    obtain ⟨p, hp1, hp2⟩ := hdP_at (ps := ps) (by rw [hL]; exact hLj)
    rw [hpj] at hp1
    obtain rfl := Option.some.inj hp1
    refine rd_in (doesF_round (n := 31) (env := [(14, d), (0, v), (2, .pointer (some ⟨g2, 0, none⟩)), (3, .int .i64 0), (4, .pointer (some ⟨gh, 0, none⟩)), (10, v8), (11, .int .i64 8), (5, .pointer (some ⟨gd, 0, none⟩)), (6, .pointer (some ⟨ge, 0, none⟩)), (12, v), (13, .func (.func 44) #[] #[.pointer (some ⟨g8, 0, none⟩)])]) (.normal) k12 k11 (by rw [k14]; rfl) ?_ ?_)
    · rw [k14, k13]
      refine (congrArg (fun t => Fr 31 { tmps := t, defers := [] } _) (?_ : _ = (tm1.setIfInBounds 14 d))).mpr (hf1.put (d := 14) (by decide) _)
      simp
    · intro w0 rs
      rw [k15]
      refine r_reg (by kernel_rfl) (by rintro ⟨a, w, h⟩; first | exact h.elim | exact nomatch h.1 | (obtain ⟨_, h, _⟩ := h; exact nomatch h)) ?_
      refine h_q hflU rfl ?_
      refine h_nil ?_
      refine r_begin 0 rfl k11 ?_
      rw [k16]
      refine r_open 1 rfl HdI.open_ (fun _ => rfl) ?_; rintro ⟨⟩
      refine r_block ?_
      refine r_seq (r_reg (by kernel_rfl) (by rintro ⟨a, w, h⟩; first | exact h.elim | exact nomatch h.1 | (obtain ⟨_, h, _⟩ := h; exact nomatch h)) ?_)
      refine h_q hflU rfl ?_
      refine h_act (post := fun _ => [cell gh 28 #[.int .u64 (((lastH (L.take j)).1 : Nat) : Int), .int .i64 (((lastH (L.take j)).2 : Nat) : Int)], cell gd 3 #[.int .i64 8], cell ge 3 #[.int .i64 ((sumF (ps.take j) : Nat) : Int)], recT L1 (busyR r1), Vec 5 1 encB d x]) rfl (a_call (ent_of Try.func32 (by kernel_rfl) rfl) (fun w hH => hread_some w (hH.sl8 4 rfl) hxl hp2) rfl rfl rfl) ?_; rintro ⟨⟩
      refine h_q hflU rfl ?_
      refine h_act (post := fun gx => [cell gx 28 #[.int .u64 0, .int .i64 0], cell gh 28 #[.int .u64 (((lastH (L.take j)).1 : Nat) : Int), .int .i64 (((lastH (L.take j)).2 : Nat) : Int)], cell gd 3 #[.int .i64 8], cell ge 3 #[.int .i64 ((sumF (ps.take j) : Nat) : Int)], recT L1 (busyR r1), Vec 5 1 encB d x]) rfl (a_alloc ze_api_Hard rfl) ?_; rintro gx
      refine h_acts (post := fun _ => [cell gx 28 #[.int .u64 ((q.1 : Nat) : Int), .int .i64 ((q.2 : Nat) : Int)], cell gh 28 #[.int .u64 (((lastH (L.take j)).1 : Nat) : Int), .int .i64 (((lastH (L.take j)).2 : Nat) : Int)], cell gd 3 #[.int .i64 8], cell ge 3 #[.int .i64 ((sumF (ps.take j) : Nat) : Int)], recT L1 (busyR r1), Vec 5 1 encB d x]) rfl rfl (a_store 0 (v := .agg #[.int .u64 ((q.1 : Nat) : Int), .int .i64 ((q.2 : Nat) : Int)]) #[.int .u64 ((q.1 : Nat) : Int), .int .i64 ((q.2 : Nat) : Int)] ty_api_Hard.2 rfl rfl rfl rfl rfl rfl rfl rfl rfl) ?_; rintro ⟨⟩
      refine h_q hflU rfl ?_
      refine h_nil (r_to ?_)
      refine r_seq ?_
      refine r_seq (r_reg (by kernel_rfl) (by rintro ⟨a, w, h⟩; first | exact h.elim | exact nomatch h.1 | (obtain ⟨_, h, _⟩ := h; exact nomatch h)) ?_)
      refine h_q hflU rfl ?_
      refine h_nil (r_to ?_)
      refine r_else rfl ?_
      refine r_skip ?_
      refine r_to ?_
      refine r_seq (r_reg (by kernel_rfl) (by rintro ⟨a, w, h⟩; first | exact h.elim | exact nomatch h.1 | (obtain ⟨_, h, _⟩ := h; exact nomatch h)) ?_)
      refine h_q hflU rfl ?_
      refine h_val rfl (.agg #[.int .u64 ((q.1 : Nat) : Int), .int .i64 ((q.2 : Nat) : Int)]) (fun b w hb hH => exec_load rfl rfl (reads_agg (cs := [.int .u64 ((q.1 : Nat) : Int), .int .i64 ((q.2 : Nat) : Int)]) ty_api_Hard rfl) (hH.row 0 rfl) hb) ?_
      refine h_acts (post := fun _ => [cell gx 28 #[.int .u64 ((q.1 : Nat) : Int), .int .i64 ((q.2 : Nat) : Int)], cell gh 28 #[.int .u64 ((q.1 : Nat) : Int), .int .i64 ((q.2 : Nat) : Int)], cell gd 3 #[.int .i64 8], cell ge 3 #[.int .i64 ((sumF (ps.take j) : Nat) : Int)], recT L1 (busyR r1), Vec 5 1 encB d x]) rfl rfl (a_store 1 (v := .agg #[.int .u64 ((q.1 : Nat) : Int), .int .i64 ((q.2 : Nat) : Int)]) #[.int .u64 ((q.1 : Nat) : Int), .int .i64 ((q.2 : Nat) : Int)] ty_api_Hard.2 rfl rfl rfl rfl rfl rfl rfl rfl rfl) ?_; rintro ⟨⟩
      refine h_nil (r_to ?_)
      refine r_reg (by kernel_rfl) (by rintro ⟨a, w, h⟩; first | exact h.elim | exact nomatch h.1 | (obtain ⟨_, h, _⟩ := h; exact nomatch h)) ?_
      refine h_q hflU rfl ?_
      refine h_val rfl (.int .i64 ((sumF (ps.take j) : Nat) : Int)) (fun b w hb hH => exec_load rfl rfl (reads_one ty_int rfl) (hH.row 3 rfl) hb) ?_
      refine h_val rfl (.int .i64 8) (fun b w hb hH => exec_load rfl rfl (reads_one ty_int rfl) (hH.row 2 rfl) hb) ?_
      refine h_q hflU rfl ?_
      refine h_val rfl (.int .i64 (x.length : Int)) (fun b w hb hH => e_vlen 5 Try.underlying50 rfl rfl rfl hH hb) ?_
      refine h_val rfl (.int .i64 ((8 + x.length : Nat) : Int)) (fun b w hb hH => exec_ar rfl rfl rfl rfl (by rw [IntWalk.i64_in _ (by omega)]; omega) hb) ?_
      refine h_val rfl (.int .i64 ((sumF (ps.take (j + 1)) : Nat) : Int)) (fun b w hb hH => exec_ar rfl rfl rfl rfl (by rw [IntWalk.i64_in _ (by omega)]; omega) hb) ?_
      refine h_acts (post := fun _ => [cell gx 28 #[.int .u64 ((q.1 : Nat) : Int), .int .i64 ((q.2 : Nat) : Int)], cell gh 28 #[.int .u64 ((q.1 : Nat) : Int), .int .i64 ((q.2 : Nat) : Int)], cell gd 3 #[.int .i64 8], cell ge 3 #[.int .i64 ((sumF (ps.take (j + 1)) : Nat) : Int)], recT L1 (busyR r1), Vec 5 1 encB d x]) rfl rfl (a_store 3 (v := .int .i64 ((sumF (ps.take (j + 1)) : Nat) : Int)) #[.int .i64 ((sumF (ps.take (j + 1)) : Nat) : Int)] ty_int.2 rfl rfl rfl rfl rfl rfl rfl rfl rfl) ?_; rintro ⟨⟩
      refine h_nil (f_block ?_)
      refine f_close [1, 2, 3] rfl (hdI_mk (lastH_take hLj)) rfl ?_
      exact r_tell [2, 0] rfl rfl
  intro D aT wT hDm hD0 hdf hF hH
  obtain ⟨_, hH⟩ := hp_open 0 rfl (HdI.openN e1 e2) hH
  refine t_to (env := [(2, .pointer (some ⟨g2, 0, none⟩)), (3, .int .i64 0), (4, .pointer (some ⟨gh, 0, none⟩)), (6, .pointer (some ⟨ge, 0, none⟩))]) (os := [cell gh 28 #[.int .u64 ((z.1 : Nat) : Int), .int .i64 ((z.2 : Nat) : Int)], cell gd 3 #[.int .i64 8], cell ge 3 #[.int .i64 (n : Int)], Vec 5 1 encB (.slice A9 y.length c9) y, cell g8 50 #[.slice A9 y.length c9], cell g2 28 #[.int .u64 0, .int .i64 0], X]) ?_ aT wT hDm hD0 hdf (hF.keep ⟨rfl, rfl, rfl, rfl, trivial⟩) hH
  refine t_anyQ (by kernel_rfl) ?_
  refine bt_two 0 1 (by kernel_rfl) ?_ ?_
  · skip
    refine bt_val rfl rfl (.agg #[.int .u64 ((z.1 : Nat) : Int), .int .i64 ((z.2 : Nat) : Int)]) (fun b w hb hH => exec_load rfl rfl (reads_agg (cs := [.int .u64 ((z.1 : Nat) : Int), .int .i64 ((z.2 : Nat) : Int)]) ty_api_Hard rfl) (hH.row 0 rfl) hb) ?_
    refine bt_two 1 2 (by kernel_rfl) ?_ ?_
    · skip
      refine bt_val rfl rfl (.int .i64 (n : Int)) (fun b w hb hH => exec_load rfl rfl (reads_one ty_int rfl) (hH.row 2 rfl) hb) ?_
      refine bt_one 2 (by kernel_rfl) ?_
      refine bt_acts (post := fun _ => [cell gh 28 #[.int .u64 ((z.1 : Nat) : Int), .int .i64 ((z.2 : Nat) : Int)], cell gd 3 #[.int .i64 8], cell ge 3 #[.int .i64 (n : Int)], Vec 5 1 encB (.slice A9 y.length c9) y, cell g8 50 #[.slice A9 y.length c9], cell g2 28 #[.int .u64 ((z.1 : Nat) : Int), .int .i64 ((z.2 : Nat) : Int)], X]) rfl rfl rfl (fun B w0 => a_store 5 (v := .agg #[.int .u64 ((z.1 : Nat) : Int), .int .i64 ((z.2 : Nat) : Int)]) #[.int .u64 ((z.1 : Nat) : Int), .int .i64 ((z.2 : Nat) : Int)] ty_api_Hard.2 rfl rfl rfl rfl rfl rfl rfl rfl rfl) ?_; rintro ⟨⟩
      refine bt_one 3 (by kernel_rfl) ?_
      refine bt_val rfl rfl (.int .i64 (n : Int)) (fun b w hb hH => exec_q1 hflU rfl hb) ?_
      refine bt_done (by kernel_rfl) (t_to ?_)
      refine WCT.keep (env' := [(2, .pointer (some ⟨g2, 0, none⟩)), (3, .int .i64 (n : Int))]) ⟨rfl, rfl, trivial⟩ ?_
      exact t_ret (fun a w hD hD0 hd hF hH => m_fin2 (os := [cell gh 28 #[.int .u64 ((z.1 : Nat) : Int), .int .i64 ((z.2 : Nat) : Int)], cell gd 3 #[.int .i64 8], cell ge 3 #[.int .i64 (n : Int)], Vec 5 1 encB (.slice A9 y.length c9) y, cell g8 50 #[.slice A9 y.length c9], cell g2 28 #[.int .u64 ((z.1 : Nat) : Int), .int .i64 ((z.2 : Nat) : Int)], X]) (.cell 5 (v := .agg #[.int .u64 ((z.1 : Nat) : Int), .int .i64 ((z.2 : Nat) : Int)]) (reads_agg (cs := [.int .u64 ((z.1 : Nat) : Int), .int .i64 ((z.2 : Nat) : Int)]) ty_api_Hard rfl) rfl rfl) (.tmp rfl) rfl (fun w' h => tells (X := Unit) (val := fun _ => .tuple #[.agg #[.int .u64 ((z.1 : Nat) : Int), .int .i64 ((z.2 : Nat) : Int)], .int .i64 (n : Int)]) (post := fun _ => [X]) (os := [cell gh 28 #[.int .u64 ((z.1 : Nat) : Int), .int .i64 ((z.2 : Nat) : Int)], cell gd 3 #[.int .i64 8], cell ge 3 #[.int .i64 (n : Int)], Vec 5 1 encB (.slice A9 y.length c9) y, cell g8 50 #[.slice A9 y.length c9], cell g2 28 #[.int .u64 ((z.1 : Nat) : Int), .int .i64 ((z.2 : Nat) : Int)], X]) () rfl [6] rfl h same_parts) D a w hD hD0 hd hF hH)
    · skip
      refine bt_acts (post := fun _ => [cell gh 28 #[.int .u64 ((z.1 : Nat) : Int), .int .i64 ((z.2 : Nat) : Int)], cell gd 3 #[.int .i64 8], cell ge 3 #[.int .i64 (n : Int)], Vec 5 1 encB (.slice A9 y.length c9) y, cell g8 50 #[.slice A9 y.length c9], cell g2 28 #[.int .u64 ((z.1 : Nat) : Int), .int .i64 ((z.2 : Nat) : Int)], X]) rfl rfl rfl (fun B w0 => a_store 5 (v := .agg #[.int .u64 ((z.1 : Nat) : Int), .int .i64 ((z.2 : Nat) : Int)]) #[.int .u64 ((z.1 : Nat) : Int), .int .i64 ((z.2 : Nat) : Int)] ty_api_Hard.2 rfl rfl rfl rfl rfl rfl rfl rfl rfl) ?_; rintro ⟨⟩
      refine bt_one 1 (by kernel_rfl) ?_
      refine bt_val rfl rfl (.int .i64 (n : Int)) (fun b w hb hH => exec_load rfl rfl (reads_one ty_int rfl) (hH.row 2 rfl) hb) ?_
      refine bt_one 3 (by kernel_rfl) ?_
      refine bt_val rfl rfl (.int .i64 (n : Int)) (fun b w hb hH => exec_q1 hflU rfl hb) ?_
      refine bt_done (by kernel_rfl) (t_to ?_)
      refine WCT.keep (env' := [(2, .pointer (some ⟨g2, 0, none⟩)), (3, .int .i64 (n : Int))]) ⟨rfl, rfl, trivial⟩ ?_
      exact t_ret (fun a w hD hD0 hd hF hH => m_fin2 (os := [cell gh 28 #[.int .u64 ((z.1 : Nat) : Int), .int .i64 ((z.2 : Nat) : Int)], cell gd 3 #[.int .i64 8], cell ge 3 #[.int .i64 (n : Int)], Vec 5 1 encB (.slice A9 y.length c9) y, cell g8 50 #[.slice A9 y.length c9], cell g2 28 #[.int .u64 ((z.1 : Nat) : Int), .int .i64 ((z.2 : Nat) : Int)], X]) (.cell 5 (v := .agg #[.int .u64 ((z.1 : Nat) : Int), .int .i64 ((z.2 : Nat) : Int)]) (reads_agg (cs := [.int .u64 ((z.1 : Nat) : Int), .int .i64 ((z.2 : Nat) : Int)]) ty_api_Hard rfl) rfl rfl) (.tmp rfl) rfl (fun w' h => tells (X := Unit) (val := fun _ => .tuple #[.agg #[.int .u64 ((z.1 : Nat) : Int), .int .i64 ((z.2 : Nat) : Int)], .int .i64 (n : Int)]) (post := fun _ => [X]) (os := [cell gh 28 #[.int .u64 ((z.1 : Nat) : Int), .int .i64 ((z.2 : Nat) : Int)], cell gd 3 #[.int .i64 8], cell ge 3 #[.int .i64 (n : Int)], Vec 5 1 encB (.slice A9 y.length c9) y, cell g8 50 #[.slice A9 y.length c9], cell g2 28 #[.int .u64 ((z.1 : Nat) : Int), .int .i64 ((z.2 : Nat) : Int)], X]) () rfl [6] rfl h same_parts) D a w hD hD0 hd hF hH)
  · skip
    refine bt_val rfl rfl (.int .i64 (n : Int)) (fun b w hb hH => exec_load rfl rfl (reads_one ty_int rfl) (hH.row 2 rfl) hb) ?_
    refine bt_one 0 (by kernel_rfl) ?_
    refine bt_val rfl rfl (.agg #[.int .u64 ((z.1 : Nat) : Int), .int .i64 ((z.2 : Nat) : Int)]) (fun b w hb hH => exec_load rfl rfl (reads_agg (cs := [.int .u64 ((z.1 : Nat) : Int), .int .i64 ((z.2 : Nat) : Int)]) ty_api_Hard rfl) (hH.row 0 rfl) hb) ?_
    refine bt_one 2 (by kernel_rfl) ?_
    refine bt_acts (post := fun _ => [cell gh 28 #[.int .u64 ((z.1 : Nat) : Int), .int .i64 ((z.2 : Nat) : Int)], cell gd 3 #[.int .i64 8], cell ge 3 #[.int .i64 (n : Int)], Vec 5 1 encB (.slice A9 y.length c9) y, cell g8 50 #[.slice A9 y.length c9], cell g2 28 #[.int .u64 ((z.1 : Nat) : Int), .int .i64 ((z.2 : Nat) : Int)], X]) rfl rfl rfl (fun B w0 => a_store 5 (v := .agg #[.int .u64 ((z.1 : Nat) : Int), .int .i64 ((z.2 : Nat) : Int)]) #[.int .u64 ((z.1 : Nat) : Int), .int .i64 ((z.2 : Nat) : Int)] ty_api_Hard.2 rfl rfl rfl rfl rfl rfl rfl rfl rfl) ?_; rintro ⟨⟩
    refine bt_one 3 (by kernel_rfl) ?_
    refine bt_val rfl rfl (.int .i64 (n : Int)) (fun b w hb hH => exec_q1 hflU rfl hb) ?_
    refine bt_done (by kernel_rfl) (t_to ?_)
    refine WCT.keep (env' := [(2, .pointer (some ⟨g2, 0, none⟩)), (3, .int .i64 (n : Int))]) ⟨rfl, rfl, trivial⟩ ?_
    exact t_ret (fun a w hD hD0 hd hF hH => m_fin2 (os := [cell gh 28 #[.int .u64 ((z.1 : Nat) : Int), .int .i64 ((z.2 : Nat) : Int)], cell gd 3 #[.int .i64 8], cell ge 3 #[.int .i64 (n : Int)], Vec 5 1 encB (.slice A9 y.length c9) y, cell g8 50 #[.slice A9 y.length c9], cell g2 28 #[.int .u64 ((z.1 : Nat) : Int), .int .i64 ((z.2 : Nat) : Int)], X]) (.cell 5 (v := .agg #[.int .u64 ((z.1 : Nat) : Int), .int .i64 ((z.2 : Nat) : Int)]) (reads_agg (cs := [.int .u64 ((z.1 : Nat) : Int), .int .i64 ((z.2 : Nat) : Int)]) ty_api_Hard rfl) rfl rfl) (.tmp rfl) rfl (fun w' h => tells (X := Unit) (val := fun _ => .tuple #[.agg #[.int .u64 ((z.1 : Nat) : Int), .int .i64 ((z.2 : Nat) : Int)], .int .i64 (n : Int)]) (post := fun _ => [X]) (os := [cell gh 28 #[.int .u64 ((z.1 : Nat) : Int), .int .i64 ((z.2 : Nat) : Int)], cell gd 3 #[.int .i64 8], cell ge 3 #[.int .i64 (n : Int)], Vec 5 1 encB (.slice A9 y.length c9) y, cell g8 50 #[.slice A9 y.length c9], cell g2 28 #[.int .u64 ((z.1 : Nat) : Int), .int .i64 ((z.2 : Nat) : Int)], X]) () rfl [6] rfl h same_parts) D a w hD hD0 hd hF hH)

set_option maxRecDepth 100000 in
theorem latest_b {X : Ass} {v : Value} {y : List UInt8} (hX : Rd8 X v y) (hl : y.length ≤ 137438953472) {ps : List (List UInt8)} {L : List HV} {N n : Nat} {z : HV} (hr : (listL y).1 = ps) (hL : hdP ps = L) (hN : L.length = N) (hNp : N < ps.length) (e1 : lastH (L.take N) = z) (e2 : sumF (ps.take N) = n) : Does Try.prog 17 #[v] [X] (fun (_ : Unit) => .tuple #[.agg #[.int .u64 ((z.1 : Nat) : Int), .int .i64 ((z.2 : Nat) : Int)], .int .i64 (n : Int)]) (fun (_ : Unit) => [X]) := by
  refine d_insM (args := [v]) 31 Try.func17 rfl rfl rfl ?_; intro w rs
  have hlen : ∀ x, x ∈ ps → x.length ≤ 65536 := by have h7 := list_parts y.length y; change ∀ x, x ∈ (listL y).1 → x.length ≤ 65536 at h7; rwa [hr] at h7
  have hsum : ∀ j, sumF (ps.take j) ≤ y.length := fun j => by have h5 := list_sumF y.length y; have h6 := list_le y.length y; change (listL y).2 = sumF (listL y).1 at h5; change (listL y).2 ≤ y.length at h6; have h7 := sumF_le (listL y).1 j; rw [hr] at h7 h5; omega
  refine d_reg ?_
  refine h_q hflU rfl ?_
  refine h_act (post := fun g2 => [cell g2 28 #[.int .u64 0, .int .i64 0], X]) rfl (a_alloc ze_api_Hard rfl) ?_; rintro g2
  refine h_q hflU rfl ?_
  refine h_done (d_reg ?_)
  refine h_q hflU rfl ?_
  refine h_act (post := fun gh => [cell gh 28 #[.int .u64 0, .int .i64 0], cell g2 28 #[.int .u64 0, .int .i64 0], X]) rfl (a_alloc ze_api_Hard rfl) ?_; rintro gh
  refine h_done (d_reg ?_)
  refine h_q hflU rfl ?_
  refine h_act (post := fun v8 => [Vec 5 1 encB v8 (frameL []), cell gh 28 #[.int .u64 0, .int .i64 0], cell g2 28 #[.int .u64 0, .int .i64 0], X]) rfl (a_makes (os' := fun v8 => [Vec 5 1 encB v8 (frameL []), cell gh 28 #[.int .u64 0, .int .i64 0], cell g2 28 #[.int .u64 0, .int .i64 0], X]) [] 0 (ent_of Try.func19 (by kernel_rfl) rfl) (fun w hH => frame_doesU w (sl8_nil w) (by simp) rfl) rfl rfl rfl (fun _ => rfl) rfl rfl rfl) ?_; rintro v8
  refine h_val rfl (.int .i64 8) (fun b w hb hH => e_vlen8 0 Try.underlying50 rfl rfl rfl hH hb) ?_
  refine h_act (post := fun gd => [cell gd 3 #[.int .i64 0], Vec 5 1 encB v8 (frameL []), cell gh 28 #[.int .u64 0, .int .i64 0], cell g2 28 #[.int .u64 0, .int .i64 0], X]) rfl (a_alloc ze_int rfl) ?_; rintro gd
  refine h_act (post := fun ge => [cell ge 3 #[.int .i64 0], cell gd 3 #[.int .i64 0], Vec 5 1 encB v8 (frameL []), cell gh 28 #[.int .u64 0, .int .i64 0], cell g2 28 #[.int .u64 0, .int .i64 0], X]) rfl (a_alloc ze_int rfl) ?_; rintro ge
  refine h_acts (post := fun _ => [cell ge 3 #[.int .i64 0], cell gd 3 #[.int .i64 8], Vec 5 1 encB v8 (frameL []), cell gh 28 #[.int .u64 0, .int .i64 0], cell g2 28 #[.int .u64 0, .int .i64 0], X]) rfl rfl (a_store 1 (v := .int .i64 8) #[.int .i64 8] ty_int.2 rfl rfl rfl rfl rfl rfl rfl rfl rfl) ?_; rintro ⟨⟩
  refine h_acts (post := fun _ => [cell ge 3 #[.int .i64 0], cell gd 3 #[.int .i64 8], Vec 5 1 encB v8 (frameL []), cell gh 28 #[.int .u64 0, .int .i64 0], cell g2 28 #[.int .u64 0, .int .i64 0], X]) rfl rfl (a_store 0 (v := .int .i64 0) #[.int .i64 0] ty_int.2 rfl rfl rfl rfl rfl rfl rfl rfl rfl) ?_; rintro ⟨⟩
  refine h_done (d_seq ?_)
  refine WC2.leave [2] rfl rfl ?_
  refine d_close [2, 1, 0] rfl (hdI_0 (L := L) (ps := ps)) rfl ?_
  refine d_reg ?_
  refine h_q hflU rfl ?_
  refine h_act rfl (a_does  [2] 0 (ent_of Try.func31 (by kernel_rfl) rfl) (all_does hX hl) rfl rfl rfl (fun _ => rfl) rfl rfl rfl) ?_; rintro ⟨g8, w8⟩
  refine h_done (d_block ?_)
  refine WC2.fact 1 rfl (fun _ h => Vec.is h) ?_; rintro ⟨A9, c9, rfl⟩
  refine WC2.keep (env' := [(0, v), (2, .pointer (some ⟨g2, 0, none⟩)), (3, .int .i64 0), (4, .pointer (some ⟨gh, 0, none⟩)), (10, v8), (11, .int .i64 8), (5, .pointer (some ⟨gd, 0, none⟩)), (6, .pointer (some ⟨ge, 0, none⟩)), (12, v), (13, .func (.func 44) #[] #[.pointer (some ⟨g8, 0, none⟩)])]) ⟨rfl, rfl, rfl, rfl, rfl, rfl, rfl, rfl, rfl, rfl, trivial⟩ ?_
  refine WC2.mid [cell g8 50 #[.slice A9 y.length c9], Vec 5 1 encB (.slice A9 y.length c9) y, HdI gh gd ge L ps 0, cell g2 28 #[.int .u64 0, .int .i64 0], X] (.refl _) ?_
  refine wp_rangeF (caps := [.pointer (some ⟨g8, 0, none⟩)]) (post := [HdI gh gd ge L ps N, Vec 5 1 encB (.slice A9 y.length c9) y, cell g8 50 #[.slice A9 y.length c9]]) (os' := [HdI gh gd ge L ps N, Vec 5 1 encB (.slice A9 y.length c9) y, cell g8 50 #[.slice A9 y.length c9], cell g2 28 #[.int .u64 0, .int .i64 0], X]) (.exit 0) [2, 1, 0] rfl (ent_of Try.func44 (by kernel_rfl) rfl) (fun L1 fn1 tm1 hf1 r1 k11 k12 k13 k14 k15 k16 => it_in (all1S (N := N) (.yield L1) #[] g8 (fun j => recI L1 r1 (HdI gh gd ge L ps j)) (recI L1 (finR (.exit 0) r1) (HdI gh gd ge L ps N)) hl hr hlen hNp ?_ ?_)) rfl rfl rfl ?_
  · skip
    intro j x d hpj hjN
    have hxl : x.length ≤ 65536 := hlen x (List.mem_of_getElem? hpj)
    have hst := sumF_take hpj
    have hs1 := hsum (j + 1)
    have hje : j < L.length := by have := (List.getElem?_eq_some_iff.1 hpj).1; omega
    obtain ⟨q, hLj⟩ : ∃ q, L[j]? = some q := ⟨_, List.getElem?_eq_getElem hje⟩
    obtain ⟨p, hp1, hp2⟩ := hdP_at (ps := ps) (by rw [hL]; exact hLj)
    rw [hpj] at hp1
    obtain rfl := Option.some.inj hp1
    refine rd_in (doesF_round (n := 31) (env := [(14, d), (0, v), (2, .pointer (some ⟨g2, 0, none⟩)), (3, .int .i64 0), (4, .pointer (some ⟨gh, 0, none⟩)), (10, v8), (11, .int .i64 8), (5, .pointer (some ⟨gd, 0, none⟩)), (6, .pointer (some ⟨ge, 0, none⟩)), (12, v), (13, .func (.func 44) #[] #[.pointer (some ⟨g8, 0, none⟩)])]) (.normal) k12 k11 (by rw [k14]; rfl) ?_ ?_)
    · rw [k14, k13]
      refine (congrArg (fun t => Fr 31 { tmps := t, defers := [] } _) (?_ : _ = (tm1.setIfInBounds 14 d))).mpr (hf1.put (d := 14) (by decide) _)
      simp
    · intro w0 rs
      rw [k15]
      refine r_reg (by kernel_rfl) (by rintro ⟨a, w, h⟩; first | exact h.elim | exact nomatch h.1 | (obtain ⟨_, h, _⟩ := h; exact nomatch h)) ?_
      refine h_q hflU rfl ?_
      refine h_nil ?_
      refine r_begin 0 rfl k11 ?_
      rw [k16]
      refine r_open 1 rfl HdI.open_ (fun _ => rfl) ?_; rintro ⟨⟩
      refine r_block ?_
      refine r_seq (r_reg (by kernel_rfl) (by rintro ⟨a, w, h⟩; first | exact h.elim | exact nomatch h.1 | (obtain ⟨_, h, _⟩ := h; exact nomatch h)) ?_)
      refine h_q hflU rfl ?_
      refine h_act (post := fun _ => [cell gh 28 #[.int .u64 (((lastH (L.take j)).1 : Nat) : Int), .int .i64 (((lastH (L.take j)).2 : Nat) : Int)], cell gd 3 #[.int .i64 8], cell ge 3 #[.int .i64 ((sumF (ps.take j) : Nat) : Int)], recT L1 (busyR r1), Vec 5 1 encB d x]) rfl (a_call (ent_of Try.func32 (by kernel_rfl) rfl) (fun w hH => hread_some w (hH.sl8 4 rfl) hxl hp2) rfl rfl rfl) ?_; rintro ⟨⟩
      refine h_q hflU rfl ?_
      refine h_act (post := fun gx => [cell gx 28 #[.int .u64 0, .int .i64 0], cell gh 28 #[.int .u64 (((lastH (L.take j)).1 : Nat) : Int), .int .i64 (((lastH (L.take j)).2 : Nat) : Int)], cell gd 3 #[.int .i64 8], cell ge 3 #[.int .i64 ((sumF (ps.take j) : Nat) : Int)], recT L1 (busyR r1), Vec 5 1 encB d x]) rfl (a_alloc ze_api_Hard rfl) ?_; rintro gx
      refine h_acts (post := fun _ => [cell gx 28 #[.int .u64 ((q.1 : Nat) : Int), .int .i64 ((q.2 : Nat) : Int)], cell gh 28 #[.int .u64 (((lastH (L.take j)).1 : Nat) : Int), .int .i64 (((lastH (L.take j)).2 : Nat) : Int)], cell gd 3 #[.int .i64 8], cell ge 3 #[.int .i64 ((sumF (ps.take j) : Nat) : Int)], recT L1 (busyR r1), Vec 5 1 encB d x]) rfl rfl (a_store 0 (v := .agg #[.int .u64 ((q.1 : Nat) : Int), .int .i64 ((q.2 : Nat) : Int)]) #[.int .u64 ((q.1 : Nat) : Int), .int .i64 ((q.2 : Nat) : Int)] ty_api_Hard.2 rfl rfl rfl rfl rfl rfl rfl rfl rfl) ?_; rintro ⟨⟩
      refine h_q hflU rfl ?_
      refine h_nil (r_to ?_)
      refine r_seq ?_
      refine r_seq (r_reg (by kernel_rfl) (by rintro ⟨a, w, h⟩; first | exact h.elim | exact nomatch h.1 | (obtain ⟨_, h, _⟩ := h; exact nomatch h)) ?_)
      refine h_q hflU rfl ?_
      refine h_nil (r_to ?_)
      refine r_else rfl ?_
      refine r_skip ?_
      refine r_to ?_
      refine r_seq (r_reg (by kernel_rfl) (by rintro ⟨a, w, h⟩; first | exact h.elim | exact nomatch h.1 | (obtain ⟨_, h, _⟩ := h; exact nomatch h)) ?_)
      refine h_q hflU rfl ?_
      refine h_val rfl (.agg #[.int .u64 ((q.1 : Nat) : Int), .int .i64 ((q.2 : Nat) : Int)]) (fun b w hb hH => exec_load rfl rfl (reads_agg (cs := [.int .u64 ((q.1 : Nat) : Int), .int .i64 ((q.2 : Nat) : Int)]) ty_api_Hard rfl) (hH.row 0 rfl) hb) ?_
      refine h_acts (post := fun _ => [cell gx 28 #[.int .u64 ((q.1 : Nat) : Int), .int .i64 ((q.2 : Nat) : Int)], cell gh 28 #[.int .u64 ((q.1 : Nat) : Int), .int .i64 ((q.2 : Nat) : Int)], cell gd 3 #[.int .i64 8], cell ge 3 #[.int .i64 ((sumF (ps.take j) : Nat) : Int)], recT L1 (busyR r1), Vec 5 1 encB d x]) rfl rfl (a_store 1 (v := .agg #[.int .u64 ((q.1 : Nat) : Int), .int .i64 ((q.2 : Nat) : Int)]) #[.int .u64 ((q.1 : Nat) : Int), .int .i64 ((q.2 : Nat) : Int)] ty_api_Hard.2 rfl rfl rfl rfl rfl rfl rfl rfl rfl) ?_; rintro ⟨⟩
      refine h_nil (r_to ?_)
      refine r_reg (by kernel_rfl) (by rintro ⟨a, w, h⟩; first | exact h.elim | exact nomatch h.1 | (obtain ⟨_, h, _⟩ := h; exact nomatch h)) ?_
      refine h_q hflU rfl ?_
      refine h_val rfl (.int .i64 ((sumF (ps.take j) : Nat) : Int)) (fun b w hb hH => exec_load rfl rfl (reads_one ty_int rfl) (hH.row 3 rfl) hb) ?_
      refine h_val rfl (.int .i64 8) (fun b w hb hH => exec_load rfl rfl (reads_one ty_int rfl) (hH.row 2 rfl) hb) ?_
      refine h_q hflU rfl ?_
      refine h_val rfl (.int .i64 (x.length : Int)) (fun b w hb hH => e_vlen 5 Try.underlying50 rfl rfl rfl hH hb) ?_
      refine h_val rfl (.int .i64 ((8 + x.length : Nat) : Int)) (fun b w hb hH => exec_ar rfl rfl rfl rfl (by rw [IntWalk.i64_in _ (by omega)]; omega) hb) ?_
      refine h_val rfl (.int .i64 ((sumF (ps.take (j + 1)) : Nat) : Int)) (fun b w hb hH => exec_ar rfl rfl rfl rfl (by rw [IntWalk.i64_in _ (by omega)]; omega) hb) ?_
      refine h_acts (post := fun _ => [cell gx 28 #[.int .u64 ((q.1 : Nat) : Int), .int .i64 ((q.2 : Nat) : Int)], cell gh 28 #[.int .u64 ((q.1 : Nat) : Int), .int .i64 ((q.2 : Nat) : Int)], cell gd 3 #[.int .i64 8], cell ge 3 #[.int .i64 ((sumF (ps.take (j + 1)) : Nat) : Int)], recT L1 (busyR r1), Vec 5 1 encB d x]) rfl rfl (a_store 3 (v := .int .i64 ((sumF (ps.take (j + 1)) : Nat) : Int)) #[.int .i64 ((sumF (ps.take (j + 1)) : Nat) : Int)] ty_int.2 rfl rfl rfl rfl rfl rfl rfl rfl rfl) ?_; rintro ⟨⟩
      refine h_nil (f_block ?_)
      refine f_close [1, 2, 3] rfl (hdI_mk (lastH_take hLj)) rfl ?_
      exact r_tell [2, 0] rfl rfl
  · skip
    intro j x d hpj hjN
    have hxl : x.length ≤ 65536 := hlen x (List.mem_of_getElem? hpj)
    have hst := sumF_take hpj
    have hs1 := hsum (j + 1)
    obtain rfl := hjN
    have hbad : readH x = none := hdP_stop (ps := ps) (by rw [hL, hN]; exact hpj)
    refine rd_in (doesF_round (n := 31) (env := [(14, d), (0, v), (2, .pointer (some ⟨g2, 0, none⟩)), (3, .int .i64 0), (4, .pointer (some ⟨gh, 0, none⟩)), (10, v8), (11, .int .i64 8), (5, .pointer (some ⟨gd, 0, none⟩)), (6, .pointer (some ⟨ge, 0, none⟩)), (12, v), (13, .func (.func 44) #[] #[.pointer (some ⟨g8, 0, none⟩)])]) (.exit 0) k12 k11 (by rw [k14]; rfl) ?_ ?_)
    · rw [k14, k13]
      refine (congrArg (fun t => Fr 31 { tmps := t, defers := [] } _) (?_ : _ = (tm1.setIfInBounds 14 d))).mpr (hf1.put (d := 14) (by decide) _)
      simp
    · intro w0 rs
      rw [k15]
      refine r_reg (by kernel_rfl) (by rintro ⟨a, w, h⟩; first | exact h.elim | exact nomatch h.1 | (obtain ⟨_, h, _⟩ := h; exact nomatch h)) ?_
      refine h_q hflU rfl ?_
      refine h_nil ?_
      refine r_begin 0 rfl k11 ?_
      rw [k16]
      refine r_block ?_
      refine r_seq (r_reg (by kernel_rfl) (by rintro ⟨a, w, h⟩; first | exact h.elim | exact nomatch h.1 | (obtain ⟨_, h, _⟩ := h; exact nomatch h)) ?_)
      refine h_q hflU rfl ?_
      refine h_act (post := fun _ => [recT L1 (busyR r1), HdI gh gd ge L ps j, Vec 5 1 encB d x]) rfl (a_call (ent_of Try.func32 (by kernel_rfl) rfl) (fun w hH => hread_none w (hH.sl8 2 rfl) hxl hbad) rfl rfl rfl) ?_; rintro ⟨⟩
      refine h_q hflU rfl ?_
      refine h_act (post := fun gx => [cell gx 28 #[.int .u64 0, .int .i64 0], recT L1 (busyR r1), HdI gh gd ge L ps j, Vec 5 1 encB d x]) rfl (a_alloc ze_api_Hard rfl) ?_; rintro gx
      refine h_acts (post := fun _ => [cell gx 28 #[.int .u64 0, .int .i64 0], recT L1 (busyR r1), HdI gh gd ge L ps j, Vec 5 1 encB d x]) rfl rfl (a_store 0 (v := .agg #[.int .u64 0, .int .i64 0]) #[.int .u64 0, .int .i64 0] ty_api_Hard.2 rfl rfl rfl rfl rfl rfl rfl rfl rfl) ?_; rintro ⟨⟩
      refine h_q hflU rfl ?_
      refine h_nil (r_to ?_)
      refine r_seq ?_
      refine r_seq (r_reg (by kernel_rfl) (by rintro ⟨a, w, h⟩; first | exact h.elim | exact nomatch h.1 | (obtain ⟨_, h, _⟩ := h; exact nomatch h)) ?_)
      refine h_q hflU rfl ?_
      refine h_nil (r_to ?_)
      refine r_then rfl ?_
      refine r_exit ?_
      refine f_then_exit (f_block_other (by decide) ?_)
      exact r_tell [1, 2] rfl rfl
  intro D aT wT hDm hD0 hdf hF hH
  obtain ⟨_, hH⟩ := hp_open 0 rfl (HdI.openN e1 e2) hH
  refine blk_exit ?_
  refine t_to (env := [(2, .pointer (some ⟨g2, 0, none⟩)), (3, .int .i64 0), (4, .pointer (some ⟨gh, 0, none⟩)), (6, .pointer (some ⟨ge, 0, none⟩))]) (os := [cell gh 28 #[.int .u64 ((z.1 : Nat) : Int), .int .i64 ((z.2 : Nat) : Int)], cell gd 3 #[.int .i64 8], cell ge 3 #[.int .i64 (n : Int)], Vec 5 1 encB (.slice A9 y.length c9) y, cell g8 50 #[.slice A9 y.length c9], cell g2 28 #[.int .u64 0, .int .i64 0], X]) ?_ aT wT hDm hD0 hdf (hF.keep ⟨rfl, rfl, rfl, rfl, trivial⟩) hH
  refine t_anyQ (by kernel_rfl) ?_
  refine bt_two 0 1 (by kernel_rfl) ?_ ?_
  · skip
    refine bt_val rfl rfl (.agg #[.int .u64 ((z.1 : Nat) : Int), .int .i64 ((z.2 : Nat) : Int)]) (fun b w hb hH => exec_load rfl rfl (reads_agg (cs := [.int .u64 ((z.1 : Nat) : Int), .int .i64 ((z.2 : Nat) : Int)]) ty_api_Hard rfl) (hH.row 0 rfl) hb) ?_
    refine bt_two 1 2 (by kernel_rfl) ?_ ?_
    · skip
      refine bt_val rfl rfl (.int .i64 (n : Int)) (fun b w hb hH => exec_load rfl rfl (reads_one ty_int rfl) (hH.row 2 rfl) hb) ?_
      refine bt_one 2 (by kernel_rfl) ?_
      refine bt_acts (post := fun _ => [cell gh 28 #[.int .u64 ((z.1 : Nat) : Int), .int .i64 ((z.2 : Nat) : Int)], cell gd 3 #[.int .i64 8], cell ge 3 #[.int .i64 (n : Int)], Vec 5 1 encB (.slice A9 y.length c9) y, cell g8 50 #[.slice A9 y.length c9], cell g2 28 #[.int .u64 ((z.1 : Nat) : Int), .int .i64 ((z.2 : Nat) : Int)], X]) rfl rfl rfl (fun B w0 => a_store 5 (v := .agg #[.int .u64 ((z.1 : Nat) : Int), .int .i64 ((z.2 : Nat) : Int)]) #[.int .u64 ((z.1 : Nat) : Int), .int .i64 ((z.2 : Nat) : Int)] ty_api_Hard.2 rfl rfl rfl rfl rfl rfl rfl rfl rfl) ?_; rintro ⟨⟩
      refine bt_one 3 (by kernel_rfl) ?_
      refine bt_val rfl rfl (.int .i64 (n : Int)) (fun b w hb hH => exec_q1 hflU rfl hb) ?_
      refine bt_done (by kernel_rfl) (t_to ?_)
      refine WCT.keep (env' := [(2, .pointer (some ⟨g2, 0, none⟩)), (3, .int .i64 (n : Int))]) ⟨rfl, rfl, trivial⟩ ?_
      exact t_ret (fun a w hD hD0 hd hF hH => m_fin2 (os := [cell gh 28 #[.int .u64 ((z.1 : Nat) : Int), .int .i64 ((z.2 : Nat) : Int)], cell gd 3 #[.int .i64 8], cell ge 3 #[.int .i64 (n : Int)], Vec 5 1 encB (.slice A9 y.length c9) y, cell g8 50 #[.slice A9 y.length c9], cell g2 28 #[.int .u64 ((z.1 : Nat) : Int), .int .i64 ((z.2 : Nat) : Int)], X]) (.cell 5 (v := .agg #[.int .u64 ((z.1 : Nat) : Int), .int .i64 ((z.2 : Nat) : Int)]) (reads_agg (cs := [.int .u64 ((z.1 : Nat) : Int), .int .i64 ((z.2 : Nat) : Int)]) ty_api_Hard rfl) rfl rfl) (.tmp rfl) rfl (fun w' h => tells (X := Unit) (val := fun _ => .tuple #[.agg #[.int .u64 ((z.1 : Nat) : Int), .int .i64 ((z.2 : Nat) : Int)], .int .i64 (n : Int)]) (post := fun _ => [X]) (os := [cell gh 28 #[.int .u64 ((z.1 : Nat) : Int), .int .i64 ((z.2 : Nat) : Int)], cell gd 3 #[.int .i64 8], cell ge 3 #[.int .i64 (n : Int)], Vec 5 1 encB (.slice A9 y.length c9) y, cell g8 50 #[.slice A9 y.length c9], cell g2 28 #[.int .u64 ((z.1 : Nat) : Int), .int .i64 ((z.2 : Nat) : Int)], X]) () rfl [6] rfl h same_parts) D a w hD hD0 hd hF hH)
    · skip
      refine bt_acts (post := fun _ => [cell gh 28 #[.int .u64 ((z.1 : Nat) : Int), .int .i64 ((z.2 : Nat) : Int)], cell gd 3 #[.int .i64 8], cell ge 3 #[.int .i64 (n : Int)], Vec 5 1 encB (.slice A9 y.length c9) y, cell g8 50 #[.slice A9 y.length c9], cell g2 28 #[.int .u64 ((z.1 : Nat) : Int), .int .i64 ((z.2 : Nat) : Int)], X]) rfl rfl rfl (fun B w0 => a_store 5 (v := .agg #[.int .u64 ((z.1 : Nat) : Int), .int .i64 ((z.2 : Nat) : Int)]) #[.int .u64 ((z.1 : Nat) : Int), .int .i64 ((z.2 : Nat) : Int)] ty_api_Hard.2 rfl rfl rfl rfl rfl rfl rfl rfl rfl) ?_; rintro ⟨⟩
      refine bt_one 1 (by kernel_rfl) ?_
      refine bt_val rfl rfl (.int .i64 (n : Int)) (fun b w hb hH => exec_load rfl rfl (reads_one ty_int rfl) (hH.row 2 rfl) hb) ?_
      refine bt_one 3 (by kernel_rfl) ?_
      refine bt_val rfl rfl (.int .i64 (n : Int)) (fun b w hb hH => exec_q1 hflU rfl hb) ?_
      refine bt_done (by kernel_rfl) (t_to ?_)
      refine WCT.keep (env' := [(2, .pointer (some ⟨g2, 0, none⟩)), (3, .int .i64 (n : Int))]) ⟨rfl, rfl, trivial⟩ ?_
      exact t_ret (fun a w hD hD0 hd hF hH => m_fin2 (os := [cell gh 28 #[.int .u64 ((z.1 : Nat) : Int), .int .i64 ((z.2 : Nat) : Int)], cell gd 3 #[.int .i64 8], cell ge 3 #[.int .i64 (n : Int)], Vec 5 1 encB (.slice A9 y.length c9) y, cell g8 50 #[.slice A9 y.length c9], cell g2 28 #[.int .u64 ((z.1 : Nat) : Int), .int .i64 ((z.2 : Nat) : Int)], X]) (.cell 5 (v := .agg #[.int .u64 ((z.1 : Nat) : Int), .int .i64 ((z.2 : Nat) : Int)]) (reads_agg (cs := [.int .u64 ((z.1 : Nat) : Int), .int .i64 ((z.2 : Nat) : Int)]) ty_api_Hard rfl) rfl rfl) (.tmp rfl) rfl (fun w' h => tells (X := Unit) (val := fun _ => .tuple #[.agg #[.int .u64 ((z.1 : Nat) : Int), .int .i64 ((z.2 : Nat) : Int)], .int .i64 (n : Int)]) (post := fun _ => [X]) (os := [cell gh 28 #[.int .u64 ((z.1 : Nat) : Int), .int .i64 ((z.2 : Nat) : Int)], cell gd 3 #[.int .i64 8], cell ge 3 #[.int .i64 (n : Int)], Vec 5 1 encB (.slice A9 y.length c9) y, cell g8 50 #[.slice A9 y.length c9], cell g2 28 #[.int .u64 ((z.1 : Nat) : Int), .int .i64 ((z.2 : Nat) : Int)], X]) () rfl [6] rfl h same_parts) D a w hD hD0 hd hF hH)
  · skip
    refine bt_val rfl rfl (.int .i64 (n : Int)) (fun b w hb hH => exec_load rfl rfl (reads_one ty_int rfl) (hH.row 2 rfl) hb) ?_
    refine bt_one 0 (by kernel_rfl) ?_
    refine bt_val rfl rfl (.agg #[.int .u64 ((z.1 : Nat) : Int), .int .i64 ((z.2 : Nat) : Int)]) (fun b w hb hH => exec_load rfl rfl (reads_agg (cs := [.int .u64 ((z.1 : Nat) : Int), .int .i64 ((z.2 : Nat) : Int)]) ty_api_Hard rfl) (hH.row 0 rfl) hb) ?_
    refine bt_one 2 (by kernel_rfl) ?_
    refine bt_acts (post := fun _ => [cell gh 28 #[.int .u64 ((z.1 : Nat) : Int), .int .i64 ((z.2 : Nat) : Int)], cell gd 3 #[.int .i64 8], cell ge 3 #[.int .i64 (n : Int)], Vec 5 1 encB (.slice A9 y.length c9) y, cell g8 50 #[.slice A9 y.length c9], cell g2 28 #[.int .u64 ((z.1 : Nat) : Int), .int .i64 ((z.2 : Nat) : Int)], X]) rfl rfl rfl (fun B w0 => a_store 5 (v := .agg #[.int .u64 ((z.1 : Nat) : Int), .int .i64 ((z.2 : Nat) : Int)]) #[.int .u64 ((z.1 : Nat) : Int), .int .i64 ((z.2 : Nat) : Int)] ty_api_Hard.2 rfl rfl rfl rfl rfl rfl rfl rfl rfl) ?_; rintro ⟨⟩
    refine bt_one 3 (by kernel_rfl) ?_
    refine bt_val rfl rfl (.int .i64 (n : Int)) (fun b w hb hH => exec_q1 hflU rfl hb) ?_
    refine bt_done (by kernel_rfl) (t_to ?_)
    refine WCT.keep (env' := [(2, .pointer (some ⟨g2, 0, none⟩)), (3, .int .i64 (n : Int))]) ⟨rfl, rfl, trivial⟩ ?_
    exact t_ret (fun a w hD hD0 hd hF hH => m_fin2 (os := [cell gh 28 #[.int .u64 ((z.1 : Nat) : Int), .int .i64 ((z.2 : Nat) : Int)], cell gd 3 #[.int .i64 8], cell ge 3 #[.int .i64 (n : Int)], Vec 5 1 encB (.slice A9 y.length c9) y, cell g8 50 #[.slice A9 y.length c9], cell g2 28 #[.int .u64 ((z.1 : Nat) : Int), .int .i64 ((z.2 : Nat) : Int)], X]) (.cell 5 (v := .agg #[.int .u64 ((z.1 : Nat) : Int), .int .i64 ((z.2 : Nat) : Int)]) (reads_agg (cs := [.int .u64 ((z.1 : Nat) : Int), .int .i64 ((z.2 : Nat) : Int)]) ty_api_Hard rfl) rfl rfl) (.tmp rfl) rfl (fun w' h => tells (X := Unit) (val := fun _ => .tuple #[.agg #[.int .u64 ((z.1 : Nat) : Int), .int .i64 ((z.2 : Nat) : Int)], .int .i64 (n : Int)]) (post := fun _ => [X]) (os := [cell gh 28 #[.int .u64 ((z.1 : Nat) : Int), .int .i64 ((z.2 : Nat) : Int)], cell gd 3 #[.int .i64 8], cell ge 3 #[.int .i64 (n : Int)], Vec 5 1 encB (.slice A9 y.length c9) y, cell g8 50 #[.slice A9 y.length c9], cell g2 28 #[.int .u64 ((z.1 : Nat) : Int), .int .i64 ((z.2 : Nat) : Int)], X]) () rfl [6] rfl h same_parts) D a w hD hD0 hd hF hH)

theorem latest_does {X : Ass} {v : Value} {y : List UInt8} (hX : Rd8 X v y) (hl : y.length ≤ 137438953472) {h : HV} {n : Nat} (hr : latB y = (h, n)) : Does Try.prog 17 #[v] [X] (fun _ : Unit => .tuple #[.agg #[.int .u64 ((h.1 : Nat) : Int), .int .i64 ((h.2 : Nat) : Int)], .int .i64 (n : Int)]) (fun _ => [X]) := by
  have e1 : lastH (hdP (listL y).1) = h := congrArg Prod.fst hr
  have e2 : sumF ((listL y).1.take (hdP (listL y).1).length) = n := congrArg Prod.snd hr
  have e3 : lastH ((hdP (listL y).1).take (hdP (listL y).1).length) = h := by rw [List.take_length]; exact e1
  rcases Nat.lt_or_eq_of_le (hdP_len (listL y).1) with hlt | heq
  · exact latest_b hX hl rfl rfl rfl hlt e3 e2
  · exact latest_a hX hl rfl rfl rfl heq.symm e3 e2
end Go.Proofs.Ytnknboibmifacaa.Sep
