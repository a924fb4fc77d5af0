/-
  HandC · SgZu · SgL9
-/
import Derived.Test.YtaipejaeeohpkaaGreatDoorUO02
import Derived.Test.YtaipejaeeohpkaaGreatDoorUQ01
import Derived.Test.YtaipejaeeohpkaaGreatDoorUR01
set_option linter.unusedSimpArgs false
set_option linter.unusedVariables false
namespace Go.Proofs.YtaipejaeeohpkaaGreatDoor.Sep
open Go.RowKit
theorem handC : ∀ (l : List EntD) (A : List EntD) (ix tm : Int), LogC A → 0 ≤ ix → ix + (l.length : Int) < 1000 → 0 ≤ tm → tm + (l.length : Int) < 1000 → (A = [] ∨ ((lastIT A).2 = ix ∧ (lastIT A).1 ≤ max 1 tm)) → LogC (A ++ handL ix tm l)
  | [], A, ix, tm, h, _, _, _, _, _ => by
    show LogC (A ++ [])
    rw [List.append_nil]; exact h
  | e :: r, A, ix, tm, h, h1, h2, h3, h4, h5 => by
    have hk0 := Int.emod_nonneg e.k (show (8 : Int) ≠ 0 by decide)
    have hk8 := Int.emod_lt_of_pos e.k (show (0 : Int) < 8 by decide)
    have hl : ((e :: r).length : Int) = (r.length : Int) + 1 := by rw [List.length_cons]; push_cast; rfl
    rw [hl] at h2 h4
    have hr := handE_right (ix := ix) (tm := tm) (e := e) ⟨h1, by omega⟩ ⟨h3, by omega⟩
    have hf : FolOk (lastIT A) (handE ix tm e) := by
      rcases h5 with rfl | ⟨h5, h6⟩
      · exact fol_nil _
      · refine ⟨?_, by omega, by omega⟩
        by_cases h0 : (lastIT A).2 = 0
        · exact .inl h0
        · exact .inr ⟨h0, by show ix + 1 = _; omega, by show _ ≤ max 1 (tm + e.k % 8 / 6); omega⟩
    have h6 := handC r (A ++ [handE ix tm e]) (ix + 1) (tm + e.k % 8 / 6) (h.push hr hf) (by omega) (by omega) (by omega) (by omega) (.inr (by
      rw [lastIT_push]
      exact ⟨rfl, Int.le_refl _⟩))
    rw [List.append_assoc] at h6
    exact h6
theorem handL_i : ∀ (l : List EntD) (ix tm : Int) (k : Nat) (y : EntD), (handL ix tm l)[k]? = some y → y.i = ix + (k : Int) + 1
  | [], _, _, k, y, h => by simp [handL] at h
  | e :: r, ix, tm, 0, y, h => by
    simp only [handL, List.getElem?_cons_zero, Option.some.injEq] at h
    rw [← h]
    show ix + 1 = ix + ((0 : Nat) : Int) + 1
    omega
  | e :: r, ix, tm, k + 1, y, h => by
    simp only [handL, List.getElem?_cons_succ] at h
    have := handL_i r (ix + 1) (tm + e.k % 8 / 6) k y h
    push_cast
    omega
theorem cut_hand {l : List EntD} {tm : Int} {at_ : Nat} {L' : List EntD} (h : CutTo (at_ + 1) (handL 0 tm l) L') : L' = (handL 0 tm l).take at_ := by
  obtain ⟨c, h1, h2⟩ := h
  rw [h1]
  apply List.ext_getElem?
  intro k
  rw [List.getElem?_take, List.getElem?_take]
  cases hy : (handL 0 tm l)[k]? with
  | none => split <;> split <;> rfl
  | some y =>
    have h3 := handL_i l 0 tm k y hy
    have h4 := h2 k y hy
    have h5 : k < c ↔ k < at_ := by rw [h4, h3]; push_cast; omega
    by_cases hk : k < at_
    · rw [if_pos hk, if_pos (h5.2 hk)]
    · rw [if_neg hk, if_neg (fun hc => hk (h5.1 hc))]
end Go.Proofs.YtaipejaeeohpkaaGreatDoor.Sep
namespace Go.Proofs.YtaipejaeeohpkaaGreatDoor.Sep
open Go.RowKit
open Go.Proofs.YtaipejaeeohpkaaGreatDoor.Mem (Dist Blk Chg below0)
def tabR (tb : Tb) : List RowT := [(5, none, litC tb.C tb.e tb.f)]
theorem d_inT {P : Program} {fn : Func} {R : Ending → World → Prop} {f : FuncId} {c : Code} {args : List Value} {w : World} {tb : Tb} (n : Nat) (hW : w.heap[5]? = some (.cells tb.C tb.e tb.f)) (hf : P.funcs[f]? = some fn) (hb : fn.body = some c) (hn : fn.ntmps = n) (hs : Nat.ble args.length n = true) (h : WC2 P (bodyPost P fn R) n (argEnv 0 args) (Blk (tabR tb)) w [TabZ tb] c) : Calls P f args.toArray w R :=
 calls_in n hf hb hn (Nat.le_of_ble_eq_true hs) fun a hF => h a w hF (Hp.given (Parts.one rfl) ⟨rowx_lit.2 hW, trivial⟩ ⟨(fun _ h => by cases h), trivial⟩)
theorem hp_below {tb : Tb} {w0 w : World} {os : List Ass} (i : Nat) (hi : os[i]? = some (TabZ tb)) (hW : w0.heap[5]? = some (.cells tb.C tb.e tb.f)) (hH : Hp (Blk (tabR tb)) w0 w os) : Below w0.heap.size w0 w := by
  obtain ⟨rs, hv, hr⟩ := hH.thing i hi
  unfold TabZ at hv
  subst hv
  have h2 : w.heap[5]? = some (.cells tb.C tb.e tb.f) := rowx_lit.1 hr.1
  have hu := hH.up
  exact ⟨hu.os, hu.tape, hu.output, hu.size, fun k hk => by
    by_cases hkG : k = 5
    · rw [hkG, h2, hW]
    · exact hu.block k hk (fun ⟨r, hr, e⟩ => hkG (by unfold tabR at hr; rw [List.mem_singleton.1 hr] at e; exact e.symm))⟩
end Go.Proofs.YtaipejaeeohpkaaGreatDoor.Sep
namespace Go.Proofs.YtaipejaeeohpkaaGreatDoor.Sep
open Go.RowKit
open Go.Proofs.YtaipejaeeohpkaaGreatDoor.Mem (Dist Blk Chg below0)
theorem f20 (l : List EntV) : ((l.take 20).map (·.e)).length ≤ 20 := by rw [List.length_map, List.length_take]; omega
theorem take_C {l : List EntV} (h : LogC (allE [] ++ l.map (·.e))) (k : Nat) : LogC ((l.map (·.e)).take k) := by
  have h1 : LogC (l.map (·.e)) := h
  rw [← List.take_append_drop k (l.map (·.e))] at h1
  exact h1.front
theorem handL_t : ∀ (l : List EntD) (ix tm : Int) (k : Nat) (y : EntD), 0 ≤ tm → (handL ix tm l)[k]? = some y → 1 ≤ y.t ∧ y.t ≤ max 1 (tm + (l.length : Int))
  | [], _, _, k, y, _, h => by simp [handL] at h
  | e :: r, ix, tm, 0, y, h0, h => by
    have hk0 := Int.emod_nonneg e.k (show (8 : Int) ≠ 0 by decide)
    have hk8 := Int.emod_lt_of_pos e.k (show (0 : Int) < 8 by decide)
    simp only [handL, List.getElem?_cons_zero, Option.some.injEq] at h
    rw [← h, List.length_cons]
    show 1 ≤ max 1 (tm + e.k % 8 / 6) ∧ max 1 (tm + e.k % 8 / 6) ≤ _
    push_cast
    omega
  | e :: r, ix, tm, k + 1, y, h0, h => by
    have hk0 := Int.emod_nonneg e.k (show (8 : Int) ≠ 0 by decide)
    have hk8 := Int.emod_lt_of_pos e.k (show (0 : Int) < 8 by decide)
    simp only [handL, List.getElem?_cons_succ] at h
    have := handL_t r (ix + 1) (tm + e.k % 8 / 6) k y (by omega) h
    rw [List.length_cons]
    push_cast
    omega
theorem hand_at {l1 l : List EntV} {j : Nat} {z : EntV} (h : l1.map (·.e) = handL 0 1 ((l.take 20).map (·.e))) (hz : l1[j]? = some z) : (1 ≤ z.e.t ∧ z.e.t ≤ 21) ∧ z.e.i = (j : Int) + 1 := by
  have h1 : (handL 0 1 ((l.take 20).map (·.e)))[j]? = some z.e := by rw [← h, List.getElem?_map, hz]; rfl
  have h2 := handL_t _ 0 1 j z.e (by decide) h1
  have h3 := handL_i _ 0 1 j z.e h1
  have h4 := f20 l
  omega
theorem last_at {l1 : List EntV} {k : Nat} {z : EntV} (hk : 0 < k) (hz : l1[k - 1]? = some z) (hi : z.e.i = ((k - 1 : Nat) : Int) + 1) : (lastIT ((l1.map (·.e)).take k)).2 = (k : Int) ∧ (lastIT ((l1.map (·.e)).take k)).1 ≤ max 1 z.e.t := by
  obtain ⟨j, rfl⟩ : ∃ j, k = j + 1 := ⟨k - 1, by omega⟩
  have h1 : (l1.map (·.e)).take (j + 1) = (l1.map (·.e)).take j ++ [z.e] := by
    rw [List.take_add_one, List.getElem?_map, show l1[j]? = some z from hz]
    rfl
  rw [h1, lastIT_push]
  refine ⟨by show z.e.i = _; rw [hi]; push_cast; omega, by show z.e.t ≤ _; omega⟩
section
variable {B : Nat → Prop} {w0 w : World} {os : List Ass}
theorem ents_part {A : Option Addr} {c k : Nat} {l : List EntV} (i j : Nat) (hk : k ≤ l.length) (hi : os[i]? = some (Vec 34 5 encV (.slice A l.length c) l)) (hj : os[j]? = some (Each (fun x : EntV => Vec 5 1 encB x.v x.e.d) l)) (hH : Hp B w0 w os) : EntsRd w (.slice A (l.take k).length c) (l.take k) := by
 have htl : (l.take k).length = k := by rw [List.length_take]; omega
 have h1 := hH.vecp i hi okV (Nat.zero_le k) hk
 rw [subTakeK, List.drop_zero, Nat.sub_zero] at h1
 refine ⟨by rw [htl]; exact h1, fun x hx => ?_⟩
 obtain ⟨q, hq⟩ := List.getElem?_of_mem (List.mem_of_mem_take hx)
 exact hH.rd8 j hj (rd8_each hq)
theorem ents_two {v : Value} {l m : List EntV} (i j k : Nat) (hi : os[i]? = some (Vec 34 5 encV v (l ++ m))) (hj : os[j]? = some (Each (fun x : EntV => Vec 5 1 encB x.v x.e.d) l)) (hk : os[k]? = some (Each (fun x : EntV => Vec 5 1 encB x.v x.e.d) m)) (hH : Hp B w0 w os) : EntsRd w v (l ++ m) := by
  refine ⟨hH.vec i hi okV, fun x hx => ?_⟩
  rcases List.mem_append.1 hx with hx | hx
  · obtain ⟨q, hq⟩ := List.getElem?_of_mem hx
    exact hH.rd8 j hj (rd8_each hq)
  · obtain ⟨q, hq⟩ := List.getElem?_of_mem hx
    exact hH.rd8 k hk (rd8_each hq)
end
set_option maxRecDepth 100000 in
theorem cuts_law (w : World) {tb : Tb} (hW : w.heap[5]? = some (.cells tb.C tb.e tb.f)) {l more : List EntV} {lv mv : Value} (hv : EntsRd w lv l) (hm : EntsRd w mv more) (okl : ∀ x, x ∈ l → x.e.ok) (okm : ∀ x, x ∈ more → x.e.ok) (lim0 at0 : Int) (hlm : -9223372036854775808 ≤ lim0 ∧ lim0 ≤ 9223372036854775807) (hat : -9223372036854775808 ≤ at0 ∧ at0 ≤ 9223372036854775807) : Calls Tryz.prog 8 #[.int .i64 lim0, lv, mv, .int .i64 at0] w fun e w' => e = .returned (.bool true) ∧ Below w.heap.size w w' := by
  refine d_inT (args := [.int .i64 lim0, lv, mv, .int .i64 at0]) 114 hW Tryz.func8 rfl rfl rfl ?_
  have hp0 := Int.emod_nonneg lim0 (show (200 : Int) ≠ 0 by decide)
  have hp1 := Int.emod_lt_of_pos lim0 (show (0 : Int) < 200 by decide)
  obtain ⟨lim, hlim, hl64, hl263⟩ : ∃ lim : Nat, 64 + lim0 % 200 = (lim : Int) ∧ 64 ≤ lim ∧ lim ≤ 263 := ⟨(64 + lim0 % 200).toNat, by omega, by omega, by omega⟩
  have hD0 : LogD (newD 1048576) [] 0 := logD_new rfl
  refine d_reg ?_
  refine h_q hflT rfl ?_
  refine h_done (d_reg ?_)
  refine h_q hflT rfl ?_
  refine h_act (post := fun _ => [TabZ tb]) rfl (a_call (ent_of Tryz.func21 (by kernel_rfl) rfl) (fun w hH => pick w lim0 200 hlm (by decide) rfl) rfl rfl rfl) ?_; rintro ⟨⟩
  refine h_val rfl (.int .i64 (lim : Int)) (fun b w hb hH => exec_ar rfl rfl rfl rfl (by rw [IntWalk.i64_in _ (by omega)]; exact hlim) hb) ?_
  refine h_q hflT rfl ?_
  refine h_done (d_reg ?_)
  refine h_q hflT rfl ?_
  refine h_act (post := fun dk => [DiskT dk (newD 1048576), TabZ tb]) rfl (a_does (os' := fun dk => [DiskT dk (newD 1048576), TabZ tb]) [] 0 (ent_of Tryz.func10 (by kernel_rfl) rfl) (disk_new 1048576 (by decide)) rfl rfl rfl (fun _ => rfl) rfl rfl rfl) ?_; rintro dk
  refine h_q hflT rfl ?_
  refine h_done (d_seq (d_reg ?_))
  refine h_q hflT rfl ?_
  refine h_act (post := fun _ => [DiskT dk (newD 1048576), TabZ tb]) rfl (a_does (os' := fun _ => [DiskT dk (newD 1048576), TabZ tb]) [1] 0 (ent_of Tryz.func12 (by kernel_rfl) rfl) (known_does tb) rfl rfl rfl (fun _ => rfl) rfl rfl rfl) ?_; rintro ⟨⟩
  refine h_q hflT rfl ?_
  refine h_val rfl (.bool false) (fun b w hb hH => xCm rfl rfl rfl (cmp_neq_f (by decide)) hb) ?_
  refine h_q hflT rfl ?_
  refine h_val rfl (.bool false) (fun b w hb hH => exec_pnil_eql (by kernel_rfl) rfl rfl rfl hb) ?_
  refine h_q hflT rfl ?_
  refine h_done (d_else rfl (d_skip (f_to (d_reg ?_))))
  refine h_q hflT rfl ?_
  refine h_act (post := fun p1 => [TabZ tb, LogT p1 dk lim (marksOf []), DiskT dk (newD 1048576)]) rfl (a_does (os' := fun p1 => [TabZ tb, LogT p1 dk lim (marksOf []), DiskT dk (newD 1048576)]) [0, 1] 0 (ent_of Tryz.func11 (by kernel_rfl) rfl) (hD0.opens (dk := dk) (lim := lim) tb (by omega) (by omega) (by omega)) rfl rfl rfl (fun _ => rfl) rfl rfl rfl) ?_; rintro p1
  refine h_q hflT rfl ?_
  refine h_done (d_reg ?_)
  refine h_q hflT rfl ?_
  refine h_act (post := fun (⟨v1, l1⟩ : EsV) => [Ents 34 v1 l1, fact (l1.map (·.e) = handL 0 1 ((l.take 20).map (·.e))), TabZ tb, LogT p1 dk lim (marksOf []), DiskT dk (newD 1048576)]) rfl (a_makes  [] 0 (ent_of Tryz.func29 (by kernel_rfl) rfl) (fun w hH => hand_any w l lv (hv.below (hp_below 0 rfl hW hH)) okl 0 1 20 ⟨by decide, by decide⟩ ⟨by decide, by decide⟩ (by decide)) rfl rfl rfl (fun _ => rfl) rfl rfl rfl) ?_; rintro ⟨v1, l1⟩
  refine WL2.fact 1 rfl (fun _ h => h.2) ?_; rintro hs1
  refine WL2.leave [1] rfl rfl ?_
  refine h_q hflT rfl ?_
  refine h_done (d_seq ?_)
  have hC1 : LogC (allE [] ++ l1.map (·.e)) := by rw [hs1]; exact handC _ [] 0 1 LogC.nil (by decide) (by have := f20 l; omega) (by decide) (by have := f20 l; omega) (.inl rfl)
  have hl1 : l1.length ≤ 20 := by have := congrArg List.length hs1; rw [handL_len, List.length_map] at this; have := f20 l; omega
  obtain ⟨d1, hD1, hA1⟩ := hD0.append (lim := lim) (l := l1) tb (by omega) hC1 (by show 0 + _ ≤ _; omega) (by omega)
  refine d_reg ?_
  refine h_q hflT rfl ?_
  refine h_val rfl (.bool false) (fun b w hb hH => xCm rfl rfl rfl (cmp_neq_f (by decide)) hb) ?_
  refine h_q hflT rfl ?_
  refine h_val rfl (.bool false) (fun b w hb hH => exec_pnil_eql (by kernel_rfl) rfl rfl rfl hb) ?_
  refine h_q hflT rfl ?_
  refine h_act (post := fun _ => [Ents 34 v1 l1, TabZ tb, LogT p1 dk lim (marksOf (addsL lim [] l1)), DiskT dk d1]) rfl (a_does (os' := fun _ => [Ents 34 v1 l1, TabZ tb, LogT p1 dk lim (marksOf (addsL lim [] l1)), DiskT dk d1]) [2, 3, 1, 0] 0 (ent_of Tryz.func13 (by kernel_rfl) rfl) (hA1 p1 dk v1) rfl rfl rfl (fun _ => rfl) rfl rfl rfl) ?_; rintro ⟨⟩
  refine h_val rfl (.bool false) (fun b w hb hH => xCm rfl rfl rfl (cmp_neq_f (by decide)) hb) ?_
  refine h_q hflT rfl ?_
  refine h_done ?_
  refine WC2.keep (env' := [(2, mv), (3, .int .i64 at0), (8, .bool false), (0, .int .i64 (lim : Int)), (9, .pointer (some ⟨dk, 0, none⟩)), (11, .pointer (some ⟨p1, 0, none⟩)), (13, v1), (55, .bool false)]) ⟨rfl, rfl, rfl, rfl, rfl, rfl, rfl, rfl, trivial⟩ ?_
  refine d_else rfl (d_skip (f_to ?_))
  refine d_open 0 rfl ents_open (fun _ => rfl) ?_; rintro ⟨⟩
  have he0 := Int.emod_nonneg at0 (show ((l1.length + 1 : Nat) : Int) ≠ 0 by omega)
  have he1 := Int.emod_lt_of_pos at0 (show (0 : Int) < ((l1.length + 1 : Nat) : Int) by omega)
  obtain ⟨k, hk, hkl⟩ : ∃ k : Nat, at0 % ((l1.length + 1 : Nat) : Int) = (k : Int) ∧ k ≤ l1.length := ⟨(at0 % ((l1.length + 1 : Nat) : Int)).toNat, by omega, by omega⟩
  have hfew1 : (addsL lim [] l1).length ≤ 20 := by have h8 := hD1.g.few; rw [allE_adds, List.length_append, List.length_map] at h8; have h9 : (allE []).length = 0 := rfl; omega
  obtain ⟨d2, M2, hD2, hc2, hA2⟩ := hD1.cut (lim := lim) (n := k + 1) tb (by omega) (by omega)
  have hM2 : allE M2 = (l1.map (·.e)).take k := by rw [hs1]; exact cut_hand (by have h9 := hc2; rw [allE_adds, hs1] at h9; exact h9)
  have hdl1 : ∀ x, x ∈ l1 → x.e.d.length ≤ 140737488351232 := fun x hx => by have h9 := (rightE_iff (hC1.right x.e (List.mem_append_right _ (List.mem_map.2 ⟨x, hx, rfl⟩)))).2.2; rcases h9 with ⟨_, h9, _⟩ | ⟨_, _, h9, _⟩ | ⟨_, h9, _⟩ <;> simp_all <;> omega
  refine d_reg ?_
  refine h_q hflT rfl ?_
  refine h_val rfl (.int .i64 (l1.length : Int)) (fun b w hb hH => e_vlen 0 Tryz.underlying52 rfl rfl rfl hH hb) ?_
  refine h_val rfl (.int .i64 ((l1.length + 1 : Nat) : Int)) (fun b w hb hH => exec_ar rfl rfl rfl rfl (by rw [IntWalk.i64_in _ (by omega)]; omega) hb) ?_
  refine h_act (post := fun _ => [Vec 34 5 encV v1 l1, Each (fun x : EntV => Vec 5 1 encB x.v x.e.d) l1, TabZ tb, LogT p1 dk lim (marksOf (addsL lim [] l1)), DiskT dk d1]) rfl (a_call (ent_of Tryz.func21 (by kernel_rfl) rfl) (fun w hH => pick w at0 ((l1.length + 1 : Nat) : Int) hat ⟨by omega, by omega⟩ hk) rfl rfl rfl) ?_; rintro ⟨⟩
  refine h_q hflT rfl ?_
  refine h_done (d_seq (d_reg ?_))
  refine h_q hflT rfl ?_
  refine h_val rfl (.int .i64 ((k + 1 : Nat) : Int)) (fun b w hb hH => exec_ar rfl rfl rfl rfl (by rw [IntWalk.i64_in _ (by omega)]; omega) hb) ?_
  refine h_val rfl (.int .u64 ((k + 1 : Nat) : Int)) (fun b w hb hH => exec_conv Tryz.underlying3 Tryz.underlying31 (IntWalk.u64_in _ (by omega)) rfl rfl hb) ?_
  refine h_act (post := fun _ => [Vec 34 5 encV v1 l1, Each (fun x : EntV => Vec 5 1 encB x.v x.e.d) l1, TabZ tb, LogT p1 dk lim (marksOf M2), DiskT dk d2]) rfl (a_does (os' := fun _ => [Vec 34 5 encV v1 l1, Each (fun x : EntV => Vec 5 1 encB x.v x.e.d) l1, TabZ tb, LogT p1 dk lim (marksOf M2), DiskT dk d2]) [3, 4, 2] 0 (ent_of Tryz.func16 (by kernel_rfl) rfl) (hA2 p1 dk) rfl rfl rfl (fun _ => rfl) rfl rfl rfl) ?_; rintro ⟨⟩
  refine h_val rfl (.bool false) (fun b w hb hH => xCm rfl rfl rfl (cmp_neq_f (by decide)) hb) ?_
  refine h_done (d_else rfl (d_skip (f_to (d_reg ?_))))
  refine h_q hflT rfl ?_
  refine h_done (d_seq ?_)
  rcases Nat.eq_zero_or_pos k with hk0 | hk0
  · skip
    have hCk : LogC ((l1.map (·.e)).take k) := by rw [hk0, List.take_zero]; exact LogC.nil
    have hlast : (l1.map (·.e)).take k = [] ∨ ((lastIT ((l1.map (·.e)).take k)).2 = (k : Int) ∧ (lastIT ((l1.map (·.e)).take k)).1 ≤ max 1 1) := .inl (by rw [hk0, List.take_zero])
    refine d_reg ?_
    refine h_q hflT rfl ?_
    refine h_val rfl (.bool false) (fun b w hb hH => xCm rfl rfl rfl (cmp_gtr_f (by omega)) hb) ?_
    refine h_done (d_else rfl (d_skip (f_to (d_reg ?_))))
    refine h_q hflT rfl ?_
    refine h_val rfl (.int .u64 (k : Int)) (fun b w hb hH => exec_conv Tryz.underlying3 Tryz.underlying31 (IntWalk.u64_in _ (by omega)) rfl rfl hb) ?_
    refine h_q hflT rfl ?_
    refine h_act (post := fun (⟨v2, l2⟩ : EsV) => [Ents 34 v2 l2, fact (l2.map (·.e) = handL (k : Int) 1 ((more.take 20).map (·.e))), Vec 34 5 encV v1 l1, Each (fun x : EntV => Vec 5 1 encB x.v x.e.d) l1, TabZ tb, LogT p1 dk lim (marksOf M2), DiskT dk d2]) rfl (a_makes  [] 0 (ent_of Tryz.func29 (by kernel_rfl) rfl) (fun w hH => hand_any w more mv (hm.below (hp_below 2 rfl hW hH)) okm (k : Int) 1 20 ⟨by omega, by omega⟩ ⟨by omega, by omega⟩ (by decide)) rfl rfl rfl (fun _ => rfl) rfl rfl rfl) ?_; rintro ⟨v2, l2⟩
    refine WL2.fact 1 rfl (fun _ h => h.2) ?_; rintro hs2
    refine WL2.leave [1] rfl rfl ?_
    refine h_q hflT rfl ?_
    refine h_done (d_seq ?_)
    have hC2 : LogC (allE M2 ++ l2.map (·.e)) := by rw [hM2, hs2]; exact handC _ _ _ _ hCk (by omega) (by have := f20 more; omega) (by omega) (by have := f20 more; omega) hlast
    have hl2 : l2.length ≤ 20 := by have := congrArg List.length hs2; rw [handL_len, List.length_map] at this; have := f20 more; omega
    have hm2 : (allE M2).length ≤ 20 := by rw [hM2, List.length_take]; omega
    obtain ⟨d3, hD3, hA3⟩ := hD2.append (lim := lim) (l := l2) tb (by omega) hC2 (by omega) (by omega)
    have hall3 : allE (addsL lim M2 l2) = (l1.map (·.e)).take k ++ l2.map (·.e) := by rw [allE_adds, hM2]
    refine d_reg ?_
    refine h_q hflT rfl ?_
    refine h_act (post := fun _ => [Ents 34 v2 l2, Vec 34 5 encV v1 l1, Each (fun x : EntV => Vec 5 1 encB x.v x.e.d) l1, TabZ tb, LogT p1 dk lim (marksOf (addsL lim M2 l2)), DiskT dk d3]) rfl (a_does (os' := fun _ => [Ents 34 v2 l2, Vec 34 5 encV v1 l1, Each (fun x : EntV => Vec 5 1 encB x.v x.e.d) l1, TabZ tb, LogT p1 dk lim (marksOf (addsL lim M2 l2)), DiskT dk d3]) [4, 5, 3, 0] 0 (ent_of Tryz.func13 (by kernel_rfl) rfl) (hA3 p1 dk v2) rfl rfl rfl (fun _ => rfl) rfl rfl rfl) ?_; rintro ⟨⟩
    refine h_val rfl (.bool false) (fun b w hb hH => xCm rfl rfl rfl (cmp_neq_f (by decide)) hb) ?_
    refine h_done (d_else rfl (d_skip (f_to ?_)))
    refine d_open 0 rfl ents_open (fun _ => rfl) ?_; rintro ⟨⟩
    refine WC2.fact 2 rfl (fun _ h => Vec.is h) ?_; rintro ⟨A1, c1, hv1⟩
    change v1 = .slice A1 l1.length c1 at hv1
    subst hv1
    refine WC2.keep (env' := [(2, mv), (8, .bool false), (0, .int .i64 (lim : Int)), (9, .pointer (some ⟨dk, 0, none⟩)), (11, .pointer (some ⟨p1, 0, none⟩)), (13, .slice A1 l1.length c1), (55, .bool false), (56, .int .i64 at0), (57, .slice A1 l1.length c1), (58, .int .i64 (l1.length : Int)), (59, .int .i64 ((l1.length + 1 : Nat) : Int)), (60, .int .i64 (k : Int)), (3, .int .i64 (k : Int)), (61, .pointer (some ⟨p1, 0, none⟩)), (62, .int .i64 (k : Int)), (63, .int .i64 ((k + 1 : Nat) : Int)), (64, .int .u64 ((k + 1 : Nat) : Int)), (65, .int .i64 0), (66, .bool false), (14, .int .u64 1), (67, .int .i64 (k : Int)), (68, .bool false), (75, .int .i64 (k : Int)), (76, .int .u64 (k : Int)), (77, .int .u64 1), (78, mv), (79, v2), (15, v2), (80, .pointer (some ⟨p1, 0, none⟩)), (81, v2), (82, .int .i64 0), (83, .bool false)]) ⟨rfl, rfl, rfl, rfl, rfl, rfl, rfl, rfl, rfl, rfl, rfl, rfl, rfl, rfl, rfl, rfl, rfl, rfl, rfl, rfl, rfl, rfl, rfl, rfl, rfl, rfl, rfl, rfl, rfl, rfl, rfl, rfl, trivial⟩ ?_
    refine WC2.mid [Vec 34 5 encV v2 l2, Each (fun x : EntV => Vec 5 1 encB x.v x.e.d) l2, Vec 34 5 encV (.slice A1 l1.length c1) l1, Each (fun x : EntV => Vec 5 1 encB x.v x.e.d) l1, TabZ tb, LogT p1 dk lim (marksOf (addsL lim M2 l2)), DiskT dk d3] (.refl _) ?_
    refine WC2.fact 2 rfl vec_capK ?_; rintro hcap1
    have htl1 : (l1.take k).length = k := by rw [List.length_take]; omega
    have hsub1 : subv 5 (.slice A1 l1.length c1) 0 k = .slice A1 (l1.take k).length c1 := by rw [htl1]; exact subTakeK
    refine d_reg ?_
    refine h_q hflT rfl ?_
    refine h_val rfl (.slice A1 (l1.take k).length c1) (fun b w hb hH => e_sub_hi (j := k) sl_api_Entry hsub1 (by omega) rfl rfl rfl hH hb) ?_
    refine h_act (post := fun (⟨v3, l3⟩ : EsV) => [Ents 34 v3 l3, fact (l3.map (·.e) = (l1.take k).map (·.e)), Vec 34 5 encV v2 l2, Each (fun x : EntV => Vec 5 1 encB x.v x.e.d) l2, Vec 34 5 encV (.slice A1 l1.length c1) l1, Each (fun x : EntV => Vec 5 1 encB x.v x.e.d) l1, TabZ tb, LogT p1 dk lim (marksOf (addsL lim M2 l2)), DiskT dk d3]) rfl (a_makes  [] 0 (ent_of Tryz.func34 (by kernel_rfl) rfl) (fun w hH => copye_does w (.slice A1 (l1.take k).length c1) (l1.take k) (ents_part 2 3 hkl rfl rfl hH) (by rw [List.length_take]; omega) (fun x hx => hdl1 x (List.mem_of_mem_take hx))) rfl rfl rfl (fun _ => rfl) rfl rfl rfl) ?_; rintro ⟨v3, l3⟩
    refine WL2.fact 1 rfl (fun _ h => h.2) ?_; rintro hs3
    refine WL2.leave [1] rfl rfl ?_
    refine h_open 0 rfl ents_open (fun _ => rfl) ?_; rintro ⟨⟩
    have hl3 : l3.length ≤ 20 := by have := congrArg List.length hs3; simp only [List.length_map, List.length_take] at this; omega
    refine h_q hflT rfl ?_
    refine h_act (post := fun v4 => [Vec 34 5 encV v4 (l3 ++ l2), Each (fun x : EntV => Vec 5 1 encB x.v x.e.d) l3, Vec 34 5 encV v2 l2, Each (fun x : EntV => Vec 5 1 encB x.v x.e.d) l2, Vec 34 5 encV (.slice A1 l1.length c1) l1, Each (fun x : EntV => Vec 5 1 encB x.v x.e.d) l1, TabZ tb, LogT p1 dk lim (marksOf (addsL lim M2 l2)), DiskT dk d3]) rfl (a_appendK (nb := 56) 0 sl_api_Entry okV (by kernel_rfl) (by decide) rfl (l2) (fun w hH => hH.vec 2 rfl okV) (by omega) rfl rfl rfl rfl) ?_; rintro v4
    refine h_q hflT rfl ?_
    refine h_done ?_
    have hwant : allE (addsL lim M2 l2) = (l3 ++ l2).map (·.e) := by rw [hall3, List.map_append, hs3, List.map_take]
    refine d_reg ?_
    refine h_q hflT rfl ?_
    refine h_act (post := fun p2 => [TabZ tb, Vec 34 5 encV v4 (l3 ++ l2), Each (fun x : EntV => Vec 5 1 encB x.v x.e.d) l3, Vec 34 5 encV v2 l2, Each (fun x : EntV => Vec 5 1 encB x.v x.e.d) l2, Vec 34 5 encV (.slice A1 l1.length c1) l1, Each (fun x : EntV => Vec 5 1 encB x.v x.e.d) l1, DiskT dk d3, LogT p1 dk lim (marksOf (addsL lim M2 l2)), LogT p2 dk lim (marksOf (addsL lim M2 l2))]) rfl (a_does (os' := fun p2 => [TabZ tb, Vec 34 5 encV v4 (l3 ++ l2), Each (fun x : EntV => Vec 5 1 encB x.v x.e.d) l3, Vec 34 5 encV v2 l2, Each (fun x : EntV => Vec 5 1 encB x.v x.e.d) l2, Vec 34 5 encV (.slice A1 l1.length c1) l1, Each (fun x : EntV => Vec 5 1 encB x.v x.e.d) l1, DiskT dk d3, LogT p1 dk lim (marksOf (addsL lim M2 l2)), LogT p2 dk lim (marksOf (addsL lim M2 l2))]) [8, 6] 0 (ent_of Tryz.func11 (by kernel_rfl) rfl) (hD3.opens (dk := dk) (lim := lim) tb (by omega) (by omega) (by omega)) rfl rfl rfl (fun _ => rfl) rfl rfl rfl) ?_; rintro p2
    refine h_q hflT rfl ?_
    refine h_done ?_
    refine WC2.keep (env' := [(8, .bool false), (11, .pointer (some ⟨p1, 0, none⟩)), (16, v4), (17, .pointer (some ⟨p2, 0, none⟩)), (18, .int .i64 0)]) ⟨rfl, rfl, rfl, rfl, rfl, trivial⟩ ?_
    refine d_reg ?_
    refine h_q hflT rfl ?_
    refine h_val rfl (.bool true) (fun b w hb hH => xCm rfl rfl rfl (cEt (by decide)) hb) ?_
    refine h_q hflT rfl ?_
    refine h_val rfl (.bool true) (fun b w hb hH => exec_pnil_neq (by kernel_rfl) rfl rfl rfl hb) ?_
    refine h_q hflT rfl ?_
    refine h_act (post := fun (⟨v5, l5⟩ : EsV) => [TabZ tb, fact (l5.map (·.e) = allE (addsL lim M2 l2)), DiskT dk d3, Vec 34 5 encV v4 (l3 ++ l2), Each (fun x : EntV => Vec 5 1 encB x.v x.e.d) l3, Vec 34 5 encV v2 l2, Each (fun x : EntV => Vec 5 1 encB x.v x.e.d) l2, Vec 34 5 encV (.slice A1 l1.length c1) l1, Each (fun x : EntV => Vec 5 1 encB x.v x.e.d) l1, LogT p1 dk lim (marksOf (addsL lim M2 l2)), Ents 34 v5 l5, LogT p2 dk lim (marksOf (addsL lim M2 l2))]) rfl (a_does  [8, 7, 0] 0 (ent_of Tryz.func33 (by kernel_rfl) rfl) (hD3.listD tb (by omega) p1 dk lim) rfl rfl rfl (fun _ => rfl) rfl rfl rfl) ?_; rintro ⟨v5, l5⟩
    refine WL2.fact 1 rfl (fun _ h => h.2) ?_; rintro hv5
    refine WL2.leave [1] rfl rfl ?_
    have hlv5 : l5.length ≤ 1000 := by have h9 := congrArg List.length (show l5.map (·.e) = allE (addsL lim M2 l2) from hv5); rw [List.length_map] at h9; have := hD3.g.many; omega
    refine h_q hflT rfl ?_
    refine h_act (post := fun _ => [TabZ tb, DiskT dk d3, Vec 34 5 encV v4 (l3 ++ l2), Each (fun x : EntV => Vec 5 1 encB x.v x.e.d) l3, Vec 34 5 encV v2 l2, Each (fun x : EntV => Vec 5 1 encB x.v x.e.d) l2, Vec 34 5 encV (.slice A1 l1.length c1) l1, Each (fun x : EntV => Vec 5 1 encB x.v x.e.d) l1, LogT p1 dk lim (marksOf (addsL lim M2 l2)), Ents 34 v5 l5, LogT p2 dk lim (marksOf (addsL lim M2 l2))]) rfl (a_call (ent_of Tryz.func35 (by kernel_rfl) rfl) (fun w hH => samees_true w v5 v4 l5 (l3 ++ l2) (hH.ents 9 rfl) (ents_two 2 3 5 rfl rfl rfl hH) (hv5.trans hwant) (by omega)) rfl rfl rfl) ?_; rintro ⟨⟩
    refine h_q hflT rfl ?_
    refine h_act (post := fun (⟨v6, l6⟩ : EsV) => [TabZ tb, fact (l6.map (·.e) = allE (addsL lim M2 l2)), DiskT dk d3, LogT p2 dk lim (marksOf (addsL lim M2 l2)), Vec 34 5 encV v4 (l3 ++ l2), Each (fun x : EntV => Vec 5 1 encB x.v x.e.d) l3, Vec 34 5 encV v2 l2, Each (fun x : EntV => Vec 5 1 encB x.v x.e.d) l2, Vec 34 5 encV (.slice A1 l1.length c1) l1, Each (fun x : EntV => Vec 5 1 encB x.v x.e.d) l1, LogT p1 dk lim (marksOf (addsL lim M2 l2)), Ents 34 v5 l5, Ents 34 v6 l6]) rfl (a_does  [10, 1, 0] 0 (ent_of Tryz.func33 (by kernel_rfl) rfl) (hD3.listD tb (by omega) p2 dk lim) rfl rfl rfl (fun _ => rfl) rfl rfl rfl) ?_; rintro ⟨v6, l6⟩
    refine WL2.fact 1 rfl (fun _ h => h.2) ?_; rintro hv6
    refine WL2.leave [1] rfl rfl ?_
    have hlv6 : l6.length ≤ 1000 := by have h9 := congrArg List.length (show l6.map (·.e) = allE (addsL lim M2 l2) from hv6); rw [List.length_map] at h9; have := hD3.g.many; omega
    refine h_q hflT rfl ?_
    refine h_act (post := fun _ => [TabZ tb, DiskT dk d3, LogT p2 dk lim (marksOf (addsL lim M2 l2)), Vec 34 5 encV v4 (l3 ++ l2), Each (fun x : EntV => Vec 5 1 encB x.v x.e.d) l3, Vec 34 5 encV v2 l2, Each (fun x : EntV => Vec 5 1 encB x.v x.e.d) l2, Vec 34 5 encV (.slice A1 l1.length c1) l1, Each (fun x : EntV => Vec 5 1 encB x.v x.e.d) l1, LogT p1 dk lim (marksOf (addsL lim M2 l2)), Ents 34 v5 l5, Ents 34 v6 l6]) rfl (a_call (ent_of Tryz.func35 (by kernel_rfl) rfl) (fun w hH => samees_true w v6 v4 l6 (l3 ++ l2) (hH.ents 11 rfl) (ents_two 3 4 6 rfl rfl rfl hH) (hv6.trans hwant) (by omega)) rfl rfl rfl) ?_; rintro ⟨⟩
    refine h_q hflT rfl ?_
    refine h_done (d_ret ?_)
    exact f_fin1 (.tmp rfl) (fun w h => ⟨rfl, hp_below 0 rfl hW h⟩) rfl
  · skip
    obtain ⟨z, hz⟩ : ∃ z, l1[k - 1]? = some z := ⟨_, List.getElem?_eq_getElem (by omega)⟩
    have hk1 : k - 1 < l1.length := by omega
    have hCk : LogC ((l1.map (·.e)).take k) := take_C hC1 k
    obtain ⟨hzt, hzi⟩ := hand_at hs1 hz
    have hlast : (l1.map (·.e)).take k = [] ∨ ((lastIT ((l1.map (·.e)).take k)).2 = (k : Int) ∧ (lastIT ((l1.map (·.e)).take k)).1 ≤ max 1 z.e.t) := .inr (last_at hk0 hz hzi)
    refine d_reg ?_
    refine h_q hflT rfl ?_
    refine h_val rfl (.bool true) (fun b w hb hH => xCm rfl rfl rfl (cmp_gtr_t (by omega)) hb) ?_
    refine h_done (d_then rfl (d_reg1 ?_))
    refine h_q hflT rfl ?_
    refine h_val rfl (.int .i64 ((k - 1 : Nat) : Int)) (fun b w hb hH => exec_ar rfl rfl rfl rfl (by rw [IntWalk.i64_in _ (by omega)]; omega) hb) ?_
    refine h_val rfl (elp v1 ((k - 1) * 5)) (fun b w hb hH => e_vidx 0 sl_api_Entry okV rfl (k - 1) hk1 rfl rfl rfl hH hb) ?_
    refine h_val rfl (elp v1 ((k - 1) * 5 + 1)) (fun b w hb hH => eSf okV (by decide) (hH.vec 0 rfl okV) (j := (k - 1)) hz fd_api_Entry_1 rfl rfl hb) ?_
    refine h_val rfl (.int .u64 z.e.t) (fun b w hb hH => e_sload okV (by decide) (hH.vec 0 rfl okV) (j := (k - 1)) hz ty_uint64 (off := 1) rfl rfl rfl hb) ?_
    refine h_q hflT rfl ?_
    refine h_nil (f_to (d_reg ?_))
    refine h_q hflT rfl ?_
    refine h_val rfl (.int .u64 (k : Int)) (fun b w hb hH => exec_conv Tryz.underlying3 Tryz.underlying31 (IntWalk.u64_in _ (by omega)) rfl rfl hb) ?_
    refine h_q hflT rfl ?_
    refine h_act (post := fun (⟨v2, l2⟩ : EsV) => [Ents 34 v2 l2, fact (l2.map (·.e) = handL (k : Int) z.e.t ((more.take 20).map (·.e))), Vec 34 5 encV v1 l1, Each (fun x : EntV => Vec 5 1 encB x.v x.e.d) l1, TabZ tb, LogT p1 dk lim (marksOf M2), DiskT dk d2]) rfl (a_makes  [] 0 (ent_of Tryz.func29 (by kernel_rfl) rfl) (fun w hH => hand_any w more mv (hm.below (hp_below 2 rfl hW hH)) okm (k : Int) z.e.t 20 ⟨by omega, by omega⟩ ⟨by omega, by omega⟩ (by decide)) rfl rfl rfl (fun _ => rfl) rfl rfl rfl) ?_; rintro ⟨v2, l2⟩
    refine WL2.fact 1 rfl (fun _ h => h.2) ?_; rintro hs2
    refine WL2.leave [1] rfl rfl ?_
    refine h_q hflT rfl ?_
    refine h_done (d_seq ?_)
    have hC2 : LogC (allE M2 ++ l2.map (·.e)) := by rw [hM2, hs2]; exact handC _ _ _ _ hCk (by omega) (by have := f20 more; omega) (by omega) (by have := f20 more; omega) hlast
    have hl2 : l2.length ≤ 20 := by have := congrArg List.length hs2; rw [handL_len, List.length_map] at this; have := f20 more; omega
    have hm2 : (allE M2).length ≤ 20 := by rw [hM2, List.length_take]; omega
    obtain ⟨d3, hD3, hA3⟩ := hD2.append (lim := lim) (l := l2) tb (by omega) hC2 (by omega) (by omega)
    have hall3 : allE (addsL lim M2 l2) = (l1.map (·.e)).take k ++ l2.map (·.e) := by rw [allE_adds, hM2]
    refine d_reg ?_
    refine h_q hflT rfl ?_
    refine h_act (post := fun _ => [Ents 34 v2 l2, Vec 34 5 encV v1 l1, Each (fun x : EntV => Vec 5 1 encB x.v x.e.d) l1, TabZ tb, LogT p1 dk lim (marksOf (addsL lim M2 l2)), DiskT dk d3]) rfl (a_does (os' := fun _ => [Ents 34 v2 l2, Vec 34 5 encV v1 l1, Each (fun x : EntV => Vec 5 1 encB x.v x.e.d) l1, TabZ tb, LogT p1 dk lim (marksOf (addsL lim M2 l2)), DiskT dk d3]) [4, 5, 3, 0] 0 (ent_of Tryz.func13 (by kernel_rfl) rfl) (hA3 p1 dk v2) rfl rfl rfl (fun _ => rfl) rfl rfl rfl) ?_; rintro ⟨⟩
    refine h_val rfl (.bool false) (fun b w hb hH => xCm rfl rfl rfl (cmp_neq_f (by decide)) hb) ?_
    refine h_done (d_else rfl (d_skip (f_to ?_)))
    refine d_open 0 rfl ents_open (fun _ => rfl) ?_; rintro ⟨⟩
    refine WC2.fact 2 rfl (fun _ h => Vec.is h) ?_; rintro ⟨A1, c1, hv1⟩
    change v1 = .slice A1 l1.length c1 at hv1
    subst hv1
    refine WC2.keep (env' := [(2, mv), (8, .bool false), (0, .int .i64 (lim : Int)), (9, .pointer (some ⟨dk, 0, none⟩)), (11, .pointer (some ⟨p1, 0, none⟩)), (13, .slice A1 l1.length c1), (55, .bool false), (56, .int .i64 at0), (57, .slice A1 l1.length c1), (58, .int .i64 (l1.length : Int)), (59, .int .i64 ((l1.length + 1 : Nat) : Int)), (60, .int .i64 (k : Int)), (3, .int .i64 (k : Int)), (61, .pointer (some ⟨p1, 0, none⟩)), (62, .int .i64 (k : Int)), (63, .int .i64 ((k + 1 : Nat) : Int)), (64, .int .u64 ((k + 1 : Nat) : Int)), (65, .int .i64 0), (66, .bool false), (67, .int .i64 (k : Int)), (68, .bool true), (69, .slice A1 l1.length c1), (70, .int .i64 (k : Int)), (71, .int .i64 ((k - 1 : Nat) : Int)), (74, .int .u64 z.e.t), (14, .int .u64 z.e.t), (75, .int .i64 (k : Int)), (76, .int .u64 (k : Int)), (77, .int .u64 z.e.t), (78, mv), (79, v2), (15, v2), (80, .pointer (some ⟨p1, 0, none⟩)), (81, v2), (82, .int .i64 0), (83, .bool false)]) ⟨rfl, rfl, rfl, rfl, rfl, rfl, rfl, rfl, rfl, rfl, rfl, rfl, rfl, rfl, rfl, rfl, rfl, rfl, rfl, rfl, rfl, rfl, rfl, rfl, rfl, rfl, rfl, rfl, rfl, rfl, rfl, rfl, rfl, rfl, rfl, rfl, trivial⟩ ?_
    refine WC2.mid [Vec 34 5 encV v2 l2, Each (fun x : EntV => Vec 5 1 encB x.v x.e.d) l2, Vec 34 5 encV (.slice A1 l1.length c1) l1, Each (fun x : EntV => Vec 5 1 encB x.v x.e.d) l1, TabZ tb, LogT p1 dk lim (marksOf (addsL lim M2 l2)), DiskT dk d3] (.refl _) ?_
    refine WC2.fact 2 rfl vec_capK ?_; rintro hcap1
    have htl1 : (l1.take k).length = k := by rw [List.length_take]; omega
    have hsub1 : subv 5 (.slice A1 l1.length c1) 0 k = .slice A1 (l1.take k).length c1 := by rw [htl1]; exact subTakeK
    refine d_reg ?_
    refine h_q hflT rfl ?_
    refine h_val rfl (.slice A1 (l1.take k).length c1) (fun b w hb hH => e_sub_hi (j := k) sl_api_Entry hsub1 (by omega) rfl rfl rfl hH hb) ?_
    refine h_act (post := fun (⟨v3, l3⟩ : EsV) => [Ents 34 v3 l3, fact (l3.map (·.e) = (l1.take k).map (·.e)), Vec 34 5 encV v2 l2, Each (fun x : EntV => Vec 5 1 encB x.v x.e.d) l2, Vec 34 5 encV (.slice A1 l1.length c1) l1, Each (fun x : EntV => Vec 5 1 encB x.v x.e.d) l1, TabZ tb, LogT p1 dk lim (marksOf (addsL lim M2 l2)), DiskT dk d3]) rfl (a_makes  [] 0 (ent_of Tryz.func34 (by kernel_rfl) rfl) (fun w hH => copye_does w (.slice A1 (l1.take k).length c1) (l1.take k) (ents_part 2 3 hkl rfl rfl hH) (by rw [List.length_take]; omega) (fun x hx => hdl1 x (List.mem_of_mem_take hx))) rfl rfl rfl (fun _ => rfl) rfl rfl rfl) ?_; rintro ⟨v3, l3⟩
    refine WL2.fact 1 rfl (fun _ h => h.2) ?_; rintro hs3
    refine WL2.leave [1] rfl rfl ?_
    refine h_open 0 rfl ents_open (fun _ => rfl) ?_; rintro ⟨⟩
    have hl3 : l3.length ≤ 20 := by have := congrArg List.length hs3; simp only [List.length_map, List.length_take] at this; omega
    refine h_q hflT rfl ?_
    refine h_act (post := fun v4 => [Vec 34 5 encV v4 (l3 ++ l2), Each (fun x : EntV => Vec 5 1 encB x.v x.e.d) l3, Vec 34 5 encV v2 l2, Each (fun x : EntV => Vec 5 1 encB x.v x.e.d) l2, Vec 34 5 encV (.slice A1 l1.length c1) l1, Each (fun x : EntV => Vec 5 1 encB x.v x.e.d) l1, TabZ tb, LogT p1 dk lim (marksOf (addsL lim M2 l2)), DiskT dk d3]) rfl (a_appendK (nb := 56) 0 sl_api_Entry okV (by kernel_rfl) (by decide) rfl (l2) (fun w hH => hH.vec 2 rfl okV) (by omega) rfl rfl rfl rfl) ?_; rintro v4
    refine h_q hflT rfl ?_
    refine h_done ?_
    have hwant : allE (addsL lim M2 l2) = (l3 ++ l2).map (·.e) := by rw [hall3, List.map_append, hs3, List.map_take]
    refine d_reg ?_
    refine h_q hflT rfl ?_
    refine h_act (post := fun p2 => [TabZ tb, Vec 34 5 encV v4 (l3 ++ l2), Each (fun x : EntV => Vec 5 1 encB x.v x.e.d) l3, Vec 34 5 encV v2 l2, Each (fun x : EntV => Vec 5 1 encB x.v x.e.d) l2, Vec 34 5 encV (.slice A1 l1.length c1) l1, Each (fun x : EntV => Vec 5 1 encB x.v x.e.d) l1, DiskT dk d3, LogT p1 dk lim (marksOf (addsL lim M2 l2)), LogT p2 dk lim (marksOf (addsL lim M2 l2))]) rfl (a_does (os' := fun p2 => [TabZ tb, Vec 34 5 encV v4 (l3 ++ l2), Each (fun x : EntV => Vec 5 1 encB x.v x.e.d) l3, Vec 34 5 encV v2 l2, Each (fun x : EntV => Vec 5 1 encB x.v x.e.d) l2, Vec 34 5 encV (.slice A1 l1.length c1) l1, Each (fun x : EntV => Vec 5 1 encB x.v x.e.d) l1, DiskT dk d3, LogT p1 dk lim (marksOf (addsL lim M2 l2)), LogT p2 dk lim (marksOf (addsL lim M2 l2))]) [8, 6] 0 (ent_of Tryz.func11 (by kernel_rfl) rfl) (hD3.opens (dk := dk) (lim := lim) tb (by omega) (by omega) (by omega)) rfl rfl rfl (fun _ => rfl) rfl rfl rfl) ?_; rintro p2
    refine h_q hflT rfl ?_
    refine h_done ?_
    refine WC2.keep (env' := [(8, .bool false), (11, .pointer (some ⟨p1, 0, none⟩)), (16, v4), (17, .pointer (some ⟨p2, 0, none⟩)), (18, .int .i64 0)]) ⟨rfl, rfl, rfl, rfl, rfl, trivial⟩ ?_
    refine d_reg ?_
    refine h_q hflT rfl ?_
    refine h_val rfl (.bool true) (fun b w hb hH => xCm rfl rfl rfl (cEt (by decide)) hb) ?_
    refine h_q hflT rfl ?_
    refine h_val rfl (.bool true) (fun b w hb hH => exec_pnil_neq (by kernel_rfl) rfl rfl rfl hb) ?_
    refine h_q hflT rfl ?_
    refine h_act (post := fun (⟨v5, l5⟩ : EsV) => [TabZ tb, fact (l5.map (·.e) = allE (addsL lim M2 l2)), DiskT dk d3, Vec 34 5 encV v4 (l3 ++ l2), Each (fun x : EntV => Vec 5 1 encB x.v x.e.d) l3, Vec 34 5 encV v2 l2, Each (fun x : EntV => Vec 5 1 encB x.v x.e.d) l2, Vec 34 5 encV (.slice A1 l1.length c1) l1, Each (fun x : EntV => Vec 5 1 encB x.v x.e.d) l1, LogT p1 dk lim (marksOf (addsL lim M2 l2)), Ents 34 v5 l5, LogT p2 dk lim (marksOf (addsL lim M2 l2))]) rfl (a_does  [8, 7, 0] 0 (ent_of Tryz.func33 (by kernel_rfl) rfl) (hD3.listD tb (by omega) p1 dk lim) rfl rfl rfl (fun _ => rfl) rfl rfl rfl) ?_; rintro ⟨v5, l5⟩
    refine WL2.fact 1 rfl (fun _ h => h.2) ?_; rintro hv5
    refine WL2.leave [1] rfl rfl ?_
    have hlv5 : l5.length ≤ 1000 := by have h9 := congrArg List.length (show l5.map (·.e) = allE (addsL lim M2 l2) from hv5); rw [List.length_map] at h9; have := hD3.g.many; omega
    refine h_q hflT rfl ?_
    refine h_act (post := fun _ => [TabZ tb, DiskT dk d3, Vec 34 5 encV v4 (l3 ++ l2), Each (fun x : EntV => Vec 5 1 encB x.v x.e.d) l3, Vec 34 5 encV v2 l2, Each (fun x : EntV => Vec 5 1 encB x.v x.e.d) l2, Vec 34 5 encV (.slice A1 l1.length c1) l1, Each (fun x : EntV => Vec 5 1 encB x.v x.e.d) l1, LogT p1 dk lim (marksOf (addsL lim M2 l2)), Ents 34 v5 l5, LogT p2 dk lim (marksOf (addsL lim M2 l2))]) rfl (a_call (ent_of Tryz.func35 (by kernel_rfl) rfl) (fun w hH => samees_true w v5 v4 l5 (l3 ++ l2) (hH.ents 9 rfl) (ents_two 2 3 5 rfl rfl rfl hH) (hv5.trans hwant) (by omega)) rfl rfl rfl) ?_; rintro ⟨⟩
    refine h_q hflT rfl ?_
    refine h_act (post := fun (⟨v6, l6⟩ : EsV) => [TabZ tb, fact (l6.map (·.e) = allE (addsL lim M2 l2)), DiskT dk d3, LogT p2 dk lim (marksOf (addsL lim M2 l2)), Vec 34 5 encV v4 (l3 ++ l2), Each (fun x : EntV => Vec 5 1 encB x.v x.e.d) l3, Vec 34 5 encV v2 l2, Each (fun x : EntV => Vec 5 1 encB x.v x.e.d) l2, Vec 34 5 encV (.slice A1 l1.length c1) l1, Each (fun x : EntV => Vec 5 1 encB x.v x.e.d) l1, LogT p1 dk lim (marksOf (addsL lim M2 l2)), Ents 34 v5 l5, Ents 34 v6 l6]) rfl (a_does  [10, 1, 0] 0 (ent_of Tryz.func33 (by kernel_rfl) rfl) (hD3.listD tb (by omega) p2 dk lim) rfl rfl rfl (fun _ => rfl) rfl rfl rfl) ?_; rintro ⟨v6, l6⟩
    refine WL2.fact 1 rfl (fun _ h => h.2) ?_; rintro hv6
    refine WL2.leave [1] rfl rfl ?_
    have hlv6 : l6.length ≤ 1000 := by have h9 := congrArg List.length (show l6.map (·.e) = allE (addsL lim M2 l2) from hv6); rw [List.length_map] at h9; have := hD3.g.many; omega
    refine h_q hflT rfl ?_
    refine h_act (post := fun _ => [TabZ tb, DiskT dk d3, LogT p2 dk lim (marksOf (addsL lim M2 l2)), Vec 34 5 encV v4 (l3 ++ l2), Each (fun x : EntV => Vec 5 1 encB x.v x.e.d) l3, Vec 34 5 encV v2 l2, Each (fun x : EntV => Vec 5 1 encB x.v x.e.d) l2, Vec 34 5 encV (.slice A1 l1.length c1) l1, Each (fun x : EntV => Vec 5 1 encB x.v x.e.d) l1, LogT p1 dk lim (marksOf (addsL lim M2 l2)), Ents 34 v5 l5, Ents 34 v6 l6]) rfl (a_call (ent_of Tryz.func35 (by kernel_rfl) rfl) (fun w hH => samees_true w v6 v4 l6 (l3 ++ l2) (hH.ents 11 rfl) (ents_two 3 4 6 rfl rfl rfl hH) (hv6.trans hwant) (by omega)) rfl rfl rfl) ?_; rintro ⟨⟩
    refine h_q hflT rfl ?_
    refine h_done (d_ret ?_)
    exact f_fin1 (.tmp rfl) (fun w h => ⟨rfl, hp_below 0 rfl hW h⟩) rfl
end Go.Proofs.YtaipejaeeohpkaaGreatDoor.Sep
