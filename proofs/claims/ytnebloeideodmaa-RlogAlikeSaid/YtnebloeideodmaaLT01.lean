/-
  RlMa · RlMb
-/
import Derived.Test.YtnebloeideodmaaLQ01
import Derived.Test.YtnebloeideodmaaLR01
set_option linter.unusedSimpArgs false
set_option linter.unusedVariables false

namespace Go.Proofs.Ytnebloeideodmaa.Sep
open Go.RowKit
open Go.Proofs.Ytnebloeideodmaa.Mem (Dist Blk Chg below0)

theorem hand_t {ix tm : Int} {e : EntD} (h : 1 ≤ tm) : (handE ix tm e).t = tm + e.k % 8 / 6 := by
  have h1 := Int.emod_nonneg e.k (show (8 : Int) ≠ 0 by decide)
  show max 1 (tm + e.k % 8 / 6) = _
  omega
theorem hand_d (ix tm : Int) (e : EntD) : (handE ix tm e).d.length ≤ 31 := by
  show (if e.c % 3 = 1 then (1 : UInt8) :: e.d.take 30 else []).length ≤ 31
  split
  · rw [List.length_cons, List.length_take]; omega
  · simp
theorem handL_d : ∀ (l : List EntD) (ix tm : Int) (e : EntD), e ∈ handL ix tm l → e.d.length ≤ 31
  | [], _, _, _, h => by cases h
  | x :: r, ix, tm, e, h => by
    rcases List.mem_cons.1 h with h | h
    · rw [h]; exact hand_d ix tm x
    · exact handL_d r _ _ e h
theorem hand_map_d {L : List EntV} {l : List EntD} {ix tm : Int} (h : L.map (·.e) = handL ix tm l) (x : EntV) (hx : x ∈ L) : x.e.d.length ≤ 140737488351232 := by
  have := handL_d l ix tm x.e (by rw [← h]; exact List.mem_map.2 ⟨x, hx, rfl⟩)
  omega
theorem hand_fol : ∀ (l : List EntD) (ix tm t0 : Int), 0 ≤ ix → ix + (l.length : Int) < 1000 → 1 ≤ tm → tm + (l.length : Int) < 1000 → t0 ≤ tm → folB ix t0 (handL ix tm l) = true
  | [], _, _, _, _, _, _, _, _ => rfl
  | x :: r, ix, tm, t0, h1, h2, h3, h4, h5 => by
    have hk0 := Int.emod_nonneg x.k (show (8 : Int) ≠ 0 by decide)
    have hk8 := Int.emod_lt_of_pos x.k (show (0 : Int) < 8 by decide)
    have ht := hand_t (ix := ix) (e := x) h3
    rw [List.length_cons] at h2 h4
    push_cast at h2 h4
    show folB ix t0 (handE ix tm x :: handL (ix + 1) (tm + x.k % 8 / 6) r) = true
    rw [folB_cons, handE_right ⟨h1, by omega⟩ ⟨by omega, by omega⟩]
    have hi : (handE ix tm x).i = ix + 1 := rfl
    rw [hi, ht]
    simp only [decide_true, Bool.true_and]
    rw [decide_eq_true (by omega), Bool.true_and]
    exact hand_fol r _ _ _ (by omega) (by omega) (by omega) (by omega) (Int.le_refl _)
theorem handL_tm : ∀ (l : List EntD) (ix tm : Int), 1 ≤ tm → ∀ e ∈ handL ix tm l, tm ≤ e.t ∧ e.t ≤ tm + (l.length : Int)
  | [], _, _, _, _, h => by cases h
  | x :: r, ix, tm, h3, e, h => by
    have hk0 := Int.emod_nonneg x.k (show (8 : Int) ≠ 0 by decide)
    have hk8 := Int.emod_lt_of_pos x.k (show (0 : Int) < 8 by decide)
    rcases List.mem_cons.1 h with h | h
    · rw [h, hand_t h3, List.length_cons]; push_cast; omega
    · have := handL_tm r (ix + 1) (tm + x.k % 8 / 6) (by omega) e h
      rw [List.length_cons]; push_cast; omega
theorem fol_le : ∀ {l : List EntD} {i t : Int}, folB i t l = true → t ≤ ltm t l
  | [], _, _, _ => Int.le_refl _
  | x :: r, i, t, h => by
    rw [folB_cons] at h
    simp only [Bool.and_eq_true, decide_eq_true_eq] at h
    exact Int.le_trans h.2.2.1 (fol_le h.2.2.2)
theorem ltm_hand : ∀ (l : List EntD) (ix tm t0 : Int), 1 ≤ tm → t0 ≤ tm → 1 ≤ t0 → t0 ≤ ltm t0 (handL ix tm l) ∧ ltm t0 (handL ix tm l) ≤ tm + (l.length : Int)
  | [], ix, tm, t0, h1, h2, h3 => ⟨Int.le_refl _, by show t0 ≤ tm + ((0 : Nat) : Int); omega⟩
  | x :: r, ix, tm, t0, h1, h2, h3 => by
    have hk0 := Int.emod_nonneg x.k (show (8 : Int) ≠ 0 by decide)
    have hk8 := Int.emod_lt_of_pos x.k (show (0 : Int) < 8 by decide)
    have ht := hand_t (ix := ix) (e := x) h1
    have := ltm_hand r (ix + 1) (tm + x.k % 8 / 6) (handE ix tm x).t (by omega) (by omega) (by omega)
    show t0 ≤ ltm (handE ix tm x).t _ ∧ ltm (handE ix tm x).t _ ≤ _
    rw [List.length_cons]; push_cast; omega
theorem has_of {bi bt : Int} {es : List EntD} (h : InvL bi bt es) {k : Nat} {e : EntD} (he : es[k]? = some e) : hasM bi bt es e.i e.t = true := hasM_iff.2 (termM_at (h.at_ he).1 he)
/-- two logs that have C in common, and behind it no term -/
theorem put_two {bi bt : Int} {C M O : List EntD} (hA : InvL bi bt (C ++ M)) (hB : InvL bi bt (C ++ O)) (hne : ∀ x ∈ M, ∀ y ∈ O, x.t ≠ y.t) : ∀ (k m : Nat), k ≤ C.length → k + m ≤ (C ++ O).length →
    (putL bi bt (C ++ M) (((C ++ O).drop k).take m)).1 = if k + m ≤ C.length then C ++ M else (C ++ O).take (k + m) := by
  intro k m hk hm
  obtain ⟨d, hd⟩ : ∃ d, C.length - k = d := ⟨_, rfl⟩
  induction d generalizing k m with
  | zero =>
    have hk2 : k = C.length := by omega
    subst hk2
    cases m with
    | zero => rw [List.take_zero, if_pos (by omega)]; rfl
    | succ m =>
      rw [if_neg (by omega), List.drop_left]
      rw [List.length_append] at hm
      cases O with
      | nil => simp at hm; omega
      | cons y r =>
        rw [List.take_succ_cons]
        have hy := hB.at_ (k := C.length) (e := y) (by rw [List.getElem?_append_right (Nat.le_refl _), Nat.sub_self]; rfl)
        have hno : hasM bi bt (C ++ M) y.i y.t = false := by
          cases M with
          | nil =>
            unfold hasM
            rw [List.append_nil, termM_off (.inr (by omega))]; rfl
          | cons z s =>
            unfold hasM
            rw [termM_at (k := C.length) (e := z) hy.1 (by rw [List.getElem?_append_right (Nat.le_refl _), Nat.sub_self]; rfl)]
            have := hne z (by simp) y (by simp)
            simp [this]
        have hu : upM bi (C ++ M).length (y.i - 1) = C.length := by
          unfold upM
          rw [List.length_append]; omega
        have hp : putL bi bt (C ++ M) (y :: r.take m) = ((C ++ M).take (upM bi (C ++ M).length (y.i - 1)) ++ y :: r.take m, y.i) := by
          rw [putL, hno]; rfl
        rw [hp]
        show (C ++ M).take (upM bi (C ++ M).length (y.i - 1)) ++ y :: r.take m = _
        rw [hu, List.take_left, List.take_append, List.take_of_length_le (l := C) (by omega), show C.length + (m + 1) - C.length = m + 1 by omega, List.take_succ_cons]
  | succ d ih =>
    cases m with
    | zero => rw [List.take_zero, if_pos (by omega)]; rfl
    | succ m =>
      have hkl : k < C.length := by omega
      obtain ⟨y, hy⟩ : ∃ y, C[k]? = some y := ⟨_, List.getElem?_eq_getElem hkl⟩
      have hyA : (C ++ M)[k]? = some y := by rw [List.getElem?_append_left hkl]; exact hy
      have hyB : (C ++ O)[k]? = some y := by rw [List.getElem?_append_left hkl]; exact hy
      have hdr : (C ++ O).drop k = y :: (C ++ O).drop (k + 1) := by
        rw [List.drop_eq_getElem_cons (List.getElem?_eq_some_iff.1 hyB).1, (List.getElem?_eq_some_iff.1 hyB).2]
      rw [hdr, List.take_succ_cons]
      have hp : putL bi bt (C ++ M) (y :: ((C ++ O).drop (k + 1)).take m) = putL bi bt (C ++ M) (((C ++ O).drop (k + 1)).take m) := by
        rw [putL, has_of hA hyA]; rfl
      rw [hp]
      show (putL bi bt (C ++ M) (((C ++ O).drop (k + 1)).take m)).1 = _
      rw [ih (k + 1) m (by omega) (by omega) (by omega), show k + 1 + m = k + (m + 1) by omega]
theorem put_len {bi bt : Int} {es l : List EntD} : (putL bi bt es l).1.length ≤ es.length + l.length := by
  induction l with
  | nil => exact Nat.le_refl _
  | cons x r ih =>
    show (if hasM bi bt es x.i x.t then putL bi bt es r else _).1.length ≤ _
    split
    · rw [List.length_cons]; omega
    · show (es.take _ ++ x :: r).length ≤ _
      rw [List.length_append, List.length_take]; omega
/-- what is behind a Put is a log again -/
theorem put_inv {bi bt : Int} {es : List EntD} (h : InvL bi bt es) : ∀ {l : List EntD} {x t : Int}, termM bi bt es x = (t, true) → folB x t l = true → InvL bi bt (putL bi bt es l).1
  | [], _, _, _, _ => h
  | e :: r, x, t, hx, hf => by
    rw [folB_cons] at hf
    simp only [Bool.and_eq_true, decide_eq_true_eq] at hf
    obtain ⟨h1, h2, h3, h4⟩ := hf
    cases hh : hasM bi bt es e.i e.t with
    | true =>
      show InvL bi bt (if hasM bi bt es e.i e.t then putL bi bt es r else _).1
      rw [hh]
      exact put_inv h (hasM_iff.1 hh) h4
    | false =>
      show InvL bi bt (if hasM bi bt es e.i e.t then putL bi bt es r else _).1
      rw [hh]
      show InvL bi bt (es.take (upM bi es.length (e.i - 1)) ++ e :: r)
      have hxe : e.i - 1 = x := by omega
      rw [hxe]
      have hin : bi ≤ x ∧ x ≤ bi + (es.length : Int) := by
        refine Decidable.byContradiction fun hn => ?_
        have := termM_off (bt := bt) (es := es) (show x < bi ∨ bi + (es.length : Int) < x by omega)
        rw [hx] at this
        exact absurd (congrArg Prod.snd this) (by simp)
      have hul : (es.take (upM bi es.length x)).length = upM bi es.length x := by rw [List.length_take]; exact Nat.min_eq_left upM_le
      have hix : bi + ((es.take (upM bi es.length x)).length : Int) = x := by rw [hul]; unfold upM; omega
      have htk := fol_take (upM bi es.length x) h.hf
      refine ⟨h.hi, h.ht, ?_⟩
      rw [fol_app2 htk, hix]
      have hlt : ltm bt (es.take (upM bi es.length x)) = t := by
        have h5 := termM_last (bi := bi) (bt := bt) (es := es.take (upM bi es.length x))
        rw [hix] at h5
        have h6 : termM bi bt (es.take (upM bi es.length x)) x = termM bi bt es x := by
          unfold termM
          split
          · rfl
          · split
            · rfl
            · rw [List.getElem?_take, if_pos (by unfold upM; omega)]
        rw [h6, hx] at h5
        exact (congrArg Prod.fst h5).symm
      rw [hlt, folB_cons, h1, decide_eq_true h2, decide_eq_true h3, Bool.true_and, Bool.true_and, Bool.true_and]
      exact h4
theorem app_inv {bi bt : Int} {es l : List EntD} (h : InvL bi bt es) (hl : folB (bi + (es.length : Int)) (ltm bt es) l = true) : InvL bi bt (es ++ l) := ⟨h.hi, h.ht, by rw [fol_app2 h.hf]; exact hl⟩
end Go.Proofs.Ytnebloeideodmaa.Sep

namespace Go.Proofs.Ytnebloeideodmaa.Sep
open Go.RowKit
open Go.Proofs.Ytnebloeideodmaa.Mem (Dist Blk Chg below0)
theorem trm_at {bi bt : Int} {es : List EntD} (h : InvL bi bt es) (k : Nat) (hk : k ≤ es.length) : ∃ t, termM bi bt es (bi + (k : Int)) = (t, true) ∧ (1 ≤ bt → 1 ≤ t) ∧ t ≤ 72057594037927935 := by
  cases k with
  | zero => exact ⟨bt, by rw [show bi + ((0 : Nat) : Int) = bi by omega, termM_base], id, h.ht.2⟩
  | succ n =>
    obtain ⟨e, he⟩ : ∃ e, es[n]? = some e := ⟨_, List.getElem?_eq_getElem (by omega)⟩
    have := (h.at_ he).2.2.2
    exact ⟨e.t, termM_at (k := n) (by push_cast; omega) he, fun _ => this.1, this.2⟩
theorem alk_has {bi bt t : Int} {C M O : List EntD} {k : Nat} (hk : k ≤ C.length) (ht : termM bi bt (C ++ O) (bi + (k : Int)) = (t, true)) : hasM bi bt (C ++ M) (bi + (k : Int)) t = true := by
  refine hasM_iff.2 ?_
  cases k with
  | zero => rw [show bi + ((0 : Nat) : Int) = bi by omega, termM_base] at ht ⊢; exact ht
  | succ n =>
    obtain ⟨e, he⟩ : ∃ e, C[n]? = some e := ⟨_, List.getElem?_eq_getElem (by omega)⟩
    have e1 : (C ++ M)[n]? = some e := by rw [List.getElem?_append_left (by omega)]; exact he
    have e2 : (C ++ O)[n]? = some e := by rw [List.getElem?_append_left (by omega)]; exact he
    rw [termM_at (k := n) (by push_cast; omega) e2] at ht
    rw [termM_at (k := n) (by push_cast; omega) e1]; exact ht
theorem alk_no {bi bt t : Int} {C M O : List EntD} (hne : ∀ x ∈ M, ∀ y ∈ O, x.t ≠ y.t) {k : Nat} (hk : C.length < k) (hk2 : k ≤ (C ++ O).length) (ht : termM bi bt (C ++ O) (bi + (k : Int)) = (t, true)) : hasM bi bt (C ++ M) (bi + (k : Int)) t = false := by
  obtain ⟨n, rfl⟩ : ∃ n, k = C.length + n + 1 := ⟨k - C.length - 1, by omega⟩
  rw [List.length_append] at hk2
  obtain ⟨y, hy⟩ : ∃ y, O[n]? = some y := ⟨_, List.getElem?_eq_getElem (by omega)⟩
  have e2 : (C ++ O)[C.length + n]? = some y := by rw [List.getElem?_append_right (by omega), Nat.add_sub_cancel_left]; exact hy
  rw [termM_at (k := C.length + n) (by push_cast; omega) e2] at ht
  obtain rfl : y.t = t := congrArg Prod.fst ht
  unfold hasM
  cases hx : M[n]? with
  | none => rw [termM_off (.inr (by rw [List.length_append]; have := List.getElem?_eq_none_iff.1 hx; push_cast; omega))]; rfl
  | some x =>
    have e1 : (C ++ M)[C.length + n]? = some x := by rw [List.getElem?_append_right (by omega), Nat.add_sub_cancel_left]; exact hx
    rw [termM_at (k := C.length + n) (by push_cast; omega) e1]
    have := hne x (List.mem_of_getElem? hx) y (List.mem_of_getElem? hy)
    simp [this]
theorem alk_fol {bi bt t : Int} {es : List EntD} (h : InvL bi bt es) {k m : Nat} (hk : k ≤ es.length) (ht : termM bi bt es (bi + (k : Int)) = (t, true)) : folB (bi + (k : Int)) t ((es.drop k).take m) = true := by
  have h1 := fol_drop hk h.hf
  have h2 := termM_last (bi := bi) (bt := bt) (es := es.take k)
  have hl : (es.take k).length = k := by rw [List.length_take]; omega
  rw [hl] at h2
  have h3 : termM bi bt (es.take k) (bi + (k : Int)) = termM bi bt es (bi + (k : Int)) := by
    unfold termM
    split
    · rfl
    · split
      · rfl
      · rw [List.getElem?_take, if_pos (by omega)]
  rw [h3, ht] at h2
  have h4 : t = ltm bt (es.take k) := congrArg Prod.fst h2
  rw [← h4] at h1
  exact fol_take m h1
/-- a log that the hand makes -/
theorem hand_inv {l : List EntD} {bi bt : Int} (h1 : 1 ≤ bi) (h2 : bi + (l.length : Int) < 1000) (h3 : 1 ≤ bt) (h4 : bt + (l.length : Int) < 1000) : InvL bi bt (handL bi bt l) := ⟨by omega, by omega, hand_fol l bi bt bt (by omega) h2 h3 h4 (Int.le_refl _)⟩
theorem hand_app {C l : List EntD} {bi bt d : Int} (h : InvL bi bt C) (h1 : 1 ≤ bi) (h2 : bi + (C.length : Int) + (l.length : Int) < 1000) (h3 : 1 ≤ bt) (h4 : ltm bt C + d + (l.length : Int) < 1000) (hd : 0 ≤ d) : InvL bi bt (C ++ handL (bi + (C.length : Int)) (ltm bt C + d) l) := by
  refine app_inv h ?_
  have hle := fol_le h.hf
  exact hand_fol l _ _ _ (by omega) h2 (by omega) (by omega) (by omega)
theorem alk_put {bi bt fr : Int} {C M O es2 : List EntD} (hA : InvL bi bt (C ++ M)) (hB : InvL bi bt (C ++ O)) (hne : ∀ x ∈ M, ∀ y ∈ O, x.t ≠ y.t) {k m : Nat} (hk : k ≤ C.length) (hm : k + m ≤ (C ++ O).length) (hp : putL bi bt (C ++ M) (((C ++ O).drop k).take m) = (es2, fr)) :
    es2 = (if k + m ≤ C.length then C ++ M else (C ++ O).take (k + m)) ∧ k + m ≤ es2.length ∧ es2.take (k + m) = (C ++ O).take (k + m) := by
  have h := put_two hA hB hne k m hk hm
  rw [hp] at h
  have h : es2 = if k + m ≤ C.length then C ++ M else (C ++ O).take (k + m) := h
  refine ⟨h, ?_⟩
  rw [h]
  split
  · rename_i h1
    exact ⟨by rw [List.length_append]; omega, by rw [List.take_append_of_le_length h1, List.take_append_of_le_length h1]⟩
  · exact ⟨by rw [List.length_take]; omega, by rw [List.take_take, Nat.min_self]⟩
theorem inv_mem {bi bt : Int} {es : List EntD} (h : InvL bi bt es) (e : EntD) (he : e ∈ es) : e.d.length ≤ 128 := by
  obtain ⟨k, hk⟩ := List.getElem?_of_mem he
  exact dat_len (h.at_ hk).2.1
theorem hd_of {l : List EntD} {L : List EntV} (h : ∀ e ∈ l, e.d.length ≤ 128) (hL : L.map (·.e) = l) (x : EntV) (hx : x ∈ L) : x.e.d.length ≤ 140737488351232 := by
  have := h x.e (by rw [← hL]; exact List.mem_map.2 ⟨x, hx, rfl⟩)
  omega
/-! ## The contracts with a letter for what is told -/
theorem ents_is {te : TypeId} {v : Value} {l : List EntV} : ∀ rs, Ents te v l rs → ∃ x : Option Addr × Nat, v = .slice x.1 l.length x.2 := fun rs ⟨a, b, e, h1, _⟩ => by
  obtain ⟨A, c, h⟩ := h1.is
  exact ⟨(A, c), h⟩
theorem ents_cap {A : Option Addr} {c n : Nat} {l : List EntV} : ∀ rs, Ents 32 (.slice A n c) l rs → l.length ≤ c := fun rs ⟨a, b, e, h1, _⟩ => vec_capE h1
/-- entries of one's own, the slice told -/
def EnE (A : Option Addr) (c : Nat) (l : List EntV) : Ass := Ents 32 (.slice A l.length c) l
theorem EnT.openE {v : Value} {l : List EntD} : ∀ rs, EnT v l rs → ∃ x : { x : RfV // v = .slice x.A x.L.length x.c ∧ x.L.map (·.e) = l ∧ x.L.length ≤ x.c }, Parts [EnE x.1.A x.1.c x.1.L] rs := fun rs ⟨L, hL, hr⟩ => by
  obtain ⟨⟨A, c⟩, hv⟩ := ents_is rs hr
  subst hv
  exact ⟨⟨⟨A, c, L⟩, rfl, hL, ents_cap rs hr⟩, Parts.one hr⟩
theorem enE_rd {A : Option Addr} {c : Nat} {l : List EntV} : RdEs (EnE A c l) (.slice A l.length c) l := rdEs_ents
theorem lnew_v (bi bt bc : Int) (hbi : 0 ≤ bi ∧ bi ≤ 18446744073709551615) (hbt : 0 ≤ bt ∧ bt ≤ 18446744073709551615) (hbc : -9223372036854775808 ≤ bc ∧ bc ≤ 9223372036854775807) (X : Ass) (A : Option Addr) (c : Nat) (l : List EntV) (hX : RdEs X (.slice A l.length c) l) (hd : ∀ x, x ∈ l → x.e.d.length ≤ 140737488351232) (hs : l.length * 56 ≤ 140737488351232) (es : List EntD) (he : l.map (·.e) = es) (h : baseR bi bt bc = true) (h2 : folB bi bt es = true) : Does Try.prog 8 #[.agg #[.int .u64 bi, .int .u64 bt, .int .i64 bc], .slice A l.length c] [X] (fun g : Nat => .tuple #[.pointer (some ⟨g, 0, none⟩), .int .i64 0]) (fun g => [LogD g bi bt bc es, X]) := by
  subst he
  exact new_ok bi bt bc hbi hbt hbc X A c l hX hd hs h h2
end Go.Proofs.Ytnebloeideodmaa.Sep
