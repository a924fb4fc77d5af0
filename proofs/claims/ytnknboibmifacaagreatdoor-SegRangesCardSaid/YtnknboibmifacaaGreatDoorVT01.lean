/-
  SgRg
-/
import Derived.Test.YtnknboibmifacaaGreatDoorVR02
import Derived.Test.YtnknboibmifacaaGreatDoorVS01
set_option linter.unusedSimpArgs false
set_option linter.unusedVariables false
namespace Go.Proofs.YtnknboibmifacaaGreatDoor.Sep
open Go.RowKit
open Go.Proofs.YtnknboibmifacaaGreatDoor.Mem (AR B3 Chg Av)
theorem Qd (gg gm m : Nat) {l : List EntV} {j : Nat} {z : EntV} {c : Bool} (hm : m ≤ 12) (hpj : l[j]? = some z) (hj : j < m) (hc : decide (j + 1 < m) = c) : AP Tryz.prog 37 (([.agg #[.int .i64 z.e.k, .int .u64 z.e.t, .int .u64 z.e.i, .slice z.A z.e.d.length z.c, .int .i64 z.e.c]] : List Value) ++ ([.pointer (some ⟨gg, 0, none⟩), .pointer (some ⟨gm, 0, none⟩)] : List Value)).toArray [Gc gg gm (m : Int) (l.take j)] (fun _ : Unit => .bool c) (fun _ : Unit => [Gc gg gm (m : Int) (l.take (j + 1))]) := by
 have hl : (l.take j).length = j := by
  have := (List.getElem?_eq_some_iff.1 hpj).1
  rw [List.length_take]; omega
 have h := Xy gg gm (m : Int) (l.take j) (z := z) (c := c) (by omega) (by rw [← hc, hl]; exact decide_eq_decide.2 (by omega))
 have ht : l.take j ++ [z] = l.take (j + 1) := by rw [List.take_add_one, hpj]; rfl
 rwa [ht] at h
theorem Vy (gg gm m g p dk lim : Nat) {W : Nat} {d : DiskD} {M : LogMs} (tb : Tb) (hm1 : 1 ≤ m) (hm : m ≤ 12) (hD : LogD d M W) (hW9 : W ≤ 10000) : AP Tryz.prog 88 #[.func (.func 37) #[] ([.pointer (some ⟨gg, 0, none⟩), .pointer (some ⟨gm, 0, none⟩)] : List Value).toArray, .pointer (some ⟨g, 0, none⟩)] [Gc gg gm (m : Int) [], AA p dk lim (Aq M), Ag dk d, Ao tb, cell g 26 #[.pointer (some ⟨p, 0, none⟩)]] (fun _ : EsV => .tuple #[]) (fun x : EsV => [Gc gg gm (m : Int) (x.l.take m), Ak 34 5 encV x.v x.l, Bb (fun x : EntV => Ak 5 1 encB x.v x.e.d) x.l, AA p dk lim (Aq M), Ag dk d, Ao tb, cell g 26 #[.pointer (some ⟨p, 0, none⟩)], fact (x.l.map (·.e) = AE M)]) := by
  have hE : Q7 Tryz.prog 37 := Aj Tryz.func37 (by kernel_rfl) rfl
  rcases Nat.lt_or_ge (m - 1) (AE M).length with hlt | hge
  · exact Ue (.func 37) ([.pointer (some ⟨gg, 0, none⟩), .pointer (some ⟨gm, 0, none⟩)] : List Value).toArray g p dk lim tb hD hW9 (fun l j => Gc gg gm (m : Int) (l.take j)) (Gc gg gm (m : Int) []) (fun _ => rfl) (fun l => Gc gg gm (m : Int) (l.take m)) hlt (fun l j z _ hz hj => AP.toF hE (Qd gg gm m hm hz (by omega) (decide_eq_true (by omega)))) (fun l j z _ hz hj => AP.toF hE (by
      have h := Qd gg gm m hm hz (by omega) (c := false) (decide_eq_false (by omega))
      rw [show j + 1 = m by omega] at h
      exact h))
  · have h := Vx (.func 37) ([.pointer (some ⟨gg, 0, none⟩), .pointer (some ⟨gm, 0, none⟩)] : List Value).toArray g p dk lim tb hD hW9 (fun l j => Gc gg gm (m : Int) (l.take j)) (Gc gg gm (m : Int) []) (fun _ => rfl) (N := (AE M).length) rfl (fun l j z hl hz => AP.toF hE (Qd gg gm m hm hz (by
      have h1 := (List.getElem?_eq_some_iff.1 hz).1
      have h2 := congrArg List.length hl
      rw [List.length_map] at h2
      omega) (decide_eq_true (by
      have h1 := (List.getElem?_eq_some_iff.1 hz).1
      have h2 := congrArg List.length hl
      rw [List.length_map] at h2
      omega))))
    intro w rs h1 h2 h3
    refine (h w rs h1 h2 h3).mono ?_
    rintro e w' ⟨x, he, rs', hp, hc⟩
    refine ⟨x, he, rs', ?_, hc⟩
    have hp' : Al ([Gc gg gm (m : Int) (x.l.take (AE M).length), Ak 34 5 encV x.v x.l, Bb (fun x : EntV => Ak 5 1 encB x.v x.e.d) x.l, AA p dk lim (Aq M), Ag dk d, Ao tb, cell g 26 #[.pointer (some ⟨p, 0, none⟩)]] ++ [fact (x.l.map (·.e) = AE M)]) rs' := hp
    obtain ⟨a, b, _, _, hb⟩ := hp'.split
    have hf := hb.one'.2
    have h4 : x.l.length = (AE M).length := by rw [← hf, List.length_map]
    have h5 : x.l.take (AE M).length = x.l.take m := by rw [List.take_of_length_le (by omega), List.take_of_length_le (by omega)]
    rw [h5] at hp'
    exact hp'
theorem Xz (l : List EntV) : ((l.take 30).map (·.e)).length ≤ 30 := by rw [List.length_map, List.length_take]; omega
section
variable {B : Nat → Prop} {w0 w : World} {os : List Ass}
theorem Uf {v : Value} {l : List EntV} {m : Nat} (i j : Nat) (hi : os[i]? = some (Ak 34 5 encV v (l.take m))) (hj : os[j]? = some (Bb (fun x : EntV => Ak 5 1 encB x.v x.e.d) l)) (hH : Hp B w0 w os) : CR w v (l.take m) := by
 refine ⟨hH.vec i hi Er, fun x hx => ?_⟩
 obtain ⟨q, hq⟩ := List.getElem?_of_mem (List.mem_of_mem_take hx)
 exact hH.rd8 j hj (He hq)
theorem OQ {v : Value} {l : List EntV} (i j : Nat) (hi : os[i]? = some (Ak 34 5 encV v l)) (hj : os[j]? = some (Bb (fun x : EntV => Ak 5 1 encB x.v x.e.d) l)) (hH : Hp B w0 w os) : CR w v l := by
 refine ⟨hH.vec i hi Er, fun x hx => ?_⟩
 obtain ⟨q, hq⟩ := List.getElem?_of_mem hx
 exact hH.rd8 j hj (He hq)
theorem Mv {v : Value} {l : List EntV} {k : Nat} (i j : Nat) (hk : k ≤ l.length) (hi : os[i]? = some (Ak 34 5 encV v l)) (hj : os[j]? = some (Bb (fun x : EntV => Ak 5 1 encB x.v x.e.d) l)) (hH : Hp B w0 w os) : CR w (Ca 5 v k l.length) (l.drop k) := by
 refine ⟨hH.vecq i hi Er hk (Nat.le_refl _) (by rw [List.take_length]), fun x hx => ?_⟩
 obtain ⟨q, hq⟩ := List.getElem?_of_mem (List.mem_of_mem_drop hx)
 exact hH.rd8 j hj (He hq)
end
theorem Vz {M : LogMs} {k : Nat} {q : Nat × List EntD} (hq : M[k]? = some q) : AE M = AE (M.take k) ++ (q.2 ++ AE (M.drop (k + 1))) := by
 conv => lhs; rw [← List.take_append_drop k M, Dt hq, BL]
 rfl
theorem VA {M : LogMs} (hg : LogG M) {n k : Nat} (hk : k ≤ M.length) (hi1 : ∀ (j : Nat) (e : EntD), (AE M)[j]? = some e → e.i = (j : Int) + 1) (h : ∀ i q, i < k → M[i]? = some q → i + 1 < M.length ∧ q.1 + q.2.length - 1 ≤ n) : (AE (M.take k)).length ≤ n := by
  cases k with
  | zero => exact Nat.zero_le _
  | succ k =>
    obtain ⟨q, hq⟩ : ∃ q, M[k]? = some q := ⟨_, List.getElem?_eq_getElem (by omega)⟩
    have hqM := List.mem_of_getElem? hq
    obtain ⟨e0, r0, h0⟩ := List.exists_cons_of_ne_nil (hg.ne q hqM)
    have h2 := hg.hd q hqM e0 r0 h0
    have h3 := hi1 (AE (M.take k)).length e0 (by rw [Vz hq, List.getElem?_append_right (Nat.le_refl _), Nat.sub_self, h0]; rfl)
    have h4 := (h k q (by omega) hq).2
    have h5 : AE (M.take (k + 1)) = AE (M.take k) ++ q.2 := by rw [Fk hq, BL]; simp [AE]
    rw [h5, List.length_append]
    have h6 : 0 < q.2.length := by rw [h0]; simp
    omega
theorem Sl {M : LogMs} (hg : LogG M) {k : Nat} (hk : k ≤ M.length) (h : ∀ i q, i < k → M[i]? = some q → i + 1 < M.length) (hM : 0 < (AE M).length) : 0 < (AE (M.drop k)).length := by
  have hl : k < M.length := by
    rcases Nat.eq_or_lt_of_le hk with rfl | hlt
    · cases hM2 : M with
      | nil => rw [hM2] at hM; exact absurd hM (by decide)
      | cons q r =>
        have h1 : M.length = r.length + 1 := by rw [hM2]; rfl
        have := h r.length (M[r.length]'(by omega)) (by omega) (List.getElem?_eq_getElem _)
        omega
    · exact hlt
  obtain ⟨q, hq⟩ : ∃ q, M[k]? = some q := ⟨_, List.getElem?_eq_getElem hl⟩
  rw [Dt hq]
  have h1 := List.length_pos_iff.2 (hg.ne q (List.mem_of_getElem? hq))
  show 0 < (q.2 ++ AE (M.drop (k + 1))).length
  rw [List.length_append]; omega
theorem WS (a : Int) (q : Nat) (h : 0 ≤ a) (hq : 0 < q) (hq2 : q ≤ 40) : ∃ n : Nat, a.tmod ((q : Nat) : Int) = (n : Int) ∧ n ≤ 40 := by
 have e0 := Int.tmod_eq_emod_of_nonneg (b := ((q : Nat) : Int)) h
 have e1 := Int.emod_nonneg a (show ((q : Nat) : Int) ≠ 0 by omega)
 have e2 := Int.emod_lt_of_pos a (show (0 : Int) < ((q : Nat) : Int) by omega)
 exact ⟨(a % ((q : Nat) : Int)).toNat, by omega, by omega⟩
theorem Sm (M : LogMs) (k : Nat) : AE (M.drop k) = (AE M).drop (AE (M.take k)).length := by
 conv => rhs; rw [← List.take_append_drop k M, BL]
 rw [List.take_append_drop, List.drop_left]
set_option maxRecDepth 100000 in
theorem ranges_law (w : World) {tb : Tb} (hW : w.heap[5]? = some (.cells tb.C tb.e tb.f)) {l : List EntV} {lv : Value} (hv : CR w lv l) (okl : ∀ x, x ∈ l → x.e.ok) (lim0 mo drop0 : Int) (hlm : -9223372036854775808 ≤ lim0 ∧ lim0 ≤ 9223372036854775807) (hmo : -9223372036854775808 ≤ mo ∧ mo ≤ 9223372036854775807) (hdr : 0 ≤ drop0 ∧ drop0 ≤ 18446744073709551615) : Calls Tryz.prog 9 #[.int .i64 lim0, lv, .int .i64 mo, .int .u64 drop0] w fun e w' => e = .returned (.bool true) ∧ Below w.heap.size w w' := by
  refine Xp (args := [.int .i64 lim0, lv, .int .i64 mo, .int .u64 drop0]) 112 hW Tryz.func9 rfl rfl rfl ?_
  have hp0 := Int.emod_nonneg lim0 (show (200 : Int) ≠ 0 by decide)
  have hp1 := Int.emod_lt_of_pos lim0 (show (0 : Int) < 200 by decide)
  obtain ⟨lim, hlim, hl64, hl263⟩ : ∃ lim : Nat, 64 + lim0 % 200 = (lim : Int) ∧ 64 ≤ lim ∧ lim ≤ 263 := ⟨(64 + lim0 % 200).toNat, by omega, by omega, by omega⟩
  have hD0 : LogD (G0 1048576) [] 0 := OI rfl
  obtain ⟨m, hmm, hm1, hm12⟩ : ∃ m : Nat, 1 + mo % 10 = (m : Int) ∧ 1 ≤ m ∧ m ≤ 12 := ⟨(1 + mo % 10).toNat, by omega, by omega, by omega⟩
  refine Ad ?_
  refine Af Ae rfl ?_
  refine Am (post := fun gm => [cell gm 3 #[.int .i64 mo], Ao tb]) rfl (CD (cs := #[.int .i64 mo]) rfl rfl rfl) ?_; rintro gm
  refine Af Ae rfl ?_
  refine Ab (Ad ?_)
  refine Af Ae rfl ?_
  refine Am (post := fun _ => [cell gm 3 #[.int .i64 mo], Ao tb]) rfl (Bc (Aj Tryz.func21 (by kernel_rfl) rfl) (fun w hH => pick w lim0 200 hlm (by decide) rfl) rfl rfl rfl) ?_; rintro ⟨⟩
  refine Aa rfl (.int .i64 (lim : Int)) (fun b w hb hH => AH rfl rfl rfl rfl (by rw [IntWalk.i64_in _ (by omega)]; exact hlim) hb) ?_
  refine Af Ae rfl ?_
  refine Ab (Ad ?_)
  refine Af Ae rfl ?_
  refine Am rfl (Au (os' := fun dk => [Ag dk (G0 1048576), cell gm 3 #[.int .i64 mo], Ao tb]) [] 0 (Aj Tryz.func10 (by kernel_rfl) rfl) (N3 1048576 (by decide)) rfl rfl rfl (fun _ => rfl) rfl rfl rfl) ?_; rintro dk
  refine Af Ae rfl ?_
  refine Ab (An (Ad ?_))
  refine Af Ae rfl ?_
  refine Am rfl (Au (os' := fun _ => [Ag dk (G0 1048576), cell gm 3 #[.int .i64 mo], Ao tb]) [2] 0 (Aj Tryz.func12 (by kernel_rfl) rfl) (P8 tb) rfl rfl rfl (fun _ => rfl) rfl rfl rfl) ?_; rintro ⟨⟩
  refine Af Ae rfl ?_
  refine Aa rfl (.bool false) (fun b w hb hH => AZ rfl rfl rfl (Bu (by decide)) hb) ?_
  refine Af Ae rfl ?_
  refine Aa rfl (.bool false) (fun b w hb hH => DT (by kernel_rfl) rfl rfl rfl hb) ?_
  refine Af Ae rfl ?_
  refine Ab (As rfl (Aw (AB (Ad ?_))))
  refine Af Ae rfl ?_
  refine Am rfl (Au (os' := fun p1 => [Ao tb, AA p1 dk lim (Aq []), cell gm 3 #[.int .i64 mo], Ag dk (G0 1048576)]) [0, 2] 0 (Aj Tryz.func11 (by kernel_rfl) rfl) (hD0.opens (dk := dk) (lim := lim) tb (by omega) (by omega) (by omega)) rfl rfl rfl (fun _ => rfl) rfl rfl rfl) ?_; rintro p1
  refine Af Ae rfl ?_
  refine Ab (Ad ?_)
  refine Af Ae rfl ?_
  refine Am (post := fun (⟨v1, l1⟩ : EsV) => [Cc 34 v1 l1, fact (l1.map (·.e) = EX 0 1 ((l.take 30).map (·.e))), Ao tb, AA p1 dk lim (Aq []), cell gm 3 #[.int .i64 mo], Ag dk (G0 1048576)]) rfl (E9  [] 0 (Aj Tryz.func29 (by kernel_rfl) rfl) (fun w hH => Ud w l lv (hv.below (LC 0 rfl hW hH)) okl 0 1 30 ⟨by decide, by decide⟩ ⟨by decide, by decide⟩ (by decide)) rfl rfl rfl (fun _ => rfl) rfl rfl rfl) ?_; rintro ⟨v1, l1⟩
  refine BT.fact 1 rfl (fun _ h => h.2) ?_; rintro hs1
  refine BT.leave [1] rfl rfl ?_
  refine Af Ae rfl ?_
  refine Ab (An ?_)
  have hC1 : LogC (AE [] ++ l1.map (·.e)) := by rw [hs1]; exact VY _ [] 0 1 LogC.nil (by decide) (by have := Xz l; omega) (by decide) (by have := Xz l; omega) (.inl rfl)
  have hl1 : l1.length ≤ 30 := by have := congrArg List.length hs1; rw [JK, List.length_map] at this; have := Xz l; omega
  obtain ⟨d1, hD1, hA1⟩ := hD0.append (lim := lim) (l := l1) tb (by omega) hC1 (by show 0 + _ ≤ _; omega) (by omega)
  have hall1 : AE (B6 lim [] l1) = l1.map (·.e) := by rw [Fj]; rfl
  have hfew1 : (B6 lim [] l1).length ≤ 30 := by have h8 := hD1.g.few; rw [hall1, List.length_map] at h8; omega
  refine Ad ?_
  refine Af Ae rfl ?_
  refine Aa rfl (.bool false) (fun b w hb hH => AZ rfl rfl rfl (Bu (by decide)) hb) ?_
  refine Af Ae rfl ?_
  refine Aa rfl (.bool false) (fun b w hb hH => DT (by kernel_rfl) rfl rfl rfl hb) ?_
  refine Af Ae rfl ?_
  refine Am rfl (Au (os' := fun _ => [Cc 34 v1 l1, Ao tb, AA p1 dk lim (Aq (B6 lim [] l1)), cell gm 3 #[.int .i64 mo], Ag dk d1]) [2, 4, 1, 0] 0 (Aj Tryz.func13 (by kernel_rfl) rfl) (hA1 p1 dk v1) rfl rfl rfl (fun _ => rfl) rfl rfl rfl) ?_; rintro ⟨⟩
  refine Aa rfl (.bool false) (fun b w hb hH => AZ rfl rfl rfl (Bu (by decide)) hb) ?_
  refine Af Ae rfl ?_
  refine Ab ?_
  refine AN.keep (env' := [(3, .int .u64 drop0), (6, .pointer (some ⟨gm, 0, none⟩)), (8, .bool false), (11, .pointer (some ⟨p1, 0, none⟩)), (13, v1), (53, .bool false)]) ⟨rfl, rfl, rfl, rfl, rfl, rfl, trivial⟩ ?_
  refine As rfl (Aw (AB (Ad ?_)))
  refine Af Ae rfl ?_
  refine Aa rfl (.int .i64 mo) (fun b w hb hH => AY rfl rfl (Bi Bh rfl) (hH.row 3 rfl) hb) ?_
  refine Am (post := fun _ => [Cc 34 v1 l1, Ao tb, AA p1 dk lim (Aq (B6 lim [] l1)), cell gm 3 #[.int .i64 mo], Ag dk d1]) rfl (Bc (Aj Tryz.func21 (by kernel_rfl) rfl) (fun w hH => pick w mo 10 hmo (by decide) rfl) rfl rfl rfl) ?_; rintro ⟨⟩
  refine Aa rfl (.int .i64 (m : Int)) (fun b w hb hH => AH rfl rfl rfl rfl (by rw [IntWalk.i64_in _ (by omega)]; exact hmm) hb) ?_
  refine AL (post := fun _ => [Cc 34 v1 l1, Ao tb, AA p1 dk lim (Aq (B6 lim [] l1)), cell gm 3 #[.int .i64 (m : Int)], Ag dk d1]) rfl rfl (AU 3 (v := .int .i64 (m : Int)) #[.int .i64 (m : Int)] Bh.2 rfl rfl rfl rfl rfl rfl rfl rfl rfl) ?_; rintro ⟨⟩
  refine Ab (Ad ?_)
  refine Af Ae rfl ?_
  refine Am (post := fun gg => [cell gg 52 #[.slice none 0 0], Cc 34 v1 l1, Ao tb, AA p1 dk lim (Aq (B6 lim [] l1)), cell gm 3 #[.int .i64 (m : Int)], Ag dk d1]) rfl (BW G1 rfl) ?_; rintro gg
  refine Ab ?_
  refine BN 34 5 encV ?_
  refine Bg [1, 0, 5] rfl (Q2 (.slice none 0 0)) rfl ?_
  refine Ad ?_
  refine Af Ae rfl ?_
  refine Am rfl (Au (os' := fun ga => [cell ga 26 #[.pointer (some ⟨p1, 0, none⟩)], Gc gg gm (m : Int) ([]), Cc 34 v1 l1, Ao tb, AA p1 dk lim (Aq (B6 lim [] l1)), Ag dk d1]) [] 0 (Aj Tryz.func36 (by kernel_rfl) rfl) (OP) rfl rfl rfl (fun _ => rfl) rfl rfl rfl) ?_; rintro ga
  refine Aa rfl (.func (.func 37) #[] #[.pointer (some ⟨gg, 0, none⟩), .pointer (some ⟨gm, 0, none⟩)]) (fun b w hb hH => Je rfl rfl hb) ?_
  refine Am (post := fun (x : EsV) => [Ao tb, cell ga 26 #[.pointer (some ⟨p1, 0, none⟩)], fact (x.l.map (·.e) = AE (B6 lim [] l1)), Ag dk d1, Gc gg gm (m : Int) (x.l.take m), Cc 34 v1 l1, AA p1 dk lim (Aq (B6 lim [] l1)), Ak 34 5 encV x.v x.l, Bb (fun x : EntV => Ak 5 1 encB x.v x.e.d) x.l]) rfl (Us (os' := fun (x : EsV) => [Ao tb, cell ga 26 #[.pointer (some ⟨p1, 0, none⟩)], fact (x.l.map (·.e) = AE (B6 lim [] l1)), Ag dk d1, Gc gg gm (m : Int) (x.l.take m), Cc 34 v1 l1, AA p1 dk lim (Aq (B6 lim [] l1)), Ak 34 5 encV x.v x.l, Bb (fun x : EntV => Ak 5 1 encB x.v x.e.d) x.l]) (vs := [.func (.func 37) #[] #[.pointer (some ⟨gg, 0, none⟩), .pointer (some ⟨gm, 0, none⟩)]]) (caps := [.pointer (some ⟨ga, 0, none⟩)]) [1, 4, 5, 3, 0] 0 (Aj Tryz.func88 (by kernel_rfl) rfl) (Vy gg gm m ga p1 dk lim tb hm1 hm12 hD1 (by omega)) rfl rfl rfl (fun _ => rfl) rfl rfl rfl) ?_; rintro x
  refine BT.fact 2 rfl (fun _ h => h.2) ?_; rintro hx0
  refine BT.leave [2] rfl rfl ?_
  have hxe : x.l.map (·.e) = AE (B6 lim [] l1) := hx0
  refine Ab (An ?_)
  refine A7 3 rfl Gc.open_ (fun _ => rfl) ?_; rintro gv
  refine A7 6 rfl DJ (fun _ => rfl) ?_; rintro ⟨⟩
  refine AN.fact 0 rfl (fun _ h => Ak.is h) ?_; rintro ⟨A1, c1, hv1⟩
  change v1 = .slice A1 l1.length c1 at hv1
  subst hv1
  refine AN.keep (env' := [(3, .int .u64 drop0), (6, .pointer (some ⟨gm, 0, none⟩)), (8, .bool false), (11, .pointer (some ⟨p1, 0, none⟩)), (13, .slice A1 l1.length c1), (53, .bool false), (54, .int .i64 mo), (55, .int .i64 (mo % 10)), (56, .int .i64 (m : Int)), (14, .pointer (some ⟨gg, 0, none⟩)), (57, .pointer (some ⟨p1, 0, none⟩)), (58, .func (.func 88) #[] #[.pointer (some ⟨ga, 0, none⟩)]), (59, .func (.func 37) #[] #[.pointer (some ⟨gg, 0, none⟩), .pointer (some ⟨gm, 0, none⟩)]), (60, .tuple #[])]) ⟨rfl, rfl, rfl, rfl, rfl, rfl, rfl, rfl, rfl, rfl, rfl, rfl, rfl, rfl, trivial⟩ ?_
  refine AN.mid [Ak 34 5 encV (.slice A1 l1.length c1) l1, Bb (fun x : EntV => Ak 5 1 encB x.v x.e.d) l1, cell gg 52 #[gv], Ak 34 5 encV gv (x.l.take m), cell gm 3 #[.int .i64 (m : Int)], Ao tb, cell ga 26 #[.pointer (some ⟨p1, 0, none⟩)], Ag dk d1, AA p1 dk lim (Aq (B6 lim [] l1)), Ak 34 5 encV x.v x.l, Bb (fun x : EntV => Ak 5 1 encB x.v x.e.d) x.l] (.refl _) ?_
  refine AN.fact 0 rfl Ll ?_; rintro hcap1
  obtain ⟨k6, hk6⟩ : ∃ k6, min m l1.length = k6 := ⟨_, rfl⟩
  have hk6l : k6 ≤ l1.length := by omega
  have htl6 : (l1.take k6).length = k6 := by rw [List.length_take]; omega
  have hsub6 : Ca 5 (.slice A1 l1.length c1) 0 k6 = .slice A1 (l1.take k6).length c1 := by rw [htl6]; exact I8
  have hxl1 : x.l.length = l1.length := by have h9 := congrArg List.length (hxe.trans hall1); rwa [List.length_map, List.length_map] at h9
  have heq1 : (x.l.take m).map (·.e) = (l1.take k6).map (·.e) := by rw [List.map_take, List.map_take, hxe, hall1]; rcases Nat.le_total m l1.length with h9 | h9; rw [show k6 = m by omega]; rw [List.take_of_length_le (by rw [List.length_map]; omega), List.take_of_length_le (by rw [List.length_map]; omega)]
  refine An ?_
  refine BV 9 1 [⟨.quiet, [none], fun _ => gv, []⟩, ⟨.quiet, [none], fun _ => .slice A1 l1.length c1, []⟩, ⟨.quiet, [none], fun _ => .int .i64 (m : Int), []⟩, ⟨.quiet, [none], fun _ => .slice A1 l1.length c1, []⟩, ⟨.quiet, [none], fun _ => .int .i64 (l1.length : Int), [3]⟩, ⟨.quiet, [none], fun _ => .int .i64 (k6 : Int), [2, 4]⟩, ⟨.quiet, [none], fun _ => .slice A1 (l1.take k6).length c1, [1, 5]⟩, ⟨.actv 0, [some false], fun _ => .bool true, [0, 6]⟩, ⟨.quiet, [some true], fun _ => .bool false, [7]⟩] [(3, .int .u64 drop0), (6, .pointer (some ⟨gm, 0, none⟩)), (8, .bool false), (11, .pointer (some ⟨p1, 0, none⟩)), (13, .slice A1 l1.length c1), (14, .pointer (some ⟨gg, 0, none⟩))] (fun ρ => match ρ with | [r0] => [Ak 34 5 encV (.slice A1 l1.length c1) l1, Bb (fun x : EntV => Ak 5 1 encB x.v x.e.d) l1, cell gg 52 #[gv], Ak 34 5 encV gv (x.l.take m), cell gm 3 #[.int .i64 (m : Int)], Ao tb, cell ga 26 #[.pointer (some ⟨p1, 0, none⟩)], Ag dk d1, AA p1 dk lim (Aq (B6 lim [] l1)), Ak 34 5 encV x.v x.l, Bb (fun x : EntV => Ak 5 1 encB x.v x.e.d) x.l] | _ => []) (by kernel_rfl) (by kernel_rfl) ⟨rfl, rfl, rfl, rfl, rfl, rfl, trivial⟩ rfl ?_ ?_
  · skip
    refine Ac (by intro r0_; exact ⟨rfl, fun b w hH hb => AY rfl rfl (Bi CJ rfl) (hH.row 2 rfl) hb⟩) ?_
    refine Ac (by intro r0_; exact ⟨rfl, fun b w hH hb => Ah Ae rfl hb⟩) ?_
    refine Ac (by intro r0_; exact ⟨rfl, fun b w hH hb => AY rfl rfl (Bi Bh rfl) (hH.row 4 rfl) hb⟩) ?_
    refine Ac (by intro r0_; exact ⟨rfl, fun b w hH hb => Ah Ae rfl hb⟩) ?_
    refine Ac (by intro r0_; exact ⟨rfl, fun b w hH hb => DL AK rfl rfl hH hb⟩) ?_
    refine Ac (by intro r0_; exact ⟨rfl, fun b w hH hb => Cf rfl rfl (fun cs => (fun w cs => Nq (by omega) _ _ w cs) w cs) hb⟩) ?_
    refine Ac (by intro r0_; exact ⟨rfl, fun b w hH hb => F0 (j := k6) AK hsub6 (by omega) rfl rfl rfl hH hb⟩) ?_
    refine Ac (by exact ⟨rfl, Bm.su (Bc (Aj Tryz.func35 (by kernel_rfl) rfl) (fun w hH => Hg w gv (.slice A1 (l1.take k6).length c1) (x.l.take m) (l1.take k6) (Uf 3 10 rfl rfl hH) (Sf 0 1 hk6l rfl rfl hH) heq1 (by rw [List.length_take]; omega)) rfl rfl rfl) rfl⟩) ?_
    refine Ac (by intro v0_; exact ⟨rfl, fun b w hH hb => Ah Ae rfl hb⟩) ?_
    exact B7
  intro v0_
  refine BT.keep (env' := [(3, .int .u64 drop0), (8, .bool false), (11, .pointer (some ⟨p1, 0, none⟩)), (13, .slice A1 l1.length c1), (69, .bool false)]) ⟨rfl, rfl, rfl, rfl, rfl, trivial⟩ ?_
  refine AD (AB (As rfl (Aw (AB ?_))))
  obtain ⟨n, hn, hnl⟩ := WS drop0 (l1.length + 3) hdr.1 (by omega) (by omega)
  obtain ⟨d2, k9, hk9, hD2, hsegs, hA2⟩ := hD1.drop (lim := lim) (n := n) tb (by omega) (by omega)
  obtain ⟨c9, hc9⟩ : ∃ c, (AE ((B6 lim [] l1).take k9)).length = c := ⟨_, rfl⟩
  have hidx : ∀ (j : Nat) (e : EntD), (AE (B6 lim [] l1))[j]? = some e → e.i = (j : Int) + 1 := fun j e he => by rw [hall1, hs1] at he; have := Q1 _ 0 1 j e he; omega
  have hc9n : c9 ≤ n := by rw [← hc9]; exact VA hD1.g hk9 hidx hsegs
  have hc9l : c9 ≤ l1.length := by have h8 : (AE ((B6 lim [] l1).take k9)).length + (AE ((B6 lim [] l1).drop k9)).length = l1.length := (by rw [← List.length_append, ← BL, List.take_append_drop, hall1, List.length_map]); omega
  have hleft : 0 < l1.length → 0 < (AE ((B6 lim [] l1).drop k9)).length := fun h9 => Sl hD1.g hk9 (fun i q hi hq => (hsegs i q hi hq).1) (by rw [hall1, List.length_map]; exact h9)
  refine Ad ?_
  refine Af Ae rfl ?_
  refine Aa rfl (.int .i64 (l1.length : Int)) (fun b w hb hH => DL AK rfl rfl hH hb) ?_
  refine Aa rfl (.int .i64 ((l1.length + 3 : Nat) : Int)) (fun b w hb hH => AH rfl rfl rfl rfl (by rw [IntWalk.i64_in _ (by omega)]; omega) hb) ?_
  refine Aa rfl (.int .u64 ((l1.length + 3 : Nat) : Int)) (fun b w hb hH => A5 Tryz.underlying3 Tryz.underlying31 (IntWalk.u64_in _ (by omega)) rfl rfl hb) ?_
  refine Aa rfl (.int .u64 (n : Int)) (fun b w hb hH => F4 rfl rfl rfl (by omega) hn hb) ?_
  refine Af Ae rfl ?_
  refine Ab (An (Ad ?_))
  refine Af Ae rfl ?_
  refine Am rfl (Au (os' := fun _ => [Ak 34 5 encV (.slice A1 l1.length c1) l1, Bb (fun x : EntV => Ak 5 1 encB x.v x.e.d) l1, cell gg 52 #[gv], Ak 34 5 encV gv (x.l.take m), cell gm 3 #[.int .i64 (m : Int)], Ao tb, cell ga 26 #[.pointer (some ⟨p1, 0, none⟩)], Ag dk d2, AA p1 dk lim (Aq ((B6 lim [] l1).drop k9)), Ak 34 5 encV x.v x.l, Bb (fun x : EntV => Ak 5 1 encB x.v x.e.d) x.l]) [8, 7, 5] 0 (Aj Tryz.func38 (by kernel_rfl) rfl) (hA2 p1 dk) rfl rfl rfl (fun _ => rfl) rfl rfl rfl) ?_; rintro ⟨⟩
  refine Aa rfl (.bool false) (fun b w hb hH => AZ rfl rfl rfl (Bu (by decide)) hb) ?_
  refine Ab (As rfl (Aw (AB (Ad ?_))))
  refine Af Ae rfl ?_
  refine Am (post := fun (⟨v5, l5⟩ : EsV) => [Ao tb, fact (l5.map (·.e) = AE ((B6 lim [] l1).drop k9)), Ak 34 5 encV (.slice A1 l1.length c1) l1, Bb (fun x : EntV => Ak 5 1 encB x.v x.e.d) l1, cell gg 52 #[gv], Ak 34 5 encV gv (x.l.take m), cell gm 3 #[.int .i64 (m : Int)], Ag dk d2, cell ga 26 #[.pointer (some ⟨p1, 0, none⟩)], AA p1 dk lim (Aq ((B6 lim [] l1).drop k9)), Cc 34 v5 l5, Ak 34 5 encV x.v x.l, Bb (fun x : EntV => Ak 5 1 encB x.v x.e.d) x.l]) rfl (Au  [8, 7, 5] 0 (Aj Tryz.func33 (by kernel_rfl) rfl) (hD2.listD tb (by omega) p1 dk lim) rfl rfl rfl (fun _ => rfl) rfl rfl rfl) ?_; rintro ⟨v5, l5⟩
  refine BT.fact 1 rfl (fun _ h => h.2) ?_; rintro h5
  refine BT.leave [1] rfl rfl ?_
  refine Jd 9 rfl DJ (fun _ => rfl) ?_; rintro ⟨⟩
  have h5e : l5.map (·.e) = (l1.map (·.e)).drop c9 := by have h9 : l5.map (·.e) = AE ((B6 lim [] l1).drop k9) := h5; rw [h9, Sm, hc9, hall1]
  have hl5 : l5.length = l1.length - c9 := by have h9 := congrArg List.length h5e; rwa [List.length_map, List.length_drop, List.length_map] at h9
  have hl5a : l5.length = (AE ((B6 lim [] l1).drop k9)).length := by have h9 : l5.map (·.e) = AE ((B6 lim [] l1).drop k9) := h5; rw [← h9, List.length_map]
  refine Af Ae rfl ?_
  refine Ab (Ad ?_)
  refine Af Ae rfl ?_
  refine Aa rfl (.int .i64 (l1.length : Int)) (fun b w hb hH => DL AK rfl rfl hH hb) ?_
  refine Af Ae rfl ?_
  refine Aa rfl (.int .i64 (l5.length : Int)) (fun b w hb hH => Ez 0 Tryz.underlying52 rfl rfl rfl hH hb) ?_
  refine Aa rfl (.int .i64 (c9 : Int)) (fun b w hb hH => AH rfl rfl rfl rfl (by rw [IntWalk.i64_in _ (by omega)]; omega) hb) ?_
  refine Af Ae rfl ?_
  refine Ab ?_
  rcases Nat.eq_zero_or_pos l1.length with h0 | h0
  · skip
    refine Ad ?_
    refine Af Ae rfl ?_
    refine Aa rfl (.bool true) (fun b w hb hH => AZ rfl rfl rfl (BX (by omega)) hb) ?_
    refine Af Ae rfl ?_
    refine Aa rfl (.int .u64 (c9 : Int)) (fun b w hb hH => A5 Tryz.underlying3 Tryz.underlying31 (IntWalk.u64_in _ (by omega)) rfl rfl hb) ?_
    refine Af Ae rfl ?_
    refine Aa rfl (.bool true) (fun b w hb hH => AZ rfl rfl rfl (Cb (by omega)) hb) ?_
    refine Af Ae rfl ?_
    refine Aa rfl ((Ca 5 (.slice A1 l1.length c1) c9 l1.length)) (fun b w hb hH => DS (i := c9) AK rfl hc9l rfl rfl rfl hH hb) ?_
    refine Am (post := fun _ => [Ak 34 5 encV v5 l5, Bb (fun x : EntV => Ak 5 1 encB x.v x.e.d) l5, Ao tb, Ak 34 5 encV (.slice A1 l1.length c1) l1, Bb (fun x : EntV => Ak 5 1 encB x.v x.e.d) l1, cell gg 52 #[gv], Ak 34 5 encV gv (x.l.take m), cell gm 3 #[.int .i64 (m : Int)], Ag dk d2, cell ga 26 #[.pointer (some ⟨p1, 0, none⟩)], AA p1 dk lim (Aq ((B6 lim [] l1).drop k9)), Ak 34 5 encV x.v x.l, Bb (fun x : EntV => Ak 5 1 encB x.v x.e.d) x.l]) rfl (Bc (Aj Tryz.func35 (by kernel_rfl) rfl) (fun w hH => Hg w v5 (Ca 5 (.slice A1 l1.length c1) c9 l1.length) l5 (l1.drop c9) (OQ 0 1 rfl rfl hH) (Mv 3 4 hc9l rfl rfl hH) (by rw [h5e, List.map_drop]) (by omega)) rfl rfl rfl) ?_; rintro ⟨⟩
    refine Af Ae rfl ?_
    refine Aa rfl (.int .i64 (l1.length : Int)) (fun b w hb hH => DL AK rfl rfl hH hb) ?_
    refine Aa rfl (.bool true) (fun b w hb hH => AZ rfl rfl rfl (FI (by omega)) hb) ?_
    refine Af Ae rfl ?_
    refine Ab ?_
    refine AN.keep (env' := [(8, .bool true)]) ⟨rfl, trivial⟩ ?_
    refine Az ?_
    exact Ay (.tmp rfl) (fun w h => ⟨rfl, LC 2 rfl hW h⟩) rfl
  · skip
    have hlf := hleft h0
    refine Ad ?_
    refine Af Ae rfl ?_
    refine Aa rfl (.bool true) (fun b w hb hH => AZ rfl rfl rfl (BX (by omega)) hb) ?_
    refine Af Ae rfl ?_
    refine Aa rfl (.int .u64 (c9 : Int)) (fun b w hb hH => A5 Tryz.underlying3 Tryz.underlying31 (IntWalk.u64_in _ (by omega)) rfl rfl hb) ?_
    refine Af Ae rfl ?_
    refine Aa rfl (.bool true) (fun b w hb hH => AZ rfl rfl rfl (Cb (by omega)) hb) ?_
    refine Af Ae rfl ?_
    refine Aa rfl ((Ca 5 (.slice A1 l1.length c1) c9 l1.length)) (fun b w hb hH => DS (i := c9) AK rfl hc9l rfl rfl rfl hH hb) ?_
    refine Am (post := fun _ => [Ak 34 5 encV v5 l5, Bb (fun x : EntV => Ak 5 1 encB x.v x.e.d) l5, Ao tb, Ak 34 5 encV (.slice A1 l1.length c1) l1, Bb (fun x : EntV => Ak 5 1 encB x.v x.e.d) l1, cell gg 52 #[gv], Ak 34 5 encV gv (x.l.take m), cell gm 3 #[.int .i64 (m : Int)], Ag dk d2, cell ga 26 #[.pointer (some ⟨p1, 0, none⟩)], AA p1 dk lim (Aq ((B6 lim [] l1).drop k9)), Ak 34 5 encV x.v x.l, Bb (fun x : EntV => Ak 5 1 encB x.v x.e.d) x.l]) rfl (Bc (Aj Tryz.func35 (by kernel_rfl) rfl) (fun w hH => Hg w v5 (Ca 5 (.slice A1 l1.length c1) c9 l1.length) l5 (l1.drop c9) (OQ 0 1 rfl rfl hH) (Mv 3 4 hc9l rfl rfl hH) (by rw [h5e, List.map_drop]) (by omega)) rfl rfl rfl) ?_; rintro ⟨⟩
    refine Af Ae rfl ?_
    refine Aa rfl (.int .i64 (l1.length : Int)) (fun b w hb hH => DL AK rfl rfl hH hb) ?_
    refine Aa rfl (.bool false) (fun b w hb hH => AZ rfl rfl rfl (EK (by omega)) hb) ?_
    refine Af Ae rfl ?_
    refine Aa rfl (.int .i64 (l5.length : Int)) (fun b w hb hH => Ez 0 Tryz.underlying52 rfl rfl rfl hH hb) ?_
    refine Aa rfl (.bool true) (fun b w hb hH => AZ rfl rfl rfl (BO (by omega)) hb) ?_
    refine Af Ae rfl ?_
    refine Ab ?_
    refine AN.keep (env' := [(8, .bool true)]) ⟨rfl, trivial⟩ ?_
    refine Az ?_
    exact Ay (.tmp rfl) (fun w h => ⟨rfl, LC 2 rfl hW h⟩) rfl
end Go.Proofs.YtnknboibmifacaaGreatDoor.Sep
