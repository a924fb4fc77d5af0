/-
  SgC
-/
import Derived.Test.YtjcfimmcogkopaaGreatDoorWX01
import Derived.Test.YtjcfimmcogkopaaGreatDoorWH01
import Derived.Test.YtjcfimmcogkopaaGreatDoorWJ01
set_option linter.unusedSimpArgs false
set_option linter.unusedVariables false
set_option maxHeartbeats 4000000
set_option maxRecDepth 100000
namespace Go.Proofs.YtjcfimmcogkopaaGreatDoor.Sep
variable {A0 : Option Addr} {N c0 gh gy : Nat} {es : List (EntD × Nat)} {f : Value} {ps : List (List UInt8)} {y : List UInt8}
open Go.RowKit
open Go.Proofs.YtjcfimmcogkopaaGreatDoor.Mem (AG BC Chg Ak)
def GU (gy gh ge : Nat) (f : Value) (n : Nat) (X : Ass) : Ass := fun rs => Ae [cell gy 167 #[f], cell gh 3 #[.int .i64 8], cell ge 3 #[.int .i64 (n : Int)], X] rs
theorem GU.open_ {ge : Nat} {n : Nat} {X : Ass} : ∀ rs, GU gy gh ge f n X rs → ∃ _ : Unit, Ae [cell gy 167 #[f], cell gh 3 #[.int .i64 8], cell ge 3 #[.int .i64 (n : Int)], X] rs := fun _ h => ⟨(), h⟩
theorem NX {ge : Nat} (n : Nat) (X : Ass) : ∀ rs, Ae [cell gy 167 #[f], cell gh 3 #[.int .i64 8], cell ge 3 #[.int .i64 (n : Int)], X] rs → GU gy gh ge f n X rs := fun _ h => h
theorem UP {ge : Nat} (X : Ass) : ∀ rs, Ae [cell gy 167 #[f], cell gh 3 #[.int .i64 8], cell ge 3 #[.int .i64 0], X] rs → GU gy gh ge f (Cf (ps.take 0)) X rs := fun _ h => h
theorem XO : ((B5 []).length : Int) = 8 := by rw [Gb (by simp)]; rfl
section
variable {P : Program} {n : Nat} {B : Nat → Prop} {w0 w : World} {os : List Ass} {env : List (Nat × Value)} {o : Oper} {act : Act}
theorem RI (i : Nat) {t e : TypeId} {v : Value} (hu : P.underlying t = some (.slice e)) (hi : os[i]? = some (Af e 1 encB v (B5 []))) {x : Operand} (ho : o.op = .call { callee := .builtin .len, args := #[x], argTypes := #[t] }) (hx : evs env x = some v) (hH : Hp B w0 w os) (hF : Fr n act env) : (execOp act.eval o).run P w = .ok (.value (.int .i64 8)) w := by
 have h := CM i hu hi ho hx hH hF
 rw [XO] at h
 exact h
end
theorem XP (k : Fn) (caps : Array Value) (g : Nat) (T : Nat → Ass) (hl : y.length ≤ 137438953472) (hr : (Cs y).1 = ps) (hes : FG 0 ps = es) (hN : es.length = N) (hNp : ps.length = N) (hyy : ∀ (j : Nat) (A : Option Addr) (c : Nat) (e : EntD) (n : Nat), es[j]? = some (e, n) → CB Tryz.prog (.func k #[] caps) [.agg #[.int .i64 e.k, .int .u64 e.t, .int .u64 e.i, .slice A e.d.length c, .int .i64 e.c], .int .i64 (n : Int)] [T j, Af 5 1 encB (.slice A e.d.length c) e.d] (fun _ : Unit => .bool true) (fun _ : Unit => [T (j + 1)])) : AA Tryz.prog 118 #[.func k #[] caps, .pointer (some ⟨g, 0, none⟩)] [T 0, Af 5 1 encB (.slice A0 y.length c0) y, cell g 49 #[.slice A0 y.length c0]] (fun (_ : Unit) => .tuple #[]) (fun (_ : Unit) => [T N, Af 5 1 encB (.slice A0 y.length c0) y, cell g 49 #[.slice A0 y.length c0]]) := by
  refine Kr (args := [.func k #[] caps, .pointer (some ⟨g, 0, none⟩)]) 33 Tryz.func118 rfl rfl rfl ?_; intro w rs
  have hle := If ps 0
  rw [hes] at hle
  have hlen : ∀ x, x ∈ ps → x.length ≤ 65536 := by have h7 := IW y.length y; change ∀ x, x ∈ (Cs y).1 → x.length ≤ 65536 at h7; rwa [hr] at h7
  have hsum : ∀ j, Cf (ps.take j) ≤ y.length := fun j => by have h5 := Ku y.length y; have h6 := NS y.length y; change (Cs y).2 = Cf (Cs y).1 at h5; change (Cs y).2 ≤ y.length at h6; have h7 := RH (Cs y).1 j; rw [hr] at h7 h5; omega
  refine Al (Am Ac rfl (I5 ?_)); rintro gy
  refine Aq ?_
  refine Am Ac rfl (XQ [] (fun w hH => KK w (Ia w) (by simp) rfl) ?_); rintro v8
  refine Aa rfl (.int .i64 8) (fun b w hb hH => RI 0 Tryz.underlying49 rfl rfl rfl hH hb) (K5 ?_); rintro gh
  refine K5 ?_; rintro ge
  refine AK ?_
  refine lC [2] ?_
  refine cC [2, 1, 0, 3] (UP (ps := ps) (T 0)) ?_
  refine Aq ?_
  refine GI [1] (Pf Dx hl) ?_; rintro ⟨g8, w8⟩
  refine Aq ?_
  refine AH.fact 1 rfl (fun _ h => Af.is h) ?_; rintro ⟨A9, c9, rfl⟩
  refine kC [0, 1, 2, 8, 9, 3, 4, 10, 11] ?_
  refine AH.mid [cell g8 49 #[.slice A9 y.length c9], Af 5 1 encB (.slice A9 y.length c9) y, GU gy gh ge (.func k #[] caps) (Cf (ps.take 0)) (T 0), Af 5 1 encB (.slice A0 y.length c0) y, cell g 49 #[.slice A0 y.length c0]] (.refl _) ?_
  refine Fe (caps := [.pointer (some ⟨g8, 0, none⟩)]) (post := [GU gy gh ge (.func k #[] caps) (Cf (ps.take N)) (T N), Af 5 1 encB (.slice A9 y.length c9) y, cell g8 49 #[.slice A9 y.length c9]]) (os' := [GU gy gh ge (.func k #[] caps) (Cf (ps.take N)) (T N), Af 5 1 encB (.slice A9 y.length c9) y, cell g8 49 #[.slice A9 y.length c9], Af 5 1 encB (.slice A0 y.length c0) y, cell g 49 #[.slice A0 y.length c0]]) (.normal) [2, 1, 0] rfl (Ah Tryz.func145 (by kernel_rfl) rfl) (fun L1 fn1 tm1 hf1 r1 k11 k12 k13 k14 k15 k16 => Na (YO (.yield L1) #[] g8 (fun j => DD L1 r1 (GU gy gh ge (.func k #[] caps) (Cf (ps.take j)) (T j))) hl hr hlen hNp ?_)) rfl rfl rfl ?_
  intro j x d hpj 
  have hxl : x.length ≤ 65536 := hlen x (List.mem_of_getElem? hpj)
  have hst := Kt hpj
  have hs1 := hsum (j + 1)
  have hje : j < es.length := (by have := (List.getElem?_eq_some_iff.1 hpj).1; omega)
  obtain ⟨⟨e, n⟩, hej⟩ : ∃ z, es[j]? = some z := ⟨_, List.getElem?_eq_getElem hje⟩
  obtain ⟨q, hq1, hD, hq3⟩ := Mf (o := 0) (by rw [hes]; exact hej)
  rw [hpj] at hq1
  obtain rfl := Option.some.inj hq1
  obtain rfl : n = Cf (ps.take (j + 1)) := by rw [hq3]; omega
  refine KN (Cj (n := 33) (env := [(12, d), (0, .func k #[] caps), (1, .pointer (some ⟨g, 0, none⟩)), (2, .pointer (some ⟨gy, 0, none⟩)), (8, v8), (9, .int .i64 8), (3, .pointer (some ⟨gh, 0, none⟩)), (4, .pointer (some ⟨ge, 0, none⟩)), (10, .slice A0 y.length c0), (11, .func (.func 145) #[] #[.pointer (some ⟨g8, 0, none⟩)])]) (.normal) k12 k11 (by rw [k14]; rfl) ?_ ?_)
  · rw [k14, k13]
    refine (congrArg (fun t => Fr 33 { tmps := t, defers := [] } _) (?_ : _ = (tm1.setIfInBounds 12 d))).mpr (hf1.put (d := 12) (by decide) _)
    simp
  · intro w0 rs
    rw [k15]
    refine CS (by kernel_rfl) (by rintro ⟨a, w, h⟩; first | exact h.elim | exact nomatch h.1 | (obtain ⟨_, h, _⟩ := h; exact nomatch h)) (Ai ?_)
    refine EN 0 rfl k11 ?_
    rw [k16]
    refine DQ 1 rfl GU.open_ (fun _ => rfl) ?_; rintro ⟨⟩
    refine DN (Dg (CS (by kernel_rfl) (by rintro ⟨a, w, h⟩; first | exact h.elim | exact nomatch h.1 | (obtain ⟨_, h, _⟩ := h; exact nomatch h)) (Am Ac rfl (XQ [] (fun w hH => IS w d x (hH.sl8 5 rfl) (by omega) e 0 hD) ?_)))); rintro ⟨A, c⟩
    refine Am Ac rfl (K5 ?_); rintro gx
    refine Aq ?_
    refine E8 (Dg (CS (by kernel_rfl) (by rintro ⟨a, w, h⟩; first | exact h.elim | exact nomatch h.1 | (obtain ⟨_, h, _⟩ := h; exact nomatch h)) (AK ?_)))
    refine Aa rfl (.int .i64 ((8 + x.length : Nat) : Int)) (fun b w hb hH => Ay rfl rfl rfl rfl (by rw [IntWalk.i64_in _ (by omega)]; omega) hb) (Aa rfl (.int .i64 ((Cf (ps.take (j + 1))) : Int)) (fun b w hb hH => Ay rfl rfl rfl rfl (by rw [IntWalk.i64_in _ (by omega)]; omega) hb) (Bt (post := fun _ => [cell gx 53 #[.int .i64 e.k, .int .u64 e.t, .int .u64 e.i, .slice A e.d.length c, .int .i64 e.c], Af 5 1 encB (.slice A e.d.length c) e.d, cell gy 167 #[.func k #[] caps], cell gh 3 #[.int .i64 8], cell ge 3 #[.int .i64 ((Cf (ps.take (j + 1))) : Int)], T j, Bq L1 (BV r1), Af 5 1 encB d x]) rfl rfl (CW 4 (v := .int .i64 ((Cf (ps.take (j + 1))) : Int)) #[.int .i64 ((Cf (ps.take (j + 1))) : Int)] Hd.2 rfl rfl rfl rfl rfl rfl rfl rfl rfl) ?_)); rintro ⟨⟩
    refine DU (E8 (Dg (UI (KM Iq 6 (by rintro ⟨a, w, h⟩; first | exact h.elim | exact nomatch h.1 | (obtain ⟨_, h, _⟩ := h; exact nomatch h)) (by kernel_rfl) (AV ?_)))))
    refine Pd (FF (X := Unit) (post := fun _ => [T (j + 1)]) (os' := fun _ => [T (j + 1), cell gx 53 #[.int .i64 e.k, .int .u64 e.t, .int .u64 e.i, .slice A e.d.length c, .int .i64 e.c], cell gy 167 #[.func k #[] caps], cell gh 3 #[.int .i64 8], cell ge 3 #[.int .i64 ((Cf (ps.take (j + 1))) : Int)], Bq L1 (BV r1), Af 5 1 encB d x]) Iq [5, 1] (hyy j A c e _ hej) rfl rfl rfl rfl rfl rfl (fun _ => rfl) ?_); rintro ⟨⟩
    refine EE Iq (by rintro ⟨a, w, h⟩; first | exact h.elim | exact nomatch h.1 | (obtain ⟨_, h, _⟩ := h; exact nomatch h)) (by kernel_rfl) (Ai ?_)
    refine E8 (IY rfl (IZ (D4 (Cg [2, 3, 4, 0] rfl (NX (Cf (ps.take (j + 1))) (T (j + 1))) rfl ?_))))
    exact E0 [2, 0] rfl rfl
  intro D aT wT hD hD0 hd hF hH
  obtain ⟨_, hH⟩ := E9 0 rfl GU.open_ hH
  exact Ks (e := .normal) rfl (fun w' h => As (X := Unit) (val := fun _ => .tuple #[]) (post := fun _ => [T N, Af 5 1 encB (.slice A0 y.length c0) y, cell g 49 #[.slice A0 y.length c0]]) (os := [cell gy 167 #[.func k #[] caps], cell gh 3 #[.int .i64 8], cell ge 3 #[.int .i64 ((Cf (ps.take N)) : Int)], T N, Af 5 1 encB (.slice A9 y.length c9) y, cell g8 49 #[.slice A9 y.length c9], Af 5 1 encB (.slice A0 y.length c0) y, cell g 49 #[.slice A0 y.length c0]]) () rfl [3, 6, 7] rfl h DK) (by simp) D aT wT hD hD0 hd hF hH
theorem XR (k : Fn) (caps : Array Value) (g : Nat) (T : Nat → Ass) (hl : y.length ≤ 137438953472) (hr : (Cs y).1 = ps) (hes : FG 0 ps = es) (hN : es.length = N) (hNp : N < ps.length) (hyy : ∀ (j : Nat) (A : Option Addr) (c : Nat) (e : EntD) (n : Nat), es[j]? = some (e, n) → CB Tryz.prog (.func k #[] caps) [.agg #[.int .i64 e.k, .int .u64 e.t, .int .u64 e.i, .slice A e.d.length c, .int .i64 e.c], .int .i64 (n : Int)] [T j, Af 5 1 encB (.slice A e.d.length c) e.d] (fun _ : Unit => .bool true) (fun _ : Unit => [T (j + 1)])) : AA Tryz.prog 118 #[.func k #[] caps, .pointer (some ⟨g, 0, none⟩)] [T 0, Af 5 1 encB (.slice A0 y.length c0) y, cell g 49 #[.slice A0 y.length c0]] (fun (_ : Unit) => .tuple #[]) (fun (_ : Unit) => [T N, Af 5 1 encB (.slice A0 y.length c0) y, cell g 49 #[.slice A0 y.length c0]]) := by
  refine Kr (args := [.func k #[] caps, .pointer (some ⟨g, 0, none⟩)]) 33 Tryz.func118 rfl rfl rfl ?_; intro w rs
  have hle := If ps 0
  rw [hes] at hle
  have hlen : ∀ x, x ∈ ps → x.length ≤ 65536 := by have h7 := IW y.length y; change ∀ x, x ∈ (Cs y).1 → x.length ≤ 65536 at h7; rwa [hr] at h7
  have hsum : ∀ j, Cf (ps.take j) ≤ y.length := fun j => by have h5 := Ku y.length y; have h6 := NS y.length y; change (Cs y).2 = Cf (Cs y).1 at h5; change (Cs y).2 ≤ y.length at h6; have h7 := RH (Cs y).1 j; rw [hr] at h7 h5; omega
  refine Al (Am Ac rfl (I5 ?_)); rintro gy
  refine Aq ?_
  refine Am Ac rfl (XQ [] (fun w hH => KK w (Ia w) (by simp) rfl) ?_); rintro v8
  refine Aa rfl (.int .i64 8) (fun b w hb hH => RI 0 Tryz.underlying49 rfl rfl rfl hH hb) (K5 ?_); rintro gh
  refine K5 ?_; rintro ge
  refine AK ?_
  refine lC [2] ?_
  refine cC [2, 1, 0, 3] (UP (ps := ps) (T 0)) ?_
  refine Aq ?_
  refine GI [1] (Pf Dx hl) ?_; rintro ⟨g8, w8⟩
  refine Aq ?_
  refine AH.fact 1 rfl (fun _ h => Af.is h) ?_; rintro ⟨A9, c9, rfl⟩
  refine kC [0, 1, 2, 8, 9, 3, 4, 10, 11] ?_
  refine AH.mid [cell g8 49 #[.slice A9 y.length c9], Af 5 1 encB (.slice A9 y.length c9) y, GU gy gh ge (.func k #[] caps) (Cf (ps.take 0)) (T 0), Af 5 1 encB (.slice A0 y.length c0) y, cell g 49 #[.slice A0 y.length c0]] (.refl _) ?_
  refine Fe (caps := [.pointer (some ⟨g8, 0, none⟩)]) (post := [GU gy gh ge (.func k #[] caps) (Cf (ps.take (N + 1))) (T N), Af 5 1 encB (.slice A9 y.length c9) y, cell g8 49 #[.slice A9 y.length c9]]) (os' := [GU gy gh ge (.func k #[] caps) (Cf (ps.take (N + 1))) (T N), Af 5 1 encB (.slice A9 y.length c9) y, cell g8 49 #[.slice A9 y.length c9], Af 5 1 encB (.slice A0 y.length c0) y, cell g 49 #[.slice A0 y.length c0]]) (.ret) [2, 1, 0] rfl (Ah Tryz.func145 (by kernel_rfl) rfl) (fun L1 fn1 tm1 hf1 r1 k11 k12 k13 k14 k15 k16 => Na (Yr (N := N) (.yield L1) #[] g8 (fun j => DD L1 r1 (GU gy gh ge (.func k #[] caps) (Cf (ps.take j)) (T j))) (DD L1 (GT .ret r1) (GU gy gh ge (.func k #[] caps) (Cf (ps.take (N + 1))) (T N))) hl hr hlen hNp ?_ ?_)) rfl rfl rfl ?_
  intro j x d hpj hjN 
  have hxl : x.length ≤ 65536 := hlen x (List.mem_of_getElem? hpj)
  have hst := Kt hpj
  have hs1 := hsum (j + 1)
  have hje : j < es.length := (by omega)
  obtain ⟨⟨e, n⟩, hej⟩ : ∃ z, es[j]? = some z := ⟨_, List.getElem?_eq_getElem hje⟩
  obtain ⟨q, hq1, hD, hq3⟩ := Mf (o := 0) (by rw [hes]; exact hej)
  rw [hpj] at hq1
  obtain rfl := Option.some.inj hq1
  obtain rfl : n = Cf (ps.take (j + 1)) := by rw [hq3]; omega
  refine KN (Cj (n := 33) (env := [(12, d), (0, .func k #[] caps), (1, .pointer (some ⟨g, 0, none⟩)), (2, .pointer (some ⟨gy, 0, none⟩)), (8, v8), (9, .int .i64 8), (3, .pointer (some ⟨gh, 0, none⟩)), (4, .pointer (some ⟨ge, 0, none⟩)), (10, .slice A0 y.length c0), (11, .func (.func 145) #[] #[.pointer (some ⟨g8, 0, none⟩)])]) (.normal) k12 k11 (by rw [k14]; rfl) ?_ ?_)
  · rw [k14, k13]
    refine (congrArg (fun t => Fr 33 { tmps := t, defers := [] } _) (?_ : _ = (tm1.setIfInBounds 12 d))).mpr (hf1.put (d := 12) (by decide) _)
    simp
  · intro w0 rs
    rw [k15]
    refine CS (by kernel_rfl) (by rintro ⟨a, w, h⟩; first | exact h.elim | exact nomatch h.1 | (obtain ⟨_, h, _⟩ := h; exact nomatch h)) (Ai ?_)
    refine EN 0 rfl k11 ?_
    rw [k16]
    refine DQ 1 rfl GU.open_ (fun _ => rfl) ?_; rintro ⟨⟩
    refine DN (Dg (CS (by kernel_rfl) (by rintro ⟨a, w, h⟩; first | exact h.elim | exact nomatch h.1 | (obtain ⟨_, h, _⟩ := h; exact nomatch h)) (Am Ac rfl (XQ [] (fun w hH => IS w d x (hH.sl8 5 rfl) (by omega) e 0 hD) ?_)))); rintro ⟨A, c⟩
    refine Am Ac rfl (K5 ?_); rintro gx
    refine Aq ?_
    refine E8 (Dg (CS (by kernel_rfl) (by rintro ⟨a, w, h⟩; first | exact h.elim | exact nomatch h.1 | (obtain ⟨_, h, _⟩ := h; exact nomatch h)) (AK ?_)))
    refine Aa rfl (.int .i64 ((8 + x.length : Nat) : Int)) (fun b w hb hH => Ay rfl rfl rfl rfl (by rw [IntWalk.i64_in _ (by omega)]; omega) hb) (Aa rfl (.int .i64 ((Cf (ps.take (j + 1))) : Int)) (fun b w hb hH => Ay rfl rfl rfl rfl (by rw [IntWalk.i64_in _ (by omega)]; omega) hb) (Bt (post := fun _ => [cell gx 53 #[.int .i64 e.k, .int .u64 e.t, .int .u64 e.i, .slice A e.d.length c, .int .i64 e.c], Af 5 1 encB (.slice A e.d.length c) e.d, cell gy 167 #[.func k #[] caps], cell gh 3 #[.int .i64 8], cell ge 3 #[.int .i64 ((Cf (ps.take (j + 1))) : Int)], T j, Bq L1 (BV r1), Af 5 1 encB d x]) rfl rfl (CW 4 (v := .int .i64 ((Cf (ps.take (j + 1))) : Int)) #[.int .i64 ((Cf (ps.take (j + 1))) : Int)] Hd.2 rfl rfl rfl rfl rfl rfl rfl rfl rfl) ?_)); rintro ⟨⟩
    refine DU (E8 (Dg (UI (KM Iq 6 (by rintro ⟨a, w, h⟩; first | exact h.elim | exact nomatch h.1 | (obtain ⟨_, h, _⟩ := h; exact nomatch h)) (by kernel_rfl) (AV ?_)))))
    refine Pd (FF (X := Unit) (post := fun _ => [T (j + 1)]) (os' := fun _ => [T (j + 1), cell gx 53 #[.int .i64 e.k, .int .u64 e.t, .int .u64 e.i, .slice A e.d.length c, .int .i64 e.c], cell gy 167 #[.func k #[] caps], cell gh 3 #[.int .i64 8], cell ge 3 #[.int .i64 ((Cf (ps.take (j + 1))) : Int)], Bq L1 (BV r1), Af 5 1 encB d x]) Iq [5, 1] (hyy j A c e _ hej) rfl rfl rfl rfl rfl rfl (fun _ => rfl) ?_); rintro ⟨⟩
    refine EE Iq (by rintro ⟨a, w, h⟩; first | exact h.elim | exact nomatch h.1 | (obtain ⟨_, h, _⟩ := h; exact nomatch h)) (by kernel_rfl) (Ai ?_)
    refine E8 (IY rfl (IZ (D4 (Cg [2, 3, 4, 0] rfl (NX (Cf (ps.take (j + 1))) (T (j + 1))) rfl ?_))))
    exact E0 [2, 0] rfl rfl
  intro j x d hpj hjN 
  have hxl : x.length ≤ 65536 := hlen x (List.mem_of_getElem? hpj)
  have hst := Kt hpj
  have hs1 := hsum (j + 1)
  obtain rfl := hjN
  have hbad : (Ed x).2 ≠ 0 := Mg (o := 0) (by rw [hes, hN]; exact hpj)
  obtain ⟨e, en, hD⟩ : ∃ e en, Ed x = (e, en) := ⟨_, _, rfl⟩
  rw [hD] at hbad
  have hen : en ≠ 0 := hbad
  refine KN (Cj (n := 33) (env := [(12, d), (0, .func k #[] caps), (1, .pointer (some ⟨g, 0, none⟩)), (2, .pointer (some ⟨gy, 0, none⟩)), (8, v8), (9, .int .i64 8), (3, .pointer (some ⟨gh, 0, none⟩)), (4, .pointer (some ⟨ge, 0, none⟩)), (10, .slice A0 y.length c0), (11, .func (.func 145) #[] #[.pointer (some ⟨g8, 0, none⟩)])]) (.ret) k12 k11 (by rw [k14]; rfl) ?_ ?_)
  · rw [k14, k13]
    refine (congrArg (fun t => Fr 33 { tmps := t, defers := [] } _) (?_ : _ = (tm1.setIfInBounds 12 d))).mpr (hf1.put (d := 12) (by decide) _)
    simp
  · intro w0 rs
    rw [k15]
    refine CS (by kernel_rfl) (by rintro ⟨a, w, h⟩; first | exact h.elim | exact nomatch h.1 | (obtain ⟨_, h, _⟩ := h; exact nomatch h)) (Ai ?_)
    refine EN 0 rfl k11 ?_
    rw [k16]
    refine DQ 1 rfl GU.open_ (fun _ => rfl) ?_; rintro ⟨⟩
    refine DN (Dg (CS (by kernel_rfl) (by rintro ⟨a, w, h⟩; first | exact h.elim | exact nomatch h.1 | (obtain ⟨_, h, _⟩ := h; exact nomatch h)) (Am Ac rfl (XQ [] (fun w hH => IS w d x (hH.sl8 5 rfl) (by omega) e en hD) ?_)))); rintro ⟨A, c⟩
    refine Am Ac rfl (K5 ?_); rintro gx
    refine Aq ?_
    refine E8 (Dg (CS (by kernel_rfl) (by rintro ⟨a, w, h⟩; first | exact h.elim | exact nomatch h.1 | (obtain ⟨_, h, _⟩ := h; exact nomatch h)) (AK ?_)))
    refine Aa rfl (.int .i64 ((8 + x.length : Nat) : Int)) (fun b w hb hH => Ay rfl rfl rfl rfl (by rw [IntWalk.i64_in _ (by omega)]; omega) hb) (Aa rfl (.int .i64 ((Cf (ps.take (j + 1))) : Int)) (fun b w hb hH => Ay rfl rfl rfl rfl (by rw [IntWalk.i64_in _ (by omega)]; omega) hb) (Bt (post := fun _ => [cell gx 53 #[.int .i64 e.k, .int .u64 e.t, .int .u64 e.i, .slice A e.d.length c, .int .i64 e.c], Af 5 1 encB (.slice A e.d.length c) e.d, cell gy 167 #[.func k #[] caps], cell gh 3 #[.int .i64 8], cell ge 3 #[.int .i64 ((Cf (ps.take (j + 1))) : Int)], T j, Bq L1 (BV r1), Af 5 1 encB d x]) rfl rfl (CW 4 (v := .int .i64 ((Cf (ps.take (j + 1))) : Int)) #[.int .i64 ((Cf (ps.take (j + 1))) : Int)] Hd.2 rfl rfl rfl rfl rfl rfl rfl rfl rfl) ?_)); rintro ⟨⟩
    refine DU (E8 (Dg (CS (by kernel_rfl) (by rintro ⟨a, w, h⟩; first | exact h.elim | exact nomatch h.1 | (obtain ⟨_, h, _⟩ := h; exact nomatch h)) (Aq ?_))))
    refine E8 (NU rfl (W7 (EP (Cg [2, 3, 4, 5] rfl (NX (Cf (ps.take (j + 1))) (T j)) rfl ?_))))
    exact E0 [3, 0] rfl rfl
  intro D aT wT hD hD0 hd hF hH
  obtain ⟨_, hH⟩ := E9 0 rfl GU.open_ hH
  exact Ks (e := .ret) rfl (fun w' h => As (X := Unit) (val := fun _ => .tuple #[]) (post := fun _ => [T N, Af 5 1 encB (.slice A0 y.length c0) y, cell g 49 #[.slice A0 y.length c0]]) (os := [cell gy 167 #[.func k #[] caps], cell gh 3 #[.int .i64 8], cell ge 3 #[.int .i64 ((Cf (ps.take (N + 1))) : Int)], T N, Af 5 1 encB (.slice A9 y.length c9) y, cell g8 49 #[.slice A9 y.length c9], Af 5 1 encB (.slice A0 y.length c0) y, cell g 49 #[.slice A0 y.length c0]]) () rfl [3, 6, 7] rfl h DK) (by simp) D aT wT hD hD0 hd hF hH
end Go.Proofs.YtjcfimmcogkopaaGreatDoor.Sep
