/-
  SgC
-/
import Derived.Test.YtnknboibmifacaaGreatDoorVH01
import Derived.Test.YtnknboibmifacaaGreatDoorVJ01
set_option linter.unusedSimpArgs false
set_option linter.unusedVariables false
set_option maxRecDepth 100000
namespace Go.Proofs.YtnknboibmifacaaGreatDoor.Sep
open Go.RowKit
open Go.Proofs.YtnknboibmifacaaGreatDoor.Mem (AR B3 Chg Av)
def GI (gy gh ge : Nat) (f : Value) (n : Nat) (X : Ass) : Ass := fun rs => Al [cell gy 182 #[f], cell gh 3 #[.int .i64 8], cell ge 3 #[.int .i64 (n : Int)], X] rs
theorem GI.open_ {gy gh ge : Nat} {f : Value} {n : Nat} {X : Ass} : ∀ rs, GI gy gh ge f n X rs → ∃ _ : Unit, Al [cell gy 182 #[f], cell gh 3 #[.int .i64 8], cell ge 3 #[.int .i64 (n : Int)], X] rs := fun _ h => ⟨(), h⟩
theorem M4 {gy gh ge : Nat} {f : Value} (n : Nat) (X : Ass) : ∀ rs, Al [cell gy 182 #[f], cell gh 3 #[.int .i64 8], cell ge 3 #[.int .i64 (n : Int)], X] rs → GI gy gh ge f n X rs := fun _ h => h
theorem Tz {gy gh ge : Nat} {f : Value} {ps : List (List UInt8)} (X : Ass) : ∀ rs, Al [cell gy 182 #[f], cell gh 3 #[.int .i64 8], cell ge 3 #[.int .i64 0], X] rs → GI gy gh ge f (Cd (ps.take 0)) X rs := fun _ h => h
theorem Wy : ((BZ []).length : Int) = 8 := by rw [Hz (by simp)]; rfl
section
variable {P : Program} {n : Nat} {B : Nat → Prop} {w0 w : World} {os : List Ass} {env : List (Nat × Value)} {o : Oper} {act : Act}
theorem QJ (i : Nat) {t e : TypeId} {v : Value} (hu : P.underlying t = some (.slice e)) (hi : os[i]? = some (Ak e 1 encB v (BZ []))) {x : Operand} (ho : o.op = .call { callee := .builtin .len, args := #[x], argTypes := #[t] }) (hx : evs env x = some v) (hH : Hp B w0 w os) (hF : Fr n act env) : (execOp act.eval o).run P w = .ok (.value (.int .i64 8)) w := by
 have h := Ez i hu hi ho hx hH hF
 rw [Wy] at h
 exact h
end
theorem Wz (k : Fn) (caps : Array Value) (g : Nat) (T : Nat → Ass) {A0 : Option Addr} {c0 : Nat} {y : List UInt8} {ps : List (List UInt8)} {es : List (EntD × Nat)} {N : Nat} (hl : y.length ≤ 137438953472) (hr : (CK y).1 = ps) (hes : FN 0 ps = es) (hN : es.length = N) (hNp : ps.length = N) (hyy : ∀ (j : Nat) (A : Option Addr) (c : Nat) (e : EntD) (n : Nat), es[j]? = some (e, n) → CQ Tryz.prog (.func k #[] caps) [.agg #[.int .i64 e.k, .int .u64 e.t, .int .u64 e.i, .slice A e.d.length c, .int .i64 e.c], .int .i64 (n : Int)] [T j, Ak 5 1 encB (.slice A e.d.length c) e.d] (fun _ : Unit => .bool true) (fun _ : Unit => [T (j + 1)])) : AP Tryz.prog 135 #[.func k #[] caps, .pointer (some ⟨g, 0, none⟩)] [T 0, Ak 5 1 encB (.slice A0 y.length c0) y, cell g 30 #[.slice A0 y.length c0]] (fun (_ : Unit) => .tuple #[]) (fun (_ : Unit) => [T N, Ak 5 1 encB (.slice A0 y.length c0) y, cell g 30 #[.slice A0 y.length c0]]) := by
  refine JC (args := [.func k #[] caps, .pointer (some ⟨g, 0, none⟩)]) 33 Tryz.func135 rfl rfl rfl ?_; intro w rs
  have hle := HE ps 0
  rw [hes] at hle
  have hlen : ∀ x, x ∈ ps → x.length ≤ 65536 := by have h7 := Im y.length y; change ∀ x, x ∈ (CK y).1 → x.length ≤ 65536 at h7; rwa [hr] at h7
  have hsum : ∀ j, Cd (ps.take j) ≤ y.length := fun j => by have h5 := JE y.length y; have h6 := MV y.length y; change (CK y).2 = Cd (CK y).1 at h5; change (CK y).2 ≤ y.length at h6; have h7 := QI (CK y).1 j; rw [hr] at h7 h5; omega
  refine Ad ?_
  refine Af Ae rfl ?_
  refine Am (post := fun gy => [cell gy 182 #[.func k #[] caps], T 0, Ak 5 1 encB (.slice A0 y.length c0) y, cell g 30 #[.slice A0 y.length c0]]) rfl (CD (cs := #[.func k #[] caps]) rfl rfl rfl) ?_; rintro gy
  refine Ab (Ad ?_)
  refine Af Ae rfl ?_
  refine Am (post := fun v8 => [Ak 5 1 encB v8 (BZ []), cell gy 182 #[.func k #[] caps], T 0, Ak 5 1 encB (.slice A0 y.length c0) y, cell g 30 #[.slice A0 y.length c0]]) rfl (E9 (os' := fun v8 => [Ak 5 1 encB v8 (BZ []), cell gy 182 #[.func k #[] caps], T 0, Ak 5 1 encB (.slice A0 y.length c0) y, cell g 30 #[.slice A0 y.length c0]]) [] 0 (Aj Tryz.func98 (by kernel_rfl) rfl) (fun w hH => JX w (Hx w) (by simp) rfl) rfl rfl rfl (fun _ => rfl) rfl rfl rfl) ?_; rintro v8
  refine Aa rfl (.int .i64 8) (fun b w hb hH => QJ 0 Tryz.underlying30 rfl rfl rfl hH hb) ?_
  refine Am (post := fun gh => [cell gh 3 #[.int .i64 0], Ak 5 1 encB v8 (BZ []), cell gy 182 #[.func k #[] caps], T 0, Ak 5 1 encB (.slice A0 y.length c0) y, cell g 30 #[.slice A0 y.length c0]]) rfl (BW MO rfl) ?_; rintro gh
  refine Am (post := fun ge => [cell ge 3 #[.int .i64 0], cell gh 3 #[.int .i64 0], Ak 5 1 encB v8 (BZ []), cell gy 182 #[.func k #[] caps], T 0, Ak 5 1 encB (.slice A0 y.length c0) y, cell g 30 #[.slice A0 y.length c0]]) rfl (BW MO rfl) ?_; rintro ge
  refine AL (post := fun _ => [cell ge 3 #[.int .i64 0], cell gh 3 #[.int .i64 8], Ak 5 1 encB v8 (BZ []), cell gy 182 #[.func k #[] caps], T 0, Ak 5 1 encB (.slice A0 y.length c0) y, cell g 30 #[.slice A0 y.length c0]]) rfl rfl (AU 1 (v := .int .i64 8) #[.int .i64 8] Bh.2 rfl rfl rfl rfl rfl rfl rfl rfl rfl) ?_; rintro ⟨⟩
  refine AL (post := fun _ => [cell ge 3 #[.int .i64 0], cell gh 3 #[.int .i64 8], Ak 5 1 encB v8 (BZ []), cell gy 182 #[.func k #[] caps], T 0, Ak 5 1 encB (.slice A0 y.length c0) y, cell g 30 #[.slice A0 y.length c0]]) rfl rfl (AU 0 (v := .int .i64 0) #[.int .i64 0] Bh.2 rfl rfl rfl rfl rfl rfl rfl rfl rfl) ?_; rintro ⟨⟩
  refine Ab ?_
  refine AN.leave [2] rfl rfl ?_
  refine Bg [2, 1, 0, 3] rfl (Tz (ps := ps) (T 0)) rfl ?_
  refine Ad ?_
  refine Af Ae rfl ?_
  refine Aa rfl (.slice A0 y.length c0) (fun b w hb hH => AY rfl rfl (Bi CS rfl) (hH.row 2 rfl) hb) ?_
  refine Am rfl (Au  [1] 0 (Aj Tryz.func136 (by kernel_rfl) rfl) (Oi DI hl) rfl rfl rfl (fun _ => rfl) rfl rfl rfl) ?_; rintro ⟨g8, w8⟩
  refine Ab (AQ ?_)
  refine AN.fact 1 rfl (fun _ h => Ak.is h) ?_; rintro ⟨A9, c9, rfl⟩
  refine AN.keep (env' := [(0, .func k #[] caps), (1, .pointer (some ⟨g, 0, none⟩)), (2, .pointer (some ⟨gy, 0, none⟩)), (8, v8), (9, .int .i64 8), (3, .pointer (some ⟨gh, 0, none⟩)), (4, .pointer (some ⟨ge, 0, none⟩)), (10, .slice A0 y.length c0), (11, .func (.func 164) #[] #[.pointer (some ⟨g8, 0, none⟩)])]) ⟨rfl, rfl, rfl, rfl, rfl, rfl, rfl, rfl, rfl, trivial⟩ ?_
  refine AN.mid [cell g8 30 #[.slice A9 y.length c9], Ak 5 1 encB (.slice A9 y.length c9) y, GI gy gh ge (.func k #[] caps) (Cd (ps.take 0)) (T 0), Ak 5 1 encB (.slice A0 y.length c0) y, cell g 30 #[.slice A0 y.length c0]] (.refl _) ?_
  refine Fi (caps := [.pointer (some ⟨g8, 0, none⟩)]) (post := [GI gy gh ge (.func k #[] caps) (Cd (ps.take N)) (T N), Ak 5 1 encB (.slice A9 y.length c9) y, cell g8 30 #[.slice A9 y.length c9]]) (os' := [GI gy gh ge (.func k #[] caps) (Cd (ps.take N)) (T N), Ak 5 1 encB (.slice A9 y.length c9) y, cell g8 30 #[.slice A9 y.length c9], Ak 5 1 encB (.slice A0 y.length c0) y, cell g 30 #[.slice A0 y.length c0]]) (.normal) [2, 1, 0] rfl (Aj Tryz.func164 (by kernel_rfl) rfl) (fun L1 fn1 tm1 hf1 r1 k11 k12 k13 k14 k15 k16 => Mg (Xv (.yield L1) #[] g8 (fun j => EH L1 r1 (GI gy gh ge (.func k #[] caps) (Cd (ps.take j)) (T j))) hl hr hlen hNp ?_)) rfl rfl rfl ?_
  · skip
    intro j x d hpj 
    have hxl : x.length ≤ 65536 := hlen x (List.mem_of_getElem? hpj)
    have hst := JD hpj
    have hs1 := hsum (j + 1)
    have hje : j < es.length := (by have := (List.getElem?_eq_some_iff.1 hpj).1; omega)
    obtain ⟨⟨e, n⟩, hej⟩ : ∃ z, es[j]? = some z := ⟨_, List.getElem?_eq_getElem hje⟩
    obtain ⟨q, hq1, hD, hq3⟩ := K9 (o := 0) (by rw [hes]; exact hej)
    rw [hpj] at hq1
    obtain rfl := Option.some.inj hq1
    obtain rfl : n = Cd (ps.take (j + 1)) := by rw [hq3]; omega
    refine JZ (CE (n := 33) (env := [(12, d), (0, .func k #[] caps), (1, .pointer (some ⟨g, 0, none⟩)), (2, .pointer (some ⟨gy, 0, none⟩)), (8, v8), (9, .int .i64 8), (3, .pointer (some ⟨gh, 0, none⟩)), (4, .pointer (some ⟨ge, 0, none⟩)), (10, .slice A0 y.length c0), (11, .func (.func 164) #[] #[.pointer (some ⟨g8, 0, none⟩)])]) (.normal) k12 k11 (by rw [k14]; rfl) ?_ ?_)
    · rw [k14, k13]
      refine (congrArg (fun t => Fr 33 { tmps := t, defers := [] } _) (?_ : _ = (tm1.setIfInBounds 12 d))).mpr (hf1.put (d := 12) (by decide) _)
      simp
    · intro w0 rs
      rw [k15]
      refine Dm (by kernel_rfl) (by rintro ⟨a, w, h⟩; first | exact h.elim | exact nomatch h.1 | (obtain ⟨_, h, _⟩ := h; exact nomatch h)) ?_
      refine Af Ae rfl ?_
      refine AD ?_
      refine EM 0 rfl k11 ?_
      rw [k16]
      refine DP 1 rfl GI.open_ (fun _ => rfl) ?_; rintro ⟨⟩
      refine D1 ?_
      refine DD (Dm (by kernel_rfl) (by rintro ⟨a, w, h⟩; first | exact h.elim | exact nomatch h.1 | (obtain ⟨_, h, _⟩ := h; exact nomatch h)) ?_)
      refine Af Ae rfl ?_
      refine Am rfl (E9  [] 0 (Aj Tryz.func137 (by kernel_rfl) rfl) (fun w hH => Ii w d x (hH.sl8 5 rfl) (by omega) e 0 hD) rfl rfl rfl (fun _ => rfl) rfl rfl rfl) ?_; rintro ⟨A, c⟩
      refine Af Ae rfl ?_
      refine Am (post := fun gx => [cell gx 34 #[.int .i64 0, .int .u64 0, .int .u64 0, .slice none 0 0, .int .i64 0], Ak 5 1 encB (.slice A e.d.length c) e.d, cell gy 182 #[.func k #[] caps], cell gh 3 #[.int .i64 8], cell ge 3 #[.int .i64 ((Cd (ps.take j)) : Int)], T j, BB L1 (BP r1), Ak 5 1 encB d x]) rfl (BW Bz rfl) ?_; rintro gx
      refine AL (post := fun _ => [cell gx 34 #[.int .i64 e.k, .int .u64 e.t, .int .u64 e.i, .slice A e.d.length c, .int .i64 e.c], Ak 5 1 encB (.slice A e.d.length c) e.d, cell gy 182 #[.func k #[] caps], cell gh 3 #[.int .i64 8], cell ge 3 #[.int .i64 ((Cd (ps.take j)) : Int)], T j, BB L1 (BP r1), Ak 5 1 encB d x]) rfl rfl (AU 0 (v := .agg #[.int .i64 e.k, .int .u64 e.t, .int .u64 e.i, .slice A e.d.length c, .int .i64 e.c]) #[.int .i64 e.k, .int .u64 e.t, .int .u64 e.i, .slice A e.d.length c, .int .i64 e.c] BH.2 rfl rfl rfl rfl rfl rfl rfl rfl rfl) ?_; rintro ⟨⟩
      refine Af Ae rfl ?_
      refine AD (Fb ?_)
      refine DD (Dm (by kernel_rfl) (by rintro ⟨a, w, h⟩; first | exact h.elim | exact nomatch h.1 | (obtain ⟨_, h, _⟩ := h; exact nomatch h)) ?_)
      refine Af Ae rfl ?_
      refine Aa rfl (.int .i64 ((Cd (ps.take j)) : Int)) (fun b w hb hH => AY rfl rfl (Bi Bh rfl) (hH.row 4 rfl) hb) ?_
      refine Aa rfl (.int .i64 8) (fun b w hb hH => AY rfl rfl (Bi Bh rfl) (hH.row 3 rfl) hb) ?_
      refine Af Ae rfl ?_
      refine Aa rfl (.int .i64 (x.length : Int)) (fun b w hb hH => Ez 7 Tryz.underlying30 rfl rfl rfl hH hb) ?_
      refine Aa rfl (.int .i64 ((8 + x.length : Nat) : Int)) (fun b w hb hH => AH rfl rfl rfl rfl (by rw [IntWalk.i64_in _ (by omega)]; omega) hb) ?_
      refine Aa rfl (.int .i64 ((Cd (ps.take (j + 1))) : Int)) (fun b w hb hH => AH rfl rfl rfl rfl (by rw [IntWalk.i64_in _ (by omega)]; omega) hb) ?_
      refine AL (post := fun _ => [cell gx 34 #[.int .i64 e.k, .int .u64 e.t, .int .u64 e.i, .slice A e.d.length c, .int .i64 e.c], Ak 5 1 encB (.slice A e.d.length c) e.d, cell gy 182 #[.func k #[] caps], cell gh 3 #[.int .i64 8], cell ge 3 #[.int .i64 ((Cd (ps.take (j + 1))) : Int)], T j, BB L1 (BP r1), Ak 5 1 encB d x]) rfl rfl (AU 4 (v := .int .i64 ((Cd (ps.take (j + 1))) : Int)) #[.int .i64 ((Cd (ps.take (j + 1))) : Int)] Bh.2 rfl rfl rfl rfl rfl rfl rfl rfl rfl) ?_; rintro ⟨⟩
      refine AD (Fb ?_)
      refine DD ?_
      refine Tt (I3 HS 6 (by rintro ⟨a, w, h⟩; first | exact h.elim | exact nomatch h.1 | (obtain ⟨_, h, _⟩ := h; exact nomatch h)) (by kernel_rfl) ?_)
      refine Af Ae rfl ?_
      refine Aa rfl (.bool false) (fun b w hb hH => AZ rfl rfl rfl (Bu (by omega)) hb) ?_
      refine Af Ae rfl ?_
      refine Aa rfl (.func k #[] caps) (fun b w hb hH => AY rfl rfl (Bi DE rfl) (hH.row 2 rfl) hb) ?_
      refine Aa rfl (.agg #[.int .i64 e.k, .int .u64 e.t, .int .u64 e.i, .slice A e.d.length c, .int .i64 e.c]) (fun b w hb hH => AY rfl rfl (EY (cs := [.int .i64 e.k, .int .u64 e.t, .int .u64 e.i, .slice A e.d.length c, .int .i64 e.c]) BH rfl) (hH.row 0 rfl) hb) ?_
      refine Aa rfl (.int .i64 ((Cd (ps.take (j + 1))) : Int)) (fun b w hb hH => AY rfl rfl (Bi Bh rfl) (hH.row 4 rfl) hb) ?_
      refine MX ?_
      refine E0 (X := Unit) (post := fun _ => [T (j + 1)]) (os' := fun _ => [T (j + 1), cell gx 34 #[.int .i64 e.k, .int .u64 e.t, .int .u64 e.i, .slice A e.d.length c, .int .i64 e.c], cell gy 182 #[.func k #[] caps], cell gh 3 #[.int .i64 8], cell ge 3 #[.int .i64 ((Cd (ps.take (j + 1))) : Int)], BB L1 (BP r1), Ak 5 1 encB d x]) HS [5, 1] (hyy j A c e _ hej) rfl rfl rfl rfl rfl rfl (fun _ => rfl) ?_; rintro ⟨⟩
      refine El HS (by rintro ⟨a, w, h⟩; first | exact h.elim | exact nomatch h.1 | (obtain ⟨_, h, _⟩ := h; exact nomatch h)) (by kernel_rfl) ?_
      refine Af Ae rfl ?_
      refine AD ?_
      refine Fb ?_
      refine Iq rfl ?_
      refine Ir ?_
      refine AW ?_
      refine CN [2, 3, 4, 0] rfl (M4 (Cd (ps.take (j + 1))) (T (j + 1))) rfl ?_
      exact FE [2, 0] rfl rfl
  intro D aT wT hD hD0 hd hF hH
  obtain ⟨_, hH⟩ := Fc 0 rfl GI.open_ hH
  exact K8 (e := .normal) rfl (fun w' h => AC (X := Unit) (val := fun _ => .tuple #[]) (post := fun _ => [T N, Ak 5 1 encB (.slice A0 y.length c0) y, cell g 30 #[.slice A0 y.length c0]]) (os := [cell gy 182 #[.func k #[] caps], cell gh 3 #[.int .i64 8], cell ge 3 #[.int .i64 ((Cd (ps.take N)) : Int)], T N, Ak 5 1 encB (.slice A9 y.length c9) y, cell g8 30 #[.slice A9 y.length c9], Ak 5 1 encB (.slice A0 y.length c0) y, cell g 30 #[.slice A0 y.length c0]]) () rfl [3, 6, 7] rfl h Ed) (by simp) D aT wT hD hD0 hd hF hH
theorem WB (k : Fn) (caps : Array Value) (g : Nat) (T : Nat → Ass) {A0 : Option Addr} {c0 : Nat} {y : List UInt8} {ps : List (List UInt8)} {es : List (EntD × Nat)} {N : Nat} (hl : y.length ≤ 137438953472) (hr : (CK y).1 = ps) (hes : FN 0 ps = es) (hN : es.length = N) (hNp : N < ps.length) (hyy : ∀ (j : Nat) (A : Option Addr) (c : Nat) (e : EntD) (n : Nat), es[j]? = some (e, n) → CQ Tryz.prog (.func k #[] caps) [.agg #[.int .i64 e.k, .int .u64 e.t, .int .u64 e.i, .slice A e.d.length c, .int .i64 e.c], .int .i64 (n : Int)] [T j, Ak 5 1 encB (.slice A e.d.length c) e.d] (fun _ : Unit => .bool true) (fun _ : Unit => [T (j + 1)])) : AP Tryz.prog 135 #[.func k #[] caps, .pointer (some ⟨g, 0, none⟩)] [T 0, Ak 5 1 encB (.slice A0 y.length c0) y, cell g 30 #[.slice A0 y.length c0]] (fun (_ : Unit) => .tuple #[]) (fun (_ : Unit) => [T N, Ak 5 1 encB (.slice A0 y.length c0) y, cell g 30 #[.slice A0 y.length c0]]) := by
  refine JC (args := [.func k #[] caps, .pointer (some ⟨g, 0, none⟩)]) 33 Tryz.func135 rfl rfl rfl ?_; intro w rs
  have hle := HE ps 0
  rw [hes] at hle
  have hlen : ∀ x, x ∈ ps → x.length ≤ 65536 := by have h7 := Im y.length y; change ∀ x, x ∈ (CK y).1 → x.length ≤ 65536 at h7; rwa [hr] at h7
  have hsum : ∀ j, Cd (ps.take j) ≤ y.length := fun j => by have h5 := JE y.length y; have h6 := MV y.length y; change (CK y).2 = Cd (CK y).1 at h5; change (CK y).2 ≤ y.length at h6; have h7 := QI (CK y).1 j; rw [hr] at h7 h5; omega
  refine Ad ?_
  refine Af Ae rfl ?_
  refine Am (post := fun gy => [cell gy 182 #[.func k #[] caps], T 0, Ak 5 1 encB (.slice A0 y.length c0) y, cell g 30 #[.slice A0 y.length c0]]) rfl (CD (cs := #[.func k #[] caps]) rfl rfl rfl) ?_; rintro gy
  refine Ab (Ad ?_)
  refine Af Ae rfl ?_
  refine Am (post := fun v8 => [Ak 5 1 encB v8 (BZ []), cell gy 182 #[.func k #[] caps], T 0, Ak 5 1 encB (.slice A0 y.length c0) y, cell g 30 #[.slice A0 y.length c0]]) rfl (E9 (os' := fun v8 => [Ak 5 1 encB v8 (BZ []), cell gy 182 #[.func k #[] caps], T 0, Ak 5 1 encB (.slice A0 y.length c0) y, cell g 30 #[.slice A0 y.length c0]]) [] 0 (Aj Tryz.func98 (by kernel_rfl) rfl) (fun w hH => JX w (Hx w) (by simp) rfl) rfl rfl rfl (fun _ => rfl) rfl rfl rfl) ?_; rintro v8
  refine Aa rfl (.int .i64 8) (fun b w hb hH => QJ 0 Tryz.underlying30 rfl rfl rfl hH hb) ?_
  refine Am (post := fun gh => [cell gh 3 #[.int .i64 0], Ak 5 1 encB v8 (BZ []), cell gy 182 #[.func k #[] caps], T 0, Ak 5 1 encB (.slice A0 y.length c0) y, cell g 30 #[.slice A0 y.length c0]]) rfl (BW MO rfl) ?_; rintro gh
  refine Am (post := fun ge => [cell ge 3 #[.int .i64 0], cell gh 3 #[.int .i64 0], Ak 5 1 encB v8 (BZ []), cell gy 182 #[.func k #[] caps], T 0, Ak 5 1 encB (.slice A0 y.length c0) y, cell g 30 #[.slice A0 y.length c0]]) rfl (BW MO rfl) ?_; rintro ge
  refine AL (post := fun _ => [cell ge 3 #[.int .i64 0], cell gh 3 #[.int .i64 8], Ak 5 1 encB v8 (BZ []), cell gy 182 #[.func k #[] caps], T 0, Ak 5 1 encB (.slice A0 y.length c0) y, cell g 30 #[.slice A0 y.length c0]]) rfl rfl (AU 1 (v := .int .i64 8) #[.int .i64 8] Bh.2 rfl rfl rfl rfl rfl rfl rfl rfl rfl) ?_; rintro ⟨⟩
  refine AL (post := fun _ => [cell ge 3 #[.int .i64 0], cell gh 3 #[.int .i64 8], Ak 5 1 encB v8 (BZ []), cell gy 182 #[.func k #[] caps], T 0, Ak 5 1 encB (.slice A0 y.length c0) y, cell g 30 #[.slice A0 y.length c0]]) rfl rfl (AU 0 (v := .int .i64 0) #[.int .i64 0] Bh.2 rfl rfl rfl rfl rfl rfl rfl rfl rfl) ?_; rintro ⟨⟩
  refine Ab ?_
  refine AN.leave [2] rfl rfl ?_
  refine Bg [2, 1, 0, 3] rfl (Tz (ps := ps) (T 0)) rfl ?_
  refine Ad ?_
  refine Af Ae rfl ?_
  refine Aa rfl (.slice A0 y.length c0) (fun b w hb hH => AY rfl rfl (Bi CS rfl) (hH.row 2 rfl) hb) ?_
  refine Am rfl (Au  [1] 0 (Aj Tryz.func136 (by kernel_rfl) rfl) (Oi DI hl) rfl rfl rfl (fun _ => rfl) rfl rfl rfl) ?_; rintro ⟨g8, w8⟩
  refine Ab (AQ ?_)
  refine AN.fact 1 rfl (fun _ h => Ak.is h) ?_; rintro ⟨A9, c9, rfl⟩
  refine AN.keep (env' := [(0, .func k #[] caps), (1, .pointer (some ⟨g, 0, none⟩)), (2, .pointer (some ⟨gy, 0, none⟩)), (8, v8), (9, .int .i64 8), (3, .pointer (some ⟨gh, 0, none⟩)), (4, .pointer (some ⟨ge, 0, none⟩)), (10, .slice A0 y.length c0), (11, .func (.func 164) #[] #[.pointer (some ⟨g8, 0, none⟩)])]) ⟨rfl, rfl, rfl, rfl, rfl, rfl, rfl, rfl, rfl, trivial⟩ ?_
  refine AN.mid [cell g8 30 #[.slice A9 y.length c9], Ak 5 1 encB (.slice A9 y.length c9) y, GI gy gh ge (.func k #[] caps) (Cd (ps.take 0)) (T 0), Ak 5 1 encB (.slice A0 y.length c0) y, cell g 30 #[.slice A0 y.length c0]] (.refl _) ?_
  refine Fi (caps := [.pointer (some ⟨g8, 0, none⟩)]) (post := [GI gy gh ge (.func k #[] caps) (Cd (ps.take (N + 1))) (T N), Ak 5 1 encB (.slice A9 y.length c9) y, cell g8 30 #[.slice A9 y.length c9]]) (os' := [GI gy gh ge (.func k #[] caps) (Cd (ps.take (N + 1))) (T N), Ak 5 1 encB (.slice A9 y.length c9) y, cell g8 30 #[.slice A9 y.length c9], Ak 5 1 encB (.slice A0 y.length c0) y, cell g 30 #[.slice A0 y.length c0]]) (.ret) [2, 1, 0] rfl (Aj Tryz.func164 (by kernel_rfl) rfl) (fun L1 fn1 tm1 hf1 r1 k11 k12 k13 k14 k15 k16 => Mg (Xf (N := N) (.yield L1) #[] g8 (fun j => EH L1 r1 (GI gy gh ge (.func k #[] caps) (Cd (ps.take j)) (T j))) (EH L1 (Is .ret r1) (GI gy gh ge (.func k #[] caps) (Cd (ps.take (N + 1))) (T N))) hl hr hlen hNp ?_ ?_)) rfl rfl rfl ?_
  · skip
    intro j x d hpj hjN 
    have hxl : x.length ≤ 65536 := hlen x (List.mem_of_getElem? hpj)
    have hst := JD hpj
    have hs1 := hsum (j + 1)
    have hje : j < es.length := (by omega)
    obtain ⟨⟨e, n⟩, hej⟩ : ∃ z, es[j]? = some z := ⟨_, List.getElem?_eq_getElem hje⟩
    obtain ⟨q, hq1, hD, hq3⟩ := K9 (o := 0) (by rw [hes]; exact hej)
    rw [hpj] at hq1
    obtain rfl := Option.some.inj hq1
    obtain rfl : n = Cd (ps.take (j + 1)) := by rw [hq3]; omega
    refine JZ (CE (n := 33) (env := [(12, d), (0, .func k #[] caps), (1, .pointer (some ⟨g, 0, none⟩)), (2, .pointer (some ⟨gy, 0, none⟩)), (8, v8), (9, .int .i64 8), (3, .pointer (some ⟨gh, 0, none⟩)), (4, .pointer (some ⟨ge, 0, none⟩)), (10, .slice A0 y.length c0), (11, .func (.func 164) #[] #[.pointer (some ⟨g8, 0, none⟩)])]) (.normal) k12 k11 (by rw [k14]; rfl) ?_ ?_)
    · rw [k14, k13]
      refine (congrArg (fun t => Fr 33 { tmps := t, defers := [] } _) (?_ : _ = (tm1.setIfInBounds 12 d))).mpr (hf1.put (d := 12) (by decide) _)
      simp
    · intro w0 rs
      rw [k15]
      refine Dm (by kernel_rfl) (by rintro ⟨a, w, h⟩; first | exact h.elim | exact nomatch h.1 | (obtain ⟨_, h, _⟩ := h; exact nomatch h)) ?_
      refine Af Ae rfl ?_
      refine AD ?_
      refine EM 0 rfl k11 ?_
      rw [k16]
      refine DP 1 rfl GI.open_ (fun _ => rfl) ?_; rintro ⟨⟩
      refine D1 ?_
      refine DD (Dm (by kernel_rfl) (by rintro ⟨a, w, h⟩; first | exact h.elim | exact nomatch h.1 | (obtain ⟨_, h, _⟩ := h; exact nomatch h)) ?_)
      refine Af Ae rfl ?_
      refine Am rfl (E9  [] 0 (Aj Tryz.func137 (by kernel_rfl) rfl) (fun w hH => Ii w d x (hH.sl8 5 rfl) (by omega) e 0 hD) rfl rfl rfl (fun _ => rfl) rfl rfl rfl) ?_; rintro ⟨A, c⟩
      refine Af Ae rfl ?_
      refine Am (post := fun gx => [cell gx 34 #[.int .i64 0, .int .u64 0, .int .u64 0, .slice none 0 0, .int .i64 0], Ak 5 1 encB (.slice A e.d.length c) e.d, cell gy 182 #[.func k #[] caps], cell gh 3 #[.int .i64 8], cell ge 3 #[.int .i64 ((Cd (ps.take j)) : Int)], T j, BB L1 (BP r1), Ak 5 1 encB d x]) rfl (BW Bz rfl) ?_; rintro gx
      refine AL (post := fun _ => [cell gx 34 #[.int .i64 e.k, .int .u64 e.t, .int .u64 e.i, .slice A e.d.length c, .int .i64 e.c], Ak 5 1 encB (.slice A e.d.length c) e.d, cell gy 182 #[.func k #[] caps], cell gh 3 #[.int .i64 8], cell ge 3 #[.int .i64 ((Cd (ps.take j)) : Int)], T j, BB L1 (BP r1), Ak 5 1 encB d x]) rfl rfl (AU 0 (v := .agg #[.int .i64 e.k, .int .u64 e.t, .int .u64 e.i, .slice A e.d.length c, .int .i64 e.c]) #[.int .i64 e.k, .int .u64 e.t, .int .u64 e.i, .slice A e.d.length c, .int .i64 e.c] BH.2 rfl rfl rfl rfl rfl rfl rfl rfl rfl) ?_; rintro ⟨⟩
      refine Af Ae rfl ?_
      refine AD (Fb ?_)
      refine DD (Dm (by kernel_rfl) (by rintro ⟨a, w, h⟩; first | exact h.elim | exact nomatch h.1 | (obtain ⟨_, h, _⟩ := h; exact nomatch h)) ?_)
      refine Af Ae rfl ?_
      refine Aa rfl (.int .i64 ((Cd (ps.take j)) : Int)) (fun b w hb hH => AY rfl rfl (Bi Bh rfl) (hH.row 4 rfl) hb) ?_
      refine Aa rfl (.int .i64 8) (fun b w hb hH => AY rfl rfl (Bi Bh rfl) (hH.row 3 rfl) hb) ?_
      refine Af Ae rfl ?_
      refine Aa rfl (.int .i64 (x.length : Int)) (fun b w hb hH => Ez 7 Tryz.underlying30 rfl rfl rfl hH hb) ?_
      refine Aa rfl (.int .i64 ((8 + x.length : Nat) : Int)) (fun b w hb hH => AH rfl rfl rfl rfl (by rw [IntWalk.i64_in _ (by omega)]; omega) hb) ?_
      refine Aa rfl (.int .i64 ((Cd (ps.take (j + 1))) : Int)) (fun b w hb hH => AH rfl rfl rfl rfl (by rw [IntWalk.i64_in _ (by omega)]; omega) hb) ?_
      refine AL (post := fun _ => [cell gx 34 #[.int .i64 e.k, .int .u64 e.t, .int .u64 e.i, .slice A e.d.length c, .int .i64 e.c], Ak 5 1 encB (.slice A e.d.length c) e.d, cell gy 182 #[.func k #[] caps], cell gh 3 #[.int .i64 8], cell ge 3 #[.int .i64 ((Cd (ps.take (j + 1))) : Int)], T j, BB L1 (BP r1), Ak 5 1 encB d x]) rfl rfl (AU 4 (v := .int .i64 ((Cd (ps.take (j + 1))) : Int)) #[.int .i64 ((Cd (ps.take (j + 1))) : Int)] Bh.2 rfl rfl rfl rfl rfl rfl rfl rfl rfl) ?_; rintro ⟨⟩
      refine AD (Fb ?_)
      refine DD ?_
      refine Tt (I3 HS 6 (by rintro ⟨a, w, h⟩; first | exact h.elim | exact nomatch h.1 | (obtain ⟨_, h, _⟩ := h; exact nomatch h)) (by kernel_rfl) ?_)
      refine Af Ae rfl ?_
      refine Aa rfl (.bool false) (fun b w hb hH => AZ rfl rfl rfl (Bu (by omega)) hb) ?_
      refine Af Ae rfl ?_
      refine Aa rfl (.func k #[] caps) (fun b w hb hH => AY rfl rfl (Bi DE rfl) (hH.row 2 rfl) hb) ?_
      refine Aa rfl (.agg #[.int .i64 e.k, .int .u64 e.t, .int .u64 e.i, .slice A e.d.length c, .int .i64 e.c]) (fun b w hb hH => AY rfl rfl (EY (cs := [.int .i64 e.k, .int .u64 e.t, .int .u64 e.i, .slice A e.d.length c, .int .i64 e.c]) BH rfl) (hH.row 0 rfl) hb) ?_
      refine Aa rfl (.int .i64 ((Cd (ps.take (j + 1))) : Int)) (fun b w hb hH => AY rfl rfl (Bi Bh rfl) (hH.row 4 rfl) hb) ?_
      refine MX ?_
      refine E0 (X := Unit) (post := fun _ => [T (j + 1)]) (os' := fun _ => [T (j + 1), cell gx 34 #[.int .i64 e.k, .int .u64 e.t, .int .u64 e.i, .slice A e.d.length c, .int .i64 e.c], cell gy 182 #[.func k #[] caps], cell gh 3 #[.int .i64 8], cell ge 3 #[.int .i64 ((Cd (ps.take (j + 1))) : Int)], BB L1 (BP r1), Ak 5 1 encB d x]) HS [5, 1] (hyy j A c e _ hej) rfl rfl rfl rfl rfl rfl (fun _ => rfl) ?_; rintro ⟨⟩
      refine El HS (by rintro ⟨a, w, h⟩; first | exact h.elim | exact nomatch h.1 | (obtain ⟨_, h, _⟩ := h; exact nomatch h)) (by kernel_rfl) ?_
      refine Af Ae rfl ?_
      refine AD ?_
      refine Fb ?_
      refine Iq rfl ?_
      refine Ir ?_
      refine AW ?_
      refine CN [2, 3, 4, 0] rfl (M4 (Cd (ps.take (j + 1))) (T (j + 1))) rfl ?_
      exact FE [2, 0] rfl rfl
  · skip
    intro j x d hpj hjN 
    have hxl : x.length ≤ 65536 := hlen x (List.mem_of_getElem? hpj)
    have hst := JD hpj
    have hs1 := hsum (j + 1)
    obtain rfl := hjN
    have hbad : (Ei x).2 ≠ 0 := La (o := 0) (by rw [hes, hN]; exact hpj)
    obtain ⟨e, en, hD⟩ : ∃ e en, Ei x = (e, en) := ⟨_, _, rfl⟩
    rw [hD] at hbad
    have hen : en ≠ 0 := hbad
    refine JZ (CE (n := 33) (env := [(12, d), (0, .func k #[] caps), (1, .pointer (some ⟨g, 0, none⟩)), (2, .pointer (some ⟨gy, 0, none⟩)), (8, v8), (9, .int .i64 8), (3, .pointer (some ⟨gh, 0, none⟩)), (4, .pointer (some ⟨ge, 0, none⟩)), (10, .slice A0 y.length c0), (11, .func (.func 164) #[] #[.pointer (some ⟨g8, 0, none⟩)])]) (.ret) k12 k11 (by rw [k14]; rfl) ?_ ?_)
    · rw [k14, k13]
      refine (congrArg (fun t => Fr 33 { tmps := t, defers := [] } _) (?_ : _ = (tm1.setIfInBounds 12 d))).mpr (hf1.put (d := 12) (by decide) _)
      simp
    · intro w0 rs
      rw [k15]
      refine Dm (by kernel_rfl) (by rintro ⟨a, w, h⟩; first | exact h.elim | exact nomatch h.1 | (obtain ⟨_, h, _⟩ := h; exact nomatch h)) ?_
      refine Af Ae rfl ?_
      refine AD ?_
      refine EM 0 rfl k11 ?_
      rw [k16]
      refine DP 1 rfl GI.open_ (fun _ => rfl) ?_; rintro ⟨⟩
      refine D1 ?_
      refine DD (Dm (by kernel_rfl) (by rintro ⟨a, w, h⟩; first | exact h.elim | exact nomatch h.1 | (obtain ⟨_, h, _⟩ := h; exact nomatch h)) ?_)
      refine Af Ae rfl ?_
      refine Am rfl (E9  [] 0 (Aj Tryz.func137 (by kernel_rfl) rfl) (fun w hH => Ii w d x (hH.sl8 5 rfl) (by omega) e en hD) rfl rfl rfl (fun _ => rfl) rfl rfl rfl) ?_; rintro ⟨A, c⟩
      refine Af Ae rfl ?_
      refine Am (post := fun gx => [cell gx 34 #[.int .i64 0, .int .u64 0, .int .u64 0, .slice none 0 0, .int .i64 0], Ak 5 1 encB (.slice A e.d.length c) e.d, cell gy 182 #[.func k #[] caps], cell gh 3 #[.int .i64 8], cell ge 3 #[.int .i64 ((Cd (ps.take j)) : Int)], T j, BB L1 (BP r1), Ak 5 1 encB d x]) rfl (BW Bz rfl) ?_; rintro gx
      refine AL (post := fun _ => [cell gx 34 #[.int .i64 e.k, .int .u64 e.t, .int .u64 e.i, .slice A e.d.length c, .int .i64 e.c], Ak 5 1 encB (.slice A e.d.length c) e.d, cell gy 182 #[.func k #[] caps], cell gh 3 #[.int .i64 8], cell ge 3 #[.int .i64 ((Cd (ps.take j)) : Int)], T j, BB L1 (BP r1), Ak 5 1 encB d x]) rfl rfl (AU 0 (v := .agg #[.int .i64 e.k, .int .u64 e.t, .int .u64 e.i, .slice A e.d.length c, .int .i64 e.c]) #[.int .i64 e.k, .int .u64 e.t, .int .u64 e.i, .slice A e.d.length c, .int .i64 e.c] BH.2 rfl rfl rfl rfl rfl rfl rfl rfl rfl) ?_; rintro ⟨⟩
      refine Af Ae rfl ?_
      refine AD (Fb ?_)
      refine DD (Dm (by kernel_rfl) (by rintro ⟨a, w, h⟩; first | exact h.elim | exact nomatch h.1 | (obtain ⟨_, h, _⟩ := h; exact nomatch h)) ?_)
      refine Af Ae rfl ?_
      refine Aa rfl (.int .i64 ((Cd (ps.take j)) : Int)) (fun b w hb hH => AY rfl rfl (Bi Bh rfl) (hH.row 4 rfl) hb) ?_
      refine Aa rfl (.int .i64 8) (fun b w hb hH => AY rfl rfl (Bi Bh rfl) (hH.row 3 rfl) hb) ?_
      refine Af Ae rfl ?_
      refine Aa rfl (.int .i64 (x.length : Int)) (fun b w hb hH => Ez 7 Tryz.underlying30 rfl rfl rfl hH hb) ?_
      refine Aa rfl (.int .i64 ((8 + x.length : Nat) : Int)) (fun b w hb hH => AH rfl rfl rfl rfl (by rw [IntWalk.i64_in _ (by omega)]; omega) hb) ?_
      refine Aa rfl (.int .i64 ((Cd (ps.take (j + 1))) : Int)) (fun b w hb hH => AH rfl rfl rfl rfl (by rw [IntWalk.i64_in _ (by omega)]; omega) hb) ?_
      refine AL (post := fun _ => [cell gx 34 #[.int .i64 e.k, .int .u64 e.t, .int .u64 e.i, .slice A e.d.length c, .int .i64 e.c], Ak 5 1 encB (.slice A e.d.length c) e.d, cell gy 182 #[.func k #[] caps], cell gh 3 #[.int .i64 8], cell ge 3 #[.int .i64 ((Cd (ps.take (j + 1))) : Int)], T j, BB L1 (BP r1), Ak 5 1 encB d x]) rfl rfl (AU 4 (v := .int .i64 ((Cd (ps.take (j + 1))) : Int)) #[.int .i64 ((Cd (ps.take (j + 1))) : Int)] Bh.2 rfl rfl rfl rfl rfl rfl rfl rfl rfl) ?_; rintro ⟨⟩
      refine AD (Fb ?_)
      refine DD (Dm (by kernel_rfl) (by rintro ⟨a, w, h⟩; first | exact h.elim | exact nomatch h.1 | (obtain ⟨_, h, _⟩ := h; exact nomatch h)) ?_)
      refine Af Ae rfl ?_
      refine Aa rfl (.bool true) (fun b w hb hH => AZ rfl rfl rfl (D5 (by omega)) hb) ?_
      refine Af Ae rfl ?_
      refine AD (Fb ?_)
      refine Tu rfl ?_
      refine VP ?_
      refine BC ?_
      refine CN [2, 3, 4, 5] rfl (M4 (Cd (ps.take (j + 1))) (T j)) rfl ?_
      exact FE [3, 0] rfl rfl
  intro D aT wT hD hD0 hd hF hH
  obtain ⟨_, hH⟩ := Fc 0 rfl GI.open_ hH
  exact K8 (e := .ret) rfl (fun w' h => AC (X := Unit) (val := fun _ => .tuple #[]) (post := fun _ => [T N, Ak 5 1 encB (.slice A0 y.length c0) y, cell g 30 #[.slice A0 y.length c0]]) (os := [cell gy 182 #[.func k #[] caps], cell gh 3 #[.int .i64 8], cell ge 3 #[.int .i64 ((Cd (ps.take (N + 1))) : Int)], T N, Ak 5 1 encB (.slice A9 y.length c9) y, cell g8 30 #[.slice A9 y.length c9], Ak 5 1 encB (.slice A0 y.length c0) y, cell g 30 #[.slice A0 y.length c0]]) () rfl [3, 6, 7] rfl h Ed) (by simp) D aT wT hD hD0 hd hF hH
end Go.Proofs.YtnknboibmifacaaGreatDoor.Sep
