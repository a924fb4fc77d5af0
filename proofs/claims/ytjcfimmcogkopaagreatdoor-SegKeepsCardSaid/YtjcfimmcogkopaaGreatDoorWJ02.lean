/-
  SgC
-/
import Derived.Test.YtjcfimmcogkopaaGreatDoorWH01
import Derived.Test.YtjcfimmcogkopaaGreatDoorWJ01
set_option linter.unusedSimpArgs false
set_option linter.unusedVariables false
set_option maxRecDepth 100000
namespace Go.Proofs.YtjcfimmcogkopaaGreatDoor.Sep
open Go.RowKit
open Go.Proofs.YtjcfimmcogkopaaGreatDoor.Mem (Bb Ci Chg Aw)
def Hd (gy gh ge : Nat) (f : Value) (n : Nat) (X : Ass) : Ass := fun rs => Am [cell gy 167 #[f], cell gh 3 #[.int .i64 8], cell ge 3 #[.int .i64 (n : Int)], X] rs
theorem Hd.open_ {gy gh ge : Nat} {f : Value} {n : Nat} {X : Ass} : ∀ rs, Hd gy gh ge f n X rs → ∃ _ : Unit, Am [cell gy 167 #[f], cell gh 3 #[.int .i64 8], cell ge 3 #[.int .i64 (n : Int)], X] rs := fun _ h => ⟨(), h⟩
theorem NT {gy gh ge : Nat} {f : Value} (n : Nat) (X : Ass) : ∀ rs, Am [cell gy 167 #[f], cell gh 3 #[.int .i64 8], cell ge 3 #[.int .i64 (n : Int)], X] rs → Hd gy gh ge f n X rs := fun _ h => h
theorem UC {gy gh ge : Nat} {f : Value} {ps : List (List UInt8)} (X : Ass) : ∀ rs, Am [cell gy 167 #[f], cell gh 3 #[.int .i64 8], cell ge 3 #[.int .i64 0], X] rs → Hd gy gh ge f (Cp (ps.take 0)) X rs := fun _ h => h
theorem Xm : ((B2 []).length : Int) = 8 := by rw [Gz (by simp)]; rfl
section
variable {P : Program} {n : Nat} {B : Nat → Prop} {w0 w : World} {os : List Ass} {env : List (Nat × Value)} {o : Oper} {act : Act}
theorem RG (i : Nat) {t e : TypeId} {v : Value} (hu : P.underlying t = some (.slice e)) (hi : os[i]? = some (Aj e 1 encB v (B2 []))) {x : Operand} (ho : o.op = .call { callee := .builtin .len, args := #[x], argTypes := #[t] }) (hx : evs env x = some v) (hH : Hp B w0 w os) (hF : Fr n act env) : (execOp act.eval o).run P w = .ok (.value (.int .i64 8)) w := by
 have h := Cv i hu hi ho hx hH hF
 rw [Xm] at h
 exact h
end
theorem Xn (k : Fn) (caps : Array Value) (g : Nat) (T : Nat → Ass) {A0 : Option Addr} {c0 : Nat} {y : List UInt8} {ps : List (List UInt8)} {es : List (EntD × Nat)} {N : Nat} (hl : y.length ≤ 137438953472) (hr : (Db y).1 = ps) (hes : F6 0 ps = es) (hN : es.length = N) (hNp : ps.length = N) (hyy : ∀ (j : Nat) (A : Option Addr) (c : Nat) (e : EntD) (n : Nat), es[j]? = some (e, n) → Dn Tryz.prog (.func k #[] caps) [.agg #[.int .i64 e.k, .int .u64 e.t, .int .u64 e.i, .slice A e.d.length c, .int .i64 e.c], .int .i64 (n : Int)] [T j, Aj 5 1 encB (.slice A e.d.length c) e.d] (fun _ : Unit => .bool true) (fun _ : Unit => [T (j + 1)])) : AV Tryz.prog 118 #[.func k #[] caps, .pointer (some ⟨g, 0, none⟩)] [T 0, Aj 5 1 encB (.slice A0 y.length c0) y, cell g 49 #[.slice A0 y.length c0]] (fun (_ : Unit) => .tuple #[]) (fun (_ : Unit) => [T N, Aj 5 1 encB (.slice A0 y.length c0) y, cell g 49 #[.slice A0 y.length c0]]) := by
  refine Ks (args := [.func k #[] caps, .pointer (some ⟨g, 0, none⟩)]) 33 Tryz.func118 rfl rfl rfl ?_; intro w rs
  have hle := Iu ps 0
  rw [hes] at hle
  have hlen : ∀ x, x ∈ ps → x.length ≤ 65536 := by have h7 := I7 y.length y; change ∀ x, x ∈ (Db y).1 → x.length ≤ 65536 at h7; rwa [hr] at h7
  have hsum : ∀ j, Cp (ps.take j) ≤ y.length := fun j => by have h5 := Kv y.length y; have h6 := NP y.length y; change (Db y).2 = Cp (Db y).1 at h5; change (Db y).2 ≤ y.length at h6; have h7 := RF (Db y).1 j; rw [hr] at h7 h5; omega
  refine Ad (Af Ae rfl (Al (post := fun gy => [cell gy 167 #[.func k #[] caps], T 0, Aj 5 1 encB (.slice A0 y.length c0) y, cell g 49 #[.slice A0 y.length c0]]) rfl (CW (cs := #[.func k #[] caps]) rfl rfl rfl) ?_)); rintro gy
  refine Ab (Ad (Af Ae rfl (Al (post := fun v8 => [Aj 5 1 encB v8 (B2 []), cell gy 167 #[.func k #[] caps], T 0, Aj 5 1 encB (.slice A0 y.length c0) y, cell g 49 #[.slice A0 y.length c0]]) rfl (D8 (os' := fun v8 => [Aj 5 1 encB v8 (B2 []), cell gy 167 #[.func k #[] caps], T 0, Aj 5 1 encB (.slice A0 y.length c0) y, cell g 49 #[.slice A0 y.length c0]]) [] 0 (Ai Tryz.func115 (by kernel_rfl) rfl) (fun w hH => KL w (Ip w) (by simp) rfl) rfl rfl rfl (fun _ => rfl) rfl rfl rfl) ?_))); rintro v8
  refine Aa rfl (.int .i64 8) (fun b w hb hH => RG 0 Tryz.underlying49 rfl rfl rfl hH hb) (Al (post := fun gh => [cell gh 3 #[.int .i64 0], Aj 5 1 encB v8 (B2 []), cell gy 167 #[.func k #[] caps], T 0, Aj 5 1 encB (.slice A0 y.length c0) y, cell g 49 #[.slice A0 y.length c0]]) rfl (Cl ND rfl) ?_); rintro gh
  refine Al (post := fun ge => [cell ge 3 #[.int .i64 0], cell gh 3 #[.int .i64 0], Aj 5 1 encB v8 (B2 []), cell gy 167 #[.func k #[] caps], T 0, Aj 5 1 encB (.slice A0 y.length c0) y, cell g 49 #[.slice A0 y.length c0]]) rfl (Cl ND rfl) ?_; rintro ge
  refine AR (post := fun _ => [cell ge 3 #[.int .i64 0], cell gh 3 #[.int .i64 8], Aj 5 1 encB v8 (B2 []), cell gy 167 #[.func k #[] caps], T 0, Aj 5 1 encB (.slice A0 y.length c0) y, cell g 49 #[.slice A0 y.length c0]]) rfl rfl (AZ 1 (v := .int .i64 8) #[.int .i64 8] Br.2 rfl rfl rfl rfl rfl rfl rfl rfl rfl) ?_; rintro ⟨⟩
  refine AR (post := fun _ => [cell ge 3 #[.int .i64 0], cell gh 3 #[.int .i64 8], Aj 5 1 encB v8 (B2 []), cell gy 167 #[.func k #[] caps], T 0, Aj 5 1 encB (.slice A0 y.length c0) y, cell g 49 #[.slice A0 y.length c0]]) rfl rfl (AZ 0 (v := .int .i64 0) #[.int .i64 0] Br.2 rfl rfl rfl rfl rfl rfl rfl rfl rfl) ?_; rintro ⟨⟩
  refine Ab (AL.leave [2] rfl rfl (Bj [2, 1, 0, 3] rfl (UC (ps := ps) (T 0)) rfl (Ad (Af Ae rfl (Aa rfl (.slice A0 y.length c0) (fun b w hb hH => Ba rfl rfl (Bl CI rfl) (hH.row 2 rfl) hb) (Al rfl (As  [1] 0 (Ai Tryz.func119 (by kernel_rfl) rfl) (Pb D7 hl) rfl rfl rfl (fun _ => rfl) rfl rfl rfl) ?_)))))); rintro ⟨g8, w8⟩
  refine Ab (AK (AL.fact 1 rfl (fun _ h => Aj.is h) ?_)); rintro ⟨A9, c9, rfl⟩
  refine AL.keep (env' := [(0, .func k #[] caps), (1, .pointer (some ⟨g, 0, none⟩)), (2, .pointer (some ⟨gy, 0, none⟩)), (8, v8), (9, .int .i64 8), (3, .pointer (some ⟨gh, 0, none⟩)), (4, .pointer (some ⟨ge, 0, none⟩)), (10, .slice A0 y.length c0), (11, .func (.func 145) #[] #[.pointer (some ⟨g8, 0, none⟩)])]) ⟨rfl, rfl, rfl, rfl, rfl, rfl, rfl, rfl, rfl, trivial⟩ (AL.mid [cell g8 49 #[.slice A9 y.length c9], Aj 5 1 encB (.slice A9 y.length c9) y, Hd gy gh ge (.func k #[] caps) (Cp (ps.take 0)) (T 0), Aj 5 1 encB (.slice A0 y.length c0) y, cell g 49 #[.slice A0 y.length c0]] (.refl _) ?_)
  refine FF (caps := [.pointer (some ⟨g8, 0, none⟩)]) (post := [Hd gy gh ge (.func k #[] caps) (Cp (ps.take N)) (T N), Aj 5 1 encB (.slice A9 y.length c9) y, cell g8 49 #[.slice A9 y.length c9]]) (os' := [Hd gy gh ge (.func k #[] caps) (Cp (ps.take N)) (T N), Aj 5 1 encB (.slice A9 y.length c9) y, cell g8 49 #[.slice A9 y.length c9], Aj 5 1 encB (.slice A0 y.length c0) y, cell g 49 #[.slice A0 y.length c0]]) (.normal) [2, 1, 0] rfl (Ai Tryz.func145 (by kernel_rfl) rfl) (fun L1 fn1 tm1 hf1 r1 k11 k12 k13 k14 k15 k16 => M8 (Yb (.yield L1) #[] g8 (fun j => Ed L1 r1 (Hd gy gh ge (.func k #[] caps) (Cp (ps.take j)) (T j))) hl hr hlen hNp ?_)) rfl rfl rfl ?_
  intro j x d hpj 
  have hxl : x.length ≤ 65536 := hlen x (List.mem_of_getElem? hpj)
  have hst := Ku hpj
  have hs1 := hsum (j + 1)
  have hje : j < es.length := (by have := (List.getElem?_eq_some_iff.1 hpj).1; omega)
  obtain ⟨⟨e, n⟩, hej⟩ : ∃ z, es[j]? = some z := ⟨_, List.getElem?_eq_getElem hje⟩
  obtain ⟨q, hq1, hD, hq3⟩ := Mc (o := 0) (by rw [hes]; exact hej)
  rw [hpj] at hq1
  obtain rfl := Option.some.inj hq1
  obtain rfl : n = Cp (ps.take (j + 1)) := by rw [hq3]; omega
  refine KO (CZ (n := 33) (env := [(12, d), (0, .func k #[] caps), (1, .pointer (some ⟨g, 0, none⟩)), (2, .pointer (some ⟨gy, 0, none⟩)), (8, v8), (9, .int .i64 8), (3, .pointer (some ⟨gh, 0, none⟩)), (4, .pointer (some ⟨ge, 0, none⟩)), (10, .slice A0 y.length c0), (11, .func (.func 145) #[] #[.pointer (some ⟨g8, 0, none⟩)])]) (.normal) k12 k11 (by rw [k14]; rfl) ?_ ?_)
  · rw [k14, k13]
    refine (congrArg (fun t => Fr 33 { tmps := t, defers := [] } _) (?_ : _ = (tm1.setIfInBounds 12 d))).mpr (hf1.put (d := 12) (by decide) _)
    simp
  · intro w0 rs
    rw [k15]
    refine Dz (by kernel_rfl) (by rintro ⟨a, w, h⟩; first | exact h.elim | exact nomatch h.1 | (obtain ⟨_, h, _⟩ := h; exact nomatch h)) (Af Ae rfl (AG (E9 0 rfl k11 ?_)))
    rw [k16]
    refine Er 1 rfl Hd.open_ (fun _ => rfl) ?_; rintro ⟨⟩
    refine Eo (DO (Dz (by kernel_rfl) (by rintro ⟨a, w, h⟩; first | exact h.elim | exact nomatch h.1 | (obtain ⟨_, h, _⟩ := h; exact nomatch h)) (Af Ae rfl (Al rfl (D8  [] 0 (Ai Tryz.func120 (by kernel_rfl) rfl) (fun w hH => I3 w d x (hH.sl8 5 rfl) (by omega) e 0 hD) rfl rfl rfl (fun _ => rfl) rfl rfl rfl) ?_)))); rintro ⟨A, c⟩
    refine Af Ae rfl (Al (post := fun gx => [cell gx 53 #[.int .i64 0, .int .u64 0, .int .u64 0, .slice none 0 0, .int .i64 0], Aj 5 1 encB (.slice A e.d.length c) e.d, cell gy 167 #[.func k #[] caps], cell gh 3 #[.int .i64 8], cell ge 3 #[.int .i64 ((Cp (ps.take j)) : Int)], T j, BL L1 (B7 r1), Aj 5 1 encB d x]) rfl (Cl BQ rfl) ?_); rintro gx
    refine AR (post := fun _ => [cell gx 53 #[.int .i64 e.k, .int .u64 e.t, .int .u64 e.i, .slice A e.d.length c, .int .i64 e.c], Aj 5 1 encB (.slice A e.d.length c) e.d, cell gy 167 #[.func k #[] caps], cell gh 3 #[.int .i64 8], cell ge 3 #[.int .i64 ((Cp (ps.take j)) : Int)], T j, BL L1 (B7 r1), Aj 5 1 encB d x]) rfl rfl (AZ 0 (v := .agg #[.int .i64 e.k, .int .u64 e.t, .int .u64 e.i, .slice A e.d.length c, .int .i64 e.c]) #[.int .i64 e.k, .int .u64 e.t, .int .u64 e.i, .slice A e.d.length c, .int .i64 e.c] B0.2 rfl rfl rfl rfl rfl rfl rfl rfl rfl) ?_; rintro ⟨⟩
    refine Af Ae rfl (AG (FA (DO (Dz (by kernel_rfl) (by rintro ⟨a, w, h⟩; first | exact h.elim | exact nomatch h.1 | (obtain ⟨_, h, _⟩ := h; exact nomatch h)) (Af Ae rfl (Aa rfl (.int .i64 ((Cp (ps.take j)) : Int)) (fun b w hb hH => Ba rfl rfl (Bl Br rfl) (hH.row 4 rfl) hb) (Aa rfl (.int .i64 8) (fun b w hb hH => Ba rfl rfl (Bl Br rfl) (hH.row 3 rfl) hb) (Af Ae rfl (Aa rfl (.int .i64 (x.length : Int)) (fun b w hb hH => Cv 7 Tryz.underlying49 rfl rfl rfl hH hb) (Aa rfl (.int .i64 ((8 + x.length : Nat) : Int)) (fun b w hb hH => AJ rfl rfl rfl rfl (by rw [IntWalk.i64_in _ (by omega)]; omega) hb) (Aa rfl (.int .i64 ((Cp (ps.take (j + 1))) : Int)) (fun b w hb hH => AJ rfl rfl rfl rfl (by rw [IntWalk.i64_in _ (by omega)]; omega) hb) ?_)))))))))))
    refine AR (post := fun _ => [cell gx 53 #[.int .i64 e.k, .int .u64 e.t, .int .u64 e.i, .slice A e.d.length c, .int .i64 e.c], Aj 5 1 encB (.slice A e.d.length c) e.d, cell gy 167 #[.func k #[] caps], cell gh 3 #[.int .i64 8], cell ge 3 #[.int .i64 ((Cp (ps.take (j + 1))) : Int)], T j, BL L1 (B7 r1), Aj 5 1 encB d x]) rfl rfl (AZ 4 (v := .int .i64 ((Cp (ps.take (j + 1))) : Int)) #[.int .i64 ((Cp (ps.take (j + 1))) : Int)] Br.2 rfl rfl rfl rfl rfl rfl rfl rfl rfl) ?_; rintro ⟨⟩
    refine AG (FA (DO (Uv (KN IE 6 (by rintro ⟨a, w, h⟩; first | exact h.elim | exact nomatch h.1 | (obtain ⟨_, h, _⟩ := h; exact nomatch h)) (by kernel_rfl) (Af Ae rfl (Aa rfl (.bool false) (fun b w hb hH => A5 rfl rfl rfl (Bn (by omega)) hb) (Af Ae rfl (Aa rfl (.func k #[] caps) (fun b w hb hH => Ba rfl rfl (Bl DY rfl) (hH.row 2 rfl) hb) (Aa rfl (.agg #[.int .i64 e.k, .int .u64 e.t, .int .u64 e.i, .slice A e.d.length c, .int .i64 e.c]) (fun b w hb hH => Ba rfl rfl (Ft (cs := [.int .i64 e.k, .int .u64 e.t, .int .u64 e.i, .slice A e.d.length c, .int .i64 e.c]) B0 rfl) (hH.row 0 rfl) hb) (Aa rfl (.int .i64 ((Cp (ps.take (j + 1))) : Int)) (fun b w hb hH => Ba rfl rfl (Bl Br rfl) (hH.row 4 rfl) hb) (O9 ?_)))))))))))
    refine F5 (X := Unit) (post := fun _ => [T (j + 1)]) (os' := fun _ => [T (j + 1), cell gx 53 #[.int .i64 e.k, .int .u64 e.t, .int .u64 e.i, .slice A e.d.length c, .int .i64 e.c], cell gy 167 #[.func k #[] caps], cell gh 3 #[.int .i64 8], cell ge 3 #[.int .i64 ((Cp (ps.take (j + 1))) : Int)], BL L1 (B7 r1), Aj 5 1 encB d x]) IE [5, 1] (hyy j A c e _ hej) rfl rfl rfl rfl rfl rfl (fun _ => rfl) ?_; rintro ⟨⟩
    refine E3 IE (by rintro ⟨a, w, h⟩; first | exact h.elim | exact nomatch h.1 | (obtain ⟨_, h, _⟩ := h; exact nomatch h)) (by kernel_rfl) (Af Ae rfl (AG (FA (I9 rfl (Ja (A6 (CU [2, 3, 4, 0] rfl (NT (Cp (ps.take (j + 1))) (T (j + 1))) rfl ?_)))))))
    exact Fm [2, 0] rfl rfl
  intro D aT wT hD hD0 hd hF hH
  obtain ⟨_, hH⟩ := FB 0 rfl Hd.open_ hH
  exact Kt (e := .normal) rfl (fun w' h => AH (X := Unit) (val := fun _ => .tuple #[]) (post := fun _ => [T N, Aj 5 1 encB (.slice A0 y.length c0) y, cell g 49 #[.slice A0 y.length c0]]) (os := [cell gy 167 #[.func k #[] caps], cell gh 3 #[.int .i64 8], cell ge 3 #[.int .i64 ((Cp (ps.take N)) : Int)], T N, Aj 5 1 encB (.slice A9 y.length c9) y, cell g8 49 #[.slice A9 y.length c9], Aj 5 1 encB (.slice A0 y.length c0) y, cell g 49 #[.slice A0 y.length c0]]) () rfl [3, 6, 7] rfl h El) (by simp) D aT wT hD hD0 hd hF hH
theorem Xo (k : Fn) (caps : Array Value) (g : Nat) (T : Nat → Ass) {A0 : Option Addr} {c0 : Nat} {y : List UInt8} {ps : List (List UInt8)} {es : List (EntD × Nat)} {N : Nat} (hl : y.length ≤ 137438953472) (hr : (Db y).1 = ps) (hes : F6 0 ps = es) (hN : es.length = N) (hNp : N < ps.length) (hyy : ∀ (j : Nat) (A : Option Addr) (c : Nat) (e : EntD) (n : Nat), es[j]? = some (e, n) → Dn Tryz.prog (.func k #[] caps) [.agg #[.int .i64 e.k, .int .u64 e.t, .int .u64 e.i, .slice A e.d.length c, .int .i64 e.c], .int .i64 (n : Int)] [T j, Aj 5 1 encB (.slice A e.d.length c) e.d] (fun _ : Unit => .bool true) (fun _ : Unit => [T (j + 1)])) : AV Tryz.prog 118 #[.func k #[] caps, .pointer (some ⟨g, 0, none⟩)] [T 0, Aj 5 1 encB (.slice A0 y.length c0) y, cell g 49 #[.slice A0 y.length c0]] (fun (_ : Unit) => .tuple #[]) (fun (_ : Unit) => [T N, Aj 5 1 encB (.slice A0 y.length c0) y, cell g 49 #[.slice A0 y.length c0]]) := by
  refine Ks (args := [.func k #[] caps, .pointer (some ⟨g, 0, none⟩)]) 33 Tryz.func118 rfl rfl rfl ?_; intro w rs
  have hle := Iu ps 0
  rw [hes] at hle
  have hlen : ∀ x, x ∈ ps → x.length ≤ 65536 := by have h7 := I7 y.length y; change ∀ x, x ∈ (Db y).1 → x.length ≤ 65536 at h7; rwa [hr] at h7
  have hsum : ∀ j, Cp (ps.take j) ≤ y.length := fun j => by have h5 := Kv y.length y; have h6 := NP y.length y; change (Db y).2 = Cp (Db y).1 at h5; change (Db y).2 ≤ y.length at h6; have h7 := RF (Db y).1 j; rw [hr] at h7 h5; omega
  refine Ad (Af Ae rfl (Al (post := fun gy => [cell gy 167 #[.func k #[] caps], T 0, Aj 5 1 encB (.slice A0 y.length c0) y, cell g 49 #[.slice A0 y.length c0]]) rfl (CW (cs := #[.func k #[] caps]) rfl rfl rfl) ?_)); rintro gy
  refine Ab (Ad (Af Ae rfl (Al (post := fun v8 => [Aj 5 1 encB v8 (B2 []), cell gy 167 #[.func k #[] caps], T 0, Aj 5 1 encB (.slice A0 y.length c0) y, cell g 49 #[.slice A0 y.length c0]]) rfl (D8 (os' := fun v8 => [Aj 5 1 encB v8 (B2 []), cell gy 167 #[.func k #[] caps], T 0, Aj 5 1 encB (.slice A0 y.length c0) y, cell g 49 #[.slice A0 y.length c0]]) [] 0 (Ai Tryz.func115 (by kernel_rfl) rfl) (fun w hH => KL w (Ip w) (by simp) rfl) rfl rfl rfl (fun _ => rfl) rfl rfl rfl) ?_))); rintro v8
  refine Aa rfl (.int .i64 8) (fun b w hb hH => RG 0 Tryz.underlying49 rfl rfl rfl hH hb) (Al (post := fun gh => [cell gh 3 #[.int .i64 0], Aj 5 1 encB v8 (B2 []), cell gy 167 #[.func k #[] caps], T 0, Aj 5 1 encB (.slice A0 y.length c0) y, cell g 49 #[.slice A0 y.length c0]]) rfl (Cl ND rfl) ?_); rintro gh
  refine Al (post := fun ge => [cell ge 3 #[.int .i64 0], cell gh 3 #[.int .i64 0], Aj 5 1 encB v8 (B2 []), cell gy 167 #[.func k #[] caps], T 0, Aj 5 1 encB (.slice A0 y.length c0) y, cell g 49 #[.slice A0 y.length c0]]) rfl (Cl ND rfl) ?_; rintro ge
  refine AR (post := fun _ => [cell ge 3 #[.int .i64 0], cell gh 3 #[.int .i64 8], Aj 5 1 encB v8 (B2 []), cell gy 167 #[.func k #[] caps], T 0, Aj 5 1 encB (.slice A0 y.length c0) y, cell g 49 #[.slice A0 y.length c0]]) rfl rfl (AZ 1 (v := .int .i64 8) #[.int .i64 8] Br.2 rfl rfl rfl rfl rfl rfl rfl rfl rfl) ?_; rintro ⟨⟩
  refine AR (post := fun _ => [cell ge 3 #[.int .i64 0], cell gh 3 #[.int .i64 8], Aj 5 1 encB v8 (B2 []), cell gy 167 #[.func k #[] caps], T 0, Aj 5 1 encB (.slice A0 y.length c0) y, cell g 49 #[.slice A0 y.length c0]]) rfl rfl (AZ 0 (v := .int .i64 0) #[.int .i64 0] Br.2 rfl rfl rfl rfl rfl rfl rfl rfl rfl) ?_; rintro ⟨⟩
  refine Ab (AL.leave [2] rfl rfl (Bj [2, 1, 0, 3] rfl (UC (ps := ps) (T 0)) rfl (Ad (Af Ae rfl (Aa rfl (.slice A0 y.length c0) (fun b w hb hH => Ba rfl rfl (Bl CI rfl) (hH.row 2 rfl) hb) (Al rfl (As  [1] 0 (Ai Tryz.func119 (by kernel_rfl) rfl) (Pb D7 hl) rfl rfl rfl (fun _ => rfl) rfl rfl rfl) ?_)))))); rintro ⟨g8, w8⟩
  refine Ab (AK (AL.fact 1 rfl (fun _ h => Aj.is h) ?_)); rintro ⟨A9, c9, rfl⟩
  refine AL.keep (env' := [(0, .func k #[] caps), (1, .pointer (some ⟨g, 0, none⟩)), (2, .pointer (some ⟨gy, 0, none⟩)), (8, v8), (9, .int .i64 8), (3, .pointer (some ⟨gh, 0, none⟩)), (4, .pointer (some ⟨ge, 0, none⟩)), (10, .slice A0 y.length c0), (11, .func (.func 145) #[] #[.pointer (some ⟨g8, 0, none⟩)])]) ⟨rfl, rfl, rfl, rfl, rfl, rfl, rfl, rfl, rfl, trivial⟩ (AL.mid [cell g8 49 #[.slice A9 y.length c9], Aj 5 1 encB (.slice A9 y.length c9) y, Hd gy gh ge (.func k #[] caps) (Cp (ps.take 0)) (T 0), Aj 5 1 encB (.slice A0 y.length c0) y, cell g 49 #[.slice A0 y.length c0]] (.refl _) ?_)
  refine FF (caps := [.pointer (some ⟨g8, 0, none⟩)]) (post := [Hd gy gh ge (.func k #[] caps) (Cp (ps.take (N + 1))) (T N), Aj 5 1 encB (.slice A9 y.length c9) y, cell g8 49 #[.slice A9 y.length c9]]) (os' := [Hd gy gh ge (.func k #[] caps) (Cp (ps.take (N + 1))) (T N), Aj 5 1 encB (.slice A9 y.length c9) y, cell g8 49 #[.slice A9 y.length c9], Aj 5 1 encB (.slice A0 y.length c0) y, cell g 49 #[.slice A0 y.length c0]]) (.ret) [2, 1, 0] rfl (Ai Tryz.func145 (by kernel_rfl) rfl) (fun L1 fn1 tm1 hf1 r1 k11 k12 k13 k14 k15 k16 => M8 (XW (N := N) (.yield L1) #[] g8 (fun j => Ed L1 r1 (Hd gy gh ge (.func k #[] caps) (Cp (ps.take j)) (T j))) (Ed L1 (Hc .ret r1) (Hd gy gh ge (.func k #[] caps) (Cp (ps.take (N + 1))) (T N))) hl hr hlen hNp ?_ ?_)) rfl rfl rfl ?_
  intro j x d hpj hjN 
  have hxl : x.length ≤ 65536 := hlen x (List.mem_of_getElem? hpj)
  have hst := Ku hpj
  have hs1 := hsum (j + 1)
  have hje : j < es.length := (by omega)
  obtain ⟨⟨e, n⟩, hej⟩ : ∃ z, es[j]? = some z := ⟨_, List.getElem?_eq_getElem hje⟩
  obtain ⟨q, hq1, hD, hq3⟩ := Mc (o := 0) (by rw [hes]; exact hej)
  rw [hpj] at hq1
  obtain rfl := Option.some.inj hq1
  obtain rfl : n = Cp (ps.take (j + 1)) := by rw [hq3]; omega
  refine KO (CZ (n := 33) (env := [(12, d), (0, .func k #[] caps), (1, .pointer (some ⟨g, 0, none⟩)), (2, .pointer (some ⟨gy, 0, none⟩)), (8, v8), (9, .int .i64 8), (3, .pointer (some ⟨gh, 0, none⟩)), (4, .pointer (some ⟨ge, 0, none⟩)), (10, .slice A0 y.length c0), (11, .func (.func 145) #[] #[.pointer (some ⟨g8, 0, none⟩)])]) (.normal) k12 k11 (by rw [k14]; rfl) ?_ ?_)
  · rw [k14, k13]
    refine (congrArg (fun t => Fr 33 { tmps := t, defers := [] } _) (?_ : _ = (tm1.setIfInBounds 12 d))).mpr (hf1.put (d := 12) (by decide) _)
    simp
  · intro w0 rs
    rw [k15]
    refine Dz (by kernel_rfl) (by rintro ⟨a, w, h⟩; first | exact h.elim | exact nomatch h.1 | (obtain ⟨_, h, _⟩ := h; exact nomatch h)) (Af Ae rfl (AG (E9 0 rfl k11 ?_)))
    rw [k16]
    refine Er 1 rfl Hd.open_ (fun _ => rfl) ?_; rintro ⟨⟩
    refine Eo (DO (Dz (by kernel_rfl) (by rintro ⟨a, w, h⟩; first | exact h.elim | exact nomatch h.1 | (obtain ⟨_, h, _⟩ := h; exact nomatch h)) (Af Ae rfl (Al rfl (D8  [] 0 (Ai Tryz.func120 (by kernel_rfl) rfl) (fun w hH => I3 w d x (hH.sl8 5 rfl) (by omega) e 0 hD) rfl rfl rfl (fun _ => rfl) rfl rfl rfl) ?_)))); rintro ⟨A, c⟩
    refine Af Ae rfl (Al (post := fun gx => [cell gx 53 #[.int .i64 0, .int .u64 0, .int .u64 0, .slice none 0 0, .int .i64 0], Aj 5 1 encB (.slice A e.d.length c) e.d, cell gy 167 #[.func k #[] caps], cell gh 3 #[.int .i64 8], cell ge 3 #[.int .i64 ((Cp (ps.take j)) : Int)], T j, BL L1 (B7 r1), Aj 5 1 encB d x]) rfl (Cl BQ rfl) ?_); rintro gx
    refine AR (post := fun _ => [cell gx 53 #[.int .i64 e.k, .int .u64 e.t, .int .u64 e.i, .slice A e.d.length c, .int .i64 e.c], Aj 5 1 encB (.slice A e.d.length c) e.d, cell gy 167 #[.func k #[] caps], cell gh 3 #[.int .i64 8], cell ge 3 #[.int .i64 ((Cp (ps.take j)) : Int)], T j, BL L1 (B7 r1), Aj 5 1 encB d x]) rfl rfl (AZ 0 (v := .agg #[.int .i64 e.k, .int .u64 e.t, .int .u64 e.i, .slice A e.d.length c, .int .i64 e.c]) #[.int .i64 e.k, .int .u64 e.t, .int .u64 e.i, .slice A e.d.length c, .int .i64 e.c] B0.2 rfl rfl rfl rfl rfl rfl rfl rfl rfl) ?_; rintro ⟨⟩
    refine Af Ae rfl (AG (FA (DO (Dz (by kernel_rfl) (by rintro ⟨a, w, h⟩; first | exact h.elim | exact nomatch h.1 | (obtain ⟨_, h, _⟩ := h; exact nomatch h)) (Af Ae rfl (Aa rfl (.int .i64 ((Cp (ps.take j)) : Int)) (fun b w hb hH => Ba rfl rfl (Bl Br rfl) (hH.row 4 rfl) hb) (Aa rfl (.int .i64 8) (fun b w hb hH => Ba rfl rfl (Bl Br rfl) (hH.row 3 rfl) hb) (Af Ae rfl (Aa rfl (.int .i64 (x.length : Int)) (fun b w hb hH => Cv 7 Tryz.underlying49 rfl rfl rfl hH hb) (Aa rfl (.int .i64 ((8 + x.length : Nat) : Int)) (fun b w hb hH => AJ rfl rfl rfl rfl (by rw [IntWalk.i64_in _ (by omega)]; omega) hb) (Aa rfl (.int .i64 ((Cp (ps.take (j + 1))) : Int)) (fun b w hb hH => AJ rfl rfl rfl rfl (by rw [IntWalk.i64_in _ (by omega)]; omega) hb) ?_)))))))))))
    refine AR (post := fun _ => [cell gx 53 #[.int .i64 e.k, .int .u64 e.t, .int .u64 e.i, .slice A e.d.length c, .int .i64 e.c], Aj 5 1 encB (.slice A e.d.length c) e.d, cell gy 167 #[.func k #[] caps], cell gh 3 #[.int .i64 8], cell ge 3 #[.int .i64 ((Cp (ps.take (j + 1))) : Int)], T j, BL L1 (B7 r1), Aj 5 1 encB d x]) rfl rfl (AZ 4 (v := .int .i64 ((Cp (ps.take (j + 1))) : Int)) #[.int .i64 ((Cp (ps.take (j + 1))) : Int)] Br.2 rfl rfl rfl rfl rfl rfl rfl rfl rfl) ?_; rintro ⟨⟩
    refine AG (FA (DO (Uv (KN IE 6 (by rintro ⟨a, w, h⟩; first | exact h.elim | exact nomatch h.1 | (obtain ⟨_, h, _⟩ := h; exact nomatch h)) (by kernel_rfl) (Af Ae rfl (Aa rfl (.bool false) (fun b w hb hH => A5 rfl rfl rfl (Bn (by omega)) hb) (Af Ae rfl (Aa rfl (.func k #[] caps) (fun b w hb hH => Ba rfl rfl (Bl DY rfl) (hH.row 2 rfl) hb) (Aa rfl (.agg #[.int .i64 e.k, .int .u64 e.t, .int .u64 e.i, .slice A e.d.length c, .int .i64 e.c]) (fun b w hb hH => Ba rfl rfl (Ft (cs := [.int .i64 e.k, .int .u64 e.t, .int .u64 e.i, .slice A e.d.length c, .int .i64 e.c]) B0 rfl) (hH.row 0 rfl) hb) (Aa rfl (.int .i64 ((Cp (ps.take (j + 1))) : Int)) (fun b w hb hH => Ba rfl rfl (Bl Br rfl) (hH.row 4 rfl) hb) (O9 ?_)))))))))))
    refine F5 (X := Unit) (post := fun _ => [T (j + 1)]) (os' := fun _ => [T (j + 1), cell gx 53 #[.int .i64 e.k, .int .u64 e.t, .int .u64 e.i, .slice A e.d.length c, .int .i64 e.c], cell gy 167 #[.func k #[] caps], cell gh 3 #[.int .i64 8], cell ge 3 #[.int .i64 ((Cp (ps.take (j + 1))) : Int)], BL L1 (B7 r1), Aj 5 1 encB d x]) IE [5, 1] (hyy j A c e _ hej) rfl rfl rfl rfl rfl rfl (fun _ => rfl) ?_; rintro ⟨⟩
    refine E3 IE (by rintro ⟨a, w, h⟩; first | exact h.elim | exact nomatch h.1 | (obtain ⟨_, h, _⟩ := h; exact nomatch h)) (by kernel_rfl) (Af Ae rfl (AG (FA (I9 rfl (Ja (A6 (CU [2, 3, 4, 0] rfl (NT (Cp (ps.take (j + 1))) (T (j + 1))) rfl ?_)))))))
    exact Fm [2, 0] rfl rfl
  intro j x d hpj hjN 
  have hxl : x.length ≤ 65536 := hlen x (List.mem_of_getElem? hpj)
  have hst := Ku hpj
  have hs1 := hsum (j + 1)
  obtain rfl := hjN
  have hbad : (EF x).2 ≠ 0 := Md (o := 0) (by rw [hes, hN]; exact hpj)
  obtain ⟨e, en, hD⟩ : ∃ e en, EF x = (e, en) := ⟨_, _, rfl⟩
  rw [hD] at hbad
  have hen : en ≠ 0 := hbad
  refine KO (CZ (n := 33) (env := [(12, d), (0, .func k #[] caps), (1, .pointer (some ⟨g, 0, none⟩)), (2, .pointer (some ⟨gy, 0, none⟩)), (8, v8), (9, .int .i64 8), (3, .pointer (some ⟨gh, 0, none⟩)), (4, .pointer (some ⟨ge, 0, none⟩)), (10, .slice A0 y.length c0), (11, .func (.func 145) #[] #[.pointer (some ⟨g8, 0, none⟩)])]) (.ret) k12 k11 (by rw [k14]; rfl) ?_ ?_)
  · rw [k14, k13]
    refine (congrArg (fun t => Fr 33 { tmps := t, defers := [] } _) (?_ : _ = (tm1.setIfInBounds 12 d))).mpr (hf1.put (d := 12) (by decide) _)
    simp
  · intro w0 rs
    rw [k15]
    refine Dz (by kernel_rfl) (by rintro ⟨a, w, h⟩; first | exact h.elim | exact nomatch h.1 | (obtain ⟨_, h, _⟩ := h; exact nomatch h)) (Af Ae rfl (AG (E9 0 rfl k11 ?_)))
    rw [k16]
    refine Er 1 rfl Hd.open_ (fun _ => rfl) ?_; rintro ⟨⟩
    refine Eo (DO (Dz (by kernel_rfl) (by rintro ⟨a, w, h⟩; first | exact h.elim | exact nomatch h.1 | (obtain ⟨_, h, _⟩ := h; exact nomatch h)) (Af Ae rfl (Al rfl (D8  [] 0 (Ai Tryz.func120 (by kernel_rfl) rfl) (fun w hH => I3 w d x (hH.sl8 5 rfl) (by omega) e en hD) rfl rfl rfl (fun _ => rfl) rfl rfl rfl) ?_)))); rintro ⟨A, c⟩
    refine Af Ae rfl (Al (post := fun gx => [cell gx 53 #[.int .i64 0, .int .u64 0, .int .u64 0, .slice none 0 0, .int .i64 0], Aj 5 1 encB (.slice A e.d.length c) e.d, cell gy 167 #[.func k #[] caps], cell gh 3 #[.int .i64 8], cell ge 3 #[.int .i64 ((Cp (ps.take j)) : Int)], T j, BL L1 (B7 r1), Aj 5 1 encB d x]) rfl (Cl BQ rfl) ?_); rintro gx
    refine AR (post := fun _ => [cell gx 53 #[.int .i64 e.k, .int .u64 e.t, .int .u64 e.i, .slice A e.d.length c, .int .i64 e.c], Aj 5 1 encB (.slice A e.d.length c) e.d, cell gy 167 #[.func k #[] caps], cell gh 3 #[.int .i64 8], cell ge 3 #[.int .i64 ((Cp (ps.take j)) : Int)], T j, BL L1 (B7 r1), Aj 5 1 encB d x]) rfl rfl (AZ 0 (v := .agg #[.int .i64 e.k, .int .u64 e.t, .int .u64 e.i, .slice A e.d.length c, .int .i64 e.c]) #[.int .i64 e.k, .int .u64 e.t, .int .u64 e.i, .slice A e.d.length c, .int .i64 e.c] B0.2 rfl rfl rfl rfl rfl rfl rfl rfl rfl) ?_; rintro ⟨⟩
    refine Af Ae rfl (AG (FA (DO (Dz (by kernel_rfl) (by rintro ⟨a, w, h⟩; first | exact h.elim | exact nomatch h.1 | (obtain ⟨_, h, _⟩ := h; exact nomatch h)) (Af Ae rfl (Aa rfl (.int .i64 ((Cp (ps.take j)) : Int)) (fun b w hb hH => Ba rfl rfl (Bl Br rfl) (hH.row 4 rfl) hb) (Aa rfl (.int .i64 8) (fun b w hb hH => Ba rfl rfl (Bl Br rfl) (hH.row 3 rfl) hb) (Af Ae rfl (Aa rfl (.int .i64 (x.length : Int)) (fun b w hb hH => Cv 7 Tryz.underlying49 rfl rfl rfl hH hb) (Aa rfl (.int .i64 ((8 + x.length : Nat) : Int)) (fun b w hb hH => AJ rfl rfl rfl rfl (by rw [IntWalk.i64_in _ (by omega)]; omega) hb) (Aa rfl (.int .i64 ((Cp (ps.take (j + 1))) : Int)) (fun b w hb hH => AJ rfl rfl rfl rfl (by rw [IntWalk.i64_in _ (by omega)]; omega) hb) ?_)))))))))))
    refine AR (post := fun _ => [cell gx 53 #[.int .i64 e.k, .int .u64 e.t, .int .u64 e.i, .slice A e.d.length c, .int .i64 e.c], Aj 5 1 encB (.slice A e.d.length c) e.d, cell gy 167 #[.func k #[] caps], cell gh 3 #[.int .i64 8], cell ge 3 #[.int .i64 ((Cp (ps.take (j + 1))) : Int)], T j, BL L1 (B7 r1), Aj 5 1 encB d x]) rfl rfl (AZ 4 (v := .int .i64 ((Cp (ps.take (j + 1))) : Int)) #[.int .i64 ((Cp (ps.take (j + 1))) : Int)] Br.2 rfl rfl rfl rfl rfl rfl rfl rfl rfl) ?_; rintro ⟨⟩
    refine AG (FA (DO (Dz (by kernel_rfl) (by rintro ⟨a, w, h⟩; first | exact h.elim | exact nomatch h.1 | (obtain ⟨_, h, _⟩ := h; exact nomatch h)) (Af Ae rfl (Aa rfl (.bool true) (fun b w hb hH => A5 rfl rfl rfl (Eu (by omega)) hb) (Af Ae rfl (AG (FA (NR rfl (WD (BH (CU [2, 3, 4, 5] rfl (NT (Cp (ps.take (j + 1))) (T j)) rfl ?_))))))))))))
    exact Fm [3, 0] rfl rfl
  intro D aT wT hD hD0 hd hF hH
  obtain ⟨_, hH⟩ := FB 0 rfl Hd.open_ hH
  exact Kt (e := .ret) rfl (fun w' h => AH (X := Unit) (val := fun _ => .tuple #[]) (post := fun _ => [T N, Aj 5 1 encB (.slice A0 y.length c0) y, cell g 49 #[.slice A0 y.length c0]]) (os := [cell gy 167 #[.func k #[] caps], cell gh 3 #[.int .i64 8], cell ge 3 #[.int .i64 ((Cp (ps.take (N + 1))) : Int)], T N, Aj 5 1 encB (.slice A9 y.length c9) y, cell g8 49 #[.slice A9 y.length c9], Aj 5 1 encB (.slice A0 y.length c0) y, cell g 49 #[.slice A0 y.length c0]]) () rfl [3, 6, 7] rfl h El) (by simp) D aT wT hD hD0 hd hF hH
end Go.Proofs.YtjcfimmcogkopaaGreatDoor.Sep
