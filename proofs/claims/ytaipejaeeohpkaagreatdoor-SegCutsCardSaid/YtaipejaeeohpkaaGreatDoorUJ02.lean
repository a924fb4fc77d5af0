/-
  SgC
-/
import Derived.Test.YtaipejaeeohpkaaGreatDoorUH01
import Derived.Test.YtaipejaeeohpkaaGreatDoorUJ01
set_option linter.unusedSimpArgs false
set_option linter.unusedVariables false
set_option maxRecDepth 100000
namespace Go.Proofs.YtaipejaeeohpkaaGreatDoor.Sep
open Go.RowKit
open Go.Proofs.YtaipejaeeohpkaaGreatDoor.Mem (Dist Blk Chg below0)
def EntI (gy gh ge : Nat) (f : Value) (n : Nat) (X : Ass) : Ass := fun rs => Parts [cell gy 182 #[f], cell gh 3 #[.int .i64 8], cell ge 3 #[.int .i64 (n : Int)], X] rs
theorem EntI.open_ {gy gh ge : Nat} {f : Value} {n : Nat} {X : Ass} : ∀ rs, EntI gy gh ge f n X rs → ∃ _ : Unit, Parts [cell gy 182 #[f], cell gh 3 #[.int .i64 8], cell ge 3 #[.int .i64 (n : Int)], X] rs := fun _ h => ⟨(), h⟩
theorem entI_mk {gy gh ge : Nat} {f : Value} (n : Nat) (X : Ass) : ∀ rs, Parts [cell gy 182 #[f], cell gh 3 #[.int .i64 8], cell ge 3 #[.int .i64 (n : Int)], X] rs → EntI gy gh ge f n X rs := fun _ h => h
theorem entI_0 {gy gh ge : Nat} {f : Value} {ps : List (List UInt8)} (X : Ass) : ∀ rs, Parts [cell gy 182 #[f], cell gh 3 #[.int .i64 8], cell ge 3 #[.int .i64 0], X] rs → EntI gy gh ge f (sumF (ps.take 0)) X rs := fun _ h => h
theorem empty8 : ((frameL []).length : Int) = 8 := by rw [frame_len (by simp)]; rfl
section
variable {P : Program} {n : Nat} {B : Nat → Prop} {w0 w : World} {os : List Ass} {env : List (Nat × Value)} {o : Oper} {act : Act}
theorem e_vlen8 (i : Nat) {t e : TypeId} {v : Value} (hu : P.underlying t = some (.slice e)) (hi : os[i]? = some (Vec e 1 encB v (frameL []))) {x : Operand} (ho : o.op = .call { callee := .builtin .len, args := #[x], argTypes := #[t] }) (hx : evs env x = some v) (hH : Hp B w0 w os) (hF : Fr n act env) : (execOp act.eval o).run P w = .ok (.value (.int .i64 8)) w := by
 have h := e_vlen i hu hi ho hx hH hF
 rw [empty8] at h
 exact h
end
theorem ents1a (k : Fn) (caps : Array Value) (g : Nat) (T : Nat → Ass) {A0 : Option Addr} {c0 : Nat} {y : List UInt8} {ps : List (List UInt8)} {es : List (EntD × Nat)} {N : Nat} (hl : y.length ≤ 137438953472) (hr : (listL y).1 = ps) (hes : entsP 0 ps = es) (hN : es.length = N) (hNp : ps.length = N) (hyy : ∀ (j : Nat) (A : Option Addr) (c : Nat) (e : EntD) (n : Nat), es[j]? = some (e, n) → DoesF Tryz.prog (.func k #[] caps) [.agg #[.int .i64 e.k, .int .u64 e.t, .int .u64 e.i, .slice A e.d.length c, .int .i64 e.c], .int .i64 (n : Int)] [T j, Vec 5 1 encB (.slice A e.d.length c) e.d] (fun _ : Unit => .bool true) (fun _ : Unit => [T (j + 1)])) : Does Tryz.prog 135 #[.func k #[] caps, .pointer (some ⟨g, 0, none⟩)] [T 0, Vec 5 1 encB (.slice A0 y.length c0) y, cell g 30 #[.slice A0 y.length c0]] (fun (_ : Unit) => .tuple #[]) (fun (_ : Unit) => [T N, Vec 5 1 encB (.slice A0 y.length c0) y, cell g 30 #[.slice A0 y.length c0]]) := by
  refine d_insM (args := [.func k #[] caps, .pointer (some ⟨g, 0, none⟩)]) 33 Tryz.func135 rfl rfl rfl ?_; intro w rs
  have hle := entsP_len ps 0
  rw [hes] at hle
  have hlen : ∀ x, x ∈ ps → x.length ≤ 65536 := by have h7 := list_parts y.length y; change ∀ x, x ∈ (listL y).1 → x.length ≤ 65536 at h7; rwa [hr] at h7
  have hsum : ∀ j, sumF (ps.take j) ≤ y.length := fun j => by have h5 := list_sumF y.length y; have h6 := list_le y.length y; change (listL y).2 = sumF (listL y).1 at h5; change (listL y).2 ≤ y.length at h6; have h7 := sumF_le (listL y).1 j; rw [hr] at h7 h5; omega
  refine d_reg ?_
  refine h_q hflT rfl ?_
  refine h_act (post := fun gy => [cell gy 182 #[.func k #[] caps], T 0, Vec 5 1 encB (.slice A0 y.length c0) y, cell g 30 #[.slice A0 y.length c0]]) rfl (a_box (cs := #[.func k #[] caps]) rfl rfl rfl) ?_; rintro gy
  refine h_done (d_reg ?_)
  refine h_q hflT rfl ?_
  refine h_act (post := fun v8 => [Vec 5 1 encB v8 (frameL []), cell gy 182 #[.func k #[] caps], T 0, Vec 5 1 encB (.slice A0 y.length c0) y, cell g 30 #[.slice A0 y.length c0]]) rfl (a_makes (os' := fun v8 => [Vec 5 1 encB v8 (frameL []), cell gy 182 #[.func k #[] caps], T 0, Vec 5 1 encB (.slice A0 y.length c0) y, cell g 30 #[.slice A0 y.length c0]]) [] 0 (ent_of Tryz.func98 (by kernel_rfl) rfl) (fun w hH => frame_doesU w (sl8_nil w) (by simp) rfl) rfl rfl rfl (fun _ => rfl) rfl rfl rfl) ?_; rintro v8
  refine h_val rfl (.int .i64 8) (fun b w hb hH => e_vlen8 0 Tryz.underlying30 rfl rfl rfl hH hb) ?_
  refine h_act (post := fun gh => [cell gh 3 #[.int .i64 0], Vec 5 1 encB v8 (frameL []), cell gy 182 #[.func k #[] caps], T 0, Vec 5 1 encB (.slice A0 y.length c0) y, cell g 30 #[.slice A0 y.length c0]]) rfl (a_alloc ze_int rfl) ?_; rintro gh
  refine h_act (post := fun ge => [cell ge 3 #[.int .i64 0], cell gh 3 #[.int .i64 0], Vec 5 1 encB v8 (frameL []), cell gy 182 #[.func k #[] caps], T 0, Vec 5 1 encB (.slice A0 y.length c0) y, cell g 30 #[.slice A0 y.length c0]]) rfl (a_alloc ze_int rfl) ?_; rintro ge
  refine h_acts (post := fun _ => [cell ge 3 #[.int .i64 0], cell gh 3 #[.int .i64 8], Vec 5 1 encB v8 (frameL []), cell gy 182 #[.func k #[] caps], T 0, Vec 5 1 encB (.slice A0 y.length c0) y, cell g 30 #[.slice A0 y.length c0]]) rfl rfl (a_store 1 (v := .int .i64 8) #[.int .i64 8] ty_int.2 rfl rfl rfl rfl rfl rfl rfl rfl rfl) ?_; rintro ⟨⟩
  refine h_acts (post := fun _ => [cell ge 3 #[.int .i64 0], cell gh 3 #[.int .i64 8], Vec 5 1 encB v8 (frameL []), cell gy 182 #[.func k #[] caps], T 0, Vec 5 1 encB (.slice A0 y.length c0) y, cell g 30 #[.slice A0 y.length c0]]) rfl rfl (a_store 0 (v := .int .i64 0) #[.int .i64 0] ty_int.2 rfl rfl rfl rfl rfl rfl rfl rfl rfl) ?_; rintro ⟨⟩
  refine h_done ?_
  refine WC2.leave [2] rfl rfl ?_
  refine d_close [2, 1, 0, 3] rfl (entI_0 (ps := ps) (T 0)) rfl ?_
  refine d_reg ?_
  refine h_q hflT rfl ?_
  refine h_val rfl (.slice A0 y.length c0) (fun b w hb hH => xLd rfl rfl (rOn tyS8 rfl) (hH.row 2 rfl) hb) ?_
  refine h_act rfl (a_does  [1] 0 (ent_of Tryz.func136 (by kernel_rfl) rfl) (all_does rd8_vec hl) rfl rfl rfl (fun _ => rfl) rfl rfl rfl) ?_; rintro ⟨g8, w8⟩
  refine h_done (d_block ?_)
  refine WC2.fact 1 rfl (fun _ h => Vec.is h) ?_; rintro ⟨A9, c9, rfl⟩
  refine WC2.keep (env' := [(0, .func k #[] caps), (1, .pointer (some ⟨g, 0, none⟩)), (2, .pointer (some ⟨gy, 0, none⟩)), (8, v8), (9, .int .i64 8), (3, .pointer (some ⟨gh, 0, none⟩)), (4, .pointer (some ⟨ge, 0, none⟩)), (10, .slice A0 y.length c0), (11, .func (.func 164) #[] #[.pointer (some ⟨g8, 0, none⟩)])]) ⟨rfl, rfl, rfl, rfl, rfl, rfl, rfl, rfl, rfl, trivial⟩ ?_
  refine WC2.mid [cell g8 30 #[.slice A9 y.length c9], Vec 5 1 encB (.slice A9 y.length c9) y, EntI gy gh ge (.func k #[] caps) (sumF (ps.take 0)) (T 0), Vec 5 1 encB (.slice A0 y.length c0) y, cell g 30 #[.slice A0 y.length c0]] (.refl _) ?_
  refine wp_rangeF (caps := [.pointer (some ⟨g8, 0, none⟩)]) (post := [EntI gy gh ge (.func k #[] caps) (sumF (ps.take N)) (T N), Vec 5 1 encB (.slice A9 y.length c9) y, cell g8 30 #[.slice A9 y.length c9]]) (os' := [EntI gy gh ge (.func k #[] caps) (sumF (ps.take N)) (T N), Vec 5 1 encB (.slice A9 y.length c9) y, cell g8 30 #[.slice A9 y.length c9], Vec 5 1 encB (.slice A0 y.length c0) y, cell g 30 #[.slice A0 y.length c0]]) (.normal) [2, 1, 0] rfl (ent_of Tryz.func164 (by kernel_rfl) rfl) (fun L1 fn1 tm1 hf1 r1 k11 k12 k13 k14 k15 k16 => it_in (all1 (.yield L1) #[] g8 (fun j => recI L1 r1 (EntI gy gh ge (.func k #[] caps) (sumF (ps.take j)) (T j))) hl hr hlen hNp ?_)) rfl rfl rfl ?_
  · skip
    intro j x d hpj 
    have hxl : x.length ≤ 65536 := hlen x (List.mem_of_getElem? hpj)
    have hst := sumF_take hpj
    have hs1 := hsum (j + 1)
    have hje : j < es.length := (by have := (List.getElem?_eq_some_iff.1 hpj).1; omega)
    obtain ⟨⟨e, n⟩, hej⟩ : ∃ z, es[j]? = some z := ⟨_, List.getElem?_eq_getElem hje⟩
    obtain ⟨q, hq1, hD, hq3⟩ := entsP_at (o := 0) (by rw [hes]; exact hej)
    rw [hpj] at hq1
    obtain rfl := Option.some.inj hq1
    obtain rfl : n = sumF (ps.take (j + 1)) := by rw [hq3]; omega
    refine rd_in (doesF_round (n := 33) (env := [(12, d), (0, .func k #[] caps), (1, .pointer (some ⟨g, 0, none⟩)), (2, .pointer (some ⟨gy, 0, none⟩)), (8, v8), (9, .int .i64 8), (3, .pointer (some ⟨gh, 0, none⟩)), (4, .pointer (some ⟨ge, 0, none⟩)), (10, .slice A0 y.length c0), (11, .func (.func 164) #[] #[.pointer (some ⟨g8, 0, none⟩)])]) (.normal) k12 k11 (by rw [k14]; rfl) ?_ ?_)
    · rw [k14, k13]
      refine (congrArg (fun t => Fr 33 { tmps := t, defers := [] } _) (?_ : _ = (tm1.setIfInBounds 12 d))).mpr (hf1.put (d := 12) (by decide) _)
      simp
    · intro w0 rs
      rw [k15]
      refine r_reg (by kernel_rfl) (by rintro ⟨a, w, h⟩; first | exact h.elim | exact nomatch h.1 | (obtain ⟨_, h, _⟩ := h; exact nomatch h)) ?_
      refine h_q hflT rfl ?_
      refine h_nil ?_
      refine r_begin 0 rfl k11 ?_
      rw [k16]
      refine r_open 1 rfl EntI.open_ (fun _ => rfl) ?_; rintro ⟨⟩
      refine r_block ?_
      refine r_seq (r_reg (by kernel_rfl) (by rintro ⟨a, w, h⟩; first | exact h.elim | exact nomatch h.1 | (obtain ⟨_, h, _⟩ := h; exact nomatch h)) ?_)
      refine h_q hflT rfl ?_
      refine h_act rfl (a_makes  [] 0 (ent_of Tryz.func137 (by kernel_rfl) rfl) (fun w hH => reade_does w d x (hH.sl8 5 rfl) (by omega) e 0 hD) rfl rfl rfl (fun _ => rfl) rfl rfl rfl) ?_; rintro ⟨A, c⟩
      refine h_q hflT rfl ?_
      refine h_act (post := fun gx => [cell gx 34 #[.int .i64 0, .int .u64 0, .int .u64 0, .slice none 0 0, .int .i64 0], Vec 5 1 encB (.slice A e.d.length c) e.d, cell gy 182 #[.func k #[] caps], cell gh 3 #[.int .i64 8], cell ge 3 #[.int .i64 ((sumF (ps.take j)) : Int)], T j, recT L1 (busyR r1), Vec 5 1 encB d x]) rfl (a_alloc ze_api_Entry rfl) ?_; rintro gx
      refine h_acts (post := fun _ => [cell gx 34 #[.int .i64 e.k, .int .u64 e.t, .int .u64 e.i, .slice A e.d.length c, .int .i64 e.c], Vec 5 1 encB (.slice A e.d.length c) e.d, cell gy 182 #[.func k #[] caps], cell gh 3 #[.int .i64 8], cell ge 3 #[.int .i64 ((sumF (ps.take j)) : Int)], T j, recT L1 (busyR r1), Vec 5 1 encB d x]) rfl rfl (a_store 0 (v := .agg #[.int .i64 e.k, .int .u64 e.t, .int .u64 e.i, .slice A e.d.length c, .int .i64 e.c]) #[.int .i64 e.k, .int .u64 e.t, .int .u64 e.i, .slice A e.d.length c, .int .i64 e.c] tyEn.2 rfl rfl rfl rfl rfl rfl rfl rfl rfl) ?_; rintro ⟨⟩
      refine h_q hflT rfl ?_
      refine h_nil (r_to ?_)
      refine r_seq (r_reg (by kernel_rfl) (by rintro ⟨a, w, h⟩; first | exact h.elim | exact nomatch h.1 | (obtain ⟨_, h, _⟩ := h; exact nomatch h)) ?_)
      refine h_q hflT rfl ?_
      refine h_val rfl (.int .i64 ((sumF (ps.take j)) : Int)) (fun b w hb hH => xLd rfl rfl (rOn ty_int rfl) (hH.row 4 rfl) hb) ?_
      refine h_val rfl (.int .i64 8) (fun b w hb hH => xLd rfl rfl (rOn ty_int rfl) (hH.row 3 rfl) hb) ?_
      refine h_q hflT rfl ?_
      refine h_val rfl (.int .i64 (x.length : Int)) (fun b w hb hH => e_vlen 7 Tryz.underlying30 rfl rfl rfl hH hb) ?_
      refine h_val rfl (.int .i64 ((8 + x.length : Nat) : Int)) (fun b w hb hH => exec_ar rfl rfl rfl rfl (by rw [IntWalk.i64_in _ (by omega)]; omega) hb) ?_
      refine h_val rfl (.int .i64 ((sumF (ps.take (j + 1))) : Int)) (fun b w hb hH => exec_ar rfl rfl rfl rfl (by rw [IntWalk.i64_in _ (by omega)]; omega) hb) ?_
      refine h_acts (post := fun _ => [cell gx 34 #[.int .i64 e.k, .int .u64 e.t, .int .u64 e.i, .slice A e.d.length c, .int .i64 e.c], Vec 5 1 encB (.slice A e.d.length c) e.d, cell gy 182 #[.func k #[] caps], cell gh 3 #[.int .i64 8], cell ge 3 #[.int .i64 ((sumF (ps.take (j + 1))) : Int)], T j, recT L1 (busyR r1), Vec 5 1 encB d x]) rfl rfl (a_store 4 (v := .int .i64 ((sumF (ps.take (j + 1))) : Int)) #[.int .i64 ((sumF (ps.take (j + 1))) : Int)] ty_int.2 rfl rfl rfl rfl rfl rfl rfl rfl rfl) ?_; rintro ⟨⟩
      refine h_nil (r_to ?_)
      refine r_seq ?_
      refine r_regI (i_pre gf_r 6 (by rintro ⟨a, w, h⟩; first | exact h.elim | exact nomatch h.1 | (obtain ⟨_, h, _⟩ := h; exact nomatch h)) (by kernel_rfl) ?_)
      refine h_q hflT rfl ?_
      refine h_val rfl (.bool false) (fun b w hb hH => xCm rfl rfl rfl (cmp_neq_f (by omega)) hb) ?_
      refine h_q hflT rfl ?_
      refine h_val rfl (.func k #[] caps) (fun b w hb hH => xLd rfl rfl (rOn ty_func_api_Entry_int_bool rfl) (hH.row 2 rfl) hb) ?_
      refine h_val rfl (.agg #[.int .i64 e.k, .int .u64 e.t, .int .u64 e.i, .slice A e.d.length c, .int .i64 e.c]) (fun b w hb hH => xLd rfl rfl (rAg (cs := [.int .i64 e.k, .int .u64 e.t, .int .u64 e.i, .slice A e.d.length c, .int .i64 e.c]) tyEn rfl) (hH.row 0 rfl) hb) ?_
      refine h_val rfl (.int .i64 ((sumF (ps.take (j + 1))) : Int)) (fun b w hb hH => xLd rfl rfl (rOn ty_int rfl) (hH.row 4 rfl) hb) ?_
      refine i_to ?_
      refine i_does (X := Unit) (post := fun _ => [T (j + 1)]) (os' := fun _ => [T (j + 1), cell gx 34 #[.int .i64 e.k, .int .u64 e.t, .int .u64 e.i, .slice A e.d.length c, .int .i64 e.c], cell gy 182 #[.func k #[] caps], cell gh 3 #[.int .i64 8], cell ge 3 #[.int .i64 ((sumF (ps.take (j + 1))) : Int)], recT L1 (busyR r1), Vec 5 1 encB d x]) gf_r [5, 1] (hyy j A c e _ hej) rfl rfl rfl rfl rfl rfl (fun _ => rfl) ?_; rintro ⟨⟩
      refine i_rest gf_r (by rintro ⟨a, w, h⟩; first | exact h.elim | exact nomatch h.1 | (obtain ⟨_, h, _⟩ := h; exact nomatch h)) (by kernel_rfl) ?_
      refine h_q hflT rfl ?_
      refine h_nil ?_
      refine r_to ?_
      refine r_else rfl ?_
      refine r_skip ?_
      refine f_block ?_
      refine f_close [2, 3, 4, 0] rfl (entI_mk (sumF (ps.take (j + 1))) (T (j + 1))) rfl ?_
      exact r_tell [2, 0] rfl rfl
  intro D aT wT hD hD0 hd hF hH
  obtain ⟨_, hH⟩ := hp_open 0 rfl EntI.open_ hH
  exact m_fin0 (e := .normal) rfl (fun w' h => tells (X := Unit) (val := fun _ => .tuple #[]) (post := fun _ => [T N, Vec 5 1 encB (.slice A0 y.length c0) y, cell g 30 #[.slice A0 y.length c0]]) (os := [cell gy 182 #[.func k #[] caps], cell gh 3 #[.int .i64 8], cell ge 3 #[.int .i64 ((sumF (ps.take N)) : Int)], T N, Vec 5 1 encB (.slice A9 y.length c9) y, cell g8 30 #[.slice A9 y.length c9], Vec 5 1 encB (.slice A0 y.length c0) y, cell g 30 #[.slice A0 y.length c0]]) () rfl [3, 6, 7] rfl h sPr) (by simp) D aT wT hD hD0 hd hF hH
theorem ents1b (k : Fn) (caps : Array Value) (g : Nat) (T : Nat → Ass) {A0 : Option Addr} {c0 : Nat} {y : List UInt8} {ps : List (List UInt8)} {es : List (EntD × Nat)} {N : Nat} (hl : y.length ≤ 137438953472) (hr : (listL y).1 = ps) (hes : entsP 0 ps = es) (hN : es.length = N) (hNp : N < ps.length) (hyy : ∀ (j : Nat) (A : Option Addr) (c : Nat) (e : EntD) (n : Nat), es[j]? = some (e, n) → DoesF Tryz.prog (.func k #[] caps) [.agg #[.int .i64 e.k, .int .u64 e.t, .int .u64 e.i, .slice A e.d.length c, .int .i64 e.c], .int .i64 (n : Int)] [T j, Vec 5 1 encB (.slice A e.d.length c) e.d] (fun _ : Unit => .bool true) (fun _ : Unit => [T (j + 1)])) : Does Tryz.prog 135 #[.func k #[] caps, .pointer (some ⟨g, 0, none⟩)] [T 0, Vec 5 1 encB (.slice A0 y.length c0) y, cell g 30 #[.slice A0 y.length c0]] (fun (_ : Unit) => .tuple #[]) (fun (_ : Unit) => [T N, Vec 5 1 encB (.slice A0 y.length c0) y, cell g 30 #[.slice A0 y.length c0]]) := by
  refine d_insM (args := [.func k #[] caps, .pointer (some ⟨g, 0, none⟩)]) 33 Tryz.func135 rfl rfl rfl ?_; intro w rs
  have hle := entsP_len ps 0
  rw [hes] at hle
  have hlen : ∀ x, x ∈ ps → x.length ≤ 65536 := by have h7 := list_parts y.length y; change ∀ x, x ∈ (listL y).1 → x.length ≤ 65536 at h7; rwa [hr] at h7
  have hsum : ∀ j, sumF (ps.take j) ≤ y.length := fun j => by have h5 := list_sumF y.length y; have h6 := list_le y.length y; change (listL y).2 = sumF (listL y).1 at h5; change (listL y).2 ≤ y.length at h6; have h7 := sumF_le (listL y).1 j; rw [hr] at h7 h5; omega
  refine d_reg ?_
  refine h_q hflT rfl ?_
  refine h_act (post := fun gy => [cell gy 182 #[.func k #[] caps], T 0, Vec 5 1 encB (.slice A0 y.length c0) y, cell g 30 #[.slice A0 y.length c0]]) rfl (a_box (cs := #[.func k #[] caps]) rfl rfl rfl) ?_; rintro gy
  refine h_done (d_reg ?_)
  refine h_q hflT rfl ?_
  refine h_act (post := fun v8 => [Vec 5 1 encB v8 (frameL []), cell gy 182 #[.func k #[] caps], T 0, Vec 5 1 encB (.slice A0 y.length c0) y, cell g 30 #[.slice A0 y.length c0]]) rfl (a_makes (os' := fun v8 => [Vec 5 1 encB v8 (frameL []), cell gy 182 #[.func k #[] caps], T 0, Vec 5 1 encB (.slice A0 y.length c0) y, cell g 30 #[.slice A0 y.length c0]]) [] 0 (ent_of Tryz.func98 (by kernel_rfl) rfl) (fun w hH => frame_doesU w (sl8_nil w) (by simp) rfl) rfl rfl rfl (fun _ => rfl) rfl rfl rfl) ?_; rintro v8
  refine h_val rfl (.int .i64 8) (fun b w hb hH => e_vlen8 0 Tryz.underlying30 rfl rfl rfl hH hb) ?_
  refine h_act (post := fun gh => [cell gh 3 #[.int .i64 0], Vec 5 1 encB v8 (frameL []), cell gy 182 #[.func k #[] caps], T 0, Vec 5 1 encB (.slice A0 y.length c0) y, cell g 30 #[.slice A0 y.length c0]]) rfl (a_alloc ze_int rfl) ?_; rintro gh
  refine h_act (post := fun ge => [cell ge 3 #[.int .i64 0], cell gh 3 #[.int .i64 0], Vec 5 1 encB v8 (frameL []), cell gy 182 #[.func k #[] caps], T 0, Vec 5 1 encB (.slice A0 y.length c0) y, cell g 30 #[.slice A0 y.length c0]]) rfl (a_alloc ze_int rfl) ?_; rintro ge
  refine h_acts (post := fun _ => [cell ge 3 #[.int .i64 0], cell gh 3 #[.int .i64 8], Vec 5 1 encB v8 (frameL []), cell gy 182 #[.func k #[] caps], T 0, Vec 5 1 encB (.slice A0 y.length c0) y, cell g 30 #[.slice A0 y.length c0]]) rfl rfl (a_store 1 (v := .int .i64 8) #[.int .i64 8] ty_int.2 rfl rfl rfl rfl rfl rfl rfl rfl rfl) ?_; rintro ⟨⟩
  refine h_acts (post := fun _ => [cell ge 3 #[.int .i64 0], cell gh 3 #[.int .i64 8], Vec 5 1 encB v8 (frameL []), cell gy 182 #[.func k #[] caps], T 0, Vec 5 1 encB (.slice A0 y.length c0) y, cell g 30 #[.slice A0 y.length c0]]) rfl rfl (a_store 0 (v := .int .i64 0) #[.int .i64 0] ty_int.2 rfl rfl rfl rfl rfl rfl rfl rfl rfl) ?_; rintro ⟨⟩
  refine h_done ?_
  refine WC2.leave [2] rfl rfl ?_
  refine d_close [2, 1, 0, 3] rfl (entI_0 (ps := ps) (T 0)) rfl ?_
  refine d_reg ?_
  refine h_q hflT rfl ?_
  refine h_val rfl (.slice A0 y.length c0) (fun b w hb hH => xLd rfl rfl (rOn tyS8 rfl) (hH.row 2 rfl) hb) ?_
  refine h_act rfl (a_does  [1] 0 (ent_of Tryz.func136 (by kernel_rfl) rfl) (all_does rd8_vec hl) rfl rfl rfl (fun _ => rfl) rfl rfl rfl) ?_; rintro ⟨g8, w8⟩
  refine h_done (d_block ?_)
  refine WC2.fact 1 rfl (fun _ h => Vec.is h) ?_; rintro ⟨A9, c9, rfl⟩
  refine WC2.keep (env' := [(0, .func k #[] caps), (1, .pointer (some ⟨g, 0, none⟩)), (2, .pointer (some ⟨gy, 0, none⟩)), (8, v8), (9, .int .i64 8), (3, .pointer (some ⟨gh, 0, none⟩)), (4, .pointer (some ⟨ge, 0, none⟩)), (10, .slice A0 y.length c0), (11, .func (.func 164) #[] #[.pointer (some ⟨g8, 0, none⟩)])]) ⟨rfl, rfl, rfl, rfl, rfl, rfl, rfl, rfl, rfl, trivial⟩ ?_
  refine WC2.mid [cell g8 30 #[.slice A9 y.length c9], Vec 5 1 encB (.slice A9 y.length c9) y, EntI gy gh ge (.func k #[] caps) (sumF (ps.take 0)) (T 0), Vec 5 1 encB (.slice A0 y.length c0) y, cell g 30 #[.slice A0 y.length c0]] (.refl _) ?_
  refine wp_rangeF (caps := [.pointer (some ⟨g8, 0, none⟩)]) (post := [EntI gy gh ge (.func k #[] caps) (sumF (ps.take (N + 1))) (T N), Vec 5 1 encB (.slice A9 y.length c9) y, cell g8 30 #[.slice A9 y.length c9]]) (os' := [EntI gy gh ge (.func k #[] caps) (sumF (ps.take (N + 1))) (T N), Vec 5 1 encB (.slice A9 y.length c9) y, cell g8 30 #[.slice A9 y.length c9], Vec 5 1 encB (.slice A0 y.length c0) y, cell g 30 #[.slice A0 y.length c0]]) (.ret) [2, 1, 0] rfl (ent_of Tryz.func164 (by kernel_rfl) rfl) (fun L1 fn1 tm1 hf1 r1 k11 k12 k13 k14 k15 k16 => it_in (all1S (N := N) (.yield L1) #[] g8 (fun j => recI L1 r1 (EntI gy gh ge (.func k #[] caps) (sumF (ps.take j)) (T j))) (recI L1 (finR .ret r1) (EntI gy gh ge (.func k #[] caps) (sumF (ps.take (N + 1))) (T N))) hl hr hlen hNp ?_ ?_)) rfl rfl rfl ?_
  · skip
    intro j x d hpj hjN 
    have hxl : x.length ≤ 65536 := hlen x (List.mem_of_getElem? hpj)
    have hst := sumF_take hpj
    have hs1 := hsum (j + 1)
    have hje : j < es.length := (by omega)
    obtain ⟨⟨e, n⟩, hej⟩ : ∃ z, es[j]? = some z := ⟨_, List.getElem?_eq_getElem hje⟩
    obtain ⟨q, hq1, hD, hq3⟩ := entsP_at (o := 0) (by rw [hes]; exact hej)
    rw [hpj] at hq1
    obtain rfl := Option.some.inj hq1
    obtain rfl : n = sumF (ps.take (j + 1)) := by rw [hq3]; omega
    refine rd_in (doesF_round (n := 33) (env := [(12, d), (0, .func k #[] caps), (1, .pointer (some ⟨g, 0, none⟩)), (2, .pointer (some ⟨gy, 0, none⟩)), (8, v8), (9, .int .i64 8), (3, .pointer (some ⟨gh, 0, none⟩)), (4, .pointer (some ⟨ge, 0, none⟩)), (10, .slice A0 y.length c0), (11, .func (.func 164) #[] #[.pointer (some ⟨g8, 0, none⟩)])]) (.normal) k12 k11 (by rw [k14]; rfl) ?_ ?_)
    · rw [k14, k13]
      refine (congrArg (fun t => Fr 33 { tmps := t, defers := [] } _) (?_ : _ = (tm1.setIfInBounds 12 d))).mpr (hf1.put (d := 12) (by decide) _)
      simp
    · intro w0 rs
      rw [k15]
      refine r_reg (by kernel_rfl) (by rintro ⟨a, w, h⟩; first | exact h.elim | exact nomatch h.1 | (obtain ⟨_, h, _⟩ := h; exact nomatch h)) ?_
      refine h_q hflT rfl ?_
      refine h_nil ?_
      refine r_begin 0 rfl k11 ?_
      rw [k16]
      refine r_open 1 rfl EntI.open_ (fun _ => rfl) ?_; rintro ⟨⟩
      refine r_block ?_
      refine r_seq (r_reg (by kernel_rfl) (by rintro ⟨a, w, h⟩; first | exact h.elim | exact nomatch h.1 | (obtain ⟨_, h, _⟩ := h; exact nomatch h)) ?_)
      refine h_q hflT rfl ?_
      refine h_act rfl (a_makes  [] 0 (ent_of Tryz.func137 (by kernel_rfl) rfl) (fun w hH => reade_does w d x (hH.sl8 5 rfl) (by omega) e 0 hD) rfl rfl rfl (fun _ => rfl) rfl rfl rfl) ?_; rintro ⟨A, c⟩
      refine h_q hflT rfl ?_
      refine h_act (post := fun gx => [cell gx 34 #[.int .i64 0, .int .u64 0, .int .u64 0, .slice none 0 0, .int .i64 0], Vec 5 1 encB (.slice A e.d.length c) e.d, cell gy 182 #[.func k #[] caps], cell gh 3 #[.int .i64 8], cell ge 3 #[.int .i64 ((sumF (ps.take j)) : Int)], T j, recT L1 (busyR r1), Vec 5 1 encB d x]) rfl (a_alloc ze_api_Entry rfl) ?_; rintro gx
      refine h_acts (post := fun _ => [cell gx 34 #[.int .i64 e.k, .int .u64 e.t, .int .u64 e.i, .slice A e.d.length c, .int .i64 e.c], Vec 5 1 encB (.slice A e.d.length c) e.d, cell gy 182 #[.func k #[] caps], cell gh 3 #[.int .i64 8], cell ge 3 #[.int .i64 ((sumF (ps.take j)) : Int)], T j, recT L1 (busyR r1), Vec 5 1 encB d x]) rfl rfl (a_store 0 (v := .agg #[.int .i64 e.k, .int .u64 e.t, .int .u64 e.i, .slice A e.d.length c, .int .i64 e.c]) #[.int .i64 e.k, .int .u64 e.t, .int .u64 e.i, .slice A e.d.length c, .int .i64 e.c] tyEn.2 rfl rfl rfl rfl rfl rfl rfl rfl rfl) ?_; rintro ⟨⟩
      refine h_q hflT rfl ?_
      refine h_nil (r_to ?_)
      refine r_seq (r_reg (by kernel_rfl) (by rintro ⟨a, w, h⟩; first | exact h.elim | exact nomatch h.1 | (obtain ⟨_, h, _⟩ := h; exact nomatch h)) ?_)
      refine h_q hflT rfl ?_
      refine h_val rfl (.int .i64 ((sumF (ps.take j)) : Int)) (fun b w hb hH => xLd rfl rfl (rOn ty_int rfl) (hH.row 4 rfl) hb) ?_
      refine h_val rfl (.int .i64 8) (fun b w hb hH => xLd rfl rfl (rOn ty_int rfl) (hH.row 3 rfl) hb) ?_
      refine h_q hflT rfl ?_
      refine h_val rfl (.int .i64 (x.length : Int)) (fun b w hb hH => e_vlen 7 Tryz.underlying30 rfl rfl rfl hH hb) ?_
      refine h_val rfl (.int .i64 ((8 + x.length : Nat) : Int)) (fun b w hb hH => exec_ar rfl rfl rfl rfl (by rw [IntWalk.i64_in _ (by omega)]; omega) hb) ?_
      refine h_val rfl (.int .i64 ((sumF (ps.take (j + 1))) : Int)) (fun b w hb hH => exec_ar rfl rfl rfl rfl (by rw [IntWalk.i64_in _ (by omega)]; omega) hb) ?_
      refine h_acts (post := fun _ => [cell gx 34 #[.int .i64 e.k, .int .u64 e.t, .int .u64 e.i, .slice A e.d.length c, .int .i64 e.c], Vec 5 1 encB (.slice A e.d.length c) e.d, cell gy 182 #[.func k #[] caps], cell gh 3 #[.int .i64 8], cell ge 3 #[.int .i64 ((sumF (ps.take (j + 1))) : Int)], T j, recT L1 (busyR r1), Vec 5 1 encB d x]) rfl rfl (a_store 4 (v := .int .i64 ((sumF (ps.take (j + 1))) : Int)) #[.int .i64 ((sumF (ps.take (j + 1))) : Int)] ty_int.2 rfl rfl rfl rfl rfl rfl rfl rfl rfl) ?_; rintro ⟨⟩
      refine h_nil (r_to ?_)
      refine r_seq ?_
      refine r_regI (i_pre gf_r 6 (by rintro ⟨a, w, h⟩; first | exact h.elim | exact nomatch h.1 | (obtain ⟨_, h, _⟩ := h; exact nomatch h)) (by kernel_rfl) ?_)
      refine h_q hflT rfl ?_
      refine h_val rfl (.bool false) (fun b w hb hH => xCm rfl rfl rfl (cmp_neq_f (by omega)) hb) ?_
      refine h_q hflT rfl ?_
      refine h_val rfl (.func k #[] caps) (fun b w hb hH => xLd rfl rfl (rOn ty_func_api_Entry_int_bool rfl) (hH.row 2 rfl) hb) ?_
      refine h_val rfl (.agg #[.int .i64 e.k, .int .u64 e.t, .int .u64 e.i, .slice A e.d.length c, .int .i64 e.c]) (fun b w hb hH => xLd rfl rfl (rAg (cs := [.int .i64 e.k, .int .u64 e.t, .int .u64 e.i, .slice A e.d.length c, .int .i64 e.c]) tyEn rfl) (hH.row 0 rfl) hb) ?_
      refine h_val rfl (.int .i64 ((sumF (ps.take (j + 1))) : Int)) (fun b w hb hH => xLd rfl rfl (rOn ty_int rfl) (hH.row 4 rfl) hb) ?_
      refine i_to ?_
      refine i_does (X := Unit) (post := fun _ => [T (j + 1)]) (os' := fun _ => [T (j + 1), cell gx 34 #[.int .i64 e.k, .int .u64 e.t, .int .u64 e.i, .slice A e.d.length c, .int .i64 e.c], cell gy 182 #[.func k #[] caps], cell gh 3 #[.int .i64 8], cell ge 3 #[.int .i64 ((sumF (ps.take (j + 1))) : Int)], recT L1 (busyR r1), Vec 5 1 encB d x]) gf_r [5, 1] (hyy j A c e _ hej) rfl rfl rfl rfl rfl rfl (fun _ => rfl) ?_; rintro ⟨⟩
      refine i_rest gf_r (by rintro ⟨a, w, h⟩; first | exact h.elim | exact nomatch h.1 | (obtain ⟨_, h, _⟩ := h; exact nomatch h)) (by kernel_rfl) ?_
      refine h_q hflT rfl ?_
      refine h_nil ?_
      refine r_to ?_
      refine r_else rfl ?_
      refine r_skip ?_
      refine f_block ?_
      refine f_close [2, 3, 4, 0] rfl (entI_mk (sumF (ps.take (j + 1))) (T (j + 1))) rfl ?_
      exact r_tell [2, 0] rfl rfl
  · skip
    intro j x d hpj hjN 
    have hxl : x.length ≤ 65536 := hlen x (List.mem_of_getElem? hpj)
    have hst := sumF_take hpj
    have hs1 := hsum (j + 1)
    obtain rfl := hjN
    have hbad : (decE x).2 ≠ 0 := entsP_stop (o := 0) (by rw [hes, hN]; exact hpj)
    obtain ⟨e, en, hD⟩ : ∃ e en, decE x = (e, en) := ⟨_, _, rfl⟩
    rw [hD] at hbad
    have hen : en ≠ 0 := hbad
    refine rd_in (doesF_round (n := 33) (env := [(12, d), (0, .func k #[] caps), (1, .pointer (some ⟨g, 0, none⟩)), (2, .pointer (some ⟨gy, 0, none⟩)), (8, v8), (9, .int .i64 8), (3, .pointer (some ⟨gh, 0, none⟩)), (4, .pointer (some ⟨ge, 0, none⟩)), (10, .slice A0 y.length c0), (11, .func (.func 164) #[] #[.pointer (some ⟨g8, 0, none⟩)])]) (.ret) k12 k11 (by rw [k14]; rfl) ?_ ?_)
    · rw [k14, k13]
      refine (congrArg (fun t => Fr 33 { tmps := t, defers := [] } _) (?_ : _ = (tm1.setIfInBounds 12 d))).mpr (hf1.put (d := 12) (by decide) _)
      simp
    · intro w0 rs
      rw [k15]
      refine r_reg (by kernel_rfl) (by rintro ⟨a, w, h⟩; first | exact h.elim | exact nomatch h.1 | (obtain ⟨_, h, _⟩ := h; exact nomatch h)) ?_
      refine h_q hflT rfl ?_
      refine h_nil ?_
      refine r_begin 0 rfl k11 ?_
      rw [k16]
      refine r_open 1 rfl EntI.open_ (fun _ => rfl) ?_; rintro ⟨⟩
      refine r_block ?_
      refine r_seq (r_reg (by kernel_rfl) (by rintro ⟨a, w, h⟩; first | exact h.elim | exact nomatch h.1 | (obtain ⟨_, h, _⟩ := h; exact nomatch h)) ?_)
      refine h_q hflT rfl ?_
      refine h_act rfl (a_makes  [] 0 (ent_of Tryz.func137 (by kernel_rfl) rfl) (fun w hH => reade_does w d x (hH.sl8 5 rfl) (by omega) e en hD) rfl rfl rfl (fun _ => rfl) rfl rfl rfl) ?_; rintro ⟨A, c⟩
      refine h_q hflT rfl ?_
      refine h_act (post := fun gx => [cell gx 34 #[.int .i64 0, .int .u64 0, .int .u64 0, .slice none 0 0, .int .i64 0], Vec 5 1 encB (.slice A e.d.length c) e.d, cell gy 182 #[.func k #[] caps], cell gh 3 #[.int .i64 8], cell ge 3 #[.int .i64 ((sumF (ps.take j)) : Int)], T j, recT L1 (busyR r1), Vec 5 1 encB d x]) rfl (a_alloc ze_api_Entry rfl) ?_; rintro gx
      refine h_acts (post := fun _ => [cell gx 34 #[.int .i64 e.k, .int .u64 e.t, .int .u64 e.i, .slice A e.d.length c, .int .i64 e.c], Vec 5 1 encB (.slice A e.d.length c) e.d, cell gy 182 #[.func k #[] caps], cell gh 3 #[.int .i64 8], cell ge 3 #[.int .i64 ((sumF (ps.take j)) : Int)], T j, recT L1 (busyR r1), Vec 5 1 encB d x]) rfl rfl (a_store 0 (v := .agg #[.int .i64 e.k, .int .u64 e.t, .int .u64 e.i, .slice A e.d.length c, .int .i64 e.c]) #[.int .i64 e.k, .int .u64 e.t, .int .u64 e.i, .slice A e.d.length c, .int .i64 e.c] tyEn.2 rfl rfl rfl rfl rfl rfl rfl rfl rfl) ?_; rintro ⟨⟩
      refine h_q hflT rfl ?_
      refine h_nil (r_to ?_)
      refine r_seq (r_reg (by kernel_rfl) (by rintro ⟨a, w, h⟩; first | exact h.elim | exact nomatch h.1 | (obtain ⟨_, h, _⟩ := h; exact nomatch h)) ?_)
      refine h_q hflT rfl ?_
      refine h_val rfl (.int .i64 ((sumF (ps.take j)) : Int)) (fun b w hb hH => xLd rfl rfl (rOn ty_int rfl) (hH.row 4 rfl) hb) ?_
      refine h_val rfl (.int .i64 8) (fun b w hb hH => xLd rfl rfl (rOn ty_int rfl) (hH.row 3 rfl) hb) ?_
      refine h_q hflT rfl ?_
      refine h_val rfl (.int .i64 (x.length : Int)) (fun b w hb hH => e_vlen 7 Tryz.underlying30 rfl rfl rfl hH hb) ?_
      refine h_val rfl (.int .i64 ((8 + x.length : Nat) : Int)) (fun b w hb hH => exec_ar rfl rfl rfl rfl (by rw [IntWalk.i64_in _ (by omega)]; omega) hb) ?_
      refine h_val rfl (.int .i64 ((sumF (ps.take (j + 1))) : Int)) (fun b w hb hH => exec_ar rfl rfl rfl rfl (by rw [IntWalk.i64_in _ (by omega)]; omega) hb) ?_
      refine h_acts (post := fun _ => [cell gx 34 #[.int .i64 e.k, .int .u64 e.t, .int .u64 e.i, .slice A e.d.length c, .int .i64 e.c], Vec 5 1 encB (.slice A e.d.length c) e.d, cell gy 182 #[.func k #[] caps], cell gh 3 #[.int .i64 8], cell ge 3 #[.int .i64 ((sumF (ps.take (j + 1))) : Int)], T j, recT L1 (busyR r1), Vec 5 1 encB d x]) rfl rfl (a_store 4 (v := .int .i64 ((sumF (ps.take (j + 1))) : Int)) #[.int .i64 ((sumF (ps.take (j + 1))) : Int)] ty_int.2 rfl rfl rfl rfl rfl rfl rfl rfl rfl) ?_; rintro ⟨⟩
      refine h_nil (r_to ?_)
      refine r_seq (r_reg (by kernel_rfl) (by rintro ⟨a, w, h⟩; first | exact h.elim | exact nomatch h.1 | (obtain ⟨_, h, _⟩ := h; exact nomatch h)) ?_)
      refine h_q hflT rfl ?_
      refine h_val rfl (.bool true) (fun b w hb hH => xCm rfl rfl rfl (cmp_neq_t (by omega)) hb) ?_
      refine h_q hflT rfl ?_
      refine h_nil (r_to ?_)
      refine r_then rfl ?_
      refine r_ret ?_
      refine f_block_ret ?_
      refine f_close [2, 3, 4, 5] rfl (entI_mk (sumF (ps.take (j + 1))) (T j)) rfl ?_
      exact r_tell [3, 0] rfl rfl
  intro D aT wT hD hD0 hd hF hH
  obtain ⟨_, hH⟩ := hp_open 0 rfl EntI.open_ hH
  exact m_fin0 (e := .ret) rfl (fun w' h => tells (X := Unit) (val := fun _ => .tuple #[]) (post := fun _ => [T N, Vec 5 1 encB (.slice A0 y.length c0) y, cell g 30 #[.slice A0 y.length c0]]) (os := [cell gy 182 #[.func k #[] caps], cell gh 3 #[.int .i64 8], cell ge 3 #[.int .i64 ((sumF (ps.take (N + 1))) : Int)], T N, Vec 5 1 encB (.slice A9 y.length c9) y, cell g8 30 #[.slice A9 y.length c9], Vec 5 1 encB (.slice A0 y.length c0) y, cell g 30 #[.slice A0 y.length c0]]) () rfl [3, 6, 7] rfl h sPr) (by simp) D aT wT hD hD0 hd hF hH
end Go.Proofs.YtaipejaeeohpkaaGreatDoor.Sep
