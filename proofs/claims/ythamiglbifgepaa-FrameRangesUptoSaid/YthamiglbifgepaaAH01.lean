/-
  FrmJ
-/
import Derived.Test.YthamiglbifgepaaAE03
set_option linter.unusedSimpArgs false
set_option linter.unusedVariables false

namespace Go.Proofs.Ythamiglbifgepaa.Sep
open Go.RowKit
open Go.Proofs.Ythamiglbifgepaa.Mem (Dist Blk Chg below0)

/-- where a ranging stands: the function that is told, and what it has made of what it was told -/
def AllI (gy : Nat) (f : Value) (T : Nat → Ass) (j : Nat) : Ass := fun rs => Parts [cell gy 38 #[f], T j] rs
theorem AllI.open_ {gy : Nat} {f : Value} {T : Nat → Ass} {j : Nat} : ∀ rs, AllI gy f T j rs → ∃ _ : Unit, Parts [cell gy 38 #[f], T j] rs := fun _ h => ⟨(), h⟩
theorem allI_mk {gy : Nat} {f : Value} (T : Nat → Ass) (j : Nat) : ∀ rs, Parts [cell gy 38 #[f], T j] rs → AllI gy f T j rs := fun _ h => h

set_option maxRecDepth 100000 in
theorem all_does {X : Ass} {v : Value} {y : List UInt8} (hX : Rd8 X v y) (hl : y.length ≤ 137438953472) : Does Try.prog 16 #[v] [X] (fun (x : Nat × Value) => .func (.func 23) #[] #[.pointer (some ⟨x.1, 0, none⟩)]) (fun (x : Nat × Value) => [X, cell x.1 23 #[x.2], Vec 5 1 encB x.2 y]) := by
  refine d_ins (args := [v]) 7 Try.func16 rfl rfl rfl ?_; intro w rs
  refine d_reg ?_
  refine h_q hflS rfl ?_
  refine h_done (d_reg ?_)
  refine h_q hflS rfl ?_
  refine h_act (post := fun v9 => [Vec 5 1 encB v9 y, X]) rfl (a_does (os' := fun v9 => [Vec 5 1 encB v9 y, X]) [0] 0 (ent_of Try.func22 (by kernel_rfl) rfl) (clone8 hX (by omega)) rfl rfl rfl (fun _ => rfl) rfl rfl rfl) ?_; rintro v9
  refine h_act (post := fun g => [cell g 23 #[.slice none 0 0], Vec 5 1 encB v9 y, X]) rfl (a_alloc ze_s_uint8 rfl) ?_; rintro g
  refine h_acts (post := fun _ => [cell g 23 #[v9], Vec 5 1 encB v9 y, X]) rfl rfl (a_storev 0 1 (v := v9) #[v9] ty_s_uint8.2 rfl (fun _ h => Vec.c1 h) rfl rfl rfl rfl rfl rfl rfl) ?_; rintro ⟨⟩
  refine h_done (d_reg ?_)
  refine h_q hflS rfl ?_
  refine h_val rfl (.func (.func 23) #[] #[.pointer (some ⟨g, 0, none⟩)]) (fun b w hb hH => e_func rfl rfl hb) ?_
  refine h_q hflS rfl ?_
  refine h_done (d_ret ?_)
  exact f_fin1 (.tmp rfl) (fun w h => tells (g, v9) rfl [2, 0, 1] rfl h same_parts) rfl

set_option maxRecDepth 100000 in
theorem all1 (g : Nat) {A0 : Option Addr} {c0 : Nat} {y : List UInt8} {ps : List (List UInt8)} {N : Nat} (hl : y.length ≤ 137438953472) (hr : (listL y).1 = ps) (hlen : ∀ x, x ∈ ps → x.length ≤ 65536) (F : FuncId) (caps : List Value) (hE : Ent Try.prog F) (T : Nat → Ass) (hN : ps.length = N) (hyy : ∀ j x d, ps[j]? = some x → Does Try.prog F (([d] : List Value) ++ caps).toArray [T j, Vec 5 1 encB d x] (fun _ : Unit => .bool true) (fun _ : Unit => [T (j + 1)])) : Does Try.prog 23 #[.func (.func F) #[] caps.toArray, .pointer (some ⟨g, 0, none⟩)] [cell g 23 #[.slice A0 y.length c0], Vec 5 1 encB (.slice A0 y.length c0) y, T 0] (fun (_ : Unit) => .tuple #[]) (fun (_ : Unit) => [cell g 23 #[.slice A0 y.length c0], Vec 5 1 encB (.slice A0 y.length c0) y, T N]) := by
  refine d_insM (args := [.func (.func F) #[] caps.toArray, .pointer (some ⟨g, 0, none⟩)]) 14 Try.func23 rfl rfl rfl ?_; intro w rs
  refine d_reg ?_
  refine h_q hflS rfl ?_
  refine h_act (post := fun gy => [cell gy 38 #[.func (.func F) #[] caps.toArray], cell g 23 #[.slice A0 y.length c0], Vec 5 1 encB (.slice A0 y.length c0) y, T 0]) rfl (a_box (cs := #[.func (.func F) #[] caps.toArray]) rfl rfl rfl) ?_; rintro gy
  refine h_done (d_seq (d_reg ?_))
  refine h_q hflS rfl ?_
  refine h_val rfl (.func (.func F) #[] caps.toArray) (fun b w hb hH => exec_load rfl rfl (reads_one ty_func_s_uint8_bool rfl) (hH.row 0 rfl) hb) ?_
  refine h_val rfl (.bool false) (fun b w hb hH => exec_fnil_eql Try.underlying38 rfl rfl rfl hb) ?_
  refine h_done (d_else rfl (d_skip (f_to ?_)))
  refine d_close [0, 3] rfl (allI_mk T 0) rfl ?_
  refine d_reg ?_
  refine h_q hflS rfl ?_
  refine h_val rfl (.slice A0 y.length c0) (fun b w hb hH => exec_load rfl rfl (reads_one ty_s_uint8 rfl) (hH.row 1 rfl) hb) ?_
  refine h_act (post := fun g2 => [cell g2 23 #[.slice A0 y.length c0], AllI gy (.func (.func F) #[] caps.toArray) T 0, cell g 23 #[.slice A0 y.length c0], Vec 5 1 encB (.slice A0 y.length c0) y]) rfl (a_does (os' := fun g2 => [cell g2 23 #[.slice A0 y.length c0], AllI gy (.func (.func F) #[] caps.toArray) T 0, cell g 23 #[.slice A0 y.length c0], Vec 5 1 encB (.slice A0 y.length c0) y]) [] 0 (ent_of Try.func21 (by kernel_rfl) rfl) (complete_does) rfl rfl rfl (fun _ => rfl) rfl rfl rfl) ?_; rintro g2
  refine h_done (d_block ?_)
  refine WC2.keep (env' := [(0, .func (.func F) #[] caps.toArray), (1, .pointer (some ⟨g, 0, none⟩)), (2, .pointer (some ⟨gy, 0, none⟩)), (4, .func (.func F) #[] caps.toArray), (5, .bool false), (6, .slice A0 y.length c0), (7, .func (.func 24) #[] #[.pointer (some ⟨g2, 0, none⟩)])]) ⟨rfl, rfl, rfl, rfl, rfl, rfl, rfl, trivial⟩ ?_
  refine WC2.mid [cell g2 23 #[.slice A0 y.length c0], AllI gy (.func (.func F) #[] caps.toArray) T 0, cell g 23 #[.slice A0 y.length c0], Vec 5 1 encB (.slice A0 y.length c0) y] (.refl _) ?_
  refine wp_rangeG (caps := [.pointer (some ⟨g2, 0, none⟩)]) (post := [Vec 5 1 encB (.slice A0 y.length c0) y, AllI gy (.func (.func F) #[] caps.toArray) T N, cell g2 23 #[.slice A0 y.length c0]]) (os' := [Vec 5 1 encB (.slice A0 y.length c0) y, AllI gy (.func (.func F) #[] caps.toArray) T N, cell g2 23 #[.slice A0 y.length c0], cell g 23 #[.slice A0 y.length c0]]) [3, 1, 0] rfl (ent_of Try.func24 (by kernel_rfl) rfl) (fun L fn tm hfr r h1 h2 h3 h4 h5 h6 => complete1 L r g2 (Vec 5 1 encB (.slice A0 y.length c0) y) (AllI gy (.func (.func F) #[] caps.toArray) T) rd8_vec hl hr (by rw [h4]; rfl) hN ?_) rfl rfl rfl ?_
  · skip
    intro j A c x hpj hXx
    have hxl : x.length ≤ 65536 := hlen x (List.mem_of_getElem? hpj)
    rw [h5, h6]
    refine doesR_of (n := 14) (env := [(8, .slice A x.length c), (0, .func (.func F) #[] caps.toArray), (1, .pointer (some ⟨g, 0, none⟩)), (2, .pointer (some ⟨gy, 0, none⟩)), (4, .func (.func F) #[] caps.toArray), (5, .bool false), (6, .slice A0 y.length c0), (7, .func (.func 24) #[] #[.pointer (some ⟨g2, 0, none⟩)])]) (env1 := [(3, .slice A x.length c), (8, .slice A x.length c), (0, .func (.func F) #[] caps.toArray), (1, .pointer (some ⟨g, 0, none⟩)), (2, .pointer (some ⟨gy, 0, none⟩)), (4, .func (.func F) #[] caps.toArray), (5, .bool false), (6, .slice A0 y.length c0), (7, .func (.func 24) #[] #[.pointer (some ⟨g2, 0, none⟩)])]) h1 h2 ?_ ?_ ?_
    · rw [h4, h3]
      refine (congrArg (fun t => Fr 14 { tmps := t, defers := [] } _) (?_ : _ = (tm.setIfInBounds 8 (.slice A x.length c)))).mpr (hfr.put (d := 8) (by decide) _)
      simp
    · exact fun K w hK a hF => r_one rfl rfl (fun a h => exec_assign rfl rfl h) (fun a h => hK a h) a hF
    · intro w0 rs
      refine r_open 1 rfl AllI.open_ (fun _ => rfl) ?_; rintro ⟨⟩
      refine r_block ?_
      refine r_seq ?_
      refine r_any (by kernel_rfl) rfl (by rintro ⟨a, w, h⟩; exact h) ?_
      refine a_emps 1 rfl ?_
      refine a_parS 5 2 [⟨.quiet, [none, none], fun _ => .func (.func F) #[] caps.toArray, []⟩, ⟨.quiet, [none, none], fun _ => .slice A x.length c, []⟩, ⟨.act 0, [some false, some false], fun _ => undef, [1]⟩, ⟨.actv 1, [some true, some false], fun _ => .bool true, [0, 2]⟩, ⟨.quiet, [some true, some true], fun _ => .bool false, [3]⟩] [(3, .slice A x.length c), (2, .pointer (some ⟨gy, 0, none⟩))] (fun ρ => match ρ with | [r0, r1] => [selS r1 (fun _ => emp) (selS r0 (fun d1 => Vec 5 1 encB d1 x) (emp)), cell gy 38 #[.func (.func F) #[] caps.toArray], selS r1 (fun _ => T (j + 1)) (T j), Vec 5 1 encB (.slice A0 y.length c0) y] | _ => []) (by kernel_rfl) ⟨rfl, rfl, trivial⟩ rfl ?_ ?_
      · skip
        refine s_cons (by intro r0_ r1_; exact ⟨rfl, fun b w hH hb => exec_load rfl rfl (reads_one ty_func_s_uint8_bool rfl) (hH.row 1 rfl) hb⟩) ?_
        refine s_cons (by intro r0_ r1_; exact ⟨rfl, fun b w hH hb => exec_q1 hflS rfl hb⟩) ?_
        refine s_cons (by exact ⟨rfl, Acts.s (a_does (os' := fun d1 => [Vec 5 1 encB d1 x, cell gy 38 #[.func (.func F) #[] caps.toArray], T j, Vec 5 1 encB (.slice A0 y.length c0) y]) [3, 0] 1 (ent_of Try.func22 (by kernel_rfl) rfl) (clone8 hXx (by omega)) rfl rfl rfl (fun _ => rfl) rfl rfl rfl) (fun _ => rfl)⟩) ?_
        refine s_cons (by intro d1; exact ⟨rfl, Acts.su (a_doesc (os' := fun _ => [emp, cell gy 38 #[.func (.func F) #[] caps.toArray], T (j + 1), Vec 5 1 encB (.slice A0 y.length c0) y]) (vs := [d1]) (caps := caps) [2, 0] 0 hE (hyy j x d1 hpj) rfl rfl rfl (fun _ => rfl) rfl rfl rfl) rfl⟩) ?_
        refine s_cons (by intro d1 v1_; exact ⟨rfl, fun b w hH hb => exec_q1 hflS rfl hb⟩) ?_
        exact s_nil
      intro d1 v1_
      refine WL2.keep (env' := [(13, .bool false)]) ⟨rfl, trivial⟩ ?_
      refine WL2.leave [0] rfl rfl ?_
      refine h_nil ?_
      refine r_to ?_
      refine r_else rfl ?_
      refine r_skip ?_
      refine f_close [0, 1] rfl (allI_mk T (j + 1)) rfl ?_
      exact r_tell .normal [1, 0] rfl rfl (fun _ _ h => h)
  intro D aT wT hD hD0 hd hF hH
  obtain ⟨_, hH⟩ := hp_open 1 rfl AllI.open_ hH
  exact m_fin0 (e := .normal) rfl (fun w' h => tells (X := Unit) (val := fun _ => .tuple #[]) (post := fun _ => [cell g 23 #[.slice A0 y.length c0], Vec 5 1 encB (.slice A0 y.length c0) y, T N]) (os := [cell gy 38 #[.func (.func F) #[] caps.toArray], T N, Vec 5 1 encB (.slice A0 y.length c0) y, cell g2 23 #[.slice A0 y.length c0], cell g 23 #[.slice A0 y.length c0]]) () rfl [4, 2, 1] rfl h same_parts) (by simp) D aT wT hD hD0 hd hF hH

set_option maxRecDepth 100000 in
theorem all1S (g : Nat) {A0 : Option Addr} {c0 : Nat} {y : List UInt8} {ps : List (List UInt8)} {N : Nat} (hl : y.length ≤ 137438953472) (hr : (listL y).1 = ps) (hlen : ∀ x, x ∈ ps → x.length ≤ 65536) (F : FuncId) (caps : List Value) (hE : Ent Try.prog F) (T : Nat → Ass) (hN : N < ps.length) (hyy : ∀ j x d, ps[j]? = some x → j < N → Does Try.prog F (([d] : List Value) ++ caps).toArray [T j, Vec 5 1 encB d x] (fun _ : Unit => .bool true) (fun _ : Unit => [T (j + 1)])) (hzz : ∀ j x d, ps[j]? = some x → j = N → Does Try.prog F (([d] : List Value) ++ caps).toArray [T j, Vec 5 1 encB d x] (fun _ : Unit => .bool false) (fun _ : Unit => [T (j + 1)])) : Does Try.prog 23 #[.func (.func F) #[] caps.toArray, .pointer (some ⟨g, 0, none⟩)] [cell g 23 #[.slice A0 y.length c0], Vec 5 1 encB (.slice A0 y.length c0) y, T 0] (fun (_ : Unit) => .tuple #[]) (fun (_ : Unit) => [cell g 23 #[.slice A0 y.length c0], Vec 5 1 encB (.slice A0 y.length c0) y, T (N + 1)]) := by
  refine d_insM (args := [.func (.func F) #[] caps.toArray, .pointer (some ⟨g, 0, none⟩)]) 14 Try.func23 rfl rfl rfl ?_; intro w rs
  refine d_reg ?_
  refine h_q hflS rfl ?_
  refine h_act (post := fun gy => [cell gy 38 #[.func (.func F) #[] caps.toArray], cell g 23 #[.slice A0 y.length c0], Vec 5 1 encB (.slice A0 y.length c0) y, T 0]) rfl (a_box (cs := #[.func (.func F) #[] caps.toArray]) rfl rfl rfl) ?_; rintro gy
  refine h_done (d_seq (d_reg ?_))
  refine h_q hflS rfl ?_
  refine h_val rfl (.func (.func F) #[] caps.toArray) (fun b w hb hH => exec_load rfl rfl (reads_one ty_func_s_uint8_bool rfl) (hH.row 0 rfl) hb) ?_
  refine h_val rfl (.bool false) (fun b w hb hH => exec_fnil_eql Try.underlying38 rfl rfl rfl hb) ?_
  refine h_done (d_else rfl (d_skip (f_to ?_)))
  refine d_close [0, 3] rfl (allI_mk T 0) rfl ?_
  refine d_reg ?_
  refine h_q hflS rfl ?_
  refine h_val rfl (.slice A0 y.length c0) (fun b w hb hH => exec_load rfl rfl (reads_one ty_s_uint8 rfl) (hH.row 1 rfl) hb) ?_
  refine h_act (post := fun g2 => [cell g2 23 #[.slice A0 y.length c0], AllI gy (.func (.func F) #[] caps.toArray) T 0, cell g 23 #[.slice A0 y.length c0], Vec 5 1 encB (.slice A0 y.length c0) y]) rfl (a_does (os' := fun g2 => [cell g2 23 #[.slice A0 y.length c0], AllI gy (.func (.func F) #[] caps.toArray) T 0, cell g 23 #[.slice A0 y.length c0], Vec 5 1 encB (.slice A0 y.length c0) y]) [] 0 (ent_of Try.func21 (by kernel_rfl) rfl) (complete_does) rfl rfl rfl (fun _ => rfl) rfl rfl rfl) ?_; rintro g2
  refine h_done (d_block ?_)
  refine WC2.keep (env' := [(0, .func (.func F) #[] caps.toArray), (1, .pointer (some ⟨g, 0, none⟩)), (2, .pointer (some ⟨gy, 0, none⟩)), (4, .func (.func F) #[] caps.toArray), (5, .bool false), (6, .slice A0 y.length c0), (7, .func (.func 24) #[] #[.pointer (some ⟨g2, 0, none⟩)])]) ⟨rfl, rfl, rfl, rfl, rfl, rfl, rfl, trivial⟩ ?_
  refine WC2.mid [cell g2 23 #[.slice A0 y.length c0], AllI gy (.func (.func F) #[] caps.toArray) T 0, cell g 23 #[.slice A0 y.length c0], Vec 5 1 encB (.slice A0 y.length c0) y] (.refl _) ?_
  refine wp_rangeS (caps := [.pointer (some ⟨g2, 0, none⟩)]) (post := [Vec 5 1 encB (.slice A0 y.length c0) y, AllI gy (.func (.func F) #[] caps.toArray) T (N + 1), cell g2 23 #[.slice A0 y.length c0]]) (os' := [Vec 5 1 encB (.slice A0 y.length c0) y, AllI gy (.func (.func F) #[] caps.toArray) T (N + 1), cell g2 23 #[.slice A0 y.length c0], cell g 23 #[.slice A0 y.length c0]]) [3, 1, 0] rfl (ent_of Try.func24 (by kernel_rfl) rfl) (fun L fn tm hfr r h1 h2 h3 h4 h5 h6 => complete1S L r g2 (Vec 5 1 encB (.slice A0 y.length c0) y) (AllI gy (.func (.func F) #[] caps.toArray) T) rd8_vec hl hr (by rw [h4]; rfl) hN ?_ ?_) rfl rfl rfl ?_
  · skip
    intro j A c x hpj hjN hXx
    have hxl : x.length ≤ 65536 := hlen x (List.mem_of_getElem? hpj)
    rw [h5, h6]
    refine doesR_of (n := 14) (env := [(8, .slice A x.length c), (0, .func (.func F) #[] caps.toArray), (1, .pointer (some ⟨g, 0, none⟩)), (2, .pointer (some ⟨gy, 0, none⟩)), (4, .func (.func F) #[] caps.toArray), (5, .bool false), (6, .slice A0 y.length c0), (7, .func (.func 24) #[] #[.pointer (some ⟨g2, 0, none⟩)])]) (env1 := [(3, .slice A x.length c), (8, .slice A x.length c), (0, .func (.func F) #[] caps.toArray), (1, .pointer (some ⟨g, 0, none⟩)), (2, .pointer (some ⟨gy, 0, none⟩)), (4, .func (.func F) #[] caps.toArray), (5, .bool false), (6, .slice A0 y.length c0), (7, .func (.func 24) #[] #[.pointer (some ⟨g2, 0, none⟩)])]) h1 h2 ?_ ?_ ?_
    · rw [h4, h3]
      refine (congrArg (fun t => Fr 14 { tmps := t, defers := [] } _) (?_ : _ = (tm.setIfInBounds 8 (.slice A x.length c)))).mpr (hfr.put (d := 8) (by decide) _)
      simp
    · exact fun K w hK a hF => r_one rfl rfl (fun a h => exec_assign rfl rfl h) (fun a h => hK a h) a hF
    · intro w0 rs
      refine r_open 1 rfl AllI.open_ (fun _ => rfl) ?_; rintro ⟨⟩
      refine r_block ?_
      refine r_seq ?_
      refine r_any (by kernel_rfl) rfl (by rintro ⟨a, w, h⟩; exact h) ?_
      refine a_emps 1 rfl ?_
      refine a_parS 5 2 [⟨.quiet, [none, none], fun _ => .func (.func F) #[] caps.toArray, []⟩, ⟨.quiet, [none, none], fun _ => .slice A x.length c, []⟩, ⟨.act 0, [some false, some false], fun _ => undef, [1]⟩, ⟨.actv 1, [some true, some false], fun _ => .bool true, [0, 2]⟩, ⟨.quiet, [some true, some true], fun _ => .bool false, [3]⟩] [(3, .slice A x.length c), (2, .pointer (some ⟨gy, 0, none⟩))] (fun ρ => match ρ with | [r0, r1] => [selS r1 (fun _ => emp) (selS r0 (fun d1 => Vec 5 1 encB d1 x) (emp)), cell gy 38 #[.func (.func F) #[] caps.toArray], selS r1 (fun _ => T (j + 1)) (T j), Vec 5 1 encB (.slice A0 y.length c0) y] | _ => []) (by kernel_rfl) ⟨rfl, rfl, trivial⟩ rfl ?_ ?_
      · skip
        refine s_cons (by intro r0_ r1_; exact ⟨rfl, fun b w hH hb => exec_load rfl rfl (reads_one ty_func_s_uint8_bool rfl) (hH.row 1 rfl) hb⟩) ?_
        refine s_cons (by intro r0_ r1_; exact ⟨rfl, fun b w hH hb => exec_q1 hflS rfl hb⟩) ?_
        refine s_cons (by exact ⟨rfl, Acts.s (a_does (os' := fun d1 => [Vec 5 1 encB d1 x, cell gy 38 #[.func (.func F) #[] caps.toArray], T j, Vec 5 1 encB (.slice A0 y.length c0) y]) [3, 0] 1 (ent_of Try.func22 (by kernel_rfl) rfl) (clone8 hXx (by omega)) rfl rfl rfl (fun _ => rfl) rfl rfl rfl) (fun _ => rfl)⟩) ?_
        refine s_cons (by intro d1; exact ⟨rfl, Acts.su (a_doesc (os' := fun _ => [emp, cell gy 38 #[.func (.func F) #[] caps.toArray], T (j + 1), Vec 5 1 encB (.slice A0 y.length c0) y]) (vs := [d1]) (caps := caps) [2, 0] 0 hE (hyy j x d1 hpj hjN) rfl rfl rfl (fun _ => rfl) rfl rfl rfl) rfl⟩) ?_
        refine s_cons (by intro d1 v1_; exact ⟨rfl, fun b w hH hb => exec_q1 hflS rfl hb⟩) ?_
        exact s_nil
      intro d1 v1_
      refine WL2.keep (env' := [(13, .bool false)]) ⟨rfl, trivial⟩ ?_
      refine WL2.leave [0] rfl rfl ?_
      refine h_nil ?_
      refine r_to ?_
      refine r_else rfl ?_
      refine r_skip ?_
      refine f_close [0, 1] rfl (allI_mk T (j + 1)) rfl ?_
      exact r_tell .normal [1, 0] rfl rfl (fun _ _ h => h)
  · skip
    intro j A c x hpj hjN hXx
    have hxl : x.length ≤ 65536 := hlen x (List.mem_of_getElem? hpj)
    rw [h5, h6]
    refine doesS_of (n := 14) (env := [(8, .slice A x.length c), (0, .func (.func F) #[] caps.toArray), (1, .pointer (some ⟨g, 0, none⟩)), (2, .pointer (some ⟨gy, 0, none⟩)), (4, .func (.func F) #[] caps.toArray), (5, .bool false), (6, .slice A0 y.length c0), (7, .func (.func 24) #[] #[.pointer (some ⟨g2, 0, none⟩)])]) (env1 := [(3, .slice A x.length c), (8, .slice A x.length c), (0, .func (.func F) #[] caps.toArray), (1, .pointer (some ⟨g, 0, none⟩)), (2, .pointer (some ⟨gy, 0, none⟩)), (4, .func (.func F) #[] caps.toArray), (5, .bool false), (6, .slice A0 y.length c0), (7, .func (.func 24) #[] #[.pointer (some ⟨g2, 0, none⟩)])]) h1 ?_ ?_ ?_
    · rw [h4, h3]
      refine (congrArg (fun t => Fr 14 { tmps := t, defers := [] } _) (?_ : _ = (tm.setIfInBounds 8 (.slice A x.length c)))).mpr (hfr.put (d := 8) (by decide) _)
      simp
    · exact fun K w hK a hF => r_one rfl rfl (fun a h => exec_assign rfl rfl h) (fun a h => hK a h) a hF
    · intro w0 rs
      refine r_open 1 rfl AllI.open_ (fun _ => rfl) ?_; rintro ⟨⟩
      refine r_block ?_
      refine r_seq ?_
      refine r_any (by kernel_rfl) rfl (by rintro ⟨a, w, h⟩; exact h) ?_
      refine a_emps 1 rfl ?_
      refine a_parS 5 2 [⟨.quiet, [none, none], fun _ => .func (.func F) #[] caps.toArray, []⟩, ⟨.quiet, [none, none], fun _ => .slice A x.length c, []⟩, ⟨.act 0, [some false, some false], fun _ => undef, [1]⟩, ⟨.actv 1, [some true, some false], fun _ => .bool false, [0, 2]⟩, ⟨.quiet, [some true, some true], fun _ => .bool true, [3]⟩] [(3, .slice A x.length c), (2, .pointer (some ⟨gy, 0, none⟩))] (fun ρ => match ρ with | [r0, r1] => [selS r1 (fun _ => emp) (selS r0 (fun d1 => Vec 5 1 encB d1 x) (emp)), cell gy 38 #[.func (.func F) #[] caps.toArray], selS r1 (fun _ => T (j + 1)) (T j), Vec 5 1 encB (.slice A0 y.length c0) y] | _ => []) (by kernel_rfl) ⟨rfl, rfl, trivial⟩ rfl ?_ ?_
      · skip
        refine s_cons (by intro r0_ r1_; exact ⟨rfl, fun b w hH hb => exec_load rfl rfl (reads_one ty_func_s_uint8_bool rfl) (hH.row 1 rfl) hb⟩) ?_
        refine s_cons (by intro r0_ r1_; exact ⟨rfl, fun b w hH hb => exec_q1 hflS rfl hb⟩) ?_
        refine s_cons (by exact ⟨rfl, Acts.s (a_does (os' := fun d1 => [Vec 5 1 encB d1 x, cell gy 38 #[.func (.func F) #[] caps.toArray], T j, Vec 5 1 encB (.slice A0 y.length c0) y]) [3, 0] 1 (ent_of Try.func22 (by kernel_rfl) rfl) (clone8 hXx (by omega)) rfl rfl rfl (fun _ => rfl) rfl rfl rfl) (fun _ => rfl)⟩) ?_
        refine s_cons (by intro d1; exact ⟨rfl, Acts.su (a_doesc (os' := fun _ => [emp, cell gy 38 #[.func (.func F) #[] caps.toArray], T (j + 1), Vec 5 1 encB (.slice A0 y.length c0) y]) (vs := [d1]) (caps := caps) [2, 0] 0 hE (hzz j x d1 hpj hjN) rfl rfl rfl (fun _ => rfl) rfl rfl rfl) rfl⟩) ?_
        refine s_cons (by intro d1 v1_; exact ⟨rfl, fun b w hH hb => exec_q1 hflS rfl hb⟩) ?_
        exact s_nil
      intro d1 v1_
      refine WL2.keep (env' := [(13, .bool true)]) ⟨rfl, trivial⟩ ?_
      refine WL2.leave [0] rfl rfl ?_
      refine h_nil ?_
      refine r_to ?_
      refine r_then rfl ?_
      refine r_ret ?_
      refine f_close [0, 1] rfl (allI_mk T (j + 1)) rfl ?_
      exact r_tell .ret [1, 0] rfl rfl (fun _ _ h => h)
  intro D aT wT hD hD0 hd hF hH
  obtain ⟨_, hH⟩ := hp_open 1 rfl AllI.open_ hH
  exact m_fin0 (e := .ret) rfl (fun w' h => tells (X := Unit) (val := fun _ => .tuple #[]) (post := fun _ => [cell g 23 #[.slice A0 y.length c0], Vec 5 1 encB (.slice A0 y.length c0) y, T (N + 1)]) (os := [cell gy 38 #[.func (.func F) #[] caps.toArray], T (N + 1), Vec 5 1 encB (.slice A0 y.length c0) y, cell g2 23 #[.slice A0 y.length c0], cell g 23 #[.slice A0 y.length c0]]) () rfl [4, 2, 1] rfl h same_parts) (by simp) D aT wT hD hD0 hd hF hH
end Go.Proofs.Ythamiglbifgepaa.Sep
