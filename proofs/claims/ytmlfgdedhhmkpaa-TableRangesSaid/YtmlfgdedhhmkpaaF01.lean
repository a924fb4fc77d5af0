/-
  TabO
-/
import Derived.Test.YtmlfgdedhhmkpaaE02
set_option linter.unusedSimpArgs false
set_option linter.unusedVariables false

namespace Go.Proofs.Ytmlfgdedhhmkpaa.Sep
open Go.RowKit
open Go.Proofs.Ytmlfgdedhhmkpaa.Mem (Dist Blk Chg below0)

/-- what a ranging has told so far -/
def Told (gk gv gm : Nat) (most : Int) (A C : List Int) : Ass := fun rs => ∃ kv vv, Parts [cell gk 44 #[kv], cell gv 45 #[vv], cell gm 3 #[.int .i64 most], Vec 42 1 encU kv A, Vec 3 1 encI vv C] rs
theorem Told.open_ {gk gv gm : Nat} {most : Int} {A C : List Int} : ∀ rs, Told gk gv gm most A C rs → ∃ x : Value × Value, Parts [cell gk 44 #[x.1], cell gv 45 #[x.2], cell gm 3 #[.int .i64 most], Vec 42 1 encU x.1 A, Vec 3 1 encI x.2 C] rs := fun rs ⟨kv, vv, h⟩ => ⟨(kv, vv), h⟩

set_option maxRecDepth 100000 in
theorem told1 (gk gv gm : Nat) (most : Int) (A C : List Int) (a b : Int) {n : Nat} (hA : A.length = n) (hC : C.length = n) (hn : n ≤ 4096) {c : Bool} (hc : decide (((A ++ [a]).length : Int) < most) = c) : Does Try.prog 47 #[.int .u64 a, .int .i64 b, .pointer (some ⟨gk, 0, none⟩), .pointer (some ⟨gv, 0, none⟩), .pointer (some ⟨gm, 0, none⟩)] [Told gk gv gm most A C] (fun (_ : Unit) => .bool c) (fun (_ : Unit) => [Told gk gv gm most (A ++ [a]) (C ++ [b])]) := by
  subst hc
  refine d_ins (args := [.int .u64 a, .int .i64 b, .pointer (some ⟨gk, 0, none⟩), .pointer (some ⟨gv, 0, none⟩), .pointer (some ⟨gm, 0, none⟩)]) 20 Try.func47 rfl rfl rfl ?_; intro w rs
  refine d_open 0 rfl Told.open_ (fun _ => rfl) ?_; rintro ⟨kv, vv⟩
  refine WC2.keep (env' := [(0, .int .u64 a), (1, .int .i64 b), (2, .pointer (some ⟨gk, 0, none⟩)), (3, .pointer (some ⟨gv, 0, none⟩)), (4, .pointer (some ⟨gm, 0, none⟩))]) ⟨rfl, rfl, rfl, rfl, rfl, trivial⟩ ?_
  refine WC2.mid [cell gk 44 #[kv], cell gv 45 #[vv], cell gm 3 #[.int .i64 most], Vec 42 1 encU kv A, Vec 3 1 encI vv C] (.refl _) ?_
  refine d_reg ?_
  refine h_q hflS rfl ?_
  refine h_done (d_reg ?_)
  refine h_q hflS rfl ?_
  refine h_val rfl (kv) (fun b w hb hH => exec_load rfl rfl (reads_one ty_s_uint64 rfl) (hH.row 0 rfl) hb) ?_
  refine h_q hflS rfl ?_
  refine h_act (X := Value) (val := fun v : Value => v) (post := fun u1 => [Vec 42 1 encU u1 ([a]), cell gk 44 #[kv], cell gv 45 #[vv], cell gm 3 #[.int .i64 most], Vec 42 1 encU kv A, Vec 3 1 encI vv C]) rfl (by refine a_build1 (e := 42) (t := 44) (enc := encU) (x := .tmp 9) (c := .int .u64 a) ?_ ?_ a ?_ ?_ ?_; exact sl_uint64; exact okU; exact rfl; exact rfl; exact rfl) ?_; rintro u1
  refine h_act (post := fun u2 => [Vec 42 1 encU u1 ([a]), cell gk 44 #[kv], cell gv 45 #[vv], cell gm 3 #[.int .i64 most], Vec 42 1 encU u2 (A ++ ([a])), Vec 3 1 encI vv C]) rfl (a_append 4 sl_uint64 okU rfl ([a]) (fun w hH => hH.vec 0 rfl okU) (by simp only [List.length_cons, List.length_nil]; omega) rfl rfl rfl rfl) ?_; rintro u2
  refine h_acts (post := fun _ => [Vec 42 1 encU u1 ([a]), cell gk 44 #[u2], cell gv 45 #[vv], cell gm 3 #[.int .i64 most], Vec 42 1 encU u2 (A ++ ([a])), Vec 3 1 encI vv C]) rfl rfl (a_storev 1 4 (v := u2) #[u2] ty_s_uint64.2 rfl (fun _ h => Vec.c1 h) rfl rfl rfl rfl rfl rfl rfl) ?_; rintro ⟨⟩
  refine h_done (d_reg ?_)
  refine h_q hflS rfl ?_
  refine h_val rfl (vv) (fun b w hb hH => exec_load rfl rfl (reads_one ty_s_int rfl) (hH.row 2 rfl) hb) ?_
  refine h_q hflS rfl ?_
  refine h_act (X := Value) (val := fun v : Value => v) (post := fun u3 => [Vec 3 1 encI u3 ([b]), Vec 42 1 encU u1 ([a]), cell gk 44 #[u2], cell gv 45 #[vv], cell gm 3 #[.int .i64 most], Vec 42 1 encU u2 (A ++ ([a])), Vec 3 1 encI vv C]) rfl (by refine a_build1 (e := 3) (t := 45) (enc := encI) (x := .tmp 13) (c := .int .i64 b) ?_ ?_ b ?_ ?_ ?_; exact sl_int; exact okI; exact rfl; exact rfl; exact rfl) ?_; rintro u3
  refine h_act (post := fun u4 => [Vec 3 1 encI u3 ([b]), Vec 42 1 encU u1 ([a]), cell gk 44 #[u2], cell gv 45 #[vv], cell gm 3 #[.int .i64 most], Vec 42 1 encU u2 (A ++ ([a])), Vec 3 1 encI u4 (C ++ ([b]))]) rfl (a_append 6 sl_int okI rfl ([b]) (fun w hH => hH.vec 0 rfl okI) (by simp only [List.length_cons, List.length_nil]; omega) rfl rfl rfl rfl) ?_; rintro u4
  refine h_acts (post := fun _ => [Vec 3 1 encI u3 ([b]), Vec 42 1 encU u1 ([a]), cell gk 44 #[u2], cell gv 45 #[u4], cell gm 3 #[.int .i64 most], Vec 42 1 encU u2 (A ++ ([a])), Vec 3 1 encI u4 (C ++ ([b]))]) rfl rfl (a_storev 3 6 (v := u4) #[u4] ty_s_int.2 rfl (fun _ h => Vec.c1 h) rfl rfl rfl rfl rfl rfl rfl) ?_; rintro ⟨⟩
  refine h_done (d_reg ?_)
  refine h_q hflS rfl ?_
  refine h_val rfl (u2) (fun b w hb hH => exec_load rfl rfl (reads_one ty_s_uint64 rfl) (hH.row 2 rfl) hb) ?_
  refine h_val rfl (.int .i64 ((A ++ ([a])).length : Int)) (fun b w hb hH => e_vlen 5 Try.underlying44 rfl rfl rfl hH hb) ?_
  refine h_val rfl (.int .i64 most) (fun b w hb hH => exec_load rfl rfl (reads_one ty_int rfl) (hH.row 4 rfl) hb) ?_
  refine h_val rfl (.bool (decide (((A ++ ([a])).length : Int) < most))) (fun b w hb hH => exec_cmp rfl rfl rfl rfl hb) ?_
  refine h_q hflS rfl ?_
  refine h_done (d_ret ?_)
  exact f_fin1 (.tmp rfl) (fun w h => tells () rfl [2, 3, 4, 5, 6] rfl h (fun z hz => ⟨z, .refl _, Parts.one ⟨_, _, hz⟩⟩)) rfl

def InvO (p : Nat) (m : Int) (K V : List Int) (gk gv gm : Nat) (most : Int) (q j : Nat) : Ass := fun rs => Parts [Tab 85 42 3 encU encI ltI p m K V, Told gk gv gm most ((K.drop q).take j) ((V.drop q).take j)] rs
theorem InvO.open_ {p : Nat} {m : Int} {K V : List Int} {gk gv gm : Nat} {most : Int} {q j : Nat} : ∀ rs, InvO p m K V gk gv gm most q j rs → ∃ _ : Unit, Parts [Tab 85 42 3 encU encI ltI p m K V, Told gk gv gm most ((K.drop q).take j) ((V.drop q).take j)] rs := fun _ h => ⟨(), h⟩

theorem take_next {α : Type} {l : List α} {j : Nat} {x : α} (h : l[j]? = some x) : l.take (j + 1) = l.take j ++ [x] := by
  rw [List.take_add_one, h]; rfl
theorem take_length {α : Type} {l : List α} {j n : Nat} {x : α} (h : l[j]? = some x) (hn : j = n) : (l.take j).length = n := by
  have := (List.getElem?_eq_some_iff.1 h).1
  rw [List.length_take]; omega

set_option maxRecDepth 100000 in
theorem told_all (p : Nat) (m : Int) (K V : List Int) (fr most : Int) (hm : 1 ≤ most ∧ most ≤ 20) {N : Nat} (hN : (N : Int) = min most ((K.length : Int) - 0)) : Does Try.prog 24 #[.pointer (some ⟨p, 0, none⟩), .int .u64 fr, .bool true, .int .i64 most] [Tab 85 42 3 encU encI ltI p m K V] (fun (x : Value × Value) => .tuple #[x.1, x.2]) (fun (x : Value × Value) => [Tab 85 42 3 encU encI ltI p m K V, Vec 42 1 encU x.1 ((K.drop 0).take N), Vec 3 1 encI x.2 ((V.drop 0).take N)]) := by
  refine d_ins (args := [.pointer (some ⟨p, 0, none⟩), .int .u64 fr, .bool true, .int .i64 most]) 26 Try.func24 rfl rfl rfl ?_; intro w rs
  refine WC2.fact 0 rfl Tab.ok ?_; rintro hT
  have hVK := hT.len
  have hKm := hT.le
  have hm4 := hT.lim
  refine d_reg ?_
  refine h_q hflS rfl ?_
  refine h_act (post := fun gm => [cell gm 3 #[.int .i64 most], Tab 85 42 3 encU encI ltI p m K V]) rfl (a_box (cs := #[.int .i64 most]) rfl rfl rfl) ?_; rintro gm
  refine h_q hflS rfl ?_
  refine h_done (d_reg ?_)
  refine h_q hflS rfl ?_
  refine h_act (post := fun gk => [cell gk 44 #[.slice none 0 0], cell gm 3 #[.int .i64 most], Tab 85 42 3 encU encI ltI p m K V]) rfl (a_alloc ze_s_uint64 rfl) ?_; rintro gk
  refine h_done (d_reg ?_)
  refine h_q hflS rfl ?_
  refine h_act (post := fun gv => [cell gv 45 #[.slice none 0 0], cell gk 44 #[.slice none 0 0], cell gm 3 #[.int .i64 most], Tab 85 42 3 encU encI ltI p m K V]) rfl (a_alloc ze_s_int rfl) ?_; rintro gv
  refine h_done (d_reg ?_)
  refine h_q hflS rfl ?_
  refine h_val rfl (.func (.func 47) #[] #[.pointer (some ⟨gk, 0, none⟩), .pointer (some ⟨gv, 0, none⟩), .pointer (some ⟨gm, 0, none⟩)]) (fun b w hb hH => e_func rfl rfl hb) ?_
  refine h_q hflS rfl ?_
  refine h_done (d_seq ?_)
  have hyy : ∀ j a b, j < N → (K.drop 0)[j]? = some a → (V.drop 0)[j]? = some b → Does Try.prog 47 (([.int .u64 a, .int .i64 b] : List Value) ++ ([.pointer (some ⟨gk, 0, none⟩), .pointer (some ⟨gv, 0, none⟩), .pointer (some ⟨gm, 0, none⟩)] : List Value)).toArray [(InvO p m K V gk gv gm most 0) j] (fun _ : Unit => .bool (decide ((j : Int) + 1 < most))) (fun _ : Unit => [(InvO p m K V gk gv gm most 0) (j + 1)]) := fun j a b hj ha hb => by
          have hl : j < 4096 := by have := (List.getElem?_eq_some_iff.1 ha).1; rw [List.length_drop] at this; omega
          unfold InvO
          rw [take_next ha, take_next hb]
          exact does_under (told1 gk gv gm most _ _ a b (take_length ha rfl) (take_length hb rfl) (by omega) (by
            have hj2 := take_length ha rfl
            exact congrArg (fun z : Int => decide (z < most)) (by rw [List.length_append, hj2]; rfl)))
  refine d_nilvec 3 1 encI ?_
  refine d_nilvec 42 1 encU ?_
  refine d_close [3, 2, 4, 0, 1] rfl (fun rs hz => (⟨_, _, hz⟩ : Told gk gv gm most [] [] rs)) rfl ?_
  refine d_reg ?_
  refine h_q hflS rfl ?_
  refine h_done (d_then rfl (d_reg1 ?_))
  refine h_q hflS rfl ?_
  refine h_act (post := fun ga => [cell ga 39 #[.pointer (some ⟨p, 0, none⟩)], Told gk gv gm most ([]) ([]), Tab 85 42 3 encU encI ltI p m K V]) rfl (a_does (os' := fun ga => [cell ga 39 #[.pointer (some ⟨p, 0, none⟩)], Told gk gv gm most ([]) ([]), Tab 85 42 3 encU encI ltI p m K V]) [] 0 (ent_of Try.func26 (by kernel_rfl) rfl) (all_uint64_int p) rfl rfl rfl (fun _ => rfl) rfl rfl rfl) ?_; rintro ga
  refine h_q hflS rfl ?_
  refine h_act (post := fun _ => [cell ga 39 #[.pointer (some ⟨p, 0, none⟩)], emp, InvO p m K V gk gv gm most 0 N]) rfl (a_doesc (os' := fun _ => [cell ga 39 #[.pointer (some ⟨p, 0, none⟩)], emp, InvO p m K V gk gv gm most 0 N]) (vs := [.func (.func 47) #[] #[.pointer (some ⟨gk, 0, none⟩), .pointer (some ⟨gv, 0, none⟩), .pointer (some ⟨gm, 0, none⟩)]]) (caps := [.pointer (some ⟨ga, 0, none⟩)]) [0, 2, 1] 0 (ent_of Try.func51 (by kernel_rfl) rfl) (all1_uint64_int p m K V ga 47 ([.pointer (some ⟨gk, 0, none⟩), .pointer (some ⟨gv, 0, none⟩), .pointer (some ⟨gm, 0, none⟩)] : List Value) (ent_of Try.func47 (by kernel_rfl) rfl) (Told gk gv gm most [] []) (InvO p m K V gk gv gm most 0) (fun j => decide ((j : Int) + 1 < most)) N (by omega) (fun rs h => h) (fun j hj => decide_eq_true (by omega)) (fun hj => ⟨by omega, decide_eq_false (by omega)⟩) hyy) rfl rfl rfl (fun _ => rfl) rfl rfl rfl) ?_; rintro ⟨⟩
  refine WL2.leave [1] rfl rfl ?_
  refine h_nil (f_to ?_)
  refine d_open 1 rfl InvO.open_ (fun _ => rfl) ?_; rintro ⟨⟩
  refine d_open 1 rfl Told.open_ (fun _ => rfl) ?_; rintro ⟨kv, vv⟩
  refine WC2.keep (env' := [(0, .pointer (some ⟨p, 0, none⟩)), (1, .int .u64 fr), (2, .bool true), (3, .int .i64 most), (7, .pointer (some ⟨gm, 0, none⟩)), (8, .slice none 0 0), (9, .slice none 0 0), (10, .pointer (some ⟨gk, 0, none⟩)), (11, .pointer (some ⟨gv, 0, none⟩)), (13, .func (.func 47) #[] #[.pointer (some ⟨gk, 0, none⟩), .pointer (some ⟨gv, 0, none⟩), .pointer (some ⟨gm, 0, none⟩)]), (12, .func (.func 47) #[] #[.pointer (some ⟨gk, 0, none⟩), .pointer (some ⟨gv, 0, none⟩), .pointer (some ⟨gm, 0, none⟩)]), (14, .bool true), (15, .pointer (some ⟨p, 0, none⟩)), (16, .func (.func 51) #[] #[.pointer (some ⟨ga, 0, none⟩)]), (17, .func (.func 47) #[] #[.pointer (some ⟨gk, 0, none⟩), .pointer (some ⟨gv, 0, none⟩), .pointer (some ⟨gm, 0, none⟩)]), (18, .tuple #[])]) ⟨rfl, rfl, rfl, rfl, rfl, rfl, rfl, rfl, rfl, rfl, rfl, rfl, rfl, rfl, rfl, rfl, trivial⟩ ?_
  refine WC2.mid [cell gk 44 #[kv], cell gv 45 #[vv], cell gm 3 #[.int .i64 most], Vec 42 1 encU kv ((K.drop 0).take N), Vec 3 1 encI vv ((V.drop 0).take N), Tab 85 42 3 encU encI ltI p m K V, cell ga 39 #[.pointer (some ⟨p, 0, none⟩)]] (.refl _) ?_
  refine d_seq ?_
  refine d_parS 3 0 [⟨.quiet, [], fun _ => kv, []⟩, ⟨.quiet, [], fun _ => vv, []⟩, ⟨.quiet, [], fun _ => kv, [0]⟩] [(9, .slice none 0 0), (10, .pointer (some ⟨gk, 0, none⟩)), (11, .pointer (some ⟨gv, 0, none⟩))] (fun _ => [cell gk 44 #[kv], cell gv 45 #[vv], cell gm 3 #[.int .i64 most], Vec 42 1 encU kv ((K.drop 0).take N), Vec 3 1 encI vv ((V.drop 0).take N), Tab 85 42 3 encU encI ltI p m K V, cell ga 39 #[.pointer (some ⟨p, 0, none⟩)]]) (by kernel_rfl) (by kernel_rfl) ⟨rfl, rfl, rfl, trivial⟩ rfl ?_ ?_
  · skip
    refine s_cons (by exact ⟨rfl, fun b w hH hb => exec_load rfl rfl (reads_one ty_s_uint64 rfl) (hH.row 0 rfl) hb⟩) ?_
    refine s_cons (by exact ⟨rfl, fun b w hH hb => exec_load rfl rfl (reads_one ty_s_int rfl) (hH.row 1 rfl) hb⟩) ?_
    refine s_cons (by exact ⟨rfl, fun b w hH hb => exec_q1 hflS rfl hb⟩) ?_
    exact s_nil
  refine WL2.keep (env' := [(9, .slice none 0 0), (25, vv), (8, kv)]) ⟨rfl, rfl, rfl, trivial⟩ ?_
  refine h_q hflS rfl ?_
  refine h_nil (f_to (d_ret ?_))
  exact f_fin2 (.tmp rfl) (.tmp rfl) (fun w h => tells (kv, vv) rfl [5, 3, 4] rfl h same_parts) rfl

set_option maxRecDepth 100000 in
theorem told_from (p : Nat) (m : Int) (K V : List Int) (fr most : Int) (hm : 1 ≤ most ∧ most ≤ 20) {q : Nat} (hq : pos ltI K fr = q) {N : Nat} (hN : (N : Int) = min most ((K.length : Int) - q)) : Does Try.prog 24 #[.pointer (some ⟨p, 0, none⟩), .int .u64 fr, .bool false, .int .i64 most] [Tab 85 42 3 encU encI ltI p m K V] (fun (x : Value × Value) => .tuple #[x.1, x.2]) (fun (x : Value × Value) => [Tab 85 42 3 encU encI ltI p m K V, Vec 42 1 encU x.1 ((K.drop q).take N), Vec 3 1 encI x.2 ((V.drop q).take N)]) := by
  refine d_ins (args := [.pointer (some ⟨p, 0, none⟩), .int .u64 fr, .bool false, .int .i64 most]) 26 Try.func24 rfl rfl rfl ?_; intro w rs
  refine WC2.fact 0 rfl Tab.ok ?_; rintro hT
  have hVK := hT.len
  have hKm := hT.le
  have hm4 := hT.lim
  have hqK : q ≤ K.length := hq ▸ pos_le K
  refine d_reg ?_
  refine h_q hflS rfl ?_
  refine h_act (post := fun gm => [cell gm 3 #[.int .i64 most], Tab 85 42 3 encU encI ltI p m K V]) rfl (a_box (cs := #[.int .i64 most]) rfl rfl rfl) ?_; rintro gm
  refine h_q hflS rfl ?_
  refine h_done (d_reg ?_)
  refine h_q hflS rfl ?_
  refine h_act (post := fun gk => [cell gk 44 #[.slice none 0 0], cell gm 3 #[.int .i64 most], Tab 85 42 3 encU encI ltI p m K V]) rfl (a_alloc ze_s_uint64 rfl) ?_; rintro gk
  refine h_done (d_reg ?_)
  refine h_q hflS rfl ?_
  refine h_act (post := fun gv => [cell gv 45 #[.slice none 0 0], cell gk 44 #[.slice none 0 0], cell gm 3 #[.int .i64 most], Tab 85 42 3 encU encI ltI p m K V]) rfl (a_alloc ze_s_int rfl) ?_; rintro gv
  refine h_done (d_reg ?_)
  refine h_q hflS rfl ?_
  refine h_val rfl (.func (.func 47) #[] #[.pointer (some ⟨gk, 0, none⟩), .pointer (some ⟨gv, 0, none⟩), .pointer (some ⟨gm, 0, none⟩)]) (fun b w hb hH => e_func rfl rfl hb) ?_
  refine h_q hflS rfl ?_
  refine h_done (d_seq ?_)
  have hyy : ∀ j a b, j < N → (K.drop q)[j]? = some a → (V.drop q)[j]? = some b → Does Try.prog 47 (([.int .u64 a, .int .i64 b] : List Value) ++ ([.pointer (some ⟨gk, 0, none⟩), .pointer (some ⟨gv, 0, none⟩), .pointer (some ⟨gm, 0, none⟩)] : List Value)).toArray [(InvO p m K V gk gv gm most q) j] (fun _ : Unit => .bool (decide ((j : Int) + 1 < most))) (fun _ : Unit => [(InvO p m K V gk gv gm most q) (j + 1)]) := fun j a b hj ha hb => by
          have hl : j < 4096 := by have := (List.getElem?_eq_some_iff.1 ha).1; rw [List.length_drop] at this; omega
          unfold InvO
          rw [take_next ha, take_next hb]
          exact does_under (told1 gk gv gm most _ _ a b (take_length ha rfl) (take_length hb rfl) (by omega) (by
            have hj2 := take_length ha rfl
            exact congrArg (fun z : Int => decide (z < most)) (by rw [List.length_append, hj2]; rfl)))
  refine d_nilvec 3 1 encI ?_
  refine d_nilvec 42 1 encU ?_
  refine d_close [3, 2, 4, 0, 1] rfl (fun rs hz => (⟨_, _, hz⟩ : Told gk gv gm most [] [] rs)) rfl ?_
  refine d_reg ?_
  refine h_q hflS rfl ?_
  refine h_done (d_else rfl (d_reg1 ?_))
  refine h_q hflS rfl ?_
  refine h_act rfl (a_does  [] 0 (ent_of Try.func48 (by kernel_rfl) rfl) (from_uint64_int p fr) rfl rfl rfl (fun _ => rfl) rfl rfl rfl) ?_; rintro ⟨ga, gb⟩
  refine WL2.keep (env' := [(0, .pointer (some ⟨p, 0, none⟩)), (1, .int .u64 fr), (2, .bool false), (3, .int .i64 most), (7, .pointer (some ⟨gm, 0, none⟩)), (8, .slice none 0 0), (9, .slice none 0 0), (10, .pointer (some ⟨gk, 0, none⟩)), (11, .pointer (some ⟨gv, 0, none⟩)), (13, .func (.func 47) #[] #[.pointer (some ⟨gk, 0, none⟩), .pointer (some ⟨gv, 0, none⟩), .pointer (some ⟨gm, 0, none⟩)]), (12, .func (.func 47) #[] #[.pointer (some ⟨gk, 0, none⟩), .pointer (some ⟨gv, 0, none⟩), .pointer (some ⟨gm, 0, none⟩)]), (14, .bool false), (19, .pointer (some ⟨p, 0, none⟩)), (20, .int .u64 fr), (21, .func (.func 62) #[] #[.pointer (some ⟨ga, 0, none⟩), .pointer (some ⟨gb, 0, none⟩)])]) ⟨rfl, rfl, rfl, rfl, rfl, rfl, rfl, rfl, rfl, rfl, rfl, rfl, rfl, rfl, rfl, trivial⟩ ?_
  refine WL2.mid [cell ga 39 #[.pointer (some ⟨p, 0, none⟩)], cell gb 42 #[.int .u64 fr], Told gk gv gm most ([]) ([]), Tab 85 42 3 encU encI ltI p m K V] (.refl _) ?_
  refine h_q hflS rfl ?_
  refine h_act (post := fun _ => [cell ga 39 #[.pointer (some ⟨p, 0, none⟩)], cell gb 42 #[.int .u64 fr], emp, InvO p m K V gk gv gm most q N]) rfl (a_doesc (os' := fun _ => [cell ga 39 #[.pointer (some ⟨p, 0, none⟩)], cell gb 42 #[.int .u64 fr], emp, InvO p m K V gk gv gm most q N]) (vs := [.func (.func 47) #[] #[.pointer (some ⟨gk, 0, none⟩), .pointer (some ⟨gv, 0, none⟩), .pointer (some ⟨gm, 0, none⟩)]]) (caps := [.pointer (some ⟨ga, 0, none⟩), .pointer (some ⟨gb, 0, none⟩)]) [0, 1, 3, 2] 0 (ent_of Try.func62 (by kernel_rfl) rfl) (from1_uint64_int p m K V ga gb fr hq 47 ([.pointer (some ⟨gk, 0, none⟩), .pointer (some ⟨gv, 0, none⟩), .pointer (some ⟨gm, 0, none⟩)] : List Value) (ent_of Try.func47 (by kernel_rfl) rfl) (Told gk gv gm most [] []) (InvO p m K V gk gv gm most q) (fun j => decide ((j : Int) + 1 < most)) N (by omega) (fun rs h => h) (fun j hj => decide_eq_true (by omega)) (fun hj => ⟨by omega, decide_eq_false (by omega)⟩) hyy) rfl rfl rfl (fun _ => rfl) rfl rfl rfl) ?_; rintro ⟨⟩
  refine WL2.leave [2] rfl rfl ?_
  refine h_nil (f_to ?_)
  refine d_open 2 rfl InvO.open_ (fun _ => rfl) ?_; rintro ⟨⟩
  refine d_open 1 rfl Told.open_ (fun _ => rfl) ?_; rintro ⟨kv, vv⟩
  refine WC2.keep (env' := [(0, .pointer (some ⟨p, 0, none⟩)), (1, .int .u64 fr), (2, .bool false), (3, .int .i64 most), (7, .pointer (some ⟨gm, 0, none⟩)), (8, .slice none 0 0), (9, .slice none 0 0), (10, .pointer (some ⟨gk, 0, none⟩)), (11, .pointer (some ⟨gv, 0, none⟩)), (13, .func (.func 47) #[] #[.pointer (some ⟨gk, 0, none⟩), .pointer (some ⟨gv, 0, none⟩), .pointer (some ⟨gm, 0, none⟩)]), (12, .func (.func 47) #[] #[.pointer (some ⟨gk, 0, none⟩), .pointer (some ⟨gv, 0, none⟩), .pointer (some ⟨gm, 0, none⟩)]), (14, .bool false), (19, .pointer (some ⟨p, 0, none⟩)), (20, .int .u64 fr), (21, .func (.func 62) #[] #[.pointer (some ⟨ga, 0, none⟩), .pointer (some ⟨gb, 0, none⟩)]), (22, .func (.func 47) #[] #[.pointer (some ⟨gk, 0, none⟩), .pointer (some ⟨gv, 0, none⟩), .pointer (some ⟨gm, 0, none⟩)]), (23, .tuple #[])]) ⟨rfl, rfl, rfl, rfl, rfl, rfl, rfl, rfl, rfl, rfl, rfl, rfl, rfl, rfl, rfl, rfl, rfl, trivial⟩ ?_
  refine WC2.mid [cell gk 44 #[kv], cell gv 45 #[vv], cell gm 3 #[.int .i64 most], Vec 42 1 encU kv ((K.drop q).take N), Vec 3 1 encI vv ((V.drop q).take N), Tab 85 42 3 encU encI ltI p m K V, cell ga 39 #[.pointer (some ⟨p, 0, none⟩)], cell gb 42 #[.int .u64 fr]] (.refl _) ?_
  refine d_seq ?_
  refine d_parS 3 0 [⟨.quiet, [], fun _ => kv, []⟩, ⟨.quiet, [], fun _ => vv, []⟩, ⟨.quiet, [], fun _ => kv, [0]⟩] [(9, .slice none 0 0), (10, .pointer (some ⟨gk, 0, none⟩)), (11, .pointer (some ⟨gv, 0, none⟩))] (fun _ => [cell gk 44 #[kv], cell gv 45 #[vv], cell gm 3 #[.int .i64 most], Vec 42 1 encU kv ((K.drop q).take N), Vec 3 1 encI vv ((V.drop q).take N), Tab 85 42 3 encU encI ltI p m K V, cell ga 39 #[.pointer (some ⟨p, 0, none⟩)], cell gb 42 #[.int .u64 fr]]) (by kernel_rfl) (by kernel_rfl) ⟨rfl, rfl, rfl, trivial⟩ rfl ?_ ?_
  · skip
    refine s_cons (by exact ⟨rfl, fun b w hH hb => exec_load rfl rfl (reads_one ty_s_uint64 rfl) (hH.row 0 rfl) hb⟩) ?_
    refine s_cons (by exact ⟨rfl, fun b w hH hb => exec_load rfl rfl (reads_one ty_s_int rfl) (hH.row 1 rfl) hb⟩) ?_
    refine s_cons (by exact ⟨rfl, fun b w hH hb => exec_q1 hflS rfl hb⟩) ?_
    exact s_nil
  refine WL2.keep (env' := [(9, .slice none 0 0), (25, vv), (8, kv)]) ⟨rfl, rfl, rfl, trivial⟩ ?_
  refine h_q hflS rfl ?_
  refine h_nil (f_to (d_ret ?_))
  exact f_fin2 (.tmp rfl) (.tmp rfl) (fun w h => tells (kv, vv) rfl [5, 3, 4] rfl h same_parts) rfl
end Go.Proofs.Ytmlfgdedhhmkpaa.Sep
