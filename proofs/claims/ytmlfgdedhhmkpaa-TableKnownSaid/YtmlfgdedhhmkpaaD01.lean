/-
  TabP · TabR · Arg
-/
import Derived.Test.YtmlfgdedhhmkpaaB03
import Derived.Test.YtmlfgdedhhmkpaaB04
import Derived.Test.YtmlfgdedhhmkpaaC02
import Derived.ProofKit
import Derived.OpenShut
import Derived.JoinedCond
set_option linter.unusedSimpArgs false
set_option linter.unusedVariables false

namespace Go.Proofs.Ytmlfgdedhhmkpaa.Sep
open Go.RowKit
open Go.Proofs.Ytmlfgdedhhmkpaa.Mem (Dist Blk Chg below0)

theorem search2_uint64 (v : Value) (l : List (Int)) (k : Int) (hS : Srt ltI l) (hl : l.length ≤ 1099511627776) {q : Nat} {b : Bool} (hq : pos ltI l k = q) (hb : has ltI l k = b) : Does Try.prog 49 #[v, .int .u64 k] [Vec 42 1 encU v l] (fun _ : Unit => .tuple #[.int .i64 (q : Int), .bool b]) (fun _ : Unit => [Vec 42 1 encU v l]) := by
  subst hq; subst hb
  exact search_uint64 v l k hS hl

theorem search2_string (v : Value) (l : List (List UInt8)) (k : List UInt8) (hS : Srt ltS l) (hl : l.length ≤ 1099511627776) {q : Nat} {b : Bool} (hq : pos ltS l k = q) (hb : has ltS l k = b) : Does Try.prog 35 #[v, .string (bs k)] [Vec 9 1 encS v l] (fun _ : Unit => .tuple #[.int .i64 (q : Int), .bool b]) (fun _ : Unit => [Vec 9 1 encS v l]) := by
  subst hq; subst hb
  exact search_string v l k hS hl

theorem tab_and {TT eK eV : TypeId} {κ ν : Type} {encK : κ → List Value} {encV : ν → List Value} {lt : κ → κ → Bool} {p : Nat} {m : Int} {K : List κ} {V : List ν} {kv vv : Value} (hk : TOK lt m K V) {more : List Ass} {y : List RowT} (h : Parts (cell p TT #[.int .i64 m, kv, vv] :: Vec eK 1 encK kv K :: Vec eV 1 encV vv V :: more) y) : Parts (Tab TT eK eV encK encV lt p m K V :: more) y := by
  obtain ⟨a, b, e, h1, c, d, e2, h2, f, g, e3, h3, h4⟩ := h
  exact ⟨a ++ (c ++ f), g, by rw [e, e2, e3]; simp, Tab.mk_ hk ⟨a, c ++ f, rfl, h1, c, f, rfl, h2, Parts.one h3⟩, h4⟩

theorem put_string_int (p : Nat) (m : Int) (K : List (List UInt8)) (V : List (Int)) (k : List UInt8) (v : Int) (R1 : List (List UInt8) × List (Int) × Bool) (hp : putT ltS m K V k v = R1) : Does Try.prog 12 #[.pointer (some ⟨p, 0, none⟩), .string (bs k), .int .i64 v] [Tab 73 9 3 encS encI ltS p m K V] (fun (_ : Unit) => .bool R1.2.2) (fun (_ : Unit) => [Tab 73 9 3 encS encI ltS p m R1.1 R1.2.1]) := by
  obtain ⟨K1, V1, b1⟩ := R1
  refine d_ins (args := [.pointer (some ⟨p, 0, none⟩), .string (bs k), .int .i64 v]) 58 Try.func12 rfl rfl rfl ?_; intro w rs
  refine d_open 0 rfl Tab.open_ (fun _ => rfl) ?_; rintro ⟨⟨kv, vv⟩, hT⟩
  refine WC2.keep (env' := [(0, .pointer (some ⟨p, 0, none⟩)), (1, .string (bs k)), (2, .int .i64 v)]) ⟨rfl, rfl, rfl, trivial⟩ ?_
  refine WC2.mid [cell p 73 #[.int .i64 m, kv, vv], Vec 9 1 encS kv K, Vec 3 1 encI vv V] (.refl _) ?_
  have hVK := hT.len
  have hKm := hT.le
  have hm4 := hT.lim
  obtain ⟨q, hq⟩ : ∃ q, pos ltS K k = q := ⟨_, rfl⟩
  have hqK : q ≤ K.length := hq ▸ pos_le K
  refine d_reg ?_
  refine h_q hflS rfl ?_
  refine h_done ?_
  rcases Bool.eq_false_or_eq_true (has ltS K k) with hh | hh
  · skip
    have hqlt : q < K.length := hq ▸ has_lt hh
    obtain ⟨x, hx⟩ : ∃ x, V[q]? = some x := ⟨_, List.getElem?_eq_getElem (show q < V.length by omega)⟩
    obtain ⟨rfl, rfl, rfl⟩ := putT_has hh hp
    have hok := putT_ok ordS hT hp
    simp only [hq] at hok ⊢
    refine d_reg ?_
    refine h_q hflS rfl ?_
    refine h_val rfl (.pointer (some ⟨p, 0, none⟩)) (fun b w hb hH => by exact exec_nilCheck rfl rfl hb) ?_
    refine h_q hflS rfl ?_
    refine h_val rfl (kv) (fun b w hb hH => exec_load rfl rfl (reads_one ty_s_string rfl) (hH.row 0 rfl) hb) ?_
    refine h_q hflS rfl ?_
    refine h_act (post := fun _ => [cell p 73 #[.int .i64 m, kv, vv], Vec 9 1 encS kv K, Vec 3 1 encI vv V]) rfl (a_does (os' := fun _ => [cell p 73 #[.int .i64 m, kv, vv], Vec 9 1 encS kv K, Vec 3 1 encI vv V]) [1] 0 (ent_of Try.func35 (by kernel_rfl) rfl) (search2_string kv K k hT.srt (by omega) hq hh) rfl rfl rfl (fun _ => rfl) rfl rfl rfl) ?_; rintro ⟨⟩
    refine h_q hflS rfl ?_
    refine h_done (d_seq (d_reg ?_))
    refine h_q hflS rfl ?_
    refine h_done (d_then rfl (d_reg ?_))
    refine h_q hflS rfl ?_
    refine h_val rfl (.pointer (some ⟨p, 0, none⟩)) (fun b w hb hH => by exact exec_nilCheck rfl rfl hb) ?_
    refine h_q hflS rfl ?_
    refine h_val rfl (vv) (fun b w hb hH => exec_load rfl rfl (reads_one ty_s_int rfl) (hH.row 0 rfl) hb) ?_
    refine h_q hflS rfl ?_
    refine h_val rfl (elp vv (q * 1)) (fun b w hb hH => e_vidx 2 sl_int okI rfl q (by omega) rfl rfl rfl hH hb) ?_
    refine h_acts (post := fun _ => [cell p 73 #[.int .i64 m, kv, vv], Vec 9 1 encS kv K, Vec 3 1 encI vv (V.set q v)]) rfl rfl (a_vstore1 2 ty_int okI rfl q (by omega) v rfl rfl rfl rfl rfl) ?_; rintro ⟨⟩
    refine h_done (d_reg ?_)
    refine h_q hflS rfl ?_
    refine h_done (d_ret (f_then_ret ?_))
    exact f_fin1 (.tmp rfl) (fun w h => tells () rfl [0, 1, 2] rfl h (fun z hz => ⟨z, .refl _, Parts.one (Tab.mk_ hok hz)⟩)) rfl
  · skip
    refine d_reg ?_
    refine h_q hflS rfl ?_
    refine h_val rfl (.pointer (some ⟨p, 0, none⟩)) (fun b w hb hH => by exact exec_nilCheck rfl rfl hb) ?_
    refine h_q hflS rfl ?_
    refine h_val rfl (kv) (fun b w hb hH => exec_load rfl rfl (reads_one ty_s_string rfl) (hH.row 0 rfl) hb) ?_
    refine h_q hflS rfl ?_
    refine h_act (post := fun _ => [cell p 73 #[.int .i64 m, kv, vv], Vec 9 1 encS kv K, Vec 3 1 encI vv V]) rfl (a_does (os' := fun _ => [cell p 73 #[.int .i64 m, kv, vv], Vec 9 1 encS kv K, Vec 3 1 encI vv V]) [1] 0 (ent_of Try.func35 (by kernel_rfl) rfl) (search2_string kv K k hT.srt (by omega) hq hh) rfl rfl rfl (fun _ => rfl) rfl rfl rfl) ?_; rintro ⟨⟩
    refine h_q hflS rfl ?_
    refine h_done (d_seq (d_reg ?_))
    refine h_q hflS rfl ?_
    refine h_done (d_else rfl (d_skip (f_to (d_seq ?_))))
    by_cases hlt : (K.length : Int) < m
    · skip
      obtain ⟨rfl, rfl, rfl⟩ := putT_new hh hlt hp
      have hok := putT_ok ordS hT hp
      simp only [hq] at hok ⊢
      refine d_seq ?_
      refine d_parS 10 0 [⟨.quiet, [], fun _ => .pointer (some ⟨p, 0, none⟩), []⟩, ⟨.quiet, [], fun _ => .pointer (some ⟨p, 0, none⟩), [0]⟩, ⟨.quiet, [], fun _ => .pointer (some ⟨p, 1, none⟩), [1]⟩, ⟨.quiet, [], fun _ => kv, [2]⟩, ⟨.quiet, [], fun _ => .int .i64 (K.length : Int), [3]⟩, ⟨.quiet, [], fun _ => .pointer (some ⟨p, 0, none⟩), []⟩, ⟨.quiet, [], fun _ => .pointer (some ⟨p, 0, none⟩), [5]⟩, ⟨.quiet, [], fun _ => .pointer (some ⟨p, 0, none⟩), [6]⟩, ⟨.quiet, [], fun _ => .int .i64 m, [7]⟩, ⟨.quiet, [], fun _ => .bool false, [4, 8]⟩] [(0, .pointer (some ⟨p, 0, none⟩)), (1, .string (bs k)), (2, .int .i64 v), (6, .bool false), (7, .int .i64 (q : Int))] (fun _ => [cell p 73 #[.int .i64 m, kv, vv], Vec 9 1 encS kv K, Vec 3 1 encI vv V]) (by kernel_rfl) (by kernel_rfl) ⟨rfl, rfl, rfl, rfl, rfl, trivial⟩ rfl ?_ ?_
      · skip
        refine s_cons (by exact ⟨rfl, fun b w hH hb => exec_q1 hflS rfl hb⟩) ?_
        refine s_cons (by exact ⟨rfl, fun b w hH hb => by exact exec_nilCheck rfl rfl hb⟩) ?_
        refine s_cons (by exact ⟨rfl, fun b w hH hb => exec_q1 hflS rfl hb⟩) ?_
        refine s_cons (by exact ⟨rfl, fun b w hH hb => exec_load rfl rfl (reads_one ty_s_string rfl) (hH.row 0 rfl) hb⟩) ?_
        refine s_cons (by exact ⟨rfl, fun b w hH hb => e_vlen 1 Try.underlying65 rfl rfl rfl hH hb⟩) ?_
        refine s_cons (by exact ⟨rfl, fun b w hH hb => exec_q1 hflS rfl hb⟩) ?_
        refine s_cons (by exact ⟨rfl, fun b w hH hb => by exact exec_nilCheck rfl rfl hb⟩) ?_
        refine s_cons (by exact ⟨rfl, fun b w hH hb => exec_q1 hflS rfl hb⟩) ?_
        refine s_cons (by exact ⟨rfl, fun b w hH hb => exec_load rfl rfl (reads_one ty_int rfl) (hH.row 0 rfl) hb⟩) ?_
        refine s_cons (by exact ⟨rfl, fun b w hH hb => exec_cmp rfl rfl rfl (cmp_geq_f (by omega)) hb⟩) ?_
        exact s_nil
      refine WL2.keep (env' := [(0, .pointer (some ⟨p, 0, none⟩)), (1, .string (bs k)), (2, .int .i64 v), (6, .bool false), (7, .int .i64 (q : Int)), (35, .bool false)]) ⟨rfl, rfl, rfl, rfl, rfl, rfl, trivial⟩ ?_
      refine h_nil (f_to (d_else rfl (d_skip (f_to (d_reg ?_)))))
      refine h_q hflS rfl ?_
      refine h_val rfl (.pointer (some ⟨p, 0, none⟩)) (fun b w hb hH => by exact exec_nilCheck rfl rfl hb) ?_
      refine h_q hflS rfl ?_
      refine h_val rfl (kv) (fun b w hb hH => exec_load rfl rfl (reads_one ty_s_string rfl) (hH.row 0 rfl) hb) ?_
      refine h_q hflS rfl ?_
      refine h_act (X := Value) (val := fun v : Value => v) (post := fun u1 => [Vec 9 1 encS u1 ([k]), cell p 73 #[.int .i64 m, kv, vv], Vec 9 1 encS kv K, Vec 3 1 encI vv V]) rfl (by refine a_build1 (e := 9) (t := 65) (enc := encS) (x := .tmp 42) (c := .string (bs k)) ?_ ?_ k ?_ ?_ ?_; exact sl_string; exact okS; exact rfl; exact rfl; exact rfl) ?_; rintro u1
      refine h_act (post := fun kv2 => [emp, cell p 73 #[.int .i64 m, kv, vv], Vec 9 1 encS kv2 (ins K q k), Vec 3 1 encI vv V]) rfl (a_does (os' := fun kv2 => [emp, cell p 73 #[.int .i64 m, kv, vv], Vec 9 1 encS kv2 (ins K q k), Vec 3 1 encI vv V]) [2, 0] 0 (ent_of Try.func36 (by kernel_rfl) rfl) (insert_string kv _ K k q (by omega) (by omega)) rfl rfl rfl (fun _ => rfl) rfl rfl rfl) ?_; rintro kv2
      refine WL2.leave [0] rfl rfl ?_
      refine h_val rfl (.pointer (some ⟨p, 0, none⟩)) (fun b w hb hH => by exact exec_nilCheck rfl rfl hb) ?_
      refine h_q hflS rfl ?_
      refine h_acts (post := fun _ => [cell p 73 #[.int .i64 m, kv2, vv], Vec 9 1 encS kv2 (ins K q k), Vec 3 1 encI vv V]) rfl rfl (a_storev 0 1 (v := kv2) #[.int .i64 m, kv2, vv] ty_s_string.2 rfl (fun _ h => Vec.c1 h) rfl rfl rfl rfl rfl rfl rfl) ?_; rintro ⟨⟩
      refine h_done (d_reg ?_)
      refine h_q hflS rfl ?_
      refine h_val rfl (.pointer (some ⟨p, 0, none⟩)) (fun b w hb hH => by exact exec_nilCheck rfl rfl hb) ?_
      refine h_q hflS rfl ?_
      refine h_val rfl (vv) (fun b w hb hH => exec_load rfl rfl (reads_one ty_s_int rfl) (hH.row 0 rfl) hb) ?_
      refine h_q hflS rfl ?_
      refine h_act (X := Value) (val := fun v : Value => v) (post := fun u2 => [Vec 3 1 encI u2 ([v]), cell p 73 #[.int .i64 m, kv2, vv], Vec 9 1 encS kv2 (ins K q k), Vec 3 1 encI vv V]) rfl (by refine a_build1 (e := 3) (t := 45) (enc := encI) (x := .tmp 53) (c := .int .i64 v) ?_ ?_ v ?_ ?_ ?_; exact sl_int; exact okI; exact rfl; exact rfl; exact rfl) ?_; rintro u2
      refine h_act (post := fun vv2 => [emp, cell p 73 #[.int .i64 m, kv2, vv], Vec 9 1 encS kv2 (ins K q k), Vec 3 1 encI vv2 (ins V q v)]) rfl (a_does (os' := fun vv2 => [emp, cell p 73 #[.int .i64 m, kv2, vv], Vec 9 1 encS kv2 (ins K q k), Vec 3 1 encI vv2 (ins V q v)]) [3, 0] 0 (ent_of Try.func37 (by kernel_rfl) rfl) (insert_int vv _ V v q (by omega) (by omega)) rfl rfl rfl (fun _ => rfl) rfl rfl rfl) ?_; rintro vv2
      refine WL2.leave [0] rfl rfl ?_
      refine h_val rfl (.pointer (some ⟨p, 0, none⟩)) (fun b w hb hH => by exact exec_nilCheck rfl rfl hb) ?_
      refine h_q hflS rfl ?_
      refine h_acts (post := fun _ => [cell p 73 #[.int .i64 m, kv2, vv2], Vec 9 1 encS kv2 (ins K q k), Vec 3 1 encI vv2 (ins V q v)]) rfl rfl (a_storev 0 2 (v := vv2) #[.int .i64 m, kv2, vv2] ty_s_int.2 rfl (fun _ h => Vec.c1 h) rfl rfl rfl rfl rfl rfl rfl) ?_; rintro ⟨⟩
      refine h_done (d_reg ?_)
      refine h_q hflS rfl ?_
      refine h_done (d_ret ?_)
      exact f_fin1 (.tmp rfl) (fun w h => tells () rfl [0, 1, 2] rfl h (fun z hz => ⟨z, .refl _, Parts.one (Tab.mk_ hok hz)⟩)) rfl
    · skip
      obtain ⟨rfl, rfl, rfl⟩ := putT_full hh hlt hp
      refine d_seq ?_
      refine d_parS 10 0 [⟨.quiet, [], fun _ => .pointer (some ⟨p, 0, none⟩), []⟩, ⟨.quiet, [], fun _ => .pointer (some ⟨p, 0, none⟩), [0]⟩, ⟨.quiet, [], fun _ => .pointer (some ⟨p, 1, none⟩), [1]⟩, ⟨.quiet, [], fun _ => kv, [2]⟩, ⟨.quiet, [], fun _ => .int .i64 (K.length : Int), [3]⟩, ⟨.quiet, [], fun _ => .pointer (some ⟨p, 0, none⟩), []⟩, ⟨.quiet, [], fun _ => .pointer (some ⟨p, 0, none⟩), [5]⟩, ⟨.quiet, [], fun _ => .pointer (some ⟨p, 0, none⟩), [6]⟩, ⟨.quiet, [], fun _ => .int .i64 m, [7]⟩, ⟨.quiet, [], fun _ => .bool true, [4, 8]⟩] [(0, .pointer (some ⟨p, 0, none⟩)), (1, .string (bs k)), (2, .int .i64 v), (6, .bool false), (7, .int .i64 (q : Int))] (fun _ => [cell p 73 #[.int .i64 m, kv, vv], Vec 9 1 encS kv K, Vec 3 1 encI vv V]) (by kernel_rfl) (by kernel_rfl) ⟨rfl, rfl, rfl, rfl, rfl, trivial⟩ rfl ?_ ?_
      · skip
        refine s_cons (by exact ⟨rfl, fun b w hH hb => exec_q1 hflS rfl hb⟩) ?_
        refine s_cons (by exact ⟨rfl, fun b w hH hb => by exact exec_nilCheck rfl rfl hb⟩) ?_
        refine s_cons (by exact ⟨rfl, fun b w hH hb => exec_q1 hflS rfl hb⟩) ?_
        refine s_cons (by exact ⟨rfl, fun b w hH hb => exec_load rfl rfl (reads_one ty_s_string rfl) (hH.row 0 rfl) hb⟩) ?_
        refine s_cons (by exact ⟨rfl, fun b w hH hb => e_vlen 1 Try.underlying65 rfl rfl rfl hH hb⟩) ?_
        refine s_cons (by exact ⟨rfl, fun b w hH hb => exec_q1 hflS rfl hb⟩) ?_
        refine s_cons (by exact ⟨rfl, fun b w hH hb => by exact exec_nilCheck rfl rfl hb⟩) ?_
        refine s_cons (by exact ⟨rfl, fun b w hH hb => exec_q1 hflS rfl hb⟩) ?_
        refine s_cons (by exact ⟨rfl, fun b w hH hb => exec_load rfl rfl (reads_one ty_int rfl) (hH.row 0 rfl) hb⟩) ?_
        refine s_cons (by exact ⟨rfl, fun b w hH hb => exec_cmp rfl rfl rfl (cmp_geq_t (by omega)) hb⟩) ?_
        exact s_nil
      refine WL2.keep (env' := [(0, .pointer (some ⟨p, 0, none⟩)), (1, .string (bs k)), (2, .int .i64 v), (6, .bool false), (7, .int .i64 (q : Int)), (35, .bool true)]) ⟨rfl, rfl, rfl, rfl, rfl, rfl, trivial⟩ ?_
      refine h_nil (f_to (d_then rfl (d_reg ?_)))
      refine h_q hflS rfl ?_
      refine h_done (d_ret (f_then_ret ?_))
      exact f_fin1 (.tmp rfl) (fun w h => tells () rfl [0, 1, 2] rfl h (fun z hz => ⟨z, .refl _, Parts.one (Tab.mk_ hT hz)⟩)) rfl

theorem get_string_int (p : Nat) (m : Int) (K : List (List UInt8)) (V : List (Int)) (k : List UInt8) (R1 : (Int) × Bool) (hg : getT ltS K V k 0 = R1) : Does Try.prog 14 #[.pointer (some ⟨p, 0, none⟩), .string (bs k)] [Tab 73 9 3 encS encI ltS p m K V] (fun (_ : Unit) => .tuple #[.int .i64 R1.1, .bool R1.2]) (fun (_ : Unit) => [Tab 73 9 3 encS encI ltS p m K V]) := by
  refine d_ins (args := [.pointer (some ⟨p, 0, none⟩), .string (bs k)]) 26 Try.func14 rfl rfl rfl ?_; intro w rs
  refine d_open 0 rfl Tab.open_ (fun _ => rfl) ?_; rintro ⟨⟨kv, vv⟩, hT⟩
  refine WC2.keep (env' := [(0, .pointer (some ⟨p, 0, none⟩)), (1, .string (bs k))]) ⟨rfl, rfl, trivial⟩ ?_
  refine WC2.mid [cell p 73 #[.int .i64 m, kv, vv], Vec 9 1 encS kv K, Vec 3 1 encI vv V] (.refl _) ?_
  have hVK := hT.len
  have hKm := hT.le
  have hm4 := hT.lim
  obtain ⟨q, hq⟩ : ∃ q, pos ltS K k = q := ⟨_, rfl⟩
  have hqK : q ≤ K.length := hq ▸ pos_le K
  refine d_reg ?_
  refine h_q hflS rfl ?_
  refine h_done ?_
  rcases Bool.eq_false_or_eq_true (has ltS K k) with hh | hh
  · skip
    have hqlt : q < K.length := hq ▸ has_lt hh
    obtain ⟨x, hx⟩ : ∃ x, V[q]? = some x := ⟨_, List.getElem?_eq_getElem (show q < V.length by omega)⟩
    obtain rfl := (getT_has (d := 0) hh (by rw [hq]; exact hx)).symm.trans hg
    refine d_reg ?_
    refine h_q hflS rfl ?_
    refine h_val rfl (.pointer (some ⟨p, 0, none⟩)) (fun b w hb hH => by exact exec_nilCheck rfl rfl hb) ?_
    refine h_q hflS rfl ?_
    refine h_val rfl (kv) (fun b w hb hH => exec_load rfl rfl (reads_one ty_s_string rfl) (hH.row 0 rfl) hb) ?_
    refine h_q hflS rfl ?_
    refine h_act (post := fun _ => [cell p 73 #[.int .i64 m, kv, vv], Vec 9 1 encS kv K, Vec 3 1 encI vv V]) rfl (a_does (os' := fun _ => [cell p 73 #[.int .i64 m, kv, vv], Vec 9 1 encS kv K, Vec 3 1 encI vv V]) [1] 0 (ent_of Try.func35 (by kernel_rfl) rfl) (search2_string kv K k hT.srt (by omega) hq hh) rfl rfl rfl (fun _ => rfl) rfl rfl rfl) ?_; rintro ⟨⟩
    refine h_q hflS rfl ?_
    refine h_done (d_seq (d_reg ?_))
    refine h_q hflS rfl ?_
    refine h_done (d_else rfl (d_skip (f_to (d_reg ?_))))
    refine h_q hflS rfl ?_
    refine h_val rfl (.pointer (some ⟨p, 0, none⟩)) (fun b w hb hH => by exact exec_nilCheck rfl rfl hb) ?_
    refine h_q hflS rfl ?_
    refine h_val rfl (vv) (fun b w hb hH => exec_load rfl rfl (reads_one ty_s_int rfl) (hH.row 0 rfl) hb) ?_
    refine h_q hflS rfl ?_
    refine h_val rfl (elp vv (q * 1)) (fun b w hb hH => e_vidx 2 sl_int okI rfl q (by omega) rfl rfl rfl hH hb) ?_
    refine h_val rfl (.int .i64 x) (fun b w hb hH => e_vload1 2 ty_int okI rfl q (a := x) hx rfl rfl rfl hH hb) ?_
    refine h_q hflS rfl ?_
    refine h_done (d_ret ?_)
    exact f_fin2 (.tmp rfl) (.tmp rfl) (fun w h => tells () rfl [0, 1, 2] rfl h (fun z hz => ⟨z, .refl _, Parts.one (Tab.mk_ hT hz)⟩)) rfl
  · skip
    obtain rfl := (getT_not (V := V) (d := 0) hh).symm.trans hg
    refine d_reg ?_
    refine h_q hflS rfl ?_
    refine h_val rfl (.pointer (some ⟨p, 0, none⟩)) (fun b w hb hH => by exact exec_nilCheck rfl rfl hb) ?_
    refine h_q hflS rfl ?_
    refine h_val rfl (kv) (fun b w hb hH => exec_load rfl rfl (reads_one ty_s_string rfl) (hH.row 0 rfl) hb) ?_
    refine h_q hflS rfl ?_
    refine h_act (post := fun _ => [cell p 73 #[.int .i64 m, kv, vv], Vec 9 1 encS kv K, Vec 3 1 encI vv V]) rfl (a_does (os' := fun _ => [cell p 73 #[.int .i64 m, kv, vv], Vec 9 1 encS kv K, Vec 3 1 encI vv V]) [1] 0 (ent_of Try.func35 (by kernel_rfl) rfl) (search2_string kv K k hT.srt (by omega) hq hh) rfl rfl rfl (fun _ => rfl) rfl rfl rfl) ?_; rintro ⟨⟩
    refine h_q hflS rfl ?_
    refine h_done (d_seq (d_reg ?_))
    refine h_q hflS rfl ?_
    refine h_done (d_then rfl (d_reg ?_))
    refine h_q hflS rfl ?_
    refine h_done (d_ret (f_then_ret ?_))
    exact f_fin2 (.tmp rfl) (.tmp rfl) (fun w h => tells () rfl [0, 1, 2] rfl h (fun z hz => ⟨z, .refl _, Parts.one (Tab.mk_ hT hz)⟩)) rfl

theorem drop_string_int (p : Nat) (m : Int) (K : List (List UInt8)) (V : List (Int)) (k : List UInt8) (R1 : List (List UInt8) × List (Int) × Bool) (hp : dropT ltS K V k = R1) : Does Try.prog 15 #[.pointer (some ⟨p, 0, none⟩), .string (bs k)] [Tab 73 9 3 encS encI ltS p m K V] (fun (_ : Unit) => .bool R1.2.2) (fun (_ : Unit) => [Tab 73 9 3 encS encI ltS p m R1.1 R1.2.1]) := by
  obtain ⟨K1, V1, b1⟩ := R1
  refine d_ins (args := [.pointer (some ⟨p, 0, none⟩), .string (bs k)]) 40 Try.func15 rfl rfl rfl ?_; intro w rs
  refine d_open 0 rfl Tab.open_ (fun _ => rfl) ?_; rintro ⟨⟨kv, vv⟩, hT⟩
  refine WC2.keep (env' := [(0, .pointer (some ⟨p, 0, none⟩)), (1, .string (bs k))]) ⟨rfl, rfl, trivial⟩ ?_
  refine WC2.mid [cell p 73 #[.int .i64 m, kv, vv], Vec 9 1 encS kv K, Vec 3 1 encI vv V] (.refl _) ?_
  have hVK := hT.len
  have hKm := hT.le
  have hm4 := hT.lim
  obtain ⟨q, hq⟩ : ∃ q, pos ltS K k = q := ⟨_, rfl⟩
  have hqK : q ≤ K.length := hq ▸ pos_le K
  refine d_reg ?_
  refine h_q hflS rfl ?_
  refine h_done ?_
  rcases Bool.eq_false_or_eq_true (has ltS K k) with hh | hh
  · skip
    have hqlt : q < K.length := hq ▸ has_lt hh
    obtain ⟨x, hx⟩ : ∃ x, V[q]? = some x := ⟨_, List.getElem?_eq_getElem (show q < V.length by omega)⟩
    obtain ⟨rfl, rfl, rfl⟩ := dropT_has hh hp
    have hok := dropT_ok hT hp
    simp only [hq] at hok ⊢
    refine d_reg ?_
    refine h_q hflS rfl ?_
    refine h_val rfl (.pointer (some ⟨p, 0, none⟩)) (fun b w hb hH => by exact exec_nilCheck rfl rfl hb) ?_
    refine h_q hflS rfl ?_
    refine h_val rfl (kv) (fun b w hb hH => exec_load rfl rfl (reads_one ty_s_string rfl) (hH.row 0 rfl) hb) ?_
    refine h_q hflS rfl ?_
    refine h_act (post := fun _ => [cell p 73 #[.int .i64 m, kv, vv], Vec 9 1 encS kv K, Vec 3 1 encI vv V]) rfl (a_does (os' := fun _ => [cell p 73 #[.int .i64 m, kv, vv], Vec 9 1 encS kv K, Vec 3 1 encI vv V]) [1] 0 (ent_of Try.func35 (by kernel_rfl) rfl) (search2_string kv K k hT.srt (by omega) hq hh) rfl rfl rfl (fun _ => rfl) rfl rfl rfl) ?_; rintro ⟨⟩
    refine h_q hflS rfl ?_
    refine h_done (d_seq (d_reg ?_))
    refine h_q hflS rfl ?_
    refine h_done (d_else rfl (d_skip (f_to (d_reg ?_))))
    refine h_q hflS rfl ?_
    refine h_val rfl (.pointer (some ⟨p, 0, none⟩)) (fun b w hb hH => by exact exec_nilCheck rfl rfl hb) ?_
    refine h_q hflS rfl ?_
    refine h_val rfl (kv) (fun b w hb hH => exec_load rfl rfl (reads_one ty_s_string rfl) (hH.row 0 rfl) hb) ?_
    refine h_q hflS rfl ?_
    refine h_val rfl (.int .i64 ((q + 1 : Nat) : Int)) (fun b w hb hH => exec_ar rfl rfl rfl rfl (by rw [IntWalk.i64_in _ (by omega)]; omega) hb) ?_
    refine h_act (post := fun kv2 => [cell p 73 #[.int .i64 m, kv, vv], Vec 9 1 encS kv2 (rem K q), Vec 3 1 encI vv V]) rfl (a_does (os' := fun kv2 => [cell p 73 #[.int .i64 m, kv, vv], Vec 9 1 encS kv2 (rem K q), Vec 3 1 encI vv V]) [1] 0 (ent_of Try.func40 (by kernel_rfl) rfl) (delete_string kv K q (by omega) (by omega)) rfl rfl rfl (fun _ => rfl) rfl rfl rfl) ?_; rintro kv2
    refine h_val rfl (.pointer (some ⟨p, 0, none⟩)) (fun b w hb hH => by exact exec_nilCheck rfl rfl hb) ?_
    refine h_q hflS rfl ?_
    refine h_acts (post := fun _ => [cell p 73 #[.int .i64 m, kv2, vv], Vec 9 1 encS kv2 (rem K q), Vec 3 1 encI vv V]) rfl rfl (a_storev 0 1 (v := kv2) #[.int .i64 m, kv2, vv] ty_s_string.2 rfl (fun _ h => Vec.c1 h) rfl rfl rfl rfl rfl rfl rfl) ?_; rintro ⟨⟩
    refine h_done (d_reg ?_)
    refine h_q hflS rfl ?_
    refine h_val rfl (.pointer (some ⟨p, 0, none⟩)) (fun b w hb hH => by exact exec_nilCheck rfl rfl hb) ?_
    refine h_q hflS rfl ?_
    refine h_val rfl (vv) (fun b w hb hH => exec_load rfl rfl (reads_one ty_s_int rfl) (hH.row 0 rfl) hb) ?_
    refine h_q hflS rfl ?_
    refine h_val rfl (.int .i64 ((q + 1 : Nat) : Int)) (fun b w hb hH => exec_ar rfl rfl rfl rfl (by rw [IntWalk.i64_in _ (by omega)]; omega) hb) ?_
    refine h_act (post := fun vv2 => [cell p 73 #[.int .i64 m, kv2, vv], Vec 9 1 encS kv2 (rem K q), Vec 3 1 encI vv2 (rem V q)]) rfl (a_does (os' := fun vv2 => [cell p 73 #[.int .i64 m, kv2, vv], Vec 9 1 encS kv2 (rem K q), Vec 3 1 encI vv2 (rem V q)]) [2] 0 (ent_of Try.func41 (by kernel_rfl) rfl) (delete_int vv V q (by omega) (by omega)) rfl rfl rfl (fun _ => rfl) rfl rfl rfl) ?_; rintro vv2
    refine h_val rfl (.pointer (some ⟨p, 0, none⟩)) (fun b w hb hH => by exact exec_nilCheck rfl rfl hb) ?_
    refine h_q hflS rfl ?_
    refine h_acts (post := fun _ => [cell p 73 #[.int .i64 m, kv2, vv2], Vec 9 1 encS kv2 (rem K q), Vec 3 1 encI vv2 (rem V q)]) rfl rfl (a_storev 0 2 (v := vv2) #[.int .i64 m, kv2, vv2] ty_s_int.2 rfl (fun _ h => Vec.c1 h) rfl rfl rfl rfl rfl rfl rfl) ?_; rintro ⟨⟩
    refine h_done (d_reg ?_)
    refine h_q hflS rfl ?_
    refine h_done (d_ret ?_)
    exact f_fin1 (.tmp rfl) (fun w h => tells () rfl [0, 1, 2] rfl h (fun z hz => ⟨z, .refl _, Parts.one (Tab.mk_ hok hz)⟩)) rfl
  · skip
    obtain ⟨rfl, rfl, rfl⟩ := dropT_not hh hp
    refine d_reg ?_
    refine h_q hflS rfl ?_
    refine h_val rfl (.pointer (some ⟨p, 0, none⟩)) (fun b w hb hH => by exact exec_nilCheck rfl rfl hb) ?_
    refine h_q hflS rfl ?_
    refine h_val rfl (kv) (fun b w hb hH => exec_load rfl rfl (reads_one ty_s_string rfl) (hH.row 0 rfl) hb) ?_
    refine h_q hflS rfl ?_
    refine h_act (post := fun _ => [cell p 73 #[.int .i64 m, kv, vv], Vec 9 1 encS kv K, Vec 3 1 encI vv V]) rfl (a_does (os' := fun _ => [cell p 73 #[.int .i64 m, kv, vv], Vec 9 1 encS kv K, Vec 3 1 encI vv V]) [1] 0 (ent_of Try.func35 (by kernel_rfl) rfl) (search2_string kv K k hT.srt (by omega) hq hh) rfl rfl rfl (fun _ => rfl) rfl rfl rfl) ?_; rintro ⟨⟩
    refine h_q hflS rfl ?_
    refine h_done (d_seq (d_reg ?_))
    refine h_q hflS rfl ?_
    refine h_done (d_then rfl (d_reg ?_))
    refine h_q hflS rfl ?_
    refine h_done (d_ret (f_then_ret ?_))
    exact f_fin1 (.tmp rfl) (fun w h => tells () rfl [0, 1, 2] rfl h (fun z hz => ⟨z, .refl _, Parts.one (Tab.mk_ hT hz)⟩)) rfl

theorem len_string_int (p : Nat) (m : Int) (K : List (List UInt8)) (V : List (Int)) : Does Try.prog 16 #[.pointer (some ⟨p, 0, none⟩)] [Tab 73 9 3 encS encI ltS p m K V] (fun (_ : Unit) => .int .i64 (K.length : Int)) (fun (_ : Unit) => [Tab 73 9 3 encS encI ltS p m K V]) := by
  refine d_ins (args := [.pointer (some ⟨p, 0, none⟩)]) 8 Try.func16 rfl rfl rfl ?_; intro w rs
  refine d_open 0 rfl Tab.open_ (fun _ => rfl) ?_; rintro ⟨⟨kv, vv⟩, hT⟩
  refine WC2.keep (env' := [(0, .pointer (some ⟨p, 0, none⟩))]) ⟨rfl, trivial⟩ ?_
  refine WC2.mid [cell p 73 #[.int .i64 m, kv, vv], Vec 9 1 encS kv K, Vec 3 1 encI vv V] (.refl _) ?_
  have hVK := hT.len
  have hKm := hT.le
  have hm4 := hT.lim
  refine d_reg ?_
  refine h_q hflS rfl ?_
  refine h_done (d_reg ?_)
  refine h_q hflS rfl ?_
  refine h_val rfl (.pointer (some ⟨p, 0, none⟩)) (fun b w hb hH => by exact exec_nilCheck rfl rfl hb) ?_
  refine h_q hflS rfl ?_
  refine h_val rfl (kv) (fun b w hb hH => exec_load rfl rfl (reads_one ty_s_string rfl) (hH.row 0 rfl) hb) ?_
  refine h_val rfl (.int .i64 (K.length : Int)) (fun b w hb hH => e_vlen 1 Try.underlying65 rfl rfl rfl hH hb) ?_
  refine h_q hflS rfl ?_
  refine h_done (d_ret ?_)
  exact f_fin1 (.tmp rfl) (fun w h => tells () rfl [0, 1, 2] rfl h (fun z hz => ⟨z, .refl _, Parts.one (Tab.mk_ hT hz)⟩)) rfl

theorem put_uint64_string (p : Nat) (m : Int) (K : List (Int)) (V : List (List UInt8)) (k : Int) (v : List UInt8) (R1 : List (Int) × List (List UInt8) × Bool) (hp : putT ltI m K V k v = R1) : Does Try.prog 32 #[.pointer (some ⟨p, 0, none⟩), .int .u64 k, .string (bs v)] [Tab 95 42 9 encU encS ltI p m K V] (fun (_ : Unit) => .bool R1.2.2) (fun (_ : Unit) => [Tab 95 42 9 encU encS ltI p m R1.1 R1.2.1]) := by
  obtain ⟨K1, V1, b1⟩ := R1
  refine d_ins (args := [.pointer (some ⟨p, 0, none⟩), .int .u64 k, .string (bs v)]) 58 Try.func32 rfl rfl rfl ?_; intro w rs
  refine d_open 0 rfl Tab.open_ (fun _ => rfl) ?_; rintro ⟨⟨kv, vv⟩, hT⟩
  refine WC2.keep (env' := [(0, .pointer (some ⟨p, 0, none⟩)), (1, .int .u64 k), (2, .string (bs v))]) ⟨rfl, rfl, rfl, trivial⟩ ?_
  refine WC2.mid [cell p 95 #[.int .i64 m, kv, vv], Vec 42 1 encU kv K, Vec 9 1 encS vv V] (.refl _) ?_
  have hVK := hT.len
  have hKm := hT.le
  have hm4 := hT.lim
  obtain ⟨q, hq⟩ : ∃ q, pos ltI K k = q := ⟨_, rfl⟩
  have hqK : q ≤ K.length := hq ▸ pos_le K
  refine d_reg ?_
  refine h_q hflS rfl ?_
  refine h_done ?_
  rcases Bool.eq_false_or_eq_true (has ltI K k) with hh | hh
  · skip
    have hqlt : q < K.length := hq ▸ has_lt hh
    obtain ⟨x, hx⟩ : ∃ x, V[q]? = some x := ⟨_, List.getElem?_eq_getElem (show q < V.length by omega)⟩
    obtain ⟨rfl, rfl, rfl⟩ := putT_has hh hp
    have hok := putT_ok ordI hT hp
    simp only [hq] at hok ⊢
    refine d_reg ?_
    refine h_q hflS rfl ?_
    refine h_val rfl (.pointer (some ⟨p, 0, none⟩)) (fun b w hb hH => by exact exec_nilCheck rfl rfl hb) ?_
    refine h_q hflS rfl ?_
    refine h_val rfl (kv) (fun b w hb hH => exec_load rfl rfl (reads_one ty_s_uint64 rfl) (hH.row 0 rfl) hb) ?_
    refine h_q hflS rfl ?_
    refine h_act (post := fun _ => [cell p 95 #[.int .i64 m, kv, vv], Vec 42 1 encU kv K, Vec 9 1 encS vv V]) rfl (a_does (os' := fun _ => [cell p 95 #[.int .i64 m, kv, vv], Vec 42 1 encU kv K, Vec 9 1 encS vv V]) [1] 0 (ent_of Try.func49 (by kernel_rfl) rfl) (search2_uint64 kv K k hT.srt (by omega) hq hh) rfl rfl rfl (fun _ => rfl) rfl rfl rfl) ?_; rintro ⟨⟩
    refine h_q hflS rfl ?_
    refine h_done (d_seq (d_reg ?_))
    refine h_q hflS rfl ?_
    refine h_done (d_then rfl (d_reg ?_))
    refine h_q hflS rfl ?_
    refine h_val rfl (.pointer (some ⟨p, 0, none⟩)) (fun b w hb hH => by exact exec_nilCheck rfl rfl hb) ?_
    refine h_q hflS rfl ?_
    refine h_val rfl (vv) (fun b w hb hH => exec_load rfl rfl (reads_one ty_s_string rfl) (hH.row 0 rfl) hb) ?_
    refine h_q hflS rfl ?_
    refine h_val rfl (elp vv (q * 1)) (fun b w hb hH => e_vidx 2 sl_string okS rfl q (by omega) rfl rfl rfl hH hb) ?_
    refine h_acts (post := fun _ => [cell p 95 #[.int .i64 m, kv, vv], Vec 42 1 encU kv K, Vec 9 1 encS vv (V.set q v)]) rfl rfl (a_vstore1 2 ty_string okS rfl q (by omega) v rfl rfl rfl rfl rfl) ?_; rintro ⟨⟩
    refine h_done (d_reg ?_)
    refine h_q hflS rfl ?_
    refine h_done (d_ret (f_then_ret ?_))
    exact f_fin1 (.tmp rfl) (fun w h => tells () rfl [0, 1, 2] rfl h (fun z hz => ⟨z, .refl _, Parts.one (Tab.mk_ hok hz)⟩)) rfl
  · skip
    refine d_reg ?_
    refine h_q hflS rfl ?_
    refine h_val rfl (.pointer (some ⟨p, 0, none⟩)) (fun b w hb hH => by exact exec_nilCheck rfl rfl hb) ?_
    refine h_q hflS rfl ?_
    refine h_val rfl (kv) (fun b w hb hH => exec_load rfl rfl (reads_one ty_s_uint64 rfl) (hH.row 0 rfl) hb) ?_
    refine h_q hflS rfl ?_
    refine h_act (post := fun _ => [cell p 95 #[.int .i64 m, kv, vv], Vec 42 1 encU kv K, Vec 9 1 encS vv V]) rfl (a_does (os' := fun _ => [cell p 95 #[.int .i64 m, kv, vv], Vec 42 1 encU kv K, Vec 9 1 encS vv V]) [1] 0 (ent_of Try.func49 (by kernel_rfl) rfl) (search2_uint64 kv K k hT.srt (by omega) hq hh) rfl rfl rfl (fun _ => rfl) rfl rfl rfl) ?_; rintro ⟨⟩
    refine h_q hflS rfl ?_
    refine h_done (d_seq (d_reg ?_))
    refine h_q hflS rfl ?_
    refine h_done (d_else rfl (d_skip (f_to (d_seq ?_))))
    by_cases hlt : (K.length : Int) < m
    · skip
      obtain ⟨rfl, rfl, rfl⟩ := putT_new hh hlt hp
      have hok := putT_ok ordI hT hp
      simp only [hq] at hok ⊢
      refine d_seq ?_
      refine d_parS 10 0 [⟨.quiet, [], fun _ => .pointer (some ⟨p, 0, none⟩), []⟩, ⟨.quiet, [], fun _ => .pointer (some ⟨p, 0, none⟩), [0]⟩, ⟨.quiet, [], fun _ => .pointer (some ⟨p, 1, none⟩), [1]⟩, ⟨.quiet, [], fun _ => kv, [2]⟩, ⟨.quiet, [], fun _ => .int .i64 (K.length : Int), [3]⟩, ⟨.quiet, [], fun _ => .pointer (some ⟨p, 0, none⟩), []⟩, ⟨.quiet, [], fun _ => .pointer (some ⟨p, 0, none⟩), [5]⟩, ⟨.quiet, [], fun _ => .pointer (some ⟨p, 0, none⟩), [6]⟩, ⟨.quiet, [], fun _ => .int .i64 m, [7]⟩, ⟨.quiet, [], fun _ => .bool false, [4, 8]⟩] [(0, .pointer (some ⟨p, 0, none⟩)), (1, .int .u64 k), (2, .string (bs v)), (6, .bool false), (7, .int .i64 (q : Int))] (fun _ => [cell p 95 #[.int .i64 m, kv, vv], Vec 42 1 encU kv K, Vec 9 1 encS vv V]) (by kernel_rfl) (by kernel_rfl) ⟨rfl, rfl, rfl, rfl, rfl, trivial⟩ rfl ?_ ?_
      · skip
        refine s_cons (by exact ⟨rfl, fun b w hH hb => exec_q1 hflS rfl hb⟩) ?_
        refine s_cons (by exact ⟨rfl, fun b w hH hb => by exact exec_nilCheck rfl rfl hb⟩) ?_
        refine s_cons (by exact ⟨rfl, fun b w hH hb => exec_q1 hflS rfl hb⟩) ?_
        refine s_cons (by exact ⟨rfl, fun b w hH hb => exec_load rfl rfl (reads_one ty_s_uint64 rfl) (hH.row 0 rfl) hb⟩) ?_
        refine s_cons (by exact ⟨rfl, fun b w hH hb => e_vlen 1 Try.underlying44 rfl rfl rfl hH hb⟩) ?_
        refine s_cons (by exact ⟨rfl, fun b w hH hb => exec_q1 hflS rfl hb⟩) ?_
        refine s_cons (by exact ⟨rfl, fun b w hH hb => by exact exec_nilCheck rfl rfl hb⟩) ?_
        refine s_cons (by exact ⟨rfl, fun b w hH hb => exec_q1 hflS rfl hb⟩) ?_
        refine s_cons (by exact ⟨rfl, fun b w hH hb => exec_load rfl rfl (reads_one ty_int rfl) (hH.row 0 rfl) hb⟩) ?_
        refine s_cons (by exact ⟨rfl, fun b w hH hb => exec_cmp rfl rfl rfl (cmp_geq_f (by omega)) hb⟩) ?_
        exact s_nil
      refine WL2.keep (env' := [(0, .pointer (some ⟨p, 0, none⟩)), (1, .int .u64 k), (2, .string (bs v)), (6, .bool false), (7, .int .i64 (q : Int)), (35, .bool false)]) ⟨rfl, rfl, rfl, rfl, rfl, rfl, trivial⟩ ?_
      refine h_nil (f_to (d_else rfl (d_skip (f_to (d_reg ?_)))))
      refine h_q hflS rfl ?_
      refine h_val rfl (.pointer (some ⟨p, 0, none⟩)) (fun b w hb hH => by exact exec_nilCheck rfl rfl hb) ?_
      refine h_q hflS rfl ?_
      refine h_val rfl (kv) (fun b w hb hH => exec_load rfl rfl (reads_one ty_s_uint64 rfl) (hH.row 0 rfl) hb) ?_
      refine h_q hflS rfl ?_
      refine h_act (X := Value) (val := fun v : Value => v) (post := fun u1 => [Vec 42 1 encU u1 ([k]), cell p 95 #[.int .i64 m, kv, vv], Vec 42 1 encU kv K, Vec 9 1 encS vv V]) rfl (by refine a_build1 (e := 42) (t := 44) (enc := encU) (x := .tmp 42) (c := .int .u64 k) ?_ ?_ k ?_ ?_ ?_; exact sl_uint64; exact okU; exact rfl; exact rfl; exact rfl) ?_; rintro u1
      refine h_act (post := fun kv2 => [emp, cell p 95 #[.int .i64 m, kv, vv], Vec 42 1 encU kv2 (ins K q k), Vec 9 1 encS vv V]) rfl (a_does (os' := fun kv2 => [emp, cell p 95 #[.int .i64 m, kv, vv], Vec 42 1 encU kv2 (ins K q k), Vec 9 1 encS vv V]) [2, 0] 0 (ent_of Try.func50 (by kernel_rfl) rfl) (insert_uint64 kv _ K k q (by omega) (by omega)) rfl rfl rfl (fun _ => rfl) rfl rfl rfl) ?_; rintro kv2
      refine WL2.leave [0] rfl rfl ?_
      refine h_val rfl (.pointer (some ⟨p, 0, none⟩)) (fun b w hb hH => by exact exec_nilCheck rfl rfl hb) ?_
      refine h_q hflS rfl ?_
      refine h_acts (post := fun _ => [cell p 95 #[.int .i64 m, kv2, vv], Vec 42 1 encU kv2 (ins K q k), Vec 9 1 encS vv V]) rfl rfl (a_storev 0 1 (v := kv2) #[.int .i64 m, kv2, vv] ty_s_uint64.2 rfl (fun _ h => Vec.c1 h) rfl rfl rfl rfl rfl rfl rfl) ?_; rintro ⟨⟩
      refine h_done (d_reg ?_)
      refine h_q hflS rfl ?_
      refine h_val rfl (.pointer (some ⟨p, 0, none⟩)) (fun b w hb hH => by exact exec_nilCheck rfl rfl hb) ?_
      refine h_q hflS rfl ?_
      refine h_val rfl (vv) (fun b w hb hH => exec_load rfl rfl (reads_one ty_s_string rfl) (hH.row 0 rfl) hb) ?_
      refine h_q hflS rfl ?_
      refine h_act (X := Value) (val := fun v : Value => v) (post := fun u2 => [Vec 9 1 encS u2 ([v]), cell p 95 #[.int .i64 m, kv2, vv], Vec 42 1 encU kv2 (ins K q k), Vec 9 1 encS vv V]) rfl (by refine a_build1 (e := 9) (t := 65) (enc := encS) (x := .tmp 53) (c := .string (bs v)) ?_ ?_ v ?_ ?_ ?_; exact sl_string; exact okS; exact rfl; exact rfl; exact rfl) ?_; rintro u2
      refine h_act (post := fun vv2 => [emp, cell p 95 #[.int .i64 m, kv2, vv], Vec 42 1 encU kv2 (ins K q k), Vec 9 1 encS vv2 (ins V q v)]) rfl (a_does (os' := fun vv2 => [emp, cell p 95 #[.int .i64 m, kv2, vv], Vec 42 1 encU kv2 (ins K q k), Vec 9 1 encS vv2 (ins V q v)]) [3, 0] 0 (ent_of Try.func36 (by kernel_rfl) rfl) (insert_string vv _ V v q (by omega) (by omega)) rfl rfl rfl (fun _ => rfl) rfl rfl rfl) ?_; rintro vv2
      refine WL2.leave [0] rfl rfl ?_
      refine h_val rfl (.pointer (some ⟨p, 0, none⟩)) (fun b w hb hH => by exact exec_nilCheck rfl rfl hb) ?_
      refine h_q hflS rfl ?_
      refine h_acts (post := fun _ => [cell p 95 #[.int .i64 m, kv2, vv2], Vec 42 1 encU kv2 (ins K q k), Vec 9 1 encS vv2 (ins V q v)]) rfl rfl (a_storev 0 2 (v := vv2) #[.int .i64 m, kv2, vv2] ty_s_string.2 rfl (fun _ h => Vec.c1 h) rfl rfl rfl rfl rfl rfl rfl) ?_; rintro ⟨⟩
      refine h_done (d_reg ?_)
      refine h_q hflS rfl ?_
      refine h_done (d_ret ?_)
      exact f_fin1 (.tmp rfl) (fun w h => tells () rfl [0, 1, 2] rfl h (fun z hz => ⟨z, .refl _, Parts.one (Tab.mk_ hok hz)⟩)) rfl
    · skip
      obtain ⟨rfl, rfl, rfl⟩ := putT_full hh hlt hp
      refine d_seq ?_
      refine d_parS 10 0 [⟨.quiet, [], fun _ => .pointer (some ⟨p, 0, none⟩), []⟩, ⟨.quiet, [], fun _ => .pointer (some ⟨p, 0, none⟩), [0]⟩, ⟨.quiet, [], fun _ => .pointer (some ⟨p, 1, none⟩), [1]⟩, ⟨.quiet, [], fun _ => kv, [2]⟩, ⟨.quiet, [], fun _ => .int .i64 (K.length : Int), [3]⟩, ⟨.quiet, [], fun _ => .pointer (some ⟨p, 0, none⟩), []⟩, ⟨.quiet, [], fun _ => .pointer (some ⟨p, 0, none⟩), [5]⟩, ⟨.quiet, [], fun _ => .pointer (some ⟨p, 0, none⟩), [6]⟩, ⟨.quiet, [], fun _ => .int .i64 m, [7]⟩, ⟨.quiet, [], fun _ => .bool true, [4, 8]⟩] [(0, .pointer (some ⟨p, 0, none⟩)), (1, .int .u64 k), (2, .string (bs v)), (6, .bool false), (7, .int .i64 (q : Int))] (fun _ => [cell p 95 #[.int .i64 m, kv, vv], Vec 42 1 encU kv K, Vec 9 1 encS vv V]) (by kernel_rfl) (by kernel_rfl) ⟨rfl, rfl, rfl, rfl, rfl, trivial⟩ rfl ?_ ?_
      · skip
        refine s_cons (by exact ⟨rfl, fun b w hH hb => exec_q1 hflS rfl hb⟩) ?_
        refine s_cons (by exact ⟨rfl, fun b w hH hb => by exact exec_nilCheck rfl rfl hb⟩) ?_
        refine s_cons (by exact ⟨rfl, fun b w hH hb => exec_q1 hflS rfl hb⟩) ?_
        refine s_cons (by exact ⟨rfl, fun b w hH hb => exec_load rfl rfl (reads_one ty_s_uint64 rfl) (hH.row 0 rfl) hb⟩) ?_
        refine s_cons (by exact ⟨rfl, fun b w hH hb => e_vlen 1 Try.underlying44 rfl rfl rfl hH hb⟩) ?_
        refine s_cons (by exact ⟨rfl, fun b w hH hb => exec_q1 hflS rfl hb⟩) ?_
        refine s_cons (by exact ⟨rfl, fun b w hH hb => by exact exec_nilCheck rfl rfl hb⟩) ?_
        refine s_cons (by exact ⟨rfl, fun b w hH hb => exec_q1 hflS rfl hb⟩) ?_
        refine s_cons (by exact ⟨rfl, fun b w hH hb => exec_load rfl rfl (reads_one ty_int rfl) (hH.row 0 rfl) hb⟩) ?_
        refine s_cons (by exact ⟨rfl, fun b w hH hb => exec_cmp rfl rfl rfl (cmp_geq_t (by omega)) hb⟩) ?_
        exact s_nil
      refine WL2.keep (env' := [(0, .pointer (some ⟨p, 0, none⟩)), (1, .int .u64 k), (2, .string (bs v)), (6, .bool false), (7, .int .i64 (q : Int)), (35, .bool true)]) ⟨rfl, rfl, rfl, rfl, rfl, rfl, trivial⟩ ?_
      refine h_nil (f_to (d_then rfl (d_reg ?_)))
      refine h_q hflS rfl ?_
      refine h_done (d_ret (f_then_ret ?_))
      exact f_fin1 (.tmp rfl) (fun w h => tells () rfl [0, 1, 2] rfl h (fun z hz => ⟨z, .refl _, Parts.one (Tab.mk_ hT hz)⟩)) rfl

theorem keys_uint64_string (p : Nat) (m : Int) (K : List (Int)) (V : List (List UInt8)) : Does Try.prog 33 #[.pointer (some ⟨p, 0, none⟩)] [Tab 95 42 9 encU encS ltI p m K V] (fun (u : Value) => u) (fun (u : Value) => [Tab 95 42 9 encU encS ltI p m K V, Vec 42 1 encU u K]) := by
  refine d_ins (args := [.pointer (some ⟨p, 0, none⟩)]) 8 Try.func33 rfl rfl rfl ?_; intro w rs
  refine d_open 0 rfl Tab.open_ (fun _ => rfl) ?_; rintro ⟨⟨kv, vv⟩, hT⟩
  refine WC2.keep (env' := [(0, .pointer (some ⟨p, 0, none⟩))]) ⟨rfl, trivial⟩ ?_
  refine WC2.mid [cell p 95 #[.int .i64 m, kv, vv], Vec 42 1 encU kv K, Vec 9 1 encS vv V] (.refl _) ?_
  have hVK := hT.len
  have hKm := hT.le
  have hm4 := hT.lim
  refine d_reg ?_
  refine h_q hflS rfl ?_
  refine h_done (d_reg ?_)
  refine h_q hflS rfl ?_
  refine h_val rfl (.pointer (some ⟨p, 0, none⟩)) (fun b w hb hH => by exact exec_nilCheck rfl rfl hb) ?_
  refine h_q hflS rfl ?_
  refine h_val rfl (kv) (fun b w hb hH => exec_load rfl rfl (reads_one ty_s_uint64 rfl) (hH.row 0 rfl) hb) ?_
  refine h_act (post := fun u => [Vec 42 1 encU u K, cell p 95 #[.int .i64 m, kv, vv], Vec 42 1 encU kv K, Vec 9 1 encS vv V]) rfl (a_does (os' := fun u => [Vec 42 1 encU u K, cell p 95 #[.int .i64 m, kv, vv], Vec 42 1 encU kv K, Vec 9 1 encS vv V]) [1] 0 (ent_of Try.func45 (by kernel_rfl) rfl) (clone_uint64 (Vec 42 1 encU kv K) kv K (fun rs w h1 h2 => h1.all okU h2) (by omega)) rfl rfl rfl (fun _ => rfl) rfl rfl rfl) ?_; rintro u
  refine h_q hflS rfl ?_
  refine h_done (d_ret ?_)
  exact f_fin1 (.tmp rfl) (fun w h => tells u rfl [1, 2, 3, 0] rfl h (fun z hz => ⟨z, .refl _, tab_and hT hz⟩)) rfl

theorem values_uint64_string (p : Nat) (m : Int) (K : List (Int)) (V : List (List UInt8)) : Does Try.prog 34 #[.pointer (some ⟨p, 0, none⟩)] [Tab 95 42 9 encU encS ltI p m K V] (fun (u : Value) => u) (fun (u : Value) => [Tab 95 42 9 encU encS ltI p m K V, Vec 9 1 encS u V]) := by
  refine d_ins (args := [.pointer (some ⟨p, 0, none⟩)]) 8 Try.func34 rfl rfl rfl ?_; intro w rs
  refine d_open 0 rfl Tab.open_ (fun _ => rfl) ?_; rintro ⟨⟨kv, vv⟩, hT⟩
  refine WC2.keep (env' := [(0, .pointer (some ⟨p, 0, none⟩))]) ⟨rfl, trivial⟩ ?_
  refine WC2.mid [cell p 95 #[.int .i64 m, kv, vv], Vec 42 1 encU kv K, Vec 9 1 encS vv V] (.refl _) ?_
  have hVK := hT.len
  have hKm := hT.le
  have hm4 := hT.lim
  refine d_reg ?_
  refine h_q hflS rfl ?_
  refine h_done (d_reg ?_)
  refine h_q hflS rfl ?_
  refine h_val rfl (.pointer (some ⟨p, 0, none⟩)) (fun b w hb hH => by exact exec_nilCheck rfl rfl hb) ?_
  refine h_q hflS rfl ?_
  refine h_val rfl (vv) (fun b w hb hH => exec_load rfl rfl (reads_one ty_s_string rfl) (hH.row 0 rfl) hb) ?_
  refine h_act (post := fun u => [Vec 9 1 encS u V, cell p 95 #[.int .i64 m, kv, vv], Vec 42 1 encU kv K, Vec 9 1 encS vv V]) rfl (a_does (os' := fun u => [Vec 9 1 encS u V, cell p 95 #[.int .i64 m, kv, vv], Vec 42 1 encU kv K, Vec 9 1 encS vv V]) [2] 0 (ent_of Try.func54 (by kernel_rfl) rfl) (clone_string (Vec 9 1 encS vv V) vv V (fun rs w h1 h2 => h1.all okS h2) (by omega)) rfl rfl rfl (fun _ => rfl) rfl rfl rfl) ?_; rintro u
  refine h_q hflS rfl ?_
  refine h_done (d_ret ?_)
  exact f_fin1 (.tmp rfl) (fun w h => tells u rfl [1, 2, 3, 0] rfl h (fun z hz => ⟨z, .refl _, tab_and hT hz⟩)) rfl
end Go.Proofs.Ytmlfgdedhhmkpaa.Sep

namespace Go.Proofs.Ytmlfgdedhhmkpaa.Sep
open Go.RowKit
open Go.Proofs.Ytmlfgdedhhmkpaa.Mem (Dist Blk Chg below0)

theorem tab_new_string_int (m : Int) (hm : 1 ≤ m ∧ m ≤ 4096) (g : Nat) (z : List RowT) (hz : Parts [cell g 73 #[.int .i64 m, .slice none 0 0, .slice none 0 0]] z) : Parts [Tab 73 9 3 encS encI ltS g m [] []] z := by
  refine Parts.one ⟨.slice none 0 0, .slice none 0 0, ?_, ⟨rfl, List.Pairwise.nil, by simp; omega, hm.2⟩⟩
  exact ⟨z, [], by simp, hz.one', [], [], rfl, nilVec _ _ _, Parts.one (nilVec _ _ _)⟩

set_option maxRecDepth 100000 in
theorem new_string_int (m : Int) (hm : 1 ≤ m ∧ m ≤ 4096) : Does Try.prog 10 #[.int .i64 m] [] (fun (g : Nat) => .tuple #[.pointer (some ⟨g, 0, none⟩), .int .i64 0]) (fun (g : Nat) => [Tab 73 9 3 encS encI ltS g m [] []]) := by
  refine d_ins (args := [.int .i64 m]) 13 Try.func10 rfl rfl rfl ?_; intro w rs
  refine d_reg ?_
  refine h_q hflS rfl ?_
  refine h_done (d_seq (d_reg ?_))
  refine h_q hflS rfl ?_
  refine h_val rfl (.bool false) (fun b w hb hH => exec_cmp rfl rfl rfl (cmp_lss_f (by omega)) hb) ?_
  refine h_q hflS rfl ?_
  refine h_val rfl (.bool false) (fun b w hb hH => exec_cmp rfl rfl rfl (cmp_gtr_f (by omega)) hb) ?_
  refine h_q hflS rfl ?_
  refine h_done (d_else rfl (d_skip (f_to (d_reg ?_))))
  refine h_q hflS rfl ?_
  refine h_val rfl (.agg #[.int .i64 m, .slice none 0 0, .slice none 0 0]) (fun b w hb hH => exec_build rfl rfl (by kernel_rfl) hb) ?_
  refine h_act (post := fun g1 => [cell g1 73 #[.int .i64 m, .slice none 0 0, .slice none 0 0]]) rfl (a_box (cs := #[.int .i64 m, .slice none 0 0, .slice none 0 0]) rfl rfl rfl) ?_; rintro g1
  refine h_q hflS rfl ?_
  refine h_done (d_ret ?_)
  exact f_fin2 (.tmp rfl) (.tmp rfl) (fun w h => tells g1 rfl [0] rfl h (fun z hz => ⟨z, .refl _, tab_new_string_int m hm g1 z hz⟩)) rfl

theorem tab_new_uint64_string (m : Int) (hm : 1 ≤ m ∧ m ≤ 4096) (g : Nat) (z : List RowT) (hz : Parts [cell g 95 #[.int .i64 m, .slice none 0 0, .slice none 0 0]] z) : Parts [Tab 95 42 9 encU encS ltI g m [] []] z := by
  refine Parts.one ⟨.slice none 0 0, .slice none 0 0, ?_, ⟨rfl, List.Pairwise.nil, by simp; omega, hm.2⟩⟩
  exact ⟨z, [], by simp, hz.one', [], [], rfl, nilVec _ _ _, Parts.one (nilVec _ _ _)⟩

set_option maxRecDepth 100000 in
theorem new_uint64_string (m : Int) (hm : 1 ≤ m ∧ m ≤ 4096) : Does Try.prog 31 #[.int .i64 m] [] (fun (g : Nat) => .tuple #[.pointer (some ⟨g, 0, none⟩), .int .i64 0]) (fun (g : Nat) => [Tab 95 42 9 encU encS ltI g m [] []]) := by
  refine d_ins (args := [.int .i64 m]) 13 Try.func31 rfl rfl rfl ?_; intro w rs
  refine d_reg ?_
  refine h_q hflS rfl ?_
  refine h_done (d_seq (d_reg ?_))
  refine h_q hflS rfl ?_
  refine h_val rfl (.bool false) (fun b w hb hH => exec_cmp rfl rfl rfl (cmp_lss_f (by omega)) hb) ?_
  refine h_q hflS rfl ?_
  refine h_val rfl (.bool false) (fun b w hb hH => exec_cmp rfl rfl rfl (cmp_gtr_f (by omega)) hb) ?_
  refine h_q hflS rfl ?_
  refine h_done (d_else rfl (d_skip (f_to (d_reg ?_))))
  refine h_q hflS rfl ?_
  refine h_val rfl (.agg #[.int .i64 m, .slice none 0 0, .slice none 0 0]) (fun b w hb hH => exec_build rfl rfl (by kernel_rfl) hb) ?_
  refine h_act (post := fun g1 => [cell g1 95 #[.int .i64 m, .slice none 0 0, .slice none 0 0]]) rfl (a_box (cs := #[.int .i64 m, .slice none 0 0, .slice none 0 0]) rfl rfl rfl) ?_; rintro g1
  refine h_q hflS rfl ?_
  refine h_done (d_ret ?_)
  exact f_fin2 (.tmp rfl) (.tmp rfl) (fun w h => tells g1 rfl [0] rfl h (fun z hz => ⟨z, .refl _, tab_new_uint64_string m hm g1 z hz⟩)) rfl

set_option maxRecDepth 100000 in
theorem new_err_int_int (w : World) (m : Int) (hm : ¬ (1 ≤ m ∧ m ≤ 4096)) : Calls Try.prog 9 #[.int .i64 m] w fun e w' => e = .returned (.tuple #[.pointer none, .int .i64 1]) ∧ Below w.heap.size w w' := by
  refine d_in (args := [.int .i64 m]) 13 Try.func9 rfl rfl rfl ?_
  refine d_reg ?_
  refine h_q hflS rfl ?_
  refine h_done (d_seq ?_)
  by_cases h1 : m < 1
  · skip
    refine d_reg ?_
    refine h_q hflS rfl ?_
    refine h_val rfl (.bool true) (fun b w hb hH => exec_cmp rfl rfl rfl (cmp_lss_t (by omega)) hb) ?_
    refine h_q hflS rfl ?_
    refine h_done (d_then rfl (d_reg ?_))
    refine h_q hflS rfl ?_
    refine h_done (d_ret (f_then_ret ?_))
    exact f_fin2 (.tmp rfl) (.tmp rfl) (fun w h => ⟨rfl, below0 h.up⟩) rfl
  · skip
    refine d_reg ?_
    refine h_q hflS rfl ?_
    refine h_val rfl (.bool false) (fun b w hb hH => exec_cmp rfl rfl rfl (cmp_lss_f (by omega)) hb) ?_
    refine h_q hflS rfl ?_
    refine h_val rfl (.bool true) (fun b w hb hH => exec_cmp rfl rfl rfl (cmp_gtr_t (by omega)) hb) ?_
    refine h_q hflS rfl ?_
    refine h_done (d_then rfl (d_reg ?_))
    refine h_q hflS rfl ?_
    refine h_done (d_ret (f_then_ret ?_))
    exact f_fin2 (.tmp rfl) (.tmp rfl) (fun w h => ⟨rfl, below0 h.up⟩) rfl
end Go.Proofs.Ytmlfgdedhhmkpaa.Sep

namespace Go.Proofs.Ytmlfgdedhhmkpaa.Sep
open Go.ChangeShapes Go.WideShapes Go.ChangeAt Go.RowKit
section
variable {H : Type} {enc : TypeId × Value → H} {P : Program}
theorem spot0 {w : World} {a : Addr} {v : Value} (h : w.cell? a = some v) : a = ⟨a.block, a.off, none⟩ := by
  obtain ⟨b, o, s⟩ := a
  have : s = none := by simpa using World.cell?_spot h
  subst this
  rfl
end
section
variable {P : Program} {n : Nat} {w : World} {env : List (Nat × Value)} {o : Oper} {act : Act} {t e : TypeId} {k : Nat} {α : Type} {enc : α → List Value} {u : Value} {m : List α}
theorem SlRd.at_ (he : EncOf k enc) (hk : 0 < k) (hu : SlRd w k u m.length (flat enc m)) {j : Nat} {a : α} (hj : m[j]? = some a) : ∃ g off c, u = .slice (some ⟨g, off, none⟩) m.length c ∧ ∀ q x, (enc a)[q]? = some x → w.cell? ⟨g, off + j * k + q, none⟩ = some x := by
  obtain ⟨_, A, c, rfl, hA⟩ := hu
  rcases hA with ⟨_, h0⟩ | ⟨b, rfl, hc⟩
  · rw [List.length_eq_zero_iff.1 h0] at hj; simp at hj
  · obtain ⟨z, hz⟩ : ∃ z, (flat enc m)[0]? = some z := ⟨_, List.getElem?_eq_getElem (by
      rw [flat_len he]
      have := (List.getElem?_eq_some_iff.1 hj).1
      exact Nat.mul_pos (by omega) hk)⟩
    have h0 := hc 0 z hz
    rw [show b.add 0 = b by simp [Addr.add]] at h0
    have hb := spot0 h0
    refine ⟨b.block, b.off, c, by rw [← hb], fun q x hx => ?_⟩
    have hq : q < k := by rw [← he.len a]; exact (List.getElem?_eq_some_iff.1 hx).1
    have := hc (j * k + q) x ((flat_get he hj hq).trans hx)
    rw [hb, Addr.add_lit] at this
    rw [Nat.add_assoc]
    exact this
end
end Go.Proofs.Ytmlfgdedhhmkpaa.Sep
