/-
  RlV · RlW
-/
import Derived.Test.YtnebloeideodmaaNG03
import Derived.Test.YtnebloeideodmaaNJ01
import Derived.Test.YtnebloeideodmaaNK01
set_option linter.unusedSimpArgs false
set_option linter.unusedVariables false

namespace Go.Proofs.Ytnebloeideodmaa.Sep
open Go.RowKit
open Go.Proofs.Ytnebloeideodmaa.Mem (Dist Blk Chg below0)
structure RfV where
  A : Option Addr
  c : Nat
  L : List EntV
def RfV.v (x : RfV) : Value := .slice x.A x.L.length x.c
def RfT (g : Nat) (bi bt bc : Int) (es : List EntD) : Ass := fun rs => ∃ x : RfV, (x.L.map (·.e) = es ∧ x.L.length ≤ x.c) ∧ Parts [cell g 74 #[.int .u64 bi, .int .u64 bt, .int .i64 bc, .slice x.A x.L.length x.c], Vec 32 5 encV (.slice x.A x.L.length x.c) x.L, Each dat x.L] rs
theorem RfT.open_ {g : Nat} {bi bt bc : Int} {es : List EntD} : ∀ rs, RfT g bi bt bc es rs → ∃ x : { x : RfV // x.L.map (·.e) = es ∧ x.L.length ≤ x.c }, Parts [cell g 74 #[.int .u64 bi, .int .u64 bt, .int .i64 bc, .slice x.1.A x.1.L.length x.1.c], Vec 32 5 encV (.slice x.1.A x.1.L.length x.1.c) x.1.L, Each dat x.1.L] rs := fun _ ⟨x, h, hr⟩ => ⟨⟨x, h⟩, hr⟩
theorem vec_capE {α : Type} {te : TypeId} {k : Nat} {enc : α → List Value} {A : Option Addr} {c n : Nat} {l : List α} {rs : List RowT} (h : Vec te k enc (.slice A n c) l rs) : l.length ≤ c := by
  rcases h with ⟨h1, h2, _⟩ | ⟨g, cap, cs, h1, h2, _⟩
  · rw [h2]; exact Nat.zero_le _
  · simp only [Value.slice.injEq] at h1; omega
theorem RfT.mk {g : Nat} {bi bt bc : Int} {v : Value} {es : List EntD} : ∀ rs, Parts [cell g 74 #[.int .u64 bi, .int .u64 bt, .int .i64 bc, v], EnT v es] rs → RfT g bi bt bc es rs := fun rs h => by
  obtain ⟨a, b, e, h1, h2⟩ := h
  obtain ⟨L, hL, p, q, e2, h3, h4⟩ := h2.one'
  obtain ⟨A, c, rfl⟩ := h3.is
  exact ⟨⟨A, c, L⟩, ⟨hL, vec_capE h3⟩, a, b, e, h1, p, q, e2, h3, h4⟩
theorem RfT.back {g : Nat} {bi bt bc : Int} {A : Option Addr} {c : Nat} {L : List EntV} {es : List EntD} (hL : L.map (·.e) = es) (hc : L.length ≤ c) : ∀ rs, Parts [cell g 74 #[.int .u64 bi, .int .u64 bt, .int .i64 bc, .slice A L.length c], Vec 32 5 encV (.slice A L.length c) L, Each dat L] rs → RfT g bi bt bc es rs := fun rs h => ⟨⟨A, c, L⟩, ⟨hL, hc⟩, h⟩
theorem RfT.done {g : Nat} {bi bt bc : Int} {A : Option Addr} {c : Nat} {L : List EntV} {es : List EntD} (hL : L.map (·.e) = es) (hc : L.length ≤ c) : ∀ z, Parts [cell g 74 #[.int .u64 bi, .int .u64 bt, .int .i64 bc, .slice A L.length c], Vec 32 5 encV (.slice A L.length c) L, Each dat L] z → ∃ z', z.Perm z' ∧ Parts [RfT g bi bt bc es] z' := fun z hz => ⟨z, .refl _, Parts.one (RfT.back hL hc z hz)⟩
theorem copy_v (u : World) (v : Value) (l : List EntV) (hv : EntsRd u v l) (hl : l.length * 56 ≤ 140737488351232) (hd : ∀ x, x ∈ l → x.e.d.length ≤ 140737488351232) (es : List EntD) (he : l.map (·.e) = es) : DoesU u Try.prog 39 #[v] [] (fun cv : Value => cv) (fun cv => [EnT cv es]) := fun w rs a b hp hr hd' => by
  subst he
  refine (copye_does u v l hv hl hd w rs a b hp hr hd').mono ?_
  rintro e w' ⟨x, hx, rs', ⟨p, q, e1, h1, h2⟩, hc⟩
  obtain ⟨p2, q2, e2, ⟨h3, h4⟩, h5⟩ := h2
  subst h3
  have h5 : q2 = [] := h5
  subst h5
  have : q = [] := by simpa using e2
  subst this
  exact ⟨_, hx, rs', ⟨p, [], e1, ⟨x.l, h4, h1⟩, rfl⟩, hc⟩
section
variable {P : Program} {Q : Exit → Act → World → Prop} {n : Nat} {B : Nat → Prop} {w w0 : World} {os : List Ass} {env : List (Nat × Value)} {o : Oper} {t e ty : TypeId} {rs : List RowT}
theorem own_rd (i j : Nat) {v : Value} {L : List EntV} (hi : os[i]? = some (Vec 32 5 encV v L)) (hj : os[j]? = some (Each dat L)) (hH : Hp B w0 w os) : EntsRd w v L := by
  refine ⟨hH.vec i hi okV, fun x hx => ?_⟩
  obtain ⟨k, hk⟩ := List.getElem?_of_mem hx
  exact hH.rd8 j hj (dat_rd8 hk)
theorem ents_lo {A : Option Addr} {c k : Nat} {l : List EntV} (h : EntsRd w (.slice A l.length c) l) (hk : k ≤ l.length) (hc : l.length ≤ c) : EntsRd w (.slice (lowA A c k) (l.drop k).length (c - k)) (l.drop k) := by
  have := SlRd.tail okV hk hc h.1
  rw [sub_lo5] at this
  exact ⟨this, fun x hx => h.2 x (List.mem_of_mem_drop hx)⟩
theorem ents_hi {A : Option Addr} {c k : Nat} {l : List EntV} (h : EntsRd w (.slice A l.length c) l) (hk : k ≤ l.length) : EntsRd w (.slice A (l.take k).length c) (l.take k) := by
  have := SlRd.head okV hk h.1
  have hl : (l.take k).length = k := by rw [List.length_take]; omega
  rw [hl] at this ⊢
  exact ⟨by rw [hl]; exact this, fun x hx => h.2 x (List.mem_of_mem_take hx)⟩
end
end Go.Proofs.Ytnebloeideodmaa.Sep

namespace Go.Proofs.Ytnebloeideodmaa.Sep
open Go.RowKit
open Go.Proofs.Ytnebloeideodmaa.Mem (Dist Blk Chg below0)

set_option maxRecDepth 100000 in
theorem r_last (g : Nat) (bi bt bc : Int) (es : List EntD) (hI : InvL bi bt es) (A : Option Addr) (c : Nat) (L : List EntV) (hL : L.map (·.e) = es)  : Does Try.prog 42 #[.pointer (some ⟨g, 0, none⟩)] [cell g 74 #[.int .u64 bi, .int .u64 bt, .int .i64 bc, .slice A L.length c], Vec 32 5 encV (.slice A L.length c) L] (fun (_ : Unit) => .int .u64 (bi + (es.length : Int))) (fun (_ : Unit) => [cell g 74 #[.int .u64 bi, .int .u64 bt, .int .i64 bc, .slice A L.length c], Vec 32 5 encV (.slice A L.length c) L]) := by
  have hb0 := hI.hi
  have ht0 := hI.ht
  have hle0 := hI.len
  have hm0 : (es.length : Int) ≤ 72057594037927935 := by omega
  have hls : 0 ≤ bi ∧ 0 ≤ (es.length : Int) ∧ bi + (es.length : Int) ≤ 9223372036854775807 := by omega
  have hLl : L.length = es.length := by rw [← hL, List.length_map]
  refine d_ins (args := [.pointer (some ⟨g, 0, none⟩)]) 15 Try.func42 rfl rfl rfl ?_; intro w rs
  refine d_reg ?_
  refine h_q hflS rfl ?_
  refine h_done (d_seq ?_)
  refine d_parS 12 0 [⟨.quiet, [], fun _ => .pointer (some ⟨g, 0, none⟩), []⟩, ⟨.quiet, [], fun _ => .pointer (some ⟨g, 0, none⟩), [0]⟩, ⟨.quiet, [], fun _ => .pointer (some ⟨g, 0, none⟩), [1]⟩, ⟨.quiet, [], fun _ => .pointer (some ⟨g, 0, none⟩), [2]⟩, ⟨.quiet, [], fun _ => .int .u64 bi, [3]⟩, ⟨.quiet, [], fun _ => .pointer (some ⟨g, 0, none⟩), []⟩, ⟨.quiet, [], fun _ => .pointer (some ⟨g, 0, none⟩), [5]⟩, ⟨.quiet, [], fun _ => .pointer (some ⟨g, 3, none⟩), [6]⟩, ⟨.quiet, [], fun _ => .slice A L.length c, [7]⟩, ⟨.quiet, [], fun _ => .int .i64 (L.length : Int), [8]⟩, ⟨.quiet, [], fun _ => .int .u64 (es.length : Int), [9]⟩, ⟨.quiet, [], fun _ => .int .u64 (bi + (es.length : Int)), [4, 10]⟩] [(0, .pointer (some ⟨g, 0, none⟩)), (2, .int .u64 0)] (fun _ => [cell g 74 #[.int .u64 bi, .int .u64 bt, .int .i64 bc, .slice A L.length c], Vec 32 5 encV (.slice A L.length c) L]) (by kernel_rfl) (by kernel_rfl) ⟨rfl, rfl, trivial⟩ rfl ?_ ?_
  · skip
    refine s_cons (by exact ⟨rfl, fun b w hH hb => exec_q1 hflS rfl hb⟩) ?_
    refine s_cons (by exact ⟨rfl, fun b w hH hb => by exact exec_nilCheck rfl rfl hb⟩) ?_
    refine s_cons (by exact ⟨rfl, fun b w hH hb => exec_q1 hflS rfl hb⟩) ?_
    refine s_cons (by exact ⟨rfl, fun b w hH hb => exec_q1 hflS rfl hb⟩) ?_
    refine s_cons (by exact ⟨rfl, fun b w hH hb => exec_load rfl rfl (reads_one ty_uint64 rfl) (hH.row 0 rfl) hb⟩) ?_
    refine s_cons (by exact ⟨rfl, fun b w hH hb => exec_q1 hflS rfl hb⟩) ?_
    refine s_cons (by exact ⟨rfl, fun b w hH hb => by exact exec_nilCheck rfl rfl hb⟩) ?_
    refine s_cons (by exact ⟨rfl, fun b w hH hb => exec_q1 hflS rfl hb⟩) ?_
    refine s_cons (by exact ⟨rfl, fun b w hH hb => exec_load rfl rfl (reads_one ty_s_api_Entry rfl) (hH.row 0 rfl) hb⟩) ?_
    refine s_cons (by exact ⟨rfl, fun b w hH hb => e_len sl_api_Entry rfl rfl hH hb⟩) ?_
    refine s_cons (by exact ⟨rfl, fun b w hH hb => exec_conv Try.underlying3 Try.underlying26 (by rw [IntWalk.u64_in _ (by omega)]; omega) rfl rfl hb⟩) ?_
    refine s_cons (by exact ⟨rfl, fun b w hH hb => exec_ar rfl rfl rfl rfl (IntWalk.u64_in _ (by omega)) hb⟩) ?_
    exact s_nil
  refine WL2.keep (env' := [(2, .int .u64 0), (14, .int .u64 (bi + (es.length : Int)))]) ⟨rfl, rfl, trivial⟩ ?_
  refine h_q hflS rfl ?_
  refine h_nil (f_to (d_ret ?_))
  exact f_fin1 (.tmp rfl) (fun w h => tells () rfl [0, 1] rfl h same_parts) rfl

set_option maxRecDepth 100000 in
theorem r_term (g : Nat) (bi bt bc : Int) (es : List EntD) (hI : InvL bi bt es) (A : Option Addr) (c : Nat) (L : List EntV) (hL : L.map (·.e) = es) (x : Int) (hx : 0 ≤ x ∧ x ≤ 18446744073709551615) (a : Int) (ok : Bool) (ht : termM bi bt es x = (a, ok)) : Does Try.prog 45 #[.pointer (some ⟨g, 0, none⟩), .int .u64 x] [cell g 74 #[.int .u64 bi, .int .u64 bt, .int .i64 bc, .slice A L.length c], Vec 32 5 encV (.slice A L.length c) L] (fun (_ : Unit) => .tuple #[.int .u64 a, .bool ok]) (fun (_ : Unit) => [cell g 74 #[.int .u64 bi, .int .u64 bt, .int .i64 bc, .slice A L.length c], Vec 32 5 encV (.slice A L.length c) L]) := by
  have hb0 := hI.hi
  have ht0 := hI.ht
  have hle0 := hI.len
  have hm0 : (es.length : Int) ≤ 72057594037927935 := by omega
  have hls : 0 ≤ bi ∧ 0 ≤ (es.length : Int) ∧ bi + (es.length : Int) ≤ 9223372036854775807 := by omega
  have hLl : L.length = es.length := by rw [← hL, List.length_map]
  refine d_ins (args := [.pointer (some ⟨g, 0, none⟩), .int .u64 x]) 46 Try.func45 rfl rfl rfl ?_; intro w rs
  refine d_reg ?_
  refine h_q hflS rfl ?_
  refine h_done (d_seq ?_)
  rcases (show x = bi ∨ x < bi ∨ bi + (es.length : Int) < x ∨ (bi < x ∧ x ≤ bi + (es.length : Int)) by omega) with hn | hn | hn | ⟨hn, hn2⟩
  · skip
    obtain ⟨rfl, rfl⟩ : bt = a ∧ true = ok := by rw [hn, termM_base] at ht; exact ⟨congrArg Prod.fst ht, congrArg Prod.snd ht⟩
    refine d_reg ?_
    refine h_q hflS rfl ?_
    refine h_val rfl (.pointer (some ⟨g, 0, none⟩)) (fun b w hb hH => by exact exec_nilCheck rfl rfl hb) ?_
    refine h_q hflS rfl ?_
    refine h_val rfl (.int .u64 bi) (fun b w hb hH => exec_load rfl rfl (reads_one ty_uint64 rfl) (hH.row 0 rfl) hb) ?_
    refine h_val rfl (.bool true) (fun b w hb hH => exec_cmp rfl rfl rfl (cmp_eql_t (by omega)) hb) ?_
    refine h_done (d_then rfl (d_reg ?_))
    refine h_q hflS rfl ?_
    refine h_val rfl (.pointer (some ⟨g, 0, none⟩)) (fun b w hb hH => by exact exec_nilCheck rfl rfl hb) ?_
    refine h_q hflS rfl ?_
    refine h_val rfl (.int .u64 bt) (fun b w hb hH => exec_load rfl rfl (reads_one ty_uint64 rfl) (hH.row 0 rfl) hb) ?_
    refine h_q hflS rfl ?_
    refine h_done (d_ret (f_then_ret ?_))
    exact f_fin2 (.tmp rfl) (.tmp rfl) (fun w h => tells () rfl [0, 1] rfl h same_parts) rfl
  · skip
    obtain ⟨rfl, rfl⟩ : 0 = a ∧ false = ok := by have h9 := termM_off (bt := bt) (es := es) (show x < bi ∨ bi + (es.length : Int) < x by omega); rw [ht] at h9; exact ⟨(congrArg Prod.fst h9).symm, (congrArg Prod.snd h9).symm⟩
    refine d_reg ?_
    refine h_q hflS rfl ?_
    refine h_val rfl (.pointer (some ⟨g, 0, none⟩)) (fun b w hb hH => by exact exec_nilCheck rfl rfl hb) ?_
    refine h_q hflS rfl ?_
    refine h_val rfl (.int .u64 bi) (fun b w hb hH => exec_load rfl rfl (reads_one ty_uint64 rfl) (hH.row 0 rfl) hb) ?_
    refine h_val rfl (.bool false) (fun b w hb hH => exec_cmp rfl rfl rfl (cmp_eql_f (by omega)) hb) ?_
    refine h_done (d_else rfl (d_skip (f_to (d_seq (d_reg ?_)))))
    refine h_q hflS rfl ?_
    refine h_val rfl (.pointer (some ⟨g, 0, none⟩)) (fun b w hb hH => by exact exec_nilCheck rfl rfl hb) ?_
    refine h_q hflS rfl ?_
    refine h_val rfl (.int .u64 bi) (fun b w hb hH => exec_load rfl rfl (reads_one ty_uint64 rfl) (hH.row 0 rfl) hb) ?_
    refine h_val rfl (.bool true) (fun b w hb hH => exec_cmp rfl rfl rfl (cmp_lss_t (by omega)) hb) ?_
    refine h_q hflS rfl ?_
    refine h_done (d_then rfl (d_reg ?_))
    refine h_q hflS rfl ?_
    refine h_done (d_ret (f_then_ret ?_))
    exact f_fin2 (.tmp rfl) (.tmp rfl) (fun w h => tells () rfl [0, 1] rfl h same_parts) rfl
  · skip
    obtain ⟨rfl, rfl⟩ : 0 = a ∧ false = ok := by have h9 := termM_off (bt := bt) (es := es) (show x < bi ∨ bi + (es.length : Int) < x by omega); rw [ht] at h9; exact ⟨(congrArg Prod.fst h9).symm, (congrArg Prod.snd h9).symm⟩
    refine d_reg ?_
    refine h_q hflS rfl ?_
    refine h_val rfl (.pointer (some ⟨g, 0, none⟩)) (fun b w hb hH => by exact exec_nilCheck rfl rfl hb) ?_
    refine h_q hflS rfl ?_
    refine h_val rfl (.int .u64 bi) (fun b w hb hH => exec_load rfl rfl (reads_one ty_uint64 rfl) (hH.row 0 rfl) hb) ?_
    refine h_val rfl (.bool false) (fun b w hb hH => exec_cmp rfl rfl rfl (cmp_eql_f (by omega)) hb) ?_
    refine h_done (d_else rfl (d_skip (f_to (d_seq (d_reg ?_)))))
    refine h_q hflS rfl ?_
    refine h_val rfl (.pointer (some ⟨g, 0, none⟩)) (fun b w hb hH => by exact exec_nilCheck rfl rfl hb) ?_
    refine h_q hflS rfl ?_
    refine h_val rfl (.int .u64 bi) (fun b w hb hH => exec_load rfl rfl (reads_one ty_uint64 rfl) (hH.row 0 rfl) hb) ?_
    refine h_val rfl (.bool false) (fun b w hb hH => exec_cmp rfl rfl rfl (cmp_lss_f (by omega)) hb) ?_
    refine h_q hflS rfl ?_
    refine h_act (post := fun _ => [cell g 74 #[.int .u64 bi, .int .u64 bt, .int .i64 bc, .slice A L.length c], Vec 32 5 encV (.slice A L.length c) L]) rfl (a_does (os' := fun _ => [cell g 74 #[.int .u64 bi, .int .u64 bt, .int .i64 bc, .slice A L.length c], Vec 32 5 encV (.slice A L.length c) L]) [0, 1] 0 (ent_of Try.func42 (by kernel_rfl) rfl) (r_last g bi bt bc es hI A c L hL ) rfl rfl rfl (fun _ => rfl) rfl rfl rfl) ?_; rintro ⟨⟩
    refine h_val rfl (.bool true) (fun b w hb hH => exec_cmp rfl rfl rfl (cmp_gtr_t (by omega)) hb) ?_
    refine h_q hflS rfl ?_
    refine h_done (d_then rfl (d_reg ?_))
    refine h_q hflS rfl ?_
    refine h_done (d_ret (f_then_ret ?_))
    exact f_fin2 (.tmp rfl) (.tmp rfl) (fun w h => tells () rfl [0, 1] rfl h same_parts) rfl
  · skip
    obtain ⟨k, hk⟩ : ∃ k : Nat, x = bi + 1 + (k : Int) := ⟨(x - bi - 1).toNat, by omega⟩
    have hkl : k < L.length := by omega
    obtain ⟨y, hy⟩ : ∃ y, L[k]? = some y := ⟨_, List.getElem?_eq_getElem hkl⟩
    obtain ⟨rfl, rfl⟩ : y.e.t = a ∧ true = ok := by have h9 := termM_at (bt := bt) hk (map_at hL hy); rw [ht] at h9; exact ⟨(congrArg Prod.fst h9).symm, (congrArg Prod.snd h9).symm⟩
    refine d_reg ?_
    refine h_q hflS rfl ?_
    refine h_val rfl (.pointer (some ⟨g, 0, none⟩)) (fun b w hb hH => by exact exec_nilCheck rfl rfl hb) ?_
    refine h_q hflS rfl ?_
    refine h_val rfl (.int .u64 bi) (fun b w hb hH => exec_load rfl rfl (reads_one ty_uint64 rfl) (hH.row 0 rfl) hb) ?_
    refine h_val rfl (.bool false) (fun b w hb hH => exec_cmp rfl rfl rfl (cmp_eql_f (by omega)) hb) ?_
    refine h_done (d_else rfl (d_skip (f_to (d_seq (d_reg ?_)))))
    refine h_q hflS rfl ?_
    refine h_val rfl (.pointer (some ⟨g, 0, none⟩)) (fun b w hb hH => by exact exec_nilCheck rfl rfl hb) ?_
    refine h_q hflS rfl ?_
    refine h_val rfl (.int .u64 bi) (fun b w hb hH => exec_load rfl rfl (reads_one ty_uint64 rfl) (hH.row 0 rfl) hb) ?_
    refine h_val rfl (.bool false) (fun b w hb hH => exec_cmp rfl rfl rfl (cmp_lss_f (by omega)) hb) ?_
    refine h_q hflS rfl ?_
    refine h_act (post := fun _ => [cell g 74 #[.int .u64 bi, .int .u64 bt, .int .i64 bc, .slice A L.length c], Vec 32 5 encV (.slice A L.length c) L]) rfl (a_does (os' := fun _ => [cell g 74 #[.int .u64 bi, .int .u64 bt, .int .i64 bc, .slice A L.length c], Vec 32 5 encV (.slice A L.length c) L]) [0, 1] 0 (ent_of Try.func42 (by kernel_rfl) rfl) (r_last g bi bt bc es hI A c L hL ) rfl rfl rfl (fun _ => rfl) rfl rfl rfl) ?_; rintro ⟨⟩
    refine h_val rfl (.bool false) (fun b w hb hH => exec_cmp rfl rfl rfl (cmp_gtr_f (by omega)) hb) ?_
    refine h_q hflS rfl ?_
    refine h_done (d_else rfl (d_skip (f_to (d_seq ?_))))
    refine d_parS 15 0 [⟨.quiet, [], fun _ => .pointer (some ⟨g, 0, none⟩), []⟩, ⟨.quiet, [], fun _ => .pointer (some ⟨g, 0, none⟩), [0]⟩, ⟨.quiet, [], fun _ => .pointer (some ⟨g, 3, none⟩), [1]⟩, ⟨.quiet, [], fun _ => .slice A L.length c, [2]⟩, ⟨.quiet, [], fun _ => .int .u64 x, []⟩, ⟨.quiet, [], fun _ => .pointer (some ⟨g, 0, none⟩), []⟩, ⟨.quiet, [], fun _ => .pointer (some ⟨g, 0, none⟩), [5]⟩, ⟨.quiet, [], fun _ => .pointer (some ⟨g, 0, none⟩), [6]⟩, ⟨.quiet, [], fun _ => .pointer (some ⟨g, 0, none⟩), [7]⟩, ⟨.quiet, [], fun _ => .int .u64 bi, [8]⟩, ⟨.quiet, [], fun _ => .int .u64 (x - bi), [4, 9]⟩, ⟨.quiet, [], fun _ => .int .u64 (k : Int), [10]⟩, ⟨.quiet, [], fun _ => elp (.slice A L.length c) (k * 5), [3, 11]⟩, ⟨.quiet, [], fun _ => elp (.slice A L.length c) (k * 5 + 1), [12]⟩, ⟨.quiet, [], fun _ => .int .u64 y.e.t, [13]⟩] [(0, .pointer (some ⟨g, 0, none⟩)), (1, .int .u64 x), (4, .int .u64 0), (5, .bool false)] (fun _ => [cell g 74 #[.int .u64 bi, .int .u64 bt, .int .i64 bc, .slice A L.length c], Vec 32 5 encV (.slice A L.length c) L]) (by kernel_rfl) (by kernel_rfl) ⟨rfl, rfl, rfl, rfl, trivial⟩ rfl ?_ ?_
    · skip
      refine s_cons (by exact ⟨rfl, fun b w hH hb => exec_q1 hflS rfl hb⟩) ?_
      refine s_cons (by exact ⟨rfl, fun b w hH hb => by exact exec_nilCheck rfl rfl hb⟩) ?_
      refine s_cons (by exact ⟨rfl, fun b w hH hb => exec_q1 hflS rfl hb⟩) ?_
      refine s_cons (by exact ⟨rfl, fun b w hH hb => exec_load rfl rfl (reads_one ty_s_api_Entry rfl) (hH.row 0 rfl) hb⟩) ?_
      refine s_cons (by exact ⟨rfl, fun b w hH hb => exec_q1 hflS rfl hb⟩) ?_
      refine s_cons (by exact ⟨rfl, fun b w hH hb => exec_q1 hflS rfl hb⟩) ?_
      refine s_cons (by exact ⟨rfl, fun b w hH hb => by exact exec_nilCheck rfl rfl hb⟩) ?_
      refine s_cons (by exact ⟨rfl, fun b w hH hb => exec_q1 hflS rfl hb⟩) ?_
      refine s_cons (by exact ⟨rfl, fun b w hH hb => exec_q1 hflS rfl hb⟩) ?_
      refine s_cons (by exact ⟨rfl, fun b w hH hb => exec_load rfl rfl (reads_one ty_uint64 rfl) (hH.row 0 rfl) hb⟩) ?_
      refine s_cons (by exact ⟨rfl, fun b w hH hb => exec_ar rfl rfl rfl rfl (IntWalk.u64_in _ (by omega)) hb⟩) ?_
      refine s_cons (by exact ⟨rfl, fun b w hH hb => exec_ar rfl rfl rfl rfl (by rw [IntWalk.u64_in _ (by omega)]; omega) hb⟩) ?_
      refine s_cons (by exact ⟨rfl, fun b w hH hb => e_vidx 1 sl_api_Entry okV rfl k hkl rfl rfl rfl hH hb⟩) ?_
      refine s_cons (by exact ⟨rfl, fun b w hH hb => e_sfield okV (by decide) (hH.vec 1 rfl okV) (j := k) hy fd_api_Entry_1 rfl rfl hb⟩) ?_
      refine s_cons (by exact ⟨rfl, fun b w hH hb => e_sload okV (by decide) (hH.vec 1 rfl okV) (j := k) hy ty_uint64 (off := 1) rfl rfl rfl hb⟩) ?_
      exact s_nil
    refine WL2.keep (env' := [(4, .int .u64 0), (5, .bool false), (45, .int .u64 y.e.t)]) ⟨rfl, rfl, rfl, trivial⟩ ?_
    refine h_q hflS rfl ?_
    refine h_nil (f_to (d_ret ?_))
    exact f_fin2 (.tmp rfl) (.tmp rfl) (fun w h => tells () rfl [0, 1] rfl h same_parts) rfl

set_option maxRecDepth 100000 in
theorem r_good (g : Nat) (bi bt bc : Int) (es : List EntD) (hI : InvL bi bt es) (A : Option Addr) (c : Nat) (L : List EntV) (hL : L.map (·.e) = es) (x y : Int) (hx : 0 ≤ x ∧ x ≤ 18446744073709551615) (b : Bool) (hb : (decide (ltm bt es < y) || (decide (y = ltm bt es) && decide (bi + (es.length : Int) ≤ x))) = b) : Does Try.prog 47 #[.pointer (some ⟨g, 0, none⟩), .int .u64 x, .int .u64 y] [cell g 74 #[.int .u64 bi, .int .u64 bt, .int .i64 bc, .slice A L.length c], Vec 32 5 encV (.slice A L.length c) L] (fun (_ : Unit) => .bool b) (fun (_ : Unit) => [cell g 74 #[.int .u64 bi, .int .u64 bt, .int .i64 bc, .slice A L.length c], Vec 32 5 encV (.slice A L.length c) L]) := by
  have hb0 := hI.hi
  have ht0 := hI.ht
  have hle0 := hI.len
  have hm0 : (es.length : Int) ≤ 72057594037927935 := by omega
  have hls : 0 ≤ bi ∧ 0 ≤ (es.length : Int) ∧ bi + (es.length : Int) ≤ 9223372036854775807 := by omega
  have hLl : L.length = es.length := by rw [← hL, List.length_map]
  refine d_ins (args := [.pointer (some ⟨g, 0, none⟩), .int .u64 x, .int .u64 y]) 30 Try.func47 rfl rfl rfl ?_; intro w rs
  refine d_reg ?_
  refine h_q hflS rfl ?_
  refine h_done (d_reg ?_)
  refine h_q hflS rfl ?_
  refine h_act (post := fun _ => [cell g 74 #[.int .u64 bi, .int .u64 bt, .int .i64 bc, .slice A L.length c], Vec 32 5 encV (.slice A L.length c) L]) rfl (a_does (os' := fun _ => [cell g 74 #[.int .u64 bi, .int .u64 bt, .int .i64 bc, .slice A L.length c], Vec 32 5 encV (.slice A L.length c) L]) [0, 1] 0 (ent_of Try.func42 (by kernel_rfl) rfl) (r_last g bi bt bc es hI A c L hL ) rfl rfl rfl (fun _ => rfl) rfl rfl rfl) ?_; rintro ⟨⟩
  refine h_act (post := fun _ => [cell g 74 #[.int .u64 bi, .int .u64 bt, .int .i64 bc, .slice A L.length c], Vec 32 5 encV (.slice A L.length c) L]) rfl (a_does (os' := fun _ => [cell g 74 #[.int .u64 bi, .int .u64 bt, .int .i64 bc, .slice A L.length c], Vec 32 5 encV (.slice A L.length c) L]) [0, 1] 0 (ent_of Try.func45 (by kernel_rfl) rfl) (r_term g bi bt bc es hI A c L hL (bi + (es.length : Int)) (by omega) (ltm bt es) true termM_last) rfl rfl rfl (fun _ => rfl) rfl rfl rfl) ?_; rintro ⟨⟩
  refine h_q hflS rfl ?_
  refine h_done ?_
  rcases Int.lt_or_le (ltm bt es) y with h1 | h1
  rotate_left
  by_cases h2 : y = ltm bt es
  rcases Int.lt_or_le x (bi + (es.length : Int)) with h3 | h3
  · skip
    obtain rfl : b = false := by rw [← hb]; simp; omega
    refine d_reg ?_
    refine h_q hflS rfl ?_
    refine h_val rfl (.bool false) (fun b w hb hH => exec_cmp rfl rfl rfl (cmp_gtr_f (by omega)) hb) ?_
    refine h_q hflS rfl ?_
    refine h_val rfl (.bool true) (fun b w hb hH => exec_cmp rfl rfl rfl (cmp_eql_t h2) hb) ?_
    refine h_q hflS rfl ?_
    refine h_act (post := fun _ => [cell g 74 #[.int .u64 bi, .int .u64 bt, .int .i64 bc, .slice A L.length c], Vec 32 5 encV (.slice A L.length c) L]) rfl (a_does (os' := fun _ => [cell g 74 #[.int .u64 bi, .int .u64 bt, .int .i64 bc, .slice A L.length c], Vec 32 5 encV (.slice A L.length c) L]) [0, 1] 0 (ent_of Try.func42 (by kernel_rfl) rfl) (r_last g bi bt bc es hI A c L hL ) rfl rfl rfl (fun _ => rfl) rfl rfl rfl) ?_; rintro ⟨⟩
    refine h_val rfl (.bool false) (fun b w hb hH => exec_cmp rfl rfl rfl (cmp_geq_f (by omega)) hb) ?_
    refine h_q hflS rfl ?_
    refine h_done (d_ret ?_)
    exact f_fin1 (.tmp rfl) (fun w h => tells () rfl [0, 1] rfl h same_parts) rfl
  · skip
    obtain rfl : b = true := by rw [← hb]; simp; omega
    refine d_reg ?_
    refine h_q hflS rfl ?_
    refine h_val rfl (.bool false) (fun b w hb hH => exec_cmp rfl rfl rfl (cmp_gtr_f (by omega)) hb) ?_
    refine h_q hflS rfl ?_
    refine h_val rfl (.bool true) (fun b w hb hH => exec_cmp rfl rfl rfl (cmp_eql_t h2) hb) ?_
    refine h_q hflS rfl ?_
    refine h_act (post := fun _ => [cell g 74 #[.int .u64 bi, .int .u64 bt, .int .i64 bc, .slice A L.length c], Vec 32 5 encV (.slice A L.length c) L]) rfl (a_does (os' := fun _ => [cell g 74 #[.int .u64 bi, .int .u64 bt, .int .i64 bc, .slice A L.length c], Vec 32 5 encV (.slice A L.length c) L]) [0, 1] 0 (ent_of Try.func42 (by kernel_rfl) rfl) (r_last g bi bt bc es hI A c L hL ) rfl rfl rfl (fun _ => rfl) rfl rfl rfl) ?_; rintro ⟨⟩
    refine h_val rfl (.bool true) (fun b w hb hH => exec_cmp rfl rfl rfl (cmp_geq_t (by omega)) hb) ?_
    refine h_q hflS rfl ?_
    refine h_done (d_ret ?_)
    exact f_fin1 (.tmp rfl) (fun w h => tells () rfl [0, 1] rfl h same_parts) rfl
  · skip
    obtain rfl : b = false := by rw [← hb]; simp; omega
    refine d_reg ?_
    refine h_q hflS rfl ?_
    refine h_val rfl (.bool false) (fun b w hb hH => exec_cmp rfl rfl rfl (cmp_gtr_f (by omega)) hb) ?_
    refine h_q hflS rfl ?_
    refine h_val rfl (.bool false) (fun b w hb hH => exec_cmp rfl rfl rfl (cmp_eql_f h2) hb) ?_
    refine h_q hflS rfl ?_
    refine h_done (d_ret ?_)
    exact f_fin1 (.tmp rfl) (fun w h => tells () rfl [0, 1] rfl h same_parts) rfl
  · skip
    obtain rfl : b = true := by rw [← hb]; simp; omega
    refine d_reg ?_
    refine h_q hflS rfl ?_
    refine h_val rfl (.bool true) (fun b w hb hH => exec_cmp rfl rfl rfl (cmp_gtr_t (by omega)) hb) ?_
    refine h_q hflS rfl ?_
    refine h_done (d_ret ?_)
    exact f_fin1 (.tmp rfl) (fun w h => tells () rfl [0, 1] rfl h same_parts) rfl

set_option maxRecDepth 100000 in
theorem r_confAt (g : Nat) (bi bt bc : Int) (es : List EntD) (hI : InvL bi bt es) (A : Option Addr) (c : Nat) (L : List EntV) (hL : L.map (·.e) = es) (x : Int) (hx : 0 ≤ x ∧ x ≤ 18446744073709551615) (p q : Int) (hc : cfL (bc, bi) (es.take (upM bi es.length x)) = (p, q)) : Does Try.prog 46 #[.pointer (some ⟨g, 0, none⟩), .int .u64 x] [cell g 74 #[.int .u64 bi, .int .u64 bt, .int .i64 bc, .slice A L.length c], Vec 32 5 encV (.slice A L.length c) L] (fun (_ : Unit) => .tuple #[.int .i64 p, .int .u64 q]) (fun (_ : Unit) => [cell g 74 #[.int .u64 bi, .int .u64 bt, .int .i64 bc, .slice A L.length c], Vec 32 5 encV (.slice A L.length c) L]) := by
  have hb0 := hI.hi
  have ht0 := hI.ht
  have hle0 := hI.len
  have hm0 : (es.length : Int) ≤ 72057594037927935 := by omega
  have hls : 0 ≤ bi ∧ 0 ≤ (es.length : Int) ∧ bi + (es.length : Int) ≤ 9223372036854775807 := by omega
  have hLl : L.length = es.length := by rw [← hL, List.length_map]
  obtain ⟨u, hu⟩ : ∃ u, upM bi es.length x = u := ⟨_, rfl⟩
  rw [hu] at hc
  unfold upM at hu
  refine d_ins (args := [.pointer (some ⟨g, 0, none⟩), .int .u64 x]) 67 Try.func46 rfl rfl rfl ?_; intro w rs
  refine d_reg ?_
  refine h_q hflS rfl ?_
  refine h_done (d_reg ?_)
  refine h_q hflS rfl ?_
  refine h_val rfl (.pointer (some ⟨g, 0, none⟩)) (fun b w hb hH => by exact exec_nilCheck rfl rfl hb) ?_
  refine h_q hflS rfl ?_
  refine h_val rfl (.int .i64 bc) (fun b w hb hH => exec_load rfl rfl (reads_one ty_int rfl) (hH.row 0 rfl) hb) ?_
  refine h_q hflS rfl ?_
  refine h_done (d_reg ?_)
  refine h_q hflS rfl ?_
  refine h_val rfl (.pointer (some ⟨g, 0, none⟩)) (fun b w hb hH => by exact exec_nilCheck rfl rfl hb) ?_
  refine h_q hflS rfl ?_
  refine h_val rfl (.int .u64 bi) (fun b w hb hH => exec_load rfl rfl (reads_one ty_uint64 rfl) (hH.row 0 rfl) hb) ?_
  refine h_q hflS rfl ?_
  refine h_done (d_seq (d_reg ?_))
  refine h_q hflS rfl ?_
  refine h_done (d_block ?_)
  refine d_loop (α := Nat × Int × Int) (fun ⟨j, a, z⟩ => [(0, .pointer (some ⟨g, 0, none⟩)), (1, .int .u64 x), (4, .int .i64 0), (5, .int .u64 0), (6, .int .i64 a), (7, .int .u64 z), (8, .int .i64 (j : Int))]) (fun ⟨j, a, z⟩ => [cell g 74 #[.int .u64 bi, .int .u64 bt, .int .i64 bc, .slice A L.length c], Vec 32 5 encV (.slice A L.length c) L]) (fun ⟨j, a, z⟩ => j ≤ u ∧ cfL (bc, bi) (es.take j) = (a, z)) (fun ⟨j, a, z⟩ => es.length - j) (0, bc, bi) ⟨Nat.zero_le _, rfl⟩ ⟨rfl, rfl, rfl, rfl, rfl, rfl, rfl, trivial⟩ rfl ?_
  rintro ⟨j, a, z⟩ hI8
  refine WC2.at_ (env' := [(0, .pointer (some ⟨g, 0, none⟩)), (1, .int .u64 x), (4, .int .i64 0), (5, .int .u64 0), (6, .int .i64 a), (7, .int .u64 z), (8, .int .i64 (j : Int))]) (rs' := [cell g 74 #[.int .u64 bi, .int .u64 bt, .int .i64 bc, .slice A L.length c], Vec 32 5 encV (.slice A L.length c) L]) ⟨rfl, rfl, rfl, rfl, rfl, rfl, rfl, trivial⟩ rfl ?_
  have hI1 : j ≤ u := hI8.1
  have hI2 : cfL (bc, bi) (es.take j) = (a, z) := hI8.2
  refine d_seq ?_
  rcases (show (j < u ∧ j < L.length) ∨ (j = u ∧ j < L.length) ∨ (j = u ∧ L.length ≤ j) by omega) with ⟨hju, hjl⟩ | ⟨hju, hjl⟩ | ⟨hju, hjl⟩
  · skip
    obtain ⟨y, hy⟩ : ∃ y, L[j]? = some y := ⟨_, List.getElem?_eq_getElem hjl⟩
    have hye := map_at hL hy
    have hyi := (hI.at_ hye).1
    have hct := cfL_take (s := (bc, bi)) hye
    refine d_reg ?_
    refine h_q hflS rfl ?_
    refine h_val rfl (.pointer (some ⟨g, 0, none⟩)) (fun b w hb hH => by exact exec_nilCheck rfl rfl hb) ?_
    refine h_q hflS rfl ?_
    refine h_val rfl (.slice A L.length c) (fun b w hb hH => exec_load rfl rfl (reads_one ty_s_api_Entry rfl) (hH.row 0 rfl) hb) ?_
    refine h_val rfl (.int .i64 (L.length : Int)) (fun b w hb hH => e_len sl_api_Entry rfl rfl hH hb) ?_
    refine h_val rfl (.bool true) (fun b w hb hH => exec_cmp rfl rfl rfl (cmp_lss_t (by omega)) hb) ?_
    refine h_q hflS rfl ?_
    refine h_val rfl (.pointer (some ⟨g, 0, none⟩)) (fun b w hb hH => by exact exec_nilCheck rfl rfl hb) ?_
    refine h_q hflS rfl ?_
    refine h_val rfl (.slice A L.length c) (fun b w hb hH => exec_load rfl rfl (reads_one ty_s_api_Entry rfl) (hH.row 0 rfl) hb) ?_
    refine h_q hflS rfl ?_
    refine h_val rfl (elp (.slice A L.length c) (j * 5)) (fun b w hb hH => e_vidx 1 sl_api_Entry okV rfl j hjl rfl rfl rfl hH hb) ?_
    refine h_val rfl (elp (.slice A L.length c) (j * 5 + 2)) (fun b w hb hH => e_sfield okV (by decide) (hH.vec 1 rfl okV) (j := j) hy fd_api_Entry_2 rfl rfl hb) ?_
    refine h_val rfl (.int .u64 y.e.i) (fun b w hb hH => e_sload okV (by decide) (hH.vec 1 rfl okV) (j := j) hy ty_uint64 (off := 2) rfl rfl rfl hb) ?_
    refine h_q hflS rfl ?_
    refine h_val rfl (.bool true) (fun b w hb hH => exec_cmp rfl rfl rfl (cmp_leq_t (by omega)) hb) ?_
    refine h_q hflS rfl ?_
    refine h_done (d_then rfl (d_skip (f_to (d_seq (d_block ?_)))))
    by_cases hk : y.e.k = 2
    · skip
      refine d_reg ?_
      refine h_q hflS rfl ?_
      refine h_val rfl (.pointer (some ⟨g, 0, none⟩)) (fun b w hb hH => by exact exec_nilCheck rfl rfl hb) ?_
      refine h_q hflS rfl ?_
      refine h_val rfl (.slice A L.length c) (fun b w hb hH => exec_load rfl rfl (reads_one ty_s_api_Entry rfl) (hH.row 0 rfl) hb) ?_
      refine h_q hflS rfl ?_
      refine h_val rfl (elp (.slice A L.length c) (j * 5)) (fun b w hb hH => e_vidx 1 sl_api_Entry okV rfl j hjl rfl rfl rfl hH hb) ?_
      refine h_val rfl (elp (.slice A L.length c) (j * 5 + 0)) (fun b w hb hH => e_sfield okV (by decide) (hH.vec 1 rfl okV) (j := j) hy fd_api_Entry_0 rfl rfl hb) ?_
      refine h_val rfl (.int .i64 y.e.k) (fun b w hb hH => e_sload okV (by decide) (hH.vec 1 rfl okV) (j := j) hy ty_int (off := 0) rfl rfl rfl hb) ?_
      refine h_val rfl (.bool true) (fun b w hb hH => exec_cmp rfl rfl rfl (cmp_eql_t hk) hb) ?_
      refine h_done (d_then rfl (d_reg ?_))
      refine h_q hflS rfl ?_
      refine h_val rfl (.pointer (some ⟨g, 0, none⟩)) (fun b w hb hH => by exact exec_nilCheck rfl rfl hb) ?_
      refine h_q hflS rfl ?_
      refine h_val rfl (.slice A L.length c) (fun b w hb hH => exec_load rfl rfl (reads_one ty_s_api_Entry rfl) (hH.row 0 rfl) hb) ?_
      refine h_q hflS rfl ?_
      refine h_val rfl (elp (.slice A L.length c) (j * 5)) (fun b w hb hH => e_vidx 1 sl_api_Entry okV rfl j hjl rfl rfl rfl hH hb) ?_
      refine h_val rfl (elp (.slice A L.length c) (j * 5 + 4)) (fun b w hb hH => e_sfield okV (by decide) (hH.vec 1 rfl okV) (j := j) hy fd_api_Entry_4 rfl rfl hb) ?_
      refine h_val rfl (.int .i64 y.e.c) (fun b w hb hH => e_sload okV (by decide) (hH.vec 1 rfl okV) (j := j) hy ty_int (off := 4) rfl rfl rfl hb) ?_
      refine h_q hflS rfl ?_
      refine h_done (d_reg1 ?_)
      refine h_q hflS rfl ?_
      refine h_val rfl (.pointer (some ⟨g, 0, none⟩)) (fun b w hb hH => by exact exec_nilCheck rfl rfl hb) ?_
      refine h_q hflS rfl ?_
      refine h_val rfl (.slice A L.length c) (fun b w hb hH => exec_load rfl rfl (reads_one ty_s_api_Entry rfl) (hH.row 0 rfl) hb) ?_
      refine h_q hflS rfl ?_
      refine h_val rfl (elp (.slice A L.length c) (j * 5)) (fun b w hb hH => e_vidx 1 sl_api_Entry okV rfl j hjl rfl rfl rfl hH hb) ?_
      refine h_val rfl (elp (.slice A L.length c) (j * 5 + 2)) (fun b w hb hH => e_sfield okV (by decide) (hH.vec 1 rfl okV) (j := j) hy fd_api_Entry_2 rfl rfl hb) ?_
      refine h_val rfl (.int .u64 y.e.i) (fun b w hb hH => e_sload okV (by decide) (hH.vec 1 rfl okV) (j := j) hy ty_uint64 (off := 2) rfl rfl rfl hb) ?_
      refine h_q hflS rfl ?_
      refine h_nil (f_block (f_to (d_reg1 ?_)))
      refine h_q hflS rfl ?_
      refine h_val rfl (.int .i64 ((j + 1 : Nat) : Int)) (fun b w hb hH => exec_ar rfl rfl rfl rfl (by rw [IntWalk.i64_in _ (by omega)]; omega) hb) ?_
      refine h_q hflS rfl ?_
      refine h_nil ?_
      exact f_again (j + 1, y.e.c, y.e.i) 0 ⟨by omega, by rw [hct]; simp [hk, hI2]⟩ (show es.length - (j + 1) < es.length - j by omega) ⟨rfl, rfl, rfl, rfl, rfl, rfl, rfl, trivial⟩ rfl
    · skip
      refine d_reg ?_
      refine h_q hflS rfl ?_
      refine h_val rfl (.pointer (some ⟨g, 0, none⟩)) (fun b w hb hH => by exact exec_nilCheck rfl rfl hb) ?_
      refine h_q hflS rfl ?_
      refine h_val rfl (.slice A L.length c) (fun b w hb hH => exec_load rfl rfl (reads_one ty_s_api_Entry rfl) (hH.row 0 rfl) hb) ?_
      refine h_q hflS rfl ?_
      refine h_val rfl (elp (.slice A L.length c) (j * 5)) (fun b w hb hH => e_vidx 1 sl_api_Entry okV rfl j hjl rfl rfl rfl hH hb) ?_
      refine h_val rfl (elp (.slice A L.length c) (j * 5 + 0)) (fun b w hb hH => e_sfield okV (by decide) (hH.vec 1 rfl okV) (j := j) hy fd_api_Entry_0 rfl rfl hb) ?_
      refine h_val rfl (.int .i64 y.e.k) (fun b w hb hH => e_sload okV (by decide) (hH.vec 1 rfl okV) (j := j) hy ty_int (off := 0) rfl rfl rfl hb) ?_
      refine h_val rfl (.bool false) (fun b w hb hH => exec_cmp rfl rfl rfl (cmp_eql_f hk) hb) ?_
      refine h_done (d_else rfl (d_skip (f_block (f_to (d_reg1 ?_)))))
      refine h_q hflS rfl ?_
      refine h_val rfl (.int .i64 ((j + 1 : Nat) : Int)) (fun b w hb hH => exec_ar rfl rfl rfl rfl (by rw [IntWalk.i64_in _ (by omega)]; omega) hb) ?_
      refine h_q hflS rfl ?_
      refine h_nil ?_
      exact f_again (j + 1, a, z) 0 ⟨by omega, by rw [hct]; simp [hk, hI2]⟩ (show es.length - (j + 1) < es.length - j by omega) ⟨rfl, rfl, rfl, rfl, rfl, rfl, rfl, trivial⟩ rfl
  · skip
    obtain ⟨y, hy⟩ : ∃ y, L[j]? = some y := ⟨_, List.getElem?_eq_getElem hjl⟩
    have hye := map_at hL hy
    have hyi := (hI.at_ hye).1
    have hct := cfL_take (s := (bc, bi)) hye
    subst hju
    rw [hI2] at hc
    obtain ⟨rfl, rfl⟩ : a = p ∧ z = q := ⟨congrArg Prod.fst hc, congrArg Prod.snd hc⟩
    refine d_reg ?_
    refine h_q hflS rfl ?_
    refine h_val rfl (.pointer (some ⟨g, 0, none⟩)) (fun b w hb hH => by exact exec_nilCheck rfl rfl hb) ?_
    refine h_q hflS rfl ?_
    refine h_val rfl (.slice A L.length c) (fun b w hb hH => exec_load rfl rfl (reads_one ty_s_api_Entry rfl) (hH.row 0 rfl) hb) ?_
    refine h_val rfl (.int .i64 (L.length : Int)) (fun b w hb hH => e_len sl_api_Entry rfl rfl hH hb) ?_
    refine h_val rfl (.bool true) (fun b w hb hH => exec_cmp rfl rfl rfl (cmp_lss_t (by omega)) hb) ?_
    refine h_q hflS rfl ?_
    refine h_val rfl (.pointer (some ⟨g, 0, none⟩)) (fun b w hb hH => by exact exec_nilCheck rfl rfl hb) ?_
    refine h_q hflS rfl ?_
    refine h_val rfl (.slice A L.length c) (fun b w hb hH => exec_load rfl rfl (reads_one ty_s_api_Entry rfl) (hH.row 0 rfl) hb) ?_
    refine h_q hflS rfl ?_
    refine h_val rfl (elp (.slice A L.length c) (j * 5)) (fun b w hb hH => e_vidx 1 sl_api_Entry okV rfl j hjl rfl rfl rfl hH hb) ?_
    refine h_val rfl (elp (.slice A L.length c) (j * 5 + 2)) (fun b w hb hH => e_sfield okV (by decide) (hH.vec 1 rfl okV) (j := j) hy fd_api_Entry_2 rfl rfl hb) ?_
    refine h_val rfl (.int .u64 y.e.i) (fun b w hb hH => e_sload okV (by decide) (hH.vec 1 rfl okV) (j := j) hy ty_uint64 (off := 2) rfl rfl rfl hb) ?_
    refine h_q hflS rfl ?_
    refine h_val rfl (.bool false) (fun b w hb hH => exec_cmp rfl rfl rfl (cmp_leq_f (by omega)) hb) ?_
    refine h_q hflS rfl ?_
    refine h_done (d_else rfl (d_exit (f_then_exit (f_then_exit (f_block_exit (f_to (d_reg ?_)))))))
    refine h_q hflS rfl ?_
    refine h_done (d_ret ?_)
    exact f_fin2 (.tmp rfl) (.tmp rfl) (fun w h => tells () rfl [0, 1] rfl h same_parts) rfl
  · skip
    subst hju
    rw [hI2] at hc
    obtain ⟨rfl, rfl⟩ : a = p ∧ z = q := ⟨congrArg Prod.fst hc, congrArg Prod.snd hc⟩
    refine d_reg ?_
    refine h_q hflS rfl ?_
    refine h_val rfl (.pointer (some ⟨g, 0, none⟩)) (fun b w hb hH => by exact exec_nilCheck rfl rfl hb) ?_
    refine h_q hflS rfl ?_
    refine h_val rfl (.slice A L.length c) (fun b w hb hH => exec_load rfl rfl (reads_one ty_s_api_Entry rfl) (hH.row 0 rfl) hb) ?_
    refine h_val rfl (.int .i64 (L.length : Int)) (fun b w hb hH => e_len sl_api_Entry rfl rfl hH hb) ?_
    refine h_val rfl (.bool false) (fun b w hb hH => exec_cmp rfl rfl rfl (cmp_lss_f (by omega)) hb) ?_
    refine h_q hflS rfl ?_
    refine h_done (d_else rfl (d_exit (f_then_exit (f_then_exit (f_block_exit (f_to (d_reg ?_)))))))
    refine h_q hflS rfl ?_
    refine h_done (d_ret ?_)
    exact f_fin2 (.tmp rfl) (.tmp rfl) (fun w h => tells () rfl [0, 1] rfl h same_parts) rfl

set_option maxRecDepth 100000 in
theorem r_conf (g : Nat) (bi bt bc : Int) (es : List EntD) (hI : InvL bi bt es) (A : Option Addr) (c : Nat) (L : List EntV) (hL : L.map (·.e) = es) (p q : Int) (hc : cfL (bc, bi) es = (p, q)) : Does Try.prog 44 #[.pointer (some ⟨g, 0, none⟩)] [cell g 74 #[.int .u64 bi, .int .u64 bt, .int .i64 bc, .slice A L.length c], Vec 32 5 encV (.slice A L.length c) L] (fun (_ : Unit) => .tuple #[.int .i64 p, .int .u64 q]) (fun (_ : Unit) => [cell g 74 #[.int .u64 bi, .int .u64 bt, .int .i64 bc, .slice A L.length c], Vec 32 5 encV (.slice A L.length c) L]) := by
  have hb0 := hI.hi
  have ht0 := hI.ht
  have hle0 := hI.len
  have hm0 : (es.length : Int) ≤ 72057594037927935 := by omega
  have hls : 0 ≤ bi ∧ 0 ≤ (es.length : Int) ∧ bi + (es.length : Int) ≤ 9223372036854775807 := by omega
  have hLl : L.length = es.length := by rw [← hL, List.length_map]
  refine d_ins (args := [.pointer (some ⟨g, 0, none⟩)]) 10 Try.func44 rfl rfl rfl ?_; intro w rs
  refine d_reg ?_
  refine h_q hflS rfl ?_
  refine h_done (d_reg ?_)
  refine h_q hflS rfl ?_
  refine h_act (post := fun _ => [cell g 74 #[.int .u64 bi, .int .u64 bt, .int .i64 bc, .slice A L.length c], Vec 32 5 encV (.slice A L.length c) L]) rfl (a_does (os' := fun _ => [cell g 74 #[.int .u64 bi, .int .u64 bt, .int .i64 bc, .slice A L.length c], Vec 32 5 encV (.slice A L.length c) L]) [0, 1] 0 (ent_of Try.func42 (by kernel_rfl) rfl) (r_last g bi bt bc es hI A c L hL ) rfl rfl rfl (fun _ => rfl) rfl rfl rfl) ?_; rintro ⟨⟩
  refine h_act (post := fun _ => [cell g 74 #[.int .u64 bi, .int .u64 bt, .int .i64 bc, .slice A L.length c], Vec 32 5 encV (.slice A L.length c) L]) rfl (a_does (os' := fun _ => [cell g 74 #[.int .u64 bi, .int .u64 bt, .int .i64 bc, .slice A L.length c], Vec 32 5 encV (.slice A L.length c) L]) [0, 1] 0 (ent_of Try.func46 (by kernel_rfl) rfl) (r_confAt g bi bt bc es hI A c L hL (bi + (es.length : Int)) (by omega) p q (by rw [show upM bi es.length (bi + (es.length : Int)) = es.length by unfold upM; omega, List.take_of_length_le (Nat.le_refl _)]; exact hc)) rfl rfl rfl (fun _ => rfl) rfl rfl rfl) ?_; rintro ⟨⟩
  refine h_q hflS rfl ?_
  refine h_done (d_ret ?_)
  exact f_fin2 (.tmp rfl) (.tmp rfl) (fun w h => tells () rfl [0, 1] rfl h same_parts) rfl
end Go.Proofs.Ytnebloeideodmaa.Sep
