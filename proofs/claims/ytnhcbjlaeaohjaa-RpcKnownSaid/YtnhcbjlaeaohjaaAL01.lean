/-
  RpcU
-/
import Derived.Test.YtnhcbjlaeaohjaaAJ01
set_option linter.unusedSimpArgs false
set_option linter.unusedVariables false

namespace Go.Proofs.Ytnhcbjlaeaohjaa.Sep
open Go.RowKit
open Go.Proofs.Ytnhcbjlaeaohjaa.Mem (Dist Blk Chg below0)

theorem lay_e1 : layE (⟨⟨2, 2, 3, [], 14⟩, none, 0⟩ : EntV).e = [2, 2, 3, 14] := by
  show (2 : UInt8) :: (vlay 2 ++ (vlay 3 ++ [14])) = _
  rw [vlay_small (by decide), vlay_small (by decide)]; rfl
theorem lay_m1 : layM (⟨⟨2, 1, 2, 5, 0, 0, [], 0, true, 0, 0, 0, 0, [], false⟩, [], none, 0, none, 0⟩ : MsgV).m = [2, 1, 2, 5, 1, 0] := by
  show [2, 1, 2] ++ (vlay 5 ++ [1, 0]) = _
  rw [vlay_small (by decide)]; rfl
theorem enc_m1 : (encM (⟨⟨2, 1, 2, 5, 0, 0, [], 0, true, 0, 0, 0, 0, [], false⟩, [], none, 0, none, 0⟩ : MsgV).m).take 6 = [2, 1, 2, 5, 1, 0] := by
  unfold encM
  rw [lay_m1]; exact List.take_left' rfl
theorem len_m1 : (encM (⟨⟨2, 1, 2, 5, 0, 0, [], 0, true, 0, 0, 0, 0, [], false⟩, [], none, 0, none, 0⟩ : MsgV).m).length = 10 := by
  unfold encM
  rw [sealed_len, lay_m1]; rfl
theorem msgOk_zero (w : World) (m : MsgD) (hes : m.es = []) (hd : m.d = []) (ho : m.ok) : MsgOk w ⟨m, [], none, 0, none, 0⟩ := by
  obtain ⟨k, a, b, t, i, lt, es, co, rf, bi, bt, bc, o, d, la⟩ := m
  obtain rfl : es = [] := hes
  obtain rfl : d = [] := hd
  exact ⟨ho, rfl, entsNil w, Nat.zero_le _, (fun y hy => by cases hy), sl8_nil w, Nat.zero_le _⟩
theorem m1_ok : (⟨⟨2, 1, 2, 5, 0, 0, [], 0, true, 0, 0, 0, 0, [], false⟩, [], none, 0, none, 0⟩ : MsgV).m.ok := ⟨⟨by decide, by decide⟩, ⟨by decide, by decide⟩, ⟨by decide, by decide⟩, ⟨by decide, by decide⟩, ⟨by decide, by decide⟩, ⟨by decide, by decide⟩, ⟨by decide, fun e he => by cases he⟩, ⟨by decide, by decide⟩, ⟨by decide, by decide⟩, ⟨by decide, by decide⟩, ⟨by decide, by decide⟩, ⟨by decide, by decide⟩, by decide⟩
theorem m1_msg (w : World) : MsgOk w (⟨⟨2, 1, 2, 5, 0, 0, [], 0, true, 0, 0, 0, 0, [], false⟩, [], none, 0, none, 0⟩ : MsgV) := msgOk_zero w _ rfl rfl m1_ok
theorem zero_ok : MsgD.zero.ok := ⟨⟨by decide, by decide⟩, ⟨by decide, by decide⟩, ⟨by decide, by decide⟩, ⟨by decide, by decide⟩, ⟨by decide, by decide⟩, ⟨by decide, by decide⟩, ⟨by decide, fun e he => by cases he⟩, ⟨by decide, by decide⟩, ⟨by decide, by decide⟩, ⟨by decide, by decide⟩, ⟨by decide, by decide⟩, ⟨by decide, by decide⟩, by decide⟩
theorem Vec.cap8 {A : Option Addr} {n c : Nat} {l : List UInt8} {rs : List RowT} (h : Vec 5 1 encB (.slice A n c) l rs) : l.length ≤ c := by
  rcases h with ⟨h1, h2, _⟩ | ⟨g, cap, cs, h1, h2, _⟩
  · rw [h2]; exact Nat.zero_le _
  · simp only [Value.slice.injEq] at h1
    omega
theorem sub_take {A : Option Addr} {n c j : Nat} : subv 1 (.slice A n c) 0 j = .slice A j c := by
  rw [sub_mid]
  cases A with
  | none => simp
  | some a =>
    have : a.add 0 = a := by obtain ⟨b, o, q⟩ := a; cases q <;> simp [Addr.add]
    simp [this]
/-- a message in new memory -/
theorem msgOk_copy {w0 w : World} {x y : MsgV} (hx : MsgOk w0 x) (hm : y.m = x.m) (he : y.m.es = y.es.map (·.e)) (hr : EntsRd w y.ev y.es) (hd : Sl8 w y.dv y.m.d) : MsgOk w y := by
  have h1 : y.es.map (·.e) = x.es.map (·.e) := by rw [← he, hm, hx.es]
  have h2 : y.es.length = x.es.length := by have := congrArg List.length h1; simpa using this
  refine ⟨hm ▸ hx.ok, he, hr, by rw [h2]; exact hx.le, fun z hz => ?_, hd, by rw [hm]; exact hx.dl⟩
  have h3 : z.e ∈ x.es.map (·.e) := by rw [← h1]; exact List.mem_map_of_mem hz
  obtain ⟨q, hq, e⟩ := List.mem_map.1 h3
  have h4 := hx.each q hq
  have e : q.e = z.e := e
  exact ⟨e ▸ h4.1, hr.2 z hz, e ▸ h4.2.2⟩

set_option maxRecDepth 100000 in
theorem known6_true (w : World)  : Calls Try.prog 17 #[] w fun e w' => e = .returned (.bool true) ∧ Below w.heap.size w w' := by
  refine d_in (args := []) 37 Try.func17 rfl rfl rfl ?_
  refine d_reg ?_
  refine h_q hflS rfl ?_
  refine h_done (d_reg ?_)
  refine h_q hflS rfl ?_
  refine h_val rfl (.agg #[.int .i64 2, .int .u64 2, .int .u64 3, .slice none 0 0, .int .i64 14]) (fun b w hb hH => exec_build rfl rfl (by kernel_rfl) hb) ?_
  refine h_act (post := fun v1 => [Vec 5 1 encB v1 (layE (⟨⟨2, 2, 3, [], 14⟩, none, 0⟩ : EntV).e)]) rfl (a_doesU (Below.refl _ _) (fun _ h => h.elim) (os' := fun v1 => [Vec 5 1 encB v1 (layE (⟨⟨2, 2, 3, [], 14⟩, none, 0⟩ : EntV).e)]) [] 0 (ent_of Try.func16 (by kernel_rfl) rfl) (laye_does w (⟨⟨2, 2, 3, [], 14⟩, none, 0⟩ : EntV) (sl8_nil w) (by decide)) rfl rfl rfl (fun _ => rfl) rfl rfl rfl) ?_; rintro v1
  refine h_q hflS rfl ?_
  refine h_done (d_reg ?_)
  refine h_q hflS rfl ?_
  refine h_val rfl (.agg #[.int .i64 2, .int .i64 1, .int .i64 2, .int .u64 5, .int .u64 0, .int .u64 0, .slice none 0 0, .int .u64 0, .bool true, .int .u64 0, .int .u64 0, .int .i64 0, .int .i64 0, .slice none 0 0, .bool false]) (fun b w hb hH => exec_build rfl rfl (by kernel_rfl) hb) ?_
  refine h_act (post := fun v2 => [Vec 5 1 encB v2 (encM (⟨⟨2, 1, 2, 5, 0, 0, [], 0, true, 0, 0, 0, 0, [], false⟩, [], none, 0, none, 0⟩ : MsgV).m), Vec 5 1 encB v1 (layE (⟨⟨2, 2, 3, [], 14⟩, none, 0⟩ : EntV).e)]) rfl (a_doesU (Below.refl _ _) (fun _ h => h.elim) (os' := fun v2 => [Vec 5 1 encB v2 (encM (⟨⟨2, 1, 2, 5, 0, 0, [], 0, true, 0, 0, 0, 0, [], false⟩, [], none, 0, none, 0⟩ : MsgV).m), Vec 5 1 encB v1 (layE (⟨⟨2, 2, 3, [], 14⟩, none, 0⟩ : EntV).e)]) [] 0 (ent_of Try.func14 (by kernel_rfl) rfl) (encodeM_does w (⟨⟨2, 1, 2, 5, 0, 0, [], 0, true, 0, 0, 0, 0, [], false⟩, [], none, 0, none, 0⟩ : MsgV) (m1_msg w) (by decide)) rfl rfl rfl (fun _ => rfl) rfl rfl rfl) ?_; rintro v2
  refine WL2.fact 0 rfl (fun _ h => Vec.is h) ?_; rintro ⟨A2, c2, rfl⟩
  refine h_q hflS rfl ?_
  refine h_done ?_
  refine WC2.fact 0 rfl (fun rs h => Vec.cap8 h) ?_; rintro hc
  refine d_reg ?_
  refine h_q hflS rfl ?_
  refine h_val rfl (.bool true) (fun b w hb hH => exec_cmp rfl rfl rfl (cmp_eql_t (by decide)) hb) ?_
  refine h_q hflS rfl ?_
  refine h_val rfl (.string (bs (layE (⟨⟨2, 2, 3, [], 14⟩, none, 0⟩ : EntV).e))) (fun b w hb hH => exec_str8 Try.underlying26 Try.underlying5 (by kernel_rfl) Try.underlying9 (hH.sl8 1 rfl) rfl rfl hb) ?_
  refine h_val rfl (.bool true) (fun b w hb hH => exec_same rfl rfl rfl (by rw [lay_e1]; decide) hb) ?_
  refine h_q hflS rfl ?_
  refine h_val rfl (.bool true) (fun b w hb hH => exec_cmp rfl rfl rfl (cmp_eql_t (by decide)) hb) ?_
  refine h_q hflS rfl ?_
  refine h_val rfl (.int .i64 (((encM (⟨⟨2, 1, 2, 5, 0, 0, [], 0, true, 0, 0, 0, 0, [], false⟩, [], none, 0, none, 0⟩ : MsgV).m).length) : Int)) (fun b w hb hH => e_len sl_uint8 rfl rfl hH hb) ?_
  refine h_val rfl (.bool true) (fun b w hb hH => exec_cmp rfl rfl rfl (cmp_eql_t (by rw [len_m1]; rfl)) hb) ?_
  refine h_q hflS rfl ?_
  refine h_val rfl (.slice A2 ((encM (⟨⟨2, 1, 2, 5, 0, 0, [], 0, true, 0, 0, 0, 0, [], false⟩, [], none, 0, none, 0⟩ : MsgV).m).take 6).length c2) (fun b w hb hH => e_sub_hi (j := 6) sl_uint8 (by rw [sub_take, enc_m1]; rfl) (by rw [len_m1] at hc; omega) rfl rfl rfl hH hb) ?_
  refine h_val rfl (.string (bs ((encM (⟨⟨2, 1, 2, 5, 0, 0, [], 0, true, 0, 0, 0, 0, [], false⟩, [], none, 0, none, 0⟩ : MsgV).m).take 6))) (fun b w hb hH => exec_str8 Try.underlying26 Try.underlying5 (by kernel_rfl) Try.underlying9 (Sl8.takes (hH.sl8 0 rfl) (by rw [len_m1]; omega)) rfl rfl hb) ?_
  refine h_val rfl (.bool true) (fun b w hb hH => exec_same rfl rfl rfl (by rw [enc_m1]; decide) hb) ?_
  refine h_q hflS rfl ?_
  refine h_done (d_ret ?_)
  exact f_fin1 (.tmp rfl) (fun w h => ⟨rfl, below0 h.up⟩) rfl

set_option maxRecDepth 100000 in
theorem copyOf_does (u : World) (x : MsgV) (hx : MsgOk u x) : DoesU u Try.prog 29 #[.agg #[.int .i64 x.m.k, .int .i64 x.m.a, .int .i64 x.m.b, .int .u64 x.m.t, .int .u64 x.m.i, .int .u64 x.m.lt, x.ev, .int .u64 x.m.co, .bool x.m.rf, .int .u64 x.m.bi, .int .u64 x.m.bt, .int .i64 x.m.bc, .int .i64 x.m.o, x.dv, .bool x.m.la]] [] (fun (y : MsgV) => .agg #[.int .i64 y.m.k, .int .i64 y.m.a, .int .i64 y.m.b, .int .u64 y.m.t, .int .u64 y.m.i, .int .u64 y.m.lt, y.ev, .int .u64 y.m.co, .bool y.m.rf, .int .u64 y.m.bi, .int .u64 y.m.bt, .int .i64 y.m.bc, .int .i64 y.m.o, y.dv, .bool y.m.la]) (fun (y : MsgV) => [Ents 36 y.ev y.es, Vec 5 1 encB y.dv y.m.d, fact (y.m = x.m ∧ y.m.es = y.es.map (·.e))]) := by
  refine d_insU (args := [.agg #[.int .i64 x.m.k, .int .i64 x.m.a, .int .i64 x.m.b, .int .u64 x.m.t, .int .u64 x.m.i, .int .u64 x.m.lt, x.ev, .int .u64 x.m.co, .bool x.m.rf, .int .u64 x.m.bi, .int .u64 x.m.bt, .int .i64 x.m.bc, .int .i64 x.m.o, x.dv, .bool x.m.la]]) 13 Try.func29 rfl rfl rfl ?_; intro w rs hU hS
  refine d_reg ?_
  refine h_q hflS rfl ?_
  refine h_act (post := fun g1 => [cell g1 28 #[.int .i64 x.m.k, .int .i64 x.m.a, .int .i64 x.m.b, .int .u64 x.m.t, .int .u64 x.m.i, .int .u64 x.m.lt, x.ev, .int .u64 x.m.co, .bool x.m.rf, .int .u64 x.m.bi, .int .u64 x.m.bt, .int .i64 x.m.bc, .int .i64 x.m.o, x.dv, .bool x.m.la]]) rfl (a_box (cs := #[.int .i64 x.m.k, .int .i64 x.m.a, .int .i64 x.m.b, .int .u64 x.m.t, .int .u64 x.m.i, .int .u64 x.m.lt, x.ev, .int .u64 x.m.co, .bool x.m.rf, .int .u64 x.m.bi, .int .u64 x.m.bt, .int .i64 x.m.bc, .int .i64 x.m.o, x.dv, .bool x.m.la]) rfl rfl rfl) ?_; rintro g1
  refine h_act (post := fun g2 => [cell g2 28 #[.int .i64 0, .int .i64 0, .int .i64 0, .int .u64 0, .int .u64 0, .int .u64 0, .slice none 0 0, .int .u64 0, .bool false, .int .u64 0, .int .u64 0, .int .i64 0, .int .i64 0, .slice none 0 0, .bool false], cell g1 28 #[.int .i64 x.m.k, .int .i64 x.m.a, .int .i64 x.m.b, .int .u64 x.m.t, .int .u64 x.m.i, .int .u64 x.m.lt, x.ev, .int .u64 x.m.co, .bool x.m.rf, .int .u64 x.m.bi, .int .u64 x.m.bt, .int .i64 x.m.bc, .int .i64 x.m.o, x.dv, .bool x.m.la]]) rfl (a_alloc ze_api_Msg rfl) ?_; rintro g2
  refine h_done (d_reg ?_)
  refine h_q hflS rfl ?_
  refine h_val rfl (x.ev) (fun b w hb hH => exec_load rfl rfl (reads_one ty_s_api_Entry rfl) (hH.row 1 rfl) hb) ?_
  refine h_act rfl (a_doesU hU hS  [] 0 (ent_of Try.func22 (by kernel_rfl) rfl) (copye_does u x.ev x.es hx.rd hx.le (fun z hz => (hx.each z hz).2.2)) rfl rfl rfl (fun _ => rfl) rfl rfl rfl) ?_; rintro ⟨ev, es2⟩
  refine WL2.keep (env' := [(0, .agg #[.int .i64 x.m.k, .int .i64 x.m.a, .int .i64 x.m.b, .int .u64 x.m.t, .int .u64 x.m.i, .int .u64 x.m.lt, x.ev, .int .u64 x.m.co, .bool x.m.rf, .int .u64 x.m.bi, .int .u64 x.m.bt, .int .i64 x.m.bc, .int .i64 x.m.o, x.dv, .bool x.m.la]), (1, .pointer (some ⟨g1, 0, none⟩)), (2, .pointer (some ⟨g2, 0, none⟩)), (3, .pointer (some ⟨g1, 6, none⟩)), (4, x.ev), (5, ev)]) ⟨rfl, rfl, rfl, rfl, rfl, rfl, trivial⟩ ?_
  refine WL2.mid [Ents 36 ev es2, fact (es2.map (·.e) = x.es.map (·.e)), cell g2 28 #[.int .i64 0, .int .i64 0, .int .i64 0, .int .u64 0, .int .u64 0, .int .u64 0, .slice none 0 0, .int .u64 0, .bool false, .int .u64 0, .int .u64 0, .int .i64 0, .int .i64 0, .slice none 0 0, .bool false], cell g1 28 #[.int .i64 x.m.k, .int .i64 x.m.a, .int .i64 x.m.b, .int .u64 x.m.t, .int .u64 x.m.i, .int .u64 x.m.lt, x.ev, .int .u64 x.m.co, .bool x.m.rf, .int .u64 x.m.bi, .int .u64 x.m.bt, .int .i64 x.m.bc, .int .i64 x.m.o, x.dv, .bool x.m.la]] (.refl _) ?_
  refine WL2.fact 1 rfl (fun _ h => h.2) ?_; rintro hce
  refine WL2.leave [1] rfl rfl ?_
  refine WL2.fact 0 rfl Ents.is ?_; rintro ⟨EA, ec, rfl⟩
  refine h_q hflS rfl ?_
  refine h_acts (post := fun _ => [Ents 36 (.slice EA es2.length ec) es2, cell g2 28 #[.int .i64 0, .int .i64 0, .int .i64 0, .int .u64 0, .int .u64 0, .int .u64 0, .slice none 0 0, .int .u64 0, .bool false, .int .u64 0, .int .u64 0, .int .i64 0, .int .i64 0, .slice none 0 0, .bool false], cell g1 28 #[.int .i64 x.m.k, .int .i64 x.m.a, .int .i64 x.m.b, .int .u64 x.m.t, .int .u64 x.m.i, .int .u64 x.m.lt, .slice EA es2.length ec, .int .u64 x.m.co, .bool x.m.rf, .int .u64 x.m.bi, .int .u64 x.m.bt, .int .i64 x.m.bc, .int .i64 x.m.o, x.dv, .bool x.m.la]]) rfl rfl (a_store 2 (v := .slice EA es2.length ec) #[.int .i64 x.m.k, .int .i64 x.m.a, .int .i64 x.m.b, .int .u64 x.m.t, .int .u64 x.m.i, .int .u64 x.m.lt, .slice EA es2.length ec, .int .u64 x.m.co, .bool x.m.rf, .int .u64 x.m.bi, .int .u64 x.m.bt, .int .i64 x.m.bc, .int .i64 x.m.o, x.dv, .bool x.m.la] ty_s_api_Entry.2 rfl rfl rfl rfl rfl rfl rfl rfl rfl) ?_; rintro ⟨⟩
  refine h_done (d_reg ?_)
  refine h_q hflS rfl ?_
  refine h_act (X := Value) (val := fun v : Value => v) (post := fun d0 => [Vec 5 1 encB d0 ([]), Ents 36 (.slice EA es2.length ec) es2, cell g2 28 #[.int .i64 0, .int .i64 0, .int .i64 0, .int .u64 0, .int .u64 0, .int .u64 0, .slice none 0 0, .int .u64 0, .bool false, .int .u64 0, .int .u64 0, .int .i64 0, .int .i64 0, .slice none 0 0, .bool false], cell g1 28 #[.int .i64 x.m.k, .int .i64 x.m.a, .int .i64 x.m.b, .int .u64 x.m.t, .int .u64 x.m.i, .int .u64 x.m.lt, .slice EA es2.length ec, .int .u64 x.m.co, .bool x.m.rf, .int .u64 x.m.bi, .int .u64 x.m.bt, .int .i64 x.m.bc, .int .i64 x.m.o, x.dv, .bool x.m.la]]) rfl (by refine a_build0 (e := 5) (t := 26) (k := 1) (enc := encB) ?_ ?_; exact sl_uint8; exact rfl) ?_; rintro d0
  refine h_q hflS rfl ?_
  refine h_val rfl (x.dv) (fun b w hb hH => exec_load rfl rfl (reads_one ty_s_uint8 rfl) (hH.row 3 rfl) hb) ?_
  refine h_act (post := fun d1 => [Vec 5 1 encB d1 x.m.d, Ents 36 (.slice EA es2.length ec) es2, cell g2 28 #[.int .i64 0, .int .i64 0, .int .i64 0, .int .u64 0, .int .u64 0, .int .u64 0, .slice none 0 0, .int .u64 0, .bool false, .int .u64 0, .int .u64 0, .int .i64 0, .int .i64 0, .slice none 0 0, .bool false], cell g1 28 #[.int .i64 x.m.k, .int .i64 x.m.a, .int .i64 x.m.b, .int .u64 x.m.t, .int .u64 x.m.i, .int .u64 x.m.lt, .slice EA es2.length ec, .int .u64 x.m.co, .bool x.m.rf, .int .u64 x.m.bi, .int .u64 x.m.bt, .int .i64 x.m.bc, .int .i64 x.m.o, x.dv, .bool x.m.la]]) rfl (a_append8 0 sl_uint8 (by kernel_rfl) rfl (x.m.d) (fun w hH => (argM hx hU hS hH).d.rd) (by have := hx.dl; simp only [List.length_nil]; omega) rfl rfl rfl (List.nil_append _)) ?_; rintro d1
  refine h_q hflS rfl ?_
  refine h_acts (post := fun _ => [Vec 5 1 encB d1 x.m.d, Ents 36 (.slice EA es2.length ec) es2, cell g2 28 #[.int .i64 0, .int .i64 0, .int .i64 0, .int .u64 0, .int .u64 0, .int .u64 0, .slice none 0 0, .int .u64 0, .bool false, .int .u64 0, .int .u64 0, .int .i64 0, .int .i64 0, .slice none 0 0, .bool false], cell g1 28 #[.int .i64 x.m.k, .int .i64 x.m.a, .int .i64 x.m.b, .int .u64 x.m.t, .int .u64 x.m.i, .int .u64 x.m.lt, .slice EA es2.length ec, .int .u64 x.m.co, .bool x.m.rf, .int .u64 x.m.bi, .int .u64 x.m.bt, .int .i64 x.m.bc, .int .i64 x.m.o, d1, .bool x.m.la]]) rfl rfl (a_storev 3 0 (v := d1) #[.int .i64 x.m.k, .int .i64 x.m.a, .int .i64 x.m.b, .int .u64 x.m.t, .int .u64 x.m.i, .int .u64 x.m.lt, .slice EA es2.length ec, .int .u64 x.m.co, .bool x.m.rf, .int .u64 x.m.bi, .int .u64 x.m.bt, .int .i64 x.m.bc, .int .i64 x.m.o, d1, .bool x.m.la] ty_s_uint8.2 rfl (fun _ h => Vec.c1 h) rfl rfl rfl rfl rfl rfl rfl) ?_; rintro ⟨⟩
  refine h_done ?_
  refine WC2.fact 0 rfl (fun _ h => Vec.is h) ?_; rintro ⟨A1, c1, rfl⟩
  refine d_reg ?_
  refine h_q hflS rfl ?_
  refine h_val rfl (.agg #[.int .i64 x.m.k, .int .i64 x.m.a, .int .i64 x.m.b, .int .u64 x.m.t, .int .u64 x.m.i, .int .u64 x.m.lt, .slice EA es2.length ec, .int .u64 x.m.co, .bool x.m.rf, .int .u64 x.m.bi, .int .u64 x.m.bt, .int .i64 x.m.bc, .int .i64 x.m.o, .slice A1 x.m.d.length c1, .bool x.m.la]) (fun b w hb hH => exec_load rfl rfl (reads_agg (cs := [.int .i64 x.m.k, .int .i64 x.m.a, .int .i64 x.m.b, .int .u64 x.m.t, .int .u64 x.m.i, .int .u64 x.m.lt, .slice EA es2.length ec, .int .u64 x.m.co, .bool x.m.rf, .int .u64 x.m.bi, .int .u64 x.m.bt, .int .i64 x.m.bc, .int .i64 x.m.o, .slice A1 x.m.d.length c1, .bool x.m.la]) ty_api_Msg rfl) (hH.row 3 rfl) hb) ?_
  refine h_acts (post := fun _ => [Vec 5 1 encB (.slice A1 x.m.d.length c1) x.m.d, Ents 36 (.slice EA es2.length ec) es2, cell g2 28 #[.int .i64 x.m.k, .int .i64 x.m.a, .int .i64 x.m.b, .int .u64 x.m.t, .int .u64 x.m.i, .int .u64 x.m.lt, .slice EA es2.length ec, .int .u64 x.m.co, .bool x.m.rf, .int .u64 x.m.bi, .int .u64 x.m.bt, .int .i64 x.m.bc, .int .i64 x.m.o, .slice A1 x.m.d.length c1, .bool x.m.la], cell g1 28 #[.int .i64 x.m.k, .int .i64 x.m.a, .int .i64 x.m.b, .int .u64 x.m.t, .int .u64 x.m.i, .int .u64 x.m.lt, .slice EA es2.length ec, .int .u64 x.m.co, .bool x.m.rf, .int .u64 x.m.bi, .int .u64 x.m.bt, .int .i64 x.m.bc, .int .i64 x.m.o, .slice A1 x.m.d.length c1, .bool x.m.la]]) rfl rfl (a_store 2 (v := .agg #[.int .i64 x.m.k, .int .i64 x.m.a, .int .i64 x.m.b, .int .u64 x.m.t, .int .u64 x.m.i, .int .u64 x.m.lt, .slice EA es2.length ec, .int .u64 x.m.co, .bool x.m.rf, .int .u64 x.m.bi, .int .u64 x.m.bt, .int .i64 x.m.bc, .int .i64 x.m.o, .slice A1 x.m.d.length c1, .bool x.m.la]) #[.int .i64 x.m.k, .int .i64 x.m.a, .int .i64 x.m.b, .int .u64 x.m.t, .int .u64 x.m.i, .int .u64 x.m.lt, .slice EA es2.length ec, .int .u64 x.m.co, .bool x.m.rf, .int .u64 x.m.bi, .int .u64 x.m.bt, .int .i64 x.m.bc, .int .i64 x.m.o, .slice A1 x.m.d.length c1, .bool x.m.la] ty_api_Msg.2 rfl rfl rfl rfl rfl rfl rfl rfl rfl) ?_; rintro ⟨⟩
  refine h_done (d_ret ?_)
  exact f_fin1 (.cell 2 (v := .agg #[.int .i64 x.m.k, .int .i64 x.m.a, .int .i64 x.m.b, .int .u64 x.m.t, .int .u64 x.m.i, .int .u64 x.m.lt, .slice EA es2.length ec, .int .u64 x.m.co, .bool x.m.rf, .int .u64 x.m.bi, .int .u64 x.m.bt, .int .i64 x.m.bc, .int .i64 x.m.o, .slice A1 x.m.d.length c1, .bool x.m.la]) (reads_agg (cs := [.int .i64 x.m.k, .int .i64 x.m.a, .int .i64 x.m.b, .int .u64 x.m.t, .int .u64 x.m.i, .int .u64 x.m.lt, .slice EA es2.length ec, .int .u64 x.m.co, .bool x.m.rf, .int .u64 x.m.bi, .int .u64 x.m.bt, .int .i64 x.m.bc, .int .i64 x.m.o, .slice A1 x.m.d.length c1, .bool x.m.la]) ty_api_Msg rfl) rfl rfl) (fun w h => tells (⟨x.m, es2, EA, ec, A1, c1⟩ : MsgV) rfl [1, 0] rfl h (fun z hz => ⟨z, .refl _, fact_add (xs := [_, _]) (show _ = _ ∧ _ = _ from ⟨rfl, hx.es.trans hce.symm⟩) hz⟩)) rfl
end Go.Proofs.Ytnhcbjlaeaohjaa.Sep
