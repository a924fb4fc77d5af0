/-
  RpcU
-/
import Derived.Test.YtnhcbjlaeaohjaaBJ01
set_option linter.unusedSimpArgs false
set_option linter.unusedVariables false

namespace Go.Proofs.Ytnhcbjlaeaohjaa.Sep
open Go.RowKit
open Go.Proofs.Ytnhcbjlaeaohjaa.Mem (Dist Blk Chg below0)

theorem lay_e1 : layE (⟨⟨2, 2, 3, [], 14⟩, none, 0⟩ : EntV).e = [2, 2, 3, 14] := by
  show (2 : UInt8) :: (vlay 2 ++ (vlay 3 ++ [14])) = _
  rw [vlay_small (by decide), vlay_small (by decide)]; rfl
theorem lay_m1 : layM (⟨⟨2, 1, 2, 5, 0, 0, [], 0, true, 0, 0, 0, 0, [], false⟩, [], none, 0, none, 0⟩ : MsgV).m = [2, 1, 2, 5, 1, 0] := by
  show [2, 1, 2] ++ (vlay 5 ++ [1, 0]) = _
  rw [vlay_small (by decide)]; rfl
theorem enc_m1 : (encM (⟨⟨2, 1, 2, 5, 0, 0, [], 0, true, 0, 0, 0, 0, [], false⟩, [], none, 0, none, 0⟩ : MsgV).m).take 6 = [2, 1, 2, 5, 1, 0] := by
  unfold encM
  rw [lay_m1]; exact List.take_left' rfl
theorem len_m1 : (encM (⟨⟨2, 1, 2, 5, 0, 0, [], 0, true, 0, 0, 0, 0, [], false⟩, [], none, 0, none, 0⟩ : MsgV).m).length = 10 := by
  unfold encM
  rw [sealed_len, lay_m1]; rfl
theorem msgOk_zero (w : World) (m : MsgD) (hes : m.es = []) (hd : m.d = []) (ho : m.ok) : MsgOk w ⟨m, [], none, 0, none, 0⟩ := by
  obtain ⟨k, a, b, t, i, lt, es, co, rf, bi, bt, bc, o, d, la⟩ := m
  obtain rfl : es = [] := hes
  obtain rfl : d = [] := hd
  exact ⟨ho, rfl, entsNil w, Nat.zero_le _, (fun y hy => by cases hy), sl8_nil w, Nat.zero_le _⟩
theorem m1_ok : (⟨⟨2, 1, 2, 5, 0, 0, [], 0, true, 0, 0, 0, 0, [], false⟩, [], none, 0, none, 0⟩ : MsgV).m.ok := ⟨⟨by decide, by decide⟩, ⟨by decide, by decide⟩, ⟨by decide, by decide⟩, ⟨by decide, by decide⟩, ⟨by decide, by decide⟩, ⟨by decide, by decide⟩, ⟨by decide, fun e he => by cases he⟩, ⟨by decide, by decide⟩, ⟨by decide, by decide⟩, ⟨by decide, by decide⟩, ⟨by decide, by decide⟩, ⟨by decide, by decide⟩, by decide⟩
theorem m1_msg (w : World) : MsgOk w (⟨⟨2, 1, 2, 5, 0, 0, [], 0, true, 0, 0, 0, 0, [], false⟩, [], none, 0, none, 0⟩ : MsgV) := msgOk_zero w _ rfl rfl m1_ok
theorem zero_ok : MsgD.zero.ok := ⟨⟨by decide, by decide⟩, ⟨by decide, by decide⟩, ⟨by decide, by decide⟩, ⟨by decide, by decide⟩, ⟨by decide, by decide⟩, ⟨by decide, by decide⟩, ⟨by decide, fun e he => by cases he⟩, ⟨by decide, by decide⟩, ⟨by decide, by decide⟩, ⟨by decide, by decide⟩, ⟨by decide, by decide⟩, ⟨by decide, by decide⟩, by decide⟩
theorem Vec.cap8 {A : Option Addr} {n c : Nat} {l : List UInt8} {rs : List RowT} (h : Vec 5 1 encB (.slice A n c) l rs) : l.length ≤ c := by
  rcases h with ⟨h1, h2, _⟩ | ⟨g, cap, cs, h1, h2, _⟩
  · rw [h2]; exact Nat.zero_le _
  · simp only [Value.slice.injEq] at h1
    omega
theorem sub_take {A : Option Addr} {n c j : Nat} : subv 1 (.slice A n c) 0 j = .slice A j c := by
  rw [sub_mid]
  cases A with
  | none => simp
  | some a =>
    have : a.add 0 = a := by obtain ⟨b, o, q⟩ := a; cases q <;> simp [Addr.add]
    simp [this]
set_option maxRecDepth 100000 in
theorem known6_true (w : World)  : Calls Try.prog 17 #[] w fun e w' => e = .returned (.bool true) ∧ Below w.heap.size w w' := by
  refine d_in (args := []) 37 Try.func17 rfl rfl rfl ?_
  refine d_reg ?_
  refine h_q hflS rfl ?_
  refine h_done (d_reg ?_)
  refine h_q hflS rfl ?_
  refine h_val rfl (.agg #[.int .i64 2, .int .u64 2, .int .u64 3, .slice none 0 0, .int .i64 14]) (fun b w hb hH => exec_build rfl rfl (by kernel_rfl) hb) ?_
  refine h_act (post := fun v1 => [Vec 5 1 encB v1 (layE (⟨⟨2, 2, 3, [], 14⟩, none, 0⟩ : EntV).e)]) rfl (a_doesU (Below.refl _ _) (fun _ h => h.elim) (os' := fun v1 => [Vec 5 1 encB v1 (layE (⟨⟨2, 2, 3, [], 14⟩, none, 0⟩ : EntV).e)]) [] 0 (ent_of Try.func16 (by kernel_rfl) rfl) (laye_does w (⟨⟨2, 2, 3, [], 14⟩, none, 0⟩ : EntV) (sl8_nil w) (by decide)) rfl rfl rfl (fun _ => rfl) rfl rfl rfl) ?_; rintro v1
  refine h_q hflS rfl ?_
  refine h_done (d_reg ?_)
  refine h_q hflS rfl ?_
  refine h_val rfl (.agg #[.int .i64 2, .int .i64 1, .int .i64 2, .int .u64 5, .int .u64 0, .int .u64 0, .slice none 0 0, .int .u64 0, .bool true, .int .u64 0, .int .u64 0, .int .i64 0, .int .i64 0, .slice none 0 0, .bool false]) (fun b w hb hH => exec_build rfl rfl (by kernel_rfl) hb) ?_
  refine h_act (post := fun v2 => [Vec 5 1 encB v2 (encM (⟨⟨2, 1, 2, 5, 0, 0, [], 0, true, 0, 0, 0, 0, [], false⟩, [], none, 0, none, 0⟩ : MsgV).m), Vec 5 1 encB v1 (layE (⟨⟨2, 2, 3, [], 14⟩, none, 0⟩ : EntV).e)]) rfl (a_doesU (Below.refl _ _) (fun _ h => h.elim) (os' := fun v2 => [Vec 5 1 encB v2 (encM (⟨⟨2, 1, 2, 5, 0, 0, [], 0, true, 0, 0, 0, 0, [], false⟩, [], none, 0, none, 0⟩ : MsgV).m), Vec 5 1 encB v1 (layE (⟨⟨2, 2, 3, [], 14⟩, none, 0⟩ : EntV).e)]) [] 0 (ent_of Try.func14 (by kernel_rfl) rfl) (encodeM_does w (⟨⟨2, 1, 2, 5, 0, 0, [], 0, true, 0, 0, 0, 0, [], false⟩, [], none, 0, none, 0⟩ : MsgV) (m1_msg w) (by decide)) rfl rfl rfl (fun _ => rfl) rfl rfl rfl) ?_; rintro v2
  refine WL2.fact 0 rfl (fun _ h => Vec.is h) ?_; rintro ⟨A2, c2, rfl⟩
  refine h_q hflS rfl ?_
  refine h_done ?_
  refine WC2.fact 0 rfl (fun rs h => Vec.cap8 h) ?_; rintro hc
  refine d_reg ?_
  refine h_q hflS rfl ?_
  refine h_val rfl (.bool true) (fun b w hb hH => exec_cmp rfl rfl rfl (cmp_eql_t (by decide)) hb) ?_
  refine h_q hflS rfl ?_
  refine h_val rfl (.string (bs (layE (⟨⟨2, 2, 3, [], 14⟩, none, 0⟩ : EntV).e))) (fun b w hb hH => exec_str8 Try.underlying26 Try.underlying5 (by kernel_rfl) Try.underlying9 (hH.sl8 1 rfl) rfl rfl hb) ?_
  refine h_val rfl (.bool true) (fun b w hb hH => exec_same rfl rfl rfl (by rw [lay_e1]; decide) hb) ?_
  refine h_q hflS rfl ?_
  refine h_val rfl (.bool true) (fun b w hb hH => exec_cmp rfl rfl rfl (cmp_eql_t (by decide)) hb) ?_
  refine h_q hflS rfl ?_
  refine h_val rfl (.int .i64 (((encM (⟨⟨2, 1, 2, 5, 0, 0, [], 0, true, 0, 0, 0, 0, [], false⟩, [], none, 0, none, 0⟩ : MsgV).m).length) : Int)) (fun b w hb hH => e_len sl_uint8 rfl rfl hH hb) ?_
  refine h_val rfl (.bool true) (fun b w hb hH => exec_cmp rfl rfl rfl (cmp_eql_t (by rw [len_m1]; rfl)) hb) ?_
  refine h_q hflS rfl ?_
  refine h_val rfl (.slice A2 ((encM (⟨⟨2, 1, 2, 5, 0, 0, [], 0, true, 0, 0, 0, 0, [], false⟩, [], none, 0, none, 0⟩ : MsgV).m).take 6).length c2) (fun b w hb hH => e_sub_hi (j := 6) sl_uint8 (by rw [sub_take, enc_m1]; rfl) (by rw [len_m1] at hc; omega) rfl rfl rfl hH hb) ?_
  refine h_val rfl (.string (bs ((encM (⟨⟨2, 1, 2, 5, 0, 0, [], 0, true, 0, 0, 0, 0, [], false⟩, [], none, 0, none, 0⟩ : MsgV).m).take 6))) (fun b w hb hH => exec_str8 Try.underlying26 Try.underlying5 (by kernel_rfl) Try.underlying9 (Sl8.takes (hH.sl8 0 rfl) (by rw [len_m1]; omega)) rfl rfl hb) ?_
  refine h_val rfl (.bool true) (fun b w hb hH => exec_same rfl rfl rfl (by rw [enc_m1]; decide) hb) ?_
  refine h_q hflS rfl ?_
  refine h_done (d_ret ?_)
  exact f_fin1 (.tmp rfl) (fun w h => ⟨rfl, below0 h.up⟩) rfl

end Go.Proofs.Ytnhcbjlaeaohjaa.Sep
