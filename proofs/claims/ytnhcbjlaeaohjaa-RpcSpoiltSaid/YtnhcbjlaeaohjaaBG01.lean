/-
  CmdS · RpcK
-/
import Derived.Test.YtnhcbjlaeaohjaaBB02
import Derived.Test.YtnhcbjlaeaohjaaBF01
import Derived.Lib.AppendStr
set_option linter.unusedSimpArgs false
set_option linter.unusedVariables false

namespace Go.Proofs.Ytnhcbjlaeaohjaa.Sep
open Go.RowKit
open Go.Proofs.Ytnhcbjlaeaohjaa.Mem (Dist Blk Chg below0)
section
variable {Q : Exit → Act → World → Prop} {n : Nat} {B : Nat → Prop} {w0 : World} {os : List Ass} {env : List (Nat × Value)} {o : Oper} {v : Value} {l m : List UInt8}
end
section
variable {P : Program} {n : Nat} {w : World} {env : List (Nat × Value)} {o : Oper} {a : Act}
end
/-! ## Two ways come together, where a value is a letter -/
section
variable {P : Program} {Q : Exit → Act → World → Prop} {n : Nat} {B : Nat → Prop} {w0 : World} {rs : List Ass} {env : List (Nat × Value)}
def MidX {X : Type} (n : Nat) (B : Nat → Prop) (w0 : World) (E : X → List (Nat × Value)) (R : X → List Ass) : Exit → Act → World → Prop := fun e a w => ∃ x, e = .normal ∧ Fr n a (E x) ∧ Hp B w0 w (R x)
theorem d_midx {X : Type} {c : Code} (E : X → List (Nat × Value)) (R : X → List Ass) (h1 : WC2 P (MidX n B w0 E R) n env B w0 rs c) (h2 : ∀ x, WE2 Q n (E x) B w0 (R x) .normal) : WC2 P Q n env B w0 rs c := fun a w hF hH => Code.wp_mono (fun e a' w' (h : MidX n B w0 E R e a' w') => by obtain ⟨x, he, hF', hH'⟩ := h; subst he; exact h2 x a' w' hF' hH') (h1 a w hF hH)
theorem f_midx {X : Type} {E : X → List (Nat × Value)} {R : X → List Ass} (x : X) (k : Nat) (hs : Sub env (E x)) (hr : rs.drop k = R x) : WE2 (MidX n B w0 E R) n env B w0 rs .normal := fun _ _ hF hH => ⟨x, rfl, hF.keep hs, hr ▸ hH.drop k⟩
end
end Go.Proofs.Ytnhcbjlaeaohjaa.Sep

namespace Go.Proofs.Ytnhcbjlaeaohjaa.Sep
open Go.RowKit
open Go.Proofs.Ytnhcbjlaeaohjaa.Mem (Dist Blk Chg below0)

theorem flag8_any (w : World) (b : Bool) (f : UInt8) (hf : UInt8.ofNat (flagN b) = f) : Calls Try.prog 71 #[.bool b] w fun e w' => e = .returned (.int .u8 (f.toNat : Int)) ∧ Below w.heap.size w w' :=
  flag_any w b f.toNat (by rw [← hf, byte_of _ (by have := flagN_le b; omega)])

set_option maxRecDepth 100000 in
theorem put_does (v : Value) (l lw wd : List UInt8) (n : Int) (hn : U64 n) (b : Bool) (ha : hasB lw wd = b) (hll : lw.length ≤ 9223372036854775806) (r : List UInt8) (hr : putIf b l (layU n) = r) (hl : l.length ≤ 2000) : Does Try.prog 70 #[v, .string (bs lw), .string (bs wd), .int .u64 n] [Vec 5 1 encB v l] (fun (x : Value) => x) (fun (x : Value) => [Vec 5 1 encB x r]) := by
  refine d_ins (args := [v, .string (bs lw), .string (bs wd), .int .u64 n]) 17 Try.func70 rfl rfl rfl ?_; intro w rs
  refine d_reg ?_
  refine h_q hflS rfl ?_
  refine h_done (d_seq ?_)
  cases b
  · skip
    obtain rfl : l = r := hr
    refine d_reg ?_
    refine h_q hflS rfl ?_
    refine h_act (post := fun _ => [Vec 5 1 encB v l]) rfl (a_call (ent_of Try.func67 (by kernel_rfl) rfl) (fun w hH => has_any w lw wd false ha hll) rfl rfl rfl) ?_; rintro ⟨⟩
    refine h_done (d_else rfl (d_skip (f_to (d_reg ?_))))
    refine h_q hflS rfl ?_
    refine h_done (d_ret ?_)
    exact f_fin1 (.tmp rfl) (fun w h => tells v rfl [0] rfl h same_parts) rfl
  · skip
    refine d_reg ?_
    refine h_q hflS rfl ?_
    refine h_act (post := fun _ => [Vec 5 1 encB v l]) rfl (a_call (ent_of Try.func67 (by kernel_rfl) rfl) (fun w hH => has_any w lw wd true ha hll) rfl rfl rfl) ?_; rintro ⟨⟩
    refine h_done (d_then rfl (d_reg ?_))
    refine h_q hflS rfl ?_
    refine h_act (post := fun va => [Vec 5 1 encB va (layU n), Vec 5 1 encB v l]) rfl (a_does (os' := fun va => [Vec 5 1 encB va (layU n), Vec 5 1 encB v l]) [] 0 (ent_of Try.func55 (by kernel_rfl) rfl) (r1_num n hn) rfl rfl rfl (fun _ => rfl) rfl rfl rfl) ?_; rintro va
    refine h_act (post := fun x9 => [Vec 5 1 encB va (layU n), Vec 5 1 encB x9 r]) rfl (a_append 1 sl_uint8 okB rfl (layU n) (fun w hH => hH.vec 0 rfl okB) (by have := layU_len hn; omega) rfl rfl rfl hr) ?_; rintro x9
    refine h_q hflS rfl ?_
    refine h_done (d_ret (f_then_ret ?_))
    exact f_fin1 (.tmp rfl) (fun w h => tells x9 rfl [1] rfl h same_parts) rfl

set_option maxRecDepth 100000 in
theorem rencodeM_does (u : World) (x : MsgV) (hx : MsgOk u x) (hr : rightM x.m = true) : DoesU u Try.prog 31 #[.agg #[.int .i64 x.m.k, .int .i64 x.m.a, .int .i64 x.m.b, .int .u64 x.m.t, .int .u64 x.m.i, .int .u64 x.m.lt, x.ev, .int .u64 x.m.co, .bool x.m.rf, .int .u64 x.m.bi, .int .u64 x.m.bt, .int .i64 x.m.bc, .int .i64 x.m.o, x.dv, .bool x.m.la]] [] (fun (v : Value) => .tuple #[v, .int .i64 0]) (fun (v : Value) => [Vec 5 1 encB v (encM x.m)]) := by
  have RD := rightM_iff hr
  have N := numsD hx.ok.i hx.ok.lt hx.ok.co hr
  have hk1 := N.k
  have ha1 := RD.a
  have hb1_ := RD.b
  have ht1 := RD.t
  have i1 := N.i
  have i2 := N.lt
  have i3 := N.co
  have i6 := N.bi
  have i7 := N.bt
  have i8 := N.bc
  have i9 := N.o
  have hes := hx.es
  have h4 := N.es.1
  have hed := N.d
  obtain ⟨b1, hb1⟩ : ∃ b1, wth (fm x.m.k) 1 = b1 := ⟨_, rfl⟩
  obtain ⟨b2, hb2⟩ : ∃ b2, wth (fm x.m.k) 2 = b2 := ⟨_, rfl⟩
  obtain ⟨b3, hb3⟩ : ∃ b3, wth (fm x.m.k) 4 = b3 := ⟨_, rfl⟩
  obtain ⟨b4, hb4⟩ : ∃ b4, wth (fm x.m.k) 8 = b4 := ⟨_, rfl⟩
  obtain ⟨b5, hb5⟩ : ∃ b5, wth (fm x.m.k) 16 = b5 := ⟨_, rfl⟩
  obtain ⟨b6, hb6⟩ : ∃ b6, wth (fm x.m.k) 32 = b6 := ⟨_, rfl⟩
  obtain ⟨b7, hb7⟩ : ∃ b7, wth (fm x.m.k) 64 = b7 := ⟨_, rfl⟩
  obtain ⟨b8, hb8⟩ : ∃ b8, wth (fm x.m.k) 128 = b8 := ⟨_, rfl⟩
  obtain ⟨b9, hb9⟩ : ∃ b9, wth (fm x.m.k) 256 = b9 := ⟨_, rfl⟩
  obtain ⟨L0, hL0⟩ : ∃ L0, headM x.m ++ layU x.m.t = L0 := ⟨_, rfl⟩
  obtain ⟨L1, hL1⟩ : ∃ L1, putIf b1 L0 (layU x.m.i) = L1 := ⟨_, rfl⟩
  obtain ⟨L2, hL2⟩ : ∃ L2, putIf b2 L1 (layU x.m.lt) = L2 := ⟨_, rfl⟩
  obtain ⟨L3, hL3⟩ : ∃ L3, putIf b3 L2 (layU x.m.co) = L3 := ⟨_, rfl⟩
  obtain ⟨L4, hL4⟩ : ∃ L4, putIf b4 L3 (layN x.m.es) = L4 := ⟨_, rfl⟩
  obtain ⟨L5, hL5⟩ : ∃ L5, putIf b5 L4 ([UInt8.ofNat (flagN x.m.rf)]) = L5 := ⟨_, rfl⟩
  obtain ⟨L6, hL6⟩ : ∃ L6, putIf b6 L5 (layB (x.m.bi, x.m.bt, x.m.bc)) = L6 := ⟨_, rfl⟩
  obtain ⟨L7, hL7⟩ : ∃ L7, putIf b7 L6 (layU x.m.o) = L7 := ⟨_, rfl⟩
  obtain ⟨L8, hL8⟩ : ∃ L8, putIf b8 L7 ([UInt8.ofNat (flagN x.m.la)]) = L8 := ⟨_, rfl⟩
  obtain ⟨L9, hL9⟩ : ∃ L9, putIf b9 L8 (layT x.m.d) = L9 := ⟨_, rfl⟩
  have u0 := layU_mlen ht1.2
  have hn0 : L0.length ≤ 11 ∧ 3 ≤ L0.length := by rw [← hL0, List.length_append]; have : (headM x.m).length = 3 := rfl; omega
  have hn1 := putIf_len3 hL1 (fun _ => layU_mlen i1.2)
  have hn2 := putIf_len3 hL2 (fun _ => layU_mlen i2.2)
  have hn3 := putIf_len3 hL3 (fun _ => layU_mlen i3.2)
  have hn4 : L4.length ≤ L3.length + 597 := putIf_len3 hL4 (fun _ => by
    have h1 := layEs_len N.es.2
    have h2 := vlay_length_pow 0 x.m.es.length (by omega)
    unfold layN
    rw [List.length_append]
    omega)
  have hn5 : L5.length ≤ L4.length + 1 := putIf_len3 hL5 (fun _ => by simp)
  have hn6 : L6.length ≤ L5.length + 17 := putIf_len3 hL6 (fun _ => by
    have h1 := layU_mlen i6.2
    have h2 := layU_mlen i7.2
    unfold layB
    simp only [List.length_append, List.length_cons, List.length_nil]
    omega)
  have hn7 : L7.length ≤ L6.length + 8 := putIf_len3 hL7 (fun _ => layU_mlen (n := x.m.o) (by omega))
  have hn8 : L8.length ≤ L7.length + 1 := putIf_len3 hL8 (fun _ => by simp)
  have hn9 : L9.length ≤ L8.length + 258 := putIf_len3 hL9 (fun _ => layT_len2 hed)
  have hE : L9 = layM x.m := by
    rw [← hL9, ← hL8, ← hL7, ← hL6, ← hL5, ← hL4, ← hL3, ← hL2, ← hL1, ← hL0]
    simp only [putIf_eq]
    unfold layM
    rw [hb1, hb2, hb3, hb4, hb5, hb6, hb7, hb8, hb9]
    simp only [List.append_assoc]
  obtain ⟨l, hl⟩ : ∃ l, ofM x.m.k = l := ⟨_, rfl⟩
  have hll : l.length ≤ 9223372036854775806 := by have := ofM_len x.m.k; rw [hl] at this; omega
  have hq1 : hasB l [105, 110, 100, 101, 120] = b1 := by rw [← hl, hasM_index, hb1]
  have hq2 : hasB l [108, 111, 103, 116, 101, 114, 109] = b2 := by rw [← hl, hasM_logterm, hb2]
  have hq3 : hasB l [99, 111, 109, 109, 105, 116] = b3 := by rw [← hl, hasM_commit, hb3]
  have hq4 : hasB l [101, 110, 116, 114, 105, 101, 115] = b4 := by rw [← hl, hasM_entries, hb4]
  have hq5 : hasB l [114, 101, 102, 117, 115, 101, 100] = b5 := by rw [← hl, hasM_refused, hb5]
  have hq6 : hasB l [98, 97, 115, 101] = b6 := by rw [← hl, hasM_base, hb6]
  have hq7 : hasB l [111, 102, 102, 115, 101, 116] = b7 := by rw [← hl, hasM_offset, hb7]
  have hq8 : hasB l [108, 97, 115, 116] = b8 := by rw [← hl, hasM_last, hb8]
  have hq9 : hasB l [100, 97, 116, 97] = b9 := by rw [← hl, hasM_data, hb9]
  obtain ⟨k0, hk0⟩ : ∃ k0, UInt8.ofNat x.m.k.toNat = k0 := ⟨_, rfl⟩
  have hk0x : x.m.k = (k0.toNat : Int) := by rw [← hk0, byte_of _ (by omega)]; omega
  obtain ⟨a0, ha0⟩ : ∃ a0, UInt8.ofNat x.m.a.toNat = a0 := ⟨_, rfl⟩
  have ha0x : x.m.a = (a0.toNat : Int) := by rw [← ha0, byte_of _ (by omega)]; omega
  obtain ⟨c0, hc0⟩ : ∃ c0, UInt8.ofNat x.m.b.toNat = c0 := ⟨_, rfl⟩
  have hc0x : x.m.b = (c0.toNat : Int) := by rw [← hc0, byte_of _ (by omega)]; omega
  obtain ⟨c6, hc6⟩ : ∃ c6, UInt8.ofNat x.m.bc.toNat = c6 := ⟨_, rfl⟩
  have hc6x : x.m.bc = (c6.toNat : Int) := by rw [← hc6, byte_of _ (by omega)]; omega
  obtain ⟨f5, hf5⟩ : ∃ f5, UInt8.ofNat (flagN x.m.rf) = f5 := ⟨_, rfl⟩
  obtain ⟨f8, hf8⟩ : ∃ f8, UInt8.ofNat (flagN x.m.la) = f8 := ⟨_, rfl⟩
  obtain ⟨B1, hB1⟩ : ∃ B1, L5 ++ layU x.m.bi = B1 := ⟨_, rfl⟩
  obtain ⟨B2, hB2⟩ : ∃ B2, B1 ++ layU x.m.bt = B2 := ⟨_, rfl⟩
  have m1 := layU_mlen i6.2
  have m2 := layU_mlen i7.2
  have nB1 : B1.length ≤ L5.length + 8 := by rw [← hB1, List.length_append]; omega
  have nB2 : B2.length ≤ B1.length + 8 := by rw [← hB2, List.length_append]; omega
  obtain ⟨E, hE_⟩ : ∃ E, x.m.es = E := ⟨_, rfl⟩
  have hEE : x.es.map (·.e) = E := by rw [← hes, hE_]
  have hlnE : E.length = x.es.length := by rw [← hEE, List.length_map]
  have hln4 : x.es.length ≤ 4 := by rw [← hlnE, ← hE_]; exact h4
  obtain ⟨N0, hN0⟩ : ∃ N0, L3 ++ vlay E.length = N0 := ⟨_, rfl⟩
  have nN0 : N0.length ≤ L3.length + 1 := by have := vlay_length_pow 0 E.length (by rw [← hE_]; omega); rw [← hN0, List.length_append]; omega
  refine d_insU (args := [.agg #[.int .i64 x.m.k, .int .i64 x.m.a, .int .i64 x.m.b, .int .u64 x.m.t, .int .u64 x.m.i, .int .u64 x.m.lt, x.ev, .int .u64 x.m.co, .bool x.m.rf, .int .u64 x.m.bi, .int .u64 x.m.bt, .int .i64 x.m.bc, .int .i64 x.m.o, x.dv, .bool x.m.la]]) 123 Try.func31 rfl rfl rfl ?_; intro w rs hU hS
  refine d_reg ?_
  refine h_q hflS rfl ?_
  refine h_act (post := fun g1 => [cell g1 28 #[.int .i64 x.m.k, .int .i64 x.m.a, .int .i64 x.m.b, .int .u64 x.m.t, .int .u64 x.m.i, .int .u64 x.m.lt, x.ev, .int .u64 x.m.co, .bool x.m.rf, .int .u64 x.m.bi, .int .u64 x.m.bt, .int .i64 x.m.bc, .int .i64 x.m.o, x.dv, .bool x.m.la]]) rfl (a_box (cs := #[.int .i64 x.m.k, .int .i64 x.m.a, .int .i64 x.m.b, .int .u64 x.m.t, .int .u64 x.m.i, .int .u64 x.m.lt, x.ev, .int .u64 x.m.co, .bool x.m.rf, .int .u64 x.m.bi, .int .u64 x.m.bt, .int .i64 x.m.bc, .int .i64 x.m.o, x.dv, .bool x.m.la]) rfl rfl rfl) ?_; rintro g1
  refine h_q hflS rfl ?_
  refine h_done (d_seq (d_reg ?_))
  refine h_q hflS rfl ?_
  refine h_val rfl (.agg #[.int .i64 x.m.k, .int .i64 x.m.a, .int .i64 x.m.b, .int .u64 x.m.t, .int .u64 x.m.i, .int .u64 x.m.lt, x.ev, .int .u64 x.m.co, .bool x.m.rf, .int .u64 x.m.bi, .int .u64 x.m.bt, .int .i64 x.m.bc, .int .i64 x.m.o, x.dv, .bool x.m.la]) (fun b w hb hH => exec_load rfl rfl (reads_agg (cs := [.int .i64 x.m.k, .int .i64 x.m.a, .int .i64 x.m.b, .int .u64 x.m.t, .int .u64 x.m.i, .int .u64 x.m.lt, x.ev, .int .u64 x.m.co, .bool x.m.rf, .int .u64 x.m.bi, .int .u64 x.m.bt, .int .i64 x.m.bc, .int .i64 x.m.o, x.dv, .bool x.m.la]) ty_api_Msg rfl) (hH.row 0 rfl) hb) ?_
  refine h_act (post := fun _ => [cell g1 28 #[.int .i64 x.m.k, .int .i64 x.m.a, .int .i64 x.m.b, .int .u64 x.m.t, .int .u64 x.m.i, .int .u64 x.m.lt, x.ev, .int .u64 x.m.co, .bool x.m.rf, .int .u64 x.m.bi, .int .u64 x.m.bt, .int .i64 x.m.bc, .int .i64 x.m.o, x.dv, .bool x.m.la]]) rfl (a_call (ent_of Try.func30 (by kernel_rfl) rfl) (fun w hH => rrightM_any w x (argM hx hU hS hH) true hr) rfl rfl rfl) ?_; rintro ⟨⟩
  refine h_q hflS rfl ?_
  refine h_done (d_else rfl (d_skip (f_to (d_reg ?_))))
  refine h_q hflS rfl ?_
  refine h_val rfl (.int .i64 x.m.k) (fun b w hb hH => exec_load rfl rfl (reads_one ty_int rfl) (hH.row 0 rfl) hb) ?_
  refine h_act (post := fun _ => [cell g1 28 #[.int .i64 x.m.k, .int .i64 x.m.a, .int .i64 x.m.b, .int .u64 x.m.t, .int .u64 x.m.i, .int .u64 x.m.lt, x.ev, .int .u64 x.m.co, .bool x.m.rf, .int .u64 x.m.bi, .int .u64 x.m.bt, .int .i64 x.m.bc, .int .i64 x.m.o, x.dv, .bool x.m.la]]) rfl (a_call (ent_of Try.func66 (by kernel_rfl) rfl) (fun w hH => ofM_any w x.m.k l hl) rfl rfl rfl) ?_; rintro ⟨⟩
  refine h_q hflS rfl ?_
  refine h_done (d_seq ?_)
  refine d_emps 2 rfl ?_
  refine d_parS 14 3 [⟨.quiet, [none, none, none], fun _ => .pointer (some ⟨g1, 0, none⟩), []⟩, ⟨.quiet, [none, none, none], fun _ => .int .i64 x.m.k, [0]⟩, ⟨.quiet, [none, none, none], fun _ => .int .u8 (k0.toNat : Int), [1]⟩, ⟨.quiet, [none, none, none], fun _ => .pointer (some ⟨g1, 1, none⟩), []⟩, ⟨.quiet, [none, none, none], fun _ => .int .i64 x.m.a, [3]⟩, ⟨.quiet, [none, none, none], fun _ => .int .u8 (a0.toNat : Int), [4]⟩, ⟨.quiet, [none, none, none], fun _ => .pointer (some ⟨g1, 2, none⟩), []⟩, ⟨.quiet, [none, none, none], fun _ => .int .i64 x.m.b, [6]⟩, ⟨.quiet, [none, none, none], fun _ => .int .u8 (c0.toNat : Int), [7]⟩, ⟨.act 0, [some false, none, some false], fun _ => undef, [2, 5, 8]⟩, ⟨.quiet, [none, none, none], fun _ => .pointer (some ⟨g1, 3, none⟩), []⟩, ⟨.quiet, [none, none, none], fun _ => .int .u64 x.m.t, [10]⟩, ⟨.act 1, [none, some false, some false], fun _ => undef, [11]⟩, ⟨.act 2, [some true, some true, some false], fun _ => undef, [9, 12]⟩] [(1, .pointer (some ⟨g1, 0, none⟩)), (2, .slice none 0 0), (3, .int .i64 0), (4, .string (bs l))] (fun ρ => match ρ with | [r0, r1, r2] => [selS r1 (fun vt => Vec 5 1 encB vt (layU x.m.t)) (emp), selS r2 (fun y0 => Vec 5 1 encB y0 L0) (selS r0 (fun u1 => Vec 5 1 encB u1 ([k0, a0, c0])) (emp)), cell g1 28 #[.int .i64 x.m.k, .int .i64 x.m.a, .int .i64 x.m.b, .int .u64 x.m.t, .int .u64 x.m.i, .int .u64 x.m.lt, x.ev, .int .u64 x.m.co, .bool x.m.rf, .int .u64 x.m.bi, .int .u64 x.m.bt, .int .i64 x.m.bc, .int .i64 x.m.o, x.dv, .bool x.m.la]] | _ => []) (by kernel_rfl) (by kernel_rfl) ⟨rfl, rfl, rfl, rfl, trivial⟩ rfl ?_ ?_
  · skip
    refine s_cons (by intro r0_ r1_ r2_; exact ⟨rfl, fun b w hH hb => exec_q1 hflS rfl hb⟩) ?_
    refine s_cons (by intro r0_ r1_ r2_; exact ⟨rfl, fun b w hH hb => exec_load rfl rfl (reads_one ty_int rfl) (hH.row 2 rfl) hb⟩) ?_
    refine s_cons (by intro r0_ r1_ r2_; exact ⟨rfl, fun b w hH hb => exec_conv Try.underlying3 Try.underlying5 (by rw [IntWalk.u8_in _ (by omega)]; exact hk0x) rfl rfl hb⟩) ?_
    refine s_cons (by intro r0_ r1_ r2_; exact ⟨rfl, fun b w hH hb => exec_q1 hflS rfl hb⟩) ?_
    refine s_cons (by intro r0_ r1_ r2_; exact ⟨rfl, fun b w hH hb => exec_load rfl rfl (reads_one ty_int rfl) (hH.row 2 rfl) hb⟩) ?_
    refine s_cons (by intro r0_ r1_ r2_; exact ⟨rfl, fun b w hH hb => exec_conv Try.underlying3 Try.underlying5 (by rw [IntWalk.u8_in _ (by omega)]; exact ha0x) rfl rfl hb⟩) ?_
    refine s_cons (by intro r0_ r1_ r2_; exact ⟨rfl, fun b w hH hb => exec_q1 hflS rfl hb⟩) ?_
    refine s_cons (by intro r0_ r1_ r2_; exact ⟨rfl, fun b w hH hb => exec_load rfl rfl (reads_one ty_int rfl) (hH.row 2 rfl) hb⟩) ?_
    refine s_cons (by intro r0_ r1_ r2_; exact ⟨rfl, fun b w hH hb => exec_conv Try.underlying3 Try.underlying5 (by rw [IntWalk.u8_in _ (by omega)]; exact hc0x) rfl rfl hb⟩) ?_
    refine s_cons (by intro r1_; exact ⟨rfl, Acts.s (Acts.place (val := fun u1 : Value => u1) (t := fun u1 => Vec 5 1 encB u1 ([k0, a0, c0])) (os' := fun u1 => [selS r1_ (fun vt => Vec 5 1 encB vt (layU x.m.t)) (emp), Vec 5 1 encB u1 ([k0, a0, c0]), cell g1 28 #[.int .i64 x.m.k, .int .i64 x.m.a, .int .i64 x.m.b, .int .u64 x.m.t, .int .u64 x.m.i, .int .u64 x.m.lt, x.ev, .int .u64 x.m.co, .bool x.m.rf, .int .u64 x.m.bi, .int .u64 x.m.bt, .int .i64 x.m.bc, .int .i64 x.m.o, x.dv, .bool x.m.la]]) 1 rfl (by exact a_build3 sl_uint8 k0 a0 c0 rfl rfl rfl rfl) (fun _ => rfl)) (fun _ => rfl)⟩) ?_
    refine s_cons (by intro r0_ r1_ r2_; exact ⟨rfl, fun b w hH hb => exec_q1 hflS rfl hb⟩) ?_
    refine s_cons (by intro r0_ r1_ r2_; exact ⟨rfl, fun b w hH hb => exec_load rfl rfl (reads_one ty_uint64 rfl) (hH.row 2 rfl) hb⟩) ?_
    refine s_cons (by intro r0_; exact ⟨rfl, Acts.s (a_does (os' := fun vt => [Vec 5 1 encB vt (layU x.m.t), selS r0_ (fun u1 => Vec 5 1 encB u1 ([k0, a0, c0])) (emp), cell g1 28 #[.int .i64 x.m.k, .int .i64 x.m.a, .int .i64 x.m.b, .int .u64 x.m.t, .int .u64 x.m.i, .int .u64 x.m.lt, x.ev, .int .u64 x.m.co, .bool x.m.rf, .int .u64 x.m.bi, .int .u64 x.m.bt, .int .i64 x.m.bc, .int .i64 x.m.o, x.dv, .bool x.m.la]]) [0] 1 (ent_of Try.func55 (by kernel_rfl) rfl) (r1_num x.m.t ⟨by omega, by omega⟩) rfl rfl rfl (fun _ => rfl) rfl rfl rfl) (fun _ => rfl)⟩) ?_
    refine s_cons (by intro u1 vt; exact ⟨rfl, Acts.s (a_append 1 sl_uint8 okB rfl (layU x.m.t) (fun w hH => hH.vec 0 rfl okB) (by simp; omega) rfl rfl rfl (by rw [← hL0, ← hk0, ← ha0, ← hc0]; rfl)) (fun _ => rfl)⟩) ?_
    exact s_nil
  intro u1 vt y0
  refine WL2.keep (env' := [(1, .pointer (some ⟨g1, 0, none⟩)), (2, .slice none 0 0), (3, .int .i64 0), (4, .string (bs l)), (28, y0)]) ⟨rfl, rfl, rfl, rfl, rfl, trivial⟩ ?_
  refine h_q hflS rfl ?_
  refine h_nil (f_to (d_reg ?_))
  refine h_q hflS rfl ?_
  refine h_val rfl (.int .u64 x.m.i) (fun b w hb hH => exec_load rfl rfl (reads_one ty_uint64 rfl) (hH.row 2 rfl) hb) ?_
  refine h_act (post := fun p1 => [Vec 5 1 encB vt (layU x.m.t), Vec 5 1 encB p1 L1, cell g1 28 #[.int .i64 x.m.k, .int .i64 x.m.a, .int .i64 x.m.b, .int .u64 x.m.t, .int .u64 x.m.i, .int .u64 x.m.lt, x.ev, .int .u64 x.m.co, .bool x.m.rf, .int .u64 x.m.bi, .int .u64 x.m.bt, .int .i64 x.m.bc, .int .i64 x.m.o, x.dv, .bool x.m.la]]) rfl (a_does (os' := fun p1 => [Vec 5 1 encB vt (layU x.m.t), Vec 5 1 encB p1 L1, cell g1 28 #[.int .i64 x.m.k, .int .i64 x.m.a, .int .i64 x.m.b, .int .u64 x.m.t, .int .u64 x.m.i, .int .u64 x.m.lt, x.ev, .int .u64 x.m.co, .bool x.m.rf, .int .u64 x.m.bi, .int .u64 x.m.bt, .int .i64 x.m.bc, .int .i64 x.m.o, x.dv, .bool x.m.la]]) [1] 0 (ent_of Try.func70 (by kernel_rfl) rfl) (put_does y0 L0 l [105, 110, 100, 101, 120] x.m.i ⟨by omega, by omega⟩ b1 hq1 hll L1 hL1 (by omega)) rfl rfl rfl (fun _ => rfl) rfl rfl rfl) ?_; rintro p1
  refine h_q hflS rfl ?_
  refine h_done (d_reg ?_)
  refine h_q hflS rfl ?_
  refine h_val rfl (.int .u64 x.m.lt) (fun b w hb hH => exec_load rfl rfl (reads_one ty_uint64 rfl) (hH.row 2 rfl) hb) ?_
  refine h_act (post := fun p2 => [Vec 5 1 encB vt (layU x.m.t), Vec 5 1 encB p2 L2, cell g1 28 #[.int .i64 x.m.k, .int .i64 x.m.a, .int .i64 x.m.b, .int .u64 x.m.t, .int .u64 x.m.i, .int .u64 x.m.lt, x.ev, .int .u64 x.m.co, .bool x.m.rf, .int .u64 x.m.bi, .int .u64 x.m.bt, .int .i64 x.m.bc, .int .i64 x.m.o, x.dv, .bool x.m.la]]) rfl (a_does (os' := fun p2 => [Vec 5 1 encB vt (layU x.m.t), Vec 5 1 encB p2 L2, cell g1 28 #[.int .i64 x.m.k, .int .i64 x.m.a, .int .i64 x.m.b, .int .u64 x.m.t, .int .u64 x.m.i, .int .u64 x.m.lt, x.ev, .int .u64 x.m.co, .bool x.m.rf, .int .u64 x.m.bi, .int .u64 x.m.bt, .int .i64 x.m.bc, .int .i64 x.m.o, x.dv, .bool x.m.la]]) [1] 0 (ent_of Try.func70 (by kernel_rfl) rfl) (put_does p1 L1 l [108, 111, 103, 116, 101, 114, 109] x.m.lt ⟨by omega, by omega⟩ b2 hq2 hll L2 hL2 (by omega)) rfl rfl rfl (fun _ => rfl) rfl rfl rfl) ?_; rintro p2
  refine h_q hflS rfl ?_
  refine h_done (d_reg ?_)
  refine h_q hflS rfl ?_
  refine h_val rfl (.int .u64 x.m.co) (fun b w hb hH => exec_load rfl rfl (reads_one ty_uint64 rfl) (hH.row 2 rfl) hb) ?_
  refine h_act (post := fun p3 => [Vec 5 1 encB vt (layU x.m.t), Vec 5 1 encB p3 L3, cell g1 28 #[.int .i64 x.m.k, .int .i64 x.m.a, .int .i64 x.m.b, .int .u64 x.m.t, .int .u64 x.m.i, .int .u64 x.m.lt, x.ev, .int .u64 x.m.co, .bool x.m.rf, .int .u64 x.m.bi, .int .u64 x.m.bt, .int .i64 x.m.bc, .int .i64 x.m.o, x.dv, .bool x.m.la]]) rfl (a_does (os' := fun p3 => [Vec 5 1 encB vt (layU x.m.t), Vec 5 1 encB p3 L3, cell g1 28 #[.int .i64 x.m.k, .int .i64 x.m.a, .int .i64 x.m.b, .int .u64 x.m.t, .int .u64 x.m.i, .int .u64 x.m.lt, x.ev, .int .u64 x.m.co, .bool x.m.rf, .int .u64 x.m.bi, .int .u64 x.m.bt, .int .i64 x.m.bc, .int .i64 x.m.o, x.dv, .bool x.m.la]]) [1] 0 (ent_of Try.func70 (by kernel_rfl) rfl) (put_does p2 L2 l [99, 111, 109, 109, 105, 116] x.m.co ⟨by omega, by omega⟩ b3 hq3 hll L3 hL3 (by omega)) rfl rfl rfl (fun _ => rfl) rfl rfl rfl) ?_; rintro p3
  refine h_q hflS rfl ?_
  refine h_done (d_seq (d_reg ?_))
  refine h_q hflS rfl ?_
  refine h_act (post := fun _ => [Vec 5 1 encB vt (layU x.m.t), Vec 5 1 encB p3 L3, cell g1 28 #[.int .i64 x.m.k, .int .i64 x.m.a, .int .i64 x.m.b, .int .u64 x.m.t, .int .u64 x.m.i, .int .u64 x.m.lt, x.ev, .int .u64 x.m.co, .bool x.m.rf, .int .u64 x.m.bi, .int .u64 x.m.bt, .int .i64 x.m.bc, .int .i64 x.m.o, x.dv, .bool x.m.la]]) rfl (a_call (ent_of Try.func67 (by kernel_rfl) rfl) (fun w hH => has_any w l [101, 110, 116, 114, 105, 101, 115] b4 hq4 hll) rfl rfl rfl) ?_; rintro ⟨⟩
  refine h_done ?_
  refine d_midx (X := Value) (fun y4 => [(1, .pointer (some ⟨g1, 0, none⟩)), (2, .slice none 0 0), (3, .int .i64 0), (4, .string (bs l)), (5, y4)]) (fun y4 => [Vec 5 1 encB vt (layU x.m.t), Vec 5 1 encB y4 L4, cell g1 28 #[.int .i64 x.m.k, .int .i64 x.m.a, .int .i64 x.m.b, .int .u64 x.m.t, .int .u64 x.m.i, .int .u64 x.m.lt, x.ev, .int .u64 x.m.co, .bool x.m.rf, .int .u64 x.m.bi, .int .u64 x.m.bt, .int .i64 x.m.bc, .int .i64 x.m.o, x.dv, .bool x.m.la]]) ?_ ?_
  · skip
    cases b4
    · skip
      obtain rfl : L3 = L4 := hL4
      refine d_else rfl (d_skip ?_)
      exact f_midx (p3) 0 ⟨rfl, rfl, rfl, rfl, rfl, trivial⟩ rfl
    · skip
      refine d_then rfl (d_reg ?_)
      refine h_q hflS rfl ?_
      refine h_val rfl (x.ev) (fun b w hb hH => exec_load rfl rfl (reads_one ty_s_api_Entry rfl) (hH.row 2 rfl) hb) ?_
      refine h_val rfl (.int .i64 (x.es.length : Int)) (fun b w hb hH => e_slen ((argM hx hU hS hH).rd.1) Try.underlying23 rfl rfl hb) ?_
      refine h_val rfl (.int .u64 (x.es.length : Int)) (fun b w hb hH => exec_conv Try.underlying3 Try.underlying22 (IntWalk.u64_in _ (by omega)) rfl rfl hb) ?_
      refine h_act (post := fun vn => [Vec 5 1 encB vn (layU (x.es.length : Int)), Vec 5 1 encB vt (layU x.m.t), Vec 5 1 encB p3 L3, cell g1 28 #[.int .i64 x.m.k, .int .i64 x.m.a, .int .i64 x.m.b, .int .u64 x.m.t, .int .u64 x.m.i, .int .u64 x.m.lt, x.ev, .int .u64 x.m.co, .bool x.m.rf, .int .u64 x.m.bi, .int .u64 x.m.bt, .int .i64 x.m.bc, .int .i64 x.m.o, x.dv, .bool x.m.la]]) rfl (a_does (os' := fun vn => [Vec 5 1 encB vn (layU (x.es.length : Int)), Vec 5 1 encB vt (layU x.m.t), Vec 5 1 encB p3 L3, cell g1 28 #[.int .i64 x.m.k, .int .i64 x.m.a, .int .i64 x.m.b, .int .u64 x.m.t, .int .u64 x.m.i, .int .u64 x.m.lt, x.ev, .int .u64 x.m.co, .bool x.m.rf, .int .u64 x.m.bi, .int .u64 x.m.bt, .int .i64 x.m.bc, .int .i64 x.m.o, x.dv, .bool x.m.la]]) [] 0 (ent_of Try.func55 (by kernel_rfl) rfl) (r1_num (x.es.length : Int) ⟨by omega, by omega⟩) rfl rfl rfl (fun _ => rfl) rfl rfl rfl) ?_; rintro vn
      refine h_act (post := fun yN => [Vec 5 1 encB vn (layU (x.es.length : Int)), Vec 5 1 encB vt (layU x.m.t), Vec 5 1 encB yN N0, cell g1 28 #[.int .i64 x.m.k, .int .i64 x.m.a, .int .i64 x.m.b, .int .u64 x.m.t, .int .u64 x.m.i, .int .u64 x.m.lt, x.ev, .int .u64 x.m.co, .bool x.m.rf, .int .u64 x.m.bi, .int .u64 x.m.bt, .int .i64 x.m.bc, .int .i64 x.m.o, x.dv, .bool x.m.la]]) rfl (a_append 2 sl_uint8 okB rfl (layU (x.es.length : Int)) (fun w hH => hH.vec 0 rfl okB) (by have := layU_len (n := (x.es.length : Int)) ⟨by omega, by omega⟩; omega) rfl rfl rfl (by rw [← hN0, hlnE]; rfl)) ?_; rintro yN
      refine h_q hflS rfl ?_
      refine h_done (d_reg ?_)
      refine h_q hflS rfl ?_
      refine h_done (d_block ?_)
      refine d_loop (α := Nat × Value × List UInt8) (fun ⟨j, yv, K⟩ => [(1, .pointer (some ⟨g1, 0, none⟩)), (2, .slice none 0 0), (3, .int .i64 0), (4, .string (bs l)), (5, yv), (6, .int .i64 ((j : Nat) : Int))]) (fun ⟨j, yv, K⟩ => [Vec 5 1 encB vn (layU (x.es.length : Int)), Vec 5 1 encB vt (layU x.m.t), Vec 5 1 encB yv K, cell g1 28 #[.int .i64 x.m.k, .int .i64 x.m.a, .int .i64 x.m.b, .int .u64 x.m.t, .int .u64 x.m.i, .int .u64 x.m.lt, x.ev, .int .u64 x.m.co, .bool x.m.rf, .int .u64 x.m.bi, .int .u64 x.m.bt, .int .i64 x.m.bc, .int .i64 x.m.o, x.dv, .bool x.m.la]]) (fun ⟨j, yv, K⟩ => j ≤ x.es.length ∧ K = N0 ++ layEs (E.take j)) (fun ⟨j, yv, K⟩ => x.es.length - j) (0, yN, N0) ⟨Nat.zero_le _, by simp [layEs]⟩ ⟨rfl, rfl, rfl, rfl, rfl, rfl, trivial⟩ rfl ?_
      rintro ⟨j, yv, K⟩ hI
      refine WC2.at_ (env' := [(1, .pointer (some ⟨g1, 0, none⟩)), (2, .slice none 0 0), (3, .int .i64 0), (4, .string (bs l)), (5, yv), (6, .int .i64 ((j : Nat) : Int))]) (rs' := [Vec 5 1 encB vn (layU (x.es.length : Int)), Vec 5 1 encB vt (layU x.m.t), Vec 5 1 encB yv K, cell g1 28 #[.int .i64 x.m.k, .int .i64 x.m.a, .int .i64 x.m.b, .int .u64 x.m.t, .int .u64 x.m.i, .int .u64 x.m.lt, x.ev, .int .u64 x.m.co, .bool x.m.rf, .int .u64 x.m.bi, .int .u64 x.m.bt, .int .i64 x.m.bc, .int .i64 x.m.o, x.dv, .bool x.m.la]]) ⟨rfl, rfl, rfl, rfl, rfl, rfl, trivial⟩ rfl ?_
      have hI1 : j ≤ x.es.length := hI.1
      have hI2 : K = N0 ++ layEs (E.take j) := hI.2
      refine d_seq ?_
      rcases Nat.lt_or_ge j x.es.length with hj | hj
      · skip
        obtain ⟨e, he⟩ : ∃ e, x.es[j]? = some e := ⟨_, List.getElem?_eq_getElem hj⟩
        have hm := List.mem_of_getElem? he
        have hEj : E[j]? = some e.e := by rw [← hEE, List.getElem?_map, he]; rfl
        have hre : rightE e.e = true := N.es.2 e.e (by rw [hE_]; exact List.mem_of_getElem? hEj)
        have hlen := layE_len hre
        have hlt := layT_lenE hlen
        obtain ⟨K2, hK2⟩ : ∃ K2, K ++ layT (layE e.e) = K2 := ⟨_, rfl⟩
        have hKK : K2 = N0 ++ layEs (E.take (j + 1)) := by rw [← hK2, hI2, layEs_at hEj, List.append_assoc]
        have nK : K.length ≤ N0.length + 596 := by rw [hI2, List.length_append]; have := take_len_le (j := j) (hE_ ▸ N.es.2) (hE_ ▸ h4); omega
        refine d_reg ?_
        refine h_q hflS rfl ?_
        refine h_val rfl (x.ev) (fun b w hb hH => exec_load rfl rfl (reads_one ty_s_api_Entry rfl) (hH.row 3 rfl) hb) ?_
        refine h_val rfl (.int .i64 (x.es.length : Int)) (fun b w hb hH => e_slen ((argM hx hU hS hH).rd.1) Try.underlying23 rfl rfl hb) ?_
        refine h_val rfl (.bool true) (fun b w hb hH => exec_cmp rfl rfl rfl (cmp_lss_t (by omega)) hb) ?_
        refine h_done (d_then rfl (d_skip (f_to (d_seq (d_block (d_reg ?_))))))
        refine h_q hflS rfl ?_
        refine h_val rfl (x.ev) (fun b w hb hH => exec_load rfl rfl (reads_one ty_s_api_Entry rfl) (hH.row 3 rfl) hb) ?_
        refine h_q hflS rfl ?_
        refine h_val rfl (elp x.ev (j * 5)) (fun b w hb hH => e_sidx okV ((argM hx hU hS hH).rd.1) sl_api_Entry (j := j) he rfl rfl rfl hb) ?_
        refine h_val rfl (.agg (encV e).toArray) (fun b w hb hH => e_sagg okV (by decide) ((argM hx hU hS hH).rd.1) (j := j) he ty_api_Entry rfl rfl hb) ?_
        refine h_act (post := fun v9 => [Vec 5 1 encB v9 (layE e.e), Vec 5 1 encB vn (layU (x.es.length : Int)), Vec 5 1 encB vt (layU x.m.t), Vec 5 1 encB yv K, cell g1 28 #[.int .i64 x.m.k, .int .i64 x.m.a, .int .i64 x.m.b, .int .u64 x.m.t, .int .u64 x.m.i, .int .u64 x.m.lt, x.ev, .int .u64 x.m.co, .bool x.m.rf, .int .u64 x.m.bi, .int .u64 x.m.bt, .int .i64 x.m.bc, .int .i64 x.m.o, x.dv, .bool x.m.la]]) rfl (a_doesU hU hS (os' := fun v9 => [Vec 5 1 encB v9 (layE e.e), Vec 5 1 encB vn (layU (x.es.length : Int)), Vec 5 1 encB vt (layU x.m.t), Vec 5 1 encB yv K, cell g1 28 #[.int .i64 x.m.k, .int .i64 x.m.a, .int .i64 x.m.b, .int .u64 x.m.t, .int .u64 x.m.i, .int .u64 x.m.lt, x.ev, .int .u64 x.m.co, .bool x.m.rf, .int .u64 x.m.bi, .int .u64 x.m.bt, .int .i64 x.m.bc, .int .i64 x.m.o, x.dv, .bool x.m.la]]) [] 0 (ent_of Try.func23 (by kernel_rfl) rfl) (rlaye_does u e (hx.rd.2 e hm) hre) rfl rfl rfl (fun _ => rfl) rfl rfl rfl) ?_; rintro v9
        refine h_q hflS rfl ?_
        refine h_done (d_reg1 ?_)
        refine h_q hflS rfl ?_
        refine h_act (post := fun v10 => [Vec 5 1 encB v10 (layT (layE e.e)), Vec 5 1 encB v9 (layE e.e), Vec 5 1 encB vn (layU (x.es.length : Int)), Vec 5 1 encB vt (layU x.m.t), Vec 5 1 encB yv K, cell g1 28 #[.int .i64 x.m.k, .int .i64 x.m.a, .int .i64 x.m.b, .int .u64 x.m.t, .int .u64 x.m.i, .int .u64 x.m.lt, x.ev, .int .u64 x.m.co, .bool x.m.rf, .int .u64 x.m.bi, .int .u64 x.m.bt, .int .i64 x.m.bc, .int .i64 x.m.o, x.dv, .bool x.m.la]]) rfl (a_makes (os' := fun v10 => [Vec 5 1 encB v10 (layT (layE e.e)), Vec 5 1 encB v9 (layE e.e), Vec 5 1 encB vn (layU (x.es.length : Int)), Vec 5 1 encB vt (layU x.m.t), Vec 5 1 encB yv K, cell g1 28 #[.int .i64 x.m.k, .int .i64 x.m.a, .int .i64 x.m.b, .int .u64 x.m.t, .int .u64 x.m.i, .int .u64 x.m.lt, x.ev, .int .u64 x.m.co, .bool x.m.rf, .int .u64 x.m.bi, .int .u64 x.m.bt, .int .i64 x.m.bc, .int .i64 x.m.o, x.dv, .bool x.m.la]]) [] 0 (ent_of Try.func56 (by kernel_rfl) rfl) (fun w hH => r1_text (hH.sl8 0 rfl) (by omega) _ rfl) rfl rfl rfl (fun _ => rfl) rfl rfl rfl) ?_; rintro v10
        refine h_act (post := fun yn => [Vec 5 1 encB v10 (layT (layE e.e)), Vec 5 1 encB v9 (layE e.e), Vec 5 1 encB vn (layU (x.es.length : Int)), Vec 5 1 encB vt (layU x.m.t), Vec 5 1 encB yn K2, cell g1 28 #[.int .i64 x.m.k, .int .i64 x.m.a, .int .i64 x.m.b, .int .u64 x.m.t, .int .u64 x.m.i, .int .u64 x.m.lt, x.ev, .int .u64 x.m.co, .bool x.m.rf, .int .u64 x.m.bi, .int .u64 x.m.bt, .int .i64 x.m.bc, .int .i64 x.m.o, x.dv, .bool x.m.la]]) rfl (a_append 4 sl_uint8 okB rfl (layT (layE e.e)) (fun w hH => hH.vec 0 rfl okB) (by omega) rfl rfl rfl hK2) ?_; rintro yn
        refine h_q hflS rfl ?_
        refine h_nil (f_block (f_to ?_))
        refine WC2.leave [1, 0] rfl rfl ?_
        refine d_reg1 ?_
        refine h_q hflS rfl ?_
        refine h_val rfl (.int .i64 ((j + 1 : Nat) : Int)) (fun b w hb hH => exec_ar rfl rfl rfl rfl (by rw [IntWalk.i64_in _ (by omega)]; omega) hb) ?_
        refine h_q hflS rfl ?_
        refine h_nil ?_
        exact f_again (j + 1, yn, K2) 0 ⟨hj, hKK⟩ (show x.es.length - (j + 1) < x.es.length - j by omega) ⟨rfl, rfl, rfl, rfl, rfl, rfl, trivial⟩ rfl
      · skip
        obtain rfl : K = L4 := by rw [hI2, List.take_of_length_le (by omega), ← hN0, List.append_assoc]; rw [hE_] at hL4; exact hL4
        refine d_reg ?_
        refine h_q hflS rfl ?_
        refine h_val rfl (x.ev) (fun b w hb hH => exec_load rfl rfl (reads_one ty_s_api_Entry rfl) (hH.row 3 rfl) hb) ?_
        refine h_val rfl (.int .i64 (x.es.length : Int)) (fun b w hb hH => e_slen ((argM hx hU hS hH).rd.1) Try.underlying23 rfl rfl hb) ?_
        refine h_val rfl (.bool false) (fun b w hb hH => exec_cmp rfl rfl rfl (cmp_lss_f (by omega)) hb) ?_
        refine h_done (d_else rfl (d_exit (f_then_exit (f_then_exit (f_block_exit ?_)))))
        exact f_midx (yv) 1 ⟨rfl, rfl, rfl, rfl, rfl, trivial⟩ rfl
  intro y4
  refine f_to (d_seq (d_reg ?_))
  refine h_q hflS rfl ?_
  refine h_act (post := fun _ => [Vec 5 1 encB vt (layU x.m.t), Vec 5 1 encB y4 L4, cell g1 28 #[.int .i64 x.m.k, .int .i64 x.m.a, .int .i64 x.m.b, .int .u64 x.m.t, .int .u64 x.m.i, .int .u64 x.m.lt, x.ev, .int .u64 x.m.co, .bool x.m.rf, .int .u64 x.m.bi, .int .u64 x.m.bt, .int .i64 x.m.bc, .int .i64 x.m.o, x.dv, .bool x.m.la]]) rfl (a_call (ent_of Try.func67 (by kernel_rfl) rfl) (fun w hH => has_any w l [114, 101, 102, 117, 115, 101, 100] b5 hq5 hll) rfl rfl rfl) ?_; rintro ⟨⟩
  refine h_done ?_
  refine d_midx (X := Value) (fun y5 => [(1, .pointer (some ⟨g1, 0, none⟩)), (2, .slice none 0 0), (3, .int .i64 0), (4, .string (bs l)), (5, y5)]) (fun y5 => [Vec 5 1 encB vt (layU x.m.t), Vec 5 1 encB y5 L5, cell g1 28 #[.int .i64 x.m.k, .int .i64 x.m.a, .int .i64 x.m.b, .int .u64 x.m.t, .int .u64 x.m.i, .int .u64 x.m.lt, x.ev, .int .u64 x.m.co, .bool x.m.rf, .int .u64 x.m.bi, .int .u64 x.m.bt, .int .i64 x.m.bc, .int .i64 x.m.o, x.dv, .bool x.m.la]]) ?_ ?_
  · skip
    cases b5
    · skip
      obtain rfl : L4 = L5 := hL5
      refine d_else rfl (d_skip ?_)
      exact f_midx (y4) 0 ⟨rfl, rfl, rfl, rfl, rfl, trivial⟩ rfl
    · skip
      refine d_then rfl (d_reg1 ?_)
      refine h_q hflS rfl ?_
      refine h_val rfl (.bool x.m.rf) (fun b w hb hH => exec_load rfl rfl (reads_one ty_bool rfl) (hH.row 2 rfl) hb) ?_
      refine h_act (post := fun _ => [Vec 5 1 encB vt (layU x.m.t), Vec 5 1 encB y4 L4, cell g1 28 #[.int .i64 x.m.k, .int .i64 x.m.a, .int .i64 x.m.b, .int .u64 x.m.t, .int .u64 x.m.i, .int .u64 x.m.lt, x.ev, .int .u64 x.m.co, .bool x.m.rf, .int .u64 x.m.bi, .int .u64 x.m.bt, .int .i64 x.m.bc, .int .i64 x.m.o, x.dv, .bool x.m.la]]) rfl (a_call (ent_of Try.func71 (by kernel_rfl) rfl) (fun w hH => flag8_any w x.m.rf f5 hf5) rfl rfl rfl) ?_; rintro ⟨⟩
      refine h_act (X := Value) (val := fun v : Value => v) (post := fun u2 => [Vec 5 1 encB u2 ([f5]), Vec 5 1 encB vt (layU x.m.t), Vec 5 1 encB y4 L4, cell g1 28 #[.int .i64 x.m.k, .int .i64 x.m.a, .int .i64 x.m.b, .int .u64 x.m.t, .int .u64 x.m.i, .int .u64 x.m.lt, x.ev, .int .u64 x.m.co, .bool x.m.rf, .int .u64 x.m.bi, .int .u64 x.m.bt, .int .i64 x.m.bc, .int .i64 x.m.o, x.dv, .bool x.m.la]]) rfl (by refine a_build1 (e := 5) (t := 26) (enc := encB) (x := .tmp 78) (c := .int .u8 ((f5).toNat : Int)) ?_ ?_ f5 ?_ ?_ ?_; exact sl_uint8; exact okB; exact rfl; exact rfl; exact rfl) ?_; rintro u2
      refine h_act (post := fun u3 => [Vec 5 1 encB u2 ([f5]), Vec 5 1 encB vt (layU x.m.t), Vec 5 1 encB u3 L5, cell g1 28 #[.int .i64 x.m.k, .int .i64 x.m.a, .int .i64 x.m.b, .int .u64 x.m.t, .int .u64 x.m.i, .int .u64 x.m.lt, x.ev, .int .u64 x.m.co, .bool x.m.rf, .int .u64 x.m.bi, .int .u64 x.m.bt, .int .i64 x.m.bc, .int .i64 x.m.o, x.dv, .bool x.m.la]]) rfl (a_append 2 sl_uint8 okB rfl ([f5]) (fun w hH => hH.vec 0 rfl okB) (by simp; omega) rfl rfl rfl (by rw [← hf5]; exact hL5)) ?_; rintro u3
      refine h_q hflS rfl ?_
      refine h_nil ?_
      exact f_midx (u3) 1 ⟨rfl, rfl, rfl, rfl, rfl, trivial⟩ rfl
  intro y5
  refine f_to (d_seq (d_reg ?_))
  refine h_q hflS rfl ?_
  refine h_act (post := fun _ => [Vec 5 1 encB vt (layU x.m.t), Vec 5 1 encB y5 L5, cell g1 28 #[.int .i64 x.m.k, .int .i64 x.m.a, .int .i64 x.m.b, .int .u64 x.m.t, .int .u64 x.m.i, .int .u64 x.m.lt, x.ev, .int .u64 x.m.co, .bool x.m.rf, .int .u64 x.m.bi, .int .u64 x.m.bt, .int .i64 x.m.bc, .int .i64 x.m.o, x.dv, .bool x.m.la]]) rfl (a_call (ent_of Try.func67 (by kernel_rfl) rfl) (fun w hH => has_any w l [98, 97, 115, 101] b6 hq6 hll) rfl rfl rfl) ?_; rintro ⟨⟩
  refine h_done ?_
  refine d_midx (X := Value) (fun y6 => [(1, .pointer (some ⟨g1, 0, none⟩)), (2, .slice none 0 0), (3, .int .i64 0), (4, .string (bs l)), (5, y6)]) (fun y6 => [Vec 5 1 encB vt (layU x.m.t), Vec 5 1 encB y6 L6, cell g1 28 #[.int .i64 x.m.k, .int .i64 x.m.a, .int .i64 x.m.b, .int .u64 x.m.t, .int .u64 x.m.i, .int .u64 x.m.lt, x.ev, .int .u64 x.m.co, .bool x.m.rf, .int .u64 x.m.bi, .int .u64 x.m.bt, .int .i64 x.m.bc, .int .i64 x.m.o, x.dv, .bool x.m.la]]) ?_ ?_
  · skip
    cases b6
    · skip
      obtain rfl : L5 = L6 := hL6
      refine d_else rfl (d_skip ?_)
      exact f_midx (y5) 0 ⟨rfl, rfl, rfl, rfl, rfl, trivial⟩ rfl
    · skip
      refine d_then rfl ?_
      refine d_emps 3 rfl ?_
      refine d_parS 17 6 [⟨.quiet, [none, none, none, none, none, none], fun _ => y5, []⟩, ⟨.quiet, [none, none, none, none, none, none], fun _ => .pointer (some ⟨g1, 9, none⟩), []⟩, ⟨.quiet, [none, none, none, none, none, none], fun _ => .pointer (some ⟨g1, 9, none⟩), [1]⟩, ⟨.quiet, [none, none, none, none, none, none], fun _ => .int .u64 x.m.bi, [2]⟩, ⟨.act 0, [some false, some false, some false, some false, none, some false], fun _ => undef, [3]⟩, ⟨.act 1, [some true, some false, some false, some false, none, some false], fun _ => undef, [0, 4]⟩, ⟨.quiet, [none, none, none, none, none, none], fun _ => .pointer (some ⟨g1, 9, none⟩), []⟩, ⟨.quiet, [none, none, none, none, none, none], fun _ => .pointer (some ⟨g1, 10, none⟩), [6]⟩, ⟨.quiet, [none, none, none, none, none, none], fun _ => .int .u64 x.m.bt, [7]⟩, ⟨.act 2, [some true, some true, some false, some false, none, some false], fun _ => undef, [8]⟩, ⟨.act 3, [some true, some true, some true, some false, none, some false], fun _ => undef, [5, 9]⟩, ⟨.quiet, [none, none, none, none, none, none], fun _ => .pointer (some ⟨g1, 9, none⟩), []⟩, ⟨.quiet, [none, none, none, none, none, none], fun _ => .pointer (some ⟨g1, 11, none⟩), [11]⟩, ⟨.quiet, [none, none, none, none, none, none], fun _ => .int .i64 x.m.bc, [12]⟩, ⟨.quiet, [none, none, none, none, none, none], fun _ => .int .u8 (c6.toNat : Int), [13]⟩, ⟨.act 4, [none, none, none, none, some false, some false], fun _ => undef, [14]⟩, ⟨.act 5, [some true, some true, some true, some true, some true, some false], fun _ => undef, [10, 15]⟩] [(1, .pointer (some ⟨g1, 0, none⟩)), (2, .slice none 0 0), (3, .int .i64 0), (4, .string (bs l)), (5, y5)] (fun ρ => match ρ with | [r0, r1, r2, r3, r4, r5] => [selS r4 (fun u6 => Vec 5 1 encB u6 ([c6])) (emp), selS r2 (fun w2 => Vec 5 1 encB w2 (layU x.m.bt)) (emp), selS r0 (fun w1 => Vec 5 1 encB w1 (layU x.m.bi)) (emp), Vec 5 1 encB vt (layU x.m.t), selS r5 (fun u7 => Vec 5 1 encB u7 L6) (selS r3 (fun u5 => Vec 5 1 encB u5 B2) (selS r1 (fun u4 => Vec 5 1 encB u4 B1) (Vec 5 1 encB y5 L5))), cell g1 28 #[.int .i64 x.m.k, .int .i64 x.m.a, .int .i64 x.m.b, .int .u64 x.m.t, .int .u64 x.m.i, .int .u64 x.m.lt, x.ev, .int .u64 x.m.co, .bool x.m.rf, .int .u64 x.m.bi, .int .u64 x.m.bt, .int .i64 x.m.bc, .int .i64 x.m.o, x.dv, .bool x.m.la]] | _ => []) (by kernel_rfl) (by kernel_rfl) ⟨rfl, rfl, rfl, rfl, rfl, trivial⟩ rfl ?_ ?_
      · skip
        refine s_cons (by intro r0_ r1_ r2_ r3_ r4_ r5_; exact ⟨rfl, fun b w hH hb => exec_q1 hflS rfl hb⟩) ?_
        refine s_cons (by intro r0_ r1_ r2_ r3_ r4_ r5_; exact ⟨rfl, fun b w hH hb => exec_q1 hflS rfl hb⟩) ?_
        refine s_cons (by intro r0_ r1_ r2_ r3_ r4_ r5_; exact ⟨rfl, fun b w hH hb => exec_q1 hflS rfl hb⟩) ?_
        refine s_cons (by intro r0_ r1_ r2_ r3_ r4_ r5_; exact ⟨rfl, fun b w hH hb => exec_load rfl rfl (reads_one ty_uint64 rfl) (hH.row 5 rfl) hb⟩) ?_
        refine s_cons (by intro r4_; exact ⟨rfl, Acts.s (a_does (os' := fun w1 => [selS r4_ (fun u6 => Vec 5 1 encB u6 ([c6])) (emp), emp, Vec 5 1 encB w1 (layU x.m.bi), Vec 5 1 encB vt (layU x.m.t), Vec 5 1 encB y5 L5, cell g1 28 #[.int .i64 x.m.k, .int .i64 x.m.a, .int .i64 x.m.b, .int .u64 x.m.t, .int .u64 x.m.i, .int .u64 x.m.lt, x.ev, .int .u64 x.m.co, .bool x.m.rf, .int .u64 x.m.bi, .int .u64 x.m.bt, .int .i64 x.m.bc, .int .i64 x.m.o, x.dv, .bool x.m.la]]) [2] 1 (ent_of Try.func55 (by kernel_rfl) rfl) (r1_num x.m.bi ⟨by omega, by omega⟩) rfl rfl rfl (fun _ => rfl) rfl rfl rfl) (fun _ => rfl)⟩) ?_
        refine s_cons (by intro w1 r4_; exact ⟨rfl, Acts.s (a_append 4 sl_uint8 okB rfl (layU x.m.bi) (fun w hH => hH.vec 2 rfl okB) (by omega) rfl rfl rfl hB1) (fun _ => rfl)⟩) ?_
        refine s_cons (by intro r0_ r1_ r2_ r3_ r4_ r5_; exact ⟨rfl, fun b w hH hb => exec_q1 hflS rfl hb⟩) ?_
        refine s_cons (by intro r0_ r1_ r2_ r3_ r4_ r5_; exact ⟨rfl, fun b w hH hb => exec_q1 hflS rfl hb⟩) ?_
        refine s_cons (by intro r0_ r1_ r2_ r3_ r4_ r5_; exact ⟨rfl, fun b w hH hb => exec_load rfl rfl (reads_one ty_uint64 rfl) (hH.row 5 rfl) hb⟩) ?_
        refine s_cons (by intro w1 u4 r4_; exact ⟨rfl, Acts.s (a_does (os' := fun w2 => [selS r4_ (fun u6 => Vec 5 1 encB u6 ([c6])) (emp), Vec 5 1 encB w2 (layU x.m.bt), Vec 5 1 encB w1 (layU x.m.bi), Vec 5 1 encB vt (layU x.m.t), Vec 5 1 encB u4 B1, cell g1 28 #[.int .i64 x.m.k, .int .i64 x.m.a, .int .i64 x.m.b, .int .u64 x.m.t, .int .u64 x.m.i, .int .u64 x.m.lt, x.ev, .int .u64 x.m.co, .bool x.m.rf, .int .u64 x.m.bi, .int .u64 x.m.bt, .int .i64 x.m.bc, .int .i64 x.m.o, x.dv, .bool x.m.la]]) [1] 1 (ent_of Try.func55 (by kernel_rfl) rfl) (r1_num x.m.bt ⟨by omega, by omega⟩) rfl rfl rfl (fun _ => rfl) rfl rfl rfl) (fun _ => rfl)⟩) ?_
        refine s_cons (by intro w1 u4 w2 r4_; exact ⟨rfl, Acts.s (a_append 4 sl_uint8 okB rfl (layU x.m.bt) (fun w hH => hH.vec 1 rfl okB) (by omega) rfl rfl rfl hB2) (fun _ => rfl)⟩) ?_
        refine s_cons (by intro r0_ r1_ r2_ r3_ r4_ r5_; exact ⟨rfl, fun b w hH hb => exec_q1 hflS rfl hb⟩) ?_
        refine s_cons (by intro r0_ r1_ r2_ r3_ r4_ r5_; exact ⟨rfl, fun b w hH hb => exec_q1 hflS rfl hb⟩) ?_
        refine s_cons (by intro r0_ r1_ r2_ r3_ r4_ r5_; exact ⟨rfl, fun b w hH hb => exec_load rfl rfl (reads_one ty_int rfl) (hH.row 5 rfl) hb⟩) ?_
        refine s_cons (by intro r0_ r1_ r2_ r3_ r4_ r5_; exact ⟨rfl, fun b w hH hb => exec_conv Try.underlying3 Try.underlying5 (by rw [IntWalk.u8_in _ (by omega)]; exact hc6x) rfl rfl hb⟩) ?_
        refine s_cons (by intro r0_ r1_ r2_ r3_; exact ⟨rfl, Acts.s (Acts.place (val := fun u6 : Value => u6) (t := fun u6 => Vec 5 1 encB u6 ([c6])) (os' := fun u6 => [Vec 5 1 encB u6 ([c6]), selS r2_ (fun w2 => Vec 5 1 encB w2 (layU x.m.bt)) (emp), selS r0_ (fun w1 => Vec 5 1 encB w1 (layU x.m.bi)) (emp), Vec 5 1 encB vt (layU x.m.t), selS r3_ (fun u5 => Vec 5 1 encB u5 B2) (selS r1_ (fun u4 => Vec 5 1 encB u4 B1) (Vec 5 1 encB y5 L5)), cell g1 28 #[.int .i64 x.m.k, .int .i64 x.m.a, .int .i64 x.m.b, .int .u64 x.m.t, .int .u64 x.m.i, .int .u64 x.m.lt, x.ev, .int .u64 x.m.co, .bool x.m.rf, .int .u64 x.m.bi, .int .u64 x.m.bt, .int .i64 x.m.bc, .int .i64 x.m.o, x.dv, .bool x.m.la]]) 0 rfl (by refine a_build1 (e := 5) (t := 26) (enc := encB) (x := .tmp 97) (c := .int .u8 ((c6).toNat : Int)) ?_ ?_ c6 ?_ ?_ ?_; exact sl_uint8; exact okB; exact rfl; exact rfl; exact rfl) (fun _ => rfl)) (fun _ => rfl)⟩) ?_
        refine s_cons (by intro w1 u4 w2 u5 u6; exact ⟨rfl, Acts.s (a_append 4 sl_uint8 okB rfl ([c6]) (fun w hH => hH.vec 0 rfl okB) (by simp; omega) rfl rfl rfl (by rw [← hc6, ← hB2, ← hB1, ← hL6]; simp [layB, putIf])) (fun _ => rfl)⟩) ?_
        exact s_nil
      intro w1 u4 w2 u5 u6 u7
      refine WL2.keep (env' := [(1, .pointer (some ⟨g1, 0, none⟩)), (2, .slice none 0 0), (3, .int .i64 0), (4, .string (bs l)), (5, y5), (99, u7)]) ⟨rfl, rfl, rfl, rfl, rfl, rfl, trivial⟩ ?_
      refine h_q hflS rfl ?_
      refine h_nil ?_
      exact f_midx (u7) 3 ⟨rfl, rfl, rfl, rfl, rfl, trivial⟩ rfl
  intro y6
  refine f_to (d_reg ?_)
  refine h_q hflS rfl ?_
  refine h_val rfl (.int .i64 x.m.o) (fun b w hb hH => exec_load rfl rfl (reads_one ty_int rfl) (hH.row 2 rfl) hb) ?_
  refine h_val rfl (.int .u64 x.m.o) (fun b w hb hH => exec_conv Try.underlying3 Try.underlying22 (IntWalk.u64_in _ (by omega)) rfl rfl hb) ?_
  refine h_act (post := fun p7 => [Vec 5 1 encB vt (layU x.m.t), Vec 5 1 encB p7 L7, cell g1 28 #[.int .i64 x.m.k, .int .i64 x.m.a, .int .i64 x.m.b, .int .u64 x.m.t, .int .u64 x.m.i, .int .u64 x.m.lt, x.ev, .int .u64 x.m.co, .bool x.m.rf, .int .u64 x.m.bi, .int .u64 x.m.bt, .int .i64 x.m.bc, .int .i64 x.m.o, x.dv, .bool x.m.la]]) rfl (a_does (os' := fun p7 => [Vec 5 1 encB vt (layU x.m.t), Vec 5 1 encB p7 L7, cell g1 28 #[.int .i64 x.m.k, .int .i64 x.m.a, .int .i64 x.m.b, .int .u64 x.m.t, .int .u64 x.m.i, .int .u64 x.m.lt, x.ev, .int .u64 x.m.co, .bool x.m.rf, .int .u64 x.m.bi, .int .u64 x.m.bt, .int .i64 x.m.bc, .int .i64 x.m.o, x.dv, .bool x.m.la]]) [1] 0 (ent_of Try.func70 (by kernel_rfl) rfl) (put_does y6 L6 l [111, 102, 102, 115, 101, 116] x.m.o ⟨by omega, by omega⟩ b7 hq7 hll L7 hL7 (by omega)) rfl rfl rfl (fun _ => rfl) rfl rfl rfl) ?_; rintro p7
  refine h_q hflS rfl ?_
  refine h_done (d_seq (d_reg ?_))
  refine h_q hflS rfl ?_
  refine h_act (post := fun _ => [Vec 5 1 encB vt (layU x.m.t), Vec 5 1 encB p7 L7, cell g1 28 #[.int .i64 x.m.k, .int .i64 x.m.a, .int .i64 x.m.b, .int .u64 x.m.t, .int .u64 x.m.i, .int .u64 x.m.lt, x.ev, .int .u64 x.m.co, .bool x.m.rf, .int .u64 x.m.bi, .int .u64 x.m.bt, .int .i64 x.m.bc, .int .i64 x.m.o, x.dv, .bool x.m.la]]) rfl (a_call (ent_of Try.func67 (by kernel_rfl) rfl) (fun w hH => has_any w l [108, 97, 115, 116] b8 hq8 hll) rfl rfl rfl) ?_; rintro ⟨⟩
  refine h_done ?_
  refine d_midx (X := Value) (fun y8 => [(1, .pointer (some ⟨g1, 0, none⟩)), (2, .slice none 0 0), (3, .int .i64 0), (4, .string (bs l)), (5, y8)]) (fun y8 => [Vec 5 1 encB vt (layU x.m.t), Vec 5 1 encB y8 L8, cell g1 28 #[.int .i64 x.m.k, .int .i64 x.m.a, .int .i64 x.m.b, .int .u64 x.m.t, .int .u64 x.m.i, .int .u64 x.m.lt, x.ev, .int .u64 x.m.co, .bool x.m.rf, .int .u64 x.m.bi, .int .u64 x.m.bt, .int .i64 x.m.bc, .int .i64 x.m.o, x.dv, .bool x.m.la]]) ?_ ?_
  · skip
    cases b8
    · skip
      obtain rfl : L7 = L8 := hL8
      refine d_else rfl (d_skip ?_)
      exact f_midx (p7) 0 ⟨rfl, rfl, rfl, rfl, rfl, trivial⟩ rfl
    · skip
      refine d_then rfl (d_reg1 ?_)
      refine h_q hflS rfl ?_
      refine h_val rfl (.bool x.m.la) (fun b w hb hH => exec_load rfl rfl (reads_one ty_bool rfl) (hH.row 2 rfl) hb) ?_
      refine h_act (post := fun _ => [Vec 5 1 encB vt (layU x.m.t), Vec 5 1 encB p7 L7, cell g1 28 #[.int .i64 x.m.k, .int .i64 x.m.a, .int .i64 x.m.b, .int .u64 x.m.t, .int .u64 x.m.i, .int .u64 x.m.lt, x.ev, .int .u64 x.m.co, .bool x.m.rf, .int .u64 x.m.bi, .int .u64 x.m.bt, .int .i64 x.m.bc, .int .i64 x.m.o, x.dv, .bool x.m.la]]) rfl (a_call (ent_of Try.func71 (by kernel_rfl) rfl) (fun w hH => flag8_any w x.m.la f8 hf8) rfl rfl rfl) ?_; rintro ⟨⟩
      refine h_act (X := Value) (val := fun v : Value => v) (post := fun u8 => [Vec 5 1 encB u8 ([f8]), Vec 5 1 encB vt (layU x.m.t), Vec 5 1 encB p7 L7, cell g1 28 #[.int .i64 x.m.k, .int .i64 x.m.a, .int .i64 x.m.b, .int .u64 x.m.t, .int .u64 x.m.i, .int .u64 x.m.lt, x.ev, .int .u64 x.m.co, .bool x.m.rf, .int .u64 x.m.bi, .int .u64 x.m.bt, .int .i64 x.m.bc, .int .i64 x.m.o, x.dv, .bool x.m.la]]) rfl (by refine a_build1 (e := 5) (t := 26) (enc := encB) (x := .tmp 111) (c := .int .u8 ((f8).toNat : Int)) ?_ ?_ f8 ?_ ?_ ?_; exact sl_uint8; exact okB; exact rfl; exact rfl; exact rfl) ?_; rintro u8
      refine h_act (post := fun u9 => [Vec 5 1 encB u8 ([f8]), Vec 5 1 encB vt (layU x.m.t), Vec 5 1 encB u9 L8, cell g1 28 #[.int .i64 x.m.k, .int .i64 x.m.a, .int .i64 x.m.b, .int .u64 x.m.t, .int .u64 x.m.i, .int .u64 x.m.lt, x.ev, .int .u64 x.m.co, .bool x.m.rf, .int .u64 x.m.bi, .int .u64 x.m.bt, .int .i64 x.m.bc, .int .i64 x.m.o, x.dv, .bool x.m.la]]) rfl (a_append 2 sl_uint8 okB rfl ([f8]) (fun w hH => hH.vec 0 rfl okB) (by simp; omega) rfl rfl rfl (by rw [← hf8]; exact hL8)) ?_; rintro u9
      refine h_q hflS rfl ?_
      refine h_nil ?_
      exact f_midx (u9) 1 ⟨rfl, rfl, rfl, rfl, rfl, trivial⟩ rfl
  intro y8
  refine f_to (d_seq (d_reg ?_))
  refine h_q hflS rfl ?_
  refine h_act (post := fun _ => [Vec 5 1 encB vt (layU x.m.t), Vec 5 1 encB y8 L8, cell g1 28 #[.int .i64 x.m.k, .int .i64 x.m.a, .int .i64 x.m.b, .int .u64 x.m.t, .int .u64 x.m.i, .int .u64 x.m.lt, x.ev, .int .u64 x.m.co, .bool x.m.rf, .int .u64 x.m.bi, .int .u64 x.m.bt, .int .i64 x.m.bc, .int .i64 x.m.o, x.dv, .bool x.m.la]]) rfl (a_call (ent_of Try.func67 (by kernel_rfl) rfl) (fun w hH => has_any w l [100, 97, 116, 97] b9 hq9 hll) rfl rfl rfl) ?_; rintro ⟨⟩
  refine h_done ?_
  refine d_midx (X := Value) (fun y9 => [(2, .slice none 0 0), (3, .int .i64 0), (5, y9)]) (fun y9 => [Vec 5 1 encB vt (layU x.m.t), Vec 5 1 encB y9 L9, cell g1 28 #[.int .i64 x.m.k, .int .i64 x.m.a, .int .i64 x.m.b, .int .u64 x.m.t, .int .u64 x.m.i, .int .u64 x.m.lt, x.ev, .int .u64 x.m.co, .bool x.m.rf, .int .u64 x.m.bi, .int .u64 x.m.bt, .int .i64 x.m.bc, .int .i64 x.m.o, x.dv, .bool x.m.la]]) ?_ ?_
  · skip
    cases b9
    · skip
      obtain rfl : L8 = L9 := hL9
      refine d_else rfl (d_skip ?_)
      exact f_midx (y8) 0 ⟨rfl, rfl, rfl, trivial⟩ rfl
    · skip
      refine d_then rfl (d_reg1 ?_)
      refine h_q hflS rfl ?_
      refine h_val rfl (x.dv) (fun b w hb hH => exec_load rfl rfl (reads_one ty_s_uint8 rfl) (hH.row 2 rfl) hb) ?_
      refine h_act (post := fun v12 => [Vec 5 1 encB v12 (layT x.m.d), Vec 5 1 encB vt (layU x.m.t), Vec 5 1 encB y8 L8, cell g1 28 #[.int .i64 x.m.k, .int .i64 x.m.a, .int .i64 x.m.b, .int .u64 x.m.t, .int .u64 x.m.i, .int .u64 x.m.lt, x.ev, .int .u64 x.m.co, .bool x.m.rf, .int .u64 x.m.bi, .int .u64 x.m.bt, .int .i64 x.m.bc, .int .i64 x.m.o, x.dv, .bool x.m.la]]) rfl (a_doesU hU hS (os' := fun v12 => [Vec 5 1 encB v12 (layT x.m.d), Vec 5 1 encB vt (layU x.m.t), Vec 5 1 encB y8 L8, cell g1 28 #[.int .i64 x.m.k, .int .i64 x.m.a, .int .i64 x.m.b, .int .u64 x.m.t, .int .u64 x.m.i, .int .u64 x.m.lt, x.ev, .int .u64 x.m.co, .bool x.m.rf, .int .u64 x.m.bi, .int .u64 x.m.bt, .int .i64 x.m.bc, .int .i64 x.m.o, x.dv, .bool x.m.la]]) [] 0 (ent_of Try.func56 (by kernel_rfl) rfl) (r1_text hx.d (by omega) _ rfl) rfl rfl rfl (fun _ => rfl) rfl rfl rfl) ?_; rintro v12
      refine h_act (post := fun u10 => [Vec 5 1 encB v12 (layT x.m.d), Vec 5 1 encB vt (layU x.m.t), Vec 5 1 encB u10 L9, cell g1 28 #[.int .i64 x.m.k, .int .i64 x.m.a, .int .i64 x.m.b, .int .u64 x.m.t, .int .u64 x.m.i, .int .u64 x.m.lt, x.ev, .int .u64 x.m.co, .bool x.m.rf, .int .u64 x.m.bi, .int .u64 x.m.bt, .int .i64 x.m.bc, .int .i64 x.m.o, x.dv, .bool x.m.la]]) rfl (a_append 2 sl_uint8 okB rfl (layT x.m.d) (fun w hH => hH.vec 0 rfl okB) (by have := layT_len2 hed; omega) rfl rfl rfl hL9) ?_; rintro u10
      refine h_q hflS rfl ?_
      refine h_nil ?_
      exact f_midx (u10) 1 ⟨rfl, rfl, rfl, trivial⟩ rfl
  intro y9
  refine f_to (d_reg ?_)
  refine h_q hflS rfl ?_
  refine h_act (post := fun v13 => [Vec 5 1 encB v13 (encM x.m), Vec 5 1 encB vt (layU x.m.t), Vec 5 1 encB y9 L9, cell g1 28 #[.int .i64 x.m.k, .int .i64 x.m.a, .int .i64 x.m.b, .int .u64 x.m.t, .int .u64 x.m.i, .int .u64 x.m.lt, x.ev, .int .u64 x.m.co, .bool x.m.rf, .int .u64 x.m.bi, .int .u64 x.m.bt, .int .i64 x.m.bc, .int .i64 x.m.o, x.dv, .bool x.m.la]]) rfl (a_makes (os' := fun v13 => [Vec 5 1 encB v13 (encM x.m), Vec 5 1 encB vt (layU x.m.t), Vec 5 1 encB y9 L9, cell g1 28 #[.int .i64 x.m.k, .int .i64 x.m.a, .int .i64 x.m.b, .int .u64 x.m.t, .int .u64 x.m.i, .int .u64 x.m.lt, x.ev, .int .u64 x.m.co, .bool x.m.rf, .int .u64 x.m.bi, .int .u64 x.m.bt, .int .i64 x.m.bc, .int .i64 x.m.o, x.dv, .bool x.m.la]]) [] 0 (ent_of Try.func32 (by kernel_rfl) rfl) (fun w hH => rseal_mk (hH.sl8 1 rfl) (by omega) _ (by rw [hE]; rfl)) rfl rfl rfl (fun _ => rfl) rfl rfl rfl) ?_; rintro v13
  refine h_q hflS rfl ?_
  refine h_done (d_ret ?_)
  exact f_fin2 (.tmp rfl) (.tmp rfl) (fun w h => tells v13 rfl [0] rfl h same_parts) rfl

set_option maxRecDepth 100000 in
theorem rencodeM_bad (w : World) (x : MsgV) (hx : MsgOk w x) (hr : rightM x.m = false) : Calls Try.prog 31 #[.agg #[.int .i64 x.m.k, .int .i64 x.m.a, .int .i64 x.m.b, .int .u64 x.m.t, .int .u64 x.m.i, .int .u64 x.m.lt, x.ev, .int .u64 x.m.co, .bool x.m.rf, .int .u64 x.m.bi, .int .u64 x.m.bt, .int .i64 x.m.bc, .int .i64 x.m.o, x.dv, .bool x.m.la]] w fun e w' => e = .returned (.tuple #[.slice none 0 0, .int .i64 1]) ∧ Below w.heap.size w w' := by
  refine d_in (args := [.agg #[.int .i64 x.m.k, .int .i64 x.m.a, .int .i64 x.m.b, .int .u64 x.m.t, .int .u64 x.m.i, .int .u64 x.m.lt, x.ev, .int .u64 x.m.co, .bool x.m.rf, .int .u64 x.m.bi, .int .u64 x.m.bt, .int .i64 x.m.bc, .int .i64 x.m.o, x.dv, .bool x.m.la]]) 123 Try.func31 rfl rfl rfl ?_
  refine d_reg ?_
  refine h_q hflS rfl ?_
  refine h_act (post := fun g1 => [cell g1 28 #[.int .i64 x.m.k, .int .i64 x.m.a, .int .i64 x.m.b, .int .u64 x.m.t, .int .u64 x.m.i, .int .u64 x.m.lt, x.ev, .int .u64 x.m.co, .bool x.m.rf, .int .u64 x.m.bi, .int .u64 x.m.bt, .int .i64 x.m.bc, .int .i64 x.m.o, x.dv, .bool x.m.la]]) rfl (a_box (cs := #[.int .i64 x.m.k, .int .i64 x.m.a, .int .i64 x.m.b, .int .u64 x.m.t, .int .u64 x.m.i, .int .u64 x.m.lt, x.ev, .int .u64 x.m.co, .bool x.m.rf, .int .u64 x.m.bi, .int .u64 x.m.bt, .int .i64 x.m.bc, .int .i64 x.m.o, x.dv, .bool x.m.la]) rfl rfl rfl) ?_; rintro g1
  refine h_q hflS rfl ?_
  refine h_done (d_seq (d_reg ?_))
  refine h_q hflS rfl ?_
  refine h_val rfl (.agg #[.int .i64 x.m.k, .int .i64 x.m.a, .int .i64 x.m.b, .int .u64 x.m.t, .int .u64 x.m.i, .int .u64 x.m.lt, x.ev, .int .u64 x.m.co, .bool x.m.rf, .int .u64 x.m.bi, .int .u64 x.m.bt, .int .i64 x.m.bc, .int .i64 x.m.o, x.dv, .bool x.m.la]) (fun b w hb hH => exec_load rfl rfl (reads_agg (cs := [.int .i64 x.m.k, .int .i64 x.m.a, .int .i64 x.m.b, .int .u64 x.m.t, .int .u64 x.m.i, .int .u64 x.m.lt, x.ev, .int .u64 x.m.co, .bool x.m.rf, .int .u64 x.m.bi, .int .u64 x.m.bt, .int .i64 x.m.bc, .int .i64 x.m.o, x.dv, .bool x.m.la]) ty_api_Msg rfl) (hH.row 0 rfl) hb) ?_
  refine h_act (post := fun _ => [cell g1 28 #[.int .i64 x.m.k, .int .i64 x.m.a, .int .i64 x.m.b, .int .u64 x.m.t, .int .u64 x.m.i, .int .u64 x.m.lt, x.ev, .int .u64 x.m.co, .bool x.m.rf, .int .u64 x.m.bi, .int .u64 x.m.bt, .int .i64 x.m.bc, .int .i64 x.m.o, x.dv, .bool x.m.la]]) rfl (a_call (ent_of Try.func30 (by kernel_rfl) rfl) (fun w hH => rrightM_any w x (argM0 hx hH) false hr) rfl rfl rfl) ?_; rintro ⟨⟩
  refine h_q hflS rfl ?_
  refine h_done (d_then rfl (d_reg ?_))
  refine h_q hflS rfl ?_
  refine h_done (d_ret (f_then_ret ?_))
  exact f_fin2 (.tmp rfl) (.tmp rfl) (fun w h => ⟨rfl, below0 h.up⟩) rfl
end Go.Proofs.Ytnhcbjlaeaohjaa.Sep
