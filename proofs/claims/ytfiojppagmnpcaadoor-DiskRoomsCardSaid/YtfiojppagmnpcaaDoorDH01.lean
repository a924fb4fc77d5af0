/-
  CmdS · DskD
-/
import Derived.Test.YtfiojppagmnpcaaDoorDB02
import Derived.Test.YtfiojppagmnpcaaDoorDF01
import Derived.Test.YtfiojppagmnpcaaDoorDG01
import Derived.Lib.AppendStr
set_option linter.unusedSimpArgs false
set_option linter.unusedVariables false

namespace Go.Proofs.YtfiojppagmnpcaaDoor.Sep
open Go.RowKit
open Go.Proofs.YtfiojppagmnpcaaDoor.Mem (Dist Blk Chg below0)
section
variable {Q : Exit → Act → World → Prop} {n : Nat} {B : Nat → Prop} {w0 : World} {os : List Ass} {env : List (Nat × Value)} {o : Oper} {v : Value} {l m : List UInt8}
end
section
variable {P : Program} {n : Nat} {w : World} {env : List (Nat × Value)} {o : Oper} {a : Act}
theorem exec_gload {T : TypeId} (hO : OneOf P T) {x : Operand} {p : Addr} {v : Value} (h : w.cell? p = some v) (ho : o.op = .load T x) (hx : evs env x = some (.pointer (some p))) (hF : Fr n a env) : (execOp a.eval o).run P w = .ok (.value v) w := by
  unfold execOp
  simp only [ho, hF.evs hx, Instr.loadAt, Instr.sureAddr, Sem.run_bind, Sem.run_pure, Result.andThen_ok, loadVar, hO.1]
  simp [run_load, h]
end
/-! ## Two ways come together, where a value is a letter -/
section
variable {P : Program} {Q : Exit → Act → World → Prop} {n : Nat} {B : Nat → Prop} {w0 : World} {rs : List Ass} {env : List (Nat × Value)}
end
/-- what came in at the outermost call is there -/
theorem cell_arg {u w0 w : World} {p : Addr} {v : Value} {B : Nat → Prop} {os : List Ass} (h : u.cell? p = some v) (hU : Below u.heap.size u w0) (hS : ∀ k, B k → u.heap.size ≤ k) (hH : Hp B w0 w os) : w.cell? p = some v := by
  have hm : Below u.heap.size w0 w := hH.up.below hU.size hS
  have hb := World.block_lt_of_cell? _ _ h
  rw [(hU.trans hm).cell hb]
  exact h
end Go.Proofs.YtfiojppagmnpcaaDoor.Sep

namespace Go.Proofs.YtfiojppagmnpcaaDoor.Sep
open Go.RowKit
open Go.Proofs.YtfiojppagmnpcaaDoor.Mem (Dist Blk Chg below0)

structure StV where
  what : Int
  a : Int
  b : Int
  name : List UInt8
  to : List UInt8
  A : Option Addr
  c : Nat
  d : List UInt8
  near : Bool
def StV.v (x : StV) : Value := .slice x.A x.d.length x.c
def encSt (x : StV) : List Value := [.int .i64 x.what, .int .i64 x.a, .int .i64 x.b, .string (bs x.name), .string (bs x.to), x.v, .bool x.near]
theorem okSt : EncOf 7 encSt := ⟨fun _ => rfl, fun x v h => by unfold encSt StV.v at h; simp at h; rcases h with rfl | rfl | rfl | rfl | rfl | rfl | rfl <;> rfl⟩
structure StV.ok (w : World) (x : StV) : Prop where
  a : -9223372036854775808 ≤ x.a ∧ x.a ≤ 9223372036854775807
  b : -9223372036854775808 ≤ x.b ∧ x.b ≤ 9223372036854775807
  d : Sl8 w x.v x.d
  le : x.d.length ≤ 140737488351232
def StsRd (w : World) (v : Value) (l : List StV) : Prop := SlRd w 7 v l.length (flat encSt l) ∧ ∀ x, x ∈ l → x.ok w
theorem sts_now {w0 w : World} {os : List Ass} {v : Value} {l : List StV} (h : StsRd w0 v l) (hH : Hp Nil w0 w os) : SlRd w 7 v l.length (flat encSt l) := arg_rdU h.1 (Below.refl _ _) (fun _ h => h.elim) hH
theorem sts_8 {w0 w : World} {os : List Ass} {v : Value} {l : List StV} {x : StV} (h : StsRd w0 v l) (hx : x ∈ l) (hH : Hp Nil w0 w os) : Sl8 w x.v x.d := arg8 (h.2 x hx).d (Below.refl _ _) (fun _ h => h.elim) hH
/-- the law's table of names -/
def nmL (i : Nat) : List UInt8 := nm4.getD i []
theorem nm_in {i : Nat} (h : i < 4) : nmL i ∈ nm4 := by
  match i, h with
  | 0, _ => decide
  | 1, _ => decide
  | 2, _ => decide
  | 3, _ => decide
def Names (w : World) : Prop := ∀ i, i < 4 → w.cell? ⟨0, i, none⟩ = some (.string (bs (nmL i)))
theorem Names.up {w0 w : World} {os : List Ass} (h : Names w0) (hH : Hp Nil w0 w os) : Names w := fun i hi => cell_arg (h i hi) (Below.refl _ _) (fun _ h => h.elim) hH
theorem pick4 (a : Int) : ∃ n : Nat, a % 4 = (n : Int) ∧ n < 4 := ⟨(a % 4).toNat, by have := Int.emod_nonneg a (show (4 : Int) ≠ 0 by decide); omega, by have := Int.emod_lt_of_pos a (show (0 : Int) < 4 by decide); omega⟩

set_option maxRecDepth 100000 in
theorem diskrooms_true (w : World) (room : Int) (hroom : -9223372036854775808 ≤ room ∧ room ≤ 9223372036854775807) (v : Value) (l : List StV) (hv : StsRd w v l) (hl : l.length ≤ 9223372036854775807) (hnm : Names w) : Calls Tryd.prog 3 #[.int .i64 room, v] w fun e w' => e = .returned (.bool true) ∧ Below w.heap.size w w' := by
  obtain ⟨R, hRm⟩ : ∃ R : Nat, room % 400 = (R : Int) := ⟨(room % 400).toNat, by have := Int.emod_nonneg room (show (400 : Int) ≠ 0 by decide); omega⟩
  have hR4 : R < 400 := by have := Int.emod_lt_of_pos room (show (0 : Int) < 400 by decide); omega
  refine d_in (args := [.int .i64 room, v]) 115 Tryd.func3 rfl rfl rfl ?_
  refine d_reg ?_
  refine h_q hflS rfl ?_
  refine h_done (d_reg ?_)
  refine h_q hflS rfl ?_
  refine h_act (post := fun _ => []) rfl (a_call (ent_of Tryd.func4 (by kernel_rfl) rfl) (fun w hH => pick w room 400 hroom (by decide) hRm) rfl rfl rfl) ?_; rintro ⟨⟩
  refine h_q hflS rfl ?_
  refine h_done (d_reg ?_)
  refine h_q hflS rfl ?_
  refine h_act (post := fun p => [DiskT p (newD (R : Int))]) rfl (a_does (os' := fun p => [DiskT p (newD (R : Int))]) [] 0 (ent_of Tryd.func5 (by kernel_rfl) rfl) (disk_new (R : Int) (by omega)) rfl rfl rfl (fun _ => rfl) rfl rfl rfl) ?_; rintro p
  refine h_q hflS rfl ?_
  refine h_done (d_seq (d_reg ?_))
  refine h_q hflS rfl ?_
  refine h_act (post := fun _ => [DiskT p (newD (R : Int))]) rfl (a_call (ent_of Tryd.func6 (by kernel_rfl) rfl) (fun w hH => known7_true w) rfl rfl rfl) ?_; rintro ⟨⟩
  refine h_q hflS rfl ?_
  refine h_val rfl (.bool false) (fun b w hb hH => exec_cmp rfl rfl rfl (cmp_neq_f (by decide)) hb) ?_
  refine h_q hflS rfl ?_
  refine h_val rfl (.bool false) (fun b w hb hH => exec_pnil_eql (by kernel_rfl) rfl rfl rfl hb) ?_
  refine h_q hflS rfl ?_
  refine h_done (d_else rfl (d_skip (f_to (d_seq (d_reg ?_)))))
  refine h_q hflS rfl ?_
  refine h_done (d_block ?_)
  refine d_loop (α := Nat × DiskD) (fun ⟨i, d⟩ => [(1, v), (4, .bool false), (0, .int .i64 (R : Int)), (5, .pointer (some ⟨p, 0, none⟩)), (7, .int .i64 ((i : Nat) : Int))]) (fun ⟨i, d⟩ => [DiskT p d]) (fun ⟨i, d⟩ => i ≤ l.length ∧ i ≤ 100 ∧ RoomI d R (2 * i)) (fun ⟨i, d⟩ => l.length - i) (0, newD (R : Int)) ⟨Nat.zero_le _, Nat.zero_le _, roomI_new⟩ ⟨rfl, rfl, rfl, rfl, rfl, trivial⟩ rfl ?_
  rintro ⟨i, d⟩ hI
  refine WC2.at_ (env' := [(1, v), (4, .bool false), (0, .int .i64 (R : Int)), (5, .pointer (some ⟨p, 0, none⟩)), (7, .int .i64 ((i : Nat) : Int))]) (rs' := [DiskT p d]) ⟨rfl, rfl, rfl, rfl, rfl, trivial⟩ rfl ?_
  have hI1 : i ≤ l.length := hI.1
  have hI2 : i ≤ 100 := hI.2.1
  have hR : RoomI d R (2 * i) := hI.2.2
  clear hI
  refine d_seq ?_
  have hc : (i < l.length ∧ i < 100) ∨ (i < l.length ∧ 100 ≤ i) ∨ l.length ≤ i := by omega
  rcases hc with ⟨hi, hj⟩ | ⟨hi, hj⟩ | hi
  · skip
    obtain ⟨x, hx⟩ : ∃ y, l[i]? = some y := ⟨_, List.getElem?_eq_getElem hi⟩
    have hmx := List.mem_of_getElem? hx
    obtain ⟨n1, hp1, hn1⟩ := pick4 x.a
    have hfit := hR.fit (by omega) (by omega)
    have hus := hR.used
    have hdl := (hv.2 x hmx).le
    refine d_reg ?_
    refine h_q hflS rfl ?_
    refine h_val rfl (.int .i64 (l.length : Int)) (fun b w hb hH => e_slen (sts_now hv hH) Tryd.underlying22 rfl rfl hb) ?_
    refine h_val rfl (.bool true) (fun b w hb hH => exec_cmp rfl rfl rfl (cmp_lss_t (by omega)) hb) ?_
    refine h_q hflS rfl ?_
    refine h_val rfl (.bool true) (fun b w hb hH => exec_cmp rfl rfl rfl (cmp_lss_t (by omega)) hb) ?_
    refine h_q hflS rfl ?_
    refine h_done (d_then rfl (d_skip (f_to (d_seq (d_block (d_reg ?_))))))
    refine h_q hflS rfl ?_
    refine h_act (post := fun _ => [DiskT p d]) rfl (a_does (os' := fun _ => [DiskT p d]) [0] 0 (ent_of Tryd.func7 (by kernel_rfl) rfl) (disk_used hR.down hfit hR.usedD) rfl rfl rfl (fun _ => rfl) rfl rfl rfl) ?_; rintro ⟨⟩
    refine h_q hflS rfl ?_
    refine h_done (d_reg ?_)
    refine h_q hflS rfl ?_
    refine h_act (post := fun _ => [DiskT p d]) rfl (a_does (os' := fun _ => [DiskT p d]) [0] 0 (ent_of Tryd.func8 (by kernel_rfl) rfl) (disk_pending rfl) rfl rfl rfl (fun _ => rfl) rfl rfl rfl) ?_; rintro ⟨⟩
    refine h_q hflS rfl ?_
    refine h_done ?_
    have hf : usedF d.now + x.d.length ≤ R ∨ R < usedF d.now + x.d.length := by omega
    rcases hf with hf | hf
    · skip
      have hR2 := (hR.app (nm_in hn1) hf).2
      have hu2 := hR2.used
      refine d_seq ?_
      refine d_parS 15 2 [⟨.quiet, [none, none], fun _ => .pointer (some ⟨p, 0, none⟩), []⟩, ⟨.quiet, [none, none], fun _ => v, []⟩, ⟨.quiet, [none, none], fun _ => .int .i64 ((i : Nat) : Int), []⟩, ⟨.quiet, [none, none], fun _ => elp v (i * 7), [1, 2]⟩, ⟨.quiet, [none, none], fun _ => elp v (i * 7 + 1), [3]⟩, ⟨.quiet, [none, none], fun _ => .int .i64 x.a, [4]⟩, ⟨.actv 0, [some false, some false], fun _ => .int .i64 (n1 : Int), [5]⟩, ⟨.quiet, [some true, none], fun _ => .pointer (some ⟨0, 0 + n1, none⟩), [6]⟩, ⟨.quiet, [some true, none], fun _ => .string (bs (nmL n1)), [7]⟩, ⟨.quiet, [none, none], fun _ => v, []⟩, ⟨.quiet, [none, none], fun _ => .int .i64 ((i : Nat) : Int), []⟩, ⟨.quiet, [none, none], fun _ => elp v (i * 7), [9, 10]⟩, ⟨.quiet, [none, none], fun _ => elp v (i * 7 + 5), [11]⟩, ⟨.quiet, [none, none], fun _ => .slice x.A x.d.length x.c, [12]⟩, ⟨.actv 1, [some true, some false], fun _ => .int .i64 0, [0, 8, 13]⟩] [(1, v), (4, .bool false), (0, .int .i64 (R : Int)), (5, .pointer (some ⟨p, 0, none⟩)), (7, .int .i64 ((i : Nat) : Int)), (29, .int .i64 ((i : Nat) : Int)), (30, v), (31, .int .i64 (l.length : Int)), (32, .bool true), (33, .bool true), (34, .int .i64 ((i : Nat) : Int)), (35, .bool true), (36, .bool true), (39, .pointer (some ⟨p, 0, none⟩)), (40, .int .i64 ((usedF d.now : Nat) : Int)), (8, .int .i64 ((usedF d.now : Nat) : Int)), (41, .pointer (some ⟨p, 0, none⟩)), (42, .int .i64 ((d.wait.length : Nat) : Int)), (9, .int .i64 ((d.wait.length : Nat) : Int))] (fun ρ => match ρ with | [r0, r1] => [selS r1 (fun _ => DiskT p (doesD d (.app (nmL n1) x.d))) (DiskT p d)] | _ => []) (by kernel_rfl) (by kernel_rfl) ⟨rfl, rfl, rfl, rfl, rfl, rfl, rfl, rfl, rfl, rfl, rfl, rfl, rfl, rfl, rfl, rfl, rfl, rfl, rfl, trivial⟩ rfl ?_ ?_
      · skip
        refine s_cons (by intro r0_ r1_; exact ⟨rfl, fun b w hH hb => exec_q1 hflS rfl hb⟩) ?_
        refine s_cons (by intro r0_ r1_; exact ⟨rfl, fun b w hH hb => exec_q1 hflS rfl hb⟩) ?_
        refine s_cons (by intro r0_ r1_; exact ⟨rfl, fun b w hH hb => exec_q1 hflS rfl hb⟩) ?_
        refine s_cons (by intro r0_ r1_; exact ⟨rfl, fun b w hH hb => e_sidx okSt (sts_now hv hH) sl_bursarlaw7_Step (j := i) hx rfl rfl rfl hb⟩) ?_
        refine s_cons (by intro r0_ r1_; exact ⟨rfl, fun b w hH hb => e_sfield okSt (by decide) (sts_now hv hH) (j := i) hx fd_bursarlaw7_Step_1 rfl rfl hb⟩) ?_
        refine s_cons (by intro r0_ r1_; exact ⟨rfl, fun b w hH hb => e_sload okSt (by decide) (sts_now hv hH) (j := i) hx ty_int (off := 1) rfl rfl rfl hb⟩) ?_
        refine s_cons (by exact ⟨rfl, Acts.su (a_call (ent_of Tryd.func4 (by kernel_rfl) rfl) (fun w hH => pick w x.a 4 (hv.2 x hmx).a (by decide) hp1) rfl rfl rfl) rfl⟩) ?_
        refine s_cons (by intro v0_ r1_; exact ⟨rfl, fun b w hH hb => exec_idx (off := 0) (k := n1) (ix_of_4_string n1 hn1) rfl rfl rfl hb⟩) ?_
        refine s_cons (by intro v0_ r1_; exact ⟨rfl, fun b w hH hb => exec_gload ty_string (by rw [Nat.zero_add]; exact hnm.up hH n1 hn1) rfl rfl hb⟩) ?_
        refine s_cons (by intro r0_ r1_; exact ⟨rfl, fun b w hH hb => exec_q1 hflS rfl hb⟩) ?_
        refine s_cons (by intro r0_ r1_; exact ⟨rfl, fun b w hH hb => exec_q1 hflS rfl hb⟩) ?_
        refine s_cons (by intro r0_ r1_; exact ⟨rfl, fun b w hH hb => e_sidx okSt (sts_now hv hH) sl_bursarlaw7_Step (j := i) hx rfl rfl rfl hb⟩) ?_
        refine s_cons (by intro r0_ r1_; exact ⟨rfl, fun b w hH hb => e_sfield okSt (by decide) (sts_now hv hH) (j := i) hx fd_bursarlaw7_Step_5 rfl rfl hb⟩) ?_
        refine s_cons (by intro r0_ r1_; exact ⟨rfl, fun b w hH hb => e_sload okSt (by decide) (sts_now hv hH) (j := i) hx ty_s_uint8 (off := 5) rfl rfl rfl hb⟩) ?_
        refine s_cons (by intro v0_; exact ⟨rfl, Acts.su (a_doesU (Below.refl _ _) (fun _ h => h.elim) (os' := fun _ => [DiskT p (doesD d (.app (nmL n1) x.d))]) [0] 0 (ent_of Tryd.func9 (by kernel_rfl) rfl) (disk_appendU w hfit (hv.2 x hmx).d (hv.2 x hmx).le (hR.app (nm_in hn1) hf).1) rfl rfl rfl (fun _ => rfl) rfl rfl rfl) rfl⟩) ?_
        exact s_nil
      intro v0_ v1_
      refine WL2.keep (env' := [(1, v), (4, .bool false), (0, .int .i64 (R : Int)), (5, .pointer (some ⟨p, 0, none⟩)), (7, .int .i64 ((i : Nat) : Int)), (29, .int .i64 ((i : Nat) : Int)), (30, v), (31, .int .i64 (l.length : Int)), (32, .bool true), (33, .bool true), (34, .int .i64 ((i : Nat) : Int)), (35, .bool true), (36, .bool true), (39, .pointer (some ⟨p, 0, none⟩)), (40, .int .i64 ((usedF d.now : Nat) : Int)), (8, .int .i64 ((usedF d.now : Nat) : Int)), (41, .pointer (some ⟨p, 0, none⟩)), (42, .int .i64 ((d.wait.length : Nat) : Int)), (9, .int .i64 ((d.wait.length : Nat) : Int)), (43, .pointer (some ⟨p, 0, none⟩)), (44, v), (45, .int .i64 ((i : Nat) : Int)), (46, elp v (i * 7)), (47, elp v (i * 7 + 1)), (48, .int .i64 x.a), (49, .int .i64 (n1 : Int)), (50, .pointer (some ⟨0, 0 + n1, none⟩)), (51, .string (bs (nmL n1))), (52, v), (53, .int .i64 ((i : Nat) : Int)), (54, elp v (i * 7)), (55, elp v (i * 7 + 5)), (56, .slice x.A x.d.length x.c), (57, .int .i64 0)]) ⟨rfl, rfl, rfl, rfl, rfl, rfl, rfl, rfl, rfl, rfl, rfl, rfl, rfl, rfl, rfl, rfl, rfl, rfl, rfl, rfl, rfl, rfl, rfl, rfl, rfl, rfl, rfl, rfl, rfl, rfl, rfl, rfl, rfl, rfl, trivial⟩ ?_
      refine h_q hflS rfl ?_
      refine h_nil (f_to (d_reg ?_))
      refine h_q hflS rfl ?_
      refine h_val rfl (elp v (i * 7)) (fun b w hb hH => e_sidx okSt (sts_now hv hH) sl_bursarlaw7_Step (j := i) hx rfl rfl rfl hb) ?_
      refine h_val rfl (elp v (i * 7 + 5)) (fun b w hb hH => e_sfield okSt (by decide) (sts_now hv hH) (j := i) hx fd_bursarlaw7_Step_5 rfl rfl hb) ?_
      refine h_val rfl (.slice x.A x.d.length x.c) (fun b w hb hH => e_sload okSt (by decide) (sts_now hv hH) (j := i) hx ty_s_uint8 (off := 5) rfl rfl rfl hb) ?_
      refine h_val rfl (.int .i64 (x.d.length : Int)) (fun b w hb hH => e_slen ((sts_8 hv hmx hH).rd) Tryd.underlying32 rfl rfl hb) ?_
      refine h_val rfl (.int .i64 ((usedF d.now + x.d.length : Nat) : Int)) (fun b w hb hH => exec_ar rfl rfl rfl rfl (by rw [IntWalk.i64_in _ (by omega)]; omega) hb) ?_
      refine h_q hflS rfl ?_
      refine h_val rfl (.bool true) (fun b w hb hH => exec_cmp rfl rfl rfl (cmp_leq_t (by omega)) hb) ?_
      refine h_q hflS rfl ?_
      refine h_done (d_seq (d_reg ?_))
      refine h_q hflS rfl ?_
      refine h_val rfl (.bool true) (fun b w hb hH => exec_cmp rfl rfl rfl (cmp_eql_t (by decide)) hb) ?_
      refine h_q hflS rfl ?_
      refine h_val rfl (.bool false) (fun b w hb hH => exec_nes (neB true true) rfl rfl rfl hb) ?_
      refine h_q hflS rfl ?_
      refine h_val rfl (.bool false) (fun b w hb hH => exec_cmp rfl rfl rfl (cmp_neq_f (by decide)) hb) ?_
      refine h_q hflS rfl ?_
      refine h_act (post := fun _ => [DiskT p (doesD d (.app (nmL n1) x.d))]) rfl (a_does (os' := fun _ => [DiskT p (doesD d (.app (nmL n1) x.d))]) [0] 0 (ent_of Tryd.func7 (by kernel_rfl) rfl) (disk_used hR2.down (hR2.fit (by omega) (by omega)) hR2.usedD) rfl rfl rfl (fun _ => rfl) rfl rfl rfl) ?_; rintro ⟨⟩
      refine h_q hflS rfl ?_
      refine h_val rfl (.bool false) (fun b w hb hH => exec_cmp rfl rfl rfl (cmp_gtr_f (by omega)) hb) ?_
      refine h_q hflS rfl ?_
      refine h_done (d_else rfl (d_skip (f_to ?_)))
      obtain ⟨z5, hz5⟩ : ∃ z, Int.tmod x.b 5 = z := ⟨_, rfl⟩
      rcases Classical.em (z5 = 0) with hz | hz
      · skip
        obtain ⟨n2, hp2, hn2⟩ := pick4 x.b
        obtain ⟨d3, e3, he3, hR3⟩ := RoomI.del (n := nmL n2) hR2
        refine d_reg ?_
        refine h_q hflS rfl ?_
        refine h_val rfl (elp v (i * 7)) (fun b w hb hH => e_sidx okSt (sts_now hv hH) sl_bursarlaw7_Step (j := i) hx rfl rfl rfl hb) ?_
        refine h_val rfl (elp v (i * 7 + 2)) (fun b w hb hH => e_sfield okSt (by decide) (sts_now hv hH) (j := i) hx fd_bursarlaw7_Step_2 rfl rfl hb) ?_
        refine h_val rfl (.int .i64 x.b) (fun b w hb hH => e_sload okSt (by decide) (sts_now hv hH) (j := i) hx ty_int (off := 2) rfl rfl rfl hb) ?_
        refine h_val rfl (.int .i64 z5) (fun b w hb hH => exec_remI rfl rfl rfl (by decide) hz5 hb) ?_
        refine h_val rfl (.bool true) (fun b w hb hH => exec_cmp rfl rfl rfl (cmp_eql_t hz) hb) ?_
        refine h_done (d_then rfl (d_reg1 ?_))
        refine h_q hflS rfl ?_
        refine h_val rfl (elp v (i * 7)) (fun b w hb hH => e_sidx okSt (sts_now hv hH) sl_bursarlaw7_Step (j := i) hx rfl rfl rfl hb) ?_
        refine h_val rfl (elp v (i * 7 + 2)) (fun b w hb hH => e_sfield okSt (by decide) (sts_now hv hH) (j := i) hx fd_bursarlaw7_Step_2 rfl rfl hb) ?_
        refine h_val rfl (.int .i64 x.b) (fun b w hb hH => e_sload okSt (by decide) (sts_now hv hH) (j := i) hx ty_int (off := 2) rfl rfl rfl hb) ?_
        refine h_act (post := fun _ => [DiskT p (doesD d (.app (nmL n1) x.d))]) rfl (a_call (ent_of Tryd.func4 (by kernel_rfl) rfl) (fun w hH => pick w x.b 4 (hv.2 x hmx).b (by decide) hp2) rfl rfl rfl) ?_; rintro ⟨⟩
        refine h_val rfl (.pointer (some ⟨0, 0 + n2, none⟩)) (fun b w hb hH => exec_idx (off := 0) (k := n2) (ix_of_4_string n2 hn2) rfl rfl rfl hb) ?_
        refine h_val rfl (.string (bs (nmL n2))) (fun b w hb hH => exec_gload ty_string (by rw [Nat.zero_add]; exact hnm.up hH n2 hn2) rfl rfl hb) ?_
        refine h_act (post := fun _ => [DiskT p d3]) rfl (a_does (os' := fun _ => [DiskT p d3]) [0] 0 (ent_of Tryd.func10 (by kernel_rfl) rfl) (disk_remove (hR2.fit (by omega) (by omega)) he3) rfl rfl rfl (fun _ => rfl) rfl rfl rfl) ?_; rintro ⟨⟩
        refine h_nil (f_block (f_to ?_))
        refine WC2.keep (env' := [(1, v), (4, .bool false), (0, .int .i64 (R : Int)), (5, .pointer (some ⟨p, 0, none⟩)), (7, .int .i64 ((i : Nat) : Int)), (29, .int .i64 ((i : Nat) : Int)), (30, v), (31, .int .i64 (l.length : Int)), (32, .bool true), (33, .bool true), (34, .int .i64 ((i : Nat) : Int)), (35, .bool true), (36, .bool true), (39, .pointer (some ⟨p, 0, none⟩)), (40, .int .i64 ((usedF d.now : Nat) : Int)), (8, .int .i64 ((usedF d.now : Nat) : Int)), (41, .pointer (some ⟨p, 0, none⟩)), (42, .int .i64 ((d.wait.length : Nat) : Int)), (9, .int .i64 ((d.wait.length : Nat) : Int)), (43, .pointer (some ⟨p, 0, none⟩)), (44, v), (45, .int .i64 ((i : Nat) : Int)), (46, elp v (i * 7)), (47, elp v (i * 7 + 1)), (48, .int .i64 x.a), (49, .int .i64 (n1 : Int)), (50, .pointer (some ⟨0, 0 + n1, none⟩)), (51, .string (bs (nmL n1))), (52, v), (53, .int .i64 ((i : Nat) : Int)), (54, elp v (i * 7)), (55, elp v (i * 7 + 5)), (56, .slice x.A x.d.length x.c), (57, .int .i64 0), (10, .int .i64 0), (58, .int .i64 ((usedF d.now : Nat) : Int)), (59, v), (60, .int .i64 ((i : Nat) : Int)), (61, elp v (i * 7)), (62, elp v (i * 7 + 5)), (63, .slice x.A x.d.length x.c), (64, .int .i64 (x.d.length : Int)), (65, .int .i64 ((usedF d.now + x.d.length : Nat) : Int)), (66, .int .i64 (R : Int)), (67, .bool true), (11, .bool true), (68, .int .i64 0), (69, .bool true), (70, .bool true), (71, .bool false), (72, .bool false), (73, .int .i64 0), (74, .bool false), (75, .bool false), (76, undef), (77, undef), (78, undef), (79, undef), (80, undef), (81, undef), (82, undef), (83, undef), (84, undef), (85, undef), (86, undef), (87, undef), (88, undef), (89, undef), (90, .bool false), (91, .bool false), (92, .bool false), (93, .pointer (some ⟨p, 0, none⟩)), (94, .int .i64 ((usedF (doesD d (.app (nmL n1) x.d)).now : Nat) : Int)), (95, .int .i64 (R : Int)), (96, .bool false), (97, .bool false), (98, v), (99, .int .i64 ((i : Nat) : Int)), (100, elp v (i * 7)), (101, elp v (i * 7 + 2)), (102, .int .i64 x.b), (103, .int .i64 z5), (104, .bool true), (105, .pointer (some ⟨p, 0, none⟩)), (106, v), (107, .int .i64 ((i : Nat) : Int)), (108, elp v (i * 7)), (109, elp v (i * 7 + 2)), (110, .int .i64 x.b), (111, .int .i64 (n2 : Int)), (112, .pointer (some ⟨0, 0 + n2, none⟩)), (113, .string (bs (nmL n2)))]) ⟨rfl, rfl, rfl, rfl, rfl, rfl, rfl, rfl, rfl, rfl, rfl, rfl, rfl, rfl, rfl, rfl, rfl, rfl, rfl, rfl, rfl, rfl, rfl, rfl, rfl, rfl, rfl, rfl, rfl, rfl, rfl, rfl, rfl, rfl, rfl, rfl, rfl, rfl, rfl, rfl, rfl, rfl, rfl, rfl, rfl, rfl, rfl, rfl, rfl, rfl, rfl, rfl, rfl, rfl, rfl, rfl, rfl, rfl, rfl, rfl, rfl, rfl, rfl, rfl, rfl, rfl, rfl, rfl, rfl, rfl, rfl, rfl, rfl, rfl, rfl, rfl, rfl, rfl, rfl, rfl, rfl, rfl, rfl, rfl, rfl, rfl, rfl, rfl, rfl, rfl, rfl, rfl, trivial⟩ ?_
        refine d_reg1 ?_
        refine h_q hflS rfl ?_
        refine h_val rfl (.int .i64 ((i + 1 : Nat) : Int)) (fun b w hb hH => exec_ar rfl rfl rfl rfl (by rw [IntWalk.i64_in _ (by omega)]; omega) hb) ?_
        refine h_q hflS rfl ?_
        refine h_nil ?_
        exact f_again (i + 1, d3) 0 ⟨hi, by omega, hR3⟩ (show l.length - (i + 1) < l.length - i by omega) ⟨rfl, rfl, rfl, rfl, rfl, trivial⟩ rfl
      · skip
        refine d_reg ?_
        refine h_q hflS rfl ?_
        refine h_val rfl (elp v (i * 7)) (fun b w hb hH => e_sidx okSt (sts_now hv hH) sl_bursarlaw7_Step (j := i) hx rfl rfl rfl hb) ?_
        refine h_val rfl (elp v (i * 7 + 2)) (fun b w hb hH => e_sfield okSt (by decide) (sts_now hv hH) (j := i) hx fd_bursarlaw7_Step_2 rfl rfl hb) ?_
        refine h_val rfl (.int .i64 x.b) (fun b w hb hH => e_sload okSt (by decide) (sts_now hv hH) (j := i) hx ty_int (off := 2) rfl rfl rfl hb) ?_
        refine h_val rfl (.int .i64 z5) (fun b w hb hH => exec_remI rfl rfl rfl (by decide) hz5 hb) ?_
        refine h_val rfl (.bool false) (fun b w hb hH => exec_cmp rfl rfl rfl (cmp_eql_f hz) hb) ?_
        refine h_done (d_else rfl (d_skip (f_block (f_to (d_reg1 ?_)))))
        refine h_q hflS rfl ?_
        refine h_val rfl (.int .i64 ((i + 1 : Nat) : Int)) (fun b w hb hH => exec_ar rfl rfl rfl rfl (by rw [IntWalk.i64_in _ (by omega)]; omega) hb) ?_
        refine h_q hflS rfl ?_
        refine h_nil ?_
        exact f_again (i + 1, doesD d (.app (nmL n1) x.d)) 0 ⟨hi, by omega, hR2.next⟩ (show l.length - (i + 1) < l.length - i by omega) ⟨rfl, rfl, rfl, rfl, rfl, trivial⟩ rfl
    · skip
      have hR2 := hR.next
      refine d_seq ?_
      refine d_parS 15 2 [⟨.quiet, [none, none], fun _ => .pointer (some ⟨p, 0, none⟩), []⟩, ⟨.quiet, [none, none], fun _ => v, []⟩, ⟨.quiet, [none, none], fun _ => .int .i64 ((i : Nat) : Int), []⟩, ⟨.quiet, [none, none], fun _ => elp v (i * 7), [1, 2]⟩, ⟨.quiet, [none, none], fun _ => elp v (i * 7 + 1), [3]⟩, ⟨.quiet, [none, none], fun _ => .int .i64 x.a, [4]⟩, ⟨.actv 0, [some false, some false], fun _ => .int .i64 (n1 : Int), [5]⟩, ⟨.quiet, [some true, none], fun _ => .pointer (some ⟨0, 0 + n1, none⟩), [6]⟩, ⟨.quiet, [some true, none], fun _ => .string (bs (nmL n1)), [7]⟩, ⟨.quiet, [none, none], fun _ => v, []⟩, ⟨.quiet, [none, none], fun _ => .int .i64 ((i : Nat) : Int), []⟩, ⟨.quiet, [none, none], fun _ => elp v (i * 7), [9, 10]⟩, ⟨.quiet, [none, none], fun _ => elp v (i * 7 + 5), [11]⟩, ⟨.quiet, [none, none], fun _ => .slice x.A x.d.length x.c, [12]⟩, ⟨.actv 1, [some true, some false], fun _ => .int .i64 2, [0, 8, 13]⟩] [(1, v), (4, .bool false), (0, .int .i64 (R : Int)), (5, .pointer (some ⟨p, 0, none⟩)), (7, .int .i64 ((i : Nat) : Int)), (29, .int .i64 ((i : Nat) : Int)), (30, v), (31, .int .i64 (l.length : Int)), (32, .bool true), (33, .bool true), (34, .int .i64 ((i : Nat) : Int)), (35, .bool true), (36, .bool true), (39, .pointer (some ⟨p, 0, none⟩)), (40, .int .i64 ((usedF d.now : Nat) : Int)), (8, .int .i64 ((usedF d.now : Nat) : Int)), (41, .pointer (some ⟨p, 0, none⟩)), (42, .int .i64 ((d.wait.length : Nat) : Int)), (9, .int .i64 ((d.wait.length : Nat) : Int))] (fun ρ => match ρ with | [r0, r1] => [DiskT p d] | _ => []) (by kernel_rfl) (by kernel_rfl) ⟨rfl, rfl, rfl, rfl, rfl, rfl, rfl, rfl, rfl, rfl, rfl, rfl, rfl, rfl, rfl, rfl, rfl, rfl, rfl, trivial⟩ rfl ?_ ?_
      · skip
        refine s_cons (by intro r0_ r1_; exact ⟨rfl, fun b w hH hb => exec_q1 hflS rfl hb⟩) ?_
        refine s_cons (by intro r0_ r1_; exact ⟨rfl, fun b w hH hb => exec_q1 hflS rfl hb⟩) ?_
        refine s_cons (by intro r0_ r1_; exact ⟨rfl, fun b w hH hb => exec_q1 hflS rfl hb⟩) ?_
        refine s_cons (by intro r0_ r1_; exact ⟨rfl, fun b w hH hb => e_sidx okSt (sts_now hv hH) sl_bursarlaw7_Step (j := i) hx rfl rfl rfl hb⟩) ?_
        refine s_cons (by intro r0_ r1_; exact ⟨rfl, fun b w hH hb => e_sfield okSt (by decide) (sts_now hv hH) (j := i) hx fd_bursarlaw7_Step_1 rfl rfl hb⟩) ?_
        refine s_cons (by intro r0_ r1_; exact ⟨rfl, fun b w hH hb => e_sload okSt (by decide) (sts_now hv hH) (j := i) hx ty_int (off := 1) rfl rfl rfl hb⟩) ?_
        refine s_cons (by exact ⟨rfl, Acts.su (a_call (ent_of Tryd.func4 (by kernel_rfl) rfl) (fun w hH => pick w x.a 4 (hv.2 x hmx).a (by decide) hp1) rfl rfl rfl) rfl⟩) ?_
        refine s_cons (by intro v0_ r1_; exact ⟨rfl, fun b w hH hb => exec_idx (off := 0) (k := n1) (ix_of_4_string n1 hn1) rfl rfl rfl hb⟩) ?_
        refine s_cons (by intro v0_ r1_; exact ⟨rfl, fun b w hH hb => exec_gload ty_string (by rw [Nat.zero_add]; exact hnm.up hH n1 hn1) rfl rfl hb⟩) ?_
        refine s_cons (by intro r0_ r1_; exact ⟨rfl, fun b w hH hb => exec_q1 hflS rfl hb⟩) ?_
        refine s_cons (by intro r0_ r1_; exact ⟨rfl, fun b w hH hb => exec_q1 hflS rfl hb⟩) ?_
        refine s_cons (by intro r0_ r1_; exact ⟨rfl, fun b w hH hb => e_sidx okSt (sts_now hv hH) sl_bursarlaw7_Step (j := i) hx rfl rfl rfl hb⟩) ?_
        refine s_cons (by intro r0_ r1_; exact ⟨rfl, fun b w hH hb => e_sfield okSt (by decide) (sts_now hv hH) (j := i) hx fd_bursarlaw7_Step_5 rfl rfl hb⟩) ?_
        refine s_cons (by intro r0_ r1_; exact ⟨rfl, fun b w hH hb => e_sload okSt (by decide) (sts_now hv hH) (j := i) hx ty_s_uint8 (off := 5) rfl rfl rfl hb⟩) ?_
        refine s_cons (by intro v0_; exact ⟨rfl, Acts.su (a_doesU (Below.refl _ _) (fun _ h => h.elim) (os' := fun _ => [DiskT p d]) [0] 0 (ent_of Tryd.func9 (by kernel_rfl) rfl) (disk_appendU w hfit (hv.2 x hmx).d (hv.2 x hmx).le (hR.full (nm_in hn1) hf)) rfl rfl rfl (fun _ => rfl) rfl rfl rfl) rfl⟩) ?_
        exact s_nil
      intro v0_ v1_
      refine WL2.keep (env' := [(1, v), (4, .bool false), (0, .int .i64 (R : Int)), (5, .pointer (some ⟨p, 0, none⟩)), (7, .int .i64 ((i : Nat) : Int)), (29, .int .i64 ((i : Nat) : Int)), (30, v), (31, .int .i64 (l.length : Int)), (32, .bool true), (33, .bool true), (34, .int .i64 ((i : Nat) : Int)), (35, .bool true), (36, .bool true), (39, .pointer (some ⟨p, 0, none⟩)), (40, .int .i64 ((usedF d.now : Nat) : Int)), (8, .int .i64 ((usedF d.now : Nat) : Int)), (41, .pointer (some ⟨p, 0, none⟩)), (42, .int .i64 ((d.wait.length : Nat) : Int)), (9, .int .i64 ((d.wait.length : Nat) : Int)), (43, .pointer (some ⟨p, 0, none⟩)), (44, v), (45, .int .i64 ((i : Nat) : Int)), (46, elp v (i * 7)), (47, elp v (i * 7 + 1)), (48, .int .i64 x.a), (49, .int .i64 (n1 : Int)), (50, .pointer (some ⟨0, 0 + n1, none⟩)), (51, .string (bs (nmL n1))), (52, v), (53, .int .i64 ((i : Nat) : Int)), (54, elp v (i * 7)), (55, elp v (i * 7 + 5)), (56, .slice x.A x.d.length x.c), (57, .int .i64 2)]) ⟨rfl, rfl, rfl, rfl, rfl, rfl, rfl, rfl, rfl, rfl, rfl, rfl, rfl, rfl, rfl, rfl, rfl, rfl, rfl, rfl, rfl, rfl, rfl, rfl, rfl, rfl, rfl, rfl, rfl, rfl, rfl, rfl, rfl, rfl, trivial⟩ ?_
      refine h_q hflS rfl ?_
      refine h_nil (f_to (d_reg ?_))
      refine h_q hflS rfl ?_
      refine h_val rfl (elp v (i * 7)) (fun b w hb hH => e_sidx okSt (sts_now hv hH) sl_bursarlaw7_Step (j := i) hx rfl rfl rfl hb) ?_
      refine h_val rfl (elp v (i * 7 + 5)) (fun b w hb hH => e_sfield okSt (by decide) (sts_now hv hH) (j := i) hx fd_bursarlaw7_Step_5 rfl rfl hb) ?_
      refine h_val rfl (.slice x.A x.d.length x.c) (fun b w hb hH => e_sload okSt (by decide) (sts_now hv hH) (j := i) hx ty_s_uint8 (off := 5) rfl rfl rfl hb) ?_
      refine h_val rfl (.int .i64 (x.d.length : Int)) (fun b w hb hH => e_slen ((sts_8 hv hmx hH).rd) Tryd.underlying32 rfl rfl hb) ?_
      refine h_val rfl (.int .i64 ((usedF d.now + x.d.length : Nat) : Int)) (fun b w hb hH => exec_ar rfl rfl rfl rfl (by rw [IntWalk.i64_in _ (by omega)]; omega) hb) ?_
      refine h_q hflS rfl ?_
      refine h_val rfl (.bool false) (fun b w hb hH => exec_cmp rfl rfl rfl (cmp_leq_f (by omega)) hb) ?_
      refine h_q hflS rfl ?_
      refine h_done (d_seq (d_reg ?_))
      refine h_q hflS rfl ?_
      refine h_val rfl (.bool false) (fun b w hb hH => exec_cmp rfl rfl rfl (cmp_eql_f (by decide)) hb) ?_
      refine h_q hflS rfl ?_
      refine h_val rfl (.bool false) (fun b w hb hH => exec_nes (neB false false) rfl rfl rfl hb) ?_
      refine h_q hflS rfl ?_
      refine h_val rfl (.bool true) (fun b w hb hH => exec_cmp rfl rfl rfl (cmp_neq_t (by decide)) hb) ?_
      refine h_q hflS rfl ?_
      refine h_val rfl (.bool false) (fun b w hb hH => exec_cmp rfl rfl rfl (cmp_neq_f (by decide)) hb) ?_
      refine h_q hflS rfl ?_
      refine h_act (post := fun _ => [DiskT p d]) rfl (a_does (os' := fun _ => [DiskT p d]) [0] 0 (ent_of Tryd.func7 (by kernel_rfl) rfl) (disk_used hR.down hfit hR.usedD) rfl rfl rfl (fun _ => rfl) rfl rfl rfl) ?_; rintro ⟨⟩
      refine h_q hflS rfl ?_
      refine h_val rfl (.bool false) (fun b w hb hH => exec_cmp rfl rfl rfl (cmp_neq_f (by omega)) hb) ?_
      refine h_q hflS rfl ?_
      refine h_act (post := fun _ => [DiskT p d]) rfl (a_does (os' := fun _ => [DiskT p d]) [0] 0 (ent_of Tryd.func8 (by kernel_rfl) rfl) (disk_pending rfl) rfl rfl rfl (fun _ => rfl) rfl rfl rfl) ?_; rintro ⟨⟩
      refine h_q hflS rfl ?_
      refine h_val rfl (.bool false) (fun b w hb hH => exec_cmp rfl rfl rfl (cmp_neq_f (by omega)) hb) ?_
      refine h_q hflS rfl ?_
      refine h_act (post := fun _ => [DiskT p d]) rfl (a_does (os' := fun _ => [DiskT p d]) [0] 0 (ent_of Tryd.func7 (by kernel_rfl) rfl) (disk_used hR.down hfit hR.usedD) rfl rfl rfl (fun _ => rfl) rfl rfl rfl) ?_; rintro ⟨⟩
      refine h_q hflS rfl ?_
      refine h_val rfl (.bool false) (fun b w hb hH => exec_cmp rfl rfl rfl (cmp_gtr_f (by omega)) hb) ?_
      refine h_q hflS rfl ?_
      refine h_done (d_else rfl (d_skip (f_to ?_)))
      obtain ⟨z5, hz5⟩ : ∃ z, Int.tmod x.b 5 = z := ⟨_, rfl⟩
      rcases Classical.em (z5 = 0) with hz | hz
      · skip
        obtain ⟨n2, hp2, hn2⟩ := pick4 x.b
        obtain ⟨d3, e3, he3, hR3⟩ := RoomI.del (n := nmL n2) hR2
        refine d_reg ?_
        refine h_q hflS rfl ?_
        refine h_val rfl (elp v (i * 7)) (fun b w hb hH => e_sidx okSt (sts_now hv hH) sl_bursarlaw7_Step (j := i) hx rfl rfl rfl hb) ?_
        refine h_val rfl (elp v (i * 7 + 2)) (fun b w hb hH => e_sfield okSt (by decide) (sts_now hv hH) (j := i) hx fd_bursarlaw7_Step_2 rfl rfl hb) ?_
        refine h_val rfl (.int .i64 x.b) (fun b w hb hH => e_sload okSt (by decide) (sts_now hv hH) (j := i) hx ty_int (off := 2) rfl rfl rfl hb) ?_
        refine h_val rfl (.int .i64 z5) (fun b w hb hH => exec_remI rfl rfl rfl (by decide) hz5 hb) ?_
        refine h_val rfl (.bool true) (fun b w hb hH => exec_cmp rfl rfl rfl (cmp_eql_t hz) hb) ?_
        refine h_done (d_then rfl (d_reg1 ?_))
        refine h_q hflS rfl ?_
        refine h_val rfl (elp v (i * 7)) (fun b w hb hH => e_sidx okSt (sts_now hv hH) sl_bursarlaw7_Step (j := i) hx rfl rfl rfl hb) ?_
        refine h_val rfl (elp v (i * 7 + 2)) (fun b w hb hH => e_sfield okSt (by decide) (sts_now hv hH) (j := i) hx fd_bursarlaw7_Step_2 rfl rfl hb) ?_
        refine h_val rfl (.int .i64 x.b) (fun b w hb hH => e_sload okSt (by decide) (sts_now hv hH) (j := i) hx ty_int (off := 2) rfl rfl rfl hb) ?_
        refine h_act (post := fun _ => [DiskT p d]) rfl (a_call (ent_of Tryd.func4 (by kernel_rfl) rfl) (fun w hH => pick w x.b 4 (hv.2 x hmx).b (by decide) hp2) rfl rfl rfl) ?_; rintro ⟨⟩
        refine h_val rfl (.pointer (some ⟨0, 0 + n2, none⟩)) (fun b w hb hH => exec_idx (off := 0) (k := n2) (ix_of_4_string n2 hn2) rfl rfl rfl hb) ?_
        refine h_val rfl (.string (bs (nmL n2))) (fun b w hb hH => exec_gload ty_string (by rw [Nat.zero_add]; exact hnm.up hH n2 hn2) rfl rfl hb) ?_
        refine h_act (post := fun _ => [DiskT p d3]) rfl (a_does (os' := fun _ => [DiskT p d3]) [0] 0 (ent_of Tryd.func10 (by kernel_rfl) rfl) (disk_remove (hR2.fit (by omega) (by omega)) he3) rfl rfl rfl (fun _ => rfl) rfl rfl rfl) ?_; rintro ⟨⟩
        refine h_nil (f_block (f_to ?_))
        refine WC2.keep (env' := [(1, v), (4, .bool false), (0, .int .i64 (R : Int)), (5, .pointer (some ⟨p, 0, none⟩)), (7, .int .i64 ((i : Nat) : Int)), (29, .int .i64 ((i : Nat) : Int)), (30, v), (31, .int .i64 (l.length : Int)), (32, .bool true), (33, .bool true), (34, .int .i64 ((i : Nat) : Int)), (35, .bool true), (36, .bool true), (39, .pointer (some ⟨p, 0, none⟩)), (40, .int .i64 ((usedF d.now : Nat) : Int)), (8, .int .i64 ((usedF d.now : Nat) : Int)), (41, .pointer (some ⟨p, 0, none⟩)), (42, .int .i64 ((d.wait.length : Nat) : Int)), (9, .int .i64 ((d.wait.length : Nat) : Int)), (43, .pointer (some ⟨p, 0, none⟩)), (44, v), (45, .int .i64 ((i : Nat) : Int)), (46, elp v (i * 7)), (47, elp v (i * 7 + 1)), (48, .int .i64 x.a), (49, .int .i64 (n1 : Int)), (50, .pointer (some ⟨0, 0 + n1, none⟩)), (51, .string (bs (nmL n1))), (52, v), (53, .int .i64 ((i : Nat) : Int)), (54, elp v (i * 7)), (55, elp v (i * 7 + 5)), (56, .slice x.A x.d.length x.c), (57, .int .i64 2), (10, .int .i64 2), (58, .int .i64 ((usedF d.now : Nat) : Int)), (59, v), (60, .int .i64 ((i : Nat) : Int)), (61, elp v (i * 7)), (62, elp v (i * 7 + 5)), (63, .slice x.A x.d.length x.c), (64, .int .i64 (x.d.length : Int)), (65, .int .i64 ((usedF d.now + x.d.length : Nat) : Int)), (66, .int .i64 (R : Int)), (67, .bool false), (11, .bool false), (68, .int .i64 2), (69, .bool false), (70, .bool false), (71, .bool false), (72, .bool false), (73, .int .i64 2), (74, .bool true), (75, .bool true), (76, .int .i64 2), (77, .bool false), (78, .bool false), (79, .pointer (some ⟨p, 0, none⟩)), (80, .int .i64 ((usedF d.now : Nat) : Int)), (81, .int .i64 ((usedF d.now : Nat) : Int)), (82, .bool false), (83, .bool false), (84, .bool false), (85, .pointer (some ⟨p, 0, none⟩)), (86, .int .i64 ((d.wait.length : Nat) : Int)), (87, .int .i64 ((d.wait.length : Nat) : Int)), (88, .bool false), (89, .bool false), (90, .bool false), (91, .bool false), (92, .bool false), (93, .pointer (some ⟨p, 0, none⟩)), (94, .int .i64 ((usedF d.now : Nat) : Int)), (95, .int .i64 (R : Int)), (96, .bool false), (97, .bool false), (98, v), (99, .int .i64 ((i : Nat) : Int)), (100, elp v (i * 7)), (101, elp v (i * 7 + 2)), (102, .int .i64 x.b), (103, .int .i64 z5), (104, .bool true), (105, .pointer (some ⟨p, 0, none⟩)), (106, v), (107, .int .i64 ((i : Nat) : Int)), (108, elp v (i * 7)), (109, elp v (i * 7 + 2)), (110, .int .i64 x.b), (111, .int .i64 (n2 : Int)), (112, .pointer (some ⟨0, 0 + n2, none⟩)), (113, .string (bs (nmL n2)))]) ⟨rfl, rfl, rfl, rfl, rfl, rfl, rfl, rfl, rfl, rfl, rfl, rfl, rfl, rfl, rfl, rfl, rfl, rfl, rfl, rfl, rfl, rfl, rfl, rfl, rfl, rfl, rfl, rfl, rfl, rfl, rfl, rfl, rfl, rfl, rfl, rfl, rfl, rfl, rfl, rfl, rfl, rfl, rfl, rfl, rfl, rfl, rfl, rfl, rfl, rfl, rfl, rfl, rfl, rfl, rfl, rfl, rfl, rfl, rfl, rfl, rfl, rfl, rfl, rfl, rfl, rfl, rfl, rfl, rfl, rfl, rfl, rfl, rfl, rfl, rfl, rfl, rfl, rfl, rfl, rfl, rfl, rfl, rfl, rfl, rfl, rfl, rfl, rfl, rfl, rfl, rfl, rfl, trivial⟩ ?_
        refine d_reg1 ?_
        refine h_q hflS rfl ?_
        refine h_val rfl (.int .i64 ((i + 1 : Nat) : Int)) (fun b w hb hH => exec_ar rfl rfl rfl rfl (by rw [IntWalk.i64_in _ (by omega)]; omega) hb) ?_
        refine h_q hflS rfl ?_
        refine h_nil ?_
        exact f_again (i + 1, d3) 0 ⟨hi, by omega, hR3⟩ (show l.length - (i + 1) < l.length - i by omega) ⟨rfl, rfl, rfl, rfl, rfl, trivial⟩ rfl
      · skip
        refine d_reg ?_
        refine h_q hflS rfl ?_
        refine h_val rfl (elp v (i * 7)) (fun b w hb hH => e_sidx okSt (sts_now hv hH) sl_bursarlaw7_Step (j := i) hx rfl rfl rfl hb) ?_
        refine h_val rfl (elp v (i * 7 + 2)) (fun b w hb hH => e_sfield okSt (by decide) (sts_now hv hH) (j := i) hx fd_bursarlaw7_Step_2 rfl rfl hb) ?_
        refine h_val rfl (.int .i64 x.b) (fun b w hb hH => e_sload okSt (by decide) (sts_now hv hH) (j := i) hx ty_int (off := 2) rfl rfl rfl hb) ?_
        refine h_val rfl (.int .i64 z5) (fun b w hb hH => exec_remI rfl rfl rfl (by decide) hz5 hb) ?_
        refine h_val rfl (.bool false) (fun b w hb hH => exec_cmp rfl rfl rfl (cmp_eql_f hz) hb) ?_
        refine h_done (d_else rfl (d_skip (f_block (f_to (d_reg1 ?_)))))
        refine h_q hflS rfl ?_
        refine h_val rfl (.int .i64 ((i + 1 : Nat) : Int)) (fun b w hb hH => exec_ar rfl rfl rfl rfl (by rw [IntWalk.i64_in _ (by omega)]; omega) hb) ?_
        refine h_q hflS rfl ?_
        refine h_nil ?_
        exact f_again (i + 1, d) 0 ⟨hi, by omega, hR2.next⟩ (show l.length - (i + 1) < l.length - i by omega) ⟨rfl, rfl, rfl, rfl, rfl, trivial⟩ rfl
  · skip
    refine d_reg ?_
    refine h_q hflS rfl ?_
    refine h_val rfl (.int .i64 (l.length : Int)) (fun b w hb hH => e_slen (sts_now hv hH) Tryd.underlying22 rfl rfl hb) ?_
    refine h_val rfl (.bool true) (fun b w hb hH => exec_cmp rfl rfl rfl (cmp_lss_t (by omega)) hb) ?_
    refine h_q hflS rfl ?_
    refine h_val rfl (.bool false) (fun b w hb hH => exec_cmp rfl rfl rfl (cmp_lss_f (by omega)) hb) ?_
    refine h_q hflS rfl ?_
    refine h_done (d_else rfl (d_exit (f_then_exit (f_then_exit (f_block_exit (f_to (d_reg ?_)))))))
    refine h_q hflS rfl ?_
    refine h_done (d_ret ?_)
    exact f_fin1 (.tmp rfl) (fun w h => ⟨rfl, below0 h.up⟩) rfl
  · skip
    refine d_reg ?_
    refine h_q hflS rfl ?_
    refine h_val rfl (.int .i64 (l.length : Int)) (fun b w hb hH => e_slen (sts_now hv hH) Tryd.underlying22 rfl rfl hb) ?_
    refine h_val rfl (.bool false) (fun b w hb hH => exec_cmp rfl rfl rfl (cmp_lss_f (by omega)) hb) ?_
    refine h_q hflS rfl ?_
    refine h_done (d_else rfl (d_exit (f_then_exit (f_then_exit (f_block_exit (f_to (d_reg ?_)))))))
    refine h_q hflS rfl ?_
    refine h_done (d_ret ?_)
    exact f_fin1 (.tmp rfl) (fun w h => ⟨rfl, below0 h.up⟩) rfl
end Go.Proofs.YtfiojppagmnpcaaDoor.Sep
