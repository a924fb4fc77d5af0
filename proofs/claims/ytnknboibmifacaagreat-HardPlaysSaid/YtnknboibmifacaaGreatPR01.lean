/-
  HdL · HdX
-/
import Derived.Test.YtnknboibmifacaaGreatPA06
import Derived.Test.YtnknboibmifacaaGreatPB01
import Derived.Test.YtnknboibmifacaaGreatPK01
import Derived.Test.YtnknboibmifacaaGreatPP02
set_option linter.unusedSimpArgs false
set_option linter.unusedVariables false
set_option maxRecDepth 100000
namespace Go.Proofs.YtnknboibmifacaaGreat.Sep
open Go.RowKit
open Go.Proofs.YtnknboibmifacaaGreat.Mem (Bl Co Chg AG)
section
variable {P : Program} {n k : Nat} {α : Type} {enc : α → List Value} {env : List (Nat × Value)} {o : Oper} {act : Act} {w : World} {u : Value} {m : List α}
theorem VX (he : EncOf k enc) (hk : 0 < k) (hu : Dx w k u m.length (flat enc m)) {j : Nat} {a : α} (hj : m[j]? = some a) {T : TypeId} {s : Nat} (hA : FB P T s) {off : Nat} {cs : List Value} (hc : ((enc a).drop off).take s = cs) (hl : cs.length = s) {x : Operand} (ho : o.op = .load T x) (hx : evs env x = some (BP u (j * k + off))) (hF : Fr n act env) : (execOp act.eval o).run P w = .ok (.value (.agg cs.toArray)) w := by
  obtain ⟨g, b, cap, rfl, hcell⟩ := hu.at_ he hk hj
  have hx' : evs env x = some (.pointer (some ⟨g, b + j * k + off, none⟩)) := by rw [hx]; simp [BP, Nat.add_assoc]
  have h := run_loadCells_list (P := P) w ⟨g, b + j * k + off, none⟩ cs (fun q v hv => by
    rw [Addr.add_lit]
    have h1 : (enc a)[off + q]? = some v := by
      rw [← hc, List.getElem?_take] at hv
      split at hv
      · rwa [List.getElem?_drop] at hv
      · cases hv
    have h2 := hcell (off + q) v h1
    rwa [← Nat.add_assoc] at h2)
  rw [hl] at h
  have hv : (loadVar T ⟨g, b + j * k + off, none⟩).run P w = .ok (.agg cs.toArray) w := by
    simp [loadVar, Sem.run_bind, hA.1, hA.2, h]
  unfold execOp
  simp only [ho, hF.evs hx', Instr.loadAt, Instr.sureAddr, Sem.run_bind, Sem.run_pure, Result.andThen_ok, hv]
end
def DiskD.tot (d : DiskD) : Nat := AK d.syn + (d.wait.map OpD.size).sum
structure PlayOk (T W : Nat) (d : DiskD) : Prop where
  rm : 0 ≤ d.room ∧ d.room ≤ 1048576
  tt : d.tot ≤ T
  wl : d.wait.length ≤ W
theorem PlayOk.fitK {T W k : Nat} {d : DiskD} (h : PlayOk T W d) (hT : T ≤ 10000000) (hW : W + k ≤ 10000) : d.fitK k := by
 have h1 := h.tt
 have h2 := h.wl
 unfold DiskD.tot at h1
 exact ⟨by omega, by omega⟩
theorem PlayOk.mono {T W T' W' : Nat} {d : DiskD} (h : PlayOk T W d) (h1 : T ≤ T') (h2 : W ≤ W') : PlayOk T' W' d := ⟨h.rm, Nat.le_trans h.tt h1, Nat.le_trans h.wl h2⟩
theorem PlayOk.does {T W : Nat} {d : DiskD} (h : PlayOk T W d) (o : OpD) {s : Nat} (hs : o.size ≤ s) : PlayOk (T + s) (W + 1) (Cr d o) := by
  refine ⟨h.rm, ?_, ?_⟩
  · show AK d.syn + ((d.wait ++ [o]).map OpD.size).sum ≤ _
    have := h.tt
    unfold DiskD.tot at this
    rw [List.map_append, List.sum_append]
    simp only [List.map_cons, List.map_nil, List.sum_cons, List.sum_nil]
    omega
  · show (d.wait ++ [o]).length ≤ _
    have := h.wl
    rw [List.length_append]; simp only [List.length_cons, List.length_nil]; omega
theorem PlayOk.begin_ {T W : Nat} {d : DiskD} (h : PlayOk T W d) : PlayOk T W (Bi d).1 := by
  unfold Bi
  split
  · exact ⟨h.rm, h.tt, h.wl⟩
  · exact ⟨h.rm, h.tt, h.wl⟩
theorem PlayOk.append {T W : Nat} {d : DiskD} (h : PlayOk T W d) (n b : List UInt8) {s : Nat} (hs : b.length ≤ s) : PlayOk (T + s) (W + 1) (Cp d n b).1 := by
  have h1 := h.begin_
  have h2 := h1.mono (Nat.le_add_right T s) (Nat.le_succ W)
  unfold Cp
  cases e : Bi d with
  | mk d1 e1 =>
    rw [e] at h1 h2
    simp only
    split
    · exact h2
    · split
      · exact h2
      · split
        · exact h2
        · exact h1.does _ hs
theorem PlayOk.cut {T W : Nat} {d : DiskD} (h : PlayOk T W d) (n : List UInt8) (s : Int) : PlayOk T (W + 1) (I3 d n s).1 := by
  have h1 := h.begin_
  have h2 := h1.mono (Nat.le_refl T) (Nat.le_succ W)
  unfold I3
  cases e : Bi d with
  | mk d1 e1 =>
    rw [e] at h1 h2
    simp only
    split
    · exact h2
    · split
      · exact h2
      · split
        · exact h2
        · exact h1.does (s := 0) _ (Nat.zero_le _)
theorem PlayOk.del {T W : Nat} {d : DiskD} (h : PlayOk T W d) (n : List UInt8) : PlayOk T (W + 1) (GH d n).1 := by
  have h1 := h.begin_
  have h2 := h1.mono (Nat.le_refl T) (Nat.le_succ W)
  unfold GH
  cases e : Bi d with
  | mk d1 e1 =>
    rw [e] at h1 h2
    simp only
    split
    · exact h2
    · split
      · exact h2
      · exact h1.does (s := 0) _ (Nat.zero_le _)
theorem PlayOk.ren {T W : Nat} {d : DiskD} (h : PlayOk T W d) (a b : List UInt8) : PlayOk T (W + 1) (I4 d a b).1 := by
  have h1 := h.begin_
  have h2 := h1.mono (Nat.le_refl T) (Nat.le_succ W)
  unfold I4
  cases e : Bi d with
  | mk d1 e1 =>
    rw [e] at h1 h2
    simp only
    split
    · exact h2
    · split
      · exact h2
      · split
        · exact h2
        · exact h1.does (s := 0) _ (Nat.zero_le _)
theorem PlayOk.rmNew {T W : Nat} {d : DiskD} (h : PlayOk T W d) : PlayOk T (W + 1) (Be d).1 := by
  unfold Be
  split
  · exact h.del _
  · exact h.mono (Nat.le_refl _) (Nat.le_succ _)
theorem PlayOk.save {T W : Nat} {d : DiskD} (h : PlayOk T W d) {x : HV} (hx : E5 x) : PlayOk (T + 40) (W + 3) (Et d x).1 := by
  have hl := Lo hx
  unfold Et
  split
  · exact (h.append hardN (Bc (layH x)) (s := 40) (by omega)).mono (Nat.le_refl _) (by omega)
  · unfold GC
    have h1 := h.rmNew
    split
    · exact h1.mono (by omega) (by omega)
    · have h2 := h1.append newN (Bc (layH x)) (s := 40) (by omega)
      split
      · exact h2.mono (Nat.le_refl _) (by omega)
      · exact h2.ren _ _
theorem PlayOk.openH {T W : Nat} {d : DiskD} (h : PlayOk T W d) : PlayOk T (W + 2) (DF d).1 := by
  have h1 := h.rmNew
  have h2 := h1.mono (Nat.le_refl T) (Nat.le_succ (W + 1))
  unfold DF
  split
  · exact h2
  · split
    · split
      · exact h1.cut _ _
      · exact h1.cut _ _
    · exact h2
theorem QO {d : DiskD} (hn : (AL d.syn).Nodup) (ho : E4 d.syn d.wait) : AK d.now ≤ d.tot := Ed d.wait hn ho
theorem PlayOk.sync {T W : Nat} {d : DiskD} (h : PlayOk T W d) (hn : (AL d.syn).Nodup) (ho : E4 d.syn d.wait) : PlayOk T W (F1 d).1 := by
  have h0 := QO hn ho
  unfold F1
  rcases EM d with ⟨_, hb⟩ | ⟨_, _, hb⟩ | ⟨_, k, _, hb⟩ | ⟨_, _, hb⟩ <;> rw [hb] <;> simp only
  · rw [if_pos (by simp)]; exact h
  · rw [if_pos (by simp)]; exact ⟨h.rm, h.tt, h.wl⟩
  · rw [if_neg (by simp)]
    exact ⟨h.rm, by have := h.tt; show AK d.now + 0 ≤ T; omega, Nat.zero_le _⟩
  · rw [if_neg (by simp)]
    exact ⟨h.rm, by have := h.tt; show AK d.now + 0 ≤ T; omega, Nat.zero_le _⟩
theorem T1 {d : DiskD} {keep torn : Int} (hn : (AL d.syn).Nodup) (ho : E4 d.syn d.wait) : AK (CS d keep torn) ≤ d.tot := by
  rw [Gv]
  cases hw : d.wait[Cs d keep]? with
  | none =>
    simp only
    have h1 := Ed (d.wait.take (Cs d keep)) hn (Fi (Cs d keep) ho)
    have h2 := Hw d.wait (Cs d keep)
    unfold DiskD.tot
    omega
  | some o =>
    simp only
    have h1 := Ep (N := d.tot) hn ho hw (Nat.le_refl _)
    have hnd : (AL ((d.wait.take (Cs d keep)).foldl AI d.syn)).Nodup := EJ _ hn
    cases o with
    | app n b =>
      unfold F5
      simp only
      split
      · omega
      · rw [FF hnd]
        have h2 : (OpD.app n b).size = b.length := rfl
        rw [List.length_take]
        omega
    | cut n s => show AK ((d.wait.take (Cs d keep)).foldl AI d.syn) ≤ _; omega
    | ren a b => show AK ((d.wait.take (Cs d keep)).foldl AI d.syn) ≤ _; omega
    | del n => show AK ((d.wait.take (Cs d keep)).foldl AI d.syn) ≤ _; omega
theorem PlayOk.harm {T W : Nat} {d : DiskD} (h : PlayOk T W d) (hm : HarmD) (hn : (AL d.syn).Nodup) (ho : E4 d.syn d.wait) : PlayOk T W (Gc d hm) := by
  unfold Gc
  split
  · exact ⟨h.rm, h.tt, h.wl⟩
  · split
    · refine ⟨h.rm, ?_, Nat.zero_le _⟩
      have := T1 (keep := hm.a) (torn := hm.b) hn ho
      have h2 := h.tt
      show AK (CS d hm.a hm.b) + 0 ≤ T
      omega
    · split
      · refine ⟨?_, h.tt, h.wl⟩
        have h1 := Int.emod_nonneg hm.a (show (2000 : Int) ≠ 0 by decide)
        have h2 := Int.emod_lt_of_pos hm.a (show (0 : Int) < 2000 by decide)
        show 0 ≤ hm.a % 2000 ∧ hm.a % 2000 ≤ 1048576
        omega
      · exact h
theorem QP {T W : Nat} {d : DiskD} (h : PlayOk T W d) (hT : T ≤ 10000000) (hn : (AL d.syn).Nodup) (ho : E4 d.syn d.wait) {b : List UInt8} (hb : (BJ (Be d).1 hardN).getD [] = b) : b.length ≤ 137438953472 := by
  have hnn := L0 hn
  have h0 := QO hn ho
  have h1 := h.tt
  have key : ∀ d1 : DiskD, (d1.now = d.now ∨ d1.now = BX d.now newN) → ((BJ d1 hardN).getD []).length ≤ AK d.now := fun d1 h2 => by
    unfold BJ
    split
    · simp
    · rcases h2 with h2 | h2
      · rw [h2]; exact LV hnn
      · rw [h2, IX hnn, if_neg FM]; exact LV hnn
  have h3 : (Be d).1.now = d.now ∨ (Be d).1.now = BX d.now newN := by
    unfold Be
    split
    · unfold GH
      rcases EM d with ⟨_, hb⟩ | ⟨_, _, hb⟩ | ⟨_, k, _, hb⟩ | ⟨_, _, hb⟩ <;> rw [hb] <;> simp only
      · left; rw [if_pos (by simp)]
      · left; rw [if_pos (by simp)]; rfl
      · rw [if_neg (by simp)]
        split
        · left; rfl
        · right; rw [C2]; rfl
      · rw [if_neg (by simp)]
        split
        · left; rfl
        · right; rw [C2]; rfl
    · left; rfl
  have := key _ h3
  rw [hb] at this
  omega
theorem T2 {p : Nat} {d : DiskD} : ∀ rs, Au p d rs → (AL d.syn).Nodup ∧ E4 d.syn d.wait := fun rs ⟨x, _⟩ => ⟨x.snd, x.hok⟩
theorem T3 : Ff D1 (.slice none 0 0) [] := fun rs w h1 h2 => by
 obtain rfl : rs = [] := h1
 exact CT [] w Ga h2
structure StH where
  what : Int
  y : Int × Int
  near : Bool
  h : HarmD
instance : Inhabited StH := ⟨⟨0, (0, 0), false, ⟨0, 0, 0⟩⟩⟩
def encSt (x : StH) : List Value := [.int .i64 x.what, .int .u64 x.y.1, .int .i64 x.y.2, .bool x.near, .int .i64 x.h.w, .int .i64 x.h.a, .int .i64 x.h.b]
theorem LA : EncOf 7 encSt := ⟨fun _ => rfl, fun x v h => by unfold encSt at h; simp at h; rcases h with rfl | rfl | rfl | rfl | rfl | rfl | rfl <;> rfl⟩
structure StH.ok (x : StH) : Prop where
  w : -9223372036854775808 ≤ x.what ∧ x.what ≤ 9223372036854775807
  y : Ty x.y
  h : x.h.ok
def ER (x : StH) : Int × Int := if x.near = true then hz (Lr x.y) else x.y
theorem T4 (x : StH) (hx : x.ok) : (∃ z : HV, E5 z ∧ ER x = hz z) ∨ ((decide ((ER x).1 ≤ 72057594037927935) && (decide ((ER x).2 ≥ 0) && decide ((ER x).2 ≤ 7))) = false) := by
  cases h : (decide ((ER x).1 ≤ 72057594037927935) && (decide ((ER x).2 ≥ 0) && decide ((ER x).2 ≤ 7))) with
  | false => exact .inr rfl
  | true =>
    simp only [Bool.and_eq_true, decide_eq_true_eq] at h
    left
    have h0 : 0 ≤ (ER x).1 := by
      unfold ER
      split
      · exact Int.natCast_nonneg _
      · exact hx.y.1.1
    exact ⟨((ER x).1.toNat, (ER x).2.toNat), ⟨by simp only; omega, by simp only; omega⟩, Prod.ext (by show _ = (((ER x).1.toNat : Nat) : Int); omega) (by show _ = (((ER x).2.toNat : Nat) : Int); omega)⟩
theorem T5 (w : World) (y : StH) (hy : Ty y.y) : Calls Tryz.prog 13 #[.agg #[.int .i64 y.what, .int .u64 y.y.1, .int .i64 y.y.2, .bool true, .int .i64 y.h.w, .int .i64 y.h.a, .int .i64 y.h.b]] w fun e w' => e = .returned (.agg #[.int .u64 (hz (Lr y.y)).1, .int .i64 (hz (Lr y.y)).2]) ∧ Below w.heap.size w w' := by
  refine Fy (args := [.agg #[.int .i64 y.what, .int .u64 y.y.1, .int .i64 y.y.2, .bool true, .int .i64 y.h.w, .int .i64 y.h.a, .int .i64 y.h.b]]) 16 Tryz.func13 rfl rfl rfl ?_
  obtain ⟨⟨hy1, hy2⟩, hy3⟩ := hy
  obtain ⟨hk, hq1, hq2⟩ := TA y.y
  refine Ad ?_
  refine Ae Ai rfl ?_
  refine Aj (post := fun g1 => [cell g1 35 #[.int .i64 y.what, .int .u64 y.y.1, .int .i64 y.y.2, .bool true, .int .i64 y.h.w, .int .i64 y.h.a, .int .i64 y.h.b]]) rfl (CC (cs := #[.int .i64 y.what, .int .u64 y.y.1, .int .i64 y.y.2, .bool true, .int .i64 y.h.w, .int .i64 y.h.a, .int .i64 y.h.b]) rfl rfl rfl) ?_; rintro g1
  refine Aj (post := fun g2 => [cell g2 31 #[.int .u64 0, .int .i64 0], cell g1 35 #[.int .i64 y.what, .int .u64 y.y.1, .int .i64 y.y.2, .bool true, .int .i64 y.h.w, .int .i64 y.h.a, .int .i64 y.h.b]]) rfl (BS Bq rfl) ?_; rintro g2
  refine Aa (Aq (Ad ?_))
  refine Ae Ai rfl ?_
  refine Ab rfl (.bool true) (fun b w hb hH => A6 rfl rfl (Bk Bo rfl) (hH.row 1 rfl) hb) ?_
  refine Aa (AC rfl (Aq ?_))
  refine BO 9 1 [⟨.quiet, [none], fun _ => .pointer (some ⟨g1, 1, none⟩), []⟩, ⟨.quiet, [none], fun _ => .pointer (some ⟨g1, 1, none⟩), [0]⟩, ⟨.quiet, [none], fun _ => .int .u64 y.y.1, [1]⟩, ⟨.quiet, [none], fun _ => .int .u64 (((Lr y.y).1 : Nat) : Int), [2]⟩, ⟨.quiet, [none], fun _ => .pointer (some ⟨g1, 1, none⟩), []⟩, ⟨.quiet, [none], fun _ => .pointer (some ⟨g1, 2, none⟩), [4]⟩, ⟨.quiet, [none], fun _ => .int .i64 y.y.2, [5]⟩, ⟨.actv 0, [some false], fun _ => .int .i64 (((Lr y.y).2 : Nat) : Int), [6]⟩, ⟨.quiet, [some true], fun _ => .agg #[.int .u64 (((Lr y.y).1 : Nat) : Int), .int .i64 (((Lr y.y).2 : Nat) : Int)], [3, 7]⟩] [(1, .pointer (some ⟨g1, 0, none⟩)), (2, .pointer (some ⟨g2, 0, none⟩))] (fun ρ => match ρ with | [r0] => [cell g2 31 #[.int .u64 0, .int .i64 0], cell g1 35 #[.int .i64 y.what, .int .u64 y.y.1, .int .i64 y.y.2, .bool true, .int .i64 y.h.w, .int .i64 y.h.a, .int .i64 y.h.b]] | _ => []) (by kernel_rfl) (by kernel_rfl) ⟨rfl, rfl, trivial⟩ rfl ?_ ?_
  · skip
    refine Ac (by intro r0_; exact ⟨rfl, fun b w hH hb => Af Ai rfl hb⟩) ?_
    refine Ac (by intro r0_; exact ⟨rfl, fun b w hH hb => Af Ai rfl hb⟩) ?_
    refine Ac (by intro r0_; exact ⟨rfl, fun b w hH hb => A6 rfl rfl (Bk Dg rfl) (hH.row 1 rfl) hb⟩) ?_
    refine Ac (by intro r0_; exact ⟨rfl, fun b w hH hb => Ht rfl rfl rfl (by decide) ((RO hy1).trans hq1.symm) hb⟩) ?_
    refine Ac (by intro r0_; exact ⟨rfl, fun b w hH hb => Af Ai rfl hb⟩) ?_
    refine Ac (by intro r0_; exact ⟨rfl, fun b w hH hb => Af Ai rfl hb⟩) ?_
    refine Ac (by intro r0_; exact ⟨rfl, fun b w hH hb => A6 rfl rfl (Bk AR rfl) (hH.row 1 rfl) hb⟩) ?_
    refine Ac (by exact ⟨rfl, Bp.su (By (Ah Tryz.func8 (by kernel_rfl) rfl) (fun w hH => pick w y.y.2 8 hy3 (by decide) hq2.symm) rfl rfl rfl) rfl⟩) ?_
    refine Ac (by intro v0_; exact ⟨rfl, fun b w hH hb => Bg rfl rfl (by kernel_rfl) hb⟩) ?_
    exact B2
  intro v0_
  refine Cg.keep (env' := [(1, .pointer (some ⟨g1, 0, none⟩)), (2, .pointer (some ⟨g2, 0, none⟩)), (13, .agg #[.int .u64 (((Lr y.y).1 : Nat) : Int), .int .i64 (((Lr y.y).2 : Nat) : Int)])]) ⟨rfl, rfl, rfl, trivial⟩ ?_
  refine Ae Ai rfl ?_
  refine AH (post := fun _ => [cell g2 31 #[.int .u64 (((Lr y.y).1 : Nat) : Int), .int .i64 (((Lr y.y).2 : Nat) : Int)], cell g1 35 #[.int .i64 y.what, .int .u64 y.y.1, .int .i64 y.y.2, .bool true, .int .i64 y.h.w, .int .i64 y.h.a, .int .i64 y.h.b]]) rfl rfl (AD 0 (v := .agg #[.int .u64 (((Lr y.y).1 : Nat) : Int), .int .i64 (((Lr y.y).2 : Nat) : Int)]) #[.int .u64 (((Lr y.y).1 : Nat) : Int), .int .i64 (((Lr y.y).2 : Nat) : Int)] Am.2 rfl rfl rfl rfl rfl rfl rfl rfl rfl) ?_; rintro ⟨⟩
  refine AP (AE (Ay (CM ?_)))
  exact Av (.cell 0 (v := .agg #[.int .u64 (((Lr y.y).1 : Nat) : Int), .int .i64 (((Lr y.y).2 : Nat) : Int)]) (D3 (cs := [.int .u64 (((Lr y.y).1 : Nat) : Int), .int .i64 (((Lr y.y).2 : Nat) : Int)]) Am rfl) rfl rfl) (fun w h => ⟨rfl, AG h.up⟩) rfl
theorem U0 (w : World) (y : StH) (hy : Ty y.y) : Calls Tryz.prog 13 #[.agg #[.int .i64 y.what, .int .u64 y.y.1, .int .i64 y.y.2, .bool false, .int .i64 y.h.w, .int .i64 y.h.a, .int .i64 y.h.b]] w fun e w' => e = .returned (.agg #[.int .u64 y.y.1, .int .i64 y.y.2]) ∧ Below w.heap.size w w' := by
 refine Fy (args := [.agg #[.int .i64 y.what, .int .u64 y.y.1, .int .i64 y.y.2, .bool false, .int .i64 y.h.w, .int .i64 y.h.a, .int .i64 y.h.b]]) 16 Tryz.func13 rfl rfl rfl ?_
 obtain ⟨⟨hy1, hy2⟩, hy3⟩ := hy
 obtain ⟨hk, hq1, hq2⟩ := TA y.y
 refine Ad ?_
 refine Ae Ai rfl ?_
 refine Aj (post := fun g1 => [cell g1 35 #[.int .i64 y.what, .int .u64 y.y.1, .int .i64 y.y.2, .bool false, .int .i64 y.h.w, .int .i64 y.h.a, .int .i64 y.h.b]]) rfl (CC (cs := #[.int .i64 y.what, .int .u64 y.y.1, .int .i64 y.y.2, .bool false, .int .i64 y.h.w, .int .i64 y.h.a, .int .i64 y.h.b]) rfl rfl rfl) ?_; rintro g1
 refine Aj (post := fun g2 => [cell g2 31 #[.int .u64 0, .int .i64 0], cell g1 35 #[.int .i64 y.what, .int .u64 y.y.1, .int .i64 y.y.2, .bool false, .int .i64 y.h.w, .int .i64 y.h.a, .int .i64 y.h.b]]) rfl (BS Bq rfl) ?_; rintro g2
 refine Aa (Aq (Ad ?_))
 refine Ae Ai rfl ?_
 refine Ab rfl (.bool false) (fun b w hb hH => A6 rfl rfl (Bk Bo rfl) (hH.row 1 rfl) hb) ?_
 refine Aa (Ar rfl (Ax (AE (Ad ?_))))
 refine Ae Ai rfl ?_
 refine Ab rfl (.agg #[.int .u64 y.y.1, .int .i64 y.y.2]) (fun b w hb hH => A6 rfl rfl (D3 (cs := [.int .i64 y.what, .int .u64 y.y.1, .int .i64 y.y.2, .bool false, .int .i64 y.h.w, .int .i64 y.h.a, .int .i64 y.h.b]) Am rfl) (hH.row 1 rfl) hb) ?_
 refine AH (post := fun _ => [cell g2 31 #[.int .u64 y.y.1, .int .i64 y.y.2], cell g1 35 #[.int .i64 y.what, .int .u64 y.y.1, .int .i64 y.y.2, .bool false, .int .i64 y.h.w, .int .i64 y.h.a, .int .i64 y.h.b]]) rfl rfl (AD 0 (v := .agg #[.int .u64 y.y.1, .int .i64 y.y.2]) #[.int .u64 y.y.1, .int .i64 y.y.2] Am.2 rfl rfl rfl rfl rfl rfl rfl rfl rfl) ?_; rintro ⟨⟩
 refine Aa (Ay ?_)
 exact Av (.cell 0 (v := .agg #[.int .u64 y.y.1, .int .i64 y.y.2]) (D3 (cs := [.int .u64 y.y.1, .int .i64 y.y.2]) Am rfl) rfl rfl) (fun w h => ⟨rfl, AG h.up⟩) rfl
theorem QQ (w : World) (y : StH) (hy : Ty y.y) : Calls Tryz.prog 13 #[.agg #[.int .i64 y.what, .int .u64 y.y.1, .int .i64 y.y.2, .bool y.near, .int .i64 y.h.w, .int .i64 y.h.a, .int .i64 y.h.b]] w fun e w' => e = .returned (.agg #[.int .u64 (ER y).1, .int .i64 (ER y).2]) ∧ Below w.heap.size w w' := by
  unfold ER
  cases h : y.near with
  | true => rw [if_pos rfl]; exact T5 w y hy
  | false => rw [if_neg (by simp)]; exact U0 w y hy
end Go.Proofs.YtnknboibmifacaaGreat.Sep
namespace Go.Proofs.YtnknboibmifacaaGreat.Sep
open Go.RowKit
open Go.Proofs.YtnknboibmifacaaGreat.Mem (Bl Co Chg AG)
open Go.ChangeShapes Go.WideShapes Go.ChangeAt
section
variable {H : Type} {enc : TypeId × Value → H} {W : World} {base b0 : Nat} {r : Reach} {spare : Nat → Bool} {held : Bool} {v : Value} {d : DataW H} {p : List MemPlace}
theorem Jk {P : Program} {n j k off : Nat} {f : Field} {cs zs : List Value} {ys : List (DataW H × List MemPlace)} {y : DataW H × List MemPlace} (hc : P.cellsOf f.type = k) (ho : f.offset = off) (h : DataW.trod enc P W base spare held n f.type ((cs.drop f.offset).take (P.cellsOf f.type)) = ys[j]?) (ha : (cs.drop off).take k = zs) (hy : ys[j]? = some y) : DataW.trod enc P W base spare held n f.type zs = some y := by
 rw [ho, hc, ha, hy] at h
 exact h
theorem R4 {n : Nat} {c0 c1 : Value} {x : DataW H × List MemPlace} (h : DataW.trod enc Tryz.prog W base spare held n 31 [c0, c1] = some x) : ∃ y : Int × Int, c0 = .int .u64 y.1 ∧ c1 = .int .i64 y.2 ∧ Ty y := by
 obtain ⟨ys, n', _, hx, _, hyl, hf⟩ := DataW.trod_struct Tryz.underlying31 h
 have hyl : ys.length = 2 := hyl
 obtain ⟨y0, g0⟩ : ∃ y, ys[0]? = some y := ⟨_, List.getElem?_eq_getElem (by omega)⟩
 obtain ⟨y1, g1⟩ : ∃ y, ys[1]? = some y := ⟨_, List.getElem?_eq_getElem (by omega)⟩
 have h0 := Jk (k := 1) (off := 0) (zs := [c0]) (by kernel_rfl) rfl (hf 0 _ rfl) rfl g0
 have h1 := Jk (k := 1) (off := 1) (zs := [c1]) (by kernel_rfl) rfl (hf 1 _ rfl) rfl g1
 obtain ⟨z0, e0, _, w0⟩ := DataW.trod_int Tryz.underlying29 h0
 obtain ⟨z1, e1, _, w1⟩ := DataW.trod_int Tryz.underlying3 h1
 cases e0; cases e1
 exact ⟨(z0, z1), rfl, rfl, Vw w0, KR w1⟩
theorem R5 {n : Nat} {c0 c1 c2 : Value} {x : DataW H × List MemPlace} (h : DataW.trod enc Tryz.prog W base spare held n 33 [c0, c1, c2] = some x) : ∃ y : HarmD, c0 = .int .i64 y.w ∧ c1 = .int .i64 y.a ∧ c2 = .int .i64 y.b ∧ y.ok := by
 obtain ⟨ys, n', _, hx, _, hyl, hf⟩ := DataW.trod_struct Tryz.underlying33 h
 have hyl : ys.length = 3 := hyl
 obtain ⟨y0, g0⟩ : ∃ y, ys[0]? = some y := ⟨_, List.getElem?_eq_getElem (by omega)⟩
 obtain ⟨y1, g1⟩ : ∃ y, ys[1]? = some y := ⟨_, List.getElem?_eq_getElem (by omega)⟩
 obtain ⟨y2, g2⟩ : ∃ y, ys[2]? = some y := ⟨_, List.getElem?_eq_getElem (by omega)⟩
 have h0 := Jk (k := 1) (off := 0) (zs := [c0]) (by kernel_rfl) rfl (hf 0 _ rfl) rfl g0
 have h1 := Jk (k := 1) (off := 1) (zs := [c1]) (by kernel_rfl) rfl (hf 1 _ rfl) rfl g1
 have h2 := Jk (k := 1) (off := 2) (zs := [c2]) (by kernel_rfl) rfl (hf 2 _ rfl) rfl g2
 obtain ⟨z0, e0, _, w0⟩ := DataW.trod_int Tryz.underlying3 h0
 obtain ⟨z1, e1, _, w1⟩ := DataW.trod_int Tryz.underlying3 h1
 obtain ⟨z2, e2, _, w2⟩ := DataW.trod_int Tryz.underlying3 h2
 cases e0; cases e1; cases e2
 exact ⟨⟨z0, z1, z2⟩, rfl, rfl, rfl, ⟨KR w0, KR w1, KR w2⟩⟩
theorem open_stepsH (hval : Value.okWide Tryz.prog W r b0 22 v) (h : DataW.Trod enc Tryz.prog W base spare held 22 v d p) : ∃ A c, ∃ l : List StH, v = .slice A l.length c ∧ l.length ≤ maxLen ∧ Dx W 7 v l.length (flat encSt l) ∧ ∀ y ∈ l, y.ok :=
  OC LA (by decide) Tryz.underlying22 (by kernel_rfl) (fun n cs x hcl h => by
    obtain ⟨ys, n', _, hx, _, hyl, hf⟩ := DataW.trod_struct Tryz.underlying35 h
    have hyl : ys.length = 4 := hyl
    match cs, hcl with
    | [c0, c1, c2, c3, c4, c5, c6], _ =>
      obtain ⟨y0, g0⟩ : ∃ y, ys[0]? = some y := ⟨_, List.getElem?_eq_getElem (by omega)⟩
      obtain ⟨y1, g1⟩ : ∃ y, ys[1]? = some y := ⟨_, List.getElem?_eq_getElem (by omega)⟩
      obtain ⟨y2, g2⟩ : ∃ y, ys[2]? = some y := ⟨_, List.getElem?_eq_getElem (by omega)⟩
      obtain ⟨y3, g3⟩ : ∃ y, ys[3]? = some y := ⟨_, List.getElem?_eq_getElem (by omega)⟩
      have h0 := Jk (k := 1) (off := 0) (zs := [c0]) (by kernel_rfl) rfl (hf 0 _ rfl) rfl g0
      have h1 := Jk (k := 2) (off := 1) (zs := [c1, c2]) (by kernel_rfl) rfl (hf 1 _ rfl) rfl g1
      have h2 := Jk (k := 1) (off := 3) (zs := [c3]) (by kernel_rfl) rfl (hf 2 _ rfl) rfl g2
      have h3 := Jk (k := 3) (off := 4) (zs := [c4, c5, c6]) (by kernel_rfl) rfl (hf 3 _ rfl) rfl g3
      obtain ⟨z0, e0, _, w0⟩ := DataW.trod_int Tryz.underlying3 h0
      obtain ⟨a, rfl, rfl, wa⟩ := R4 h1
      obtain ⟨z2, e2, _⟩ := DataW.trod_bool Tryz.underlying4 h2
      obtain ⟨b, rfl, rfl, rfl, wb⟩ := R5 h3
      cases e0; cases e2
      exact ⟨⟨z0, a, z2, b⟩, rfl, ⟨KR w0, wa, wb⟩⟩) hval h
end
end Go.Proofs.YtnknboibmifacaaGreat.Sep
