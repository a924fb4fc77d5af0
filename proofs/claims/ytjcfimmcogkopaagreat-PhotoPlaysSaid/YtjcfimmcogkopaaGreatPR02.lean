/-
  HdQ
-/
import Derived.Test.YtjcfimmcogkopaaGreatPK01
import Derived.Test.YtjcfimmcogkopaaGreatPR01
set_option linter.unusedSimpArgs false
set_option linter.unusedVariables false
namespace Go.Proofs.YtjcfimmcogkopaaGreat.Sep
open Go.RowKit
open Go.Proofs.YtjcfimmcogkopaaGreat.Mem (Bh Cs Chg AA)
def DC (room : Int) (L : List RFl) : DiskD := L.foldl (fun d y => (Ci d y.n y.d).1) (Hc room)
def HH (room : Int) (L : List RFl) : DiskD := { DC room (L.take 20) with syn := (DC room (L.take 20)).now, wait := [] }
structure LaidOk (room : Int) (k : Nat) (d : DiskD) : Prop where
  up : d.down = false
  fz : d.fuse = none
  rm : d.room = room
  sy : d.syn = []
  wl : d.wait.length ≤ k
  sz : (d.wait.map OpD.size).sum = AN d.now
  le : AN d.now ≤ 1048576
  nd : (AO d.now).Nodup
theorem U2 {room : Int} {k : Nat} {d : DiskD} (h : LaidOk room k d) (hk : k ≤ 9000) : d.fit := ⟨by rw [h.sy, h.sz]; have := h.le; show 0 + _ ≤ _; omega, by have := h.wl; omega⟩
theorem U3 {room : Int} (hr : 0 ≤ room ∧ room ≤ 1048576) : LaidOk room 0 (Hc room) := ⟨rfl, rfl, rfl, rfl, Nat.le_refl _, rfl, Nat.zero_le _, List.nodup_nil⟩
theorem U4 {room : Int} {k : Nat} {d : DiskD} (hr : 0 ≤ room ∧ room ≤ 1048576) (h : LaidOk room k d) (n b : List UInt8) : LaidOk room (k + 1) (Ci d n b).1 := by
  have hsame : LaidOk room (k + 1) d := ⟨h.up, h.fz, h.rm, h.sy, Nat.le_succ_of_le h.wl, h.sz, h.le, h.nd⟩
  unfold Ci
  rw [Dx h.up h.fz]
  simp only
  rw [if_neg (by simp)]
  split
  · exact hsame
  · split
    · exact hsame
    · rename_i hf
      have hf2 : Eo d n b = true := by simpa using hf
      have h1 := (LT hf2).2.1
      have h2 := (LT hf2).1
      rw [h.rm] at h1 h2
      have hu := FX h.nd n b
      refine ⟨h.up, h.fz, h.rm, h.sy, ?_, ?_, ?_, ?_⟩
      · show (d.wait ++ [_]).length ≤ _
        have := h.wl
        rw [List.length_append]; simp only [List.length_cons, List.length_nil]; omega
      · show ((d.wait ++ [OpD.app n b]).map OpD.size).sum = _
        rw [Cq, hu, List.map_append, List.sum_append, h.sz]
        simp [OpD.size]
      · rw [Cq, hu]; omega
      · rw [Cq]; exact GD h.nd _
theorem RG {room : Int} (hr : 0 ≤ room ∧ room ≤ 1048576) : ∀ (L : List RFl) (k : Nat) (d : DiskD), LaidOk room k d → LaidOk room (k + L.length) (L.foldl (fun d y => (Ci d y.n y.d).1) d)
  | [], _, _, h => h
  | y :: L, k, d, h => by
    have := RG hr L (k + 1) _ (U4 hr h y.n y.d)
    rw [List.length_cons, show k + (L.length + 1) = k + 1 + L.length by omega]
    exact this
theorem U5 {room : Int} (hr : 0 ≤ room ∧ room ≤ 1048576) (L : List RFl) : LaidOk room L.length (DC room L) := by
 have := RG hr L 0 _ (U3 hr)
 rwa [Nat.zero_add] at this
theorem QE {room : Int} {L : List RFl} {i : Nat} {y : RFl} (h : L[i]? = some y) : DC room (L.take (i + 1)) = (Ci (DC room (L.take i)) y.n y.d).1 := by
 unfold DC
 rw [List.take_add_one, h, List.foldl_append]; rfl
theorem MG {room : Int} {k : Nat} {d : DiskD} (h : LaidOk room k d) : E5 d = ({ d with syn := d.now, wait := [] }, 0) := by
 unfold E5
 rw [Dx h.up h.fz]
 simp only
 rw [if_neg (by simp)]
set_option maxRecDepth 100000 in
theorem S8 {X Y : Ass} {v : Value} {L : List RFl} {room : Int} (hr : 0 ≤ room ∧ room ≤ 1048576) (hX : Ft X v L) (hll : L.length ≤ 9223372036854775806) (hY : ∀ y : RFl, y ∈ L → CO Y y.v y.d ∧ y.d.length ≤ 140737488355328 ∧ y.n.length ≤ 9223372036854775807) : AX Tryz.prog 5 #[.int .i64 room, v] [X, Y] (fun (x : Nat × Nat) => .tuple #[.pointer (some ⟨x.1, 0, none⟩), .pointer (some ⟨x.2, 0, none⟩), .bool true]) (fun (x : Nat × Nat) => [X, Y, Ao x.1 (HH room L), An x.2 (HH room L)]) := by
  refine Bg (args := [.int .i64 room, v]) 67 Tryz.func5 rfl rfl rfl ?_; intro w rs
  refine Ad (Ae Ag rfl (Ab (Ad (Ae Ag rfl (Aj rfl (Ak (os' := fun p => [Ao p (Hc room), X, Y]) [] 0 (Ai Tryz.func21 (by kernel_rfl) rfl) (Ov room hr) rfl rfl rfl (fun _ => rfl) rfl rfl rfl) ?_))))); rintro p
  refine Ae Ag rfl (Ab (Av (Ad (Ae Ag rfl (Aa rfl (.bool false) (fun b w hb hH => AZ rfl rfl rfl (AP (by decide)) hb) (Ae Ag rfl (Aa rfl (.bool false) (fun b w hb hH => Ct (by kernel_rfl) rfl rfl rfl hb) (Ae Ag rfl (Ab (As rfl (AB (AL (Ad (Ae Ag rfl (Aa rfl (.agg #[.int .i64 room, .slice none 0 0, .slice none 0 0, .slice none 0 0, .bool false, .int .i64 0, .bool false]) (fun b w hb hH => Bn rfl rfl (by kernel_rfl) hb) ?_)))))))))))))))
  refine Aj (post := fun q => [cell q 61 #[.int .i64 room, .slice none 0 0, .slice none 0 0, .slice none 0 0, .bool false, .int .i64 0, .bool false], Ao p (Hc room), X, Y]) rfl (CL (cs := #[.int .i64 room, .slice none 0 0, .slice none 0 0, .slice none 0 0, .bool false, .int .i64 0, .bool false]) rfl rfl rfl) ?_; rintro q
  refine Ae Ag rfl (Ab (Av (Bi [0] rfl UO rfl (Ad (Ae Ag rfl (Ab (Bo (Dd (α := Nat) (fun i => [(1, v), (4, .pointer none), (5, .pointer none), (6, .bool false), (7, .pointer (some ⟨p, 0, none⟩)), (9, .pointer (some ⟨q, 0, none⟩)), (10, .int .i64 ((i : Nat) : Int))]) (fun i => [An q (DC room (L.take i)), Ao p (DC room (L.take i)), X, Y]) (fun i => i ≤ L.length ∧ i ≤ 20) (fun i => L.length - i) 0 ⟨Nat.zero_le _, Nat.zero_le _⟩ ⟨rfl, rfl, rfl, rfl, rfl, rfl, rfl, trivial⟩ rfl ?_))))))))
  rintro i hI
  refine BB.at_ (env' := [(1, v), (4, .pointer none), (5, .pointer none), (6, .bool false), (7, .pointer (some ⟨p, 0, none⟩)), (9, .pointer (some ⟨q, 0, none⟩)), (10, .int .i64 ((i : Nat) : Int))]) (rs' := [An q (DC room (L.take i)), Ao p (DC room (L.take i)), X, Y]) ⟨rfl, rfl, rfl, rfl, rfl, rfl, rfl, trivial⟩ rfl ?_
  obtain ⟨hI1, hI2⟩ := hI
  have hok := U5 hr (L.take i)
  rw [List.length_take] at hok
  have hfit := U2 hok (by omega)
  refine Av ?_
  have hc : (i < L.length ∧ i < 20) ∨ (i < L.length ∧ 20 ≤ i) ∨ L.length ≤ i := by omega
  rcases hc with ⟨h1, h2⟩ | ⟨h1, h2⟩ | h1
  obtain ⟨y, hy⟩ : ∃ y, L[i]? = some y := ⟨_, List.getElem?_eq_getElem h1⟩
  obtain ⟨hy1, hy2, hy3⟩ := hY y (List.mem_of_getElem? hy)
  obtain ⟨⟨d1, e1⟩, happ⟩ : ∃ R, Ci (DC room (L.take i)) y.n y.d = R := ⟨_, rfl⟩
  have hd1 : d1 = DC room (L.take (i + 1)) := by rw [QE hy, happ]
  subst hd1
  have hrm : 0 ≤ (DC room (L.take i)).room ∧ (DC room (L.take i)).room ≤ 1048576 := by rw [hok.rm]; exact hr
  refine Ad (Ae Ag rfl (Aa rfl (.int .i64 (L.length : Int)) (fun b w hb hH => Bf ((hH.rdFs 2 rfl hX)) Tryz.underlying55 rfl rfl hb) (Aa rfl (.bool true) (fun b w hb hH => AZ rfl rfl rfl (Bw (by omega)) hb) (Ae Ag rfl (Aa rfl (.bool true) (fun b w hb hH => AZ rfl rfl rfl (Bw (by omega)) hb) (Ae Ag rfl (Ab (AI rfl (AB (AL (Av (Bo (Av ?_)))))))))))))
  refine BL 25 2 [⟨.quiet, [none, none], fun _ => .pointer (some ⟨p, 0, none⟩), []⟩, ⟨.quiet, [none, none], fun _ => v, []⟩, ⟨.quiet, [none, none], fun _ => .int .i64 ((i : Nat) : Int), []⟩, ⟨.quiet, [none, none], fun _ => BN v (i * 2), [1, 2]⟩, ⟨.quiet, [none, none], fun _ => BN v (i * 2 + 0), [3]⟩, ⟨.quiet, [none, none], fun _ => .string (bs y.n), [4]⟩, ⟨.quiet, [none, none], fun _ => v, []⟩, ⟨.quiet, [none, none], fun _ => .int .i64 ((i : Nat) : Int), []⟩, ⟨.quiet, [none, none], fun _ => BN v (i * 2), [6, 7]⟩, ⟨.quiet, [none, none], fun _ => BN v (i * 2 + 1), [8]⟩, ⟨.quiet, [none, none], fun _ => .slice y.A y.d.length y.c, [9]⟩, ⟨.actv 0, [some false, some false], fun _ => .int .i64 (e1 : Int), [0, 5, 10]⟩, ⟨.quiet, [none, none], fun _ => .pointer (some ⟨q, 0, none⟩), []⟩, ⟨.quiet, [none, none], fun _ => v, []⟩, ⟨.quiet, [none, none], fun _ => .int .i64 ((i : Nat) : Int), []⟩, ⟨.quiet, [none, none], fun _ => BN v (i * 2), [13, 14]⟩, ⟨.quiet, [none, none], fun _ => BN v (i * 2 + 0), [15]⟩, ⟨.quiet, [none, none], fun _ => .string (bs y.n), [16]⟩, ⟨.quiet, [none, none], fun _ => v, []⟩, ⟨.quiet, [none, none], fun _ => .int .i64 ((i : Nat) : Int), []⟩, ⟨.quiet, [none, none], fun _ => BN v (i * 2), [18, 19]⟩, ⟨.quiet, [none, none], fun _ => BN v (i * 2 + 1), [20]⟩, ⟨.quiet, [none, none], fun _ => .slice y.A y.d.length y.c, [21]⟩, ⟨.actv 1, [some true, some false], fun _ => .int .i64 (e1 : Int), [12, 17, 22]⟩, ⟨.quiet, [some true, some true], fun _ => .bool false, [11, 23]⟩] [(1, v), (4, .pointer none), (5, .pointer none), (6, .bool false), (7, .pointer (some ⟨p, 0, none⟩)), (9, .pointer (some ⟨q, 0, none⟩)), (10, .int .i64 ((i : Nat) : Int)), (25, .int .i64 ((i : Nat) : Int)), (26, v), (27, .int .i64 (L.length : Int)), (28, .bool true), (29, .bool true), (30, .int .i64 ((i : Nat) : Int)), (31, .bool true), (32, .bool true)] (fun ρ => match ρ with | [r0, r1] => [Co r1 (fun _ => An q (DC room (L.take (i + 1)))) (An q (DC room (L.take i))), Co r0 (fun _ => Ao p (DC room (L.take (i + 1)))) (Ao p (DC room (L.take i))), X, Y] | _ => []) (by kernel_rfl) (by kernel_rfl) ⟨rfl, rfl, rfl, rfl, rfl, rfl, rfl, rfl, rfl, rfl, rfl, rfl, rfl, rfl, rfl, trivial⟩ rfl ?_ ?_
  refine Ac (by intro r0_ r1_; exact ⟨rfl, fun b w hH hb => Af Ag rfl hb⟩) (Ac (by intro r0_ r1_; exact ⟨rfl, fun b w hH hb => Af Ag rfl hb⟩) (Ac (by intro r0_ r1_; exact ⟨rfl, fun b w hH hb => Af Ag rfl hb⟩) (Ac (by intro r0_ r1_; exact ⟨rfl, fun b w hH hb => BH B3 ((hH.rdFs 2 rfl hX)) AD (j := i) hy rfl rfl rfl hb⟩) (Ac (by intro r0_ r1_; exact ⟨rfl, fun b w hH hb => JH B3 (by decide) ((hH.rdFs 2 rfl hX)) (j := i) hy BE rfl rfl hb⟩) (Ac (by intro r0_ r1_; exact ⟨rfl, fun b w hH hb => Bu B3 (by decide) ((hH.rdFs 2 rfl hX)) (j := i) hy Bd (off := 0) rfl rfl rfl hb⟩) (Ac (by intro r0_ r1_; exact ⟨rfl, fun b w hH hb => Af Ag rfl hb⟩) (Ac (by intro r0_ r1_; exact ⟨rfl, fun b w hH hb => Af Ag rfl hb⟩) (Ac (by intro r0_ r1_; exact ⟨rfl, fun b w hH hb => BH B3 ((hH.rdFs 2 rfl hX)) AD (j := i) hy rfl rfl rfl hb⟩) (Ac (by intro r0_ r1_; exact ⟨rfl, fun b w hH hb => JH B3 (by decide) ((hH.rdFs 2 rfl hX)) (j := i) hy BP rfl rfl hb⟩) ?_)))))))))
  refine Ac (by intro r0_ r1_; exact ⟨rfl, fun b w hH hb => Bu B3 (by decide) ((hH.rdFs 2 rfl hX)) (j := i) hy Cx (off := 1) rfl rfl rfl hb⟩) (Ac (by exact ⟨rfl, Bk.su (Ak (os' := fun _ => [An q (DC room (L.take i)), Ao p (DC room (L.take (i + 1))), X, Y]) [1, 3] 0 (Ai Tryz.func22 (by kernel_rfl) rfl) (Jr hfit hy2 hy1 happ) rfl rfl rfl (fun _ => rfl) rfl rfl rfl) rfl⟩) (Ac (by intro r0_ r1_; exact ⟨rfl, fun b w hH hb => Af Ag rfl hb⟩) (Ac (by intro r0_ r1_; exact ⟨rfl, fun b w hH hb => Af Ag rfl hb⟩) (Ac (by intro r0_ r1_; exact ⟨rfl, fun b w hH hb => Af Ag rfl hb⟩) (Ac (by intro r0_ r1_; exact ⟨rfl, fun b w hH hb => BH B3 ((hH.rdFs 2 rfl hX)) AD (j := i) hy rfl rfl rfl hb⟩) (Ac (by intro r0_ r1_; exact ⟨rfl, fun b w hH hb => JH B3 (by decide) ((hH.rdFs 2 rfl hX)) (j := i) hy BE rfl rfl hb⟩) (Ac (by intro r0_ r1_; exact ⟨rfl, fun b w hH hb => Bu B3 (by decide) ((hH.rdFs 2 rfl hX)) (j := i) hy Bd (off := 0) rfl rfl rfl hb⟩) (Ac (by intro r0_ r1_; exact ⟨rfl, fun b w hH hb => Af Ag rfl hb⟩) (Ac (by intro r0_ r1_; exact ⟨rfl, fun b w hH hb => Af Ag rfl hb⟩) ?_)))))))))
  refine Ac (by intro r0_ r1_; exact ⟨rfl, fun b w hH hb => BH B3 ((hH.rdFs 2 rfl hX)) AD (j := i) hy rfl rfl rfl hb⟩) (Ac (by intro r0_ r1_; exact ⟨rfl, fun b w hH hb => JH B3 (by decide) ((hH.rdFs 2 rfl hX)) (j := i) hy BP rfl rfl hb⟩) (Ac (by intro r0_ r1_; exact ⟨rfl, fun b w hH hb => Bu B3 (by decide) ((hH.rdFs 2 rfl hX)) (j := i) hy Cx (off := 1) rfl rfl rfl hb⟩) (Ac (by intro v0_; exact ⟨rfl, Bk.su (Ak (os' := fun _ => [An q (DC room (L.take (i + 1))), Ao p (DC room (L.take (i + 1))), X, Y]) [0, 3] 0 (Ai Tryz.func23 (by kernel_rfl) rfl) (RD hfit hrm hy1 hy2 hy3 happ) rfl rfl rfl (fun _ => rfl) rfl rfl rfl) rfl⟩) (Ac (by intro v0_ v1_; exact ⟨rfl, fun b w hH hb => AZ rfl rfl rfl (AP (by simp)) hb⟩) ?_))))
  exact B7
  intro v0_ v1_
  refine Cf.keep (env' := [(1, v), (4, .pointer none), (5, .pointer none), (6, .bool false), (7, .pointer (some ⟨p, 0, none⟩)), (9, .pointer (some ⟨q, 0, none⟩)), (10, .int .i64 ((i : Nat) : Int)), (25, .int .i64 ((i : Nat) : Int)), (26, v), (27, .int .i64 (L.length : Int)), (28, .bool true), (29, .bool true), (30, .int .i64 ((i : Nat) : Int)), (31, .bool true), (32, .bool true), (35, .pointer (some ⟨p, 0, none⟩)), (36, v), (37, .int .i64 ((i : Nat) : Int)), (38, BN v (i * 2)), (39, BN v (i * 2 + 0)), (40, .string (bs y.n)), (41, v), (42, .int .i64 ((i : Nat) : Int)), (43, BN v (i * 2)), (44, BN v (i * 2 + 1)), (45, .slice y.A y.d.length y.c), (46, .int .i64 (e1 : Int)), (47, .pointer (some ⟨q, 0, none⟩)), (48, v), (49, .int .i64 ((i : Nat) : Int)), (50, BN v (i * 2)), (51, BN v (i * 2 + 0)), (52, .string (bs y.n)), (53, v), (54, .int .i64 ((i : Nat) : Int)), (55, BN v (i * 2)), (56, BN v (i * 2 + 1)), (57, .slice y.A y.d.length y.c), (58, .int .i64 (e1 : Int)), (59, .bool false)]) ⟨rfl, rfl, rfl, rfl, rfl, rfl, rfl, rfl, rfl, rfl, rfl, rfl, rfl, rfl, rfl, rfl, rfl, rfl, rfl, rfl, rfl, rfl, rfl, rfl, rfl, rfl, rfl, rfl, rfl, rfl, rfl, rfl, rfl, rfl, rfl, rfl, rfl, rfl, rfl, rfl, trivial⟩ (AV (AL (As rfl (AB (BC (AL (Bp (Ae Ag rfl (Aa rfl (.int .i64 ((i + 1 : Nat) : Int)) (fun b w hb hH => AQ rfl rfl rfl rfl (by rw [IntWalk.i64_in _ (by omega)]; omega) hb) (Ae Ag rfl (AV ?_)))))))))))
  exact Cr (i + 1) 0 ⟨h1, h2⟩ (show L.length - (i + 1) < L.length - i by omega) ⟨rfl, rfl, rfl, rfl, rfl, rfl, rfl, trivial⟩ rfl
  have hI20 : L.take i = L.take 20 := by by_cases h9 : i = 20; rw [h9]; rw [List.take_of_length_le (by omega), List.take_of_length_le (by omega)]
  rw [hI20] at hok hfit
  have hsy := MG hok
  rw [hI20]
  refine Ad (Ae Ag rfl (Aa rfl (.int .i64 (L.length : Int)) (fun b w hb hH => Bf ((hH.rdFs 2 rfl hX)) Tryz.underlying55 rfl rfl hb) (Aa rfl (.bool true) (fun b w hb hH => AZ rfl rfl rfl (Bw (by omega)) hb) (Ae Ag rfl (Aa rfl (.bool false) (fun b w hb hH => AZ rfl rfl rfl (BS (by omega)) hb) (Ae Ag rfl (Ab (As rfl (CP (FP (FP (Br (AL (Ad (Ae Ag rfl (Aj rfl (Ak (os' := fun _ => [An q (DC room (L.take 20)), Ao p (HH room L), X, Y]) [1] 0 (Ai Tryz.func9 (by kernel_rfl) rfl) (Gm hfit hsy) rfl rfl rfl (fun _ => rfl) rfl rfl rfl) ?_)))))))))))))))); rintro ⟨⟩
  refine Ae Ag rfl (Aj rfl (Ak (os' := fun _ => [An q (HH room L), Ao p (HH room L), X, Y]) [0] 0 (Ai Tryz.func10 (by kernel_rfl) rfl) (RF hfit hsy) rfl rfl rfl (fun _ => rfl) rfl rfl rfl) ?_); rintro ⟨⟩
  refine Aa rfl (.bool true) (fun b w hb hH => AZ rfl rfl rfl (GT (by decide)) hb) (Ae Ag rfl (Ab (Ax ?_)))
  exact EM (.tmp rfl) (.tmp rfl) (.tmp rfl) (fun w h => AH (X := Nat × Nat) (p, q) rfl [2, 3, 1, 0] rfl h CK) rfl
  have hI20 : L.take i = L.take 20 := by by_cases h9 : i = 20; rw [h9]; rw [List.take_of_length_le (by omega), List.take_of_length_le (by omega)]
  rw [hI20] at hok hfit
  have hsy := MG hok
  rw [hI20]
  refine Ad (Ae Ag rfl (Aa rfl (.int .i64 (L.length : Int)) (fun b w hb hH => Bf ((hH.rdFs 2 rfl hX)) Tryz.underlying55 rfl rfl hb) (Aa rfl (.bool false) (fun b w hb hH => AZ rfl rfl rfl (BS (by omega)) hb) (Ae Ag rfl (Ab (As rfl (CP (FP (FP (Br (AL (Ad (Ae Ag rfl (Aj rfl (Ak (os' := fun _ => [An q (DC room (L.take 20)), Ao p (HH room L), X, Y]) [1] 0 (Ai Tryz.func9 (by kernel_rfl) rfl) (Gm hfit hsy) rfl rfl rfl (fun _ => rfl) rfl rfl rfl) ?_)))))))))))))); rintro ⟨⟩
  refine Ae Ag rfl (Aj rfl (Ak (os' := fun _ => [An q (HH room L), Ao p (HH room L), X, Y]) [0] 0 (Ai Tryz.func10 (by kernel_rfl) rfl) (RF hfit hsy) rfl rfl rfl (fun _ => rfl) rfl rfl rfl) ?_); rintro ⟨⟩
  refine Aa rfl (.bool true) (fun b w hb hH => AZ rfl rfl rfl (GT (by decide)) hb) (Ae Ag rfl (Ab (Ax ?_)))
  exact EM (.tmp rfl) (.tmp rfl) (.tmp rfl) (fun w h => AH (X := Nat × Nat) (p, q) rfl [2, 3, 1, 0] rfl h CK) rfl
end Go.Proofs.YtjcfimmcogkopaaGreat.Sep
