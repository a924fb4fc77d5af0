/-
  HdQ
-/
import Derived.Test.YtnknboibmifacaaGreatYJ01
import Derived.Test.YtnknboibmifacaaGreatYP01
set_option linter.unusedSimpArgs false
set_option linter.unusedVariables false
namespace Go.Proofs.YtnknboibmifacaaGreat.Sep
open Go.RowKit
open Go.Proofs.YtnknboibmifacaaGreat.Mem (Bd Cj Chg AF)
def C8 (room : Int) (L : List RFl) : DiskD := L.foldl (fun d y => (Cl d y.n y.d).1) (HU room)
def EG (room : Int) (L : List RFl) : DiskD := { C8 room (L.take 20) with syn := (C8 room (L.take 20)).now, wait := [] }
structure LaidOk (room : Int) (k : Nat) (d : DiskD) : Prop where
  up : d.down = false
  fz : d.fuse = none
  rm : d.room = room
  sy : d.syn = []
  wl : d.wait.length ≤ k
  sz : (d.wait.map OpD.size).sum = AE d.now
  le : AE d.now ≤ 1048576
  nd : (AI d.now).Nodup
theorem TB {room : Int} {k : Nat} {d : DiskD} (h : LaidOk room k d) (hk : k ≤ 9000) : d.fit := ⟨by rw [h.sy, h.sz]; have := h.le; show 0 + _ ≤ _; omega, by have := h.wl; omega⟩
theorem TC {room : Int} (hr : 0 ≤ room ∧ room ≤ 1048576) : LaidOk room 0 (HU room) := ⟨rfl, rfl, rfl, rfl, Nat.le_refl _, rfl, Nat.zero_le _, List.nodup_nil⟩
theorem TD {room : Int} {k : Nat} {d : DiskD} (hr : 0 ≤ room ∧ room ≤ 1048576) (h : LaidOk room k d) (n b : List UInt8) : LaidOk room (k + 1) (Cl d n b).1 := by
  have hsame : LaidOk room (k + 1) d := ⟨h.up, h.fz, h.rm, h.sy, Nat.le_succ_of_le h.wl, h.sz, h.le, h.nd⟩
  unfold Cl
  rw [EF h.up h.fz]
  simp only
  rw [if_neg (by simp)]
  split
  · exact hsame
  · split
    · exact hsame
    · rename_i hf
      have hf2 : EC d n b = true := by simpa using hf
      have h1 := (Lc hf2).2.1
      have h2 := (Lc hf2).1
      rw [h.rm] at h1 h2
      have hu := Gz h.nd n b
      refine ⟨h.up, h.fz, h.rm, h.sy, ?_, ?_, ?_, ?_⟩
      · show (d.wait ++ [_]).length ≤ _
        have := h.wl
        rw [List.length_append]; simp only [List.length_cons, List.length_nil]; omega
      · show ((d.wait ++ [OpD.app n b]).map OpD.size).sum = _
        rw [CJ, hu, List.map_append, List.sum_append, h.sz]
        simp [OpD.size]
      · rw [CJ, hu]; omega
      · rw [CJ]; exact FW h.nd _
theorem Qu {room : Int} (hr : 0 ≤ room ∧ room ≤ 1048576) : ∀ (L : List RFl) (k : Nat) (d : DiskD), LaidOk room k d → LaidOk room (k + L.length) (L.foldl (fun d y => (Cl d y.n y.d).1) d)
  | [], _, _, h => h
  | y :: L, k, d, h => by
    have := Qu hr L (k + 1) _ (TD hr h y.n y.d)
    rw [List.length_cons, show k + (L.length + 1) = k + 1 + L.length by omega]
    exact this
theorem N2 {room : Int} (hr : 0 ≤ room ∧ room ≤ 1048576) (L : List RFl) : LaidOk room L.length (C8 room L) := by
 have := Qu hr L 0 _ (TC hr)
 rwa [Nat.zero_add] at this
theorem PA {room : Int} {L : List RFl} {i : Nat} {y : RFl} (h : L[i]? = some y) : C8 room (L.take (i + 1)) = (Cl (C8 room (L.take i)) y.n y.d).1 := by
 unfold C8
 rw [List.take_add_one, h, List.foldl_append]; rfl
theorem L0 {room : Int} {k : Nat} {d : DiskD} (h : LaidOk room k d) : Ge d = ({ d with syn := d.now, wait := [] }, 0) := by
 unfold Ge
 rw [EF h.up h.fz]
 simp only
 rw [if_neg (by simp)]
set_option maxRecDepth 100000 in
theorem Ho {X Y : Ass} {v : Value} {L : List RFl} {room : Int} (hr : 0 ≤ room ∧ room ≤ 1048576) (hX : Fh X v L) (hll : L.length ≤ 9223372036854775806) (hY : ∀ y : RFl, y ∈ L → Cw Y y.v y.d ∧ y.d.length ≤ 140737488355328 ∧ y.n.length ≤ 9223372036854775807) : AS Tryz.prog 5 #[.int .i64 room, v] [X, Y] (fun (x : Nat × Nat) => .tuple #[.pointer (some ⟨x.1, 0, none⟩), .pointer (some ⟨x.2, 0, none⟩), .bool true]) (fun (x : Nat × Nat) => [X, Y, Ap x.1 (EG room L), AA x.2 (EG room L)]) := by
  refine A6 (args := [.int .i64 room, v]) 67 Tryz.func5 rfl rfl rfl ?_; intro w rs
  refine Ad ?_
  refine Af Ak rfl ?_
  refine Ab (Ad ?_)
  refine Af Ak rfl ?_
  refine Ai rfl (Am (os' := fun p => [Ap p (HU room), X, Y]) [] 0 (Ah Tryz.func20 (by kernel_rfl) rfl) (Nz room hr) rfl rfl rfl (fun _ => rfl) rfl rfl rfl) ?_; rintro p
  refine Af Ak rfl ?_
  refine Ab (Aq (Ad ?_))
  refine Af Ak rfl ?_
  refine Ac rfl (.bool false) (fun b w hb hH => Bh rfl rfl rfl (AU (by decide)) hb) ?_
  refine Af Ak rfl ?_
  refine Ac rfl (.bool false) (fun b w hb hH => DL (by kernel_rfl) rfl rfl rfl hb) ?_
  refine Af Ak rfl ?_
  refine Ab (Au rfl (Ax (AG (Ad ?_))))
  refine Af Ak rfl ?_
  refine Ac rfl (.agg #[.int .i64 room, .slice none 0 0, .slice none 0 0, .slice none 0 0, .bool false, .int .i64 0, .bool false]) (fun b w hb hH => AV rfl rfl (by kernel_rfl) hb) ?_
  refine Ai (post := fun q => [cell q 59 #[.int .i64 room, .slice none 0 0, .slice none 0 0, .slice none 0 0, .bool false, .int .i64 0, .bool false], Ap p (HU room), X, Y]) rfl (CZ (cs := #[.int .i64 room, .slice none 0 0, .slice none 0 0, .slice none 0 0, .bool false, .int .i64 0, .bool false]) rfl rfl rfl) ?_; rintro q
  refine Af Ak rfl ?_
  refine Ab (Aq ?_)
  refine Bf [0] rfl Tp rfl ?_
  refine Ad ?_
  refine Af Ak rfl ?_
  refine Ab (AX ?_)
  refine CE (α := Nat) (fun i => [(1, v), (4, .pointer none), (5, .pointer none), (6, .bool false), (7, .pointer (some ⟨p, 0, none⟩)), (9, .pointer (some ⟨q, 0, none⟩)), (10, .int .i64 ((i : Nat) : Int))]) (fun i => [AA q (C8 room (L.take i)), Ap p (C8 room (L.take i)), X, Y]) (fun i => i ≤ L.length ∧ i ≤ 20) (fun i => L.length - i) 0 ⟨Nat.zero_le _, Nat.zero_le _⟩ ⟨rfl, rfl, rfl, rfl, rfl, rfl, rfl, trivial⟩ rfl ?_
  rintro i hI
  refine Bo.at_ (env' := [(1, v), (4, .pointer none), (5, .pointer none), (6, .bool false), (7, .pointer (some ⟨p, 0, none⟩)), (9, .pointer (some ⟨q, 0, none⟩)), (10, .int .i64 ((i : Nat) : Int))]) (rs' := [AA q (C8 room (L.take i)), Ap p (C8 room (L.take i)), X, Y]) ⟨rfl, rfl, rfl, rfl, rfl, rfl, rfl, trivial⟩ rfl ?_
  obtain ⟨hI1, hI2⟩ := hI
  have hok := N2 hr (L.take i)
  rw [List.length_take] at hok
  have hfit := TB hok (by omega)
  refine Aq ?_
  have hc : (i < L.length ∧ i < 20) ∨ (i < L.length ∧ 20 ≤ i) ∨ L.length ≤ i := by omega
  rcases hc with ⟨h1, h2⟩ | ⟨h1, h2⟩ | h1
  · skip
    obtain ⟨y, hy⟩ : ∃ y, L[i]? = some y := ⟨_, List.getElem?_eq_getElem h1⟩
    obtain ⟨hy1, hy2, hy3⟩ := hY y (List.mem_of_getElem? hy)
    obtain ⟨⟨d1, e1⟩, happ⟩ : ∃ R, Cl (C8 room (L.take i)) y.n y.d = R := ⟨_, rfl⟩
    have hd1 : d1 = C8 room (L.take (i + 1)) := by rw [PA hy, happ]
    subst hd1
    have hrm : 0 ≤ (C8 room (L.take i)).room ∧ (C8 room (L.take i)).room ≤ 1048576 := by rw [hok.rm]; exact hr
    refine Ad ?_
    refine Af Ak rfl ?_
    refine Ac rfl (.int .i64 (L.length : Int)) (fun b w hb hH => AQ ((hH.rdFs 2 rfl hX)) Tryz.underlying53 rfl rfl hb) ?_
    refine Ac rfl (.bool true) (fun b w hb hH => Bh rfl rfl rfl (Bl (by omega)) hb) ?_
    refine Af Ak rfl ?_
    refine Ac rfl (.bool true) (fun b w hb hH => Bh rfl rfl rfl (Bl (by omega)) hb) ?_
    refine Af Ak rfl ?_
    refine Ab (AD rfl (Ax (AG (Aq (AX (Aq ?_))))))
    refine BM 25 2 [⟨.quiet, [none, none], fun _ => .pointer (some ⟨p, 0, none⟩), []⟩, ⟨.quiet, [none, none], fun _ => v, []⟩, ⟨.quiet, [none, none], fun _ => .int .i64 ((i : Nat) : Int), []⟩, ⟨.quiet, [none, none], fun _ => Cc v (i * 2), [1, 2]⟩, ⟨.quiet, [none, none], fun _ => Cc v (i * 2 + 0), [3]⟩, ⟨.quiet, [none, none], fun _ => .string (bs y.n), [4]⟩, ⟨.quiet, [none, none], fun _ => v, []⟩, ⟨.quiet, [none, none], fun _ => .int .i64 ((i : Nat) : Int), []⟩, ⟨.quiet, [none, none], fun _ => Cc v (i * 2), [6, 7]⟩, ⟨.quiet, [none, none], fun _ => Cc v (i * 2 + 1), [8]⟩, ⟨.quiet, [none, none], fun _ => .slice y.A y.d.length y.c, [9]⟩, ⟨.actv 0, [some false, some false], fun _ => .int .i64 (e1 : Int), [0, 5, 10]⟩, ⟨.quiet, [none, none], fun _ => .pointer (some ⟨q, 0, none⟩), []⟩, ⟨.quiet, [none, none], fun _ => v, []⟩, ⟨.quiet, [none, none], fun _ => .int .i64 ((i : Nat) : Int), []⟩, ⟨.quiet, [none, none], fun _ => Cc v (i * 2), [13, 14]⟩, ⟨.quiet, [none, none], fun _ => Cc v (i * 2 + 0), [15]⟩, ⟨.quiet, [none, none], fun _ => .string (bs y.n), [16]⟩, ⟨.quiet, [none, none], fun _ => v, []⟩, ⟨.quiet, [none, none], fun _ => .int .i64 ((i : Nat) : Int), []⟩, ⟨.quiet, [none, none], fun _ => Cc v (i * 2), [18, 19]⟩, ⟨.quiet, [none, none], fun _ => Cc v (i * 2 + 1), [20]⟩, ⟨.quiet, [none, none], fun _ => .slice y.A y.d.length y.c, [21]⟩, ⟨.actv 1, [some true, some false], fun _ => .int .i64 (e1 : Int), [12, 17, 22]⟩, ⟨.quiet, [some true, some true], fun _ => .bool false, [11, 23]⟩] [(1, v), (4, .pointer none), (5, .pointer none), (6, .bool false), (7, .pointer (some ⟨p, 0, none⟩)), (9, .pointer (some ⟨q, 0, none⟩)), (10, .int .i64 ((i : Nat) : Int)), (25, .int .i64 ((i : Nat) : Int)), (26, v), (27, .int .i64 (L.length : Int)), (28, .bool true), (29, .bool true), (30, .int .i64 ((i : Nat) : Int)), (31, .bool true), (32, .bool true)] (fun ρ => match ρ with | [r0, r1] => [CP r1 (fun _ => AA q (C8 room (L.take (i + 1)))) (AA q (C8 room (L.take i))), CP r0 (fun _ => Ap p (C8 room (L.take (i + 1)))) (Ap p (C8 room (L.take i))), X, Y] | _ => []) (by kernel_rfl) (by kernel_rfl) ⟨rfl, rfl, rfl, rfl, rfl, rfl, rfl, rfl, rfl, rfl, rfl, rfl, rfl, rfl, rfl, trivial⟩ rfl ?_ ?_
    · skip
      refine Aa (by intro r0_ r1_; exact ⟨rfl, fun b w hH hb => Ae Ak rfl hb⟩) ?_
      refine Aa (by intro r0_ r1_; exact ⟨rfl, fun b w hH hb => Ae Ak rfl hb⟩) ?_
      refine Aa (by intro r0_ r1_; exact ⟨rfl, fun b w hH hb => Ae Ak rfl hb⟩) ?_
      refine Aa (by intro r0_ r1_; exact ⟨rfl, fun b w hH hb => BA BH ((hH.rdFs 2 rfl hX)) Ar (j := i) hy rfl rfl rfl hb⟩) ?_
      refine Aa (by intro r0_ r1_; exact ⟨rfl, fun b w hH hb => Lf BH (by decide) ((hH.rdFs 2 rfl hX)) (j := i) hy Bv rfl rfl hb⟩) ?_
      refine Aa (by intro r0_ r1_; exact ⟨rfl, fun b w hH hb => Bp BH (by decide) ((hH.rdFs 2 rfl hX)) (j := i) hy AR (off := 0) rfl rfl rfl hb⟩) ?_
      refine Aa (by intro r0_ r1_; exact ⟨rfl, fun b w hH hb => Ae Ak rfl hb⟩) ?_
      refine Aa (by intro r0_ r1_; exact ⟨rfl, fun b w hH hb => Ae Ak rfl hb⟩) ?_
      refine Aa (by intro r0_ r1_; exact ⟨rfl, fun b w hH hb => BA BH ((hH.rdFs 2 rfl hX)) Ar (j := i) hy rfl rfl rfl hb⟩) ?_
      refine Aa (by intro r0_ r1_; exact ⟨rfl, fun b w hH hb => Lf BH (by decide) ((hH.rdFs 2 rfl hX)) (j := i) hy Bw rfl rfl hb⟩) ?_
      refine Aa (by intro r0_ r1_; exact ⟨rfl, fun b w hH hb => Bp BH (by decide) ((hH.rdFs 2 rfl hX)) (j := i) hy C3 (off := 1) rfl rfl rfl hb⟩) ?_
      refine Aa (by exact ⟨rfl, Br.su (Am (os' := fun _ => [AA q (C8 room (L.take i)), Ap p (C8 room (L.take (i + 1))), X, Y]) [1, 3] 0 (Ah Tryz.func21 (by kernel_rfl) rfl) (GE hfit hy2 hy1 happ) rfl rfl rfl (fun _ => rfl) rfl rfl rfl) rfl⟩) ?_
      refine Aa (by intro r0_ r1_; exact ⟨rfl, fun b w hH hb => Ae Ak rfl hb⟩) ?_
      refine Aa (by intro r0_ r1_; exact ⟨rfl, fun b w hH hb => Ae Ak rfl hb⟩) ?_
      refine Aa (by intro r0_ r1_; exact ⟨rfl, fun b w hH hb => Ae Ak rfl hb⟩) ?_
      refine Aa (by intro r0_ r1_; exact ⟨rfl, fun b w hH hb => BA BH ((hH.rdFs 2 rfl hX)) Ar (j := i) hy rfl rfl rfl hb⟩) ?_
      refine Aa (by intro r0_ r1_; exact ⟨rfl, fun b w hH hb => Lf BH (by decide) ((hH.rdFs 2 rfl hX)) (j := i) hy Bv rfl rfl hb⟩) ?_
      refine Aa (by intro r0_ r1_; exact ⟨rfl, fun b w hH hb => Bp BH (by decide) ((hH.rdFs 2 rfl hX)) (j := i) hy AR (off := 0) rfl rfl rfl hb⟩) ?_
      refine Aa (by intro r0_ r1_; exact ⟨rfl, fun b w hH hb => Ae Ak rfl hb⟩) ?_
      refine Aa (by intro r0_ r1_; exact ⟨rfl, fun b w hH hb => Ae Ak rfl hb⟩) ?_
      refine Aa (by intro r0_ r1_; exact ⟨rfl, fun b w hH hb => BA BH ((hH.rdFs 2 rfl hX)) Ar (j := i) hy rfl rfl rfl hb⟩) ?_
      refine Aa (by intro r0_ r1_; exact ⟨rfl, fun b w hH hb => Lf BH (by decide) ((hH.rdFs 2 rfl hX)) (j := i) hy Bw rfl rfl hb⟩) ?_
      refine Aa (by intro r0_ r1_; exact ⟨rfl, fun b w hH hb => Bp BH (by decide) ((hH.rdFs 2 rfl hX)) (j := i) hy C3 (off := 1) rfl rfl rfl hb⟩) ?_
      refine Aa (by intro v0_; exact ⟨rfl, Br.su (Am (os' := fun _ => [AA q (C8 room (L.take (i + 1))), Ap p (C8 room (L.take (i + 1))), X, Y]) [0, 3] 0 (Ah Tryz.func22 (by kernel_rfl) rfl) (Uz hfit hrm hy1 hy2 hy3 happ) rfl rfl rfl (fun _ => rfl) rfl rfl rfl) rfl⟩) ?_
      refine Aa (by intro v0_ v1_; exact ⟨rfl, fun b w hH hb => Bh rfl rfl rfl (AU (by simp)) hb⟩) ?_
      exact B7
    intro v0_ v1_
    refine Ch.keep (env' := [(1, v), (4, .pointer none), (5, .pointer none), (6, .bool false), (7, .pointer (some ⟨p, 0, none⟩)), (9, .pointer (some ⟨q, 0, none⟩)), (10, .int .i64 ((i : Nat) : Int)), (25, .int .i64 ((i : Nat) : Int)), (26, v), (27, .int .i64 (L.length : Int)), (28, .bool true), (29, .bool true), (30, .int .i64 ((i : Nat) : Int)), (31, .bool true), (32, .bool true), (35, .pointer (some ⟨p, 0, none⟩)), (36, v), (37, .int .i64 ((i : Nat) : Int)), (38, Cc v (i * 2)), (39, Cc v (i * 2 + 0)), (40, .string (bs y.n)), (41, v), (42, .int .i64 ((i : Nat) : Int)), (43, Cc v (i * 2)), (44, Cc v (i * 2 + 1)), (45, .slice y.A y.d.length y.c), (46, .int .i64 (e1 : Int)), (47, .pointer (some ⟨q, 0, none⟩)), (48, v), (49, .int .i64 ((i : Nat) : Int)), (50, Cc v (i * 2)), (51, Cc v (i * 2 + 0)), (52, .string (bs y.n)), (53, v), (54, .int .i64 ((i : Nat) : Int)), (55, Cc v (i * 2)), (56, Cc v (i * 2 + 1)), (57, .slice y.A y.d.length y.c), (58, .int .i64 (e1 : Int)), (59, .bool false)]) ⟨rfl, rfl, rfl, rfl, rfl, rfl, rfl, rfl, rfl, rfl, rfl, rfl, rfl, rfl, rfl, rfl, rfl, rfl, rfl, rfl, rfl, rfl, rfl, rfl, rfl, rfl, rfl, rfl, rfl, rfl, rfl, rfl, rfl, rfl, rfl, rfl, rfl, rfl, rfl, rfl, trivial⟩ ?_
    refine AP (AG (Au rfl (Ax (BJ (AG (BI ?_))))))
    refine Af Ak rfl ?_
    refine Ac rfl (.int .i64 ((i + 1 : Nat) : Int)) (fun b w hb hH => AK rfl rfl rfl rfl (by rw [IntWalk.i64_in _ (by omega)]; omega) hb) ?_
    refine Af Ak rfl ?_
    refine AP ?_
    exact Cr (i + 1) 0 ⟨h1, h2⟩ (show L.length - (i + 1) < L.length - i by omega) ⟨rfl, rfl, rfl, rfl, rfl, rfl, rfl, trivial⟩ rfl
  · skip
    have hI20 : L.take i = L.take 20 := by by_cases h9 : i = 20; rw [h9]; rw [List.take_of_length_le (by omega), List.take_of_length_le (by omega)]
    rw [hI20] at hok hfit
    have hsy := L0 hok
    rw [hI20]
    refine Ad ?_
    refine Af Ak rfl ?_
    refine Ac rfl (.int .i64 (L.length : Int)) (fun b w hb hH => AQ ((hH.rdFs 2 rfl hX)) Tryz.underlying53 rfl rfl hb) ?_
    refine Ac rfl (.bool true) (fun b w hb hH => Bh rfl rfl rfl (Bl (by omega)) hb) ?_
    refine Af Ak rfl ?_
    refine Ac rfl (.bool false) (fun b w hb hH => Bh rfl rfl rfl (Bu (by omega)) hb) ?_
    refine Af Ak rfl ?_
    refine Ab (Au rfl (Cu (EO (EO (Bc (AG (Ad ?_)))))))
    refine Af Ak rfl ?_
    refine Ai rfl (Am (os' := fun _ => [AA q (C8 room (L.take 20)), Ap p (EG room L), X, Y]) [1] 0 (Ah Tryz.func9 (by kernel_rfl) rfl) (Jp hfit hsy) rfl rfl rfl (fun _ => rfl) rfl rfl rfl) ?_; rintro ⟨⟩
    refine Af Ak rfl ?_
    refine Ai rfl (Am (os' := fun _ => [AA q (EG room L), Ap p (EG room L), X, Y]) [0] 0 (Ah Tryz.func10 (by kernel_rfl) rfl) (UP hfit hsy) rfl rfl rfl (fun _ => rfl) rfl rfl rfl) ?_; rintro ⟨⟩
    refine Ac rfl (.bool true) (fun b w hb hH => Bh rfl rfl rfl (Ks (by decide)) hb) ?_
    refine Af Ak rfl ?_
    refine Ab (Az ?_)
    exact Me (.tmp rfl) (.tmp rfl) (.tmp rfl) (fun w h => AB (X := Nat × Nat) (p, q) rfl [2, 3, 1, 0] rfl h Cz) rfl
  · skip
    have hI20 : L.take i = L.take 20 := by by_cases h9 : i = 20; rw [h9]; rw [List.take_of_length_le (by omega), List.take_of_length_le (by omega)]
    rw [hI20] at hok hfit
    have hsy := L0 hok
    rw [hI20]
    refine Ad ?_
    refine Af Ak rfl ?_
    refine Ac rfl (.int .i64 (L.length : Int)) (fun b w hb hH => AQ ((hH.rdFs 2 rfl hX)) Tryz.underlying53 rfl rfl hb) ?_
    refine Ac rfl (.bool false) (fun b w hb hH => Bh rfl rfl rfl (Bu (by omega)) hb) ?_
    refine Af Ak rfl ?_
    refine Ab (Au rfl (Cu (EO (EO (Bc (AG (Ad ?_)))))))
    refine Af Ak rfl ?_
    refine Ai rfl (Am (os' := fun _ => [AA q (C8 room (L.take 20)), Ap p (EG room L), X, Y]) [1] 0 (Ah Tryz.func9 (by kernel_rfl) rfl) (Jp hfit hsy) rfl rfl rfl (fun _ => rfl) rfl rfl rfl) ?_; rintro ⟨⟩
    refine Af Ak rfl ?_
    refine Ai rfl (Am (os' := fun _ => [AA q (EG room L), Ap p (EG room L), X, Y]) [0] 0 (Ah Tryz.func10 (by kernel_rfl) rfl) (UP hfit hsy) rfl rfl rfl (fun _ => rfl) rfl rfl rfl) ?_; rintro ⟨⟩
    refine Ac rfl (.bool true) (fun b w hb hH => Bh rfl rfl rfl (Ks (by decide)) hb) ?_
    refine Af Ak rfl ?_
    refine Ab (Az ?_)
    exact Me (.tmp rfl) (.tmp rfl) (.tmp rfl) (fun w h => AB (X := Nat × Nat) (p, q) rfl [2, 3, 1, 0] rfl h Cz) rfl
end Go.Proofs.YtnknboibmifacaaGreat.Sep
