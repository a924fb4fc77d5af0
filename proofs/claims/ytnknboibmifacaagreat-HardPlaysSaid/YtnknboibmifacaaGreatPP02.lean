/-
  HdQ
-/
import Derived.Test.YtnknboibmifacaaGreatPJ01
import Derived.Test.YtnknboibmifacaaGreatPP01
set_option linter.unusedSimpArgs false
set_option linter.unusedVariables false
namespace Go.Proofs.YtnknboibmifacaaGreat.Sep
open Go.RowKit
open Go.Proofs.YtnknboibmifacaaGreat.Mem (Bl Co Chg AG)
def Dw (room : Int) (L : List RFl) : DiskD := L.foldl (fun d y => (Cp d y.n y.d).1) (GW room)
def Hi (room : Int) (L : List RFl) : DiskD := { Dw room (L.take 20) with syn := (Dw room (L.take 20)).now, wait := [] }
structure LaidOk (room : Int) (k : Nat) (d : DiskD) : Prop where
  up : d.down = false
  fz : d.fuse = none
  rm : d.room = room
  sy : d.syn = []
  wl : d.wait.length ≤ k
  sz : (d.wait.map OpD.size).sum = AK d.now
  le : AK d.now ≤ 1048576
  nd : (AL d.now).Nodup
theorem TV {room : Int} {k : Nat} {d : DiskD} (h : LaidOk room k d) (hk : k ≤ 9000) : d.fit := ⟨by rw [h.sy, h.sz]; have := h.le; show 0 + _ ≤ _; omega, by have := h.wl; omega⟩
theorem TW {room : Int} (hr : 0 ≤ room ∧ room ≤ 1048576) : LaidOk room 0 (GW room) := ⟨rfl, rfl, rfl, rfl, Nat.le_refl _, rfl, Nat.zero_le _, List.nodup_nil⟩
theorem TX {room : Int} {k : Nat} {d : DiskD} (hr : 0 ≤ room ∧ room ≤ 1048576) (h : LaidOk room k d) (n b : List UInt8) : LaidOk room (k + 1) (Cp d n b).1 := by
  have hsame : LaidOk room (k + 1) d := ⟨h.up, h.fz, h.rm, h.sy, Nat.le_succ_of_le h.wl, h.sz, h.le, h.nd⟩
  unfold Cp
  rw [EY h.up h.fz]
  simp only
  rw [if_neg (by simp)]
  split
  · exact hsame
  · split
    · exact hsame
    · rename_i hf
      have hf2 : EW d n b = true := by simpa using hf
      have h1 := (Lx hf2).2.1
      have h2 := (Lx hf2).1
      rw [h.rm] at h1 h2
      have hu := FF h.nd n b
      refine ⟨h.up, h.fz, h.rm, h.sy, ?_, ?_, ?_, ?_⟩
      · show (d.wait ++ [_]).length ≤ _
        have := h.wl
        rw [List.length_append]; simp only [List.length_cons, List.length_nil]; omega
      · show ((d.wait ++ [OpD.app n b]).map OpD.size).sum = _
        rw [C2, hu, List.map_append, List.sum_append, h.sz]
        simp [OpD.size]
      · rw [C2, hu]; omega
      · rw [C2]; exact Gn h.nd _
theorem QJ {room : Int} (hr : 0 ≤ room ∧ room ≤ 1048576) : ∀ (L : List RFl) (k : Nat) (d : DiskD), LaidOk room k d → LaidOk room (k + L.length) (L.foldl (fun d y => (Cp d y.n y.d).1) d)
  | [], _, _, h => h
  | y :: L, k, d, h => by
    have := QJ hr L (k + 1) _ (TX hr h y.n y.d)
    rw [List.length_cons, show k + (L.length + 1) = k + 1 + L.length by omega]
    exact this
theorem TY {room : Int} (hr : 0 ≤ room ∧ room ≤ 1048576) (L : List RFl) : LaidOk room L.length (Dw room L) := by
 have := QJ hr L 0 _ (TW hr)
 rwa [Nat.zero_add] at this
theorem PP {room : Int} {L : List RFl} {i : Nat} {y : RFl} (h : L[i]? = some y) : Dw room (L.take (i + 1)) = (Cp (Dw room (L.take i)) y.n y.d).1 := by
 unfold Dw
 rw [List.take_add_one, h, List.foldl_append]; rfl
theorem Ml {room : Int} {k : Nat} {d : DiskD} (h : LaidOk room k d) : F1 d = ({ d with syn := d.now, wait := [] }, 0) := by
 unfold F1
 rw [EY h.up h.fz]
 simp only
 rw [if_neg (by simp)]
set_option maxRecDepth 100000 in
theorem R1 {X Y : Ass} {v : Value} {L : List RFl} {room : Int} (hr : 0 ≤ room ∧ room ≤ 1048576) (hX : Ff X v L) (hll : L.length ≤ 9223372036854775806) (hY : ∀ y : RFl, y ∈ L → CX Y y.v y.d ∧ y.d.length ≤ 140737488351232 ∧ y.n.length ≤ 9223372036854775807) : AU Tryz.prog 5 #[.int .i64 room, v] [X, Y] (fun (x : Nat × Nat) => .tuple #[.pointer (some ⟨x.1, 0, none⟩), .pointer (some ⟨x.2, 0, none⟩), .bool true]) (fun (x : Nat × Nat) => [X, Y, Ao x.1 (Hi room L), Au x.2 (Hi room L)]) := by
  refine Bd (args := [.int .i64 room, v]) 67 Tryz.func5 rfl rfl rfl ?_; intro w rs
  refine Ad ?_
  refine Ae Ai rfl ?_
  refine Aa (Ad ?_)
  refine Ae Ai rfl ?_
  refine Aj rfl (Al (os' := fun p => [Ao p (GW room), X, Y]) [] 0 (Ah Tryz.func20 (by kernel_rfl) rfl) (NQ room hr) rfl rfl rfl (fun _ => rfl) rfl rfl rfl) ?_; rintro p
  refine Ae Ai rfl ?_
  refine Aa (Aq (Ad ?_))
  refine Ae Ai rfl ?_
  refine Ab rfl (.bool false) (fun b w hb hH => AV rfl rfl rfl (AS (by decide)) hb) ?_
  refine Ae Ai rfl ?_
  refine Ab rfl (.bool false) (fun b w hb hH => CJ (by kernel_rfl) rfl rfl rfl hb) ?_
  refine Ae Ai rfl ?_
  refine Aa (Ar rfl (Ax (AE (Ad ?_))))
  refine Ae Ai rfl ?_
  refine Ab rfl (.agg #[.int .i64 room, .slice none 0 0, .slice none 0 0, .slice none 0 0, .bool false, .int .i64 0, .bool false]) (fun b w hb hH => Bg rfl rfl (by kernel_rfl) hb) ?_
  refine Aj (post := fun q => [cell q 59 #[.int .i64 room, .slice none 0 0, .slice none 0 0, .slice none 0 0, .bool false, .int .i64 0, .bool false], Ao p (GW room), X, Y]) rfl (CC (cs := #[.int .i64 room, .slice none 0 0, .slice none 0 0, .slice none 0 0, .bool false, .int .i64 0, .bool false]) rfl rfl rfl) ?_; rintro q
  refine Ae Ai rfl ?_
  refine Aa (Aq ?_)
  refine AX [0] rfl TG rfl ?_
  refine Ad ?_
  refine Ae Ai rfl ?_
  refine Aa (Bb ?_)
  refine CO (α := Nat) (fun i => [(1, v), (4, .pointer none), (5, .pointer none), (6, .bool false), (7, .pointer (some ⟨p, 0, none⟩)), (9, .pointer (some ⟨q, 0, none⟩)), (10, .int .i64 ((i : Nat) : Int))]) (fun i => [Au q (Dw room (L.take i)), Ao p (Dw room (L.take i)), X, Y]) (fun i => i ≤ L.length ∧ i ≤ 20) (fun i => L.length - i) 0 ⟨Nat.zero_le _, Nat.zero_le _⟩ ⟨rfl, rfl, rfl, rfl, rfl, rfl, rfl, trivial⟩ rfl ?_
  rintro i hI
  refine Bv.at_ (env' := [(1, v), (4, .pointer none), (5, .pointer none), (6, .bool false), (7, .pointer (some ⟨p, 0, none⟩)), (9, .pointer (some ⟨q, 0, none⟩)), (10, .int .i64 ((i : Nat) : Int))]) (rs' := [Au q (Dw room (L.take i)), Ao p (Dw room (L.take i)), X, Y]) ⟨rfl, rfl, rfl, rfl, rfl, rfl, rfl, trivial⟩ rfl ?_
  obtain ⟨hI1, hI2⟩ := hI
  have hok := TY hr (L.take i)
  rw [List.length_take] at hok
  have hfit := TV hok (by omega)
  refine Aq ?_
  have hc : (i < L.length ∧ i < 20) ∨ (i < L.length ∧ 20 ≤ i) ∨ L.length ≤ i := by omega
  rcases hc with ⟨h1, h2⟩ | ⟨h1, h2⟩ | h1
  · skip
    obtain ⟨y, hy⟩ : ∃ y, L[i]? = some y := ⟨_, List.getElem?_eq_getElem h1⟩
    obtain ⟨hy1, hy2, hy3⟩ := hY y (List.mem_of_getElem? hy)
    obtain ⟨⟨d1, e1⟩, happ⟩ : ∃ R, Cp (Dw room (L.take i)) y.n y.d = R := ⟨_, rfl⟩
    have hd1 : d1 = Dw room (L.take (i + 1)) := by rw [PP hy, happ]
    subst hd1
    have hrm : 0 ≤ (Dw room (L.take i)).room ∧ (Dw room (L.take i)).room ≤ 1048576 := by rw [hok.rm]; exact hr
    refine Ad ?_
    refine Ae Ai rfl ?_
    refine Ab rfl (.int .i64 (L.length : Int)) (fun b w hb hH => AT ((hH.rdFs 2 rfl hX)) Tryz.underlying53 rfl rfl hb) ?_
    refine Ab rfl (.bool true) (fun b w hb hH => AV rfl rfl rfl (A7 (by omega)) hb) ?_
    refine Ae Ai rfl ?_
    refine Ab rfl (.bool true) (fun b w hb hH => AV rfl rfl rfl (A7 (by omega)) hb) ?_
    refine Ae Ai rfl ?_
    refine Aa (AC rfl (Ax (AE (Aq (Bb (Aq ?_))))))
    refine BO 25 2 [⟨.quiet, [none, none], fun _ => .pointer (some ⟨p, 0, none⟩), []⟩, ⟨.quiet, [none, none], fun _ => v, []⟩, ⟨.quiet, [none, none], fun _ => .int .i64 ((i : Nat) : Int), []⟩, ⟨.quiet, [none, none], fun _ => BP v (i * 2), [1, 2]⟩, ⟨.quiet, [none, none], fun _ => BP v (i * 2 + 0), [3]⟩, ⟨.quiet, [none, none], fun _ => .string (bs y.n), [4]⟩, ⟨.quiet, [none, none], fun _ => v, []⟩, ⟨.quiet, [none, none], fun _ => .int .i64 ((i : Nat) : Int), []⟩, ⟨.quiet, [none, none], fun _ => BP v (i * 2), [6, 7]⟩, ⟨.quiet, [none, none], fun _ => BP v (i * 2 + 1), [8]⟩, ⟨.quiet, [none, none], fun _ => .slice y.A y.d.length y.c, [9]⟩, ⟨.actv 0, [some false, some false], fun _ => .int .i64 (e1 : Int), [0, 5, 10]⟩, ⟨.quiet, [none, none], fun _ => .pointer (some ⟨q, 0, none⟩), []⟩, ⟨.quiet, [none, none], fun _ => v, []⟩, ⟨.quiet, [none, none], fun _ => .int .i64 ((i : Nat) : Int), []⟩, ⟨.quiet, [none, none], fun _ => BP v (i * 2), [13, 14]⟩, ⟨.quiet, [none, none], fun _ => BP v (i * 2 + 0), [15]⟩, ⟨.quiet, [none, none], fun _ => .string (bs y.n), [16]⟩, ⟨.quiet, [none, none], fun _ => v, []⟩, ⟨.quiet, [none, none], fun _ => .int .i64 ((i : Nat) : Int), []⟩, ⟨.quiet, [none, none], fun _ => BP v (i * 2), [18, 19]⟩, ⟨.quiet, [none, none], fun _ => BP v (i * 2 + 1), [20]⟩, ⟨.quiet, [none, none], fun _ => .slice y.A y.d.length y.c, [21]⟩, ⟨.actv 1, [some true, some false], fun _ => .int .i64 (e1 : Int), [12, 17, 22]⟩, ⟨.quiet, [some true, some true], fun _ => .bool false, [11, 23]⟩] [(1, v), (4, .pointer none), (5, .pointer none), (6, .bool false), (7, .pointer (some ⟨p, 0, none⟩)), (9, .pointer (some ⟨q, 0, none⟩)), (10, .int .i64 ((i : Nat) : Int)), (25, .int .i64 ((i : Nat) : Int)), (26, v), (27, .int .i64 (L.length : Int)), (28, .bool true), (29, .bool true), (30, .int .i64 ((i : Nat) : Int)), (31, .bool true), (32, .bool true)] (fun ρ => match ρ with | [r0, r1] => [CD r1 (fun _ => Au q (Dw room (L.take (i + 1)))) (Au q (Dw room (L.take i))), CD r0 (fun _ => Ao p (Dw room (L.take (i + 1)))) (Ao p (Dw room (L.take i))), X, Y] | _ => []) (by kernel_rfl) (by kernel_rfl) ⟨rfl, rfl, rfl, rfl, rfl, rfl, rfl, rfl, rfl, rfl, rfl, rfl, rfl, rfl, rfl, trivial⟩ rfl ?_ ?_
    · skip
      refine Ac (by intro r0_ r1_; exact ⟨rfl, fun b w hH hb => Af Ai rfl hb⟩) ?_
      refine Ac (by intro r0_ r1_; exact ⟨rfl, fun b w hH hb => Af Ai rfl hb⟩) ?_
      refine Ac (by intro r0_ r1_; exact ⟨rfl, fun b w hH hb => Af Ai rfl hb⟩) ?_
      refine Ac (by intro r0_ r1_; exact ⟨rfl, fun b w hH hb => BF BT ((hH.rdFs 2 rfl hX)) Az (j := i) hy rfl rfl rfl hb⟩) ?_
      refine Ac (by intro r0_ r1_; exact ⟨rfl, fun b w hH hb => IS BT (by decide) ((hH.rdFs 2 rfl hX)) (j := i) hy BB rfl rfl hb⟩) ?_
      refine Ac (by intro r0_ r1_; exact ⟨rfl, fun b w hH hb => Bm BT (by decide) ((hH.rdFs 2 rfl hX)) (j := i) hy Ba (off := 0) rfl rfl rfl hb⟩) ?_
      refine Ac (by intro r0_ r1_; exact ⟨rfl, fun b w hH hb => Af Ai rfl hb⟩) ?_
      refine Ac (by intro r0_ r1_; exact ⟨rfl, fun b w hH hb => Af Ai rfl hb⟩) ?_
      refine Ac (by intro r0_ r1_; exact ⟨rfl, fun b w hH hb => BF BT ((hH.rdFs 2 rfl hX)) Az (j := i) hy rfl rfl rfl hb⟩) ?_
      refine Ac (by intro r0_ r1_; exact ⟨rfl, fun b w hH hb => IS BT (by decide) ((hH.rdFs 2 rfl hX)) (j := i) hy BC rfl rfl hb⟩) ?_
      refine Ac (by intro r0_ r1_; exact ⟨rfl, fun b w hH hb => Bm BT (by decide) ((hH.rdFs 2 rfl hX)) (j := i) hy C3 (off := 1) rfl rfl rfl hb⟩) ?_
      refine Ac (by exact ⟨rfl, Bp.su (Al (os' := fun _ => [Au q (Dw room (L.take i)), Ao p (Dw room (L.take (i + 1))), X, Y]) [1, 3] 0 (Ah Tryz.func21 (by kernel_rfl) rfl) (G2 hfit hy2 hy1 happ) rfl rfl rfl (fun _ => rfl) rfl rfl rfl) rfl⟩) ?_
      refine Ac (by intro r0_ r1_; exact ⟨rfl, fun b w hH hb => Af Ai rfl hb⟩) ?_
      refine Ac (by intro r0_ r1_; exact ⟨rfl, fun b w hH hb => Af Ai rfl hb⟩) ?_
      refine Ac (by intro r0_ r1_; exact ⟨rfl, fun b w hH hb => Af Ai rfl hb⟩) ?_
      refine Ac (by intro r0_ r1_; exact ⟨rfl, fun b w hH hb => BF BT ((hH.rdFs 2 rfl hX)) Az (j := i) hy rfl rfl rfl hb⟩) ?_
      refine Ac (by intro r0_ r1_; exact ⟨rfl, fun b w hH hb => IS BT (by decide) ((hH.rdFs 2 rfl hX)) (j := i) hy BB rfl rfl hb⟩) ?_
      refine Ac (by intro r0_ r1_; exact ⟨rfl, fun b w hH hb => Bm BT (by decide) ((hH.rdFs 2 rfl hX)) (j := i) hy Ba (off := 0) rfl rfl rfl hb⟩) ?_
      refine Ac (by intro r0_ r1_; exact ⟨rfl, fun b w hH hb => Af Ai rfl hb⟩) ?_
      refine Ac (by intro r0_ r1_; exact ⟨rfl, fun b w hH hb => Af Ai rfl hb⟩) ?_
      refine Ac (by intro r0_ r1_; exact ⟨rfl, fun b w hH hb => BF BT ((hH.rdFs 2 rfl hX)) Az (j := i) hy rfl rfl rfl hb⟩) ?_
      refine Ac (by intro r0_ r1_; exact ⟨rfl, fun b w hH hb => IS BT (by decide) ((hH.rdFs 2 rfl hX)) (j := i) hy BC rfl rfl hb⟩) ?_
      refine Ac (by intro r0_ r1_; exact ⟨rfl, fun b w hH hb => Bm BT (by decide) ((hH.rdFs 2 rfl hX)) (j := i) hy C3 (off := 1) rfl rfl rfl hb⟩) ?_
      refine Ac (by intro v0_; exact ⟨rfl, Bp.su (Al (os' := fun _ => [Au q (Dw room (L.take (i + 1))), Ao p (Dw room (L.take (i + 1))), X, Y]) [0, 3] 0 (Ah Tryz.func22 (by kernel_rfl) rfl) (Kt hfit hrm hy1 hy2 hy3 happ) rfl rfl rfl (fun _ => rfl) rfl rfl rfl) rfl⟩) ?_
      refine Ac (by intro v0_ v1_; exact ⟨rfl, fun b w hH hb => AV rfl rfl rfl (AS (by simp)) hb⟩) ?_
      exact B2
    intro v0_ v1_
    refine Cg.keep (env' := [(1, v), (4, .pointer none), (5, .pointer none), (6, .bool false), (7, .pointer (some ⟨p, 0, none⟩)), (9, .pointer (some ⟨q, 0, none⟩)), (10, .int .i64 ((i : Nat) : Int)), (25, .int .i64 ((i : Nat) : Int)), (26, v), (27, .int .i64 (L.length : Int)), (28, .bool true), (29, .bool true), (30, .int .i64 ((i : Nat) : Int)), (31, .bool true), (32, .bool true), (35, .pointer (some ⟨p, 0, none⟩)), (36, v), (37, .int .i64 ((i : Nat) : Int)), (38, BP v (i * 2)), (39, BP v (i * 2 + 0)), (40, .string (bs y.n)), (41, v), (42, .int .i64 ((i : Nat) : Int)), (43, BP v (i * 2)), (44, BP v (i * 2 + 1)), (45, .slice y.A y.d.length y.c), (46, .int .i64 (e1 : Int)), (47, .pointer (some ⟨q, 0, none⟩)), (48, v), (49, .int .i64 ((i : Nat) : Int)), (50, BP v (i * 2)), (51, BP v (i * 2 + 0)), (52, .string (bs y.n)), (53, v), (54, .int .i64 ((i : Nat) : Int)), (55, BP v (i * 2)), (56, BP v (i * 2 + 1)), (57, .slice y.A y.d.length y.c), (58, .int .i64 (e1 : Int)), (59, .bool false)]) ⟨rfl, rfl, rfl, rfl, rfl, rfl, rfl, rfl, rfl, rfl, rfl, rfl, rfl, rfl, rfl, rfl, rfl, rfl, rfl, rfl, rfl, rfl, rfl, rfl, rfl, rfl, rfl, rfl, rfl, rfl, rfl, rfl, rfl, rfl, rfl, rfl, rfl, rfl, rfl, rfl, trivial⟩ ?_
    refine AP (AE (Ar rfl (Ax (Bt (AE (Br ?_))))))
    refine Ae Ai rfl ?_
    refine Ab rfl (.int .i64 ((i + 1 : Nat) : Int)) (fun b w hb hH => AN rfl rfl rfl rfl (by rw [IntWalk.i64_in _ (by omega)]; omega) hb) ?_
    refine Ae Ai rfl ?_
    refine AP ?_
    exact Cc (i + 1) 0 ⟨h1, h2⟩ (show L.length - (i + 1) < L.length - i by omega) ⟨rfl, rfl, rfl, rfl, rfl, rfl, rfl, trivial⟩ rfl
  · skip
    have hI20 : L.take i = L.take 20 := by by_cases h9 : i = 20; rw [h9]; rw [List.take_of_length_le (by omega), List.take_of_length_le (by omega)]
    rw [hI20] at hok hfit
    have hsy := Ml hok
    rw [hI20]
    refine Ad ?_
    refine Ae Ai rfl ?_
    refine Ab rfl (.int .i64 (L.length : Int)) (fun b w hb hH => AT ((hH.rdFs 2 rfl hX)) Tryz.underlying53 rfl rfl hb) ?_
    refine Ab rfl (.bool true) (fun b w hb hH => AV rfl rfl rfl (A7 (by omega)) hb) ?_
    refine Ae Ai rfl ?_
    refine Ab rfl (.bool false) (fun b w hb hH => AV rfl rfl rfl (Bn (by omega)) hb) ?_
    refine Ae Ai rfl ?_
    refine Aa (Ar rfl (Cu (E0 (E0 (Bh (AE (Ad ?_)))))))
    refine Ae Ai rfl ?_
    refine Aj rfl (Al (os' := fun _ => [Au q (Dw room (L.take 20)), Ao p (Hi room L), X, Y]) [1] 0 (Ah Tryz.func9 (by kernel_rfl) rfl) (HC hfit hsy) rfl rfl rfl (fun _ => rfl) rfl rfl rfl) ?_; rintro ⟨⟩
    refine Ae Ai rfl ?_
    refine Aj rfl (Al (os' := fun _ => [Au q (Hi room L), Ao p (Hi room L), X, Y]) [0] 0 (Ah Tryz.func10 (by kernel_rfl) rfl) (TN hfit hsy) rfl rfl rfl (fun _ => rfl) rfl rfl rfl) ?_; rintro ⟨⟩
    refine Ab rfl (.bool true) (fun b w hb hH => AV rfl rfl rfl (H7 (by decide)) hb) ?_
    refine Ae Ai rfl ?_
    refine Aa (Ay ?_)
    exact Mt (.tmp rfl) (.tmp rfl) (.tmp rfl) (fun w h => AB (X := Nat × Nat) (p, q) rfl [2, 3, 1, 0] rfl h Cl) rfl
  · skip
    have hI20 : L.take i = L.take 20 := by by_cases h9 : i = 20; rw [h9]; rw [List.take_of_length_le (by omega), List.take_of_length_le (by omega)]
    rw [hI20] at hok hfit
    have hsy := Ml hok
    rw [hI20]
    refine Ad ?_
    refine Ae Ai rfl ?_
    refine Ab rfl (.int .i64 (L.length : Int)) (fun b w hb hH => AT ((hH.rdFs 2 rfl hX)) Tryz.underlying53 rfl rfl hb) ?_
    refine Ab rfl (.bool false) (fun b w hb hH => AV rfl rfl rfl (Bn (by omega)) hb) ?_
    refine Ae Ai rfl ?_
    refine Aa (Ar rfl (Cu (E0 (E0 (Bh (AE (Ad ?_)))))))
    refine Ae Ai rfl ?_
    refine Aj rfl (Al (os' := fun _ => [Au q (Dw room (L.take 20)), Ao p (Hi room L), X, Y]) [1] 0 (Ah Tryz.func9 (by kernel_rfl) rfl) (HC hfit hsy) rfl rfl rfl (fun _ => rfl) rfl rfl rfl) ?_; rintro ⟨⟩
    refine Ae Ai rfl ?_
    refine Aj rfl (Al (os' := fun _ => [Au q (Hi room L), Ao p (Hi room L), X, Y]) [0] 0 (Ah Tryz.func10 (by kernel_rfl) rfl) (TN hfit hsy) rfl rfl rfl (fun _ => rfl) rfl rfl rfl) ?_; rintro ⟨⟩
    refine Ab rfl (.bool true) (fun b w hb hH => AV rfl rfl rfl (H7 (by decide)) hb) ?_
    refine Ae Ai rfl ?_
    refine Aa (Ay ?_)
    exact Mt (.tmp rfl) (.tmp rfl) (.tmp rfl) (fun w h => AB (X := Nat × Nat) (p, q) rfl [2, 3, 1, 0] rfl h Cl) rfl
end Go.Proofs.YtnknboibmifacaaGreat.Sep
