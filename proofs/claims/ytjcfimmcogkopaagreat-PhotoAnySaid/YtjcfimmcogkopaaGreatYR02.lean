/-
  HdQ
-/
import Derived.Test.YtjcfimmcogkopaaGreatYK01
import Derived.Test.YtjcfimmcogkopaaGreatYR01
set_option linter.unusedSimpArgs false
set_option linter.unusedVariables false
namespace Go.Proofs.YtjcfimmcogkopaaGreat.Sep
open Go.RowKit
open Go.Proofs.YtjcfimmcogkopaaGreat.Mem (AZ Ci Chg Au)
def Dh (room : Int) (L : List RFl) : DiskD := L.foldl (fun d y => (Cc d y.n y.d).1) (HK room)
def Fj (room : Int) (L : List RFl) : DiskD := { Dh room (L.take 20) with syn := (Dh room (L.take 20)).now, wait := [] }
structure LaidOk (room : Int) (k : Nat) (d : DiskD) : Prop where
  up : d.down = false
  fz : d.fuse = none
  rm : d.room = room
  sy : d.syn = []
  wl : d.wait.length ≤ k
  sz : (d.wait.map OpD.size).sum = AF d.now
  le : AF d.now ≤ 1048576
  nd : (AH d.now).Nodup
theorem Uh {room : Int} {k : Nat} {d : DiskD} (h : LaidOk room k d) (hk : k ≤ 9000) : d.fit := ⟨by rw [h.sy, h.sz]; have := h.le; show 0 + _ ≤ _; omega, by have := h.wl; omega⟩
theorem Ui {room : Int} (hr : 0 ≤ room ∧ room ≤ 1048576) : LaidOk room 0 (HK room) := ⟨rfl, rfl, rfl, rfl, Nat.le_refl _, rfl, Nat.zero_le _, List.nodup_nil⟩
theorem Uj {room : Int} {k : Nat} {d : DiskD} (hr : 0 ≤ room ∧ room ≤ 1048576) (h : LaidOk room k d) (n b : List UInt8) : LaidOk room (k + 1) (Cc d n b).1 := by
  have hsame : LaidOk room (k + 1) d := ⟨h.up, h.fz, h.rm, h.sy, Nat.le_succ_of_le h.wl, h.sz, h.le, h.nd⟩
  unfold Cc
  rw [Dg h.up h.fz]
  simp only
  rw [if_neg (by simp)]
  split
  · exact hsame
  · split
    · exact hsame
    · rename_i hf
      have hf2 : D8 d n b = true := by simpa using hf
      have h1 := (Lg hf2).2.1
      have h2 := (Lg hf2).1
      rw [h.rm] at h1 h2
      have hu := GA h.nd n b
      refine ⟨h.up, h.fz, h.rm, h.sy, ?_, ?_, ?_, ?_⟩
      · show (d.wait ++ [_]).length ≤ _
        have := h.wl
        rw [List.length_append]; simp only [List.length_cons, List.length_nil]; omega
      · show ((d.wait ++ [OpD.app n b]).map OpD.size).sum = _
        rw [Cg, hu, List.map_append, List.sum_append, h.sz]
        simp [OpD.size]
      · rw [Cg, hu]; omega
      · rw [Cg]; exact F0 h.nd _
theorem Q8 {room : Int} (hr : 0 ≤ room ∧ room ≤ 1048576) : ∀ (L : List RFl) (k : Nat) (d : DiskD), LaidOk room k d → LaidOk room (k + L.length) (L.foldl (fun d y => (Cc d y.n y.d).1) d)
  | [], _, _, h => h
  | y :: L, k, d, h => by
    have := Q8 hr L (k + 1) _ (Uj hr h y.n y.d)
    rw [List.length_cons, show k + (L.length + 1) = k + 1 + L.length by omega]
    exact this
theorem OF {room : Int} (hr : 0 ≤ room ∧ room ≤ 1048576) (L : List RFl) : LaidOk room L.length (Dh room L) := by
 have := Q8 hr L 0 _ (Ui hr)
 rwa [Nat.zero_add] at this
theorem Qe {room : Int} {L : List RFl} {i : Nat} {y : RFl} (h : L[i]? = some y) : Dh room (L.take (i + 1)) = (Cc (Dh room (L.take i)) y.n y.d).1 := by
 unfold Dh
 rw [List.take_add_one, h, List.foldl_append]; rfl
theorem L7 {room : Int} {k : Nat} {d : DiskD} (h : LaidOk room k d) : Fa d = ({ d with syn := d.now, wait := [] }, 0) := by
 unfold Fa
 rw [Dg h.up h.fz]
 simp only
 rw [if_neg (by simp)]
set_option maxRecDepth 100000 in
theorem L8 {X Y : Ass} {v : Value} {L : List RFl} {room : Int} (hr : 0 ≤ room ∧ room ≤ 1048576) (hX : Fh X v L) (hll : L.length ≤ 9223372036854775806) (hY : ∀ y : RFl, y ∈ L → Cu Y y.v y.d ∧ y.d.length ≤ 140737488355328 ∧ y.n.length ≤ 9223372036854775807) : AW Tryz.prog 5 #[.int .i64 room, v] [X, Y] (fun (x : Nat × Nat) => .tuple #[.pointer (some ⟨x.1, 0, none⟩), .pointer (some ⟨x.2, 0, none⟩), .bool true]) (fun (x : Nat × Nat) => [X, Y, Ao x.1 (Fj room L), AB x.2 (Fj room L)]) := by
  refine Be (args := [.int .i64 room, v]) 67 Tryz.func5 rfl rfl rfl ?_; intro w rs
  refine Ad (Af Ah rfl (Ab (Ad (Af Ah rfl (Aj rfl (Am (os' := fun p => [Ao p (HK room), X, Y]) [] 0 (Ag Tryz.func21 (by kernel_rfl) rfl) (N4 room hr) rfl rfl rfl (fun _ => rfl) rfl rfl rfl) ?_))))); rintro p
  refine Af Ah rfl (Ab (Aq (Ad (Af Ah rfl (Ac rfl (.bool false) (fun b w hb hH => Bc rfl rfl rfl (AK (by decide)) hb) (Af Ah rfl (Ac rfl (.bool false) (fun b w hb hH => CT (by kernel_rfl) rfl rfl rfl hb) (Af Ah rfl (Ab (Aw rfl (AC (AO (Ad (Af Ah rfl (Ac rfl (.agg #[.int .i64 room, .slice none 0 0, .slice none 0 0, .slice none 0 0, .bool false, .int .i64 0, .bool false]) (fun b w hb hH => Bh rfl rfl (by kernel_rfl) hb) ?_)))))))))))))))
  refine Aj (post := fun q => [cell q 61 #[.int .i64 room, .slice none 0 0, .slice none 0 0, .slice none 0 0, .bool false, .int .i64 0, .bool false], Ao p (HK room), X, Y]) rfl (CU (cs := #[.int .i64 room, .slice none 0 0, .slice none 0 0, .slice none 0 0, .bool false, .int .i64 0, .bool false]) rfl rfl rfl) ?_; rintro q
  refine Af Ah rfl (Ab (Aq (Bk [0] rfl T5 rfl (Ad (Af Ah rfl (Ab (Bm (C9 (α := Nat) (fun i => [(1, v), (4, .pointer none), (5, .pointer none), (6, .bool false), (7, .pointer (some ⟨p, 0, none⟩)), (9, .pointer (some ⟨q, 0, none⟩)), (10, .int .i64 ((i : Nat) : Int))]) (fun i => [AB q (Dh room (L.take i)), Ao p (Dh room (L.take i)), X, Y]) (fun i => i ≤ L.length ∧ i ≤ 20) (fun i => L.length - i) 0 ⟨Nat.zero_le _, Nat.zero_le _⟩ ⟨rfl, rfl, rfl, rfl, rfl, rfl, rfl, trivial⟩ rfl ?_))))))))
  rintro i hI
  refine Bv.at_ (env' := [(1, v), (4, .pointer none), (5, .pointer none), (6, .bool false), (7, .pointer (some ⟨p, 0, none⟩)), (9, .pointer (some ⟨q, 0, none⟩)), (10, .int .i64 ((i : Nat) : Int))]) (rs' := [AB q (Dh room (L.take i)), Ao p (Dh room (L.take i)), X, Y]) ⟨rfl, rfl, rfl, rfl, rfl, rfl, rfl, trivial⟩ rfl ?_
  obtain ⟨hI1, hI2⟩ := hI
  have hok := OF hr (L.take i)
  rw [List.length_take] at hok
  have hfit := Uh hok (by omega)
  refine Aq ?_
  have hc : (i < L.length ∧ i < 20) ∨ (i < L.length ∧ 20 ≤ i) ∨ L.length ≤ i := by omega
  rcases hc with ⟨h1, h2⟩ | ⟨h1, h2⟩ | h1
  obtain ⟨y, hy⟩ : ∃ y, L[i]? = some y := ⟨_, List.getElem?_eq_getElem h1⟩
  obtain ⟨hy1, hy2, hy3⟩ := hY y (List.mem_of_getElem? hy)
  obtain ⟨⟨d1, e1⟩, happ⟩ : ∃ R, Cc (Dh room (L.take i)) y.n y.d = R := ⟨_, rfl⟩
  have hd1 : d1 = Dh room (L.take (i + 1)) := by rw [Qe hy, happ]
  subst hd1
  have hrm : 0 ≤ (Dh room (L.take i)).room ∧ (Dh room (L.take i)).room ≤ 1048576 := by rw [hok.rm]; exact hr
  refine Ad (Af Ah rfl (Ac rfl (.int .i64 (L.length : Int)) (fun b w hb hH => AY ((hH.rdFs 2 rfl hX)) Tryz.underlying55 rfl rfl hb) (Ac rfl (.bool true) (fun b w hb hH => Bc rfl rfl rfl (BN (by omega)) hb) (Af Ah rfl (Ac rfl (.bool true) (fun b w hb hH => Bc rfl rfl rfl (BN (by omega)) hb) (Af Ah rfl (Ab (AI rfl (AC (AO (Aq (Bm (Aq ?_)))))))))))))
  refine BK 25 2 [⟨.quiet, [none, none], fun _ => .pointer (some ⟨p, 0, none⟩), []⟩, ⟨.quiet, [none, none], fun _ => v, []⟩, ⟨.quiet, [none, none], fun _ => .int .i64 ((i : Nat) : Int), []⟩, ⟨.quiet, [none, none], fun _ => Cs v (i * 2), [1, 2]⟩, ⟨.quiet, [none, none], fun _ => Cs v (i * 2 + 0), [3]⟩, ⟨.quiet, [none, none], fun _ => .string (bs y.n), [4]⟩, ⟨.quiet, [none, none], fun _ => v, []⟩, ⟨.quiet, [none, none], fun _ => .int .i64 ((i : Nat) : Int), []⟩, ⟨.quiet, [none, none], fun _ => Cs v (i * 2), [6, 7]⟩, ⟨.quiet, [none, none], fun _ => Cs v (i * 2 + 1), [8]⟩, ⟨.quiet, [none, none], fun _ => .slice y.A y.d.length y.c, [9]⟩, ⟨.actv 0, [some false, some false], fun _ => .int .i64 (e1 : Int), [0, 5, 10]⟩, ⟨.quiet, [none, none], fun _ => .pointer (some ⟨q, 0, none⟩), []⟩, ⟨.quiet, [none, none], fun _ => v, []⟩, ⟨.quiet, [none, none], fun _ => .int .i64 ((i : Nat) : Int), []⟩, ⟨.quiet, [none, none], fun _ => Cs v (i * 2), [13, 14]⟩, ⟨.quiet, [none, none], fun _ => Cs v (i * 2 + 0), [15]⟩, ⟨.quiet, [none, none], fun _ => .string (bs y.n), [16]⟩, ⟨.quiet, [none, none], fun _ => v, []⟩, ⟨.quiet, [none, none], fun _ => .int .i64 ((i : Nat) : Int), []⟩, ⟨.quiet, [none, none], fun _ => Cs v (i * 2), [18, 19]⟩, ⟨.quiet, [none, none], fun _ => Cs v (i * 2 + 1), [20]⟩, ⟨.quiet, [none, none], fun _ => .slice y.A y.d.length y.c, [21]⟩, ⟨.actv 1, [some true, some false], fun _ => .int .i64 (e1 : Int), [12, 17, 22]⟩, ⟨.quiet, [some true, some true], fun _ => .bool false, [11, 23]⟩] [(1, v), (4, .pointer none), (5, .pointer none), (6, .bool false), (7, .pointer (some ⟨p, 0, none⟩)), (9, .pointer (some ⟨q, 0, none⟩)), (10, .int .i64 ((i : Nat) : Int)), (25, .int .i64 ((i : Nat) : Int)), (26, v), (27, .int .i64 (L.length : Int)), (28, .bool true), (29, .bool true), (30, .int .i64 ((i : Nat) : Int)), (31, .bool true), (32, .bool true)] (fun ρ => match ρ with | [r0, r1] => [CJ r1 (fun _ => AB q (Dh room (L.take (i + 1)))) (AB q (Dh room (L.take i))), CJ r0 (fun _ => Ao p (Dh room (L.take (i + 1)))) (Ao p (Dh room (L.take i))), X, Y] | _ => []) (by kernel_rfl) (by kernel_rfl) ⟨rfl, rfl, rfl, rfl, rfl, rfl, rfl, rfl, rfl, rfl, rfl, rfl, rfl, rfl, rfl, trivial⟩ rfl ?_ ?_
  refine Aa (by intro r0_ r1_; exact ⟨rfl, fun b w hH hb => Ae Ah rfl hb⟩) (Aa (by intro r0_ r1_; exact ⟨rfl, fun b w hH hb => Ae Ah rfl hb⟩) (Aa (by intro r0_ r1_; exact ⟨rfl, fun b w hH hb => Ae Ah rfl hb⟩) (Aa (by intro r0_ r1_; exact ⟨rfl, fun b w hH hb => BH BS ((hH.rdFs 2 rfl hX)) Ar (j := i) hy rfl rfl rfl hb⟩) (Aa (by intro r0_ r1_; exact ⟨rfl, fun b w hH hb => M8 BS (by decide) ((hH.rdFs 2 rfl hX)) (j := i) hy Bu rfl rfl hb⟩) (Aa (by intro r0_ r1_; exact ⟨rfl, fun b w hH hb => By BS (by decide) ((hH.rdFs 2 rfl hX)) (j := i) hy AX (off := 0) rfl rfl rfl hb⟩) (Aa (by intro r0_ r1_; exact ⟨rfl, fun b w hH hb => Ae Ah rfl hb⟩) (Aa (by intro r0_ r1_; exact ⟨rfl, fun b w hH hb => Ae Ah rfl hb⟩) (Aa (by intro r0_ r1_; exact ⟨rfl, fun b w hH hb => BH BS ((hH.rdFs 2 rfl hX)) Ar (j := i) hy rfl rfl rfl hb⟩) (Aa (by intro r0_ r1_; exact ⟨rfl, fun b w hH hb => M8 BS (by decide) ((hH.rdFs 2 rfl hX)) (j := i) hy BF rfl rfl hb⟩) ?_)))))))))
  refine Aa (by intro r0_ r1_; exact ⟨rfl, fun b w hH hb => By BS (by decide) ((hH.rdFs 2 rfl hX)) (j := i) hy Cy (off := 1) rfl rfl rfl hb⟩) (Aa (by exact ⟨rfl, Bq.su (Am (os' := fun _ => [AB q (Dh room (L.take i)), Ao p (Dh room (L.take (i + 1))), X, Y]) [1, 3] 0 (Ag Tryz.func22 (by kernel_rfl) rfl) (IS hfit hy2 hy1 happ) rfl rfl rfl (fun _ => rfl) rfl rfl rfl) rfl⟩) (Aa (by intro r0_ r1_; exact ⟨rfl, fun b w hH hb => Ae Ah rfl hb⟩) (Aa (by intro r0_ r1_; exact ⟨rfl, fun b w hH hb => Ae Ah rfl hb⟩) (Aa (by intro r0_ r1_; exact ⟨rfl, fun b w hH hb => Ae Ah rfl hb⟩) (Aa (by intro r0_ r1_; exact ⟨rfl, fun b w hH hb => BH BS ((hH.rdFs 2 rfl hX)) Ar (j := i) hy rfl rfl rfl hb⟩) (Aa (by intro r0_ r1_; exact ⟨rfl, fun b w hH hb => M8 BS (by decide) ((hH.rdFs 2 rfl hX)) (j := i) hy Bu rfl rfl hb⟩) (Aa (by intro r0_ r1_; exact ⟨rfl, fun b w hH hb => By BS (by decide) ((hH.rdFs 2 rfl hX)) (j := i) hy AX (off := 0) rfl rfl rfl hb⟩) (Aa (by intro r0_ r1_; exact ⟨rfl, fun b w hH hb => Ae Ah rfl hb⟩) (Aa (by intro r0_ r1_; exact ⟨rfl, fun b w hH hb => Ae Ah rfl hb⟩) ?_)))))))))
  refine Aa (by intro r0_ r1_; exact ⟨rfl, fun b w hH hb => BH BS ((hH.rdFs 2 rfl hX)) Ar (j := i) hy rfl rfl rfl hb⟩) (Aa (by intro r0_ r1_; exact ⟨rfl, fun b w hH hb => M8 BS (by decide) ((hH.rdFs 2 rfl hX)) (j := i) hy BF rfl rfl hb⟩) (Aa (by intro r0_ r1_; exact ⟨rfl, fun b w hH hb => By BS (by decide) ((hH.rdFs 2 rfl hX)) (j := i) hy Cy (off := 1) rfl rfl rfl hb⟩) (Aa (by intro v0_; exact ⟨rfl, Bq.su (Am (os' := fun _ => [AB q (Dh room (L.take (i + 1))), Ao p (Dh room (L.take (i + 1))), X, Y]) [0, 3] 0 (Ag Tryz.func23 (by kernel_rfl) rfl) (Vi hfit hrm hy1 hy2 hy3 happ) rfl rfl rfl (fun _ => rfl) rfl rfl rfl) rfl⟩) (Aa (by intro v0_ v1_; exact ⟨rfl, fun b w hH hb => Bc rfl rfl rfl (AK (by simp)) hb⟩) ?_))))
  exact Cf
  intro v0_ v1_
  refine Ce.keep (env' := [(1, v), (4, .pointer none), (5, .pointer none), (6, .bool false), (7, .pointer (some ⟨p, 0, none⟩)), (9, .pointer (some ⟨q, 0, none⟩)), (10, .int .i64 ((i : Nat) : Int)), (25, .int .i64 ((i : Nat) : Int)), (26, v), (27, .int .i64 (L.length : Int)), (28, .bool true), (29, .bool true), (30, .int .i64 ((i : Nat) : Int)), (31, .bool true), (32, .bool true), (35, .pointer (some ⟨p, 0, none⟩)), (36, v), (37, .int .i64 ((i : Nat) : Int)), (38, Cs v (i * 2)), (39, Cs v (i * 2 + 0)), (40, .string (bs y.n)), (41, v), (42, .int .i64 ((i : Nat) : Int)), (43, Cs v (i * 2)), (44, Cs v (i * 2 + 1)), (45, .slice y.A y.d.length y.c), (46, .int .i64 (e1 : Int)), (47, .pointer (some ⟨q, 0, none⟩)), (48, v), (49, .int .i64 ((i : Nat) : Int)), (50, Cs v (i * 2)), (51, Cs v (i * 2 + 0)), (52, .string (bs y.n)), (53, v), (54, .int .i64 ((i : Nat) : Int)), (55, Cs v (i * 2)), (56, Cs v (i * 2 + 1)), (57, .slice y.A y.d.length y.c), (58, .int .i64 (e1 : Int)), (59, .bool false)]) ⟨rfl, rfl, rfl, rfl, rfl, rfl, rfl, rfl, rfl, rfl, rfl, rfl, rfl, rfl, rfl, rfl, rfl, rfl, rfl, rfl, rfl, rfl, rfl, rfl, rfl, rfl, rfl, rfl, rfl, rfl, rfl, rfl, rfl, rfl, rfl, rfl, rfl, rfl, rfl, rfl, trivial⟩ (Bi (AO (Aw rfl (AC (B3 (AO (BV (Af Ah rfl (Ac rfl (.int .i64 ((i + 1 : Nat) : Int)) (fun b w hb hH => AS rfl rfl rfl rfl (by rw [IntWalk.i64_in _ (by omega)]; omega) hb) (Af Ah rfl (Bi ?_)))))))))))
  exact CM (i + 1) 0 ⟨h1, h2⟩ (show L.length - (i + 1) < L.length - i by omega) ⟨rfl, rfl, rfl, rfl, rfl, rfl, rfl, trivial⟩ rfl
  have hI20 : L.take i = L.take 20 := by by_cases h9 : i = 20; rw [h9]; rw [List.take_of_length_le (by omega), List.take_of_length_le (by omega)]
  rw [hI20] at hok hfit
  have hsy := L7 hok
  rw [hI20]
  refine Ad (Af Ah rfl (Ac rfl (.int .i64 (L.length : Int)) (fun b w hb hH => AY ((hH.rdFs 2 rfl hX)) Tryz.underlying55 rfl rfl hb) (Ac rfl (.bool true) (fun b w hb hH => Bc rfl rfl rfl (BN (by omega)) hb) (Af Ah rfl (Ac rfl (.bool false) (fun b w hb hH => Bc rfl rfl rfl (B9 (by omega)) hb) (Af Ah rfl (Ab (Aw rfl (CQ (FR (FR (Br (AO (Ad (Af Ah rfl (Aj rfl (Am (os' := fun _ => [AB q (Dh room (L.take 20)), Ao p (Fj room L), X, Y]) [1] 0 (Ag Tryz.func9 (by kernel_rfl) rfl) (Jp hfit hsy) rfl rfl rfl (fun _ => rfl) rfl rfl rfl) ?_)))))))))))))))); rintro ⟨⟩
  refine Af Ah rfl (Aj rfl (Am (os' := fun _ => [AB q (Fj room L), Ao p (Fj room L), X, Y]) [0] 0 (Ag Tryz.func10 (by kernel_rfl) rfl) (VA hfit hsy) rfl rfl rfl (fun _ => rfl) rfl rfl rfl) ?_); rintro ⟨⟩
  refine Ac rfl (.bool true) (fun b w hb hH => Bc rfl rfl rfl (JV (by decide)) hb) (Af Ah rfl (Ab (Av ?_)))
  exact Em (.tmp rfl) (.tmp rfl) (.tmp rfl) (fun w h => AG (X := Nat × Nat) (p, q) rfl [2, 3, 1, 0] rfl h CV) rfl
  have hI20 : L.take i = L.take 20 := by by_cases h9 : i = 20; rw [h9]; rw [List.take_of_length_le (by omega), List.take_of_length_le (by omega)]
  rw [hI20] at hok hfit
  have hsy := L7 hok
  rw [hI20]
  refine Ad (Af Ah rfl (Ac rfl (.int .i64 (L.length : Int)) (fun b w hb hH => AY ((hH.rdFs 2 rfl hX)) Tryz.underlying55 rfl rfl hb) (Ac rfl (.bool false) (fun b w hb hH => Bc rfl rfl rfl (B9 (by omega)) hb) (Af Ah rfl (Ab (Aw rfl (CQ (FR (FR (Br (AO (Ad (Af Ah rfl (Aj rfl (Am (os' := fun _ => [AB q (Dh room (L.take 20)), Ao p (Fj room L), X, Y]) [1] 0 (Ag Tryz.func9 (by kernel_rfl) rfl) (Jp hfit hsy) rfl rfl rfl (fun _ => rfl) rfl rfl rfl) ?_)))))))))))))); rintro ⟨⟩
  refine Af Ah rfl (Aj rfl (Am (os' := fun _ => [AB q (Fj room L), Ao p (Fj room L), X, Y]) [0] 0 (Ag Tryz.func10 (by kernel_rfl) rfl) (VA hfit hsy) rfl rfl rfl (fun _ => rfl) rfl rfl rfl) ?_); rintro ⟨⟩
  refine Ac rfl (.bool true) (fun b w hb hH => Bc rfl rfl rfl (JV (by decide)) hb) (Af Ah rfl (Ab (Av ?_)))
  exact Em (.tmp rfl) (.tmp rfl) (.tmp rfl) (fun w h => AG (X := Nat × Nat) (p, q) rfl [2, 3, 1, 0] rfl h CV) rfl
end Go.Proofs.YtjcfimmcogkopaaGreat.Sep
