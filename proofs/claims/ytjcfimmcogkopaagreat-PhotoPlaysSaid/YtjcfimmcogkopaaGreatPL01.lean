/-
  PhK
-/
import Derived.Test.YtjcfimmcogkopaaGreatPE02
import Derived.Test.YtjcfimmcogkopaaGreatPF01
import Derived.Test.YtjcfimmcogkopaaGreatPK03
set_option linter.unusedSimpArgs false
set_option linter.unusedVariables false
set_option maxRecDepth 100000
namespace Go.Proofs.YtjcfimmcogkopaaGreat.Sep
open Go.RowKit
open Go.Proofs.YtjcfimmcogkopaaGreat.Mem (Bh Cs Chg AA)
structure SnE where
  s : SnV
  A : Option Addr
  cp : Nat
instance : Inhabited SnE := ⟨⟨⟨0, 0, 0, []⟩, none, 0⟩⟩
def SnE.v (x : SnE) : Value := .slice x.A x.s.d.length x.cp
def Wt (x : SnE) : List Value := [.int .u64 x.s.i, .int .u64 x.s.t, .int .i64 x.s.c, .slice x.A x.s.d.length x.cp]
def sn4 : SnV := ⟨4, 2, 14, [97, 98]⟩
def sn5 : SnV := ⟨5, 2, 14, [99]⟩
theorem UH : SnOk sn4 := EV.1 (by decide)
theorem UI : SnOk sn5 := EV.1 (by decide)
def X6 (s : SnV) : SnV := ⟨1 + s.i % 900, 1 + s.t % 9, 2 * (1 + s.c % 127), s.d⟩
structure SnR (s : SnV) : Prop where
  i : 0 ≤ s.i ∧ s.i ≤ 18446744073709551615
  t : 0 ≤ s.t ∧ s.t ≤ 18446744073709551615
  c : -9223372036854775808 ≤ s.c ∧ s.c ≤ 9223372036854775807
def OX (y z : SnV) : Bool := (y.i == z.i && (y.t == z.t && y.c == z.c)) && y.d == z.d
theorem EW (y : SnV) : OX y y = true := by simp [OX]
theorem SV (i t c : Int) (l : List UInt8) (hl : l.length ≤ maxLen) : AX Tryz.prog 24 #[.int .u64 i, .int .u64 t, .int .i64 c, .string (bs l)] [] (fun (x : Nat × Nat) => .agg #[.int .u64 i, .int .u64 t, .int .i64 c, .slice (some ⟨x.1, 0, none⟩) l.length x.2]) (fun (x : Nat × Nat) => [Fa 5 x.1 x.2 l]) := by
 refine Bg (args := [.int .u64 i, .int .u64 t, .int .i64 c, .string (bs l)]) 16 Tryz.func24 rfl rfl rfl ?_; intro w rs
 refine Ad (Ae Ag rfl (Aj (post := fun g8 => [cell g8 34 #[.int .u64 0, .int .u64 0, .int .i64 0, .slice none 0 0]]) rfl (BT Bl rfl) ?_)); rintro g8
 refine Ab (Ad (Ae Ag rfl (Aa rfl (.agg #[.int .u64 i, .int .u64 t, .int .i64 c]) (fun b w hb hH => Bn rfl rfl (by kernel_rfl) hb) (Ae Ag rfl (Aj rfl (Qq hl Tryz.underlying9 Tryz.underlying32 Tryz.underlying5 rfl rfl) ?_))))); rintro ⟨g9, cg9⟩
 refine Aa rfl (.agg #[.int .u64 i, .int .u64 t, .int .i64 c, .slice (some ⟨g9, 0, none⟩) l.length cg9]) (fun b w hb hH => Bn rfl rfl (by kernel_rfl) hb) (AF (post := fun _ => [Fa 5 g9 cg9 l, cell g8 34 #[.int .u64 i, .int .u64 t, .int .i64 c, .slice (some ⟨g9, 0, none⟩) l.length cg9]]) rfl rfl (AE 1 (v := .agg #[.int .u64 i, .int .u64 t, .int .i64 c, .slice (some ⟨g9, 0, none⟩) l.length cg9]) #[.int .u64 i, .int .u64 t, .int .i64 c, .slice (some ⟨g9, 0, none⟩) l.length cg9] Aq.2 rfl rfl rfl rfl rfl rfl rfl rfl rfl) ?_); rintro ⟨⟩
 refine Ab (Ax ?_)
 exact Aw (.cell 1 (v := .agg #[.int .u64 i, .int .u64 t, .int .i64 c, .slice (some ⟨g9, 0, none⟩) l.length cg9]) (DM (cs := [.int .u64 i, .int .u64 t, .int .i64 c, .slice (some ⟨g9, 0, none⟩) l.length cg9]) Aq rfl) rfl rfl) (fun w h => AH (g9, cg9) rfl [0] rfl h CK) rfl
theorem Nr {s : SnV} {i t c : Int} {l : List UInt8} (h : s = ⟨i, t, c, l⟩ ∧ l.length ≤ 9223372036854775807) : AX Tryz.prog 24 #[.int .u64 i, .int .u64 t, .int .i64 c, .string (bs l)] [] (fun x : Nat × Nat => .agg #[.int .u64 s.i, .int .u64 s.t, .int .i64 s.c, .slice (some ⟨x.1, 0, none⟩) s.d.length x.2]) (fun x => [Fa 5 x.1 x.2 s.d]) := by
 obtain ⟨rfl, h2⟩ := h
 exact SV i t c l h2
theorem Gq (w : World) {y z : SnV} {Ay Az : Option Addr} {cy cz : Nat} (hy : D6 w (.slice Ay y.d.length cy) y.d) (hz : D6 w (.slice Az z.d.length cz) z.d) (r : Bool) (hr : OX y z = r) : Calls Tryz.prog 13 #[.agg #[.int .u64 y.i, .int .u64 y.t, .int .i64 y.c, .slice Ay y.d.length cy], .agg #[.int .u64 z.i, .int .u64 z.t, .int .i64 z.c, .slice Az z.d.length cz]] w fun e w' => e = .returned (.bool r) ∧ Below w.heap.size w w' := by
 refine Fj (args := [.agg #[.int .u64 y.i, .int .u64 y.t, .int .i64 y.c, .slice Ay y.d.length cy], .agg #[.int .u64 z.i, .int .u64 z.t, .int .i64 z.c, .slice Az z.d.length cz]]) 19 Tryz.func13 rfl rfl rfl ?_
 unfold OX at hr
 refine Ad (Ae Ag rfl (Aj (post := fun g2 => [cell g2 34 #[.int .u64 y.i, .int .u64 y.t, .int .i64 y.c, .slice Ay y.d.length cy]]) rfl (CL (cs := #[.int .u64 y.i, .int .u64 y.t, .int .i64 y.c, .slice Ay y.d.length cy]) rfl rfl rfl) ?_)); rintro g2
 refine Aj (post := fun g3 => [cell g3 34 #[.int .u64 z.i, .int .u64 z.t, .int .i64 z.c, .slice Az z.d.length cz], cell g2 34 #[.int .u64 y.i, .int .u64 y.t, .int .i64 y.c, .slice Ay y.d.length cy]]) rfl (CL (cs := #[.int .u64 z.i, .int .u64 z.t, .int .i64 z.c, .slice Az z.d.length cz]) rfl rfl rfl) ?_; rintro g3
 refine Ae Ag rfl (Ab ?_)
 rcases h1 : (y.i == z.i && (y.t == z.t && y.c == z.c)) with _ | _
 obtain rfl : r = false := by rw [← hr, h1]; rfl
 refine Ad (Ae Ag rfl (Aa rfl (.agg #[.int .u64 y.i, .int .u64 y.t, .int .i64 y.c]) (fun b w hb hH => Ba rfl rfl (DM (cs := [.int .u64 y.i, .int .u64 y.t, .int .i64 y.c, .slice Ay y.d.length cy]) CU rfl) (hH.row 1 rfl) hb) (Ae Ag rfl (Aa rfl (.agg #[.int .u64 z.i, .int .u64 z.t, .int .i64 z.c]) (fun b w hb hH => Ba rfl rfl (DM (cs := [.int .u64 z.i, .int .u64 z.t, .int .i64 z.c, .slice Az z.d.length cz]) CU rfl) (hH.row 0 rfl) hb) (Aa rfl (.bool false) (fun b w hb hH => F9 (Rs _ _ _ _ _ _ false h1) rfl rfl rfl hb) (Ae Ag rfl (Ab (Ax ?_))))))))
 exact Aw (.tmp rfl) (fun w h => ⟨rfl, AA h.up⟩) rfl
 refine Ad (Ae Ag rfl (Aa rfl (.agg #[.int .u64 y.i, .int .u64 y.t, .int .i64 y.c]) (fun b w hb hH => Ba rfl rfl (DM (cs := [.int .u64 y.i, .int .u64 y.t, .int .i64 y.c, .slice Ay y.d.length cy]) CU rfl) (hH.row 1 rfl) hb) (Ae Ag rfl (Aa rfl (.agg #[.int .u64 z.i, .int .u64 z.t, .int .i64 z.c]) (fun b w hb hH => Ba rfl rfl (DM (cs := [.int .u64 z.i, .int .u64 z.t, .int .i64 z.c, .slice Az z.d.length cz]) CU rfl) (hH.row 0 rfl) hb) (Aa rfl (.bool true) (fun b w hb hH => F9 (Rs _ _ _ _ _ _ true h1) rfl rfl rfl hb) (Ae Ag rfl (Aa rfl (.slice Ay y.d.length cy) (fun b w hb hH => Ba rfl rfl (Bm Cx rfl) (hH.row 1 rfl) hb) (Aa rfl (.string (bs y.d)) (fun b w hb hH => H3 Tryz.underlying32 Tryz.underlying5 (by kernel_rfl) Tryz.underlying9 ((hy.below (AA hH.up))) rfl rfl hb) (Ae Ag rfl ?_)))))))))
 refine Aa rfl (.slice Az z.d.length cz) (fun b w hb hH => Ba rfl rfl (Bm Cx rfl) (hH.row 0 rfl) hb) (Aa rfl (.string (bs z.d)) (fun b w hb hH => H3 Tryz.underlying32 Tryz.underlying5 (by kernel_rfl) Tryz.underlying9 ((hz.below (AA hH.up))) rfl rfl hb) (Aa rfl (.bool r) (fun b w hb hH => HO rfl rfl rfl (by rw [← hr, h1]; rfl) hb) (Ae Ag rfl (Ab (Ax ?_)))))
 exact Aw (.tmp rfl) (fun w h => ⟨rfl, AA h.up⟩) rfl
def Xt (v : Value) (s : SnV) : Ass := fun rs => ∃ A c, v = .agg #[.int .u64 s.i, .int .u64 s.t, .int .i64 s.c, .slice A s.d.length c] ∧ J7 (.slice A s.d.length c) s.d rs
def X7 (w : World) (v : Value) (s : SnV) : Prop := ∃ A c, v = .agg #[.int .u64 s.i, .int .u64 s.t, .int .i64 s.c, .slice A s.d.length c] ∧ D6 w (.slice A s.d.length c) s.d
theorem Hp.snT {B : Nat → Prop} {w0 w : World} {os : List Ass} {v : Value} {s : SnV} (h : Hp B w0 w os) (i : Nat) (hi : os[i]? = some (Xt v s)) : X7 w v s := by
 obtain ⟨rs, ⟨A, c, h1, h2⟩, h3⟩ := h.thing i hi
 exact ⟨A, c, h1, Jv rs w h2 h3⟩
theorem Ru {s : SnV} {i t c : Int} {l : List UInt8} (h : s = ⟨i, t, c, l⟩ ∧ l.length ≤ 9223372036854775807) : AX Tryz.prog 24 #[.int .u64 i, .int .u64 t, .int .i64 c, .string (bs l)] [] (fun v : Value => v) (fun v => [Xt v s]) := fun w rs h1 h2 h3 => by
 refine (Nr h w rs h1 h2 h3).mono ?_
 rintro e w' ⟨⟨g, k⟩, he, rs', hp, hch⟩
 exact ⟨_, he, rs', Al.one ⟨_, _, rfl, UG LM _ hp⟩, hch⟩
theorem Rv (w : World) {y z : SnV} {Ay : Option Addr} {cy : Nat} {v : Value} (hy : D6 w (.slice Ay y.d.length cy) y.d) (hz : X7 w v z) (r : Bool) (hr : OX y z = r) : Calls Tryz.prog 13 #[.agg #[.int .u64 y.i, .int .u64 y.t, .int .i64 y.c, .slice Ay y.d.length cy], v] w fun e w' => e = .returned (.bool r) ∧ Below w.heap.size w w' := by
 obtain ⟨A, c, rfl, h⟩ := hz
 exact Gq w hy h r hr
theorem OY (w : World)  : Calls Tryz.prog 6 #[] w fun e w' => e = .returned (.bool true) ∧ Below w.heap.size w w' := by
  refine Fj (args := []) 72 Tryz.func6 rfl rfl rfl ?_
  obtain ⟨d1, d2, d3, k1, f1, k2, f2, k3, f3, k4, r4, f5, r5, d4, k5⟩ := Yo UH UI
  obtain ⟨d0, hd0⟩ : ∃ d0, Hc 1048576 = d0 := ⟨_, rfl⟩
  have f0 : d0.fitK 9 := by rw [← hd0]; exact OV (by decide)
  rw [hd0] at k1
  obtain ⟨dc, hdc⟩ : ∃ dc, Cg d3 1 0 = dc := ⟨_, rfl⟩
  rw [hdc] at f5 r5 k5
  obtain ⟨kk, hkk⟩ : ∃ k, Cw d3 1 = k := ⟨_, rfl⟩
  obtain ⟨sa, hsa⟩ : ∃ sa, sn4 = sa := ⟨_, rfl⟩
  obtain ⟨sb, hsb⟩ : ∃ sb, sn5 = sb := ⟨_, rfl⟩
  have hka := UH
  have hkb := UI
  have ha4 : sa = ⟨4, 2, 14, [97, 98]⟩ ∧ [97, 98].length ≤ 9223372036854775807 := ⟨hsa.symm, by decide⟩
  have hb5 : sb = ⟨5, 2, 14, [99]⟩ ∧ [99].length ≤ 9223372036854775807 := ⟨hsb.symm, by decide⟩
  rw [hsa] at k1 k5 hka
  rw [hsb] at k3 k4 hkb
  refine Ad (Ae Ag rfl (Ab (Ad (Ae Ag rfl (Aj rfl (Ak (os' := fun p => [Ao p d0]) [] 0 (Ai Tryz.func21 (by kernel_rfl) rfl) ((hd0 ▸ Ov 1048576 (by decide))) rfl rfl rfl (fun _ => rfl) rfl rfl rfl) ?_))))); rintro p
  refine Ae Ag rfl (Ab (Av (Ad (Ae Ag rfl (Aa rfl (.bool false) (fun b w hb hH => AZ rfl rfl rfl (AP (by decide)) hb) (Ae Ag rfl (Aa rfl (.bool false) (fun b w hb hH => Ct (by kernel_rfl) rfl rfl rfl hb) (Ae Ag rfl (Aj rfl (Ak  [] 0 (Ai Tryz.func24 (by kernel_rfl) rfl) (Nr ha4) rfl rfl rfl (fun _ => rfl) rfl rfl rfl) ?_))))))))); rintro ⟨g1, kc1⟩
  refine Aj rfl (Ak (os' := fun _ => [Fa 5 g1 kc1 sa.d, Ao p d1]) [1, 0] 0 (Ai Tryz.func17 (by kernel_rfl) rfl) (IP hka (CG f0 (by decide)) LM k1) rfl rfl rfl (fun _ => rfl) rfl rfl rfl) ?_; rintro ⟨⟩
  refine Aa rfl (.bool false) (fun b w hb hH => AZ rfl rfl rfl (AP (by decide)) hb) (Ae Ag rfl (Aj rfl (Ak (os' := fun _ => [Fa 5 g1 kc1 sa.d, Ao p d2]) [1] 0 (Ai Tryz.func9 (by kernel_rfl) rfl) (Gm f1 k2) rfl rfl rfl (fun _ => rfl) rfl rfl rfl) ?_)); rintro ⟨⟩
  refine Aa rfl (.bool false) (fun b w hb hH => AZ rfl rfl rfl (AP (by decide)) hb) (Ae Ag rfl (Aj rfl (Ak  [] 0 (Ai Tryz.func24 (by kernel_rfl) rfl) (Nr hb5) rfl rfl rfl (fun _ => rfl) rfl rfl rfl) ?_)); rintro ⟨g2, kc2⟩
  refine Aj rfl (Ak (os' := fun _ => [Fa 5 g2 kc2 sb.d, Fa 5 g1 kc1 sa.d, Ao p d3]) [2, 0] 0 (Ai Tryz.func17 (by kernel_rfl) rfl) (IP hkb (CG f2 (by decide)) LM k3) rfl rfl rfl (fun _ => rfl) rfl rfl rfl) ?_; rintro ⟨⟩
  refine Aa rfl (.bool false) (fun b w hb hH => AZ rfl rfl rfl (AP (by decide)) hb) (Ae Ag rfl (Ab (As rfl (AB (AL (Ad (Ae Ag rfl (Aj rfl (Ak  [2] 0 (Ai Tryz.func11 (by kernel_rfl) rfl) (IN (CG f3 (by decide)) r4 k4) rfl rfl rfl (fun _ => rfl) rfl rfl rfl) ?_)))))))); rintro ⟨A6, c6⟩
  refine Ae Ag rfl (Aj (post := fun g3_ => [cell g3_ 34 #[.int .u64 0, .int .u64 0, .int .i64 0, .slice none 0 0], Ar 5 1 encB (.slice A6 sb.d.length c6) sb.d, Fa 5 g2 kc2 sb.d, Fa 5 g1 kc1 sa.d, Ao p d3]) rfl (BT Bl rfl) ?_); rintro g3_
  refine AF (post := fun _ => [cell g3_ 34 #[.int .u64 sb.i, .int .u64 sb.t, .int .i64 sb.c, .slice A6 sb.d.length c6], Ar 5 1 encB (.slice A6 sb.d.length c6) sb.d, Fa 5 g2 kc2 sb.d, Fa 5 g1 kc1 sa.d, Ao p d3]) rfl rfl (AE 0 (v := .agg #[.int .u64 sb.i, .int .u64 sb.t, .int .i64 sb.c, .slice A6 sb.d.length c6]) #[.int .u64 sb.i, .int .u64 sb.t, .int .i64 sb.c, .slice A6 sb.d.length c6] Aq.2 rfl rfl rfl rfl rfl rfl rfl rfl rfl) ?_; rintro ⟨⟩
  refine Ae Ag rfl (Ab (Ad (Ae Ag rfl (Aj rfl (Ak (os' := fun _ => [cell g3_ 34 #[.int .u64 sb.i, .int .u64 sb.t, .int .i64 sb.c, .slice A6 sb.d.length c6], Ar 5 1 encB (.slice A6 sb.d.length c6) sb.d, Fa 5 g2 kc2 sb.d, Fa 5 g1 kc1 sa.d, Ao p dc]) [4] 0 (Ai Tryz.func25 (by kernel_rfl) rfl) (Ly f3.fit (by decide) (by decide) hkk hdc) rfl rfl rfl (fun _ => rfl) rfl rfl rfl) ?_)))); rintro ⟨⟩
  refine Ab (Ad (Ae Ag rfl (Aj rfl (Ak  [4] 0 (Ai Tryz.func11 (by kernel_rfl) rfl) (IN (CG f5 (by decide)) r5 k5) rfl rfl rfl (fun _ => rfl) rfl rfl rfl) ?_))); rintro ⟨A7, c7⟩
  refine Ae Ag rfl (Aj (post := fun g6_ => [cell g6_ 34 #[.int .u64 0, .int .u64 0, .int .i64 0, .slice none 0 0], Ar 5 1 encB (.slice A7 sa.d.length c7) sa.d, cell g3_ 34 #[.int .u64 sb.i, .int .u64 sb.t, .int .i64 sb.c, .slice A6 sb.d.length c6], Ar 5 1 encB (.slice A6 sb.d.length c6) sb.d, Fa 5 g2 kc2 sb.d, Fa 5 g1 kc1 sa.d, Ao p d4]) rfl (BT Bl rfl) ?_); rintro g6_
  refine AF (post := fun _ => [cell g6_ 34 #[.int .u64 sa.i, .int .u64 sa.t, .int .i64 sa.c, .slice A7 sa.d.length c7], Ar 5 1 encB (.slice A7 sa.d.length c7) sa.d, cell g3_ 34 #[.int .u64 sb.i, .int .u64 sb.t, .int .i64 sb.c, .slice A6 sb.d.length c6], Ar 5 1 encB (.slice A6 sb.d.length c6) sb.d, Fa 5 g2 kc2 sb.d, Fa 5 g1 kc1 sa.d, Ao p d4]) rfl rfl (AE 0 (v := .agg #[.int .u64 sa.i, .int .u64 sa.t, .int .i64 sa.c, .slice A7 sa.d.length c7]) #[.int .u64 sa.i, .int .u64 sa.t, .int .i64 sa.c, .slice A7 sa.d.length c7] Aq.2 rfl rfl rfl rfl rfl rfl rfl rfl rfl) ?_; rintro ⟨⟩
  refine Ae Ag rfl (Ab (BB.keep (env' := [(0, .bool false), (3, .pointer (some ⟨g3_, 0, none⟩)), (4, .bool true), (5, .int .i64 0), (6, .pointer (some ⟨g6_, 0, none⟩)), (7, .bool true), (8, .int .i64 0)]) ⟨rfl, rfl, rfl, rfl, rfl, rfl, rfl, trivial⟩ (Av (DW 2 rfl ?_))))
  refine BL 22 4 [⟨.quiet, [none, none, none, none], fun _ => .int .i64 0, []⟩, ⟨.quiet, [none, none, none, none], fun _ => .bool true, [0]⟩, ⟨.quiet, [none, none, none, none], fun _ => .bool true, [1]⟩, ⟨.quiet, [none, none, none, none], fun _ => .bool true, [2]⟩, ⟨.quiet, [none, none, none, none], fun _ => .bool true, [2, 3]⟩, ⟨.quiet, [none, none, none, none], fun _ => .bool true, [4]⟩, ⟨.quiet, [none, none, none, none], fun _ => .agg #[.int .u64 sb.i, .int .u64 sb.t, .int .i64 sb.c, .slice A6 sb.d.length c6], [5]⟩, ⟨.act 0, [some false, some false, some false, some false], fun _ => undef, [5]⟩, ⟨.actv 1, [some true, some false, some false, some false], fun _ => .bool true, [6, 7, 5]⟩, ⟨.quiet, [some true, some true, none, none], fun _ => .bool true, [5, 8]⟩, ⟨.quiet, [some true, some true, none, none], fun _ => .bool true, [9]⟩, ⟨.quiet, [some true, some true, none, none], fun _ => .int .i64 0, [10]⟩, ⟨.quiet, [some true, some true, none, none], fun _ => .bool true, [11, 10]⟩, ⟨.quiet, [some true, some true, none, none], fun _ => .bool true, [10, 12]⟩, ⟨.quiet, [some true, some true, none, none], fun _ => .bool true, [13]⟩, ⟨.quiet, [some true, some true, none, none], fun _ => .bool true, [14]⟩, ⟨.quiet, [some true, some true, none, none], fun _ => .bool true, [14, 15]⟩, ⟨.quiet, [some true, some true, none, none], fun _ => .bool true, [16]⟩, ⟨.quiet, [some true, some true, none, none], fun _ => .agg #[.int .u64 sa.i, .int .u64 sa.t, .int .i64 sa.c, .slice A7 sa.d.length c7], [17]⟩, ⟨.act 2, [some true, some true, some false, some false], fun _ => undef, [17]⟩, ⟨.actv 3, [some true, some true, some true, some false], fun _ => .bool true, [18, 19, 17]⟩, ⟨.quiet, [some true, some true, some true, some true], fun _ => .bool true, [17, 20]⟩] [(0, .bool false), (3, .pointer (some ⟨g3_, 0, none⟩)), (4, .bool true), (5, .int .i64 0), (6, .pointer (some ⟨g6_, 0, none⟩)), (7, .bool true), (8, .int .i64 0)] (fun ρ => match ρ with | [rq0, rq1, rq2, rq3] => [Co rq2 (fun sv4 => Xt sv4 sa) (DN), Co rq0 (fun sv3 => Xt sv3 sb) (DN), cell g6_ 34 #[.int .u64 sa.i, .int .u64 sa.t, .int .i64 sa.c, .slice A7 sa.d.length c7], Ar 5 1 encB (.slice A7 sa.d.length c7) sa.d, cell g3_ 34 #[.int .u64 sb.i, .int .u64 sb.t, .int .i64 sb.c, .slice A6 sb.d.length c6], Ar 5 1 encB (.slice A6 sb.d.length c6) sb.d, Fa 5 g2 kc2 sb.d, Fa 5 g1 kc1 sa.d, Ao p d4] | _ => []) (by kernel_rfl) (by kernel_rfl) ⟨rfl, rfl, rfl, rfl, rfl, rfl, rfl, trivial⟩ rfl ?_ ?_
  refine Ac (by intro r0_ r1_ r2_ r3_; exact ⟨rfl, fun b w hH hb => Af Ag rfl hb⟩) (Ac (by intro r0_ r1_ r2_ r3_; exact ⟨rfl, fun b w hH hb => AZ rfl rfl rfl (GT (by decide)) hb⟩) (Ac (by intro r0_ r1_ r2_ r3_; exact ⟨rfl, fun b w hH hb => Af Ag rfl hb⟩) (Ac (by intro r0_ r1_ r2_ r3_; exact ⟨rfl, fun b w hH hb => Af Ag rfl hb⟩) (Ac (by intro r0_ r1_ r2_ r3_; exact ⟨rfl, fun b w hH hb => Af Ag rfl hb⟩) (Ac (by intro r0_ r1_ r2_ r3_; exact ⟨rfl, fun b w hH hb => Af Ag rfl hb⟩) (Ac (by intro r0_ r1_ r2_ r3_; exact ⟨rfl, fun b w hH hb => Ba rfl rfl (DM (cs := [.int .u64 sb.i, .int .u64 sb.t, .int .i64 sb.c, .slice A6 sb.d.length c6]) Aq rfl) (hH.row 4 rfl) hb⟩) (Ac (by exact ⟨rfl, Bk.s (Ak (os' := fun sv3 => [DN, Xt sv3 sb, cell g6_ 34 #[.int .u64 sa.i, .int .u64 sa.t, .int .i64 sa.c, .slice A7 sa.d.length c7], Ar 5 1 encB (.slice A7 sa.d.length c7) sa.d, cell g3_ 34 #[.int .u64 sb.i, .int .u64 sb.t, .int .i64 sb.c, .slice A6 sb.d.length c6], Ar 5 1 encB (.slice A6 sb.d.length c6) sb.d, Fa 5 g2 kc2 sb.d, Fa 5 g1 kc1 sa.d, Ao p d4]) [1] 1 (Ai Tryz.func24 (by kernel_rfl) rfl) (Ru hb5) rfl rfl rfl (fun _ => rfl) rfl rfl rfl) (fun _ => rfl)⟩) (Ac (by intro sv3; exact ⟨rfl, Bk.su (AU (Ai Tryz.func13 (by kernel_rfl) rfl) (fun w hH => Rv w (hH.sl8 5 rfl) (hH.snT 1 rfl) true (EW _)) rfl rfl rfl) rfl⟩) (Ac (by intro sv3 v1_ r2_ r3_; exact ⟨rfl, fun b w hH hb => Af Ag rfl hb⟩) ?_)))))))))
  refine Ac (by intro sv3 v1_ r2_ r3_; exact ⟨rfl, fun b w hH hb => Af Ag rfl hb⟩) (Ac (by intro sv3 v1_ r2_ r3_; exact ⟨rfl, fun b w hH hb => Af Ag rfl hb⟩) (Ac (by intro sv3 v1_ r2_ r3_; exact ⟨rfl, fun b w hH hb => AZ rfl rfl rfl (GT (by decide)) hb⟩) (Ac (by intro sv3 v1_ r2_ r3_; exact ⟨rfl, fun b w hH hb => Af Ag rfl hb⟩) (Ac (by intro sv3 v1_ r2_ r3_; exact ⟨rfl, fun b w hH hb => Af Ag rfl hb⟩) (Ac (by intro sv3 v1_ r2_ r3_; exact ⟨rfl, fun b w hH hb => Af Ag rfl hb⟩) (Ac (by intro sv3 v1_ r2_ r3_; exact ⟨rfl, fun b w hH hb => Af Ag rfl hb⟩) (Ac (by intro sv3 v1_ r2_ r3_; exact ⟨rfl, fun b w hH hb => Af Ag rfl hb⟩) (Ac (by intro sv3 v1_ r2_ r3_; exact ⟨rfl, fun b w hH hb => Ba rfl rfl (DM (cs := [.int .u64 sa.i, .int .u64 sa.t, .int .i64 sa.c, .slice A7 sa.d.length c7]) Aq rfl) (hH.row 2 rfl) hb⟩) (Ac (by intro sv3 v1_; exact ⟨rfl, Bk.s (Ak (os' := fun sv4 => [Xt sv4 sa, Xt sv3 sb, cell g6_ 34 #[.int .u64 sa.i, .int .u64 sa.t, .int .i64 sa.c, .slice A7 sa.d.length c7], Ar 5 1 encB (.slice A7 sa.d.length c7) sa.d, cell g3_ 34 #[.int .u64 sb.i, .int .u64 sb.t, .int .i64 sb.c, .slice A6 sb.d.length c6], Ar 5 1 encB (.slice A6 sb.d.length c6) sb.d, Fa 5 g2 kc2 sb.d, Fa 5 g1 kc1 sa.d, Ao p d4]) [0] 1 (Ai Tryz.func24 (by kernel_rfl) rfl) (Ru ha4) rfl rfl rfl (fun _ => rfl) rfl rfl rfl) (fun _ => rfl)⟩) ?_)))))))))
  refine Ac (by intro sv3 v1_ sv4; exact ⟨rfl, Bk.su (AU (Ai Tryz.func13 (by kernel_rfl) rfl) (fun w hH => Rv w (hH.sl8 3 rfl) (hH.snT 0 rfl) true (EW _)) rfl rfl rfl) rfl⟩) (Ac (by intro sv3 v1_ sv4 v3_; exact ⟨rfl, fun b w hH hb => Af Ag rfl hb⟩) ?_)
  exact B7
  intro sv3 v1_ sv4 v3_
  refine Cf.keep (env' := [(0, .bool false), (71, .bool true)]) ⟨rfl, rfl, trivial⟩ (Ae Ag rfl (AV (AL (Ax ?_))))
  exact Aw (.tmp rfl) (fun w h => ⟨rfl, AA h.up⟩) rfl
end Go.Proofs.YtjcfimmcogkopaaGreat.Sep
