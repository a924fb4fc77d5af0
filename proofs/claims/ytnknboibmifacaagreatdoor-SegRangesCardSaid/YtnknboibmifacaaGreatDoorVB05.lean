/-
  RpcD · DskS · DskW
-/
import Derived.Test.YtnknboibmifacaaGreatDoorVB02
import Derived.Test.YtnknboibmifacaaGreatDoorVB04
set_option linter.unusedSimpArgs false
set_option linter.unusedVariables false
set_option maxRecDepth 100000
namespace Go.Proofs.YtnknboibmifacaaGreatDoor.Sep
open Go.RowKit
open Go.Proofs.YtnknboibmifacaaGreatDoor.Mem (AR B3 Chg Av)
section
variable {P : Program} {ops : Array Oper} {Q : Exit → Act → World → Prop} {n : Nat} {env : List (Nat × Value)} {B : Nat → Prop} {w0 : World} {os : List Ass} {t : Ass}
theorem RA (h : t []) : ∀ rs, Al os rs → ∃ _ : Unit, ∃ rs', rs.Perm rs' ∧ Al (t :: os) rs' := fun rs hr => ⟨(), rs, .refl _, [], rs, rfl, h, hr⟩
theorem NY (h0 : t []) {c : Code} (h : AN P Q n env B w0 (t :: os) c) : AN P Q n env B w0 os c := AN.via (fun _ : Unit => _) (RA h0) fun _ => h
theorem DV {xs : List Ass} {p : Prop} (hp : p) {z : List RowT} (h : Al xs z) : Al (xs ++ [fact p]) z := by
 have := Al.app h (show Al [fact p] [] from ⟨[], [], rfl, ⟨rfl, hp⟩, rfl⟩)
 rwa [List.append_nil] at this
end
structure EsV where
  v : Value
  l : List EntV
theorem Ii (u : World) (v : Value) (l : List UInt8) (hv : D9 u v l) (hl : l.length ≤ 140737488355328) (e : EntD) (en : Nat) (hD : Ei l = (e, en)) : ES u Tryz.prog 137 #[v] [] (fun (x : SlV) => .tuple #[.agg #[.int .i64 e.k, .int .u64 e.t, .int .u64 e.i, .slice x.A e.d.length x.c, .int .i64 e.c], .int .i64 (en : Int)]) (fun (x : SlV) => [Ak 5 1 encB (.slice x.A e.d.length x.c) e.d]) := by
  obtain ⟨⟨n0, l0, f0⟩, h0⟩ : ∃ R, Bl 2 l 0 = R := ⟨_, rfl⟩
  obtain ⟨⟨n1, l1, f1⟩, h1⟩ : ∃ R, Cv 72057594037927935 l0 f0 = R := ⟨_, rfl⟩
  obtain ⟨⟨n2, l2, f2⟩, h2⟩ : ∃ R, Cv 72057594037927935 l1 f1 = R := ⟨_, rfl⟩
  have hn0 := NS 2 l 0
  rw [h0] at hn0
  have hn0 : n0 ≤ 2 := hn0
  refine KA (args := [v]) 47 Tryz.func137 rfl rfl rfl ?_; intro w rs hU hS
  refine Ad ?_
  refine Af Ai rfl ?_
  refine Am (post := fun g2 => [cell g2 34 #[.int .i64 0, .int .u64 0, .int .u64 0, .slice none 0 0, .int .i64 0]]) rfl (BW Bz rfl) ?_; rintro g2
  refine Af Ai rfl ?_
  refine Ab (An ?_)
  by_cases h16 : 160 < l.length
  · skip
    obtain ⟨rfl, rfl⟩ := EL (L5 h16) hD
    refine Ad ?_
    refine Af Ai rfl ?_
    refine Aa rfl (.int .i64 (l.length : Int)) (fun b w hb hH => Bp ((En hv hU hS hH).rd) Tryz.underlying30 rfl rfl hb) ?_
    refine Aa rfl (.bool true) (fun b w hb hH => AZ rfl rfl rfl (BO (by omega)) hb) ?_
    refine Ab (AI rfl ?_)
    refine BN 5 1 encB ?_
    refine Ad ?_
    refine Af Ai rfl ?_
    refine Aa rfl (.agg #[.int .i64 0, .int .u64 0, .int .u64 0, .slice none 0 0, .int .i64 0]) (fun b w hb hH => Bv rfl rfl (by kernel_rfl) hb) ?_
    refine AL (post := fun _ => [Ak 5 1 encB (.slice none 0 0) ([]), cell g2 34 #[.int .i64 0, .int .u64 0, .int .u64 0, .slice none 0 0, .int .i64 0]]) rfl rfl (AU 1 (v := .agg #[.int .i64 0, .int .u64 0, .int .u64 0, .slice none 0 0, .int .i64 0]) #[.int .i64 0, .int .u64 0, .int .u64 0, .slice none 0 0, .int .i64 0] BH.2 rfl rfl rfl rfl rfl rfl rfl rfl rfl) ?_; rintro ⟨⟩
    refine Af Ai rfl ?_
    refine Ab (Az (D8 ?_))
    exact Ch (.cell 1 (v := .agg #[.int .i64 0, .int .u64 0, .int .u64 0, .slice none 0 0, .int .i64 0]) (EY (cs := [.int .i64 0, .int .u64 0, .int .u64 0, .slice none 0 0, .int .i64 0]) BH rfl) rfl rfl) (.tmp rfl) (fun w h => AC (⟨none, 0⟩) rfl [0] rfl h Ed) rfl
  · skip
    refine Ad ?_
    refine Af Ai rfl ?_
    refine Aa rfl (.int .i64 (l.length : Int)) (fun b w hb hH => Bp ((En hv hU hS hH).rd) Tryz.underlying30 rfl rfl hb) ?_
    refine Aa rfl (.bool false) (fun b w hb hH => AZ rfl rfl rfl (BE (by omega)) hb) ?_
    refine Ab (As rfl (Aw (AB (Ad ?_))))
    refine Af Ai rfl ?_
    refine Am (post := fun g => [DU g l 0, cell g2 34 #[.int .i64 0, .int .u64 0, .int .u64 0, .slice none 0 0, .int .i64 0]]) rfl (MJ hU hS (os' := fun g => [DU g l 0, cell g2 34 #[.int .i64 0, .int .u64 0, .int .u64 0, .slice none 0 0, .int .i64 0]]) [] 0 (Aj Tryz.func166 (by kernel_rfl) rfl) (Wh u v l hv hl) rfl rfl rfl (fun _ => rfl) rfl rfl rfl) ?_; rintro g
    refine Af Ai rfl ?_
    refine Ab (Ad ?_)
    refine Af Ai rfl ?_
    refine Am (post := fun g5 => [cell g5 34 #[.int .i64 0, .int .u64 0, .int .u64 0, .slice none 0 0, .int .i64 0], DU g l 0, cell g2 34 #[.int .i64 0, .int .u64 0, .int .u64 0, .slice none 0 0, .int .i64 0]]) rfl (BW Bz rfl) ?_; rintro g5
    refine Ab (Ad ?_)
    refine Af Ai rfl ?_
    refine Am rfl (Au (os' := fun _ => [cell g5 34 #[.int .i64 0, .int .u64 0, .int .u64 0, .slice none 0 0, .int .i64 0], DU g l0 f0, cell g2 34 #[.int .i64 0, .int .u64 0, .int .u64 0, .slice none 0 0, .int .i64 0]]) [1] 0 (Aj Tryz.func167 (by kernel_rfl) rfl) (Qx g l 0 2 (by decide) (n0, l0, f0) h0) rfl rfl rfl (fun _ => rfl) rfl rfl rfl) ?_; rintro ⟨⟩
    refine Aa rfl (.int .i64 (n0 : Int)) (fun b w hb hH => A5 Tryz.underlying5 Tryz.underlying3 (IntWalk.i64_in _ (by omega)) rfl rfl hb) ?_
    refine Af Ai rfl ?_
    refine AL (post := fun _ => [cell g5 34 #[.int .i64 (n0 : Int), .int .u64 0, .int .u64 0, .slice none 0 0, .int .i64 0], DU g l0 f0, cell g2 34 #[.int .i64 0, .int .u64 0, .int .u64 0, .slice none 0 0, .int .i64 0]]) rfl rfl (AU 0 (v := .int .i64 (n0 : Int)) #[.int .i64 (n0 : Int), .int .u64 0, .int .u64 0, .slice none 0 0, .int .i64 0] Bh.2 rfl rfl rfl rfl rfl rfl rfl rfl rfl) ?_; rintro ⟨⟩
    refine Ab (Ad ?_)
    refine Af Ai rfl ?_
    refine Am rfl (Au (os' := fun _ => [cell g5 34 #[.int .i64 (n0 : Int), .int .u64 0, .int .u64 0, .slice none 0 0, .int .i64 0], DU g l1 f1, cell g2 34 #[.int .i64 0, .int .u64 0, .int .u64 0, .slice none 0 0, .int .i64 0]]) [1] 0 (Aj Tryz.func168 (by kernel_rfl) rfl) (S5 g l0 f0 72057594037927935 (by decide) (n1, l1, f1) h1) rfl rfl rfl (fun _ => rfl) rfl rfl rfl) ?_; rintro ⟨⟩
    refine Af Ai rfl ?_
    refine AL (post := fun _ => [cell g5 34 #[.int .i64 (n0 : Int), .int .u64 (n1 : Int), .int .u64 0, .slice none 0 0, .int .i64 0], DU g l1 f1, cell g2 34 #[.int .i64 0, .int .u64 0, .int .u64 0, .slice none 0 0, .int .i64 0]]) rfl rfl (AU 0 (v := .int .u64 (n1 : Int)) #[.int .i64 (n0 : Int), .int .u64 (n1 : Int), .int .u64 0, .slice none 0 0, .int .i64 0] AO.2 rfl rfl rfl rfl rfl rfl rfl rfl rfl) ?_; rintro ⟨⟩
    refine Ab (Ad ?_)
    refine Af Ai rfl ?_
    refine Am rfl (Au (os' := fun _ => [cell g5 34 #[.int .i64 (n0 : Int), .int .u64 (n1 : Int), .int .u64 0, .slice none 0 0, .int .i64 0], DU g l2 f2, cell g2 34 #[.int .i64 0, .int .u64 0, .int .u64 0, .slice none 0 0, .int .i64 0]]) [1] 0 (Aj Tryz.func168 (by kernel_rfl) rfl) (S5 g l1 f1 72057594037927935 (by decide) (n2, l2, f2) h2) rfl rfl rfl (fun _ => rfl) rfl rfl rfl) ?_; rintro ⟨⟩
    refine Af Ai rfl ?_
    refine AL (post := fun _ => [cell g5 34 #[.int .i64 (n0 : Int), .int .u64 (n1 : Int), .int .u64 (n2 : Int), .slice none 0 0, .int .i64 0], DU g l2 f2, cell g2 34 #[.int .i64 0, .int .u64 0, .int .u64 0, .slice none 0 0, .int .i64 0]]) rfl rfl (AU 0 (v := .int .u64 (n2 : Int)) #[.int .i64 (n0 : Int), .int .u64 (n1 : Int), .int .u64 (n2 : Int), .slice none 0 0, .int .i64 0] AO.2 rfl rfl rfl rfl rfl rfl rfl rfl rfl) ?_; rintro ⟨⟩
    refine Ab (An (Ad ?_))
    refine Af Ai rfl ?_
    refine Aa rfl (.int .i64 (n0 : Int)) (fun b w hb hH => AY rfl rfl (Bi Bh rfl) (hH.row 0 rfl) hb) ?_
    refine Ab (AQ ?_)
    have hk : n0 = 1 ∨ n0 = 2 ∨ (n0 ≠ 1 ∧ n0 ≠ 2) := by omega
    rcases hk with hk | hk | ⟨hk, hk2⟩
    · skip
      obtain ⟨⟨x, l3, f3⟩, ht⟩ : ∃ R, Cw 128 l2 f2 = R := ⟨_, rfl⟩
      have h3 : Gy n0 l2 f2 = ((x, 0), l3, f3) := by rw [hk]; exact Jl ht
      have hread := GX h0 h1 h2 h3
      refine Ad ?_
      refine Af Ai rfl ?_
      refine Aa rfl (.bool true) (fun b w hb hH => AZ rfl rfl rfl (FI (by omega)) hb) ?_
      refine Af Ai rfl ?_
      refine Ab (AI rfl (BJ ?_))
      refine Af Ai rfl ?_
      refine Am rfl (Au (os' := fun v9 => [Ak 5 1 encB v9 x, cell g5 34 #[.int .i64 (n0 : Int), .int .u64 (n1 : Int), .int .u64 (n2 : Int), .slice none 0 0, .int .i64 0], DU g l3 f3, cell g2 34 #[.int .i64 0, .int .u64 0, .int .u64 0, .slice none 0 0, .int .i64 0]]) [1] 0 (Aj Tryz.func169 (by kernel_rfl) rfl) (UP g l2 f2 128 (by decide) (x, l3, f3) ht) rfl rfl rfl (fun _ => rfl) rfl rfl rfl) ?_; rintro v9
      refine BT.fact 0 rfl (fun _ h => Ak.is h) ?_; rintro ⟨A9, c9, rfl⟩
      refine Af Ai rfl ?_
      refine AL (post := fun _ => [Ak 5 1 encB (.slice A9 x.length c9) x, cell g5 34 #[.int .i64 (n0 : Int), .int .u64 (n1 : Int), .int .u64 (n2 : Int), .slice A9 x.length c9, .int .i64 0], DU g l3 f3, cell g2 34 #[.int .i64 0, .int .u64 0, .int .u64 0, .slice none 0 0, .int .i64 0]]) rfl rfl (AU 1 (v := .slice A9 x.length c9) #[.int .i64 (n0 : Int), .int .u64 (n1 : Int), .int .u64 (n2 : Int), .slice A9 x.length c9, .int .i64 0] CS.2 rfl rfl rfl rfl rfl rfl rfl rfl rfl) ?_; rintro ⟨⟩
      refine AD (AW (AB (An ?_)))
      by_cases hf : EZ l3 f3 = 0
      · skip
        refine Ad ?_
        refine Af Ai rfl ?_
        refine Am rfl (Au (os' := fun _ => [Ak 5 1 encB (.slice A9 x.length c9) x, cell g5 34 #[.int .i64 (n0 : Int), .int .u64 (n1 : Int), .int .u64 (n2 : Int), .slice A9 x.length c9, .int .i64 0], DU g l3 f3, cell g2 34 #[.int .i64 0, .int .u64 0, .int .u64 0, .slice none 0 0, .int .i64 0]]) [2] 0 (Aj Tryz.func170 (by kernel_rfl) rfl) (Js g l3 f3 0 hf) rfl rfl rfl (fun _ => rfl) rfl rfl rfl) ?_; rintro ⟨⟩
        refine Af Ai rfl ?_
        refine Ab (Ad ?_)
        refine Af Ai rfl ?_
        refine Aa rfl (.bool false) (fun b w hb hH => AZ rfl rfl rfl (Bu rfl) hb) ?_
        refine Ab (As rfl (Aw (AB (An ?_))))
        rcases Bool.eq_false_or_eq_true (BR (⟨(n0 : Int), (n1 : Int), (n2 : Int), x, ((0 : Nat) : Int)⟩ : EntD)) with hR | hR
        · skip
          obtain ⟨rfl, rfl⟩ := EL (Fx h16 hread hf hR) hD
          refine Ad ?_
          refine Af Ai rfl ?_
          refine Aa rfl (.agg #[.int .i64 (n0 : Int), .int .u64 (n1 : Int), .int .u64 (n2 : Int), .slice A9 x.length c9, .int .i64 0]) (fun b w hb hH => AY rfl rfl (EY (cs := [.int .i64 (n0 : Int), .int .u64 (n1 : Int), .int .u64 (n2 : Int), .slice A9 x.length c9, .int .i64 0]) BH rfl) (hH.row 1 rfl) hb) ?_
          refine Am (post := fun _ => [Ak 5 1 encB (.slice A9 x.length c9) x, cell g5 34 #[.int .i64 (n0 : Int), .int .u64 (n1 : Int), .int .u64 (n2 : Int), .slice A9 x.length c9, .int .i64 0], DU g l3 f3, cell g2 34 #[.int .i64 0, .int .u64 0, .int .u64 0, .slice none 0 0, .int .i64 0]]) rfl (Bc (Aj Tryz.func44 (by kernel_rfl) rfl) (fun w hH => DB w ⟨(⟨(n0 : Int), (n1 : Int), (n2 : Int), x, ((0 : Nat) : Int)⟩ : EntD), A9, c9⟩ (hH.sl8 0 rfl) true hR) rfl rfl rfl) ?_; rintro ⟨⟩
          refine Af Ai rfl ?_
          refine Ab (As rfl (Aw (AB (Ad ?_))))
          refine Af Ai rfl ?_
          refine Aa rfl (.agg #[.int .i64 (n0 : Int), .int .u64 (n1 : Int), .int .u64 (n2 : Int), .slice A9 x.length c9, .int .i64 0]) (fun b w hb hH => AY rfl rfl (EY (cs := [.int .i64 (n0 : Int), .int .u64 (n1 : Int), .int .u64 (n2 : Int), .slice A9 x.length c9, .int .i64 0]) BH rfl) (hH.row 1 rfl) hb) ?_
          refine AL (post := fun _ => [Ak 5 1 encB (.slice A9 x.length c9) x, cell g5 34 #[.int .i64 (n0 : Int), .int .u64 (n1 : Int), .int .u64 (n2 : Int), .slice A9 x.length c9, .int .i64 0], DU g l3 f3, cell g2 34 #[.int .i64 (n0 : Int), .int .u64 (n1 : Int), .int .u64 (n2 : Int), .slice A9 x.length c9, .int .i64 0]]) rfl rfl (AU 3 (v := .agg #[.int .i64 (n0 : Int), .int .u64 (n1 : Int), .int .u64 (n2 : Int), .slice A9 x.length c9, .int .i64 0]) #[.int .i64 (n0 : Int), .int .u64 (n1 : Int), .int .u64 (n2 : Int), .slice A9 x.length c9, .int .i64 0] BH.2 rfl rfl rfl rfl rfl rfl rfl rfl rfl) ?_; rintro ⟨⟩
          refine Af Ai rfl ?_
          refine Ab (Az ?_)
          exact Ch (.cell 3 (v := .agg #[.int .i64 (n0 : Int), .int .u64 (n1 : Int), .int .u64 (n2 : Int), .slice A9 x.length c9, .int .i64 0]) (EY (cs := [.int .i64 (n0 : Int), .int .u64 (n1 : Int), .int .u64 (n2 : Int), .slice A9 x.length c9, .int .i64 0]) BH rfl) rfl rfl) (.tmp rfl) (fun w h => AC (⟨A9, c9⟩) rfl [0] rfl h Ed) rfl
        · skip
          obtain ⟨rfl, rfl⟩ := EL (Gl h16 hread hf hR) hD
          refine Ad ?_
          refine Af Ai rfl ?_
          refine Aa rfl (.agg #[.int .i64 (n0 : Int), .int .u64 (n1 : Int), .int .u64 (n2 : Int), .slice A9 x.length c9, .int .i64 0]) (fun b w hb hH => AY rfl rfl (EY (cs := [.int .i64 (n0 : Int), .int .u64 (n1 : Int), .int .u64 (n2 : Int), .slice A9 x.length c9, .int .i64 0]) BH rfl) (hH.row 1 rfl) hb) ?_
          refine Am (post := fun _ => [Ak 5 1 encB (.slice A9 x.length c9) x, cell g5 34 #[.int .i64 (n0 : Int), .int .u64 (n1 : Int), .int .u64 (n2 : Int), .slice A9 x.length c9, .int .i64 0], DU g l3 f3, cell g2 34 #[.int .i64 0, .int .u64 0, .int .u64 0, .slice none 0 0, .int .i64 0]]) rfl (Bc (Aj Tryz.func44 (by kernel_rfl) rfl) (fun w hH => DB w ⟨(⟨(n0 : Int), (n1 : Int), (n2 : Int), x, ((0 : Nat) : Int)⟩ : EntD), A9, c9⟩ (hH.sl8 0 rfl) false hR) rfl rfl rfl) ?_; rintro ⟨⟩
          refine Af Ai rfl ?_
          refine Ab (AI rfl ?_)
          refine BN 5 1 encB ?_
          refine Ad ?_
          refine Af Ai rfl ?_
          refine Aa rfl (.agg #[.int .i64 0, .int .u64 0, .int .u64 0, .slice none 0 0, .int .i64 0]) (fun b w hb hH => Bv rfl rfl (by kernel_rfl) hb) ?_
          refine AL (post := fun _ => [Ak 5 1 encB (.slice none 0 0) ([]), Ak 5 1 encB (.slice A9 x.length c9) x, cell g5 34 #[.int .i64 (n0 : Int), .int .u64 (n1 : Int), .int .u64 (n2 : Int), .slice A9 x.length c9, .int .i64 0], DU g l3 f3, cell g2 34 #[.int .i64 0, .int .u64 0, .int .u64 0, .slice none 0 0, .int .i64 0]]) rfl rfl (AU 4 (v := .agg #[.int .i64 0, .int .u64 0, .int .u64 0, .slice none 0 0, .int .i64 0]) #[.int .i64 0, .int .u64 0, .int .u64 0, .slice none 0 0, .int .i64 0] BH.2 rfl rfl rfl rfl rfl rfl rfl rfl rfl) ?_; rintro ⟨⟩
          refine Af Ai rfl ?_
          refine Ab (Az (D8 ?_))
          exact Ch (.cell 4 (v := .agg #[.int .i64 0, .int .u64 0, .int .u64 0, .slice none 0 0, .int .i64 0]) (EY (cs := [.int .i64 0, .int .u64 0, .int .u64 0, .slice none 0 0, .int .i64 0]) BH rfl) rfl rfl) (.tmp rfl) (fun w h => AC (⟨none, 0⟩) rfl [0] rfl h Ed) rfl
      · skip
        obtain ⟨rfl, rfl⟩ := EL (IU h16 hread hf) hD
        refine Ad ?_
        refine Af Ai rfl ?_
        refine Am rfl (Au (os' := fun _ => [Ak 5 1 encB (.slice A9 x.length c9) x, cell g5 34 #[.int .i64 (n0 : Int), .int .u64 (n1 : Int), .int .u64 (n2 : Int), .slice A9 x.length c9, .int .i64 0], DU g l3 f3, cell g2 34 #[.int .i64 0, .int .u64 0, .int .u64 0, .slice none 0 0, .int .i64 0]]) [2] 0 (Aj Tryz.func170 (by kernel_rfl) rfl) (Js g l3 f3 (EZ l3 f3) rfl) rfl rfl rfl (fun _ => rfl) rfl rfl rfl) ?_; rintro ⟨⟩
        refine Af Ai rfl ?_
        refine Ab (Ad ?_)
        refine Af Ai rfl ?_
        refine Aa rfl (.bool true) (fun b w hb hH => AZ rfl rfl rfl (D5 (by omega)) hb) ?_
        refine Ab (AI rfl ?_)
        refine BN 5 1 encB ?_
        refine Ad ?_
        refine Af Ai rfl ?_
        refine Aa rfl (.agg #[.int .i64 0, .int .u64 0, .int .u64 0, .slice none 0 0, .int .i64 0]) (fun b w hb hH => Bv rfl rfl (by kernel_rfl) hb) ?_
        refine Af Ai rfl ?_
        refine AL (post := fun _ => [Ak 5 1 encB (.slice none 0 0) ([]), Ak 5 1 encB (.slice A9 x.length c9) x, cell g5 34 #[.int .i64 (n0 : Int), .int .u64 (n1 : Int), .int .u64 (n2 : Int), .slice A9 x.length c9, .int .i64 0], DU g l3 f3, cell g2 34 #[.int .i64 0, .int .u64 0, .int .u64 0, .slice none 0 0, .int .i64 0]]) rfl rfl (AU 4 (v := .agg #[.int .i64 0, .int .u64 0, .int .u64 0, .slice none 0 0, .int .i64 0]) #[.int .i64 0, .int .u64 0, .int .u64 0, .slice none 0 0, .int .i64 0] BH.2 rfl rfl rfl rfl rfl rfl rfl rfl rfl) ?_; rintro ⟨⟩
        refine Af Ai rfl ?_
        refine Ab (Az (D8 ?_))
        exact Ch (.cell 4 (v := .agg #[.int .i64 0, .int .u64 0, .int .u64 0, .slice none 0 0, .int .i64 0]) (EY (cs := [.int .i64 0, .int .u64 0, .int .u64 0, .slice none 0 0, .int .i64 0]) BH rfl) rfl rfl) (.tmp rfl) (fun w h => AC (⟨none, 0⟩) rfl [0] rfl h Ed) rfl
    · skip
      obtain ⟨⟨c0, l3, f3⟩, ht⟩ : ∃ R, Bl 254 l2 f2 = R := ⟨_, rfl⟩
      have hc0 := NS 254 l2 f2
      rw [ht] at hc0
      have hc0 : c0 ≤ 254 := hc0
      have h3 : Gy n0 l2 f2 = (([], c0), l3, f3) := by rw [hk]; exact Jm ht
      have hread := GX h0 h1 h2 h3
      refine Ad ?_
      refine Af Ai rfl ?_
      refine Aa rfl (.bool false) (fun b w hb hH => AZ rfl rfl rfl (EK (by omega)) hb) ?_
      refine Af Ai rfl ?_
      refine Ab (As rfl (Ad ?_))
      refine Af Ai rfl ?_
      refine Aa rfl (.bool true) (fun b w hb hH => AZ rfl rfl rfl (FI (by omega)) hb) ?_
      refine Af Ai rfl ?_
      refine Ab (AI rfl (BJ ?_))
      refine Af Ai rfl ?_
      refine Am rfl (Au (os' := fun _ => [cell g5 34 #[.int .i64 (n0 : Int), .int .u64 (n1 : Int), .int .u64 (n2 : Int), .slice none 0 0, .int .i64 0], DU g l3 f3, cell g2 34 #[.int .i64 0, .int .u64 0, .int .u64 0, .slice none 0 0, .int .i64 0]]) [1] 0 (Aj Tryz.func167 (by kernel_rfl) rfl) (Qx g l2 f2 254 (by decide) (c0, l3, f3) ht) rfl rfl rfl (fun _ => rfl) rfl rfl rfl) ?_; rintro ⟨⟩
      refine Aa rfl (.int .i64 (c0 : Int)) (fun b w hb hH => A5 Tryz.underlying5 Tryz.underlying3 (IntWalk.i64_in _ (by omega)) rfl rfl hb) ?_
      refine Af Ai rfl ?_
      refine AL (post := fun _ => [cell g5 34 #[.int .i64 (n0 : Int), .int .u64 (n1 : Int), .int .u64 (n2 : Int), .slice none 0 0, .int .i64 (c0 : Int)], DU g l3 f3, cell g2 34 #[.int .i64 0, .int .u64 0, .int .u64 0, .slice none 0 0, .int .i64 0]]) rfl rfl (AU 0 (v := .int .i64 (c0 : Int)) #[.int .i64 (n0 : Int), .int .u64 (n1 : Int), .int .u64 (n2 : Int), .slice none 0 0, .int .i64 (c0 : Int)] Bh.2 rfl rfl rfl rfl rfl rfl rfl rfl rfl) ?_; rintro ⟨⟩
      refine AD (AW (AB (An ?_)))
      by_cases hf : EZ l3 f3 = 0
      · skip
        refine Ad ?_
        refine Af Ai rfl ?_
        refine Am rfl (Au (os' := fun _ => [cell g5 34 #[.int .i64 (n0 : Int), .int .u64 (n1 : Int), .int .u64 (n2 : Int), .slice none 0 0, .int .i64 (c0 : Int)], DU g l3 f3, cell g2 34 #[.int .i64 0, .int .u64 0, .int .u64 0, .slice none 0 0, .int .i64 0]]) [1] 0 (Aj Tryz.func170 (by kernel_rfl) rfl) (Js g l3 f3 0 hf) rfl rfl rfl (fun _ => rfl) rfl rfl rfl) ?_; rintro ⟨⟩
        refine Af Ai rfl ?_
        refine Ab (Ad ?_)
        refine Af Ai rfl ?_
        refine Aa rfl (.bool false) (fun b w hb hH => AZ rfl rfl rfl (Bu rfl) hb) ?_
        refine Ab (As rfl (Aw (AB (An ?_))))
        rcases Bool.eq_false_or_eq_true (BR (⟨(n0 : Int), (n1 : Int), (n2 : Int), [], (c0 : Int)⟩ : EntD)) with hR | hR
        · skip
          obtain ⟨rfl, rfl⟩ := EL (Fx h16 hread hf hR) hD
          refine Ad ?_
          refine Af Ai rfl ?_
          refine Aa rfl (.agg #[.int .i64 (n0 : Int), .int .u64 (n1 : Int), .int .u64 (n2 : Int), .slice none 0 0, .int .i64 (c0 : Int)]) (fun b w hb hH => AY rfl rfl (EY (cs := [.int .i64 (n0 : Int), .int .u64 (n1 : Int), .int .u64 (n2 : Int), .slice none 0 0, .int .i64 (c0 : Int)]) BH rfl) (hH.row 0 rfl) hb) ?_
          refine Am (post := fun _ => [cell g5 34 #[.int .i64 (n0 : Int), .int .u64 (n1 : Int), .int .u64 (n2 : Int), .slice none 0 0, .int .i64 (c0 : Int)], DU g l3 f3, cell g2 34 #[.int .i64 0, .int .u64 0, .int .u64 0, .slice none 0 0, .int .i64 0]]) rfl (Bc (Aj Tryz.func44 (by kernel_rfl) rfl) (fun w hH => DB w ⟨(⟨(n0 : Int), (n1 : Int), (n2 : Int), [], (c0 : Int)⟩ : EntD), none, 0⟩ (Hx w) true hR) rfl rfl rfl) ?_; rintro ⟨⟩
          refine Af Ai rfl ?_
          refine Ab (As rfl (Aw (AB ?_)))
          refine BN 5 1 encB ?_
          refine Ad ?_
          refine Af Ai rfl ?_
          refine Aa rfl (.agg #[.int .i64 (n0 : Int), .int .u64 (n1 : Int), .int .u64 (n2 : Int), .slice none 0 0, .int .i64 (c0 : Int)]) (fun b w hb hH => AY rfl rfl (EY (cs := [.int .i64 (n0 : Int), .int .u64 (n1 : Int), .int .u64 (n2 : Int), .slice none 0 0, .int .i64 (c0 : Int)]) BH rfl) (hH.row 1 rfl) hb) ?_
          refine AL (post := fun _ => [Ak 5 1 encB (.slice none 0 0) ([]), cell g5 34 #[.int .i64 (n0 : Int), .int .u64 (n1 : Int), .int .u64 (n2 : Int), .slice none 0 0, .int .i64 (c0 : Int)], DU g l3 f3, cell g2 34 #[.int .i64 (n0 : Int), .int .u64 (n1 : Int), .int .u64 (n2 : Int), .slice none 0 0, .int .i64 (c0 : Int)]]) rfl rfl (AU 3 (v := .agg #[.int .i64 (n0 : Int), .int .u64 (n1 : Int), .int .u64 (n2 : Int), .slice none 0 0, .int .i64 (c0 : Int)]) #[.int .i64 (n0 : Int), .int .u64 (n1 : Int), .int .u64 (n2 : Int), .slice none 0 0, .int .i64 (c0 : Int)] BH.2 rfl rfl rfl rfl rfl rfl rfl rfl rfl) ?_; rintro ⟨⟩
          refine Af Ai rfl ?_
          refine Ab (Az ?_)
          exact Ch (.cell 3 (v := .agg #[.int .i64 (n0 : Int), .int .u64 (n1 : Int), .int .u64 (n2 : Int), .slice none 0 0, .int .i64 (c0 : Int)]) (EY (cs := [.int .i64 (n0 : Int), .int .u64 (n1 : Int), .int .u64 (n2 : Int), .slice none 0 0, .int .i64 (c0 : Int)]) BH rfl) rfl rfl) (.tmp rfl) (fun w h => AC (⟨none, 0⟩) rfl [0] rfl h Ed) rfl
        · skip
          obtain ⟨rfl, rfl⟩ := EL (Gl h16 hread hf hR) hD
          refine Ad ?_
          refine Af Ai rfl ?_
          refine Aa rfl (.agg #[.int .i64 (n0 : Int), .int .u64 (n1 : Int), .int .u64 (n2 : Int), .slice none 0 0, .int .i64 (c0 : Int)]) (fun b w hb hH => AY rfl rfl (EY (cs := [.int .i64 (n0 : Int), .int .u64 (n1 : Int), .int .u64 (n2 : Int), .slice none 0 0, .int .i64 (c0 : Int)]) BH rfl) (hH.row 0 rfl) hb) ?_
          refine Am (post := fun _ => [cell g5 34 #[.int .i64 (n0 : Int), .int .u64 (n1 : Int), .int .u64 (n2 : Int), .slice none 0 0, .int .i64 (c0 : Int)], DU g l3 f3, cell g2 34 #[.int .i64 0, .int .u64 0, .int .u64 0, .slice none 0 0, .int .i64 0]]) rfl (Bc (Aj Tryz.func44 (by kernel_rfl) rfl) (fun w hH => DB w ⟨(⟨(n0 : Int), (n1 : Int), (n2 : Int), [], (c0 : Int)⟩ : EntD), none, 0⟩ (Hx w) false hR) rfl rfl rfl) ?_; rintro ⟨⟩
          refine Af Ai rfl ?_
          refine Ab (AI rfl ?_)
          refine BN 5 1 encB ?_
          refine Ad ?_
          refine Af Ai rfl ?_
          refine Aa rfl (.agg #[.int .i64 0, .int .u64 0, .int .u64 0, .slice none 0 0, .int .i64 0]) (fun b w hb hH => Bv rfl rfl (by kernel_rfl) hb) ?_
          refine AL (post := fun _ => [Ak 5 1 encB (.slice none 0 0) ([]), cell g5 34 #[.int .i64 (n0 : Int), .int .u64 (n1 : Int), .int .u64 (n2 : Int), .slice none 0 0, .int .i64 (c0 : Int)], DU g l3 f3, cell g2 34 #[.int .i64 0, .int .u64 0, .int .u64 0, .slice none 0 0, .int .i64 0]]) rfl rfl (AU 3 (v := .agg #[.int .i64 0, .int .u64 0, .int .u64 0, .slice none 0 0, .int .i64 0]) #[.int .i64 0, .int .u64 0, .int .u64 0, .slice none 0 0, .int .i64 0] BH.2 rfl rfl rfl rfl rfl rfl rfl rfl rfl) ?_; rintro ⟨⟩
          refine Af Ai rfl ?_
          refine Ab (Az (D8 ?_))
          exact Ch (.cell 3 (v := .agg #[.int .i64 0, .int .u64 0, .int .u64 0, .slice none 0 0, .int .i64 0]) (EY (cs := [.int .i64 0, .int .u64 0, .int .u64 0, .slice none 0 0, .int .i64 0]) BH rfl) rfl rfl) (.tmp rfl) (fun w h => AC (⟨none, 0⟩) rfl [0] rfl h Ed) rfl
      · skip
        obtain ⟨rfl, rfl⟩ := EL (IU h16 hread hf) hD
        refine Ad ?_
        refine Af Ai rfl ?_
        refine Am rfl (Au (os' := fun _ => [cell g5 34 #[.int .i64 (n0 : Int), .int .u64 (n1 : Int), .int .u64 (n2 : Int), .slice none 0 0, .int .i64 (c0 : Int)], DU g l3 f3, cell g2 34 #[.int .i64 0, .int .u64 0, .int .u64 0, .slice none 0 0, .int .i64 0]]) [1] 0 (Aj Tryz.func170 (by kernel_rfl) rfl) (Js g l3 f3 (EZ l3 f3) rfl) rfl rfl rfl (fun _ => rfl) rfl rfl rfl) ?_; rintro ⟨⟩
        refine Af Ai rfl ?_
        refine Ab (Ad ?_)
        refine Af Ai rfl ?_
        refine Aa rfl (.bool true) (fun b w hb hH => AZ rfl rfl rfl (D5 (by omega)) hb) ?_
        refine Ab (AI rfl ?_)
        refine BN 5 1 encB ?_
        refine Ad ?_
        refine Af Ai rfl ?_
        refine Aa rfl (.agg #[.int .i64 0, .int .u64 0, .int .u64 0, .slice none 0 0, .int .i64 0]) (fun b w hb hH => Bv rfl rfl (by kernel_rfl) hb) ?_
        refine Af Ai rfl ?_
        refine AL (post := fun _ => [Ak 5 1 encB (.slice none 0 0) ([]), cell g5 34 #[.int .i64 (n0 : Int), .int .u64 (n1 : Int), .int .u64 (n2 : Int), .slice none 0 0, .int .i64 (c0 : Int)], DU g l3 f3, cell g2 34 #[.int .i64 0, .int .u64 0, .int .u64 0, .slice none 0 0, .int .i64 0]]) rfl rfl (AU 3 (v := .agg #[.int .i64 0, .int .u64 0, .int .u64 0, .slice none 0 0, .int .i64 0]) #[.int .i64 0, .int .u64 0, .int .u64 0, .slice none 0 0, .int .i64 0] BH.2 rfl rfl rfl rfl rfl rfl rfl rfl rfl) ?_; rintro ⟨⟩
        refine Af Ai rfl ?_
        refine Ab (Az (D8 ?_))
        exact Ch (.cell 3 (v := .agg #[.int .i64 0, .int .u64 0, .int .u64 0, .slice none 0 0, .int .i64 0]) (EY (cs := [.int .i64 0, .int .u64 0, .int .u64 0, .slice none 0 0, .int .i64 0]) BH rfl) rfl rfl) (.tmp rfl) (fun w h => AC (⟨none, 0⟩) rfl [0] rfl h Ed) rfl
    · skip
      have h3 := Ib l2 f2 hk hk2
      have hread := GX h0 h1 h2 h3
      refine Ad ?_
      refine Af Ai rfl ?_
      refine Aa rfl (.bool false) (fun b w hb hH => AZ rfl rfl rfl (EK (by omega)) hb) ?_
      refine Af Ai rfl ?_
      refine Ab (As rfl (Ad ?_))
      refine Af Ai rfl ?_
      refine Aa rfl (.bool false) (fun b w hb hH => AZ rfl rfl rfl (EK (by omega)) hb) ?_
      refine Af Ai rfl ?_
      refine Ab (As rfl (Aw (AW (AB (An ?_)))))
      by_cases hf : EZ l2 f2 = 0
      · skip
        refine Ad ?_
        refine Af Ai rfl ?_
        refine Am rfl (Au (os' := fun _ => [cell g5 34 #[.int .i64 (n0 : Int), .int .u64 (n1 : Int), .int .u64 (n2 : Int), .slice none 0 0, .int .i64 0], DU g l2 f2, cell g2 34 #[.int .i64 0, .int .u64 0, .int .u64 0, .slice none 0 0, .int .i64 0]]) [1] 0 (Aj Tryz.func170 (by kernel_rfl) rfl) (Js g l2 f2 0 hf) rfl rfl rfl (fun _ => rfl) rfl rfl rfl) ?_; rintro ⟨⟩
        refine Af Ai rfl ?_
        refine Ab (Ad ?_)
        refine Af Ai rfl ?_
        refine Aa rfl (.bool false) (fun b w hb hH => AZ rfl rfl rfl (Bu rfl) hb) ?_
        refine Ab (As rfl (Aw (AB (An ?_))))
        rcases Bool.eq_false_or_eq_true (BR (⟨(n0 : Int), (n1 : Int), (n2 : Int), [], ((0 : Nat) : Int)⟩ : EntD)) with hR | hR
        · skip
          obtain ⟨rfl, rfl⟩ := EL (Fx h16 hread hf hR) hD
          refine Ad ?_
          refine Af Ai rfl ?_
          refine Aa rfl (.agg #[.int .i64 (n0 : Int), .int .u64 (n1 : Int), .int .u64 (n2 : Int), .slice none 0 0, .int .i64 0]) (fun b w hb hH => AY rfl rfl (EY (cs := [.int .i64 (n0 : Int), .int .u64 (n1 : Int), .int .u64 (n2 : Int), .slice none 0 0, .int .i64 0]) BH rfl) (hH.row 0 rfl) hb) ?_
          refine Am (post := fun _ => [cell g5 34 #[.int .i64 (n0 : Int), .int .u64 (n1 : Int), .int .u64 (n2 : Int), .slice none 0 0, .int .i64 0], DU g l2 f2, cell g2 34 #[.int .i64 0, .int .u64 0, .int .u64 0, .slice none 0 0, .int .i64 0]]) rfl (Bc (Aj Tryz.func44 (by kernel_rfl) rfl) (fun w hH => DB w ⟨(⟨(n0 : Int), (n1 : Int), (n2 : Int), [], ((0 : Nat) : Int)⟩ : EntD), none, 0⟩ (Hx w) true hR) rfl rfl rfl) ?_; rintro ⟨⟩
          refine Af Ai rfl ?_
          refine Ab (As rfl (Aw (AB ?_)))
          refine BN 5 1 encB ?_
          refine Ad ?_
          refine Af Ai rfl ?_
          refine Aa rfl (.agg #[.int .i64 (n0 : Int), .int .u64 (n1 : Int), .int .u64 (n2 : Int), .slice none 0 0, .int .i64 0]) (fun b w hb hH => AY rfl rfl (EY (cs := [.int .i64 (n0 : Int), .int .u64 (n1 : Int), .int .u64 (n2 : Int), .slice none 0 0, .int .i64 0]) BH rfl) (hH.row 1 rfl) hb) ?_
          refine AL (post := fun _ => [Ak 5 1 encB (.slice none 0 0) ([]), cell g5 34 #[.int .i64 (n0 : Int), .int .u64 (n1 : Int), .int .u64 (n2 : Int), .slice none 0 0, .int .i64 0], DU g l2 f2, cell g2 34 #[.int .i64 (n0 : Int), .int .u64 (n1 : Int), .int .u64 (n2 : Int), .slice none 0 0, .int .i64 0]]) rfl rfl (AU 3 (v := .agg #[.int .i64 (n0 : Int), .int .u64 (n1 : Int), .int .u64 (n2 : Int), .slice none 0 0, .int .i64 0]) #[.int .i64 (n0 : Int), .int .u64 (n1 : Int), .int .u64 (n2 : Int), .slice none 0 0, .int .i64 0] BH.2 rfl rfl rfl rfl rfl rfl rfl rfl rfl) ?_; rintro ⟨⟩
          refine Af Ai rfl ?_
          refine Ab (Az ?_)
          exact Ch (.cell 3 (v := .agg #[.int .i64 (n0 : Int), .int .u64 (n1 : Int), .int .u64 (n2 : Int), .slice none 0 0, .int .i64 0]) (EY (cs := [.int .i64 (n0 : Int), .int .u64 (n1 : Int), .int .u64 (n2 : Int), .slice none 0 0, .int .i64 0]) BH rfl) rfl rfl) (.tmp rfl) (fun w h => AC (⟨none, 0⟩) rfl [0] rfl h Ed) rfl
        · skip
          obtain ⟨rfl, rfl⟩ := EL (Gl h16 hread hf hR) hD
          refine Ad ?_
          refine Af Ai rfl ?_
          refine Aa rfl (.agg #[.int .i64 (n0 : Int), .int .u64 (n1 : Int), .int .u64 (n2 : Int), .slice none 0 0, .int .i64 0]) (fun b w hb hH => AY rfl rfl (EY (cs := [.int .i64 (n0 : Int), .int .u64 (n1 : Int), .int .u64 (n2 : Int), .slice none 0 0, .int .i64 0]) BH rfl) (hH.row 0 rfl) hb) ?_
          refine Am (post := fun _ => [cell g5 34 #[.int .i64 (n0 : Int), .int .u64 (n1 : Int), .int .u64 (n2 : Int), .slice none 0 0, .int .i64 0], DU g l2 f2, cell g2 34 #[.int .i64 0, .int .u64 0, .int .u64 0, .slice none 0 0, .int .i64 0]]) rfl (Bc (Aj Tryz.func44 (by kernel_rfl) rfl) (fun w hH => DB w ⟨(⟨(n0 : Int), (n1 : Int), (n2 : Int), [], ((0 : Nat) : Int)⟩ : EntD), none, 0⟩ (Hx w) false hR) rfl rfl rfl) ?_; rintro ⟨⟩
          refine Af Ai rfl ?_
          refine Ab (AI rfl ?_)
          refine BN 5 1 encB ?_
          refine Ad ?_
          refine Af Ai rfl ?_
          refine Aa rfl (.agg #[.int .i64 0, .int .u64 0, .int .u64 0, .slice none 0 0, .int .i64 0]) (fun b w hb hH => Bv rfl rfl (by kernel_rfl) hb) ?_
          refine AL (post := fun _ => [Ak 5 1 encB (.slice none 0 0) ([]), cell g5 34 #[.int .i64 (n0 : Int), .int .u64 (n1 : Int), .int .u64 (n2 : Int), .slice none 0 0, .int .i64 0], DU g l2 f2, cell g2 34 #[.int .i64 0, .int .u64 0, .int .u64 0, .slice none 0 0, .int .i64 0]]) rfl rfl (AU 3 (v := .agg #[.int .i64 0, .int .u64 0, .int .u64 0, .slice none 0 0, .int .i64 0]) #[.int .i64 0, .int .u64 0, .int .u64 0, .slice none 0 0, .int .i64 0] BH.2 rfl rfl rfl rfl rfl rfl rfl rfl rfl) ?_; rintro ⟨⟩
          refine Af Ai rfl ?_
          refine Ab (Az (D8 ?_))
          exact Ch (.cell 3 (v := .agg #[.int .i64 0, .int .u64 0, .int .u64 0, .slice none 0 0, .int .i64 0]) (EY (cs := [.int .i64 0, .int .u64 0, .int .u64 0, .slice none 0 0, .int .i64 0]) BH rfl) rfl rfl) (.tmp rfl) (fun w h => AC (⟨none, 0⟩) rfl [0] rfl h Ed) rfl
      · skip
        obtain ⟨rfl, rfl⟩ := EL (IU h16 hread hf) hD
        refine Ad ?_
        refine Af Ai rfl ?_
        refine Am rfl (Au (os' := fun _ => [cell g5 34 #[.int .i64 (n0 : Int), .int .u64 (n1 : Int), .int .u64 (n2 : Int), .slice none 0 0, .int .i64 0], DU g l2 f2, cell g2 34 #[.int .i64 0, .int .u64 0, .int .u64 0, .slice none 0 0, .int .i64 0]]) [1] 0 (Aj Tryz.func170 (by kernel_rfl) rfl) (Js g l2 f2 (EZ l2 f2) rfl) rfl rfl rfl (fun _ => rfl) rfl rfl rfl) ?_; rintro ⟨⟩
        refine Af Ai rfl ?_
        refine Ab (Ad ?_)
        refine Af Ai rfl ?_
        refine Aa rfl (.bool true) (fun b w hb hH => AZ rfl rfl rfl (D5 (by omega)) hb) ?_
        refine Ab (AI rfl ?_)
        refine BN 5 1 encB ?_
        refine Ad ?_
        refine Af Ai rfl ?_
        refine Aa rfl (.agg #[.int .i64 0, .int .u64 0, .int .u64 0, .slice none 0 0, .int .i64 0]) (fun b w hb hH => Bv rfl rfl (by kernel_rfl) hb) ?_
        refine Af Ai rfl ?_
        refine AL (post := fun _ => [Ak 5 1 encB (.slice none 0 0) ([]), cell g5 34 #[.int .i64 (n0 : Int), .int .u64 (n1 : Int), .int .u64 (n2 : Int), .slice none 0 0, .int .i64 0], DU g l2 f2, cell g2 34 #[.int .i64 0, .int .u64 0, .int .u64 0, .slice none 0 0, .int .i64 0]]) rfl rfl (AU 3 (v := .agg #[.int .i64 0, .int .u64 0, .int .u64 0, .slice none 0 0, .int .i64 0]) #[.int .i64 0, .int .u64 0, .int .u64 0, .slice none 0 0, .int .i64 0] BH.2 rfl rfl rfl rfl rfl rfl rfl rfl rfl) ?_; rintro ⟨⟩
        refine Af Ai rfl ?_
        refine Ab (Az (D8 ?_))
        exact Ch (.cell 3 (v := .agg #[.int .i64 0, .int .u64 0, .int .u64 0, .slice none 0 0, .int .i64 0]) (EY (cs := [.int .i64 0, .int .u64 0, .int .u64 0, .slice none 0 0, .int .i64 0]) BH rfl) rfl rfl) (.tmp rfl) (fun w h => AC (⟨none, 0⟩) rfl [0] rfl h Ed) rfl
theorem Pt (w : World) (x y : EntV) (hx : D9 w x.v x.e.d) (hy : D9 w y.v y.e.d) (h : x.e = y.e) : Calls Tryz.prog 87 #[.agg #[.int .i64 x.e.k, .int .u64 x.e.t, .int .u64 x.e.i, x.v, .int .i64 x.e.c], .agg #[.int .i64 y.e.k, .int .u64 y.e.t, .int .u64 y.e.i, y.v, .int .i64 y.e.c]] w fun e w' => e = .returned (.bool true) ∧ Below w.heap.size w w' := by
 refine FW (args := [.agg #[.int .i64 x.e.k, .int .u64 x.e.t, .int .u64 x.e.i, x.v, .int .i64 x.e.c], .agg #[.int .i64 y.e.k, .int .u64 y.e.t, .int .u64 y.e.i, y.v, .int .i64 y.e.c]]) 40 Tryz.func87 rfl rfl rfl ?_
 refine Ad ?_
 refine Af Ai rfl ?_
 refine Am (post := fun gx => [cell gx 34 #[.int .i64 x.e.k, .int .u64 x.e.t, .int .u64 x.e.i, x.v, .int .i64 x.e.c]]) rfl (CD (cs := #[.int .i64 x.e.k, .int .u64 x.e.t, .int .u64 x.e.i, x.v, .int .i64 x.e.c]) rfl rfl rfl) ?_; rintro gx
 refine Am (post := fun gy => [cell gy 34 #[.int .i64 y.e.k, .int .u64 y.e.t, .int .u64 y.e.i, y.v, .int .i64 y.e.c], cell gx 34 #[.int .i64 x.e.k, .int .u64 x.e.t, .int .u64 x.e.i, x.v, .int .i64 x.e.c]]) rfl (CD (cs := #[.int .i64 y.e.k, .int .u64 y.e.t, .int .u64 y.e.i, y.v, .int .i64 y.e.c]) rfl rfl rfl) ?_; rintro gy
 refine Af Ai rfl ?_
 refine Ab (Ad ?_)
 refine Af Ai rfl ?_
 refine Aa rfl (.int .i64 x.e.k) (fun b w hb hH => AY rfl rfl (Bi Bh rfl) (hH.row 1 rfl) hb) ?_
 refine Af Ai rfl ?_
 refine Aa rfl (.int .i64 y.e.k) (fun b w hb hH => AY rfl rfl (Bi Bh rfl) (hH.row 0 rfl) hb) ?_
 refine Aa rfl (.bool true) (fun b w hb hH => AZ rfl rfl rfl (FI (by rw [h])) hb) ?_
 refine Af Ai rfl ?_
 refine Aa rfl (.int .u64 x.e.t) (fun b w hb hH => AY rfl rfl (Bi AO rfl) (hH.row 1 rfl) hb) ?_
 refine Af Ai rfl ?_
 refine Aa rfl (.int .u64 y.e.t) (fun b w hb hH => AY rfl rfl (Bi AO rfl) (hH.row 0 rfl) hb) ?_
 refine Aa rfl (.bool true) (fun b w hb hH => AZ rfl rfl rfl (FI (by rw [h])) hb) ?_
 refine Af Ai rfl ?_
 refine Aa rfl (.int .u64 x.e.i) (fun b w hb hH => AY rfl rfl (Bi AO rfl) (hH.row 1 rfl) hb) ?_
 refine Af Ai rfl ?_
 refine Aa rfl (.int .u64 y.e.i) (fun b w hb hH => AY rfl rfl (Bi AO rfl) (hH.row 0 rfl) hb) ?_
 refine Aa rfl (.bool true) (fun b w hb hH => AZ rfl rfl rfl (FI (by rw [h])) hb) ?_
 refine Af Ai rfl ?_
 refine Aa rfl (x.v) (fun b w hb hH => AY rfl rfl (Bi CS rfl) (hH.row 1 rfl) hb) ?_
 refine Aa rfl (.string (bs x.e.d)) (fun b w hb hH => Jn Tryz.underlying30 Tryz.underlying5 (by kernel_rfl) Tryz.underlying9 (Fz hx hH) rfl rfl hb) ?_
 refine Af Ai rfl ?_
 refine Aa rfl (y.v) (fun b w hb hH => AY rfl rfl (Bi CS rfl) (hH.row 0 rfl) hb) ?_
 refine Aa rfl (.string (bs y.e.d)) (fun b w hb hH => Jn Tryz.underlying30 Tryz.underlying5 (by kernel_rfl) Tryz.underlying9 (Fz hy hH) rfl rfl hb) ?_
 refine Aa rfl (.bool true) (fun b w hb hH => LW rfl rfl rfl (by rw [h]; simp) hb) ?_
 refine Af Ai rfl ?_
 refine Aa rfl (.int .i64 x.e.c) (fun b w hb hH => AY rfl rfl (Bi Bh rfl) (hH.row 1 rfl) hb) ?_
 refine Af Ai rfl ?_
 refine Aa rfl (.int .i64 y.e.c) (fun b w hb hH => AY rfl rfl (Bi Bh rfl) (hH.row 0 rfl) hb) ?_
 refine Aa rfl (.bool true) (fun b w hb hH => AZ rfl rfl rfl (FI (by rw [h])) hb) ?_
 refine Af Ai rfl ?_
 refine Ab (Az ?_)
 exact Ay (.tmp rfl) (fun w h => ⟨rfl, Av h.up⟩) rfl
end Go.Proofs.YtnknboibmifacaaGreatDoor.Sep
namespace Go.Proofs.YtnknboibmifacaaGreatDoor.Sep
open Go.RowKit
open Go.Proofs.YtnknboibmifacaaGreatDoor.Mem (AR B3 Chg Av)
end Go.Proofs.YtnknboibmifacaaGreatDoor.Sep
namespace Go.Proofs.YtnknboibmifacaaGreatDoor.Sep
open Go.RowKit
def OpD.size : OpD → Nat
  | .app _ b => b.length
  | _ => 0
def DiskD.fit (d : DiskD) : Prop := Be d.syn + (d.wait.map OpD.size).sum ≤ 1099511627776 ∧ d.wait.length ≤ 10000
def KW (m n : Nat) (L : List (List UInt8)) : Prop := L.length ≤ m ∧ ∀ b, b ∈ L → b.length ≤ n
theorem QA {n : Nat} : ∀ {L : List (List UInt8)}, (∀ b, b ∈ L → b.length ≤ n) → L.flatten.length ≤ L.length * n
  | [], _ => by simp
  | b :: r, h => by
    have h1 := h b (List.mem_cons_self ..)
    have h2 := QA (L := r) fun c hc => h c (List.mem_cons_of_mem _ hc)
    rw [List.flatten_cons, List.length_append, List.length_cons, Nat.succ_mul]
    omega
theorem KW.flat {m n : Nat} {L : List (List UInt8)} (h : KW m n L) : L.flatten.length ≤ m * n := Nat.le_trans (QA h.2) (Nat.mul_le_mul_right n h.1)
theorem KW.take {m n : Nat} {L : List (List UInt8)} (h : KW m n L) (i : Nat) : KW m n (L.take i) := ⟨by have := h.1; rw [List.length_take]; omega, fun b hb => h.2 b (List.mem_of_mem_take hb)⟩
def encKs (s : List UInt8) : List Value := [.string (bs s)]
end Go.Proofs.YtnknboibmifacaaGreatDoor.Sep
