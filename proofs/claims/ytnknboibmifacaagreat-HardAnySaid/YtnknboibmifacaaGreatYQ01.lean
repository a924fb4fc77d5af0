/-
  RrX · HdR · HdO
-/
import Derived.Test.YtnknboibmifacaaGreatYA08
import Derived.Test.YtnknboibmifacaaGreatYB02
import Derived.Test.YtnknboibmifacaaGreatYH01
import Derived.Test.YtnknboibmifacaaGreatYJ01
import Derived.Test.YtnknboibmifacaaGreatYL01
import Derived.Test.YtnknboibmifacaaGreatYN03
import Derived.Test.YtnknboibmifacaaGreatYP01
set_option linter.unusedSimpArgs false
set_option linter.unusedVariables false
set_option maxRecDepth 100000
namespace Go.Proofs.YtnknboibmifacaaGreat.Sep
open Go.RowKit
open Go.Proofs.YtnknboibmifacaaGreat.Mem (Bd Cj Chg AF)
variable {X : Ass} {v B : Value} {b l l' : List UInt8} {g f f' : Nat} {F : FuncId} {args : Array Value} {val : Value}
theorem RK (hX : Cw X v b) {rs : List RowT} (h : X rs) {w : World} (hr : RowsOf w rs) (hn : ∀ x ∈ rs, x.1 ≠ g) (hg : g < w.heap.size) : ∃ A c, v = .slice A b.length c ∧ Bs (fun k => k ≠ g) w A c b := by
 obtain ⟨A, c, e, hb⟩ := hX rs w h hr
 refine ⟨A, c, e, hb.1, hb.2.1, fun hl => ?_⟩
 obtain ⟨g1, o, eA, _, hc⟩ := hb.2.2 hl
 refine ⟨g1, o, eA, fun eg => ?_, hc⟩
 subst eg
 have hr2 : RowsOf (w.putObj g1 (.deferred none)) rs := hr.map_ fun x hx hrx => by
  obtain ⟨ob, h1, h2⟩ := hrx.obj
  exact h2 _ ((World.putObj_heap_other (fun e => hn x hx e)).trans h1)
 obtain ⟨A2, c2, e2, hb2⟩ := hX rs _ h hr2
 rw [e] at e2
 simp only [Value.slice.injEq] at e2
 obtain ⟨rfl, _, rfl⟩ := e2
 obtain ⟨g2, o2, eA2, _, hc2⟩ := hb2.2.2 hl
 rw [eA] at eA2
 simp only [Option.some.injEq, Addr.mk.injEq] at eA2
 obtain ⟨rfl, rfl, _⟩ := eA2
 have h5 := hc2 0 (b[0]) (by simp [hl])
 have h6 : (w.putObj g1 (.deferred none)).heap[g1]? = some (.deferred none) := World.putObj_heap_same hg
 simp [World.cell?, h6] at h5
theorem Ld (hX : Cw X B b) (hl : b.length ≤ 140737488355328) (h : ∀ w A c, B = .slice A b.length c → RN (fun k => k ≠ g) w g A c b l f → Calls Tryz.prog F args w fun e w' => e = .returned val ∧ RN (fun k => k ≠ g) w' g A c b l' f' ∧ Mod (JB g) w w') : AS Tryz.prog F args [JF B b g l f, X] (fun _ : Unit => val) (fun _ => [JF B b g l' f', X]) := fun w rs h1 h2 h3 => by
  obtain ⟨r1, r2, rfl, ⟨j, hj, hlj, rfl⟩, hx⟩ := h1
  have hx2 : X r2 := hx.one'
  have hd := Bi.1 h3
  simp only [List.cons_append, List.nil_append, List.map_cons, List.nodup_cons] at hd
  have hr2 : RowsOf w r2 := AN.2 fun x hx => AN.1 h2 x (List.mem_append_right _ hx)
  have hn : ∀ x ∈ r2, x.1 ≠ g := fun x hx e => hd.1 (e ▸ List.mem_map_of_mem hx)
  have hrow := AN.1 h2 _ (List.mem_append_left _ (List.mem_singleton.2 rfl))
  have hrow2 : CY w g 81 #[B, .int .i64 (j : Int), .int .i64 (f : Int)] := hrow
  have hg : g < w.heap.size := (Array.getElem?_eq_some_iff.1 hrow2).1
  obtain ⟨A, c, rfl, hb⟩ := RK hX hx2 hr2 hn hg
  refine (h w A c rfl ⟨j, hj, hlj, hrow2, hb, hl, fun k hk e => hk e⟩).mono ?_
  rintro e w' ⟨he, ⟨j', hj', hl', hr', _⟩, hm⟩
  refine ⟨(), he, [(g, EZ 81, #[.slice A b.length c, .int .i64 (j' : Int), .int .i64 (f' : Int)])] ++ r2, ⟨_, r2, rfl, ⟨j', hj', hl', rfl⟩, hx⟩, hm.weaken fun k _ e => ⟨_, List.mem_append_left _ (List.mem_singleton.2 rfl), e.symm⟩, AN.2 fun x hx => ?_, Bi.2 ?_, fun x hx _ => ?_⟩
  · rcases List.mem_append.1 hx with h | h
    · rw [List.mem_singleton.1 h]; exact hr'
    · obtain ⟨ob, h4, h5⟩ := (AN.1 hr2 x h).obj
      exact h5 _ ((hm.block x.1 (Array.getElem?_eq_some_iff.1 h4).1 (fun e => hn x h e)).trans h4)
  · simp only [List.cons_append, List.nil_append, List.map_cons, List.nodup_cons]
    exact hd
  · rcases List.mem_append.1 hx with h | h
    · rw [List.mem_singleton.1 h]; exact ⟨_, List.mem_append_left _ (List.mem_singleton.2 rfl), rfl⟩
    · exact ⟨x, List.mem_append_right _ h, rfl⟩
theorem N3 (hX : Cw X B b) (hl : b.length ≤ 140737488355328) (most : Nat) (hm : most < 256) (R : Nat × List UInt8 × Nat) (h : A7 most l f = R) : AS Tryz.prog 40 #[.pointer (some ⟨g, 0, none⟩), .int .u8 (most : Int)] [JF B b g l f, X] (fun _ : Unit => .int .u8 (R.1 : Int)) (fun _ => [JF B b g R.2.1 R.2.2, X]) := by
 subst h
 exact Ld hX hl fun w A c _ hr => M6 w g c f most A b l hr hm
theorem Qv (hX : Cw X B b) (hl : b.length ≤ 140737488355328) (most : Nat) (hm : most < 18446744073709551616) (R : Nat × List UInt8 × Nat) (h : B0 most l f = R) : AS Tryz.prog 39 #[.pointer (some ⟨g, 0, none⟩), .int .u64 (most : Int)] [JF B b g l f, X] (fun _ : Unit => .int .u64 (R.1 : Int)) (fun _ => [JF B b g R.2.1 R.2.2, X]) := by
 subst h
 exact Ld hX hl fun w A c _ hr => M7 w g c f most A b l hr hm
theorem Qw (hX : Cw X B b) (hl : b.length ≤ 140737488355328) (r : Nat) (h : DT l f = r) : AS Tryz.prog 41 #[.pointer (some ⟨g, 0, none⟩)] [JF B b g l f, X] (fun _ : Unit => .int .i64 (r : Int)) (fun _ => [JF B b g l f, X]) := by
 subst h
 refine Ld hX hl fun w A c _ hr => (Oq w g c f A b l hr).mono ?_
 rintro e w' ⟨he, hb⟩
 exact ⟨he, hr.mod (Mod.of_below hb Nil) (fun h => h.elim) (fun _ _ h => h), Mod.of_below hb _⟩
end Go.Proofs.YtnknboibmifacaaGreat.Sep
namespace Go.Proofs.YtnknboibmifacaaGreat.Sep
open Go.RowKit
open Go.Proofs.YtnknboibmifacaaGreat.Mem (Bd Cj Chg AF)
theorem TE {B : Value} {b : List UInt8} {g : Nat} : ∀ rs, Al [cell g 81 #[B, .int .i64 0, .int .i64 0]] rs → JF B b g b 0 rs := fun rs h => by
 have h1 : rs = [(g, EZ 81, #[B, .int .i64 0, .int .i64 0])] := h.one'
 exact ⟨0, Nat.zero_le _, by simp, h1⟩
theorem UQ {p : Nat} {d : DiskD} {n : List UInt8} {r : Bool} (hr : (BB d n).isSome = r) : AS Tryz.prog 35 #[.pointer (some ⟨p, 0, none⟩), .string (bs n)] [AA p d] (fun (_ : Unit) => .bool r) (fun (_ : Unit) => [AA p d]) := by
 refine A6 (args := [.pointer (some ⟨p, 0, none⟩), .string (bs n)]) 14 Tryz.func35 rfl rfl rfl ?_; intro w rs
 refine Ad ?_
 refine Af Ak rfl ?_
 refine Ab (Ad ?_)
 refine Af Ak rfl ?_
 refine Ai rfl (Am (os' := fun rv => [B8 p d rv ((BB d n).getD [])]) [0] 0 (Ah Tryz.func37 (by kernel_rfl) rfl) (LZ hr rfl) rfl rfl rfl (fun _ => rfl) rfl rfl rfl) ?_; rintro rv
 refine Af Ak rfl ?_
 refine Ab ?_
 refine Bf [0] rfl E4 rfl ?_
 refine Ad ?_
 refine Af Ak rfl ?_
 refine Ab (Az ?_)
 exact Ay (.tmp rfl) (fun w h => AB () rfl [0] rfl h Cz) rfl
end Go.Proofs.YtnknboibmifacaaGreat.Sep
namespace Go.Proofs.YtnknboibmifacaaGreat.Sep
open Go.RowKit
open Go.Proofs.YtnknboibmifacaaGreat.Mem (Bd Cj Chg AF)
theorem Fj {te : TypeId} {v : Value} {l : List PtT} {y : PtT} {j : Nat} (hj : l[j]? = some y) : Cw (BE te v l) y.1 y.2 := T4 (u := y.1) (d := y.2) hj
theorem TF {te : TypeId} {v : Value} {l : List PtT} {y : PtT} {j : Nat} (hj : l[j]? = some y) : ∀ rs, BE te v l rs → ∃ A c, y.1 = .slice A y.2.length c := fun rs h => by
 obtain ⟨a, b, rfl, _, h2⟩ := h
 obtain ⟨_, ys, _, _, h3, _⟩ := Al.at_ (i := j) (o := Ao 5 1 encB y.1 y.2) h2.one' (by simp [hj])
 exact Ao.is h3
theorem Qx {b : List UInt8} {ps : List (List UInt8)} {k : Nat} {z : HV} {n : Nat} (hl : BD b = (ps, k)) (h : Ic b = (z, n)) : Bq ((J7 ps).take (J7 ps).length) = z ∧ Cp (ps.take (J7 ps).length) = n := by
 unfold Ic at h
 rw [hl] at h
 rw [List.take_length]
 exact Prod.mk.inj h
theorem L2 {b : List UInt8} {ps : List (List UInt8)} {k : Nat} (hl : BD b = (ps, k)) (j : Nat) : Cp (ps.take j) ≤ b.length := by
 have h1 := J6 (BD b).1 j
 have h2 : (BD b).2 = Cp (BD b).1 := FK b.length b
 have h3 : (BD b).2 ≤ b.length := Hd b.length b
 rw [hl] at h1 h2 h3
 simp only at h1 h2 h3
 omega
theorem Gb {p : Nat} {d d' : DiskD} {z : HV} {e : Nat} (hf : d.fitK 2) (hbl : ∀ b, (BB (Bb d).1 hardN).getD [] = b → b.length ≤ 137438953472) (h : C5 d = (d', z, e)) : AS Tryz.prog 12 #[.pointer (some ⟨p, 0, none⟩)] [AA p d] (fun (_ : Unit) => .tuple #[.agg #[.int .u64 ((z.1 : Nat) : Int), .int .i64 ((z.2 : Nat) : Int)], .int .i64 (e : Int)]) (fun (_ : Unit) => [AA p d']) := by
  refine A6 (args := [.pointer (some ⟨p, 0, none⟩)]) 79 Tryz.func12 rfl rfl rfl ?_; intro w rs
  obtain ⟨⟨d1, e1⟩, hrm⟩ : ∃ R, Bb d = R := ⟨_, rfl⟩
  have hr1 : (Bb d).1 = d1 := by rw [hrm]
  have hr2 : (Bb d).2 = e1 := by rw [hrm]
  have hf1 : d1.fitK 1 := by rw [← hr1]; exact J8 hf
  obtain ⟨b, hb⟩ : ∃ b, (BB d1 hardN).getD [] = b := ⟨_, rfl⟩
  obtain ⟨⟨z1, n1⟩, hlat⟩ : ∃ R, Ic b = R := ⟨_, rfl⟩
  obtain ⟨⟨d2, e2⟩, hcut⟩ : ∃ R, IG d1 hardN (n1 : Int) = R := ⟨_, rfl⟩
  unfold C5 at h
  rw [hr1, hr2, hb, hlat] at h
  simp only at h
  rw [hcut] at h
  simp only at h
  obtain ⟨ok, hok⟩ : ∃ ok, (BB d1 hardN).isSome = ok := ⟨_, rfl⟩
  replace hbl : b.length ≤ 137438953472 := hbl b (by rw [hr1]; exact hb)
  obtain ⟨⟨ps, k9⟩, hls⟩ : ∃ R, BD b = R := ⟨_, rfl⟩
  obtain ⟨L, hLd⟩ : ∃ L, J7 ps = L := ⟨_, rfl⟩
  have hLl : L.length ≤ ps.length := by rw [← hLd]; exact MF ps
  have hlen : ∀ x, x ∈ ps → x.length ≤ 65536 := by have h7 := F5 b.length b; change ∀ x, x ∈ (BD b).1 → x.length ≤ 65536 at h7; rwa [hls] at h7
  have hpsl : ps.length ≤ b.length := by have h7 := KU b.length b; change (BD b).1.length * 8 ≤ (BD b).2 at h7; have h8 : (BD b).2 ≤ b.length := Hd b.length b; rw [hls] at h7 h8; simp only at h7 h8; omega
  have hn1 : n1 ≤ b.length := by have := Uq b; rw [hlat] at this; exact this
  refine Ad ?_
  refine Af Ak rfl ?_
  refine Ai (post := fun g2 => [cell g2 31 #[.int .u64 0, .int .i64 0], AA p d]) rfl (BL Bk rfl) ?_; rintro g2
  refine Af Ak rfl ?_
  refine Ab (Aq (Ad ?_))
  refine Af Ak rfl ?_
  refine Ac rfl (.bool false) (fun b w hb hH => DL (by kernel_rfl) rfl rfl rfl hb) ?_
  refine Ab (Au rfl (Ax (AG (Aq ?_))))
  obtain ⟨r, hs⟩ : ∃ r, (BB d newN).isSome = r := ⟨_, rfl⟩
  rcases Nat.eq_zero_or_pos e1 with he1 | he1
  · skip
    rw [if_neg (by omega)] at h
    refine Ad ?_
    refine Af Ak rfl ?_
    refine Ai rfl (Am (os' := fun _ => [cell g2 31 #[.int .u64 0, .int .i64 0], AA p d]) [1] 0 (Ah Tryz.func35 (by kernel_rfl) rfl) (UQ (n := newN) hs) rfl rfl rfl (fun _ => rfl) rfl rfl rfl) ?_; rintro ⟨⟩
    refine Ab ?_
    refine RY [(0, .pointer (some ⟨p, 0, none⟩)), (2, .pointer (some ⟨g2, 0, none⟩)), (3, .int .i64 0)] [cell g2 31 #[.int .u64 0, .int .i64 0], AA p d1] ?_ ?_
    · skip
      cases r
      · skip
        obtain rfl : d1 = d := by unfold Bb at hrm; rw [if_neg (by rw [hs]; simp)] at hrm; exact (Prod.mk.inj hrm).1.symm
        refine Au rfl (Ax ?_)
        exact PG 0 ⟨rfl, rfl, rfl, trivial⟩ rfl
      · skip
        have hdel : Hq d newN = (d1, e1) := by unfold Bb at hrm; rwa [if_pos hs] at hrm
        refine AD rfl (Ad ?_)
        refine Af Ak rfl ?_
        refine Ai rfl (Am (os' := fun _ => [cell g2 31 #[.int .u64 0, .int .i64 0], AA p d1]) [1] 0 (Ah Tryz.func36 (by kernel_rfl) rfl) (Qt (n := newN) hf.fit hdel) rfl rfl rfl (fun _ => rfl) rfl rfl rfl) ?_; rintro ⟨⟩
        refine Af Ak rfl ?_
        refine Ab (Ad ?_)
        refine Af Ak rfl ?_
        refine Ac rfl (.bool false) (fun b w hb hH => Bh rfl rfl rfl (AU (by omega)) hb) ?_
        refine Ab (Au rfl (Ax ?_))
        exact PG 0 ⟨rfl, rfl, rfl, trivial⟩ rfl
    refine AG (Ad ?_)
    refine Af Ak rfl ?_
    refine Ai rfl (Am (os' := fun rv => [cell g2 31 #[.int .u64 0, .int .i64 0], B8 p d1 rv b]) [1] 0 (Ah Tryz.func37 (by kernel_rfl) rfl) (LZ (n := hardN) hok hb) rfl rfl rfl (fun _ => rfl) rfl rfl rfl) ?_; rintro rv
    refine Af Ak rfl ?_
    refine Ab ?_
    refine Bo.fact 1 rfl Ux ?_; rintro ⟨A9, c9, hrv⟩
    subst hrv
    refine Bo.keep (env' := [(0, .pointer (some ⟨p, 0, none⟩)), (2, .pointer (some ⟨g2, 0, none⟩)), (3, .int .i64 0), (27, .pointer (some ⟨p, 0, none⟩)), (28, .tuple #[.slice A9 b.length c9, .bool ok]), (26, .tuple #[.slice A9 b.length c9, .bool ok]), (29, .slice A9 b.length c9), (30, .bool ok), (5, .slice A9 b.length c9), (6, .bool ok)]) ⟨rfl, rfl, rfl, rfl, rfl, rfl, rfl, rfl, rfl, rfl, trivial⟩ ?_
    refine Bo.mid [cell g2 31 #[.int .u64 0, .int .i64 0], B8 p d1 (.slice A9 b.length c9) b] (.refl _) ?_
    refine Ad ?_
    refine Af Ak rfl ?_
    refine Ai rfl (Am (os' := fun (x : PsV) => [BE 48 x.v x.l, fact (x.l.map (·.2) = ps), cell g2 31 #[.int .u64 0, .int .i64 0], B8 p d1 (.slice A9 b.length c9) b]) [1] 0 (Ah Tryz.func38 (by kernel_rfl) rfl) (P2 FN hbl hls) rfl rfl rfl (fun _ => rfl) rfl rfl rfl) ?_; rintro x
    refine Ch.fact 1 rfl (fun _ h => h.2) ?_; rintro hxps
    refine Ch.leave [1] rfl rfl ?_
    replace hxps : x.l.map (·.2) = ps := hxps
    have hxl : x.l.length = ps.length := by rw [← hxps, List.length_map]
    refine Af Ak rfl ?_
    refine Ab (Ad ?_)
    refine Af Ak rfl ?_
    refine Ai (post := fun gh => [cell gh 31 #[.int .u64 0, .int .i64 0], BE 48 x.v x.l, cell g2 31 #[.int .u64 0, .int .i64 0], B8 p d1 (.slice A9 b.length c9) b]) rfl (BL Bk rfl) ?_; rintro gh
    refine Ab (Ad ?_)
    refine Af Ak rfl ?_
    refine Ab (Aq (Ad ?_))
    refine Af Ak rfl ?_
    refine Ab (AX ?_)
    refine CE (α := Nat) (fun j => [(0, .pointer (some ⟨p, 0, none⟩)), (2, .pointer (some ⟨g2, 0, none⟩)), (3, .int .i64 0), (5, .slice A9 b.length c9), (7, x.v), (9, .pointer (some ⟨gh, 0, none⟩)), (10, .int .i64 ((Cp (ps.take j) : Nat) : Int)), (11, .int .i64 ((j : Nat) : Int))]) (fun j => [cell gh 31 #[.int .u64 (((Bq (L.take j)).1 : Nat) : Int), .int .i64 (((Bq (L.take j)).2 : Nat) : Int)], BE 48 x.v x.l, cell g2 31 #[.int .u64 0, .int .i64 0], B8 p d1 (.slice A9 b.length c9) b]) (fun j => j ≤ L.length) (fun j => L.length - j) 0 (Nat.zero_le _) ⟨rfl, rfl, rfl, rfl, rfl, rfl, rfl, rfl, trivial⟩ rfl ?_
    rintro j hI
    refine Bo.at_ (env' := [(0, .pointer (some ⟨p, 0, none⟩)), (2, .pointer (some ⟨g2, 0, none⟩)), (3, .int .i64 0), (5, .slice A9 b.length c9), (7, x.v), (9, .pointer (some ⟨gh, 0, none⟩)), (10, .int .i64 ((Cp (ps.take j) : Nat) : Int)), (11, .int .i64 ((j : Nat) : Int))]) (rs' := [cell gh 31 #[.int .u64 (((Bq (L.take j)).1 : Nat) : Int), .int .i64 (((Bq (L.take j)).2 : Nat) : Int)], BE 48 x.v x.l, cell g2 31 #[.int .u64 0, .int .i64 0], B8 p d1 (.slice A9 b.length c9) b]) ⟨rfl, rfl, rfl, rfl, rfl, rfl, rfl, rfl, trivial⟩ rfl ?_
    have hI1 : j ≤ L.length := hI
    have hs0 := L2 hls j
    refine Aq ?_
    rcases Nat.lt_or_ge j ps.length with hjp | hjp
    rcases Nat.lt_or_ge j L.length with hjL | hjL
    · skip
      obtain ⟨⟨v5, dd⟩, hxj⟩ : ∃ y, x.l[j]? = some y := ⟨_, List.getElem?_eq_getElem (by omega)⟩
      have hpj : ps[j]? = some dd := by rw [← hxps, List.getElem?_map, hxj]; rfl
      have hyl : dd.length ≤ 65536 := hlen _ (List.mem_of_getElem? hpj)
      obtain ⟨⟨n2, l2, f2⟩, hn2⟩ : ∃ R, B0 72057594037927935 dd 0 = R := ⟨_, rfl⟩
      obtain ⟨x3, l3, f3, hn3⟩ := PX 7 l2 f2
      obtain ⟨r4, hn4⟩ : ∃ r, DT l3 f3 = r := ⟨_, rfl⟩
      have hrd := GK hn2 hn3
      rw [hn4] at hrd
      have hx3 := x3.toNat_lt
      obtain ⟨qv, hLj⟩ : ∃ q, L[j]? = some q := ⟨_, List.getElem?_eq_getElem hjL⟩
      obtain ⟨p9, hp1, hp2⟩ := MG (ps := ps) (by rw [hLd]; exact hLj)
      rw [hpj] at hp1
      obtain rfl := Option.some.inj hp1
      have hr4 : r4 = 0 := by by_cases e9 : r4 = 0; exact e9; rw [if_neg e9] at hrd; rw [hrd] at hp2; cases hp2
      rw [if_pos hr4, hp2] at hrd
      obtain rfl := Option.some.inj hrd
      have hst := Hh hpj
      have hs1 := L2 hls (j + 1)
      have hlj := Ib hLj
      refine Bo.fact 1 rfl (TF hxj) ?_; rintro ⟨A5, c5, hv5⟩
      change v5 = .slice A5 dd.length c5 at hv5
      subst hv5
      refine Ad ?_
      refine Af Ak rfl ?_
      refine Ac rfl (.int .i64 (x.l.length : Int)) (fun b w hb hH => OI 1 Tryz.underlying76 rfl rfl rfl hH hb) ?_
      refine Ac rfl (.bool true) (fun b w hb hH => Bh rfl rfl rfl (Bl (by omega)) hb) ?_
      refine Ab (AD rfl (Ax (AG (Aq (AX (Ad ?_))))))
      refine Af Ak rfl ?_
      refine Ac rfl (Cc x.v (j * 1)) (fun b w hb hH => OJ 1 Fc rfl j (by omega) rfl rfl rfl hH hb) ?_
      refine Ac rfl (.slice A5 dd.length c5) (fun b w hb hH => Ms 1 C3 rfl j hxj rfl rfl hH hb) ?_
      refine Ac rfl (.agg #[.slice A5 dd.length c5, .int .i64 0, .int .i64 0]) (fun b w hb hH => AV rfl rfl (by kernel_rfl) hb) ?_
      refine Ai (post := fun g12 => [cell g12 81 #[.slice A5 dd.length c5, .int .i64 0, .int .i64 0], cell gh 31 #[.int .u64 (((Bq (L.take j)).1 : Nat) : Int), .int .i64 (((Bq (L.take j)).2 : Nat) : Int)], BE 48 x.v x.l, cell g2 31 #[.int .u64 0, .int .i64 0], B8 p d1 (.slice A9 b.length c9) b]) rfl (CZ (cs := #[.slice A5 dd.length c5, .int .i64 0, .int .i64 0]) rfl rfl rfl) ?_; rintro g12
      refine Af Ak rfl ?_
      refine Ab ?_
      refine Bf [0] rfl (TE (b := dd)) rfl ?_
      refine Ad ?_
      refine Af Ak rfl ?_
      refine Ai rfl (Am (os' := fun _ => [JF (.slice A5 dd.length c5) dd g12 l2 f2, cell gh 31 #[.int .u64 (((Bq (L.take j)).1 : Nat) : Int), .int .i64 (((Bq (L.take j)).2 : Nat) : Int)], BE 48 x.v x.l, cell g2 31 #[.int .u64 0, .int .i64 0], B8 p d1 (.slice A9 b.length c9) b]) [0, 2] 0 (Ah Tryz.func39 (by kernel_rfl) rfl) (Qv (Fj hxj) (by show dd.length ≤ _; omega) 72057594037927935 (by decide) (n2, l2, f2) hn2) rfl rfl rfl (fun _ => rfl) rfl rfl rfl) ?_; rintro ⟨⟩
      refine Ac rfl (.agg #[.int .u64 ((n2 : Nat) : Int), .int .i64 0]) (fun b w hb hH => AV rfl rfl (by kernel_rfl) hb) ?_
      refine Ai (post := fun g13 => [cell g13 31 #[.int .u64 0, .int .i64 0], JF (.slice A5 dd.length c5) dd g12 l2 f2, cell gh 31 #[.int .u64 (((Bq (L.take j)).1 : Nat) : Int), .int .i64 (((Bq (L.take j)).2 : Nat) : Int)], BE 48 x.v x.l, cell g2 31 #[.int .u64 0, .int .i64 0], B8 p d1 (.slice A9 b.length c9) b]) rfl (BL Bk rfl) ?_; rintro g13
      refine AT (post := fun _ => [cell g13 31 #[.int .u64 ((n2 : Nat) : Int), .int .i64 0], JF (.slice A5 dd.length c5) dd g12 l2 f2, cell gh 31 #[.int .u64 (((Bq (L.take j)).1 : Nat) : Int), .int .i64 (((Bq (L.take j)).2 : Nat) : Int)], BE 48 x.v x.l, cell g2 31 #[.int .u64 0, .int .i64 0], B8 p d1 (.slice A9 b.length c9) b]) rfl rfl (AM 0 (v := .agg #[.int .u64 ((n2 : Nat) : Int), .int .i64 0]) #[.int .u64 ((n2 : Nat) : Int), .int .i64 0] An.2 rfl rfl rfl rfl rfl rfl rfl rfl rfl) ?_; rintro ⟨⟩
      refine Ab (Ad ?_)
      refine Af Ak rfl ?_
      refine Ai rfl (Am (os' := fun _ => [cell g13 31 #[.int .u64 ((n2 : Nat) : Int), .int .i64 0], JF (.slice A5 dd.length c5) dd g12 l3 f3, cell gh 31 #[.int .u64 (((Bq (L.take j)).1 : Nat) : Int), .int .i64 (((Bq (L.take j)).2 : Nat) : Int)], BE 48 x.v x.l, cell g2 31 #[.int .u64 0, .int .i64 0], B8 p d1 (.slice A9 b.length c9) b]) [1, 3] 0 (Ah Tryz.func40 (by kernel_rfl) rfl) (N3 (Fj hxj) (by show dd.length ≤ _; omega) 7 (by decide) (x3.toNat, l3, f3) hn3) rfl rfl rfl (fun _ => rfl) rfl rfl rfl) ?_; rintro ⟨⟩
      refine Ac rfl (.int .i64 (x3.toNat : Int)) (fun b w hb hH => AO Tryz.underlying5 Tryz.underlying3 (IntWalk.i64_in _ (by omega)) rfl rfl hb) ?_
      refine Af Ak rfl ?_
      refine AT (post := fun _ => [cell g13 31 #[.int .u64 ((n2 : Nat) : Int), .int .i64 (x3.toNat : Int)], JF (.slice A5 dd.length c5) dd g12 l3 f3, cell gh 31 #[.int .u64 (((Bq (L.take j)).1 : Nat) : Int), .int .i64 (((Bq (L.take j)).2 : Nat) : Int)], BE 48 x.v x.l, cell g2 31 #[.int .u64 0, .int .i64 0], B8 p d1 (.slice A9 b.length c9) b]) rfl rfl (AM 0 (v := .int .i64 (x3.toNat : Int)) #[.int .u64 ((n2 : Nat) : Int), .int .i64 (x3.toNat : Int)] Bj.2 rfl rfl rfl rfl rfl rfl rfl rfl rfl) ?_; rintro ⟨⟩
      refine Ab (Aq (Ad ?_))
      refine Af Ak rfl ?_
      refine Ai rfl (Am (os' := fun _ => [cell g13 31 #[.int .u64 ((n2 : Nat) : Int), .int .i64 (x3.toNat : Int)], JF (.slice A5 dd.length c5) dd g12 l3 f3, cell gh 31 #[.int .u64 (((Bq (L.take j)).1 : Nat) : Int), .int .i64 (((Bq (L.take j)).2 : Nat) : Int)], BE 48 x.v x.l, cell g2 31 #[.int .u64 0, .int .i64 0], B8 p d1 (.slice A9 b.length c9) b]) [1, 3] 0 (Ah Tryz.func41 (by kernel_rfl) rfl) (Qw (Fj hxj) (by show dd.length ≤ _; omega) r4 hn4) rfl rfl rfl (fun _ => rfl) rfl rfl rfl) ?_; rintro ⟨⟩
      refine Ac rfl (.bool false) (fun b w hb hH => Bh rfl rfl rfl (AU (by omega)) hb) ?_
      refine Ab (Au rfl (Ax (AG (Ad ?_))))
      refine Af Ak rfl ?_
      refine Ac rfl (.agg #[.int .u64 ((n2 : Nat) : Int), .int .i64 (x3.toNat : Int)]) (fun b w hb hH => Bg rfl rfl (EH (cs := [.int .u64 ((n2 : Nat) : Int), .int .i64 (x3.toNat : Int)]) An rfl) (hH.row 0 rfl) hb) ?_
      refine AT (post := fun _ => [cell g13 31 #[.int .u64 ((n2 : Nat) : Int), .int .i64 (x3.toNat : Int)], JF (.slice A5 dd.length c5) dd g12 l3 f3, cell gh 31 #[.int .u64 ((n2 : Nat) : Int), .int .i64 (x3.toNat : Int)], BE 48 x.v x.l, cell g2 31 #[.int .u64 0, .int .i64 0], B8 p d1 (.slice A9 b.length c9) b]) rfl rfl (AM 2 (v := .agg #[.int .u64 ((n2 : Nat) : Int), .int .i64 (x3.toNat : Int)]) #[.int .u64 ((n2 : Nat) : Int), .int .i64 (x3.toNat : Int)] An.2 rfl rfl rfl rfl rfl rfl rfl rfl rfl) ?_; rintro ⟨⟩
      refine Ab (BI ?_)
      refine Af Ak rfl ?_
      refine Ac rfl (.int .i64 (((Cp (ps.take j) : Nat) : Int) + 8)) (fun b w hb hH => AK rfl rfl rfl rfl (IntWalk.i64_in _ (by omega)) hb) ?_
      refine Af Ak rfl ?_
      refine Ac rfl (Cc x.v (j * 1)) (fun b w hb hH => OJ 3 Fc rfl j (by omega) rfl rfl rfl hH hb) ?_
      refine Ac rfl (.slice A5 dd.length c5) (fun b w hb hH => Ms 3 C3 rfl j hxj rfl rfl hH hb) ?_
      refine Ac rfl (.int .i64 (dd.length : Int)) (fun b w hb hH => AQ (((hH.rd8 3 rfl (Fj hxj)).rd)) Tryz.underlying48 rfl rfl hb) ?_
      refine Ac rfl (.int .i64 ((Cp (ps.take (j + 1)) : Nat) : Int)) (fun b w hb hH => AK rfl rfl rfl rfl (by rw [IntWalk.i64_in _ (by omega)]; omega) hb) ?_
      refine Af Ak rfl ?_
      refine AP (BJ (AG (BI ?_)))
      refine Af Ak rfl ?_
      refine Ac rfl (.int .i64 ((j + 1 : Nat) : Int)) (fun b w hb hH => AK rfl rfl rfl rfl (by rw [IntWalk.i64_in _ (by omega)]; omega) hb) ?_
      refine Af Ak rfl ?_
      refine AP ?_
      rw [show (((n2 : Nat) : Int) = (((Bq (L.take (j + 1))).1 : Nat) : Int)) by rw [hlj], show ((x3.toNat : Int) = (((Bq (L.take (j + 1))).2 : Nat) : Int)) by rw [hlj]]
      exact Cr (j + 1) 2 hjL (show L.length - (j + 1) < L.length - j by omega) ⟨rfl, rfl, rfl, rfl, rfl, rfl, rfl, rfl, trivial⟩ rfl
    · skip
      obtain ⟨⟨v5, dd⟩, hxj⟩ : ∃ y, x.l[j]? = some y := ⟨_, List.getElem?_eq_getElem (by omega)⟩
      have hpj : ps[j]? = some dd := by rw [← hxps, List.getElem?_map, hxj]; rfl
      have hyl : dd.length ≤ 65536 := hlen _ (List.mem_of_getElem? hpj)
      obtain ⟨⟨n2, l2, f2⟩, hn2⟩ : ∃ R, B0 72057594037927935 dd 0 = R := ⟨_, rfl⟩
      obtain ⟨x3, l3, f3, hn3⟩ := PX 7 l2 f2
      obtain ⟨r4, hn4⟩ : ∃ r, DT l3 f3 = r := ⟨_, rfl⟩
      have hrd := GK hn2 hn3
      rw [hn4] at hrd
      have hx3 := x3.toNat_lt
      have hjE : j = L.length := by omega
      have hbad : EE dd = none := K1 (ps := ps) (by rw [hLd, ← hjE]; exact hpj)
      have hr4 : r4 ≠ 0 := fun e9 => by rw [if_pos e9, hbad] at hrd; cases hrd
      refine Bo.fact 1 rfl (TF hxj) ?_; rintro ⟨A5, c5, hv5⟩
      change v5 = .slice A5 dd.length c5 at hv5
      subst hv5
      refine Ad ?_
      refine Af Ak rfl ?_
      refine Ac rfl (.int .i64 (x.l.length : Int)) (fun b w hb hH => OI 1 Tryz.underlying76 rfl rfl rfl hH hb) ?_
      refine Ac rfl (.bool true) (fun b w hb hH => Bh rfl rfl rfl (Bl (by omega)) hb) ?_
      refine Ab (AD rfl (Ax (AG (Aq (AX (Ad ?_))))))
      refine Af Ak rfl ?_
      refine Ac rfl (Cc x.v (j * 1)) (fun b w hb hH => OJ 1 Fc rfl j (by omega) rfl rfl rfl hH hb) ?_
      refine Ac rfl (.slice A5 dd.length c5) (fun b w hb hH => Ms 1 C3 rfl j hxj rfl rfl hH hb) ?_
      refine Ac rfl (.agg #[.slice A5 dd.length c5, .int .i64 0, .int .i64 0]) (fun b w hb hH => AV rfl rfl (by kernel_rfl) hb) ?_
      refine Ai (post := fun g12 => [cell g12 81 #[.slice A5 dd.length c5, .int .i64 0, .int .i64 0], cell gh 31 #[.int .u64 (((Bq (L.take j)).1 : Nat) : Int), .int .i64 (((Bq (L.take j)).2 : Nat) : Int)], BE 48 x.v x.l, cell g2 31 #[.int .u64 0, .int .i64 0], B8 p d1 (.slice A9 b.length c9) b]) rfl (CZ (cs := #[.slice A5 dd.length c5, .int .i64 0, .int .i64 0]) rfl rfl rfl) ?_; rintro g12
      refine Af Ak rfl ?_
      refine Ab ?_
      refine Bf [0] rfl (TE (b := dd)) rfl ?_
      refine Ad ?_
      refine Af Ak rfl ?_
      refine Ai rfl (Am (os' := fun _ => [JF (.slice A5 dd.length c5) dd g12 l2 f2, cell gh 31 #[.int .u64 (((Bq (L.take j)).1 : Nat) : Int), .int .i64 (((Bq (L.take j)).2 : Nat) : Int)], BE 48 x.v x.l, cell g2 31 #[.int .u64 0, .int .i64 0], B8 p d1 (.slice A9 b.length c9) b]) [0, 2] 0 (Ah Tryz.func39 (by kernel_rfl) rfl) (Qv (Fj hxj) (by show dd.length ≤ _; omega) 72057594037927935 (by decide) (n2, l2, f2) hn2) rfl rfl rfl (fun _ => rfl) rfl rfl rfl) ?_; rintro ⟨⟩
      refine Ac rfl (.agg #[.int .u64 ((n2 : Nat) : Int), .int .i64 0]) (fun b w hb hH => AV rfl rfl (by kernel_rfl) hb) ?_
      refine Ai (post := fun g13 => [cell g13 31 #[.int .u64 0, .int .i64 0], JF (.slice A5 dd.length c5) dd g12 l2 f2, cell gh 31 #[.int .u64 (((Bq (L.take j)).1 : Nat) : Int), .int .i64 (((Bq (L.take j)).2 : Nat) : Int)], BE 48 x.v x.l, cell g2 31 #[.int .u64 0, .int .i64 0], B8 p d1 (.slice A9 b.length c9) b]) rfl (BL Bk rfl) ?_; rintro g13
      refine AT (post := fun _ => [cell g13 31 #[.int .u64 ((n2 : Nat) : Int), .int .i64 0], JF (.slice A5 dd.length c5) dd g12 l2 f2, cell gh 31 #[.int .u64 (((Bq (L.take j)).1 : Nat) : Int), .int .i64 (((Bq (L.take j)).2 : Nat) : Int)], BE 48 x.v x.l, cell g2 31 #[.int .u64 0, .int .i64 0], B8 p d1 (.slice A9 b.length c9) b]) rfl rfl (AM 0 (v := .agg #[.int .u64 ((n2 : Nat) : Int), .int .i64 0]) #[.int .u64 ((n2 : Nat) : Int), .int .i64 0] An.2 rfl rfl rfl rfl rfl rfl rfl rfl rfl) ?_; rintro ⟨⟩
      refine Ab (Ad ?_)
      refine Af Ak rfl ?_
      refine Ai rfl (Am (os' := fun _ => [cell g13 31 #[.int .u64 ((n2 : Nat) : Int), .int .i64 0], JF (.slice A5 dd.length c5) dd g12 l3 f3, cell gh 31 #[.int .u64 (((Bq (L.take j)).1 : Nat) : Int), .int .i64 (((Bq (L.take j)).2 : Nat) : Int)], BE 48 x.v x.l, cell g2 31 #[.int .u64 0, .int .i64 0], B8 p d1 (.slice A9 b.length c9) b]) [1, 3] 0 (Ah Tryz.func40 (by kernel_rfl) rfl) (N3 (Fj hxj) (by show dd.length ≤ _; omega) 7 (by decide) (x3.toNat, l3, f3) hn3) rfl rfl rfl (fun _ => rfl) rfl rfl rfl) ?_; rintro ⟨⟩
      refine Ac rfl (.int .i64 (x3.toNat : Int)) (fun b w hb hH => AO Tryz.underlying5 Tryz.underlying3 (IntWalk.i64_in _ (by omega)) rfl rfl hb) ?_
      refine Af Ak rfl ?_
      refine AT (post := fun _ => [cell g13 31 #[.int .u64 ((n2 : Nat) : Int), .int .i64 (x3.toNat : Int)], JF (.slice A5 dd.length c5) dd g12 l3 f3, cell gh 31 #[.int .u64 (((Bq (L.take j)).1 : Nat) : Int), .int .i64 (((Bq (L.take j)).2 : Nat) : Int)], BE 48 x.v x.l, cell g2 31 #[.int .u64 0, .int .i64 0], B8 p d1 (.slice A9 b.length c9) b]) rfl rfl (AM 0 (v := .int .i64 (x3.toNat : Int)) #[.int .u64 ((n2 : Nat) : Int), .int .i64 (x3.toNat : Int)] Bj.2 rfl rfl rfl rfl rfl rfl rfl rfl rfl) ?_; rintro ⟨⟩
      refine Ab (Aq (Ad ?_))
      refine Af Ak rfl ?_
      refine Ai rfl (Am (os' := fun _ => [cell g13 31 #[.int .u64 ((n2 : Nat) : Int), .int .i64 (x3.toNat : Int)], JF (.slice A5 dd.length c5) dd g12 l3 f3, cell gh 31 #[.int .u64 (((Bq (L.take j)).1 : Nat) : Int), .int .i64 (((Bq (L.take j)).2 : Nat) : Int)], BE 48 x.v x.l, cell g2 31 #[.int .u64 0, .int .i64 0], B8 p d1 (.slice A9 b.length c9) b]) [1, 3] 0 (Ah Tryz.func41 (by kernel_rfl) rfl) (Qw (Fj hxj) (by show dd.length ≤ _; omega) r4 hn4) rfl rfl rfl (fun _ => rfl) rfl rfl rfl) ?_; rintro ⟨⟩
      refine Ac rfl (.bool true) (fun b w hb hH => Bh rfl rfl rfl (BY (by omega)) hb) ?_
      refine Ab (AD rfl (Cu (EO (Ev (by decide) (EO (EO (Bc (AG (Aq ?_)))))))))
      obtain ⟨hz1, hz2⟩ := Qx hls hlat
      rw [hLd, ← hjE] at hz1 hz2
      rw [hz1, hz2]
      rcases Nat.lt_or_ge n1 b.length with hlt | hge
      · skip
        rw [if_pos hlt] at h
        refine Ad ?_
        refine Af Ak rfl ?_
        refine Ac rfl (.int .i64 (b.length : Int)) (fun b w hb hH => AQ (((hH.rd8 5 rfl FN).rd)) Tryz.underlying48 rfl rfl hb) ?_
        refine Ac rfl (.bool true) (fun b w hb hH => Bh rfl rfl rfl (Bl (by omega)) hb) ?_
        refine Ab (AD rfl ?_)
        refine Bf [5] rfl E4 rfl ?_
        refine Ad ?_
        refine Af Ak rfl ?_
        refine Ai rfl (Am (os' := fun _ => [AA p d2, cell g13 31 #[.int .u64 ((n2 : Nat) : Int), .int .i64 (x3.toNat : Int)], JF (.slice A5 dd.length c5) dd g12 l3 f3, cell gh 31 #[.int .u64 ((z1.1 : Nat) : Int), .int .i64 ((z1.2 : Nat) : Int)], BE 48 x.v x.l, cell g2 31 #[.int .u64 0, .int .i64 0]]) [0] 0 (Ah Tryz.func42 (by kernel_rfl) rfl) (N1 (n := hardN) hf1.fit (by omega) hcut) rfl rfl rfl (fun _ => rfl) rfl rfl rfl) ?_; rintro ⟨⟩
        refine Af Ak rfl ?_
        refine Ab ?_
        rcases Nat.eq_zero_or_pos e2 with he2 | he2
        · skip
          rw [if_neg (by omega)] at h
          obtain ⟨rfl, rfl, rfl⟩ : d2 = d' ∧ z1 = z ∧ 0 = e := by simpa [Prod.ext_iff] using h
          refine Ad ?_
          refine Af Ak rfl ?_
          refine Ac rfl (.bool false) (fun b w hb hH => Bh rfl rfl rfl (AU (by omega)) hb) ?_
          refine Ab (Au rfl (Ax (AG (Ad ?_))))
          refine Af Ak rfl ?_
          refine Ac rfl (.agg #[.int .u64 ((z1.1 : Nat) : Int), .int .i64 ((z1.2 : Nat) : Int)]) (fun b w hb hH => Bg rfl rfl (EH (cs := [.int .u64 ((z1.1 : Nat) : Int), .int .i64 ((z1.2 : Nat) : Int)]) An rfl) (hH.row 3 rfl) hb) ?_
          refine AT (post := fun _ => [AA p d2, cell g13 31 #[.int .u64 ((n2 : Nat) : Int), .int .i64 (x3.toNat : Int)], JF (.slice A5 dd.length c5) dd g12 l3 f3, cell gh 31 #[.int .u64 ((z1.1 : Nat) : Int), .int .i64 ((z1.2 : Nat) : Int)], BE 48 x.v x.l, cell g2 31 #[.int .u64 ((z1.1 : Nat) : Int), .int .i64 ((z1.2 : Nat) : Int)]]) rfl rfl (AM 5 (v := .agg #[.int .u64 ((z1.1 : Nat) : Int), .int .i64 ((z1.2 : Nat) : Int)]) #[.int .u64 ((z1.1 : Nat) : Int), .int .i64 ((z1.2 : Nat) : Int)] An.2 rfl rfl rfl rfl rfl rfl rfl rfl rfl) ?_; rintro ⟨⟩
          refine Af Ak rfl ?_
          refine Ab (Az ?_)
          exact BX (.cell 5 (v := .agg #[.int .u64 ((z1.1 : Nat) : Int), .int .i64 ((z1.2 : Nat) : Int)]) (EH (cs := [.int .u64 ((z1.1 : Nat) : Int), .int .i64 ((z1.2 : Nat) : Int)]) An rfl) rfl rfl) (.tmp rfl) (fun w h => AB () rfl [0] rfl h Cz) rfl
        · skip
          rw [if_pos (by omega)] at h
          obtain ⟨rfl, rfl, rfl⟩ : d2 = d' ∧ (0, 0) = z ∧ e2 = e := by simpa [Prod.ext_iff] using h
          refine Ad ?_
          refine Af Ak rfl ?_
          refine Ac rfl (.bool true) (fun b w hb hH => Bh rfl rfl rfl (BY (by omega)) hb) ?_
          refine Ab (AD rfl (Ad ?_))
          refine Af Ak rfl ?_
          refine Ac rfl (.agg #[.int .u64 0, .int .i64 0]) (fun b w hb hH => AV rfl rfl (by kernel_rfl) hb) ?_
          refine Af Ak rfl ?_
          refine AT (post := fun _ => [AA p d2, cell g13 31 #[.int .u64 ((n2 : Nat) : Int), .int .i64 (x3.toNat : Int)], JF (.slice A5 dd.length c5) dd g12 l3 f3, cell gh 31 #[.int .u64 ((z1.1 : Nat) : Int), .int .i64 ((z1.2 : Nat) : Int)], BE 48 x.v x.l, cell g2 31 #[.int .u64 0, .int .i64 0]]) rfl rfl (AM 5 (v := .agg #[.int .u64 0, .int .i64 0]) #[.int .u64 0, .int .i64 0] An.2 rfl rfl rfl rfl rfl rfl rfl rfl rfl) ?_; rintro ⟨⟩
          refine Af Ak rfl ?_
          refine Ab (Az (CO ?_))
          exact BX (.cell 5 (v := .agg #[.int .u64 0, .int .i64 0]) (EH (cs := [.int .u64 0, .int .i64 0]) An rfl) rfl rfl) (.tmp rfl) (fun w h => AB () rfl [0] rfl h Cz) rfl
      · skip
        rw [if_neg (by omega)] at h
        obtain ⟨rfl, rfl, rfl⟩ : d1 = d' ∧ z1 = z ∧ 0 = e := by simpa [Prod.ext_iff] using h
        refine Ad ?_
        refine Af Ak rfl ?_
        refine Ac rfl (.int .i64 (b.length : Int)) (fun b w hb hH => AQ (((hH.rd8 5 rfl FN).rd)) Tryz.underlying48 rfl rfl hb) ?_
        refine Ac rfl (.bool false) (fun b w hb hH => Bh rfl rfl rfl (Bu (by omega)) hb) ?_
        refine Ab (Au rfl (Ax (AG ?_)))
        refine Bf [5] rfl E4 rfl ?_
        refine Ad ?_
        refine Af Ak rfl ?_
        refine Ac rfl (.agg #[.int .u64 ((z1.1 : Nat) : Int), .int .i64 ((z1.2 : Nat) : Int)]) (fun b w hb hH => Bg rfl rfl (EH (cs := [.int .u64 ((z1.1 : Nat) : Int), .int .i64 ((z1.2 : Nat) : Int)]) An rfl) (hH.row 3 rfl) hb) ?_
        refine AT (post := fun _ => [AA p d1, cell g13 31 #[.int .u64 ((n2 : Nat) : Int), .int .i64 (x3.toNat : Int)], JF (.slice A5 dd.length c5) dd g12 l3 f3, cell gh 31 #[.int .u64 ((z1.1 : Nat) : Int), .int .i64 ((z1.2 : Nat) : Int)], BE 48 x.v x.l, cell g2 31 #[.int .u64 ((z1.1 : Nat) : Int), .int .i64 ((z1.2 : Nat) : Int)]]) rfl rfl (AM 5 (v := .agg #[.int .u64 ((z1.1 : Nat) : Int), .int .i64 ((z1.2 : Nat) : Int)]) #[.int .u64 ((z1.1 : Nat) : Int), .int .i64 ((z1.2 : Nat) : Int)] An.2 rfl rfl rfl rfl rfl rfl rfl rfl rfl) ?_; rintro ⟨⟩
        refine Af Ak rfl ?_
        refine Ab (Az ?_)
        exact BX (.cell 5 (v := .agg #[.int .u64 ((z1.1 : Nat) : Int), .int .i64 ((z1.2 : Nat) : Int)]) (EH (cs := [.int .u64 ((z1.1 : Nat) : Int), .int .i64 ((z1.2 : Nat) : Int)]) An rfl) rfl rfl) (.tmp rfl) (fun w h => AB () rfl [0] rfl h Cz) rfl
    · skip
      have hjE : j = L.length := by omega
      refine Ad ?_
      refine Af Ak rfl ?_
      refine Ac rfl (.int .i64 (x.l.length : Int)) (fun b w hb hH => OI 1 Tryz.underlying76 rfl rfl rfl hH hb) ?_
      refine Ac rfl (.bool false) (fun b w hb hH => Bh rfl rfl rfl (Bu (by omega)) hb) ?_
      refine Ab (Au rfl (Cu (EO (EO (Bc (AG (Aq ?_)))))))
      obtain ⟨hz1, hz2⟩ := Qx hls hlat
      rw [hLd, ← hjE] at hz1 hz2
      rw [hz1, hz2]
      rcases Nat.lt_or_ge n1 b.length with hlt | hge
      · skip
        rw [if_pos hlt] at h
        refine Ad ?_
        refine Af Ak rfl ?_
        refine Ac rfl (.int .i64 (b.length : Int)) (fun b w hb hH => AQ (((hH.rd8 3 rfl FN).rd)) Tryz.underlying48 rfl rfl hb) ?_
        refine Ac rfl (.bool true) (fun b w hb hH => Bh rfl rfl rfl (Bl (by omega)) hb) ?_
        refine Ab (AD rfl ?_)
        refine Bf [3] rfl E4 rfl ?_
        refine Ad ?_
        refine Af Ak rfl ?_
        refine Ai rfl (Am (os' := fun _ => [AA p d2, cell gh 31 #[.int .u64 ((z1.1 : Nat) : Int), .int .i64 ((z1.2 : Nat) : Int)], BE 48 x.v x.l, cell g2 31 #[.int .u64 0, .int .i64 0]]) [0] 0 (Ah Tryz.func42 (by kernel_rfl) rfl) (N1 (n := hardN) hf1.fit (by omega) hcut) rfl rfl rfl (fun _ => rfl) rfl rfl rfl) ?_; rintro ⟨⟩
        refine Af Ak rfl ?_
        refine Ab ?_
        rcases Nat.eq_zero_or_pos e2 with he2 | he2
        · skip
          rw [if_neg (by omega)] at h
          obtain ⟨rfl, rfl, rfl⟩ : d2 = d' ∧ z1 = z ∧ 0 = e := by simpa [Prod.ext_iff] using h
          refine Ad ?_
          refine Af Ak rfl ?_
          refine Ac rfl (.bool false) (fun b w hb hH => Bh rfl rfl rfl (AU (by omega)) hb) ?_
          refine Ab (Au rfl (Ax (AG (Ad ?_))))
          refine Af Ak rfl ?_
          refine Ac rfl (.agg #[.int .u64 ((z1.1 : Nat) : Int), .int .i64 ((z1.2 : Nat) : Int)]) (fun b w hb hH => Bg rfl rfl (EH (cs := [.int .u64 ((z1.1 : Nat) : Int), .int .i64 ((z1.2 : Nat) : Int)]) An rfl) (hH.row 1 rfl) hb) ?_
          refine AT (post := fun _ => [AA p d2, cell gh 31 #[.int .u64 ((z1.1 : Nat) : Int), .int .i64 ((z1.2 : Nat) : Int)], BE 48 x.v x.l, cell g2 31 #[.int .u64 ((z1.1 : Nat) : Int), .int .i64 ((z1.2 : Nat) : Int)]]) rfl rfl (AM 3 (v := .agg #[.int .u64 ((z1.1 : Nat) : Int), .int .i64 ((z1.2 : Nat) : Int)]) #[.int .u64 ((z1.1 : Nat) : Int), .int .i64 ((z1.2 : Nat) : Int)] An.2 rfl rfl rfl rfl rfl rfl rfl rfl rfl) ?_; rintro ⟨⟩
          refine Af Ak rfl ?_
          refine Ab (Az ?_)
          exact BX (.cell 3 (v := .agg #[.int .u64 ((z1.1 : Nat) : Int), .int .i64 ((z1.2 : Nat) : Int)]) (EH (cs := [.int .u64 ((z1.1 : Nat) : Int), .int .i64 ((z1.2 : Nat) : Int)]) An rfl) rfl rfl) (.tmp rfl) (fun w h => AB () rfl [0] rfl h Cz) rfl
        · skip
          rw [if_pos (by omega)] at h
          obtain ⟨rfl, rfl, rfl⟩ : d2 = d' ∧ (0, 0) = z ∧ e2 = e := by simpa [Prod.ext_iff] using h
          refine Ad ?_
          refine Af Ak rfl ?_
          refine Ac rfl (.bool true) (fun b w hb hH => Bh rfl rfl rfl (BY (by omega)) hb) ?_
          refine Ab (AD rfl (Ad ?_))
          refine Af Ak rfl ?_
          refine Ac rfl (.agg #[.int .u64 0, .int .i64 0]) (fun b w hb hH => AV rfl rfl (by kernel_rfl) hb) ?_
          refine Af Ak rfl ?_
          refine AT (post := fun _ => [AA p d2, cell gh 31 #[.int .u64 ((z1.1 : Nat) : Int), .int .i64 ((z1.2 : Nat) : Int)], BE 48 x.v x.l, cell g2 31 #[.int .u64 0, .int .i64 0]]) rfl rfl (AM 3 (v := .agg #[.int .u64 0, .int .i64 0]) #[.int .u64 0, .int .i64 0] An.2 rfl rfl rfl rfl rfl rfl rfl rfl rfl) ?_; rintro ⟨⟩
          refine Af Ak rfl ?_
          refine Ab (Az (CO ?_))
          exact BX (.cell 3 (v := .agg #[.int .u64 0, .int .i64 0]) (EH (cs := [.int .u64 0, .int .i64 0]) An rfl) rfl rfl) (.tmp rfl) (fun w h => AB () rfl [0] rfl h Cz) rfl
      · skip
        rw [if_neg (by omega)] at h
        obtain ⟨rfl, rfl, rfl⟩ : d1 = d' ∧ z1 = z ∧ 0 = e := by simpa [Prod.ext_iff] using h
        refine Ad ?_
        refine Af Ak rfl ?_
        refine Ac rfl (.int .i64 (b.length : Int)) (fun b w hb hH => AQ (((hH.rd8 3 rfl FN).rd)) Tryz.underlying48 rfl rfl hb) ?_
        refine Ac rfl (.bool false) (fun b w hb hH => Bh rfl rfl rfl (Bu (by omega)) hb) ?_
        refine Ab (Au rfl (Ax (AG ?_)))
        refine Bf [3] rfl E4 rfl ?_
        refine Ad ?_
        refine Af Ak rfl ?_
        refine Ac rfl (.agg #[.int .u64 ((z1.1 : Nat) : Int), .int .i64 ((z1.2 : Nat) : Int)]) (fun b w hb hH => Bg rfl rfl (EH (cs := [.int .u64 ((z1.1 : Nat) : Int), .int .i64 ((z1.2 : Nat) : Int)]) An rfl) (hH.row 1 rfl) hb) ?_
        refine AT (post := fun _ => [AA p d1, cell gh 31 #[.int .u64 ((z1.1 : Nat) : Int), .int .i64 ((z1.2 : Nat) : Int)], BE 48 x.v x.l, cell g2 31 #[.int .u64 ((z1.1 : Nat) : Int), .int .i64 ((z1.2 : Nat) : Int)]]) rfl rfl (AM 3 (v := .agg #[.int .u64 ((z1.1 : Nat) : Int), .int .i64 ((z1.2 : Nat) : Int)]) #[.int .u64 ((z1.1 : Nat) : Int), .int .i64 ((z1.2 : Nat) : Int)] An.2 rfl rfl rfl rfl rfl rfl rfl rfl rfl) ?_; rintro ⟨⟩
        refine Af Ak rfl ?_
        refine Ab (Az ?_)
        exact BX (.cell 3 (v := .agg #[.int .u64 ((z1.1 : Nat) : Int), .int .i64 ((z1.2 : Nat) : Int)]) (EH (cs := [.int .u64 ((z1.1 : Nat) : Int), .int .i64 ((z1.2 : Nat) : Int)]) An rfl) rfl rfl) (.tmp rfl) (fun w h => AB () rfl [0] rfl h Cz) rfl
  · skip
    have hs2 : (BB d newN).isSome = true := by cases h9 : (BB d newN).isSome with | true => rfl | false => (exfalso; unfold Bb at hrm; rw [if_neg (by rw [h9]; simp)] at hrm; have := (Prod.mk.inj hrm).2; omega)
    obtain rfl : r = true := hs.symm.trans hs2
    have hdel : Hq d newN = (d1, e1) := by unfold Bb at hrm; rwa [if_pos hs] at hrm
    rw [if_pos (by omega)] at h
    obtain ⟨rfl, rfl, rfl⟩ : d1 = d' ∧ (0, 0) = z ∧ e1 = e := by simpa [Prod.ext_iff] using h
    refine Ad ?_
    refine Af Ak rfl ?_
    refine Ai rfl (Am (os' := fun _ => [cell g2 31 #[.int .u64 0, .int .i64 0], AA p d]) [1] 0 (Ah Tryz.func35 (by kernel_rfl) rfl) (UQ (n := newN) hs) rfl rfl rfl (fun _ => rfl) rfl rfl rfl) ?_; rintro ⟨⟩
    refine Ab (AD rfl (Ad ?_))
    refine Af Ak rfl ?_
    refine Ai rfl (Am (os' := fun _ => [cell g2 31 #[.int .u64 0, .int .i64 0], AA p d1]) [1] 0 (Ah Tryz.func36 (by kernel_rfl) rfl) (Qt (n := newN) hf.fit hdel) rfl rfl rfl (fun _ => rfl) rfl rfl rfl) ?_; rintro ⟨⟩
    refine Af Ak rfl ?_
    refine Ab (Ad ?_)
    refine Af Ak rfl ?_
    refine Ac rfl (.bool true) (fun b w hb hH => Bh rfl rfl rfl (BY (by omega)) hb) ?_
    refine Ab (AD rfl (Ad ?_))
    refine Af Ak rfl ?_
    refine Ac rfl (.agg #[.int .u64 0, .int .i64 0]) (fun b w hb hH => AV rfl rfl (by kernel_rfl) hb) ?_
    refine Af Ak rfl ?_
    refine AT (post := fun _ => [cell g2 31 #[.int .u64 0, .int .i64 0], AA p d1]) rfl rfl (AM 0 (v := .agg #[.int .u64 0, .int .i64 0]) #[.int .u64 0, .int .i64 0] An.2 rfl rfl rfl rfl rfl rfl rfl rfl rfl) ?_; rintro ⟨⟩
    refine Af Ak rfl ?_
    refine Ab (Az (CO ?_))
    exact BX (.cell 0 (v := .agg #[.int .u64 0, .int .i64 0]) (EH (cs := [.int .u64 0, .int .i64 0]) An rfl) rfl rfl) (.tmp rfl) (fun w h => AB () rfl [1] rfl h Cz) rfl
end Go.Proofs.YtnknboibmifacaaGreat.Sep
