/-
  RdkH
-/
import Derived.Test.YtnknboibmifacaaGreatPO01
set_option linter.unusedSimpArgs false
set_option linter.unusedVariables false
set_option maxRecDepth 100000
namespace Go.Proofs.YtnknboibmifacaaGreat.Sep
open Go.RowKit
open Go.Proofs.YtnknboibmifacaaGreat.Mem (Bl Co Chg AG)
structure CrV (W : List OpV) (f : FS) (lv : Value) where
  F : Ass
  Y : Ass
  l : List RFl
  hs : Ex l
  hp : (FU l).Perm f
  rf : Ff F lv l
  ry : ∀ y : RFl, y ∈ l → CX Y y.v y.d
  rw_ : ∀ q : OpV, q ∈ W → CX Y q.v q.o.data
  c1 : lv.cells = #[lv] ∧ lv.oneCell' = true
def D9 (W : List OpV) (f : FS) (lv : Value) : Ass := fun rs => ∃ z : CrV W f lv, Ap [z.F, z.Y] rs
theorem D9.open_ {W : List OpV} {f : FS} {lv : Value} : ∀ rs, D9 W f lv rs → ∃ z : CrV W f lv, Ap [z.F, z.Y] rs := fun _ h => h
theorem D9.c1 {W : List OpV} {f : FS} {lv : Value} {rs : List RowT} (h : D9 W f lv rs) : lv.cells = #[lv] ∧ lv.oneCell' = true := by
 obtain ⟨z, _⟩ := h
 exact z.c1
theorem Wr {d : DiskD} (x : RDk d) {f : FS} (hf : f = d.syn) : ∀ rs, Ap [x.F, x.Y] rs → D9 x.W f x.sv rs := fun _ h => ⟨⟨x.F, x.Y, x.sl, x.hs, by rw [hf]; exact x.ps, x.rs, x.ys, x.yw, x.sc⟩, h⟩
theorem Om {W : List OpV} {f : FS} {lv rv : Value} (z : CrV W f lv) {o : OpD} {g : FS} (hg : AI f o = g) {q : RDo} (hq : Ev z.l o q ∧ q.rv = rv) : ∀ rs, Ap [z.F, As 52 2 encRF rv q.rl, z.Y, As 5 1 encB q.bv q.bd] rs → D9 W g rv rs := fun rs h => by
  obtain ⟨r1, _, rfl, h1, r2, _, rfl, h2, r3, _, rfl, h3, r4, _, rfl, h4, rfl⟩ := h
  obtain ⟨hd, hrv⟩ := hq
  subst hrv
  refine ⟨⟨Fz [z.F, As 52 2 encRF q.rv q.rl], Fz [z.Y, As 5 1 encB q.bv q.bd], q.rl, hd.1, by rw [← hg]; exact hd.2.1 _ z.hp, TE CT, fun y hy => ?_, fun y hy => Id (z.rw_ y hy), As.c1 h2⟩, r1 ++ r2, r3 ++ r4, by simp, ⟨r1, r2, rfl, h1, r2, [], by simp, h2, rfl⟩, r3 ++ r4, [], by simp, ⟨r3, r4, rfl, h3, r4, [], by simp, h4, rfl⟩, rfl⟩
  rcases hd.2.2 y hy with h | ⟨h5, h6⟩
  · exact Id (z.ry y h)
  · rw [h5, h6]; exact QG CU
theorem TP {f : FS} {n b : List UInt8} {t : Nat} (h : (AI f (.app n b)).length ≤ 64) : (AI f (.app n (b.take t))).length ≤ 64 := by
 have h1 : (BG f n ((AQ f n).getD [] ++ b)).length ≤ 64 := h
 show (BG f n _).length ≤ 64
 rw [Ks] at h1 ⊢
 exact h1
def RDk.crash {d : DiskD} (x : RDk d) {W : List OpV} {f : FS} {lv : Value} (z : CrV W f lv) (hf : f.length ≤ 64) : RDk ⟨d.room, f, [], none, false⟩ where
  F := z.F
  Y := z.Y
  sv := lv
  nv := lv
  wv := .slice none 0 0
  sl := z.l
  nl := z.l
  W := []
  fz := x.fz
  hs := z.hs
  hn := z.hs
  ps := z.hp
  pn := z.hp
  hW := rfl
  rs := z.rf
  rn := z.rf
  ys := z.ry
  yn := z.ry
  yw := fun q h => nomatch h
  yc := fun q h => nomatch h
  hok := trivial
  few := fun k => by rw [List.take_nil]; exact hf
  hz := fun k h => nomatch h
  zr := x.zr
  nc := z.c1
  sc := z.c1
theorem EN {p : Nat} {d : DiskD} (x : RDk d) {W : List OpV} {f : FS} {lv : Value} (hf : f.length ≤ 64) {d' : DiskD} (hd : d' = ⟨d.room, f, [], none, false⟩) : ∀ rs, Ap [cell p 59 #[.int .i64 d.room, lv, lv, .slice none 0 0, .bool false, .int .i64 x.fz, .bool false], D9 W f lv] rs → Au p d' rs := fun rs h => by
 subst hd
 obtain ⟨r1, _, rfl, h1, r2, _, rfl, ⟨z, r3, _, rfl, h3, r4, _, rfl, h4, rfl⟩, rfl⟩ := h
 refine ⟨x.crash z hf, r1, _, rfl, h1, ?_⟩
 rw [List.append_nil]
 exact ⟨r3, _, rfl, h3, r4, _, rfl, h4, [], [], rfl, Ga, rfl⟩
theorem TQ {X : Ass} {A : Option Addr} {c k : Nat} {l : List UInt8} (h : CX X (.slice A l.length c) l) (hk : k ≤ l.length) : CX X (.slice A (l.take k).length c) (l.take k) := fun rs w h1 h2 => (h rs w h1 h2).takes hk
theorem M1 {d : DiskD} (x : RDk d) {i : Nat} {y : OpV} (h : x.W[i]? = some y) : d.wait[i]? = some y.o := by
 rw [← x.hW]
 unfold DN
 rw [List.getElem?_map, h]; rfl
theorem On {d : DiskD} (x : RDk d) (hf : d.fit) {i : Nat} {y : OpV} (h : x.W[i]? = some y) {lv : Value} (z : CrV x.W ((d.wait.take i).foldl AI d.syn) lv) : LB (FU z.l) y.o ∧ z.l.length ≤ 64 ∧ (∀ q : RFl, q ∈ z.l → CX z.Y q.v q.d ∧ q.d.length ≤ 1099511627776) ∧ y.o.data.length ≤ 1099511627776 ∧ y ∈ x.W := by
  have hw := M1 x h
  have h1 := Kl x.hok hw
  have hnd : (AL ((d.wait.take i).foldl AI d.syn)).Nodup := EJ _ x.snd
  have h2 := Ep x.snd x.hok hw hf.1
  have h3 := z.hp.length_eq
  unfold FU at h3
  rw [List.length_map] at h3
  have h4 := x.few i
  refine ⟨K4 z.hp.symm hnd h1, by omega, fun q hq => ⟨z.ry q hq, ?_⟩, ?_, List.mem_of_getElem? h⟩
  · have h5 := QF hq
    rw [Df z.hp] at h5
    omega
  · have h6 : y.o.data.length = y.o.size := by cases y.o <;> rfl
    omega
theorem TR {d : DiskD} {keep torn : Int} {k : Nat} (hk : Cs d keep = k) (h : d.wait.length ≤ k) : CS d keep torn = (d.wait.take k).foldl AI d.syn := by
 unfold CS
 rw [hk, List.getElem?_eq_none h]
theorem Ku {d : DiskD} {keep torn : Int} {k : Nat} {o : OpD} (hk : Cs d keep = k) (h : d.wait[k]? = some o) (ho : ∀ n b, o = .app n b → b = []) : CS d keep torn = (d.wait.take k).foldl AI d.syn := by
  unfold CS
  rw [hk, h]
  cases o with
  | app n b => simp only; rw [if_pos (.inr (ho n b rfl))]
  | _ => rfl
theorem Oo {d : DiskD} {keep torn : Int} {k t : Nat} {n b : List UInt8} (hk : Cs d keep = k) (h : d.wait[k]? = some (.app n b)) (hb : b ≠ []) (ht : torn % (b.length : Int) = (t : Int)) : CS d keep torn = if t = 0 then (d.wait.take k).foldl AI d.syn else AI ((d.wait.take k).foldl AI d.syn) (.app n (b.take t)) := by
  unfold CS
  rw [hk, h]
  simp only
  rw [ht, Int.toNat_natCast]
  by_cases h0 : t = 0
  · rw [if_pos (.inl h0), if_pos h0]
  · rw [if_neg (by simp [h0, hb]), if_neg h0]
theorem Vd (w : World) (a m : Int) (ha : -9223372036854775808 ≤ a ∧ a ≤ 9223372036854775807) (hm : 1 ≤ m ∧ m ≤ 9223372036854775807) {r : Int} (hr : a % m = r) : Calls Tryz.prog 66 #[.int .i64 a, .int .i64 m] w fun e w' => e = .returned (.int .i64 r) ∧ Below w.heap.size w w' := by
  have hlt := Int.emod_lt_of_pos a (show 0 < m by omega)
  have hge := Int.emod_nonneg a (show m ≠ 0 by omega)
  have ht : (0 ≤ a.tmod m ∧ a.tmod m = r) ∨ (a.tmod m < 0 ∧ a.tmod m + m = r) := by
    rw [Int.tmod_eq_emod, ← hr]
    split
    · left; omega
    · rename_i h
      right
      have hne : a % m ≠ 0 := fun e => h (.inr (Int.dvd_of_emod_eq_zero e))
      omega
  rw [hr] at hlt hge
  obtain ⟨t, htm⟩ : ∃ t, a.tmod m = t := ⟨_, rfl⟩
  rw [htm] at ht
  refine Fy (args := [.int .i64 a, .int .i64 m]) 14 Tryz.func66 rfl rfl rfl ?_
  refine Ad ?_
  refine Ae Ag rfl ?_
  refine Aa (Ad ?_)
  refine Ae Ag rfl ?_
  refine Ab rfl (.int .i64 t) (fun b w hb hH => Ht rfl rfl rfl (by omega) htm hb) ?_
  refine Ae Ag rfl ?_
  refine Aa (Aq ?_)
  rcases ht with ⟨h1, h2⟩ | ⟨h1, h2⟩
  · skip
    subst h2
    refine Ad ?_
    refine Ae Ag rfl ?_
    refine Ab rfl (.bool false) (fun b w hb hH => AV rfl rfl rfl (Bn (by omega)) hb) ?_
    refine Aa (Ar rfl (Ax (AE (Ad ?_))))
    refine Ae Ag rfl ?_
    refine Aa (Ay ?_)
    exact Av (.tmp rfl) (fun w h => ⟨rfl, AG h.up⟩) rfl
  · skip
    refine Ad ?_
    refine Ae Ag rfl ?_
    refine Ab rfl (.bool true) (fun b w hb hH => AV rfl rfl rfl (A7 (by omega)) hb) ?_
    refine Aa (AC rfl (Br ?_))
    refine Ae Ag rfl ?_
    refine Ab rfl (.int .i64 r) (fun b w hb hH => AN rfl rfl rfl rfl (by rw [IntWalk.i64_in _ (by omega)]; omega) hb) ?_
    refine Ae Ag rfl ?_
    refine AP (AE (Ad ?_))
    refine Ae Ag rfl ?_
    refine Aa (Ay ?_)
    exact Av (.tmp rfl) (fun w h => ⟨rfl, AG h.up⟩) rfl
theorem VS {p : Nat} {d d' : DiskD} {keep torn : Int} {k : Nat} (hf : d.fit) (hkp : -9223372036854775808 ≤ keep ∧ keep ≤ 9223372036854775807) (htn : -9223372036854775808 ≤ torn ∧ torn ≤ 9223372036854775807) (hk : Cs d keep = k) (h : Cn d keep torn = d') : AU Tryz.prog 26 #[.pointer (some ⟨p, 0, none⟩), .int .i64 keep, .int .i64 torn] [Au p d] (fun (_ : Unit) => .int .i64 (k : Int)) (fun (_ : Unit) => [Au p d']) := by
  refine Bd (args := [.pointer (some ⟨p, 0, none⟩), .int .i64 keep, .int .i64 torn]) 108 Tryz.func26 rfl rfl rfl ?_; intro w rs
  obtain ⟨fu, hfu⟩ : ∃ fu, d.fuse.isSome = fu := ⟨_, rfl⟩
  obtain ⟨dn, hdn⟩ : ∃ dn, d.down = dn := ⟨_, rfl⟩
  refine AZ 0 rfl (Cy hfu hdn) (fun _ => rfl) ?_; rintro x
  have hwl := x.wlen
  have hw4 := hf.2
  have hkd := I5 d keep
  rw [hk] at hkd
  have hkm : keep % ((x.W.length : Int) + 1) = (k : Int) := by rw [hwl, ← hk]; unfold Cs; exact (Int.toNat_of_nonneg (Int.emod_nonneg _ (by omega))).symm
  refine Ad ?_
  refine Ae Ag rfl ?_
  refine Aa (Ad ?_)
  refine Ae Ag rfl ?_
  refine Ab rfl (.pointer (some ⟨p, 0, none⟩)) (fun b w hb hH => by exact BA rfl rfl hb) ?_
  refine Ae Ag rfl ?_
  refine Ab rfl (x.wv) (fun b w hb hH => A6 rfl rfl (Bk AF rfl) (hH.row 0 rfl) hb) ?_
  refine Ab rfl (.int .i64 (x.W.length : Int)) (fun b w hb hH => Cv 3 Tryz.underlying57 rfl rfl rfl hH hb) ?_
  refine Ab rfl (.int .i64 ((x.W.length : Int) + 1)) (fun b w hb hH => AN rfl rfl rfl rfl (IntWalk.i64_in _ (by omega)) hb) ?_
  refine Aj (post := fun _ => [cell p 59 #[.int .i64 d.room, x.sv, x.nv, x.wv, .bool fu, .int .i64 x.fz, .bool dn], x.F, x.Y, As 103 5 encRO x.wv x.W]) rfl (By (Ah Tryz.func66 (by kernel_rfl) rfl) (fun w hH => Vd w keep ((x.W.length : Int) + 1) hkp (by omega) hkm) rfl rfl rfl) ?_; rintro ⟨⟩
  refine Ae Ag rfl ?_
  refine Aa (Ad ?_)
  refine Ae Ag rfl ?_
  refine Ab rfl (.pointer (some ⟨p, 0, none⟩)) (fun b w hb hH => by exact BA rfl rfl hb) ?_
  refine Ae Ag rfl ?_
  refine Ab rfl (x.sv) (fun b w hb hH => A6 rfl rfl (Bk An rfl) (hH.row 0 rfl) hb) ?_
  refine Ae Ag rfl ?_
  refine Aa (Aq (Ad ?_))
  refine Ae Ag rfl ?_
  refine Aa (Bb ?_)
  refine AX [1, 2] rfl (Wr x rfl) rfl ?_
  refine CO (α := Nat × Value) (fun ⟨i, lv⟩ => [(0, .pointer (some ⟨p, 0, none⟩)), (2, .int .i64 torn), (6, .int .i64 0), (7, .int .i64 (k : Int)), (8, lv), (9, .int .i64 ((i : Nat) : Int))]) (fun ⟨i, lv⟩ => [D9 x.W ((d.wait.take i).foldl AI d.syn) lv, cell p 59 #[.int .i64 d.room, x.sv, x.nv, x.wv, .bool fu, .int .i64 x.fz, .bool dn], As 103 5 encRO x.wv x.W]) (fun ⟨i, lv⟩ => i ≤ k) (fun ⟨i, lv⟩ => k - i) (0, x.sv) (Nat.zero_le _) ⟨rfl, rfl, rfl, rfl, rfl, rfl, trivial⟩ rfl ?_
  rintro ⟨i, lv⟩ hI
  refine Bv.at_ (env' := [(0, .pointer (some ⟨p, 0, none⟩)), (2, .int .i64 torn), (6, .int .i64 0), (7, .int .i64 (k : Int)), (8, lv), (9, .int .i64 ((i : Nat) : Int))]) (rs' := [D9 x.W ((d.wait.take i).foldl AI d.syn) lv, cell p 59 #[.int .i64 d.room, x.sv, x.nv, x.wv, .bool fu, .int .i64 x.fz, .bool dn], As 103 5 encRO x.wv x.W]) ⟨rfl, rfl, rfl, rfl, rfl, rfl, trivial⟩ rfl ?_
  have hI1 : i ≤ k := hI
  refine Aq ?_
  rcases Nat.lt_or_ge i k with hi | hi
  · skip
    obtain ⟨y, hy⟩ : ∃ y, x.W[i]? = some y := ⟨_, List.getElem?_eq_getElem (by omega)⟩
    refine AZ 0 rfl D9.open_ (fun _ => rfl) ?_; rintro z
    obtain ⟨hz1, hz2, hz3, hz4, hz5⟩ := On x hf hy z
    refine Ad ?_
    refine Ae Ag rfl ?_
    refine Ab rfl (.bool true) (fun b w hb hH => AV rfl rfl rfl (A7 (by omega)) hb) ?_
    refine Aa (AC rfl (Ax (AE (Aq (Bb (Br ?_))))))
    refine Ae Ag rfl ?_
    refine Ab rfl (.pointer (some ⟨p, 0, none⟩)) (fun b w hb hH => by exact BA rfl rfl hb) ?_
    refine Ae Ag rfl ?_
    refine Ab rfl (x.wv) (fun b w hb hH => A6 rfl rfl (Bk AF rfl) (hH.row 2 rfl) hb) ?_
    refine Ae Ag rfl ?_
    refine Ab rfl (BP x.wv (i * 5)) (fun b w hb hH => Ej 3 BI CY rfl i (by omega) rfl rfl rfl hH hb) ?_
    refine Ab rfl (.agg (encRO y).toArray) (fun b w hb hH => Ih CY (by decide) (hH.vec 3 rfl CY) (j := i) hy CL rfl rfl hb) ?_
    refine Aj rfl (Al (os' := fun rv => [M6 z.l (y.o) rv, z.F, z.Y, cell p 59 #[.int .i64 d.room, x.sv, x.nv, x.wv, .bool fu, .int .i64 x.fz, .bool dn], As 103 5 encRO x.wv x.W]) [0, 1] 0 (Ah Tryz.func67 (by kernel_rfl) rfl) (JU (X := z.F) (Y := z.Y) (x := y) z.rf (by omega) z.hs hz1 hz3 (z.rw_ y hz5) hz4) rfl rfl rfl (fun _ => rfl) rfl rfl rfl) ?_; rintro rv
    refine Ae Ag rfl ?_
    refine AP (Bt (AE ?_))
    refine AZ 0 rfl M6.open_ (fun _ => rfl) ?_; rintro q
    refine Bv.fact 2 rfl (fun _ h => h.2) ?_; rintro hq
    refine Bv.leave [2] rfl rfl ?_
    refine AX [2, 1, 3, 0] rfl (Om z (JI (M1 x hy) d.syn).symm hq) rfl ?_
    refine Br ?_
    refine Ae Ag rfl ?_
    refine Ab rfl (.int .i64 ((i + 1 : Nat) : Int)) (fun b w hb hH => AN rfl rfl rfl rfl (by rw [IntWalk.i64_in _ (by omega)]; omega) hb) ?_
    refine Ae Ag rfl ?_
    refine AP ?_
    exact Cc (i + 1, rv) 0 hi (show k - (i + 1) < k - i by omega) ⟨rfl, rfl, rfl, rfl, rfl, rfl, trivial⟩ rfl
  · skip
    obtain rfl : k = i := by omega
    refine Ad ?_
    refine Ae Ag rfl ?_
    refine Ab rfl (.bool false) (fun b w hb hH => AV rfl rfl rfl (Bn (by omega)) hb) ?_
    refine Aa (Ar rfl (Cu (E0 (E0 (Bh (AE (Aq ?_)))))))
    rcases Nat.lt_or_ge k x.W.length with h1 | h1
    obtain ⟨⟨o, A, c⟩, hy⟩ : ∃ y, x.W[k]? = some y := ⟨_, List.getElem?_eq_getElem h1⟩
    have hwy : d.wait[k]? = some o := M1 x hy
    have hcap : o.data.length ≤ c := x.yc _ (List.mem_of_getElem? hy)
    rcases o with ⟨n, bb⟩ | ⟨n, s⟩ | ⟨n, m⟩ | n
    rcases Classical.em (bb = []) with hb | hb
    rotate_left
    obtain ⟨t, ht, htl⟩ : ∃ t : Nat, torn % (bb.length : Int) = (t : Int) ∧ t < bb.length := by
        have hb0 : bb.length ≠ 0 := fun e => hb (List.eq_nil_of_length_eq_zero e)
        have g1 := Int.emod_nonneg torn (show (bb.length : Int) ≠ 0 by omega)
        have g2 := Int.emod_lt_of_pos torn (show 0 < (bb.length : Int) by omega)
        exact ⟨(torn % (bb.length : Int)).toNat, (Int.toNat_of_nonneg g1).symm, by omega⟩
    · skip
      have hb0 : bb.length ≠ 0 := fun e => hb (List.eq_nil_of_length_eq_zero e)
      have hbs : (OpD.app n bb).size ≤ 1099511627776 := by have := Ep x.snd x.hok hwy hf.1; omega
      change bb.length ≤ _ at hbs
      refine Ad ?_
      refine Ae Ag rfl ?_
      refine Ab rfl (.pointer (some ⟨p, 0, none⟩)) (fun b w hb hH => by exact BA rfl rfl hb) ?_
      refine Ae Ag rfl ?_
      refine Ab rfl (x.wv) (fun b w hb hH => A6 rfl rfl (Bk AF rfl) (hH.row 1 rfl) hb) ?_
      refine Ab rfl (.int .i64 (x.W.length : Int)) (fun b w hb hH => Cv 2 Tryz.underlying57 rfl rfl rfl hH hb) ?_
      refine Ab rfl (.bool true) (fun b w hb hH => AV rfl rfl rfl (A7 (by omega)) hb) ?_
      refine Ae Ag rfl ?_
      refine Ab rfl (.pointer (some ⟨p, 0, none⟩)) (fun b w hb hH => by exact BA rfl rfl hb) ?_
      refine Ae Ag rfl ?_
      refine Ab rfl (x.wv) (fun b w hb hH => A6 rfl rfl (Bk AF rfl) (hH.row 1 rfl) hb) ?_
      refine Ae Ag rfl ?_
      refine Ab rfl (BP x.wv (k * 5)) (fun b w hb hH => Ej 2 BI CY rfl k h1 rfl rfl rfl hH hb) ?_
      refine Ab rfl (BP x.wv (k * 5 + 0)) (fun b w hb hH => IS CY (by decide) (hH.vec 2 rfl CY) (j := k) hy Cq rfl rfl hb) ?_
      refine Ab rfl (.int .i64 ((⟨.app n bb, A, c⟩ : OpV).o.kind)) (fun b w hb hH => Bm CY (by decide) (hH.vec 2 rfl CY) (j := k) hy AR (off := 0) rfl rfl rfl hb) ?_
      refine Ab rfl (.bool true) (fun b w hb hH => AV rfl rfl rfl (H7 rfl) hb) ?_
      refine Ae Ag rfl ?_
      refine Ab rfl (.pointer (some ⟨p, 0, none⟩)) (fun b w hb hH => by exact BA rfl rfl hb) ?_
      refine Ae Ag rfl ?_
      refine Ab rfl (x.wv) (fun b w hb hH => A6 rfl rfl (Bk AF rfl) (hH.row 1 rfl) hb) ?_
      refine Ae Ag rfl ?_
      refine Ab rfl (BP x.wv (k * 5)) (fun b w hb hH => Ej 2 BI CY rfl k h1 rfl rfl rfl hH hb) ?_
      refine Ab rfl (BP x.wv (k * 5 + 3)) (fun b w hb hH => IS CY (by decide) (hH.vec 2 rfl CY) (j := k) hy D8 rfl rfl hb) ?_
      refine Ab rfl (.slice A bb.length c) (fun b w hb hH => Bm CY (by decide) (hH.vec 2 rfl CY) (j := k) hy C3 (off := 3) rfl rfl rfl hb) ?_
      refine Ab rfl (.int .i64 (bb.length : Int)) (fun b w hb hH => H6 AJ rfl rfl hH hb) ?_
      refine Ab rfl (.bool true) (fun b w hb hH => AV rfl rfl rfl (BY (by omega)) hb) ?_
      refine Ae Ag rfl ?_
      refine Aa (AC rfl (Ad ?_))
      refine Ae Ag rfl ?_
      refine Ab rfl (.pointer (some ⟨p, 0, none⟩)) (fun b w hb hH => by exact BA rfl rfl hb) ?_
      refine Ae Ag rfl ?_
      refine Ab rfl (x.wv) (fun b w hb hH => A6 rfl rfl (Bk AF rfl) (hH.row 1 rfl) hb) ?_
      refine Ae Ag rfl ?_
      refine Ab rfl (BP x.wv (k * 5)) (fun b w hb hH => Ej 2 BI CY rfl k h1 rfl rfl rfl hH hb) ?_
      refine Ab rfl (.agg #[.int .i64 0, .string (bs n), .string (bs ([])), .slice A bb.length c, .int .i64 0]) (fun b w hb hH => Ih CY (by decide) (hH.vec 2 rfl CY) (j := k) hy CL rfl rfl hb) ?_
      refine Aj (post := fun g10 => [cell g10 103 #[.int .i64 0, .string { data := #[] }, .string { data := #[] }, .slice none 0 0, .int .i64 0], D9 x.W ((d.wait.take k).foldl AI d.syn) lv, cell p 59 #[.int .i64 d.room, x.sv, x.nv, x.wv, .bool fu, .int .i64 x.fz, .bool dn], As 103 5 encRO x.wv x.W]) rfl (BS JS rfl) ?_; rintro g10
      refine AH (post := fun _ => [cell g10 103 #[.int .i64 0, .string (bs n), .string (bs ([])), .slice A bb.length c, .int .i64 0], D9 x.W ((d.wait.take k).foldl AI d.syn) lv, cell p 59 #[.int .i64 d.room, x.sv, x.nv, x.wv, .bool fu, .int .i64 x.fz, .bool dn], As 103 5 encRO x.wv x.W]) rfl rfl (AD 0 (v := .agg #[.int .i64 0, .string (bs n), .string (bs ([])), .slice A bb.length c, .int .i64 0]) #[.int .i64 0, .string (bs n), .string (bs ([])), .slice A bb.length c, .int .i64 0] CL.2 rfl rfl rfl rfl rfl rfl rfl rfl rfl) ?_; rintro ⟨⟩
      refine Aa ?_
      refine Bv.keep (env' := [(0, .pointer (some ⟨p, 0, none⟩)), (2, .int .i64 torn), (6, .int .i64 0), (7, .int .i64 (k : Int)), (8, lv), (10, .pointer (some ⟨g10, 0, none⟩))]) ⟨rfl, rfl, rfl, rfl, rfl, rfl, trivial⟩ ?_
      refine Ad ?_
      refine Ae Ag rfl ?_
      refine Ab rfl (.slice A bb.length c) (fun b w hb hH => A6 rfl rfl (Bk C3 rfl) (hH.row 0 rfl) hb) ?_
      refine Ab rfl (.int .i64 (bb.length : Int)) (fun b w hb hH => H6 AJ rfl rfl hH hb) ?_
      refine Aj (post := fun _ => [cell g10 103 #[.int .i64 0, .string (bs n), .string (bs ([])), .slice A bb.length c, .int .i64 0], D9 x.W ((d.wait.take k).foldl AI d.syn) lv, cell p 59 #[.int .i64 d.room, x.sv, x.nv, x.wv, .bool fu, .int .i64 x.fz, .bool dn], As 103 5 encRO x.wv x.W]) rfl (By (Ah Tryz.func66 (by kernel_rfl) rfl) (fun w hH => Vd w torn (bb.length : Int) htn (by omega) ht) rfl rfl rfl) ?_; rintro ⟨⟩
      refine Ae Ag rfl ?_
      refine Aa ?_
      rcases Nat.eq_zero_or_pos t with h0 | h0
      · skip
        refine Ad ?_
        refine Ae Ag rfl ?_
        refine Ab rfl (.bool false) (fun b w hb hH => AV rfl rfl rfl (BE (by omega)) hb) ?_
        refine Aa (Ar rfl (Ax (AE (Ad ?_))))
        refine Ae Ag rfl ?_
        refine Ab rfl (.pointer (some ⟨p, 0, none⟩)) (fun b w hb hH => by exact BA rfl rfl hb) ?_
        refine Ae Ag rfl ?_
        refine AH (post := fun _ => [cell g10 103 #[.int .i64 0, .string (bs n), .string (bs ([])), .slice A bb.length c, .int .i64 0], D9 x.W ((d.wait.take k).foldl AI d.syn) lv, cell p 59 #[.int .i64 d.room, lv, x.nv, x.wv, .bool fu, .int .i64 x.fz, .bool dn], As 103 5 encRO x.wv x.W]) rfl rfl (Ci 2 1 (v := lv) #[.int .i64 d.room, lv, x.nv, x.wv, .bool fu, .int .i64 x.fz, .bool dn] An.2 rfl (fun _ h => D9.c1 h) rfl rfl rfl rfl rfl rfl rfl) ?_; rintro ⟨⟩
        refine Aa (Ad ?_)
        refine Ae Ag rfl ?_
        refine Ab rfl (.pointer (some ⟨p, 0, none⟩)) (fun b w hb hH => by exact BA rfl rfl hb) ?_
        refine Ae Ag rfl ?_
        refine AH (post := fun _ => [cell g10 103 #[.int .i64 0, .string (bs n), .string (bs ([])), .slice A bb.length c, .int .i64 0], D9 x.W ((d.wait.take k).foldl AI d.syn) lv, cell p 59 #[.int .i64 d.room, lv, lv, x.wv, .bool fu, .int .i64 x.fz, .bool dn], As 103 5 encRO x.wv x.W]) rfl rfl (Ci 2 1 (v := lv) #[.int .i64 d.room, lv, lv, x.wv, .bool fu, .int .i64 x.fz, .bool dn] An.2 rfl (fun _ h => D9.c1 h) rfl rfl rfl rfl rfl rfl rfl) ?_; rintro ⟨⟩
        refine Aa (Ad ?_)
        refine Ae Ag rfl ?_
        refine Ab rfl (.pointer (some ⟨p, 0, none⟩)) (fun b w hb hH => by exact BA rfl rfl hb) ?_
        refine Ae Ag rfl ?_
        refine AH (post := fun _ => [cell g10 103 #[.int .i64 0, .string (bs n), .string (bs ([])), .slice A bb.length c, .int .i64 0], D9 x.W ((d.wait.take k).foldl AI d.syn) lv, cell p 59 #[.int .i64 d.room, lv, lv, .slice none 0 0, .bool fu, .int .i64 x.fz, .bool dn], As 103 5 encRO x.wv x.W]) rfl rfl (AD 2 (v := .slice none 0 0) #[.int .i64 d.room, lv, lv, .slice none 0 0, .bool fu, .int .i64 x.fz, .bool dn] AF.2 rfl rfl rfl rfl rfl rfl rfl rfl rfl) ?_; rintro ⟨⟩
        refine Aa (Ad ?_)
        refine Ae Ag rfl ?_
        refine Ab rfl (.pointer (some ⟨p, 0, none⟩)) (fun b w hb hH => by exact BA rfl rfl hb) ?_
        refine Ae Ag rfl ?_
        refine AH (post := fun _ => [cell g10 103 #[.int .i64 0, .string (bs n), .string (bs ([])), .slice A bb.length c, .int .i64 0], D9 x.W ((d.wait.take k).foldl AI d.syn) lv, cell p 59 #[.int .i64 d.room, lv, lv, .slice none 0 0, .bool false, .int .i64 x.fz, .bool dn], As 103 5 encRO x.wv x.W]) rfl rfl (AD 2 (v := .bool false) #[.int .i64 d.room, lv, lv, .slice none 0 0, .bool false, .int .i64 x.fz, .bool dn] Bo.2 rfl rfl rfl rfl rfl rfl rfl rfl rfl) ?_; rintro ⟨⟩
        refine Aa (Ad ?_)
        refine Ae Ag rfl ?_
        refine Ab rfl (.pointer (some ⟨p, 0, none⟩)) (fun b w hb hH => by exact BA rfl rfl hb) ?_
        refine Ae Ag rfl ?_
        refine AH (post := fun _ => [cell g10 103 #[.int .i64 0, .string (bs n), .string (bs ([])), .slice A bb.length c, .int .i64 0], D9 x.W ((d.wait.take k).foldl AI d.syn) lv, cell p 59 #[.int .i64 d.room, lv, lv, .slice none 0 0, .bool false, .int .i64 x.fz, .bool false], As 103 5 encRO x.wv x.W]) rfl rfl (AD 2 (v := .bool false) #[.int .i64 d.room, lv, lv, .slice none 0 0, .bool false, .int .i64 x.fz, .bool false] Bo.2 rfl rfl rfl rfl rfl rfl rfl rfl rfl) ?_; rintro ⟨⟩
        refine Aa ?_
        refine AX [2, 1] rfl (EN (d' := d') x (x.few k) (by rw [← h]; unfold Cn; rw [(Oo hk hwy hb ht), if_pos h0])) rfl ?_
        refine Ad ?_
        refine Ae Ag rfl ?_
        refine Aa (Ay ?_)
        exact Av (.tmp rfl) (fun w h => AB () rfl [0] rfl h Cl) rfl
      · skip
        refine AZ 1 rfl D9.open_ (fun _ => rfl) ?_; rintro z
        obtain ⟨hz1, hz2, hz3, hz4, hz5⟩ := On x hf hy z
        have hsub2 : Cm 1 (.slice A bb.length c) 0 t = .slice A (bb.take t).length c := by rw [show (bb.take t).length = t by rw [List.length_take]; omega]; exact I1
        have hrY : CX z.Y (.slice A (bb.take t).length c) (bb.take t) := TQ (z.rw_ _ hz5) (by omega)
        have hcap2 : bb.length ≤ c := hcap
        refine Ad ?_
        refine Ae Ag rfl ?_
        refine Ab rfl (.bool true) (fun b w hb hH => AV rfl rfl rfl (BY (by omega)) hb) ?_
        refine Aa (AC rfl (Ad ?_))
        refine Ae Ag rfl ?_
        refine Ab rfl (.slice A bb.length c) (fun b w hb hH => A6 rfl rfl (Bk C3 rfl) (hH.row 2 rfl) hb) ?_
        refine Ae Ag rfl ?_
        refine Ab rfl (.slice A (bb.take t).length c) (fun b w hb hH => IK (j := t) AJ hsub2 (by omega) rfl rfl rfl hH hb) ?_
        refine Ae Ag rfl ?_
        refine AH (post := fun _ => [z.F, z.Y, cell g10 103 #[.int .i64 0, .string (bs n), .string (bs ([])), .slice A (bb.take t).length c, .int .i64 0], cell p 59 #[.int .i64 d.room, x.sv, x.nv, x.wv, .bool fu, .int .i64 x.fz, .bool dn], As 103 5 encRO x.wv x.W]) rfl rfl (AD 2 (v := .slice A (bb.take t).length c) #[.int .i64 0, .string (bs n), .string (bs ([])), .slice A (bb.take t).length c, .int .i64 0] C3.2 rfl rfl rfl rfl rfl rfl rfl rfl rfl) ?_; rintro ⟨⟩
        refine Aa (Br ?_)
        refine Ae Ag rfl ?_
        refine Ab rfl (.agg #[.int .i64 0, .string (bs n), .string (bs ([])), .slice A (bb.take t).length c, .int .i64 0]) (fun b w hb hH => A6 rfl rfl (D3 (cs := [.int .i64 0, .string (bs n), .string (bs ([])), .slice A (bb.take t).length c, .int .i64 0]) CL rfl) (hH.row 2 rfl) hb) ?_
        refine Aj rfl (Al (os' := fun rv => [M6 z.l (.app n (bb.take t)) rv, z.F, z.Y, cell g10 103 #[.int .i64 0, .string (bs n), .string (bs ([])), .slice A (bb.take t).length c, .int .i64 0], cell p 59 #[.int .i64 d.room, x.sv, x.nv, x.wv, .bool fu, .int .i64 x.fz, .bool dn], As 103 5 encRO x.wv x.W]) [0, 1] 0 (Ah Tryz.func67 (by kernel_rfl) rfl) (JU (X := z.F) (Y := z.Y) (x := ⟨.app n (bb.take t), A, c⟩) z.rf (by omega) z.hs hz1 hz3 hrY (by show (bb.take t).length ≤ _; rw [List.length_take]; have : bb.length ≤ 1099511627776 := hz4; omega)) rfl rfl rfl (fun _ => rfl) rfl rfl rfl) ?_; rintro rv
        refine Ae Ag rfl ?_
        refine AP (AE ?_)
        refine AZ 0 rfl M6.open_ (fun _ => rfl) ?_; rintro q
        refine Bv.fact 2 rfl (fun _ h => h.2) ?_; rintro hq
        refine Bv.leave [2] rfl rfl ?_
        refine AX [2, 1, 3, 0] rfl (Om z rfl hq) rfl ?_
        refine Ad ?_
        refine Ae Ag rfl ?_
        refine Ab rfl (.pointer (some ⟨p, 0, none⟩)) (fun b w hb hH => by exact BA rfl rfl hb) ?_
        refine Ae Ag rfl ?_
        refine AH (post := fun _ => [D9 x.W (AI ((d.wait.take k).foldl AI d.syn) (.app n (bb.take t))) rv, cell g10 103 #[.int .i64 0, .string (bs n), .string (bs ([])), .slice A (bb.take t).length c, .int .i64 0], cell p 59 #[.int .i64 d.room, rv, x.nv, x.wv, .bool fu, .int .i64 x.fz, .bool dn], As 103 5 encRO x.wv x.W]) rfl rfl (Ci 2 0 (v := rv) #[.int .i64 d.room, rv, x.nv, x.wv, .bool fu, .int .i64 x.fz, .bool dn] An.2 rfl (fun _ h => D9.c1 h) rfl rfl rfl rfl rfl rfl rfl) ?_; rintro ⟨⟩
        refine Aa (Ad ?_)
        refine Ae Ag rfl ?_
        refine Ab rfl (.pointer (some ⟨p, 0, none⟩)) (fun b w hb hH => by exact BA rfl rfl hb) ?_
        refine Ae Ag rfl ?_
        refine AH (post := fun _ => [D9 x.W (AI ((d.wait.take k).foldl AI d.syn) (.app n (bb.take t))) rv, cell g10 103 #[.int .i64 0, .string (bs n), .string (bs ([])), .slice A (bb.take t).length c, .int .i64 0], cell p 59 #[.int .i64 d.room, rv, rv, x.wv, .bool fu, .int .i64 x.fz, .bool dn], As 103 5 encRO x.wv x.W]) rfl rfl (Ci 2 0 (v := rv) #[.int .i64 d.room, rv, rv, x.wv, .bool fu, .int .i64 x.fz, .bool dn] An.2 rfl (fun _ h => D9.c1 h) rfl rfl rfl rfl rfl rfl rfl) ?_; rintro ⟨⟩
        refine Aa (Ad ?_)
        refine Ae Ag rfl ?_
        refine Ab rfl (.pointer (some ⟨p, 0, none⟩)) (fun b w hb hH => by exact BA rfl rfl hb) ?_
        refine Ae Ag rfl ?_
        refine AH (post := fun _ => [D9 x.W (AI ((d.wait.take k).foldl AI d.syn) (.app n (bb.take t))) rv, cell g10 103 #[.int .i64 0, .string (bs n), .string (bs ([])), .slice A (bb.take t).length c, .int .i64 0], cell p 59 #[.int .i64 d.room, rv, rv, .slice none 0 0, .bool fu, .int .i64 x.fz, .bool dn], As 103 5 encRO x.wv x.W]) rfl rfl (AD 2 (v := .slice none 0 0) #[.int .i64 d.room, rv, rv, .slice none 0 0, .bool fu, .int .i64 x.fz, .bool dn] AF.2 rfl rfl rfl rfl rfl rfl rfl rfl rfl) ?_; rintro ⟨⟩
        refine Aa (Ad ?_)
        refine Ae Ag rfl ?_
        refine Ab rfl (.pointer (some ⟨p, 0, none⟩)) (fun b w hb hH => by exact BA rfl rfl hb) ?_
        refine Ae Ag rfl ?_
        refine AH (post := fun _ => [D9 x.W (AI ((d.wait.take k).foldl AI d.syn) (.app n (bb.take t))) rv, cell g10 103 #[.int .i64 0, .string (bs n), .string (bs ([])), .slice A (bb.take t).length c, .int .i64 0], cell p 59 #[.int .i64 d.room, rv, rv, .slice none 0 0, .bool false, .int .i64 x.fz, .bool dn], As 103 5 encRO x.wv x.W]) rfl rfl (AD 2 (v := .bool false) #[.int .i64 d.room, rv, rv, .slice none 0 0, .bool false, .int .i64 x.fz, .bool dn] Bo.2 rfl rfl rfl rfl rfl rfl rfl rfl rfl) ?_; rintro ⟨⟩
        refine Aa (Ad ?_)
        refine Ae Ag rfl ?_
        refine Ab rfl (.pointer (some ⟨p, 0, none⟩)) (fun b w hb hH => by exact BA rfl rfl hb) ?_
        refine Ae Ag rfl ?_
        refine AH (post := fun _ => [D9 x.W (AI ((d.wait.take k).foldl AI d.syn) (.app n (bb.take t))) rv, cell g10 103 #[.int .i64 0, .string (bs n), .string (bs ([])), .slice A (bb.take t).length c, .int .i64 0], cell p 59 #[.int .i64 d.room, rv, rv, .slice none 0 0, .bool false, .int .i64 x.fz, .bool false], As 103 5 encRO x.wv x.W]) rfl rfl (AD 2 (v := .bool false) #[.int .i64 d.room, rv, rv, .slice none 0 0, .bool false, .int .i64 x.fz, .bool false] Bo.2 rfl rfl rfl rfl rfl rfl rfl rfl rfl) ?_; rintro ⟨⟩
        refine Aa ?_
        refine AX [2, 0] rfl (EN (d' := d') x (TP (b := bb) (by rw [← JI hwy d.syn]; exact x.few (k + 1))) (by rw [← h]; unfold Cn; rw [Oo hk hwy hb ht, if_neg (by omega)])) rfl ?_
        refine Ad ?_
        refine Ae Ag rfl ?_
        refine Aa (Ay ?_)
        exact Av (.tmp rfl) (fun w h => AB () rfl [0] rfl h Cl) rfl
    · skip
      refine Ad ?_
      refine Ae Ag rfl ?_
      refine Ab rfl (.pointer (some ⟨p, 0, none⟩)) (fun b w hb hH => by exact BA rfl rfl hb) ?_
      refine Ae Ag rfl ?_
      refine Ab rfl (x.wv) (fun b w hb hH => A6 rfl rfl (Bk AF rfl) (hH.row 1 rfl) hb) ?_
      refine Ab rfl (.int .i64 (x.W.length : Int)) (fun b w hb hH => Cv 2 Tryz.underlying57 rfl rfl rfl hH hb) ?_
      refine Ab rfl (.bool true) (fun b w hb hH => AV rfl rfl rfl (A7 (by omega)) hb) ?_
      refine Ae Ag rfl ?_
      refine Ab rfl (.pointer (some ⟨p, 0, none⟩)) (fun b w hb hH => by exact BA rfl rfl hb) ?_
      refine Ae Ag rfl ?_
      refine Ab rfl (x.wv) (fun b w hb hH => A6 rfl rfl (Bk AF rfl) (hH.row 1 rfl) hb) ?_
      refine Ae Ag rfl ?_
      refine Ab rfl (BP x.wv (k * 5)) (fun b w hb hH => Ej 2 BI CY rfl k h1 rfl rfl rfl hH hb) ?_
      refine Ab rfl (BP x.wv (k * 5 + 0)) (fun b w hb hH => IS CY (by decide) (hH.vec 2 rfl CY) (j := k) hy Cq rfl rfl hb) ?_
      refine Ab rfl (.int .i64 ((⟨.cut n s, A, c⟩ : OpV).o.kind)) (fun b w hb hH => Bm CY (by decide) (hH.vec 2 rfl CY) (j := k) hy AR (off := 0) rfl rfl rfl hb) ?_
      refine Ab rfl (.bool false) (fun b w hb hH => AV rfl rfl rfl (Ge (show (1 : Int) ≠ 0 by decide)) hb) ?_
      refine Ae Ag rfl ?_
      refine Aa (Ar rfl (Ax (AE (Ad ?_))))
      refine Ae Ag rfl ?_
      refine Ab rfl (.pointer (some ⟨p, 0, none⟩)) (fun b w hb hH => by exact BA rfl rfl hb) ?_
      refine Ae Ag rfl ?_
      refine AH (post := fun _ => [D9 x.W ((d.wait.take k).foldl AI d.syn) lv, cell p 59 #[.int .i64 d.room, lv, x.nv, x.wv, .bool fu, .int .i64 x.fz, .bool dn], As 103 5 encRO x.wv x.W]) rfl rfl (Ci 1 0 (v := lv) #[.int .i64 d.room, lv, x.nv, x.wv, .bool fu, .int .i64 x.fz, .bool dn] An.2 rfl (fun _ h => D9.c1 h) rfl rfl rfl rfl rfl rfl rfl) ?_; rintro ⟨⟩
      refine Aa (Ad ?_)
      refine Ae Ag rfl ?_
      refine Ab rfl (.pointer (some ⟨p, 0, none⟩)) (fun b w hb hH => by exact BA rfl rfl hb) ?_
      refine Ae Ag rfl ?_
      refine AH (post := fun _ => [D9 x.W ((d.wait.take k).foldl AI d.syn) lv, cell p 59 #[.int .i64 d.room, lv, lv, x.wv, .bool fu, .int .i64 x.fz, .bool dn], As 103 5 encRO x.wv x.W]) rfl rfl (Ci 1 0 (v := lv) #[.int .i64 d.room, lv, lv, x.wv, .bool fu, .int .i64 x.fz, .bool dn] An.2 rfl (fun _ h => D9.c1 h) rfl rfl rfl rfl rfl rfl rfl) ?_; rintro ⟨⟩
      refine Aa ?_
      refine Bv.keep (env' := [(0, .pointer (some ⟨p, 0, none⟩)), (6, .int .i64 0), (7, .int .i64 (k : Int))]) ⟨rfl, rfl, rfl, trivial⟩ ?_
      refine Ad ?_
      refine Ae Ag rfl ?_
      refine Ab rfl (.pointer (some ⟨p, 0, none⟩)) (fun b w hb hH => by exact BA rfl rfl hb) ?_
      refine Ae Ag rfl ?_
      refine AH (post := fun _ => [D9 x.W ((d.wait.take k).foldl AI d.syn) lv, cell p 59 #[.int .i64 d.room, lv, lv, .slice none 0 0, .bool fu, .int .i64 x.fz, .bool dn], As 103 5 encRO x.wv x.W]) rfl rfl (AD 1 (v := .slice none 0 0) #[.int .i64 d.room, lv, lv, .slice none 0 0, .bool fu, .int .i64 x.fz, .bool dn] AF.2 rfl rfl rfl rfl rfl rfl rfl rfl rfl) ?_; rintro ⟨⟩
      refine Aa (Ad ?_)
      refine Ae Ag rfl ?_
      refine Ab rfl (.pointer (some ⟨p, 0, none⟩)) (fun b w hb hH => by exact BA rfl rfl hb) ?_
      refine Ae Ag rfl ?_
      refine AH (post := fun _ => [D9 x.W ((d.wait.take k).foldl AI d.syn) lv, cell p 59 #[.int .i64 d.room, lv, lv, .slice none 0 0, .bool false, .int .i64 x.fz, .bool dn], As 103 5 encRO x.wv x.W]) rfl rfl (AD 1 (v := .bool false) #[.int .i64 d.room, lv, lv, .slice none 0 0, .bool false, .int .i64 x.fz, .bool dn] Bo.2 rfl rfl rfl rfl rfl rfl rfl rfl rfl) ?_; rintro ⟨⟩
      refine Aa (Ad ?_)
      refine Ae Ag rfl ?_
      refine Ab rfl (.pointer (some ⟨p, 0, none⟩)) (fun b w hb hH => by exact BA rfl rfl hb) ?_
      refine Ae Ag rfl ?_
      refine AH (post := fun _ => [D9 x.W ((d.wait.take k).foldl AI d.syn) lv, cell p 59 #[.int .i64 d.room, lv, lv, .slice none 0 0, .bool false, .int .i64 x.fz, .bool false], As 103 5 encRO x.wv x.W]) rfl rfl (AD 1 (v := .bool false) #[.int .i64 d.room, lv, lv, .slice none 0 0, .bool false, .int .i64 x.fz, .bool false] Bo.2 rfl rfl rfl rfl rfl rfl rfl rfl rfl) ?_; rintro ⟨⟩
      refine Aa ?_
      refine AX [1, 0] rfl (EN (d' := d') x (x.few k) (by rw [← h]; unfold Cn; rw [Ku hk hwy (fun m e q => by cases q)])) rfl ?_
      refine Ad ?_
      refine Ae Ag rfl ?_
      refine Aa (Ay ?_)
      exact Av (.tmp rfl) (fun w h => AB () rfl [0] rfl h Cl) rfl
    · skip
      refine Ad ?_
      refine Ae Ag rfl ?_
      refine Ab rfl (.pointer (some ⟨p, 0, none⟩)) (fun b w hb hH => by exact BA rfl rfl hb) ?_
      refine Ae Ag rfl ?_
      refine Ab rfl (x.wv) (fun b w hb hH => A6 rfl rfl (Bk AF rfl) (hH.row 1 rfl) hb) ?_
      refine Ab rfl (.int .i64 (x.W.length : Int)) (fun b w hb hH => Cv 2 Tryz.underlying57 rfl rfl rfl hH hb) ?_
      refine Ab rfl (.bool true) (fun b w hb hH => AV rfl rfl rfl (A7 (by omega)) hb) ?_
      refine Ae Ag rfl ?_
      refine Ab rfl (.pointer (some ⟨p, 0, none⟩)) (fun b w hb hH => by exact BA rfl rfl hb) ?_
      refine Ae Ag rfl ?_
      refine Ab rfl (x.wv) (fun b w hb hH => A6 rfl rfl (Bk AF rfl) (hH.row 1 rfl) hb) ?_
      refine Ae Ag rfl ?_
      refine Ab rfl (BP x.wv (k * 5)) (fun b w hb hH => Ej 2 BI CY rfl k h1 rfl rfl rfl hH hb) ?_
      refine Ab rfl (BP x.wv (k * 5 + 0)) (fun b w hb hH => IS CY (by decide) (hH.vec 2 rfl CY) (j := k) hy Cq rfl rfl hb) ?_
      refine Ab rfl (.int .i64 ((⟨.ren n m, A, c⟩ : OpV).o.kind)) (fun b w hb hH => Bm CY (by decide) (hH.vec 2 rfl CY) (j := k) hy AR (off := 0) rfl rfl rfl hb) ?_
      refine Ab rfl (.bool false) (fun b w hb hH => AV rfl rfl rfl (Ge (show (2 : Int) ≠ 0 by decide)) hb) ?_
      refine Ae Ag rfl ?_
      refine Aa (Ar rfl (Ax (AE (Ad ?_))))
      refine Ae Ag rfl ?_
      refine Ab rfl (.pointer (some ⟨p, 0, none⟩)) (fun b w hb hH => by exact BA rfl rfl hb) ?_
      refine Ae Ag rfl ?_
      refine AH (post := fun _ => [D9 x.W ((d.wait.take k).foldl AI d.syn) lv, cell p 59 #[.int .i64 d.room, lv, x.nv, x.wv, .bool fu, .int .i64 x.fz, .bool dn], As 103 5 encRO x.wv x.W]) rfl rfl (Ci 1 0 (v := lv) #[.int .i64 d.room, lv, x.nv, x.wv, .bool fu, .int .i64 x.fz, .bool dn] An.2 rfl (fun _ h => D9.c1 h) rfl rfl rfl rfl rfl rfl rfl) ?_; rintro ⟨⟩
      refine Aa (Ad ?_)
      refine Ae Ag rfl ?_
      refine Ab rfl (.pointer (some ⟨p, 0, none⟩)) (fun b w hb hH => by exact BA rfl rfl hb) ?_
      refine Ae Ag rfl ?_
      refine AH (post := fun _ => [D9 x.W ((d.wait.take k).foldl AI d.syn) lv, cell p 59 #[.int .i64 d.room, lv, lv, x.wv, .bool fu, .int .i64 x.fz, .bool dn], As 103 5 encRO x.wv x.W]) rfl rfl (Ci 1 0 (v := lv) #[.int .i64 d.room, lv, lv, x.wv, .bool fu, .int .i64 x.fz, .bool dn] An.2 rfl (fun _ h => D9.c1 h) rfl rfl rfl rfl rfl rfl rfl) ?_; rintro ⟨⟩
      refine Aa ?_
      refine Bv.keep (env' := [(0, .pointer (some ⟨p, 0, none⟩)), (6, .int .i64 0), (7, .int .i64 (k : Int))]) ⟨rfl, rfl, rfl, trivial⟩ ?_
      refine Ad ?_
      refine Ae Ag rfl ?_
      refine Ab rfl (.pointer (some ⟨p, 0, none⟩)) (fun b w hb hH => by exact BA rfl rfl hb) ?_
      refine Ae Ag rfl ?_
      refine AH (post := fun _ => [D9 x.W ((d.wait.take k).foldl AI d.syn) lv, cell p 59 #[.int .i64 d.room, lv, lv, .slice none 0 0, .bool fu, .int .i64 x.fz, .bool dn], As 103 5 encRO x.wv x.W]) rfl rfl (AD 1 (v := .slice none 0 0) #[.int .i64 d.room, lv, lv, .slice none 0 0, .bool fu, .int .i64 x.fz, .bool dn] AF.2 rfl rfl rfl rfl rfl rfl rfl rfl rfl) ?_; rintro ⟨⟩
      refine Aa (Ad ?_)
      refine Ae Ag rfl ?_
      refine Ab rfl (.pointer (some ⟨p, 0, none⟩)) (fun b w hb hH => by exact BA rfl rfl hb) ?_
      refine Ae Ag rfl ?_
      refine AH (post := fun _ => [D9 x.W ((d.wait.take k).foldl AI d.syn) lv, cell p 59 #[.int .i64 d.room, lv, lv, .slice none 0 0, .bool false, .int .i64 x.fz, .bool dn], As 103 5 encRO x.wv x.W]) rfl rfl (AD 1 (v := .bool false) #[.int .i64 d.room, lv, lv, .slice none 0 0, .bool false, .int .i64 x.fz, .bool dn] Bo.2 rfl rfl rfl rfl rfl rfl rfl rfl rfl) ?_; rintro ⟨⟩
      refine Aa (Ad ?_)
      refine Ae Ag rfl ?_
      refine Ab rfl (.pointer (some ⟨p, 0, none⟩)) (fun b w hb hH => by exact BA rfl rfl hb) ?_
      refine Ae Ag rfl ?_
      refine AH (post := fun _ => [D9 x.W ((d.wait.take k).foldl AI d.syn) lv, cell p 59 #[.int .i64 d.room, lv, lv, .slice none 0 0, .bool false, .int .i64 x.fz, .bool false], As 103 5 encRO x.wv x.W]) rfl rfl (AD 1 (v := .bool false) #[.int .i64 d.room, lv, lv, .slice none 0 0, .bool false, .int .i64 x.fz, .bool false] Bo.2 rfl rfl rfl rfl rfl rfl rfl rfl rfl) ?_; rintro ⟨⟩
      refine Aa ?_
      refine AX [1, 0] rfl (EN (d' := d') x (x.few k) (by rw [← h]; unfold Cn; rw [Ku hk hwy (fun m e q => by cases q)])) rfl ?_
      refine Ad ?_
      refine Ae Ag rfl ?_
      refine Aa (Ay ?_)
      exact Av (.tmp rfl) (fun w h => AB () rfl [0] rfl h Cl) rfl
    · skip
      refine Ad ?_
      refine Ae Ag rfl ?_
      refine Ab rfl (.pointer (some ⟨p, 0, none⟩)) (fun b w hb hH => by exact BA rfl rfl hb) ?_
      refine Ae Ag rfl ?_
      refine Ab rfl (x.wv) (fun b w hb hH => A6 rfl rfl (Bk AF rfl) (hH.row 1 rfl) hb) ?_
      refine Ab rfl (.int .i64 (x.W.length : Int)) (fun b w hb hH => Cv 2 Tryz.underlying57 rfl rfl rfl hH hb) ?_
      refine Ab rfl (.bool true) (fun b w hb hH => AV rfl rfl rfl (A7 (by omega)) hb) ?_
      refine Ae Ag rfl ?_
      refine Ab rfl (.pointer (some ⟨p, 0, none⟩)) (fun b w hb hH => by exact BA rfl rfl hb) ?_
      refine Ae Ag rfl ?_
      refine Ab rfl (x.wv) (fun b w hb hH => A6 rfl rfl (Bk AF rfl) (hH.row 1 rfl) hb) ?_
      refine Ae Ag rfl ?_
      refine Ab rfl (BP x.wv (k * 5)) (fun b w hb hH => Ej 2 BI CY rfl k h1 rfl rfl rfl hH hb) ?_
      refine Ab rfl (BP x.wv (k * 5 + 0)) (fun b w hb hH => IS CY (by decide) (hH.vec 2 rfl CY) (j := k) hy Cq rfl rfl hb) ?_
      refine Ab rfl (.int .i64 ((⟨.del n, A, c⟩ : OpV).o.kind)) (fun b w hb hH => Bm CY (by decide) (hH.vec 2 rfl CY) (j := k) hy AR (off := 0) rfl rfl rfl hb) ?_
      refine Ab rfl (.bool false) (fun b w hb hH => AV rfl rfl rfl (Ge (show (3 : Int) ≠ 0 by decide)) hb) ?_
      refine Ae Ag rfl ?_
      refine Aa (Ar rfl (Ax (AE (Ad ?_))))
      refine Ae Ag rfl ?_
      refine Ab rfl (.pointer (some ⟨p, 0, none⟩)) (fun b w hb hH => by exact BA rfl rfl hb) ?_
      refine Ae Ag rfl ?_
      refine AH (post := fun _ => [D9 x.W ((d.wait.take k).foldl AI d.syn) lv, cell p 59 #[.int .i64 d.room, lv, x.nv, x.wv, .bool fu, .int .i64 x.fz, .bool dn], As 103 5 encRO x.wv x.W]) rfl rfl (Ci 1 0 (v := lv) #[.int .i64 d.room, lv, x.nv, x.wv, .bool fu, .int .i64 x.fz, .bool dn] An.2 rfl (fun _ h => D9.c1 h) rfl rfl rfl rfl rfl rfl rfl) ?_; rintro ⟨⟩
      refine Aa (Ad ?_)
      refine Ae Ag rfl ?_
      refine Ab rfl (.pointer (some ⟨p, 0, none⟩)) (fun b w hb hH => by exact BA rfl rfl hb) ?_
      refine Ae Ag rfl ?_
      refine AH (post := fun _ => [D9 x.W ((d.wait.take k).foldl AI d.syn) lv, cell p 59 #[.int .i64 d.room, lv, lv, x.wv, .bool fu, .int .i64 x.fz, .bool dn], As 103 5 encRO x.wv x.W]) rfl rfl (Ci 1 0 (v := lv) #[.int .i64 d.room, lv, lv, x.wv, .bool fu, .int .i64 x.fz, .bool dn] An.2 rfl (fun _ h => D9.c1 h) rfl rfl rfl rfl rfl rfl rfl) ?_; rintro ⟨⟩
      refine Aa ?_
      refine Bv.keep (env' := [(0, .pointer (some ⟨p, 0, none⟩)), (6, .int .i64 0), (7, .int .i64 (k : Int))]) ⟨rfl, rfl, rfl, trivial⟩ ?_
      refine Ad ?_
      refine Ae Ag rfl ?_
      refine Ab rfl (.pointer (some ⟨p, 0, none⟩)) (fun b w hb hH => by exact BA rfl rfl hb) ?_
      refine Ae Ag rfl ?_
      refine AH (post := fun _ => [D9 x.W ((d.wait.take k).foldl AI d.syn) lv, cell p 59 #[.int .i64 d.room, lv, lv, .slice none 0 0, .bool fu, .int .i64 x.fz, .bool dn], As 103 5 encRO x.wv x.W]) rfl rfl (AD 1 (v := .slice none 0 0) #[.int .i64 d.room, lv, lv, .slice none 0 0, .bool fu, .int .i64 x.fz, .bool dn] AF.2 rfl rfl rfl rfl rfl rfl rfl rfl rfl) ?_; rintro ⟨⟩
      refine Aa (Ad ?_)
      refine Ae Ag rfl ?_
      refine Ab rfl (.pointer (some ⟨p, 0, none⟩)) (fun b w hb hH => by exact BA rfl rfl hb) ?_
      refine Ae Ag rfl ?_
      refine AH (post := fun _ => [D9 x.W ((d.wait.take k).foldl AI d.syn) lv, cell p 59 #[.int .i64 d.room, lv, lv, .slice none 0 0, .bool false, .int .i64 x.fz, .bool dn], As 103 5 encRO x.wv x.W]) rfl rfl (AD 1 (v := .bool false) #[.int .i64 d.room, lv, lv, .slice none 0 0, .bool false, .int .i64 x.fz, .bool dn] Bo.2 rfl rfl rfl rfl rfl rfl rfl rfl rfl) ?_; rintro ⟨⟩
      refine Aa (Ad ?_)
      refine Ae Ag rfl ?_
      refine Ab rfl (.pointer (some ⟨p, 0, none⟩)) (fun b w hb hH => by exact BA rfl rfl hb) ?_
      refine Ae Ag rfl ?_
      refine AH (post := fun _ => [D9 x.W ((d.wait.take k).foldl AI d.syn) lv, cell p 59 #[.int .i64 d.room, lv, lv, .slice none 0 0, .bool false, .int .i64 x.fz, .bool false], As 103 5 encRO x.wv x.W]) rfl rfl (AD 1 (v := .bool false) #[.int .i64 d.room, lv, lv, .slice none 0 0, .bool false, .int .i64 x.fz, .bool false] Bo.2 rfl rfl rfl rfl rfl rfl rfl rfl rfl) ?_; rintro ⟨⟩
      refine Aa ?_
      refine AX [1, 0] rfl (EN (d' := d') x (x.few k) (by rw [← h]; unfold Cn; rw [Ku hk hwy (fun m e q => by cases q)])) rfl ?_
      refine Ad ?_
      refine Ae Ag rfl ?_
      refine Aa (Ay ?_)
      exact Av (.tmp rfl) (fun w h => AB () rfl [0] rfl h Cl) rfl
    · skip
      refine Ad ?_
      refine Ae Ag rfl ?_
      refine Ab rfl (.pointer (some ⟨p, 0, none⟩)) (fun b w hb hH => by exact BA rfl rfl hb) ?_
      refine Ae Ag rfl ?_
      refine Ab rfl (x.wv) (fun b w hb hH => A6 rfl rfl (Bk AF rfl) (hH.row 1 rfl) hb) ?_
      refine Ab rfl (.int .i64 (x.W.length : Int)) (fun b w hb hH => Cv 2 Tryz.underlying57 rfl rfl rfl hH hb) ?_
      refine Ab rfl (.bool false) (fun b w hb hH => AV rfl rfl rfl (Bn (by omega)) hb) ?_
      refine Ae Ag rfl ?_
      refine Aa (Ar rfl (Ax (AE (Ad ?_))))
      refine Ae Ag rfl ?_
      refine Ab rfl (.pointer (some ⟨p, 0, none⟩)) (fun b w hb hH => by exact BA rfl rfl hb) ?_
      refine Ae Ag rfl ?_
      refine AH (post := fun _ => [D9 x.W ((d.wait.take k).foldl AI d.syn) lv, cell p 59 #[.int .i64 d.room, lv, x.nv, x.wv, .bool fu, .int .i64 x.fz, .bool dn], As 103 5 encRO x.wv x.W]) rfl rfl (Ci 1 0 (v := lv) #[.int .i64 d.room, lv, x.nv, x.wv, .bool fu, .int .i64 x.fz, .bool dn] An.2 rfl (fun _ h => D9.c1 h) rfl rfl rfl rfl rfl rfl rfl) ?_; rintro ⟨⟩
      refine Aa (Ad ?_)
      refine Ae Ag rfl ?_
      refine Ab rfl (.pointer (some ⟨p, 0, none⟩)) (fun b w hb hH => by exact BA rfl rfl hb) ?_
      refine Ae Ag rfl ?_
      refine AH (post := fun _ => [D9 x.W ((d.wait.take k).foldl AI d.syn) lv, cell p 59 #[.int .i64 d.room, lv, lv, x.wv, .bool fu, .int .i64 x.fz, .bool dn], As 103 5 encRO x.wv x.W]) rfl rfl (Ci 1 0 (v := lv) #[.int .i64 d.room, lv, lv, x.wv, .bool fu, .int .i64 x.fz, .bool dn] An.2 rfl (fun _ h => D9.c1 h) rfl rfl rfl rfl rfl rfl rfl) ?_; rintro ⟨⟩
      refine Aa ?_
      refine Bv.keep (env' := [(0, .pointer (some ⟨p, 0, none⟩)), (6, .int .i64 0), (7, .int .i64 (k : Int))]) ⟨rfl, rfl, rfl, trivial⟩ ?_
      refine Ad ?_
      refine Ae Ag rfl ?_
      refine Ab rfl (.pointer (some ⟨p, 0, none⟩)) (fun b w hb hH => by exact BA rfl rfl hb) ?_
      refine Ae Ag rfl ?_
      refine AH (post := fun _ => [D9 x.W ((d.wait.take k).foldl AI d.syn) lv, cell p 59 #[.int .i64 d.room, lv, lv, .slice none 0 0, .bool fu, .int .i64 x.fz, .bool dn], As 103 5 encRO x.wv x.W]) rfl rfl (AD 1 (v := .slice none 0 0) #[.int .i64 d.room, lv, lv, .slice none 0 0, .bool fu, .int .i64 x.fz, .bool dn] AF.2 rfl rfl rfl rfl rfl rfl rfl rfl rfl) ?_; rintro ⟨⟩
      refine Aa (Ad ?_)
      refine Ae Ag rfl ?_
      refine Ab rfl (.pointer (some ⟨p, 0, none⟩)) (fun b w hb hH => by exact BA rfl rfl hb) ?_
      refine Ae Ag rfl ?_
      refine AH (post := fun _ => [D9 x.W ((d.wait.take k).foldl AI d.syn) lv, cell p 59 #[.int .i64 d.room, lv, lv, .slice none 0 0, .bool false, .int .i64 x.fz, .bool dn], As 103 5 encRO x.wv x.W]) rfl rfl (AD 1 (v := .bool false) #[.int .i64 d.room, lv, lv, .slice none 0 0, .bool false, .int .i64 x.fz, .bool dn] Bo.2 rfl rfl rfl rfl rfl rfl rfl rfl rfl) ?_; rintro ⟨⟩
      refine Aa (Ad ?_)
      refine Ae Ag rfl ?_
      refine Ab rfl (.pointer (some ⟨p, 0, none⟩)) (fun b w hb hH => by exact BA rfl rfl hb) ?_
      refine Ae Ag rfl ?_
      refine AH (post := fun _ => [D9 x.W ((d.wait.take k).foldl AI d.syn) lv, cell p 59 #[.int .i64 d.room, lv, lv, .slice none 0 0, .bool false, .int .i64 x.fz, .bool false], As 103 5 encRO x.wv x.W]) rfl rfl (AD 1 (v := .bool false) #[.int .i64 d.room, lv, lv, .slice none 0 0, .bool false, .int .i64 x.fz, .bool false] Bo.2 rfl rfl rfl rfl rfl rfl rfl rfl rfl) ?_; rintro ⟨⟩
      refine Aa ?_
      refine AX [1, 0] rfl (EN (d' := d') x (x.few k) (by rw [← h]; unfold Cn; rw [TR hk (by omega)])) rfl ?_
      refine Ad ?_
      refine Ae Ag rfl ?_
      refine Aa (Ay ?_)
      exact Av (.tmp rfl) (fun w h => AB () rfl [0] rfl h Cl) rfl
    · skip
      have hb0 : bb.length = 0 := by rw [hb]; rfl
      refine Ad ?_
      refine Ae Ag rfl ?_
      refine Ab rfl (.pointer (some ⟨p, 0, none⟩)) (fun b w hb hH => by exact BA rfl rfl hb) ?_
      refine Ae Ag rfl ?_
      refine Ab rfl (x.wv) (fun b w hb hH => A6 rfl rfl (Bk AF rfl) (hH.row 1 rfl) hb) ?_
      refine Ab rfl (.int .i64 (x.W.length : Int)) (fun b w hb hH => Cv 2 Tryz.underlying57 rfl rfl rfl hH hb) ?_
      refine Ab rfl (.bool true) (fun b w hb hH => AV rfl rfl rfl (A7 (by omega)) hb) ?_
      refine Ae Ag rfl ?_
      refine Ab rfl (.pointer (some ⟨p, 0, none⟩)) (fun b w hb hH => by exact BA rfl rfl hb) ?_
      refine Ae Ag rfl ?_
      refine Ab rfl (x.wv) (fun b w hb hH => A6 rfl rfl (Bk AF rfl) (hH.row 1 rfl) hb) ?_
      refine Ae Ag rfl ?_
      refine Ab rfl (BP x.wv (k * 5)) (fun b w hb hH => Ej 2 BI CY rfl k h1 rfl rfl rfl hH hb) ?_
      refine Ab rfl (BP x.wv (k * 5 + 0)) (fun b w hb hH => IS CY (by decide) (hH.vec 2 rfl CY) (j := k) hy Cq rfl rfl hb) ?_
      refine Ab rfl (.int .i64 ((⟨.app n bb, A, c⟩ : OpV).o.kind)) (fun b w hb hH => Bm CY (by decide) (hH.vec 2 rfl CY) (j := k) hy AR (off := 0) rfl rfl rfl hb) ?_
      refine Ab rfl (.bool true) (fun b w hb hH => AV rfl rfl rfl (H7 rfl) hb) ?_
      refine Ae Ag rfl ?_
      refine Ab rfl (.pointer (some ⟨p, 0, none⟩)) (fun b w hb hH => by exact BA rfl rfl hb) ?_
      refine Ae Ag rfl ?_
      refine Ab rfl (x.wv) (fun b w hb hH => A6 rfl rfl (Bk AF rfl) (hH.row 1 rfl) hb) ?_
      refine Ae Ag rfl ?_
      refine Ab rfl (BP x.wv (k * 5)) (fun b w hb hH => Ej 2 BI CY rfl k h1 rfl rfl rfl hH hb) ?_
      refine Ab rfl (BP x.wv (k * 5 + 3)) (fun b w hb hH => IS CY (by decide) (hH.vec 2 rfl CY) (j := k) hy D8 rfl rfl hb) ?_
      refine Ab rfl (.slice A bb.length c) (fun b w hb hH => Bm CY (by decide) (hH.vec 2 rfl CY) (j := k) hy C3 (off := 3) rfl rfl rfl hb) ?_
      refine Ab rfl (.int .i64 (bb.length : Int)) (fun b w hb hH => H6 AJ rfl rfl hH hb) ?_
      refine Ab rfl (.bool false) (fun b w hb hH => AV rfl rfl rfl (BE (by omega)) hb) ?_
      refine Ae Ag rfl ?_
      refine Aa (Ar rfl (Ax (AE (Ad ?_))))
      refine Ae Ag rfl ?_
      refine Ab rfl (.pointer (some ⟨p, 0, none⟩)) (fun b w hb hH => by exact BA rfl rfl hb) ?_
      refine Ae Ag rfl ?_
      refine AH (post := fun _ => [D9 x.W ((d.wait.take k).foldl AI d.syn) lv, cell p 59 #[.int .i64 d.room, lv, x.nv, x.wv, .bool fu, .int .i64 x.fz, .bool dn], As 103 5 encRO x.wv x.W]) rfl rfl (Ci 1 0 (v := lv) #[.int .i64 d.room, lv, x.nv, x.wv, .bool fu, .int .i64 x.fz, .bool dn] An.2 rfl (fun _ h => D9.c1 h) rfl rfl rfl rfl rfl rfl rfl) ?_; rintro ⟨⟩
      refine Aa (Ad ?_)
      refine Ae Ag rfl ?_
      refine Ab rfl (.pointer (some ⟨p, 0, none⟩)) (fun b w hb hH => by exact BA rfl rfl hb) ?_
      refine Ae Ag rfl ?_
      refine AH (post := fun _ => [D9 x.W ((d.wait.take k).foldl AI d.syn) lv, cell p 59 #[.int .i64 d.room, lv, lv, x.wv, .bool fu, .int .i64 x.fz, .bool dn], As 103 5 encRO x.wv x.W]) rfl rfl (Ci 1 0 (v := lv) #[.int .i64 d.room, lv, lv, x.wv, .bool fu, .int .i64 x.fz, .bool dn] An.2 rfl (fun _ h => D9.c1 h) rfl rfl rfl rfl rfl rfl rfl) ?_; rintro ⟨⟩
      refine Aa ?_
      refine Bv.keep (env' := [(0, .pointer (some ⟨p, 0, none⟩)), (6, .int .i64 0), (7, .int .i64 (k : Int))]) ⟨rfl, rfl, rfl, trivial⟩ ?_
      refine Ad ?_
      refine Ae Ag rfl ?_
      refine Ab rfl (.pointer (some ⟨p, 0, none⟩)) (fun b w hb hH => by exact BA rfl rfl hb) ?_
      refine Ae Ag rfl ?_
      refine AH (post := fun _ => [D9 x.W ((d.wait.take k).foldl AI d.syn) lv, cell p 59 #[.int .i64 d.room, lv, lv, .slice none 0 0, .bool fu, .int .i64 x.fz, .bool dn], As 103 5 encRO x.wv x.W]) rfl rfl (AD 1 (v := .slice none 0 0) #[.int .i64 d.room, lv, lv, .slice none 0 0, .bool fu, .int .i64 x.fz, .bool dn] AF.2 rfl rfl rfl rfl rfl rfl rfl rfl rfl) ?_; rintro ⟨⟩
      refine Aa (Ad ?_)
      refine Ae Ag rfl ?_
      refine Ab rfl (.pointer (some ⟨p, 0, none⟩)) (fun b w hb hH => by exact BA rfl rfl hb) ?_
      refine Ae Ag rfl ?_
      refine AH (post := fun _ => [D9 x.W ((d.wait.take k).foldl AI d.syn) lv, cell p 59 #[.int .i64 d.room, lv, lv, .slice none 0 0, .bool false, .int .i64 x.fz, .bool dn], As 103 5 encRO x.wv x.W]) rfl rfl (AD 1 (v := .bool false) #[.int .i64 d.room, lv, lv, .slice none 0 0, .bool false, .int .i64 x.fz, .bool dn] Bo.2 rfl rfl rfl rfl rfl rfl rfl rfl rfl) ?_; rintro ⟨⟩
      refine Aa (Ad ?_)
      refine Ae Ag rfl ?_
      refine Ab rfl (.pointer (some ⟨p, 0, none⟩)) (fun b w hb hH => by exact BA rfl rfl hb) ?_
      refine Ae Ag rfl ?_
      refine AH (post := fun _ => [D9 x.W ((d.wait.take k).foldl AI d.syn) lv, cell p 59 #[.int .i64 d.room, lv, lv, .slice none 0 0, .bool false, .int .i64 x.fz, .bool false], As 103 5 encRO x.wv x.W]) rfl rfl (AD 1 (v := .bool false) #[.int .i64 d.room, lv, lv, .slice none 0 0, .bool false, .int .i64 x.fz, .bool false] Bo.2 rfl rfl rfl rfl rfl rfl rfl rfl rfl) ?_; rintro ⟨⟩
      refine Aa ?_
      refine AX [1, 0] rfl (EN (d' := d') x (x.few k) (by rw [← h]; unfold Cn; rw [Ku hk hwy (fun m e q => by cases q; exact hb)])) rfl ?_
      refine Ad ?_
      refine Ae Ag rfl ?_
      refine Aa (Ay ?_)
      exact Av (.tmp rfl) (fun w h => AB () rfl [0] rfl h Cl) rfl
end Go.Proofs.YtnknboibmifacaaGreat.Sep
