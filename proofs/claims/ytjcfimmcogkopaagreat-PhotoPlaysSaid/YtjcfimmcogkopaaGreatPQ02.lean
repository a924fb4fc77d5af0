/-
  RdkH
-/
import Derived.Test.YtjcfimmcogkopaaGreatPQ01
set_option linter.unusedSimpArgs false
set_option linter.unusedVariables false
set_option maxRecDepth 100000
namespace Go.Proofs.YtjcfimmcogkopaaGreat.Sep
open Go.RowKit
open Go.Proofs.YtjcfimmcogkopaaGreat.Mem (Bh Cs Chg AA)
structure CrV (W : List OpV) (f : FS) (lv : Value) where
  F : Ass
  Y : Ass
  l : List RFl
  hs : ED l
  hp : (F7 l).Perm f
  rf : Ft F lv l
  ry : ∀ y : RFl, y ∈ l → CO Y y.v y.d
  rw_ : ∀ q : OpV, q ∈ W → CO Y q.v q.o.data
  c1 : lv.cells = #[lv] ∧ lv.oneCell' = true
def Ea (W : List OpV) (f : FS) (lv : Value) : Ass := fun rs => ∃ z : CrV W f lv, Al [z.F, z.Y] rs
theorem Ea.open_ {W : List OpV} {f : FS} {lv : Value} : ∀ rs, Ea W f lv rs → ∃ z : CrV W f lv, Al [z.F, z.Y] rs := fun _ h => h
theorem Ea.c1 {W : List OpV} {f : FS} {lv : Value} {rs : List RowT} (h : Ea W f lv rs) : lv.cells = #[lv] ∧ lv.oneCell' = true := by
 obtain ⟨z, _⟩ := h
 exact z.c1
theorem X9 {d : DiskD} (x : RDk d) {f : FS} (hf : f = d.syn) : ∀ rs, Al [x.F, x.Y] rs → Ea x.W f x.sv rs := fun _ h => ⟨⟨x.F, x.Y, x.sl, x.hs, by rw [hf]; exact x.ps, x.rs, x.ys, x.yw, x.sc⟩, h⟩
theorem O3 {W : List OpV} {f : FS} {lv rv : Value} (z : CrV W f lv) {o : OpD} {g : FS} (hg : AG f o = g) {q : RDo} (hq : Ex z.l o q ∧ q.rv = rv) : ∀ rs, Al [z.F, Ar 54 2 encRF rv q.rl, z.Y, Ar 5 1 encB q.bv q.bd] rs → Ea W g rv rs := fun rs h => by
  obtain ⟨r1, _, rfl, h1, r2, _, rfl, h2, r3, _, rfl, h3, r4, _, rfl, h4, rfl⟩ := h
  obtain ⟨hd, hrv⟩ := hq
  subst hrv
  refine ⟨⟨FQ [z.F, Ar 54 2 encRF q.rv q.rl], FQ [z.Y, Ar 5 1 encB q.bv q.bd], q.rl, hd.1, by rw [← hg]; exact hd.2.1 _ z.hp, UM C1, fun y hy => ?_, fun y hy => Iu (z.rw_ y hy), Ar.c1 h2⟩, r1 ++ r2, r3 ++ r4, by simp, ⟨r1, r2, rfl, h1, r2, [], by simp, h2, rfl⟩, r3 ++ r4, [], by simp, ⟨r3, r4, rfl, h3, r4, [], by simp, h4, rfl⟩, rfl⟩
  rcases hd.2.2 y hy with h | ⟨h5, h6⟩
  · exact Iu (z.ry y h)
  · rw [h5, h6]; exact Rz C9
theorem UW {f : FS} {n b : List UInt8} {t : Nat} (h : (AG f (.app n b)).length ≤ 64) : (AG f (.app n (b.take t))).length ≤ 64 := by
 have h1 : (BF f n ((AS f n).getD [] ++ b)).length ≤ 64 := h
 show (BF f n _).length ≤ 64
 rw [KG] at h1 ⊢
 exact h1
def RDk.crash {d : DiskD} (x : RDk d) {W : List OpV} {f : FS} {lv : Value} (z : CrV W f lv) (hf : f.length ≤ 64) : RDk ⟨d.room, f, [], none, false⟩ where
  F := z.F
  Y := z.Y
  sv := lv
  nv := lv
  wv := .slice none 0 0
  sl := z.l
  nl := z.l
  W := []
  fz := x.fz
  hs := z.hs
  hn := z.hs
  ps := z.hp
  pn := z.hp
  hW := rfl
  rs := z.rf
  rn := z.rf
  ys := z.ry
  yn := z.ry
  yw := fun q h => nomatch h
  yc := fun q h => nomatch h
  hok := trivial
  few := fun k => by rw [List.take_nil]; exact hf
  hz := fun k h => nomatch h
  zr := x.zr
  nc := z.c1
  sc := z.c1
theorem EZ {p : Nat} {d : DiskD} (x : RDk d) {W : List OpV} {f : FS} {lv : Value} (hf : f.length ≤ 64) {d' : DiskD} (hd : d' = ⟨d.room, f, [], none, false⟩) : ∀ rs, Al [cell p 61 #[.int .i64 d.room, lv, lv, .slice none 0 0, .bool false, .int .i64 x.fz, .bool false], Ea W f lv] rs → An p d' rs := fun rs h => by
 subst hd
 obtain ⟨r1, _, rfl, h1, r2, _, rfl, ⟨z, r3, _, rfl, h3, r4, _, rfl, h4, rfl⟩, rfl⟩ := h
 refine ⟨x.crash z hf, r1, _, rfl, h1, ?_⟩
 rw [List.append_nil]
 exact ⟨r3, _, rfl, h3, r4, _, rfl, h4, [], [], rfl, Gs, rfl⟩
theorem UX {X : Ass} {A : Option Addr} {c k : Nat} {l : List UInt8} (h : CO X (.slice A l.length c) l) (hk : k ≤ l.length) : CO X (.slice A (l.take k).length c) (l.take k) := fun rs w h1 h2 => (h rs w h1 h2).takes hk
theorem Nw {d : DiskD} (x : RDk d) {i : Nat} {y : OpV} (h : x.W[i]? = some y) : d.wait[i]? = some y.o := by
 rw [← x.hW]
 unfold DS
 rw [List.getElem?_map, h]; rfl
theorem O4 {d : DiskD} (x : RDk d) (hf : d.fit) {i : Nat} {y : OpV} (h : x.W[i]? = some y) {lv : Value} (z : CrV x.W ((d.wait.take i).foldl AG d.syn) lv) : L2 (F7 z.l) y.o ∧ z.l.length ≤ 64 ∧ (∀ q : RFl, q ∈ z.l → CO z.Y q.v q.d ∧ q.d.length ≤ 1099511627776) ∧ y.o.data.length ≤ 1099511627776 ∧ y ∈ x.W := by
  have hw := Nw x h
  have h1 := Kz x.hok hw
  have hnd : (AO ((d.wait.take i).foldl AG d.syn)).Nodup := Ed _ x.snd
  have h2 := Es x.snd x.hok hw hf.1
  have h3 := z.hp.length_eq
  unfold F7 at h3
  rw [List.length_map] at h3
  have h4 := x.few i
  refine ⟨Lq z.hp.symm hnd h1, by omega, fun q hq => ⟨z.ry q hq, ?_⟩, ?_, List.mem_of_getElem? h⟩
  · have h5 := Ry hq
    rw [Dl z.hp] at h5
    omega
  · have h6 : y.o.data.length = y.o.size := by cases y.o <;> rfl
    omega
theorem UY {d : DiskD} {keep torn : Int} {k : Nat} (hk : Cw d keep = k) (h : d.wait.length ≤ k) : CJ d keep torn = (d.wait.take k).foldl AG d.syn := by
 unfold CJ
 rw [hk, List.getElem?_eq_none h]
theorem KH {d : DiskD} {keep torn : Int} {k : Nat} {o : OpD} (hk : Cw d keep = k) (h : d.wait[k]? = some o) (ho : ∀ n b, o = .app n b → b = []) : CJ d keep torn = (d.wait.take k).foldl AG d.syn := by
  unfold CJ
  rw [hk, h]
  cases o with
  | app n b => simp only; rw [if_pos (.inr (ho n b rfl))]
  | _ => rfl
theorem O5 {d : DiskD} {keep torn : Int} {k t : Nat} {n b : List UInt8} (hk : Cw d keep = k) (h : d.wait[k]? = some (.app n b)) (hb : b ≠ []) (ht : torn % (b.length : Int) = (t : Int)) : CJ d keep torn = if t = 0 then (d.wait.take k).foldl AG d.syn else AG ((d.wait.take k).foldl AG d.syn) (.app n (b.take t)) := by
  unfold CJ
  rw [hk, h]
  simp only
  rw [ht, Int.toNat_natCast]
  by_cases h0 : t = 0
  · rw [if_pos (.inl h0), if_pos h0]
  · rw [if_neg (by simp [h0, hb]), if_neg h0]
theorem Wu (w : World) (a m : Int) (ha : -9223372036854775808 ≤ a ∧ a ≤ 9223372036854775807) (hm : 1 ≤ m ∧ m ≤ 9223372036854775807) {r : Int} (hr : a % m = r) : Calls Tryz.prog 71 #[.int .i64 a, .int .i64 m] w fun e w' => e = .returned (.int .i64 r) ∧ Below w.heap.size w w' := by
  have hlt := Int.emod_lt_of_pos a (show 0 < m by omega)
  have hge := Int.emod_nonneg a (show m ≠ 0 by omega)
  have ht : (0 ≤ a.tmod m ∧ a.tmod m = r) ∨ (a.tmod m < 0 ∧ a.tmod m + m = r) := by
    rw [Int.tmod_eq_emod, ← hr]
    split
    · left; omega
    · rename_i h
      right
      have hne : a % m ≠ 0 := fun e => h (.inr (Int.dvd_of_emod_eq_zero e))
      omega
  rw [hr] at hlt hge
  obtain ⟨t, htm⟩ : ∃ t, a.tmod m = t := ⟨_, rfl⟩
  rw [htm] at ht
  refine Fj (args := [.int .i64 a, .int .i64 m]) 14 Tryz.func71 rfl rfl rfl (Ad (Ae Ah rfl (Ab (Ad (Ae Ah rfl (Aa rfl (.int .i64 t) (fun b w hb hH => DR rfl rfl rfl (by omega) htm hb) (Ae Ah rfl (Ab (Av ?_)))))))))
  rcases ht with ⟨h1, h2⟩ | ⟨h1, h2⟩
  subst h2
  refine Ad (Ae Ah rfl (Aa rfl (.bool false) (fun b w hb hH => AZ rfl rfl rfl (BS (by omega)) hb) (Ab (As rfl (AB (AL (Ad (Ae Ah rfl (Ab (Ax ?_))))))))))
  exact Aw (.tmp rfl) (fun w h => ⟨rfl, AA h.up⟩) rfl
  refine Ad (Ae Ah rfl (Aa rfl (.bool true) (fun b w hb hH => AZ rfl rfl rfl (Bw (by omega)) hb) (Ab (AI rfl (Bp (Ae Ah rfl (Aa rfl (.int .i64 r) (fun b w hb hH => AQ rfl rfl rfl rfl (by rw [IntWalk.i64_in _ (by omega)]; omega) hb) (Ae Ah rfl (AV (AL (Ad (Ae Ah rfl (Ab (Ax ?_))))))))))))))
  exact Aw (.tmp rfl) (fun w h => ⟨rfl, AA h.up⟩) rfl
theorem Xx {p : Nat} {d d' : DiskD} {keep torn : Int} {k : Nat} (hf : d.fit) (hkp : -9223372036854775808 ≤ keep ∧ keep ≤ 9223372036854775807) (htn : -9223372036854775808 ≤ torn ∧ torn ≤ 9223372036854775807) (hk : Cw d keep = k) (h : Cg d keep torn = d') : AX Tryz.prog 28 #[.pointer (some ⟨p, 0, none⟩), .int .i64 keep, .int .i64 torn] [An p d] (fun (_ : Unit) => .int .i64 (k : Int)) (fun (_ : Unit) => [An p d']) := by
  refine Bg (args := [.pointer (some ⟨p, 0, none⟩), .int .i64 keep, .int .i64 torn]) 108 Tryz.func28 rfl rfl rfl ?_; intro w rs
  obtain ⟨fu, hfu⟩ : ∃ fu, d.fuse.isSome = fu := ⟨_, rfl⟩
  obtain ⟨dn, hdn⟩ : ∃ dn, d.down = dn := ⟨_, rfl⟩
  refine Be 0 rfl (CS hfu hdn) (fun _ => rfl) ?_; rintro x
  have hwl := x.wlen
  have hw4 := hf.2
  have hkd := Hd d keep
  rw [hk] at hkd
  have hkm : keep % ((x.W.length : Int) + 1) = (k : Int) := by rw [hwl, ← hk]; unfold Cw; exact (Int.toNat_of_nonneg (Int.emod_nonneg _ (by omega))).symm
  refine Ad (Ae Ah rfl (Ab (Ad (Ae Ah rfl (Aa rfl (.pointer (some ⟨p, 0, none⟩)) (fun b w hb hH => by exact BD rfl rfl hb) (Ae Ah rfl (Aa rfl (x.wv) (fun b w hb hH => Ba rfl rfl (Bm AM rfl) (hH.row 0 rfl) hb) (Aa rfl (.int .i64 (x.W.length : Int)) (fun b w hb hH => Ds 3 Tryz.underlying59 rfl rfl rfl hH hb) (Aa rfl (.int .i64 ((x.W.length : Int) + 1)) (fun b w hb hH => AQ rfl rfl rfl rfl (IntWalk.i64_in _ (by omega)) hb) (Aj (post := fun _ => [cell p 61 #[.int .i64 d.room, x.sv, x.nv, x.wv, .bool fu, .int .i64 x.fz, .bool dn], x.F, x.Y, Ar 107 5 encRO x.wv x.W]) rfl (AU (Ai Tryz.func71 (by kernel_rfl) rfl) (fun w hH => Wu w keep ((x.W.length : Int) + 1) hkp (by omega) hkm) rfl rfl rfl) ?_)))))))))); rintro ⟨⟩
  refine Ae Ah rfl (Ab (Ad (Ae Ah rfl (Aa rfl (.pointer (some ⟨p, 0, none⟩)) (fun b w hb hH => by exact BD rfl rfl hb) (Ae Ah rfl (Aa rfl (x.sv) (fun b w hb hH => Ba rfl rfl (Bm Ap rfl) (hH.row 0 rfl) hb) (Ae Ah rfl (Ab (Av (Ad (Ae Ah rfl (Ab (Bo ?_)))))))))))))
  refine Bi [1, 2] rfl (X9 x rfl) rfl (Dd (α := Nat × Value) (fun ⟨i, lv⟩ => [(0, .pointer (some ⟨p, 0, none⟩)), (2, .int .i64 torn), (6, .int .i64 0), (7, .int .i64 (k : Int)), (8, lv), (9, .int .i64 ((i : Nat) : Int))]) (fun ⟨i, lv⟩ => [Ea x.W ((d.wait.take i).foldl AG d.syn) lv, cell p 61 #[.int .i64 d.room, x.sv, x.nv, x.wv, .bool fu, .int .i64 x.fz, .bool dn], Ar 107 5 encRO x.wv x.W]) (fun ⟨i, lv⟩ => i ≤ k) (fun ⟨i, lv⟩ => k - i) (0, x.sv) (Nat.zero_le _) ⟨rfl, rfl, rfl, rfl, rfl, rfl, trivial⟩ rfl ?_)
  rintro ⟨i, lv⟩ hI
  refine BB.at_ (env' := [(0, .pointer (some ⟨p, 0, none⟩)), (2, .int .i64 torn), (6, .int .i64 0), (7, .int .i64 (k : Int)), (8, lv), (9, .int .i64 ((i : Nat) : Int))]) (rs' := [Ea x.W ((d.wait.take i).foldl AG d.syn) lv, cell p 61 #[.int .i64 d.room, x.sv, x.nv, x.wv, .bool fu, .int .i64 x.fz, .bool dn], Ar 107 5 encRO x.wv x.W]) ⟨rfl, rfl, rfl, rfl, rfl, rfl, trivial⟩ rfl ?_
  have hI1 : i ≤ k := hI
  refine Av ?_
  rcases Nat.lt_or_ge i k with hi | hi
  obtain ⟨y, hy⟩ : ∃ y, x.W[i]? = some y := ⟨_, List.getElem?_eq_getElem (by omega)⟩
  refine Be 0 rfl Ea.open_ (fun _ => rfl) ?_; rintro z
  obtain ⟨hz1, hz2, hz3, hz4, hz5⟩ := O4 x hf hy z
  refine Ad (Ae Ah rfl (Aa rfl (.bool true) (fun b w hb hH => AZ rfl rfl rfl (Bw (by omega)) hb) (Ab (AI rfl (AB (AL (Av (Bo (Bp (Ae Ah rfl (Aa rfl (.pointer (some ⟨p, 0, none⟩)) (fun b w hb hH => by exact BD rfl rfl hb) (Ae Ah rfl (Aa rfl (x.wv) (fun b w hb hH => Ba rfl rfl (Bm AM rfl) (hH.row 2 rfl) hb) (Ae Ah rfl (Aa rfl (BN x.wv (i * 5)) (fun b w hb hH => El 3 BJ C2 rfl i (by omega) rfl rfl rfl hH hb) ?_)))))))))))))))
  refine Aa rfl (.agg (encRO y).toArray) (fun b w hb hH => GC C2 (by decide) (hH.vec 3 rfl C2) (j := i) hy CV rfl rfl hb) (Aj rfl (Ak (os' := fun rv => [NB z.l (y.o) rv, z.F, z.Y, cell p 61 #[.int .i64 d.room, x.sv, x.nv, x.wv, .bool fu, .int .i64 x.fz, .bool dn], Ar 107 5 encRO x.wv x.W]) [0, 1] 0 (Ai Tryz.func72 (by kernel_rfl) rfl) (J8 (X := z.F) (Y := z.Y) (x := y) z.rf (by omega) z.hs hz1 hz3 (z.rw_ y hz5) hz4) rfl rfl rfl (fun _ => rfl) rfl rfl rfl) ?_); rintro rv
  refine Ae Ah rfl (AV (BC (AL (Be 0 rfl NB.open_ (fun _ => rfl) ?_)))); rintro q
  refine BB.fact 2 rfl (fun _ h => h.2) ?_; rintro hq
  refine BB.leave [2] rfl rfl (Bi [2, 1, 3, 0] rfl (O3 z (JX (Nw x hy) d.syn).symm hq) rfl (Bp (Ae Ah rfl (Aa rfl (.int .i64 ((i + 1 : Nat) : Int)) (fun b w hb hH => AQ rfl rfl rfl rfl (by rw [IntWalk.i64_in _ (by omega)]; omega) hb) (Ae Ah rfl (AV ?_))))))
  exact Cr (i + 1, rv) 0 hi (show k - (i + 1) < k - i by omega) ⟨rfl, rfl, rfl, rfl, rfl, rfl, trivial⟩ rfl
  · skip
    obtain rfl : k = i := by omega
    refine Ad (Ae Ah rfl (Aa rfl (.bool false) (fun b w hb hH => AZ rfl rfl rfl (BS (by omega)) hb) (Ab (As rfl (CP (FP (FP (Br (AL (Av ?_))))))))))
    rcases Nat.lt_or_ge k x.W.length with h1 | h1
    obtain ⟨⟨o, A, c⟩, hy⟩ : ∃ y, x.W[k]? = some y := ⟨_, List.getElem?_eq_getElem h1⟩
    have hwy : d.wait[k]? = some o := Nw x hy
    have hcap : o.data.length ≤ c := x.yc _ (List.mem_of_getElem? hy)
    rcases o with ⟨n, bb⟩ | ⟨n, s⟩ | ⟨n, m⟩ | n
    rcases Classical.em (bb = []) with hb | hb
    rotate_left
    obtain ⟨t, ht, htl⟩ : ∃ t : Nat, torn % (bb.length : Int) = (t : Int) ∧ t < bb.length := by
        have hb0 : bb.length ≠ 0 := fun e => hb (List.eq_nil_of_length_eq_zero e)
        have g1 := Int.emod_nonneg torn (show (bb.length : Int) ≠ 0 by omega)
        have g2 := Int.emod_lt_of_pos torn (show 0 < (bb.length : Int) by omega)
        exact ⟨(torn % (bb.length : Int)).toNat, (Int.toNat_of_nonneg g1).symm, by omega⟩
    have hb0 : bb.length ≠ 0 := fun e => hb (List.eq_nil_of_length_eq_zero e)
    have hbs : (OpD.app n bb).size ≤ 1099511627776 := by have := Es x.snd x.hok hwy hf.1; omega
    change bb.length ≤ _ at hbs
    refine Ad (Ae Ah rfl (Aa rfl (.pointer (some ⟨p, 0, none⟩)) (fun b w hb hH => by exact BD rfl rfl hb) (Ae Ah rfl (Aa rfl (x.wv) (fun b w hb hH => Ba rfl rfl (Bm AM rfl) (hH.row 1 rfl) hb) (Aa rfl (.int .i64 (x.W.length : Int)) (fun b w hb hH => Ds 2 Tryz.underlying59 rfl rfl rfl hH hb) (Aa rfl (.bool true) (fun b w hb hH => AZ rfl rfl rfl (Bw (by omega)) hb) (Ae Ah rfl (Aa rfl (.pointer (some ⟨p, 0, none⟩)) (fun b w hb hH => by exact BD rfl rfl hb) (Ae Ah rfl ?_)))))))))
    refine Aa rfl (x.wv) (fun b w hb hH => Ba rfl rfl (Bm AM rfl) (hH.row 1 rfl) hb) (Ae Ah rfl (Aa rfl (BN x.wv (k * 5)) (fun b w hb hH => El 2 BJ C2 rfl k h1 rfl rfl rfl hH hb) (Aa rfl (BN x.wv (k * 5 + 0)) (fun b w hb hH => JH C2 (by decide) (hH.vec 2 rfl C2) (j := k) hy CF rfl rfl hb) (Aa rfl (.int .i64 ((⟨.app n bb, A, c⟩ : OpV).o.kind)) (fun b w hb hH => Bu C2 (by decide) (hH.vec 2 rfl C2) (j := k) hy Bc (off := 0) rfl rfl rfl hb) (Aa rfl (.bool true) (fun b w hb hH => AZ rfl rfl rfl (GT rfl) hb) (Ae Ah rfl (Aa rfl (.pointer (some ⟨p, 0, none⟩)) (fun b w hb hH => by exact BD rfl rfl hb) (Ae Ah rfl (Aa rfl (x.wv) (fun b w hb hH => Ba rfl rfl (Bm AM rfl) (hH.row 1 rfl) hb) ?_)))))))))
    refine Ae Ah rfl (Aa rfl (BN x.wv (k * 5)) (fun b w hb hH => El 2 BJ C2 rfl k h1 rfl rfl rfl hH hb) (Aa rfl (BN x.wv (k * 5 + 3)) (fun b w hb hH => JH C2 (by decide) (hH.vec 2 rfl C2) (j := k) hy D8 rfl rfl hb) (Aa rfl (.slice A bb.length c) (fun b w hb hH => Bu C2 (by decide) (hH.vec 2 rfl C2) (j := k) hy Cx (off := 3) rfl rfl rfl hb) (Aa rfl (.int .i64 (bb.length : Int)) (fun b w hb hH => FT AJ rfl rfl hH hb) (Aa rfl (.bool true) (fun b w hb hH => AZ rfl rfl rfl (B0 (by omega)) hb) (Ae Ah rfl (Ab (AI rfl (Ad (Ae Ah rfl (Aa rfl (.pointer (some ⟨p, 0, none⟩)) (fun b w hb hH => by exact BD rfl rfl hb) ?_)))))))))))
    refine Ae Ah rfl (Aa rfl (x.wv) (fun b w hb hH => Ba rfl rfl (Bm AM rfl) (hH.row 1 rfl) hb) (Ae Ah rfl (Aa rfl (BN x.wv (k * 5)) (fun b w hb hH => El 2 BJ C2 rfl k h1 rfl rfl rfl hH hb) (Aa rfl (.agg #[.int .i64 0, .string (bs n), .string (bs ([])), .slice A bb.length c, .int .i64 0]) (fun b w hb hH => GC C2 (by decide) (hH.vec 2 rfl C2) (j := k) hy CV rfl rfl hb) (Aj (post := fun g10 => [cell g10 107 #[.int .i64 0, .string { data := #[] }, .string { data := #[] }, .slice none 0 0, .int .i64 0], Ea x.W ((d.wait.take k).foldl AG d.syn) lv, cell p 61 #[.int .i64 d.room, x.sv, x.nv, x.wv, .bool fu, .int .i64 x.fz, .bool dn], Ar 107 5 encRO x.wv x.W]) rfl (BT JO rfl) ?_))))); rintro g10
    refine AF (post := fun _ => [cell g10 107 #[.int .i64 0, .string (bs n), .string (bs ([])), .slice A bb.length c, .int .i64 0], Ea x.W ((d.wait.take k).foldl AG d.syn) lv, cell p 61 #[.int .i64 d.room, x.sv, x.nv, x.wv, .bool fu, .int .i64 x.fz, .bool dn], Ar 107 5 encRO x.wv x.W]) rfl rfl (AE 0 (v := .agg #[.int .i64 0, .string (bs n), .string (bs ([])), .slice A bb.length c, .int .i64 0]) #[.int .i64 0, .string (bs n), .string (bs ([])), .slice A bb.length c, .int .i64 0] CV.2 rfl rfl rfl rfl rfl rfl rfl rfl rfl) ?_; rintro ⟨⟩
    refine Ab (BB.keep (env' := [(0, .pointer (some ⟨p, 0, none⟩)), (2, .int .i64 torn), (6, .int .i64 0), (7, .int .i64 (k : Int)), (8, lv), (10, .pointer (some ⟨g10, 0, none⟩))]) ⟨rfl, rfl, rfl, rfl, rfl, rfl, trivial⟩ (Ad (Ae Ah rfl (Aa rfl (.slice A bb.length c) (fun b w hb hH => Ba rfl rfl (Bm Cx rfl) (hH.row 0 rfl) hb) (Aa rfl (.int .i64 (bb.length : Int)) (fun b w hb hH => FT AJ rfl rfl hH hb) (Aj (post := fun _ => [cell g10 107 #[.int .i64 0, .string (bs n), .string (bs ([])), .slice A bb.length c, .int .i64 0], Ea x.W ((d.wait.take k).foldl AG d.syn) lv, cell p 61 #[.int .i64 d.room, x.sv, x.nv, x.wv, .bool fu, .int .i64 x.fz, .bool dn], Ar 107 5 encRO x.wv x.W]) rfl (AU (Ai Tryz.func71 (by kernel_rfl) rfl) (fun w hH => Wu w torn (bb.length : Int) htn (by omega) ht) rfl rfl rfl) ?_)))))); rintro ⟨⟩
    refine Ae Ah rfl (Ab ?_)
    rcases Nat.eq_zero_or_pos t with h0 | h0
    refine Ad (Ae Ah rfl (Aa rfl (.bool false) (fun b w hb hH => AZ rfl rfl rfl (BI (by omega)) hb) (Ab (As rfl (AB (AL (Ad (Ae Ah rfl (Aa rfl (.pointer (some ⟨p, 0, none⟩)) (fun b w hb hH => by exact BD rfl rfl hb) (Ae Ah rfl (AF (post := fun _ => [cell g10 107 #[.int .i64 0, .string (bs n), .string (bs ([])), .slice A bb.length c, .int .i64 0], Ea x.W ((d.wait.take k).foldl AG d.syn) lv, cell p 61 #[.int .i64 d.room, lv, x.nv, x.wv, .bool fu, .int .i64 x.fz, .bool dn], Ar 107 5 encRO x.wv x.W]) rfl rfl (Cv 2 1 (v := lv) #[.int .i64 d.room, lv, x.nv, x.wv, .bool fu, .int .i64 x.fz, .bool dn] Ap.2 rfl (fun _ h => Ea.c1 h) rfl rfl rfl rfl rfl rfl rfl) ?_))))))))))); rintro ⟨⟩
    refine Ab (Ad (Ae Ah rfl (Aa rfl (.pointer (some ⟨p, 0, none⟩)) (fun b w hb hH => by exact BD rfl rfl hb) (Ae Ah rfl (AF (post := fun _ => [cell g10 107 #[.int .i64 0, .string (bs n), .string (bs ([])), .slice A bb.length c, .int .i64 0], Ea x.W ((d.wait.take k).foldl AG d.syn) lv, cell p 61 #[.int .i64 d.room, lv, lv, x.wv, .bool fu, .int .i64 x.fz, .bool dn], Ar 107 5 encRO x.wv x.W]) rfl rfl (Cv 2 1 (v := lv) #[.int .i64 d.room, lv, lv, x.wv, .bool fu, .int .i64 x.fz, .bool dn] Ap.2 rfl (fun _ h => Ea.c1 h) rfl rfl rfl rfl rfl rfl rfl) ?_))))); rintro ⟨⟩
    refine Ab (Ad (Ae Ah rfl (Aa rfl (.pointer (some ⟨p, 0, none⟩)) (fun b w hb hH => by exact BD rfl rfl hb) (Ae Ah rfl (AF (post := fun _ => [cell g10 107 #[.int .i64 0, .string (bs n), .string (bs ([])), .slice A bb.length c, .int .i64 0], Ea x.W ((d.wait.take k).foldl AG d.syn) lv, cell p 61 #[.int .i64 d.room, lv, lv, .slice none 0 0, .bool fu, .int .i64 x.fz, .bool dn], Ar 107 5 encRO x.wv x.W]) rfl rfl (AE 2 (v := .slice none 0 0) #[.int .i64 d.room, lv, lv, .slice none 0 0, .bool fu, .int .i64 x.fz, .bool dn] AM.2 rfl rfl rfl rfl rfl rfl rfl rfl rfl) ?_))))); rintro ⟨⟩
    refine Ab (Ad (Ae Ah rfl (Aa rfl (.pointer (some ⟨p, 0, none⟩)) (fun b w hb hH => by exact BD rfl rfl hb) (Ae Ah rfl (AF (post := fun _ => [cell g10 107 #[.int .i64 0, .string (bs n), .string (bs ([])), .slice A bb.length c, .int .i64 0], Ea x.W ((d.wait.take k).foldl AG d.syn) lv, cell p 61 #[.int .i64 d.room, lv, lv, .slice none 0 0, .bool false, .int .i64 x.fz, .bool dn], Ar 107 5 encRO x.wv x.W]) rfl rfl (AE 2 (v := .bool false) #[.int .i64 d.room, lv, lv, .slice none 0 0, .bool false, .int .i64 x.fz, .bool dn] Bt.2 rfl rfl rfl rfl rfl rfl rfl rfl rfl) ?_))))); rintro ⟨⟩
    refine Ab (Ad (Ae Ah rfl (Aa rfl (.pointer (some ⟨p, 0, none⟩)) (fun b w hb hH => by exact BD rfl rfl hb) (Ae Ah rfl (AF (post := fun _ => [cell g10 107 #[.int .i64 0, .string (bs n), .string (bs ([])), .slice A bb.length c, .int .i64 0], Ea x.W ((d.wait.take k).foldl AG d.syn) lv, cell p 61 #[.int .i64 d.room, lv, lv, .slice none 0 0, .bool false, .int .i64 x.fz, .bool false], Ar 107 5 encRO x.wv x.W]) rfl rfl (AE 2 (v := .bool false) #[.int .i64 d.room, lv, lv, .slice none 0 0, .bool false, .int .i64 x.fz, .bool false] Bt.2 rfl rfl rfl rfl rfl rfl rfl rfl rfl) ?_))))); rintro ⟨⟩
    refine Ab (Bi [2, 1] rfl (EZ (d' := d') x (x.few k) (by rw [← h]; unfold Cg; rw [(O5 hk hwy hb ht), if_pos h0])) rfl (Ad (Ae Ah rfl (Ab (Ax ?_)))))
    exact Aw (.tmp rfl) (fun w h => AH () rfl [0] rfl h CK) rfl
    refine Be 1 rfl Ea.open_ (fun _ => rfl) ?_; rintro z
    obtain ⟨hz1, hz2, hz3, hz4, hz5⟩ := O4 x hf hy z
    have hsub2 : CB 1 (.slice A bb.length c) 0 t = .slice A (bb.take t).length c := by rw [show (bb.take t).length = t by rw [List.length_take]; omega]; exact Jf
    have hrY : CO z.Y (.slice A (bb.take t).length c) (bb.take t) := UX (z.rw_ _ hz5) (by omega)
    have hcap2 : bb.length ≤ c := hcap
    refine Ad (Ae Ah rfl (Aa rfl (.bool true) (fun b w hb hH => AZ rfl rfl rfl (B0 (by omega)) hb) (Ab (AI rfl (Ad (Ae Ah rfl (Aa rfl (.slice A bb.length c) (fun b w hb hH => Ba rfl rfl (Bm Cx rfl) (hH.row 2 rfl) hb) (Ae Ah rfl (Aa rfl (.slice A (bb.take t).length c) (fun b w hb hH => I2 (j := t) AJ hsub2 (by omega) rfl rfl rfl hH hb) (Ae Ah rfl (AF (post := fun _ => [z.F, z.Y, cell g10 107 #[.int .i64 0, .string (bs n), .string (bs ([])), .slice A (bb.take t).length c, .int .i64 0], cell p 61 #[.int .i64 d.room, x.sv, x.nv, x.wv, .bool fu, .int .i64 x.fz, .bool dn], Ar 107 5 encRO x.wv x.W]) rfl rfl (AE 2 (v := .slice A (bb.take t).length c) #[.int .i64 0, .string (bs n), .string (bs ([])), .slice A (bb.take t).length c, .int .i64 0] Cx.2 rfl rfl rfl rfl rfl rfl rfl rfl rfl) ?_))))))))))); rintro ⟨⟩
    refine Ab (Bp (Ae Ah rfl (Aa rfl (.agg #[.int .i64 0, .string (bs n), .string (bs ([])), .slice A (bb.take t).length c, .int .i64 0]) (fun b w hb hH => Ba rfl rfl (DM (cs := [.int .i64 0, .string (bs n), .string (bs ([])), .slice A (bb.take t).length c, .int .i64 0]) CV rfl) (hH.row 2 rfl) hb) (Aj rfl (Ak (os' := fun rv => [NB z.l (.app n (bb.take t)) rv, z.F, z.Y, cell g10 107 #[.int .i64 0, .string (bs n), .string (bs ([])), .slice A (bb.take t).length c, .int .i64 0], cell p 61 #[.int .i64 d.room, x.sv, x.nv, x.wv, .bool fu, .int .i64 x.fz, .bool dn], Ar 107 5 encRO x.wv x.W]) [0, 1] 0 (Ai Tryz.func72 (by kernel_rfl) rfl) (J8 (X := z.F) (Y := z.Y) (x := ⟨.app n (bb.take t), A, c⟩) z.rf (by omega) z.hs hz1 hz3 hrY (by show (bb.take t).length ≤ _; rw [List.length_take]; have : bb.length ≤ 1099511627776 := hz4; omega)) rfl rfl rfl (fun _ => rfl) rfl rfl rfl) ?_)))); rintro rv
    refine Ae Ah rfl (AV (AL (Be 0 rfl NB.open_ (fun _ => rfl) ?_))); rintro q
    refine BB.fact 2 rfl (fun _ h => h.2) ?_; rintro hq
    refine BB.leave [2] rfl rfl (Bi [2, 1, 3, 0] rfl (O3 z rfl hq) rfl (Ad (Ae Ah rfl (Aa rfl (.pointer (some ⟨p, 0, none⟩)) (fun b w hb hH => by exact BD rfl rfl hb) (Ae Ah rfl (AF (post := fun _ => [Ea x.W (AG ((d.wait.take k).foldl AG d.syn) (.app n (bb.take t))) rv, cell g10 107 #[.int .i64 0, .string (bs n), .string (bs ([])), .slice A (bb.take t).length c, .int .i64 0], cell p 61 #[.int .i64 d.room, rv, x.nv, x.wv, .bool fu, .int .i64 x.fz, .bool dn], Ar 107 5 encRO x.wv x.W]) rfl rfl (Cv 2 0 (v := rv) #[.int .i64 d.room, rv, x.nv, x.wv, .bool fu, .int .i64 x.fz, .bool dn] Ap.2 rfl (fun _ h => Ea.c1 h) rfl rfl rfl rfl rfl rfl rfl) ?_)))))); rintro ⟨⟩
    refine Ab (Ad (Ae Ah rfl (Aa rfl (.pointer (some ⟨p, 0, none⟩)) (fun b w hb hH => by exact BD rfl rfl hb) (Ae Ah rfl (AF (post := fun _ => [Ea x.W (AG ((d.wait.take k).foldl AG d.syn) (.app n (bb.take t))) rv, cell g10 107 #[.int .i64 0, .string (bs n), .string (bs ([])), .slice A (bb.take t).length c, .int .i64 0], cell p 61 #[.int .i64 d.room, rv, rv, x.wv, .bool fu, .int .i64 x.fz, .bool dn], Ar 107 5 encRO x.wv x.W]) rfl rfl (Cv 2 0 (v := rv) #[.int .i64 d.room, rv, rv, x.wv, .bool fu, .int .i64 x.fz, .bool dn] Ap.2 rfl (fun _ h => Ea.c1 h) rfl rfl rfl rfl rfl rfl rfl) ?_))))); rintro ⟨⟩
    refine Ab (Ad (Ae Ah rfl (Aa rfl (.pointer (some ⟨p, 0, none⟩)) (fun b w hb hH => by exact BD rfl rfl hb) (Ae Ah rfl (AF (post := fun _ => [Ea x.W (AG ((d.wait.take k).foldl AG d.syn) (.app n (bb.take t))) rv, cell g10 107 #[.int .i64 0, .string (bs n), .string (bs ([])), .slice A (bb.take t).length c, .int .i64 0], cell p 61 #[.int .i64 d.room, rv, rv, .slice none 0 0, .bool fu, .int .i64 x.fz, .bool dn], Ar 107 5 encRO x.wv x.W]) rfl rfl (AE 2 (v := .slice none 0 0) #[.int .i64 d.room, rv, rv, .slice none 0 0, .bool fu, .int .i64 x.fz, .bool dn] AM.2 rfl rfl rfl rfl rfl rfl rfl rfl rfl) ?_))))); rintro ⟨⟩
    refine Ab (Ad (Ae Ah rfl (Aa rfl (.pointer (some ⟨p, 0, none⟩)) (fun b w hb hH => by exact BD rfl rfl hb) (Ae Ah rfl (AF (post := fun _ => [Ea x.W (AG ((d.wait.take k).foldl AG d.syn) (.app n (bb.take t))) rv, cell g10 107 #[.int .i64 0, .string (bs n), .string (bs ([])), .slice A (bb.take t).length c, .int .i64 0], cell p 61 #[.int .i64 d.room, rv, rv, .slice none 0 0, .bool false, .int .i64 x.fz, .bool dn], Ar 107 5 encRO x.wv x.W]) rfl rfl (AE 2 (v := .bool false) #[.int .i64 d.room, rv, rv, .slice none 0 0, .bool false, .int .i64 x.fz, .bool dn] Bt.2 rfl rfl rfl rfl rfl rfl rfl rfl rfl) ?_))))); rintro ⟨⟩
    refine Ab (Ad (Ae Ah rfl (Aa rfl (.pointer (some ⟨p, 0, none⟩)) (fun b w hb hH => by exact BD rfl rfl hb) (Ae Ah rfl (AF (post := fun _ => [Ea x.W (AG ((d.wait.take k).foldl AG d.syn) (.app n (bb.take t))) rv, cell g10 107 #[.int .i64 0, .string (bs n), .string (bs ([])), .slice A (bb.take t).length c, .int .i64 0], cell p 61 #[.int .i64 d.room, rv, rv, .slice none 0 0, .bool false, .int .i64 x.fz, .bool false], Ar 107 5 encRO x.wv x.W]) rfl rfl (AE 2 (v := .bool false) #[.int .i64 d.room, rv, rv, .slice none 0 0, .bool false, .int .i64 x.fz, .bool false] Bt.2 rfl rfl rfl rfl rfl rfl rfl rfl rfl) ?_))))); rintro ⟨⟩
    refine Ab (Bi [2, 0] rfl (EZ (d' := d') x (UW (b := bb) (by rw [← JX hwy d.syn]; exact x.few (k + 1))) (by rw [← h]; unfold Cg; rw [O5 hk hwy hb ht, if_neg (by omega)])) rfl (Ad (Ae Ah rfl (Ab (Ax ?_)))))
    exact Aw (.tmp rfl) (fun w h => AH () rfl [0] rfl h CK) rfl
    refine Ad (Ae Ah rfl (Aa rfl (.pointer (some ⟨p, 0, none⟩)) (fun b w hb hH => by exact BD rfl rfl hb) (Ae Ah rfl (Aa rfl (x.wv) (fun b w hb hH => Ba rfl rfl (Bm AM rfl) (hH.row 1 rfl) hb) (Aa rfl (.int .i64 (x.W.length : Int)) (fun b w hb hH => Ds 2 Tryz.underlying59 rfl rfl rfl hH hb) (Aa rfl (.bool true) (fun b w hb hH => AZ rfl rfl rfl (Bw (by omega)) hb) (Ae Ah rfl (Aa rfl (.pointer (some ⟨p, 0, none⟩)) (fun b w hb hH => by exact BD rfl rfl hb) (Ae Ah rfl ?_)))))))))
    refine Aa rfl (x.wv) (fun b w hb hH => Ba rfl rfl (Bm AM rfl) (hH.row 1 rfl) hb) (Ae Ah rfl (Aa rfl (BN x.wv (k * 5)) (fun b w hb hH => El 2 BJ C2 rfl k h1 rfl rfl rfl hH hb) (Aa rfl (BN x.wv (k * 5 + 0)) (fun b w hb hH => JH C2 (by decide) (hH.vec 2 rfl C2) (j := k) hy CF rfl rfl hb) (Aa rfl (.int .i64 ((⟨.cut n s, A, c⟩ : OpV).o.kind)) (fun b w hb hH => Bu C2 (by decide) (hH.vec 2 rfl C2) (j := k) hy Bc (off := 0) rfl rfl rfl hb) (Aa rfl (.bool false) (fun b w hb hH => AZ rfl rfl rfl (Fu (show (1 : Int) ≠ 0 by decide)) hb) (Ae Ah rfl (Ab (As rfl (AB (AL (Ad (Ae Ah rfl (Aa rfl (.pointer (some ⟨p, 0, none⟩)) (fun b w hb hH => by exact BD rfl rfl hb) ?_)))))))))))))
    refine Ae Ah rfl (AF (post := fun _ => [Ea x.W ((d.wait.take k).foldl AG d.syn) lv, cell p 61 #[.int .i64 d.room, lv, x.nv, x.wv, .bool fu, .int .i64 x.fz, .bool dn], Ar 107 5 encRO x.wv x.W]) rfl rfl (Cv 1 0 (v := lv) #[.int .i64 d.room, lv, x.nv, x.wv, .bool fu, .int .i64 x.fz, .bool dn] Ap.2 rfl (fun _ h => Ea.c1 h) rfl rfl rfl rfl rfl rfl rfl) ?_); rintro ⟨⟩
    refine Ab (Ad (Ae Ah rfl (Aa rfl (.pointer (some ⟨p, 0, none⟩)) (fun b w hb hH => by exact BD rfl rfl hb) (Ae Ah rfl (AF (post := fun _ => [Ea x.W ((d.wait.take k).foldl AG d.syn) lv, cell p 61 #[.int .i64 d.room, lv, lv, x.wv, .bool fu, .int .i64 x.fz, .bool dn], Ar 107 5 encRO x.wv x.W]) rfl rfl (Cv 1 0 (v := lv) #[.int .i64 d.room, lv, lv, x.wv, .bool fu, .int .i64 x.fz, .bool dn] Ap.2 rfl (fun _ h => Ea.c1 h) rfl rfl rfl rfl rfl rfl rfl) ?_))))); rintro ⟨⟩
    refine Ab (BB.keep (env' := [(0, .pointer (some ⟨p, 0, none⟩)), (6, .int .i64 0), (7, .int .i64 (k : Int))]) ⟨rfl, rfl, rfl, trivial⟩ (Ad (Ae Ah rfl (Aa rfl (.pointer (some ⟨p, 0, none⟩)) (fun b w hb hH => by exact BD rfl rfl hb) (Ae Ah rfl (AF (post := fun _ => [Ea x.W ((d.wait.take k).foldl AG d.syn) lv, cell p 61 #[.int .i64 d.room, lv, lv, .slice none 0 0, .bool fu, .int .i64 x.fz, .bool dn], Ar 107 5 encRO x.wv x.W]) rfl rfl (AE 1 (v := .slice none 0 0) #[.int .i64 d.room, lv, lv, .slice none 0 0, .bool fu, .int .i64 x.fz, .bool dn] AM.2 rfl rfl rfl rfl rfl rfl rfl rfl rfl) ?_)))))); rintro ⟨⟩
    refine Ab (Ad (Ae Ah rfl (Aa rfl (.pointer (some ⟨p, 0, none⟩)) (fun b w hb hH => by exact BD rfl rfl hb) (Ae Ah rfl (AF (post := fun _ => [Ea x.W ((d.wait.take k).foldl AG d.syn) lv, cell p 61 #[.int .i64 d.room, lv, lv, .slice none 0 0, .bool false, .int .i64 x.fz, .bool dn], Ar 107 5 encRO x.wv x.W]) rfl rfl (AE 1 (v := .bool false) #[.int .i64 d.room, lv, lv, .slice none 0 0, .bool false, .int .i64 x.fz, .bool dn] Bt.2 rfl rfl rfl rfl rfl rfl rfl rfl rfl) ?_))))); rintro ⟨⟩
    refine Ab (Ad (Ae Ah rfl (Aa rfl (.pointer (some ⟨p, 0, none⟩)) (fun b w hb hH => by exact BD rfl rfl hb) (Ae Ah rfl (AF (post := fun _ => [Ea x.W ((d.wait.take k).foldl AG d.syn) lv, cell p 61 #[.int .i64 d.room, lv, lv, .slice none 0 0, .bool false, .int .i64 x.fz, .bool false], Ar 107 5 encRO x.wv x.W]) rfl rfl (AE 1 (v := .bool false) #[.int .i64 d.room, lv, lv, .slice none 0 0, .bool false, .int .i64 x.fz, .bool false] Bt.2 rfl rfl rfl rfl rfl rfl rfl rfl rfl) ?_))))); rintro ⟨⟩
    refine Ab (Bi [1, 0] rfl (EZ (d' := d') x (x.few k) (by rw [← h]; unfold Cg; rw [KH hk hwy (fun m e q => by cases q)])) rfl (Ad (Ae Ah rfl (Ab (Ax ?_)))))
    exact Aw (.tmp rfl) (fun w h => AH () rfl [0] rfl h CK) rfl
    refine Ad (Ae Ah rfl (Aa rfl (.pointer (some ⟨p, 0, none⟩)) (fun b w hb hH => by exact BD rfl rfl hb) (Ae Ah rfl (Aa rfl (x.wv) (fun b w hb hH => Ba rfl rfl (Bm AM rfl) (hH.row 1 rfl) hb) (Aa rfl (.int .i64 (x.W.length : Int)) (fun b w hb hH => Ds 2 Tryz.underlying59 rfl rfl rfl hH hb) (Aa rfl (.bool true) (fun b w hb hH => AZ rfl rfl rfl (Bw (by omega)) hb) (Ae Ah rfl (Aa rfl (.pointer (some ⟨p, 0, none⟩)) (fun b w hb hH => by exact BD rfl rfl hb) (Ae Ah rfl ?_)))))))))
    refine Aa rfl (x.wv) (fun b w hb hH => Ba rfl rfl (Bm AM rfl) (hH.row 1 rfl) hb) (Ae Ah rfl (Aa rfl (BN x.wv (k * 5)) (fun b w hb hH => El 2 BJ C2 rfl k h1 rfl rfl rfl hH hb) (Aa rfl (BN x.wv (k * 5 + 0)) (fun b w hb hH => JH C2 (by decide) (hH.vec 2 rfl C2) (j := k) hy CF rfl rfl hb) (Aa rfl (.int .i64 ((⟨.ren n m, A, c⟩ : OpV).o.kind)) (fun b w hb hH => Bu C2 (by decide) (hH.vec 2 rfl C2) (j := k) hy Bc (off := 0) rfl rfl rfl hb) (Aa rfl (.bool false) (fun b w hb hH => AZ rfl rfl rfl (Fu (show (2 : Int) ≠ 0 by decide)) hb) (Ae Ah rfl (Ab (As rfl (AB (AL (Ad (Ae Ah rfl (Aa rfl (.pointer (some ⟨p, 0, none⟩)) (fun b w hb hH => by exact BD rfl rfl hb) ?_)))))))))))))
    refine Ae Ah rfl (AF (post := fun _ => [Ea x.W ((d.wait.take k).foldl AG d.syn) lv, cell p 61 #[.int .i64 d.room, lv, x.nv, x.wv, .bool fu, .int .i64 x.fz, .bool dn], Ar 107 5 encRO x.wv x.W]) rfl rfl (Cv 1 0 (v := lv) #[.int .i64 d.room, lv, x.nv, x.wv, .bool fu, .int .i64 x.fz, .bool dn] Ap.2 rfl (fun _ h => Ea.c1 h) rfl rfl rfl rfl rfl rfl rfl) ?_); rintro ⟨⟩
    refine Ab (Ad (Ae Ah rfl (Aa rfl (.pointer (some ⟨p, 0, none⟩)) (fun b w hb hH => by exact BD rfl rfl hb) (Ae Ah rfl (AF (post := fun _ => [Ea x.W ((d.wait.take k).foldl AG d.syn) lv, cell p 61 #[.int .i64 d.room, lv, lv, x.wv, .bool fu, .int .i64 x.fz, .bool dn], Ar 107 5 encRO x.wv x.W]) rfl rfl (Cv 1 0 (v := lv) #[.int .i64 d.room, lv, lv, x.wv, .bool fu, .int .i64 x.fz, .bool dn] Ap.2 rfl (fun _ h => Ea.c1 h) rfl rfl rfl rfl rfl rfl rfl) ?_))))); rintro ⟨⟩
    refine Ab (BB.keep (env' := [(0, .pointer (some ⟨p, 0, none⟩)), (6, .int .i64 0), (7, .int .i64 (k : Int))]) ⟨rfl, rfl, rfl, trivial⟩ (Ad (Ae Ah rfl (Aa rfl (.pointer (some ⟨p, 0, none⟩)) (fun b w hb hH => by exact BD rfl rfl hb) (Ae Ah rfl (AF (post := fun _ => [Ea x.W ((d.wait.take k).foldl AG d.syn) lv, cell p 61 #[.int .i64 d.room, lv, lv, .slice none 0 0, .bool fu, .int .i64 x.fz, .bool dn], Ar 107 5 encRO x.wv x.W]) rfl rfl (AE 1 (v := .slice none 0 0) #[.int .i64 d.room, lv, lv, .slice none 0 0, .bool fu, .int .i64 x.fz, .bool dn] AM.2 rfl rfl rfl rfl rfl rfl rfl rfl rfl) ?_)))))); rintro ⟨⟩
    refine Ab (Ad (Ae Ah rfl (Aa rfl (.pointer (some ⟨p, 0, none⟩)) (fun b w hb hH => by exact BD rfl rfl hb) (Ae Ah rfl (AF (post := fun _ => [Ea x.W ((d.wait.take k).foldl AG d.syn) lv, cell p 61 #[.int .i64 d.room, lv, lv, .slice none 0 0, .bool false, .int .i64 x.fz, .bool dn], Ar 107 5 encRO x.wv x.W]) rfl rfl (AE 1 (v := .bool false) #[.int .i64 d.room, lv, lv, .slice none 0 0, .bool false, .int .i64 x.fz, .bool dn] Bt.2 rfl rfl rfl rfl rfl rfl rfl rfl rfl) ?_))))); rintro ⟨⟩
    refine Ab (Ad (Ae Ah rfl (Aa rfl (.pointer (some ⟨p, 0, none⟩)) (fun b w hb hH => by exact BD rfl rfl hb) (Ae Ah rfl (AF (post := fun _ => [Ea x.W ((d.wait.take k).foldl AG d.syn) lv, cell p 61 #[.int .i64 d.room, lv, lv, .slice none 0 0, .bool false, .int .i64 x.fz, .bool false], Ar 107 5 encRO x.wv x.W]) rfl rfl (AE 1 (v := .bool false) #[.int .i64 d.room, lv, lv, .slice none 0 0, .bool false, .int .i64 x.fz, .bool false] Bt.2 rfl rfl rfl rfl rfl rfl rfl rfl rfl) ?_))))); rintro ⟨⟩
    refine Ab (Bi [1, 0] rfl (EZ (d' := d') x (x.few k) (by rw [← h]; unfold Cg; rw [KH hk hwy (fun m e q => by cases q)])) rfl (Ad (Ae Ah rfl (Ab (Ax ?_)))))
    exact Aw (.tmp rfl) (fun w h => AH () rfl [0] rfl h CK) rfl
    refine Ad (Ae Ah rfl (Aa rfl (.pointer (some ⟨p, 0, none⟩)) (fun b w hb hH => by exact BD rfl rfl hb) (Ae Ah rfl (Aa rfl (x.wv) (fun b w hb hH => Ba rfl rfl (Bm AM rfl) (hH.row 1 rfl) hb) (Aa rfl (.int .i64 (x.W.length : Int)) (fun b w hb hH => Ds 2 Tryz.underlying59 rfl rfl rfl hH hb) (Aa rfl (.bool true) (fun b w hb hH => AZ rfl rfl rfl (Bw (by omega)) hb) (Ae Ah rfl (Aa rfl (.pointer (some ⟨p, 0, none⟩)) (fun b w hb hH => by exact BD rfl rfl hb) (Ae Ah rfl ?_)))))))))
    refine Aa rfl (x.wv) (fun b w hb hH => Ba rfl rfl (Bm AM rfl) (hH.row 1 rfl) hb) (Ae Ah rfl (Aa rfl (BN x.wv (k * 5)) (fun b w hb hH => El 2 BJ C2 rfl k h1 rfl rfl rfl hH hb) (Aa rfl (BN x.wv (k * 5 + 0)) (fun b w hb hH => JH C2 (by decide) (hH.vec 2 rfl C2) (j := k) hy CF rfl rfl hb) (Aa rfl (.int .i64 ((⟨.del n, A, c⟩ : OpV).o.kind)) (fun b w hb hH => Bu C2 (by decide) (hH.vec 2 rfl C2) (j := k) hy Bc (off := 0) rfl rfl rfl hb) (Aa rfl (.bool false) (fun b w hb hH => AZ rfl rfl rfl (Fu (show (3 : Int) ≠ 0 by decide)) hb) (Ae Ah rfl (Ab (As rfl (AB (AL (Ad (Ae Ah rfl (Aa rfl (.pointer (some ⟨p, 0, none⟩)) (fun b w hb hH => by exact BD rfl rfl hb) ?_)))))))))))))
    refine Ae Ah rfl (AF (post := fun _ => [Ea x.W ((d.wait.take k).foldl AG d.syn) lv, cell p 61 #[.int .i64 d.room, lv, x.nv, x.wv, .bool fu, .int .i64 x.fz, .bool dn], Ar 107 5 encRO x.wv x.W]) rfl rfl (Cv 1 0 (v := lv) #[.int .i64 d.room, lv, x.nv, x.wv, .bool fu, .int .i64 x.fz, .bool dn] Ap.2 rfl (fun _ h => Ea.c1 h) rfl rfl rfl rfl rfl rfl rfl) ?_); rintro ⟨⟩
    refine Ab (Ad (Ae Ah rfl (Aa rfl (.pointer (some ⟨p, 0, none⟩)) (fun b w hb hH => by exact BD rfl rfl hb) (Ae Ah rfl (AF (post := fun _ => [Ea x.W ((d.wait.take k).foldl AG d.syn) lv, cell p 61 #[.int .i64 d.room, lv, lv, x.wv, .bool fu, .int .i64 x.fz, .bool dn], Ar 107 5 encRO x.wv x.W]) rfl rfl (Cv 1 0 (v := lv) #[.int .i64 d.room, lv, lv, x.wv, .bool fu, .int .i64 x.fz, .bool dn] Ap.2 rfl (fun _ h => Ea.c1 h) rfl rfl rfl rfl rfl rfl rfl) ?_))))); rintro ⟨⟩
    refine Ab (BB.keep (env' := [(0, .pointer (some ⟨p, 0, none⟩)), (6, .int .i64 0), (7, .int .i64 (k : Int))]) ⟨rfl, rfl, rfl, trivial⟩ (Ad (Ae Ah rfl (Aa rfl (.pointer (some ⟨p, 0, none⟩)) (fun b w hb hH => by exact BD rfl rfl hb) (Ae Ah rfl (AF (post := fun _ => [Ea x.W ((d.wait.take k).foldl AG d.syn) lv, cell p 61 #[.int .i64 d.room, lv, lv, .slice none 0 0, .bool fu, .int .i64 x.fz, .bool dn], Ar 107 5 encRO x.wv x.W]) rfl rfl (AE 1 (v := .slice none 0 0) #[.int .i64 d.room, lv, lv, .slice none 0 0, .bool fu, .int .i64 x.fz, .bool dn] AM.2 rfl rfl rfl rfl rfl rfl rfl rfl rfl) ?_)))))); rintro ⟨⟩
    refine Ab (Ad (Ae Ah rfl (Aa rfl (.pointer (some ⟨p, 0, none⟩)) (fun b w hb hH => by exact BD rfl rfl hb) (Ae Ah rfl (AF (post := fun _ => [Ea x.W ((d.wait.take k).foldl AG d.syn) lv, cell p 61 #[.int .i64 d.room, lv, lv, .slice none 0 0, .bool false, .int .i64 x.fz, .bool dn], Ar 107 5 encRO x.wv x.W]) rfl rfl (AE 1 (v := .bool false) #[.int .i64 d.room, lv, lv, .slice none 0 0, .bool false, .int .i64 x.fz, .bool dn] Bt.2 rfl rfl rfl rfl rfl rfl rfl rfl rfl) ?_))))); rintro ⟨⟩
    refine Ab (Ad (Ae Ah rfl (Aa rfl (.pointer (some ⟨p, 0, none⟩)) (fun b w hb hH => by exact BD rfl rfl hb) (Ae Ah rfl (AF (post := fun _ => [Ea x.W ((d.wait.take k).foldl AG d.syn) lv, cell p 61 #[.int .i64 d.room, lv, lv, .slice none 0 0, .bool false, .int .i64 x.fz, .bool false], Ar 107 5 encRO x.wv x.W]) rfl rfl (AE 1 (v := .bool false) #[.int .i64 d.room, lv, lv, .slice none 0 0, .bool false, .int .i64 x.fz, .bool false] Bt.2 rfl rfl rfl rfl rfl rfl rfl rfl rfl) ?_))))); rintro ⟨⟩
    refine Ab (Bi [1, 0] rfl (EZ (d' := d') x (x.few k) (by rw [← h]; unfold Cg; rw [KH hk hwy (fun m e q => by cases q)])) rfl (Ad (Ae Ah rfl (Ab (Ax ?_)))))
    exact Aw (.tmp rfl) (fun w h => AH () rfl [0] rfl h CK) rfl
    refine Ad (Ae Ah rfl (Aa rfl (.pointer (some ⟨p, 0, none⟩)) (fun b w hb hH => by exact BD rfl rfl hb) (Ae Ah rfl (Aa rfl (x.wv) (fun b w hb hH => Ba rfl rfl (Bm AM rfl) (hH.row 1 rfl) hb) (Aa rfl (.int .i64 (x.W.length : Int)) (fun b w hb hH => Ds 2 Tryz.underlying59 rfl rfl rfl hH hb) (Aa rfl (.bool false) (fun b w hb hH => AZ rfl rfl rfl (BS (by omega)) hb) (Ae Ah rfl (Ab (As rfl (AB (AL (Ad (Ae Ah rfl ?_)))))))))))))
    refine Aa rfl (.pointer (some ⟨p, 0, none⟩)) (fun b w hb hH => by exact BD rfl rfl hb) (Ae Ah rfl (AF (post := fun _ => [Ea x.W ((d.wait.take k).foldl AG d.syn) lv, cell p 61 #[.int .i64 d.room, lv, x.nv, x.wv, .bool fu, .int .i64 x.fz, .bool dn], Ar 107 5 encRO x.wv x.W]) rfl rfl (Cv 1 0 (v := lv) #[.int .i64 d.room, lv, x.nv, x.wv, .bool fu, .int .i64 x.fz, .bool dn] Ap.2 rfl (fun _ h => Ea.c1 h) rfl rfl rfl rfl rfl rfl rfl) ?_)); rintro ⟨⟩
    refine Ab (Ad (Ae Ah rfl (Aa rfl (.pointer (some ⟨p, 0, none⟩)) (fun b w hb hH => by exact BD rfl rfl hb) (Ae Ah rfl (AF (post := fun _ => [Ea x.W ((d.wait.take k).foldl AG d.syn) lv, cell p 61 #[.int .i64 d.room, lv, lv, x.wv, .bool fu, .int .i64 x.fz, .bool dn], Ar 107 5 encRO x.wv x.W]) rfl rfl (Cv 1 0 (v := lv) #[.int .i64 d.room, lv, lv, x.wv, .bool fu, .int .i64 x.fz, .bool dn] Ap.2 rfl (fun _ h => Ea.c1 h) rfl rfl rfl rfl rfl rfl rfl) ?_))))); rintro ⟨⟩
    refine Ab (BB.keep (env' := [(0, .pointer (some ⟨p, 0, none⟩)), (6, .int .i64 0), (7, .int .i64 (k : Int))]) ⟨rfl, rfl, rfl, trivial⟩ (Ad (Ae Ah rfl (Aa rfl (.pointer (some ⟨p, 0, none⟩)) (fun b w hb hH => by exact BD rfl rfl hb) (Ae Ah rfl (AF (post := fun _ => [Ea x.W ((d.wait.take k).foldl AG d.syn) lv, cell p 61 #[.int .i64 d.room, lv, lv, .slice none 0 0, .bool fu, .int .i64 x.fz, .bool dn], Ar 107 5 encRO x.wv x.W]) rfl rfl (AE 1 (v := .slice none 0 0) #[.int .i64 d.room, lv, lv, .slice none 0 0, .bool fu, .int .i64 x.fz, .bool dn] AM.2 rfl rfl rfl rfl rfl rfl rfl rfl rfl) ?_)))))); rintro ⟨⟩
    refine Ab (Ad (Ae Ah rfl (Aa rfl (.pointer (some ⟨p, 0, none⟩)) (fun b w hb hH => by exact BD rfl rfl hb) (Ae Ah rfl (AF (post := fun _ => [Ea x.W ((d.wait.take k).foldl AG d.syn) lv, cell p 61 #[.int .i64 d.room, lv, lv, .slice none 0 0, .bool false, .int .i64 x.fz, .bool dn], Ar 107 5 encRO x.wv x.W]) rfl rfl (AE 1 (v := .bool false) #[.int .i64 d.room, lv, lv, .slice none 0 0, .bool false, .int .i64 x.fz, .bool dn] Bt.2 rfl rfl rfl rfl rfl rfl rfl rfl rfl) ?_))))); rintro ⟨⟩
    refine Ab (Ad (Ae Ah rfl (Aa rfl (.pointer (some ⟨p, 0, none⟩)) (fun b w hb hH => by exact BD rfl rfl hb) (Ae Ah rfl (AF (post := fun _ => [Ea x.W ((d.wait.take k).foldl AG d.syn) lv, cell p 61 #[.int .i64 d.room, lv, lv, .slice none 0 0, .bool false, .int .i64 x.fz, .bool false], Ar 107 5 encRO x.wv x.W]) rfl rfl (AE 1 (v := .bool false) #[.int .i64 d.room, lv, lv, .slice none 0 0, .bool false, .int .i64 x.fz, .bool false] Bt.2 rfl rfl rfl rfl rfl rfl rfl rfl rfl) ?_))))); rintro ⟨⟩
    refine Ab (Bi [1, 0] rfl (EZ (d' := d') x (x.few k) (by rw [← h]; unfold Cg; rw [UY hk (by omega)])) rfl (Ad (Ae Ah rfl (Ab (Ax ?_)))))
    exact Aw (.tmp rfl) (fun w h => AH () rfl [0] rfl h CK) rfl
    have hb0 : bb.length = 0 := by rw [hb]; rfl
    refine Ad (Ae Ah rfl (Aa rfl (.pointer (some ⟨p, 0, none⟩)) (fun b w hb hH => by exact BD rfl rfl hb) (Ae Ah rfl (Aa rfl (x.wv) (fun b w hb hH => Ba rfl rfl (Bm AM rfl) (hH.row 1 rfl) hb) (Aa rfl (.int .i64 (x.W.length : Int)) (fun b w hb hH => Ds 2 Tryz.underlying59 rfl rfl rfl hH hb) (Aa rfl (.bool true) (fun b w hb hH => AZ rfl rfl rfl (Bw (by omega)) hb) (Ae Ah rfl (Aa rfl (.pointer (some ⟨p, 0, none⟩)) (fun b w hb hH => by exact BD rfl rfl hb) (Ae Ah rfl ?_)))))))))
    refine Aa rfl (x.wv) (fun b w hb hH => Ba rfl rfl (Bm AM rfl) (hH.row 1 rfl) hb) (Ae Ah rfl (Aa rfl (BN x.wv (k * 5)) (fun b w hb hH => El 2 BJ C2 rfl k h1 rfl rfl rfl hH hb) (Aa rfl (BN x.wv (k * 5 + 0)) (fun b w hb hH => JH C2 (by decide) (hH.vec 2 rfl C2) (j := k) hy CF rfl rfl hb) (Aa rfl (.int .i64 ((⟨.app n bb, A, c⟩ : OpV).o.kind)) (fun b w hb hH => Bu C2 (by decide) (hH.vec 2 rfl C2) (j := k) hy Bc (off := 0) rfl rfl rfl hb) (Aa rfl (.bool true) (fun b w hb hH => AZ rfl rfl rfl (GT rfl) hb) (Ae Ah rfl (Aa rfl (.pointer (some ⟨p, 0, none⟩)) (fun b w hb hH => by exact BD rfl rfl hb) (Ae Ah rfl (Aa rfl (x.wv) (fun b w hb hH => Ba rfl rfl (Bm AM rfl) (hH.row 1 rfl) hb) ?_)))))))))
    refine Ae Ah rfl (Aa rfl (BN x.wv (k * 5)) (fun b w hb hH => El 2 BJ C2 rfl k h1 rfl rfl rfl hH hb) (Aa rfl (BN x.wv (k * 5 + 3)) (fun b w hb hH => JH C2 (by decide) (hH.vec 2 rfl C2) (j := k) hy D8 rfl rfl hb) (Aa rfl (.slice A bb.length c) (fun b w hb hH => Bu C2 (by decide) (hH.vec 2 rfl C2) (j := k) hy Cx (off := 3) rfl rfl rfl hb) (Aa rfl (.int .i64 (bb.length : Int)) (fun b w hb hH => FT AJ rfl rfl hH hb) (Aa rfl (.bool false) (fun b w hb hH => AZ rfl rfl rfl (BI (by omega)) hb) (Ae Ah rfl (Ab (As rfl (AB (AL (Ad (Ae Ah rfl (Aa rfl (.pointer (some ⟨p, 0, none⟩)) (fun b w hb hH => by exact BD rfl rfl hb) ?_)))))))))))))
    refine Ae Ah rfl (AF (post := fun _ => [Ea x.W ((d.wait.take k).foldl AG d.syn) lv, cell p 61 #[.int .i64 d.room, lv, x.nv, x.wv, .bool fu, .int .i64 x.fz, .bool dn], Ar 107 5 encRO x.wv x.W]) rfl rfl (Cv 1 0 (v := lv) #[.int .i64 d.room, lv, x.nv, x.wv, .bool fu, .int .i64 x.fz, .bool dn] Ap.2 rfl (fun _ h => Ea.c1 h) rfl rfl rfl rfl rfl rfl rfl) ?_); rintro ⟨⟩
    refine Ab (Ad (Ae Ah rfl (Aa rfl (.pointer (some ⟨p, 0, none⟩)) (fun b w hb hH => by exact BD rfl rfl hb) (Ae Ah rfl (AF (post := fun _ => [Ea x.W ((d.wait.take k).foldl AG d.syn) lv, cell p 61 #[.int .i64 d.room, lv, lv, x.wv, .bool fu, .int .i64 x.fz, .bool dn], Ar 107 5 encRO x.wv x.W]) rfl rfl (Cv 1 0 (v := lv) #[.int .i64 d.room, lv, lv, x.wv, .bool fu, .int .i64 x.fz, .bool dn] Ap.2 rfl (fun _ h => Ea.c1 h) rfl rfl rfl rfl rfl rfl rfl) ?_))))); rintro ⟨⟩
    refine Ab (BB.keep (env' := [(0, .pointer (some ⟨p, 0, none⟩)), (6, .int .i64 0), (7, .int .i64 (k : Int))]) ⟨rfl, rfl, rfl, trivial⟩ (Ad (Ae Ah rfl (Aa rfl (.pointer (some ⟨p, 0, none⟩)) (fun b w hb hH => by exact BD rfl rfl hb) (Ae Ah rfl (AF (post := fun _ => [Ea x.W ((d.wait.take k).foldl AG d.syn) lv, cell p 61 #[.int .i64 d.room, lv, lv, .slice none 0 0, .bool fu, .int .i64 x.fz, .bool dn], Ar 107 5 encRO x.wv x.W]) rfl rfl (AE 1 (v := .slice none 0 0) #[.int .i64 d.room, lv, lv, .slice none 0 0, .bool fu, .int .i64 x.fz, .bool dn] AM.2 rfl rfl rfl rfl rfl rfl rfl rfl rfl) ?_)))))); rintro ⟨⟩
    refine Ab (Ad (Ae Ah rfl (Aa rfl (.pointer (some ⟨p, 0, none⟩)) (fun b w hb hH => by exact BD rfl rfl hb) (Ae Ah rfl (AF (post := fun _ => [Ea x.W ((d.wait.take k).foldl AG d.syn) lv, cell p 61 #[.int .i64 d.room, lv, lv, .slice none 0 0, .bool false, .int .i64 x.fz, .bool dn], Ar 107 5 encRO x.wv x.W]) rfl rfl (AE 1 (v := .bool false) #[.int .i64 d.room, lv, lv, .slice none 0 0, .bool false, .int .i64 x.fz, .bool dn] Bt.2 rfl rfl rfl rfl rfl rfl rfl rfl rfl) ?_))))); rintro ⟨⟩
    refine Ab (Ad (Ae Ah rfl (Aa rfl (.pointer (some ⟨p, 0, none⟩)) (fun b w hb hH => by exact BD rfl rfl hb) (Ae Ah rfl (AF (post := fun _ => [Ea x.W ((d.wait.take k).foldl AG d.syn) lv, cell p 61 #[.int .i64 d.room, lv, lv, .slice none 0 0, .bool false, .int .i64 x.fz, .bool false], Ar 107 5 encRO x.wv x.W]) rfl rfl (AE 1 (v := .bool false) #[.int .i64 d.room, lv, lv, .slice none 0 0, .bool false, .int .i64 x.fz, .bool false] Bt.2 rfl rfl rfl rfl rfl rfl rfl rfl rfl) ?_))))); rintro ⟨⟩
    refine Ab (Bi [1, 0] rfl (EZ (d' := d') x (x.few k) (by rw [← h]; unfold Cg; rw [KH hk hwy (fun m e q => by cases q; exact hb)])) rfl (Ad (Ae Ah rfl (Ab (Ax ?_)))))
    exact Aw (.tmp rfl) (fun w h => AH () rfl [0] rfl h CK) rfl
end Go.Proofs.YtjcfimmcogkopaaGreat.Sep
