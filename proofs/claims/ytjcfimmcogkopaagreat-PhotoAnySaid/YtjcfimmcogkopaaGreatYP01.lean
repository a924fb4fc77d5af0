/-
  RdkT · RdkC · RdkD
-/
import Derived.Test.YtjcfimmcogkopaaGreatYO02
set_option linter.unusedSimpArgs false
set_option linter.unusedVariables false
set_option maxRecDepth 100000
namespace Go.Proofs.YtjcfimmcogkopaaGreat.Sep
open Go.RowKit
open Go.Proofs.YtjcfimmcogkopaaGreat.Mem (AZ Ci Chg Au)
structure RDk (d : DiskD) where
  F : Ass
  Y : Ass
  sv : Value
  nv : Value
  wv : Value
  sl : List RFl
  nl : List RFl
  W : List OpV
  fz : Int
  hs : Eg sl
  hn : Eg nl
  ps : (FT sl).Perm d.syn
  pn : (FT nl).Perm d.now
  hW : DE W = d.wait
  rs : Fh F sv sl
  rn : Fh F nv nl
  ys : ∀ y : RFl, y ∈ sl → Cu Y y.v y.d
  yn : ∀ y : RFl, y ∈ nl → Cu Y y.v y.d
  yw : ∀ x : OpV, x ∈ W → Cu Y x.v x.o.data
  yc : ∀ x : OpV, x ∈ W → x.o.data.length ≤ x.c
  hok : Fe d.syn d.wait
  few : ∀ k, ((d.wait.take k).foldl AP d.syn).length ≤ 64
  hz : ∀ k, d.fuse = some k → fz = (k : Int)
  zr : -9223372036854775808 ≤ fz ∧ fz ≤ 9223372036854775807
  nc : nv.cells = #[nv] ∧ nv.oneCell' = true
  sc : sv.cells = #[sv] ∧ sv.oneCell' = true
variable {p : Nat} {d : DiskD} {rs : List RowT} {w : World} {v : Value}
def AB (p : Nat) (d : DiskD) : Ass := fun rs => ∃ x : RDk d, Ak [cell p 61 #[.int .i64 d.room, x.sv, x.nv, x.wv, .bool d.fuse.isSome, .int .i64 x.fz, .bool d.down], x.F, x.Y, Ap 107 5 encRO x.wv x.W] rs
theorem RDk.nlen (x : RDk d) : x.nl.length ≤ 64 := by
 have h1 := x.few d.wait.length
 rw [List.take_length] at h1
 have h2 := x.pn.length_eq
 unfold FT at h2
 rw [List.length_map] at h2
 have h3 : d.now.length ≤ 64 := h1
 omega
theorem RDk.wlen (x : RDk d) : x.W.length = d.wait.length := by rw [← x.hW]; simp [DE]
theorem RDk.snd (x : RDk d) : (AH d.syn).Nodup := (CD x.ps).nodup_iff.1 (DD x.hs)
theorem RDk.nnd (x : RDk d) : (AH d.now).Nodup := (CD x.pn).nodup_iff.1 (DD x.hn)
theorem Vg {l : List RFl} {y : RFl} (h : y ∈ l) : y.d.length ≤ AF (FT l) := by
  unfold AF FT
  rw [List.map_map]
  obtain ⟨j, hj⟩ := List.getElem?_of_mem h
  induction l generalizing j with
  | nil => cases h
  | cons a l ih =>
    simp only [List.map_cons, List.sum_cons, Function.comp]
    cases j with
    | zero => obtain rfl := Option.some.inj hj; omega
    | succ j =>
      have := ih (List.mem_of_getElem? (by simpa using hj)) j (by simpa using hj)
      simp only [Function.comp_def] at this ⊢
      omega
theorem RDk.nused (x : RDk d) : AF (FT x.nl) = AF d.now := Dj x.pn
theorem RDk.nbig (x : RDk d) (hf : d.fit) {y : RFl} (h : y ∈ x.nl) : y.d.length ≤ 1099511627776 := by
 have h1 := Vg h
 rw [x.nused] at h1
 exact Nat.le_trans h1 (H5 hf x.snd x.hok)
theorem Ww {F G : Ass} {l : List RFl} (h : Fh F v l) : Fh (Do [F, G]) v l := fun rs w h1 h2 => by
 obtain ⟨a, b, rfl, h3, _⟩ := h1
 exact h a w h3 (AN.2 fun x hx => AN.1 h2 x (List.mem_append_left _ hx))
theorem Wx {F G : Ass} {l : List RFl} (h : Fh G v l) : Fh (Do [F, G]) v l := fun rs w h1 h2 => by
 obtain ⟨a, b, rfl, _, h3⟩ := h1
 exact h b w h3.one' (AN.2 fun x hx => AN.1 h2 x (List.mem_append_right _ hx))
theorem I0 {F G : Ass} {l : List UInt8} (h : Cu F v l) : Cu (Do [F, G]) v l := fun rs w h1 h2 => by
 obtain ⟨a, b, rfl, h3, _⟩ := h1
 exact h a w h3 (AN.2 fun x hx => AN.1 h2 x (List.mem_append_left _ hx))
theorem OE {F G : Ass} {l : List UInt8} (h : Cu G v l) : Cu (Do [F, G]) v l := fun rs w h1 h2 => by
 obtain ⟨a, b, rfl, _, h3⟩ := h1
 exact h b w h3.one' (AN.2 fun x hx => AN.1 h2 x (List.mem_append_right _ hx))
def RDk.turn (x : RDk d) (d' : DiskD) (fz : Int) (hsy : d'.syn = d.syn) (hwa : d'.wait = d.wait) (hz : ∀ k, d'.fuse = some k → fz = (k : Int)) (zr : -9223372036854775808 ≤ fz ∧ fz ≤ 9223372036854775807) : RDk d' where
  F := x.F
  Y := x.Y
  sv := x.sv
  nv := x.nv
  wv := x.wv
  sl := x.sl
  nl := x.nl
  W := x.W
  fz := fz
  hs := x.hs
  hn := x.hn
  ps := by rw [hsy]; exact x.ps
  pn := by unfold DiskD.now; rw [hsy, hwa]; exact x.pn
  hW := by rw [hwa]; exact x.hW
  rs := x.rs
  rn := x.rn
  ys := x.ys
  yn := x.yn
  yw := x.yw
  yc := x.yc
  hok := by rw [hsy, hwa]; exact x.hok
  few := by rw [hsy, hwa]; exact x.few
  hz := hz
  zr := zr
  nc := x.nc
  sc := x.sc
theorem T4 {d : DiskD} {o : OpD} (h : ∀ k, ((d.wait.take k).foldl AP d.syn).length ≤ 64) (h1 : (AP d.now o).length ≤ 64) (k : Nat) : (((d.wait ++ [o]).take k).foldl AP d.syn).length ≤ 64 := by
  rcases Nat.lt_or_ge d.wait.length k with hk | hk
  · rw [List.take_of_length_le (by simp; omega), List.foldl_append]
    exact h1
  · rw [List.take_append_of_le_length hk]
    exact h k
def RDk.does (x : RDk d) {o : OpD} {z : RDo} {wv' : Value} {y : OpV} (hy : y.o = o) (hz : Ei x.nl o z) (ho : MM d.now o) (hf : (AP d.now o).length ≤ 64) {G H : Ass} (hG : Fh G z.rv z.rl) (hH : Cu H z.bv z.bd) {K : Ass} (hK : Cu K y.v y.o.data) (hyc : y.o.data.length ≤ y.c) (hc : z.rv.cells = #[z.rv] ∧ z.rv.oneCell' = true) : RDk (Cj d o) where
  F := Do [x.F, G]
  Y := Do [Do [x.Y, K], H]
  sv := x.sv
  nv := z.rv
  wv := wv'
  sl := x.sl
  nl := z.rl
  W := x.W ++ [y]
  fz := x.fz
  hs := x.hs
  hn := hz.1
  ps := x.ps
  pn := by rw [Cg]; exact hz.2.1 _ x.pn
  hW := by
    show DE (x.W ++ [y]) = d.wait ++ [o]
    rw [← x.hW, ← hy]; simp [DE]
  rs := Ww x.rs
  rn := Wx hG
  ys := fun q hq => I0 (I0 (x.ys q hq))
  yn := fun q hq => by
    rcases hz.2.2 q hq with h | ⟨h1, h2⟩
    · exact I0 (I0 (x.yn q h))
    · rw [h1, h2]; exact OE hH
  yw := fun q hq => by
    rcases List.mem_append.1 hq with h | h
    · exact I0 (I0 (x.yw q h))
    · rw [List.mem_singleton.1 h]; exact I0 (OE hK)
  yc := fun q hq => by
    rcases List.mem_append.1 hq with h | h
    · exact x.yc q h
    · rw [List.mem_singleton.1 h]; exact hyc
  hok := Jj x.hok ho
  few := T4 x.few hf
  hz := x.hz
  zr := x.zr
  nc := hc
  sc := x.sc
theorem Ld {a b : Ass} {os : List Ass} {rs : List RowT} : Ak (a :: b :: os) rs ↔ Ak (Do [a, b] :: os) rs := by
  constructor
  · rintro ⟨r1, r2, rfl, h1, r3, r4, rfl, h2, h3⟩
    exact ⟨r1 ++ r3, r4, by simp, ⟨r1, r3, rfl, h1, r3, [], by simp, h2, rfl⟩, h3⟩
  · rintro ⟨r1, r2, rfl, ⟨a1, a2, rfl, h1, h2⟩, h3⟩
    exact ⟨a1, a2 ++ r2, by simp, h1, a2, r2, rfl, h2.one', h3⟩
def DG (p : Nat) (d : DiskD) (v : Value) (b : List UInt8) : Ass := fun rs => ∃ x : RDk d, (Cu x.Y v b ∧ ∃ A c, v = .slice A b.length c) ∧ Ak [cell p 61 #[.int .i64 d.room, x.sv, x.nv, x.wv, .bool d.fuse.isSome, .int .i64 x.fz, .bool d.down], x.F, x.Y, Ap 107 5 encRO x.wv x.W] rs
theorem E3 {b : List UInt8} : ∀ rs, Ak [DG p d v b] rs → AB p d rs := fun rs h => by
 obtain ⟨x, _, hx⟩ := h.one'
 exact ⟨x, hx⟩
theorem Q5 {b : List UInt8} : ∀ rs, DG p d v b rs → ∃ A c, v = .slice A b.length c := fun rs ⟨x, h, _⟩ => h.2
theorem FO {b : List UInt8} : Cu (DG p d v b) v b := fun rs w ⟨x, ⟨hx, _⟩, h⟩ hr => by
 obtain ⟨r1, r2, rfl, h1, r3, r4, rfl, h2, r5, r6, rfl, h3, h4⟩ := h
 exact hx r5 w h3 (AN.2 fun q hq => AN.1 hr q (by simp [hq]))
theorem I1 {e : TypeId} {k : Nat} {α : Type} {enc : α → List Value} : Ap e k enc (.slice none 0 0) [] [] := OL e k enc
def Xk (room : Int) : RDk (HK room) where
  F := EF
  Y := EF
  sv := .slice none 0 0
  nv := .slice none 0 0
  wv := .slice none 0 0
  sl := []
  nl := []
  W := []
  fz := 0
  hs := List.Pairwise.nil
  hn := List.Pairwise.nil
  ps := .refl _
  pn := .refl _
  hW := rfl
  rs := fun rs w h1 h2 => by rw [show rs = [] from h1] at *; exact CI [] w I1 h2
  rn := fun rs w h1 h2 => by rw [show rs = [] from h1] at *; exact CI [] w I1 h2
  ys := fun y h => nomatch h
  yn := fun y h => nomatch h
  yw := fun y h => nomatch h
  yc := fun y h => nomatch h
  hok := trivial
  few := fun k => by show ((([] : List OpD).take k).foldl AP []).length ≤ 64; rw [List.take_nil]; decide
  hz := fun k h => nomatch h
  zr := by decide
  nc := ⟨rfl, rfl⟩
  sc := ⟨rfl, rfl⟩
theorem T5 {room : Int} : ∀ rs, Ak [cell p 61 #[.int .i64 room, .slice none 0 0, .slice none 0 0, .slice none 0 0, .bool false, .int .i64 0, .bool false]] rs → AB p (HK room) rs := fun rs h => by
 refine ⟨Xk room, ?_⟩
 obtain ⟨r1, r2, rfl, h1, rfl⟩ := h
 exact ⟨r1, [], rfl, h1, [], [], rfl, rfl, [], [], rfl, rfl, [], [], rfl, I1, rfl⟩
theorem Dl {fu dn : Bool} (hf : d.fuse.isSome = fu) (hd : d.down = dn) : ∀ rs, AB p d rs → ∃ x : RDk d, Ak [cell p 61 #[.int .i64 d.room, x.sv, x.nv, x.wv, .bool fu, .int .i64 x.fz, .bool dn], x.F, x.Y, Ap 107 5 encRO x.wv x.W] rs := fun rs h => by subst hf; subst hd; exact h
theorem T6 {k : Nat} {dn : Bool} (hf : d.fuse = some k) (hd : d.down = dn) : ∀ rs, AB p d rs → ∃ x : RDk d, Ak [cell p 61 #[.int .i64 d.room, x.sv, x.nv, x.wv, .bool true, .int .i64 (k : Int), .bool dn], x.F, x.Y, Ap 107 5 encRO x.wv x.W] rs := fun rs ⟨x, h⟩ => by
 refine ⟨x, ?_⟩
 rw [x.hz k hf] at h
 rw [hf, hd] at h
 exact h
theorem L4 {d' : DiskD} (x : RDk d) {room fz : Int} {fu dn : Bool} (hr : d'.room = room) (hsy : d'.syn = d.syn) (hwa : d'.wait = d.wait) (hfu : d'.fuse.isSome = fu) (hdn : d'.down = dn) (hz : ∀ k, d'.fuse = some k → fz = (k : Int)) (zr : -9223372036854775808 ≤ fz ∧ fz ≤ 9223372036854775807) : ∀ rs, Ak [cell p 61 #[.int .i64 room, x.sv, x.nv, x.wv, .bool fu, .int .i64 fz, .bool dn], x.F, x.Y, Ap 107 5 encRO x.wv x.W] rs → AB p d' rs := fun rs h => ⟨x.turn d' fz hsy hwa hz zr, by subst hr; subst hfu; subst hdn; exact h⟩
theorem Cz (x : RDk d) {fu dn : Bool} (hf : d.fuse.isSome = fu) (hd : d.down = dn) : ∀ rs, Ak [cell p 61 #[.int .i64 d.room, x.sv, x.nv, x.wv, .bool fu, .int .i64 x.fz, .bool dn], x.F, x.Y, Ap 107 5 encRO x.wv x.W] rs → AB p d rs := fun rs h => ⟨x, by subst hf; subst hd; exact h⟩
theorem Fi (d : DiskD) : (d.down = true ∧ Bj d = (d, 3)) ∨ (d.down = false ∧ d.fuse = some 0 ∧ Bj d = ({ d with down := true }, 3)) ∨ (d.down = false ∧ (∃ k, d.fuse = some (k + 1) ∧ Bj d = ({ d with fuse := some k }, 0))) ∨ (d.down = false ∧ d.fuse = none ∧ Bj d = (d, 0)) := by
  obtain ⟨room, syn, wait, fuse, down⟩ := d
  cases down with
  | true => left; exact ⟨rfl, by unfold Bj; rw [if_pos (.inl rfl)]⟩
  | false =>
    right
    cases fuse with
    | none => right; right; exact ⟨rfl, rfl, by unfold Bj; rw [if_neg (by simp)]; rfl⟩
    | some k =>
      cases k with
      | zero => left; exact ⟨rfl, rfl, by unfold Bj; rw [if_pos (.inr rfl)]⟩
      | succ k => right; left; exact ⟨rfl, k, rfl, by unfold Bj; rw [if_neg (by simp)]; rfl⟩
theorem T7 (x : RDk d) {o : OpD} {z : RDo} {wv' rv : Value} {y : OpV} (hy : y.o = o) (hz : Ei x.nl o z ∧ z.rv = rv) (ho : MM d.now o) (hf : (AP d.now o).length ≤ 64) {K : Ass} (hK : Cu K y.v y.o.data) (hyc : y.o.data.length ≤ y.c) {fu dn : Bool} (hfu : d.fuse.isSome = fu) (hdn : d.down = dn) : ∀ rs, Ak [cell p 61 #[.int .i64 d.room, x.sv, rv, wv', .bool fu, .int .i64 x.fz, .bool dn], x.F, Ap 54 2 encRF rv z.rl, Do [x.Y, K], Ap 5 1 encB z.bv z.bd, Ap 107 5 encRO wv' (x.W ++ [y])] rs → AB p (Cj d o) rs := fun rs h => by
 obtain ⟨hz, hrv⟩ := hz
 subst hrv
 subst hfu; subst hdn
 obtain ⟨r1, _, rfl, h1, hr⟩ := h
 have hc : z.rv.cells = #[z.rv] ∧ z.rv.oneCell' = true := by
  obtain ⟨_, _, rfl, _, _, _, rfl, h9, _⟩ := hr
  exact Ap.c1 h9
 refine ⟨x.does (wv' := wv') hy hz ho hf CI Db hK hyc hc, ?_⟩
 obtain ⟨a1, a2, rfl, ⟨b1, b2, rfl, h2, h3⟩, h4⟩ := Ld.1 hr
 exact ⟨r1, _, rfl, h1, b1 ++ b2, _, rfl, ⟨b1, b2, rfl, h2, h3⟩, Ld.1 h4⟩
theorem AW.too {X Y : Type} {P : Program} {F : FuncId} {args : Array Value} {pre : List Ass} {val : X → Value} {post : X → List Ass} {val' : Y → Value} {post' : Y → List Ass} (h : AW P F args pre val post) (hi : ∀ x, ∃ y, val x = val' y ∧ ∀ rs, Ak (post x) rs → ∃ rs', rs.Perm rs' ∧ Ak (post' y) rs') : AW P F args pre val' post' := fun w rs h1 h2 h3 => (h w rs h1 h2 h3).mono (by
 rintro e w' ⟨x, he, rs', hp, hc⟩
 obtain ⟨y, hv, hq⟩ := hi x
 obtain ⟨rs2, p, hp2⟩ := hq rs' hp
 exact ⟨y, by rw [he, hv], rs2, hp2, I3 hc p⟩)
def Q6 (l : List RFl) (o : OpD) (rv : Value) : Ass := fun rs => ∃ z : RDo, Ak [Ap 5 1 encB z.bv z.bd, Ap 54 2 encRF rv z.rl, fact (Ei l o z ∧ z.rv = rv)] rs
theorem Q6.open_ {l : List RFl} {o : OpD} {rv : Value} : ∀ rs, Q6 l o rv rs → ∃ z : RDo, Ak [Ap 5 1 encB z.bv z.bd, Ap 54 2 encRF rv z.rl, fact (Ei l o z ∧ z.rv = rv)] rs := fun _ h => h
theorem Q6.c1 {l : List RFl} {o : OpD} {rv : Value} {rs : List RowT} (h : Q6 l o rv rs) : rv.cells = #[rv] ∧ rv.oneCell' = true := by
 obtain ⟨z, r1, _, rfl, h1, r2, _, rfl, h2, _⟩ := h
 exact Ap.c1 h2
theorem Sq {X Y : Ass} {v : Value} {l : List RFl} {x : OpV} (hX : Fh X v l) (hl : l.length ≤ 1000000) (hs : Eg l) (ho : MM (FT l) x.o) (hY : ∀ y : RFl, y ∈ l → Cu Y y.v y.d ∧ y.d.length ≤ 1099511627776) (hO : Cu Y x.v x.o.data) (hbl : x.o.data.length ≤ 1099511627776) : AW Tryz.prog 72 #[v, .agg (encRO x).toArray] [X, Y] (fun rv : Value => rv) (fun rv => [X, Y, Q6 l x.o rv]) := (Sp hX hl hs ho hY hO hbl).too (fun z => ⟨z.rv, rfl, fun rs h => by
 obtain ⟨r1, _, rfl, h1, r2, _, rfl, h2, r3, _, rfl, h3, r4, _, rfl, h4, r5, _, rfl, ⟨rfl, h5⟩, rfl⟩ := h
 exact ⟨_, .refl _, r1, _, rfl, h1, r2, _, rfl, h2, r3 ++ r4, [], by simp, ⟨z, r3, _, rfl, h3, r4, [], by simp, h4, [], [], rfl, ⟨rfl, h5, rfl⟩, rfl⟩, rfl⟩⟩)
theorem T8 (x : RDk d) (n : List UInt8) : AL d.now n = AL (FT x.nl) n := (D7 x.pn (DD x.hn) n).symm
theorem RDk.at_ (x : RDk d) (n : List UInt8) : (∃ (j : Nat) (y : RFl), x.nl[j]? = some y ∧ y.n = n ∧ (∀ (k : Nat) (z : RFl), k < j → x.nl[k]? = some z → z.n ≠ n) ∧ AL d.now n = some y.d ∧ y ∈ x.nl) ∨ ((∀ z : RFl, z ∈ x.nl → z.n ≠ n) ∧ AL d.now n = none) := by
  rcases GU x.hn n with ⟨j, y, h1, h2, h3, h4⟩ | ⟨h1, h2⟩
  · exact .inl ⟨j, y, h1, h2, h3, by rw [T8 x]; exact h4, List.mem_of_getElem? h1⟩
  · exact .inr ⟨h1, by rw [T8 x]; exact h2⟩
theorem RDk.no_ (x : RDk d) {n : List UInt8} (h : AL d.now n = none) : ∀ z : RFl, z ∈ x.nl → z.n ≠ n := by
  rcases x.at_ n with ⟨j, y, _, _, _, h4, _⟩ | ⟨h1, _⟩
  · rw [h] at h4; cases h4
  · exact h1
theorem RDk.yes_ (x : RDk d) {n b : List UInt8} (h : AL d.now n = some b) : ∃ (j : Nat) (y : RFl), x.nl[j]? = some y ∧ y.n = n ∧ (∀ (k : Nat) (z : RFl), k < j → x.nl[k]? = some z → z.n ≠ n) ∧ y.d = b ∧ y ∈ x.nl := by
  rcases x.at_ n with ⟨j, y, h1, h2, h3, h4, h5⟩ | ⟨_, h4⟩
  · exact ⟨j, y, h1, h2, h3, Option.some.inj (h4.symm.trans h), h5⟩
  · rw [h] at h4; cases h4
def EP (l : List RFl) : Nat := (l.map fun x => x.d.length).sum
theorem T9 (l : List RFl) : EP l = AF (FT l) := by unfold EP AF FT; rw [List.map_map]; rfl
theorem RDk.usedN (x : RDk d) : EP x.nl = AF d.now := by rw [T9, x.nused]
theorem Qc {l : List RFl} {i : Nat} {y : RFl} (h : l[i]? = some y) : EP (l.take (i + 1)) = EP (l.take i) + y.d.length := by
 unfold EP
 rw [List.take_add_one, h]
 simp
theorem Ua (l : List RFl) (i : Nat) : EP (l.take i) ≤ EP l := by
 have h : EP l = EP (l.take i) + EP (l.drop i) := by
  unfold EP
  rw [← List.sum_append, ← List.map_append, List.take_append_drop]
 omega
end Go.Proofs.YtjcfimmcogkopaaGreat.Sep
namespace Go.Proofs.YtjcfimmcogkopaaGreat.Sep
open Go.RowKit
open Go.Proofs.YtjcfimmcogkopaaGreat.Mem (AZ Ci Chg Au)
theorem M1 {p : Nat} {d d1 : DiskD} {e : Nat} (h : Bj d = (d1, e)) : AW Tryz.prog 32 #[.pointer (some ⟨p, 0, none⟩)] [AB p d] (fun (_ : Unit) => .int .i64 (e : Int)) (fun (_ : Unit) => [AB p d1]) := by
 refine Be (args := [.pointer (some ⟨p, 0, none⟩)]) 39 Tryz.func32 rfl rfl rfl ?_; intro w rs
 refine Ad (Af Ai rfl (Ab (Aq ?_)))
 rcases Fi d with ⟨hdn, hb⟩ | ⟨hdn, hz, hb⟩ | ⟨hdn, k, hz, hb⟩ | ⟨hdn, hz, hb⟩
 obtain ⟨rfl, rfl⟩ := Prod.mk.inj (hb.symm.trans h)
 obtain ⟨fu, hfu⟩ : ∃ fu, d.fuse.isSome = fu := ⟨_, rfl⟩
 refine Bd 0 rfl (Dl hfu hdn) (fun _ => rfl) ?_; rintro x
 refine Ad (Af Ai rfl (Ac rfl (.pointer (some ⟨p, 0, none⟩)) (fun b w hb hH => by exact BQ rfl rfl hb) (Af Ai rfl (Ac rfl (.bool true) (fun b w hb hH => Bb rfl rfl (Bn BP rfl) (hH.row 0 rfl) hb) (Af Ai rfl (Ab (Aw rfl (AC (AO (Aq (Ad (Af Ai rfl (Ac rfl (.pointer (some ⟨p, 0, none⟩)) (fun b w hb hH => by exact BQ rfl rfl hb) (Af Ai rfl ?_))))))))))))))
 refine Ac rfl (.bool true) (fun b w hb hH => Bb rfl rfl (Bn BP rfl) (hH.row 0 rfl) hb) (Ab (AI rfl (Bk [0, 1, 2, 3] rfl (Cz x hfu hdn) rfl (Ad (Af Ai rfl (Ab (Av (C0 ?_))))))))
 exact As (.tmp rfl) (fun w h => AG () rfl [0] rfl h CV) rfl
 obtain ⟨rfl, rfl⟩ := Prod.mk.inj (hb.symm.trans h)
 refine Bd 0 rfl (T6 hz hdn) (fun _ => rfl) ?_; rintro x
 refine Ad (Af Ai rfl (Ac rfl (.pointer (some ⟨p, 0, none⟩)) (fun b w hb hH => by exact BQ rfl rfl hb) (Af Ai rfl (Ac rfl (.bool false) (fun b w hb hH => Bb rfl rfl (Bn BP rfl) (hH.row 0 rfl) hb) (Af Ai rfl (Ac rfl (.pointer (some ⟨p, 0, none⟩)) (fun b w hb hH => by exact BQ rfl rfl hb) (Af Ai rfl (Ac rfl (.bool true) (fun b w hb hH => Bb rfl rfl (Bn BP rfl) (hH.row 0 rfl) hb) (Af Ai rfl ?_)))))))))
 refine Ac rfl (.pointer (some ⟨p, 0, none⟩)) (fun b w hb hH => by exact BQ rfl rfl hb) (Af Ai rfl (Ac rfl (.int .i64 ((0 : Nat) : Int)) (fun b w hb hH => Bb rfl rfl (Bn Bt rfl) (hH.row 0 rfl) hb) (Ac rfl (.bool true) (fun b w hb hH => Bc rfl rfl rfl (JV (by omega)) hb) (Af Ai rfl (Ab (AI rfl (BV (Af Ai rfl (Ac rfl (.pointer (some ⟨p, 0, none⟩)) (fun b w hb hH => by exact BQ rfl rfl hb) (Af Ai rfl (AU (post := fun _ => [cell p 61 #[.int .i64 d.room, x.sv, x.nv, x.wv, .bool true, .int .i64 ((0 : Nat) : Int), .bool true], x.F, x.Y, Ap 107 5 encRO x.wv x.W]) rfl rfl (AQ 0 (v := .bool true) #[.int .i64 d.room, x.sv, x.nv, x.wv, .bool true, .int .i64 ((0 : Nat) : Int), .bool true] BP.2 rfl rfl rfl rfl rfl rfl rfl rfl rfl) ?_))))))))))); rintro ⟨⟩
 refine Bi (AO (Aq (Ad (Af Ai rfl (Ac rfl (.pointer (some ⟨p, 0, none⟩)) (fun b w hb hH => by exact BQ rfl rfl hb) (Af Ai rfl (Ac rfl (.bool true) (fun b w hb hH => Bb rfl rfl (Bn BP rfl) (hH.row 0 rfl) hb) (Ab (AI rfl (Bk [0, 1, 2, 3] rfl (L4 (d' := { d with down := true }) x rfl rfl rfl (by rw [show ({ d with down := true } : DiskD).fuse = d.fuse from rfl, hz]; rfl) rfl (fun k hk => by rw [show ({ d with down := true } : DiskD).fuse = d.fuse from rfl, hz] at hk; cases hk; rfl) (by decide)) rfl (Ad (Af Ai rfl (Ab (Av (C0 ?_)))))))))))))))
 exact As (.tmp rfl) (fun w h => AG () rfl [0] rfl h CV) rfl
 obtain ⟨rfl, rfl⟩ := Prod.mk.inj (hb.symm.trans h)
 refine Bd 0 rfl (T6 hz hdn) (fun _ => rfl) ?_; rintro x
 have hkz := x.zr
 rw [x.hz _ hz] at hkz
 refine Ad (Af Ai rfl (Ac rfl (.pointer (some ⟨p, 0, none⟩)) (fun b w hb hH => by exact BQ rfl rfl hb) (Af Ai rfl (Ac rfl (.bool false) (fun b w hb hH => Bb rfl rfl (Bn BP rfl) (hH.row 0 rfl) hb) (Af Ai rfl (Ac rfl (.pointer (some ⟨p, 0, none⟩)) (fun b w hb hH => by exact BQ rfl rfl hb) (Af Ai rfl (Ac rfl (.bool true) (fun b w hb hH => Bb rfl rfl (Bn BP rfl) (hH.row 0 rfl) hb) (Af Ai rfl ?_)))))))))
 refine Ac rfl (.pointer (some ⟨p, 0, none⟩)) (fun b w hb hH => by exact BQ rfl rfl hb) (Af Ai rfl (Ac rfl (.int .i64 (((k + 1 : Nat)) : Int)) (fun b w hb hH => Bb rfl rfl (Bn Bt rfl) (hH.row 0 rfl) hb) (Ac rfl (.bool false) (fun b w hb hH => Bc rfl rfl rfl (JR (by omega)) hb) (Af Ai rfl (Ab (Aw rfl (AC (AO (Aq (Ad (Af Ai rfl (Ac rfl (.pointer (some ⟨p, 0, none⟩)) (fun b w hb hH => by exact BQ rfl rfl hb) (Af Ai rfl (Ac rfl (.bool false) (fun b w hb hH => Bb rfl rfl (Bn BP rfl) (hH.row 0 rfl) hb) ?_))))))))))))))
 refine Ab (Aw rfl (AC (AO (Aq (Ad (Af Ai rfl (Ac rfl (.pointer (some ⟨p, 0, none⟩)) (fun b w hb hH => by exact BQ rfl rfl hb) (Af Ai rfl (Ac rfl (.bool true) (fun b w hb hH => Bb rfl rfl (Bn BP rfl) (hH.row 0 rfl) hb) (Ab (AI rfl (BV (Af Ai rfl (Ac rfl (.pointer (some ⟨p, 0, none⟩)) (fun b w hb hH => by exact BQ rfl rfl hb) (Af Ai rfl (Ac rfl (.int .i64 (((k + 1 : Nat)) : Int)) (fun b w hb hH => Bb rfl rfl (Bn Bt rfl) (hH.row 0 rfl) hb) ?_))))))))))))))))
 refine Ac rfl (.int .i64 ((k : Nat) : Int)) (fun b w hb hH => AS rfl rfl rfl rfl (by rw [IntWalk.i64_in _ (by omega)]; omega) hb) (Ac rfl (.pointer (some ⟨p, 0, none⟩)) (fun b w hb hH => by exact BQ rfl rfl hb) (Af Ai rfl (AU (post := fun _ => [cell p 61 #[.int .i64 d.room, x.sv, x.nv, x.wv, .bool true, .int .i64 ((k : Nat) : Int), .bool false], x.F, x.Y, Ap 107 5 encRO x.wv x.W]) rfl rfl (AQ 0 (v := .int .i64 ((k : Nat) : Int)) #[.int .i64 d.room, x.sv, x.nv, x.wv, .bool true, .int .i64 ((k : Nat) : Int), .bool false] Bt.2 rfl rfl rfl rfl rfl rfl rfl rfl rfl) ?_))); rintro ⟨⟩
 refine Bi (AO (Bk [0, 1, 2, 3] rfl (L4 (d' := { d with fuse := some k }) x rfl rfl rfl rfl hdn (fun q hq => by cases hq; rfl) (by omega)) rfl (Ad (Af Ai rfl (Ab (Av ?_))))))
 exact As (.tmp rfl) (fun w h => AG () rfl [0] rfl h CV) rfl
 obtain ⟨rfl, rfl⟩ := Prod.mk.inj (hb.symm.trans h)
 have hfu : d.fuse.isSome = false := by rw [hz]; rfl
 refine Bd 0 rfl (Dl hfu hdn) (fun _ => rfl) ?_; rintro x
 refine Ad (Af Ai rfl (Ac rfl (.pointer (some ⟨p, 0, none⟩)) (fun b w hb hH => by exact BQ rfl rfl hb) (Af Ai rfl (Ac rfl (.bool false) (fun b w hb hH => Bb rfl rfl (Bn BP rfl) (hH.row 0 rfl) hb) (Af Ai rfl (Ac rfl (.pointer (some ⟨p, 0, none⟩)) (fun b w hb hH => by exact BQ rfl rfl hb) (Af Ai rfl (Ac rfl (.bool false) (fun b w hb hH => Bb rfl rfl (Bn BP rfl) (hH.row 0 rfl) hb) (Af Ai rfl ?_)))))))))
 refine Ab (Aw rfl (AC (AO (Aq (Ad (Af Ai rfl (Ac rfl (.pointer (some ⟨p, 0, none⟩)) (fun b w hb hH => by exact BQ rfl rfl hb) (Af Ai rfl (Ac rfl (.bool false) (fun b w hb hH => Bb rfl rfl (Bn BP rfl) (hH.row 0 rfl) hb) (Ab (Aw rfl (AC (AO (Aq (Ad (Af Ai rfl (Ac rfl (.pointer (some ⟨p, 0, none⟩)) (fun b w hb hH => by exact BQ rfl rfl hb) (Af Ai rfl (Ac rfl (.bool false) (fun b w hb hH => Bb rfl rfl (Bn BP rfl) (hH.row 0 rfl) hb) ?_)))))))))))))))))))
 refine Ab (Aw rfl (AC (AO (Bk [0, 1, 2, 3] rfl (Cz x hfu hdn) rfl (Ad (Af Ai rfl (Ab (Av ?_))))))))
 exact As (.tmp rfl) (fun w h => AG () rfl [0] rfl h CV) rfl
theorem Ub (w : World) (n : List UInt8) (r : Bool) (hr : Cv n = r) (hl : n.length ≤ 9223372036854775807) : Calls Tryz.prog 65 #[.string (bs n)] w fun e w' => e = .returned (.bool r) ∧ Below w.heap.size w w' := by
 refine Fz (args := [.string (bs n)]) 11 Tryz.func65 rfl rfl rfl (Ad (Af Ai rfl (Ab ?_)))
 rcases Classical.em (1 ≤ n.length) with h1 | h1
 rcases Classical.em (n.length ≤ 16) with h2 | h2
 obtain rfl : r = true := by rw [← hr]; unfold Cv; simp [h1, h2]
 refine Ad (Af Ai rfl (Ac rfl (.int .i64 (n.length : Int)) (fun b w hb hH => BT rfl rfl (fun cs => (fun w cs => CS Tryz.underlying9 _ _ w cs) w cs) hb) (Ac rfl (.bool true) (fun b w hb hH => Bc rfl rfl rfl (B5 (by omega)) hb) (Af Ai rfl (Ac rfl (.int .i64 (n.length : Int)) (fun b w hb hH => BT rfl rfl (fun cs => (fun w cs => CS Tryz.underlying9 _ _ w cs) w cs) hb) (Ac rfl (.bool true) (fun b w hb hH => Bc rfl rfl rfl (C2 (by omega)) hb) (Af Ai rfl (Ab (Av ?_)))))))))
 exact As (.tmp rfl) (fun w h => ⟨rfl, Au h.up⟩) rfl
 obtain rfl : r = false := by rw [← hr]; unfold Cv; simp [h2]
 refine Ad (Af Ai rfl (Ac rfl (.int .i64 (n.length : Int)) (fun b w hb hH => BT rfl rfl (fun cs => (fun w cs => CS Tryz.underlying9 _ _ w cs) w cs) hb) (Ac rfl (.bool true) (fun b w hb hH => Bc rfl rfl rfl (B5 (by omega)) hb) (Af Ai rfl (Ac rfl (.int .i64 (n.length : Int)) (fun b w hb hH => BT rfl rfl (fun cs => (fun w cs => CS Tryz.underlying9 _ _ w cs) w cs) hb) (Ac rfl (.bool false) (fun b w hb hH => Bc rfl rfl rfl (DS (by omega)) hb) (Af Ai rfl (Ab (Av ?_)))))))))
 exact As (.tmp rfl) (fun w h => ⟨rfl, Au h.up⟩) rfl
 obtain rfl : r = false := by rw [← hr]; unfold Cv; simp [h1]
 refine Ad (Af Ai rfl (Ac rfl (.int .i64 (n.length : Int)) (fun b w hb hH => BT rfl rfl (fun cs => (fun w cs => CS Tryz.underlying9 _ _ w cs) w cs) hb) (Ac rfl (.bool false) (fun b w hb hH => Bc rfl rfl rfl (Di (by omega)) hb) (Af Ai rfl (Ab (Av ?_))))))
 exact As (.tmp rfl) (fun w h => ⟨rfl, Au h.up⟩) rfl
theorem Le {p : Nat} {d : DiskD} (x : RDk d) {fu : Bool} {room : Int} (hf : d.fit) : AW Tryz.prog 56 #[.pointer (some ⟨p, 0, none⟩)] [cell p 61 #[.int .i64 room, x.sv, x.nv, x.wv, .bool fu, .int .i64 x.fz, .bool false], x.F] (fun (_ : Unit) => .int .i64 ((AF d.now : Nat) : Int)) (fun (_ : Unit) => [cell p 61 #[.int .i64 room, x.sv, x.nv, x.wv, .bool fu, .int .i64 x.fz, .bool false], x.F]) := by
 refine Be (args := [.pointer (some ⟨p, 0, none⟩)]) 33 Tryz.func56 rfl rfl rfl ?_; intro w rs
 have hn64 := x.nlen
 have hN := x.usedN
 have hbig := H5 hf x.snd x.hok
 refine Ad (Af Ai rfl (Ab (Ad (Af Ai rfl (Ab (Aq (Ad (Af Ai rfl (Ab (Bm (C9 (α := Nat) (fun i => [(0, .pointer (some ⟨p, 0, none⟩)), (2, .int .i64 0), (3, .int .i64 ((EP (x.nl.take i) : Nat) : Int)), (4, .int .i64 ((i : Nat) : Int))]) (fun i => [cell p 61 #[.int .i64 room, x.sv, x.nv, x.wv, .bool fu, .int .i64 x.fz, .bool false], x.F]) (fun i => i ≤ x.nl.length) (fun i => x.nl.length - i) 0 (Nat.zero_le _) ⟨rfl, rfl, rfl, rfl, trivial⟩ rfl ?_)))))))))))
 rintro i hI
 refine Bv.at_ (env' := [(0, .pointer (some ⟨p, 0, none⟩)), (2, .int .i64 0), (3, .int .i64 ((EP (x.nl.take i) : Nat) : Int)), (4, .int .i64 ((i : Nat) : Int))]) (rs' := [cell p 61 #[.int .i64 room, x.sv, x.nv, x.wv, .bool fu, .int .i64 x.fz, .bool false], x.F]) ⟨rfl, rfl, rfl, rfl, trivial⟩ rfl (Aq ?_)
 rcases Nat.lt_or_ge i x.nl.length with hi | hi
 obtain ⟨y, hy⟩ : ∃ y, x.nl[i]? = some y := ⟨_, List.getElem?_eq_getElem hi⟩
 have hst := Qc hy
 have hle := Ua x.nl (i + 1)
 refine Ad (Af Ai rfl (Ac rfl (.pointer (some ⟨p, 0, none⟩)) (fun b w hb hH => by exact BQ rfl rfl hb) (Af Ai rfl (Ac rfl (x.nv) (fun b w hb hH => Bb rfl rfl (Bn AD rfl) (hH.row 0 rfl) hb) (Ac rfl (.int .i64 (x.nl.length : Int)) (fun b w hb hH => AY ((hH.rdFs 1 rfl x.rn)) Tryz.underlying55 rfl rfl hb) (Ac rfl (.bool true) (fun b w hb hH => Bc rfl rfl rfl (BN (by omega)) hb) (Af Ai rfl (Ac rfl (.pointer (some ⟨p, 0, none⟩)) (fun b w hb hH => by exact BQ rfl rfl hb) (Af Ai rfl ?_)))))))))
 refine Ac rfl (.bool false) (fun b w hb hH => Bb rfl rfl (Bn BP rfl) (hH.row 0 rfl) hb) (Af Ai rfl (Ab (AI rfl (AC (AO (Aq (Bm (BV (Af Ai rfl (Ac rfl (.pointer (some ⟨p, 0, none⟩)) (fun b w hb hH => by exact BQ rfl rfl hb) (Af Ai rfl (Ac rfl (x.nv) (fun b w hb hH => Bb rfl rfl (Bn AD rfl) (hH.row 0 rfl) hb) (Af Ai rfl (Ac rfl (Cs x.nv (i * 2)) (fun b w hb hH => BH BS ((hH.rdFs 1 rfl x.rn)) Ar (j := i) hy rfl rfl rfl hb) (Ac rfl (Cs x.nv (i * 2 + 1)) (fun b w hb hH => M8 BS (by decide) ((hH.rdFs 1 rfl x.rn)) (j := i) hy BF rfl rfl hb) ?_)))))))))))))))
 refine Ac rfl (.slice y.A y.d.length y.c) (fun b w hb hH => By BS (by decide) ((hH.rdFs 1 rfl x.rn)) (j := i) hy Cy (off := 1) rfl rfl rfl hb) (Ac rfl (.int .i64 (y.d.length : Int)) (fun b w hb hH => Gp AE rfl rfl hH hb) (Ac rfl (.int .i64 ((EP (x.nl.take (i + 1)) : Nat) : Int)) (fun b w hb hH => AS rfl rfl rfl rfl (by rw [IntWalk.i64_in _ (by omega)]; omega) hb) (Af Ai rfl (Bi (B3 (AO (BV (Af Ai rfl (Ac rfl (.int .i64 ((i + 1 : Nat) : Int)) (fun b w hb hH => AS rfl rfl rfl rfl (by rw [IntWalk.i64_in _ (by omega)]; omega) hb) (Af Ai rfl (Bi ?_)))))))))))
 exact CM (i + 1) 0 hi (show x.nl.length - (i + 1) < x.nl.length - i by omega) ⟨rfl, rfl, rfl, rfl, trivial⟩ rfl
 obtain rfl : i = x.nl.length := by omega
 refine Ad (Af Ai rfl (Ac rfl (.pointer (some ⟨p, 0, none⟩)) (fun b w hb hH => by exact BQ rfl rfl hb) (Af Ai rfl (Ac rfl (x.nv) (fun b w hb hH => Bb rfl rfl (Bn AD rfl) (hH.row 0 rfl) hb) (Ac rfl (.int .i64 (x.nl.length : Int)) (fun b w hb hH => AY ((hH.rdFs 1 rfl x.rn)) Tryz.underlying55 rfl rfl hb) (Ac rfl (.bool false) (fun b w hb hH => Bc rfl rfl rfl (B9 (by omega)) hb) (Af Ai rfl (Ab (Aw rfl (CQ (FR (FR (Br (AO ?_))))))))))))))
 have hAll : ((EP (x.nl.take x.nl.length) : Nat) : Int) = ((AF d.now : Nat) : Int) := by rw [List.take_length, hN]
 rw [hAll]
 refine Ad (Af Ai rfl (Ab (Av ?_)))
 exact As (.tmp rfl) (fun w h => AG (X := Unit) () rfl [0, 1] rfl h CV) rfl
theorem Sr {p : Nat} {d : DiskD} (x : RDk d) {fu : Bool} {room : Int} : AW Tryz.prog 56 #[.pointer (some ⟨p, 0, none⟩)] [cell p 61 #[.int .i64 room, x.sv, x.nv, x.wv, .bool fu, .int .i64 x.fz, .bool true], x.F] (fun (_ : Unit) => .int .i64 0) (fun (_ : Unit) => [cell p 61 #[.int .i64 room, x.sv, x.nv, x.wv, .bool fu, .int .i64 x.fz, .bool true], x.F]) := by
 refine Be (args := [.pointer (some ⟨p, 0, none⟩)]) 33 Tryz.func56 rfl rfl rfl ?_; intro w rs
 have hn64 := x.nlen
 refine Ad (Af Ai rfl (Ab (Ad (Af Ai rfl (Ab (Aq (Ad (Af Ai rfl (Ab (Bm (C9 (α := Nat) (fun i => [(0, .pointer (some ⟨p, 0, none⟩)), (2, .int .i64 0), (3, .int .i64 0), (4, .int .i64 ((i : Nat) : Int))]) (fun i => [cell p 61 #[.int .i64 room, x.sv, x.nv, x.wv, .bool fu, .int .i64 x.fz, .bool true], x.F]) (fun i => i = 0) (fun i => i) 0 rfl ⟨rfl, rfl, rfl, rfl, trivial⟩ rfl ?_)))))))))))
 rintro i hI
 refine Bv.at_ (env' := [(0, .pointer (some ⟨p, 0, none⟩)), (2, .int .i64 0), (3, .int .i64 0), (4, .int .i64 ((i : Nat) : Int))]) (rs' := [cell p 61 #[.int .i64 room, x.sv, x.nv, x.wv, .bool fu, .int .i64 x.fz, .bool true], x.F]) ⟨rfl, rfl, rfl, rfl, trivial⟩ rfl (Aq ?_)
 rcases Nat.lt_or_ge i x.nl.length with hi | hi
 refine Ad (Af Ai rfl (Ac rfl (.pointer (some ⟨p, 0, none⟩)) (fun b w hb hH => by exact BQ rfl rfl hb) (Af Ai rfl (Ac rfl (x.nv) (fun b w hb hH => Bb rfl rfl (Bn AD rfl) (hH.row 0 rfl) hb) (Ac rfl (.int .i64 (x.nl.length : Int)) (fun b w hb hH => AY ((hH.rdFs 1 rfl x.rn)) Tryz.underlying55 rfl rfl hb) (Ac rfl (.bool true) (fun b w hb hH => Bc rfl rfl rfl (BN (by omega)) hb) (Af Ai rfl (Ac rfl (.pointer (some ⟨p, 0, none⟩)) (fun b w hb hH => by exact BQ rfl rfl hb) (Af Ai rfl ?_)))))))))
 refine Ac rfl (.bool true) (fun b w hb hH => Bb rfl rfl (Bn BP rfl) (hH.row 0 rfl) hb) (Af Ai rfl (Ab (Aw rfl (CQ (FR (FR (Br (AO (Ad (Af Ai rfl (Ab (Av ?_))))))))))))
 exact As (.tmp rfl) (fun w h => AG () rfl [0, 1] rfl h CV) rfl
 refine Ad (Af Ai rfl (Ac rfl (.pointer (some ⟨p, 0, none⟩)) (fun b w hb hH => by exact BQ rfl rfl hb) (Af Ai rfl (Ac rfl (x.nv) (fun b w hb hH => Bb rfl rfl (Bn AD rfl) (hH.row 0 rfl) hb) (Ac rfl (.int .i64 (x.nl.length : Int)) (fun b w hb hH => AY ((hH.rdFs 1 rfl x.rn)) Tryz.underlying55 rfl rfl hb) (Ac rfl (.bool false) (fun b w hb hH => Bc rfl rfl rfl (B9 (by omega)) hb) (Af Ai rfl (Ab (Aw rfl (CQ (FR (FR (Br (AO (Ad (Af Ai rfl ?_))))))))))))))))
 refine Ab (Av ?_)
 exact As (.tmp rfl) (fun w h => AG () rfl [0, 1] rfl h CV) rfl
end Go.Proofs.YtjcfimmcogkopaaGreat.Sep
namespace Go.Proofs.YtjcfimmcogkopaaGreat.Sep
open Go.RowKit
open Go.Proofs.YtjcfimmcogkopaaGreat.Mem (AZ Ci Chg Au)
theorem Uc {p : Nat} {d : DiskD} {y : OpV} {K : Ass} (hf : d.fit) (hdn : d.down = false) (ho : MM d.now y.o) (hfew : (AP d.now y.o).length ≤ 64) (hK : Cu K y.v y.o.data) (hyc : y.o.data.length ≤ y.c) (hyl : y.o.data.length ≤ 1099511627776) : AW Tryz.prog 67 #[.pointer (some ⟨p, 0, none⟩), .agg #[.int .i64 y.o.kind, .string (bs y.o.name), .string (bs y.o.to), y.v, .int .i64 (y.o.cutS : Int)]] [AB p d, K] (fun (_ : Unit) => .int .i64 0) (fun (_ : Unit) => [AB p (Cj d y.o)]) := by
  refine Be (args := [.pointer (some ⟨p, 0, none⟩), .agg #[.int .i64 y.o.kind, .string (bs y.o.name), .string (bs y.o.to), y.v, .int .i64 (y.o.cutS : Int)]]) 26 Tryz.func67 rfl rfl rfl ?_; intro w rs
  obtain ⟨fu, hfu⟩ : ∃ fu, d.fuse.isSome = fu := ⟨_, rfl⟩
  refine Bd 0 rfl (Dl hfu hdn) (fun _ => rfl) ?_; rintro x
  refine Bk [2, 4] rfl (fun rs h => h) rfl ?_
  have hn64 := x.nlen
  have hwl := x.wlen
  have hw4 := hf.2
  have ho2 : MM (FT x.nl) y.o := NW x.pn.symm x.nnd ho
  refine Ad (Af Ai rfl (Aj (post := fun g3 => [cell g3 107 #[.int .i64 y.o.kind, .string (bs y.o.name), .string (bs y.o.to), y.v, .int .i64 (y.o.cutS : Int)], Do [x.Y, K], cell p 61 #[.int .i64 d.room, x.sv, x.nv, x.wv, .bool fu, .int .i64 x.fz, .bool false], x.F, Ap 107 5 encRO x.wv x.W]) rfl (CU (cs := #[.int .i64 y.o.kind, .string (bs y.o.name), .string (bs y.o.to), y.v, .int .i64 (y.o.cutS : Int)]) rfl rfl rfl) ?_)); rintro g3
  refine Af Ai rfl (Ab (Aq (Ep 1 rfl ?_)))
  refine BK 9 1 [⟨.quiet, [none], fun _ => .pointer (some ⟨p, 0, none⟩), []⟩, ⟨.quiet, [none], fun _ => .pointer (some ⟨p, 0, none⟩), []⟩, ⟨.quiet, [none], fun _ => .pointer (some ⟨p, 0, none⟩), [1]⟩, ⟨.quiet, [none], fun _ => .pointer (some ⟨p, 2, none⟩), [2]⟩, ⟨.quiet, [none], fun _ => x.nv, [3]⟩, ⟨.quiet, [none], fun _ => .agg #[.int .i64 y.o.kind, .string (bs y.o.name), .string (bs y.o.to), y.v, .int .i64 (y.o.cutS : Int)], []⟩, ⟨.act 0, [some false], fun _ => undef, [4, 5]⟩, ⟨.quiet, [some true], fun _ => .pointer (some ⟨p, 0, none⟩), [0]⟩, ⟨.quiet, [some true], fun _ => .pointer (some ⟨p, 2, none⟩), [7]⟩] [(0, .pointer (some ⟨p, 0, none⟩)), (3, .pointer (some ⟨g3, 0, none⟩)), (4, .int .i64 0)] (fun ρ => match ρ with | [r0] => [CJ r0 (fun zv => Q6 x.nl y.o zv) (EF), cell g3 107 #[.int .i64 y.o.kind, .string (bs y.o.name), .string (bs y.o.to), y.v, .int .i64 (y.o.cutS : Int)], Do [x.Y, K], cell p 61 #[.int .i64 d.room, x.sv, x.nv, x.wv, .bool fu, .int .i64 x.fz, .bool false], x.F, Ap 107 5 encRO x.wv x.W] | _ => []) (by kernel_rfl) (by kernel_rfl) ⟨rfl, rfl, rfl, trivial⟩ rfl ?_ ?_
  refine Aa (by intro r0_; exact ⟨rfl, fun b w hH hb => Ae Ai rfl hb⟩) (Aa (by intro r0_; exact ⟨rfl, fun b w hH hb => Ae Ai rfl hb⟩) (Aa (by intro r0_; exact ⟨rfl, fun b w hH hb => by exact BQ rfl rfl hb⟩) (Aa (by intro r0_; exact ⟨rfl, fun b w hH hb => Ae Ai rfl hb⟩) (Aa (by intro r0_; exact ⟨rfl, fun b w hH hb => Bb rfl rfl (Bn AD rfl) (hH.row 3 rfl) hb⟩) (Aa (by intro r0_; exact ⟨rfl, fun b w hH hb => Bb rfl rfl (EX (cs := [.int .i64 y.o.kind, .string (bs y.o.name), .string (bs y.o.to), y.v, .int .i64 (y.o.cutS : Int)]) FG rfl) (hH.row 1 rfl) hb⟩) (Aa (by exact ⟨rfl, Bq.s (Am (os' := fun zv => [Q6 x.nl y.o zv, cell g3 107 #[.int .i64 y.o.kind, .string (bs y.o.name), .string (bs y.o.to), y.v, .int .i64 (y.o.cutS : Int)], Do [x.Y, K], cell p 61 #[.int .i64 d.room, x.sv, x.nv, x.wv, .bool fu, .int .i64 x.fz, .bool false], x.F, Ap 107 5 encRO x.wv x.W]) [4, 2, 0] 1 (Ag Tryz.func72 (by kernel_rfl) rfl) (Sq (X := x.F) (Y := Do [x.Y, K]) (x := y) x.rn (by omega) x.hn ho2 (fun q hq => ⟨I0 (x.yn q hq), x.nbig hf hq⟩) (OE hK) hyl) rfl rfl rfl (fun _ => rfl) rfl rfl rfl) (fun _ => rfl)⟩) (Aa (by intro zv; exact ⟨rfl, fun b w hH hb => by exact BQ rfl rfl hb⟩) (Aa (by intro zv; exact ⟨rfl, fun b w hH hb => Ae Ai rfl hb⟩) ?_))))))))
  exact Cf
  intro zv
  refine Ce.keep (env' := [(0, .pointer (some ⟨p, 0, none⟩)), (3, .pointer (some ⟨g3, 0, none⟩)), (4, .int .i64 0), (11, zv), (13, .pointer (some ⟨p, 2, none⟩))]) ⟨rfl, rfl, rfl, rfl, rfl, trivial⟩ (Af Ai rfl (AU (post := fun _ => [Q6 x.nl y.o zv, cell g3 107 #[.int .i64 y.o.kind, .string (bs y.o.name), .string (bs y.o.to), y.v, .int .i64 (y.o.cutS : Int)], Do [x.Y, K], cell p 61 #[.int .i64 d.room, x.sv, zv, x.wv, .bool fu, .int .i64 x.fz, .bool false], x.F, Ap 107 5 encRO x.wv x.W]) rfl rfl (Gn 3 0 (v := zv) #[.int .i64 d.room, x.sv, zv, x.wv, .bool fu, .int .i64 x.fz, .bool false] AD.2 rfl (fun _ h => Q6.c1 h) rfl rfl rfl rfl rfl rfl rfl) ?_)); rintro ⟨⟩
  refine Bi (AO (Aq (Ep 2 rfl ?_)))
  refine BK 12 4 [⟨.quiet, [none, none, none, none], fun _ => .pointer (some ⟨p, 0, none⟩), []⟩, ⟨.act 0, [some false, some false, none, some false], fun _ => undef, []⟩, ⟨.quiet, [none, none, none, none], fun _ => .pointer (some ⟨p, 0, none⟩), []⟩, ⟨.quiet, [none, none, none, none], fun _ => .pointer (some ⟨p, 0, none⟩), [2]⟩, ⟨.quiet, [none, none, none, none], fun _ => .pointer (some ⟨p, 3, none⟩), [3]⟩, ⟨.quiet, [none, none, none, none], fun _ => x.wv, [4]⟩, ⟨.act 1, [some true, some false, none, some false], fun _ => undef, [1, 5]⟩, ⟨.quiet, [none, none, none, none], fun _ => .agg #[.int .i64 y.o.kind, .string (bs y.o.name), .string (bs y.o.to), y.v, .int .i64 (y.o.cutS : Int)], []⟩, ⟨.act 2, [none, none, some false, some false], fun _ => undef, [7]⟩, ⟨.act 3, [some true, some true, some true, some false], fun _ => undef, [6, 8]⟩, ⟨.quiet, [some true, some true, some true, some true], fun _ => .pointer (some ⟨p, 0, none⟩), [0]⟩, ⟨.quiet, [some true, some true, some true, some true], fun _ => .pointer (some ⟨p, 3, none⟩), [10]⟩] [(0, .pointer (some ⟨p, 0, none⟩)), (3, .pointer (some ⟨g3, 0, none⟩)), (4, .int .i64 0)] (fun ρ => match ρ with | [r0, r1, r2, r3] => [CJ r2 (fun ub => Ap 107 5 encRO ub ([y])) (EF), CJ r3 (fun u2 => Ap 107 5 encRO u2 (x.W ++ [y])) (CJ r1 (fun u1 => Ap 107 5 encRO u1 x.W) (CJ r0 (fun u0 => Ap 107 5 encRO u0 ([])) (EF))), Q6 x.nl y.o zv, cell g3 107 #[.int .i64 y.o.kind, .string (bs y.o.name), .string (bs y.o.to), y.v, .int .i64 (y.o.cutS : Int)], Do [x.Y, K], cell p 61 #[.int .i64 d.room, x.sv, zv, x.wv, .bool fu, .int .i64 x.fz, .bool false], x.F, Ap 107 5 encRO x.wv x.W] | _ => []) (by kernel_rfl) (by kernel_rfl) ⟨rfl, rfl, rfl, trivial⟩ rfl ?_ ?_
  refine Aa (by intro r0_ r1_ r2_ r3_; exact ⟨rfl, fun b w hH hb => Ae Ai rfl hb⟩) ?_
  refine Aa (by intro r2_; exact ⟨rfl, Bq.s (Bq.place (val := fun u0 : Value => u0) (t := fun u0 => Ap 107 5 encRO u0 ([])) (os' := fun u0 => [CJ r2_ (fun ub => Ap 107 5 encRO ub ([y])) (EF), Ap 107 5 encRO u0 ([]), Q6 x.nl y.o zv, cell g3 107 #[.int .i64 y.o.kind, .string (bs y.o.name), .string (bs y.o.to), y.v, .int .i64 (y.o.cutS : Int)], Do [x.Y, K], cell p 61 #[.int .i64 d.room, x.sv, zv, x.wv, .bool fu, .int .i64 x.fz, .bool false], x.F, Ap 107 5 encRO x.wv x.W]) 1 rfl (by refine D4 (e := 107) (t := 59) (k := 5) (enc := encRO) ?_ ?_; exact DA; exact rfl) (fun _ => rfl)) (fun _ => rfl)⟩) ?_
  refine Aa (by intro r0_ r1_ r2_ r3_; exact ⟨rfl, fun b w hH hb => Ae Ai rfl hb⟩) (Aa (by intro r0_ r1_ r2_ r3_; exact ⟨rfl, fun b w hH hb => by exact BQ rfl rfl hb⟩) (Aa (by intro r0_ r1_ r2_ r3_; exact ⟨rfl, fun b w hH hb => Ae Ai rfl hb⟩) (Aa (by intro r0_ r1_ r2_ r3_; exact ⟨rfl, fun b w hH hb => Bb rfl rfl (Bn CE rfl) (hH.row 5 rfl) hb⟩) (Aa (by intro u0 r2_; exact ⟨rfl, Bq.s (Ha (nb := 72) 1 DA T3 (by kernel_rfl) (by decide) rfl (x.W) (fun w hH => hH.vec 7 rfl T3) (by simp only [List.length_nil]; omega) rfl rfl rfl (List.nil_append _)) (fun _ => rfl)⟩) (Aa (by intro r0_ r1_ r2_ r3_; exact ⟨rfl, fun b w hH hb => Bb rfl rfl (EX (cs := [.int .i64 y.o.kind, .string (bs y.o.name), .string (bs y.o.to), y.v, .int .i64 (y.o.cutS : Int)]) FG rfl) (hH.row 3 rfl) hb⟩) ?_)))))
  refine Aa (by intro r0_ r1_; exact ⟨rfl, Bq.s (Bq.place (val := fun ub : Value => ub) (t := fun ub => Ap 107 5 encRO ub ([y])) (os' := fun ub => [Ap 107 5 encRO ub ([y]), CJ r1_ (fun u1 => Ap 107 5 encRO u1 x.W) (CJ r0_ (fun u0 => Ap 107 5 encRO u0 ([])) (EF)), Q6 x.nl y.o zv, cell g3 107 #[.int .i64 y.o.kind, .string (bs y.o.name), .string (bs y.o.to), y.v, .int .i64 (y.o.cutS : Int)], Do [x.Y, K], cell p 61 #[.int .i64 d.room, x.sv, zv, x.wv, .bool fu, .int .i64 x.fz, .bool false], x.F, Ap 107 5 encRO x.wv x.W]) 0 rfl (by refine Fd (e := 107) (t := 59) (k := 5) (enc := encRO) (x := .tmp 21) (c := .agg #[.int .i64 y.o.kind, .string (bs y.o.name), .string (bs y.o.to), y.v, .int .i64 (y.o.cutS : Int)]) ?_ ?_ ?_ y ?_ ?_ ?_; exact DA; exact (by decide); exact T3; exact rfl; exact rfl; exact rfl) (fun _ => rfl)) (fun _ => rfl)⟩) ?_
  refine Aa (by intro u0 u1 ub; exact ⟨rfl, Bq.s (Ha (nb := 72) 1 DA T3 (by kernel_rfl) (by decide) rfl ([y]) (fun w hH => hH.vec 0 rfl T3) (by simp only [List.length_cons, List.length_nil]; omega) rfl rfl rfl rfl) (fun _ => rfl)⟩) (Aa (by intro u0 u1 ub u2; exact ⟨rfl, fun b w hH hb => by exact BQ rfl rfl hb⟩) (Aa (by intro u0 u1 ub u2; exact ⟨rfl, fun b w hH hb => Ae Ai rfl hb⟩) ?_))
  exact Cf
  intro u0 u1 ub u2
  refine Ce.keep (env' := [(4, .int .i64 0), (23, u2), (25, .pointer (some ⟨p, 3, none⟩))]) ⟨rfl, rfl, rfl, trivial⟩ (Af Ai rfl (AU (post := fun _ => [Ap 107 5 encRO ub ([y]), Ap 107 5 encRO u2 (x.W ++ [y]), Q6 x.nl y.o zv, cell g3 107 #[.int .i64 y.o.kind, .string (bs y.o.name), .string (bs y.o.to), y.v, .int .i64 (y.o.cutS : Int)], Do [x.Y, K], cell p 61 #[.int .i64 d.room, x.sv, zv, u2, .bool fu, .int .i64 x.fz, .bool false], x.F, Ap 107 5 encRO x.wv x.W]) rfl rfl (Gn 5 1 (v := u2) #[.int .i64 d.room, x.sv, zv, u2, .bool fu, .int .i64 x.fz, .bool false] CE.2 rfl (fun _ h => Ap.c1 h) rfl rfl rfl rfl rfl rfl rfl) ?_)); rintro ⟨⟩
  refine Bi (AO (Bd 2 rfl Q6.open_ (fun _ => rfl) ?_)); rintro z
  refine Bv.fact 2 rfl (fun _ h => h.2) ?_; rintro hz
  refine Bv.leave [2] rfl rfl (Bk [6, 7, 1, 5, 0, 3] rfl (T7 x (wv' := u2) rfl hz ho hfew hK hyc hfu hdn) rfl (Ad (Af Ai rfl (Ab (Av ?_)))))
  exact As (.tmp rfl) (fun w h => AG () rfl [0] rfl h CV) rfl
end Go.Proofs.YtjcfimmcogkopaaGreat.Sep
