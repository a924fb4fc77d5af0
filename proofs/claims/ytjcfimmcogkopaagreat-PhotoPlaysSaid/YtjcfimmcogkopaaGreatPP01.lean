/-
  RdkT · RdkC · RdkD
-/
import Derived.Test.YtjcfimmcogkopaaGreatPO02
set_option linter.unusedSimpArgs false
set_option linter.unusedVariables false
set_option maxRecDepth 100000
namespace Go.Proofs.YtjcfimmcogkopaaGreat.Sep
open Go.RowKit
open Go.Proofs.YtjcfimmcogkopaaGreat.Mem (Bh Cs Chg AA)
structure RDk (d : DiskD) where
  F : Ass
  Y : Ass
  sv : Value
  nv : Value
  wv : Value
  sl : List RFl
  nl : List RFl
  W : List OpV
  fz : Int
  hs : ED sl
  hn : ED nl
  ps : (F7 sl).Perm d.syn
  pn : (F7 nl).Perm d.now
  hW : DS W = d.wait
  rs : Ft F sv sl
  rn : Ft F nv nl
  ys : ∀ y : RFl, y ∈ sl → CO Y y.v y.d
  yn : ∀ y : RFl, y ∈ nl → CO Y y.v y.d
  yw : ∀ x : OpV, x ∈ W → CO Y x.v x.o.data
  yc : ∀ x : OpV, x ∈ W → x.o.data.length ≤ x.c
  hok : Fe d.syn d.wait
  few : ∀ k, ((d.wait.take k).foldl AG d.syn).length ≤ 64
  hz : ∀ k, d.fuse = some k → fz = (k : Int)
  zr : -9223372036854775808 ≤ fz ∧ fz ≤ 9223372036854775807
  nc : nv.cells = #[nv] ∧ nv.oneCell' = true
  sc : sv.cells = #[sv] ∧ sv.oneCell' = true
variable {p : Nat} {d : DiskD} {rs : List RowT} {w : World} {v : Value}
def An (p : Nat) (d : DiskD) : Ass := fun rs => ∃ x : RDk d, Al [cell p 61 #[.int .i64 d.room, x.sv, x.nv, x.wv, .bool d.fuse.isSome, .int .i64 x.fz, .bool d.down], x.F, x.Y, Ar 107 5 encRO x.wv x.W] rs
theorem RDk.nlen (x : RDk d) : x.nl.length ≤ 64 := by
 have h1 := x.few d.wait.length
 rw [List.take_length] at h1
 have h2 := x.pn.length_eq
 unfold F7 at h2
 rw [List.length_map] at h2
 have h3 : d.now.length ≤ 64 := h1
 omega
theorem RDk.wlen (x : RDk d) : x.W.length = d.wait.length := by rw [← x.hW]; simp [DS]
theorem RDk.snd (x : RDk d) : (AO d.syn).Nodup := (CY x.ps).nodup_iff.1 (DV x.hs)
theorem RDk.nnd (x : RDk d) : (AO d.now).Nodup := (CY x.pn).nodup_iff.1 (DV x.hn)
theorem Ry {l : List RFl} {y : RFl} (h : y ∈ l) : y.d.length ≤ AN (F7 l) := by
  unfold AN F7
  rw [List.map_map]
  obtain ⟨j, hj⟩ := List.getElem?_of_mem h
  induction l generalizing j with
  | nil => cases h
  | cons a l ih =>
    simp only [List.map_cons, List.sum_cons, Function.comp]
    cases j with
    | zero => obtain rfl := Option.some.inj hj; omega
    | succ j =>
      have := ih (List.mem_of_getElem? (by simpa using hj)) j (by simpa using hj)
      simp only [Function.comp_def] at this ⊢
      omega
theorem RDk.nused (x : RDk d) : AN (F7 x.nl) = AN d.now := Dl x.pn
theorem RDk.nbig (x : RDk d) (hf : d.fit) {y : RFl} (h : y ∈ x.nl) : y.d.length ≤ 1099511627776 := by
 have h1 := Ry h
 rw [x.nused] at h1
 exact Nat.le_trans h1 (IH hf x.snd x.hok)
theorem Xv {F G : Ass} {l : List RFl} (h : Ft F v l) : Ft (FQ [F, G]) v l := fun rs w h1 h2 => by
 obtain ⟨a, b, rfl, h3, _⟩ := h1
 exact h a w h3 (AT.2 fun x hx => AT.1 h2 x (List.mem_append_left _ hx))
theorem UM {F G : Ass} {l : List RFl} (h : Ft G v l) : Ft (FQ [F, G]) v l := fun rs w h1 h2 => by
 obtain ⟨a, b, rfl, _, h3⟩ := h1
 exact h b w h3.one' (AT.2 fun x hx => AT.1 h2 x (List.mem_append_right _ hx))
theorem Iu {F G : Ass} {l : List UInt8} (h : CO F v l) : CO (FQ [F, G]) v l := fun rs w h1 h2 => by
 obtain ⟨a, b, rfl, h3, _⟩ := h1
 exact h a w h3 (AT.2 fun x hx => AT.1 h2 x (List.mem_append_left _ hx))
theorem Rz {F G : Ass} {l : List UInt8} (h : CO G v l) : CO (FQ [F, G]) v l := fun rs w h1 h2 => by
 obtain ⟨a, b, rfl, _, h3⟩ := h1
 exact h b w h3.one' (AT.2 fun x hx => AT.1 h2 x (List.mem_append_right _ hx))
def RDk.turn (x : RDk d) (d' : DiskD) (fz : Int) (hsy : d'.syn = d.syn) (hwa : d'.wait = d.wait) (hz : ∀ k, d'.fuse = some k → fz = (k : Int)) (zr : -9223372036854775808 ≤ fz ∧ fz ≤ 9223372036854775807) : RDk d' where
  F := x.F
  Y := x.Y
  sv := x.sv
  nv := x.nv
  wv := x.wv
  sl := x.sl
  nl := x.nl
  W := x.W
  fz := fz
  hs := x.hs
  hn := x.hn
  ps := by rw [hsy]; exact x.ps
  pn := by unfold DiskD.now; rw [hsy, hwa]; exact x.pn
  hW := by rw [hwa]; exact x.hW
  rs := x.rs
  rn := x.rn
  ys := x.ys
  yn := x.yn
  yw := x.yw
  yc := x.yc
  hok := by rw [hsy, hwa]; exact x.hok
  few := by rw [hsy, hwa]; exact x.few
  hz := hz
  zr := zr
  nc := x.nc
  sc := x.sc
theorem UN {d : DiskD} {o : OpD} (h : ∀ k, ((d.wait.take k).foldl AG d.syn).length ≤ 64) (h1 : (AG d.now o).length ≤ 64) (k : Nat) : (((d.wait ++ [o]).take k).foldl AG d.syn).length ≤ 64 := by
  rcases Nat.lt_or_ge d.wait.length k with hk | hk
  · rw [List.take_of_length_le (by simp; omega), List.foldl_append]
    exact h1
  · rw [List.take_append_of_le_length hk]
    exact h k
def RDk.does (x : RDk d) {o : OpD} {z : RDo} {wv' : Value} {y : OpV} (hy : y.o = o) (hz : Ex x.nl o z) (ho : L2 d.now o) (hf : (AG d.now o).length ≤ 64) {G H : Ass} (hG : Ft G z.rv z.rl) (hH : CO H z.bv z.bd) {K : Ass} (hK : CO K y.v y.o.data) (hyc : y.o.data.length ≤ y.c) (hc : z.rv.cells = #[z.rv] ∧ z.rv.oneCell' = true) : RDk (Cp d o) where
  F := FQ [x.F, G]
  Y := FQ [FQ [x.Y, K], H]
  sv := x.sv
  nv := z.rv
  wv := wv'
  sl := x.sl
  nl := z.rl
  W := x.W ++ [y]
  fz := x.fz
  hs := x.hs
  hn := hz.1
  ps := x.ps
  pn := by rw [Cq]; exact hz.2.1 _ x.pn
  hW := by
    show DS (x.W ++ [y]) = d.wait ++ [o]
    rw [← x.hW, ← hy]; simp [DS]
  rs := Xv x.rs
  rn := UM hG
  ys := fun q hq => Iu (Iu (x.ys q hq))
  yn := fun q hq => by
    rcases hz.2.2 q hq with h | ⟨h1, h2⟩
    · exact Iu (Iu (x.yn q h))
    · rw [h1, h2]; exact Rz hH
  yw := fun q hq => by
    rcases List.mem_append.1 hq with h | h
    · exact Iu (Iu (x.yw q h))
    · rw [List.mem_singleton.1 h]; exact Iu (Rz hK)
  yc := fun q hq => by
    rcases List.mem_append.1 hq with h | h
    · exact x.yc q h
    · rw [List.mem_singleton.1 h]; exact hyc
  hok := JT x.hok ho
  few := UN x.few hf
  hz := x.hz
  zr := x.zr
  nc := hc
  sc := x.sc
theorem LR {a b : Ass} {os : List Ass} {rs : List RowT} : Al (a :: b :: os) rs ↔ Al (FQ [a, b] :: os) rs := by
  constructor
  · rintro ⟨r1, r2, rfl, h1, r3, r4, rfl, h2, h3⟩
    exact ⟨r1 ++ r3, r4, by simp, ⟨r1, r3, rfl, h1, r3, [], by simp, h2, rfl⟩, h3⟩
  · rintro ⟨r1, r2, rfl, ⟨a1, a2, rfl, h1, h2⟩, h3⟩
    exact ⟨a1, a2 ++ r2, by simp, h1, a2, r2, rfl, h2.one', h3⟩
def DY (p : Nat) (d : DiskD) (v : Value) (b : List UInt8) : Ass := fun rs => ∃ x : RDk d, (CO x.Y v b ∧ ∃ A c, v = .slice A b.length c) ∧ Al [cell p 61 #[.int .i64 d.room, x.sv, x.nv, x.wv, .bool d.fuse.isSome, .int .i64 x.fz, .bool d.down], x.F, x.Y, Ar 107 5 encRO x.wv x.W] rs
theorem FA {b : List UInt8} : ∀ rs, Al [DY p d v b] rs → An p d rs := fun rs h => by
 obtain ⟨x, _, hx⟩ := h.one'
 exact ⟨x, hx⟩
theorem RA {b : List UInt8} : ∀ rs, DY p d v b rs → ∃ A c, v = .slice A b.length c := fun rs ⟨x, h, _⟩ => h.2
theorem Gr {b : List UInt8} : CO (DY p d v b) v b := fun rs w ⟨x, ⟨hx, _⟩, h⟩ hr => by
 obtain ⟨r1, r2, rfl, h1, r3, r4, rfl, h2, r5, r6, rfl, h3, h4⟩ := h
 exact hx r5 w h3 (AT.2 fun q hq => AT.1 hr q (by simp [hq]))
theorem Gs {e : TypeId} {k : Nat} {α : Type} {enc : α → List Value} : Ar e k enc (.slice none 0 0) [] [] := Pd e k enc
def Yg (room : Int) : RDk (Hc room) where
  F := DN
  Y := DN
  sv := .slice none 0 0
  nv := .slice none 0 0
  wv := .slice none 0 0
  sl := []
  nl := []
  W := []
  fz := 0
  hs := List.Pairwise.nil
  hn := List.Pairwise.nil
  ps := .refl _
  pn := .refl _
  hW := rfl
  rs := fun rs w h1 h2 => by rw [show rs = [] from h1] at *; exact C1 [] w Gs h2
  rn := fun rs w h1 h2 => by rw [show rs = [] from h1] at *; exact C1 [] w Gs h2
  ys := fun y h => nomatch h
  yn := fun y h => nomatch h
  yw := fun y h => nomatch h
  yc := fun y h => nomatch h
  hok := trivial
  few := fun k => by show ((([] : List OpD).take k).foldl AG []).length ≤ 64; rw [List.take_nil]; decide
  hz := fun k h => nomatch h
  zr := by decide
  nc := ⟨rfl, rfl⟩
  sc := ⟨rfl, rfl⟩
theorem UO {room : Int} : ∀ rs, Al [cell p 61 #[.int .i64 room, .slice none 0 0, .slice none 0 0, .slice none 0 0, .bool false, .int .i64 0, .bool false]] rs → An p (Hc room) rs := fun rs h => by
 refine ⟨Yg room, ?_⟩
 obtain ⟨r1, r2, rfl, h1, rfl⟩ := h
 exact ⟨r1, [], rfl, h1, [], [], rfl, rfl, [], [], rfl, rfl, [], [], rfl, Gs, rfl⟩
theorem CS {fu dn : Bool} (hf : d.fuse.isSome = fu) (hd : d.down = dn) : ∀ rs, An p d rs → ∃ x : RDk d, Al [cell p 61 #[.int .i64 d.room, x.sv, x.nv, x.wv, .bool fu, .int .i64 x.fz, .bool dn], x.F, x.Y, Ar 107 5 encRO x.wv x.W] rs := fun rs h => by subst hf; subst hd; exact h
theorem UP {k : Nat} {dn : Bool} (hf : d.fuse = some k) (hd : d.down = dn) : ∀ rs, An p d rs → ∃ x : RDk d, Al [cell p 61 #[.int .i64 d.room, x.sv, x.nv, x.wv, .bool true, .int .i64 (k : Int), .bool dn], x.F, x.Y, Ar 107 5 encRO x.wv x.W] rs := fun rs ⟨x, h⟩ => by
 refine ⟨x, ?_⟩
 rw [x.hz k hf] at h
 rw [hf, hd] at h
 exact h
theorem Gt {d' : DiskD} (x : RDk d) {room fz : Int} {fu dn : Bool} (hr : d'.room = room) (hsy : d'.syn = d.syn) (hwa : d'.wait = d.wait) (hfu : d'.fuse.isSome = fu) (hdn : d'.down = dn) (hz : ∀ k, d'.fuse = some k → fz = (k : Int)) (zr : -9223372036854775808 ≤ fz ∧ fz ≤ 9223372036854775807) : ∀ rs, Al [cell p 61 #[.int .i64 room, x.sv, x.nv, x.wv, .bool fu, .int .i64 fz, .bool dn], x.F, x.Y, Ar 107 5 encRO x.wv x.W] rs → An p d' rs := fun rs h => ⟨x.turn d' fz hsy hwa hz zr, by subst hr; subst hfu; subst hdn; exact h⟩
theorem CD (x : RDk d) {fu dn : Bool} (hf : d.fuse.isSome = fu) (hd : d.down = dn) : ∀ rs, Al [cell p 61 #[.int .i64 d.room, x.sv, x.nv, x.wv, .bool fu, .int .i64 x.fz, .bool dn], x.F, x.Y, Ar 107 5 encRO x.wv x.W] rs → An p d rs := fun rs h => ⟨x, by subst hf; subst hd; exact h⟩
theorem EX (d : DiskD) : (d.down = true ∧ Bv d = (d, 3)) ∨ (d.down = false ∧ d.fuse = some 0 ∧ Bv d = ({ d with down := true }, 3)) ∨ (d.down = false ∧ (∃ k, d.fuse = some (k + 1) ∧ Bv d = ({ d with fuse := some k }, 0))) ∨ (d.down = false ∧ d.fuse = none ∧ Bv d = (d, 0)) := by
  obtain ⟨room, syn, wait, fuse, down⟩ := d
  cases down with
  | true => left; exact ⟨rfl, by unfold Bv; rw [if_pos (.inl rfl)]⟩
  | false =>
    right
    cases fuse with
    | none => right; right; exact ⟨rfl, rfl, by unfold Bv; rw [if_neg (by simp)]; rfl⟩
    | some k =>
      cases k with
      | zero => left; exact ⟨rfl, rfl, by unfold Bv; rw [if_pos (.inr rfl)]⟩
      | succ k => right; left; exact ⟨rfl, k, rfl, by unfold Bv; rw [if_neg (by simp)]; rfl⟩
theorem UQ (x : RDk d) {o : OpD} {z : RDo} {wv' rv : Value} {y : OpV} (hy : y.o = o) (hz : Ex x.nl o z ∧ z.rv = rv) (ho : L2 d.now o) (hf : (AG d.now o).length ≤ 64) {K : Ass} (hK : CO K y.v y.o.data) (hyc : y.o.data.length ≤ y.c) {fu dn : Bool} (hfu : d.fuse.isSome = fu) (hdn : d.down = dn) : ∀ rs, Al [cell p 61 #[.int .i64 d.room, x.sv, rv, wv', .bool fu, .int .i64 x.fz, .bool dn], x.F, Ar 54 2 encRF rv z.rl, FQ [x.Y, K], Ar 5 1 encB z.bv z.bd, Ar 107 5 encRO wv' (x.W ++ [y])] rs → An p (Cp d o) rs := fun rs h => by
 obtain ⟨hz, hrv⟩ := hz
 subst hrv
 subst hfu; subst hdn
 obtain ⟨r1, _, rfl, h1, hr⟩ := h
 have hc : z.rv.cells = #[z.rv] ∧ z.rv.oneCell' = true := by
  obtain ⟨_, _, rfl, _, _, _, rfl, h9, _⟩ := hr
  exact Ar.c1 h9
 refine ⟨x.does (wv' := wv') hy hz ho hf C1 C9 hK hyc hc, ?_⟩
 obtain ⟨a1, a2, rfl, ⟨b1, b2, rfl, h2, h3⟩, h4⟩ := LR.1 hr
 exact ⟨r1, _, rfl, h1, b1 ++ b2, _, rfl, ⟨b1, b2, rfl, h2, h3⟩, LR.1 h4⟩
theorem AX.too {X Y : Type} {P : Program} {F : FuncId} {args : Array Value} {pre : List Ass} {val : X → Value} {post : X → List Ass} {val' : Y → Value} {post' : Y → List Ass} (h : AX P F args pre val post) (hi : ∀ x, ∃ y, val x = val' y ∧ ∀ rs, Al (post x) rs → ∃ rs', rs.Perm rs' ∧ Al (post' y) rs') : AX P F args pre val' post' := fun w rs h1 h2 h3 => (h w rs h1 h2 h3).mono (by
 rintro e w' ⟨x, he, rs', hp, hc⟩
 obtain ⟨y, hv, hq⟩ := hi x
 obtain ⟨rs2, p, hp2⟩ := hq rs' hp
 exact ⟨y, by rw [he, hv], rs2, hp2, JB hc p⟩)
def NB (l : List RFl) (o : OpD) (rv : Value) : Ass := fun rs => ∃ z : RDo, Al [Ar 5 1 encB z.bv z.bd, Ar 54 2 encRF rv z.rl, fact (Ex l o z ∧ z.rv = rv)] rs
theorem NB.open_ {l : List RFl} {o : OpD} {rv : Value} : ∀ rs, NB l o rv rs → ∃ z : RDo, Al [Ar 5 1 encB z.bv z.bd, Ar 54 2 encRF rv z.rl, fact (Ex l o z ∧ z.rv = rv)] rs := fun _ h => h
theorem NB.c1 {l : List RFl} {o : OpD} {rv : Value} {rs : List RowT} (h : NB l o rv rs) : rv.cells = #[rv] ∧ rv.oneCell' = true := by
 obtain ⟨z, r1, _, rfl, h1, r2, _, rfl, h2, _⟩ := h
 exact Ar.c1 h2
theorem J8 {X Y : Ass} {v : Value} {l : List RFl} {x : OpV} (hX : Ft X v l) (hl : l.length ≤ 1000000) (hs : ED l) (ho : L2 (F7 l) x.o) (hY : ∀ y : RFl, y ∈ l → CO Y y.v y.d ∧ y.d.length ≤ 1099511627776) (hO : CO Y x.v x.o.data) (hbl : x.o.data.length ≤ 1099511627776) : AX Tryz.prog 72 #[v, .agg (encRO x).toArray] [X, Y] (fun rv : Value => rv) (fun rv => [X, Y, NB l x.o rv]) := (S1 hX hl hs ho hY hO hbl).too (fun z => ⟨z.rv, rfl, fun rs h => by
 obtain ⟨r1, _, rfl, h1, r2, _, rfl, h2, r3, _, rfl, h3, r4, _, rfl, h4, r5, _, rfl, ⟨rfl, h5⟩, rfl⟩ := h
 exact ⟨_, .refl _, r1, _, rfl, h1, r2, _, rfl, h2, r3 ++ r4, [], by simp, ⟨z, r3, _, rfl, h3, r4, [], by simp, h4, [], [], rfl, ⟨rfl, h5, rfl⟩, rfl⟩, rfl⟩⟩)
theorem UR (x : RDk d) (n : List UInt8) : AS d.now n = AS (F7 x.nl) n := (En x.pn (DV x.hn) n).symm
theorem RDk.at_ (x : RDk d) (n : List UInt8) : (∃ (j : Nat) (y : RFl), x.nl[j]? = some y ∧ y.n = n ∧ (∀ (k : Nat) (z : RFl), k < j → x.nl[k]? = some z → z.n ≠ n) ∧ AS d.now n = some y.d ∧ y ∈ x.nl) ∨ ((∀ z : RFl, z ∈ x.nl → z.n ≠ n) ∧ AS d.now n = none) := by
  rcases Hz x.hn n with ⟨j, y, h1, h2, h3, h4⟩ | ⟨h1, h2⟩
  · exact .inl ⟨j, y, h1, h2, h3, by rw [UR x]; exact h4, List.mem_of_getElem? h1⟩
  · exact .inr ⟨h1, by rw [UR x]; exact h2⟩
theorem RDk.no_ (x : RDk d) {n : List UInt8} (h : AS d.now n = none) : ∀ z : RFl, z ∈ x.nl → z.n ≠ n := by
  rcases x.at_ n with ⟨j, y, _, _, _, h4, _⟩ | ⟨h1, _⟩
  · rw [h] at h4; cases h4
  · exact h1
theorem RDk.yes_ (x : RDk d) {n b : List UInt8} (h : AS d.now n = some b) : ∃ (j : Nat) (y : RFl), x.nl[j]? = some y ∧ y.n = n ∧ (∀ (k : Nat) (z : RFl), k < j → x.nl[k]? = some z → z.n ≠ n) ∧ y.d = b ∧ y ∈ x.nl := by
  rcases x.at_ n with ⟨j, y, h1, h2, h3, h4, h5⟩ | ⟨_, h4⟩
  · exact ⟨j, y, h1, h2, h3, Option.some.inj (h4.symm.trans h), h5⟩
  · rw [h] at h4; cases h4
def Fi (l : List RFl) : Nat := (l.map fun x => x.d.length).sum
theorem US (l : List RFl) : Fi l = AN (F7 l) := by unfold Fi AN F7; rw [List.map_map]; rfl
theorem RDk.usedN (x : RDk d) : Fi x.nl = AN d.now := by rw [US, x.nused]
theorem QB {l : List RFl} {i : Nat} {y : RFl} (h : l[i]? = some y) : Fi (l.take (i + 1)) = Fi (l.take i) + y.d.length := by
 unfold Fi
 rw [List.take_add_one, h]
 simp
theorem UT (l : List RFl) (i : Nat) : Fi (l.take i) ≤ Fi l := by
 have h : Fi l = Fi (l.take i) + Fi (l.drop i) := by
  unfold Fi
  rw [← List.sum_append, ← List.map_append, List.take_append_drop]
 omega
end Go.Proofs.YtjcfimmcogkopaaGreat.Sep
namespace Go.Proofs.YtjcfimmcogkopaaGreat.Sep
open Go.RowKit
open Go.Proofs.YtjcfimmcogkopaaGreat.Mem (Bh Cs Chg AA)
theorem KF {p : Nat} {d d1 : DiskD} {e : Nat} (h : Bv d = (d1, e)) : AX Tryz.prog 32 #[.pointer (some ⟨p, 0, none⟩)] [An p d] (fun (_ : Unit) => .int .i64 (e : Int)) (fun (_ : Unit) => [An p d1]) := by
 refine Bg (args := [.pointer (some ⟨p, 0, none⟩)]) 39 Tryz.func32 rfl rfl rfl ?_; intro w rs
 refine Ad (Ae Ah rfl (Ab (Av ?_)))
 rcases EX d with ⟨hdn, hb⟩ | ⟨hdn, hz, hb⟩ | ⟨hdn, k, hz, hb⟩ | ⟨hdn, hz, hb⟩
 obtain ⟨rfl, rfl⟩ := Prod.mk.inj (hb.symm.trans h)
 obtain ⟨fu, hfu⟩ : ∃ fu, d.fuse.isSome = fu := ⟨_, rfl⟩
 refine Be 0 rfl (CS hfu hdn) (fun _ => rfl) ?_; rintro x
 refine Ad (Ae Ah rfl (Aa rfl (.pointer (some ⟨p, 0, none⟩)) (fun b w hb hH => by exact BD rfl rfl hb) (Ae Ah rfl (Aa rfl (.bool true) (fun b w hb hH => Ba rfl rfl (Bm Bt rfl) (hH.row 0 rfl) hb) (Ae Ah rfl (Ab (As rfl (AB (AL (Av (Ad (Ae Ah rfl (Aa rfl (.pointer (some ⟨p, 0, none⟩)) (fun b w hb hH => by exact BD rfl rfl hb) (Ae Ah rfl ?_))))))))))))))
 refine Aa rfl (.bool true) (fun b w hb hH => Ba rfl rfl (Bm Bt rfl) (hH.row 0 rfl) hb) (Ab (AI rfl (Bi [0, 1, 2, 3] rfl (CD x hfu hdn) rfl (Ad (Ae Ah rfl (Ab (Ax (C4 ?_))))))))
 exact Aw (.tmp rfl) (fun w h => AH () rfl [0] rfl h CK) rfl
 obtain ⟨rfl, rfl⟩ := Prod.mk.inj (hb.symm.trans h)
 refine Be 0 rfl (UP hz hdn) (fun _ => rfl) ?_; rintro x
 refine Ad (Ae Ah rfl (Aa rfl (.pointer (some ⟨p, 0, none⟩)) (fun b w hb hH => by exact BD rfl rfl hb) (Ae Ah rfl (Aa rfl (.bool false) (fun b w hb hH => Ba rfl rfl (Bm Bt rfl) (hH.row 0 rfl) hb) (Ae Ah rfl (Aa rfl (.pointer (some ⟨p, 0, none⟩)) (fun b w hb hH => by exact BD rfl rfl hb) (Ae Ah rfl (Aa rfl (.bool true) (fun b w hb hH => Ba rfl rfl (Bm Bt rfl) (hH.row 0 rfl) hb) (Ae Ah rfl ?_)))))))))
 refine Aa rfl (.pointer (some ⟨p, 0, none⟩)) (fun b w hb hH => by exact BD rfl rfl hb) (Ae Ah rfl (Aa rfl (.int .i64 ((0 : Nat) : Int)) (fun b w hb hH => Ba rfl rfl (Bm Bc rfl) (hH.row 0 rfl) hb) (Aa rfl (.bool true) (fun b w hb hH => AZ rfl rfl rfl (GT (by omega)) hb) (Ae Ah rfl (Ab (AI rfl (Bp (Ae Ah rfl (Aa rfl (.pointer (some ⟨p, 0, none⟩)) (fun b w hb hH => by exact BD rfl rfl hb) (Ae Ah rfl (AF (post := fun _ => [cell p 61 #[.int .i64 d.room, x.sv, x.nv, x.wv, .bool true, .int .i64 ((0 : Nat) : Int), .bool true], x.F, x.Y, Ar 107 5 encRO x.wv x.W]) rfl rfl (AE 0 (v := .bool true) #[.int .i64 d.room, x.sv, x.nv, x.wv, .bool true, .int .i64 ((0 : Nat) : Int), .bool true] Bt.2 rfl rfl rfl rfl rfl rfl rfl rfl rfl) ?_))))))))))); rintro ⟨⟩
 refine AV (AL (Av (Ad (Ae Ah rfl (Aa rfl (.pointer (some ⟨p, 0, none⟩)) (fun b w hb hH => by exact BD rfl rfl hb) (Ae Ah rfl (Aa rfl (.bool true) (fun b w hb hH => Ba rfl rfl (Bm Bt rfl) (hH.row 0 rfl) hb) (Ab (AI rfl (Bi [0, 1, 2, 3] rfl (Gt (d' := { d with down := true }) x rfl rfl rfl (by rw [show ({ d with down := true } : DiskD).fuse = d.fuse from rfl, hz]; rfl) rfl (fun k hk => by rw [show ({ d with down := true } : DiskD).fuse = d.fuse from rfl, hz] at hk; cases hk; rfl) (by decide)) rfl (Ad (Ae Ah rfl (Ab (Ax (C4 ?_)))))))))))))))
 exact Aw (.tmp rfl) (fun w h => AH () rfl [0] rfl h CK) rfl
 obtain ⟨rfl, rfl⟩ := Prod.mk.inj (hb.symm.trans h)
 refine Be 0 rfl (UP hz hdn) (fun _ => rfl) ?_; rintro x
 have hkz := x.zr
 rw [x.hz _ hz] at hkz
 refine Ad (Ae Ah rfl (Aa rfl (.pointer (some ⟨p, 0, none⟩)) (fun b w hb hH => by exact BD rfl rfl hb) (Ae Ah rfl (Aa rfl (.bool false) (fun b w hb hH => Ba rfl rfl (Bm Bt rfl) (hH.row 0 rfl) hb) (Ae Ah rfl (Aa rfl (.pointer (some ⟨p, 0, none⟩)) (fun b w hb hH => by exact BD rfl rfl hb) (Ae Ah rfl (Aa rfl (.bool true) (fun b w hb hH => Ba rfl rfl (Bm Bt rfl) (hH.row 0 rfl) hb) (Ae Ah rfl ?_)))))))))
 refine Aa rfl (.pointer (some ⟨p, 0, none⟩)) (fun b w hb hH => by exact BD rfl rfl hb) (Ae Ah rfl (Aa rfl (.int .i64 (((k + 1 : Nat)) : Int)) (fun b w hb hH => Ba rfl rfl (Bm Bc rfl) (hH.row 0 rfl) hb) (Aa rfl (.bool false) (fun b w hb hH => AZ rfl rfl rfl (Fu (by omega)) hb) (Ae Ah rfl (Ab (As rfl (AB (AL (Av (Ad (Ae Ah rfl (Aa rfl (.pointer (some ⟨p, 0, none⟩)) (fun b w hb hH => by exact BD rfl rfl hb) (Ae Ah rfl (Aa rfl (.bool false) (fun b w hb hH => Ba rfl rfl (Bm Bt rfl) (hH.row 0 rfl) hb) ?_))))))))))))))
 refine Ab (As rfl (AB (AL (Av (Ad (Ae Ah rfl (Aa rfl (.pointer (some ⟨p, 0, none⟩)) (fun b w hb hH => by exact BD rfl rfl hb) (Ae Ah rfl (Aa rfl (.bool true) (fun b w hb hH => Ba rfl rfl (Bm Bt rfl) (hH.row 0 rfl) hb) (Ab (AI rfl (Bp (Ae Ah rfl (Aa rfl (.pointer (some ⟨p, 0, none⟩)) (fun b w hb hH => by exact BD rfl rfl hb) (Ae Ah rfl (Aa rfl (.int .i64 (((k + 1 : Nat)) : Int)) (fun b w hb hH => Ba rfl rfl (Bm Bc rfl) (hH.row 0 rfl) hb) ?_))))))))))))))))
 refine Aa rfl (.int .i64 ((k : Nat) : Int)) (fun b w hb hH => AQ rfl rfl rfl rfl (by rw [IntWalk.i64_in _ (by omega)]; omega) hb) (Aa rfl (.pointer (some ⟨p, 0, none⟩)) (fun b w hb hH => by exact BD rfl rfl hb) (Ae Ah rfl (AF (post := fun _ => [cell p 61 #[.int .i64 d.room, x.sv, x.nv, x.wv, .bool true, .int .i64 ((k : Nat) : Int), .bool false], x.F, x.Y, Ar 107 5 encRO x.wv x.W]) rfl rfl (AE 0 (v := .int .i64 ((k : Nat) : Int)) #[.int .i64 d.room, x.sv, x.nv, x.wv, .bool true, .int .i64 ((k : Nat) : Int), .bool false] Bc.2 rfl rfl rfl rfl rfl rfl rfl rfl rfl) ?_))); rintro ⟨⟩
 refine AV (AL (Bi [0, 1, 2, 3] rfl (Gt (d' := { d with fuse := some k }) x rfl rfl rfl rfl hdn (fun q hq => by cases hq; rfl) (by omega)) rfl (Ad (Ae Ah rfl (Ab (Ax ?_))))))
 exact Aw (.tmp rfl) (fun w h => AH () rfl [0] rfl h CK) rfl
 obtain ⟨rfl, rfl⟩ := Prod.mk.inj (hb.symm.trans h)
 have hfu : d.fuse.isSome = false := by rw [hz]; rfl
 refine Be 0 rfl (CS hfu hdn) (fun _ => rfl) ?_; rintro x
 refine Ad (Ae Ah rfl (Aa rfl (.pointer (some ⟨p, 0, none⟩)) (fun b w hb hH => by exact BD rfl rfl hb) (Ae Ah rfl (Aa rfl (.bool false) (fun b w hb hH => Ba rfl rfl (Bm Bt rfl) (hH.row 0 rfl) hb) (Ae Ah rfl (Aa rfl (.pointer (some ⟨p, 0, none⟩)) (fun b w hb hH => by exact BD rfl rfl hb) (Ae Ah rfl (Aa rfl (.bool false) (fun b w hb hH => Ba rfl rfl (Bm Bt rfl) (hH.row 0 rfl) hb) (Ae Ah rfl ?_)))))))))
 refine Ab (As rfl (AB (AL (Av (Ad (Ae Ah rfl (Aa rfl (.pointer (some ⟨p, 0, none⟩)) (fun b w hb hH => by exact BD rfl rfl hb) (Ae Ah rfl (Aa rfl (.bool false) (fun b w hb hH => Ba rfl rfl (Bm Bt rfl) (hH.row 0 rfl) hb) (Ab (As rfl (AB (AL (Av (Ad (Ae Ah rfl (Aa rfl (.pointer (some ⟨p, 0, none⟩)) (fun b w hb hH => by exact BD rfl rfl hb) (Ae Ah rfl (Aa rfl (.bool false) (fun b w hb hH => Ba rfl rfl (Bm Bt rfl) (hH.row 0 rfl) hb) ?_)))))))))))))))))))
 refine Ab (As rfl (AB (AL (Bi [0, 1, 2, 3] rfl (CD x hfu hdn) rfl (Ad (Ae Ah rfl (Ab (Ax ?_))))))))
 exact Aw (.tmp rfl) (fun w h => AH () rfl [0] rfl h CK) rfl
theorem ME (w : World) (n : List UInt8) (r : Bool) (hr : CI n = r) (hl : n.length ≤ 9223372036854775807) : Calls Tryz.prog 65 #[.string (bs n)] w fun e w' => e = .returned (.bool r) ∧ Below w.heap.size w w' := by
 refine Fj (args := [.string (bs n)]) 11 Tryz.func65 rfl rfl rfl (Ad (Ae Ah rfl (Ab ?_)))
 rcases Classical.em (1 ≤ n.length) with h1 | h1
 rcases Classical.em (n.length ≤ 16) with h2 | h2
 obtain rfl : r = true := by rw [← hr]; unfold CI; simp [h1, h2]
 refine Ad (Ae Ah rfl (Aa rfl (.int .i64 (n.length : Int)) (fun b w hb hH => BV rfl rfl (fun cs => (fun w cs => Dc Tryz.underlying9 _ _ w cs) w cs) hb) (Aa rfl (.bool true) (fun b w hb hH => AZ rfl rfl rfl (B1 (by omega)) hb) (Ae Ah rfl (Aa rfl (.int .i64 (n.length : Int)) (fun b w hb hH => BV rfl rfl (fun cs => (fun w cs => Dc Tryz.underlying9 _ _ w cs) w cs) hb) (Aa rfl (.bool true) (fun b w hb hH => AZ rfl rfl rfl (Dk (by omega)) hb) (Ae Ah rfl (Ab (Ax ?_)))))))))
 exact Aw (.tmp rfl) (fun w h => ⟨rfl, AA h.up⟩) rfl
 obtain rfl : r = false := by rw [← hr]; unfold CI; simp [h2]
 refine Ad (Ae Ah rfl (Aa rfl (.int .i64 (n.length : Int)) (fun b w hb hH => BV rfl rfl (fun cs => (fun w cs => Dc Tryz.underlying9 _ _ w cs) w cs) hb) (Aa rfl (.bool true) (fun b w hb hH => AZ rfl rfl rfl (B1 (by omega)) hb) (Ae Ah rfl (Aa rfl (.int .i64 (n.length : Int)) (fun b w hb hH => BV rfl rfl (fun cs => (fun w cs => Dc Tryz.underlying9 _ _ w cs) w cs) hb) (Aa rfl (.bool false) (fun b w hb hH => AZ rfl rfl rfl (DO (by omega)) hb) (Ae Ah rfl (Ab (Ax ?_)))))))))
 exact Aw (.tmp rfl) (fun w h => ⟨rfl, AA h.up⟩) rfl
 obtain rfl : r = false := by rw [← hr]; unfold CI; simp [h1]
 refine Ad (Ae Ah rfl (Aa rfl (.int .i64 (n.length : Int)) (fun b w hb hH => BV rfl rfl (fun cs => (fun w cs => Dc Tryz.underlying9 _ _ w cs) w cs) hb) (Aa rfl (.bool false) (fun b w hb hH => AZ rfl rfl rfl (C6 (by omega)) hb) (Ae Ah rfl (Ab (Ax ?_))))))
 exact Aw (.tmp rfl) (fun w h => ⟨rfl, AA h.up⟩) rfl
theorem LS {p : Nat} {d : DiskD} (x : RDk d) {fu : Bool} {room : Int} (hf : d.fit) : AX Tryz.prog 56 #[.pointer (some ⟨p, 0, none⟩)] [cell p 61 #[.int .i64 room, x.sv, x.nv, x.wv, .bool fu, .int .i64 x.fz, .bool false], x.F] (fun (_ : Unit) => .int .i64 ((AN d.now : Nat) : Int)) (fun (_ : Unit) => [cell p 61 #[.int .i64 room, x.sv, x.nv, x.wv, .bool fu, .int .i64 x.fz, .bool false], x.F]) := by
 refine Bg (args := [.pointer (some ⟨p, 0, none⟩)]) 33 Tryz.func56 rfl rfl rfl ?_; intro w rs
 have hn64 := x.nlen
 have hN := x.usedN
 have hbig := IH hf x.snd x.hok
 refine Ad (Ae Ah rfl (Ab (Ad (Ae Ah rfl (Ab (Av (Ad (Ae Ah rfl (Ab (Bo (Dd (α := Nat) (fun i => [(0, .pointer (some ⟨p, 0, none⟩)), (2, .int .i64 0), (3, .int .i64 ((Fi (x.nl.take i) : Nat) : Int)), (4, .int .i64 ((i : Nat) : Int))]) (fun i => [cell p 61 #[.int .i64 room, x.sv, x.nv, x.wv, .bool fu, .int .i64 x.fz, .bool false], x.F]) (fun i => i ≤ x.nl.length) (fun i => x.nl.length - i) 0 (Nat.zero_le _) ⟨rfl, rfl, rfl, rfl, trivial⟩ rfl ?_)))))))))))
 rintro i hI
 refine BB.at_ (env' := [(0, .pointer (some ⟨p, 0, none⟩)), (2, .int .i64 0), (3, .int .i64 ((Fi (x.nl.take i) : Nat) : Int)), (4, .int .i64 ((i : Nat) : Int))]) (rs' := [cell p 61 #[.int .i64 room, x.sv, x.nv, x.wv, .bool fu, .int .i64 x.fz, .bool false], x.F]) ⟨rfl, rfl, rfl, rfl, trivial⟩ rfl (Av ?_)
 rcases Nat.lt_or_ge i x.nl.length with hi | hi
 obtain ⟨y, hy⟩ : ∃ y, x.nl[i]? = some y := ⟨_, List.getElem?_eq_getElem hi⟩
 have hst := QB hy
 have hle := UT x.nl (i + 1)
 refine Ad (Ae Ah rfl (Aa rfl (.pointer (some ⟨p, 0, none⟩)) (fun b w hb hH => by exact BD rfl rfl hb) (Ae Ah rfl (Aa rfl (x.nv) (fun b w hb hH => Ba rfl rfl (Bm Ap rfl) (hH.row 0 rfl) hb) (Aa rfl (.int .i64 (x.nl.length : Int)) (fun b w hb hH => Bf ((hH.rdFs 1 rfl x.rn)) Tryz.underlying55 rfl rfl hb) (Aa rfl (.bool true) (fun b w hb hH => AZ rfl rfl rfl (Bw (by omega)) hb) (Ae Ah rfl (Aa rfl (.pointer (some ⟨p, 0, none⟩)) (fun b w hb hH => by exact BD rfl rfl hb) (Ae Ah rfl ?_)))))))))
 refine Aa rfl (.bool false) (fun b w hb hH => Ba rfl rfl (Bm Bt rfl) (hH.row 0 rfl) hb) (Ae Ah rfl (Ab (AI rfl (AB (AL (Av (Bo (Bp (Ae Ah rfl (Aa rfl (.pointer (some ⟨p, 0, none⟩)) (fun b w hb hH => by exact BD rfl rfl hb) (Ae Ah rfl (Aa rfl (x.nv) (fun b w hb hH => Ba rfl rfl (Bm Ap rfl) (hH.row 0 rfl) hb) (Ae Ah rfl (Aa rfl (BN x.nv (i * 2)) (fun b w hb hH => BH B3 ((hH.rdFs 1 rfl x.rn)) AD (j := i) hy rfl rfl rfl hb) (Aa rfl (BN x.nv (i * 2 + 1)) (fun b w hb hH => JH B3 (by decide) ((hH.rdFs 1 rfl x.rn)) (j := i) hy BP rfl rfl hb) ?_)))))))))))))))
 refine Aa rfl (.slice y.A y.d.length y.c) (fun b w hb hH => Bu B3 (by decide) ((hH.rdFs 1 rfl x.rn)) (j := i) hy Cx (off := 1) rfl rfl rfl hb) (Aa rfl (.int .i64 (y.d.length : Int)) (fun b w hb hH => FT AJ rfl rfl hH hb) (Aa rfl (.int .i64 ((Fi (x.nl.take (i + 1)) : Nat) : Int)) (fun b w hb hH => AQ rfl rfl rfl rfl (by rw [IntWalk.i64_in _ (by omega)]; omega) hb) (Ae Ah rfl (AV (BC (AL (Bp (Ae Ah rfl (Aa rfl (.int .i64 ((i + 1 : Nat) : Int)) (fun b w hb hH => AQ rfl rfl rfl rfl (by rw [IntWalk.i64_in _ (by omega)]; omega) hb) (Ae Ah rfl (AV ?_)))))))))))
 exact Cr (i + 1) 0 hi (show x.nl.length - (i + 1) < x.nl.length - i by omega) ⟨rfl, rfl, rfl, rfl, trivial⟩ rfl
 obtain rfl : i = x.nl.length := by omega
 refine Ad (Ae Ah rfl (Aa rfl (.pointer (some ⟨p, 0, none⟩)) (fun b w hb hH => by exact BD rfl rfl hb) (Ae Ah rfl (Aa rfl (x.nv) (fun b w hb hH => Ba rfl rfl (Bm Ap rfl) (hH.row 0 rfl) hb) (Aa rfl (.int .i64 (x.nl.length : Int)) (fun b w hb hH => Bf ((hH.rdFs 1 rfl x.rn)) Tryz.underlying55 rfl rfl hb) (Aa rfl (.bool false) (fun b w hb hH => AZ rfl rfl rfl (BS (by omega)) hb) (Ae Ah rfl (Ab (As rfl (CP (FP (FP (Br (AL ?_))))))))))))))
 have hAll : ((Fi (x.nl.take x.nl.length) : Nat) : Int) = ((AN d.now : Nat) : Int) := by rw [List.take_length, hN]
 rw [hAll]
 refine Ad (Ae Ah rfl (Ab (Ax ?_)))
 exact Aw (.tmp rfl) (fun w h => AH (X := Unit) () rfl [0, 1] rfl h CK) rfl
theorem S2 {p : Nat} {d : DiskD} (x : RDk d) {fu : Bool} {room : Int} : AX Tryz.prog 56 #[.pointer (some ⟨p, 0, none⟩)] [cell p 61 #[.int .i64 room, x.sv, x.nv, x.wv, .bool fu, .int .i64 x.fz, .bool true], x.F] (fun (_ : Unit) => .int .i64 0) (fun (_ : Unit) => [cell p 61 #[.int .i64 room, x.sv, x.nv, x.wv, .bool fu, .int .i64 x.fz, .bool true], x.F]) := by
 refine Bg (args := [.pointer (some ⟨p, 0, none⟩)]) 33 Tryz.func56 rfl rfl rfl ?_; intro w rs
 have hn64 := x.nlen
 refine Ad (Ae Ah rfl (Ab (Ad (Ae Ah rfl (Ab (Av (Ad (Ae Ah rfl (Ab (Bo (Dd (α := Nat) (fun i => [(0, .pointer (some ⟨p, 0, none⟩)), (2, .int .i64 0), (3, .int .i64 0), (4, .int .i64 ((i : Nat) : Int))]) (fun i => [cell p 61 #[.int .i64 room, x.sv, x.nv, x.wv, .bool fu, .int .i64 x.fz, .bool true], x.F]) (fun i => i = 0) (fun i => i) 0 rfl ⟨rfl, rfl, rfl, rfl, trivial⟩ rfl ?_)))))))))))
 rintro i hI
 refine BB.at_ (env' := [(0, .pointer (some ⟨p, 0, none⟩)), (2, .int .i64 0), (3, .int .i64 0), (4, .int .i64 ((i : Nat) : Int))]) (rs' := [cell p 61 #[.int .i64 room, x.sv, x.nv, x.wv, .bool fu, .int .i64 x.fz, .bool true], x.F]) ⟨rfl, rfl, rfl, rfl, trivial⟩ rfl (Av ?_)
 rcases Nat.lt_or_ge i x.nl.length with hi | hi
 refine Ad (Ae Ah rfl (Aa rfl (.pointer (some ⟨p, 0, none⟩)) (fun b w hb hH => by exact BD rfl rfl hb) (Ae Ah rfl (Aa rfl (x.nv) (fun b w hb hH => Ba rfl rfl (Bm Ap rfl) (hH.row 0 rfl) hb) (Aa rfl (.int .i64 (x.nl.length : Int)) (fun b w hb hH => Bf ((hH.rdFs 1 rfl x.rn)) Tryz.underlying55 rfl rfl hb) (Aa rfl (.bool true) (fun b w hb hH => AZ rfl rfl rfl (Bw (by omega)) hb) (Ae Ah rfl (Aa rfl (.pointer (some ⟨p, 0, none⟩)) (fun b w hb hH => by exact BD rfl rfl hb) (Ae Ah rfl ?_)))))))))
 refine Aa rfl (.bool true) (fun b w hb hH => Ba rfl rfl (Bm Bt rfl) (hH.row 0 rfl) hb) (Ae Ah rfl (Ab (As rfl (CP (FP (FP (Br (AL (Ad (Ae Ah rfl (Ab (Ax ?_))))))))))))
 exact Aw (.tmp rfl) (fun w h => AH () rfl [0, 1] rfl h CK) rfl
 refine Ad (Ae Ah rfl (Aa rfl (.pointer (some ⟨p, 0, none⟩)) (fun b w hb hH => by exact BD rfl rfl hb) (Ae Ah rfl (Aa rfl (x.nv) (fun b w hb hH => Ba rfl rfl (Bm Ap rfl) (hH.row 0 rfl) hb) (Aa rfl (.int .i64 (x.nl.length : Int)) (fun b w hb hH => Bf ((hH.rdFs 1 rfl x.rn)) Tryz.underlying55 rfl rfl hb) (Aa rfl (.bool false) (fun b w hb hH => AZ rfl rfl rfl (BS (by omega)) hb) (Ae Ah rfl (Ab (As rfl (CP (FP (FP (Br (AL (Ad (Ae Ah rfl ?_))))))))))))))))
 refine Ab (Ax ?_)
 exact Aw (.tmp rfl) (fun w h => AH () rfl [0, 1] rfl h CK) rfl
end Go.Proofs.YtjcfimmcogkopaaGreat.Sep
namespace Go.Proofs.YtjcfimmcogkopaaGreat.Sep
open Go.RowKit
open Go.Proofs.YtjcfimmcogkopaaGreat.Mem (Bh Cs Chg AA)
theorem RB {p : Nat} {d : DiskD} {y : OpV} {K : Ass} (hf : d.fit) (hdn : d.down = false) (ho : L2 d.now y.o) (hfew : (AG d.now y.o).length ≤ 64) (hK : CO K y.v y.o.data) (hyc : y.o.data.length ≤ y.c) (hyl : y.o.data.length ≤ 1099511627776) : AX Tryz.prog 67 #[.pointer (some ⟨p, 0, none⟩), .agg #[.int .i64 y.o.kind, .string (bs y.o.name), .string (bs y.o.to), y.v, .int .i64 (y.o.cutS : Int)]] [An p d, K] (fun (_ : Unit) => .int .i64 0) (fun (_ : Unit) => [An p (Cp d y.o)]) := by
  refine Bg (args := [.pointer (some ⟨p, 0, none⟩), .agg #[.int .i64 y.o.kind, .string (bs y.o.name), .string (bs y.o.to), y.v, .int .i64 (y.o.cutS : Int)]]) 26 Tryz.func67 rfl rfl rfl ?_; intro w rs
  obtain ⟨fu, hfu⟩ : ∃ fu, d.fuse.isSome = fu := ⟨_, rfl⟩
  refine Be 0 rfl (CS hfu hdn) (fun _ => rfl) ?_; rintro x
  refine Bi [2, 4] rfl (fun rs h => h) rfl ?_
  have hn64 := x.nlen
  have hwl := x.wlen
  have hw4 := hf.2
  have ho2 : L2 (F7 x.nl) y.o := Lq x.pn.symm x.nnd ho
  refine Ad (Ae Ah rfl (Aj (post := fun g3 => [cell g3 107 #[.int .i64 y.o.kind, .string (bs y.o.name), .string (bs y.o.to), y.v, .int .i64 (y.o.cutS : Int)], FQ [x.Y, K], cell p 61 #[.int .i64 d.room, x.sv, x.nv, x.wv, .bool fu, .int .i64 x.fz, .bool false], x.F, Ar 107 5 encRO x.wv x.W]) rfl (CL (cs := #[.int .i64 y.o.kind, .string (bs y.o.name), .string (bs y.o.to), y.v, .int .i64 (y.o.cutS : Int)]) rfl rfl rfl) ?_)); rintro g3
  refine Ae Ah rfl (Ab (Av (DW 1 rfl ?_)))
  refine BL 9 1 [⟨.quiet, [none], fun _ => .pointer (some ⟨p, 0, none⟩), []⟩, ⟨.quiet, [none], fun _ => .pointer (some ⟨p, 0, none⟩), []⟩, ⟨.quiet, [none], fun _ => .pointer (some ⟨p, 0, none⟩), [1]⟩, ⟨.quiet, [none], fun _ => .pointer (some ⟨p, 2, none⟩), [2]⟩, ⟨.quiet, [none], fun _ => x.nv, [3]⟩, ⟨.quiet, [none], fun _ => .agg #[.int .i64 y.o.kind, .string (bs y.o.name), .string (bs y.o.to), y.v, .int .i64 (y.o.cutS : Int)], []⟩, ⟨.act 0, [some false], fun _ => undef, [4, 5]⟩, ⟨.quiet, [some true], fun _ => .pointer (some ⟨p, 0, none⟩), [0]⟩, ⟨.quiet, [some true], fun _ => .pointer (some ⟨p, 2, none⟩), [7]⟩] [(0, .pointer (some ⟨p, 0, none⟩)), (3, .pointer (some ⟨g3, 0, none⟩)), (4, .int .i64 0)] (fun ρ => match ρ with | [r0] => [Co r0 (fun zv => NB x.nl y.o zv) (DN), cell g3 107 #[.int .i64 y.o.kind, .string (bs y.o.name), .string (bs y.o.to), y.v, .int .i64 (y.o.cutS : Int)], FQ [x.Y, K], cell p 61 #[.int .i64 d.room, x.sv, x.nv, x.wv, .bool fu, .int .i64 x.fz, .bool false], x.F, Ar 107 5 encRO x.wv x.W] | _ => []) (by kernel_rfl) (by kernel_rfl) ⟨rfl, rfl, rfl, trivial⟩ rfl ?_ ?_
  refine Ac (by intro r0_; exact ⟨rfl, fun b w hH hb => Af Ah rfl hb⟩) (Ac (by intro r0_; exact ⟨rfl, fun b w hH hb => Af Ah rfl hb⟩) (Ac (by intro r0_; exact ⟨rfl, fun b w hH hb => by exact BD rfl rfl hb⟩) (Ac (by intro r0_; exact ⟨rfl, fun b w hH hb => Af Ah rfl hb⟩) (Ac (by intro r0_; exact ⟨rfl, fun b w hH hb => Ba rfl rfl (Bm Ap rfl) (hH.row 3 rfl) hb⟩) (Ac (by intro r0_; exact ⟨rfl, fun b w hH hb => Ba rfl rfl (DM (cs := [.int .i64 y.o.kind, .string (bs y.o.name), .string (bs y.o.to), y.v, .int .i64 (y.o.cutS : Int)]) CV rfl) (hH.row 1 rfl) hb⟩) (Ac (by exact ⟨rfl, Bk.s (Ak (os' := fun zv => [NB x.nl y.o zv, cell g3 107 #[.int .i64 y.o.kind, .string (bs y.o.name), .string (bs y.o.to), y.v, .int .i64 (y.o.cutS : Int)], FQ [x.Y, K], cell p 61 #[.int .i64 d.room, x.sv, x.nv, x.wv, .bool fu, .int .i64 x.fz, .bool false], x.F, Ar 107 5 encRO x.wv x.W]) [4, 2, 0] 1 (Ai Tryz.func72 (by kernel_rfl) rfl) (J8 (X := x.F) (Y := FQ [x.Y, K]) (x := y) x.rn (by omega) x.hn ho2 (fun q hq => ⟨Iu (x.yn q hq), x.nbig hf hq⟩) (Rz hK) hyl) rfl rfl rfl (fun _ => rfl) rfl rfl rfl) (fun _ => rfl)⟩) (Ac (by intro zv; exact ⟨rfl, fun b w hH hb => by exact BD rfl rfl hb⟩) (Ac (by intro zv; exact ⟨rfl, fun b w hH hb => Af Ah rfl hb⟩) ?_))))))))
  exact B7
  intro zv
  refine Cf.keep (env' := [(0, .pointer (some ⟨p, 0, none⟩)), (3, .pointer (some ⟨g3, 0, none⟩)), (4, .int .i64 0), (11, zv), (13, .pointer (some ⟨p, 2, none⟩))]) ⟨rfl, rfl, rfl, rfl, rfl, trivial⟩ (Ae Ah rfl (AF (post := fun _ => [NB x.nl y.o zv, cell g3 107 #[.int .i64 y.o.kind, .string (bs y.o.name), .string (bs y.o.to), y.v, .int .i64 (y.o.cutS : Int)], FQ [x.Y, K], cell p 61 #[.int .i64 d.room, x.sv, zv, x.wv, .bool fu, .int .i64 x.fz, .bool false], x.F, Ar 107 5 encRO x.wv x.W]) rfl rfl (Cv 3 0 (v := zv) #[.int .i64 d.room, x.sv, zv, x.wv, .bool fu, .int .i64 x.fz, .bool false] Ap.2 rfl (fun _ h => NB.c1 h) rfl rfl rfl rfl rfl rfl rfl) ?_)); rintro ⟨⟩
  refine AV (AL (Av (DW 2 rfl ?_)))
  refine BL 12 4 [⟨.quiet, [none, none, none, none], fun _ => .pointer (some ⟨p, 0, none⟩), []⟩, ⟨.act 0, [some false, some false, none, some false], fun _ => undef, []⟩, ⟨.quiet, [none, none, none, none], fun _ => .pointer (some ⟨p, 0, none⟩), []⟩, ⟨.quiet, [none, none, none, none], fun _ => .pointer (some ⟨p, 0, none⟩), [2]⟩, ⟨.quiet, [none, none, none, none], fun _ => .pointer (some ⟨p, 3, none⟩), [3]⟩, ⟨.quiet, [none, none, none, none], fun _ => x.wv, [4]⟩, ⟨.act 1, [some true, some false, none, some false], fun _ => undef, [1, 5]⟩, ⟨.quiet, [none, none, none, none], fun _ => .agg #[.int .i64 y.o.kind, .string (bs y.o.name), .string (bs y.o.to), y.v, .int .i64 (y.o.cutS : Int)], []⟩, ⟨.act 2, [none, none, some false, some false], fun _ => undef, [7]⟩, ⟨.act 3, [some true, some true, some true, some false], fun _ => undef, [6, 8]⟩, ⟨.quiet, [some true, some true, some true, some true], fun _ => .pointer (some ⟨p, 0, none⟩), [0]⟩, ⟨.quiet, [some true, some true, some true, some true], fun _ => .pointer (some ⟨p, 3, none⟩), [10]⟩] [(0, .pointer (some ⟨p, 0, none⟩)), (3, .pointer (some ⟨g3, 0, none⟩)), (4, .int .i64 0)] (fun ρ => match ρ with | [r0, r1, r2, r3] => [Co r2 (fun ub => Ar 107 5 encRO ub ([y])) (DN), Co r3 (fun u2 => Ar 107 5 encRO u2 (x.W ++ [y])) (Co r1 (fun u1 => Ar 107 5 encRO u1 x.W) (Co r0 (fun u0 => Ar 107 5 encRO u0 ([])) (DN))), NB x.nl y.o zv, cell g3 107 #[.int .i64 y.o.kind, .string (bs y.o.name), .string (bs y.o.to), y.v, .int .i64 (y.o.cutS : Int)], FQ [x.Y, K], cell p 61 #[.int .i64 d.room, x.sv, zv, x.wv, .bool fu, .int .i64 x.fz, .bool false], x.F, Ar 107 5 encRO x.wv x.W] | _ => []) (by kernel_rfl) (by kernel_rfl) ⟨rfl, rfl, rfl, trivial⟩ rfl ?_ ?_
  refine Ac (by intro r0_ r1_ r2_ r3_; exact ⟨rfl, fun b w hH hb => Af Ah rfl hb⟩) ?_
  refine Ac (by intro r2_; exact ⟨rfl, Bk.s (Bk.place (val := fun u0 : Value => u0) (t := fun u0 => Ar 107 5 encRO u0 ([])) (os' := fun u0 => [Co r2_ (fun ub => Ar 107 5 encRO ub ([y])) (DN), Ar 107 5 encRO u0 ([]), NB x.nl y.o zv, cell g3 107 #[.int .i64 y.o.kind, .string (bs y.o.name), .string (bs y.o.to), y.v, .int .i64 (y.o.cutS : Int)], FQ [x.Y, K], cell p 61 #[.int .i64 d.room, x.sv, zv, x.wv, .bool fu, .int .i64 x.fz, .bool false], x.F, Ar 107 5 encRO x.wv x.W]) 1 rfl (by refine D1 (e := 107) (t := 59) (k := 5) (enc := encRO) ?_ ?_; exact BJ; exact rfl) (fun _ => rfl)) (fun _ => rfl)⟩) ?_
  refine Ac (by intro r0_ r1_ r2_ r3_; exact ⟨rfl, fun b w hH hb => Af Ah rfl hb⟩) (Ac (by intro r0_ r1_ r2_ r3_; exact ⟨rfl, fun b w hH hb => by exact BD rfl rfl hb⟩) (Ac (by intro r0_ r1_ r2_ r3_; exact ⟨rfl, fun b w hH hb => Af Ah rfl hb⟩) (Ac (by intro r0_ r1_ r2_ r3_; exact ⟨rfl, fun b w hH hb => Ba rfl rfl (Bm AM rfl) (hH.row 5 rfl) hb⟩) (Ac (by intro u0 r2_; exact ⟨rfl, Bk.s (JS (nb := 72) 1 BJ C2 (by kernel_rfl) (by decide) rfl (x.W) (fun w hH => hH.vec 7 rfl C2) (by simp only [List.length_nil]; omega) rfl rfl rfl (List.nil_append _)) (fun _ => rfl)⟩) (Ac (by intro r0_ r1_ r2_ r3_; exact ⟨rfl, fun b w hH hb => Ba rfl rfl (DM (cs := [.int .i64 y.o.kind, .string (bs y.o.name), .string (bs y.o.to), y.v, .int .i64 (y.o.cutS : Int)]) CV rfl) (hH.row 3 rfl) hb⟩) ?_)))))
  refine Ac (by intro r0_ r1_; exact ⟨rfl, Bk.s (Bk.place (val := fun ub : Value => ub) (t := fun ub => Ar 107 5 encRO ub ([y])) (os' := fun ub => [Ar 107 5 encRO ub ([y]), Co r1_ (fun u1 => Ar 107 5 encRO u1 x.W) (Co r0_ (fun u0 => Ar 107 5 encRO u0 ([])) (DN)), NB x.nl y.o zv, cell g3 107 #[.int .i64 y.o.kind, .string (bs y.o.name), .string (bs y.o.to), y.v, .int .i64 (y.o.cutS : Int)], FQ [x.Y, K], cell p 61 #[.int .i64 d.room, x.sv, zv, x.wv, .bool fu, .int .i64 x.fz, .bool false], x.F, Ar 107 5 encRO x.wv x.W]) 0 rfl (by refine Hr (e := 107) (t := 59) (k := 5) (enc := encRO) (x := .tmp 21) (c := .agg #[.int .i64 y.o.kind, .string (bs y.o.name), .string (bs y.o.to), y.v, .int .i64 (y.o.cutS : Int)]) ?_ ?_ ?_ y ?_ ?_ ?_; exact BJ; exact (by decide); exact C2; exact rfl; exact rfl; exact rfl) (fun _ => rfl)) (fun _ => rfl)⟩) ?_
  refine Ac (by intro u0 u1 ub; exact ⟨rfl, Bk.s (JS (nb := 72) 1 BJ C2 (by kernel_rfl) (by decide) rfl ([y]) (fun w hH => hH.vec 0 rfl C2) (by simp only [List.length_cons, List.length_nil]; omega) rfl rfl rfl rfl) (fun _ => rfl)⟩) (Ac (by intro u0 u1 ub u2; exact ⟨rfl, fun b w hH hb => by exact BD rfl rfl hb⟩) (Ac (by intro u0 u1 ub u2; exact ⟨rfl, fun b w hH hb => Af Ah rfl hb⟩) ?_))
  exact B7
  intro u0 u1 ub u2
  refine Cf.keep (env' := [(4, .int .i64 0), (23, u2), (25, .pointer (some ⟨p, 3, none⟩))]) ⟨rfl, rfl, rfl, trivial⟩ (Ae Ah rfl (AF (post := fun _ => [Ar 107 5 encRO ub ([y]), Ar 107 5 encRO u2 (x.W ++ [y]), NB x.nl y.o zv, cell g3 107 #[.int .i64 y.o.kind, .string (bs y.o.name), .string (bs y.o.to), y.v, .int .i64 (y.o.cutS : Int)], FQ [x.Y, K], cell p 61 #[.int .i64 d.room, x.sv, zv, u2, .bool fu, .int .i64 x.fz, .bool false], x.F, Ar 107 5 encRO x.wv x.W]) rfl rfl (Cv 5 1 (v := u2) #[.int .i64 d.room, x.sv, zv, u2, .bool fu, .int .i64 x.fz, .bool false] AM.2 rfl (fun _ h => Ar.c1 h) rfl rfl rfl rfl rfl rfl rfl) ?_)); rintro ⟨⟩
  refine AV (AL (Be 2 rfl NB.open_ (fun _ => rfl) ?_)); rintro z
  refine BB.fact 2 rfl (fun _ h => h.2) ?_; rintro hz
  refine BB.leave [2] rfl rfl (Bi [6, 7, 1, 5, 0, 3] rfl (UQ x (wv' := u2) rfl hz ho hfew hK hyc hfu hdn) rfl (Ad (Ae Ah rfl (Ab (Ax ?_)))))
  exact Aw (.tmp rfl) (fun w h => AH () rfl [0] rfl h CK) rfl
end Go.Proofs.YtjcfimmcogkopaaGreat.Sep
