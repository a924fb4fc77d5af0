/-
  RdkT · RdkC · RdkD
-/
import Derived.Test.YtnknboibmifacaaGreatPM02
set_option linter.unusedSimpArgs false
set_option linter.unusedVariables false
set_option maxRecDepth 100000
namespace Go.Proofs.YtnknboibmifacaaGreat.Sep
open Go.RowKit
open Go.Proofs.YtnknboibmifacaaGreat.Mem (Bl Co Chg AG)
structure RDk (d : DiskD) where
  F : Ass
  Y : Ass
  sv : Value
  nv : Value
  wv : Value
  sl : List RFl
  nl : List RFl
  W : List OpV
  fz : Int
  hs : Ex sl
  hn : Ex nl
  ps : (FU sl).Perm d.syn
  pn : (FU nl).Perm d.now
  hW : DN W = d.wait
  rs : Ff F sv sl
  rn : Ff F nv nl
  ys : ∀ y : RFl, y ∈ sl → CX Y y.v y.d
  yn : ∀ y : RFl, y ∈ nl → CX Y y.v y.d
  yw : ∀ x : OpV, x ∈ W → CX Y x.v x.o.data
  yc : ∀ x : OpV, x ∈ W → x.o.data.length ≤ x.c
  hok : E4 d.syn d.wait
  few : ∀ k, ((d.wait.take k).foldl AI d.syn).length ≤ 64
  hz : ∀ k, d.fuse = some k → fz = (k : Int)
  zr : -9223372036854775808 ≤ fz ∧ fz ≤ 9223372036854775807
  nc : nv.cells = #[nv] ∧ nv.oneCell' = true
  sc : sv.cells = #[sv] ∧ sv.oneCell' = true
variable {p : Nat} {d : DiskD} {rs : List RowT} {w : World} {v : Value}
def Au (p : Nat) (d : DiskD) : Ass := fun rs => ∃ x : RDk d, Ap [cell p 59 #[.int .i64 d.room, x.sv, x.nv, x.wv, .bool d.fuse.isSome, .int .i64 x.fz, .bool d.down], x.F, x.Y, As 103 5 encRO x.wv x.W] rs
theorem RDk.nlen (x : RDk d) : x.nl.length ≤ 64 := by
 have h1 := x.few d.wait.length
 rw [List.take_length] at h1
 have h2 := x.pn.length_eq
 unfold FU at h2
 rw [List.length_map] at h2
 have h3 : d.now.length ≤ 64 := h1
 omega
theorem RDk.wlen (x : RDk d) : x.W.length = d.wait.length := by rw [← x.hW]; simp [DN]
theorem RDk.snd (x : RDk d) : (AL d.syn).Nodup := (CQ x.ps).nodup_iff.1 (DP x.hs)
theorem RDk.nnd (x : RDk d) : (AL d.now).Nodup := (CQ x.pn).nodup_iff.1 (DP x.hn)
theorem QF {l : List RFl} {y : RFl} (h : y ∈ l) : y.d.length ≤ AK (FU l) := by
  unfold AK FU
  rw [List.map_map]
  obtain ⟨j, hj⟩ := List.getElem?_of_mem h
  induction l generalizing j with
  | nil => cases h
  | cons a l ih =>
    simp only [List.map_cons, List.sum_cons, Function.comp]
    cases j with
    | zero => obtain rfl := Option.some.inj hj; omega
    | succ j =>
      have := ih (List.mem_of_getElem? (by simpa using hj)) j (by simpa using hj)
      simp only [Function.comp_def] at this ⊢
      omega
theorem RDk.nused (x : RDk d) : AK (FU x.nl) = AK d.now := Df x.pn
theorem RDk.nbig (x : RDk d) (hf : d.fit) {y : RFl} (h : y ∈ x.nl) : y.d.length ≤ 1099511627776 := by
 have h1 := QF h
 rw [x.nused] at h1
 exact Nat.le_trans h1 (Ip hf x.snd x.hok)
theorem VQ {F G : Ass} {l : List RFl} (h : Ff F v l) : Ff (Fz [F, G]) v l := fun rs w h1 h2 => by
 obtain ⟨a, b, rfl, h3, _⟩ := h1
 exact h a w h3 (AW.2 fun x hx => AW.1 h2 x (List.mem_append_left _ hx))
theorem TE {F G : Ass} {l : List RFl} (h : Ff G v l) : Ff (Fz [F, G]) v l := fun rs w h1 h2 => by
 obtain ⟨a, b, rfl, _, h3⟩ := h1
 exact h b w h3.one' (AW.2 fun x hx => AW.1 h2 x (List.mem_append_right _ hx))
theorem Id {F G : Ass} {l : List UInt8} (h : CX F v l) : CX (Fz [F, G]) v l := fun rs w h1 h2 => by
 obtain ⟨a, b, rfl, h3, _⟩ := h1
 exact h a w h3 (AW.2 fun x hx => AW.1 h2 x (List.mem_append_left _ hx))
theorem QG {F G : Ass} {l : List UInt8} (h : CX G v l) : CX (Fz [F, G]) v l := fun rs w h1 h2 => by
 obtain ⟨a, b, rfl, _, h3⟩ := h1
 exact h b w h3.one' (AW.2 fun x hx => AW.1 h2 x (List.mem_append_right _ hx))
def RDk.turn (x : RDk d) (d' : DiskD) (fz : Int) (hsy : d'.syn = d.syn) (hwa : d'.wait = d.wait) (hz : ∀ k, d'.fuse = some k → fz = (k : Int)) (zr : -9223372036854775808 ≤ fz ∧ fz ≤ 9223372036854775807) : RDk d' where
  F := x.F
  Y := x.Y
  sv := x.sv
  nv := x.nv
  wv := x.wv
  sl := x.sl
  nl := x.nl
  W := x.W
  fz := fz
  hs := x.hs
  hn := x.hn
  ps := by rw [hsy]; exact x.ps
  pn := by unfold DiskD.now; rw [hsy, hwa]; exact x.pn
  hW := by rw [hwa]; exact x.hW
  rs := x.rs
  rn := x.rn
  ys := x.ys
  yn := x.yn
  yw := x.yw
  yc := x.yc
  hok := by rw [hsy, hwa]; exact x.hok
  few := by rw [hsy, hwa]; exact x.few
  hz := hz
  zr := zr
  nc := x.nc
  sc := x.sc
theorem TF {d : DiskD} {o : OpD} (h : ∀ k, ((d.wait.take k).foldl AI d.syn).length ≤ 64) (h1 : (AI d.now o).length ≤ 64) (k : Nat) : (((d.wait ++ [o]).take k).foldl AI d.syn).length ≤ 64 := by
  rcases Nat.lt_or_ge d.wait.length k with hk | hk
  · rw [List.take_of_length_le (by simp; omega), List.foldl_append]
    exact h1
  · rw [List.take_append_of_le_length hk]
    exact h k
def RDk.does (x : RDk d) {o : OpD} {z : RDo} {wv' : Value} {y : OpV} (hy : y.o = o) (hz : Ev x.nl o z) (ho : LB d.now o) (hf : (AI d.now o).length ≤ 64) {G H : Ass} (hG : Ff G z.rv z.rl) (hH : CX H z.bv z.bd) {K : Ass} (hK : CX K y.v y.o.data) (hyc : y.o.data.length ≤ y.c) (hc : z.rv.cells = #[z.rv] ∧ z.rv.oneCell' = true) : RDk (Cr d o) where
  F := Fz [x.F, G]
  Y := Fz [Fz [x.Y, K], H]
  sv := x.sv
  nv := z.rv
  wv := wv'
  sl := x.sl
  nl := z.rl
  W := x.W ++ [y]
  fz := x.fz
  hs := x.hs
  hn := hz.1
  ps := x.ps
  pn := by rw [C2]; exact hz.2.1 _ x.pn
  hW := by
    show DN (x.W ++ [y]) = d.wait ++ [o]
    rw [← x.hW, ← hy]; simp [DN]
  rs := VQ x.rs
  rn := TE hG
  ys := fun q hq => Id (Id (x.ys q hq))
  yn := fun q hq => by
    rcases hz.2.2 q hq with h | ⟨h1, h2⟩
    · exact Id (Id (x.yn q h))
    · rw [h1, h2]; exact QG hH
  yw := fun q hq => by
    rcases List.mem_append.1 hq with h | h
    · exact Id (Id (x.yw q h))
    · rw [List.mem_singleton.1 h]; exact Id (QG hK)
  yc := fun q hq => by
    rcases List.mem_append.1 hq with h | h
    · exact x.yc q h
    · rw [List.mem_singleton.1 h]; exact hyc
  hok := JF x.hok ho
  few := TF x.few hf
  hz := x.hz
  zr := x.zr
  nc := hc
  sc := x.sc
theorem Lv {a b : Ass} {os : List Ass} {rs : List RowT} : Ap (a :: b :: os) rs ↔ Ap (Fz [a, b] :: os) rs := by
  constructor
  · rintro ⟨r1, r2, rfl, h1, r3, r4, rfl, h2, h3⟩
    exact ⟨r1 ++ r3, r4, by simp, ⟨r1, r3, rfl, h1, r3, [], by simp, h2, rfl⟩, h3⟩
  · rintro ⟨r1, r2, rfl, ⟨a1, a2, rfl, h1, h2⟩, h3⟩
    exact ⟨a1, a2 ++ r2, by simp, h1, a2, r2, rfl, h2.one', h3⟩
def Ca (p : Nat) (d : DiskD) (v : Value) (b : List UInt8) : Ass := fun rs => ∃ x : RDk d, (CX x.Y v b ∧ ∃ A c, v = .slice A b.length c) ∧ Ap [cell p 59 #[.int .i64 d.room, x.sv, x.nv, x.wv, .bool d.fuse.isSome, .int .i64 x.fz, .bool d.down], x.F, x.Y, As 103 5 encRO x.wv x.W] rs
theorem DQ {b : List UInt8} : ∀ rs, Ap [Ca p d v b] rs → Au p d rs := fun rs h => by
 obtain ⟨x, _, hx⟩ := h.one'
 exact ⟨x, hx⟩
theorem UT {b : List UInt8} : ∀ rs, Ca p d v b rs → ∃ A c, v = .slice A b.length c := fun rs ⟨x, h, _⟩ => h.2
theorem EZ {b : List UInt8} : CX (Ca p d v b) v b := fun rs w ⟨x, ⟨hx, _⟩, h⟩ hr => by
 obtain ⟨r1, r2, rfl, h1, r3, r4, rfl, h2, r5, r6, rfl, h3, h4⟩ := h
 exact hx r5 w h3 (AW.2 fun q hq => AW.1 hr q (by simp [hq]))
theorem Ga {e : TypeId} {k : Nat} {α : Type} {enc : α → List Value} : As e k enc (.slice none 0 0) [] [] := Ov e k enc
def Wv (room : Int) : RDk (GW room) where
  F := D1
  Y := D1
  sv := .slice none 0 0
  nv := .slice none 0 0
  wv := .slice none 0 0
  sl := []
  nl := []
  W := []
  fz := 0
  hs := List.Pairwise.nil
  hn := List.Pairwise.nil
  ps := .refl _
  pn := .refl _
  hW := rfl
  rs := fun rs w h1 h2 => by rw [show rs = [] from h1] at *; exact CT [] w Ga h2
  rn := fun rs w h1 h2 => by rw [show rs = [] from h1] at *; exact CT [] w Ga h2
  ys := fun y h => nomatch h
  yn := fun y h => nomatch h
  yw := fun y h => nomatch h
  yc := fun y h => nomatch h
  hok := trivial
  few := fun k => by show ((([] : List OpD).take k).foldl AI []).length ≤ 64; rw [List.take_nil]; decide
  hz := fun k h => nomatch h
  zr := by decide
  nc := ⟨rfl, rfl⟩
  sc := ⟨rfl, rfl⟩
theorem TG {room : Int} : ∀ rs, Ap [cell p 59 #[.int .i64 room, .slice none 0 0, .slice none 0 0, .slice none 0 0, .bool false, .int .i64 0, .bool false]] rs → Au p (GW room) rs := fun rs h => by
 refine ⟨Wv room, ?_⟩
 obtain ⟨r1, r2, rfl, h1, rfl⟩ := h
 exact ⟨r1, [], rfl, h1, [], [], rfl, rfl, [], [], rfl, rfl, [], [], rfl, Ga, rfl⟩
theorem Cy {fu dn : Bool} (hf : d.fuse.isSome = fu) (hd : d.down = dn) : ∀ rs, Au p d rs → ∃ x : RDk d, Ap [cell p 59 #[.int .i64 d.room, x.sv, x.nv, x.wv, .bool fu, .int .i64 x.fz, .bool dn], x.F, x.Y, As 103 5 encRO x.wv x.W] rs := fun rs h => by subst hf; subst hd; exact h
theorem TH {k : Nat} {dn : Bool} (hf : d.fuse = some k) (hd : d.down = dn) : ∀ rs, Au p d rs → ∃ x : RDk d, Ap [cell p 59 #[.int .i64 d.room, x.sv, x.nv, x.wv, .bool true, .int .i64 (k : Int), .bool dn], x.F, x.Y, As 103 5 encRO x.wv x.W] rs := fun rs ⟨x, h⟩ => by
 refine ⟨x, ?_⟩
 rw [x.hz k hf] at h
 rw [hf, hd] at h
 exact h
theorem Gb {d' : DiskD} (x : RDk d) {room fz : Int} {fu dn : Bool} (hr : d'.room = room) (hsy : d'.syn = d.syn) (hwa : d'.wait = d.wait) (hfu : d'.fuse.isSome = fu) (hdn : d'.down = dn) (hz : ∀ k, d'.fuse = some k → fz = (k : Int)) (zr : -9223372036854775808 ≤ fz ∧ fz ≤ 9223372036854775807) : ∀ rs, Ap [cell p 59 #[.int .i64 room, x.sv, x.nv, x.wv, .bool fu, .int .i64 fz, .bool dn], x.F, x.Y, As 103 5 encRO x.wv x.W] rs → Au p d' rs := fun rs h => ⟨x.turn d' fz hsy hwa hz zr, by subst hr; subst hfu; subst hdn; exact h⟩
theorem Cb (x : RDk d) {fu dn : Bool} (hf : d.fuse.isSome = fu) (hd : d.down = dn) : ∀ rs, Ap [cell p 59 #[.int .i64 d.room, x.sv, x.nv, x.wv, .bool fu, .int .i64 x.fz, .bool dn], x.F, x.Y, As 103 5 encRO x.wv x.W] rs → Au p d rs := fun rs h => ⟨x, by subst hf; subst hd; exact h⟩
theorem EM (d : DiskD) : (d.down = true ∧ Bi d = (d, 3)) ∨ (d.down = false ∧ d.fuse = some 0 ∧ Bi d = ({ d with down := true }, 3)) ∨ (d.down = false ∧ (∃ k, d.fuse = some (k + 1) ∧ Bi d = ({ d with fuse := some k }, 0))) ∨ (d.down = false ∧ d.fuse = none ∧ Bi d = (d, 0)) := by
  obtain ⟨room, syn, wait, fuse, down⟩ := d
  cases down with
  | true => left; exact ⟨rfl, by unfold Bi; rw [if_pos (.inl rfl)]⟩
  | false =>
    right
    cases fuse with
    | none => right; right; exact ⟨rfl, rfl, by unfold Bi; rw [if_neg (by simp)]; rfl⟩
    | some k =>
      cases k with
      | zero => left; exact ⟨rfl, rfl, by unfold Bi; rw [if_pos (.inr rfl)]⟩
      | succ k => right; left; exact ⟨rfl, k, rfl, by unfold Bi; rw [if_neg (by simp)]; rfl⟩
theorem TI (x : RDk d) {o : OpD} {z : RDo} {wv' rv : Value} {y : OpV} (hy : y.o = o) (hz : Ev x.nl o z ∧ z.rv = rv) (ho : LB d.now o) (hf : (AI d.now o).length ≤ 64) {K : Ass} (hK : CX K y.v y.o.data) (hyc : y.o.data.length ≤ y.c) {fu dn : Bool} (hfu : d.fuse.isSome = fu) (hdn : d.down = dn) : ∀ rs, Ap [cell p 59 #[.int .i64 d.room, x.sv, rv, wv', .bool fu, .int .i64 x.fz, .bool dn], x.F, As 52 2 encRF rv z.rl, Fz [x.Y, K], As 5 1 encB z.bv z.bd, As 103 5 encRO wv' (x.W ++ [y])] rs → Au p (Cr d o) rs := fun rs h => by
 obtain ⟨hz, hrv⟩ := hz
 subst hrv
 subst hfu; subst hdn
 obtain ⟨r1, _, rfl, h1, hr⟩ := h
 have hc : z.rv.cells = #[z.rv] ∧ z.rv.oneCell' = true := by
  obtain ⟨_, _, rfl, _, _, _, rfl, h9, _⟩ := hr
  exact As.c1 h9
 refine ⟨x.does (wv' := wv') hy hz ho hf CT CU hK hyc hc, ?_⟩
 obtain ⟨a1, a2, rfl, ⟨b1, b2, rfl, h2, h3⟩, h4⟩ := Lv.1 hr
 exact ⟨r1, _, rfl, h1, b1 ++ b2, _, rfl, ⟨b1, b2, rfl, h2, h3⟩, Lv.1 h4⟩
theorem AU.too {X Y : Type} {P : Program} {F : FuncId} {args : Array Value} {pre : List Ass} {val : X → Value} {post : X → List Ass} {val' : Y → Value} {post' : Y → List Ass} (h : AU P F args pre val post) (hi : ∀ x, ∃ y, val x = val' y ∧ ∀ rs, Ap (post x) rs → ∃ rs', rs.Perm rs' ∧ Ap (post' y) rs') : AU P F args pre val' post' := fun w rs h1 h2 h3 => (h w rs h1 h2 h3).mono (by
 rintro e w' ⟨x, he, rs', hp, hc⟩
 obtain ⟨y, hv, hq⟩ := hi x
 obtain ⟨rs2, p, hp2⟩ := hq rs' hp
 exact ⟨y, by rw [he, hv], rs2, hp2, Jo hc p⟩)
def M6 (l : List RFl) (o : OpD) (rv : Value) : Ass := fun rs => ∃ z : RDo, Ap [As 5 1 encB z.bv z.bd, As 52 2 encRF rv z.rl, fact (Ev l o z ∧ z.rv = rv)] rs
theorem M6.open_ {l : List RFl} {o : OpD} {rv : Value} : ∀ rs, M6 l o rv rs → ∃ z : RDo, Ap [As 5 1 encB z.bv z.bd, As 52 2 encRF rv z.rl, fact (Ev l o z ∧ z.rv = rv)] rs := fun _ h => h
theorem M6.c1 {l : List RFl} {o : OpD} {rv : Value} {rs : List RowT} (h : M6 l o rv rs) : rv.cells = #[rv] ∧ rv.oneCell' = true := by
 obtain ⟨z, r1, _, rfl, h1, r2, _, rfl, h2, _⟩ := h
 exact As.c1 h2
theorem JU {X Y : Ass} {v : Value} {l : List RFl} {x : OpV} (hX : Ff X v l) (hl : l.length ≤ 1000000) (hs : Ex l) (ho : LB (FU l) x.o) (hY : ∀ y : RFl, y ∈ l → CX Y y.v y.d ∧ y.d.length ≤ 1099511627776) (hO : CX Y x.v x.o.data) (hbl : x.o.data.length ≤ 1099511627776) : AU Tryz.prog 67 #[v, .agg (encRO x).toArray] [X, Y] (fun rv : Value => rv) (fun rv => [X, Y, M6 l x.o rv]) := (RU hX hl hs ho hY hO hbl).too (fun z => ⟨z.rv, rfl, fun rs h => by
 obtain ⟨r1, _, rfl, h1, r2, _, rfl, h2, r3, _, rfl, h3, r4, _, rfl, h4, r5, _, rfl, ⟨rfl, h5⟩, rfl⟩ := h
 exact ⟨_, .refl _, r1, _, rfl, h1, r2, _, rfl, h2, r3 ++ r4, [], by simp, ⟨z, r3, _, rfl, h3, r4, [], by simp, h4, [], [], rfl, ⟨rfl, h5, rfl⟩, rfl⟩, rfl⟩⟩)
theorem TJ (x : RDk d) (n : List UInt8) : AQ d.now n = AQ (FU x.nl) n := (El x.pn (DP x.hn) n).symm
theorem RDk.at_ (x : RDk d) (n : List UInt8) : (∃ (j : Nat) (y : RFl), x.nl[j]? = some y ∧ y.n = n ∧ (∀ (k : Nat) (z : RFl), k < j → x.nl[k]? = some z → z.n ≠ n) ∧ AQ d.now n = some y.d ∧ y ∈ x.nl) ∨ ((∀ z : RFl, z ∈ x.nl → z.n ≠ n) ∧ AQ d.now n = none) := by
  rcases Ha x.hn n with ⟨j, y, h1, h2, h3, h4⟩ | ⟨h1, h2⟩
  · exact .inl ⟨j, y, h1, h2, h3, by rw [TJ x]; exact h4, List.mem_of_getElem? h1⟩
  · exact .inr ⟨h1, by rw [TJ x]; exact h2⟩
theorem RDk.no_ (x : RDk d) {n : List UInt8} (h : AQ d.now n = none) : ∀ z : RFl, z ∈ x.nl → z.n ≠ n := by
  rcases x.at_ n with ⟨j, y, _, _, _, h4, _⟩ | ⟨h1, _⟩
  · rw [h] at h4; cases h4
  · exact h1
theorem RDk.yes_ (x : RDk d) {n b : List UInt8} (h : AQ d.now n = some b) : ∃ (j : Nat) (y : RFl), x.nl[j]? = some y ∧ y.n = n ∧ (∀ (k : Nat) (z : RFl), k < j → x.nl[k]? = some z → z.n ≠ n) ∧ y.d = b ∧ y ∈ x.nl := by
  rcases x.at_ n with ⟨j, y, h1, h2, h3, h4, h5⟩ | ⟨_, h4⟩
  · exact ⟨j, y, h1, h2, h3, Option.some.inj (h4.symm.trans h), h5⟩
  · rw [h] at h4; cases h4
def E9 (l : List RFl) : Nat := (l.map fun x => x.d.length).sum
theorem TK (l : List RFl) : E9 l = AK (FU l) := by unfold E9 AK FU; rw [List.map_map]; rfl
theorem RDk.usedN (x : RDk d) : E9 x.nl = AK d.now := by rw [TK, x.nused]
theorem PM {l : List RFl} {i : Nat} {y : RFl} (h : l[i]? = some y) : E9 (l.take (i + 1)) = E9 (l.take i) + y.d.length := by
 unfold E9
 rw [List.take_add_one, h]
 simp
theorem TL (l : List RFl) (i : Nat) : E9 (l.take i) ≤ E9 l := by
 have h : E9 l = E9 (l.take i) + E9 (l.drop i) := by
  unfold E9
  rw [← List.sum_append, ← List.map_append, List.take_append_drop]
 omega
end Go.Proofs.YtnknboibmifacaaGreat.Sep
namespace Go.Proofs.YtnknboibmifacaaGreat.Sep
open Go.RowKit
open Go.Proofs.YtnknboibmifacaaGreat.Mem (Bl Co Chg AG)
theorem Jj {p : Nat} {d d1 : DiskD} {e : Nat} (h : Bi d = (d1, e)) : AU Tryz.prog 30 #[.pointer (some ⟨p, 0, none⟩)] [Au p d] (fun (_ : Unit) => .int .i64 (e : Int)) (fun (_ : Unit) => [Au p d1]) := by
  refine Bd (args := [.pointer (some ⟨p, 0, none⟩)]) 39 Tryz.func30 rfl rfl rfl ?_; intro w rs
  refine Ad ?_
  refine Ae Ag rfl ?_
  refine Aa (Aq ?_)
  rcases EM d with ⟨hdn, hb⟩ | ⟨hdn, hz, hb⟩ | ⟨hdn, k, hz, hb⟩ | ⟨hdn, hz, hb⟩
  · skip
    obtain ⟨rfl, rfl⟩ := Prod.mk.inj (hb.symm.trans h)
    obtain ⟨fu, hfu⟩ : ∃ fu, d.fuse.isSome = fu := ⟨_, rfl⟩
    refine AZ 0 rfl (Cy hfu hdn) (fun _ => rfl) ?_; rintro x
    refine Ad ?_
    refine Ae Ag rfl ?_
    refine Ab rfl (.pointer (some ⟨p, 0, none⟩)) (fun b w hb hH => by exact BA rfl rfl hb) ?_
    refine Ae Ag rfl ?_
    refine Ab rfl (.bool true) (fun b w hb hH => A6 rfl rfl (Bk Bo rfl) (hH.row 0 rfl) hb) ?_
    refine Ae Ag rfl ?_
    refine Aa (Ar rfl (Ax (AE (Aq (Ad ?_)))))
    refine Ae Ag rfl ?_
    refine Ab rfl (.pointer (some ⟨p, 0, none⟩)) (fun b w hb hH => by exact BA rfl rfl hb) ?_
    refine Ae Ag rfl ?_
    refine Ab rfl (.bool true) (fun b w hb hH => A6 rfl rfl (Bk Bo rfl) (hH.row 0 rfl) hb) ?_
    refine Aa (AC rfl ?_)
    refine AX [0, 1, 2, 3] rfl (Cb x hfu hdn) rfl ?_
    refine Ad ?_
    refine Ae Ag rfl ?_
    refine Aa (Ay (CM ?_))
    exact Av (.tmp rfl) (fun w h => AB () rfl [0] rfl h Cl) rfl
  · skip
    obtain ⟨rfl, rfl⟩ := Prod.mk.inj (hb.symm.trans h)
    refine AZ 0 rfl (TH hz hdn) (fun _ => rfl) ?_; rintro x
    refine Ad ?_
    refine Ae Ag rfl ?_
    refine Ab rfl (.pointer (some ⟨p, 0, none⟩)) (fun b w hb hH => by exact BA rfl rfl hb) ?_
    refine Ae Ag rfl ?_
    refine Ab rfl (.bool false) (fun b w hb hH => A6 rfl rfl (Bk Bo rfl) (hH.row 0 rfl) hb) ?_
    refine Ae Ag rfl ?_
    refine Ab rfl (.pointer (some ⟨p, 0, none⟩)) (fun b w hb hH => by exact BA rfl rfl hb) ?_
    refine Ae Ag rfl ?_
    refine Ab rfl (.bool true) (fun b w hb hH => A6 rfl rfl (Bk Bo rfl) (hH.row 0 rfl) hb) ?_
    refine Ae Ag rfl ?_
    refine Ab rfl (.pointer (some ⟨p, 0, none⟩)) (fun b w hb hH => by exact BA rfl rfl hb) ?_
    refine Ae Ag rfl ?_
    refine Ab rfl (.int .i64 ((0 : Nat) : Int)) (fun b w hb hH => A6 rfl rfl (Bk AR rfl) (hH.row 0 rfl) hb) ?_
    refine Ab rfl (.bool true) (fun b w hb hH => AV rfl rfl rfl (H7 (by omega)) hb) ?_
    refine Ae Ag rfl ?_
    refine Aa (AC rfl (Br ?_))
    refine Ae Ag rfl ?_
    refine Ab rfl (.pointer (some ⟨p, 0, none⟩)) (fun b w hb hH => by exact BA rfl rfl hb) ?_
    refine Ae Ag rfl ?_
    refine AH (post := fun _ => [cell p 59 #[.int .i64 d.room, x.sv, x.nv, x.wv, .bool true, .int .i64 ((0 : Nat) : Int), .bool true], x.F, x.Y, As 103 5 encRO x.wv x.W]) rfl rfl (AD 0 (v := .bool true) #[.int .i64 d.room, x.sv, x.nv, x.wv, .bool true, .int .i64 ((0 : Nat) : Int), .bool true] Bo.2 rfl rfl rfl rfl rfl rfl rfl rfl rfl) ?_; rintro ⟨⟩
    refine AP (AE (Aq (Ad ?_)))
    refine Ae Ag rfl ?_
    refine Ab rfl (.pointer (some ⟨p, 0, none⟩)) (fun b w hb hH => by exact BA rfl rfl hb) ?_
    refine Ae Ag rfl ?_
    refine Ab rfl (.bool true) (fun b w hb hH => A6 rfl rfl (Bk Bo rfl) (hH.row 0 rfl) hb) ?_
    refine Aa (AC rfl ?_)
    refine AX [0, 1, 2, 3] rfl (Gb (d' := { d with down := true }) x rfl rfl rfl (by rw [show ({ d with down := true } : DiskD).fuse = d.fuse from rfl, hz]; rfl) rfl (fun k hk => by rw [show ({ d with down := true } : DiskD).fuse = d.fuse from rfl, hz] at hk; cases hk; rfl) (by decide)) rfl ?_
    refine Ad ?_
    refine Ae Ag rfl ?_
    refine Aa (Ay (CM ?_))
    exact Av (.tmp rfl) (fun w h => AB () rfl [0] rfl h Cl) rfl
  · skip
    obtain ⟨rfl, rfl⟩ := Prod.mk.inj (hb.symm.trans h)
    refine AZ 0 rfl (TH hz hdn) (fun _ => rfl) ?_; rintro x
    have hkz := x.zr
    rw [x.hz _ hz] at hkz
    refine Ad ?_
    refine Ae Ag rfl ?_
    refine Ab rfl (.pointer (some ⟨p, 0, none⟩)) (fun b w hb hH => by exact BA rfl rfl hb) ?_
    refine Ae Ag rfl ?_
    refine Ab rfl (.bool false) (fun b w hb hH => A6 rfl rfl (Bk Bo rfl) (hH.row 0 rfl) hb) ?_
    refine Ae Ag rfl ?_
    refine Ab rfl (.pointer (some ⟨p, 0, none⟩)) (fun b w hb hH => by exact BA rfl rfl hb) ?_
    refine Ae Ag rfl ?_
    refine Ab rfl (.bool true) (fun b w hb hH => A6 rfl rfl (Bk Bo rfl) (hH.row 0 rfl) hb) ?_
    refine Ae Ag rfl ?_
    refine Ab rfl (.pointer (some ⟨p, 0, none⟩)) (fun b w hb hH => by exact BA rfl rfl hb) ?_
    refine Ae Ag rfl ?_
    refine Ab rfl (.int .i64 (((k + 1 : Nat)) : Int)) (fun b w hb hH => A6 rfl rfl (Bk AR rfl) (hH.row 0 rfl) hb) ?_
    refine Ab rfl (.bool false) (fun b w hb hH => AV rfl rfl rfl (Ge (by omega)) hb) ?_
    refine Ae Ag rfl ?_
    refine Aa (Ar rfl (Ax (AE (Aq (Ad ?_)))))
    refine Ae Ag rfl ?_
    refine Ab rfl (.pointer (some ⟨p, 0, none⟩)) (fun b w hb hH => by exact BA rfl rfl hb) ?_
    refine Ae Ag rfl ?_
    refine Ab rfl (.bool false) (fun b w hb hH => A6 rfl rfl (Bk Bo rfl) (hH.row 0 rfl) hb) ?_
    refine Aa (Ar rfl (Ax (AE (Aq (Ad ?_)))))
    refine Ae Ag rfl ?_
    refine Ab rfl (.pointer (some ⟨p, 0, none⟩)) (fun b w hb hH => by exact BA rfl rfl hb) ?_
    refine Ae Ag rfl ?_
    refine Ab rfl (.bool true) (fun b w hb hH => A6 rfl rfl (Bk Bo rfl) (hH.row 0 rfl) hb) ?_
    refine Aa (AC rfl (Br ?_))
    refine Ae Ag rfl ?_
    refine Ab rfl (.pointer (some ⟨p, 0, none⟩)) (fun b w hb hH => by exact BA rfl rfl hb) ?_
    refine Ae Ag rfl ?_
    refine Ab rfl (.int .i64 (((k + 1 : Nat)) : Int)) (fun b w hb hH => A6 rfl rfl (Bk AR rfl) (hH.row 0 rfl) hb) ?_
    refine Ab rfl (.int .i64 ((k : Nat) : Int)) (fun b w hb hH => AN rfl rfl rfl rfl (by rw [IntWalk.i64_in _ (by omega)]; omega) hb) ?_
    refine Ab rfl (.pointer (some ⟨p, 0, none⟩)) (fun b w hb hH => by exact BA rfl rfl hb) ?_
    refine Ae Ag rfl ?_
    refine AH (post := fun _ => [cell p 59 #[.int .i64 d.room, x.sv, x.nv, x.wv, .bool true, .int .i64 ((k : Nat) : Int), .bool false], x.F, x.Y, As 103 5 encRO x.wv x.W]) rfl rfl (AD 0 (v := .int .i64 ((k : Nat) : Int)) #[.int .i64 d.room, x.sv, x.nv, x.wv, .bool true, .int .i64 ((k : Nat) : Int), .bool false] AR.2 rfl rfl rfl rfl rfl rfl rfl rfl rfl) ?_; rintro ⟨⟩
    refine AP (AE ?_)
    refine AX [0, 1, 2, 3] rfl (Gb (d' := { d with fuse := some k }) x rfl rfl rfl rfl hdn (fun q hq => by cases hq; rfl) (by omega)) rfl ?_
    refine Ad ?_
    refine Ae Ag rfl ?_
    refine Aa (Ay ?_)
    exact Av (.tmp rfl) (fun w h => AB () rfl [0] rfl h Cl) rfl
  · skip
    obtain ⟨rfl, rfl⟩ := Prod.mk.inj (hb.symm.trans h)
    have hfu : d.fuse.isSome = false := by rw [hz]; rfl
    refine AZ 0 rfl (Cy hfu hdn) (fun _ => rfl) ?_; rintro x
    refine Ad ?_
    refine Ae Ag rfl ?_
    refine Ab rfl (.pointer (some ⟨p, 0, none⟩)) (fun b w hb hH => by exact BA rfl rfl hb) ?_
    refine Ae Ag rfl ?_
    refine Ab rfl (.bool false) (fun b w hb hH => A6 rfl rfl (Bk Bo rfl) (hH.row 0 rfl) hb) ?_
    refine Ae Ag rfl ?_
    refine Ab rfl (.pointer (some ⟨p, 0, none⟩)) (fun b w hb hH => by exact BA rfl rfl hb) ?_
    refine Ae Ag rfl ?_
    refine Ab rfl (.bool false) (fun b w hb hH => A6 rfl rfl (Bk Bo rfl) (hH.row 0 rfl) hb) ?_
    refine Ae Ag rfl ?_
    refine Aa (Ar rfl (Ax (AE (Aq (Ad ?_)))))
    refine Ae Ag rfl ?_
    refine Ab rfl (.pointer (some ⟨p, 0, none⟩)) (fun b w hb hH => by exact BA rfl rfl hb) ?_
    refine Ae Ag rfl ?_
    refine Ab rfl (.bool false) (fun b w hb hH => A6 rfl rfl (Bk Bo rfl) (hH.row 0 rfl) hb) ?_
    refine Aa (Ar rfl (Ax (AE (Aq (Ad ?_)))))
    refine Ae Ag rfl ?_
    refine Ab rfl (.pointer (some ⟨p, 0, none⟩)) (fun b w hb hH => by exact BA rfl rfl hb) ?_
    refine Ae Ag rfl ?_
    refine Ab rfl (.bool false) (fun b w hb hH => A6 rfl rfl (Bk Bo rfl) (hH.row 0 rfl) hb) ?_
    refine Aa (Ar rfl (Ax (AE ?_)))
    refine AX [0, 1, 2, 3] rfl (Cb x hfu hdn) rfl ?_
    refine Ad ?_
    refine Ae Ag rfl ?_
    refine Aa (Ay ?_)
    exact Av (.tmp rfl) (fun w h => AB () rfl [0] rfl h Cl) rfl
theorem Mj (w : World) (n : List UInt8) (r : Bool) (hr : CE n = r) (hl : n.length ≤ 9223372036854775807) : Calls Tryz.prog 60 #[.string (bs n)] w fun e w' => e = .returned (.bool r) ∧ Below w.heap.size w w' := by
  refine Fy (args := [.string (bs n)]) 11 Tryz.func60 rfl rfl rfl ?_
  refine Ad ?_
  refine Ae Ag rfl ?_
  refine Aa ?_
  rcases Classical.em (1 ≤ n.length) with h1 | h1
  rcases Classical.em (n.length ≤ 16) with h2 | h2
  · skip
    obtain rfl : r = true := by rw [← hr]; unfold CE; simp [h1, h2]
    refine Ad ?_
    refine Ae Ag rfl ?_
    refine Ab rfl (.int .i64 (n.length : Int)) (fun b w hb hH => BU rfl rfl (fun cs => (fun w cs => C5 Tryz.underlying9 _ _ w cs) w cs) hb) ?_
    refine Ab rfl (.bool true) (fun b w hb hH => AV rfl rfl rfl (B7 (by omega)) hb) ?_
    refine Ae Ag rfl ?_
    refine Ab rfl (.int .i64 (n.length : Int)) (fun b w hb hH => BU rfl rfl (fun cs => (fun w cs => C5 Tryz.underlying9 _ _ w cs) w cs) hb) ?_
    refine Ab rfl (.bool true) (fun b w hb hH => AV rfl rfl rfl (Dd (by omega)) hb) ?_
    refine Ae Ag rfl ?_
    refine Aa (Ay ?_)
    exact Av (.tmp rfl) (fun w h => ⟨rfl, AG h.up⟩) rfl
  · skip
    obtain rfl : r = false := by rw [← hr]; unfold CE; simp [h2]
    refine Ad ?_
    refine Ae Ag rfl ?_
    refine Ab rfl (.int .i64 (n.length : Int)) (fun b w hb hH => BU rfl rfl (fun cs => (fun w cs => C5 Tryz.underlying9 _ _ w cs) w cs) hb) ?_
    refine Ab rfl (.bool true) (fun b w hb hH => AV rfl rfl rfl (B7 (by omega)) hb) ?_
    refine Ae Ag rfl ?_
    refine Ab rfl (.int .i64 (n.length : Int)) (fun b w hb hH => BU rfl rfl (fun cs => (fun w cs => C5 Tryz.underlying9 _ _ w cs) w cs) hb) ?_
    refine Ab rfl (.bool false) (fun b w hb hH => AV rfl rfl rfl (EG (by omega)) hb) ?_
    refine Ae Ag rfl ?_
    refine Aa (Ay ?_)
    exact Av (.tmp rfl) (fun w h => ⟨rfl, AG h.up⟩) rfl
  · skip
    obtain rfl : r = false := by rw [← hr]; unfold CE; simp [h1]
    refine Ad ?_
    refine Ae Ag rfl ?_
    refine Ab rfl (.int .i64 (n.length : Int)) (fun b w hb hH => BU rfl rfl (fun cs => (fun w cs => C5 Tryz.underlying9 _ _ w cs) w cs) hb) ?_
    refine Ab rfl (.bool false) (fun b w hb hH => AV rfl rfl rfl (De (by omega)) hb) ?_
    refine Ae Ag rfl ?_
    refine Aa (Ay ?_)
    exact Av (.tmp rfl) (fun w h => ⟨rfl, AG h.up⟩) rfl
theorem Lw {p : Nat} {d : DiskD} (x : RDk d) {fu : Bool} {room : Int} (hf : d.fit) : AU Tryz.prog 51 #[.pointer (some ⟨p, 0, none⟩)] [cell p 59 #[.int .i64 room, x.sv, x.nv, x.wv, .bool fu, .int .i64 x.fz, .bool false], x.F] (fun (_ : Unit) => .int .i64 ((AK d.now : Nat) : Int)) (fun (_ : Unit) => [cell p 59 #[.int .i64 room, x.sv, x.nv, x.wv, .bool fu, .int .i64 x.fz, .bool false], x.F]) := by
  refine Bd (args := [.pointer (some ⟨p, 0, none⟩)]) 33 Tryz.func51 rfl rfl rfl ?_; intro w rs
  have hn64 := x.nlen
  have hN := x.usedN
  have hbig := Ip hf x.snd x.hok
  refine Ad ?_
  refine Ae Ag rfl ?_
  refine Aa (Ad ?_)
  refine Ae Ag rfl ?_
  refine Aa (Aq (Ad ?_))
  refine Ae Ag rfl ?_
  refine Aa (Bb ?_)
  refine CO (α := Nat) (fun i => [(0, .pointer (some ⟨p, 0, none⟩)), (2, .int .i64 0), (3, .int .i64 ((E9 (x.nl.take i) : Nat) : Int)), (4, .int .i64 ((i : Nat) : Int))]) (fun i => [cell p 59 #[.int .i64 room, x.sv, x.nv, x.wv, .bool fu, .int .i64 x.fz, .bool false], x.F]) (fun i => i ≤ x.nl.length) (fun i => x.nl.length - i) 0 (Nat.zero_le _) ⟨rfl, rfl, rfl, rfl, trivial⟩ rfl ?_
  rintro i hI
  refine Bv.at_ (env' := [(0, .pointer (some ⟨p, 0, none⟩)), (2, .int .i64 0), (3, .int .i64 ((E9 (x.nl.take i) : Nat) : Int)), (4, .int .i64 ((i : Nat) : Int))]) (rs' := [cell p 59 #[.int .i64 room, x.sv, x.nv, x.wv, .bool fu, .int .i64 x.fz, .bool false], x.F]) ⟨rfl, rfl, rfl, rfl, trivial⟩ rfl ?_
  refine Aq ?_
  rcases Nat.lt_or_ge i x.nl.length with hi | hi
  · skip
    obtain ⟨y, hy⟩ : ∃ y, x.nl[i]? = some y := ⟨_, List.getElem?_eq_getElem hi⟩
    have hst := PM hy
    have hle := TL x.nl (i + 1)
    refine Ad ?_
    refine Ae Ag rfl ?_
    refine Ab rfl (.pointer (some ⟨p, 0, none⟩)) (fun b w hb hH => by exact BA rfl rfl hb) ?_
    refine Ae Ag rfl ?_
    refine Ab rfl (x.nv) (fun b w hb hH => A6 rfl rfl (Bk An rfl) (hH.row 0 rfl) hb) ?_
    refine Ab rfl (.int .i64 (x.nl.length : Int)) (fun b w hb hH => AT ((hH.rdFs 1 rfl x.rn)) Tryz.underlying53 rfl rfl hb) ?_
    refine Ab rfl (.bool true) (fun b w hb hH => AV rfl rfl rfl (A7 (by omega)) hb) ?_
    refine Ae Ag rfl ?_
    refine Ab rfl (.pointer (some ⟨p, 0, none⟩)) (fun b w hb hH => by exact BA rfl rfl hb) ?_
    refine Ae Ag rfl ?_
    refine Ab rfl (.bool false) (fun b w hb hH => A6 rfl rfl (Bk Bo rfl) (hH.row 0 rfl) hb) ?_
    refine Ae Ag rfl ?_
    refine Aa (AC rfl (Ax (AE (Aq (Bb (Br ?_))))))
    refine Ae Ag rfl ?_
    refine Ab rfl (.pointer (some ⟨p, 0, none⟩)) (fun b w hb hH => by exact BA rfl rfl hb) ?_
    refine Ae Ag rfl ?_
    refine Ab rfl (x.nv) (fun b w hb hH => A6 rfl rfl (Bk An rfl) (hH.row 0 rfl) hb) ?_
    refine Ae Ag rfl ?_
    refine Ab rfl (BP x.nv (i * 2)) (fun b w hb hH => BF BT ((hH.rdFs 1 rfl x.rn)) Az (j := i) hy rfl rfl rfl hb) ?_
    refine Ab rfl (BP x.nv (i * 2 + 1)) (fun b w hb hH => IS BT (by decide) ((hH.rdFs 1 rfl x.rn)) (j := i) hy BC rfl rfl hb) ?_
    refine Ab rfl (.slice y.A y.d.length y.c) (fun b w hb hH => Bm BT (by decide) ((hH.rdFs 1 rfl x.rn)) (j := i) hy C3 (off := 1) rfl rfl rfl hb) ?_
    refine Ab rfl (.int .i64 (y.d.length : Int)) (fun b w hb hH => H6 AJ rfl rfl hH hb) ?_
    refine Ab rfl (.int .i64 ((E9 (x.nl.take (i + 1)) : Nat) : Int)) (fun b w hb hH => AN rfl rfl rfl rfl (by rw [IntWalk.i64_in _ (by omega)]; omega) hb) ?_
    refine Ae Ag rfl ?_
    refine AP (Bt (AE (Br ?_)))
    refine Ae Ag rfl ?_
    refine Ab rfl (.int .i64 ((i + 1 : Nat) : Int)) (fun b w hb hH => AN rfl rfl rfl rfl (by rw [IntWalk.i64_in _ (by omega)]; omega) hb) ?_
    refine Ae Ag rfl ?_
    refine AP ?_
    exact Cc (i + 1) 0 hi (show x.nl.length - (i + 1) < x.nl.length - i by omega) ⟨rfl, rfl, rfl, rfl, trivial⟩ rfl
  · skip
    obtain rfl : i = x.nl.length := by omega
    refine Ad ?_
    refine Ae Ag rfl ?_
    refine Ab rfl (.pointer (some ⟨p, 0, none⟩)) (fun b w hb hH => by exact BA rfl rfl hb) ?_
    refine Ae Ag rfl ?_
    refine Ab rfl (x.nv) (fun b w hb hH => A6 rfl rfl (Bk An rfl) (hH.row 0 rfl) hb) ?_
    refine Ab rfl (.int .i64 (x.nl.length : Int)) (fun b w hb hH => AT ((hH.rdFs 1 rfl x.rn)) Tryz.underlying53 rfl rfl hb) ?_
    refine Ab rfl (.bool false) (fun b w hb hH => AV rfl rfl rfl (Bn (by omega)) hb) ?_
    refine Ae Ag rfl ?_
    refine Aa (Ar rfl (Cu (E0 (E0 (Bh (AE ?_))))))
    have hAll : ((E9 (x.nl.take x.nl.length) : Nat) : Int) = ((AK d.now : Nat) : Int) := by rw [List.take_length, hN]
    rw [hAll]
    refine Ad ?_
    refine Ae Ag rfl ?_
    refine Aa (Ay ?_)
    exact Av (.tmp rfl) (fun w h => AB (X := Unit) () rfl [0, 1] rfl h Cl) rfl
theorem RV {p : Nat} {d : DiskD} (x : RDk d) {fu : Bool} {room : Int} : AU Tryz.prog 51 #[.pointer (some ⟨p, 0, none⟩)] [cell p 59 #[.int .i64 room, x.sv, x.nv, x.wv, .bool fu, .int .i64 x.fz, .bool true], x.F] (fun (_ : Unit) => .int .i64 0) (fun (_ : Unit) => [cell p 59 #[.int .i64 room, x.sv, x.nv, x.wv, .bool fu, .int .i64 x.fz, .bool true], x.F]) := by
  refine Bd (args := [.pointer (some ⟨p, 0, none⟩)]) 33 Tryz.func51 rfl rfl rfl ?_; intro w rs
  have hn64 := x.nlen
  refine Ad ?_
  refine Ae Ag rfl ?_
  refine Aa (Ad ?_)
  refine Ae Ag rfl ?_
  refine Aa (Aq (Ad ?_))
  refine Ae Ag rfl ?_
  refine Aa (Bb ?_)
  refine CO (α := Nat) (fun i => [(0, .pointer (some ⟨p, 0, none⟩)), (2, .int .i64 0), (3, .int .i64 0), (4, .int .i64 ((i : Nat) : Int))]) (fun i => [cell p 59 #[.int .i64 room, x.sv, x.nv, x.wv, .bool fu, .int .i64 x.fz, .bool true], x.F]) (fun i => i = 0) (fun i => i) 0 rfl ⟨rfl, rfl, rfl, rfl, trivial⟩ rfl ?_
  rintro i hI
  refine Bv.at_ (env' := [(0, .pointer (some ⟨p, 0, none⟩)), (2, .int .i64 0), (3, .int .i64 0), (4, .int .i64 ((i : Nat) : Int))]) (rs' := [cell p 59 #[.int .i64 room, x.sv, x.nv, x.wv, .bool fu, .int .i64 x.fz, .bool true], x.F]) ⟨rfl, rfl, rfl, rfl, trivial⟩ rfl ?_
  refine Aq ?_
  rcases Nat.lt_or_ge i x.nl.length with hi | hi
  · skip
    refine Ad ?_
    refine Ae Ag rfl ?_
    refine Ab rfl (.pointer (some ⟨p, 0, none⟩)) (fun b w hb hH => by exact BA rfl rfl hb) ?_
    refine Ae Ag rfl ?_
    refine Ab rfl (x.nv) (fun b w hb hH => A6 rfl rfl (Bk An rfl) (hH.row 0 rfl) hb) ?_
    refine Ab rfl (.int .i64 (x.nl.length : Int)) (fun b w hb hH => AT ((hH.rdFs 1 rfl x.rn)) Tryz.underlying53 rfl rfl hb) ?_
    refine Ab rfl (.bool true) (fun b w hb hH => AV rfl rfl rfl (A7 (by omega)) hb) ?_
    refine Ae Ag rfl ?_
    refine Ab rfl (.pointer (some ⟨p, 0, none⟩)) (fun b w hb hH => by exact BA rfl rfl hb) ?_
    refine Ae Ag rfl ?_
    refine Ab rfl (.bool true) (fun b w hb hH => A6 rfl rfl (Bk Bo rfl) (hH.row 0 rfl) hb) ?_
    refine Ae Ag rfl ?_
    refine Aa (Ar rfl (Cu (E0 (E0 (Bh (AE (Ad ?_)))))))
    refine Ae Ag rfl ?_
    refine Aa (Ay ?_)
    exact Av (.tmp rfl) (fun w h => AB () rfl [0, 1] rfl h Cl) rfl
  · skip
    refine Ad ?_
    refine Ae Ag rfl ?_
    refine Ab rfl (.pointer (some ⟨p, 0, none⟩)) (fun b w hb hH => by exact BA rfl rfl hb) ?_
    refine Ae Ag rfl ?_
    refine Ab rfl (x.nv) (fun b w hb hH => A6 rfl rfl (Bk An rfl) (hH.row 0 rfl) hb) ?_
    refine Ab rfl (.int .i64 (x.nl.length : Int)) (fun b w hb hH => AT ((hH.rdFs 1 rfl x.rn)) Tryz.underlying53 rfl rfl hb) ?_
    refine Ab rfl (.bool false) (fun b w hb hH => AV rfl rfl rfl (Bn (by omega)) hb) ?_
    refine Ae Ag rfl ?_
    refine Aa (Ar rfl (Cu (E0 (E0 (Bh (AE (Ad ?_)))))))
    refine Ae Ag rfl ?_
    refine Aa (Ay ?_)
    exact Av (.tmp rfl) (fun w h => AB () rfl [0, 1] rfl h Cl) rfl
end Go.Proofs.YtnknboibmifacaaGreat.Sep
namespace Go.Proofs.YtnknboibmifacaaGreat.Sep
open Go.RowKit
open Go.Proofs.YtnknboibmifacaaGreat.Mem (Bl Co Chg AG)
theorem Ok {p : Nat} {d : DiskD} {y : OpV} {K : Ass} (hf : d.fit) (hdn : d.down = false) (ho : LB d.now y.o) (hfew : (AI d.now y.o).length ≤ 64) (hK : CX K y.v y.o.data) (hyc : y.o.data.length ≤ y.c) (hyl : y.o.data.length ≤ 1099511627776) : AU Tryz.prog 62 #[.pointer (some ⟨p, 0, none⟩), .agg #[.int .i64 y.o.kind, .string (bs y.o.name), .string (bs y.o.to), y.v, .int .i64 (y.o.cutS : Int)]] [Au p d, K] (fun (_ : Unit) => .int .i64 0) (fun (_ : Unit) => [Au p (Cr d y.o)]) := by
  refine Bd (args := [.pointer (some ⟨p, 0, none⟩), .agg #[.int .i64 y.o.kind, .string (bs y.o.name), .string (bs y.o.to), y.v, .int .i64 (y.o.cutS : Int)]]) 26 Tryz.func62 rfl rfl rfl ?_; intro w rs
  obtain ⟨fu, hfu⟩ : ∃ fu, d.fuse.isSome = fu := ⟨_, rfl⟩
  refine AZ 0 rfl (Cy hfu hdn) (fun _ => rfl) ?_; rintro x
  refine AX [2, 4] rfl (fun rs h => h) rfl ?_
  have hn64 := x.nlen
  have hwl := x.wlen
  have hw4 := hf.2
  have ho2 : LB (FU x.nl) y.o := K4 x.pn.symm x.nnd ho
  refine Ad ?_
  refine Ae Ag rfl ?_
  refine Aj (post := fun g3 => [cell g3 103 #[.int .i64 y.o.kind, .string (bs y.o.name), .string (bs y.o.to), y.v, .int .i64 (y.o.cutS : Int)], Fz [x.Y, K], cell p 59 #[.int .i64 d.room, x.sv, x.nv, x.wv, .bool fu, .int .i64 x.fz, .bool false], x.F, As 103 5 encRO x.wv x.W]) rfl (CC (cs := #[.int .i64 y.o.kind, .string (bs y.o.name), .string (bs y.o.to), y.v, .int .i64 (y.o.cutS : Int)]) rfl rfl rfl) ?_; rintro g3
  refine Ae Ag rfl ?_
  refine Aa (Aq ?_)
  refine EF 1 rfl ?_
  refine BO 9 1 [⟨.quiet, [none], fun _ => .pointer (some ⟨p, 0, none⟩), []⟩, ⟨.quiet, [none], fun _ => .pointer (some ⟨p, 0, none⟩), []⟩, ⟨.quiet, [none], fun _ => .pointer (some ⟨p, 0, none⟩), [1]⟩, ⟨.quiet, [none], fun _ => .pointer (some ⟨p, 2, none⟩), [2]⟩, ⟨.quiet, [none], fun _ => x.nv, [3]⟩, ⟨.quiet, [none], fun _ => .agg #[.int .i64 y.o.kind, .string (bs y.o.name), .string (bs y.o.to), y.v, .int .i64 (y.o.cutS : Int)], []⟩, ⟨.act 0, [some false], fun _ => undef, [4, 5]⟩, ⟨.quiet, [some true], fun _ => .pointer (some ⟨p, 0, none⟩), [0]⟩, ⟨.quiet, [some true], fun _ => .pointer (some ⟨p, 2, none⟩), [7]⟩] [(0, .pointer (some ⟨p, 0, none⟩)), (3, .pointer (some ⟨g3, 0, none⟩)), (4, .int .i64 0)] (fun ρ => match ρ with | [r0] => [CD r0 (fun zv => M6 x.nl y.o zv) (D1), cell g3 103 #[.int .i64 y.o.kind, .string (bs y.o.name), .string (bs y.o.to), y.v, .int .i64 (y.o.cutS : Int)], Fz [x.Y, K], cell p 59 #[.int .i64 d.room, x.sv, x.nv, x.wv, .bool fu, .int .i64 x.fz, .bool false], x.F, As 103 5 encRO x.wv x.W] | _ => []) (by kernel_rfl) (by kernel_rfl) ⟨rfl, rfl, rfl, trivial⟩ rfl ?_ ?_
  · skip
    refine Ac (by intro r0_; exact ⟨rfl, fun b w hH hb => Af Ag rfl hb⟩) ?_
    refine Ac (by intro r0_; exact ⟨rfl, fun b w hH hb => Af Ag rfl hb⟩) ?_
    refine Ac (by intro r0_; exact ⟨rfl, fun b w hH hb => by exact BA rfl rfl hb⟩) ?_
    refine Ac (by intro r0_; exact ⟨rfl, fun b w hH hb => Af Ag rfl hb⟩) ?_
    refine Ac (by intro r0_; exact ⟨rfl, fun b w hH hb => A6 rfl rfl (Bk An rfl) (hH.row 3 rfl) hb⟩) ?_
    refine Ac (by intro r0_; exact ⟨rfl, fun b w hH hb => A6 rfl rfl (D3 (cs := [.int .i64 y.o.kind, .string (bs y.o.name), .string (bs y.o.to), y.v, .int .i64 (y.o.cutS : Int)]) CL rfl) (hH.row 1 rfl) hb⟩) ?_
    refine Ac (by exact ⟨rfl, Bp.s (Al (os' := fun zv => [M6 x.nl y.o zv, cell g3 103 #[.int .i64 y.o.kind, .string (bs y.o.name), .string (bs y.o.to), y.v, .int .i64 (y.o.cutS : Int)], Fz [x.Y, K], cell p 59 #[.int .i64 d.room, x.sv, x.nv, x.wv, .bool fu, .int .i64 x.fz, .bool false], x.F, As 103 5 encRO x.wv x.W]) [4, 2, 0] 1 (Ah Tryz.func67 (by kernel_rfl) rfl) (JU (X := x.F) (Y := Fz [x.Y, K]) (x := y) x.rn (by omega) x.hn ho2 (fun q hq => ⟨Id (x.yn q hq), x.nbig hf hq⟩) (QG hK) hyl) rfl rfl rfl (fun _ => rfl) rfl rfl rfl) (fun _ => rfl)⟩) ?_
    refine Ac (by intro zv; exact ⟨rfl, fun b w hH hb => by exact BA rfl rfl hb⟩) ?_
    refine Ac (by intro zv; exact ⟨rfl, fun b w hH hb => Af Ag rfl hb⟩) ?_
    exact B2
  intro zv
  refine Cg.keep (env' := [(0, .pointer (some ⟨p, 0, none⟩)), (3, .pointer (some ⟨g3, 0, none⟩)), (4, .int .i64 0), (11, zv), (13, .pointer (some ⟨p, 2, none⟩))]) ⟨rfl, rfl, rfl, rfl, rfl, trivial⟩ ?_
  refine Ae Ag rfl ?_
  refine AH (post := fun _ => [M6 x.nl y.o zv, cell g3 103 #[.int .i64 y.o.kind, .string (bs y.o.name), .string (bs y.o.to), y.v, .int .i64 (y.o.cutS : Int)], Fz [x.Y, K], cell p 59 #[.int .i64 d.room, x.sv, zv, x.wv, .bool fu, .int .i64 x.fz, .bool false], x.F, As 103 5 encRO x.wv x.W]) rfl rfl (Ci 3 0 (v := zv) #[.int .i64 d.room, x.sv, zv, x.wv, .bool fu, .int .i64 x.fz, .bool false] An.2 rfl (fun _ h => M6.c1 h) rfl rfl rfl rfl rfl rfl rfl) ?_; rintro ⟨⟩
  refine AP (AE (Aq ?_))
  refine EF 2 rfl ?_
  refine BO 12 4 [⟨.quiet, [none, none, none, none], fun _ => .pointer (some ⟨p, 0, none⟩), []⟩, ⟨.act 0, [some false, some false, none, some false], fun _ => undef, []⟩, ⟨.quiet, [none, none, none, none], fun _ => .pointer (some ⟨p, 0, none⟩), []⟩, ⟨.quiet, [none, none, none, none], fun _ => .pointer (some ⟨p, 0, none⟩), [2]⟩, ⟨.quiet, [none, none, none, none], fun _ => .pointer (some ⟨p, 3, none⟩), [3]⟩, ⟨.quiet, [none, none, none, none], fun _ => x.wv, [4]⟩, ⟨.act 1, [some true, some false, none, some false], fun _ => undef, [1, 5]⟩, ⟨.quiet, [none, none, none, none], fun _ => .agg #[.int .i64 y.o.kind, .string (bs y.o.name), .string (bs y.o.to), y.v, .int .i64 (y.o.cutS : Int)], []⟩, ⟨.act 2, [none, none, some false, some false], fun _ => undef, [7]⟩, ⟨.act 3, [some true, some true, some true, some false], fun _ => undef, [6, 8]⟩, ⟨.quiet, [some true, some true, some true, some true], fun _ => .pointer (some ⟨p, 0, none⟩), [0]⟩, ⟨.quiet, [some true, some true, some true, some true], fun _ => .pointer (some ⟨p, 3, none⟩), [10]⟩] [(0, .pointer (some ⟨p, 0, none⟩)), (3, .pointer (some ⟨g3, 0, none⟩)), (4, .int .i64 0)] (fun ρ => match ρ with | [r0, r1, r2, r3] => [CD r2 (fun ub => As 103 5 encRO ub ([y])) (D1), CD r3 (fun u2 => As 103 5 encRO u2 (x.W ++ [y])) (CD r1 (fun u1 => As 103 5 encRO u1 x.W) (CD r0 (fun u0 => As 103 5 encRO u0 ([])) (D1))), M6 x.nl y.o zv, cell g3 103 #[.int .i64 y.o.kind, .string (bs y.o.name), .string (bs y.o.to), y.v, .int .i64 (y.o.cutS : Int)], Fz [x.Y, K], cell p 59 #[.int .i64 d.room, x.sv, zv, x.wv, .bool fu, .int .i64 x.fz, .bool false], x.F, As 103 5 encRO x.wv x.W] | _ => []) (by kernel_rfl) (by kernel_rfl) ⟨rfl, rfl, rfl, trivial⟩ rfl ?_ ?_
  · skip
    refine Ac (by intro r0_ r1_ r2_ r3_; exact ⟨rfl, fun b w hH hb => Af Ag rfl hb⟩) ?_
    refine Ac (by intro r2_; exact ⟨rfl, Bp.s (Bp.place (val := fun u0 : Value => u0) (t := fun u0 => As 103 5 encRO u0 ([])) (os' := fun u0 => [CD r2_ (fun ub => As 103 5 encRO ub ([y])) (D1), As 103 5 encRO u0 ([]), M6 x.nl y.o zv, cell g3 103 #[.int .i64 y.o.kind, .string (bs y.o.name), .string (bs y.o.to), y.v, .int .i64 (y.o.cutS : Int)], Fz [x.Y, K], cell p 59 #[.int .i64 d.room, x.sv, zv, x.wv, .bool fu, .int .i64 x.fz, .bool false], x.F, As 103 5 encRO x.wv x.W]) 1 rfl (by refine ET (e := 103) (t := 57) (k := 5) (enc := encRO) ?_ ?_; exact BI; exact rfl) (fun _ => rfl)) (fun _ => rfl)⟩) ?_
    refine Ac (by intro r0_ r1_ r2_ r3_; exact ⟨rfl, fun b w hH hb => Af Ag rfl hb⟩) ?_
    refine Ac (by intro r0_ r1_ r2_ r3_; exact ⟨rfl, fun b w hH hb => by exact BA rfl rfl hb⟩) ?_
    refine Ac (by intro r0_ r1_ r2_ r3_; exact ⟨rfl, fun b w hH hb => Af Ag rfl hb⟩) ?_
    refine Ac (by intro r0_ r1_ r2_ r3_; exact ⟨rfl, fun b w hH hb => A6 rfl rfl (Bk AF rfl) (hH.row 5 rfl) hb⟩) ?_
    refine Ac (by intro u0 r2_; exact ⟨rfl, Bp.s (JE (nb := 72) 1 BI CY (by kernel_rfl) (by decide) rfl (x.W) (fun w hH => hH.vec 7 rfl CY) (by simp only [List.length_nil]; omega) rfl rfl rfl (List.nil_append _)) (fun _ => rfl)⟩) ?_
    refine Ac (by intro r0_ r1_ r2_ r3_; exact ⟨rfl, fun b w hH hb => A6 rfl rfl (D3 (cs := [.int .i64 y.o.kind, .string (bs y.o.name), .string (bs y.o.to), y.v, .int .i64 (y.o.cutS : Int)]) CL rfl) (hH.row 3 rfl) hb⟩) ?_
    refine Ac (by intro r0_ r1_; exact ⟨rfl, Bp.s (Bp.place (val := fun ub : Value => ub) (t := fun ub => As 103 5 encRO ub ([y])) (os' := fun ub => [As 103 5 encRO ub ([y]), CD r1_ (fun u1 => As 103 5 encRO u1 x.W) (CD r0_ (fun u0 => As 103 5 encRO u0 ([])) (D1)), M6 x.nl y.o zv, cell g3 103 #[.int .i64 y.o.kind, .string (bs y.o.name), .string (bs y.o.to), y.v, .int .i64 (y.o.cutS : Int)], Fz [x.Y, K], cell p 59 #[.int .i64 d.room, x.sv, zv, x.wv, .bool fu, .int .i64 x.fz, .bool false], x.F, As 103 5 encRO x.wv x.W]) 0 rfl (by refine GZ (e := 103) (t := 57) (k := 5) (enc := encRO) (x := .tmp 21) (c := .agg #[.int .i64 y.o.kind, .string (bs y.o.name), .string (bs y.o.to), y.v, .int .i64 (y.o.cutS : Int)]) ?_ ?_ ?_ y ?_ ?_ ?_; exact BI; exact (by decide); exact CY; exact rfl; exact rfl; exact rfl) (fun _ => rfl)) (fun _ => rfl)⟩) ?_
    refine Ac (by intro u0 u1 ub; exact ⟨rfl, Bp.s (JE (nb := 72) 1 BI CY (by kernel_rfl) (by decide) rfl ([y]) (fun w hH => hH.vec 0 rfl CY) (by simp only [List.length_cons, List.length_nil]; omega) rfl rfl rfl rfl) (fun _ => rfl)⟩) ?_
    refine Ac (by intro u0 u1 ub u2; exact ⟨rfl, fun b w hH hb => by exact BA rfl rfl hb⟩) ?_
    refine Ac (by intro u0 u1 ub u2; exact ⟨rfl, fun b w hH hb => Af Ag rfl hb⟩) ?_
    exact B2
  intro u0 u1 ub u2
  refine Cg.keep (env' := [(4, .int .i64 0), (23, u2), (25, .pointer (some ⟨p, 3, none⟩))]) ⟨rfl, rfl, rfl, trivial⟩ ?_
  refine Ae Ag rfl ?_
  refine AH (post := fun _ => [As 103 5 encRO ub ([y]), As 103 5 encRO u2 (x.W ++ [y]), M6 x.nl y.o zv, cell g3 103 #[.int .i64 y.o.kind, .string (bs y.o.name), .string (bs y.o.to), y.v, .int .i64 (y.o.cutS : Int)], Fz [x.Y, K], cell p 59 #[.int .i64 d.room, x.sv, zv, u2, .bool fu, .int .i64 x.fz, .bool false], x.F, As 103 5 encRO x.wv x.W]) rfl rfl (Ci 5 1 (v := u2) #[.int .i64 d.room, x.sv, zv, u2, .bool fu, .int .i64 x.fz, .bool false] AF.2 rfl (fun _ h => As.c1 h) rfl rfl rfl rfl rfl rfl rfl) ?_; rintro ⟨⟩
  refine AP (AE ?_)
  refine AZ 2 rfl M6.open_ (fun _ => rfl) ?_; rintro z
  refine Bv.fact 2 rfl (fun _ h => h.2) ?_; rintro hz
  refine Bv.leave [2] rfl rfl ?_
  refine AX [6, 7, 1, 5, 0, 3] rfl (TI x (wv' := u2) rfl hz ho hfew hK hyc hfu hdn) rfl ?_
  refine Ad ?_
  refine Ae Ag rfl ?_
  refine Aa (Ay ?_)
  exact Av (.tmp rfl) (fun w h => AB () rfl [0] rfl h Cl) rfl
end Go.Proofs.YtnknboibmifacaaGreat.Sep
