/-
  RdkT · RdkC · RdkD
-/
import Derived.Test.YtnknboibmifacaaGreatYM02
set_option linter.unusedSimpArgs false
set_option linter.unusedVariables false
set_option maxRecDepth 100000
namespace Go.Proofs.YtnknboibmifacaaGreat.Sep
open Go.RowKit
open Go.Proofs.YtnknboibmifacaaGreat.Mem (Bd Cj Chg AF)
structure RDk (d : DiskD) where
  F : Ass
  Y : Ass
  sv : Value
  nv : Value
  wv : Value
  sl : List RFl
  nl : List RFl
  W : List OpV
  fz : Int
  hs : Ei sl
  hn : Ei nl
  ps : (FO sl).Perm d.syn
  pn : (FO nl).Perm d.now
  hW : DF W = d.wait
  rs : Fh F sv sl
  rn : Fh F nv nl
  ys : ∀ y : RFl, y ∈ sl → Cw Y y.v y.d
  yn : ∀ y : RFl, y ∈ nl → Cw Y y.v y.d
  yw : ∀ x : OpV, x ∈ W → Cw Y x.v x.o.data
  yc : ∀ x : OpV, x ∈ W → x.o.data.length ≤ x.c
  hok : Fe d.syn d.wait
  few : ∀ k, ((d.wait.take k).foldl AW d.syn).length ≤ 64
  hz : ∀ k, d.fuse = some k → fz = (k : Int)
  zr : -9223372036854775808 ≤ fz ∧ fz ≤ 9223372036854775807
  nc : nv.cells = #[nv] ∧ nv.oneCell' = true
  sc : sv.cells = #[sv] ∧ sv.oneCell' = true
variable {p : Nat} {d : DiskD} {rs : List RowT} {w : World} {v : Value}
def AA (p : Nat) (d : DiskD) : Ass := fun rs => ∃ x : RDk d, Al [cell p 59 #[.int .i64 d.room, x.sv, x.nv, x.wv, .bool d.fuse.isSome, .int .i64 x.fz, .bool d.down], x.F, x.Y, Ao 103 5 encRO x.wv x.W] rs
theorem RDk.nlen (x : RDk d) : x.nl.length ≤ 64 := by
 have h1 := x.few d.wait.length
 rw [List.take_length] at h1
 have h2 := x.pn.length_eq
 unfold FO at h2
 rw [List.length_map] at h2
 have h3 : d.now.length ≤ 64 := h1
 omega
theorem RDk.wlen (x : RDk d) : x.W.length = d.wait.length := by rw [← x.hW]; simp [DF]
theorem RDk.snd (x : RDk d) : (AI d.syn).Nodup := (CD x.ps).nodup_iff.1 (DB x.hs)
theorem RDk.nnd (x : RDk d) : (AI d.now).Nodup := (CD x.pn).nodup_iff.1 (DB x.hn)
theorem Uw {l : List RFl} {y : RFl} (h : y ∈ l) : y.d.length ≤ AE (FO l) := by
  unfold AE FO
  rw [List.map_map]
  obtain ⟨j, hj⟩ := List.getElem?_of_mem h
  induction l generalizing j with
  | nil => cases h
  | cons a l ih =>
    simp only [List.map_cons, List.sum_cons, Function.comp]
    cases j with
    | zero => obtain rfl := Option.some.inj hj; omega
    | succ j =>
      have := ih (List.mem_of_getElem? (by simpa using hj)) j (by simpa using hj)
      simp only [Function.comp_def] at this ⊢
      omega
theorem RDk.nused (x : RDk d) : AE (FO x.nl) = AE d.now := C9 x.pn
theorem RDk.nbig (x : RDk d) (hf : d.fit) {y : RFl} (h : y ∈ x.nl) : y.d.length ≤ 1099511627776 := by
 have h1 := Uw h
 rw [x.nused] at h1
 exact Nat.le_trans h1 (H7 hf x.snd x.hok)
theorem Vw {F G : Ass} {l : List RFl} (h : Fh F v l) : Fh (Cv [F, G]) v l := fun rs w h1 h2 => by
 obtain ⟨a, b, rfl, h3, _⟩ := h1
 exact h a w h3 (AN.2 fun x hx => AN.1 h2 x (List.mem_append_left _ hx))
theorem Vx {F G : Ass} {l : List RFl} (h : Fh G v l) : Fh (Cv [F, G]) v l := fun rs w h1 h2 => by
 obtain ⟨a, b, rfl, _, h3⟩ := h1
 exact h b w h3.one' (AN.2 fun x hx => AN.1 h2 x (List.mem_append_right _ hx))
theorem IW {F G : Ass} {l : List UInt8} (h : Cw F v l) : Cw (Cv [F, G]) v l := fun rs w h1 h2 => by
 obtain ⟨a, b, rfl, h3, _⟩ := h1
 exact h a w h3 (AN.2 fun x hx => AN.1 h2 x (List.mem_append_left _ hx))
theorem Qo {F G : Ass} {l : List UInt8} (h : Cw G v l) : Cw (Cv [F, G]) v l := fun rs w h1 h2 => by
 obtain ⟨a, b, rfl, _, h3⟩ := h1
 exact h b w h3.one' (AN.2 fun x hx => AN.1 h2 x (List.mem_append_right _ hx))
def RDk.turn (x : RDk d) (d' : DiskD) (fz : Int) (hsy : d'.syn = d.syn) (hwa : d'.wait = d.wait) (hz : ∀ k, d'.fuse = some k → fz = (k : Int)) (zr : -9223372036854775808 ≤ fz ∧ fz ≤ 9223372036854775807) : RDk d' where
  F := x.F
  Y := x.Y
  sv := x.sv
  nv := x.nv
  wv := x.wv
  sl := x.sl
  nl := x.nl
  W := x.W
  fz := fz
  hs := x.hs
  hn := x.hn
  ps := by rw [hsy]; exact x.ps
  pn := by unfold DiskD.now; rw [hsy, hwa]; exact x.pn
  hW := by rw [hwa]; exact x.hW
  rs := x.rs
  rn := x.rn
  ys := x.ys
  yn := x.yn
  yw := x.yw
  yc := x.yc
  hok := by rw [hsy, hwa]; exact x.hok
  few := by rw [hsy, hwa]; exact x.few
  hz := hz
  zr := zr
  nc := x.nc
  sc := x.sc
theorem To {d : DiskD} {o : OpD} (h : ∀ k, ((d.wait.take k).foldl AW d.syn).length ≤ 64) (h1 : (AW d.now o).length ≤ 64) (k : Nat) : (((d.wait ++ [o]).take k).foldl AW d.syn).length ≤ 64 := by
  rcases Nat.lt_or_ge d.wait.length k with hk | hk
  · rw [List.take_of_length_le (by simp; omega), List.foldl_append]
    exact h1
  · rw [List.take_append_of_le_length hk]
    exact h k
def RDk.does (x : RDk d) {o : OpD} {z : RDo} {wv' : Value} {y : OpV} (hy : y.o = o) (hz : Ek x.nl o z) (ho : Ly d.now o) (hf : (AW d.now o).length ≤ 64) {G H : Ass} (hG : Fh G z.rv z.rl) (hH : Cw H z.bv z.bd) {K : Ass} (hK : Cw K y.v y.o.data) (hyc : y.o.data.length ≤ y.c) (hc : z.rv.cells = #[z.rv] ∧ z.rv.oneCell' = true) : RDk (Cn d o) where
  F := Cv [x.F, G]
  Y := Cv [Cv [x.Y, K], H]
  sv := x.sv
  nv := z.rv
  wv := wv'
  sl := x.sl
  nl := z.rl
  W := x.W ++ [y]
  fz := x.fz
  hs := x.hs
  hn := hz.1
  ps := x.ps
  pn := by rw [CJ]; exact hz.2.1 _ x.pn
  hW := by
    show DF (x.W ++ [y]) = d.wait ++ [o]
    rw [← x.hW, ← hy]; simp [DF]
  rs := Vw x.rs
  rn := Vx hG
  ys := fun q hq => IW (IW (x.ys q hq))
  yn := fun q hq => by
    rcases hz.2.2 q hq with h | ⟨h1, h2⟩
    · exact IW (IW (x.yn q h))
    · rw [h1, h2]; exact Qo hH
  yw := fun q hq => by
    rcases List.mem_append.1 hq with h | h
    · exact IW (IW (x.yw q h))
    · rw [List.mem_singleton.1 h]; exact IW (Qo hK)
  yc := fun q hq => by
    rcases List.mem_append.1 hq with h | h
    · exact x.yc q h
    · rw [List.mem_singleton.1 h]; exact hyc
  hok := Jk x.hok ho
  few := To x.few hf
  hz := x.hz
  zr := x.zr
  nc := hc
  sc := x.sc
theorem La {a b : Ass} {os : List Ass} {rs : List RowT} : Al (a :: b :: os) rs ↔ Al (Cv [a, b] :: os) rs := by
  constructor
  · rintro ⟨r1, r2, rfl, h1, r3, r4, rfl, h2, h3⟩
    exact ⟨r1 ++ r3, r4, by simp, ⟨r1, r3, rfl, h1, r3, [], by simp, h2, rfl⟩, h3⟩
  · rintro ⟨r1, r2, rfl, ⟨a1, a2, rfl, h1, h2⟩, h3⟩
    exact ⟨a1, a2 ++ r2, by simp, h1, a2, r2, rfl, h2.one', h3⟩
def B8 (p : Nat) (d : DiskD) (v : Value) (b : List UInt8) : Ass := fun rs => ∃ x : RDk d, (Cw x.Y v b ∧ ∃ A c, v = .slice A b.length c) ∧ Al [cell p 59 #[.int .i64 d.room, x.sv, x.nv, x.wv, .bool d.fuse.isSome, .int .i64 x.fz, .bool d.down], x.F, x.Y, Ao 103 5 encRO x.wv x.W] rs
theorem E4 {b : List UInt8} : ∀ rs, Al [B8 p d v b] rs → AA p d rs := fun rs h => by
 obtain ⟨x, _, hx⟩ := h.one'
 exact ⟨x, hx⟩
theorem Ux {b : List UInt8} : ∀ rs, B8 p d v b rs → ∃ A c, v = .slice A b.length c := fun rs ⟨x, h, _⟩ => h.2
theorem FN {b : List UInt8} : Cw (B8 p d v b) v b := fun rs w ⟨x, ⟨hx, _⟩, h⟩ hr => by
 obtain ⟨r1, r2, rfl, h1, r3, r4, rfl, h2, r5, r6, rfl, h3, h4⟩ := h
 exact hx r5 w h3 (AN.2 fun q hq => AN.1 hr q (by simp [hq]))
theorem IX {e : TypeId} {k : Nat} {α : Type} {enc : α → List Value} : Ao e k enc (.slice none 0 0) [] [] := Oc e k enc
def V7 (room : Int) : RDk (HU room) where
  F := E0
  Y := E0
  sv := .slice none 0 0
  nv := .slice none 0 0
  wv := .slice none 0 0
  sl := []
  nl := []
  W := []
  fz := 0
  hs := List.Pairwise.nil
  hn := List.Pairwise.nil
  ps := .refl _
  pn := .refl _
  hW := rfl
  rs := fun rs w h1 h2 => by rw [show rs = [] from h1] at *; exact Cq [] w IX h2
  rn := fun rs w h1 h2 => by rw [show rs = [] from h1] at *; exact Cq [] w IX h2
  ys := fun y h => nomatch h
  yn := fun y h => nomatch h
  yw := fun y h => nomatch h
  yc := fun y h => nomatch h
  hok := trivial
  few := fun k => by show ((([] : List OpD).take k).foldl AW []).length ≤ 64; rw [List.take_nil]; decide
  hz := fun k h => nomatch h
  zr := by decide
  nc := ⟨rfl, rfl⟩
  sc := ⟨rfl, rfl⟩
theorem Tp {room : Int} : ∀ rs, Al [cell p 59 #[.int .i64 room, .slice none 0 0, .slice none 0 0, .slice none 0 0, .bool false, .int .i64 0, .bool false]] rs → AA p (HU room) rs := fun rs h => by
 refine ⟨V7 room, ?_⟩
 obtain ⟨r1, r2, rfl, h1, rfl⟩ := h
 exact ⟨r1, [], rfl, h1, [], [], rfl, rfl, [], [], rfl, rfl, [], [], rfl, IX, rfl⟩
theorem CX {fu dn : Bool} (hf : d.fuse.isSome = fu) (hd : d.down = dn) : ∀ rs, AA p d rs → ∃ x : RDk d, Al [cell p 59 #[.int .i64 d.room, x.sv, x.nv, x.wv, .bool fu, .int .i64 x.fz, .bool dn], x.F, x.Y, Ao 103 5 encRO x.wv x.W] rs := fun rs h => by subst hf; subst hd; exact h
theorem Tq {k : Nat} {dn : Bool} (hf : d.fuse = some k) (hd : d.down = dn) : ∀ rs, AA p d rs → ∃ x : RDk d, Al [cell p 59 #[.int .i64 d.room, x.sv, x.nv, x.wv, .bool true, .int .i64 (k : Int), .bool dn], x.F, x.Y, Ao 103 5 encRO x.wv x.W] rs := fun rs ⟨x, h⟩ => by
 refine ⟨x, ?_⟩
 rw [x.hz k hf] at h
 rw [hf, hd] at h
 exact h
theorem LX {d' : DiskD} (x : RDk d) {room fz : Int} {fu dn : Bool} (hr : d'.room = room) (hsy : d'.syn = d.syn) (hwa : d'.wait = d.wait) (hfu : d'.fuse.isSome = fu) (hdn : d'.down = dn) (hz : ∀ k, d'.fuse = some k → fz = (k : Int)) (zr : -9223372036854775808 ≤ fz ∧ fz ≤ 9223372036854775807) : ∀ rs, Al [cell p 59 #[.int .i64 room, x.sv, x.nv, x.wv, .bool fu, .int .i64 fz, .bool dn], x.F, x.Y, Ao 103 5 encRO x.wv x.W] rs → AA p d' rs := fun rs h => ⟨x.turn d' fz hsy hwa hz zr, by subst hr; subst hfu; subst hdn; exact h⟩
theorem Ce (x : RDk d) {fu dn : Bool} (hf : d.fuse.isSome = fu) (hd : d.down = dn) : ∀ rs, Al [cell p 59 #[.int .i64 d.room, x.sv, x.nv, x.wv, .bool fu, .int .i64 x.fz, .bool dn], x.F, x.Y, Ao 103 5 encRO x.wv x.W] rs → AA p d rs := fun rs h => ⟨x, by subst hf; subst hd; exact h⟩
theorem Fi (d : DiskD) : (d.down = true ∧ Ba d = (d, 3)) ∨ (d.down = false ∧ d.fuse = some 0 ∧ Ba d = ({ d with down := true }, 3)) ∨ (d.down = false ∧ (∃ k, d.fuse = some (k + 1) ∧ Ba d = ({ d with fuse := some k }, 0))) ∨ (d.down = false ∧ d.fuse = none ∧ Ba d = (d, 0)) := by
  obtain ⟨room, syn, wait, fuse, down⟩ := d
  cases down with
  | true => left; exact ⟨rfl, by unfold Ba; rw [if_pos (.inl rfl)]⟩
  | false =>
    right
    cases fuse with
    | none => right; right; exact ⟨rfl, rfl, by unfold Ba; rw [if_neg (by simp)]; rfl⟩
    | some k =>
      cases k with
      | zero => left; exact ⟨rfl, rfl, by unfold Ba; rw [if_pos (.inr rfl)]⟩
      | succ k => right; left; exact ⟨rfl, k, rfl, by unfold Ba; rw [if_neg (by simp)]; rfl⟩
theorem Tr (x : RDk d) {o : OpD} {z : RDo} {wv' rv : Value} {y : OpV} (hy : y.o = o) (hz : Ek x.nl o z ∧ z.rv = rv) (ho : Ly d.now o) (hf : (AW d.now o).length ≤ 64) {K : Ass} (hK : Cw K y.v y.o.data) (hyc : y.o.data.length ≤ y.c) {fu dn : Bool} (hfu : d.fuse.isSome = fu) (hdn : d.down = dn) : ∀ rs, Al [cell p 59 #[.int .i64 d.room, x.sv, rv, wv', .bool fu, .int .i64 x.fz, .bool dn], x.F, Ao 52 2 encRF rv z.rl, Cv [x.Y, K], Ao 5 1 encB z.bv z.bd, Ao 103 5 encRO wv' (x.W ++ [y])] rs → AA p (Cn d o) rs := fun rs h => by
 obtain ⟨hz, hrv⟩ := hz
 subst hrv
 subst hfu; subst hdn
 obtain ⟨r1, _, rfl, h1, hr⟩ := h
 have hc : z.rv.cells = #[z.rv] ∧ z.rv.oneCell' = true := by
  obtain ⟨_, _, rfl, _, _, _, rfl, h9, _⟩ := hr
  exact Ao.c1 h9
 refine ⟨x.does (wv' := wv') hy hz ho hf Cq CQ hK hyc hc, ?_⟩
 obtain ⟨a1, a2, rfl, ⟨b1, b2, rfl, h2, h3⟩, h4⟩ := La.1 hr
 exact ⟨r1, _, rfl, h1, b1 ++ b2, _, rfl, ⟨b1, b2, rfl, h2, h3⟩, La.1 h4⟩
theorem AS.too {X Y : Type} {P : Program} {F : FuncId} {args : Array Value} {pre : List Ass} {val : X → Value} {post : X → List Ass} {val' : Y → Value} {post' : Y → List Ass} (h : AS P F args pre val post) (hi : ∀ x, ∃ y, val x = val' y ∧ ∀ rs, Al (post x) rs → ∃ rs', rs.Perm rs' ∧ Al (post' y) rs') : AS P F args pre val' post' := fun w rs h1 h2 h3 => (h w rs h1 h2 h3).mono (by
 rintro e w' ⟨x, he, rs', hp, hc⟩
 obtain ⟨y, hv, hq⟩ := hi x
 obtain ⟨rs2, p, hp2⟩ := hq rs' hp
 exact ⟨y, by rw [he, hv], rs2, hp2, I4 hc p⟩)
def Qp (l : List RFl) (o : OpD) (rv : Value) : Ass := fun rs => ∃ z : RDo, Al [Ao 5 1 encB z.bv z.bd, Ao 52 2 encRF rv z.rl, fact (Ek l o z ∧ z.rv = rv)] rs
theorem Qp.open_ {l : List RFl} {o : OpD} {rv : Value} : ∀ rs, Qp l o rv rs → ∃ z : RDo, Al [Ao 5 1 encB z.bv z.bd, Ao 52 2 encRF rv z.rl, fact (Ek l o z ∧ z.rv = rv)] rs := fun _ h => h
theorem Qp.c1 {l : List RFl} {o : OpD} {rv : Value} {rs : List RowT} (h : Qp l o rv rs) : rv.cells = #[rv] ∧ rv.oneCell' = true := by
 obtain ⟨z, r1, _, rfl, h1, r2, _, rfl, h2, _⟩ := h
 exact Ao.c1 h2
theorem RD {X Y : Ass} {v : Value} {l : List RFl} {x : OpV} (hX : Fh X v l) (hl : l.length ≤ 1000000) (hs : Ei l) (ho : Ly (FO l) x.o) (hY : ∀ y : RFl, y ∈ l → Cw Y y.v y.d ∧ y.d.length ≤ 1099511627776) (hO : Cw Y x.v x.o.data) (hbl : x.o.data.length ≤ 1099511627776) : AS Tryz.prog 67 #[v, .agg (encRO x).toArray] [X, Y] (fun rv : Value => rv) (fun rv => [X, Y, Qp l x.o rv]) := (RC hX hl hs ho hY hO hbl).too (fun z => ⟨z.rv, rfl, fun rs h => by
 obtain ⟨r1, _, rfl, h1, r2, _, rfl, h2, r3, _, rfl, h3, r4, _, rfl, h4, r5, _, rfl, ⟨rfl, h5⟩, rfl⟩ := h
 exact ⟨_, .refl _, r1, _, rfl, h1, r2, _, rfl, h2, r3 ++ r4, [], by simp, ⟨z, r3, _, rfl, h3, r4, [], by simp, h4, [], [], rfl, ⟨rfl, h5, rfl⟩, rfl⟩, rfl⟩⟩)
theorem Ts (x : RDk d) (n : List UInt8) : AL d.now n = AL (FO x.nl) n := (D9 x.pn (DB x.hn) n).symm
theorem RDk.at_ (x : RDk d) (n : List UInt8) : (∃ (j : Nat) (y : RFl), x.nl[j]? = some y ∧ y.n = n ∧ (∀ (k : Nat) (z : RFl), k < j → x.nl[k]? = some z → z.n ≠ n) ∧ AL d.now n = some y.d ∧ y ∈ x.nl) ∨ ((∀ z : RFl, z ∈ x.nl → z.n ≠ n) ∧ AL d.now n = none) := by
  rcases GQ x.hn n with ⟨j, y, h1, h2, h3, h4⟩ | ⟨h1, h2⟩
  · exact .inl ⟨j, y, h1, h2, h3, by rw [Ts x]; exact h4, List.mem_of_getElem? h1⟩
  · exact .inr ⟨h1, by rw [Ts x]; exact h2⟩
theorem RDk.no_ (x : RDk d) {n : List UInt8} (h : AL d.now n = none) : ∀ z : RFl, z ∈ x.nl → z.n ≠ n := by
  rcases x.at_ n with ⟨j, y, _, _, _, h4, _⟩ | ⟨h1, _⟩
  · rw [h] at h4; cases h4
  · exact h1
theorem RDk.yes_ (x : RDk d) {n b : List UInt8} (h : AL d.now n = some b) : ∃ (j : Nat) (y : RFl), x.nl[j]? = some y ∧ y.n = n ∧ (∀ (k : Nat) (z : RFl), k < j → x.nl[k]? = some z → z.n ≠ n) ∧ y.d = b ∧ y ∈ x.nl := by
  rcases x.at_ n with ⟨j, y, h1, h2, h3, h4, h5⟩ | ⟨_, h4⟩
  · exact ⟨j, y, h1, h2, h3, Option.some.inj (h4.symm.trans h), h5⟩
  · rw [h] at h4; cases h4
def ES (l : List RFl) : Nat := (l.map fun x => x.d.length).sum
theorem Tt (l : List RFl) : ES l = AE (FO l) := by unfold ES AE FO; rw [List.map_map]; rfl
theorem RDk.usedN (x : RDk d) : ES x.nl = AE d.now := by rw [Tt, x.nused]
theorem Py {l : List RFl} {i : Nat} {y : RFl} (h : l[i]? = some y) : ES (l.take (i + 1)) = ES (l.take i) + y.d.length := by
 unfold ES
 rw [List.take_add_one, h]
 simp
theorem Tu (l : List RFl) (i : Nat) : ES (l.take i) ≤ ES l := by
 have h : ES l = ES (l.take i) + ES (l.drop i) := by
  unfold ES
  rw [← List.sum_append, ← List.map_append, List.take_append_drop]
 omega
end Go.Proofs.YtnknboibmifacaaGreat.Sep
namespace Go.Proofs.YtnknboibmifacaaGreat.Sep
open Go.RowKit
open Go.Proofs.YtnknboibmifacaaGreat.Mem (Bd Cj Chg AF)
theorem Ka {p : Nat} {d d1 : DiskD} {e : Nat} (h : Ba d = (d1, e)) : AS Tryz.prog 30 #[.pointer (some ⟨p, 0, none⟩)] [AA p d] (fun (_ : Unit) => .int .i64 (e : Int)) (fun (_ : Unit) => [AA p d1]) := by
  refine A6 (args := [.pointer (some ⟨p, 0, none⟩)]) 39 Tryz.func30 rfl rfl rfl ?_; intro w rs
  refine Ad ?_
  refine Af Ag rfl ?_
  refine Ab (Aq ?_)
  rcases Fi d with ⟨hdn, hb⟩ | ⟨hdn, hz, hb⟩ | ⟨hdn, k, hz, hb⟩ | ⟨hdn, hz, hb⟩
  · skip
    obtain ⟨rfl, rfl⟩ := Prod.mk.inj (hb.symm.trans h)
    obtain ⟨fu, hfu⟩ : ∃ fu, d.fuse.isSome = fu := ⟨_, rfl⟩
    refine AY 0 rfl (CX hfu hdn) (fun _ => rfl) ?_; rintro x
    refine Ad ?_
    refine Af Ag rfl ?_
    refine Ac rfl (.pointer (some ⟨p, 0, none⟩)) (fun b w hb hH => by exact BO rfl rfl hb) ?_
    refine Af Ag rfl ?_
    refine Ac rfl (.bool true) (fun b w hb hH => Bg rfl rfl (Bt BN rfl) (hH.row 0 rfl) hb) ?_
    refine Af Ag rfl ?_
    refine Ab (Au rfl (Ax (AG (Aq (Ad ?_)))))
    refine Af Ag rfl ?_
    refine Ac rfl (.pointer (some ⟨p, 0, none⟩)) (fun b w hb hH => by exact BO rfl rfl hb) ?_
    refine Af Ag rfl ?_
    refine Ac rfl (.bool true) (fun b w hb hH => Bg rfl rfl (Bt BN rfl) (hH.row 0 rfl) hb) ?_
    refine Ab (AD rfl ?_)
    refine Bf [0, 1, 2, 3] rfl (Ce x hfu hdn) rfl ?_
    refine Ad ?_
    refine Af Ag rfl ?_
    refine Ab (Az (CO ?_))
    exact Ay (.tmp rfl) (fun w h => AB () rfl [0] rfl h Cz) rfl
  · skip
    obtain ⟨rfl, rfl⟩ := Prod.mk.inj (hb.symm.trans h)
    refine AY 0 rfl (Tq hz hdn) (fun _ => rfl) ?_; rintro x
    refine Ad ?_
    refine Af Ag rfl ?_
    refine Ac rfl (.pointer (some ⟨p, 0, none⟩)) (fun b w hb hH => by exact BO rfl rfl hb) ?_
    refine Af Ag rfl ?_
    refine Ac rfl (.bool false) (fun b w hb hH => Bg rfl rfl (Bt BN rfl) (hH.row 0 rfl) hb) ?_
    refine Af Ag rfl ?_
    refine Ac rfl (.pointer (some ⟨p, 0, none⟩)) (fun b w hb hH => by exact BO rfl rfl hb) ?_
    refine Af Ag rfl ?_
    refine Ac rfl (.bool true) (fun b w hb hH => Bg rfl rfl (Bt BN rfl) (hH.row 0 rfl) hb) ?_
    refine Af Ag rfl ?_
    refine Ac rfl (.pointer (some ⟨p, 0, none⟩)) (fun b w hb hH => by exact BO rfl rfl hb) ?_
    refine Af Ag rfl ?_
    refine Ac rfl (.int .i64 ((0 : Nat) : Int)) (fun b w hb hH => Bg rfl rfl (Bt Bj rfl) (hH.row 0 rfl) hb) ?_
    refine Ac rfl (.bool true) (fun b w hb hH => Bh rfl rfl rfl (Ks (by omega)) hb) ?_
    refine Af Ag rfl ?_
    refine Ab (AD rfl (BI ?_))
    refine Af Ag rfl ?_
    refine Ac rfl (.pointer (some ⟨p, 0, none⟩)) (fun b w hb hH => by exact BO rfl rfl hb) ?_
    refine Af Ag rfl ?_
    refine AT (post := fun _ => [cell p 59 #[.int .i64 d.room, x.sv, x.nv, x.wv, .bool true, .int .i64 ((0 : Nat) : Int), .bool true], x.F, x.Y, Ao 103 5 encRO x.wv x.W]) rfl rfl (AM 0 (v := .bool true) #[.int .i64 d.room, x.sv, x.nv, x.wv, .bool true, .int .i64 ((0 : Nat) : Int), .bool true] BN.2 rfl rfl rfl rfl rfl rfl rfl rfl rfl) ?_; rintro ⟨⟩
    refine AP (AG (Aq (Ad ?_)))
    refine Af Ag rfl ?_
    refine Ac rfl (.pointer (some ⟨p, 0, none⟩)) (fun b w hb hH => by exact BO rfl rfl hb) ?_
    refine Af Ag rfl ?_
    refine Ac rfl (.bool true) (fun b w hb hH => Bg rfl rfl (Bt BN rfl) (hH.row 0 rfl) hb) ?_
    refine Ab (AD rfl ?_)
    refine Bf [0, 1, 2, 3] rfl (LX (d' := { d with down := true }) x rfl rfl rfl (by rw [show ({ d with down := true } : DiskD).fuse = d.fuse from rfl, hz]; rfl) rfl (fun k hk => by rw [show ({ d with down := true } : DiskD).fuse = d.fuse from rfl, hz] at hk; cases hk; rfl) (by decide)) rfl ?_
    refine Ad ?_
    refine Af Ag rfl ?_
    refine Ab (Az (CO ?_))
    exact Ay (.tmp rfl) (fun w h => AB () rfl [0] rfl h Cz) rfl
  · skip
    obtain ⟨rfl, rfl⟩ := Prod.mk.inj (hb.symm.trans h)
    refine AY 0 rfl (Tq hz hdn) (fun _ => rfl) ?_; rintro x
    have hkz := x.zr
    rw [x.hz _ hz] at hkz
    refine Ad ?_
    refine Af Ag rfl ?_
    refine Ac rfl (.pointer (some ⟨p, 0, none⟩)) (fun b w hb hH => by exact BO rfl rfl hb) ?_
    refine Af Ag rfl ?_
    refine Ac rfl (.bool false) (fun b w hb hH => Bg rfl rfl (Bt BN rfl) (hH.row 0 rfl) hb) ?_
    refine Af Ag rfl ?_
    refine Ac rfl (.pointer (some ⟨p, 0, none⟩)) (fun b w hb hH => by exact BO rfl rfl hb) ?_
    refine Af Ag rfl ?_
    refine Ac rfl (.bool true) (fun b w hb hH => Bg rfl rfl (Bt BN rfl) (hH.row 0 rfl) hb) ?_
    refine Af Ag rfl ?_
    refine Ac rfl (.pointer (some ⟨p, 0, none⟩)) (fun b w hb hH => by exact BO rfl rfl hb) ?_
    refine Af Ag rfl ?_
    refine Ac rfl (.int .i64 (((k + 1 : Nat)) : Int)) (fun b w hb hH => Bg rfl rfl (Bt Bj rfl) (hH.row 0 rfl) hb) ?_
    refine Ac rfl (.bool false) (fun b w hb hH => Bh rfl rfl rfl (Le (by omega)) hb) ?_
    refine Af Ag rfl ?_
    refine Ab (Au rfl (Ax (AG (Aq (Ad ?_)))))
    refine Af Ag rfl ?_
    refine Ac rfl (.pointer (some ⟨p, 0, none⟩)) (fun b w hb hH => by exact BO rfl rfl hb) ?_
    refine Af Ag rfl ?_
    refine Ac rfl (.bool false) (fun b w hb hH => Bg rfl rfl (Bt BN rfl) (hH.row 0 rfl) hb) ?_
    refine Ab (Au rfl (Ax (AG (Aq (Ad ?_)))))
    refine Af Ag rfl ?_
    refine Ac rfl (.pointer (some ⟨p, 0, none⟩)) (fun b w hb hH => by exact BO rfl rfl hb) ?_
    refine Af Ag rfl ?_
    refine Ac rfl (.bool true) (fun b w hb hH => Bg rfl rfl (Bt BN rfl) (hH.row 0 rfl) hb) ?_
    refine Ab (AD rfl (BI ?_))
    refine Af Ag rfl ?_
    refine Ac rfl (.pointer (some ⟨p, 0, none⟩)) (fun b w hb hH => by exact BO rfl rfl hb) ?_
    refine Af Ag rfl ?_
    refine Ac rfl (.int .i64 (((k + 1 : Nat)) : Int)) (fun b w hb hH => Bg rfl rfl (Bt Bj rfl) (hH.row 0 rfl) hb) ?_
    refine Ac rfl (.int .i64 ((k : Nat) : Int)) (fun b w hb hH => AK rfl rfl rfl rfl (by rw [IntWalk.i64_in _ (by omega)]; omega) hb) ?_
    refine Ac rfl (.pointer (some ⟨p, 0, none⟩)) (fun b w hb hH => by exact BO rfl rfl hb) ?_
    refine Af Ag rfl ?_
    refine AT (post := fun _ => [cell p 59 #[.int .i64 d.room, x.sv, x.nv, x.wv, .bool true, .int .i64 ((k : Nat) : Int), .bool false], x.F, x.Y, Ao 103 5 encRO x.wv x.W]) rfl rfl (AM 0 (v := .int .i64 ((k : Nat) : Int)) #[.int .i64 d.room, x.sv, x.nv, x.wv, .bool true, .int .i64 ((k : Nat) : Int), .bool false] Bj.2 rfl rfl rfl rfl rfl rfl rfl rfl rfl) ?_; rintro ⟨⟩
    refine AP (AG ?_)
    refine Bf [0, 1, 2, 3] rfl (LX (d' := { d with fuse := some k }) x rfl rfl rfl rfl hdn (fun q hq => by cases hq; rfl) (by omega)) rfl ?_
    refine Ad ?_
    refine Af Ag rfl ?_
    refine Ab (Az ?_)
    exact Ay (.tmp rfl) (fun w h => AB () rfl [0] rfl h Cz) rfl
  · skip
    obtain ⟨rfl, rfl⟩ := Prod.mk.inj (hb.symm.trans h)
    have hfu : d.fuse.isSome = false := by rw [hz]; rfl
    refine AY 0 rfl (CX hfu hdn) (fun _ => rfl) ?_; rintro x
    refine Ad ?_
    refine Af Ag rfl ?_
    refine Ac rfl (.pointer (some ⟨p, 0, none⟩)) (fun b w hb hH => by exact BO rfl rfl hb) ?_
    refine Af Ag rfl ?_
    refine Ac rfl (.bool false) (fun b w hb hH => Bg rfl rfl (Bt BN rfl) (hH.row 0 rfl) hb) ?_
    refine Af Ag rfl ?_
    refine Ac rfl (.pointer (some ⟨p, 0, none⟩)) (fun b w hb hH => by exact BO rfl rfl hb) ?_
    refine Af Ag rfl ?_
    refine Ac rfl (.bool false) (fun b w hb hH => Bg rfl rfl (Bt BN rfl) (hH.row 0 rfl) hb) ?_
    refine Af Ag rfl ?_
    refine Ab (Au rfl (Ax (AG (Aq (Ad ?_)))))
    refine Af Ag rfl ?_
    refine Ac rfl (.pointer (some ⟨p, 0, none⟩)) (fun b w hb hH => by exact BO rfl rfl hb) ?_
    refine Af Ag rfl ?_
    refine Ac rfl (.bool false) (fun b w hb hH => Bg rfl rfl (Bt BN rfl) (hH.row 0 rfl) hb) ?_
    refine Ab (Au rfl (Ax (AG (Aq (Ad ?_)))))
    refine Af Ag rfl ?_
    refine Ac rfl (.pointer (some ⟨p, 0, none⟩)) (fun b w hb hH => by exact BO rfl rfl hb) ?_
    refine Af Ag rfl ?_
    refine Ac rfl (.bool false) (fun b w hb hH => Bg rfl rfl (Bt BN rfl) (hH.row 0 rfl) hb) ?_
    refine Ab (Au rfl (Ax (AG ?_)))
    refine Bf [0, 1, 2, 3] rfl (Ce x hfu hdn) rfl ?_
    refine Ad ?_
    refine Af Ag rfl ?_
    refine Ab (Az ?_)
    exact Ay (.tmp rfl) (fun w h => AB () rfl [0] rfl h Cz) rfl
theorem Tv (w : World) (n : List UInt8) (r : Bool) (hr : CA n = r) (hl : n.length ≤ 9223372036854775807) : Calls Tryz.prog 60 #[.string (bs n)] w fun e w' => e = .returned (.bool r) ∧ Below w.heap.size w w' := by
  refine In (args := [.string (bs n)]) 11 Tryz.func60 rfl rfl rfl ?_
  refine Ad ?_
  refine Af Ag rfl ?_
  refine Ab ?_
  rcases Classical.em (1 ≤ n.length) with h1 | h1
  rcases Classical.em (n.length ≤ 16) with h2 | h2
  · skip
    obtain rfl : r = true := by rw [← hr]; unfold CA; simp [h1, h2]
    refine Ad ?_
    refine Af Ag rfl ?_
    refine Ac rfl (.int .i64 (n.length : Int)) (fun b w hb hH => BW rfl rfl (fun cs => (fun w cs => CK Tryz.underlying9 _ _ w cs) w cs) hb) ?_
    refine Ac rfl (.bool true) (fun b w hb hH => Bh rfl rfl rfl (Cs (by omega)) hb) ?_
    refine Af Ag rfl ?_
    refine Ac rfl (.int .i64 (n.length : Int)) (fun b w hb hH => BW rfl rfl (fun cs => (fun w cs => CK Tryz.underlying9 _ _ w cs) w cs) hb) ?_
    refine Ac rfl (.bool true) (fun b w hb hH => Bh rfl rfl rfl (Ep (by omega)) hb) ?_
    refine Af Ag rfl ?_
    refine Ab (Az ?_)
    exact Ay (.tmp rfl) (fun w h => ⟨rfl, AF h.up⟩) rfl
  · skip
    obtain rfl : r = false := by rw [← hr]; unfold CA; simp [h2]
    refine Ad ?_
    refine Af Ag rfl ?_
    refine Ac rfl (.int .i64 (n.length : Int)) (fun b w hb hH => BW rfl rfl (fun cs => (fun w cs => CK Tryz.underlying9 _ _ w cs) w cs) hb) ?_
    refine Ac rfl (.bool true) (fun b w hb hH => Bh rfl rfl rfl (Cs (by omega)) hb) ?_
    refine Af Ag rfl ?_
    refine Ac rfl (.int .i64 (n.length : Int)) (fun b w hb hH => BW rfl rfl (fun cs => (fun w cs => CK Tryz.underlying9 _ _ w cs) w cs) hb) ?_
    refine Ac rfl (.bool false) (fun b w hb hH => Bh rfl rfl rfl (G4 (by omega)) hb) ?_
    refine Af Ag rfl ?_
    refine Ab (Az ?_)
    exact Ay (.tmp rfl) (fun w h => ⟨rfl, AF h.up⟩) rfl
  · skip
    obtain rfl : r = false := by rw [← hr]; unfold CA; simp [h1]
    refine Ad ?_
    refine Af Ag rfl ?_
    refine Ac rfl (.int .i64 (n.length : Int)) (fun b w hb hH => BW rfl rfl (fun cs => (fun w cs => CK Tryz.underlying9 _ _ w cs) w cs) hb) ?_
    refine Ac rfl (.bool false) (fun b w hb hH => Bh rfl rfl rfl (DX (by omega)) hb) ?_
    refine Af Ag rfl ?_
    refine Ab (Az ?_)
    exact Ay (.tmp rfl) (fun w h => ⟨rfl, AF h.up⟩) rfl
theorem Lb {p : Nat} {d : DiskD} (x : RDk d) {fu : Bool} {room : Int} (hf : d.fit) : AS Tryz.prog 51 #[.pointer (some ⟨p, 0, none⟩)] [cell p 59 #[.int .i64 room, x.sv, x.nv, x.wv, .bool fu, .int .i64 x.fz, .bool false], x.F] (fun (_ : Unit) => .int .i64 ((AE d.now : Nat) : Int)) (fun (_ : Unit) => [cell p 59 #[.int .i64 room, x.sv, x.nv, x.wv, .bool fu, .int .i64 x.fz, .bool false], x.F]) := by
  refine A6 (args := [.pointer (some ⟨p, 0, none⟩)]) 33 Tryz.func51 rfl rfl rfl ?_; intro w rs
  have hn64 := x.nlen
  have hN := x.usedN
  have hbig := H7 hf x.snd x.hok
  refine Ad ?_
  refine Af Ag rfl ?_
  refine Ab (Ad ?_)
  refine Af Ag rfl ?_
  refine Ab (Aq (Ad ?_))
  refine Af Ag rfl ?_
  refine Ab (AX ?_)
  refine CE (α := Nat) (fun i => [(0, .pointer (some ⟨p, 0, none⟩)), (2, .int .i64 0), (3, .int .i64 ((ES (x.nl.take i) : Nat) : Int)), (4, .int .i64 ((i : Nat) : Int))]) (fun i => [cell p 59 #[.int .i64 room, x.sv, x.nv, x.wv, .bool fu, .int .i64 x.fz, .bool false], x.F]) (fun i => i ≤ x.nl.length) (fun i => x.nl.length - i) 0 (Nat.zero_le _) ⟨rfl, rfl, rfl, rfl, trivial⟩ rfl ?_
  rintro i hI
  refine Bo.at_ (env' := [(0, .pointer (some ⟨p, 0, none⟩)), (2, .int .i64 0), (3, .int .i64 ((ES (x.nl.take i) : Nat) : Int)), (4, .int .i64 ((i : Nat) : Int))]) (rs' := [cell p 59 #[.int .i64 room, x.sv, x.nv, x.wv, .bool fu, .int .i64 x.fz, .bool false], x.F]) ⟨rfl, rfl, rfl, rfl, trivial⟩ rfl ?_
  refine Aq ?_
  rcases Nat.lt_or_ge i x.nl.length with hi | hi
  · skip
    obtain ⟨y, hy⟩ : ∃ y, x.nl[i]? = some y := ⟨_, List.getElem?_eq_getElem hi⟩
    have hst := Py hy
    have hle := Tu x.nl (i + 1)
    refine Ad ?_
    refine Af Ag rfl ?_
    refine Ac rfl (.pointer (some ⟨p, 0, none⟩)) (fun b w hb hH => by exact BO rfl rfl hb) ?_
    refine Af Ag rfl ?_
    refine Ac rfl (x.nv) (fun b w hb hH => Bg rfl rfl (Bt Aw rfl) (hH.row 0 rfl) hb) ?_
    refine Ac rfl (.int .i64 (x.nl.length : Int)) (fun b w hb hH => AQ ((hH.rdFs 1 rfl x.rn)) Tryz.underlying53 rfl rfl hb) ?_
    refine Ac rfl (.bool true) (fun b w hb hH => Bh rfl rfl rfl (Bl (by omega)) hb) ?_
    refine Af Ag rfl ?_
    refine Ac rfl (.pointer (some ⟨p, 0, none⟩)) (fun b w hb hH => by exact BO rfl rfl hb) ?_
    refine Af Ag rfl ?_
    refine Ac rfl (.bool false) (fun b w hb hH => Bg rfl rfl (Bt BN rfl) (hH.row 0 rfl) hb) ?_
    refine Af Ag rfl ?_
    refine Ab (AD rfl (Ax (AG (Aq (AX (BI ?_))))))
    refine Af Ag rfl ?_
    refine Ac rfl (.pointer (some ⟨p, 0, none⟩)) (fun b w hb hH => by exact BO rfl rfl hb) ?_
    refine Af Ag rfl ?_
    refine Ac rfl (x.nv) (fun b w hb hH => Bg rfl rfl (Bt Aw rfl) (hH.row 0 rfl) hb) ?_
    refine Af Ag rfl ?_
    refine Ac rfl (Cc x.nv (i * 2)) (fun b w hb hH => BA BH ((hH.rdFs 1 rfl x.rn)) Ar (j := i) hy rfl rfl rfl hb) ?_
    refine Ac rfl (Cc x.nv (i * 2 + 1)) (fun b w hb hH => Lf BH (by decide) ((hH.rdFs 1 rfl x.rn)) (j := i) hy Bw rfl rfl hb) ?_
    refine Ac rfl (.slice y.A y.d.length y.c) (fun b w hb hH => Bp BH (by decide) ((hH.rdFs 1 rfl x.rn)) (j := i) hy C3 (off := 1) rfl rfl rfl hb) ?_
    refine Ac rfl (.int .i64 (y.d.length : Int)) (fun b w hb hH => Gs AC rfl rfl hH hb) ?_
    refine Ac rfl (.int .i64 ((ES (x.nl.take (i + 1)) : Nat) : Int)) (fun b w hb hH => AK rfl rfl rfl rfl (by rw [IntWalk.i64_in _ (by omega)]; omega) hb) ?_
    refine Af Ag rfl ?_
    refine AP (BJ (AG (BI ?_)))
    refine Af Ag rfl ?_
    refine Ac rfl (.int .i64 ((i + 1 : Nat) : Int)) (fun b w hb hH => AK rfl rfl rfl rfl (by rw [IntWalk.i64_in _ (by omega)]; omega) hb) ?_
    refine Af Ag rfl ?_
    refine AP ?_
    exact Cr (i + 1) 0 hi (show x.nl.length - (i + 1) < x.nl.length - i by omega) ⟨rfl, rfl, rfl, rfl, trivial⟩ rfl
  · skip
    obtain rfl : i = x.nl.length := by omega
    refine Ad ?_
    refine Af Ag rfl ?_
    refine Ac rfl (.pointer (some ⟨p, 0, none⟩)) (fun b w hb hH => by exact BO rfl rfl hb) ?_
    refine Af Ag rfl ?_
    refine Ac rfl (x.nv) (fun b w hb hH => Bg rfl rfl (Bt Aw rfl) (hH.row 0 rfl) hb) ?_
    refine Ac rfl (.int .i64 (x.nl.length : Int)) (fun b w hb hH => AQ ((hH.rdFs 1 rfl x.rn)) Tryz.underlying53 rfl rfl hb) ?_
    refine Ac rfl (.bool false) (fun b w hb hH => Bh rfl rfl rfl (Bu (by omega)) hb) ?_
    refine Af Ag rfl ?_
    refine Ab (Au rfl (Cu (EO (EO (Bc (AG ?_))))))
    have hAll : ((ES (x.nl.take x.nl.length) : Nat) : Int) = ((AE d.now : Nat) : Int) := by rw [List.take_length, hN]
    rw [hAll]
    refine Ad ?_
    refine Af Ag rfl ?_
    refine Ab (Az ?_)
    exact Ay (.tmp rfl) (fun w h => AB (X := Unit) () rfl [0, 1] rfl h Cz) rfl
theorem RE {p : Nat} {d : DiskD} (x : RDk d) {fu : Bool} {room : Int} : AS Tryz.prog 51 #[.pointer (some ⟨p, 0, none⟩)] [cell p 59 #[.int .i64 room, x.sv, x.nv, x.wv, .bool fu, .int .i64 x.fz, .bool true], x.F] (fun (_ : Unit) => .int .i64 0) (fun (_ : Unit) => [cell p 59 #[.int .i64 room, x.sv, x.nv, x.wv, .bool fu, .int .i64 x.fz, .bool true], x.F]) := by
  refine A6 (args := [.pointer (some ⟨p, 0, none⟩)]) 33 Tryz.func51 rfl rfl rfl ?_; intro w rs
  have hn64 := x.nlen
  refine Ad ?_
  refine Af Ag rfl ?_
  refine Ab (Ad ?_)
  refine Af Ag rfl ?_
  refine Ab (Aq (Ad ?_))
  refine Af Ag rfl ?_
  refine Ab (AX ?_)
  refine CE (α := Nat) (fun i => [(0, .pointer (some ⟨p, 0, none⟩)), (2, .int .i64 0), (3, .int .i64 0), (4, .int .i64 ((i : Nat) : Int))]) (fun i => [cell p 59 #[.int .i64 room, x.sv, x.nv, x.wv, .bool fu, .int .i64 x.fz, .bool true], x.F]) (fun i => i = 0) (fun i => i) 0 rfl ⟨rfl, rfl, rfl, rfl, trivial⟩ rfl ?_
  rintro i hI
  refine Bo.at_ (env' := [(0, .pointer (some ⟨p, 0, none⟩)), (2, .int .i64 0), (3, .int .i64 0), (4, .int .i64 ((i : Nat) : Int))]) (rs' := [cell p 59 #[.int .i64 room, x.sv, x.nv, x.wv, .bool fu, .int .i64 x.fz, .bool true], x.F]) ⟨rfl, rfl, rfl, rfl, trivial⟩ rfl ?_
  refine Aq ?_
  rcases Nat.lt_or_ge i x.nl.length with hi | hi
  · skip
    refine Ad ?_
    refine Af Ag rfl ?_
    refine Ac rfl (.pointer (some ⟨p, 0, none⟩)) (fun b w hb hH => by exact BO rfl rfl hb) ?_
    refine Af Ag rfl ?_
    refine Ac rfl (x.nv) (fun b w hb hH => Bg rfl rfl (Bt Aw rfl) (hH.row 0 rfl) hb) ?_
    refine Ac rfl (.int .i64 (x.nl.length : Int)) (fun b w hb hH => AQ ((hH.rdFs 1 rfl x.rn)) Tryz.underlying53 rfl rfl hb) ?_
    refine Ac rfl (.bool true) (fun b w hb hH => Bh rfl rfl rfl (Bl (by omega)) hb) ?_
    refine Af Ag rfl ?_
    refine Ac rfl (.pointer (some ⟨p, 0, none⟩)) (fun b w hb hH => by exact BO rfl rfl hb) ?_
    refine Af Ag rfl ?_
    refine Ac rfl (.bool true) (fun b w hb hH => Bg rfl rfl (Bt BN rfl) (hH.row 0 rfl) hb) ?_
    refine Af Ag rfl ?_
    refine Ab (Au rfl (Cu (EO (EO (Bc (AG (Ad ?_)))))))
    refine Af Ag rfl ?_
    refine Ab (Az ?_)
    exact Ay (.tmp rfl) (fun w h => AB () rfl [0, 1] rfl h Cz) rfl
  · skip
    refine Ad ?_
    refine Af Ag rfl ?_
    refine Ac rfl (.pointer (some ⟨p, 0, none⟩)) (fun b w hb hH => by exact BO rfl rfl hb) ?_
    refine Af Ag rfl ?_
    refine Ac rfl (x.nv) (fun b w hb hH => Bg rfl rfl (Bt Aw rfl) (hH.row 0 rfl) hb) ?_
    refine Ac rfl (.int .i64 (x.nl.length : Int)) (fun b w hb hH => AQ ((hH.rdFs 1 rfl x.rn)) Tryz.underlying53 rfl rfl hb) ?_
    refine Ac rfl (.bool false) (fun b w hb hH => Bh rfl rfl rfl (Bu (by omega)) hb) ?_
    refine Af Ag rfl ?_
    refine Ab (Au rfl (Cu (EO (EO (Bc (AG (Ad ?_)))))))
    refine Af Ag rfl ?_
    refine Ab (Az ?_)
    exact Ay (.tmp rfl) (fun w h => AB () rfl [0, 1] rfl h Cz) rfl
end Go.Proofs.YtnknboibmifacaaGreat.Sep
namespace Go.Proofs.YtnknboibmifacaaGreat.Sep
open Go.RowKit
open Go.Proofs.YtnknboibmifacaaGreat.Mem (Bd Cj Chg AF)
theorem Qq {p : Nat} {d : DiskD} {y : OpV} {K : Ass} (hf : d.fit) (hdn : d.down = false) (ho : Ly d.now y.o) (hfew : (AW d.now y.o).length ≤ 64) (hK : Cw K y.v y.o.data) (hyc : y.o.data.length ≤ y.c) (hyl : y.o.data.length ≤ 1099511627776) : AS Tryz.prog 62 #[.pointer (some ⟨p, 0, none⟩), .agg #[.int .i64 y.o.kind, .string (bs y.o.name), .string (bs y.o.to), y.v, .int .i64 (y.o.cutS : Int)]] [AA p d, K] (fun (_ : Unit) => .int .i64 0) (fun (_ : Unit) => [AA p (Cn d y.o)]) := by
  refine A6 (args := [.pointer (some ⟨p, 0, none⟩), .agg #[.int .i64 y.o.kind, .string (bs y.o.name), .string (bs y.o.to), y.v, .int .i64 (y.o.cutS : Int)]]) 26 Tryz.func62 rfl rfl rfl ?_; intro w rs
  obtain ⟨fu, hfu⟩ : ∃ fu, d.fuse.isSome = fu := ⟨_, rfl⟩
  refine AY 0 rfl (CX hfu hdn) (fun _ => rfl) ?_; rintro x
  refine Bf [2, 4] rfl (fun rs h => h) rfl ?_
  have hn64 := x.nlen
  have hwl := x.wlen
  have hw4 := hf.2
  have ho2 : Ly (FO x.nl) y.o := Nr x.pn.symm x.nnd ho
  refine Ad ?_
  refine Af Ag rfl ?_
  refine Ai (post := fun g3 => [cell g3 103 #[.int .i64 y.o.kind, .string (bs y.o.name), .string (bs y.o.to), y.v, .int .i64 (y.o.cutS : Int)], Cv [x.Y, K], cell p 59 #[.int .i64 d.room, x.sv, x.nv, x.wv, .bool fu, .int .i64 x.fz, .bool false], x.F, Ao 103 5 encRO x.wv x.W]) rfl (CZ (cs := #[.int .i64 y.o.kind, .string (bs y.o.name), .string (bs y.o.to), y.v, .int .i64 (y.o.cutS : Int)]) rfl rfl rfl) ?_; rintro g3
  refine Af Ag rfl ?_
  refine Ab (Aq ?_)
  refine EL 1 rfl ?_
  refine BM 9 1 [⟨.quiet, [none], fun _ => .pointer (some ⟨p, 0, none⟩), []⟩, ⟨.quiet, [none], fun _ => .pointer (some ⟨p, 0, none⟩), []⟩, ⟨.quiet, [none], fun _ => .pointer (some ⟨p, 0, none⟩), [1]⟩, ⟨.quiet, [none], fun _ => .pointer (some ⟨p, 2, none⟩), [2]⟩, ⟨.quiet, [none], fun _ => x.nv, [3]⟩, ⟨.quiet, [none], fun _ => .agg #[.int .i64 y.o.kind, .string (bs y.o.name), .string (bs y.o.to), y.v, .int .i64 (y.o.cutS : Int)], []⟩, ⟨.act 0, [some false], fun _ => undef, [4, 5]⟩, ⟨.quiet, [some true], fun _ => .pointer (some ⟨p, 0, none⟩), [0]⟩, ⟨.quiet, [some true], fun _ => .pointer (some ⟨p, 2, none⟩), [7]⟩] [(0, .pointer (some ⟨p, 0, none⟩)), (3, .pointer (some ⟨g3, 0, none⟩)), (4, .int .i64 0)] (fun ρ => match ρ with | [r0] => [CP r0 (fun zv => Qp x.nl y.o zv) (E0), cell g3 103 #[.int .i64 y.o.kind, .string (bs y.o.name), .string (bs y.o.to), y.v, .int .i64 (y.o.cutS : Int)], Cv [x.Y, K], cell p 59 #[.int .i64 d.room, x.sv, x.nv, x.wv, .bool fu, .int .i64 x.fz, .bool false], x.F, Ao 103 5 encRO x.wv x.W] | _ => []) (by kernel_rfl) (by kernel_rfl) ⟨rfl, rfl, rfl, trivial⟩ rfl ?_ ?_
  · skip
    refine Aa (by intro r0_; exact ⟨rfl, fun b w hH hb => Ae Ag rfl hb⟩) ?_
    refine Aa (by intro r0_; exact ⟨rfl, fun b w hH hb => Ae Ag rfl hb⟩) ?_
    refine Aa (by intro r0_; exact ⟨rfl, fun b w hH hb => by exact BO rfl rfl hb⟩) ?_
    refine Aa (by intro r0_; exact ⟨rfl, fun b w hH hb => Ae Ag rfl hb⟩) ?_
    refine Aa (by intro r0_; exact ⟨rfl, fun b w hH hb => Bg rfl rfl (Bt Aw rfl) (hH.row 3 rfl) hb⟩) ?_
    refine Aa (by intro r0_; exact ⟨rfl, fun b w hH hb => Bg rfl rfl (EH (cs := [.int .i64 y.o.kind, .string (bs y.o.name), .string (bs y.o.to), y.v, .int .i64 (y.o.cutS : Int)]) FM rfl) (hH.row 1 rfl) hb⟩) ?_
    refine Aa (by exact ⟨rfl, Br.s (Am (os' := fun zv => [Qp x.nl y.o zv, cell g3 103 #[.int .i64 y.o.kind, .string (bs y.o.name), .string (bs y.o.to), y.v, .int .i64 (y.o.cutS : Int)], Cv [x.Y, K], cell p 59 #[.int .i64 d.room, x.sv, x.nv, x.wv, .bool fu, .int .i64 x.fz, .bool false], x.F, Ao 103 5 encRO x.wv x.W]) [4, 2, 0] 1 (Ah Tryz.func67 (by kernel_rfl) rfl) (RD (X := x.F) (Y := Cv [x.Y, K]) (x := y) x.rn (by omega) x.hn ho2 (fun q hq => ⟨IW (x.yn q hq), x.nbig hf hq⟩) (Qo hK) hyl) rfl rfl rfl (fun _ => rfl) rfl rfl rfl) (fun _ => rfl)⟩) ?_
    refine Aa (by intro zv; exact ⟨rfl, fun b w hH hb => by exact BO rfl rfl hb⟩) ?_
    refine Aa (by intro zv; exact ⟨rfl, fun b w hH hb => Ae Ag rfl hb⟩) ?_
    exact B7
  intro zv
  refine Ch.keep (env' := [(0, .pointer (some ⟨p, 0, none⟩)), (3, .pointer (some ⟨g3, 0, none⟩)), (4, .int .i64 0), (11, zv), (13, .pointer (some ⟨p, 2, none⟩))]) ⟨rfl, rfl, rfl, rfl, rfl, trivial⟩ ?_
  refine Af Ag rfl ?_
  refine AT (post := fun _ => [Qp x.nl y.o zv, cell g3 103 #[.int .i64 y.o.kind, .string (bs y.o.name), .string (bs y.o.to), y.v, .int .i64 (y.o.cutS : Int)], Cv [x.Y, K], cell p 59 #[.int .i64 d.room, x.sv, zv, x.wv, .bool fu, .int .i64 x.fz, .bool false], x.F, Ao 103 5 encRO x.wv x.W]) rfl rfl (Gq 3 0 (v := zv) #[.int .i64 d.room, x.sv, zv, x.wv, .bool fu, .int .i64 x.fz, .bool false] Aw.2 rfl (fun _ h => Qp.c1 h) rfl rfl rfl rfl rfl rfl rfl) ?_; rintro ⟨⟩
  refine AP (AG (Aq ?_))
  refine EL 2 rfl ?_
  refine BM 12 4 [⟨.quiet, [none, none, none, none], fun _ => .pointer (some ⟨p, 0, none⟩), []⟩, ⟨.act 0, [some false, some false, none, some false], fun _ => undef, []⟩, ⟨.quiet, [none, none, none, none], fun _ => .pointer (some ⟨p, 0, none⟩), []⟩, ⟨.quiet, [none, none, none, none], fun _ => .pointer (some ⟨p, 0, none⟩), [2]⟩, ⟨.quiet, [none, none, none, none], fun _ => .pointer (some ⟨p, 3, none⟩), [3]⟩, ⟨.quiet, [none, none, none, none], fun _ => x.wv, [4]⟩, ⟨.act 1, [some true, some false, none, some false], fun _ => undef, [1, 5]⟩, ⟨.quiet, [none, none, none, none], fun _ => .agg #[.int .i64 y.o.kind, .string (bs y.o.name), .string (bs y.o.to), y.v, .int .i64 (y.o.cutS : Int)], []⟩, ⟨.act 2, [none, none, some false, some false], fun _ => undef, [7]⟩, ⟨.act 3, [some true, some true, some true, some false], fun _ => undef, [6, 8]⟩, ⟨.quiet, [some true, some true, some true, some true], fun _ => .pointer (some ⟨p, 0, none⟩), [0]⟩, ⟨.quiet, [some true, some true, some true, some true], fun _ => .pointer (some ⟨p, 3, none⟩), [10]⟩] [(0, .pointer (some ⟨p, 0, none⟩)), (3, .pointer (some ⟨g3, 0, none⟩)), (4, .int .i64 0)] (fun ρ => match ρ with | [r0, r1, r2, r3] => [CP r2 (fun ub => Ao 103 5 encRO ub ([y])) (E0), CP r3 (fun u2 => Ao 103 5 encRO u2 (x.W ++ [y])) (CP r1 (fun u1 => Ao 103 5 encRO u1 x.W) (CP r0 (fun u0 => Ao 103 5 encRO u0 ([])) (E0))), Qp x.nl y.o zv, cell g3 103 #[.int .i64 y.o.kind, .string (bs y.o.name), .string (bs y.o.to), y.v, .int .i64 (y.o.cutS : Int)], Cv [x.Y, K], cell p 59 #[.int .i64 d.room, x.sv, zv, x.wv, .bool fu, .int .i64 x.fz, .bool false], x.F, Ao 103 5 encRO x.wv x.W] | _ => []) (by kernel_rfl) (by kernel_rfl) ⟨rfl, rfl, rfl, trivial⟩ rfl ?_ ?_
  · skip
    refine Aa (by intro r0_ r1_ r2_ r3_; exact ⟨rfl, fun b w hH hb => Ae Ag rfl hb⟩) ?_
    refine Aa (by intro r2_; exact ⟨rfl, Br.s (Br.place (val := fun u0 : Value => u0) (t := fun u0 => Ao 103 5 encRO u0 ([])) (os' := fun u0 => [CP r2_ (fun ub => Ao 103 5 encRO ub ([y])) (E0), Ao 103 5 encRO u0 ([]), Qp x.nl y.o zv, cell g3 103 #[.int .i64 y.o.kind, .string (bs y.o.name), .string (bs y.o.to), y.v, .int .i64 (y.o.cutS : Int)], Cv [x.Y, K], cell p 59 #[.int .i64 d.room, x.sv, zv, x.wv, .bool fu, .int .i64 x.fz, .bool false], x.F, Ao 103 5 encRO x.wv x.W]) 1 rfl (by refine D7 (e := 103) (t := 57) (k := 5) (enc := encRO) ?_ ?_; exact DC; exact rfl) (fun _ => rfl)) (fun _ => rfl)⟩) ?_
    refine Aa (by intro r0_ r1_ r2_ r3_; exact ⟨rfl, fun b w hH hb => Ae Ag rfl hb⟩) ?_
    refine Aa (by intro r0_ r1_ r2_ r3_; exact ⟨rfl, fun b w hH hb => by exact BO rfl rfl hb⟩) ?_
    refine Aa (by intro r0_ r1_ r2_ r3_; exact ⟨rfl, fun b w hH hb => Ae Ag rfl hb⟩) ?_
    refine Aa (by intro r0_ r1_ r2_ r3_; exact ⟨rfl, fun b w hH hb => Bg rfl rfl (Bt Ck rfl) (hH.row 5 rfl) hb⟩) ?_
    refine Aa (by intro u0 r2_; exact ⟨rfl, Br.s (FG (nb := 72) 1 DC Tn (by kernel_rfl) (by decide) rfl (x.W) (fun w hH => hH.vec 7 rfl Tn) (by simp only [List.length_nil]; omega) rfl rfl rfl (List.nil_append _)) (fun _ => rfl)⟩) ?_
    refine Aa (by intro r0_ r1_ r2_ r3_; exact ⟨rfl, fun b w hH hb => Bg rfl rfl (EH (cs := [.int .i64 y.o.kind, .string (bs y.o.name), .string (bs y.o.to), y.v, .int .i64 (y.o.cutS : Int)]) FM rfl) (hH.row 3 rfl) hb⟩) ?_
    refine Aa (by intro r0_ r1_; exact ⟨rfl, Br.s (Br.place (val := fun ub : Value => ub) (t := fun ub => Ao 103 5 encRO ub ([y])) (os' := fun ub => [Ao 103 5 encRO ub ([y]), CP r1_ (fun u1 => Ao 103 5 encRO u1 x.W) (CP r0_ (fun u0 => Ao 103 5 encRO u0 ([])) (E0)), Qp x.nl y.o zv, cell g3 103 #[.int .i64 y.o.kind, .string (bs y.o.name), .string (bs y.o.to), y.v, .int .i64 (y.o.cutS : Int)], Cv [x.Y, K], cell p 59 #[.int .i64 d.room, x.sv, zv, x.wv, .bool fu, .int .i64 x.fz, .bool false], x.F, Ao 103 5 encRO x.wv x.W]) 0 rfl (by refine Ec (e := 103) (t := 57) (k := 5) (enc := encRO) (x := .tmp 21) (c := .agg #[.int .i64 y.o.kind, .string (bs y.o.name), .string (bs y.o.to), y.v, .int .i64 (y.o.cutS : Int)]) ?_ ?_ ?_ y ?_ ?_ ?_; exact DC; exact (by decide); exact Tn; exact rfl; exact rfl; exact rfl) (fun _ => rfl)) (fun _ => rfl)⟩) ?_
    refine Aa (by intro u0 u1 ub; exact ⟨rfl, Br.s (FG (nb := 72) 1 DC Tn (by kernel_rfl) (by decide) rfl ([y]) (fun w hH => hH.vec 0 rfl Tn) (by simp only [List.length_cons, List.length_nil]; omega) rfl rfl rfl rfl) (fun _ => rfl)⟩) ?_
    refine Aa (by intro u0 u1 ub u2; exact ⟨rfl, fun b w hH hb => by exact BO rfl rfl hb⟩) ?_
    refine Aa (by intro u0 u1 ub u2; exact ⟨rfl, fun b w hH hb => Ae Ag rfl hb⟩) ?_
    exact B7
  intro u0 u1 ub u2
  refine Ch.keep (env' := [(4, .int .i64 0), (23, u2), (25, .pointer (some ⟨p, 3, none⟩))]) ⟨rfl, rfl, rfl, trivial⟩ ?_
  refine Af Ag rfl ?_
  refine AT (post := fun _ => [Ao 103 5 encRO ub ([y]), Ao 103 5 encRO u2 (x.W ++ [y]), Qp x.nl y.o zv, cell g3 103 #[.int .i64 y.o.kind, .string (bs y.o.name), .string (bs y.o.to), y.v, .int .i64 (y.o.cutS : Int)], Cv [x.Y, K], cell p 59 #[.int .i64 d.room, x.sv, zv, u2, .bool fu, .int .i64 x.fz, .bool false], x.F, Ao 103 5 encRO x.wv x.W]) rfl rfl (Gq 5 1 (v := u2) #[.int .i64 d.room, x.sv, zv, u2, .bool fu, .int .i64 x.fz, .bool false] Ck.2 rfl (fun _ h => Ao.c1 h) rfl rfl rfl rfl rfl rfl rfl) ?_; rintro ⟨⟩
  refine AP (AG ?_)
  refine AY 2 rfl Qp.open_ (fun _ => rfl) ?_; rintro z
  refine Bo.fact 2 rfl (fun _ h => h.2) ?_; rintro hz
  refine Bo.leave [2] rfl rfl ?_
  refine Bf [6, 7, 1, 5, 0, 3] rfl (Tr x (wv' := u2) rfl hz ho hfew hK hyc hfu hdn) rfl ?_
  refine Ad ?_
  refine Af Ag rfl ?_
  refine Ab (Az ?_)
  exact Ay (.tmp rfl) (fun w h => AB () rfl [0] rfl h Cz) rfl
end Go.Proofs.YtnknboibmifacaaGreat.Sep
