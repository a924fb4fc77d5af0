/-
  HdM · TyU · HdA · Beh
-/
import Derived.Test.YtnknboibmifacaaAB02
import Derived.Test.YtnknboibmifacaaAB03
import Derived.Test.YtnknboibmifacaaAE01
import Derived.Test.YtnknboibmifacaaAE02
import Derived.Test.YtnknboibmifacaaAH01
import Derived.Test.YtnknboibmifacaaAI01
import Derived.OrdersIn
set_option linter.unusedSimpArgs false
set_option linter.unusedVariables false

namespace Go.Proofs.Ytnknboibmifacaa.Sep

/-! ## A value -/
abbrev HV := Nat × Nat
def hvOk (h : HV) : Prop := h.1 ≤ 72057594037927935 ∧ h.2 ≤ 7
instance (h : HV) : Decidable (hvOk h) := by unfold hvOk; infer_instance
def layH (h : HV) : List UInt8 := vlay h.1 ++ [UInt8.ofNat h.2]
def readH (x : List UInt8) : Option HV :=
  if rend (rbyte 7 (rnum 72057594037927935 x 0).2.1 (rnum 72057594037927935 x 0).2.2).2.1 (rbyte 7 (rnum 72057594037927935 x 0).2.1 (rnum 72057594037927935 x 0).2.2).2.2 = 0 then some ((rnum 72057594037927935 x 0).1, (rbyte 7 (rnum 72057594037927935 x 0).2.1 (rnum 72057594037927935 x 0).2.2).1) else none
theorem readH_of {x l1 l2 : List UInt8} {t f1 v f2 : Nat} (h1 : rnum 72057594037927935 x 0 = (t, l1, f1)) (h2 : rbyte 7 l1 f1 = (v, l2, f2)) : readH x = if rend l2 f2 = 0 then some (t, v) else none := by
  unfold readH
  rw [h1]
  simp only
  rw [h2]
theorem layH_len {h : HV} (hk : hvOk h) : (layH h).length ≤ 9 := by
  have := vlay_length_pow 7 h.1 (by have := hk.1; omega)
  unfold layH
  rw [List.length_append]
  simp only [List.length_cons, List.length_nil]
  omega
theorem readH_lay {h : HV} (hk : hvOk h) : readH (layH h) = some h := by
  have h1 := rnum_lay 72057594037927935 h.1 [UInt8.ofNat h.2] hk.1 (by have := hk.1; omega)
  have h2 := (good_byte 7).lay h.2 [] ⟨hk.2, by have := hk.2; omega⟩
  rw [List.append_nil] at h2
  rw [layH, readH_of h1 h2]
  rfl
/-- what the frames hold, up to the first that holds none -/
def hdP : List (List UInt8) → List HV
  | [] => []
  | p :: ps => match readH p with | some h => h :: hdP ps | none => []
theorem hdP_cons {p : List UInt8} {h : HV} (e : readH p = some h) (ps : List (List UInt8)) : hdP (p :: ps) = h :: hdP ps := by
  show (match readH p with | some h => h :: hdP ps | none => []) = _
  rw [e]
theorem hdP_none {p : List UInt8} (e : readH p = none) (ps : List (List UInt8)) : hdP (p :: ps) = [] := by
  show (match readH p with | some h => h :: hdP ps | none => []) = _
  rw [e]
theorem hdP_len : ∀ (ps : List (List UInt8)), (hdP ps).length ≤ ps.length
  | [] => Nat.le_refl _
  | p :: ps => by
    cases e : readH p with
    | none => rw [hdP_none e]; simp
    | some h => rw [hdP_cons e]; simpa using hdP_len ps
theorem hdP_at : ∀ {ps : List (List UInt8)} {j : Nat} {h : HV}, (hdP ps)[j]? = some h → ∃ p, ps[j]? = some p ∧ readH p = some h
  | [], j, _, h => by simp [hdP] at h
  | p :: ps, j, h, e => by
    cases e1 : readH p with
    | none => rw [hdP_none e1] at e; simp at e
    | some h1 =>
      rw [hdP_cons e1] at e
      cases j with
      | zero => obtain rfl := Option.some.inj e; exact ⟨p, rfl, e1⟩
      | succ j =>
        obtain ⟨q, h2, h3⟩ := hdP_at (by simpa using e)
        exact ⟨q, by simpa using h2, h3⟩
theorem hdP_stop : ∀ {ps : List (List UInt8)} {p : List UInt8}, ps[(hdP ps).length]? = some p → readH p = none
  | [], _, h => by simp at h
  | q :: ps, p, h => by
    cases e1 : readH q with
    | none => rw [hdP_none e1] at h; obtain rfl := Option.some.inj h; exact e1
    | some h1 =>
      rw [hdP_cons e1] at h
      exact hdP_stop (by simpa using h)
theorem hdP_lay : ∀ {L : List HV}, (∀ h, h ∈ L → hvOk h) → hdP (L.map layH) = L
  | [], _ => rfl
  | h :: L, hk => by
    rw [List.map_cons, hdP_cons (readH_lay (hk h (by simp))), hdP_lay (fun x hx => hk x (by simp [hx]))]
def lastH (L : List HV) : HV := L.getLast?.getD (0, 0)
theorem lastH_push (L : List HV) (h : HV) : lastH (L ++ [h]) = h := by simp [lastH]
theorem lastH_take {L : List HV} {j : Nat} {h : HV} (e : L[j]? = some h) : lastH (L.take (j + 1)) = h := by
  rw [List.take_add_one, e]
  exact lastH_push _ _
/-- the last value at the beginning of a file, and where its frame ends -/
def latB (b : List UInt8) : HV × Nat := (lastH (hdP (listL b).1), sumF ((listL b).1.take (hdP (listL b).1).length))
theorem frames_sumF : ∀ (ps : List (List UInt8)), (∀ x, x ∈ ps → x.length ≤ 65536) → (framesL ps).length = sumF ps
  | [], _ => rfl
  | p :: ps, h => by
    rw [frames_cons, List.length_append, frame_len (h p (by simp)), sumF_cons, frames_sumF ps (fun x hx => h x (by simp [hx]))]
def frH (L : List HV) : List UInt8 := framesL (L.map layH)
theorem frH_short {L : List HV} (h : ∀ x, x ∈ L → hvOk x) : ∀ x, x ∈ L.map layH → x.length ≤ 65536 := fun x hx => by
  obtain ⟨y, hy, rfl⟩ := List.mem_map.1 hx
  have := layH_len (h y hy)
  omega
theorem frH_push (L : List HV) (h : HV) : frH (L ++ [h]) = frH L ++ frameL (layH h) := by
  unfold frH; rw [List.map_append]; exact frames_push _ _
theorem latB_fr {L : List HV} (hk : ∀ h, h ∈ L → hvOk h) {junk : List UInt8} (hj : nextF junk = none) : latB (frH L ++ junk) = (lastH L, (frH L).length) := by
  have h1 := list_frames (L.map layH) (frH_short hk) junk
  rw [listL_none hj] at h1
  have h2 : (listL (frH L ++ junk)).1 = L.map layH := by unfold frH; rw [h1]; simp
  unfold latB
  rw [h2, hdP_lay hk, show (L.map layH).take L.length = L.map layH by rw [List.take_of_length_le (by simp)]]
  unfold frH
  rw [frames_sumF _ (frH_short hk)]
theorem next_nil : nextF [] = none := by unfold nextF; rw [if_neg (by simp)]
theorem fr_len {h : HV} (hk : hvOk h) : (frameL (layH h)).length ≤ 17 := by
  have := layH_len hk
  rw [frame_len (by omega)]; omega
theorem fr_cut {h : HV} (hk : hvOk h) {t : Nat} (ht : t < (frameL (layH h)).length) : nextF ((frameL (layH h)).take t) = none := by
  have := layH_len hk
  rw [frame_len (by omega)] at ht
  exact next_cut (by omega) ht

/-! ## What hard does to a disk -/
def hardN : List UInt8 := [104, 97, 114, 100]
def newN : List UInt8 := [104, 97, 114, 100, 46, 110, 101, 119]
def rmNewD (d : DiskD) : DiskD × Nat := if (readD d newN).isSome = true then delD d newN else (d, 0)
def openHD (d : DiskD) : DiskD × HV × Nat :=
  if (rmNewD d).2 ≠ 0 then ((rmNewD d).1, (0, 0), (rmNewD d).2)
  else if (latB ((readD (rmNewD d).1 hardN).getD [])).2 < ((readD (rmNewD d).1 hardN).getD []).length then
    if (cutD (rmNewD d).1 hardN ((latB ((readD (rmNewD d).1 hardN).getD [])).2 : Int)).2 ≠ 0 then ((cutD (rmNewD d).1 hardN ((latB ((readD (rmNewD d).1 hardN).getD [])).2 : Int)).1, (0, 0), (cutD (rmNewD d).1 hardN ((latB ((readD (rmNewD d).1 hardN).getD [])).2 : Int)).2)
    else ((cutD (rmNewD d).1 hardN ((latB ((readD (rmNewD d).1 hardN).getD [])).2 : Int)).1, (latB ((readD (rmNewD d).1 hardN).getD [])).1, 0)
  else ((rmNewD d).1, (latB ((readD (rmNewD d).1 hardN).getD [])).1, 0)
def beginHD (d : DiskD) (f : List UInt8) : DiskD × Nat :=
  if (rmNewD d).2 ≠ 0 then rmNewD d
  else if (appendD (rmNewD d).1 newN f).2 ≠ 0 then appendD (rmNewD d).1 newN f
  else renD (appendD (rmNewD d).1 newN f).1 newN hardN
def saveHD (d : DiskD) (h : HV) : DiskD × Nat :=
  if ((readD d hardN).getD []).length < 256 then appendD d hardN (frameL (layH h)) else beginHD d (frameL (layH h))

/-! ## Sizes -/
def DiskD.fitK (k : Nat) (d : DiskD) : Prop := usedF d.syn + (d.wait.map OpD.size).sum + 65536 * k ≤ 1099511627776 ∧ d.wait.length + k ≤ 10000
theorem DiskD.fitK.fit {k : Nat} {d : DiskD} (h : d.fitK k) : d.fit := ⟨by have := h.1; omega, by have := h.2; omega⟩
theorem DiskD.fitK.less {k : Nat} {d : DiskD} (h : d.fitK (k + 1)) : d.fitK k := ⟨by have := h.1; omega, by have := h.2; omega⟩
theorem fitK_does {k : Nat} {d : DiskD} {o : OpD} (h : d.fitK (k + 1)) (ho : o.size ≤ 65536) : (doesD d o).fitK k := by
  obtain ⟨h1, h2⟩ := h
  refine ⟨?_, ?_⟩
  · show usedF d.syn + ((d.wait ++ [o]).map OpD.size).sum + _ ≤ _
    rw [List.map_append, List.sum_append]
    simp only [List.map_cons, List.map_nil, List.sum_cons, List.sum_nil]
    omega
  · show (d.wait ++ [o]).length + k ≤ _
    rw [List.length_append]; simp only [List.length_cons, List.length_nil]; omega
theorem fitK_begin {k : Nat} {d : DiskD} (h : d.fitK k) : (beginD d).1.fitK k := by
  unfold beginD
  split
  · exact h
  · exact h
theorem fitK_append {k : Nat} {d : DiskD} {n b : List UInt8} (h : d.fitK (k + 1)) (hb : b.length ≤ 65536) : (appendD d n b).1.fitK k := by
  have h1 := fitK_begin h
  unfold appendD
  cases e : beginD d with
  | mk d1 e1 =>
    rw [e] at h1
    simp only
    split
    · exact h1.less
    · split
      · exact h1.less
      · split
        · exact h1.less
        · exact fitK_does h1 hb
theorem fitK_del {k : Nat} {d : DiskD} {n : List UInt8} (h : d.fitK (k + 1)) : (delD d n).1.fitK k := by
  have h1 := fitK_begin h
  unfold delD
  cases e : beginD d with
  | mk d1 e1 =>
    rw [e] at h1
    simp only
    split
    · exact h1.less
    · split
      · exact h1.less
      · exact fitK_does h1 (Nat.zero_le _)
theorem fitK_ren {k : Nat} {d : DiskD} {a b : List UInt8} (h : d.fitK (k + 1)) : (renD d a b).1.fitK k := by
  have h1 := fitK_begin h
  unfold renD
  cases e : beginD d with
  | mk d1 e1 =>
    rw [e] at h1
    simp only
    split
    · exact h1.less
    · split
      · exact h1.less
      · split
        · exact h1.less
        · exact fitK_does h1 (Nat.zero_le _)
theorem fitK_rm {k : Nat} {d : DiskD} (h : d.fitK (k + 1)) : (rmNewD d).1.fitK k := by
  unfold rmNewD
  split
  · exact fitK_del h
  · exact h.less

/-! ## The files of hard -/
structure HFile (f : FS) (V : HV → Prop) : Prop where
  nd : (keysM f).Nodup
  ks : ∀ k, k ∈ keysM f → k = hardN ∨ k = newN
  has : ∃ L junk, (∀ h, h ∈ L → hvOk h) ∧ (getM f hardN).getD [] = frH L ++ junk ∧ nextF junk = none ∧ V (lastH L)
  lh : ((getM f hardN).getD []).length ≤ 400
  ln : ((getM f newN).getD []).length ≤ 100
theorem HFile.imp {f : FS} {V V' : HV → Prop} (h : HFile f V) (hv : ∀ x, V x → V' x) : HFile f V' := by
  obtain ⟨L, j, h1, h2, h3, h4⟩ := h.has
  exact ⟨h.nd, h.ks, ⟨L, j, h1, h2, h3, hv _ h4⟩, h.lh, h.ln⟩
theorem used_two {f : FS} {a b : List UInt8} (hn : (keysM f).Nodup) (hk : ∀ k, k ∈ keysM f → k = a ∨ k = b) : usedF f ≤ ((getM f a).getD []).length + ((getM f b).getD []).length := by
  have step : ∀ (g : FS) (k : List UInt8), (keysM g).Nodup → usedF g = usedF (delM g k) + ((getM g k).getD []).length := fun g k hg => by
    cases e : getM g k with
    | none => rw [del_none e]; rfl
    | some x => exact (used_del hg e).symm
  have h1 := step f a hn
  have h2 := step (delM f a) b (nodup_del hn)
  have h3 : delM (delM f a) b = [] := by
    cases e : delM (delM f a) b with
    | nil => rfl
    | cons p r =>
      have hp : p ∈ delM (delM f a) b := by rw [e]; simp
      obtain ⟨h4, h5⟩ := (mem_del (nodup_del hn) p).1 hp
      obtain ⟨h6, h7⟩ := (mem_del hn p).1 h4
      rcases hk p.1 (List.mem_map.2 ⟨p, h6, rfl⟩) with h | h
      · exact absurd h h7
      · exact absurd h h5
  have h4 : ((getM (delM f a) b).getD []).length ≤ ((getM f b).getD []).length := by
    rw [getM_del hn]
    split
    · simp
    · exact Nat.le_refl _
  rw [h3] at h2
  have h5 : usedF ([] : FS) = 0 := rfl
  omega
theorem HFile.used {f : FS} {V : HV → Prop} (h : HFile f V) : usedF f ≤ 500 := by
  have h1 := used_two h.nd h.ks
  have h2 := h.lh
  have h3 := h.ln
  omega
theorem hard_ne : hardN ≠ newN := by decide
theorem hd_begin {d : DiskD} (h1 : d.down = false) (h2 : d.fuse = none) : beginD d = (d, 0) := by
  unfold beginD
  rw [if_neg (by simp [h1, h2]), h2]
  obtain ⟨a, b, c, e, f⟩ := d
  subst h2
  rfl
/-- what is opened behind a crash -/
theorem open_left {room : Int} {f : FS} {V : HV → Prop} (h : HFile f V) : ∃ d' x, openHD ⟨room, f, [], none, false⟩ = (d', x, 0) ∧ V x := by
  obtain ⟨L, junk, hL, hc, hj, hV⟩ := h.has
  obtain ⟨d, hd⟩ : ∃ d : DiskD, d = ⟨room, f, [], none, false⟩ := ⟨_, rfl⟩
  have hnow : d.now = f := by rw [hd]; rfl
  have hup : d.down = false := by rw [hd]
  have hfz : d.fuse = none := by rw [hd]
  have key : ∃ d1, rmNewD d = (d1, 0) ∧ d1.down = false ∧ d1.fuse = none ∧ getM d1.now hardN = getM f hardN := by
    unfold rmNewD
    split
    · rename_i hs
      unfold readD at hs
      rw [hup, if_neg (by simp), hnow] at hs
      obtain ⟨x, hx⟩ := Option.isSome_iff_exists.1 hs
      refine ⟨doesD d (.del newN), ?_, hup, hfz, ?_⟩
      · unfold delD
        rw [hd_begin hup hfz]
        simp only
        rw [if_neg (by simp), hnow, hx]
      · rw [now_does, hnow]
        show getM (delM f newN) hardN = _
        rw [getM_del h.nd, if_neg hard_ne]
    · exact ⟨d, rfl, hup, hfz, by rw [hnow]⟩
  obtain ⟨d1, e1, u1, z1, g1⟩ := key
  have hr : (readD d1 hardN).getD [] = frH L ++ junk := by
    unfold readD
    rw [u1, if_neg (by simp), g1, hc]
  rw [← hd]
  unfold openHD
  rw [e1]
  simp only
  rw [if_neg (by simp), hr, latB_fr hL hj]
  simp only
  split
  · rename_i hlt
    have hgs : getM d1.now hardN = some (frH L ++ junk) := by
      rw [g1]
      cases e : getM f hardN with
      | none =>
        rw [e] at hc
        simp only [Option.getD_none] at hc
        rw [← hc] at hlt
        simp at hlt
      | some x => rw [e] at hc; simp only [Option.getD_some] at hc; rw [hc]
    have hcut : cutD d1 hardN (((frH L).length : Nat) : Int) = (doesD d1 (.cut hardN (frH L).length), 0) := by
      unfold cutD
      rw [hd_begin u1 z1]
      simp only
      rw [if_neg (by simp), hgs]
      simp only
      rw [if_neg (by omega)]
      simp
    rw [hcut]
    simp only
    rw [if_neg (by simp)]
    exact ⟨_, _, rfl, hV⟩
  · exact ⟨_, _, rfl, hV⟩

/-! ## Saving, synced now and then -/
/-- the disk shows the values L, one behind the other, and nothing else -/
structure HS (d : DiskD) (L : List HV) : Prop where
  up : d.down = false
  fz : d.fuse = none
  rm : d.room = 1048576
  nd : (keysM d.syn).Nodup
  ks : ∀ k, k ∈ keysM d.now → k = hardN
  at_ : (getM d.now hardN).getD [] = frH L
  ok : ∀ h, h ∈ L → hvOk h
  le : (frH L).length ≤ 300
theorem HS.nnd {d : DiskD} {L : List HV} (h : HS d L) : (keysM d.now).Nodup := nodup_all d.wait h.nd
theorem HS.none_ {d : DiskD} {L : List HV} (h : HS d L) : getM d.now newN = none := getM_none.2 fun hm => hard_ne (h.ks _ hm).symm
theorem HS.file {d : DiskD} {L : List HV} (h : HS d L) {V : HV → Prop} (hV : V (lastH L)) : HFile d.now V :=
  ⟨h.nnd, fun k hk => .inl (h.ks k hk), ⟨L, [], h.ok, by rw [h.at_]; simp, next_nil, hV⟩, by have := h.le; rw [h.at_]; omega, by rw [h.none_]; simp⟩
theorem HS.used {d : DiskD} {L : List HV} (h : HS d L) : usedF d.now ≤ 500 := (h.file (V := fun _ => True) trivial).used
theorem HS.few {d : DiskD} {L : List HV} (h : HS d L) : d.now.length ≤ 1 := by
  have h1 := h.nnd
  have h2 := h.ks
  cases e : d.now with
  | nil => simp
  | cons p r =>
    cases r with
    | nil => simp
    | cons q r =>
      rw [e] at h1 h2
      have a1 := h2 p.1 (by simp [keysM])
      have a2 := h2 q.1 (by simp [keysM])
      simp only [keysM, List.map_cons, List.nodup_cons, List.mem_cons] at h1
      exact absurd (.inl (a1.trans a2.symm)) h1.1
theorem keys_put {f : FS} {n x : List UInt8} (hf : (keysM f).Nodup) {k : List UInt8} (h : k ∈ keysM (putM f n x)) : k = n ∨ k ∈ keysM f := by
  obtain ⟨p, hp, rfl⟩ := List.mem_map.1 h
  rcases (mem_put hf p).1 hp with rfl | ⟨h1, _⟩
  · exact .inl rfl
  · exact .inr (List.mem_map.2 ⟨p, h1, rfl⟩)
theorem keys_del {f : FS} {n : List UInt8} (hf : (keysM f).Nodup) {k : List UInt8} (h : k ∈ keysM (delM f n)) : k ∈ keysM f ∧ k ≠ n := by
  obtain ⟨p, hp, rfl⟩ := List.mem_map.1 h
  obtain ⟨h1, h2⟩ := (mem_del hf p).1 hp
  exact ⟨List.mem_map.2 ⟨p, h1, rfl⟩, h2⟩
/-- what a crash may leave that keeps k operations -/
def CRk (d : DiskD) (V : HV → Prop) (k : Nat) : Prop := HFile ((d.wait.take k).foldl doneF d.syn) V ∧ ∀ n b, d.wait[k]? = some (.app n b) → ∀ t, t < b.length → HFile (doneF ((d.wait.take k).foldl doneF d.syn) (.app n (b.take t))) V
def CR (d : DiskD) (V : HV → Prop) : Prop := ∀ k, k ≤ d.wait.length → CRk d V k
theorem CR.imp {d : DiskD} {V V' : HV → Prop} (h : CR d V) (hv : ∀ x, V x → V' x) : CR d V' := fun k hk => ⟨(h k hk).1.imp hv, fun n b e t ht => ((h k hk).2 n b e t ht).imp hv⟩
theorem CRk.left {d : DiskD} {V : HV → Prop} {keep : Int} (h : CRk d V (keepD d keep)) (torn : Int) : HFile (leftF d keep torn) V := by
  obtain ⟨h1, h2⟩ := h
  unfold leftF
  split
  · rename_i n b e
    split
    · exact h1
    · rename_i hn
      refine h2 n b e _ ?_
      have hb : b ≠ [] := fun e => hn (.inr e)
      have hpos : 0 < (b.length : Int) := by
        have : b.length ≠ 0 := fun e => hb (List.eq_nil_of_length_eq_zero e)
        omega
      have := Int.emod_lt_of_pos torn hpos
      have := Int.emod_nonneg torn (show (b.length : Int) ≠ 0 by omega)
      omega
  · exact h1
theorem CRk.crash {d : DiskD} {V : HV → Prop} {keep : Int} (h : CRk d V (keepD d keep)) (torn : Int) : (crashD d keep torn).fitK 9 ∧ ∃ d' x, openHD (crashD d keep torn) = (d', x, 0) ∧ V x := by
  have h1 := h.left torn
  refine ⟨⟨?_, ?_⟩, open_left h1⟩
  · show usedF (leftF d keep torn) + (([] : List OpD).map OpD.size).sum + 65536 * 9 ≤ _
    have := h1.used
    simp only [List.map_nil, List.sum_nil]
    omega
  · show ([] : List OpD).length + 9 ≤ _
    simp
theorem CR.crash {d : DiskD} {V : HV → Prop} (h : CR d V) (keep torn : Int) : (crashD d keep torn).fitK 9 ∧ ∃ d' x, openHD (crashD d keep torn) = (d', x, 0) ∧ V x := (h (keepD d keep) (keepD_le d keep)).crash torn
theorem CRk.old {d : DiskD} {V : HV → Prop} {o : OpD} {k : Nat} (h : CRk d V k) (hlt : k < d.wait.length) : CRk (doesD d o) V k := by
  show HFile (((d.wait ++ [o]).take k).foldl doneF d.syn) V ∧ ∀ n b, (d.wait ++ [o])[k]? = some (.app n b) → ∀ t, t < b.length → HFile (doneF (((d.wait ++ [o]).take k).foldl doneF d.syn) (.app n (b.take t))) V
  rw [List.take_append_of_le_length (by omega), List.getElem?_append_left hlt]
  exact h
theorem crk_at {d : DiskD} {V : HV → Prop} {o : OpD} (h1 : HFile d.now V) (h2 : ∀ n b, o = .app n b → ∀ t, t < b.length → HFile (doneF d.now (.app n (b.take t))) V) : CRk (doesD d o) V d.wait.length := by
  show HFile (((d.wait ++ [o]).take d.wait.length).foldl doneF d.syn) V ∧ ∀ n b, (d.wait ++ [o])[d.wait.length]? = some (.app n b) → ∀ t, t < b.length → HFile (doneF (((d.wait ++ [o]).take d.wait.length).foldl doneF d.syn) (.app n (b.take t))) V
  rw [List.take_append_of_le_length (Nat.le_refl _), List.take_length]
  refine ⟨h1, fun n b e t ht => ?_⟩
  rw [List.getElem?_append_right (Nat.le_refl _), Nat.sub_self] at e
  obtain rfl := Option.some.inj e
  exact h2 n b rfl t ht
/-- one more operation, of which nothing, all, or a part may be left -/
theorem CR.push {d : DiskD} {V : HV → Prop} {o : OpD} (h : CR d V) (h1 : HFile (doneF d.now o) V) (h2 : ∀ n b, o = .app n b → ∀ t, t < b.length → HFile (doneF d.now (.app n (b.take t))) V) : CR (doesD d o) V := by
  intro k hk
  change k ≤ (d.wait ++ [o]).length at hk
  rw [List.length_append] at hk
  simp only [List.length_cons, List.length_nil] at hk
  rcases Nat.lt_or_ge k d.wait.length with hlt | hge
  · exact (h k (by omega)).old hlt
  · rcases Nat.lt_or_ge d.wait.length k with hlt | hle
    · obtain rfl : k = d.wait.length + 1 := by omega
      show HFile (((d.wait ++ [o]).take (d.wait.length + 1)).foldl doneF d.syn) V ∧ ∀ n b, (d.wait ++ [o])[d.wait.length + 1]? = some (.app n b) → ∀ t, t < b.length → HFile (doneF (((d.wait ++ [o]).take (d.wait.length + 1)).foldl doneF d.syn) (.app n (b.take t))) V
      rw [List.take_of_length_le (by simp), List.foldl_append]
      refine ⟨h1, fun n b e => ?_⟩
      rw [List.getElem?_eq_none (by simp)] at e
      cases e
    · obtain rfl : k = d.wait.length := by omega
      refine crk_at ?_ h2
      have := (h d.wait.length (Nat.le_refl _)).1
      rwa [List.take_length] at this
theorem hs_new {room : Int} (hr : room = 1048576) : HS (newD room) [] := ⟨rfl, rfl, hr, List.nodup_nil, fun k hk => (by cases hk), rfl, fun h hm => (by cases hm), by decide⟩
theorem cr_new {room : Int} {V : HV → Prop} (hV : V (0, 0)) : CR (newD room) V := fun k hk => by
  obtain rfl : k = 0 := Nat.le_zero.1 hk
  exact ⟨⟨List.nodup_nil, fun k hk => (by cases hk), ⟨[], [], fun h hm => (by cases hm), rfl, next_nil, hV⟩, Nat.zero_le _, Nat.zero_le _⟩, fun n b e => (by cases e)⟩
theorem hs_sync {d : DiskD} {L : List HV} (h : HS d L) {V : HV → Prop} (hV : V (lastH L)) : ∃ d', syncD d = (d', 0) ∧ HS d' L ∧ CR d' V ∧ d'.wait = [] := by
  refine ⟨{ d with syn := d.now, wait := [] }, ?_, ⟨h.up, h.fz, h.rm, h.nnd, h.ks, h.at_, h.ok, h.le⟩, fun k hk => ?_, rfl⟩
  · unfold syncD
    rw [hd_begin h.up h.fz]
    simp only
    rw [if_neg (by simp)]
  · obtain rfl : k = 0 := Nat.le_zero.1 hk
    exact ⟨h.file hV, fun n b e => (by cases e)⟩
theorem hs_open {d : DiskD} {L : List HV} (h : HS d L) : openHD d = (d, lastH L, 0) := by
  have hrm : rmNewD d = (d, 0) := by
    unfold rmNewD readD
    rw [if_neg]
    rw [h.up, if_neg (by simp), h.none_]
    simp
  have hr : (readD d hardN).getD [] = frH L := by
    unfold readD
    rw [h.up, if_neg (by simp), h.at_]
  have hl := latB_fr h.ok next_nil
  rw [List.append_nil] at hl
  unfold openHD
  rw [hrm]
  simp only
  rw [if_neg (by simp), hr, hl, if_neg (by simp)]
theorem hard_name : nameB hardN = true := by decide
theorem new_name : nameB newN = true := by decide
theorem up_fits {d : DiskD} {n b : List UInt8} (hr : d.room = 1048576) (hu : usedF d.now ≤ 600) (hl : d.now.length ≤ 2) (hb : b.length ≤ 17) : fitsD d n b = true := by
  unfold fitsD
  rw [Bool.and_eq_true, decide_eq_true_eq]
  refine ⟨by rw [hr]; omega, ?_⟩
  rw [Bool.not_eq_true', Bool.and_eq_false_iff]
  right
  rw [decide_eq_false_iff_not]
  omega
theorem up_append {d : DiskD} {n b : List UInt8} (h1 : d.down = false) (h2 : d.fuse = none) (hn : nameB n = true) (hf : fitsD d n b = true) : appendD d n b = (doesD d (.app n b), 0) := by
  unfold appendD
  rw [hd_begin h1 h2]
  simp only
  rw [if_neg (by simp), hn, if_neg (by simp), hf, if_neg (by simp)]
theorem HS.save {d : DiskD} {L : List HV} {V : HV → Prop} (hs : HS d L) (hc : CR d V) (hL : V (lastH L)) {x : HV} (hx : hvOk x) (hV : V x) : ∃ d' L', saveHD d x = (d', 0) ∧ HS d' L' ∧ CR d' V ∧ lastH L' = x ∧ d'.wait.length ≤ d.wait.length + 2 ∧ ∀ V0 : HV → Prop, V0 (lastH L) → CRk d' V0 d.wait.length := by
  have hf := fr_len hx
  have hr : (readD d hardN).getD [] = frH L := by
    unfold readD
    rw [hs.up, if_neg (by simp), hs.at_]
  have hfew := hs.few
  have hused := hs.used
  unfold saveHD
  rw [hr]
  split
  · rename_i hlt
    rw [up_append hs.up hs.fz hard_name (up_fits hs.rm (by omega) (by omega) hf)]
    have happ : ∀ b, doneF d.now (.app hardN b) = putM d.now hardN (frH L ++ b) := fun b => by
      show putM d.now hardN ((getM d.now hardN).getD [] ++ b) = _
      rw [hs.at_]
    have hput : ∀ (V : HV → Prop) b, b.length ≤ 17 → ∀ L1 j, (∀ h, h ∈ L1 → hvOk h) → frH L ++ b = frH L1 ++ j → nextF j = none → V (lastH L1) → HFile (doneF d.now (.app hardN b)) V := fun V b hb L1 j h1 h2 h3 h4 => by
      rw [happ]
      refine ⟨nodup_put hs.nnd, fun k hk => ?_, ⟨L1, j, h1, ?_, h3, h4⟩, ?_, ?_⟩
      · rcases keys_put hs.nnd hk with h | h
        · exact .inl h
        · exact .inl (hs.ks k h)
      · rw [getM_put hs.nnd, if_pos rfl]; exact h2
      · rw [getM_put hs.nnd, if_pos rfl]
        simp only [Option.getD_some, List.length_append]
        omega
      · rw [getM_put hs.nnd, if_neg (fun e => hard_ne e.symm), hs.none_]
        simp
    have hok : ∀ h, h ∈ L ++ [x] → hvOk h := fun h hm => by
      rcases List.mem_append.1 hm with h1 | h1
      · exact hs.ok h h1
      · rw [List.mem_singleton.1 h1]; exact hx
    refine ⟨_, L ++ [x], rfl, ⟨hs.up, hs.fz, hs.rm, hs.nd, fun k hk => ?_, ?_, hok, ?_⟩, hc.push ?_ ?_, lastH_push _ _, ?_, fun V0 h0 => crk_at (hs.file h0) ?_⟩
    · rw [now_does, happ] at hk
      rcases keys_put hs.nnd hk with h | h
      · exact h
      · exact hs.ks k h
    · rw [now_does, happ, getM_put hs.nnd, if_pos rfl, frH_push]; rfl
    · rw [frH_push, List.length_append]; omega
    · exact hput V _ hf (L ++ [x]) [] hok (by rw [frH_push]; simp) next_nil (by rw [lastH_push]; exact hV)
    · rintro n b e t ht
      cases e
      exact hput V _ (by rw [List.length_take]; omega) L _ hs.ok rfl (fr_cut hx ht) hL
    · show (d.wait ++ [_]).length ≤ _
      simp
    · rintro n b e t ht
      cases e
      exact hput V0 _ (by rw [List.length_take]; omega) L _ hs.ok rfl (fr_cut hx ht) h0
  · rename_i hge
    have hrm : rmNewD d = (d, 0) := by
      unfold rmNewD readD
      rw [if_neg]
      rw [hs.up, if_neg (by simp), hs.none_]
      simp
    unfold beginHD
    rw [hrm]
    simp only
    rw [if_neg (by simp), up_append hs.up hs.fz new_name (up_fits hs.rm (by omega) (by omega) hf)]
    simp only
    rw [if_neg (by simp)]
    obtain ⟨d1, hd1⟩ : ∃ d1, doesD d (.app newN (frameL (layH x))) = d1 := ⟨_, rfl⟩
    have happ : ∀ b, doneF d.now (.app newN b) = putM d.now newN b := fun b => by
      show putM d.now newN ((getM d.now newN).getD [] ++ b) = _
      rw [hs.none_]; rfl
    have hn1 : d1.now = putM d.now newN (frameL (layH x)) := by rw [← hd1, now_does, happ]
    have hg1 : getM d1.now newN = some (frameL (layH x)) := by rw [hn1, getM_put hs.nnd, if_pos rfl]
    have hu1 : d1.down = false := by rw [← hd1]; exact hs.up
    have hz1 : d1.fuse = none := by rw [← hd1]; exact hs.fz
    have hnd1 : (keysM d1.now).Nodup := by rw [hn1]; exact nodup_put hs.nnd
    have hren : renD d1 newN hardN = (doesD d1 (.ren newN hardN), 0) := by
      unfold renD
      rw [hd_begin hu1 hz1]
      simp only
      rw [if_neg (by simp), hard_name, if_neg (by simp), hg1]
    have hdone : doneF d1.now (.ren newN hardN) = putM (delM d1.now newN) hardN (frameL (layH x)) := by
      show (match getM d1.now newN with | some y => putM (delM d1.now newN) hardN y | none => d1.now) = _
      rw [hg1]
    have hfile : ∀ (V : HV → Prop), V (lastH L) → ∀ b, b.length ≤ 17 → HFile (doneF d.now (.app newN b)) V := fun V hL b hb => by
      rw [happ]
      refine ⟨nodup_put hs.nnd, fun k hk => ?_, ⟨L, [], hs.ok, ?_, next_nil, hL⟩, ?_, ?_⟩
      · rcases keys_put hs.nnd hk with h | h
        · exact .inr h
        · exact .inl (hs.ks k h)
      · rw [getM_put hs.nnd, if_neg hard_ne, hs.at_]; simp
      · rw [getM_put hs.nnd, if_neg hard_ne, hs.at_]; have := hs.le; omega
      · rw [getM_put hs.nnd, if_pos rfl]
        simp only [Option.getD_some]
        omega
    have hfr : frH [x] = frameL (layH x) := by simp [frH, framesL]
    have hkeys : ∀ k, k ∈ keysM (doneF d1.now (.ren newN hardN)) → k = hardN := fun k hk => by
      rw [hdone] at hk
      rcases keys_put (nodup_del hnd1) hk with h | h
      · exact h
      · obtain ⟨h1, h2⟩ := keys_del hnd1 h
        rw [hn1] at h1
        rcases keys_put hs.nnd h1 with h3 | h3
        · exact absurd h3 h2
        · exact hs.ks k h3
    have hget : getM (doneF d1.now (.ren newN hardN)) hardN = some (frameL (layH x)) := by rw [hdone, getM_put (nodup_del hnd1), if_pos rfl]
    have hgn : getM (doneF d1.now (.ren newN hardN)) newN = none := getM_none.2 fun hm => hard_ne (hkeys _ hm).symm
    have hndd : (keysM (doneF d1.now (.ren newN hardN))).Nodup := by rw [hdone]; exact nodup_put (nodup_del hnd1)
    have hok : ∀ h, h ∈ [x] → hvOk h := fun h hm => by rw [List.mem_singleton.1 hm]; exact hx
    have hc1 : CR d1 V := by
      rw [← hd1]
      refine hc.push (hfile V hL _ hf) ?_
      rintro n b e t ht
      cases e
      exact hfile V hL _ (by rw [List.length_take]; omega)
    rw [hd1, hren]
    refine ⟨_, [x], rfl, ⟨hu1, hz1, by rw [← hd1]; exact hs.rm, by rw [← hd1]; exact hs.nd, ?_, ?_, hok, ?_⟩, hc1.push ?_ ?_, rfl, ?_, fun V0 h0 => ?_⟩
    · rw [now_does]; exact hkeys
    · rw [now_does, hget, hfr]; rfl
    · rw [hfr]; omega
    · exact ⟨hndd, fun k hk => .inl (hkeys k hk), ⟨[x], [], hok, by rw [hget, hfr]; simp, next_nil, hV⟩, by rw [hget]; simp only [Option.getD_some]; omega, by rw [hgn]; simp⟩
    · rintro n b e
      cases e
    · rw [← hd1]
      show ((d.wait ++ [_]) ++ [_]).length ≤ _
      simp
    · have h9 : CRk d1 V0 d.wait.length := by
        rw [← hd1]
        refine crk_at (hs.file h0) ?_
        rintro n b e t ht
        cases e
        exact hfile V0 h0 _ (by rw [List.length_take]; omega)
      refine h9.old ?_
      rw [← hd1]
      show _ < (d.wait ++ [_]).length
      simp
end Go.Proofs.Ytnknboibmifacaa.Sep

namespace Go.Proofs.Ytnknboibmifacaa.Sep
open Go.RowKit
open Go.Proofs.Ytnknboibmifacaa.Mem (Dist Blk Chg below0)
theorem ty_api_Hard : AggOf Try.prog 28 2 := aggOf Try.underlying28 rfl (by kernel_rfl)
theorem ze_api_Hard : Zero Try.prog 28 #[.int .u64 0, .int .i64 0] := zero_of (z := .agg #[.int .u64 0, .int .i64 0]) (by kernel_rfl) rfl
theorem fd_api_Hard_0 : FieldAt Try.prog 28 0 0 := fun g off w => by kernel_rfl
theorem fd_api_Hard_1 : FieldAt Try.prog 28 1 1 := fun g off w => by kernel_rfl
theorem fd_bursarlaw10_Step_2 : FieldAt Try.prog 41 2 3 := fun g off w => by kernel_rfl
theorem fd_bursarlaw10_Step_1 : FieldAt Try.prog 41 1 1 := fun g off w => by kernel_rfl
theorem sl_api_Hard : SliceT Try.prog 34 28 2 := sliceT_of (z := .agg #[.int .u64 0, .int .i64 0]) Try.underlying34 (by kernel_rfl) rfl rfl (by decide)

def flU : List ((Nat × Nat) × Nat) := [((28, 0), 0), ((28, 1), 1), ((41, 2), 3), ((41, 1), 1)] ++ flS
theorem flds_appU {P : Program} {b : List ((Nat × Nat) × Nat)} (hb : Flds P b) : ∀ {a : List ((Nat × Nat) × Nat)}, AllFlds P a → Flds P (a ++ b)
  | [], _ => hb
  | ((s, f), k) :: r, ha => fun S g q h => by
    simp only [List.cons_append] at h
    unfold fld at h
    cases h1 : Nat.beq s S with
    | false => simp only [h1] at h; exact flds_appU hb ha.2 S g q h
    | true =>
      cases h2 : Nat.beq f g with
      | false => simp only [h1, h2] at h; exact flds_appU hb ha.2 S g q h
      | true =>
        simp only [h1, h2, Option.some.injEq] at h
        have e1 := Nat.eq_of_beq_eq_true h1
        have e2 := Nat.eq_of_beq_eq_true h2
        subst e1; subst e2; subst h
        exact ha.1
theorem hflU : Flds Try.prog flU := flds_appU hflS ⟨fd_api_Hard_0, fd_api_Hard_1, fd_bursarlaw10_Step_2, fd_bursarlaw10_Step_1, trivial⟩
end Go.Proofs.Ytnknboibmifacaa.Sep

namespace Go.Proofs.Ytnknboibmifacaa.Sep
open Go.RowKit
open Go.Proofs.Ytnknboibmifacaa.Mem (Dist Blk Chg below0)

set_option maxRecDepth 100000 in
theorem hright (w : World) (t v : Int) (r : Bool) (hr : (decide (t ≤ 72057594037927935) && (decide (v ≥ 0) && decide (v ≤ 7))) = r) : Calls Try.prog 9 #[.agg #[.int .u64 t, .int .i64 v]] w fun e w' => e = .returned (.bool r) ∧ Below w.heap.size w w' := by
  refine d_in (args := [.agg #[.int .u64 t, .int .i64 v]]) 16 Try.func9 rfl rfl rfl ?_
  refine d_reg ?_
  refine h_q hflU rfl ?_
  refine h_act (post := fun g => [cell g 28 #[.int .u64 t, .int .i64 v]]) rfl (a_box (cs := #[.int .u64 t, .int .i64 v]) rfl rfl rfl) ?_; rintro g
  refine h_q hflU rfl ?_
  refine h_done ?_
  rcases Classical.em (t ≤ 72057594037927935) with h1 | h1
  rcases Classical.em (v ≥ 0) with h2 | h2
  rcases Classical.em (v ≤ 7) with h3 | h3
  · skip
    obtain rfl : r = true := by rw [← hr]; simp [h1, h2, h3]
    refine d_reg ?_
    refine h_q hflU rfl ?_
    refine h_val rfl (.int .u64 t) (fun b w hb hH => exec_load rfl rfl (reads_one ty_uint64 rfl) (hH.row 0 rfl) hb) ?_
    refine h_val rfl (.bool true) (fun b w hb hH => exec_cmp rfl rfl rfl (cmp_leq_t h1) hb) ?_
    refine h_q hflU rfl ?_
    refine h_val rfl (.int .i64 v) (fun b w hb hH => exec_load rfl rfl (reads_one ty_int rfl) (hH.row 0 rfl) hb) ?_
    refine h_val rfl (.bool true) (fun b w hb hH => exec_cmp rfl rfl rfl (cmp_geq_t h2) hb) ?_
    refine h_q hflU rfl ?_
    refine h_val rfl (.int .i64 v) (fun b w hb hH => exec_load rfl rfl (reads_one ty_int rfl) (hH.row 0 rfl) hb) ?_
    refine h_val rfl (.bool true) (fun b w hb hH => exec_cmp rfl rfl rfl (cmp_leq_t h3) hb) ?_
    refine h_q hflU rfl ?_
    refine h_done (d_ret ?_)
    exact f_fin1 (.tmp rfl) (fun w h => ⟨rfl, below0 h.up⟩) rfl
  · skip
    obtain rfl : r = false := by rw [← hr]; simp [h3]
    refine d_reg ?_
    refine h_q hflU rfl ?_
    refine h_val rfl (.int .u64 t) (fun b w hb hH => exec_load rfl rfl (reads_one ty_uint64 rfl) (hH.row 0 rfl) hb) ?_
    refine h_val rfl (.bool true) (fun b w hb hH => exec_cmp rfl rfl rfl (cmp_leq_t h1) hb) ?_
    refine h_q hflU rfl ?_
    refine h_val rfl (.int .i64 v) (fun b w hb hH => exec_load rfl rfl (reads_one ty_int rfl) (hH.row 0 rfl) hb) ?_
    refine h_val rfl (.bool true) (fun b w hb hH => exec_cmp rfl rfl rfl (cmp_geq_t h2) hb) ?_
    refine h_q hflU rfl ?_
    refine h_val rfl (.int .i64 v) (fun b w hb hH => exec_load rfl rfl (reads_one ty_int rfl) (hH.row 0 rfl) hb) ?_
    refine h_val rfl (.bool false) (fun b w hb hH => exec_cmp rfl rfl rfl (cmp_leq_f (by omega)) hb) ?_
    refine h_q hflU rfl ?_
    refine h_done (d_ret ?_)
    exact f_fin1 (.tmp rfl) (fun w h => ⟨rfl, below0 h.up⟩) rfl
  · skip
    obtain rfl : r = false := by rw [← hr]; simp [h2]
    refine d_reg ?_
    refine h_q hflU rfl ?_
    refine h_val rfl (.int .u64 t) (fun b w hb hH => exec_load rfl rfl (reads_one ty_uint64 rfl) (hH.row 0 rfl) hb) ?_
    refine h_val rfl (.bool true) (fun b w hb hH => exec_cmp rfl rfl rfl (cmp_leq_t h1) hb) ?_
    refine h_q hflU rfl ?_
    refine h_val rfl (.int .i64 v) (fun b w hb hH => exec_load rfl rfl (reads_one ty_int rfl) (hH.row 0 rfl) hb) ?_
    refine h_val rfl (.bool false) (fun b w hb hH => exec_cmp rfl rfl rfl (cmp_geq_f (by omega)) hb) ?_
    refine h_q hflU rfl ?_
    refine h_done (d_ret ?_)
    exact f_fin1 (.tmp rfl) (fun w h => ⟨rfl, below0 h.up⟩) rfl
  · skip
    obtain rfl : r = false := by rw [← hr]; simp [h1]
    refine d_reg ?_
    refine h_q hflU rfl ?_
    refine h_val rfl (.int .u64 t) (fun b w hb hH => exec_load rfl rfl (reads_one ty_uint64 rfl) (hH.row 0 rfl) hb) ?_
    refine h_val rfl (.bool false) (fun b w hb hH => exec_cmp rfl rfl rfl (cmp_leq_f (by omega)) hb) ?_
    refine h_q hflU rfl ?_
    refine h_done (d_ret ?_)
    exact f_fin1 (.tmp rfl) (fun w h => ⟨rfl, below0 h.up⟩) rfl

theorem hright_ok (w : World) {h : HV} (hk : hvOk h) : Calls Try.prog 9 #[.agg #[.int .u64 ((h.1 : Nat) : Int), .int .i64 ((h.2 : Nat) : Int)]] w fun e w' => e = .returned (.bool true) ∧ Below w.heap.size w w' :=
  hright w _ _ true (by have := hk.1; have := hk.2; simp; omega)

set_option maxRecDepth 100000 in
theorem hlay_does {h : HV} (hk : hvOk h) : Does Try.prog 20 #[.agg #[.int .u64 ((h.1 : Nat) : Int), .int .i64 ((h.2 : Nat) : Int)]] [] (fun (v : Value) => v) (fun (v : Value) => [Vec 5 1 encB v (layH h)]) := by
  refine d_ins (args := [.agg #[.int .u64 ((h.1 : Nat) : Int), .int .i64 ((h.2 : Nat) : Int)]]) 16 Try.func20 rfl rfl rfl ?_; intro w rs
  have hk1 := hk.1
  have hk2 := hk.2
  refine d_reg ?_
  refine h_q hflU rfl ?_
  refine h_act (post := fun g1 => [cell g1 28 #[.int .u64 ((h.1 : Nat) : Int), .int .i64 ((h.2 : Nat) : Int)]]) rfl (a_box (cs := #[.int .u64 ((h.1 : Nat) : Int), .int .i64 ((h.2 : Nat) : Int)]) rfl rfl rfl) ?_; rintro g1
  refine h_q hflU rfl ?_
  refine h_done (d_reg ?_)
  refine h_q hflU rfl ?_
  refine h_act (post := fun g => [WtT g ([]), cell g1 28 #[.int .u64 ((h.1 : Nat) : Int), .int .i64 ((h.2 : Nat) : Int)]]) rfl (a_does (os' := fun g => [WtT g ([]), cell g1 28 #[.int .u64 ((h.1 : Nat) : Int), .int .i64 ((h.2 : Nat) : Int)]]) [] 0 (ent_of Try.func36 (by kernel_rfl) rfl) (wt_new) rfl rfl rfl (fun _ => rfl) rfl rfl rfl) ?_; rintro g
  refine h_q hflU rfl ?_
  refine h_done (d_reg ?_)
  refine h_q hflU rfl ?_
  refine h_val rfl (.int .u64 ((h.1 : Nat) : Int)) (fun b w hb hH => exec_load rfl rfl (reads_one ty_uint64 rfl) (hH.row 1 rfl) hb) ?_
  refine h_act (post := fun _ => [WtT g (vlay h.1), cell g1 28 #[.int .u64 ((h.1 : Nat) : Int), .int .i64 ((h.2 : Nat) : Int)]]) rfl (a_does (os' := fun _ => [WtT g (vlay h.1), cell g1 28 #[.int .u64 ((h.1 : Nat) : Int), .int .i64 ((h.2 : Nat) : Int)]]) [0] 0 (ent_of Try.func37 (by kernel_rfl) rfl) (wt_num g [] ((h.1 : Nat) : Int) ⟨by omega, by omega⟩ (vlay h.1) (by rw [layU, Int.toNat_natCast]; rfl) (by simp)) rfl rfl rfl (fun _ => rfl) rfl rfl rfl) ?_; rintro ⟨⟩
  refine h_done (d_reg ?_)
  refine h_q hflU rfl ?_
  refine h_val rfl (.int .i64 ((h.2 : Nat) : Int)) (fun b w hb hH => exec_load rfl rfl (reads_one ty_int rfl) (hH.row 1 rfl) hb) ?_
  refine h_val rfl (.int .u8 ((h.2 : Nat) : Int)) (fun b w hb hH => exec_conv Try.underlying3 Try.underlying5 (IntWalk.u8_in _ (by omega)) rfl rfl hb) ?_
  refine h_act (post := fun _ => [WtT g (layH h), cell g1 28 #[.int .u64 ((h.1 : Nat) : Int), .int .i64 ((h.2 : Nat) : Int)]]) rfl (a_does (os' := fun _ => [WtT g (layH h), cell g1 28 #[.int .u64 ((h.1 : Nat) : Int), .int .i64 ((h.2 : Nat) : Int)]]) [0] 0 (ent_of Try.func38 (by kernel_rfl) rfl) (wt_byte g (vlay h.1) ((h.2 : Nat) : Int) ⟨by omega, by omega⟩ (layH h) (by rw [Int.toNat_natCast]; rfl) (by have := vlay_length_pow 7 h.1 (by omega); omega)) rfl rfl rfl (fun _ => rfl) rfl rfl rfl) ?_; rintro ⟨⟩
  refine h_done (d_reg ?_)
  refine h_q hflU rfl ?_
  refine h_act (post := fun v => [Vec 5 1 encB v (layH h), WtT g (layH h), cell g1 28 #[.int .u64 ((h.1 : Nat) : Int), .int .i64 ((h.2 : Nat) : Int)]]) rfl (a_does (os' := fun v => [Vec 5 1 encB v (layH h), WtT g (layH h), cell g1 28 #[.int .u64 ((h.1 : Nat) : Int), .int .i64 ((h.2 : Nat) : Int)]]) [0] 0 (ent_of Try.func39 (by kernel_rfl) rfl) (wt_bytes g (layH h) (by have := layH_len hk; omega)) rfl rfl rfl (fun _ => rfl) rfl rfl rfl) ?_; rintro v
  refine h_q hflU rfl ?_
  refine h_done (d_ret ?_)
  exact f_fin1 (.tmp rfl) (fun w h => tells v rfl [0] rfl h same_parts) rfl

set_option maxRecDepth 100000 in
theorem hread_some (w : World) {v : Value} {l : List UInt8} (hv : Sl8 w v l) (hl : l.length ≤ 65536) {h : HV} (ho : readH l = some h) : Calls Try.prog 32 #[v] w fun e w' => e = .returned (.tuple #[.agg #[.int .u64 ((h.1 : Nat) : Int), .int .i64 ((h.2 : Nat) : Int)], .bool true]) ∧ Below w.heap.size w w' := by
  obtain ⟨⟨n1, l1, f1⟩, h1⟩ : ∃ R, rnum 72057594037927935 l 0 = R := ⟨_, rfl⟩
  obtain ⟨x2, l2, f2, h2⟩ := byteR 7 l1 f1
  obtain ⟨r3, h3⟩ : ∃ r, rend l2 f2 = r := ⟨_, rfl⟩
  rw [readH_of h1 h2, h3] at ho
  have hr3 : r3 = 0 := by by_cases e : r3 = 0; exact e; rw [if_neg e] at ho; cases ho
  rw [if_pos hr3] at ho
  have hx2 := x2.toNat_lt
  obtain rfl := Option.some.inj ho
  refine d_in (args := [v]) 21 Try.func32 rfl rfl rfl ?_
  refine d_reg ?_
  refine h_q hflU rfl ?_
  refine h_act (post := fun g2 => [cell g2 28 #[.int .u64 0, .int .i64 0]]) rfl (a_alloc ze_api_Hard rfl) ?_; rintro g2
  refine h_q hflU rfl ?_
  refine h_done (d_reg ?_)
  refine h_q hflU rfl ?_
  refine h_act (post := fun g => [RdT g l 0, cell g2 28 #[.int .u64 0, .int .i64 0]]) rfl (a_doesU (Below.refl _ _) (fun _ h => h.elim) (os' := fun g => [RdT g l 0, cell g2 28 #[.int .u64 0, .int .i64 0]]) [] 0 (ent_of Try.func46 (by kernel_rfl) rfl) (rd_new w v l hv (by omega)) rfl rfl rfl (fun _ => rfl) rfl rfl rfl) ?_; rintro g
  refine h_q hflU rfl ?_
  refine h_done (d_reg ?_)
  refine h_q hflU rfl ?_
  refine h_act (post := fun _ => [RdT g l1 f1, cell g2 28 #[.int .u64 0, .int .i64 0]]) rfl (a_does (os' := fun _ => [RdT g l1 f1, cell g2 28 #[.int .u64 0, .int .i64 0]]) [0] 0 (ent_of Try.func47 (by kernel_rfl) rfl) (rd_num g l 0 72057594037927935 (by decide) (n1, l1, f1) h1) rfl rfl rfl (fun _ => rfl) rfl rfl rfl) ?_; rintro ⟨⟩
  refine h_q hflU rfl ?_
  refine h_done (d_reg ?_)
  refine h_q hflU rfl ?_
  refine h_act (post := fun _ => [RdT g l2 f2, cell g2 28 #[.int .u64 0, .int .i64 0]]) rfl (a_does (os' := fun _ => [RdT g l2 f2, cell g2 28 #[.int .u64 0, .int .i64 0]]) [0] 0 (ent_of Try.func48 (by kernel_rfl) rfl) (rd_byte g l1 f1 7 (by decide) (x2.toNat, l2, f2) h2) rfl rfl rfl (fun _ => rfl) rfl rfl rfl) ?_; rintro ⟨⟩
  refine h_q hflU rfl ?_
  refine h_done (d_seq (d_reg ?_))
  refine h_q hflU rfl ?_
  refine h_act (post := fun _ => [RdT g l2 f2, cell g2 28 #[.int .u64 0, .int .i64 0]]) rfl (a_does (os' := fun _ => [RdT g l2 f2, cell g2 28 #[.int .u64 0, .int .i64 0]]) [0] 0 (ent_of Try.func49 (by kernel_rfl) rfl) (rd_end g l2 f2 r3 h3) rfl rfl rfl (fun _ => rfl) rfl rfl rfl) ?_; rintro ⟨⟩
  refine h_val rfl (.bool false) (fun b w hb hH => exec_cmp rfl rfl rfl (cmp_neq_f (by omega)) hb) ?_
  refine h_done (d_else rfl (d_skip (f_to (d_reg ?_))))
  refine h_q hflU rfl ?_
  refine h_val rfl (.int .i64 (x2.toNat : Int)) (fun b w hb hH => exec_conv Try.underlying5 Try.underlying3 (IntWalk.i64_in _ (by omega)) rfl rfl hb) ?_
  refine h_val rfl (.agg #[.int .u64 ((n1 : Nat) : Int), .int .i64 (x2.toNat : Int)]) (fun b w hb hH => exec_build rfl rfl (by kernel_rfl) hb) ?_
  refine h_acts (post := fun _ => [RdT g l2 f2, cell g2 28 #[.int .u64 ((n1 : Nat) : Int), .int .i64 (x2.toNat : Int)]]) rfl rfl (a_store 1 (v := .agg #[.int .u64 ((n1 : Nat) : Int), .int .i64 (x2.toNat : Int)]) #[.int .u64 ((n1 : Nat) : Int), .int .i64 (x2.toNat : Int)] ty_api_Hard.2 rfl rfl rfl rfl rfl rfl rfl rfl rfl) ?_; rintro ⟨⟩
  refine h_q hflU rfl ?_
  refine h_done (d_ret ?_)
  exact f_fin2 (.cell 1 (v := .agg #[.int .u64 ((n1 : Nat) : Int), .int .i64 (x2.toNat : Int)]) (reads_agg (cs := [.int .u64 ((n1 : Nat) : Int), .int .i64 (x2.toNat : Int)]) ty_api_Hard rfl) rfl rfl) (.tmp rfl) (fun w h => ⟨rfl, below0 h.up⟩) rfl

set_option maxRecDepth 100000 in
theorem hread_none (w : World) {v : Value} {l : List UInt8} (hv : Sl8 w v l) (hl : l.length ≤ 65536) (ho : readH l = none) : Calls Try.prog 32 #[v] w fun e w' => e = .returned (.tuple #[.agg #[.int .u64 0, .int .i64 0], .bool false]) ∧ Below w.heap.size w w' := by
  obtain ⟨⟨n1, l1, f1⟩, h1⟩ : ∃ R, rnum 72057594037927935 l 0 = R := ⟨_, rfl⟩
  obtain ⟨x2, l2, f2, h2⟩ := byteR 7 l1 f1
  obtain ⟨r3, h3⟩ : ∃ r, rend l2 f2 = r := ⟨_, rfl⟩
  rw [readH_of h1 h2, h3] at ho
  have hr3 : r3 ≠ 0 := fun e => by rw [if_pos e] at ho; cases ho
  refine d_in (args := [v]) 21 Try.func32 rfl rfl rfl ?_
  refine d_reg ?_
  refine h_q hflU rfl ?_
  refine h_act (post := fun g2 => [cell g2 28 #[.int .u64 0, .int .i64 0]]) rfl (a_alloc ze_api_Hard rfl) ?_; rintro g2
  refine h_q hflU rfl ?_
  refine h_done (d_reg ?_)
  refine h_q hflU rfl ?_
  refine h_act (post := fun g => [RdT g l 0, cell g2 28 #[.int .u64 0, .int .i64 0]]) rfl (a_doesU (Below.refl _ _) (fun _ h => h.elim) (os' := fun g => [RdT g l 0, cell g2 28 #[.int .u64 0, .int .i64 0]]) [] 0 (ent_of Try.func46 (by kernel_rfl) rfl) (rd_new w v l hv (by omega)) rfl rfl rfl (fun _ => rfl) rfl rfl rfl) ?_; rintro g
  refine h_q hflU rfl ?_
  refine h_done (d_reg ?_)
  refine h_q hflU rfl ?_
  refine h_act (post := fun _ => [RdT g l1 f1, cell g2 28 #[.int .u64 0, .int .i64 0]]) rfl (a_does (os' := fun _ => [RdT g l1 f1, cell g2 28 #[.int .u64 0, .int .i64 0]]) [0] 0 (ent_of Try.func47 (by kernel_rfl) rfl) (rd_num g l 0 72057594037927935 (by decide) (n1, l1, f1) h1) rfl rfl rfl (fun _ => rfl) rfl rfl rfl) ?_; rintro ⟨⟩
  refine h_q hflU rfl ?_
  refine h_done (d_reg ?_)
  refine h_q hflU rfl ?_
  refine h_act (post := fun _ => [RdT g l2 f2, cell g2 28 #[.int .u64 0, .int .i64 0]]) rfl (a_does (os' := fun _ => [RdT g l2 f2, cell g2 28 #[.int .u64 0, .int .i64 0]]) [0] 0 (ent_of Try.func48 (by kernel_rfl) rfl) (rd_byte g l1 f1 7 (by decide) (x2.toNat, l2, f2) h2) rfl rfl rfl (fun _ => rfl) rfl rfl rfl) ?_; rintro ⟨⟩
  refine h_q hflU rfl ?_
  refine h_done (d_seq (d_reg ?_))
  refine h_q hflU rfl ?_
  refine h_act (post := fun _ => [RdT g l2 f2, cell g2 28 #[.int .u64 0, .int .i64 0]]) rfl (a_does (os' := fun _ => [RdT g l2 f2, cell g2 28 #[.int .u64 0, .int .i64 0]]) [0] 0 (ent_of Try.func49 (by kernel_rfl) rfl) (rd_end g l2 f2 r3 h3) rfl rfl rfl (fun _ => rfl) rfl rfl rfl) ?_; rintro ⟨⟩
  refine h_val rfl (.bool true) (fun b w hb hH => exec_cmp rfl rfl rfl (cmp_neq_t (by omega)) hb) ?_
  refine h_done (d_then rfl (d_reg ?_))
  refine h_q hflU rfl ?_
  refine h_val rfl (.agg #[.int .u64 0, .int .i64 0]) (fun b w hb hH => exec_build rfl rfl (by kernel_rfl) hb) ?_
  refine h_acts (post := fun _ => [RdT g l2 f2, cell g2 28 #[.int .u64 0, .int .i64 0]]) rfl rfl (a_store 1 (v := .agg #[.int .u64 0, .int .i64 0]) #[.int .u64 0, .int .i64 0] ty_api_Hard.2 rfl rfl rfl rfl rfl rfl rfl rfl rfl) ?_; rintro ⟨⟩
  refine h_q hflU rfl ?_
  refine h_done (d_ret (f_then_ret ?_))
  exact f_fin2 (.cell 1 (v := .agg #[.int .u64 0, .int .i64 0]) (reads_agg (cs := [.int .u64 0, .int .i64 0]) ty_api_Hard rfl) rfl rfl) (.tmp rfl) (fun w h => ⟨rfl, below0 h.up⟩) rfl

set_option maxRecDepth 100000 in
theorem rmnew_does {p : Nat} {d d1 : DiskD} {e : Nat} (hd : d.fit) (h : rmNewD d = (d1, e)) : Does Try.prog 15 #[.pointer (some ⟨p, 0, none⟩)] [DiskT p d] (fun (_ : Unit) => .int .i64 (e : Int)) (fun (_ : Unit) => [DiskT p d1]) := by
  refine d_ins (args := [.pointer (some ⟨p, 0, none⟩)]) 14 Try.func15 rfl rfl rfl ?_; intro w rs
  obtain ⟨b, hb⟩ : ∃ b, (readD d newN).getD [] = b := ⟨_, rfl⟩
  refine d_reg ?_
  refine h_q hflU rfl ?_
  refine h_done (d_seq ?_)
  rcases hok : (readD d newN).isSome with _ | _
  · skip
    obtain ⟨rfl, rfl⟩ : d = d1 ∧ 0 = e := by unfold rmNewD at h; rw [if_neg (by rw [hok]; simp)] at h; exact Prod.mk.inj h
    refine d_reg ?_
    refine h_q hflU rfl ?_
    refine h_act (post := fun bv => [Vec 5 1 encB bv b, DiskT p d]) rfl (a_does (os' := fun bv => [Vec 5 1 encB bv b, DiskT p d]) [0] 0 (ent_of Try.func16 (by kernel_rfl) rfl) (disk_read (n := newN) hd hok hb) rfl rfl rfl (fun _ => rfl) rfl rfl rfl) ?_; rintro bv
    refine h_q hflU rfl ?_
    refine h_done (d_reg ?_)
    refine h_q hflU rfl ?_
    refine h_done (d_then rfl (d_reg ?_))
    refine h_q hflU rfl ?_
    refine h_done (d_ret (f_then_ret ?_))
    exact f_fin1 (.tmp rfl) (fun w h => tells () rfl [1] rfl h same_parts) rfl
  · skip
    have hdel : delD d newN = (d1, e) := by unfold rmNewD at h; rwa [if_pos hok] at h
    refine d_reg ?_
    refine h_q hflU rfl ?_
    refine h_act (post := fun bv => [Vec 5 1 encB bv b, DiskT p d]) rfl (a_does (os' := fun bv => [Vec 5 1 encB bv b, DiskT p d]) [0] 0 (ent_of Try.func16 (by kernel_rfl) rfl) (disk_read (n := newN) hd hok hb) rfl rfl rfl (fun _ => rfl) rfl rfl rfl) ?_; rintro bv
    refine h_q hflU rfl ?_
    refine h_done (d_reg ?_)
    refine h_q hflU rfl ?_
    refine h_done (d_else rfl (d_skip (f_to (d_reg ?_))))
    refine h_q hflU rfl ?_
    refine h_act (post := fun _ => [Vec 5 1 encB bv b, DiskT p d1]) rfl (a_does (os' := fun _ => [Vec 5 1 encB bv b, DiskT p d1]) [1] 0 (ent_of Try.func28 (by kernel_rfl) rfl) (disk_remove (n := newN) hd hdel) rfl rfl rfl (fun _ => rfl) rfl rfl rfl) ?_; rintro ⟨⟩
    refine h_q hflU rfl ?_
    refine h_done (d_ret ?_)
    exact f_fin1 (.tmp rfl) (fun w h => tells () rfl [1] rfl h same_parts) rfl
end Go.Proofs.Ytnknboibmifacaa.Sep

namespace Go.Proofs.Ytnknboibmifacaa.Sep
open Go.RowKit
open Go.Proofs.Ytnknboibmifacaa.Mem (Dist Blk Chg below0)
section
variable {P : Program} {ops : Array Oper} {Q : Exit → Act → World → Prop} {n d D : Nat} {env : List (Nat × Value)} {B : Nat → Prop} {w0 w : World} {os : List Ass} {o : Oper} {a : Act} {rest : List Oper}
theorem put_back (a : Act) (d : Option Nat) (v : Value) : { ({ a with defers := [] } : Act).put d v with defers := a.defers } = a.put d v := by cases d <;> rfl
theorem hp_here {rs : List RowT} (h : Mem.Hp B w0 w rs) : Mem.Hp (Blk rs) w w rs := ⟨Mod.refl _ _, h.rows, h.apart, fun x hx _ => ⟨x, hx, rfl⟩⟩
theorem t_act0 {X : Type} {val : X → Value} {post : X → List Ass} (ha : ∀ (B : Nat → Prop) (w0 : World), Acts P (fun _ _ _ => False) n env B w0 os o val post) (hD : w.heap[D]? = some (.deferred (some []))) (hF : Fr n { a with defers := [] } env) (hH : Hp B w0 w os) {K : Act → World → Prop} (hK : ∀ x w', w'.heap[D]? = some (.deferred (some [])) → Hp B w0 w' (post x) → K (a.put o.dst (val x)) w') : o.wp P a w K Q := by
  obtain ⟨rs, h1, h2⟩ := hH
  have h3 := ha (Blk rs) w { a with defers := [] } w ⟨rs, h1, hp_here h2⟩ hF (fun b w' => b.defers = [] ∧ K { b with defers := a.defers } w') (fun x w' ⟨ys, p1, p2⟩ => ⟨put_defers _ _ _, by
    rw [put_back]
    refine hK x w' ((p2.up.block D (Array.getElem?_eq_some_iff.1 hD).1 ?_).trans hD) ⟨ys, p1, ?_⟩
    · rintro ⟨z, hz, e⟩
      exact no_row_mark hD z e (h2.rows.mem z hz)
    · have h4 := hp_chg (a := rs) (b := []) (by rw [List.append_nil]; exact h2) (hp_ofChg p2)
      rwa [List.append_nil] at h4⟩)
  unfold Oper.wp at h3 ⊢
  rw [eval_of a]
  generalize (execOp ({ a with defers := [] } : Act).eval o).run P w = r at h3 ⊢
  cases r with
  | ok nx w' =>
    cases nx with
    | value v => have h4 := h3.2; rw [put_back] at h4; exact h4
    | skip => have h4 := h3.2; rw [put_back] at h4; exact h4
    | defer d => have h4 := h3.1; rw [put_defers] at h4; cases h4
    | enter f args =>
      refine Calls.mono h3 ?_
      rintro (v | c | _) w'' h
      · have h4 := h.2; rw [put_back] at h4; exact h4
      · exact h.elim
      · obtain ⟨_, _, h⟩ := h; exact h.elim
    | row r args =>
      intro c cs
      obtain ⟨v, w'', h5, h6⟩ := h3 c cs
      have h4 := h5.2
      rw [put_back] at h4
      exact ⟨v, w'', h4, h6⟩
    | _ => exact h3.elim
  | halt e w' =>
    cases e with
    | panic v => exact h3.elim
    | _ => exact h3.elim
/-! ## In order -/
theorem t_seq {x y : Code} (h : WCT D P (Exit.then (fun a w => y.wp P Q a w) Q) n env B w0 os x) : WCT D P Q n env B w0 os (.seq x y) := fun a w hD h0 hd hF hH => wp_seq (h a w hD h0 hd hF hH)
theorem t_to {y : Code} (h : WCT D P Q n env B w0 os y) (a : Act) (w : World) (hD : w.heap[D]? = some (.deferred (some []))) (h0 : w0.heap.size ≤ D) (hd : a.defers = [markD D]) (hF : Fr n { a with defers := [] } env) (hH : Hp B w0 w os) : Exit.then (fun a w => y.wp P Q a w) Q .normal a w := h a w hD h0 hd hF hH
/-! ## In each order -/
def WAT (D : Nat) (P : Program) (ops : Array Oper) (Q : Exit → Act → World → Prop) (n : Nat) (env : List (Nat × Value)) (B : Nat → Prop) (w0 : World) (os : List Ass) (f : Nat) (listed : Array Bool) : Prop := ∀ a w, w.heap[D]? = some (.deferred (some [])) → w0.heap.size ≤ D → a.defers = [markD D] → Fr n { a with defers := [] } env → Hp B w0 w os → wpAny P .any ops Q f listed a w
def WOT (D : Nat) (P : Program) (ops : Array Oper) (Q : Exit → Act → World → Prop) (n : Nat) (env : List (Nat × Value)) (B : Nat → Prop) (w0 : World) (os : List Ass) (f : Nat) (listed : Array Bool) (i : Nat) : Prop := ∀ a w, w.heap[D]? = some (.deferred (some [])) → w0.heap.size ≤ D → a.defers = [markD D] → Fr n { a with defers := [] } env → Hp B w0 w os → wpOp P ops Q i (wpAny P .any ops Q f (listed.setIfInBounds i true)) a w
variable {f i : Nat} {listed : Array Bool}
theorem bt_ready (l : List Nat) (hr : Region.ready .any ops listed = l) (hne : l ≠ []) (h : ∀ i ∈ l, WOT D P ops Q n env B w0 os f listed i) : WAT D P ops Q n env B w0 os (f + 1) listed := fun a w hD h0 hd hF hH => ⟨fun h1 => absurd (hr ▸ h1) hne, fun i hi => h i (hr ▸ hi) a w hD h0 hd hF hH⟩
theorem bt_val (ho : ops[i]? = some o) (h1 : at1 ops n o env = some d) (v : Value) (hrun : ∀ b w, Fr n b env → Hp B w0 w os → (execOp b.eval o).run P w = .ok (.value v) w) (h : WAT D P ops Q n ((d, v) :: env) B w0 os f (listed.setIfInBounds i true)) : WOT D P ops Q n env B w0 os f listed i := fun a w hD h0 hd hF hH => by
  unfold wpOp
  simp only [ho]
  have hw : Region.wanted o (yielded ops a.tmps) = true := hF.wants (at1_parts h1).1
  rw [if_pos hw]
  refine .inl ?_
  unfold Oper.wp
  rw [eval_of, hrun _ w hF hH, Oper.upon_value]
  refine h _ _ hD h0 ((put_defers _ _ _).trans hd) ?_ hH
  rw [put_of, (at1_parts h1).2.1]
  exact hF.put (at1_parts h1).2.2 _
theorem bt_acts {X : Type} {val : X → Value} {post : X → List Ass} (ho : ops[i]? = some o) (hg : wants ops o env = some true) (hdn : o.dst = none) (ha : ∀ (B : Nat → Prop) (w0 : World), Acts P (fun _ _ _ => False) n env B w0 os o val post) (h : ∀ x, WAT D P ops Q n env B w0 (post x) f (listed.setIfInBounds i true)) : WOT D P ops Q n env B w0 os f listed i := fun a w hD h0 hd hF hH => by
  unfold wpOp
  simp only [ho]
  have hw : Region.wanted o (yielded ops a.tmps) = true := hF.wants hg
  rw [if_pos hw]
  refine .inl (t_act0 ha hD hF hH fun x w' hD' hH' => h x _ _ hD' h0 ((put_defers _ _ _).trans hd) ?_ hH')
  rw [put_of, hdn]
  exact hF
theorem bt_done (hr : Region.ready .any ops listed = []) (h : ∀ a w, w.heap[D]? = some (.deferred (some [])) → w0.heap.size ≤ D → a.defers = [markD D] → Fr n { a with defers := [] } env → Hp B w0 w os → Q .normal a w) : WAT D P ops Q n env B w0 os f listed := fun a w hD h0 hd hF hH => by
  cases f with
  | zero => exact ⟨hr, h a w hD h0 hd hF hH⟩
  | succ f => exact ⟨fun _ => h a w hD h0 hd hF hH, fun i hi => (by rw [hr] at hi; cases hi)⟩
theorem bt_one (i : Nat) (hr : Region.ready .any ops listed = [i]) (h : WOT D P ops Q n env B w0 os f listed i) : WAT D P ops Q n env B w0 os (f + 1) listed := bt_ready [i] hr (by simp) (fun j hj => by
  have : j = i := by simpa using hj
  subst this
  exact h)
theorem bt_two (i j : Nat) (hr : Region.ready .any ops listed = [i, j]) (h : WOT D P ops Q n env B w0 os f listed i) (h' : WOT D P ops Q n env B w0 os f listed j) : WAT D P ops Q n env B w0 os (f + 1) listed := bt_ready [i, j] hr (by simp) (fun k hk => by
  have : k = i ∨ k = j := by simpa using hk
  rcases this with rfl | rfl
  · exact h
  · exact h')
theorem t_any {id : Nat} (hmix : P.follows .mixedOrders = true) (h : WAT D P ops Q n env B w0 os ops.size (Array.replicate ops.size false)) : WCT D P Q n env B w0 os (.region id ops true) := fun a w hD h0 hd hF hH => wp_region_any hmix (h a w.drew hD h0 hd hF hH.drew)
theorem t_anyQ {id : Nat} {y : Code} (hmix : P.follows .mixedOrders = true) (h : WAT D P ops (Exit.then (fun a w => y.wp P Q a w) Q) n env B w0 os ops.size (Array.replicate ops.size false)) : WCT D P Q n env B w0 os (.seq (.region id ops true) y) := t_seq (t_any hmix h)
theorem blk_exit {id : Nat} {K : Exit → Act → World → Prop} {a : Act} {w : World} (h : K .normal a w) : Exit.inBlock id K (.exit id) a w := by
  show (if id = id then _ else _)
  rw [if_pos rfl]
  exact h
end
end Go.Proofs.Ytnknboibmifacaa.Sep
