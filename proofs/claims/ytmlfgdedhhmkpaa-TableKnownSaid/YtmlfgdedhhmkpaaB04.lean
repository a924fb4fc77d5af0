/-
  TabT
-/
import Derived.Test.YtmlfgdedhhmkpaaB03
set_option linter.unusedSimpArgs false
set_option linter.unusedVariables false

namespace Go.Proofs.Ytmlfgdedhhmkpaa.Sep
open Go.RowKit
structure TOK {κ ν : Type} (lt : κ → κ → Bool) (m : Int) (K : List κ) (V : List ν) : Prop where
  len : V.length = K.length
  srt : Srt lt K
  le : (K.length : Int) ≤ m
  lim : m ≤ 4096
def ins {α : Type} (l : List α) (q : Nat) (x : α) : List α := l.take q ++ x :: l.drop q
def rem {α : Type} (l : List α) (q : Nat) : List α := l.take q ++ l.drop (q + 1)
section
variable {κ ν : Type} [DecidableEq κ] (lt : κ → κ → Bool)
def putT (m : Int) (K : List κ) (V : List ν) (k : κ) (v : ν) : List κ × List ν × Bool :=
  if has lt K k = true then (K, V.set (pos lt K k) v, true)
  else if (K.length : Int) < m then (ins K (pos lt K k) k, ins V (pos lt K k) v, true)
  else (K, V, false)
def dropT (K : List κ) (V : List ν) (k : κ) : List κ × List ν × Bool :=
  if has lt K k = true then (rem K (pos lt K k), rem V (pos lt K k), true) else (K, V, false)
def getT (K : List κ) (V : List ν) (k : κ) (d : ν) : ν × Bool :=
  if has lt K k = true then ((V[pos lt K k]?).getD d, true) else (d, false)
end
theorem ins_len {α : Type} (l : List α) (q : Nat) (x : α) : (ins l q x).length = l.length + 1 := by
  simp only [ins, List.length_append, List.length_take, List.length_cons, List.length_drop]; omega
theorem rem_len {α : Type} {l : List α} {q : Nat} (h : q < l.length) : (rem l q).length + 1 = l.length := by
  simp only [rem, List.length_append, List.length_take, List.length_drop]; omega
section
variable {κ ν : Type} [DecidableEq κ] {lt : κ → κ → Bool} {m : Int} {K K' : List κ} {V V' : List ν} {k : κ} {v : ν} {b : Bool}
theorem has_lt (h : has lt K k = true) : pos lt K k < K.length := (List.getElem?_eq_some_iff.1 (has_iff.1 h)).1
theorem srt_ins (o : Ord lt) (hS : Srt lt K) (hh : has lt K k = false) : Srt lt (ins K (pos lt K k) k) := by
  have hq := pos_le (lt := lt) (k := k) K
  have habove : ∀ x ∈ K.drop (pos lt K k), lt k x = true := by
    intro x hx
    obtain ⟨j, hj⟩ := List.getElem?_of_mem hx
    rw [List.getElem?_drop] at hj
    have hlt : pos lt K k < K.length := by
      have := (List.getElem?_eq_some_iff.1 hj).1; omega
    obtain ⟨y, hy⟩ : ∃ y, K[pos lt K k]? = some y := ⟨_, List.getElem?_eq_getElem hlt⟩
    have h1 : lt y k = false := pos_at hy
    have h2 : lt k y = true := by
      cases hc : lt k y with
      | true => rfl
      | false =>
        have := o.tot _ _ h1 hc
        subst this
        rw [has_t hy] at hh
        cases hh
    by_cases e : j = 0
    · subst e; rw [Nat.add_zero, hy] at hj; cases hj; exact h2
    · exact o.tr _ _ _ h2 (hS.lt_ (by omega) hy hj)
  have hbelow : ∀ x ∈ K.take (pos lt K k), lt x k = true := by
    intro x hx
    obtain ⟨j, hj⟩ := List.getElem?_of_mem hx
    rw [List.getElem?_take] at hj
    split at hj
    · exact pos_lt ‹_› hj
    · cases hj
  unfold Srt ins at *
  rw [List.pairwise_append, List.pairwise_cons]
  refine ⟨hS.sublist (List.take_sublist _ _), ⟨habove, hS.sublist (List.drop_sublist _ _)⟩, fun x hx y hy => ?_⟩
  rcases List.mem_cons.1 hy with rfl | hy
  · exact hbelow x hx
  · exact o.tr _ _ _ (hbelow x hx) (habove y hy)
theorem srt_rem {κ : Type} {lt : κ → κ → Bool} {K : List κ} (hS : Srt lt K) (q : Nat) : Srt lt (rem K q) := by
  unfold Srt rem at *
  have e : K.take q ++ K.drop q = K := List.take_append_drop q K
  have hs : (K.take q ++ K.drop (q + 1)).Sublist K := by
    conv => rhs; rw [← e]
    exact (List.Sublist.refl _).append (by rw [← List.drop_drop]; exact List.drop_sublist _ _)
  exact hS.sublist hs
theorem putT_ok (o : Ord lt) (h : TOK lt m K V) (hp : putT lt m K V k v = (K', V', b)) : TOK lt m K' V' := by
  unfold putT at hp
  split at hp
  · cases hp; exact ⟨by rw [List.length_set]; exact h.len, h.srt, h.le, h.lim⟩
  · rename_i hh
    split at hp
    · cases hp
      exact ⟨by rw [ins_len, ins_len, h.len], srt_ins o h.srt (by simpa using hh), by rw [ins_len]; omega, h.lim⟩
    · cases hp; exact h
theorem dropT_ok (h : TOK lt m K V) (hp : dropT lt K V k = (K', V', b)) : TOK lt m K' V' := by
  unfold dropT at hp
  split at hp
  · rename_i hh
    cases hp
    have h1 := rem_len (has_lt hh)
    have h2 := rem_len (l := V) (q := pos lt K k) (by rw [h.len]; exact has_lt hh)
    have := h.len
    have := h.le
    exact ⟨by omega, srt_rem h.srt _, by omega, h.lim⟩
  · cases hp; exact h
theorem putT_has (hh : has lt K k = true) (hp : putT lt m K V k v = (K', V', b)) : K = K' ∧ V.set (pos lt K k) v = V' ∧ true = b := by
  unfold putT at hp; rw [if_pos hh] at hp; cases hp; exact ⟨rfl, rfl, rfl⟩
theorem putT_new (hh : has lt K k = false) (hm : (K.length : Int) < m) (hp : putT lt m K V k v = (K', V', b)) : ins K (pos lt K k) k = K' ∧ ins V (pos lt K k) v = V' ∧ true = b := by
  unfold putT at hp; rw [if_neg (by rw [hh]; simp), if_pos hm] at hp; cases hp; exact ⟨rfl, rfl, rfl⟩
theorem putT_full (hh : has lt K k = false) (hm : ¬ (K.length : Int) < m) (hp : putT lt m K V k v = (K', V', b)) : K = K' ∧ V = V' ∧ false = b := by
  unfold putT at hp; rw [if_neg (by rw [hh]; simp), if_neg hm] at hp; cases hp; exact ⟨rfl, rfl, rfl⟩
theorem dropT_has (hh : has lt K k = true) (hp : dropT lt K V k = (K', V', b)) : rem K (pos lt K k) = K' ∧ rem V (pos lt K k) = V' ∧ true = b := by
  unfold dropT at hp; rw [if_pos hh] at hp; cases hp; exact ⟨rfl, rfl, rfl⟩
theorem dropT_not (hh : has lt K k = false) (hp : dropT lt K V k = (K', V', b)) : K = K' ∧ V = V' ∧ false = b := by
  unfold dropT at hp; rw [if_neg (by rw [hh]; simp)] at hp; cases hp; exact ⟨rfl, rfl, rfl⟩
theorem getT_has {d x : ν} (hh : has lt K k = true) (hx : V[pos lt K k]? = some x) : getT lt K V k d = (x, true) := by
  unfold getT; rw [if_pos hh, hx]; rfl
theorem getT_not {d : ν} (hh : has lt K k = false) : getT lt K V k d = (d, false) := by
  unfold getT; rw [if_neg (by rw [hh]; simp)]
end
/-- a table at p, for m entries, with the keys K and the values V -/
def Tab (TT eK eV : TypeId) {κ ν : Type} (encK : κ → List Value) (encV : ν → List Value) (lt : κ → κ → Bool) (p : Nat) (m : Int) (K : List κ) (V : List ν) : Ass := fun rs =>
  ∃ kv vv, Parts [cell p TT #[.int .i64 m, kv, vv], Vec eK 1 encK kv K, Vec eV 1 encV vv V] rs ∧ TOK lt m K V
theorem Tab.open_ {TT eK eV : TypeId} {κ ν : Type} {encK : κ → List Value} {encV : ν → List Value} {lt : κ → κ → Bool} {p : Nat} {m : Int} {K : List κ} {V : List ν} : ∀ rs, Tab TT eK eV encK encV lt p m K V rs → ∃ x : { _z : Value × Value // TOK lt m K V }, Parts [cell p TT #[.int .i64 m, x.1.1, x.1.2], Vec eK 1 encK x.1.1 K, Vec eV 1 encV x.1.2 V] rs :=
  fun rs ⟨kv, vv, h, hk⟩ => ⟨⟨(kv, vv), hk⟩, h⟩
theorem Tab.mk_ {TT eK eV : TypeId} {κ ν : Type} {encK : κ → List Value} {encV : ν → List Value} {lt : κ → κ → Bool} {p : Nat} {m : Int} {K : List κ} {V : List ν} {kv vv : Value} (hk : TOK lt m K V) {y : List RowT} (h : Parts [cell p TT #[.int .i64 m, kv, vv], Vec eK 1 encK kv K, Vec eV 1 encV vv V] y) : Tab TT eK eV encK encV lt p m K V y := ⟨kv, vv, h, hk⟩
theorem Tab.ok {TT eK eV : TypeId} {κ ν : Type} {encK : κ → List Value} {encV : ν → List Value} {lt : κ → κ → Bool} {p : Nat} {m : Int} {K : List κ} {V : List ν} : ∀ rs, Tab TT eK eV encK encV lt p m K V rs → TOK lt m K V := fun _ ⟨_, _, _, h⟩ => h
end Go.Proofs.Ytmlfgdedhhmkpaa.Sep
