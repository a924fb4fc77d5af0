/-
  SgJ · SgK · SgR · SgAp
-/
import Derived.Test.YtnknboibmifacaaGreatDoorVN01
import Derived.Test.YtnknboibmifacaaGreatDoorVN03
set_option linter.unusedSimpArgs false
set_option linter.unusedVariables false
namespace Go.Proofs.YtnknboibmifacaaGreatDoor.Sep
open Go.RowKit
theorem Dc {α : Type} (l : List α) : l = [] ∨ ∃ r e, l = r ++ [e] := by
  rcases List.eq_nil_or_concat l with h | ⟨r, e, h⟩
  · exact .inl h
  · exact .inr ⟨r, e, by rw [h, List.concat_eq_append]⟩
abbrev LogMs := List (Nat × List EntD)
def BF (es : List EntD) : List UInt8 := es.flatMap JI
def Gv : Nat → List EntD → List (EntD × Nat)
  | _, [] => []
  | o, e :: r => (e, o + (JI e).length) :: Gv (o + (JI e).length) r
def Cy (es : List EntD) : List (Int × Nat) := (Gv 0 es).map fun x => (x.1.t, x.2)
def Aq (M : LogMs) : SegsM := M.map fun q => (q.1, Cy q.2)
def Cu (M : LogMs) : FS := M.map fun q => (nameL q.1, BF q.2)
def AE (M : LogMs) : List EntD := M.flatMap (·.2)
theorem J7 (e : EntD) (r : List EntD) : BF (e :: r) = JI e ++ BF r := rfl
theorem J8 (es : List EntD) (e : EntD) : BF (es ++ [e]) = BF es ++ JI e := by simp [BF]
theorem Mq : ∀ (es : List EntD) (o : Nat) (e : EntD), Gv o (es ++ [e]) = Gv o es ++ [(e, o + (BF es).length + (JI e).length)]
  | [], o, e => by simp [Gv, BF]
  | x :: r, o, e => by
    simp only [List.cons_append, Gv, Mq r, J7, List.length_append, List.cons.injEq, true_and]
    congr 3
    omega
theorem Hf : ∀ (es : List EntD) (o : Nat), (Gv o es).map (·.1) = es
  | [], _ => rfl
  | x :: r, o => by simp [Gv, Hf r]
theorem TX (es : List EntD) (o : Nat) : (Gv o es).length = es.length := by
 have := congrArg List.length (Hf es o)
 rwa [List.length_map] at this
theorem Lo (es : List EntD) (e : EntD) : Cy (es ++ [e]) = Cy es ++ [(e.t, (BF es).length + (JI e).length)] := by
 unfold Cy
 rw [Mq, List.map_append]
 simp
theorem Cz (es : List EntD) : (Cy es).length = es.length := by unfold Cy; rw [List.length_map, TX]
theorem Gw (es : List EntD) (e : EntD) : (Cy (es ++ [e])).getLast? = some (e.t, (BF (es ++ [e])).length) := by
 rw [Lo, List.getLast?_append, J8, List.length_append]; rfl
theorem Lp (es : List EntD) : Hd (Cy es) = (BF es).length := by
  rcases Dc es with rfl | ⟨r, e, rfl⟩
  · rfl
  · unfold Hd
    rw [Gw]
    rfl
theorem F8 {es : List EntD} (h : es ≠ []) : Cy es ≠ [] := fun h0 => h (List.length_eq_zero_iff.1 (by rw [← Cz, h0]; rfl))
theorem Mr : ∀ (es : List EntD) (o : Nat), (∀ e, e ∈ es → BR e = true) → FN o (es.map B9) = Gv o es
  | [], _, _ => rfl
  | e :: r, o, h => by
    have he := h e (List.mem_cons_self ..)
    have hd : Ei (B9 e) = (e, 0) := Fx (by have := ET he; omega) (Rn he) rfl he
    show (if (Ei (B9 e)).2 = 0 then ((Ei (B9 e)).1, o + (8 + (B9 e).length)) :: FN (o + (8 + (B9 e).length)) (r.map B9) else []) = _
    rw [hd, if_pos rfl, ← I9 he, Mr r _ (fun x hx => h x (List.mem_cons_of_mem _ hx))]
    rfl
theorem Nd (es : List EntD) : BF es = Fa (es.map B9) := by
 unfold BF Fa
 rw [List.map_map, List.flatMap_def]
 rfl
theorem OC {es : List EntD} (h : ∀ e, e ∈ es → BR e = true) : J4 (BF es) = Gv 0 es := by
 have h1 := JW (es.map B9) (fun x hx => by
  obtain ⟨e, he, rfl⟩ := List.mem_map.1 hx
  have := ET (h e he); omega) []
 rw [List.append_nil] at h1
 unfold J4
 rw [Nd, h1]
 show FN 0 (es.map B9 ++ []) = _
 rw [List.append_nil, Mr es 0 h]
structure LogC (L : List EntD) : Prop where
  right : ∀ e, e ∈ L → BR e = true
  fol : ∀ A b B, L = A ++ b :: B → FO (AG A) b
theorem Lq (A : List EntD) {B : List EntD} (h : B ≠ []) : AG (A ++ B) = AG B := by
  rcases Dc B with rfl | ⟨r, e, rfl⟩
  · exact absurd rfl h
  · rw [← List.append_assoc, DG, DG]
theorem Nf (b : EntD) : FO (AG []) b := ⟨.inl rfl, by decide, by decide⟩
theorem LogC.suffix {A B : List EntD} (h : LogC (A ++ B)) : LogC B := ⟨fun e he => h.right e (List.mem_append_right _ he), fun C b D hB => by
  by_cases hC : C = []
  · subst hC; exact Nf b
  · have := h.fol (A ++ C) b D (by rw [hB, List.append_assoc])
    rwa [Lq A hC] at this⟩
theorem LogC.front {A B : List EntD} (h : LogC (A ++ B)) : LogC A := ⟨fun e he => h.right e (List.mem_append_left _ he), fun C b D hA => h.fol C b (D ++ B) (by rw [hA, List.append_assoc]; rfl)⟩
theorem LogC.push {A : List EntD} {e : EntD} (h : LogC A) (hr : BR e = true) (hf : FO (AG A) e) : LogC (A ++ [e]) := ⟨fun x hx => by
  rcases List.mem_append.1 hx with hx | hx
  · exact h.right x hx
  · rw [List.mem_singleton.1 hx]; exact hr, fun C b D hA => by
  rcases Dc D with rfl | ⟨D', x, rfl⟩
  · obtain ⟨h1, h2⟩ := List.append_inj' hA rfl
    cases h2
    rw [← h1]; exact hf
  · rw [← List.cons_append, ← List.append_assoc] at hA
    obtain ⟨h1, h2⟩ := List.append_inj' hA rfl
    exact h.fol C b D' h1⟩
theorem LogC.nil : LogC [] := ⟨fun _ h => (List.not_mem_nil h).elim, fun A b B h => by simp at h⟩
theorem Ng {e : EntD} (h : BR e = true) : 1 ≤ e.i ∧ e.i ≤ 72057594037927935 := (Fw h).2.1
theorem Lr : ∀ (R : List EntD) (e x : EntD) (k : Nat), LogC (e :: R) → R[k]? = some x → x.i = e.i + (k : Int) + 1
  | [], _, _, _, _, h => by simp at h
  | y :: R, e, x, k, hc, h => by
    have h1 := Ng (hc.right e (List.mem_cons_self ..))
    have h2 : FO (e.t, e.i) y := hc.fol [e] y R rfl
    have h3 : y.i = e.i + 1 := by
      rcases h2.1 with h0 | ⟨_, h0, _⟩
      · have : e.i = 0 := h0
        omega
      · exact h0
    cases k with
    | zero =>
      simp only [List.getElem?_cons_zero, Option.some.injEq] at h
      rw [← h, h3]; simp
    | succ k =>
      have h4 := Lr R y x k (LogC.suffix (A := [e]) hc) (by simpa using h)
      rw [h4, h3]; push_cast; omega
theorem QX {R : List EntD} {e x : EntD} (hc : LogC (e :: R)) (hx : x ∈ R) : e.i < x.i := by
 obtain ⟨k, hk⟩ := List.getElem?_of_mem hx
 have := Lr R e x k hc hk
 omega
structure LogG (M : LogMs) : Prop where
  ne : ∀ q, q ∈ M → q.2 ≠ []
  c : LogC (AE M)
  hd : ∀ q, q ∈ M → ∀ e r, q.2 = e :: r → e.i = (q.1 : Int)
  many : (AE M).length ≤ 1000
theorem BL (A B : LogMs) : AE (A ++ B) = AE A ++ AE B := by simp [AE]
theorem LogG.nil : LogG [] := ⟨fun _ h => (List.not_mem_nil h).elim, LogC.nil, fun _ h => (List.not_mem_nil h).elim, by decide⟩
theorem LogG.tail {q : Nat × List EntD} {M : LogMs} (h : LogG (q :: M)) : LogG M := ⟨fun x hx => h.ne x (List.mem_cons_of_mem _ hx), LogC.suffix (A := q.2) h.c, fun x hx => h.hd x (List.mem_cons_of_mem _ hx), by have := h.many; simp only [AE, List.flatMap_cons, List.length_append] at this ⊢; omega⟩
theorem LogG.lt {q : Nat × List EntD} {M : LogMs} (h : LogG (q :: M)) : ∀ x, x ∈ M → q.1 < x.1 := fun x hx => by
 obtain ⟨e, r, he⟩ : ∃ e r, q.2 = e :: r := List.exists_cons_of_ne_nil (h.ne q (List.mem_cons_self ..))
 obtain ⟨e', r', he'⟩ : ∃ e r, x.2 = e :: r := List.exists_cons_of_ne_nil (h.ne x (List.mem_cons_of_mem _ hx))
 have h1 := h.hd q (List.mem_cons_self ..) e r he
 have h2 := h.hd x (List.mem_cons_of_mem _ hx) e' r' he'
 have hc : LogC (e :: (r ++ AE M)) := by
  have := h.c
  simp only [AE, List.flatMap_cons, he] at this
  exact this
 have hm : e' ∈ r ++ AE M := List.mem_append_right _ (List.mem_flatMap.2 ⟨x, hx, by rw [he']; exact List.mem_cons_self ..⟩)
 have := QX hc hm
 omega
theorem LogG.asc : ∀ {M : LogMs}, LogG M → (M.map (·.1)).Pairwise (· < ·)
  | [], _ => List.Pairwise.nil
  | q :: M, h => by
    rw [List.map_cons, List.pairwise_cons]
    exact ⟨fun a ha => by
      obtain ⟨x, hx, rfl⟩ := List.mem_map.1 ha
      exact h.lt x hx, h.tail.asc⟩
theorem LogG.few : ∀ {M : LogMs}, LogG M → M.length ≤ (AE M).length
  | [], _ => Nat.le_refl _
  | q :: M, h => by
    have h1 := h.tail.few
    have h2 : 0 < q.2.length := List.length_pos_iff.2 (h.ne q (List.mem_cons_self ..))
    simp only [AE, List.flatMap_cons, List.length_append, List.length_cons] at h1 ⊢
    omega
theorem LogG.first {M : LogMs} (h : LogG M) {q : Nat × List EntD} (hq : q ∈ M) : 1 ≤ q.1 ∧ q.1 ≤ 72057594037927935 := by
 obtain ⟨e, r, he⟩ : ∃ e r, q.2 = e :: r := List.exists_cons_of_ne_nil (h.ne q hq)
 have h1 := h.hd q hq e r he
 have h2 := Ng (h.c.right e (List.mem_flatMap.2 ⟨q, hq, by rw [he]; exact List.mem_cons_self ..⟩))
 omega
theorem LogG.seg {M : LogMs} (h : LogG M) {q : Nat × List EntD} (hq : q ∈ M) : LogC q.2 := by
 obtain ⟨A, B, rfl⟩ := List.append_of_mem hq
 have h1 := h.c
 rw [BL] at h1
 have h2 : LogC (q.2 ++ AE B) := h1.suffix
 exact h2.front
end Go.Proofs.YtnknboibmifacaaGreatDoor.Sep
namespace Go.Proofs.YtnknboibmifacaaGreatDoor.Sep
open Go.RowKit
theorem Ls : ∀ (j k m : Nat), j ≤ k → Ce j (m % 16 ^ k) = Ce j m
  | 0, _, _, _ => rfl
  | j + 1, k, m, hj => by
    show Dw ((m % 16 ^ k) / 16 ^ j % 16) :: Ce j (m % 16 ^ k) = Dw (m / 16 ^ j % 16) :: Ce j m
    rw [Ls j k m (by omega)]
    congr 2
    obtain ⟨q, rfl⟩ : ∃ q, k = j + 1 + q := ⟨k - (j + 1), by omega⟩
    have h1 : 16 ^ (j + 1 + q) = 16 ^ j * (16 * 16 ^ q) := by rw [Nat.pow_add, Nat.pow_succ, Nat.mul_assoc]
    rw [h1, Nat.mod_mul_right_div_self, Nat.mod_mul_right_mod]
theorem R9 {a b : Nat} (ha : a < 16) (hb : b < 16) (h : Dw a < Dw b) : a < b := by
 have key : ∀ a : Fin 16, ∀ b : Fin 16, Dw a.1 < Dw b.1 → a.1 < b.1 := by decide
 exact key ⟨a, ha⟩ ⟨b, hb⟩ h
theorem QY : ∀ (k m n : Nat), m ≤ n → n < 16 ^ k → ¬ Ce k n < Ce k m
  | 0, _, _, _, _ => by intro h; cases h
  | k + 1, m, n, hmn, hn => by
    intro h
    have e2 : n / 16 ^ k < 16 := Nat.div_lt_of_lt_mul (by rw [← Nat.pow_succ]; exact hn)
    have e3 : m / 16 ^ k ≤ n / 16 ^ k := Nat.div_le_div_right hmn
    simp only [Ce, List.cons_lt_cons_iff] at h
    rw [Nat.mod_eq_of_lt e2, Nat.mod_eq_of_lt (Nat.lt_of_le_of_lt e3 e2)] at h
    rcases h with h | ⟨h1, h2⟩
    · have := R9 e2 (Nat.lt_of_le_of_lt e3 e2) h
      omega
    · have h3 := QM e2 (Nat.lt_of_le_of_lt e3 e2) h1
      have a1 := Nat.div_add_mod m (16 ^ k)
      have a2 := Nat.div_add_mod n (16 ^ k)
      rw [h3] at a2
      refine QY k (m % 16 ^ k) (n % 16 ^ k) (by omega) (Nat.mod_lt _ (Nat.pow_pos (by decide))) ?_
      rw [Ls k k n (Nat.le_refl _), Ls k k m (Nat.le_refl _)]
      exact h2
theorem TY {m n : Nat} (h : m ≤ n) (hn : n ≤ 72057594037927935) : nameL m ≤ nameL n := by
  intro h1
  have h2 : nameL n < nameL m := h1
  unfold nameL at h2
  rw [List.cons_lt_cons_iff] at h2
  rcases h2 with h2 | ⟨_, h2⟩
  · exact absurd h2 (by decide)
  · exact QY 15 m n h (by omega) h2
theorem Lt (M : LogMs) : A6 (Cu M) = (M.map (·.1)).map nameL := by
  unfold A6 Cu
  rw [List.map_map, List.map_map]
  rfl
theorem D7 {M : LogMs} (h : LogG M) : (A6 (Cu M)).Nodup := by
 rw [Lt]
 unfold List.Nodup
 rw [List.pairwise_map]
 refine h.asc.imp_of_mem fun {a b} ha hb hab e => ?_
 obtain ⟨x, hx, rfl⟩ := List.mem_map.1 ha
 obtain ⟨y, hy, rfl⟩ := List.mem_map.1 hb
 have := RV (h.first hx).2 (h.first hy).2 e
 omega
theorem OD {M : LogMs} (h : LogG M) : Ik (Cu M) = (M.map (·.1)).map nameL := by
  unfold Ik
  rw [Lt]
  refine List.mergeSort_of_pairwise ?_
  rw [List.pairwise_map]
  refine h.asc.imp_of_mem fun {a b} ha hb hab => ?_
  obtain ⟨y, hy, rfl⟩ := List.mem_map.1 hb
  exact decide_eq_true (TY (Nat.le_of_lt hab) (h.first hy).2)
theorem F9 {M : LogMs} (h : LogG M) {q : Nat × List EntD} (hq : q ∈ M) : Bq (Cu M) (nameL q.1) = some (BF q.2) := (Cx (D7 h)).2 (List.mem_map.2 ⟨q, hq, rfl⟩)
theorem EI : ∀ {es : List EntD}, (∀ e, e ∈ es → BR e = true) → (BF es).length ≤ 155 * es.length
  | [], _ => Nat.zero_le _
  | e :: r, h => by
    have h1 := EI (es := r) fun x hx => h x (List.mem_cons_of_mem _ hx)
    have he := h e (List.mem_cons_self ..)
    have h2 := I9 he
    have h3 := ET he
    rw [J7, List.length_append, List.length_cons]
    omega
theorem Lu : ∀ (M : LogMs), Be (Cu M) = (BF (AE M)).length
  | [] => rfl
  | q :: M => by
    have h1 := Lu M
    show Be ((nameL q.1, BF q.2) :: Cu M) = (BF (q.2 ++ AE M)).length
    rw [Jo, h1]
    unfold BF
    rw [List.flatMap_append, List.length_append]
structure LogD (d : DiskD) (M : LogMs) (w : Nat) : Prop where
  down : d.down = false
  fuse : d.fuse = none
  room : d.room = 1048576
  wl : d.wait.length ≤ w
  ws : Be d.syn + (d.wait.map OpD.size).sum ≤ 1000000 + 155 * w
  now : d.now = Cu M
  g : LogG M
theorem LogD.fit {d : DiskD} {M : LogMs} {w : Nat} (h : LogD d M w) (hw : w ≤ 10000) : d.fit := ⟨by have := h.ws; omega, by have := h.wl; omega⟩
theorem HG {d : DiskD} (h1 : d.down = false) (h2 : d.fuse = none) : Cj d = (d, 0) := by
 obtain ⟨r, s, w, f, dn⟩ := d
 simp only at h1 h2
 subst h1; subst h2
 simp [Cj]
theorem LogD.read {d : DiskD} {M : LogMs} {w : Nat} (h : LogD d M w) {q : Nat × List EntD} (hq : q ∈ M) : D6 d (nameL q.1) = some (BF q.2) := by
 unfold D6
 rw [if_neg (by rw [h.down]; decide), h.now]
 exact F9 h.g hq
theorem LogD.ents {d : DiskD} {M : LogMs} {w : Nat} (h : LogD d M w) {q : Nat × List EntD} (hq : q ∈ M) : Cn d q.1 = Gv 0 q.2 := by
 unfold Cn
 rw [h.read hq]
 exact OC (h.g.seg hq).right
theorem LogD.marks {d : DiskD} {M : LogMs} {w : Nat} (h : LogD d M w) {q : Nat × List EntD} (hq : q ∈ M) : CA d q.1 = Cy q.2 := by
 unfold CA
 rw [h.ents hq]
 rfl
theorem LogD.lists {d : DiskD} {M : LogMs} {w : Nat} (h : LogD d M w) : ∀ {M' : LogMs}, (∀ q, q ∈ M' → q ∈ M) → By d (M'.map (·.1)) = AE M'
  | [], _ => rfl
  | q :: M', hs => by
    have h1 := h.lists (M' := M') fun x hx => hs x (List.mem_cons_of_mem _ hx)
    show (Cn d q.1).map (·.1) ++ By d (M'.map (·.1)) = q.2 ++ AE M'
    rw [h1, h.ents (hs q (List.mem_cons_self ..)), Hf]
theorem LogD.marksM {d : DiskD} {M : LogMs} {w : Nat} (h : LogD d M w) : Sep.marksM d (M.map (·.1)) = Aq M := by
  unfold Sep.marksM Aq
  rw [List.map_map]
  exact List.map_congr_left fun q hq => by show (q.1, CA d q.1) = _; rw [h.marks hq]
theorem LogD.opens {dk lim w : Nat} {d : DiskD} {M : LogMs} (tb : Tb) (h : LogD d M w) (hw : w ≤ 10000) (hl1 : 64 ≤ lim) (hl2 : lim ≤ 16384) : AP Tryz.prog 11 #[.pointer (some ⟨dk, 0, none⟩), .int .i64 (lim : Int)] [Ag dk d, Ao tb] (fun (p : Nat) => .tuple #[.pointer (some ⟨p, 0, none⟩), .int .i64 0]) (fun (p : Nat) => [AA p dk lim (Aq M), Ag dk d, Ao tb]) := by
  have hfew := h.g.few
  have hmany := h.g.many
  have hat : ∀ {j f : Nat}, (M.map (·.1))[j]? = some f → ∃ q, M[j]? = some q ∧ q.1 = f ∧ q ∈ M := fun {j f} hj => by
    rw [List.getElem?_map] at hj
    cases hq : M[j]? with
    | none => rw [hq] at hj; cases hj
    | some q => rw [hq] at hj; exact ⟨q, rfl, by simpa using hj, List.mem_of_getElem? hq⟩
  have hlist := h.lists (M' := M) fun _ hq => hq
  have h1 := R7 (dk := dk) (lim := lim) (d := d) (fs := M.map (·.1)) hl1 hl2 h.down (by rw [h.now]; unfold Cu; rw [List.length_map]; omega) (by rw [h.now]; exact OD h.g) tb (h.fit hw)
    (fun f hf => by obtain ⟨q, hq, rfl⟩ := List.mem_map.1 hf; exact (h.g.first hq).2) (by rw [List.length_map]; omega) (by rw [hlist]; omega)
    (fun f b hf hb => by
      obtain ⟨q, hq, rfl⟩ := List.mem_map.1 hf
      rw [h.read hq] at hb
      have h3 := EI (h.g.seg hq).right
      have h4 : q.2.length ≤ (AE M).length := by
        obtain ⟨A, B, rfl⟩ := List.append_of_mem hq
        rw [BL]
        show _ ≤ (AE A ++ (q.2 ++ AE B)).length
        simp only [List.length_append]; omega
      rw [← hb]
      show (BF q.2).length ≤ _
      omega)
    (fun j f i e n hj hi => by
      obtain ⟨q, hqj, rfl, hq⟩ := hat hj
      rw [h.ents hq] at hi
      have hi1 : q.2[i]? = some e := by
        have := congrArg (·[i]?) (Hf q.2 0)
        simp only [List.getElem?_map, hi, Option.map_some] at this
        exact this.symm
      have hup : Cr d (M.map (·.1)) j q.1 i = AE (M.take j) ++ q.2.take i := by
        unfold Cr
        rw [← List.map_take, h.lists (M' := M.take j) (fun x hx => List.mem_of_mem_take hx), h.ents hq, List.map_take, Hf]
      rw [hup]
      have hL : AE M = (AE (M.take j) ++ q.2.take i) ++ e :: (q.2.drop (i + 1) ++ AE (M.drop (j + 1))) := by
        conv => lhs; rw [← List.take_append_drop j M, Dt hqj, BL]
        show AE (M.take j) ++ (q.2 ++ AE (M.drop (j + 1))) = _
        conv => lhs; rw [← List.take_append_drop i q.2, Dt hi1]
        simp
      obtain ⟨h5, h6, h7⟩ := h.g.c.fol _ _ _ hL
      exact ⟨fun h0 => by
        subst h0
        obtain ⟨e', r, he⟩ := List.exists_cons_of_ne_nil (h.g.ne q hq)
        rw [he] at hi1
        simp only [List.getElem?_cons_zero, Option.some.injEq] at hi1
        rw [← hi1]
        exact h.g.hd q hq e' r he, h5, h6, h7⟩)
    (fun j f b hj hb => by
      obtain ⟨q, _, rfl, hq⟩ := hat hj
      rw [h.read hq] at hb
      rw [h.marks hq]
      rcases Dc q.2 with h0 | ⟨r, e, he⟩
      · exact absurd h0 (h.g.ne q hq)
      · rw [he, Gw]
        exact ⟨_, rfl, by rw [← hb, he]; rfl⟩)
  rw [h.marksM] at h1
  exact h1
end Go.Proofs.YtnknboibmifacaaGreatDoor.Sep
namespace Go.Proofs.YtnknboibmifacaaGreatDoor.Sep
open Go.RowKit
section
variable {κ ν : Type} [DecidableEq κ]
theorem OE {l : List (κ × ν)} {k : κ} {b x : ν} (hn : (A6 (l ++ [(k, b)])).Nodup) : BM (l ++ [(k, b)]) k x = l ++ [(k, x)] := by
 unfold BM
 rw [Jk (x := b) (j := l.length) hn (by simp)]
 simp only [Nat.zero_add]
 rw [List.set_append_right _ _ (Nat.le_refl _), Nat.sub_self]
 rfl
theorem TZ {l : List (κ × ν)} {k : κ} {b : ν} (hn : (A6 (l ++ [(k, b)])).Nodup) : Cp (l ++ [(k, b)]) k = l := by
 unfold Cp
 rw [Jk (x := b) (j := l.length) hn (by simp)]
 simp only [Nat.zero_add]
 rw [List.eraseIdx_append_of_length_le (Nat.le_refl _), Nat.sub_self]
 simp
end
theorem Dh (A B : LogMs) : Cu (A ++ B) = Cu A ++ Cu B := by simp [Cu]
theorem De (A B : LogMs) : Aq (A ++ B) = Aq A ++ Aq B := by simp [Aq]
def Nh (lim : Nat) (M : LogMs) (e : EntD) : LogMs :=
  match M.getLast? with
  | none => M ++ [(e.i.toNat, [e])]
  | some q => if lim < (BF q.2).length + (JI e).length then M ++ [(e.i.toNat, [e])] else M.dropLast ++ [(q.1, q.2 ++ [e])]
theorem Ga (lim : Nat) (M : LogMs) (q : Nat × List EntD) (e : EntD) : Nh lim (M ++ [q]) e = if lim < (BF q.2).length + (JI e).length then M ++ [q] ++ [(e.i.toNat, [e])] else M ++ [(q.1, q.2 ++ [e])] := by
 unfold Nh
 rw [List.getLast?_append]
 simp
theorem T1 {M : LogMs} {e : EntD} (h : LogG M) (hr : BR e = true) (hf : FO (AG (AE M)) e) (hm : (AE M).length < 1000) : LogG (M ++ [(e.i.toNat, [e])]) := by
  have hi := Ng hr
  have ha : AE (M ++ [(e.i.toNat, [e])]) = AE M ++ [e] := by rw [BL]; rfl
  refine ⟨fun q hq => ?_, by rw [ha]; exact h.c.push hr hf, fun q hq x r hx => ?_, by rw [ha, List.length_append]; simp only [List.length_cons, List.length_nil]; omega⟩
  · rcases List.mem_append.1 hq with hq | hq
    · exact h.ne q hq
    · rw [List.mem_singleton.1 hq]; simp
  · rcases List.mem_append.1 hq with hq | hq
    · exact h.hd q hq x r hx
    · rw [List.mem_singleton.1 hq] at hx ⊢
      simp only [List.cons.injEq] at hx
      rw [← hx.1]
      show e.i = (e.i.toNat : Int)
      omega
theorem T2 {M : LogMs} {q : Nat × List EntD} {e : EntD} (h : LogG (M ++ [q])) (hr : BR e = true) (hf : FO (AG (AE (M ++ [q]))) e) (hm : (AE (M ++ [q])).length < 1000) : LogG (M ++ [(q.1, q.2 ++ [e])]) := by
  have ha : AE (M ++ [(q.1, q.2 ++ [e])]) = AE (M ++ [q]) ++ [e] := by rw [BL, BL]; simp [AE]
  have hq0 : q ∈ M ++ [q] := List.mem_append_right _ (List.mem_singleton.2 rfl)
  refine ⟨fun x hx => ?_, by rw [ha]; exact h.c.push hr hf, fun x hx y r hy => ?_, by rw [ha, List.length_append]; simp only [List.length_cons, List.length_nil]; omega⟩
  · rcases List.mem_append.1 hx with hx | hx
    · exact h.ne x (List.mem_append_left _ hx)
    · rw [List.mem_singleton.1 hx]; simp
  · rcases List.mem_append.1 hx with hx | hx
    · exact h.hd x (List.mem_append_left _ hx) y r hy
    · rw [List.mem_singleton.1 hx] at hy ⊢
      obtain ⟨e0, r0, h0⟩ := List.exists_cons_of_ne_nil (h.ne q hq0)
      rw [h0] at hy
      simp only [List.cons_append, List.cons.injEq] at hy
      rw [← hy.1]
      exact h.hd q hq0 e0 r0 h0
theorem T3 (lim : Nat) (M : LogMs) (e : EntD) : AE (Nh lim M e) = AE M ++ [e] := by
  rcases Dc M with rfl | ⟨M0, q, rfl⟩
  · rfl
  · rw [Ga]
    split
    · rw [BL]; rfl
    · rw [BL, BL]; simp [AE]
theorem T4 {M : LogMs} {q : Nat × List EntD} (h : LogG (M ++ [q])) : Bq (Cu M) (nameL q.1) = none := by
 rw [Fh]
 intro hm
 have h1 := D7 h
 rw [Dh] at h1
 unfold A6 at h1 hm
 rw [List.map_append] at h1
 exact (List.nodup_append.1 h1).2.2 _ hm _ (List.mem_singleton.2 rfl) rfl
theorem LogD.appends {d : DiskD} {M : LogMs} {w : Nat} {n b : List UInt8} (h : LogD d M w) (hn : DM n = true) (hu : (BF (AE M)).length + b.length ≤ 1048576) (hf : M.length < 64) : CO d n b = (Dk d (.app n b), 0) := by
 unfold CO
 rw [HG h.down h.fuse]
 simp only
 rw [if_neg (by simp), hn, if_neg (by simp)]
 have h2 : H4 d n b = true := by
  unfold H4
  rw [h.now, Lu, Bool.and_eq_true, decide_eq_true_eq, h.room]
  refine ⟨by omega, ?_⟩
  have : (Cu M).length = M.length := by unfold Cu; rw [List.length_map]
  simp
  right
  omega
 rw [h2, if_neg (by simp)]
theorem QZ (n : Nat) : DM (nameL n) = true := by unfold DM; rw [RU]; rfl
theorem LogD.does {d : DiskD} {M M' : LogMs} {w : Nat} {n b : List UInt8} (h : LogD d M w) (hb : b.length ≤ 155) (hn : BM (Cu M) n ((Bq (Cu M) n).getD [] ++ b) = Cu M') (hg : LogG M') : LogD (Dk d (.app n b)) M' (w + 1) := by
 have hl := h.wl
 have hs := h.ws
 exact ⟨h.down, h.fuse, h.room, by show (d.wait ++ [_]).length ≤ _; rw [List.length_append]; simp only [List.length_cons, List.length_nil]; omega, by
  show Be d.syn + ((d.wait ++ [OpD.app n b]).map OpD.size).sum ≤ _
  rw [List.map_append, List.sum_append]
  simp only [List.map_cons, List.map_nil, List.sum_cons, List.sum_nil, OpD.size]
  omega, by rw [GZ, h.now]; exact hn, hg⟩
theorem LogD.new {d : DiskD} {M : LogMs} {w : Nat} {e : EntD} (h : LogD d M w) (hr : BR e = true) (hf : FO (AG (AE M)) e) (hm : (AE M).length < 60) : ∃ d', CO d (nameL e.i.toNat) (JI e) = (d', 0) ∧ LogD d' (M ++ [(e.i.toNat, [e])]) (w + 1) := by
 have hg := T1 h.g hr hf (by omega)
 have hfl := I9 hr
 have hle := ET hr
 have hbl := EI h.g.c.right
 have hfew := h.g.few
 refine ⟨_, h.appends (QZ _) (by omega) (by omega), h.does (by omega) ?_ hg⟩
 have h0 := T4 hg
 rw [E7 h0, h0, Dh]
 simp [Cu, BF]
theorem LogD.old {d : DiskD} {M : LogMs} {q : Nat × List EntD} {w : Nat} {e : EntD} (h : LogD d (M ++ [q]) w) (hr : BR e = true) (hf : FO (AG (AE (M ++ [q]))) e) (hm : (AE (M ++ [q])).length < 60) : ∃ d', CO d (nameL q.1) (JI e) = (d', 0) ∧ LogD d' (M ++ [(q.1, q.2 ++ [e])]) (w + 1) := by
 have hg := T2 h.g hr hf (by omega)
 have hfl := I9 hr
 have hle := ET hr
 have hbl := EI h.g.c.right
 have hfew := h.g.few
 refine ⟨_, h.appends (QZ _) (by omega) (by omega), h.does (by omega) ?_ hg⟩
 have h0 := F9 h.g (q := q) (List.mem_append_right _ (List.mem_singleton.2 rfl))
 have h1 := D7 h.g
 rw [h0]
 rw [Dh] at h1 ⊢
 show BM (Cu M ++ [(nameL q.1, BF q.2)]) _ _ = _
 rw [OE h1, Dh]
 simp [Cu, J8]
theorem LogD.add {lim w : Nat} {d : DiskD} {M : LogMs} {e : EntD} (h : LogD d M w) (hw : w ≤ 9999) (hr : BR e = true) (hf : FO (AG (AE M)) e) (hm : (AE M).length < 60) : Oy lim (Aq M, d) e ∧ ∃ d', Ox lim (Aq M, d) e = (Aq (Nh lim M e), d') ∧ LogD d' (Nh lim M e) (w + 1) := by
  have hfew := h.g.few
  have hml : (Aq M).length = M.length := by unfold Aq; rw [List.length_map]
  have hfit := h.fit (by omega)
  obtain ⟨d1, hd1, hD1⟩ := h.new hr hf hm
  rcases Dc M with rfl | ⟨M0, q, rfl⟩
  · refine ⟨⟨hr, hfit, by rw [hml]; omega, ?_⟩, d1, ?_, hD1⟩
    · show (CO d (nameL e.i.toNat) (JI e)).2 = 0
      rw [hd1]
    · show Lm _ e = _
      unfold Lm
      simp only
      rw [hd1]
      simp [Nh, Aq, Cy, Gv]
  · obtain ⟨d2, hd2, hD2⟩ := h.old hr hf hm
    have hq : q ∈ M0 ++ [q] := List.mem_append_right _ (List.mem_singleton.2 rfl)
    have hlast : (Aq (M0 ++ [q])).getLast? = some (q.1, Cy q.2) := by rw [De, List.getLast?_append]; rfl
    have hsz := Lp q.2
    have hbq := EI (h.g.seg hq).right
    have hlq : q.2.length < 60 := by rw [BL, List.length_append] at hm; simp only [AE, List.flatMap_cons, List.flatMap_nil, List.append_nil] at hm; omega
    have hso : TW (q.1, Cy q.2) := ⟨(h.g.first hq).2, F8 (h.g.ne q hq), by show (Cy q.2).length ≤ _; rw [Cz]; omega, by show Hd (Cy q.2) ≤ _; rw [hsz]; omega⟩
    by_cases hb : lim < (BF q.2).length + (JI e).length
    · refine ⟨⟨hr, hfit, by rw [hml]; omega, ?_⟩, d1, ?_, ?_⟩
      · simp only [hlast]
        refine ⟨hso, ?_⟩
        rw [hsz, if_pos hb, hd1]
      · unfold Ox
        simp only [hlast]
        rw [hsz, if_pos hb, Ga, if_pos hb]
        unfold Lm
        simp only
        rw [hd1, De (M0 ++ [q])]
        simp [Aq, Cy, Gv]
      · rw [Ga, if_pos hb]; exact hD1
    · refine ⟨⟨hr, hfit, by rw [hml]; omega, ?_⟩, d2, ?_, ?_⟩
      · simp only [hlast]
        refine ⟨hso, ?_⟩
        rw [hsz, if_neg hb, hd2]
      · unfold Ox
        simp only [hlast]
        rw [hsz, if_neg hb, Ga, if_neg hb, hd2, De, De]
        simp [Aq, Lo]
      · rw [Ga, if_neg hb]; exact hD2
end Go.Proofs.YtnknboibmifacaaGreatDoor.Sep
namespace Go.Proofs.YtnknboibmifacaaGreatDoor.Sep
open Go.RowKit
theorem OF {L : List EntD} {a b : Nat} {x y : EntD} (h : LogC L) (ha : L[a]? = some x) (hb : L[b]? = some y) : y.i + (a : Int) = x.i + (b : Int) := by
  have key : ∀ {a b : Nat} {x y : EntD}, a < b → L[a]? = some x → L[b]? = some y → y.i + (a : Int) = x.i + (b : Int) := fun {a b x y} hab ha hb => by
    have h1 : L = L.take a ++ (x :: L.drop (a + 1)) := by rw [← Dt ha, List.take_append_drop]
    have h2 : LogC (x :: L.drop (a + 1)) := LogC.suffix (A := L.take a) (by rw [← h1]; exact h)
    have h3 : (L.drop (a + 1))[b - (a + 1)]? = some y := by rw [List.getElem?_drop, show a + 1 + (b - (a + 1)) = b by omega]; exact hb
    have h4 := Lr _ x y _ h2 h3
    omega
  rcases Nat.lt_trichotomy a b with h1 | h1 | h1
  · exact key h1 ha hb
  · subst h1
    rw [ha] at hb
    cases hb
    rfl
  · have := key h1 hb ha
    omega
theorem Lv {M : LogMs} (h : LogG M) : Dr (Aq M) = AG (AE M) := by
  rcases Dc M with rfl | ⟨M0, q, rfl⟩
  · rfl
  · have hq : q ∈ M0 ++ [q] := List.mem_append_right _ (List.mem_singleton.2 rfl)
    have hlast : (Aq (M0 ++ [q])).getLast? = some (q.1, Cy q.2) := by rw [De, List.getLast?_append]; rfl
    have hseg := h.seg hq
    unfold Dr
    rw [hlast]
    simp only
    rw [Cz, BL, show AE [q] = q.2 by simp [AE], Lq _ (h.ne q hq)]
    rcases Dc q.2 with h0 | ⟨r, e, he⟩
    · exact absurd h0 (h.ne q hq)
    · obtain ⟨e0, r0, h0⟩ := List.exists_cons_of_ne_nil (h.ne q hq)
      have h1 := h.hd q hq e0 r0 h0
      have h2 : q.2[0]? = some e0 := by rw [h0]; rfl
      have h3 : q.2[r.length]? = some e := by rw [he]; simp
      have h4 := OF hseg h2 h3
      rw [he, Gw, DG, List.length_append]
      simp only [Option.map_some, Option.getD_some, List.length_cons, List.length_nil]
      congr 1
      omega
theorem OG {M : LogMs} (h : LogG M) : QW (Aq M) := by
  have hfew := h.few
  have hmany := h.many
  refine ⟨by unfold Aq; rw [List.length_map]; omega, ?_⟩
  rcases Dc M with rfl | ⟨M0, q, rfl⟩
  · exact trivial
  · have hq : q ∈ M0 ++ [q] := List.mem_append_right _ (List.mem_singleton.2 rfl)
    have hlast : (Aq (M0 ++ [q])).getLast? = some (q.1, Cy q.2) := by rw [De, List.getLast?_append]; rfl
    rw [hlast]
    have hbq := EI (h.seg hq).right
    have hlq : q.2.length ≤ 1000 := by rw [BL, List.length_append] at hmany; simp only [AE, List.flatMap_cons, List.flatMap_nil, List.append_nil] at hmany; omega
    exact ⟨(h.first hq).2, F8 (h.ne q hq), by show (Cy q.2).length ≤ _; rw [Cz]; omega, by show Hd (Cy q.2) ≤ _; rw [Lp]; omega⟩
def B6 (lim : Nat) (M : LogMs) (l : List EntV) : LogMs := l.foldl (fun M z => Nh lim M z.e) M
theorem Lw {lim : Nat} {M : LogMs} {l : List EntV} {j : Nat} {z : EntV} (h : l[j]? = some z) : B6 lim M (l.take (j + 1)) = Nh lim (B6 lim M (l.take j)) z.e := by
 unfold B6
 rw [List.take_add_one, h, List.foldl_append]
 rfl
theorem Fj (lim : Nat) : ∀ (l : List EntV) (M : LogMs), AE (B6 lim M l) = AE M ++ l.map (·.e)
  | [], M => by simp [B6]
  | z :: r, M => by
    show AE (B6 lim (Nh lim M z.e) r) = _
    rw [Fj lim r, T3]
    simp
theorem P5 {M : LogMs} (h : LogG M) (l : List EntV) (j : Nat) : CB (Dr (Aq M)) l j = AG (AE M ++ (l.take j).map (·.e)) := by
  unfold CB
  rcases Dc (l.take j) with h0 | ⟨r, z, hz⟩
  · rw [h0, Lv h]; simp
  · rw [hz, List.getLast?_append, List.map_append, ← List.append_assoc]
    show (z.e.t, z.e.i) = AG ((AE M ++ r.map (·.e)) ++ [z.e])
    rw [DG]
theorem LogD.adds {lim w : Nat} {d : DiskD} {M : LogMs} {l : List EntV} (h : LogD d M w) (hc : LogC (AE M ++ l.map (·.e))) (hm : (AE M).length + l.length ≤ 60) (hw : w + l.length ≤ 9999) : ∀ j, j ≤ l.length → ∃ d', CM lim (Aq M, d) (l.take j) = (Aq (B6 lim M (l.take j)), d') ∧ LogD d' (B6 lim M (l.take j)) (w + j)
  | 0, _ => ⟨d, rfl, h⟩
  | j + 1, hj => by
    obtain ⟨d1, h1, h2⟩ := h.adds hc hm hw j (by omega)
    obtain ⟨z, hz⟩ : ∃ z, l[j]? = some z := ⟨_, List.getElem?_eq_getElem (by omega)⟩
    have hze : z.e ∈ AE M ++ l.map (·.e) := List.mem_append_right _ (List.mem_map.2 ⟨z, List.mem_of_getElem? hz, rfl⟩)
    have hall : AE (B6 lim M (l.take j)) = AE M ++ (l.take j).map (·.e) := Fj lim _ M
    have hsp : AE M ++ l.map (·.e) = (AE M ++ (l.take j).map (·.e)) ++ z.e :: (l.drop (j + 1)).map (·.e) := by
      conv => lhs; rw [← List.take_append_drop j l, Dt hz]
      simp
    obtain ⟨_, d2, h3, h4⟩ := h2.add (lim := lim) (e := z.e) (by omega) (hc.right _ hze) (by rw [hall]; exact hc.fol _ _ _ hsp) (by rw [hall, List.length_append, List.length_map, List.length_take]; omega)
    refine ⟨d2, ?_, ?_⟩
    · rw [Mp hz, h1, h3, Lw hz]
    · rw [Lw hz]; exact h4
theorem LogD.append {lim w : Nat} {d : DiskD} {M : LogMs} {l : List EntV} (tb : Tb) (h : LogD d M w) (hli : lim ≤ 1000000000) (hc : LogC (AE M ++ l.map (·.e))) (hm : (AE M).length + l.length ≤ 60) (hw : w + l.length ≤ 9999) : ∃ d', LogD d' (B6 lim M l) (w + l.length) ∧ ∀ (p dk : Nat) (v : Value), AP Tryz.prog 13 #[.pointer (some ⟨p, 0, none⟩), v] [AA p dk lim (Aq M), Ag dk d, Ao tb, Cc 34 v l] (fun (_ : Unit) => .int .i64 0) (fun (_ : Unit) => [AA p dk lim (Aq (B6 lim M l)), Ag dk d', Ao tb, Cc 34 v l]) := by
  obtain ⟨d', h1, h2⟩ := h.adds (lim := lim) hc hm hw l.length (Nat.le_refl _)
  rw [List.take_length] at h1 h2
  have hsp : ∀ (j : Nat) (z : EntV), l[j]? = some z → BR z.e = true ∧ FO (AG (AE M ++ (l.take j).map (·.e))) z.e := fun j z hz => by
    have hze : z.e ∈ AE M ++ l.map (·.e) := List.mem_append_right _ (List.mem_map.2 ⟨z, List.mem_of_getElem? hz, rfl⟩)
    refine ⟨hc.right _ hze, hc.fol _ _ ((l.drop (j + 1)).map (·.e)) ?_⟩
    conv => lhs; rw [← List.take_append_drop j l, Dt hz]
    simp
  refine ⟨d', h2, fun p dk v => ?_⟩
  have h3 := OA (p := p) (dk := dk) (lim := lim) (s := (Aq M, d)) (v := v) (l := l) tb hli (by omega) (OG h.g)
    (fun j z hz => by
      show FO (CB (Dr (Aq M)) l j) z.e
      rw [P5 h.g]; exact (hsp j z hz).2)
    (fun j z hz => by
      have hjl := (List.getElem?_eq_some_iff.1 hz).1
      obtain ⟨d1, h4, h5⟩ := h.adds (lim := lim) hc hm hw j (by omega)
      have hall : AE (B6 lim M (l.take j)) = AE M ++ (l.take j).map (·.e) := Fj lim _ M
      obtain ⟨h6, _⟩ := h5.add (lim := lim) (e := z.e) (by omega) (hsp j z hz).1 (by rw [hall]; exact (hsp j z hz).2) (by rw [hall, List.length_append, List.length_map, List.length_take]; omega)
      rw [h4]; exact h6)
  rw [h1] at h3
  exact h3
end Go.Proofs.YtnknboibmifacaaGreatDoor.Sep
