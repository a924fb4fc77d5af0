/-
  SgJ · SgK · SgR · SgAp
-/
import Derived.Test.YtjcfimmcogkopaaGreatDoorWX01
import Derived.Test.YtjcfimmcogkopaaGreatDoorWN01
import Derived.Test.YtjcfimmcogkopaaGreatDoorWN03
set_option linter.unusedSimpArgs false
set_option linter.unusedVariables false
set_option maxHeartbeats 4000000
namespace Go.Proofs.YtjcfimmcogkopaaGreatDoor.Sep
variable {A B es : List EntD} {e : EntD} {q : Nat × List EntD}
open Go.RowKit
theorem BP {α : Type} (l : List α) : l = [] ∨ ∃ r e, l = r ++ [e] := by
  rcases List.eq_nil_or_concat l with h | ⟨r, e, h⟩
  · exact .inl h
  · exact .inr ⟨r, e, by rw [h, List.concat_eq_append]⟩
abbrev LogMs := List (Nat × List EntD)
def AI (es : List EntD) : List UInt8 := es.flatMap EV
def E1 : Nat → List EntD → List (EntD × Nat)
  | _, [] => []
  | o, e :: r => (e, o + (EV e).length) :: E1 (o + (EV e).length) r
def BZ (es : List EntD) : List (Int × Nat) := (E1 0 es).map fun x => (x.1.t, x.2)
def Ag (M : LogMs) : SegsM := M.map fun q => (q.1, BZ q.2)
def Bl (M : LogMs) : FS := M.map fun q => (nameL q.1, AI q.2)
def AB (M : LogMs) : List EntD := M.flatMap (·.2)
theorem KU (e : EntD) (r : List EntD) : AI (e :: r) = EV e ++ AI r := rfl
theorem KV (es : List EntD) (e : EntD) : AI (es ++ [e]) = AI es ++ EV e := by simp [AI]
theorem Nk : ∀ (es : List EntD) (o : Nat) (e : EntD), E1 o (es ++ [e]) = E1 o es ++ [(e, o + (AI es).length + (EV e).length)]
  | [], o, e => by simp [E1, AI]
  | x :: r, o, e => by
    simp only [List.cons_append, E1, Nk r, KU, List.length_append, List.cons.injEq, true_and]
    congr 3
    omega
theorem EX : ∀ (es : List EntD) (o : Nat), (E1 o es).map (·.1) = es
  | [], _ => rfl
  | x :: r, o => by simp [E1, EX r]
theorem Vb (es : List EntD) (o : Nat) : (E1 o es).length = es.length := by
 have := congrArg List.length (EX es o)
 rwa [List.length_map] at this
theorem Mr (es : List EntD) (e : EntD) : BZ (es ++ [e]) = BZ es ++ [(e.t, (AI es).length + (EV e).length)] := by
 unfold BZ
 rw [Nk, List.map_append]
 simp
theorem Cv (es : List EntD) : (BZ es).length = es.length := by unfold BZ; rw [List.length_map, Vb]
theorem DR (es : List EntD) (e : EntD) : (BZ (es ++ [e])).getLast? = some (e.t, (AI (es ++ [e])).length) := by
 rw [Mr, List.getLast?_append, KV, List.length_append]; rfl
theorem GG (es : List EntD) : HI (BZ es) = (AI es).length := by
  rcases BP es with rfl | ⟨r, e, rfl⟩
  · rfl
  · unfold HI
    rw [DR]
    rfl
theorem EH (h : es ≠ []) : BZ es ≠ [] := fun h0 => h (List.length_eq_zero_iff.1 (by rw [← Cv, h0]; rfl))
theorem Kx : ∀ (es : List EntD) (o : Nat), (∀ e, e ∈ es → Be e = true) → FG o (es.map BR) = E1 o es
  | [], _, _ => rfl
  | e :: r, o, h => by
    have he := h e (List.mem_cons_self ..)
    have hd : Ed (BR e) = (e, 0) := Fv (by have := Dq he; omega) (Sp he) rfl he
    show (if (Ed (BR e)).2 = 0 then ((Ed (BR e)).1, o + (8 + (BR e).length)) :: FG (o + (8 + (BR e).length)) (r.map BR) else []) = _
    rw [hd, if_pos rfl, ← GE he, Kx r _ (fun x hx => h x (List.mem_cons_of_mem _ hx))]
    rfl
theorem JL (es : List EntD) : AI es = E7 (es.map BR) := by
 unfold AI E7
 rw [List.map_map, List.flatMap_def]
 rfl
theorem KW (h : ∀ e, e ∈ es → Be e = true) : HF (AI es) = E1 0 es := by
 have h1 := Hz (es.map BR) (fun x hx => by
  obtain ⟨e, he, rfl⟩ := List.mem_map.1 hx
  have := Dq (h e he); omega) []
 rw [List.append_nil] at h1
 unfold HF
 rw [JL, h1]
 show FG 0 (es.map BR ++ []) = _
 rw [List.append_nil, Kx es 0 h]
structure LogC (L : List EntD) : Prop where
  right : ∀ e, e ∈ L → Be e = true
  fol : ∀ A b B, L = A ++ b :: B → EW (Ar A) b
theorem Ms (A : List EntD) (h : B ≠ []) : Ar (A ++ B) = Ar B := by
  rcases BP B with rfl | ⟨r, e, rfl⟩
  · exact absurd rfl h
  · rw [← List.append_assoc, Dt, Dt]
theorem N5 (b : EntD) : EW (Ar []) b := ⟨.inl rfl, by decide, by decide⟩
theorem LogC.suffix (h : LogC (A ++ B)) : LogC B := ⟨fun e he => h.right e (List.mem_append_right _ he), fun C b D hB => by
  by_cases hC : C = []
  · subst hC; exact N5 b
  · have := h.fol (A ++ C) b D (by rw [hB, List.append_assoc])
    rwa [Ms A hC] at this⟩
theorem LogC.front (h : LogC (A ++ B)) : LogC A := ⟨fun e he => h.right e (List.mem_append_left _ he), fun C b D hA => h.fol C b (D ++ B) (by rw [hA, List.append_assoc]; rfl)⟩
theorem LogC.push (h : LogC A) (hr : Be e = true) (hf : EW (Ar A) e) : LogC (A ++ [e]) := ⟨fun x hx => by
  rcases List.mem_append.1 hx with hx | hx
  · exact h.right x hx
  · rw [List.mem_singleton.1 hx]; exact hr, fun C b D hA => by
  rcases BP D with rfl | ⟨D', x, rfl⟩
  · obtain ⟨h1, h2⟩ := List.append_inj' hA rfl
    cases h2
    rw [← h1]; exact hf
  · rw [← List.cons_append, ← List.append_assoc] at hA
    obtain ⟨h1, h2⟩ := List.append_inj' hA rfl
    exact h.fol C b D' h1⟩
theorem LogC.nil : LogC [] := ⟨fun _ h => (List.not_mem_nil h).elim, fun A b B h => by simp at h⟩
theorem N6 (h : Be e = true) : 1 ≤ e.i ∧ e.i ≤ 72057594037927935 := (EB h).2.1
theorem Mt : ∀ (R : List EntD) (e x : EntD) (k : Nat), LogC (e :: R) → R[k]? = some x → x.i = e.i + (k : Int) + 1
  | [], _, _, _, _, h => by simp at h
  | y :: R, e, x, k, hc, h => by
    have h1 := N6 (hc.right e (List.mem_cons_self ..))
    have h2 : EW (e.t, e.i) y := hc.fol [e] y R rfl
    have h3 : y.i = e.i + 1 := by
      rcases h2.1 with h0 | ⟨_, h0, _⟩
      · have : e.i = 0 := h0
        omega
      · exact h0
    cases k with
    | zero =>
      simp only [List.getElem?_cons_zero, Option.some.injEq] at h
      rw [← h, h3]; simp
    | succ k =>
      have h4 := Mt R y x k (LogC.suffix (A := [e]) hc) (by simpa using h)
      rw [h4, h3]; push_cast; omega
theorem RX {R : List EntD} {x : EntD} (hc : LogC (e :: R)) (hx : x ∈ R) : e.i < x.i := by
 obtain ⟨k, hk⟩ := List.getElem?_of_mem hx
 have := Mt R e x k hc hk
 omega
structure LogG (M : LogMs) : Prop where
  ne : ∀ q, q ∈ M → q.2 ≠ []
  c : LogC (AB M)
  hd : ∀ q, q ∈ M → ∀ e r, q.2 = e :: r → e.i = (q.1 : Int)
  many : (AB M).length ≤ 1000
theorem Bi (A B : LogMs) : AB (A ++ B) = AB A ++ AB B := by simp [AB]
theorem LogG.nil : LogG [] := ⟨fun _ h => (List.not_mem_nil h).elim, LogC.nil, fun _ h => (List.not_mem_nil h).elim, by decide⟩
theorem LogG.tail {M : LogMs} (h : LogG (q :: M)) : LogG M := ⟨fun x hx => h.ne x (List.mem_cons_of_mem _ hx), LogC.suffix (A := q.2) h.c, fun x hx => h.hd x (List.mem_cons_of_mem _ hx), by have := h.many; simp only [AB, List.flatMap_cons, List.length_append] at this ⊢; omega⟩
theorem LogG.lt {M : LogMs} (h : LogG (q :: M)) : ∀ x, x ∈ M → q.1 < x.1 := fun x hx => by
 obtain ⟨e, r, he⟩ : ∃ e r, q.2 = e :: r := List.exists_cons_of_ne_nil (h.ne q (List.mem_cons_self ..))
 obtain ⟨e', r', he'⟩ : ∃ e r, x.2 = e :: r := List.exists_cons_of_ne_nil (h.ne x (List.mem_cons_of_mem _ hx))
 have h1 := h.hd q (List.mem_cons_self ..) e r he
 have h2 := h.hd x (List.mem_cons_of_mem _ hx) e' r' he'
 have hc : LogC (e :: (r ++ AB M)) := by
  have := h.c
  simp only [AB, List.flatMap_cons, he] at this
  exact this
 have hm : e' ∈ r ++ AB M := List.mem_append_right _ (List.mem_flatMap.2 ⟨x, hx, by rw [he']; exact List.mem_cons_self ..⟩)
 have := RX hc hm
 omega
theorem LogG.asc : ∀ {M : LogMs}, LogG M → (M.map (·.1)).Pairwise (· < ·)
  | [], _ => List.Pairwise.nil
  | q :: M, h => by
    rw [List.map_cons, List.pairwise_cons]
    exact ⟨fun a ha => by
      obtain ⟨x, hx, rfl⟩ := List.mem_map.1 ha
      exact h.lt x hx, h.tail.asc⟩
theorem LogG.few : ∀ {M : LogMs}, LogG M → M.length ≤ (AB M).length
  | [], _ => Nat.le_refl _
  | q :: M, h => by
    have h1 := h.tail.few
    have h2 : 0 < q.2.length := List.length_pos_iff.2 (h.ne q (List.mem_cons_self ..))
    simp only [AB, List.flatMap_cons, List.length_append, List.length_cons] at h1 ⊢
    omega
theorem LogG.first {M : LogMs} (h : LogG M) (hq : q ∈ M) : 1 ≤ q.1 ∧ q.1 ≤ 72057594037927935 := by
 obtain ⟨e, r, he⟩ : ∃ e r, q.2 = e :: r := List.exists_cons_of_ne_nil (h.ne q hq)
 have h1 := h.hd q hq e r he
 have h2 := N6 (h.c.right e (List.mem_flatMap.2 ⟨q, hq, by rw [he]; exact List.mem_cons_self ..⟩))
 omega
theorem LogG.seg {M : LogMs} (h : LogG M) (hq : q ∈ M) : LogC q.2 := by
 obtain ⟨A, B, rfl⟩ := List.append_of_mem hq
 have h1 := h.c
 rw [Bi] at h1
 have h2 : LogC (q.2 ++ AB B) := h1.suffix
 exact h2.front
end Go.Proofs.YtjcfimmcogkopaaGreatDoor.Sep
namespace Go.Proofs.YtjcfimmcogkopaaGreatDoor.Sep
variable {d : DiskD} {q : Nat × List EntD}
open Go.RowKit
theorem Mu : ∀ (j k m : Nat), j ≤ k → BS j (m % 16 ^ k) = BS j m
  | 0, _, _, _ => rfl
  | j + 1, k, m, hj => by
    show Di ((m % 16 ^ k) / 16 ^ j % 16) :: BS j (m % 16 ^ k) = Di (m / 16 ^ j % 16) :: BS j m
    rw [Mu j k m (by omega)]
    congr 2
    obtain ⟨q, rfl⟩ : ∃ q, k = j + 1 + q := ⟨k - (j + 1), by omega⟩
    have h1 : 16 ^ (j + 1 + q) = 16 ^ j * (16 * 16 ^ q) := by rw [Nat.pow_add, Nat.pow_succ, Nat.mul_assoc]
    rw [h1, Nat.mod_mul_right_div_self, Nat.mod_mul_right_mod]
theorem Tg {a b : Nat} (ha : a < 16) (hb : b < 16) (h : Di a < Di b) : a < b := by
 have key : ∀ a : Fin 16, ∀ b : Fin 16, Di a.1 < Di b.1 → a.1 < b.1 := by decide
 exact key ⟨a, ha⟩ ⟨b, hb⟩ h
theorem RY : ∀ (k m n : Nat), m ≤ n → n < 16 ^ k → ¬ BS k n < BS k m
  | 0, _, _, _, _ => by intro h; cases h
  | k + 1, m, n, hmn, hn => by
    intro h
    have e2 : n / 16 ^ k < 16 := Nat.div_lt_of_lt_mul (by rw [← Nat.pow_succ]; exact hn)
    have e3 : m / 16 ^ k ≤ n / 16 ^ k := Nat.div_le_div_right hmn
    simp only [BS, List.cons_lt_cons_iff] at h
    rw [Nat.mod_eq_of_lt e2, Nat.mod_eq_of_lt (Nat.lt_of_le_of_lt e3 e2)] at h
    rcases h with h | ⟨h1, h2⟩
    · have := Tg e2 (Nat.lt_of_le_of_lt e3 e2) h
      omega
    · have h3 := RL e2 (Nat.lt_of_le_of_lt e3 e2) h1
      have a1 := Nat.div_add_mod m (16 ^ k)
      have a2 := Nat.div_add_mod n (16 ^ k)
      rw [h3] at a2
      refine RY k (m % 16 ^ k) (n % 16 ^ k) (by omega) (Nat.mod_lt _ (Nat.pow_pos (by decide))) ?_
      rw [Mu k k n (Nat.le_refl _), Mu k k m (Nat.le_refl _)]
      exact h2
theorem Vc {m n : Nat} (h : m ≤ n) (hn : n ≤ 72057594037927935) : nameL m ≤ nameL n := by
  intro h1
  have h2 : nameL n < nameL m := h1
  unfold nameL at h2
  rw [List.cons_lt_cons_iff] at h2
  rcases h2 with h2 | ⟨_, h2⟩
  · exact absurd h2 (by decide)
  · exact RY 15 m n h (by omega) h2
theorem Mv (M : LogMs) : AC (Bl M) = (M.map (·.1)).map nameL := by
  unfold AC Bl
  rw [List.map_map, List.map_map]
  rfl
theorem Du {M : LogMs} (h : LogG M) : (AC (Bl M)).Nodup := by
 rw [Mv]
 unfold List.Nodup
 rw [List.pairwise_map]
 refine h.asc.imp_of_mem fun {a b} ha hb hab e => ?_
 obtain ⟨x, hx, rfl⟩ := List.mem_map.1 ha
 obtain ⟨y, hy, rfl⟩ := List.mem_map.1 hb
 have := SY (h.first hx).2 (h.first hy).2 e
 omega
theorem KX {M : LogMs} (h : LogG M) : FU (Bl M) = (M.map (·.1)).map nameL := by
  unfold FU
  rw [Mv]
  refine List.mergeSort_of_pairwise ?_
  rw [List.pairwise_map]
  refine h.asc.imp_of_mem fun {a b} ha hb hab => ?_
  obtain ⟨y, hy, rfl⟩ := List.mem_map.1 hb
  exact decide_eq_true (Vc (Nat.le_of_lt hab) (h.first hy).2)
theorem Gd {M : LogMs} (h : LogG M) (hq : q ∈ M) : AW (Bl M) (nameL q.1) = some (AI q.2) := (Bw (Du h)).2 (List.mem_map.2 ⟨q, hq, rfl⟩)
theorem C8 : ∀ {es : List EntD}, (∀ e, e ∈ es → Be e = true) → (AI es).length ≤ 155 * es.length
  | [], _ => Nat.zero_le _
  | e :: r, h => by
    have h1 := C8 (es := r) fun x hx => h x (List.mem_cons_of_mem _ hx)
    have he := h e (List.mem_cons_self ..)
    have h2 := GE he
    have h3 := Dq he
    rw [KU, List.length_append, List.length_cons]
    omega
theorem I4 : ∀ (M : LogMs), Az (Bl M) = (AI (AB M)).length
  | [] => rfl
  | q :: M => by
    have h1 := I4 M
    show Az ((nameL q.1, AI q.2) :: Bl M) = (AI (q.2 ++ AB M)).length
    rw [J7, h1]
    unfold AI
    rw [List.flatMap_append, List.length_append]
structure LogD (d : DiskD) (M : LogMs) (w : Nat) : Prop where
  down : d.down = false
  fuse : d.fuse = none
  room : d.room = 1048576
  wl : d.wait.length ≤ w
  ws : Az d.syn + (d.wait.map OpD.size).sum ≤ 1000000 + 155 * w
  now : d.now = Bl M
  g : LogG M
theorem LogD.fit {d : DiskD} {M : LogMs} {w : Nat} (h : LogD d M w) (hw : w ≤ 10000) : d.fit := ⟨by have := h.ws; omega, by have := h.wl; omega⟩
theorem Ff (h1 : d.down = false) (h2 : d.fuse = none) : Bz d = (d, 0) := by
 obtain ⟨r, s, w, f, dn⟩ := d
 simp only at h1 h2
 subst h1; subst h2
 simp [Bz]
theorem LogD.read {M : LogMs} {w : Nat} (h : LogD d M w) (hq : q ∈ M) : BH d (nameL q.1) = some (AI q.2) := by
 unfold BH
 rw [if_neg (by rw [h.down]; decide), h.now]
 exact Gd h.g hq
theorem LogD.ents {M : LogMs} {w : Nat} (h : LogD d M w) (hq : q ∈ M) : BB d q.1 = E1 0 q.2 := by
 unfold BB
 rw [h.read hq]
 exact KW (h.g.seg hq).right
theorem LogD.marks {M : LogMs} {w : Nat} (h : LogD d M w) (hq : q ∈ M) : BA d q.1 = BZ q.2 := by
 unfold BA
 rw [h.ents hq]
 rfl
theorem LogD.lists {d : DiskD} {M : LogMs} {w : Nat} (h : LogD d M w) : ∀ {M' : LogMs}, (∀ q, q ∈ M' → q ∈ M) → Ba d (M'.map (·.1)) = AB M'
  | [], _ => rfl
  | q :: M', hs => by
    have h1 := h.lists (M' := M') fun x hx => hs x (List.mem_cons_of_mem _ hx)
    show (BB d q.1).map (·.1) ++ Ba d (M'.map (·.1)) = q.2 ++ AB M'
    rw [h1, h.ents (hs q (List.mem_cons_self ..)), EX]
theorem LogD.marksM {d : DiskD} {M : LogMs} {w : Nat} (h : LogD d M w) : Sep.marksM d (M.map (·.1)) = Ag M := by
  unfold Sep.marksM Ag
  rw [List.map_map]
  exact List.map_congr_left fun q hq => by show (q.1, BA d q.1) = _; rw [h.marks hq]
theorem LogD.opens {dk lim w : Nat} {M : LogMs} (tb : Tb) (h : LogD d M w) (hw : w ≤ 10000) (hl1 : 64 ≤ lim) (hl2 : lim ≤ 16384) : AA Tryz.prog 9 #[.pointer (some ⟨dk, 0, none⟩), .int .i64 (lim : Int)] [Ab dk d, Aj tb] (fun (p : Nat) => .tuple #[.pointer (some ⟨p, 0, none⟩), .int .i64 0]) (fun (p : Nat) => [Ao p dk lim (Ag M), Ab dk d, Aj tb]) := by
  have hfew := h.g.few
  have hmany := h.g.many
  have hat : ∀ {j f : Nat}, (M.map (·.1))[j]? = some f → ∃ q, M[j]? = some q ∧ q.1 = f ∧ q ∈ M := fun {j f} hj => by
    rw [List.getElem?_map] at hj
    cases hq : M[j]? with
    | none => rw [hq] at hj; cases hj
    | some q => rw [hq] at hj; exact ⟨q, rfl, by simpa using hj, List.mem_of_getElem? hq⟩
  have hlist := h.lists (M' := M) fun _ hq => hq
  have h1 := Te (dk := dk) (lim := lim) (d := d) (fs := M.map (·.1)) hl1 hl2 h.down (by rw [h.now]; unfold Bl; rw [List.length_map]; omega) (by rw [h.now]; exact KX h.g) tb (h.fit hw)
    (fun f hf => by obtain ⟨q, hq, rfl⟩ := List.mem_map.1 hf; exact (h.g.first hq).2) (by rw [List.length_map]; omega) (by rw [hlist]; omega)
    (fun f b hf hb => by
      obtain ⟨q, hq, rfl⟩ := List.mem_map.1 hf
      rw [h.read hq] at hb
      have h3 := C8 (h.g.seg hq).right
      have h4 : q.2.length ≤ (AB M).length := by
        obtain ⟨A, B, rfl⟩ := List.append_of_mem hq
        rw [Bi]
        show _ ≤ (AB A ++ (q.2 ++ AB B)).length
        simp only [List.length_append]; omega
      rw [← hb]
      show (AI q.2).length ≤ _
      omega)
    (fun j f i e n hj hi => by
      obtain ⟨q, hqj, rfl, hq⟩ := hat hj
      rw [h.ents hq] at hi
      have hi1 : q.2[i]? = some e := by
        have := congrArg (·[i]?) (EX q.2 0)
        simp only [List.getElem?_map, hi, Option.map_some] at this
        exact this.symm
      have hup : BL d (M.map (·.1)) j q.1 i = AB (M.take j) ++ q.2.take i := by
        unfold BL
        rw [← List.map_take, h.lists (M' := M.take j) (fun x hx => List.mem_of_mem_take hx), h.ents hq, List.map_take, EX]
      rw [hup]
      have hL : AB M = (AB (M.take j) ++ q.2.take i) ++ e :: (q.2.drop (i + 1) ++ AB (M.drop (j + 1))) := by
        conv => lhs; rw [← List.take_append_drop j M, DM hqj, Bi]
        show AB (M.take j) ++ (q.2 ++ AB (M.drop (j + 1))) = _
        conv => lhs; rw [← List.take_append_drop i q.2, DM hi1]
        simp
      obtain ⟨h5, h6, h7⟩ := h.g.c.fol _ _ _ hL
      exact ⟨fun h0 => by
        subst h0
        obtain ⟨e', r, he⟩ := List.exists_cons_of_ne_nil (h.g.ne q hq)
        rw [he] at hi1
        simp only [List.getElem?_cons_zero, Option.some.injEq] at hi1
        rw [← hi1]
        exact h.g.hd q hq e' r he, h5, h6, h7⟩)
    (fun j f b hj hb => by
      obtain ⟨q, _, rfl, hq⟩ := hat hj
      rw [h.read hq] at hb
      rw [h.marks hq]
      rcases BP q.2 with h0 | ⟨r, e, he⟩
      · exact absurd h0 (h.g.ne q hq)
      · rw [he, DR]
        exact ⟨_, rfl, by rw [← hb, he]; rfl⟩)
  rw [h.marksM] at h1
  exact h1
end Go.Proofs.YtjcfimmcogkopaaGreatDoor.Sep
namespace Go.Proofs.YtjcfimmcogkopaaGreatDoor.Sep
variable {d : DiskD} {e : EntD} {q : Nat × List EntD}
open Go.RowKit
section
variable {κ ν : Type} [DecidableEq κ]
theorem JM {l : List (κ × ν)} {k : κ} {b x : ν} (hn : (AC (l ++ [(k, b)])).Nodup) : Bd (l ++ [(k, b)]) k x = l ++ [(k, x)] := by
 unfold Bd
 rw [LE (x := b) (j := l.length) hn (by simp)]
 simp only [Nat.zero_add]
 rw [List.set_append_right _ _ (Nat.le_refl _), Nat.sub_self]
 rfl
theorem Pt {l : List (κ × ν)} {k : κ} {b : ν} (hn : (AC (l ++ [(k, b)])).Nodup) : B8 (l ++ [(k, b)]) k = l := by
 unfold B8
 rw [LE (x := b) (j := l.length) hn (by simp)]
 simp only [Nat.zero_add]
 rw [List.eraseIdx_append_of_length_le (Nat.le_refl _), Nat.sub_self]
 simp
end
theorem BY (A B : LogMs) : Bl (A ++ B) = Bl A ++ Bl B := by simp [Bl]
theorem Cl (A B : LogMs) : Ag (A ++ B) = Ag A ++ Ag B := by simp [Ag]
def FV (lim : Nat) (M : LogMs) (e : EntD) : LogMs :=
  match M.getLast? with
  | none => M ++ [(e.i.toNat, [e])]
  | some q => if lim < (AI q.2).length + (EV e).length then M ++ [(e.i.toNat, [e])] else M.dropLast ++ [(q.1, q.2 ++ [e])]
theorem EI (lim : Nat) (M : LogMs) (q : Nat × List EntD) (e : EntD) : FV lim (M ++ [q]) e = if lim < (AI q.2).length + (EV e).length then M ++ [q] ++ [(e.i.toNat, [e])] else M ++ [(q.1, q.2 ++ [e])] := by
 unfold FV
 rw [List.getLast?_append]
 simp
theorem Vd {M : LogMs} (h : LogG M) (hr : Be e = true) (hf : EW (Ar (AB M)) e) (hm : (AB M).length < 1000) : LogG (M ++ [(e.i.toNat, [e])]) := by
  have hi := N6 hr
  have ha : AB (M ++ [(e.i.toNat, [e])]) = AB M ++ [e] := by rw [Bi]; rfl
  refine ⟨fun q hq => ?_, by rw [ha]; exact h.c.push hr hf, fun q hq x r hx => ?_, by rw [ha, List.length_append]; simp only [List.length_cons, List.length_nil]; omega⟩
  · rcases List.mem_append.1 hq with hq | hq
    · exact h.ne q hq
    · rw [List.mem_singleton.1 hq]; simp
  · rcases List.mem_append.1 hq with hq | hq
    · exact h.hd q hq x r hx
    · rw [List.mem_singleton.1 hq] at hx ⊢
      simp only [List.cons.injEq] at hx
      rw [← hx.1]
      show e.i = (e.i.toNat : Int)
      omega
theorem Ve {M : LogMs} (h : LogG (M ++ [q])) (hr : Be e = true) (hf : EW (Ar (AB (M ++ [q]))) e) (hm : (AB (M ++ [q])).length < 1000) : LogG (M ++ [(q.1, q.2 ++ [e])]) := by
  have ha : AB (M ++ [(q.1, q.2 ++ [e])]) = AB (M ++ [q]) ++ [e] := by rw [Bi, Bi]; simp [AB]
  have hq0 : q ∈ M ++ [q] := List.mem_append_right _ (List.mem_singleton.2 rfl)
  refine ⟨fun x hx => ?_, by rw [ha]; exact h.c.push hr hf, fun x hx y r hy => ?_, by rw [ha, List.length_append]; simp only [List.length_cons, List.length_nil]; omega⟩
  · rcases List.mem_append.1 hx with hx | hx
    · exact h.ne x (List.mem_append_left _ hx)
    · rw [List.mem_singleton.1 hx]; simp
  · rcases List.mem_append.1 hx with hx | hx
    · exact h.hd x (List.mem_append_left _ hx) y r hy
    · rw [List.mem_singleton.1 hx] at hy ⊢
      obtain ⟨e0, r0, h0⟩ := List.exists_cons_of_ne_nil (h.ne q hq0)
      rw [h0] at hy
      simp only [List.cons_append, List.cons.injEq] at hy
      rw [← hy.1]
      exact h.hd q hq0 e0 r0 h0
theorem Pu (lim : Nat) (M : LogMs) (e : EntD) : AB (FV lim M e) = AB M ++ [e] := by
  rcases BP M with rfl | ⟨M0, q, rfl⟩
  · rfl
  · rw [EI]
    split
    · rw [Bi]; rfl
    · rw [Bi, Bi]; simp [AB]
theorem Pv {M : LogMs} (h : LogG (M ++ [q])) : AW (Bl M) (nameL q.1) = none := by
 rw [Fc]
 intro hm
 have h1 := Du h
 rw [BY] at h1
 unfold AC at h1 hm
 rw [List.map_append] at h1
 exact (List.nodup_append.1 h1).2.2 _ hm _ (List.mem_singleton.2 rfl) rfl
theorem LogD.appends {M : LogMs} {w : Nat} {n b : List UInt8} (h : LogD d M w) (hn : Dz n = true) (hu : (AI (AB M)).length + b.length ≤ 1048576) (hf : M.length < 64) : BU d n b = (B3 d (.app n b), 0) := by
 unfold BU
 rw [Ff h.down h.fuse]
 simp only
 rw [if_neg (by simp), hn, if_neg (by simp)]
 have h2 : Iy d n b = true := by
  unfold Iy
  rw [h.now, I4, Bool.and_eq_true, decide_eq_true_eq, h.room]
  refine ⟨by omega, ?_⟩
  have : (Bl M).length = M.length := by unfold Bl; rw [List.length_map]
  simp
  right
  omega
 rw [h2, if_neg (by simp)]
theorem N7 (n : Nat) : Dz (nameL n) = true := by unfold Dz; rw [SX]; rfl
theorem LogD.does {M M' : LogMs} {w : Nat} {n b : List UInt8} (h : LogD d M w) (hb : b.length ≤ 155) (hn : Bd (Bl M) n ((AW (Bl M) n).getD [] ++ b) = Bl M') (hg : LogG M') : LogD (B3 d (.app n b)) M' (w + 1) := by
 have hl := h.wl
 have hs := h.ws
 exact ⟨h.down, h.fuse, h.room, by show (d.wait ++ [_]).length ≤ _; rw [List.length_append]; simp only [List.length_cons, List.length_nil]; omega, by
  show Az d.syn + ((d.wait ++ [OpD.app n b]).map OpD.size).sum ≤ _
  rw [List.map_append, List.sum_append]
  simp only [List.map_cons, List.map_nil, List.sum_cons, List.sum_nil, OpD.size]
  omega, by rw [F4, h.now]; exact hn, hg⟩
theorem LogD.new {M : LogMs} {w : Nat} (h : LogD d M w) (hr : Be e = true) (hf : EW (Ar (AB M)) e) (hm : (AB M).length < 60) : ∃ d', BU d (nameL e.i.toNat) (EV e) = (d', 0) ∧ LogD d' (M ++ [(e.i.toNat, [e])]) (w + 1) := by
 have hg := Vd h.g hr hf (by omega)
 have hfl := GE hr
 have hle := Dq hr
 have hbl := C8 h.g.c.right
 have hfew := h.g.few
 refine ⟨_, h.appends (N7 _) (by omega) (by omega), h.does (by omega) ?_ hg⟩
 have h0 := Pv hg
 rw [Eb h0, h0, BY]
 simp [Bl, AI]
theorem LogD.old {M : LogMs} {w : Nat} (h : LogD d (M ++ [q]) w) (hr : Be e = true) (hf : EW (Ar (AB (M ++ [q]))) e) (hm : (AB (M ++ [q])).length < 60) : ∃ d', BU d (nameL q.1) (EV e) = (d', 0) ∧ LogD d' (M ++ [(q.1, q.2 ++ [e])]) (w + 1) := by
 have hg := Ve h.g hr hf (by omega)
 have hfl := GE hr
 have hle := Dq hr
 have hbl := C8 h.g.c.right
 have hfew := h.g.few
 refine ⟨_, h.appends (N7 _) (by omega) (by omega), h.does (by omega) ?_ hg⟩
 have h0 := Gd h.g (q := q) (List.mem_append_right _ (List.mem_singleton.2 rfl))
 have h1 := Du h.g
 rw [h0]
 rw [BY] at h1 ⊢
 show Bd (Bl M ++ [(nameL q.1, AI q.2)]) _ _ = _
 rw [JM h1, BY]
 simp [Bl, KV]
theorem LogD.add {lim w : Nat} {M : LogMs} (h : LogD d M w) (hw : w ≤ 9999) (hr : Be e = true) (hf : EW (Ar (AB M)) e) (hm : (AB M).length < 60) : Pq lim (Ag M, d) e ∧ ∃ d', Kw lim (Ag M, d) e = (Ag (FV lim M e), d') ∧ LogD d' (FV lim M e) (w + 1) := by
  have hfew := h.g.few
  have hml : (Ag M).length = M.length := by unfold Ag; rw [List.length_map]
  have hfit := h.fit (by omega)
  obtain ⟨d1, hd1, hD1⟩ := h.new hr hf hm
  rcases BP M with rfl | ⟨M0, q, rfl⟩
  · refine ⟨⟨hr, hfit, by rw [hml]; omega, ?_⟩, d1, ?_, hD1⟩
    · show (BU d (nameL e.i.toNat) (EV e)).2 = 0
      rw [hd1]
    · show I3 _ e = _
      unfold I3
      simp only
      rw [hd1]
      simp [FV, Ag, BZ, E1]
  · obtain ⟨d2, hd2, hD2⟩ := h.old hr hf hm
    have hq : q ∈ M0 ++ [q] := List.mem_append_right _ (List.mem_singleton.2 rfl)
    have hlast : (Ag (M0 ++ [q])).getLast? = some (q.1, BZ q.2) := by rw [Cl, List.getLast?_append]; rfl
    have hsz := GG q.2
    have hbq := C8 (h.g.seg hq).right
    have hlq : q.2.length < 60 := by rw [Bi, List.length_append] at hm; simp only [AB, List.flatMap_cons, List.flatMap_nil, List.append_nil] at hm; omega
    have hso : Va (q.1, BZ q.2) := ⟨(h.g.first hq).2, EH (h.g.ne q hq), by show (BZ q.2).length ≤ _; rw [Cv]; omega, by show HI (BZ q.2) ≤ _; rw [hsz]; omega⟩
    by_cases hb : lim < (AI q.2).length + (EV e).length
    · refine ⟨⟨hr, hfit, by rw [hml]; omega, ?_⟩, d1, ?_, ?_⟩
      · simp only [hlast]
        refine ⟨hso, ?_⟩
        rw [hsz, if_pos hb, hd1]
      · unfold Kw
        simp only [hlast]
        rw [hsz, if_pos hb, EI, if_pos hb]
        unfold I3
        simp only
        rw [hd1, Cl (M0 ++ [q])]
        simp [Ag, BZ, E1]
      · rw [EI, if_pos hb]; exact hD1
    · refine ⟨⟨hr, hfit, by rw [hml]; omega, ?_⟩, d2, ?_, ?_⟩
      · simp only [hlast]
        refine ⟨hso, ?_⟩
        rw [hsz, if_neg hb, hd2]
      · unfold Kw
        simp only [hlast]
        rw [hsz, if_neg hb, EI, if_neg hb, hd2, Cl, Cl]
        simp [Ag, Mr]
      · rw [EI, if_neg hb]; exact hD2
end Go.Proofs.YtjcfimmcogkopaaGreatDoor.Sep
namespace Go.Proofs.YtjcfimmcogkopaaGreatDoor.Sep
variable {l : List EntV} {lim : Nat}
open Go.RowKit
theorem Pw {L : List EntD} {a b : Nat} {x y : EntD} (h : LogC L) (ha : L[a]? = some x) (hb : L[b]? = some y) : y.i + (a : Int) = x.i + (b : Int) := by
  have key : ∀ {a b : Nat} {x y : EntD}, a < b → L[a]? = some x → L[b]? = some y → y.i + (a : Int) = x.i + (b : Int) := fun {a b x y} hab ha hb => by
    have h1 : L = L.take a ++ (x :: L.drop (a + 1)) := by rw [← DM ha, List.take_append_drop]
    have h2 : LogC (x :: L.drop (a + 1)) := LogC.suffix (A := L.take a) (by rw [← h1]; exact h)
    have h3 : (L.drop (a + 1))[b - (a + 1)]? = some y := by rw [List.getElem?_drop, show a + 1 + (b - (a + 1)) = b by omega]; exact hb
    have h4 := Mt _ x y _ h2 h3
    omega
  rcases Nat.lt_trichotomy a b with h1 | h1 | h1
  · exact key h1 ha hb
  · subst h1
    rw [ha] at hb
    cases hb
    rfl
  · have := key h1 hb ha
    omega
theorem Mw {M : LogMs} (h : LogG M) : GW (Ag M) = Ar (AB M) := by
  rcases BP M with rfl | ⟨M0, q, rfl⟩
  · rfl
  · have hq : q ∈ M0 ++ [q] := List.mem_append_right _ (List.mem_singleton.2 rfl)
    have hlast : (Ag (M0 ++ [q])).getLast? = some (q.1, BZ q.2) := by rw [Cl, List.getLast?_append]; rfl
    have hseg := h.seg hq
    unfold GW
    rw [hlast]
    simp only
    rw [Cv, Bi, show AB [q] = q.2 by simp [AB], Ms _ (h.ne q hq)]
    rcases BP q.2 with h0 | ⟨r, e, he⟩
    · exact absurd h0 (h.ne q hq)
    · obtain ⟨e0, r0, h0⟩ := List.exists_cons_of_ne_nil (h.ne q hq)
      have h1 := h.hd q hq e0 r0 h0
      have h2 : q.2[0]? = some e0 := by rw [h0]; rfl
      have h3 : q.2[r.length]? = some e := by rw [he]; simp
      have h4 := Pw hseg h2 h3
      rw [he, DR, Dt, List.length_append]
      simp only [Option.map_some, Option.getD_some, List.length_cons, List.length_nil]
      congr 1
      omega
theorem KY {M : LogMs} (h : LogG M) : RW (Ag M) := by
  have hfew := h.few
  have hmany := h.many
  refine ⟨by unfold Ag; rw [List.length_map]; omega, ?_⟩
  rcases BP M with rfl | ⟨M0, q, rfl⟩
  · exact trivial
  · have hq : q ∈ M0 ++ [q] := List.mem_append_right _ (List.mem_singleton.2 rfl)
    have hlast : (Ag (M0 ++ [q])).getLast? = some (q.1, BZ q.2) := by rw [Cl, List.getLast?_append]; rfl
    rw [hlast]
    have hbq := C8 (h.seg hq).right
    have hlq : q.2.length ≤ 1000 := by rw [Bi, List.length_append] at hmany; simp only [AB, List.flatMap_cons, List.flatMap_nil, List.append_nil] at hmany; omega
    exact ⟨(h.first hq).2, EH (h.ne q hq), by show (BZ q.2).length ≤ _; rw [Cv]; omega, by show HI (BZ q.2) ≤ _; rw [GG]; omega⟩
def Bo (lim : Nat) (M : LogMs) (l : List EntV) : LogMs := l.foldl (fun M z => FV lim M z.e) M
theorem Mx {M : LogMs} {j : Nat} {z : EntV} (h : l[j]? = some z) : Bo lim M (l.take (j + 1)) = FV lim (Bo lim M (l.take j)) z.e := by
 unfold Bo
 rw [List.take_add_one, h, List.foldl_append]
 rfl
theorem Fg (lim : Nat) : ∀ (l : List EntV) (M : LogMs), AB (Bo lim M l) = AB M ++ l.map (·.e)
  | [], M => by simp [Bo]
  | z :: r, M => by
    show AB (Bo lim (FV lim M z.e) r) = _
    rw [Fg lim r, Pu]
    simp
theorem My {M : LogMs} (h : LogG M) (l : List EntV) (j : Nat) : Ek (GW (Ag M)) l j = Ar (AB M ++ (l.take j).map (·.e)) := by
  unfold Ek
  rcases BP (l.take j) with h0 | ⟨r, z, hz⟩
  · rw [h0, Mw h]; simp
  · rw [hz, List.getLast?_append, List.map_append, ← List.append_assoc]
    show (z.e.t, z.e.i) = Ar ((AB M ++ r.map (·.e)) ++ [z.e])
    rw [Dt]
theorem LogD.adds {lim w : Nat} {d : DiskD} {M : LogMs} {l : List EntV} (h : LogD d M w) (hc : LogC (AB M ++ l.map (·.e))) (hm : (AB M).length + l.length ≤ 60) (hw : w + l.length ≤ 9999) : ∀ j, j ≤ l.length → ∃ d', CT lim (Ag M, d) (l.take j) = (Ag (Bo lim M (l.take j)), d') ∧ LogD d' (Bo lim M (l.take j)) (w + j)
  | 0, _ => ⟨d, rfl, h⟩
  | j + 1, hj => by
    obtain ⟨d1, h1, h2⟩ := h.adds hc hm hw j (by omega)
    obtain ⟨z, hz⟩ : ∃ z, l[j]? = some z := ⟨_, List.getElem?_eq_getElem (by omega)⟩
    have hze : z.e ∈ AB M ++ l.map (·.e) := List.mem_append_right _ (List.mem_map.2 ⟨z, List.mem_of_getElem? hz, rfl⟩)
    have hall : AB (Bo lim M (l.take j)) = AB M ++ (l.take j).map (·.e) := Fg lim _ M
    have hsp : AB M ++ l.map (·.e) = (AB M ++ (l.take j).map (·.e)) ++ z.e :: (l.drop (j + 1)).map (·.e) := by
      conv => lhs; rw [← List.take_append_drop j l, DM hz]
      simp
    obtain ⟨_, d2, h3, h4⟩ := h2.add (lim := lim) (e := z.e) (by omega) (hc.right _ hze) (by rw [hall]; exact hc.fol _ _ _ hsp) (by rw [hall, List.length_append, List.length_map, List.length_take]; omega)
    refine ⟨d2, ?_, ?_⟩
    · rw [Nj hz, h1, h3, Mx hz]
    · rw [Mx hz]; exact h4
theorem LogD.append {w : Nat} {d : DiskD} {M : LogMs} (tb : Tb) (h : LogD d M w) (hli : lim ≤ 1000000000) (hc : LogC (AB M ++ l.map (·.e))) (hm : (AB M).length + l.length ≤ 60) (hw : w + l.length ≤ 9999) : ∃ d', LogD d' (Bo lim M l) (w + l.length) ∧ ∀ (p dk : Nat) (v : Value), AA Tryz.prog 21 #[.pointer (some ⟨p, 0, none⟩), v] [Ao p dk lim (Ag M), Ab dk d, Aj tb, B9 53 v l] (fun (_ : Unit) => .int .i64 0) (fun (_ : Unit) => [Ao p dk lim (Ag (Bo lim M l)), Ab dk d', Aj tb, B9 53 v l]) := by
  obtain ⟨d', h1, h2⟩ := h.adds (lim := lim) hc hm hw l.length (Nat.le_refl _)
  rw [List.take_length] at h1 h2
  have hsp : ∀ (j : Nat) (z : EntV), l[j]? = some z → Be z.e = true ∧ EW (Ar (AB M ++ (l.take j).map (·.e))) z.e := fun j z hz => by
    have hze : z.e ∈ AB M ++ l.map (·.e) := List.mem_append_right _ (List.mem_map.2 ⟨z, List.mem_of_getElem? hz, rfl⟩)
    refine ⟨hc.right _ hze, hc.fol _ _ ((l.drop (j + 1)).map (·.e)) ?_⟩
    conv => lhs; rw [← List.take_append_drop j l, DM hz]
    simp
  refine ⟨d', h2, fun p dk v => ?_⟩
  have h3 := Ps (p := p) (dk := dk) (lim := lim) (s := (Ag M, d)) (v := v) (l := l) tb hli (by omega) (KY h.g)
    (fun j z hz => by
      show EW (Ek (GW (Ag M)) l j) z.e
      rw [My h.g]; exact (hsp j z hz).2)
    (fun j z hz => by
      have hjl := (List.getElem?_eq_some_iff.1 hz).1
      obtain ⟨d1, h4, h5⟩ := h.adds (lim := lim) hc hm hw j (by omega)
      have hall : AB (Bo lim M (l.take j)) = AB M ++ (l.take j).map (·.e) := Fg lim _ M
      obtain ⟨h6, _⟩ := h5.add (lim := lim) (e := z.e) (by omega) (hsp j z hz).1 (by rw [hall]; exact (hsp j z hz).2) (by rw [hall, List.length_append, List.length_map, List.length_take]; omega)
      rw [h4]; exact h6)
  rw [h1] at h3
  exact h3
end Go.Proofs.YtjcfimmcogkopaaGreatDoor.Sep
