/-
  SgJ · SgK · SgR · SgAp
-/
import Derived.Test.YtjcfimmcogkopaaGreatDoorWN01
import Derived.Test.YtjcfimmcogkopaaGreatDoorWN03
set_option linter.unusedSimpArgs false
set_option linter.unusedVariables false
namespace Go.Proofs.YtjcfimmcogkopaaGreatDoor.Sep
open Go.RowKit
theorem Cz {α : Type} (l : List α) : l = [] ∨ ∃ r e, l = r ++ [e] := by
  rcases List.eq_nil_or_concat l with h | ⟨r, e, h⟩
  · exact .inl h
  · exact .inr ⟨r, e, by rw [h, List.concat_eq_append]⟩
abbrev LogMs := List (Nat × List EntD)
def Bd (es : List EntD) : List UInt8 := es.flatMap Fg
def Fo : Nat → List EntD → List (EntD × Nat)
  | _, [] => []
  | o, e :: r => (e, o + (Fg e).length) :: Fo (o + (Fg e).length) r
def CG (es : List EntD) : List (Int × Nat) := (Fo 0 es).map fun x => (x.1.t, x.2)
def An (M : LogMs) : SegsM := M.map fun q => (q.1, CG q.2)
def BX (M : LogMs) : FS := M.map fun q => (nameL q.1, Bd q.2)
def AU (M : LogMs) : List EntD := M.flatMap (·.2)
theorem KV (e : EntD) (r : List EntD) : Bd (e :: r) = Fg e ++ Bd r := rfl
theorem KW (es : List EntD) (e : EntD) : Bd (es ++ [e]) = Bd es ++ Fg e := by simp [Bd]
theorem Ni : ∀ (es : List EntD) (o : Nat) (e : EntD), Fo o (es ++ [e]) = Fo o es ++ [(e, o + (Bd es).length + (Fg e).length)]
  | [], o, e => by simp [Fo, Bd]
  | x :: r, o, e => by
    simp only [List.cons_append, Fo, Ni r, KV, List.length_append, List.cons.injEq, true_and]
    congr 3
    omega
theorem Fi : ∀ (es : List EntD) (o : Nat), (Fo o es).map (·.1) = es
  | [], _ => rfl
  | x :: r, o => by simp [Fo, Fi r]
theorem UX (es : List EntD) (o : Nat) : (Fo o es).length = es.length := by
 have := congrArg List.length (Fi es o)
 rwa [List.length_map] at this
theorem Mn (es : List EntD) (e : EntD) : CG (es ++ [e]) = CG es ++ [(e.t, (Bd es).length + (Fg e).length)] := by
 unfold CG
 rw [Ni, List.map_append]
 simp
theorem Dh (es : List EntD) : (CG es).length = es.length := by unfold CG; rw [List.length_map, UX]
theorem Es (es : List EntD) (e : EntD) : (CG (es ++ [e])).getLast? = some (e.t, (Bd (es ++ [e])).length) := by
 rw [Mn, List.getLast?_append, KW, List.length_append]; rfl
theorem G2 (es : List EntD) : H8 (CG es) = (Bd es).length := by
  rcases Cz es with rfl | ⟨r, e, rfl⟩
  · rfl
  · unfold H8
    rw [Es]
    rfl
theorem E5 {es : List EntD} (h : es ≠ []) : CG es ≠ [] := fun h0 => h (List.length_eq_zero_iff.1 (by rw [← Dh, h0]; rfl))
theorem Ky : ∀ (es : List EntD) (o : Nat), (∀ e, e ∈ es → BN e = true) → F6 o (es.map Cj) = Fo o es
  | [], _, _ => rfl
  | e :: r, o, h => by
    have he := h e (List.mem_cons_self ..)
    have hd : EF (Cj e) = (e, 0) := FW (by have := DX he; omega) (Sj he) rfl he
    show (if (EF (Cj e)).2 = 0 then ((EF (Cj e)).1, o + (8 + (Cj e).length)) :: F6 (o + (8 + (Cj e).length)) (r.map Cj) else []) = _
    rw [hd, if_pos rfl, ← G1 he, Ky r _ (fun x hx => h x (List.mem_cons_of_mem _ hx))]
    rfl
theorem JU (es : List EntD) : Bd es = Fz (es.map Cj) := by
 unfold Bd Fz
 rw [List.map_map, List.flatMap_def]
 rfl
theorem KX {es : List EntD} (h : ∀ e, e ∈ es → BN e = true) : H5 (Bd es) = Fo 0 es := by
 have h1 := H4 (es.map Cj) (fun x hx => by
  obtain ⟨e, he, rfl⟩ := List.mem_map.1 hx
  have := DX (h e he); omega) []
 rw [List.append_nil] at h1
 unfold H5
 rw [JU, h1]
 show F6 0 (es.map Cj ++ []) = _
 rw [List.append_nil, Ky es 0 h]
structure LogC (L : List EntD) : Prop where
  right : ∀ e, e ∈ L → BN e = true
  fol : ∀ A b B, L = A ++ b :: B → Fh (AD A) b
theorem Mp (A : List EntD) {B : List EntD} (h : B ≠ []) : AD (A ++ B) = AD B := by
  rcases Cz B with rfl | ⟨r, e, rfl⟩
  · exact absurd rfl h
  · rw [← List.append_assoc, D3, D3]
theorem N2 (b : EntD) : Fh (AD []) b := ⟨.inl rfl, by decide, by decide⟩
theorem LogC.suffix {A B : List EntD} (h : LogC (A ++ B)) : LogC B := ⟨fun e he => h.right e (List.mem_append_right _ he), fun C b D hB => by
  by_cases hC : C = []
  · subst hC; exact N2 b
  · have := h.fol (A ++ C) b D (by rw [hB, List.append_assoc])
    rwa [Mp A hC] at this⟩
theorem LogC.front {A B : List EntD} (h : LogC (A ++ B)) : LogC A := ⟨fun e he => h.right e (List.mem_append_left _ he), fun C b D hA => h.fol C b (D ++ B) (by rw [hA, List.append_assoc]; rfl)⟩
theorem LogC.push {A : List EntD} {e : EntD} (h : LogC A) (hr : BN e = true) (hf : Fh (AD A) e) : LogC (A ++ [e]) := ⟨fun x hx => by
  rcases List.mem_append.1 hx with hx | hx
  · exact h.right x hx
  · rw [List.mem_singleton.1 hx]; exact hr, fun C b D hA => by
  rcases Cz D with rfl | ⟨D', x, rfl⟩
  · obtain ⟨h1, h2⟩ := List.append_inj' hA rfl
    cases h2
    rw [← h1]; exact hf
  · rw [← List.cons_append, ← List.append_assoc] at hA
    obtain ⟨h1, h2⟩ := List.append_inj' hA rfl
    exact h.fol C b D' h1⟩
theorem LogC.nil : LogC [] := ⟨fun _ h => (List.not_mem_nil h).elim, fun A b B h => by simp at h⟩
theorem N3 {e : EntD} (h : BN e = true) : 1 ≤ e.i ∧ e.i ≤ 72057594037927935 := (E1 h).2.1
theorem Mq : ∀ (R : List EntD) (e x : EntD) (k : Nat), LogC (e :: R) → R[k]? = some x → x.i = e.i + (k : Int) + 1
  | [], _, _, _, _, h => by simp at h
  | y :: R, e, x, k, hc, h => by
    have h1 := N3 (hc.right e (List.mem_cons_self ..))
    have h2 : Fh (e.t, e.i) y := hc.fol [e] y R rfl
    have h3 : y.i = e.i + 1 := by
      rcases h2.1 with h0 | ⟨_, h0, _⟩
      · have : e.i = 0 := h0
        omega
      · exact h0
    cases k with
    | zero =>
      simp only [List.getElem?_cons_zero, Option.some.injEq] at h
      rw [← h, h3]; simp
    | succ k =>
      have h4 := Mq R y x k (LogC.suffix (A := [e]) hc) (by simpa using h)
      rw [h4, h3]; push_cast; omega
theorem RV {R : List EntD} {e x : EntD} (hc : LogC (e :: R)) (hx : x ∈ R) : e.i < x.i := by
 obtain ⟨k, hk⟩ := List.getElem?_of_mem hx
 have := Mq R e x k hc hk
 omega
structure LogG (M : LogMs) : Prop where
  ne : ∀ q, q ∈ M → q.2 ≠ []
  c : LogC (AU M)
  hd : ∀ q, q ∈ M → ∀ e r, q.2 = e :: r → e.i = (q.1 : Int)
  many : (AU M).length ≤ 1000
theorem BP (A B : LogMs) : AU (A ++ B) = AU A ++ AU B := by simp [AU]
theorem LogG.nil : LogG [] := ⟨fun _ h => (List.not_mem_nil h).elim, LogC.nil, fun _ h => (List.not_mem_nil h).elim, by decide⟩
theorem LogG.tail {q : Nat × List EntD} {M : LogMs} (h : LogG (q :: M)) : LogG M := ⟨fun x hx => h.ne x (List.mem_cons_of_mem _ hx), LogC.suffix (A := q.2) h.c, fun x hx => h.hd x (List.mem_cons_of_mem _ hx), by have := h.many; simp only [AU, List.flatMap_cons, List.length_append] at this ⊢; omega⟩
theorem LogG.lt {q : Nat × List EntD} {M : LogMs} (h : LogG (q :: M)) : ∀ x, x ∈ M → q.1 < x.1 := fun x hx => by
 obtain ⟨e, r, he⟩ : ∃ e r, q.2 = e :: r := List.exists_cons_of_ne_nil (h.ne q (List.mem_cons_self ..))
 obtain ⟨e', r', he'⟩ : ∃ e r, x.2 = e :: r := List.exists_cons_of_ne_nil (h.ne x (List.mem_cons_of_mem _ hx))
 have h1 := h.hd q (List.mem_cons_self ..) e r he
 have h2 := h.hd x (List.mem_cons_of_mem _ hx) e' r' he'
 have hc : LogC (e :: (r ++ AU M)) := by
  have := h.c
  simp only [AU, List.flatMap_cons, he] at this
  exact this
 have hm : e' ∈ r ++ AU M := List.mem_append_right _ (List.mem_flatMap.2 ⟨x, hx, by rw [he']; exact List.mem_cons_self ..⟩)
 have := RV hc hm
 omega
theorem LogG.asc : ∀ {M : LogMs}, LogG M → (M.map (·.1)).Pairwise (· < ·)
  | [], _ => List.Pairwise.nil
  | q :: M, h => by
    rw [List.map_cons, List.pairwise_cons]
    exact ⟨fun a ha => by
      obtain ⟨x, hx, rfl⟩ := List.mem_map.1 ha
      exact h.lt x hx, h.tail.asc⟩
theorem LogG.few : ∀ {M : LogMs}, LogG M → M.length ≤ (AU M).length
  | [], _ => Nat.le_refl _
  | q :: M, h => by
    have h1 := h.tail.few
    have h2 : 0 < q.2.length := List.length_pos_iff.2 (h.ne q (List.mem_cons_self ..))
    simp only [AU, List.flatMap_cons, List.length_append, List.length_cons] at h1 ⊢
    omega
theorem LogG.first {M : LogMs} (h : LogG M) {q : Nat × List EntD} (hq : q ∈ M) : 1 ≤ q.1 ∧ q.1 ≤ 72057594037927935 := by
 obtain ⟨e, r, he⟩ : ∃ e r, q.2 = e :: r := List.exists_cons_of_ne_nil (h.ne q hq)
 have h1 := h.hd q hq e r he
 have h2 := N3 (h.c.right e (List.mem_flatMap.2 ⟨q, hq, by rw [he]; exact List.mem_cons_self ..⟩))
 omega
theorem LogG.seg {M : LogMs} (h : LogG M) {q : Nat × List EntD} (hq : q ∈ M) : LogC q.2 := by
 obtain ⟨A, B, rfl⟩ := List.append_of_mem hq
 have h1 := h.c
 rw [BP] at h1
 have h2 : LogC (q.2 ++ AU B) := h1.suffix
 exact h2.front
end Go.Proofs.YtjcfimmcogkopaaGreatDoor.Sep
namespace Go.Proofs.YtjcfimmcogkopaaGreatDoor.Sep
open Go.RowKit
theorem Mr : ∀ (j k m : Nat), j ≤ k → Cq j (m % 16 ^ k) = Cq j m
  | 0, _, _, _ => rfl
  | j + 1, k, m, hj => by
    show DQ ((m % 16 ^ k) / 16 ^ j % 16) :: Cq j (m % 16 ^ k) = DQ (m / 16 ^ j % 16) :: Cq j m
    rw [Mr j k m (by omega)]
    congr 2
    obtain ⟨q, rfl⟩ : ∃ q, k = j + 1 + q := ⟨k - (j + 1), by omega⟩
    have h1 : 16 ^ (j + 1 + q) = 16 ^ j * (16 * 16 ^ q) := by rw [Nat.pow_add, Nat.pow_succ, Nat.mul_assoc]
    rw [h1, Nat.mod_mul_right_div_self, Nat.mod_mul_right_mod]
theorem S6 {a b : Nat} (ha : a < 16) (hb : b < 16) (h : DQ a < DQ b) : a < b := by
 have key : ∀ a : Fin 16, ∀ b : Fin 16, DQ a.1 < DQ b.1 → a.1 < b.1 := by decide
 exact key ⟨a, ha⟩ ⟨b, hb⟩ h
theorem RW : ∀ (k m n : Nat), m ≤ n → n < 16 ^ k → ¬ Cq k n < Cq k m
  | 0, _, _, _, _ => by intro h; cases h
  | k + 1, m, n, hmn, hn => by
    intro h
    have e2 : n / 16 ^ k < 16 := Nat.div_lt_of_lt_mul (by rw [← Nat.pow_succ]; exact hn)
    have e3 : m / 16 ^ k ≤ n / 16 ^ k := Nat.div_le_div_right hmn
    simp only [Cq, List.cons_lt_cons_iff] at h
    rw [Nat.mod_eq_of_lt e2, Nat.mod_eq_of_lt (Nat.lt_of_le_of_lt e3 e2)] at h
    rcases h with h | ⟨h1, h2⟩
    · have := S6 e2 (Nat.lt_of_le_of_lt e3 e2) h
      omega
    · have h3 := RJ e2 (Nat.lt_of_le_of_lt e3 e2) h1
      have a1 := Nat.div_add_mod m (16 ^ k)
      have a2 := Nat.div_add_mod n (16 ^ k)
      rw [h3] at a2
      refine RW k (m % 16 ^ k) (n % 16 ^ k) (by omega) (Nat.mod_lt _ (Nat.pow_pos (by decide))) ?_
      rw [Mr k k n (Nat.le_refl _), Mr k k m (Nat.le_refl _)]
      exact h2
theorem UY {m n : Nat} (h : m ≤ n) (hn : n ≤ 72057594037927935) : nameL m ≤ nameL n := by
  intro h1
  have h2 : nameL n < nameL m := h1
  unfold nameL at h2
  rw [List.cons_lt_cons_iff] at h2
  rcases h2 with h2 | ⟨_, h2⟩
  · exact absurd h2 (by decide)
  · exact RW 15 m n h (by omega) h2
theorem Ms (M : LogMs) : AW (BX M) = (M.map (·.1)).map nameL := by
  unfold AW BX
  rw [List.map_map, List.map_map]
  rfl
theorem D4 {M : LogMs} (h : LogG M) : (AW (BX M)).Nodup := by
 rw [Ms]
 unfold List.Nodup
 rw [List.pairwise_map]
 refine h.asc.imp_of_mem fun {a b} ha hb hab e => ?_
 obtain ⟨x, hx, rfl⟩ := List.mem_map.1 ha
 obtain ⟨y, hy, rfl⟩ := List.mem_map.1 hb
 have := SR (h.first hx).2 (h.first hy).2 e
 omega
theorem KY {M : LogMs} (h : LogG M) : Gl (BX M) = (M.map (·.1)).map nameL := by
  unfold Gl
  rw [Ms]
  refine List.mergeSort_of_pairwise ?_
  rw [List.pairwise_map]
  refine h.asc.imp_of_mem fun {a b} ha hb hab => ?_
  obtain ⟨y, hy, rfl⟩ := List.mem_map.1 hb
  exact decide_eq_true (UY (Nat.le_of_lt hab) (h.first hy).2)
theorem GB {M : LogMs} (h : LogG M) {q : Nat × List EntD} (hq : q ∈ M) : Bw (BX M) (nameL q.1) = some (Bd q.2) := (Cc (D4 h)).2 (List.mem_map.2 ⟨q, hq, rfl⟩)
theorem DJ : ∀ {es : List EntD}, (∀ e, e ∈ es → BN e = true) → (Bd es).length ≤ 155 * es.length
  | [], _ => Nat.zero_le _
  | e :: r, h => by
    have h1 := DJ (es := r) fun x hx => h x (List.mem_cons_of_mem _ hx)
    have he := h e (List.mem_cons_self ..)
    have h2 := G1 he
    have h3 := DX he
    rw [KV, List.length_append, List.length_cons]
    omega
theorem Jf : ∀ (M : LogMs), AT (BX M) = (Bd (AU M)).length
  | [] => rfl
  | q :: M => by
    have h1 := Jf M
    show AT ((nameL q.1, Bd q.2) :: BX M) = (Bd (q.2 ++ AU M)).length
    rw [Kc, h1]
    unfold Bd
    rw [List.flatMap_append, List.length_append]
structure LogD (d : DiskD) (M : LogMs) (w : Nat) : Prop where
  down : d.down = false
  fuse : d.fuse = none
  room : d.room = 1048576
  wl : d.wait.length ≤ w
  ws : AT d.syn + (d.wait.map OpD.size).sum ≤ 1000000 + 155 * w
  now : d.now = BX M
  g : LogG M
theorem LogD.fit {d : DiskD} {M : LogMs} {w : Nat} (h : LogD d M w) (hw : w ≤ 10000) : d.fit := ⟨by have := h.ws; omega, by have := h.wl; omega⟩
theorem FG {d : DiskD} (h1 : d.down = false) (h2 : d.fuse = none) : Ce d = (d, 0) := by
 obtain ⟨r, s, w, f, dn⟩ := d
 simp only at h1 h2
 subst h1; subst h2
 simp [Ce]
theorem LogD.read {d : DiskD} {M : LogMs} {w : Nat} (h : LogD d M w) {q : Nat × List EntD} (hq : q ∈ M) : Cn d (nameL q.1) = some (Bd q.2) := by
 unfold Cn
 rw [if_neg (by rw [h.down]; decide), h.now]
 exact GB h.g hq
theorem LogD.ents {d : DiskD} {M : LogMs} {w : Nat} (h : LogD d M w) {q : Nat × List EntD} (hq : q ∈ M) : Ca d q.1 = Fo 0 q.2 := by
 unfold Ca
 rw [h.read hq]
 exact KX (h.g.seg hq).right
theorem LogD.marks {d : DiskD} {M : LogMs} {w : Nat} (h : LogD d M w) {q : Nat × List EntD} (hq : q ∈ M) : Cg d q.1 = CG q.2 := by
 unfold Cg
 rw [h.ents hq]
 rfl
theorem LogD.lists {d : DiskD} {M : LogMs} {w : Nat} (h : LogD d M w) : ∀ {M' : LogMs}, (∀ q, q ∈ M' → q ∈ M) → Bz d (M'.map (·.1)) = AU M'
  | [], _ => rfl
  | q :: M', hs => by
    have h1 := h.lists (M' := M') fun x hx => hs x (List.mem_cons_of_mem _ hx)
    show (Ca d q.1).map (·.1) ++ Bz d (M'.map (·.1)) = q.2 ++ AU M'
    rw [h1, h.ents (hs q (List.mem_cons_self ..)), Fi]
theorem LogD.marksM {d : DiskD} {M : LogMs} {w : Nat} (h : LogD d M w) : Sep.marksM d (M.map (·.1)) = An M := by
  unfold Sep.marksM An
  rw [List.map_map]
  exact List.map_congr_left fun q hq => by show (q.1, Cg d q.1) = _; rw [h.marks hq]
theorem LogD.opens {dk lim w : Nat} {d : DiskD} {M : LogMs} (tb : Tb) (h : LogD d M w) (hw : w ≤ 10000) (hl1 : 64 ≤ lim) (hl2 : lim ≤ 16384) : AV Tryz.prog 9 #[.pointer (some ⟨dk, 0, none⟩), .int .i64 (lim : Int)] [Ag dk d, Ao tb] (fun (p : Nat) => .tuple #[.pointer (some ⟨p, 0, none⟩), .int .i64 0]) (fun (p : Nat) => [Ay p dk lim (An M), Ag dk d, Ao tb]) := by
  have hfew := h.g.few
  have hmany := h.g.many
  have hat : ∀ {j f : Nat}, (M.map (·.1))[j]? = some f → ∃ q, M[j]? = some q ∧ q.1 = f ∧ q ∈ M := fun {j f} hj => by
    rw [List.getElem?_map] at hj
    cases hq : M[j]? with
    | none => rw [hq] at hj; cases hj
    | some q => rw [hq] at hj; exact ⟨q, rfl, by simpa using hj, List.mem_of_getElem? hq⟩
  have hlist := h.lists (M' := M) fun _ hq => hq
  have h1 := S4 (dk := dk) (lim := lim) (d := d) (fs := M.map (·.1)) hl1 hl2 h.down (by rw [h.now]; unfold BX; rw [List.length_map]; omega) (by rw [h.now]; exact KY h.g) tb (h.fit hw)
    (fun f hf => by obtain ⟨q, hq, rfl⟩ := List.mem_map.1 hf; exact (h.g.first hq).2) (by rw [List.length_map]; omega) (by rw [hlist]; omega)
    (fun f b hf hb => by
      obtain ⟨q, hq, rfl⟩ := List.mem_map.1 hf
      rw [h.read hq] at hb
      have h3 := DJ (h.g.seg hq).right
      have h4 : q.2.length ≤ (AU M).length := by
        obtain ⟨A, B, rfl⟩ := List.append_of_mem hq
        rw [BP]
        show _ ≤ (AU A ++ (q.2 ++ AU B)).length
        simp only [List.length_append]; omega
      rw [← hb]
      show (Bd q.2).length ≤ _
      omega)
    (fun j f i e n hj hi => by
      obtain ⟨q, hqj, rfl, hq⟩ := hat hj
      rw [h.ents hq] at hi
      have hi1 : q.2[i]? = some e := by
        have := congrArg (·[i]?) (Fi q.2 0)
        simp only [List.getElem?_map, hi, Option.map_some] at this
        exact this.symm
      have hup : Cr d (M.map (·.1)) j q.1 i = AU (M.take j) ++ q.2.take i := by
        unfold Cr
        rw [← List.map_take, h.lists (M' := M.take j) (fun x hx => List.mem_of_mem_take hx), h.ents hq, List.map_take, Fi]
      rw [hup]
      have hL : AU M = (AU (M.take j) ++ q.2.take i) ++ e :: (q.2.drop (i + 1) ++ AU (M.drop (j + 1))) := by
        conv => lhs; rw [← List.take_append_drop j M, En hqj, BP]
        show AU (M.take j) ++ (q.2 ++ AU (M.drop (j + 1))) = _
        conv => lhs; rw [← List.take_append_drop i q.2, En hi1]
        simp
      obtain ⟨h5, h6, h7⟩ := h.g.c.fol _ _ _ hL
      exact ⟨fun h0 => by
        subst h0
        obtain ⟨e', r, he⟩ := List.exists_cons_of_ne_nil (h.g.ne q hq)
        rw [he] at hi1
        simp only [List.getElem?_cons_zero, Option.some.injEq] at hi1
        rw [← hi1]
        exact h.g.hd q hq e' r he, h5, h6, h7⟩)
    (fun j f b hj hb => by
      obtain ⟨q, _, rfl, hq⟩ := hat hj
      rw [h.read hq] at hb
      rw [h.marks hq]
      rcases Cz q.2 with h0 | ⟨r, e, he⟩
      · exact absurd h0 (h.g.ne q hq)
      · rw [he, Es]
        exact ⟨_, rfl, by rw [← hb, he]; rfl⟩)
  rw [h.marksM] at h1
  exact h1
end Go.Proofs.YtjcfimmcogkopaaGreatDoor.Sep
namespace Go.Proofs.YtjcfimmcogkopaaGreatDoor.Sep
open Go.RowKit
section
variable {κ ν : Type} [DecidableEq κ]
theorem JV {l : List (κ × ν)} {k : κ} {b x : ν} (hn : (AW (l ++ [(k, b)])).Nodup) : BM (l ++ [(k, b)]) k x = l ++ [(k, x)] := by
 unfold BM
 rw [LC (x := b) (j := l.length) hn (by simp)]
 simp only [Nat.zero_add]
 rw [List.set_append_right _ _ (Nat.le_refl _), Nat.sub_self]
 rfl
theorem Pp {l : List (κ × ν)} {k : κ} {b : ν} (hn : (AW (l ++ [(k, b)])).Nodup) : CO (l ++ [(k, b)]) k = l := by
 unfold CO
 rw [LC (x := b) (j := l.length) hn (by simp)]
 simp only [Nat.zero_add]
 rw [List.eraseIdx_append_of_length_le (Nat.le_refl _), Nat.sub_self]
 simp
end
theorem CF (A B : LogMs) : BX (A ++ B) = BX A ++ BX B := by simp [BX]
theorem C4 (A B : LogMs) : An (A ++ B) = An A ++ An B := by simp [An]
def Gn (lim : Nat) (M : LogMs) (e : EntD) : LogMs :=
  match M.getLast? with
  | none => M ++ [(e.i.toNat, [e])]
  | some q => if lim < (Bd q.2).length + (Fg e).length then M ++ [(e.i.toNat, [e])] else M.dropLast ++ [(q.1, q.2 ++ [e])]
theorem E6 (lim : Nat) (M : LogMs) (q : Nat × List EntD) (e : EntD) : Gn lim (M ++ [q]) e = if lim < (Bd q.2).length + (Fg e).length then M ++ [q] ++ [(e.i.toNat, [e])] else M ++ [(q.1, q.2 ++ [e])] := by
 unfold Gn
 rw [List.getLast?_append]
 simp
theorem UZ {M : LogMs} {e : EntD} (h : LogG M) (hr : BN e = true) (hf : Fh (AD (AU M)) e) (hm : (AU M).length < 1000) : LogG (M ++ [(e.i.toNat, [e])]) := by
  have hi := N3 hr
  have ha : AU (M ++ [(e.i.toNat, [e])]) = AU M ++ [e] := by rw [BP]; rfl
  refine ⟨fun q hq => ?_, by rw [ha]; exact h.c.push hr hf, fun q hq x r hx => ?_, by rw [ha, List.length_append]; simp only [List.length_cons, List.length_nil]; omega⟩
  · rcases List.mem_append.1 hq with hq | hq
    · exact h.ne q hq
    · rw [List.mem_singleton.1 hq]; simp
  · rcases List.mem_append.1 hq with hq | hq
    · exact h.hd q hq x r hx
    · rw [List.mem_singleton.1 hq] at hx ⊢
      simp only [List.cons.injEq] at hx
      rw [← hx.1]
      show e.i = (e.i.toNat : Int)
      omega
theorem U0 {M : LogMs} {q : Nat × List EntD} {e : EntD} (h : LogG (M ++ [q])) (hr : BN e = true) (hf : Fh (AD (AU (M ++ [q]))) e) (hm : (AU (M ++ [q])).length < 1000) : LogG (M ++ [(q.1, q.2 ++ [e])]) := by
  have ha : AU (M ++ [(q.1, q.2 ++ [e])]) = AU (M ++ [q]) ++ [e] := by rw [BP, BP]; simp [AU]
  have hq0 : q ∈ M ++ [q] := List.mem_append_right _ (List.mem_singleton.2 rfl)
  refine ⟨fun x hx => ?_, by rw [ha]; exact h.c.push hr hf, fun x hx y r hy => ?_, by rw [ha, List.length_append]; simp only [List.length_cons, List.length_nil]; omega⟩
  · rcases List.mem_append.1 hx with hx | hx
    · exact h.ne x (List.mem_append_left _ hx)
    · rw [List.mem_singleton.1 hx]; simp
  · rcases List.mem_append.1 hx with hx | hx
    · exact h.hd x (List.mem_append_left _ hx) y r hy
    · rw [List.mem_singleton.1 hx] at hy ⊢
      obtain ⟨e0, r0, h0⟩ := List.exists_cons_of_ne_nil (h.ne q hq0)
      rw [h0] at hy
      simp only [List.cons_append, List.cons.injEq] at hy
      rw [← hy.1]
      exact h.hd q hq0 e0 r0 h0
theorem Pq (lim : Nat) (M : LogMs) (e : EntD) : AU (Gn lim M e) = AU M ++ [e] := by
  rcases Cz M with rfl | ⟨M0, q, rfl⟩
  · rfl
  · rw [E6]
    split
    · rw [BP]; rfl
    · rw [BP, BP]; simp [AU]
theorem Pr {M : LogMs} {q : Nat × List EntD} (h : LogG (M ++ [q])) : Bw (BX M) (nameL q.1) = none := by
 rw [FD]
 intro hm
 have h1 := D4 h
 rw [CF] at h1
 unfold AW at h1 hm
 rw [List.map_append] at h1
 exact (List.nodup_append.1 h1).2.2 _ hm _ (List.mem_singleton.2 rfl) rfl
theorem LogD.appends {d : DiskD} {M : LogMs} {w : Nat} {n b : List UInt8} (h : LogD d M w) (hn : D9 n = true) (hu : (Bd (AU M)).length + b.length ≤ 1048576) (hf : M.length < 64) : CD d n b = (Cw d (.app n b), 0) := by
 unfold CD
 rw [FG h.down h.fuse]
 simp only
 rw [if_neg (by simp), hn, if_neg (by simp)]
 have h2 : IL d n b = true := by
  unfold IL
  rw [h.now, Jf, Bool.and_eq_true, decide_eq_true_eq, h.room]
  refine ⟨by omega, ?_⟩
  have : (BX M).length = M.length := by unfold BX; rw [List.length_map]
  simp
  right
  omega
 rw [h2, if_neg (by simp)]
theorem N4 (n : Nat) : D9 (nameL n) = true := by unfold D9; rw [SQ]; rfl
theorem LogD.does {d : DiskD} {M M' : LogMs} {w : Nat} {n b : List UInt8} (h : LogD d M w) (hb : b.length ≤ 155) (hn : BM (BX M) n ((Bw (BX M) n).getD [] ++ b) = BX M') (hg : LogG M') : LogD (Cw d (.app n b)) M' (w + 1) := by
 have hl := h.wl
 have hs := h.ws
 exact ⟨h.down, h.fuse, h.room, by show (d.wait ++ [_]).length ≤ _; rw [List.length_append]; simp only [List.length_cons, List.length_nil]; omega, by
  show AT d.syn + ((d.wait ++ [OpD.app n b]).map OpD.size).sum ≤ _
  rw [List.map_append, List.sum_append]
  simp only [List.map_cons, List.map_nil, List.sum_cons, List.sum_nil, OpD.size]
  omega, by rw [Gv, h.now]; exact hn, hg⟩
theorem LogD.new {d : DiskD} {M : LogMs} {w : Nat} {e : EntD} (h : LogD d M w) (hr : BN e = true) (hf : Fh (AD (AU M)) e) (hm : (AU M).length < 60) : ∃ d', CD d (nameL e.i.toNat) (Fg e) = (d', 0) ∧ LogD d' (M ++ [(e.i.toNat, [e])]) (w + 1) := by
 have hg := UZ h.g hr hf (by omega)
 have hfl := G1 hr
 have hle := DX hr
 have hbl := DJ h.g.c.right
 have hfew := h.g.few
 refine ⟨_, h.appends (N4 _) (by omega) (by omega), h.does (by omega) ?_ hg⟩
 have h0 := Pr hg
 rw [ED h0, h0, CF]
 simp [BX, Bd]
theorem LogD.old {d : DiskD} {M : LogMs} {q : Nat × List EntD} {w : Nat} {e : EntD} (h : LogD d (M ++ [q]) w) (hr : BN e = true) (hf : Fh (AD (AU (M ++ [q]))) e) (hm : (AU (M ++ [q])).length < 60) : ∃ d', CD d (nameL q.1) (Fg e) = (d', 0) ∧ LogD d' (M ++ [(q.1, q.2 ++ [e])]) (w + 1) := by
 have hg := U0 h.g hr hf (by omega)
 have hfl := G1 hr
 have hle := DX hr
 have hbl := DJ h.g.c.right
 have hfew := h.g.few
 refine ⟨_, h.appends (N4 _) (by omega) (by omega), h.does (by omega) ?_ hg⟩
 have h0 := GB h.g (q := q) (List.mem_append_right _ (List.mem_singleton.2 rfl))
 have h1 := D4 h.g
 rw [h0]
 rw [CF] at h1 ⊢
 show BM (BX M ++ [(nameL q.1, Bd q.2)]) _ _ = _
 rw [JV h1, CF]
 simp [BX, KW]
theorem LogD.add {lim w : Nat} {d : DiskD} {M : LogMs} {e : EntD} (h : LogD d M w) (hw : w ≤ 9999) (hr : BN e = true) (hf : Fh (AD (AU M)) e) (hm : (AU M).length < 60) : Pm lim (An M, d) e ∧ ∃ d', Kx lim (An M, d) e = (An (Gn lim M e), d') ∧ LogD d' (Gn lim M e) (w + 1) := by
  have hfew := h.g.few
  have hml : (An M).length = M.length := by unfold An; rw [List.length_map]
  have hfit := h.fit (by omega)
  obtain ⟨d1, hd1, hD1⟩ := h.new hr hf hm
  rcases Cz M with rfl | ⟨M0, q, rfl⟩
  · refine ⟨⟨hr, hfit, by rw [hml]; omega, ?_⟩, d1, ?_, hD1⟩
    · show (CD d (nameL e.i.toNat) (Fg e)).2 = 0
      rw [hd1]
    · show Je _ e = _
      unfold Je
      simp only
      rw [hd1]
      simp [Gn, An, CG, Fo]
  · obtain ⟨d2, hd2, hD2⟩ := h.old hr hf hm
    have hq : q ∈ M0 ++ [q] := List.mem_append_right _ (List.mem_singleton.2 rfl)
    have hlast : (An (M0 ++ [q])).getLast? = some (q.1, CG q.2) := by rw [C4, List.getLast?_append]; rfl
    have hsz := G2 q.2
    have hbq := DJ (h.g.seg hq).right
    have hlq : q.2.length < 60 := by rw [BP, List.length_append] at hm; simp only [AU, List.flatMap_cons, List.flatMap_nil, List.append_nil] at hm; omega
    have hso : UW (q.1, CG q.2) := ⟨(h.g.first hq).2, E5 (h.g.ne q hq), by show (CG q.2).length ≤ _; rw [Dh]; omega, by show H8 (CG q.2) ≤ _; rw [hsz]; omega⟩
    by_cases hb : lim < (Bd q.2).length + (Fg e).length
    · refine ⟨⟨hr, hfit, by rw [hml]; omega, ?_⟩, d1, ?_, ?_⟩
      · simp only [hlast]
        refine ⟨hso, ?_⟩
        rw [hsz, if_pos hb, hd1]
      · unfold Kx
        simp only [hlast]
        rw [hsz, if_pos hb, E6, if_pos hb]
        unfold Je
        simp only
        rw [hd1, C4 (M0 ++ [q])]
        simp [An, CG, Fo]
      · rw [E6, if_pos hb]; exact hD1
    · refine ⟨⟨hr, hfit, by rw [hml]; omega, ?_⟩, d2, ?_, ?_⟩
      · simp only [hlast]
        refine ⟨hso, ?_⟩
        rw [hsz, if_neg hb, hd2]
      · unfold Kx
        simp only [hlast]
        rw [hsz, if_neg hb, E6, if_neg hb, hd2, C4, C4]
        simp [An, Mn]
      · rw [E6, if_neg hb]; exact hD2
end Go.Proofs.YtjcfimmcogkopaaGreatDoor.Sep
namespace Go.Proofs.YtjcfimmcogkopaaGreatDoor.Sep
open Go.RowKit
theorem Ps {L : List EntD} {a b : Nat} {x y : EntD} (h : LogC L) (ha : L[a]? = some x) (hb : L[b]? = some y) : y.i + (a : Int) = x.i + (b : Int) := by
  have key : ∀ {a b : Nat} {x y : EntD}, a < b → L[a]? = some x → L[b]? = some y → y.i + (a : Int) = x.i + (b : Int) := fun {a b x y} hab ha hb => by
    have h1 : L = L.take a ++ (x :: L.drop (a + 1)) := by rw [← En ha, List.take_append_drop]
    have h2 : LogC (x :: L.drop (a + 1)) := LogC.suffix (A := L.take a) (by rw [← h1]; exact h)
    have h3 : (L.drop (a + 1))[b - (a + 1)]? = some y := by rw [List.getElem?_drop, show a + 1 + (b - (a + 1)) = b by omega]; exact hb
    have h4 := Mq _ x y _ h2 h3
    omega
  rcases Nat.lt_trichotomy a b with h1 | h1 | h1
  · exact key h1 ha hb
  · subst h1
    rw [ha] at hb
    cases hb
    rfl
  · have := key h1 hb ha
    omega
theorem Mt {M : LogMs} (h : LogG M) : DG (An M) = AD (AU M) := by
  rcases Cz M with rfl | ⟨M0, q, rfl⟩
  · rfl
  · have hq : q ∈ M0 ++ [q] := List.mem_append_right _ (List.mem_singleton.2 rfl)
    have hlast : (An (M0 ++ [q])).getLast? = some (q.1, CG q.2) := by rw [C4, List.getLast?_append]; rfl
    have hseg := h.seg hq
    unfold DG
    rw [hlast]
    simp only
    rw [Dh, BP, show AU [q] = q.2 by simp [AU], Mp _ (h.ne q hq)]
    rcases Cz q.2 with h0 | ⟨r, e, he⟩
    · exact absurd h0 (h.ne q hq)
    · obtain ⟨e0, r0, h0⟩ := List.exists_cons_of_ne_nil (h.ne q hq)
      have h1 := h.hd q hq e0 r0 h0
      have h2 : q.2[0]? = some e0 := by rw [h0]; rfl
      have h3 : q.2[r.length]? = some e := by rw [he]; simp
      have h4 := Ps hseg h2 h3
      rw [he, Es, D3, List.length_append]
      simp only [Option.map_some, Option.getD_some, List.length_cons, List.length_nil]
      congr 1
      omega
theorem KZ {M : LogMs} (h : LogG M) : RU (An M) := by
  have hfew := h.few
  have hmany := h.many
  refine ⟨by unfold An; rw [List.length_map]; omega, ?_⟩
  rcases Cz M with rfl | ⟨M0, q, rfl⟩
  · exact trivial
  · have hq : q ∈ M0 ++ [q] := List.mem_append_right _ (List.mem_singleton.2 rfl)
    have hlast : (An (M0 ++ [q])).getLast? = some (q.1, CG q.2) := by rw [C4, List.getLast?_append]; rfl
    rw [hlast]
    have hbq := DJ (h.seg hq).right
    have hlq : q.2.length ≤ 1000 := by rw [BP, List.length_append] at hmany; simp only [AU, List.flatMap_cons, List.flatMap_nil, List.append_nil] at hmany; omega
    exact ⟨(h.first hq).2, E5 (h.ne q hq), by show (CG q.2).length ≤ _; rw [Dh]; omega, by show H8 (CG q.2) ≤ _; rw [G2]; omega⟩
def B3 (lim : Nat) (M : LogMs) (l : List EntV) : LogMs := l.foldl (fun M z => Gn lim M z.e) M
theorem Mu {lim : Nat} {M : LogMs} {l : List EntV} {j : Nat} {z : EntV} (h : l[j]? = some z) : B3 lim M (l.take (j + 1)) = Gn lim (B3 lim M (l.take j)) z.e := by
 unfold B3
 rw [List.take_add_one, h, List.foldl_append]
 rfl
theorem FH (lim : Nat) : ∀ (l : List EntV) (M : LogMs), AU (B3 lim M l) = AU M ++ l.map (·.e)
  | [], M => by simp [B3]
  | z :: r, M => by
    show AU (B3 lim (Gn lim M z.e) r) = _
    rw [FH lim r, Pq]
    simp
theorem Mv {M : LogMs} (h : LogG M) (l : List EntV) (j : Nat) : CM (DG (An M)) l j = AD (AU M ++ (l.take j).map (·.e)) := by
  unfold CM
  rcases Cz (l.take j) with h0 | ⟨r, z, hz⟩
  · rw [h0, Mt h]; simp
  · rw [hz, List.getLast?_append, List.map_append, ← List.append_assoc]
    show (z.e.t, z.e.i) = AD ((AU M ++ r.map (·.e)) ++ [z.e])
    rw [D3]
theorem LogD.adds {lim w : Nat} {d : DiskD} {M : LogMs} {l : List EntV} (h : LogD d M w) (hc : LogC (AU M ++ l.map (·.e))) (hm : (AU M).length + l.length ≤ 60) (hw : w + l.length ≤ 9999) : ∀ j, j ≤ l.length → ∃ d', C0 lim (An M, d) (l.take j) = (An (B3 lim M (l.take j)), d') ∧ LogD d' (B3 lim M (l.take j)) (w + j)
  | 0, _ => ⟨d, rfl, h⟩
  | j + 1, hj => by
    obtain ⟨d1, h1, h2⟩ := h.adds hc hm hw j (by omega)
    obtain ⟨z, hz⟩ : ∃ z, l[j]? = some z := ⟨_, List.getElem?_eq_getElem (by omega)⟩
    have hze : z.e ∈ AU M ++ l.map (·.e) := List.mem_append_right _ (List.mem_map.2 ⟨z, List.mem_of_getElem? hz, rfl⟩)
    have hall : AU (B3 lim M (l.take j)) = AU M ++ (l.take j).map (·.e) := FH lim _ M
    have hsp : AU M ++ l.map (·.e) = (AU M ++ (l.take j).map (·.e)) ++ z.e :: (l.drop (j + 1)).map (·.e) := by
      conv => lhs; rw [← List.take_append_drop j l, En hz]
      simp
    obtain ⟨_, d2, h3, h4⟩ := h2.add (lim := lim) (e := z.e) (by omega) (hc.right _ hze) (by rw [hall]; exact hc.fol _ _ _ hsp) (by rw [hall, List.length_append, List.length_map, List.length_take]; omega)
    refine ⟨d2, ?_, ?_⟩
    · rw [Nh hz, h1, h3, Mu hz]
    · rw [Mu hz]; exact h4
theorem LogD.append {lim w : Nat} {d : DiskD} {M : LogMs} {l : List EntV} (tb : Tb) (h : LogD d M w) (hli : lim ≤ 1000000000) (hc : LogC (AU M ++ l.map (·.e))) (hm : (AU M).length + l.length ≤ 60) (hw : w + l.length ≤ 9999) : ∃ d', LogD d' (B3 lim M l) (w + l.length) ∧ ∀ (p dk : Nat) (v : Value), AV Tryz.prog 21 #[.pointer (some ⟨p, 0, none⟩), v] [Ay p dk lim (An M), Ag dk d, Ao tb, Cm 53 v l] (fun (_ : Unit) => .int .i64 0) (fun (_ : Unit) => [Ay p dk lim (An (B3 lim M l)), Ag dk d', Ao tb, Cm 53 v l]) := by
  obtain ⟨d', h1, h2⟩ := h.adds (lim := lim) hc hm hw l.length (Nat.le_refl _)
  rw [List.take_length] at h1 h2
  have hsp : ∀ (j : Nat) (z : EntV), l[j]? = some z → BN z.e = true ∧ Fh (AD (AU M ++ (l.take j).map (·.e))) z.e := fun j z hz => by
    have hze : z.e ∈ AU M ++ l.map (·.e) := List.mem_append_right _ (List.mem_map.2 ⟨z, List.mem_of_getElem? hz, rfl⟩)
    refine ⟨hc.right _ hze, hc.fol _ _ ((l.drop (j + 1)).map (·.e)) ?_⟩
    conv => lhs; rw [← List.take_append_drop j l, En hz]
    simp
  refine ⟨d', h2, fun p dk v => ?_⟩
  have h3 := Po (p := p) (dk := dk) (lim := lim) (s := (An M, d)) (v := v) (l := l) tb hli (by omega) (KZ h.g)
    (fun j z hz => by
      show Fh (CM (DG (An M)) l j) z.e
      rw [Mv h.g]; exact (hsp j z hz).2)
    (fun j z hz => by
      have hjl := (List.getElem?_eq_some_iff.1 hz).1
      obtain ⟨d1, h4, h5⟩ := h.adds (lim := lim) hc hm hw j (by omega)
      have hall : AU (B3 lim M (l.take j)) = AU M ++ (l.take j).map (·.e) := FH lim _ M
      obtain ⟨h6, _⟩ := h5.add (lim := lim) (e := z.e) (by omega) (hsp j z hz).1 (by rw [hall]; exact (hsp j z hz).2) (by rw [hall, List.length_append, List.length_map, List.length_take]; omega)
      rw [h4]; exact h6)
  rw [h1] at h3
  exact h3
end Go.Proofs.YtjcfimmcogkopaaGreatDoor.Sep
