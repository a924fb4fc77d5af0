/-
  SgJ · SgK · SgR · SgAp
-/
import Derived.Test.YtaipejaeeohpkaaGreatDoorUN01
import Derived.Test.YtaipejaeeohpkaaGreatDoorUN03
set_option linter.unusedSimpArgs false
set_option linter.unusedVariables false
namespace Go.Proofs.YtaipejaeeohpkaaGreatDoor.Sep
open Go.RowKit
theorem nil_snoc {α : Type} (l : List α) : l = [] ∨ ∃ r e, l = r ++ [e] := by
  rcases List.eq_nil_or_concat l with h | ⟨r, e, h⟩
  · exact .inl h
  · exact .inr ⟨r, e, by rw [h, List.concat_eq_append]⟩
abbrev LogMs := List (Nat × List EntD)
def bytesE (es : List EntD) : List UInt8 := es.flatMap frE
def cumE : Nat → List EntD → List (EntD × Nat)
  | _, [] => []
  | o, e :: r => (e, o + (frE e).length) :: cumE (o + (frE e).length) r
def markL (es : List EntD) : List (Int × Nat) := (cumE 0 es).map fun x => (x.1.t, x.2)
def marksOf (M : LogMs) : SegsM := M.map fun q => (q.1, markL q.2)
def filesM (M : LogMs) : FS := M.map fun q => (nameL q.1, bytesE q.2)
def allE (M : LogMs) : List EntD := M.flatMap (·.2)
theorem bytesE_cons (e : EntD) (r : List EntD) : bytesE (e :: r) = frE e ++ bytesE r := rfl
theorem bytesE_push (es : List EntD) (e : EntD) : bytesE (es ++ [e]) = bytesE es ++ frE e := by simp [bytesE]
theorem cumE_push : ∀ (es : List EntD) (o : Nat) (e : EntD), cumE o (es ++ [e]) = cumE o es ++ [(e, o + (bytesE es).length + (frE e).length)]
  | [], o, e => by simp [cumE, bytesE]
  | x :: r, o, e => by
    simp only [List.cons_append, cumE, cumE_push r, bytesE_cons, List.length_append, List.cons.injEq, true_and]
    congr 3
    omega
theorem cumE_fst : ∀ (es : List EntD) (o : Nat), (cumE o es).map (·.1) = es
  | [], _ => rfl
  | x :: r, o => by simp [cumE, cumE_fst r]
theorem cumE_len (es : List EntD) (o : Nat) : (cumE o es).length = es.length := by
 have := congrArg List.length (cumE_fst es o)
 rwa [List.length_map] at this
theorem markL_push (es : List EntD) (e : EntD) : markL (es ++ [e]) = markL es ++ [(e.t, (bytesE es).length + (frE e).length)] := by
 unfold markL
 rw [cumE_push, List.map_append]
 simp
theorem markL_len (es : List EntD) : (markL es).length = es.length := by unfold markL; rw [List.length_map, cumE_len]
theorem markL_last (es : List EntD) (e : EntD) : (markL (es ++ [e])).getLast? = some (e.t, (bytesE (es ++ [e])).length) := by
 rw [markL_push, List.getLast?_append, bytesE_push, List.length_append]; rfl
theorem sizeL_mark (es : List EntD) : sizeL (markL es) = (bytesE es).length := by
  rcases nil_snoc es with rfl | ⟨r, e, rfl⟩
  · rfl
  · unfold sizeL
    rw [markL_last]
    rfl
theorem markL_nil {es : List EntD} (h : es ≠ []) : markL es ≠ [] := fun h0 => h (List.length_eq_zero_iff.1 (by rw [← markL_len, h0]; rfl))
theorem entsP_lay : ∀ (es : List EntD) (o : Nat), (∀ e, e ∈ es → rightE e = true) → entsP o (es.map layE) = cumE o es
  | [], _, _ => rfl
  | e :: r, o, h => by
    have he := h e (List.mem_cons_self ..)
    have hd : decE (layE e) = (e, 0) := decE_right (by have := layE_len he; omega) (readE_lay he) rfl he
    show (if (decE (layE e)).2 = 0 then ((decE (layE e)).1, o + (8 + (layE e).length)) :: entsP (o + (8 + (layE e).length)) (r.map layE) else []) = _
    rw [hd, if_pos rfl, ← frE_len he, entsP_lay r _ (fun x hx => h x (List.mem_cons_of_mem _ hx))]
    rfl
theorem bytes_frames (es : List EntD) : bytesE es = framesL (es.map layE) := by
 unfold bytesE framesL
 rw [List.map_map, List.flatMap_def]
 rfl
theorem entsL_bytes {es : List EntD} (h : ∀ e, e ∈ es → rightE e = true) : entsL (bytesE es) = cumE 0 es := by
 have h1 := list_frames (es.map layE) (fun x hx => by
  obtain ⟨e, he, rfl⟩ := List.mem_map.1 hx
  have := layE_len (h e he); omega) []
 rw [List.append_nil] at h1
 unfold entsL
 rw [bytes_frames, h1]
 show entsP 0 (es.map layE ++ []) = _
 rw [List.append_nil, entsP_lay es 0 h]
structure LogC (L : List EntD) : Prop where
  right : ∀ e, e ∈ L → rightE e = true
  fol : ∀ A b B, L = A ++ b :: B → FolOk (lastIT A) b
theorem lastIT_app (A : List EntD) {B : List EntD} (h : B ≠ []) : lastIT (A ++ B) = lastIT B := by
  rcases nil_snoc B with rfl | ⟨r, e, rfl⟩
  · exact absurd rfl h
  · rw [← List.append_assoc, lastIT_push, lastIT_push]
theorem fol_nil (b : EntD) : FolOk (lastIT []) b := ⟨.inl rfl, by decide, by decide⟩
theorem LogC.suffix {A B : List EntD} (h : LogC (A ++ B)) : LogC B := ⟨fun e he => h.right e (List.mem_append_right _ he), fun C b D hB => by
  by_cases hC : C = []
  · subst hC; exact fol_nil b
  · have := h.fol (A ++ C) b D (by rw [hB, List.append_assoc])
    rwa [lastIT_app A hC] at this⟩
theorem LogC.front {A B : List EntD} (h : LogC (A ++ B)) : LogC A := ⟨fun e he => h.right e (List.mem_append_left _ he), fun C b D hA => h.fol C b (D ++ B) (by rw [hA, List.append_assoc]; rfl)⟩
theorem LogC.push {A : List EntD} {e : EntD} (h : LogC A) (hr : rightE e = true) (hf : FolOk (lastIT A) e) : LogC (A ++ [e]) := ⟨fun x hx => by
  rcases List.mem_append.1 hx with hx | hx
  · exact h.right x hx
  · rw [List.mem_singleton.1 hx]; exact hr, fun C b D hA => by
  rcases nil_snoc D with rfl | ⟨D', x, rfl⟩
  · obtain ⟨h1, h2⟩ := List.append_inj' hA rfl
    cases h2
    rw [← h1]; exact hf
  · rw [← List.cons_append, ← List.append_assoc] at hA
    obtain ⟨h1, h2⟩ := List.append_inj' hA rfl
    exact h.fol C b D' h1⟩
theorem LogC.nil : LogC [] := ⟨fun _ h => (List.not_mem_nil h).elim, fun A b B h => by simp at h⟩
theorem right_i {e : EntD} (h : rightE e = true) : 1 ≤ e.i ∧ e.i ≤ 72057594037927935 := (rightE_iff h).2.1
theorem logC_idx : ∀ (R : List EntD) (e x : EntD) (k : Nat), LogC (e :: R) → R[k]? = some x → x.i = e.i + (k : Int) + 1
  | [], _, _, _, _, h => by simp at h
  | y :: R, e, x, k, hc, h => by
    have h1 := right_i (hc.right e (List.mem_cons_self ..))
    have h2 : FolOk (e.t, e.i) y := hc.fol [e] y R rfl
    have h3 : y.i = e.i + 1 := by
      rcases h2.1 with h0 | ⟨_, h0, _⟩
      · have : e.i = 0 := h0
        omega
      · exact h0
    cases k with
    | zero =>
      simp only [List.getElem?_cons_zero, Option.some.injEq] at h
      rw [← h, h3]; simp
    | succ k =>
      have h4 := logC_idx R y x k (LogC.suffix (A := [e]) hc) (by simpa using h)
      rw [h4, h3]; push_cast; omega
theorem logC_lt {R : List EntD} {e x : EntD} (hc : LogC (e :: R)) (hx : x ∈ R) : e.i < x.i := by
 obtain ⟨k, hk⟩ := List.getElem?_of_mem hx
 have := logC_idx R e x k hc hk
 omega
structure LogG (M : LogMs) : Prop where
  ne : ∀ q, q ∈ M → q.2 ≠ []
  c : LogC (allE M)
  hd : ∀ q, q ∈ M → ∀ e r, q.2 = e :: r → e.i = (q.1 : Int)
  many : (allE M).length ≤ 1000
theorem allE_app (A B : LogMs) : allE (A ++ B) = allE A ++ allE B := by simp [allE]
theorem LogG.nil : LogG [] := ⟨fun _ h => (List.not_mem_nil h).elim, LogC.nil, fun _ h => (List.not_mem_nil h).elim, by decide⟩
theorem LogG.tail {q : Nat × List EntD} {M : LogMs} (h : LogG (q :: M)) : LogG M := ⟨fun x hx => h.ne x (List.mem_cons_of_mem _ hx), LogC.suffix (A := q.2) h.c, fun x hx => h.hd x (List.mem_cons_of_mem _ hx), by have := h.many; simp only [allE, List.flatMap_cons, List.length_append] at this ⊢; omega⟩
theorem LogG.lt {q : Nat × List EntD} {M : LogMs} (h : LogG (q :: M)) : ∀ x, x ∈ M → q.1 < x.1 := fun x hx => by
 obtain ⟨e, r, he⟩ : ∃ e r, q.2 = e :: r := List.exists_cons_of_ne_nil (h.ne q (List.mem_cons_self ..))
 obtain ⟨e', r', he'⟩ : ∃ e r, x.2 = e :: r := List.exists_cons_of_ne_nil (h.ne x (List.mem_cons_of_mem _ hx))
 have h1 := h.hd q (List.mem_cons_self ..) e r he
 have h2 := h.hd x (List.mem_cons_of_mem _ hx) e' r' he'
 have hc : LogC (e :: (r ++ allE M)) := by
  have := h.c
  simp only [allE, List.flatMap_cons, he] at this
  exact this
 have hm : e' ∈ r ++ allE M := List.mem_append_right _ (List.mem_flatMap.2 ⟨x, hx, by rw [he']; exact List.mem_cons_self ..⟩)
 have := logC_lt hc hm
 omega
theorem LogG.asc : ∀ {M : LogMs}, LogG M → (M.map (·.1)).Pairwise (· < ·)
  | [], _ => List.Pairwise.nil
  | q :: M, h => by
    rw [List.map_cons, List.pairwise_cons]
    exact ⟨fun a ha => by
      obtain ⟨x, hx, rfl⟩ := List.mem_map.1 ha
      exact h.lt x hx, h.tail.asc⟩
theorem LogG.few : ∀ {M : LogMs}, LogG M → M.length ≤ (allE M).length
  | [], _ => Nat.le_refl _
  | q :: M, h => by
    have h1 := h.tail.few
    have h2 : 0 < q.2.length := List.length_pos_iff.2 (h.ne q (List.mem_cons_self ..))
    simp only [allE, List.flatMap_cons, List.length_append, List.length_cons] at h1 ⊢
    omega
theorem LogG.first {M : LogMs} (h : LogG M) {q : Nat × List EntD} (hq : q ∈ M) : 1 ≤ q.1 ∧ q.1 ≤ 72057594037927935 := by
 obtain ⟨e, r, he⟩ : ∃ e r, q.2 = e :: r := List.exists_cons_of_ne_nil (h.ne q hq)
 have h1 := h.hd q hq e r he
 have h2 := right_i (h.c.right e (List.mem_flatMap.2 ⟨q, hq, by rw [he]; exact List.mem_cons_self ..⟩))
 omega
theorem LogG.seg {M : LogMs} (h : LogG M) {q : Nat × List EntD} (hq : q ∈ M) : LogC q.2 := by
 obtain ⟨A, B, rfl⟩ := List.append_of_mem hq
 have h1 := h.c
 rw [allE_app] at h1
 have h2 : LogC (q.2 ++ allE B) := h1.suffix
 exact h2.front
end Go.Proofs.YtaipejaeeohpkaaGreatDoor.Sep
namespace Go.Proofs.YtaipejaeeohpkaaGreatDoor.Sep
open Go.RowKit
theorem hexD_mod : ∀ (j k m : Nat), j ≤ k → hexD j (m % 16 ^ k) = hexD j m
  | 0, _, _, _ => rfl
  | j + 1, k, m, hj => by
    show digH ((m % 16 ^ k) / 16 ^ j % 16) :: hexD j (m % 16 ^ k) = digH (m / 16 ^ j % 16) :: hexD j m
    rw [hexD_mod j k m (by omega)]
    congr 2
    obtain ⟨q, rfl⟩ : ∃ q, k = j + 1 + q := ⟨k - (j + 1), by omega⟩
    have h1 : 16 ^ (j + 1 + q) = 16 ^ j * (16 * 16 ^ q) := by rw [Nat.pow_add, Nat.pow_succ, Nat.mul_assoc]
    rw [h1, Nat.mod_mul_right_div_self, Nat.mod_mul_right_mod]
theorem digH_mono {a b : Nat} (ha : a < 16) (hb : b < 16) (h : digH a < digH b) : a < b := by
 have key : ∀ a : Fin 16, ∀ b : Fin 16, digH a.1 < digH b.1 → a.1 < b.1 := by decide
 exact key ⟨a, ha⟩ ⟨b, hb⟩ h
theorem hexD_le : ∀ (k m n : Nat), m ≤ n → n < 16 ^ k → ¬ hexD k n < hexD k m
  | 0, _, _, _, _ => by intro h; cases h
  | k + 1, m, n, hmn, hn => by
    intro h
    have e2 : n / 16 ^ k < 16 := Nat.div_lt_of_lt_mul (by rw [← Nat.pow_succ]; exact hn)
    have e3 : m / 16 ^ k ≤ n / 16 ^ k := Nat.div_le_div_right hmn
    simp only [hexD, List.cons_lt_cons_iff] at h
    rw [Nat.mod_eq_of_lt e2, Nat.mod_eq_of_lt (Nat.lt_of_le_of_lt e3 e2)] at h
    rcases h with h | ⟨h1, h2⟩
    · have := digH_mono e2 (Nat.lt_of_le_of_lt e3 e2) h
      omega
    · have h3 := digH_lt e2 (Nat.lt_of_le_of_lt e3 e2) h1
      have a1 := Nat.div_add_mod m (16 ^ k)
      have a2 := Nat.div_add_mod n (16 ^ k)
      rw [h3] at a2
      refine hexD_le k (m % 16 ^ k) (n % 16 ^ k) (by omega) (Nat.mod_lt _ (Nat.pow_pos (by decide))) ?_
      rw [hexD_mod k k n (Nat.le_refl _), hexD_mod k k m (Nat.le_refl _)]
      exact h2
theorem nameL_le {m n : Nat} (h : m ≤ n) (hn : n ≤ 72057594037927935) : nameL m ≤ nameL n := by
  intro h1
  have h2 : nameL n < nameL m := h1
  unfold nameL at h2
  rw [List.cons_lt_cons_iff] at h2
  rcases h2 with h2 | ⟨_, h2⟩
  · exact absurd h2 (by decide)
  · exact hexD_le 15 m n h (by omega) h2
theorem keys_files (M : LogMs) : keysM (filesM M) = (M.map (·.1)).map nameL := by
  unfold keysM filesM
  rw [List.map_map, List.map_map]
  rfl
theorem files_nodup {M : LogMs} (h : LogG M) : (keysM (filesM M)).Nodup := by
 rw [keys_files]
 unfold List.Nodup
 rw [List.pairwise_map]
 refine h.asc.imp_of_mem fun {a b} ha hb hab e => ?_
 obtain ⟨x, hx, rfl⟩ := List.mem_map.1 ha
 obtain ⟨y, hy, rfl⟩ := List.mem_map.1 hb
 have := nameL_inj (h.first hx).2 (h.first hy).2 e
 omega
theorem files_names {M : LogMs} (h : LogG M) : namesS (filesM M) = (M.map (·.1)).map nameL := by
  unfold namesS
  rw [keys_files]
  refine List.mergeSort_of_pairwise ?_
  rw [List.pairwise_map]
  refine h.asc.imp_of_mem fun {a b} ha hb hab => ?_
  obtain ⟨y, hy, rfl⟩ := List.mem_map.1 hb
  exact decide_eq_true (nameL_le (Nat.le_of_lt hab) (h.first hy).2)
theorem files_get {M : LogMs} (h : LogG M) {q : Nat × List EntD} (hq : q ∈ M) : getM (filesM M) (nameL q.1) = some (bytesE q.2) := (getM_some (files_nodup h)).2 (List.mem_map.2 ⟨q, hq, rfl⟩)
theorem bytes_len : ∀ {es : List EntD}, (∀ e, e ∈ es → rightE e = true) → (bytesE es).length ≤ 155 * es.length
  | [], _ => Nat.zero_le _
  | e :: r, h => by
    have h1 := bytes_len (es := r) fun x hx => h x (List.mem_cons_of_mem _ hx)
    have he := h e (List.mem_cons_self ..)
    have h2 := frE_len he
    have h3 := layE_len he
    rw [bytesE_cons, List.length_append, List.length_cons]
    omega
theorem used_files : ∀ (M : LogMs), usedF (filesM M) = (bytesE (allE M)).length
  | [] => rfl
  | q :: M => by
    have h1 := used_files M
    show usedF ((nameL q.1, bytesE q.2) :: filesM M) = (bytesE (q.2 ++ allE M)).length
    rw [used_cons, h1]
    unfold bytesE
    rw [List.flatMap_append, List.length_append]
structure LogD (d : DiskD) (M : LogMs) (w : Nat) : Prop where
  down : d.down = false
  fuse : d.fuse = none
  room : d.room = 1048576
  wl : d.wait.length ≤ w
  ws : usedF d.syn + (d.wait.map OpD.size).sum ≤ 1000000 + 155 * w
  now : d.now = filesM M
  g : LogG M
theorem LogD.fit {d : DiskD} {M : LogMs} {w : Nat} (h : LogD d M w) (hw : w ≤ 10000) : d.fit := ⟨by have := h.ws; omega, by have := h.wl; omega⟩
theorem beginD_ok {d : DiskD} (h1 : d.down = false) (h2 : d.fuse = none) : beginD d = (d, 0) := by
 obtain ⟨r, s, w, f, dn⟩ := d
 simp only at h1 h2
 subst h1; subst h2
 simp [beginD]
theorem LogD.read {d : DiskD} {M : LogMs} {w : Nat} (h : LogD d M w) {q : Nat × List EntD} (hq : q ∈ M) : readD d (nameL q.1) = some (bytesE q.2) := by
 unfold readD
 rw [if_neg (by rw [h.down]; decide), h.now]
 exact files_get h.g hq
theorem LogD.ents {d : DiskD} {M : LogMs} {w : Nat} (h : LogD d M w) {q : Nat × List EntD} (hq : q ∈ M) : entsB d q.1 = cumE 0 q.2 := by
 unfold entsB
 rw [h.read hq]
 exact entsL_bytes (h.g.seg hq).right
theorem LogD.marks {d : DiskD} {M : LogMs} {w : Nat} (h : LogD d M w) {q : Nat × List EntD} (hq : q ∈ M) : marksB d q.1 = markL q.2 := by
 unfold marksB
 rw [h.ents hq]
 rfl
theorem LogD.lists {d : DiskD} {M : LogMs} {w : Nat} (h : LogD d M w) : ∀ {M' : LogMs}, (∀ q, q ∈ M' → q ∈ M) → listM d (M'.map (·.1)) = allE M'
  | [], _ => rfl
  | q :: M', hs => by
    have h1 := h.lists (M' := M') fun x hx => hs x (List.mem_cons_of_mem _ hx)
    show (entsB d q.1).map (·.1) ++ listM d (M'.map (·.1)) = q.2 ++ allE M'
    rw [h1, h.ents (hs q (List.mem_cons_self ..)), cumE_fst]
theorem LogD.marksM {d : DiskD} {M : LogMs} {w : Nat} (h : LogD d M w) : Sep.marksM d (M.map (·.1)) = marksOf M := by
  unfold Sep.marksM marksOf
  rw [List.map_map]
  exact List.map_congr_left fun q hq => by show (q.1, marksB d q.1) = _; rw [h.marks hq]
theorem LogD.opens {dk lim w : Nat} {d : DiskD} {M : LogMs} (tb : Tb) (h : LogD d M w) (hw : w ≤ 10000) (hl1 : 64 ≤ lim) (hl2 : lim ≤ 16384) : Does Tryz.prog 11 #[.pointer (some ⟨dk, 0, none⟩), .int .i64 (lim : Int)] [DiskT dk d, TabZ tb] (fun (p : Nat) => .tuple #[.pointer (some ⟨p, 0, none⟩), .int .i64 0]) (fun (p : Nat) => [LogT p dk lim (marksOf M), DiskT dk d, TabZ tb]) := by
  have hfew := h.g.few
  have hmany := h.g.many
  have hat : ∀ {j f : Nat}, (M.map (·.1))[j]? = some f → ∃ q, M[j]? = some q ∧ q.1 = f ∧ q ∈ M := fun {j f} hj => by
    rw [List.getElem?_map] at hj
    cases hq : M[j]? with
    | none => rw [hq] at hj; cases hj
    | some q => rw [hq] at hj; exact ⟨q, rfl, by simpa using hj, List.mem_of_getElem? hq⟩
  have hlist := h.lists (M' := M) fun _ hq => hq
  have h1 := open_does (dk := dk) (lim := lim) (d := d) (fs := M.map (·.1)) hl1 hl2 h.down (by rw [h.now]; unfold filesM; rw [List.length_map]; omega) (by rw [h.now]; exact files_names h.g) tb (h.fit hw)
    (fun f hf => by obtain ⟨q, hq, rfl⟩ := List.mem_map.1 hf; exact (h.g.first hq).2) (by rw [List.length_map]; omega) (by rw [hlist]; omega)
    (fun f b hf hb => by
      obtain ⟨q, hq, rfl⟩ := List.mem_map.1 hf
      rw [h.read hq] at hb
      have h3 := bytes_len (h.g.seg hq).right
      have h4 : q.2.length ≤ (allE M).length := by
        obtain ⟨A, B, rfl⟩ := List.append_of_mem hq
        rw [allE_app]
        show _ ≤ (allE A ++ (q.2 ++ allE B)).length
        simp only [List.length_append]; omega
      rw [← hb]
      show (bytesE q.2).length ≤ _
      omega)
    (fun j f i e n hj hi => by
      obtain ⟨q, hqj, rfl, hq⟩ := hat hj
      rw [h.ents hq] at hi
      have hi1 : q.2[i]? = some e := by
        have := congrArg (·[i]?) (cumE_fst q.2 0)
        simp only [List.getElem?_map, hi, Option.map_some] at this
        exact this.symm
      have hup : upTo d (M.map (·.1)) j q.1 i = allE (M.take j) ++ q.2.take i := by
        unfold upTo
        rw [← List.map_take, h.lists (M' := M.take j) (fun x hx => List.mem_of_mem_take hx), h.ents hq, List.map_take, cumE_fst]
      rw [hup]
      have hL : allE M = (allE (M.take j) ++ q.2.take i) ++ e :: (q.2.drop (i + 1) ++ allE (M.drop (j + 1))) := by
        conv => lhs; rw [← List.take_append_drop j M, drop_at hqj, allE_app]
        show allE (M.take j) ++ (q.2 ++ allE (M.drop (j + 1))) = _
        conv => lhs; rw [← List.take_append_drop i q.2, drop_at hi1]
        simp
      obtain ⟨h5, h6, h7⟩ := h.g.c.fol _ _ _ hL
      exact ⟨fun h0 => by
        subst h0
        obtain ⟨e', r, he⟩ := List.exists_cons_of_ne_nil (h.g.ne q hq)
        rw [he] at hi1
        simp only [List.getElem?_cons_zero, Option.some.injEq] at hi1
        rw [← hi1]
        exact h.g.hd q hq e' r he, h5, h6, h7⟩)
    (fun j f b hj hb => by
      obtain ⟨q, _, rfl, hq⟩ := hat hj
      rw [h.read hq] at hb
      rw [h.marks hq]
      rcases nil_snoc q.2 with h0 | ⟨r, e, he⟩
      · exact absurd h0 (h.g.ne q hq)
      · rw [he, markL_last]
        exact ⟨_, rfl, by rw [← hb, he]; rfl⟩)
  rw [h.marksM] at h1
  exact h1
end Go.Proofs.YtaipejaeeohpkaaGreatDoor.Sep
namespace Go.Proofs.YtaipejaeeohpkaaGreatDoor.Sep
open Go.RowKit
section
variable {κ ν : Type} [DecidableEq κ]
theorem put_last {l : List (κ × ν)} {k : κ} {b x : ν} (hn : (keysM (l ++ [(k, b)])).Nodup) : putM (l ++ [(k, b)]) k x = l ++ [(k, x)] := by
 unfold putM
 rw [fnd_at (x := b) (j := l.length) hn (by simp)]
 simp only [Nat.zero_add]
 rw [List.set_append_right _ _ (Nat.le_refl _), Nat.sub_self]
 rfl
theorem del_last {l : List (κ × ν)} {k : κ} {b : ν} (hn : (keysM (l ++ [(k, b)])).Nodup) : delM (l ++ [(k, b)]) k = l := by
 unfold delM
 rw [fnd_at (x := b) (j := l.length) hn (by simp)]
 simp only [Nat.zero_add]
 rw [List.eraseIdx_append_of_length_le (Nat.le_refl _), Nat.sub_self]
 simp
end
theorem filesM_app (A B : LogMs) : filesM (A ++ B) = filesM A ++ filesM B := by simp [filesM]
theorem marksOf_app (A B : LogMs) : marksOf (A ++ B) = marksOf A ++ marksOf B := by simp [marksOf]
def addL (lim : Nat) (M : LogMs) (e : EntD) : LogMs :=
  match M.getLast? with
  | none => M ++ [(e.i.toNat, [e])]
  | some q => if lim < (bytesE q.2).length + (frE e).length then M ++ [(e.i.toNat, [e])] else M.dropLast ++ [(q.1, q.2 ++ [e])]
theorem addL_snoc (lim : Nat) (M : LogMs) (q : Nat × List EntD) (e : EntD) : addL lim (M ++ [q]) e = if lim < (bytesE q.2).length + (frE e).length then M ++ [q] ++ [(e.i.toNat, [e])] else M ++ [(q.1, q.2 ++ [e])] := by
 unfold addL
 rw [List.getLast?_append]
 simp
theorem good_new {M : LogMs} {e : EntD} (h : LogG M) (hr : rightE e = true) (hf : FolOk (lastIT (allE M)) e) (hm : (allE M).length < 1000) : LogG (M ++ [(e.i.toNat, [e])]) := by
  have hi := right_i hr
  have ha : allE (M ++ [(e.i.toNat, [e])]) = allE M ++ [e] := by rw [allE_app]; rfl
  refine ⟨fun q hq => ?_, by rw [ha]; exact h.c.push hr hf, fun q hq x r hx => ?_, by rw [ha, List.length_append]; simp only [List.length_cons, List.length_nil]; omega⟩
  · rcases List.mem_append.1 hq with hq | hq
    · exact h.ne q hq
    · rw [List.mem_singleton.1 hq]; simp
  · rcases List.mem_append.1 hq with hq | hq
    · exact h.hd q hq x r hx
    · rw [List.mem_singleton.1 hq] at hx ⊢
      simp only [List.cons.injEq] at hx
      rw [← hx.1]
      show e.i = (e.i.toNat : Int)
      omega
theorem good_old {M : LogMs} {q : Nat × List EntD} {e : EntD} (h : LogG (M ++ [q])) (hr : rightE e = true) (hf : FolOk (lastIT (allE (M ++ [q]))) e) (hm : (allE (M ++ [q])).length < 1000) : LogG (M ++ [(q.1, q.2 ++ [e])]) := by
  have ha : allE (M ++ [(q.1, q.2 ++ [e])]) = allE (M ++ [q]) ++ [e] := by rw [allE_app, allE_app]; simp [allE]
  have hq0 : q ∈ M ++ [q] := List.mem_append_right _ (List.mem_singleton.2 rfl)
  refine ⟨fun x hx => ?_, by rw [ha]; exact h.c.push hr hf, fun x hx y r hy => ?_, by rw [ha, List.length_append]; simp only [List.length_cons, List.length_nil]; omega⟩
  · rcases List.mem_append.1 hx with hx | hx
    · exact h.ne x (List.mem_append_left _ hx)
    · rw [List.mem_singleton.1 hx]; simp
  · rcases List.mem_append.1 hx with hx | hx
    · exact h.hd x (List.mem_append_left _ hx) y r hy
    · rw [List.mem_singleton.1 hx] at hy ⊢
      obtain ⟨e0, r0, h0⟩ := List.exists_cons_of_ne_nil (h.ne q hq0)
      rw [h0] at hy
      simp only [List.cons_append, List.cons.injEq] at hy
      rw [← hy.1]
      exact h.hd q hq0 e0 r0 h0
theorem allE_add (lim : Nat) (M : LogMs) (e : EntD) : allE (addL lim M e) = allE M ++ [e] := by
  rcases nil_snoc M with rfl | ⟨M0, q, rfl⟩
  · rfl
  · rw [addL_snoc]
    split
    · rw [allE_app]; rfl
    · rw [allE_app, allE_app]; simp [allE]
theorem new_none {M : LogMs} {q : Nat × List EntD} (h : LogG (M ++ [q])) : getM (filesM M) (nameL q.1) = none := by
 rw [getM_none]
 intro hm
 have h1 := files_nodup h
 rw [filesM_app] at h1
 unfold keysM at h1 hm
 rw [List.map_append] at h1
 exact (List.nodup_append.1 h1).2.2 _ hm _ (List.mem_singleton.2 rfl) rfl
theorem LogD.appends {d : DiskD} {M : LogMs} {w : Nat} {n b : List UInt8} (h : LogD d M w) (hn : nameB n = true) (hu : (bytesE (allE M)).length + b.length ≤ 1048576) (hf : M.length < 64) : appendD d n b = (doesD d (.app n b), 0) := by
 unfold appendD
 rw [beginD_ok h.down h.fuse]
 simp only
 rw [if_neg (by simp), hn, if_neg (by simp)]
 have h2 : fitsD d n b = true := by
  unfold fitsD
  rw [h.now, used_files, Bool.and_eq_true, decide_eq_true_eq, h.room]
  refine ⟨by omega, ?_⟩
  have : (filesM M).length = M.length := by unfold filesM; rw [List.length_map]
  simp
  right
  omega
 rw [h2, if_neg (by simp)]
theorem name_ok (n : Nat) : nameB (nameL n) = true := by unfold nameB; rw [nameL_len]; rfl
theorem LogD.does {d : DiskD} {M M' : LogMs} {w : Nat} {n b : List UInt8} (h : LogD d M w) (hb : b.length ≤ 155) (hn : putM (filesM M) n ((getM (filesM M) n).getD [] ++ b) = filesM M') (hg : LogG M') : LogD (doesD d (.app n b)) M' (w + 1) := by
 have hl := h.wl
 have hs := h.ws
 exact ⟨h.down, h.fuse, h.room, by show (d.wait ++ [_]).length ≤ _; rw [List.length_append]; simp only [List.length_cons, List.length_nil]; omega, by
  show usedF d.syn + ((d.wait ++ [OpD.app n b]).map OpD.size).sum ≤ _
  rw [List.map_append, List.sum_append]
  simp only [List.map_cons, List.map_nil, List.sum_cons, List.sum_nil, OpD.size]
  omega, by rw [now_does, h.now]; exact hn, hg⟩
theorem LogD.new {d : DiskD} {M : LogMs} {w : Nat} {e : EntD} (h : LogD d M w) (hr : rightE e = true) (hf : FolOk (lastIT (allE M)) e) (hm : (allE M).length < 60) : ∃ d', appendD d (nameL e.i.toNat) (frE e) = (d', 0) ∧ LogD d' (M ++ [(e.i.toNat, [e])]) (w + 1) := by
 have hg := good_new h.g hr hf (by omega)
 have hfl := frE_len hr
 have hle := layE_len hr
 have hbl := bytes_len h.g.c.right
 have hfew := h.g.few
 refine ⟨_, h.appends (name_ok _) (by omega) (by omega), h.does (by omega) ?_ hg⟩
 have h0 := new_none hg
 rw [keys_put_new h0, h0, filesM_app]
 simp [filesM, bytesE]
theorem LogD.old {d : DiskD} {M : LogMs} {q : Nat × List EntD} {w : Nat} {e : EntD} (h : LogD d (M ++ [q]) w) (hr : rightE e = true) (hf : FolOk (lastIT (allE (M ++ [q]))) e) (hm : (allE (M ++ [q])).length < 60) : ∃ d', appendD d (nameL q.1) (frE e) = (d', 0) ∧ LogD d' (M ++ [(q.1, q.2 ++ [e])]) (w + 1) := by
 have hg := good_old h.g hr hf (by omega)
 have hfl := frE_len hr
 have hle := layE_len hr
 have hbl := bytes_len h.g.c.right
 have hfew := h.g.few
 refine ⟨_, h.appends (name_ok _) (by omega) (by omega), h.does (by omega) ?_ hg⟩
 have h0 := files_get h.g (q := q) (List.mem_append_right _ (List.mem_singleton.2 rfl))
 have h1 := files_nodup h.g
 rw [h0]
 rw [filesM_app] at h1 ⊢
 show putM (filesM M ++ [(nameL q.1, bytesE q.2)]) _ _ = _
 rw [put_last h1, filesM_app]
 simp [filesM, bytesE_push]
theorem LogD.add {lim w : Nat} {d : DiskD} {M : LogMs} {e : EntD} (h : LogD d M w) (hw : w ≤ 9999) (hr : rightE e = true) (hf : FolOk (lastIT (allE M)) e) (hm : (allE M).length < 60) : AddOk lim (marksOf M, d) e ∧ ∃ d', addM lim (marksOf M, d) e = (marksOf (addL lim M e), d') ∧ LogD d' (addL lim M e) (w + 1) := by
  have hfew := h.g.few
  have hml : (marksOf M).length = M.length := by unfold marksOf; rw [List.length_map]
  have hfit := h.fit (by omega)
  obtain ⟨d1, hd1, hD1⟩ := h.new hr hf hm
  rcases nil_snoc M with rfl | ⟨M0, q, rfl⟩
  · refine ⟨⟨hr, hfit, by rw [hml]; omega, ?_⟩, d1, ?_, hD1⟩
    · show (appendD d (nameL e.i.toNat) (frE e)).2 = 0
      rw [hd1]
    · show newSeg _ e = _
      unfold newSeg
      simp only
      rw [hd1]
      simp [addL, marksOf, markL, cumE]
  · obtain ⟨d2, hd2, hD2⟩ := h.old hr hf hm
    have hq : q ∈ M0 ++ [q] := List.mem_append_right _ (List.mem_singleton.2 rfl)
    have hlast : (marksOf (M0 ++ [q])).getLast? = some (q.1, markL q.2) := by rw [marksOf_app, List.getLast?_append]; rfl
    have hsz := sizeL_mark q.2
    have hbq := bytes_len (h.g.seg hq).right
    have hlq : q.2.length < 60 := by rw [allE_app, List.length_append] at hm; simp only [allE, List.flatMap_cons, List.flatMap_nil, List.append_nil] at hm; omega
    have hso : SegOk (q.1, markL q.2) := ⟨(h.g.first hq).2, markL_nil (h.g.ne q hq), by show (markL q.2).length ≤ _; rw [markL_len]; omega, by show sizeL (markL q.2) ≤ _; rw [hsz]; omega⟩
    by_cases hb : lim < (bytesE q.2).length + (frE e).length
    · refine ⟨⟨hr, hfit, by rw [hml]; omega, ?_⟩, d1, ?_, ?_⟩
      · simp only [hlast]
        refine ⟨hso, ?_⟩
        rw [hsz, if_pos hb, hd1]
      · unfold addM
        simp only [hlast]
        rw [hsz, if_pos hb, addL_snoc, if_pos hb]
        unfold newSeg
        simp only
        rw [hd1, marksOf_app (M0 ++ [q])]
        simp [marksOf, markL, cumE]
      · rw [addL_snoc, if_pos hb]; exact hD1
    · refine ⟨⟨hr, hfit, by rw [hml]; omega, ?_⟩, d2, ?_, ?_⟩
      · simp only [hlast]
        refine ⟨hso, ?_⟩
        rw [hsz, if_neg hb, hd2]
      · unfold addM
        simp only [hlast]
        rw [hsz, if_neg hb, addL_snoc, if_neg hb, hd2, marksOf_app, marksOf_app]
        simp [marksOf, markL_push]
      · rw [addL_snoc, if_neg hb]; exact hD2
end Go.Proofs.YtaipejaeeohpkaaGreatDoor.Sep
namespace Go.Proofs.YtaipejaeeohpkaaGreatDoor.Sep
open Go.RowKit
theorem logC_pos {L : List EntD} {a b : Nat} {x y : EntD} (h : LogC L) (ha : L[a]? = some x) (hb : L[b]? = some y) : y.i + (a : Int) = x.i + (b : Int) := by
  have key : ∀ {a b : Nat} {x y : EntD}, a < b → L[a]? = some x → L[b]? = some y → y.i + (a : Int) = x.i + (b : Int) := fun {a b x y} hab ha hb => by
    have h1 : L = L.take a ++ (x :: L.drop (a + 1)) := by rw [← drop_at ha, List.take_append_drop]
    have h2 : LogC (x :: L.drop (a + 1)) := LogC.suffix (A := L.take a) (by rw [← h1]; exact h)
    have h3 : (L.drop (a + 1))[b - (a + 1)]? = some y := by rw [List.getElem?_drop, show a + 1 + (b - (a + 1)) = b by omega]; exact hb
    have h4 := logC_idx _ x y _ h2 h3
    omega
  rcases Nat.lt_trichotomy a b with h1 | h1 | h1
  · exact key h1 ha hb
  · subst h1
    rw [ha] at hb
    cases hb
    rfl
  · have := key h1 hb ha
    omega
theorem endM_marks {M : LogMs} (h : LogG M) : endM (marksOf M) = lastIT (allE M) := by
  rcases nil_snoc M with rfl | ⟨M0, q, rfl⟩
  · rfl
  · have hq : q ∈ M0 ++ [q] := List.mem_append_right _ (List.mem_singleton.2 rfl)
    have hlast : (marksOf (M0 ++ [q])).getLast? = some (q.1, markL q.2) := by rw [marksOf_app, List.getLast?_append]; rfl
    have hseg := h.seg hq
    unfold endM
    rw [hlast]
    simp only
    rw [markL_len, allE_app, show allE [q] = q.2 by simp [allE], lastIT_app _ (h.ne q hq)]
    rcases nil_snoc q.2 with h0 | ⟨r, e, he⟩
    · exact absurd h0 (h.ne q hq)
    · obtain ⟨e0, r0, h0⟩ := List.exists_cons_of_ne_nil (h.ne q hq)
      have h1 := h.hd q hq e0 r0 h0
      have h2 : q.2[0]? = some e0 := by rw [h0]; rfl
      have h3 : q.2[r.length]? = some e := by rw [he]; simp
      have h4 := logC_pos hseg h2 h3
      rw [he, markL_last, lastIT_push, List.length_append]
      simp only [Option.map_some, Option.getD_some, List.length_cons, List.length_nil]
      congr 1
      omega
theorem endOk_marks {M : LogMs} (h : LogG M) : EndOk (marksOf M) := by
  have hfew := h.few
  have hmany := h.many
  refine ⟨by unfold marksOf; rw [List.length_map]; omega, ?_⟩
  rcases nil_snoc M with rfl | ⟨M0, q, rfl⟩
  · exact trivial
  · have hq : q ∈ M0 ++ [q] := List.mem_append_right _ (List.mem_singleton.2 rfl)
    have hlast : (marksOf (M0 ++ [q])).getLast? = some (q.1, markL q.2) := by rw [marksOf_app, List.getLast?_append]; rfl
    rw [hlast]
    have hbq := bytes_len (h.seg hq).right
    have hlq : q.2.length ≤ 1000 := by rw [allE_app, List.length_append] at hmany; simp only [allE, List.flatMap_cons, List.flatMap_nil, List.append_nil] at hmany; omega
    exact ⟨(h.first hq).2, markL_nil (h.ne q hq), by show (markL q.2).length ≤ _; rw [markL_len]; omega, by show sizeL (markL q.2) ≤ _; rw [sizeL_mark]; omega⟩
def addsL (lim : Nat) (M : LogMs) (l : List EntV) : LogMs := l.foldl (fun M z => addL lim M z.e) M
theorem addsL_next {lim : Nat} {M : LogMs} {l : List EntV} {j : Nat} {z : EntV} (h : l[j]? = some z) : addsL lim M (l.take (j + 1)) = addL lim (addsL lim M (l.take j)) z.e := by
 unfold addsL
 rw [List.take_add_one, h, List.foldl_append]
 rfl
theorem allE_adds (lim : Nat) : ∀ (l : List EntV) (M : LogMs), allE (addsL lim M l) = allE M ++ l.map (·.e)
  | [], M => by simp [addsL]
  | z :: r, M => by
    show allE (addsL lim (addL lim M z.e) r) = _
    rw [allE_adds lim r, allE_add]
    simp
theorem prev_marks {M : LogMs} (h : LogG M) (l : List EntV) (j : Nat) : prevIT (endM (marksOf M)) l j = lastIT (allE M ++ (l.take j).map (·.e)) := by
  unfold prevIT
  rcases nil_snoc (l.take j) with h0 | ⟨r, z, hz⟩
  · rw [h0, endM_marks h]; simp
  · rw [hz, List.getLast?_append, List.map_append, ← List.append_assoc]
    show (z.e.t, z.e.i) = lastIT ((allE M ++ r.map (·.e)) ++ [z.e])
    rw [lastIT_push]
theorem LogD.adds {lim w : Nat} {d : DiskD} {M : LogMs} {l : List EntV} (h : LogD d M w) (hc : LogC (allE M ++ l.map (·.e))) (hm : (allE M).length + l.length ≤ 60) (hw : w + l.length ≤ 9999) : ∀ j, j ≤ l.length → ∃ d', addsM lim (marksOf M, d) (l.take j) = (marksOf (addsL lim M (l.take j)), d') ∧ LogD d' (addsL lim M (l.take j)) (w + j)
  | 0, _ => ⟨d, rfl, h⟩
  | j + 1, hj => by
    obtain ⟨d1, h1, h2⟩ := h.adds hc hm hw j (by omega)
    obtain ⟨z, hz⟩ : ∃ z, l[j]? = some z := ⟨_, List.getElem?_eq_getElem (by omega)⟩
    have hze : z.e ∈ allE M ++ l.map (·.e) := List.mem_append_right _ (List.mem_map.2 ⟨z, List.mem_of_getElem? hz, rfl⟩)
    have hall : allE (addsL lim M (l.take j)) = allE M ++ (l.take j).map (·.e) := allE_adds lim _ M
    have hsp : allE M ++ l.map (·.e) = (allE M ++ (l.take j).map (·.e)) ++ z.e :: (l.drop (j + 1)).map (·.e) := by
      conv => lhs; rw [← List.take_append_drop j l, drop_at hz]
      simp
    obtain ⟨_, d2, h3, h4⟩ := h2.add (lim := lim) (e := z.e) (by omega) (hc.right _ hze) (by rw [hall]; exact hc.fol _ _ _ hsp) (by rw [hall, List.length_append, List.length_map, List.length_take]; omega)
    refine ⟨d2, ?_, ?_⟩
    · rw [adds_take hz, h1, h3, addsL_next hz]
    · rw [addsL_next hz]; exact h4
theorem LogD.append {lim w : Nat} {d : DiskD} {M : LogMs} {l : List EntV} (tb : Tb) (h : LogD d M w) (hli : lim ≤ 1000000000) (hc : LogC (allE M ++ l.map (·.e))) (hm : (allE M).length + l.length ≤ 60) (hw : w + l.length ≤ 9999) : ∃ d', LogD d' (addsL lim M l) (w + l.length) ∧ ∀ (p dk : Nat) (v : Value), Does Tryz.prog 13 #[.pointer (some ⟨p, 0, none⟩), v] [LogT p dk lim (marksOf M), DiskT dk d, TabZ tb, Ents 34 v l] (fun (_ : Unit) => .int .i64 0) (fun (_ : Unit) => [LogT p dk lim (marksOf (addsL lim M l)), DiskT dk d', TabZ tb, Ents 34 v l]) := by
  obtain ⟨d', h1, h2⟩ := h.adds (lim := lim) hc hm hw l.length (Nat.le_refl _)
  rw [List.take_length] at h1 h2
  have hsp : ∀ (j : Nat) (z : EntV), l[j]? = some z → rightE z.e = true ∧ FolOk (lastIT (allE M ++ (l.take j).map (·.e))) z.e := fun j z hz => by
    have hze : z.e ∈ allE M ++ l.map (·.e) := List.mem_append_right _ (List.mem_map.2 ⟨z, List.mem_of_getElem? hz, rfl⟩)
    refine ⟨hc.right _ hze, hc.fol _ _ ((l.drop (j + 1)).map (·.e)) ?_⟩
    conv => lhs; rw [← List.take_append_drop j l, drop_at hz]
    simp
  refine ⟨d', h2, fun p dk v => ?_⟩
  have h3 := append_does (p := p) (dk := dk) (lim := lim) (s := (marksOf M, d)) (v := v) (l := l) tb hli (by omega) (endOk_marks h.g)
    (fun j z hz => by
      show FolOk (prevIT (endM (marksOf M)) l j) z.e
      rw [prev_marks h.g]; exact (hsp j z hz).2)
    (fun j z hz => by
      have hjl := (List.getElem?_eq_some_iff.1 hz).1
      obtain ⟨d1, h4, h5⟩ := h.adds (lim := lim) hc hm hw j (by omega)
      have hall : allE (addsL lim M (l.take j)) = allE M ++ (l.take j).map (·.e) := allE_adds lim _ M
      obtain ⟨h6, _⟩ := h5.add (lim := lim) (e := z.e) (by omega) (hsp j z hz).1 (by rw [hall]; exact (hsp j z hz).2) (by rw [hall, List.length_append, List.length_map, List.length_take]; omega)
      rw [h4]; exact h6)
  rw [h1] at h3
  exact h3
end Go.Proofs.YtaipejaeeohpkaaGreatDoor.Sep
