/-
  Rm · Rn
-/
import Derived.Test.YtnebloeideodmaaPA09
import Derived.Lib.SlBytesRow
import Derived.Lib.UnsafeStr
import Derived.Laws.IdiomStrings
set_option linter.unusedSimpArgs false
set_option linter.unusedVariables false
namespace Go.Proofs.Ytnebloeideodmaa.Run
noncomputable section
open Go.RowKit Go.MapKept
section ops
variable {P : Program} {o : Oper} {env : Env} {H H' : Tr AO} {nx : Nat} {v : Value} {outs : List Out} {ρ : Rn} {w : World}
theorem Q2 {m : Nat} (h : m ≤ 1000000) : m < BIG := Nat.lt_of_le_of_lt h (by decide)
def rep : Nat → List Value → List Value
  | 0, _ => []
  | n + 1, z => z ++ rep n z
theorem Id (z : List Value) : ∀ n, (rep n z).length = n * z.length
  | 0 => by simp [rep]
  | n + 1 => by rw [rep, List.length_append, Id z n, Nat.succ_mul]; omega
theorem Ox (z : List Value) (hz : 0 < z.length) : ∀ (n j : Nat), j < n * z.length → (rep n z)[j]? = z[j % z.length]?
  | 0, j, h => by simp at h
  | n + 1, j, h => by
    rw [rep]
    by_cases hj : j < z.length
    · rw [List.getElem?_append_left hj, Nat.mod_eq_of_lt hj]
    · rw [List.getElem?_append_right (by omega), Ox z hz n (j - z.length) (by rw [Nat.succ_mul] at h; omega)]
      congr 1
      rw [Nat.mod_eq_sub_mod (by omega : j ≥ z.length)]
theorem KG {z : List Value} (hz : z.all nb = true) : ∀ n, (rep n z).all nb = true
  | 0 => rfl
  | n + 1 => by rw [rep, List.all_append, hz, KG hz n]; rfl
theorem IF (z : Array Value) (n : Nat) : (madeCells z (n * z.size)).toList = rep n z.toList := by
  apply List.ext_getElem?
  intro j
  by_cases hj : j < n * z.size
  · have hz : 0 < z.size := by
      rcases Nat.eq_zero_or_pos z.size with h | h
      · rw [h] at hj; simp at hj
      · exact h
    rw [Ox z.toList (by simpa using hz) n j (by simpa using hj)]
    have hm : j % z.size < z.size := Nat.mod_lt _ hz
    simp [madeCells, hj, hm]
  · rw [List.getElem?_eq_none (by simp [madeCells]; omega), List.getElem?_eq_none (by rw [Id]; simp; omega)]
def MV (P : Program) (env : Env) (H : Tr AO) (nx : Nat) (T : TypeId) (x y : Operand) : Option (List Out) := match P.underlying T, CU env x, CU env y with
  | some (.slice e), some (.int _ (.ofNat l)), some (.int _ (.ofNat c)) => match HT P e, P.info? e with
    | some zs, some i => match Nat.ble l c && Nat.ble (i.bytes * c) 140737488355328 && Nat.ble c 1000000 && CT nx && Nat.beq i.size zs.length with
      | true => some [⟨.slice (some ⟨nx, 0, none⟩) l c, put H nx (some (.cells e none (rep c zs))), nx + 1, []⟩]
      | false => none
    | _, _ => none
  | _, _, _ => none
theorem Uu {T : TypeId} {x y : Operand} (ho : o.op = .makeSlice T x y) (h : MV P env H nx T x y = some outs) : Dp P o env H nx outs := by
  unfold MV at h
  split at h
  · rename_i e k l k' c hT hx hy
    split at h
    · rename_i zs i hz hi
      split at h
      · rename_i hb
        cases h
        simp only [Bool.and_eq_true] at hb
        obtain ⟨⟨⟨⟨b1, b2⟩, b3⟩, b4⟩, b5⟩ := hb
        have b1 := Nat.le_of_ble_eq_true b1
        have b2 := Nat.le_of_ble_eq_true b2
        have b3 := Nat.le_of_ble_eq_true b3
        have b5 := Nat.eq_of_beq_eq_true b5
        obtain ⟨z1, z, z2, z3⟩ := Eh hz
        have z2' : i.zero = some z := by simpa [hi] using z2
        refine BC (fun c hc => by rw [ho] at hc; cases hc) (Nat.le_succ _) (.new b4 _) fun n ρ a w hF hR hS => ?_
        have e1 := DZ (hF.ev hx)
        have e2 := DZ (hF.ev hy)
        have hsz : z.cells.size = i.size := by rw [b5, ← z3]; simp
        have hrun := run_make (P := P) w T e i z hT hi z2' k k' (l : Int) (c : Int) (by omega) (by omega) (by rw [← Int.natCast_mul]; omega) (by omega)
        have hcs : madeCells z.cells ((c : Int).toNat * i.size) = ⟨rep c zs⟩ := by
          apply Array.ext'
          rw [← hsz, Int.toNat_natCast, IF, z3]
        rw [hcs] at hrun
        refine ⟨H9 ρ nx w.heap.size 0, _, _, Aft.new hR hS b4 (.cells ⟨rep c zs⟩ e) 0 _ ⟨rep c zs, [], nb.selfs (KG z1 c), by rw [List.append_nil]; exact DL.new w e _, rfl⟩, .sl (c := 0) (BI _ _ _ _) (Q2 b3), .inl ?_⟩
        unfold execOp
        have e1' : a.eval x = .int k (l : Int) := e1
        have e2' : a.eval y = .int k' (c : Int) := e2
        simp only [Int.toNat_natCast] at hrun
        simp [ho, e1', e2', hrun]
      · cases h
    · cases h
  · cases h
def IG (P : Program) (env : Env) (H : Tr AO) (nx : Nat) (T : TypeId) (n : Nat) (ps : Array (Nat × Operand)) : Option (List Out) := match P.underlying T, Gk env ps.toList with
  | some (.slice e), some l => match HT P e, My P e with
    | some zs, some k => match Nat.beq zs.length k && Nat.ble (n * k) 1000000 && CT nx && Nat.ble n 1000000 with
      | true => match JA (fun i => some (i * k, k)) (rep n zs) l with
        | some r => some [⟨.slice (some ⟨nx, 0, none⟩) n n, put H nx (some (.cells e none r)), nx + 1, []⟩]
        | none => none
      | false => none
    | _, _ => none
  | _, _ => none
theorem Q3 {T : TypeId} {m : Nat} {ps : Array (Nat × Operand)} (ho : o.op = .buildSlice T m ps) (h : IG P env H nx T m ps = some outs) : Dp P o env H nx outs := by
  unfold IG at h
  split at h
  · rename_i e l hT hl
    split at h
    · rename_i zs k hz hk
      split at h
      · rename_i hb
        split at h
        · rename_i r hr
          cases h
          simp only [Bool.and_eq_true] at hb
          obtain ⟨⟨⟨b1, b2⟩, b3⟩, b4⟩ := hb
          have b1 := Nat.eq_of_beq_eq_true b1
          have b2 := Nat.le_of_ble_eq_true b2
          have b4 := Nat.le_of_ble_eq_true b4
          obtain ⟨z1, z, z2, z3⟩ := Eh hz
          refine BC (fun c hc => by rw [ho] at hc; cases hc) (Nat.le_succ _) (.new b3 _) fun n ρ a w hF hR hS => ?_
          have hparts : PRL ρ l (ps.map fun p => (p.1, a.eval p.2)).toList := by
            have := GM hF hl
            simpa using this
          obtain ⟨r', h5, h6⟩ := Gj hparts (nb.selfs (ρ := ρ) (KG z1 m)) hr
          have hcs : (Array.range (m * k)).map (z.cells[· % z.cells.size]!) = ⟨rep m zs⟩ := by
            apply Array.ext'
            have hsz : z.cells.size = k := by rw [← b1, ← z3]; simp
            have := IF z.cells m
            rw [hsz, z3] at this
            rw [← this]
            simp [madeCells, hsz]
          refine ⟨H9 ρ nx w.heap.size 0, _, _, Aft.new hR hS b3 (.cells ⟨r'⟩ e) 0 _ ⟨r', [], h6.mono (EO (hS nx (Nat.le_refl _) (by omega))), by rw [List.append_nil]; exact DL.new w e _, rfl⟩, .sl (c := 0) (BI _ _ _ _) (Q2 b4), .inl ?_⟩
          unfold execOp
          by_cases h0 : m * k = 0
          · have hr0 : rep m zs = [] := List.eq_nil_of_length_eq_zero (by rw [Id, b1, h0])
            rw [hr0] at h5
            have h5' : Instr.fill (fun i => some (i * k, k)) (Array.map (fun _ => (default : Value)) (Array.range 0)) (List.map (fun x => (x.fst, a.eval x.snd)) ps.toList) = some ⟨r'⟩ := by
              rw [show Array.map (fun _ => (default : Value)) (Array.range 0) = (⟨[]⟩ : Array Value) by simp]
              simpa using h5
            simp [ho, Instr.buildSlice, run_underlying hT, CK hk, h0, h5', newRow]
          · have hlt : ¬ 16777216 < m * k := by omega
            have h5' : Instr.fill (fun i => some (i * k, k)) ⟨rep m zs⟩ (List.map (fun x => (x.fst, a.eval x.snd)) ps.toList) = some ⟨r'⟩ := by simpa using h5
            simp [ho, Instr.buildSlice, run_underlying hT, CK hk, h0, hlt, Io z2, hcs, h5', newRow]
        · cases h
      · cases h
    · cases h
  · cases h
def MW : Value → Option UInt8
  | .int .u8 (.ofNat n) => match Nat.blt n 256 with | true => some (UInt8.ofNat n) | false => none
  | _ => none
theorem Pk {v : Value} {b : UInt8} (h : MW v = some b) : v = .int .u8 (b.toNat : Int) := by
  unfold MW at h
  split at h
  · rename_i n
    split at h
    · rename_i hb
      cases h
      have hb : n < 256 := Nat.le_of_ble_eq_true hb
      have : (UInt8.ofNat n).toNat = n := by simp; omega
      rw [this]; rfl
    · cases h
  · cases h
def bytesOf : List Value → Option (List UInt8)
  | [] => some []
  | v :: r => match MW v, bytesOf r with | some b, some l => some (b :: l) | _, _ => none
theorem GP : ∀ {vs : List Value} {l : List UInt8}, bytesOf vs = some l → vs = BE l
  | [], l, h => by cases h; rfl
  | v :: r, l, h => by
    unfold bytesOf at h
    split at h
    · rename_i b l' h1 h2
      cases h
      rw [Pk h1, GP h2]; rfl
    · cases h
def Q4 (P : Program) (env : Env) (H : Tr AO) (T T' : TypeId) (x : Operand) : Option Value := match P.underlying T, P.underlying T', CU env x with
  | some (.slice e), some .string, some (.slice A n _) => match P.underlying e with
    | some (.int .u8) => match A with
      | none => some (.string ⟨⟨[]⟩⟩)
      | some ⟨_, _, some _⟩ => match n with | 0 => some (.string ⟨⟨[]⟩⟩) | _ => none
      | some ⟨i, off, none⟩ => match CH H i with
        | some (_, _, cs) => match Nat.ble (off + n) cs.length, bytesOf ((cs.drop off).take n) with
          | true, some l => some (.string ⟨⟨l⟩⟩)
          | _, _ => none
        | none => none
    | _ => none
  | _, _, _ => none
theorem Wb {T T' : TypeId} {x : Operand} (ho : o.op = .convert T T' x) (h : one (Q4 P env H T T' x) H nx = some outs) : Dp P o env H nx outs := by
  obtain ⟨v, h1, rfl⟩ := BD h
  refine Bg (fun c hc => by rw [ho] at hc; cases hc) fun n ρ a w hF hR => ?_
  unfold Q4 at h1
  split at h1
  case h_2 => cases h1
  rename_i e A m c hT hT' hx
  split at h1
  case h_2 => cases h1
  rename_i he
  have hv := hF.ev hx
  generalize hu : a.eval x = u at hv
  split at h1
  · cases h1
    cases hv
    refine ⟨_, .str _, ?_⟩
    unfold execOp
    simp [ho, hu, convert, run_underlying hT, run_underlying hT', run_underlying he, Conv.bytesToString, Result.andThen]
    rfl
  · split at h1
    · cases h1
      cases hv with
      | semp A c =>
        refine ⟨_, .str _, ?_⟩
        unfold execOp
        simp [ho, hu, convert, run_underlying hT, run_underlying hT', run_underlying he, Conv.bytesToString, Result.andThen]
        rfl
    · cases h1
  · rename_i i off
    split at h1
    · rename_i t ex cs hr
      split at h1
      · rename_i l hb hl
        cases h1
        have hb := Nat.le_of_ble_eq_true hb
        obtain ⟨g, cc, ds, zs, h3, h4, h5, _⟩ := hR.row hr
        have hdl := h4.length
        have hcs := GP hl
        have hds : (ds.drop off).take m = BE l := nb.eqs (Ec l) (by rw [← hcs]; exact (h4.drop off).take m)
        have hm : (⟨⟨l⟩⟩ : ByteArray).size = m := by
          have : (BE l).length = m := by rw [← hds]; simp; omega
          have h2 : l.length = m := by simpa [BE] using this
          exact h2
        have hB : Lib.Bytes w g off ⟨⟨l⟩⟩ := fun j hj => by
          rw [h5.cell]
          have hj' : j < l.length := hj
          have e1 : (BE l)[j]? = some (.int .u8 (l[j].toNat : Int)) := by simp [BE, hj']
          rw [← hds, List.getElem?_take] at e1
          split at e1
          · rw [List.getElem?_drop] at e1
            rw [List.getElem?_append_left (List.getElem?_eq_some_iff.1 e1).1]
            exact e1
          · cases e1
        have key : ∀ k, (convert T T' (.slice (some ⟨g, off, none⟩) m k)).run P w = .ok (.string ⟨⟨l⟩⟩) w := fun k => by
          have := Lib.run_convert_whole (P := P) w T e T' hT he hT' g off ⟨⟨l⟩⟩ hB k
          rw [hm] at this
          exact this
        refine ⟨_, .str _, ?_⟩
        unfold execOp
        cases hv with
        | sl hg hk => rw [hg] at h3; cases h3; simp [ho, hu, key]
        | slu hg hs => rw [hg] at h3; cases h3; simp [ho, hu, key]
      · cases h1
    · cases h1
def Q5 (P : Program) (env : Env) (H : Tr AO) (nx : Nat) (T T' : TypeId) (x : Operand) : Option (List Out) := match P.underlying T, P.underlying T', CU env x with
  | some .string, some (.slice e), some (.string ⟨⟨l⟩⟩) => match P.underlying e, CT nx with
    | some (.int .u8), true => some [⟨.slice (some ⟨nx, 0, none⟩) l.length (BIG + 0), put H nx (some (.cells e (some 1) (BE l))), nx + 1, []⟩]
    | _, _ => none
  | _, _, _ => none
theorem Wc {T T' : TypeId} {x : Operand} (ho : o.op = .convert T T' x) (h : Q5 P env H nx T T' x = some outs) : Dp P o env H nx outs := by
  unfold Q5 at h
  split at h
  case h_2 => cases h
  rename_i e l hT hT' hx
  split at h
  case h_2 => cases h
  rename_i he hn
  cases h
  refine BC (fun c hc => by rw [ho] at hc; cases hc) (Nat.le_succ _) (.new hn _) fun n ρ a w hF hR hS => ?_
  have hx' := E9 (hF.ev hx)
  have hrun := run_bytes_of_string (P := P) w T T' e ⟨⟨l⟩⟩ hT hT' he
  have hsz : (⟨⟨l⟩⟩ : ByteArray).size = l.length := rfl
  rw [hsz] at hrun
  generalize hG : grownCap w l.length 0 e = G at hrun
  have hGe : l.length ≤ G := by rw [← hG]; exact Nat.le_add_right _ _
  have hle : Le ρ (H9 ρ nx w.heap.size G) := EO (hS nx (Nat.le_refl _) (by omega))
  have hrow : bytesRow ⟨⟨l⟩⟩ G = ⟨BE l ++ List.replicate (G - l.length) (.int .u8 0)⟩ := by
    apply Array.ext'
    simp [bytesRow, BE, hsz]
  rw [hrow] at hrun
  have hA := Aft.new (w := w.drew) hR.drew hS hn (.cells ⟨BE l ++ List.replicate (G - l.length) (.int .u8 0)⟩ e ((⟨BE l ++ List.replicate (G - l.length) (.int .u8 0)⟩ : Array Value).size, (⟨BE l ++ List.replicate (G - l.length) (.int .u8 0)⟩ : Array Value).size + 1)) G (.cells e (some 1) (BE l)) ⟨BE l, List.replicate (G - l.length) (.int .u8 0), nb.selfs (Ec l), ⟨_, heap_alloc_new w.drew _, .inr (Nat.le_refl _)⟩, by
    show (BE l).length + _ = G * 1
    simp [BE]; omega⟩
  refine ⟨H9 ρ nx w.heap.size G, _, _, ⟨hA.ext, hA.rep, ⟨hA.stp.os, hA.stp.tape, hA.stp.output, hA.stp.size, hA.stp.block, hA.stp.own⟩⟩, ?_, .inl (?_ : _ = Result.ok (Next.value (.slice (some ⟨w.heap.size, 0, none⟩) l.length G)) _)⟩
  · have := VR.slu (n := l.length) (s := 0) (off := 0) (BI ρ nx w.heap.size G) (by omega)
    simpa using this
  · unfold execOp
    simp only [ho, hx']
    rw [Sem.run_bind, hrun]
    rfl
theorem Q6 {w : World} {g : Nat} {t : TypeId} {ds : List Value} (h : DL w g t ds) (off : Nat) : ∃ w', (markStringish ⟨g, off, none⟩).run P w = .ok () w' ∧ DL w' g t ds ∧ Mod (Jl g) w w' := by
  obtain ⟨⟨lo, hi⟩, h1, h2⟩ := h
  have hlt : g < w.heap.size := (Array.getElem?_eq_some_iff.1 h1).1
  refine ⟨w.freeze ⟨g, ds.length, none⟩ 1, ?_, ?_, ?_⟩
  · have hsh : w.shape? g = some (t, ds.length) := by simp [World.shape?, h1]
    simp [markStringish, hsh]
  · refine ⟨if lo == hi then (ds.length, ds.length + 1) else (min lo ds.length, max hi (ds.length + 1)), ?_, .inr ?_⟩
    · unfold World.freeze
      rw [if_neg (by decide)]
      simp only [Array.getElem?_modify, if_true, h1, Option.map_some]
    · rcases h2 with h2 | h2
      · cases h2; simp
      · split
        · exact Nat.le_refl _
        · simp only at h2 ⊢; omega
  · unfold World.freeze
    rw [if_neg (by decide)]
    exact ⟨rfl, rfl, rfl, by simp, fun b hb hn => by
      simp only [Array.getElem?_modify]
      rw [if_neg (fun e => hn e.symm)]⟩
def MX (P : Program) (env : Env) (H : Tr AO) (nx : Nat) (T T' : TypeId) (x : Operand) : Option (List Out) := match P.underlying T, CU env x, Nat.beq T T' with
  | some (.slice e), some (.slice (some ⟨i, off, none⟩) n c), true => match P.underlying e, CH H i, CT i with
    | some (.int .u8), some (t, ex, cs), true => some [⟨.slice (some ⟨i, off, none⟩) n c, put H i (some (.cells t ex cs)), nx, [i]⟩]
    | _, _, _ => none
  | _, _, _ => none
theorem Uv {T T' : TypeId} {x : Operand} (ho : o.op = .convert T T' x) (h : MX P env H nx T T' x = some outs) : Dp P o env H nx outs := by
  unfold MX at h
  split at h
  case h_2 => cases h
  rename_i e i off n c hT hx hTT
  have hTT := Nat.eq_of_beq_eq_true hTT
  subst hTT
  split at h
  case h_2 => cases h
  rename_i t ex cs he hr hin
  cases h
  refine BC (fun c hc => by rw [ho] at hc; cases hc) (Nat.le_refl _) (.put hin _ _ _) fun n' ρ a w hF hR _ => ?_
  have hv := hF.ev hx
  generalize hu : a.eval x = u at hv
  obtain ⟨g, cc, ds, zs, h3, h4, h5, h6⟩ := hR.row hr
  obtain ⟨w', hrun, hrow, hm⟩ := Q6 (P := P) h5 off
  have hA : Aft ρ H w nx ρ (put H i (some (.cells t ex cs))) w' nx := Aft.turn hR (CL hr) h3 hin hm ⟨ds, zs, h4, hrow, h6⟩
  refine ⟨ρ, u, w', hA, hv, .inl ?_⟩
  cases hv with
  | sl hg hk =>
    rw [hg] at h3; cases h3
    unfold execOp
    simp [ho, hu, convert, run_underlying hT, run_underlying he, hrun]
  | slu hg hs =>
    rw [hg] at h3; cases h3
    unfold execOp
    simp [ho, hu, convert, run_underlying hT, run_underlying he, hrun]
def Uw (P : Program) (H : Tr AO) (tx : TypeId) (k n : Nat) (x : Value) : Option (List Value) := match P.underlying tx, x with
  | some (.slice _), .slice (some ⟨i, off, none⟩) _ _ => match CH H i with
    | some (_, _, cs) => match Nat.ble (off + n * k) cs.length && GK ((cs.drop off).take (n * k)) with
      | true => some ((cs.drop off).take (n * k))
      | false => none
    | none => none
  | some .string, .string ⟨⟨l⟩⟩ => match Nat.beq k 1 && Nat.ble n l.length with | true => some (BE (l.take n)) | false => none
  | _, _ => none
def Ux : Value → Option Nat
  | .slice _ n _ => some n
  | .string ⟨⟨l⟩⟩ => some l.length
  | _ => none
theorem Q7 {x u : Value} {n : Nat} (h : Ux x = some n) (hu : VR ρ x u) (w : World) : (Builtin.lenOf u).run P w = .ok n w := by
  unfold Ux at h
  split at h
  · cases h
    cases hu <;> simp [Builtin.lenOf]
  · cases h
    have := E9 hu
    subst this
    simp [Builtin.lenOf]
    rfl
  · cases h
theorem Q8 {tx : TypeId} {k n : Nat} {x u : Value} {nw : List Value} (hR : Rep ρ H w) (h : Uw P H tx k n x = some nw) (hu : VR ρ x u) : ∃ news, (Builtin.firstCells k n u).run P w = .ok ⟨news⟩ w ∧ VRL ρ nw news ∧ (∀ v ∈ news, v.oneCell' = true) ∧ nw.length = n * k := by
  unfold Uw at h
  split at h
  · rename_i e i off m c hT
    split at h
    · rename_i t ex cs hr
      split at h
      · rename_i hb
        cases h
        simp only [Bool.and_eq_true] at hb
        have hle := Nat.le_of_ble_eq_true hb.1
        obtain ⟨g, cc, ds, zs, h3, h4, h5, _⟩ := hR.row hr
        have hl := h4.length
        have hv : VRL ρ ((cs.drop off).take (n * k)) ((ds.drop off).take (n * k)) := (h4.drop off).take _
        refine ⟨_, ?_, hv, Gg hv hb.2, by simp; omega⟩
        cases hu with
        | sl hg hk => rw [hg] at h3; cases h3; exact Dh (c := 0) h5 (by omega)
        | slu hg hs => rw [hg] at h3; cases h3; exact Dh (c := 0) h5 (by omega)
      · cases h
    · cases h
  · rename_i l hT
    split at h
    · rename_i hb
      cases h
      simp only [Bool.and_eq_true] at hb
      have hk := Nat.eq_of_beq_eq_true hb.1
      have hn := Nat.le_of_ble_eq_true hb.2
      subst hk
      have := E9 hu
      subst this
      refine ⟨BE (l.take n), ?_, nb.selfs (Ec _), ?_, by simp [BE]; omega⟩
      · simp only [Builtin.firstCells, Sem.run_pure]
        congr 1
        apply Array.ext'
        rw [Array.toList_map, Lib.extract_data]
        simp [BE]
      · intro v hv
        obtain ⟨b, _, rfl⟩ := List.mem_map.1 hv
        rfl
    · cases h
  · cases h
def MY (P : Program) (env : Env) (H : Tr AO) (nx : Nat) (ats : Array TypeId) (args : Array Operand) : Option (List Out) := match ats.toList, evL env args.toList with
  | [t, tx], some [.slice D d c, x] => match Ux x, P.underlying t with
    | some m, some (.slice e) => match Nat.min m d with
      | 0 => none
      | n + 1 => match My P e with
        | some k => match Uw P H tx k (n + 1) x, D with
          | some nw, some ⟨i, off, none⟩ => match CH H i with
            | some (t', ex, cs) => match Nat.ble (off + (n + 1) * k) cs.length && CT i with
              | true => some [⟨.int .i64 ((n + 1 : Nat) : Int), put H i (some (.cells t' ex (Hs cs off nw))), nx, [i]⟩]
              | false => none
            | none => none
          | _, _ => none
        | none => none
    | _, _ => none
  | _, _ => none
theorem Uy {args : Array Operand} {ats : Array TypeId} (ho : o.op = .call { callee := .builtin .copy, args := args, argTypes := ats }) (h : MY P env H nx ats args = some outs) : Dp P o env H nx outs := by
  unfold MY at h
  split at h
  case h_2 => cases h
  rename_i t tx D d c x hat hx
  have hat' : ats[0]? = some t := by cases ats; simp_all
  split at h
  case h_2 => cases h
  rename_i m e hl hT
  split at h
  · cases h
  rename_i n hmin
  split at h
  case h_2 => cases h
  rename_i k hk
  split at h
  case h_2 => cases h
  rename_i nw i off hs
  split at h
  case h_2 => cases h
  rename_i t' ex cs hr
  split at h
  case h_2 => cases h
  rename_i hb
  cases h
  simp only [Bool.and_eq_true] at hb
  obtain ⟨b1, b2⟩ := hb
  have b1 := Nat.le_of_ble_eq_true b1
  refine BC (fun c hc => by rw [ho] at hc; cases hc) (Nat.le_refl _) (.put b2 _ _ _) fun n' ρ a w hF hR _ => ?_
  obtain ⟨u, u2, hu, h1, h2⟩ := (hF.evL hx).two_
  obtain ⟨news, q1, q2, q3, q4⟩ := Q8 hR hs h2
  have hlen := Q7 (P := P) hl h2 w
  obtain ⟨g, cc, ds, zs, h3, h4, h5, h6⟩ := hR.row hr
  have hdl := h4.length
  have hnl := q2.length
  obtain ⟨w', hrun, hrow, hm⟩ := C3 (P := P) g t' off news 0 (ds ++ zs) w h5 (by rw [List.length_append, hnl, q4]; omega) q3
  have hg : ρ i = some (g, cc) := h3
  have hAft : Aft ρ H w nx ρ (put H i (some (.cells t' ex (Hs cs off nw)))) w' nx := Aft.turn hR (CL hr) hg b2 hm ⟨Hs ds off news, zs, GL q2 off h4, by
    rw [← Gi _ _ _ _ (by omega)]; exact hrow, by rw [Gh]; exact h6⟩
  refine ⟨ρ, _, w', hAft, .int _ _, .inl (Cj ho hu (fun _ => rfl) ?_)⟩
  have hrun' : (storeCells ⟨g, off, none⟩ news).run P w = .ok () w' := by simpa using hrun
  cases h1 with
  | sl hg' hk' => rw [hg'] at hg; cases hg; simp [Builtin.copy_, hat', run_underlying hT, hlen, CK hk, hmin, q1, hrun', goInt]
  | slu hg' hk' => rw [hg'] at hg; cases hg; simp [Builtin.copy_, hat', run_underlying hT, hlen, CK hk, hmin, q1, hrun', goInt]
theorem Aft.spoil {ρ : Rn} {w w' : World} (hR : Rep ρ H w) {i g c : Nat} {o' : AO} (hi : H.get i = some o') (hg : ρ i = some (g, c)) (hin : CT i = true) (hm : Mod (Jl g) w w') : Aft ρ H w nx ρ (put H i none) w' nx := by
  have hold : ∀ j p, (put H i none).get j = some p → j ≠ i ∧ H.get j = some p := fun j p hj => by
    rw [Ba hin] at hj
    split at hj
    · cases hj
    · rename_i e; exact ⟨e, hj⟩
  refine ⟨.refl _ _ _, ⟨fun j p hj => ?_, fun j k p q b c1 c2 h1 h2 h3 h4 => hR.inj j k p q b c1 c2 (hold _ _ h1).2 (hold _ _ h2).2 h3 h4⟩, ⟨hm.os, hm.tape, hm.output, hm.size, fun b hb hn => hm.block b hb fun e => hn ⟨i, o', c, hi, by rw [e]; exact hg⟩, fun b hb hbl => ?_⟩⟩
  · obtain ⟨e, hj'⟩ := hold j p hj
    obtain ⟨b, c', h1, h2⟩ := hR.ok j p hj'
    refine ⟨b, c', h1, h2.same (hm.block b h2.lt fun e2 => e (hR.inj j i p o' g c' c hj' hi ?_ hg))⟩
    rw [h1, e2]
  · obtain ⟨j, p, c', h1, h2⟩ := hbl
    exact ⟨j, p, c', (hold j p h1).2, h2⟩
def MZ (P : Program) (env : Env) (H : Tr AO) (nx : Nat) (ats : Array TypeId) (args : Array Operand) : Option (List Out) := match ats.toList, evL env args.toList with
  | [pt, _], some [.pointer (some ⟨i, 0, none⟩), .int .i64 (.ofNat n)] => match P.underlying pt, CH H i with
    | some (.pointer e), some (t, _, cs) => match Nat.beq t e && Nat.beq (P.cellsOf e) 1 && Nat.ble n cs.length && Nat.ble n 4611686018427387904 && Nat.blt 0 n && CT i, bytesOf (cs.take n) with
      | true, some l => some [⟨.string ⟨⟨l⟩⟩, put H i none, nx, [i]⟩]
      | _, _ => none
    | _, _ => none
  | _, _ => none
theorem Uz {args : Array Operand} {ats : Array TypeId} (ho : o.op = .call { callee := .builtin .unsafeString, args := args, argTypes := ats }) (h : MZ P env H nx ats args = some outs) : Dp P o env H nx outs := by
  unfold MZ at h
  split at h
  case h_2 => cases h
  rename_i pt it i n hat hx
  have hat' : ats = #[pt, it] := by cases ats; simp_all
  split at h
  case h_2 => cases h
  rename_i e t ex cs hp hr
  split at h
  case h_2 => cases h
  rename_i l hb hl
  cases h
  simp only [Bool.and_eq_true] at hb
  obtain ⟨⟨⟨⟨⟨b1, b2⟩, b3⟩, b4⟩, b5⟩, b6⟩ := hb
  have b1 := Nat.eq_of_beq_eq_true b1
  have b2 := Nat.eq_of_beq_eq_true b2
  have b3 := Nat.le_of_ble_eq_true b3
  have b4 := Nat.le_of_ble_eq_true b4
  have b5 : 0 < n := Nat.le_of_ble_eq_true b5
  subst b1
  refine BC (fun c hc => by rw [ho] at hc; cases hc) (Nat.le_refl _) (.put b6 _ _ _) fun n' ρ a w hF hR _ => ?_
  obtain ⟨u, u2, hu, h1, h2⟩ := (hF.evL hx).two_
  have h2 : u2 = .int .i64 (n : Int) := DZ h2
  subst h2
  obtain ⟨g, c, ds, zs, h3, h4, h5, h6⟩ := hR.row hr
  have hdl := h4.length
  have hcs := GP hl
  have hds : ds.take n = BE l := nb.eqs (Ec l) (by rw [← hcs]; exact h4.take n)
  have hln : l.length = n := by
    have : (BE l).length = n := by rw [← hds]; simp; omega
    simpa [BE] using this
  obtain ⟨fz, h7, _⟩ := h5
  have hcell : ∀ j x, l[j]? = some x → w.cell? ((⟨g, 0, none⟩ : Addr).add j) = some (.int .u8 x.toNat) := fun j x hj => by
    rw [Ej, Nat.zero_add]
    have e1 : (BE l)[j]? = some (.int .u8 (x.toNat : Int)) := by simp [BE, hj]
    rw [← hds, List.getElem?_take] at e1
    split at e1
    · have : (ds ++ zs)[j]? = some (.int .u8 (x.toNat : Int)) := by rw [List.getElem?_append_left (List.getElem?_eq_some_iff.1 e1).1]; exact e1
      simp [World.cell?, h7, this]
    · cases e1
  have hrun := Lib.run_unsafeString_row (P := P) (w := w) pt it o.type t hp b2 g (ds ++ zs).length (by simp [World.shape?, h7]) l (by intro e; rw [e] at hln; simp at hln; omega) (by rw [List.length_append, hln]; omega) (by omega) hcell
  rw [hln] at hrun
  have hm : Mod (Jl g) w (w.freeze ⟨g, 0, none⟩ n) := by
    unfold World.freeze
    rw [if_neg (by omega)]
    exact ⟨rfl, rfl, rfl, by simp, fun b hb hn => by
      simp only [Array.getElem?_modify]
      rw [if_neg (fun e => hn e.symm)]⟩
  cases h1 with
  | ptr hg =>
    rw [hg] at h3; cases h3
    subst hat'
    exact ⟨ρ, _, _, Aft.spoil hR (CL hr) hg b6 hm, .str _, .inl (Cj ho hu (fun _ => rfl) hrun)⟩
theorem Q9 {T : TypeId} {cs ds : List Value} {off : Nat} {v : Value} (h : SF P T cs off = some v) (hv : VRL ρ cs ds) {g : Nat} (hR : ∀ i, w.cell? ⟨g, i, none⟩ = ds[i]?) : ∃ u, VR ρ v u ∧ (loadVar T ⟨g, off, none⟩).run P w = .ok u w := by
  unfold SF at h
  split at h
  · rename_i k hk
    split at h
    · rename_i hb
      cases h
      have hle := Nat.le_of_ble_eq_true hb
      have hl := hv.length
      have hA := Ht hk
      refine ⟨_, .agg ((hv.drop off).take k), ?_⟩
      have h1 := run_loadCells_list (P := P) w ⟨g, off, none⟩ ((ds.drop off).take k) (fun j v hv => by
        rw [Addr.add_lit, hR]
        rw [List.getElem?_take] at hv
        split at hv
        · rwa [List.getElem?_drop] at hv
        · cases hv)
      have hl2 : ((ds.drop off).take k).length = k := by simp; omega
      rw [hl2] at h1
      simp [loadVar, Sem.run_bind, hA.1, hA.2, h1]
    · cases h
  · rename_i hk
    have hO := Hu hk
    obtain ⟨u, h1, h2⟩ := hv.get off v h
    have hc : w.cell? ⟨g, off, none⟩ = some u := by rw [hR]; exact h1
    refine ⟨u, h2, ?_⟩
    simp [loadVar, Sem.run_bind, hO.1, run_load, hc]
  · cases h
def KH (P : Program) (env : Env) (H : Tr AO) (T : TypeId) (x : Operand) : Option Value := match CU env x with
  | some (.pointer (some ⟨g, off, some 1⟩)) => match H.get g with
    | some (.glob b cs _) => match Nat.beq b g with | true => SF P T cs off | false => none
    | _ => none
  | _ => none
theorem S7 {T : TypeId} {x : Operand} (ho : o.op = .load T x) (h : one (KH P env H T x) H nx = some outs) : Dp P o env H nx outs := by
 obtain ⟨v, h1, rfl⟩ := BD h
 refine Bg (fun c hc => by rw [ho] at hc; cases hc) fun n ρ a w hF hR => ?_
 unfold KH at h1
 split at h1
 case h_2 => cases h1
 rename_i g off hx
 split at h1
 case h_2 => cases h1
 rename_i b cs ob hr
 split at h1
 case h_2 => cases h1
 rename_i hb
 have hb := Nat.eq_of_beq_eq_true hb
 subst hb
 have h2 := hF.ev hx
 generalize hce : a.eval x = y at h2
 cases h2
 obtain ⟨g', c', h3, h4, t, ds, fz, h5, hob, h6⟩ := hR.ok _ _ hr
 subst h4
 subst hob
 obtain ⟨u, h7, h8⟩ := Q9 (P := P) (w := w) (g := g') h1 h5 (fun i => by simp [World.cell?, h6])
 refine ⟨u, h7, ?_⟩
 unfold execOp
 simp only [ho, hce, Instr.loadAt, Instr.sureAddr, Sem.run_bind, Sem.run_pure, Result.andThen_ok, h8]
def M0 (P : Program) (env : Env) (T : TypeId) (x y : Operand) : Option Value := match P.underlying T, CU env x, CU env y with
  | some (.array n e), some (.pointer (some ⟨i, off, some 1⟩)), some (.int _ (.ofNat j)) => match Nat.blt j n, My P e with
    | true, some sz => some (.pointer (some ⟨i, off + j * sz, some 1⟩))
    | _, _ => none
  | _, _, _ => none
theorem UA {T : TypeId} {x y : Operand} (ho : o.op = .indexAddr T x y) (h : one (M0 P env T x y) H nx = some outs) : Dp P o env H nx outs := by
 obtain ⟨v, h1, rfl⟩ := BD h
 refine Bg (fun c hc => by rw [ho] at hc; cases hc) fun n ρ a w hF hR => ?_
 unfold M0 at h1
 split at h1
 case h_2 => cases h1
 rename_i m e i off k j hT hx hy
 split at h1
 case h_2 => cases h1
 rename_i sz hj hs
 cases h1
 have hj : j < m := Nat.le_of_ble_eq_true hj
 have h3 : a.eval y = .int k (j : Int) := DZ (hF.ev hy)
 have h2 := hF.ev hx
 generalize hu : a.eval x = u at h2
 have hj' : (0 : Int) ≤ (j : Int) ∧ (j : Int) < (m : Int) := by omega
 cases h2
 refine ⟨_, .glob _ _, ?_⟩
 unfold execOp
 simp [ho, hu, h3, Instr.indexAt, asIntOf, run_underlying hT, hj', hj, CK hs, Ej, Instr.sureAddr]
def M1 (P : Program) (env : Env) (op : BinOp) (T : TypeId) (x y : Operand) : Option Value := match P.underlying T, CU env x, CU env y with
  | some (.interface _), some (.iface _ _), some .nilIface => match op with
    | .eql => some (.bool false)
    | .neq => some (.bool true)
    | _ => none
  | _, _, _ => none
theorem UB {op : BinOp} {T T' : TypeId} {x y : Operand} (ho : o.op = .binOp op T x y T') (h : one (M1 P env op T x y) H nx = some outs) : Dp P o env H nx outs := by
  obtain ⟨v, h1, rfl⟩ := BD h
  refine Bg (fun c hc => by rw [ho] at hc; cases hc) fun n ρ a w hF hR => ?_
  unfold M1 at h1
  split at h1
  case h_2 => cases h1
  rename_i ms t v0 hT hx hy
  have h2 := hF.ev hx
  have h3 := hF.ev hy
  generalize hu : a.eval x = u at h2
  generalize hu' : a.eval y = u' at h3
  cases h2
  cases h3
  rename_i u0 _
  have key : (Op.equal T (.iface t u0) .nilIface).run P w = .ok false w := by
    show (Op.equalIn (9999 + 1) T _ _).run P w = _
    unfold Op.equalIn
    simp [run_underlying hT]
  split at h1
  · cases h1
    refine ⟨_, .bool false, ?_⟩
    unfold execOp
    simp only [ho, hu, hu', Sem.run_bind, show (eqGuard .eql T x y (.iface t u0) .nilIface).run P w = .ok () w from rfl, Result.andThen_ok]
    have : (binOp .eql T (.iface t u0) .nilIface).run P w = .ok (.bool false) w := by simp only [binOp]; rw [Sem.run_bind, key]; rfl
    rw [this]
    rfl
  · cases h1
    refine ⟨_, .bool true, ?_⟩
    unfold execOp
    simp only [ho, hu, hu', Sem.run_bind, show (eqGuard .neq T x y (.iface t u0) .nilIface).run P w = .ok () w from rfl, Result.andThen_ok]
    have : (binOp .neq T (.iface t u0) .nilIface).run P w = .ok (.bool true) w := by simp only [binOp]; rw [Sem.run_bind, key]; rfl
    rw [this]
    rfl
  · cases h1
def LI (env : Env) (i off n c sz M : Nat) (lo hi : Option Operand) : Option Value := match Nat.ble n M with
  | true => match G2 env n M lo hi none with
    | some (l, h, _) => match Nat.blt l M with
      | true => some (.slice (some ⟨i, off + l * sz, none⟩) (h - l) (c + l))
      | false => none
    | none => none
  | false => none
def IH (P : Program) (env : Env) (H : Tr AO) (T : TypeId) (x : Operand) (lo hi mx : Option Operand) : Option Value := match P.underlying T, CU env x, mx with
  | some (.slice e), some (.slice (some ⟨i, off, none⟩) n c), none => match My P e, Nat.blt c BIG, H.get i with
    | some sz, false, some (.cells _ (some k) cs) => match Nat.beq k sz && Nat.blt 0 sz with
      | true => LI env i off n c sz (cs.length / sz - (c - BIG)) lo hi
      | false => none
    | _, _, _ => none
  | _, _, _ => none
theorem Ra {T : TypeId} {x : Operand} {lo hi mx : Option Operand} (ho : o.op = .slice T x lo hi mx) (h : one (IH P env H T x lo hi mx) H nx = some outs) : Dp P o env H nx outs := by
  obtain ⟨v, h1, rfl⟩ := BD h
  refine Bg (fun c hc => by rw [ho] at hc; cases hc) fun n' ρ a w hF hR => ?_
  unfold IH at h1
  split at h1
  case h_2 => cases h1
  rename_i e i off n c hT hx
  split at h1
  case h_2 => cases h1
  rename_i sz t k cs hs hlt hi0
  split at h1
  case h_2 => cases h1
  rename_i hb0
  simp only [Bool.and_eq_true] at hb0
  obtain ⟨b1, b2⟩ := hb0
  have b1 := Nat.eq_of_beq_eq_true b1
  have b2 : 0 < sz := Nat.le_of_ble_eq_true b2
  subst b1
  have hge : ¬ c < BIG := fun h => by rw [show Nat.blt c BIG = true from Nat.ble_eq_true_of_le h] at hlt; cases hlt
  have hv := hF.ev hx
  generalize hu : a.eval x = u at hv
  cases hv with
  | sl hg hk => exact absurd hk hge
  | @slu _ g cc _ _ s hg hs' =>
    rw [Nat.add_sub_cancel_left] at h1
    clear hge hlt
    obtain ⟨g', c', h3, ds, zs, h4, h5, h6⟩ := hR.ok _ _ hi0
    rw [hg] at h3; cases h3
    have h6 : cs.length + zs.length = cc * k := h6
    have hdiv : cs.length / k ≤ cc := by
      refine Nat.div_le_of_le_mul ?_
      rw [Nat.mul_comm]; omega
    obtain ⟨M, hM⟩ : ∃ M, M = cs.length / k - s := ⟨_, rfl⟩
    rw [← hM] at h1
    unfold LI at h1
    split at h1
    case h_2 => cases h1
    rename_i b3
    have b3 := Nat.le_of_ble_eq_true b3
    split at h1
    case h_2 => cases h1
    rename_i l h' m hb
    split at h1
    case h_2 => cases h1
    rename_i hl
    have hl : l < M := Nat.le_of_ble_eq_true hl
    cases h1
    obtain ⟨q1, q2, q3⟩ := Ib hb
    have hh : h' ≤ M ∧ O8 env hi none n (cc - s) = some h' := by
      have q1' : M = m := by unfold Jn at q1; exact Option.some.inj q1
      cases hi with
      | none => cases q2; exact ⟨b3, rfl⟩
      | some y =>
        have q2 : Jn env (some y) n m = some h' := q2
        exact ⟨by have := (EE hF q2).1; omega, Is q2 (by omega)⟩
    have hlh : l ≤ h' := by
      cases lo with
      | none => cases q3; exact Nat.zero_le _
      | some y => exact (EE hF q3).1
    have hbs := Ei (P := P) hF (Kl (len := n) (mx := none) (show Jn env none (cc - s) (cc - s) = some (cc - s) from rfl) hh.2 q3) w true
    have hrun := Dg (P := P) hT hs (A := some ⟨g, off, none⟩) w hbs.1
    rw [if_neg (by omega)] at hrun
    refine ⟨.slice (some ⟨g, off + l * k, none⟩) (h' - l) (cc - (s + l)), ?_, ?_⟩
    · rw [Nat.add_assoc]
      exact .slu hg (by omega)
    · unfold execOp
      simp only [ho, hu]
      rw [Sem.run_bind, hrun]
      simp only [Result.andThen_ok, Option.map_some, Ej, Sem.run_pure]
      rw [show cc - s - l = cc - (s + l) by omega]
theorem Rb (z : Array Value) (n : Nat) : (Builtin.zeroCells z n).toList = rep n z.toList := by
 rw [← IF]
 simp [madeCells, Builtin.zeroCells]
def II (P : Program) (env : Env) (H : Tr AO) (nx : Nat) (ats : Array TypeId) (args : Array Operand) : Option (List Out) := match ats.toList, evL env args.toList with
  | T :: _, some [.slice A (.succ n) _] => match P.underlying T, A with
    | some (.slice e), some ⟨i, off, none⟩ => match HT P e, CH H i with
      | some zs, some (t', ex, cs) => match Nat.ble (off + (n + 1) * zs.length) cs.length && CT i && GK (rep (n + 1) zs) with
        | true => some [⟨undef, put H i (some (.cells t' ex (Hs cs off (rep (n + 1) zs)))), nx, [i]⟩]
        | false => none
      | _, _ => none
    | _, _ => none
  | T :: _, some [.slice _ 0 _] => match P.underlying T with
    | some (.slice _) => some [⟨undef, H, nx, []⟩]
    | _ => none
  | _, _ => none
theorem Re {args : Array Operand} {ats : Array TypeId} (ho : o.op = .call { callee := .builtin .clear, args := args, argTypes := ats }) (h : II P env H nx ats args = some outs) : Dp P o env H nx outs := by
  unfold II at h
  split at h
  · rename_i T tr A n c hat hx
    have hat' : ats[0]? = some T := by cases ats; simp_all
    split at h
    case h_2 => cases h
    rename_i e i off hT
    split at h
    case h_2 => cases h
    rename_i zs t' ex cs hz hr
    split at h
    case h_2 => cases h
    rename_i hb
    cases h
    simp only [Bool.and_eq_true] at hb
    obtain ⟨⟨b1, b2⟩, b3⟩ := hb
    have b1 := Nat.le_of_ble_eq_true b1
    obtain ⟨z1, z, z2, z3⟩ := Eh hz
    refine BC (fun c hc => by rw [ho] at hc; cases hc) (Nat.le_refl _) (.put b2 _ _ _) fun n' ρ a w hF hR _ => ?_
    obtain ⟨u, hu, h1⟩ := (hF.evL hx).one_
    obtain ⟨g, cc, ds, ys, h3, h4, h5, h6⟩ := hR.row hr
    have hdl := h4.length
    have hrl := Id zs (n + 1)
    have hnb : VRL ρ (rep (n + 1) zs) (rep (n + 1) zs) := nb.selfs (KG z1 (n + 1))
    obtain ⟨w', hrun, hrow, hm⟩ := C3 (P := P) g t' off (rep (n + 1) zs) 0 (ds ++ ys) w h5 (by rw [List.length_append]; omega) (Gg hnb b3)
    have hAft : Aft ρ H w nx ρ (put H i (some (.cells t' ex (Hs cs off (rep (n + 1) zs))))) w' nx := Aft.turn hR (CL hr) h3 b2 hm ⟨Hs ds off (rep (n + 1) zs), ys, GL hnb off h4, by
      rw [← Gi _ _ _ _ (by omega)]; exact hrow, by rw [Gh]; exact h6⟩
    refine ⟨ρ, undef, w', hAft, .undef, .inl (Cj ho hu (fun _ => rfl) ?_)⟩
    have hrun' : (storeCells ⟨g, off, none⟩ (Builtin.zeroCells z.cells (n + 1)).toList).run P w = .ok () w' := by rw [Rb, z3]; simpa using hrun
    have hzv : (zeroValue e).run P w = .ok z w := by
      cases hi : P.info? e with
      | none => simp [hi] at z2
      | some inf =>
        have z2' : inf.zero = some z := by simpa [hi] using z2
        simp [zeroValue, typeInfo, hi, z2']
    cases h1 with
    | sl hg hk => rw [hg] at h3; cases h3; simp [Builtin.clear_, hat', run_underlying hT, hzv, hrun', undef]
    | slu hg hs => rw [hg] at h3; cases h3; simp [Builtin.clear_, hat', run_underlying hT, hzv, hrun', undef]
  · rename_i T tr A c hat hx
    have hat' : ats[0]? = some T := by cases ats; simp_all
    split at h
    case h_2 => cases h
    rename_i e hT
    cases h
    refine Bg (fun c hc => by rw [ho] at hc; cases hc) fun n' ρ a w hF hR => ?_
    obtain ⟨u, hu, h1⟩ := (hF.evL hx).one_
    refine ⟨undef, .undef, Cj ho hu (fun _ => rfl) ?_⟩
    cases h1 <;> simp [Builtin.clear_, hat', run_underlying hT, undef]
  · cases h
end ops
def Rf (P : Program) (env : Env) (H : Tr AO) (nx : Nat) (o : Oper) : Option (List Out) := match o.op with
  | .makeMap T x => Hy P env H nx T x
  | .binOp op T x y _ => one (M1 P env op T x y) H nx
  | .load T x => one (KH P env H T x) H nx
  | .indexAddr T x y => one (M0 P env T x y) H nx
  | .lookup T x y ok => one (IB P env H T x y ok) H nx
  | .mapUpdate T x y z => KD P env H nx T x y z
  | .mapEntry T x y => Hz P env H nx T x y
  | .entryStore _ x y z => Fd env H nx x y z
  | .range T x => Q0 P env H nx T x
  | .next x false => KF env H nx x
  | .entry x => one (MU env H x) H nx
  | .makeSlice T x y => MV P env H nx T x y
  | .buildSlice T n ps => IG P env H nx T n ps
  | .convert T T' x => Oc (one (Q4 P env H T T' x) H nx) (Oc (Q5 P env H nx T T' x) (MX P env H nx T T' x))
  | .call { callee := .builtin .delete, args, argTypes } => IC P env H nx argTypes args
  | .call { callee := .builtin .clear, args, argTypes } => Oc (IE P env H nx argTypes args) (II P env H nx argTypes args)
  | .slice T x lo hi mx => one (IH P env H T x lo hi mx) H nx
  | .call { callee := .builtin .copy, args, argTypes } => MY P env H nx argTypes args
  | .call { callee := .builtin .unsafeString, args, argTypes } => MZ P env H nx argTypes args
  | _ => none
theorem Rg (P : Program) (o : Oper) (env : Env) (H : Tr AO) (nx : Nat) (outs : List Out) (h : Rf P env H nx o = some outs) : Dp P o env H nx outs := by
  unfold Rf at h
  split at h
  · rename_i ho; exact Pe ho h
  · rename_i ho; exact UB ho h
  · rename_i ho; exact S7 ho h
  · rename_i ho; exact UA ho h
  · rename_i ho; exact QY ho h
  · rename_i ho; exact S4 ho h
  · rename_i ho; exact Pf ho h
  · rename_i ho; exact KE ho h
  · rename_i ho; exact V9 ho h
  · rename_i ho; exact S6 ho h
  · rename_i ho; exact Ut ho h
  · rename_i ho; exact Uu ho h
  · rename_i ho; exact Q3 ho h
  · rename_i ho
    rcases D3 h with h | h
    · exact Wb ho h
    rcases D3 h with h | h
    · exact Wc ho h
    · exact Uv ho h
  · rename_i ho; exact QZ ho h
  · rename_i ho
    rcases D3 h with h | h
    · exact Q1 ho h
    · exact Re ho h
  · rename_i ho; exact Ra ho h
  · rename_i ho; exact Uy ho h
  · rename_i ho; exact Uz ho h
  · cases h
def W2 (P : Program) : Els P := { ev := Rf P, ok := Rg P, mem := fun _ _ _ _ => none, mok := fun _ _ _ _ _ h => by cases h }
end
end Go.Proofs.Ytnebloeideodmaa.Run
namespace Go.Proofs.Ytnebloeideodmaa.Run
noncomputable section
open Go.RowKit
abbrev Tabs := List (Nat × List Value × Obj)
def M2 : Tabs → Tr AO
  | [] => .tE
  | (g, cs, ob) :: r => put (M2 r) g (some (.glob g cs ob))
def M3 (P : Program) (X : Els P) (lf d : Nat) (F : FuncId) (tabs : Tabs) (nx : Nat) : Bool := match tabs.all fun e => Nat.blt e.1 nx && CT e.1 with
  | true => match LD P X lf d (.func (.func F) ⟨[]⟩ ⟨[]⟩) [] (M2 tabs) nx with
    | some outs => outs.all fun x => match x.v, x.wr with | .bool true, [] => true | _, _ => false
    | none => false
  | false => false
def TS (nx : Nat) : Rn := fun i => if i < nx then some (i, 0) else none
theorem IJ : ∀ {tabs : Tabs} {i : Nat} {o : AO}, (∀ e ∈ tabs, CT e.1 = true) → (M2 tabs).get i = some o → ∃ cs ob, (i, cs, ob) ∈ tabs ∧ o = .glob i cs ob
  | [], i, o, _, h => by simp [M2, Tr.get_e] at h
  | (g, cs, ob) :: r, i, o, hin, h => by
    unfold M2 at h
    rw [Ba (hin (g, cs, ob) (by simp))] at h
    split at h
    · rename_i e
      cases h
      exact ⟨cs, ob, by simp [e], by rw [e]⟩
    · obtain ⟨cs', ob', h1, h2⟩ := IJ (fun e he => hin e (by simp [he])) h
      exact ⟨cs', ob', by simp [h1], h2⟩
theorem M4 {P : Program} {X : Els P} {lf : Nat} (hmix : P.follows .mixedOrders = true) (hname : LF P) {d : Nat} {F : FuncId} {tabs : Tabs} {nx : Nat} (h : M3 P X lf d F tabs nx = true) (w : World)
    (hw : ∀ e ∈ tabs, ∃ t ds fz, (∀ ρ, VRL ρ e.2.1 ds) ∧ e.2.2 = .cells ⟨ds⟩ t fz ∧ w.heap[e.1]? = some e.2.2) : Calls P F #[] w fun e w' => e = .returned (.bool true) ∧ Below w.heap.size w w' := by
  unfold M3 at h
  split at h
  case h_2 => cases h
  rename_i hall
  split at h
  case h_2 => cases h
  rename_i outs ho
  have hin : ∀ e ∈ tabs, CT e.1 = true := fun e he => by
    have := List.all_eq_true.1 hall e he
    simp only [Bool.and_eq_true] at this
    exact this.2
  have hlt : ∀ e ∈ tabs, e.1 < nx := fun e he => by
    have := List.all_eq_true.1 hall e he
    simp only [Bool.and_eq_true] at this
    exact Nat.le_of_ble_eq_true this.1
  have hrep : Rep (TS nx) (M2 tabs) w := by
    refine ⟨fun i o hi => ?_, fun i j o o' g c c' _ _ h1 h2 => ?_⟩
    · obtain ⟨cs, ob, h1, rfl⟩ := IJ hin hi
      have := hlt _ h1
      have hr : TS nx i = some (i, 0) := by unfold TS; rw [if_pos this]
      obtain ⟨t, ds, fz, h2, h3⟩ := hw _ h1
      exact ⟨i, 0, hr, rfl, t, ds, fz, h2 _, h3⟩
    · unfold TS at h1 h2
      split at h1
      · split at h2
        · cases h1; cases h2; rfl
        · cases h2
      · cases h1
  obtain ⟨⟨_, hgd⟩, h2⟩ := KC hmix hname d _ _ _ _ _ ho
  have := h2 (TS nx) w (outs.foldl (fun m x => max m x.nx) 0) (.func (.func F) ⟨[]⟩ ⟨[]⟩) [] (.func F .nil .nil) .nil hrep (fun x hx => by
    have key : ∀ (l : List Out) (m : Nat), m ≤ l.foldl (fun m x => max m x.nx) m ∧ ∀ x ∈ l, x.nx ≤ l.foldl (fun m x => max m x.nx) m := by
      intro l
      induction l with
      | nil => intro m; exact ⟨Nat.le_refl _, fun x hx => by simp at hx⟩
      | cons y r ih =>
        intro m
        obtain ⟨i1, i2⟩ := ih (max m y.nx)
        rw [List.foldl_cons]
        refine ⟨by omega, fun x hx => ?_⟩
        rcases List.mem_cons.1 hx with rfl | hx
        · omega
        · exact i2 x hx
    exact (key outs 0).2 x hx) (fun i hi _ => by unfold TS; rw [if_neg (by omega)]) (fun u w' => u = .bool true ∧ Below w.heap.size w w') fun x hx ρ' w' u hA hv => by
      have := List.all_eq_true.1 h x hx
      generalize hxv : x.v = xv at this hv
      generalize hxw : x.wr = xw at this
      split at this
      case h_2 => cases this
      cases hv
      refine ⟨rfl, ⟨hA.stp.os, hA.stp.tape, hA.stp.output, hA.stp.size, fun k hk => ?_⟩⟩
      by_cases hb : BA (TS nx) (M2 tabs) k
      · obtain ⟨i, o, c, h3, h4⟩ := hb
        obtain ⟨cs, ob, h5, rfl⟩ := IJ hin h3
        have hi := hlt _ h5
        have hik : i = k := by
          unfold TS at h4
          rw [if_pos hi] at h4
          cases h4; rfl
        subst hik
        have h6 : x.H.get i = some (.glob i cs ob) := by
          rw [(hgd x hx).2 i (by rw [hxw]; simp) (.inl hi)]; exact h3
        obtain ⟨g', c', h7, h8, t, ds, fz, _, _, h9⟩ := hA.rep.ok _ _ h6
        subst h8
        obtain ⟨_, _, _, _, _, h10⟩ := hw _ h5
        rw [h9]; exact h10.symm
      · exact hA.stp.block k hk hb
  rcases this with ⟨F', p, q, he, hE, hc⟩ | ⟨L, r, he, _⟩
  · simp only [Value.func.injEq, Fn.func.injEq, Array.mk.injEq] at he
    obtain ⟨rfl, rfl, rfl⟩ := he
    exact hc.mono fun e w' ⟨u, h1, h2, h3⟩ => ⟨by rw [h1, h2], h3⟩
  · simp at he
end
end Go.Proofs.Ytnebloeideodmaa.Run
