/-
  Rm · Rn
-/
import Derived.Test.YtljpjfefjidakaaGreatAA08
import Derived.Lib.SlBytesRow
import Derived.Lib.UnsafeStr
import Derived.Laws.IdiomStrings
set_option linter.unusedSimpArgs false
set_option linter.unusedVariables false

namespace Go.Proofs.YtljpjfefjidakaaGreat.Run
noncomputable section
open Go.RowKit Go.MapKept
section ops
variable {P : Program} {o : Oper} {env : Env} {H H' : Tr AO} {nx : Nat} {v : Value} {outs : List Out} {ρ : Rn} {w : World}

theorem big_lt {m : Nat} (h : m ≤ 1000000) : m < BIG := Nat.lt_of_le_of_lt h (by decide)
/-! ## Zeros -/
def rep : Nat → List Value → List Value
  | 0, _ => []
  | n + 1, z => z ++ rep n z
theorem rep_len (z : List Value) : ∀ n, (rep n z).length = n * z.length
  | 0 => by simp [rep]
  | n + 1 => by rw [rep, List.length_append, rep_len z n, Nat.succ_mul]; omega
theorem rep_get (z : List Value) (hz : 0 < z.length) : ∀ (n j : Nat), j < n * z.length → (rep n z)[j]? = z[j % z.length]?
  | 0, j, h => by simp at h
  | n + 1, j, h => by
    rw [rep]
    by_cases hj : j < z.length
    · rw [List.getElem?_append_left hj, Nat.mod_eq_of_lt hj]
    · rw [List.getElem?_append_right (by omega), rep_get z hz n (j - z.length) (by rw [Nat.succ_mul] at h; omega)]
      congr 1
      rw [Nat.mod_eq_sub_mod (by omega : j ≥ z.length)]
theorem rep_nb {z : List Value} (hz : z.all nb = true) : ∀ n, (rep n z).all nb = true
  | 0 => rfl
  | n + 1 => by rw [rep, List.all_append, hz, rep_nb hz n]; rfl
theorem rep_made (z : Array Value) (n : Nat) : (madeCells z (n * z.size)).toList = rep n z.toList := by
  apply List.ext_getElem?
  intro j
  by_cases hj : j < n * z.size
  · have hz : 0 < z.size := by
      rcases Nat.eq_zero_or_pos z.size with h | h
      · rw [h] at hj; simp at hj
      · exact h
    rw [rep_get z.toList (by simpa using hz) n j (by simpa using hj)]
    have hm : j % z.size < z.size := Nat.mod_lt _ hz
    simp [madeCells, hj, hm]
  · rw [List.getElem?_eq_none (by simp [madeCells]; omega), List.getElem?_eq_none (by rw [rep_len]; simp; omega)]

/-! ## A slice made -/
def evMake (P : Program) (env : Env) (H : Tr AO) (nx : Nat) (T : TypeId) (x y : Operand) : Option (List Out) := match P.underlying T, evO env x, evO env y with
  | some (.slice e), some (.int _ (.ofNat l)), some (.int _ (.ofNat c)) => match zeroT P e, P.info? e with
    | some zs, some i => match Nat.ble l c && Nat.ble (i.bytes * c) 140737488355328 && Nat.ble c 1000000 && inT nx && Nat.beq i.size zs.length with
      | true => some [⟨.slice (some ⟨nx, 0, none⟩) l c, put H nx (some (.cells e none (rep c zs))), nx + 1, []⟩]
      | false => none
    | _, _ => none
  | _, _, _ => none
theorem s_make {T : TypeId} {x y : Operand} (ho : o.op = .makeSlice T x y) (h : evMake P env H nx T x y = some outs) : OpS P o env H nx outs := by
  unfold evMake at h
  split at h
  · rename_i e k l k' c hT hx hy
    split at h
    · rename_i zs i hz hi
      split at h
      · rename_i hb
        cases h
        simp only [Bool.and_eq_true] at hb
        obtain ⟨⟨⟨⟨b1, b2⟩, b3⟩, b4⟩, b5⟩ := hb
        have b1 := Nat.le_of_ble_eq_true b1
        have b2 := Nat.le_of_ble_eq_true b2
        have b3 := Nat.le_of_ble_eq_true b3
        have b5 := Nat.eq_of_beq_eq_true b5
        obtain ⟨z1, z, z2, z3⟩ := zeroT_at hz
        have z2' : i.zero = some z := by simpa [hi] using z2
        refine ops_one (fun c hc => by rw [ho] at hc; cases hc) (Nat.le_succ _) (.new b4 _) fun n ρ a w hF hR hS => ?_
        have e1 := vr_int (hF.ev hx)
        have e2 := vr_int (hF.ev hy)
        have hsz : z.cells.size = i.size := by rw [b5, ← z3]; simp
        have hrun := run_make (P := P) w T e i z hT hi z2' k k' (l : Int) (c : Int) (by omega) (by omega) (by rw [← Int.natCast_mul]; omega) (by omega)
        have hcs : madeCells z.cells ((c : Int).toNat * i.size) = ⟨rep c zs⟩ := by
          apply Array.ext'
          rw [← hsz, Int.toNat_natCast, rep_made, z3]
        rw [hcs] at hrun
        refine ⟨upd ρ nx w.heap.size 0, _, _, Aft.new hR hS b4 (.cells ⟨rep c zs⟩ e) 0 _ ⟨rep c zs, [], nb.selfs (rep_nb z1 c), by rw [List.append_nil]; exact RowF.new w e _, rfl⟩, .sl (c := 0) (upd_same _ _ _ _) (big_lt b3), .inl ?_⟩
        unfold execOp
        have e1' : a.eval x = .int k (l : Int) := e1
        have e2' : a.eval y = .int k' (c : Int) := e2
        simp only [Int.toNat_natCast] at hrun
        simp [ho, e1', e2', hrun]
      · cases h
    · cases h
  · cases h
def evBuildS (P : Program) (env : Env) (H : Tr AO) (nx : Nat) (T : TypeId) (n : Nat) (ps : Array (Nat × Operand)) : Option (List Out) := match P.underlying T, evParts env ps.toList with
  | some (.slice e), some l => match zeroT P e, szT P e with
    | some zs, some k => match Nat.beq zs.length k && Nat.ble (n * k) 1000000 && inT nx && Nat.ble n 1000000 with
      | true => match fillL (fun i => some (i * k, k)) (rep n zs) l with
        | some r => some [⟨.slice (some ⟨nx, 0, none⟩) n n, put H nx (some (.cells e none r)), nx + 1, []⟩]
        | none => none
      | false => none
    | _, _ => none
  | _, _ => none
theorem s_buildS {T : TypeId} {m : Nat} {ps : Array (Nat × Operand)} (ho : o.op = .buildSlice T m ps) (h : evBuildS P env H nx T m ps = some outs) : OpS P o env H nx outs := by
  unfold evBuildS at h
  split at h
  · rename_i e l hT hl
    split at h
    · rename_i zs k hz hk
      split at h
      · rename_i hb
        split at h
        · rename_i r hr
          cases h
          simp only [Bool.and_eq_true] at hb
          obtain ⟨⟨⟨b1, b2⟩, b3⟩, b4⟩ := hb
          have b1 := Nat.eq_of_beq_eq_true b1
          have b2 := Nat.le_of_ble_eq_true b2
          have b4 := Nat.le_of_ble_eq_true b4
          obtain ⟨z1, z, z2, z3⟩ := zeroT_at hz
          refine ops_one (fun c hc => by rw [ho] at hc; cases hc) (Nat.le_succ _) (.new b3 _) fun n ρ a w hF hR hS => ?_
          have hparts : PRL ρ l (ps.map fun p => (p.1, a.eval p.2)).toList := by
            have := evParts_vr hF hl
            simpa using this
          obtain ⟨r', h5, h6⟩ := fillL_run hparts (nb.selfs (ρ := ρ) (rep_nb z1 m)) hr
          have hcs : (Array.range (m * k)).map (z.cells[· % z.cells.size]!) = ⟨rep m zs⟩ := by
            apply Array.ext'
            have hsz : z.cells.size = k := by rw [← b1, ← z3]; simp
            have := rep_made z.cells m
            rw [hsz, z3] at this
            rw [← this]
            simp [madeCells, hsz]
          refine ⟨upd ρ nx w.heap.size 0, _, _, Aft.new hR hS b3 (.cells ⟨r'⟩ e) 0 _ ⟨r', [], h6.mono (upd_le (hS nx (Nat.le_refl _) (by omega))), by rw [List.append_nil]; exact RowF.new w e _, rfl⟩, .sl (c := 0) (upd_same _ _ _ _) (big_lt b4), .inl ?_⟩
          unfold execOp
          by_cases h0 : m * k = 0
          · have hr0 : rep m zs = [] := List.eq_nil_of_length_eq_zero (by rw [rep_len, b1, h0])
            rw [hr0] at h5
            have h5' : Instr.fill (fun i => some (i * k, k)) (Array.map (fun _ => (default : Value)) (Array.range 0)) (List.map (fun x => (x.fst, a.eval x.snd)) ps.toList) = some ⟨r'⟩ := by
              rw [show Array.map (fun _ => (default : Value)) (Array.range 0) = (⟨[]⟩ : Array Value) by simp]
              simpa using h5
            simp [ho, Instr.buildSlice, run_underlying hT, szT_run hk, h0, h5', newRow]
          · have hlt : ¬ 16777216 < m * k := by omega
            have h5' : Instr.fill (fun i => some (i * k, k)) ⟨rep m zs⟩ (List.map (fun x => (x.fst, a.eval x.snd)) ps.toList) = some ⟨r'⟩ := by simpa using h5
            simp [ho, Instr.buildSlice, run_underlying hT, szT_run hk, h0, hlt, run_zero z2, hcs, h5', newRow]
        · cases h
      · cases h
    · cases h
  · cases h
/-! ## Bytes and texts -/
def byteOf : Value → Option UInt8
  | .int .u8 (.ofNat n) => match Nat.blt n 256 with | true => some (UInt8.ofNat n) | false => none
  | _ => none
theorem byteOf_at {v : Value} {b : UInt8} (h : byteOf v = some b) : v = .int .u8 (b.toNat : Int) := by
  unfold byteOf at h
  split at h
  · rename_i n
    split at h
    · rename_i hb
      cases h
      have hb : n < 256 := Nat.le_of_ble_eq_true hb
      have : (UInt8.ofNat n).toNat = n := by simp; omega
      rw [this]; rfl
    · cases h
  · cases h
def bytesOf : List Value → Option (List UInt8)
  | [] => some []
  | v :: r => match byteOf v, bytesOf r with | some b, some l => some (b :: l) | _, _ => none
theorem bytesOf_at : ∀ {vs : List Value} {l : List UInt8}, bytesOf vs = some l → vs = bytesC l
  | [], l, h => by cases h; rfl
  | v :: r, l, h => by
    unfold bytesOf at h
    split at h
    · rename_i b l' h1 h2
      cases h
      rw [byteOf_at h1, bytesOf_at h2]; rfl
    · cases h
def evB2S (P : Program) (env : Env) (H : Tr AO) (T T' : TypeId) (x : Operand) : Option Value := match P.underlying T, P.underlying T', evO env x with
  | some (.slice e), some .string, some (.slice A n _) => match P.underlying e with
    | some (.int .u8) => match A with
      | none => some (.string ⟨⟨[]⟩⟩)
      | some ⟨_, _, some _⟩ => match n with | 0 => some (.string ⟨⟨[]⟩⟩) | _ => none
      | some ⟨i, off, none⟩ => match rowAt H i with
        | some (_, _, cs) => match Nat.ble (off + n) cs.length, bytesOf ((cs.drop off).take n) with
          | true, some l => some (.string ⟨⟨l⟩⟩)
          | _, _ => none
        | none => none
    | _ => none
  | _, _, _ => none
theorem s_b2s {T T' : TypeId} {x : Operand} (ho : o.op = .convert T T' x) (h : one (evB2S P env H T T' x) H nx = some outs) : OpS P o env H nx outs := by
  obtain ⟨v, h1, rfl⟩ := one_eq h
  refine ops_val (fun c hc => by rw [ho] at hc; cases hc) fun n ρ a w hF hR => ?_
  unfold evB2S at h1
  split at h1
  case h_2 => cases h1
  rename_i e A m c hT hT' hx
  split at h1
  case h_2 => cases h1
  rename_i he
  have hv := hF.ev hx
  generalize hu : a.eval x = u at hv
  split at h1
  · cases h1
    cases hv
    refine ⟨_, .str _, ?_⟩
    unfold execOp
    simp [ho, hu, convert, run_underlying hT, run_underlying hT', run_underlying he, Conv.bytesToString, Result.andThen]
    rfl
  · split at h1
    · cases h1
      cases hv with
      | semp A c =>
        refine ⟨_, .str _, ?_⟩
        unfold execOp
        simp [ho, hu, convert, run_underlying hT, run_underlying hT', run_underlying he, Conv.bytesToString, Result.andThen]
        rfl
    · cases h1
  · rename_i i off
    split at h1
    · rename_i t ex cs hr
      split at h1
      · rename_i l hb hl
        cases h1
        have hb := Nat.le_of_ble_eq_true hb
        obtain ⟨g, cc, ds, zs, h3, h4, h5, _⟩ := hR.row hr
        have hdl := h4.length
        have hcs := bytesOf_at hl
        have hds : (ds.drop off).take m = bytesC l := nb.eqs (bytesC_nb l) (by rw [← hcs]; exact (h4.drop off).take m)
        have hm : (⟨⟨l⟩⟩ : ByteArray).size = m := by
          have : (bytesC l).length = m := by rw [← hds]; simp; omega
          have h2 : l.length = m := by simpa [bytesC] using this
          exact h2
        have hB : Lib.Bytes w g off ⟨⟨l⟩⟩ := fun j hj => by
          rw [h5.cell]
          have hj' : j < l.length := hj
          have e1 : (bytesC l)[j]? = some (.int .u8 (l[j].toNat : Int)) := by simp [bytesC, hj']
          rw [← hds, List.getElem?_take] at e1
          split at e1
          · rw [List.getElem?_drop] at e1
            rw [List.getElem?_append_left (List.getElem?_eq_some_iff.1 e1).1]
            exact e1
          · cases e1
        have key : ∀ k, (convert T T' (.slice (some ⟨g, off, none⟩) m k)).run P w = .ok (.string ⟨⟨l⟩⟩) w := fun k => by
          have := Lib.run_convert_whole (P := P) w T e T' hT he hT' g off ⟨⟨l⟩⟩ hB k
          rw [hm] at this
          exact this
        refine ⟨_, .str _, ?_⟩
        unfold execOp
        cases hv with
        | sl hg hk => rw [hg] at h3; cases h3; simp [ho, hu, key]
        | slu hg hs => rw [hg] at h3; cases h3; simp [ho, hu, key]
      · cases h1
    · cases h1
def evS2B (P : Program) (env : Env) (H : Tr AO) (nx : Nat) (T T' : TypeId) (x : Operand) : Option (List Out) := match P.underlying T, P.underlying T', evO env x with
  | some .string, some (.slice e), some (.string ⟨⟨l⟩⟩) => match P.underlying e, inT nx with
    | some (.int .u8), true => some [⟨.slice (some ⟨nx, 0, none⟩) l.length (BIG + 0), put H nx (some (.cells e (some 1) (bytesC l))), nx + 1, []⟩]
    | _, _ => none
  | _, _, _ => none
theorem s_s2b {T T' : TypeId} {x : Operand} (ho : o.op = .convert T T' x) (h : evS2B P env H nx T T' x = some outs) : OpS P o env H nx outs := by
  unfold evS2B at h
  split at h
  case h_2 => cases h
  rename_i e l hT hT' hx
  split at h
  case h_2 => cases h
  rename_i he hn
  cases h
  refine ops_one (fun c hc => by rw [ho] at hc; cases hc) (Nat.le_succ _) (.new hn _) fun n ρ a w hF hR hS => ?_
  have hx' := vr_str (hF.ev hx)
  have hrun := run_bytes_of_string (P := P) w T T' e ⟨⟨l⟩⟩ hT hT' he
  have hsz : (⟨⟨l⟩⟩ : ByteArray).size = l.length := rfl
  rw [hsz] at hrun
  generalize hG : grownCap w l.length 0 e = G at hrun
  have hGe : l.length ≤ G := by rw [← hG]; exact Nat.le_add_right _ _
  have hle : Le ρ (upd ρ nx w.heap.size G) := upd_le (hS nx (Nat.le_refl _) (by omega))
  have hrow : bytesRow ⟨⟨l⟩⟩ G = ⟨bytesC l ++ List.replicate (G - l.length) (.int .u8 0)⟩ := by
    apply Array.ext'
    simp [bytesRow, bytesC, hsz]
  rw [hrow] at hrun
  have hA := Aft.new (w := w.drew) hR.drew hS hn (.cells ⟨bytesC l ++ List.replicate (G - l.length) (.int .u8 0)⟩ e ((⟨bytesC l ++ List.replicate (G - l.length) (.int .u8 0)⟩ : Array Value).size, (⟨bytesC l ++ List.replicate (G - l.length) (.int .u8 0)⟩ : Array Value).size + 1)) G (.cells e (some 1) (bytesC l)) ⟨bytesC l, List.replicate (G - l.length) (.int .u8 0), nb.selfs (bytesC_nb l), ⟨_, heap_alloc_new w.drew _, .inr (Nat.le_refl _)⟩, by
    show (bytesC l).length + _ = G * 1
    simp [bytesC]; omega⟩
  refine ⟨upd ρ nx w.heap.size G, _, _, ⟨hA.ext, hA.rep, ⟨hA.stp.os, hA.stp.tape, hA.stp.output, hA.stp.size, hA.stp.block, hA.stp.own⟩⟩, ?_, .inl (?_ : _ = Result.ok (Next.value (.slice (some ⟨w.heap.size, 0, none⟩) l.length G)) _)⟩
  · have := VR.slu (n := l.length) (s := 0) (off := 0) (upd_same ρ nx w.heap.size G) (by omega)
    simpa using this
  · unfold execOp
    simp only [ho, hx']
    rw [Sem.run_bind, hrun]
    rfl
/-! ## Bytes that stand for a text -/
theorem mark_run {w : World} {g : Nat} {t : TypeId} {ds : List Value} (h : RowF w g t ds) (off : Nat) : ∃ w', (markStringish ⟨g, off, none⟩).run P w = .ok () w' ∧ RowF w' g t ds ∧ Mod (One g) w w' := by
  obtain ⟨⟨lo, hi⟩, h1, h2⟩ := h
  have hlt : g < w.heap.size := (Array.getElem?_eq_some_iff.1 h1).1
  refine ⟨w.freeze ⟨g, ds.length, none⟩ 1, ?_, ?_, ?_⟩
  · have hsh : w.shape? g = some (t, ds.length) := by simp [World.shape?, h1]
    simp [markStringish, hsh]
  · refine ⟨if lo == hi then (ds.length, ds.length + 1) else (min lo ds.length, max hi (ds.length + 1)), ?_, .inr ?_⟩
    · unfold World.freeze
      rw [if_neg (by decide)]
      simp only [Array.getElem?_modify, if_true, h1, Option.map_some]
    · rcases h2 with h2 | h2
      · cases h2; simp
      · split
        · exact Nat.le_refl _
        · simp only at h2 ⊢; omega
  · unfold World.freeze
    rw [if_neg (by decide)]
    exact ⟨rfl, rfl, rfl, by simp, fun b hb hn => by
      simp only [Array.getElem?_modify]
      rw [if_neg (fun e => hn e.symm)]⟩
def evMark (P : Program) (env : Env) (H : Tr AO) (nx : Nat) (T T' : TypeId) (x : Operand) : Option (List Out) := match P.underlying T, evO env x, Nat.beq T T' with
  | some (.slice e), some (.slice (some ⟨i, off, none⟩) n c), true => match P.underlying e, rowAt H i, inT i with
    | some (.int .u8), some (t, ex, cs), true => some [⟨.slice (some ⟨i, off, none⟩) n c, put H i (some (.cells t ex cs)), nx, [i]⟩]
    | _, _, _ => none
  | _, _, _ => none
theorem s_mark {T T' : TypeId} {x : Operand} (ho : o.op = .convert T T' x) (h : evMark P env H nx T T' x = some outs) : OpS P o env H nx outs := by
  unfold evMark at h
  split at h
  case h_2 => cases h
  rename_i e i off n c hT hx hTT
  have hTT := Nat.eq_of_beq_eq_true hTT
  subst hTT
  split at h
  case h_2 => cases h
  rename_i t ex cs he hr hin
  cases h
  refine ops_one (fun c hc => by rw [ho] at hc; cases hc) (Nat.le_refl _) (.put hin _ _ _) fun n' ρ a w hF hR _ => ?_
  have hv := hF.ev hx
  generalize hu : a.eval x = u at hv
  obtain ⟨g, cc, ds, zs, h3, h4, h5, h6⟩ := hR.row hr
  obtain ⟨w', hrun, hrow, hm⟩ := mark_run (P := P) h5 off
  have hA : Aft ρ H w nx ρ (put H i (some (.cells t ex cs))) w' nx := Aft.turn hR (rowAt_get hr) h3 hin hm ⟨ds, zs, h4, hrow, h6⟩
  refine ⟨ρ, u, w', hA, hv, .inl ?_⟩
  cases hv with
  | sl hg hk =>
    rw [hg] at h3; cases h3
    unfold execOp
    simp [ho, hu, convert, run_underlying hT, run_underlying he, hrun]
  | slu hg hs =>
    rw [hg] at h3; cases h3
    unfold execOp
    simp [ho, hu, convert, run_underlying hT, run_underlying he, hrun]
/-! ## Copies -/
/-- the first n elements of a source -/
def srcN (P : Program) (H : Tr AO) (tx : TypeId) (k n : Nat) (x : Value) : Option (List Value) := match P.underlying tx, x with
  | some (.slice _), .slice (some ⟨i, off, none⟩) _ _ => match rowAt H i with
    | some (_, _, cs) => match Nat.ble (off + n * k) cs.length && oneL ((cs.drop off).take (n * k)) with
      | true => some ((cs.drop off).take (n * k))
      | false => none
    | none => none
  | some .string, .string ⟨⟨l⟩⟩ => match Nat.beq k 1 && Nat.ble n l.length with | true => some (bytesC (l.take n)) | false => none
  | _, _ => none
def lenV : Value → Option Nat
  | .slice _ n _ => some n
  | .string ⟨⟨l⟩⟩ => some l.length
  | _ => none
theorem lenV_run {x u : Value} {n : Nat} (h : lenV x = some n) (hu : VR ρ x u) (w : World) : (Builtin.lenOf u).run P w = .ok n w := by
  unfold lenV at h
  split at h
  · cases h
    cases hu <;> simp [Builtin.lenOf]
  · cases h
    have := vr_str hu
    subst this
    simp [Builtin.lenOf]
    rfl
  · cases h
theorem srcN_run {tx : TypeId} {k n : Nat} {x u : Value} {nw : List Value} (hR : Rep ρ H w) (h : srcN P H tx k n x = some nw) (hu : VR ρ x u) : ∃ news, (Builtin.firstCells k n u).run P w = .ok ⟨news⟩ w ∧ VRL ρ nw news ∧ (∀ v ∈ news, v.oneCell' = true) ∧ nw.length = n * k := by
  unfold srcN at h
  split at h
  · rename_i e i off m c hT
    split at h
    · rename_i t ex cs hr
      split at h
      · rename_i hb
        cases h
        simp only [Bool.and_eq_true] at hb
        have hle := Nat.le_of_ble_eq_true hb.1
        obtain ⟨g, cc, ds, zs, h3, h4, h5, _⟩ := hR.row hr
        have hl := h4.length
        have hv : VRL ρ ((cs.drop off).take (n * k)) ((ds.drop off).take (n * k)) := (h4.drop off).take _
        refine ⟨_, ?_, hv, oneL_vr hv hb.2, by simp; omega⟩
        cases hu with
        | sl hg hk => rw [hg] at h3; cases h3; exact firstCells_row (c := 0) h5 (by omega)
        | slu hg hs => rw [hg] at h3; cases h3; exact firstCells_row (c := 0) h5 (by omega)
      · cases h
    · cases h
  · rename_i l hT
    split at h
    · rename_i hb
      cases h
      simp only [Bool.and_eq_true] at hb
      have hk := Nat.eq_of_beq_eq_true hb.1
      have hn := Nat.le_of_ble_eq_true hb.2
      subst hk
      have := vr_str hu
      subst this
      refine ⟨bytesC (l.take n), ?_, nb.selfs (bytesC_nb _), ?_, by simp [bytesC]; omega⟩
      · simp only [Builtin.firstCells, Sem.run_pure]
        congr 1
        apply Array.ext'
        rw [Array.toList_map, Lib.extract_data]
        simp [bytesC]
      · intro v hv
        obtain ⟨b, _, rfl⟩ := List.mem_map.1 hv
        rfl
    · cases h
  · cases h
def evCopy (P : Program) (env : Env) (H : Tr AO) (nx : Nat) (ats : Array TypeId) (args : Array Operand) : Option (List Out) := match ats.toList, evL env args.toList with
  | [t, tx], some [.slice D d c, x] => match lenV x, P.underlying t with
    | some m, some (.slice e) => match Nat.min m d with
      | 0 => none
      | n + 1 => match szT P e with
        | some k => match srcN P H tx k (n + 1) x, D with
          | some nw, some ⟨i, off, none⟩ => match rowAt H i with
            | some (t', ex, cs) => match Nat.ble (off + (n + 1) * k) cs.length && inT i with
              | true => some [⟨.int .i64 ((n + 1 : Nat) : Int), put H i (some (.cells t' ex (ovr cs off nw))), nx, [i]⟩]
              | false => none
            | none => none
          | _, _ => none
        | none => none
    | _, _ => none
  | _, _ => none
theorem s_copy {args : Array Operand} {ats : Array TypeId} (ho : o.op = .call { callee := .builtin .copy, args := args, argTypes := ats }) (h : evCopy P env H nx ats args = some outs) : OpS P o env H nx outs := by
  unfold evCopy at h
  split at h
  case h_2 => cases h
  rename_i t tx D d c x hat hx
  have hat' : ats[0]? = some t := by cases ats; simp_all
  split at h
  case h_2 => cases h
  rename_i m e hl hT
  split at h
  · cases h
  rename_i n hmin
  split at h
  case h_2 => cases h
  rename_i k hk
  split at h
  case h_2 => cases h
  rename_i nw i off hs
  split at h
  case h_2 => cases h
  rename_i t' ex cs hr
  split at h
  case h_2 => cases h
  rename_i hb
  cases h
  simp only [Bool.and_eq_true] at hb
  obtain ⟨b1, b2⟩ := hb
  have b1 := Nat.le_of_ble_eq_true b1
  refine ops_one (fun c hc => by rw [ho] at hc; cases hc) (Nat.le_refl _) (.put b2 _ _ _) fun n' ρ a w hF hR _ => ?_
  obtain ⟨u, u2, hu, h1, h2⟩ := (hF.evL hx).two_
  obtain ⟨news, q1, q2, q3, q4⟩ := srcN_run hR hs h2
  have hlen := lenV_run (P := P) hl h2 w
  obtain ⟨g, cc, ds, zs, h3, h4, h5, h6⟩ := hR.row hr
  have hdl := h4.length
  have hnl := q2.length
  obtain ⟨w', hrun, hrow, hm⟩ := run_storeF (P := P) g t' off news 0 (ds ++ zs) w h5 (by rw [List.length_append, hnl, q4]; omega) q3
  have hg : ρ i = some (g, cc) := h3
  have hAft : Aft ρ H w nx ρ (put H i (some (.cells t' ex (ovr cs off nw)))) w' nx := Aft.turn hR (rowAt_get hr) hg b2 hm ⟨ovr ds off news, zs, ovr_vr q2 off h4, by
    rw [← ovr_app _ _ _ _ (by omega)]; exact hrow, by rw [ovr_len]; exact h6⟩
  refine ⟨ρ, _, w', hAft, .int _ _, .inl (bi_val ho hu (fun _ => rfl) ?_)⟩
  have hrun' : (storeCells ⟨g, off, none⟩ news).run P w = .ok () w' := by simpa using hrun
  cases h1 with
  | sl hg' hk' => rw [hg'] at hg; cases hg; simp [Builtin.copy_, hat', run_underlying hT, hlen, szT_run hk, hmin, q1, hrun', goInt]
  | slu hg' hk' => rw [hg'] at hg; cases hg; simp [Builtin.copy_, hat', run_underlying hT, hlen, szT_run hk, hmin, q1, hrun', goInt]
/-! ## A text out of bytes that are frozen then -/
theorem Aft.spoil {ρ : Rn} {w w' : World} (hR : Rep ρ H w) {i g c : Nat} {o' : AO} (hi : H.get i = some o') (hg : ρ i = some (g, c)) (hin : inT i = true) (hm : Mod (One g) w w') : Aft ρ H w nx ρ (put H i none) w' nx := by
  have hold : ∀ j p, (put H i none).get j = some p → j ≠ i ∧ H.get j = some p := fun j p hj => by
    rw [get_put hin] at hj
    split at hj
    · cases hj
    · rename_i e; exact ⟨e, hj⟩
  refine ⟨.refl _ _ _, ⟨fun j p hj => ?_, fun j k p q b c1 c2 h1 h2 h3 h4 => hR.inj j k p q b c1 c2 (hold _ _ h1).2 (hold _ _ h2).2 h3 h4⟩, ⟨hm.os, hm.tape, hm.output, hm.size, fun b hb hn => hm.block b hb fun e => hn ⟨i, o', c, hi, by rw [e]; exact hg⟩, fun b hb hbl => ?_⟩⟩
  · obtain ⟨e, hj'⟩ := hold j p hj
    obtain ⟨b, c', h1, h2⟩ := hR.ok j p hj'
    refine ⟨b, c', h1, h2.same (hm.block b h2.lt fun e2 => e (hR.inj j i p o' g c' c hj' hi ?_ hg))⟩
    rw [h1, e2]
  · obtain ⟨j, p, c', h1, h2⟩ := hbl
    exact ⟨j, p, c', (hold j p h1).2, h2⟩
def evUStr (P : Program) (env : Env) (H : Tr AO) (nx : Nat) (ats : Array TypeId) (args : Array Operand) : Option (List Out) := match ats.toList, evL env args.toList with
  | [pt, _], some [.pointer (some ⟨i, 0, none⟩), .int .i64 (.ofNat n)] => match P.underlying pt, rowAt H i with
    | some (.pointer e), some (t, _, cs) => match Nat.beq t e && Nat.beq (P.cellsOf e) 1 && Nat.ble n cs.length && Nat.ble n 4611686018427387904 && Nat.blt 0 n && inT i, bytesOf (cs.take n) with
      | true, some l => some [⟨.string ⟨⟨l⟩⟩, put H i none, nx, [i]⟩]
      | _, _ => none
    | _, _ => none
  | _, _ => none
theorem s_ustr {args : Array Operand} {ats : Array TypeId} (ho : o.op = .call { callee := .builtin .unsafeString, args := args, argTypes := ats }) (h : evUStr P env H nx ats args = some outs) : OpS P o env H nx outs := by
  unfold evUStr at h
  split at h
  case h_2 => cases h
  rename_i pt it i n hat hx
  have hat' : ats = #[pt, it] := by cases ats; simp_all
  split at h
  case h_2 => cases h
  rename_i e t ex cs hp hr
  split at h
  case h_2 => cases h
  rename_i l hb hl
  cases h
  simp only [Bool.and_eq_true] at hb
  obtain ⟨⟨⟨⟨⟨b1, b2⟩, b3⟩, b4⟩, b5⟩, b6⟩ := hb
  have b1 := Nat.eq_of_beq_eq_true b1
  have b2 := Nat.eq_of_beq_eq_true b2
  have b3 := Nat.le_of_ble_eq_true b3
  have b4 := Nat.le_of_ble_eq_true b4
  have b5 : 0 < n := Nat.le_of_ble_eq_true b5
  subst b1
  refine ops_one (fun c hc => by rw [ho] at hc; cases hc) (Nat.le_refl _) (.put b6 _ _ _) fun n' ρ a w hF hR _ => ?_
  obtain ⟨u, u2, hu, h1, h2⟩ := (hF.evL hx).two_
  have h2 : u2 = .int .i64 (n : Int) := vr_int h2
  subst h2
  obtain ⟨g, c, ds, zs, h3, h4, h5, h6⟩ := hR.row hr
  have hdl := h4.length
  have hcs := bytesOf_at hl
  have hds : ds.take n = bytesC l := nb.eqs (bytesC_nb l) (by rw [← hcs]; exact h4.take n)
  have hln : l.length = n := by
    have : (bytesC l).length = n := by rw [← hds]; simp; omega
    simpa [bytesC] using this
  obtain ⟨fz, h7, _⟩ := h5
  have hcell : ∀ j x, l[j]? = some x → w.cell? ((⟨g, 0, none⟩ : Addr).add j) = some (.int .u8 x.toNat) := fun j x hj => by
    rw [addlit, Nat.zero_add]
    have e1 : (bytesC l)[j]? = some (.int .u8 (x.toNat : Int)) := by simp [bytesC, hj]
    rw [← hds, List.getElem?_take] at e1
    split at e1
    · have : (ds ++ zs)[j]? = some (.int .u8 (x.toNat : Int)) := by rw [List.getElem?_append_left (List.getElem?_eq_some_iff.1 e1).1]; exact e1
      simp [World.cell?, h7, this]
    · cases e1
  have hrun := Lib.run_unsafeString_row (P := P) (w := w) pt it o.type t hp b2 g (ds ++ zs).length (by simp [World.shape?, h7]) l (by intro e; rw [e] at hln; simp at hln; omega) (by rw [List.length_append, hln]; omega) (by omega) hcell
  rw [hln] at hrun
  have hm : Mod (One g) w (w.freeze ⟨g, 0, none⟩ n) := by
    unfold World.freeze
    rw [if_neg (by omega)]
    exact ⟨rfl, rfl, rfl, by simp, fun b hb hn => by
      simp only [Array.getElem?_modify]
      rw [if_neg (fun e => hn e.symm)]⟩
  cases h1 with
  | ptr hg =>
    rw [hg] at h3; cases h3
    subst hat'
    exact ⟨ρ, _, _, Aft.spoil hR (rowAt_get hr) hg b6 hm, .str _, .inl (bi_val ho hu (fun _ => rfl) hrun)⟩
/-! ## Tables of the program's own -/
theorem rdV_runC {T : TypeId} {cs ds : List Value} {off : Nat} {v : Value} (h : rdV P T cs off = some v) (hv : VRL ρ cs ds) {g : Nat} (hR : ∀ i, w.cell? ⟨g, i, none⟩ = ds[i]?) : ∃ u, VR ρ v u ∧ (loadVar T ⟨g, off, none⟩).run P w = .ok u w := by
  unfold rdV at h
  split at h
  · rename_i k hk
    split at h
    · rename_i hb
      cases h
      have hle := Nat.le_of_ble_eq_true hb
      have hl := hv.length
      have hA := aggk_some hk
      refine ⟨_, .agg ((hv.drop off).take k), ?_⟩
      have h1 := run_loadCells_list (P := P) w ⟨g, off, none⟩ ((ds.drop off).take k) (fun j v hv => by
        rw [Addr.add_lit, hR]
        rw [List.getElem?_take] at hv
        split at hv
        · rwa [List.getElem?_drop] at hv
        · cases hv)
      have hl2 : ((ds.drop off).take k).length = k := by simp; omega
      rw [hl2] at h1
      simp [loadVar, Sem.run_bind, hA.1, hA.2, h1]
    · cases h
  · rename_i hk
    have hO := aggk_none hk
    obtain ⟨u, h1, h2⟩ := hv.get off v h
    have hc : w.cell? ⟨g, off, none⟩ = some u := by rw [hR]; exact h1
    refine ⟨u, h2, ?_⟩
    simp [loadVar, Sem.run_bind, hO.1, run_load, hc]
  · cases h
def evLoadG (P : Program) (env : Env) (H : Tr AO) (T : TypeId) (x : Operand) : Option Value := match evO env x with
  | some (.pointer (some ⟨g, off, some 1⟩)) => match H.get g with
    | some (.glob b cs _) => match Nat.beq b g with | true => rdV P T cs off | false => none
    | _ => none
  | _ => none
theorem s_loadG {T : TypeId} {x : Operand} (ho : o.op = .load T x) (h : one (evLoadG P env H T x) H nx = some outs) : OpS P o env H nx outs := by
  obtain ⟨v, h1, rfl⟩ := one_eq h
  refine ops_val (fun c hc => by rw [ho] at hc; cases hc) fun n ρ a w hF hR => ?_
  unfold evLoadG at h1
  split at h1
  case h_2 => cases h1
  rename_i g off hx
  split at h1
  case h_2 => cases h1
  rename_i b cs ob hr
  split at h1
  case h_2 => cases h1
  rename_i hb
  have hb := Nat.eq_of_beq_eq_true hb
  subst hb
  have h2 := hF.ev hx
  generalize hce : a.eval x = y at h2
  cases h2
  obtain ⟨g', c', h3, h4, t, ds, fz, h5, hob, h6⟩ := hR.ok _ _ hr
  subst h4
  subst hob
  obtain ⟨u, h7, h8⟩ := rdV_runC (P := P) (w := w) (g := g') h1 h5 (fun i => by simp [World.cell?, h6])
  refine ⟨u, h7, ?_⟩
  unfold execOp
  simp only [ho, hce, Instr.loadAt, Instr.sureAddr, Sem.run_bind, Sem.run_pure, Result.andThen_ok, h8]
def evIdxG (P : Program) (env : Env) (T : TypeId) (x y : Operand) : Option Value := match P.underlying T, evO env x, evO env y with
  | some (.array n e), some (.pointer (some ⟨i, off, some 1⟩)), some (.int _ (.ofNat j)) => match Nat.blt j n, szT P e with
    | true, some sz => some (.pointer (some ⟨i, off + j * sz, some 1⟩))
    | _, _ => none
  | _, _, _ => none
theorem s_idxG {T : TypeId} {x y : Operand} (ho : o.op = .indexAddr T x y) (h : one (evIdxG P env T x y) H nx = some outs) : OpS P o env H nx outs := by
  obtain ⟨v, h1, rfl⟩ := one_eq h
  refine ops_val (fun c hc => by rw [ho] at hc; cases hc) fun n ρ a w hF hR => ?_
  unfold evIdxG at h1
  split at h1
  case h_2 => cases h1
  rename_i m e i off k j hT hx hy
  split at h1
  case h_2 => cases h1
  rename_i sz hj hs
  cases h1
  have hj : j < m := Nat.le_of_ble_eq_true hj
  have h3 : a.eval y = .int k (j : Int) := vr_int (hF.ev hy)
  have h2 := hF.ev hx
  generalize hu : a.eval x = u at h2
  have hj' : (0 : Int) ≤ (j : Int) ∧ (j : Int) < (m : Int) := by omega
  cases h2
  refine ⟨_, .glob _ _, ?_⟩
  unfold execOp
  simp [ho, hu, h3, Instr.indexAt, asIntOf, run_underlying hT, hj', hj, szT_run hs, addlit, Instr.sureAddr]
/-! ## Interfaces, compared with nil -/
def evEqIf (P : Program) (env : Env) (op : BinOp) (T : TypeId) (x y : Operand) : Option Value := match P.underlying T, evO env x, evO env y with
  | some (.interface _), some (.iface _ _), some .nilIface => match op with
    | .eql => some (.bool false)
    | .neq => some (.bool true)
    | _ => none
  | _, _, _ => none
theorem s_eqif {op : BinOp} {T T' : TypeId} {x y : Operand} (ho : o.op = .binOp op T x y T') (h : one (evEqIf P env op T x y) H nx = some outs) : OpS P o env H nx outs := by
  obtain ⟨v, h1, rfl⟩ := one_eq h
  refine ops_val (fun c hc => by rw [ho] at hc; cases hc) fun n ρ a w hF hR => ?_
  unfold evEqIf at h1
  split at h1
  case h_2 => cases h1
  rename_i ms t v0 hT hx hy
  have h2 := hF.ev hx
  have h3 := hF.ev hy
  generalize hu : a.eval x = u at h2
  generalize hu' : a.eval y = u' at h3
  cases h2
  cases h3
  rename_i u0 _
  have key : (Op.equal T (.iface t u0) .nilIface).run P w = .ok false w := by
    show (Op.equalIn (9999 + 1) T _ _).run P w = _
    unfold Op.equalIn
    simp [run_underlying hT]
  split at h1
  · cases h1
    refine ⟨_, .bool false, ?_⟩
    unfold execOp
    simp only [ho, hu, hu', Sem.run_bind, show (eqGuard .eql T x y (.iface t u0) .nilIface).run P w = .ok () w from rfl, Result.andThen_ok]
    have : (binOp .eql T (.iface t u0) .nilIface).run P w = .ok (.bool false) w := by simp only [binOp]; rw [Sem.run_bind, key]; rfl
    rw [this]
    rfl
  · cases h1
    refine ⟨_, .bool true, ?_⟩
    unfold execOp
    simp only [ho, hu, hu', Sem.run_bind, show (eqGuard .neq T x y (.iface t u0) .nilIface).run P w = .ok () w from rfl, Result.andThen_ok]
    have : (binOp .neq T (.iface t u0) .nilIface).run P w = .ok (.bool true) w := by simp only [binOp]; rw [Sem.run_bind, key]; rfl
    rw [this]
    rfl
  · cases h1
/-! ## A part of a slice beyond its length, as far as the row is known -/
def evSliceM (env : Env) (i off n c sz M : Nat) (lo hi : Option Operand) : Option Value := match Nat.ble n M with
  | true => match bnds env n M lo hi none with
    | some (l, h, _) => match Nat.blt l M with
      | true => some (.slice (some ⟨i, off + l * sz, none⟩) (h - l) (c + l))
      | false => none
    | none => none
  | false => none
def evSliceK (P : Program) (env : Env) (H : Tr AO) (T : TypeId) (x : Operand) (lo hi mx : Option Operand) : Option Value := match P.underlying T, evO env x, mx with
  | some (.slice e), some (.slice (some ⟨i, off, none⟩) n c), none => match szT P e, Nat.blt c BIG, H.get i with
    | some sz, false, some (.cells _ (some k) cs) => match Nat.beq k sz && Nat.blt 0 sz with
      | true => evSliceM env i off n c sz (cs.length / sz - (c - BIG)) lo hi
      | false => none
    | _, _, _ => none
  | _, _, _ => none
theorem s_sliceK {T : TypeId} {x : Operand} {lo hi mx : Option Operand} (ho : o.op = .slice T x lo hi mx) (h : one (evSliceK P env H T x lo hi mx) H nx = some outs) : OpS P o env H nx outs := by
  obtain ⟨v, h1, rfl⟩ := one_eq h
  refine ops_val (fun c hc => by rw [ho] at hc; cases hc) fun n' ρ a w hF hR => ?_
  unfold evSliceK at h1
  split at h1
  case h_2 => cases h1
  rename_i e i off n c hT hx
  split at h1
  case h_2 => cases h1
  rename_i sz t k cs hs hlt hi0
  split at h1
  case h_2 => cases h1
  rename_i hb0
  simp only [Bool.and_eq_true] at hb0
  obtain ⟨b1, b2⟩ := hb0
  have b1 := Nat.eq_of_beq_eq_true b1
  have b2 : 0 < sz := Nat.le_of_ble_eq_true b2
  subst b1
  have hge : ¬ c < BIG := fun h => by rw [show Nat.blt c BIG = true from Nat.ble_eq_true_of_le h] at hlt; cases hlt
  have hv := hF.ev hx
  generalize hu : a.eval x = u at hv
  cases hv with
  | sl hg hk => exact absurd hk hge
  | @slu _ g cc _ _ s hg hs' =>
    rw [Nat.add_sub_cancel_left] at h1
    clear hge hlt
    obtain ⟨g', c', h3, ds, zs, h4, h5, h6⟩ := hR.ok _ _ hi0
    rw [hg] at h3; cases h3
    have h6 : cs.length + zs.length = cc * k := h6
    have hdiv : cs.length / k ≤ cc := by
      refine Nat.div_le_of_le_mul ?_
      rw [Nat.mul_comm]; omega
    obtain ⟨M, hM⟩ : ∃ M, M = cs.length / k - s := ⟨_, rfl⟩
    rw [← hM] at h1
    unfold evSliceM at h1
    split at h1
    case h_2 => cases h1
    rename_i b3
    have b3 := Nat.le_of_ble_eq_true b3
    split at h1
    case h_2 => cases h1
    rename_i l h' m hb
    split at h1
    case h_2 => cases h1
    rename_i hl
    have hl : l < M := Nat.le_of_ble_eq_true hl
    cases h1
    obtain ⟨q1, q2, q3⟩ := bnds_at hb
    have hh : h' ≤ M ∧ bndH env hi none n (cc - s) = some h' := by
      have q1' : M = m := by unfold bnd at q1; exact Option.some.inj q1
      cases hi with
      | none => cases q2; exact ⟨b3, rfl⟩
      | some y =>
        have q2 : bnd env (some y) n m = some h' := q2
        exact ⟨by have := (bnd_run hF q2).1; omega, bnd_mono q2 (by omega)⟩
    have hlh : l ≤ h' := by
      cases lo with
      | none => cases q3; exact Nat.zero_le _
      | some y => exact (bnd_run hF q3).1
    have hbs := bnds_run (P := P) hF (bnds_of (len := n) (mx := none) (show bnd env none (cc - s) (cc - s) = some (cc - s) from rfl) hh.2 q3) w true
    have hrun := run_slice_in (P := P) hT hs (A := some ⟨g, off, none⟩) w hbs.1
    rw [if_neg (by omega)] at hrun
    refine ⟨.slice (some ⟨g, off + l * k, none⟩) (h' - l) (cc - (s + l)), ?_, ?_⟩
    · rw [Nat.add_assoc]
      exact .slu hg (by omega)
    · unfold execOp
      simp only [ho, hu]
      rw [Sem.run_bind, hrun]
      simp only [Result.andThen_ok, Option.map_some, addlit, Sem.run_pure]
      rw [show cc - s - l = cc - (s + l) by omega]
/-! ## A slice's elements made zero -/
theorem rep_zero (z : Array Value) (n : Nat) : (Builtin.zeroCells z n).toList = rep n z.toList := by
  rw [← rep_made]
  simp [madeCells, Builtin.zeroCells]
def evClearS (P : Program) (env : Env) (H : Tr AO) (nx : Nat) (ats : Array TypeId) (args : Array Operand) : Option (List Out) := match ats.toList, evL env args.toList with
  | T :: _, some [.slice A (.succ n) _] => match P.underlying T, A with
    | some (.slice e), some ⟨i, off, none⟩ => match zeroT P e, rowAt H i with
      | some zs, some (t', ex, cs) => match Nat.ble (off + (n + 1) * zs.length) cs.length && inT i && oneL (rep (n + 1) zs) with
        | true => some [⟨undef, put H i (some (.cells t' ex (ovr cs off (rep (n + 1) zs)))), nx, [i]⟩]
        | false => none
      | _, _ => none
    | _, _ => none
  | T :: _, some [.slice _ 0 _] => match P.underlying T with
    | some (.slice _) => some [⟨undef, H, nx, []⟩]
    | _ => none
  | _, _ => none
theorem s_clearS {args : Array Operand} {ats : Array TypeId} (ho : o.op = .call { callee := .builtin .clear, args := args, argTypes := ats }) (h : evClearS P env H nx ats args = some outs) : OpS P o env H nx outs := by
  unfold evClearS at h
  split at h
  · rename_i T tr A n c hat hx
    have hat' : ats[0]? = some T := by cases ats; simp_all
    split at h
    case h_2 => cases h
    rename_i e i off hT
    split at h
    case h_2 => cases h
    rename_i zs t' ex cs hz hr
    split at h
    case h_2 => cases h
    rename_i hb
    cases h
    simp only [Bool.and_eq_true] at hb
    obtain ⟨⟨b1, b2⟩, b3⟩ := hb
    have b1 := Nat.le_of_ble_eq_true b1
    obtain ⟨z1, z, z2, z3⟩ := zeroT_at hz
    refine ops_one (fun c hc => by rw [ho] at hc; cases hc) (Nat.le_refl _) (.put b2 _ _ _) fun n' ρ a w hF hR _ => ?_
    obtain ⟨u, hu, h1⟩ := (hF.evL hx).one_
    obtain ⟨g, cc, ds, ys, h3, h4, h5, h6⟩ := hR.row hr
    have hdl := h4.length
    have hrl := rep_len zs (n + 1)
    have hnb : VRL ρ (rep (n + 1) zs) (rep (n + 1) zs) := nb.selfs (rep_nb z1 (n + 1))
    obtain ⟨w', hrun, hrow, hm⟩ := run_storeF (P := P) g t' off (rep (n + 1) zs) 0 (ds ++ ys) w h5 (by rw [List.length_append]; omega) (oneL_vr hnb b3)
    have hAft : Aft ρ H w nx ρ (put H i (some (.cells t' ex (ovr cs off (rep (n + 1) zs))))) w' nx := Aft.turn hR (rowAt_get hr) h3 b2 hm ⟨ovr ds off (rep (n + 1) zs), ys, ovr_vr hnb off h4, by
      rw [← ovr_app _ _ _ _ (by omega)]; exact hrow, by rw [ovr_len]; exact h6⟩
    refine ⟨ρ, undef, w', hAft, .undef, .inl (bi_val ho hu (fun _ => rfl) ?_)⟩
    have hrun' : (storeCells ⟨g, off, none⟩ (Builtin.zeroCells z.cells (n + 1)).toList).run P w = .ok () w' := by rw [rep_zero, z3]; simpa using hrun
    have hzv : (zeroValue e).run P w = .ok z w := by
      cases hi : P.info? e with
      | none => simp [hi] at z2
      | some inf =>
        have z2' : inf.zero = some z := by simpa [hi] using z2
        simp [zeroValue, typeInfo, hi, z2']
    cases h1 with
    | sl hg hk => rw [hg] at h3; cases h3; simp [Builtin.clear_, hat', run_underlying hT, hzv, hrun', undef]
    | slu hg hs => rw [hg] at h3; cases h3; simp [Builtin.clear_, hat', run_underlying hT, hzv, hrun', undef]
  · rename_i T tr A c hat hx
    have hat' : ats[0]? = some T := by cases ats; simp_all
    split at h
    case h_2 => cases h
    rename_i e hT
    cases h
    refine ops_val (fun c hc => by rw [ho] at hc; cases hc) fun n' ρ a w hF hR => ?_
    obtain ⟨u, hu, h1⟩ := (hF.evL hx).one_
    refine ⟨undef, .undef, bi_val ho hu (fun _ => rfl) ?_⟩
    cases h1 <;> simp [Builtin.clear_, hat', run_underlying hT, undef]
  · cases h
end ops
/-! ## All of these -/
def stdEv (P : Program) (env : Env) (H : Tr AO) (nx : Nat) (o : Oper) : Option (List Out) := match o.op with
  | .makeMap T x => evMakeMap P env H nx T x
  | .binOp op T x y _ => one (evEqIf P env op T x y) H nx
  | .load T x => one (evLoadG P env H T x) H nx
  | .indexAddr T x y => one (evIdxG P env T x y) H nx
  | .lookup T x y ok => one (evLookup P env H T x y ok) H nx
  | .mapUpdate T x y z => evMapUp P env H nx T x y z
  | .mapEntry T x y => evEntryOf P env H nx T x y
  | .entryStore _ x y z => evEntryStore env H nx x y z
  | .range T x => evRng P env H nx T x
  | .next x false => evNextM env H nx x
  | .entry x => one (evEntM env H x) H nx
  | .makeSlice T x y => evMake P env H nx T x y
  | .buildSlice T n ps => evBuildS P env H nx T n ps
  | .convert T T' x => alt (one (evB2S P env H T T' x) H nx) (alt (evS2B P env H nx T T' x) (evMark P env H nx T T' x))
  | .call { callee := .builtin .delete, args, argTypes } => evDelete P env H nx argTypes args
  | .call { callee := .builtin .clear, args, argTypes } => alt (evClearM P env H nx argTypes args) (evClearS P env H nx argTypes args)
  | .slice T x lo hi mx => one (evSliceK P env H T x lo hi mx) H nx
  | .call { callee := .builtin .copy, args, argTypes } => evCopy P env H nx argTypes args
  | .call { callee := .builtin .unsafeString, args, argTypes } => evUStr P env H nx argTypes args
  | _ => none
theorem stdEv_ok (P : Program) (o : Oper) (env : Env) (H : Tr AO) (nx : Nat) (outs : List Out) (h : stdEv P env H nx o = some outs) : OpS P o env H nx outs := by
  unfold stdEv at h
  split at h
  · rename_i ho; exact s_makeMap ho h
  · rename_i ho; exact s_eqif ho h
  · rename_i ho; exact s_loadG ho h
  · rename_i ho; exact s_idxG ho h
  · rename_i ho; exact s_lookup ho h
  · rename_i ho; exact s_mapUp ho h
  · rename_i ho; exact s_entryOf ho h
  · rename_i ho; exact s_entryStore ho h
  · rename_i ho; exact s_rng ho h
  · rename_i ho; exact s_nextM ho h
  · rename_i ho; exact s_entM ho h
  · rename_i ho; exact s_make ho h
  · rename_i ho; exact s_buildS ho h
  · rename_i ho
    rcases alt_eq h with h | h
    · exact s_b2s ho h
    rcases alt_eq h with h | h
    · exact s_s2b ho h
    · exact s_mark ho h
  · rename_i ho; exact s_delete ho h
  · rename_i ho
    rcases alt_eq h with h | h
    · exact s_clearM ho h
    · exact s_clearS ho h
  · rename_i ho; exact s_sliceK ho h
  · rename_i ho; exact s_copy ho h
  · rename_i ho; exact s_ustr ho h
  · cases h
def stdX (P : Program) : Els P := { ev := stdEv P, ok := stdEv_ok P, mem := fun _ _ _ _ => none, mok := fun _ _ _ _ _ h => by cases h }
end
end Go.Proofs.YtljpjfefjidakaaGreat.Run

namespace Go.Proofs.YtljpjfefjidakaaGreat.Run
noncomputable section
open Go.RowKit
abbrev Tabs := List (Nat × List Value × Obj)
def tabH : Tabs → Tr AO
  | [] => .tE
  | (g, cs, ob) :: r => put (tabH r) g (some (.glob g cs ob))
def holdsT (P : Program) (X : Els P) (lf d : Nat) (F : FuncId) (tabs : Tabs) (nx : Nat) : Bool := match tabs.all fun e => Nat.blt e.1 nx && inT e.1 with
  | true => match callN P X lf d (.func (.func F) ⟨[]⟩ ⟨[]⟩) [] (tabH tabs) nx with
    | some outs => outs.all fun x => match x.v, x.wr with | .bool true, [] => true | _, _ => false
    | none => false
  | false => false
def rn0 (nx : Nat) : Rn := fun i => if i < nx then some (i, 0) else none
theorem tabH_get : ∀ {tabs : Tabs} {i : Nat} {o : AO}, (∀ e ∈ tabs, inT e.1 = true) → (tabH tabs).get i = some o → ∃ cs ob, (i, cs, ob) ∈ tabs ∧ o = .glob i cs ob
  | [], i, o, _, h => by simp [tabH, Tr.get_e] at h
  | (g, cs, ob) :: r, i, o, hin, h => by
    unfold tabH at h
    rw [get_put (hin (g, cs, ob) (by simp))] at h
    split at h
    · rename_i e
      cases h
      exact ⟨cs, ob, by simp [e], by rw [e]⟩
    · obtain ⟨cs', ob', h1, h2⟩ := tabH_get (fun e he => hin e (by simp [he])) h
      exact ⟨cs', ob', by simp [h1], h2⟩
theorem holdsT_run {P : Program} {X : Els P} {lf : Nat} (hmix : P.follows .mixedOrders = true) (hname : NoOwn P) {d : Nat} {F : FuncId} {tabs : Tabs} {nx : Nat} (h : holdsT P X lf d F tabs nx = true) (w : World)
    (hw : ∀ e ∈ tabs, ∃ t ds fz, (∀ ρ, VRL ρ e.2.1 ds) ∧ e.2.2 = .cells ⟨ds⟩ t fz ∧ w.heap[e.1]? = some e.2.2) : Calls P F #[] w fun e w' => e = .returned (.bool true) ∧ Below w.heap.size w w' := by
  unfold holdsT at h
  split at h
  case h_2 => cases h
  rename_i hall
  split at h
  case h_2 => cases h
  rename_i outs ho
  have hin : ∀ e ∈ tabs, inT e.1 = true := fun e he => by
    have := List.all_eq_true.1 hall e he
    simp only [Bool.and_eq_true] at this
    exact this.2
  have hlt : ∀ e ∈ tabs, e.1 < nx := fun e he => by
    have := List.all_eq_true.1 hall e he
    simp only [Bool.and_eq_true] at this
    exact Nat.le_of_ble_eq_true this.1
  have hrep : Rep (rn0 nx) (tabH tabs) w := by
    refine ⟨fun i o hi => ?_, fun i j o o' g c c' _ _ h1 h2 => ?_⟩
    · obtain ⟨cs, ob, h1, rfl⟩ := tabH_get hin hi
      have := hlt _ h1
      have hr : rn0 nx i = some (i, 0) := by unfold rn0; rw [if_pos this]
      obtain ⟨t, ds, fz, h2, h3⟩ := hw _ h1
      exact ⟨i, 0, hr, rfl, t, ds, fz, h2 _, h3⟩
    · unfold rn0 at h1 h2
      split at h1
      · split at h2
        · cases h1; cases h2; rfl
        · cases h2
      · cases h1
  obtain ⟨⟨_, hgd⟩, h2⟩ := callN_s hmix hname d _ _ _ _ _ ho
  have := h2 (rn0 nx) w (outs.foldl (fun m x => max m x.nx) 0) (.func (.func F) ⟨[]⟩ ⟨[]⟩) [] (.func F .nil .nil) .nil hrep (fun x hx => by
    have key : ∀ (l : List Out) (m : Nat), m ≤ l.foldl (fun m x => max m x.nx) m ∧ ∀ x ∈ l, x.nx ≤ l.foldl (fun m x => max m x.nx) m := by
      intro l
      induction l with
      | nil => intro m; exact ⟨Nat.le_refl _, fun x hx => by simp at hx⟩
      | cons y r ih =>
        intro m
        obtain ⟨i1, i2⟩ := ih (max m y.nx)
        rw [List.foldl_cons]
        refine ⟨by omega, fun x hx => ?_⟩
        rcases List.mem_cons.1 hx with rfl | hx
        · omega
        · exact i2 x hx
    exact (key outs 0).2 x hx) (fun i hi _ => by unfold rn0; rw [if_neg (by omega)]) (fun u w' => u = .bool true ∧ Below w.heap.size w w') fun x hx ρ' w' u hA hv => by
      have := List.all_eq_true.1 h x hx
      generalize hxv : x.v = xv at this hv
      generalize hxw : x.wr = xw at this
      split at this
      case h_2 => cases this
      cases hv
      refine ⟨rfl, ⟨hA.stp.os, hA.stp.tape, hA.stp.output, hA.stp.size, fun k hk => ?_⟩⟩
      by_cases hb : Blk (rn0 nx) (tabH tabs) k
      · obtain ⟨i, o, c, h3, h4⟩ := hb
        obtain ⟨cs, ob, h5, rfl⟩ := tabH_get hin h3
        have hi := hlt _ h5
        have hik : i = k := by
          unfold rn0 at h4
          rw [if_pos hi] at h4
          cases h4; rfl
        subst hik
        have h6 : x.H.get i = some (.glob i cs ob) := by
          rw [(hgd x hx).2 i (by rw [hxw]; simp) (.inl hi)]; exact h3
        obtain ⟨g', c', h7, h8, t, ds, fz, _, _, h9⟩ := hA.rep.ok _ _ h6
        subst h8
        obtain ⟨_, _, _, _, _, h10⟩ := hw _ h5
        rw [h9]; exact h10.symm
      · exact hA.stp.block k hk hb
  rcases this with ⟨F', p, q, he, hE, hc⟩ | ⟨L, r, he, _⟩
  · simp only [Value.func.injEq, Fn.func.injEq, Array.mk.injEq] at he
    obtain ⟨rfl, rfl, rfl⟩ := he
    exact hc.mono fun e w' ⟨u, h1, h2, h3⟩ => ⟨by rw [h1, h2], h3⟩
  · simp at he
/-! ## A closed call that is told already -/
end
end Go.Proofs.YtljpjfefjidakaaGreat.Run
