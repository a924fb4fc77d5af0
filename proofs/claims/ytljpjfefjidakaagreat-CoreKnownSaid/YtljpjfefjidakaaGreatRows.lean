/-
  No cell of these rows narrows 'for every input' (looked for: loops, veiled, ifaces, maps, wideKeys, modest, calm, conditions, laid).
  DERIVED. THE GIVEN ROWS OF THIS SEAT. 7 by the template 'for every input the law returns true; each argument reads behind the call as it read before'; 0 by the template 'total and deterministic' (their statements: YtljpjfefjidakaaGreatTotals.lean).
  GIVEN WITH THE SEED: the statements are not yours to turn. If you find one false, say at which input.
  Laid BY PROGRAM, IN A SANDBOX (cutbox-rows.mjs): the forced cells as the released guide's own fill.sh prints them over the translation cbda312a5d3b253f… (all of the seat's roots in one cut). By AI agents, Wed Nov 11 2026. No macro, syntax, notation, axiom, sorry.
-/
import Derived.Test.YtljpjfefjidakaaGreatChecked
import GoSem.Claim
import GoSem.ClaimJoined
import GoSem.ClaimMapViews
import Derived.JoinedTies
import Derived.KernelRfl
namespace Go.Proofs.YtljpjfefjidakaaGreat
/- THE CELL 'sum', in the pinned program and in every row, IS THE sha256 OF THE DUMP (.gsa) THAT YtljpjfefjidakaaGreatProg.lean LOADS. Nothing in Lean hashes anything: it is a label: what it is worth is what the hold of that sum in a sandbox is worth. -/
noncomputable def Tryz.pinned : Pinned := { name := "ytljpjfefjidakaagreat", sum := "cbda312a5d3b253f6be3aea03a7a62e86273511ca97dbb3e75eff332d5654cdc", checked := Tryz.checked }
namespace Rows
def none {H : Type} : Left H := { results := [], args := [] }

/-- 'bursarlaw17.CoreKnown': WHATEVER THE INPUT: true; the input reads as it did. -/
def coreKnownSpec : ChangeSpec := { name := "coreKnown", fn := fun _ => fun
  | [] => { results := [.lit (.bool true)], args := [] }
  | _ => none }
def coreKnownRow : OpenClaim := { program := "ytljpjfefjidakaagreat", sum := "cbda312a5d3b253f6be3aea03a7a62e86273511ca97dbb3e75eff332d5654cdc", func := "bursar/bursarlaw17.CoreKnown", spec := "coreKnown", unfollowed := true, recurses := true, apart := false }
def CoreKnownSaid : Prop := coreKnownRow.holds Tryz.pinned (OpenSpec.ofChange coreKnownSpec)

/-- ITS FALSE NEIGHBOUR: 'it returns false'. Refute it at one input. -/
def coreKnownWrong : ChangeSpec := { name := "coreKnown", fn := fun _ => fun
  | [] => { results := [.lit (.bool false)], args := [] }
  | _ => none }
def CoreKnownWrongFalsely : Prop := coreKnownRow.holds Tryz.pinned (OpenSpec.ofChange coreKnownWrong)

/-- 'bursarlaw17.CoreNew': WHATEVER THE INPUT: true; the input reads as it did. -/
def coreNewSpec : ChangeSpec := { name := "coreNew", fn := fun _ => fun
  | [d1, d2, d3, d4, d5, d6, d7, d8] => { results := [.lit (.bool true)], args := [d1, d2, d3, d4, d5, d6, d7, d8] }
  | _ => none }
def coreNewRow : OpenClaim := { program := "ytljpjfefjidakaagreat", sum := "cbda312a5d3b253f6be3aea03a7a62e86273511ca97dbb3e75eff332d5654cdc", func := "bursar/bursarlaw17.CoreNew", spec := "coreNew", unfollowed := true, recurses := true, apart := false }
def CoreNewSaid : Prop := coreNewRow.holds Tryz.pinned (OpenSpec.ofChange coreNewSpec)

/-- ITS FALSE NEIGHBOUR: 'it returns false'. Refute it at one input. -/
def coreNewWrong : ChangeSpec := { name := "coreNew", fn := fun _ => fun
  | [d1, d2, d3, d4, d5, d6, d7, d8] => { results := [.lit (.bool false)], args := [d1, d2, d3, d4, d5, d6, d7, d8] }
  | _ => none }
def CoreNewWrongFalsely : Prop := coreNewRow.holds Tryz.pinned (OpenSpec.ofChange coreNewWrong)

/-- 'bursarlaw17.CorePlays': WHATEVER THE INPUT: true; the input reads as it did. -/
def corePlaysSpec : ChangeSpec := { name := "corePlays", fn := fun _ => fun
  | [d1, d2, d3, d4, d5] => { results := [.lit (.bool true)], args := [d1, d2, d3, d4, d5] }
  | _ => none }
def corePlaysRow : OpenClaim := { program := "ytljpjfefjidakaagreat", sum := "cbda312a5d3b253f6be3aea03a7a62e86273511ca97dbb3e75eff332d5654cdc", func := "bursar/bursarlaw17.CorePlays", spec := "corePlays", unfollowed := true, recurses := true, apart := false }
def CorePlaysSaid : Prop := corePlaysRow.holds Tryz.pinned (OpenSpec.ofChange corePlaysSpec)

/-- ITS FALSE NEIGHBOUR: 'it returns false'. Refute it at one input. -/
def corePlaysWrong : ChangeSpec := { name := "corePlays", fn := fun _ => fun
  | [d1, d2, d3, d4, d5] => { results := [.lit (.bool false)], args := [d1, d2, d3, d4, d5] }
  | _ => none }
def CorePlaysWrongFalsely : Prop := corePlaysRow.holds Tryz.pinned (OpenSpec.ofChange corePlaysWrong)

/-- 'bursarlaw17.CoreSafe': WHATEVER THE INPUT: true; the input reads as it did. -/
def coreSafeSpec : ChangeSpec := { name := "coreSafe", fn := fun _ => fun
  | [d1, d2] => { results := [.lit (.bool true)], args := [d1, d2] }
  | _ => none }
def coreSafeRow : OpenClaim := { program := "ytljpjfefjidakaagreat", sum := "cbda312a5d3b253f6be3aea03a7a62e86273511ca97dbb3e75eff332d5654cdc", func := "bursar/bursarlaw17.CoreSafe", spec := "coreSafe", unfollowed := true, recurses := true, apart := false }
def CoreSafeSaid : Prop := coreSafeRow.holds Tryz.pinned (OpenSpec.ofChange coreSafeSpec)

/-- ITS FALSE NEIGHBOUR: 'it returns false'. Refute it at one input. -/
def coreSafeWrong : ChangeSpec := { name := "coreSafe", fn := fun _ => fun
  | [d1, d2] => { results := [.lit (.bool false)], args := [d1, d2] }
  | _ => none }
def CoreSafeWrongFalsely : Prop := coreSafeRow.holds Tryz.pinned (OpenSpec.ofChange coreSafeWrong)

/-- 'bursarlaw17.CoreRises': WHATEVER THE INPUT: true; the input reads as it did. -/
def coreRisesSpec : ChangeSpec := { name := "coreRises", fn := fun _ => fun
  | [d1, d2, d3] => { results := [.lit (.bool true)], args := [d1, d2, d3] }
  | _ => none }
def coreRisesRow : OpenClaim := { program := "ytljpjfefjidakaagreat", sum := "cbda312a5d3b253f6be3aea03a7a62e86273511ca97dbb3e75eff332d5654cdc", func := "bursar/bursarlaw17.CoreRises", spec := "coreRises", unfollowed := true, recurses := true, apart := false }
def CoreRisesSaid : Prop := coreRisesRow.holds Tryz.pinned (OpenSpec.ofChange coreRisesSpec)

/-- ITS FALSE NEIGHBOUR: 'it returns false'. Refute it at one input. -/
def coreRisesWrong : ChangeSpec := { name := "coreRises", fn := fun _ => fun
  | [d1, d2, d3] => { results := [.lit (.bool false)], args := [d1, d2, d3] }
  | _ => none }
def CoreRisesWrongFalsely : Prop := coreRisesRow.holds Tryz.pinned (OpenSpec.ofChange coreRisesWrong)

/-- 'bursarlaw17.CoreStands': WHATEVER THE INPUT: true; the input reads as it did. -/
def coreStandsSpec : ChangeSpec := { name := "coreStands", fn := fun _ => fun
  | [d1, d2, d3, d4] => { results := [.lit (.bool true)], args := [d1, d2, d3, d4] }
  | _ => none }
def coreStandsRow : OpenClaim := { program := "ytljpjfefjidakaagreat", sum := "cbda312a5d3b253f6be3aea03a7a62e86273511ca97dbb3e75eff332d5654cdc", func := "bursar/bursarlaw17.CoreStands", spec := "coreStands", unfollowed := true, recurses := true, apart := false }
def CoreStandsSaid : Prop := coreStandsRow.holds Tryz.pinned (OpenSpec.ofChange coreStandsSpec)

/-- ITS FALSE NEIGHBOUR: 'it returns false'. Refute it at one input. -/
def coreStandsWrong : ChangeSpec := { name := "coreStands", fn := fun _ => fun
  | [d1, d2, d3, d4] => { results := [.lit (.bool false)], args := [d1, d2, d3, d4] }
  | _ => none }
def CoreStandsWrongFalsely : Prop := coreStandsRow.holds Tryz.pinned (OpenSpec.ofChange coreStandsWrong)

/-- 'bursarlaw17.CoreSticks': WHATEVER THE INPUT: true; the input reads as it did. -/
def coreSticksSpec : ChangeSpec := { name := "coreSticks", fn := fun _ => fun
  | [d1, d2, d3] => { results := [.lit (.bool true)], args := [d1, d2, d3] }
  | _ => none }
def coreSticksRow : OpenClaim := { program := "ytljpjfefjidakaagreat", sum := "cbda312a5d3b253f6be3aea03a7a62e86273511ca97dbb3e75eff332d5654cdc", func := "bursar/bursarlaw17.CoreSticks", spec := "coreSticks", unfollowed := true, recurses := true, apart := false }
def CoreSticksSaid : Prop := coreSticksRow.holds Tryz.pinned (OpenSpec.ofChange coreSticksSpec)

/-- ITS FALSE NEIGHBOUR: 'it returns false'. Refute it at one input. -/
def coreSticksWrong : ChangeSpec := { name := "coreSticks", fn := fun _ => fun
  | [d1, d2, d3] => { results := [.lit (.bool false)], args := [d1, d2, d3] }
  | _ => none }
def CoreSticksWrongFalsely : Prop := coreSticksRow.holds Tryz.pinned (OpenSpec.ofChange coreSticksWrong)

/- THE SECOND FORM. 'bulk': how many values and letters a reading holds, each counted each time it is reached (what is shared counts as often as it is met; a slice's spare places count too). A statement '..UptoSaid' is the law's where the arguments, and the package variables that the reading takes, are together of bulk at most 1048576: NARROWER than '..Said'. Prove '..Said' where nothing that the law and all that it calls make is longer than what came in: it says more and counts as full. Else prove '..UptoSaid'. A law counts once. -/
mutual
def uptoBulk {H : Type} : DataW H → Nat
  | .lit (.string bytes) => bytes.length + 1
  | .lit _ => 1
  | .nil => 1
  | .ptr d => uptoBulk d + 1
  | .slice elems spare => uptoBulkAll elems + uptoBulkAll spare + 1
  | .agg parts => uptoBulkAll parts + 1
  | .iface _ d => uptoBulk d + 1
  | .map entries => uptoBulkEntries entries + 1
  | .held _ => 1
def uptoBulkAll {H : Type} : List (DataW H) → Nat
  | [] => 0
  | d :: r => uptoBulk d + uptoBulkAll r
def uptoBulkEntries {H : Type} : List (Lit × DataW H) → Nat
  | [] => 0
  | x :: r => uptoBulkEntry x + uptoBulkEntries r
def uptoBulkEntry {H : Type} : Lit × DataW H → Nat
  | (.string bytes, d) => bytes.length + uptoBulk d + 1
  | (_, d) => uptoBulk d + 1
 end
def uptoSmall : (H : Type) → List (DataW H) → Bool := fun _ ds => decide (uptoBulkAll ds ≤ 1048576)
def OpenSpec.upto (s : _root_.Go.ChangeSpec) : _root_.Go.OpenSpec := { _root_.Go.OpenSpec.ofChange s with cond := some uptoSmall }

/-- 'bursarlaw17.CoreKnown', WHERE WHAT IT READS IS OF BULK AT MOST 1048576: true; the input reads as it did. -/
def coreKnownUptoRow : OpenClaim := { program := "ytljpjfefjidakaagreat", sum := "cbda312a5d3b253f6be3aea03a7a62e86273511ca97dbb3e75eff332d5654cdc", func := "bursar/bursarlaw17.CoreKnown", spec := "coreKnown", unfollowed := true, recurses := true, apart := false, narrowed := true }
def CoreKnownUptoSaid : Prop := coreKnownUptoRow.holds Tryz.pinned (OpenSpec.upto coreKnownSpec)

/-- 'bursarlaw17.CoreNew', WHERE WHAT IT READS IS OF BULK AT MOST 1048576: true; the input reads as it did. -/
def coreNewUptoRow : OpenClaim := { program := "ytljpjfefjidakaagreat", sum := "cbda312a5d3b253f6be3aea03a7a62e86273511ca97dbb3e75eff332d5654cdc", func := "bursar/bursarlaw17.CoreNew", spec := "coreNew", unfollowed := true, recurses := true, apart := false, narrowed := true }
def CoreNewUptoSaid : Prop := coreNewUptoRow.holds Tryz.pinned (OpenSpec.upto coreNewSpec)

/-- 'bursarlaw17.CorePlays', WHERE WHAT IT READS IS OF BULK AT MOST 1048576: true; the input reads as it did. -/
def corePlaysUptoRow : OpenClaim := { program := "ytljpjfefjidakaagreat", sum := "cbda312a5d3b253f6be3aea03a7a62e86273511ca97dbb3e75eff332d5654cdc", func := "bursar/bursarlaw17.CorePlays", spec := "corePlays", unfollowed := true, recurses := true, apart := false, narrowed := true }
def CorePlaysUptoSaid : Prop := corePlaysUptoRow.holds Tryz.pinned (OpenSpec.upto corePlaysSpec)

/-- 'bursarlaw17.CoreSafe', WHERE WHAT IT READS IS OF BULK AT MOST 1048576: true; the input reads as it did. -/
def coreSafeUptoRow : OpenClaim := { program := "ytljpjfefjidakaagreat", sum := "cbda312a5d3b253f6be3aea03a7a62e86273511ca97dbb3e75eff332d5654cdc", func := "bursar/bursarlaw17.CoreSafe", spec := "coreSafe", unfollowed := true, recurses := true, apart := false, narrowed := true }
def CoreSafeUptoSaid : Prop := coreSafeUptoRow.holds Tryz.pinned (OpenSpec.upto coreSafeSpec)

/-- 'bursarlaw17.CoreRises', WHERE WHAT IT READS IS OF BULK AT MOST 1048576: true; the input reads as it did. -/
def coreRisesUptoRow : OpenClaim := { program := "ytljpjfefjidakaagreat", sum := "cbda312a5d3b253f6be3aea03a7a62e86273511ca97dbb3e75eff332d5654cdc", func := "bursar/bursarlaw17.CoreRises", spec := "coreRises", unfollowed := true, recurses := true, apart := false, narrowed := true }
def CoreRisesUptoSaid : Prop := coreRisesUptoRow.holds Tryz.pinned (OpenSpec.upto coreRisesSpec)

/-- 'bursarlaw17.CoreStands', WHERE WHAT IT READS IS OF BULK AT MOST 1048576: true; the input reads as it did. -/
def coreStandsUptoRow : OpenClaim := { program := "ytljpjfefjidakaagreat", sum := "cbda312a5d3b253f6be3aea03a7a62e86273511ca97dbb3e75eff332d5654cdc", func := "bursar/bursarlaw17.CoreStands", spec := "coreStands", unfollowed := true, recurses := true, apart := false, narrowed := true }
def CoreStandsUptoSaid : Prop := coreStandsUptoRow.holds Tryz.pinned (OpenSpec.upto coreStandsSpec)

/-- 'bursarlaw17.CoreSticks', WHERE WHAT IT READS IS OF BULK AT MOST 1048576: true; the input reads as it did. -/
def coreSticksUptoRow : OpenClaim := { program := "ytljpjfefjidakaagreat", sum := "cbda312a5d3b253f6be3aea03a7a62e86273511ca97dbb3e75eff332d5654cdc", func := "bursar/bursarlaw17.CoreSticks", spec := "coreSticks", unfollowed := true, recurses := true, apart := false, narrowed := true }
def CoreSticksUptoSaid : Prop := coreSticksUptoRow.holds Tryz.pinned (OpenSpec.upto coreSticksSpec)

end Rows
end Go.Proofs.YtljpjfefjidakaaGreat
