/-
  No cell of these rows narrows 'for every input' (looked for: loops, veiled, ifaces, maps, wideKeys, modest, calm, conditions, laid).
  DERIVED. THE GIVEN ROWS OF THIS SEAT. 5 by the template 'for every input the law returns true; each argument reads behind the call as it read before'; 0 by the template 'total and deterministic' (their statements: YtlkknncndgamdaaTotals.lean).
  GIVEN WITH THE SEED: the statements are not yours to turn. If you find one false, say at which input.
  Laid BY PROGRAM, IN A SANDBOX (cutbox-rows.mjs): the forced cells as the released guide's own fill.sh prints them over the translation b8439514182340b9… (all of the seat's roots in one cut). By AI agents, Wed Nov 11 2026. No macro, syntax, notation, axiom, sorry.
-/
import Derived.Test.YtlkknncndgamdaaChecked
import GoSem.Claim
import GoSem.ClaimJoined
import GoSem.ClaimMapViews
import Derived.JoinedTies
import Derived.KernelRfl
namespace Go.Proofs.Ytlkknncndgamdaa
/- THE CELL 'sum', in the pinned program and in every row, IS THE sha256 OF THE DUMP (.gsa) THAT YtlkknncndgamdaaProg.lean LOADS. Nothing in Lean hashes anything: it is a label: what it is worth is what the hold of that sum in a sandbox is worth. -/
noncomputable def Try.pinned : Pinned := { name := "ytlkknncndgamdaa", sum := "b8439514182340b9557caa5edb1fdc908df0731768da719a0c20c1d2b6ed477c", checked := Try.checked }
namespace Rows
def none {H : Type} : Left H := { results := [], args := [] }

/-- 'bursarlaw5.CmdKnown': WHATEVER THE INPUT: true; the input reads as it did. -/
def cmdKnownSpec : ChangeSpec := { name := "cmdKnown", fn := fun _ => fun
  | [] => { results := [.lit (.bool true)], args := [] }
  | _ => none }
def cmdKnownRow : OpenClaim := { program := "ytlkknncndgamdaa", sum := "b8439514182340b9557caa5edb1fdc908df0731768da719a0c20c1d2b6ed477c", func := "bursar/bursarlaw5.CmdKnown", spec := "cmdKnown", apart := false }
def CmdKnownSaid : Prop := cmdKnownRow.holds Try.pinned (OpenSpec.ofChange cmdKnownSpec)

/-- ITS FALSE NEIGHBOUR: 'it returns false'. Refute it at one input. -/
def cmdKnownWrong : ChangeSpec := { name := "cmdKnown", fn := fun _ => fun
  | [] => { results := [.lit (.bool false)], args := [] }
  | _ => none }
def CmdKnownWrongFalsely : Prop := cmdKnownRow.holds Try.pinned (OpenSpec.ofChange cmdKnownWrong)

/-- 'bursarlaw5.CmdNames': WHATEVER THE INPUT: true; the input reads as it did. -/
def cmdNamesSpec : ChangeSpec := { name := "cmdNames", fn := fun _ => fun
  | [d] => { results := [.lit (.bool true)], args := [d] }
  | _ => none }
def cmdNamesRow : OpenClaim := { program := "ytlkknncndgamdaa", sum := "b8439514182340b9557caa5edb1fdc908df0731768da719a0c20c1d2b6ed477c", func := "bursar/bursarlaw5.CmdNames", spec := "cmdNames", apart := false }
def CmdNamesSaid : Prop := cmdNamesRow.holds Try.pinned (OpenSpec.ofChange cmdNamesSpec)

/-- ITS FALSE NEIGHBOUR: 'it returns false'. Refute it at one input. -/
def cmdNamesWrong : ChangeSpec := { name := "cmdNames", fn := fun _ => fun
  | [d] => { results := [.lit (.bool false)], args := [d] }
  | _ => none }
def CmdNamesWrongFalsely : Prop := cmdNamesRow.holds Try.pinned (OpenSpec.ofChange cmdNamesWrong)

/-- 'bursarlaw5.CmdDecodes': WHATEVER THE INPUT: true; the input reads as it did. -/
def cmdDecodesSpec : ChangeSpec := { name := "cmdDecodes", fn := fun _ => fun
  | [d] => { results := [.lit (.bool true)], args := [d] }
  | _ => none }
def cmdDecodesRow : OpenClaim := { program := "ytlkknncndgamdaa", sum := "b8439514182340b9557caa5edb1fdc908df0731768da719a0c20c1d2b6ed477c", func := "bursar/bursarlaw5.CmdDecodes", spec := "cmdDecodes", apart := false }
def CmdDecodesSaid : Prop := cmdDecodesRow.holds Try.pinned (OpenSpec.ofChange cmdDecodesSpec)

/-- ITS FALSE NEIGHBOUR: 'it returns false'. Refute it at one input. -/
def cmdDecodesWrong : ChangeSpec := { name := "cmdDecodes", fn := fun _ => fun
  | [d] => { results := [.lit (.bool false)], args := [d] }
  | _ => none }
def CmdDecodesWrongFalsely : Prop := cmdDecodesRow.holds Try.pinned (OpenSpec.ofChange cmdDecodesWrong)

/-- 'bursarlaw5.CmdOnly': WHATEVER THE INPUT: true; the input reads as it did. -/
def cmdOnlySpec : ChangeSpec := { name := "cmdOnly", fn := fun _ => fun
  | [d1, d2] => { results := [.lit (.bool true)], args := [d1, d2] }
  | _ => none }
def cmdOnlyRow : OpenClaim := { program := "ytlkknncndgamdaa", sum := "b8439514182340b9557caa5edb1fdc908df0731768da719a0c20c1d2b6ed477c", func := "bursar/bursarlaw5.CmdOnly", spec := "cmdOnly", apart := false }
def CmdOnlySaid : Prop := cmdOnlyRow.holds Try.pinned (OpenSpec.ofChange cmdOnlySpec)

/-- ITS FALSE NEIGHBOUR: 'it returns false'. Refute it at one input. -/
def cmdOnlyWrong : ChangeSpec := { name := "cmdOnly", fn := fun _ => fun
  | [d1, d2] => { results := [.lit (.bool false)], args := [d1, d2] }
  | _ => none }
def CmdOnlyWrongFalsely : Prop := cmdOnlyRow.holds Try.pinned (OpenSpec.ofChange cmdOnlyWrong)

/-- 'bursarlaw5.CmdReplies': WHATEVER THE INPUT: true; the input reads as it did. -/
def cmdRepliesSpec : ChangeSpec := { name := "cmdReplies", fn := fun _ => fun
  | [d1, d2, d3] => { results := [.lit (.bool true)], args := [d1, d2, d3] }
  | _ => none }
def cmdRepliesRow : OpenClaim := { program := "ytlkknncndgamdaa", sum := "b8439514182340b9557caa5edb1fdc908df0731768da719a0c20c1d2b6ed477c", func := "bursar/bursarlaw5.CmdReplies", spec := "cmdReplies", apart := false }
def CmdRepliesSaid : Prop := cmdRepliesRow.holds Try.pinned (OpenSpec.ofChange cmdRepliesSpec)

/-- ITS FALSE NEIGHBOUR: 'it returns false'. Refute it at one input. -/
def cmdRepliesWrong : ChangeSpec := { name := "cmdReplies", fn := fun _ => fun
  | [d1, d2, d3] => { results := [.lit (.bool false)], args := [d1, d2, d3] }
  | _ => none }
def CmdRepliesWrongFalsely : Prop := cmdRepliesRow.holds Try.pinned (OpenSpec.ofChange cmdRepliesWrong)

/- THE SECOND FORM. 'bulk': how many values and letters a reading holds, each counted each time it is reached (what is shared counts as often as it is met; a slice's spare places count too). A statement '..UptoSaid' is the law's where the arguments, and the package variables that the reading takes, are together of bulk at most 1048576: NARROWER than '..Said'. Prove '..Said' where nothing that the law and all that it calls make is longer than what came in: it says more and counts as full. Else prove '..UptoSaid'. A law counts once. -/
mutual
def uptoBulk {H : Type} : DataW H → Nat
  | .lit (.string bytes) => bytes.length + 1
  | .lit _ => 1
  | .nil => 1
  | .ptr d => uptoBulk d + 1
  | .slice elems spare => uptoBulkAll elems + uptoBulkAll spare + 1
  | .agg parts => uptoBulkAll parts + 1
  | .iface _ d => uptoBulk d + 1
  | .map entries => uptoBulkEntries entries + 1
  | .held _ => 1
def uptoBulkAll {H : Type} : List (DataW H) → Nat
  | [] => 0
  | d :: r => uptoBulk d + uptoBulkAll r
def uptoBulkEntries {H : Type} : List (Lit × DataW H) → Nat
  | [] => 0
  | x :: r => uptoBulkEntry x + uptoBulkEntries r
def uptoBulkEntry {H : Type} : Lit × DataW H → Nat
  | (.string bytes, d) => bytes.length + uptoBulk d + 1
  | (_, d) => uptoBulk d + 1
 end
def uptoSmall : (H : Type) → List (DataW H) → Bool := fun _ ds => decide (uptoBulkAll ds ≤ 1048576)
def OpenSpec.upto (s : _root_.Go.ChangeSpec) : _root_.Go.OpenSpec := { _root_.Go.OpenSpec.ofChange s with cond := some uptoSmall }

/-- 'bursarlaw5.CmdKnown', WHERE WHAT IT READS IS OF BULK AT MOST 1048576: true; the input reads as it did. -/
def cmdKnownUptoRow : OpenClaim := { program := "ytlkknncndgamdaa", sum := "b8439514182340b9557caa5edb1fdc908df0731768da719a0c20c1d2b6ed477c", func := "bursar/bursarlaw5.CmdKnown", spec := "cmdKnown", apart := false, narrowed := true }
def CmdKnownUptoSaid : Prop := cmdKnownUptoRow.holds Try.pinned (OpenSpec.upto cmdKnownSpec)

/-- 'bursarlaw5.CmdNames', WHERE WHAT IT READS IS OF BULK AT MOST 1048576: true; the input reads as it did. -/
def cmdNamesUptoRow : OpenClaim := { program := "ytlkknncndgamdaa", sum := "b8439514182340b9557caa5edb1fdc908df0731768da719a0c20c1d2b6ed477c", func := "bursar/bursarlaw5.CmdNames", spec := "cmdNames", apart := false, narrowed := true }
def CmdNamesUptoSaid : Prop := cmdNamesUptoRow.holds Try.pinned (OpenSpec.upto cmdNamesSpec)

/-- 'bursarlaw5.CmdDecodes', WHERE WHAT IT READS IS OF BULK AT MOST 1048576: true; the input reads as it did. -/
def cmdDecodesUptoRow : OpenClaim := { program := "ytlkknncndgamdaa", sum := "b8439514182340b9557caa5edb1fdc908df0731768da719a0c20c1d2b6ed477c", func := "bursar/bursarlaw5.CmdDecodes", spec := "cmdDecodes", apart := false, narrowed := true }
def CmdDecodesUptoSaid : Prop := cmdDecodesUptoRow.holds Try.pinned (OpenSpec.upto cmdDecodesSpec)

/-- 'bursarlaw5.CmdOnly', WHERE WHAT IT READS IS OF BULK AT MOST 1048576: true; the input reads as it did. -/
def cmdOnlyUptoRow : OpenClaim := { program := "ytlkknncndgamdaa", sum := "b8439514182340b9557caa5edb1fdc908df0731768da719a0c20c1d2b6ed477c", func := "bursar/bursarlaw5.CmdOnly", spec := "cmdOnly", apart := false, narrowed := true }
def CmdOnlyUptoSaid : Prop := cmdOnlyUptoRow.holds Try.pinned (OpenSpec.upto cmdOnlySpec)

/-- 'bursarlaw5.CmdReplies', WHERE WHAT IT READS IS OF BULK AT MOST 1048576: true; the input reads as it did. -/
def cmdRepliesUptoRow : OpenClaim := { program := "ytlkknncndgamdaa", sum := "b8439514182340b9557caa5edb1fdc908df0731768da719a0c20c1d2b6ed477c", func := "bursar/bursarlaw5.CmdReplies", spec := "cmdReplies", apart := false, narrowed := true }
def CmdRepliesUptoSaid : Prop := cmdRepliesUptoRow.holds Try.pinned (OpenSpec.upto cmdRepliesSpec)

end Rows
end Go.Proofs.Ytlkknncndgamdaa
