/-
  DERIVED. GIVEN WITH THE SEED: THE CARDS: each row of YtnknboibmifacaaGreatDoorRows.lean that lists a variable, with what it lists TIED to the program's text (the seventh form; the later family's looks); each row that meets fmt, with fmt's text TOLD by the authors' own Lean function (tested against real Go, not proved from fmt's source: count such statements apart). THE CARD IS WHAT COUNTS. Prove the row's statement (the work); the ties are given (YtnknboibmifacaaGreatDoorTie.lean); close each card by the builder's one call (the guide's Derived/Test/ToyasCard.lean, 'card_holds'). Laid BY PROGRAM, IN A SANDBOX (cutbox-door.mjs). By AI agents, Wed Nov 11 2026. No macro, syntax, notation, axiom, sorry.
-/
import Derived.Test.YtnknboibmifacaaGreatDoorRows
import GoSem.ClaimSeven
namespace Go.Proofs.YtnknboibmifacaaGreatDoor
namespace Rows

/-- THE TIED CARD OF 'bursarlaw9.SegKnown'. -/
def segKnownCard : Claim7 := { stood := { row := segKnownRow, standIns := [], harness := (true, "4bff5ae15595283891a0bb2aaa8f884d7e6218989fdf019f1ce7801d005ee180"), looks := true }, kinds := [], alts := [], laidByText := true, laidKinds := [.data, .data, .data, .sentinel, .sentinel], laidTests := true, laidLooks := .later }
def SegKnownCardSaid : Prop := Claim7.holds Tryz.pinned (.plain (OpenSpec.ofChange segKnownSpec)) segKnownCard

/-- THE TIED CARD OF 'bursarlaw9.SegNames'. -/
def segNamesCard : Claim7 := { stood := { row := segNamesRow, standIns := [], harness := (true, "4bff5ae15595283891a0bb2aaa8f884d7e6218989fdf019f1ce7801d005ee180"), looks := true }, kinds := [], alts := [], laidByText := true, laidKinds := [.data, .data, .data, .sentinel, .sentinel], laidTests := true, laidLooks := .later }
def SegNamesCardSaid : Prop := Claim7.holds Tryz.pinned (.plain (OpenSpec.ofChange segNamesSpec)) segNamesCard

/-- THE TIED CARD OF 'bursarlaw9.SegPlays'. -/
def segPlaysCard : Claim7 := { stood := { row := segPlaysRow, standIns := [], harness := (true, "4bff5ae15595283891a0bb2aaa8f884d7e6218989fdf019f1ce7801d005ee180"), looks := true }, kinds := [], alts := [], laidByText := true, laidKinds := [.data, .data, .data, .sentinel, .sentinel], laidTests := true, laidLooks := .later }
def SegPlaysCardSaid : Prop := Claim7.holds Tryz.pinned (.plain (OpenSpec.ofChange segPlaysSpec)) segPlaysCard

/-- THE TIED CARD OF 'bursarlaw9.SegAny'. -/
def segAnyCard : Claim7 := { stood := { row := segAnyRow, standIns := [], harness := (true, "4bff5ae15595283891a0bb2aaa8f884d7e6218989fdf019f1ce7801d005ee180"), looks := true }, kinds := [], alts := [], laidByText := true, laidKinds := [.data, .data, .data, .sentinel, .sentinel], laidTests := true, laidLooks := .later }
def SegAnyCardSaid : Prop := Claim7.holds Tryz.pinned (.plain (OpenSpec.ofChange segAnySpec)) segAnyCard

/-- THE TIED CARD OF 'bursarlaw9.SegKeeps'. -/
def segKeepsCard : Claim7 := { stood := { row := segKeepsRow, standIns := [], harness := (true, "4bff5ae15595283891a0bb2aaa8f884d7e6218989fdf019f1ce7801d005ee180"), looks := true }, kinds := [], alts := [], laidByText := true, laidKinds := [.data, .data, .data, .sentinel, .sentinel], laidTests := true, laidLooks := .later }
def SegKeepsCardSaid : Prop := Claim7.holds Tryz.pinned (.plain (OpenSpec.ofChange segKeepsSpec)) segKeepsCard

/-- THE TIED CARD OF 'bursarlaw9.SegCuts'. -/
def segCutsCard : Claim7 := { stood := { row := segCutsRow, standIns := [], harness := (true, "4bff5ae15595283891a0bb2aaa8f884d7e6218989fdf019f1ce7801d005ee180"), looks := true }, kinds := [], alts := [], laidByText := true, laidKinds := [.data, .data, .data, .sentinel, .sentinel], laidTests := true, laidLooks := .later }
def SegCutsCardSaid : Prop := Claim7.holds Tryz.pinned (.plain (OpenSpec.ofChange segCutsSpec)) segCutsCard

/-- THE TIED CARD OF 'bursarlaw9.SegRanges'. -/
def segRangesCard : Claim7 := { stood := { row := segRangesRow, standIns := [], harness := (true, "4bff5ae15595283891a0bb2aaa8f884d7e6218989fdf019f1ce7801d005ee180"), looks := true }, kinds := [], alts := [], laidByText := true, laidKinds := [.data, .data, .data, .sentinel, .sentinel], laidTests := true, laidLooks := .later }
def SegRangesCardSaid : Prop := Claim7.holds Tryz.pinned (.plain (OpenSpec.ofChange segRangesSpec)) segRangesCard

/-- THE SECOND FORM's CARD OF 'bursarlaw9.SegKnown'. -/
def segKnownUptoCard : Claim7 := { stood := { row := segKnownUptoRow, standIns := [], harness := (true, "4bff5ae15595283891a0bb2aaa8f884d7e6218989fdf019f1ce7801d005ee180"), looks := true }, kinds := [], alts := [], laidByText := true, laidKinds := [.data, .data, .data, .sentinel, .sentinel], laidTests := true, laidLooks := .later }
def SegKnownUptoCardSaid : Prop := Claim7.holds Tryz.pinned (.plain (OpenSpec.upto segKnownSpec)) segKnownUptoCard

/-- THE SECOND FORM's CARD OF 'bursarlaw9.SegNames'. -/
def segNamesUptoCard : Claim7 := { stood := { row := segNamesUptoRow, standIns := [], harness := (true, "4bff5ae15595283891a0bb2aaa8f884d7e6218989fdf019f1ce7801d005ee180"), looks := true }, kinds := [], alts := [], laidByText := true, laidKinds := [.data, .data, .data, .sentinel, .sentinel], laidTests := true, laidLooks := .later }
def SegNamesUptoCardSaid : Prop := Claim7.holds Tryz.pinned (.plain (OpenSpec.upto segNamesSpec)) segNamesUptoCard

/-- THE SECOND FORM's CARD OF 'bursarlaw9.SegPlays'. -/
def segPlaysUptoCard : Claim7 := { stood := { row := segPlaysUptoRow, standIns := [], harness := (true, "4bff5ae15595283891a0bb2aaa8f884d7e6218989fdf019f1ce7801d005ee180"), looks := true }, kinds := [], alts := [], laidByText := true, laidKinds := [.data, .data, .data, .sentinel, .sentinel], laidTests := true, laidLooks := .later }
def SegPlaysUptoCardSaid : Prop := Claim7.holds Tryz.pinned (.plain (OpenSpec.upto segPlaysSpec)) segPlaysUptoCard

/-- THE SECOND FORM's CARD OF 'bursarlaw9.SegAny'. -/
def segAnyUptoCard : Claim7 := { stood := { row := segAnyUptoRow, standIns := [], harness := (true, "4bff5ae15595283891a0bb2aaa8f884d7e6218989fdf019f1ce7801d005ee180"), looks := true }, kinds := [], alts := [], laidByText := true, laidKinds := [.data, .data, .data, .sentinel, .sentinel], laidTests := true, laidLooks := .later }
def SegAnyUptoCardSaid : Prop := Claim7.holds Tryz.pinned (.plain (OpenSpec.upto segAnySpec)) segAnyUptoCard

/-- THE SECOND FORM's CARD OF 'bursarlaw9.SegKeeps'. -/
def segKeepsUptoCard : Claim7 := { stood := { row := segKeepsUptoRow, standIns := [], harness := (true, "4bff5ae15595283891a0bb2aaa8f884d7e6218989fdf019f1ce7801d005ee180"), looks := true }, kinds := [], alts := [], laidByText := true, laidKinds := [.data, .data, .data, .sentinel, .sentinel], laidTests := true, laidLooks := .later }
def SegKeepsUptoCardSaid : Prop := Claim7.holds Tryz.pinned (.plain (OpenSpec.upto segKeepsSpec)) segKeepsUptoCard

/-- THE SECOND FORM's CARD OF 'bursarlaw9.SegCuts'. -/
def segCutsUptoCard : Claim7 := { stood := { row := segCutsUptoRow, standIns := [], harness := (true, "4bff5ae15595283891a0bb2aaa8f884d7e6218989fdf019f1ce7801d005ee180"), looks := true }, kinds := [], alts := [], laidByText := true, laidKinds := [.data, .data, .data, .sentinel, .sentinel], laidTests := true, laidLooks := .later }
def SegCutsUptoCardSaid : Prop := Claim7.holds Tryz.pinned (.plain (OpenSpec.upto segCutsSpec)) segCutsUptoCard

/-- THE SECOND FORM's CARD OF 'bursarlaw9.SegRanges'. -/
def segRangesUptoCard : Claim7 := { stood := { row := segRangesUptoRow, standIns := [], harness := (true, "4bff5ae15595283891a0bb2aaa8f884d7e6218989fdf019f1ce7801d005ee180"), looks := true }, kinds := [], alts := [], laidByText := true, laidKinds := [.data, .data, .data, .sentinel, .sentinel], laidTests := true, laidLooks := .later }
def SegRangesUptoCardSaid : Prop := Claim7.holds Tryz.pinned (.plain (OpenSpec.upto segRangesSpec)) segRangesUptoCard
end Rows
end Go.Proofs.YtnknboibmifacaaGreatDoor
