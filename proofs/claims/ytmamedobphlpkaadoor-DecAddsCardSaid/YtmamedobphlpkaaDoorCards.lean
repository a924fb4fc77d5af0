/-
  DERIVED. GIVEN WITH THE SEED: THE CARDS: each row of YtmamedobphlpkaaDoorRows.lean that lists a variable, with what it lists TIED to the program's text (the seventh form; the later family's looks); each row that meets fmt, with fmt's text TOLD by the authors' own Lean function (tested against real Go, not proved from fmt's source: count such statements apart). THE CARD IS WHAT COUNTS. Prove the row's statement (the work); the ties are given (YtmamedobphlpkaaDoorTie.lean); close each card by the builder's one call (the guide's Derived/Test/ToyasCard.lean, 'card_holds'). Laid BY PROGRAM, IN A SANDBOX (cutbox-door.mjs). By AI agents, Wed Nov 11 2026. No macro, syntax, notation, axiom, sorry.
-/
import Derived.Test.YtmamedobphlpkaaDoorRows
import GoSem.ClaimSeven
namespace Go.Proofs.YtmamedobphlpkaaDoor
namespace Rows

/-- THE TIED CARD OF 'bursarlaw3.DecAdds'. -/
def decAddsCard : Claim7 := { stood := { row := decAddsRow, standIns := [], harness := (true, "69bac5264ecada434535082a31ac2d5f4178d439d835103e84b470344868cc33"), looks := false }, kinds := [], alts := [], laidByText := true, laidKinds := [.data, .data, .data], laidTests := true, laidLooks := .later }
def DecAddsCardSaid : Prop := Claim7.holds Tryd.pinned (.plain (OpenSpec.ofChange decAddsSpec)) decAddsCard

/-- THE TIED CARD OF 'bursarlaw3.DecCmps'. -/
def decCmpsCard : Claim7 := { stood := { row := decCmpsRow, standIns := [], harness := (true, "69bac5264ecada434535082a31ac2d5f4178d439d835103e84b470344868cc33"), looks := false }, kinds := [], alts := [], laidByText := true, laidKinds := [.data, .data, .data], laidTests := true, laidLooks := .later }
def DecCmpsCardSaid : Prop := Claim7.holds Tryd.pinned (.plain (OpenSpec.ofChange decCmpsSpec)) decCmpsCard

/-- THE TIED CARD OF 'bursarlaw3.DecMuls'. -/
def decMulsCard : Claim7 := { stood := { row := decMulsRow, standIns := [], harness := (true, "69bac5264ecada434535082a31ac2d5f4178d439d835103e84b470344868cc33"), looks := false }, kinds := [], alts := [], laidByText := true, laidKinds := [.data, .data, .data], laidTests := true, laidLooks := .later }
def DecMulsCardSaid : Prop := Claim7.holds Tryd.pinned (.plain (OpenSpec.ofChange decMulsSpec)) decMulsCard

/-- THE TIED CARD OF 'bursarlaw3.DecRescales'. -/
def decRescalesCard : Claim7 := { stood := { row := decRescalesRow, standIns := [], harness := (true, "69bac5264ecada434535082a31ac2d5f4178d439d835103e84b470344868cc33"), looks := false }, kinds := [], alts := [], laidByText := true, laidKinds := [.data, .data, .data], laidTests := true, laidLooks := .later }
def DecRescalesCardSaid : Prop := Claim7.holds Tryd.pinned (.plain (OpenSpec.ofChange decRescalesSpec)) decRescalesCard

/-- THE TIED CARD OF 'bursarlaw3.DecHalf'. -/
def decHalfCard : Claim7 := { stood := { row := decHalfRow, standIns := [], harness := (true, "69bac5264ecada434535082a31ac2d5f4178d439d835103e84b470344868cc33"), looks := false }, kinds := [], alts := [], laidByText := true, laidKinds := [.data, .data, .data], laidTests := true, laidLooks := .later }
def DecHalfCardSaid : Prop := Claim7.holds Tryd.pinned (.plain (OpenSpec.ofChange decHalfSpec)) decHalfCard

/-- THE TIED CARD OF 'bursarlaw3.DecUndo'. -/
def decUndoCard : Claim7 := { stood := { row := decUndoRow, standIns := [], harness := (true, "69bac5264ecada434535082a31ac2d5f4178d439d835103e84b470344868cc33"), looks := false }, kinds := [], alts := [], laidByText := true, laidKinds := [.data, .data, .data], laidTests := true, laidLooks := .later }
def DecUndoCardSaid : Prop := Claim7.holds Tryd.pinned (.plain (OpenSpec.ofChange decUndoSpec)) decUndoCard

/-- THE TIED CARD OF 'bursarlaw3.DecOrder'. -/
def decOrderCard : Claim7 := { stood := { row := decOrderRow, standIns := [], harness := (true, "69bac5264ecada434535082a31ac2d5f4178d439d835103e84b470344868cc33"), looks := false }, kinds := [], alts := [], laidByText := true, laidKinds := [.data, .data, .data], laidTests := true, laidLooks := .later }
def DecOrderCardSaid : Prop := Claim7.holds Tryd.pinned (.plain (OpenSpec.ofChange decOrderSpec)) decOrderCard

/-- THE SECOND FORM's CARD OF 'bursarlaw3.DecAdds'. -/
def decAddsUptoCard : Claim7 := { stood := { row := decAddsUptoRow, standIns := [], harness := (true, "69bac5264ecada434535082a31ac2d5f4178d439d835103e84b470344868cc33"), looks := false }, kinds := [], alts := [], laidByText := true, laidKinds := [.data, .data, .data], laidTests := true, laidLooks := .later }
def DecAddsUptoCardSaid : Prop := Claim7.holds Tryd.pinned (.plain (OpenSpec.upto decAddsSpec)) decAddsUptoCard

/-- THE SECOND FORM's CARD OF 'bursarlaw3.DecCmps'. -/
def decCmpsUptoCard : Claim7 := { stood := { row := decCmpsUptoRow, standIns := [], harness := (true, "69bac5264ecada434535082a31ac2d5f4178d439d835103e84b470344868cc33"), looks := false }, kinds := [], alts := [], laidByText := true, laidKinds := [.data, .data, .data], laidTests := true, laidLooks := .later }
def DecCmpsUptoCardSaid : Prop := Claim7.holds Tryd.pinned (.plain (OpenSpec.upto decCmpsSpec)) decCmpsUptoCard

/-- THE SECOND FORM's CARD OF 'bursarlaw3.DecMuls'. -/
def decMulsUptoCard : Claim7 := { stood := { row := decMulsUptoRow, standIns := [], harness := (true, "69bac5264ecada434535082a31ac2d5f4178d439d835103e84b470344868cc33"), looks := false }, kinds := [], alts := [], laidByText := true, laidKinds := [.data, .data, .data], laidTests := true, laidLooks := .later }
def DecMulsUptoCardSaid : Prop := Claim7.holds Tryd.pinned (.plain (OpenSpec.upto decMulsSpec)) decMulsUptoCard

/-- THE SECOND FORM's CARD OF 'bursarlaw3.DecRescales'. -/
def decRescalesUptoCard : Claim7 := { stood := { row := decRescalesUptoRow, standIns := [], harness := (true, "69bac5264ecada434535082a31ac2d5f4178d439d835103e84b470344868cc33"), looks := false }, kinds := [], alts := [], laidByText := true, laidKinds := [.data, .data, .data], laidTests := true, laidLooks := .later }
def DecRescalesUptoCardSaid : Prop := Claim7.holds Tryd.pinned (.plain (OpenSpec.upto decRescalesSpec)) decRescalesUptoCard

/-- THE SECOND FORM's CARD OF 'bursarlaw3.DecHalf'. -/
def decHalfUptoCard : Claim7 := { stood := { row := decHalfUptoRow, standIns := [], harness := (true, "69bac5264ecada434535082a31ac2d5f4178d439d835103e84b470344868cc33"), looks := false }, kinds := [], alts := [], laidByText := true, laidKinds := [.data, .data, .data], laidTests := true, laidLooks := .later }
def DecHalfUptoCardSaid : Prop := Claim7.holds Tryd.pinned (.plain (OpenSpec.upto decHalfSpec)) decHalfUptoCard

/-- THE SECOND FORM's CARD OF 'bursarlaw3.DecUndo'. -/
def decUndoUptoCard : Claim7 := { stood := { row := decUndoUptoRow, standIns := [], harness := (true, "69bac5264ecada434535082a31ac2d5f4178d439d835103e84b470344868cc33"), looks := false }, kinds := [], alts := [], laidByText := true, laidKinds := [.data, .data, .data], laidTests := true, laidLooks := .later }
def DecUndoUptoCardSaid : Prop := Claim7.holds Tryd.pinned (.plain (OpenSpec.upto decUndoSpec)) decUndoUptoCard

/-- THE SECOND FORM's CARD OF 'bursarlaw3.DecOrder'. -/
def decOrderUptoCard : Claim7 := { stood := { row := decOrderUptoRow, standIns := [], harness := (true, "69bac5264ecada434535082a31ac2d5f4178d439d835103e84b470344868cc33"), looks := false }, kinds := [], alts := [], laidByText := true, laidKinds := [.data, .data, .data], laidTests := true, laidLooks := .later }
def DecOrderUptoCardSaid : Prop := Claim7.holds Tryd.pinned (.plain (OpenSpec.upto decOrderSpec)) decOrderUptoCard
end Rows
end Go.Proofs.YtmamedobphlpkaaDoor
