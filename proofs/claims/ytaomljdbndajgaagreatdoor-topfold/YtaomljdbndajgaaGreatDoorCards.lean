/-
  DERIVED. GIVEN WITH THE SEED: THE CARDS: each row of YtaomljdbndajgaaGreatDoorRows.lean that lists a variable, with what it lists TIED to the program's text (the seventh form; the later family's looks); each row that meets fmt, with fmt's text TOLD by the authors' own Lean function (tested against real Go, not proved from fmt's source: count such statements apart). THE CARD IS WHAT COUNTS. Prove the row's statement (the work); the ties are given (YtaomljdbndajgaaGreatDoorTie.lean); close each card by the builder's one call (the guide's Derived/Test/ToyasCard.lean, 'card_holds'). Laid BY PROGRAM, IN A SANDBOX (cutbox-door.mjs). By AI agents, Wed Nov 11 2026. No macro, syntax, notation, axiom, sorry.
-/
import Derived.Test.YtaomljdbndajgaaGreatDoorRows
import GoSem.ClaimSeven
namespace Go.Proofs.YtaomljdbndajgaaGreatDoor
namespace Rows

/-- THE TIED CARD OF 'penstocktop.TopFold'. -/
def topFoldCard : Claim7 := { stood := { row := topFoldRow, standIns := [], harness := (true, "9b05561e4c307cdca96638f6d4b16dedc7c58abdc4ab0ae7db6905cbdbd2f7b7"), looks := true }, kinds := [], alts := [], laidByText := true, laidKinds := [.data, .data, .data, .sentinel, .sentinel, .data], laidTests := true, laidLooks := .later }
def TopFoldCardSaid : Prop := Claim7.holds Tryz.pinned (.plain (OpenSpec.ofChange topFoldSpec)) topFoldCard

/-- THE TIED CARD OF 'penstocktop.TopParts'. -/
def topPartsCard : Claim7 := { stood := { row := topPartsRow, standIns := [], harness := (true, "9b05561e4c307cdca96638f6d4b16dedc7c58abdc4ab0ae7db6905cbdbd2f7b7"), looks := true }, kinds := [], alts := [], laidByText := true, laidKinds := [.data, .data, .data, .sentinel, .sentinel, .data], laidTests := true, laidLooks := .later }
def TopPartsCardSaid : Prop := Claim7.holds Tryz.pinned (.plain (OpenSpec.ofChange topPartsSpec)) topPartsCard

/-- THE TIED CARD OF 'penstocktop.TopKeep'. -/
def topKeepCard : Claim7 := { stood := { row := topKeepRow, standIns := [], harness := (true, "9b05561e4c307cdca96638f6d4b16dedc7c58abdc4ab0ae7db6905cbdbd2f7b7"), looks := true }, kinds := [], alts := [], laidByText := true, laidKinds := [.data, .data, .data, .sentinel, .sentinel, .data], laidTests := true, laidLooks := .later }
def TopKeepCardSaid : Prop := Claim7.holds Tryz.pinned (.plain (OpenSpec.ofChange topKeepSpec)) topKeepCard

/-- THE SECOND FORM's CARD OF 'penstocktop.TopFold'. -/
def topFoldUptoCard : Claim7 := { stood := { row := topFoldUptoRow, standIns := [], harness := (true, "9b05561e4c307cdca96638f6d4b16dedc7c58abdc4ab0ae7db6905cbdbd2f7b7"), looks := true }, kinds := [], alts := [], laidByText := true, laidKinds := [.data, .data, .data, .sentinel, .sentinel, .data], laidTests := true, laidLooks := .later }
def TopFoldUptoCardSaid : Prop := Claim7.holds Tryz.pinned (.plain (OpenSpec.upto topFoldSpec)) topFoldUptoCard

/-- THE SECOND FORM's CARD OF 'penstocktop.TopParts'. -/
def topPartsUptoCard : Claim7 := { stood := { row := topPartsUptoRow, standIns := [], harness := (true, "9b05561e4c307cdca96638f6d4b16dedc7c58abdc4ab0ae7db6905cbdbd2f7b7"), looks := true }, kinds := [], alts := [], laidByText := true, laidKinds := [.data, .data, .data, .sentinel, .sentinel, .data], laidTests := true, laidLooks := .later }
def TopPartsUptoCardSaid : Prop := Claim7.holds Tryz.pinned (.plain (OpenSpec.upto topPartsSpec)) topPartsUptoCard

/-- THE SECOND FORM's CARD OF 'penstocktop.TopKeep'. -/
def topKeepUptoCard : Claim7 := { stood := { row := topKeepUptoRow, standIns := [], harness := (true, "9b05561e4c307cdca96638f6d4b16dedc7c58abdc4ab0ae7db6905cbdbd2f7b7"), looks := true }, kinds := [], alts := [], laidByText := true, laidKinds := [.data, .data, .data, .sentinel, .sentinel, .data], laidTests := true, laidLooks := .later }
def TopKeepUptoCardSaid : Prop := Claim7.holds Tryz.pinned (.plain (OpenSpec.upto topKeepSpec)) topKeepUptoCard
end Rows
end Go.Proofs.YtaomljdbndajgaaGreatDoor
