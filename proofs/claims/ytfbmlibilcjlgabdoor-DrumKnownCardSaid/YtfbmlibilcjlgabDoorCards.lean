/-
  DERIVED. GIVEN WITH THE SEED: THE CARDS: each row of YtfbmlibilcjlgabDoorRows.lean that lists a variable, with what it lists TIED to the program's text (the seventh form; the later family's looks); each row that meets fmt, with fmt's text TOLD by the authors' own Lean function (tested against real Go, not proved from fmt's source: count such statements apart). THE CARD IS WHAT COUNTS. Prove the row's statement (the work); the ties are given (YtfbmlibilcjlgabDoorTie.lean); close each card by the builder's one call (the guide's Derived/Test/ToyasCard.lean, 'card_holds'). Laid BY PROGRAM, IN A SANDBOX (cutbox-door.mjs). By AI agents, Wed Nov 11 2026. No macro, syntax, notation, axiom, sorry.
-/
import Derived.Test.YtfbmlibilcjlgabDoorRows
import GoSem.ClaimSeven
namespace Go.Proofs.YtfbmlibilcjlgabDoor
namespace Rows

/-- THE TIED CARD OF 'saronlaw08.DrumKnown'. -/
def drumKnownCard : Claim7 := { stood := { row := drumKnownRow, standIns := [], harness := (true, "d8541bbdbb7e0b6aca7bcf5a505e3e8061cceb07b24432abf8ed02f454585dea"), looks := false }, kinds := [], alts := [], laidByText := true, laidKinds := [.data], laidTests := true, laidLooks := .later }
def DrumKnownCardSaid : Prop := Claim7.holds Tryd.pinned (.plain (OpenSpec.ofChange drumKnownSpec)) drumKnownCard

/-- THE SECOND FORM's CARD OF 'saronlaw08.DrumKnown'. -/
def drumKnownUptoCard : Claim7 := { stood := { row := drumKnownUptoRow, standIns := [], harness := (true, "d8541bbdbb7e0b6aca7bcf5a505e3e8061cceb07b24432abf8ed02f454585dea"), looks := false }, kinds := [], alts := [], laidByText := true, laidKinds := [.data], laidTests := true, laidLooks := .later }
def DrumKnownUptoCardSaid : Prop := Claim7.holds Tryd.pinned (.plain (OpenSpec.upto drumKnownSpec)) drumKnownUptoCard
end Rows
end Go.Proofs.YtfbmlibilcjlgabDoor
