/-
  DERIVED. GIVEN WITH THE SEED: THE CARDS: each row of YthhbfbmfhldbaaaDoorRows.lean that lists a variable, with what it lists TIED to the program's text (the seventh form; the later family's looks); each row that meets fmt, with fmt's text TOLD by the authors' own Lean function (tested against real Go, not proved from fmt's source: count such statements apart). THE CARD IS WHAT COUNTS. Prove the row's statement (the work); the ties are given (YthhbfbmfhldbaaaDoorTie.lean); close each card by the builder's one call (the guide's Derived/Test/ToyasCard.lean, 'card_holds'). Laid BY PROGRAM, IN A SANDBOX (cutbox-door.mjs). By AI agents, Wed Nov 11 2026. No macro, syntax, notation, axiom, sorry.
-/
import Derived.Test.YthhbfbmfhldbaaaDoorRows
import GoSem.ClaimSeven
namespace Go.Proofs.YthhbfbmfhldbaaaDoor
namespace Rows

/-- THE TIED CARD OF 'saronlaw07.LockSplits'. -/
def lockSplitsCard : Claim7 := { stood := { row := lockSplitsRow, standIns := [], harness := (true, "294b6857c8153bc1b4fd56b35d256ff9b89632188ac90563f4eff2729bc91a43"), looks := false }, kinds := [], alts := [], laidByText := true, laidKinds := [.data], laidTests := true, laidLooks := .later }
def LockSplitsCardSaid : Prop := Claim7.holds Tryd.pinned (.plain (OpenSpec.ofChange lockSplitsSpec)) lockSplitsCard

/-- THE TIED CARD OF 'saronlaw07.LockMates'. -/
def lockMatesCard : Claim7 := { stood := { row := lockMatesRow, standIns := [], harness := (true, "294b6857c8153bc1b4fd56b35d256ff9b89632188ac90563f4eff2729bc91a43"), looks := false }, kinds := [], alts := [], laidByText := true, laidKinds := [.data], laidTests := true, laidLooks := .later }
def LockMatesCardSaid : Prop := Claim7.holds Tryd.pinned (.plain (OpenSpec.ofChange lockMatesSpec)) lockMatesCard

/-- THE TIED CARD OF 'saronlaw07.LockLates'. -/
def lockLatesCard : Claim7 := { stood := { row := lockLatesRow, standIns := [], harness := (true, "294b6857c8153bc1b4fd56b35d256ff9b89632188ac90563f4eff2729bc91a43"), looks := false }, kinds := [], alts := [], laidByText := true, laidKinds := [.data], laidTests := true, laidLooks := .later }
def LockLatesCardSaid : Prop := Claim7.holds Tryd.pinned (.plain (OpenSpec.ofChange lockLatesSpec)) lockLatesCard

/-- THE TIED CARD OF 'saronlaw07.LockNeither'. -/
def lockNeitherCard : Claim7 := { stood := { row := lockNeitherRow, standIns := [], harness := (true, "294b6857c8153bc1b4fd56b35d256ff9b89632188ac90563f4eff2729bc91a43"), looks := false }, kinds := [], alts := [], laidByText := true, laidKinds := [.data], laidTests := true, laidLooks := .later }
def LockNeitherCardSaid : Prop := Claim7.holds Tryd.pinned (.plain (OpenSpec.ofChange lockNeitherSpec)) lockNeitherCard

/-- THE TIED CARD OF 'saronlaw07.LockForced'. -/
def lockForcedCard : Claim7 := { stood := { row := lockForcedRow, standIns := [], harness := (true, "294b6857c8153bc1b4fd56b35d256ff9b89632188ac90563f4eff2729bc91a43"), looks := false }, kinds := [], alts := [], laidByText := true, laidKinds := [.data], laidTests := true, laidLooks := .later }
def LockForcedCardSaid : Prop := Claim7.holds Tryd.pinned (.plain (OpenSpec.ofChange lockForcedSpec)) lockForcedCard

/-- THE TIED CARD OF 'saronlaw07.LockMate'. -/
def lockMateCard : Claim7 := { stood := { row := lockMateRow, standIns := [], harness := (true, "294b6857c8153bc1b4fd56b35d256ff9b89632188ac90563f4eff2729bc91a43"), looks := false }, kinds := [], alts := [], laidByText := true, laidKinds := [.data], laidTests := true, laidLooks := .later }
def LockMateCardSaid : Prop := Claim7.holds Tryd.pinned (.plain (OpenSpec.ofChange lockMateSpec)) lockMateCard

/-- THE TIED CARD OF 'saronlaw07.LockTurned'. -/
def lockTurnedCard : Claim7 := { stood := { row := lockTurnedRow, standIns := [], harness := (true, "294b6857c8153bc1b4fd56b35d256ff9b89632188ac90563f4eff2729bc91a43"), looks := false }, kinds := [], alts := [], laidByText := true, laidKinds := [.data], laidTests := true, laidLooks := .later }
def LockTurnedCardSaid : Prop := Claim7.holds Tryd.pinned (.plain (OpenSpec.ofChange lockTurnedSpec)) lockTurnedCard

/-- THE TIED CARD OF 'saronlaw07.LockLate'. -/
def lockLateCard : Claim7 := { stood := { row := lockLateRow, standIns := [], harness := (true, "294b6857c8153bc1b4fd56b35d256ff9b89632188ac90563f4eff2729bc91a43"), looks := false }, kinds := [], alts := [], laidByText := true, laidKinds := [.data], laidTests := true, laidLooks := .later }
def LockLateCardSaid : Prop := Claim7.holds Tryd.pinned (.plain (OpenSpec.ofChange lockLateSpec)) lockLateCard

/-- THE TIED CARD OF 'saronlaw07.LockTold'. -/
def lockToldCard : Claim7 := { stood := { row := lockToldRow, standIns := [], harness := (true, "294b6857c8153bc1b4fd56b35d256ff9b89632188ac90563f4eff2729bc91a43"), looks := false }, kinds := [], alts := [], laidByText := true, laidKinds := [.data], laidTests := true, laidLooks := .later }
def LockToldCardSaid : Prop := Claim7.holds Tryd.pinned (.plain (OpenSpec.ofChange lockToldSpec)) lockToldCard

/-- THE TIED CARD OF 'saronlaw07.LockLost'. -/
def lockLostCard : Claim7 := { stood := { row := lockLostRow, standIns := [], harness := (true, "294b6857c8153bc1b4fd56b35d256ff9b89632188ac90563f4eff2729bc91a43"), looks := false }, kinds := [], alts := [], laidByText := true, laidKinds := [.data], laidTests := true, laidLooks := .later }
def LockLostCardSaid : Prop := Claim7.holds Tryd.pinned (.plain (OpenSpec.ofChange lockLostSpec)) lockLostCard

/-- THE TIED CARD OF 'saronlaw07.LockMore'. -/
def lockMoreCard : Claim7 := { stood := { row := lockMoreRow, standIns := [], harness := (true, "294b6857c8153bc1b4fd56b35d256ff9b89632188ac90563f4eff2729bc91a43"), looks := false }, kinds := [], alts := [], laidByText := true, laidKinds := [.data], laidTests := true, laidLooks := .later }
def LockMoreCardSaid : Prop := Claim7.holds Tryd.pinned (.plain (OpenSpec.ofChange lockMoreSpec)) lockMoreCard

/-- THE TIED CARD OF 'saronlaw07.LockKnown'. -/
def lockKnownCard : Claim7 := { stood := { row := lockKnownRow, standIns := [], harness := (true, "294b6857c8153bc1b4fd56b35d256ff9b89632188ac90563f4eff2729bc91a43"), looks := false }, kinds := [], alts := [], laidByText := true, laidKinds := [.data], laidTests := true, laidLooks := .later }
def LockKnownCardSaid : Prop := Claim7.holds Tryd.pinned (.plain (OpenSpec.ofChange lockKnownSpec)) lockKnownCard

/-- THE SECOND FORM's CARD OF 'saronlaw07.LockSplits'. -/
def lockSplitsUptoCard : Claim7 := { stood := { row := lockSplitsUptoRow, standIns := [], harness := (true, "294b6857c8153bc1b4fd56b35d256ff9b89632188ac90563f4eff2729bc91a43"), looks := false }, kinds := [], alts := [], laidByText := true, laidKinds := [.data], laidTests := true, laidLooks := .later }
def LockSplitsUptoCardSaid : Prop := Claim7.holds Tryd.pinned (.plain (OpenSpec.upto lockSplitsSpec)) lockSplitsUptoCard

/-- THE SECOND FORM's CARD OF 'saronlaw07.LockMates'. -/
def lockMatesUptoCard : Claim7 := { stood := { row := lockMatesUptoRow, standIns := [], harness := (true, "294b6857c8153bc1b4fd56b35d256ff9b89632188ac90563f4eff2729bc91a43"), looks := false }, kinds := [], alts := [], laidByText := true, laidKinds := [.data], laidTests := true, laidLooks := .later }
def LockMatesUptoCardSaid : Prop := Claim7.holds Tryd.pinned (.plain (OpenSpec.upto lockMatesSpec)) lockMatesUptoCard

/-- THE SECOND FORM's CARD OF 'saronlaw07.LockLates'. -/
def lockLatesUptoCard : Claim7 := { stood := { row := lockLatesUptoRow, standIns := [], harness := (true, "294b6857c8153bc1b4fd56b35d256ff9b89632188ac90563f4eff2729bc91a43"), looks := false }, kinds := [], alts := [], laidByText := true, laidKinds := [.data], laidTests := true, laidLooks := .later }
def LockLatesUptoCardSaid : Prop := Claim7.holds Tryd.pinned (.plain (OpenSpec.upto lockLatesSpec)) lockLatesUptoCard

/-- THE SECOND FORM's CARD OF 'saronlaw07.LockNeither'. -/
def lockNeitherUptoCard : Claim7 := { stood := { row := lockNeitherUptoRow, standIns := [], harness := (true, "294b6857c8153bc1b4fd56b35d256ff9b89632188ac90563f4eff2729bc91a43"), looks := false }, kinds := [], alts := [], laidByText := true, laidKinds := [.data], laidTests := true, laidLooks := .later }
def LockNeitherUptoCardSaid : Prop := Claim7.holds Tryd.pinned (.plain (OpenSpec.upto lockNeitherSpec)) lockNeitherUptoCard

/-- THE SECOND FORM's CARD OF 'saronlaw07.LockForced'. -/
def lockForcedUptoCard : Claim7 := { stood := { row := lockForcedUptoRow, standIns := [], harness := (true, "294b6857c8153bc1b4fd56b35d256ff9b89632188ac90563f4eff2729bc91a43"), looks := false }, kinds := [], alts := [], laidByText := true, laidKinds := [.data], laidTests := true, laidLooks := .later }
def LockForcedUptoCardSaid : Prop := Claim7.holds Tryd.pinned (.plain (OpenSpec.upto lockForcedSpec)) lockForcedUptoCard

/-- THE SECOND FORM's CARD OF 'saronlaw07.LockMate'. -/
def lockMateUptoCard : Claim7 := { stood := { row := lockMateUptoRow, standIns := [], harness := (true, "294b6857c8153bc1b4fd56b35d256ff9b89632188ac90563f4eff2729bc91a43"), looks := false }, kinds := [], alts := [], laidByText := true, laidKinds := [.data], laidTests := true, laidLooks := .later }
def LockMateUptoCardSaid : Prop := Claim7.holds Tryd.pinned (.plain (OpenSpec.upto lockMateSpec)) lockMateUptoCard

/-- THE SECOND FORM's CARD OF 'saronlaw07.LockTurned'. -/
def lockTurnedUptoCard : Claim7 := { stood := { row := lockTurnedUptoRow, standIns := [], harness := (true, "294b6857c8153bc1b4fd56b35d256ff9b89632188ac90563f4eff2729bc91a43"), looks := false }, kinds := [], alts := [], laidByText := true, laidKinds := [.data], laidTests := true, laidLooks := .later }
def LockTurnedUptoCardSaid : Prop := Claim7.holds Tryd.pinned (.plain (OpenSpec.upto lockTurnedSpec)) lockTurnedUptoCard

/-- THE SECOND FORM's CARD OF 'saronlaw07.LockLate'. -/
def lockLateUptoCard : Claim7 := { stood := { row := lockLateUptoRow, standIns := [], harness := (true, "294b6857c8153bc1b4fd56b35d256ff9b89632188ac90563f4eff2729bc91a43"), looks := false }, kinds := [], alts := [], laidByText := true, laidKinds := [.data], laidTests := true, laidLooks := .later }
def LockLateUptoCardSaid : Prop := Claim7.holds Tryd.pinned (.plain (OpenSpec.upto lockLateSpec)) lockLateUptoCard

/-- THE SECOND FORM's CARD OF 'saronlaw07.LockTold'. -/
def lockToldUptoCard : Claim7 := { stood := { row := lockToldUptoRow, standIns := [], harness := (true, "294b6857c8153bc1b4fd56b35d256ff9b89632188ac90563f4eff2729bc91a43"), looks := false }, kinds := [], alts := [], laidByText := true, laidKinds := [.data], laidTests := true, laidLooks := .later }
def LockToldUptoCardSaid : Prop := Claim7.holds Tryd.pinned (.plain (OpenSpec.upto lockToldSpec)) lockToldUptoCard

/-- THE SECOND FORM's CARD OF 'saronlaw07.LockLost'. -/
def lockLostUptoCard : Claim7 := { stood := { row := lockLostUptoRow, standIns := [], harness := (true, "294b6857c8153bc1b4fd56b35d256ff9b89632188ac90563f4eff2729bc91a43"), looks := false }, kinds := [], alts := [], laidByText := true, laidKinds := [.data], laidTests := true, laidLooks := .later }
def LockLostUptoCardSaid : Prop := Claim7.holds Tryd.pinned (.plain (OpenSpec.upto lockLostSpec)) lockLostUptoCard

/-- THE SECOND FORM's CARD OF 'saronlaw07.LockMore'. -/
def lockMoreUptoCard : Claim7 := { stood := { row := lockMoreUptoRow, standIns := [], harness := (true, "294b6857c8153bc1b4fd56b35d256ff9b89632188ac90563f4eff2729bc91a43"), looks := false }, kinds := [], alts := [], laidByText := true, laidKinds := [.data], laidTests := true, laidLooks := .later }
def LockMoreUptoCardSaid : Prop := Claim7.holds Tryd.pinned (.plain (OpenSpec.upto lockMoreSpec)) lockMoreUptoCard

/-- THE SECOND FORM's CARD OF 'saronlaw07.LockKnown'. -/
def lockKnownUptoCard : Claim7 := { stood := { row := lockKnownUptoRow, standIns := [], harness := (true, "294b6857c8153bc1b4fd56b35d256ff9b89632188ac90563f4eff2729bc91a43"), looks := false }, kinds := [], alts := [], laidByText := true, laidKinds := [.data], laidTests := true, laidLooks := .later }
def LockKnownUptoCardSaid : Prop := Claim7.holds Tryd.pinned (.plain (OpenSpec.upto lockKnownSpec)) lockKnownUptoCard
end Rows
end Go.Proofs.YthhbfbmfhldbaaaDoor
