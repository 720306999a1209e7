/-
  DERIVED. GIVEN WITH THE SEED: THE CARDS: each row of YtlknfhjfkcboiaaDoorRows.lean that lists a variable, with what it lists TIED to the program's text (the seventh form; the later family's looks); each row that meets fmt, with fmt's text TOLD by the authors' own Lean function (tested against real Go, not proved from fmt's source: count such statements apart). THE CARD IS WHAT COUNTS. Prove the row's statement (the work); the ties are given (YtlknfhjfkcboiaaDoorTie.lean); close each card by the builder's one call (the guide's Derived/Test/ToyasCard.lean, 'card_holds'). Laid BY PROGRAM, IN A SANDBOX (cutbox-door.mjs). By AI agents, Wed Nov 11 2026. No macro, syntax, notation, axiom, sorry.
-/
import Derived.Test.YtlknfhjfkcboiaaDoorRows
import GoSem.ClaimSeven
namespace Go.Proofs.YtlknfhjfkcboiaaDoor
namespace Rows

/-- THE TIED CARD OF 'saronlaw10.NightFits'. -/
def nightFitsCard : Claim7 := { stood := { row := nightFitsRow, standIns := [], harness := (true, "0597dacfd26a2d3aed9551b6c138d00af1881979d352592c278aeca749baff0f"), looks := false }, kinds := [], alts := [], laidByText := true, laidKinds := [.data], laidTests := true, laidLooks := .later }
def NightFitsCardSaid : Prop := Claim7.holds Tryd.pinned (.plain (OpenSpec.ofChange nightFitsSpec)) nightFitsCard

/-- THE TIED CARD OF 'saronlaw10.NightCues'. -/
def nightCuesCard : Claim7 := { stood := { row := nightCuesRow, standIns := [], harness := (true, "0597dacfd26a2d3aed9551b6c138d00af1881979d352592c278aeca749baff0f"), looks := false }, kinds := [], alts := [], laidByText := true, laidKinds := [.data], laidTests := true, laidLooks := .later }
def NightCuesCardSaid : Prop := Claim7.holds Tryd.pinned (.plain (OpenSpec.ofChange nightCuesSpec)) nightCuesCard

/-- THE TIED CARD OF 'saronlaw10.NightTrue'. -/
def nightTrueCard : Claim7 := { stood := { row := nightTrueRow, standIns := [], harness := (true, "0597dacfd26a2d3aed9551b6c138d00af1881979d352592c278aeca749baff0f"), looks := false }, kinds := [], alts := [], laidByText := true, laidKinds := [.data], laidTests := true, laidLooks := .later }
def NightTrueCardSaid : Prop := Claim7.holds Tryd.pinned (.plain (OpenSpec.ofChange nightTrueSpec)) nightTrueCard

/-- THE TIED CARD OF 'saronlaw10.NightEnds'. -/
def nightEndsCard : Claim7 := { stood := { row := nightEndsRow, standIns := [], harness := (true, "0597dacfd26a2d3aed9551b6c138d00af1881979d352592c278aeca749baff0f"), looks := false }, kinds := [], alts := [], laidByText := true, laidKinds := [.data], laidTests := true, laidLooks := .later }
def NightEndsCardSaid : Prop := Claim7.holds Tryd.pinned (.plain (OpenSpec.ofChange nightEndsSpec)) nightEndsCard

/-- THE TIED CARD OF 'saronlaw10.NightLeast'. -/
def nightLeastCard : Claim7 := { stood := { row := nightLeastRow, standIns := [], harness := (true, "0597dacfd26a2d3aed9551b6c138d00af1881979d352592c278aeca749baff0f"), looks := false }, kinds := [], alts := [], laidByText := true, laidKinds := [.data], laidTests := true, laidLooks := .later }
def NightLeastCardSaid : Prop := Claim7.holds Tryd.pinned (.plain (OpenSpec.ofChange nightLeastSpec)) nightLeastCard

/-- THE TIED CARD OF 'saronlaw10.NightCued'. -/
def nightCuedCard : Claim7 := { stood := { row := nightCuedRow, standIns := [], harness := (true, "0597dacfd26a2d3aed9551b6c138d00af1881979d352592c278aeca749baff0f"), looks := false }, kinds := [], alts := [], laidByText := true, laidKinds := [.data], laidTests := true, laidLooks := .later }
def NightCuedCardSaid : Prop := Claim7.holds Tryd.pinned (.plain (OpenSpec.ofChange nightCuedSpec)) nightCuedCard

/-- THE TIED CARD OF 'saronlaw10.NightEasier'. -/
def nightEasierCard : Claim7 := { stood := { row := nightEasierRow, standIns := [], harness := (true, "0597dacfd26a2d3aed9551b6c138d00af1881979d352592c278aeca749baff0f"), looks := false }, kinds := [], alts := [], laidByText := true, laidKinds := [.data], laidTests := true, laidLooks := .later }
def NightEasierCardSaid : Prop := Claim7.holds Tryd.pinned (.plain (OpenSpec.ofChange nightEasierSpec)) nightEasierCard

/-- THE TIED CARD OF 'saronlaw10.NightSpared'. -/
def nightSparedCard : Claim7 := { stood := { row := nightSparedRow, standIns := [], harness := (true, "0597dacfd26a2d3aed9551b6c138d00af1881979d352592c278aeca749baff0f"), looks := false }, kinds := [], alts := [], laidByText := true, laidKinds := [.data], laidTests := true, laidLooks := .later }
def NightSparedCardSaid : Prop := Claim7.holds Tryd.pinned (.plain (OpenSpec.ofChange nightSparedSpec)) nightSparedCard

/-- THE TIED CARD OF 'saronlaw10.NightCarts'. -/
def nightCartsCard : Claim7 := { stood := { row := nightCartsRow, standIns := [], harness := (true, "0597dacfd26a2d3aed9551b6c138d00af1881979d352592c278aeca749baff0f"), looks := false }, kinds := [], alts := [], laidByText := true, laidKinds := [.data], laidTests := true, laidLooks := .later }
def NightCartsCardSaid : Prop := Claim7.holds Tryd.pinned (.plain (OpenSpec.ofChange nightCartsSpec)) nightCartsCard

/-- THE TIED CARD OF 'saronlaw10.NightCoins'. -/
def nightCoinsCard : Claim7 := { stood := { row := nightCoinsRow, standIns := [], harness := (true, "0597dacfd26a2d3aed9551b6c138d00af1881979d352592c278aeca749baff0f"), looks := false }, kinds := [], alts := [], laidByText := true, laidKinds := [.data], laidTests := true, laidLooks := .later }
def NightCoinsCardSaid : Prop := Claim7.holds Tryd.pinned (.plain (OpenSpec.ofChange nightCoinsSpec)) nightCoinsCard

/-- THE TIED CARD OF 'saronlaw10.NightKnown'. -/
def nightKnownCard : Claim7 := { stood := { row := nightKnownRow, standIns := [], harness := (true, "0597dacfd26a2d3aed9551b6c138d00af1881979d352592c278aeca749baff0f"), looks := false }, kinds := [], alts := [], laidByText := true, laidKinds := [.data], laidTests := true, laidLooks := .later }
def NightKnownCardSaid : Prop := Claim7.holds Tryd.pinned (.plain (OpenSpec.ofChange nightKnownSpec)) nightKnownCard

/-- THE SECOND FORM's CARD OF 'saronlaw10.NightFits'. -/
def nightFitsUptoCard : Claim7 := { stood := { row := nightFitsUptoRow, standIns := [], harness := (true, "0597dacfd26a2d3aed9551b6c138d00af1881979d352592c278aeca749baff0f"), looks := false }, kinds := [], alts := [], laidByText := true, laidKinds := [.data], laidTests := true, laidLooks := .later }
def NightFitsUptoCardSaid : Prop := Claim7.holds Tryd.pinned (.plain (OpenSpec.upto nightFitsSpec)) nightFitsUptoCard

/-- THE SECOND FORM's CARD OF 'saronlaw10.NightCues'. -/
def nightCuesUptoCard : Claim7 := { stood := { row := nightCuesUptoRow, standIns := [], harness := (true, "0597dacfd26a2d3aed9551b6c138d00af1881979d352592c278aeca749baff0f"), looks := false }, kinds := [], alts := [], laidByText := true, laidKinds := [.data], laidTests := true, laidLooks := .later }
def NightCuesUptoCardSaid : Prop := Claim7.holds Tryd.pinned (.plain (OpenSpec.upto nightCuesSpec)) nightCuesUptoCard

/-- THE SECOND FORM's CARD OF 'saronlaw10.NightTrue'. -/
def nightTrueUptoCard : Claim7 := { stood := { row := nightTrueUptoRow, standIns := [], harness := (true, "0597dacfd26a2d3aed9551b6c138d00af1881979d352592c278aeca749baff0f"), looks := false }, kinds := [], alts := [], laidByText := true, laidKinds := [.data], laidTests := true, laidLooks := .later }
def NightTrueUptoCardSaid : Prop := Claim7.holds Tryd.pinned (.plain (OpenSpec.upto nightTrueSpec)) nightTrueUptoCard

/-- THE SECOND FORM's CARD OF 'saronlaw10.NightEnds'. -/
def nightEndsUptoCard : Claim7 := { stood := { row := nightEndsUptoRow, standIns := [], harness := (true, "0597dacfd26a2d3aed9551b6c138d00af1881979d352592c278aeca749baff0f"), looks := false }, kinds := [], alts := [], laidByText := true, laidKinds := [.data], laidTests := true, laidLooks := .later }
def NightEndsUptoCardSaid : Prop := Claim7.holds Tryd.pinned (.plain (OpenSpec.upto nightEndsSpec)) nightEndsUptoCard

/-- THE SECOND FORM's CARD OF 'saronlaw10.NightLeast'. -/
def nightLeastUptoCard : Claim7 := { stood := { row := nightLeastUptoRow, standIns := [], harness := (true, "0597dacfd26a2d3aed9551b6c138d00af1881979d352592c278aeca749baff0f"), looks := false }, kinds := [], alts := [], laidByText := true, laidKinds := [.data], laidTests := true, laidLooks := .later }
def NightLeastUptoCardSaid : Prop := Claim7.holds Tryd.pinned (.plain (OpenSpec.upto nightLeastSpec)) nightLeastUptoCard

/-- THE SECOND FORM's CARD OF 'saronlaw10.NightCued'. -/
def nightCuedUptoCard : Claim7 := { stood := { row := nightCuedUptoRow, standIns := [], harness := (true, "0597dacfd26a2d3aed9551b6c138d00af1881979d352592c278aeca749baff0f"), looks := false }, kinds := [], alts := [], laidByText := true, laidKinds := [.data], laidTests := true, laidLooks := .later }
def NightCuedUptoCardSaid : Prop := Claim7.holds Tryd.pinned (.plain (OpenSpec.upto nightCuedSpec)) nightCuedUptoCard

/-- THE SECOND FORM's CARD OF 'saronlaw10.NightEasier'. -/
def nightEasierUptoCard : Claim7 := { stood := { row := nightEasierUptoRow, standIns := [], harness := (true, "0597dacfd26a2d3aed9551b6c138d00af1881979d352592c278aeca749baff0f"), looks := false }, kinds := [], alts := [], laidByText := true, laidKinds := [.data], laidTests := true, laidLooks := .later }
def NightEasierUptoCardSaid : Prop := Claim7.holds Tryd.pinned (.plain (OpenSpec.upto nightEasierSpec)) nightEasierUptoCard

/-- THE SECOND FORM's CARD OF 'saronlaw10.NightSpared'. -/
def nightSparedUptoCard : Claim7 := { stood := { row := nightSparedUptoRow, standIns := [], harness := (true, "0597dacfd26a2d3aed9551b6c138d00af1881979d352592c278aeca749baff0f"), looks := false }, kinds := [], alts := [], laidByText := true, laidKinds := [.data], laidTests := true, laidLooks := .later }
def NightSparedUptoCardSaid : Prop := Claim7.holds Tryd.pinned (.plain (OpenSpec.upto nightSparedSpec)) nightSparedUptoCard

/-- THE SECOND FORM's CARD OF 'saronlaw10.NightCarts'. -/
def nightCartsUptoCard : Claim7 := { stood := { row := nightCartsUptoRow, standIns := [], harness := (true, "0597dacfd26a2d3aed9551b6c138d00af1881979d352592c278aeca749baff0f"), looks := false }, kinds := [], alts := [], laidByText := true, laidKinds := [.data], laidTests := true, laidLooks := .later }
def NightCartsUptoCardSaid : Prop := Claim7.holds Tryd.pinned (.plain (OpenSpec.upto nightCartsSpec)) nightCartsUptoCard

/-- THE SECOND FORM's CARD OF 'saronlaw10.NightCoins'. -/
def nightCoinsUptoCard : Claim7 := { stood := { row := nightCoinsUptoRow, standIns := [], harness := (true, "0597dacfd26a2d3aed9551b6c138d00af1881979d352592c278aeca749baff0f"), looks := false }, kinds := [], alts := [], laidByText := true, laidKinds := [.data], laidTests := true, laidLooks := .later }
def NightCoinsUptoCardSaid : Prop := Claim7.holds Tryd.pinned (.plain (OpenSpec.upto nightCoinsSpec)) nightCoinsUptoCard

/-- THE SECOND FORM's CARD OF 'saronlaw10.NightKnown'. -/
def nightKnownUptoCard : Claim7 := { stood := { row := nightKnownUptoRow, standIns := [], harness := (true, "0597dacfd26a2d3aed9551b6c138d00af1881979d352592c278aeca749baff0f"), looks := false }, kinds := [], alts := [], laidByText := true, laidKinds := [.data], laidTests := true, laidLooks := .later }
def NightKnownUptoCardSaid : Prop := Claim7.holds Tryd.pinned (.plain (OpenSpec.upto nightKnownSpec)) nightKnownUptoCard
end Rows
end Go.Proofs.YtlknfhjfkcboiaaDoor
