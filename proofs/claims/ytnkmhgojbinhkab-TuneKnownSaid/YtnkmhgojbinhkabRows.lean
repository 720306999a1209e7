/-
  No cell of these rows narrows 'for every input' (looked for: loops, veiled, ifaces, maps, wideKeys, modest, calm, conditions, laid).
  DERIVED. THE GIVEN ROWS OF THIS SEAT. 4 by the template 'for every input the law returns true; each argument reads behind the call as it read before'; 0 by the template 'total and deterministic' (their statements: YtnkmhgojbinhkabTotals.lean).
  GIVEN WITH THE SEED: the statements are not yours to turn. If you find one false, say at which input.
  Laid BY PROGRAM, IN A SANDBOX (cutbox-rows.mjs): the forced cells as the released guide's own fill.sh prints them over the translation d3aaad77fd779921… (all of the seat's roots in one cut). By AI agents, Wed Nov 11 2026. No macro, syntax, notation, axiom, sorry.
-/
import Derived.Test.YtnkmhgojbinhkabChecked
import GoSem.Claim
import GoSem.ClaimJoined
import GoSem.ClaimMapViews
import Derived.JoinedTies
import Derived.KernelRfl
namespace Go.Proofs.Ytnkmhgojbinhkab
/- THE CELL 'sum', in the pinned program and in every row, IS THE sha256 OF THE DUMP (.gsa) THAT YtnkmhgojbinhkabProg.lean LOADS. Nothing in Lean hashes anything: it is a label: what it is worth is what the hold of that sum in a sandbox is worth. -/
noncomputable def Try.pinned : Pinned := { name := "ytnkmhgojbinhkab", sum := "d3aaad77fd779921c8d7a395c5cc5bd572dcaaa4ef977eca6d0e7803f749e649", checked := Try.checked }
namespace Rows
def none {H : Type} : Left H := { results := [], args := [] }

/-- 'saronlaw01.TuneKnown': WHATEVER THE INPUT: true; the input reads as it did. -/
def tuneKnownSpec : ChangeSpec := { name := "tuneKnown", fn := fun _ => fun
  | [] => { results := [.lit (.bool true)], args := [] }
  | _ => none }
def tuneKnownRow : OpenClaim := { program := "ytnkmhgojbinhkab", sum := "d3aaad77fd779921c8d7a395c5cc5bd572dcaaa4ef977eca6d0e7803f749e649", func := "saron/saronlaw01.TuneKnown", spec := "tuneKnown", unfollowed := true, recurses := true, plainKeys := false, apart := false }
def TuneKnownSaid : Prop := tuneKnownRow.holds Try.pinned (OpenSpec.ofChange tuneKnownSpec)

/-- ITS FALSE NEIGHBOUR: 'it returns false'. Refute it at one input. -/
def tuneKnownWrong : ChangeSpec := { name := "tuneKnown", fn := fun _ => fun
  | [] => { results := [.lit (.bool false)], args := [] }
  | _ => none }
def TuneKnownWrongFalsely : Prop := tuneKnownRow.holds Try.pinned (OpenSpec.ofChange tuneKnownWrong)

/-- 'saronlaw02.ForgeKept': WHATEVER THE INPUT: true; the input reads as it did. -/
def forgeKeptSpec : ChangeSpec := { name := "forgeKept", fn := fun _ => fun
  | [d1, d2, d3] => { results := [.lit (.bool true)], args := [d1, d2, d3] }
  | _ => none }
def forgeKeptRow : OpenClaim := { program := "ytnkmhgojbinhkab", sum := "d3aaad77fd779921c8d7a395c5cc5bd572dcaaa4ef977eca6d0e7803f749e649", func := "saron/saronlaw02.ForgeKept", spec := "forgeKept", unfollowed := true, recurses := true, plainKeys := false, apart := false }
def ForgeKeptSaid : Prop := forgeKeptRow.holds Try.pinned (OpenSpec.ofChange forgeKeptSpec)

/-- ITS FALSE NEIGHBOUR: 'it returns false'. Refute it at one input. -/
def forgeKeptWrong : ChangeSpec := { name := "forgeKept", fn := fun _ => fun
  | [d1, d2, d3] => { results := [.lit (.bool false)], args := [d1, d2, d3] }
  | _ => none }
def ForgeKeptWrongFalsely : Prop := forgeKeptRow.holds Try.pinned (OpenSpec.ofChange forgeKeptWrong)

/-- 'saronlaw02.ForgeEasier': WHATEVER THE INPUT: true; the input reads as it did. -/
def forgeEasierSpec : ChangeSpec := { name := "forgeEasier", fn := fun _ => fun
  | [d1, d2, d3] => { results := [.lit (.bool true)], args := [d1, d2, d3] }
  | _ => none }
def forgeEasierRow : OpenClaim := { program := "ytnkmhgojbinhkab", sum := "d3aaad77fd779921c8d7a395c5cc5bd572dcaaa4ef977eca6d0e7803f749e649", func := "saron/saronlaw02.ForgeEasier", spec := "forgeEasier", unfollowed := true, recurses := true, plainKeys := false, apart := false }
def ForgeEasierSaid : Prop := forgeEasierRow.holds Try.pinned (OpenSpec.ofChange forgeEasierSpec)

/-- ITS FALSE NEIGHBOUR: 'it returns false'. Refute it at one input. -/
def forgeEasierWrong : ChangeSpec := { name := "forgeEasier", fn := fun _ => fun
  | [d1, d2, d3] => { results := [.lit (.bool false)], args := [d1, d2, d3] }
  | _ => none }
def ForgeEasierWrongFalsely : Prop := forgeEasierRow.holds Try.pinned (OpenSpec.ofChange forgeEasierWrong)

/-- 'saronlaw02.ForgeEnds': WHATEVER THE INPUT: true; the input reads as it did. -/
def forgeEndsSpec : ChangeSpec := { name := "forgeEnds", fn := fun _ => fun
  | [d1, d2] => { results := [.lit (.bool true)], args := [d1, d2] }
  | _ => none }
def forgeEndsRow : OpenClaim := { program := "ytnkmhgojbinhkab", sum := "d3aaad77fd779921c8d7a395c5cc5bd572dcaaa4ef977eca6d0e7803f749e649", func := "saron/saronlaw02.ForgeEnds", spec := "forgeEnds", unfollowed := true, recurses := true, plainKeys := false, apart := false }
def ForgeEndsSaid : Prop := forgeEndsRow.holds Try.pinned (OpenSpec.ofChange forgeEndsSpec)

/-- ITS FALSE NEIGHBOUR: 'it returns false'. Refute it at one input. -/
def forgeEndsWrong : ChangeSpec := { name := "forgeEnds", fn := fun _ => fun
  | [d1, d2] => { results := [.lit (.bool false)], args := [d1, d2] }
  | _ => none }
def ForgeEndsWrongFalsely : Prop := forgeEndsRow.holds Try.pinned (OpenSpec.ofChange forgeEndsWrong)

/- THE SECOND FORM. 'bulk': how many values and letters a reading holds, each counted each time it is reached (what is shared counts as often as it is met; a slice's spare places count too). A statement '..UptoSaid' is the law's where the arguments, and the package variables that the reading takes, are together of bulk at most 1048576: NARROWER than '..Said'. Prove '..Said' where nothing that the law and all that it calls make is longer than what came in: it says more and counts as full. Else prove '..UptoSaid'. A law counts once. -/
mutual
def uptoBulk {H : Type} : DataW H → Nat
  | .lit (.string bytes) => bytes.length + 1
  | .lit _ => 1
  | .nil => 1
  | .ptr d => uptoBulk d + 1
  | .slice elems spare => uptoBulkAll elems + uptoBulkAll spare + 1
  | .agg parts => uptoBulkAll parts + 1
  | .iface _ d => uptoBulk d + 1
  | .map entries => uptoBulkEntries entries + 1
  | .held _ => 1
def uptoBulkAll {H : Type} : List (DataW H) → Nat
  | [] => 0
  | d :: r => uptoBulk d + uptoBulkAll r
def uptoBulkEntries {H : Type} : List (Lit × DataW H) → Nat
  | [] => 0
  | x :: r => uptoBulkEntry x + uptoBulkEntries r
def uptoBulkEntry {H : Type} : Lit × DataW H → Nat
  | (.string bytes, d) => bytes.length + uptoBulk d + 1
  | (_, d) => uptoBulk d + 1
 end
def uptoSmall : (H : Type) → List (DataW H) → Bool := fun _ ds => decide (uptoBulkAll ds ≤ 1048576)
def OpenSpec.upto (s : _root_.Go.ChangeSpec) : _root_.Go.OpenSpec := { _root_.Go.OpenSpec.ofChange s with cond := some uptoSmall }

/-- 'saronlaw01.TuneKnown', WHERE WHAT IT READS IS OF BULK AT MOST 1048576: true; the input reads as it did. -/
def tuneKnownUptoRow : OpenClaim := { program := "ytnkmhgojbinhkab", sum := "d3aaad77fd779921c8d7a395c5cc5bd572dcaaa4ef977eca6d0e7803f749e649", func := "saron/saronlaw01.TuneKnown", spec := "tuneKnown", unfollowed := true, recurses := true, plainKeys := false, apart := false, narrowed := true }
def TuneKnownUptoSaid : Prop := tuneKnownUptoRow.holds Try.pinned (OpenSpec.upto tuneKnownSpec)

/-- 'saronlaw02.ForgeKept', WHERE WHAT IT READS IS OF BULK AT MOST 1048576: true; the input reads as it did. -/
def forgeKeptUptoRow : OpenClaim := { program := "ytnkmhgojbinhkab", sum := "d3aaad77fd779921c8d7a395c5cc5bd572dcaaa4ef977eca6d0e7803f749e649", func := "saron/saronlaw02.ForgeKept", spec := "forgeKept", unfollowed := true, recurses := true, plainKeys := false, apart := false, narrowed := true }
def ForgeKeptUptoSaid : Prop := forgeKeptUptoRow.holds Try.pinned (OpenSpec.upto forgeKeptSpec)

/-- 'saronlaw02.ForgeEasier', WHERE WHAT IT READS IS OF BULK AT MOST 1048576: true; the input reads as it did. -/
def forgeEasierUptoRow : OpenClaim := { program := "ytnkmhgojbinhkab", sum := "d3aaad77fd779921c8d7a395c5cc5bd572dcaaa4ef977eca6d0e7803f749e649", func := "saron/saronlaw02.ForgeEasier", spec := "forgeEasier", unfollowed := true, recurses := true, plainKeys := false, apart := false, narrowed := true }
def ForgeEasierUptoSaid : Prop := forgeEasierUptoRow.holds Try.pinned (OpenSpec.upto forgeEasierSpec)

/-- 'saronlaw02.ForgeEnds', WHERE WHAT IT READS IS OF BULK AT MOST 1048576: true; the input reads as it did. -/
def forgeEndsUptoRow : OpenClaim := { program := "ytnkmhgojbinhkab", sum := "d3aaad77fd779921c8d7a395c5cc5bd572dcaaa4ef977eca6d0e7803f749e649", func := "saron/saronlaw02.ForgeEnds", spec := "forgeEnds", unfollowed := true, recurses := true, plainKeys := false, apart := false, narrowed := true }
def ForgeEndsUptoSaid : Prop := forgeEndsUptoRow.holds Try.pinned (OpenSpec.upto forgeEndsSpec)

end Rows
end Go.Proofs.Ytnkmhgojbinhkab
