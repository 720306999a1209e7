/-
  No cell of these rows narrows 'for every input' (looked for: loops, veiled, ifaces, maps, wideKeys, modest, calm, conditions, laid).
  DERIVED. THE GIVEN ROWS OF THIS SEAT. 4 by the template 'for every input the law returns true; each argument reads behind the call as it read before'; 0 by the template 'total and deterministic' (their statements: YtniplfmjbjjocaaTotals.lean).
  GIVEN WITH THE SEED: the statements are not yours to turn. If you find one false, say at which input.
  Laid BY PROGRAM, IN A SANDBOX (cutbox-rows.mjs): the forced cells as the released guide's own fill.sh prints them over the translation 6a72502175bc690f… (all of the seat's roots in one cut). By AI agents, Wed Nov 11 2026. No macro, syntax, notation, axiom, sorry.
-/
import Derived.Test.YtniplfmjbjjocaaChecked
import GoSem.Claim
import GoSem.ClaimJoined
import GoSem.ClaimMapViews
import Derived.JoinedTies
import Derived.KernelRfl
namespace Go.Proofs.Ytniplfmjbjjocaa
/- THE CELL 'sum', in the pinned program and in every row, IS THE sha256 OF THE DUMP (.gsa) THAT YtniplfmjbjjocaaProg.lean LOADS. Nothing in Lean hashes anything: it is a label: what it is worth is what the hold of that sum in a sandbox is worth. -/
noncomputable def Try.pinned : Pinned := { name := "ytniplfmjbjjocaa", sum := "6a72502175bc690f44fe0b9d25496ac517528985699c577a7c0d41022b62ea94", checked := Try.checked }
namespace Rows
def none {H : Type} : Left H := { results := [], args := [] }

/-- 'saronlaw02.ForgeEasier': WHATEVER THE INPUT: true; the input reads as it did. -/
def forgeEasierSpec : ChangeSpec := { name := "forgeEasier", fn := fun _ => fun
  | [d1, d2, d3] => { results := [.lit (.bool true)], args := [d1, d2, d3] }
  | _ => none }
def forgeEasierRow : OpenClaim := { program := "ytniplfmjbjjocaa", sum := "6a72502175bc690f44fe0b9d25496ac517528985699c577a7c0d41022b62ea94", func := "saron/saronlaw02.ForgeEasier", spec := "forgeEasier", unfollowed := true, recurses := true, plainKeys := false, apart := false }
def ForgeEasierSaid : Prop := forgeEasierRow.holds Try.pinned (OpenSpec.ofChange forgeEasierSpec)

/-- ITS FALSE NEIGHBOUR: 'it returns false'. Refute it at one input. -/
def forgeEasierWrong : ChangeSpec := { name := "forgeEasier", fn := fun _ => fun
  | [d1, d2, d3] => { results := [.lit (.bool false)], args := [d1, d2, d3] }
  | _ => none }
def ForgeEasierWrongFalsely : Prop := forgeEasierRow.holds Try.pinned (OpenSpec.ofChange forgeEasierWrong)

/-- 'saronlaw02.ForgeEnds': WHATEVER THE INPUT: true; the input reads as it did. -/
def forgeEndsSpec : ChangeSpec := { name := "forgeEnds", fn := fun _ => fun
  | [d1, d2] => { results := [.lit (.bool true)], args := [d1, d2] }
  | _ => none }
def forgeEndsRow : OpenClaim := { program := "ytniplfmjbjjocaa", sum := "6a72502175bc690f44fe0b9d25496ac517528985699c577a7c0d41022b62ea94", func := "saron/saronlaw02.ForgeEnds", spec := "forgeEnds", unfollowed := true, recurses := true, plainKeys := false, apart := false }
def ForgeEndsSaid : Prop := forgeEndsRow.holds Try.pinned (OpenSpec.ofChange forgeEndsSpec)

/-- ITS FALSE NEIGHBOUR: 'it returns false'. Refute it at one input. -/
def forgeEndsWrong : ChangeSpec := { name := "forgeEnds", fn := fun _ => fun
  | [d1, d2] => { results := [.lit (.bool false)], args := [d1, d2] }
  | _ => none }
def ForgeEndsWrongFalsely : Prop := forgeEndsRow.holds Try.pinned (OpenSpec.ofChange forgeEndsWrong)

/-- 'saronlaw02.ForgeReady': WHATEVER THE INPUT: true; the input reads as it did. -/
def forgeReadySpec : ChangeSpec := { name := "forgeReady", fn := fun _ => fun
  | [d1, d2] => { results := [.lit (.bool true)], args := [d1, d2] }
  | _ => none }
def forgeReadyRow : OpenClaim := { program := "ytniplfmjbjjocaa", sum := "6a72502175bc690f44fe0b9d25496ac517528985699c577a7c0d41022b62ea94", func := "saron/saronlaw02.ForgeReady", spec := "forgeReady", unfollowed := true, recurses := true, plainKeys := false, apart := false }
def ForgeReadySaid : Prop := forgeReadyRow.holds Try.pinned (OpenSpec.ofChange forgeReadySpec)

/-- ITS FALSE NEIGHBOUR: 'it returns false'. Refute it at one input. -/
def forgeReadyWrong : ChangeSpec := { name := "forgeReady", fn := fun _ => fun
  | [d1, d2] => { results := [.lit (.bool false)], args := [d1, d2] }
  | _ => none }
def ForgeReadyWrongFalsely : Prop := forgeReadyRow.holds Try.pinned (OpenSpec.ofChange forgeReadyWrong)

/-- 'saronlaw02.ForgeHeats': WHATEVER THE INPUT: true; the input reads as it did. -/
def forgeHeatsSpec : ChangeSpec := { name := "forgeHeats", fn := fun _ => fun
  | [d1, d2] => { results := [.lit (.bool true)], args := [d1, d2] }
  | _ => none }
def forgeHeatsRow : OpenClaim := { program := "ytniplfmjbjjocaa", sum := "6a72502175bc690f44fe0b9d25496ac517528985699c577a7c0d41022b62ea94", func := "saron/saronlaw02.ForgeHeats", spec := "forgeHeats", unfollowed := true, recurses := true, plainKeys := false, apart := false }
def ForgeHeatsSaid : Prop := forgeHeatsRow.holds Try.pinned (OpenSpec.ofChange forgeHeatsSpec)

/-- ITS FALSE NEIGHBOUR: 'it returns false'. Refute it at one input. -/
def forgeHeatsWrong : ChangeSpec := { name := "forgeHeats", fn := fun _ => fun
  | [d1, d2] => { results := [.lit (.bool false)], args := [d1, d2] }
  | _ => none }
def ForgeHeatsWrongFalsely : Prop := forgeHeatsRow.holds Try.pinned (OpenSpec.ofChange forgeHeatsWrong)

/- THE SECOND FORM. 'bulk': how many values and letters a reading holds, each counted each time it is reached (what is shared counts as often as it is met; a slice's spare places count too). A statement '..UptoSaid' is the law's where the arguments, and the package variables that the reading takes, are together of bulk at most 1048576: NARROWER than '..Said'. Prove '..Said' where nothing that the law and all that it calls make is longer than what came in: it says more and counts as full. Else prove '..UptoSaid'. A law counts once. -/
mutual
def uptoBulk {H : Type} : DataW H → Nat
  | .lit (.string bytes) => bytes.length + 1
  | .lit _ => 1
  | .nil => 1
  | .ptr d => uptoBulk d + 1
  | .slice elems spare => uptoBulkAll elems + uptoBulkAll spare + 1
  | .agg parts => uptoBulkAll parts + 1
  | .iface _ d => uptoBulk d + 1
  | .map entries => uptoBulkEntries entries + 1
  | .held _ => 1
def uptoBulkAll {H : Type} : List (DataW H) → Nat
  | [] => 0
  | d :: r => uptoBulk d + uptoBulkAll r
def uptoBulkEntries {H : Type} : List (Lit × DataW H) → Nat
  | [] => 0
  | x :: r => uptoBulkEntry x + uptoBulkEntries r
def uptoBulkEntry {H : Type} : Lit × DataW H → Nat
  | (.string bytes, d) => bytes.length + uptoBulk d + 1
  | (_, d) => uptoBulk d + 1
 end
def uptoSmall : (H : Type) → List (DataW H) → Bool := fun _ ds => decide (uptoBulkAll ds ≤ 1048576)
def OpenSpec.upto (s : _root_.Go.ChangeSpec) : _root_.Go.OpenSpec := { _root_.Go.OpenSpec.ofChange s with cond := some uptoSmall }

/-- 'saronlaw02.ForgeEasier', WHERE WHAT IT READS IS OF BULK AT MOST 1048576: true; the input reads as it did. -/
def forgeEasierUptoRow : OpenClaim := { program := "ytniplfmjbjjocaa", sum := "6a72502175bc690f44fe0b9d25496ac517528985699c577a7c0d41022b62ea94", func := "saron/saronlaw02.ForgeEasier", spec := "forgeEasier", unfollowed := true, recurses := true, plainKeys := false, apart := false, narrowed := true }
def ForgeEasierUptoSaid : Prop := forgeEasierUptoRow.holds Try.pinned (OpenSpec.upto forgeEasierSpec)

/-- 'saronlaw02.ForgeEnds', WHERE WHAT IT READS IS OF BULK AT MOST 1048576: true; the input reads as it did. -/
def forgeEndsUptoRow : OpenClaim := { program := "ytniplfmjbjjocaa", sum := "6a72502175bc690f44fe0b9d25496ac517528985699c577a7c0d41022b62ea94", func := "saron/saronlaw02.ForgeEnds", spec := "forgeEnds", unfollowed := true, recurses := true, plainKeys := false, apart := false, narrowed := true }
def ForgeEndsUptoSaid : Prop := forgeEndsUptoRow.holds Try.pinned (OpenSpec.upto forgeEndsSpec)

/-- 'saronlaw02.ForgeReady', WHERE WHAT IT READS IS OF BULK AT MOST 1048576: true; the input reads as it did. -/
def forgeReadyUptoRow : OpenClaim := { program := "ytniplfmjbjjocaa", sum := "6a72502175bc690f44fe0b9d25496ac517528985699c577a7c0d41022b62ea94", func := "saron/saronlaw02.ForgeReady", spec := "forgeReady", unfollowed := true, recurses := true, plainKeys := false, apart := false, narrowed := true }
def ForgeReadyUptoSaid : Prop := forgeReadyUptoRow.holds Try.pinned (OpenSpec.upto forgeReadySpec)

/-- 'saronlaw02.ForgeHeats', WHERE WHAT IT READS IS OF BULK AT MOST 1048576: true; the input reads as it did. -/
def forgeHeatsUptoRow : OpenClaim := { program := "ytniplfmjbjjocaa", sum := "6a72502175bc690f44fe0b9d25496ac517528985699c577a7c0d41022b62ea94", func := "saron/saronlaw02.ForgeHeats", spec := "forgeHeats", unfollowed := true, recurses := true, plainKeys := false, apart := false, narrowed := true }
def ForgeHeatsUptoSaid : Prop := forgeHeatsUptoRow.holds Try.pinned (OpenSpec.upto forgeHeatsSpec)

end Rows
end Go.Proofs.Ytniplfmjbjjocaa
