/-
  No cell of these rows narrows 'for every input' (looked for: loops, veiled, ifaces, maps, wideKeys, modest, calm, conditions, laid).
  DERIVED. THE GIVEN ROWS OF THIS SEAT. 3 by the template 'for every input the law returns true; each argument reads behind the call as it read before'; 0 by the template 'total and deterministic' (their statements: YtnkmhgojbinhkacTotals.lean).
  GIVEN WITH THE SEED: the statements are not yours to turn. If you find one false, say at which input.
  Laid BY PROGRAM, IN A SANDBOX (cutbox-rows.mjs): the forced cells as the released guide's own fill.sh prints them over the translation e973aac04310eef3… (all of the seat's roots in one cut). By AI agents, Wed Nov 11 2026. No macro, syntax, notation, axiom, sorry.
-/
import Derived.Test.YtnkmhgojbinhkacChecked
import GoSem.Claim
import GoSem.ClaimJoined
import GoSem.ClaimMapViews
import Derived.JoinedTies
import Derived.KernelRfl
namespace Go.Proofs.Ytnkmhgojbinhkac
/- THE CELL 'sum', in the pinned program and in every row, IS THE sha256 OF THE DUMP (.gsa) THAT YtnkmhgojbinhkacProg.lean LOADS. Nothing in Lean hashes anything: it is a label: what it is worth is what the hold of that sum in a sandbox is worth. -/
noncomputable def Try.pinned : Pinned := { name := "ytnkmhgojbinhkac", sum := "e973aac04310eef330997176c16cf46c9a7e5d6709a416cf0b654a83d62c145b", checked := Try.checked }
namespace Rows
def none {H : Type} : Left H := { results := [], args := [] }

/-- 'saronlaw02.ForgeReady': WHATEVER THE INPUT: true; the input reads as it did. -/
def forgeReadySpec : ChangeSpec := { name := "forgeReady", fn := fun _ => fun
  | [d1, d2] => { results := [.lit (.bool true)], args := [d1, d2] }
  | _ => none }
def forgeReadyRow : OpenClaim := { program := "ytnkmhgojbinhkac", sum := "e973aac04310eef330997176c16cf46c9a7e5d6709a416cf0b654a83d62c145b", func := "saron/saronlaw02.ForgeReady", spec := "forgeReady", unfollowed := true, recurses := true, plainKeys := false, apart := false }
def ForgeReadySaid : Prop := forgeReadyRow.holds Try.pinned (OpenSpec.ofChange forgeReadySpec)

/-- ITS FALSE NEIGHBOUR: 'it returns false'. Refute it at one input. -/
def forgeReadyWrong : ChangeSpec := { name := "forgeReady", fn := fun _ => fun
  | [d1, d2] => { results := [.lit (.bool false)], args := [d1, d2] }
  | _ => none }
def ForgeReadyWrongFalsely : Prop := forgeReadyRow.holds Try.pinned (OpenSpec.ofChange forgeReadyWrong)

/-- 'saronlaw02.ForgeHeats': WHATEVER THE INPUT: true; the input reads as it did. -/
def forgeHeatsSpec : ChangeSpec := { name := "forgeHeats", fn := fun _ => fun
  | [d1, d2] => { results := [.lit (.bool true)], args := [d1, d2] }
  | _ => none }
def forgeHeatsRow : OpenClaim := { program := "ytnkmhgojbinhkac", sum := "e973aac04310eef330997176c16cf46c9a7e5d6709a416cf0b654a83d62c145b", func := "saron/saronlaw02.ForgeHeats", spec := "forgeHeats", unfollowed := true, recurses := true, plainKeys := false, apart := false }
def ForgeHeatsSaid : Prop := forgeHeatsRow.holds Try.pinned (OpenSpec.ofChange forgeHeatsSpec)

/-- ITS FALSE NEIGHBOUR: 'it returns false'. Refute it at one input. -/
def forgeHeatsWrong : ChangeSpec := { name := "forgeHeats", fn := fun _ => fun
  | [d1, d2] => { results := [.lit (.bool false)], args := [d1, d2] }
  | _ => none }
def ForgeHeatsWrongFalsely : Prop := forgeHeatsRow.holds Try.pinned (OpenSpec.ofChange forgeHeatsWrong)

/-- 'saronlaw02.ForgeKnown': WHATEVER THE INPUT: true; the input reads as it did. -/
def forgeKnownSpec : ChangeSpec := { name := "forgeKnown", fn := fun _ => fun
  | [] => { results := [.lit (.bool true)], args := [] }
  | _ => none }
def forgeKnownRow : OpenClaim := { program := "ytnkmhgojbinhkac", sum := "e973aac04310eef330997176c16cf46c9a7e5d6709a416cf0b654a83d62c145b", func := "saron/saronlaw02.ForgeKnown", spec := "forgeKnown", unfollowed := true, recurses := true, plainKeys := false, apart := false }
def ForgeKnownSaid : Prop := forgeKnownRow.holds Try.pinned (OpenSpec.ofChange forgeKnownSpec)

/-- ITS FALSE NEIGHBOUR: 'it returns false'. Refute it at one input. -/
def forgeKnownWrong : ChangeSpec := { name := "forgeKnown", fn := fun _ => fun
  | [] => { results := [.lit (.bool false)], args := [] }
  | _ => none }
def ForgeKnownWrongFalsely : Prop := forgeKnownRow.holds Try.pinned (OpenSpec.ofChange forgeKnownWrong)

/- THE SECOND FORM. 'bulk': how many values and letters a reading holds, each counted each time it is reached (what is shared counts as often as it is met; a slice's spare places count too). A statement '..UptoSaid' is the law's where the arguments, and the package variables that the reading takes, are together of bulk at most 1048576: NARROWER than '..Said'. Prove '..Said' where nothing that the law and all that it calls make is longer than what came in: it says more and counts as full. Else prove '..UptoSaid'. A law counts once. -/
mutual
def uptoBulk {H : Type} : DataW H → Nat
  | .lit (.string bytes) => bytes.length + 1
  | .lit _ => 1
  | .nil => 1
  | .ptr d => uptoBulk d + 1
  | .slice elems spare => uptoBulkAll elems + uptoBulkAll spare + 1
  | .agg parts => uptoBulkAll parts + 1
  | .iface _ d => uptoBulk d + 1
  | .map entries => uptoBulkEntries entries + 1
  | .held _ => 1
def uptoBulkAll {H : Type} : List (DataW H) → Nat
  | [] => 0
  | d :: r => uptoBulk d + uptoBulkAll r
def uptoBulkEntries {H : Type} : List (Lit × DataW H) → Nat
  | [] => 0
  | x :: r => uptoBulkEntry x + uptoBulkEntries r
def uptoBulkEntry {H : Type} : Lit × DataW H → Nat
  | (.string bytes, d) => bytes.length + uptoBulk d + 1
  | (_, d) => uptoBulk d + 1
 end
def uptoSmall : (H : Type) → List (DataW H) → Bool := fun _ ds => decide (uptoBulkAll ds ≤ 1048576)
def OpenSpec.upto (s : _root_.Go.ChangeSpec) : _root_.Go.OpenSpec := { _root_.Go.OpenSpec.ofChange s with cond := some uptoSmall }

/-- 'saronlaw02.ForgeReady', WHERE WHAT IT READS IS OF BULK AT MOST 1048576: true; the input reads as it did. -/
def forgeReadyUptoRow : OpenClaim := { program := "ytnkmhgojbinhkac", sum := "e973aac04310eef330997176c16cf46c9a7e5d6709a416cf0b654a83d62c145b", func := "saron/saronlaw02.ForgeReady", spec := "forgeReady", unfollowed := true, recurses := true, plainKeys := false, apart := false, narrowed := true }
def ForgeReadyUptoSaid : Prop := forgeReadyUptoRow.holds Try.pinned (OpenSpec.upto forgeReadySpec)

/-- 'saronlaw02.ForgeHeats', WHERE WHAT IT READS IS OF BULK AT MOST 1048576: true; the input reads as it did. -/
def forgeHeatsUptoRow : OpenClaim := { program := "ytnkmhgojbinhkac", sum := "e973aac04310eef330997176c16cf46c9a7e5d6709a416cf0b654a83d62c145b", func := "saron/saronlaw02.ForgeHeats", spec := "forgeHeats", unfollowed := true, recurses := true, plainKeys := false, apart := false, narrowed := true }
def ForgeHeatsUptoSaid : Prop := forgeHeatsUptoRow.holds Try.pinned (OpenSpec.upto forgeHeatsSpec)

/-- 'saronlaw02.ForgeKnown', WHERE WHAT IT READS IS OF BULK AT MOST 1048576: true; the input reads as it did. -/
def forgeKnownUptoRow : OpenClaim := { program := "ytnkmhgojbinhkac", sum := "e973aac04310eef330997176c16cf46c9a7e5d6709a416cf0b654a83d62c145b", func := "saron/saronlaw02.ForgeKnown", spec := "forgeKnown", unfollowed := true, recurses := true, plainKeys := false, apart := false, narrowed := true }
def ForgeKnownUptoSaid : Prop := forgeKnownUptoRow.holds Try.pinned (OpenSpec.upto forgeKnownSpec)

end Rows
end Go.Proofs.Ytnkmhgojbinhkac
