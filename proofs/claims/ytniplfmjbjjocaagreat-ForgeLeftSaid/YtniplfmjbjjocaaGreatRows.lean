/-
  No cell of these rows narrows 'for every input' (looked for: loops, veiled, ifaces, maps, wideKeys, modest, calm, conditions, laid).
  DERIVED. THE GIVEN ROWS OF THIS SEAT. 5 by the template 'for every input the law returns true; each argument reads behind the call as it read before'; 0 by the template 'total and deterministic' (their statements: YtniplfmjbjjocaaGreatTotals.lean).
  GIVEN WITH THE SEED: the statements are not yours to turn. If you find one false, say at which input.
  Laid BY PROGRAM, IN A SANDBOX (cutbox-rows.mjs): the forced cells as the released guide's own fill.sh prints them over the translation 57f14d529cf88c5b… (all of the seat's roots in one cut). By AI agents, Wed Nov 11 2026. No macro, syntax, notation, axiom, sorry.
-/
import Derived.Test.YtniplfmjbjjocaaGreatChecked
import GoSem.Claim
import GoSem.ClaimJoined
import GoSem.ClaimMapViews
import Derived.JoinedTies
import Derived.KernelRfl
namespace Go.Proofs.YtniplfmjbjjocaaGreat
/- THE CELL 'sum', in the pinned program and in every row, IS THE sha256 OF THE DUMP (.gsa) THAT YtniplfmjbjjocaaGreatProg.lean LOADS. Nothing in Lean hashes anything: it is a label: what it is worth is what the hold of that sum in a sandbox is worth. -/
noncomputable def Tryz.pinned : Pinned := { name := "ytniplfmjbjjocaagreat", sum := "57f14d529cf88c5b80ade5e918d5534dcc539e43640d0216a4f9620b521d8f08", checked := Tryz.checked }
namespace Rows
def none {H : Type} : Left H := { results := [], args := [] }

/-- 'saronlaw02.ForgeStrengths': WHATEVER THE INPUT: true; the input reads as it did. -/
def forgeStrengthsSpec : ChangeSpec := { name := "forgeStrengths", fn := fun _ => fun
  | [d1, d2] => { results := [.lit (.bool true)], args := [d1, d2] }
  | _ => none }
def forgeStrengthsRow : OpenClaim := { program := "ytniplfmjbjjocaagreat", sum := "57f14d529cf88c5b80ade5e918d5534dcc539e43640d0216a4f9620b521d8f08", func := "saron/saronlaw02.ForgeStrengths", spec := "forgeStrengths", unfollowed := true, recurses := true, plainKeys := false, apart := false }
def ForgeStrengthsSaid : Prop := forgeStrengthsRow.holds Tryz.pinned (OpenSpec.ofChange forgeStrengthsSpec)

/-- ITS FALSE NEIGHBOUR: 'it returns false'. Refute it at one input. -/
def forgeStrengthsWrong : ChangeSpec := { name := "forgeStrengths", fn := fun _ => fun
  | [d1, d2] => { results := [.lit (.bool false)], args := [d1, d2] }
  | _ => none }
def ForgeStrengthsWrongFalsely : Prop := forgeStrengthsRow.holds Tryz.pinned (OpenSpec.ofChange forgeStrengthsWrong)

/-- 'saronlaw02.ForgeBlows': WHATEVER THE INPUT: true; the input reads as it did. -/
def forgeBlowsSpec : ChangeSpec := { name := "forgeBlows", fn := fun _ => fun
  | [d1, d2] => { results := [.lit (.bool true)], args := [d1, d2] }
  | _ => none }
def forgeBlowsRow : OpenClaim := { program := "ytniplfmjbjjocaagreat", sum := "57f14d529cf88c5b80ade5e918d5534dcc539e43640d0216a4f9620b521d8f08", func := "saron/saronlaw02.ForgeBlows", spec := "forgeBlows", unfollowed := true, recurses := true, plainKeys := false, apart := false }
def ForgeBlowsSaid : Prop := forgeBlowsRow.holds Tryz.pinned (OpenSpec.ofChange forgeBlowsSpec)

/-- ITS FALSE NEIGHBOUR: 'it returns false'. Refute it at one input. -/
def forgeBlowsWrong : ChangeSpec := { name := "forgeBlows", fn := fun _ => fun
  | [d1, d2] => { results := [.lit (.bool false)], args := [d1, d2] }
  | _ => none }
def ForgeBlowsWrongFalsely : Prop := forgeBlowsRow.holds Tryz.pinned (OpenSpec.ofChange forgeBlowsWrong)

/-- 'saronlaw02.ForgeTrue': WHATEVER THE INPUT: true; the input reads as it did. -/
def forgeTrueSpec : ChangeSpec := { name := "forgeTrue", fn := fun _ => fun
  | [d1, d2, d3] => { results := [.lit (.bool true)], args := [d1, d2, d3] }
  | _ => none }
def forgeTrueRow : OpenClaim := { program := "ytniplfmjbjjocaagreat", sum := "57f14d529cf88c5b80ade5e918d5534dcc539e43640d0216a4f9620b521d8f08", func := "saron/saronlaw02.ForgeTrue", spec := "forgeTrue", unfollowed := true, recurses := true, plainKeys := false, apart := false }
def ForgeTrueSaid : Prop := forgeTrueRow.holds Tryz.pinned (OpenSpec.ofChange forgeTrueSpec)

/-- ITS FALSE NEIGHBOUR: 'it returns false'. Refute it at one input. -/
def forgeTrueWrong : ChangeSpec := { name := "forgeTrue", fn := fun _ => fun
  | [d1, d2, d3] => { results := [.lit (.bool false)], args := [d1, d2, d3] }
  | _ => none }
def ForgeTrueWrongFalsely : Prop := forgeTrueRow.holds Tryz.pinned (OpenSpec.ofChange forgeTrueWrong)

/-- 'saronlaw02.ForgeMore': WHATEVER THE INPUT: true; the input reads as it did. -/
def forgeMoreSpec : ChangeSpec := { name := "forgeMore", fn := fun _ => fun
  | [d1, d2, d3] => { results := [.lit (.bool true)], args := [d1, d2, d3] }
  | _ => none }
def forgeMoreRow : OpenClaim := { program := "ytniplfmjbjjocaagreat", sum := "57f14d529cf88c5b80ade5e918d5534dcc539e43640d0216a4f9620b521d8f08", func := "saron/saronlaw02.ForgeMore", spec := "forgeMore", unfollowed := true, recurses := true, plainKeys := false, apart := false }
def ForgeMoreSaid : Prop := forgeMoreRow.holds Tryz.pinned (OpenSpec.ofChange forgeMoreSpec)

/-- ITS FALSE NEIGHBOUR: 'it returns false'. Refute it at one input. -/
def forgeMoreWrong : ChangeSpec := { name := "forgeMore", fn := fun _ => fun
  | [d1, d2, d3] => { results := [.lit (.bool false)], args := [d1, d2, d3] }
  | _ => none }
def ForgeMoreWrongFalsely : Prop := forgeMoreRow.holds Tryz.pinned (OpenSpec.ofChange forgeMoreWrong)

/-- 'saronlaw02.ForgeLeft': WHATEVER THE INPUT: true; the input reads as it did. -/
def forgeLeftSpec : ChangeSpec := { name := "forgeLeft", fn := fun _ => fun
  | [d1, d2] => { results := [.lit (.bool true)], args := [d1, d2] }
  | _ => none }
def forgeLeftRow : OpenClaim := { program := "ytniplfmjbjjocaagreat", sum := "57f14d529cf88c5b80ade5e918d5534dcc539e43640d0216a4f9620b521d8f08", func := "saron/saronlaw02.ForgeLeft", spec := "forgeLeft", unfollowed := true, recurses := true, plainKeys := false, apart := false }
def ForgeLeftSaid : Prop := forgeLeftRow.holds Tryz.pinned (OpenSpec.ofChange forgeLeftSpec)

/-- ITS FALSE NEIGHBOUR: 'it returns false'. Refute it at one input. -/
def forgeLeftWrong : ChangeSpec := { name := "forgeLeft", fn := fun _ => fun
  | [d1, d2] => { results := [.lit (.bool false)], args := [d1, d2] }
  | _ => none }
def ForgeLeftWrongFalsely : Prop := forgeLeftRow.holds Tryz.pinned (OpenSpec.ofChange forgeLeftWrong)

/- THE SECOND FORM. 'bulk': how many values and letters a reading holds, each counted each time it is reached (what is shared counts as often as it is met; a slice's spare places count too). A statement '..UptoSaid' is the law's where the arguments, and the package variables that the reading takes, are together of bulk at most 1048576: NARROWER than '..Said'. Prove '..Said' where nothing that the law and all that it calls make is longer than what came in: it says more and counts as full. Else prove '..UptoSaid'. A law counts once. -/
mutual
def uptoBulk {H : Type} : DataW H → Nat
  | .lit (.string bytes) => bytes.length + 1
  | .lit _ => 1
  | .nil => 1
  | .ptr d => uptoBulk d + 1
  | .slice elems spare => uptoBulkAll elems + uptoBulkAll spare + 1
  | .agg parts => uptoBulkAll parts + 1
  | .iface _ d => uptoBulk d + 1
  | .map entries => uptoBulkEntries entries + 1
  | .held _ => 1
def uptoBulkAll {H : Type} : List (DataW H) → Nat
  | [] => 0
  | d :: r => uptoBulk d + uptoBulkAll r
def uptoBulkEntries {H : Type} : List (Lit × DataW H) → Nat
  | [] => 0
  | x :: r => uptoBulkEntry x + uptoBulkEntries r
def uptoBulkEntry {H : Type} : Lit × DataW H → Nat
  | (.string bytes, d) => bytes.length + uptoBulk d + 1
  | (_, d) => uptoBulk d + 1
 end
def uptoSmall : (H : Type) → List (DataW H) → Bool := fun _ ds => decide (uptoBulkAll ds ≤ 1048576)
def OpenSpec.upto (s : _root_.Go.ChangeSpec) : _root_.Go.OpenSpec := { _root_.Go.OpenSpec.ofChange s with cond := some uptoSmall }

/-- 'saronlaw02.ForgeStrengths', WHERE WHAT IT READS IS OF BULK AT MOST 1048576: true; the input reads as it did. -/
def forgeStrengthsUptoRow : OpenClaim := { program := "ytniplfmjbjjocaagreat", sum := "57f14d529cf88c5b80ade5e918d5534dcc539e43640d0216a4f9620b521d8f08", func := "saron/saronlaw02.ForgeStrengths", spec := "forgeStrengths", unfollowed := true, recurses := true, plainKeys := false, apart := false, narrowed := true }
def ForgeStrengthsUptoSaid : Prop := forgeStrengthsUptoRow.holds Tryz.pinned (OpenSpec.upto forgeStrengthsSpec)

/-- 'saronlaw02.ForgeBlows', WHERE WHAT IT READS IS OF BULK AT MOST 1048576: true; the input reads as it did. -/
def forgeBlowsUptoRow : OpenClaim := { program := "ytniplfmjbjjocaagreat", sum := "57f14d529cf88c5b80ade5e918d5534dcc539e43640d0216a4f9620b521d8f08", func := "saron/saronlaw02.ForgeBlows", spec := "forgeBlows", unfollowed := true, recurses := true, plainKeys := false, apart := false, narrowed := true }
def ForgeBlowsUptoSaid : Prop := forgeBlowsUptoRow.holds Tryz.pinned (OpenSpec.upto forgeBlowsSpec)

/-- 'saronlaw02.ForgeTrue', WHERE WHAT IT READS IS OF BULK AT MOST 1048576: true; the input reads as it did. -/
def forgeTrueUptoRow : OpenClaim := { program := "ytniplfmjbjjocaagreat", sum := "57f14d529cf88c5b80ade5e918d5534dcc539e43640d0216a4f9620b521d8f08", func := "saron/saronlaw02.ForgeTrue", spec := "forgeTrue", unfollowed := true, recurses := true, plainKeys := false, apart := false, narrowed := true }
def ForgeTrueUptoSaid : Prop := forgeTrueUptoRow.holds Tryz.pinned (OpenSpec.upto forgeTrueSpec)

/-- 'saronlaw02.ForgeMore', WHERE WHAT IT READS IS OF BULK AT MOST 1048576: true; the input reads as it did. -/
def forgeMoreUptoRow : OpenClaim := { program := "ytniplfmjbjjocaagreat", sum := "57f14d529cf88c5b80ade5e918d5534dcc539e43640d0216a4f9620b521d8f08", func := "saron/saronlaw02.ForgeMore", spec := "forgeMore", unfollowed := true, recurses := true, plainKeys := false, apart := false, narrowed := true }
def ForgeMoreUptoSaid : Prop := forgeMoreUptoRow.holds Tryz.pinned (OpenSpec.upto forgeMoreSpec)

/-- 'saronlaw02.ForgeLeft', WHERE WHAT IT READS IS OF BULK AT MOST 1048576: true; the input reads as it did. -/
def forgeLeftUptoRow : OpenClaim := { program := "ytniplfmjbjjocaagreat", sum := "57f14d529cf88c5b80ade5e918d5534dcc539e43640d0216a4f9620b521d8f08", func := "saron/saronlaw02.ForgeLeft", spec := "forgeLeft", unfollowed := true, recurses := true, plainKeys := false, apart := false, narrowed := true }
def ForgeLeftUptoSaid : Prop := forgeLeftUptoRow.holds Tryz.pinned (OpenSpec.upto forgeLeftSpec)

end Rows
end Go.Proofs.YtniplfmjbjjocaaGreat
