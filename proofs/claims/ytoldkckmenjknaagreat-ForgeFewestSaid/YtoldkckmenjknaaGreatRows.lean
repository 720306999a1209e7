/-
  No cell of these rows narrows 'for every input' (looked for: loops, veiled, ifaces, maps, wideKeys, modest, calm, conditions, laid).
  DERIVED. THE GIVEN ROWS OF THIS SEAT. 4 by the template 'for every input the law returns true; each argument reads behind the call as it read before'; 0 by the template 'total and deterministic' (their statements: YtoldkckmenjknaaGreatTotals.lean).
  GIVEN WITH THE SEED: the statements are not yours to turn. If you find one false, say at which input.
  Laid BY PROGRAM, IN A SANDBOX (cutbox-rows.mjs): the forced cells as the released guide's own fill.sh prints them over the translation 116e3e67a6c38343… (all of the seat's roots in one cut). By AI agents, Wed Nov 11 2026. No macro, syntax, notation, axiom, sorry.
-/
import Derived.Test.YtoldkckmenjknaaGreatChecked
import GoSem.Claim
import GoSem.ClaimJoined
import GoSem.ClaimMapViews
import Derived.JoinedTies
import Derived.KernelRfl
namespace Go.Proofs.YtoldkckmenjknaaGreat
/- THE CELL 'sum', in the pinned program and in every row, IS THE sha256 OF THE DUMP (.gsa) THAT YtoldkckmenjknaaGreatProg.lean LOADS. Nothing in Lean hashes anything: it is a label: what it is worth is what the hold of that sum in a sandbox is worth. -/
noncomputable def Tryz.pinned : Pinned := { name := "ytoldkckmenjknaagreat", sum := "116e3e67a6c38343d615b5afaf8b78bf6fb8bd49c70b8bc181e23178564a3fb9", checked := Tryz.checked }
namespace Rows
def none {H : Type} : Left H := { results := [], args := [] }

/-- 'saronlaw02.ForgeMelts': WHATEVER THE INPUT: true; the input reads as it did. -/
def forgeMeltsSpec : ChangeSpec := { name := "forgeMelts", fn := fun _ => fun
  | [d1, d2, d3] => { results := [.lit (.bool true)], args := [d1, d2, d3] }
  | _ => none }
def forgeMeltsRow : OpenClaim := { program := "ytoldkckmenjknaagreat", sum := "116e3e67a6c38343d615b5afaf8b78bf6fb8bd49c70b8bc181e23178564a3fb9", func := "saron/saronlaw02.ForgeMelts", spec := "forgeMelts", unfollowed := true, recurses := true, plainKeys := false, apart := false }
def ForgeMeltsSaid : Prop := forgeMeltsRow.holds Tryz.pinned (OpenSpec.ofChange forgeMeltsSpec)

/-- ITS FALSE NEIGHBOUR: 'it returns false'. Refute it at one input. -/
def forgeMeltsWrong : ChangeSpec := { name := "forgeMelts", fn := fun _ => fun
  | [d1, d2, d3] => { results := [.lit (.bool false)], args := [d1, d2, d3] }
  | _ => none }
def ForgeMeltsWrongFalsely : Prop := forgeMeltsRow.holds Tryz.pinned (OpenSpec.ofChange forgeMeltsWrong)

/-- 'saronlaw02.ForgeCasts': WHATEVER THE INPUT: true; the input reads as it did. -/
def forgeCastsSpec : ChangeSpec := { name := "forgeCasts", fn := fun _ => fun
  | [d1, d2] => { results := [.lit (.bool true)], args := [d1, d2] }
  | _ => none }
def forgeCastsRow : OpenClaim := { program := "ytoldkckmenjknaagreat", sum := "116e3e67a6c38343d615b5afaf8b78bf6fb8bd49c70b8bc181e23178564a3fb9", func := "saron/saronlaw02.ForgeCasts", spec := "forgeCasts", unfollowed := true, recurses := true, plainKeys := false, apart := false }
def ForgeCastsSaid : Prop := forgeCastsRow.holds Tryz.pinned (OpenSpec.ofChange forgeCastsSpec)

/-- ITS FALSE NEIGHBOUR: 'it returns false'. Refute it at one input. -/
def forgeCastsWrong : ChangeSpec := { name := "forgeCasts", fn := fun _ => fun
  | [d1, d2] => { results := [.lit (.bool false)], args := [d1, d2] }
  | _ => none }
def ForgeCastsWrongFalsely : Prop := forgeCastsRow.holds Tryz.pinned (OpenSpec.ofChange forgeCastsWrong)

/-- 'saronlaw02.ForgeTin': WHATEVER THE INPUT: true; the input reads as it did. -/
def forgeTinSpec : ChangeSpec := { name := "forgeTin", fn := fun _ => fun
  | [d1, d2, d3] => { results := [.lit (.bool true)], args := [d1, d2, d3] }
  | _ => none }
def forgeTinRow : OpenClaim := { program := "ytoldkckmenjknaagreat", sum := "116e3e67a6c38343d615b5afaf8b78bf6fb8bd49c70b8bc181e23178564a3fb9", func := "saron/saronlaw02.ForgeTin", spec := "forgeTin", unfollowed := true, recurses := true, plainKeys := false, apart := false }
def ForgeTinSaid : Prop := forgeTinRow.holds Tryz.pinned (OpenSpec.ofChange forgeTinSpec)

/-- ITS FALSE NEIGHBOUR: 'it returns false'. Refute it at one input. -/
def forgeTinWrong : ChangeSpec := { name := "forgeTin", fn := fun _ => fun
  | [d1, d2, d3] => { results := [.lit (.bool false)], args := [d1, d2, d3] }
  | _ => none }
def ForgeTinWrongFalsely : Prop := forgeTinRow.holds Tryz.pinned (OpenSpec.ofChange forgeTinWrong)

/-- 'saronlaw02.ForgeFewest': WHATEVER THE INPUT: true; the input reads as it did. -/
def forgeFewestSpec : ChangeSpec := { name := "forgeFewest", fn := fun _ => fun
  | [d1, d2] => { results := [.lit (.bool true)], args := [d1, d2] }
  | _ => none }
def forgeFewestRow : OpenClaim := { program := "ytoldkckmenjknaagreat", sum := "116e3e67a6c38343d615b5afaf8b78bf6fb8bd49c70b8bc181e23178564a3fb9", func := "saron/saronlaw02.ForgeFewest", spec := "forgeFewest", unfollowed := true, recurses := true, plainKeys := false, apart := false }
def ForgeFewestSaid : Prop := forgeFewestRow.holds Tryz.pinned (OpenSpec.ofChange forgeFewestSpec)

/-- ITS FALSE NEIGHBOUR: 'it returns false'. Refute it at one input. -/
def forgeFewestWrong : ChangeSpec := { name := "forgeFewest", fn := fun _ => fun
  | [d1, d2] => { results := [.lit (.bool false)], args := [d1, d2] }
  | _ => none }
def ForgeFewestWrongFalsely : Prop := forgeFewestRow.holds Tryz.pinned (OpenSpec.ofChange forgeFewestWrong)

/- THE SECOND FORM. 'bulk': how many values and letters a reading holds, each counted each time it is reached (what is shared counts as often as it is met; a slice's spare places count too). A statement '..UptoSaid' is the law's where the arguments, and the package variables that the reading takes, are together of bulk at most 1048576: NARROWER than '..Said'. Prove '..Said' where nothing that the law and all that it calls make is longer than what came in: it says more and counts as full. Else prove '..UptoSaid'. A law counts once. -/
mutual
def uptoBulk {H : Type} : DataW H → Nat
  | .lit (.string bytes) => bytes.length + 1
  | .lit _ => 1
  | .nil => 1
  | .ptr d => uptoBulk d + 1
  | .slice elems spare => uptoBulkAll elems + uptoBulkAll spare + 1
  | .agg parts => uptoBulkAll parts + 1
  | .iface _ d => uptoBulk d + 1
  | .map entries => uptoBulkEntries entries + 1
  | .held _ => 1
def uptoBulkAll {H : Type} : List (DataW H) → Nat
  | [] => 0
  | d :: r => uptoBulk d + uptoBulkAll r
def uptoBulkEntries {H : Type} : List (Lit × DataW H) → Nat
  | [] => 0
  | x :: r => uptoBulkEntry x + uptoBulkEntries r
def uptoBulkEntry {H : Type} : Lit × DataW H → Nat
  | (.string bytes, d) => bytes.length + uptoBulk d + 1
  | (_, d) => uptoBulk d + 1
 end
def uptoSmall : (H : Type) → List (DataW H) → Bool := fun _ ds => decide (uptoBulkAll ds ≤ 1048576)
def OpenSpec.upto (s : _root_.Go.ChangeSpec) : _root_.Go.OpenSpec := { _root_.Go.OpenSpec.ofChange s with cond := some uptoSmall }

/-- 'saronlaw02.ForgeMelts', WHERE WHAT IT READS IS OF BULK AT MOST 1048576: true; the input reads as it did. -/
def forgeMeltsUptoRow : OpenClaim := { program := "ytoldkckmenjknaagreat", sum := "116e3e67a6c38343d615b5afaf8b78bf6fb8bd49c70b8bc181e23178564a3fb9", func := "saron/saronlaw02.ForgeMelts", spec := "forgeMelts", unfollowed := true, recurses := true, plainKeys := false, apart := false, narrowed := true }
def ForgeMeltsUptoSaid : Prop := forgeMeltsUptoRow.holds Tryz.pinned (OpenSpec.upto forgeMeltsSpec)

/-- 'saronlaw02.ForgeCasts', WHERE WHAT IT READS IS OF BULK AT MOST 1048576: true; the input reads as it did. -/
def forgeCastsUptoRow : OpenClaim := { program := "ytoldkckmenjknaagreat", sum := "116e3e67a6c38343d615b5afaf8b78bf6fb8bd49c70b8bc181e23178564a3fb9", func := "saron/saronlaw02.ForgeCasts", spec := "forgeCasts", unfollowed := true, recurses := true, plainKeys := false, apart := false, narrowed := true }
def ForgeCastsUptoSaid : Prop := forgeCastsUptoRow.holds Tryz.pinned (OpenSpec.upto forgeCastsSpec)

/-- 'saronlaw02.ForgeTin', WHERE WHAT IT READS IS OF BULK AT MOST 1048576: true; the input reads as it did. -/
def forgeTinUptoRow : OpenClaim := { program := "ytoldkckmenjknaagreat", sum := "116e3e67a6c38343d615b5afaf8b78bf6fb8bd49c70b8bc181e23178564a3fb9", func := "saron/saronlaw02.ForgeTin", spec := "forgeTin", unfollowed := true, recurses := true, plainKeys := false, apart := false, narrowed := true }
def ForgeTinUptoSaid : Prop := forgeTinUptoRow.holds Tryz.pinned (OpenSpec.upto forgeTinSpec)

/-- 'saronlaw02.ForgeFewest', WHERE WHAT IT READS IS OF BULK AT MOST 1048576: true; the input reads as it did. -/
def forgeFewestUptoRow : OpenClaim := { program := "ytoldkckmenjknaagreat", sum := "116e3e67a6c38343d615b5afaf8b78bf6fb8bd49c70b8bc181e23178564a3fb9", func := "saron/saronlaw02.ForgeFewest", spec := "forgeFewest", unfollowed := true, recurses := true, plainKeys := false, apart := false, narrowed := true }
def ForgeFewestUptoSaid : Prop := forgeFewestUptoRow.holds Tryz.pinned (OpenSpec.upto forgeFewestSpec)

end Rows
end Go.Proofs.YtoldkckmenjknaaGreat
