/-
  NARROWER THAN 'FOR EVERY INPUT', by the rows' own cells (each row's printed sentence says how): NightFits: laid · NightCues: laid · NightTrue: laid · NightEnds: laid · NightLeast: laid · NightCued: laid · NightEasier: laid · NightSpared: laid · NightCarts: laid · NightCoins: laid · NightKnown: laid.
  DERIVED. THE GIVEN ROWS OF THIS SEAT. 11 by the template 'for every input the law returns true; each argument reads behind the call as it read before'; 0 by the template 'total and deterministic' (their statements: YtlknfhjfkcboiaaDoorTotals.lean).
  GIVEN WITH THE SEED: the statements are not yours to turn. If you find one false, say at which input.
  Laid BY PROGRAM, IN A SANDBOX (cutbox-rows.mjs): the forced cells as the released guide's own fill.sh prints them over the translation 6cedaf9e6a5965d9… (all of the seat's roots in one cut). By AI agents, Wed Nov 11 2026. No macro, syntax, notation, axiom, sorry.
-/
import Derived.Test.YtlknfhjfkcboiaaDoorChecked
import GoSem.Claim
import GoSem.ClaimJoined
import GoSem.ClaimMapViews
import Derived.JoinedTies
import Derived.KernelRfl
namespace Go.Proofs.YtlknfhjfkcboiaaDoor
/- THE CELL 'sum', in the pinned program and in every row, IS THE sha256 OF THE DUMP (.gsa) THAT YtlknfhjfkcboiaaDoorProg.lean LOADS. Nothing in Lean hashes anything: it is a label: what it is worth is what the hold of that sum in a sandbox is worth. -/
noncomputable def Tryd.pinned : Pinned := { name := "ytlknfhjfkcboiaadoor", sum := "6cedaf9e6a5965d9fc41e23e224063e1787610c83d4b2d5c562a404e6bd904ae", checked := Tryd.checked }
namespace Rows
def none {H : Type} : Left H := { results := [], args := [] }

/- WHAT THE LISTED PACKAGE-LEVEL VARIABLES READ AS WHEN THE CALL BEGINS. Each datum BY PROGRAM (the guide's laid-datum.mjs) off the statement by which the dump's own 'gosem.cut.vars' lays the variable. In a bare row this is a premise. The card (YtlknfhjfkcboiaaDoorCards.lean) ties it to the program's text. -/
def laid_saron_night_bounds {H : Type} : DataW H := .agg [.agg [.lit (.int .i64 0), .lit (.int .i64 2000)], .agg [.lit (.int .i64 1), .lit (.int .i64 10)], .agg [.lit (.int .i64 0), .lit (.int .i64 100)], .agg [.lit (.int .i64 0), .lit (.int .i64 600)], .agg [.lit (.int .i64 0), .lit (.int .i64 100000)], .agg [.lit (.int .i64 0), .lit (.int .i64 8)], .agg [.lit (.int .i64 1), .lit (.int .i64 500)], .agg [.lit (.int .i64 1), .lit (.int .i64 12)], .agg [.lit (.int .i64 1), .lit (.int .i64 100)]]

/-- 'saronlaw10.NightFits': WHATEVER THE INPUT: true; the input reads as it did. -/
def nightFitsSpec : ChangeSpec := { name := "nightFits", fn := fun _ => fun
  | [d1, d2] => { results := [.lit (.bool true)], args := [d1, d2] }
  | _ => none }
def nightFitsRow : OpenClaim := { program := "ytlknfhjfkcboiaadoor", sum := "6cedaf9e6a5965d9fc41e23e224063e1787610c83d4b2d5c562a404e6bd904ae", func := "saron/saronlaw10.NightFits", spec := "nightFits", unfollowed := true, recurses := true, named := ["saron/night.bounds"], plainKeys := false, apart := false, laid := [("saron/night.bounds", laid_saron_night_bounds)] }
def NightFitsSaid : Prop := nightFitsRow.holds Tryd.pinned (OpenSpec.ofChange nightFitsSpec)

/-- ITS FALSE NEIGHBOUR: 'it returns false'. Refute it at one input. -/
def nightFitsWrong : ChangeSpec := { name := "nightFits", fn := fun _ => fun
  | [d1, d2] => { results := [.lit (.bool false)], args := [d1, d2] }
  | _ => none }
def NightFitsWrongFalsely : Prop := nightFitsRow.holds Tryd.pinned (OpenSpec.ofChange nightFitsWrong)

/-- 'saronlaw10.NightCues': WHATEVER THE INPUT: true; the input reads as it did. -/
def nightCuesSpec : ChangeSpec := { name := "nightCues", fn := fun _ => fun
  | [d1, d2, d3] => { results := [.lit (.bool true)], args := [d1, d2, d3] }
  | _ => none }
def nightCuesRow : OpenClaim := { program := "ytlknfhjfkcboiaadoor", sum := "6cedaf9e6a5965d9fc41e23e224063e1787610c83d4b2d5c562a404e6bd904ae", func := "saron/saronlaw10.NightCues", spec := "nightCues", unfollowed := true, recurses := true, named := ["saron/night.bounds"], plainKeys := false, apart := false, laid := [("saron/night.bounds", laid_saron_night_bounds)] }
def NightCuesSaid : Prop := nightCuesRow.holds Tryd.pinned (OpenSpec.ofChange nightCuesSpec)

/-- ITS FALSE NEIGHBOUR: 'it returns false'. Refute it at one input. -/
def nightCuesWrong : ChangeSpec := { name := "nightCues", fn := fun _ => fun
  | [d1, d2, d3] => { results := [.lit (.bool false)], args := [d1, d2, d3] }
  | _ => none }
def NightCuesWrongFalsely : Prop := nightCuesRow.holds Tryd.pinned (OpenSpec.ofChange nightCuesWrong)

/-- 'saronlaw10.NightTrue': WHATEVER THE INPUT: true; the input reads as it did. -/
def nightTrueSpec : ChangeSpec := { name := "nightTrue", fn := fun _ => fun
  | [d1, d2] => { results := [.lit (.bool true)], args := [d1, d2] }
  | _ => none }
def nightTrueRow : OpenClaim := { program := "ytlknfhjfkcboiaadoor", sum := "6cedaf9e6a5965d9fc41e23e224063e1787610c83d4b2d5c562a404e6bd904ae", func := "saron/saronlaw10.NightTrue", spec := "nightTrue", unfollowed := true, recurses := true, named := ["saron/night.bounds"], plainKeys := false, apart := false, laid := [("saron/night.bounds", laid_saron_night_bounds)] }
def NightTrueSaid : Prop := nightTrueRow.holds Tryd.pinned (OpenSpec.ofChange nightTrueSpec)

/-- ITS FALSE NEIGHBOUR: 'it returns false'. Refute it at one input. -/
def nightTrueWrong : ChangeSpec := { name := "nightTrue", fn := fun _ => fun
  | [d1, d2] => { results := [.lit (.bool false)], args := [d1, d2] }
  | _ => none }
def NightTrueWrongFalsely : Prop := nightTrueRow.holds Tryd.pinned (OpenSpec.ofChange nightTrueWrong)

/-- 'saronlaw10.NightEnds': WHATEVER THE INPUT: true; the input reads as it did. -/
def nightEndsSpec : ChangeSpec := { name := "nightEnds", fn := fun _ => fun
  | [d1, d2] => { results := [.lit (.bool true)], args := [d1, d2] }
  | _ => none }
def nightEndsRow : OpenClaim := { program := "ytlknfhjfkcboiaadoor", sum := "6cedaf9e6a5965d9fc41e23e224063e1787610c83d4b2d5c562a404e6bd904ae", func := "saron/saronlaw10.NightEnds", spec := "nightEnds", unfollowed := true, recurses := true, named := ["saron/night.bounds"], plainKeys := false, apart := false, laid := [("saron/night.bounds", laid_saron_night_bounds)] }
def NightEndsSaid : Prop := nightEndsRow.holds Tryd.pinned (OpenSpec.ofChange nightEndsSpec)

/-- ITS FALSE NEIGHBOUR: 'it returns false'. Refute it at one input. -/
def nightEndsWrong : ChangeSpec := { name := "nightEnds", fn := fun _ => fun
  | [d1, d2] => { results := [.lit (.bool false)], args := [d1, d2] }
  | _ => none }
def NightEndsWrongFalsely : Prop := nightEndsRow.holds Tryd.pinned (OpenSpec.ofChange nightEndsWrong)

/-- 'saronlaw10.NightLeast': WHATEVER THE INPUT: true; the input reads as it did. -/
def nightLeastSpec : ChangeSpec := { name := "nightLeast", fn := fun _ => fun
  | [d1, d2] => { results := [.lit (.bool true)], args := [d1, d2] }
  | _ => none }
def nightLeastRow : OpenClaim := { program := "ytlknfhjfkcboiaadoor", sum := "6cedaf9e6a5965d9fc41e23e224063e1787610c83d4b2d5c562a404e6bd904ae", func := "saron/saronlaw10.NightLeast", spec := "nightLeast", unfollowed := true, recurses := true, named := ["saron/night.bounds"], plainKeys := false, apart := false, laid := [("saron/night.bounds", laid_saron_night_bounds)] }
def NightLeastSaid : Prop := nightLeastRow.holds Tryd.pinned (OpenSpec.ofChange nightLeastSpec)

/-- ITS FALSE NEIGHBOUR: 'it returns false'. Refute it at one input. -/
def nightLeastWrong : ChangeSpec := { name := "nightLeast", fn := fun _ => fun
  | [d1, d2] => { results := [.lit (.bool false)], args := [d1, d2] }
  | _ => none }
def NightLeastWrongFalsely : Prop := nightLeastRow.holds Tryd.pinned (OpenSpec.ofChange nightLeastWrong)

/-- 'saronlaw10.NightCued': WHATEVER THE INPUT: true; the input reads as it did. -/
def nightCuedSpec : ChangeSpec := { name := "nightCued", fn := fun _ => fun
  | [d1, d2, d3] => { results := [.lit (.bool true)], args := [d1, d2, d3] }
  | _ => none }
def nightCuedRow : OpenClaim := { program := "ytlknfhjfkcboiaadoor", sum := "6cedaf9e6a5965d9fc41e23e224063e1787610c83d4b2d5c562a404e6bd904ae", func := "saron/saronlaw10.NightCued", spec := "nightCued", unfollowed := true, recurses := true, named := ["saron/night.bounds"], plainKeys := false, apart := false, laid := [("saron/night.bounds", laid_saron_night_bounds)] }
def NightCuedSaid : Prop := nightCuedRow.holds Tryd.pinned (OpenSpec.ofChange nightCuedSpec)

/-- ITS FALSE NEIGHBOUR: 'it returns false'. Refute it at one input. -/
def nightCuedWrong : ChangeSpec := { name := "nightCued", fn := fun _ => fun
  | [d1, d2, d3] => { results := [.lit (.bool false)], args := [d1, d2, d3] }
  | _ => none }
def NightCuedWrongFalsely : Prop := nightCuedRow.holds Tryd.pinned (OpenSpec.ofChange nightCuedWrong)

/-- 'saronlaw10.NightEasier': WHATEVER THE INPUT: true; the input reads as it did. -/
def nightEasierSpec : ChangeSpec := { name := "nightEasier", fn := fun _ => fun
  | [d1, d2] => { results := [.lit (.bool true)], args := [d1, d2] }
  | _ => none }
def nightEasierRow : OpenClaim := { program := "ytlknfhjfkcboiaadoor", sum := "6cedaf9e6a5965d9fc41e23e224063e1787610c83d4b2d5c562a404e6bd904ae", func := "saron/saronlaw10.NightEasier", spec := "nightEasier", unfollowed := true, recurses := true, named := ["saron/night.bounds"], plainKeys := false, apart := false, laid := [("saron/night.bounds", laid_saron_night_bounds)] }
def NightEasierSaid : Prop := nightEasierRow.holds Tryd.pinned (OpenSpec.ofChange nightEasierSpec)

/-- ITS FALSE NEIGHBOUR: 'it returns false'. Refute it at one input. -/
def nightEasierWrong : ChangeSpec := { name := "nightEasier", fn := fun _ => fun
  | [d1, d2] => { results := [.lit (.bool false)], args := [d1, d2] }
  | _ => none }
def NightEasierWrongFalsely : Prop := nightEasierRow.holds Tryd.pinned (OpenSpec.ofChange nightEasierWrong)

/-- 'saronlaw10.NightSpared': WHATEVER THE INPUT: true; the input reads as it did. -/
def nightSparedSpec : ChangeSpec := { name := "nightSpared", fn := fun _ => fun
  | [d1, d2] => { results := [.lit (.bool true)], args := [d1, d2] }
  | _ => none }
def nightSparedRow : OpenClaim := { program := "ytlknfhjfkcboiaadoor", sum := "6cedaf9e6a5965d9fc41e23e224063e1787610c83d4b2d5c562a404e6bd904ae", func := "saron/saronlaw10.NightSpared", spec := "nightSpared", unfollowed := true, recurses := true, named := ["saron/night.bounds"], plainKeys := false, apart := false, laid := [("saron/night.bounds", laid_saron_night_bounds)] }
def NightSparedSaid : Prop := nightSparedRow.holds Tryd.pinned (OpenSpec.ofChange nightSparedSpec)

/-- ITS FALSE NEIGHBOUR: 'it returns false'. Refute it at one input. -/
def nightSparedWrong : ChangeSpec := { name := "nightSpared", fn := fun _ => fun
  | [d1, d2] => { results := [.lit (.bool false)], args := [d1, d2] }
  | _ => none }
def NightSparedWrongFalsely : Prop := nightSparedRow.holds Tryd.pinned (OpenSpec.ofChange nightSparedWrong)

/-- 'saronlaw10.NightCarts': WHATEVER THE INPUT: true; the input reads as it did. -/
def nightCartsSpec : ChangeSpec := { name := "nightCarts", fn := fun _ => fun
  | [d1, d2] => { results := [.lit (.bool true)], args := [d1, d2] }
  | _ => none }
def nightCartsRow : OpenClaim := { program := "ytlknfhjfkcboiaadoor", sum := "6cedaf9e6a5965d9fc41e23e224063e1787610c83d4b2d5c562a404e6bd904ae", func := "saron/saronlaw10.NightCarts", spec := "nightCarts", unfollowed := true, recurses := true, named := ["saron/night.bounds"], plainKeys := false, apart := false, laid := [("saron/night.bounds", laid_saron_night_bounds)] }
def NightCartsSaid : Prop := nightCartsRow.holds Tryd.pinned (OpenSpec.ofChange nightCartsSpec)

/-- ITS FALSE NEIGHBOUR: 'it returns false'. Refute it at one input. -/
def nightCartsWrong : ChangeSpec := { name := "nightCarts", fn := fun _ => fun
  | [d1, d2] => { results := [.lit (.bool false)], args := [d1, d2] }
  | _ => none }
def NightCartsWrongFalsely : Prop := nightCartsRow.holds Tryd.pinned (OpenSpec.ofChange nightCartsWrong)

/-- 'saronlaw10.NightCoins': WHATEVER THE INPUT: true; the input reads as it did. -/
def nightCoinsSpec : ChangeSpec := { name := "nightCoins", fn := fun _ => fun
  | [d] => { results := [.lit (.bool true)], args := [d] }
  | _ => none }
def nightCoinsRow : OpenClaim := { program := "ytlknfhjfkcboiaadoor", sum := "6cedaf9e6a5965d9fc41e23e224063e1787610c83d4b2d5c562a404e6bd904ae", func := "saron/saronlaw10.NightCoins", spec := "nightCoins", unfollowed := true, recurses := true, named := ["saron/night.bounds"], plainKeys := false, apart := false, laid := [("saron/night.bounds", laid_saron_night_bounds)] }
def NightCoinsSaid : Prop := nightCoinsRow.holds Tryd.pinned (OpenSpec.ofChange nightCoinsSpec)

/-- ITS FALSE NEIGHBOUR: 'it returns false'. Refute it at one input. -/
def nightCoinsWrong : ChangeSpec := { name := "nightCoins", fn := fun _ => fun
  | [d] => { results := [.lit (.bool false)], args := [d] }
  | _ => none }
def NightCoinsWrongFalsely : Prop := nightCoinsRow.holds Tryd.pinned (OpenSpec.ofChange nightCoinsWrong)

/-- 'saronlaw10.NightKnown': WHATEVER THE INPUT: true; the input reads as it did. -/
def nightKnownSpec : ChangeSpec := { name := "nightKnown", fn := fun _ => fun
  | [] => { results := [.lit (.bool true)], args := [] }
  | _ => none }
def nightKnownRow : OpenClaim := { program := "ytlknfhjfkcboiaadoor", sum := "6cedaf9e6a5965d9fc41e23e224063e1787610c83d4b2d5c562a404e6bd904ae", func := "saron/saronlaw10.NightKnown", spec := "nightKnown", unfollowed := true, recurses := true, named := ["saron/night.bounds"], plainKeys := false, apart := false, laid := [("saron/night.bounds", laid_saron_night_bounds)] }
def NightKnownSaid : Prop := nightKnownRow.holds Tryd.pinned (OpenSpec.ofChange nightKnownSpec)

/-- ITS FALSE NEIGHBOUR: 'it returns false'. Refute it at one input. -/
def nightKnownWrong : ChangeSpec := { name := "nightKnown", fn := fun _ => fun
  | [] => { results := [.lit (.bool false)], args := [] }
  | _ => none }
def NightKnownWrongFalsely : Prop := nightKnownRow.holds Tryd.pinned (OpenSpec.ofChange nightKnownWrong)

/- THE SECOND FORM. 'bulk': how many values and letters a reading holds, each counted each time it is reached (what is shared counts as often as it is met; a slice's spare places count too). A statement '..UptoSaid' is the law's where the arguments, and the package variables that the reading takes, are together of bulk at most 1048576: NARROWER than '..Said'. Prove '..Said' where nothing that the law and all that it calls make is longer than what came in: it says more and counts as full. Else prove '..UptoSaid'. A law counts once. -/
mutual
def uptoBulk {H : Type} : DataW H → Nat
  | .lit (.string bytes) => bytes.length + 1
  | .lit _ => 1
  | .nil => 1
  | .ptr d => uptoBulk d + 1
  | .slice elems spare => uptoBulkAll elems + uptoBulkAll spare + 1
  | .agg parts => uptoBulkAll parts + 1
  | .iface _ d => uptoBulk d + 1
  | .map entries => uptoBulkEntries entries + 1
  | .held _ => 1
def uptoBulkAll {H : Type} : List (DataW H) → Nat
  | [] => 0
  | d :: r => uptoBulk d + uptoBulkAll r
def uptoBulkEntries {H : Type} : List (Lit × DataW H) → Nat
  | [] => 0
  | x :: r => uptoBulkEntry x + uptoBulkEntries r
def uptoBulkEntry {H : Type} : Lit × DataW H → Nat
  | (.string bytes, d) => bytes.length + uptoBulk d + 1
  | (_, d) => uptoBulk d + 1
 end
def uptoSmall : (H : Type) → List (DataW H) → Bool := fun _ ds => decide (uptoBulkAll ds ≤ 1048576)
def OpenSpec.upto (s : _root_.Go.ChangeSpec) : _root_.Go.OpenSpec := { _root_.Go.OpenSpec.ofChange s with cond := some uptoSmall }

/-- 'saronlaw10.NightFits', WHERE WHAT IT READS IS OF BULK AT MOST 1048576: true; the input reads as it did. -/
def nightFitsUptoRow : OpenClaim := { program := "ytlknfhjfkcboiaadoor", sum := "6cedaf9e6a5965d9fc41e23e224063e1787610c83d4b2d5c562a404e6bd904ae", func := "saron/saronlaw10.NightFits", spec := "nightFits", unfollowed := true, recurses := true, named := ["saron/night.bounds"], plainKeys := false, apart := false, laid := [("saron/night.bounds", laid_saron_night_bounds)], narrowed := true }
def NightFitsUptoSaid : Prop := nightFitsUptoRow.holds Tryd.pinned (OpenSpec.upto nightFitsSpec)

/-- 'saronlaw10.NightCues', WHERE WHAT IT READS IS OF BULK AT MOST 1048576: true; the input reads as it did. -/
def nightCuesUptoRow : OpenClaim := { program := "ytlknfhjfkcboiaadoor", sum := "6cedaf9e6a5965d9fc41e23e224063e1787610c83d4b2d5c562a404e6bd904ae", func := "saron/saronlaw10.NightCues", spec := "nightCues", unfollowed := true, recurses := true, named := ["saron/night.bounds"], plainKeys := false, apart := false, laid := [("saron/night.bounds", laid_saron_night_bounds)], narrowed := true }
def NightCuesUptoSaid : Prop := nightCuesUptoRow.holds Tryd.pinned (OpenSpec.upto nightCuesSpec)

/-- 'saronlaw10.NightTrue', WHERE WHAT IT READS IS OF BULK AT MOST 1048576: true; the input reads as it did. -/
def nightTrueUptoRow : OpenClaim := { program := "ytlknfhjfkcboiaadoor", sum := "6cedaf9e6a5965d9fc41e23e224063e1787610c83d4b2d5c562a404e6bd904ae", func := "saron/saronlaw10.NightTrue", spec := "nightTrue", unfollowed := true, recurses := true, named := ["saron/night.bounds"], plainKeys := false, apart := false, laid := [("saron/night.bounds", laid_saron_night_bounds)], narrowed := true }
def NightTrueUptoSaid : Prop := nightTrueUptoRow.holds Tryd.pinned (OpenSpec.upto nightTrueSpec)

/-- 'saronlaw10.NightEnds', WHERE WHAT IT READS IS OF BULK AT MOST 1048576: true; the input reads as it did. -/
def nightEndsUptoRow : OpenClaim := { program := "ytlknfhjfkcboiaadoor", sum := "6cedaf9e6a5965d9fc41e23e224063e1787610c83d4b2d5c562a404e6bd904ae", func := "saron/saronlaw10.NightEnds", spec := "nightEnds", unfollowed := true, recurses := true, named := ["saron/night.bounds"], plainKeys := false, apart := false, laid := [("saron/night.bounds", laid_saron_night_bounds)], narrowed := true }
def NightEndsUptoSaid : Prop := nightEndsUptoRow.holds Tryd.pinned (OpenSpec.upto nightEndsSpec)

/-- 'saronlaw10.NightLeast', WHERE WHAT IT READS IS OF BULK AT MOST 1048576: true; the input reads as it did. -/
def nightLeastUptoRow : OpenClaim := { program := "ytlknfhjfkcboiaadoor", sum := "6cedaf9e6a5965d9fc41e23e224063e1787610c83d4b2d5c562a404e6bd904ae", func := "saron/saronlaw10.NightLeast", spec := "nightLeast", unfollowed := true, recurses := true, named := ["saron/night.bounds"], plainKeys := false, apart := false, laid := [("saron/night.bounds", laid_saron_night_bounds)], narrowed := true }
def NightLeastUptoSaid : Prop := nightLeastUptoRow.holds Tryd.pinned (OpenSpec.upto nightLeastSpec)

/-- 'saronlaw10.NightCued', WHERE WHAT IT READS IS OF BULK AT MOST 1048576: true; the input reads as it did. -/
def nightCuedUptoRow : OpenClaim := { program := "ytlknfhjfkcboiaadoor", sum := "6cedaf9e6a5965d9fc41e23e224063e1787610c83d4b2d5c562a404e6bd904ae", func := "saron/saronlaw10.NightCued", spec := "nightCued", unfollowed := true, recurses := true, named := ["saron/night.bounds"], plainKeys := false, apart := false, laid := [("saron/night.bounds", laid_saron_night_bounds)], narrowed := true }
def NightCuedUptoSaid : Prop := nightCuedUptoRow.holds Tryd.pinned (OpenSpec.upto nightCuedSpec)

/-- 'saronlaw10.NightEasier', WHERE WHAT IT READS IS OF BULK AT MOST 1048576: true; the input reads as it did. -/
def nightEasierUptoRow : OpenClaim := { program := "ytlknfhjfkcboiaadoor", sum := "6cedaf9e6a5965d9fc41e23e224063e1787610c83d4b2d5c562a404e6bd904ae", func := "saron/saronlaw10.NightEasier", spec := "nightEasier", unfollowed := true, recurses := true, named := ["saron/night.bounds"], plainKeys := false, apart := false, laid := [("saron/night.bounds", laid_saron_night_bounds)], narrowed := true }
def NightEasierUptoSaid : Prop := nightEasierUptoRow.holds Tryd.pinned (OpenSpec.upto nightEasierSpec)

/-- 'saronlaw10.NightSpared', WHERE WHAT IT READS IS OF BULK AT MOST 1048576: true; the input reads as it did. -/
def nightSparedUptoRow : OpenClaim := { program := "ytlknfhjfkcboiaadoor", sum := "6cedaf9e6a5965d9fc41e23e224063e1787610c83d4b2d5c562a404e6bd904ae", func := "saron/saronlaw10.NightSpared", spec := "nightSpared", unfollowed := true, recurses := true, named := ["saron/night.bounds"], plainKeys := false, apart := false, laid := [("saron/night.bounds", laid_saron_night_bounds)], narrowed := true }
def NightSparedUptoSaid : Prop := nightSparedUptoRow.holds Tryd.pinned (OpenSpec.upto nightSparedSpec)

/-- 'saronlaw10.NightCarts', WHERE WHAT IT READS IS OF BULK AT MOST 1048576: true; the input reads as it did. -/
def nightCartsUptoRow : OpenClaim := { program := "ytlknfhjfkcboiaadoor", sum := "6cedaf9e6a5965d9fc41e23e224063e1787610c83d4b2d5c562a404e6bd904ae", func := "saron/saronlaw10.NightCarts", spec := "nightCarts", unfollowed := true, recurses := true, named := ["saron/night.bounds"], plainKeys := false, apart := false, laid := [("saron/night.bounds", laid_saron_night_bounds)], narrowed := true }
def NightCartsUptoSaid : Prop := nightCartsUptoRow.holds Tryd.pinned (OpenSpec.upto nightCartsSpec)

/-- 'saronlaw10.NightCoins', WHERE WHAT IT READS IS OF BULK AT MOST 1048576: true; the input reads as it did. -/
def nightCoinsUptoRow : OpenClaim := { program := "ytlknfhjfkcboiaadoor", sum := "6cedaf9e6a5965d9fc41e23e224063e1787610c83d4b2d5c562a404e6bd904ae", func := "saron/saronlaw10.NightCoins", spec := "nightCoins", unfollowed := true, recurses := true, named := ["saron/night.bounds"], plainKeys := false, apart := false, laid := [("saron/night.bounds", laid_saron_night_bounds)], narrowed := true }
def NightCoinsUptoSaid : Prop := nightCoinsUptoRow.holds Tryd.pinned (OpenSpec.upto nightCoinsSpec)

/-- 'saronlaw10.NightKnown', WHERE WHAT IT READS IS OF BULK AT MOST 1048576: true; the input reads as it did. -/
def nightKnownUptoRow : OpenClaim := { program := "ytlknfhjfkcboiaadoor", sum := "6cedaf9e6a5965d9fc41e23e224063e1787610c83d4b2d5c562a404e6bd904ae", func := "saron/saronlaw10.NightKnown", spec := "nightKnown", unfollowed := true, recurses := true, named := ["saron/night.bounds"], plainKeys := false, apart := false, laid := [("saron/night.bounds", laid_saron_night_bounds)], narrowed := true }
def NightKnownUptoSaid : Prop := nightKnownUptoRow.holds Tryd.pinned (OpenSpec.upto nightKnownSpec)

end Rows
end Go.Proofs.YtlknfhjfkcboiaaDoor
