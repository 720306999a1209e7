/-
  No cell of these rows narrows 'for every input' (looked for: loops, veiled, ifaces, maps, wideKeys, modest, calm, conditions, laid).
  DERIVED. THE GIVEN ROWS OF THIS SEAT. 12 by the template 'for every input the law returns true; each argument reads behind the call as it read before'; 0 by the template 'total and deterministic' (their statements: YtpckmojdekdbbaaGreatTotals.lean).
  GIVEN WITH THE SEED: the statements are not yours to turn. If you find one false, say at which input.
  Laid BY PROGRAM, IN A SANDBOX (cutbox-rows.mjs): the forced cells as the released guide's own fill.sh prints them over the translation be0c9ac45a4714e3… (all of the seat's roots in one cut). By AI agents, Wed Nov 11 2026. No macro, syntax, notation, axiom, sorry.
-/
import Derived.Test.YtpckmojdekdbbaaGreatChecked
import GoSem.Claim
import GoSem.ClaimJoined
import GoSem.ClaimMapViews
import Derived.JoinedTies
import Derived.KernelRfl
namespace Go.Proofs.YtpckmojdekdbbaaGreat
/- THE CELL 'sum', in the pinned program and in every row, IS THE sha256 OF THE DUMP (.gsa) THAT YtpckmojdekdbbaaGreatProg.lean LOADS. Nothing in Lean hashes anything: it is a label: what it is worth is what the hold of that sum in a sandbox is worth. -/
noncomputable def Tryz.pinned : Pinned := { name := "ytpckmojdekdbbaagreat", sum := "be0c9ac45a4714e3c049afecc13d69e639bab7477cdbb9a8ce3ff3bf25ec6859", checked := Tryz.checked }
namespace Rows
def none {H : Type} : Left H := { results := [], args := [] }

/-- 'saronlaw04.SettleWas': WHATEVER THE INPUT: true; the input reads as it did. -/
def settleWasSpec : ChangeSpec := { name := "settleWas", fn := fun _ => fun
  | [d1, d2, d3] => { results := [.lit (.bool true)], args := [d1, d2, d3] }
  | _ => none }
def settleWasRow : OpenClaim := { program := "ytpckmojdekdbbaagreat", sum := "be0c9ac45a4714e3c049afecc13d69e639bab7477cdbb9a8ce3ff3bf25ec6859", func := "saron/saronlaw04.SettleWas", spec := "settleWas", unfollowed := true, recurses := true, plainKeys := false, apart := false }
def SettleWasSaid : Prop := settleWasRow.holds Tryz.pinned (OpenSpec.ofChange settleWasSpec)

/-- ITS FALSE NEIGHBOUR: 'it returns false'. Refute it at one input. -/
def settleWasWrong : ChangeSpec := { name := "settleWas", fn := fun _ => fun
  | [d1, d2, d3] => { results := [.lit (.bool false)], args := [d1, d2, d3] }
  | _ => none }
def SettleWasWrongFalsely : Prop := settleWasRow.holds Tryz.pinned (OpenSpec.ofChange settleWasWrong)

/-- 'saronlaw04.SettlePasts': WHATEVER THE INPUT: true; the input reads as it did. -/
def settlePastsSpec : ChangeSpec := { name := "settlePasts", fn := fun _ => fun
  | [d1, d2, d3] => { results := [.lit (.bool true)], args := [d1, d2, d3] }
  | _ => none }
def settlePastsRow : OpenClaim := { program := "ytpckmojdekdbbaagreat", sum := "be0c9ac45a4714e3c049afecc13d69e639bab7477cdbb9a8ce3ff3bf25ec6859", func := "saron/saronlaw04.SettlePasts", spec := "settlePasts", unfollowed := true, recurses := true, plainKeys := false, apart := false }
def SettlePastsSaid : Prop := settlePastsRow.holds Tryz.pinned (OpenSpec.ofChange settlePastsSpec)

/-- ITS FALSE NEIGHBOUR: 'it returns false'. Refute it at one input. -/
def settlePastsWrong : ChangeSpec := { name := "settlePasts", fn := fun _ => fun
  | [d1, d2, d3] => { results := [.lit (.bool false)], args := [d1, d2, d3] }
  | _ => none }
def SettlePastsWrongFalsely : Prop := settlePastsRow.holds Tryz.pinned (OpenSpec.ofChange settlePastsWrong)

/-- 'saronlaw04.SettleWrongs': WHATEVER THE INPUT: true; the input reads as it did. -/
def settleWrongsSpec : ChangeSpec := { name := "settleWrongs", fn := fun _ => fun
  | [d] => { results := [.lit (.bool true)], args := [d] }
  | _ => none }
def settleWrongsRow : OpenClaim := { program := "ytpckmojdekdbbaagreat", sum := "be0c9ac45a4714e3c049afecc13d69e639bab7477cdbb9a8ce3ff3bf25ec6859", func := "saron/saronlaw04.SettleWrongs", spec := "settleWrongs", unfollowed := true, recurses := true, plainKeys := false, apart := false }
def SettleWrongsSaid : Prop := settleWrongsRow.holds Tryz.pinned (OpenSpec.ofChange settleWrongsSpec)

/-- ITS FALSE NEIGHBOUR: 'it returns false'. Refute it at one input. -/
def settleWrongsWrong : ChangeSpec := { name := "settleWrongs", fn := fun _ => fun
  | [d] => { results := [.lit (.bool false)], args := [d] }
  | _ => none }
def SettleWrongsWrongFalsely : Prop := settleWrongsRow.holds Tryz.pinned (OpenSpec.ofChange settleWrongsWrong)

/-- 'saronlaw04.SettleTunes': WHATEVER THE INPUT: true; the input reads as it did. -/
def settleTunesSpec : ChangeSpec := { name := "settleTunes", fn := fun _ => fun
  | [d1, d2] => { results := [.lit (.bool true)], args := [d1, d2] }
  | _ => none }
def settleTunesRow : OpenClaim := { program := "ytpckmojdekdbbaagreat", sum := "be0c9ac45a4714e3c049afecc13d69e639bab7477cdbb9a8ce3ff3bf25ec6859", func := "saron/saronlaw04.SettleTunes", spec := "settleTunes", unfollowed := true, recurses := true, plainKeys := false, apart := false }
def SettleTunesSaid : Prop := settleTunesRow.holds Tryz.pinned (OpenSpec.ofChange settleTunesSpec)

/-- ITS FALSE NEIGHBOUR: 'it returns false'. Refute it at one input. -/
def settleTunesWrong : ChangeSpec := { name := "settleTunes", fn := fun _ => fun
  | [d1, d2] => { results := [.lit (.bool false)], args := [d1, d2] }
  | _ => none }
def SettleTunesWrongFalsely : Prop := settleTunesRow.holds Tryz.pinned (OpenSpec.ofChange settleTunesWrong)

/-- 'saronlaw04.SettleTrue': WHATEVER THE INPUT: true; the input reads as it did. -/
def settleTrueSpec : ChangeSpec := { name := "settleTrue", fn := fun _ => fun
  | [d1, d2] => { results := [.lit (.bool true)], args := [d1, d2] }
  | _ => none }
def settleTrueRow : OpenClaim := { program := "ytpckmojdekdbbaagreat", sum := "be0c9ac45a4714e3c049afecc13d69e639bab7477cdbb9a8ce3ff3bf25ec6859", func := "saron/saronlaw04.SettleTrue", spec := "settleTrue", unfollowed := true, recurses := true, plainKeys := false, apart := false }
def SettleTrueSaid : Prop := settleTrueRow.holds Tryz.pinned (OpenSpec.ofChange settleTrueSpec)

/-- ITS FALSE NEIGHBOUR: 'it returns false'. Refute it at one input. -/
def settleTrueWrong : ChangeSpec := { name := "settleTrue", fn := fun _ => fun
  | [d1, d2] => { results := [.lit (.bool false)], args := [d1, d2] }
  | _ => none }
def SettleTrueWrongFalsely : Prop := settleTrueRow.holds Tryz.pinned (OpenSpec.ofChange settleTrueWrong)

/-- 'saronlaw04.SettleEnds': WHATEVER THE INPUT: true; the input reads as it did. -/
def settleEndsSpec : ChangeSpec := { name := "settleEnds", fn := fun _ => fun
  | [d1, d2] => { results := [.lit (.bool true)], args := [d1, d2] }
  | _ => none }
def settleEndsRow : OpenClaim := { program := "ytpckmojdekdbbaagreat", sum := "be0c9ac45a4714e3c049afecc13d69e639bab7477cdbb9a8ce3ff3bf25ec6859", func := "saron/saronlaw04.SettleEnds", spec := "settleEnds", unfollowed := true, recurses := true, plainKeys := false, apart := false }
def SettleEndsSaid : Prop := settleEndsRow.holds Tryz.pinned (OpenSpec.ofChange settleEndsSpec)

/-- ITS FALSE NEIGHBOUR: 'it returns false'. Refute it at one input. -/
def settleEndsWrong : ChangeSpec := { name := "settleEnds", fn := fun _ => fun
  | [d1, d2] => { results := [.lit (.bool false)], args := [d1, d2] }
  | _ => none }
def SettleEndsWrongFalsely : Prop := settleEndsRow.holds Tryz.pinned (OpenSpec.ofChange settleEndsWrong)

/-- 'saronlaw04.SettleMore': WHATEVER THE INPUT: true; the input reads as it did. -/
def settleMoreSpec : ChangeSpec := { name := "settleMore", fn := fun _ => fun
  | [d1, d2, d3] => { results := [.lit (.bool true)], args := [d1, d2, d3] }
  | _ => none }
def settleMoreRow : OpenClaim := { program := "ytpckmojdekdbbaagreat", sum := "be0c9ac45a4714e3c049afecc13d69e639bab7477cdbb9a8ce3ff3bf25ec6859", func := "saron/saronlaw04.SettleMore", spec := "settleMore", unfollowed := true, recurses := true, plainKeys := false, apart := false }
def SettleMoreSaid : Prop := settleMoreRow.holds Tryz.pinned (OpenSpec.ofChange settleMoreSpec)

/-- ITS FALSE NEIGHBOUR: 'it returns false'. Refute it at one input. -/
def settleMoreWrong : ChangeSpec := { name := "settleMore", fn := fun _ => fun
  | [d1, d2, d3] => { results := [.lit (.bool false)], args := [d1, d2, d3] }
  | _ => none }
def SettleMoreWrongFalsely : Prop := settleMoreRow.holds Tryz.pinned (OpenSpec.ofChange settleMoreWrong)

/-- 'saronlaw04.SettleWider': WHATEVER THE INPUT: true; the input reads as it did. -/
def settleWiderSpec : ChangeSpec := { name := "settleWider", fn := fun _ => fun
  | [d1, d2] => { results := [.lit (.bool true)], args := [d1, d2] }
  | _ => none }
def settleWiderRow : OpenClaim := { program := "ytpckmojdekdbbaagreat", sum := "be0c9ac45a4714e3c049afecc13d69e639bab7477cdbb9a8ce3ff3bf25ec6859", func := "saron/saronlaw04.SettleWider", spec := "settleWider", unfollowed := true, recurses := true, plainKeys := false, apart := false }
def SettleWiderSaid : Prop := settleWiderRow.holds Tryz.pinned (OpenSpec.ofChange settleWiderSpec)

/-- ITS FALSE NEIGHBOUR: 'it returns false'. Refute it at one input. -/
def settleWiderWrong : ChangeSpec := { name := "settleWider", fn := fun _ => fun
  | [d1, d2] => { results := [.lit (.bool false)], args := [d1, d2] }
  | _ => none }
def SettleWiderWrongFalsely : Prop := settleWiderRow.holds Tryz.pinned (OpenSpec.ofChange settleWiderWrong)

/-- 'saronlaw04.SettleLeft': WHATEVER THE INPUT: true; the input reads as it did. -/
def settleLeftSpec : ChangeSpec := { name := "settleLeft", fn := fun _ => fun
  | [d1, d2] => { results := [.lit (.bool true)], args := [d1, d2] }
  | _ => none }
def settleLeftRow : OpenClaim := { program := "ytpckmojdekdbbaagreat", sum := "be0c9ac45a4714e3c049afecc13d69e639bab7477cdbb9a8ce3ff3bf25ec6859", func := "saron/saronlaw04.SettleLeft", spec := "settleLeft", unfollowed := true, recurses := true, plainKeys := false, apart := false }
def SettleLeftSaid : Prop := settleLeftRow.holds Tryz.pinned (OpenSpec.ofChange settleLeftSpec)

/-- ITS FALSE NEIGHBOUR: 'it returns false'. Refute it at one input. -/
def settleLeftWrong : ChangeSpec := { name := "settleLeft", fn := fun _ => fun
  | [d1, d2] => { results := [.lit (.bool false)], args := [d1, d2] }
  | _ => none }
def SettleLeftWrongFalsely : Prop := settleLeftRow.holds Tryz.pinned (OpenSpec.ofChange settleLeftWrong)

/-- 'saronlaw04.SettleTuning': WHATEVER THE INPUT: true; the input reads as it did. -/
def settleTuningSpec : ChangeSpec := { name := "settleTuning", fn := fun _ => fun
  | [d1, d2] => { results := [.lit (.bool true)], args := [d1, d2] }
  | _ => none }
def settleTuningRow : OpenClaim := { program := "ytpckmojdekdbbaagreat", sum := "be0c9ac45a4714e3c049afecc13d69e639bab7477cdbb9a8ce3ff3bf25ec6859", func := "saron/saronlaw04.SettleTuning", spec := "settleTuning", unfollowed := true, recurses := true, plainKeys := false, apart := false }
def SettleTuningSaid : Prop := settleTuningRow.holds Tryz.pinned (OpenSpec.ofChange settleTuningSpec)

/-- ITS FALSE NEIGHBOUR: 'it returns false'. Refute it at one input. -/
def settleTuningWrong : ChangeSpec := { name := "settleTuning", fn := fun _ => fun
  | [d1, d2] => { results := [.lit (.bool false)], args := [d1, d2] }
  | _ => none }
def SettleTuningWrongFalsely : Prop := settleTuningRow.holds Tryz.pinned (OpenSpec.ofChange settleTuningWrong)

/-- 'saronlaw04.SettleFewest': WHATEVER THE INPUT: true; the input reads as it did. -/
def settleFewestSpec : ChangeSpec := { name := "settleFewest", fn := fun _ => fun
  | [d1, d2, d3] => { results := [.lit (.bool true)], args := [d1, d2, d3] }
  | _ => none }
def settleFewestRow : OpenClaim := { program := "ytpckmojdekdbbaagreat", sum := "be0c9ac45a4714e3c049afecc13d69e639bab7477cdbb9a8ce3ff3bf25ec6859", func := "saron/saronlaw04.SettleFewest", spec := "settleFewest", unfollowed := true, recurses := true, plainKeys := false, apart := false }
def SettleFewestSaid : Prop := settleFewestRow.holds Tryz.pinned (OpenSpec.ofChange settleFewestSpec)

/-- ITS FALSE NEIGHBOUR: 'it returns false'. Refute it at one input. -/
def settleFewestWrong : ChangeSpec := { name := "settleFewest", fn := fun _ => fun
  | [d1, d2, d3] => { results := [.lit (.bool false)], args := [d1, d2, d3] }
  | _ => none }
def SettleFewestWrongFalsely : Prop := settleFewestRow.holds Tryz.pinned (OpenSpec.ofChange settleFewestWrong)

/-- 'saronlaw04.SettleTorn': WHATEVER THE INPUT: true; the input reads as it did. -/
def settleTornSpec : ChangeSpec := { name := "settleTorn", fn := fun _ => fun
  | [d] => { results := [.lit (.bool true)], args := [d] }
  | _ => none }
def settleTornRow : OpenClaim := { program := "ytpckmojdekdbbaagreat", sum := "be0c9ac45a4714e3c049afecc13d69e639bab7477cdbb9a8ce3ff3bf25ec6859", func := "saron/saronlaw04.SettleTorn", spec := "settleTorn", unfollowed := true, recurses := true, plainKeys := false, apart := false }
def SettleTornSaid : Prop := settleTornRow.holds Tryz.pinned (OpenSpec.ofChange settleTornSpec)

/-- ITS FALSE NEIGHBOUR: 'it returns false'. Refute it at one input. -/
def settleTornWrong : ChangeSpec := { name := "settleTorn", fn := fun _ => fun
  | [d] => { results := [.lit (.bool false)], args := [d] }
  | _ => none }
def SettleTornWrongFalsely : Prop := settleTornRow.holds Tryz.pinned (OpenSpec.ofChange settleTornWrong)

/- THE SECOND FORM. 'bulk': how many values and letters a reading holds, each counted each time it is reached (what is shared counts as often as it is met; a slice's spare places count too). A statement '..UptoSaid' is the law's where the arguments, and the package variables that the reading takes, are together of bulk at most 1048576: NARROWER than '..Said'. Prove '..Said' where nothing that the law and all that it calls make is longer than what came in: it says more and counts as full. Else prove '..UptoSaid'. A law counts once. -/
mutual
def uptoBulk {H : Type} : DataW H → Nat
  | .lit (.string bytes) => bytes.length + 1
  | .lit _ => 1
  | .nil => 1
  | .ptr d => uptoBulk d + 1
  | .slice elems spare => uptoBulkAll elems + uptoBulkAll spare + 1
  | .agg parts => uptoBulkAll parts + 1
  | .iface _ d => uptoBulk d + 1
  | .map entries => uptoBulkEntries entries + 1
  | .held _ => 1
def uptoBulkAll {H : Type} : List (DataW H) → Nat
  | [] => 0
  | d :: r => uptoBulk d + uptoBulkAll r
def uptoBulkEntries {H : Type} : List (Lit × DataW H) → Nat
  | [] => 0
  | x :: r => uptoBulkEntry x + uptoBulkEntries r
def uptoBulkEntry {H : Type} : Lit × DataW H → Nat
  | (.string bytes, d) => bytes.length + uptoBulk d + 1
  | (_, d) => uptoBulk d + 1
 end
def uptoSmall : (H : Type) → List (DataW H) → Bool := fun _ ds => decide (uptoBulkAll ds ≤ 1048576)
def OpenSpec.upto (s : _root_.Go.ChangeSpec) : _root_.Go.OpenSpec := { _root_.Go.OpenSpec.ofChange s with cond := some uptoSmall }

/-- 'saronlaw04.SettleWas', WHERE WHAT IT READS IS OF BULK AT MOST 1048576: true; the input reads as it did. -/
def settleWasUptoRow : OpenClaim := { program := "ytpckmojdekdbbaagreat", sum := "be0c9ac45a4714e3c049afecc13d69e639bab7477cdbb9a8ce3ff3bf25ec6859", func := "saron/saronlaw04.SettleWas", spec := "settleWas", unfollowed := true, recurses := true, plainKeys := false, apart := false, narrowed := true }
def SettleWasUptoSaid : Prop := settleWasUptoRow.holds Tryz.pinned (OpenSpec.upto settleWasSpec)

/-- 'saronlaw04.SettlePasts', WHERE WHAT IT READS IS OF BULK AT MOST 1048576: true; the input reads as it did. -/
def settlePastsUptoRow : OpenClaim := { program := "ytpckmojdekdbbaagreat", sum := "be0c9ac45a4714e3c049afecc13d69e639bab7477cdbb9a8ce3ff3bf25ec6859", func := "saron/saronlaw04.SettlePasts", spec := "settlePasts", unfollowed := true, recurses := true, plainKeys := false, apart := false, narrowed := true }
def SettlePastsUptoSaid : Prop := settlePastsUptoRow.holds Tryz.pinned (OpenSpec.upto settlePastsSpec)

/-- 'saronlaw04.SettleWrongs', WHERE WHAT IT READS IS OF BULK AT MOST 1048576: true; the input reads as it did. -/
def settleWrongsUptoRow : OpenClaim := { program := "ytpckmojdekdbbaagreat", sum := "be0c9ac45a4714e3c049afecc13d69e639bab7477cdbb9a8ce3ff3bf25ec6859", func := "saron/saronlaw04.SettleWrongs", spec := "settleWrongs", unfollowed := true, recurses := true, plainKeys := false, apart := false, narrowed := true }
def SettleWrongsUptoSaid : Prop := settleWrongsUptoRow.holds Tryz.pinned (OpenSpec.upto settleWrongsSpec)

/-- 'saronlaw04.SettleTunes', WHERE WHAT IT READS IS OF BULK AT MOST 1048576: true; the input reads as it did. -/
def settleTunesUptoRow : OpenClaim := { program := "ytpckmojdekdbbaagreat", sum := "be0c9ac45a4714e3c049afecc13d69e639bab7477cdbb9a8ce3ff3bf25ec6859", func := "saron/saronlaw04.SettleTunes", spec := "settleTunes", unfollowed := true, recurses := true, plainKeys := false, apart := false, narrowed := true }
def SettleTunesUptoSaid : Prop := settleTunesUptoRow.holds Tryz.pinned (OpenSpec.upto settleTunesSpec)

/-- 'saronlaw04.SettleTrue', WHERE WHAT IT READS IS OF BULK AT MOST 1048576: true; the input reads as it did. -/
def settleTrueUptoRow : OpenClaim := { program := "ytpckmojdekdbbaagreat", sum := "be0c9ac45a4714e3c049afecc13d69e639bab7477cdbb9a8ce3ff3bf25ec6859", func := "saron/saronlaw04.SettleTrue", spec := "settleTrue", unfollowed := true, recurses := true, plainKeys := false, apart := false, narrowed := true }
def SettleTrueUptoSaid : Prop := settleTrueUptoRow.holds Tryz.pinned (OpenSpec.upto settleTrueSpec)

/-- 'saronlaw04.SettleEnds', WHERE WHAT IT READS IS OF BULK AT MOST 1048576: true; the input reads as it did. -/
def settleEndsUptoRow : OpenClaim := { program := "ytpckmojdekdbbaagreat", sum := "be0c9ac45a4714e3c049afecc13d69e639bab7477cdbb9a8ce3ff3bf25ec6859", func := "saron/saronlaw04.SettleEnds", spec := "settleEnds", unfollowed := true, recurses := true, plainKeys := false, apart := false, narrowed := true }
def SettleEndsUptoSaid : Prop := settleEndsUptoRow.holds Tryz.pinned (OpenSpec.upto settleEndsSpec)

/-- 'saronlaw04.SettleMore', WHERE WHAT IT READS IS OF BULK AT MOST 1048576: true; the input reads as it did. -/
def settleMoreUptoRow : OpenClaim := { program := "ytpckmojdekdbbaagreat", sum := "be0c9ac45a4714e3c049afecc13d69e639bab7477cdbb9a8ce3ff3bf25ec6859", func := "saron/saronlaw04.SettleMore", spec := "settleMore", unfollowed := true, recurses := true, plainKeys := false, apart := false, narrowed := true }
def SettleMoreUptoSaid : Prop := settleMoreUptoRow.holds Tryz.pinned (OpenSpec.upto settleMoreSpec)

/-- 'saronlaw04.SettleWider', WHERE WHAT IT READS IS OF BULK AT MOST 1048576: true; the input reads as it did. -/
def settleWiderUptoRow : OpenClaim := { program := "ytpckmojdekdbbaagreat", sum := "be0c9ac45a4714e3c049afecc13d69e639bab7477cdbb9a8ce3ff3bf25ec6859", func := "saron/saronlaw04.SettleWider", spec := "settleWider", unfollowed := true, recurses := true, plainKeys := false, apart := false, narrowed := true }
def SettleWiderUptoSaid : Prop := settleWiderUptoRow.holds Tryz.pinned (OpenSpec.upto settleWiderSpec)

/-- 'saronlaw04.SettleLeft', WHERE WHAT IT READS IS OF BULK AT MOST 1048576: true; the input reads as it did. -/
def settleLeftUptoRow : OpenClaim := { program := "ytpckmojdekdbbaagreat", sum := "be0c9ac45a4714e3c049afecc13d69e639bab7477cdbb9a8ce3ff3bf25ec6859", func := "saron/saronlaw04.SettleLeft", spec := "settleLeft", unfollowed := true, recurses := true, plainKeys := false, apart := false, narrowed := true }
def SettleLeftUptoSaid : Prop := settleLeftUptoRow.holds Tryz.pinned (OpenSpec.upto settleLeftSpec)

/-- 'saronlaw04.SettleTuning', WHERE WHAT IT READS IS OF BULK AT MOST 1048576: true; the input reads as it did. -/
def settleTuningUptoRow : OpenClaim := { program := "ytpckmojdekdbbaagreat", sum := "be0c9ac45a4714e3c049afecc13d69e639bab7477cdbb9a8ce3ff3bf25ec6859", func := "saron/saronlaw04.SettleTuning", spec := "settleTuning", unfollowed := true, recurses := true, plainKeys := false, apart := false, narrowed := true }
def SettleTuningUptoSaid : Prop := settleTuningUptoRow.holds Tryz.pinned (OpenSpec.upto settleTuningSpec)

/-- 'saronlaw04.SettleFewest', WHERE WHAT IT READS IS OF BULK AT MOST 1048576: true; the input reads as it did. -/
def settleFewestUptoRow : OpenClaim := { program := "ytpckmojdekdbbaagreat", sum := "be0c9ac45a4714e3c049afecc13d69e639bab7477cdbb9a8ce3ff3bf25ec6859", func := "saron/saronlaw04.SettleFewest", spec := "settleFewest", unfollowed := true, recurses := true, plainKeys := false, apart := false, narrowed := true }
def SettleFewestUptoSaid : Prop := settleFewestUptoRow.holds Tryz.pinned (OpenSpec.upto settleFewestSpec)

/-- 'saronlaw04.SettleTorn', WHERE WHAT IT READS IS OF BULK AT MOST 1048576: true; the input reads as it did. -/
def settleTornUptoRow : OpenClaim := { program := "ytpckmojdekdbbaagreat", sum := "be0c9ac45a4714e3c049afecc13d69e639bab7477cdbb9a8ce3ff3bf25ec6859", func := "saron/saronlaw04.SettleTorn", spec := "settleTorn", unfollowed := true, recurses := true, plainKeys := false, apart := false, narrowed := true }
def SettleTornUptoSaid : Prop := settleTornUptoRow.holds Tryz.pinned (OpenSpec.upto settleTornSpec)

end Rows
end Go.Proofs.YtpckmojdekdbbaaGreat
