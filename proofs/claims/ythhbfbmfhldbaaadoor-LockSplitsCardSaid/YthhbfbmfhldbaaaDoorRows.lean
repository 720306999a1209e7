/-
  NARROWER THAN 'FOR EVERY INPUT', by the rows' own cells (each row's printed sentence says how): LockSplits: laid · LockMates: laid · LockLates: laid · LockNeither: laid · LockForced: laid · LockMate: laid · LockTurned: laid · LockLate: laid · LockTold: laid · LockLost: laid · LockMore: laid · LockKnown: laid.
  DERIVED. THE GIVEN ROWS OF THIS SEAT. 12 by the template 'for every input the law returns true; each argument reads behind the call as it read before'; 0 by the template 'total and deterministic' (their statements: YthhbfbmfhldbaaaDoorTotals.lean).
  GIVEN WITH THE SEED: the statements are not yours to turn. If you find one false, say at which input.
  Laid BY PROGRAM, IN A SANDBOX (cutbox-rows.mjs): the forced cells as the released guide's own fill.sh prints them over the translation 5c50d600522803db… (all of the seat's roots in one cut). By AI agents, Wed Nov 11 2026. No macro, syntax, notation, axiom, sorry.
-/
import Derived.Test.YthhbfbmfhldbaaaDoorChecked
import GoSem.Claim
import GoSem.ClaimJoined
import GoSem.ClaimMapViews
import Derived.JoinedTies
import Derived.KernelRfl
namespace Go.Proofs.YthhbfbmfhldbaaaDoor
/- THE CELL 'sum', in the pinned program and in every row, IS THE sha256 OF THE DUMP (.gsa) THAT YthhbfbmfhldbaaaDoorProg.lean LOADS. Nothing in Lean hashes anything: it is a label: what it is worth is what the hold of that sum in a sandbox is worth. -/
noncomputable def Tryd.pinned : Pinned := { name := "ythhbfbmfhldbaaadoor", sum := "5c50d600522803dbc31885190d68b33c9b6670f945500a15a4c831e91a90cdab", checked := Tryd.checked }
namespace Rows
def none {H : Type} : Left H := { results := [], args := [] }

/- WHAT THE LISTED PACKAGE-LEVEL VARIABLES READ AS WHEN THE CALL BEGINS. Each datum BY PROGRAM (the guide's laid-datum.mjs) off the statement by which the dump's own 'gosem.cut.vars' lays the variable. In a bare row this is a premise. The card (YthhbfbmfhldbaaaDoorCards.lean) ties it to the program's text. -/
def laid_saron_lock_bounds {H : Type} : DataW H := .agg [.agg [.lit (.int .i64 1), .lit (.int .i64 16)], .agg [.lit (.int .i64 (-1)), .lit (.int .i64 7)], .agg [.lit (.int .i64 0), .lit (.int .i64 255)], .agg [.lit (.int .i64 1), .lit (.int .i64 16)], .agg [.lit (.int .i64 0), .lit (.int .i64 1)], .agg [.lit (.int .i64 0), .lit (.int .i64 8)], .agg [.lit (.int .i64 0), .lit (.int .i64 6)]]

/-- 'saronlaw07.LockSplits': WHATEVER THE INPUT: true; the input reads as it did. -/
def lockSplitsSpec : ChangeSpec := { name := "lockSplits", fn := fun _ => fun
  | [d1, d2] => { results := [.lit (.bool true)], args := [d1, d2] }
  | _ => none }
def lockSplitsRow : OpenClaim := { program := "ythhbfbmfhldbaaadoor", sum := "5c50d600522803dbc31885190d68b33c9b6670f945500a15a4c831e91a90cdab", func := "saron/saronlaw07.LockSplits", spec := "lockSplits", unfollowed := true, recurses := true, named := ["saron/lock.bounds"], plainKeys := false, apart := false, laid := [("saron/lock.bounds", laid_saron_lock_bounds)] }
def LockSplitsSaid : Prop := lockSplitsRow.holds Tryd.pinned (OpenSpec.ofChange lockSplitsSpec)

/-- ITS FALSE NEIGHBOUR: 'it returns false'. Refute it at one input. -/
def lockSplitsWrong : ChangeSpec := { name := "lockSplits", fn := fun _ => fun
  | [d1, d2] => { results := [.lit (.bool false)], args := [d1, d2] }
  | _ => none }
def LockSplitsWrongFalsely : Prop := lockSplitsRow.holds Tryd.pinned (OpenSpec.ofChange lockSplitsWrong)

/-- 'saronlaw07.LockMates': WHATEVER THE INPUT: true; the input reads as it did. -/
def lockMatesSpec : ChangeSpec := { name := "lockMates", fn := fun _ => fun
  | [d1, d2, d3] => { results := [.lit (.bool true)], args := [d1, d2, d3] }
  | _ => none }
def lockMatesRow : OpenClaim := { program := "ythhbfbmfhldbaaadoor", sum := "5c50d600522803dbc31885190d68b33c9b6670f945500a15a4c831e91a90cdab", func := "saron/saronlaw07.LockMates", spec := "lockMates", unfollowed := true, recurses := true, named := ["saron/lock.bounds"], plainKeys := false, apart := false, laid := [("saron/lock.bounds", laid_saron_lock_bounds)] }
def LockMatesSaid : Prop := lockMatesRow.holds Tryd.pinned (OpenSpec.ofChange lockMatesSpec)

/-- ITS FALSE NEIGHBOUR: 'it returns false'. Refute it at one input. -/
def lockMatesWrong : ChangeSpec := { name := "lockMates", fn := fun _ => fun
  | [d1, d2, d3] => { results := [.lit (.bool false)], args := [d1, d2, d3] }
  | _ => none }
def LockMatesWrongFalsely : Prop := lockMatesRow.holds Tryd.pinned (OpenSpec.ofChange lockMatesWrong)

/-- 'saronlaw07.LockLates': WHATEVER THE INPUT: true; the input reads as it did. -/
def lockLatesSpec : ChangeSpec := { name := "lockLates", fn := fun _ => fun
  | [d1, d2, d3, d4] => { results := [.lit (.bool true)], args := [d1, d2, d3, d4] }
  | _ => none }
def lockLatesRow : OpenClaim := { program := "ythhbfbmfhldbaaadoor", sum := "5c50d600522803dbc31885190d68b33c9b6670f945500a15a4c831e91a90cdab", func := "saron/saronlaw07.LockLates", spec := "lockLates", unfollowed := true, recurses := true, named := ["saron/lock.bounds"], plainKeys := false, apart := false, laid := [("saron/lock.bounds", laid_saron_lock_bounds)] }
def LockLatesSaid : Prop := lockLatesRow.holds Tryd.pinned (OpenSpec.ofChange lockLatesSpec)

/-- ITS FALSE NEIGHBOUR: 'it returns false'. Refute it at one input. -/
def lockLatesWrong : ChangeSpec := { name := "lockLates", fn := fun _ => fun
  | [d1, d2, d3, d4] => { results := [.lit (.bool false)], args := [d1, d2, d3, d4] }
  | _ => none }
def LockLatesWrongFalsely : Prop := lockLatesRow.holds Tryd.pinned (OpenSpec.ofChange lockLatesWrong)

/-- 'saronlaw07.LockNeither': WHATEVER THE INPUT: true; the input reads as it did. -/
def lockNeitherSpec : ChangeSpec := { name := "lockNeither", fn := fun _ => fun
  | [d1, d2] => { results := [.lit (.bool true)], args := [d1, d2] }
  | _ => none }
def lockNeitherRow : OpenClaim := { program := "ythhbfbmfhldbaaadoor", sum := "5c50d600522803dbc31885190d68b33c9b6670f945500a15a4c831e91a90cdab", func := "saron/saronlaw07.LockNeither", spec := "lockNeither", unfollowed := true, recurses := true, named := ["saron/lock.bounds"], plainKeys := false, apart := false, laid := [("saron/lock.bounds", laid_saron_lock_bounds)] }
def LockNeitherSaid : Prop := lockNeitherRow.holds Tryd.pinned (OpenSpec.ofChange lockNeitherSpec)

/-- ITS FALSE NEIGHBOUR: 'it returns false'. Refute it at one input. -/
def lockNeitherWrong : ChangeSpec := { name := "lockNeither", fn := fun _ => fun
  | [d1, d2] => { results := [.lit (.bool false)], args := [d1, d2] }
  | _ => none }
def LockNeitherWrongFalsely : Prop := lockNeitherRow.holds Tryd.pinned (OpenSpec.ofChange lockNeitherWrong)

/-- 'saronlaw07.LockForced': WHATEVER THE INPUT: true; the input reads as it did. -/
def lockForcedSpec : ChangeSpec := { name := "lockForced", fn := fun _ => fun
  | [d1, d2, d3] => { results := [.lit (.bool true)], args := [d1, d2, d3] }
  | _ => none }
def lockForcedRow : OpenClaim := { program := "ythhbfbmfhldbaaadoor", sum := "5c50d600522803dbc31885190d68b33c9b6670f945500a15a4c831e91a90cdab", func := "saron/saronlaw07.LockForced", spec := "lockForced", unfollowed := true, recurses := true, named := ["saron/lock.bounds"], plainKeys := false, apart := false, laid := [("saron/lock.bounds", laid_saron_lock_bounds)] }
def LockForcedSaid : Prop := lockForcedRow.holds Tryd.pinned (OpenSpec.ofChange lockForcedSpec)

/-- ITS FALSE NEIGHBOUR: 'it returns false'. Refute it at one input. -/
def lockForcedWrong : ChangeSpec := { name := "lockForced", fn := fun _ => fun
  | [d1, d2, d3] => { results := [.lit (.bool false)], args := [d1, d2, d3] }
  | _ => none }
def LockForcedWrongFalsely : Prop := lockForcedRow.holds Tryd.pinned (OpenSpec.ofChange lockForcedWrong)

/-- 'saronlaw07.LockMate': WHATEVER THE INPUT: true; the input reads as it did. -/
def lockMateSpec : ChangeSpec := { name := "lockMate", fn := fun _ => fun
  | [d1, d2, d3, d4] => { results := [.lit (.bool true)], args := [d1, d2, d3, d4] }
  | _ => none }
def lockMateRow : OpenClaim := { program := "ythhbfbmfhldbaaadoor", sum := "5c50d600522803dbc31885190d68b33c9b6670f945500a15a4c831e91a90cdab", func := "saron/saronlaw07.LockMate", spec := "lockMate", unfollowed := true, recurses := true, named := ["saron/lock.bounds"], plainKeys := false, apart := false, laid := [("saron/lock.bounds", laid_saron_lock_bounds)] }
def LockMateSaid : Prop := lockMateRow.holds Tryd.pinned (OpenSpec.ofChange lockMateSpec)

/-- ITS FALSE NEIGHBOUR: 'it returns false'. Refute it at one input. -/
def lockMateWrong : ChangeSpec := { name := "lockMate", fn := fun _ => fun
  | [d1, d2, d3, d4] => { results := [.lit (.bool false)], args := [d1, d2, d3, d4] }
  | _ => none }
def LockMateWrongFalsely : Prop := lockMateRow.holds Tryd.pinned (OpenSpec.ofChange lockMateWrong)

/-- 'saronlaw07.LockTurned': WHATEVER THE INPUT: true; the input reads as it did. -/
def lockTurnedSpec : ChangeSpec := { name := "lockTurned", fn := fun _ => fun
  | [d1, d2] => { results := [.lit (.bool true)], args := [d1, d2] }
  | _ => none }
def lockTurnedRow : OpenClaim := { program := "ythhbfbmfhldbaaadoor", sum := "5c50d600522803dbc31885190d68b33c9b6670f945500a15a4c831e91a90cdab", func := "saron/saronlaw07.LockTurned", spec := "lockTurned", unfollowed := true, recurses := true, named := ["saron/lock.bounds"], plainKeys := false, apart := false, laid := [("saron/lock.bounds", laid_saron_lock_bounds)] }
def LockTurnedSaid : Prop := lockTurnedRow.holds Tryd.pinned (OpenSpec.ofChange lockTurnedSpec)

/-- ITS FALSE NEIGHBOUR: 'it returns false'. Refute it at one input. -/
def lockTurnedWrong : ChangeSpec := { name := "lockTurned", fn := fun _ => fun
  | [d1, d2] => { results := [.lit (.bool false)], args := [d1, d2] }
  | _ => none }
def LockTurnedWrongFalsely : Prop := lockTurnedRow.holds Tryd.pinned (OpenSpec.ofChange lockTurnedWrong)

/-- 'saronlaw07.LockLate': WHATEVER THE INPUT: true; the input reads as it did. -/
def lockLateSpec : ChangeSpec := { name := "lockLate", fn := fun _ => fun
  | [d1, d2, d3] => { results := [.lit (.bool true)], args := [d1, d2, d3] }
  | _ => none }
def lockLateRow : OpenClaim := { program := "ythhbfbmfhldbaaadoor", sum := "5c50d600522803dbc31885190d68b33c9b6670f945500a15a4c831e91a90cdab", func := "saron/saronlaw07.LockLate", spec := "lockLate", unfollowed := true, recurses := true, named := ["saron/lock.bounds"], plainKeys := false, apart := false, laid := [("saron/lock.bounds", laid_saron_lock_bounds)] }
def LockLateSaid : Prop := lockLateRow.holds Tryd.pinned (OpenSpec.ofChange lockLateSpec)

/-- ITS FALSE NEIGHBOUR: 'it returns false'. Refute it at one input. -/
def lockLateWrong : ChangeSpec := { name := "lockLate", fn := fun _ => fun
  | [d1, d2, d3] => { results := [.lit (.bool false)], args := [d1, d2, d3] }
  | _ => none }
def LockLateWrongFalsely : Prop := lockLateRow.holds Tryd.pinned (OpenSpec.ofChange lockLateWrong)

/-- 'saronlaw07.LockTold': WHATEVER THE INPUT: true; the input reads as it did. -/
def lockToldSpec : ChangeSpec := { name := "lockTold", fn := fun _ => fun
  | [d1, d2] => { results := [.lit (.bool true)], args := [d1, d2] }
  | _ => none }
def lockToldRow : OpenClaim := { program := "ythhbfbmfhldbaaadoor", sum := "5c50d600522803dbc31885190d68b33c9b6670f945500a15a4c831e91a90cdab", func := "saron/saronlaw07.LockTold", spec := "lockTold", unfollowed := true, recurses := true, named := ["saron/lock.bounds"], plainKeys := false, apart := false, laid := [("saron/lock.bounds", laid_saron_lock_bounds)] }
def LockToldSaid : Prop := lockToldRow.holds Tryd.pinned (OpenSpec.ofChange lockToldSpec)

/-- ITS FALSE NEIGHBOUR: 'it returns false'. Refute it at one input. -/
def lockToldWrong : ChangeSpec := { name := "lockTold", fn := fun _ => fun
  | [d1, d2] => { results := [.lit (.bool false)], args := [d1, d2] }
  | _ => none }
def LockToldWrongFalsely : Prop := lockToldRow.holds Tryd.pinned (OpenSpec.ofChange lockToldWrong)

/-- 'saronlaw07.LockLost': WHATEVER THE INPUT: true; the input reads as it did. -/
def lockLostSpec : ChangeSpec := { name := "lockLost", fn := fun _ => fun
  | [d1, d2, d3, d4] => { results := [.lit (.bool true)], args := [d1, d2, d3, d4] }
  | _ => none }
def lockLostRow : OpenClaim := { program := "ythhbfbmfhldbaaadoor", sum := "5c50d600522803dbc31885190d68b33c9b6670f945500a15a4c831e91a90cdab", func := "saron/saronlaw07.LockLost", spec := "lockLost", unfollowed := true, recurses := true, named := ["saron/lock.bounds"], plainKeys := false, apart := false, laid := [("saron/lock.bounds", laid_saron_lock_bounds)] }
def LockLostSaid : Prop := lockLostRow.holds Tryd.pinned (OpenSpec.ofChange lockLostSpec)

/-- ITS FALSE NEIGHBOUR: 'it returns false'. Refute it at one input. -/
def lockLostWrong : ChangeSpec := { name := "lockLost", fn := fun _ => fun
  | [d1, d2, d3, d4] => { results := [.lit (.bool false)], args := [d1, d2, d3, d4] }
  | _ => none }
def LockLostWrongFalsely : Prop := lockLostRow.holds Tryd.pinned (OpenSpec.ofChange lockLostWrong)

/-- 'saronlaw07.LockMore': WHATEVER THE INPUT: true; the input reads as it did. -/
def lockMoreSpec : ChangeSpec := { name := "lockMore", fn := fun _ => fun
  | [d1, d2, d3] => { results := [.lit (.bool true)], args := [d1, d2, d3] }
  | _ => none }
def lockMoreRow : OpenClaim := { program := "ythhbfbmfhldbaaadoor", sum := "5c50d600522803dbc31885190d68b33c9b6670f945500a15a4c831e91a90cdab", func := "saron/saronlaw07.LockMore", spec := "lockMore", unfollowed := true, recurses := true, named := ["saron/lock.bounds"], plainKeys := false, apart := false, laid := [("saron/lock.bounds", laid_saron_lock_bounds)] }
def LockMoreSaid : Prop := lockMoreRow.holds Tryd.pinned (OpenSpec.ofChange lockMoreSpec)

/-- ITS FALSE NEIGHBOUR: 'it returns false'. Refute it at one input. -/
def lockMoreWrong : ChangeSpec := { name := "lockMore", fn := fun _ => fun
  | [d1, d2, d3] => { results := [.lit (.bool false)], args := [d1, d2, d3] }
  | _ => none }
def LockMoreWrongFalsely : Prop := lockMoreRow.holds Tryd.pinned (OpenSpec.ofChange lockMoreWrong)

/-- 'saronlaw07.LockKnown': WHATEVER THE INPUT: true; the input reads as it did. -/
def lockKnownSpec : ChangeSpec := { name := "lockKnown", fn := fun _ => fun
  | [] => { results := [.lit (.bool true)], args := [] }
  | _ => none }
def lockKnownRow : OpenClaim := { program := "ythhbfbmfhldbaaadoor", sum := "5c50d600522803dbc31885190d68b33c9b6670f945500a15a4c831e91a90cdab", func := "saron/saronlaw07.LockKnown", spec := "lockKnown", unfollowed := true, recurses := true, named := ["saron/lock.bounds"], plainKeys := false, apart := false, laid := [("saron/lock.bounds", laid_saron_lock_bounds)] }
def LockKnownSaid : Prop := lockKnownRow.holds Tryd.pinned (OpenSpec.ofChange lockKnownSpec)

/-- ITS FALSE NEIGHBOUR: 'it returns false'. Refute it at one input. -/
def lockKnownWrong : ChangeSpec := { name := "lockKnown", fn := fun _ => fun
  | [] => { results := [.lit (.bool false)], args := [] }
  | _ => none }
def LockKnownWrongFalsely : Prop := lockKnownRow.holds Tryd.pinned (OpenSpec.ofChange lockKnownWrong)

/- THE SECOND FORM. 'bulk': how many values and letters a reading holds, each counted each time it is reached (what is shared counts as often as it is met; a slice's spare places count too). A statement '..UptoSaid' is the law's where the arguments, and the package variables that the reading takes, are together of bulk at most 1048576: NARROWER than '..Said'. Prove '..Said' where nothing that the law and all that it calls make is longer than what came in: it says more and counts as full. Else prove '..UptoSaid'. A law counts once. -/
mutual
def uptoBulk {H : Type} : DataW H → Nat
  | .lit (.string bytes) => bytes.length + 1
  | .lit _ => 1
  | .nil => 1
  | .ptr d => uptoBulk d + 1
  | .slice elems spare => uptoBulkAll elems + uptoBulkAll spare + 1
  | .agg parts => uptoBulkAll parts + 1
  | .iface _ d => uptoBulk d + 1
  | .map entries => uptoBulkEntries entries + 1
  | .held _ => 1
def uptoBulkAll {H : Type} : List (DataW H) → Nat
  | [] => 0
  | d :: r => uptoBulk d + uptoBulkAll r
def uptoBulkEntries {H : Type} : List (Lit × DataW H) → Nat
  | [] => 0
  | x :: r => uptoBulkEntry x + uptoBulkEntries r
def uptoBulkEntry {H : Type} : Lit × DataW H → Nat
  | (.string bytes, d) => bytes.length + uptoBulk d + 1
  | (_, d) => uptoBulk d + 1
 end
def uptoSmall : (H : Type) → List (DataW H) → Bool := fun _ ds => decide (uptoBulkAll ds ≤ 1048576)
def OpenSpec.upto (s : _root_.Go.ChangeSpec) : _root_.Go.OpenSpec := { _root_.Go.OpenSpec.ofChange s with cond := some uptoSmall }

/-- 'saronlaw07.LockSplits', WHERE WHAT IT READS IS OF BULK AT MOST 1048576: true; the input reads as it did. -/
def lockSplitsUptoRow : OpenClaim := { program := "ythhbfbmfhldbaaadoor", sum := "5c50d600522803dbc31885190d68b33c9b6670f945500a15a4c831e91a90cdab", func := "saron/saronlaw07.LockSplits", spec := "lockSplits", unfollowed := true, recurses := true, named := ["saron/lock.bounds"], plainKeys := false, apart := false, laid := [("saron/lock.bounds", laid_saron_lock_bounds)], narrowed := true }
def LockSplitsUptoSaid : Prop := lockSplitsUptoRow.holds Tryd.pinned (OpenSpec.upto lockSplitsSpec)

/-- 'saronlaw07.LockMates', WHERE WHAT IT READS IS OF BULK AT MOST 1048576: true; the input reads as it did. -/
def lockMatesUptoRow : OpenClaim := { program := "ythhbfbmfhldbaaadoor", sum := "5c50d600522803dbc31885190d68b33c9b6670f945500a15a4c831e91a90cdab", func := "saron/saronlaw07.LockMates", spec := "lockMates", unfollowed := true, recurses := true, named := ["saron/lock.bounds"], plainKeys := false, apart := false, laid := [("saron/lock.bounds", laid_saron_lock_bounds)], narrowed := true }
def LockMatesUptoSaid : Prop := lockMatesUptoRow.holds Tryd.pinned (OpenSpec.upto lockMatesSpec)

/-- 'saronlaw07.LockLates', WHERE WHAT IT READS IS OF BULK AT MOST 1048576: true; the input reads as it did. -/
def lockLatesUptoRow : OpenClaim := { program := "ythhbfbmfhldbaaadoor", sum := "5c50d600522803dbc31885190d68b33c9b6670f945500a15a4c831e91a90cdab", func := "saron/saronlaw07.LockLates", spec := "lockLates", unfollowed := true, recurses := true, named := ["saron/lock.bounds"], plainKeys := false, apart := false, laid := [("saron/lock.bounds", laid_saron_lock_bounds)], narrowed := true }
def LockLatesUptoSaid : Prop := lockLatesUptoRow.holds Tryd.pinned (OpenSpec.upto lockLatesSpec)

/-- 'saronlaw07.LockNeither', WHERE WHAT IT READS IS OF BULK AT MOST 1048576: true; the input reads as it did. -/
def lockNeitherUptoRow : OpenClaim := { program := "ythhbfbmfhldbaaadoor", sum := "5c50d600522803dbc31885190d68b33c9b6670f945500a15a4c831e91a90cdab", func := "saron/saronlaw07.LockNeither", spec := "lockNeither", unfollowed := true, recurses := true, named := ["saron/lock.bounds"], plainKeys := false, apart := false, laid := [("saron/lock.bounds", laid_saron_lock_bounds)], narrowed := true }
def LockNeitherUptoSaid : Prop := lockNeitherUptoRow.holds Tryd.pinned (OpenSpec.upto lockNeitherSpec)

/-- 'saronlaw07.LockForced', WHERE WHAT IT READS IS OF BULK AT MOST 1048576: true; the input reads as it did. -/
def lockForcedUptoRow : OpenClaim := { program := "ythhbfbmfhldbaaadoor", sum := "5c50d600522803dbc31885190d68b33c9b6670f945500a15a4c831e91a90cdab", func := "saron/saronlaw07.LockForced", spec := "lockForced", unfollowed := true, recurses := true, named := ["saron/lock.bounds"], plainKeys := false, apart := false, laid := [("saron/lock.bounds", laid_saron_lock_bounds)], narrowed := true }
def LockForcedUptoSaid : Prop := lockForcedUptoRow.holds Tryd.pinned (OpenSpec.upto lockForcedSpec)

/-- 'saronlaw07.LockMate', WHERE WHAT IT READS IS OF BULK AT MOST 1048576: true; the input reads as it did. -/
def lockMateUptoRow : OpenClaim := { program := "ythhbfbmfhldbaaadoor", sum := "5c50d600522803dbc31885190d68b33c9b6670f945500a15a4c831e91a90cdab", func := "saron/saronlaw07.LockMate", spec := "lockMate", unfollowed := true, recurses := true, named := ["saron/lock.bounds"], plainKeys := false, apart := false, laid := [("saron/lock.bounds", laid_saron_lock_bounds)], narrowed := true }
def LockMateUptoSaid : Prop := lockMateUptoRow.holds Tryd.pinned (OpenSpec.upto lockMateSpec)

/-- 'saronlaw07.LockTurned', WHERE WHAT IT READS IS OF BULK AT MOST 1048576: true; the input reads as it did. -/
def lockTurnedUptoRow : OpenClaim := { program := "ythhbfbmfhldbaaadoor", sum := "5c50d600522803dbc31885190d68b33c9b6670f945500a15a4c831e91a90cdab", func := "saron/saronlaw07.LockTurned", spec := "lockTurned", unfollowed := true, recurses := true, named := ["saron/lock.bounds"], plainKeys := false, apart := false, laid := [("saron/lock.bounds", laid_saron_lock_bounds)], narrowed := true }
def LockTurnedUptoSaid : Prop := lockTurnedUptoRow.holds Tryd.pinned (OpenSpec.upto lockTurnedSpec)

/-- 'saronlaw07.LockLate', WHERE WHAT IT READS IS OF BULK AT MOST 1048576: true; the input reads as it did. -/
def lockLateUptoRow : OpenClaim := { program := "ythhbfbmfhldbaaadoor", sum := "5c50d600522803dbc31885190d68b33c9b6670f945500a15a4c831e91a90cdab", func := "saron/saronlaw07.LockLate", spec := "lockLate", unfollowed := true, recurses := true, named := ["saron/lock.bounds"], plainKeys := false, apart := false, laid := [("saron/lock.bounds", laid_saron_lock_bounds)], narrowed := true }
def LockLateUptoSaid : Prop := lockLateUptoRow.holds Tryd.pinned (OpenSpec.upto lockLateSpec)

/-- 'saronlaw07.LockTold', WHERE WHAT IT READS IS OF BULK AT MOST 1048576: true; the input reads as it did. -/
def lockToldUptoRow : OpenClaim := { program := "ythhbfbmfhldbaaadoor", sum := "5c50d600522803dbc31885190d68b33c9b6670f945500a15a4c831e91a90cdab", func := "saron/saronlaw07.LockTold", spec := "lockTold", unfollowed := true, recurses := true, named := ["saron/lock.bounds"], plainKeys := false, apart := false, laid := [("saron/lock.bounds", laid_saron_lock_bounds)], narrowed := true }
def LockToldUptoSaid : Prop := lockToldUptoRow.holds Tryd.pinned (OpenSpec.upto lockToldSpec)

/-- 'saronlaw07.LockLost', WHERE WHAT IT READS IS OF BULK AT MOST 1048576: true; the input reads as it did. -/
def lockLostUptoRow : OpenClaim := { program := "ythhbfbmfhldbaaadoor", sum := "5c50d600522803dbc31885190d68b33c9b6670f945500a15a4c831e91a90cdab", func := "saron/saronlaw07.LockLost", spec := "lockLost", unfollowed := true, recurses := true, named := ["saron/lock.bounds"], plainKeys := false, apart := false, laid := [("saron/lock.bounds", laid_saron_lock_bounds)], narrowed := true }
def LockLostUptoSaid : Prop := lockLostUptoRow.holds Tryd.pinned (OpenSpec.upto lockLostSpec)

/-- 'saronlaw07.LockMore', WHERE WHAT IT READS IS OF BULK AT MOST 1048576: true; the input reads as it did. -/
def lockMoreUptoRow : OpenClaim := { program := "ythhbfbmfhldbaaadoor", sum := "5c50d600522803dbc31885190d68b33c9b6670f945500a15a4c831e91a90cdab", func := "saron/saronlaw07.LockMore", spec := "lockMore", unfollowed := true, recurses := true, named := ["saron/lock.bounds"], plainKeys := false, apart := false, laid := [("saron/lock.bounds", laid_saron_lock_bounds)], narrowed := true }
def LockMoreUptoSaid : Prop := lockMoreUptoRow.holds Tryd.pinned (OpenSpec.upto lockMoreSpec)

/-- 'saronlaw07.LockKnown', WHERE WHAT IT READS IS OF BULK AT MOST 1048576: true; the input reads as it did. -/
def lockKnownUptoRow : OpenClaim := { program := "ythhbfbmfhldbaaadoor", sum := "5c50d600522803dbc31885190d68b33c9b6670f945500a15a4c831e91a90cdab", func := "saron/saronlaw07.LockKnown", spec := "lockKnown", unfollowed := true, recurses := true, named := ["saron/lock.bounds"], plainKeys := false, apart := false, laid := [("saron/lock.bounds", laid_saron_lock_bounds)], narrowed := true }
def LockKnownUptoSaid : Prop := lockKnownUptoRow.holds Tryd.pinned (OpenSpec.upto lockKnownSpec)

end Rows
end Go.Proofs.YthhbfbmfhldbaaaDoor
