/-
  No cell of these rows narrows 'for every input' (looked for: loops, veiled, ifaces, maps, wideKeys, modest, calm, conditions, laid).
  DERIVED. THE GIVEN ROWS OF THIS SEAT. 11 by the template 'for every input the law returns true; each argument reads behind the call as it read before'; 0 by the template 'total and deterministic' (their statements: YtdahbimllmapkaaTotals.lean).
  GIVEN WITH THE SEED: the statements are not yours to turn. If you find one false, say at which input.
  Laid BY PROGRAM, IN A SANDBOX (cutbox-rows.mjs): the forced cells as the released guide's own fill.sh prints them over the translation 6a27dc1754849b63… (all of the seat's roots in one cut). By AI agents, Wed Nov 11 2026. No macro, syntax, notation, axiom, sorry.
-/
import Derived.Test.YtdahbimllmapkaaChecked
import GoSem.Claim
import GoSem.ClaimJoined
import GoSem.ClaimMapViews
import Derived.JoinedTies
import Derived.KernelRfl
namespace Go.Proofs.Ytdahbimllmapkaa
/- THE CELL 'sum', in the pinned program and in every row, IS THE sha256 OF THE DUMP (.gsa) THAT YtdahbimllmapkaaProg.lean LOADS. Nothing in Lean hashes anything: it is a label: what it is worth is what the hold of that sum in a sandbox is worth. -/
noncomputable def Try.pinned : Pinned := { name := "ytdahbimllmapkaa", sum := "6a27dc1754849b636956f7f4d4a05041acb733fef804664840da3a5abc7e5c77", checked := Try.checked }
namespace Rows
def none {H : Type} : Left H := { results := [], args := [] }

/-- 'saronlaw03.RaspNexts': WHATEVER THE INPUT: true; the input reads as it did. -/
def raspNextsSpec : ChangeSpec := { name := "raspNexts", fn := fun _ => fun
  | [d1, d2] => { results := [.lit (.bool true)], args := [d1, d2] }
  | _ => none }
def raspNextsRow : OpenClaim := { program := "ytdahbimllmapkaa", sum := "6a27dc1754849b636956f7f4d4a05041acb733fef804664840da3a5abc7e5c77", func := "saron/saronlaw03.RaspNexts", spec := "raspNexts", unfollowed := true, recurses := true, plainKeys := false, apart := false }
def RaspNextsSaid : Prop := raspNextsRow.holds Try.pinned (OpenSpec.ofChange raspNextsSpec)

/-- ITS FALSE NEIGHBOUR: 'it returns false'. Refute it at one input. -/
def raspNextsWrong : ChangeSpec := { name := "raspNexts", fn := fun _ => fun
  | [d1, d2] => { results := [.lit (.bool false)], args := [d1, d2] }
  | _ => none }
def RaspNextsWrongFalsely : Prop := raspNextsRow.holds Try.pinned (OpenSpec.ofChange raspNextsWrong)

/-- 'saronlaw03.RaspKeys': WHATEVER THE INPUT: true; the input reads as it did. -/
def raspKeysSpec : ChangeSpec := { name := "raspKeys", fn := fun _ => fun
  | [d1, d2] => { results := [.lit (.bool true)], args := [d1, d2] }
  | _ => none }
def raspKeysRow : OpenClaim := { program := "ytdahbimllmapkaa", sum := "6a27dc1754849b636956f7f4d4a05041acb733fef804664840da3a5abc7e5c77", func := "saron/saronlaw03.RaspKeys", spec := "raspKeys", unfollowed := true, recurses := true, plainKeys := false, apart := false }
def RaspKeysSaid : Prop := raspKeysRow.holds Try.pinned (OpenSpec.ofChange raspKeysSpec)

/-- ITS FALSE NEIGHBOUR: 'it returns false'. Refute it at one input. -/
def raspKeysWrong : ChangeSpec := { name := "raspKeys", fn := fun _ => fun
  | [d1, d2] => { results := [.lit (.bool false)], args := [d1, d2] }
  | _ => none }
def RaspKeysWrongFalsely : Prop := raspKeysRow.holds Try.pinned (OpenSpec.ofChange raspKeysWrong)

/-- 'saronlaw03.RaspPlays': WHATEVER THE INPUT: true; the input reads as it did. -/
def raspPlaysSpec : ChangeSpec := { name := "raspPlays", fn := fun _ => fun
  | [d1, d2, d3] => { results := [.lit (.bool true)], args := [d1, d2, d3] }
  | _ => none }
def raspPlaysRow : OpenClaim := { program := "ytdahbimllmapkaa", sum := "6a27dc1754849b636956f7f4d4a05041acb733fef804664840da3a5abc7e5c77", func := "saron/saronlaw03.RaspPlays", spec := "raspPlays", unfollowed := true, recurses := true, plainKeys := false, apart := false }
def RaspPlaysSaid : Prop := raspPlaysRow.holds Try.pinned (OpenSpec.ofChange raspPlaysSpec)

/-- ITS FALSE NEIGHBOUR: 'it returns false'. Refute it at one input. -/
def raspPlaysWrong : ChangeSpec := { name := "raspPlays", fn := fun _ => fun
  | [d1, d2, d3] => { results := [.lit (.bool false)], args := [d1, d2, d3] }
  | _ => none }
def RaspPlaysWrongFalsely : Prop := raspPlaysRow.holds Try.pinned (OpenSpec.ofChange raspPlaysWrong)

/-- 'saronlaw03.RaspSure': WHATEVER THE INPUT: true; the input reads as it did. -/
def raspSureSpec : ChangeSpec := { name := "raspSure", fn := fun _ => fun
  | [d1, d2, d3] => { results := [.lit (.bool true)], args := [d1, d2, d3] }
  | _ => none }
def raspSureRow : OpenClaim := { program := "ytdahbimllmapkaa", sum := "6a27dc1754849b636956f7f4d4a05041acb733fef804664840da3a5abc7e5c77", func := "saron/saronlaw03.RaspSure", spec := "raspSure", unfollowed := true, recurses := true, plainKeys := false, apart := false }
def RaspSureSaid : Prop := raspSureRow.holds Try.pinned (OpenSpec.ofChange raspSureSpec)

/-- ITS FALSE NEIGHBOUR: 'it returns false'. Refute it at one input. -/
def raspSureWrong : ChangeSpec := { name := "raspSure", fn := fun _ => fun
  | [d1, d2, d3] => { results := [.lit (.bool false)], args := [d1, d2, d3] }
  | _ => none }
def RaspSureWrongFalsely : Prop := raspSureRow.holds Try.pinned (OpenSpec.ofChange raspSureWrong)

/-- 'saronlaw03.RaspLeast': WHATEVER THE INPUT: true; the input reads as it did. -/
def raspLeastSpec : ChangeSpec := { name := "raspLeast", fn := fun _ => fun
  | [d1, d2] => { results := [.lit (.bool true)], args := [d1, d2] }
  | _ => none }
def raspLeastRow : OpenClaim := { program := "ytdahbimllmapkaa", sum := "6a27dc1754849b636956f7f4d4a05041acb733fef804664840da3a5abc7e5c77", func := "saron/saronlaw03.RaspLeast", spec := "raspLeast", unfollowed := true, recurses := true, plainKeys := false, apart := false }
def RaspLeastSaid : Prop := raspLeastRow.holds Try.pinned (OpenSpec.ofChange raspLeastSpec)

/-- ITS FALSE NEIGHBOUR: 'it returns false'. Refute it at one input. -/
def raspLeastWrong : ChangeSpec := { name := "raspLeast", fn := fun _ => fun
  | [d1, d2] => { results := [.lit (.bool false)], args := [d1, d2] }
  | _ => none }
def RaspLeastWrongFalsely : Prop := raspLeastRow.holds Try.pinned (OpenSpec.ofChange raspLeastWrong)

/-- 'saronlaw03.RaspMore': WHATEVER THE INPUT: true; the input reads as it did. -/
def raspMoreSpec : ChangeSpec := { name := "raspMore", fn := fun _ => fun
  | [d1, d2, d3, d4] => { results := [.lit (.bool true)], args := [d1, d2, d3, d4] }
  | _ => none }
def raspMoreRow : OpenClaim := { program := "ytdahbimllmapkaa", sum := "6a27dc1754849b636956f7f4d4a05041acb733fef804664840da3a5abc7e5c77", func := "saron/saronlaw03.RaspMore", spec := "raspMore", unfollowed := true, recurses := true, plainKeys := false, apart := false }
def RaspMoreSaid : Prop := raspMoreRow.holds Try.pinned (OpenSpec.ofChange raspMoreSpec)

/-- ITS FALSE NEIGHBOUR: 'it returns false'. Refute it at one input. -/
def raspMoreWrong : ChangeSpec := { name := "raspMore", fn := fun _ => fun
  | [d1, d2, d3, d4] => { results := [.lit (.bool false)], args := [d1, d2, d3, d4] }
  | _ => none }
def RaspMoreWrongFalsely : Prop := raspMoreRow.holds Try.pinned (OpenSpec.ofChange raspMoreWrong)

/-- 'saronlaw03.RaspEasier': WHATEVER THE INPUT: true; the input reads as it did. -/
def raspEasierSpec : ChangeSpec := { name := "raspEasier", fn := fun _ => fun
  | [d1, d2, d3] => { results := [.lit (.bool true)], args := [d1, d2, d3] }
  | _ => none }
def raspEasierRow : OpenClaim := { program := "ytdahbimllmapkaa", sum := "6a27dc1754849b636956f7f4d4a05041acb733fef804664840da3a5abc7e5c77", func := "saron/saronlaw03.RaspEasier", spec := "raspEasier", unfollowed := true, recurses := true, plainKeys := false, apart := false }
def RaspEasierSaid : Prop := raspEasierRow.holds Try.pinned (OpenSpec.ofChange raspEasierSpec)

/-- ITS FALSE NEIGHBOUR: 'it returns false'. Refute it at one input. -/
def raspEasierWrong : ChangeSpec := { name := "raspEasier", fn := fun _ => fun
  | [d1, d2, d3] => { results := [.lit (.bool false)], args := [d1, d2, d3] }
  | _ => none }
def RaspEasierWrongFalsely : Prop := raspEasierRow.holds Try.pinned (OpenSpec.ofChange raspEasierWrong)

/-- 'saronlaw03.RaspEnough': WHATEVER THE INPUT: true; the input reads as it did. -/
def raspEnoughSpec : ChangeSpec := { name := "raspEnough", fn := fun _ => fun
  | [d1, d2] => { results := [.lit (.bool true)], args := [d1, d2] }
  | _ => none }
def raspEnoughRow : OpenClaim := { program := "ytdahbimllmapkaa", sum := "6a27dc1754849b636956f7f4d4a05041acb733fef804664840da3a5abc7e5c77", func := "saron/saronlaw03.RaspEnough", spec := "raspEnough", unfollowed := true, recurses := true, plainKeys := false, apart := false }
def RaspEnoughSaid : Prop := raspEnoughRow.holds Try.pinned (OpenSpec.ofChange raspEnoughSpec)

/-- ITS FALSE NEIGHBOUR: 'it returns false'. Refute it at one input. -/
def raspEnoughWrong : ChangeSpec := { name := "raspEnough", fn := fun _ => fun
  | [d1, d2] => { results := [.lit (.bool false)], args := [d1, d2] }
  | _ => none }
def RaspEnoughWrongFalsely : Prop := raspEnoughRow.holds Try.pinned (OpenSpec.ofChange raspEnoughWrong)

/-- 'saronlaw03.RaspSingle': WHATEVER THE INPUT: true; the input reads as it did. -/
def raspSingleSpec : ChangeSpec := { name := "raspSingle", fn := fun _ => fun
  | [d1, d2, d3] => { results := [.lit (.bool true)], args := [d1, d2, d3] }
  | _ => none }
def raspSingleRow : OpenClaim := { program := "ytdahbimllmapkaa", sum := "6a27dc1754849b636956f7f4d4a05041acb733fef804664840da3a5abc7e5c77", func := "saron/saronlaw03.RaspSingle", spec := "raspSingle", unfollowed := true, recurses := true, plainKeys := false, apart := false }
def RaspSingleSaid : Prop := raspSingleRow.holds Try.pinned (OpenSpec.ofChange raspSingleSpec)

/-- ITS FALSE NEIGHBOUR: 'it returns false'. Refute it at one input. -/
def raspSingleWrong : ChangeSpec := { name := "raspSingle", fn := fun _ => fun
  | [d1, d2, d3] => { results := [.lit (.bool false)], args := [d1, d2, d3] }
  | _ => none }
def RaspSingleWrongFalsely : Prop := raspSingleRow.holds Try.pinned (OpenSpec.ofChange raspSingleWrong)

/-- 'saronlaw03.RaspTurned': WHATEVER THE INPUT: true; the input reads as it did. -/
def raspTurnedSpec : ChangeSpec := { name := "raspTurned", fn := fun _ => fun
  | [d1, d2] => { results := [.lit (.bool true)], args := [d1, d2] }
  | _ => none }
def raspTurnedRow : OpenClaim := { program := "ytdahbimllmapkaa", sum := "6a27dc1754849b636956f7f4d4a05041acb733fef804664840da3a5abc7e5c77", func := "saron/saronlaw03.RaspTurned", spec := "raspTurned", unfollowed := true, recurses := true, plainKeys := false, apart := false }
def RaspTurnedSaid : Prop := raspTurnedRow.holds Try.pinned (OpenSpec.ofChange raspTurnedSpec)

/-- ITS FALSE NEIGHBOUR: 'it returns false'. Refute it at one input. -/
def raspTurnedWrong : ChangeSpec := { name := "raspTurned", fn := fun _ => fun
  | [d1, d2] => { results := [.lit (.bool false)], args := [d1, d2] }
  | _ => none }
def RaspTurnedWrongFalsely : Prop := raspTurnedRow.holds Try.pinned (OpenSpec.ofChange raspTurnedWrong)

/-- 'saronlaw03.RaspPlayed': WHATEVER THE INPUT: true; the input reads as it did. -/
def raspPlayedSpec : ChangeSpec := { name := "raspPlayed", fn := fun _ => fun
  | [d1, d2, d3] => { results := [.lit (.bool true)], args := [d1, d2, d3] }
  | _ => none }
def raspPlayedRow : OpenClaim := { program := "ytdahbimllmapkaa", sum := "6a27dc1754849b636956f7f4d4a05041acb733fef804664840da3a5abc7e5c77", func := "saron/saronlaw03.RaspPlayed", spec := "raspPlayed", unfollowed := true, recurses := true, plainKeys := false, apart := false }
def RaspPlayedSaid : Prop := raspPlayedRow.holds Try.pinned (OpenSpec.ofChange raspPlayedSpec)

/-- ITS FALSE NEIGHBOUR: 'it returns false'. Refute it at one input. -/
def raspPlayedWrong : ChangeSpec := { name := "raspPlayed", fn := fun _ => fun
  | [d1, d2, d3] => { results := [.lit (.bool false)], args := [d1, d2, d3] }
  | _ => none }
def RaspPlayedWrongFalsely : Prop := raspPlayedRow.holds Try.pinned (OpenSpec.ofChange raspPlayedWrong)

/- THE SECOND FORM. 'bulk': how many values and letters a reading holds, each counted each time it is reached (what is shared counts as often as it is met; a slice's spare places count too). A statement '..UptoSaid' is the law's where the arguments, and the package variables that the reading takes, are together of bulk at most 1048576: NARROWER than '..Said'. Prove '..Said' where nothing that the law and all that it calls make is longer than what came in: it says more and counts as full. Else prove '..UptoSaid'. A law counts once. -/
mutual
def uptoBulk {H : Type} : DataW H → Nat
  | .lit (.string bytes) => bytes.length + 1
  | .lit _ => 1
  | .nil => 1
  | .ptr d => uptoBulk d + 1
  | .slice elems spare => uptoBulkAll elems + uptoBulkAll spare + 1
  | .agg parts => uptoBulkAll parts + 1
  | .iface _ d => uptoBulk d + 1
  | .map entries => uptoBulkEntries entries + 1
  | .held _ => 1
def uptoBulkAll {H : Type} : List (DataW H) → Nat
  | [] => 0
  | d :: r => uptoBulk d + uptoBulkAll r
def uptoBulkEntries {H : Type} : List (Lit × DataW H) → Nat
  | [] => 0
  | x :: r => uptoBulkEntry x + uptoBulkEntries r
def uptoBulkEntry {H : Type} : Lit × DataW H → Nat
  | (.string bytes, d) => bytes.length + uptoBulk d + 1
  | (_, d) => uptoBulk d + 1
 end
def uptoSmall : (H : Type) → List (DataW H) → Bool := fun _ ds => decide (uptoBulkAll ds ≤ 1048576)
def OpenSpec.upto (s : _root_.Go.ChangeSpec) : _root_.Go.OpenSpec := { _root_.Go.OpenSpec.ofChange s with cond := some uptoSmall }

/-- 'saronlaw03.RaspNexts', WHERE WHAT IT READS IS OF BULK AT MOST 1048576: true; the input reads as it did. -/
def raspNextsUptoRow : OpenClaim := { program := "ytdahbimllmapkaa", sum := "6a27dc1754849b636956f7f4d4a05041acb733fef804664840da3a5abc7e5c77", func := "saron/saronlaw03.RaspNexts", spec := "raspNexts", unfollowed := true, recurses := true, plainKeys := false, apart := false, narrowed := true }
def RaspNextsUptoSaid : Prop := raspNextsUptoRow.holds Try.pinned (OpenSpec.upto raspNextsSpec)

/-- 'saronlaw03.RaspKeys', WHERE WHAT IT READS IS OF BULK AT MOST 1048576: true; the input reads as it did. -/
def raspKeysUptoRow : OpenClaim := { program := "ytdahbimllmapkaa", sum := "6a27dc1754849b636956f7f4d4a05041acb733fef804664840da3a5abc7e5c77", func := "saron/saronlaw03.RaspKeys", spec := "raspKeys", unfollowed := true, recurses := true, plainKeys := false, apart := false, narrowed := true }
def RaspKeysUptoSaid : Prop := raspKeysUptoRow.holds Try.pinned (OpenSpec.upto raspKeysSpec)

/-- 'saronlaw03.RaspPlays', WHERE WHAT IT READS IS OF BULK AT MOST 1048576: true; the input reads as it did. -/
def raspPlaysUptoRow : OpenClaim := { program := "ytdahbimllmapkaa", sum := "6a27dc1754849b636956f7f4d4a05041acb733fef804664840da3a5abc7e5c77", func := "saron/saronlaw03.RaspPlays", spec := "raspPlays", unfollowed := true, recurses := true, plainKeys := false, apart := false, narrowed := true }
def RaspPlaysUptoSaid : Prop := raspPlaysUptoRow.holds Try.pinned (OpenSpec.upto raspPlaysSpec)

/-- 'saronlaw03.RaspSure', WHERE WHAT IT READS IS OF BULK AT MOST 1048576: true; the input reads as it did. -/
def raspSureUptoRow : OpenClaim := { program := "ytdahbimllmapkaa", sum := "6a27dc1754849b636956f7f4d4a05041acb733fef804664840da3a5abc7e5c77", func := "saron/saronlaw03.RaspSure", spec := "raspSure", unfollowed := true, recurses := true, plainKeys := false, apart := false, narrowed := true }
def RaspSureUptoSaid : Prop := raspSureUptoRow.holds Try.pinned (OpenSpec.upto raspSureSpec)

/-- 'saronlaw03.RaspLeast', WHERE WHAT IT READS IS OF BULK AT MOST 1048576: true; the input reads as it did. -/
def raspLeastUptoRow : OpenClaim := { program := "ytdahbimllmapkaa", sum := "6a27dc1754849b636956f7f4d4a05041acb733fef804664840da3a5abc7e5c77", func := "saron/saronlaw03.RaspLeast", spec := "raspLeast", unfollowed := true, recurses := true, plainKeys := false, apart := false, narrowed := true }
def RaspLeastUptoSaid : Prop := raspLeastUptoRow.holds Try.pinned (OpenSpec.upto raspLeastSpec)

/-- 'saronlaw03.RaspMore', WHERE WHAT IT READS IS OF BULK AT MOST 1048576: true; the input reads as it did. -/
def raspMoreUptoRow : OpenClaim := { program := "ytdahbimllmapkaa", sum := "6a27dc1754849b636956f7f4d4a05041acb733fef804664840da3a5abc7e5c77", func := "saron/saronlaw03.RaspMore", spec := "raspMore", unfollowed := true, recurses := true, plainKeys := false, apart := false, narrowed := true }
def RaspMoreUptoSaid : Prop := raspMoreUptoRow.holds Try.pinned (OpenSpec.upto raspMoreSpec)

/-- 'saronlaw03.RaspEasier', WHERE WHAT IT READS IS OF BULK AT MOST 1048576: true; the input reads as it did. -/
def raspEasierUptoRow : OpenClaim := { program := "ytdahbimllmapkaa", sum := "6a27dc1754849b636956f7f4d4a05041acb733fef804664840da3a5abc7e5c77", func := "saron/saronlaw03.RaspEasier", spec := "raspEasier", unfollowed := true, recurses := true, plainKeys := false, apart := false, narrowed := true }
def RaspEasierUptoSaid : Prop := raspEasierUptoRow.holds Try.pinned (OpenSpec.upto raspEasierSpec)

/-- 'saronlaw03.RaspEnough', WHERE WHAT IT READS IS OF BULK AT MOST 1048576: true; the input reads as it did. -/
def raspEnoughUptoRow : OpenClaim := { program := "ytdahbimllmapkaa", sum := "6a27dc1754849b636956f7f4d4a05041acb733fef804664840da3a5abc7e5c77", func := "saron/saronlaw03.RaspEnough", spec := "raspEnough", unfollowed := true, recurses := true, plainKeys := false, apart := false, narrowed := true }
def RaspEnoughUptoSaid : Prop := raspEnoughUptoRow.holds Try.pinned (OpenSpec.upto raspEnoughSpec)

/-- 'saronlaw03.RaspSingle', WHERE WHAT IT READS IS OF BULK AT MOST 1048576: true; the input reads as it did. -/
def raspSingleUptoRow : OpenClaim := { program := "ytdahbimllmapkaa", sum := "6a27dc1754849b636956f7f4d4a05041acb733fef804664840da3a5abc7e5c77", func := "saron/saronlaw03.RaspSingle", spec := "raspSingle", unfollowed := true, recurses := true, plainKeys := false, apart := false, narrowed := true }
def RaspSingleUptoSaid : Prop := raspSingleUptoRow.holds Try.pinned (OpenSpec.upto raspSingleSpec)

/-- 'saronlaw03.RaspTurned', WHERE WHAT IT READS IS OF BULK AT MOST 1048576: true; the input reads as it did. -/
def raspTurnedUptoRow : OpenClaim := { program := "ytdahbimllmapkaa", sum := "6a27dc1754849b636956f7f4d4a05041acb733fef804664840da3a5abc7e5c77", func := "saron/saronlaw03.RaspTurned", spec := "raspTurned", unfollowed := true, recurses := true, plainKeys := false, apart := false, narrowed := true }
def RaspTurnedUptoSaid : Prop := raspTurnedUptoRow.holds Try.pinned (OpenSpec.upto raspTurnedSpec)

/-- 'saronlaw03.RaspPlayed', WHERE WHAT IT READS IS OF BULK AT MOST 1048576: true; the input reads as it did. -/
def raspPlayedUptoRow : OpenClaim := { program := "ytdahbimllmapkaa", sum := "6a27dc1754849b636956f7f4d4a05041acb733fef804664840da3a5abc7e5c77", func := "saron/saronlaw03.RaspPlayed", spec := "raspPlayed", unfollowed := true, recurses := true, plainKeys := false, apart := false, narrowed := true }
def RaspPlayedUptoSaid : Prop := raspPlayedUptoRow.holds Try.pinned (OpenSpec.upto raspPlayedSpec)

end Rows
end Go.Proofs.Ytdahbimllmapkaa
