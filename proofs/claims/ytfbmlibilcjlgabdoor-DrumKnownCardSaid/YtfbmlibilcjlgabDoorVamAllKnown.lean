/- The runs of the plain machine, put together. -/
import Derived.Test.YtfbmlibilcjlgabDoorVamTab1
import Derived.Test.YtfbmlibilcjlgabDoorVamRun0
import Derived.Test.YtfbmlibilcjlgabDoorVamRun1
import Derived.Test.YtfbmlibilcjlgabDoorVamRun2
import Derived.Test.YtfbmlibilcjlgabDoorVamRun3
import Derived.Test.YtfbmlibilcjlgabDoorVamRun4
import Derived.Test.YtfbmlibilcjlgabDoorVamRun5
import Derived.Test.YtfbmlibilcjlgabDoorVamRun6
import Derived.Test.YtfbmlibilcjlgabDoorVamRunP
import Derived.Test.YtfbmlibilcjlgabDoorVamRunL
namespace Go.Proofs.YtfbmlibilcjlgabDoor.drumKnown
open Vam
theorem mixed : Tryd.prog.follows .mixedOrders = true := by kernel_rfl
theorem known0 : KnownOk Tryd.prog tab0 := (orK_ok (one_ok (sound mixed 1000000).2 ⟨rfl, fun _ _ _ => rfl⟩ q0run) (orK_ok (one_ok (sound mixed 1000000).2 ⟨rfl, fun _ _ _ => rfl⟩ q1run) (orK_ok (one_ok (sound mixed 1000000).2 ⟨rfl, fun _ _ _ => rfl⟩ q2run) noKnown_ok)))
theorem known1 : KnownOk Tryd.prog tab1 := (orK_ok (one_ok (soundK (is := is0) mixed known0 1000000).2 ⟨rfl, fun _ _ _ => rfl⟩ q3run) (orK_ok (one_ok (soundK (is := is0) mixed known0 1000000).2 ⟨rfl, fun _ _ _ => rfl⟩ q4run) (orK_ok (one_ok (soundK (is := is0) mixed known0 1000000).2 ⟨rfl, fun _ _ _ => rfl⟩ q5run) (orK_ok (one_ok (soundK (is := is0) mixed known0 1000000).2 ⟨rfl, fun _ _ _ => rfl⟩ q6run) (orK_ok (one_ok (soundK (is := is0) mixed known0 1000000).2 ⟨rfl, fun _ _ _ => rfl⟩ q7run) (orK_ok (one_ok (soundK (is := is0) mixed known0 1000000).2 ⟨rfl, fun _ _ _ => rfl⟩ q8run) (orK_ok (one_ok (soundK (is := is0) mixed known0 1000000).2 ⟨rfl, fun _ _ _ => rfl⟩ q9run) (orK_ok (one_ok (soundK (is := is0) mixed known0 1000000).2 ⟨rfl, fun _ _ _ => rfl⟩ q10run) (orK_ok (one_ok (soundK (is := is0) mixed known0 1000000).2 ⟨rfl, fun _ _ _ => rfl⟩ q11run) (orK_ok (one_ok (soundK (is := is0) mixed known0 1000000).2 ⟨rfl, fun _ _ _ => rfl⟩ q12run) (orK_ok (one_ok (soundK (is := is0) mixed known0 1000000).2 ⟨rfl, fun _ _ _ => rfl⟩ q13run) (orK_ok (one_ok (soundK (is := is0) mixed known0 1000000).2 ⟨rfl, fun _ _ _ => rfl⟩ q14run) (orK_ok (one_ok (soundK (is := is0) mixed known0 1000000).2 ⟨rfl, fun _ _ _ => rfl⟩ q15run) (orK_ok (one_ok (soundK (is := is0) mixed known0 1000000).2 ⟨rfl, fun _ _ _ => rfl⟩ q16run) (orK_ok (one_ok (soundK (is := is0) mixed known0 1000000).2 ⟨rfl, fun _ _ _ => rfl⟩ q17run) (orK_ok (one_ok (soundK (is := is0) mixed known0 1000000).2 ⟨rfl, fun _ _ _ => rfl⟩ q18run) (orK_ok (one_ok (soundK (is := is0) mixed known0 1000000).2 ⟨rfl, fun _ _ _ => rfl⟩ q19run) (orK_ok (one_ok (soundK (is := is0) mixed known0 1000000).2 ⟨rfl, fun _ _ _ => rfl⟩ q20run) (orK_ok (one_ok (soundK (is := is0) mixed known0 1000000).2 ⟨rfl, fun _ _ _ => rfl⟩ q21run) (orK_ok (one_ok (soundK (is := is0) mixed known0 1000000).2 ⟨rfl, fun _ _ _ => rfl⟩ q22run) (orK_ok (one_ok (sound mixed 1000000).2 ⟨rfl, fun _ _ _ => rfl⟩ q0run) (orK_ok (one_ok (sound mixed 1000000).2 ⟨rfl, fun _ _ _ => rfl⟩ q1run) (orK_ok (one_ok (sound mixed 1000000).2 ⟨rfl, fun _ _ _ => rfl⟩ q2run) noKnown_ok)))))))))))))))))))))))
theorem known2 : KnownOk Tryd.prog tab2 := orK_ok (one_ok (soundK (is := is1) mixed known1 1000000).2 (mixedStays true) played_run) known1
theorem all_known : ∃ E H', SoundCall Tryd.prog E ∧ E.call 3 .nil H0 = .ok (.bool true) H' := known_of_table (P := Tryd.prog) mixed (is := is2) (orc := tab2) known2 (f := 3) (n := 1000000) law_run
end Go.Proofs.YtfbmlibilcjlgabDoor.drumKnown
