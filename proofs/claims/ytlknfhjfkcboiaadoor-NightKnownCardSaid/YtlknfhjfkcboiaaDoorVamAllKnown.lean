/- The runs of the plain machine, put together. -/
import Derived.Test.YtlknfhjfkcboiaaDoorVamTab1
import Derived.Test.YtlknfhjfkcboiaaDoorVamRun0
import Derived.Test.YtlknfhjfkcboiaaDoorVamRun1
import Derived.Test.YtlknfhjfkcboiaaDoorVamRun2
import Derived.Test.YtlknfhjfkcboiaaDoorVamRun3
import Derived.Test.YtlknfhjfkcboiaaDoorVamRun4
import Derived.Test.YtlknfhjfkcboiaaDoorVamRun5
import Derived.Test.YtlknfhjfkcboiaaDoorVamRun6
import Derived.Test.YtlknfhjfkcboiaaDoorVamRun7
import Derived.Test.YtlknfhjfkcboiaaDoorVamRun8
import Derived.Test.YtlknfhjfkcboiaaDoorVamRun9
import Derived.Test.YtlknfhjfkcboiaaDoorVamRun10
import Derived.Test.YtlknfhjfkcboiaaDoorVamRun11
import Derived.Test.YtlknfhjfkcboiaaDoorVamRun12
import Derived.Test.YtlknfhjfkcboiaaDoorVamRun13
import Derived.Test.YtlknfhjfkcboiaaDoorVamRun14
import Derived.Test.YtlknfhjfkcboiaaDoorVamRun15
import Derived.Test.YtlknfhjfkcboiaaDoorVamRun16
import Derived.Test.YtlknfhjfkcboiaaDoorVamRun17
import Derived.Test.YtlknfhjfkcboiaaDoorVamRun18
import Derived.Test.YtlknfhjfkcboiaaDoorVamRun19
import Derived.Test.YtlknfhjfkcboiaaDoorVamRun20
import Derived.Test.YtlknfhjfkcboiaaDoorVamRun21
import Derived.Test.YtlknfhjfkcboiaaDoorVamRun22
import Derived.Test.YtlknfhjfkcboiaaDoorVamRun23
import Derived.Test.YtlknfhjfkcboiaaDoorVamRun24
import Derived.Test.YtlknfhjfkcboiaaDoorVamRun25
import Derived.Test.YtlknfhjfkcboiaaDoorVamRunP
import Derived.Test.YtlknfhjfkcboiaaDoorVamRunL
namespace Go.Proofs.YtlknfhjfkcboiaaDoor.nightKnown
open Vam
theorem mixed : Tryd.prog.follows .mixedOrders = true := by kernel_rfl
theorem kL0 : KnownOk Tryd.prog tL0 := noKnown_ok
theorem kL1 : KnownOk Tryd.prog tL1 := (orK_ok (oneS_ok (soundK (is := iL0) mixed kL0 1000000).2 q0run) (orK_ok (oneS_ok (soundK (is := iL0) mixed kL0 1000000).2 q1run) (orK_ok (oneS_ok (soundK (is := iL0) mixed kL0 1000000).2 q2run) (orK_ok (oneS_ok (soundK (is := iL0) mixed kL0 1000000).2 q3run) (orK_ok (oneS_ok (soundK (is := iL0) mixed kL0 1000000).2 q4run) (orK_ok (oneS_ok (soundK (is := iL0) mixed kL0 1000000).2 q5run) (orK_ok (oneS_ok (soundK (is := iL0) mixed kL0 1000000).2 q6run) (orK_ok (oneS_ok (soundK (is := iL0) mixed kL0 1000000).2 q7run) (orK_ok (oneS_ok (soundK (is := iL0) mixed kL0 1000000).2 q8run) (orK_ok (one_ok (soundK (is := iL0) mixed kL0 1000000).2 ⟨rfl, fun _ _ _ => rfl⟩ q9run) (orK_ok (one_ok (soundK (is := iL0) mixed kL0 1000000).2 ⟨rfl, fun _ _ _ => rfl⟩ q10run) (orK_ok (one_ok (soundK (is := iL0) mixed kL0 1000000).2 ⟨rfl, fun _ _ _ => rfl⟩ q11run) (orK_ok (oneS_ok (soundK (is := iL0) mixed kL0 1000000).2 q12run) (orK_ok (oneS_ok (soundK (is := iL0) mixed kL0 1000000).2 q13run) (orK_ok (oneS_ok (soundK (is := iL0) mixed kL0 1000000).2 q14run) (orK_ok (oneS_ok (soundK (is := iL0) mixed kL0 1000000).2 q15run) (orK_ok (oneS_ok (soundK (is := iL0) mixed kL0 1000000).2 q16run) (orK_ok (oneS_ok (soundK (is := iL0) mixed kL0 1000000).2 q17run) (orK_ok (oneS_ok (soundK (is := iL0) mixed kL0 1000000).2 q18run) (orK_ok (one_ok (soundK (is := iL0) mixed kL0 1000000).2 ⟨rfl, fun _ _ _ => rfl⟩ q19run) (orK_ok (one_ok (soundK (is := iL0) mixed kL0 1000000).2 ⟨rfl, fun _ _ _ => rfl⟩ q20run) (orK_ok (one_ok (soundK (is := iL0) mixed kL0 1000000).2 ⟨rfl, fun _ _ _ => rfl⟩ q21run) (orK_ok (one_ok (soundK (is := iL0) mixed kL0 1000000).2 ⟨rfl, fun _ _ _ => rfl⟩ q22run) (orK_ok (one_ok (soundK (is := iL0) mixed kL0 1000000).2 ⟨rfl, fun _ _ _ => rfl⟩ q23run) (orK_ok (oneS_ok (soundK (is := iL0) mixed kL0 1000000).2 q24run) (orK_ok (oneS_ok (soundK (is := iL0) mixed kL0 1000000).2 q25run) (orK_ok (oneS_ok (soundK (is := iL0) mixed kL0 1000000).2 q26run) (orK_ok (oneS_ok (soundK (is := iL0) mixed kL0 1000000).2 q27run) (orK_ok (oneS_ok (soundK (is := iL0) mixed kL0 1000000).2 q28run) (orK_ok (oneS_ok (soundK (is := iL0) mixed kL0 1000000).2 q29run) (orK_ok (oneS_ok (soundK (is := iL0) mixed kL0 1000000).2 q30run) (orK_ok (oneS_ok (soundK (is := iL0) mixed kL0 1000000).2 q31run) (orK_ok (oneS_ok (soundK (is := iL0) mixed kL0 1000000).2 q32run) (orK_ok (one_ok (soundK (is := iL0) mixed kL0 1000000).2 ⟨rfl, fun _ _ _ => rfl⟩ q33run) kL0))))))))))))))))))))))))))))))))))
theorem kL2 : KnownOk Tryd.prog tL2 := (orK_ok (oneS_ok (soundK (is := iL1) mixed kL1 1000000).2 q34run) (orK_ok (one_ok (soundK (is := iL1) mixed kL1 1000000).2 ⟨rfl, fun _ _ _ => rfl⟩ q35run) (orK_ok (one_ok (soundK (is := iL1) mixed kL1 1000000).2 ⟨rfl, fun _ _ _ => rfl⟩ q36run) kL1)))
theorem kL3 : KnownOk Tryd.prog tL3 := (orK_ok (oneS_ok (soundK (is := iL2) mixed kL2 1000000).2 q37run) (orK_ok (oneS_ok (soundK (is := iL2) mixed kL2 1000000).2 q38run) (orK_ok (one_ok (soundK (is := iL2) mixed kL2 1000000).2 ⟨rfl, fun _ _ _ => rfl⟩ q39run) (orK_ok (oneS_ok (soundK (is := iL2) mixed kL2 1000000).2 q40run) kL2))))
theorem kL4 : KnownOk Tryd.prog tL4 := (orK_ok (oneS_ok (soundK (is := iL3) mixed kL3 1000000).2 q41run) (orK_ok (oneS_ok (soundK (is := iL3) mixed kL3 1000000).2 q42run) kL3))
theorem known1 : KnownOk Tryd.prog tab1 := kL4
theorem known2 : KnownOk Tryd.prog tab2 := orK_ok (one_ok (soundK (is := is1) mixed known1 1000000).2 (mixedStays true) played_run) known1
theorem all_known : ∃ E H', SoundCall Tryd.prog E ∧ E.call 13 .nil H0 = .ok (.bool true) H' := known_of_table (P := Tryd.prog) mixed (is := is2) (orc := tab2) known2 (f := 13) (n := 1000000) law_run
end Go.Proofs.YtlknfhjfkcboiaaDoor.nightKnown
