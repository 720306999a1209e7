import Derived.Test.YtlknfhjfkcboiaaDoorVamTab1
import Derived.Test.YtlknfhjfkcboiaaDoorVamRun0
import Derived.Test.YtlknfhjfkcboiaaDoorVamRun1
import Derived.Test.YtlknfhjfkcboiaaDoorVamRun2
import Derived.Test.YtlknfhjfkcboiaaDoorVamRun3
import Derived.Test.YtlknfhjfkcboiaaDoorVamRun4
import Derived.Test.YtlknfhjfkcboiaaDoorVamRun5
import Derived.Test.YtlknfhjfkcboiaaDoorVamRun6
import Derived.Test.YtlknfhjfkcboiaaDoorVamRun7
import Derived.Test.YtlknfhjfkcboiaaDoorVamRunP
namespace Go.Proofs.YtlknfhjfkcboiaaDoor.works
open Vam
theorem mixed : Tryd.prog.follows .mixedOrders = true := by kernel_rfl
theorem kL0 : KnownOk Tryd.prog tL0 := noKnown_ok
theorem kL1 : KnownOk Tryd.prog tL1 := (orK_ok (oneS_ok (soundK (is := iL0) mixed kL0 1000000).2 q0run) (orK_ok (oneS_ok (soundK (is := iL0) mixed kL0 1000000).2 q1run) (orK_ok (oneS_ok (soundK (is := iL0) mixed kL0 1000000).2 q2run) (orK_ok (oneS_ok (soundK (is := iL0) mixed kL0 1000000).2 q3run) (orK_ok (oneS_ok (soundK (is := iL0) mixed kL0 1000000).2 q4run) (orK_ok (oneS_ok (soundK (is := iL0) mixed kL0 1000000).2 q5run) (orK_ok (oneS_ok (soundK (is := iL0) mixed kL0 1000000).2 q6run) (orK_ok (oneS_ok (soundK (is := iL0) mixed kL0 1000000).2 q7run) (orK_ok (oneS_ok (soundK (is := iL0) mixed kL0 1000000).2 q8run) (orK_ok (one_ok (soundK (is := iL0) mixed kL0 1000000).2 ⟨rfl, fun _ _ _ => rfl⟩ q9run) (orK_ok (one_ok (soundK (is := iL0) mixed kL0 1000000).2 ⟨rfl, fun _ _ _ => rfl⟩ q10run) (orK_ok (one_ok (soundK (is := iL0) mixed kL0 1000000).2 ⟨rfl, fun _ _ _ => rfl⟩ q11run) (orK_ok (oneS_ok (soundK (is := iL0) mixed kL0 1000000).2 q12run) (orK_ok (oneS_ok (soundK (is := iL0) mixed kL0 1000000).2 q13run) (orK_ok (oneS_ok (soundK (is := iL0) mixed kL0 1000000).2 q14run) (orK_ok (oneS_ok (soundK (is := iL0) mixed kL0 1000000).2 q15run) (orK_ok (oneS_ok (soundK (is := iL0) mixed kL0 1000000).2 q16run) (orK_ok (oneS_ok (soundK (is := iL0) mixed kL0 1000000).2 q17run) (orK_ok (oneS_ok (soundK (is := iL0) mixed kL0 1000000).2 q18run) kL0)))))))))))))))))))
theorem kL2 : KnownOk Tryd.prog tL2 := (orK_ok (oneS_ok (soundK (is := iL1) mixed kL1 1000000).2 q19run) (orK_ok (one_ok (soundK (is := iL1) mixed kL1 1000000).2 ⟨rfl, fun _ _ _ => rfl⟩ q20run) kL1))
theorem kL3 : KnownOk Tryd.prog tL3 := (orK_ok (oneS_ok (soundK (is := iL2) mixed kL2 1000000).2 q21run) (orK_ok (oneS_ok (soundK (is := iL2) mixed kL2 1000000).2 q22run) (orK_ok (one_ok (soundK (is := iL2) mixed kL2 1000000).2 ⟨rfl, fun _ _ _ => rfl⟩ q23run) kL2)))
theorem kL4 : KnownOk Tryd.prog tL4 := (orK_ok (oneS_ok (soundK (is := iL3) mixed kL3 1000000).2 q24run) kL3)
theorem known1 : KnownOk Tryd.prog tab1 := kL4
end Go.Proofs.YtlknfhjfkcboiaaDoor.works
