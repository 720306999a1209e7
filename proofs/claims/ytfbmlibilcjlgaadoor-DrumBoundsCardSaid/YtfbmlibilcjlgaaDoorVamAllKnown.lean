import Derived.Test.YtfbmlibilcjlgaaDoorVamTab1
import Derived.Test.YtfbmlibilcjlgaaDoorVamRun0
import Derived.Test.YtfbmlibilcjlgaaDoorVamRun1
import Derived.Test.YtfbmlibilcjlgaaDoorVamRunP
import Derived.Test.YtfbmlibilcjlgaaDoorVamRunL
namespace Go.Proofs.YtfbmlibilcjlgaaDoor.works
open Vam
theorem mixed : Tryd.prog.follows .mixedOrders = true := by kernel_rfl
theorem known0 : KnownOk Tryd.prog tab0 := (orK_ok (one_ok (sound mixed 1000000).2 ⟨rfl, fun _ _ _ => rfl⟩ q0run) noKnown_ok)
theorem known1 : KnownOk Tryd.prog tab1 := (orK_ok (one_ok (soundK (is := is0) mixed known0 1000000).2 ⟨rfl, fun _ _ _ => rfl⟩ q1run) (orK_ok (one_ok (soundK (is := is0) mixed known0 1000000).2 ⟨rfl, fun _ _ _ => rfl⟩ q2run) (orK_ok (one_ok (soundK (is := is0) mixed known0 1000000).2 ⟨rfl, fun _ _ _ => rfl⟩ q3run) (orK_ok (one_ok (soundK (is := is0) mixed known0 1000000).2 ⟨rfl, fun _ _ _ => rfl⟩ q4run) (orK_ok (one_ok (soundK (is := is0) mixed known0 1000000).2 ⟨rfl, fun _ _ _ => rfl⟩ q5run) (orK_ok (one_ok (soundK (is := is0) mixed known0 1000000).2 ⟨rfl, fun _ _ _ => rfl⟩ q6run) (orK_ok (one_ok (soundK (is := is0) mixed known0 1000000).2 ⟨rfl, fun _ _ _ => rfl⟩ q7run) (orK_ok (one_ok (soundK (is := is0) mixed known0 1000000).2 ⟨rfl, fun _ _ _ => rfl⟩ q8run) (orK_ok (one_ok (sound mixed 1000000).2 ⟨rfl, fun _ _ _ => rfl⟩ q0run) noKnown_ok)))))))))
end Go.Proofs.YtfbmlibilcjlgaaDoor.works
