/- The runs of the plain machine, put together. -/
import Derived.Test.YtfbmlibilcjlgaaDoorVamTab1
import Derived.Test.YtfbmlibilcjlgaaDoorVamRun0
import Derived.Test.YtfbmlibilcjlgaaDoorVamRun1
import Derived.Test.YtfbmlibilcjlgaaDoorVamRunP
import Derived.Test.YtfbmlibilcjlgaaDoorVamRunL
namespace Go.Proofs.YtfbmlibilcjlgaaDoor.works
open Vam
theorem mixed : Tryd.prog.follows .mixedOrders = true := by kernel_rfl
theorem known0 : KnownOk Tryd.prog tab0 := (orK_ok (one_ok (sound mixed 1000000).2 ⟨rfl, fun _ _ _ => rfl⟩ q0run) noKnown_ok)
theorem known1 : KnownOk Tryd.prog tab1 := (orK_ok (one_ok (soundK (is := is0) mixed known0 1000000).2 ⟨rfl, fun _ _ _ => rfl⟩ q1run) (orK_ok (one_ok (soundK (is := is0) mixed known0 1000000).2 ⟨rfl, fun _ _ _ => rfl⟩ q2run) (orK_ok (one_ok (soundK (is := is0) mixed known0 1000000).2 ⟨rfl, fun _ _ _ => rfl⟩ q3run) (orK_ok (one_ok (soundK (is := is0) mixed known0 1000000).2 ⟨rfl, fun _ _ _ => rfl⟩ q4run) (orK_ok (one_ok (soundK (is := is0) mixed known0 1000000).2 ⟨rfl, fun _ _ _ => rfl⟩ q5run) (orK_ok (one_ok (soundK (is := is0) mixed known0 1000000).2 ⟨rfl, fun _ _ _ => rfl⟩ q6run) (orK_ok (one_ok (soundK (is := is0) mixed known0 1000000).2 ⟨rfl, fun _ _ _ => rfl⟩ q7run) (orK_ok (one_ok (soundK (is := is0) mixed known0 1000000).2 ⟨rfl, fun _ _ _ => rfl⟩ q8run) (orK_ok (one_ok (sound mixed 1000000).2 ⟨rfl, fun _ _ _ => rfl⟩ q0run) noKnown_ok)))))))))
theorem known2 : KnownOk Tryd.prog tab2 := orK_ok (one_ok (soundK (is := is1) mixed known1 1000000).2 (mixedStays true) played_run) known1
theorem all_known : ∃ E H', SoundCall Tryd.prog E ∧ E.call 24 .nil H0 = .ok (.bool true) H' := known_of_table (P := Tryd.prog) mixed (is := is2) (orc := tab2) known2 (f := 24) (n := 1000000) law_run
end Go.Proofs.YtfbmlibilcjlgaaDoor.works
