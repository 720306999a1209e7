import Derived.Test.YtinhcdijbcamaaaVamTab1
import Derived.Test.YtinhcdijbcamaaaVamRun0
import Derived.Test.YtinhcdijbcamaaaVamRun1
import Derived.Test.YtinhcdijbcamaaaVamRunP
import Derived.Test.YtinhcdijbcamaaaVamRunL
namespace Go.Proofs.Ytinhcdijbcamaaa.played
open Vam
theorem mixed : Try.prog.follows .mixedOrders = true := by kernel_rfl
theorem known0 : KnownOk Try.prog tab0 := (orK_ok (one_ok (sound mixed 1000000).2 ⟨rfl, fun _ _ _ => rfl⟩ q0run) (orK_ok (one_ok (sound mixed 1000000).2 ⟨rfl, fun _ _ _ => rfl⟩ q1run) (orK_ok (one_ok (sound mixed 1000000).2 ⟨rfl, fun _ _ _ => rfl⟩ q2run) noKnown_ok)))
theorem known1 : KnownOk Try.prog tab1 := (orK_ok (one_ok (soundK (is := is0) mixed known0 1000000).2 ⟨rfl, fun _ _ _ => rfl⟩ q3run) (orK_ok (one_ok (soundK (is := is0) mixed known0 1000000).2 ⟨rfl, fun _ _ _ => rfl⟩ q4run) (orK_ok (one_ok (soundK (is := is0) mixed known0 1000000).2 ⟨rfl, fun _ _ _ => rfl⟩ q5run) (orK_ok (one_ok (soundK (is := is0) mixed known0 1000000).2 ⟨rfl, fun _ _ _ => rfl⟩ q6run) (orK_ok (one_ok (soundK (is := is0) mixed known0 1000000).2 ⟨rfl, fun _ _ _ => rfl⟩ q7run) (orK_ok (one_ok (soundK (is := is0) mixed known0 1000000).2 ⟨rfl, fun _ _ _ => rfl⟩ q8run) (orK_ok (one_ok (soundK (is := is0) mixed known0 1000000).2 ⟨rfl, fun _ _ _ => rfl⟩ q9run) (orK_ok (one_ok (sound mixed 1000000).2 ⟨rfl, fun _ _ _ => rfl⟩ q0run) (orK_ok (one_ok (sound mixed 1000000).2 ⟨rfl, fun _ _ _ => rfl⟩ q1run) (orK_ok (one_ok (sound mixed 1000000).2 ⟨rfl, fun _ _ _ => rfl⟩ q2run) noKnown_ok))))))))))
end Go.Proofs.Ytinhcdijbcamaaa.played
