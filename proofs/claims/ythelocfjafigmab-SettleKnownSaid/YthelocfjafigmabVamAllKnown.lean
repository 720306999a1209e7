/- The runs of the plain machine, put together. -/
import Derived.Test.YthelocfjafigmabVamTab1
import Derived.Test.YthelocfjafigmabVamRun0
import Derived.Test.YthelocfjafigmabVamRun1
import Derived.Test.YthelocfjafigmabVamRun2
import Derived.Test.YthelocfjafigmabVamRun3
import Derived.Test.YthelocfjafigmabVamRunP
import Derived.Test.YthelocfjafigmabVamRunL
namespace Go.Proofs.Ythelocfjafigmab.settleKnown
open Vam
theorem mixed : Try.prog.follows .mixedOrders = true := by kernel_rfl
theorem known0 : KnownOk Try.prog tab0 := noKnown_ok
theorem known1 : KnownOk Try.prog tab1 := (orK_ok (one_ok (sound mixed 1000000).2 ⟨rfl, fun _ _ _ => rfl⟩ q0run) (orK_ok (one_ok (sound mixed 1000000).2 ⟨rfl, fun _ _ _ => rfl⟩ q1run) (orK_ok (one_ok (sound mixed 1000000).2 ⟨rfl, fun _ _ _ => rfl⟩ q2run) (orK_ok (one_ok (sound mixed 1000000).2 ⟨rfl, fun _ _ _ => rfl⟩ q3run) (orK_ok (one_ok (sound mixed 1000000).2 ⟨rfl, fun _ _ _ => rfl⟩ q4run) (orK_ok (one_ok (sound mixed 1000000).2 ⟨rfl, fun _ _ _ => rfl⟩ q5run) (orK_ok (one_ok (sound mixed 1000000).2 ⟨rfl, fun _ _ _ => rfl⟩ q6run) (orK_ok (one_ok (sound mixed 1000000).2 ⟨rfl, fun _ _ _ => rfl⟩ q7run) (orK_ok (one_ok (sound mixed 1000000).2 ⟨rfl, fun _ _ _ => rfl⟩ q8run) (orK_ok (one_ok (sound mixed 1000000).2 ⟨rfl, fun _ _ _ => rfl⟩ q9run) (orK_ok (one_ok (sound mixed 1000000).2 ⟨rfl, fun _ _ _ => rfl⟩ q10run) (orK_ok (one_ok (sound mixed 1000000).2 ⟨rfl, fun _ _ _ => rfl⟩ q11run) (orK_ok (one_ok (sound mixed 1000000).2 ⟨rfl, fun _ _ _ => rfl⟩ q12run) (orK_ok (one_ok (sound mixed 1000000).2 ⟨rfl, fun _ _ _ => rfl⟩ q13run) (orK_ok (one_ok (sound mixed 1000000).2 ⟨rfl, fun _ _ _ => rfl⟩ q14run) (orK_ok (one_ok (sound mixed 1000000).2 ⟨rfl, fun _ _ _ => rfl⟩ q15run) (orK_ok (one_ok (sound mixed 1000000).2 ⟨rfl, fun _ _ _ => rfl⟩ q16run) (orK_ok (one_ok (sound mixed 1000000).2 ⟨rfl, fun _ _ _ => rfl⟩ q17run) (orK_ok (one_ok (sound mixed 1000000).2 ⟨rfl, fun _ _ _ => rfl⟩ q18run) (orK_ok (one_ok (sound mixed 1000000).2 ⟨rfl, fun _ _ _ => rfl⟩ q19run) (orK_ok (one_ok (sound mixed 1000000).2 ⟨rfl, fun _ _ _ => rfl⟩ q20run) (orK_ok (one_ok (sound mixed 1000000).2 ⟨rfl, fun _ _ _ => rfl⟩ q21run) (orK_ok (one_ok (sound mixed 1000000).2 ⟨rfl, fun _ _ _ => rfl⟩ q22run) (orK_ok (one_ok (sound mixed 1000000).2 ⟨rfl, fun _ _ _ => rfl⟩ q23run) noKnown_ok))))))))))))))))))))))))
theorem known2 : KnownOk Try.prog tab2 := orK_ok (one_ok (soundK (is := is1) mixed known1 1000000).2 (mixedStays true) played_run) known1
theorem all_known : ∃ E H', SoundCall Try.prog E ∧ E.call 3 .nil H0 = .ok (.bool true) H' := known_of_table (P := Try.prog) mixed (is := is2) (orc := tab2) known2 (f := 3) (n := 1000000) law_run
end Go.Proofs.Ythelocfjafigmab.settleKnown
