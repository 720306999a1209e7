/- The runs of the plain machine, put together. -/
import Derived.Test.YtnkmhgojbinhkacVamTab1
import Derived.Test.YtnkmhgojbinhkacVamRundf0
import Derived.Test.YtnkmhgojbinhkacVamRundf1
import Derived.Test.YtnkmhgojbinhkacVamRundf2
import Derived.Test.YtnkmhgojbinhkacVamRunqf0
import Derived.Test.YtnkmhgojbinhkacVamRunqf1
import Derived.Test.YtnkmhgojbinhkacVamRunqf2
import Derived.Test.YtnkmhgojbinhkacVamRunqw0
import Derived.Test.YtnkmhgojbinhkacVamRunqw1
import Derived.Test.YtnkmhgojbinhkacVamRunqw2
import Derived.Test.YtnkmhgojbinhkacVamRunmf
import Derived.Test.YtnkmhgojbinhkacVamRunmw
import Derived.Test.YtnkmhgojbinhkacVamRunbf
import Derived.Test.YtnkmhgojbinhkacVamRunsf
import Derived.Test.YtnkmhgojbinhkacVamRunsw
import Derived.Test.YtnkmhgojbinhkacVamRunW
import Derived.Test.YtnkmhgojbinhkacVamRunK
namespace Go.Proofs.Ytnkmhgojbinhkac.forgeKnown
open Vam
theorem mixed : Try.prog.follows .mixedOrders = true := by kernel_rfl
theorem known1 : KnownOk Try.prog tab1 := (orK_ok (many_ok (sound mixed 1000000).2 (mixedStays false) df0) (orK_ok (many_ok (sound mixed 1000000).2 (mixedStays false) df1) (orK_ok (many_ok (sound mixed 1000000).2 (mixedStays false) df2) (orK_ok (many_ok (sound mixed 1000000).2 (mixedStays false) qf0) (orK_ok (many_ok (sound mixed 1000000).2 (mixedStays false) qf1) (orK_ok (many_ok (sound mixed 1000000).2 (mixedStays false) qf2) (orK_ok (many_ok (sound mixed 1000000).2 (mixedStays false) qw0) (orK_ok (many_ok (sound mixed 1000000).2 (mixedStays false) qw1) (orK_ok (many_ok (sound mixed 1000000).2 (mixedStays false) qw2) noKnown_ok)))))))))
theorem known2 : KnownOk Try.prog tab2 := (orK_ok (one_ok (soundK mixed known1 1000000).2 ⟨rfl, fun _ _ _ => rfl⟩ sfrun) (orK_ok (one_ok (soundK mixed known1 1000000).2 ⟨rfl, fun _ _ _ => rfl⟩ swrun) (orK_ok (one_ok (soundK mixed known1 1000000).2 ⟨rfl, fun _ _ _ => rfl⟩ bfrun) (orK_ok (one_ok (sound mixed 1000000).2 ⟨rfl, fun _ _ _ => rfl⟩ mfrun) (orK_ok (one_ok (sound mixed 1000000).2 ⟨rfl, fun _ _ _ => rfl⟩ mwrun) noKnown_ok)))))
theorem known3 : KnownOk Try.prog tab3 := orK_ok (one_ok (soundK (is := is2) mixed known2 1000000).2 (mixedStays true) works_run) known2
theorem all_known : ∃ E H', SoundCall Try.prog E ∧ E.call 5 .nil H0 = .ok (.bool true) H' := known_of_table (P := Try.prog) mixed (is := is3) (orc := tab3) known3 (f := 5) (n := 1000000) known_run
end Go.Proofs.Ytnkmhgojbinhkac.forgeKnown
