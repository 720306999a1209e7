/- The runs of the plain machine, put together. -/
import Derived.Test.YtdahbimllmapkaaVamTab1
import Derived.Test.YtdahbimllmapkaaVamRun0
import Derived.Test.YtdahbimllmapkaaVamRun1
import Derived.Test.YtdahbimllmapkaaVamRunP
import Derived.Test.YtdahbimllmapkaaVamRunL
namespace Go.Proofs.Ytdahbimllmapkaa.filed
open Vam
theorem mixed : Try.prog.follows .mixedOrders = true := by kernel_rfl
theorem known0 : KnownOk Try.prog tab0 := noKnown_ok
theorem known1 : KnownOk Try.prog tab1 := (orK_ok (one_ok (sound mixed 1000000).2 ⟨rfl, fun _ _ _ => rfl⟩ q0run) (orK_ok (one_ok (sound mixed 1000000).2 ⟨rfl, fun _ _ _ => rfl⟩ q1run) (orK_ok (one_ok (sound mixed 1000000).2 ⟨rfl, fun _ _ _ => rfl⟩ q2run) (orK_ok (one_ok (sound mixed 1000000).2 ⟨rfl, fun _ _ _ => rfl⟩ q3run) (orK_ok (one_ok (sound mixed 1000000).2 ⟨rfl, fun _ _ _ => rfl⟩ q4run) noKnown_ok)))))
theorem known2 : KnownOk Try.prog tab2 := orK_ok (one_ok (soundK (is := is1) mixed known1 1000000).2 (mixedStays true) played_run) known1
theorem all_known : ∃ E H', SoundCall Try.prog E ∧ E.call 20 .nil H0 = .ok (.bool true) H' := known_of_table (P := Try.prog) mixed (is := is2) (orc := tab2) known2 (f := 20) (n := 1000000) law_run
end Go.Proofs.Ytdahbimllmapkaa.filed
