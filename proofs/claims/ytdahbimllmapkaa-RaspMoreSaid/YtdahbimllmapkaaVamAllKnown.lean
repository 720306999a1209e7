/- The runs of the plain machine, put together. -/
import Derived.Test.YtdahbimllmapkaaVamTab1
import Derived.Test.YtdahbimllmapkaaVamRun0
import Derived.Test.YtdahbimllmapkaaVamRun1
import Derived.Test.YtdahbimllmapkaaVamRunP
import Derived.Test.YtdahbimllmapkaaVamRunL
namespace Go.Proofs.Ytdahbimllmapkaa.filed
open Vam
theorem mixed : Try.prog.follows .mixedOrders = true := by kernel_rfl
theorem known1 : KnownOk Try.prog tab1 := (orK_ok (one_ok (sound mixed 1000000).2 ⟨rfl, fun _ _ _ => rfl⟩ q0run) (orK_ok (one_ok (sound mixed 1000000).2 ⟨rfl, fun _ _ _ => rfl⟩ q1run) (orK_ok (one_ok (sound mixed 1000000).2 ⟨rfl, fun _ _ _ => rfl⟩ q2run) (orK_ok (one_ok (sound mixed 1000000).2 ⟨rfl, fun _ _ _ => rfl⟩ q3run) (orK_ok (one_ok (sound mixed 1000000).2 ⟨rfl, fun _ _ _ => rfl⟩ q4run) noKnown_ok)))))
end Go.Proofs.Ytdahbimllmapkaa.filed
