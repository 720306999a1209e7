/- The law answers true: a run of the plain machine, by the kernel, with the second table. -/
import Derived.Test.YtdahbimllmapkaaProg
import Derived.Test.YtdahbimllmapkaaVamTab2
import Derived.KernelRfl
namespace Go.Proofs.Ytdahbimllmapkaa.filed
open Vam
end Go.Proofs.Ytdahbimllmapkaa.filed
