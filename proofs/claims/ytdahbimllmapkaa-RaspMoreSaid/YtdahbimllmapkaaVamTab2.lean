/- The second table. -/
import Derived.Test.YtdahbimllmapkaaVamTab1
namespace Go.Proofs.Ytdahbimllmapkaa.filed
open Vam
end Go.Proofs.Ytdahbimllmapkaa.filed
