import Derived.Test.YthhbfbmfhldbaaaDoorProg
import Derived.Test.YthhbfbmfhldbaaaDoorVamTab1
import Derived.KernelRfl
namespace Go.Proofs.YthhbfbmfhldbaaaDoor.played
open Vam
theorem played_run : runIs (.bool true) (runOn Tryd.prog (runEvK Tryd.prog is1 tab1 1000000) 26 .nil []) = true := by kernel_rfl
end Go.Proofs.YthhbfbmfhldbaaaDoor.played
