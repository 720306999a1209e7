/- rasp's functions and the law's, by the logic of trees: what each gives back for all that it may be given. -/
import Derived.Test.YtdahbimllmapkaaVamRaspMore3
namespace Go.Proofs.Ytdahbimllmapkaa.raspMore
open Vam
set_option linter.unusedVariables false
set_option linter.unusedSimpArgs false
set_option linter.constructorNameAsVariable false
variable {is : FuncId → Bool} {orc : Known}
end Go.Proofs.Ytdahbimllmapkaa.raspMore
