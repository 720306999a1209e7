import Derived.Test.YtfbmlibilcjlgaaDoorVamT8
set_option linter.unusedVariables false
set_option linter.unusedSimpArgs false
set_option linter.constructorNameAsVariable false
namespace Go.Proofs.YtfbmlibilcjlgaaDoor.drumEasier
open Vam
variable {is:FuncId→Bool}{orc:Known}
theorem by24:Program.bytesOf Tryd.prog 24=16:=by kernel_rfl
theorem by68:Program.bytesOf Tryd.prog 68=40:=by kernel_rfl
theorem pl68:zFm Tryd.prog 68=some [(0,2),(2,1)]:=by kernel_rfl
theorem ze27:yV Tryd.prog 27=some ((.cons (.int .i64 0) (.cons (.int .i64 0) (.cons .nils (.cons (.int .i64 0) (.cons (.int .i64 0) (.cons (.int .i64 0) (.cons (.int .i64 0) (.cons (.int .i64 0) (.cons (.int .i64 0) (.cons (.int .i64 0) (.cons .nils .nil))))))))))):V):=by kernel_rfl
theorem ap25_25:AppT Tryd.prog 25 25 68 3 40 ((.cons (.int .i64 0) (.cons (.int .i64 0) (.cons .nils .nil))):V):=⟨ty25,⟨_,ty25⟩,cl68,by decide,by68,ze68,rfl⟩
theorem ap66_66:AppT Tryd.prog 66 66 24 2 16 ((.cons (.int .i64 0) (.cons (.int .i64 0) .nil)):V):=⟨ty66,⟨_,ty66⟩,cl24,by decide,by24,ze24,rfl⟩
end Go.Proofs.YtfbmlibilcjlgaaDoor.drumEasier
