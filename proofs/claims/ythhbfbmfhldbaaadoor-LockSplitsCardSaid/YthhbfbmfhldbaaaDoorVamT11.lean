import Derived.Test.YthhbfbmfhldbaaaDoorVamT10
set_option linter.unusedVariables false
set_option linter.unusedSimpArgs false
set_option linter.constructorNameAsVariable false
namespace Go.Proofs.YthhbfbmfhldbaaaDoor.locks
open Vam
variable {is:FuncId→Bool}{orc:Known}{l:Ln}
theorem cl22:Program.cellsOf Tryd.prog 22=1:=by kernel_rfl
theorem ty42:tyOf Tryd.prog 42=.slice 22:=by kernel_rfl
abbrev zAE(R:List (List Int)):List U:=R.map fun r=>.lst .ro 1 (zE r)
theorem dat_rows(R:List (List Int))(k:Nat):Dat (k+3) (.lst .ro 1 (zAE R)):=by
 refine .lst _ .ro _ _ (fun h=>by cases h) fun c hc=>?_
 obtain⟨e,he,hc⟩:=List.mem_flatMap.1 hc
 obtain⟨r,_,rfl⟩:=List.mem_map.1 he
 rcases List.mem_singleton.1 hc with rfl
 exact yG k .ro (fun h=>by cases h) 1 r
end Go.Proofs.YthhbfbmfhldbaaaDoor.locks
