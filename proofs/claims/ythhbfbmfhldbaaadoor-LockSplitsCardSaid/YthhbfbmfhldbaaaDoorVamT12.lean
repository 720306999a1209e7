import Derived.Test.YthhbfbmfhldbaaaDoorVamT11
set_option linter.unusedVariables false
set_option linter.unusedSimpArgs false
set_option linter.constructorNameAsVariable false
namespace Go.Proofs.YthhbfbmfhldbaaaDoor.locks
open Vam
section
variable {is:FuncId→Bool}{orc:Known}{l:Ln}
theorem by22:Program.bytesOf Tryd.prog 22=24:=by kernel_rfl
theorem ze22:yM Tryd.prog 22=some ((.cons .nils .nil):V):=by kernel_rfl
theorem ap42_42:AppT Tryd.prog 42 42 22 1 24 ((.cons .nils .nil):V):=⟨ty42,⟨_,ty42⟩,cl22,by decide,by22,ze22,rfl⟩
def accL(F:List (List Int)):U:=match F with
 |[]=>.lst .full 0 []
 |F=>.lst .own 1 (zAE F)
theorem accL_snoc(q:List Int)(F:List (List Int)):accL (F++[q])=.lst .own 1 (zAE F++[.lst .ro 1 (zE q)]):=by
 cases F with
 |nil=>rfl
 |cons y F=>show U.lst .own 1 (zAE ((y::F)++[q]))=_;simp[zAE]
theorem ints_dg(L:List Int):(zE L).map dg=zE L:=by
 induction L with
 |nil=>rfl
 |cons a L ih=>show dg (.int .i64 a)::(zE L).map dg=_;rw[ih];rfl
end
section
variable {is:FuncId→Bool}{orc:Known}{l:Ln}
end
end Go.Proofs.YthhbfbmfhldbaaaDoor.locks
