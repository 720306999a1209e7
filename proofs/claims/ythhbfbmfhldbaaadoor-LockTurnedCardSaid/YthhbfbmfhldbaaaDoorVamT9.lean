import Derived.Test.YthhbfbmfhldbaaaDoorVamT8
set_option linter.unusedVariables false
set_option linter.unusedSimpArgs false
set_option linter.constructorNameAsVariable false
namespace Go.Proofs.YthhbfbmfhldbaaaDoor.locks
open Vam
variable {is:FuncId→Bool}{orc:Known}{l:Ln}
theorem cl117:Program.cellsOf Tryd.prog 117=1:=by kernel_rfl
theorem sh117:shOf Tryd.prog 117=.one:=by kernel_rfl
theorem ty118:tyOf Tryd.prog 118=.array 2 117:=by kernel_rfl
theorem cntF_per{f:Int→Bool}{r:Nat}{st m:Int}(hf:∀x,f (x+m)=f x):∀(k:Nat) (a:Int) (c:Nat),cntF f r st k (a+m) c=cntF f r st k a c:=by
 intro k
 induction k with
 |zero=>intro a c;rfl
 |succ k ih=>
  intro a c
  unfold cntF
  rw[hf a,show a+m+st=a+st+m by omega,ih]
theorem rest_per{f:Int→Bool}{r:Nat}{m:Int}(hf:∀x,f (x+m)=f x)(i:Int):zFR f r (i+m)=zFR f r i:=by
 unfold zFR
 rw[show i+m+1=i+1+m by omega,show i+m - 1=i - 1+m by omega,cntF_per hf,cntF_per hf]
end Go.Proofs.YthhbfbmfhldbaaaDoor.locks
