import Derived.Test.YthhbfbmfhldbaaaDoorVamT5
set_option linter.unusedVariables false
set_option linter.unusedSimpArgs false
set_option linter.constructorNameAsVariable false
namespace Go.Proofs.YthhbfbmfhldbaaaDoor.locks
open Vam
section
variable {is:FuncId→Bool}{orc:Known}{l:Ln}
theorem cl83:Program.cellsOf Tryd.prog 83=16:=by kernel_rfl
theorem sh85:shOf Tryd.prog 85=.many 32:=by kernel_rfl
theorem ty85:tyOf Tryd.prog 85=.array 2 83:=by kernel_rfl
abbrev spU(f g:Nat→Bool):U:=.agg (zL (b16 f++b16 g))
end
section
variable {is:FuncId→Bool}{orc:Known}{l:Ln}
theorem ze85:yK Tryd.prog 85=some ((.cons (.bool false) (.cons (.bool false) (.cons (.bool false) (.cons (.bool false) (.cons (.bool false) (.cons (.bool false) (.cons (.bool false) (.cons (.bool false) (.cons (.bool false) (.cons (.bool false) (.cons (.bool false) (.cons (.bool false) (.cons (.bool false) (.cons (.bool false) (.cons (.bool false) (.cons (.bool false) (.cons (.bool false) (.cons (.bool false) (.cons (.bool false) (.cons (.bool false) (.cons (.bool false) (.cons (.bool false) (.cons (.bool false) (.cons (.bool false) (.cons (.bool false) (.cons (.bool false) (.cons (.bool false) (.cons (.bool false) (.cons (.bool false) (.cons (.bool false) (.cons (.bool false) (.cons (.bool false) .nil)))))))))))))))))))))))))))))))):V):=by kernel_rfl
def plF(p:List Int)(w:Int)(k:Nat):Bool:=decide (at' p k=w)
def upF(f:Nat→Bool)(i:Nat)(v:Bool)(k:Nat):Bool:=if k=i then v else f k
theorem set0{f g:Nat→Bool}{i:Nat}{v:Bool}(h:i<16):(b16 f++b16 g).set i v=b16 (upF f i v)++b16 g:=by
 rw[List.set_append_left _ _ (by rw[yG];exact h),zDG];rfl
theorem set1{f g:Nat→Bool}{i:Nat}{v:Bool}:(b16 f++b16 g).set (16+i) v=b16 f++b16 (upF g i v):=by
 rw[List.set_append_right _ _ (by rw[yG];omega),yG,show 16+i - 16=i by omega,zDG];rfl
end
section
variable {is:FuncId→Bool}{orc:Known}{l:Ln}
theorem sh73:shOf Tryd.prog 73=.many 4:=by kernel_rfl
theorem flat_bols(S:List Bool):FlatU (.agg (zL S)):=.agg _ fun c hc=>by
 obtain⟨x,_,rfl⟩:=List.mem_map.1 hc
 exact .bool _
end
end Go.Proofs.YthhbfbmfhldbaaaDoor.locks
