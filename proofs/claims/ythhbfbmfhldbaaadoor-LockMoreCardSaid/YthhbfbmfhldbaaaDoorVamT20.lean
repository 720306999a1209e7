import Derived.Test.YthhbfbmfhldbaaaDoorVamT19
set_option linter.unusedVariables false
set_option linter.unusedSimpArgs false
set_option linter.constructorNameAsVariable false
namespace Go.Proofs.YthhbfbmfhldbaaaDoor.locks
open Vam
section
variable {is:FuncId→Bool}{orc:Known}{l:Ln}
theorem bd_cs(l:Ln)(n:Nat):BdS n (.box l.cs):=fun c hc=>by
 simp only[List.mem_cons,List.not_mem_nil,or_false]at hc
 rcases hc with rfl|rfl|rfl|rfl
 ·exact(yj 2 .ro (fun h=>by cases h) 1 l.slots).nb.bd _
 ·exact Bd.int _ _ _
 ·exact Bd.int _ _ _
 ·exact Bd.int _ _ _
theorem bd_bols(S:List Bool)(n:Nat):BdS n (.box (zL S)):=fun c hc=>by
 obtain⟨b,_,rfl⟩:=List.mem_map.1 hc
 exact(Dat.bool 0 b).nb.bd _
theorem spl_len(h:VL l){q:List Int}(hq:q∈splL l):q.length=l.slots.length:=(div_iff.1 ((spl_div h).1 hq)).1
end
section
variable {is:FuncId→Bool}{orc:Known}{l:Ln}
end
end Go.Proofs.YthhbfbmfhldbaaaDoor.locks
