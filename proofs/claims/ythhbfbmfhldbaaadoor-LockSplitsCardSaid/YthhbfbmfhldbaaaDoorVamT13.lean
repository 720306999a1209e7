import Derived.Test.YthhbfbmfhldbaaaDoorVamT12
set_option linter.unusedVariables false
set_option linter.unusedSimpArgs false
set_option linter.constructorNameAsVariable false
namespace Go.Proofs.YthhbfbmfhldbaaaDoor.locks
open Vam
section
variable {is:FuncId→Bool}{orc:Known}{l:Ln}
theorem Bd.mono{n m:Nat}{u:U}(h:Bd n u)(hm:n≤m):Bd m u:=fun φ S v hv=>(h φ S v hv).mono (fun a b e=>BMap.cut_of (by have:=(BMap.cut_some e).1;omega) (BMap.cut_some e).2) S.le_refl
theorem BdS.mono{n m:Nat}{x:SB}(h:BdS n x)(hm:n≤m):BdS m x:=by
 cases x with
 |box cs=>exact fun c hc=>Bd.mono (h c hc) hm
 |froz cs=>exact fun c hc=>Bd.mono (h c hc) hm
 |map es=>exact fun p hp=>⟨Bd.mono (h p hp).1 hm,Bd.mono (h p hp).2 hm⟩
 |loop q l=>exact fun i=>Bd.mono (h i) hm
 |dead=>trivial
theorem zAz{P Q:List SB}{n:Nat}(h:P.length=n):(P++Q).take n=P:=by rw[←h,List.take_left]
end
section
variable {is:FuncId→Bool}{orc:Known}{l:Ln}
end
section
variable {is:FuncId→Bool}{orc:Known}{l:Ln}
theorem lookU_all{p:U→Prop}{l:List (Nat×U)}{d:U}(h:∀x∈l,p x.2)(hd:p d)(i:Nat):p (zCU l i d):=by
 induction l with
 |nil=>exact hd
 |cons x l ih=>
  obtain⟨j,u⟩:=x
  show p (Vam.cond (Nat.beq i j) u (zCU l i d))
  cases Nat.beq i j with
  |true=>exact h _ List.mem_cons_self
  |false=>exact ih fun y hy=>h y (List.mem_cons_of_mem _ hy)
end
end Go.Proofs.YthhbfbmfhldbaaaDoor.locks
