import Derived.Test.YtlknfhjfkcboiaaDoorVamT14
set_option linter.unusedVariables false
set_option linter.unusedSimpArgs false
set_option linter.constructorNameAsVariable false
namespace Go.Proofs.YtlknfhjfkcboiaaDoor.night
open Vam
variable {is:FuncId→Bool}{orc:Known}
def dnI(b:Bk)(bits:List Int)(i:Nat):Int:=if choP b bits i=true then -1 else truI b bits i
def dnL(b:Bk)(bits:List Int)(n:Nat):List Int:=(List.range n).map (dnI b bits)
theorem dnL_len(b:Bk)(bits:List Int)(n:Nat):(dnL b bits n).length=n:=by simp[dnL]
theorem dnL_at{b:Bk}{bits:List Int}{n i:Nat}(h:i<n):(dnL b bits n)[i]? =some (dnI b bits i):=by simp[dnL,h]
theorem dnI_b{b:Bk}(h:BOk b)(bits:List Int){i:Nat}{q:Sc}(hq:b.scenes[i]? =some q):dnB b i (dnI b bits i)=true∧(dnI b bits i= -1↔choP b bits i=true):=by
 have ht:=zGa h bits hq
 have hs:=h.sc i q hq
 unfold dnB dnI
 by_cases hc:choP b bits i=true
 ·rw[if_pos hc,choP_must i hc]
  exact⟨rfl,(fun _=>hc),(fun _=>rfl)⟩
 ·rw[if_neg hc,hq]
  refine⟨?_,(fun h2=>by omega),(fun h2=>absurd h2 hc)⟩
  show(_||inS q.lo q.hi (truI b bits i))=true
  rw[zAr.2 ht,Bool.or_true]
theorem tru_rg{b:Bk}(h:BOk b)(bits:List Int):∀x∈truL b bits b.scenes.length,0≤x∧x≤600:=by
 intro x hx
 obtain⟨i,hi,rfl⟩:=List.mem_map.1 hx
 have hi:=List.mem_range.1 hi
 have hq:b.scenes[i]? =some b.scenes[i]:=List.getElem?_eq_getElem hi
 have:=zGa h bits hq
 have:=h.sc i _ hq
 omega
theorem dn_goes{b:Bk}(h:BOk b)(bits:List Int){k:Nat}(hk:k≤b.scenes.length):Goes b (dnL b bits k) (truL b bits b.scenes.length):=by
 refine⟨zFH _ _ _,fun i x hx hne=>?_,fun i q x hq hx _=>?_⟩
 ·have hi:i<k:=by have:=(List.getElem?_eq_some_iff.1 hx).1;rw[dnL_len]at this;exact this
  rw[dnL_at hi]at hx
  cases hx
  rw[truL_at (by omega)]
  have h1:=(dnI_b h bits (i:=i) (List.getElem?_eq_getElem (by omega))).2
  unfold dnI at hne h1 ⊢
  by_cases hc:choP b bits i=true
  ·rw[if_pos hc]at hne;exact absurd rfl hne
  ·rw[if_neg hc]
 ·have hi:=(List.getElem?_eq_some_iff.1 hq).1
  rw[truL_at hi]at hx
  cases hx
  exact(zGa h bits hq).2
end Go.Proofs.YtlknfhjfkcboiaaDoor.night
