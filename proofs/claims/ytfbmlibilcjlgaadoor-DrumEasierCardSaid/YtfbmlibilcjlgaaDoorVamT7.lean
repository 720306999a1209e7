import Derived.Test.YtfbmlibilcjlgaaDoorVamT6
set_option linter.unusedVariables false
set_option linter.unusedSimpArgs false
set_option linter.constructorNameAsVariable false
namespace Go.Proofs.YtfbmlibilcjlgaaDoor.drumEasier
open Vam
variable {is:FuncId→Bool}{orc:Known}
theorem drop_at{α:Type}{l:List α}{i:Nat}{x:α}(h:l[i]? =some x):l.drop i=x::l.drop (i+1):=by
 obtain⟨h1,h2⟩:=List.getElem?_eq_some_iff.1 h
 rw[List.drop_eq_getElem_cons h1,h2]
theorem rg_at{L:List Int}(hL:∀x∈L,0≤x∧x≤3)(q:Nat):0≤(L[q]?).getD 0∧(L[q]?).getD 0≤3:=by
 cases hq:L[q]? with
 |none=>exact⟨Int.le_refl _,by decide⟩
 |some q=>exact hL q (List.mem_of_getElem? hq)
end Go.Proofs.YtfbmlibilcjlgaaDoor.drumEasier
