import Derived.Test.YtpckmojdekdbbaaGreatVamT15
set_option linter.unusedVariables false
set_option linter.unusedSimpArgs false
set_option linter.constructorNameAsVariable false
namespace Go.Proofs.YtpckmojdekdbbaaGreat.settles
open Vam
variable {is:FuncId→Bool}{orc:Known}
theorem ret8_all(hi:Off is)(r21:RetP Tryz.prog is orc 21 [] (.bool true)):∀us,ShpAs Tryz.prog [27,29] us→RetP Tryz.prog is orc 8 us (.bool true):=by
 intro us h
 cases h with
 |cons _ _ u us h1 h=>
 cases h with
 |cons _ _ w us h2 h=>
 cases h
 obtain⟨f1,e1⟩:=und27
 unfold ShpA at h1 h2
 rw[e1]at h1
 rw[u29]at h2
 obtain⟨z,rfl⟩:=arg_z h1
 obtain⟨a,b,rfl⟩:=arg_two h2
 exact ret8 hi z a b r21
end Go.Proofs.YtpckmojdekdbbaaGreat.settles
