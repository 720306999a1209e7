import Derived.Test.YtpckmojdekdbbaaGreatVamT12
set_option linter.unusedVariables false
set_option linter.unusedSimpArgs false
set_option linter.constructorNameAsVariable false
namespace Go.Proofs.YtpckmojdekdbbaaGreat.settles
open Vam
variable {is:FuncId→Bool}{orc:Known}
theorem ret10_all(hi:Off is)(r21:RetP Tryz.prog is orc 21 [] (.bool true)):∀us,ShpAs Tryz.prog [27,70] us→RetP Tryz.prog is orc 10 us (.bool true):=by
 intro us h
 cases h with
 |cons _ _ u us h1 h=>
 cases h with
 |cons _ _ w us h2 h=>
 cases h
 obtain⟨f1,e1⟩:=und27
 unfold ShpA at h1 h2
 rw[e1]at h1
 rw[u70]at h2
 obtain⟨z,rfl⟩:=arg_z h1
 obtain⟨a,b,c,d,rfl⟩:=arg_four h2
 exact ret10 hi z a b c d r21
end Go.Proofs.YtpckmojdekdbbaaGreat.settles
