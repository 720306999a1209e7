import Derived.Test.YtlknfhjfkcboiaaDoorVamT15
set_option linter.unusedVariables false
set_option linter.unusedSimpArgs false
set_option linter.constructorNameAsVariable false
namespace Go.Proofs.YtlknfhjfkcboiaaDoor.night
open Vam
section
variable {is:FuncId→Bool}{orc:Known}
end
section
variable {is:FuncId→Bool}{orc:Known}
theorem ret8_all(hi:Off is)(r24:RetP Tryd.prog is orc 24 [] (.bool true)):∀us,ShpAs Tryd.prog [25,3,22] us→RetP Tryd.prog is orc 8 us (.bool true):=by
 intro us h
 cases h with
 |cons _ _ u us h1 h=>cases h with
 |cons _ _ v us h2 h=>cases h with
 |cons _ _ w us h3 h=>
 cases h
 obtain⟨fs,hu⟩:=und25
 unfold ShpA at h1 h2 h3
 rw[hu]at h1
 rw[u3]at h2
 rw[u22]at h3
 obtain⟨b,rfl⟩:=arg_bk h1
 obtain⟨n,rfl⟩:=arg_int h2
 obtain⟨l,rfl⟩:=arg_ints h3
 exact ret8 hi b n l r24
end
section
variable {is:FuncId→Bool}{orc:Known}
end
section
variable {is:FuncId→Bool}{orc:Known}
end
end Go.Proofs.YtlknfhjfkcboiaaDoor.night
