import Derived.Test.YtlknfhjfkcboiaaDoorVamT10
set_option linter.unusedVariables false
set_option linter.unusedSimpArgs false
set_option linter.constructorNameAsVariable false
namespace Go.Proofs.YtlknfhjfkcboiaaDoor.night
open Vam
section
variable {is:FuncId→Bool}{orc:Known}
end
section
variable {b:Bk}
theorem fit_iff{d L:List Int}:fitB b d L=true↔ ∀p,p<3→clS b d L true (p+1)≤(b.ends[p]?).getD 0:=by
 unfold fitB dlI
 rw[Bool.and_eq_true,Bool.and_eq_true,decide_eq_true_eq,decide_eq_true_eq,decide_eq_true_eq]
 constructor
 ·rintro⟨h1,h2,h3⟩ p hp
  rcases(show p=0∨p=1∨p=2 by omega)with rfl|rfl|rfl<;>omega
 ·intro h
  have h0:=h 0 (by decide)
  have h1:=h 1 (by decide)
  have h2:=h 2 (by decide)
  omega
end
end Go.Proofs.YtlknfhjfkcboiaaDoor.night
