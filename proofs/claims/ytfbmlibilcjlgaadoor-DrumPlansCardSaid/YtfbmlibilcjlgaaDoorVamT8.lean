import Derived.Test.YtfbmlibilcjlgaaDoorVamT7
set_option linter.unusedVariables false
set_option linter.unusedSimpArgs false
set_option linter.constructorNameAsVariable false
namespace Go.Proofs.YtfbmlibilcjlgaaDoor.drumPlans
open Vam
variable {is:FuncId→Bool}{orc:Known}
theorem ty4:tyOf Tryd.prog 4=.bool:=by kernel_rfl
theorem mem_lat{f:Nat→Int}{n i:Nat}:(i:Int)∈latS f n↔i<n∧0<f i:=by
 induction n with
 |zero=>simp[latS]
 |succ n ih=>
  have e:latS f (n+1)=latS f n++if 0<f n then [(n:Int)]else []:=rfl
  rw[e,List.mem_append,ih]
  constructor
  ·rintro(h|h)
   ·exact⟨by omega,h.2⟩
   ·split at h
    ·have:=List.mem_singleton.1 h
     have:i=n:=by omega
     subst this
     exact⟨by omega,by assumption⟩
    ·cases h
  ·rintro⟨h1,h2⟩
   by_cases hn:i=n
   ·subst hn;right;rw[if_pos h2];exact List.mem_singleton.2 rfl
   ·exact .inl ⟨by omega,h2⟩
theorem lat_lt{f:Nat→Int}{n:Nat}:∀x∈latS f n,0≤x∧x<n:=by
 induction n with
 |zero=>intro x hx;cases hx
 |succ n ih=>
  intro x hx
  have e:latS f (n+1)=latS f n++if 0<f n then [(n:Int)]else []:=rfl
  rw[e]at hx
  rcases List.mem_append.1 hx with h|h
  ·have:=ih x h;omega
  ·split at h
   ·have:=List.mem_singleton.1 h;omega
   ·cases h
end Go.Proofs.YtfbmlibilcjlgaaDoor.drumPlans
