import Derived.Test.YtlknfhjfkcboiaaDoorVamT15
set_option linter.unusedVariables false
set_option linter.unusedSimpArgs false
set_option linter.constructorNameAsVariable false
namespace Go.Proofs.YtlknfhjfkcboiaaDoor.night
open Vam
section
variable {is:FuncId→Bool}{orc:Known}
end
section
variable {is:FuncId→Bool}{orc:Known}
end
section
variable {is:FuncId→Bool}{orc:Known}
end
section
variable {is:FuncId→Bool}{orc:Known}
theorem u44:Tryd.prog.underlying 44=some (.array 3 3):=by kernel_rfl
theorem arg_three{u:U}(h:∃cs,u=.agg cs∧Shp Tryd.prog 44 cs):∃a b c:Int,u=.agg [.int .i64 a,.int .i64 b,.int .i64 c]:=by
 obtain⟨cs,rfl,h⟩:=h
 have h:∃l:List Int,l.length=3∧cs=(l.map fun n:Int=>[U.int .i64 n]).flatten:=by
  cases h with
  |array _ n e css hu' hl hn=>
   rw[u44]at hu';cases hu'
   obtain⟨l,rfl⟩:=shpL_map (f:=fun n:Int=>[U.int .i64 n]) hl fun cs hcs=>zAq hcs
   rw[List.length_map]at hn
   exact⟨l,hn,rfl⟩
  |int _ k n hu' _=>rw[u44]at hu';cases hu'
  |bool _ _ hu'=>rw[u44]at hu';cases hu'
  |str _ _ hu'=>rw[u44]at hu';cases hu'
  |slice _ _ _ hu'=>rw[u44]at hu';cases hu'
  |struct _ _ _ hu'=>rw[u44]at hu';cases hu'
 obtain⟨l,hl,rfl⟩:=h
 match l,hl with
 |[a,b,c],_=>exact⟨a,b,c,rfl⟩
theorem ret9_all(hi:Off is)(r24:RetP Tryd.prog is orc 24 [] (.bool true)):∀us,ShpAs Tryd.prog [25,44] us→RetP Tryd.prog is orc 9 us (.bool true):=by
 intro us h
 cases h with
 |cons _ _ u us h1 h=>cases h with
 |cons _ _ v us h2 h=>
 cases h
 obtain⟨fs,hu⟩:=und25
 unfold ShpA at h1 h2
 rw[hu]at h1
 rw[u44]at h2
 obtain⟨b,rfl⟩:=arg_bk h1
 obtain⟨n0,n1,n2,rfl⟩:=arg_three h2
 exact ret9 hi b n0 n1 n2 r24
end
end Go.Proofs.YtlknfhjfkcboiaaDoor.night
