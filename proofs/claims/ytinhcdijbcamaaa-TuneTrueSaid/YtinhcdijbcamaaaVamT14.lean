import Derived.Test.YtinhcdijbcamaaaVamT13
set_option linter.unusedVariables false
set_option linter.unusedSimpArgs false
set_option linter.constructorNameAsVariable false
namespace Go.Proofs.Ytinhcdijbcamaaa.tuneTrue
open Vam
section
variable {is:FuncId→Bool}{orc:Known}
variable {t:Ts}{J:List Jn}{v x:Int}
theorem just_tun(h:TOk t)(hv:Key t v)(hx:InH t v x):errT (putS t v ⟨x,x⟩)=0↔ ∃p,TunT t (zc t) p∧p v=x:=by
 have hb:=zHs h.sok hv hx
 have hk:TOk (putS t v ⟨x,x⟩):=put_ok h (show 1≤x∧x≤x∧x≤4000∧x - x≤40 by omega)
 rw[zHG,zBh hk.sok]
 constructor
 ·rintro⟨p,hp⟩
  exact⟨p,(zAO (J:=zc t) hv hx p).1 hp⟩
 ·rintro⟨p,hp⟩
  exact⟨p,(zAO (J:=zc t) hv hx p).2 hp⟩
end
section
variable {is:FuncId→Bool}{orc:Known}
variable {t:Ts}{J:List Jn}{v x:Int}
theorem canB_just(hok:TOk t)(hv:ym t=true)(ht:tunB t (zc t)=true)(ha:Key t v)(hx:InH t v x):canB t v x=decide (errT (putS t v ⟨x,x⟩)=0):=by
 rw[canB_val hv ha,ht,decide_eq_true (show hloT t v≤x∧x≤hhiT t v from hx),Bool.true_and,Bool.true_and]
 have hn:tunB (yN t v x) (zc t)=tunB (putS t v ⟨x,x⟩) (zc (putS t v ⟨x,x⟩)):=rfl
 rw[hn]
 cases hrb:tunB (putS t v ⟨x,x⟩) (zc (putS t v ⟨x,x⟩))with
 |false=>rw[decide_eq_false (fun h=>by rw[(zHG _).1 h]at hrb;cases hrb)]
 |true=>rw[decide_eq_true ((zHG _).2 hrb)]
end
end Go.Proofs.Ytinhcdijbcamaaa.tuneTrue
