import Derived.Test.YthhbfbmfhldbaaaDoorVamT9
set_option linter.unusedVariables false
set_option linter.unusedSimpArgs false
set_option linter.constructorNameAsVariable false
namespace Go.Proofs.YthhbfbmfhldbaaaDoor.locks
open Vam
section
variable {is:FuncId→Bool}{orc:Known}{l:Ln}
theorem ze34:yK Tryd.prog 34=some ((.cons .nilf .nil):V):=by kernel_rfl
theorem zBR{w:Int}{H:List Int}:yU l w H=true↔(w=0∨w=1)∧H.Pairwise (fun x y=>x<y)∧∀x∈H,0≤x∧x<l.slots.length:=by
 unfold yU
 rw[Bool.and_eq_true,zBh,grw_iff]
 constructor
 ·rintro⟨h1,h2,h3⟩;exact⟨by omega,h2,fun x hx=>by have:=h3 x hx;omega⟩
 ·rintro⟨h1,h2,h3⟩;exact⟨by omega,h2,fun x hx=>by have:=h3 x hx;omega⟩
end
section
variable {is:FuncId→Bool}{orc:Known}{l:Ln}
section ops
variable {P:Program}{s:St}{all l:List Oper}{d:Nat}{x y:Operand}{xt yt t:TypeId}{p:String}{e:Array Edge}{Q:St→Prop}{a c:Int}
end ops
def i16(f:Nat→Nat):List Int:=(List.range 16).map fun k=>(f k:Int)
theorem zDs(f:Nat→Nat):(i16 f).length=16:=by simp[i16]
theorem i16_at{f:Nat→Nat}{i:Nat}(h:i<16):(i16 f)[i]? =some (f i:Int):=by
 unfold i16;rw[List.getElem?_map,List.getElem?_range h];rfl
theorem i16_set{f:Nat→Nat}{i v:Nat}:(i16 f).set i (v:Int)=i16 fun k=>if k=i then v else f k:=by
 apply List.ext_getElem?
 intro k
 by_cases hk:k<16
 ·rw[i16_at hk]
  by_cases e:k=i
  ·subst e
   rw[List.getElem?_set_self (by rw[zDs];exact hk),if_pos rfl]
  ·rw[List.getElem?_set_ne (fun h=>e h.symm),i16_at hk,if_neg e]
 ·rw[List.getElem?_eq_none (by rw[List.length_set,zDs];omega),List.getElem?_eq_none (by rw[zDs];omega)]
theorem ints_st{S:List Int}{i:Nat}{v:Int}:(zD S).set (0+(i:Int).toNat*1) (.int .i64 v)=zD (S.set i v):=by
 rw[show 0+(i:Int).toNat*1=i by omega]
 exact(List.map_set (f:=fun n=>U.int .i64 n)).symm
theorem ints_at{S:List Int}{i:Nat}{v:Int}(h:S[i]? =some v):(zD S)[0+(i:Int).toNat*1]? =some (.int .i64 v):=by
 rw[show 0+(i:Int).toNat*1=i by omega]
 show(S.map _)[i]? =_;rw[List.getElem?_map,h];rfl
end
end Go.Proofs.YthhbfbmfhldbaaaDoor.locks
