import Derived.Test.YthhbfbmfhldbaaaDoorVamT9
set_option linter.unusedVariables false
set_option linter.unusedSimpArgs false
set_option linter.constructorNameAsVariable false
namespace Go.Proofs.YthhbfbmfhldbaaaDoor.locks
open Vam
section
variable {is:FuncId→Bool}{orc:Known}{l:Ln}
theorem memP_more{P:Nat→Bool}{n:Nat}:∀m:Nat,n≤m→(∀k,n≤k→k<m→P k=false)→memP P m=memP P n:=by
 intro m
 induction m with
 |zero=>intro h _;rw[show n=0 by omega]
 |succ m ih=>
  intro h hf
  by_cases e:n=m+1
  ·rw[e]
  ·rw[zDb,hf m (by omega) (by omega),if_neg (by decide),List.append_nil]
   exact ih (by omega) fun k h1 h2=>hf k h1 (by omega)
theorem prt16{p:List Int}(hp:p.length≤16){w:Int}(hw:w≠ -1):memP (plF p w) 16=prtL p w:=by
 unfold prtL
 refine memP_more (P:=plF p w) 16 hp fun k h1 _=>?_
 unfold plF at'
 rw[List.getElem?_eq_none h1]
 exact kG fun h=>hw h.symm
end
section
variable {is:FuncId→Bool}{orc:Known}{l:Ln}
theorem ofI_nat{a:Nat}(ha:a<1000000):(BitVec.ofInt 64 (a:Int)).toNat=a:=by rw[BitVec.toNat_ofInt];omega
def orZ(x y:Int):Int:=IntKind.i64.wrap (((BitVec.ofInt 64 x) ||| (BitVec.ofInt 64 y)).toNat:Int)
section ops
variable {P:Program}{s:St}{all l:List Oper}{d:Nat}{x y:Operand}{xt yt t:TypeId}{p:String}{e:Array Edge}{Q:St→Prop}{a c:Int}
theorem o_orZ(hd:Nat.blt d 1024=true)(hx:zL s x=.int .i64 a)(hy:zL s y=.int .i64 c)(hk:WpO P is orc all l (s.put d (.int .i64 (orZ a c))) Q):WpO P is orc all (⟨some d,.binOp .or xt x y yt,t,p,e,none⟩::l) s Q:=
 zGF hd hx hy (v:=.int .i64 (orZ a c)) rfl rfl hk
end ops
theorem wrap_nat{n:Nat}(h:n<2 ^ 20):IntKind.i64.wrap (n:Int)=n:=by
 have h1:zEc .i64 (n:Int)=n:=wrap64 (by unfold I64;omega)
 rw[zBd]at h1;exact h1
def i16(f:Nat→Nat):List Int:=(List.range 16).map fun k=>(f k:Int)
theorem zFl(f:Nat→Nat):(i16 f).length=16:=by simp[i16]
theorem i16_at{f:Nat→Nat}{i:Nat}(h:i<16):(i16 f)[i]? =some (f i:Int):=by
 unfold i16;rw[List.getElem?_map,List.getElem?_range h];rfl
theorem i16_set{f:Nat→Nat}{i v:Nat}:(i16 f).set i (v:Int)=i16 fun k=>if k=i then v else f k:=by
 apply List.ext_getElem?
 intro k
 by_cases hk:k<16
 ·rw[i16_at hk]
  by_cases e:k=i
  ·subst e
   rw[List.getElem?_set_self (by rw[zFl];exact hk),if_pos rfl]
  ·rw[List.getElem?_set_ne (fun h=>e h.symm),i16_at hk,if_neg e]
 ·rw[List.getElem?_eq_none (by rw[List.length_set,zFl];omega),List.getElem?_eq_none (by rw[zFl];omega)]
theorem ints_st{S:List Int}{i:Nat}{v:Int}:(zF S).set (0+(i:Int).toNat*1) (.int .i64 v)=zF (S.set i v):=by
 rw[show 0+(i:Int).toNat*1=i by omega]
 exact(List.map_set (f:=fun n=>U.int .i64 n)).symm
theorem ints_at{S:List Int}{i:Nat}{v:Int}(h:S[i]? =some v):(zF S)[0+(i:Int).toNat*1]? =some (.int .i64 v):=by
 rw[show 0+(i:Int).toNat*1=i by omega]
 show(S.map _)[i]? =_;rw[List.getElem?_map,h];rfl
end
end Go.Proofs.YthhbfbmfhldbaaaDoor.locks
