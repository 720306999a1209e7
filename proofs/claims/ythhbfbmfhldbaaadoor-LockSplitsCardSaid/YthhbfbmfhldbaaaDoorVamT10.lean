import Derived.Test.YthhbfbmfhldbaaaDoorVamT9
set_option linter.unusedVariables false
set_option linter.unusedSimpArgs false
set_option linter.constructorNameAsVariable false
namespace Go.Proofs.YthhbfbmfhldbaaaDoor.locks
open Vam
section
variable {is:FuncId→Bool}{orc:Known}{l:Ln}
theorem memP_more{P:Nat→Bool}{n:Nat}:∀m:Nat,n≤m→(∀k,n≤k→k<m→P k=false)→memP P m=memP P n:=by
 intro m
 induction m with
 |zero=>intro h _;rw[show n=0 by omega]
 |succ m ih=>
  intro h hf
  by_cases e:n=m+1
  ·rw[e]
  ·rw[zBc,hf m (by omega) (by omega),if_neg (by decide),List.append_nil]
   exact ih (by omega) fun k h1 h2=>hf k h1 (by omega)
theorem prt16{p:List Int}(hp:p.length≤16){w:Int}(hw:w≠ -1):memP (plF p w) 16=prtL p w:=by
 unfold prtL
 refine memP_more (P:=plF p w) 16 hp fun k h1 _=>?_
 unfold plF at'
 rw[List.getElem?_eq_none h1]
 exact kG fun h=>hw h.symm
end
section
variable {is:FuncId→Bool}{orc:Known}{l:Ln}
noncomputable def b57:Code:=(Tryd.f57.body).getD .skip
theorem body57:bodyOf Tryd.prog 57=some (9,b57,[.cell 4 75]):=by kernel_rfl
theorem pure57:pureFn Tryd.prog 57=true:=by kernel_rfl
section ops
variable {P:Program}{s:St}{all l:List Oper}{d:Nat}{x y:Operand}{xt yt t:TypeId}{p:String}{e:Array Edge}{Q:St→Prop}{a c:Int}
end ops
def i16(f:Nat→Nat):List Int:=(List.range 16).map fun k=>(f k:Int)
theorem zFo(f:Nat→Nat):(i16 f).length=16:=by simp[i16]
theorem i16_at{f:Nat→Nat}{i:Nat}(h:i<16):(i16 f)[i]? =some (f i:Int):=by
 unfold i16;rw[List.getElem?_map,List.getElem?_range h];rfl
theorem i16_set{f:Nat→Nat}{i v:Nat}:(i16 f).set i (v:Int)=i16 fun k=>if k=i then v else f k:=by
 apply List.ext_getElem?
 intro k
 by_cases hk:k<16
 ·rw[i16_at hk]
  by_cases e:k=i
  ·subst e
   rw[List.getElem?_set_self (by rw[zFo];exact hk),if_pos rfl]
  ·rw[List.getElem?_set_ne (fun h=>e h.symm),i16_at hk,if_neg e]
 ·rw[List.getElem?_eq_none (by rw[List.length_set,zFo];omega),List.getElem?_eq_none (by rw[zFo];omega)]
theorem ints_st{S:List Int}{i:Nat}{v:Int}:(zE S).set (0+(i:Int).toNat*1) (.int .i64 v)=zE (S.set i v):=by
 rw[show 0+(i:Int).toNat*1=i by omega]
 exact(List.map_set (f:=fun n=>U.int .i64 n)).symm
theorem ints_at{S:List Int}{i:Nat}{v:Int}(h:S[i]? =some v):(zE S)[0+(i:Int).toNat*1]? =some (.int .i64 v):=by
 rw[show 0+(i:Int).toNat*1=i by omega]
 show(S.map _)[i]? =_;rw[List.getElem?_map,h];rfl
theorem ret57(hi:Off is)(l:Ln)(p:List Int):RetP Tryd.prog is orc 57 [l.u,.lst .ro 1 (zE p)] (duetU l p):=by
 refine zw body57 pure57 (hi 57 (by decide)) rfl rfl (yq (yk l 5) (yG 6 .ro (fun h=>by cases h) 1 p)) (.inl (dat_duet l p 5)) ?_
 refine kQ (zk rfl rfl (yL rfl ze75 ?_))
 refine zB ?_
 refine zH [(1,.lst .ro 1 (zE p)),(2,U.box 0 0),(4,U.box 1 0)] ([SB.box [.lst .ro 1 (zE (Ln.slots l)),.int .i64 (Ln.left l),.int .i64 (Ln.right l),.int .i64 (Ln.run l)],SB.box [.lst .full 0 [],.int .i64 0,.int .i64 0,.int .i64 0,.lst .full 0 []]]) (.n3 rfl) rfl fun fr=>?_
 refine kQ (kB sh24 rfl (we rfl ze73 pl73 rfl rfl ?_))
 refine zC rfl (we rfl ze75 pl75 rfl rfl ?_)
 refine yY rfl rfl sh75 rfl rfl rfl rfl rfl ?_
 refine zB (zV ?_)
 refine⟨.inr rfl,_,.cons _ _ _ _ (.cellN 4 75 _ _ _ _ rfl rfl sh75 rfl) .nil,?_⟩
 exact .refl _
end
end Go.Proofs.YthhbfbmfhldbaaaDoor.locks
