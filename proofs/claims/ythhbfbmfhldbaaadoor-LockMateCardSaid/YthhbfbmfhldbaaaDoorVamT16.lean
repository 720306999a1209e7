import Derived.Test.YthhbfbmfhldbaaaDoorVamT15
set_option linter.unusedVariables false
set_option linter.unusedSimpArgs false
set_option linter.constructorNameAsVariable false
namespace Go.Proofs.YthhbfbmfhldbaaaDoor.locks
open Vam
variable {is:FuncId→Bool}{orc:Known}{l:Ln}
set_option maxHeartbeats 8000000 in
theorem ret23(hi:Off is)(A:List Int)(hl:A.length≤4096):RetP Tryd.prog is orc 23 [.lst .ro 1 (zE A),.lst .ro 1 (zE A)] (.bool true):=by
 refine yJ body23 pure23 (hi 23 (by decide)) rfl rfl (zAP (zw 6 .ro (fun h=>by cases h) 1 A) (zw 6 .ro (fun h=>by cases h) 1 A)) (.inl (.bool _ _)) ?_
 refine kQ (zC rfl (zB (kQ (zA rfl (zi rfl ty22 rfl (List.length_map _) ?_)))))
 refine zA rfl (zi rfl ty22 rfl (List.length_map _) ?_)
 refine ks rfl (zC rfl (zB (k_seq (kQ (zC rfl (zB (zH ?_)))))))
 refine yu (fun kk s2=>∃i:Nat,kk+i=A.length∧s2.st=[]∧Holds s2 [(0,.lst .ro 1 (zE A)),(1,.lst .ro 1 (zE A)),(5,.bool true),(6,.int .i64 i)]) (fun kk s2 hI=>?_) A.length _ ⟨0,by omega,rfl,.cons rfl (.cons rfl (.cons (by show U.bool (decide _)=_;simp) (.n1 rfl)))⟩
 obtain⟨i,hk,hst2,hs2⟩:=hI
 refine zI _ _ hs2 hst2 fun fr2=>?_
 by_cases hj:i<A.length
 ·have hx:A[i]? =some (A[i]'hj):=List.getElem?_eq_getElem hj
  generalize A[i]'hj=x at hx
  refine k_seq (kQ (zA rfl (zA rfl (kf rfl (zA rfl (kf rfl (zA rfl (kf rfl (zi rfl ty22 rfl (List.length_map _) ?_)))))))))
  refine kf rfl (kp rfl (kE rfl ?_))
  refine zB (k_cT rfl (kF (by omega)) (zJ (k_seq (zH (yf [.plain,.plain,.plain,.read true,.plain,.plain,.plain,.read true,.plain,.plain] (by kernel_rfl) (by kernel_rfl) (by kernel_rfl) ?_)))))
  refine zD (zA rfl (zB rfl)) (zD (zA rfl (zB rfl)) (zD (zx (u:=.int .i64 (x)) rfl ty22 rfl rfl (Int.natCast_nonneg _) (by simp[hx]) cl3 (zB rfl)) ?_))
  refine zX rfl (kC sh3 rfl (zB rfl)) ?_
  refine zD (zA rfl (zB rfl)) (zD (zA rfl (zB rfl)) (zD (zx (u:=.int .i64 (x)) rfl ty22 rfl rfl (Int.natCast_nonneg _) (by simp[hx]) cl3 (zB rfl)) ?_))
  refine zX rfl (kC sh3 rfl (zB rfl)) ?_
  refine zD (ks rfl (zB rfl)) ?_
  refine zD (zC rfl (zB rfl)) ?_
  refine wl ?_
  refine k_region (zA rfl ?_)
  refine kz rfl (by unfold I64;omega) (zC rfl (zB ?_))
  exact⟨kk - 1,by omega,i+1,by omega,rfl,.cons rfl (.cons rfl (.cons (by show U.bool (decide _)=_;simp) (.n1 rfl)))⟩
 ·refine k_seq ?_
  refine kQ (zA rfl (zA rfl (kf rfl (zA rfl (kf rfl (zA rfl (kf rfl (zi rfl ty22 rfl (List.length_map _) ?_))))))))
  refine kf rfl (kp rfl (kE rfl ?_))
  refine zB (k_cF rfl (kG (by omega)) (yI (kQ (zA rfl (zC rfl (zB (za ?_)))))))
  refine⟨.inr rfl,_,.cons _ _ _ _ (.tmp 4) .nil,?_⟩
  exact .refl _
  done
theorem prt_right{n:Nat}(hn:l.slots.length=n){p:List Int}(hp:p.length=n){w:Int}(hw:w=0∨w=1):zAh l w (prtL p w)=true:=
 zEt.2 ⟨hw,memP_pair _ _,fun x hx=>by have:=memP_rg hx;omega⟩
theorem mate_part(hv:wX l=true){p:List Int}{w:Int}(hw:w=0∨w=1)(h:divB l p=true):zBJ l w (prtL p w)=0∧zAk l w (prtL p w)=prtL p (1 - w):=by
 have hp:=(zDp.1 h).1
 have hE:zBJ l w (prtL p w)=0:=by
  unfold zBJ
  rw[hv,if_pos rfl,prt_right rfl hp hw,if_pos rfl,alo_part hw h,if_pos h]
 exact⟨hE,by unfold zAk;rw[hE,if_pos rfl,alo_part hw h]⟩
def aloP(l:Ln)(w:Int)(L:List Int)(n:Nat):List Int:=(List.range n).map (aloI l w L)
theorem aloP_succ(l:Ln)(w:Int)(L:List Int)(n:Nat):aloP l w L (n+1)=aloP l w L n++[aloI l w L n]:=by simp[aloP,List.range_succ]
theorem aloP_len(l:Ln)(w:Int)(L:List Int)(n:Nat):(aloP l w L n).length=n:=by simp[aloP]
end Go.Proofs.YthhbfbmfhldbaaaDoor.locks
