import Derived.Test.YthhbfbmfhldbaaaDoorVamT2
set_option linter.unusedVariables false
set_option linter.unusedSimpArgs false
set_option linter.constructorNameAsVariable false
namespace Go.Proofs.YthhbfbmfhldbaaaDoor.locks
open Vam
variable {is:FuncId→Bool}{orc:Known}{l:Ln}
theorem by3:Program.bytesOf Tryd.prog 3=8:=by kernel_rfl
theorem ze3:yF Tryd.prog 3=some ((.cons (.int .i64 0) .nil):V):=by kernel_rfl
theorem zCc:AppT Tryd.prog 22 22 3 1 8 ((.cons (.int .i64 0) .nil):V):=⟨ty22,⟨_,ty22⟩,cl3,by decide,by3,ze3,rfl⟩
noncomputable def b45:Code:=(Tryd.f45.body).getD .skip
theorem body45:bodyOf Tryd.prog 45=some (24,b45,[.tmp 4]):=by kernel_rfl
theorem pure45:pureFn Tryd.prog 45=true:=by kernel_rfl
theorem VL.at(h:VL l){i:Nat}(hi:i<l.slots.length):∃t,l.slots[i]? =some t∧at' l.slots i=t∧ -1≤t∧t≤7:=by
 have hx:l.slots[i]? =some l.slots[i]:=List.getElem?_eq_getElem hi
 exact⟨_,hx,by unfold at';rw[hx];rfl,h.tn _ (List.getElem_mem hi)⟩
set_option maxHeartbeats 8000000 in
theorem ret45(hi:Off is){p:List Int}(hp:p.length≤4096)(who:Int):RetP Tryd.prog is orc 45 [.lst .ro 1 (zF p),.int .i64 who] (.lst .ro 1 (zF (prtL p who))):=by
 refine yY body45 pure45 (hi 45 (by decide)) rfl rfl (zAs (wp 6 .ro (fun h=>by cases h) 1 p) (.int _ _ _)) (.inl (wp 6 .ro (fun h=>by cases h) 1 _)) ?_
 unfold prtL
 refine kQ (zB rfl (zA (kQ (zB rfl (zA (k_seq (kQ (zB rfl (zA (zO ?_))))))))))
 refine wZ (fun kk s2=>∃i:Nat,kk+i=p.length∧s2.st=[]∧Holds s2 [(0,.lst .ro 1 (zF p)),(1,.int .i64 who),(5,accI (memP (fun i=>decide (at' p i=who)) i)),(6,.int .i64 i)]) (fun kk s2 hI=>?_) p.length _ ⟨0,rfl,rfl,.c4 rfl rfl rfl rfl (.nil rfl)⟩
 obtain⟨i,hk,hst2,hs2⟩:=hI
 have hsu:=zDb (fun i=>decide (at' p i=who)) i
 have hlen:=zBp (fun i=>decide (at' p i=who)) i
 obtain⟨M,hM⟩:∃M,M=memP (fun i=>decide (at' p i=who)) i:=⟨_,rfl⟩
 rw[←hM]at hsu hlen hs2
 by_cases hin:i<p.length
 ·obtain⟨x,hx⟩:∃x,p[i]? =some x:=⟨p[i],List.getElem?_eq_getElem hin⟩
  have ha:at' p i=x:=by unfold at';rw[hx];rfl
  refine zM _ _ hs2 hst2 fun fr2=>?_
  by_cases c:x=who
  ·rw[if_pos (kF (by rw[ha];exact c))]at hsu
   cases M with
   |nil=>
    refine k_seq (kQ (zC rfl (zC rfl (yy rfl ty22 rfl (List.length_map _) ?_))))
    refine kp rfl (zA (k_cT rfl (kF (by omega)) (zU (k_seq (zO (kQ (zC rfl (zC rfl (zBm (u:=.int .i64 (x)) rfl ty22 rfl rfl (Int.natCast_nonneg _) (by simp[hx]) cl3 ?_)))))))))
    refine kC sh3 rfl ?_
    refine zC rfl (ks rfl (zA (k_cT rfl (kF (by omega)) (k_region (zC rfl (zC rfl (o_lit (es:=[.int .i64 ↑i]) rfl ty22 ze3 cl3 rfl rfl rfl rfl rfl rfl rfl rfl ?_)))))))
    refine zFa rfl zCc rfl rfl (by simp) (by simp) (by simp[zl,zZ,oneU]) (by simp) ?_
    refine zB rfl (zA ?_)
    refine zM [(0,.lst .ro 1 (zF p)),(1,.int .i64 who),(5,U.lst Kd.own 1 [.int .i64 ↑i]),(6,.int .i64 ↑i)] ([]) (.n4 rfl) rfl fun fr=>?_
    refine k_region (zC rfl ?_)
    refine kz rfl (by unfold I64;omega) (zB rfl (zA ?_))
    exact⟨kk - 1,by omega,i+1,by omega,rfl,.cons rfl (.cons rfl (.cons (by rw[hsu];rfl) (.n1 rfl)))⟩
   |cons y M=>
    refine k_seq (kQ (zC rfl (zC rfl (yy rfl ty22 rfl (List.length_map _) ?_))))
    refine kp rfl (zA (k_cT rfl (kF (by omega)) (zU (k_seq (zO (kQ (zC rfl (zC rfl (zBm (u:=.int .i64 (x)) rfl ty22 rfl rfl (Int.natCast_nonneg _) (by simp[hx]) cl3 ?_)))))))))
    refine kC sh3 rfl ?_
    refine zC rfl (ks rfl (zA (k_cT rfl (kF (by omega)) (k_region (zC rfl (zC rfl (o_lit (es:=[.int .i64 ↑i]) rfl ty22 ze3 cl3 rfl rfl rfl rfl rfl rfl rfl rfl ?_)))))))
    refine zFZ 5 rfl zCc rfl rfl rfl (by simp) (by simp) (by simp[zl,zZ,oneU]) (by simp at hlen ⊢;omega) ?_
    refine zB rfl (zA (k_region (zC rfl ?_)))
    refine kz rfl (by unfold I64;omega) (zB rfl (zA ?_))
    exact⟨kk - 1,by omega,i+1,by omega,rfl,.cons rfl (.cons rfl (.cons (by rw[hsu,zFz];rfl) (.n1 rfl)))⟩
  ·rw[if_neg (by rw[decide_eq_true_eq,ha];exact c),List.append_nil]at hsu
   refine k_seq (kQ (zC rfl (zC rfl (yy rfl ty22 rfl (List.length_map _) ?_))))
   refine kp rfl (zA (k_cT rfl (kF (by omega)) (zU (k_seq (zO (kQ (zC rfl (zC rfl (zBm (u:=.int .i64 (x)) rfl ty22 rfl rfl (Int.natCast_nonneg _) (by simp[hx]) cl3 ?_)))))))))
   refine kC sh3 rfl ?_
   refine zC rfl (ks rfl (zA (k_cF rfl (kG (by omega)) (zU (k_region (zC rfl ?_))))))
   refine kz rfl (by unfold I64;omega) (zB rfl (zA ?_))
   exact⟨kk - 1,by omega,i+1,by omega,rfl,.cons rfl (.cons rfl (.cons (congrArg accI hsu.symm) (.n1 rfl)))⟩
 ·have hie:p.length=i:=by omega
  rw[hie,←hM]
  refine zM _ _ hs2 hst2 fun fr2=>?_
  cases M with
  |nil=>
   refine k_seq (kQ (zC rfl (zC rfl (yy rfl ty22 rfl (List.length_map _) ?_))))
   refine kp rfl (zA (k_cF rfl (kG (by omega)) (yW (kQ (zC rfl (zB rfl (zA (zk ?_))))))))
   refine⟨.inr rfl,_,.cons _ _ _ _ (.tmp 4) .nil,?_⟩
   exact .nil _ _ _
  |cons y M=>
   refine k_seq (kQ (zC rfl (zC rfl (yy rfl ty22 rfl (List.length_map _) ?_))))
   refine kp rfl (zA (k_cF rfl (kG (by omega)) (yW (kQ (zC rfl (zB rfl (zA (zk ?_))))))))
   refine⟨.inr rfl,_,.cons _ _ _ _ (.tmp 4) .nil,?_⟩
   exact .refl _
end Go.Proofs.YthhbfbmfhldbaaaDoor.locks
