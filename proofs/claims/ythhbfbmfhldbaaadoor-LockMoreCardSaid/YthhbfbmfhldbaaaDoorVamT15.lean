import Derived.Test.YthhbfbmfhldbaaaDoorVamT14
set_option linter.unusedVariables false
set_option linter.unusedSimpArgs false
set_option linter.constructorNameAsVariable false
namespace Go.Proofs.YthhbfbmfhldbaaaDoor.locks
open Vam
section
variable {is:FuncId→Bool}{orc:Known}{l:Ln}
structure Qw where
 g:Nat
 A:List U
 B:List U
 b:Bool
abbrev Qw.u(q:Qw):U:=.fn q.g q.A q.B
abbrev qwU(L:List Qw):List U:=L.map Qw.u
set_option maxHeartbeats 8000000 in
theorem wpc56(hi:Off is)(h:VL l)(st:List SB)(L:List Qw)(hr:∀(i:Nat) (q:Qw) (e:List SB),L[i]? =some q→(L.take i).all Qw.b=true→WpC Tryd.prog is orc q.g (q.A++([]++q.B)) (st++e) fun u st'=>u=.bool q.b∧st'=st++e)(hlen:L.length≤10):
  WpC Tryd.prog is orc 56 [l.u,.lst .ro 1 (qwU L)] st fun u st'=>u=.int .i64 (if L.all Qw.b=true then 0 else 71)∧∃e,st'=st++e:=by
 have q17:=ret17 (orc:=orc) hi l
 rw[zAL.2 h,if_pos rfl]at q17
 generalize hz:(if L.all Qw.b=true then(0:Int)else 71)=z
 refine zEH body56 pure56 rfl rfl ?_
 refine kQ (zx rfl rfl (zB rfl (zC ?_)))
 refine zI [(1,.lst .ro 1 (qwU L)),(2,U.box (List.length st) 0)] (st++[SB.box [.lst .ro 1 (zD (Ln.slots l)),.int .i64 (Ln.left l),.int .i64 (Ln.right l),.int .i64 (Ln.run l)]]) (.n2 rfl) rfl fun fr=>?_
 refine k_seq (kQ (zBG rfl rfl (ya _ _) sh24 rfl ?_))
 refine zO rfl (q17) (.lrefl _) (zB rfl (zC (kQ (zA rfl (kr rfl (zC (k_cF rfl rfl ?_)))))))
 refine zQ (k_seq (kQ (zA rfl (yl rfl zFB rfl (List.length_map _) ?_))))
 refine zA rfl (zC (zM ?_))
 refine wC (fun kk s2=>∃i:Nat,kk+i=L.length∧(L.take i).all Qw.b=true∧s2.st=st++[.box l.cs]∧Holds s2 [(13,.lst .ro 1 (qwU L)),(14,.int .i64 L.length),(15,.int .i64 i)]) (fun kk s2 hI=>?_) L.length _ ⟨0,rfl,rfl,rfl,.cons rfl (.n2 rfl)⟩
 obtain⟨i,hk,hall,hst2,hs2⟩:=hI
 by_cases hin:i<L.length
 ·obtain⟨q,hq⟩:∃q,L[i]? =some q:=⟨L[i],List.getElem?_eq_getElem hin⟩
  have hqr:=hr i q [.box l.cs] hq hall
  have ht:(L.take (i+1)).all Qw.b=((L.take i).all Qw.b&&q.b):=take_all _ hq
  rw[hall,Bool.true_and]at ht
  obtain⟨g,A,B,b⟩:=q
  have eq:(qwU L)[i]? =some (.fn g A B):=by rw[List.getElem?_map,hq];rfl
  have hqr:WpC Tryd.prog is orc g (A++([]++B)) (st++[.box l.cs]) fun u st'=>u=.bool b∧st'=st++[.box l.cs]:=hqr
  generalize hY:st++[SB.box l.cs]=Y at*
  refine zI _ _ hs2 hst2 fun fr2=>?_
  refine kQ (kp rfl (zC (k_seq (k_cT rfl (kF (by omega)) (zQ (k_seq (zM (kQ (zAc (u:=.fn g A B) rfl zFB rfl rfl (Int.natCast_nonneg _) (by simpa using eq) cl34 ?_)))))))))
  refine kC sh34 rfl ?_
  refine zB rfl (zC (kQ (zA rfl ?_)))
  refine o_callV rfl rfl hqr (.lrefl _) (fun u st1 hM=>?_)
  obtain⟨rfl,rfl⟩:=hM
  refine wc rfl rfl (zC ?_)
  cases b with
  |true=>
   refine k_cF rfl rfl ?_
   refine zQ (k_region ?_)
   refine kz rfl (by unfold I64;omega) (zA rfl (zC ?_))
   exact⟨kk - 1,by omega,i+1,by omega,ht,rfl,.cons rfl (.n2 rfl)⟩
  |false=>
   have hz2:z=71:=by
    rw[←hz,if_neg]
    intro ha
    have:=(List.all_eq_true.1 ha) _ (List.mem_of_getElem? hq)
    cases this
   subst hz2
   refine k_cT rfl rfl ?_
   refine kQ (zB rfl (zC (zg ?_)))
   refine⟨.inr rfl,_,.cons _ _ _ _ (.tmp 4) .nil,?_⟩
   exact⟨_,.refl _,rfl,[.box l.cs],hY.symm⟩
 ·have hz2:z=0:=by
   rw[←hz,if_pos]
   rw[List.take_of_length_le (by omega)]at hall
   exact hall
  subst hz2
  refine zI _ _ hs2 hst2 fun fr2=>?_
  refine kQ (kp rfl (zC (k_seq (k_cF rfl (kG (by omega)) (yW (kQ (zB rfl (zC (zg ?_)))))))))
  refine⟨.inr rfl,_,.cons _ _ _ _ (.tmp 4) .nil,?_⟩
  exact⟨_,.refl _,rfl,[.box l.cs],rfl⟩
end
section
variable {is:FuncId→Bool}{orc:Known}{l:Ln}
end
section
variable {is:FuncId→Bool}{orc:Known}{l:Ln}
end
end Go.Proofs.YthhbfbmfhldbaaaDoor.locks
