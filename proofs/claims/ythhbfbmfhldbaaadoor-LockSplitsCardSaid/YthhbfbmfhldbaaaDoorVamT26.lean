import Derived.Test.YthhbfbmfhldbaaaDoorVamT25
set_option linter.unusedVariables false
set_option linter.unusedSimpArgs false
set_option linter.constructorNameAsVariable false
namespace Go.Proofs.YthhbfbmfhldbaaaDoor.locks
open Vam
section
variable {is:FuncId→Bool}{orc:Known}{l:Ln}
noncomputable def b20:Code:=(Tryd.f20.body).getD .skip
theorem body20:bodyOf Tryd.prog 20=some (13,b20,[.tmp 2,.tmp 3]):=by kernel_rfl
theorem pure20:pureFn Tryd.prog 20=true:=by kernel_rfl
noncomputable def b65:Code:=(Tryd.f65.body).getD .skip
theorem body65:bodyOf Tryd.prog 65=some (24,b65,[.tmp 4]):=by kernel_rfl
theorem pure65:pureFn Tryd.prog 65=true:=by kernel_rfl
set_option maxHeartbeats 16000000 in
theorem ret20(hi:Off is)(l:Ln):RetP Tryd.prog is orc 20 [l.u] (.tup [.int .i64 (manN l:Nat),.int .i64 (manE l)]):=by
 refine zw body20 pure20 (hi 20 (by decide)) rfl rfl (wA (yk l 5)) (.inr ⟨_,rfl,yq (.int _ _ _) (.int _ _ _)⟩) ?_
 have q18:=ret18 (orc:=orc) hi l
 unfold manN manE
 cases hv:zz l with
 |false=>
  rw[hv,if_neg (by decide)]at q18
  rw[if_neg (by decide),if_neg (by decide)]
  refine kQ (zk rfl rfl (zA rfl (zA rfl (zB ?_))))
  refine zH [(1,U.box 0 0)] ([SB.box [.lst .ro 1 (zE (Ln.slots l)),.int .i64 (Ln.left l),.int .i64 (Ln.right l),.int .i64 (Ln.run l)]]) (.n1 rfl) rfl fun fr=>?_
  refine k_seq (kQ (kB sh24 rfl (zN rfl (q18) (.lrefl _) (zA rfl (zB (kQ (zC rfl (kr rfl (zB (k_cT rfl rfl ?_))))))))))
  refine kQ (zC rfl (zA rfl (zA rfl (zB (zV ?_)))))
  refine⟨.inr rfl,_,.cons _ _ _ _ (.tmp 2) (.cons _ _ _ _ (.tmp 3) .nil),?_⟩
  exact .refl _
 |true=>
  have h:=yl.1 hv
  rw[hv,if_pos rfl]at q18
  rw[if_pos rfl,if_pos rfl]
  have q62:=ret62 (orc:=orc) hi h
  generalize splL l=L at*
  refine kQ (zk rfl rfl (zA rfl (zA rfl (zB ?_))))
  refine zH [(1,U.box 0 0)] ([SB.box [.lst .ro 1 (zE (Ln.slots l)),.int .i64 (Ln.left l),.int .i64 (Ln.right l),.int .i64 (Ln.run l)]]) (.n1 rfl) rfl fun fr=>?_
  refine k_seq (kQ (kB sh24 rfl (zN rfl (q18) (.lrefl _) (zA rfl (zB (kQ (zC rfl (kr rfl (zB (k_cF rfl rfl ?_))))))))))
  refine zL (kQ (kB sh24 rfl (zN rfl (q62) (.lrefl _) (zq rfl ty42 rfl (List.length_map _) ?_))))
  refine zA rfl (zA rfl (zB (zV ?_)))
  refine⟨.inr rfl,_,.cons _ _ _ _ (.tmp 2) (.cons _ _ _ _ (.tmp 3) .nil),?_⟩
  exact .refl _
set_option maxHeartbeats 16000000 in
theorem ret65(hi:Off is){p:List Int}(hp:p.length≤4096)(w:Int):RetP Tryd.prog is orc 65 [.lst .ro 1 (zE p),.int .i64 w] (.lst .ro 1 (zE (prtL p w))):=by
 refine zw body65 pure65 (hi 65 (by decide)) rfl rfl (yq (yG 6 .ro (fun h=>by cases h) 1 p) (.int _ _ _)) (.inl (yG 6 .ro (fun h=>by cases h) 1 _)) ?_
 unfold prtL
 refine kQ (zA rfl (zB (kQ (zA rfl (zB (k_seq (kQ (zA rfl (zB (zI ?_))))))))))
 refine yX (fun kk s3=>∃i:Nat,kk+i=p.length∧s3.st=[]∧Holds s3 [(0,.lst .ro 1 (zE p)),(1,.int .i64 w),(5,accI (memP (fun i=>decide (at' p i=w)) i)),(6,.int .i64 i)]) (fun kk s3 hJ=>?_) p.length _ ⟨0,rfl,rfl,.c4 rfl rfl rfl rfl (.nil rfl)⟩
 obtain⟨i,hk,hst3,hs3⟩:=hJ
 have hml:=zBF (fun i=>decide (at' p i=w)) i
 by_cases hin:i<p.length
 ·obtain⟨x,hx⟩:∃x,p[i]? =some x:=⟨p[i],List.getElem?_eq_getElem hin⟩
  have hax:at' p i=x:=by unfold at';rw[hx];rfl
  have hsu:=zBc (fun i=>decide (at' p i=w)) i
  rw[hax]at hsu
  generalize memP (fun i=>decide (at' p i=w)) i=M at*
  by_cases c:x=w
  ·rw[if_pos (kF c)]at hsu
   cases M with
   |nil=>
    refine zH _ _ hs3 hst3 fun fr3=>?_
    refine k_seq (kQ (zC rfl (zC rfl (zq rfl ty22 rfl (List.length_map _) ?_))))
    refine kp rfl (zB (k_cT rfl (kF (by omega)) (zL (k_seq (zI (kQ (zC rfl (zC rfl (yA (u:=.int .i64 (x)) rfl ty22 rfl rfl (Int.natCast_nonneg _) (by simp[hx]) cl3 ?_)))))))))
    refine kC sh3 rfl ?_
    refine zC rfl (ks rfl (zB (k_cT rfl (kF (by omega)) (k_region (zC rfl (zC rfl (zBn (es:=[.int .i64 ↑i]) rfl ty22 ze3 cl3 rfl rfl rfl rfl rfl rfl rfl rfl ?_)))))))
    refine wu rfl wT rfl rfl (by simp) (by simp) (by simp[yJ,zZ,oneU]) (by simp) ?_
    refine zA rfl (zB ?_)
    refine zH [(0,.lst .ro 1 (zE p)),(1,.int .i64 w),(5,U.lst Kd.own 1 [.int .i64 ↑i]),(6,.int .i64 ↑i)] ([]) (.n4 rfl) rfl fun fr=>?_
    refine k_region (zC rfl ?_)
    refine kz rfl (by unfold I64;omega) (zA rfl (zB ?_))
    exact⟨kk - 1,by omega,i+1,by omega,rfl,.cons rfl (.cons rfl (.cons (by rw[hsu];rfl) (.n1 rfl)))⟩
   |cons y M=>
    refine zH _ _ hs3 hst3 fun fr3=>?_
    refine k_seq (kQ (zC rfl (zC rfl (zq rfl ty22 rfl (List.length_map _) ?_))))
    refine kp rfl (zB (k_cT rfl (kF (by omega)) (zL (k_seq (zI (kQ (zC rfl (zC rfl (yA (u:=.int .i64 (x)) rfl ty22 rfl rfl (Int.natCast_nonneg _) (by simp[hx]) cl3 ?_)))))))))
    refine kC sh3 rfl ?_
    refine zC rfl (ks rfl (zB (k_cT rfl (kF (by omega)) (k_region (zC rfl (zC rfl (zBn (es:=[.int .i64 ↑i]) rfl ty22 ze3 cl3 rfl rfl rfl rfl rfl rfl rfl rfl ?_)))))))
    refine wt 5 rfl wT rfl rfl rfl (by simp) (by simp) (by simp[yJ,zZ,oneU]) (by simp at hml ⊢;omega) ?_
    refine zA rfl (zB (k_region (zC rfl ?_)))
    refine kz rfl (by unfold I64;omega) (zA rfl (zB ?_))
    exact⟨kk - 1,by omega,i+1,by omega,rfl,.cons rfl (.cons rfl (.cons (by rw[hsu,zAg];rfl) (.n1 rfl)))⟩
  ·rw[if_neg (by rw[kG c];decide),List.append_nil]at hsu
   refine zH _ _ hs3 hst3 fun fr3=>?_
   refine k_seq (kQ (zC rfl (zC rfl (zq rfl ty22 rfl (List.length_map _) ?_))))
   refine kp rfl (zB (k_cT rfl (kF (by omega)) (zL (k_seq (zI (kQ (zC rfl (zC rfl (yA (u:=.int .i64 (x)) rfl ty22 rfl rfl (Int.natCast_nonneg _) (by simp[hx]) cl3 ?_)))))))))
   refine kC sh3 rfl ?_
   refine zC rfl (ks rfl (zB (k_cF rfl (kG (by omega)) (zL (k_region (zC rfl ?_))))))
   refine kz rfl (by unfold I64;omega) (zA rfl (zB ?_))
   exact⟨kk - 1,by omega,i+1,by omega,rfl,.cons rfl (.cons rfl (.cons (by rw[hsu];rfl) (.n1 rfl)))⟩
 ·have hie:i=p.length:=by omega
  subst hie
  generalize memP (fun i=>decide (at' p i=w)) p.length=M at*
  refine zH _ _ hs3 hst3 fun fr3=>?_
  refine k_seq (kQ (zC rfl (zC rfl (zq rfl ty22 rfl (List.length_map _) ?_))))
  refine kp rfl (zB (k_cF rfl (kG (by omega)) (zj (kQ ?_))))
  refine o_weak 5 rfl (fun _=>rfl) (u:=.lst .ro 1 (zE M)) (accI_ro3 M) ?_
  refine zC rfl (zA rfl (zB (zV ?_)))
  refine⟨.inr rfl,_,.cons _ _ _ _ (.tmp 4) .nil,?_⟩
  exact .refl _
end
section
variable {is:FuncId→Bool}{orc:Known}{l:Ln}
noncomputable def cb16:Code:=(Tryd.f16.body).getD .skip
theorem body16:bodyOf Tryd.prog 16=some (15,cb16,[.tmp 4,.tmp 5]):=by kernel_rfl
theorem pure16:pureFn Tryd.prog 16=true:=by kernel_rfl
noncomputable def isB(l:Ln)(p:List Int):Bool:=zz l&&divB l p
set_option maxHeartbeats 16000000 in
theorem ret16(hi:Off is)(l:Ln)(p:List Int):RetP Tryd.prog is orc 16 [l.u,.lst .ro 1 (zE p)] (.tup [.bool (isB l p),.int .i64 (manE l)]):=by
 refine zw body16 pure16 (hi 16 (by decide)) rfl rfl (yq (yk l 5) (yG 6 .ro (fun h=>by cases h) 1 p)) (.inr ⟨_,rfl,yq (.bool _ _) (.int _ _ _)⟩) ?_
 have q18:=ret18 (orc:=orc) hi l
 unfold isB manE
 cases hv:zz l with
 |false=>
  rw[hv,if_neg (by decide)]at q18
  rw[Bool.false_and,if_neg (by decide)]
  refine kQ (zk rfl rfl (zA rfl (zA rfl (zB ?_))))
  refine zH [(1,.lst .ro 1 (zE p)),(2,U.box 0 0)] ([SB.box [.lst .ro 1 (zE (Ln.slots l)),.int .i64 (Ln.left l),.int .i64 (Ln.right l),.int .i64 (Ln.run l)]]) (.n2 rfl) rfl fun fr=>?_
  refine k_seq (kQ (kB sh24 rfl (zN rfl (q18) (.lrefl _) (zA rfl (zB (kQ (zC rfl (kr rfl (zB (k_cT rfl rfl ?_))))))))))
  refine kQ (zC rfl (zA rfl (zA rfl (zB (zV ?_)))))
  refine⟨.inr rfl,_,.cons _ _ _ _ (.tmp 4) (.cons _ _ _ _ (.tmp 5) .nil),?_⟩
  exact .refl _
 |true=>
  have h:=yl.1 hv
  rw[hv,if_pos rfl]at q18
  rw[Bool.true_and,if_pos rfl]
  have q59:=ret59 (orc:=orc) hi h p
  refine kQ (zk rfl rfl (zA rfl (zA rfl (zB ?_))))
  refine zH [(1,.lst .ro 1 (zE p)),(2,U.box 0 0)] ([SB.box [.lst .ro 1 (zE (Ln.slots l)),.int .i64 (Ln.left l),.int .i64 (Ln.right l),.int .i64 (Ln.run l)]]) (.n2 rfl) rfl fun fr=>?_
  refine k_seq (kQ (kB sh24 rfl (zN rfl (q18) (.lrefl _) (zA rfl (zB (kQ (zC rfl (kr rfl (zB (k_cF rfl rfl ?_))))))))))
  refine zL (kQ (kB sh24 rfl (zC rfl (zN rfl (q59) (.lrefl _) (zA rfl (zA rfl (zB (zV ?_))))))))
  refine⟨.inr rfl,_,.cons _ _ _ _ (.tmp 4) (.cons _ _ _ _ (.tmp 5) .nil),?_⟩
  exact .refl _
end
section
variable {is:FuncId→Bool}{orc:Known}{l:Ln}
noncomputable def b22:Code:=(Tryd.f22.body).getD .skip
theorem body22:bodyOf Tryd.prog 22=some (49,b22,[.tmp 2,.tmp 3]):=by kernel_rfl
theorem pure22:pureFn Tryd.prog 22=true:=by kernel_rfl
theorem bst_take{L:List (List Int)}(hp:L.Pairwise (fun a b=>zAH a b=true)){i:Nat}{q:List Int}(hq:L[i]? =some q):bstO (L.take (i+1))=match bstO (L.take i)with
  |none=>some q
  |some b=>if dfI q<dfI b then some q else some b:=by
 rw[List.take_add_one,hq]
 show bstO (L.take i++[q])=_
 rw[bstO_snoc]
 have hp2:(L.take (i+1)).Pairwise (fun a b=>zAH a b=true):=hp.sublist (List.take_sublist _ _)
 rw[List.take_add_one,hq]at hp2
 have hp3:(L.take i++[q]).Pairwise (fun a b=>zAH a b=true):=hp2
 have hall:=(List.pairwise_append.1 hp3).2.2
 rcases bst_spec (hp.sublist (List.take_sublist i L))with ⟨e1,e2⟩|⟨b,e,h1,h2⟩
 ·rw[e2];rfl
 ·rw[e]
  have hb:=zFO b q (hall b h1 q List.mem_cons_self)
  show zBd (some b) q=if dfI q<dfI b then some q else some b
  unfold zBd
  by_cases c:dfI q<dfI b
  ·simp[c]
  ·simp[c,hb]
theorem df_b{p:List Int}(h:p.length≤16):0≤dfI p∧dfI p≤16:=by
 have h1:=prt_len p 0
 have h2:=prt_len p 1
 unfold dfI;omega
set_option maxHeartbeats 16000000 in
theorem ret22(hi:Off is)(l:Ln):RetP Tryd.prog is orc 22 [l.u] (.tup [.lst .ro 1 (zE (splR l)),.int .i64 (splE l)]):=by
 refine zw body22 pure22 (hi 22 (by decide)) rfl rfl (wA (yk l 5)) (.inr ⟨_,rfl,yq (yG 5 .ro (fun h=>by cases h) 1 _) (.int _ _ _)⟩) ?_
 have q18:=ret18 (orc:=orc) hi l
 have sE:splE l=if zz l=true then if(bstO (splL l)).isSome=true then 0 else 4 else 70:=rfl
 have sR:splR l=if splE l=0 then(bstO (splL l)).getD []else []:=rfl
 cases hv:zz l with
 |false=>
  rw[hv,if_neg (by decide)]at q18 sE
  rw[sE,if_neg (by decide)]at sR
  rw[sE,sR]
  refine kQ (zk rfl rfl (zA rfl (zA rfl (zB ?_))))
  refine zH [(1,U.box 0 0)] ([SB.box [.lst .ro 1 (zE (Ln.slots l)),.int .i64 (Ln.left l),.int .i64 (Ln.right l),.int .i64 (Ln.run l)]]) (.n1 rfl) rfl fun fr=>?_
  refine k_seq (kQ (kB sh24 rfl (zN rfl (q18) (.lrefl _) (zA rfl (zB (kQ (zC rfl (kr rfl (zB (k_cT rfl rfl ?_))))))))))
  refine kQ (zC rfl (zA rfl (zA rfl (zB (zV ?_)))))
  refine⟨.inr rfl,_,.cons _ _ _ _ (.tmp 2) (.cons _ _ _ _ (.tmp 3) .nil),?_⟩
  exact .tup _ _ (.lcons _ _ _ _ (.nil .full .ro 1) (.lrefl _))
 |true=>
  have h:=yl.1 hv
  have hn:=h.n
  rw[hv,if_pos rfl]at q18 sE
  have q62:=ret62 (orc:=orc) hi h
  cases hb:bstO (splL l)with
  |none=>
   have hs0:=none_spl h hb
   have sE:splE l=4:=by rw[sE,hb];rfl
   rw[sE,if_neg (by decide)]at sR
   rw[sE,sR]
   rw[hs0]at q62
   refine kQ (zk rfl rfl (zA rfl (zA rfl (zB ?_))))
   refine zH [(1,U.box 0 0)] ([SB.box [.lst .ro 1 (zE (Ln.slots l)),.int .i64 (Ln.left l),.int .i64 (Ln.right l),.int .i64 (Ln.run l)]]) (.n1 rfl) rfl fun fr=>?_
   refine k_seq (kQ (kB sh24 rfl (zN rfl (q18) (.lrefl _) (zA rfl (zB (kQ (zC rfl (kr rfl (zB (k_cF rfl rfl ?_))))))))))
   refine zL (kQ (kB sh24 rfl (zN rfl (q62) (.lrefl _) (zA rfl (zB (k_seq (kQ (zC rfl (zq rfl ty42 rfl (List.length_map _) ?_)))))))))
   refine ks rfl (zB ?_)
   refine zH [(5,.lst .ro 1 (zAE [])),(19,U.bool (decide (↑(List.length [])=(0:Int))))] ([SB.box [.lst .ro 1 (zE (Ln.slots l)),.int .i64 (Ln.left l),.int .i64 (Ln.right l),.int .i64 (Ln.run l)]]) (.n2 rfl) rfl fun fr=>?_
   refine k_cT rfl rfl ?_
   refine kQ (zA rfl (zA rfl (zB (zV ?_))))
   refine⟨.inr rfl,_,.cons _ _ _ _ (.tmp 2) (.cons _ _ _ _ (.tmp 3) .nil),?_⟩
   exact .tup _ _ (.lcons _ _ _ _ (.nil .full .ro 1) (.lrefl _))
  |some b0=>
   have hpos:=List.length_pos_of_mem (some_spl hb).1
   have sE:splE l=0:=by rw[sE,hb];rfl
   rw[sE,if_pos rfl,hb]at sR
   have sR:splR l=b0:=sR
   rw[sE,sR]
   have hpw:(splL l).Pairwise (fun a b=>zAH a b=true):=zEq l l.slots.length []
   have hfew:=spl_few h
   have hlen:∀p∈splL l,p.length≤16:=fun p hp=>by have:=zDr h hp;omega
   generalize splL l=L at*
   refine kQ (zk rfl rfl (zA rfl (zA rfl (zB ?_))))
   refine zH [(1,U.box 0 0)] ([SB.box [.lst .ro 1 (zE (Ln.slots l)),.int .i64 (Ln.left l),.int .i64 (Ln.right l),.int .i64 (Ln.run l)]]) (.n1 rfl) rfl fun fr=>?_
   refine k_seq (kQ (kB sh24 rfl (zN rfl (q18) (.lrefl _) (zA rfl (zB (kQ (zC rfl (kr rfl (zB (k_cF rfl rfl ?_))))))))))
   refine zL (kQ (kB sh24 rfl (zN rfl (q62) (.lrefl _) (zA rfl (zB (k_seq (kQ (zC rfl (zq rfl ty42 rfl (List.length_map _) ?_)))))))))
   refine ks rfl (zB ?_)
   refine zH [(5,.lst .ro 1 (zAE L)),(19,U.bool (decide (↑(List.length L)=(0:Int))))] ([SB.box [.lst .ro 1 (zE (Ln.slots l)),.int .i64 (Ln.left l),.int .i64 (Ln.right l),.int .i64 (Ln.run l)]]) (.n2 rfl) rfl fun fr=>?_
   refine k_cF rfl (kG (by omega)) (zL (kQ (zA rfl (zA rfl (zB (k_seq (kQ (zA rfl (zB (zI ?_))))))))))
   refine yX (fun kk s3=>∃(i bi:Nat) (le:Int),kk+i=L.length∧((i=0∧bi=0∧le=100)∨∃b,bstO (L.take i)=some b∧L[bi]? =some b∧le=dfI b)∧s3.st=[.box l.cs]∧Holds s3 [(5,.lst .ro 1 (zAE L)),(6,.int .i64 bi),(7,.int .i64 le),(8,.int .i64 i)]) (fun kk s3 hJ=>?_) L.length _ ⟨0,0,100,rfl,.inl ⟨rfl,rfl,rfl⟩,rfl,.c4 rfl rfl rfl rfl (.nil rfl)⟩
   obtain⟨i,bi,le,hk,hor,hst3,hs3⟩:=hJ
   by_cases hin:i<L.length
   ·obtain⟨q,hq⟩:∃q,L[i]? =some q:=⟨L[i],List.getElem?_eq_getElem hin⟩
    have hql:=hlen q (List.mem_of_getElem? hq)
    have hqu:(zAE L)[i]? =some (.lst .ro 1 (zE q)):=by rw[List.getElem?_map,hq];rfl
    have hnx:=bst_take hpw hq
    have hdb:=df_b hql
    have q65a:=ret65 (orc:=orc) hi (p:=q) (by omega) 0
    have q65b:=ret65 (orc:=orc) hi (p:=q) (by omega) 1
    have l1:=prt_len q 0
    have l2:=prt_len q 1
    have q44:=ret44 (orc:=orc) hi (n:=((prtL q 0).length:Int) - (prtL q 1).length) (by omega)
    rw[plain_df]at q44
    have hyes:dfI q<le→bstO (L.take (i+1))=some q:=fun c=>by
     rcases hor with ⟨rfl,_,_⟩|⟨b,e1,_,e3⟩
     ·exact hnx
     ·rw[hnx,e1]
      exact if_pos (by rw[←e3];exact c)
    have hnot: ¬ dfI q<le→∃b,bstO (L.take (i+1))=some b∧L[bi]? =some b∧le=dfI b:=fun c=>by
     rcases hor with ⟨_,_,rfl⟩|⟨b,e1,e2,e3⟩
     ·omega
     ·refine⟨b,?_,e2,e3⟩
      rw[hnx,e1]
      exact if_neg (by rw[←e3];exact c)
    generalize prtL q 0=P1 at*
    generalize prtL q 1=P2 at*
    generalize hdq:dfI q=dq at*
    refine zH _ _ hs3 hst3 fun fr3=>?_
    by_cases c:dq<le
    ·refine k_seq ?_
     refine kQ (zC rfl (zC rfl (zq rfl ty42 rfl (List.length_map _) ?_)))
     refine kp rfl (zB (k_cT rfl (kF (by omega)) (zL (k_seq (zI (k_seq (yf [.plain,.plain,.plain,.read true,.quiet,.read true,.plain,.plain,.plain,.read true,.quiet,.read true,.plain,.plain,.plain] (by kernel_rfl) (by kernel_rfl) (by kernel_rfl) ?_)))))))
     refine zD (zC rfl (zB rfl)) (zD (zC rfl (zB rfl)) (zD (yA (u:=.lst .ro 1 (zE q)) rfl ty42 rfl rfl (Int.natCast_nonneg _) hqu cl22 (zB rfl)) ?_))
     refine zf rfl (kC sh22 rfl (zB rfl)) ?_
     refine zDO rfl (q65a) (.lrefl _) ?_
     refine zf rfl (zq rfl ty22 rfl (List.length_map _) (zB rfl)) ?_
     refine zD (zC rfl (zB rfl)) (zD (zC rfl (zB rfl)) (zD (yA (u:=.lst .ro 1 (zE q)) rfl ty42 rfl rfl (Int.natCast_nonneg _) hqu cl22 (zB rfl)) ?_))
     refine zn [(5,.lst .ro 1 (zAE L)),(6,.int .i64 ↑bi),(7,.int .i64 le),(8,.int .i64 ↑i),(31,.int .i64 ↑(List.length P1)),(34,U.eref [.lst .ro 1 (zE q)] 0)] [] ([SB.box (Ln.cs l)]) (.n6 rfl) rfl rfl fun fr=>?_
     refine zf rfl (kC sh22 rfl (zB rfl)) ?_
     refine zDO rfl (q65b) (.lrefl _) ?_
     refine zf rfl (zq rfl ty22 rfl (List.length_map _) (zB rfl)) ?_
     refine zD (o_sub rfl rfl rfl (by unfold I64;omega) (zB rfl)) ?_
     refine zD (zN rfl (q44) (.lrefl _) (zB rfl)) ?_
     refine zD (zA rfl (zB rfl)) ?_
     refine wm ?_
     refine zH [(5,.lst .ro 1 (zAE L)),(6,.int .i64 ↑bi),(7,.int .i64 le),(8,.int .i64 ↑i),(9,.int .i64 dq)] ([SB.box (Ln.cs l)]) (.n5 rfl) rfl fun fr=>?_
     refine kQ (zC rfl (zC rfl (kp rfl (zB (k_cT rfl (kF (by omega)) (k_region (zC rfl (zC rfl (zA rfl (zA rfl (zB (k_region (zC rfl ?_)))))))))))))
     refine kz rfl (by unfold I64;omega) (zA rfl (zB ?_))
     exact⟨kk - 1,by omega,i+1,i,dq,by omega,.inr ⟨q,hyes c,hq,hdq.symm⟩,rfl,.c4 rfl rfl rfl rfl (.nil rfl)⟩
    ·refine k_seq ?_
     refine kQ (zC rfl (zC rfl (zq rfl ty42 rfl (List.length_map _) ?_)))
     refine kp rfl (zB (k_cT rfl (kF (by omega)) (zL (k_seq (zI (k_seq (yf [.plain,.plain,.plain,.read true,.quiet,.read true,.plain,.plain,.plain,.read true,.quiet,.read true,.plain,.plain,.plain] (by kernel_rfl) (by kernel_rfl) (by kernel_rfl) ?_)))))))
     refine zD (zC rfl (zB rfl)) (zD (zC rfl (zB rfl)) (zD (yA (u:=.lst .ro 1 (zE q)) rfl ty42 rfl rfl (Int.natCast_nonneg _) hqu cl22 (zB rfl)) ?_))
     refine zf rfl (kC sh22 rfl (zB rfl)) ?_
     refine zDO rfl (q65a) (.lrefl _) ?_
     refine zf rfl (zq rfl ty22 rfl (List.length_map _) (zB rfl)) ?_
     refine zD (zC rfl (zB rfl)) (zD (zC rfl (zB rfl)) (zD (yA (u:=.lst .ro 1 (zE q)) rfl ty42 rfl rfl (Int.natCast_nonneg _) hqu cl22 (zB rfl)) ?_))
     refine zn [(5,.lst .ro 1 (zAE L)),(6,.int .i64 ↑bi),(7,.int .i64 le),(8,.int .i64 ↑i),(31,.int .i64 ↑(List.length P1)),(34,U.eref [.lst .ro 1 (zE q)] 0)] [] ([SB.box (Ln.cs l)]) (.n6 rfl) rfl rfl fun fr=>?_
     refine zf rfl (kC sh22 rfl (zB rfl)) ?_
     refine zDO rfl (q65b) (.lrefl _) ?_
     refine zf rfl (zq rfl ty22 rfl (List.length_map _) (zB rfl)) ?_
     refine zD (o_sub rfl rfl rfl (by unfold I64;omega) (zB rfl)) ?_
     refine zD (zN rfl (q44) (.lrefl _) (zB rfl)) ?_
     refine zD (zA rfl (zB rfl)) ?_
     refine wm ?_
     refine zH [(5,.lst .ro 1 (zAE L)),(6,.int .i64 ↑bi),(7,.int .i64 le),(8,.int .i64 ↑i),(9,.int .i64 dq)] ([SB.box (Ln.cs l)]) (.n5 rfl) rfl fun fr=>?_
     refine kQ (zC rfl (zC rfl (kp rfl (zB (k_cF rfl (kG (by omega)) (zL (k_region (zC rfl ?_))))))))
     refine kz rfl (by unfold I64;omega) (zA rfl (zB ?_))
     exact⟨kk - 1,by omega,i+1,bi,le,by omega,.inr (hnot c),rfl,.c4 rfl rfl rfl rfl (.nil rfl)⟩
   ·have hie:i=L.length:=by omega
    subst hie
    rcases hor with ⟨e,_⟩|⟨b,e1,e2,_⟩
    ·omega
    ·rw[List.take_length,hb]at e1
     cases e1
     have hbu:(zAE L)[bi]? =some (.lst .ro 1 (zE b0)):=by rw[List.getElem?_map,e2];rfl
     refine zH _ _ hs3 hst3 fun fr3=>?_
     refine k_seq (kQ (zC rfl (zC rfl (zq rfl ty42 rfl (List.length_map _) ?_))))
     refine kp rfl (zB (k_cF rfl (kG (by omega)) (zj (kQ (zC rfl (zC rfl (yA (u:=.lst .ro 1 (zE b0)) rfl ty42 rfl rfl (Int.natCast_nonneg _) hbu cl22 ?_)))))))
     refine kC sh22 rfl ?_
     refine zA rfl (zA rfl (zB (zV ?_)))
     refine⟨.inr rfl,_,.cons _ _ _ _ (.tmp 2) (.cons _ _ _ _ (.tmp 3) .nil),?_⟩
     exact .refl _
end
end Go.Proofs.YthhbfbmfhldbaaaDoor.locks
