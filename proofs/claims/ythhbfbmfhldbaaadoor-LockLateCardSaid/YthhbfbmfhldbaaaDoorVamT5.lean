import Derived.Test.YthhbfbmfhldbaaaDoorVamT4
set_option linter.unusedVariables false
set_option linter.unusedSimpArgs false
set_option linter.constructorNameAsVariable false
namespace Go.Proofs.YthhbfbmfhldbaaaDoor.locks
open Vam
section
variable {is:FuncId→Bool}{orc:Known}{l:Ln}
noncomputable def b93:Code:=(Tryd.f93.body).getD .skip
theorem body93:bodyOf Tryd.prog 93=some (7,b93,[.tmp 2]):=by kernel_rfl
theorem pure93:pureFn Tryd.prog 93=true:=by kernel_rfl
noncomputable def b99:Code:=(Tryd.f99.body).getD .skip
theorem body99:bodyOf Tryd.prog 99=some (25,b99,[.tmp 4]):=by kernel_rfl
theorem pure99:pureFn Tryd.prog 99=true:=by kernel_rfl
theorem cl34:Program.cellsOf Tryd.prog 34=1:=by kernel_rfl
theorem sh34:shOf Tryd.prog 34=.one:=by kernel_rfl
theorem zGq:tyOf Tryd.prog 116=.slice 34:=by kernel_rfl
noncomputable def b56:Code:=(Tryd.f56.body).getD .skip
theorem body56:bodyOf Tryd.prog 56=some (23,b56,[.tmp 4]):=by kernel_rfl
theorem pure56:pureFn Tryd.prog 56=false:=by kernel_rfl
theorem ret93(hi:Off is)(w:Int):RetP Tryd.prog is orc 93 [.int .i64 w] (.bool (inS 0 1 w)):=by
 have q1:=ret77 (orc:=orc) hi 0 1 w
 refine yH body93 pure93 (hi 93 (by decide)) rfl rfl (wk (.int _ _ _)) (.inl (.bool _ _)) ?_
 refine kQ (zC rfl (zB (kQ (zCK (i:=4) (c:=2) (n:=7) sh99 rfl rfl zDq cl99 rfl rfl rfl (gatB 4 (by decide)) rfl ?_))))
 refine zA rfl (zN rfl (q1) (.lrefl _) (zC rfl (zB (zY ?_))))
 refine⟨.inr rfl,_,.cons _ _ _ _ (.tmp 2) .nil,?_⟩
 exact .refl _
set_option maxHeartbeats 8000000 in
theorem ret99(hi:Off is){n:Nat}(hn:n≤16)(L:List Int):RetP Tryd.prog is orc 99 [.lst .ro 1 (zE L),.int .i64 n] (.bool (grwB (-1) n L)):=by
 refine yH body99 pure99 (hi 99 (by decide)) rfl rfl (wE (yK 6 .ro (fun h=>by cases h) 1 L) (.int _ _ _)) (.inl (.bool _ _)) ?_
 generalize hz:grwB (-1) n L=z
 refine kQ (zC rfl (zB (kQ (zC rfl (zB (k_seq (kQ (zA rfl (zk rfl ty22 rfl (List.length_map _) ?_)))))))))
 refine zA rfl (zB (zG ?_))
 refine yZ (fun kk s2=>∃i:Nat,kk+i=L.length∧z=grwB (lstI L i) n (L.drop i)∧(i:Int)≤lstI L i+1∧lstI L i<16∧s2.st=[]∧Holds s2 [(1,.int .i64 n),(5,.int .i64 (lstI L i+1)),(8,.lst .ro 1 (zE L)),(9,.int .i64 L.length),(10,.int .i64 i)]) (fun kk s2 hI=>?_) L.length _ ⟨0,rfl,hz.symm,(by show(0:Int)≤ -1+1;omega),(by show(-1:Int)<16;omega),rfl,.c4 rfl rfl rfl rfl (.n1 rfl)⟩
 obtain⟨i,hk,hw,hb1,hb2,hst2,hs2⟩:=hI
 clear hz
 have hln:∀x,L[i]? =some x→lstI L (i+1)=x:=fun x hx=>by show(L[i]?).getD 0=x;rw[hx];rfl
 generalize lstI L i=p at*
 refine zH _ _ hs2 hst2 fun fr2=>?_
 by_cases hin:i<L.length
 ·obtain⟨x,hx⟩:∃x,L[i]? =some x:=⟨L[i],List.getElem?_eq_getElem hin⟩
  have hl2:=hln x hx
  rw[drop_at hx]at hw
  have hw:z=(decide (p<x)&&(decide (x<(n:Int))&&grwB x n (L.drop (i+1)))):=hw
  by_cases c1:p<x
  ·rw[kF c1,Bool.true_and]at hw
   by_cases c2:x<n
   ·rw[kF c2,Bool.true_and]at hw
    refine kQ (kp rfl (zB (k_seq (k_cT rfl (kF (by omega)) (zK (k_seq (zG (kQ (zf (u:=.int .i64 (x)) rfl ty22 rfl rfl (Int.natCast_nonneg _) (by simp[hx]) cl3 ?_)))))))))
    refine kC sh3 rfl ?_
    refine zC rfl (zB (k_seq (kQ (zA rfl (zA rfl (kp rfl (zA rfl (kh rfl (kG (by omega)) (zA rfl (kh rfl (kG (by omega)) (zA rfl (kh rfl (kG (by omega)) (zGK rfl rfl rfl (zx rfl rfl (kG (by omega)) ?_))))))))))))))
    refine zB ?_
    refine zH [(1,.int .i64 ↑n),(7,.int .i64 x),(8,.lst .ro 1 (zE L)),(9,.int .i64 ↑(List.length L)),(10,.int .i64 ↑i),(21,U.bool (decide (↑n≤x)))] ([]) (.n6 rfl) rfl fun fr=>?_
    refine k_cF rfl (kG (by omega)) (zK (k_region (zA rfl ?_)))
    refine kz rfl (by unfold I64;omega) (zC rfl (zB (k_region ?_)))
    refine kz rfl (by unfold I64;omega) (zA rfl (zB ?_))
    exact⟨kk - 1,by omega,i+1,by omega,by rw[hl2];exact hw,by omega,by omega,rfl,.cons rfl (.cons (by rw[hl2];rfl) (.n3 rfl))⟩
   ·rw[kG c2,Bool.false_and]at hw
    obtain rfl:z=false:=hw
    refine kQ (kp rfl (zB (k_seq (k_cT rfl (kF (by omega)) (zK (k_seq (zG (kQ (zf (u:=.int .i64 (x)) rfl ty22 rfl rfl (Int.natCast_nonneg _) (by simp[hx]) cl3 ?_)))))))))
    refine kC sh3 rfl ?_
    refine zC rfl (zB (k_seq (kQ (zA rfl (zA rfl (kp rfl (zA rfl (kh rfl (kG (by omega)) (zA rfl (kh rfl (kG (by omega)) (zA rfl (kh rfl (kG (by omega)) (zGK rfl rfl rfl (zx rfl rfl (kG (by omega)) ?_))))))))))))))
    refine zB ?_
    refine zH [(1,.int .i64 ↑n),(7,.int .i64 x),(8,.lst .ro 1 (zE L)),(9,.int .i64 ↑(List.length L)),(10,.int .i64 ↑i),(21,U.bool (decide (↑n≤x)))] ([]) (.n6 rfl) rfl fun fr=>?_
    refine k_cT rfl (kF (by omega)) (kQ (zC rfl (zB (zY ?_))))
    refine⟨.inr rfl,_,.cons _ _ _ _ (.tmp 4) .nil,?_⟩
    exact .refl _
  ·rw[kG c1,Bool.false_and]at hw
   obtain rfl:z=false:=hw
   refine kQ (kp rfl (zB (k_seq (k_cT rfl (kF (by omega)) (zK (k_seq (zG (kQ (zf (u:=.int .i64 (x)) rfl ty22 rfl rfl (Int.natCast_nonneg _) (by simp[hx]) cl3 ?_)))))))))
   refine kC sh3 rfl ?_
   refine zC rfl (zB (k_seq (kQ (zA rfl (zA rfl (kp rfl (zA rfl (kg rfl (kF (by omega)) (kg rfl (kF (by omega)) (kg rfl (kF (by omega)) (zj rfl rfl (kF (by omega)) ?_)))))))))))
   refine zB ?_
   refine zH [(1,.int .i64 ↑n),(7,.int .i64 x),(8,.lst .ro 1 (zE L)),(9,.int .i64 ↑(List.length L)),(10,.int .i64 ↑i),(21,.bool true)] ([]) (.n6 rfl) rfl fun fr=>?_
   refine k_cT rfl rfl ?_
   refine kQ (zC rfl (zB (zY ?_)))
   refine⟨.inr rfl,_,.cons _ _ _ _ (.tmp 4) .nil,?_⟩
   exact .refl _
 ·have hd:L.drop i=[]:=List.drop_eq_nil_of_le (by omega)
  rw[hd]at hw
  obtain rfl:z=true:=hw
  refine kQ (kp rfl (zB (k_seq (k_cF rfl (kG (by omega)) (zp (kQ (zC rfl (zB (zY ?_)))))))))
  refine⟨.inr rfl,_,.cons _ _ _ _ (.tmp 4) .nil,?_⟩
  exact .refl _
end
section
variable {is:FuncId→Bool}{orc:Known}{l:Ln}
structure Qs where
 g:Nat
 A:List U
 b:Bool
abbrev Qs.u(q:Qs):U:=.fn q.g q.A []
abbrev qsU(L:List Qs):List U:=L.map Qs.u
theorem nb_list{k:Kd}{z:Nat}{es:List U}(h:∀c∈yC es,NB c):NB (.lst k z es):=fun _ _ _ hv=>by
 cases hv with
 |nils=>exact .nils _ _
 |over _ _ cc h0 hk=>exact .over _ _ _ h0 hk
 |slice b off len cc sz m l1 l2 _ _ hb hd hl hc hle hk h0=>exact .slice b off len cc _ m l1 l2 _ _ hb hd (nbL h hl) hc hle hk h0
theorem nb_qs{L:List Qs}(h:∀q∈L,∀u∈q.A,NB u):∀c∈yC (qsU L),NB c:=fun c hc=>by
 obtain⟨e,he,hc⟩:=List.mem_flatMap.1 hc
 obtain⟨q,hq,rfl⟩:=List.mem_map.1 he
 rcases List.mem_singleton.1 hc with rfl
 exact NB.fn (h q hq) (fun u hu=>by cases hu)
def askI(l:Ln)(L:List Qs):Int:=if wL l=true then if L.all Qs.b=true then 0 else 71 else 70
theorem take_q{L:List Qs}{i:Nat}{q:Qs}(h:L[i]? =some q):(L.take (i+1)).all Qs.b=((L.take i).all Qs.b&&q.b):=take_all _ h
set_option maxHeartbeats 8000000 in
theorem ret56(hi:Off is)(l:Ln)(L:List Qs)(hn:∀q∈L,∀u∈q.A,NB u)(hr:wL l=true→∀(i:Nat) (q:Qs),L[i]? =some q→(L.take i).all Qs.b=true→RetP Tryd.prog is orc q.g q.A (.bool q.b))(hlen:L.length≤10):
  RetP Tryd.prog is orc 56 [l.u,.lst .ro 1 (qsU L)] (.int .i64 (askI l L)):=by
 have q17:=ret17 (orc:=orc) hi l
 refine zAx body56 pure56 rfl rfl (fun u hu=>?_) (.int _ _) ?_
 ·simp only[List.mem_cons,List.not_mem_nil,or_false]at hu
  rcases hu with rfl|rfl
  ·exact⟨(wa l 5).nb,NoOwn.of fun z es h=>by cases h⟩
  ·exact⟨nb_list (nb_qs hn),NoOwn.of fun z es h=>by cases h⟩
 unfold askI
 cases hv:wL l with
 |false=>
  rw[hv,if_neg (by decide)]at q17
  rw[if_neg (by decide)]
  refine kQ (yB rfl rfl (zC rfl (zB ?_)))
  refine zH [(1,.lst .ro 1 (qsU L)),(2,U.box 0 0)] ([SB.box [.lst .ro 1 (zE (Ln.slots l)),.int .i64 (Ln.left l),.int .i64 (Ln.right l),.int .i64 (Ln.run l)]]) (.n2 rfl) rfl fun fr=>?_
  refine k_seq (kQ (kB sh24 rfl (zN rfl (q17) (.lrefl _) (zC rfl (zB (kQ (zA rfl (kr rfl (zB (k_cT rfl rfl ?_))))))))))
  refine kQ (zA rfl (zC rfl (zB (zY ?_))))
  refine⟨.inr rfl,_,.cons _ _ _ _ (.tmp 4) .nil,?_⟩
  exact .refl _
 |true=>
  rw[hv,if_pos rfl]at q17
  rw[if_pos rfl]
  generalize hz:(if L.all Qs.b=true then(0:Int)else 71)=z
  refine kQ (yB rfl rfl (zC rfl (zB ?_)))
  refine zH [(1,.lst .ro 1 (qsU L)),(2,U.box 0 0)] ([SB.box [.lst .ro 1 (zE (Ln.slots l)),.int .i64 (Ln.left l),.int .i64 (Ln.right l),.int .i64 (Ln.run l)]]) (.n2 rfl) rfl fun fr=>?_
  refine k_seq (kQ (kB sh24 rfl (zN rfl (q17) (.lrefl _) (zC rfl (zB (kQ (zA rfl (kr rfl (zB (k_cF rfl rfl ?_))))))))))
  refine zK (k_seq (kQ (zA rfl (zk rfl zGq rfl (List.length_map _) ?_))))
  refine zA rfl (zB (zG ?_))
  refine yZ (fun kk s2=>∃i:Nat,kk+i=L.length∧(L.take i).all Qs.b=true∧s2.st=[.box l.cs]∧Holds s2 [(13,.lst .ro 1 (qsU L)),(14,.int .i64 L.length),(15,.int .i64 i)]) (fun kk s2 hI=>?_) L.length _ ⟨0,rfl,rfl,rfl,.cons rfl (.n2 rfl)⟩
  obtain⟨i,hk,hall,hst2,hs2⟩:=hI
  refine zH _ _ hs2 hst2 fun fr2=>?_
  by_cases hin:i<L.length
  ·obtain⟨q,hq⟩:∃q,L[i]? =some q:=⟨L[i],List.getElem?_eq_getElem hin⟩
   have hqr:=hr hv i q hq hall
   have ht:=take_q hq
   rw[hall,Bool.true_and]at ht
   obtain⟨g,A,b⟩:=q
   have qc:RetP Tryd.prog is orc g (A++([]++[])) (.bool b):=by rw[List.append_nil,List.append_nil];exact hqr
   have eq:(qsU L)[i]? =some (.fn g A []):=by rw[List.getElem?_map,hq];rfl
   cases b with
   |true=>
    refine kQ (kp rfl (zB (k_seq (k_cT rfl (kF (by omega)) (zK (k_seq (zG (kQ (zf (u:=.fn g A []) rfl zGq rfl rfl (Int.natCast_nonneg _) (by simpa using eq) cl34 ?_)))))))))
    refine kC sh34 rfl ?_
    refine zC rfl (zB (kQ (zA rfl (wm rfl rfl qc (.lrefl _) ?_))))
    refine yN rfl rfl (zB (k_cF rfl rfl ?_))
    refine zK (k_region ?_)
    refine kz rfl (by unfold I64;omega) (zA rfl (zB ?_))
    exact⟨kk - 1,by omega,i+1,by omega,ht,rfl,.cons rfl (.n2 rfl)⟩
   |false=>
    have hz2:z=71:=by
     rw[←hz,if_neg]
     intro ha
     have:=(List.all_eq_true.1 ha) _ (List.mem_of_getElem? hq)
     cases this
    subst hz2
    refine kQ (kp rfl (zB (k_seq (k_cT rfl (kF (by omega)) (zK (k_seq (zG (kQ (zf (u:=.fn g A []) rfl zGq rfl rfl (Int.natCast_nonneg _) (by simpa using eq) cl34 ?_)))))))))
    refine kC sh34 rfl ?_
    refine zC rfl (zB (kQ (zA rfl (wm rfl rfl qc (.lrefl _) ?_))))
    refine yN rfl rfl (zB (k_cT rfl rfl ?_))
    refine kQ (zC rfl (zB (zY ?_)))
    refine⟨.inr rfl,_,.cons _ _ _ _ (.tmp 4) .nil,?_⟩
    exact .refl _
  ·have hz2:z=0:=by
    rw[←hz,if_pos]
    rw[List.take_of_length_le (by omega)]at hall
    exact hall
   subst hz2
   refine kQ (kp rfl (zB (k_seq (k_cF rfl (kG (by omega)) (zp (kQ (zC rfl (zB (zY ?_)))))))))
   refine⟨.inr rfl,_,.cons _ _ _ _ (.tmp 4) .nil,?_⟩
   exact .refl _
end
section
variable {is:FuncId→Bool}{orc:Known}{l:Ln}
theorem zDn(S:List Bool):(zR S).map dg=zR S:=by
 induction S with
 |nil=>rfl
 |cons a S ih=>show dg (.bool a)::(zR S).map dg=_;rw[ih];rfl
end
section
variable {is:FuncId→Bool}{orc:Known}{l:Ln}
end
end Go.Proofs.YthhbfbmfhldbaaaDoor.locks
