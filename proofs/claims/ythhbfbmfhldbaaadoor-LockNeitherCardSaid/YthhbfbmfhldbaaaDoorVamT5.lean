import Derived.Test.YthhbfbmfhldbaaaDoorVamT4
set_option linter.unusedVariables false
set_option linter.unusedSimpArgs false
set_option linter.constructorNameAsVariable false
namespace Go.Proofs.YthhbfbmfhldbaaaDoor.locks
open Vam
section
variable {is:FuncId→Bool}{orc:Known}{l:Ln}
noncomputable def b93:Code:=(Tryd.f93.body).getD .skip
theorem body93:bodyOf Tryd.prog 93=some (7,b93,[.tmp 2]):=by kernel_rfl
theorem pure93:pureFn Tryd.prog 93=true:=by kernel_rfl
theorem cl34:Program.cellsOf Tryd.prog 34=1:=by kernel_rfl
theorem sh34:shOf Tryd.prog 34=.one:=by kernel_rfl
theorem ty116:tyOf Tryd.prog 116=.slice 34:=by kernel_rfl
noncomputable def b56:Code:=(Tryd.f56.body).getD .skip
theorem body56:bodyOf Tryd.prog 56=some (23,b56,[.tmp 4]):=by kernel_rfl
theorem pure56:pureFn Tryd.prog 56=false:=by kernel_rfl
theorem ret93(hi:Off is)(w:Int):RetP Tryd.prog is orc 93 [.int .i64 w] (.bool (inS 0 1 w)):=by
 have q1:=ret77 (orc:=orc) hi 0 1 w
 refine yH body93 pure93 (hi 93 (by decide)) rfl rfl (wv (.int _ _ _)) (.inl (.bool _ _)) ?_
 refine kQ (zC rfl (zB (kQ (zBi (i:=4) (c:=2) (n:=7) sh99 rfl rfl zDg cl99 rfl rfl rfl (gatB 4 (by decide)) rfl ?_))))
 refine zA rfl (zK rfl (q1) (.lrefl _) (zC rfl (zB (za ?_))))
 refine⟨.inr rfl,_,.cons _ _ _ _ (.tmp 2) .nil,?_⟩
 exact .refl _
end
section
variable {is:FuncId→Bool}{orc:Known}{l:Ln}
structure Qs where
 g:Nat
 A:List U
 b:Bool
abbrev Qs.u(q:Qs):U:=.fn q.g q.A []
abbrev qsU(L:List Qs):List U:=L.map Qs.u
theorem nb_list{k:Kd}{z:Nat}{es:List U}(h:∀c∈yL es,NB c):NB (.lst k z es):=fun _ _ _ hv=>by
 cases hv with
 |nils=>exact .nils _ _
 |over _ _ cc h0 hk=>exact .over _ _ _ h0 hk
 |slice b off len cc sz m l1 l2 _ _ hb hd hl hc hle hk h0=>exact .slice b off len cc _ m l1 l2 _ _ hb hd (nbL h hl) hc hle hk h0
theorem nb_qs{L:List Qs}(h:∀q∈L,∀u∈q.A,NB u):∀c∈yL (qsU L),NB c:=fun c hc=>by
 obtain⟨e,he,hc⟩:=List.mem_flatMap.1 hc
 obtain⟨q,hq,rfl⟩:=List.mem_map.1 he
 rcases List.mem_singleton.1 hc with rfl
 exact NB.fn (h q hq) (fun u hu=>by cases hu)
def askI(l:Ln)(L:List Qs):Int:=if wN l=true then if L.all Qs.b=true then 0 else 71 else 70
theorem take_q{L:List Qs}{i:Nat}{q:Qs}(h:L[i]? =some q):(L.take (i+1)).all Qs.b=((L.take i).all Qs.b&&q.b):=take_all _ h
set_option maxHeartbeats 8000000 in
theorem ret56(hi:Off is)(l:Ln)(L:List Qs)(hn:∀q∈L,∀u∈q.A,NB u)(hr:wN l=true→∀(i:Nat) (q:Qs),L[i]? =some q→(L.take i).all Qs.b=true→RetP Tryd.prog is orc q.g q.A (.bool q.b))(hlen:L.length≤10):
  RetP Tryd.prog is orc 56 [l.u,.lst .ro 1 (qsU L)] (.int .i64 (askI l L)):=by
 have q17:=ret17 (orc:=orc) hi l
 refine zBe body56 pure56 rfl rfl (fun u hu=>?_) (.int _ _) ?_
 ·simp only[List.mem_cons,List.not_mem_nil,or_false]at hu
  rcases hu with rfl|rfl
  ·exact⟨(wV l 5).nb,NoOwn.of fun z es h=>by cases h⟩
  ·exact⟨nb_list (nb_qs hn),NoOwn.of fun z es h=>by cases h⟩
 unfold askI
 cases hv:wN l with
 |false=>
  rw[hv,if_neg (by decide)]at q17
  rw[if_neg (by decide)]
  refine kQ (yG rfl rfl (zC rfl (zB ?_)))
  refine zH [(1,.lst .ro 1 (qsU L)),(2,U.box 0 0)] ([SB.box [.lst .ro 1 (zE (Ln.slots l)),.int .i64 (Ln.left l),.int .i64 (Ln.right l),.int .i64 (Ln.run l)]]) (.n2 rfl) rfl fun fr=>?_
  refine k_seq (kQ (kC sh24 rfl (zK rfl (q17) (.lrefl _) (zC rfl (zB (kQ (zA rfl (ks rfl (zB (k_cT rfl rfl ?_))))))))))
  refine kQ (zA rfl (zC rfl (zB (za ?_))))
  refine⟨.inr rfl,_,.cons _ _ _ _ (.tmp 4) .nil,?_⟩
  exact .refl _
 |true=>
  rw[hv,if_pos rfl]at q17
  rw[if_pos rfl]
  generalize hz:(if L.all Qs.b=true then(0:Int)else 71)=z
  refine kQ (yG rfl rfl (zC rfl (zB ?_)))
  refine zH [(1,.lst .ro 1 (qsU L)),(2,U.box 0 0)] ([SB.box [.lst .ro 1 (zE (Ln.slots l)),.int .i64 (Ln.left l),.int .i64 (Ln.right l),.int .i64 (Ln.run l)]]) (.n2 rfl) rfl fun fr=>?_
  refine k_seq (kQ (kC sh24 rfl (zK rfl (q17) (.lrefl _) (zC rfl (zB (kQ (zA rfl (ks rfl (zB (k_cF rfl rfl ?_))))))))))
  refine zN (k_seq (kQ (zA rfl (zl rfl ty116 rfl (List.length_map _) ?_))))
  refine zA rfl (zB (zL ?_))
  refine wD (fun kk s2=>∃i:Nat,kk+i=L.length∧(L.take i).all Qs.b=true∧s2.st=[.box l.cs]∧Holds s2 [(13,.lst .ro 1 (qsU L)),(14,.int .i64 L.length),(15,.int .i64 i)]) (fun kk s2 hI=>?_) L.length _ ⟨0,rfl,rfl,rfl,.cons rfl (.n2 rfl)⟩
  obtain⟨i,hk,hall,hst2,hs2⟩:=hI
  refine zH _ _ hs2 hst2 fun fr2=>?_
  by_cases hin:i<L.length
  ·obtain⟨q,hq⟩:∃q,L[i]? =some q:=⟨L[i],List.getElem?_eq_getElem hin⟩
   have hqr:=hr hv i q hq hall
   have ht:=take_q hq
   rw[hall,Bool.true_and]at ht
   obtain⟨g,A,b⟩:=q
   have qc:RetP Tryd.prog is orc g (A++([]++[])) (.bool b):=by rw[List.append_nil,List.append_nil];exact hqr
   have eq:(qsU L)[i]? =some (.fn g A []):=by rw[List.getElem?_map,hq];rfl
   cases b with
   |true=>
    refine kQ (kq rfl (zB (k_seq (k_cT rfl (kG (by omega)) (zN (k_seq (zL (kQ (yR (u:=.fn g A []) rfl ty116 rfl rfl (Int.natCast_nonneg _) (by simpa using eq) cl34 ?_)))))))))
    refine kD sh34 rfl ?_
    refine zC rfl (zB (kQ (zA rfl (wZ rfl rfl qc (.lrefl _) ?_))))
    refine yE rfl rfl (zB (k_cF rfl rfl ?_))
    refine zN (k_region ?_)
    refine kA rfl (by unfold I64;omega) (zA rfl (zB ?_))
    exact⟨kk - 1,by omega,i+1,by omega,ht,rfl,.cons rfl (.n2 rfl)⟩
   |false=>
    have hz2:z=71:=by
     rw[←hz,if_neg]
     intro ha
     have:=(List.all_eq_true.1 ha) _ (List.mem_of_getElem? hq)
     cases this
    subst hz2
    refine kQ (kq rfl (zB (k_seq (k_cT rfl (kG (by omega)) (zN (k_seq (zL (kQ (yR (u:=.fn g A []) rfl ty116 rfl rfl (Int.natCast_nonneg _) (by simpa using eq) cl34 ?_)))))))))
    refine kD sh34 rfl ?_
    refine zC rfl (zB (kQ (zA rfl (wZ rfl rfl qc (.lrefl _) ?_))))
    refine yE rfl rfl (zB (k_cT rfl rfl ?_))
    refine kQ (zC rfl (zB (za ?_)))
    refine⟨.inr rfl,_,.cons _ _ _ _ (.tmp 4) .nil,?_⟩
    exact .refl _
  ·have hz2:z=0:=by
    rw[←hz,if_pos]
    rw[List.take_of_length_le (by omega)]at hall
    exact hall
   subst hz2
   refine kQ (kq rfl (zB (k_seq (k_cF rfl (kH (by omega)) (yJ (kQ (zC rfl (zB (za ?_)))))))))
   refine⟨.inr rfl,_,.cons _ _ _ _ (.tmp 4) .nil,?_⟩
   exact .refl _
end
section
variable {is:FuncId→Bool}{orc:Known}{l:Ln}
theorem zBq(S:List Bool):(zP S).map dg=zP S:=by
 induction S with
 |nil=>rfl
 |cons a S ih=>show dg (.bool a)::(zP S).map dg=_;rw[ih];rfl
end
section
variable {is:FuncId→Bool}{orc:Known}{l:Ln}
end
end Go.Proofs.YthhbfbmfhldbaaaDoor.locks
