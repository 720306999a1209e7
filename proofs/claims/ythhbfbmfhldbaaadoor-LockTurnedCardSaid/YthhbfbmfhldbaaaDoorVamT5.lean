import Derived.Test.YthhbfbmfhldbaaaDoorVamT4
set_option linter.unusedVariables false
set_option linter.unusedSimpArgs false
set_option linter.constructorNameAsVariable false
namespace Go.Proofs.YthhbfbmfhldbaaaDoor.locks
open Vam
section
variable {is:FuncId→Bool}{orc:Known}{l:Ln}
theorem cl34:Program.cellsOf Tryd.prog 34=1:=by kernel_rfl
theorem sh34:shOf Tryd.prog 34=.one:=by kernel_rfl
theorem ty116:tyOf Tryd.prog 116=.slice 34:=by kernel_rfl
noncomputable def b56:Code:=(Tryd.f56.body).getD .skip
theorem body56:bodyOf Tryd.prog 56=some (23,b56,[.tmp 4]):=by kernel_rfl
theorem pure56:pureFn Tryd.prog 56=false:=by kernel_rfl
end
section
variable {is:FuncId→Bool}{orc:Known}{l:Ln}
noncomputable def b67:Code:=(Tryd.f67.body).getD .skip
theorem body67:bodyOf Tryd.prog 67=some (22,b67,[.cell 4 83]):=by kernel_rfl
theorem pure67:pureFn Tryd.prog 67=true:=by kernel_rfl
noncomputable def b69:Code:=(Tryd.f69.body).getD .skip
theorem body69:bodyOf Tryd.prog 69=some (23,b69,[.tmp 2]):=by kernel_rfl
theorem pure69:pureFn Tryd.prog 69=true:=by kernel_rfl
structure Qs where
 g:Nat
 A:List U
 b:Bool
abbrev Qs.u(q:Qs):U:=.fn q.g q.A []
abbrev qsU(L:List Qs):List U:=L.map Qs.u
theorem nb_list{k:Kd}{z:Nat}{es:List U}(h:∀c∈zl es,NB c):NB (.lst k z es):=fun _ _ _ hv=>by
 cases hv with
 |nils=>exact .nils _ _
 |over _ _ cc h0 hk=>exact .over _ _ _ h0 hk
 |slice b off len cc sz m l1 l2 _ _ hb hd hl hc hle hk h0=>exact .slice b off len cc _ m l1 l2 _ _ hb hd (nbL h hl) hc hle hk h0
theorem nb_qs{L:List Qs}(h:∀q∈L,∀u∈q.A,NB u):∀c∈zl (qsU L),NB c:=fun c hc=>by
 obtain⟨e,he,hc⟩:=List.mem_flatMap.1 hc
 obtain⟨q,hq,rfl⟩:=List.mem_map.1 he
 rcases List.mem_singleton.1 hc with rfl
 exact NB.fn (h q hq) (fun u hu=>by cases hu)
def askI(l:Ln)(L:List Qs):Int:=if yz l=true then if L.all Qs.b=true then 0 else 71 else 70
theorem take_q{L:List Qs}{i:Nat}{q:Qs}(h:L[i]? =some q):(L.take (i+1)).all Qs.b=((L.take i).all Qs.b&&q.b):=take_all _ h
set_option maxHeartbeats 8000000 in
theorem ret56(hi:Off is)(l:Ln)(L:List Qs)(hn:∀q∈L,∀u∈q.A,NB u)(hr:yz l=true→∀(i:Nat) (q:Qs),L[i]? =some q→(L.take i).all Qs.b=true→RetP Tryd.prog is orc q.g q.A (.bool q.b))(hlen:L.length≤10):
  RetP Tryd.prog is orc 56 [l.u,.lst .ro 1 (qsU L)] (.int .i64 (askI l L)):=by
 have q17:=ret17 (orc:=orc) hi l
 refine zBi body56 pure56 rfl rfl (fun u hu=>?_) (.int _ _) ?_
 ·simp only[List.mem_cons,List.not_mem_nil,or_false]at hu
  rcases hu with rfl|rfl
  ·exact⟨(wq l 5).nb,NoOwn.of fun z es h=>by cases h⟩
  ·exact⟨nb_list (nb_qs hn),NoOwn.of fun z es h=>by cases h⟩
 unfold askI
 cases hv:yz l with
 |false=>
  rw[hv,if_neg (by decide)]at q17
  rw[if_neg (by decide)]
  refine kQ (yG rfl rfl (zB rfl (zA ?_)))
  refine zM [(1,.lst .ro 1 (qsU L)),(2,U.box 0 0)] ([SB.box [.lst .ro 1 (zF (Ln.slots l)),.int .i64 (Ln.left l),.int .i64 (Ln.right l),.int .i64 (Ln.run l)]]) (.n2 rfl) rfl fun fr=>?_
  refine k_seq (kQ (kB sh24 rfl (zQ rfl (q17) (.lrefl _) (zB rfl (zA (kQ (zC rfl (kr rfl (zA (k_cT rfl rfl ?_))))))))))
  refine kQ (zC rfl (zB rfl (zA (zk ?_))))
  refine⟨.inr rfl,_,.cons _ _ _ _ (.tmp 4) .nil,?_⟩
  exact .refl _
 |true=>
  rw[hv,if_pos rfl]at q17
  rw[if_pos rfl]
  generalize hz:(if L.all Qs.b=true then(0:Int)else 71)=z
  refine kQ (yG rfl rfl (zB rfl (zA ?_)))
  refine zM [(1,.lst .ro 1 (qsU L)),(2,U.box 0 0)] ([SB.box [.lst .ro 1 (zF (Ln.slots l)),.int .i64 (Ln.left l),.int .i64 (Ln.right l),.int .i64 (Ln.run l)]]) (.n2 rfl) rfl fun fr=>?_
  refine k_seq (kQ (kB sh24 rfl (zQ rfl (q17) (.lrefl _) (zB rfl (zA (kQ (zC rfl (kr rfl (zA (k_cF rfl rfl ?_))))))))))
  refine zU (k_seq (kQ (zC rfl (yy rfl ty116 rfl (List.length_map _) ?_))))
  refine zC rfl (zA (zO ?_))
  refine wZ (fun kk s2=>∃i:Nat,kk+i=L.length∧(L.take i).all Qs.b=true∧s2.st=[.box l.cs]∧Holds s2 [(13,.lst .ro 1 (qsU L)),(14,.int .i64 L.length),(15,.int .i64 i)]) (fun kk s2 hI=>?_) L.length _ ⟨0,rfl,rfl,rfl,.cons rfl (.n2 rfl)⟩
  obtain⟨i,hk,hall,hst2,hs2⟩:=hI
  refine zM _ _ hs2 hst2 fun fr2=>?_
  by_cases hin:i<L.length
  ·obtain⟨q,hq⟩:∃q,L[i]? =some q:=⟨L[i],List.getElem?_eq_getElem hin⟩
   have hqr:=hr hv i q hq hall
   have ht:=take_q hq
   rw[hall,Bool.true_and]at ht
   obtain⟨g,A,b⟩:=q
   have qc:RetP Tryd.prog is orc g (A++([]++[])) (.bool b):=by rw[List.append_nil,List.append_nil];exact hqr
   have eq:(qsU L)[i]? =some (.fn g A []):=by rw[List.getElem?_map,hq];rfl
   cases b with
   |true=>
    refine kQ (kp rfl (zA (k_seq (k_cT rfl (kF (by omega)) (zU (k_seq (zO (kQ (zBm (u:=.fn g A []) rfl ty116 rfl rfl (Int.natCast_nonneg _) (by simpa using eq) cl34 ?_)))))))))
    refine kC sh34 rfl ?_
    refine zB rfl (zA (kQ (zC rfl (zBC rfl rfl qc (.lrefl _) ?_))))
    refine zAY rfl rfl (zA (k_cF rfl rfl ?_))
    refine zU (k_region ?_)
    refine kz rfl (by unfold I64;omega) (zC rfl (zA ?_))
    exact⟨kk - 1,by omega,i+1,by omega,ht,rfl,.cons rfl (.n2 rfl)⟩
   |false=>
    have hz2:z=71:=by
     rw[←hz,if_neg]
     intro ha
     have:=(List.all_eq_true.1 ha) _ (List.mem_of_getElem? hq)
     cases this
    subst hz2
    refine kQ (kp rfl (zA (k_seq (k_cT rfl (kF (by omega)) (zU (k_seq (zO (kQ (zBm (u:=.fn g A []) rfl ty116 rfl rfl (Int.natCast_nonneg _) (by simpa using eq) cl34 ?_)))))))))
    refine kC sh34 rfl ?_
    refine zB rfl (zA (kQ (zC rfl (zBC rfl rfl qc (.lrefl _) ?_))))
    refine zAY rfl rfl (zA (k_cT rfl rfl ?_))
    refine kQ (zB rfl (zA (zk ?_)))
    refine⟨.inr rfl,_,.cons _ _ _ _ (.tmp 4) .nil,?_⟩
    exact .refl _
  ·have hz2:z=0:=by
    rw[←hz,if_pos]
    rw[List.take_of_length_le (by omega)]at hall
    exact hall
   subst hz2
   refine kQ (kp rfl (zA (k_seq (k_cF rfl (kG (by omega)) (yW (kQ (zB rfl (zA (zk ?_)))))))))
   refine⟨.inr rfl,_,.cons _ _ _ _ (.tmp 4) .nil,?_⟩
   exact .refl _
end
section
variable {is:FuncId→Bool}{orc:Known}{l:Ln}
theorem zBO(S:List Bool):(zJ S).map dg=zJ S:=by
 induction S with
 |nil=>rfl
 |cons a S ih=>show dg (.bool a)::(zJ S).map dg=_;rw[ih];rfl
def woF(f g:Nat→Bool)(k:Nat):Bool:=f k&& !g k
set_option maxHeartbeats 8000000 in
theorem ret67(hi:Off is)(f g:Nat→Bool):RetP Tryd.prog is orc 67 [.agg (zJ (b16 f)),.agg (zJ (b16 g))] (.agg (zJ (b16 (woF f g)))):=by
 refine yY body67 pure67 (hi 67 (by decide)) rfl rfl (zAs (wE _ 6) (wE _ 6)) (.inl (wE _ 6)) ?_
 refine kQ (yG rfl rfl (yG rfl rfl (yQ rfl ze83 ?_)))
 refine zA ?_
 refine zM [(2,U.box 0 0),(3,U.box 1 0),(4,U.box 2 0)] ([SB.box [U.bool (f (nat_lit 0)),U.bool (f (nat_lit 1)),U.bool (f (nat_lit 2)),U.bool (f (nat_lit 3)),U.bool (f (nat_lit 4)),U.bool (f (nat_lit 5)),U.bool (f (nat_lit 6)),U.bool (f (nat_lit 7)),U.bool (f (nat_lit 8)),U.bool (f (nat_lit 9)),U.bool (f (nat_lit 10)),U.bool (f (nat_lit 11)),U.bool (f (nat_lit 12)),U.bool (f (nat_lit 13)),U.bool (f (nat_lit 14)),U.bool (f (nat_lit 15))],SB.box [U.bool (g (nat_lit 0)),U.bool (g (nat_lit 1)),U.bool (g (nat_lit 2)),U.bool (g (nat_lit 3)),U.bool (g (nat_lit 4)),U.bool (g (nat_lit 5)),U.bool (g (nat_lit 6)),U.bool (g (nat_lit 7)),U.bool (g (nat_lit 8)),U.bool (g (nat_lit 9)),U.bool (g (nat_lit 10)),U.bool (g (nat_lit 11)),U.bool (g (nat_lit 12)),U.bool (g (nat_lit 13)),U.bool (g (nat_lit 14)),U.bool (g (nat_lit 15))],SB.box [.bool false,.bool false,.bool false,.bool false,.bool false,.bool false,.bool false,.bool false,.bool false,.bool false,.bool false,.bool false,.bool false,.bool false,.bool false,.bool false]]) (.n3 rfl) rfl fun fr=>?_
 refine k_seq (kQ (zC rfl (zA (zO ?_))))
 refine wZ (fun kk s2=>∃i:Nat,kk+i=16∧s2.st=[.box (zJ (b16 fun k=>if k<i then woF f g k else f k)),.box (zJ (b16 g)),.box (zJ (b16 fun _=>false))]∧Holds s2 [(2,.box 0 0),(3,.box 1 0),(4,.box 2 0),(6,.int .i64 i)]) (fun kk s2 hI=>?_) 16 _ ⟨0,rfl,rfl,.c4 rfl rfl rfl rfl (.nil rfl)⟩
 obtain⟨i,hk,hst2,hs2⟩:=hI
 have hat:i<16→(b16 fun k=>if k<i then woF f g k else f k)[i]? =some (f i):=fun h=>by rw[zCa h,if_neg (by omega)]
 have hag:i<16→(b16 g)[i]? =some (g i):=fun h=>zCa h
 have hsu:∀v,v=woF f g i→(b16 fun k=>if k<i then woF f g k else f k).set i v=b16 fun k=>if k<i+1 then woF f g k else f k:=fun v hv=>by
  rw[zFw]
  refine zCZ fun k _=>?_
  by_cases e:k=i
  ·subst e;rw[if_pos rfl,if_pos (by omega),hv]
  ·rw[if_neg e]
   by_cases h:k<i
   ·rw[if_pos h,if_pos (by omega)]
   ·rw[if_neg h,if_neg (by omega)]
 obtain⟨T,hT⟩:∃T,T=b16 g:=⟨_,rfl⟩
 have hSe:i=16→(b16 fun k=>if k<i then woF f g k else f k)=b16 (woF f g):=fun h=>zCZ fun k hk=>by rw[if_pos (by omega)]
 obtain⟨S,hS⟩:∃S,S=b16 fun k=>if k<i then woF f g k else f k:=⟨_,rfl⟩
 have hSl:S.length=16:=by rw[hS,zw]
 have hTl:T.length=16:=by rw[hT,zw]
 rw[←hS,←hT]at hst2
 rw[←hS]at hat hsu hSe
 rw[←hT]at hag
 refine zM _ _ hs2 hst2 fun fr2=>?_
 by_cases hin:i<16
 ·have h1:=zBu (hat hin)
  have h2:=zBu (hag hin)
  have hbl:Nat.blt (0+(i:Int).toNat*1) (zJ S).length=true:=by rw[Nat.blt_eq];simp[hSl];omega
  have h1':(zJ S)[0+(i:Int).toNat*1]? =some (.bool (f i)):=by rw[show 0+(i:Int).toNat*1=i by omega];exact h1
  have h2':(zJ T)[0+(i:Int).toNat*1]? =some (.bool (g i)):=by rw[show 0+(i:Int).toNat*1=i by omega];exact h2
  have hw:woF f g i=(f i&& !g i):=rfl
  have hgo:∀v,v=woF f g i→([SB.box ((zJ S).set (0+(i:Int).toNat*1) (.bool v)),.box (zJ T),.box (zJ (b16 fun _=>false))]:List SB)=[.box (zJ (b16 fun k=>if k<i+1 then woF f g k else f k)),.box (zJ (b16 g)),.box (zJ (b16 fun _=>false))]:=fun v hv=>by rw[bols_st,hsu v hv,hT]
  clear hsu hSe hat hag h1 h2
  generalize f i=z1 at*
  generalize g i=z2 at*
  cases z1 with
  |false=>
   refine kQ (kp rfl (zA (k_seq (k_cT rfl (kF (by omega)) (zU (k_seq (zO (kQ (zC rfl (zB rfl (zA (k_region (zC rfl (zC rfl (yV rfl ty83 rfl rfl (by omega) (by omega) cl4 ?_)))))))))))))))
   refine zo rfl rfl rfl sh4 h1' ?_
   refine zC rfl (ke rfl (ke rfl (ke rfl (ke rfl (kD rfl ?_)))))
   refine yV rfl ty83 rfl rfl (by omega) (by omega) cl4 ?_
   refine ye rfl rfl sh4 hbl rfl ?_
   refine zA ?_
   refine zM [(2,U.box 0 0),(3,U.box 1 0),(4,U.box 2 0),(6,.int .i64 ↑i)] ([SB.box (List.set (zJ S) (0+Int.toNat ↑i*1) (.bool false)),SB.box (zJ T),SB.box (zJ (b16 fun x ↦ Bool.false))]) (.n4 rfl) rfl fun fr=>?_
   refine k_region ?_
   refine kz rfl (by unfold I64;omega) (zC rfl (zA ?_))
   exact⟨kk - 1,by omega,i+1,by omega,hgo _ hw.symm,.c4 rfl rfl rfl rfl (.nil rfl)⟩
  |true=>
   refine kQ (kp rfl (zA (k_seq (k_cT rfl (kF (by omega)) (zU (k_seq (zO (kQ (zC rfl (zB rfl (zA (k_region (zC rfl (zC rfl (yV rfl ty83 rfl rfl (by omega) (by omega) cl4 ?_)))))))))))))))
   refine zo rfl rfl rfl sh4 h1' ?_
   refine zC rfl (kf rfl (zC rfl (kf rfl (yV rfl ty83 rfl rfl (by omega) (by omega) cl4 ?_))))
   refine kf rfl (zo rfl rfl rfl sh4 h2' ?_)
   refine kf rfl (zAY rfl rfl (kE rfl ?_))
   refine yV rfl ty83 rfl rfl (by omega) (by omega) cl4 ?_
   refine ye rfl rfl sh4 hbl rfl ?_
   refine zA ?_
   refine zM [(2,U.box 0 0),(3,U.box 1 0),(4,U.box 2 0),(6,.int .i64 ↑i)] ([SB.box (List.set (zJ S) (0+Int.toNat ↑i*1) (U.bool !z2)),SB.box (zJ T),SB.box (zJ (b16 fun x ↦ Bool.false))]) (.n4 rfl) rfl fun fr=>?_
   refine k_region ?_
   refine kz rfl (by unfold I64;omega) (zC rfl (zA ?_))
   exact⟨kk - 1,by omega,i+1,by omega,hgo _ hw.symm,.c4 rfl rfl rfl rfl (.nil rfl)⟩
 ·rw[←hSe (by omega)]
  clear hS hT hsu hSe hat hag
  obtain⟨a0,a1,a2,a3,a4,a5,a6,a7,a8,a9,a10,a11,a12,a13,a14,a15,rfl⟩:=zGG hSl
  refine kQ (kp rfl (zA (k_seq (k_cF rfl (kG (by omega)) (yW (kQ (kB sh83 rfl (yS rfl rfl sh83 rfl rfl rfl rfl rfl ?_))))))))
  refine zA (zk ?_)
  refine⟨.inr rfl,_,.cons _ _ _ _ (.cellN 4 83 _ _ _ _ rfl rfl sh83 rfl) .nil,?_⟩
  exact .refl _
  done
end
section
variable {is:FuncId→Bool}{orc:Known}{l:Ln}
set_option maxHeartbeats 8000000 in
theorem ret69(hi:Off is)(f:Nat→Bool):RetP Tryd.prog is orc 69 [.agg (zJ (b16 f))] (.lst .ro 1 (zF (memP f 16))):=by
 refine yY body69 pure69 (hi 69 (by decide)) rfl rfl (wt (wE _ 6)) (.inl (wp 6 .ro (fun h=>by cases h) 1 _)) ?_
 refine kQ (yG rfl rfl (zB rfl (zA ?_)))
 refine zM [(1,U.box 0 0)] ([SB.box [U.bool (f (nat_lit 0)),U.bool (f (nat_lit 1)),U.bool (f (nat_lit 2)),U.bool (f (nat_lit 3)),U.bool (f (nat_lit 4)),U.bool (f (nat_lit 5)),U.bool (f (nat_lit 6)),U.bool (f (nat_lit 7)),U.bool (f (nat_lit 8)),U.bool (f (nat_lit 9)),U.bool (f (nat_lit 10)),U.bool (f (nat_lit 11)),U.bool (f (nat_lit 12)),U.bool (f (nat_lit 13)),U.bool (f (nat_lit 14)),U.bool (f (nat_lit 15))]]) (.n1 rfl) rfl fun fr=>?_
 refine kQ (zB rfl (zA (k_seq (kQ (kB sh83 rfl (zC rfl (zA (zO ?_))))))))
 refine wZ (fun kk s2=>∃i:Nat,kk+i=16∧s2.st=[.box (zJ (b16 f))]∧Holds s2 [(3,accI (memP f i)),(6,.agg (zJ (b16 f))),(7,.int .i64 i)]) (fun kk s2 hI=>?_) 16 _ ⟨0,rfl,rfl,.cons rfl (.n2 rfl)⟩
 obtain⟨i,hk,hst2,hs2⟩:=hI
 have hsu:=zDb f i
 have hlen:=zBp f i
 have hat:i<16→(zJ (b16 f))[i]? =some (.bool (f i)):=fun h=>zBu (zCa h)
 obtain⟨M,hM⟩:∃M,M=memP f i:=⟨_,rfl⟩
 obtain⟨S,hS⟩:∃S,S=zJ (b16 f):=⟨_,rfl⟩
 rw[←hM]at hsu hlen hs2
 rw[←hS]at hst2 hs2 hat
 by_cases hin:i<16
 ·have hb:S[(i:Int).toNat*1]? =some (.bool (f i)):=by rw[show(i:Int).toNat*1=i by omega];exact hat hin
  rw[hS]at hst2
  have hS2:=hS
  refine zM _ _ hs2 hst2 fun fr2=>?_
  cases c:f i with
  |true=>
   rw[c,if_pos rfl]at hsu
   rw[c]at hb
   cases M with
   |nil=>
    refine kQ (kp rfl (zA (k_seq (k_cT rfl (kF (by omega)) (zU (k_seq (zO (kQ (zC rfl (zAS rfl ty83 rfl rfl (Int.natCast_nonneg _) (by omega) cl4 sh4 hb ?_))))))))))
    refine zB rfl (zB rfl (zA (kQ (zC rfl (zA (k_cT rfl rfl ?_))))))
    refine k_region (zC rfl (zC rfl (o_lit (es:=[.int .i64 ↑i]) rfl ty22 ze3 cl3 rfl rfl rfl rfl rfl rfl rfl rfl ?_)))
    refine zFa rfl zCc rfl rfl (by simp) (by simp) (by simp[zl,zZ,oneU]) (by simp) ?_
    refine zB rfl (zA ?_)
    refine zM [(3,U.lst Kd.own 1 [.int .i64 ↑i]),(6,U.agg S),(7,.int .i64 ↑i)] ([SB.box (zJ (b16 f))]) (.n3 rfl) rfl fun fr=>?_
    refine k_region ?_
    refine kz rfl (by unfold I64;omega) (zC rfl (zA ?_))
    exact⟨kk - 1,by omega,i+1,by omega,rfl,.cons (by rw[hsu];rfl) (.cons (by rw[←hS];rfl) (.n1 rfl))⟩
   |cons y M=>
    refine kQ (kp rfl (zA (k_seq (k_cT rfl (kF (by omega)) (zU (k_seq (zO (kQ (zC rfl (zAS rfl ty83 rfl rfl (Int.natCast_nonneg _) (by omega) cl4 sh4 hb ?_))))))))))
    refine zB rfl (zB rfl (zA (kQ (zC rfl (zA (k_cT rfl rfl ?_))))))
    refine k_region (zC rfl (zC rfl (o_lit (es:=[.int .i64 ↑i]) rfl ty22 ze3 cl3 rfl rfl rfl rfl rfl rfl rfl rfl ?_)))
    refine zFZ 3 rfl zCc rfl rfl rfl (by simp) (by simp) (by simp[zl,zZ,oneU]) (by simp at hlen ⊢;omega) ?_
    refine zB rfl (zA (k_region ?_))
    refine kz rfl (by unfold I64;omega) (zC rfl (zA ?_))
    exact⟨kk - 1,by omega,i+1,by omega,rfl,.cons (by rw[hsu,zFz];rfl) (.cons (by rw[←hS];rfl) (.n1 rfl))⟩
  |false=>
   rw[c,if_neg (by decide),List.append_nil]at hsu
   rw[c]at hb
   refine kQ (kp rfl (zA (k_seq (k_cT rfl (kF (by omega)) (zU (k_seq (zO (kQ (zC rfl (zAS rfl ty83 rfl rfl (Int.natCast_nonneg _) (by omega) cl4 sh4 hb ?_))))))))))
   refine zB rfl (zB rfl (zA (kQ (zC rfl (zA (k_cF rfl rfl ?_))))))
   refine zU (k_region ?_)
   refine kz rfl (by unfold I64;omega) (zC rfl (zA ?_))
   exact⟨kk - 1,by omega,i+1,by omega,rfl,.cons (congrArg accI hsu.symm) (.cons (by rw[←hS];rfl) (.n1 rfl))⟩
 ·have hie:i=16:=by omega
  have hM2:memP f 16=M:=by rw[hM,hie]
  rw[hM2]
  clear hM hM2 hat hsu
  refine zM _ _ hs2 hst2 fun fr2=>?_
  cases M with
  |nil=>
   refine kQ (kp rfl (zA (k_seq (k_cF rfl (kG (by omega)) (yW (kQ (zC rfl (zC rfl (yy rfl ty22 rfl rfl ?_)))))))))
   refine zC rfl (yy rfl ty22 rfl rfl ?_)
   refine zEw rfl ty22 cl3 rfl (by simp) rfl rfl (Nat.le_refl _) ?_
   refine zB rfl (zA (zk ?_))
   refine⟨.inr rfl,_,.cons _ _ _ _ (.tmp 2) .nil,?_⟩
   exact .ro .full 1 []
  |cons y M=>
   have ht:List.take (y::M).length (zF (y::M))=zF (y::M):=List.take_of_length_le (by simp)
   refine kQ (kp rfl (zA (k_seq (k_cF rfl (kG (by omega)) (yW (kQ (zC rfl (zC rfl (yy rfl ty22 rfl (List.length_map _) ?_)))))))))
   refine zC rfl (yy rfl ty22 rfl (List.length_map _) ?_)
   refine zEw rfl ty22 cl3 rfl (by simp) rfl rfl (by simp) ?_
   refine zB rfl (zA (zk ?_))
   refine⟨.inr rfl,_,.cons _ _ _ _ (.tmp 2) .nil,?_⟩
   show UW (.u (.lst .full 1 (List.take (y::M).length (zF (y::M))))) _
   rw[ht]
   exact .ro _ _ _
end
end Go.Proofs.YthhbfbmfhldbaaaDoor.locks
