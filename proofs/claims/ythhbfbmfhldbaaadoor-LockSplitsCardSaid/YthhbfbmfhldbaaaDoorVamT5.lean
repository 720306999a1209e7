import Derived.Test.YthhbfbmfhldbaaaDoorVamT4
set_option linter.unusedVariables false
set_option linter.unusedSimpArgs false
set_option linter.constructorNameAsVariable false
namespace Go.Proofs.YthhbfbmfhldbaaaDoor.locks
open Vam
section
variable {is:FuncId→Bool}{orc:Known}{l:Ln}
noncomputable def b93:Code:=(Tryd.f93.body).getD .skip
theorem body93:bodyOf Tryd.prog 93=some (7,b93,[.tmp 2]):=by kernel_rfl
theorem pure93:pureFn Tryd.prog 93=true:=by kernel_rfl
theorem cl34:Program.cellsOf Tryd.prog 34=1:=by kernel_rfl
theorem sh34:shOf Tryd.prog 34=.one:=by kernel_rfl
theorem ty116:tyOf Tryd.prog 116=.slice 34:=by kernel_rfl
noncomputable def b56:Code:=(Tryd.f56.body).getD .skip
theorem body56:bodyOf Tryd.prog 56=some (23,b56,[.tmp 4]):=by kernel_rfl
theorem pure56:pureFn Tryd.prog 56=false:=by kernel_rfl
theorem ret93(hi:Off is)(w:Int):RetP Tryd.prog is orc 93 [.int .i64 w] (.bool (inS 0 1 w)):=by
 have q1:=ret77 (orc:=orc) hi 0 1 w
 refine zw body93 pure93 (hi 93 (by decide)) rfl rfl (wA (.int _ _ _)) (.inl (.bool _ _)) ?_
 refine kQ (zA rfl (zB (kQ (zBo (i:=4) (c:=2) (n:=7) sh99 rfl rfl zDo cl99 rfl rfl rfl (gatB 4 (by decide)) rfl ?_))))
 refine zC rfl (zN rfl (q1) (.lrefl _) (zA rfl (zB (zV ?_))))
 refine⟨.inr rfl,_,.cons _ _ _ _ (.tmp 2) .nil,?_⟩
 exact .refl _
end
section
variable {is:FuncId→Bool}{orc:Known}{l:Ln}
noncomputable def b67:Code:=(Tryd.f67.body).getD .skip
theorem body67:bodyOf Tryd.prog 67=some (22,b67,[.cell 4 83]):=by kernel_rfl
theorem pure67:pureFn Tryd.prog 67=true:=by kernel_rfl
noncomputable def b69:Code:=(Tryd.f69.body).getD .skip
theorem body69:bodyOf Tryd.prog 69=some (23,b69,[.tmp 2]):=by kernel_rfl
theorem pure69:pureFn Tryd.prog 69=true:=by kernel_rfl
structure Qs where
 g:Nat
 A:List U
 b:Bool
abbrev Qs.u(q:Qs):U:=.fn q.g q.A []
abbrev qsU(L:List Qs):List U:=L.map Qs.u
theorem nb_list{k:Kd}{z:Nat}{es:List U}(h:∀c∈yJ es,NB c):NB (.lst k z es):=fun _ _ _ hv=>by
 cases hv with
 |nils=>exact .nils _ _
 |over _ _ cc h0 hk=>exact .over _ _ _ h0 hk
 |slice b off len cc sz m l1 l2 _ _ hb hd hl hc hle hk h0=>exact .slice b off len cc _ m l1 l2 _ _ hb hd (nbL h hl) hc hle hk h0
theorem nb_qs{L:List Qs}(h:∀q∈L,∀u∈q.A,NB u):∀c∈yJ (qsU L),NB c:=fun c hc=>by
 obtain⟨e,he,hc⟩:=List.mem_flatMap.1 hc
 obtain⟨q,hq,rfl⟩:=List.mem_map.1 he
 rcases List.mem_singleton.1 hc with rfl
 exact NB.fn (h q hq) (fun u hu=>by cases hu)
def askI(l:Ln)(L:List Qs):Int:=if zz l=true then if L.all Qs.b=true then 0 else 71 else 70
theorem take_q{L:List Qs}{i:Nat}{q:Qs}(h:L[i]? =some q):(L.take (i+1)).all Qs.b=((L.take i).all Qs.b&&q.b):=take_all _ h
set_option maxHeartbeats 8000000 in
theorem ret56(hi:Off is)(l:Ln)(L:List Qs)(hn:∀q∈L,∀u∈q.A,NB u)(hr:zz l=true→∀(i:Nat) (q:Qs),L[i]? =some q→(L.take i).all Qs.b=true→RetP Tryd.prog is orc q.g q.A (.bool q.b))(hlen:L.length≤10):
  RetP Tryd.prog is orc 56 [l.u,.lst .ro 1 (qsU L)] (.int .i64 (askI l L)):=by
 have q17:=ret17 (orc:=orc) hi l
 refine zBj body56 pure56 rfl rfl (fun u hu=>?_) (.int _ _) ?_
 ·simp only[List.mem_cons,List.not_mem_nil,or_false]at hu
  rcases hu with rfl|rfl
  ·exact⟨(yk l 5).nb,NoOwn.of fun z es h=>by cases h⟩
  ·exact⟨nb_list (nb_qs hn),NoOwn.of fun z es h=>by cases h⟩
 unfold askI
 cases hv:zz l with
 |false=>
  rw[hv,if_neg (by decide)]at q17
  rw[if_neg (by decide)]
  refine kQ (zk rfl rfl (zA rfl (zB ?_)))
  refine zH [(1,.lst .ro 1 (qsU L)),(2,U.box 0 0)] ([SB.box [.lst .ro 1 (zE (Ln.slots l)),.int .i64 (Ln.left l),.int .i64 (Ln.right l),.int .i64 (Ln.run l)]]) (.n2 rfl) rfl fun fr=>?_
  refine k_seq (kQ (kB sh24 rfl (zN rfl (q17) (.lrefl _) (zA rfl (zB (kQ (zC rfl (kr rfl (zB (k_cT rfl rfl ?_))))))))))
  refine kQ (zC rfl (zA rfl (zB (zV ?_))))
  refine⟨.inr rfl,_,.cons _ _ _ _ (.tmp 4) .nil,?_⟩
  exact .refl _
 |true=>
  rw[hv,if_pos rfl]at q17
  rw[if_pos rfl]
  generalize hz:(if L.all Qs.b=true then(0:Int)else 71)=z
  refine kQ (zk rfl rfl (zA rfl (zB ?_)))
  refine zH [(1,.lst .ro 1 (qsU L)),(2,U.box 0 0)] ([SB.box [.lst .ro 1 (zE (Ln.slots l)),.int .i64 (Ln.left l),.int .i64 (Ln.right l),.int .i64 (Ln.run l)]]) (.n2 rfl) rfl fun fr=>?_
  refine k_seq (kQ (kB sh24 rfl (zN rfl (q17) (.lrefl _) (zA rfl (zB (kQ (zC rfl (kr rfl (zB (k_cF rfl rfl ?_))))))))))
  refine zL (k_seq (kQ (zC rfl (zq rfl ty116 rfl (List.length_map _) ?_))))
  refine zC rfl (zB (zI ?_))
  refine yX (fun kk s2=>∃i:Nat,kk+i=L.length∧(L.take i).all Qs.b=true∧s2.st=[.box l.cs]∧Holds s2 [(13,.lst .ro 1 (qsU L)),(14,.int .i64 L.length),(15,.int .i64 i)]) (fun kk s2 hI=>?_) L.length _ ⟨0,rfl,rfl,rfl,.cons rfl (.n2 rfl)⟩
  obtain⟨i,hk,hall,hst2,hs2⟩:=hI
  refine zH _ _ hs2 hst2 fun fr2=>?_
  by_cases hin:i<L.length
  ·obtain⟨q,hq⟩:∃q,L[i]? =some q:=⟨L[i],List.getElem?_eq_getElem hin⟩
   have hqr:=hr hv i q hq hall
   have ht:=take_q hq
   rw[hall,Bool.true_and]at ht
   obtain⟨g,A,b⟩:=q
   have qc:RetP Tryd.prog is orc g (A++([]++[])) (.bool b):=by rw[List.append_nil,List.append_nil];exact hqr
   have eq:(qsU L)[i]? =some (.fn g A []):=by rw[List.getElem?_map,hq];rfl
   cases b with
   |true=>
    refine kQ (kp rfl (zB (k_seq (k_cT rfl (kF (by omega)) (zL (k_seq (zI (kQ (yA (u:=.fn g A []) rfl ty116 rfl rfl (Int.natCast_nonneg _) (by simpa using eq) cl34 ?_)))))))))
    refine kC sh34 rfl ?_
    refine zA rfl (zB (kQ (zC rfl (wb rfl rfl qc (.lrefl _) ?_))))
    refine yc rfl rfl (zB (k_cF rfl rfl ?_))
    refine zL (k_region ?_)
    refine kz rfl (by unfold I64;omega) (zC rfl (zB ?_))
    exact⟨kk - 1,by omega,i+1,by omega,ht,rfl,.cons rfl (.n2 rfl)⟩
   |false=>
    have hz2:z=71:=by
     rw[←hz,if_neg]
     intro ha
     have:=(List.all_eq_true.1 ha) _ (List.mem_of_getElem? hq)
     cases this
    subst hz2
    refine kQ (kp rfl (zB (k_seq (k_cT rfl (kF (by omega)) (zL (k_seq (zI (kQ (yA (u:=.fn g A []) rfl ty116 rfl rfl (Int.natCast_nonneg _) (by simpa using eq) cl34 ?_)))))))))
    refine kC sh34 rfl ?_
    refine zA rfl (zB (kQ (zC rfl (wb rfl rfl qc (.lrefl _) ?_))))
    refine yc rfl rfl (zB (k_cT rfl rfl ?_))
    refine kQ (zA rfl (zB (zV ?_)))
    refine⟨.inr rfl,_,.cons _ _ _ _ (.tmp 4) .nil,?_⟩
    exact .refl _
  ·have hz2:z=0:=by
    rw[←hz,if_pos]
    rw[List.take_of_length_le (by omega)]at hall
    exact hall
   subst hz2
   refine kQ (kp rfl (zB (k_seq (k_cF rfl (kG (by omega)) (zj (kQ (zA rfl (zB (zV ?_)))))))))
   refine⟨.inr rfl,_,.cons _ _ _ _ (.tmp 4) .nil,?_⟩
   exact .refl _
end
section
variable {is:FuncId→Bool}{orc:Known}{l:Ln}
theorem zBU(S:List Bool):(zK S).map dg=zK S:=by
 induction S with
 |nil=>rfl
 |cons a S ih=>show dg (.bool a)::(zK S).map dg=_;rw[ih];rfl
def woF(f g:Nat→Bool)(k:Nat):Bool:=f k&& !g k
set_option maxHeartbeats 8000000 in
theorem ret67(hi:Off is)(f g:Nat→Bool):RetP Tryd.prog is orc 67 [.agg (zK (b16 f)),.agg (zK (b16 g))] (.agg (zK (b16 (woF f g)))):=by
 refine zw body67 pure67 (hi 67 (by decide)) rfl rfl (yq (yy _ 6) (yy _ 6)) (.inl (yy _ 6)) ?_
 refine kQ (zk rfl rfl (zk rfl rfl (yL rfl ze83 ?_)))
 refine zB ?_
 refine zH [(2,U.box 0 0),(3,U.box 1 0),(4,U.box 2 0)] ([SB.box [U.bool (f (nat_lit 0)),U.bool (f (nat_lit 1)),U.bool (f (nat_lit 2)),U.bool (f (nat_lit 3)),U.bool (f (nat_lit 4)),U.bool (f (nat_lit 5)),U.bool (f (nat_lit 6)),U.bool (f (nat_lit 7)),U.bool (f (nat_lit 8)),U.bool (f (nat_lit 9)),U.bool (f (nat_lit 10)),U.bool (f (nat_lit 11)),U.bool (f (nat_lit 12)),U.bool (f (nat_lit 13)),U.bool (f (nat_lit 14)),U.bool (f (nat_lit 15))],SB.box [U.bool (g (nat_lit 0)),U.bool (g (nat_lit 1)),U.bool (g (nat_lit 2)),U.bool (g (nat_lit 3)),U.bool (g (nat_lit 4)),U.bool (g (nat_lit 5)),U.bool (g (nat_lit 6)),U.bool (g (nat_lit 7)),U.bool (g (nat_lit 8)),U.bool (g (nat_lit 9)),U.bool (g (nat_lit 10)),U.bool (g (nat_lit 11)),U.bool (g (nat_lit 12)),U.bool (g (nat_lit 13)),U.bool (g (nat_lit 14)),U.bool (g (nat_lit 15))],SB.box [.bool false,.bool false,.bool false,.bool false,.bool false,.bool false,.bool false,.bool false,.bool false,.bool false,.bool false,.bool false,.bool false,.bool false,.bool false,.bool false]]) (.n3 rfl) rfl fun fr=>?_
 refine k_seq (kQ (zC rfl (zB (zI ?_))))
 refine yX (fun kk s2=>∃i:Nat,kk+i=16∧s2.st=[.box (zK (b16 fun k=>if k<i then woF f g k else f k)),.box (zK (b16 g)),.box (zK (b16 fun _=>false))]∧Holds s2 [(2,.box 0 0),(3,.box 1 0),(4,.box 2 0),(6,.int .i64 i)]) (fun kk s2 hI=>?_) 16 _ ⟨0,rfl,rfl,.c4 rfl rfl rfl rfl (.nil rfl)⟩
 obtain⟨i,hk,hst2,hs2⟩:=hI
 have hat:i<16→(b16 fun k=>if k<i then woF f g k else f k)[i]? =some (f i):=fun h=>by rw[zCb h,if_neg (by omega)]
 have hag:i<16→(b16 g)[i]? =some (g i):=fun h=>zCb h
 have hsu:∀v,v=woF f g i→(b16 fun k=>if k<i then woF f g k else f k).set i v=b16 fun k=>if k<i+1 then woF f g k else f k:=fun v hv=>by
  rw[zFz]
  refine zCa fun k _=>?_
  by_cases e:k=i
  ·subst e;rw[if_pos rfl,if_pos (by omega),hv]
  ·rw[if_neg e]
   by_cases h:k<i
   ·rw[if_pos h,if_pos (by omega)]
   ·rw[if_neg h,if_neg (by omega)]
 obtain⟨T,hT⟩:∃T,T=b16 g:=⟨_,rfl⟩
 have hSe:i=16→(b16 fun k=>if k<i then woF f g k else f k)=b16 (woF f g):=fun h=>zCa fun k hk=>by rw[if_pos (by omega)]
 obtain⟨S,hS⟩:∃S,S=b16 fun k=>if k<i then woF f g k else f k:=⟨_,rfl⟩
 have hSl:S.length=16:=by rw[hS,zl]
 have hTl:T.length=16:=by rw[hT,zl]
 rw[←hS,←hT]at hst2
 rw[←hS]at hat hsu hSe
 rw[←hT]at hag
 refine zH _ _ hs2 hst2 fun fr2=>?_
 by_cases hin:i<16
 ·have h1:=zBw (hat hin)
  have h2:=zBw (hag hin)
  have hbl:Nat.blt (0+(i:Int).toNat*1) (zK S).length=true:=by rw[Nat.blt_eq];simp[hSl];omega
  have h1':(zK S)[0+(i:Int).toNat*1]? =some (.bool (f i)):=by rw[show 0+(i:Int).toNat*1=i by omega];exact h1
  have h2':(zK T)[0+(i:Int).toNat*1]? =some (.bool (g i)):=by rw[show 0+(i:Int).toNat*1=i by omega];exact h2
  have hw:woF f g i=(f i&& !g i):=rfl
  have hgo:∀v,v=woF f g i→([SB.box ((zK S).set (0+(i:Int).toNat*1) (.bool v)),.box (zK T),.box (zK (b16 fun _=>false))]:List SB)=[.box (zK (b16 fun k=>if k<i+1 then woF f g k else f k)),.box (zK (b16 g)),.box (zK (b16 fun _=>false))]:=fun v hv=>by rw[bols_st,hsu v hv,hT]
  clear hsu hSe hat hag h1 h2
  generalize f i=z1 at*
  generalize g i=z2 at*
  cases z1 with
  |false=>
   refine kQ (kp rfl (zB (k_seq (k_cT rfl (kF (by omega)) (zL (k_seq (zI (kQ (zC rfl (zA rfl (zB (k_region (zC rfl (zC rfl (yW rfl ty83 rfl rfl (by omega) (by omega) cl4 ?_)))))))))))))))
   refine zx rfl rfl rfl sh4 h1' ?_
   refine zC rfl (ke rfl (ke rfl (ke rfl (ke rfl (kD rfl ?_)))))
   refine yW rfl ty83 rfl rfl (by omega) (by omega) cl4 ?_
   refine wO rfl rfl sh4 hbl rfl ?_
   refine zB ?_
   refine zH [(2,U.box 0 0),(3,U.box 1 0),(4,U.box 2 0),(6,.int .i64 ↑i)] ([SB.box (List.set (zK S) (0+Int.toNat ↑i*1) (.bool false)),SB.box (zK T),SB.box (zK (b16 fun x ↦ Bool.false))]) (.n4 rfl) rfl fun fr=>?_
   refine k_region ?_
   refine kz rfl (by unfold I64;omega) (zC rfl (zB ?_))
   exact⟨kk - 1,by omega,i+1,by omega,hgo _ hw.symm,.c4 rfl rfl rfl rfl (.nil rfl)⟩
  |true=>
   refine kQ (kp rfl (zB (k_seq (k_cT rfl (kF (by omega)) (zL (k_seq (zI (kQ (zC rfl (zA rfl (zB (k_region (zC rfl (zC rfl (yW rfl ty83 rfl rfl (by omega) (by omega) cl4 ?_)))))))))))))))
   refine zx rfl rfl rfl sh4 h1' ?_
   refine zC rfl (kf rfl (zC rfl (kf rfl (yW rfl ty83 rfl rfl (by omega) (by omega) cl4 ?_))))
   refine kf rfl (zx rfl rfl rfl sh4 h2' ?_)
   refine kf rfl (yc rfl rfl (kE rfl ?_))
   refine yW rfl ty83 rfl rfl (by omega) (by omega) cl4 ?_
   refine wO rfl rfl sh4 hbl rfl ?_
   refine zB ?_
   refine zH [(2,U.box 0 0),(3,U.box 1 0),(4,U.box 2 0),(6,.int .i64 ↑i)] ([SB.box (List.set (zK S) (0+Int.toNat ↑i*1) (U.bool !z2)),SB.box (zK T),SB.box (zK (b16 fun x ↦ Bool.false))]) (.n4 rfl) rfl fun fr=>?_
   refine k_region ?_
   refine kz rfl (by unfold I64;omega) (zC rfl (zB ?_))
   exact⟨kk - 1,by omega,i+1,by omega,hgo _ hw.symm,.c4 rfl rfl rfl rfl (.nil rfl)⟩
 ·rw[←hSe (by omega)]
  clear hS hT hsu hSe hat hag
  obtain⟨a0,a1,a2,a3,a4,a5,a6,a7,a8,a9,a10,a11,a12,a13,a14,a15,rfl⟩:=zDb hSl
  refine kQ (kp rfl (zB (k_seq (k_cF rfl (kG (by omega)) (zj (kQ (kB sh83 rfl (yY rfl rfl sh83 rfl rfl rfl rfl rfl ?_))))))))
  refine zB (zV ?_)
  refine⟨.inr rfl,_,.cons _ _ _ _ (.cellN 4 83 _ _ _ _ rfl rfl sh83 rfl) .nil,?_⟩
  exact .refl _
  done
end
section
variable {is:FuncId→Bool}{orc:Known}{l:Ln}
set_option maxHeartbeats 8000000 in
theorem ret69(hi:Off is)(f:Nat→Bool):RetP Tryd.prog is orc 69 [.agg (zK (b16 f))] (.lst .ro 1 (zE (memP f 16))):=by
 refine zw body69 pure69 (hi 69 (by decide)) rfl rfl (wA (yy _ 6)) (.inl (yG 6 .ro (fun h=>by cases h) 1 _)) ?_
 refine kQ (zk rfl rfl (zA rfl (zB ?_)))
 refine zH [(1,U.box 0 0)] ([SB.box [U.bool (f (nat_lit 0)),U.bool (f (nat_lit 1)),U.bool (f (nat_lit 2)),U.bool (f (nat_lit 3)),U.bool (f (nat_lit 4)),U.bool (f (nat_lit 5)),U.bool (f (nat_lit 6)),U.bool (f (nat_lit 7)),U.bool (f (nat_lit 8)),U.bool (f (nat_lit 9)),U.bool (f (nat_lit 10)),U.bool (f (nat_lit 11)),U.bool (f (nat_lit 12)),U.bool (f (nat_lit 13)),U.bool (f (nat_lit 14)),U.bool (f (nat_lit 15))]]) (.n1 rfl) rfl fun fr=>?_
 refine kQ (zA rfl (zB (k_seq (kQ (kB sh83 rfl (zC rfl (zB (zI ?_))))))))
 refine yX (fun kk s2=>∃i:Nat,kk+i=16∧s2.st=[.box (zK (b16 f))]∧Holds s2 [(3,accI (memP f i)),(6,.agg (zK (b16 f))),(7,.int .i64 i)]) (fun kk s2 hI=>?_) 16 _ ⟨0,rfl,rfl,.cons rfl (.n2 rfl)⟩
 obtain⟨i,hk,hst2,hs2⟩:=hI
 have hsu:=zBc f i
 have hlen:=zBF f i
 have hat:i<16→(zK (b16 f))[i]? =some (.bool (f i)):=fun h=>zBw (zCb h)
 obtain⟨M,hM⟩:∃M,M=memP f i:=⟨_,rfl⟩
 obtain⟨S,hS⟩:∃S,S=zK (b16 f):=⟨_,rfl⟩
 rw[←hM]at hsu hlen hs2
 rw[←hS]at hst2 hs2 hat
 by_cases hin:i<16
 ·have hb:S[(i:Int).toNat*1]? =some (.bool (f i)):=by rw[show(i:Int).toNat*1=i by omega];exact hat hin
  rw[hS]at hst2
  have hS2:=hS
  refine zH _ _ hs2 hst2 fun fr2=>?_
  cases c:f i with
  |true=>
   rw[c,if_pos rfl]at hsu
   rw[c]at hb
   cases M with
   |nil=>
    refine kQ (kp rfl (zB (k_seq (k_cT rfl (kF (by omega)) (zL (k_seq (zI (kQ (zC rfl (wX rfl ty83 rfl rfl (Int.natCast_nonneg _) (by omega) cl4 sh4 hb ?_))))))))))
    refine zA rfl (zA rfl (zB (kQ (zC rfl (zB (k_cT rfl rfl ?_))))))
    refine k_region (zC rfl (zC rfl (zBn (es:=[.int .i64 ↑i]) rfl ty22 ze3 cl3 rfl rfl rfl rfl rfl rfl rfl rfl ?_)))
    refine wu rfl wT rfl rfl (by simp) (by simp) (by simp[yJ,zZ,oneU]) (by simp) ?_
    refine zA rfl (zB ?_)
    refine zH [(3,U.lst Kd.own 1 [.int .i64 ↑i]),(6,U.agg S),(7,.int .i64 ↑i)] ([SB.box (zK (b16 f))]) (.n3 rfl) rfl fun fr=>?_
    refine k_region ?_
    refine kz rfl (by unfold I64;omega) (zC rfl (zB ?_))
    exact⟨kk - 1,by omega,i+1,by omega,rfl,.cons (by rw[hsu];rfl) (.cons (by rw[←hS];rfl) (.n1 rfl))⟩
   |cons y M=>
    refine kQ (kp rfl (zB (k_seq (k_cT rfl (kF (by omega)) (zL (k_seq (zI (kQ (zC rfl (wX rfl ty83 rfl rfl (Int.natCast_nonneg _) (by omega) cl4 sh4 hb ?_))))))))))
    refine zA rfl (zA rfl (zB (kQ (zC rfl (zB (k_cT rfl rfl ?_))))))
    refine k_region (zC rfl (zC rfl (zBn (es:=[.int .i64 ↑i]) rfl ty22 ze3 cl3 rfl rfl rfl rfl rfl rfl rfl rfl ?_)))
    refine wt 3 rfl wT rfl rfl rfl (by simp) (by simp) (by simp[yJ,zZ,oneU]) (by simp at hlen ⊢;omega) ?_
    refine zA rfl (zB (k_region ?_))
    refine kz rfl (by unfold I64;omega) (zC rfl (zB ?_))
    exact⟨kk - 1,by omega,i+1,by omega,rfl,.cons (by rw[hsu,zAg];rfl) (.cons (by rw[←hS];rfl) (.n1 rfl))⟩
  |false=>
   rw[c,if_neg (by decide),List.append_nil]at hsu
   rw[c]at hb
   refine kQ (kp rfl (zB (k_seq (k_cT rfl (kF (by omega)) (zL (k_seq (zI (kQ (zC rfl (wX rfl ty83 rfl rfl (Int.natCast_nonneg _) (by omega) cl4 sh4 hb ?_))))))))))
   refine zA rfl (zA rfl (zB (kQ (zC rfl (zB (k_cF rfl rfl ?_))))))
   refine zL (k_region ?_)
   refine kz rfl (by unfold I64;omega) (zC rfl (zB ?_))
   exact⟨kk - 1,by omega,i+1,by omega,rfl,.cons (congrArg accI hsu.symm) (.cons (by rw[←hS];rfl) (.n1 rfl))⟩
 ·have hie:i=16:=by omega
  have hM2:memP f 16=M:=by rw[hM,hie]
  rw[hM2]
  clear hM hM2 hat hsu
  refine zH _ _ hs2 hst2 fun fr2=>?_
  cases M with
  |nil=>
   refine kQ (kp rfl (zB (k_seq (k_cF rfl (kG (by omega)) (zj (kQ (zC rfl (zC rfl (zq rfl ty22 rfl rfl ?_)))))))))
   refine zC rfl (zq rfl ty22 rfl rfl ?_)
   refine zEy rfl ty22 cl3 rfl (by simp) rfl rfl (Nat.le_refl _) ?_
   refine zA rfl (zB (zV ?_))
   refine⟨.inr rfl,_,.cons _ _ _ _ (.tmp 2) .nil,?_⟩
   exact .ro .full 1 []
  |cons y M=>
   have ht:List.take (y::M).length (zE (y::M))=zE (y::M):=List.take_of_length_le (by simp)
   refine kQ (kp rfl (zB (k_seq (k_cF rfl (kG (by omega)) (zj (kQ (zC rfl (zC rfl (zq rfl ty22 rfl (List.length_map _) ?_)))))))))
   refine zC rfl (zq rfl ty22 rfl (List.length_map _) ?_)
   refine zEy rfl ty22 cl3 rfl (by simp) rfl rfl (by simp) ?_
   refine zA rfl (zB (zV ?_))
   refine⟨.inr rfl,_,.cons _ _ _ _ (.tmp 2) .nil,?_⟩
   show UW (.u (.lst .full 1 (List.take (y::M).length (zE (y::M))))) _
   rw[ht]
   exact .ro _ _ _
end
end Go.Proofs.YthhbfbmfhldbaaaDoor.locks
