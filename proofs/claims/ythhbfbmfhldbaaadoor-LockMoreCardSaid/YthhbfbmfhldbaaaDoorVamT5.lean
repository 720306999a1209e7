import Derived.Test.YthhbfbmfhldbaaaDoorVamT4
set_option linter.unusedVariables false
set_option linter.unusedSimpArgs false
set_option linter.constructorNameAsVariable false
namespace Go.Proofs.YthhbfbmfhldbaaaDoor.locks
open Vam
section
variable {is:FuncId→Bool}{orc:Known}{l:Ln}
noncomputable def b93:Code:=(Tryd.f93.body).getD .skip
theorem body93:bodyOf Tryd.prog 93=some (7,b93,[.tmp 2]):=by kernel_rfl
theorem pure93:pureFn Tryd.prog 93=true:=by kernel_rfl
noncomputable def b99:Code:=(Tryd.f99.body).getD .skip
theorem body99:bodyOf Tryd.prog 99=some (25,b99,[.tmp 4]):=by kernel_rfl
theorem pure99:pureFn Tryd.prog 99=true:=by kernel_rfl
theorem pl92:zFz Tryd.prog 92=some [(0,4),(4,1),(5,1)]:=by kernel_rfl
theorem sh92:shOf Tryd.prog 92=.many 6:=by kernel_rfl
theorem ze92:yK Tryd.prog 92=some ((.cons .nils (.cons (.int .i64 0) (.cons (.int .i64 0) (.cons (.int .i64 0) (.cons (.int .i64 0) (.cons .nils .nil)))))):V):=by kernel_rfl
noncomputable def b70:Code:=(Tryd.f70.body).getD .skip
theorem body70:bodyOf Tryd.prog 70=some (12,b70,[.cell 6 92]):=by kernel_rfl
theorem pure70:pureFn Tryd.prog 70=true:=by kernel_rfl
theorem fld92_0:zr Tryd.prog 92 0=some (0,73):=by kernel_rfl
theorem fld92_1:zr Tryd.prog 92 1=some (4,3):=by kernel_rfl
theorem fld92_2:zr Tryd.prog 92 2=some (5,22):=by kernel_rfl
noncomputable def b71:Code:=(Tryd.f71.body).getD .skip
theorem body71:bodyOf Tryd.prog 71=some (16,b71,[.tmp 2]):=by kernel_rfl
theorem pure71:pureFn Tryd.prog 71=true:=by kernel_rfl
theorem cl34:Program.cellsOf Tryd.prog 34=1:=by kernel_rfl
theorem sh34:shOf Tryd.prog 34=.one:=by kernel_rfl
theorem zFB:tyOf Tryd.prog 116=.slice 34:=by kernel_rfl
noncomputable def b56:Code:=(Tryd.f56.body).getD .skip
theorem body56:bodyOf Tryd.prog 56=some (23,b56,[.tmp 4]):=by kernel_rfl
theorem pure56:pureFn Tryd.prog 56=false:=by kernel_rfl
theorem ret93(hi:Off is)(w:Int):RetP Tryd.prog is orc 93 [.int .i64 w] (.bool (inS 0 1 w)):=by
 have q1:=ret77 (orc:=orc) hi 0 1 w
 refine yi body93 pure93 (hi 93 (by decide)) rfl rfl (zAV (.int _ _ _)) (.inl (.bool _ _)) ?_
 refine kQ (zB rfl (zC (kQ (zBH (i:=4) (c:=2) (n:=7) sh99 rfl rfl zDJ cl99 rfl rfl rfl (gatB 4 (by decide)) rfl ?_))))
 refine zA rfl (zO rfl (q1) (.lrefl _) (zB rfl (zC (zg ?_))))
 refine⟨.inr rfl,_,.cons _ _ _ _ (.tmp 2) .nil,?_⟩
 exact .refl _
set_option maxHeartbeats 8000000 in
theorem ret99(hi:Off is){n:Nat}(hn:n≤16)(L:List Int):RetP Tryd.prog is orc 99 [.lst .ro 1 (zD L),.int .i64 n] (.bool (grwB (-1) n L)):=by
 refine yi body99 pure99 (hi 99 (by decide)) rfl rfl (zCr (yj 6 .ro (fun h=>by cases h) 1 L) (.int _ _ _)) (.inl (.bool _ _)) ?_
 generalize hz:grwB (-1) n L=z
 refine kQ (zB rfl (zC (kQ (zB rfl (zC (k_seq (kQ (zA rfl (yl rfl ty22 rfl (List.length_map _) ?_)))))))))
 refine zA rfl (zC (zM ?_))
 refine wC (fun kk s2=>∃i:Nat,kk+i=L.length∧z=grwB (lstI L i) n (L.drop i)∧(i:Int)≤lstI L i+1∧lstI L i<16∧s2.st=[]∧Holds s2 [(1,.int .i64 n),(5,.int .i64 (lstI L i+1)),(8,.lst .ro 1 (zD L)),(9,.int .i64 L.length),(10,.int .i64 i)]) (fun kk s2 hI=>?_) L.length _ ⟨0,rfl,hz.symm,(by show(0:Int)≤ -1+1;omega),(by show(-1:Int)<16;omega),rfl,.c4 rfl rfl rfl rfl (.n1 rfl)⟩
 obtain⟨i,hk,hw,hb1,hb2,hst2,hs2⟩:=hI
 clear hz
 have hln:∀x,L[i]? =some x→lstI L (i+1)=x:=fun x hx=>by show(L[i]?).getD 0=x;rw[hx];rfl
 generalize lstI L i=p at*
 refine zI _ _ hs2 hst2 fun fr2=>?_
 by_cases hin:i<L.length
 ·obtain⟨x,hx⟩:∃x,L[i]? =some x:=⟨L[i],List.getElem?_eq_getElem hin⟩
  have hl2:=hln x hx
  rw[drop_at hx]at hw
  have hw:z=(decide (p<x)&&(decide (x<(n:Int))&&grwB x n (L.drop (i+1)))):=hw
  by_cases c1:p<x
  ·rw[kF c1,Bool.true_and]at hw
   by_cases c2:x<n
   ·rw[kF c2,Bool.true_and]at hw
    refine kQ (kp rfl (zC (k_seq (k_cT rfl (kF (by omega)) (zQ (k_seq (zM (kQ (zAc (u:=.int .i64 (x)) rfl ty22 rfl rfl (Int.natCast_nonneg _) (by simp[hx]) cl3 ?_)))))))))
    refine kC sh3 rfl ?_
    refine zB rfl (zC (k_seq (kQ (zA rfl (zA rfl (kp rfl (zA rfl (kh rfl (kG (by omega)) (zA rfl (kh rfl (kG (by omega)) (zA rfl (kh rfl (kG (by omega)) (o_geq rfl rfl rfl (wA rfl rfl (kG (by omega)) ?_))))))))))))))
    refine zC ?_
    refine zI [(1,.int .i64 ↑n),(7,.int .i64 x),(8,.lst .ro 1 (zD L)),(9,.int .i64 ↑(List.length L)),(10,.int .i64 ↑i),(21,U.bool (decide (↑n≤x)))] ([]) (.n6 rfl) rfl fun fr=>?_
    refine k_cF rfl (kG (by omega)) (zQ (k_region (zA rfl ?_)))
    refine kz rfl (by unfold I64;omega) (zB rfl (zC (k_region ?_)))
    refine kz rfl (by unfold I64;omega) (zA rfl (zC ?_))
    exact⟨kk - 1,by omega,i+1,by omega,by rw[hl2];exact hw,by omega,by omega,rfl,.cons rfl (.cons (by rw[hl2];rfl) (.n3 rfl))⟩
   ·rw[kG c2,Bool.false_and]at hw
    obtain rfl:z=false:=hw
    refine kQ (kp rfl (zC (k_seq (k_cT rfl (kF (by omega)) (zQ (k_seq (zM (kQ (zAc (u:=.int .i64 (x)) rfl ty22 rfl rfl (Int.natCast_nonneg _) (by simp[hx]) cl3 ?_)))))))))
    refine kC sh3 rfl ?_
    refine zB rfl (zC (k_seq (kQ (zA rfl (zA rfl (kp rfl (zA rfl (kh rfl (kG (by omega)) (zA rfl (kh rfl (kG (by omega)) (zA rfl (kh rfl (kG (by omega)) (o_geq rfl rfl rfl (wA rfl rfl (kG (by omega)) ?_))))))))))))))
    refine zC ?_
    refine zI [(1,.int .i64 ↑n),(7,.int .i64 x),(8,.lst .ro 1 (zD L)),(9,.int .i64 ↑(List.length L)),(10,.int .i64 ↑i),(21,U.bool (decide (↑n≤x)))] ([]) (.n6 rfl) rfl fun fr=>?_
    refine k_cT rfl (kF (by omega)) (kQ (zB rfl (zC (zg ?_))))
    refine⟨.inr rfl,_,.cons _ _ _ _ (.tmp 4) .nil,?_⟩
    exact .refl _
  ·rw[kG c1,Bool.false_and]at hw
   obtain rfl:z=false:=hw
   refine kQ (kp rfl (zC (k_seq (k_cT rfl (kF (by omega)) (zQ (k_seq (zM (kQ (zAc (u:=.int .i64 (x)) rfl ty22 rfl rfl (Int.natCast_nonneg _) (by simp[hx]) cl3 ?_)))))))))
   refine kC sh3 rfl ?_
   refine zB rfl (zC (k_seq (kQ (zA rfl (zA rfl (kp rfl (zA rfl (kg rfl (kF (by omega)) (kg rfl (kF (by omega)) (kg rfl (kF (by omega)) (wj rfl rfl (kF (by omega)) ?_)))))))))))
   refine zC ?_
   refine zI [(1,.int .i64 ↑n),(7,.int .i64 x),(8,.lst .ro 1 (zD L)),(9,.int .i64 ↑(List.length L)),(10,.int .i64 ↑i),(21,.bool true)] ([]) (.n6 rfl) rfl fun fr=>?_
   refine k_cT rfl rfl ?_
   refine kQ (zB rfl (zC (zg ?_)))
   refine⟨.inr rfl,_,.cons _ _ _ _ (.tmp 4) .nil,?_⟩
   exact .refl _
 ·have hd:L.drop i=[]:=List.drop_eq_nil_of_le (by omega)
  rw[hd]at hw
  obtain rfl:z=true:=hw
  refine kQ (kp rfl (zC (k_seq (k_cF rfl (kG (by omega)) (yW (kQ (zB rfl (zC (zg ?_)))))))))
  refine⟨.inr rfl,_,.cons _ _ _ _ (.tmp 4) .nil,?_⟩
  exact .refl _
abbrev witU(l:Ln)(w:Int)(H:List Int):U:=.agg [.lst .ro 1 (zD l.slots),.int .i64 l.left,.int .i64 l.right,.int .i64 l.run,.int .i64 w,.lst .ro 1 (zD H)]
theorem zFo(l:Ln)(w:Int)(H:List Int)(k:Nat):Dat (k+3) (witU l w H):=.agg _ _ fun c hc=>by
 simp only[List.mem_cons,List.not_mem_nil,or_false]at hc
 rcases hc with rfl|rfl|rfl|rfl|rfl|rfl
 ·exact yj k .ro (fun h=>by cases h) 1 _
 ·exact .int _ _ _
 ·exact .int _ _ _
 ·exact .int _ _ _
 ·exact .int _ _ _
 ·exact yj k .ro (fun h=>by cases h) 1 _
theorem ret70(hi:Off is)(l:Ln)(w:Int)(H:List Int):RetP Tryd.prog is orc 70 [l.u,.int .i64 w,.lst .ro 1 (zD H)] (witU l w H):=by
 refine yi body70 pure70 (hi 70 (by decide)) rfl rfl (zGX (zAX l 5) (.int _ _ _) (yj 6 .ro (fun h=>by cases h) 1 H)) (.inl (zFo l w H 5)) ?_
 refine kQ (zx rfl rfl (zo rfl ze92 ?_))
 refine zC ?_
 refine zI [(1,.int .i64 w),(2,.lst .ro 1 (zD H)),(3,U.box 0 0),(6,U.box 1 0)] ([SB.box [.lst .ro 1 (zD (Ln.slots l)),.int .i64 (Ln.left l),.int .i64 (Ln.right l),.int .i64 (Ln.run l)],SB.box [.lst .full 0 [],.int .i64 0,.int .i64 0,.int .i64 0,.int .i64 0,.lst .full 0 []]]) (.n4 rfl) rfl fun fr=>?_
 refine kQ (kB sh24 rfl (zBI rfl ze73 pl73 rfl rfl ?_))
 refine zA rfl (zA rfl (zBI rfl ze92 pl92 rfl rfl ?_))
 refine wJ rfl rfl sh92 rfl rfl rfl rfl rfl ?_
 refine zC (zg ?_)
 refine⟨.inr rfl,_,.cons _ _ _ _ (.cellN 6 92 _ _ _ _ rfl rfl sh92 rfl) .nil,?_⟩
 exact .refl _
def yU(l:Ln)(w:Int)(H:List Int):Bool:=inS 0 1 w&&grwB (-1) l.slots.length H
theorem ret71(hi:Off is)(hn:l.slots.length≤16)(w:Int)(H:List Int):RetP Tryd.prog is orc 71 [witU l w H] (.bool (yU l w H)):=by
 have q1:=ret93 (orc:=orc) hi w
 have q2:=ret99 (orc:=orc) hi hn H
 refine yi body71 pure71 (hi 71 (by decide)) rfl rfl (zAV (zFo l w H 5)) (.inl (.bool _ _)) ?_
 unfold yU
 generalize inS 0 1 w=z1 at*
 generalize grwB (-1) l.slots.length H=z2 at*
 cases z1 with
 |false=>
  refine kQ (zx rfl rfl (zB rfl (zC ?_)))
  refine zI [(1,U.box 0 0)] ([SB.box [.lst .ro 1 (zD (Ln.slots l)),.int .i64 (Ln.left l),.int .i64 (Ln.right l),.int .i64 (Ln.run l),.int .i64 w,.lst .ro 1 (zD H)]]) (.n1 rfl) rfl fun fr=>?_
  refine kQ (kw rfl fld92_1 (kA sh3 rfl (zO rfl (q1) (.lrefl _) (zA rfl (ke rfl (ke rfl (ke rfl (ke rfl (ke rfl ?_)))))))))
  refine zT [(6,.bool false)] [] ([SB.box [.lst .ro 1 (zD (Ln.slots l)),.int .i64 (Ln.left l),.int .i64 (Ln.right l),.int .i64 (Ln.run l),.int .i64 w,.lst .ro 1 (zD H)]]) (.n1 rfl) rfl rfl fun fr=>?_
  refine ke rfl (ke rfl (ke rfl (kD rfl ?_)))
  refine zB rfl (zC (zg ?_))
  refine⟨.inr rfl,_,.cons _ _ _ _ (.tmp 2) .nil,?_⟩
  exact .refl _
 |true=>
  refine kQ (zx rfl rfl (zB rfl (zC ?_)))
  refine zI [(1,U.box 0 0)] ([SB.box [.lst .ro 1 (zD (Ln.slots l)),.int .i64 (Ln.left l),.int .i64 (Ln.right l),.int .i64 (Ln.run l),.int .i64 w,.lst .ro 1 (zD H)]]) (.n1 rfl) rfl fun fr=>?_
  refine kQ (kw rfl fld92_1 (kA sh3 rfl (zO rfl (q1) (.lrefl _) (zA rfl (kf rfl (kw rfl fld92_2 (kf rfl (kA sh22 rfl (kf rfl (kw rfl fld92_0 (kf rfl (kw rfl yb (kf rfl (kw rfl yL ?_))))))))))))))
  refine zT [(6,.bool true),(8,.lst .ro 1 (zD H)),(11,U.box 0 0)] [] ([SB.box [.lst .ro 1 (zD (Ln.slots l)),.int .i64 (Ln.left l),.int .i64 (Ln.right l),.int .i64 (Ln.run l),.int .i64 w,.lst .ro 1 (zD H)]]) (.n3 rfl) rfl rfl fun fr=>?_
  refine kf rfl ?_
  refine zT [(6,.bool true),(8,.lst .ro 1 (zD H)),(11,U.box 0 0)] [] ([SB.box [.lst .ro 1 (zD (Ln.slots l)),.int .i64 (Ln.left l),.int .i64 (Ln.right l),.int .i64 (Ln.run l),.int .i64 w,.lst .ro 1 (zD H)]]) (.n3 rfl) rfl rfl fun fr=>?_
  refine kA sh22 rfl (kf rfl (yl rfl ty22 rfl (List.length_map _) ?_))
  refine kf rfl (zO rfl (q2) (.lrefl _) (kE rfl ?_))
  refine zB rfl (zC (zg ?_))
  refine⟨.inr rfl,_,.cons _ _ _ _ (.tmp 2) .nil,?_⟩
  exact .refl _
end
section
variable {is:FuncId→Bool}{orc:Known}{l:Ln}
noncomputable def b100:Code:=(Tryd.f100.body).getD .skip
theorem body100:bodyOf Tryd.prog 100=some (16,b100,[.cell 2 83]):=by kernel_rfl
theorem pure100:pureFn Tryd.prog 100=true:=by kernel_rfl
noncomputable def b67:Code:=(Tryd.f67.body).getD .skip
theorem body67:bodyOf Tryd.prog 67=some (22,b67,[.cell 4 83]):=by kernel_rfl
theorem pure67:pureFn Tryd.prog 67=true:=by kernel_rfl
noncomputable def b69:Code:=(Tryd.f69.body).getD .skip
theorem body69:bodyOf Tryd.prog 69=some (23,b69,[.tmp 2]):=by kernel_rfl
theorem pure69:pureFn Tryd.prog 69=true:=by kernel_rfl
structure Qs where
 g:Nat
 A:List U
 b:Bool
abbrev Qs.u(q:Qs):U:=.fn q.g q.A []
abbrev qsU(L:List Qs):List U:=L.map Qs.u
theorem nb_list{k:Kd}{z:Nat}{es:List U}(h:∀c∈yE es,NB c):NB (.lst k z es):=fun _ _ _ hv=>by
 cases hv with
 |nils=>exact .nils _ _
 |over _ _ cc h0 hk=>exact .over _ _ _ h0 hk
 |slice b off len cc sz m l1 l2 _ _ hb hd hl hc hle hk h0=>exact .slice b off len cc _ m l1 l2 _ _ hb hd (nbL h hl) hc hle hk h0
theorem nb_qs{L:List Qs}(h:∀q∈L,∀u∈q.A,NB u):∀c∈yE (qsU L),NB c:=fun c hc=>by
 obtain⟨e,he,hc⟩:=List.mem_flatMap.1 hc
 obtain⟨q,hq,rfl⟩:=List.mem_map.1 he
 rcases List.mem_singleton.1 hc with rfl
 exact NB.fn (h q hq) (fun u hu=>by cases hu)
def askI(l:Ln)(L:List Qs):Int:=if yM l=true then if L.all Qs.b=true then 0 else 71 else 70
theorem take_q{L:List Qs}{i:Nat}{q:Qs}(h:L[i]? =some q):(L.take (i+1)).all Qs.b=((L.take i).all Qs.b&&q.b):=take_all _ h
set_option maxHeartbeats 8000000 in
theorem ret56(hi:Off is)(l:Ln)(L:List Qs)(hn:∀q∈L,∀u∈q.A,NB u)(hr:yM l=true→∀(i:Nat) (q:Qs),L[i]? =some q→(L.take i).all Qs.b=true→RetP Tryd.prog is orc q.g q.A (.bool q.b))(hlen:L.length≤10):
  RetP Tryd.prog is orc 56 [l.u,.lst .ro 1 (qsU L)] (.int .i64 (askI l L)):=by
 have q17:=ret17 (orc:=orc) hi l
 refine zBa body56 pure56 rfl rfl (fun u hu=>?_) (.int _ _) ?_
 ·simp only[List.mem_cons,List.not_mem_nil,or_false]at hu
  rcases hu with rfl|rfl
  ·exact⟨(zAX l 5).nb,NoOwn.of fun z es h=>by cases h⟩
  ·exact⟨nb_list (nb_qs hn),NoOwn.of fun z es h=>by cases h⟩
 unfold askI
 cases hv:yM l with
 |false=>
  rw[hv,if_neg (by decide)]at q17
  rw[if_neg (by decide)]
  refine kQ (zx rfl rfl (zB rfl (zC ?_)))
  refine zI [(1,.lst .ro 1 (qsU L)),(2,U.box 0 0)] ([SB.box [.lst .ro 1 (zD (Ln.slots l)),.int .i64 (Ln.left l),.int .i64 (Ln.right l),.int .i64 (Ln.run l)]]) (.n2 rfl) rfl fun fr=>?_
  refine k_seq (kQ (kB sh24 rfl (zO rfl (q17) (.lrefl _) (zB rfl (zC (kQ (zA rfl (kr rfl (zC (k_cT rfl rfl ?_))))))))))
  refine kQ (zA rfl (zB rfl (zC (zg ?_))))
  refine⟨.inr rfl,_,.cons _ _ _ _ (.tmp 4) .nil,?_⟩
  exact .refl _
 |true=>
  rw[hv,if_pos rfl]at q17
  rw[if_pos rfl]
  generalize hz:(if L.all Qs.b=true then(0:Int)else 71)=z
  refine kQ (zx rfl rfl (zB rfl (zC ?_)))
  refine zI [(1,.lst .ro 1 (qsU L)),(2,U.box 0 0)] ([SB.box [.lst .ro 1 (zD (Ln.slots l)),.int .i64 (Ln.left l),.int .i64 (Ln.right l),.int .i64 (Ln.run l)]]) (.n2 rfl) rfl fun fr=>?_
  refine k_seq (kQ (kB sh24 rfl (zO rfl (q17) (.lrefl _) (zB rfl (zC (kQ (zA rfl (kr rfl (zC (k_cF rfl rfl ?_))))))))))
  refine zQ (k_seq (kQ (zA rfl (yl rfl zFB rfl (List.length_map _) ?_))))
  refine zA rfl (zC (zM ?_))
  refine wC (fun kk s2=>∃i:Nat,kk+i=L.length∧(L.take i).all Qs.b=true∧s2.st=[.box l.cs]∧Holds s2 [(13,.lst .ro 1 (qsU L)),(14,.int .i64 L.length),(15,.int .i64 i)]) (fun kk s2 hI=>?_) L.length _ ⟨0,rfl,rfl,rfl,.cons rfl (.n2 rfl)⟩
  obtain⟨i,hk,hall,hst2,hs2⟩:=hI
  refine zI _ _ hs2 hst2 fun fr2=>?_
  by_cases hin:i<L.length
  ·obtain⟨q,hq⟩:∃q,L[i]? =some q:=⟨L[i],List.getElem?_eq_getElem hin⟩
   have hqr:=hr hv i q hq hall
   have ht:=take_q hq
   rw[hall,Bool.true_and]at ht
   obtain⟨g,A,b⟩:=q
   have qc:RetP Tryd.prog is orc g (A++([]++[])) (.bool b):=by rw[List.append_nil,List.append_nil];exact hqr
   have eq:(qsU L)[i]? =some (.fn g A []):=by rw[List.getElem?_map,hq];rfl
   cases b with
   |true=>
    refine kQ (kp rfl (zC (k_seq (k_cT rfl (kF (by omega)) (zQ (k_seq (zM (kQ (zAc (u:=.fn g A []) rfl zFB rfl rfl (Int.natCast_nonneg _) (by simpa using eq) cl34 ?_)))))))))
    refine kC sh34 rfl ?_
    refine zB rfl (zC (kQ (zA rfl (zCc rfl rfl qc (.lrefl _) ?_))))
    refine wc rfl rfl (zC (k_cF rfl rfl ?_))
    refine zQ (k_region ?_)
    refine kz rfl (by unfold I64;omega) (zA rfl (zC ?_))
    exact⟨kk - 1,by omega,i+1,by omega,ht,rfl,.cons rfl (.n2 rfl)⟩
   |false=>
    have hz2:z=71:=by
     rw[←hz,if_neg]
     intro ha
     have:=(List.all_eq_true.1 ha) _ (List.mem_of_getElem? hq)
     cases this
    subst hz2
    refine kQ (kp rfl (zC (k_seq (k_cT rfl (kF (by omega)) (zQ (k_seq (zM (kQ (zAc (u:=.fn g A []) rfl zFB rfl rfl (Int.natCast_nonneg _) (by simpa using eq) cl34 ?_)))))))))
    refine kC sh34 rfl ?_
    refine zB rfl (zC (kQ (zA rfl (zCc rfl rfl qc (.lrefl _) ?_))))
    refine wc rfl rfl (zC (k_cT rfl rfl ?_))
    refine kQ (zB rfl (zC (zg ?_)))
    refine⟨.inr rfl,_,.cons _ _ _ _ (.tmp 4) .nil,?_⟩
    exact .refl _
  ·have hz2:z=0:=by
    rw[←hz,if_pos]
    rw[List.take_of_length_le (by omega)]at hall
    exact hall
   subst hz2
   refine kQ (kp rfl (zC (k_seq (k_cF rfl (kG (by omega)) (yW (kQ (zB rfl (zC (zg ?_)))))))))
   refine⟨.inr rfl,_,.cons _ _ _ _ (.tmp 4) .nil,?_⟩
   exact .refl _
end
section
variable {is:FuncId→Bool}{orc:Known}{l:Ln}
theorem zBo(S:List Bool):(zL S).map dg=zL S:=by
 induction S with
 |nil=>rfl
 |cons a S ih=>show dg (.bool a)::(zL S).map dg=_;rw[ih];rfl
def onF(L:List Int)(k:Nat):Bool:=decide ((k:Int)∈L)
set_option maxHeartbeats 8000000 in
theorem ret100(hi:Off is){L:List Int}(hL:∀x∈L,0≤x∧x<16)(hlen:L.length≤4096):RetP Tryd.prog is orc 100 [.lst .ro 1 (zD L)] (.agg (zL (b16 (onF L)))):=by
 refine yi body100 pure100 (hi 100 (by decide)) rfl rfl (zAV (yj 6 .ro (fun h=>by cases h) 1 L)) (.inl (wp _ 6)) ?_
 refine kQ (zo rfl ze83 ?_)
 refine zC ?_
 refine zI [(0,.lst .ro 1 (zD L)),(2,U.box 0 0)] ([SB.box [.bool false,.bool false,.bool false,.bool false,.bool false,.bool false,.bool false,.bool false,.bool false,.bool false,.bool false,.bool false,.bool false,.bool false,.bool false,.bool false]]) (.n2 rfl) rfl fun fr=>?_
 refine kQ (zo rfl ze83 ?_)
 refine zC ?_
 refine zI [(0,.lst .ro 1 (zD L)),(2,U.box 0 0),(3,U.box 1 0)] ([SB.box [.bool false,.bool false,.bool false,.bool false,.bool false,.bool false,.bool false,.bool false,.bool false,.bool false,.bool false,.bool false,.bool false,.bool false,.bool false,.bool false],SB.box [.bool false,.bool false,.bool false,.bool false,.bool false,.bool false,.bool false,.bool false,.bool false,.bool false,.bool false,.bool false,.bool false,.bool false,.bool false,.bool false]]) (.n3 rfl) rfl fun fr=>?_
 refine k_seq (kQ (zA rfl (yl rfl ty22 rfl (List.length_map _) ?_)))
 refine zA rfl (zC (zM ?_))
 refine wC (fun kk s2=>∃i:Nat,kk+i=L.length∧s2.st=[.box (zL (b16 fun _=>false)),.box (zL (b16 (onF (L.take i))))]∧Holds s2 [(2,.box 0 0),(3,.box 1 0),(6,.lst .ro 1 (zD L)),(7,.int .i64 L.length),(8,.int .i64 i)]) (fun kk s2 hI=>?_) L.length _ ⟨0,rfl,rfl,.c4 rfl rfl rfl rfl (.n1 rfl)⟩
 obtain⟨i,hk,hst2,hs2⟩:=hI
 obtain⟨S,hS⟩:∃S,S=b16 (onF (L.take i)):=⟨_,rfl⟩
 have hSl:S.length=16:=by rw[hS,yG]
 rw[←hS]at hst2
 refine zI _ _ hs2 hst2 fun fr2=>?_
 by_cases hin:i<L.length
 ·obtain⟨x,hx⟩:∃x,L[i]? =some x:=⟨L[i],List.getElem?_eq_getElem hin⟩
  have hxr:=hL x (List.mem_of_getElem? hx)
  obtain⟨n,rfl⟩:∃n:Nat,x=n:=⟨x.toNat,by omega⟩
  have hbl:Nat.blt (0+(n:Int).toNat*1) (zL S).length=true:=by rw[Nat.blt_eq];simp[hSl];omega
  have hsu:S.set n true=b16 (onF (L.take (i+1))):=by
   rw[hS,zDG]
   refine zBX fun k _=>?_
   unfold onF
   rw[List.take_add_one,hx]
   by_cases e:k=n
   ·subst e;rw[if_pos rfl];exact(kF (by simp)).symm
   ·rw[if_neg e]
    refine decide_eq_decide.2 ?_
    rw[List.mem_append,Option.toList_some,List.mem_singleton]
    exact⟨.inl,fun h=>h.resolve_right (by omega)⟩
  refine kQ (kp rfl (zC (k_seq (k_cT rfl (kF (by omega)) (zQ (k_seq (zM (kQ (zAc (u:=.int .i64 (↑n)) rfl ty22 rfl rfl (Int.natCast_nonneg _) (by simp[hx]) cl3 ?_)))))))))
  refine kC sh3 rfl ?_
  refine zB rfl (zC (k_region (zA rfl (yV rfl ty83 rfl rfl (by omega) (by omega) cl4 ?_))))
  refine yd rfl rfl sh4 hbl rfl ?_
  refine zC ?_
  refine zI [(2,U.box 0 0),(3,U.box 1 0),(6,.lst .ro 1 (zD L)),(7,.int .i64 ↑(List.length L)),(8,.int .i64 ↑i)] ([SB.box (zL (b16 fun x ↦ Bool.false)),SB.box (List.set (zL S) (0+Int.toNat ↑n*1) (.bool true))]) (.n5 rfl) rfl fun fr=>?_
  refine k_region ?_
  refine kz rfl (by unfold I64;omega) (zA rfl (zC ?_))
  exact⟨kk - 1,by omega,i+1,by omega,(by show [_,SB.box ((zL S).set (0+(n:Int).toNat*1) (.bool true))]=[_,_];rw[zFq,hsu]),.c4 rfl rfl rfl rfl (.n1 rfl)⟩
 ·have hSe:S=b16 (onF L):=by rw[hS,List.take_of_length_le (by omega)]
  rw[←hSe]
  clear hS hSe
  obtain⟨a0,a1,a2,a3,a4,a5,a6,a7,a8,a9,a10,a11,a12,a13,a14,a15,rfl⟩:=len16 hSl
  refine kQ (kp rfl (zC (k_seq (k_cF rfl (kG (by omega)) (yW (kQ (kB sh83 rfl (wJ rfl rfl sh83 rfl rfl rfl rfl rfl ?_))))))))
  refine zC (zg ?_)
  refine⟨.inr rfl,_,.cons _ _ _ _ (.cellN 2 83 _ _ _ _ rfl rfl sh83 rfl) .nil,?_⟩
  exact .refl _
  done
def woF(f g:Nat→Bool)(k:Nat):Bool:=f k&& !g k
set_option maxHeartbeats 8000000 in
theorem ret67(hi:Off is)(f g:Nat→Bool):RetP Tryd.prog is orc 67 [.agg (zL (b16 f)),.agg (zL (b16 g))] (.agg (zL (b16 (woF f g)))):=by
 refine yi body67 pure67 (hi 67 (by decide)) rfl rfl (zCr (wp _ 6) (wp _ 6)) (.inl (wp _ 6)) ?_
 refine kQ (zx rfl rfl (zx rfl rfl (zo rfl ze83 ?_)))
 refine zC ?_
 refine zI [(2,U.box 0 0),(3,U.box 1 0),(4,U.box 2 0)] ([SB.box [U.bool (f (nat_lit 0)),U.bool (f (nat_lit 1)),U.bool (f (nat_lit 2)),U.bool (f (nat_lit 3)),U.bool (f (nat_lit 4)),U.bool (f (nat_lit 5)),U.bool (f (nat_lit 6)),U.bool (f (nat_lit 7)),U.bool (f (nat_lit 8)),U.bool (f (nat_lit 9)),U.bool (f (nat_lit 10)),U.bool (f (nat_lit 11)),U.bool (f (nat_lit 12)),U.bool (f (nat_lit 13)),U.bool (f (nat_lit 14)),U.bool (f (nat_lit 15))],SB.box [U.bool (g (nat_lit 0)),U.bool (g (nat_lit 1)),U.bool (g (nat_lit 2)),U.bool (g (nat_lit 3)),U.bool (g (nat_lit 4)),U.bool (g (nat_lit 5)),U.bool (g (nat_lit 6)),U.bool (g (nat_lit 7)),U.bool (g (nat_lit 8)),U.bool (g (nat_lit 9)),U.bool (g (nat_lit 10)),U.bool (g (nat_lit 11)),U.bool (g (nat_lit 12)),U.bool (g (nat_lit 13)),U.bool (g (nat_lit 14)),U.bool (g (nat_lit 15))],SB.box [.bool false,.bool false,.bool false,.bool false,.bool false,.bool false,.bool false,.bool false,.bool false,.bool false,.bool false,.bool false,.bool false,.bool false,.bool false,.bool false]]) (.n3 rfl) rfl fun fr=>?_
 refine k_seq (kQ (zA rfl (zC (zM ?_))))
 refine wC (fun kk s2=>∃i:Nat,kk+i=16∧s2.st=[.box (zL (b16 fun k=>if k<i then woF f g k else f k)),.box (zL (b16 g)),.box (zL (b16 fun _=>false))]∧Holds s2 [(2,.box 0 0),(3,.box 1 0),(4,.box 2 0),(6,.int .i64 i)]) (fun kk s2 hI=>?_) 16 _ ⟨0,rfl,rfl,.c4 rfl rfl rfl rfl (.nil rfl)⟩
 obtain⟨i,hk,hst2,hs2⟩:=hI
 have hat:i<16→(b16 fun k=>if k<i then woF f g k else f k)[i]? =some (f i):=fun h=>by rw[zDe h,if_neg (by omega)]
 have hag:i<16→(b16 g)[i]? =some (g i):=fun h=>zDe h
 have hsu:∀v,v=woF f g i→(b16 fun k=>if k<i then woF f g k else f k).set i v=b16 fun k=>if k<i+1 then woF f g k else f k:=fun v hv=>by
  rw[zDG]
  refine zBX fun k _=>?_
  by_cases e:k=i
  ·subst e;rw[if_pos rfl,if_pos (by omega),hv]
  ·rw[if_neg e]
   by_cases h:k<i
   ·rw[if_pos h,if_pos (by omega)]
   ·rw[if_neg h,if_neg (by omega)]
 obtain⟨T,hT⟩:∃T,T=b16 g:=⟨_,rfl⟩
 have hSe:i=16→(b16 fun k=>if k<i then woF f g k else f k)=b16 (woF f g):=fun h=>zBX fun k hk=>by rw[if_pos (by omega)]
 obtain⟨S,hS⟩:∃S,S=b16 fun k=>if k<i then woF f g k else f k:=⟨_,rfl⟩
 have hSl:S.length=16:=by rw[hS,yG]
 have hTl:T.length=16:=by rw[hT,yG]
 rw[←hS,←hT]at hst2
 rw[←hS]at hat hsu hSe
 rw[←hT]at hag
 refine zI _ _ hs2 hst2 fun fr2=>?_
 by_cases hin:i<16
 ·have h1:=zDF (hat hin)
  have h2:=zDF (hag hin)
  have hbl:Nat.blt (0+(i:Int).toNat*1) (zL S).length=true:=by rw[Nat.blt_eq];simp[hSl];omega
  have h1':(zL S)[0+(i:Int).toNat*1]? =some (.bool (f i)):=by rw[show 0+(i:Int).toNat*1=i by omega];exact h1
  have h2':(zL T)[0+(i:Int).toNat*1]? =some (.bool (g i)):=by rw[show 0+(i:Int).toNat*1=i by omega];exact h2
  have hw:woF f g i=(f i&& !g i):=rfl
  have hgo:∀v,v=woF f g i→([SB.box ((zL S).set (0+(i:Int).toNat*1) (.bool v)),.box (zL T),.box (zL (b16 fun _=>false))]:List SB)=[.box (zL (b16 fun k=>if k<i+1 then woF f g k else f k)),.box (zL (b16 g)),.box (zL (b16 fun _=>false))]:=fun v hv=>by rw[zFq,hsu v hv,hT]
  clear hsu hSe hat hag h1 h2
  generalize f i=z1 at*
  generalize g i=z2 at*
  cases z1 with
  |false=>
   refine kQ (kp rfl (zC (k_seq (k_cT rfl (kF (by omega)) (zQ (k_seq (zM (kQ (zA rfl (zB rfl (zC (k_region (zA rfl (zA rfl (yV rfl ty83 rfl rfl (by omega) (by omega) cl4 ?_)))))))))))))))
   refine zf rfl rfl rfl sh4 h1' ?_
   refine zA rfl (ke rfl (ke rfl (ke rfl (ke rfl (kD rfl ?_)))))
   refine yV rfl ty83 rfl rfl (by omega) (by omega) cl4 ?_
   refine yd rfl rfl sh4 hbl rfl ?_
   refine zC ?_
   refine zI [(2,U.box 0 0),(3,U.box 1 0),(4,U.box 2 0),(6,.int .i64 ↑i)] ([SB.box (List.set (zL S) (0+Int.toNat ↑i*1) (.bool false)),SB.box (zL T),SB.box (zL (b16 fun x ↦ Bool.false))]) (.n4 rfl) rfl fun fr=>?_
   refine k_region ?_
   refine kz rfl (by unfold I64;omega) (zA rfl (zC ?_))
   exact⟨kk - 1,by omega,i+1,by omega,hgo _ hw.symm,.c4 rfl rfl rfl rfl (.nil rfl)⟩
  |true=>
   refine kQ (kp rfl (zC (k_seq (k_cT rfl (kF (by omega)) (zQ (k_seq (zM (kQ (zA rfl (zB rfl (zC (k_region (zA rfl (zA rfl (yV rfl ty83 rfl rfl (by omega) (by omega) cl4 ?_)))))))))))))))
   refine zf rfl rfl rfl sh4 h1' ?_
   refine zA rfl (kf rfl (zA rfl (kf rfl (yV rfl ty83 rfl rfl (by omega) (by omega) cl4 ?_))))
   refine kf rfl (zf rfl rfl rfl sh4 h2' ?_)
   refine kf rfl (wc rfl rfl (kE rfl ?_))
   refine yV rfl ty83 rfl rfl (by omega) (by omega) cl4 ?_
   refine yd rfl rfl sh4 hbl rfl ?_
   refine zC ?_
   refine zI [(2,U.box 0 0),(3,U.box 1 0),(4,U.box 2 0),(6,.int .i64 ↑i)] ([SB.box (List.set (zL S) (0+Int.toNat ↑i*1) (U.bool !z2)),SB.box (zL T),SB.box (zL (b16 fun x ↦ Bool.false))]) (.n4 rfl) rfl fun fr=>?_
   refine k_region ?_
   refine kz rfl (by unfold I64;omega) (zA rfl (zC ?_))
   exact⟨kk - 1,by omega,i+1,by omega,hgo _ hw.symm,.c4 rfl rfl rfl rfl (.nil rfl)⟩
 ·rw[←hSe (by omega)]
  clear hS hT hsu hSe hat hag
  obtain⟨a0,a1,a2,a3,a4,a5,a6,a7,a8,a9,a10,a11,a12,a13,a14,a15,rfl⟩:=len16 hSl
  refine kQ (kp rfl (zC (k_seq (k_cF rfl (kG (by omega)) (yW (kQ (kB sh83 rfl (wJ rfl rfl sh83 rfl rfl rfl rfl rfl ?_))))))))
  refine zC (zg ?_)
  refine⟨.inr rfl,_,.cons _ _ _ _ (.cellN 4 83 _ _ _ _ rfl rfl sh83 rfl) .nil,?_⟩
  exact .refl _
  done
end
section
variable {is:FuncId→Bool}{orc:Known}{l:Ln}
set_option maxHeartbeats 8000000 in
theorem ret69(hi:Off is)(f:Nat→Bool):RetP Tryd.prog is orc 69 [.agg (zL (b16 f))] (.lst .ro 1 (zD (memP f 16))):=by
 refine yi body69 pure69 (hi 69 (by decide)) rfl rfl (zAV (wp _ 6)) (.inl (yj 6 .ro (fun h=>by cases h) 1 _)) ?_
 refine kQ (zx rfl rfl (zB rfl (zC ?_)))
 refine zI [(1,U.box 0 0)] ([SB.box [U.bool (f (nat_lit 0)),U.bool (f (nat_lit 1)),U.bool (f (nat_lit 2)),U.bool (f (nat_lit 3)),U.bool (f (nat_lit 4)),U.bool (f (nat_lit 5)),U.bool (f (nat_lit 6)),U.bool (f (nat_lit 7)),U.bool (f (nat_lit 8)),U.bool (f (nat_lit 9)),U.bool (f (nat_lit 10)),U.bool (f (nat_lit 11)),U.bool (f (nat_lit 12)),U.bool (f (nat_lit 13)),U.bool (f (nat_lit 14)),U.bool (f (nat_lit 15))]]) (.n1 rfl) rfl fun fr=>?_
 refine kQ (zB rfl (zC (k_seq (kQ (kB sh83 rfl (zA rfl (zC (zM ?_))))))))
 refine wC (fun kk s2=>∃i:Nat,kk+i=16∧s2.st=[.box (zL (b16 f))]∧Holds s2 [(3,accI (memP f i)),(6,.agg (zL (b16 f))),(7,.int .i64 i)]) (fun kk s2 hI=>?_) 16 _ ⟨0,rfl,rfl,.cons rfl (.n2 rfl)⟩
 obtain⟨i,hk,hst2,hs2⟩:=hI
 have hsu:=zCO f i
 have hlen:=zAe f i
 have hat:i<16→(zL (b16 f))[i]? =some (.bool (f i)):=fun h=>zDF (zDe h)
 obtain⟨M,hM⟩:∃M,M=memP f i:=⟨_,rfl⟩
 obtain⟨S,hS⟩:∃S,S=zL (b16 f):=⟨_,rfl⟩
 rw[←hM]at hsu hlen hs2
 rw[←hS]at hst2 hs2 hat
 by_cases hin:i<16
 ·have hb:S[(i:Int).toNat*1]? =some (.bool (f i)):=by rw[show(i:Int).toNat*1=i by omega];exact hat hin
  rw[hS]at hst2
  have hS2:=hS
  refine zI _ _ hs2 hst2 fun fr2=>?_
  cases c:f i with
  |true=>
   rw[c,if_pos rfl]at hsu
   rw[c]at hb
   cases M with
   |nil=>
    refine kQ (kp rfl (zC (k_seq (k_cT rfl (kF (by omega)) (zQ (k_seq (zM (kQ (zA rfl (wt rfl ty83 rfl rfl (Int.natCast_nonneg _) (by omega) cl4 sh4 hb ?_))))))))))
    refine zB rfl (zB rfl (zC (kQ (zA rfl (zC (k_cT rfl rfl ?_))))))
    refine k_region (zA rfl (zA rfl (zFS (es:=[.int .i64 ↑i]) rfl ty22 ze3 cl3 rfl rfl rfl rfl rfl rfl rfl rfl ?_)))
    refine zFT rfl zEF rfl rfl (by simp) (by simp) (by simp[yE,zd,oneU]) (by simp) ?_
    refine zB rfl (zC ?_)
    refine zI [(3,U.lst Kd.own 1 [.int .i64 ↑i]),(6,U.agg S),(7,.int .i64 ↑i)] ([SB.box (zL (b16 f))]) (.n3 rfl) rfl fun fr=>?_
    refine k_region ?_
    refine kz rfl (by unfold I64;omega) (zA rfl (zC ?_))
    exact⟨kk - 1,by omega,i+1,by omega,rfl,.cons (by rw[hsu];rfl) (.cons (by rw[←hS];rfl) (.n1 rfl))⟩
   |cons y M=>
    refine kQ (kp rfl (zC (k_seq (k_cT rfl (kF (by omega)) (zQ (k_seq (zM (kQ (zA rfl (wt rfl ty83 rfl rfl (Int.natCast_nonneg _) (by omega) cl4 sh4 hb ?_))))))))))
    refine zB rfl (zB rfl (zC (kQ (zA rfl (zC (k_cT rfl rfl ?_))))))
    refine k_region (zA rfl (zA rfl (zFS (es:=[.int .i64 ↑i]) rfl ty22 ze3 cl3 rfl rfl rfl rfl rfl rfl rfl rfl ?_)))
    refine o_appendS 3 rfl zEF rfl rfl rfl (by simp) (by simp) (by simp[yE,zd,oneU]) (by simp at hlen ⊢;omega) ?_
    refine zB rfl (zC (k_region ?_))
    refine kz rfl (by unfold I64;omega) (zA rfl (zC ?_))
    exact⟨kk - 1,by omega,i+1,by omega,rfl,.cons (by rw[hsu,accI_snoc];rfl) (.cons (by rw[←hS];rfl) (.n1 rfl))⟩
  |false=>
   rw[c,if_neg (by decide),List.append_nil]at hsu
   rw[c]at hb
   refine kQ (kp rfl (zC (k_seq (k_cT rfl (kF (by omega)) (zQ (k_seq (zM (kQ (zA rfl (wt rfl ty83 rfl rfl (Int.natCast_nonneg _) (by omega) cl4 sh4 hb ?_))))))))))
   refine zB rfl (zB rfl (zC (kQ (zA rfl (zC (k_cF rfl rfl ?_))))))
   refine zQ (k_region ?_)
   refine kz rfl (by unfold I64;omega) (zA rfl (zC ?_))
   exact⟨kk - 1,by omega,i+1,by omega,rfl,.cons (congrArg accI hsu.symm) (.cons (by rw[←hS];rfl) (.n1 rfl))⟩
 ·have hie:i=16:=by omega
  have hM2:memP f 16=M:=by rw[hM,hie]
  rw[hM2]
  clear hM hM2 hat hsu
  refine zI _ _ hs2 hst2 fun fr2=>?_
  cases M with
  |nil=>
   refine kQ (kp rfl (zC (k_seq (k_cF rfl (kG (by omega)) (yW (kQ (zA rfl (zA rfl (yl rfl ty22 rfl rfl ?_)))))))))
   refine zA rfl (yl rfl ty22 rfl rfl ?_)
   refine o_slice0 rfl ty22 cl3 rfl (by simp) rfl rfl (Nat.le_refl _) ?_
   refine zB rfl (zC (zg ?_))
   refine⟨.inr rfl,_,.cons _ _ _ _ (.tmp 2) .nil,?_⟩
   exact .ro .full 1 []
  |cons y M=>
   have ht:List.take (y::M).length (zD (y::M))=zD (y::M):=List.take_of_length_le (by simp)
   refine kQ (kp rfl (zC (k_seq (k_cF rfl (kG (by omega)) (yW (kQ (zA rfl (zA rfl (yl rfl ty22 rfl (List.length_map _) ?_)))))))))
   refine zA rfl (yl rfl ty22 rfl (List.length_map _) ?_)
   refine o_slice0 rfl ty22 cl3 rfl (by simp) rfl rfl (by simp) ?_
   refine zB rfl (zC (zg ?_))
   refine⟨.inr rfl,_,.cons _ _ _ _ (.tmp 2) .nil,?_⟩
   show UW (.u (.lst .full 1 (List.take (y::M).length (zD (y::M))))) _
   rw[ht]
   exact .ro _ _ _
end
end Go.Proofs.YthhbfbmfhldbaaaDoor.locks
