import Derived.Test.YthhbfbmfhldbaaaDoorVamT5
set_option linter.unusedVariables false
set_option linter.unusedSimpArgs false
set_option linter.constructorNameAsVariable false
namespace Go.Proofs.YthhbfbmfhldbaaaDoor.locks
open Vam
section
variable {is:FuncId→Bool}{orc:Known}{l:Ln}
noncomputable def b93:Code:=(Tryd.f93.body).getD .skip
theorem body93:bodyOf Tryd.prog 93=some (7,b93,[.tmp 2]):=by kernel_rfl
theorem pure93:pureFn Tryd.prog 93=true:=by kernel_rfl
noncomputable def b99:Code:=(Tryd.f99.body).getD .skip
theorem body99:bodyOf Tryd.prog 99=some (25,b99,[.tmp 4]):=by kernel_rfl
theorem pure99:pureFn Tryd.prog 99=true:=by kernel_rfl
theorem pl92:zFj Tryd.prog 92=some [(0,4),(4,1),(5,1)]:=by kernel_rfl
theorem sh92:shOf Tryd.prog 92=.many 6:=by kernel_rfl
theorem ze92:yO Tryd.prog 92=some ((.cons .nils (.cons (.int .i64 0) (.cons (.int .i64 0) (.cons (.int .i64 0) (.cons (.int .i64 0) (.cons .nils .nil)))))):V):=by kernel_rfl
noncomputable def b70:Code:=(Tryd.f70.body).getD .skip
theorem body70:bodyOf Tryd.prog 70=some (12,b70,[.cell 6 92]):=by kernel_rfl
theorem pure70:pureFn Tryd.prog 70=true:=by kernel_rfl
theorem zCr:yB Tryd.prog 92 0=some (0,73):=by kernel_rfl
theorem zCB:yB Tryd.prog 92 1=some (4,3):=by kernel_rfl
theorem fld92_2:yB Tryd.prog 92 2=some (5,22):=by kernel_rfl
noncomputable def b71:Code:=(Tryd.f71.body).getD .skip
theorem body71:bodyOf Tryd.prog 71=some (16,b71,[.tmp 2]):=by kernel_rfl
theorem pure71:pureFn Tryd.prog 71=true:=by kernel_rfl
theorem cl34:Program.cellsOf Tryd.prog 34=1:=by kernel_rfl
theorem sh34:shOf Tryd.prog 34=.one:=by kernel_rfl
theorem ty116:tyOf Tryd.prog 116=.slice 34:=by kernel_rfl
noncomputable def b56:Code:=(Tryd.f56.body).getD .skip
theorem body56:bodyOf Tryd.prog 56=some (23,b56,[.tmp 4]):=by kernel_rfl
theorem pure56:pureFn Tryd.prog 56=false:=by kernel_rfl
noncomputable def b74:Code:=(Tryd.f74.body).getD .skip
theorem body74:bodyOf Tryd.prog 74=some (5,b74,[.tmp 2]):=by kernel_rfl
theorem pure74:pureFn Tryd.prog 74=true:=by kernel_rfl
theorem ret93(hi:Off is)(w:Int):RetP Tryd.prog is orc 93 [.int .i64 w] (.bool (inS 0 1 w)):=by
 have q1:=ret77 (orc:=orc) hi 0 1 w
 refine yJ body93 pure93 (hi 93 (by decide)) rfl rfl (zAQ (.int _ _ _)) (.inl (.bool _ _)) ?_
 refine kQ (zC rfl (zB (kQ (zBS (i:=4) (c:=2) (n:=7) sh99 rfl rfl zDU cl99 rfl rfl rfl (gatB 4 (by decide)) rfl ?_))))
 refine zA rfl (zL rfl (q1) (.lrefl _) (zC rfl (zB (za ?_))))
 refine⟨.inr rfl,_,.cons _ _ _ _ (.tmp 2) .nil,?_⟩
 exact .refl _
theorem ret74(hi:Off is){w:Int}(hw:0≤w∧w≤1):RetP Tryd.prog is orc 74 [.int .i64 w] (.int .i64 (1 - w)):=by
 refine yJ body74 pure74 (hi 74 (by decide)) rfl rfl (zAQ (.int _ _ _)) (.inl (.int _ _ _)) ?_
 refine kQ (zC rfl (zB (kQ (zA rfl ?_))))
 refine o_sub rfl rfl rfl (by unfold I64;omega) (zC rfl (zB (za ?_)))
 refine⟨.inr rfl,_,.cons _ _ _ _ (.tmp 2) .nil,?_⟩
 exact .refl _
set_option maxHeartbeats 8000000 in
theorem ret99(hi:Off is){n:Nat}(hn:n≤16)(L:List Int):RetP Tryd.prog is orc 99 [.lst .ro 1 (zE L),.int .i64 n] (.bool (grwB (-1) n L)):=by
 refine yJ body99 pure99 (hi 99 (by decide)) rfl rfl (zAP (zw 6 .ro (fun h=>by cases h) 1 L) (.int _ _ _)) (.inl (.bool _ _)) ?_
 generalize hz:grwB (-1) n L=z
 refine kQ (zC rfl (zB (kQ (zC rfl (zB (k_seq (kQ (zA rfl (zi rfl ty22 rfl (List.length_map _) ?_)))))))))
 refine zA rfl (zB (zH ?_))
 refine yu (fun kk s2=>∃i:Nat,kk+i=L.length∧z=grwB (lstI L i) n (L.drop i)∧(i:Int)≤lstI L i+1∧lstI L i<16∧s2.st=[]∧Holds s2 [(1,.int .i64 n),(5,.int .i64 (lstI L i+1)),(8,.lst .ro 1 (zE L)),(9,.int .i64 L.length),(10,.int .i64 i)]) (fun kk s2 hI=>?_) L.length _ ⟨0,rfl,hz.symm,(by show(0:Int)≤ -1+1;omega),(by show(-1:Int)<16;omega),rfl,.c4 rfl rfl rfl rfl (.n1 rfl)⟩
 obtain⟨i,hk,hw,hb1,hb2,hst2,hs2⟩:=hI
 clear hz
 have hln:∀x,L[i]? =some x→lstI L (i+1)=x:=fun x hx=>by show(L[i]?).getD 0=x;rw[hx];rfl
 generalize lstI L i=p at*
 refine zI _ _ hs2 hst2 fun fr2=>?_
 by_cases hin:i<L.length
 ·obtain⟨x,hx⟩:∃x,L[i]? =some x:=⟨L[i],List.getElem?_eq_getElem hin⟩
  have hl2:=hln x hx
  rw[drop_at hx]at hw
  have hw:z=(decide (p<x)&&(decide (x<(n:Int))&&grwB x n (L.drop (i+1)))):=hw
  by_cases c1:p<x
  ·rw[kF c1,Bool.true_and]at hw
   by_cases c2:x<n
   ·rw[kF c2,Bool.true_and]at hw
    refine kQ (kp rfl (zB (k_seq (k_cT rfl (kF (by omega)) (zJ (k_seq (zH (kQ (zx (u:=.int .i64 (x)) rfl ty22 rfl rfl (Int.natCast_nonneg _) (by simp[hx]) cl3 ?_)))))))))
    refine kC sh3 rfl ?_
    refine zC rfl (zB (k_seq (kQ (zA rfl (zA rfl (kp rfl (zA rfl (kh rfl (kG (by omega)) (zA rfl (kh rfl (kG (by omega)) (zA rfl (kh rfl (kG (by omega)) (wK rfl rfl rfl (zc rfl rfl (kG (by omega)) ?_))))))))))))))
    refine zB ?_
    refine zI [(1,.int .i64 ↑n),(7,.int .i64 x),(8,.lst .ro 1 (zE L)),(9,.int .i64 ↑(List.length L)),(10,.int .i64 ↑i),(21,U.bool (decide (↑n≤x)))] ([]) (.n6 rfl) rfl fun fr=>?_
    refine k_cF rfl (kG (by omega)) (zJ (k_region (zA rfl ?_)))
    refine kz rfl (by unfold I64;omega) (zC rfl (zB (k_region ?_)))
    refine kz rfl (by unfold I64;omega) (zA rfl (zB ?_))
    exact⟨kk - 1,by omega,i+1,by omega,by rw[hl2];exact hw,by omega,by omega,rfl,.cons rfl (.cons (by rw[hl2];rfl) (.n3 rfl))⟩
   ·rw[kG c2,Bool.false_and]at hw
    obtain rfl:z=false:=hw
    refine kQ (kp rfl (zB (k_seq (k_cT rfl (kF (by omega)) (zJ (k_seq (zH (kQ (zx (u:=.int .i64 (x)) rfl ty22 rfl rfl (Int.natCast_nonneg _) (by simp[hx]) cl3 ?_)))))))))
    refine kC sh3 rfl ?_
    refine zC rfl (zB (k_seq (kQ (zA rfl (zA rfl (kp rfl (zA rfl (kh rfl (kG (by omega)) (zA rfl (kh rfl (kG (by omega)) (zA rfl (kh rfl (kG (by omega)) (wK rfl rfl rfl (zc rfl rfl (kG (by omega)) ?_))))))))))))))
    refine zB ?_
    refine zI [(1,.int .i64 ↑n),(7,.int .i64 x),(8,.lst .ro 1 (zE L)),(9,.int .i64 ↑(List.length L)),(10,.int .i64 ↑i),(21,U.bool (decide (↑n≤x)))] ([]) (.n6 rfl) rfl fun fr=>?_
    refine k_cT rfl (kF (by omega)) (kQ (zC rfl (zB (za ?_))))
    refine⟨.inr rfl,_,.cons _ _ _ _ (.tmp 4) .nil,?_⟩
    exact .refl _
  ·rw[kG c1,Bool.false_and]at hw
   obtain rfl:z=false:=hw
   refine kQ (kp rfl (zB (k_seq (k_cT rfl (kF (by omega)) (zJ (k_seq (zH (kQ (zx (u:=.int .i64 (x)) rfl ty22 rfl rfl (Int.natCast_nonneg _) (by simp[hx]) cl3 ?_)))))))))
   refine kC sh3 rfl ?_
   refine zC rfl (zB (k_seq (kQ (zA rfl (zA rfl (kp rfl (zA rfl (kg rfl (kF (by omega)) (kg rfl (kF (by omega)) (kg rfl (kF (by omega)) (zW rfl rfl (kF (by omega)) ?_)))))))))))
   refine zB ?_
   refine zI [(1,.int .i64 ↑n),(7,.int .i64 x),(8,.lst .ro 1 (zE L)),(9,.int .i64 ↑(List.length L)),(10,.int .i64 ↑i),(21,.bool true)] ([]) (.n6 rfl) rfl fun fr=>?_
   refine k_cT rfl rfl ?_
   refine kQ (zC rfl (zB (za ?_)))
   refine⟨.inr rfl,_,.cons _ _ _ _ (.tmp 4) .nil,?_⟩
   exact .refl _
 ·have hd:L.drop i=[]:=List.drop_eq_nil_of_le (by omega)
  rw[hd]at hw
  obtain rfl:z=true:=hw
  refine kQ (kp rfl (zB (k_seq (k_cF rfl (kG (by omega)) (yI (kQ (zC rfl (zB (za ?_)))))))))
  refine⟨.inr rfl,_,.cons _ _ _ _ (.tmp 4) .nil,?_⟩
  exact .refl _
abbrev witU(l:Ln)(w:Int)(H:List Int):U:=.agg [.lst .ro 1 (zE l.slots),.int .i64 l.left,.int .i64 l.right,.int .i64 l.run,.int .i64 w,.lst .ro 1 (zE H)]
theorem dat_wit(l:Ln)(w:Int)(H:List Int)(k:Nat):Dat (k+3) (witU l w H):=.agg _ _ fun c hc=>by
 simp only[List.mem_cons,List.not_mem_nil,or_false]at hc
 rcases hc with rfl|rfl|rfl|rfl|rfl|rfl
 ·exact zw k .ro (fun h=>by cases h) 1 _
 ·exact .int _ _ _
 ·exact .int _ _ _
 ·exact .int _ _ _
 ·exact .int _ _ _
 ·exact zw k .ro (fun h=>by cases h) 1 _
theorem ret70(hi:Off is)(l:Ln)(w:Int)(H:List Int):RetP Tryd.prog is orc 70 [l.u,.int .i64 w,.lst .ro 1 (zE H)] (witU l w H):=by
 refine yJ body70 pure70 (hi 70 (by decide)) rfl rfl (dat_l3 (zAO l 5) (.int _ _ _) (zw 6 .ro (fun h=>by cases h) 1 H)) (.inl (dat_wit l w H 5)) ?_
 refine kQ (yb rfl rfl (yL rfl ze92 ?_))
 refine zB ?_
 refine zI [(1,.int .i64 w),(2,.lst .ro 1 (zE H)),(3,U.box 0 0),(6,U.box 1 0)] ([SB.box [.lst .ro 1 (zE (Ln.slots l)),.int .i64 (Ln.left l),.int .i64 (Ln.right l),.int .i64 (Ln.run l)],SB.box [.lst .full 0 [],.int .i64 0,.int .i64 0,.int .i64 0,.int .i64 0,.lst .full 0 []]]) (.n4 rfl) rfl fun fr=>?_
 refine kQ (kB sh24 rfl (zBT rfl ze73 pl73 rfl rfl ?_))
 refine zA rfl (zA rfl (zBT rfl ze92 pl92 rfl rfl ?_))
 refine zp rfl rfl sh92 rfl rfl rfl rfl rfl ?_
 refine zB (za ?_)
 refine⟨.inr rfl,_,.cons _ _ _ _ (.cellN 6 92 _ _ _ _ rfl rfl sh92 rfl) .nil,?_⟩
 exact .refl _
def zAh(l:Ln)(w:Int)(H:List Int):Bool:=inS 0 1 w&&grwB (-1) l.slots.length H
theorem ret71(hi:Off is)(hn:l.slots.length≤16)(w:Int)(H:List Int):RetP Tryd.prog is orc 71 [witU l w H] (.bool (zAh l w H)):=by
 have q1:=ret93 (orc:=orc) hi w
 have q2:=ret99 (orc:=orc) hi hn H
 refine yJ body71 pure71 (hi 71 (by decide)) rfl rfl (zAQ (dat_wit l w H 5)) (.inl (.bool _ _)) ?_
 unfold zAh
 generalize inS 0 1 w=z1 at*
 generalize grwB (-1) l.slots.length H=z2 at*
 cases z1 with
 |false=>
  refine kQ (yb rfl rfl (zC rfl (zB ?_)))
  refine zI [(1,U.box 0 0)] ([SB.box [.lst .ro 1 (zE (Ln.slots l)),.int .i64 (Ln.left l),.int .i64 (Ln.right l),.int .i64 (Ln.run l),.int .i64 w,.lst .ro 1 (zE H)]]) (.n1 rfl) rfl fun fr=>?_
  refine kQ (kw rfl zCB (kA sh3 rfl (zL rfl (q1) (.lrefl _) (zA rfl (ke rfl (ke rfl (ke rfl (ke rfl (ke rfl ?_)))))))))
  refine zS [(6,.bool false)] [] ([SB.box [.lst .ro 1 (zE (Ln.slots l)),.int .i64 (Ln.left l),.int .i64 (Ln.right l),.int .i64 (Ln.run l),.int .i64 w,.lst .ro 1 (zE H)]]) (.n1 rfl) rfl rfl fun fr=>?_
  refine ke rfl (ke rfl (ke rfl (kD rfl ?_)))
  refine zC rfl (zB (za ?_))
  refine⟨.inr rfl,_,.cons _ _ _ _ (.tmp 2) .nil,?_⟩
  exact .refl _
 |true=>
  refine kQ (yb rfl rfl (zC rfl (zB ?_)))
  refine zI [(1,U.box 0 0)] ([SB.box [.lst .ro 1 (zE (Ln.slots l)),.int .i64 (Ln.left l),.int .i64 (Ln.right l),.int .i64 (Ln.run l),.int .i64 w,.lst .ro 1 (zE H)]]) (.n1 rfl) rfl fun fr=>?_
  refine kQ (kw rfl zCB (kA sh3 rfl (zL rfl (q1) (.lrefl _) (zA rfl (kf rfl (kw rfl fld92_2 (kf rfl (kA sh22 rfl (kf rfl (kw rfl zCr (kf rfl (kw rfl yX (kf rfl (kw rfl zO ?_))))))))))))))
  refine zS [(6,.bool true),(8,.lst .ro 1 (zE H)),(11,U.box 0 0)] [] ([SB.box [.lst .ro 1 (zE (Ln.slots l)),.int .i64 (Ln.left l),.int .i64 (Ln.right l),.int .i64 (Ln.run l),.int .i64 w,.lst .ro 1 (zE H)]]) (.n3 rfl) rfl rfl fun fr=>?_
  refine kf rfl ?_
  refine zS [(6,.bool true),(8,.lst .ro 1 (zE H)),(11,U.box 0 0)] [] ([SB.box [.lst .ro 1 (zE (Ln.slots l)),.int .i64 (Ln.left l),.int .i64 (Ln.right l),.int .i64 (Ln.run l),.int .i64 w,.lst .ro 1 (zE H)]]) (.n3 rfl) rfl rfl fun fr=>?_
  refine kA sh22 rfl (kf rfl (zi rfl ty22 rfl (List.length_map _) ?_))
  refine kf rfl (zL rfl (q2) (.lrefl _) (kE rfl ?_))
  refine zC rfl (zB (za ?_))
  refine⟨.inr rfl,_,.cons _ _ _ _ (.tmp 2) .nil,?_⟩
  exact .refl _
end
section
variable {is:FuncId→Bool}{orc:Known}{l:Ln}
noncomputable def b100:Code:=(Tryd.f100.body).getD .skip
theorem body100:bodyOf Tryd.prog 100=some (16,b100,[.cell 2 83]):=by kernel_rfl
theorem pure100:pureFn Tryd.prog 100=true:=by kernel_rfl
noncomputable def b67:Code:=(Tryd.f67.body).getD .skip
theorem body67:bodyOf Tryd.prog 67=some (22,b67,[.cell 4 83]):=by kernel_rfl
theorem pure67:pureFn Tryd.prog 67=true:=by kernel_rfl
noncomputable def b69:Code:=(Tryd.f69.body).getD .skip
theorem body69:bodyOf Tryd.prog 69=some (23,b69,[.tmp 2]):=by kernel_rfl
theorem pure69:pureFn Tryd.prog 69=true:=by kernel_rfl
structure Qs where
 g:Nat
 A:List U
 b:Bool
abbrev Qs.u(q:Qs):U:=.fn q.g q.A []
abbrev qsU(L:List Qs):List U:=L.map Qs.u
theorem nb_list{k:Kd}{z:Nat}{es:List U}(h:∀c∈yD es,NB c):NB (.lst k z es):=fun _ _ _ hv=>by
 cases hv with
 |nils=>exact .nils _ _
 |over _ _ cc h0 hk=>exact .over _ _ _ h0 hk
 |slice b off len cc sz m l1 l2 _ _ hb hd hl hc hle hk h0=>exact .slice b off len cc _ m l1 l2 _ _ hb hd (nbL h hl) hc hle hk h0
theorem nb_qs{L:List Qs}(h:∀q∈L,∀u∈q.A,NB u):∀c∈yD (qsU L),NB c:=fun c hc=>by
 obtain⟨e,he,hc⟩:=List.mem_flatMap.1 hc
 obtain⟨q,hq,rfl⟩:=List.mem_map.1 he
 rcases List.mem_singleton.1 hc with rfl
 exact NB.fn (h q hq) (fun u hu=>by cases hu)
def askI(l:Ln)(L:List Qs):Int:=if wX l=true then if L.all Qs.b=true then 0 else 71 else 70
theorem take_q{L:List Qs}{i:Nat}{q:Qs}(h:L[i]? =some q):(L.take (i+1)).all Qs.b=((L.take i).all Qs.b&&q.b):=take_all _ h
set_option maxHeartbeats 8000000 in
theorem ret56(hi:Off is)(l:Ln)(L:List Qs)(hn:∀q∈L,∀u∈q.A,NB u)(hr:wX l=true→∀(i:Nat) (q:Qs),L[i]? =some q→(L.take i).all Qs.b=true→RetP Tryd.prog is orc q.g q.A (.bool q.b))(hlen:L.length≤10):
  RetP Tryd.prog is orc 56 [l.u,.lst .ro 1 (qsU L)] (.int .i64 (askI l L)):=by
 have q17:=ret17 (orc:=orc) hi l
 refine zBO body56 pure56 rfl rfl (fun u hu=>?_) (.int _ _) ?_
 ·simp only[List.mem_cons,List.not_mem_nil,or_false]at hu
  rcases hu with rfl|rfl
  ·exact⟨(zAO l 5).nb,NoOwn.of fun z es h=>by cases h⟩
  ·exact⟨nb_list (nb_qs hn),NoOwn.of fun z es h=>by cases h⟩
 unfold askI
 cases hv:wX l with
 |false=>
  rw[hv,if_neg (by decide)]at q17
  rw[if_neg (by decide)]
  refine kQ (yb rfl rfl (zC rfl (zB ?_)))
  refine zI [(1,.lst .ro 1 (qsU L)),(2,U.box 0 0)] ([SB.box [.lst .ro 1 (zE (Ln.slots l)),.int .i64 (Ln.left l),.int .i64 (Ln.right l),.int .i64 (Ln.run l)]]) (.n2 rfl) rfl fun fr=>?_
  refine k_seq (kQ (kB sh24 rfl (zL rfl (q17) (.lrefl _) (zC rfl (zB (kQ (zA rfl (kr rfl (zB (k_cT rfl rfl ?_))))))))))
  refine kQ (zA rfl (zC rfl (zB (za ?_))))
  refine⟨.inr rfl,_,.cons _ _ _ _ (.tmp 4) .nil,?_⟩
  exact .refl _
 |true=>
  rw[hv,if_pos rfl]at q17
  rw[if_pos rfl]
  generalize hz:(if L.all Qs.b=true then(0:Int)else 71)=z
  refine kQ (yb rfl rfl (zC rfl (zB ?_)))
  refine zI [(1,.lst .ro 1 (qsU L)),(2,U.box 0 0)] ([SB.box [.lst .ro 1 (zE (Ln.slots l)),.int .i64 (Ln.left l),.int .i64 (Ln.right l),.int .i64 (Ln.run l)]]) (.n2 rfl) rfl fun fr=>?_
  refine k_seq (kQ (kB sh24 rfl (zL rfl (q17) (.lrefl _) (zC rfl (zB (kQ (zA rfl (kr rfl (zB (k_cF rfl rfl ?_))))))))))
  refine zJ (k_seq (kQ (zA rfl (zi rfl ty116 rfl (List.length_map _) ?_))))
  refine zA rfl (zB (zH ?_))
  refine yu (fun kk s2=>∃i:Nat,kk+i=L.length∧(L.take i).all Qs.b=true∧s2.st=[.box l.cs]∧Holds s2 [(13,.lst .ro 1 (qsU L)),(14,.int .i64 L.length),(15,.int .i64 i)]) (fun kk s2 hI=>?_) L.length _ ⟨0,rfl,rfl,rfl,.cons rfl (.n2 rfl)⟩
  obtain⟨i,hk,hall,hst2,hs2⟩:=hI
  refine zI _ _ hs2 hst2 fun fr2=>?_
  by_cases hin:i<L.length
  ·obtain⟨q,hq⟩:∃q,L[i]? =some q:=⟨L[i],List.getElem?_eq_getElem hin⟩
   have hqr:=hr hv i q hq hall
   have ht:=take_q hq
   rw[hall,Bool.true_and]at ht
   obtain⟨g,A,b⟩:=q
   have qc:RetP Tryd.prog is orc g (A++([]++[])) (.bool b):=by rw[List.append_nil,List.append_nil];exact hqr
   have eq:(qsU L)[i]? =some (.fn g A []):=by rw[List.getElem?_map,hq];rfl
   cases b with
   |true=>
    refine kQ (kp rfl (zB (k_seq (k_cT rfl (kF (by omega)) (zJ (k_seq (zH (kQ (zx (u:=.fn g A []) rfl ty116 rfl rfl (Int.natCast_nonneg _) (by simpa using eq) cl34 ?_)))))))))
    refine kC sh34 rfl ?_
    refine zC rfl (zB (kQ (zA rfl (zCQ rfl rfl qc (.lrefl _) ?_))))
    refine yW rfl rfl (zB (k_cF rfl rfl ?_))
    refine zJ (k_region ?_)
    refine kz rfl (by unfold I64;omega) (zA rfl (zB ?_))
    exact⟨kk - 1,by omega,i+1,by omega,ht,rfl,.cons rfl (.n2 rfl)⟩
   |false=>
    have hz2:z=71:=by
     rw[←hz,if_neg]
     intro ha
     have:=(List.all_eq_true.1 ha) _ (List.mem_of_getElem? hq)
     cases this
    subst hz2
    refine kQ (kp rfl (zB (k_seq (k_cT rfl (kF (by omega)) (zJ (k_seq (zH (kQ (zx (u:=.fn g A []) rfl ty116 rfl rfl (Int.natCast_nonneg _) (by simpa using eq) cl34 ?_)))))))))
    refine kC sh34 rfl ?_
    refine zC rfl (zB (kQ (zA rfl (zCQ rfl rfl qc (.lrefl _) ?_))))
    refine yW rfl rfl (zB (k_cT rfl rfl ?_))
    refine kQ (zC rfl (zB (za ?_)))
    refine⟨.inr rfl,_,.cons _ _ _ _ (.tmp 4) .nil,?_⟩
    exact .refl _
  ·have hz2:z=0:=by
    rw[←hz,if_pos]
    rw[List.take_of_length_le (by omega)]at hall
    exact hall
   subst hz2
   refine kQ (kp rfl (zB (k_seq (k_cF rfl (kG (by omega)) (yI (kQ (zC rfl (zB (za ?_)))))))))
   refine⟨.inr rfl,_,.cons _ _ _ _ (.tmp 4) .nil,?_⟩
   exact .refl _
end
end Go.Proofs.YthhbfbmfhldbaaaDoor.locks
