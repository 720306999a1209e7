import Derived.Test.YtlknfhjfkcboiaaDoorVamT15
set_option linter.unusedVariables false
set_option linter.unusedSimpArgs false
set_option linter.constructorNameAsVariable false
namespace Go.Proofs.YtlknfhjfkcboiaaDoor.night
open Vam
section
variable {is:FuncId→Bool}{orc:Known}
noncomputable def b5:Code:=(Tryd.f5.body).getD .skip
theorem body5:bodyOf Tryd.prog 5=some (160,b5,[.tmp 4]):=by kernel_rfl
theorem pure5:pureFn Tryd.prog 5=true:=by kernel_rfl
set_option maxHeartbeats 8000000 in
theorem wpc60j(hi:Off is){b:Bk}(hb:zCP b=false){st:List SB}{g:Nat}{B:List U}:WpC Tryd.prog is orc 60 [b.u,.lst .ro 1 [.fn g [] B]] st fun u st'=>u=.tup [zerU,.int .i64 100]∧∃e,st'=st++e:=by
 refine zEk body60 pure60 rfl rfl ?_
 have q17:=ret17 (orc:=orc) hi b
 rw[hb,if_neg (by decide)]at q17
 refine kQ (yF rfl rfl (zu rfl ze70 ?_))
 refine zB rfl (zC ?_)
 refine zH [(1,.lst .ro 1 [U.fn g [] B]),(2,U.box (List.length st) 0),(4,U.box (List.length (st++[SB.box (Bk.cs b)])) 0)] (st++[SB.box (Bk.cs b)]++[SB.box [.int .i64 0,.lst .full 0 [],.lst .full 0 [],.lst .full 0 [],.int .i64 0,.lst .full 0 [],.int .i64 0,.int .i64 0,.int .i64 0,.lst .full 0 []]]) (.cons rfl (.cons rfl (.cons rfl (.nil rfl)))) rfl fun fr=>?_
 refine k_seq (kQ (zS rfl rfl (ya (zk _ _)) sh25 rfl ?_))
 refine zM rfl (q17) (.lrefl _) (zB rfl (zC (kQ (zA rfl (wF rfl rfl rfl (zC (k_cT rfl rfl ?_)))))))
 refine kQ (wG rfl ze70 pl70 rfl rfl ?_)
 refine zA rfl (zc rfl (zk _ _) sh70 rfl rfl rfl rfl rfl ?_)
 refine zB rfl (zC (zX ?_))
 refine⟨.inr rfl,_,.cons _ _ _ _ (.cellN 4 70 (st++[SB.box (Bk.cs b)]).length 0 10 [.int .i64 0,.lst .full 0 [],.lst .full 0 [],.lst .full 0 [],.int .i64 0,.lst .full 0 [],.int .i64 0,.int .i64 0,.int .i64 0,.lst .full 0 []] rfl (by show(((st++[SB.box (Bk.cs b)])++[SB.box _]).set (st++[SB.box (Bk.cs b)]).length (SB.box _))[(st++[SB.box (Bk.cs b)]).length]? =_;rw[wK];exact zk _ _) sh70 rfl) (.cons _ _ _ _ (.tmp 5) .nil),_,.refl _,rfl,[SB.box (Bk.cs b),.box _],(by show((st++[SB.box (Bk.cs b)])++[SB.box _]).set (st++[SB.box (Bk.cs b)]).length (SB.box _)=_;rw[wK,List.append_assoc];rfl)⟩
theorem ret25j(hi:Off is){b:Bk}(hv:zCP b=false)(d:List Int):RetP Tryd.prog is orc 25 [b.u,.lst .ro 1 (zF d)] (.tup [.lst .full 0 [],.int .i64 100]):=by
 refine zw body25 pure25 (hi 25 (by decide)) rfl rfl (yE (wV b 4) (zY 6 .ro (fun h=>by cases h) 1 d)) (.inr ⟨_,rfl,yE (k:=7) (dat_fe 5) (.int _ _ _)⟩) ?_
 refine kQ (yF rfl rfl (yF rfl rfl (zB rfl (zB rfl (zC ?_)))))
 refine zH [(2,U.box 0 0),(3,U.box 1 0)] ([SB.box (Bk.cs b),SB.box [.lst .ro 1 (zF d)]]) (.cons rfl (.cons rfl (.nil rfl))) rfl fun fr=>?_
 refine kQ (zS rfl rfl rfl sh25 rfl ?_)
 refine zEp rfl ?_
 refine zAY (es:=[U.fn 61 [] [U.box 1 0]]) rfl ty104 ze82 cl82 rfl rfl rfl rfl rfl rfl rfl rfl ?_
 refine zEO rfl (wpc60j hi hv) (.lcons _ _ _ _ (.refl _) (.lcons _ _ _ _ (.ro _ _ _) (.lrefl _))) (fun u st1 hM=>?_)
 obtain⟨rfl,e,rfl⟩:=hM
 refine zA rfl (zN rfl rfl rfl (zN rfl rfl rfl (zu rfl ze70 ?_)))
 refine zc rfl (zk _ _) sh70 rfl rfl rfl rfl rfl ?_
 refine zB rfl (zC ?_)
 refine zH [(3,U.box 1 0),(6,U.box (List.length (SB.box (Bk.cs b)::SB.box [.lst .ro 1 (zF d)]::List.append [] e)) 0),(7,.int .i64 100)] (SB.box (Bk.cs b)::SB.box [.lst .ro 1 (zF d)]::List.set (List.append (List.append [] e) [SB.box (yn (V.cons (V.int .i64 (0:Int)) (V.cons V.nils (V.cons V.nils (V.cons V.nils (V.cons (V.int .i64 (0:Int)) (V.cons V.nils (V.cons (V.int .i64 (0:Int)) (V.cons (V.int .i64 (0:Int)) (V.cons (V.int .i64 (0:Int)) (V.cons V.nils V.nil)))))))))))]) (List.length (List.append [] e)) (SB.box [.int .i64 0,.lst .full 0 [],.lst .full 0 [],.lst .full 0 [],.int .i64 0,.lst .full 0 [],.int .i64 0,.int .i64 0,.int .i64 0,.lst .full 0 []])) (.cons rfl (.cons rfl (.cons rfl (.nil rfl)))) rfl fun fr=>?_
 refine k_seq (kQ (zA rfl (wF rfl rfl rfl (zC ?_))))
 refine zH [(3,U.box 1 0),(6,U.box (List.length (SB.box (Bk.cs b)::SB.box [.lst .ro 1 (zF d)]::List.append [] e)) 0),(7,.int .i64 100),(18,U.bool (decide ((100:Int)≠(0:Int))))] (SB.box (Bk.cs b)::SB.box [.lst .ro 1 (zF d)]::List.set (List.append (List.append [] e) [SB.box (yn (V.cons (V.int .i64 (0:Int)) (V.cons V.nils (V.cons V.nils (V.cons V.nils (V.cons (V.int .i64 (0:Int)) (V.cons V.nils (V.cons (V.int .i64 (0:Int)) (V.cons (V.int .i64 (0:Int)) (V.cons (V.int .i64 (0:Int)) (V.cons V.nils V.nil)))))))))))]) (List.length (List.append [] e)) (SB.box [.int .i64 0,.lst .full 0 [],.lst .full 0 [],.lst .full 0 [],.int .i64 0,.lst .full 0 [],.int .i64 0,.int .i64 0,.int .i64 0,.lst .full 0 []])) (.c4 rfl rfl rfl rfl (.nil rfl)) rfl fun fr=>?_
 refine k_cT rfl rfl ?_
 refine kQ (zA rfl (zB rfl (zB rfl (zC (zX ?_)))))
 refine⟨.inr rfl,_,.cons _ _ _ _ (.tmp 4) (.cons _ _ _ _ (.tmp 5) .nil),?_⟩
 exact .refl _
theorem ret21j(hi:Off is){b:Bk}(hv:zCP b=false):RetP Tryd.prog is orc 21 [b.u] (.tup [.lst .full 0 [],.int .i64 100]):=by
 have q25:=ret25j (orc:=orc) hi hv []
 refine zw body21 pure21 (hi 21 (by decide)) rfl rfl (zBY (wV b 4)) (.inr ⟨_,rfl,yE (k:=7) (dat_fe 5) (.int _ _ _)⟩) ?_
 refine kQ (yF rfl rfl (zB rfl (zB rfl (zC ?_))))
 refine zH [(1,U.box 0 0)] ([SB.box (Bk.cs b)]) (.cons rfl (.nil rfl)) rfl fun fr=>?_
 refine kQ (zS rfl rfl rfl sh25 rfl (zM rfl (q25) (.lcons _ _ _ _ (.refl _) (.lcons _ _ _ _ (.nil _ _ _) (.lrefl _))) ?_))
 refine zN rfl rfl rfl (zN rfl rfl rfl (zB rfl (zB rfl (zC (zX ?_)))))
 refine⟨.inr rfl,_,.cons _ _ _ _ (.tmp 2) (.cons _ _ _ _ (.tmp 3) .nil),?_⟩
 exact .refl _
theorem tru_play{b:Bk}(h:BOk b)(bits:List Int):zEM b (truL b bits b.scenes.length)=true:=by
 unfold zEM
 rw[zFH,decide_eq_true rfl,Bool.true_and]
 have key:∀(k i:Nat),i+k=b.scenes.length→plF b i ((truL b bits b.scenes.length).drop i)=true:=by
  intro k
  induction k with
  |zero=>intro i hi;rw[List.drop_eq_nil_of_le (by rw[zFH];omega)];rfl
  |succ k ih=>
   intro i hi
   have hq:b.scenes[i]? =some (b.scenes[i]'(by omega)):=List.getElem?_eq_getElem (by omega)
   rw[zBJ (truL_at (by omega))]
   show((match b.scenes[i]? with|none=>false|some q=>inS q.lo q.hi (truI b bits i))&&plF b (i+1) _)=true
   rw[ih (i+1) (by omega),Bool.and_true,hq]
   exact zAr.2 (zGa h bits hq)
 exact key b.scenes.length 0 (by omega)
theorem tru_goes{b:Bk}(h:BOk b)(bits:List Int):Goes b [] (truL b bits b.scenes.length):=dn_goes h bits (Nat.zero_le _)
theorem flat_tri(x y z:Int):FlatU (.agg (tri x y z)):=.agg _ fun c hc=>by
 simp only[List.mem_cons,List.not_mem_nil,or_false]at hc
 rcases hc with rfl|rfl|rfl<;>exact .int _ _
set_option maxHeartbeats 16000000 in
set_option maxRecDepth 20000 in
theorem ret5(hi:Off is)(b:Bk)(bits:List Int)(r24:RetP Tryd.prog is orc 24 [] (.bool true)):RetP Tryd.prog is orc 5 [b.u,.lst .ro 1 (zF bits)] (.bool true):=by
 have q29:=ret29 (orc:=orc) hi b
 refine zw body5 pure5 (hi 5 (by decide)) rfl rfl (yE (wV b 4) (zY 6 .ro (fun h=>by cases h) 1 bits)) (.inl (.bool _ _)) ?_
 cases hv:zCP b with
 |false=>
  rw[hv]at q29
  have q21:=ret21j (orc:=orc) hi hv
  refine kQ (yF rfl rfl (zB rfl (zC ?_)))
  refine zH [(1,.lst .ro 1 (zF bits)),(2,U.box 0 0)] ([SB.box (Bk.cs b)]) (.cons rfl (.cons rfl (.nil rfl))) rfl fun fr=>?_
  refine kQ (zS rfl rfl rfl sh25 rfl (zM rfl (q21) (.lrefl _) (zA rfl (zN rfl rfl rfl (zN rfl rfl rfl (zB rfl (zB rfl (zC ?_))))))))
  refine k_seq (kQ (zS rfl rfl rfl sh25 rfl (zM rfl (q29) (.lrefl _) (yC rfl rfl (zC (k_cT rfl rfl ?_))))))
  refine kQ (zA rfl (zAS rfl rfl rfl (zA rfl (o_gD rfl rfl rfl rfl rfl (zA rfl (o_gD rfl rfl rfl rfl rfl (zd rfl ty22 rfl rfl ?_)))))))
  refine o_gD rfl rfl rfl rfl rfl (zAS rfl rfl rfl (zV rfl rfl rfl ?_))
  refine zA rfl (o_gD rfl rfl rfl rfl rfl (zM rfl (r24) (.lrefl _) (zV rfl rfl rfl ?_)))
  refine zB rfl (zC (zX ?_))
  refine⟨.inr rfl,_,.cons _ _ _ _ (.tmp 4) .nil,?_⟩
  exact .refl _
 |true=>
  rw[hv]at q29
  have h:=(zFZ b).1 hv
  have hn:=h.sn
  have q21:=ret21 (orc:=orc) hi h
  have q30:=ret30 (orc:=orc) hi h bits
  have hpl:=tru_play h bits
  have hgo:=tru_goes h bits
  have htr:=tru_rg h bits
  obtain⟨T,hT⟩:∃T,T=truL b bits b.scenes.length:=⟨_,rfl⟩
  rw[←hT]at q30 hpl hgo htr
  have q27:=ret27 (orc:=orc) hi h hpl
  unfold playR at q27
  cases ho:lgt b []with
  |none=>
   rw[ho]at q21
   have q21:RetP Tryd.prog is orc 21 [b.u] (.tup [.lst .full 0 [],.int .i64 4]):=q21
   rw[play_no h ho]at q27
   have q27:RetP Tryd.prog is orc 27 [b.u,.lst .ro 1 (zF T)] (.tup [.lst .full 0 [],.int .i64 4]):=q27
   refine kQ (yF rfl rfl (zB rfl (zC ?_)))
   refine zH [(1,.lst .ro 1 (zF bits)),(2,U.box 0 0)] ([SB.box (Bk.cs b)]) (.cons rfl (.cons rfl (.nil rfl))) rfl fun fr=>?_
   refine kQ (zS rfl rfl rfl sh25 rfl (zM rfl (q21) (.lrefl _) (zA rfl (zN rfl rfl rfl (zN rfl rfl rfl (zB rfl (zB rfl (zC ?_))))))))
   refine k_seq (kQ (zS rfl rfl rfl sh25 rfl (zM rfl (q29) (.lrefl _) (yC rfl rfl (zC (k_cF rfl rfl ?_))))))
   refine zL (kQ (zS rfl rfl rfl sh25 rfl (zA rfl (zM rfl (q30) (.lrefl _) (zB rfl (zC ?_))))))
   refine zH [(2,U.box 0 0),(5,.lst .full 0 []),(6,.int .i64 4),(7,.lst .ro 1 (zF T))] ([SB.box (Bk.cs b)]) (.c4 rfl rfl rfl rfl (.nil rfl)) rfl fun fr=>?_
   refine kQ (zS rfl rfl rfl sh25 rfl (zA rfl (zM rfl (q27) (.lrefl _) (zA rfl (zN rfl rfl rfl (zN rfl rfl rfl (zB rfl (zB rfl ?_))))))))
   refine zC (k_seq (kQ (zA rfl (wF rfl rfl rfl (zC (k_cT rfl rfl ?_))))))
   refine kQ (zA rfl (zAS rfl rfl rfl (zA rfl (o_gD rfl rfl rfl rfl rfl (zA rfl (o_gD rfl rfl rfl rfl rfl (zA rfl (o_gD rfl rfl rfl rfl rfl ?_))))))))
   refine zAS rfl rfl rfl (zV rfl rfl rfl ?_)
   refine zA rfl (o_gD rfl rfl rfl rfl rfl (zA rfl ?_))
   refine zP [(8,.lst .full 0 []),(53,U.bool (decide ((4:Int)=(4:Int)))),(54,.lst .full 0 [])] [] ([SB.box (Bk.cs b)]) (.cons rfl (.cons rfl (.cons rfl (.nil rfl)))) rfl rfl fun fr=>?_
   refine o_gD rfl rfl rfl rfl rfl ?_
   refine zP [(8,.lst .full 0 []),(53,U.bool (decide ((4:Int)=(4:Int)))),(54,.lst .full 0 [])] [] ([SB.box (Bk.cs b)]) (.cons rfl (.cons rfl (.cons rfl (.nil rfl)))) rfl rfl fun fr=>?_
   refine zd rfl ty22 rfl rfl ?_
   refine o_gD rfl rfl rfl rfl rfl (zA rfl (o_gD rfl rfl rfl rfl rfl (zd rfl ty22 rfl rfl ?_)))
   refine o_gD rfl rfl rfl rfl rfl ?_
   refine yH (a:=0) (b:=0) rfl rfl rfl (by unfold I64;omega) ?_
   refine o_gD rfl rfl rfl rfl rfl (zAS rfl rfl rfl (zV rfl rfl rfl ?_))
   refine zA rfl (o_gD rfl rfl rfl rfl rfl (zM rfl (r24) (.lrefl _) (zV rfl rfl rfl ?_)))
   refine zP [(63,.bool true)] [] ([SB.box (Bk.cs b)]) (.cons rfl (.nil rfl)) rfl rfl fun fr=>?_
   refine zB rfl (zC (zX ?_))
   refine⟨.inr rfl,_,.cons _ _ _ _ (.tmp 4) .nil,?_⟩
   exact .refl _
  |some m=>
   rw[ho]at q21
   have q21:RetP Tryd.prog is orc 21 [b.u] (.tup [.lst .ro 1 (zF m),.int .i64 0]):=q21
   obtain⟨D,hD,hDl,hcD,hwD,heD⟩:=play_end h hpl ho
   rw[hD]at q27
   have q27:RetP Tryd.prog is orc 27 [b.u,.lst .ro 1 (zF T)] (.tup [.lst .ro 1 (zF (zBN D)),.int .i64 0]):=q27
   obtain⟨⟨hm1,hm2⟩,_⟩:=zDH ho
   have hcm:=chs_cho hm1
   have hml:=hcm.len
   have hpl2:=hcD.len
   have hem:=fit_goes hm1 hm2 hgo
   generalize zBN D=p at*
   have q14:=ret14 (orc:=orc) hi h hcm
   have q19:=ret19 (orc:=orc) hi h m
   rw[cho_iff.2 hcm,if_pos rfl,hm2]at q19
   have q31a:=ret31 (orc:=orc) hi h hcm
   have q31b:=ret31 (orc:=orc) hi h hcD
   have q32a:=ret32 (orc:=orc) hi h (L:=m) (by omega) hcm.rg
   have q32b:=ret32 (orc:=orc) hi h (L:=p) (by omega) hcD.rg
   have q33a:=ret33 (orc:=orc) hi h (L:=m) (t:=T) (by omega) hgo.len (fun x hx=>by have:=htr x hx;omega)
   have q33b:=ret33 (orc:=orc) hi h (L:=p) (t:=T) (by omega) hgo.len (fun x hx=>by have:=htr x hx;omega)
   have tk1:∀(e:Bool) (i:Nat) (q:Sc),tkI [] e i q=endI e q:=fun e i q=>if_neg (by simp)
   have tk2:∀(i:Nat) (q:Sc),b.scenes[i]? =some q→tkI T true i q=truI b bits i:=fun i q hq=>by
    have hil:=(List.getElem?_eq_some_iff.1 hq).1
    unfold tkI
    rw[if_pos (by rw[hgo.len];exact hil),hT,truL_at hil];rfl
   have hlo:∀k,clS b [] m false k≤clS b T m true k:=fun k=>cl_le (fun i q hq _=>by rw[tk1,tk2 i q hq];exact(zGa h bits hq).1) k
   have hhi:∀k,clS b T m true k≤clS b [] m true k:=fun k=>cl_le (fun i q hq _=>by rw[tk1,tk2 i q hq];exact(zGa h bits hq).2) k
   have hen:=h.en
   obtain⟨e0,he0⟩:∃x,b.ends[0]? =some x:=⟨b.ends[0],List.getElem?_eq_getElem (by omega)⟩
   obtain⟨e1,he1⟩:∃x,b.ends[1]? =some x:=⟨b.ends[1],List.getElem?_eq_getElem (by omega)⟩
   obtain⟨e2,he2⟩:∃x,b.ends[2]? =some x:=⟨b.ends[2],List.getElem?_eq_getElem (by omega)⟩
   have f0:=hem 0 (by decide)
   have f1:=hem 1 (by decide)
   have f2:=hem 2 (by decide)
   have g0:=heD 0 (by decide)
   have g1:=heD 1 (by decide)
   have g2:=heD 2 (by decide)
   rw[he0]at f0 g0
   rw[he1]at f1 g1
   rw[he2]at f2 g2
   have f0:clS b T m true 1≤e0:=f0
   have f1:clS b T m true 2≤e1:=f1
   have f2:clS b T m true 3≤e2:=f2
   have g0:clS b T p true 1≤e0:=g0
   have g1:clS b T p true 2≤e1:=g1
   have g2:clS b T p true 3≤e2:=g2
   have l1:=hlo 1
   have l2:=hlo 2
   have l3:=hlo 3
   have u1:=hhi 1
   have u2:=hhi 2
   have u3:=hhi 3
   have q34a:=ret34 (orc:=orc) hi (clS b [] m false 1) (clS b [] m true 1) (clS b T m true 1)
   have q34b:=ret34 (orc:=orc) hi (clS b [] m false 2) (clS b [] m true 2) (clS b T m true 2)
   have q34c:=ret34 (orc:=orc) hi (clS b [] m false 3) (clS b [] m true 3) (clS b T m true 3)
   rw[zAr.2 ⟨l1,u1⟩]at q34a
   rw[zAr.2 ⟨l2,u2⟩]at q34b
   rw[zAr.2 ⟨l3,u3⟩]at q34c
   unfold spL at q14
   generalize clS b [] m false 1=L1 at*
   generalize clS b [] m false 2=L2 at*
   generalize clS b [] m false 3=L3 at*
   generalize clS b [] m true 1=U1 at*
   generalize clS b [] m true 2=U2 at*
   generalize clS b [] m true 3=U3 at*
   generalize clS b T m true 1=C1 at*
   generalize clS b T m true 2=C2 at*
   generalize clS b T m true 3=C3 at*
   generalize clS b T p true 1=P1 at*
   generalize clS b T p true 2=P2 at*
   generalize clS b T p true 3=P3 at*
   generalize wt b m=wm at*
   generalize wt b p=wp at*
   have k107:decide ((([⟨L1,U1⟩,⟨L2,U2⟩,⟨L3,U3⟩]:List Two).length:Int)≠3)=false:=by simp
   refine kQ (yF rfl rfl (zB rfl (zC ?_)))
   refine zH [(1,.lst .ro 1 (zF bits)),(2,U.box 0 0)] ([SB.box (Bk.cs b)]) (.cons rfl (.cons rfl (.nil rfl))) rfl fun fr=>?_
   refine kQ (zS rfl rfl rfl sh25 rfl (zM rfl (q21) (.lrefl _) (zA rfl (zN rfl rfl rfl (zN rfl rfl rfl (zB rfl (zB rfl (zC ?_))))))))
   refine k_seq (kQ (zS rfl rfl rfl sh25 rfl (zM rfl (q29) (.lrefl _) (yC rfl rfl (zC (k_cF rfl rfl ?_))))))
   refine zL (kQ (zS rfl rfl rfl sh25 rfl (zA rfl (zM rfl (q30) (.lrefl _) (zB rfl (zC ?_))))))
   refine zH [(2,U.box 0 0),(5,.lst .ro 1 (zF m)),(6,.int .i64 0),(7,.lst .ro 1 (zF T))] ([SB.box (Bk.cs b)]) (.c4 rfl rfl rfl rfl (.nil rfl)) rfl fun fr=>?_
   refine kQ (zS rfl rfl rfl sh25 rfl (zA rfl (zM rfl (q27) (.lrefl _) (zA rfl (zN rfl rfl rfl (zN rfl rfl rfl (zB rfl (zB rfl ?_))))))))
   refine zC (k_seq (kQ (zA rfl (wF rfl rfl rfl (zC (k_cF rfl rfl ?_))))))
   refine zL (kQ (zS rfl rfl rfl sh25 rfl (zA rfl (zM rfl (q14) (.lrefl _) (zA rfl (zN rfl rfl rfl (zN rfl rfl rfl (zB rfl ?_))))))))
   refine zB rfl (zC ?_)
   refine zH [(2,U.box 0 0),(5,.lst .ro 1 (zF m)),(7,.lst .ro 1 (zF T)),(8,.lst .ro 1 (zF p)),(9,.int .i64 0),(10,.lst .ro 2 (wD [{a:=L1,b:=U1},{a:=L2,b:=U2},{a:=L3,b:=U3}])),(11,.int .i64 0)] ([SB.box (Bk.cs b)]) (.c4 rfl rfl rfl rfl (.cons rfl (.cons rfl (.cons rfl (.nil rfl))))) rfl fun fr=>?_
   refine kQ (zS rfl rfl rfl sh25 rfl (zA rfl (zM rfl (q19) (.lrefl _) (zA rfl (zN rfl rfl rfl (zN rfl rfl rfl (zB rfl (zB rfl ?_))))))))
   refine zC (k_seq (k_seq (wn [.plain,.plain,.plain,.plain,.plain,.plain,.plain,.plain,.plain,.plain,.plain,.plain,.plain,.plain,.plain,.plain,.plain,.plain,.plain,.plain,.plain,.plain,.plain,.plain,.plain,.plain,.plain,.plain,.plain,.plain,.plain,.plain,.read true,.plain,.read false,.read true,.plain,.plain,.plain,.plain] (by kernel_rfl) (by kernel_rfl) (by kernel_rfl) ?_)))
   refine zD (zA rfl (zC rfl)) (zD (wF rfl rfl rfl (zC rfl)) ?_)
   refine zD (zA rfl (zC rfl)) (d_gD rfl rfl rfl rfl rfl (zD (zA rfl (zC rfl)) (d_gD rfl rfl rfl rfl rfl (zD (wF rfl rfl rfl (zC rfl)) ?_))))
   refine zD (zO rfl rfl rfl (zC rfl)) ?_
   refine zD (zA rfl (zC rfl)) (d_gD rfl rfl rfl rfl rfl (zD (zA rfl (zC rfl)) (d_gD rfl rfl rfl rfl rfl (zD (wF rfl rfl rfl (zC rfl)) ?_))))
   refine yz [(2,U.box 0 0),(5,.lst .ro 1 (zF m)),(7,.lst .ro 1 (zF T)),(8,.lst .ro 1 (zF p)),(10,.lst .ro 2 (wD [{a:=L1,b:=U1},{a:=L2,b:=U2},{a:=L3,b:=U3}])),(12,U.bool (Bool.true&&Bool.true)),(82,U.bool (decide ((0:Int)≠(0:Int)))),(84,U.bool (decide ((0:Int)≠(0:Int))))] [] ([SB.box (Bk.cs b)]) (.c4 rfl rfl rfl rfl (.c4 rfl rfl rfl rfl (.nil rfl))) rfl rfl fun fr=>?_
   refine zD (zO rfl rfl rfl (zC rfl)) ?_
   refine zD (zA rfl (zC rfl)) (d_gD rfl rfl rfl rfl rfl (zD (zA rfl (zC rfl)) (d_gD rfl rfl rfl rfl rfl (zD (yC rfl rfl (zC rfl)) ?_))))
   refine zD (zO rfl rfl rfl (zC rfl)) ?_
   refine zD (zA rfl (zC rfl)) (d_gD rfl rfl rfl rfl rfl (zD (zS rfl rfl rfl sh25 rfl (zC rfl)) ?_))
   refine d_gD rfl rfl rfl rfl rfl (zD (zA rfl (zC rfl)) (d_gD rfl rfl rfl rfl rfl (zD (zM rfl (q31a) (.lrefl _) (zC rfl)) ?_)))
   refine yz [(2,U.box 0 0),(5,.lst .ro 1 (zF m)),(7,.lst .ro 1 (zF T)),(8,.lst .ro 1 (zF p)),(10,.lst .ro 2 (wD [{a:=L1,b:=U1},{a:=L2,b:=U2},{a:=L3,b:=U3}])),(90,U.bool !(Bool.true&&Bool.true)),(93,.bool true)] [] ([SB.box (Bk.cs b)]) (.c4 rfl rfl rfl rfl (.cons rfl (.cons rfl (.cons rfl (.nil rfl))))) rfl rfl fun fr=>?_
   refine d_gD rfl rfl rfl rfl rfl ?_
   refine yz [(2,U.box 0 0),(5,.lst .ro 1 (zF m)),(7,.lst .ro 1 (zF T)),(8,.lst .ro 1 (zF p)),(10,.lst .ro 2 (wD [{a:=L1,b:=U1},{a:=L2,b:=U2},{a:=L3,b:=U3}])),(90,U.bool !(Bool.true&&Bool.true)),(93,.bool true)] [] ([SB.box (Bk.cs b)]) (.c4 rfl rfl rfl rfl (.cons rfl (.cons rfl (.cons rfl (.nil rfl))))) rfl rfl fun fr=>?_
   refine zD (yC rfl rfl (zC rfl)) ?_
   refine zD (zO rfl rfl rfl (zC rfl)) ?_
   refine zD (zA rfl (zC rfl)) (d_gD rfl rfl rfl rfl rfl (zD (zS rfl rfl rfl sh25 rfl (zC rfl)) ?_))
   refine d_gD rfl rfl rfl rfl rfl (zD (zA rfl (zC rfl)) (d_gD rfl rfl rfl rfl rfl (zD (zM rfl (q31b) (.lrefl _) (zC rfl)) ?_)))
   refine d_gD rfl rfl rfl rfl rfl (zD (yC rfl rfl (zC rfl)) ?_)
   refine zD (zO rfl rfl rfl (zC rfl)) ?_
   refine zD (zA rfl (zC rfl)) ?_
   refine yz [(2,U.box 0 0),(5,.lst .ro 1 (zF m)),(7,.lst .ro 1 (zF T)),(8,.lst .ro 1 (zF p)),(10,.lst .ro 2 (wD [{a:=L1,b:=U1},{a:=L2,b:=U2},{a:=L3,b:=U3}])),(102,U.bool !Bool.true)] [] ([SB.box (Bk.cs b)]) (.c4 rfl rfl rfl rfl (.cons rfl (.cons rfl (.nil rfl)))) rfl rfl fun fr=>?_
   refine d_gD rfl rfl rfl rfl rfl ?_
   refine yz [(2,U.box 0 0),(5,.lst .ro 1 (zF m)),(7,.lst .ro 1 (zF T)),(8,.lst .ro 1 (zF p)),(10,.lst .ro 2 (wD [{a:=L1,b:=U1},{a:=L2,b:=U2},{a:=L3,b:=U3}])),(102,U.bool !Bool.true)] [] ([SB.box (Bk.cs b)]) (.c4 rfl rfl rfl rfl (.cons rfl (.cons rfl (.nil rfl)))) rfl rfl fun fr=>?_
   refine zD (zA rfl (zC rfl)) (d_gD rfl rfl rfl rfl rfl (zD (zd rfl ty26 rfl (List.length_map _) (zC rfl)) ?_))
   refine d_gD rfl rfl rfl rfl rfl (zD (wF rfl rfl rfl (zC rfl)) ?_)
   refine zD (zO rfl rfl rfl (zC rfl)) ?_
   refine zD (zA rfl (zC rfl)) (d_gD rfl rfl rfl rfl (by assumption) ?_)
   refine zg rfl (zS rfl rfl rfl sh25 rfl (zC rfl)) ?_
   refine d_gD rfl rfl rfl rfl (by assumption) ?_
   refine zD (zA rfl (zC rfl)) (d_gD rfl rfl rfl rfl (by assumption) ?_)
   refine zAQ rfl (q32b) (.int _ _) (.lrefl _) ?_
   refine d_gD rfl rfl rfl rfl (by assumption) ?_
   refine zg rfl (zS rfl rfl rfl sh25 rfl (zC rfl)) ?_
   refine yz [(2,U.box 0 0),(5,.lst .ro 1 (zF m)),(7,.lst .ro 1 (zF T)),(8,.lst .ro 1 (zF p)),(10,.lst .ro 2 (wD [{a:=L1,b:=U1},{a:=L2,b:=U2},{a:=L3,b:=U3}])),(107,U.bool (decide (↑(List.length [{a:=L1,b:=U1},{a:=L2,b:=U2},{a:=L3,b:=U3}])≠(3:Int)))),(110,.int .i64 wp),(111,U.agg (Bk.cs b))] [] ([SB.box (Bk.cs b)]) (.c4 rfl rfl rfl rfl (.c4 rfl rfl rfl rfl (.nil rfl))) rfl rfl fun fr=>?_
   refine d_gD rfl rfl rfl rfl (by assumption) ?_
   refine yz [(2,U.box 0 0),(5,.lst .ro 1 (zF m)),(7,.lst .ro 1 (zF T)),(8,.lst .ro 1 (zF p)),(10,.lst .ro 2 (wD [{a:=L1,b:=U1},{a:=L2,b:=U2},{a:=L3,b:=U3}])),(107,U.bool (decide (↑(List.length [{a:=L1,b:=U1},{a:=L2,b:=U2},{a:=L3,b:=U3}])≠(3:Int)))),(110,.int .i64 wp),(111,U.agg (Bk.cs b))] [] ([SB.box (Bk.cs b)]) (.c4 rfl rfl rfl rfl (.c4 rfl rfl rfl rfl (.nil rfl))) rfl rfl fun fr=>?_
   refine zD (zA rfl (zC rfl)) (d_gD rfl rfl rfl rfl (by assumption) ?_)
   refine zD (zM rfl (q32a) (.lrefl _) (zC rfl)) ?_
   refine d_gD rfl rfl rfl rfl (by assumption) ?_
   refine zD (zDs rfl rfl rfl (zC rfl)) ?_
   refine zD (zO rfl rfl rfl (zC rfl)) ?_
   refine zBi ?_
   refine zH [(2,U.box 0 0),(5,.lst .ro 1 (zF m)),(7,.lst .ro 1 (zF T)),(8,.lst .ro 1 (zF p)),(10,.lst .ro 2 (wD [{a:=L1,b:=U1},{a:=L2,b:=U2},{a:=L3,b:=U3}])),(115,U.bool (decide (wm<wp)))] ([SB.box (Bk.cs b)]) (.c4 rfl rfl rfl rfl (.cons rfl (.cons rfl (.nil rfl)))) rfl fun fr=>?_
   refine k_cF rfl (decide_eq_false (by omega)) (zL (k_seq (wn [.read true,.plain,.plain,.read false,.read true,.plain,.plain,.read false,.pre,.pre,.plain,.plain] (by kernel_rfl) (by kernel_rfl) (by kernel_rfl) ?_)))
   refine zg rfl (zS rfl rfl rfl sh25 rfl (zC rfl)) ?_
   refine zD (zA rfl (zC rfl)) (zD (zA rfl (zC rfl)) (zAQ rfl q33a (flat_tri _ _ _) (.lrefl _) ?_))
   refine zg rfl (zS rfl rfl rfl sh25 rfl (zC rfl)) ?_
   refine zD (zA rfl (zC rfl)) (zD (zA rfl (zC rfl)) (zAQ rfl q33b (flat_tri _ _ _) (.lrefl _) ?_))
   refine d_pre rfl ze44 ?_
   refine d_pre rfl ze44 ?_
   refine zD (zc rfl rfl sh44 rfl rfl rfl rfl rfl (zC rfl)) ?_
   refine zD (zc rfl rfl sh44 rfl rfl rfl rfl rfl (zC rfl)) ?_
   refine zBi ?_
   refine zH [(2,U.box 0 0),(10,.lst .ro 2 (wD [{a:=L1,b:=U1},{a:=L2,b:=U2},{a:=L3,b:=U3}])),(14,U.box 1 0),(15,U.box 2 0)] ([SB.box (Bk.cs b),SB.box [.int .i64 C1,.int .i64 C2,.int .i64 C3],SB.box [.int .i64 P1,.int .i64 P2,.int .i64 P3]]) (.c4 rfl rfl rfl rfl (.nil rfl)) rfl fun fr=>?_
   refine k_seq (kQ (zB rfl (zC (zK ?_))))
   refine yZ (fun kk s2=>∃k:Nat,kk+k=3∧s2.st=[.box (Bk.cs b),.box (tri C1 C2 C3),.box (tri P1 P2 P3)]∧Holds s2 [(2,.box 0 0),(10,.lst .ro 2 (wD [⟨L1,U1⟩,⟨L2,U2⟩,⟨L3,U3⟩])),(14,.box 1 0),(15,.box 2 0),(16,.int .i64 k)]) (fun kk s2 hI=>?_) 3 _ ⟨0,rfl,rfl,.c4 rfl rfl rfl rfl (.cons rfl (.nil rfl))⟩
   obtain⟨k,hkp,hst5,hs5⟩:=hI
   by_cases hk3:k<3
   ·rcases(show k=0∨k=1∨k=2 by omega)with rfl|rfl|rfl
    ·refine zH _ _ hs5 hst5 fun fr5=>?_
     refine k_seq (kQ (zA rfl (zW rfl rfl rfl (zC (k_cT rfl rfl ?_)))))
     refine zL (k_seq (zK (k_seq (wn [.plain,.plain,.read true,.plain,.read true,.plain,.plain,.read true,.plain,.plain,.plain,.plain,.read true,.plain,.read true,.plain,.plain,.read true,.plain,.plain,.plain,.plain,.plain,.plain,.read true,.plain,.plain,.read true,.plain,.plain,.plain] (by kernel_rfl) (by kernel_rfl) (by kernel_rfl) ?_))))
     refine zD (zA rfl (zC rfl)) (zD (yi rfl ty44 rfl rfl (by omega) (by omega) cl3 (zC rfl)) ?_)
     refine zg rfl (zG rfl rfl rfl sh3 rfl (zC rfl)) (zD (zE rfl rfl zAB (zC rfl)) ?_)
     refine zg rfl (zG rfl rfl rfl sh22 rfl (zC rfl)) (zD (zA rfl (zC rfl)) (zD (zh (u:=.int .i64 (e0)) rfl ty22 rfl rfl (Int.natCast_nonneg _) (by simp[he0]) cl3 (zC rfl)) ?_))
     refine zg rfl (zR rfl rfl sh3 rfl (zC rfl)) ?_
     refine zD (zDs rfl rfl rfl (zC rfl)) ?_
     refine yz [(2,U.box 0 0),(10,.lst .ro 2 (wD [{a:=L1,b:=U1},{a:=L2,b:=U2},{a:=L3,b:=U3}])),(14,U.box 1 0),(15,U.box 2 0),(16,.int .i64 ↑0),(136,U.bool (decide (e0<C1)))] [] ([SB.box (Bk.cs b),SB.box (tri C1 C2 C3),SB.box (tri P1 P2 P3)]) (.c4 rfl rfl rfl rfl (.cons rfl (.cons rfl (.nil rfl)))) rfl rfl fun fr=>?_
     refine zD (zA rfl (zC rfl)) (d_gD rfl rfl rfl rfl (decide_eq_false (by omega)) ?_)
     refine zD (zA rfl (zC rfl)) (d_gD rfl rfl rfl rfl (decide_eq_false (by omega)) ?_)
     refine zD (yi rfl ty44 rfl rfl (by omega) (by omega) cl3 (zC rfl)) ?_
     refine d_gD rfl rfl rfl rfl (decide_eq_false (by omega)) ?_
     refine zg rfl (zG rfl rfl rfl sh3 rfl (zC rfl)) (d_gD rfl rfl rfl rfl (decide_eq_false (by omega)) ?_)
     refine zD (zE rfl rfl zAB (zC rfl)) ?_
     refine d_gD rfl rfl rfl rfl (decide_eq_false (by omega)) ?_
     refine zg rfl (zG rfl rfl rfl sh22 rfl (zC rfl)) (d_gD rfl rfl rfl rfl (decide_eq_false (by omega)) ?_)
     refine zD (zA rfl (zC rfl)) (d_gD rfl rfl rfl rfl (decide_eq_false (by omega)) ?_)
     refine zD (zh (u:=.int .i64 (e0)) rfl ty22 rfl rfl (Int.natCast_nonneg _) (by simp[he0]) cl3 (zC rfl)) ?_
     refine d_gD rfl rfl rfl rfl (decide_eq_false (by omega)) ?_
     refine zg rfl (zR rfl rfl sh3 rfl (zC rfl)) ?_
     refine yz [(2,U.box 0 0),(10,.lst .ro 2 (wD [{a:=L1,b:=U1},{a:=L2,b:=U2},{a:=L3,b:=U3}])),(14,U.box 1 0),(15,U.box 2 0),(16,.int .i64 0),(137,U.bool (decide (e0<C1))),(138,.int .i64 0),(139,U.box 2 0),(140,.int .i64 P1),(141,U.box 0 2),(142,.lst .ro 1 (zF (Bk.ends b))),(143,.int .i64 0),(144,U.eref [.int .i64 e0] 0),(145,.int .i64 e0)] [] ([SB.box (Bk.cs b),SB.box (tri C1 C2 C3),SB.box (tri P1 P2 P3)]) (.c4 rfl rfl rfl rfl (.c4 rfl rfl rfl rfl (.c4 rfl rfl rfl rfl (.cons rfl (.cons rfl (.nil rfl)))))) rfl rfl fun fr=>?_
     refine d_gD rfl rfl rfl rfl (decide_eq_false (by omega)) ?_
     refine yz [(2,U.box 0 0),(10,.lst .ro 2 (wD [{a:=L1,b:=U1},{a:=L2,b:=U2},{a:=L3,b:=U3}])),(14,U.box 1 0),(15,U.box 2 0),(16,.int .i64 0),(137,U.bool (decide (e0<C1))),(138,.int .i64 0),(139,U.box 2 0),(140,.int .i64 P1),(141,U.box 0 2),(142,.lst .ro 1 (zF (Bk.ends b))),(143,.int .i64 0),(144,U.eref [.int .i64 e0] 0),(145,.int .i64 e0)] [] ([SB.box (Bk.cs b),SB.box (tri C1 C2 C3),SB.box (tri P1 P2 P3)]) (.c4 rfl rfl rfl rfl (.c4 rfl rfl rfl rfl (.c4 rfl rfl rfl rfl (.cons rfl (.cons rfl (.nil rfl)))))) rfl rfl fun fr=>?_
     refine zD (zDs rfl rfl rfl (zC rfl)) ?_
     refine zD (zO rfl rfl (decide_eq_false (by omega)) (zC rfl)) ?_
     refine zD (zA rfl (zC rfl)) (d_gD rfl rfl rfl rfl (decide_eq_false (by omega)) ?_)
     refine zD (zA rfl (zC rfl)) (d_gD rfl rfl rfl rfl (decide_eq_false (by omega)) ?_)
     refine zD (zA rfl (zC rfl)) (d_gD rfl rfl rfl rfl (decide_eq_false (by omega)) ?_)
     refine zD (zh rfl ty26 rfl rfl (by decide) rfl cl48 (zC rfl)) ?_
     refine d_gD rfl rfl rfl rfl (decide_eq_false (by omega)) ?_
     refine zg rfl (yl rfl rfl sh48 rfl (zC rfl)) ?_
     refine d_gD rfl rfl rfl rfl (decide_eq_false (by omega)) ?_
     refine zD (zA rfl (zC rfl)) (d_gD rfl rfl rfl rfl (decide_eq_false (by omega)) ?_)
     refine zD (yi rfl ty44 rfl rfl (by omega) (by omega) cl3 (zC rfl)) ?_
     refine yz [(2,U.box 0 0),(10,.lst .ro 2 (wD [{a:=L1,b:=U1},{a:=L2,b:=U2},{a:=L3,b:=U3}])),(14,U.box 1 0),(15,U.box 2 0),(16,.int .i64 0),(138,.int .i64 0),(139,U.box 2 0),(140,.int .i64 P1),(141,U.box 0 2),(142,.lst .ro 1 (zF (Bk.ends b))),(143,.int .i64 0),(144,U.eref [.int .i64 e0] 0),(145,.int .i64 e0),(146,U.bool (decide (e0<P1))),(148,U.bool (decide (e0<P1))),(149,.lst .ro 2 (wD [{a:=L1,b:=U1},{a:=L2,b:=U2},{a:=L3,b:=U3}])),(150,.int .i64 0),(151,U.eref [.int .i64 (Two.a {a:=L1,b:=U1}),.int .i64 (Two.b {a:=L1,b:=U1})] 0),(152,U.agg [.int .i64 (Two.a {a:=L1,b:=U1}),.int .i64 (Two.b {a:=L1,b:=U1})]),(153,.int .i64 0),(154,U.box 1 0)] [] ([SB.box (Bk.cs b),SB.box (tri C1 C2 C3),SB.box (tri P1 P2 P3)]) (.c4 rfl rfl rfl rfl (.c4 rfl rfl rfl rfl (.c4 rfl rfl rfl rfl (.c4 rfl rfl rfl rfl (.c4 rfl rfl rfl rfl (.cons rfl (.nil rfl))))))) rfl rfl fun fr=>?_
     refine d_gD rfl rfl rfl rfl (decide_eq_false (by omega)) ?_
     refine yz [(2,U.box 0 0),(10,.lst .ro 2 (wD [{a:=L1,b:=U1},{a:=L2,b:=U2},{a:=L3,b:=U3}])),(14,U.box 1 0),(15,U.box 2 0),(16,.int .i64 0),(138,.int .i64 0),(139,U.box 2 0),(140,.int .i64 P1),(141,U.box 0 2),(142,.lst .ro 1 (zF (Bk.ends b))),(143,.int .i64 0),(144,U.eref [.int .i64 e0] 0),(145,.int .i64 e0),(146,U.bool (decide (e0<P1))),(148,U.bool (decide (e0<P1))),(149,.lst .ro 2 (wD [{a:=L1,b:=U1},{a:=L2,b:=U2},{a:=L3,b:=U3}])),(150,.int .i64 0),(151,U.eref [.int .i64 (Two.a {a:=L1,b:=U1}),.int .i64 (Two.b {a:=L1,b:=U1})] 0),(152,U.agg [.int .i64 (Two.a {a:=L1,b:=U1}),.int .i64 (Two.b {a:=L1,b:=U1})]),(153,.int .i64 0),(154,U.box 1 0)] [] ([SB.box (Bk.cs b),SB.box (tri C1 C2 C3),SB.box (tri P1 P2 P3)]) (.c4 rfl rfl rfl rfl (.c4 rfl rfl rfl rfl (.c4 rfl rfl rfl rfl (.c4 rfl rfl rfl rfl (.c4 rfl rfl rfl rfl (.cons rfl (.nil rfl))))))) rfl rfl fun fr=>?_
     refine zg rfl (zG rfl rfl rfl sh3 rfl (zC rfl)) (d_gD rfl rfl rfl rfl (decide_eq_false (by omega)) ?_)
     refine zD (zM rfl (q34a) (.lrefl _) (zC rfl)) ?_
     refine d_gD rfl rfl rfl rfl (decide_eq_false (by omega)) ?_
     refine zD (yC rfl rfl (zC rfl)) ?_
     refine zD (zO rfl rfl (decide_eq_false (by omega)) (zC rfl)) ?_
     refine zBi ?_
     refine zH [(2,U.box 0 0),(10,.lst .ro 2 (wD [{a:=L1,b:=U1},{a:=L2,b:=U2},{a:=L3,b:=U3}])),(14,U.box 1 0),(15,U.box 2 0),(16,.int .i64 0),(138,.int .i64 0),(139,U.box 2 0),(140,.int .i64 P1),(141,U.box 0 2),(142,.lst .ro 1 (zF (Bk.ends b))),(143,.int .i64 0),(144,U.eref [.int .i64 e0] 0),(145,.int .i64 e0),(146,U.bool (decide (e0<P1))),(149,.lst .ro 2 (wD [{a:=L1,b:=U1},{a:=L2,b:=U2},{a:=L3,b:=U3}])),(150,.int .i64 0),(151,U.eref [.int .i64 (Two.a {a:=L1,b:=U1}),.int .i64 (Two.b {a:=L1,b:=U1})] 0),(152,U.agg [.int .i64 (Two.a {a:=L1,b:=U1}),.int .i64 (Two.b {a:=L1,b:=U1})]),(153,.int .i64 0),(154,U.box 1 0),(155,.int .i64 C1),(156,.bool true),(157,U.bool !Bool.true),(158,U.bool !Bool.true)] ([SB.box (Bk.cs b),SB.box (tri C1 C2 C3),SB.box (tri P1 P2 P3)]) (.c4 rfl rfl rfl rfl (.c4 rfl rfl rfl rfl (.c4 rfl rfl rfl rfl (.c4 rfl rfl rfl rfl (.c4 rfl rfl rfl rfl (.c4 rfl rfl rfl rfl (.nil rfl))))))) rfl fun fr=>?_
     refine k_cF rfl rfl ?_
     refine zL (k_region (zA rfl ?_))
     refine yH rfl rfl rfl (by unfold I64;omega) (zB rfl (zC ?_))
     exact⟨kk - 1,by omega,1,by omega,rfl,.c4 rfl rfl rfl rfl (.cons rfl (.nil rfl))⟩
    ·refine zH _ _ hs5 hst5 fun fr5=>?_
     refine k_seq (kQ (zA rfl (zW rfl rfl rfl (zC (k_cT rfl rfl ?_)))))
     refine zL (k_seq (zK (k_seq (wn [.plain,.plain,.read true,.plain,.read true,.plain,.plain,.read true,.plain,.plain,.plain,.plain,.read true,.plain,.read true,.plain,.plain,.read true,.plain,.plain,.plain,.plain,.plain,.plain,.read true,.plain,.plain,.read true,.plain,.plain,.plain] (by kernel_rfl) (by kernel_rfl) (by kernel_rfl) ?_))))
     refine zD (zA rfl (zC rfl)) (zD (yi rfl ty44 rfl rfl (by omega) (by omega) cl3 (zC rfl)) ?_)
     refine zg rfl (zG rfl rfl rfl sh3 rfl (zC rfl)) (zD (zE rfl rfl zAB (zC rfl)) ?_)
     refine zg rfl (zG rfl rfl rfl sh22 rfl (zC rfl)) (zD (zA rfl (zC rfl)) (zD (zh (u:=.int .i64 (e1)) rfl ty22 rfl rfl (Int.natCast_nonneg _) (by simp[he1]) cl3 (zC rfl)) ?_))
     refine zg rfl (zR rfl rfl sh3 rfl (zC rfl)) ?_
     refine zD (zDs rfl rfl rfl (zC rfl)) ?_
     refine yz [(2,U.box 0 0),(10,.lst .ro 2 (wD [{a:=L1,b:=U1},{a:=L2,b:=U2},{a:=L3,b:=U3}])),(14,U.box 1 0),(15,U.box 2 0),(16,.int .i64 ↑1),(136,U.bool (decide (e1<C2)))] [] ([SB.box (Bk.cs b),SB.box (tri C1 C2 C3),SB.box (tri P1 P2 P3)]) (.c4 rfl rfl rfl rfl (.cons rfl (.cons rfl (.nil rfl)))) rfl rfl fun fr=>?_
     refine zD (zA rfl (zC rfl)) (d_gD rfl rfl rfl rfl (decide_eq_false (by omega)) ?_)
     refine zD (zA rfl (zC rfl)) (d_gD rfl rfl rfl rfl (decide_eq_false (by omega)) ?_)
     refine zD (yi rfl ty44 rfl rfl (by omega) (by omega) cl3 (zC rfl)) ?_
     refine d_gD rfl rfl rfl rfl (decide_eq_false (by omega)) ?_
     refine zg rfl (zG rfl rfl rfl sh3 rfl (zC rfl)) (d_gD rfl rfl rfl rfl (decide_eq_false (by omega)) ?_)
     refine zD (zE rfl rfl zAB (zC rfl)) ?_
     refine d_gD rfl rfl rfl rfl (decide_eq_false (by omega)) ?_
     refine zg rfl (zG rfl rfl rfl sh22 rfl (zC rfl)) (d_gD rfl rfl rfl rfl (decide_eq_false (by omega)) ?_)
     refine zD (zA rfl (zC rfl)) (d_gD rfl rfl rfl rfl (decide_eq_false (by omega)) ?_)
     refine zD (zh (u:=.int .i64 (e1)) rfl ty22 rfl rfl (Int.natCast_nonneg _) (by simp[he1]) cl3 (zC rfl)) ?_
     refine d_gD rfl rfl rfl rfl (decide_eq_false (by omega)) ?_
     refine zg rfl (zR rfl rfl sh3 rfl (zC rfl)) ?_
     refine yz [(2,U.box 0 0),(10,.lst .ro 2 (wD [{a:=L1,b:=U1},{a:=L2,b:=U2},{a:=L3,b:=U3}])),(14,U.box 1 0),(15,U.box 2 0),(16,.int .i64 1),(137,U.bool (decide (e1<C2))),(138,.int .i64 1),(139,U.box 2 1),(140,.int .i64 P2),(141,U.box 0 2),(142,.lst .ro 1 (zF (Bk.ends b))),(143,.int .i64 1),(144,U.eref [.int .i64 e1] 0),(145,.int .i64 e1)] [] ([SB.box (Bk.cs b),SB.box (tri C1 C2 C3),SB.box (tri P1 P2 P3)]) (.c4 rfl rfl rfl rfl (.c4 rfl rfl rfl rfl (.c4 rfl rfl rfl rfl (.cons rfl (.cons rfl (.nil rfl)))))) rfl rfl fun fr=>?_
     refine d_gD rfl rfl rfl rfl (decide_eq_false (by omega)) ?_
     refine yz [(2,U.box 0 0),(10,.lst .ro 2 (wD [{a:=L1,b:=U1},{a:=L2,b:=U2},{a:=L3,b:=U3}])),(14,U.box 1 0),(15,U.box 2 0),(16,.int .i64 1),(137,U.bool (decide (e1<C2))),(138,.int .i64 1),(139,U.box 2 1),(140,.int .i64 P2),(141,U.box 0 2),(142,.lst .ro 1 (zF (Bk.ends b))),(143,.int .i64 1),(144,U.eref [.int .i64 e1] 0),(145,.int .i64 e1)] [] ([SB.box (Bk.cs b),SB.box (tri C1 C2 C3),SB.box (tri P1 P2 P3)]) (.c4 rfl rfl rfl rfl (.c4 rfl rfl rfl rfl (.c4 rfl rfl rfl rfl (.cons rfl (.cons rfl (.nil rfl)))))) rfl rfl fun fr=>?_
     refine zD (zDs rfl rfl rfl (zC rfl)) ?_
     refine zD (zO rfl rfl (decide_eq_false (by omega)) (zC rfl)) ?_
     refine zD (zA rfl (zC rfl)) (d_gD rfl rfl rfl rfl (decide_eq_false (by omega)) ?_)
     refine zD (zA rfl (zC rfl)) (d_gD rfl rfl rfl rfl (decide_eq_false (by omega)) ?_)
     refine zD (zA rfl (zC rfl)) (d_gD rfl rfl rfl rfl (decide_eq_false (by omega)) ?_)
     refine zD (zh rfl ty26 rfl rfl (by decide) rfl cl48 (zC rfl)) ?_
     refine d_gD rfl rfl rfl rfl (decide_eq_false (by omega)) ?_
     refine zg rfl (yl rfl rfl sh48 rfl (zC rfl)) ?_
     refine d_gD rfl rfl rfl rfl (decide_eq_false (by omega)) ?_
     refine zD (zA rfl (zC rfl)) (d_gD rfl rfl rfl rfl (decide_eq_false (by omega)) ?_)
     refine zD (yi rfl ty44 rfl rfl (by omega) (by omega) cl3 (zC rfl)) ?_
     refine yz [(2,U.box 0 0),(10,.lst .ro 2 (wD [{a:=L1,b:=U1},{a:=L2,b:=U2},{a:=L3,b:=U3}])),(14,U.box 1 0),(15,U.box 2 0),(16,.int .i64 1),(138,.int .i64 1),(139,U.box 2 1),(140,.int .i64 P2),(141,U.box 0 2),(142,.lst .ro 1 (zF (Bk.ends b))),(143,.int .i64 1),(144,U.eref [.int .i64 e1] 0),(145,.int .i64 e1),(146,U.bool (decide (e1<P2))),(148,U.bool (decide (e1<P2))),(149,.lst .ro 2 (wD [{a:=L1,b:=U1},{a:=L2,b:=U2},{a:=L3,b:=U3}])),(150,.int .i64 1),(151,U.eref [.int .i64 (Two.a {a:=L2,b:=U2}),.int .i64 (Two.b {a:=L2,b:=U2})] 0),(152,U.agg [.int .i64 (Two.a {a:=L2,b:=U2}),.int .i64 (Two.b {a:=L2,b:=U2})]),(153,.int .i64 1),(154,U.box 1 1)] [] ([SB.box (Bk.cs b),SB.box (tri C1 C2 C3),SB.box (tri P1 P2 P3)]) (.c4 rfl rfl rfl rfl (.c4 rfl rfl rfl rfl (.c4 rfl rfl rfl rfl (.c4 rfl rfl rfl rfl (.c4 rfl rfl rfl rfl (.cons rfl (.nil rfl))))))) rfl rfl fun fr=>?_
     refine d_gD rfl rfl rfl rfl (decide_eq_false (by omega)) ?_
     refine yz [(2,U.box 0 0),(10,.lst .ro 2 (wD [{a:=L1,b:=U1},{a:=L2,b:=U2},{a:=L3,b:=U3}])),(14,U.box 1 0),(15,U.box 2 0),(16,.int .i64 1),(138,.int .i64 1),(139,U.box 2 1),(140,.int .i64 P2),(141,U.box 0 2),(142,.lst .ro 1 (zF (Bk.ends b))),(143,.int .i64 1),(144,U.eref [.int .i64 e1] 0),(145,.int .i64 e1),(146,U.bool (decide (e1<P2))),(148,U.bool (decide (e1<P2))),(149,.lst .ro 2 (wD [{a:=L1,b:=U1},{a:=L2,b:=U2},{a:=L3,b:=U3}])),(150,.int .i64 1),(151,U.eref [.int .i64 (Two.a {a:=L2,b:=U2}),.int .i64 (Two.b {a:=L2,b:=U2})] 0),(152,U.agg [.int .i64 (Two.a {a:=L2,b:=U2}),.int .i64 (Two.b {a:=L2,b:=U2})]),(153,.int .i64 1),(154,U.box 1 1)] [] ([SB.box (Bk.cs b),SB.box (tri C1 C2 C3),SB.box (tri P1 P2 P3)]) (.c4 rfl rfl rfl rfl (.c4 rfl rfl rfl rfl (.c4 rfl rfl rfl rfl (.c4 rfl rfl rfl rfl (.c4 rfl rfl rfl rfl (.cons rfl (.nil rfl))))))) rfl rfl fun fr=>?_
     refine zg rfl (zG rfl rfl rfl sh3 rfl (zC rfl)) (d_gD rfl rfl rfl rfl (decide_eq_false (by omega)) ?_)
     refine zD (zM rfl (q34b) (.lrefl _) (zC rfl)) ?_
     refine d_gD rfl rfl rfl rfl (decide_eq_false (by omega)) ?_
     refine zD (yC rfl rfl (zC rfl)) ?_
     refine zD (zO rfl rfl (decide_eq_false (by omega)) (zC rfl)) ?_
     refine zBi ?_
     refine zH [(2,U.box 0 0),(10,.lst .ro 2 (wD [{a:=L1,b:=U1},{a:=L2,b:=U2},{a:=L3,b:=U3}])),(14,U.box 1 0),(15,U.box 2 0),(16,.int .i64 1),(138,.int .i64 1),(139,U.box 2 1),(140,.int .i64 P2),(141,U.box 0 2),(142,.lst .ro 1 (zF (Bk.ends b))),(143,.int .i64 1),(144,U.eref [.int .i64 e1] 0),(145,.int .i64 e1),(146,U.bool (decide (e1<P2))),(149,.lst .ro 2 (wD [{a:=L1,b:=U1},{a:=L2,b:=U2},{a:=L3,b:=U3}])),(150,.int .i64 1),(151,U.eref [.int .i64 (Two.a {a:=L2,b:=U2}),.int .i64 (Two.b {a:=L2,b:=U2})] 0),(152,U.agg [.int .i64 (Two.a {a:=L2,b:=U2}),.int .i64 (Two.b {a:=L2,b:=U2})]),(153,.int .i64 1),(154,U.box 1 1),(155,.int .i64 C2),(156,.bool true),(157,U.bool !Bool.true),(158,U.bool !Bool.true)] ([SB.box (Bk.cs b),SB.box (tri C1 C2 C3),SB.box (tri P1 P2 P3)]) (.c4 rfl rfl rfl rfl (.c4 rfl rfl rfl rfl (.c4 rfl rfl rfl rfl (.c4 rfl rfl rfl rfl (.c4 rfl rfl rfl rfl (.c4 rfl rfl rfl rfl (.nil rfl))))))) rfl fun fr=>?_
     refine k_cF rfl rfl ?_
     refine zL (k_region (zA rfl ?_))
     refine yH rfl rfl rfl (by unfold I64;omega) (zB rfl (zC ?_))
     exact⟨kk - 1,by omega,2,by omega,rfl,.c4 rfl rfl rfl rfl (.cons rfl (.nil rfl))⟩
    ·refine zH _ _ hs5 hst5 fun fr5=>?_
     refine k_seq (kQ (zA rfl (zW rfl rfl rfl (zC (k_cT rfl rfl ?_)))))
     refine zL (k_seq (zK (k_seq (wn [.plain,.plain,.read true,.plain,.read true,.plain,.plain,.read true,.plain,.plain,.plain,.plain,.read true,.plain,.read true,.plain,.plain,.read true,.plain,.plain,.plain,.plain,.plain,.plain,.read true,.plain,.plain,.read true,.plain,.plain,.plain] (by kernel_rfl) (by kernel_rfl) (by kernel_rfl) ?_))))
     refine zD (zA rfl (zC rfl)) (zD (yi rfl ty44 rfl rfl (by omega) (by omega) cl3 (zC rfl)) ?_)
     refine zg rfl (zG rfl rfl rfl sh3 rfl (zC rfl)) (zD (zE rfl rfl zAB (zC rfl)) ?_)
     refine zg rfl (zG rfl rfl rfl sh22 rfl (zC rfl)) (zD (zA rfl (zC rfl)) (zD (zh (u:=.int .i64 (e2)) rfl ty22 rfl rfl (Int.natCast_nonneg _) (by simp[he2]) cl3 (zC rfl)) ?_))
     refine zg rfl (zR rfl rfl sh3 rfl (zC rfl)) ?_
     refine zD (zDs rfl rfl rfl (zC rfl)) ?_
     refine yz [(2,U.box 0 0),(10,.lst .ro 2 (wD [{a:=L1,b:=U1},{a:=L2,b:=U2},{a:=L3,b:=U3}])),(14,U.box 1 0),(15,U.box 2 0),(16,.int .i64 ↑2),(136,U.bool (decide (e2<C3)))] [] ([SB.box (Bk.cs b),SB.box (tri C1 C2 C3),SB.box (tri P1 P2 P3)]) (.c4 rfl rfl rfl rfl (.cons rfl (.cons rfl (.nil rfl)))) rfl rfl fun fr=>?_
     refine zD (zA rfl (zC rfl)) (d_gD rfl rfl rfl rfl (decide_eq_false (by omega)) ?_)
     refine zD (zA rfl (zC rfl)) (d_gD rfl rfl rfl rfl (decide_eq_false (by omega)) ?_)
     refine zD (yi rfl ty44 rfl rfl (by omega) (by omega) cl3 (zC rfl)) ?_
     refine d_gD rfl rfl rfl rfl (decide_eq_false (by omega)) ?_
     refine zg rfl (zG rfl rfl rfl sh3 rfl (zC rfl)) (d_gD rfl rfl rfl rfl (decide_eq_false (by omega)) ?_)
     refine zD (zE rfl rfl zAB (zC rfl)) ?_
     refine d_gD rfl rfl rfl rfl (decide_eq_false (by omega)) ?_
     refine zg rfl (zG rfl rfl rfl sh22 rfl (zC rfl)) (d_gD rfl rfl rfl rfl (decide_eq_false (by omega)) ?_)
     refine zD (zA rfl (zC rfl)) (d_gD rfl rfl rfl rfl (decide_eq_false (by omega)) ?_)
     refine zD (zh (u:=.int .i64 (e2)) rfl ty22 rfl rfl (Int.natCast_nonneg _) (by simp[he2]) cl3 (zC rfl)) ?_
     refine d_gD rfl rfl rfl rfl (decide_eq_false (by omega)) ?_
     refine zg rfl (zR rfl rfl sh3 rfl (zC rfl)) ?_
     refine yz [(2,U.box 0 0),(10,.lst .ro 2 (wD [{a:=L1,b:=U1},{a:=L2,b:=U2},{a:=L3,b:=U3}])),(14,U.box 1 0),(15,U.box 2 0),(16,.int .i64 2),(137,U.bool (decide (e2<C3))),(138,.int .i64 2),(139,U.box 2 2),(140,.int .i64 P3),(141,U.box 0 2),(142,.lst .ro 1 (zF (Bk.ends b))),(143,.int .i64 2),(144,U.eref [.int .i64 e2] 0),(145,.int .i64 e2)] [] ([SB.box (Bk.cs b),SB.box (tri C1 C2 C3),SB.box (tri P1 P2 P3)]) (.c4 rfl rfl rfl rfl (.c4 rfl rfl rfl rfl (.c4 rfl rfl rfl rfl (.cons rfl (.cons rfl (.nil rfl)))))) rfl rfl fun fr=>?_
     refine d_gD rfl rfl rfl rfl (decide_eq_false (by omega)) ?_
     refine yz [(2,U.box 0 0),(10,.lst .ro 2 (wD [{a:=L1,b:=U1},{a:=L2,b:=U2},{a:=L3,b:=U3}])),(14,U.box 1 0),(15,U.box 2 0),(16,.int .i64 2),(137,U.bool (decide (e2<C3))),(138,.int .i64 2),(139,U.box 2 2),(140,.int .i64 P3),(141,U.box 0 2),(142,.lst .ro 1 (zF (Bk.ends b))),(143,.int .i64 2),(144,U.eref [.int .i64 e2] 0),(145,.int .i64 e2)] [] ([SB.box (Bk.cs b),SB.box (tri C1 C2 C3),SB.box (tri P1 P2 P3)]) (.c4 rfl rfl rfl rfl (.c4 rfl rfl rfl rfl (.c4 rfl rfl rfl rfl (.cons rfl (.cons rfl (.nil rfl)))))) rfl rfl fun fr=>?_
     refine zD (zDs rfl rfl rfl (zC rfl)) ?_
     refine zD (zO rfl rfl (decide_eq_false (by omega)) (zC rfl)) ?_
     refine zD (zA rfl (zC rfl)) (d_gD rfl rfl rfl rfl (decide_eq_false (by omega)) ?_)
     refine zD (zA rfl (zC rfl)) (d_gD rfl rfl rfl rfl (decide_eq_false (by omega)) ?_)
     refine zD (zA rfl (zC rfl)) (d_gD rfl rfl rfl rfl (decide_eq_false (by omega)) ?_)
     refine zD (zh rfl ty26 rfl rfl (by decide) rfl cl48 (zC rfl)) ?_
     refine d_gD rfl rfl rfl rfl (decide_eq_false (by omega)) ?_
     refine zg rfl (yl rfl rfl sh48 rfl (zC rfl)) ?_
     refine d_gD rfl rfl rfl rfl (decide_eq_false (by omega)) ?_
     refine zD (zA rfl (zC rfl)) (d_gD rfl rfl rfl rfl (decide_eq_false (by omega)) ?_)
     refine zD (yi rfl ty44 rfl rfl (by omega) (by omega) cl3 (zC rfl)) ?_
     refine yz [(2,U.box 0 0),(10,.lst .ro 2 (wD [{a:=L1,b:=U1},{a:=L2,b:=U2},{a:=L3,b:=U3}])),(14,U.box 1 0),(15,U.box 2 0),(16,.int .i64 2),(138,.int .i64 2),(139,U.box 2 2),(140,.int .i64 P3),(141,U.box 0 2),(142,.lst .ro 1 (zF (Bk.ends b))),(143,.int .i64 2),(144,U.eref [.int .i64 e2] 0),(145,.int .i64 e2),(146,U.bool (decide (e2<P3))),(148,U.bool (decide (e2<P3))),(149,.lst .ro 2 (wD [{a:=L1,b:=U1},{a:=L2,b:=U2},{a:=L3,b:=U3}])),(150,.int .i64 2),(151,U.eref [.int .i64 (Two.a {a:=L3,b:=U3}),.int .i64 (Two.b {a:=L3,b:=U3})] 0),(152,U.agg [.int .i64 (Two.a {a:=L3,b:=U3}),.int .i64 (Two.b {a:=L3,b:=U3})]),(153,.int .i64 2),(154,U.box 1 2)] [] ([SB.box (Bk.cs b),SB.box (tri C1 C2 C3),SB.box (tri P1 P2 P3)]) (.c4 rfl rfl rfl rfl (.c4 rfl rfl rfl rfl (.c4 rfl rfl rfl rfl (.c4 rfl rfl rfl rfl (.c4 rfl rfl rfl rfl (.cons rfl (.nil rfl))))))) rfl rfl fun fr=>?_
     refine d_gD rfl rfl rfl rfl (decide_eq_false (by omega)) ?_
     refine yz [(2,U.box 0 0),(10,.lst .ro 2 (wD [{a:=L1,b:=U1},{a:=L2,b:=U2},{a:=L3,b:=U3}])),(14,U.box 1 0),(15,U.box 2 0),(16,.int .i64 2),(138,.int .i64 2),(139,U.box 2 2),(140,.int .i64 P3),(141,U.box 0 2),(142,.lst .ro 1 (zF (Bk.ends b))),(143,.int .i64 2),(144,U.eref [.int .i64 e2] 0),(145,.int .i64 e2),(146,U.bool (decide (e2<P3))),(148,U.bool (decide (e2<P3))),(149,.lst .ro 2 (wD [{a:=L1,b:=U1},{a:=L2,b:=U2},{a:=L3,b:=U3}])),(150,.int .i64 2),(151,U.eref [.int .i64 (Two.a {a:=L3,b:=U3}),.int .i64 (Two.b {a:=L3,b:=U3})] 0),(152,U.agg [.int .i64 (Two.a {a:=L3,b:=U3}),.int .i64 (Two.b {a:=L3,b:=U3})]),(153,.int .i64 2),(154,U.box 1 2)] [] ([SB.box (Bk.cs b),SB.box (tri C1 C2 C3),SB.box (tri P1 P2 P3)]) (.c4 rfl rfl rfl rfl (.c4 rfl rfl rfl rfl (.c4 rfl rfl rfl rfl (.c4 rfl rfl rfl rfl (.c4 rfl rfl rfl rfl (.cons rfl (.nil rfl))))))) rfl rfl fun fr=>?_
     refine zg rfl (zG rfl rfl rfl sh3 rfl (zC rfl)) (d_gD rfl rfl rfl rfl (decide_eq_false (by omega)) ?_)
     refine zD (zM rfl (q34c) (.lrefl _) (zC rfl)) ?_
     refine d_gD rfl rfl rfl rfl (decide_eq_false (by omega)) ?_
     refine zD (yC rfl rfl (zC rfl)) ?_
     refine zD (zO rfl rfl (decide_eq_false (by omega)) (zC rfl)) ?_
     refine zBi ?_
     refine zH [(2,U.box 0 0),(10,.lst .ro 2 (wD [{a:=L1,b:=U1},{a:=L2,b:=U2},{a:=L3,b:=U3}])),(14,U.box 1 0),(15,U.box 2 0),(16,.int .i64 2),(138,.int .i64 2),(139,U.box 2 2),(140,.int .i64 P3),(141,U.box 0 2),(142,.lst .ro 1 (zF (Bk.ends b))),(143,.int .i64 2),(144,U.eref [.int .i64 e2] 0),(145,.int .i64 e2),(146,U.bool (decide (e2<P3))),(149,.lst .ro 2 (wD [{a:=L1,b:=U1},{a:=L2,b:=U2},{a:=L3,b:=U3}])),(150,.int .i64 2),(151,U.eref [.int .i64 (Two.a {a:=L3,b:=U3}),.int .i64 (Two.b {a:=L3,b:=U3})] 0),(152,U.agg [.int .i64 (Two.a {a:=L3,b:=U3}),.int .i64 (Two.b {a:=L3,b:=U3})]),(153,.int .i64 2),(154,U.box 1 2),(155,.int .i64 C3),(156,.bool true),(157,U.bool !Bool.true),(158,U.bool !Bool.true)] ([SB.box (Bk.cs b),SB.box (tri C1 C2 C3),SB.box (tri P1 P2 P3)]) (.c4 rfl rfl rfl rfl (.c4 rfl rfl rfl rfl (.c4 rfl rfl rfl rfl (.c4 rfl rfl rfl rfl (.c4 rfl rfl rfl rfl (.c4 rfl rfl rfl rfl (.nil rfl))))))) rfl fun fr=>?_
     refine k_cF rfl rfl ?_
     refine zL (k_region (zA rfl ?_))
     refine yH rfl rfl rfl (by unfold I64;omega) (zB rfl (zC ?_))
     exact⟨kk - 1,by omega,3,by omega,rfl,.c4 rfl rfl rfl rfl (.cons rfl (.nil rfl))⟩
   ·refine zH _ _ hs5 hst5 fun fr5=>?_
    refine k_seq (kQ (zA rfl (zW rfl rfl rfl (zC (k_cF rfl (decide_eq_false (by omega)) (yO (kQ (zM rfl (r24) (.lrefl _) ?_))))))))
    refine zB rfl (zC (zX ?_))
    refine⟨.inr rfl,_,.cons _ _ _ _ (.tmp 4) .nil,?_⟩
    exact .refl _
end
section
variable {is:FuncId→Bool}{orc:Known}
end
section
variable {is:FuncId→Bool}{orc:Known}
theorem ret5_all(hi:Off is)(r24:RetP Tryd.prog is orc 24 [] (.bool true)):∀us,ShpAs Tryd.prog [25,22] us→RetP Tryd.prog is orc 5 us (.bool true):=by
 intro us h
 cases h with
 |cons _ _ u us h1 h=>cases h with
 |cons _ _ v us h2 h=>
 cases h
 obtain⟨fs,hu⟩:=und25
 unfold ShpA at h1 h2
 rw[hu]at h1
 rw[u22]at h2
 obtain⟨b,rfl⟩:=arg_bk h1
 obtain⟨l,rfl⟩:=arg_ints h2
 exact ret5 hi b l r24
end
section
variable {is:FuncId→Bool}{orc:Known}
end
end Go.Proofs.YtlknfhjfkcboiaaDoor.night
