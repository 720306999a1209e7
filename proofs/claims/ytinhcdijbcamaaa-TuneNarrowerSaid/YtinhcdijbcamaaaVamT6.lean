import Derived.Test.YtinhcdijbcamaaaVamT5
set_option linter.unusedVariables false
set_option linter.unusedSimpArgs false
set_option linter.constructorNameAsVariable false
namespace Go.Proofs.Ytinhcdijbcamaaa.tuneNarrower
open Vam
variable {is:FuncId→Bool}{orc:Known}
theorem sh28:shOf Try.prog 28=.many 5:=by kernel_rfl
noncomputable def b55:Code:=(Try.f55.body).getD .skip
theorem body55:bodyOf Try.prog 55=some (25,b55,[.tmp 2]):=by kernel_rfl
theorem pure55:pureFn Try.prog 55=true:=by kernel_rfl
noncomputable def b17:Code:=(Try.f17.body).getD .skip
theorem body17:bodyOf Try.prog 17=some (6,b17,[.tmp 2]):=by kernel_rfl
theorem pure17:pureFn Try.prog 17=true:=by kernel_rfl
structure TOk(t:Ts):Prop where
 n1:1≤t.heard.length
 n8:t.heard.length≤8
 hd:∀q∈t.heard,1≤q.a∧q.a≤q.b∧q.b≤4000∧q.b - q.a≤40
 sh:Sh t
 sk:∀q∈t.scales,q.keys.Nodup∧∀x∈q.keys,0≤x∧x<(t.heard.length:Int)
 ss:∀q∈t.scales,∀s∈q.steps,200≤s.a∧s.a≤s.b∧s.b≤5000
 pr:∀q∈t.pairs,q.a≠q.b∧(0≤q.a∧q.a<(t.heard.length:Int))∧(0≤q.b∧q.b<(t.heard.length:Int))
 bt:0≤t.lo∧t.lo≤t.hi∧t.hi≤60
 ac:Acy (EJ (zp t))
noncomputable def vA(t:Ts):Bool:=decide (1≤t.heard.length∧t.heard.length≤8)&&t.heard.all wG
noncomputable def vB(t:Ts):Bool:=decide (t.scales.length≤2)&&t.scales.all (wA t.heard.length)
noncomputable def vC(t:Ts):Bool:=decide (t.pairs.length≤4)&&t.pairs.all fun q=>difB [q.a,q.b] t.heard.length
noncomputable def z7(t:Ts):Bool:=vA t&&(vB t&&(vC t&&(wl t.lo t.hi 0 60&& !uK (zp t))))
theorem heardB_t{q:Two}:wG q=true↔1≤q.a∧q.a≤q.b∧q.b≤4000∧q.b - q.a≤40:=by
 unfold wG
 rw[Bool.and_eq_true,wE,decide_eq_true_eq]
 omega
theorem dif2{a b many:Int}:difB [a,b] many=true↔a≠b∧(0≤a∧a<many)∧(0≤b∧b<many):=by
 unfold difB
 rw[decide_eq_true_eq]
 simp
theorem vB_sh{t:Ts}(h8:t.heard.length≤8)(h:vB t=true):t.scales.length≤2∧∀q∈t.scales,(q.steps.length+1=q.keys.length∧q.keys.length≤8)∧(q.keys.Nodup∧∀x∈q.keys,0≤x∧x<(t.heard.length:Int))∧∀s∈q.steps,200≤s.a∧s.a≤s.b∧s.b≤5000:=by
 unfold vB at h
 rw[Bool.and_eq_true,decide_eq_true_eq,List.all_eq_true]at h
 refine⟨h.1,fun q hq=>?_⟩
 have h2:=h.2 q hq
 unfold wA at h2
 rw[Bool.and_eq_true,Bool.and_eq_true,decide_eq_true_eq,List.all_eq_true]at h2
 obtain⟨⟨h3,h4⟩,h5⟩:=h2
 have h4:=of_decide_eq_true h4
 have hl:q.keys.length≤8:=wZ 8 _ h4.1 fun x hx=>by have:=h4.2 x hx;omega
 rw[wrap64 (by unfold I64;omega)]at h3
 exact⟨⟨by omega,hl⟩,h4,fun s hs=>wE.1 (h5 s hs)⟩
theorem y8(t:Ts):z7 t=true↔TOk t:=by
 unfold z7
 rw[Bool.and_eq_true,Bool.and_eq_true,Bool.and_eq_true,Bool.and_eq_true]
 constructor
 ·rintro⟨hA,hB,hC,hD,hE⟩
  unfold vA at hA
  rw[Bool.and_eq_true,decide_eq_true_eq,List.all_eq_true]at hA
  obtain⟨b1,b2⟩:=vB_sh hA.1.2 hB
  unfold vC at hC
  rw[Bool.and_eq_true,decide_eq_true_eq,List.all_eq_true]at hC
  refine⟨hA.1.1,hA.1.2,fun q hq=>heardB_t.1 (hA.2 q hq),⟨b1,hC.1,fun q hq=>(b2 q hq).1⟩,fun q hq=>(b2 q hq).2.1,fun q hq=>(b2 q hq).2.2,fun q hq=>dif2.1 (hC.2 q hq),wE.1 hD,?_⟩
  unfold uK at hE
  simpa using hE
 ·intro h
  refine⟨?_,?_,?_,?_,?_⟩
  ·unfold vA
   rw[Bool.and_eq_true,decide_eq_true_eq,List.all_eq_true]
   exact⟨⟨h.n1,h.n8⟩,fun q hq=>heardB_t.2 (h.hd q hq)⟩
  ·unfold vB
   rw[Bool.and_eq_true,decide_eq_true_eq,List.all_eq_true]
   refine⟨h.sh.ns,fun q hq=>?_⟩
   have h1:=h.sh.sc q hq
   unfold wA
   rw[Bool.and_eq_true,Bool.and_eq_true,decide_eq_true_eq,List.all_eq_true,wrap64 (by unfold I64;omega)]
   exact⟨⟨by omega,decide_eq_true (h.sk q hq)⟩,fun s hs=>wE.2 (h.ss q hq s hs)⟩
  ·unfold vC
   rw[Bool.and_eq_true,decide_eq_true_eq,List.all_eq_true]
   exact⟨h.sh.np,fun q hq=>dif2.2 (h.pr q hq)⟩
  ·exact wE.2 h.bt
  ·unfold uK
   simpa using h.ac
theorem mem_sclJ{q:Scl}{j:Jn}(hl:q.steps.length+1=q.keys.length)(h:j∈sclJ q q.steps.length):j.kd=0∧j.one∈q.keys∧j.two∈q.keys∧∃s∈q.steps,j.lo=s.a∧j.hi=s.b:=by
 unfold sclJ at h
 obtain⟨i,hi,rfl⟩:=List.mem_map.1 h
 have hi:=List.mem_range.1 hi
 have h1:q.keys[i]? =some (q.keys[i]'(by omega)):=List.getElem?_eq_getElem (by omega)
 have h2:q.keys[i+1]? =some (q.keys[i+1]'(by omega)):=List.getElem?_eq_getElem (by omega)
 have h3:q.steps[i]? =some (q.steps[i]'(by omega)):=List.getElem?_eq_getElem (by omega)
 refine⟨rfl,?_,?_,q.steps[i]'(by omega),List.getElem_mem _,?_,?_⟩
 ·show(q.keys[i]?).getD 0∈_;rw[h1];exact List.getElem_mem _
 ·show(q.keys[i+1]?).getD 0∈_;rw[h2];exact List.getElem_mem _
 ·show((q.steps[i]?).map Two.a).getD 0=_;rw[h3];rfl
 ·show((q.steps[i]?).map Two.b).getD 0=_;rw[h3];rfl
theorem joins_ok{t:Ts}(h8:t.heard.length≤8)(hB:vB t=true)(hC:vC t=true)(hD:wl t.lo t.hi 0 60=true):∀j∈zp t,JV j∧(0≤j.one∧j.one<(t.heard.length:Int))∧(0≤j.two∧j.two<(t.heard.length:Int)):=by
 obtain⟨_,b2⟩:=vB_sh h8 hB
 unfold vC at hC
 rw[Bool.and_eq_true,List.all_eq_true]at hC
 have hD:=wE.1 hD
 intro j hj
 unfold zp at hj
 rcases List.mem_append.1 hj with hj|hj
 ·unfold y9 at hj
  obtain⟨q,hq,hj⟩:=List.mem_flatMap.1 hj
  obtain⟨c1,c2,c3⟩:=b2 q hq
  obtain⟨h1,h2,h3,s,hs,h4,h5⟩:=mem_sclJ c1.1 hj
  have:=c3 s hs
  exact⟨.inl ⟨.inl h1,by omega,by omega,by omega⟩,c2.2 _ h2,c2.2 _ h3⟩
 ·obtain⟨q,hq,rfl⟩:=List.mem_map.1 hj
  have h1:=dif2.1 (hC.2 q hq)
  exact⟨.inr ⟨.inl rfl,by show 0≤t.lo;omega,by show t.lo≤t.hi;omega,by show t.hi≤60;omega⟩,h1.2.1,h1.2.2⟩
theorem uU{t:Ts}(h:Sh t):(zp t).length≤18:=by
 unfold zp
 rw[List.length_append,List.length_map]
 have h1:=wv t.scales fun q hq=>by have:=h.sc q hq;omega
 have:=h.ns
 have:=h.np
 omega
set_option maxHeartbeats 8000000 in
theorem ret55(hi:Off is)(t:Ts):RetP Try.prog is orc 55 [t.u] (.bool (z7 t)):=by
 have q82:=ret82 (orc:=orc) hi t.heard
 refine yQ body55 pure55 (hi 55 (by decide)) rfl rfl (y6 (wC t 4)) (.inl (.bool _ _)) ?_
 cases hA:vA t with
 |false=>
  have e:z7 t=false:=by unfold z7;rw[hA];rfl
  rw[e]
  rw[show(decide (1≤t.heard.length∧t.heard.length≤8)&&t.heard.all wG)=false from hA]at q82
  refine kQ (yH rfl rfl (zC rfl (zB ?_)))
  refine zM [(1,.box 0 0)] ([SB.box t.cs]) (.cons rfl (.nil rfl)) rfl fun fr=>?_
  refine kQ (zG rfl rfl yA (zF rfl rfl rfl sh22 rfl (zX rfl (q82) (.lrefl _) (zA rfl (o_gS rfl rfl rfl rfl rfl (o_gS rfl rfl rfl rfl rfl (zQ rfl rfl rfl ?_)))))))
  refine zA rfl (o_gS rfl rfl rfl rfl rfl ?_)
  refine zc [(1,.box 0 0),(10,.bool false),(11,.tup [])] [] ([SB.box t.cs]) (.c2 rfl rfl (.cons rfl (.nil rfl))) rfl rfl fun fr=>?_
  refine o_gS rfl rfl rfl rfl rfl (zQ rfl rfl rfl ?_)
  refine zA rfl (o_gS rfl rfl rfl rfl rfl (o_gS rfl rfl rfl rfl rfl (o_gS rfl rfl rfl rfl rfl (zQ rfl rfl rfl ?_))))
  refine zA rfl (o_gS rfl rfl rfl rfl rfl ?_)
  refine zc [(19,.bool false),(20,U.tup [])] [] ([SB.box t.cs]) (.c2 rfl rfl (.nil rfl)) rfl rfl fun fr=>?_
  refine o_gS rfl rfl rfl rfl rfl (o_gS rfl rfl rfl rfl rfl (o_gS rfl rfl rfl rfl rfl (zQ rfl rfl rfl ?_)))
  refine zC rfl (zB (ze ?_))
  refine⟨.inr rfl,_,.cons _ _ _ _ (.tmp 2) .nil,?_⟩
  exact .refl _
 |true=>
  rw[show(decide (1≤t.heard.length∧t.heard.length≤8)&&t.heard.all wG)=true from hA]at q82
  have h8:t.heard.length≤8:=by
   unfold vA at hA;rw[Bool.and_eq_true,decide_eq_true_eq]at hA;exact hA.1.2
  have q83:=ret83 (orc:=orc) hi t h8
  have q84:=ret84 (orc:=orc) hi t h8
  cases hB:vB t with
  |false=>
   have e:z7 t=false:=by unfold z7;rw[hA,hB];rfl
   rw[e]
   rw[show(decide (t.scales.length≤2)&&t.scales.all (wA t.heard.length))=false from hB]at q83
   refine kQ (yH rfl rfl (zC rfl (zB ?_)))
   refine zM [(1,.box 0 0)] ([SB.box t.cs]) (.cons rfl (.nil rfl)) rfl fun fr=>?_
   refine kQ (zG rfl rfl yA (zF rfl rfl rfl sh22 rfl (zX rfl (q82) (.lrefl _) (zA rfl (o_gD rfl rfl rfl rfl rfl (zK rfl rfl rfl sh28 rfl (o_gD rfl rfl rfl rfl rfl (zX rfl (q83) (.lrefl _) ?_))))))))
   refine zT rfl rfl rfl ?_
   refine zA rfl (o_gS rfl rfl rfl rfl rfl ?_)
   refine zc [(1,.box 0 0),(10,.bool false),(11,.tup [])] [] ([SB.box t.cs]) (.c2 rfl rfl (.cons rfl (.nil rfl))) rfl rfl fun fr=>?_
   refine o_gS rfl rfl rfl rfl rfl (zQ rfl rfl rfl ?_)
   refine zA rfl (o_gS rfl rfl rfl rfl rfl (o_gS rfl rfl rfl rfl rfl (o_gS rfl rfl rfl rfl rfl (zQ rfl rfl rfl ?_))))
   refine zA rfl (o_gS rfl rfl rfl rfl rfl ?_)
   refine zc [(19,.bool false),(20,U.tup [])] [] ([SB.box t.cs]) (.c2 rfl rfl (.nil rfl)) rfl rfl fun fr=>?_
   refine o_gS rfl rfl rfl rfl rfl (o_gS rfl rfl rfl rfl rfl (o_gS rfl rfl rfl rfl rfl (zQ rfl rfl rfl ?_)))
   refine zC rfl (zB (ze ?_))
   refine⟨.inr rfl,_,.cons _ _ _ _ (.tmp 2) .nil,?_⟩
   exact .refl _
  |true=>
   rw[show(decide (t.scales.length≤2)&&t.scales.all (wA t.heard.length))=true from hB]at q83
   cases hC:vC t with
   |false=>
    have e:z7 t=false:=by unfold z7;rw[hA,hB,hC];rfl
    rw[e]
    rw[show(decide (t.pairs.length≤4)&&t.pairs.all fun q=>difB [q.a,q.b] t.heard.length)=false from hC]at q84
    refine kQ (yH rfl rfl (zC rfl (zB ?_)))
    refine zM [(1,.box 0 0)] ([SB.box t.cs]) (.cons rfl (.nil rfl)) rfl fun fr=>?_
    refine kQ (zG rfl rfl yA (zF rfl rfl rfl sh22 rfl (zX rfl (q82) (.lrefl _) (zA rfl (o_gD rfl rfl rfl rfl rfl (zK rfl rfl rfl sh28 rfl (o_gD rfl rfl rfl rfl rfl (zX rfl (q83) (.lrefl _) ?_))))))))
    refine zT rfl rfl rfl ?_
    refine zA rfl (o_gD rfl rfl rfl rfl rfl (zK rfl rfl rfl sh28 rfl ?_))
    refine zc [(1,.box 0 0),(10,.bool true),(11,.agg t.cs)] [] ([SB.box t.cs]) (.c2 rfl rfl (.cons rfl (.nil rfl))) rfl rfl fun fr=>?_
    refine o_gD rfl rfl rfl rfl rfl ?_
    refine zc [(1,.box 0 0),(10,.bool true),(11,.agg t.cs)] [] ([SB.box t.cs]) (.c2 rfl rfl (.cons rfl (.nil rfl))) rfl rfl fun fr=>?_
    refine zX rfl (q84) (.lrefl _) (zT rfl rfl rfl ?_)
    refine zA rfl (o_gS rfl rfl rfl rfl rfl (o_gS rfl rfl rfl rfl rfl (o_gS rfl rfl rfl rfl rfl (zQ rfl rfl rfl ?_))))
    refine zA rfl (o_gS rfl rfl rfl rfl rfl ?_)
    refine zc [(19,.bool false),(20,U.tup [])] [] ([SB.box t.cs]) (.c2 rfl rfl (.nil rfl)) rfl rfl fun fr=>?_
    refine o_gS rfl rfl rfl rfl rfl (o_gS rfl rfl rfl rfl rfl (o_gS rfl rfl rfl rfl rfl (zQ rfl rfl rfl ?_)))
    refine zC rfl (zB (ze ?_))
    refine⟨.inr rfl,_,.cons _ _ _ _ (.tmp 2) .nil,?_⟩
    exact .refl _
   |true=>
    rw[show(decide (t.pairs.length≤4)&&t.pairs.all fun q=>difB [q.a,q.b] t.heard.length)=true from hC]at q84
    have q85:=ret85 (orc:=orc) hi t.lo t.hi 0 60
    cases hD:wl t.lo t.hi 0 60 with
    |false=>
     have e:z7 t=false:=by unfold z7;rw[hA,hB,hC,hD];rfl
     rw[e]
     rw[hD]at q85
     refine kQ (yH rfl rfl (zC rfl (zB ?_)))
     refine zM [(1,.box 0 0)] ([SB.box t.cs]) (.cons rfl (.nil rfl)) rfl fun fr=>?_
     refine kQ (zG rfl rfl yA (zF rfl rfl rfl sh22 rfl (zX rfl (q82) (.lrefl _) (zA rfl (o_gD rfl rfl rfl rfl rfl (zK rfl rfl rfl sh28 rfl (o_gD rfl rfl rfl rfl rfl (zX rfl (q83) (.lrefl _) ?_))))))))
     refine zT rfl rfl rfl ?_
     refine zA rfl (o_gD rfl rfl rfl rfl rfl (zK rfl rfl rfl sh28 rfl ?_))
     refine zc [(1,.box 0 0),(10,.bool true),(11,.agg t.cs)] [] ([SB.box t.cs]) (.c2 rfl rfl (.cons rfl (.nil rfl))) rfl rfl fun fr=>?_
     refine o_gD rfl rfl rfl rfl rfl ?_
     refine zc [(1,.box 0 0),(10,.bool true),(11,.agg t.cs)] [] ([SB.box t.cs]) (.c2 rfl rfl (.cons rfl (.nil rfl))) rfl rfl fun fr=>?_
     refine zX rfl (q84) (.lrefl _) (zT rfl rfl rfl ?_)
     refine zA rfl (o_gD rfl rfl rfl rfl rfl (zG rfl rfl w9 (o_gD rfl rfl rfl rfl rfl (zK rfl rfl rfl sh26 rfl (o_gD rfl rfl rfl rfl rfl (zX rfl (q85) (.lrefl _) (zT rfl rfl rfl ?_)))))))
     refine zA rfl (o_gS rfl rfl rfl rfl rfl ?_)
     refine zc [(19,.bool false),(20,U.tup [])] [] ([SB.box t.cs]) (.c2 rfl rfl (.nil rfl)) rfl rfl fun fr=>?_
     refine o_gS rfl rfl rfl rfl rfl (o_gS rfl rfl rfl rfl rfl (o_gS rfl rfl rfl rfl rfl (zQ rfl rfl rfl ?_)))
     refine zC rfl (zB (ze ?_))
     refine⟨.inr rfl,_,.cons _ _ _ _ (.tmp 2) .nil,?_⟩
     exact .refl _
    |true=>
     have e:z7 t= !uK (zp t):=by unfold z7;rw[hA,hB,hC,hD];rfl
     rw[e]
     rw[hD]at q85
     have hsh:Sh t:=⟨(vB_sh h8 hB).1,by unfold vC at hC;rw[Bool.and_eq_true,decide_eq_true_eq]at hC;exact hC.1,fun q hq=>((vB_sh h8 hB).2 q hq).1⟩
     have hjs:=joins_ok h8 hB hC hD
     have q51:=ret51 (orc:=orc) hi hsh
     have q86:=ret86 (orc:=orc) hi (zp t) (by have:=uU hsh;omega) fun j hj=>by have:=hjs j hj;exact⟨⟨this.2.1.1,by omega⟩,⟨this.2.2.1,by omega⟩⟩
     refine kQ (yH rfl rfl (zC rfl (zB ?_)))
     refine zM [(1,.box 0 0)] ([SB.box t.cs]) (.cons rfl (.nil rfl)) rfl fun fr=>?_
     refine kQ (zG rfl rfl yA (zF rfl rfl rfl sh22 rfl (zX rfl (q82) (.lrefl _) (zA rfl (o_gD rfl rfl rfl rfl rfl (zK rfl rfl rfl sh28 rfl (o_gD rfl rfl rfl rfl rfl (zX rfl (q83) (.lrefl _) ?_))))))))
     refine zT rfl rfl rfl ?_
     refine zA rfl (o_gD rfl rfl rfl rfl rfl (zK rfl rfl rfl sh28 rfl ?_))
     refine zc [(1,.box 0 0),(10,.bool true),(11,.agg t.cs)] [] ([SB.box t.cs]) (.c2 rfl rfl (.cons rfl (.nil rfl))) rfl rfl fun fr=>?_
     refine o_gD rfl rfl rfl rfl rfl ?_
     refine zc [(1,.box 0 0),(10,.bool true),(11,.agg t.cs)] [] ([SB.box t.cs]) (.c2 rfl rfl (.cons rfl (.nil rfl))) rfl rfl fun fr=>?_
     refine zX rfl (q84) (.lrefl _) (zT rfl rfl rfl ?_)
     refine zA rfl (o_gD rfl rfl rfl rfl rfl (zG rfl rfl w9 (o_gD rfl rfl rfl rfl rfl (zK rfl rfl rfl sh26 rfl (o_gD rfl rfl rfl rfl rfl (zX rfl (q85) (.lrefl _) (zT rfl rfl rfl ?_)))))))
     refine zA rfl (o_gD rfl rfl rfl rfl rfl (zK rfl rfl rfl sh28 rfl ?_))
     refine zc [(19,.bool true),(20,U.agg t.cs)] [] ([SB.box t.cs]) (.c2 rfl rfl (.nil rfl)) rfl rfl fun fr=>?_
     refine o_gD rfl rfl rfl rfl rfl ?_
     refine zc [(19,.bool true),(20,U.agg t.cs)] [] ([SB.box t.cs]) (.c2 rfl rfl (.nil rfl)) rfl rfl fun fr=>?_
     refine zX rfl (q51) (.lrefl _) (o_gD rfl rfl rfl rfl rfl (zX rfl (q86) (.lrefl _) (o_gD rfl rfl rfl rfl rfl (o_not rfl rfl (zT rfl rfl rfl ?_)))))
     refine zC rfl (zB (ze ?_))
     refine⟨.inr rfl,_,.cons _ _ _ _ (.tmp 2) .nil,?_⟩
     exact .refl _
theorem ret17(hi:Off is)(t:Ts):RetP Try.prog is orc 17 [t.u] (.int .i64 (if z7 t=true then 0 else 10)):=by
 have q55:=ret55 (orc:=orc) hi t
 refine yQ body17 pure17 (hi 17 (by decide)) rfl rfl (y6 (wC t 4)) (.inl (.int _ _ _)) ?_
 cases h:z7 t with
 |true=>
  rw[h]at q55
  rw[if_pos rfl]
  refine kQ (yH rfl rfl (zC rfl (zB ?_)))
  refine zM [(1,.box 0 0)] ([SB.box t.cs]) (.cons rfl (.nil rfl)) rfl fun fr=>?_
  refine k_seq (kQ (zK rfl rfl rfl sh28 rfl (zX rfl (q55) (.lrefl _) (o_not rfl rfl (zB (k_cF rfl rfl ?_))))))
  refine zW (kQ (zC rfl (zB (ze ?_))))
  refine⟨.inr rfl,_,.cons _ _ _ _ (.tmp 2) .nil,?_⟩
  exact .refl _
 |false=>
  rw[h]at q55
  rw[if_neg (by decide)]
  refine kQ (yH rfl rfl (zC rfl (zB ?_)))
  refine zM [(1,.box 0 0)] ([SB.box t.cs]) (.cons rfl (.nil rfl)) rfl fun fr=>?_
  refine k_seq (kQ (zK rfl rfl rfl sh28 rfl (zX rfl (q55) (.lrefl _) (o_not rfl rfl (zB (k_cT rfl rfl ?_))))))
  refine kQ (zC rfl (zB (ze ?_)))
  refine⟨.inr rfl,_,.cons _ _ _ _ (.tmp 2) .nil,?_⟩
  exact .refl _
end Go.Proofs.Ytinhcdijbcamaaa.tuneNarrower
namespace Vam
open Go
section
variable {P:Program}{is:FuncId→Bool}{orc:Known}{s:St}
theorem d_plainE{all:List Oper}{o:Oper}{l:List (Oper×M0)}{Q:St→Prop}(M:St→Prop)(h:WpO P is orc all [o] s M)(k:∀s1,M s1→WpD P is orc all l s1 Q):WpD P is orc all ((o,.plain)::l) s Q:=by
 intro Pr φ S tm H m0 hm hp hs
 cases hm with
 |plain _ _ m hm=>
  have e:pend ((o,Md.plain)::m)=pend m:=rfl
  rw[e]at hp hs
  obtain⟨s2,tm1,H1,φ1,S1,⟨n1,r1⟩,r2,r3,r4,r5,r6⟩:=h _ φ S tm H hs
  exact d_step ⟨n1,fun n hn=>by rw[←step_one];exact r1 n hn⟩ r3 r4 (r5.weaken (fun b hb=>.inl hb) fun _ h=>h) (hm.keep fun i hi=>r5.get i (.inr hi)) ⟨hp.nodup,fun i hi=>by rw[r5.fz];exact hp.ok i hi,hp.out,hp.odd⟩ r2 (k s2 r6)
end
end Vam
namespace Go.Proofs.Ytinhcdijbcamaaa.tuneNarrower
open Vam
variable {is:FuncId→Bool}{orc:Known}
noncomputable def b105:Code:=(Try.f105.body).getD .skip
theorem body105:bodyOf Try.prog 105=some (6,b105,[.tmp 4]):=by kernel_rfl
theorem pure105:pureFn Try.prog 105=false:=by kernel_rfl
theorem fld84_1:zr Try.prog 84 1=some (5,70):=by kernel_rfl
theorem sh70:shOf Try.prog 70=.one:=by kernel_rfl
noncomputable def b114:Code:=(Try.f114.body).getD .skip
theorem body114:bodyOf Try.prog 114=some (30,b114,[]):=by kernel_rfl
theorem pure114:pureFn Try.prog 114=false:=by kernel_rfl
theorem Bd.mono{n m:Nat}{u:U}(h:Bd n u)(hm:n≤m):Bd m u:=fun φ S v hv=>(h φ S v hv).mono (fun a b e=>BMap.cut_of (by have:=(BMap.cut_some e).1;omega) (BMap.cut_some e).2) S.le_refl
theorem BdS.mono{n m:Nat}{x:SB}(h:BdS n x)(hm:n≤m):BdS m x:=by
 cases x with
 |box cs=>exact fun c hc=>Bd.mono (h c hc) hm
 |froz cs=>exact fun c hc=>Bd.mono (h c hc) hm
 |map es=>exact fun p hp=>⟨Bd.mono (h p hp).1 hm,Bd.mono (h p hp).2 hm⟩
 |loop q l=>exact fun i=>Bd.mono (h i) hm
 |dead=>trivial
def BdY(Y:List SB):Prop:=∀x∈Y,BdS Y.length x
def NBS(x:SB):Prop:=∃cs,x=.box cs∧∀c∈cs,NB c
theorem NBS.bd{x:SB}(h:NBS x)(n:Nat):BdS n x:=by
 obtain⟨cs,rfl,k⟩:=h
 exact fun c hc=>(k c hc).bd n
theorem BdY.snoc{Y:List SB}{x:SB}(h:BdY Y)(hx:NBS x):BdY (Y++[x]):=fun y hy=>by
 rcases List.mem_append.1 hy with hy|hy
 ·exact BdS.mono (h y hy) (by simp)
 ·rcases List.mem_singleton.1 hy with rfl;exact hx.bd _
theorem BdY.put{Y:List SB}{x:SB}{i:Nat}(h:BdY Y)(hx:BdS Y.length x):BdY (Y.set i x):=fun y hy=>by
 rw[List.length_set]
 rcases List.mem_or_eq_of_mem_set hy with hy|rfl
 ·exact h y hy
 ·exact hx
theorem nb_jn(q:Jn):∀c∈[U.int .i64 q.kd,.int .i64 q.one,.int .i64 q.two,.int .i64 q.lo,.int .i64 q.hi],NB c:=fun c hc=>by
 simp only[List.mem_cons,List.not_mem_nil,or_false]at hc
 rcases hc with rfl|rfl|rfl|rfl|rfl<;>exact NB.int _ _
theorem nbs_jn(q:Jn):NBS (.box [U.int .i64 q.kd,.int .i64 q.one,.int .i64 q.two,.int .i64 q.lo,.int .i64 q.hi]):=⟨_,rfl,nb_jn q⟩
abbrev setC(t:Ts)(J:List Jn):List U:=[.lst .ro 2 (zS t.heard),.lst .ro 2 (yg t.scales),.lst .ro 2 (zS t.pairs),.int .i64 t.lo,.int .i64 t.hi,.lst .ro 5 (jnsU J)]
theorem uN(t:Ts)(J:List Jn)(k:Nat):∀c∈setC t J,Dat (k+3) c:=fun c hc=>by
 simp only[List.mem_cons,List.not_mem_nil,or_false]at hc
 rcases hc with rfl|rfl|rfl|rfl|rfl|rfl
 ·exact wS _ .ro (fun h=>by cases h) _
 ·exact dat_scls _ .ro (fun h=>by cases h) _
 ·exact wS _ .ro (fun h=>by cases h) _
 ·exact .int _ _ _
 ·exact .int _ _ _
 ·exact ud _ .ro (fun h=>by cases h) _
theorem wm(t:Ts)(J:List Jn)(k:Nat):Dat (k+4) (.agg (setC t J)):=.agg _ _ (uN t J k)
theorem wO(t:Ts)(J:List Jn):NBS (.box (setC t J)):=⟨_,rfl,fun c hc=>(uN t J 0 c hc).nb⟩
theorem wpc105(t:Ts)(J:List Jn)(v:Int)(st:List SB):WpC Try.prog is orc 105 [.agg (setC t J),.int .i64 v] st fun u st'=>u=.fn 114 [] [.box st.length 0,.box (st.length+1) 0]∧st'=st++[.box (setC t J),.box [.int .i64 v]]:=by
 refine wpc_of body105 pure105 rfl rfl ?_
 refine kQ (yH rfl rfl (yH rfl rfl (zC rfl (zB ?_))))
 refine zM [(2,.box st.length 0),(3,.box (st.length+1) 0)] (st++[.box (setC t J),.box [.int .i64 v]]) (.cons rfl (.cons (by show U.box (st++[SB.box _]).length 0=_;simp) (.nil rfl))) (by show(st++[_])++[_]=_;rw[List.append_assoc];rfl) fun fr=>?_
 refine kQ ?_
 refine o_func rfl ?_
 refine zC rfl (zB (ze ?_))
 refine⟨.inr rfl,_,.cons _ _ _ _ (.tmp 4) .nil,?_⟩
 exact⟨_,.refl _,rfl,rfl⟩
structure Keeps(J:List Jn)(t:Ts)(v:Int)(a bs bk:Nat)(lp:Lp)(good:Jn→Bool)(Inv D:List SB→Prop):Prop where
 s:∀Y,Inv Y→Y[bs]? =some (.box (setC t J))
 k:∀Y,Inv Y→Y[bk]? =some (.box [.int .i64 v])
 l:∀Y,Inv Y→Y[a]? =some (.loop .ready lp)
 n:∀Y,Inv Y→bs<Y.length∧bk<Y.length
 grow:∀Y x,Inv Y→NBS x→Inv (Y++[x])
 own:∀i,NoOwn (lp.fr i)
 ps:∃p,lp.ps=[p]∧Nat.blt p 1024=true
 run:∀(is:FuncId→Bool) (orc:Known),Off is→∀Y k,Inv Y→k∈see J v→WpY Try.prog is orc a lp [k.u] Y fun u st'=>(good k=true∧u=.bool true∧Inv st')∨(good k=false∧u=.bool false∧D st')
theorem see_take{J:List Jn}{v:Int}{n:Nat}{j:Jn}(h:J[n]? =some j):see (J.take (n+1)) v=see (J.take n) v++(see1 v j).toList:=by
 unfold see
 rw[List.take_add_one,h,List.filterMap_append]
 cases hs:see1 v j<;>simp[hs]
set_option maxHeartbeats 8000000 in
theorem wpc114(hi:Off is){J:List Jn}{t:Ts}{v:Int}{a bs bk:Nat}{lp:Lp}{good:Jn→Bool}{Inv D:List SB→Prop}(h:Keeps J t v a bs bk lp good Inv D)(hJ:J.length≤64)(hV:∀j∈J,JV j)(Y:List SB)(hY:Inv Y):
  WpC Try.prog is orc 114 [.yld a,.box bs 0,.box bk 0] Y fun _ st'=>((see J v).all good=true∧Inv st')∨((see J v).all good=false∧D st'):=by
 refine wpc_of body114 pure114 rfl rfl ?_
 have hs0:=h.s Y hY
 refine kQ (zG rfl rfl fld84_1 (zF rfl rfl hs0 sh70 rfl ?_))
 refine yZ rfl ty70 rfl (List.length_map _) ?_
 refine zA rfl (zB (zP ?_))
 refine k_loop (fun k st=>∃n:Nat,k+n=J.length∧(see (J.take n) v).all good=true∧Inv st.st∧Holds st [(0,.yld a),(2,.box bk 0),(7,.lst .ro 5 (jnsU J)),(8,.int .i64 J.length),(9,.int .i64 n)]) (fun k st hI=>?_) J.length _ ?_
 ·obtain⟨n,hk,hall,hInv,hs⟩:=hI
  generalize hst:st.st=Z at hInv
  refine zM _ _ hs hst fun fr=>?_
  have hk0:=h.k Z hInv
  by_cases hn:n<J.length
  ·obtain⟨j,hj⟩:∃j,J[n]? =some j:=⟨J[n],List.getElem?_eq_getElem hn⟩
   have hjv:=hV j (List.mem_of_getElem? hj)
   have htk:=see_take (v:=v) hj
   have next:∀k,see1 v j=some k→good k=true→(see (J.take (n+1)) v).all good=true:=fun k hk1 hg=>by
    rw[htk,hk1,List.all_append,hall];simp[hg]
   have memk:∀k,see1 v j=some k→k∈see J v:=fun k hk1=>by
    unfold see;exact List.mem_filterMap.2 ⟨j,List.mem_of_getElem? hj,hk1⟩
   by_cases h2:j.two=v
   ·have hs1:see1 v j=some j.bk:=by unfold see1;simp[h2,Jn.bk]
    have h1:j.bk.one=v:=h2
    have q115:=ret115 (orc:=orc) hi hjv
    have hgr:Inv (Z++[.box [.int .i64 j.bk.kd,.int .i64 j.bk.one,.int .i64 j.bk.two,.int .i64 j.bk.lo,.int .i64 j.bk.hi]]):=h.grow Z _ hInv (nbs_jn j.bk)
    have hl0:=h.l _ hgr
    refine kQ (zt rfl rfl rfl (zB (k_seq (k_cT rfl (decide_eq_true (by omega)) (zW (k_seq (zP (kQ ?_))))))))
    refine yr (u:=(j).u) rfl ty70 rfl rfl (Int.natCast_nonneg _) (by simp[hj]) cl72 ?_
    refine yC rfl rfl sh72 rfl ?_
    refine zV rfl ze72 ?_
    refine zN rfl (za _ _) sh72 rfl rfl rfl rfl rfl ?_
    refine zB ?_
    refine zM [(0,.yld a),(2,.box bk 0),(5,.box (List.length Z) 0),(7,.lst .ro 5 (jnsU J)),(8,.int .i64 ↑(List.length J)),(9,.int .i64 ↑n)] (Z++[SB.box [.int .i64 j.kd,.int .i64 j.one,.int .i64 j.two,.int .i64 j.lo,.int .i64 j.hi]]) (.c4 rfl rfl rfl rfl (.c2 rfl rfl (.nil rfl))) (yN _ _ _) fun fr=>?_
    refine k_seq (kQ (zG rfl rfl wJ (zF rfl rfl (za _ _) sh3 rfl ?_)))
    refine zF rfl rfl (yF hk0) sh3 rfl ?_
    refine o_eql rfl rfl rfl (zB (k_cT rfl (decide_eq_true h2) ?_))
    refine k_region (zK rfl rfl (za _ _) sh72 rfl ?_)
    refine zX rfl (q115) (.lrefl _) (zN rfl (za _ _) sh72 rfl rfl rfl rfl rfl ?_)
    refine zB (kQ (zG rfl rfl w0 (zF rfl rfl (at_set _ _ _) sh3 rfl ?_)))
    refine zF rfl rfl (at_ps hk0 (Nat.le_refl _)) sh3 rfl ?_
    refine o_eql rfl rfl rfl (zA rfl (o_gD rfl rfl rfl rfl (decide_eq_true h2) ?_))
    refine zA rfl (o_gD rfl rfl rfl rfl (decide_eq_true h2) ?_)
    refine zK rfl rfl (at_set _ _ _) sh72 rfl ?_
    refine o_gD rfl rfl rfl rfl (decide_eq_true h2) ?_
    obtain⟨pp,hp,hp2⟩:=h.ps
    refine zc [(0,.yld a),(2,.box bk 0),(7,.lst .ro 5 (jnsU J)),(8,.int .i64 J.length),(9,.int .i64 n),(22,.bool (decide (j.bk.one=v))),(23,.bool (decide (j.bk.one=v))),(24,.yld a),(25,j.bk.u)] [] (Z++[.box [.int .i64 j.bk.kd,.int .i64 j.bk.one,.int .i64 j.bk.two,.int .i64 j.bk.lo,.int .i64 j.bk.hi]]) (.c4 rfl rfl rfl rfl (.c4 rfl rfl rfl rfl (.cons rfl (.nil rfl)))) (by show(Z++[_]).set Z.length _=_;exact yN _ _ _) rfl fun fr=>?_
    refine o_yield (a:=a) rfl rfl hl0 h.own (by rw[hp];simp[hp2]) (by rw[hp];rfl) (.lrefl _) (h.run is orc hi _ j.bk hgr (memk _ hs1)) fun u st1 hM=>?_
    rcases hM with ⟨hg,rfl,hI1⟩|⟨hg,rfl,hD1⟩
    ·refine o_gD rfl rfl rfl rfl (decide_eq_true h1) ?_
     refine o_not rfl rfl (zT rfl rfl (decide_eq_true h1) ?_)
     refine zB (k_cF rfl rfl ?_)
     refine zW (k_region ?_)
     refine o_add rfl rfl rfl (by unfold I64;omega) (zA rfl (zB ?_))
     exact⟨k - 1,by omega,n+1,by omega,next _ hs1 hg,hI1,.c4 rfl rfl rfl rfl (.cons rfl (.nil rfl))⟩
    ·refine o_gD rfl rfl rfl rfl (decide_eq_true h1) ?_
     refine o_not rfl rfl (zT rfl rfl (decide_eq_true h1) ?_)
     refine zB (k_cT rfl rfl ?_)
     refine ze ?_
     refine⟨.inr rfl,_,.nil,?_⟩
     exact⟨_,.refl _,.inr ⟨List.all_eq_false.2 ⟨_,memk _ hs1,by simp[hg]⟩,hD1⟩⟩
   ·by_cases h1:j.one=v
    ·have hs1:see1 v j=some j:=by unfold see1;simp[h2,h1]
     have hgr:Inv (Z++[.box [.int .i64 j.kd,.int .i64 j.one,.int .i64 j.two,.int .i64 j.lo,.int .i64 j.hi]]):=h.grow Z _ hInv (nbs_jn j)
     have hl0:=h.l _ hgr
     refine kQ (zt rfl rfl rfl (zB (k_seq (k_cT rfl (decide_eq_true (by omega)) (zW (k_seq (zP (kQ ?_))))))))
     refine yr (u:=(j).u) rfl ty70 rfl rfl (Int.natCast_nonneg _) (by simp[hj]) cl72 ?_
     refine yC rfl rfl sh72 rfl ?_
     refine zV rfl ze72 ?_
     refine zN rfl (za _ _) sh72 rfl rfl rfl rfl rfl ?_
     refine zB ?_
     refine zM [(0,.yld a),(2,.box bk 0),(5,.box (List.length Z) 0),(7,.lst .ro 5 (jnsU J)),(8,.int .i64 ↑(List.length J)),(9,.int .i64 ↑n)] (Z++[SB.box [.int .i64 j.kd,.int .i64 j.one,.int .i64 j.two,.int .i64 j.lo,.int .i64 j.hi]]) (.c4 rfl rfl rfl rfl (.c2 rfl rfl (.nil rfl))) (yN _ _ _) fun fr=>?_
     refine k_seq (kQ (zG rfl rfl wJ (zF rfl rfl (za _ _) sh3 rfl ?_)))
     refine zF rfl rfl (yF hk0) sh3 rfl ?_
     refine o_eql rfl rfl rfl (zB (k_cF rfl (decide_eq_false h2) ?_))
     refine zW (kQ (zG rfl rfl w0 (zF rfl rfl (za _ _) sh3 rfl ?_)))
     refine zF rfl rfl (yF hk0) sh3 rfl ?_
     refine o_eql rfl rfl rfl (zA rfl (o_gD rfl rfl rfl rfl (decide_eq_true h1) ?_))
     refine zA rfl (o_gD rfl rfl rfl rfl (decide_eq_true h1) ?_)
     refine zK rfl rfl (za _ _) sh72 rfl ?_
     refine o_gD rfl rfl rfl rfl (decide_eq_true h1) ?_
     obtain⟨pp,hp,hp2⟩:=h.ps
     refine o_yield (a:=a) rfl rfl hl0 h.own (by rw[hp];simp[hp2]) (by rw[hp];rfl) (.lrefl _) (h.run is orc hi _ j hgr (memk _ hs1)) fun u st1 hM=>?_
     rcases hM with ⟨hg,rfl,hI1⟩|⟨hg,rfl,hD1⟩
     ·refine o_gD rfl rfl rfl rfl (decide_eq_true h1) ?_
      refine o_not rfl rfl (zT rfl rfl (decide_eq_true h1) ?_)
      refine zB (k_cF rfl rfl ?_)
      refine zW (k_region ?_)
      refine o_add rfl rfl rfl (by unfold I64;omega) (zA rfl (zB ?_))
      exact⟨k - 1,by omega,n+1,by omega,next _ hs1 hg,hI1,.c4 rfl rfl rfl rfl (.cons rfl (.nil rfl))⟩
     ·refine o_gD rfl rfl rfl rfl (decide_eq_true h1) ?_
      refine o_not rfl rfl (zT rfl rfl (decide_eq_true h1) ?_)
      refine zB (k_cT rfl rfl ?_)
      refine ze ?_
      refine⟨.inr rfl,_,.nil,?_⟩
      exact⟨_,.refl _,.inr ⟨List.all_eq_false.2 ⟨_,memk _ hs1,by simp[hg]⟩,hD1⟩⟩
    ·have hs1:see1 v j=none:=by unfold see1;simp[h2,h1]
     have hgr:Inv (Z++[.box [.int .i64 j.kd,.int .i64 j.one,.int .i64 j.two,.int .i64 j.lo,.int .i64 j.hi]]):=h.grow Z _ hInv (nbs_jn j)
     refine kQ (zt rfl rfl rfl (zB (k_seq (k_cT rfl (decide_eq_true (by omega)) (zW (k_seq (zP (kQ ?_))))))))
     refine yr (u:=(j).u) rfl ty70 rfl rfl (Int.natCast_nonneg _) (by simp[hj]) cl72 ?_
     refine yC rfl rfl sh72 rfl ?_
     refine zV rfl ze72 ?_
     refine zN rfl (za _ _) sh72 rfl rfl rfl rfl rfl ?_
     refine zB ?_
     refine zM [(0,.yld a),(2,.box bk 0),(5,.box (List.length Z) 0),(7,.lst .ro 5 (jnsU J)),(8,.int .i64 ↑(List.length J)),(9,.int .i64 ↑n)] (Z++[SB.box [.int .i64 j.kd,.int .i64 j.one,.int .i64 j.two,.int .i64 j.lo,.int .i64 j.hi]]) (.c4 rfl rfl rfl rfl (.c2 rfl rfl (.nil rfl))) (yN _ _ _) fun fr=>?_
     refine k_seq (kQ (zG rfl rfl wJ (zF rfl rfl (za _ _) sh3 rfl ?_)))
     refine zF rfl rfl (yF hk0) sh3 rfl ?_
     refine o_eql rfl rfl rfl (zB (k_cF rfl (decide_eq_false h2) ?_))
     refine zW (kQ (zG rfl rfl w0 (zF rfl rfl (za _ _) sh3 rfl ?_)))
     refine zF rfl rfl (yF hk0) sh3 rfl ?_
     refine o_eql rfl rfl rfl (zA rfl (o_gS rfl rfl rfl rfl (decide_eq_false h1) ?_))
     refine o_gS rfl rfl rfl rfl (decide_eq_false h1) ?_
     refine o_gS rfl rfl rfl rfl (decide_eq_false h1) ?_
     refine o_gS rfl rfl rfl rfl (decide_eq_false h1) ?_
     refine zQ rfl rfl (decide_eq_false h1) ?_
     refine zB ?_
     refine zM [(0,.yld a),(2,.box bk 0),(7,.lst .ro 5 (jnsU J)),(8,.int .i64 ↑(List.length J)),(9,.int .i64 ↑n),(24,.tup []),(25,.tup []),(26,.tup []),(27,.tup []),(28,.bool false)] (Z++[SB.box [.int .i64 j.kd,.int .i64 j.one,.int .i64 j.two,.int .i64 j.lo,.int .i64 j.hi]]) (.c4 rfl rfl rfl rfl (.c4 rfl rfl rfl rfl (.c2 rfl rfl (.nil rfl)))) rfl fun fr=>?_
     refine k_cF rfl rfl ?_
     refine zW (k_region ?_)
     refine o_add rfl rfl rfl (by unfold I64;omega) (zA rfl (zB ?_))
     exact⟨k - 1,by omega,n+1,by omega,by rw[htk,hs1,List.all_append,hall];rfl,hgr,.c4 rfl rfl rfl rfl (.cons rfl (.nil rfl))⟩
  ·have hn:n=J.length:=by omega
   subst hn
   rw[List.take_length]at hall
   refine kQ (zt rfl rfl rfl (zB (k_seq (k_cF rfl (decide_eq_false (by omega)) (yp ?_)))))
   exact⟨.inl rfl,_,.nil,_,.refl _,.inl ⟨hall,hInv⟩⟩
 ·exact⟨0,rfl,rfl,hY,.c4 rfl rfl rfl rfl (.cons rfl (.nil rfl))⟩
end Go.Proofs.Ytinhcdijbcamaaa.tuneNarrower
