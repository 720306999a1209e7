import Derived.Test.YtinhcdijbcamaaaVamT20
set_option linter.unusedVariables false
set_option linter.unusedSimpArgs false
set_option linter.constructorNameAsVariable false
namespace Go.Proofs.Ytinhcdijbcamaaa.tuneWider
open Vam
section
variable {is:FuncId→Bool}{orc:Known}
noncomputable def b10:Code:=(Try.f10.body).getD .skip
theorem body10:bodyOf Try.prog 10=some (206,b10,[.tmp 4]):=by kernel_rfl
theorem pure10:pureFn Try.prog 10=true:=by kernel_rfl
variable {t X:Ts}{J:List Jn}{v x y a b c d:Int}{st Y Z:List SB}{l:List Int}{p:Int→Int}
def BandP(t:Ts)(p:Int→Int)(a b:Int):Prop:=(∀v,Key t v→InH t v (p v))∧(∀j∈wI t.scales,Fit j (p j.one) (p j.two))∧∀q∈t.pairs,a≤p q.b - p q.a∧p q.b - p q.a≤b
theorem tunP_iff:TunT t (zY t) p↔BandP t p t.lo t.hi:=by
 constructor
 ·rintro⟨h1,h2⟩
  exact⟨fun v hv=>h1 v hv.1 hv.2,fun j hj=>h2 j (zEH.2 (.inl hj)),fun q hq=>zFf.1 (h2 _ (zEH.2 (.inr ⟨q,hq,rfl⟩)))⟩
 ·rintro⟨h1,h2,h3⟩
  refine⟨fun v h4 h5=>h1 v ⟨h4,h5⟩,fun j hj=>?_⟩
  rcases zEH.1 hj with hj|⟨q,hq,rfl⟩
  ·exact h2 j hj
  ·exact zFf.2 (h3 q hq)
structure Wid(t X:Ts):Prop where
 hd:X.heard=t.heard
 ok:TOk X
 fit:∀p a b,BandP t p a b→BandP X p a b
 lo:X.lo≤t.lo
 hi:t.hi≤X.hi
theorem Wid.tun(h:Wid t X)(hp:TunT t (zY t) p):TunT X (zY X) p:=by
 obtain⟨h1,h2,h3⟩:=h.fit _ _ _ (tunP_iff.1 hp)
 have:=h.lo
 have:=h.hi
 exact tunP_iff.2 ⟨h1,h2,fun q hq=>by have:=h3 q hq;omega⟩
theorem wid_beat(h:TOk t)(by':Int)(hb:0≤by'):Wid t (zDM t (max 0 (t.lo - by')) (min 60 (t.hi+by'))):=by
 have hbt:=h.bt
 refine⟨rfl,beat_ok h (by omega) (by omega) (by omega),fun p a b hp=>hp,?_,?_⟩
 ·show max 0 (t.lo - by')≤t.lo;omega
 ·show t.hi≤min 60 (t.hi+by');omega
def cutP(t:Ts)(n:Nat):Ts:={t with pairs:=t.pairs.take n}
theorem cutP_ej(t:Ts)(n:Nat):List.Sublist (EJ (zY (cutP t n))) (EJ (zY t)):=by
 unfold EJ zY
 refine List.Sublist.map _ (List.Sublist.append (List.Sublist.refl _) ?_)
 show List.Sublist ((t.pairs.take n).map (pairJ t)) _
 exact List.Sublist.map _ (List.take_sublist _ _)
theorem wid_cut(h:TOk t)(n:Nat):Wid t (cutP t n):=by
 have hm:∀q∈t.pairs.take n,q∈t.pairs:=fun q hq=>List.mem_of_mem_take hq
 refine⟨rfl,⟨h.n1,h.n8,h.hd,⟨h.sh.ns,?_,h.sh.sc⟩,h.sk,h.ss,fun q hq=>h.pr q (hm q hq),h.bt,h.ac.sub (cutP_ej t n)⟩,fun p a b hp=>⟨hp.1,hp.2.1,fun q hq=>hp.2.2 q (hm q hq)⟩,Int.le_refl _,Int.le_refl _⟩
 show(t.pairs.take n).length≤4
 have:=h.sh.np
 rw[List.length_take];omega
def widK(j by':Int)(q:Scl)(k:Nat):Two:=if j=(k:Int)then⟨max 200 (((q.steps[k]?).map Two.a).getD 0 - by'),min 5000 (((q.steps[k]?).map Two.b).getD 0+by')⟩else⟨((q.steps[k]?).map Two.a).getD 0,((q.steps[k]?).map Two.b).getD 0⟩
def widL(j by':Int)(q:Scl)(n:Nat):List Two:=(List.range n).map (widK j by' q)
def widS(j by':Int)(q:Scl):Scl:=⟨q.keys,widL j by' q q.steps.length⟩
def widT(t:Ts)(j by':Int):Ts:={t with scales:=t.scales.map (widS j by')}
theorem widL_succ(j by':Int)(q:Scl)(n:Nat):widL j by' q (n+1)=widL j by' q n++[widK j by' q n]:=by unfold widL;rw[List.range_succ,List.map_append];rfl
theorem widL_len(j by':Int)(q:Scl)(n:Nat):(widL j by' q n).length=n:=by unfold widL;simp
theorem zDj(j by':Int)(q:Scl):(widS j by' q).steps.length=q.steps.length:=widL_len _ _ _ _
theorem wid_scale(h:TOk t)(j by':Int)(hb:0≤by'):Wid t (widT t j by'):=by
 have hst:∀q∈t.scales,∀k,k<q.steps.length→∃s∈q.steps,q.steps[k]? =some s∧(widS j by' q).steps[k]? =some (widK j by' q k)∧(200≤(widK j by' q k).a∧(widK j by' q k).a≤s.a∧s.b≤(widK j by' q k).b∧(widK j by' q k).b≤5000):=fun q hq k hk=>by
  have hs:=h.ss q hq _ (List.getElem_mem hk)
  refine⟨q.steps[k],List.getElem_mem hk,List.getElem?_eq_getElem hk,?_,?_⟩
  ·show(widL j by' q q.steps.length)[k]? =_
   unfold widL
   rw[List.getElem?_map,List.getElem?_range hk];rfl
  ·unfold widK
   rw[List.getElem?_eq_getElem hk]
   simp only[Option.map_some,Option.getD_some]
   split<;>simp only<;>omega
 have hE:EJ (zY (widT t j by'))=EJ (zY t):=by
  unfold EJ zY
  rw[List.map_append,List.map_append]
  congr 1
  show(wI (t.scales.map (widS j by'))).map edJ=(wI t.scales).map edJ
  unfold wI
  rw[List.flatMap_map,List.map_flatMap,List.map_flatMap]
  congr 1
  funext q
  rw[zDj]
  unfold sclJ
  rw[List.map_map,List.map_map]
  rfl
 refine⟨rfl,⟨h.n1,h.n8,h.hd,⟨?_,h.sh.np,fun q' hq'=>?_⟩,fun q' hq'=>?_,fun q' hq' s hs=>?_,h.pr,h.bt,by rw[hE];exact h.ac⟩,fun p a b hp=>⟨hp.1,fun i hi=>?_,hp.2.2⟩,Int.le_refl _,Int.le_refl _⟩
 ·show(t.scales.map (widS j by')).length≤2
  rw[List.length_map];exact h.sh.ns
 ·obtain⟨q,hq,rfl⟩:=List.mem_map.1 hq'
  rw[zDj]
  exact h.sh.sc q hq
 ·obtain⟨q,hq,rfl⟩:=List.mem_map.1 hq'
  exact h.sk q hq
 ·obtain⟨q,hq,rfl⟩:=List.mem_map.1 hq'
  obtain⟨k,hk,e⟩:=List.getElem_of_mem hs
  rw[zDj]at hk
  obtain⟨s0,hs0,_,e2,h1,h2,h3,h4⟩:=hst q hq k hk
  rw[List.getElem?_eq_getElem (by rw[zDj];exact hk),e]at e2
  cases e2
  have:=h.ss q hq s0 hs0
  omega
 ·obtain⟨q',hq',hjq⟩:=List.mem_flatMap.1 hi
  obtain⟨q,hq,rfl⟩:=List.mem_map.1 hq'
  obtain⟨k,hk,rfl⟩:=List.mem_map.1 hjq
  have hk:=List.mem_range.1 hk
  rw[zDj]at hk
  obtain⟨s0,hs0,e1,e2,h1,h2,h3,h4⟩:=hst q hq k hk
  have hj0:(⟨0,(q.keys[k]?).getD 0,(q.keys[k+1]?).getD 0,s0.a,s0.b⟩:Jn)∈wI t.scales:=List.mem_flatMap.2 ⟨q,hq,List.mem_map.2 ⟨k,List.mem_range.2 hk,by rw[e1];rfl⟩⟩
  have hf:=hp.2.1 _ hj0
  have hr:=h.sok.jr _ (zEH.2 (.inl hj0))
  have hx:=in_pos h.sok hr.1 (hp.1 _ hr.1)
  have hv0:=h.sok.jv _ (zEH.2 (.inl hj0))
  rw[fit_kd hv0 hx.1]at hf
  have hv1:JV ⟨0,(q.keys[k]?).getD 0,(q.keys[k+1]?).getD 0,(widK j by' q k).a,(widK j by' q k).b⟩:=.inl ⟨.inl rfl,h1,by have:=h.ss q hq s0 hs0;show(widK j by' q k).a≤(widK j by' q k).b;omega,h4⟩
  show Fit ⟨0,(q.keys[k]?).getD 0,(q.keys[k+1]?).getD 0,(((widS j by' q).steps[k]?).map Two.a).getD 0,(((widS j by' q).steps[k]?).map Two.b).getD 0⟩ (p ((q.keys[k]?).getD 0)) (p ((q.keys[k+1]?).getD 0))
  rw[e2]
  show Fit ⟨0,(q.keys[k]?).getD 0,(q.keys[k+1]?).getD 0,(widK j by' q k).a,(widK j by' q k).b⟩ (p ((q.keys[k]?).getD 0)) (p ((q.keys[k+1]?).getD 0))
  rw[fit_kd hv1 hx.1]
  simp only at hf hx ⊢
  generalize p ((q.keys[k]?).getD 0)=P at*
  generalize p ((q.keys[k+1]?).getD 0)=Q at*
  have hf:s0.a*P≤1000*Q∧1000*Q≤s0.b*P:=by omega
  refine .inl ⟨trivial,Int.le_trans (Int.mul_le_mul_of_nonneg_right h2 (by omega)) hf.1,Int.le_trans hf.2 (Int.mul_le_mul_of_nonneg_right h3 (by omega))⟩
set_option maxHeartbeats 16000000 in
theorem ret10(hi:Off is)(t:Ts)(n0 n1 n2 n3:Int)(r21:RetP Try.prog is orc 21 [] (.bool true)):RetP Try.prog is orc 10 [t.u,.agg [.int .i64 n0,.int .i64 n1,.int .i64 n2,.int .i64 n3]] (.bool true):=by
 have q35:=ret35 (orc:=orc) hi t
 refine yV body10 pure10 (hi 10 (by decide)) rfl rfl (wH (zCo t 4) (.agg _ _ fun c hc=>by
  simp only[List.mem_cons,List.not_mem_nil,or_false]at hc
  rcases hc with rfl|rfl|rfl|rfl<;>exact .int _ _ _)) (.inl (.bool _ _)) ?_
 cases hv:wN t with
 |false=>
  rw[hv]at q35
  refine kQ (yO rfl rfl (yO rfl rfl (zC rfl (zA ?_))))
  refine zM [(2,U.box 0 0),(3,U.box 1 0)] ([SB.box t.cs,SB.box [.int .i64 n0,.int .i64 n1,.int .i64 n2,.int .i64 n3]]) (.cons rfl (.cons rfl (.nil rfl))) rfl fun fr=>?_
  refine k_seq (kQ (zI rfl rfl rfl sh28 rfl (zR rfl (q35) (.lrefl _) (zAR rfl rfl (zA (k_cT rfl rfl ?_))))))
  refine kQ (zR rfl (r21) (.lrefl _) (zC rfl (zA (zg ?_))))
  refine⟨.inr rfl,_,.cons _ _ _ _ (.tmp 4) .nil,?_⟩
  exact .refl _
 |true=>
  rw[hv]at q35
  have hok:=(zBD t).1 hv
  have hn1:=hok.n1
  have hn8:=hok.n8
  have q38a:=ret38 (orc:=orc) hi n2 40 (by omega)
  have hby:=turnI_b (n:=n2) (b:=40) (by omega)
  generalize zES n2 40=by' at q38a hby
  have q38b:=ret38 (orc:=orc) hi n0 3 (by omega)
  have hmo:=turnI_b (n:=n0) (b:=3) (by omega)
  generalize zES n0 3=mo at q38b hmo
  refine kQ (yO rfl rfl (yO rfl rfl (zC rfl (zA ?_))))
  refine zM [(2,U.box 0 0),(3,U.box 1 0)] ([SB.box t.cs,SB.box [.int .i64 n0,.int .i64 n1,.int .i64 n2,.int .i64 n3]]) (.cons rfl (.cons rfl (.nil rfl))) rfl fun fr=>?_
  refine k_seq (kQ (zI rfl rfl rfl sh28 rfl (zR rfl (q35) (.lrefl _) (zAR rfl rfl (zA (k_cF rfl rfl ?_))))))
  refine zV (kQ (yW rfl ty38 rfl rfl (by omega) (by omega) cl3 ?_))
  refine zE rfl rfl rfl sh3 rfl (zR rfl (q38a) (.lrefl _) (zC rfl (zA (kQ (zI rfl rfl rfl sh28 rfl (zS rfl ze28 ?_))))))
  refine zJ rfl rfl sh28 rfl rfl rfl rfl rfl ?_
  refine zA ?_
  refine zM [(2,U.box 0 0),(3,U.box 1 0),(5,.int .i64 by'),(6,U.box 2 0)] ([SB.box t.cs,SB.box [.int .i64 n0,.int .i64 n1,.int .i64 n2,.int .i64 n3],SB.box t.cs]) (.c4 rfl rfl rfl rfl (.nil rfl)) rfl fun fr=>?_
  have hbt:=hok.bt
  have hnp:=hok.sh.np
  refine k_cut (fun s2=>∃(X:Ts) (A:U),Wid t X∧UW (.u A) (.u (.lst .ro 2 (wD X.scales)))∧(∃e,s2.st=[.box t.cs,.box [.int .i64 n0,.int .i64 n1,.int .i64 n2,.int .i64 n3],.box [.lst .ro 2 (zZ t.heard),A,.lst .ro 2 (zZ X.pairs),.int .i64 X.lo,.int .i64 X.hi]]++e)∧Holds s2 [(2,.box 0 0),(3,.box 1 0),(6,.box 2 0)]) ?_ (fun s2 hM=>?_)
  ·rcases(show mo=0∨mo=1∨mo=2 by omega)with rfl|rfl|rfl
   ·have q41:=ret41 (orc:=orc) hi (max 0 (t.lo - by')) (min 60 (t.hi+by'))
    refine kQ (yW rfl ty38 rfl rfl (by omega) (by omega) cl3 ?_)
    refine zE rfl rfl rfl sh3 rfl (zR rfl (q38b) (.lrefl _) (zA (zP (kQ (wW rfl rfl rfl (zC rfl (zA (k_cT rfl rfl ?_))))))))
    refine k_region (zD rfl rfl zAB (zD rfl rfl zq (zE rfl rfl rfl sh3 rfl (zB rfl ?_))))
    refine zBU rfl rfl rfl (by unfold I64;omega) (o_max rfl rfl rfl ?_)
    refine zD rfl rfl zAB (zD rfl rfl zu (zE rfl rfl rfl sh3 rfl ?_))
    refine yD [(2,U.box 0 0),(3,U.box 1 0),(5,.int .i64 by'),(6,U.box 2 0),(100,.int .i64 (Max.max (0:Int) (Ts.lo t - by'))),(103,.int .i64 t.hi)] [] ([SB.box t.cs,SB.box [.int .i64 n0,.int .i64 n1,.int .i64 n2,.int .i64 n3],SB.box t.cs]) (.c4 rfl rfl rfl rfl (.cons rfl (.cons rfl (.nil rfl)))) rfl rfl fun fr=>?_
    refine zB rfl ?_
    refine yh rfl rfl rfl (by unfold I64;omega) (o_min rfl rfl rfl ?_)
    refine zR rfl (q41) (.lrefl _) (zD rfl rfl zAB (zJ rfl rfl sh26 rfl rfl rfl rfl rfl ?_))
    refine zA ?_
    exact⟨rfl,zDM t (max 0 (t.lo - by')) (min 60 (t.hi+by')),_,wid_beat hok by' hby.1,.refl _,⟨[],rfl⟩,.cons rfl (.cons rfl (.cons rfl (.nil rfl)))⟩
   ·by_cases hp:0<t.pairs.length
    ·refine kQ ?_
     refine yW rfl ty38 rfl rfl (by omega) (by omega) cl3 ?_
     refine zE rfl rfl rfl sh3 rfl (zR rfl (q38b) (.lrefl _) (zA (zP (kQ (wW rfl rfl rfl (zC rfl (zA (k_cF rfl rfl ?_))))))))
     refine kQ (wW rfl rfl rfl (zC rfl (zA (k_cT rfl rfl ?_))))
     refine kQ (zD rfl rfl wX (zE rfl rfl rfl sh24 rfl (yI rfl ty24 rfl (List.length_map _) ?_)))
     refine zGq rfl rfl rfl (zA ?_)
     refine zM [(2,U.box 0 0),(3,U.box 1 0),(6,U.box 2 0),(114,U.bool (decide ((0:Int)< ↑(List.length t.pairs))))] ([SB.box t.cs,SB.box [.int .i64 n0,.int .i64 n1,.int .i64 n2,.int .i64 n3],SB.box t.cs]) (.c4 rfl rfl rfl rfl (.nil rfl)) rfl fun fr=>?_
     refine k_cT rfl (decide_eq_true (by omega)) (k_region (zD rfl rfl wX (zE rfl rfl rfl sh24 rfl (zD rfl rfl wX (zE rfl rfl rfl sh24 rfl (yI rfl ty24 rfl (List.length_map _) ?_))))))
     refine zBU rfl rfl rfl (by unfold I64;omega) ?_
     refine o_sliceH (n:=t.pairs.length - 1) rfl ty24 cl48 rfl rfl (.inl rfl) (by show U.int .i64 ((t.pairs.length:Int) - 1)=U.int .i64 ((t.pairs.length - 1:Nat):Int);congr 1;omega) (by simp) ?_
     refine zD rfl rfl wX (yT rfl rfl sh24 rfl rfl (zA ?_))
     exact⟨rfl,cutP t (t.pairs.length - 1),_,wid_cut hok _,.refl _,⟨[],by show _=[SB.box t.cs,.box [.int .i64 n0,.int .i64 n1,.int .i64 n2,.int .i64 n3],.box [.lst .ro 2 (zZ t.heard),.lst .ro 2 (wD t.scales),.lst .ro 2 ((t.pairs.take (t.pairs.length - 1)).map Two.u),.int .i64 t.lo,.int .i64 t.hi]];rw[List.map_take];rfl⟩,.cons rfl (.cons rfl (.cons rfl (.nil rfl)))⟩
    ·refine kQ ?_
     refine yW rfl ty38 rfl rfl (by omega) (by omega) cl3 ?_
     refine zE rfl rfl rfl sh3 rfl (zR rfl (q38b) (.lrefl _) (zA (zP (kQ (wW rfl rfl rfl (zC rfl (zA (k_cF rfl rfl ?_))))))))
     refine kQ (wW rfl rfl rfl (zC rfl (zA (k_cT rfl rfl ?_))))
     refine kQ (zD rfl rfl wX (zE rfl rfl rfl sh24 rfl (yI rfl ty24 rfl (List.length_map _) ?_)))
     refine zGq rfl rfl rfl (zA ?_)
     refine zM [(2,U.box 0 0),(3,U.box 1 0),(6,U.box 2 0),(114,U.bool (decide ((0:Int)< ↑(List.length t.pairs))))] ([SB.box t.cs,SB.box [.int .i64 n0,.int .i64 n1,.int .i64 n2,.int .i64 n3],SB.box t.cs]) (.c4 rfl rfl rfl rfl (.nil rfl)) rfl fun fr=>?_
     refine k_cF rfl (decide_eq_false (by omega)) (zV ?_)
     exact⟨rfl,t,_,⟨rfl,hok,fun p a b h=>h,Int.le_refl _,Int.le_refl _⟩,.refl _,⟨[],rfl⟩,.cons rfl (.cons rfl (.cons rfl (.nil rfl)))⟩
   ·have q38c:=ret38 (orc:=orc) hi n1 3 (by omega)
    generalize zES n1 3=jj at q38c
    have hns:=hok.sh.ns
    refine kQ (yW rfl ty38 rfl rfl (by omega) (by omega) cl3 ?_)
    refine zE rfl rfl rfl sh3 rfl (zR rfl (q38b) (.lrefl _) (zA (zP (kQ (wW rfl rfl rfl (zC rfl (zA (k_cF rfl rfl ?_))))))))
    refine kQ (wW rfl rfl rfl (zC rfl (zA (k_cF rfl rfl ?_))))
    refine kQ (zD rfl rfl yM (yT rfl rfl sh23 rfl rfl (zA ?_)))
    refine zM [(2,U.box 0 0),(3,U.box 1 0),(5,.int .i64 by'),(6,U.box 2 0)] ([SB.box t.cs,SB.box [.int .i64 n0,.int .i64 n1,.int .i64 n2,.int .i64 n3],SB.box [.lst .ro 2 (zZ t.heard),.lst .full 0 [],.lst .ro 2 (zZ t.pairs),.int .i64 t.lo,.int .i64 t.hi]]) (.c4 rfl rfl rfl rfl (.nil rfl)) rfl fun fr=>?_
    refine kQ (zC rfl (zA (zP ?_)))
    obtain⟨N,hN⟩:∃N:List U,N=[.int .i64 n0,.int .i64 n1,.int .i64 n2,.int .i64 n3]:=⟨_,rfl⟩
    refine yy (fun kk s2=>∃(n:Nat) (e:List SB),kk+n=t.scales.length∧s2.st=[.box t.cs,.box N,.box [.lst .ro 2 (zZ t.heard),accQ ((t.scales.take n).map (widS jj by')),.lst .ro 2 (zZ t.pairs),.int .i64 t.lo,.int .i64 t.hi]]++e∧Holds s2 [(2,.box 0 0),(3,.box 1 0),(5,.int .i64 by'),(6,.box 2 0),(7,.int .i64 n)]) (fun kk s2 hI=>?_) t.scales.length _ ⟨0,[],rfl,by rw[hN];rfl,.c4 rfl rfl rfl rfl (.cons rfl (.nil rfl))⟩
    obtain⟨n,e,hk,hst,hs⟩:=hI
    generalize hA:accQ ((t.scales.take n).map (widS jj by'))=A at hst
    generalize hY:[.box t.cs,.box N,SB.box [.lst .ro 2 (zZ t.heard),A,.lst .ro 2 (zZ t.pairs),.int .i64 t.lo,.int .i64 t.hi]]++e=Y at hst
    have y0:Y[0]? =some (.box t.cs):=by rw[←hY];rfl
    have y1:Y[1]? =some (.box [.int .i64 n0,.int .i64 n1,.int .i64 n2,.int .i64 n3]):=by rw[←hY,hN];rfl
    have y2:Y[2]? =some (.box [.lst .ro 2 (zZ t.heard),A,.lst .ro 2 (zZ t.pairs),.int .i64 t.lo,.int .i64 t.hi]):=by rw[←hY];rfl
    refine zM _ _ hs hst fun fr=>?_
    by_cases hn:n<t.scales.length
    ·obtain⟨q,hq⟩:∃q,t.scales[n]? =some q:=⟨t.scales[n],List.getElem?_eq_getElem hn⟩
     obtain⟨h1,h2⟩:=hok.sh.sc q (List.mem_of_getElem? hq)
     refine k_seq (kQ (zB rfl (zD rfl rfl yM (zE rfl rfl y0 sh23 rfl ?_))))
     refine yI rfl ty23 rfl (List.length_map _) ?_
     refine zl rfl rfl rfl (zA (k_cT rfl (decide_eq_true (by omega)) (zV (k_seq (zP (kQ (zD rfl rfl yM (zE rfl rfl y0 sh23 rfl ?_))))))))
     refine zB rfl (yU (u:=(q).u) rfl ty23 rfl rfl (Int.natCast_nonneg _) (by simp[hq]) cl61 ?_)
     refine yB rfl rfl sh61 rfl ?_
     refine zS rfl ze61 ?_
     refine zJ rfl (zO _ _) sh61 rfl rfl rfl rfl rfl ?_
     refine zA ?_
     refine zM [(2,U.box 0 0),(3,U.box 1 0),(5,.int .i64 by'),(6,U.box 2 0),(7,.int .i64 ↑n),(8,U.box (List.length Y) 0)] (Y++[SB.box [.lst .ro 1 (yG q.keys),.lst .ro 2 (zZ q.steps)]]) (.c4 rfl rfl rfl rfl (.cons rfl (.cons rfl (.nil rfl)))) (zc _ _ _) fun fr=>?_
     refine kQ (zD rfl rfl yd (yT rfl (zO _ _) sh22 rfl rfl ?_))
     refine zA ?_
     refine zM [(2,U.box 0 0),(3,U.box 1 0),(5,.int .i64 by'),(6,U.box 2 0),(7,.int .i64 ↑n),(8,U.box (List.length Y) 0)] (Y++[SB.box [.lst .ro 1 (yG q.keys),.lst .full 0 []]]) (.c4 rfl rfl rfl rfl (.cons rfl (.cons rfl (.nil rfl)))) (zc _ _ _) fun fr=>?_
     refine k_seq (kQ (zC rfl (zA (zP ?_))))
     obtain⟨k8,hk8⟩:∃k8,k8=Y.length:=⟨_,rfl⟩
     rw[←hk8]
     refine yy (fun k3 s3=>∃(m:Nat) (e2:List SB),k3+m=q.steps.length∧s3.st=(Y++[.box [.lst .ro 1 (yG q.keys),accW (widL jj by' q m)]])++e2∧Holds s3 [(2,.box 0 0),(3,.box 1 0),(5,.int .i64 by'),(6,.box 2 0),(7,.int .i64 n),(8,.box k8 0),(9,.int .i64 m)]) (fun k3 s3 hI3=>?_) q.steps.length _ ⟨0,[],rfl,(List.append_nil _).symm,.c4 rfl rfl rfl rfl (.cons rfl (.cons rfl (.cons rfl (.nil rfl))))⟩
     obtain⟨m,e2,hk3,hst3,hs3⟩:=hI3
     obtain⟨W,hW⟩:∃W,W=widL jj by' q m:=⟨_,rfl⟩
     have hWl:W.length=m:=by rw[hW];exact widL_len _ _ _ _
     rw[←hW]at hst3
     by_cases hm:m<q.steps.length
     ·obtain⟨x,hx⟩:∃x,q.steps[m]? =some x:=⟨q.steps[m],List.getElem?_eq_getElem hm⟩
      have hxb:=hok.ss q (List.mem_of_getElem? hq) x (List.mem_of_getElem? hx)
      have hsu:widL jj by' q (m+1)=W++[if jj=(m:Int)then⟨max 200 (x.a - by'),min 5000 (x.b+by')⟩else⟨x.a,x.b⟩]:=by
       rw[widL_succ,←hW]
       unfold widK
       rw[hx];rfl
      have q41:=ret41 (orc:=orc) hi (max 200 (x.a - by')) (min 5000 (x.b+by'))
      cases W with
      |nil=>
       generalize hZ:(Y++[SB.box [.lst .ro 1 (yG q.keys),accW []]])++e2=Z at hst3
       have z0:Z[0]? =some (.box t.cs):=by rw[←hZ];exact zU (zU y0)
       have z1:Z[1]? =some (.box [.int .i64 n0,.int .i64 n1,.int .i64 n2,.int .i64 n3]):=by rw[←hZ];exact zU (zU y1)
       have z8:Z[k8]? =some (.box [.lst .ro 1 (yG q.keys),.lst .full 0 []]):=by rw[←hZ,hk8];exact zU (zO _ _)
       refine zM _ _ hs3 hst3 fun fr3=>?_
       by_cases hj:jj=(m:Int)
       ·rw[if_pos hj]at hsu
        refine k_seq (kQ (zB rfl (zD rfl rfl yM (zE rfl rfl z0 sh23 rfl ?_))))
        refine zB rfl (yU (u:=(q).u) rfl ty23 rfl rfl (Int.natCast_nonneg _) (by simp[hq]) cl61 ?_)
        refine wS rfl rfl yd ?_
        refine zx rfl rfl sh22 rfl ?_
        refine yI rfl ty22 rfl (List.length_map _) ?_
        refine zl rfl rfl rfl (zA (k_cT rfl (decide_eq_true (by omega)) (zV (k_seq (zP (kQ (zD rfl rfl yM (zE rfl rfl z0 sh23 rfl ?_))))))))
        refine zB rfl (yU (u:=(q).u) rfl ty23 rfl rfl (Int.natCast_nonneg _) (by simp[hq]) cl61 ?_)
        refine wS rfl rfl yd ?_
        refine zx rfl rfl sh22 rfl ?_
        refine zB rfl (yU (u:=(x).u) rfl ty22 rfl rfl (Int.natCast_nonneg _) (by simp[hx]) cl26 ?_)
        refine yB rfl rfl sh26 rfl ?_
        refine zS rfl ze26 ?_
        refine zJ rfl (zO _ _) sh26 rfl rfl rfl rfl rfl ?_
        refine zA ?_
        refine zM [(2,U.box 0 0),(3,U.box 1 0),(5,.int .i64 by'),(6,U.box 2 0),(7,.int .i64 ↑n),(8,U.box k8 0),(9,.int .i64 ↑m),(10,U.box (List.length Z) 0)] (Z++[SB.box [.int .i64 x.a,.int .i64 x.b]]) (.c4 rfl rfl rfl rfl (.c4 rfl rfl rfl rfl (.nil rfl))) (zc _ _ _) fun fr=>?_
        refine k_seq (kQ (yW rfl ty38 rfl rfl (by omega) (by omega) cl3 ?_))
        refine zE rfl rfl (zU z1) sh3 rfl ?_
        refine zR rfl (q38c) (.lrefl _) (zB rfl (wW rfl rfl rfl (zA (k_cT rfl (decide_eq_true (by omega)) (k_region (zD rfl rfl zq (zE rfl rfl (zO _ _) sh3 rfl ?_)))))))
        refine zB rfl ?_
        refine zBU rfl rfl rfl (by unfold I64;omega) (o_max rfl rfl rfl ?_)
        refine zD rfl rfl zu (zE rfl rfl (zO _ _) sh3 rfl ?_)
        refine zB rfl ?_
        refine yh rfl rfl rfl (by unfold I64;omega) (o_min rfl rfl rfl ?_)
        refine zR rfl (q41) (.lrefl _) (zJ rfl (zO _ _) sh26 rfl rfl rfl rfl rfl ?_)
        refine zA ?_
        refine zM [(2,U.box 0 0),(3,U.box 1 0),(5,.int .i64 by'),(6,U.box 2 0),(7,.int .i64 ↑n),(8,U.box k8 0),(9,.int .i64 ↑m),(10,U.box (List.length Z) 0)] (Z++[SB.box [.int .i64 (Max.max (200:Int) (Two.a x - by')),.int .i64 (Min.min (5000:Int) (Two.b x+by'))]]) (.c4 rfl rfl rfl rfl (.c4 rfl rfl rfl rfl (.nil rfl))) (zc _ _ _) fun fr=>?_
        refine k_region (zD rfl rfl yd (zE rfl rfl (zU z8) sh22 rfl ?_))
        refine zI rfl rfl (zO _ _) sh26 rfl ?_
        refine zDv (es:=[U.agg [.int .i64 (Max.max (200:Int) (Two.a x - by')),.int .i64 (Min.min (5000:Int) (Two.b x+by'))]]) rfl ty22 ze26 cl26 rfl rfl rfl rfl rfl rfl rfl rfl ?_
        refine zBi rfl ap22_22 rfl rfl (by simp) (by simp) (by simp[yR,zt,oneU]) (by simp) ?_
        refine zD rfl rfl yd (yT rfl (zU z8) sh22 rfl rfl ?_)
        refine zA ?_
        refine zM [(2,U.box 0 0),(3,U.box 1 0),(5,.int .i64 by'),(6,U.box 2 0),(7,.int .i64 ↑n),(8,U.box k8 0),(9,.int .i64 ↑m)] (List.set (Z++[SB.box [.int .i64 (Max.max (200:Int) (Two.a x - by')),.int .i64 (Min.min (5000:Int) (Two.b x+by'))]]) k8 (SB.box [.lst .ro 1 (yG q.keys),U.lst Kd.own 2 [U.agg [.int .i64 (Max.max (200:Int) (Two.a x - by')),.int .i64 (Min.min (5000:Int) (Two.b x+by'))]]])) (.c4 rfl rfl rfl rfl (.cons rfl (.cons rfl (.cons rfl (.nil rfl))))) rfl fun fr=>?_
        refine k_region (zB rfl ?_)
        refine yh rfl rfl rfl (by unfold I64;omega) (zC rfl (zA ?_))
        exact⟨k3 - 1,by omega,m+1,_,by omega,(by show(Z++[_]).set k8 _=_;rw[←hZ,hk8,zFU,hsu];rfl),.c4 rfl rfl rfl rfl (.cons rfl (.cons rfl (.cons rfl (.nil rfl))))⟩
       ·rw[if_neg hj]at hsu
        refine k_seq (kQ (zB rfl (zD rfl rfl yM (zE rfl rfl z0 sh23 rfl ?_))))
        refine zB rfl (yU (u:=(q).u) rfl ty23 rfl rfl (Int.natCast_nonneg _) (by simp[hq]) cl61 ?_)
        refine wS rfl rfl yd ?_
        refine zx rfl rfl sh22 rfl ?_
        refine yI rfl ty22 rfl (List.length_map _) ?_
        refine zl rfl rfl rfl (zA (k_cT rfl (decide_eq_true (by omega)) (zV (k_seq (zP (kQ (zD rfl rfl yM (zE rfl rfl z0 sh23 rfl ?_))))))))
        refine zB rfl (yU (u:=(q).u) rfl ty23 rfl rfl (Int.natCast_nonneg _) (by simp[hq]) cl61 ?_)
        refine wS rfl rfl yd ?_
        refine zx rfl rfl sh22 rfl ?_
        refine zB rfl (yU (u:=(x).u) rfl ty22 rfl rfl (Int.natCast_nonneg _) (by simp[hx]) cl26 ?_)
        refine yB rfl rfl sh26 rfl ?_
        refine zS rfl ze26 ?_
        refine zJ rfl (zO _ _) sh26 rfl rfl rfl rfl rfl ?_
        refine zA ?_
        refine zM [(2,U.box 0 0),(3,U.box 1 0),(5,.int .i64 by'),(6,U.box 2 0),(7,.int .i64 ↑n),(8,U.box k8 0),(9,.int .i64 ↑m),(10,U.box (List.length Z) 0)] (Z++[SB.box [.int .i64 x.a,.int .i64 x.b]]) (.c4 rfl rfl rfl rfl (.c4 rfl rfl rfl rfl (.nil rfl))) (zc _ _ _) fun fr=>?_
        refine k_seq (kQ (yW rfl ty38 rfl rfl (by omega) (by omega) cl3 ?_))
        refine zE rfl rfl (zU z1) sh3 rfl ?_
        refine zR rfl (q38c) (.lrefl _) (zB rfl (wW rfl rfl rfl (zA (k_cF rfl (decide_eq_false (by omega)) (zV (k_region (zD rfl rfl yd (zE rfl rfl (zU z8) sh22 rfl ?_))))))))
        refine zI rfl rfl (zO _ _) sh26 rfl ?_
        refine zDv (es:=[U.agg [.int .i64 (Two.a x),.int .i64 (Two.b x)]]) rfl ty22 ze26 cl26 rfl rfl rfl rfl rfl rfl rfl rfl ?_
        refine zBi rfl ap22_22 rfl rfl (by simp) (by simp) (by simp[yR,zt,oneU]) (by simp) ?_
        refine zD rfl rfl yd (yT rfl (zU z8) sh22 rfl rfl ?_)
        refine zA ?_
        refine zM [(2,U.box 0 0),(3,U.box 1 0),(5,.int .i64 by'),(6,U.box 2 0),(7,.int .i64 ↑n),(8,U.box k8 0),(9,.int .i64 ↑m)] (List.set (Z++[SB.box [.int .i64 x.a,.int .i64 x.b]]) k8 (SB.box [.lst .ro 1 (yG q.keys),U.lst Kd.own 2 [U.agg [.int .i64 x.a,.int .i64 x.b]]])) (.c4 rfl rfl rfl rfl (.cons rfl (.cons rfl (.cons rfl (.nil rfl))))) rfl fun fr=>?_
        refine k_region (zB rfl ?_)
        refine yh rfl rfl rfl (by unfold I64;omega) (zC rfl (zA ?_))
        exact⟨k3 - 1,by omega,m+1,_,by omega,(by show(Z++[_]).set k8 _=_;rw[←hZ,hk8,zFU,hsu];rfl),.c4 rfl rfl rfl rfl (.cons rfl (.cons rfl (.cons rfl (.nil rfl))))⟩
      |cons w W=>
       generalize hZ:(Y++[SB.box [.lst .ro 1 (yG q.keys),accW (w::W)]])++e2=Z at hst3
       have z0:Z[0]? =some (.box t.cs):=by rw[←hZ];exact zU (zU y0)
       have z1:Z[1]? =some (.box [.int .i64 n0,.int .i64 n1,.int .i64 n2,.int .i64 n3]):=by rw[←hZ];exact zU (zU y1)
       have z8:Z[k8]? =some (.box [.lst .ro 1 (yG q.keys),.lst .own 2 (zZ (w::W))]):=by rw[←hZ,hk8];exact zU (zO _ _)
       refine zM _ _ hs3 hst3 fun fr3=>?_
       by_cases hj:jj=(m:Int)
       ·rw[if_pos hj]at hsu
        refine k_seq (kQ (zB rfl (zD rfl rfl yM (zE rfl rfl z0 sh23 rfl ?_))))
        refine zB rfl (yU (u:=(q).u) rfl ty23 rfl rfl (Int.natCast_nonneg _) (by simp[hq]) cl61 ?_)
        refine wS rfl rfl yd ?_
        refine zx rfl rfl sh22 rfl ?_
        refine yI rfl ty22 rfl (List.length_map _) ?_
        refine zl rfl rfl rfl (zA (k_cT rfl (decide_eq_true (by omega)) (zV (k_seq (zP (kQ (zD rfl rfl yM (zE rfl rfl z0 sh23 rfl ?_))))))))
        refine zB rfl (yU (u:=(q).u) rfl ty23 rfl rfl (Int.natCast_nonneg _) (by simp[hq]) cl61 ?_)
        refine wS rfl rfl yd ?_
        refine zx rfl rfl sh22 rfl ?_
        refine zB rfl (yU (u:=(x).u) rfl ty22 rfl rfl (Int.natCast_nonneg _) (by simp[hx]) cl26 ?_)
        refine yB rfl rfl sh26 rfl ?_
        refine zS rfl ze26 ?_
        refine zJ rfl (zO _ _) sh26 rfl rfl rfl rfl rfl ?_
        refine zA ?_
        refine zM [(2,U.box 0 0),(3,U.box 1 0),(5,.int .i64 by'),(6,U.box 2 0),(7,.int .i64 ↑n),(8,U.box k8 0),(9,.int .i64 ↑m),(10,U.box (List.length Z) 0)] (Z++[SB.box [.int .i64 x.a,.int .i64 x.b]]) (.c4 rfl rfl rfl rfl (.c4 rfl rfl rfl rfl (.nil rfl))) (zc _ _ _) fun fr=>?_
        refine k_seq (kQ (yW rfl ty38 rfl rfl (by omega) (by omega) cl3 ?_))
        refine zE rfl rfl (zU z1) sh3 rfl ?_
        refine zR rfl (q38c) (.lrefl _) (zB rfl (wW rfl rfl rfl (zA (k_cT rfl (decide_eq_true (by omega)) (k_region (zD rfl rfl zq (zE rfl rfl (zO _ _) sh3 rfl ?_)))))))
        refine zB rfl ?_
        refine zBU rfl rfl rfl (by unfold I64;omega) (o_max rfl rfl rfl ?_)
        refine zD rfl rfl zu (zE rfl rfl (zO _ _) sh3 rfl ?_)
        refine zB rfl ?_
        refine yh rfl rfl rfl (by unfold I64;omega) (o_min rfl rfl rfl ?_)
        refine zR rfl (q41) (.lrefl _) (zJ rfl (zO _ _) sh26 rfl rfl rfl rfl rfl ?_)
        refine zA ?_
        refine zM [(2,U.box 0 0),(3,U.box 1 0),(5,.int .i64 by'),(6,U.box 2 0),(7,.int .i64 ↑n),(8,U.box k8 0),(9,.int .i64 ↑m),(10,U.box (List.length Z) 0)] (Z++[SB.box [.int .i64 (Max.max (200:Int) (Two.a x - by')),.int .i64 (Min.min (5000:Int) (Two.b x+by'))]]) (.c4 rfl rfl rfl rfl (.c4 rfl rfl rfl rfl (.nil rfl))) (zc _ _ _) fun fr=>?_
        refine k_region (zD rfl rfl yd (zE rfl rfl (zU z8) sh22 rfl ?_))
        refine zI rfl rfl (zO _ _) sh26 rfl ?_
        refine zDv (es:=[U.agg [.int .i64 (Max.max (200:Int) (Two.a x - by')),.int .i64 (Min.min (5000:Int) (Two.b x+by'))]]) rfl ty22 ze26 cl26 rfl rfl rfl rfl rfl rfl rfl rfl ?_
        refine zDx (k8) 1 rfl ap22_22 (isCp_head rfl) (zU z8) rfl rfl (by simp) (by simp) (by simp[yR,zt,oneU]) (by simp at*;omega) ?_
        refine zD rfl rfl yd (yT rfl (at_put (zU z8)) sh22 rfl rfl ?_)
        refine zA ?_
        refine zM [(2,U.box 0 0),(3,U.box 1 0),(5,.int .i64 by'),(6,U.box 2 0),(7,.int .i64 ↑n),(8,U.box k8 0),(9,.int .i64 ↑m)] (List.set (List.set (Z++[SB.box [.int .i64 (Max.max (200:Int) (Two.a x - by')),.int .i64 (Min.min (5000:Int) (Two.b x+by'))]]) k8 (SB.box [.lst .ro 1 (yG q.keys),.lst .ro 2 (zZ (w::W))])) k8 (SB.box [.lst .ro 1 (yG q.keys),U.lst Kd.own 2 (Two.u w::List.append (List.map Two.u W) [U.agg [.int .i64 (Max.max (200:Int) (Two.a x - by')),.int .i64 (Min.min (5000:Int) (Two.b x+by'))]])])) (.c4 rfl rfl rfl rfl (.cons rfl (.cons rfl (.cons rfl (.nil rfl))))) rfl fun fr=>?_
        refine k_region (zB rfl ?_)
        refine yh rfl rfl rfl (by unfold I64;omega) (zC rfl (zA ?_))
        exact⟨k3 - 1,by omega,m+1,_,by omega,(by show((Z++[_]).set k8 _).set k8 _=_;rw[List.set_set,←hZ,hk8,zFU,hsu,accW_snoc];rfl),.c4 rfl rfl rfl rfl (.cons rfl (.cons rfl (.cons rfl (.nil rfl))))⟩
       ·rw[if_neg hj]at hsu
        refine k_seq (kQ (zB rfl (zD rfl rfl yM (zE rfl rfl z0 sh23 rfl ?_))))
        refine zB rfl (yU (u:=(q).u) rfl ty23 rfl rfl (Int.natCast_nonneg _) (by simp[hq]) cl61 ?_)
        refine wS rfl rfl yd ?_
        refine zx rfl rfl sh22 rfl ?_
        refine yI rfl ty22 rfl (List.length_map _) ?_
        refine zl rfl rfl rfl (zA (k_cT rfl (decide_eq_true (by omega)) (zV (k_seq (zP (kQ (zD rfl rfl yM (zE rfl rfl z0 sh23 rfl ?_))))))))
        refine zB rfl (yU (u:=(q).u) rfl ty23 rfl rfl (Int.natCast_nonneg _) (by simp[hq]) cl61 ?_)
        refine wS rfl rfl yd ?_
        refine zx rfl rfl sh22 rfl ?_
        refine zB rfl (yU (u:=(x).u) rfl ty22 rfl rfl (Int.natCast_nonneg _) (by simp[hx]) cl26 ?_)
        refine yB rfl rfl sh26 rfl ?_
        refine zS rfl ze26 ?_
        refine zJ rfl (zO _ _) sh26 rfl rfl rfl rfl rfl ?_
        refine zA ?_
        refine zM [(2,U.box 0 0),(3,U.box 1 0),(5,.int .i64 by'),(6,U.box 2 0),(7,.int .i64 ↑n),(8,U.box k8 0),(9,.int .i64 ↑m),(10,U.box (List.length Z) 0)] (Z++[SB.box [.int .i64 x.a,.int .i64 x.b]]) (.c4 rfl rfl rfl rfl (.c4 rfl rfl rfl rfl (.nil rfl))) (zc _ _ _) fun fr=>?_
        refine k_seq (kQ (yW rfl ty38 rfl rfl (by omega) (by omega) cl3 ?_))
        refine zE rfl rfl (zU z1) sh3 rfl ?_
        refine zR rfl (q38c) (.lrefl _) (zB rfl (wW rfl rfl rfl (zA (k_cF rfl (decide_eq_false (by omega)) (zV (k_region (zD rfl rfl yd (zE rfl rfl (zU z8) sh22 rfl ?_))))))))
        refine zI rfl rfl (zO _ _) sh26 rfl ?_
        refine zDv (es:=[U.agg [.int .i64 (Two.a x),.int .i64 (Two.b x)]]) rfl ty22 ze26 cl26 rfl rfl rfl rfl rfl rfl rfl rfl ?_
        refine zDx (k8) 1 rfl ap22_22 (isCp_head rfl) (zU z8) rfl rfl (by simp) (by simp) (by simp[yR,zt,oneU]) (by simp at*;omega) ?_
        refine zD rfl rfl yd (yT rfl (at_put (zU z8)) sh22 rfl rfl ?_)
        refine zA ?_
        refine zM [(2,U.box 0 0),(3,U.box 1 0),(5,.int .i64 by'),(6,U.box 2 0),(7,.int .i64 ↑n),(8,U.box k8 0),(9,.int .i64 ↑m)] (List.set (List.set (Z++[SB.box [.int .i64 x.a,.int .i64 x.b]]) k8 (SB.box [.lst .ro 1 (yG q.keys),.lst .ro 2 (zZ (w::W))])) k8 (SB.box [.lst .ro 1 (yG q.keys),U.lst Kd.own 2 (Two.u w::List.append (List.map Two.u W) [U.agg [.int .i64 x.a,.int .i64 x.b]])])) (.c4 rfl rfl rfl rfl (.cons rfl (.cons rfl (.cons rfl (.nil rfl))))) rfl fun fr=>?_
        refine k_region (zB rfl ?_)
        refine yh rfl rfl rfl (by unfold I64;omega) (zC rfl (zA ?_))
        exact⟨k3 - 1,by omega,m+1,_,by omega,(by show((Z++[_]).set k8 _).set k8 _=_;rw[List.set_set,←hZ,hk8,zFU,hsu,accW_snoc];rfl),.c4 rfl rfl rfl rfl (.cons rfl (.cons rfl (.cons rfl (.nil rfl))))⟩
     ·have hmN:m=q.steps.length:=by omega
      subst hmN
      have htk:(t.scales.take (n+1)).map (widS jj by')=(t.scales.take n).map (widS jj by')++[⟨q.keys,W⟩]:=by
       rw[List.take_add_one,hq,List.map_append,hW];rfl
      obtain⟨Q,hQ⟩:∃Q,Q=(t.scales.take n).map (widS jj by'):=⟨_,rfl⟩
      have hQl:Q.length=n:=by rw[hQ,List.length_map,List.length_take];omega
      rw[←hQ]at htk hA
      obtain⟨Z,hZ⟩:∃Z,Z=(Y++[SB.box [.lst .ro 1 (yG q.keys),accW W]])++e2:=⟨_,rfl⟩
      rw[←hZ]at hst3
      have z0:Z[0]? =some (.box t.cs):=by rw[hZ];exact zU (zU y0)
      have z2:Z[2]? =some (.box [.lst .ro 2 (zZ t.heard),A,.lst .ro 2 (zZ t.pairs),.int .i64 t.lo,.int .i64 t.hi]):=by rw[hZ];exact zU (zU y2)
      have z8:Z[k8]? =some (.box [.lst .ro 1 (yG q.keys),accW W]):=by rw[hZ,hk8];exact zU (zO _ _)
      refine zM _ _ hs3 hst3 fun fr3=>?_
      cases W with
      |nil=>
       cases Q with
       |nil=>
        subst hA
        refine k_seq (kQ (zB rfl (zD rfl rfl yM (zE rfl rfl z0 sh23 rfl ?_))))
        refine zB rfl (yU (u:=(q).u) rfl ty23 rfl rfl (Int.natCast_nonneg _) (by simp[hq]) cl61 ?_)
        refine wS rfl rfl yd ?_
        refine zx rfl rfl sh22 rfl ?_
        refine yI rfl ty22 rfl (List.length_map _) ?_
        refine zl rfl rfl rfl (zA (k_cF rfl (decide_eq_false (by omega)) (yb (k_region (zD rfl rfl yM (zE rfl rfl z2 sh23 rfl ?_))))))
        refine zI rfl rfl z8 sh61 rfl ?_
        refine o_weak 89 rfl (fun _=>rfl) (.agg _ _ (.lcons _ _ _ _ (.refl _) (.lcons _ _ _ _ (.nil .full .ro 2) (.lrefl _)))) ?_
        refine zDv (es:=[U.agg [U.lst Kd.ro 1 (yG (Scl.keys q)),U.lst Kd.ro 2 []]]) rfl ty23 ze61 cl61 rfl rfl rfl rfl rfl rfl rfl rfl ?_
        refine zBi rfl ap23_23 rfl rfl (by simp) (by simp) (by simp[yR,zt,oneU]) (by simp) ?_
        refine zD rfl rfl yM (yT rfl z2 sh23 rfl rfl ?_)
        refine zA ?_
        refine zM [(2,U.box 0 0),(3,U.box 1 0),(5,.int .i64 by'),(6,U.box 2 0),(7,.int .i64 ↑n)] (List.set Z 2 (SB.box [.lst .ro 2 (zZ t.heard),U.lst Kd.own 2 [U.agg [.lst .ro 1 (yG q.keys),.lst .ro 2 []]],.lst .ro 2 (zZ t.pairs),.int .i64 t.lo,.int .i64 t.hi])) (.c4 rfl rfl rfl rfl (.cons rfl (.nil rfl))) rfl fun fr=>?_
        refine k_region (zB rfl ?_)
        refine yh rfl rfl rfl (by unfold I64;omega) (zC rfl (zA ?_))
        exact⟨kk - 1,by omega,n+1,_,by omega,(by show Z.set 2 _=_;rw[hZ,←hY,htk];rfl),.c4 rfl rfl rfl rfl (.cons rfl (.nil rfl))⟩
       |cons y Q=>
        subst hA
        refine k_seq (kQ (zB rfl (zD rfl rfl yM (zE rfl rfl z0 sh23 rfl ?_))))
        refine zB rfl (yU (u:=(q).u) rfl ty23 rfl rfl (Int.natCast_nonneg _) (by simp[hq]) cl61 ?_)
        refine wS rfl rfl yd ?_
        refine zx rfl rfl sh22 rfl ?_
        refine yI rfl ty22 rfl (List.length_map _) ?_
        refine zl rfl rfl rfl (zA (k_cF rfl (decide_eq_false (by omega)) (yb (k_region (zD rfl rfl yM (zE rfl rfl z2 sh23 rfl ?_))))))
        refine zI rfl rfl z8 sh61 rfl ?_
        refine o_weak 89 rfl (fun _=>rfl) (.agg _ _ (.lcons _ _ _ _ (.refl _) (.lcons _ _ _ _ (.nil .full .ro 2) (.lrefl _)))) ?_
        refine zDv (es:=[U.agg [U.lst Kd.ro 1 (yG (Scl.keys q)),U.lst Kd.ro 2 []]]) rfl ty23 ze61 cl61 rfl rfl rfl rfl rfl rfl rfl rfl ?_
        refine zDx (2) 1 rfl ap23_23 rfl z2 rfl rfl (by simp) (by simp) (by simp[yR,zt,oneU]) (by simp at hQl ⊢;omega) ?_
        refine zD rfl rfl yM (yT rfl (at_put z2) sh23 rfl rfl ?_)
        refine zA ?_
        refine zM [(2,U.box 0 0),(3,U.box 1 0),(5,.int .i64 by'),(6,U.box 2 0),(7,.int .i64 ↑n)] (List.set (List.set Z 2 (SB.box [.lst .ro 2 (zZ t.heard),.lst .ro 2 (wD (y::Q)),.lst .ro 2 (zZ t.pairs),.int .i64 t.lo,.int .i64 t.hi])) 2 (SB.box [.lst .ro 2 (zZ t.heard),U.lst Kd.own 2 (Scl.u y::List.append (List.map Scl.u Q) [U.agg [.lst .ro 1 (yG q.keys),.lst .ro 2 []]]),.lst .ro 2 (zZ t.pairs),.int .i64 t.lo,.int .i64 t.hi])) (.c4 rfl rfl rfl rfl (.cons rfl (.nil rfl))) rfl fun fr=>?_
        refine k_region (zB rfl ?_)
        refine yh rfl rfl rfl (by unfold I64;omega) (zC rfl (zA ?_))
        exact⟨kk - 1,by omega,n+1,_,by omega,(by show(Z.set 2 _).set 2 _=_;rw[hZ,←hY,htk,accQ_snoc];rfl),.c4 rfl rfl rfl rfl (.cons rfl (.nil rfl))⟩
      |cons w W=>
       cases Q with
       |nil=>
        subst hA
        refine k_seq (kQ (zB rfl (zD rfl rfl yM (zE rfl rfl z0 sh23 rfl ?_))))
        refine zB rfl (yU (u:=(q).u) rfl ty23 rfl rfl (Int.natCast_nonneg _) (by simp[hq]) cl61 ?_)
        refine wS rfl rfl yd ?_
        refine zx rfl rfl sh22 rfl ?_
        refine yI rfl ty22 rfl (List.length_map _) ?_
        refine zl rfl rfl rfl (zA (k_cF rfl (decide_eq_false (by omega)) (yb (k_region (zD rfl rfl yM (zE rfl rfl z2 sh23 rfl ?_))))))
        refine zI rfl rfl z8 sh61 rfl ?_
        refine o_weak 89 rfl (fun _=>rfl) (.agg _ _ (.lcons _ _ _ _ (.refl _) (.lcons _ _ _ _ (.ro .own _ _) (.lrefl _)))) ?_
        refine zDv (es:=[U.agg [U.lst Kd.ro 1 (yG (Scl.keys q)),U.lst Kd.ro 2 (zZ (w::W))]]) rfl ty23 ze61 cl61 rfl rfl rfl rfl rfl rfl rfl rfl ?_
        refine zBi rfl ap23_23 rfl rfl (by simp) (by simp) (by simp[yR,zt,oneU]) (by simp) ?_
        refine zD rfl rfl yM (yT rfl z2 sh23 rfl rfl ?_)
        refine zA ?_
        refine zM [(2,U.box 0 0),(3,U.box 1 0),(5,.int .i64 by'),(6,U.box 2 0),(7,.int .i64 ↑n)] (List.set Z 2 (SB.box [.lst .ro 2 (zZ t.heard),U.lst Kd.own 2 [U.agg [.lst .ro 1 (yG q.keys),.lst .ro 2 (zZ (w::W))]],.lst .ro 2 (zZ t.pairs),.int .i64 t.lo,.int .i64 t.hi])) (.c4 rfl rfl rfl rfl (.cons rfl (.nil rfl))) rfl fun fr=>?_
        refine k_region (zB rfl ?_)
        refine yh rfl rfl rfl (by unfold I64;omega) (zC rfl (zA ?_))
        exact⟨kk - 1,by omega,n+1,_,by omega,(by show Z.set 2 _=_;rw[hZ,←hY,htk];rfl),.c4 rfl rfl rfl rfl (.cons rfl (.nil rfl))⟩
       |cons y Q=>
        subst hA
        refine k_seq (kQ (zB rfl (zD rfl rfl yM (zE rfl rfl z0 sh23 rfl ?_))))
        refine zB rfl (yU (u:=(q).u) rfl ty23 rfl rfl (Int.natCast_nonneg _) (by simp[hq]) cl61 ?_)
        refine wS rfl rfl yd ?_
        refine zx rfl rfl sh22 rfl ?_
        refine yI rfl ty22 rfl (List.length_map _) ?_
        refine zl rfl rfl rfl (zA (k_cF rfl (decide_eq_false (by omega)) (yb (k_region (zD rfl rfl yM (zE rfl rfl z2 sh23 rfl ?_))))))
        refine zI rfl rfl z8 sh61 rfl ?_
        refine o_weak 89 rfl (fun _=>rfl) (.agg _ _ (.lcons _ _ _ _ (.refl _) (.lcons _ _ _ _ (.ro .own _ _) (.lrefl _)))) ?_
        refine zDv (es:=[U.agg [U.lst Kd.ro 1 (yG (Scl.keys q)),U.lst Kd.ro 2 (zZ (w::W))]]) rfl ty23 ze61 cl61 rfl rfl rfl rfl rfl rfl rfl rfl ?_
        refine zDx (2) 1 rfl ap23_23 rfl z2 rfl rfl (by simp) (by simp) (by simp[yR,zt,oneU]) (by simp at hQl ⊢;omega) ?_
        refine zD rfl rfl yM (yT rfl (at_put z2) sh23 rfl rfl ?_)
        refine zA ?_
        refine zM [(2,U.box 0 0),(3,U.box 1 0),(5,.int .i64 by'),(6,U.box 2 0),(7,.int .i64 ↑n)] (List.set (List.set Z 2 (SB.box [.lst .ro 2 (zZ t.heard),.lst .ro 2 (wD (y::Q)),.lst .ro 2 (zZ t.pairs),.int .i64 t.lo,.int .i64 t.hi])) 2 (SB.box [.lst .ro 2 (zZ t.heard),U.lst Kd.own 2 (Scl.u y::List.append (List.map Scl.u Q) [U.agg [.lst .ro 1 (yG q.keys),.lst .ro 2 (zZ (w::W))]]),.lst .ro 2 (zZ t.pairs),.int .i64 t.lo,.int .i64 t.hi])) (.c4 rfl rfl rfl rfl (.cons rfl (.nil rfl))) rfl fun fr=>?_
        refine k_region (zB rfl ?_)
        refine yh rfl rfl rfl (by unfold I64;omega) (zC rfl (zA ?_))
        exact⟨kk - 1,by omega,n+1,_,by omega,(by show(Z.set 2 _).set 2 _=_;rw[hZ,←hY,htk,accQ_snoc];rfl),.c4 rfl rfl rfl rfl (.cons rfl (.nil rfl))⟩
    ·have hnN:n=t.scales.length:=by omega
     subst hnN
     rw[List.take_length]at hA
     refine k_seq (kQ (zB rfl (zD rfl rfl yM (zE rfl rfl y0 sh23 rfl ?_))))
     refine yI rfl ty23 rfl (List.length_map _) ?_
     refine zl rfl rfl rfl (zA (k_cF rfl (decide_eq_false (by omega)) (yb ?_)))
     exact⟨rfl,widT t jj by',A,wid_scale hok jj by' hby.1,by rw[←hA];exact uw_accQ _,⟨e,by show Y=_;rw[←hY,hN];rfl⟩,.cons rfl (.cons rfl (.cons rfl (.nil rfl)))⟩
  ·obtain⟨X,A,hW,hA,⟨e,hst2⟩,hs2⟩:=hM
   have hX:=hW.ok
   have hvx:=(zBD X).2 hX
   have hXl:X.heard.length=t.heard.length:=by rw[hW.hd]
   generalize hY:[SB.box t.cs,.box [.int .i64 n0,.int .i64 n1,.int .i64 n2,.int .i64 n3],.box [.lst .ro 2 (zZ t.heard),A,.lst .ro 2 (zZ X.pairs),.int .i64 X.lo,.int .i64 X.hi]]++e=Y at hst2
   have y0:Y[0]? =some (.box t.cs):=by rw[←hY];rfl
   have y1:Y[1]? =some (.box [.int .i64 n0,.int .i64 n1,.int .i64 n2,.int .i64 n3]):=by rw[←hY];rfl
   have y2:Y[2]? =some (.box [.lst .ro 2 (zZ t.heard),A,.lst .ro 2 (zZ X.pairs),.int .i64 X.lo,.int .i64 X.hi]):=by rw[←hY];rfl
   have hxu:UW (.u (U.agg [.lst .ro 2 (zZ t.heard),A,.lst .ro 2 (zZ X.pairs),.int .i64 X.lo,.int .i64 X.hi])) (.u X.u):=by
    rw[←hW.hd]
    exact .agg _ _ (.lcons _ _ _ _ (.refl _) (.lcons _ _ _ _ hA (.lrefl _)))
   have hle1:UW (.l [U.agg [.lst .ro 2 (zZ t.heard),A,.lst .ro 2 (zZ X.pairs),.int .i64 X.lo,.int .i64 X.hi]]) (.l [X.u]):=.lcons _ _ _ _ hxu (.lrefl _)
   refine zM _ _ hs2 hst2 fun fr2=>?_
   have q38d:=ret38 (orc:=orc) hi n3 t.heard.length (by omega)
   have hk:Key t (zES n3 t.heard.length):=turnI_b (by omega)
   generalize zES n3 t.heard.length=k at q38d hk
   have hkX:Key X k:=by unfold Key;rw[hXl];exact hk
   have p22:=ret22 (orc:=orc) hi t k
   have r22:=ret22 (orc:=orc) hi X k
   unfold pitU at p22 r22
   rw[ask_one hv hk]at p22
   rw[ask_one hvx hkX]at r22
   have p28:=ret28 (orc:=orc) hi t
   have r28:=ret28 (orc:=orc) hi X
   have q41:=ret41 (orc:=orc) hi 0 0
   have hle2:UW (.l [U.agg [.lst .ro 2 (zZ t.heard),A,.lst .ro 2 (zZ X.pairs),.int .i64 X.lo,.int .i64 X.hi],.int .i64 k]) (.l [X.u,.int .i64 k]):=.lcons _ _ _ _ hxu (.lrefl _)
   rcases errT_01 t with he|he
   ·have ht:=(zDl hok.sok).1 ((errT_0 t).1 he)
    have htX:TunE X (zY X):=by
     obtain⟨p,hp⟩:=ht
     exact⟨p,hW.tun hp⟩
    have heX:errT X=0:=(errT_0 X).2 ((zDl hX.sok).2 htX)
    rw[he,if_pos rfl]at p22
    rw[heX,if_pos rfl]at r22
    obtain⟨⟨p1,k1,k2⟩,_⟩:=ut_low hok.sok ht hk
    obtain⟨⟨p2,k4,k5⟩,_⟩:=ut_high hok.sok ht hk
    have e1:=(ut_low hX.sok htX hkX).2 p1 (hW.tun k1)
    have e2:=(ut_high hX.sok htX hkX).2 p2 (hW.tun k4)
    simp only at k2 k5 e1 e2
    rw[k2]at e1
    rw[k5]at e2
    have q40:=ret40 (orc:=orc) hi (utP t (zY t) false k) (utP t (zY t) true k) (utP X (zY X) false k) (utP X (zY X) true k)
    rw[decide_eq_true e1,decide_eq_true e2]at q40
    generalize utP t (zY t) false k=P1 at p22 q40
    generalize utP t (zY t) true k=P2 at p22 q40
    generalize utP X (zY X) false k=R1 at r22 q40
    generalize utP X (zY X) true k=R2 at r22 q40
    by_cases hp:t.pairs.length=0
    ·have e3:evE t=4:=by unfold evE;rw[if_pos hv,if_pos hp]
     rw[e3]at p28
     refine kQ (yW rfl ty38 rfl rfl (by omega) (by omega) cl3 ?_)
     refine zE rfl rfl y1 sh3 rfl ?_
     refine zD rfl rfl yk (zE rfl rfl y0 sh22 rfl ?_)
     refine yI rfl ty22 rfl (List.length_map _) ?_
     refine zR rfl (q38d) (.lrefl _) (zC rfl (zA (kQ (zI rfl rfl y0 sh28 rfl ?_))))
     refine zB rfl (zR rfl (p22) (.lrefl _) (zB rfl (zT rfl rfl rfl (zT rfl rfl rfl (zS rfl ze26 ?_)))))
     refine zJ rfl (zO _ _) sh26 rfl rfl rfl rfl rfl ?_
     refine zC rfl (zA ?_)
     refine zM [(2,U.box 0 0),(6,U.box 2 0),(11,.int .i64 k),(12,U.box (List.length Y) 0),(13,.int .i64 0)] (Y++[SB.box [.int .i64 P1,.int .i64 P2]]) (.c4 rfl rfl rfl rfl (.cons rfl (.nil rfl))) (zc _ _ _) fun fr=>?_
     refine kQ (zI rfl rfl (zU y2) sh28 rfl ?_)
     refine zB rfl (zR rfl (r22) hle2 ?_)
     refine zB rfl (zT rfl rfl rfl (zT rfl rfl rfl (zS rfl ze26 ?_)))
     refine zJ rfl (zO _ _) sh26 rfl rfl rfl rfl rfl ?_
     refine zC rfl (zA ?_)
     refine zM [(2,U.box 0 0),(6,U.box 2 0),(12,U.box (List.length Y) 0),(13,.int .i64 0),(14,U.box (List.length (Y++[SB.box [.int .i64 P1,.int .i64 P2]])) 0),(15,.int .i64 0)] (Y++[SB.box [.int .i64 P1,.int .i64 P2]]++[SB.box [.int .i64 R1,.int .i64 R2]]) (.c4 rfl rfl rfl rfl (.cons rfl (.cons rfl (.nil rfl)))) (zc _ _ _) fun fr=>?_
     refine k_seq (kQ (zB rfl (zAw rfl rfl rfl (zA (k_cF rfl rfl ?_)))))
     refine zV (k_seq (kQ (zB rfl (zAw rfl rfl rfl (zB rfl (o_gD rfl rfl rfl rfl rfl (zI rfl rfl (zU (zO _ _)) sh26 rfl ?_)))))))
     refine o_gD rfl rfl rfl rfl rfl (zI rfl rfl (zO _ _) sh26 rfl ?_)
     refine o_gD rfl rfl rfl rfl rfl (zR rfl (q40) (.lrefl _) (o_gD rfl rfl rfl rfl rfl (zAR rfl rfl (ze rfl rfl rfl ?_))))
     refine zA (k_cF rfl rfl ?_)
     refine zV (kQ (zI rfl rfl (zU (zU y0)) sh28 rfl ?_))
     refine zR rfl (p28) (.lrefl _) (zB rfl (zT rfl rfl rfl (zT rfl rfl rfl (zS rfl ze26 ?_))))
     refine zJ rfl (zO _ _) sh26 rfl rfl rfl rfl rfl ?_
     refine zC rfl (zA ?_)
     refine zM [(6,U.box 2 0),(16,U.box (List.length (Y++[SB.box [.int .i64 P1,.int .i64 P2]]++[SB.box [.int .i64 R1,.int .i64 R2]])) 0),(17,.int .i64 4)] (Y++[SB.box [.int .i64 P1,.int .i64 P2]]++[SB.box [.int .i64 R1,.int .i64 R2]]++[SB.box [.int .i64 (Prod.fst (evP t)),.int .i64 (Prod.snd (evP t))]]) (.cons rfl (.cons rfl (.cons rfl (.nil rfl)))) (zc _ _ _) fun fr=>?_
     refine kQ (zI rfl rfl (zU (zU (zU y2))) sh28 rfl ?_)
     refine zR rfl (r28) hle1 ?_
     refine zB rfl (zT rfl rfl rfl (zT rfl rfl rfl (zS rfl ze26 ?_)))
     refine zJ rfl (zO _ _) sh26 rfl rfl rfl rfl rfl ?_
     refine zC rfl (zA ?_)
     refine zM [(16,U.box (List.length (Y++[SB.box [.int .i64 P1,.int .i64 P2]]++[SB.box [.int .i64 R1,.int .i64 R2]])) 0),(17,.int .i64 4),(18,U.box (List.length (Y++[SB.box [.int .i64 P1,.int .i64 P2]]++[SB.box [.int .i64 R1,.int .i64 R2]]++[SB.box [.int .i64 (Prod.fst (evP t)),.int .i64 (Prod.snd (evP t))]])) 0),(19,.int .i64 (evE X))] (Y++[SB.box [.int .i64 P1,.int .i64 P2]]++[SB.box [.int .i64 R1,.int .i64 R2]]++[SB.box [.int .i64 (Prod.fst (evP t)),.int .i64 (Prod.snd (evP t))]]++[SB.box [.int .i64 (Prod.fst (evP X)),.int .i64 (Prod.snd (evP X))]]) (.c4 rfl rfl rfl rfl (.nil rfl)) (zc _ _ _) fun fr=>?_
     refine kQ (zB rfl (zAw rfl rfl rfl (zB rfl (o_gS rfl rfl rfl rfl rfl (o_gS rfl rfl rfl rfl rfl (zW rfl rfl rfl ?_))))))
     refine zB rfl (o_gS rfl rfl rfl rfl rfl (o_gS rfl rfl rfl rfl rfl ?_))
     refine yD [(16,U.box (List.length (Y++[SB.box [.int .i64 P1,.int .i64 P2]]++[SB.box [.int .i64 R1,.int .i64 R2]])) 0),(18,U.box (List.length (Y++[SB.box [.int .i64 P1,.int .i64 P2]]++[SB.box [.int .i64 R1,.int .i64 R2]]++[SB.box [.int .i64 (Prod.fst (evP t)),.int .i64 (Prod.snd (evP t))]])) 0),(186,.bool true),(188,U.tup [])] [] (Y++[SB.box [.int .i64 P1,.int .i64 P2]]++[SB.box [.int .i64 R1,.int .i64 R2]]++[SB.box [.int .i64 (Prod.fst (evP t)),.int .i64 (Prod.snd (evP t))]]++[SB.box [.int .i64 (Prod.fst (evP X)),.int .i64 (Prod.snd (evP X))]]) (.c4 rfl rfl rfl rfl (.nil rfl)) rfl rfl fun fr=>?_
     refine o_gS rfl rfl rfl rfl rfl (wl rfl rfl rfl rfl ?_)
     refine wl rfl rfl rfl rfl ?_
     refine wl rfl rfl rfl rfl ?_
     refine wl rfl rfl rfl rfl ?_
     refine wl rfl rfl rfl rfl ?_
     refine wl rfl rfl rfl rfl ?_
     refine wl rfl rfl rfl rfl ?_
     refine wl rfl rfl rfl rfl ?_
     refine yD [(186,.bool true),(189,U.tup []),(194,U.tup []),(196,U.tup []),(197,U.tup [])] [] (Y++[SB.box [.int .i64 P1,.int .i64 P2]]++[SB.box [.int .i64 R1,.int .i64 R2]]++[SB.box [.int .i64 (Prod.fst (evP t)),.int .i64 (Prod.snd (evP t))]]++[SB.box [.int .i64 (Prod.fst (evP X)),.int .i64 (Prod.snd (evP X))]]) (.c4 rfl rfl rfl rfl (.cons rfl (.nil rfl))) rfl rfl fun fr=>?_
     refine wl rfl rfl rfl rfl ?_
     refine wl rfl rfl rfl rfl ?_
     refine wl rfl rfl rfl rfl ?_
     refine o_gS rfl rfl rfl rfl rfl (zW rfl rfl rfl ?_)
     refine zB rfl (o_gD rfl rfl rfl rfl rfl (zR rfl (r21) (.lrefl _) (zW rfl rfl rfl ?_)))
     refine zC rfl (zA (zg ?_))
     refine⟨.inr rfl,_,.cons _ _ _ _ (.tmp 4) .nil,?_⟩
     exact .refl _
    ·have e3:evE t=0:=by unfold evE;rw[if_pos hv,if_neg hp,he]
     have e4:evP t=evA t:=by unfold evP;rw[e3];rfl
     have hev:=ev_ex hok hp he
     rw[e3,e4]at p28
     generalize (evA t).1=A1 at p28 hev
     generalize (evA t).2=B1 at p28 hev
     by_cases hpX:X.pairs.length=0
     ·have e5:evE X=4:=by unfold evE;rw[if_pos hvx,if_pos hpX]
      rw[e5]at r28
      refine kQ (yW rfl ty38 rfl rfl (by omega) (by omega) cl3 ?_)
      refine zE rfl rfl y1 sh3 rfl ?_
      refine zD rfl rfl yk (zE rfl rfl y0 sh22 rfl ?_)
      refine yI rfl ty22 rfl (List.length_map _) ?_
      refine zR rfl (q38d) (.lrefl _) (zC rfl (zA (kQ (zI rfl rfl y0 sh28 rfl ?_))))
      refine zB rfl (zR rfl (p22) (.lrefl _) (zB rfl (zT rfl rfl rfl (zT rfl rfl rfl (zS rfl ze26 ?_)))))
      refine zJ rfl (zO _ _) sh26 rfl rfl rfl rfl rfl ?_
      refine zC rfl (zA ?_)
      refine zM [(2,U.box 0 0),(6,U.box 2 0),(11,.int .i64 k),(12,U.box (List.length Y) 0),(13,.int .i64 0)] (Y++[SB.box [.int .i64 P1,.int .i64 P2]]) (.c4 rfl rfl rfl rfl (.cons rfl (.nil rfl))) (zc _ _ _) fun fr=>?_
      refine kQ (zI rfl rfl (zU y2) sh28 rfl ?_)
      refine zB rfl (zR rfl (r22) hle2 ?_)
      refine zB rfl (zT rfl rfl rfl (zT rfl rfl rfl (zS rfl ze26 ?_)))
      refine zJ rfl (zO _ _) sh26 rfl rfl rfl rfl rfl ?_
      refine zC rfl (zA ?_)
      refine zM [(2,U.box 0 0),(6,U.box 2 0),(12,U.box (List.length Y) 0),(13,.int .i64 0),(14,U.box (List.length (Y++[SB.box [.int .i64 P1,.int .i64 P2]])) 0),(15,.int .i64 0)] (Y++[SB.box [.int .i64 P1,.int .i64 P2]]++[SB.box [.int .i64 R1,.int .i64 R2]]) (.c4 rfl rfl rfl rfl (.cons rfl (.cons rfl (.nil rfl)))) (zc _ _ _) fun fr=>?_
      refine k_seq (kQ (zB rfl (zAw rfl rfl rfl (zA (k_cF rfl rfl ?_)))))
      refine zV (k_seq (kQ (zB rfl (zAw rfl rfl rfl (zB rfl (o_gD rfl rfl rfl rfl rfl (zI rfl rfl (zU (zO _ _)) sh26 rfl ?_)))))))
      refine o_gD rfl rfl rfl rfl rfl (zI rfl rfl (zO _ _) sh26 rfl ?_)
      refine o_gD rfl rfl rfl rfl rfl (zR rfl (q40) (.lrefl _) (o_gD rfl rfl rfl rfl rfl (zAR rfl rfl (ze rfl rfl rfl ?_))))
      refine zA (k_cF rfl rfl ?_)
      refine zV (kQ (zI rfl rfl (zU (zU y0)) sh28 rfl ?_))
      refine zR rfl (p28) (.lrefl _) (zB rfl (zT rfl rfl rfl (zT rfl rfl rfl (zS rfl ze26 ?_))))
      refine zJ rfl (zO _ _) sh26 rfl rfl rfl rfl rfl ?_
      refine zC rfl (zA ?_)
      refine zM [(6,U.box 2 0),(16,U.box (List.length (Y++[SB.box [.int .i64 P1,.int .i64 P2]]++[SB.box [.int .i64 R1,.int .i64 R2]])) 0),(17,.int .i64 0)] (Y++[SB.box [.int .i64 P1,.int .i64 P2]]++[SB.box [.int .i64 R1,.int .i64 R2]]++[SB.box [.int .i64 A1,.int .i64 B1]]) (.cons rfl (.cons rfl (.cons rfl (.nil rfl)))) (zc _ _ _) fun fr=>?_
      refine kQ (zI rfl rfl (zU (zU (zU y2))) sh28 rfl ?_)
      refine zR rfl (r28) hle1 ?_
      refine zB rfl (zT rfl rfl rfl (zT rfl rfl rfl (zS rfl ze26 ?_)))
      refine zJ rfl (zO _ _) sh26 rfl rfl rfl rfl rfl ?_
      refine zC rfl (zA ?_)
      refine zM [(16,U.box (List.length (Y++[SB.box [.int .i64 P1,.int .i64 P2]]++[SB.box [.int .i64 R1,.int .i64 R2]])) 0),(17,.int .i64 0),(18,U.box (List.length (Y++[SB.box [.int .i64 P1,.int .i64 P2]]++[SB.box [.int .i64 R1,.int .i64 R2]]++[SB.box [.int .i64 A1,.int .i64 B1]])) 0),(19,.int .i64 4)] (Y++[SB.box [.int .i64 P1,.int .i64 P2]]++[SB.box [.int .i64 R1,.int .i64 R2]]++[SB.box [.int .i64 A1,.int .i64 B1]]++[SB.box [.int .i64 (Prod.fst (evP X)),.int .i64 (Prod.snd (evP X))]]) (.c4 rfl rfl rfl rfl (.nil rfl)) (zc _ _ _) fun fr=>?_
      refine kQ (zB rfl (zAw rfl rfl rfl (zB rfl (o_gD rfl rfl rfl rfl rfl (zB rfl (o_gD rfl rfl rfl rfl rfl (wW rfl rfl rfl (ze rfl rfl rfl ?_))))))))
      refine zB rfl (o_gS rfl rfl rfl rfl rfl (o_gS rfl rfl rfl rfl rfl ?_))
      refine yD [(16,U.box (List.length (Y++[SB.box [.int .i64 P1,.int .i64 P2]]++[SB.box [.int .i64 R1,.int .i64 R2]])) 0),(18,U.box (List.length (Y++[SB.box [.int .i64 P1,.int .i64 P2]]++[SB.box [.int .i64 R1,.int .i64 R2]]++[SB.box [.int .i64 A1,.int .i64 B1]])) 0),(186,U.bool (decide ((4:Int)=(4:Int)))),(188,U.tup [])] [] (Y++[SB.box [.int .i64 P1,.int .i64 P2]]++[SB.box [.int .i64 R1,.int .i64 R2]]++[SB.box [.int .i64 A1,.int .i64 B1]]++[SB.box [.int .i64 (Prod.fst (evP X)),.int .i64 (Prod.snd (evP X))]]) (.c4 rfl rfl rfl rfl (.nil rfl)) rfl rfl fun fr=>?_
      refine o_gS rfl rfl rfl rfl rfl (wl rfl rfl rfl rfl ?_)
      refine wl rfl rfl rfl rfl ?_
      refine wl rfl rfl rfl rfl ?_
      refine wl rfl rfl rfl rfl ?_
      refine wl rfl rfl rfl rfl ?_
      refine wl rfl rfl rfl rfl ?_
      refine wl rfl rfl rfl rfl ?_
      refine wl rfl rfl rfl rfl ?_
      refine yD [(186,U.bool (decide ((4:Int)=(4:Int)))),(189,U.tup []),(194,U.tup []),(196,U.tup []),(197,U.tup [])] [] (Y++[SB.box [.int .i64 P1,.int .i64 P2]]++[SB.box [.int .i64 R1,.int .i64 R2]]++[SB.box [.int .i64 A1,.int .i64 B1]]++[SB.box [.int .i64 (Prod.fst (evP X)),.int .i64 (Prod.snd (evP X))]]) (.c4 rfl rfl rfl rfl (.cons rfl (.nil rfl))) rfl rfl fun fr=>?_
      refine wl rfl rfl rfl rfl ?_
      refine wl rfl rfl rfl rfl ?_
      refine wl rfl rfl rfl rfl ?_
      refine o_gS rfl rfl rfl rfl rfl (zW rfl rfl rfl ?_)
      refine zB rfl (o_gD rfl rfl rfl rfl rfl (zR rfl (r21) (.lrefl _) (zW rfl rfl rfl ?_)))
      refine zC rfl (zA (zg ?_))
      refine⟨.inr rfl,_,.cons _ _ _ _ (.tmp 4) .nil,?_⟩
      exact .refl _
     ·have e5:evE X=0:=by unfold evE;rw[if_pos hvx,if_neg hpX,heX]
      have e6:evP X=evA X:=by unfold evP;rw[e5];rfl
      have hevX:=ev_ex hX hpX heX
      rw[e5,e6]at r28
      generalize (evA X).1=A2 at r28 hevX
      generalize (evA X).2=B2 at r28 hevX
      have hbX:=hX.bt
      have w1:=hW.lo
      have w2:=hW.hi
      have w3:=hev.lo
      have w4:=hev.hi
      have w5:=hevX.lo
      have w6:=hevX.hi
      have w7:=hev.tun.le (fun h=>hp (by rw[h];rfl))
      have w8:=hevX.tun.le (fun h=>hpX (by rw[h];rfl))
      have hbe:BandE X A1 B1:=by
       obtain⟨p,hp⟩:=hev.tun
       exact⟨p,hW.fit p _ _ hp⟩
      have hwid:=hevX.min A1 B1 (by omega) (by omega) hbe
      have hwid:B2 - A2≤B1 - A1:=by omega
      refine kQ (yW rfl ty38 rfl rfl (by omega) (by omega) cl3 ?_)
      refine zE rfl rfl y1 sh3 rfl ?_
      refine zD rfl rfl yk (zE rfl rfl y0 sh22 rfl ?_)
      refine yI rfl ty22 rfl (List.length_map _) ?_
      refine zR rfl (q38d) (.lrefl _) (zC rfl (zA (kQ (zI rfl rfl y0 sh28 rfl ?_))))
      refine zB rfl (zR rfl (p22) (.lrefl _) (zB rfl (zT rfl rfl rfl (zT rfl rfl rfl (zS rfl ze26 ?_)))))
      refine zJ rfl (zO _ _) sh26 rfl rfl rfl rfl rfl ?_
      refine zC rfl (zA ?_)
      refine zM [(2,U.box 0 0),(6,U.box 2 0),(11,.int .i64 k),(12,U.box (List.length Y) 0),(13,.int .i64 0)] (Y++[SB.box [.int .i64 P1,.int .i64 P2]]) (.c4 rfl rfl rfl rfl (.cons rfl (.nil rfl))) (zc _ _ _) fun fr=>?_
      refine kQ (zI rfl rfl (zU y2) sh28 rfl ?_)
      refine zB rfl (zR rfl (r22) hle2 ?_)
      refine zB rfl (zT rfl rfl rfl (zT rfl rfl rfl (zS rfl ze26 ?_)))
      refine zJ rfl (zO _ _) sh26 rfl rfl rfl rfl rfl ?_
      refine zC rfl (zA ?_)
      refine zM [(2,U.box 0 0),(6,U.box 2 0),(12,U.box (List.length Y) 0),(13,.int .i64 0),(14,U.box (List.length (Y++[SB.box [.int .i64 P1,.int .i64 P2]])) 0),(15,.int .i64 0)] (Y++[SB.box [.int .i64 P1,.int .i64 P2]]++[SB.box [.int .i64 R1,.int .i64 R2]]) (.c4 rfl rfl rfl rfl (.cons rfl (.cons rfl (.nil rfl)))) (zc _ _ _) fun fr=>?_
      refine k_seq (kQ (zB rfl (zAw rfl rfl rfl (zA (k_cF rfl rfl ?_)))))
      refine zV (k_seq (kQ (zB rfl (zAw rfl rfl rfl (zB rfl (o_gD rfl rfl rfl rfl rfl (zI rfl rfl (zU (zO _ _)) sh26 rfl ?_)))))))
      refine o_gD rfl rfl rfl rfl rfl (zI rfl rfl (zO _ _) sh26 rfl ?_)
      refine o_gD rfl rfl rfl rfl rfl (zR rfl (q40) (.lrefl _) (o_gD rfl rfl rfl rfl rfl (zAR rfl rfl (ze rfl rfl rfl ?_))))
      refine zA (k_cF rfl rfl ?_)
      refine zV (kQ (zI rfl rfl (zU (zU y0)) sh28 rfl ?_))
      refine zR rfl (p28) (.lrefl _) (zB rfl (zT rfl rfl rfl (zT rfl rfl rfl (zS rfl ze26 ?_))))
      refine zJ rfl (zO _ _) sh26 rfl rfl rfl rfl rfl ?_
      refine zC rfl (zA ?_)
      refine zM [(6,U.box 2 0),(16,U.box (List.length (Y++[SB.box [.int .i64 P1,.int .i64 P2]]++[SB.box [.int .i64 R1,.int .i64 R2]])) 0),(17,.int .i64 0)] (Y++[SB.box [.int .i64 P1,.int .i64 P2]]++[SB.box [.int .i64 R1,.int .i64 R2]]++[SB.box [.int .i64 A1,.int .i64 B1]]) (.cons rfl (.cons rfl (.cons rfl (.nil rfl)))) (zc _ _ _) fun fr=>?_
      refine kQ (zI rfl rfl (zU (zU (zU y2))) sh28 rfl ?_)
      refine zR rfl (r28) hle1 ?_
      refine zB rfl (zT rfl rfl rfl (zT rfl rfl rfl (zS rfl ze26 ?_)))
      refine zJ rfl (zO _ _) sh26 rfl rfl rfl rfl rfl ?_
      refine zC rfl (zA ?_)
      refine zM [(16,U.box (List.length (Y++[SB.box [.int .i64 P1,.int .i64 P2]]++[SB.box [.int .i64 R1,.int .i64 R2]])) 0),(17,.int .i64 0),(18,U.box (List.length (Y++[SB.box [.int .i64 P1,.int .i64 P2]]++[SB.box [.int .i64 R1,.int .i64 R2]]++[SB.box [.int .i64 A1,.int .i64 B1]])) 0),(19,.int .i64 0)] (Y++[SB.box [.int .i64 P1,.int .i64 P2]]++[SB.box [.int .i64 R1,.int .i64 R2]]++[SB.box [.int .i64 A1,.int .i64 B1]]++[SB.box [.int .i64 A2,.int .i64 B2]]) (.c4 rfl rfl rfl rfl (.nil rfl)) (zc _ _ _) fun fr=>?_
      refine kQ (zB rfl (zAw rfl rfl rfl (zB rfl (o_gD rfl rfl rfl rfl rfl (zB rfl (o_gD rfl rfl rfl rfl rfl (wW rfl rfl rfl (ze rfl rfl rfl ?_))))))))
      refine zB rfl (o_gD rfl rfl rfl rfl rfl (zB rfl (o_gD rfl rfl rfl rfl rfl (wW rfl rfl rfl ?_))))
      refine yD [(16,U.box (List.length (Y++[SB.box [.int .i64 P1,.int .i64 P2]]++[SB.box [.int .i64 R1,.int .i64 R2]])) 0),(18,U.box (List.length (Y++[SB.box [.int .i64 P1,.int .i64 P2]]++[SB.box [.int .i64 R1,.int .i64 R2]]++[SB.box [.int .i64 A1,.int .i64 B1]])) 0),(186,U.bool (decide ((0:Int)=(4:Int)))),(188,U.bool (decide ((0:Int)=(0:Int))))] [] (Y++[SB.box [.int .i64 P1,.int .i64 P2]]++[SB.box [.int .i64 R1,.int .i64 R2]]++[SB.box [.int .i64 A1,.int .i64 B1]]++[SB.box [.int .i64 A2,.int .i64 B2]]) (.c4 rfl rfl rfl rfl (.nil rfl)) rfl rfl fun fr=>?_
      refine o_gD rfl rfl rfl rfl rfl ?_
      refine yD [(16,U.box (List.length (Y++[SB.box [.int .i64 P1,.int .i64 P2]]++[SB.box [.int .i64 R1,.int .i64 R2]])) 0),(18,U.box (List.length (Y++[SB.box [.int .i64 P1,.int .i64 P2]]++[SB.box [.int .i64 R1,.int .i64 R2]]++[SB.box [.int .i64 A1,.int .i64 B1]])) 0),(186,U.bool (decide ((0:Int)=(4:Int)))),(188,U.bool (decide ((0:Int)=(0:Int))))] [] (Y++[SB.box [.int .i64 P1,.int .i64 P2]]++[SB.box [.int .i64 R1,.int .i64 R2]]++[SB.box [.int .i64 A1,.int .i64 B1]]++[SB.box [.int .i64 A2,.int .i64 B2]]) (.c4 rfl rfl rfl rfl (.nil rfl)) rfl rfl fun fr=>?_
      refine zB rfl (o_gD rfl rfl rfl rfl rfl (zD rfl rfl zu (o_gD rfl rfl rfl rfl rfl (zE rfl rfl (zO _ _) sh3 rfl ?_))))
      refine o_gD rfl rfl rfl rfl rfl (zD rfl rfl zq (o_gD rfl rfl rfl rfl rfl (zE rfl rfl (zO _ _) sh3 rfl ?_)))
      refine o_gD rfl rfl rfl rfl rfl ?_
      refine zBU rfl rfl rfl (by unfold I64;omega) (o_gD rfl rfl rfl rfl rfl (zD rfl rfl zu (o_gD rfl rfl rfl rfl rfl (zE rfl rfl (zU (zO _ _)) sh3 rfl ?_))))
      refine o_gD rfl rfl rfl rfl rfl (zD rfl rfl zq ?_)
      refine yD [(186,U.bool (decide ((0:Int)=(4:Int)))),(189,U.bool (decide ((0:Int)=(0:Int)))),(194,.int .i64 (B2 - A2)),(196,.int .i64 B1),(197,U.box (List.length (Y++[SB.box [.int .i64 P1,.int .i64 P2]]++[SB.box [.int .i64 R1,.int .i64 R2]])) 0)] [] (Y++[SB.box [.int .i64 P1,.int .i64 P2]]++[SB.box [.int .i64 R1,.int .i64 R2]]++[SB.box [.int .i64 A1,.int .i64 B1]]++[SB.box [.int .i64 A2,.int .i64 B2]]) (.c4 rfl rfl rfl rfl (.cons rfl (.nil rfl))) rfl rfl fun fr=>?_
      refine o_gD rfl rfl rfl rfl rfl ?_
      refine yD [(186,U.bool (decide ((0:Int)=(4:Int)))),(189,U.bool (decide ((0:Int)=(0:Int)))),(194,.int .i64 (B2 - A2)),(196,.int .i64 B1),(197,U.box (List.length (Y++[SB.box [.int .i64 P1,.int .i64 P2]]++[SB.box [.int .i64 R1,.int .i64 R2]])) 0)] [] (Y++[SB.box [.int .i64 P1,.int .i64 P2]]++[SB.box [.int .i64 R1,.int .i64 R2]]++[SB.box [.int .i64 A1,.int .i64 B1]]++[SB.box [.int .i64 A2,.int .i64 B2]]) (.c4 rfl rfl rfl rfl (.cons rfl (.nil rfl))) rfl rfl fun fr=>?_
      refine zE rfl rfl (zU (zO _ _)) sh3 rfl ?_
      refine o_gD rfl rfl rfl rfl rfl ?_
      refine zBU rfl rfl rfl (by unfold I64;omega) (o_gD rfl rfl rfl rfl rfl (wq rfl rfl rfl (o_gD rfl rfl rfl rfl rfl (zW rfl rfl rfl ?_))))
      refine ze rfl rfl rfl ?_
      refine zB rfl (o_gD rfl rfl rfl rfl (decide_eq_true (by omega)) ?_)
      refine zR rfl (r21) (.lrefl _) (zW rfl rfl (decide_eq_true (by omega)) ?_)
      refine zC rfl (zA (zg ?_))
      refine⟨.inr rfl,_,.cons _ _ _ _ (.tmp 4) .nil,?_⟩
      exact .refl _
   ·rw[he,if_neg (by decide)]at p22
    rcases errT_01 X with heX|heX
    ·rw[heX,if_pos rfl]at r22
     refine kQ (yW rfl ty38 rfl rfl (by omega) (by omega) cl3 ?_)
     refine zE rfl rfl y1 sh3 rfl ?_
     refine zD rfl rfl yk (zE rfl rfl y0 sh22 rfl ?_)
     refine yI rfl ty22 rfl (List.length_map _) ?_
     refine zR rfl (q38d) (.lrefl _) (zC rfl (zA (kQ (zI rfl rfl y0 sh28 rfl ?_))))
     refine zB rfl (zR rfl (p22) (.lrefl _) (zB rfl (zT rfl rfl rfl (zT rfl rfl rfl (zS rfl ze26 ?_)))))
     refine zJ rfl (zO _ _) sh26 rfl rfl rfl rfl rfl ?_
     refine zC rfl (zA ?_)
     refine zM [(2,U.box 0 0),(6,U.box 2 0),(11,.int .i64 k),(12,U.box (List.length Y) 0),(13,.int .i64 12)] (Y++[SB.box [.int .i64 0,.int .i64 0]]) (.c4 rfl rfl rfl rfl (.cons rfl (.nil rfl))) (zc _ _ _) fun fr=>?_
     refine kQ (zI rfl rfl (zU y2) sh28 rfl ?_)
     refine zB rfl (zR rfl (r22) hle2 ?_)
     refine zB rfl (zT rfl rfl rfl (zT rfl rfl rfl (zS rfl ze26 ?_)))
     refine zJ rfl (zO _ _) sh26 rfl rfl rfl rfl rfl ?_
     refine zC rfl (zA ?_)
     refine zM [(2,U.box 0 0),(6,U.box 2 0),(12,U.box (List.length Y) 0),(13,.int .i64 12),(14,U.box (List.length (Y++[SB.box [.int .i64 0,.int .i64 0]])) 0),(15,.int .i64 0)] (Y++[SB.box [.int .i64 0,.int .i64 0]]++[SB.box [.int .i64 (utP X (zY X) Bool.false k),.int .i64 (utP X (zY X) Bool.true k)]]) (.c4 rfl rfl rfl rfl (.cons rfl (.cons rfl (.nil rfl)))) (zc _ _ _) fun fr=>?_
     refine k_seq (kQ (zB rfl (zAw rfl rfl rfl (zA (k_cT rfl rfl ?_)))))
     refine k_seq (zAS [.plain,.plain,.plain,.read true,.read false,.plain,.plain,.plain,.plain,.plain,.plain,.plain,.plain,.plain,.plain,.plain,.plain,.plain,.plain,.plain] (by kernel_rfl) (by kernel_rfl) (by kernel_rfl) ?_)
     refine zG (zB rfl (zA rfl)) (zG (wW rfl rfl rfl (zA rfl)) ?_)
     refine zG (zB rfl (zA rfl)) (d_gD rfl rfl rfl rfl rfl (yE rfl (zI rfl rfl (zU (zO _ _)) sh26 rfl (zA rfl)) ?_))
     refine d_gD rfl rfl rfl rfl rfl (zCp rfl (q41) (zCm _ _) (.lrefl _) ?_)
     refine d_gD rfl rfl rfl rfl rfl (zG (o_binK rfl rfl rfl rfl rfl (spn_same _ _) (zA rfl)) ?_)
     refine zG (zW rfl rfl rfl (zA rfl)) ?_
     refine zG (zB rfl (zA rfl)) (d_gD rfl rfl rfl rfl rfl (zG (zB rfl (zA rfl)) ?_))
     refine zCR [(13,.int .i64 12),(15,.int .i64 0),(150,.bool true),(151,.int .i64 0)] [] (Y++[SB.box [.int .i64 0,.int .i64 0]]++[SB.box [.int .i64 (utP X (zY X) Bool.false k),.int .i64 (utP X (zY X) Bool.true k)]]) (.c4 rfl rfl rfl rfl (.nil rfl)) rfl rfl fun fr=>?_
     refine d_gD rfl rfl rfl rfl rfl ?_
     refine zCR [(13,.int .i64 12),(15,.int .i64 0),(150,.bool true),(151,.int .i64 0)] [] (Y++[SB.box [.int .i64 0,.int .i64 0]]++[SB.box [.int .i64 (utP X (zY X) Bool.false k),.int .i64 (utP X (zY X) Bool.true k)]]) (.c4 rfl rfl rfl rfl (.nil rfl)) rfl rfl fun fr=>?_
     refine zG (wW rfl rfl rfl (zA rfl)) ?_
     refine d_gD rfl rfl rfl rfl rfl (zG (zB rfl (zA rfl)) (d_gS rfl rfl rfl rfl rfl (d_gS rfl rfl rfl rfl rfl (d_gS rfl rfl rfl rfl rfl (d_gD rfl rfl rfl rfl rfl (zG (zW rfl rfl rfl (zA rfl)) ?_))))))
     refine zG (zW rfl rfl rfl (zA rfl)) ?_
     refine zG (zB rfl (zA rfl)) (d_gD rfl rfl rfl rfl rfl (zG (zR rfl (r21) (.lrefl _) (zA rfl)) ?_))
     refine zCR [(159,.bool true),(160,.bool true)] [] (Y++[SB.box [.int .i64 0,.int .i64 0]]++[SB.box [.int .i64 (utP X (zY X) Bool.false k),.int .i64 (utP X (zY X) Bool.true k)]]) (.cons rfl (.cons rfl (.nil rfl))) rfl rfl fun fr=>?_
     refine zG (zW rfl rfl rfl (zA rfl)) ?_
     refine zG (zC rfl (zA rfl)) ?_
     refine zBb ?_
     refine zg ?_
     refine⟨.inr rfl,_,.cons _ _ _ _ (.tmp 4) .nil,?_⟩
     exact .refl _
    ·rw[heX,if_neg (by decide)]at r22
     refine kQ (yW rfl ty38 rfl rfl (by omega) (by omega) cl3 ?_)
     refine zE rfl rfl y1 sh3 rfl ?_
     refine zD rfl rfl yk (zE rfl rfl y0 sh22 rfl ?_)
     refine yI rfl ty22 rfl (List.length_map _) ?_
     refine zR rfl (q38d) (.lrefl _) (zC rfl (zA (kQ (zI rfl rfl y0 sh28 rfl ?_))))
     refine zB rfl (zR rfl (p22) (.lrefl _) (zB rfl (zT rfl rfl rfl (zT rfl rfl rfl (zS rfl ze26 ?_)))))
     refine zJ rfl (zO _ _) sh26 rfl rfl rfl rfl rfl ?_
     refine zC rfl (zA ?_)
     refine zM [(2,U.box 0 0),(6,U.box 2 0),(11,.int .i64 k),(12,U.box (List.length Y) 0),(13,.int .i64 12)] (Y++[SB.box [.int .i64 0,.int .i64 0]]) (.c4 rfl rfl rfl rfl (.cons rfl (.nil rfl))) (zc _ _ _) fun fr=>?_
     refine kQ (zI rfl rfl (zU y2) sh28 rfl ?_)
     refine zB rfl (zR rfl (r22) hle2 ?_)
     refine zB rfl (zT rfl rfl rfl (zT rfl rfl rfl (zS rfl ze26 ?_)))
     refine zJ rfl (zO _ _) sh26 rfl rfl rfl rfl rfl ?_
     refine zC rfl (zA ?_)
     refine zM [(2,U.box 0 0),(6,U.box 2 0),(12,U.box (List.length Y) 0),(13,.int .i64 12),(14,U.box (List.length (Y++[SB.box [.int .i64 0,.int .i64 0]])) 0),(15,.int .i64 12)] (Y++[SB.box [.int .i64 0,.int .i64 0]]++[SB.box [.int .i64 0,.int .i64 0]]) (.c4 rfl rfl rfl rfl (.cons rfl (.cons rfl (.nil rfl)))) (zc _ _ _) fun fr=>?_
     refine k_seq (kQ (zB rfl (zAw rfl rfl rfl (zA (k_cT rfl rfl ?_)))))
     refine k_seq (zAS [.plain,.plain,.plain,.read true,.read false,.plain,.plain,.plain,.plain,.plain,.plain,.plain,.plain,.plain,.plain,.plain,.plain,.plain,.plain,.plain] (by kernel_rfl) (by kernel_rfl) (by kernel_rfl) ?_)
     refine zG (zB rfl (zA rfl)) (zG (wW rfl rfl rfl (zA rfl)) ?_)
     refine zG (zB rfl (zA rfl)) (d_gD rfl rfl rfl rfl rfl (yE rfl (zI rfl rfl (zU (zO _ _)) sh26 rfl (zA rfl)) ?_))
     refine d_gD rfl rfl rfl rfl rfl (zCp rfl (q41) (zCm _ _) (.lrefl _) ?_)
     refine d_gD rfl rfl rfl rfl rfl (zG (o_binK rfl rfl rfl rfl rfl (spn_same _ _) (zA rfl)) ?_)
     refine zG (zW rfl rfl rfl (zA rfl)) ?_
     refine zG (zB rfl (zA rfl)) (d_gD rfl rfl rfl rfl rfl (zG (zB rfl (zA rfl)) ?_))
     refine zCR [(13,.int .i64 12),(15,.int .i64 12),(150,.bool true),(151,.int .i64 12)] [] (Y++[SB.box [.int .i64 0,.int .i64 0]]++[SB.box [.int .i64 0,.int .i64 0]]) (.c4 rfl rfl rfl rfl (.nil rfl)) rfl rfl fun fr=>?_
     refine d_gD rfl rfl rfl rfl rfl ?_
     refine zCR [(13,.int .i64 12),(15,.int .i64 12),(150,.bool true),(151,.int .i64 12)] [] (Y++[SB.box [.int .i64 0,.int .i64 0]]++[SB.box [.int .i64 0,.int .i64 0]]) (.c4 rfl rfl rfl rfl (.nil rfl)) rfl rfl fun fr=>?_
     refine zG (wW rfl rfl rfl (zA rfl)) ?_
     refine d_gD rfl rfl rfl rfl rfl (zG (zB rfl (zA rfl)) (d_gD rfl rfl rfl rfl rfl (zG (zB rfl (zA rfl)) (d_gD rfl rfl rfl rfl rfl (zG (zB rfl (zA rfl)) (d_gD rfl rfl rfl rfl rfl (zG (wW rfl rfl rfl (zA rfl)) ?_)))))))
     refine d_gD rfl rfl rfl rfl rfl (zG (ze rfl rfl rfl (zA rfl)) ?_)
     refine zG (zW rfl rfl rfl (zA rfl)) ?_
     refine zG (zB rfl (zA rfl)) (d_gD rfl rfl rfl rfl rfl (zG (zR rfl (r21) (.lrefl _) (zA rfl)) ?_))
     refine zCR [(159,U.bool (decide ((12:Int)=(12:Int)))),(160,.bool true)] [] (Y++[SB.box [.int .i64 0,.int .i64 0]]++[SB.box [.int .i64 0,.int .i64 0]]) (.cons rfl (.cons rfl (.nil rfl))) rfl rfl fun fr=>?_
     refine zG (zW rfl rfl rfl (zA rfl)) ?_
     refine zG (zC rfl (zA rfl)) ?_
     refine zBb ?_
     refine zg ?_
     refine⟨.inr rfl,_,.cons _ _ _ _ (.tmp 4) .nil,?_⟩
     exact .refl _
end
section
variable {is:FuncId→Bool}{orc:Known}
theorem ret10_all(hi:Off is)(r21:RetP Try.prog is orc 21 [] (.bool true)):∀us,ShpAs Try.prog [28,38] us→RetP Try.prog is orc 10 us (.bool true):=by
 intro us h
 cases h with
 |cons _ _ u us h1 h=>cases h with
 |cons _ _ v us h2 h=>
 cases h
 obtain⟨fs,hu⟩:=und28
 unfold ShpA at h1 h2
 rw[hu]at h1
 rw[u38]at h2
 obtain⟨t,rfl⟩:=arg_set h1
 obtain⟨a,b,c,d,rfl⟩:=arg_four h2
 exact ret10 hi t a b c d r21
end
end Go.Proofs.Ytinhcdijbcamaaa.tuneWider
