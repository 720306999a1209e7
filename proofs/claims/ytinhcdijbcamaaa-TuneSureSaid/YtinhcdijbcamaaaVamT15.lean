import Derived.Test.YtinhcdijbcamaaaVamT14
set_option linter.unusedVariables false
set_option linter.unusedSimpArgs false
set_option linter.constructorNameAsVariable false
namespace Go.Proofs.Ytinhcdijbcamaaa.tuneSure
open Vam
section
variable {is:FuncId→Bool}{orc:Known}
noncomputable def b80:Code:=(Try.f80.body).getD .skip
theorem body80:bodyOf Try.prog 80=some (19,b80,[.tmp 4]):=by kernel_rfl
theorem pure80:pureFn Try.prog 80=false:=by kernel_rfl
noncomputable def b50:Code:=(Try.f50.body).getD .skip
theorem body50:bodyOf Try.prog 50=some (9,b50,[.tmp 4]):=by kernel_rfl
theorem pure50:pureFn Try.prog 50=false:=by kernel_rfl
noncomputable def b52:Code:=(Try.f52.body).getD .skip
theorem body52:bodyOf Try.prog 52=some (19,b52,[.tmp 4]):=by kernel_rfl
theorem pure52:pureFn Try.prog 52=true:=by kernel_rfl
noncomputable def b15:Code:=(Try.f15.body).getD .skip
theorem body15:bodyOf Try.prog 15=some (42,b15,[.tmp 4,.tmp 5]):=by kernel_rfl
theorem pure15:pureFn Try.prog 15=true:=by kernel_rfl
variable {t:Ts}{J:List Jn}{v x:Int}{st:List SB}
set_option maxHeartbeats 8000000 in
theorem wpc80(J:List Jn)(hJ:J.length≤64)(f:Nat)(A B:List U)(F:Jn→Bool)(hF:∀j∈J,RetP Try.prog is orc f (A++([j.u]++B)) (.bool (F j))):WpC Try.prog is orc 80 [.lst .ro 5 (jnsU J),.fn f A B] st fun u st'=>∃n:Int,u=.int .i64 n∧decide (0≤n)=J.any F∧st'=st:=by
 refine wpc_of body80 pure80 rfl rfl ?_
 refine kQ (zC rfl (zA (k_seq (kQ (zB rfl (zw rfl ty70 rfl (List.length_map _) ?_))))))
 refine zB rfl (zA (zK ?_))
 refine yY (fun kk s2=>∃i:Nat,kk+i=J.length∧(J.take i).any F=false∧s2.st=st∧Holds s2 [(0,.lst .ro 5 (jnsU J)),(1,.fn f A B),(7,.int .i64 J.length),(8,.int .i64 i)]) (fun kk s2 hI=>?_) J.length _ ⟨0,rfl,rfl,rfl,.c4 rfl rfl rfl rfl (.nil rfl)⟩
 obtain⟨i,hki,hno,hst2,hs2⟩:=hI
 refine zM _ _ hs2 hst2 fun fr2=>?_
 by_cases hin:i<J.length
 ·obtain⟨j,hj⟩:∃j,J[i]? =some j:=⟨J[i],List.getElem?_eq_getElem hin⟩
  have hjm:=List.mem_of_getElem? hj
  have hf:=hF j hjm
  cases hc:F j with
  |true=>
   rw[hc]at hf
   refine kQ (zb rfl rfl rfl (zA (k_seq (k_cT rfl (decide_eq_true (by omega)) (zQ (k_seq (zK (kQ ?_))))))))
   refine zB rfl (zC rfl (zA (kQ (zB rfl (zB rfl (zB rfl (zp (u:=(j).u) rfl ty70 rfl rfl (Int.natCast_nonneg _) (by simp[hj]) cl72 ?_)))))))
   refine zi rfl rfl sh72 rfl ?_
   refine o_callVR rfl rfl hf (.lrefl _) ?_
   refine zA (k_cT rfl rfl ?_)
   refine kQ (zB rfl (zC rfl (zA (zc ?_))))
   refine⟨.inr rfl,_,.cons _ _ _ _ (.tmp 4) .nil,?_⟩
   exact⟨_,.refl _,(i:Int),rfl,by rw[decide_eq_true (Int.natCast_nonneg _),List.any_eq_true.2 ⟨j,hjm,hc⟩],rfl⟩
  |false=>
   rw[hc]at hf
   refine kQ (zb rfl rfl rfl (zA (k_seq (k_cT rfl (decide_eq_true (by omega)) (zQ (k_seq (zK (kQ ?_))))))))
   refine zB rfl (zC rfl (zA (kQ (zB rfl (zB rfl (zB rfl (zp (u:=(j).u) rfl ty70 rfl rfl (Int.natCast_nonneg _) (by simp[hj]) cl72 ?_)))))))
   refine zi rfl rfl sh72 rfl ?_
   refine o_callVR rfl rfl hf (.lrefl _) ?_
   refine zA (k_cF rfl rfl ?_)
   refine zQ (k_region ?_)
   refine yT rfl rfl rfl (by unfold I64;omega) (zB rfl (zA ?_))
   exact⟨kk - 1,by omega,i+1,by omega,by rw[List.take_add_one,hj,List.any_append,hno];simp[hc],rfl,.c4 rfl rfl rfl rfl (.nil rfl)⟩
 ·have hiN:i=J.length:=by omega
  subst hiN
  rw[List.take_length]at hno
  refine kQ (zb rfl rfl rfl (zA (k_seq (k_cF rfl (decide_eq_false (by omega)) (yO (kQ (zC rfl (zA ?_))))))))
  refine zc ?_
  refine⟨.inr rfl,_,.cons _ _ _ _ (.tmp 4) .nil,?_⟩
  exact⟨_,.refl _, -1,rfl,by rw[hno];rfl,rfl⟩
theorem wpc50(J:List Jn)(hJ:J.length≤64)(f:Nat)(A B:List U)(F:Jn→Bool)(hF:∀j∈J,RetP Try.prog is orc f (A++([j.u]++B)) (.bool (F j))):WpC Try.prog is orc 50 [.lst .ro 5 (jnsU J),.fn f A B] st fun u st'=>u=.bool (J.any F)∧st'=st:=by
 refine wpc_of body50 pure50 rfl rfl ?_
 refine kQ (zC rfl (zA (kQ (zB rfl (zB rfl ?_)))))
 refine o_callW rfl (wpc80 J hJ f A B F hF) (.lrefl _) (fun u st1 hM=>?_)
 obtain⟨n,rfl,hn,rfl⟩:=hM
 refine o_geq rfl rfl rfl (zC rfl (zA (zc ?_)))
 refine⟨.inr rfl,_,.cons _ _ _ _ (.tmp 4) .nil,?_⟩
 exact⟨_,.refl _,congrArg U.bool hn,rfl⟩
def brkB(l:List Int)(j:Jn):Bool:= !(decide (j.alo (pL l j.one)≤pL l j.two)&&decide (pL l j.two≤j.ahi (pL l j.one)))
set_option maxHeartbeats 8000000 in
theorem ret52(hi:Off is)(l:List Int){n:Nat}(hl:l.length=n)(hp:∀y∈l,1≤y∧y≤4000){j:Jn}(hj:JV j)(h1:0≤j.one∧j.one<(n:Int))(h2:0≤j.two∧j.two<(n:Int)):RetP Try.prog is orc 52 [.lst .ro 1 (zR l),j.u] (.bool (brkB l j)):=by
 refine yI body52 pure52 (hi 52 (by decide)) rfl rfl (yu (dat_ints 6 .ro (fun h=>by cases h) 1 l) (dat_jn j 6)) (.inl (.bool _ _)) ?_
 have hy:l[j.one.toNat]? =some (l[j.one.toNat]'(by omega)):=List.getElem?_eq_getElem (by omega)
 have hz:l[j.two.toNat]? =some (l[j.two.toNat]'(by omega)):=List.getElem?_eq_getElem (by omega)
 have ey:pL l j.one=l[j.one.toNat]'(by omega):=by unfold pL;rw[hy];rfl
 have ez:pL l j.two=l[j.two.toNat]'(by omega):=by unfold pL;rw[hz];rfl
 have hyb:=hp _ (List.mem_of_getElem? hy)
 unfold brkB
 rw[ey,ez]
 generalize l[j.one.toNat]'(by omega)=y at hy hyb
 generalize l[j.two.toNat]'(by omega)=z at hz
 have q81:=ret81 (orc:=orc) hi hj hyb
 have q49:=ret49 (orc:=orc) hi (j.alo y) (j.ahi y) z
 generalize (decide (j.alo y≤z)&&decide (z≤j.ahi y))=c at q49
 refine kQ (yJ rfl rfl (zC rfl (zA ?_)))
 refine zM [(0,.lst .ro 1 (zR l)),(3,U.box 0 0)] ([SB.box [.int .i64 j.kd,.int .i64 j.one,.int .i64 j.two,.int .i64 j.lo,.int .i64 j.hi]]) (.cons rfl (.cons rfl (.nil rfl))) rfl fun fr=>?_
 refine k_seq (k_draw [.read true,.plain,.plain,.read true,.plain,.read true,.read false,.plain,.plain,.read true,.plain,.read true,.plain,.plain,.plain] (by kernel_rfl) (by kernel_rfl) (by kernel_rfl) ?_)
 refine zO rfl (zL rfl rfl rfl sh72 rfl (zA rfl)) ?_
 refine zD (zB rfl (zA rfl)) (zD (zF rfl rfl fld72_1 (zA rfl)) ?_)
 refine zO rfl (zE rfl rfl rfl sh3 rfl (zA rfl)) ?_
 refine zD (zp (u:=.int .i64 y) rfl ty75 rfl rfl (by omega) (by rw[List.getElem?_map,hy];rfl) cl3 (zA rfl)) ?_
 refine zO rfl (zX rfl rfl sh3 rfl (zA rfl)) ?_
 refine d_callR rfl (q81) (flat_span _ _) (.lrefl _) ?_
 refine zD (zB rfl (zA rfl)) (zD (zF rfl rfl fld72_2 (zA rfl)) ?_)
 refine d_genA [(11,spanU (Jn.alo j y) (Jn.ahi j y)),(12,.lst .ro 1 (zR l)),(13,U.box 0 2)] [] ([SB.box [.int .i64 j.kd,.int .i64 j.one,.int .i64 j.two,.int .i64 j.lo,.int .i64 j.hi]]) (.cons rfl (.cons rfl (.cons rfl (.nil rfl)))) rfl rfl fun fr=>?_
 refine zO rfl (zE rfl rfl rfl sh3 rfl (zA rfl)) ?_
 refine zD (zp (u:=.int .i64 z) rfl ty75 rfl rfl (by omega) (by rw[List.getElem?_map,hz];rfl) cl3 (zA rfl)) ?_
 refine zO rfl (zX rfl rfl sh3 rfl (zA rfl)) ?_
 refine zD (zS rfl (q49) (.lrefl _) (zA rfl)) ?_
 refine zD (o_not rfl rfl (zA rfl)) ?_
 refine zD (zC rfl (zA rfl)) ?_
 refine d_nil ?_
 refine zc ?_
 refine⟨.inr rfl,_,.cons _ _ _ _ (.tmp 4) .nil,?_⟩
 exact .refl _
def inB(t:Ts)(l:List Int):Bool:=(List.range l.length).all fun i:Nat=>decide (hloT t i≤pL l i)&&decide (pL l i≤hhiT t i)
set_option maxHeartbeats 8000000 in
theorem ret15(hi:Off is)(hok:TOk t)(l:List Int)(hl:l.length=t.heard.length):RetP Try.prog is orc 15 [t.u,.lst .ro 1 (zR l)] (.tup [.bool (inB t l&& !((yZ t).any (brkB l))),.int .i64 0]):=by
 have hv:=(valid_iff t).2 hok
 have q17:=ret17 (orc:=orc) hi t
 rw[hv,if_pos rfl]at q17
 have hs:=hok.sok
 have hn8:=hok.n8
 have q51:=ret51 (orc:=orc) hi hok.sh
 refine yI body15 pure15 (hi 15 (by decide)) rfl rfl (yu (dat_ts t 4) (dat_ints 6 .ro (fun h=>by cases h) 1 l)) (.inr ⟨_,rfl,yu (.bool _ _) (.int _ _ _)⟩) ?_
 refine kQ (yJ rfl rfl (zC rfl (zC rfl (zA ?_))))
 refine zM [(1,.lst .ro 1 (zR l)),(2,U.box 0 0)] ([SB.box t.cs]) (.cons rfl (.cons rfl (.nil rfl))) rfl fun fr=>?_
 refine k_seq (kQ (zL rfl rfl rfl sh28 rfl (zS rfl (q17) (.lrefl _) (zC rfl (zA (kQ (zB rfl (o_neq rfl rfl rfl ?_))))))))
 refine zA (k_cF rfl rfl ?_)
 refine zQ (k_seq (kQ (zB rfl (zw rfl ty29 rfl (List.length_map _) ?_))))
 refine zF rfl rfl zo (zE rfl rfl rfl sh22 rfl (zw rfl ty22 rfl (List.length_map _) ?_))
 refine o_neq rfl rfl rfl (zA (k_cF rfl (decide_eq_false (by omega)) (zQ (k_seq (kQ (zB rfl (zw rfl ty29 rfl (List.length_map _) ?_)))))))
 refine zB rfl (zA ?_)
 refine zM [(1,.lst .ro 1 (zR l)),(2,U.box 0 0),(20,.lst .ro 1 (zR l)),(21,.int .i64 ↑(List.length l)),(22,.int .i64 0)] ([SB.box t.cs]) (.c4 rfl rfl rfl rfl (.cons rfl (.nil rfl))) rfl fun fr=>?_
 refine zK ?_
 refine yY (fun kk s2=>∃i:Nat,kk+i=l.length∧((List.range i).all fun i:Nat=>decide (hloT t i≤pL l i)&&decide (pL l i≤hhiT t i))=true∧s2.st=[.box t.cs]∧Holds s2 [(1,.lst .ro 1 (zR l)),(2,.box 0 0),(20,.lst .ro 1 (zR l)),(21,.int .i64 l.length),(22,.int .i64 i)]) (fun kk s2 hI=>?_) l.length _ ⟨0,rfl,rfl,rfl,.c4 rfl rfl rfl rfl (.cons rfl (.nil rfl))⟩
 obtain⟨i,hki,hall,hst2,hs2⟩:=hI
 refine zM _ _ hs2 hst2 fun fr2=>?_
 by_cases hin:i<l.length
 ·obtain⟨y,hy⟩:∃y,l[i]? =some y:=⟨l[i],List.getElem?_eq_getElem hin⟩
  have hpy:pL l (i:Int)=y:=by unfold pL;rw[Int.toNat_natCast,hy];rfl
  obtain⟨q,hq,e1,e2,hqb⟩:=hs.key (v:=(i:Int)) (by omega)
  rw[Int.toNat_natCast]at hq
  have q49:=ret49 (orc:=orc) hi q.a q.b y
  generalize hc:(decide (q.a≤y)&&decide (y≤q.b))=c at q49
  cases c with
  |false=>
   have hf:inB t l=false:=by
    unfold inB
    rw[List.all_eq_false]
    exact⟨i,List.mem_range.2 hin,by rw[e1,e2,hpy,hc];simp⟩
   rw[hf]
   refine kQ (zb rfl rfl rfl (zA (k_seq (k_cT rfl (decide_eq_true (by omega)) (zQ (k_seq (zK (kQ ?_))))))))
   refine zB rfl (zp (u:=.int .i64 (y)) rfl ty29 rfl rfl (Int.natCast_nonneg _) (by simp[hy]) cl3 ?_)
   refine zX rfl rfl sh3 rfl ?_
   refine zC rfl (zC rfl (zA (kQ (zF rfl rfl zo (zE rfl rfl rfl sh22 rfl (zB rfl (zp (u:=(q).u) rfl ty22 rfl rfl (Int.natCast_nonneg _) (by simp[hq]) cl26 ?_)))))))
   refine zi rfl rfl sh26 rfl ?_
   refine zB rfl (zS rfl (q49) (.lrefl _) (o_not rfl rfl (zA ?_)))
   refine zM [(1,.lst .ro 1 (zR l)),(2,U.box 0 0),(20,.lst .ro 1 (zR l)),(21,.int .i64 ↑(List.length l)),(22,.int .i64 ↑i),(34,U.bool !Bool.false)] ([SB.box t.cs]) (.c4 rfl rfl rfl rfl (.cons rfl (.cons rfl (.nil rfl)))) rfl fun fr=>?_
   refine k_cT rfl rfl ?_
   refine kQ (zC rfl (zC rfl (zA (zc ?_))))
   refine⟨.inr rfl,_,.cons _ _ _ _ (.tmp 4) (.cons _ _ _ _ (.tmp 5) .nil),?_⟩
   exact .refl _
  |true=>
   refine kQ (zb rfl rfl rfl (zA (k_seq (k_cT rfl (decide_eq_true (by omega)) (zQ (k_seq (zK (kQ ?_))))))))
   refine zB rfl (zp (u:=.int .i64 (y)) rfl ty29 rfl rfl (Int.natCast_nonneg _) (by simp[hy]) cl3 ?_)
   refine zX rfl rfl sh3 rfl ?_
   refine zC rfl (zC rfl (zA (kQ (zF rfl rfl zo (zE rfl rfl rfl sh22 rfl (zB rfl (zp (u:=(q).u) rfl ty22 rfl rfl (Int.natCast_nonneg _) (by simp[hq]) cl26 ?_)))))))
   refine zi rfl rfl sh26 rfl ?_
   refine zB rfl (zS rfl (q49) (.lrefl _) (o_not rfl rfl (zA ?_)))
   refine zM [(1,.lst .ro 1 (zR l)),(2,U.box 0 0),(20,.lst .ro 1 (zR l)),(21,.int .i64 ↑(List.length l)),(22,.int .i64 ↑i),(34,U.bool !Bool.true)] ([SB.box t.cs]) (.c4 rfl rfl rfl rfl (.cons rfl (.cons rfl (.nil rfl)))) rfl fun fr=>?_
   refine k_cF rfl rfl ?_
   refine zQ (k_region ?_)
   refine yT rfl rfl rfl (by unfold I64;omega) (zB rfl (zA ?_))
   exact⟨kk - 1,by omega,i+1,by omega,by rw[List.range_succ,List.all_append,hall];simp only[List.all_cons,List.all_nil,Bool.and_true,Bool.true_and];rw[e1,e2,hpy,hc],rfl,.c4 rfl rfl rfl rfl (.cons rfl (.nil rfl))⟩
 ·have hiN:i=l.length:=by omega
  subst hiN
  have hf:inB t l=true:=hall
  have hjo:=joins_ok hn8 (by have:=hv;unfold yr at this;simp only[Bool.and_eq_true]at this;exact this.2.1) (by have:=hv;unfold yr at this;simp only[Bool.and_eq_true]at this;exact this.2.2.1) (by have:=hv;unfold yr at this;simp only[Bool.and_eq_true]at this;exact this.2.2.2.1)
  have hp:∀y∈l,1≤y∧y≤4000:=fun y hy=>by
   obtain⟨k,hk,e⟩:=List.getElem_of_mem hy
   have h1:=List.all_eq_true.1 hf k (List.mem_range.2 hk)
   simp only[Bool.and_eq_true,decide_eq_true_eq]at h1
   have hpy:pL l (k:Int)=y:=by unfold pL;rw[Int.toNat_natCast,List.getElem?_eq_getElem hk,e];rfl
   rw[hpy]at h1
   exact in_pos hs (by omega) h1
  have hlen:=joins_len hok.sh
  have hw:=wpc50 (is:=is) (orc:=orc) (st:=[.box t.cs]) (yZ t) (by omega) 52 [.lst .ro 1 (zR l)] [] (brkB l) (fun j hj=>ret52 hi l hl hp (hjo j hj).1 (hjo j hj).2.1 (hjo j hj).2.2)
  rw[hf,Bool.true_and]
  refine kQ (zb rfl rfl rfl (zA (k_seq (k_cF rfl (decide_eq_false (by omega)) (yO (kQ (zL rfl rfl rfl sh28 rfl (zS rfl (q51) (.lrefl _) ?_))))))))
  refine zB rfl ?_
  refine o_func rfl ?_
  (refine o_callW rfl hw (.lrefl _) (fun u st1 hM=>?_);obtain⟨rfl,rfl⟩:=hM)
  refine o_not rfl rfl (zC rfl (zC rfl (zA (zc ?_))))
  refine⟨.inr rfl,_,.cons _ _ _ _ (.tmp 4) (.cons _ _ _ _ (.tmp 5) .nil),?_⟩
  exact .refl _
end
section
variable {is:FuncId→Bool}{orc:Known}
theorem cl111:Program.cellsOf Try.prog 111=2:=by kernel_rfl
theorem pl119:plcOf Try.prog 119=some [(0,2),(2,2)]:=by kernel_rfl
theorem ty119:tyOf Try.prog 119=.array 2 111:=by kernel_rfl
theorem ze119:yR Try.prog 119=some ((.cons .nilf (.cons (.int .i64 0) (.cons .nilf (.cons (.int .i64 0) .nil)))):V):=by kernel_rfl
noncomputable def b73:Code:=(Try.f73.body).getD .skip
theorem body73:bodyOf Try.prog 73=some (49,b73,[.tmp 4]):=by kernel_rfl
theorem pure73:pureFn Try.prog 73=true:=by kernel_rfl
variable {t:Ts}{J:List Jn}{v x:Int}{st:List SB}
def endT(t:Ts)(s:Bool)(v:Int):Int:=pI s (hloT t v) (hhiT t v) 0
def mayC(t:Ts)(j:Jn)(s w:Bool):Bool:=decide (j.alo (endT t s j.one)≤endT t w j.two)&&decide (endT t w j.two≤j.ahi (endT t s j.one))
def sdB(i:Nat):Bool:=decide (i=1)
def mayR(t:Ts)(j:Jn)(s:Bool)(n:Nat):Bool:=(List.range n).any fun i=> !(mayC t j s (sdB i))
def mayB(t:Ts)(j:Jn):Bool:=(List.range 2).any fun i=>mayR t j (sdB i) 2
theorem o_idxNW{P:Program}{is:FuncId→Bool}{orc:Known}{sg:St}{all l:List Oper}{d:Nat}{x y:Operand}{xt t el:TypeId}{p:String}{e:Array Edge}{Q:St→Prop}{cs us:List U}{n c:Nat}{ki:IntKind}{i:Nat}(hd:Nat.blt d 1024=true)(ht:tyOf P xt=.array n el)(hx:zT sg x=.agg cs)(hi:zT sg y=.int ki (i:Int))(he:i<n)
  (hc:P.cellsOf el=c) (hsh:shOf P el=.many c) (hu:i*c+c≤cs.length) (hw:(cs.drop (i*c)).take c=us) (k:WpO P is orc all l (sg.put d (.agg us)) Q):WpO P is orc all (⟨some d,.index xt x y,t,p,e,none⟩::l) sg Q:=by
 subst hw
 exact o_idxN hd ht hx hi he hc hsh hu k
theorem side_at{i:Nat}(h:i<2):(([.fn 107 [] [],.int .i64 1,.fn 108 [] [],.int .i64 (-1)]:List U).drop (i*2)).take 2=[.fn (sdF (sdB i)) [] [],.int .i64 (sdI (sdB i))]:=by
 match i,h with
 |0,_=>rfl
 |1,_=>rfl
theorem endT_b(h:SOk t J)(s:Bool)(hv:Key t v):1≤endT t s v∧endT t s v≤4000:=by
 obtain⟨q,_,e1,e2,hqb⟩:=h.key hv
 unfold endT pI
 rw[e1,e2]
 cases s<;>simp only<;>omega
set_option maxHeartbeats 8000000 in
theorem ret73(hi:Off is)(h:SOk t J){j:Jn}(hj:JV j)(h1:Key t j.one)(h2:Key t j.two):RetP Try.prog is orc 73 [.agg (setC t J),j.u] (.bool (mayB t j)):=by
 obtain⟨q,hq,e1,e2,hqb⟩:=h.key h1
 obtain⟨r,hr,e3,e4,hrb⟩:=h.key h2
 have h10:=h1.1
 have h11:=h1.2
 have h20:=h2.1
 have h21:=h2.2
 refine yI body73 pure73 (hi 73 (by decide)) rfl rfl (yu (dat_set t J 4) (dat_jn j 6)) (.inl (.bool _ _)) ?_
 refine kQ (yJ rfl rfl (yJ rfl rfl (zC rfl (zA ?_))))
 refine zM [(2,U.box 0 0),(3,U.box 1 0)] ([SB.box [.lst .ro 2 (yD t.heard),.lst .ro 2 (sclsU t.scales),.lst .ro 2 (yD t.pairs),.int .i64 t.lo,.int .i64 t.hi,.lst .ro 5 (jnsU J)],SB.box [.int .i64 j.kd,.int .i64 j.one,.int .i64 j.two,.int .i64 j.lo,.int .i64 j.hi]]) (.cons rfl (.cons rfl (.nil rfl))) rfl fun fr=>?_
 refine k_seq (kQ (zS rfl (ret89 hi) (.lrefl _) ?_))
 refine zS rfl (ret90 hi) (.lrefl _) ?_
 refine yk rfl ze119 pl119 rfl rfl ?_
 refine zB rfl (zA (zK ?_))
 obtain⟨V,hV⟩:∃V:List SB,V=[.box (setC t J),.box [.int .i64 j.kd,.int .i64 j.one,.int .i64 j.two,.int .i64 j.lo,.int .i64 j.hi]]:=⟨_,rfl⟩
 have v0:V[0]? =some (.box (setC t J)):=by rw[hV];rfl
 have v1:V[1]? =some (.box [.int .i64 j.kd,.int .i64 j.one,.int .i64 j.two,.int .i64 j.lo,.int .i64 j.hi]):=by rw[hV];rfl
 refine yY (fun kk s2=>∃i:Nat,kk+i=2∧((List.range i).any fun i=>mayR t j (sdB i) 2)=false∧(∃e,s2.st=V++e)∧Holds s2 [(2,.box 0 0),(3,.box 1 0),(12,.agg [.fn 107 [] [],.int .i64 1,.fn 108 [] [],.int .i64 (-1)]),(13,.int .i64 i)]) (fun kk s2 hI=>?_) 2 _ ⟨0,rfl,rfl,⟨[],by rw[hV];rfl⟩,.c4 rfl rfl rfl rfl (.nil rfl)⟩
 obtain⟨i,hki,hno,⟨e,hst2⟩,hs2⟩:=hI
 generalize hY:V++e=Y at hst2
 have y0:Y[0]? =some (.box (setC t J)):=by rw[←hY];exact za v0
 have y1:Y[1]? =some (.box [.int .i64 j.kd,.int .i64 j.one,.int .i64 j.two,.int .i64 j.lo,.int .i64 j.hi]):=by rw[←hY];exact za v1
 refine zM _ _ hs2 hst2 fun fr2=>?_
 by_cases hin:i<2
 ·have hsd:=side_at hin
  obtain⟨s,hs⟩:∃s,s=sdB i:=⟨_,rfl⟩
  rw[←hs]at hsd
  have qs:=retSd (orc:=orc) hi s q.a q.b
  have hex:pI s q.a q.b 0=endT t s j.one:=by unfold endT;rw[e1,e2]
  rw[hex]at qs
  have q81:=ret81 (orc:=orc) hi hj (endT_b h s h1)
  refine kQ (zb rfl rfl rfl (zA (k_seq (k_cT rfl (decide_eq_true (by omega)) (zQ (k_seq (zK (kQ ?_))))))))
  refine o_idxNW (i:=i) rfl ty119 rfl rfl hin cl111 sh111 (by show i*2+2≤4;omega) hsd ?_
  refine zd rfl ze111 ?_
  refine zV rfl (zU _ _) sh111 rfl rfl rfl rfl rfl ?_
  refine zA ?_
  refine zM [(2,U.box 0 0),(3,U.box 1 0),(6,U.box (List.length Y) 0),(12,U.agg [U.fn 107 [] [],.int .i64 1,U.fn 108 [] [],.int .i64 (-1:Int)]),(13,.int .i64 ↑i)] (Y++[SB.box [U.fn (sdF s) [] [],.int .i64 (sdI s)]]) (.c4 rfl rfl rfl rfl (.cons rfl (.nil rfl))) (zr _ _ _) fun fr=>?_
  refine k_seq (k_draw [.read true,.plain,.read true,.plain,.plain,.read true,.plain,.read true,.plain,.read true,.quiet,.read false,.pre,.plain] (by kernel_rfl) (by kernel_rfl) (by kernel_rfl) ?_)
  refine zO rfl (zL rfl rfl (za y1) sh72 rfl (zA rfl)) ?_
  refine zD (zF rfl rfl fld111_0 (zA rfl)) ?_
  refine zO rfl (zE rfl rfl (zU _ _) sh109 rfl (zA rfl)) ?_
  refine zD (zF rfl rfl fld84_0 (zA rfl)) ?_
  refine zD (zF rfl rfl zo (zA rfl)) ?_
  refine zO rfl (zE rfl rfl (za y0) sh22 rfl (zA rfl)) ?_
  refine zD (zF rfl rfl fld72_1 (zA rfl)) ?_
  refine zO rfl (zE rfl rfl (za y1) sh3 rfl (zA rfl)) ?_
  refine zD (zp (u:=(q).u) rfl ty22 rfl rfl (by omega) (by simp[hq]) cl26 (zA rfl)) ?_
  refine d_genA [(2,U.box 0 0),(3,U.box 1 0),(12,U.agg [U.fn 107 [] [],.int .i64 1,U.fn 108 [] [],.int .i64 (-1:Int)]),(13,.int .i64 ↑i),(16,U.agg [.int .i64 j.kd,.int .i64 j.one,.int .i64 j.two,.int .i64 j.lo,.int .i64 j.hi]),(18,U.fn (sdF s) [] []),(24,U.eref [.int .i64 q.a,.int .i64 q.b] 0)] [] (Y++[SB.box [U.fn (sdF s) [] [],.int .i64 (sdI s)]]) (.c4 rfl rfl rfl rfl (.cons rfl (.cons rfl (.cons rfl (.nil rfl))))) rfl rfl fun fr=>?_
  refine zO rfl (zi rfl rfl sh26 rfl (zA rfl)) ?_
  refine d_callVQ rfl rfl qs (.lrefl _) ?_
  refine d_callR rfl (q81) (flat_span _ _) (.lrefl _) ?_
  refine d_pre rfl ze26 ?_
  refine zD (zV rfl (zU _ _) sh26 rfl rfl rfl rfl rfl (zA rfl)) ?_
  refine d_nil ?_
  refine zM [(2,U.box 0 0),(3,U.box 1 0),(7,U.box (List.length (Y++[SB.box [U.fn (sdF s) [] [],.int .i64 (sdI s)]])) 0),(12,U.agg [U.fn 107 [] [],.int .i64 1,U.fn 108 [] [],.int .i64 (-1:Int)]),(13,.int .i64 ↑i)] (Y++[SB.box [U.fn (sdF s) [] [],.int .i64 (sdI s)]]++[SB.box [.int .i64 (Jn.alo j (endT t s j.one)),.int .i64 (Jn.ahi j (endT t s j.one))]]) (.c4 rfl rfl rfl rfl (.cons rfl (.nil rfl))) (zr _ _ _) fun fr=>?_
  refine kQ (zS rfl (ret89 hi) (.lrefl _) ?_)
  refine zS rfl (ret90 hi) (.lrefl _) ?_
  refine yk rfl ze119 pl119 rfl rfl ?_
  refine zB rfl (zA (zK ?_))
  obtain⟨Z,hZ⟩:∃Z:List SB,Z=Y++[SB.box [.fn (sdF s) [] [],.int .i64 (sdI s)]]++[SB.box [.int .i64 (j.alo (endT t s j.one)),.int .i64 (j.ahi (endT t s j.one))]]:=⟨_,rfl⟩
  obtain⟨k7,hk7⟩:∃k7,k7=(Y++[SB.box [.fn (sdF s) [] [],.int .i64 (sdI s)]]).length:=⟨_,rfl⟩
  have z0:Z[0]? =some (.box (setC t J)):=by rw[hZ];exact za (za y0)
  have z1:Z[1]? =some (.box [.int .i64 j.kd,.int .i64 j.one,.int .i64 j.two,.int .i64 j.lo,.int .i64 j.hi]):=by rw[hZ];exact za (za y1)
  have z7:Z[k7]? =some (.box [.int .i64 (j.alo (endT t s j.one)),.int .i64 (j.ahi (endT t s j.one))]):=by rw[hZ,hk7];exact zU _ _
  refine yY (fun k3 s3=>∃m:Nat,k3+m=2∧mayR t j s m=false∧(∃e,s3.st=Z++e)∧Holds s3 [(2,.box 0 0),(3,.box 1 0),(7,.box k7 0),(12,.agg [.fn 107 [] [],.int .i64 1,.fn 108 [] [],.int .i64 (-1)]),(13,.int .i64 i),(30,.agg [.fn 107 [] [],.int .i64 1,.fn 108 [] [],.int .i64 (-1)]),(31,.int .i64 m)]) (fun k3 s3 hI3=>?_) 2 _ ⟨0,rfl,rfl,⟨[],by rw[hZ,List.append_nil];rfl⟩,.cons rfl (.cons rfl (.cons (by rw[hk7];rfl) (.c4 rfl rfl rfl rfl (.nil rfl))))⟩
  obtain⟨m,hkm,hno3,⟨ex,hst3⟩,hs3⟩:=hI3
  generalize hX:Z++ex=X at hst3
  have x0:X[0]? =some (.box (setC t J)):=by rw[←hX];exact za z0
  have x1:X[1]? =some (.box [.int .i64 j.kd,.int .i64 j.one,.int .i64 j.two,.int .i64 j.lo,.int .i64 j.hi]):=by rw[←hX];exact za z1
  have x7:X[k7]? =some (.box [.int .i64 (j.alo (endT t s j.one)),.int .i64 (j.ahi (endT t s j.one))]):=by rw[←hX];exact za z7
  refine zM _ _ hs3 hst3 fun fr3=>?_
  by_cases hm:m<2
  ·have hsd2:=side_at hm
   obtain⟨w,hw⟩:∃w,w=sdB m:=⟨_,rfl⟩
   rw[←hw]at hsd2
   have qw:=retSd (orc:=orc) hi w r.a r.b
   have hew:pI w r.a r.b 0=endT t w j.two:=by unfold endT;rw[e3,e4]
   rw[hew]at qw
   have q49:=ret49 (orc:=orc) hi (j.alo (endT t s j.one)) (j.ahi (endT t s j.one)) (endT t w j.two)
   generalize hc:(decide (j.alo (endT t s j.one)≤endT t w j.two)&&decide (endT t w j.two≤j.ahi (endT t s j.one)))=c at q49
   cases c with
   |false=>
    have hf:mayB t j=true:=by
     unfold mayB
     refine List.any_eq_true.2 ⟨i,List.mem_range.2 hin,?_⟩
     unfold mayR
     exact List.any_eq_true.2 ⟨m,List.mem_range.2 hm,by rw[←hs,←hw];unfold mayC;rw[hc];rfl⟩
    rw[hf]
    refine kQ (zb rfl rfl rfl (zA (k_seq (k_cT rfl (decide_eq_true (by omega)) (zQ (k_seq (zK (kQ ?_))))))))
    refine o_idxNW (i:=m) rfl ty119 rfl rfl hm cl111 sh111 (by show m*2+2≤4;omega) hsd2 ?_
    refine zd rfl ze111 ?_
    refine zV rfl (zU _ _) sh111 rfl rfl rfl rfl rfl ?_
    refine zA ?_
    refine zM [(2,U.box 0 0),(3,U.box 1 0),(7,U.box k7 0),(9,U.box (List.length X) 0),(12,U.agg [U.fn 107 [] [],.int .i64 1,U.fn 108 [] [],.int .i64 (-1:Int)]),(13,.int .i64 ↑i),(30,U.agg [U.fn 107 [] [],.int .i64 1,U.fn 108 [] [],.int .i64 (-1:Int)]),(31,.int .i64 ↑m)] (X++[SB.box [U.fn (sdF w) [] [],.int .i64 (sdI w)]]) (.c4 rfl rfl rfl rfl (.c4 rfl rfl rfl rfl (.nil rfl))) (zr _ _ _) fun fr=>?_
    refine k_seq (k_draw [.read true,.plain,.read true,.plain,.plain,.read true,.plain,.read true,.plain,.read true,.quiet,.plain,.plain] (by kernel_rfl) (by kernel_rfl) (by kernel_rfl) ?_)
    refine zO rfl (zL rfl rfl (za x7) sh26 rfl (zA rfl)) ?_
    refine zD (zF rfl rfl fld111_0 (zA rfl)) ?_
    refine zO rfl (zE rfl rfl (zU _ _) sh109 rfl (zA rfl)) ?_
    refine zD (zF rfl rfl fld84_0 (zA rfl)) ?_
    refine zD (zF rfl rfl zo (zA rfl)) ?_
    refine zO rfl (zE rfl rfl (za x0) sh22 rfl (zA rfl)) ?_
    refine zD (zF rfl rfl fld72_2 (zA rfl)) ?_
    refine zO rfl (zE rfl rfl (za x1) sh3 rfl (zA rfl)) ?_
    refine zD (zp (u:=r.u) rfl ty22 rfl rfl (by omega) (by rw[List.getElem?_map,hr];rfl) cl26 (zA rfl)) ?_
    refine d_genA [(2,U.box 0 0),(3,U.box 1 0),(7,U.box k7 0),(12,U.agg [U.fn 107 [] [],.int .i64 1,U.fn 108 [] [],.int .i64 (-1:Int)]),(13,.int .i64 ↑i),(30,U.agg [U.fn 107 [] [],.int .i64 1,U.fn 108 [] [],.int .i64 (-1:Int)]),(31,.int .i64 ↑m),(34,U.agg [.int .i64 (Jn.alo j (endT t s j.one)),.int .i64 (Jn.ahi j (endT t s j.one))]),(36,U.fn (sdF w) [] []),(42,U.eref [.int .i64 r.a,.int .i64 r.b] 0)] [] (X++[SB.box [U.fn (sdF w) [] [],.int .i64 (sdI w)]]) (.c4 rfl rfl rfl rfl (.c4 rfl rfl rfl rfl (.cons rfl (.cons rfl (.nil rfl))))) rfl rfl fun fr=>?_
    refine zO rfl (zi rfl rfl sh26 rfl (zA rfl)) ?_
    refine d_callVQ rfl rfl qw (.lrefl _) ?_
    refine zD (zS rfl (q49) (.lrefl _) (zA rfl)) ?_
    refine zD (o_not rfl rfl (zA rfl)) ?_
    refine d_nil ?_
    refine zM [(2,U.box 0 0),(3,U.box 1 0),(7,U.box k7 0),(12,U.agg [U.fn 107 [] [],.int .i64 1,U.fn 108 [] [],.int .i64 (-1:Int)]),(13,.int .i64 ↑i),(30,U.agg [U.fn 107 [] [],.int .i64 1,U.fn 108 [] [],.int .i64 (-1:Int)]),(31,.int .i64 ↑m),(46,U.bool !Bool.false)] (X++[SB.box [U.fn (sdF w) [] [],.int .i64 (sdI w)]]) (.c4 rfl rfl rfl rfl (.c4 rfl rfl rfl rfl (.nil rfl))) rfl fun fr=>?_
    refine k_cT rfl rfl ?_
    refine kQ (zC rfl (zA (zc ?_)))
    refine⟨.inr rfl,_,.cons _ _ _ _ (.tmp 4) .nil,?_⟩
    exact .refl _
   |true=>
    refine kQ (zb rfl rfl rfl (zA (k_seq (k_cT rfl (decide_eq_true (by omega)) (zQ (k_seq (zK (kQ ?_))))))))
    refine o_idxNW (i:=m) rfl ty119 rfl rfl hm cl111 sh111 (by show m*2+2≤4;omega) hsd2 ?_
    refine zd rfl ze111 ?_
    refine zV rfl (zU _ _) sh111 rfl rfl rfl rfl rfl ?_
    refine zA ?_
    refine zM [(2,U.box 0 0),(3,U.box 1 0),(7,U.box k7 0),(9,U.box (List.length X) 0),(12,U.agg [U.fn 107 [] [],.int .i64 1,U.fn 108 [] [],.int .i64 (-1:Int)]),(13,.int .i64 ↑i),(30,U.agg [U.fn 107 [] [],.int .i64 1,U.fn 108 [] [],.int .i64 (-1:Int)]),(31,.int .i64 ↑m)] (X++[SB.box [U.fn (sdF w) [] [],.int .i64 (sdI w)]]) (.c4 rfl rfl rfl rfl (.c4 rfl rfl rfl rfl (.nil rfl))) (zr _ _ _) fun fr=>?_
    refine k_seq (k_draw [.read true,.plain,.read true,.plain,.plain,.read true,.plain,.read true,.plain,.read true,.quiet,.plain,.plain] (by kernel_rfl) (by kernel_rfl) (by kernel_rfl) ?_)
    refine zO rfl (zL rfl rfl (za x7) sh26 rfl (zA rfl)) ?_
    refine zD (zF rfl rfl fld111_0 (zA rfl)) ?_
    refine zO rfl (zE rfl rfl (zU _ _) sh109 rfl (zA rfl)) ?_
    refine zD (zF rfl rfl fld84_0 (zA rfl)) ?_
    refine zD (zF rfl rfl zo (zA rfl)) ?_
    refine zO rfl (zE rfl rfl (za x0) sh22 rfl (zA rfl)) ?_
    refine zD (zF rfl rfl fld72_2 (zA rfl)) ?_
    refine zO rfl (zE rfl rfl (za x1) sh3 rfl (zA rfl)) ?_
    refine zD (zp (u:=r.u) rfl ty22 rfl rfl (by omega) (by rw[List.getElem?_map,hr];rfl) cl26 (zA rfl)) ?_
    refine d_genA [(2,U.box 0 0),(3,U.box 1 0),(7,U.box k7 0),(12,U.agg [U.fn 107 [] [],.int .i64 1,U.fn 108 [] [],.int .i64 (-1:Int)]),(13,.int .i64 ↑i),(30,U.agg [U.fn 107 [] [],.int .i64 1,U.fn 108 [] [],.int .i64 (-1:Int)]),(31,.int .i64 ↑m),(34,U.agg [.int .i64 (Jn.alo j (endT t s j.one)),.int .i64 (Jn.ahi j (endT t s j.one))]),(36,U.fn (sdF w) [] []),(42,U.eref [.int .i64 r.a,.int .i64 r.b] 0)] [] (X++[SB.box [U.fn (sdF w) [] [],.int .i64 (sdI w)]]) (.c4 rfl rfl rfl rfl (.c4 rfl rfl rfl rfl (.cons rfl (.cons rfl (.nil rfl))))) rfl rfl fun fr=>?_
    refine zO rfl (zi rfl rfl sh26 rfl (zA rfl)) ?_
    refine d_callVQ rfl rfl qw (.lrefl _) ?_
    refine zD (zS rfl (q49) (.lrefl _) (zA rfl)) ?_
    refine zD (o_not rfl rfl (zA rfl)) ?_
    refine d_nil ?_
    refine zM [(2,U.box 0 0),(3,U.box 1 0),(7,U.box k7 0),(12,U.agg [U.fn 107 [] [],.int .i64 1,U.fn 108 [] [],.int .i64 (-1:Int)]),(13,.int .i64 ↑i),(30,U.agg [U.fn 107 [] [],.int .i64 1,U.fn 108 [] [],.int .i64 (-1:Int)]),(31,.int .i64 ↑m),(46,U.bool !Bool.true)] (X++[SB.box [U.fn (sdF w) [] [],.int .i64 (sdI w)]]) (.c4 rfl rfl rfl rfl (.c4 rfl rfl rfl rfl (.nil rfl))) rfl fun fr=>?_
    refine k_cF rfl rfl ?_
    refine zQ (k_region ?_)
    refine yT rfl rfl rfl (by unfold I64;omega) (zB rfl (zA ?_))
    exact⟨k3 - 1,by omega,m+1,by omega,by unfold mayR at hno3 ⊢;rw[List.range_succ,List.any_append,hno3];simp only[List.any_cons,List.any_nil,Bool.or_false,Bool.false_or];rw[←hw];unfold mayC;rw[hc];rfl,⟨_,by show X++[_]=_;rw[←hX,List.append_assoc]⟩,.c4 rfl rfl rfl rfl (.cons rfl (.cons rfl (.cons rfl (.nil rfl))))⟩
  ·have hmN:m=2:=by omega
   subst hmN
   refine kQ (zb rfl rfl rfl (zA (k_seq (k_cF rfl rfl ?_))))
   refine yO (k_region ?_)
   refine yT rfl rfl rfl (by unfold I64;omega) (zB rfl (zA ?_))
   exact⟨kk - 1,by omega,i+1,by omega,by rw[List.range_succ,List.any_append,hno];simp only[List.any_cons,List.any_nil,Bool.or_false,Bool.false_or];rw[←hs];exact hno3,⟨e++([SB.box [.fn (sdF s) [] [],.int .i64 (sdI s)]]++([SB.box [.int .i64 (j.alo (endT t s j.one)),.int .i64 (j.ahi (endT t s j.one))]]++ex)),by show X=_;rw[←hX,hZ,←hY];simp only[List.append_assoc]⟩,.c4 rfl rfl rfl rfl (.nil rfl)⟩
 ·have hiN:i=2:=by omega
  subst hiN
  have hm:mayB t j=false:=hno
  rw[hm]
  refine kQ (zb rfl rfl rfl (zA (k_seq (k_cF rfl rfl ?_))))
  refine yO (kQ (zC rfl (zA (zc ?_))))
  refine⟨.inr rfl,_,.cons _ _ _ _ (.tmp 4) .nil,?_⟩
  exact .refl _
end
end Go.Proofs.Ytinhcdijbcamaaa.tuneSure
