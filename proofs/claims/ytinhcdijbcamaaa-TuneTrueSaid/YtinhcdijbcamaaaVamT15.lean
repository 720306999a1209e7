import Derived.Test.YtinhcdijbcamaaaVamT14
set_option linter.unusedVariables false
set_option linter.unusedSimpArgs false
set_option linter.constructorNameAsVariable false
namespace Go.Proofs.Ytinhcdijbcamaaa.tuneTrue
open Vam
section
variable {is:FuncId→Bool}{orc:Known}
noncomputable def b80:Code:=(Try.f80.body).getD .skip
theorem body80:bodyOf Try.prog 80=some (19,b80,[.tmp 4]):=by kernel_rfl
theorem pure80:pureFn Try.prog 80=false:=by kernel_rfl
noncomputable def b50:Code:=(Try.f50.body).getD .skip
theorem body50:bodyOf Try.prog 50=some (9,b50,[.tmp 4]):=by kernel_rfl
theorem pure50:pureFn Try.prog 50=false:=by kernel_rfl
noncomputable def b52:Code:=(Try.f52.body).getD .skip
theorem body52:bodyOf Try.prog 52=some (19,b52,[.tmp 4]):=by kernel_rfl
theorem pure52:pureFn Try.prog 52=true:=by kernel_rfl
noncomputable def b15:Code:=(Try.f15.body).getD .skip
theorem body15:bodyOf Try.prog 15=some (42,b15,[.tmp 4,.tmp 5]):=by kernel_rfl
theorem pure15:pureFn Try.prog 15=true:=by kernel_rfl
variable {t:Ts}{J:List Jn}{v x:Int}{st:List SB}
set_option maxHeartbeats 8000000 in
theorem wpc80(J:List Jn)(hJ:J.length≤64)(f:Nat)(A B:List U)(F:Jn→Bool)(hF:∀j∈J,RetP Try.prog is orc f (A++([j.u]++B)) (.bool (F j))):WpC Try.prog is orc 80 [.lst .ro 5 (jnsU J),.fn f A B] st fun u st'=>∃n:Int,u=.int .i64 n∧decide (0≤n)=J.any F∧st'=st:=by
 refine zGP body80 pure80 rfl rfl ?_
 refine kQ (zC rfl (zA (k_seq (kQ (zB rfl (zw rfl ty70 rfl (List.length_map _) ?_))))))
 refine zB rfl (zA (zN ?_))
 refine yg (fun kk s2=>∃i:Nat,kk+i=J.length∧(J.take i).any F=false∧s2.st=st∧Holds s2 [(0,.lst .ro 5 (jnsU J)),(1,.fn f A B),(7,.int .i64 J.length),(8,.int .i64 i)]) (fun kk s2 hI=>?_) J.length _ ⟨0,rfl,rfl,rfl,.c4 rfl rfl rfl rfl (.nil rfl)⟩
 obtain⟨i,hki,hno,hst2,hs2⟩:=hI
 refine zK _ _ hs2 hst2 fun fr2=>?_
 by_cases hin:i<J.length
 ·obtain⟨j,hj⟩:∃j,J[i]? =some j:=⟨J[i],List.getElem?_eq_getElem hin⟩
  have hjm:=List.mem_of_getElem? hj
  have hf:=hF j hjm
  cases hc:F j with
  |true=>
   rw[hc]at hf
   refine kQ (zf rfl rfl rfl (zA (k_seq (k_cT rfl (decide_eq_true (by omega)) (zQ (k_seq (zN (kQ ?_))))))))
   refine zB rfl (zC rfl (zA (kQ (zB rfl (zB rfl (zB rfl (zq (u:=(j).u) rfl ty70 rfl rfl (Int.natCast_nonneg _) (by simp[hj]) cl72 ?_)))))))
   refine zo rfl rfl sh72 rfl ?_
   refine zGE rfl rfl hf (.lrefl _) ?_
   refine zA (k_cT rfl rfl ?_)
   refine kQ (zB rfl (zC rfl (zA (zb ?_))))
   refine⟨.inr rfl,_,.cons _ _ _ _ (.tmp 4) .nil,?_⟩
   exact⟨_,.refl _,(i:Int),rfl,by rw[decide_eq_true (Int.natCast_nonneg _),List.any_eq_true.2 ⟨j,hjm,hc⟩],rfl⟩
  |false=>
   rw[hc]at hf
   refine kQ (zf rfl rfl rfl (zA (k_seq (k_cT rfl (decide_eq_true (by omega)) (zQ (k_seq (zN (kQ ?_))))))))
   refine zB rfl (zC rfl (zA (kQ (zB rfl (zB rfl (zB rfl (zq (u:=(j).u) rfl ty70 rfl rfl (Int.natCast_nonneg _) (by simp[hj]) cl72 ?_)))))))
   refine zo rfl rfl sh72 rfl ?_
   refine zGE rfl rfl hf (.lrefl _) ?_
   refine zA (k_cF rfl rfl ?_)
   refine zQ (k_region ?_)
   refine yT rfl rfl rfl (by unfold I64;omega) (zB rfl (zA ?_))
   exact⟨kk - 1,by omega,i+1,by omega,by rw[List.take_add_one,hj,List.any_append,hno];simp[hc],rfl,.c4 rfl rfl rfl rfl (.nil rfl)⟩
 ·have hiN:i=J.length:=by omega
  subst hiN
  rw[List.take_length]at hno
  refine kQ (zf rfl rfl rfl (zA (k_seq (k_cF rfl (decide_eq_false (by omega)) (yO (kQ (zC rfl (zA ?_))))))))
  refine zb ?_
  refine⟨.inr rfl,_,.cons _ _ _ _ (.tmp 4) .nil,?_⟩
  exact⟨_,.refl _, -1,rfl,by rw[hno];rfl,rfl⟩
theorem wpc50(J:List Jn)(hJ:J.length≤64)(f:Nat)(A B:List U)(F:Jn→Bool)(hF:∀j∈J,RetP Try.prog is orc f (A++([j.u]++B)) (.bool (F j))):WpC Try.prog is orc 50 [.lst .ro 5 (jnsU J),.fn f A B] st fun u st'=>u=.bool (J.any F)∧st'=st:=by
 refine zGP body50 pure50 rfl rfl ?_
 refine kQ (zC rfl (zA (kQ (zB rfl (zB rfl ?_)))))
 refine zCY rfl (wpc80 J hJ f A B F hF) (.lrefl _) (fun u st1 hM=>?_)
 obtain⟨n,rfl,hn,rfl⟩:=hM
 refine o_geq rfl rfl rfl (zC rfl (zA (zb ?_)))
 refine⟨.inr rfl,_,.cons _ _ _ _ (.tmp 4) .nil,?_⟩
 exact⟨_,.refl _,congrArg U.bool hn,rfl⟩
def brkB(l:List Int)(j:Jn):Bool:= !(decide (j.alo (pL l j.one)≤pL l j.two)&&decide (pL l j.two≤j.ahi (pL l j.one)))
set_option maxHeartbeats 8000000 in
theorem ret52(hi:Off is)(l:List Int){n:Nat}(hl:l.length=n)(hp:∀y∈l,1≤y∧y≤4000){j:Jn}(hj:JV j)(h1:0≤j.one∧j.one<(n:Int))(h2:0≤j.two∧j.two<(n:Int)):RetP Try.prog is orc 52 [.lst .ro 1 (zO l),j.u] (.bool (brkB l j)):=by
 refine yE body52 pure52 (hi 52 (by decide)) rfl rfl (yZ (wT 6 .ro (fun h=>by cases h) 1 l) (zEj j 6)) (.inl (.bool _ _)) ?_
 have hy:l[j.one.toNat]? =some (l[j.one.toNat]'(by omega)):=List.getElem?_eq_getElem (by omega)
 have hz:l[j.two.toNat]? =some (l[j.two.toNat]'(by omega)):=List.getElem?_eq_getElem (by omega)
 have ey:pL l j.one=l[j.one.toNat]'(by omega):=by unfold pL;rw[hy];rfl
 have ez:pL l j.two=l[j.two.toNat]'(by omega):=by unfold pL;rw[hz];rfl
 have hyb:=hp _ (List.mem_of_getElem? hy)
 unfold brkB
 rw[ey,ez]
 generalize l[j.one.toNat]'(by omega)=y at hy hyb
 generalize l[j.two.toNat]'(by omega)=z at hz
 have q81:=ret81 (orc:=orc) hi hj hyb
 have q49:=ret49 (orc:=orc) hi (j.alo y) (j.ahi y) z
 generalize (decide (j.alo y≤z)&&decide (z≤j.ahi y))=c at q49
 refine kQ (yA rfl rfl (zC rfl (zA ?_)))
 refine zK [(0,.lst .ro 1 (zO l)),(3,U.box 0 0)] ([SB.box [.int .i64 j.kd,.int .i64 j.one,.int .i64 j.two,.int .i64 j.lo,.int .i64 j.hi]]) (.cons rfl (.cons rfl (.nil rfl))) rfl fun fr=>?_
 refine k_seq (yr [.read true,.plain,.plain,.read true,.plain,.read true,.read false,.plain,.plain,.read true,.plain,.read true,.plain,.plain,.plain] (by kernel_rfl) (by kernel_rfl) (by kernel_rfl) ?_)
 refine zS rfl (zH rfl rfl rfl sh72 rfl (zA rfl)) ?_
 refine zD (zB rfl (zA rfl)) (zD (zE rfl rfl zDO (zA rfl)) ?_)
 refine zS rfl (zF rfl rfl rfl sh3 rfl (zA rfl)) ?_
 refine zD (zq (u:=.int .i64 y) rfl ty75 rfl rfl (by omega) (by rw[List.getElem?_map,hy];rfl) cl3 (zA rfl)) ?_
 refine zS rfl (zW rfl rfl sh3 rfl (zA rfl)) ?_
 refine wF rfl (q81) (zBG _ _) (.lrefl _) ?_
 refine zD (zB rfl (zA rfl)) (zD (zE rfl rfl zBc (zA rfl)) ?_)
 refine wI [(11,yz (Jn.alo j y) (Jn.ahi j y)),(12,.lst .ro 1 (zO l)),(13,U.box 0 2)] [] ([SB.box [.int .i64 j.kd,.int .i64 j.one,.int .i64 j.two,.int .i64 j.lo,.int .i64 j.hi]]) (.cons rfl (.cons rfl (.cons rfl (.nil rfl)))) rfl rfl fun fr=>?_
 refine zS rfl (zF rfl rfl rfl sh3 rfl (zA rfl)) ?_
 refine zD (zq (u:=.int .i64 z) rfl ty75 rfl rfl (by omega) (by rw[List.getElem?_map,hz];rfl) cl3 (zA rfl)) ?_
 refine zS rfl (zW rfl rfl sh3 rfl (zA rfl)) ?_
 refine zD (zP rfl (q49) (.lrefl _) (zA rfl)) ?_
 refine zD (wS rfl rfl (zA rfl)) ?_
 refine zD (zC rfl (zA rfl)) ?_
 refine wc ?_
 refine zb ?_
 refine⟨.inr rfl,_,.cons _ _ _ _ (.tmp 4) .nil,?_⟩
 exact .refl _
def inB(t:Ts)(l:List Int):Bool:=(List.range l.length).all fun i:Nat=>decide (hloT t i≤pL l i)&&decide (pL l i≤hhiT t i)
set_option maxHeartbeats 8000000 in
theorem ret15(hi:Off is)(hok:TOk t)(l:List Int)(hl:l.length=t.heard.length):RetP Try.prog is orc 15 [t.u,.lst .ro 1 (zO l)] (.tup [.bool (inB t l&& !((zc t).any (brkB l))),.int .i64 0]):=by
 have hv:=(zAS t).2 hok
 have q17:=ret17 (orc:=orc) hi t
 rw[hv,if_pos rfl]at q17
 have hs:=hok.sok
 have hn8:=hok.n8
 have q51:=ret51 (orc:=orc) hi hok.sh
 refine yE body15 pure15 (hi 15 (by decide)) rfl rfl (yZ (zAg t 4) (wT 6 .ro (fun h=>by cases h) 1 l)) (.inr ⟨_,rfl,yZ (.bool _ _) (.int _ _ _)⟩) ?_
 refine kQ (yA rfl rfl (zC rfl (zC rfl (zA ?_))))
 refine zK [(1,.lst .ro 1 (zO l)),(2,U.box 0 0)] ([SB.box t.cs]) (.cons rfl (.cons rfl (.nil rfl))) rfl fun fr=>?_
 refine k_seq (kQ (zH rfl rfl rfl sh28 rfl (zP rfl (q17) (.lrefl _) (zC rfl (zA (kQ (zB rfl (zAd rfl rfl rfl ?_))))))))
 refine zA (k_cF rfl rfl ?_)
 refine zQ (k_seq (kQ (zB rfl (zw rfl ty29 rfl (List.length_map _) ?_))))
 refine zE rfl rfl yG (zF rfl rfl rfl sh22 rfl (zw rfl ty22 rfl (List.length_map _) ?_))
 refine zAd rfl rfl rfl (zA (k_cF rfl (decide_eq_false (by omega)) (zQ (k_seq (kQ (zB rfl (zw rfl ty29 rfl (List.length_map _) ?_)))))))
 refine zB rfl (zA ?_)
 refine zK [(1,.lst .ro 1 (zO l)),(2,U.box 0 0),(20,.lst .ro 1 (zO l)),(21,.int .i64 ↑(List.length l)),(22,.int .i64 0)] ([SB.box t.cs]) (.c4 rfl rfl rfl rfl (.cons rfl (.nil rfl))) rfl fun fr=>?_
 refine zN ?_
 refine yg (fun kk s2=>∃i:Nat,kk+i=l.length∧((List.range i).all fun i:Nat=>decide (hloT t i≤pL l i)&&decide (pL l i≤hhiT t i))=true∧s2.st=[.box t.cs]∧Holds s2 [(1,.lst .ro 1 (zO l)),(2,.box 0 0),(20,.lst .ro 1 (zO l)),(21,.int .i64 l.length),(22,.int .i64 i)]) (fun kk s2 hI=>?_) l.length _ ⟨0,rfl,rfl,rfl,.c4 rfl rfl rfl rfl (.cons rfl (.nil rfl))⟩
 obtain⟨i,hki,hall,hst2,hs2⟩:=hI
 refine zK _ _ hs2 hst2 fun fr2=>?_
 by_cases hin:i<l.length
 ·obtain⟨y,hy⟩:∃y,l[i]? =some y:=⟨l[i],List.getElem?_eq_getElem hin⟩
  have hpy:pL l (i:Int)=y:=by unfold pL;rw[Int.toNat_natCast,hy];rfl
  obtain⟨q,hq,e1,e2,hqb⟩:=hs.key (v:=(i:Int)) (by omega)
  rw[Int.toNat_natCast]at hq
  have q49:=ret49 (orc:=orc) hi q.a q.b y
  generalize hc:(decide (q.a≤y)&&decide (y≤q.b))=c at q49
  cases c with
  |false=>
   have hf:inB t l=false:=by
    unfold inB
    rw[List.all_eq_false]
    exact⟨i,List.mem_range.2 hin,by rw[e1,e2,hpy,hc];simp⟩
   rw[hf]
   refine kQ (zf rfl rfl rfl (zA (k_seq (k_cT rfl (decide_eq_true (by omega)) (zQ (k_seq (zN (kQ ?_))))))))
   refine zB rfl (zq (u:=.int .i64 (y)) rfl ty29 rfl rfl (Int.natCast_nonneg _) (by simp[hy]) cl3 ?_)
   refine zW rfl rfl sh3 rfl ?_
   refine zC rfl (zC rfl (zA (kQ (zE rfl rfl yG (zF rfl rfl rfl sh22 rfl (zB rfl (zq (u:=(q).u) rfl ty22 rfl rfl (Int.natCast_nonneg _) (by simp[hq]) cl26 ?_)))))))
   refine zo rfl rfl sh26 rfl ?_
   refine zB rfl (zP rfl (q49) (.lrefl _) (wS rfl rfl (zA ?_)))
   refine zK [(1,.lst .ro 1 (zO l)),(2,U.box 0 0),(20,.lst .ro 1 (zO l)),(21,.int .i64 ↑(List.length l)),(22,.int .i64 ↑i),(34,U.bool !Bool.false)] ([SB.box t.cs]) (.c4 rfl rfl rfl rfl (.cons rfl (.cons rfl (.nil rfl)))) rfl fun fr=>?_
   refine k_cT rfl rfl ?_
   refine kQ (zC rfl (zC rfl (zA (zb ?_))))
   refine⟨.inr rfl,_,.cons _ _ _ _ (.tmp 4) (.cons _ _ _ _ (.tmp 5) .nil),?_⟩
   exact .refl _
  |true=>
   refine kQ (zf rfl rfl rfl (zA (k_seq (k_cT rfl (decide_eq_true (by omega)) (zQ (k_seq (zN (kQ ?_))))))))
   refine zB rfl (zq (u:=.int .i64 (y)) rfl ty29 rfl rfl (Int.natCast_nonneg _) (by simp[hy]) cl3 ?_)
   refine zW rfl rfl sh3 rfl ?_
   refine zC rfl (zC rfl (zA (kQ (zE rfl rfl yG (zF rfl rfl rfl sh22 rfl (zB rfl (zq (u:=(q).u) rfl ty22 rfl rfl (Int.natCast_nonneg _) (by simp[hq]) cl26 ?_)))))))
   refine zo rfl rfl sh26 rfl ?_
   refine zB rfl (zP rfl (q49) (.lrefl _) (wS rfl rfl (zA ?_)))
   refine zK [(1,.lst .ro 1 (zO l)),(2,U.box 0 0),(20,.lst .ro 1 (zO l)),(21,.int .i64 ↑(List.length l)),(22,.int .i64 ↑i),(34,U.bool !Bool.true)] ([SB.box t.cs]) (.c4 rfl rfl rfl rfl (.cons rfl (.cons rfl (.nil rfl)))) rfl fun fr=>?_
   refine k_cF rfl rfl ?_
   refine zQ (k_region ?_)
   refine yT rfl rfl rfl (by unfold I64;omega) (zB rfl (zA ?_))
   exact⟨kk - 1,by omega,i+1,by omega,by rw[List.range_succ,List.all_append,hall];simp only[List.all_cons,List.all_nil,Bool.and_true,Bool.true_and];rw[e1,e2,hpy,hc],rfl,.c4 rfl rfl rfl rfl (.cons rfl (.nil rfl))⟩
 ·have hiN:i=l.length:=by omega
  subst hiN
  have hf:inB t l=true:=hall
  have hjo:=joins_ok hn8 (by have:=hv;unfold ym at this;simp only[Bool.and_eq_true]at this;exact this.2.1) (by have:=hv;unfold ym at this;simp only[Bool.and_eq_true]at this;exact this.2.2.1) (by have:=hv;unfold ym at this;simp only[Bool.and_eq_true]at this;exact this.2.2.2.1)
  have hp:∀y∈l,1≤y∧y≤4000:=fun y hy=>by
   obtain⟨k,hk,e⟩:=List.getElem_of_mem hy
   have h1:=List.all_eq_true.1 hf k (List.mem_range.2 hk)
   simp only[Bool.and_eq_true,decide_eq_true_eq]at h1
   have hpy:pL l (k:Int)=y:=by unfold pL;rw[Int.toNat_natCast,List.getElem?_eq_getElem hk,e];rfl
   rw[hpy]at h1
   exact zHs hs (by omega) h1
  have hlen:=zEd hok.sh
  have hw:=wpc50 (is:=is) (orc:=orc) (st:=[.box t.cs]) (zc t) (by omega) 52 [.lst .ro 1 (zO l)] [] (brkB l) (fun j hj=>ret52 hi l hl hp (hjo j hj).1 (hjo j hj).2.1 (hjo j hj).2.2)
  rw[hf,Bool.true_and]
  refine kQ (zf rfl rfl rfl (zA (k_seq (k_cF rfl (decide_eq_false (by omega)) (yO (kQ (zH rfl rfl rfl sh28 rfl (zP rfl (q51) (.lrefl _) ?_))))))))
  refine zB rfl ?_
  refine o_func rfl ?_
  (refine zCY rfl hw (.lrefl _) (fun u st1 hM=>?_);obtain⟨rfl,rfl⟩:=hM)
  refine wS rfl rfl (zC rfl (zC rfl (zA (zb ?_))))
  refine⟨.inr rfl,_,.cons _ _ _ _ (.tmp 4) (.cons _ _ _ _ (.tmp 5) .nil),?_⟩
  exact .refl _
end
section
variable {is:FuncId→Bool}{orc:Known}
variable {t:Ts}{J:List Jn}{v x:Int}{st:List SB}
end
end Go.Proofs.Ytinhcdijbcamaaa.tuneTrue
