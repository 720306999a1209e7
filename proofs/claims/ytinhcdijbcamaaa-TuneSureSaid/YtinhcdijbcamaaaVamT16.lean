import Derived.Test.YtinhcdijbcamaaaVamT15
set_option linter.unusedVariables false
set_option linter.unusedSimpArgs false
set_option linter.constructorNameAsVariable false
namespace Go.Proofs.Ytinhcdijbcamaaa.tuneSure
open Vam
section
variable {is:FuncId→Bool}{orc:Known}
noncomputable def b30:Code:=(Try.f30.body).getD .skip
theorem body30:bodyOf Try.prog 30=some (19,b30,[.tmp 2,.tmp 3]):=by kernel_rfl
theorem pure30:pureFn Try.prog 30=true:=by kernel_rfl
variable {t:Ts}{J:List Jn}{v x:Int}
noncomputable def sureB(t:Ts):Bool:=if yr t=true then !((yZ t).any (mayB t))else false
set_option maxHeartbeats 8000000 in
theorem ret30(hi:Off is)(t:Ts):RetP Try.prog is orc 30 [t.u] (.tup [.bool (sureB t),.int .i64 (if yr t=true then 0 else 10)]):=by
 have q17:=ret17 (orc:=orc) hi t
 refine yI body30 pure30 (hi 30 (by decide)) rfl rfl (dat_l1 (dat_ts t 4)) (.inr ⟨_,rfl,yu (.bool _ _) (.int _ _ _)⟩) ?_
 unfold sureB
 cases hv:yr t with
 |false=>
  rw[hv]at q17
  rw[if_neg (by decide)]at q17
  rw[if_neg (by decide),if_neg (by decide)]
  refine kQ (yJ rfl rfl (zC rfl (zC rfl (zA ?_))))
  refine zM [(1,U.box 0 0)] ([SB.box t.cs]) (.cons rfl (.nil rfl)) rfl fun fr=>?_
  refine k_seq (kQ (zL rfl rfl rfl sh28 rfl (zS rfl (q17) (.lrefl _) (zC rfl (zA (kQ (zB rfl (o_neq rfl rfl rfl ?_))))))))
  refine zA (k_cT rfl rfl ?_)
  refine kQ (zB rfl (zC rfl (zC rfl (zA (zc ?_)))))
  refine⟨.inr rfl,_,.cons _ _ _ _ (.tmp 2) (.cons _ _ _ _ (.tmp 3) .nil),?_⟩
  exact .refl _
 |true=>
  have hok:=(valid_iff t).1 hv
  rw[hv,if_pos rfl]at q17
  rw[if_pos rfl,if_pos rfl]
  have hn8:=hok.n8
  have hjo:=joins_ok hn8 (by have:=hv;unfold yr at this;simp only[Bool.and_eq_true]at this;exact this.2.1) (by have:=hv;unfold yr at this;simp only[Bool.and_eq_true]at this;exact this.2.2.1) (by have:=hv;unfold yr at this;simp only[Bool.and_eq_true]at this;exact this.2.2.2.1)
  have hlen:=joins_len hok.sh
  have q72:=ret72 (orc:=orc) hi hok.sh
  have hw:=wpc50 (is:=is) (orc:=orc) (st:=[.box t.cs,.box (setC t (yZ t))]) (yZ t) (by omega) 73 [.agg (setC t (yZ t))] [] (mayB t) (fun j hj=>ret73 hi hok.sok (hjo j hj).1 (hjo j hj).2.1 (hjo j hj).2.2)
  refine kQ (yJ rfl rfl (zC rfl (zC rfl (zA ?_))))
  refine zM [(1,U.box 0 0)] ([SB.box t.cs]) (.cons rfl (.nil rfl)) rfl fun fr=>?_
  refine k_seq (kQ (zL rfl rfl rfl sh28 rfl (zS rfl (q17) (.lrefl _) (zC rfl (zA (kQ (zB rfl (o_neq rfl rfl rfl ?_))))))))
  refine zA (k_cF rfl rfl ?_)
  refine zQ (kQ (zL rfl rfl rfl sh28 rfl (zS rfl (q72) (.lrefl _) (zd rfl ze84 ?_))))
  refine zV rfl rfl sh84 rfl rfl rfl rfl rfl ?_
  refine zA ?_
  refine zM [(5,U.box 1 0)] ([SB.box t.cs,SB.box [.lst .ro 2 (yD t.heard),.lst .ro 2 (sclsU t.scales),.lst .ro 2 (yD t.pairs),.int .i64 t.lo,.int .i64 t.hi,.lst .ro 5 (jnsU (yZ t))]]) (.cons rfl (.nil rfl)) rfl fun fr=>?_
  refine kQ (zF rfl rfl fld84_1 (zE rfl rfl rfl sh70 rfl (zL rfl rfl rfl sh84 rfl ?_)))
  refine o_func rfl ?_
  (refine o_callW rfl hw (.lrefl _) (fun u st1 hM=>?_);obtain⟨rfl,rfl⟩:=hM)
  refine o_not rfl rfl (zC rfl (zC rfl (zA (zc ?_))))
  refine⟨.inr rfl,_,.cons _ _ _ _ (.tmp 2) (.cons _ _ _ _ (.tmp 3) .nil),?_⟩
  exact .refl _
end
section
variable {is:FuncId→Bool}{orc:Known}
noncomputable def b36:Code:=(Try.f36.body).getD .skip
theorem body36:bodyOf Try.prog 36=some (27,b36,[.tmp 4]):=by kernel_rfl
theorem pure36:pureFn Try.prog 36=true:=by kernel_rfl
variable {t:Ts}{J:List Jn}{v x:Int}
set_option maxHeartbeats 4000000 in
theorem ret38p(hi:Off is)(n b:Int)(hn:0≤n):RetP Try.prog is orc 38 [.int .i64 n,.int .i64 b] (.int .i64 (turnI n b)):=by
 refine yI body38 pure38 (hi 38 (by decide)) rfl rfl (yu (.int _ _ _) (.int _ _ _)) (.inl (.int _ _ _)) ?_
 by_cases h:b<1
 ·have e:turnI n b=0:=by unfold turnI;rw[if_pos h]
  rw[e]
  refine kQ (zC rfl (zA (k_seq (kQ (zB rfl (zb rfl rfl rfl (zA (k_cT rfl (decide_eq_true (by omega)) ?_))))))))
  refine kQ (zC rfl (zA (zc ?_)))
  refine⟨.inr rfl,_,.cons _ _ _ _ (.tmp 4) .nil,?_⟩
  exact .refl _
 ·have e:turnI n b=n % b:=by unfold turnI;rw[if_neg h]
  have et:n.tmod b=n % b:=Int.tmod_eq_emod_of_nonneg hn
  have hnn:0≤n % b:=Int.emod_nonneg _ (by omega)
  rw[e,←et]
  rw[←et]at hnn
  refine kQ (zC rfl (zA (k_seq (kQ (zB rfl (zb rfl rfl rfl (zA (k_cF rfl (decide_eq_false (by omega)) ?_))))))))
  refine zQ (kQ (zB rfl (zB rfl (o_rem rfl rfl rfl (by omega) ?_))))
  refine zC rfl (zA (k_seq (kQ (zB rfl (zb rfl rfl rfl (zA (k_cF rfl (decide_eq_false (by omega)) (zQ ?_))))))))
  refine kQ (zB rfl (zC rfl (zA (zc ?_))))
  refine⟨.inr rfl,_,.cons _ _ _ _ (.tmp 4) .nil,?_⟩
  exact .refl _
theorem ret77(hi:Off is)(l:List Int)(n:Int)(hn:0≤n):RetP Try.prog is orc 77 [.lst .ro 1 (zR l),.int .i64 n] (.int .i64 (nthI l n)):=by
 refine yI body77 pure77 (hi 77 (by decide)) rfl rfl (yu (dat_ints 6 .ro (fun h=>by cases h) 1 l) (.int _ _ _)) (.inl (.int _ _ _)) ?_
 by_cases h:l.length=0
 ·have e:nthI l n=0:=by unfold nthI;rw[if_pos h]
  rw[e]
  refine kQ (zC rfl (zA (k_seq (kQ (zB rfl (zw rfl ty29 rfl (List.length_map _) ?_))))))
  refine o_eql rfl rfl rfl (zA (k_cT rfl (decide_eq_true (by omega)) (kQ (zC rfl (zA (zc ?_))))))
  refine⟨.inr rfl,_,.cons _ _ _ _ (.tmp 4) .nil,?_⟩
  exact .refl _
 ·have q38:=ret38p (orc:=orc) hi n l.length hn
  have hb:=turnI_b (n:=n) (b:=(l.length:Int)) (by omega)
  have hy:l[(turnI n l.length).toNat]? =some (l[(turnI n l.length).toNat]'(by omega)):=List.getElem?_eq_getElem (by omega)
  have e:nthI l n=l[(turnI n l.length).toNat]'(by omega):=by unfold nthI;rw[if_neg h,hy];rfl
  rw[e]
  generalize l[(turnI n l.length).toNat]'(by omega)=y at hy
  clear e
  generalize turnI n l.length=k at*
  refine kQ (zC rfl (zA (k_seq (kQ (zB rfl (zw rfl ty29 rfl (List.length_map _) ?_))))))
  refine o_eql rfl rfl rfl (zA (k_cF rfl (decide_eq_false (by omega)) (zQ (kQ (zB rfl (zB rfl (zB rfl (zw rfl ty29 rfl (List.length_map _) ?_))))))))
  refine zS rfl (q38) (.lrefl _) ?_
  refine zp (u:=.int .i64 y) rfl ty29 rfl rfl (by omega) (by rw[List.getElem?_map,hy];rfl) cl3 ?_
  refine zX rfl rfl sh3 rfl ?_
  refine zC rfl (zA (zc ?_))
  refine⟨.inr rfl,_,.cons _ _ _ _ (.tmp 4) .nil,?_⟩
  exact .refl _
def drwL(t:Ts)(bits:List Int)(n:Nat):List Int:=(List.range n).map fun i:Nat=>drawI (hloT t i) (hhiT t i) (nthI bits i)
theorem drwL_succ(t:Ts)(bits:List Int)(n:Nat):drwL t bits (n+1)=drwL t bits n++[drawI (hloT t n) (hhiT t n) (nthI bits n)]:=by unfold drwL;rw[List.range_succ,List.map_append];rfl
set_option maxHeartbeats 8000000 in
theorem ret36(hi:Off is)(hok:TOk t)(bits:List Int):RetP Try.prog is orc 36 [t.u,.lst .ro 1 (zR bits)] (.lst .ro 1 (zR (drwL t bits t.heard.length))):=by
 have hn8:=hok.n8
 refine yI body36 pure36 (hi 36 (by decide)) rfl rfl (yu (dat_ts t 4) (dat_ints 6 .ro (fun h=>by cases h) 1 bits)) (.inl (dat_ints 6 .ro (fun h=>by cases h) 1 _)) ?_
 refine kQ (yJ rfl rfl (zC rfl (zA ?_)))
 refine zM [(1,.lst .ro 1 (zR bits)),(2,U.box 0 0)] ([SB.box t.cs]) (.cons rfl (.cons rfl (.nil rfl))) rfl fun fr=>?_
 refine kQ (zC rfl (zA (k_seq (kQ (zC rfl (zA (zK ?_)))))))
 refine yY (fun kk s2=>∃i:Nat,kk+i=t.heard.length∧s2.st=[.box t.cs]∧Holds s2 [(1,.lst .ro 1 (zR bits)),(2,.box 0 0),(5,accI (drwL t bits i)),(6,.int .i64 i)]) (fun kk s2 hI=>?_) t.heard.length _ ⟨0,rfl,rfl,.c4 rfl rfl rfl rfl (.nil rfl)⟩
 obtain⟨i,hki,hst2,hs2⟩:=hI
 refine zM _ _ hs2 hst2 fun fr2=>?_
 by_cases hin:i<t.heard.length
 ·obtain⟨q,hq,e1,e2,hqb⟩:=hok.sok.key (v:=(i:Int)) (by omega)
  rw[Int.toNat_natCast]at hq
  have q77:=ret77 (orc:=orc) hi bits (i:Int) (by omega)
  have q44:=ret44 (orc:=orc) hi q.a q.b (nthI bits i) (by omega) (by omega)
  have hsu:=drwL_succ t bits i
  rw[e1,e2]at hsu
  have hll:(drwL t bits i).length=i:=by unfold drwL;simp
  generalize drawI q.a q.b (nthI bits i)=y at hsu q44
  generalize nthI bits i=m at q77 q44
  generalize drwL t bits i=L at hsu hll
  cases L with
  |nil=>
   refine k_seq (kQ (zB rfl (zF rfl rfl zo (zE rfl rfl rfl sh22 rfl (zw rfl ty22 rfl (List.length_map _) ?_)))))
   refine zb rfl rfl rfl (zA (k_cT rfl (decide_eq_true (by omega)) (zQ (k_seq (zK (k_draw [.plain,.plain,.read true,.plain,.plain,.read true,.plain,.plain,.read false,.plain,.plain,.plain,.plain] (by kernel_rfl) (by kernel_rfl) (by kernel_rfl) ?_))))))
   refine zD (zB rfl (zA rfl)) (zD (zF rfl rfl zo (zA rfl)) ?_)
   refine zO rfl (zE rfl rfl rfl sh22 rfl (zA rfl)) (zD (zB rfl (zA rfl)) (zD (zp (u:=(q).u) rfl ty22 rfl rfl (Int.natCast_nonneg _) (by simp[hq]) cl26 (zA rfl)) ?_))
   refine zO rfl (zi rfl rfl sh26 rfl (zA rfl)) ?_
   refine zD (zB rfl (zA rfl)) (zD (zB rfl (zA rfl)) (d_callR rfl (q77) (.int _ _) (.lrefl _) ?_))
   refine d_genA [(1,.lst .ro 1 (zR bits)),(2,U.box 0 0),(6,.int .i64 ↑i),(14,.lst .full 0 []),(19,U.agg [.int .i64 q.a,.int .i64 q.b]),(22,.int .i64 m)] [] ([SB.box t.cs]) (.c4 rfl rfl rfl rfl (.cons rfl (.cons rfl (.nil rfl)))) rfl rfl fun fr=>?_
   refine zD (zS rfl (q44) (.lrefl _) (zA rfl)) ?_
   refine zD (o_lit (es:=[.int .i64 y]) rfl ty29 ze3 cl3 rfl rfl rfl rfl rfl rfl rfl rfl (zA rfl)) ?_
   refine zD (o_appendF rfl ap29_29 rfl rfl (by simp) (by simp) (by simp[yH,zl,oneU]) (by simp) (zA rfl)) ?_
   refine zD (zC rfl (zA rfl)) ?_
   refine d_nil ?_
   refine zM [(1,.lst .ro 1 (zR bits)),(2,U.box 0 0),(5,U.lst Kd.own 1 [.int .i64 y]),(6,.int .i64 ↑i)] ([SB.box t.cs]) (.c4 rfl rfl rfl rfl (.nil rfl)) rfl fun fr=>?_
   refine k_region (zB rfl ?_)
   refine yT rfl rfl rfl (by unfold I64;omega) (zC rfl (zA ?_))
   exact⟨kk - 1,by omega,i+1,by omega,rfl,.cons rfl (.cons rfl (.cons (by rw[hsu];rfl) (.cons rfl (.nil rfl))))⟩
  |cons z L=>
   refine k_seq (kQ (zB rfl (zF rfl rfl zo (zE rfl rfl rfl sh22 rfl (zw rfl ty22 rfl (List.length_map _) ?_)))))
   refine zb rfl rfl rfl (zA (k_cT rfl (decide_eq_true (by omega)) (zQ (k_seq (zK (k_draw [.plain,.plain,.read true,.plain,.plain,.read true,.plain,.plain,.read false,.plain,.plain,.plain,.plain] (by kernel_rfl) (by kernel_rfl) (by kernel_rfl) ?_))))))
   refine zD (zB rfl (zA rfl)) (zD (zF rfl rfl zo (zA rfl)) ?_)
   refine zO rfl (zE rfl rfl rfl sh22 rfl (zA rfl)) (zD (zB rfl (zA rfl)) (zD (zp (u:=(q).u) rfl ty22 rfl rfl (Int.natCast_nonneg _) (by simp[hq]) cl26 (zA rfl)) ?_))
   refine zO rfl (zi rfl rfl sh26 rfl (zA rfl)) ?_
   refine zD (zB rfl (zA rfl)) (zD (zB rfl (zA rfl)) (d_callR rfl (q77) (.int _ _) (.lrefl _) ?_))
   refine zD (zS rfl (q44) (.lrefl _) (zA rfl)) ?_
   refine zD (o_lit (es:=[.int .i64 y]) rfl ty29 ze3 cl3 rfl rfl rfl rfl rfl rfl rfl rfl (zA rfl)) ?_
   refine zD (o_appendS 5 rfl ap29_29 rfl rfl rfl (by simp) (by simp) (by simp[yH,zl,oneU]) (by simp at hll ⊢;omega) (zA rfl)) ?_
   refine zD (zC rfl (zA rfl)) ?_
   refine d_nil ?_
   refine k_region (zB rfl ?_)
   refine yT rfl rfl rfl (by unfold I64;omega) (zC rfl (zA ?_))
   exact⟨kk - 1,by omega,i+1,by omega,rfl,.cons rfl (.cons rfl (.cons (by rw[hsu,accI_snoc];rfl) (.cons rfl (.nil rfl))))⟩
 ·have hiN:i=t.heard.length:=by omega
  subst hiN
  have hll:(drwL t bits t.heard.length).length=t.heard.length:=by unfold drwL;simp
  have hn1:=hok.n1
  generalize drwL t bits t.heard.length=L at hll
  cases L with
  |nil=>simp at hll;omega
  |cons z L=>
   refine k_seq (kQ (zB rfl (zF rfl rfl zo (zE rfl rfl rfl sh22 rfl (zw rfl ty22 rfl (List.length_map _) ?_)))))
   refine zb rfl rfl rfl (zA (k_cF rfl (decide_eq_false (by omega)) (yO (kQ (zB rfl (zC rfl (zA (zc ?_))))))))
   refine⟨.inr rfl,_,.cons _ _ _ _ (.tmp 4) .nil,?_⟩
   exact .refl _
end
section
variable {t:Ts}{J:List Jn}{v x y:Int}
theorem kd_02(h:TOk t){j:Jn}(hj:j∈yZ t):(j.kd=0∧200≤j.lo∧j.lo≤j.hi)∨j.kd=2:=by
 rcases List.mem_append.1 hj with hj|hj
 ·obtain⟨q,hq,hjq⟩:=List.mem_flatMap.1 hj
  obtain⟨k0,_,_,s,hs,e1,e2⟩:=mem_sclJ (h.sh.sc q hq).1 hjq
  have:=h.ss q hq s hs
  exact .inl ⟨k0,by omega,by omega⟩
 ·obtain⟨q,_,rfl⟩:=List.mem_map.1 hj
  exact .inr rfl
theorem fit_mono{j:Jn}(hk:(j.kd=0∧200≤j.lo∧j.lo≤j.hi)∨j.kd=2)(hx:0≤x)(h:x≤y):j.alo x≤j.alo y∧j.ahi x≤j.ahi y:=by
 unfold Jn.alo Jn.ahi
 rcases hk with ⟨k0,k1,k2⟩|k0
 ·rw[if_pos k0,if_pos k0,if_pos k0,if_pos k0]
  have m1:0≤j.lo*x:=Int.mul_nonneg (by omega) hx
  have m2:0≤j.lo*y:=Int.mul_nonneg (by omega) (by omega)
  have m3:j.lo*x≤j.lo*y:=Int.mul_le_mul_of_nonneg_left h (by omega)
  have n1:0≤j.hi*x:=Int.mul_nonneg (by omega) hx
  have n2:0≤j.hi*y:=Int.mul_nonneg (by omega) (by omega)
  have n3:j.hi*x≤j.hi*y:=Int.mul_le_mul_of_nonneg_left h (by omega)
  refine⟨(up_le (b:=1000) (by omega) m1).2 (Int.le_trans m3 ((up_le (b:=1000) (by omega) m2).1 (Int.le_refl _))),(le_td (b:=1000) (by omega) n2).2 (Int.le_trans ((le_td (b:=1000) (by omega) n1).1 (Int.le_refl _)) n3)⟩
 ·have h0: ¬ j.kd=0:=by omega
  have h1: ¬ j.kd=1:=by omega
  rw[if_neg h0,if_neg h1,if_pos k0,if_neg h0,if_neg h1,if_pos k0,if_neg h0,if_neg h1,if_pos k0,if_neg h0,if_neg h1,if_pos k0]
  omega
theorem sd_ex(s:Bool):∃i,i<2∧sdB i=s:=by
 cases s with
 |false=>exact⟨0,by decide,rfl⟩
 |true=>exact⟨1,by decide,rfl⟩
theorem may_no{j:Jn}(h:mayB t j=false)(s w:Bool):mayC t j s w=true:=by
 unfold mayB at h
 rw[List.any_eq_false]at h
 have hs:∃i,i<2∧sdB i=s:=sd_ex s
 have hw:∃i,i<2∧sdB i=w:=sd_ex w
 obtain⟨i,hi,rfl⟩:=hs
 obtain⟨m,hm,rfl⟩:=hw
 have h1:=h i (List.mem_range.2 hi)
 unfold mayR at h1
 rw[Bool.not_eq_true,List.any_eq_false]at h1
 have:=h1 m (List.mem_range.2 hm)
 simpa using this
theorem may_yes{j:Jn}(h:mayB t j=true):∃s w,mayC t j s w=false:=by
 unfold mayB at h
 obtain⟨i,_,h1⟩:=List.any_eq_true.1 h
 unfold mayR at h1
 obtain⟨m,_,h2⟩:=List.any_eq_true.1 h1
 exact⟨_,_,by simpa using h2⟩
theorem sure_fit(h:TOk t){j:Jn}(hj:j∈yZ t)(hm:mayB t j=false)(hx:InH t j.one x)(hy:InH t j.two y):Fit j x y:=by
 have hr:=h.sok.jr j hj
 have hxb:=in_pos h.sok hr.1 hx
 have hk:=kd_02 h hj
 have a1:=may_no hm true false
 have a2:=may_no hm false true
 unfold mayC endT pI at a1 a2
 simp only[Bool.and_eq_true,decide_eq_true_eq]at a1 a2
 obtain⟨q,_,e1,e2,hqb⟩:=h.sok.key hr.1
 unfold InH at hx hy
 have m1:=fit_mono hk (x:=x) (y:=hhiT t j.one - ((0:Nat):Int)) (by omega) (by omega)
 have m2:=fit_mono hk (x:=hloT t j.one+((0:Nat):Int)) (y:=x) (by omega) (by omega)
 unfold Fit
 omega
end
end Go.Proofs.Ytinhcdijbcamaaa.tuneSure
