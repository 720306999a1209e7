import Derived.Test.YtlknfhjfkcboiaaDoorVamT3
set_option linter.unusedVariables false
set_option linter.unusedSimpArgs false
set_option linter.constructorNameAsVariable false
namespace Go.Proofs.YtlknfhjfkcboiaaDoor.night
open Vam
section
variable {is:FuncId→Bool}{orc:Known}
noncomputable def b111:Code:=(Tryd.f111.body).getD .skip
theorem body111:bodyOf Tryd.prog 111=some (6,b111,[.tmp 2]):=by kernel_rfl
theorem pure111:pureFn Tryd.prog 111=true:=by kernel_rfl
noncomputable def b100:Code:=(Tryd.f100.body).getD .skip
theorem body100:bodyOf Tryd.prog 100=some (20,b100,[.tmp 4]):=by kernel_rfl
theorem pure100:pureFn Tryd.prog 100=true:=by kernel_rfl
noncomputable def b101:Code:=(Tryd.f101.body).getD .skip
theorem body101:bodyOf Tryd.prog 101=some (36,b101,[.tmp 4]):=by kernel_rfl
theorem pure101:pureFn Tryd.prog 101=true:=by kernel_rfl
noncomputable def b99:Code:=(Tryd.f99.body).getD .skip
theorem body99:bodyOf Tryd.prog 99=some (18,b99,[.tmp 2]):=by kernel_rfl
theorem pure99:pureFn Tryd.prog 99=true:=by kernel_rfl
theorem sh70:shOf Tryd.prog 70=.many 10:=by kernel_rfl
noncomputable def b88:Code:=(Tryd.f88.body).getD .skip
theorem body88:bodyOf Tryd.prog 88=some (25,b88,[.tmp 6]):=by kernel_rfl
theorem pure88:pureFn Tryd.prog 88=true:=by kernel_rfl
noncomputable def b110:Code:=(Tryd.f110.body).getD .skip
theorem body110:bodyOf Tryd.prog 110=some (19,b110,[.tmp 4]):=by kernel_rfl
theorem pure110:pureFn Tryd.prog 110=true:=by kernel_rfl
noncomputable def b98:Code:=(Tryd.f98.body).getD .skip
theorem body98:bodyOf Tryd.prog 98=some (9,b98,[.tmp 4]):=by kernel_rfl
theorem pure98:pureFn Tryd.prog 98=true:=by kernel_rfl
noncomputable def b87:Code:=(Tryd.f87.body).getD .skip
theorem body87:bodyOf Tryd.prog 87=some (8,b87,[.tmp 4]):=by kernel_rfl
theorem pure87:pureFn Tryd.prog 87=true:=by kernel_rfl
def cmpI(a b:Int):Int:=if a<b then -1 else if b<a then 1 else 0
theorem ret111(hi:Off is)(a:Int):RetP Tryd.prog is orc 111 [.int .i64 a] (.bool false):=by
 refine zp body111 pure111 (hi 111 (by decide)) rfl rfl (zCT (.int _ _ _)) (.inl (.bool _ _)) ?_
 have k5:decide (a≠a)=false:=by simp
 refine kQ (zB rfl (zC (kQ (zA rfl (zA rfl (ku rfl (zB rfl (zC (zS ?_)))))))))
 refine⟨.inr rfl,_,.cons _ _ _ _ (.tmp 2) .nil,?_⟩
 show UW (.u (.bool (decide (a≠a)))) _
 rw[k5];exact .refl _
theorem ret100(hi:Off is)(a b:Int):RetP Tryd.prog is orc 100 [.int .i64 a,.int .i64 b] (.int .i64 (cmpI a b)):=by
 have q1:=ret111 (orc:=orc) hi a
 have q2:=ret111 (orc:=orc) hi b
 refine zp body100 pure100 (hi 100 (by decide)) rfl rfl (zu (.int _ _ _) (.int _ _ _)) (.inl (.int _ _ _)) ?_
 unfold cmpI
 by_cases h1:a<b
 ·rw[if_pos h1]
  refine kQ (zB rfl (zC (kQ (zA rfl (zG rfl (q1) (.lrefl _) (zB rfl (zC (kQ (zA rfl (zG rfl (q2) (.lrefl _) (zB rfl (zC (k_seq (kQ (zA rfl ?_)))))))))))))))
  refine zC (k_cF rfl rfl ?_)
  refine zJ (k_seq (kQ (zA rfl (zC ?_))))
  refine zF [(0,.int .i64 a),(1,.int .i64 b),(13,.bool false)] ([]) (.n3 rfl) rfl fun fr=>?_
  refine k_cF rfl rfl ?_
  refine zJ (k_seq (kQ (zA rfl (zA rfl (kq rfl (zC (k_cT rfl (kH (by omega)) (kQ (zB rfl (zC (zS ?_)))))))))))
  refine⟨.inr rfl,_,.cons _ _ _ _ (.tmp 4) .nil,?_⟩
  exact .refl _
 ·rw[if_neg h1]
  by_cases h2:b<a
  ·rw[if_pos h2]
   refine kQ (zB rfl (zC (kQ (zA rfl (zG rfl (q1) (.lrefl _) (zB rfl (zC (kQ (zA rfl (zG rfl (q2) (.lrefl _) (zB rfl (zC (k_seq (kQ (zA rfl ?_)))))))))))))))
   refine zC (k_cF rfl rfl ?_)
   refine zJ (k_seq (kQ (zA rfl (zC ?_))))
   refine zF [(0,.int .i64 a),(1,.int .i64 b),(13,.bool false)] ([]) (.n3 rfl) rfl fun fr=>?_
   refine k_cF rfl rfl ?_
   refine zJ (k_seq (kQ (zA rfl (zA rfl (kq rfl (zC (k_cF rfl (kI (by omega)) (zJ (k_seq (kQ (zA rfl (zA rfl (o_gtr rfl rfl rfl (zC (k_cT rfl (kH (by omega)) ?_)))))))))))))))
   refine kQ (zB rfl (zC (zS ?_)))
   refine⟨.inr rfl,_,.cons _ _ _ _ (.tmp 4) .nil,?_⟩
   exact .refl _
  ·rw[if_neg h2]
   refine kQ (zB rfl (zC (kQ (zA rfl (zG rfl (q1) (.lrefl _) (zB rfl (zC (kQ (zA rfl (zG rfl (q2) (.lrefl _) (zB rfl (zC (k_seq (kQ (zA rfl ?_)))))))))))))))
   refine zC (k_cF rfl rfl ?_)
   refine zJ (k_seq (kQ (zA rfl (zC ?_))))
   refine zF [(0,.int .i64 a),(1,.int .i64 b),(13,.bool false)] ([]) (.n3 rfl) rfl fun fr=>?_
   refine k_cF rfl rfl ?_
   refine zJ (k_seq (kQ (zA rfl (zA rfl (kq rfl (zC (k_cF rfl (kI (by omega)) (zJ (k_seq (kQ (zA rfl (zA rfl (o_gtr rfl rfl rfl (zC (k_cF rfl (kI (by omega)) ?_)))))))))))))))
   refine zJ (kQ (zB rfl (zC (zS ?_))))
   refine⟨.inr rfl,_,.cons _ _ _ _ (.tmp 4) .nil,?_⟩
   exact .refl _
def cmpL:List Int→List Int→Int
 |[],[]=>0
 |[],_::_=> -1
 |_::_,[]=>1
 |x::a,y::c=>if x=y then cmpL a c else cmpI x y
theorem cmpL_soon:∀(a c:List Int),decide (cmpL a c<0)=zAf a c:=by
 intro a
 induction a with
 |nil=>intro c;cases c<;>rfl
 |cons x a ih=>
  intro c
  cases c with
  |nil=>rfl
  |cons y c=>
   unfold cmpL zAf
   by_cases e:x=y
   ·rw[if_pos e,if_neg (by simp[e])];exact ih c
   ·rw[if_neg e,if_pos e]
    unfold cmpI
    by_cases h:x<y
    ·rw[if_pos h,kH h];rfl
    ·rw[if_neg h,if_pos (by omega),kI h];rfl
set_option maxHeartbeats 8000000 in
theorem ret101(hi:Off is)(l m:List Int)(hl:l.length≤4096)(hm:m.length≤4096):RetP Tryd.prog is orc 101 [.lst .ro 1 (zE l),.lst .ro 1 (zE m)] (.int .i64 (cmpL l m)):=by
 refine zp body101 pure101 (hi 101 (by decide)) rfl rfl (zu (zR 6 .ro (fun h=>by cases h) 1 l) (zR 6 .ro (fun h=>by cases h) 1 m)) (.inl (.int _ _ _)) ?_
 generalize hz:cmpL l m=z
 refine kQ (zB rfl (zC (k_seq (kQ (zA rfl (zP rfl ty83 rfl (List.length_map _) ?_))))))
 refine zA rfl (zC (zH ?_))
 refine yR (fun kk s2=>∃i:Nat,kk+i=l.length∧i≤m.length∧z=cmpL (l.drop i) (m.drop i)∧s2.st=[]∧Holds s2 [(0,.lst .ro 1 (zE l)),(1,.lst .ro 1 (zE m)),(9,.lst .ro 1 (zE l)),(10,.int .i64 l.length),(11,.int .i64 i)]) (fun kk s2 hI=>?_) l.length _ ⟨0,rfl,Nat.zero_le _,hz.symm,rfl,.c4 rfl rfl rfl rfl (.n1 rfl)⟩
 obtain⟨i,hk,him,hw,hst2,hs2⟩:=hI
 clear hz
 refine zF _ _ hs2 hst2 fun fr2=>?_
 by_cases hin:i<l.length
 ·obtain⟨x,hx⟩:∃x,l[i]? =some x:=⟨l[i],List.getElem?_eq_getElem hin⟩
  rw[zAr hx]at hw
  by_cases hin2:i<m.length
  ·obtain⟨y,hy⟩:∃y,m[i]? =some y:=⟨m[i],List.getElem?_eq_getElem hin2⟩
   rw[zAr hy]at hw
   have es:cmpL (x::l.drop (i+1)) (y::m.drop (i+1))=if x=y then cmpL (l.drop (i+1)) (m.drop (i+1))else cmpI x y:=rfl
   have q100:=ret100 (orc:=orc) hi x y
   by_cases e:x=y
   ·rw[es,if_pos e]at hw
    have hc:cmpI x y=0:=by unfold cmpI;rw[if_neg (by omega),if_neg (by omega)]
    rw[hc]at q100
    refine kQ (kq rfl (zC (k_seq (k_cT rfl (kH (by omega)) (zJ (k_seq (zH (kQ (zA rfl (zX (u:=.int .i64 (x)) rfl ty83 rfl rfl (Int.natCast_nonneg _) (by simp[hx]) cl3 ?_))))))))))
    refine kE sh3 rfl ?_
    refine zB rfl (zB rfl (zC (k_seq (kQ (zA rfl (zA rfl (zP rfl ty83 rfl (List.length_map _) ?_)))))))
    refine zFo rfl rfl rfl (zC (k_cF rfl (kI (by omega)) (zJ (kQ (zA rfl (zA rfl (zX (u:=.int .i64 (y)) rfl ty83 rfl rfl (Int.natCast_nonneg _) (by simp[hy]) cl3 ?_)))))))
    refine kE sh3 rfl ?_
    refine zB rfl (zC ?_)
    refine zF [(0,.lst .ro 1 (zE l)),(1,.lst .ro 1 (zE m)),(6,.int .i64 x),(7,.int .i64 y),(9,.lst .ro 1 (zE l)),(10,.int .i64 ↑(List.length l)),(11,.int .i64 ↑i)] ([]) (.n7 rfl) rfl fun fr=>?_
    refine kQ (zA rfl (zA rfl (zG rfl (q100) (.lrefl _) (zB rfl (zC (kQ (zA rfl (ku rfl (zC (k_cF rfl rfl ?_))))))))))
    refine zJ (k_region ?_)
    refine kB rfl (by unfold I64;omega) (zA rfl (zC ?_))
    exact⟨kk - 1,by omega,i+1,by omega,by omega,hw,rfl,.c4 rfl rfl rfl rfl (.n1 rfl)⟩
   ·rw[es,if_neg e]at hw
    have hc:cmpI x y≠0:=by unfold cmpI;by_cases h:x<y;rw[if_pos h];decide;rw[if_neg h,if_pos (by omega)];decide
    subst hw
    generalize cmpI x y=c at*
    refine kQ (kq rfl (zC (k_seq (k_cT rfl (kH (by omega)) (zJ (k_seq (zH (kQ (zA rfl (zX (u:=.int .i64 (x)) rfl ty83 rfl rfl (Int.natCast_nonneg _) (by simp[hx]) cl3 ?_))))))))))
    refine kE sh3 rfl ?_
    refine zB rfl (zB rfl (zC (k_seq (kQ (zA rfl (zA rfl (zP rfl ty83 rfl (List.length_map _) ?_)))))))
    refine zFo rfl rfl rfl (zC (k_cF rfl (kI (by omega)) (zJ (kQ (zA rfl (zA rfl (zX (u:=.int .i64 (y)) rfl ty83 rfl rfl (Int.natCast_nonneg _) (by simp[hy]) cl3 ?_)))))))
    refine kE sh3 rfl ?_
    refine zB rfl (zC ?_)
    refine zF [(0,.lst .ro 1 (zE l)),(1,.lst .ro 1 (zE m)),(6,.int .i64 x),(7,.int .i64 y),(9,.lst .ro 1 (zE l)),(10,.int .i64 ↑(List.length l)),(11,.int .i64 ↑i)] ([]) (.n7 rfl) rfl fun fr=>?_
    refine kQ (zA rfl (zA rfl (zG rfl (q100) (.lrefl _) (zB rfl (zC (kQ (zA rfl (ku rfl (zC (k_cT rfl (kH (by omega)) (kQ (zA rfl (zB rfl (zC (zS ?_)))))))))))))))
    refine⟨.inr rfl,_,.cons _ _ _ _ (.tmp 4) .nil,?_⟩
    exact .refl _
  ·have hd:m.drop i=[]:=List.drop_eq_nil_of_le (by omega)
   rw[hd]at hw
   change z=1 at hw
   subst hw
   refine kQ (kq rfl (zC (k_seq (k_cT rfl (kH (by omega)) (zJ (k_seq (zH (kQ (zA rfl (zX (u:=.int .i64 (x)) rfl ty83 rfl rfl (Int.natCast_nonneg _) (by simp[hx]) cl3 ?_))))))))))
   refine kE sh3 rfl ?_
   refine zB rfl (zB rfl (zC (k_seq (kQ (zA rfl (zA rfl (zP rfl ty83 rfl (List.length_map _) ?_)))))))
   refine zFo rfl rfl rfl (zC (k_cT rfl (kH (by omega)) (kQ (zB rfl (zC (zS ?_))))))
   refine⟨.inr rfl,_,.cons _ _ _ _ (.tmp 4) .nil,?_⟩
   exact .refl _
 ·have hie:i=l.length:=by omega
  have hd:l.drop i=[]:=List.drop_eq_nil_of_le (by omega)
  rw[hd]at hw
  by_cases hin2:i<m.length
  ·obtain⟨y,hy⟩:∃y,m[i]? =some y:=⟨m[i],List.getElem?_eq_getElem hin2⟩
   rw[zAr hy]at hw
   change z= -1 at hw
   subst hw
   refine kQ (kq rfl (zC (k_seq (k_cF rfl (kI (by omega)) (zr (k_seq (kQ (zA rfl (zP rfl ty83 rfl (List.length_map _) ?_)))))))))
   refine zA rfl (zP rfl ty83 rfl (List.length_map _) ?_)
   refine kq rfl (zC (k_cT rfl (kH (by omega)) (kQ (zB rfl (zC (zS ?_))))))
   refine⟨.inr rfl,_,.cons _ _ _ _ (.tmp 4) .nil,?_⟩
   exact .refl _
  ·have hd2:m.drop i=[]:=List.drop_eq_nil_of_le (by omega)
   rw[hd2]at hw
   change z=0 at hw
   subst hw
   refine kQ (kq rfl (zC (k_seq (k_cF rfl (kI (by omega)) (zr (k_seq (kQ (zA rfl (zP rfl ty83 rfl (List.length_map _) ?_)))))))))
   refine zA rfl (zP rfl ty83 rfl (List.length_map _) ?_)
   refine kq rfl (zC (k_cF rfl (kI (by omega)) (zJ (kQ (zB rfl (zC (zS ?_)))))))
   refine⟨.inr rfl,_,.cons _ _ _ _ (.tmp 4) .nil,?_⟩
   exact .refl _
def orI:List Int→Int
 |[]=>0
 |x::l=>if x≠0 then x else orI l
set_option maxHeartbeats 8000000 in
theorem ret99(hi:Off is)(l:List Int)(hl:l.length≤4096):RetP Tryd.prog is orc 99 [.lst .ro 1 (zE l)] (.int .i64 (orI l)):=by
 refine zp body99 pure99 (hi 99 (by decide)) rfl rfl (zCT (zR 6 .ro (fun h=>by cases h) 1 l)) (.inl (.int _ _ _)) ?_
 generalize hz:orI l=z
 refine kQ (zB rfl (zC (kQ (zB rfl (zC (k_seq (kQ (zA rfl (zP rfl ty22 rfl (List.length_map _) ?_)))))))))
 refine zA rfl (zC (zH ?_))
 refine yR (fun kk s2=>∃i:Nat,kk+i=l.length∧z=orI (l.drop i)∧s2.st=[]∧Holds s2 [(3,.int .i64 0),(6,.lst .ro 1 (zE l)),(7,.int .i64 l.length),(8,.int .i64 i)]) (fun kk s2 hI=>?_) l.length _ ⟨0,rfl,hz.symm,rfl,.c4 rfl rfl rfl rfl (.nil rfl)⟩
 obtain⟨i,hk,hw,hst2,hs2⟩:=hI
 clear hz
 refine zF _ _ hs2 hst2 fun fr2=>?_
 by_cases hin:i<l.length
 ·obtain⟨x,hx⟩:∃x,l[i]? =some x:=⟨l[i],List.getElem?_eq_getElem hin⟩
  rw[zAr hx]at hw
  have es:orI (x::l.drop (i+1))=if x≠0 then x else orI (l.drop (i+1)):=rfl
  by_cases e:x≠0
  ·rw[es,if_pos e]at hw
   subst hw
   refine kQ (kq rfl (zC (k_seq (k_cT rfl (kH (by omega)) (zJ (k_seq (zH (kQ (zX (u:=.int .i64 (z)) rfl ty22 rfl rfl (Int.natCast_nonneg _) (by simp[hx]) cl3 ?_)))))))))
   refine kE sh3 rfl ?_
   refine zB rfl (zC (kQ (zA rfl (zA rfl (ku rfl (zC (k_cT rfl (kH (by omega)) (kQ (zA rfl (zB rfl (zC (zS ?_))))))))))))
   refine⟨.inr rfl,_,.cons _ _ _ _ (.tmp 2) .nil,?_⟩
   exact .refl _
  ·rw[es,if_neg e]at hw
   refine kQ (kq rfl (zC (k_seq (k_cT rfl (kH (by omega)) (zJ (k_seq (zH (kQ (zX (u:=.int .i64 (x)) rfl ty22 rfl rfl (Int.natCast_nonneg _) (by simp[hx]) cl3 ?_)))))))))
   refine kE sh3 rfl ?_
   refine zB rfl (zC (kQ (zA rfl (zA rfl (ku rfl (zC (k_cF rfl (kI (by omega)) (zJ (k_region ?_)))))))))
   refine kB rfl (by unfold I64;omega) (zA rfl (zC ?_))
   exact⟨kk - 1,by omega,i+1,by omega,hw,rfl,.c4 rfl rfl rfl rfl (.nil rfl)⟩
 ·have hd:l.drop i=[]:=List.drop_eq_nil_of_le (by omega)
  rw[hd]at hw
  change z=0 at hw
  subst hw
  refine kQ (kq rfl (zC (k_seq (k_cF rfl (kI (by omega)) (zr (kQ (zA rfl (zB rfl (zC (zS ?_))))))))))
  refine⟨.inr rfl,_,.cons _ _ _ _ (.tmp 2) .nil,?_⟩
  exact .refl _
theorem or_lt(w:List Int→Int)(a c:List Int):decide (orI [cmpI (w a) (w c),cmpI a.length c.length,cmpL a c]<0)=ltB w a c:=by
 unfold ltB orI orI orI cmpI
 rw[←cmpL_soon a c]
 generalize cmpL a c=z
 generalize w a=x
 generalize w c=y
 by_cases h1:x<y
 ·rw[if_pos h1,if_pos (by decide),kH h1];rfl
 ·rw[if_neg h1,kI h1,Bool.false_or]
  by_cases h2:y<x
  ·rw[if_pos h2,if_pos (by decide),kI (show ¬ x=y by omega)];rfl
  ·rw[if_neg h2,if_neg (by decide),kH (show x=y by omega),Bool.true_and]
   by_cases h3:(a.length:Int)<c.length
   ·rw[if_pos h3,if_pos (by decide),kH (show a.length<c.length by omega)];rfl
   ·rw[if_neg h3,kI (show ¬ a.length<c.length by omega),Bool.false_or]
    by_cases h4:(c.length:Int)<a.length
    ·rw[if_pos h4,if_pos (by decide),kI (show ¬ a.length=c.length by omega)];rfl
    ·rw[if_neg h4,if_neg (by decide),kH (show a.length=c.length by omega),Bool.true_and]
     unfold orI
     by_cases h5:z≠0
     ·rw[if_pos h5]
     ·have:z=0:=by omega
      subst this;rfl
set_option maxHeartbeats 8000000 in
theorem ret88(hi:Off is){b:Bk}(h:BOk b){L M:List Int}(hl:L.length≤64)(hr:∀x∈L,0≤x∧x<b.scenes.length)(hl2:M.length≤64)(hr2:∀x∈M,0≤x∧x<b.scenes.length):RetP Tryd.prog is orc 88 [b.u,.lst .ro 1 (zE L),.lst .ro 1 (zE M)] (.bool (ltB (wt b) L M)):=by
 have q1:=ret72 (orc:=orc) hi h hl hr
 have q2:=ret72 (orc:=orc) hi h hl2 hr2
 have q3:=ret100 (orc:=orc) hi (wt b L) (wt b M)
 have q4:=ret100 (orc:=orc) hi L.length M.length
 have q5:=ret101 (orc:=orc) hi L M (by omega) (by omega)
 have q6:=ret99 (orc:=orc) hi [cmpI (wt b L) (wt b M),cmpI L.length M.length,cmpL L M] (by simp)
 rw[←or_lt]
 refine zp body88 pure88 (hi 88 (by decide)) rfl rfl (zCr (wU b 4) (zR 6 .ro (fun h=>by cases h) 1 L) (zR 6 .ro (fun h=>by cases h) 1 M)) (.inl (.bool _ _)) ?_
 generalize orI [cmpI (wt b L) (wt b M),cmpI L.length M.length,cmpL L M]=o at*
 refine kQ (yB rfl rfl (zB rfl (zC ?_)))
 refine zF [(1,.lst .ro 1 (zE L)),(2,.lst .ro 1 (zE M)),(3,U.box 0 0)] ([SB.box (Bk.cs b)]) (.n3 rfl) rfl fun fr=>?_
 refine k_seq (wH [.read true,.plain,.read false,.read true,.plain,.read false,.read false,.plain,.read true,.plain,.read true,.plain,.plain,.plain,.plain,.plain,.plain,.plain,.plain] (by kernel_rfl) (by kernel_rfl) (by kernel_rfl) ?_)
 refine zV rfl (kD sh70 rfl (zC rfl)) ?_
 refine zD (zA rfl (zC rfl)) (zDf rfl (q1) (.int _ _) (.lrefl _) ?_)
 refine zV rfl (kD sh70 rfl (zC rfl)) ?_
 refine zD (zA rfl (zC rfl)) (zDf rfl (q2) (.int _ _) (.lrefl _) ?_)
 refine zDf rfl (q3) (.int _ _) (.lrefl _) ?_
 refine zD (zA rfl (zC rfl)) (zV rfl (zP rfl ty83 rfl (List.length_map _) (zC rfl)) ?_)
 refine yY [(1,.lst .ro 1 (zE L)),(2,.lst .ro 1 (zE M)),(13,.int .i64 (cmpI (wt b L) (wt b M))),(15,.int .i64 ↑(List.length L))] [] ([SB.box (Bk.cs b)]) (.n4 rfl) rfl rfl fun fr=>?_
 refine zD (zA rfl (zC rfl)) (zV rfl (zP rfl ty83 rfl (List.length_map _) (zC rfl)) ?_)
 refine zD (zG rfl (q4) (.lrefl _) (zC rfl)) ?_
 refine zD (zA rfl (zC rfl)) (zD (zA rfl (zC rfl)) (zD (zG rfl (q5) (.lrefl _) (zC rfl)) ?_))
 refine zD (wW (es:=[.int .i64 (cmpI (wt b L) (wt b M)),.int .i64 (cmpI ↑(List.length L) ↑(List.length M)),.int .i64 (cmpL L M)]) rfl ty22 ze3 cl3 rfl rfl rfl rfl rfl rfl rfl rfl (zC rfl)) ?_
 refine zD (zG rfl (q6) (.lcons _ _ _ _ (.ro _ _ _) (.lrefl _)) (zC rfl)) ?_
 refine zD (kq rfl (zC rfl)) ?_
 refine yY [(24,U.bool (decide (o<(0:Int))))] [] ([SB.box (Bk.cs b)]) (.n1 rfl) rfl rfl fun fr=>?_
 refine zD (zB rfl (zC rfl)) ?_
 refine zAo ?_
 refine zS ?_
 refine⟨.inr rfl,_,.cons _ _ _ _ (.tmp 6) .nil,?_⟩
 exact .refl _
def idxI:List Int→Int→Nat→Int
 |[],_,_=> -1
 |y::l,x,k=>if x=y then k else idxI l x (k+1)
theorem idx_mem:∀(l:List Int) (x:Int) (k:Nat),decide (0≤idxI l x k)=decide (x∈l):=by
 intro l
 induction l with
 |nil=>intro x k;simp[idxI]
 |cons y l ih=>
  intro x k
  unfold idxI
  by_cases e:x=y
  ·rw[if_pos e,kH (show(0:Int)≤k by omega),kH (by rw[e];exact List.mem_cons_self)]
  ·rw[if_neg e,ih]
   exact decide_eq_decide.2 ⟨fun h=>List.mem_cons_of_mem _ h,fun h=>by rcases List.mem_cons.1 h with h|h;exact absurd h e;exact h⟩
set_option maxHeartbeats 8000000 in
theorem ret110(hi:Off is)(l:List Int)(x:Int)(hl:l.length≤4096):RetP Tryd.prog is orc 110 [.lst .ro 1 (zE l),.int .i64 x] (.int .i64 (idxI l x 0)):=by
 refine zp body110 pure110 (hi 110 (by decide)) rfl rfl (zu (zR 6 .ro (fun h=>by cases h) 1 l) (.int _ _ _)) (.inl (.int _ _ _)) ?_
 generalize hz:idxI l x 0=z
 refine kQ (zB rfl (zC (k_seq (kQ (zA rfl (zP rfl ty83 rfl (List.length_map _) ?_))))))
 refine zA rfl (zC (zH ?_))
 refine yR (fun kk s2=>∃i:Nat,kk+i=l.length∧z=idxI (l.drop i) x i∧s2.st=[]∧Holds s2 [(0,.lst .ro 1 (zE l)),(1,.int .i64 x),(7,.int .i64 l.length),(8,.int .i64 i)]) (fun kk s2 hI=>?_) l.length _ ⟨0,rfl,hz.symm,rfl,.c4 rfl rfl rfl rfl (.nil rfl)⟩
 obtain⟨i,hk,hw,hst2,hs2⟩:=hI
 clear hz
 refine zF _ _ hs2 hst2 fun fr2=>?_
 by_cases hin:i<l.length
 ·obtain⟨y,hy⟩:∃y,l[i]? =some y:=⟨l[i],List.getElem?_eq_getElem hin⟩
  rw[zAr hy]at hw
  have es:idxI (y::l.drop (i+1)) x i=if x=y then(i:Int)else idxI (l.drop (i+1)) x (i+1):=rfl
  by_cases e:x=y
  ·rw[es,if_pos e]at hw
   subst hw
   refine kQ (kq rfl (zC (k_seq (k_cT rfl (kH (by omega)) (zJ (k_seq (zH (kQ (zA rfl (zB rfl (zC (kQ (zA rfl (zA rfl (zA rfl ?_)))))))))))))))
   refine zX (u:=.int .i64 (y)) rfl ty83 rfl rfl (Int.natCast_nonneg _) (by simp[hy]) cl3 ?_
   refine kE sh3 rfl ?_
   refine kw rfl (zC (k_cT rfl (kH (by omega)) (kQ (zA rfl (zB rfl (zC (zS ?_)))))))
   refine⟨.inr rfl,_,.cons _ _ _ _ (.tmp 4) .nil,?_⟩
   exact .refl _
  ·rw[es,if_neg e]at hw
   refine kQ (kq rfl (zC (k_seq (k_cT rfl (kH (by omega)) (zJ (k_seq (zH (kQ (zA rfl (zB rfl (zC (kQ (zA rfl (zA rfl (zA rfl ?_)))))))))))))))
   refine zX (u:=.int .i64 (y)) rfl ty83 rfl rfl (Int.natCast_nonneg _) (by simp[hy]) cl3 ?_
   refine kE sh3 rfl ?_
   refine kw rfl (zC (k_cF rfl (kI (by omega)) (zJ (k_region ?_))))
   refine kB rfl (by unfold I64;omega) (zA rfl (zC ?_))
   exact⟨kk - 1,by omega,i+1,by omega,hw,rfl,.c4 rfl rfl rfl rfl (.nil rfl)⟩
 ·have hd:l.drop i=[]:=List.drop_eq_nil_of_le (by omega)
  rw[hd]at hw
  change z= -1 at hw
  subst hw
  refine kQ (kq rfl (zC (k_seq (k_cF rfl (kI (by omega)) (zr (kQ (zB rfl (zC (zS ?_)))))))))
  refine⟨.inr rfl,_,.cons _ _ _ _ (.tmp 4) .nil,?_⟩
  exact .refl _
theorem ret98(hi:Off is)(l:List Int)(x:Int)(hl:l.length≤4096):RetP Tryd.prog is orc 98 [.lst .ro 1 (zE l),.int .i64 x] (.bool (decide (x∈l))):=by
 have q:=ret110 (orc:=orc) hi l x hl
 rw[←idx_mem l x 0]
 refine zp body98 pure98 (hi 98 (by decide)) rfl rfl (zu (zR 6 .ro (fun h=>by cases h) 1 l) (.int _ _ _)) (.inl (.bool _ _)) ?_
 refine kQ (zB rfl (zC (kQ (zA rfl (zA rfl (zG rfl (q) (.lrefl _) (zFo rfl rfl rfl (zB rfl (zC (zS ?_))))))))))
 refine⟨.inr rfl,_,.cons _ _ _ _ (.tmp 4) .nil,?_⟩
 exact .refl _
theorem ret87(hi:Off is)(l:List Int)(x:Int)(hl:l.length≤4096):RetP Tryd.prog is orc 87 [.lst .ro 1 (zE l),.int .i64 x] (.bool (decide (x∈l))):=by
 have q:=ret98 (orc:=orc) hi l x hl
 refine zp body87 pure87 (hi 87 (by decide)) rfl rfl (zu (zR 6 .ro (fun h=>by cases h) 1 l) (.int _ _ _)) (.inl (.bool _ _)) ?_
 refine kQ (zB rfl (zC (kQ (zA rfl (zA rfl (zG rfl (q) (.lrefl _) (zB rfl (zC (zS ?_)))))))))
 refine⟨.inr rfl,_,.cons _ _ _ _ (.tmp 4) .nil,?_⟩
 exact .refl _
set_option maxHeartbeats 8000000 in
theorem ret39(hi:Off is)(l:List Int)(x:Int)(hl:l.length≤4096):RetP Tryd.prog is orc 39 [.lst .ro 1 (zE l),.int .i64 x] (.int .i64 (idxI l x 0)):=by
 refine zp body39 pure39 (hi 39 (by decide)) rfl rfl (zu (zR 6 .ro (fun h=>by cases h) 1 l) (.int _ _ _)) (.inl (.int _ _ _)) ?_
 generalize hz:idxI l x 0=z
 refine kQ (zB rfl (zC (k_seq (kQ (zB rfl (zC (zH ?_)))))))
 refine yR (fun kk s2=>∃i:Nat,kk+i=l.length∧z=idxI (l.drop i) x i∧s2.st=[]∧Holds s2 [(0,.lst .ro 1 (zE l)),(1,.int .i64 x),(5,.int .i64 i)]) (fun kk s2 hI=>?_) l.length _ ⟨0,rfl,hz.symm,rfl,.cons rfl (.n2 rfl)⟩
 obtain⟨i,hk,hw,hst2,hs2⟩:=hI
 clear hz
 refine zF _ _ hs2 hst2 fun fr2=>?_
 by_cases hin:i<l.length
 ·obtain⟨y,hy⟩:∃y,l[i]? =some y:=⟨l[i],List.getElem?_eq_getElem hin⟩
  rw[zAr hy]at hw
  have es:idxI (y::l.drop (i+1)) x i=if x=y then(i:Int)else idxI (l.drop (i+1)) x (i+1):=rfl
  by_cases e:x=y
  ·rw[es,if_pos e]at hw
   subst hw
   refine k_seq (kQ (zA rfl (zA rfl (zP rfl ty22 rfl (List.length_map _) ?_))))
   refine kq rfl (zC (k_cT rfl (kH (by omega)) (zJ (k_seq (zH (kQ (zA rfl (zA rfl (zX (u:=.int .i64 (y)) rfl ty22 rfl rfl (Int.natCast_nonneg _) (by simp[hy]) cl3 ?_)))))))))
   refine kE sh3 rfl ?_
   refine zA rfl (kw rfl (zC (k_cT rfl (kH (by omega)) (kQ (zA rfl (zB rfl (zC (zS ?_))))))))
   refine⟨.inr rfl,_,.cons _ _ _ _ (.tmp 4) .nil,?_⟩
   exact .refl _
  ·rw[es,if_neg e]at hw
   refine k_seq (kQ (zA rfl (zA rfl (zP rfl ty22 rfl (List.length_map _) ?_))))
   refine kq rfl (zC (k_cT rfl (kH (by omega)) (zJ (k_seq (zH (kQ (zA rfl (zA rfl (zX (u:=.int .i64 (y)) rfl ty22 rfl rfl (Int.natCast_nonneg _) (by simp[hy]) cl3 ?_)))))))))
   refine kE sh3 rfl ?_
   refine zA rfl (kw rfl (zC (k_cF rfl (kI (by omega)) (zJ (k_region (zA rfl ?_))))))
   refine kB rfl (by unfold I64;omega) (zB rfl (zC ?_))
   exact⟨kk - 1,by omega,i+1,by omega,hw,rfl,.cons rfl (.n2 rfl)⟩
 ·have hd:l.drop i=[]:=List.drop_eq_nil_of_le (by omega)
  rw[hd]at hw
  change z= -1 at hw
  subst hw
  refine k_seq (kQ (zA rfl (zA rfl (zP rfl ty22 rfl (List.length_map _) ?_))))
  refine kq rfl (zC (k_cF rfl (kI (by omega)) (zr (kQ (zB rfl (zC (zS ?_)))))))
  refine⟨.inr rfl,_,.cons _ _ _ _ (.tmp 4) .nil,?_⟩
  exact .refl _
end
section
variable {is:FuncId→Bool}{orc:Known}
theorem fld137_0:zt Tryd.prog 137 0=some (0,48):=by kernel_rfl
noncomputable def b120:Code:=(Tryd.f120.body).getD .skip
theorem body120:bodyOf Tryd.prog 120=some (6,b120,[.tmp 2]):=by kernel_rfl
theorem pure120:pureFn Tryd.prog 120=true:=by kernel_rfl
noncomputable def b121:Code:=(Tryd.f121.body).getD .skip
theorem body121:bodyOf Tryd.prog 121=some (6,b121,[.tmp 2]):=by kernel_rfl
theorem pure121:pureFn Tryd.prog 121=true:=by kernel_rfl
theorem cl134:Program.cellsOf Tryd.prog 134=1:=by kernel_rfl
theorem pl146:zGR Tryd.prog 146=some [(0,1),(1,1)]:=by kernel_rfl
theorem sh134:shOf Tryd.prog 134=.one:=by kernel_rfl
theorem sh146:shOf Tryd.prog 146=.many 2:=by kernel_rfl
theorem ty146:tyOf Tryd.prog 146=.array 2 134:=by kernel_rfl
theorem ze146:yZ Tryd.prog 146=some ((.cons .nilf (.cons .nilf .nil)):V):=by kernel_rfl
noncomputable def b109:Code:=(Tryd.f109.body).getD .skip
theorem body109:bodyOf Tryd.prog 109=some (8,b109,[.tmp 2]):=by kernel_rfl
theorem pure109:pureFn Tryd.prog 109=false:=by kernel_rfl
theorem zBd:zt Tryd.prog 72 0=some (0,70):=by kernel_rfl
theorem wK:zt Tryd.prog 72 1=some (10,22):=by kernel_rfl
theorem pl137:zGR Tryd.prog 137=some [(0,2)]:=by kernel_rfl
theorem ze137:yZ Tryd.prog 137=some ((.cons (.int .i64 0) (.cons (.int .i64 0) .nil)):V):=by kernel_rfl
noncomputable def b97:Code:=(Tryd.f97.body).getD .skip
theorem body97:bodyOf Tryd.prog 97=some (59,b97,[.tmp 8]):=by kernel_rfl
theorem pure97:pureFn Tryd.prog 97=true:=by kernel_rfl
theorem ret120(hi:Off is)(a b:Int):RetP Tryd.prog is orc 120 [wQ a b] (.int .i64 a):=by
 refine zp body120 pure120 (hi 120 (by decide)) rfl rfl (zCT (zCI a b 6)) (.inl (.int _ _ _)) ?_
 refine kQ (yB rfl rfl (zB rfl (zC ?_)))
 refine zF [(1,U.box 0 0)] ([SB.box [.int .i64 a,.int .i64 b]]) (.n1 rfl) rfl fun fr=>?_
 refine kQ (kA rfl fld137_0 (kA rfl wD (kC sh3 rfl (zB rfl (zC (zS ?_))))))
 refine⟨.inr rfl,_,.cons _ _ _ _ (.tmp 2) .nil,?_⟩
 exact .refl _
theorem ret121(hi:Off is)(a b:Int):RetP Tryd.prog is orc 121 [wQ a b] (.int .i64 b):=by
 refine zp body121 pure121 (hi 121 (by decide)) rfl rfl (zCT (zCI a b 6)) (.inl (.int _ _ _)) ?_
 refine kQ (yB rfl rfl (zB rfl (zC ?_)))
 refine zF [(1,U.box 0 0)] ([SB.box [.int .i64 a,.int .i64 b]]) (.n1 rfl) rfl fun fr=>?_
 refine kQ (kA rfl fld137_0 (kA rfl ym (kC sh3 rfl (zB rfl (zC (zS ?_))))))
 refine⟨.inr rfl,_,.cons _ _ _ _ (.tmp 2) .nil,?_⟩
 exact .refl _
theorem at_ps{l m:List SB}{i k:Nat}{x y:SB}(h:l[i]? =some x)(hk:l.length≤k):((l++m).set k y)[i]? =some x:=by
 have hi:=(List.getElem?_eq_some_iff.1 h).1
 rw[List.getElem?_set_ne (by omega),List.getElem?_append_left hi,h]
theorem nb_fn0(f:Nat):NB (.fn f [] []):=NB.fn (fun u hu=>by cases hu) (fun u hu=>by cases hu)
theorem ret109a(hi:Off is):RetP Tryd.prog is orc 109 [.int .i64 0] (.fn 120 [] []):=by
 refine zDl body109 pure109 rfl rfl (fun u hu=>by rcases List.mem_singleton.1 hu with rfl;exact⟨NB.int _ _,NoOwn.of fun z es h=>by cases h⟩) (nb_fn0 _) ?_
 refine kQ (zB rfl (zC (kQ (wk rfl ze146 pl146 rfl rfl ?_))))
 refine zq rfl ze146 ?_
 refine zZ rfl rfl sh146 rfl rfl rfl rfl rfl ?_
 refine zC ?_
 refine zF [(0,.int .i64 0),(3,U.box 0 0)] ([SB.box [U.fn 120 [] [],U.fn 121 [] []]]) (.n2 rfl) rfl fun fr=>?_
 refine kQ (zA rfl (zCm rfl ty146 rfl rfl (by omega) (by omega) cl134 ?_))
 refine kC sh134 rfl (zB rfl (zC (zS ?_)))
 refine⟨.inr rfl,_,.cons _ _ _ _ (.tmp 2) .nil,?_⟩
 exact .refl _
theorem ret109b(hi:Off is):RetP Tryd.prog is orc 109 [.int .i64 1] (.fn 121 [] []):=by
 refine zDl body109 pure109 rfl rfl (fun u hu=>by rcases List.mem_singleton.1 hu with rfl;exact⟨NB.int _ _,NoOwn.of fun z es h=>by cases h⟩) (nb_fn0 _) ?_
 refine kQ (zB rfl (zC (kQ (wk rfl ze146 pl146 rfl rfl ?_))))
 refine zq rfl ze146 ?_
 refine zZ rfl rfl sh146 rfl rfl rfl rfl rfl ?_
 refine zC ?_
 refine zF [(0,.int .i64 1),(3,U.box 0 0)] ([SB.box [U.fn 120 [] [],U.fn 121 [] []]]) (.n2 rfl) rfl fun fr=>?_
 refine kQ (zA rfl (zCm rfl ty146 rfl rfl (by omega) (by omega) cl134 ?_))
 refine kC sh134 rfl (zB rfl (zC (zS ?_)))
 refine⟨.inr rfl,_,.cons _ _ _ _ (.tmp 2) .nil,?_⟩
 exact .refl _
def endI(e:Bool)(q:Sc):Int:=if e=true then q.hi else q.lo
def endN(e:Bool):Int:=if e=true then 1 else 0
def wayN(e:Bool):Nat:=if e=true then 121 else 120
theorem retWay(hi:Off is)(e:Bool):RetP Tryd.prog is orc 109 [.int .i64 (endN e)] (.fn (wayN e) [] []):=by
 cases e with
 |true=>exact ret109b hi
 |false=>exact ret109a hi
theorem retEnd(hi:Off is)(e:Bool)(q:Sc):RetP Tryd.prog is orc (wayN e) [wQ q.lo q.hi] (.int .i64 (endI e q)):=by
 cases e with
 |true=>exact ret121 hi _ _
 |false=>exact ret120 hi _ _
def tkI(d:List Int)(e:Bool)(i:Nat)(q:Sc):Int:=if i<d.length then(d[i]?).getD 0 else endI e q
def elM(d L:List Int)(p:Int)(e:Bool)(i:Nat)(q:Sc):List Int:=if q.part≠p∨(i:Int)∈L then []else [tkI d e i q]
def mnS(b:Bk)(d L:List Int)(p:Int)(e:Bool):Nat→List Int
 |0=>[]
 |i+1=>mnS b d L p e i++(match b.scenes[i]? with|none=>[]|some q=>elM d L p e i q)
structure DOk(b:Bk)(d:List Int):Prop where
 len:d.length≤b.scenes.length
 rg:∀x∈d, -1≤x∧x≤600
theorem mnS_at{b:Bk}{d L:List Int}{p:Int}{e:Bool}{i:Nat}{q:Sc}(h:b.scenes[i]? =some q):mnS b d L p e (i+1)=mnS b d L p e i++elM d L p e i q:=by
 show _++(match b.scenes[i]? with|none=>[]|some q=>elM d L p e i q)=_
 rw[h]
theorem mnS_b{b:Bk}(h:BOk b){d L:List Int}(hd:DOk b d)(p:Int)(e:Bool)(i:Nat):(mnS b d L p e i).length≤i∧∀x∈mnS b d L p e i, -1≤x∧x≤600:=by
 induction i with
 |zero=>exact⟨Nat.le_refl _,fun x hx=>by cases hx⟩
 |succ i ih=>
  unfold mnS
  cases hq:b.scenes[i]? with
  |none=>simp only[List.append_nil];exact⟨by omega,ih.2⟩
  |some q=>
   have hs:=h.sc i q hq
   simp only
   unfold elM
   split
   ·simp only[List.append_nil];exact⟨by omega,ih.2⟩
   ·refine⟨by simp;omega,fun x hx=>?_⟩
    rcases List.mem_append.1 hx with hx|hx
    ·exact ih.2 x hx
    ·rcases List.mem_singleton.1 hx with rfl
     unfold tkI
     split
     ·rename_i hid
      rw[List.getElem?_eq_getElem hid]
      exact hd.rg _ (List.getElem_mem _)
     ·unfold endI;split<;>omega
set_option maxHeartbeats 8000000 in
theorem ret97(hi:Off is){b:Bk}(h:BOk b){d L:List Int}(hd:DOk b d)(hL:L.length≤64)(p:Int)(e:Bool):RetP Tryd.prog is orc 97 [crU b d,.lst .ro 1 (zE L),.int .i64 p,.int .i64 (endN e)] (.lst .ro 1 (zE (mnS b d L p e b.scenes.length))):=by
 refine zp body97 pure97 (hi 97 (by decide)) rfl rfl (fun u hu=>?_) (.inl (zR 6 .ro (fun h=>by cases h) 1 _)) ?_
 ·simp only[List.mem_cons,List.not_mem_nil,or_false]at hu
  rcases hu with rfl|rfl|rfl|rfl
  ·exact zBp b d 4
  ·exact zR 6 .ro (fun h=>by cases h) 1 L
  ·exact .int _ _ _
  ·exact .int _ _ _
 have hn:=h.sn
 have q109:=retWay (orc:=orc) hi e
 refine kQ (yB rfl rfl (zB rfl (zC ?_)))
 refine zF [(1,.lst .ro 1 (zE L)),(2,.int .i64 p),(3,.int .i64 (endN e)),(4,U.box 0 0)] ([SB.box (Bk.cd b d)]) (.n4 rfl) rfl fun fr=>?_
 refine kQ (zB rfl (zC (kQ (zA rfl (zG rfl (q109) (.lrefl _) (zB rfl (zC (k_seq (kQ (kA rfl zBd (kA rfl wL (kA rfl ze (kC sh23 rfl (zP rfl ty23 rfl (List.length_map _) ?_))))))))))))))
 refine zA rfl (zC (zH ?_))
 obtain⟨V,hV⟩:∃V:List SB,V=[.box (Bk.cd b d)]:=⟨_,rfl⟩
 refine yR (fun kk s2=>∃i:Nat,kk+i=b.scenes.length∧(∃ev,s2.st=V++ev)∧Holds s2 [(1,.lst .ro 1 (zE L)),(2,.int .i64 p),(4,.box 0 0),(9,accI (mnS b d L p e i)),(10,.fn (wayN e) [] []),(18,.lst .ro 5 (scsU b.scenes)),(19,.int .i64 b.scenes.length),(20,.int .i64 i)]) (fun kk s2 hI=>?_) b.scenes.length _ ⟨0,rfl,⟨[],by rw[hV];rfl⟩,.c4 rfl rfl rfl rfl (.n4 rfl)⟩
 obtain⟨i,hk,⟨ev,hst2⟩,hs2⟩:=hI
 have hlen:=(mnS_b (L:=L) h hd p e i).1
 generalize hY:V++ev=Y at hst2
 have y0:Y[0]? =some (.box (Bk.cd b d)):=by rw[←hY,hV];rfl
 by_cases hin:i<b.scenes.length
 ·obtain⟨q,hq⟩:∃q,b.scenes[i]? =some q:=⟨b.scenes[i],List.getElem?_eq_getElem hin⟩
  have hsu:=mnS_at (d:=d) (L:=L) (p:=p) (e:=e) hq
  have qE:=retEnd (orc:=orc) hi e q
  have q87:=ret87 (orc:=orc) hi L i (by omega)
  have hdl:=hd.len
  unfold elM at hsu
  generalize mnS b d L p e i=M at*
  refine zF _ _ hs2 hst2 fun fr2=>?_
  by_cases c1:q.part≠p
  ·rw[if_pos (.inl c1),List.append_nil]at hsu
   refine kQ (kq rfl (zC (k_seq (k_cT rfl (kH (by omega)) (zJ (k_seq (zH (kQ (zA rfl (zX (u:=(q).u) rfl ty23 rfl rfl (Int.natCast_nonneg _) (by simp[hq]) cl50 ?_))))))))))
   refine yi rfl rfl sh50 rfl ?_
   refine zq rfl ze50 ?_
   refine zB rfl (zZ rfl (za _ _) sh50 rfl rfl rfl rfl rfl ?_)
   refine zC ?_
   refine zF [(1,.lst .ro 1 (zE L)),(2,.int .i64 p),(4,U.box 0 0),(9,accI M),(10,U.fn (wayN e) [] []),(11,.int .i64 ↑i),(12,U.box (List.length Y) 0),(18,.lst .ro 5 (scsU (Bk.scenes b))),(19,.int .i64 ↑(List.length (Bk.scenes b))),(20,.int .i64 ↑i)] (Y++[SB.box [.int .i64 (Sc.part q),.int .i64 (Sc.wt q),.int .i64 (Sc.lo q),.int .i64 (Sc.hi q),U.bool (Sc.must q)]]) (.n10 rfl) (yc _ _ _) fun fr=>?_
   refine zH (kQ (kA rfl yx (zQ rfl rfl (za _ _) sh3 rfl ?_)))
   refine zA rfl (ku rfl (zA rfl (kg rfl (kH (by omega)) (kg rfl (kH (by omega)) (kg rfl (kH (by omega)) (zc rfl rfl (kH (by omega)) ?_))))))
   refine zB rfl (zC (k_cT rfl rfl ?_))
   refine zJ (k_region ?_)
   refine kB rfl (by unfold I64;omega) (zA rfl (zC ?_))
   exact⟨kk - 1,by omega,i+1,by omega,⟨_,by first|(show Y++_=_;exact grow hY)|(show(Y++[SB.box _]).set Y.length (SB.box _)=_;rw[yc];exact grow hY)⟩,.cons rfl (.cons rfl (.cons rfl (.cons (congrArg accI hsu.symm) (.n4 rfl))))⟩
  ·by_cases c2:(i:Int)∈L
   ·rw[if_pos (.inr c2),List.append_nil]at hsu
    rw[kH c2]at q87
    refine kQ (kq rfl (zC (k_seq (k_cT rfl (kH (by omega)) (zJ (k_seq (zH (kQ (zA rfl (zX (u:=(q).u) rfl ty23 rfl rfl (Int.natCast_nonneg _) (by simp[hq]) cl50 ?_))))))))))
    refine yi rfl rfl sh50 rfl ?_
    refine zq rfl ze50 ?_
    refine zB rfl (zZ rfl (za _ _) sh50 rfl rfl rfl rfl rfl ?_)
    refine zC ?_
    refine zF [(1,.lst .ro 1 (zE L)),(2,.int .i64 p),(4,U.box 0 0),(9,accI M),(10,U.fn (wayN e) [] []),(11,.int .i64 ↑i),(12,U.box (List.length Y) 0),(18,.lst .ro 5 (scsU (Bk.scenes b))),(19,.int .i64 ↑(List.length (Bk.scenes b))),(20,.int .i64 ↑i)] (Y++[SB.box [.int .i64 (Sc.part q),.int .i64 (Sc.wt q),.int .i64 (Sc.lo q),.int .i64 (Sc.hi q),U.bool (Sc.must q)]]) (.n10 rfl) (yc _ _ _) fun fr=>?_
    refine zH (kQ (kA rfl yx (zQ rfl rfl (za _ _) sh3 rfl ?_)))
    refine zA rfl (ku rfl (zA rfl (kh rfl (kI (by omega)) (zA rfl (kh rfl (kI (by omega)) (zA rfl (kh rfl (kI (by omega)) (zG rfl (q87) (.lrefl _) (zW rfl rfl (kI (by omega)) ?_)))))))))
    refine zB rfl (zC (k_cT rfl rfl ?_))
    refine zJ (k_region ?_)
    refine kB rfl (by unfold I64;omega) (zA rfl (zC ?_))
    exact⟨kk - 1,by omega,i+1,by omega,⟨_,by first|(show Y++_=_;exact grow hY)|(show(Y++[SB.box _]).set Y.length (SB.box _)=_;rw[yc];exact grow hY)⟩,.cons rfl (.cons rfl (.cons rfl (.cons (congrArg accI hsu.symm) (.n4 rfl))))⟩
   ·rw[if_neg (by rintro(h|h);exact c1 h;exact c2 h)]at hsu
    rw[kI c2]at q87
    unfold tkI at hsu
    by_cases c3:i<d.length
    ·obtain⟨y,hy⟩:∃y,d[i]? =some y:=⟨d[i],List.getElem?_eq_getElem c3⟩
     rw[if_pos c3,hy]at hsu
     have hsu:mnS b d L p e (i+1)=M++[y]:=hsu
     cases M with
     |nil=>
      refine kQ (kq rfl (zC (k_seq (k_cT rfl (kH (by omega)) (zJ (k_seq (zH (kQ (zA rfl (zX (u:=(q).u) rfl ty23 rfl rfl (Int.natCast_nonneg _) (by simp[hq]) cl50 ?_))))))))))
      refine yi rfl rfl sh50 rfl ?_
      refine zq rfl ze50 ?_
      refine zB rfl (zZ rfl (za _ _) sh50 rfl rfl rfl rfl rfl ?_)
      refine zC ?_
      refine zF [(1,.lst .ro 1 (zE L)),(2,.int .i64 p),(4,U.box 0 0),(9,accI []),(10,U.fn (wayN e) [] []),(11,.int .i64 ↑i),(12,U.box (List.length Y) 0),(18,.lst .ro 5 (scsU (Bk.scenes b))),(19,.int .i64 ↑(List.length (Bk.scenes b))),(20,.int .i64 ↑i)] (Y++[SB.box [.int .i64 (Sc.part q),.int .i64 (Sc.wt q),.int .i64 (Sc.lo q),.int .i64 (Sc.hi q),U.bool (Sc.must q)]]) (.n10 rfl) (yc _ _ _) fun fr=>?_
      refine zH (kQ (kA rfl yx (zQ rfl rfl (za _ _) sh3 rfl ?_)))
      refine zA rfl (ku rfl (zA rfl (kh rfl (kI (by omega)) (zA rfl (kh rfl (kI (by omega)) (zA rfl (kh rfl (kI (by omega)) (zG rfl (q87) (.lrefl _) (zW rfl rfl (kI (by omega)) ?_)))))))))
      refine zB rfl (zC (k_cF rfl rfl ?_))
      refine kQ (zA rfl (kA rfl wK (zQ rfl rfl (yL y0) sh22 rfl ?_)))
      refine zP rfl ty22 rfl (List.length_map _) ?_
      refine kq rfl (zB rfl (zC (k_cT rfl (kH (by omega)) (k_region (zA rfl (kA rfl wK (zQ rfl rfl (yL y0) sh22 rfl ?_)))))))
      refine zA rfl (zX (u:=.int .i64 (y)) rfl ty22 rfl rfl (Int.natCast_nonneg _) (by simp[hy]) cl3 ?_)
      refine kE sh3 rfl ?_
      refine wW (es:=[.int .i64 y]) rfl ty22 ze3 cl3 rfl rfl rfl rfl rfl rfl rfl rfl ?_
      refine wC rfl wF rfl rfl (by simp) (by simp) (by simp[yF,zg,oneU]) (by simp) ?_
      refine zB rfl (zC ?_)
      refine zF [(1,.lst .ro 1 (zE L)),(2,.int .i64 p),(4,U.box 0 0),(9,U.lst Kd.own 1 [.int .i64 y]),(10,U.fn (wayN e) [] []),(18,.lst .ro 5 (scsU (Bk.scenes b))),(19,.int .i64 ↑(List.length (Bk.scenes b))),(20,.int .i64 ↑i)] (Y++[SB.box [.int .i64 (Sc.part q),.int .i64 (Sc.wt q),.int .i64 (Sc.lo q),.int .i64 (Sc.hi q),U.bool (Sc.must q)]]) (.n8 rfl) rfl fun fr=>?_
      refine k_region ?_
      refine kB rfl (by unfold I64;omega) (zA rfl (zC ?_))
      exact⟨kk - 1,by omega,i+1,by omega,⟨_,by first|(show Y++_=_;exact grow hY)|(show(Y++[SB.box _]).set Y.length (SB.box _)=_;rw[yc];exact grow hY)⟩,.cons rfl (.cons rfl (.cons rfl (.cons (by rw[hsu];rfl) (.n4 rfl))))⟩
     |cons z M=>
      refine kQ (kq rfl (zC (k_seq (k_cT rfl (kH (by omega)) (zJ (k_seq (zH (kQ (zA rfl (zX (u:=(q).u) rfl ty23 rfl rfl (Int.natCast_nonneg _) (by simp[hq]) cl50 ?_))))))))))
      refine yi rfl rfl sh50 rfl ?_
      refine zq rfl ze50 ?_
      refine zB rfl (zZ rfl (za _ _) sh50 rfl rfl rfl rfl rfl ?_)
      refine zC (zH (kQ (kA rfl yx (zQ rfl rfl (zBV _ _ _) sh3 rfl ?_))))
      refine zA rfl (ku rfl (zA rfl (kh rfl (kI (by omega)) (zA rfl (kh rfl (kI (by omega)) (zA rfl (kh rfl (kI (by omega)) (zG rfl (q87) (.lrefl _) (zW rfl rfl (kI (by omega)) ?_)))))))))
      refine zB rfl (zC (k_cF rfl rfl ?_))
      refine kQ (zA rfl (kA rfl wK (zQ rfl rfl (at_ps y0 (Nat.le_refl _)) sh22 rfl ?_)))
      refine zP rfl ty22 rfl (List.length_map _) ?_
      refine kq rfl (zB rfl (zC (k_cT rfl (kH (by omega)) (k_region (zA rfl (kA rfl wK (zQ rfl rfl (at_ps y0 (Nat.le_refl _)) sh22 rfl ?_)))))))
      refine zA rfl (zX (u:=.int .i64 (y)) rfl ty22 rfl rfl (Int.natCast_nonneg _) (by simp[hy]) cl3 ?_)
      refine kE sh3 rfl ?_
      refine wW (es:=[.int .i64 y]) rfl ty22 ze3 cl3 rfl rfl rfl rfl rfl rfl rfl rfl ?_
      refine wX 9 rfl wF rfl rfl rfl (by simp) (by simp) (by simp[yF,zg,oneU]) (by simp at hlen ⊢;omega) ?_
      refine zB rfl (zC (k_region ?_))
      refine kB rfl (by unfold I64;omega) (zA rfl (zC ?_))
      exact⟨kk - 1,by omega,i+1,by omega,⟨_,by first|(show Y++_=_;exact grow hY)|(show(Y++[SB.box _]).set Y.length (SB.box _)=_;rw[yc];exact grow hY)⟩,.cons rfl (.cons rfl (.cons rfl (.cons (by rw[hsu,wO];rfl) (.n4 rfl))))⟩
    ·rw[if_neg c3]at hsu
     cases M with
     |nil=>
      refine kQ (kq rfl (zC (k_seq (k_cT rfl (kH (by omega)) (zJ (k_seq (zH (kQ (zA rfl (zX (u:=(q).u) rfl ty23 rfl rfl (Int.natCast_nonneg _) (by simp[hq]) cl50 ?_))))))))))
      refine yi rfl rfl sh50 rfl ?_
      refine zq rfl ze50 ?_
      refine zB rfl (zZ rfl (za _ _) sh50 rfl rfl rfl rfl rfl ?_)
      refine zC ?_
      refine zF [(1,.lst .ro 1 (zE L)),(2,.int .i64 p),(4,U.box 0 0),(9,accI []),(10,U.fn (wayN e) [] []),(11,.int .i64 ↑i),(12,U.box (List.length Y) 0),(18,.lst .ro 5 (scsU (Bk.scenes b))),(19,.int .i64 ↑(List.length (Bk.scenes b))),(20,.int .i64 ↑i)] (Y++[SB.box [.int .i64 (Sc.part q),.int .i64 (Sc.wt q),.int .i64 (Sc.lo q),.int .i64 (Sc.hi q),U.bool (Sc.must q)]]) (.n10 rfl) (yc _ _ _) fun fr=>?_
      refine zH (kQ (kA rfl yx (zQ rfl rfl (za _ _) sh3 rfl ?_)))
      refine zA rfl (ku rfl (zA rfl (kh rfl (kI (by omega)) (zA rfl (kh rfl (kI (by omega)) (zA rfl (kh rfl (kI (by omega)) (zG rfl (q87) (.lrefl _) (zW rfl rfl (kI (by omega)) ?_)))))))))
      refine zB rfl (zC (k_cF rfl rfl ?_))
      refine kQ (zA rfl (kA rfl wK (zQ rfl rfl (yL y0) sh22 rfl ?_)))
      refine zP rfl ty22 rfl (List.length_map _) ?_
      refine kq rfl (zB rfl (zC (k_cF rfl (kI (by omega)) (k_region (zA rfl (zA rfl (kA rfl wM (yK rfl rfl (za _ _) sh48 rfl ?_))))))))
      refine wk rfl ze137 pl137 rfl rfl ?_
      refine zDD rfl rfl qE (.lrefl _) ?_
      refine wW (es:=[.int .i64 (endI e q)]) rfl ty22 ze3 cl3 rfl rfl rfl rfl rfl rfl rfl rfl ?_
      refine wC rfl wF rfl rfl (by simp) (by simp) (by simp[yF,zg,oneU]) (by simp) ?_
      refine zB rfl (zC ?_)
      refine zF [(1,.lst .ro 1 (zE L)),(2,.int .i64 p),(4,U.box 0 0),(9,U.lst Kd.own 1 [.int .i64 (endI e q)]),(10,U.fn (wayN e) [] []),(18,.lst .ro 5 (scsU (Bk.scenes b))),(19,.int .i64 ↑(List.length (Bk.scenes b))),(20,.int .i64 ↑i)] (Y++[SB.box [.int .i64 (Sc.part q),.int .i64 (Sc.wt q),.int .i64 (Sc.lo q),.int .i64 (Sc.hi q),U.bool (Sc.must q)]]) (.n8 rfl) rfl fun fr=>?_
      refine k_region ?_
      refine kB rfl (by unfold I64;omega) (zA rfl (zC ?_))
      exact⟨kk - 1,by omega,i+1,by omega,⟨_,by first|(show Y++_=_;exact grow hY)|(show(Y++[SB.box _]).set Y.length (SB.box _)=_;rw[yc];exact grow hY)⟩,.cons rfl (.cons rfl (.cons rfl (.cons (by rw[hsu];rfl) (.n4 rfl))))⟩
     |cons z M=>
      refine kQ (kq rfl (zC (k_seq (k_cT rfl (kH (by omega)) (zJ (k_seq (zH (kQ (zA rfl (zX (u:=(q).u) rfl ty23 rfl rfl (Int.natCast_nonneg _) (by simp[hq]) cl50 ?_))))))))))
      refine yi rfl rfl sh50 rfl ?_
      refine zq rfl ze50 ?_
      refine zB rfl (zZ rfl (za _ _) sh50 rfl rfl rfl rfl rfl ?_)
      refine zC (zH (kQ (kA rfl yx (zQ rfl rfl (zBV _ _ _) sh3 rfl ?_))))
      refine zA rfl (ku rfl (zA rfl (kh rfl (kI (by omega)) (zA rfl (kh rfl (kI (by omega)) (zA rfl (kh rfl (kI (by omega)) (zG rfl (q87) (.lrefl _) (zW rfl rfl (kI (by omega)) ?_)))))))))
      refine zB rfl (zC (k_cF rfl rfl ?_))
      refine kQ (zA rfl (kA rfl wK (zQ rfl rfl (at_ps y0 (Nat.le_refl _)) sh22 rfl ?_)))
      refine zP rfl ty22 rfl (List.length_map _) ?_
      refine kq rfl (zB rfl (zC (k_cF rfl (kI (by omega)) (k_region (zA rfl (zA rfl (kA rfl wM (yK rfl rfl (zBV _ _ _) sh48 rfl ?_))))))))
      refine wk rfl ze137 pl137 rfl rfl ?_
      refine zDD rfl rfl qE (.lrefl _) ?_
      refine wW (es:=[.int .i64 (endI e q)]) rfl ty22 ze3 cl3 rfl rfl rfl rfl rfl rfl rfl rfl ?_
      refine wX 9 rfl wF rfl rfl rfl (by simp) (by simp) (by simp[yF,zg,oneU]) (by simp at hlen ⊢;omega) ?_
      refine zB rfl (zC (k_region ?_))
      refine kB rfl (by unfold I64;omega) (zA rfl (zC ?_))
      exact⟨kk - 1,by omega,i+1,by omega,⟨_,by first|(show Y++_=_;exact grow hY)|(show(Y++[SB.box _]).set Y.length (SB.box _)=_;rw[yc];exact grow hY)⟩,.cons rfl (.cons rfl (.cons rfl (.cons (by rw[hsu,wO];rfl) (.n4 rfl))))⟩
 ·have hie:b.scenes.length=i:=by omega
  rw[hie]
  have hu:=uw_accI (mnS b d L p e i)
  generalize mnS b d L p e i=M at*
  refine zF _ _ hs2 hst2 fun fr2=>?_
  refine kQ (kq rfl (zC (k_seq (k_cF rfl (kI (by omega)) (zr (kQ (zA rfl (zB rfl (zC (zS ?_))))))))))
  refine⟨.inr rfl,_,.cons _ _ _ _ (.tmp 8) .nil,?_⟩
  exact hu
end
end Go.Proofs.YtlknfhjfkcboiaaDoor.night
