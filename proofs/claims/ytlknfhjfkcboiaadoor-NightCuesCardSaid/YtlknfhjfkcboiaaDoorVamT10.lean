import Derived.Test.YtlknfhjfkcboiaaDoorVamT9
set_option linter.unusedVariables false
set_option linter.unusedSimpArgs false
set_option linter.constructorNameAsVariable false
namespace Go.Proofs.YtlknfhjfkcboiaaDoor.night
open Vam
variable {is:FuncId→Bool}{orc:Known}
noncomputable def b37:Code:=(Tryd.f37.body).getD .skip
theorem body37:bodyOf Tryd.prog 37=some (41,b37,[.tmp 4]):=by kernel_rfl
theorem pure37:pureFn Tryd.prog 37=true:=by kernel_rfl
set_option maxHeartbeats 8000000 in
theorem ret37(hi:Off is)(l m:List Int)(hl:l.length≤4096)(hm:m.length≤4096):RetP Tryd.prog is orc 37 [.lst .ro 1 (zE l),.lst .ro 1 (zE m)] (.bool (zAf l m)):=by
 refine zp body37 pure37 (hi 37 (by decide)) rfl rfl (zu (zR 6 .ro (fun h=>by cases h) 1 l) (zR 6 .ro (fun h=>by cases h) 1 m)) (.inl (.bool _ _)) ?_
 generalize hz:zAf l m=z
 refine kQ (zB rfl (zC (k_seq (kQ (zB rfl (zC (zH ?_)))))))
 refine yR (fun kk s2=>∃i:Nat,kk+i=l.length∧i≤m.length∧z=zAf (l.drop i) (m.drop i)∧s2.st=[]∧Holds s2 [(0,.lst .ro 1 (zE l)),(1,.lst .ro 1 (zE m)),(5,.int .i64 i)]) (fun kk s2 hI=>?_) l.length _ ⟨0,rfl,Nat.zero_le _,hz.symm,rfl,.cons rfl (.n2 rfl)⟩
 obtain⟨i,hk,him,hw,hst2,hs2⟩:=hI
 clear hz
 refine zF _ _ hs2 hst2 fun fr2=>?_
 by_cases hin:i<l.length
 ·obtain⟨x,hx⟩:∃x,l[i]? =some x:=⟨l[i],List.getElem?_eq_getElem hin⟩
  rw[zAr hx]at hw
  by_cases hin2:i<m.length
  ·obtain⟨y,hy⟩:∃y,m[i]? =some y:=⟨m[i],List.getElem?_eq_getElem hin2⟩
   rw[zAr hy]at hw
   have es:zAf (x::l.drop (i+1)) (y::m.drop (i+1))=if x≠y then decide (x<y)else zAf (l.drop (i+1)) (m.drop (i+1)):=rfl
   by_cases e:x=y
   ·rw[es,if_neg (by simp[e])]at hw
    refine k_seq (kQ (zA rfl (zA rfl (zP rfl ty22 rfl (List.length_map _) ?_))))
    refine kq rfl (zA rfl (kh rfl (kH (by omega)) ?_))
    refine zA rfl (kh rfl (kH (by omega)) ?_)
    refine zA rfl (kh rfl (kH (by omega)) ?_)
    refine zP rfl ty22 rfl (List.length_map _) ?_
    refine kh rfl (kH (by omega)) ?_
    refine kq rfl (zc rfl rfl (kH (by omega)) ?_)
    refine zC (k_cT rfl (kH (by omega)) (zJ (k_seq (zH (k_seq (wH [.plain,.plain,.plain,.read true,.plain,.plain,.plain,.read true,.plain] (by kernel_rfl) (by kernel_rfl) (by kernel_rfl) ?_))))))
    refine zD (zA rfl (zC rfl)) (zD (zA rfl (zC rfl)) (zD (zX (u:=.int .i64 (x)) rfl ty22 rfl rfl (Int.natCast_nonneg _) (by simp[hx]) cl3 (zC rfl)) ?_))
    refine zV rfl (kE sh3 rfl (zC rfl)) ?_
    refine zD (zA rfl (zC rfl)) (zD (zA rfl (zC rfl)) (zD (zX (u:=.int .i64 (y)) rfl ty22 rfl rfl (Int.natCast_nonneg _) (by simp[hy]) cl3 (zC rfl)) ?_))
    refine zV rfl (kE sh3 rfl (zC rfl)) ?_
    refine zD (ku rfl (zC rfl)) ?_
    refine zAo ?_
    refine k_cF rfl (kI (by omega)) (zJ (k_region (zA rfl ?_)))
    refine kB rfl (by unfold I64;omega) (zB rfl (zC ?_))
    exact⟨kk - 1,by omega,i+1,by omega,by omega,hw,rfl,.cons rfl (.n2 rfl)⟩
   ·rw[es,if_pos e]at hw
    subst hw
    refine k_seq (kQ (zA rfl (zA rfl (zP rfl ty22 rfl (List.length_map _) ?_))))
    refine kq rfl (zA rfl (kh rfl (kH (by omega)) ?_))
    refine zA rfl (kh rfl (kH (by omega)) ?_)
    refine zA rfl (kh rfl (kH (by omega)) ?_)
    refine zP rfl ty22 rfl (List.length_map _) ?_
    refine kh rfl (kH (by omega)) ?_
    refine kq rfl (zc rfl rfl (kH (by omega)) ?_)
    refine zC (k_cT rfl (kH (by omega)) (zJ (k_seq (zH (k_seq (wH [.plain,.plain,.plain,.read true,.plain,.plain,.plain,.read true,.plain] (by kernel_rfl) (by kernel_rfl) (by kernel_rfl) ?_))))))
    refine zD (zA rfl (zC rfl)) (zD (zA rfl (zC rfl)) (zD (zX (u:=.int .i64 (x)) rfl ty22 rfl rfl (Int.natCast_nonneg _) (by simp[hx]) cl3 (zC rfl)) ?_))
    refine zV rfl (kE sh3 rfl (zC rfl)) ?_
    refine zD (zA rfl (zC rfl)) (zD (zA rfl (zC rfl)) (zD (zX (u:=.int .i64 (y)) rfl ty22 rfl rfl (Int.natCast_nonneg _) (by simp[hy]) cl3 (zC rfl)) ?_))
    refine zV rfl (kE sh3 rfl (zC rfl)) ?_
    refine zD (ku rfl (zC rfl)) ?_
    refine zAo ?_
    refine k_cT rfl (kH (by omega)) (k_seq (wH [.plain,.plain,.plain,.read true,.plain,.plain,.plain,.read true,.plain,.plain] (by kernel_rfl) (by kernel_rfl) (by kernel_rfl) ?_))
    refine zD (zA rfl (zC rfl)) (zD (zA rfl (zC rfl)) (zD (zX (u:=.int .i64 (x)) rfl ty22 rfl rfl (Int.natCast_nonneg _) (by simp[hx]) cl3 (zC rfl)) ?_))
    refine zV rfl (kE sh3 rfl (zC rfl)) ?_
    refine zD (zA rfl (zC rfl)) (zD (zA rfl (zC rfl)) (zD (zX (u:=.int .i64 (y)) rfl ty22 rfl rfl (Int.natCast_nonneg _) (by simp[hy]) cl3 (zC rfl)) ?_))
    refine zV rfl (kE sh3 rfl (zC rfl)) ?_
    refine zD (kq rfl (zC rfl)) ?_
    refine zD (zB rfl (zC rfl)) ?_
    refine zAo ?_
    refine zS ?_
    refine⟨.inr rfl,_,.cons _ _ _ _ (.tmp 4) .nil,?_⟩
    exact .refl _
  ·have hd:m.drop i=[]:=List.drop_eq_nil_of_le (by omega)
   rw[hd]at hw
   change z=false at hw
   subst hw
   have hk40:decide ((l.length:Int)<m.length)=false:=kI (by omega)
   refine k_seq (kQ (zA rfl (zA rfl (zP rfl ty22 rfl (List.length_map _) ?_))))
   refine kq rfl (zA rfl (kh rfl (kH (by omega)) ?_))
   refine zA rfl (kh rfl (kH (by omega)) ?_)
   refine zA rfl (kh rfl (kH (by omega)) ?_)
   refine zP rfl ty22 rfl (List.length_map _) ?_
   refine kh rfl (kH (by omega)) ?_
   refine kq rfl (zc rfl rfl (kH (by omega)) ?_)
   refine zC (k_cF rfl (kI (by omega)) (zr (kQ (zA rfl (zP rfl ty22 rfl (List.length_map _) ?_)))))
   refine zA rfl (zP rfl ty22 rfl (List.length_map _) ?_)
   refine kq rfl (zB rfl (zC (zS ?_)))
   refine⟨.inr rfl,_,.cons _ _ _ _ (.tmp 4) .nil,?_⟩
   rw[hk40];exact .refl _
 ·have hie:i=l.length:=by omega
  have hd:l.drop i=[]:=List.drop_eq_nil_of_le (by omega)
  rw[hd]at hw
  have es:zAf [] (m.drop i)=decide ((l.length:Int)<m.length):=by
   show decide (0<(m.drop i).length)=_
   rw[List.length_drop]
   exact decide_eq_decide.2 (by omega)
  rw[es]at hw
  subst hw
  refine k_seq (kQ (zA rfl (zA rfl (zP rfl ty22 rfl (List.length_map _) ?_))))
  refine kq rfl (zA rfl (kg rfl (kI (by omega)) ?_))
  refine kg rfl (kI (by omega)) ?_
  refine kg rfl (kI (by omega)) ?_
  refine kg rfl (kI (by omega)) ?_
  refine zW rfl rfl (kI (by omega)) ?_
  refine zC (k_cF rfl rfl ?_)
  refine zr (kQ (zA rfl (zP rfl ty22 rfl (List.length_map _) ?_)))
  refine zA rfl (zP rfl ty22 rfl (List.length_map _) ?_)
  refine kq rfl (zB rfl (zC (zS ?_)))
  refine⟨.inr rfl,_,.cons _ _ _ _ (.tmp 4) .nil,?_⟩
  exact .refl _
end Go.Proofs.YtlknfhjfkcboiaaDoor.night
