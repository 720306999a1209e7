import Derived.Test.YtlknfhjfkcboiaaDoorVamT18
set_option linter.unusedVariables false
set_option linter.unusedSimpArgs false
set_option linter.constructorNameAsVariable false
namespace Go.Proofs.YtlknfhjfkcboiaaDoor.night
open Vam
variable {is:FuncId→Bool}{orc:Known}
noncomputable def b23:Code:=(Tryd.f23.body).getD .skip
theorem body23:bodyOf Tryd.prog 23=some (31,b23,[.tmp 4]):=by kernel_rfl
theorem pure23:pureFn Tryd.prog 23=true:=by kernel_rfl
set_option maxHeartbeats 8000000 in
theorem ret23(hi:Off is)(A:List Int)(hl:A.length≤4096):RetP Tryd.prog is orc 23 [.lst .ro 1 (zE A),.lst .ro 1 (zE A)] (.bool true):=by
 refine zp body23 pure23 (hi 23 (by decide)) rfl rfl (zu (zR 6 .ro (fun h=>by cases h) 1 A) (zR 6 .ro (fun h=>by cases h) 1 A)) (.inl (.bool _ _)) ?_
 refine kQ (zB rfl (zC (kQ (zA rfl (zP rfl ty22 rfl (List.length_map _) ?_)))))
 refine zA rfl (zP rfl ty22 rfl (List.length_map _) ?_)
 refine kw rfl (zB rfl (zC (k_seq (kQ (zB rfl (zC (zH ?_)))))))
 refine yR (fun kk s2=>∃i:Nat,kk+i=A.length∧s2.st=[]∧Holds s2 [(0,.lst .ro 1 (zE A)),(1,.lst .ro 1 (zE A)),(5,.bool true),(6,.int .i64 i)]) (fun kk s2 hI=>?_) A.length _ ⟨0,by omega,rfl,.cons rfl (.cons rfl (.cons (by show U.bool (decide _)=_;simp) (.n1 rfl)))⟩
 obtain⟨i,hk,hst2,hs2⟩:=hI
 refine zF _ _ hs2 hst2 fun fr2=>?_
 by_cases hj:i<A.length
 ·have hx:A[i]? =some (A[i]'hj):=List.getElem?_eq_getElem hj
  generalize A[i]'hj=x at hx
  refine k_seq (kQ (zA rfl (zA rfl (kf rfl (zA rfl (kf rfl (zA rfl (kf rfl (zP rfl ty22 rfl (List.length_map _) ?_)))))))))
  refine kf rfl (kq rfl (kG rfl ?_))
  refine zC (k_cT rfl (kH (by omega)) (zJ (k_seq (zH (wH [.plain,.plain,.plain,.read true,.plain,.plain,.plain,.read true,.plain,.plain] (by kernel_rfl) (by kernel_rfl) (by kernel_rfl) ?_)))))
  refine zD (zA rfl (zC rfl)) (zD (zA rfl (zC rfl)) (zD (zX (u:=.int .i64 (x)) rfl ty22 rfl rfl (Int.natCast_nonneg _) (by simp[hx]) cl3 (zC rfl)) ?_))
  refine zV rfl (kE sh3 rfl (zC rfl)) ?_
  refine zD (zA rfl (zC rfl)) (zD (zA rfl (zC rfl)) (zD (zX (u:=.int .i64 (x)) rfl ty22 rfl rfl (Int.natCast_nonneg _) (by simp[hx]) cl3 (zC rfl)) ?_))
  refine zV rfl (kE sh3 rfl (zC rfl)) ?_
  refine zD (kw rfl (zC rfl)) ?_
  refine zD (zB rfl (zC rfl)) ?_
  refine zAo ?_
  refine k_region (zA rfl ?_)
  refine kB rfl (by unfold I64;omega) (zB rfl (zC ?_))
  exact⟨kk - 1,by omega,i+1,by omega,rfl,.cons rfl (.cons rfl (.cons (by show U.bool (decide _)=_;simp) (.n1 rfl)))⟩
 ·refine k_seq ?_
  refine kQ (zA rfl (zA rfl (kf rfl (zA rfl (kf rfl (zA rfl (kf rfl (zP rfl ty22 rfl (List.length_map _) ?_))))))))
  refine kf rfl (kq rfl (kG rfl ?_))
  refine zC (k_cF rfl (kI (by omega)) (zr (kQ (zA rfl (zB rfl (zC (zS ?_)))))))
  refine⟨.inr rfl,_,.cons _ _ _ _ (.tmp 4) .nil,?_⟩
  exact .refl _
  done
end Go.Proofs.YtlknfhjfkcboiaaDoor.night
