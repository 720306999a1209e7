import Derived.Test.YtfbmlibilcjlgaaDoorVamT16
set_option linter.unusedVariables false
set_option linter.unusedSimpArgs false
set_option linter.constructorNameAsVariable false
namespace Go.Proofs.YtfbmlibilcjlgaaDoor.drumPlans
open Vam
section
variable {is:FuncId→Bool}{orc:Known}
def errI(b:Bk)(L:List Int):Int:=if yk b=false then 80 else if zBm b L=false then 81 else 0
theorem err_zero{b:Bk}{L:List Int}:errI b L=0↔BOk b∧POk b L:=by
 unfold errI
 by_cases hv:yk b=false
 ·rw[if_pos hv]
  refine⟨(fun h=>by cases h),fun h=>?_⟩
  rw[(wR b).2 h.1]at hv;cases hv
 ·rw[if_neg hv]
  have hb:=(wR b).1 (by simpa using hv)
  by_cases hp:zBm b L=false
  ·rw[if_pos hp]
   refine⟨(fun h=>by cases h),fun h=>?_⟩
   rw[(zDs hb).2 h.2]at hp;cases hp
  ·rw[if_neg hp]
   exact⟨fun _=>⟨hb,(zDs hb).1 (by simpa using hp)⟩,fun _=>rfl⟩
end
section
variable {is:FuncId→Bool}{orc:Known}
noncomputable def b23:Code:=(Tryd.f23.body).getD .skip
theorem body23:bodyOf Tryd.prog 23=some (31,b23,[.tmp 4]):=by kernel_rfl
theorem pure23:pureFn Tryd.prog 23=true:=by kernel_rfl
set_option maxHeartbeats 8000000 in
theorem ret23(hi:Off is)(A:List Int)(hl:A.length≤4096):RetP Tryd.prog is orc 23 [.lst .ro 1 (zE A),.lst .ro 1 (zE A)] (.bool true):=by
 refine zp body23 pure23 (hi 23 (by decide)) rfl rfl (yR (zd 6 .ro (fun h=>by cases h) 1 A) (zd 6 .ro (fun h=>by cases h) 1 A)) (.inl (.bool _ _)) ?_
 refine kQ (zB rfl (zA (kQ (zC rfl (yA rfl ty22 rfl (List.length_map _) ?_)))))
 refine zC rfl (yA rfl ty22 rfl (List.length_map _) ?_)
 refine zAI rfl rfl rfl (zB rfl (zA (k_seq (kQ (zB rfl (zA (zN ?_)))))))
 refine yd (fun kk s2=>∃i:Nat,kk+i=A.length∧s2.st=[]∧Holds s2 [(0,.lst .ro 1 (zE A)),(1,.lst .ro 1 (zE A)),(5,.bool true),(6,.int .i64 i)]) (fun kk s2 hI=>?_) A.length _ ⟨0,by omega,rfl,.cons rfl (.cons rfl (.cons (by show U.bool (decide _)=_;simp) (.cons rfl (.nil rfl))))⟩
 obtain⟨i,hk,hst2,hs2⟩:=hI
 refine zJ _ _ hs2 hst2 fun fr2=>?_
 by_cases hj:i<A.length
 ·have hx:A[i]? =some (A[i]'hj):=List.getElem?_eq_getElem hj
  generalize A[i]'hj=x at hx
  refine k_seq (kQ (zC rfl (zC rfl (o_gD rfl rfl rfl rfl rfl (zC rfl (o_gD rfl rfl rfl rfl rfl (zC rfl (o_gD rfl rfl rfl rfl rfl ?_))))))))
  refine yA rfl ty22 rfl (List.length_map _) ?_
  refine o_gD rfl rfl rfl rfl rfl (zh rfl rfl rfl (zX rfl rfl rfl ?_))
  refine zA (k_cT rfl (decide_eq_true (by omega)) (zR (k_seq (zN (yO [.plain,.plain,.plain,.read true,.plain,.plain,.plain,.read true,.plain,.plain] (by kernel_rfl) (by kernel_rfl) (by kernel_rfl) ?_)))))
  refine zD (zC rfl (zA rfl)) (zD (zC rfl (zA rfl)) (zD (yE (u:=.int .i64 (x)) rfl ty22 rfl rfl (Int.natCast_nonneg _) (by simp[hx]) cl3 (zA rfl)) ?_))
  refine zT rfl (zS rfl rfl sh3 rfl (zA rfl)) ?_
  refine zD (zC rfl (zA rfl)) (zD (zC rfl (zA rfl)) (zD (yE (u:=.int .i64 (x)) rfl ty22 rfl rfl (Int.natCast_nonneg _) (by simp[hx]) cl3 (zA rfl)) ?_))
  refine zT rfl (zS rfl rfl sh3 rfl (zA rfl)) ?_
  refine zD (zAI rfl rfl rfl (zA rfl)) ?_
  refine zD (zB rfl (zA rfl)) ?_
  refine wH ?_
  refine k_region (zC rfl ?_)
  refine yT rfl rfl rfl (by unfold I64;omega) (zB rfl (zA ?_))
  exact⟨kk - 1,by omega,i+1,by omega,rfl,.cons rfl (.cons rfl (.cons (by show U.bool (decide _)=_;simp) (.cons rfl (.nil rfl))))⟩
 ·refine k_seq ?_
  refine kQ (zC rfl (zC rfl (o_gD rfl rfl rfl rfl rfl (zC rfl (o_gD rfl rfl rfl rfl rfl (zC rfl (o_gD rfl rfl rfl rfl rfl (yA rfl ty22 rfl (List.length_map _) ?_))))))))
  refine o_gD rfl rfl rfl rfl rfl (zh rfl rfl rfl (zX rfl rfl rfl ?_))
  refine zA (k_cF rfl (decide_eq_false (by omega)) (yJ (kQ (zC rfl (zB rfl (zA (zV ?_)))))))
  refine⟨.inr rfl,_,.cons _ _ _ _ (.tmp 4) .nil,?_⟩
  exact .refl _
  done
end
end Go.Proofs.YtfbmlibilcjlgaaDoor.drumPlans
