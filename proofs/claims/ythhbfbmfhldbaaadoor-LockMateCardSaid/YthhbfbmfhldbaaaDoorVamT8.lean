import Derived.Test.YthhbfbmfhldbaaaDoorVamT7
set_option linter.unusedVariables false
set_option linter.unusedSimpArgs false
set_option linter.constructorNameAsVariable false
namespace Go.Proofs.YthhbfbmfhldbaaaDoor.locks
open Vam
variable {is:FuncId→Bool}{orc:Known}{l:Ln}
set_option maxHeartbeats 8000000 in
theorem ret69(hi:Off is)(f:Nat→Bool):RetP Tryd.prog is orc 69 [.agg (zU (b16 f))] (.lst .ro 1 (zE (memP f 16))):=by
 refine yJ body69 pure69 (hi 69 (by decide)) rfl rfl (zAQ (zAC _ 6)) (.inl (zw 6 .ro (fun h=>by cases h) 1 _)) ?_
 refine kQ (yb rfl rfl (zC rfl (zB ?_)))
 refine zI [(1,U.box 0 0)] ([SB.box [U.bool (f (nat_lit 0)),U.bool (f (nat_lit 1)),U.bool (f (nat_lit 2)),U.bool (f (nat_lit 3)),U.bool (f (nat_lit 4)),U.bool (f (nat_lit 5)),U.bool (f (nat_lit 6)),U.bool (f (nat_lit 7)),U.bool (f (nat_lit 8)),U.bool (f (nat_lit 9)),U.bool (f (nat_lit 10)),U.bool (f (nat_lit 11)),U.bool (f (nat_lit 12)),U.bool (f (nat_lit 13)),U.bool (f (nat_lit 14)),U.bool (f (nat_lit 15))]]) (.n1 rfl) rfl fun fr=>?_
 refine kQ (zC rfl (zB (k_seq (kQ (kB sh83 rfl (zA rfl (zB (zH ?_))))))))
 refine yu (fun kk s2=>∃i:Nat,kk+i=16∧s2.st=[.box (zU (b16 f))]∧Holds s2 [(3,accI (memP f i)),(6,.agg (zU (b16 f))),(7,.int .i64 i)]) (fun kk s2 hI=>?_) 16 _ ⟨0,rfl,rfl,.cons rfl (.n2 rfl)⟩
 obtain⟨i,hk,hst2,hs2⟩:=hI
 have hsu:=zFJ f i
 have hlen:=zCU f i
 have hat:i<16→(zU (b16 f))[i]? =some (.bool (f i)):=fun h=>zCt (zDR h)
 obtain⟨M,hM⟩:∃M,M=memP f i:=⟨_,rfl⟩
 obtain⟨S,hS⟩:∃S,S=zU (b16 f):=⟨_,rfl⟩
 rw[←hM]at hsu hlen hs2
 rw[←hS]at hst2 hs2 hat
 by_cases hin:i<16
 ·have hb:S[(i:Int).toNat*1]? =some (.bool (f i)):=by rw[show(i:Int).toNat*1=i by omega];exact hat hin
  rw[hS]at hst2
  have hS2:=hS
  refine zI _ _ hs2 hst2 fun fr2=>?_
  cases c:f i with
  |true=>
   rw[c,if_pos rfl]at hsu
   rw[c]at hb
   cases M with
   |nil=>
    refine kQ (kp rfl (zB (k_seq (k_cT rfl (kF (by omega)) (zJ (k_seq (zH (kQ (zA rfl (zBz rfl ty83 rfl rfl (Int.natCast_nonneg _) (by omega) cl4 sh4 hb ?_))))))))))
    refine zC rfl (zC rfl (zB (kQ (zA rfl (zB (k_cT rfl rfl ?_))))))
    refine k_region (zA rfl (zA rfl (zAT (es:=[.int .i64 ↑i]) rfl ty22 ze3 cl3 rfl rfl rfl rfl rfl rfl rfl rfl ?_)))
    refine wO rfl ym rfl rfl (by simp) (by simp) (by simp[yD,zj,oneU]) (by simp) ?_
    refine zC rfl (zB ?_)
    refine zI [(3,U.lst Kd.own 1 [.int .i64 ↑i]),(6,U.agg S),(7,.int .i64 ↑i)] ([SB.box (zU (b16 f))]) (.n3 rfl) rfl fun fr=>?_
    refine k_region ?_
    refine kz rfl (by unfold I64;omega) (zA rfl (zB ?_))
    exact⟨kk - 1,by omega,i+1,by omega,rfl,.cons (by rw[hsu];rfl) (.cons (by rw[←hS];rfl) (.n1 rfl))⟩
   |cons y M=>
    refine kQ (kp rfl (zB (k_seq (k_cT rfl (kF (by omega)) (zJ (k_seq (zH (kQ (zA rfl (zBz rfl ty83 rfl rfl (Int.natCast_nonneg _) (by omega) cl4 sh4 hb ?_))))))))))
    refine zC rfl (zC rfl (zB (kQ (zA rfl (zB (k_cT rfl rfl ?_))))))
    refine k_region (zA rfl (zA rfl (zAT (es:=[.int .i64 ↑i]) rfl ty22 ze3 cl3 rfl rfl rfl rfl rfl rfl rfl rfl ?_)))
    refine wN 3 rfl ym rfl rfl rfl (by simp) (by simp) (by simp[yD,zj,oneU]) (by simp at hlen ⊢;omega) ?_
    refine zC rfl (zB (k_region ?_))
    refine kz rfl (by unfold I64;omega) (zA rfl (zB ?_))
    exact⟨kk - 1,by omega,i+1,by omega,rfl,.cons (by rw[hsu,wT];rfl) (.cons (by rw[←hS];rfl) (.n1 rfl))⟩
  |false=>
   rw[c,if_neg (by decide),List.append_nil]at hsu
   rw[c]at hb
   refine kQ (kp rfl (zB (k_seq (k_cT rfl (kF (by omega)) (zJ (k_seq (zH (kQ (zA rfl (zBz rfl ty83 rfl rfl (Int.natCast_nonneg _) (by omega) cl4 sh4 hb ?_))))))))))
   refine zC rfl (zC rfl (zB (kQ (zA rfl (zB (k_cF rfl rfl ?_))))))
   refine zJ (k_region ?_)
   refine kz rfl (by unfold I64;omega) (zA rfl (zB ?_))
   exact⟨kk - 1,by omega,i+1,by omega,rfl,.cons (congrArg accI hsu.symm) (.cons (by rw[←hS];rfl) (.n1 rfl))⟩
 ·have hie:i=16:=by omega
  have hM2:memP f 16=M:=by rw[hM,hie]
  rw[hM2]
  clear hM hM2 hat hsu
  refine zI _ _ hs2 hst2 fun fr2=>?_
  cases M with
  |nil=>
   refine kQ (kp rfl (zB (k_seq (k_cF rfl (kG (by omega)) (yI (kQ (zA rfl (zA rfl (zi rfl ty22 rfl rfl ?_)))))))))
   refine zA rfl (zi rfl ty22 rfl rfl ?_)
   refine zEb rfl ty22 cl3 rfl (by simp) rfl rfl (Nat.le_refl _) ?_
   refine zC rfl (zB (za ?_))
   refine⟨.inr rfl,_,.cons _ _ _ _ (.tmp 2) .nil,?_⟩
   exact .ro .full 1 []
  |cons y M=>
   have ht:List.take (y::M).length (zE (y::M))=zE (y::M):=List.take_of_length_le (by simp)
   refine kQ (kp rfl (zB (k_seq (k_cF rfl (kG (by omega)) (yI (kQ (zA rfl (zA rfl (zi rfl ty22 rfl (List.length_map _) ?_)))))))))
   refine zA rfl (zi rfl ty22 rfl (List.length_map _) ?_)
   refine zEb rfl ty22 cl3 rfl (by simp) rfl rfl (by simp) ?_
   refine zC rfl (zB (za ?_))
   refine⟨.inr rfl,_,.cons _ _ _ _ (.tmp 2) .nil,?_⟩
   show UW (.u (.lst .full 1 (List.take (y::M).length (zE (y::M))))) _
   rw[ht]
   exact .ro _ _ _
end Go.Proofs.YthhbfbmfhldbaaaDoor.locks
