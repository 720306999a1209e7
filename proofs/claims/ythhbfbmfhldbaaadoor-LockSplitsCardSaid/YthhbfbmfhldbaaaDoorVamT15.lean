import Derived.Test.YthhbfbmfhldbaaaDoorVamT14
set_option linter.unusedVariables false
set_option linter.unusedSimpArgs false
set_option linter.constructorNameAsVariable false
namespace Go.Proofs.YthhbfbmfhldbaaaDoor.locks
open Vam
section
variable {is:FuncId→Bool}{orc:Known}{l:Ln}
end
section
variable {is:FuncId→Bool}{orc:Known}{l:Ln}
end
section
variable {is:FuncId→Bool}{orc:Known}{l:Ln}
noncomputable def b107:Code:=(Tryd.f107.body).getD .skip
theorem body107:bodyOf Tryd.prog 107=some (18,b107,[.tmp 4]):=by kernel_rfl
theorem pure107:pureFn Tryd.prog 107=true:=by kernel_rfl
set_option maxHeartbeats 8000000 in
theorem ret107(hi:Off is)(a b:Int):RetP Tryd.prog is orc 107 [.int .i64 a,.lst .ro 1 (zE [b])] (.int .i64 (max a b)):=by
 refine zw body107 pure107 (hi 107 (by decide)) rfl rfl (yq (.int _ _ _) (yG 6 .ro (fun h=>by cases h) 1 [b])) (.inl (.int _ _ _)) ?_
 refine kQ (zA rfl (zB (k_seq (kQ (zC rfl (zq rfl ty22 rfl (List.length_map _) ?_))))))
 refine zC rfl (zB (zI ?_))
 refine yX (fun kk s2=>∃i:Nat,kk+i=1∧s2.st=[]∧Holds s2 [(0,.int .i64 (if i=0 then a else max a b)),(7,.lst .ro 1 (zE [b])),(8,.int .i64 1),(9,.int .i64 i)]) (fun kk s2 hI=>?_) 1 _ ⟨0,rfl,rfl,.c4 rfl rfl rfl rfl (.nil rfl)⟩
 obtain⟨i,hk,hst2,hs2⟩:=hI
 have hi2:i=0∨i=1:=by omega
 rcases hi2 with rfl|rfl
 ·refine zH _ _ hs2 hst2 fun fr2=>?_
  refine kQ (kp rfl (zB (k_seq (k_cT rfl rfl ?_))))
  refine zL (k_seq (zI (kQ (yA rfl ty22 rfl rfl (by decide) rfl cl3 ?_))))
  refine kC sh3 rfl ?_
  refine zA rfl (zB (k_region (zC rfl (zC rfl (o_max rfl rfl rfl ?_)))))
  refine zA rfl (zB (k_region ?_))
  refine kz rfl (by unfold I64;omega) (zC rfl (zB ?_))
  exact⟨0,by omega,1,by omega,rfl,.c4 rfl rfl rfl rfl (.nil rfl)⟩
 ·refine zH _ _ hs2 hst2 fun fr2=>?_
  refine kQ (kp rfl (zB (k_seq (k_cF rfl rfl ?_))))
  refine zj (kQ (zC rfl (zA rfl (zB (zV ?_)))))
  refine⟨.inr rfl,_,.cons _ _ _ _ (.tmp 4) .nil,?_⟩
  exact .refl _
end
end Go.Proofs.YthhbfbmfhldbaaaDoor.locks
