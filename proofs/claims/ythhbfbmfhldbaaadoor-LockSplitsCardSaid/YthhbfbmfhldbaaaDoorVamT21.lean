import Derived.Test.YthhbfbmfhldbaaaDoorVamT20
set_option linter.unusedVariables false
set_option linter.unusedSimpArgs false
set_option linter.constructorNameAsVariable false
namespace Go.Proofs.YthhbfbmfhldbaaaDoor.locks
open Vam
section
variable {is:FuncId→Bool}{orc:Known}{l:Ln}
noncomputable def b44:Code:=(Tryd.f44.body).getD .skip
theorem body44:bodyOf Tryd.prog 44=some (8,b44,[.tmp 2]):=by kernel_rfl
theorem pure44:pureFn Tryd.prog 44=true:=by kernel_rfl
noncomputable def b15:Code:=(Tryd.f15.body).getD .skip
theorem body15:bodyOf Tryd.prog 15=some (16,b15,[.tmp 4,.tmp 5]):=by kernel_rfl
theorem pure15:pureFn Tryd.prog 15=true:=by kernel_rfl
def plainI(n:Int):Int:=if n<0 then -n else n
theorem plain_df(p:List Int):plainI (((prtL p 0).length:Int) - (prtL p 1).length)=dfI p:=by
 unfold plainI dfI
 split<;>omega
theorem ret44(hi:Off is){n:Int}(hn: -1000000≤n∧n≤1000000):RetP Tryd.prog is orc 44 [.int .i64 n] (.int .i64 (plainI n)):=by
 refine zw body44 pure44 (hi 44 (by decide)) rfl rfl (wA (.int _ _ _)) (.inl (.int _ _ _)) ?_
 unfold plainI
 by_cases c:n<0
 ·rw[if_pos c]
  refine kQ (zA rfl (zB (k_seq (kQ (zC rfl (kp rfl (zB (k_cT rfl (kF (by omega)) (kQ (zC rfl ?_))))))))))
  refine o_neg rfl rfl (by unfold I64;omega) ?_
  refine zA rfl (zB (zV ?_))
  refine⟨.inr rfl,_,.cons _ _ _ _ (.tmp 2) .nil,?_⟩
  exact .refl _
 ·rw[if_neg c]
  refine kQ (zA rfl (zB (k_seq (kQ (zC rfl (kp rfl (zB (k_cF rfl (kG (by omega)) (zL (kQ (zC rfl (zA rfl (zB (zV ?_))))))))))))))
  refine⟨.inr rfl,_,.cons _ _ _ _ (.tmp 2) .nil,?_⟩
  exact .refl _
set_option maxHeartbeats 8000000 in
theorem ret15(hi:Off is)(h:VL l)(p:List Int):RetP Tryd.prog is orc 15 [l.u,.lst .ro 1 (zE p)] (.tup [.bool (divB l p),.int .i64 0]):=by
 refine zw body15 pure15 (hi 15 (by decide)) rfl rfl (yq (yk l 5) (yG 6 .ro (fun h=>by cases h) 1 p)) (.inr ⟨_,rfl,yq (.bool _ _) (.int _ _ _)⟩) ?_
 have q56:=ask0 (orc:=orc) hi l
 rw[yl.2 h,if_pos rfl]at q56
 have q57:=ret57 (orc:=orc) hi l p
 have q58:=ret58 (orc:=orc) hi h p
 generalize divB l p=z at*
 refine kQ (zk rfl rfl (zA rfl (zA rfl (zB ?_))))
 refine zH [(1,.lst .ro 1 (zE p)),(2,U.box 0 0)] ([SB.box [.lst .ro 1 (zE (Ln.slots l)),.int .i64 (Ln.left l),.int .i64 (Ln.right l),.int .i64 (Ln.run l)]]) (.n2 rfl) rfl fun fr=>?_
 refine k_seq (kQ (kB sh24 rfl (zN rfl (q56) (.lcons _ _ _ _ (.refl _) (.lcons _ _ _ _ (.nil .full .ro 1) (.lrefl _))) ?_)))
 refine zA rfl (zB (kQ (zC rfl (kr rfl (zB (k_cF rfl rfl ?_))))))
 refine zL (kQ (kB sh24 rfl (zC rfl (zN rfl (q57) (.lrefl _) (zN rfl (q58) (.lrefl _) (zA rfl (zA rfl (zB (zV ?_)))))))))
 refine⟨.inr rfl,_,.cons _ _ _ _ (.tmp 4) (.cons _ _ _ _ (.tmp 5) .nil),?_⟩
 exact .refl _
end
section
variable {is:FuncId→Bool}{orc:Known}{l:Ln}
theorem ty4:tyOf Tryd.prog 4=.bool:=by kernel_rfl
theorem none_spl(h:VL l)(hb:bstO (splL l)=none):splL l=[]:=by
 rcases bst_spec (zEq l l.slots.length [])with ⟨e,_⟩|⟨b,e,_⟩
 ·exact e
 ·have e:bstO (splL l)=some b:=e
  rw[hb]at e;cases e
theorem some_spl{b:List Int}(hb:bstO (splL l)=some b):b∈splL l∧∀s∈splL l,dfI b≤dfI s∧(dfI s=dfI b→zAH s b=false):=by
 rcases bst_spec (zEq l l.slots.length [])with ⟨_,e⟩|⟨c,e,h1,h2⟩
 ·have e:bstO (splL l)=none:=e
  rw[hb]at e;cases e
 ·have e:bstO (splL l)=some c:=e
  rw[hb]at e
  cases e
  exact⟨h1,h2⟩
theorem prt_len(p:List Int)(w:Int):(prtL p w).length≤p.length:=zBF _ _
end
end Go.Proofs.YthhbfbmfhldbaaaDoor.locks
