import Derived.Test.YthhbfbmfhldbaaaDoorVamT20
set_option linter.unusedVariables false
set_option linter.unusedSimpArgs false
set_option linter.constructorNameAsVariable false
namespace Go.Proofs.YthhbfbmfhldbaaaDoor.locks
open Vam
section
variable {is:FuncId→Bool}{orc:Known}{l:Ln}
noncomputable def b44:Code:=(Tryd.f44.body).getD .skip
theorem body44:bodyOf Tryd.prog 44=some (8,b44,[.tmp 2]):=by kernel_rfl
theorem pure44:pureFn Tryd.prog 44=true:=by kernel_rfl
def plainI(n:Int):Int:=if n<0 then -n else n
theorem plain_df(p:List Int):plainI (((prtL p 0).length:Int) - (prtL p 1).length)=dfI p:=by
 unfold plainI dfI
 split<;>omega
theorem ret44(hi:Off is){n:Int}(hn: -1000000≤n∧n≤1000000):RetP Tryd.prog is orc 44 [.int .i64 n] (.int .i64 (plainI n)):=by
 refine yY body44 pure44 (hi 44 (by decide)) rfl rfl (wt (.int _ _ _)) (.inl (.int _ _ _)) ?_
 unfold plainI
 by_cases c:n<0
 ·rw[if_pos c]
  refine kQ (zB rfl (zA (k_seq (kQ (zC rfl (kp rfl (zA (k_cT rfl (kF (by omega)) (kQ (zC rfl ?_))))))))))
  refine o_neg rfl rfl (by unfold I64;omega) ?_
  refine zB rfl (zA (zk ?_))
  refine⟨.inr rfl,_,.cons _ _ _ _ (.tmp 2) .nil,?_⟩
  exact .refl _
 ·rw[if_neg c]
  refine kQ (zB rfl (zA (k_seq (kQ (zC rfl (kp rfl (zA (k_cF rfl (kG (by omega)) (zU (kQ (zC rfl (zB rfl (zA (zk ?_))))))))))))))
  refine⟨.inr rfl,_,.cons _ _ _ _ (.tmp 2) .nil,?_⟩
  exact .refl _
end
section
variable {is:FuncId→Bool}{orc:Known}{l:Ln}
theorem none_spl(h:VL l)(hb:bstO (splL l)=none):splL l=[]:=by
 rcases bst_spec (spl_pair l l.slots.length [])with ⟨e,_⟩|⟨b,e,_⟩
 ·exact e
 ·have e:bstO (splL l)=some b:=e
  rw[hb]at e;cases e
theorem zDU{b:List Int}(hb:bstO (splL l)=some b):b∈splL l∧∀s∈splL l,dfI b≤dfI s∧(dfI s=dfI b→zBT s b=false):=by
 rcases bst_spec (spl_pair l l.slots.length [])with ⟨_,e⟩|⟨c,e,h1,h2⟩
 ·have e:bstO (splL l)=none:=e
  rw[hb]at e;cases e
 ·have e:bstO (splL l)=some c:=e
  rw[hb]at e
  cases e
  exact⟨h1,h2⟩
theorem prt_len(p:List Int)(w:Int):(prtL p w).length≤p.length:=zBp _ _
end
end Go.Proofs.YthhbfbmfhldbaaaDoor.locks
