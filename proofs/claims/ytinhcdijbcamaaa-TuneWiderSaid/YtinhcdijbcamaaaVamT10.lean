import Derived.Test.YtinhcdijbcamaaaVamT9
set_option linter.unusedVariables false
set_option linter.unusedSimpArgs false
set_option linter.constructorNameAsVariable false
namespace Go.Proofs.Ytinhcdijbcamaaa.tuneWider
open Vam
section
variable {is:FuncId→Bool}{orc:Known}
noncomputable def b22:Code:=(Try.f22.body).getD .skip
theorem body22:bodyOf Try.prog 22=some (22,b22,[.cell 4 26,.tmp 5]):=by kernel_rfl
theorem pure22:pureFn Try.prog 22=true:=by kernel_rfl
variable {t:Ts}{J:List Jn}{v x:Int}
theorem ask_ok{l:List Int}(h:askE t l=0):TOk t∧zGs t l=true∧tunB t (zY t)=true:=by
 unfold askE at h
 split at h
 ·rename_i h1
  split at h
  ·rename_i h2
   split at h
   ·rename_i h3
    exact⟨(zBD t).1 h1,h2,h3⟩
   ·omega
  ·omega
 ·omega
theorem keys1(h:zGs t [v]=true):0≤v∧v<(t.heard.length:Int):=by
 unfold zGs at h;simp at h;exact h
noncomputable def pitU(t:Ts)(v:Int):U:=if askE t [v]=0 then wQ (utP t (zY t) false v) (utP t (zY t) true v)else wQ 0 0
theorem dat_pit(t:Ts)(v:Int)(k:Nat):Dat (k+2) (pitU t v):=by
 unfold pitU;split<;>exact ye _ _ _
set_option maxHeartbeats 8000000 in
theorem ret22(hi:Off is)(t:Ts)(v:Int):RetP Try.prog is orc 22 [t.u,.int .i64 v] (.tup [pitU t v,.int .i64 (askE t [v])]):=by
 have q59:=ret59 (orc:=orc) hi t [v] (by simp)
 refine yV body22 pure22 (hi 22 (by decide)) rfl rfl (wH (zCo t 4) (.int _ _ _)) (.inr ⟨_,rfl,wH (dat_pit t v 5) (.int _ _ _)⟩) ?_
 by_cases h0:askE t [v]=0
 ·obtain⟨hok,hk,_⟩:=ask_ok h0
  have hv:=keys1 hk
  have hp:pitU t v=wQ (utP t (zY t) false v) (utP t (zY t) true v):=by unfold pitU;rw[if_pos h0]
  have hc:askC t [v]=setC t (zY t):=by unfold askC;rw[if_pos h0]
  rw[hc]at q59
  rw[hp]
  have q63:=ret63 (orc:=orc) hi hok.sok hv
  rw[h0]at q59 ⊢
  refine kQ (yO rfl rfl (zS rfl ze26 ?_))
  refine zC rfl (zA ?_)
  refine zM [(1,.int .i64 v),(2,U.box 0 0),(4,U.box 1 0)] ([SB.box t.cs,SB.box [.int .i64 0,.int .i64 0]]) (.cons rfl (.cons rfl (.cons rfl (.nil rfl)))) rfl fun fr=>?_
  refine kQ (zI rfl rfl rfl sh28 rfl (zB rfl (zDv (es:=[.int .i64 v]) rfl ty29 ze3 cl3 rfl rfl rfl rfl rfl rfl rfl rfl ?_)))
  refine zR rfl q59 (.lcons _ _ _ _ (.refl _) (.lcons _ _ _ _ (.ro _ _ _) (.lrefl _))) ?_
  refine zB rfl (zT rfl rfl rfl (zT rfl rfl rfl (zS rfl ze84 ?_)))
  refine zJ rfl rfl sh84 rfl rfl rfl rfl rfl ?_
  refine zC rfl (zA ?_)
  refine zM [(1,.int .i64 v),(4,U.box 1 0),(6,U.box 2 0),(7,.int .i64 0)] ([SB.box t.cs,SB.box [.int .i64 0,.int .i64 0],SB.box [.lst .ro 2 (zZ t.heard),.lst .ro 2 (wD t.scales),.lst .ro 2 (zZ t.pairs),.int .i64 t.lo,.int .i64 t.hi,.lst .ro 5 (jnsU (zY t))]]) (.c4 rfl rfl rfl rfl (.nil rfl)) rfl fun fr=>?_
  refine k_seq (kQ (zB rfl (zAw rfl rfl rfl (zA (k_cF rfl rfl ?_)))))
  refine zV (kQ (zI rfl rfl rfl sh84 rfl (zB rfl (zR rfl (q63) (.lrefl _) (zJ rfl rfl sh26 rfl rfl rfl rfl rfl ?_)))))
  refine zC rfl (zA (zg ?_))
  refine⟨.inr rfl,_,.cons _ _ _ _ (.cellN 4 26 _ _ _ _ rfl rfl sh26 rfl) (.cons _ _ _ _ (.tmp 5) .nil),?_⟩
  exact .refl _
 ·have hp:pitU t v=wQ 0 0:=by unfold pitU;rw[if_neg h0]
  have hc:askC t [v]=z6:=by unfold askC;rw[if_neg h0]
  rw[hc]at q59
  rw[hp]
  generalize askE t [v]=e at h0 q59
  refine kQ (yO rfl rfl (zS rfl ze26 ?_))
  refine zC rfl (zA ?_)
  refine zM [(1,.int .i64 v),(2,U.box 0 0),(4,U.box 1 0)] ([SB.box t.cs,SB.box [.int .i64 0,.int .i64 0]]) (.cons rfl (.cons rfl (.cons rfl (.nil rfl)))) rfl fun fr=>?_
  refine kQ (zI rfl rfl rfl sh28 rfl (zB rfl (zDv (es:=[.int .i64 v]) rfl ty29 ze3 cl3 rfl rfl rfl rfl rfl rfl rfl rfl ?_)))
  refine zR rfl q59 (.lcons _ _ _ _ (.refl _) (.lcons _ _ _ _ (.ro _ _ _) (.lrefl _))) ?_
  refine zB rfl (zT rfl rfl rfl (zT rfl rfl rfl (zS rfl ze84 ?_)))
  refine zJ rfl rfl sh84 rfl rfl rfl rfl rfl ?_
  refine zC rfl (zA ?_)
  refine zM [(1,.int .i64 v),(4,U.box 1 0),(6,U.box 2 0),(7,.int .i64 e)] ([SB.box t.cs,SB.box [.int .i64 0,.int .i64 0],SB.box [.lst .full 0 [],.lst .full 0 [],.lst .full 0 [],.int .i64 0,.int .i64 0,.lst .full 0 []]]) (.c4 rfl rfl rfl rfl (.nil rfl)) rfl fun fr=>?_
  refine k_seq (kQ (zB rfl (zAw rfl rfl rfl (zA (k_cT rfl (decide_eq_true (by omega)) (kQ (yK rfl ze26 pl26 rfl rfl ?_)))))))
  refine zB rfl (zJ rfl rfl sh26 rfl rfl rfl rfl rfl ?_)
  refine zC rfl (zA (zg ?_))
  refine⟨.inr rfl,_,.cons _ _ _ _ (.cellN 4 26 _ _ _ _ rfl rfl sh26 rfl) (.cons _ _ _ _ (.tmp 5) .nil),?_⟩
  exact .refl _
end
section
variable {is:FuncId→Bool}{orc:Known}
variable {t:Ts}{J:List Jn}{kn mp sv cn:Nat}{st Y Z:List SB}{v x fm:Int}
end
section
variable {is:FuncId→Bool}{orc:Known}
variable {t:Ts}{J:List Jn}{v x:Int}
end
end Go.Proofs.Ytinhcdijbcamaaa.tuneWider
