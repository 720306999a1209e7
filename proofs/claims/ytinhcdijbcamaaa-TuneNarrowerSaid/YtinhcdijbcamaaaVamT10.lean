import Derived.Test.YtinhcdijbcamaaaVamT9
set_option linter.unusedVariables false
set_option linter.unusedSimpArgs false
set_option linter.constructorNameAsVariable false
namespace Go.Proofs.Ytinhcdijbcamaaa.tuneNarrower
open Vam
section
variable {is:FuncId→Bool}{orc:Known}
noncomputable def b22:Code:=(Try.f22.body).getD .skip
theorem body22:bodyOf Try.prog 22=some (22,b22,[.cell 4 26,.tmp 5]):=by kernel_rfl
theorem pure22:pureFn Try.prog 22=true:=by kernel_rfl
noncomputable def b24:Code:=(Try.f24.body).getD .skip
theorem body24:bodyOf Try.prog 24=some (34,b24,[.tmp 6,.tmp 7]):=by kernel_rfl
theorem pure24:pureFn Try.prog 24=true:=by kernel_rfl
variable {t:Ts}{J:List Jn}{v x:Int}
theorem ask_ok{l:List Int}(h:askE t l=0):TOk t∧uF t l=true∧tunB t (zp t)=true:=by
 unfold askE at h
 split at h
 ·rename_i h1
  split at h
  ·rename_i h2
   split at h
   ·rename_i h3
    exact⟨(y8 t).1 h1,h2,h3⟩
   ·omega
  ·omega
 ·omega
theorem keys1(h:uF t [v]=true):0≤v∧v<(t.heard.length:Int):=by
 unfold uF at h;simp at h;exact h
noncomputable def pitU(t:Ts)(v:Int):U:=if askE t [v]=0 then z9 (utP t (zp t) false v) (utP t (zp t) true v)else z9 0 0
theorem dat_pit(t:Ts)(v:Int)(k:Nat):Dat (k+2) (pitU t v):=by
 unfold pitU;split<;>exact yf _ _ _
set_option maxHeartbeats 8000000 in
theorem ret22(hi:Off is)(t:Ts)(v:Int):RetP Try.prog is orc 22 [t.u,.int .i64 v] (.tup [pitU t v,.int .i64 (askE t [v])]):=by
 have q59:=ret59 (orc:=orc) hi t [v] (by simp)
 refine yQ body22 pure22 (hi 22 (by decide)) rfl rfl (z4 (wC t 4) (.int _ _ _)) (.inr ⟨_,rfl,z4 (dat_pit t v 5) (.int _ _ _)⟩) ?_
 by_cases h0:askE t [v]=0
 ·obtain⟨hok,hk,_⟩:=ask_ok h0
  have hv:=keys1 hk
  have hp:pitU t v=z9 (utP t (zp t) false v) (utP t (zp t) true v):=by unfold pitU;rw[if_pos h0]
  have hc:askC t [v]=setC t (zp t):=by unfold askC;rw[if_pos h0]
  rw[hc]at q59
  rw[hp]
  have q63:=ret63 (orc:=orc) hi hok.sok hv
  rw[h0]at q59 ⊢
  refine kQ (yH rfl rfl (zV rfl ze26 ?_))
  refine zC rfl (zB ?_)
  refine zM [(1,.int .i64 v),(2,U.box 0 0),(4,U.box 1 0)] ([SB.box t.cs,SB.box [.int .i64 0,.int .i64 0]]) (.c2 rfl rfl (.cons rfl (.nil rfl))) rfl fun fr=>?_
  refine kQ (zK rfl rfl rfl sh28 rfl (zA rfl (o_lit (es:=[.int .i64 v]) rfl ty29 ze3 cl3 rfl rfl rfl rfl rfl rfl rfl rfl ?_)))
  refine zX rfl q59 (.lcons _ _ _ _ (.refl _) (.lcons _ _ _ _ (.ro _ _ _) (.lrefl _))) ?_
  refine zA rfl (zY rfl rfl rfl (zY rfl rfl rfl (zV rfl ze84 ?_)))
  refine zN rfl rfl sh84 rfl rfl rfl rfl rfl ?_
  refine zC rfl (zB ?_)
  refine zM [(1,.int .i64 v),(4,U.box 1 0),(6,U.box 2 0),(7,.int .i64 0)] ([SB.box t.cs,SB.box [.int .i64 0,.int .i64 0],SB.box [.lst .ro 2 (zS t.heard),.lst .ro 2 (yg t.scales),.lst .ro 2 (zS t.pairs),.int .i64 t.lo,.int .i64 t.hi,.lst .ro 5 (jnsU (zp t))]]) (.c4 rfl rfl rfl rfl (.nil rfl)) rfl fun fr=>?_
  refine k_seq (kQ (zA rfl (o_neq rfl rfl rfl (zB (k_cF rfl rfl ?_)))))
  refine zW (kQ (zK rfl rfl rfl sh84 rfl (zA rfl (zX rfl (q63) (.lrefl _) (zN rfl rfl sh26 rfl rfl rfl rfl rfl ?_)))))
  refine zC rfl (zB (ze ?_))
  refine⟨.inr rfl,_,.cons _ _ _ _ (.cellN 4 26 _ _ _ _ rfl rfl sh26 rfl) (.cons _ _ _ _ (.tmp 5) .nil),?_⟩
  exact .refl _
 ·have hp:pitU t v=z9 0 0:=by unfold pitU;rw[if_neg h0]
  have hc:askC t [v]=z6:=by unfold askC;rw[if_neg h0]
  rw[hc]at q59
  rw[hp]
  generalize askE t [v]=e at h0 q59
  refine kQ (yH rfl rfl (zV rfl ze26 ?_))
  refine zC rfl (zB ?_)
  refine zM [(1,.int .i64 v),(2,U.box 0 0),(4,U.box 1 0)] ([SB.box t.cs,SB.box [.int .i64 0,.int .i64 0]]) (.c2 rfl rfl (.cons rfl (.nil rfl))) rfl fun fr=>?_
  refine kQ (zK rfl rfl rfl sh28 rfl (zA rfl (o_lit (es:=[.int .i64 v]) rfl ty29 ze3 cl3 rfl rfl rfl rfl rfl rfl rfl rfl ?_)))
  refine zX rfl q59 (.lcons _ _ _ _ (.refl _) (.lcons _ _ _ _ (.ro _ _ _) (.lrefl _))) ?_
  refine zA rfl (zY rfl rfl rfl (zY rfl rfl rfl (zV rfl ze84 ?_)))
  refine zN rfl rfl sh84 rfl rfl rfl rfl rfl ?_
  refine zC rfl (zB ?_)
  refine zM [(1,.int .i64 v),(4,U.box 1 0),(6,U.box 2 0),(7,.int .i64 e)] ([SB.box t.cs,SB.box [.int .i64 0,.int .i64 0],SB.box [.lst .full 0 [],.lst .full 0 [],.lst .full 0 [],.int .i64 0,.int .i64 0,.lst .full 0 []]]) (.c4 rfl rfl rfl rfl (.nil rfl)) rfl fun fr=>?_
  refine k_seq (kQ (zA rfl (o_neq rfl rfl rfl (zB (k_cT rfl (decide_eq_true (by omega)) (kQ (yP rfl ze26 pl26 rfl rfl ?_)))))))
  refine zA rfl (zN rfl rfl sh26 rfl rfl rfl rfl rfl ?_)
  refine zC rfl (zB (ze ?_))
  refine⟨.inr rfl,_,.cons _ _ _ _ (.cellN 4 26 _ _ _ _ rfl rfl sh26 rfl) (.cons _ _ _ _ (.tmp 5) .nil),?_⟩
  exact .refl _
noncomputable def canB(t:Ts)(v x:Int):Bool:=decide (askE t [v]=0)&&(decide (hloT t v≤x∧x≤hhiT t v)&&tunB (yn t v x) (zp t))
theorem canB_f(h:askE t [v]≠0):canB t v x=false:=by unfold canB;rw[decide_eq_false h];rfl
theorem ret24(hi:Off is)(t:Ts)(v x:Int):RetP Try.prog is orc 24 [t.u,.int .i64 v,.int .i64 x] (.tup [.bool (canB t v x),.int .i64 (askE t [v])]):=by
 have q59:=ret59 (orc:=orc) hi t [v] (by simp)
 refine yQ body24 pure24 (hi 24 (by decide)) rfl rfl (dat_l3 (wC t 4) (.int _ _ _) (.int _ _ _)) (.inr ⟨_,rfl,z4 (.bool _ _) (.int _ _ _)⟩) ?_
 by_cases h0:askE t [v]=0
 ·obtain⟨hok,hk,_⟩:=ask_ok h0
  have hv:=keys1 hk
  have hc:askC t [v]=setC t (zp t):=by unfold askC;rw[if_pos h0]
  rw[hc]at q59
  obtain⟨q,hq,e1,e2,hqb⟩:=hok.sok.key hv
  have q49:=ret49 (orc:=orc) hi q.a q.b x
  have hcb:canB t v x=((decide (q.a≤x)&&decide (x≤q.b))&&tunB (yn t v x) (zp t)):=by
   unfold canB;rw[decide_eq_true h0,e1,e2,Bool.true_and,Bool.decide_and]
  rw[hcb]
  rw[h0]at q59 ⊢
  cases hin:(decide (q.a≤x)&&decide (x≤q.b))with
  |false=>
   rw[hin]at q49
   refine kQ (yH rfl rfl (zC rfl (zC rfl (zB ?_))))
   refine zM [(1,.int .i64 v),(2,.int .i64 x),(3,U.box 0 0)] ([SB.box t.cs]) (.c2 rfl rfl (.cons rfl (.nil rfl))) rfl fun fr=>?_
   refine kQ (zK rfl rfl rfl sh28 rfl (zA rfl (o_lit (es:=[.int .i64 v]) rfl ty29 ze3 cl3 rfl rfl rfl rfl rfl rfl rfl rfl ?_)))
   refine zX rfl q59 (.lcons _ _ _ _ (.refl _) (.lcons _ _ _ _ (.ro _ _ _) (.lrefl _))) ?_
   refine zA rfl (zY rfl rfl rfl (zY rfl rfl rfl (zV rfl ze84 ?_)))
   refine zN rfl rfl sh84 rfl rfl rfl rfl rfl ?_
   refine zC rfl (zB ?_)
   refine zM [(1,.int .i64 v),(2,.int .i64 x),(8,U.box 1 0),(9,.int .i64 0)] ([SB.box t.cs,SB.box [.lst .ro 2 (zS t.heard),.lst .ro 2 (yg t.scales),.lst .ro 2 (zS t.pairs),.int .i64 t.lo,.int .i64 t.hi,.lst .ro 5 (jnsU (zp t))]]) (.c4 rfl rfl rfl rfl (.nil rfl)) rfl fun fr=>?_
   refine k_seq (kQ (zA rfl (o_neq rfl rfl rfl (zB (k_cF rfl rfl ?_)))))
   refine zW (k_seq (kQ (zG rfl rfl wB (zG rfl rfl yA (zF rfl rfl rfl sh22 rfl (zA rfl (yr (u:=(q).u) rfl ty22 rfl rfl (by omega) (by simp[hq]) cl26 ?_)))))))
   refine yC rfl rfl sh26 rfl ?_
   refine zA rfl (zX rfl (q49) (.lrefl _) (o_not rfl rfl (zB (k_cT rfl rfl ?_))))
   refine kQ (zC rfl (zC rfl (zB (ze ?_))))
   refine⟨.inr rfl,_,.cons _ _ _ _ (.tmp 6) (.cons _ _ _ _ (.tmp 7) .nil),?_⟩
   exact .refl _
  |true=>
   rw[hin]at q49
   simp only[Bool.and_eq_true,decide_eq_true_eq]at hin
   have q64:=ret64 (orc:=orc) (J:=zp t) hi hok.n1 hok.n8 hv (x:=x)
   have q65:=ret65 (orc:=orc) hi (wR (v:=v) hok.sok (x:=x) (by omega))
   refine kQ (yH rfl rfl (zC rfl (zC rfl (zB ?_))))
   refine zM [(1,.int .i64 v),(2,.int .i64 x),(3,U.box 0 0)] ([SB.box t.cs]) (.c2 rfl rfl (.cons rfl (.nil rfl))) rfl fun fr=>?_
   refine kQ (zK rfl rfl rfl sh28 rfl (zA rfl (o_lit (es:=[.int .i64 v]) rfl ty29 ze3 cl3 rfl rfl rfl rfl rfl rfl rfl rfl ?_)))
   refine zX rfl q59 (.lcons _ _ _ _ (.refl _) (.lcons _ _ _ _ (.ro _ _ _) (.lrefl _))) ?_
   refine zA rfl (zY rfl rfl rfl (zY rfl rfl rfl (zV rfl ze84 ?_)))
   refine zN rfl rfl sh84 rfl rfl rfl rfl rfl ?_
   refine zC rfl (zB ?_)
   refine zM [(1,.int .i64 v),(2,.int .i64 x),(8,U.box 1 0),(9,.int .i64 0)] ([SB.box t.cs,SB.box [.lst .ro 2 (zS t.heard),.lst .ro 2 (yg t.scales),.lst .ro 2 (zS t.pairs),.int .i64 t.lo,.int .i64 t.hi,.lst .ro 5 (jnsU (zp t))]]) (.c4 rfl rfl rfl rfl (.nil rfl)) rfl fun fr=>?_
   refine k_seq (kQ (zA rfl (o_neq rfl rfl rfl (zB (k_cF rfl rfl ?_)))))
   refine zW (k_seq (kQ (zG rfl rfl wB (zG rfl rfl yA (zF rfl rfl rfl sh22 rfl (zA rfl (yr (u:=(q).u) rfl ty22 rfl rfl (by omega) (by simp[hq]) cl26 ?_)))))))
   refine yC rfl rfl sh26 rfl ?_
   refine zA rfl (zX rfl (q49) (.lrefl _) (o_not rfl rfl (zB (k_cF rfl rfl ?_))))
   refine zW (kQ (zK rfl rfl rfl sh84 rfl (zA rfl (zA rfl (zX rfl (q64) (.lrefl _) (zX rfl (q65) (.lrefl _) (zC rfl (zC rfl ?_))))))))
   refine zB (ze ?_)
   refine⟨.inr rfl,_,.cons _ _ _ _ (.tmp 6) (.cons _ _ _ _ (.tmp 7) .nil),?_⟩
   exact .refl _
 ·rw[canB_f h0]
  have hc:askC t [v]=z6:=by unfold askC;rw[if_neg h0]
  rw[hc]at q59
  generalize askE t [v]=e at h0 q59
  refine kQ (yH rfl rfl (zC rfl (zC rfl (zB ?_))))
  refine zM [(1,.int .i64 v),(2,.int .i64 x),(3,U.box 0 0)] ([SB.box t.cs]) (.c2 rfl rfl (.cons rfl (.nil rfl))) rfl fun fr=>?_
  refine kQ (zK rfl rfl rfl sh28 rfl (zA rfl (o_lit (es:=[.int .i64 v]) rfl ty29 ze3 cl3 rfl rfl rfl rfl rfl rfl rfl rfl ?_)))
  refine zX rfl q59 (.lcons _ _ _ _ (.refl _) (.lcons _ _ _ _ (.ro _ _ _) (.lrefl _))) ?_
  refine zA rfl (zY rfl rfl rfl (zY rfl rfl rfl (zV rfl ze84 ?_)))
  refine zN rfl rfl sh84 rfl rfl rfl rfl rfl ?_
  refine zC rfl (zB ?_)
  refine zM [(1,.int .i64 v),(2,.int .i64 x),(8,U.box 1 0),(9,.int .i64 e)] ([SB.box t.cs,SB.box [.lst .full 0 [],.lst .full 0 [],.lst .full 0 [],.int .i64 0,.int .i64 0,.lst .full 0 []]]) (.c4 rfl rfl rfl rfl (.nil rfl)) rfl fun fr=>?_
  refine k_seq (kQ (zA rfl (o_neq rfl rfl rfl (zB (k_cT rfl (decide_eq_true (by omega)) (kQ (zA rfl (zC rfl ?_))))))))
  refine zC rfl (zB (ze ?_))
  refine⟨.inr rfl,_,.cons _ _ _ _ (.tmp 6) (.cons _ _ _ _ (.tmp 7) .nil),?_⟩
  exact .refl _
end
section
variable {is:FuncId→Bool}{orc:Known}
theorem by3:Program.bytesOf Try.prog 3=8:=by kernel_rfl
variable {t:Ts}{J:List Jn}{kn mp sv cn:Nat}{st Y Z:List SB}{v x fm:Int}
def accI(l:List Int):U:=match l with
 |[]=>.lst .full 0 []
 |l=>.lst .own 1 (yc l)
theorem accI_snoc(x:Int)(l:List Int):accI (l++[x])=.lst .own 1 (yc l++[.int .i64 x]):=by
 cases l with
 |nil=>rfl
 |cons y l=>show U.lst .own 1 (List.map _ ((y::l)++[x]))=_;rw[List.map_append];rfl
end
section
variable {is:FuncId→Bool}{orc:Known}
variable {t:Ts}{J:List Jn}{v x:Int}
end
end Go.Proofs.Ytinhcdijbcamaaa.tuneNarrower
