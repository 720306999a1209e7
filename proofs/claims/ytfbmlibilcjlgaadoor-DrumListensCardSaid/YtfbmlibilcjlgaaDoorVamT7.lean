import Derived.Test.YtfbmlibilcjlgaaDoorVamT6
set_option linter.unusedVariables false
set_option linter.unusedSimpArgs false
set_option linter.constructorNameAsVariable false
namespace Go.Proofs.YtfbmlibilcjlgaaDoor.drumListens
open Vam
variable {is:FuncId→Bool}{orc:Known}
noncomputable def b45:Code:=(Tryd.f45.body).getD .skip
theorem body45:bodyOf Tryd.prog 45=some (19,b45,[.tmp 4]):=by kernel_rfl
theorem pure45:pureFn Tryd.prog 45=true:=by kernel_rfl
def whrF(n:Int):List Int→Int→Int
 |[],_=> -1
 |x::l,k=>if x=n then k else whrF n l (k+1)
def whrI(l:List Int)(n:Int):Int:=whrF n l 0
theorem whrF_neg(n:Int):∀(l:List Int) (k:Int),0≤k→(whrF n l k<0↔n ∉ l):=by
 intro l
 induction l with
 |nil=>intro k hk;unfold whrF;simp
 |cons x l ih=>
  intro k hk
  unfold whrF
  by_cases e:x=n
  ·subst e;rw[if_pos rfl];simp;omega
  ·rw[if_neg e,ih (k+1) (by omega)]
   simp only[List.mem_cons,not_or]
   exact⟨fun h=>⟨fun e2=>e e2.symm,h⟩,fun h=>h.2⟩
theorem whr_neg(l:List Int)(n:Int):whrI l n<0↔n ∉ l:=whrF_neg n l 0 (Int.le_refl _)
theorem drop_at{α:Type}{l:List α}{i:Nat}{x:α}(h:l[i]? =some x):l.drop i=x::l.drop (i+1):=by
 obtain⟨h1,h2⟩:=List.getElem?_eq_some_iff.1 h
 rw[List.drop_eq_getElem_cons h1,h2]
set_option maxHeartbeats 4000000 in
theorem ret45(hi:Off is)(l:List Int)(n:Int)(hl:l.length≤4096):RetP Tryd.prog is orc 45 [.lst .ro 1 (zD l),.int .i64 n] (.int .i64 (whrI l n)):=by
 refine zw body45 pure45 (hi 45 (by decide)) rfl rfl (yj (zg 6 .ro (fun h=>by cases h) 1 l) (.int _ _ _)) (.inl (.int _ _ _)) ?_
 refine kQ (zC rfl (zB (k_seq (kQ (zC rfl (zB (zM ?_)))))))
 refine yi (fun kk s2=>∃i:Nat,kk+i=l.length∧whrI l n=whrF n (l.drop i) i∧s2.st=[]∧Holds s2 [(0,.lst .ro 1 (zD l)),(1,.int .i64 n),(5,.int .i64 i)]) (fun kk s2 hI=>?_) l.length _ ⟨0,rfl,rfl,rfl,.cons rfl (.cons rfl (.cons rfl (.nil rfl)))⟩
 obtain⟨i,hk,hw,hst2,hs2⟩:=hI
 refine zK _ _ hs2 hst2 fun fr2=>?_
 by_cases hin:i<l.length
 ·obtain⟨x,hx⟩:∃x,l[i]? =some x:=⟨l[i],List.getElem?_eq_getElem hin⟩
  rw[drop_at hx]at hw
  unfold whrF at hw
  by_cases e:x=n
  ·rw[if_pos e]at hw
   rw[hw]
   refine k_seq (kQ (zA rfl (zA rfl (yB rfl ty22 rfl (List.length_map _) ?_))))
   refine zc rfl rfl rfl (zB (k_cT rfl (decide_eq_true (by omega)) (zQ (k_seq (zM (kQ (zA rfl (zA rfl ?_))))))))
   refine yb (u:=.int .i64 (x)) rfl ty22 rfl rfl (Int.natCast_nonneg _) (by simp[hx]) cl3 ?_
   refine zZ rfl rfl sh3 rfl ?_
   refine zA rfl (wG rfl rfl rfl (zB (k_cT rfl (decide_eq_true (by omega)) (kQ (zA rfl (zC rfl (zB (zU ?_))))))))
   refine⟨.inr rfl,_,.cons _ _ _ _ (.tmp 4) .nil,?_⟩
   exact .refl _
  ·rw[if_neg e]at hw
   refine k_seq (kQ (zA rfl (zA rfl (yB rfl ty22 rfl (List.length_map _) ?_))))
   refine zc rfl rfl rfl (zB (k_cT rfl (decide_eq_true (by omega)) (zQ (k_seq (zM (kQ (zA rfl (zA rfl ?_))))))))
   refine yb (u:=.int .i64 (x)) rfl ty22 rfl rfl (Int.natCast_nonneg _) (by simp[hx]) cl3 ?_
   refine zZ rfl rfl sh3 rfl ?_
   refine zA rfl (wG rfl rfl rfl (zB (k_cF rfl (decide_eq_false (by omega)) (zQ (k_region (zA rfl ?_))))))
   refine yU rfl rfl rfl (by unfold I64;omega) (zC rfl (zB ?_))
   exact⟨kk - 1,by omega,i+1,by omega,hw,rfl,.cons rfl (.cons rfl (.cons rfl (.nil rfl)))⟩
 ·have hiN:i=l.length:=by omega
  subst hiN
  rw[List.drop_length]at hw
  rw[hw]
  refine k_seq (kQ (zA rfl (zA rfl (yB rfl ty22 rfl (List.length_map _) ?_))))
  refine zc rfl rfl rfl (zB (k_cF rfl (decide_eq_false (by omega)) (yX (kQ (zC rfl (zB (zU ?_)))))))
  refine⟨.inr rfl,_,.cons _ _ _ _ (.tmp 4) .nil,?_⟩
  exact .refl _
end Go.Proofs.YtfbmlibilcjlgaaDoor.drumListens
