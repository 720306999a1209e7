import Derived.Test.YtinhcdijbcamaaaVamT1
set_option linter.unusedVariables false
set_option linter.unusedSimpArgs false
set_option linter.constructorNameAsVariable false
namespace Go.Proofs.Ytinhcdijbcamaaa.tuneNarrower
open Vam
section
variable {is:FuncId→Bool}{orc:Known}
theorem y6{k:Nat}{a:U}(h:Dat k a):∀v∈[a],Dat k v:=fun v hv=>by
 simp only[List.mem_cons,List.not_mem_nil,or_false]at hv
 subst hv;exact h
theorem z4{k:Nat}{a b:U}(h:Dat k a)(h2:Dat k b):∀v∈[a,b],Dat k v:=fun v hv=>by
 simp only[List.mem_cons,List.not_mem_nil,or_false]at hv
 rcases hv with rfl|rfl<;>assumption
theorem dat_l3{k:Nat}{a b c:U}(h:Dat k a)(h2:Dat k b)(h3:Dat k c):∀v∈[a,b,c],Dat k v:=fun v hv=>by
 simp only[List.mem_cons,List.not_mem_nil,or_false]at hv
 rcases hv with rfl|rfl|rfl<;>assumption
abbrev z9(a b:Int):U:=.agg [.int .i64 a,.int .i64 b]
theorem yf(a b:Int)(k:Nat):Dat (k+2) (z9 a b):=.agg _ _ (z4 (.int _ _ _) (.int _ _ _))
theorem wH(a b:Int):FlatU (z9 a b):=.agg _ fun c hc=>by
 simp only[List.mem_cons,List.not_mem_nil,or_false]at hc
 rcases hc with rfl|rfl<;>exact .int _ _
abbrev yc(l:List Int):List U:=l.map fun n=>.int .i64 n
structure Two where
 a:Int
 b:Int
abbrev Two.u(q:Two):U:=z9 q.a q.b
abbrev zS(l:List Two):List U:=l.map Two.u
abbrev Jn.u(j:Jn):U:=.agg [.int .i64 j.kd,.int .i64 j.one,.int .i64 j.two,.int .i64 j.lo,.int .i64 j.hi]
abbrev jnsU(l:List Jn):List U:=l.map Jn.u
theorem uA(q:Jn)(k:Nat):Dat (k+2) q.u:=.agg _ _ fun c hc=>by
 simp only[List.mem_cons,List.not_mem_nil,or_false]at hc
 rcases hc with rfl|rfl|rfl|rfl|rfl<;>exact .int _ _ _
theorem wS(l:List Two)(kd:Kd)(hk:kd≠.own)(k:Nat):Dat (k+2) (.lst kd 2 (zS l)):=by
 refine .lst _ _ _ _ hk fun c hc=>?_
 obtain⟨e,h1,h2⟩:=List.mem_flatMap.1 hc
 obtain⟨q,_,rfl⟩:=List.mem_map.1 h1
 exact z4 (.int _ _ _) (.int _ _ _) c h2
theorem ud(l:List Jn)(kd:Kd)(hk:kd≠.own)(k:Nat):Dat (k+2) (.lst kd 5 (jnsU l)):=by
 refine .lst _ _ _ _ hk fun c hc=>?_
 obtain⟨e,h1,h2⟩:=List.mem_flatMap.1 hc
 obtain⟨q,_,rfl⟩:=List.mem_map.1 h1
 simp only[zq,List.mem_cons,List.not_mem_nil,or_false]at h2
 rcases h2 with rfl|rfl|rfl|rfl|rfl<;>exact .int _ _ _
theorem wd{α:Type}{p:α→Bool}{l:List α}{n:Nat}{x:α}(h:l[n]? =some x)(h1:(l.take n).all p=true)(h2:p x=true):(l.take (n+1)).all p=true:=by
 rw[List.take_add_one,List.all_append,h1,h]
 simpa using h2
theorem wN{α:Type}{p:α→Bool}{l:List α}{n:Nat}{x:α}(h:l[n]? =some x)(h2:p x=false):l.all p=false:=by
 rw[List.all_eq_false]
 exact⟨x,List.mem_of_getElem? h,by simp[h2]⟩
theorem yF{l m:List SB}{i:Nat}{x:SB}(h:l[i]? =some x):(l++m)[i]? =some x:=by
 rw[List.getElem?_append_left (List.getElem?_eq_some_iff.1 h).1,h]
theorem yN(l:List SB)(x y:SB):(l++[x]).set l.length y=l++[y]:=by
 rw[List.set_append_right _ _ (Nat.le_refl _),Nat.sub_self];rfl
abbrev Off(is:FuncId→Bool):Prop:=∀f,f≠21→is f=false
theorem yJ:zr Try.prog 26 0=some (0,3):=by kernel_rfl
theorem yh:zr Try.prog 26 1=some (1,3):=by kernel_rfl
theorem sh3:shOf Try.prog 3=.one:=by kernel_rfl
noncomputable def b49:Code:=(Try.f49.body).getD .skip
theorem body49:bodyOf Try.prog 49=some (15,b49,[.tmp 4]):=by kernel_rfl
theorem pure49:pureFn Try.prog 49=true:=by kernel_rfl
noncomputable def b56:Code:=(Try.f56.body).getD .skip
theorem body56:bodyOf Try.prog 56=some (15,b56,[.tmp 6]):=by kernel_rfl
theorem pure56:pureFn Try.prog 56=true:=by kernel_rfl
noncomputable def b85:Code:=(Try.f85.body).getD .skip
theorem body85:bodyOf Try.prog 85=some (24,b85,[.tmp 6]):=by kernel_rfl
theorem pure85:pureFn Try.prog 85=true:=by kernel_rfl
theorem pl26:plcOf Try.prog 26=some [(0,1),(1,1)]:=by kernel_rfl
theorem sh26:shOf Try.prog 26=.many 2:=by kernel_rfl
theorem ze26:yR Try.prog 26=some ((.cons (.int .i64 0) (.cons (.int .i64 0) .nil)):V):=by kernel_rfl
noncomputable def b92:Code:=(Try.f92.body).getD .skip
theorem body92:bodyOf Try.prog 92=some (6,b92,[.cell 2 26]):=by kernel_rfl
theorem pure92:pureFn Try.prog 92=true:=by kernel_rfl
noncomputable def b116:Code:=(Try.f116.body).getD .skip
theorem body116:bodyOf Try.prog 116=some (11,b116,[.tmp 4]):=by kernel_rfl
theorem pure116:pureFn Try.prog 116=true:=by kernel_rfl
noncomputable def b107:Code:=(Try.f107.body).getD .skip
theorem body107:bodyOf Try.prog 107=some (5,b107,[.tmp 2]):=by kernel_rfl
theorem pure107:pureFn Try.prog 107=true:=by kernel_rfl
noncomputable def b108:Code:=(Try.f108.body).getD .skip
theorem body108:bodyOf Try.prog 108=some (5,b108,[.tmp 2]):=by kernel_rfl
theorem pure108:pureFn Try.prog 108=true:=by kernel_rfl
noncomputable def b41:Code:=(Try.f41.body).getD .skip
theorem body41:bodyOf Try.prog 41=some (8,b41,[.cell 4 26]):=by kernel_rfl
theorem pure41:pureFn Try.prog 41=true:=by kernel_rfl
noncomputable def b40:Code:=(Try.f40.body).getD .skip
theorem body40:bodyOf Try.prog 40=some (17,b40,[.tmp 4]):=by kernel_rfl
theorem pure40:pureFn Try.prog 40=true:=by kernel_rfl
noncomputable def b45:Code:=(Try.f45.body).getD .skip
theorem body45:bodyOf Try.prog 45=some (24,b45,[.tmp 6]):=by kernel_rfl
theorem pure45:pureFn Try.prog 45=true:=by kernel_rfl
theorem ret49(hi:Off is)(a b n:Int):RetP Try.prog is orc 49 [z9 a b,.int .i64 n] (.bool (decide (a≤n)&&decide (n≤b))):=by
 refine yQ body49 pure49 (hi 49 (by decide)) rfl rfl (z4 (yf a b 6) (.int _ _ _)) (.inl (.bool _ _)) ?_
 by_cases h1:a≤n
 ·have e1:decide (a≤n)=true:=decide_eq_true h1
  rw[e1,Bool.true_and]
  refine kQ (yH rfl rfl (zC rfl (zB ?_)))
  refine zM [(1,.int .i64 n),(2,U.box 0 0)] ([SB.box [.int .i64 a,.int .i64 b]]) (.c2 rfl rfl (.nil rfl)) rfl fun fr=>?_
  refine kQ (zG rfl rfl yJ (zF rfl rfl rfl sh3 rfl (zA rfl (o_leq rfl rfl rfl (zA rfl (o_gD rfl rfl rfl rfl (by assumption) (zA rfl (o_gD rfl rfl rfl rfl (by assumption) ?_))))))))
  refine zG rfl rfl yh (o_gD rfl rfl rfl rfl (by assumption) (zF rfl rfl rfl sh3 rfl (o_gD rfl rfl rfl rfl (by assumption) (o_leq rfl rfl rfl (zT rfl rfl (by assumption) ?_)))))
  refine zC rfl (zB (ze ?_))
  refine⟨.inr rfl,_,.cons _ _ _ _ (.tmp 4) .nil,?_⟩
  exact .refl _
 ·have e1:decide (a≤n)=false:=decide_eq_false h1
  rw[e1,Bool.false_and]
  refine kQ (yH rfl rfl (zC rfl (zB ?_)))
  refine zM [(1,.int .i64 n),(2,U.box 0 0)] ([SB.box [.int .i64 a,.int .i64 b]]) (.c2 rfl rfl (.nil rfl)) rfl fun fr=>?_
  refine kQ (zG rfl rfl yJ (zF rfl rfl rfl sh3 rfl (zA rfl (o_leq rfl rfl rfl (zA rfl (o_gS rfl rfl rfl rfl (by assumption) (o_gS rfl rfl rfl rfl (by assumption) (o_gS rfl rfl rfl rfl (by assumption) ?_))))))))
  refine o_gS rfl rfl rfl rfl (by assumption) (zQ rfl rfl (by assumption) ?_)
  refine zC rfl (zB (ze ?_))
  refine⟨.inr rfl,_,.cons _ _ _ _ (.tmp 4) .nil,?_⟩
  exact .refl _
theorem ret56(hi:Off is)(n lo up:Int):RetP Try.prog is orc 56 [.int .i64 n,.int .i64 lo,.int .i64 up] (.bool (decide (lo≤n)&&decide (n≤up))):=by
 refine yQ body56 pure56 (hi 56 (by decide)) rfl rfl (dat_l3 (.int _ _ _) (.int _ _ _) (.int _ _ _)) (.inl (.bool _ _)) ?_
 by_cases h1:lo≤n
 ·have e1:decide (lo≤n)=true:=decide_eq_true h1
  rw[e1,Bool.true_and]
  refine kQ (zC rfl (zB (kQ (zA rfl (zA rfl (o_leq rfl rfl rfl (zA rfl (o_gD rfl rfl rfl rfl (by assumption) ?_))))))))
  refine zA rfl (o_gD rfl rfl rfl rfl (by assumption) (zA rfl (o_gD rfl rfl rfl rfl (by assumption) (o_leq rfl rfl rfl (zT rfl rfl (by assumption) ?_)))))
  refine zC rfl (zB (ze ?_))
  refine⟨.inr rfl,_,.cons _ _ _ _ (.tmp 6) .nil,?_⟩
  exact .refl _
 ·have e1:decide (lo≤n)=false:=decide_eq_false h1
  rw[e1,Bool.false_and]
  refine kQ (zC rfl (zB (kQ (zA rfl (zA rfl (o_leq rfl rfl rfl (zA rfl (o_gS rfl rfl rfl rfl (by assumption) ?_))))))))
  refine o_gS rfl rfl rfl rfl (by assumption) (o_gS rfl rfl rfl rfl (by assumption) (zQ rfl rfl (by assumption) ?_))
  refine zC rfl (zB (ze ?_))
  refine⟨.inr rfl,_,.cons _ _ _ _ (.tmp 6) .nil,?_⟩
  exact .refl _
def wl(a b lo hi:Int):Bool:=decide (lo≤a)&&decide (a≤b)&&decide (b≤hi)
theorem ret85(hi:Off is)(a b lo up:Int):RetP Try.prog is orc 85 [z9 a b,.int .i64 lo,.int .i64 up] (.bool (wl a b lo up)):=by
 refine yQ body85 pure85 (hi 85 (by decide)) rfl rfl (dat_l3 (yf a b 6) (.int _ _ _) (.int _ _ _)) (.inl (.bool _ _)) ?_
 unfold wl
 by_cases h1:lo≤a
 ·have e1:decide (lo≤a)=true:=decide_eq_true h1
  rw[e1,Bool.true_and]
  by_cases h2:a≤b
  ·have e2:decide (a≤b)=true:=decide_eq_true h2
   rw[e2,Bool.true_and]
   refine kQ (yH rfl rfl (zC rfl (zB ?_)))
   refine zM [(1,.int .i64 lo),(2,.int .i64 up),(3,U.box 0 0)] ([SB.box [.int .i64 a,.int .i64 b]]) (.c2 rfl rfl (.cons rfl (.nil rfl))) rfl fun fr=>?_
   refine kQ (zA rfl (zG rfl rfl yJ (zF rfl rfl rfl sh3 rfl (o_leq rfl rfl rfl (zA rfl (o_gD rfl rfl rfl rfl (by assumption) (zG rfl rfl yJ (o_gD rfl rfl rfl rfl (by assumption) ?_))))))))
   refine zF rfl rfl rfl sh3 rfl (o_gD rfl rfl rfl rfl (by assumption) (zG rfl rfl yh (o_gD rfl rfl rfl rfl (by assumption) (zF rfl rfl rfl sh3 rfl ?_))))
   refine zc [(2,.int .i64 up),(3,U.box 0 0),(11,U.bool (decide (lo≤a))),(13,.int .i64 a),(15,.int .i64 b)] [] ([SB.box [.int .i64 a,.int .i64 b]]) (.c4 rfl rfl rfl rfl (.cons rfl (.nil rfl))) rfl rfl fun fr=>?_
   refine o_gD rfl rfl rfl rfl (by assumption) ?_
   refine zc [(2,.int .i64 up),(3,U.box 0 0),(11,U.bool (decide (lo≤a))),(13,.int .i64 a),(15,.int .i64 b)] [] ([SB.box [.int .i64 a,.int .i64 b]]) (.c4 rfl rfl rfl rfl (.cons rfl (.nil rfl))) rfl rfl fun fr=>?_
   refine o_leq rfl rfl rfl (zT rfl rfl (by assumption) ?_)
   refine zA rfl (o_gD rfl rfl rfl rfl (by assumption) (zG rfl rfl yh (o_gD rfl rfl rfl rfl (by assumption) (zF rfl rfl rfl sh3 rfl (o_gD rfl rfl rfl rfl (by assumption) (zA rfl (o_gD rfl rfl rfl rfl (by assumption) (o_leq rfl rfl rfl ?_))))))))
   refine zT rfl rfl (by assumption) ?_
   refine zC rfl (zB (ze ?_))
   refine⟨.inr rfl,_,.cons _ _ _ _ (.tmp 6) .nil,?_⟩
   exact .refl _
  ·have e2:decide (a≤b)=false:=decide_eq_false h2
   rw[e2,Bool.false_and]
   refine kQ (yH rfl rfl (zC rfl (zB ?_)))
   refine zM [(1,.int .i64 lo),(2,.int .i64 up),(3,U.box 0 0)] ([SB.box [.int .i64 a,.int .i64 b]]) (.c2 rfl rfl (.cons rfl (.nil rfl))) rfl fun fr=>?_
   refine kQ (zA rfl (zG rfl rfl yJ (zF rfl rfl rfl sh3 rfl (o_leq rfl rfl rfl (zA rfl (o_gD rfl rfl rfl rfl (by assumption) (zG rfl rfl yJ (o_gD rfl rfl rfl rfl (by assumption) ?_))))))))
   refine zF rfl rfl rfl sh3 rfl (o_gD rfl rfl rfl rfl (by assumption) (zG rfl rfl yh (o_gD rfl rfl rfl rfl (by assumption) (zF rfl rfl rfl sh3 rfl ?_))))
   refine zc [(2,.int .i64 up),(3,U.box 0 0),(11,U.bool (decide (lo≤a))),(13,.int .i64 a),(15,.int .i64 b)] [] ([SB.box [.int .i64 a,.int .i64 b]]) (.c4 rfl rfl rfl rfl (.cons rfl (.nil rfl))) rfl rfl fun fr=>?_
   refine o_gD rfl rfl rfl rfl (by assumption) ?_
   refine zc [(2,.int .i64 up),(3,U.box 0 0),(11,U.bool (decide (lo≤a))),(13,.int .i64 a),(15,.int .i64 b)] [] ([SB.box [.int .i64 a,.int .i64 b]]) (.c4 rfl rfl rfl rfl (.cons rfl (.nil rfl))) rfl rfl fun fr=>?_
   refine o_leq rfl rfl rfl (zT rfl rfl (by assumption) ?_)
   refine zA rfl (o_gS rfl rfl rfl rfl (by assumption) (o_gS rfl rfl rfl rfl (by assumption) (o_gS rfl rfl rfl rfl (by assumption) (o_gS rfl rfl rfl rfl (by assumption) (zQ rfl rfl (by assumption) ?_)))))
   refine zC rfl (zB (ze ?_))
   refine⟨.inr rfl,_,.cons _ _ _ _ (.tmp 6) .nil,?_⟩
   exact .refl _
 ·have e1:decide (lo≤a)=false:=decide_eq_false h1
  rw[e1,Bool.false_and,Bool.false_and]
  refine kQ (yH rfl rfl (zC rfl (zB ?_)))
  refine zM [(1,.int .i64 lo),(2,.int .i64 up),(3,U.box 0 0)] ([SB.box [.int .i64 a,.int .i64 b]]) (.c2 rfl rfl (.cons rfl (.nil rfl))) rfl fun fr=>?_
  refine kQ (zA rfl (zG rfl rfl yJ (zF rfl rfl rfl sh3 rfl (o_leq rfl rfl rfl (zA rfl (o_gS rfl rfl rfl rfl (by assumption) (o_gS rfl rfl rfl rfl (by assumption) (o_gS rfl rfl rfl rfl (by assumption) ?_))))))))
  refine o_gS rfl rfl rfl rfl (by assumption) ?_
  refine zc [(2,.int .i64 up),(3,U.box 0 0),(11,U.bool (decide (lo≤a))),(13,U.tup []),(15,U.tup [])] [] ([SB.box [.int .i64 a,.int .i64 b]]) (.c4 rfl rfl rfl rfl (.cons rfl (.nil rfl))) rfl rfl fun fr=>?_
  refine o_gS rfl rfl rfl rfl (by assumption) (zQ rfl rfl (by assumption) ?_)
  refine zA rfl (o_gS rfl rfl rfl rfl rfl (o_gS rfl rfl rfl rfl rfl (o_gS rfl rfl rfl rfl rfl (o_gS rfl rfl rfl rfl rfl (zQ rfl rfl rfl ?_)))))
  refine zC rfl (zB (ze ?_))
  refine⟨.inr rfl,_,.cons _ _ _ _ (.tmp 6) .nil,?_⟩
  exact .refl _
theorem ret45(hi:Off is)(a b lo up:Int):RetP Try.prog is orc 45 [z9 a b,.int .i64 lo,.int .i64 up] (.bool (wl a b lo up)):=by
 refine yQ body45 pure45 (hi 45 (by decide)) rfl rfl (dat_l3 (yf a b 6) (.int _ _ _) (.int _ _ _)) (.inl (.bool _ _)) ?_
 unfold wl
 by_cases h1:lo≤a
 ·have e1:decide (lo≤a)=true:=decide_eq_true h1
  rw[e1,Bool.true_and]
  by_cases h2:a≤b
  ·have e2:decide (a≤b)=true:=decide_eq_true h2
   rw[e2,Bool.true_and]
   refine kQ (yH rfl rfl (zC rfl (zB ?_)))
   refine zM [(1,.int .i64 lo),(2,.int .i64 up),(3,U.box 0 0)] ([SB.box [.int .i64 a,.int .i64 b]]) (.c2 rfl rfl (.cons rfl (.nil rfl))) rfl fun fr=>?_
   refine kQ (zA rfl (zG rfl rfl yJ (zF rfl rfl rfl sh3 rfl (o_leq rfl rfl rfl (zA rfl (o_gD rfl rfl rfl rfl (by assumption) (zG rfl rfl yJ (o_gD rfl rfl rfl rfl (by assumption) ?_))))))))
   refine zF rfl rfl rfl sh3 rfl (o_gD rfl rfl rfl rfl (by assumption) (zG rfl rfl yh (o_gD rfl rfl rfl rfl (by assumption) (zF rfl rfl rfl sh3 rfl ?_))))
   refine zc [(2,.int .i64 up),(3,U.box 0 0),(11,U.bool (decide (lo≤a))),(13,.int .i64 a),(15,.int .i64 b)] [] ([SB.box [.int .i64 a,.int .i64 b]]) (.c4 rfl rfl rfl rfl (.cons rfl (.nil rfl))) rfl rfl fun fr=>?_
   refine o_gD rfl rfl rfl rfl (by assumption) ?_
   refine zc [(2,.int .i64 up),(3,U.box 0 0),(11,U.bool (decide (lo≤a))),(13,.int .i64 a),(15,.int .i64 b)] [] ([SB.box [.int .i64 a,.int .i64 b]]) (.c4 rfl rfl rfl rfl (.cons rfl (.nil rfl))) rfl rfl fun fr=>?_
   refine o_leq rfl rfl rfl (zT rfl rfl (by assumption) ?_)
   refine zA rfl (o_gD rfl rfl rfl rfl (by assumption) (zG rfl rfl yh (o_gD rfl rfl rfl rfl (by assumption) (zF rfl rfl rfl sh3 rfl (o_gD rfl rfl rfl rfl (by assumption) (zA rfl (o_gD rfl rfl rfl rfl (by assumption) (o_leq rfl rfl rfl ?_))))))))
   refine zT rfl rfl (by assumption) ?_
   refine zC rfl (zB (ze ?_))
   refine⟨.inr rfl,_,.cons _ _ _ _ (.tmp 6) .nil,?_⟩
   exact .refl _
  ·have e2:decide (a≤b)=false:=decide_eq_false h2
   rw[e2,Bool.false_and]
   refine kQ (yH rfl rfl (zC rfl (zB ?_)))
   refine zM [(1,.int .i64 lo),(2,.int .i64 up),(3,U.box 0 0)] ([SB.box [.int .i64 a,.int .i64 b]]) (.c2 rfl rfl (.cons rfl (.nil rfl))) rfl fun fr=>?_
   refine kQ (zA rfl (zG rfl rfl yJ (zF rfl rfl rfl sh3 rfl (o_leq rfl rfl rfl (zA rfl (o_gD rfl rfl rfl rfl (by assumption) (zG rfl rfl yJ (o_gD rfl rfl rfl rfl (by assumption) ?_))))))))
   refine zF rfl rfl rfl sh3 rfl (o_gD rfl rfl rfl rfl (by assumption) (zG rfl rfl yh (o_gD rfl rfl rfl rfl (by assumption) (zF rfl rfl rfl sh3 rfl ?_))))
   refine zc [(2,.int .i64 up),(3,U.box 0 0),(11,U.bool (decide (lo≤a))),(13,.int .i64 a),(15,.int .i64 b)] [] ([SB.box [.int .i64 a,.int .i64 b]]) (.c4 rfl rfl rfl rfl (.cons rfl (.nil rfl))) rfl rfl fun fr=>?_
   refine o_gD rfl rfl rfl rfl (by assumption) ?_
   refine zc [(2,.int .i64 up),(3,U.box 0 0),(11,U.bool (decide (lo≤a))),(13,.int .i64 a),(15,.int .i64 b)] [] ([SB.box [.int .i64 a,.int .i64 b]]) (.c4 rfl rfl rfl rfl (.cons rfl (.nil rfl))) rfl rfl fun fr=>?_
   refine o_leq rfl rfl rfl (zT rfl rfl (by assumption) ?_)
   refine zA rfl (o_gS rfl rfl rfl rfl (by assumption) (o_gS rfl rfl rfl rfl (by assumption) (o_gS rfl rfl rfl rfl (by assumption) (o_gS rfl rfl rfl rfl (by assumption) (zQ rfl rfl (by assumption) ?_)))))
   refine zC rfl (zB (ze ?_))
   refine⟨.inr rfl,_,.cons _ _ _ _ (.tmp 6) .nil,?_⟩
   exact .refl _
 ·have e1:decide (lo≤a)=false:=decide_eq_false h1
  rw[e1,Bool.false_and,Bool.false_and]
  refine kQ (yH rfl rfl (zC rfl (zB ?_)))
  refine zM [(1,.int .i64 lo),(2,.int .i64 up),(3,U.box 0 0)] ([SB.box [.int .i64 a,.int .i64 b]]) (.c2 rfl rfl (.cons rfl (.nil rfl))) rfl fun fr=>?_
  refine kQ (zA rfl (zG rfl rfl yJ (zF rfl rfl rfl sh3 rfl (o_leq rfl rfl rfl (zA rfl (o_gS rfl rfl rfl rfl (by assumption) (o_gS rfl rfl rfl rfl (by assumption) (o_gS rfl rfl rfl rfl (by assumption) ?_))))))))
  refine o_gS rfl rfl rfl rfl (by assumption) ?_
  refine zc [(2,.int .i64 up),(3,U.box 0 0),(11,U.bool (decide (lo≤a))),(13,U.tup []),(15,U.tup [])] [] ([SB.box [.int .i64 a,.int .i64 b]]) (.c4 rfl rfl rfl rfl (.cons rfl (.nil rfl))) rfl rfl fun fr=>?_
  refine o_gS rfl rfl rfl rfl (by assumption) (zQ rfl rfl (by assumption) ?_)
  refine zA rfl (o_gS rfl rfl rfl rfl rfl (o_gS rfl rfl rfl rfl rfl (o_gS rfl rfl rfl rfl rfl (o_gS rfl rfl rfl rfl rfl (zQ rfl rfl rfl ?_)))))
  refine zC rfl (zB (ze ?_))
  refine⟨.inr rfl,_,.cons _ _ _ _ (.tmp 6) .nil,?_⟩
  exact .refl _
theorem ret40(hi:Off is)(a b c d:Int):RetP Try.prog is orc 40 [z9 a b,z9 c d] (.bool (decide (c≤a)&&decide (b≤d))):=by
 refine yQ body40 pure40 (hi 40 (by decide)) rfl rfl (z4 (yf a b 6) (yf c d 6)) (.inl (.bool _ _)) ?_
 by_cases h1:c≤a
 ·have e1:decide (c≤a)=true:=decide_eq_true h1
  rw[e1,Bool.true_and]
  refine kQ (yH rfl rfl (yH rfl rfl (zC rfl (zB ?_))))
  refine zM [(2,.box 0 0),(3,.box 1 0)] ([SB.box [.int .i64 a,.int .i64 b],SB.box [.int .i64 c,.int .i64 d]]) (.c2 rfl rfl (.nil rfl)) rfl fun fr=>?_
  refine kQ (zG rfl rfl yJ (zF rfl rfl rfl sh3 rfl (zG rfl rfl yJ (zF rfl rfl rfl sh3 rfl (o_leq rfl rfl rfl (zA rfl (o_gD rfl rfl rfl rfl (by assumption) (zG rfl rfl yh ?_))))))))
  refine o_gD rfl rfl rfl rfl (by assumption) (zF rfl rfl rfl sh3 rfl (o_gD rfl rfl rfl rfl (by assumption) (zG rfl rfl yh ?_)))
  refine zc [(10,.bool (decide (c≤a))),(12,.int .i64 b),(13,.box 1 1)] [] ([SB.box [.int .i64 a,.int .i64 b],SB.box [.int .i64 c,.int .i64 d]]) (.c2 rfl rfl (.cons rfl (.nil rfl))) rfl rfl fun fr=>?_
  refine o_gD rfl rfl rfl rfl (by assumption) ?_
  refine zc [(10,.bool (decide (c≤a))),(12,.int .i64 b),(13,.box 1 1)] [] ([SB.box [.int .i64 a,.int .i64 b],SB.box [.int .i64 c,.int .i64 d]]) (.c2 rfl rfl (.cons rfl (.nil rfl))) rfl rfl fun fr=>?_
  refine zF rfl rfl rfl sh3 rfl (o_gD rfl rfl rfl rfl (by assumption) (o_leq rfl rfl rfl (zT rfl rfl (by assumption) ?_)))
  refine zC rfl (zB (ze ?_))
  refine⟨.inr rfl,_,.cons _ _ _ _ (.tmp 4) .nil,?_⟩
  exact .refl _
 ·have e1:decide (c≤a)=false:=decide_eq_false h1
  rw[e1,Bool.false_and]
  refine kQ (yH rfl rfl (yH rfl rfl (zC rfl (zB ?_))))
  refine zM [(2,.box 0 0),(3,.box 1 0)] ([SB.box [.int .i64 a,.int .i64 b],SB.box [.int .i64 c,.int .i64 d]]) (.c2 rfl rfl (.nil rfl)) rfl fun fr=>?_
  refine kQ (zG rfl rfl yJ (zF rfl rfl rfl sh3 rfl (zG rfl rfl yJ (zF rfl rfl rfl sh3 rfl (o_leq rfl rfl rfl (zA rfl (o_gS rfl rfl rfl rfl (by assumption) (o_gS rfl rfl rfl rfl (by assumption) ?_))))))))
  refine o_gS rfl rfl rfl rfl (by assumption) ?_
  refine zc [(10,.bool (decide (c≤a))),(12,.tup []),(13,.tup [])] [] ([SB.box [.int .i64 a,.int .i64 b],SB.box [.int .i64 c,.int .i64 d]]) (.c2 rfl rfl (.cons rfl (.nil rfl))) rfl rfl fun fr=>?_
  refine o_gS rfl rfl rfl rfl (by assumption) (o_gS rfl rfl rfl rfl (by assumption) (zQ rfl rfl (by assumption) ?_))
  refine zC rfl (zB (ze ?_))
  refine⟨.inr rfl,_,.cons _ _ _ _ (.tmp 4) .nil,?_⟩
  exact .refl _
theorem ret92(hi:Off is)(n:Int):RetP Try.prog is orc 92 [.int .i64 n] (z9 n n):=by
 refine yQ body92 pure92 (hi 92 (by decide)) rfl rfl (y6 (.int _ _ _)) (.inl (yf _ _ _)) ?_
 refine kQ (zV rfl ze26 ?_)
 refine zB ?_
 refine zM [(0,.int .i64 n),(2,U.box 0 0)] ([SB.box [.int .i64 0,.int .i64 0]]) (.c2 rfl rfl (.nil rfl)) rfl fun fr=>?_
 refine kQ (zA rfl (zA rfl (yP rfl ze26 pl26 rfl rfl ?_)))
 refine zN rfl rfl sh26 rfl rfl rfl rfl rfl ?_
 refine zB (ze ?_)
 refine⟨.inr rfl,_,.cons _ _ _ _ (.cellN 2 26 _ _ _ _ rfl rfl sh26 rfl) .nil,?_⟩
 exact .refl _
theorem ret41(hi:Off is)(a b:Int):RetP Try.prog is orc 41 [.int .i64 a,.int .i64 b] (z9 a b):=by
 refine yQ body41 pure41 (hi 41 (by decide)) rfl rfl (z4 (.int _ _ _) (.int _ _ _)) (.inl (yf _ _ _)) ?_
 refine kQ (zV rfl ze26 ?_)
 refine zB ?_
 refine zM [(0,.int .i64 a),(1,.int .i64 b),(4,U.box 0 0)] ([SB.box [.int .i64 0,.int .i64 0]]) (.c2 rfl rfl (.cons rfl (.nil rfl))) rfl fun fr=>?_
 refine kQ (zA rfl (zA rfl (yP rfl ze26 pl26 rfl rfl ?_)))
 refine zN rfl rfl sh26 rfl rfl rfl rfl rfl ?_
 refine zB (ze ?_)
 refine⟨.inr rfl,_,.cons _ _ _ _ (.cellN 4 26 _ _ _ _ rfl rfl sh26 rfl) .nil,?_⟩
 exact .refl _
theorem ret107(hi:Off is)(a b:Int):RetP Try.prog is orc 107 [z9 a b] (.int .i64 a):=by
 refine yQ body107 pure107 (hi 107 (by decide)) rfl rfl (y6 (yf a b 6)) (.inl (.int _ _ _)) ?_
 refine kQ (yH rfl rfl (zC rfl (zB ?_)))
 refine zM [(1,.box 0 0)] ([SB.box [.int .i64 a,.int .i64 b]]) (.cons rfl (.nil rfl)) rfl fun fr=>?_
 refine kQ (zG rfl rfl yJ (zF rfl rfl rfl sh3 rfl (zC rfl (zB (ze ?_)))))
 refine⟨.inr rfl,_,.cons _ _ _ _ (.tmp 2) .nil,?_⟩
 exact .refl _
theorem ret108(hi:Off is)(a b:Int):RetP Try.prog is orc 108 [z9 a b] (.int .i64 b):=by
 refine yQ body108 pure108 (hi 108 (by decide)) rfl rfl (y6 (yf a b 6)) (.inl (.int _ _ _)) ?_
 refine kQ (yH rfl rfl (zC rfl (zB ?_)))
 refine zM [(1,.box 0 0)] ([SB.box [.int .i64 a,.int .i64 b]]) (.cons rfl (.nil rfl)) rfl fun fr=>?_
 refine kQ (zG rfl rfl yh (zF rfl rfl rfl sh3 rfl (zC rfl (zB (ze ?_)))))
 refine⟨.inr rfl,_,.cons _ _ _ _ (.tmp 2) .nil,?_⟩
 exact .refl _
theorem ret116(hi:Off is)(n b:Int)(hb:0<b∧b≤10000)(hn:0≤n∧n≤100000000):RetP Try.prog is orc 116 [.int .i64 n,.int .i64 b] (.int .i64 (upI n b)):=by
 refine yQ body116 pure116 (hi 116 (by decide)) rfl rfl (z4 (.int _ _ _) (.int _ _ _)) (.inl (.int _ _ _)) ?_
 have hq:I64 ((n+b - 1).tdiv b):=by
  rw[Int.tdiv_eq_ediv_of_nonneg (by omega)]
  have h1:=Int.ediv_nonneg (show 0≤n+b - 1 by omega) (show 0≤b by omega)
  have h2:=Int.ediv_le_self b (show 0≤n+b - 1 by omega)
  unfold I64;omega
 refine kQ (zC rfl (zB (kQ (zA rfl (zA rfl ?_)))))
 refine o_add rfl rfl rfl (by unfold I64;omega) ?_
 refine o_sub rfl rfl rfl (by unfold I64;omega) (zA rfl (o_quo rfl rfl rfl (by omega) hq ?_))
 refine zC rfl (zB (ze ?_))
 refine⟨.inr rfl,_,.cons _ _ _ _ (.tmp 4) .nil,?_⟩
 exact .refl _
end
section
variable {is:FuncId→Bool}{orc:Known}
theorem cl3:Program.cellsOf Try.prog 3=1:=by kernel_rfl
theorem ty29:tyOf Try.prog 29=.slice 3:=by kernel_rfl
noncomputable def b93:Code:=(Try.f93.body).getD .skip
theorem body93:bodyOf Try.prog 93=some (18,b93,[.tmp 4]):=by kernel_rfl
theorem pure93:pureFn Try.prog 93=true:=by kernel_rfl
noncomputable def b94:Code:=(Try.f94.body).getD .skip
theorem body94:bodyOf Try.prog 94=some (18,b94,[.tmp 4]):=by kernel_rfl
theorem pure94:pureFn Try.prog 94=true:=by kernel_rfl
theorem ze3:yR Try.prog 3=some ((.cons (.int .i64 0) .nil):V):=by kernel_rfl
noncomputable def b106:Code:=(Try.f106.body).getD .skip
theorem body106:bodyOf Try.prog 106=some (18,b106,[.cell 4 26]):=by kernel_rfl
theorem pure106:pureFn Try.prog 106=true:=by kernel_rfl
theorem wI:zr Try.prog 72 3=some (3,26):=by kernel_rfl
noncomputable def b110:Code:=(Try.f110.body).getD .skip
theorem body110:bodyOf Try.prog 110=some (18,b110,[.cell 4 26]):=by kernel_rfl
theorem pure110:pureFn Try.prog 110=true:=by kernel_rfl
noncomputable def b111:Code:=(Try.f111.body).getD .skip
theorem body111:bodyOf Try.prog 111=some (18,b111,[.cell 4 26]):=by kernel_rfl
theorem pure111:pureFn Try.prog 111=true:=by kernel_rfl
noncomputable def b112:Code:=(Try.f112.body).getD .skip
theorem body112:bodyOf Try.prog 112=some (16,b112,[.cell 4 26]):=by kernel_rfl
theorem pure112:pureFn Try.prog 112=true:=by kernel_rfl
noncomputable def b113:Code:=(Try.f113.body).getD .skip
theorem body113:bodyOf Try.prog 113=some (16,b113,[.cell 4 26]):=by kernel_rfl
theorem pure113:pureFn Try.prog 113=true:=by kernel_rfl
theorem cl127:Program.cellsOf Try.prog 127=2:=by kernel_rfl
theorem pl127:plcOf Try.prog 127=some [(0,1),(1,1)]:=by kernel_rfl
theorem pl138:plcOf Try.prog 138=some [(0,2),(2,2),(4,2),(6,2)]:=by kernel_rfl
theorem wo:shOf Try.prog 127=.many 2:=by kernel_rfl
theorem sh138:shOf Try.prog 138=.many 8:=by kernel_rfl
theorem ty138:tyOf Try.prog 138=.array 4 127:=by kernel_rfl
theorem ze127:yR Try.prog 127=some ((.cons .nilf (.cons (.int .i64 0) .nil)):V):=by kernel_rfl
theorem ze138:yR Try.prog 138=some ((.cons .nilf (.cons (.int .i64 0) (.cons .nilf (.cons (.int .i64 0) (.cons .nilf (.cons (.int .i64 0) (.cons .nilf (.cons (.int .i64 0) .nil)))))))):V):=by kernel_rfl
noncomputable def b100:Code:=(Try.f100.body).getD .skip
theorem body100:bodyOf Try.prog 100=some (12,b100,[.cell 2 127]):=by kernel_rfl
theorem pure100:pureFn Try.prog 100=false:=by kernel_rfl
theorem fld127_0:zr Try.prog 127 0=some (0,125):=by kernel_rfl
theorem fld72_0:zr Try.prog 72 0=some (0,3):=by kernel_rfl
theorem sh125:shOf Try.prog 125=.one:=by kernel_rfl
theorem sh72:shOf Try.prog 72=.many 5:=by kernel_rfl
noncomputable def b81:Code:=(Try.f81.body).getD .skip
theorem body81:bodyOf Try.prog 81=some (12,b81,[.cell 4 26]):=by kernel_rfl
theorem pure81:pureFn Try.prog 81=true:=by kernel_rfl
theorem fld127_1:zr Try.prog 127 1=some (1,3):=by kernel_rfl
theorem w0:zr Try.prog 72 1=some (1,3):=by kernel_rfl
theorem wJ:zr Try.prog 72 2=some (2,3):=by kernel_rfl
theorem pl72:plcOf Try.prog 72=some [(0,1),(1,1),(2,1),(3,2)]:=by kernel_rfl
theorem ze72:yR Try.prog 72=some ((.cons (.int .i64 0) (.cons (.int .i64 0) (.cons (.int .i64 0) (.cons (.int .i64 0) (.cons (.int .i64 0) .nil))))):V):=by kernel_rfl
noncomputable def b115:Code:=(Try.f115.body).getD .skip
theorem body115:bodyOf Try.prog 115=some (14,b115,[.cell 2 72]):=by kernel_rfl
theorem pure115:pureFn Try.prog 115=true:=by kernel_rfl
theorem pl111:plcOf Try.prog 111=some [(0,1),(1,1)]:=by kernel_rfl
theorem sh111:shOf Try.prog 111=.many 2:=by kernel_rfl
theorem ze111:yR Try.prog 111=some ((.cons .nilf (.cons (.int .i64 0) .nil)):V):=by kernel_rfl
noncomputable def b89:Code:=(Try.f89.body).getD .skip
theorem body89:bodyOf Try.prog 89=some (2,b89,[.cell 0 111]):=by kernel_rfl
theorem pure89:pureFn Try.prog 89=false:=by kernel_rfl
noncomputable def b90:Code:=(Try.f90.body).getD .skip
theorem body90:bodyOf Try.prog 90=some (2,b90,[.cell 0 111]):=by kernel_rfl
theorem pure90:pureFn Try.prog 90=false:=by kernel_rfl
theorem uR{f:Int→Int→Int}{l:List Int}{n:Nat}{x a:Int}(h:l[n]? =some x):(l.take (n+1)).foldl f a=f ((l.take n).foldl f a) x:=by
 rw[List.take_add_one,List.foldl_append,h];rfl
set_option maxHeartbeats 4000000 in
theorem ret93(hi:Off is)(a:Int)(l:List Int)(hll:l.length≤4096):RetP Try.prog is orc 93 [.int .i64 a,.lst .ro 1 (yc l)] (.int .i64 (l.foldl min a)):=by
 refine yQ body93 pure93 (hi 93 (by decide)) rfl rfl (z4 (.int _ _ _) (dat_ints 6 .ro (fun h=>by cases h) 1 l)) (.inl (.int _ _ _)) ?_
 refine kQ (zC rfl (zB (k_seq (kQ (zA rfl (yZ rfl ty29 rfl (List.length_map _) ?_))))))
 refine zA rfl (zB (zP ?_))
 refine k_loop (fun k st=>∃n:Nat,k+n=l.length∧Holds st [(0,.int .i64 ((l.take n).foldl min a)),(7,.lst .ro 1 (yc l)),(8,.int .i64 l.length),(9,.int .i64 n)]) (fun k st hI=>?_) l.length _ ?_
 ·obtain⟨n,hk,hs⟩:=hI
  rw[hs.eq]
  by_cases hn:n<l.length
  ·obtain⟨x,hx⟩:∃x,l[n]? =some x:=⟨l[n],List.getElem?_eq_getElem hn⟩
   refine kQ (zt rfl rfl rfl (zB (k_seq (k_cT rfl (decide_eq_true (by omega)) (zW (k_seq (zP (kQ ?_))))))))
   refine yr (u:=.int .i64 (x)) rfl ty29 rfl rfl (Int.natCast_nonneg _) (by simp[hx]) cl3 ?_
   refine yk rfl rfl sh3 rfl ?_
   refine zC rfl (zB (k_region (zA rfl (zA rfl (o_min rfl rfl rfl ?_)))))
   refine zC rfl (zB (k_region ?_))
   refine o_add rfl rfl rfl (by unfold I64;omega) (zA rfl (zB ?_))
   exact⟨k - 1,by omega,n+1,by omega,.cons (congrArg (U.int .i64) (uR hx).symm) (.c2 rfl rfl (.cons rfl (.nil rfl)))⟩
  ·have hn:n=l.length:=by omega
   subst hn
   rw[List.take_length]
   refine kQ (zt rfl rfl rfl (zB (k_seq (k_cF rfl (decide_eq_false (by omega)) (yp (kQ (zA rfl (zC rfl ?_))))))))
   refine zB (ze ?_)
   refine⟨.inr rfl,_,.cons _ _ _ _ (.tmp 4) .nil,?_⟩
   exact .refl _
 ·exact⟨0,rfl,.c4 rfl rfl rfl rfl (.nil rfl)⟩
set_option maxHeartbeats 4000000 in
theorem ret94(hi:Off is)(a:Int)(l:List Int)(hll:l.length≤4096):RetP Try.prog is orc 94 [.int .i64 a,.lst .ro 1 (yc l)] (.int .i64 (l.foldl max a)):=by
 refine yQ body94 pure94 (hi 94 (by decide)) rfl rfl (z4 (.int _ _ _) (dat_ints 6 .ro (fun h=>by cases h) 1 l)) (.inl (.int _ _ _)) ?_
 refine kQ (zC rfl (zB (k_seq (kQ (zA rfl (yZ rfl ty29 rfl (List.length_map _) ?_))))))
 refine zA rfl (zB (zP ?_))
 refine k_loop (fun k st=>∃n:Nat,k+n=l.length∧Holds st [(0,.int .i64 ((l.take n).foldl max a)),(7,.lst .ro 1 (yc l)),(8,.int .i64 l.length),(9,.int .i64 n)]) (fun k st hI=>?_) l.length _ ?_
 ·obtain⟨n,hk,hs⟩:=hI
  rw[hs.eq]
  by_cases hn:n<l.length
  ·obtain⟨x,hx⟩:∃x,l[n]? =some x:=⟨l[n],List.getElem?_eq_getElem hn⟩
   refine kQ (zt rfl rfl rfl (zB (k_seq (k_cT rfl (decide_eq_true (by omega)) (zW (k_seq (zP (kQ ?_))))))))
   refine yr (u:=.int .i64 (x)) rfl ty29 rfl rfl (Int.natCast_nonneg _) (by simp[hx]) cl3 ?_
   refine yk rfl rfl sh3 rfl ?_
   refine zC rfl (zB (k_region (zA rfl (zA rfl (o_max rfl rfl rfl ?_)))))
   refine zC rfl (zB (k_region ?_))
   refine o_add rfl rfl rfl (by unfold I64;omega) (zA rfl (zB ?_))
   exact⟨k - 1,by omega,n+1,by omega,.cons (congrArg (U.int .i64) (uR hx).symm) (.c2 rfl rfl (.cons rfl (.nil rfl)))⟩
  ·have hn:n=l.length:=by omega
   subst hn
   rw[List.take_length]
   refine kQ (zt rfl rfl rfl (zB (k_seq (k_cF rfl (decide_eq_false (by omega)) (yp (kQ (zA rfl (zC rfl ?_))))))))
   refine zB (ze ?_)
   refine⟨.inr rfl,_,.cons _ _ _ _ (.tmp 4) .nil,?_⟩
   exact .refl _
 ·exact⟨0,rfl,.c4 rfl rfl rfl rfl (.nil rfl)⟩
theorem ret106(hi:Off is)(a b c d:Int):RetP Try.prog is orc 106 [z9 a b,z9 c d] (z9 (max a c) (min b d)):=by
 refine yQ body106 pure106 (hi 106 (by decide)) rfl rfl (z4 (yf a b 6) (yf c d 6)) (.inl (yf _ _ _)) ?_
 have q94:=ret94 (orc:=orc) hi a [c] (by simp)
 have q93:=ret93 (orc:=orc) hi b [d] (by simp)
 refine kQ (yH rfl rfl (yH rfl rfl (zV rfl ze26 ?_)))
 refine zB ?_
 refine zM [(2,.box 0 0),(3,.box 1 0),(4,.box 2 0)] ([SB.box [.int .i64 a,.int .i64 b],SB.box [.int .i64 c,.int .i64 d],SB.box [.int .i64 0,.int .i64 0]]) (.c2 rfl rfl (.cons rfl (.nil rfl))) rfl fun fr=>?_
 refine k_seq (k_draw [.plain,.read true,.plain,.read true,.lay,.read false,.plain,.read true,.plain,.read true,.lay,.plain,.plain,.plain] (by kernel_rfl) (by kernel_rfl) (by kernel_rfl) ?_)
 refine zE (zG rfl rfl yJ (zB rfl)) ?_
 refine zi rfl (zF rfl rfl rfl sh3 rfl (zB rfl)) (zE (zG rfl rfl yJ (zB rfl)) ?_)
 refine zi rfl (zF rfl rfl rfl sh3 rfl (zB rfl)) (d_lay (es:=[.int .i64 c]) rfl ty29 ze3 cl3 rfl rfl rfl rfl rfl rfl rfl rfl ?_)
 refine d_callR rfl q94 (.int _ _) (.lcons _ _ _ _ (.refl _) (.lcons _ _ _ _ (.ro _ _ _) (.lrefl _))) ?_
 refine zE (zG rfl rfl yh (zB rfl)) ?_
 refine zi rfl (zF rfl rfl rfl sh3 rfl (zB rfl)) (zE (zG rfl rfl yh (zB rfl)) ?_)
 refine d_genA [(4,.box 2 0),(10,.int .i64 (List.foldl Max.max a [c])),(12,.int .i64 b),(13,.box 1 1)] [] ([SB.box [.int .i64 a,.int .i64 b],SB.box [.int .i64 c,.int .i64 d],SB.box [.int .i64 0,.int .i64 0]]) (.c4 rfl rfl rfl rfl (.nil rfl)) rfl rfl fun fr=>?_
 refine zi rfl (zF rfl rfl rfl sh3 rfl (zB rfl)) (d_lay (es:=[.int .i64 d]) rfl ty29 ze3 cl3 rfl rfl rfl rfl rfl rfl rfl rfl ?_)
 refine zE (zX rfl (q93) (.lcons _ _ _ _ (.refl _) (.lcons _ _ _ _ (.ro _ _ _) (.lrefl _))) (zB rfl)) ?_
 refine zE (yP rfl ze26 pl26 rfl rfl (zB rfl)) ?_
 refine zE (zN rfl rfl sh26 rfl rfl rfl rfl rfl (zB rfl)) ?_
 refine d_nil ?_
 refine ze ?_
 refine⟨.inr rfl,_,.cons _ _ _ _ (.cellN 4 26 _ _ _ _ rfl rfl sh26 rfl) .nil,?_⟩
 exact .refl _
def JV(j:Jn):Prop:=((j.kd=0∨j.kd=1)∧200≤j.lo∧j.lo≤j.hi∧j.hi≤5000)∨((j.kd=2∨j.kd=3)∧0≤j.lo∧j.lo≤j.hi∧j.hi≤60)
theorem JV.bk{j:Jn}(h:JV j):JV j.bk:=by
 unfold JV at*
 rcases h with ⟨h1|h1,h2⟩|⟨h1|h1,h2⟩<;>simp[Jn.bk,bkI,h1,h2]
theorem mul_b{a b m n:Int}(h1:0≤a)(h2:a≤m)(h3:0≤b)(h4:b≤n):0≤a*b∧a*b≤m*n:=⟨Int.mul_nonneg h1 h3,Int.mul_le_mul h2 h4 h3 (by omega)⟩
theorem tdiv_b{n b m:Int}(hn:0≤n∧n≤m)(hm:m≤1000000000)(hb:0<b):I64 (n.tdiv b):=by
 rw[Int.tdiv_eq_ediv_of_nonneg hn.1]
 have h1:=Int.ediv_nonneg hn.1 (show 0≤b by omega)
 have h2:=Int.ediv_le_self b hn.1
 unfold I64;omega
theorem ret110(hi:Off is){j:Jn}(hj:JV j)(h0:j.kd=0){x:Int}(hx:1≤x∧x≤4000):RetP Try.prog is orc 110 [j.u,.int .i64 x] (z9 (j.alo x) (j.ahi x)):=by
 have hj':200≤j.lo∧j.lo≤j.hi∧j.hi≤5000:=by unfold JV at hj;omega
 have e1:j.alo x=upI (j.lo*x) 1000:=by unfold Jn.alo;rw[if_pos h0]
 have e2:j.ahi x=(j.hi*x).tdiv 1000:=by unfold Jn.ahi;rw[if_pos h0]
 have m1:=mul_b (show 0≤j.lo by omega) (show j.lo≤5000 by omega) (show 0≤x by omega) hx.2
 have m2:=mul_b (show 0≤j.hi by omega) hj'.2.2 (show 0≤x by omega) hx.2
 have d1:=tdiv_b m2 (by decide) (show(0:Int)<1000 by decide)
 rw[e1,e2]
 refine yQ body110 pure110 (hi 110 (by decide)) rfl rfl (z4 (uA j 6) (.int _ _ _)) (.inl (yf _ _ _)) ?_
 refine kQ (yH rfl rfl (zV rfl ze26 ?_))
 refine zB ?_
 refine zM [(1,.int .i64 x),(2,U.box 0 0),(4,U.box 1 0)] ([SB.box [.int .i64 j.kd,.int .i64 j.one,.int .i64 j.two,.int .i64 j.lo,.int .i64 j.hi],SB.box [.int .i64 0,.int .i64 0]]) (.c2 rfl rfl (.cons rfl (.nil rfl))) rfl fun fr=>?_
 refine k_seq (k_draw [.plain,.plain,.read true,.plain,.plain,.read false,.plain,.plain,.read true,.plain,.plain,.plain,.plain,.plain] (by kernel_rfl) (by kernel_rfl) (by kernel_rfl) ?_)
 refine zE (zG rfl rfl wI (zB rfl)) ?_
 refine zE (zG rfl rfl yJ (zB rfl)) ?_
 refine zi rfl (zF rfl rfl rfl sh3 rfl (zB rfl)) (zE (zA rfl (zB rfl)) ?_)
 refine zE (o_mul rfl rfl rfl (by unfold I64;omega) (zB rfl)) ?_
 refine d_callR rfl (ret116 hi (j.lo*x) 1000 (by decide) (by omega)) (.int _ _) (.lrefl _) ?_
 refine zE (zG rfl rfl wI (zB rfl)) ?_
 refine zE (zG rfl rfl yh (zB rfl)) ?_
 refine zi rfl (zF rfl rfl rfl sh3 rfl (zB rfl)) ?_
 refine d_genA [(1,.int .i64 x),(4,U.box 1 0),(10,.int .i64 (upI (Jn.lo j*x) (1000:Int))),(13,.int .i64 j.hi)] [] ([SB.box [.int .i64 j.kd,.int .i64 j.one,.int .i64 j.two,.int .i64 j.lo,.int .i64 j.hi],SB.box [.int .i64 0,.int .i64 0]]) (.c4 rfl rfl rfl rfl (.nil rfl)) rfl rfl fun fr=>?_
 refine zE (zA rfl (zB rfl)) ?_
 refine zE (o_mul rfl rfl rfl (by unfold I64;omega) (zB rfl)) ?_
 refine zE (o_quo rfl rfl rfl (by omega) d1 (zB rfl)) ?_
 refine zE (yP rfl ze26 pl26 rfl rfl (zB rfl)) ?_
 refine zE (zN rfl rfl sh26 rfl rfl rfl rfl rfl (zB rfl)) ?_
 refine d_nil ?_
 refine ze ?_
 refine⟨.inr rfl,_,.cons _ _ _ _ (.cellN 4 26 _ _ _ _ rfl rfl sh26 rfl) .nil,?_⟩
 exact .refl _
theorem ret111(hi:Off is){j:Jn}(hj:JV j)(h0:j.kd=1){x:Int}(hx:1≤x∧x≤4000):RetP Try.prog is orc 111 [j.u,.int .i64 x] (z9 (j.alo x) (j.ahi x)):=by
 have hj':200≤j.lo∧j.lo≤j.hi∧j.hi≤5000:=by unfold JV at hj;omega
 have e1:j.alo x=upI (1000*x) j.hi:=by unfold Jn.alo;rw[if_neg (by omega),if_pos h0]
 have e2:j.ahi x=(1000*x).tdiv j.lo:=by unfold Jn.ahi;rw[if_neg (by omega),if_pos h0]
 have d1:=tdiv_b (n:=1000*x) (m:=4000000) (by omega) (by decide) (show(0:Int)<j.lo by omega)
 rw[e1,e2]
 refine yQ body111 pure111 (hi 111 (by decide)) rfl rfl (z4 (uA j 6) (.int _ _ _)) (.inl (yf _ _ _)) ?_
 refine kQ (yH rfl rfl (zV rfl ze26 ?_))
 refine zB ?_
 refine zM [(1,.int .i64 x),(2,U.box 0 0),(4,U.box 1 0)] ([SB.box [.int .i64 j.kd,.int .i64 j.one,.int .i64 j.two,.int .i64 j.lo,.int .i64 j.hi],SB.box [.int .i64 0,.int .i64 0]]) (.c2 rfl rfl (.cons rfl (.nil rfl))) rfl fun fr=>?_
 refine k_seq (k_draw [.plain,.plain,.plain,.plain,.read true,.read false,.plain,.plain,.plain,.plain,.read true,.plain,.plain,.plain] (by kernel_rfl) (by kernel_rfl) (by kernel_rfl) ?_)
 refine zE (zA rfl (zB rfl)) ?_
 refine zE (o_mul rfl rfl rfl (by unfold I64;omega) (zB rfl)) ?_
 refine zE (zG rfl rfl wI (zB rfl)) ?_
 refine zE (zG rfl rfl yh (zB rfl)) ?_
 refine zi rfl (zF rfl rfl rfl sh3 rfl (zB rfl)) (d_callR rfl (ret116 hi (1000*x) j.hi (by omega) (by omega)) (.int _ _) (.lrefl _) ?_)
 refine zE (zA rfl (zB rfl)) ?_
 refine zE (o_mul rfl rfl rfl (by unfold I64;omega) (zB rfl)) ?_
 refine zE (zG rfl rfl wI (zB rfl)) ?_
 refine d_genA [(4,.box 1 0),(10,.int .i64 (upI ((1000:Int)*x) j.hi)),(12,.int .i64 ((1000:Int)*x)),(13,.box 0 3)] [] ([SB.box [.int .i64 j.kd,.int .i64 j.one,.int .i64 j.two,.int .i64 j.lo,.int .i64 j.hi],SB.box [.int .i64 0,.int .i64 0]]) (.c4 rfl rfl rfl rfl (.nil rfl)) rfl rfl fun fr=>?_
 refine zE (zG rfl rfl yJ (zB rfl)) ?_
 refine zi rfl (zF rfl rfl rfl sh3 rfl (zB rfl)) (zE (o_quo rfl rfl rfl (by omega) d1 (zB rfl)) ?_)
 refine zE (yP rfl ze26 pl26 rfl rfl (zB rfl)) ?_
 refine zE (zN rfl rfl sh26 rfl rfl rfl rfl rfl (zB rfl)) ?_
 refine d_nil ?_
 refine ze ?_
 refine⟨.inr rfl,_,.cons _ _ _ _ (.cellN 4 26 _ _ _ _ rfl rfl sh26 rfl) .nil,?_⟩
 exact .refl _
theorem ret112(hi:Off is){j:Jn}(hj:JV j)(h0:j.kd=2){x:Int}(hx:1≤x∧x≤4000):RetP Try.prog is orc 112 [j.u,.int .i64 x] (z9 (j.alo x) (j.ahi x)):=by
 have hj':0≤j.lo∧j.lo≤j.hi∧j.hi≤60:=by unfold JV at hj;omega
 have e1:j.alo x=x+j.lo:=by unfold Jn.alo;rw[if_neg (by omega),if_neg (by omega),if_pos h0]
 have e2:j.ahi x=x+j.hi:=by unfold Jn.ahi;rw[if_neg (by omega),if_neg (by omega),if_pos h0]
 rw[e1,e2]
 refine yQ body112 pure112 (hi 112 (by decide)) rfl rfl (z4 (uA j 6) (.int _ _ _)) (.inl (yf _ _ _)) ?_
 refine kQ (yH rfl rfl (zV rfl ze26 ?_))
 refine zB ?_
 refine zM [(1,.int .i64 x),(2,U.box 0 0),(4,U.box 1 0)] ([SB.box [.int .i64 j.kd,.int .i64 j.one,.int .i64 j.two,.int .i64 j.lo,.int .i64 j.hi],SB.box [.int .i64 0,.int .i64 0]]) (.c2 rfl rfl (.cons rfl (.nil rfl))) rfl fun fr=>?_
 refine kQ (zA rfl (zG rfl rfl wI (zG rfl rfl yJ (zF rfl rfl rfl sh3 rfl ?_))))
 refine o_add rfl rfl rfl (by unfold I64;omega) (zA rfl (zG rfl rfl wI (zG rfl rfl yh (zF rfl rfl rfl sh3 rfl ?_))))
 refine o_add rfl rfl rfl (by unfold I64;omega) (yP rfl ze26 pl26 rfl rfl ?_)
 refine zN rfl rfl sh26 rfl rfl rfl rfl rfl ?_
 refine zB (ze ?_)
 refine⟨.inr rfl,_,.cons _ _ _ _ (.cellN 4 26 _ _ _ _ rfl rfl sh26 rfl) .nil,?_⟩
 exact .refl _
theorem ret113(hi:Off is){j:Jn}(hj:JV j)(h0:j.kd=3){x:Int}(hx:1≤x∧x≤4000):RetP Try.prog is orc 113 [j.u,.int .i64 x] (z9 (j.alo x) (j.ahi x)):=by
 have hj':0≤j.lo∧j.lo≤j.hi∧j.hi≤60:=by unfold JV at hj;omega
 have e1:j.alo x=x - j.hi:=by unfold Jn.alo;rw[if_neg (by omega),if_neg (by omega),if_neg (by omega)]
 have e2:j.ahi x=x - j.lo:=by unfold Jn.ahi;rw[if_neg (by omega),if_neg (by omega),if_neg (by omega)]
 rw[e1,e2]
 refine yQ body113 pure113 (hi 113 (by decide)) rfl rfl (z4 (uA j 6) (.int _ _ _)) (.inl (yf _ _ _)) ?_
 refine kQ (yH rfl rfl (zV rfl ze26 ?_))
 refine zB ?_
 refine zM [(1,.int .i64 x),(2,U.box 0 0),(4,U.box 1 0)] ([SB.box [.int .i64 j.kd,.int .i64 j.one,.int .i64 j.two,.int .i64 j.lo,.int .i64 j.hi],SB.box [.int .i64 0,.int .i64 0]]) (.c2 rfl rfl (.cons rfl (.nil rfl))) rfl fun fr=>?_
 refine kQ (zA rfl (zG rfl rfl wI (zG rfl rfl yh (zF rfl rfl rfl sh3 rfl ?_))))
 refine o_sub rfl rfl rfl (by unfold I64;omega) (zA rfl (zG rfl rfl wI (zG rfl rfl yJ (zF rfl rfl rfl sh3 rfl ?_))))
 refine o_sub rfl rfl rfl (by unfold I64;omega) (yP rfl ze26 pl26 rfl rfl ?_)
 refine zN rfl rfl sh26 rfl rfl rfl rfl rfl ?_
 refine zB (ze ?_)
 refine⟨.inr rfl,_,.cons _ _ _ _ (.cellN 4 26 _ _ _ _ rfl rfl sh26 rfl) .nil,?_⟩
 exact .refl _
theorem nb_fn0(f:Nat):NB (.fn f [] []):=NB.fn (fun u hu=>by cases hu) (fun u hu=>by cases hu)
abbrev uD(k:Int):Nat:=if k=0 then 110 else if k=1 then 111 else if k=2 then 112 else 113
theorem ret100(hi:Off is){k:Int}(hk:0≤k∧k≤3):RetP Try.prog is orc 100 [.int .i64 k] (.agg [.fn (uD k) [] [],.int .i64 (bkI k)]):=by
 refine ret_of_shared body100 pure100 rfl rfl (fun u hu=>by rcases List.mem_singleton.1 hu with rfl;exact⟨NB.int _ _,fun _=>rfl⟩) (NB.agg fun c hc=>by
  simp only[List.mem_cons,List.not_mem_nil,or_false]at hc
  rcases hc with rfl|rfl
  ·exact nb_fn0 _
  ·exact NB.int _ _) ?_
 refine kQ (zV rfl ze127 ?_)
 refine zB ?_
 refine zM [(0,.int .i64 k),(2,U.box 0 0)] ([SB.box [U.nilf,.int .i64 0]]) (.c2 rfl rfl (.nil rfl)) rfl fun fr=>?_
 refine kQ (yP rfl ze127 pl127 rfl rfl ?_)
 refine yP rfl ze127 pl127 rfl rfl ?_
 refine yP rfl ze127 pl127 rfl rfl ?_
 refine yP rfl ze127 pl127 rfl rfl ?_
 refine zc [(0,.int .i64 k),(2,U.box 0 0),(4,U.agg [.fn 110 [] [],.int .i64 1]),(5,U.agg [.fn 111 [] [],.int .i64 0]),(6,U.agg [.fn 112 [] [],.int .i64 3]),(7,U.agg [.fn 113 [] [],.int .i64 2])] [] ([SB.box [U.nilf,.int .i64 0]]) (.c4 rfl rfl rfl rfl (.c2 rfl rfl (.nil rfl))) rfl rfl fun fr=>?_
 refine yP (cs:=[.fn 110 [] [],.int .i64 1,.fn 111 [] [],.int .i64 0,.fn 112 [] [],.int .i64 3,.fn 113 [] [],.int .i64 2]) rfl ze138 pl138 rfl rfl ?_
 refine zc [(0,.int .i64 k),(2,U.box 0 0),(8,.agg [.fn 110 [] [],.int .i64 1,.fn 111 [] [],.int .i64 0,.fn 112 [] [],.int .i64 3,.fn 113 [] [],.int .i64 2])] [] ([SB.box [U.nilf,.int .i64 0]]) (.c2 rfl rfl (.cons rfl (.nil rfl))) rfl rfl fun fr=>?_
 refine zV rfl ze138 ?_
 refine zN rfl rfl sh138 rfl rfl rfl rfl rfl ?_
 refine zB ?_
 refine zM [(0,.int .i64 k),(2,U.box 0 0),(3,U.box 1 0)] ([SB.box [U.nilf,.int .i64 0],SB.box [.fn 110 [] [],.int .i64 1,.fn 111 [] [],.int .i64 0,.fn 112 [] [],.int .i64 3,.fn 113 [] [],.int .i64 2]]) (.c2 rfl rfl (.cons rfl (.nil rfl))) rfl fun fr=>?_
 have e:k=0∨k=1∨k=2∨k=3:=by omega
 rcases e with rfl|rfl|rfl|rfl
 ·refine kQ ?_
  refine zA rfl (yu rfl ty138 rfl rfl (by omega) (by omega) cl127 ?_)
  refine zK rfl rfl rfl wo rfl (zN rfl rfl wo rfl rfl rfl rfl rfl ?_)
  refine zB (ze ?_)
  refine⟨.inr rfl,_,.cons _ _ _ _ (.cellN 2 127 _ _ _ _ rfl rfl wo rfl) .nil,?_⟩
  exact .refl _
 ·refine kQ ?_
  refine zA rfl (yu rfl ty138 rfl rfl (by omega) (by omega) cl127 ?_)
  refine zK rfl rfl rfl wo rfl (zN rfl rfl wo rfl rfl rfl rfl rfl ?_)
  refine zB (ze ?_)
  refine⟨.inr rfl,_,.cons _ _ _ _ (.cellN 2 127 _ _ _ _ rfl rfl wo rfl) .nil,?_⟩
  exact .refl _
 ·refine kQ ?_
  refine zA rfl (yu rfl ty138 rfl rfl (by omega) (by omega) cl127 ?_)
  refine zK rfl rfl rfl wo rfl (zN rfl rfl wo rfl rfl rfl rfl rfl ?_)
  refine zB (ze ?_)
  refine⟨.inr rfl,_,.cons _ _ _ _ (.cellN 2 127 _ _ _ _ rfl rfl wo rfl) .nil,?_⟩
  exact .refl _
 ·refine kQ ?_
  refine zA rfl (yu rfl ty138 rfl rfl (by omega) (by omega) cl127 ?_)
  refine zK rfl rfl rfl wo rfl (zN rfl rfl wo rfl rfl rfl rfl rfl ?_)
  refine zB (ze ?_)
  refine⟨.inr rfl,_,.cons _ _ _ _ (.cellN 2 127 _ _ _ _ rfl rfl wo rfl) .nil,?_⟩
  exact .refl _
abbrev lowU:U:=.agg [.fn 107 [] [],.int .i64 1]
abbrev highU:U:=.agg [.fn 108 [] [],.int .i64 (-1)]
theorem nb_side(f:Nat)(n:Int):NB (.agg [.fn f [] [],.int .i64 n]):=NB.agg fun c hc=>by
  simp only[List.mem_cons,List.not_mem_nil,or_false]at hc
  rcases hc with rfl|rfl
  ·exact nb_fn0 _
  ·exact NB.int _ _
theorem ret89(hi:Off is):RetP Try.prog is orc 89 [] lowU:=by
 refine ret_of_shared body89 pure89 rfl rfl (fun u hu=>by cases hu) (nb_side _ _) ?_
 refine kQ (zV rfl ze111 ?_)
 refine zB ?_
 refine zM [(0,.box 0 0)] ([SB.box [U.nilf,.int .i64 0]]) (.cons rfl (.nil rfl)) rfl fun fr=>?_
 refine kQ (yP rfl ze111 pl111 rfl rfl ?_)
 refine zN rfl rfl sh111 rfl rfl rfl rfl rfl ?_
 refine zB (ze ?_)
 refine⟨.inr rfl,_,.cons _ _ _ _ (.cellN 0 111 _ _ _ _ rfl rfl sh111 rfl) .nil,?_⟩
 exact .refl _
theorem ret90(hi:Off is):RetP Try.prog is orc 90 [] highU:=by
 refine ret_of_shared body90 pure90 rfl rfl (fun u hu=>by cases hu) (nb_side _ _) ?_
 refine kQ (zV rfl ze111 ?_)
 refine zB ?_
 refine zM [(0,.box 0 0)] ([SB.box [U.nilf,.int .i64 0]]) (.cons rfl (.nil rfl)) rfl fun fr=>?_
 refine kQ (yP rfl ze111 pl111 rfl rfl ?_)
 refine zN rfl rfl sh111 rfl rfl rfl rfl rfl ?_
 refine zB (ze ?_)
 refine⟨.inr rfl,_,.cons _ _ _ _ (.cellN 0 111 _ _ _ _ rfl rfl sh111 rfl) .nil,?_⟩
 exact .refl _
end
end Go.Proofs.Ytinhcdijbcamaaa.tuneNarrower
