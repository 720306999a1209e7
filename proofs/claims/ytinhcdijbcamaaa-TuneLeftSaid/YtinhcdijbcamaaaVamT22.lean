import Derived.Test.YtinhcdijbcamaaaVamT21
set_option linter.unusedVariables false
set_option linter.unusedSimpArgs false
set_option linter.constructorNameAsVariable false
namespace Go.Proofs.Ytinhcdijbcamaaa.tuneLeft
open Vam
section
variable {is:FuncId→Bool}{orc:Known}
noncomputable def b66:Code:=(Try.f66.body).getD .skip
theorem body66:bodyOf Try.prog 66=some (19,b66,[.tmp 4]):=by kernel_rfl
theorem pure66:pureFn Try.prog 66=true:=by kernel_rfl
noncomputable def b47:Code:=(Try.f47.body).getD .skip
theorem body47:bodyOf Try.prog 47=some (31,b47,[.tmp 4]):=by kernel_rfl
theorem pure47:pureFn Try.prog 47=true:=by kernel_rfl
theorem by48:Program.bytesOf Try.prog 48=16:=by kernel_rfl
theorem ap24_24:AppT Try.prog 24 24 48 2 16 ((.cons (.int .i64 0) (.cons (.int .i64 0) .nil)):V):=⟨ty24,⟨_,ty24⟩,cl48,by decide,by48,ze48,rfl⟩
noncomputable def b48:Code:=(Try.f48.body).getD .skip
theorem body48:bodyOf Try.prog 48=some (97,b48,[.cell 4 28]):=by kernel_rfl
theorem pure48:pureFn Try.prog 48=true:=by kernel_rfl
variable {t X:Ts}{J:List Jn}{v x y a b c d:Int}{st Y Z:List SB}{l w:List Int}{p:Int→Int}
def whrF(n:Int):List Int→Int→Int
 |[],_=> -1
 |x::l,k=>if x=n then k else whrF n l (k+1)
def whrI(l:List Int)(n:Int):Int:=whrF n l 0
theorem whrF_neg(n:Int):∀(l:List Int) (k:Int),0≤k→(whrF n l k<0↔n ∉ l):=by
 intro l
 induction l with
 |nil=>intro k hk;unfold whrF;simp
 |cons x l ih=>
  intro k hk
  unfold whrF
  by_cases e:x=n
  ·subst e;rw[if_pos rfl];simp;omega
  ·rw[if_neg e,ih (k+1) (by omega)]
   simp only[List.mem_cons,not_or]
   exact⟨fun h=>⟨fun e2=>e e2.symm,h⟩,fun h=>h.2⟩
theorem whr_neg(l:List Int)(n:Int):whrI l n<0↔n ∉ l:=whrF_neg n l 0 (Int.le_refl _)
theorem drop_at{α:Type}{l:List α}{i:Nat}{x:α}(h:l[i]? =some x):l.drop i=x::l.drop (i+1):=by
 obtain⟨h1,h2⟩:=List.getElem?_eq_some_iff.1 h
 rw[List.drop_eq_getElem_cons h1,h2]
set_option maxHeartbeats 4000000 in
theorem ret66(hi:Off is)(l:List Int)(n:Int)(hl:l.length≤4096):RetP Try.prog is orc 66 [.lst .ro 1 (zN l),.int .i64 n] (.int .i64 (whrI l n)):=by
 refine yQ body66 pure66 (hi 66 (by decide)) rfl rfl (wM (wj 6 .ro (fun h=>by cases h) 1 l) (.int _ _ _)) (.inl (.int _ _ _)) ?_
 refine kQ (zC rfl (zA (k_seq (kQ (zC rfl (zA (zM ?_)))))))
 refine yj (fun kk s2=>∃i:Nat,kk+i=l.length∧whrI l n=whrF n (l.drop i) i∧s2.st=[]∧Holds s2 [(0,.lst .ro 1 (zN l)),(1,.int .i64 n),(5,.int .i64 i)]) (fun kk s2 hI=>?_) l.length _ ⟨0,rfl,rfl,rfl,.cons rfl (.cons rfl (.cons rfl (.nil rfl)))⟩
 obtain⟨i,hk,hw,hst2,hs2⟩:=hI
 refine zL _ _ hs2 hst2 fun fr2=>?_
 by_cases hin:i<l.length
 ·obtain⟨x,hx⟩:∃x,l[i]? =some x:=⟨l[i],List.getElem?_eq_getElem hin⟩
  rw[drop_at hx]at hw
  unfold whrF at hw
  by_cases e:x=n
  ·rw[if_pos e]at hw
   rw[hw]
   refine k_seq (kQ (zB rfl (zB rfl (zl rfl ty29 rfl (List.length_map _) ?_))))
   refine zb rfl rfl rfl (zA (k_cT rfl (decide_eq_true (by omega)) (zS (k_seq (zM (kQ (zB rfl (zB rfl ?_))))))))
   refine yL (u:=.int .i64 (x)) rfl ty29 rfl rfl (Int.natCast_nonneg _) (by simp[hx]) cl3 ?_
   refine zo rfl rfl sh3 rfl ?_
   refine zB rfl (zAQ rfl rfl rfl (zA (k_cT rfl (decide_eq_true (by omega)) (kQ (zB rfl (zC rfl (zA (zd ?_))))))))
   refine⟨.inr rfl,_,.cons _ _ _ _ (.tmp 4) .nil,?_⟩
   exact .refl _
  ·rw[if_neg e]at hw
   refine k_seq (kQ (zB rfl (zB rfl (zl rfl ty29 rfl (List.length_map _) ?_))))
   refine zb rfl rfl rfl (zA (k_cT rfl (decide_eq_true (by omega)) (zS (k_seq (zM (kQ (zB rfl (zB rfl ?_))))))))
   refine yL (u:=.int .i64 (x)) rfl ty29 rfl rfl (Int.natCast_nonneg _) (by simp[hx]) cl3 ?_
   refine zo rfl rfl sh3 rfl ?_
   refine zB rfl (zAQ rfl rfl rfl (zA (k_cF rfl (decide_eq_false (by omega)) (zS (k_region (zB rfl ?_))))))
   refine yc rfl rfl rfl (by unfold I64;omega) (zC rfl (zA ?_))
   exact⟨kk - 1,by omega,i+1,by omega,hw,rfl,.cons rfl (.cons rfl (.cons rfl (.nil rfl)))⟩
 ·have hiN:i=l.length:=by omega
  subst hiN
  rw[List.drop_length]at hw
  rw[hw]
  refine k_seq (kQ (zB rfl (zB rfl (zl rfl ty29 rfl (List.length_map _) ?_))))
  refine zb rfl rfl rfl (zA (k_cF rfl (decide_eq_false (by omega)) (yU (kQ (zC rfl (zA (zd ?_)))))))
  refine⟨.inr rfl,_,.cons _ _ _ _ (.tmp 4) .nil,?_⟩
  exact .refl _
def grwF(n:Int):Int→List Int→Bool
 |_,[]=>true
 |k,x::l=>if x≤k∨x ≥ n then false else grwF n x l
theorem grw_inc(n:Int):∀(l:List Int) (a:Int),Inc a l n→grwF n (a - 1) l=true:=by
 intro l
 induction l with
 |nil=>intro a _;rfl
 |cons x l ih=>
  intro a ⟨h1,h2,h3⟩
  unfold grwF
  rw[if_neg (by omega)]
  have:=ih (x+1) h3
  rwa [show x+1 - 1=x by omega]at this
set_option maxHeartbeats 4000000 in
theorem ret47(hi:Off is)(l:List Int)(n:Int)(hl:l.length≤4096):RetP Try.prog is orc 47 [.lst .ro 1 (zN l),.int .i64 n] (.bool (grwF n (-1) l)):=by
 refine yQ body47 pure47 (hi 47 (by decide)) rfl rfl (wM (wj 6 .ro (fun h=>by cases h) 1 l) (.int _ _ _)) (.inl (.bool _ _)) ?_
 refine kQ (zC rfl (zA (kQ (zC rfl (zA (k_seq (kQ (zC rfl ?_))))))))
 refine zA (zM ?_)
 refine yj (fun kk s2=>∃(i:Nat) (k:Int),kk+i=l.length∧grwF n (-1) l=grwF n k (l.drop i)∧s2.st=[]∧Holds s2 [(0,.lst .ro 1 (zN l)),(1,.int .i64 n),(5,.int .i64 k),(6,.int .i64 i)]) (fun kk s2 hI=>?_) l.length _ ⟨0, -1,rfl,rfl,rfl,.c4 rfl rfl rfl rfl (.nil rfl)⟩
 obtain⟨i,k,hk,hw,hst2,hs2⟩:=hI
 refine zL _ _ hs2 hst2 fun fr2=>?_
 by_cases hin:i<l.length
 ·obtain⟨x,hx⟩:∃x,l[i]? =some x:=⟨l[i],List.getElem?_eq_getElem hin⟩
  rw[drop_at hx,show grwF n k (x::l.drop (i+1))=if x≤k∨x ≥ n then false else grwF n x (l.drop (i+1))from rfl]at hw
  by_cases e1:x≤k
  ·rw[if_pos (.inl e1)]at hw
   rw[hw]
   refine k_seq (kQ (zB rfl (zB rfl (zl rfl ty29 rfl (List.length_map _) ?_))))
   refine zb rfl rfl rfl (zA (k_cT rfl (decide_eq_true (by omega)) (zS (k_seq (zM (k_seq (kQ (zB rfl ?_))))))))
   refine zB rfl (yL (u:=.int .i64 (x)) rfl ty29 rfl rfl (Int.natCast_nonneg _) (by simp[hx]) cl3 ?_)
   refine zo rfl rfl sh3 rfl ?_
   refine zB rfl (zAP rfl rfl rfl (zB rfl (o_gS rfl rfl rfl rfl (decide_eq_true (by omega)) (o_gS rfl rfl rfl rfl (decide_eq_true (by omega)) ?_))))
   refine zq [(0,.lst .ro 1 (zN l)),(1,.int .i64 n),(6,.int .i64 ↑i),(19,U.bool (decide (x≤k))),(20,U.tup []),(21,U.tup [])] [] ([]) (.c4 rfl rfl rfl rfl (.cons rfl (.cons rfl (.nil rfl)))) rfl rfl fun fr=>?_
   refine o_gS rfl rfl rfl rfl (decide_eq_true (by omega)) (o_gS rfl rfl rfl rfl (decide_eq_true (by omega)) (o_gS rfl rfl rfl rfl (decide_eq_true (by omega)) (o_gS rfl rfl rfl rfl (decide_eq_true (by omega)) (zV rfl rfl (decide_eq_true (by omega)) ?_))))
   refine zA ?_
   refine zL [(0,.lst .ro 1 (zN l)),(1,.int .i64 n),(6,.int .i64 ↑i),(20,U.tup []),(21,U.tup []),(22,U.tup []),(23,U.tup []),(24,U.tup []),(25,U.tup []),(26,.bool true)] ([]) (.c4 rfl rfl rfl rfl (.c4 rfl rfl rfl rfl (.cons rfl (.cons rfl (.nil rfl))))) rfl fun fr=>?_
   refine k_cT rfl rfl ?_
   refine kQ (zC rfl (zA (zd ?_)))
   refine⟨.inr rfl,_,.cons _ _ _ _ (.tmp 4) .nil,?_⟩
   exact .refl _
  ·by_cases e2:x ≥ n
   ·rw[if_pos (.inr e2)]at hw
    rw[hw]
    refine k_seq (kQ (zB rfl (zB rfl (zl rfl ty29 rfl (List.length_map _) ?_))))
    refine zb rfl rfl rfl (zA (k_cT rfl (decide_eq_true (by omega)) (zS (k_seq (zM (k_seq (kQ (zB rfl ?_))))))))
    refine zB rfl (yL (u:=.int .i64 (x)) rfl ty29 rfl rfl (Int.natCast_nonneg _) (by simp[hx]) cl3 ?_)
    refine zo rfl rfl sh3 rfl ?_
    refine zB rfl (zAP rfl rfl rfl (zB rfl (o_gD rfl rfl rfl rfl (decide_eq_false (by omega)) (zB rfl (o_gD rfl rfl rfl rfl (decide_eq_false (by omega)) (zB rfl ?_))))))
    refine zq [(0,.lst .ro 1 (zN l)),(1,.int .i64 n),(6,.int .i64 ↑i),(19,U.bool (decide (x≤k))),(20,.lst .ro 1 (zN l)),(21,.int .i64 ↑i)] [] ([]) (.c4 rfl rfl rfl rfl (.cons rfl (.cons rfl (.nil rfl)))) rfl rfl fun fr=>?_
    refine o_gD rfl rfl rfl rfl (decide_eq_false (by omega)) ?_
    refine zq [(0,.lst .ro 1 (zN l)),(1,.int .i64 n),(6,.int .i64 ↑i),(19,U.bool (decide (x≤k))),(20,.lst .ro 1 (zN l)),(21,.int .i64 ↑i)] [] ([]) (.c4 rfl rfl rfl rfl (.cons rfl (.cons rfl (.nil rfl)))) rfl rfl fun fr=>?_
    refine yL (u:=.int .i64 (x)) rfl ty29 rfl rfl (Int.natCast_nonneg _) (by simp[hx]) cl3 ?_
    refine o_gD rfl rfl rfl rfl (decide_eq_false (by omega)) (zo rfl rfl sh3 rfl ?_)
    refine o_gD rfl rfl rfl rfl (decide_eq_false (by omega)) (zB rfl (o_gD rfl rfl rfl rfl (decide_eq_false (by omega)) (o_geq rfl rfl rfl (zf rfl rfl (decide_eq_false (by omega)) ?_))))
    refine zA ?_
    refine zL [(0,.lst .ro 1 (zN l)),(1,.int .i64 n),(6,.int .i64 ↑i),(20,.lst .ro 1 (zN l)),(21,.int .i64 ↑i),(22,U.eref [.int .i64 x] 0),(23,.int .i64 x),(24,.int .i64 n),(25,U.bool (decide (n≤x))),(26,U.bool (decide (n≤x)))] ([]) (.c4 rfl rfl rfl rfl (.c4 rfl rfl rfl rfl (.cons rfl (.cons rfl (.nil rfl))))) rfl fun fr=>?_
    refine k_cT rfl (decide_eq_true (by omega)) (kQ (zC rfl (zA (zd ?_))))
    refine⟨.inr rfl,_,.cons _ _ _ _ (.tmp 4) .nil,?_⟩
    exact .refl _
   ·rw[if_neg (by omega)]at hw
    refine k_seq (kQ (zB rfl (zB rfl (zl rfl ty29 rfl (List.length_map _) ?_))))
    refine zb rfl rfl rfl (zA (k_cT rfl (decide_eq_true (by omega)) (zS (k_seq (zM (k_seq (kQ (zB rfl ?_))))))))
    refine zB rfl (yL (u:=.int .i64 (x)) rfl ty29 rfl rfl (Int.natCast_nonneg _) (by simp[hx]) cl3 ?_)
    refine zo rfl rfl sh3 rfl ?_
    refine zB rfl (zAP rfl rfl rfl (zB rfl (o_gD rfl rfl rfl rfl (decide_eq_false (by omega)) (zB rfl (o_gD rfl rfl rfl rfl (decide_eq_false (by omega)) (zB rfl ?_))))))
    refine zq [(0,.lst .ro 1 (zN l)),(1,.int .i64 n),(6,.int .i64 ↑i),(19,U.bool (decide (x≤k))),(20,.lst .ro 1 (zN l)),(21,.int .i64 ↑i)] [] ([]) (.c4 rfl rfl rfl rfl (.cons rfl (.cons rfl (.nil rfl)))) rfl rfl fun fr=>?_
    refine o_gD rfl rfl rfl rfl (decide_eq_false (by omega)) ?_
    refine zq [(0,.lst .ro 1 (zN l)),(1,.int .i64 n),(6,.int .i64 ↑i),(19,U.bool (decide (x≤k))),(20,.lst .ro 1 (zN l)),(21,.int .i64 ↑i)] [] ([]) (.c4 rfl rfl rfl rfl (.cons rfl (.cons rfl (.nil rfl)))) rfl rfl fun fr=>?_
    refine yL (u:=.int .i64 (x)) rfl ty29 rfl rfl (Int.natCast_nonneg _) (by simp[hx]) cl3 ?_
    refine o_gD rfl rfl rfl rfl (decide_eq_false (by omega)) (zo rfl rfl sh3 rfl ?_)
    refine o_gD rfl rfl rfl rfl (decide_eq_false (by omega)) (zB rfl (o_gD rfl rfl rfl rfl (decide_eq_false (by omega)) (o_geq rfl rfl rfl (zf rfl rfl (decide_eq_false (by omega)) ?_))))
    refine zA ?_
    refine zL [(0,.lst .ro 1 (zN l)),(1,.int .i64 n),(6,.int .i64 ↑i),(20,.lst .ro 1 (zN l)),(21,.int .i64 ↑i),(22,U.eref [.int .i64 x] 0),(23,.int .i64 x),(24,.int .i64 n),(25,U.bool (decide (n≤x))),(26,U.bool (decide (n≤x)))] ([]) (.c4 rfl rfl rfl rfl (.c4 rfl rfl rfl rfl (.cons rfl (.cons rfl (.nil rfl))))) rfl fun fr=>?_
    refine k_cF rfl (decide_eq_false (by omega)) (zS (k_region (zB rfl (zB rfl (yL (u:=.int .i64 (x)) rfl ty29 rfl rfl (Int.natCast_nonneg _) (by simp[hx]) cl3 ?_)))))
    refine zo rfl rfl sh3 rfl ?_
    refine zC rfl (zA (k_region (zB rfl ?_)))
    refine yc rfl rfl rfl (by unfold I64;omega) (zC rfl (zA ?_))
    exact⟨kk - 1,by omega,i+1,x,by omega,hw,rfl,.c4 rfl rfl rfl rfl (.nil rfl)⟩
 ·have hiN:i=l.length:=by omega
  subst hiN
  rw[List.drop_length]at hw
  rw[hw]
  refine k_seq (kQ (zB rfl (zB rfl (zl rfl ty29 rfl (List.length_map _) ?_))))
  refine zb rfl rfl rfl (zA (k_cF rfl (decide_eq_false (by omega)) (yU (kQ (zC rfl (zA (zd ?_)))))))
  refine⟨.inr rfl,_,.cons _ _ _ _ (.tmp 4) .nil,?_⟩
  exact .refl _
def offB(w:List Int)(v:Int):Bool:=decide (whrI w v<0)
def cutQ(w:List Int)(q:Two):Bool:=offB w q.a&&offB w q.b
def preK(w:List Int):List Int→Nat
 |[]=>0
 |x::l=>if offB w x=true then preK w l+1 else 0
def cutS(w:List Int)(q:Scl):Option Scl:=if 0<preK w q.keys then some ⟨q.keys.take (preK w q.keys),q.steps.take (preK w q.keys - 1)⟩else none
def cutT(t:Ts)(w:List Int):Ts:={t with scales:=t.scales.filterMap (cutS w),pairs:=t.pairs.filter (cutQ w)}
theorem zEl(w:List Int):∀l:List Int,preK w l≤l.length:=by
 intro l
 induction l with
 |nil=>exact Nat.le_refl _
 |cons x l ih=>unfold preK;split<;>simp<;>omega
theorem preK_off(w:List Int):∀(l:List Int) (i:Nat) (x:Int),i<preK w l→l[i]? =some x→offB w x=true:=by
 intro l
 induction l with
 |nil=>intro i x h;cases h
 |cons y l ih=>
  intro i x h hx
  unfold preK at h
  by_cases e:offB w y=true
  ·rw[if_pos e]at h
   cases i with
   |zero=>simp at hx;subst hx;exact e
   |succ i=>exact ih i x (by omega) (by simpa using hx)
  ·rw[if_neg e]at h;omega
set_option maxHeartbeats 16000000 in
theorem ret48(hi:Off is)(hok:TOk t)(hw8:w.length≤4096):RetP Try.prog is orc 48 [t.u,.lst .ro 1 (zN w)] (cutT t w).u:=by
 have hns:=hok.sh.ns
 have hnp:=hok.sh.np
 refine yQ body48 pure48 (hi 48 (by decide)) rfl rfl (wM (zBV t 4) (wj 6 .ro (fun h=>by cases h) 1 w)) (.inl (zBV _ 4)) ?_
 refine kQ (yO rfl rfl (zY rfl ze28 ?_))
 refine zA ?_
 refine zL [(1,.lst .ro 1 (zN w)),(2,U.box 0 0),(4,U.box 1 0)] ([SB.box t.cs,SB.box [.lst .full 0 [],.lst .full 0 [],.lst .full 0 [],.int .i64 0,.int .i64 0]]) (.cons rfl (.cons rfl (.cons rfl (.nil rfl)))) rfl fun fr=>?_
 refine kQ (zK rfl rfl rfl sh28 rfl (zY rfl ze28 ?_))
 refine zQ rfl rfl sh28 rfl rfl rfl rfl rfl ?_
 refine zA ?_
 refine zL [(1,.lst .ro 1 (zN w)),(2,U.box 0 0),(4,U.box 1 0),(5,U.box 2 0)] ([SB.box t.cs,SB.box [.lst .full 0 [],.lst .full 0 [],.lst .full 0 [],.int .i64 0,.int .i64 0],SB.box t.cs]) (.c4 rfl rfl rfl rfl (.nil rfl)) rfl fun fr=>?_
 refine kQ (zE rfl rfl wZ (yK rfl rfl sh23 rfl rfl (zE rfl rfl yY (yK rfl rfl sh24 rfl rfl (zA ?_)))))
 refine zL [(1,.lst .ro 1 (zN w)),(2,U.box 0 0),(4,U.box 1 0),(5,U.box 2 0)] ([SB.box t.cs,SB.box [.lst .full 0 [],.lst .full 0 [],.lst .full 0 [],.int .i64 0,.int .i64 0],SB.box [.lst .ro 2 (zO t.heard),.lst .full 0 [],.lst .full 0 [],.int .i64 t.lo,.int .i64 t.hi]]) (.c4 rfl rfl rfl rfl (.nil rfl)) rfl fun fr=>?_
 refine k_seq (kQ (zC rfl (zA (zM ?_))))
 obtain⟨V0,hV0⟩:∃V0:List U,V0=[.lst .full 0 [],.lst .full 0 [],.lst .full 0 [],.int .i64 0,.int .i64 0]:=⟨_,rfl⟩
 refine yj (fun kk s2=>∃n:Nat,kk+n=t.pairs.length∧s2.st=[.box t.cs,.box V0,SB.box [.lst .ro 2 (zO t.heard),.lst .full 0 [],accW ((t.pairs.take n).filter (cutQ w)),.int .i64 t.lo,.int .i64 t.hi]]∧Holds s2 [(1,.lst .ro 1 (zN w)),(2,.box 0 0),(4,.box 1 0),(5,.box 2 0),(6,.int .i64 n)]) (fun kk s2 hI=>?_) t.pairs.length _ ⟨0,rfl,by rw[hV0];rfl,.c4 rfl rfl rfl rfl (.cons rfl (.nil rfl))⟩
 obtain⟨n,hk,hst,hs⟩:=hI
 obtain⟨W,hW⟩:∃W,W=(t.pairs.take n).filter (cutQ w):=⟨_,rfl⟩
 have hWl:W.length≤4:=by rw[hW];exact Nat.le_trans (List.length_filter_le _ _) (by rw[List.length_take];omega)
 rw[←hW]at hst
 refine zL _ _ hs hst fun fr=>?_
 by_cases hn:n<t.pairs.length
 ·obtain⟨q,hq⟩:∃q,t.pairs[n]? =some q:=⟨t.pairs[n],List.getElem?_eq_getElem hn⟩
  have q66a:=ret66 (orc:=orc) hi w q.a hw8
  have q66b:=ret66 (orc:=orc) hi w q.b hw8
  have hsu:(t.pairs.take (n+1)).filter (cutQ w)=W++(if cutQ w q=true then [q]else []):=by
   rw[List.take_add_one,hq,List.filter_append,←hW]
   congr 1
   cases hc:cutQ w q<;>simp[hc]
  unfold cutQ offB at hsu
  by_cases c1:whrI w q.a<0
  ·rw[decide_eq_true c1,Bool.true_and]at hsu
   by_cases c2:whrI w q.b<0
   ·rw[decide_eq_true c2,if_pos rfl]at hsu
    generalize whrI w q.a=wa at*
    generalize whrI w q.b=wb at*
    cases W with
    |nil=>
     refine k_seq (kQ (zB rfl (zE rfl rfl yY (zG rfl rfl rfl sh24 rfl (zl rfl ty24 rfl (List.length_map _) ?_)))))
     refine zb rfl rfl rfl (zA (k_cT rfl (decide_eq_true (by omega)) (zS (k_seq (zM (kQ (zB rfl (zE rfl rfl yY ?_))))))))
     refine zG rfl rfl rfl sh24 rfl (zB rfl (yL (u:=(q).u) rfl ty24 rfl rfl (Int.natCast_nonneg _) (by simp[hq]) cl48 ?_))
     refine zEK rfl ty48 rfl rfl (by omega) (by omega) cl3 ?_
     refine zo rfl rfl sh3 rfl ?_
     refine zT rfl (q66a) (.lrefl _) (zb rfl rfl rfl ?_)
     refine zq [(1,.lst .ro 1 (zN w)),(2,U.box 0 0),(4,U.box 1 0),(5,U.box 2 0),(6,.int .i64 ↑n),(28,U.bool (decide (wa<(0:Int))))] [] ([SB.box t.cs,SB.box V0,SB.box [.lst .ro 2 (zO t.heard),.lst .full 0 [],accW [],.int .i64 t.lo,.int .i64 t.hi]]) (.c4 rfl rfl rfl rfl (.cons rfl (.cons rfl (.nil rfl)))) rfl rfl fun fr=>?_
     refine zB rfl (o_gD rfl rfl rfl rfl (decide_eq_true (by omega)) ?_)
     refine zB rfl (o_gD rfl rfl rfl rfl (decide_eq_true (by omega)) ?_)
     refine zE rfl rfl yY (o_gD rfl rfl rfl rfl (decide_eq_true (by omega)) ?_)
     refine zG rfl rfl rfl sh24 rfl (o_gD rfl rfl rfl rfl (decide_eq_true (by omega)) ?_)
     refine zB rfl (o_gD rfl rfl rfl rfl (decide_eq_true (by omega)) ?_)
     refine yL (u:=(q).u) rfl ty24 rfl rfl (Int.natCast_nonneg _) (by simp[hq]) cl48 ?_
     refine o_gD rfl rfl rfl rfl (decide_eq_true (by omega)) ?_
     refine zEK rfl ty48 rfl rfl (by omega) (by omega) cl3 ?_
     refine o_gD rfl rfl rfl rfl (decide_eq_true (by omega)) ?_
     refine zo rfl rfl sh3 rfl ?_
     refine o_gD rfl rfl rfl rfl (decide_eq_true (by omega)) ?_
     refine zT rfl (q66b) (.lrefl _) ?_
     refine zq [(1,.lst .ro 1 (zN w)),(2,U.box 0 0),(4,U.box 1 0),(5,U.box 2 0),(6,.int .i64 ↑n),(29,U.bool (decide (wa<(0:Int)))),(30,.lst .ro 1 (zN w)),(31,U.box 0 2),(32,.lst .ro 2 (zO t.pairs)),(33,.int .i64 ↑n),(34,U.eref [.int .i64 q.a,.int .i64 q.b] 0),(35,U.eref [.int .i64 q.a,.int .i64 q.b] 1),(36,.int .i64 q.b),(37,.int .i64 wb)] [] ([SB.box t.cs,SB.box V0,SB.box [.lst .ro 2 (zO t.heard),.lst .full 0 [],accW [],.int .i64 t.lo,.int .i64 t.hi]]) (.c4 rfl rfl rfl rfl (.c4 rfl rfl rfl rfl (.c4 rfl rfl rfl rfl (.cons rfl (.cons rfl (.nil rfl)))))) rfl rfl fun fr=>?_
     refine o_gD rfl rfl rfl rfl (decide_eq_true (by omega)) ?_
     refine zq [(1,.lst .ro 1 (zN w)),(2,U.box 0 0),(4,U.box 1 0),(5,U.box 2 0),(6,.int .i64 ↑n),(29,U.bool (decide (wa<(0:Int)))),(30,.lst .ro 1 (zN w)),(31,U.box 0 2),(32,.lst .ro 2 (zO t.pairs)),(33,.int .i64 ↑n),(34,U.eref [.int .i64 q.a,.int .i64 q.b] 0),(35,U.eref [.int .i64 q.a,.int .i64 q.b] 1),(36,.int .i64 q.b),(37,.int .i64 wb)] [] ([SB.box t.cs,SB.box V0,SB.box [.lst .ro 2 (zO t.heard),.lst .full 0 [],accW [],.int .i64 t.lo,.int .i64 t.hi]]) (.c4 rfl rfl rfl rfl (.c4 rfl rfl rfl rfl (.c4 rfl rfl rfl rfl (.cons rfl (.cons rfl (.nil rfl)))))) rfl rfl fun fr=>?_
     refine zb rfl rfl rfl (zV rfl rfl (decide_eq_true (by omega)) ?_)
     refine zA ?_
     refine zL [(1,.lst .ro 1 (zN w)),(2,U.box 0 0),(4,U.box 1 0),(5,U.box 2 0),(6,.int .i64 ↑n),(30,.lst .ro 1 (zN w)),(31,U.box 0 2),(32,.lst .ro 2 (zO t.pairs)),(33,.int .i64 ↑n),(34,U.eref [.int .i64 q.a,.int .i64 q.b] 0),(35,U.eref [.int .i64 q.a,.int .i64 q.b] 1),(36,.int .i64 q.b),(37,.int .i64 wb),(38,U.bool (decide (wb<(0:Int)))),(39,U.bool (decide (wb<(0:Int))))] ([SB.box t.cs,SB.box V0,SB.box [.lst .ro 2 (zO t.heard),.lst .full 0 [],accW [],.int .i64 t.lo,.int .i64 t.hi]]) (.c4 rfl rfl rfl rfl (.c4 rfl rfl rfl rfl (.c4 rfl rfl rfl rfl (.cons rfl (.cons rfl (.cons rfl (.nil rfl))))))) rfl fun fr=>?_
     refine k_cT rfl (decide_eq_true (by omega)) (we [.plain,.read true,.plain,.read true,.plain,.plain,.read true,.lay,.plain,.plain,.plain] (by kernel_rfl) (by kernel_rfl) (by kernel_rfl) ?_)
     refine zF (zE rfl rfl yY (zA rfl)) ?_
     refine zc rfl (zG rfl rfl rfl sh24 rfl (zA rfl)) (zF (zE rfl rfl yY (zA rfl)) ?_)
     refine zc rfl (zG rfl rfl rfl sh24 rfl (zA rfl)) (zF (zB rfl (zA rfl)) (zF (yL (u:=(q).u) rfl ty24 rfl rfl (Int.natCast_nonneg _) (by simp[hq]) cl48 (zA rfl)) ?_))
     refine zc rfl (yE rfl rfl sh48 rfl (zA rfl)) ?_
     refine d_lay (es:=[U.agg [.int .i64 (Two.a q),.int .i64 (Two.b q)]]) rfl ty24 ze48 cl48 rfl rfl rfl rfl rfl rfl rfl rfl ?_
     refine zF (zBR rfl ap24_24 rfl rfl (by simp) (by simp) (by simp[zh,zj,oneU]) (by simp) (zA rfl)) ?_
     refine zF (zE rfl rfl yY (zA rfl)) ?_
     refine zF (yK rfl rfl sh24 rfl rfl (zA rfl)) ?_
     refine zAY ?_
     refine zL [(1,.lst .ro 1 (zN w)),(2,U.box 0 0),(4,U.box 1 0),(5,U.box 2 0),(6,.int .i64 ↑n),(30,.lst .ro 1 (zN w)),(31,U.box 0 2),(32,.lst .ro 2 (zO t.pairs)),(33,.int .i64 ↑n),(34,U.eref [.int .i64 q.a,.int .i64 q.b] 0),(35,U.eref [.int .i64 q.a,.int .i64 q.b] 1),(36,.int .i64 q.b),(37,.int .i64 wb),(38,U.bool (decide (wb<(0:Int))))] ([SB.box t.cs,SB.box V0,SB.box [.lst .ro 2 (zO t.heard),.lst .full 0 [],U.lst Kd.own 2 [U.agg [.int .i64 q.a,.int .i64 q.b]],.int .i64 t.lo,.int .i64 t.hi]]) (.c4 rfl rfl rfl rfl (.c4 rfl rfl rfl rfl (.c4 rfl rfl rfl rfl (.cons rfl (.cons rfl (.nil rfl)))))) rfl fun fr=>?_
     refine k_region (zB rfl ?_)
     refine yc rfl rfl rfl (by unfold I64;omega) (zC rfl (zA ?_))
     exact⟨kk - 1,by omega,n+1,by omega,by unfold cutQ offB;rw[hsu];rfl,.c4 rfl rfl rfl rfl (.cons rfl (.nil rfl))⟩
    |cons y W=>
     refine k_seq (kQ (zB rfl (zE rfl rfl yY (zG rfl rfl rfl sh24 rfl (zl rfl ty24 rfl (List.length_map _) ?_)))))
     refine zb rfl rfl rfl (zA (k_cT rfl (decide_eq_true (by omega)) (zS (k_seq (zM (kQ (zB rfl (zE rfl rfl yY ?_))))))))
     refine zG rfl rfl rfl sh24 rfl (zB rfl (yL (u:=(q).u) rfl ty24 rfl rfl (Int.natCast_nonneg _) (by simp[hq]) cl48 ?_))
     refine zEK rfl ty48 rfl rfl (by omega) (by omega) cl3 ?_
     refine zo rfl rfl sh3 rfl ?_
     refine zT rfl (q66a) (.lrefl _) (zb rfl rfl rfl ?_)
     refine zq [(1,.lst .ro 1 (zN w)),(2,U.box 0 0),(4,U.box 1 0),(5,U.box 2 0),(6,.int .i64 ↑n),(28,U.bool (decide (wa<(0:Int))))] [] ([SB.box t.cs,SB.box V0,SB.box [.lst .ro 2 (zO t.heard),.lst .full 0 [],accW (y::W),.int .i64 t.lo,.int .i64 t.hi]]) (.c4 rfl rfl rfl rfl (.cons rfl (.cons rfl (.nil rfl)))) rfl rfl fun fr=>?_
     refine zB rfl (o_gD rfl rfl rfl rfl (decide_eq_true (by omega)) ?_)
     refine zB rfl (o_gD rfl rfl rfl rfl (decide_eq_true (by omega)) ?_)
     refine zE rfl rfl yY (o_gD rfl rfl rfl rfl (decide_eq_true (by omega)) ?_)
     refine zG rfl rfl rfl sh24 rfl (o_gD rfl rfl rfl rfl (decide_eq_true (by omega)) ?_)
     refine zB rfl (o_gD rfl rfl rfl rfl (decide_eq_true (by omega)) ?_)
     refine yL (u:=(q).u) rfl ty24 rfl rfl (Int.natCast_nonneg _) (by simp[hq]) cl48 ?_
     refine o_gD rfl rfl rfl rfl (decide_eq_true (by omega)) ?_
     refine zEK rfl ty48 rfl rfl (by omega) (by omega) cl3 ?_
     refine o_gD rfl rfl rfl rfl (decide_eq_true (by omega)) ?_
     refine zo rfl rfl sh3 rfl ?_
     refine o_gD rfl rfl rfl rfl (decide_eq_true (by omega)) ?_
     refine zT rfl (q66b) (.lrefl _) ?_
     refine zq [(1,.lst .ro 1 (zN w)),(2,U.box 0 0),(4,U.box 1 0),(5,U.box 2 0),(6,.int .i64 ↑n),(29,U.bool (decide (wa<(0:Int)))),(30,.lst .ro 1 (zN w)),(31,U.box 0 2),(32,.lst .ro 2 (zO t.pairs)),(33,.int .i64 ↑n),(34,U.eref [.int .i64 q.a,.int .i64 q.b] 0),(35,U.eref [.int .i64 q.a,.int .i64 q.b] 1),(36,.int .i64 q.b),(37,.int .i64 wb)] [] ([SB.box t.cs,SB.box V0,SB.box [.lst .ro 2 (zO t.heard),.lst .full 0 [],accW (y::W),.int .i64 t.lo,.int .i64 t.hi]]) (.c4 rfl rfl rfl rfl (.c4 rfl rfl rfl rfl (.c4 rfl rfl rfl rfl (.cons rfl (.cons rfl (.nil rfl)))))) rfl rfl fun fr=>?_
     refine o_gD rfl rfl rfl rfl (decide_eq_true (by omega)) ?_
     refine zq [(1,.lst .ro 1 (zN w)),(2,U.box 0 0),(4,U.box 1 0),(5,U.box 2 0),(6,.int .i64 ↑n),(29,U.bool (decide (wa<(0:Int)))),(30,.lst .ro 1 (zN w)),(31,U.box 0 2),(32,.lst .ro 2 (zO t.pairs)),(33,.int .i64 ↑n),(34,U.eref [.int .i64 q.a,.int .i64 q.b] 0),(35,U.eref [.int .i64 q.a,.int .i64 q.b] 1),(36,.int .i64 q.b),(37,.int .i64 wb)] [] ([SB.box t.cs,SB.box V0,SB.box [.lst .ro 2 (zO t.heard),.lst .full 0 [],accW (y::W),.int .i64 t.lo,.int .i64 t.hi]]) (.c4 rfl rfl rfl rfl (.c4 rfl rfl rfl rfl (.c4 rfl rfl rfl rfl (.cons rfl (.cons rfl (.nil rfl)))))) rfl rfl fun fr=>?_
     refine zb rfl rfl rfl (zV rfl rfl (decide_eq_true (by omega)) ?_)
     refine zA ?_
     refine zL [(1,.lst .ro 1 (zN w)),(2,U.box 0 0),(4,U.box 1 0),(5,U.box 2 0),(6,.int .i64 ↑n),(30,.lst .ro 1 (zN w)),(31,U.box 0 2),(32,.lst .ro 2 (zO t.pairs)),(33,.int .i64 ↑n),(34,U.eref [.int .i64 q.a,.int .i64 q.b] 0),(35,U.eref [.int .i64 q.a,.int .i64 q.b] 1),(36,.int .i64 q.b),(37,.int .i64 wb),(38,U.bool (decide (wb<(0:Int)))),(39,U.bool (decide (wb<(0:Int))))] ([SB.box t.cs,SB.box V0,SB.box [.lst .ro 2 (zO t.heard),.lst .full 0 [],accW (y::W),.int .i64 t.lo,.int .i64 t.hi]]) (.c4 rfl rfl rfl rfl (.c4 rfl rfl rfl rfl (.c4 rfl rfl rfl rfl (.cons rfl (.cons rfl (.cons rfl (.nil rfl))))))) rfl fun fr=>?_
     refine k_cT rfl (decide_eq_true (by omega)) (we [.plain,.read true,.plain,.read true,.plain,.plain,.read true,.lay,.plain,.plain,.plain] (by kernel_rfl) (by kernel_rfl) (by kernel_rfl) ?_)
     refine zF (zE rfl rfl yY (zA rfl)) ?_
     refine zc rfl (zG rfl rfl rfl sh24 rfl (zA rfl)) (zF (zE rfl rfl yY (zA rfl)) ?_)
     refine zc rfl (zG rfl rfl rfl sh24 rfl (zA rfl)) (zF (zB rfl (zA rfl)) (zF (yL (u:=(q).u) rfl ty24 rfl rfl (Int.natCast_nonneg _) (by simp[hq]) cl48 (zA rfl)) ?_))
     refine zc rfl (yE rfl rfl sh48 rfl (zA rfl)) ?_
     refine d_lay (es:=[U.agg [.int .i64 (Two.a q),.int .i64 (Two.b q)]]) rfl ty24 ze48 cl48 rfl rfl rfl rfl rfl rfl rfl rfl ?_
     refine zF (o_appendC (2) 2 rfl ap24_24 rfl rfl rfl rfl (by simp) (by simp) (by simp[zh,zj,oneU]) (by simp at hWl ⊢;omega) (zA rfl)) ?_
     refine zF (zE rfl rfl yY (zA rfl)) ?_
     refine zF (yK rfl rfl sh24 rfl rfl (zA rfl)) ?_
     refine zAY ?_
     refine zL [(1,.lst .ro 1 (zN w)),(2,U.box 0 0),(4,U.box 1 0),(5,U.box 2 0),(6,.int .i64 ↑n),(30,.lst .ro 1 (zN w)),(31,U.box 0 2),(32,.lst .ro 2 (zO t.pairs)),(33,.int .i64 ↑n),(34,U.eref [.int .i64 q.a,.int .i64 q.b] 0),(35,U.eref [.int .i64 q.a,.int .i64 q.b] 1),(36,.int .i64 q.b),(37,.int .i64 wb),(38,U.bool (decide (wb<(0:Int))))] ([SB.box t.cs,SB.box V0,SB.box [.lst .ro 2 (zO t.heard),.lst .full 0 [],U.lst Kd.own 2 (Two.u y::List.append (List.map Two.u W) [U.agg [.int .i64 q.a,.int .i64 q.b]]),.int .i64 t.lo,.int .i64 t.hi]]) (.c4 rfl rfl rfl rfl (.c4 rfl rfl rfl rfl (.c4 rfl rfl rfl rfl (.cons rfl (.cons rfl (.nil rfl)))))) rfl fun fr=>?_
     refine k_region (zB rfl ?_)
     refine yc rfl rfl rfl (by unfold I64;omega) (zC rfl (zA ?_))
     exact⟨kk - 1,by omega,n+1,by omega,by unfold cutQ offB;rw[hsu,accW_snoc];rfl,.c4 rfl rfl rfl rfl (.cons rfl (.nil rfl))⟩
   ·rw[decide_eq_false c2,if_neg (by decide),List.append_nil]at hsu
    generalize whrI w q.a=wa at*
    generalize whrI w q.b=wb at*
    refine k_seq (kQ (zB rfl (zE rfl rfl yY (zG rfl rfl rfl sh24 rfl (zl rfl ty24 rfl (List.length_map _) ?_)))))
    refine zb rfl rfl rfl (zA (k_cT rfl (decide_eq_true (by omega)) (zS (k_seq (zM (kQ (zB rfl (zE rfl rfl yY ?_))))))))
    refine zG rfl rfl rfl sh24 rfl (zB rfl (yL (u:=(q).u) rfl ty24 rfl rfl (Int.natCast_nonneg _) (by simp[hq]) cl48 ?_))
    refine zEK rfl ty48 rfl rfl (by omega) (by omega) cl3 ?_
    refine zo rfl rfl sh3 rfl ?_
    refine zT rfl (q66a) (.lrefl _) (zb rfl rfl rfl ?_)
    refine zq [(1,.lst .ro 1 (zN w)),(2,U.box 0 0),(4,U.box 1 0),(5,U.box 2 0),(6,.int .i64 ↑n),(28,U.bool (decide (wa<(0:Int))))] [] ([SB.box t.cs,SB.box V0,SB.box [.lst .ro 2 (zO t.heard),.lst .full 0 [],accW W,.int .i64 t.lo,.int .i64 t.hi]]) (.c4 rfl rfl rfl rfl (.cons rfl (.cons rfl (.nil rfl)))) rfl rfl fun fr=>?_
    refine zB rfl (o_gD rfl rfl rfl rfl (decide_eq_true (by omega)) ?_)
    refine zB rfl (o_gD rfl rfl rfl rfl (decide_eq_true (by omega)) ?_)
    refine zE rfl rfl yY (o_gD rfl rfl rfl rfl (decide_eq_true (by omega)) ?_)
    refine zG rfl rfl rfl sh24 rfl (o_gD rfl rfl rfl rfl (decide_eq_true (by omega)) ?_)
    refine zB rfl (o_gD rfl rfl rfl rfl (decide_eq_true (by omega)) ?_)
    refine yL (u:=(q).u) rfl ty24 rfl rfl (Int.natCast_nonneg _) (by simp[hq]) cl48 ?_
    refine o_gD rfl rfl rfl rfl (decide_eq_true (by omega)) ?_
    refine zEK rfl ty48 rfl rfl (by omega) (by omega) cl3 ?_
    refine o_gD rfl rfl rfl rfl (decide_eq_true (by omega)) ?_
    refine zo rfl rfl sh3 rfl ?_
    refine o_gD rfl rfl rfl rfl (decide_eq_true (by omega)) ?_
    refine zT rfl (q66b) (.lrefl _) ?_
    refine zq [(1,.lst .ro 1 (zN w)),(2,U.box 0 0),(4,U.box 1 0),(5,U.box 2 0),(6,.int .i64 ↑n),(29,U.bool (decide (wa<(0:Int)))),(30,.lst .ro 1 (zN w)),(31,U.box 0 2),(32,.lst .ro 2 (zO t.pairs)),(33,.int .i64 ↑n),(34,U.eref [.int .i64 q.a,.int .i64 q.b] 0),(35,U.eref [.int .i64 q.a,.int .i64 q.b] 1),(36,.int .i64 q.b),(37,.int .i64 wb)] [] ([SB.box t.cs,SB.box V0,SB.box [.lst .ro 2 (zO t.heard),.lst .full 0 [],accW W,.int .i64 t.lo,.int .i64 t.hi]]) (.c4 rfl rfl rfl rfl (.c4 rfl rfl rfl rfl (.c4 rfl rfl rfl rfl (.cons rfl (.cons rfl (.nil rfl)))))) rfl rfl fun fr=>?_
    refine o_gD rfl rfl rfl rfl (decide_eq_true (by omega)) ?_
    refine zq [(1,.lst .ro 1 (zN w)),(2,U.box 0 0),(4,U.box 1 0),(5,U.box 2 0),(6,.int .i64 ↑n),(29,U.bool (decide (wa<(0:Int)))),(30,.lst .ro 1 (zN w)),(31,U.box 0 2),(32,.lst .ro 2 (zO t.pairs)),(33,.int .i64 ↑n),(34,U.eref [.int .i64 q.a,.int .i64 q.b] 0),(35,U.eref [.int .i64 q.a,.int .i64 q.b] 1),(36,.int .i64 q.b),(37,.int .i64 wb)] [] ([SB.box t.cs,SB.box V0,SB.box [.lst .ro 2 (zO t.heard),.lst .full 0 [],accW W,.int .i64 t.lo,.int .i64 t.hi]]) (.c4 rfl rfl rfl rfl (.c4 rfl rfl rfl rfl (.c4 rfl rfl rfl rfl (.cons rfl (.cons rfl (.nil rfl)))))) rfl rfl fun fr=>?_
    refine zb rfl rfl rfl (zV rfl rfl (decide_eq_true (by omega)) ?_)
    refine zA ?_
    refine zL [(1,.lst .ro 1 (zN w)),(2,U.box 0 0),(4,U.box 1 0),(5,U.box 2 0),(6,.int .i64 ↑n),(30,.lst .ro 1 (zN w)),(31,U.box 0 2),(32,.lst .ro 2 (zO t.pairs)),(33,.int .i64 ↑n),(34,U.eref [.int .i64 q.a,.int .i64 q.b] 0),(35,U.eref [.int .i64 q.a,.int .i64 q.b] 1),(36,.int .i64 q.b),(37,.int .i64 wb),(38,U.bool (decide (wb<(0:Int)))),(39,U.bool (decide (wb<(0:Int))))] ([SB.box t.cs,SB.box V0,SB.box [.lst .ro 2 (zO t.heard),.lst .full 0 [],accW W,.int .i64 t.lo,.int .i64 t.hi]]) (.c4 rfl rfl rfl rfl (.c4 rfl rfl rfl rfl (.c4 rfl rfl rfl rfl (.cons rfl (.cons rfl (.cons rfl (.nil rfl))))))) rfl fun fr=>?_
    refine k_cF rfl (decide_eq_false (by omega)) (zS (k_region (zB rfl ?_)))
    refine yc rfl rfl rfl (by unfold I64;omega) (zC rfl (zA ?_))
    exact⟨kk - 1,by omega,n+1,by omega,by unfold cutQ offB;rw[hsu];rfl,.c4 rfl rfl rfl rfl (.cons rfl (.nil rfl))⟩
  ·rw[decide_eq_false c1,Bool.false_and,if_neg (by decide),List.append_nil]at hsu
   generalize whrI w q.a=wa at*
   refine k_seq (kQ (zB rfl (zE rfl rfl yY (zG rfl rfl rfl sh24 rfl (zl rfl ty24 rfl (List.length_map _) ?_)))))
   refine zb rfl rfl rfl (zA (k_cT rfl (decide_eq_true (by omega)) (zS (k_seq (zM (kQ (zB rfl (zE rfl rfl yY ?_))))))))
   refine zG rfl rfl rfl sh24 rfl (zB rfl (yL (u:=(q).u) rfl ty24 rfl rfl (Int.natCast_nonneg _) (by simp[hq]) cl48 ?_))
   refine zEK rfl ty48 rfl rfl (by omega) (by omega) cl3 ?_
   refine zo rfl rfl sh3 rfl ?_
   refine zT rfl (q66a) (.lrefl _) (zb rfl rfl rfl ?_)
   refine zq [(1,.lst .ro 1 (zN w)),(2,U.box 0 0),(4,U.box 1 0),(5,U.box 2 0),(6,.int .i64 ↑n),(28,U.bool (decide (wa<(0:Int))))] [] ([SB.box t.cs,SB.box V0,SB.box [.lst .ro 2 (zO t.heard),.lst .full 0 [],accW W,.int .i64 t.lo,.int .i64 t.hi]]) (.c4 rfl rfl rfl rfl (.cons rfl (.cons rfl (.nil rfl)))) rfl rfl fun fr=>?_
   refine zB rfl (o_gS rfl rfl rfl rfl (decide_eq_false (by omega)) ?_)
   refine o_gS rfl rfl rfl rfl (decide_eq_false (by omega)) ?_
   refine o_gS rfl rfl rfl rfl (decide_eq_false (by omega)) ?_
   refine o_gS rfl rfl rfl rfl (decide_eq_false (by omega)) ?_
   refine o_gS rfl rfl rfl rfl (decide_eq_false (by omega)) ?_
   refine o_gS rfl rfl rfl rfl (decide_eq_false (by omega)) ?_
   refine o_gS rfl rfl rfl rfl (decide_eq_false (by omega)) ?_
   refine o_gS rfl rfl rfl rfl (decide_eq_false (by omega)) ?_
   refine zq [(1,.lst .ro 1 (zN w)),(2,U.box 0 0),(4,U.box 1 0),(5,U.box 2 0),(6,.int .i64 ↑n),(29,U.bool (decide (wa<(0:Int)))),(30,U.tup []),(31,U.tup []),(32,U.tup []),(33,U.tup []),(34,U.tup []),(35,U.tup []),(36,U.tup []),(37,U.tup [])] [] ([SB.box t.cs,SB.box V0,SB.box [.lst .ro 2 (zO t.heard),.lst .full 0 [],accW W,.int .i64 t.lo,.int .i64 t.hi]]) (.c4 rfl rfl rfl rfl (.c4 rfl rfl rfl rfl (.c4 rfl rfl rfl rfl (.cons rfl (.cons rfl (.nil rfl)))))) rfl rfl fun fr=>?_
   refine o_gS rfl rfl rfl rfl (decide_eq_false (by omega)) ?_
   refine zf rfl rfl (decide_eq_false (by omega)) ?_
   refine zA ?_
   refine zL [(1,.lst .ro 1 (zN w)),(2,U.box 0 0),(4,U.box 1 0),(5,U.box 2 0),(6,.int .i64 ↑n),(30,U.tup []),(31,U.tup []),(32,U.tup []),(33,U.tup []),(34,U.tup []),(35,U.tup []),(36,U.tup []),(37,U.tup []),(38,U.tup []),(39,.bool false)] ([SB.box t.cs,SB.box V0,SB.box [.lst .ro 2 (zO t.heard),.lst .full 0 [],accW W,.int .i64 t.lo,.int .i64 t.hi]]) (.c4 rfl rfl rfl rfl (.c4 rfl rfl rfl rfl (.c4 rfl rfl rfl rfl (.cons rfl (.cons rfl (.cons rfl (.nil rfl))))))) rfl fun fr=>?_
   refine k_cF rfl rfl ?_
   refine zS (k_region (zB rfl ?_))
   refine yc rfl rfl rfl (by unfold I64;omega) (zC rfl (zA ?_))
   exact⟨kk - 1,by omega,n+1,by omega,by unfold cutQ offB;rw[hsu];rfl,.c4 rfl rfl rfl rfl (.cons rfl (.nil rfl))⟩
 ·have hnN:n=t.pairs.length:=by omega
  subst hnN
  rw[List.take_length]at hW
  obtain⟨P,hP⟩:∃P,P=accW W:=⟨_,rfl⟩
  rw[←hP]
  refine k_seq (kQ (zB rfl (zE rfl rfl yY (zG rfl rfl rfl sh24 rfl (zl rfl ty24 rfl (List.length_map _) ?_)))))
  refine zb rfl rfl rfl (zA (k_cF rfl (decide_eq_false (by omega)) (yU (k_seq (kQ (zC rfl (zA (zM ?_))))))))
  refine yj (fun kk s2=>∃(n:Nat) (e:List SB),kk+n=t.scales.length∧s2.st=[.box t.cs,.box V0,.box [.lst .ro 2 (zO t.heard),accQ ((t.scales.take n).filterMap (cutS w)),P,.int .i64 t.lo,.int .i64 t.hi]]++e∧Holds s2 [(1,.lst .ro 1 (zN w)),(2,.box 0 0),(4,.box 1 0),(5,.box 2 0),(7,.int .i64 n)]) (fun kk s2 hI=>?_) t.scales.length _ ⟨0,[],rfl,rfl,.c4 rfl rfl rfl rfl (.cons rfl (.nil rfl))⟩
  obtain⟨n,e,hk,hst,hs⟩:=hI
  obtain⟨Q,hQ⟩:∃Q,Q=(t.scales.take n).filterMap (cutS w):=⟨_,rfl⟩
  have hQl:Q.length≤2:=by rw[hQ];exact Nat.le_trans (List.length_filterMap_le _ _) (by rw[List.length_take];omega)
  rw[←hQ]at hst
  generalize hA:accQ Q=A at hst
  generalize hY:[.box t.cs,.box V0,SB.box [.lst .ro 2 (zO t.heard),A,P,.int .i64 t.lo,.int .i64 t.hi]]++e=Y at hst
  have y0:Y[0]? =some (.box t.cs):=by rw[←hY];rfl
  have y1:Y[1]? =some (.box [.lst .full 0 [],.lst .full 0 [],.lst .full 0 [],.int .i64 0,.int .i64 0]):=by rw[←hY,hV0];rfl
  have y2:Y[2]? =some (.box [.lst .ro 2 (zO t.heard),A,P,.int .i64 t.lo,.int .i64 t.hi]):=by rw[←hY];rfl
  refine zL _ _ hs hst fun fr=>?_
  by_cases hn:n<t.scales.length
  ·obtain⟨q,hq⟩:∃q,t.scales[n]? =some q:=⟨t.scales[n],List.getElem?_eq_getElem hn⟩
   obtain⟨h1,h2⟩:=hok.sh.sc q (List.mem_of_getElem? hq)
   refine k_seq (kQ (zB rfl (zE rfl rfl wZ (zG rfl rfl y0 sh23 rfl ?_))))
   refine zl rfl ty23 rfl (List.length_map _) ?_
   refine zb rfl rfl rfl (zA (k_cT rfl (decide_eq_true (by omega)) (zS (k_seq (zM (kQ (zE rfl rfl wZ (zG rfl rfl y0 sh23 rfl ?_))))))))
   refine zB rfl (yL (u:=(q).u) rfl ty23 rfl rfl (Int.natCast_nonneg _) (by simp[hq]) cl61 ?_)
   refine yE rfl rfl sh61 rfl ?_
   refine zY rfl ze61 ?_
   refine zQ rfl (zX _ _) sh61 rfl rfl rfl rfl rfl ?_
   refine zA ?_
   refine zL [(1,.lst .ro 1 (zN w)),(2,U.box 0 0),(4,U.box 1 0),(5,U.box 2 0),(7,.int .i64 ↑n),(8,U.box (List.length Y) 0)] (Y++[SB.box [.lst .ro 1 (zN q.keys),.lst .ro 2 (zO q.steps)]]) (.c4 rfl rfl rfl rfl (.cons rfl (.cons rfl (.nil rfl)))) (yD _ _ _) fun fr=>?_
   obtain⟨k8,hk8⟩:∃k8,k8=Y.length:=⟨_,rfl⟩
   obtain⟨Z,hZ⟩:∃Z,Z=Y++[SB.box [.lst .ro 1 (zN q.keys),.lst .ro 2 (zO q.steps)]]:=⟨_,rfl⟩
   rw[←hk8]
   have z0:Z[0]? =some (.box t.cs):=by rw[hZ];exact zr y0
   have z2:Z[2]? =some (.box [.lst .ro 2 (zO t.heard),A,P,.int .i64 t.lo,.int .i64 t.hi]):=by rw[hZ];exact zr y2
   have z8:Z[k8]? =some (.box [.lst .ro 1 (zN q.keys),.lst .ro 2 (zO q.steps)]):=by rw[hZ,hk8];exact zX _ _
   have hm8:=zEl w q.keys
   refine kQ (zC rfl (zA ?_))
   refine k_cut (fun s4=>s4.st=Z∧Holds s4 [(1,.lst .ro 1 (zN w)),(2,.box 0 0),(4,.box 1 0),(5,.box 2 0),(7,.int .i64 n),(8,.box k8 0),(9,.int .i64 (preK w q.keys:Nat))]) ?_ (fun s4 hM=>?_)
   ·refine zM ?_
    refine yj (fun k3 s3=>∃(m:Nat),k3+m=q.keys.length∧preK w q.keys=m+preK w (q.keys.drop m)∧s3.st=Z∧Holds s3 [(1,.lst .ro 1 (zN w)),(2,.box 0 0),(4,.box 1 0),(5,.box 2 0),(7,.int .i64 n),(8,.box k8 0),(9,.int .i64 m)]) (fun k3 s3 hI3=>?_) q.keys.length _ ⟨0,rfl,(by rw[Nat.zero_add];rfl),by rw[hZ];rfl,.c4 rfl rfl rfl rfl (.cons rfl (.cons rfl (.cons rfl (.nil rfl))))⟩
    obtain⟨m,hk3,hpre,hst3,hs3⟩:=hI3
    refine zL _ _ hs3 hst3 fun fr3=>?_
    by_cases hm:m<q.keys.length
    ·obtain⟨x,hx⟩:∃x,q.keys[m]? =some x:=⟨q.keys[m],List.getElem?_eq_getElem hm⟩
     have q66:=ret66 (orc:=orc) hi w x hw8
     rw[drop_at hx,show preK w (x::q.keys.drop (m+1))=if offB w x=true then preK w (q.keys.drop (m+1))+1 else 0 from rfl]at hpre
     unfold offB at hpre
     generalize whrI w x=wx at*
     by_cases hxw:wx<0
     ·rw[decide_eq_true hxw,if_pos rfl]at hpre
      refine k_seq (kQ (zB rfl (zE rfl rfl yu (zG rfl rfl z8 sh29 rfl ?_))))
      refine zl rfl ty29 rfl (List.length_map _) ?_
      refine zb rfl rfl rfl (zB rfl (o_gD rfl rfl rfl rfl (decide_eq_true (by omega)) ?_))
      refine zB rfl (o_gD rfl rfl rfl rfl (decide_eq_true (by omega)) ?_)
      refine zE rfl rfl yu (o_gD rfl rfl rfl rfl (decide_eq_true (by omega)) ?_)
      refine zG rfl rfl z8 sh29 rfl ?_
      refine o_gD rfl rfl rfl rfl (decide_eq_true (by omega)) ?_
      refine zB rfl (o_gD rfl rfl rfl rfl (decide_eq_true (by omega)) ?_)
      refine yL (u:=.int .i64 (x)) rfl ty29 rfl rfl (Int.natCast_nonneg _) (by simp[hx]) cl3 ?_
      refine o_gD rfl rfl rfl rfl (decide_eq_true (by omega)) ?_
      refine zo rfl rfl sh3 rfl ?_
      refine o_gD rfl rfl rfl rfl (decide_eq_true (by omega)) ?_
      refine zT rfl (q66) (.lrefl _) (o_gD rfl rfl rfl rfl (decide_eq_true (by omega)) ?_)
      refine zb rfl rfl rfl (zV rfl rfl (decide_eq_true (by omega)) ?_)
      refine zA ?_
      refine zL [(1,.lst .ro 1 (zN w)),(2,U.box 0 0),(4,U.box 1 0),(5,U.box 2 0),(7,.int .i64 ↑n),(8,U.box k8 0),(9,.int .i64 ↑m),(68,.lst .ro 1 (zN w)),(69,U.box k8 0),(70,.lst .ro 1 (zN q.keys)),(71,.int .i64 ↑m),(72,U.eref [.int .i64 x] 0),(73,.int .i64 x),(74,.int .i64 wx),(75,U.bool (decide (wx<(0:Int)))),(76,U.bool (decide (wx<(0:Int))))] (Z) (.c4 rfl rfl rfl rfl (.c4 rfl rfl rfl rfl (.c4 rfl rfl rfl rfl (.c4 rfl rfl rfl rfl (.nil rfl))))) rfl fun fr=>?_
      refine k_cT rfl (decide_eq_true (by omega)) (zS (zM (k_region (zB rfl ?_))))
      refine yc rfl rfl rfl (by unfold I64;omega) (zC rfl (zA ?_))
      exact⟨k3 - 1,by omega,m+1,by omega,by omega,rfl,.c4 rfl rfl rfl rfl (.cons rfl (.cons rfl (.cons rfl (.nil rfl))))⟩
     ·rw[decide_eq_false hxw,if_neg (by decide)]at hpre
      rw[show preK w q.keys=m from hpre]
      refine k_seq (kQ (zB rfl (zE rfl rfl yu (zG rfl rfl z8 sh29 rfl ?_))))
      refine zl rfl ty29 rfl (List.length_map _) ?_
      refine zb rfl rfl rfl (zB rfl (o_gD rfl rfl rfl rfl (decide_eq_true (by omega)) ?_))
      refine zB rfl (o_gD rfl rfl rfl rfl (decide_eq_true (by omega)) ?_)
      refine zE rfl rfl yu (o_gD rfl rfl rfl rfl (decide_eq_true (by omega)) ?_)
      refine zG rfl rfl z8 sh29 rfl ?_
      refine o_gD rfl rfl rfl rfl (decide_eq_true (by omega)) ?_
      refine zB rfl (o_gD rfl rfl rfl rfl (decide_eq_true (by omega)) ?_)
      refine yL (u:=.int .i64 (x)) rfl ty29 rfl rfl (Int.natCast_nonneg _) (by simp[hx]) cl3 ?_
      refine o_gD rfl rfl rfl rfl (decide_eq_true (by omega)) ?_
      refine zo rfl rfl sh3 rfl ?_
      refine o_gD rfl rfl rfl rfl (decide_eq_true (by omega)) ?_
      refine zT rfl (q66) (.lrefl _) (o_gD rfl rfl rfl rfl (decide_eq_true (by omega)) ?_)
      refine zb rfl rfl rfl (zV rfl rfl (decide_eq_true (by omega)) ?_)
      refine zA ?_
      refine zL [(1,.lst .ro 1 (zN w)),(2,U.box 0 0),(4,U.box 1 0),(5,U.box 2 0),(7,.int .i64 ↑n),(8,U.box k8 0),(9,.int .i64 ↑m),(68,.lst .ro 1 (zN w)),(69,U.box k8 0),(70,.lst .ro 1 (zN q.keys)),(71,.int .i64 ↑m),(72,U.eref [.int .i64 x] 0),(73,.int .i64 x),(74,.int .i64 wx),(75,U.bool (decide (wx<(0:Int)))),(76,U.bool (decide (wx<(0:Int))))] (Z) (.c4 rfl rfl rfl rfl (.c4 rfl rfl rfl rfl (.c4 rfl rfl rfl rfl (.c4 rfl rfl rfl rfl (.nil rfl))))) rfl fun fr=>?_
      refine k_cF rfl (decide_eq_false (by omega)) (yU ?_)
      exact⟨rfl,rfl,.c4 rfl rfl rfl rfl (.cons rfl (.cons rfl (.cons rfl (.nil rfl))))⟩
    ·have hmN:m=q.keys.length:=by omega
     subst hmN
     rw[List.drop_length]at hpre
     rw[show preK w q.keys=q.keys.length from hpre]
     refine k_seq (kQ (zB rfl (zE rfl rfl yu (zG rfl rfl z8 sh29 rfl ?_))))
     refine zl rfl ty29 rfl (List.length_map _) ?_
     refine zb rfl rfl rfl (zB rfl (o_gS rfl rfl rfl rfl (decide_eq_false (by omega)) ?_))
     refine o_gS rfl rfl rfl rfl (decide_eq_false (by omega)) ?_
     refine o_gS rfl rfl rfl rfl (decide_eq_false (by omega)) ?_
     refine o_gS rfl rfl rfl rfl (decide_eq_false (by omega)) ?_
     refine o_gS rfl rfl rfl rfl (decide_eq_false (by omega)) ?_
     refine o_gS rfl rfl rfl rfl (decide_eq_false (by omega)) ?_
     refine o_gS rfl rfl rfl rfl (decide_eq_false (by omega)) ?_
     refine o_gS rfl rfl rfl rfl (decide_eq_false (by omega)) ?_
     refine zf rfl rfl (decide_eq_false (by omega)) ?_
     refine zA ?_
     refine zL [(1,.lst .ro 1 (zN w)),(2,U.box 0 0),(4,U.box 1 0),(5,U.box 2 0),(7,.int .i64 ↑n),(8,U.box k8 0),(9,.int .i64 ↑(List.length q.keys)),(68,U.tup []),(69,U.tup []),(70,U.tup []),(71,U.tup []),(72,U.tup []),(73,U.tup []),(74,U.tup []),(75,U.tup []),(76,.bool false)] (Z) (.c4 rfl rfl rfl rfl (.c4 rfl rfl rfl rfl (.c4 rfl rfl rfl rfl (.c4 rfl rfl rfl rfl (.nil rfl))))) rfl fun fr=>?_
     refine k_cF rfl rfl ?_
     refine yU ?_
     exact⟨rfl,rfl,.c4 rfl rfl rfl rfl (.cons rfl (.cons rfl (.cons rfl (.nil rfl))))⟩
   ·obtain⟨hst4,hs4⟩:=hM
    refine zL _ _ hs4 hst4 fun fr4=>?_
    have hsu:(t.scales.take (n+1)).filterMap (cutS w)=Q++(cutS w q).toList:=by
     rw[List.take_add_one,hq,List.filterMap_append,←hQ]
     congr 1
    unfold cutS at hsu
    generalize hm:preK w q.keys=m at*
    by_cases hm0:0<m
    ·rw[if_pos hm0]at hsu
     have hel:(⟨q.keys.take m,q.steps.take (m - 1)⟩:Scl).u=U.agg [.lst .ro 1 ((zN q.keys).take m),.lst .ro 2 ((zO q.steps).take (m - 1))]:=by
      show U.agg [.lst .ro 1 (zN (q.keys.take m)),.lst .ro 2 (zO (q.steps.take (m - 1)))]=_
      unfold zN zO
      rw[List.map_take,List.map_take]
     cases Q with
     |nil=>
      subst hA
      refine kQ (zB rfl (zEp rfl rfl rfl (zA (k_cT rfl (decide_eq_true (by omega)) (we [.plain,.read true,.plain,.read true,.plain,.plain,.plain,.read true,.plain,.plain,.plain,.plain,.lay,.plain,.plain,.plain] (by kernel_rfl) (by kernel_rfl) (by kernel_rfl) ?_)))))
      refine zF (zE rfl rfl wZ (zA rfl)) ?_
      refine zc rfl (zG rfl rfl z2 sh23 rfl (zA rfl)) ?_
      refine zF (zE rfl rfl yu (zA rfl)) ?_
      refine zc rfl (zG rfl rfl z8 sh29 rfl (zA rfl)) ?_
      refine zF (zB rfl (zA rfl)) ?_
      refine zF (zFt (n:=m) rfl ty29 cl3 rfl rfl (.inl rfl) rfl (by simp;omega) (zA rfl)) ?_
      refine zF (zE rfl rfl zCS (zA rfl)) ?_
      refine zc rfl (zG rfl rfl z8 sh22 rfl (zA rfl)) ?_
      refine zF (zB rfl (zA rfl)) ?_
      refine zFU [(1,.lst .ro 1 (zN w)),(2,U.box 0 0),(4,U.box 1 0),(5,U.box 2 0),(7,.int .i64 ↑n),(82,.lst .full 0 []),(86,.lst .ro 1 (List.take m (zN q.keys))),(88,.lst .ro 2 (zO q.steps)),(89,.int .i64 ↑m)] [] (Z) (.c4 rfl rfl rfl rfl (.c4 rfl rfl rfl rfl (.cons rfl (.nil rfl)))) rfl rfl fun fr=>?_
      refine zF (zDb rfl rfl rfl (by unfold I64;omega) (zA rfl)) ?_
      refine zF (zFt (n:=m - 1) rfl ty22 cl26 rfl rfl (.inl rfl) (by show U.int .i64 ((m:Int) - 1)=U.int .i64 ((m - 1:Nat):Int);congr 1;omega) (by simp;omega) (zA rfl)) ?_
      refine zF (yW rfl ze61 pl61 rfl rfl (zA rfl)) ?_
      refine d_lay (es:=[U.agg [U.lst Kd.ro 1 (List.take m (zN (Scl.keys q))),U.lst Kd.ro 2 (List.take (m - 1) (zO (Scl.steps q)))]]) rfl ty23 ze61 cl61 rfl rfl rfl rfl rfl rfl rfl rfl ?_
      refine zF (zBR rfl ap23_23 rfl rfl (by simp) (by simp) (by simp[zh,zj,oneU]) (by simp) (zA rfl)) ?_
      refine zF (zE rfl rfl wZ (zA rfl)) ?_
      refine zF (yK rfl z2 sh23 rfl rfl (zA rfl)) ?_
      refine zAY ?_
      refine zL [(1,.lst .ro 1 (zN w)),(2,U.box 0 0),(4,U.box 1 0),(5,U.box 2 0),(7,.int .i64 ↑n)] (List.set Z 2 (SB.box [.lst .ro 2 (zO t.heard),U.lst Kd.own 2 [U.agg [.lst .ro 1 (List.take m (zN q.keys)),.lst .ro 2 (List.take (m - 1) (zO q.steps))]],P,.int .i64 t.lo,.int .i64 t.hi])) (.c4 rfl rfl rfl rfl (.cons rfl (.nil rfl))) rfl fun fr=>?_
      refine k_region (zB rfl ?_)
      refine yc rfl rfl rfl (by unfold I64;omega) (zC rfl (zA ?_))
      exact⟨kk - 1,by omega,n+1,_,by omega,(by show Z.set 2 _=_;rw[hZ,←hY];unfold cutS;rw[hsu];show _=[SB.box t.cs,.box V0,.box [.lst .ro 2 (zO t.heard),.lst .own 2 [Scl.u _],P,.int .i64 t.lo,.int .i64 t.hi]]++_;rw[hel];rfl),.c4 rfl rfl rfl rfl (.cons rfl (.nil rfl))⟩
     |cons y Q=>
      subst hA
      refine kQ (zB rfl (zEp rfl rfl rfl (zA (k_cT rfl (decide_eq_true (by omega)) (we [.plain,.read true,.plain,.read true,.plain,.plain,.plain,.read true,.plain,.plain,.plain,.plain,.lay,.plain,.plain,.plain] (by kernel_rfl) (by kernel_rfl) (by kernel_rfl) ?_)))))
      refine zF (zE rfl rfl wZ (zA rfl)) ?_
      refine zc rfl (zG rfl rfl z2 sh23 rfl (zA rfl)) ?_
      refine zF (zE rfl rfl yu (zA rfl)) ?_
      refine zc rfl (zG rfl rfl z8 sh29 rfl (zA rfl)) ?_
      refine zF (zB rfl (zA rfl)) ?_
      refine zF (zFt (n:=m) rfl ty29 cl3 rfl rfl (.inl rfl) rfl (by simp;omega) (zA rfl)) ?_
      refine zF (zE rfl rfl zCS (zA rfl)) ?_
      refine zc rfl (zG rfl rfl z8 sh22 rfl (zA rfl)) ?_
      refine zF (zB rfl (zA rfl)) ?_
      refine zFU [(1,.lst .ro 1 (zN w)),(2,U.box 0 0),(4,U.box 1 0),(5,U.box 2 0),(7,.int .i64 ↑n),(82,.lst .ro 2 (yg (y::Q))),(86,.lst .ro 1 (List.take m (zN q.keys))),(88,.lst .ro 2 (zO q.steps)),(89,.int .i64 ↑m)] [(82,.cell 2 1)] (Z) (.c4 rfl rfl rfl rfl (.c4 rfl rfl rfl rfl (.cons rfl (.nil rfl)))) rfl rfl fun fr=>?_
      refine zF (zDb rfl rfl rfl (by unfold I64;omega) (zA rfl)) ?_
      refine zF (zFt (n:=m - 1) rfl ty22 cl26 rfl rfl (.inl rfl) (by show U.int .i64 ((m:Int) - 1)=U.int .i64 ((m - 1:Nat):Int);congr 1;omega) (by simp;omega) (zA rfl)) ?_
      refine zF (yW rfl ze61 pl61 rfl rfl (zA rfl)) ?_
      refine d_lay (es:=[U.agg [U.lst Kd.ro 1 (List.take m (zN (Scl.keys q))),U.lst Kd.ro 2 (List.take (m - 1) (zO (Scl.steps q)))]]) rfl ty23 ze61 cl61 rfl rfl rfl rfl rfl rfl rfl rfl ?_
      refine zF (o_appendC (2) 1 rfl ap23_23 rfl z2 rfl rfl (by simp) (by simp) (by simp[zh,zj,oneU]) (by simp at hQl ⊢;omega) (zA rfl)) ?_
      refine zF (zE rfl rfl wZ (zA rfl)) ?_
      refine zF (yK rfl (at_put z2) sh23 rfl rfl (zA rfl)) ?_
      refine zAY ?_
      refine zL [(1,.lst .ro 1 (zN w)),(2,U.box 0 0),(4,U.box 1 0),(5,U.box 2 0),(7,.int .i64 ↑n)] (List.set (List.set Z 2 (SB.box [.lst .ro 2 (zO t.heard),.lst .ro 2 (yg (y::Q)),P,.int .i64 t.lo,.int .i64 t.hi])) 2 (SB.box [.lst .ro 2 (zO t.heard),U.lst Kd.own 2 (Scl.u y::List.append (List.map Scl.u Q) [U.agg [.lst .ro 1 (List.take m (zN q.keys)),.lst .ro 2 (List.take (m - 1) (zO q.steps))]]),P,.int .i64 t.lo,.int .i64 t.hi])) (.c4 rfl rfl rfl rfl (.cons rfl (.nil rfl))) rfl fun fr=>?_
      refine k_region (zB rfl ?_)
      refine yc rfl rfl rfl (by unfold I64;omega) (zC rfl (zA ?_))
      exact⟨kk - 1,by omega,n+1,_,by omega,(by show(Z.set 2 _).set 2 _=_;rw[hZ,←hY];unfold cutS;rw[hsu];show _=[SB.box t.cs,.box V0,.box [.lst .ro 2 (zO t.heard),accQ ((y::Q)++[_]),P,.int .i64 t.lo,.int .i64 t.hi]]++_;rw[accQ_snoc,hel];rfl),.c4 rfl rfl rfl rfl (.cons rfl (.nil rfl))⟩
    ·rw[if_neg hm0]at hsu
     rw[show(none:Option Scl).toList=[]from rfl,List.append_nil]at hsu
     refine kQ (zB rfl (zEp rfl rfl rfl (zA (k_cF rfl (decide_eq_false (by omega)) (zS (k_region (zB rfl ?_)))))))
     refine yc rfl rfl rfl (by unfold I64;omega) (zC rfl (zA ?_))
     exact⟨kk - 1,by omega,n+1,_,by omega,(by show Z=_;rw[hZ,←hY];unfold cutS;rw[hsu,hA,List.append_assoc]),.c4 rfl rfl rfl rfl (.cons rfl (.nil rfl))⟩
  ·have hnN:n=t.scales.length:=by omega
   subst hnN
   rw[List.take_length]at hQ
   have hone:[U.lst .ro 2 (zO t.heard),A,P,.int .i64 t.lo,.int .i64 t.hi].all oneU=true:=by
    rw[←hA,hP]
    cases Q<;>cases W<;>rfl
   have hdA:UW (.u (dg A)) (.u (.lst .ro 2 (yg Q))):=by
    rw[←hA]
    cases Q with
    |nil=>exact .nil .full .ro 2
    |cons x Q=>exact .refl _
   have hdP:UW (.u (dg P)) (.u (.lst .ro 2 (zO W))):=by
    rw[hP]
    cases W with
    |nil=>exact .nil .full .ro 2
    |cons x W=>exact .refl _
   have hT:cutT t w=⟨t.heard,Q,W,t.lo,t.hi⟩:=by rw[hQ,hW];rfl
   rw[hT]
   refine k_seq (kQ (zB rfl (zE rfl rfl wZ (zG rfl rfl y0 sh23 rfl ?_))))
   refine zl rfl ty23 rfl (List.length_map _) ?_
   refine zb rfl rfl rfl (zA (k_cF rfl (decide_eq_false (by omega)) (yU (kQ (zK rfl rfl y2 sh28 rfl ?_)))))
   refine zQ rfl y1 sh28 rfl rfl rfl rfl hone ?_
   refine zA (zd ?_)
   refine⟨.inr rfl,_,.cons _ _ _ _ (.cellN 4 28 _ _ _ _ rfl (at_put y1) sh28 rfl) .nil,?_⟩
   exact .agg _ _ (.lcons _ _ _ _ (.refl _) (.lcons _ _ _ _ hdA (.lcons _ _ _ _ hdP (.lrefl _))))
end
section
variable {is:FuncId→Bool}{orc:Known}
noncomputable def b14:Code:=(Try.f14.body).getD .skip
theorem body14:bodyOf Try.prog 14=some (108,b14,[.tmp 4]):=by kernel_rfl
theorem pure14:pureFn Try.prog 14=true:=by kernel_rfl
variable {t X:Ts}{J:List Jn}{v x y a b c d k:Int}{st Y Z:List SB}{l w:List Int}{p:Int→Int}
theorem off_iff{v:Int}:offB w v=true↔v ∉ w:=by unfold offB;rw[decide_eq_true_eq,whr_neg]
theorem zEq{v:Int}(hv:0≤v):metB w v.toNat=false↔v ∉ w:=by
 unfold metB
 rw[decide_eq_false_iff_not,show((v.toNat:Nat):Int)=v by omega]
theorem zDF{q q':Scl}(h:cutS w q=some q'):0<preK w q.keys∧q'=⟨q.keys.take (preK w q.keys),q.steps.take (preK w q.keys - 1)⟩:=by
 unfold cutS at h
 split at h
 ·rename_i h1;exact⟨h1,(Option.some.inj h).symm⟩
 ·cases h
theorem cut_len{q q':Scl}(h1:q.steps.length+1=q.keys.length)(h:cutS w q=some q'):q'.steps.length=preK w q.keys - 1∧q'.keys.length=preK w q.keys:=by
 obtain⟨h2,rfl⟩:=zDF h
 have:=zEl w q.keys
 constructor
 ·show(q.steps.take (preK w q.keys - 1)).length=_
  rw[List.length_take];omega
 ·show(q.keys.take (preK w q.keys)).length=_
  rw[List.length_take];omega
theorem cut_at{q q':Scl}(h1:q.steps.length+1=q.keys.length)(h:cutS w q=some q'){i:Nat}(hi:i<q'.steps.length):i<q.steps.length∧q'.keys[i]? =q.keys[i]? ∧q'.keys[i+1]? =q.keys[i+1]? ∧q'.steps[i]? =q.steps[i]? :=by
 obtain⟨h3,h4⟩:=cut_len h1 h
 obtain⟨h2,rfl⟩:=zDF h
 have:=zEl w q.keys
 refine⟨by omega,?_,?_,?_⟩
 ·show(q.keys.take (preK w q.keys))[i]? =_
  rw[List.getElem?_take_of_lt (by omega)]
 ·show(q.keys.take (preK w q.keys))[i+1]? =_
  rw[List.getElem?_take_of_lt (by omega)]
 ·show(q.steps.take (preK w q.keys - 1))[i]? =_
  rw[List.getElem?_take_of_lt (by omega)]
theorem cut_scl{q q':Scl}(h1:q.steps.length+1=q.keys.length)(h:cutS w q=some q'):List.Sublist (sclJ q' q'.steps.length) (sclJ q q.steps.length):=by
 have e:sclJ q' q'.steps.length=sclJ q q'.steps.length:=by
  unfold sclJ
  refine List.map_congr_left fun i hi=>?_
  obtain⟨_,e1,e2,e3⟩:=cut_at h1 h (List.mem_range.1 hi)
  rw[e1,e2,e3]
 rw[e]
 unfold sclJ
 refine List.Sublist.map _ (List.range_sublist.2 ?_)
 have:=(cut_len h1 h).1
 have:=zEl w q.keys
 omega
theorem cut_scales:∀(l:List Scl),(∀q∈l,q.steps.length+1=q.keys.length)→List.Sublist (wt (l.filterMap (cutS w))) (wt l):=by
 intro l
 induction l with
 |nil=>intro _;exact List.Sublist.refl _
 |cons q l ih=>
  intro h
  have ih:=ih fun r hr=>h r (List.mem_cons_of_mem _ hr)
  have e:wt (q::l)=sclJ q q.steps.length++wt l:=rfl
  rw[e]
  cases hc:cutS w q with
  |none=>
   rw[List.filterMap_cons_none hc]
   exact ih.trans (List.sublist_append_right _ _)
  |some q'=>
   rw[List.filterMap_cons_some hc]
   show List.Sublist (sclJ q' q'.steps.length++wt (l.filterMap (cutS w))) _
   exact List.Sublist.append (cut_scl (h q List.mem_cons_self) hc) ih
theorem cut_joins(h:TOk t)(w:List Int):List.Sublist (yB (cutT t w)) (yB t):=by
 unfold yB
 refine List.Sublist.append (cut_scales _ fun q hq=>(h.sh.sc q hq).1) ?_
 show List.Sublist ((t.pairs.filter (cutQ w)).map (pairJ t)) _
 exact List.Sublist.map _ List.filter_sublist
theorem cut_ok(h:TOk t)(w:List Int):TOk (cutT t w):=by
 have hsc:∀q'∈(cutT t w).scales,∃q∈t.scales,cutS w q=some q':=fun q' hq'=>List.mem_filterMap.1 hq'
 refine⟨h.n1,h.n8,h.hd,⟨?_,?_,fun q' hq'=>?_⟩,fun q' hq'=>?_,fun q' hq'=>?_,fun q hq=>h.pr q (List.mem_filter.1 hq).1,h.bt,h.ac.sub (List.Sublist.map _ (cut_joins h w))⟩
 ·exact Nat.le_trans (List.length_filterMap_le _ _) h.sh.ns
 ·exact Nat.le_trans (List.length_filter_le _ _) h.sh.np
 ·obtain⟨q,hq,hc⟩:=hsc q' hq'
  obtain⟨h1,h2⟩:=h.sh.sc q hq
  obtain⟨h3,h4⟩:=cut_len h1 hc
  have:=zEl w q.keys
  have:=(zDF hc).1
  omega
 ·obtain⟨q,hq,hc⟩:=hsc q' hq'
  obtain⟨_,rfl⟩:=zDF hc
  obtain⟨h1,h2⟩:=h.sk q hq
  exact⟨h1.sublist (List.take_sublist _ _),fun x hx=>h2 x (List.mem_of_mem_take hx)⟩
 ·obtain⟨q,hq,hc⟩:=hsc q' hq'
  obtain⟨_,rfl⟩:=zDF hc
  exact fun s hs=>h.ss q hq s (List.mem_of_mem_take hs)
theorem cut_keep(h:TOk t){j:Jn}(hj:j∈yB (cutT t w)):j∈outJ (yB t) (metB w):=by
 have hj1:=(cut_joins h w).subset hj
 obtain⟨r1,r2⟩:=h.sok.jr j hj1
 refine zEI.2 ⟨hj1,?_⟩
 unfold zGq
 have key:j.one ∉ w∧j.two ∉ w:=by
  rcases List.mem_append.1 hj with hj|hj
  ·obtain⟨q',hq',hjq⟩:=List.mem_flatMap.1 hj
   obtain⟨q,hq,hc⟩:=List.mem_filterMap.1 hq'
   obtain⟨i,hi,rfl⟩:=List.mem_map.1 hjq
   have hi:=List.mem_range.1 hi
   have h1:=(h.sh.sc q hq).1
   obtain⟨h3,h4⟩:=cut_len h1 hc
   obtain⟨h5,e1,e2,_⟩:=cut_at h1 hc hi
   have hk:=zEl w q.keys
   have g1:q.keys[i]? =some (q.keys[i]'(by omega)):=List.getElem?_eq_getElem (by omega)
   have g2:q.keys[i+1]? =some (q.keys[i+1]'(by omega)):=List.getElem?_eq_getElem (by omega)
   have o1:=off_iff.1 (preK_off w q.keys i _ (by omega) g1)
   have o2:=off_iff.1 (preK_off w q.keys (i+1) _ (by omega) g2)
   show((q'.keys[i]?).getD 0) ∉ w∧((q'.keys[i+1]?).getD 0) ∉ w
   rw[e1,e2,g1,g2]
   exact⟨o1,o2⟩
  ·obtain⟨q,hq,rfl⟩:=List.mem_map.1 hj
   have:=(List.mem_filter.1 hq).2
   unfold cutQ at this
   rw[Bool.and_eq_true]at this
   exact⟨off_iff.1 this.1,off_iff.1 this.2⟩
 rw[(zEq r1.1).2 key.1,(zEq r2.1).2 key.2];rfl
theorem cut_tun(h:TOk t)(ho:outB t (yB t) w=true):TunE (cutT t w) (yB (cutT t w)):=by
 obtain⟨p,h1,h2⟩:=(zBX (h.sok.out (metB w))).1 ho
 exact⟨p,h1,fun j hj=>h2 j (cut_keep h hj)⟩
theorem inc_len:∀(M:List Int) (a n:Int),Inc a M n→a≤n→(M.length:Int)≤n - a:=by
 intro M
 induction M with
 |nil=>intro a n _ h;simp;omega
 |cons x M ih=>
  intro a n ⟨h1,h2,h3⟩ h
  have:=ih (x+1) n h3 (by omega)
  rw[List.length_cons];omega
theorem zDy(h:SOk t J):Inc 0 (wroL t J) t.heard.length∧outB t J (wroL t J)=true∧∀M,Inc 0 M t.heard.length→M.length<(wroL t J).length→outB t J M=false:=by
 obtain⟨K,hK⟩:=wroO_ex h
 have hw:wroL t J=K:=by unfold wroL;rw[hK];rfl
 rw[hw]
 obtain⟨l1,m,l2,e1,e2,e3⟩:=List.findSome?_eq_some_iff.1 hK
 obtain⟨M,f1,f2,f3,f4⟩:=zGo _ _ e2
 rw[List.nil_append]at f1
 subst f1
 refine⟨f3,f4,fun M hM hl=>?_⟩
 have hm:l1.length=m:=by
  have h1:(List.range t.heard.length)[l1.length]? =some m:=by rw[e1,List.getElem?_append_right (Nat.le_refl _),Nat.sub_self];rfl
  have h2:=(List.getElem?_eq_some_iff.1 h1)
  obtain⟨h3,h4⟩:=h2
  rw[List.getElem_range]at h4
  exact h4
 have hin:M.length∈l1:=by
  have h1:(List.range t.heard.length)[M.length]? =l1[M.length]? :=by rw[e1,List.getElem?_append_left (by omega)]
  have hlt:M.length<t.heard.length:=by
   have h2:(List.range t.heard.length).length=(l1++m::l2).length:=by rw[e1]
   rw[List.length_range,List.length_append,List.length_cons]at h2
   omega
  rw[List.getElem?_range hlt]at h1
  exact List.mem_of_getElem? h1.symm
 have:=zGp _ _ (e3 _ hin) M rfl hM
 rwa [List.nil_append]at this
def insK(k:Int):List Int→List Int
 |[]=>[k]
 |x::M=>if k<x then k::x::M else if k=x then x::M else x::insK k M
theorem insK_spec(k n:Int):∀(M:List Int) (a:Int),Inc a M n→a≤k→k<n→Inc a (insK k M) n∧(insK k M).length≤M.length+1∧∀x,x∈insK k M↔x=k∨x∈M:=by
 intro M
 induction M with
 |nil=>intro a _ h1 h2;exact⟨⟨h1,h2,trivial⟩,Nat.le_refl _,fun x=>by simp[insK]⟩
 |cons y M ih=>
  intro a ⟨g1,g2,g3⟩ h1 h2
  unfold insK
  by_cases c1:k<y
  ·rw[if_pos c1]
   exact⟨⟨h1,h2,by omega,g2,g3⟩,Nat.le_refl _,fun x=>by simp⟩
  ·rw[if_neg c1]
   by_cases c2:k=y
   ·subst c2
    rw[if_pos rfl]
    exact⟨⟨g1,g2,g3⟩,Nat.le_succ _,fun x=>by simp⟩
   ·rw[if_neg c2]
    obtain⟨i1,i2,i3⟩:=ih (y+1) g3 (by omega) h2
    refine⟨⟨g1,g2,i1⟩,by simp only[List.length_cons];omega,fun x=>?_⟩
    rw[List.mem_cons,i3,List.mem_cons]
    constructor
    ·rintro(h|h|h)<;>simp[h]
    ·rintro(h|h|h)<;>simp[h]
theorem wro_more(h:TOk t)(hk:Key t k)(hx:1≤x∧x≤4000):(wroL (putS t k ⟨x,x⟩) (yB t)).length≤(wroL t (yB t)).length+1:=by
 have hX:TOk (putS t k ⟨x,x⟩):=put_ok h (show 1≤x∧x≤x∧x≤4000∧x - x≤40 by omega)
 have hXs:SOk (putS t k ⟨x,x⟩) (yB t):=hX.sok
 have hXl:(putS t k ⟨x,x⟩).heard.length=t.heard.length:=by unfold putS;simp
 obtain⟨a1,a2,_⟩:=zDy h.sok
 obtain⟨b1,b2,b3⟩:=zDy hXs
 generalize wroL t (yB t)=w at*
 obtain⟨i1,i2,i3⟩:=insK_spec k t.heard.length w 0 a1 hk.1 hk.2
 by_cases hc:(wroL (putS t k ⟨x,x⟩) (yB t)).length≤w.length+1
 ·exact hc
 ·have hf:=b3 (insK k w) (by rw[hXl];exact i1) (by omega)
  obtain⟨p,h1,h2⟩:=(zBX (h.sok.out (metB w))).1 a2
  have ht:outB (putS t k ⟨x,x⟩) (yB t) (insK k w)=true:=by
   refine(zBX (hXs.out (metB (insK k w)))).2 ⟨fun v=>if v=k then x else p v,fun v g1 g2=>?_,fun j hj=>?_⟩
   ·rw[hXl]at g2
    rw[put_lo hk _ v g1,put_hi hk _ v g1]
    by_cases e:v=k
    ·rw[if_pos e,if_pos e]
     show x≤(if v=k then x else p v)∧(if v=k then x else p v)≤x
     rw[if_pos e];exact⟨Int.le_refl _,Int.le_refl _⟩
    ·rw[if_neg e,if_neg e]
     show hloT t v≤(if v=k then x else p v)∧(if v=k then x else p v)≤hhiT t v
     rw[if_neg e];exact h1 v g1 g2
   ·obtain⟨hj1,hj2⟩:=zEI.1 hj
    obtain⟨r1,r2⟩:=h.sok.jr j hj1
    unfold zGq at hj2
    simp only[Bool.not_eq_true',Bool.or_eq_false_iff]at hj2
    have n1:=(zEq r1.1).1 hj2.1
    have n2:=(zEq r2.1).1 hj2.2
    rw[i3,not_or]at n1 n2
    have hj0:j∈outJ (yB t) (metB w):=zEI.2 ⟨hj1,by unfold zGq;rw[(zEq r1.1).2 n1.2,(zEq r2.1).2 n2.2];rfl⟩
    have:=h2 j hj0
    simp only[if_neg n1.1,if_neg n2.1]
    exact this
  rw[hf]at ht
  cases ht
def bareT(t:Ts):Ts:={t with scales:=[],pairs:=[]}
theorem bare_ok(h:TOk t):TOk (bareT t):=⟨h.n1,h.n8,h.hd,⟨Nat.zero_le _,Nat.zero_le _,fun q hq=>(by cases hq)⟩,fun q hq=>(by cases hq),fun q hq=>(by cases hq),fun q hq=>(by cases hq),h.bt,.nil⟩
theorem bare_tun(h:TOk t):TunE (bareT t) (yB (bareT t)):=⟨hloT t,fun v h1 h2=>(by
 obtain⟨q,_,e1,e2,hq⟩:=h.sok.key ⟨h1,h2⟩
 show hloT t v≤hloT t v∧hloT t v≤hhiT t v
 omega),fun j hj=>(by cases hj)⟩
theorem wro_nil(h:SOk t J):wroL t J=[]↔tunB t J=true:=by
 constructor
 ·intro e
  have h1:=(zDy h).2.1
  rw[e]at h1
  unfold outB at h1
  have hJ:outJ J (metB [])=J:=by
   unfold outJ
   rw[List.filter_eq_self]
   intro j _
   unfold zGq metB
   simp
  rwa [hJ]at h1
 ·intro e
  exact wro_none h ((zBX h).1 e)
set_option maxHeartbeats 16000000 in
theorem ret14(hi:Off is)(t:Ts)(n:Int)(r21:RetP Try.prog is orc 21 [] (.bool true)):RetP Try.prog is orc 14 [t.u,.int .i64 n] (.bool true):=by
 have q32:=ret32 (orc:=orc) hi t
 have q35:=ret35 (orc:=orc) hi t
 refine yQ body14 pure14 (hi 14 (by decide)) rfl rfl (wM (zBV t 4) (.int _ _ _)) (.inl (.bool _ _)) ?_
 cases hv:wN t with
 |false=>
  have e:zDd t=[]:=by unfold zDd;rw[hv];rfl
  rw[e,hv,if_neg (by decide)]at q32
  rw[hv]at q35
  refine kQ (yO rfl rfl (zC rfl (zA ?_)))
  refine zL [(1,.int .i64 n),(2,U.box 0 0)] ([SB.box t.cs]) (.cons rfl (.cons rfl (.nil rfl))) rfl fun fr=>?_
  refine kQ (zK rfl rfl rfl sh28 rfl (zT rfl (q32) (.lrefl _) (zB rfl (zZ rfl rfl rfl (zZ rfl rfl rfl (zC rfl (zC rfl (zA ?_))))))))
  refine k_seq (kQ (zK rfl rfl rfl sh28 rfl (zT rfl (q35) (.lrefl _) (zAX rfl rfl (zA (k_cT rfl rfl ?_))))))
  refine kQ (zB rfl (zAQ rfl rfl rfl (zB rfl (o_gD rfl rfl rfl rfl rfl (zB rfl (o_gD rfl rfl rfl rfl rfl (zl rfl ty29 rfl (List.length_map _) ?_)))))))
  refine o_gD rfl rfl rfl rfl rfl (zAQ rfl rfl rfl (zV rfl rfl rfl ?_))
  refine zB rfl (o_gD rfl rfl rfl rfl rfl (zT rfl (r21) (.lrefl _) (zV rfl rfl rfl ?_)))
  refine zC rfl (zA (zd ?_))
  refine⟨.inr rfl,_,.cons _ _ _ _ (.tmp 4) .nil,?_⟩
  exact .refl _
 |true=>
  have hok:=(zAM t).1 hv
  have hn1:=hok.n1
  have hn8:=hok.n8
  rw[hv]at q35
  rw[hv,if_pos rfl]at q32
  have q19:=ret19 (orc:=orc) hi t
  rw[tun_err hv]at q19
  have hwl:zDd t=wroL t (yB t):=by unfold zDd;rw[if_pos hv]
  rw[hwl]at q32
  obtain⟨a1,a2,_⟩:=zDy hok.sok
  have hnil:=wro_nil hok.sok
  have q38:=ret38 (orc:=orc) hi n t.heard.length (by omega)
  have hk:Key t (zHO n t.heard.length):=turnI_b (by omega)
  generalize zHO n t.heard.length=k at q38 hk
  have hmore:=wro_more hok hk (x:=4000) (by omega)
  have q43:=ret43 (orc:=orc) (x:=4000) hi hn1 hn8 hk
  have hX:TOk (putS t k ⟨4000,4000⟩):=put_ok hok (show(1:Int)≤4000∧(4000:Int)≤4000∧(4000:Int)≤4000∧(4000:Int) - 4000≤40 by omega)
  have hvX:=(zAM _).2 hX
  have p32:=ret32 (orc:=orc) hi (putS t k ⟨4000,4000⟩)
  have hwX:zDd (putS t k ⟨4000,4000⟩)=wroL (putS t k ⟨4000,4000⟩) (yB t):=by unfold zDd;rw[if_pos hvX];rfl
  rw[hvX,if_pos rfl,hwX]at p32
  obtain⟨b1,_,_⟩:=zDy (t:=putS t k ⟨4000,4000⟩) (J:=yB t) hX.sok
  have hXl:(putS t k ⟨4000,4000⟩).heard.length=t.heard.length:=by unfold putS;simp
  rw[hXl]at b1
  have hmb:=inc_len _ _ _ b1 (by omega)
  have hB:=bare_ok hok
  have hvB:=(zAM _).2 hB
  have r32:=ret32 (orc:=orc) hi (bareT t)
  have hwB:zDd (bareT t)=[]:=by unfold zDd;rw[if_pos hvB];exact wro_none hB.sok (bare_tun hok)
  rw[hvB,if_pos rfl,hwB]at r32
  have hC:=cut_ok hok (wroL t (yB t))
  have hvC:=(zAM _).2 hC
  have heC:errT (cutT t (wroL t (yB t)))=0:=(errT_0 _).2 ((zBX hC.sok).2 (cut_tun hok a2))
  have p19:=ret19 (orc:=orc) hi (cutT t (wroL t (yB t)))
  rw[tun_err hvC,heC]at p19
  have hwb:=inc_len _ _ _ a1 (by omega)
  have hg:=grw_inc _ _ _ a1
  have q47:=ret47 (orc:=orc) hi (wroL t (yB t)) t.heard.length (by omega)
  rw[show grwF t.heard.length (-1) (wroL t (yB t))=true from hg]at q47
  have q48:=ret48 (orc:=orc) (w:=wroL t (yB t)) hi hok (by omega)
  generalize wroL (putS t k ⟨4000,4000⟩) (yB t)=w2 at*
  generalize wroL t (yB t)=w at*
  have hlen:(w.length:Int)=0↔tunB t (yB t)=true:=by
   rw[←hnil]
   cases w with
   |nil=>simp
   |cons x w=>simp;omega
  rcases errT_01 t with he|he
  ·have h0:=hlen.2 ((errT_0 t).1 he)
   rw[he]at q19
   have hkn:decide (decide ((w.length:Int)=0)≠decide ((0:Int)=0))=false:=by rw[decide_eq_true h0];rfl
   refine kQ (yO rfl rfl (zC rfl (zA ?_)))
   refine zL [(1,.int .i64 n),(2,U.box 0 0)] ([SB.box t.cs]) (.cons rfl (.cons rfl (.nil rfl))) rfl fun fr=>?_
   refine kQ (zK rfl rfl rfl sh28 rfl (zT rfl (q32) (.lrefl _) (zB rfl (zZ rfl rfl rfl (zZ rfl rfl rfl (zC rfl (zC rfl (zA ?_))))))))
   refine k_seq (kQ (zK rfl rfl rfl sh28 rfl (zT rfl (q35) (.lrefl _) (zAX rfl rfl (zA (k_cF rfl rfl ?_))))))
   refine zS (kQ (zK rfl rfl rfl sh28 rfl (zT rfl (q19) (.lrefl _) (zB rfl (zZ rfl rfl rfl (zZ rfl rfl rfl (zC rfl (zC rfl ?_))))))))
   refine zA ?_
   refine zL [(1,.int .i64 n),(2,U.box 0 0),(5,.lst .ro 1 (zN w)),(6,.int .i64 0),(8,.int .i64 0)] ([SB.box t.cs]) (.c4 rfl rfl rfl rfl (.cons rfl (.nil rfl))) rfl fun fr=>?_
   refine k_seq (kQ (zB rfl (zEo rfl rfl rfl (zB rfl (o_gD rfl rfl rfl rfl rfl (zB rfl (o_gD rfl rfl rfl rfl rfl (zE rfl rfl yJ ?_))))))))
   refine o_gD rfl rfl rfl rfl rfl (zG rfl rfl rfl sh22 rfl (o_gD rfl rfl rfl rfl rfl (zl rfl ty22 rfl (List.length_map _) ?_)))
   refine o_gD rfl rfl rfl rfl rfl (zT rfl (q47) (.lrefl _) (o_gD rfl rfl rfl rfl rfl (zAX rfl rfl ?_)))
   refine zq [(1,.int .i64 n),(2,U.box 0 0),(5,.lst .ro 1 (zN w)),(8,.int .i64 0),(41,U.bool (decide ((0:Int)≠(0:Int)))),(47,U.bool !Bool.true)] [] ([SB.box t.cs]) (.c4 rfl rfl rfl rfl (.cons rfl (.cons rfl (.nil rfl)))) rfl rfl fun fr=>?_
   refine zf rfl rfl rfl ?_
   refine zB rfl (o_gD rfl rfl rfl rfl rfl (zB rfl (o_gD rfl rfl rfl rfl rfl (zl rfl ty29 rfl (List.length_map _) ?_))))
   refine o_gD rfl rfl rfl rfl rfl (zAQ rfl rfl rfl (o_gD rfl rfl rfl rfl rfl (zB rfl (o_gD rfl rfl rfl rfl rfl (zAQ rfl rfl rfl (o_gD rfl rfl rfl rfl rfl (o_neqB rfl ty4 rfl rfl ?_)))))))
   refine zf rfl rfl rfl ?_
   refine zA ?_
   refine zL [(1,.int .i64 n),(2,U.box 0 0),(5,.lst .ro 1 (zN w)),(56,U.bool (decide (decide (↑(List.length w)=(0:Int))≠decide ((0:Int)=(0:Int)))))] ([SB.box t.cs]) (.c4 rfl rfl rfl rfl (.nil rfl)) rfl fun fr=>?_
   refine k_cF rfl (by assumption) (zS (kQ (zK rfl rfl rfl sh28 rfl (zB rfl (zT rfl (q48) (.lrefl _) (zT rfl (p19) (.lrefl _) (zB rfl (zZ rfl rfl rfl ?_))))))))
   refine zZ rfl rfl rfl (zC rfl (zC rfl (zA (k_seq (kQ (zB rfl (zEo rfl rfl rfl (zA ?_))))))))
   refine k_cF rfl rfl ?_
   refine zS (kQ (zK rfl rfl rfl sh28 rfl (zY rfl ze28 ?_)))
   refine zQ rfl rfl sh28 rfl rfl rfl rfl rfl ?_
   refine zA ?_
   refine zL [(1,.int .i64 n),(2,U.box 0 0),(5,.lst .ro 1 (zN w)),(11,U.box 1 0)] ([SB.box t.cs,SB.box t.cs]) (.c4 rfl rfl rfl rfl (.nil rfl)) rfl fun fr=>?_
   refine kQ (zE rfl rfl wZ (yK rfl rfl sh23 rfl rfl (zE rfl rfl yY (yK rfl rfl sh24 rfl rfl (zA ?_)))))
   refine zL [(1,.int .i64 n),(2,U.box 0 0),(5,.lst .ro 1 (zN w)),(11,U.box 1 0)] ([SB.box t.cs,SB.box [.lst .ro 2 (zO t.heard),.lst .full 0 [],.lst .full 0 [],.int .i64 t.lo,.int .i64 t.hi]]) (.c4 rfl rfl rfl rfl (.nil rfl)) rfl fun fr=>?_
   refine kQ (zK rfl rfl rfl sh28 rfl (zT rfl (r32) (.lcons _ _ _ _ (.agg _ _ (.lcons _ _ _ _ (.refl _) (.lcons _ _ _ _ (.nil .full .ro 2) (.lcons _ _ _ _ (.nil .full .ro 2) (.lrefl _))))) (.lrefl _)) ?_))
   refine zB rfl (zZ rfl rfl rfl (zZ rfl rfl rfl (zC rfl (zC rfl (zA (k_seq (we [.read true,.plain,.plain,.read true,.read true,.read false,.plain,.plain] (by kernel_rfl) (by kernel_rfl) (by kernel_rfl) ?_)))))))
   refine zc rfl (zK rfl rfl rfl sh28 rfl (zA rfl)) ?_
   refine zF (zB rfl (zA rfl)) (zF (zE rfl rfl yJ (zA rfl)) ?_)
   refine zc rfl (zG rfl rfl rfl sh22 rfl (zA rfl)) (zc rfl (zl rfl ty22 rfl (List.length_map _) (zA rfl)) ?_)
   refine zCV rfl (q38) (.int _ _) (.lrefl _) ?_
   refine zF (zT rfl (q43) (.lrefl _) (zA rfl)) ?_
   refine zF (zQ rfl rfl sh28 rfl rfl rfl rfl rfl (zA rfl)) ?_
   refine zAY ?_
   refine zL [(5,.lst .ro 1 (zN w)),(11,U.box 1 0),(12,.lst .ro 1 (zN [])),(13,.int .i64 0)] ([SB.box t.cs,SB.box [.lst .ro 2 (zO (Ts.heard (putS t k {a:=(4000:Int),b:=(4000:Int)}))),.lst .ro 2 (yg (Ts.scales (putS t k {a:=(4000:Int),b:=(4000:Int)}))),.lst .ro 2 (zO (Ts.pairs (putS t k {a:=(4000:Int),b:=(4000:Int)}))),.int .i64 (Ts.lo (putS t k {a:=(4000:Int),b:=(4000:Int)})),.int .i64 (Ts.hi (putS t k {a:=(4000:Int),b:=(4000:Int)}))]]) (.c4 rfl rfl rfl rfl (.nil rfl)) rfl fun fr=>?_
   refine kQ (zK rfl rfl rfl sh28 rfl (zT rfl (p32) (.lrefl _) (zB rfl (zZ rfl rfl rfl (zZ rfl rfl rfl (zC rfl (zC rfl (zA ?_))))))))
   refine kQ (zB rfl (zAQ rfl rfl rfl (zB rfl (o_gD rfl rfl rfl rfl rfl (zB rfl (o_gD rfl rfl rfl rfl rfl (zl rfl ty29 rfl (List.length_map _) ?_)))))))
   refine o_gD rfl rfl rfl rfl rfl (zAQ rfl rfl rfl (zV rfl rfl rfl ?_))
   refine zB rfl (o_gD rfl rfl rfl rfl rfl (zB rfl ?_))
   refine zq [(5,.lst .ro 1 (zN w)),(14,.lst .ro 1 (zN w2)),(93,U.bool (decide (↑(List.length [])=(0:Int)))),(94,.int .i64 0)] [] ([SB.box t.cs,SB.box [.lst .ro 2 (zO (Ts.heard (putS t k {a:=(4000:Int),b:=(4000:Int)}))),.lst .ro 2 (yg (Ts.scales (putS t k {a:=(4000:Int),b:=(4000:Int)}))),.lst .ro 2 (zO (Ts.pairs (putS t k {a:=(4000:Int),b:=(4000:Int)}))),.int .i64 (Ts.lo (putS t k {a:=(4000:Int),b:=(4000:Int)})),.int .i64 (Ts.hi (putS t k {a:=(4000:Int),b:=(4000:Int)}))]]) (.c4 rfl rfl rfl rfl (.nil rfl)) rfl rfl fun fr=>?_
   refine o_gD rfl rfl rfl rfl rfl ?_
   refine zq [(5,.lst .ro 1 (zN w)),(14,.lst .ro 1 (zN w2)),(93,U.bool (decide (↑(List.length [])=(0:Int)))),(94,.int .i64 0)] [] ([SB.box t.cs,SB.box [.lst .ro 2 (zO (Ts.heard (putS t k {a:=(4000:Int),b:=(4000:Int)}))),.lst .ro 2 (yg (Ts.scales (putS t k {a:=(4000:Int),b:=(4000:Int)}))),.lst .ro 2 (zO (Ts.pairs (putS t k {a:=(4000:Int),b:=(4000:Int)}))),.int .i64 (Ts.lo (putS t k {a:=(4000:Int),b:=(4000:Int)})),.int .i64 (Ts.hi (putS t k {a:=(4000:Int),b:=(4000:Int)}))]]) (.c4 rfl rfl rfl rfl (.nil rfl)) rfl rfl fun fr=>?_
   refine zAQ rfl rfl rfl (zV rfl rfl rfl ?_)
   refine zB rfl (o_gD rfl rfl rfl rfl rfl (zB rfl (o_gD rfl rfl rfl rfl rfl (zl rfl ty29 rfl (List.length_map _) ?_))))
   refine o_gD rfl rfl rfl rfl rfl (zB rfl (o_gD rfl rfl rfl rfl rfl (zl rfl ty29 rfl (List.length_map _) ?_)))
   refine o_gD rfl rfl rfl rfl rfl ?_
   refine yc rfl rfl rfl (by unfold I64;omega) (o_gD rfl rfl rfl rfl rfl (zAP rfl rfl rfl ?_))
   refine zq [(97,U.bool (decide ((0:Int)=(0:Int)))),(103,U.bool (decide (↑(List.length w2)≤ ↑(List.length w)+(1:Int))))] [] ([SB.box t.cs,SB.box [.lst .ro 2 (zO (Ts.heard (putS t k {a:=(4000:Int),b:=(4000:Int)}))),.lst .ro 2 (yg (Ts.scales (putS t k {a:=(4000:Int),b:=(4000:Int)}))),.lst .ro 2 (zO (Ts.pairs (putS t k {a:=(4000:Int),b:=(4000:Int)}))),.int .i64 (Ts.lo (putS t k {a:=(4000:Int),b:=(4000:Int)})),.int .i64 (Ts.hi (putS t k {a:=(4000:Int),b:=(4000:Int)}))]]) (.cons rfl (.cons rfl (.nil rfl))) rfl rfl fun fr=>?_
   refine zV rfl rfl rfl ?_
   refine zB rfl (o_gD rfl rfl rfl rfl (decide_eq_true (by omega)) ?_)
   refine zT rfl (r21) (.lrefl _) (zV rfl rfl (decide_eq_true (by omega)) ?_)
   refine zC rfl (zA (zd ?_))
   refine⟨.inr rfl,_,.cons _ _ _ _ (.tmp 4) .nil,?_⟩
   exact .refl _
  ·have h0: ¬ (w.length:Int)=0:=fun h=>by
    have:=(errT_0 t).2 (hlen.1 h)
    omega
   rw[he]at q19
   have hkn:decide (decide ((w.length:Int)=0)≠decide ((12:Int)=0))=false:=by rw[decide_eq_false h0];rfl
   refine kQ (yO rfl rfl (zC rfl (zA ?_)))
   refine zL [(1,.int .i64 n),(2,U.box 0 0)] ([SB.box t.cs]) (.cons rfl (.cons rfl (.nil rfl))) rfl fun fr=>?_
   refine kQ (zK rfl rfl rfl sh28 rfl (zT rfl (q32) (.lrefl _) (zB rfl (zZ rfl rfl rfl (zZ rfl rfl rfl (zC rfl (zC rfl (zA ?_))))))))
   refine k_seq (kQ (zK rfl rfl rfl sh28 rfl (zT rfl (q35) (.lrefl _) (zAX rfl rfl (zA (k_cF rfl rfl ?_))))))
   refine zS (kQ (zK rfl rfl rfl sh28 rfl (zT rfl (q19) (.lrefl _) (zB rfl (zZ rfl rfl rfl (zZ rfl rfl rfl (zC rfl (zC rfl ?_))))))))
   refine zA ?_
   refine zL [(1,.int .i64 n),(2,U.box 0 0),(5,.lst .ro 1 (zN w)),(6,.int .i64 0),(8,.int .i64 12)] ([SB.box t.cs]) (.c4 rfl rfl rfl rfl (.cons rfl (.nil rfl))) rfl fun fr=>?_
   refine k_seq (kQ (zB rfl (zEo rfl rfl rfl (zB rfl (o_gD rfl rfl rfl rfl rfl (zB rfl (o_gD rfl rfl rfl rfl rfl (zE rfl rfl yJ ?_))))))))
   refine o_gD rfl rfl rfl rfl rfl (zG rfl rfl rfl sh22 rfl (o_gD rfl rfl rfl rfl rfl (zl rfl ty22 rfl (List.length_map _) ?_)))
   refine o_gD rfl rfl rfl rfl rfl (zT rfl (q47) (.lrefl _) (o_gD rfl rfl rfl rfl rfl (zAX rfl rfl ?_)))
   refine zq [(1,.int .i64 n),(2,U.box 0 0),(5,.lst .ro 1 (zN w)),(8,.int .i64 12),(41,U.bool (decide ((0:Int)≠(0:Int)))),(47,U.bool !Bool.true)] [] ([SB.box t.cs]) (.c4 rfl rfl rfl rfl (.cons rfl (.cons rfl (.nil rfl)))) rfl rfl fun fr=>?_
   refine zf rfl rfl rfl ?_
   refine zB rfl (o_gD rfl rfl rfl rfl rfl (zB rfl (o_gD rfl rfl rfl rfl rfl (zl rfl ty29 rfl (List.length_map _) ?_))))
   refine o_gD rfl rfl rfl rfl rfl (zAQ rfl rfl rfl (o_gD rfl rfl rfl rfl rfl (zB rfl (o_gD rfl rfl rfl rfl rfl (zAQ rfl rfl rfl (o_gD rfl rfl rfl rfl rfl (o_neqB rfl ty4 rfl rfl ?_)))))))
   refine zf rfl rfl rfl ?_
   refine zA ?_
   refine zL [(1,.int .i64 n),(2,U.box 0 0),(5,.lst .ro 1 (zN w)),(56,U.bool (decide (decide (↑(List.length w)=(0:Int))≠decide ((12:Int)=(0:Int)))))] ([SB.box t.cs]) (.c4 rfl rfl rfl rfl (.nil rfl)) rfl fun fr=>?_
   refine k_cF rfl (by assumption) (zS (kQ (zK rfl rfl rfl sh28 rfl (zB rfl (zT rfl (q48) (.lrefl _) (zT rfl (p19) (.lrefl _) (zB rfl (zZ rfl rfl rfl ?_))))))))
   refine zZ rfl rfl rfl (zC rfl (zC rfl (zA (k_seq (kQ (zB rfl (zEo rfl rfl rfl (zA ?_))))))))
   refine k_cF rfl rfl ?_
   refine zS (kQ (zK rfl rfl rfl sh28 rfl (zY rfl ze28 ?_)))
   refine zQ rfl rfl sh28 rfl rfl rfl rfl rfl ?_
   refine zA ?_
   refine zL [(1,.int .i64 n),(2,U.box 0 0),(5,.lst .ro 1 (zN w)),(11,U.box 1 0)] ([SB.box t.cs,SB.box t.cs]) (.c4 rfl rfl rfl rfl (.nil rfl)) rfl fun fr=>?_
   refine kQ (zE rfl rfl wZ (yK rfl rfl sh23 rfl rfl (zE rfl rfl yY (yK rfl rfl sh24 rfl rfl (zA ?_)))))
   refine zL [(1,.int .i64 n),(2,U.box 0 0),(5,.lst .ro 1 (zN w)),(11,U.box 1 0)] ([SB.box t.cs,SB.box [.lst .ro 2 (zO t.heard),.lst .full 0 [],.lst .full 0 [],.int .i64 t.lo,.int .i64 t.hi]]) (.c4 rfl rfl rfl rfl (.nil rfl)) rfl fun fr=>?_
   refine kQ (zK rfl rfl rfl sh28 rfl (zT rfl (r32) (.lcons _ _ _ _ (.agg _ _ (.lcons _ _ _ _ (.refl _) (.lcons _ _ _ _ (.nil .full .ro 2) (.lcons _ _ _ _ (.nil .full .ro 2) (.lrefl _))))) (.lrefl _)) ?_))
   refine zB rfl (zZ rfl rfl rfl (zZ rfl rfl rfl (zC rfl (zC rfl (zA (k_seq (we [.read true,.plain,.plain,.read true,.read true,.read false,.plain,.plain] (by kernel_rfl) (by kernel_rfl) (by kernel_rfl) ?_)))))))
   refine zc rfl (zK rfl rfl rfl sh28 rfl (zA rfl)) ?_
   refine zF (zB rfl (zA rfl)) (zF (zE rfl rfl yJ (zA rfl)) ?_)
   refine zc rfl (zG rfl rfl rfl sh22 rfl (zA rfl)) (zc rfl (zl rfl ty22 rfl (List.length_map _) (zA rfl)) ?_)
   refine zCV rfl (q38) (.int _ _) (.lrefl _) ?_
   refine zF (zT rfl (q43) (.lrefl _) (zA rfl)) ?_
   refine zF (zQ rfl rfl sh28 rfl rfl rfl rfl rfl (zA rfl)) ?_
   refine zAY ?_
   refine zL [(5,.lst .ro 1 (zN w)),(11,U.box 1 0),(12,.lst .ro 1 (zN [])),(13,.int .i64 0)] ([SB.box t.cs,SB.box [.lst .ro 2 (zO (Ts.heard (putS t k {a:=(4000:Int),b:=(4000:Int)}))),.lst .ro 2 (yg (Ts.scales (putS t k {a:=(4000:Int),b:=(4000:Int)}))),.lst .ro 2 (zO (Ts.pairs (putS t k {a:=(4000:Int),b:=(4000:Int)}))),.int .i64 (Ts.lo (putS t k {a:=(4000:Int),b:=(4000:Int)})),.int .i64 (Ts.hi (putS t k {a:=(4000:Int),b:=(4000:Int)}))]]) (.c4 rfl rfl rfl rfl (.nil rfl)) rfl fun fr=>?_
   refine kQ (zK rfl rfl rfl sh28 rfl (zT rfl (p32) (.lrefl _) (zB rfl (zZ rfl rfl rfl (zZ rfl rfl rfl (zC rfl (zC rfl (zA ?_))))))))
   refine kQ (zB rfl (zAQ rfl rfl rfl (zB rfl (o_gD rfl rfl rfl rfl rfl (zB rfl (o_gD rfl rfl rfl rfl rfl (zl rfl ty29 rfl (List.length_map _) ?_)))))))
   refine o_gD rfl rfl rfl rfl rfl (zAQ rfl rfl rfl (zV rfl rfl rfl ?_))
   refine zB rfl (o_gD rfl rfl rfl rfl rfl (zB rfl ?_))
   refine zq [(5,.lst .ro 1 (zN w)),(14,.lst .ro 1 (zN w2)),(93,U.bool (decide (↑(List.length [])=(0:Int)))),(94,.int .i64 0)] [] ([SB.box t.cs,SB.box [.lst .ro 2 (zO (Ts.heard (putS t k {a:=(4000:Int),b:=(4000:Int)}))),.lst .ro 2 (yg (Ts.scales (putS t k {a:=(4000:Int),b:=(4000:Int)}))),.lst .ro 2 (zO (Ts.pairs (putS t k {a:=(4000:Int),b:=(4000:Int)}))),.int .i64 (Ts.lo (putS t k {a:=(4000:Int),b:=(4000:Int)})),.int .i64 (Ts.hi (putS t k {a:=(4000:Int),b:=(4000:Int)}))]]) (.c4 rfl rfl rfl rfl (.nil rfl)) rfl rfl fun fr=>?_
   refine o_gD rfl rfl rfl rfl rfl ?_
   refine zq [(5,.lst .ro 1 (zN w)),(14,.lst .ro 1 (zN w2)),(93,U.bool (decide (↑(List.length [])=(0:Int)))),(94,.int .i64 0)] [] ([SB.box t.cs,SB.box [.lst .ro 2 (zO (Ts.heard (putS t k {a:=(4000:Int),b:=(4000:Int)}))),.lst .ro 2 (yg (Ts.scales (putS t k {a:=(4000:Int),b:=(4000:Int)}))),.lst .ro 2 (zO (Ts.pairs (putS t k {a:=(4000:Int),b:=(4000:Int)}))),.int .i64 (Ts.lo (putS t k {a:=(4000:Int),b:=(4000:Int)})),.int .i64 (Ts.hi (putS t k {a:=(4000:Int),b:=(4000:Int)}))]]) (.c4 rfl rfl rfl rfl (.nil rfl)) rfl rfl fun fr=>?_
   refine zAQ rfl rfl rfl (zV rfl rfl rfl ?_)
   refine zB rfl (o_gD rfl rfl rfl rfl rfl (zB rfl (o_gD rfl rfl rfl rfl rfl (zl rfl ty29 rfl (List.length_map _) ?_))))
   refine o_gD rfl rfl rfl rfl rfl (zB rfl (o_gD rfl rfl rfl rfl rfl (zl rfl ty29 rfl (List.length_map _) ?_)))
   refine o_gD rfl rfl rfl rfl rfl ?_
   refine yc rfl rfl rfl (by unfold I64;omega) (o_gD rfl rfl rfl rfl rfl (zAP rfl rfl rfl ?_))
   refine zq [(97,U.bool (decide ((0:Int)=(0:Int)))),(103,U.bool (decide (↑(List.length w2)≤ ↑(List.length w)+(1:Int))))] [] ([SB.box t.cs,SB.box [.lst .ro 2 (zO (Ts.heard (putS t k {a:=(4000:Int),b:=(4000:Int)}))),.lst .ro 2 (yg (Ts.scales (putS t k {a:=(4000:Int),b:=(4000:Int)}))),.lst .ro 2 (zO (Ts.pairs (putS t k {a:=(4000:Int),b:=(4000:Int)}))),.int .i64 (Ts.lo (putS t k {a:=(4000:Int),b:=(4000:Int)})),.int .i64 (Ts.hi (putS t k {a:=(4000:Int),b:=(4000:Int)}))]]) (.cons rfl (.cons rfl (.nil rfl))) rfl rfl fun fr=>?_
   refine zV rfl rfl rfl ?_
   refine zB rfl (o_gD rfl rfl rfl rfl (decide_eq_true (by omega)) ?_)
   refine zT rfl (r21) (.lrefl _) (zV rfl rfl (decide_eq_true (by omega)) ?_)
   refine zC rfl (zA (zd ?_))
   refine⟨.inr rfl,_,.cons _ _ _ _ (.tmp 4) .nil,?_⟩
   exact .refl _
end
section
variable {is:FuncId→Bool}{orc:Known}
theorem ret14_all(hi:Off is)(r21:RetP Try.prog is orc 21 [] (.bool true)):∀us,ShpAs Try.prog [28,3] us→RetP Try.prog is orc 14 us (.bool true):=by
 intro us h
 cases h with
 |cons _ _ u us h1 h=>cases h with
 |cons _ _ v us h2 h=>
 cases h
 obtain⟨fs,hu⟩:=und28
 unfold ShpA at h1 h2
 rw[hu]at h1
 rw[u3]at h2
 obtain⟨t,rfl⟩:=arg_set h1
 obtain⟨n,rfl⟩:=arg_int h2
 exact ret14 hi t n r21
end
end Go.Proofs.Ytinhcdijbcamaaa.tuneLeft
