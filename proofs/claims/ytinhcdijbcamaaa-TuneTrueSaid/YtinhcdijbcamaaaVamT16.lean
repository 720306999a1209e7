import Derived.Test.YtinhcdijbcamaaaVamT15
set_option linter.unusedVariables false
set_option linter.unusedSimpArgs false
set_option linter.constructorNameAsVariable false
namespace Go.Proofs.Ytinhcdijbcamaaa.tuneTrue
open Vam
section
variable {is:FuncId→Bool}{orc:Known}
variable {t:Ts}{J:List Jn}{v x:Int}
end
section
variable {is:FuncId→Bool}{orc:Known}
noncomputable def b36:Code:=(Try.f36.body).getD .skip
theorem body36:bodyOf Try.prog 36=some (27,b36,[.tmp 4]):=by kernel_rfl
theorem pure36:pureFn Try.prog 36=true:=by kernel_rfl
variable {t:Ts}{J:List Jn}{v x:Int}
set_option maxHeartbeats 4000000 in
theorem ret38p(hi:Off is)(n b:Int)(hn:0≤n):RetP Try.prog is orc 38 [.int .i64 n,.int .i64 b] (.int .i64 (zAi n b)):=by
 refine yE body38 pure38 (hi 38 (by decide)) rfl rfl (yZ (.int _ _ _) (.int _ _ _)) (.inl (.int _ _ _)) ?_
 by_cases h:b<1
 ·have e:zAi n b=0:=by unfold zAi;rw[if_pos h]
  rw[e]
  refine kQ (zC rfl (zA (k_seq (kQ (zB rfl (zf rfl rfl rfl (zA (k_cT rfl (decide_eq_true (by omega)) ?_))))))))
  refine kQ (zC rfl (zA (zb ?_)))
  refine⟨.inr rfl,_,.cons _ _ _ _ (.tmp 4) .nil,?_⟩
  exact .refl _
 ·have e:zAi n b=n % b:=by unfold zAi;rw[if_neg h]
  have et:n.tmod b=n % b:=Int.tmod_eq_emod_of_nonneg hn
  have hnn:0≤n % b:=Int.emod_nonneg _ (by omega)
  rw[e,←et]
  rw[←et]at hnn
  refine kQ (zC rfl (zA (k_seq (kQ (zB rfl (zf rfl rfl rfl (zA (k_cF rfl (decide_eq_false (by omega)) ?_))))))))
  refine zQ (kQ (zB rfl (zB rfl (o_rem rfl rfl rfl (by omega) ?_))))
  refine zC rfl (zA (k_seq (kQ (zB rfl (zf rfl rfl rfl (zA (k_cF rfl (decide_eq_false (by omega)) (zQ ?_))))))))
  refine kQ (zB rfl (zC rfl (zA (zb ?_))))
  refine⟨.inr rfl,_,.cons _ _ _ _ (.tmp 4) .nil,?_⟩
  exact .refl _
theorem ret77(hi:Off is)(l:List Int)(n:Int)(hn:0≤n):RetP Try.prog is orc 77 [.lst .ro 1 (zO l),.int .i64 n] (.int .i64 (nthI l n)):=by
 refine yE body77 pure77 (hi 77 (by decide)) rfl rfl (yZ (wT 6 .ro (fun h=>by cases h) 1 l) (.int _ _ _)) (.inl (.int _ _ _)) ?_
 by_cases h:l.length=0
 ·have e:nthI l n=0:=by unfold nthI;rw[if_pos h]
  rw[e]
  refine kQ (zC rfl (zA (k_seq (kQ (zB rfl (zw rfl ty29 rfl (List.length_map _) ?_))))))
  refine zBB rfl rfl rfl (zA (k_cT rfl (decide_eq_true (by omega)) (kQ (zC rfl (zA (zb ?_))))))
  refine⟨.inr rfl,_,.cons _ _ _ _ (.tmp 4) .nil,?_⟩
  exact .refl _
 ·have q38:=ret38p (orc:=orc) hi n l.length hn
  have hb:=zEq (n:=n) (b:=(l.length:Int)) (by omega)
  have hy:l[(zAi n l.length).toNat]? =some (l[(zAi n l.length).toNat]'(by omega)):=List.getElem?_eq_getElem (by omega)
  have e:nthI l n=l[(zAi n l.length).toNat]'(by omega):=by unfold nthI;rw[if_neg h,hy];rfl
  rw[e]
  generalize l[(zAi n l.length).toNat]'(by omega)=y at hy
  clear e
  generalize zAi n l.length=k at*
  refine kQ (zC rfl (zA (k_seq (kQ (zB rfl (zw rfl ty29 rfl (List.length_map _) ?_))))))
  refine zBB rfl rfl rfl (zA (k_cF rfl (decide_eq_false (by omega)) (zQ (kQ (zB rfl (zB rfl (zB rfl (zw rfl ty29 rfl (List.length_map _) ?_))))))))
  refine zP rfl (q38) (.lrefl _) ?_
  refine zq (u:=.int .i64 y) rfl ty29 rfl rfl (by omega) (by rw[List.getElem?_map,hy];rfl) cl3 ?_
  refine zW rfl rfl sh3 rfl ?_
  refine zC rfl (zA (zb ?_))
  refine⟨.inr rfl,_,.cons _ _ _ _ (.tmp 4) .nil,?_⟩
  exact .refl _
def drwL(t:Ts)(bits:List Int)(n:Nat):List Int:=(List.range n).map fun i:Nat=>zHd (hloT t i) (hhiT t i) (nthI bits i)
theorem drwL_succ(t:Ts)(bits:List Int)(n:Nat):drwL t bits (n+1)=drwL t bits n++[zHd (hloT t n) (hhiT t n) (nthI bits n)]:=by unfold drwL;rw[List.range_succ,List.map_append];rfl
set_option maxHeartbeats 8000000 in
theorem ret36(hi:Off is)(hok:TOk t)(bits:List Int):RetP Try.prog is orc 36 [t.u,.lst .ro 1 (zO bits)] (.lst .ro 1 (zO (drwL t bits t.heard.length))):=by
 have hn8:=hok.n8
 refine yE body36 pure36 (hi 36 (by decide)) rfl rfl (yZ (zAg t 4) (wT 6 .ro (fun h=>by cases h) 1 bits)) (.inl (wT 6 .ro (fun h=>by cases h) 1 _)) ?_
 refine kQ (yA rfl rfl (zC rfl (zA ?_)))
 refine zK [(1,.lst .ro 1 (zO bits)),(2,U.box 0 0)] ([SB.box t.cs]) (.cons rfl (.cons rfl (.nil rfl))) rfl fun fr=>?_
 refine kQ (zC rfl (zA (k_seq (kQ (zC rfl (zA (zN ?_)))))))
 refine yg (fun kk s2=>∃i:Nat,kk+i=t.heard.length∧s2.st=[.box t.cs]∧Holds s2 [(1,.lst .ro 1 (zO bits)),(2,.box 0 0),(5,accI (drwL t bits i)),(6,.int .i64 i)]) (fun kk s2 hI=>?_) t.heard.length _ ⟨0,rfl,rfl,.c4 rfl rfl rfl rfl (.nil rfl)⟩
 obtain⟨i,hki,hst2,hs2⟩:=hI
 refine zK _ _ hs2 hst2 fun fr2=>?_
 by_cases hin:i<t.heard.length
 ·obtain⟨q,hq,e1,e2,hqb⟩:=hok.sok.key (v:=(i:Int)) (by omega)
  rw[Int.toNat_natCast]at hq
  have q77:=ret77 (orc:=orc) hi bits (i:Int) (by omega)
  have q44:=ret44 (orc:=orc) hi q.a q.b (nthI bits i) (by omega) (by omega)
  have hsu:=drwL_succ t bits i
  rw[e1,e2]at hsu
  have hll:(drwL t bits i).length=i:=by unfold drwL;simp
  generalize zHd q.a q.b (nthI bits i)=y at hsu q44
  generalize nthI bits i=m at q77 q44
  generalize drwL t bits i=L at hsu hll
  cases L with
  |nil=>
   refine k_seq (kQ (zB rfl (zE rfl rfl yG (zF rfl rfl rfl sh22 rfl (zw rfl ty22 rfl (List.length_map _) ?_)))))
   refine zf rfl rfl rfl (zA (k_cT rfl (decide_eq_true (by omega)) (zQ (k_seq (zN (yr [.plain,.plain,.read true,.plain,.plain,.read true,.plain,.plain,.read false,.plain,.plain,.plain,.plain] (by kernel_rfl) (by kernel_rfl) (by kernel_rfl) ?_))))))
   refine zD (zB rfl (zA rfl)) (zD (zE rfl rfl yG (zA rfl)) ?_)
   refine zS rfl (zF rfl rfl rfl sh22 rfl (zA rfl)) (zD (zB rfl (zA rfl)) (zD (zq (u:=(q).u) rfl ty22 rfl rfl (Int.natCast_nonneg _) (by simp[hq]) cl26 (zA rfl)) ?_))
   refine zS rfl (zo rfl rfl sh26 rfl (zA rfl)) ?_
   refine zD (zB rfl (zA rfl)) (zD (zB rfl (zA rfl)) (wF rfl (q77) (.int _ _) (.lrefl _) ?_))
   refine wI [(1,.lst .ro 1 (zO bits)),(2,U.box 0 0),(6,.int .i64 ↑i),(14,.lst .full 0 []),(19,U.agg [.int .i64 q.a,.int .i64 q.b]),(22,.int .i64 m)] [] ([SB.box t.cs]) (.c4 rfl rfl rfl rfl (.cons rfl (.cons rfl (.nil rfl)))) rfl rfl fun fr=>?_
   refine zD (zP rfl (q44) (.lrefl _) (zA rfl)) ?_
   refine zD (zBA (es:=[.int .i64 y]) rfl ty29 ze3 cl3 rfl rfl rfl rfl rfl rfl rfl rfl (zA rfl)) ?_
   refine zD (wu rfl zCA rfl rfl (by simp) (by simp) (by simp[zn,zi,oneU]) (by simp) (zA rfl)) ?_
   refine zD (zC rfl (zA rfl)) ?_
   refine wc ?_
   refine zK [(1,.lst .ro 1 (zO bits)),(2,U.box 0 0),(5,U.lst Kd.own 1 [.int .i64 y]),(6,.int .i64 ↑i)] ([SB.box t.cs]) (.c4 rfl rfl rfl rfl (.nil rfl)) rfl fun fr=>?_
   refine k_region (zB rfl ?_)
   refine yT rfl rfl rfl (by unfold I64;omega) (zC rfl (zA ?_))
   exact⟨kk - 1,by omega,i+1,by omega,rfl,.cons rfl (.cons rfl (.cons (by rw[hsu];rfl) (.cons rfl (.nil rfl))))⟩
  |cons z L=>
   refine k_seq (kQ (zB rfl (zE rfl rfl yG (zF rfl rfl rfl sh22 rfl (zw rfl ty22 rfl (List.length_map _) ?_)))))
   refine zf rfl rfl rfl (zA (k_cT rfl (decide_eq_true (by omega)) (zQ (k_seq (zN (yr [.plain,.plain,.read true,.plain,.plain,.read true,.plain,.plain,.read false,.plain,.plain,.plain,.plain] (by kernel_rfl) (by kernel_rfl) (by kernel_rfl) ?_))))))
   refine zD (zB rfl (zA rfl)) (zD (zE rfl rfl yG (zA rfl)) ?_)
   refine zS rfl (zF rfl rfl rfl sh22 rfl (zA rfl)) (zD (zB rfl (zA rfl)) (zD (zq (u:=(q).u) rfl ty22 rfl rfl (Int.natCast_nonneg _) (by simp[hq]) cl26 (zA rfl)) ?_))
   refine zS rfl (zo rfl rfl sh26 rfl (zA rfl)) ?_
   refine zD (zB rfl (zA rfl)) (zD (zB rfl (zA rfl)) (wF rfl (q77) (.int _ _) (.lrefl _) ?_))
   refine zD (zP rfl (q44) (.lrefl _) (zA rfl)) ?_
   refine zD (zBA (es:=[.int .i64 y]) rfl ty29 ze3 cl3 rfl rfl rfl rfl rfl rfl rfl rfl (zA rfl)) ?_
   refine zD (zCH 5 rfl zCA rfl rfl rfl (by simp) (by simp) (by simp[zn,zi,oneU]) (by simp at hll ⊢;omega) (zA rfl)) ?_
   refine zD (zC rfl (zA rfl)) ?_
   refine wc ?_
   refine k_region (zB rfl ?_)
   refine yT rfl rfl rfl (by unfold I64;omega) (zC rfl (zA ?_))
   exact⟨kk - 1,by omega,i+1,by omega,rfl,.cons rfl (.cons rfl (.cons (by rw[hsu,zHS];rfl) (.cons rfl (.nil rfl))))⟩
 ·have hiN:i=t.heard.length:=by omega
  subst hiN
  have hll:(drwL t bits t.heard.length).length=t.heard.length:=by unfold drwL;simp
  have hn1:=hok.n1
  generalize drwL t bits t.heard.length=L at hll
  cases L with
  |nil=>simp at hll;omega
  |cons z L=>
   refine k_seq (kQ (zB rfl (zE rfl rfl yG (zF rfl rfl rfl sh22 rfl (zw rfl ty22 rfl (List.length_map _) ?_)))))
   refine zf rfl rfl rfl (zA (k_cF rfl (decide_eq_false (by omega)) (yO (kQ (zB rfl (zC rfl (zA (zb ?_))))))))
   refine⟨.inr rfl,_,.cons _ _ _ _ (.tmp 4) .nil,?_⟩
   exact .refl _
end
section
variable {t:Ts}{J:List Jn}{v x y:Int}
end
end Go.Proofs.Ytinhcdijbcamaaa.tuneTrue
