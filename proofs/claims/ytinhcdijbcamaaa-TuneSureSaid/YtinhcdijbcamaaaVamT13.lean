import Derived.Test.YtinhcdijbcamaaaVamT12
set_option linter.unusedVariables false
set_option linter.unusedSimpArgs false
set_option linter.constructorNameAsVariable false
namespace Go.Proofs.Ytinhcdijbcamaaa.tuneSure
open Vam
section
variable {is:FuncId→Bool}{orc:Known}
variable {t:Ts}{J:List Jn}{v x:Int}
end
section
variable {is:FuncId→Bool}{orc:Known}
noncomputable def b42:Code:=(Try.f42.body).getD .skip
theorem body42:bodyOf Try.prog 42=some (100,b42,[.tmp 4]):=by kernel_rfl
theorem pure42:pureFn Try.prog 42=true:=by kernel_rfl
variable {t:Ts}{J:List Jn}{v x:Int}
def fitS(p:Int→Int)(j:Jn):Bool:=if j.kd=0 then decide (j.lo*p j.one≤1000*p j.two)&&decide (1000*p j.two≤j.hi*p j.one)else decide (j.lo≤p j.two - p j.one)&&decide (p j.two - p j.one≤j.hi)
def pL(l:List Int)(v:Int):Int:=(l[v.toNat]?).getD 0
theorem mul_c{a b n m:Int}(h1:0≤a∧a≤n)(h2:0≤b∧b≤m):0≤a*b∧a*b≤n*m:=⟨Int.mul_nonneg h1.1 h2.1,Int.mul_le_mul h1.2 h2.2 h2.1 (by omega)⟩
theorem mem_scale{q:Scl}(hq:q∈t.scales){j:Jn}(hj:j∈sclJ q q.steps.length):j∈yZ t:=List.mem_append_left _ (List.mem_flatMap.2 ⟨q,hq,hj⟩)
theorem mem_scl{q:Scl}{m:Nat}{a b:Int}{s:Two}(h1:q.keys[m]? =some a)(h2:q.keys[m+1]? =some b)(h3:q.steps[m]? =some s):(⟨0,a,b,s.a,s.b⟩:Jn)∈sclJ q q.steps.length:=
 List.mem_map.2 ⟨m,List.mem_range.2 (List.getElem?_eq_some_iff.1 h3).1,by simp[h1,h2,h3]⟩
theorem mem_pair{q:Two}(hq:q∈t.pairs):pairJ t q∈yZ t:=List.mem_append_right _ (List.mem_map.2 ⟨q,hq,rfl⟩)
theorem all_no{l:List Jn}{f:Jn→Bool}{j:Jn}(hj:j∈l)(h:f j=false):l.all f=false:=by
 rw[List.all_eq_false];exact⟨j,hj,by rw[h];simp⟩
set_option maxHeartbeats 16000000 in
theorem ret42(hi:Off is)(hok:TOk t)(l:List Int)(hl:l.length=t.heard.length)(hp:∀y∈l,0≤y∧y≤4010):RetP Try.prog is orc 42 [t.u,.lst .ro 1 (zR l)] (.bool ((yZ t).all (fitS (pL l)))):=by
 refine yI body42 pure42 (hi 42 (by decide)) rfl rfl (yu (dat_ts t 4) (dat_ints 6 .ro (fun h=>by cases h) 1 l)) (.inl (.bool _ _)) ?_
 have hns:=hok.sh.ns
 have hnp:=hok.sh.np
 have hbt:=hok.bt
 have at_l:∀a:Int,0≤a∧a<(t.heard.length:Int)→∃y,l[a.toNat]? =some y∧pL l a=y∧0≤y∧y≤4010:=fun a ha=>by
  have hy:l[a.toNat]? =some (l[a.toNat]'(by omega)):=List.getElem?_eq_getElem (by omega)
  exact⟨_,hy,by unfold pL;rw[hy];rfl,hp _ (List.mem_of_getElem? hy)⟩
 refine kQ (yJ rfl rfl (zC rfl (zA ?_)))
 refine zM [(1,.lst .ro 1 (zR l)),(2,U.box 0 0)] ([SB.box t.cs]) (.cons rfl (.cons rfl (.nil rfl))) rfl fun fr=>?_
 refine k_seq (kQ (zC rfl (zA (zK ?_))))
 refine yY (fun kk s2=>∃i:Nat,kk+i=t.scales.length∧(scalesJ (t.scales.take i)).all (fitS (pL l))=true∧(∃e,s2.st=[.box t.cs]++e)∧Holds s2 [(1,.lst .ro 1 (zR l)),(2,.box 0 0),(5,.int .i64 i)]) (fun kk s2 hI=>?_) t.scales.length _ ⟨0,rfl,rfl,⟨[],rfl⟩,.cons rfl (.cons rfl (.cons rfl (.nil rfl)))⟩
 obtain⟨i,hki,hall,⟨e,hst2⟩,hs2⟩:=hI
 generalize hY:[SB.box t.cs]++e=Y at hst2
 have hY0:Y[0]? =some (SB.box t.cs):=by rw[←hY];rfl
 refine zM _ _ hs2 hst2 fun fr2=>?_
 by_cases hin:i<t.scales.length
 ·obtain⟨q,hq⟩:∃q,t.scales[i]? =some q:=⟨t.scales[i],List.getElem?_eq_getElem hin⟩
  have hqm:=List.mem_of_getElem? hq
  have hqs:=hok.sh.sc q hqm
  have hqk:=hok.sk q hqm
  have hqt:=hok.ss q hqm
  refine k_seq (kQ (zB rfl (zF rfl rfl fld28_1 (zE rfl rfl hY0 sh23 rfl ?_))))
  refine zw rfl ty23 rfl (List.length_map _) ?_
  refine zb rfl rfl rfl (zA (k_cT rfl (decide_eq_true (by omega)) (zQ (k_seq (zK (kQ (zF rfl rfl fld28_1 (zE rfl rfl hY0 sh23 rfl ?_))))))))
  refine zB rfl (zp (u:=(q).u) rfl ty23 rfl rfl (Int.natCast_nonneg _) (by simp[hq]) cl61 ?_)
  refine zi rfl rfl sh61 rfl ?_
  refine zd rfl ze61 ?_
  refine zV rfl (zU _ _) sh61 rfl rfl rfl rfl rfl ?_
  refine zA ?_
  refine zM [(1,.lst .ro 1 (zR l)),(2,U.box 0 0),(5,.int .i64 ↑i),(6,U.box (List.length Y) 0)] (Y++[SB.box [.lst .ro 1 (zR q.keys),.lst .ro 2 (yD q.steps)]]) (.c4 rfl rfl rfl rfl (.nil rfl)) (zr _ _ _) fun fr=>?_
  refine kQ (zC rfl (zA (zK ?_)))
  refine yY (fun k3 s3=>∃m:Nat,k3+m=q.steps.length∧(sclJ q m).all (fitS (pL l))=true∧s3.st=Y++[.box [.lst .ro 1 (zR q.keys),.lst .ro 2 (yD q.steps)]]∧Holds s3 [(1,.lst .ro 1 (zR l)),(2,.box 0 0),(5,.int .i64 i),(6,.box Y.length 0),(7,.int .i64 m)]) (fun k3 s3 hI3=>?_) q.steps.length _ ⟨0,rfl,rfl,rfl,.c4 rfl rfl rfl rfl (.cons rfl (.nil rfl))⟩
  obtain⟨m,hkm,hall3,hst3,hs3⟩:=hI3
  have hZ0:(Y++[SB.box [.lst .ro 1 (zR q.keys),.lst .ro 2 (yD q.steps)]])[Y.length]? =some (SB.box [.lst .ro 1 (zR q.keys),.lst .ro 2 (yD q.steps)]):=zU _ _
  generalize hZ:Y++[SB.box [.lst .ro 1 (zR q.keys),.lst .ro 2 (yD q.steps)]]=Z at hst3 hZ0
  refine zM _ _ hs3 hst3 fun fr3=>?_
  by_cases hm:m<q.steps.length
  ·obtain⟨s,hs⟩:∃s,q.steps[m]? =some s:=⟨q.steps[m],List.getElem?_eq_getElem hm⟩
   obtain⟨a,ha⟩:∃a,q.keys[m]? =some a:=⟨q.keys[m]'(by omega),List.getElem?_eq_getElem (by omega)⟩
   obtain⟨b,hb⟩:∃b,q.keys[m+1]? =some b:=⟨q.keys[m+1]'(by omega),List.getElem?_eq_getElem (by omega)⟩
   have hak:=hqk.2 a (List.mem_of_getElem? ha)
   have hbk:=hqk.2 b (List.mem_of_getElem? hb)
   have hsb:=hqt s (List.mem_of_getElem? hs)
   obtain⟨ya,hla,hpa,hya⟩:=at_l a hak
   obtain⟨yb,hlb,hpb,hyb⟩:=at_l b hbk
   have m1:=mul_c (a:=s.a) (b:=ya) (n:=5000) (m:=4010) (by omega) hya
   have m2:=mul_c (a:=s.b) (b:=ya) (n:=5000) (m:=4010) (by omega) hya
   have q56:=ret56 (orc:=orc) hi (1000*yb) (s.a*ya) (s.b*ya)
   have hf:fitS (pL l) ⟨0,a,b,s.a,s.b⟩=(decide (s.a*ya≤1000*yb)&&decide (1000*yb≤s.b*ya)):=by
    unfold fitS;rw[if_pos rfl,hpa,hpb]
   have hsu:=sclJ_succ ha hb hs
   have hmm:=mem_scale hqm (mem_scl ha hb hs)
   generalize hc:(decide (s.a*ya≤1000*yb)&&decide (1000*yb≤s.b*ya))=c at q56 hf
   clear hc
   cases c with
   |false=>
    rw[all_no hmm hf]
    refine k_seq (kQ (zB rfl (zF rfl rfl fld61_1 (zE rfl rfl hZ0 sh22 rfl ?_))))
    refine zw rfl ty22 rfl (List.length_map _) ?_
    refine zb rfl rfl rfl (zA (k_cT rfl (decide_eq_true (by omega)) (zQ (k_seq (zK (k_seq (k_draw [.plain,.plain,.read true,.plain,.plain,.plain,.read true,.plain,.read true,.plain,.plain,.read true,.plain,.plain,.plain,.read true,.plain,.plain,.read true,.plain,.plain,.read true,.plain,.read true,.plain,.plain,.read true,.plain,.plain,.plain,.read true,.plain,.plain,.read true,.plain,.plain,.read true,.plain,.read true,.plain,.plain,.plain] (by kernel_rfl) (by kernel_rfl) (by kernel_rfl) ?_)))))))
    refine zD (zB rfl (zA rfl)) (zD (zF rfl rfl wB (zA rfl)) ?_)
    refine zO rfl (zE rfl rfl hZ0 sh29 rfl (zA rfl)) ?_
    refine zD (zB rfl (zA rfl)) ?_
    refine zD (yT rfl rfl rfl (by unfold I64;omega) (zA rfl)) ?_
    refine zD (zp (u:=.int .i64 (b)) rfl ty29 rfl rfl (Int.natCast_nonneg _) (by simp[hb]) cl3 (zA rfl)) ?_
    refine zO rfl (zX rfl rfl sh3 rfl (zA rfl)) ?_
    refine zD (zp (u:=.int .i64 yb) rfl ty29 rfl rfl (by omega) (by rw[List.getElem?_map,hlb];rfl) cl3 (zA rfl)) ?_
    refine zO rfl (zX rfl rfl sh3 rfl (zA rfl)) ?_
    refine d_genA [(1,.lst .ro 1 (zR l)),(2,U.box 0 0),(5,.int .i64 ↑i),(6,U.box (List.length Y) 0),(7,.int .i64 ↑m),(36,.int .i64 yb)] [] (Z) (.c4 rfl rfl rfl rfl (.cons rfl (.cons rfl (.nil rfl)))) rfl rfl fun fr=>?_
    refine zD (o_mul rfl rfl rfl (by unfold I64;omega) (zA rfl)) ?_
    refine zD (zF rfl rfl fld61_1 (zA rfl)) ?_
    refine zO rfl (zE rfl rfl hZ0 sh22 rfl (zA rfl)) ?_
    refine zD (zB rfl (zA rfl)) (zD (zp (u:=(s).u) rfl ty22 rfl rfl (Int.natCast_nonneg _) (by simp[hs]) cl26 (zA rfl)) ?_)
    refine zD (o_faddrR rfl rfl yL (zA rfl)) ?_
    refine zO rfl (zX rfl rfl sh3 rfl (zA rfl)) ?_
    refine zD (zB rfl (zA rfl)) (zD (zF rfl rfl wB (zA rfl)) ?_)
    refine d_genA [(1,.lst .ro 1 (zR l)),(2,U.box 0 0),(5,.int .i64 ↑i),(6,U.box (List.length Y) 0),(7,.int .i64 ↑m),(37,.int .i64 ((1000:Int)*yb)),(43,.int .i64 s.a),(44,.lst .ro 1 (zR l)),(45,U.box (List.length Y) 0)] [] (Z) (.c4 rfl rfl rfl rfl (.c4 rfl rfl rfl rfl (.cons rfl (.nil rfl)))) rfl rfl fun fr=>?_
    refine zO rfl (zE rfl rfl hZ0 sh29 rfl (zA rfl)) ?_
    refine zD (zB rfl (zA rfl)) (zD (zp (u:=.int .i64 (a)) rfl ty29 rfl rfl (Int.natCast_nonneg _) (by simp[ha]) cl3 (zA rfl)) ?_)
    refine zO rfl (zX rfl rfl sh3 rfl (zA rfl)) ?_
    refine zD (zp (u:=.int .i64 ya) rfl ty29 rfl rfl (by omega) (by rw[List.getElem?_map,hla];rfl) cl3 (zA rfl)) ?_
    refine zO rfl (zX rfl rfl sh3 rfl (zA rfl)) ?_
    refine zD (o_mul rfl rfl rfl (by unfold I64;omega) (zA rfl)) ?_
    refine zD (zF rfl rfl fld61_1 (zA rfl)) ?_
    refine zO rfl (zE rfl rfl hZ0 sh22 rfl (zA rfl)) ?_
    refine d_genA [(1,.lst .ro 1 (zR l)),(2,U.box 0 0),(5,.int .i64 ↑i),(6,U.box (List.length Y) 0),(7,.int .i64 ↑m),(37,.int .i64 ((1000:Int)*yb)),(52,.int .i64 (Two.a s*ya)),(54,.lst .ro 2 (yD q.steps))] [] (Z) (.c4 rfl rfl rfl rfl (.c4 rfl rfl rfl rfl (.nil rfl))) rfl rfl fun fr=>?_
    refine zD (zB rfl (zA rfl)) (zD (zp (u:=(s).u) rfl ty22 rfl rfl (Int.natCast_nonneg _) (by simp[hs]) cl26 (zA rfl)) ?_)
    refine zD (o_faddrR rfl rfl yj (zA rfl)) ?_
    refine zO rfl (zX rfl rfl sh3 rfl (zA rfl)) ?_
    refine zD (zB rfl (zA rfl)) (zD (zF rfl rfl wB (zA rfl)) ?_)
    refine zO rfl (zE rfl rfl hZ0 sh29 rfl (zA rfl)) ?_
    refine zD (zB rfl (zA rfl)) (zD (zp (u:=.int .i64 (a)) rfl ty29 rfl rfl (Int.natCast_nonneg _) (by simp[ha]) cl3 (zA rfl)) ?_)
    refine d_genA [(1,.lst .ro 1 (zR l)),(2,U.box 0 0),(5,.int .i64 ↑i),(6,U.box (List.length Y) 0),(7,.int .i64 ↑m),(37,.int .i64 ((1000:Int)*yb)),(52,.int .i64 (Two.a s*ya)),(58,.int .i64 s.b),(59,.lst .ro 1 (zR l)),(63,U.eref [.int .i64 a] 0)] [] (Z) (.c4 rfl rfl rfl rfl (.c4 rfl rfl rfl rfl (.cons rfl (.cons rfl (.nil rfl))))) rfl rfl fun fr=>?_
    refine zO rfl (zX rfl rfl sh3 rfl (zA rfl)) ?_
    refine zD (zp (u:=.int .i64 ya) rfl ty29 rfl rfl (by omega) (by rw[List.getElem?_map,hla];rfl) cl3 (zA rfl)) ?_
    refine zO rfl (zX rfl rfl sh3 rfl (zA rfl)) ?_
    refine zD (o_mul rfl rfl rfl (by unfold I64;omega) (zA rfl)) ?_
    refine zD (zS rfl (q56) (.lrefl _) (zA rfl)) ?_
    refine zD (o_not rfl rfl (zA rfl)) ?_
    refine d_nil ?_
    refine zM [(1,.lst .ro 1 (zR l)),(2,U.box 0 0),(5,.int .i64 ↑i),(6,U.box (List.length Y) 0),(7,.int .i64 ↑m),(69,U.bool !Bool.false)] (Z) (.c4 rfl rfl rfl rfl (.cons rfl (.cons rfl (.nil rfl)))) rfl fun fr=>?_
    refine k_cT rfl rfl ?_
    refine kQ (zC rfl (zA (zc ?_)))
    refine⟨.inr rfl,_,.cons _ _ _ _ (.tmp 4) .nil,?_⟩
    exact .refl _
   |true=>
    refine k_seq (kQ (zB rfl (zF rfl rfl fld61_1 (zE rfl rfl hZ0 sh22 rfl ?_))))
    refine zw rfl ty22 rfl (List.length_map _) ?_
    refine zb rfl rfl rfl (zA (k_cT rfl (decide_eq_true (by omega)) (zQ (k_seq (zK (k_seq (k_draw [.plain,.plain,.read true,.plain,.plain,.plain,.read true,.plain,.read true,.plain,.plain,.read true,.plain,.plain,.plain,.read true,.plain,.plain,.read true,.plain,.plain,.read true,.plain,.read true,.plain,.plain,.read true,.plain,.plain,.plain,.read true,.plain,.plain,.read true,.plain,.plain,.read true,.plain,.read true,.plain,.plain,.plain] (by kernel_rfl) (by kernel_rfl) (by kernel_rfl) ?_)))))))
    refine zD (zB rfl (zA rfl)) (zD (zF rfl rfl wB (zA rfl)) ?_)
    refine zO rfl (zE rfl rfl hZ0 sh29 rfl (zA rfl)) ?_
    refine zD (zB rfl (zA rfl)) ?_
    refine zD (yT rfl rfl rfl (by unfold I64;omega) (zA rfl)) ?_
    refine zD (zp (u:=.int .i64 (b)) rfl ty29 rfl rfl (Int.natCast_nonneg _) (by simp[hb]) cl3 (zA rfl)) ?_
    refine zO rfl (zX rfl rfl sh3 rfl (zA rfl)) ?_
    refine zD (zp (u:=.int .i64 yb) rfl ty29 rfl rfl (by omega) (by rw[List.getElem?_map,hlb];rfl) cl3 (zA rfl)) ?_
    refine zO rfl (zX rfl rfl sh3 rfl (zA rfl)) ?_
    refine d_genA [(1,.lst .ro 1 (zR l)),(2,U.box 0 0),(5,.int .i64 ↑i),(6,U.box (List.length Y) 0),(7,.int .i64 ↑m),(36,.int .i64 yb)] [] (Z) (.c4 rfl rfl rfl rfl (.cons rfl (.cons rfl (.nil rfl)))) rfl rfl fun fr=>?_
    refine zD (o_mul rfl rfl rfl (by unfold I64;omega) (zA rfl)) ?_
    refine zD (zF rfl rfl fld61_1 (zA rfl)) ?_
    refine zO rfl (zE rfl rfl hZ0 sh22 rfl (zA rfl)) ?_
    refine zD (zB rfl (zA rfl)) (zD (zp (u:=(s).u) rfl ty22 rfl rfl (Int.natCast_nonneg _) (by simp[hs]) cl26 (zA rfl)) ?_)
    refine zD (o_faddrR rfl rfl yL (zA rfl)) ?_
    refine zO rfl (zX rfl rfl sh3 rfl (zA rfl)) ?_
    refine zD (zB rfl (zA rfl)) (zD (zF rfl rfl wB (zA rfl)) ?_)
    refine d_genA [(1,.lst .ro 1 (zR l)),(2,U.box 0 0),(5,.int .i64 ↑i),(6,U.box (List.length Y) 0),(7,.int .i64 ↑m),(37,.int .i64 ((1000:Int)*yb)),(43,.int .i64 s.a),(44,.lst .ro 1 (zR l)),(45,U.box (List.length Y) 0)] [] (Z) (.c4 rfl rfl rfl rfl (.c4 rfl rfl rfl rfl (.cons rfl (.nil rfl)))) rfl rfl fun fr=>?_
    refine zO rfl (zE rfl rfl hZ0 sh29 rfl (zA rfl)) ?_
    refine zD (zB rfl (zA rfl)) (zD (zp (u:=.int .i64 (a)) rfl ty29 rfl rfl (Int.natCast_nonneg _) (by simp[ha]) cl3 (zA rfl)) ?_)
    refine zO rfl (zX rfl rfl sh3 rfl (zA rfl)) ?_
    refine zD (zp (u:=.int .i64 ya) rfl ty29 rfl rfl (by omega) (by rw[List.getElem?_map,hla];rfl) cl3 (zA rfl)) ?_
    refine zO rfl (zX rfl rfl sh3 rfl (zA rfl)) ?_
    refine zD (o_mul rfl rfl rfl (by unfold I64;omega) (zA rfl)) ?_
    refine zD (zF rfl rfl fld61_1 (zA rfl)) ?_
    refine zO rfl (zE rfl rfl hZ0 sh22 rfl (zA rfl)) ?_
    refine d_genA [(1,.lst .ro 1 (zR l)),(2,U.box 0 0),(5,.int .i64 ↑i),(6,U.box (List.length Y) 0),(7,.int .i64 ↑m),(37,.int .i64 ((1000:Int)*yb)),(52,.int .i64 (Two.a s*ya)),(54,.lst .ro 2 (yD q.steps))] [] (Z) (.c4 rfl rfl rfl rfl (.c4 rfl rfl rfl rfl (.nil rfl))) rfl rfl fun fr=>?_
    refine zD (zB rfl (zA rfl)) (zD (zp (u:=(s).u) rfl ty22 rfl rfl (Int.natCast_nonneg _) (by simp[hs]) cl26 (zA rfl)) ?_)
    refine zD (o_faddrR rfl rfl yj (zA rfl)) ?_
    refine zO rfl (zX rfl rfl sh3 rfl (zA rfl)) ?_
    refine zD (zB rfl (zA rfl)) (zD (zF rfl rfl wB (zA rfl)) ?_)
    refine zO rfl (zE rfl rfl hZ0 sh29 rfl (zA rfl)) ?_
    refine zD (zB rfl (zA rfl)) (zD (zp (u:=.int .i64 (a)) rfl ty29 rfl rfl (Int.natCast_nonneg _) (by simp[ha]) cl3 (zA rfl)) ?_)
    refine d_genA [(1,.lst .ro 1 (zR l)),(2,U.box 0 0),(5,.int .i64 ↑i),(6,U.box (List.length Y) 0),(7,.int .i64 ↑m),(37,.int .i64 ((1000:Int)*yb)),(52,.int .i64 (Two.a s*ya)),(58,.int .i64 s.b),(59,.lst .ro 1 (zR l)),(63,U.eref [.int .i64 a] 0)] [] (Z) (.c4 rfl rfl rfl rfl (.c4 rfl rfl rfl rfl (.cons rfl (.cons rfl (.nil rfl))))) rfl rfl fun fr=>?_
    refine zO rfl (zX rfl rfl sh3 rfl (zA rfl)) ?_
    refine zD (zp (u:=.int .i64 ya) rfl ty29 rfl rfl (by omega) (by rw[List.getElem?_map,hla];rfl) cl3 (zA rfl)) ?_
    refine zO rfl (zX rfl rfl sh3 rfl (zA rfl)) ?_
    refine zD (o_mul rfl rfl rfl (by unfold I64;omega) (zA rfl)) ?_
    refine zD (zS rfl (q56) (.lrefl _) (zA rfl)) ?_
    refine zD (o_not rfl rfl (zA rfl)) ?_
    refine d_nil ?_
    refine zM [(1,.lst .ro 1 (zR l)),(2,U.box 0 0),(5,.int .i64 ↑i),(6,U.box (List.length Y) 0),(7,.int .i64 ↑m),(69,U.bool !Bool.true)] (Z) (.c4 rfl rfl rfl rfl (.cons rfl (.cons rfl (.nil rfl)))) rfl fun fr=>?_
    refine k_cF rfl rfl ?_
    refine zQ (k_region (zB rfl ?_))
    refine yT rfl rfl rfl (by unfold I64;omega) (zC rfl (zA ?_))
    exact⟨k3 - 1,by omega,m+1,by omega,by rw[hsu,List.all_append,hall3];simp[hf],rfl,.c4 rfl rfl rfl rfl (.cons rfl (.nil rfl))⟩
  ·have hmN:m=q.steps.length:=by omega
   subst hmN
   refine k_seq (kQ (zB rfl (zF rfl rfl fld61_1 (zE rfl rfl hZ0 sh22 rfl ?_))))
   refine zw rfl ty22 rfl (List.length_map _) ?_
   refine zb rfl rfl rfl (zA (k_cF rfl (decide_eq_false (by omega)) (yO (k_region (zB rfl ?_)))))
   refine yT rfl rfl rfl (by unfold I64;omega) (zC rfl (zA ?_))
   exact⟨kk - 1,by omega,i+1,by omega,by rw[scalesJ_take hq,List.all_append,hall,hall3];rfl,⟨_,by show Z=_;rw[←hZ,←hY,List.append_assoc]⟩,.cons rfl (.cons rfl (.cons rfl (.nil rfl)))⟩
 ·have hiN:i=t.scales.length:=by omega
  subst hiN
  rw[List.take_length]at hall
  refine k_seq (kQ (zB rfl (zF rfl rfl fld28_1 (zE rfl rfl hY0 sh23 rfl ?_))))
  refine zw rfl ty23 rfl (List.length_map _) ?_
  refine zb rfl rfl rfl (zA (k_cF rfl (decide_eq_false (by omega)) (yO (k_seq (kQ (zC rfl (zA (zK ?_))))))))
  refine yY (fun k3 s3=>∃m:Nat,k3+m=t.pairs.length∧((t.pairs.take m).map (pairJ t)).all (fitS (pL l))=true∧s3.st=Y∧Holds s3 [(1,.lst .ro 1 (zR l)),(2,.box 0 0),(8,.int .i64 m)]) (fun k3 s3 hI3=>?_) t.pairs.length _ ⟨0,rfl,rfl,rfl,.cons rfl (.cons rfl (.cons rfl (.nil rfl)))⟩
  obtain⟨m,hkm,hall3,hst3,hs3⟩:=hI3
  refine zM _ _ hs3 hst3 fun fr3=>?_
  by_cases hm:m<t.pairs.length
  ·obtain⟨q,hq⟩:∃q,t.pairs[m]? =some q:=⟨t.pairs[m],List.getElem?_eq_getElem hm⟩
   have hqp:=hok.pr q (List.mem_of_getElem? hq)
   obtain⟨ya,hla,hpa,hya⟩:=at_l q.a hqp.2.1
   obtain⟨yb,hlb,hpb,hyb⟩:=at_l q.b hqp.2.2
   have q39:=ret39 (orc:=orc) hi t.lo t.hi (yb - ya)
   have hf:fitS (pL l) (pairJ t q)=(decide (t.lo≤yb - ya)&&decide (yb - ya≤t.hi)):=by
    show(if(2:Int)=0 then _ else _)=_
    rw[if_neg (by decide)]
    show(decide (t.lo≤pL l q.b - pL l q.a)&&decide (pL l q.b - pL l q.a≤t.hi))=_
    rw[hpa,hpb]
   have hmm:=mem_pair (t:=t) (List.mem_of_getElem? hq)
   generalize hc:(decide (t.lo≤yb - ya)&&decide (yb - ya≤t.hi))=c at q39 hf
   clear hc
   cases c with
   |false=>
    rw[all_no hmm hf]
    refine k_seq (kQ (zB rfl (zF rfl rfl fld28_2 (zE rfl rfl hY0 sh24 rfl ?_))))
    refine zw rfl ty24 rfl (List.length_map _) ?_
    refine zb rfl rfl rfl (zA (k_cT rfl (decide_eq_true (by omega)) (zQ (k_seq (zK (k_seq (k_draw [.plain,.read true,.plain,.plain,.read true,.plain,.plain,.plain,.read true,.plain,.read true,.plain,.plain,.read true,.plain,.plain,.plain,.read true,.plain,.read true,.plain,.plain,.plain] (by kernel_rfl) (by kernel_rfl) (by kernel_rfl) ?_)))))))
    refine zD (zF rfl rfl fld28_3 (zA rfl)) ?_
    refine zO rfl (zL rfl rfl hY0 sh26 rfl (zA rfl)) ?_
    refine zD (zB rfl (zA rfl)) (zD (zF rfl rfl fld28_2 (zA rfl)) ?_)
    refine zO rfl (zE rfl rfl hY0 sh24 rfl (zA rfl)) ?_
    refine zD (zB rfl (zA rfl)) (zD (zp (u:=(q).u) rfl ty24 rfl rfl (Int.natCast_nonneg _) (by simp[hq]) cl48 (zA rfl)) ?_)
    refine zD (o_idxE rfl ty48 rfl rfl (by omega) (by omega) cl3 (zA rfl)) ?_
    refine zO rfl (zX rfl rfl sh3 rfl (zA rfl)) ?_
    refine zD (zp (u:=.int .i64 yb) rfl ty29 rfl rfl (by omega) (by rw[List.getElem?_map,hlb];rfl) cl3 (zA rfl)) ?_
    refine zO rfl (zX rfl rfl sh3 rfl (zA rfl)) ?_
    refine zD (zB rfl (zA rfl)) (zD (zF rfl rfl fld28_2 (zA rfl)) ?_)
    refine zO rfl (zE rfl rfl hY0 sh24 rfl (zA rfl)) ?_
    refine zD (zB rfl (zA rfl)) (zD (zp (u:=(q).u) rfl ty24 rfl rfl (Int.natCast_nonneg _) (by simp[hq]) cl48 (zA rfl)) ?_)
    refine zD (o_idxE rfl ty48 rfl rfl (by omega) (by omega) cl3 (zA rfl)) ?_
    refine zO rfl (zX rfl rfl sh3 rfl (zA rfl)) ?_
    refine zD (zp (u:=.int .i64 ya) rfl ty29 rfl rfl (by omega) (by rw[List.getElem?_map,hla];rfl) cl3 (zA rfl)) ?_
    refine zO rfl (zX rfl rfl sh3 rfl (zA rfl)) ?_
    refine zD (o_sub rfl rfl rfl (by unfold I64;omega) (zA rfl)) ?_
    refine zD (zS rfl (q39) (.lrefl _) (zA rfl)) ?_
    refine zD (o_not rfl rfl (zA rfl)) ?_
    refine d_nil ?_
    refine zM [(1,.lst .ro 1 (zR l)),(2,U.box 0 0),(8,.int .i64 ↑m),(99,U.bool !Bool.false)] (Y) (.c4 rfl rfl rfl rfl (.nil rfl)) rfl fun fr=>?_
    refine k_cT rfl rfl ?_
    refine kQ (zC rfl (zA (zc ?_)))
    refine⟨.inr rfl,_,.cons _ _ _ _ (.tmp 4) .nil,?_⟩
    exact .refl _
   |true=>
    refine k_seq (kQ (zB rfl (zF rfl rfl fld28_2 (zE rfl rfl hY0 sh24 rfl ?_))))
    refine zw rfl ty24 rfl (List.length_map _) ?_
    refine zb rfl rfl rfl (zA (k_cT rfl (decide_eq_true (by omega)) (zQ (k_seq (zK (k_seq (k_draw [.plain,.read true,.plain,.plain,.read true,.plain,.plain,.plain,.read true,.plain,.read true,.plain,.plain,.read true,.plain,.plain,.plain,.read true,.plain,.read true,.plain,.plain,.plain] (by kernel_rfl) (by kernel_rfl) (by kernel_rfl) ?_)))))))
    refine zD (zF rfl rfl fld28_3 (zA rfl)) ?_
    refine zO rfl (zL rfl rfl hY0 sh26 rfl (zA rfl)) ?_
    refine zD (zB rfl (zA rfl)) (zD (zF rfl rfl fld28_2 (zA rfl)) ?_)
    refine zO rfl (zE rfl rfl hY0 sh24 rfl (zA rfl)) ?_
    refine zD (zB rfl (zA rfl)) (zD (zp (u:=(q).u) rfl ty24 rfl rfl (Int.natCast_nonneg _) (by simp[hq]) cl48 (zA rfl)) ?_)
    refine zD (o_idxE rfl ty48 rfl rfl (by omega) (by omega) cl3 (zA rfl)) ?_
    refine zO rfl (zX rfl rfl sh3 rfl (zA rfl)) ?_
    refine zD (zp (u:=.int .i64 yb) rfl ty29 rfl rfl (by omega) (by rw[List.getElem?_map,hlb];rfl) cl3 (zA rfl)) ?_
    refine zO rfl (zX rfl rfl sh3 rfl (zA rfl)) ?_
    refine zD (zB rfl (zA rfl)) (zD (zF rfl rfl fld28_2 (zA rfl)) ?_)
    refine zO rfl (zE rfl rfl hY0 sh24 rfl (zA rfl)) ?_
    refine zD (zB rfl (zA rfl)) (zD (zp (u:=(q).u) rfl ty24 rfl rfl (Int.natCast_nonneg _) (by simp[hq]) cl48 (zA rfl)) ?_)
    refine zD (o_idxE rfl ty48 rfl rfl (by omega) (by omega) cl3 (zA rfl)) ?_
    refine zO rfl (zX rfl rfl sh3 rfl (zA rfl)) ?_
    refine zD (zp (u:=.int .i64 ya) rfl ty29 rfl rfl (by omega) (by rw[List.getElem?_map,hla];rfl) cl3 (zA rfl)) ?_
    refine zO rfl (zX rfl rfl sh3 rfl (zA rfl)) ?_
    refine zD (o_sub rfl rfl rfl (by unfold I64;omega) (zA rfl)) ?_
    refine zD (zS rfl (q39) (.lrefl _) (zA rfl)) ?_
    refine zD (o_not rfl rfl (zA rfl)) ?_
    refine d_nil ?_
    refine zM [(1,.lst .ro 1 (zR l)),(2,U.box 0 0),(8,.int .i64 ↑m),(99,U.bool !Bool.true)] (Y) (.c4 rfl rfl rfl rfl (.nil rfl)) rfl fun fr=>?_
    refine k_cF rfl rfl ?_
    refine zQ (k_region (zB rfl ?_))
    refine yT rfl rfl rfl (by unfold I64;omega) (zC rfl (zA ?_))
    exact⟨k3 - 1,by omega,m+1,by omega,by rw[List.take_add_one,hq,List.map_append,List.all_append,hall3];simp[hf],rfl,.cons rfl (.cons rfl (.cons rfl (.nil rfl)))⟩
  ·have hmN:m=t.pairs.length:=by omega
   subst hmN
   rw[List.take_length]at hall3
   have hfin:(yZ t).all (fitS (pL l))=true:=by unfold yZ;rw[List.all_append,hall,hall3];rfl
   rw[hfin]
   refine k_seq (kQ (zB rfl (zF rfl rfl fld28_2 (zE rfl rfl hY0 sh24 rfl ?_))))
   refine zw rfl ty24 rfl (List.length_map _) ?_
   refine zb rfl rfl rfl (zA (k_cF rfl (decide_eq_false (by omega)) (yO (kQ (zC rfl (zA (zc ?_)))))))
   refine⟨.inr rfl,_,.cons _ _ _ _ (.tmp 4) .nil,?_⟩
   exact .refl _
end
end Go.Proofs.Ytinhcdijbcamaaa.tuneSure
