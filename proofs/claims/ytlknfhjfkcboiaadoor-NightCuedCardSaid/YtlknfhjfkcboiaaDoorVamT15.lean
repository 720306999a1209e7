import Derived.Test.YtlknfhjfkcboiaaDoorVamT14
set_option linter.unusedVariables false
set_option linter.unusedSimpArgs false
set_option linter.constructorNameAsVariable false
namespace Go.Proofs.YtlknfhjfkcboiaaDoor.night
open Vam
variable {is:FuncId→Bool}{orc:Known}
noncomputable def b23:Code:=(Tryd.f23.body).getD .skip
theorem body23:bodyOf Tryd.prog 23=some (31,b23,[.tmp 4]):=by kernel_rfl
theorem pure23:pureFn Tryd.prog 23=true:=by kernel_rfl
noncomputable def b8:Code:=(Tryd.f8.body).getD .skip
theorem body8:bodyOf Tryd.prog 8=some (195,b8,[.tmp 6]):=by kernel_rfl
theorem pure8:pureFn Tryd.prog 8=true:=by kernel_rfl
set_option maxHeartbeats 8000000 in
theorem ret23(hi:Off is)(A:List Int)(hl:A.length≤4096):RetP Tryd.prog is orc 23 [.lst .ro 1 (zF A),.lst .ro 1 (zF A)] (.bool true):=by
 refine yE body23 pure23 (hi 23 (by decide)) rfl rfl (yr (zb 6 .ro (fun h=>by cases h) 1 A) (zb 6 .ro (fun h=>by cases h) 1 A)) (.inl (.bool _ _)) ?_
 refine kQ (zB rfl (zC (kQ (zA rfl (zZ rfl ty22 rfl (List.length_map _) ?_)))))
 refine zA rfl (zZ rfl ty22 rfl (List.length_map _) ?_)
 refine wD rfl rfl rfl (zB rfl (zC (k_seq (kQ (zB rfl (zC (zJ ?_)))))))
 refine yY (fun kk s2=>∃i:Nat,kk+i=A.length∧s2.st=[]∧Holds s2 [(0,.lst .ro 1 (zF A)),(1,.lst .ro 1 (zF A)),(5,.bool true),(6,.int .i64 i)]) (fun kk s2 hI=>?_) A.length _ ⟨0,by omega,rfl,.cons rfl (.cons rfl (.cons (by show U.bool (decide _)=_;simp) (.cons rfl (.nil rfl))))⟩
 obtain⟨i,hk,hst2,hs2⟩:=hI
 refine zK _ _ hs2 hst2 fun fr2=>?_
 by_cases hj:i<A.length
 ·have hx:A[i]? =some (A[i]'hj):=List.getElem?_eq_getElem hj
  generalize A[i]'hj=x at hx
  refine k_seq (kQ (zA rfl (zA rfl (o_gD rfl rfl rfl rfl rfl (zA rfl (o_gD rfl rfl rfl rfl rfl (zA rfl (o_gD rfl rfl rfl rfl rfl ?_))))))))
  refine zZ rfl ty22 rfl (List.length_map _) ?_
  refine o_gD rfl rfl rfl rfl rfl (zV rfl rfl rfl (zT rfl rfl rfl ?_))
  refine zC (k_cT rfl (decide_eq_true (by omega)) (zL (k_seq (zJ (zAI [.plain,.plain,.plain,.read true,.plain,.plain,.plain,.read true,.plain,.plain] (by kernel_rfl) (by kernel_rfl) (by kernel_rfl) ?_)))))
  refine zG (zA rfl (zC rfl)) (zG (zA rfl (zC rfl)) (zG (zn (u:=.int .i64 (x)) rfl ty22 rfl rfl (Int.natCast_nonneg _) (by simp[hx]) cl3 (zC rfl)) ?_))
  refine yA rfl (zQ rfl rfl sh3 rfl (zC rfl)) ?_
  refine zG (zA rfl (zC rfl)) (zG (zA rfl (zC rfl)) (zG (zn (u:=.int .i64 (x)) rfl ty22 rfl rfl (Int.natCast_nonneg _) (by simp[hx]) cl3 (zC rfl)) ?_))
  refine yA rfl (zQ rfl rfl sh3 rfl (zC rfl)) ?_
  refine zG (wD rfl rfl rfl (zC rfl)) ?_
  refine zG (zB rfl (zC rfl)) ?_
  refine zCB ?_
  refine k_region (zA rfl ?_)
  refine zw rfl rfl rfl (by unfold I64;omega) (zB rfl (zC ?_))
  exact⟨kk - 1,by omega,i+1,by omega,rfl,.cons rfl (.cons rfl (.cons (by show U.bool (decide _)=_;simp) (.cons rfl (.nil rfl))))⟩
 ·refine k_seq ?_
  refine kQ (zA rfl (zA rfl (o_gD rfl rfl rfl rfl rfl (zA rfl (o_gD rfl rfl rfl rfl rfl (zA rfl (o_gD rfl rfl rfl rfl rfl (zZ rfl ty22 rfl (List.length_map _) ?_))))))))
  refine o_gD rfl rfl rfl rfl rfl (zV rfl rfl rfl (zT rfl rfl rfl ?_))
  refine zC (k_cF rfl (decide_eq_false (by omega)) (yK (kQ (zA rfl (zB rfl (zC (za ?_)))))))
  refine⟨.inr rfl,_,.cons _ _ _ _ (.tmp 4) .nil,?_⟩
  exact .refl _
  done
def dnI(b:Bk)(bits:List Int)(i:Nat):Int:=if choP b bits i=true then -1 else truI b bits i
def dnL(b:Bk)(bits:List Int)(n:Nat):List Int:=(List.range n).map (dnI b bits)
theorem zEZ(b:Bk)(bits:List Int)(n:Nat):(dnL b bits n).length=n:=by simp[dnL]
theorem dnL_succ(b:Bk)(bits:List Int)(n:Nat):dnL b bits (n+1)=dnL b bits n++[dnI b bits n]:=by simp[dnL,List.range_succ]
theorem dnL_at{b:Bk}{bits:List Int}{n i:Nat}(h:i<n):(dnL b bits n)[i]? =some (dnI b bits i):=by simp[dnL,h]
theorem dnI_b{b:Bk}(h:BOk b)(bits:List Int){i:Nat}{q:Sc}(hq:b.scenes[i]? =some q):dnB b i (dnI b bits i)=true∧(dnI b bits i= -1↔choP b bits i=true):=by
 have ht:=truI_b h bits hq
 have hs:=h.sc i q hq
 unfold dnB dnI
 by_cases hc:choP b bits i=true
 ·rw[if_pos hc,choP_must i hc]
  exact⟨rfl,(fun _=>hc),(fun _=>rfl)⟩
 ·rw[if_neg hc,hq]
  refine⟨?_,(fun h2=>by omega),(fun h2=>absurd h2 hc)⟩
  show(_||inS q.lo q.hi (truI b bits i))=true
  rw[zEN.2 ht,Bool.or_true]
theorem dn_done{b:Bk}(h:BOk b)(bits:List Int){k:Nat}(hk:k≤b.scenes.length):zBi b (dnL b bits k)=true:=by
 unfold zBi
 rw[zEZ,decide_eq_true hk,Bool.true_and,dnF_at]
 intro j x hx
 have hj:j<k:=by have:=(List.getElem?_eq_some_iff.1 hx).1;rw[zEZ]at this;exact this
 rw[dnL_at hj]at hx
 cases hx
 rw[Nat.zero_add]
 exact(dnI_b h bits (List.getElem?_eq_getElem (by omega))).1
theorem dn_left{b:Bk}(h:BOk b)(bits:List Int){k:Nat}(hk:k≤b.scenes.length):wk (dnL b bits k)=memP (choP b bits) k:=by
 unfold wk
 rw[zEZ]
 refine zDB fun i hi=>?_
 unfold zEK
 rw[dnL_at hi]
 have:=(dnI_b h bits (i:=i) (List.getElem?_eq_getElem (by omega))).2
 show decide (dnI b bits i= -1)=_
 cases hc:choP b bits i with
 |true=>exact decide_eq_true (this.2 hc)
 |false=>exact decide_eq_false (fun e=>by rw[this.1 e]at hc;cases hc)
theorem tru_rg{b:Bk}(h:BOk b)(bits:List Int):∀x∈truL b bits b.scenes.length,0≤x∧x≤600:=by
 intro x hx
 obtain⟨i,hi,rfl⟩:=List.mem_map.1 hx
 have hi:=List.mem_range.1 hi
 have hq:b.scenes[i]? =some b.scenes[i]:=List.getElem?_eq_getElem hi
 have:=truI_b h bits hq
 have:=h.sc i _ hq
 omega
theorem dn_goes{b:Bk}(h:BOk b)(bits:List Int){k:Nat}(hk:k≤b.scenes.length):Goes b (dnL b bits k) (truL b bits b.scenes.length):=by
 refine⟨truL_len _ _ _,fun i x hx hne=>?_,fun i q x hq hx _=>?_⟩
 ·have hi:i<k:=by have:=(List.getElem?_eq_some_iff.1 hx).1;rw[zEZ]at this;exact this
  rw[dnL_at hi]at hx
  cases hx
  rw[truL_at (by omega)]
  have h1:=(dnI_b h bits (i:=i) (List.getElem?_eq_getElem (by omega))).2
  unfold dnI at hne h1 ⊢
  by_cases hc:choP b bits i=true
  ·rw[if_pos hc]at hne;exact absurd rfl hne
  ·rw[if_neg hc]
 ·have hi:=(List.getElem?_eq_some_iff.1 hq).1
  rw[truL_at hi]at hx
  cases hx
  exact(truI_b h bits hq).2
set_option maxHeartbeats 16000000 in
set_option maxRecDepth 20000 in
theorem ret8(hi:Off is)(b:Bk)(many:Int)(bits:List Int)(r24:RetP Tryd.prog is orc 24 [] (.bool true)):RetP Tryd.prog is orc 8 [b.u,.int .i64 many,.lst .ro 1 (zF bits)] (.bool true):=by
 have q29:=ret29 (orc:=orc) hi b
 refine yE body8 pure8 (hi 8 (by decide)) rfl rfl (zCl (zAl b 4) (.int _ _ _) (zb 6 .ro (fun h=>by cases h) 1 bits)) (.inl (.bool _ _)) ?_
 cases hv:zDe b with
 |false=>
  rw[hv]at q29
  refine kQ (yV rfl rfl (zB rfl (zC ?_)))
  refine zK [(1,.int .i64 many),(2,.lst .ro 1 (zF bits)),(3,U.box 0 0)] ([SB.box (Bk.cs b)]) (.cons rfl (.cons rfl (.cons rfl (.nil rfl)))) rfl fun fr=>?_
  refine k_seq (kQ (zU rfl rfl rfl sh25 rfl (zM rfl (q29) (.lrefl _) (yF rfl rfl (zC (k_cT rfl rfl ?_))))))
  refine kQ (zM rfl (r24) (.lrefl _) (zB rfl (zC (za ?_))))
  refine⟨.inr rfl,_,.cons _ _ _ _ (.tmp 6) .nil,?_⟩
  exact .refl _
 |true=>
  rw[hv]at q29
  have h:=(zFR b).1 hv
  have hn:=h.sn
  have q30:=ret30 (orc:=orc) hi h bits
  have q35:=ret35 (orc:=orc) hi h bits
  have q38:=ret38 (orc:=orc) hi many (b.scenes.length+1) (by omega)
  have hkb:=turnI_b (n:=many) (b:=(b.scenes.length:Int)+1) (by omega)
  obtain⟨k,hk⟩:∃k:Nat,zDK many ((b.scenes.length:Int)+1)=k:=⟨(zDK many ((b.scenes.length:Int)+1)).toNat,by omega⟩
  rw[hk]at q38 hkb
  have hkn:k≤b.scenes.length:=by omega
  refine kQ (yV rfl rfl (zB rfl (zC ?_)))
  refine zK [(1,.int .i64 many),(2,.lst .ro 1 (zF bits)),(3,U.box 0 0)] ([SB.box (Bk.cs b)]) (.cons rfl (.cons rfl (.cons rfl (.nil rfl)))) rfl fun fr=>?_
  refine k_seq (kQ (zU rfl rfl rfl sh25 rfl (zM rfl (q29) (.lrefl _) (yF rfl rfl (zC (k_cF rfl rfl ?_))))))
  refine zL (k_seq (zAI [.read true,.plain,.quiet,.read true,.plain,.plain,.plain,.plain] (by kernel_rfl) (by kernel_rfl) (by kernel_rfl) ?_))
  refine yA rfl (zU rfl rfl rfl sh25 rfl (zC rfl)) ?_
  refine zG (zA rfl (zC rfl)) (d_callQ rfl (q30) (.lrefl _) ?_)
  refine yA rfl (zU rfl rfl rfl sh25 rfl (zC rfl)) ?_
  refine zG (zA rfl (zC rfl)) (zG (zM rfl (q35) (.lrefl _) (zC rfl)) ?_)
  refine zG (zB rfl (zC rfl)) ?_
  refine zG (zB rfl (zC rfl)) ?_
  refine zCB ?_
  refine kQ (zA rfl (zD rfl rfl zf (zE rfl rfl rfl sh23 rfl (zZ rfl ty23 rfl (List.length_map _) ?_))))
  refine zw rfl rfl rfl (by unfold I64;omega) (zM rfl (q38) (.lrefl _) (zB rfl (zC ?_)))
  refine zK [(3,U.box 0 0),(7,.lst .ro 1 (zF (truL b bits (List.length (Bk.scenes b))))),(8,.lst .ro 1 (zF (memP (choP b bits) (List.length (Bk.scenes b))))),(9,.int .i64 ↑k)] ([SB.box (Bk.cs b)]) (.c4 rfl rfl rfl rfl (.nil rfl)) rfl fun fr=>?_
  refine kQ (zB rfl (zB rfl (zC (k_seq (kQ (zB rfl (zC (zJ ?_))))))))
  obtain⟨C,hC⟩:∃C,C=memP (choP b bits) b.scenes.length:=⟨_,rfl⟩
  have hCl:C.length≤b.scenes.length:=by rw[hC];exact zBs _ _
  have hCm:∀i,i<b.scenes.length→decide ((i:Int)∈C)=choP b bits i:=fun i hi=>by
   rw[hC]
   cases hc:choP b bits i with
   |true=>exact decide_eq_true ((mem_P hi).2 hc)
   |false=>exact decide_eq_false (fun h=>by rw[(mem_P hi).1 h]at hc;cases hc)
  rw[←hC]
  obtain⟨T,hT⟩:∃T,T=truL b bits b.scenes.length:=⟨_,rfl⟩
  have hTl:T.length=b.scenes.length:=by rw[hT,truL_len]
  have hTa:∀i,i<b.scenes.length→T[i]? =some (truI b bits i):=fun i hi=>by rw[hT];exact truL_at hi
  rw[←hT]
  refine yY (fun kk s2=>∃i:Nat,kk+i=k∧s2.st=[.box (Bk.cs b)]∧Holds s2 [(3,.box 0 0),(7,.lst .ro 1 (zF T)),(8,.lst .ro 1 (zF C)),(9,.int .i64 k),(10,accI (dnL b bits i)),(11,accI (memP (choP b bits) i)),(12,.int .i64 i)]) (fun kk s2 hI=>?_) k _ ⟨0,rfl,rfl,.c4 rfl rfl rfl rfl (.cons rfl (.cons rfl (.cons rfl (.nil rfl))))⟩
  obtain⟨i,hki,hst2,hs2⟩:=hI
  by_cases hin:i<k
  ·have hs1:=dnL_succ b bits i
   have hl1:=zEZ b bits i
   have hs3:=zCf (choP b bits) i
   have hl3:=zBs (choP b bits) i
   have q39:=ret39 (orc:=orc) hi C i (by omega)
   have hix:=idx_mem C i 0
   rw[hCm i (by omega)]at hix
   have hTi:=hTa i (by omega)
   unfold dnI at hs1
   generalize idxI C i 0=ix at*
   obtain⟨M1,hM1⟩:∃M1,M1=dnL b bits i:=⟨_,rfl⟩
   obtain⟨M2,hM2⟩:∃M2,M2=memP (choP b bits) i:=⟨_,rfl⟩
   rw[←hM1]at hs1 hl1 hs2
   rw[←hM2]at hs3 hl3 hs2
   refine zK _ _ hs2 hst2 fun fr2=>?_
   cases hc:choP b bits i with
   |true=>
    rw[hc,decide_eq_true_eq]at hix
    rw[hc,if_pos rfl]at hs1 hs3
    cases M1 with
    |nil=>cases M2 with
     |nil=>
      refine k_seq (kQ (zA rfl (zA rfl (zV rfl rfl rfl (zC (k_cT rfl (decide_eq_true (by omega)) (zL (k_seq ?_))))))))
      refine zJ (kQ (zA rfl (zA rfl (zM rfl (q39) (.lrefl _) (zEu rfl rfl rfl (zC (k_cT rfl (decide_eq_true (by omega)) (k_region ?_))))))))
      refine zA rfl (wg (es:=[_]) rfl ty22 ze3 cl3 rfl rfl rfl rfl rfl rfl rfl rfl ?_)
      refine yp rfl yf rfl rfl (by simp) (by simp) rfl (by simp) ?_
      refine zA rfl (zA rfl (wg (es:=[.int .i64 ↑i]) rfl ty22 ze3 cl3 rfl rfl rfl rfl rfl rfl rfl rfl ?_))
      refine yp rfl yf rfl rfl (by simp) (by simp) (by simp[yB,zg,oneU]) (by simp) ?_
      refine zB rfl (zB rfl (zC ?_))
      refine zK [(3,U.box 0 0),(7,.lst .ro 1 (zF T)),(8,.lst .ro 1 (zF C)),(9,.int .i64 ↑k),(10,U.lst Kd.own 1 [.int .i64 (-1:Int)]),(11,U.lst Kd.own 1 [.int .i64 ↑i]),(12,.int .i64 ↑i)] ([SB.box (Bk.cs b)]) (.c4 rfl rfl rfl rfl (.cons rfl (.cons rfl (.cons rfl (.nil rfl))))) rfl fun fr=>?_
      refine k_region (zA rfl ?_)
      refine zw rfl rfl rfl (by unfold I64;omega) (zB rfl (zC ?_))
      exact⟨kk - 1,by omega,i+1,by omega,rfl,.c4 rfl rfl rfl rfl (.cons (by rw[hs1];rfl) (.cons (by rw[hs3];rfl) (.cons rfl (.nil rfl))))⟩
     |cons z M2=>simp at hl1 hl3;omega
    |cons y M1=>cases M2 with
     |nil=>
      refine k_seq (kQ (zA rfl (zA rfl (zV rfl rfl rfl (zC (k_cT rfl (decide_eq_true (by omega)) (zL (k_seq ?_))))))))
      refine zJ (kQ (zA rfl (zA rfl (zM rfl (q39) (.lrefl _) (zEu rfl rfl rfl (zC (k_cT rfl (decide_eq_true (by omega)) (k_region ?_))))))))
      refine zA rfl (wg (es:=[_]) rfl ty22 ze3 cl3 rfl rfl rfl rfl rfl rfl rfl rfl ?_)
      refine wB 10 rfl yf rfl rfl rfl (by simp) (by simp) rfl (by simp at hl1 ⊢;omega) ?_
      refine zA rfl (zA rfl (wg (es:=[.int .i64 ↑i]) rfl ty22 ze3 cl3 rfl rfl rfl rfl rfl rfl rfl rfl ?_))
      refine yp rfl yf rfl rfl (by simp) (by simp) (by simp[yB,zg,oneU]) (by simp) ?_
      refine zB rfl (zB rfl (zC (k_region (zA rfl ?_))))
      refine zw rfl rfl rfl (by unfold I64;omega) (zB rfl (zC ?_))
      exact⟨kk - 1,by omega,i+1,by omega,rfl,.c4 rfl rfl rfl rfl (.cons (by rw[hs1,wU];rfl) (.cons (by rw[hs3];rfl) (.cons rfl (.nil rfl))))⟩
     |cons z M2=>
      refine k_seq (kQ (zA rfl (zA rfl (zV rfl rfl rfl (zC (k_cT rfl (decide_eq_true (by omega)) (zL (k_seq ?_))))))))
      refine zJ (kQ (zA rfl (zA rfl (zM rfl (q39) (.lrefl _) (zEu rfl rfl rfl (zC (k_cT rfl (decide_eq_true (by omega)) (k_region ?_))))))))
      refine zA rfl (wg (es:=[_]) rfl ty22 ze3 cl3 rfl rfl rfl rfl rfl rfl rfl rfl ?_)
      refine wB 10 rfl yf rfl rfl rfl (by simp) (by simp) rfl (by simp at hl1 ⊢;omega) ?_
      refine zA rfl (zA rfl (wg (es:=[.int .i64 ↑i]) rfl ty22 ze3 cl3 rfl rfl rfl rfl rfl rfl rfl rfl ?_))
      refine wB 11 rfl yf rfl rfl rfl (by simp) (by simp) (by simp[yB,zg,oneU]) (by simp at*;omega) ?_
      refine zB rfl (zB rfl (zC (k_region (zA rfl ?_))))
      refine zw rfl rfl rfl (by unfold I64;omega) (zB rfl (zC ?_))
      exact⟨kk - 1,by omega,i+1,by omega,rfl,.c4 rfl rfl rfl rfl (.cons (by rw[hs1,wU];rfl) (.cons (by rw[hs3,wU];rfl) (.cons rfl (.nil rfl))))⟩
   |false=>
    rw[hc,decide_eq_false_iff_not]at hix
    rw[hc,if_neg (by decide)]at hs1 hs3
    rw[List.append_nil]at hs3
    generalize truI b bits i=x at*
    cases M1 with
    |nil=>
     refine k_seq (kQ (zA rfl (zA rfl (zV rfl rfl rfl (zC (k_cT rfl (decide_eq_true (by omega)) (zL (k_seq ?_))))))))
     refine zJ (kQ (zA rfl (zA rfl (zM rfl (q39) (.lrefl _) (zEu rfl rfl rfl (zC (k_cF rfl (decide_eq_false (by omega)) (k_region ?_))))))))
     refine zA rfl (zA rfl (zA rfl (zn (u:=.int .i64 (x)) rfl ty22 rfl rfl (Int.natCast_nonneg _) (by simp[hTi]) cl3 ?_)))
     refine zQ rfl rfl sh3 rfl ?_
     refine wg (es:=[.int .i64 x]) rfl ty22 ze3 cl3 rfl rfl rfl rfl rfl rfl rfl rfl ?_
     refine yp rfl yf rfl rfl (by simp) (by simp) (by simp[yB,zg,oneU]) (by simp) ?_
     refine zB rfl (zC ?_)
     refine zK [(3,U.box 0 0),(7,.lst .ro 1 (zF T)),(8,.lst .ro 1 (zF C)),(9,.int .i64 ↑k),(10,U.lst Kd.own 1 [.int .i64 x]),(11,accI M2),(12,.int .i64 ↑i)] ([SB.box (Bk.cs b)]) (.c4 rfl rfl rfl rfl (.cons rfl (.cons rfl (.cons rfl (.nil rfl))))) rfl fun fr=>?_
     refine k_region (zA rfl ?_)
     refine zw rfl rfl rfl (by unfold I64;omega) (zB rfl (zC ?_))
     exact⟨kk - 1,by omega,i+1,by omega,rfl,.c4 rfl rfl rfl rfl (.cons (by rw[hs1];rfl) (.cons (congrArg accI hs3.symm) (.cons rfl (.nil rfl))))⟩
    |cons y M1=>
     refine k_seq (kQ (zA rfl (zA rfl (zV rfl rfl rfl (zC (k_cT rfl (decide_eq_true (by omega)) (zL (k_seq ?_))))))))
     refine zJ (kQ (zA rfl (zA rfl (zM rfl (q39) (.lrefl _) (zEu rfl rfl rfl (zC (k_cF rfl (decide_eq_false (by omega)) (k_region ?_))))))))
     refine zA rfl (zA rfl (zA rfl (zn (u:=.int .i64 (x)) rfl ty22 rfl rfl (Int.natCast_nonneg _) (by simp[hTi]) cl3 ?_)))
     refine zQ rfl rfl sh3 rfl ?_
     refine wg (es:=[.int .i64 x]) rfl ty22 ze3 cl3 rfl rfl rfl rfl rfl rfl rfl rfl ?_
     refine wB 10 rfl yf rfl rfl rfl (by simp) (by simp) (by simp[yB,zg,oneU]) (by simp at hl1 ⊢;omega) ?_
     refine zB rfl (zC (k_region (zA rfl ?_)))
     refine zw rfl rfl rfl (by unfold I64;omega) (zB rfl (zC ?_))
     exact⟨kk - 1,by omega,i+1,by omega,rfl,.c4 rfl rfl rfl rfl (.cons (by rw[hs1,wU];rfl) (.cons (congrArg accI hs3.symm) (.cons rfl (.nil rfl))))⟩
  ·have hie:i=k:=by omega
   subst hie
   have hdo:=dn_done h bits hkn
   have hdl:=dn_left h bits hkn
   have hdg:=dn_goes h bits hkn
   have hlen:=zEZ b bits i
   rw[←hdl]at hs2
   rw[←hT]at hdg
   generalize dnL b bits i=D at*
   have hu1:=uw_acc2 D
   have hu2:=uw_acc2 (wk D)
   refine zK _ _ hs2 hst2 fun fr2=>?_
   have q25:=ret25 (orc:=orc) hi h D
   have hcR:cueR b D=.tup [optU (cueO b D),.int .i64 (if(lgt b D).isSome=true then 0 else 4)]:=by unfold cueR;rw[if_pos hdo]
   rw[hcR]at q25
   have hdk:=done_ok h hdo
   have q21:=ret21 (orc:=orc) hi h
   cases ho:lgt b D with
   |none=>
    have hc:cueO b D=none:=by unfold cueO;rw[ho];rfl
    rw[ho,hc]at q25
    have q25:RetP Tryd.prog is orc 25 [b.u,.lst .ro 1 (zF D)] (.tup [.lst .full 0 [],.int .i64 4]):=q25
    have q23:=ret23 (orc:=orc) hi [] (by simp)
    refine k_seq (kQ (zA rfl (zA rfl (zV rfl rfl rfl (zC (k_cF rfl (decide_eq_false (by omega)) (yK (k_seq ?_))))))))
    refine k_region ?_
    refine zEh 10 rfl (fun _=>rfl) (u:=.lst .ro 1 (zF D)) hu1 ?_
    refine zEh 11 rfl (fun _=>rfl) (u:=.lst .ro 1 (zF (wk D))) hu2 ?_
    refine zU rfl rfl rfl sh25 rfl (zA rfl (zM rfl (q25) (.lrefl _) (zA rfl (zd rfl rfl rfl (zd rfl rfl rfl (zB rfl (zB rfl (zC ?_))))))))
    refine k_cut (fun s=>s.st=[.box (Bk.cs b)]∧Holds s [(13,.lst .full 0 []),(14,.int .i64 4)]) ?_ (fun st hM=>?_)
    ·by_cases h0:i=0
     ·have hD0:D=[]:=List.eq_nil_of_length_eq_zero (by omega)
      rw[hD0]at ho
      rw[ho]at q21
      have q21:RetP Tryd.prog is orc 21 [b.u] (.tup [.lst .full 0 [],.int .i64 4]):=q21
      refine kQ (zA rfl (wD rfl rfl rfl (zC (k_cT rfl (decide_eq_true (by omega)) (kQ (zU rfl rfl rfl sh25 rfl (zM rfl (q21) (.lrefl _) (zA rfl ?_))))))))
      refine zd rfl rfl rfl (zd rfl rfl rfl (zB rfl (zB rfl (zC (kQ (zA rfl (zA rfl (zM rfl (q23) (.lcons _ _ _ _ (.nil _ _ _) (.lcons _ _ _ _ (.nil _ _ _) (.lrefl _))) ?_))))))))
      refine yF rfl rfl (zA rfl (o_gD rfl rfl rfl rfl rfl (zA rfl (o_gD rfl rfl rfl rfl rfl (zA rfl (o_gD rfl rfl rfl rfl rfl (zAA rfl rfl rfl (zP rfl rfl rfl ?_))))))))
      refine zC ?_
      refine zK [(3,U.box 0 0),(7,.lst .ro 1 (zF T)),(9,.int .i64 ↑i),(10,.lst .ro 1 (zF D)),(11,.lst .ro 1 (zF (wk D))),(13,.lst .full 0 []),(14,.int .i64 4),(83,U.bool (decide ((4:Int)≠(4:Int))))] ([SB.box (Bk.cs b)]) (.c4 rfl rfl rfl rfl (.c4 rfl rfl rfl rfl (.nil rfl))) rfl fun fr=>?_
      refine k_cF rfl rfl ?_
      refine zL ?_
      exact⟨rfl,rfl,.cons rfl (.cons rfl (.nil rfl))⟩
     ·refine kQ ?_
      refine zA rfl (wD rfl rfl rfl (zC (k_cF rfl (decide_eq_false (by omega)) (zL ?_))))
      exact⟨rfl,rfl,.cons rfl (.cons rfl (.nil rfl))⟩
    ·obtain⟨hst3,hs3⟩:=hM
     refine zK _ _ hs3 hst3 fun fr3=>?_
     refine k_seq (kQ (zA rfl (zAA rfl rfl rfl (zC (k_cT rfl rfl ?_)))))
     refine kQ (zA rfl (wD rfl rfl rfl (zA rfl (o_gD rfl rfl rfl rfl rfl (zA rfl (o_gD rfl rfl rfl rfl rfl (zZ rfl ty22 rfl rfl ?_)))))))
     refine o_gD rfl rfl rfl rfl rfl (wD rfl rfl rfl (zT rfl rfl rfl ?_))
     refine zA rfl (o_gD rfl rfl rfl rfl rfl (zM rfl (r24) (.lrefl _) (zT rfl rfl rfl ?_)))
     refine zB rfl (zC (za ?_))
     refine⟨.inr rfl,_,.cons _ _ _ _ (.tmp 6) .nil,?_⟩
     exact .refl _
   |some m=>
    obtain⟨r,hc,hmr,hrg,hcho⟩:=cue_some hdk ho
    obtain⟨⟨hmc,hmf⟩,_⟩:=zDr ho
    rw[ho,hc]at q25
    have q25:RetP Tryd.prog is orc 25 [b.u,.lst .ro 1 (zF D)] (.tup [.lst .ro 1 (zF r),.int .i64 0]):=q25
    have hrl:=hcho.len
    have q23:=ret23 (orc:=orc) hi r (by omega)
    have q31:=ret31 (orc:=orc) hi h hcho
    have hlk:(wk D).length≤i:=by unfold wk;rw[hlen];exact zBs _ _
    have hml:m.length≤64:=by rw[hmr,List.length_append];omega
    have q33:=ret33 (orc:=orc) hi h (L:=m) (t:=T) hml hTl (fun x hx=>by have:=tru_rg h bits x (by rw[←hT];exact hx);omega)
    have hfg:=fit_goes hmc hmf hdg
    refine k_seq (kQ (zA rfl (zA rfl (zV rfl rfl rfl (zC (k_cF rfl (decide_eq_false (by omega)) (yK (k_seq ?_))))))))
    refine k_region ?_
    refine zEh 10 rfl (fun _=>rfl) (u:=.lst .ro 1 (zF D)) hu1 ?_
    refine zEh 11 rfl (fun _=>rfl) (u:=.lst .ro 1 (zF (wk D))) hu2 ?_
    refine zU rfl rfl rfl sh25 rfl (zA rfl (zM rfl (q25) (.lrefl _) (zA rfl (zd rfl rfl rfl (zd rfl rfl rfl (zB rfl (zB rfl (zC ?_))))))))
    refine k_cut (fun s=>s.st=[.box (Bk.cs b)]∧Holds s [(3,.box 0 0),(7,.lst .ro 1 (zF T)),(9,.int .i64 i),(10,.lst .ro 1 (zF D)),(11,.lst .ro 1 (zF (wk D))),(13,.lst .ro 1 (zF r)),(14,.int .i64 0)]) ?_ (fun st hM=>?_)
    ·by_cases h0:i=0
     ·have hD0:D=[]:=List.eq_nil_of_length_eq_zero (by omega)
      rw[hD0]at ho hmr
      rw[ho]at q21
      have hmr:m=r:=hmr
      rw[hmr]at q21
      have q21:RetP Tryd.prog is orc 21 [b.u] (.tup [.lst .ro 1 (zF r),.int .i64 0]):=q21
      refine kQ (zA rfl (wD rfl rfl rfl (zC (k_cT rfl (decide_eq_true (by omega)) (kQ (zU rfl rfl rfl sh25 rfl (zM rfl (q21) (.lrefl _) (zA rfl ?_))))))))
      refine zd rfl rfl rfl (zd rfl rfl rfl (zB rfl (zB rfl (zC (kQ (zA rfl (zA rfl (zM rfl (q23) (.lrefl _) ?_))))))))
      refine yF rfl rfl (zA rfl (o_gD rfl rfl rfl rfl rfl (zA rfl (o_gD rfl rfl rfl rfl rfl (zA rfl (o_gD rfl rfl rfl rfl rfl (zAA rfl rfl rfl (zP rfl rfl rfl ?_))))))))
      refine zC ?_
      refine zK [(3,U.box 0 0),(7,.lst .ro 1 (zF T)),(9,.int .i64 ↑i),(10,.lst .ro 1 (zF D)),(11,.lst .ro 1 (zF (wk D))),(13,.lst .ro 1 (zF r)),(14,.int .i64 0),(83,U.bool (decide ((0:Int)≠(0:Int))))] ([SB.box (Bk.cs b)]) (.c4 rfl rfl rfl rfl (.c4 rfl rfl rfl rfl (.nil rfl))) rfl fun fr=>?_
      refine k_cF rfl rfl ?_
      refine zL ?_
      exact⟨rfl,rfl,.c4 rfl rfl rfl rfl (.cons rfl (.cons rfl (.cons rfl (.nil rfl))))⟩
     ·refine kQ ?_
      refine zA rfl (wD rfl rfl rfl (zC (k_cF rfl (decide_eq_false (by omega)) (zL ?_))))
      exact⟨rfl,rfl,.c4 rfl rfl rfl rfl (.cons rfl (.cons rfl (.cons rfl (.nil rfl))))⟩
    ·obtain⟨hst3,hs3⟩:=hM
     refine zK _ _ hs3 hst3 fun fr3=>?_
     refine k_seq (kQ (zA rfl (zAA rfl rfl rfl (zC (k_cF rfl rfl ?_)))))
     refine zL ?_
     refine k_cut (fun s=>s.st=[.box (Bk.cs b)]∧Holds s [(3,.box 0 0),(7,.lst .ro 1 (zF T)),(9,.int .i64 i),(10,.lst .ro 1 (zF D)),(11,.lst .ro 1 (zF (wk D))),(13,.lst .ro 1 (zF r))]) ?_ (fun st hM=>?_)
     ·by_cases h0:r.length=0
      ·refine kQ ?_
       refine zU rfl rfl rfl sh25 rfl (zA rfl (zM rfl (q31) (.lrefl _) (yF rfl rfl (zA rfl (o_gD rfl rfl rfl rfl rfl (zA rfl (o_gD rfl rfl rfl rfl rfl (zZ rfl ty22 rfl (List.length_map _) ?_))))))))
       refine o_gD rfl rfl rfl rfl rfl (zEt rfl rfl rfl (o_gD rfl rfl rfl rfl rfl (zA rfl ?_)))
       refine zO [(3,U.box 0 0),(7,.lst .ro 1 (zF T)),(9,.int .i64 ↑i),(10,.lst .ro 1 (zF D)),(11,.lst .ro 1 (zF (wk D))),(13,.lst .ro 1 (zF r)),(100,U.bool !Bool.true),(104,U.bool (decide ((0:Int)< ↑(List.length r))))] [] ([SB.box (Bk.cs b)]) (.c4 rfl rfl rfl rfl (.c4 rfl rfl rfl rfl (.nil rfl))) rfl rfl fun fr=>?_
       refine o_gS rfl rfl rfl rfl (decide_eq_false (by omega)) ?_
       refine o_gS rfl rfl rfl rfl (decide_eq_false (by omega)) ?_
       refine o_gS rfl rfl rfl rfl (decide_eq_false (by omega)) ?_
       refine o_gS rfl rfl rfl rfl (decide_eq_false (by omega)) ?_
       refine o_gS rfl rfl rfl rfl (decide_eq_false (by omega)) ?_
       refine o_gD rfl rfl rfl rfl rfl (zP rfl rfl (decide_eq_false (by omega)) ?_)
       refine zP rfl rfl rfl ?_
       refine zC ?_
       refine zK [(3,U.box 0 0),(7,.lst .ro 1 (zF T)),(9,.int .i64 ↑i),(10,.lst .ro 1 (zF D)),(11,.lst .ro 1 (zF (wk D))),(13,.lst .ro 1 (zF r)),(111,.bool false)] ([SB.box (Bk.cs b)]) (.c4 rfl rfl rfl rfl (.cons rfl (.cons rfl (.cons rfl (.nil rfl))))) rfl fun fr=>?_
       refine k_cF rfl rfl ?_
       refine zL ?_
       exact⟨rfl,rfl,.c4 rfl rfl rfl rfl (.cons rfl (.cons rfl (.nil rfl)))⟩
      ·obtain⟨y,hy⟩:∃y,r[0]? =some y:=⟨r[0],List.getElem?_eq_getElem (by omega)⟩
       have hyk:=hrg y (List.mem_of_getElem? hy)
       refine kQ (zU rfl rfl rfl sh25 rfl (zA rfl (zM rfl (q31) (.lrefl _) (yF rfl rfl (zA rfl (o_gD rfl rfl rfl rfl rfl (zA rfl (o_gD rfl rfl rfl rfl rfl ?_))))))))
       refine zZ rfl ty22 rfl (List.length_map _) ?_
       refine o_gD rfl rfl rfl rfl rfl (zEt rfl rfl rfl (o_gD rfl rfl rfl rfl rfl (zA rfl ?_)))
       refine zO [(3,U.box 0 0),(7,.lst .ro 1 (zF T)),(9,.int .i64 ↑i),(10,.lst .ro 1 (zF D)),(11,.lst .ro 1 (zF (wk D))),(13,.lst .ro 1 (zF r)),(100,U.bool !Bool.true),(104,U.bool (decide ((0:Int)< ↑(List.length r))))] [] ([SB.box (Bk.cs b)]) (.c4 rfl rfl rfl rfl (.c4 rfl rfl rfl rfl (.nil rfl))) rfl rfl fun fr=>?_
       refine o_gD rfl rfl rfl rfl (decide_eq_true (by omega)) ?_
       refine zO [(3,U.box 0 0),(7,.lst .ro 1 (zF T)),(9,.int .i64 ↑i),(10,.lst .ro 1 (zF D)),(11,.lst .ro 1 (zF (wk D))),(13,.lst .ro 1 (zF r)),(100,U.bool !Bool.true),(104,U.bool (decide ((0:Int)< ↑(List.length r))))] [] ([SB.box (Bk.cs b)]) (.c4 rfl rfl rfl rfl (.c4 rfl rfl rfl rfl (.nil rfl))) rfl rfl fun fr=>?_
       refine zA rfl (o_gD rfl rfl rfl rfl (decide_eq_true (by omega)) ?_)
       refine zn (u:=.int .i64 (y)) rfl ty22 rfl rfl (Int.natCast_nonneg _) (by simp[hy]) cl3 ?_
       refine o_gD rfl rfl rfl rfl (decide_eq_true (by omega)) ?_
       refine zQ rfl rfl sh3 rfl ?_
       refine o_gD rfl rfl rfl rfl (decide_eq_true (by omega)) ?_
       refine zA rfl (o_gD rfl rfl rfl rfl (decide_eq_true (by omega)) ?_)
       refine zV rfl rfl rfl (o_gD rfl rfl rfl rfl rfl (zT rfl rfl (decide_eq_true (by omega)) ?_))
       refine zP rfl rfl rfl ?_
       refine zC ?_
       refine zK [(3,U.box 0 0),(7,.lst .ro 1 (zF T)),(9,.int .i64 ↑i),(10,.lst .ro 1 (zF D)),(11,.lst .ro 1 (zF (wk D))),(13,.lst .ro 1 (zF r)),(111,U.bool (decide (y< ↑i)))] ([SB.box (Bk.cs b)]) (.c4 rfl rfl rfl rfl (.cons rfl (.cons rfl (.cons rfl (.nil rfl))))) rfl fun fr=>?_
       refine k_cF rfl (decide_eq_false (by omega)) (zL ?_)
       exact⟨rfl,rfl,.c4 rfl rfl rfl rfl (.cons rfl (.cons rfl (.nil rfl)))⟩
     ·obtain⟨hst4,hs4⟩:=hM
      refine zK _ _ hs4 hst4 fun fr4=>?_
      have hum:UW (.u (.lst .own 1 (zF (wk D)++zF r))) (.u (.lst .ro 1 (zF m))):=by
       rw[hmr,←List.map_append];exact .ro _ _ _
      refine kQ (wg (es:=[]) rfl ty22 ze3 cl3 rfl rfl rfl rfl rfl rfl rfl rfl ?_)
      refine zA rfl ?_
      refine yp rfl yf rfl rfl (by simp) (by simp) (by simp[yB,zg,oneU]) (by simp;omega) ?_
      refine zA rfl ?_
      refine o_appendO rfl yf rfl rfl (by simp) (by simp) (by simp[yB,zg,oneU]) (by simp;omega) ?_
      refine zB rfl (zC (kQ ?_))
      refine zEh 17 rfl (fun _=>rfl) (u:=.lst .ro 1 (zF m)) hum ?_
      have hen:=h.en
      obtain⟨e0,he0⟩:∃x,b.ends[0]? =some x:=⟨b.ends[0],List.getElem?_eq_getElem (by omega)⟩
      obtain⟨e1,he1⟩:∃x,b.ends[1]? =some x:=⟨b.ends[1],List.getElem?_eq_getElem (by omega)⟩
      obtain⟨e2,he2⟩:∃x,b.ends[2]? =some x:=⟨b.ends[2],List.getElem?_eq_getElem (by omega)⟩
      have f0:=hfg 0 (by decide)
      have f1:=hfg 1 (by decide)
      have f2:=hfg 2 (by decide)
      rw[he0]at f0
      rw[he1]at f1
      rw[he2]at f2
      have f0:clS b T m true 1≤e0:=f0
      have f1:clS b T m true 2≤e1:=f1
      have f2:clS b T m true 3≤e2:=f2
      generalize clS b T m true 1=C1 at*
      generalize clS b T m true 2=C2 at*
      generalize clS b T m true 3=C3 at*
      refine zU rfl rfl rfl sh25 rfl (zA rfl (zA rfl (zM rfl (q33) (.lrefl _) (yO rfl ze44 ?_))))
      refine yG rfl rfl sh44 rfl rfl rfl rfl rfl ?_
      refine zC ?_
      refine zK [(3,U.box 0 0),(7,.lst .ro 1 (zF T)),(9,.int .i64 ↑i),(10,.lst .ro 1 (zF D)),(13,.lst .ro 1 (zF r)),(18,U.box 1 0)] ([SB.box (Bk.cs b),SB.box [.int .i64 C1,.int .i64 C2,.int .i64 C3]]) (.c4 rfl rfl rfl rfl (.cons rfl (.cons rfl (.nil rfl)))) rfl fun fr=>?_
      refine k_seq (kQ (zB rfl (zC (zJ ?_))))
      refine yY (fun kk s2=>∃p:Nat,kk+p=3∧s2.st=[.box (Bk.cs b),.box (tri C1 C2 C3)]∧Holds s2 [(3,.box 0 0),(7,.lst .ro 1 (zF T)),(9,.int .i64 i),(10,.lst .ro 1 (zF D)),(13,.lst .ro 1 (zF r)),(18,.box 1 0),(19,.int .i64 p)]) (fun kk s2 hI=>?_) 3 _ ⟨0,rfl,rfl,.c4 rfl rfl rfl rfl (.cons rfl (.cons rfl (.cons rfl (.nil rfl))))⟩
      obtain⟨p,hkp,hst5,hs5⟩:=hI
      by_cases hp:p<3
      ·rcases(show p=0∨p=1∨p=2 by omega)with rfl|rfl|rfl
       ·refine zK _ _ hs5 hst5 fun fr5=>?_
        refine k_seq (kQ (zA rfl (zV rfl rfl rfl (zC (k_cT rfl rfl ?_)))))
        refine zL (k_seq (zJ (k_seq (zAI [.plain,.plain,.read true,.plain,.read true,.plain,.plain,.read true,.plain] (by kernel_rfl) (by kernel_rfl) (by kernel_rfl) ?_))))
        refine zG (zA rfl (zC rfl)) (zG (wu rfl ty44 rfl rfl (by omega) (by omega) cl3 (zC rfl)) ?_)
        refine yA rfl (zE rfl rfl rfl sh3 rfl (zC rfl)) (zG (zD rfl rfl zAj (zC rfl)) ?_)
        refine yA rfl (zE rfl rfl rfl sh22 rfl (zC rfl)) (zG (zA rfl (zC rfl)) (zG (zn (u:=.int .i64 (e0)) rfl ty22 rfl rfl (Int.natCast_nonneg _) (by simp[he0]) cl3 (zC rfl)) ?_))
        refine yA rfl (zQ rfl rfl sh3 rfl (zC rfl)) ?_
        refine zG (zEt rfl rfl rfl (zC rfl)) ?_
        refine zCB ?_
        refine k_cF rfl (decide_eq_false (by omega)) (zL (k_region (zA rfl ?_)))
        refine zw rfl rfl rfl (by unfold I64;omega) (zB rfl (zC ?_))
        exact⟨kk - 1,by omega,1,by omega,rfl,.c4 rfl rfl rfl rfl (.cons rfl (.cons rfl (.cons rfl (.nil rfl))))⟩
       ·refine zK _ _ hs5 hst5 fun fr5=>?_
        refine k_seq (kQ (zA rfl (zV rfl rfl rfl (zC (k_cT rfl rfl ?_)))))
        refine zL (k_seq (zJ (k_seq (zAI [.plain,.plain,.read true,.plain,.read true,.plain,.plain,.read true,.plain] (by kernel_rfl) (by kernel_rfl) (by kernel_rfl) ?_))))
        refine zG (zA rfl (zC rfl)) (zG (wu rfl ty44 rfl rfl (by omega) (by omega) cl3 (zC rfl)) ?_)
        refine yA rfl (zE rfl rfl rfl sh3 rfl (zC rfl)) (zG (zD rfl rfl zAj (zC rfl)) ?_)
        refine yA rfl (zE rfl rfl rfl sh22 rfl (zC rfl)) (zG (zA rfl (zC rfl)) (zG (zn (u:=.int .i64 (e1)) rfl ty22 rfl rfl (Int.natCast_nonneg _) (by simp[he1]) cl3 (zC rfl)) ?_))
        refine yA rfl (zQ rfl rfl sh3 rfl (zC rfl)) ?_
        refine zG (zEt rfl rfl rfl (zC rfl)) ?_
        refine zCB ?_
        refine k_cF rfl (decide_eq_false (by omega)) (zL (k_region (zA rfl ?_)))
        refine zw rfl rfl rfl (by unfold I64;omega) (zB rfl (zC ?_))
        exact⟨kk - 1,by omega,2,by omega,rfl,.c4 rfl rfl rfl rfl (.cons rfl (.cons rfl (.cons rfl (.nil rfl))))⟩
       ·refine zK _ _ hs5 hst5 fun fr5=>?_
        refine k_seq (kQ (zA rfl (zV rfl rfl rfl (zC (k_cT rfl rfl ?_)))))
        refine zL (k_seq (zJ (k_seq (zAI [.plain,.plain,.read true,.plain,.read true,.plain,.plain,.read true,.plain] (by kernel_rfl) (by kernel_rfl) (by kernel_rfl) ?_))))
        refine zG (zA rfl (zC rfl)) (zG (wu rfl ty44 rfl rfl (by omega) (by omega) cl3 (zC rfl)) ?_)
        refine yA rfl (zE rfl rfl rfl sh3 rfl (zC rfl)) (zG (zD rfl rfl zAj (zC rfl)) ?_)
        refine yA rfl (zE rfl rfl rfl sh22 rfl (zC rfl)) (zG (zA rfl (zC rfl)) (zG (zn (u:=.int .i64 (e2)) rfl ty22 rfl rfl (Int.natCast_nonneg _) (by simp[he2]) cl3 (zC rfl)) ?_))
        refine yA rfl (zQ rfl rfl sh3 rfl (zC rfl)) ?_
        refine zG (zEt rfl rfl rfl (zC rfl)) ?_
        refine zCB ?_
        refine k_cF rfl (decide_eq_false (by omega)) (zL (k_region (zA rfl ?_)))
        refine zw rfl rfl rfl (by unfold I64;omega) (zB rfl (zC ?_))
        exact⟨kk - 1,by omega,3,by omega,rfl,.c4 rfl rfl rfl rfl (.cons rfl (.cons rfl (.cons rfl (.nil rfl))))⟩
      ·refine zK _ _ hs5 hst5 fun fr5=>?_
       by_cases hin2:i=b.scenes.length
       ·have hr0:r.length=0:=by
         cases r with
         |nil=>rfl
         |cons y r=>
          have h1:=hrg y List.mem_cons_self
          have h2:=(hcho.rg y List.mem_cons_self).2
          omega
        refine k_seq (kQ (zA rfl (zV rfl rfl rfl (zC (k_cF rfl (decide_eq_false (by omega)) (yK (k_seq (kQ ?_))))))))
        refine zA rfl (zD rfl rfl zf (zE rfl rfl rfl sh23 rfl (zZ rfl ty23 rfl (List.length_map _) ?_)))
        refine wD rfl rfl rfl (zC (k_cT rfl (decide_eq_true (by omega)) (kQ (zA rfl (zZ rfl ty22 rfl (List.length_map _) ?_)))))
        refine wD rfl rfl rfl (zA rfl (o_gD rfl rfl rfl rfl (decide_eq_true (by omega)) ?_))
        refine zM rfl (r24) (.lrefl _) (zT rfl rfl (decide_eq_true (by omega)) ?_)
        refine zB rfl (zC (za ?_))
        refine⟨.inr rfl,_,.cons _ _ _ _ (.tmp 6) .nil,?_⟩
        exact .refl _
       ·obtain⟨q,hq⟩:∃q,b.scenes[i]? =some q:=⟨b.scenes[i]'(by omega),List.getElem?_eq_getElem (by omega)⟩
        have hTi:=hTa i (by omega)
        have hti:=truI_b h bits hq
        generalize truI b bits i=x at*
        have q39:=ret39 (orc:=orc) hi r i (by omega)
        have hix:=idx_mem r i 0
        have hwq:wtA b i=q.wt:=by unfold wtA;rw[Int.toNat_natCast,hq];rfl
        have q32:=ret32 (orc:=orc) hi h (L:=r) (by omega) hcho.rg
        have hws:=(h.sc i q hq).2.1
        have hDl:(zF D).length≤64:=by simp;omega
        by_cases hir:(i:Int)∈r
        ·rw[decide_eq_true hir,decide_eq_true_eq]at hix
         obtain⟨r2,n1,n2,n3,n4,n5,_⟩:=cue_next (x:= -1) h hdo ho hmr hrg (by rw[hlen];exact hq) (fun _=>rfl) (fun hn=>absurd (by rw[hlen];exact hir) hn)
         rw[hlen,if_pos hir,hwq]at n5
         have q25b:=ret25 (orc:=orc) hi h (D++[-1])
         have hcb:cueR b (D++[-1])=.tup [.lst .ro 1 (zF r2),.int .i64 0]:=by unfold cueR;rw[if_pos n1,n3,if_pos n2];rfl
         rw[hcb]at q25b
         have q31b:=ret31 (orc:=orc) hi h n4
         have hr2l:=n4.len
         have q32b:=ret32 (orc:=orc) hi h (L:=r2) (by omega) n4.rg
         have hw1:=wt_sb h r
         have hw2:=wt_sb h r2
         generalize wt b r=w1 at*
         generalize wt b r2=w2 at*
         generalize idxI r i 0=ix at*
         have hu20:UW (.u (.lst .own 1 (zF D++[.int .i64 (-1)]))) (.u (.lst .ro 1 (zF (D++[-1])))):=by
          rw[show zF (D++[-1])=zF D++[.int .i64 (-1)]from List.map_append];exact .ro _ _ _
         refine k_seq (kQ (zA rfl (zV rfl rfl rfl (zC (k_cF rfl (decide_eq_false (by omega)) (yK (k_seq (kQ ?_))))))))
         refine zA rfl (zD rfl rfl zf (zE rfl rfl rfl sh23 rfl (zZ rfl ty23 rfl (List.length_map _) ?_)))
         refine wD rfl rfl rfl (zC (k_cF rfl (decide_eq_false (by omega)) (zL (kQ (wg (es:=[]) rfl ty22 ze3 cl3 rfl rfl rfl rfl rfl rfl rfl rfl ?_)))))
         refine zA rfl ?_
         refine yp rfl yf rfl rfl (by simp) (by simp) (by simp[yB,zg,oneU]) (by simp;omega) ?_
         refine zB rfl (zC ?_)
         refine zK [(3,U.box 0 0),(7,.lst .ro 1 (zF T)),(9,.int .i64 ↑i),(13,.lst .ro 1 (zF r)),(20,U.lst Kd.own 1 (zF D))] ([SB.box (Bk.cs b),SB.box (tri C1 C2 C3)]) (.c4 rfl rfl rfl rfl (.cons rfl (.nil rfl))) rfl fun fr=>?_
         refine kQ (zB rfl (zC (k_seq (kQ (zA rfl (zA rfl (zM rfl (q39) (.lrefl _) (zEu rfl rfl rfl ?_))))))))
         refine zC (k_cT rfl (decide_eq_true (by omega)) (kQ (zA rfl (wg (es:=[_]) rfl ty22 ze3 cl3 rfl rfl rfl rfl rfl rfl rfl rfl ?_))))
         refine wB 20 rfl yf rfl rfl rfl (by simp) (by simp) rfl (by simp;omega) ?_
         refine zB rfl (zC (k_region (zD rfl rfl zf (zE rfl rfl rfl sh23 rfl (zA rfl (zn (u:=(q).u) rfl ty23 rfl rfl (Int.natCast_nonneg _) (by simp[hq]) cl50 ?_))))))
         refine yd rfl rfl zBx ?_
         refine zQ rfl rfl sh3 rfl ?_
         refine zB rfl (zC ?_)
         refine zK [(3,U.box 0 0),(13,.lst .ro 1 (zF r)),(20,U.lst Kd.own 1 (zF D++[.int .i64 (-1:Int)])),(21,.int .i64 (Sc.wt q))] ([SB.box (Bk.cs b),SB.box (tri C1 C2 C3)]) (.c4 rfl rfl rfl rfl (.nil rfl)) rfl fun fr=>?_
         refine kQ ?_
         refine zEh 20 rfl (fun _=>rfl) (u:=.lst .ro 1 (zF (D++[-1]))) hu20 ?_
         refine zU rfl rfl rfl sh25 rfl (zA rfl (zM rfl (q25b) (.lrefl _) (zA rfl (zd rfl rfl rfl (zd rfl rfl rfl (zB rfl (zB rfl (zC ?_))))))))
         refine k_seq (zAI [.plain,.plain,.plain,.plain,.plain,.plain,.plain,.plain,.plain,.read true,.plain,.read false,.plain,.read true,.plain,.plain,.plain,.plain,.plain,.plain,.plain,.plain] (by kernel_rfl) (by kernel_rfl) (by kernel_rfl) ?_)
         refine zG (zA rfl (zC rfl)) (zG (wD rfl rfl rfl (zC rfl)) ?_)
         refine zG (zA rfl (zC rfl)) (d_gD rfl rfl rfl rfl rfl (zG (zU rfl rfl rfl sh25 rfl (zC rfl)) ?_))
         refine d_gD rfl rfl rfl rfl rfl (zG (zA rfl (zC rfl)) (d_gD rfl rfl rfl rfl rfl (zG (zM rfl (q31b) (.lrefl _) (zC rfl)) ?_)))
         refine zG (zT rfl rfl rfl (zC rfl)) ?_
         refine zG (zA rfl (zC rfl)) (d_gD rfl rfl rfl rfl rfl (zG (zA rfl (zC rfl)) ?_))
         refine zCN [(3,U.box 0 0),(13,.lst .ro 1 (zF r)),(22,.lst .ro 1 (zF r2)),(181,.bool true),(182,.int .i64 (Sc.wt q))] [] ([SB.box (Bk.cs b),SB.box (tri C1 C2 C3)]) (.c4 rfl rfl rfl rfl (.cons rfl (.nil rfl))) rfl rfl fun fr=>?_
         refine d_gD rfl rfl rfl rfl rfl ?_
         refine zCN [(3,U.box 0 0),(13,.lst .ro 1 (zF r)),(22,.lst .ro 1 (zF r2)),(181,.bool true),(182,.int .i64 (Sc.wt q))] [] ([SB.box (Bk.cs b),SB.box (tri C1 C2 C3)]) (.c4 rfl rfl rfl rfl (.cons rfl (.nil rfl))) rfl rfl fun fr=>?_
         refine yA rfl (zU rfl rfl rfl sh25 rfl (zC rfl)) ?_
         refine d_gD rfl rfl rfl rfl rfl (zG (zA rfl (zC rfl)) (d_gD rfl rfl rfl rfl rfl (zBE rfl (q32b) (.int _ _) (.lrefl _) ?_)))
         refine d_gD rfl rfl rfl rfl rfl ?_
         refine zG (zw rfl rfl rfl (by unfold I64;omega) (zC rfl)) ?_
         refine d_gD rfl rfl rfl rfl rfl (yA rfl (zU rfl rfl rfl sh25 rfl (zC rfl)) ?_)
         refine d_gD rfl rfl rfl rfl rfl (zG (zA rfl (zC rfl)) (d_gD rfl rfl rfl rfl rfl (zG (zM rfl (q32) (.lrefl _) (zC rfl)) ?_)))
         refine d_gD rfl rfl rfl rfl rfl (zG (zCQ rfl rfl rfl (zC rfl)) ?_)
         refine zG (zT rfl rfl rfl (zC rfl)) ?_
         refine zCN [(191,U.bool (decide (Sc.wt q+w2≤w1)))] [] ([SB.box (Bk.cs b),SB.box (tri C1 C2 C3)]) (.cons rfl (.nil rfl)) rfl rfl fun fr=>?_
         refine zG (zA rfl (zC rfl)) (d_gD rfl rfl rfl rfl (decide_eq_true (by omega)) ?_)
         refine zG (zM rfl (r24) (.lrefl _) (zC rfl)) ?_
         refine zG (zT rfl rfl (decide_eq_true (by omega)) (zC rfl)) ?_
         refine zG (zB rfl (zC rfl)) ?_
         refine zCB ?_
         refine za ?_
         refine⟨.inr rfl,_,.cons _ _ _ _ (.tmp 6) .nil,?_⟩
         exact .refl _
        ·rw[decide_eq_false hir,decide_eq_false_iff_not]at hix
         obtain⟨r2,n1,n2,n3,n4,n5,_⟩:=cue_next (x:=x) h hdo ho hmr hrg (by rw[hlen];exact hq) (fun hn=>absurd (by rw[hlen]at hn;exact hn) hir) (fun _=>hti)
         rw[hlen,if_neg hir]at n5
         have q25b:=ret25 (orc:=orc) hi h (D++[x])
         have hcb:cueR b (D++[x])=.tup [.lst .ro 1 (zF r2),.int .i64 0]:=by unfold cueR;rw[if_pos n1,n3,if_pos n2];rfl
         rw[hcb]at q25b
         have q31b:=ret31 (orc:=orc) hi h n4
         have hr2l:=n4.len
         have q32b:=ret32 (orc:=orc) hi h (L:=r2) (by omega) n4.rg
         have hw1:=wt_sb h r
         have hw2:=wt_sb h r2
         generalize wt b r=w1 at*
         generalize wt b r2=w2 at*
         generalize idxI r i 0=ix at*
         have hu20:UW (.u (.lst .own 1 (zF D++[.int .i64 (x)]))) (.u (.lst .ro 1 (zF (D++[x])))):=by
          rw[show zF (D++[x])=zF D++[.int .i64 (x)]from List.map_append];exact .ro _ _ _
         refine k_seq (kQ (zA rfl (zV rfl rfl rfl (zC (k_cF rfl (decide_eq_false (by omega)) (yK (k_seq (kQ ?_))))))))
         refine zA rfl (zD rfl rfl zf (zE rfl rfl rfl sh23 rfl (zZ rfl ty23 rfl (List.length_map _) ?_)))
         refine wD rfl rfl rfl (zC (k_cF rfl (decide_eq_false (by omega)) (zL (kQ (wg (es:=[]) rfl ty22 ze3 cl3 rfl rfl rfl rfl rfl rfl rfl rfl ?_)))))
         refine zA rfl ?_
         refine yp rfl yf rfl rfl (by simp) (by simp) (by simp[yB,zg,oneU]) (by simp;omega) ?_
         refine zB rfl (zC ?_)
         refine zK [(3,U.box 0 0),(7,.lst .ro 1 (zF T)),(9,.int .i64 ↑i),(13,.lst .ro 1 (zF r)),(20,U.lst Kd.own 1 (zF D))] ([SB.box (Bk.cs b),SB.box (tri C1 C2 C3)]) (.c4 rfl rfl rfl rfl (.cons rfl (.nil rfl))) rfl fun fr=>?_
         refine kQ (zB rfl (zC (k_seq (kQ (zA rfl (zA rfl (zM rfl (q39) (.lrefl _) (zEu rfl rfl rfl ?_))))))))
         refine zC (k_cF rfl (decide_eq_false (by omega)) (k_region (zA rfl (zA rfl (zA rfl (zn (u:=.int .i64 (x)) rfl ty22 rfl rfl (Int.natCast_nonneg _) (by simp[hTi]) cl3 ?_))))))
         refine zQ rfl rfl sh3 rfl ?_
         refine wg (es:=[.int .i64 x]) rfl ty22 ze3 cl3 rfl rfl rfl rfl rfl rfl rfl rfl ?_
         refine wB 20 rfl yf rfl rfl rfl (by simp) (by simp) (by simp[yB,zg,oneU]) (by simp;omega) ?_
         refine zB rfl (zC ?_)
         refine zK [(3,U.box 0 0),(13,.lst .ro 1 (zF r)),(20,U.lst Kd.own 1 (zF D++[.int .i64 x])),(21,.int .i64 0)] ([SB.box (Bk.cs b),SB.box (tri C1 C2 C3)]) (.c4 rfl rfl rfl rfl (.nil rfl)) rfl fun fr=>?_
         refine kQ ?_
         refine zEh 20 rfl (fun _=>rfl) (u:=.lst .ro 1 (zF (D++[x]))) hu20 ?_
         refine zU rfl rfl rfl sh25 rfl (zA rfl (zM rfl (q25b) (.lrefl _) (zA rfl (zd rfl rfl rfl (zd rfl rfl rfl (zB rfl (zB rfl (zC ?_))))))))
         refine k_seq (zAI [.plain,.plain,.plain,.plain,.plain,.plain,.plain,.plain,.plain,.read true,.plain,.read false,.plain,.read true,.plain,.plain,.plain,.plain,.plain,.plain,.plain,.plain] (by kernel_rfl) (by kernel_rfl) (by kernel_rfl) ?_)
         refine zG (zA rfl (zC rfl)) (zG (wD rfl rfl rfl (zC rfl)) ?_)
         refine zG (zA rfl (zC rfl)) (d_gD rfl rfl rfl rfl rfl (zG (zU rfl rfl rfl sh25 rfl (zC rfl)) ?_))
         refine d_gD rfl rfl rfl rfl rfl (zG (zA rfl (zC rfl)) (d_gD rfl rfl rfl rfl rfl (zG (zM rfl (q31b) (.lrefl _) (zC rfl)) ?_)))
         refine zG (zT rfl rfl rfl (zC rfl)) ?_
         refine zG (zA rfl (zC rfl)) (d_gD rfl rfl rfl rfl rfl (zG (zA rfl (zC rfl)) ?_))
         refine zCN [(3,U.box 0 0),(13,.lst .ro 1 (zF r)),(22,.lst .ro 1 (zF r2)),(181,.bool true),(182,.int .i64 0)] [] ([SB.box (Bk.cs b),SB.box (tri C1 C2 C3)]) (.c4 rfl rfl rfl rfl (.cons rfl (.nil rfl))) rfl rfl fun fr=>?_
         refine d_gD rfl rfl rfl rfl rfl ?_
         refine zCN [(3,U.box 0 0),(13,.lst .ro 1 (zF r)),(22,.lst .ro 1 (zF r2)),(181,.bool true),(182,.int .i64 0)] [] ([SB.box (Bk.cs b),SB.box (tri C1 C2 C3)]) (.c4 rfl rfl rfl rfl (.cons rfl (.nil rfl))) rfl rfl fun fr=>?_
         refine yA rfl (zU rfl rfl rfl sh25 rfl (zC rfl)) ?_
         refine d_gD rfl rfl rfl rfl rfl (zG (zA rfl (zC rfl)) (d_gD rfl rfl rfl rfl rfl (zBE rfl (q32b) (.int _ _) (.lrefl _) ?_)))
         refine d_gD rfl rfl rfl rfl rfl ?_
         refine zG (zw rfl rfl rfl (by unfold I64;omega) (zC rfl)) ?_
         refine d_gD rfl rfl rfl rfl rfl (yA rfl (zU rfl rfl rfl sh25 rfl (zC rfl)) ?_)
         refine d_gD rfl rfl rfl rfl rfl (zG (zA rfl (zC rfl)) (d_gD rfl rfl rfl rfl rfl (zG (zM rfl (q32) (.lrefl _) (zC rfl)) ?_)))
         refine d_gD rfl rfl rfl rfl rfl (zG (zCQ rfl rfl rfl (zC rfl)) ?_)
         refine zG (zT rfl rfl rfl (zC rfl)) ?_
         refine zCN [(191,U.bool (decide ((0:Int)+w2≤w1)))] [] ([SB.box (Bk.cs b),SB.box (tri C1 C2 C3)]) (.cons rfl (.nil rfl)) rfl rfl fun fr=>?_
         refine zG (zA rfl (zC rfl)) (d_gD rfl rfl rfl rfl (decide_eq_true (by omega)) ?_)
         refine zG (zM rfl (r24) (.lrefl _) (zC rfl)) ?_
         refine zG (zT rfl rfl (decide_eq_true (by omega)) (zC rfl)) ?_
         refine zG (zB rfl (zC rfl)) ?_
         refine zCB ?_
         refine za ?_
         refine⟨.inr rfl,_,.cons _ _ _ _ (.tmp 6) .nil,?_⟩
         exact .refl _
end Go.Proofs.YtlknfhjfkcboiaaDoor.night
