import Derived.Test.YtfbmlibilcjlgaaDoorVamT23
set_option linter.unusedVariables false
set_option linter.unusedSimpArgs false
set_option linter.constructorNameAsVariable false
namespace Go.Proofs.YtfbmlibilcjlgaaDoor.drumPlans
open Vam
section
variable {is:FuncId→Bool}{orc:Known}{b:Bk}
noncomputable def b75:Code:=(Tryd.f75.body).getD .skip
theorem body75:bodyOf Tryd.prog 75=some (24,b75,[.tmp 2]):=by kernel_rfl
theorem pure75:pureFn Tryd.prog 75=true:=by kernel_rfl
noncomputable def b74:Code:=(Tryd.f74.body).getD .skip
theorem body74:bodyOf Tryd.prog 74=some (28,b74,[.tmp 2]):=by kernel_rfl
theorem pure74:pureFn Tryd.prog 74=true:=by kernel_rfl
noncomputable def b28:Code:=(Tryd.f28.body).getD .skip
theorem body28:bodyOf Tryd.prog 28=some (40,b28,[.tmp 2,.tmp 3]):=by kernel_rfl
theorem pure28:pureFn Tryd.prog 28=true:=by kernel_rfl
noncomputable def b30:Code:=(Tryd.f30.body).getD .skip
theorem body30:bodyOf Tryd.prog 30=some (13,b30,[.tmp 2,.tmp 3]):=by kernel_rfl
theorem pure30:pureFn Tryd.prog 30=true:=by kernel_rfl
noncomputable def b4:Code:=(Tryd.f4.body).getD .skip
theorem body4:bodyOf Tryd.prog 4=some (73,b4,[.tmp 4]):=by kernel_rfl
theorem pure4:pureFn Tryd.prog 4=true:=by kernel_rfl
set_option maxHeartbeats 8000000 in
theorem ret75(hi:Off is){q:List Int}(hq:1≤q.length∧q.length≤8):RetP Tryd.prog is orc 75 [.lst .ro 1 (zE q)] (.int .i64 (chg q)):=by
 refine zp body75 pure75 (hi 75 (by decide)) rfl rfl (wS (zd 6 .ro (fun h=>by cases h) 1 q)) (.inl (.int _ _ _)) ?_
 refine kQ (zB rfl (zA (kQ (zB rfl (zA (k_seq (kQ (zB rfl ?_))))))))
 refine zA (zN ?_)
 refine yd (fun kk s2=>∃k:Nat,kk+k+1=q.length∧s2.st=[]∧Holds s2 [(0,.lst .ro 1 (zE q)),(3,.int .i64 (chgL q k)),(4,.int .i64 (k+1))]) (fun kk s2 hI=>?_) (q.length - 1) _ ⟨0,by omega,rfl,.cons rfl (.cons rfl (.cons rfl (.nil rfl)))⟩
 obtain⟨k,hk,hst2,hs2⟩:=hI
 have hcb:=chgI_b (fun i=>(q[i]?).getD 0) k
 change 0≤chgL q k∧chgL q k≤k at hcb
 by_cases hkl:k+1<q.length
 ·obtain⟨x,hx⟩:∃x,q[k]? =some x:=⟨q[k]'(by omega),List.getElem?_eq_getElem (by omega)⟩
  obtain⟨y,hy⟩:∃y,q[k+1]? =some y:=⟨q[k+1]'hkl,List.getElem?_eq_getElem hkl⟩
  have hsu:chgL q (k+1)=chgL q k+if y=x then 0 else 1:=by
   show chgI _ k+(if(q[k+1]?).getD 0=(q[k]?).getD 0 then 0 else 1)=_
   rw[hx,hy];rfl
  generalize chgL q k=c at*
  by_cases h:y=x
  ·rw[if_pos h,Int.add_zero]at hsu
   have k20:decide (y≠x)=false:=decide_eq_false (fun h2=>h2 h)
   refine zJ _ _ hs2 hst2 fun fr2=>?_
   refine k_seq (kQ (zC rfl (zC rfl (yA rfl ty22 rfl (List.length_map _) ?_))))
   refine zh rfl rfl rfl (zA (k_cT rfl (decide_eq_true (by omega)) (zR (k_seq (zN (k_seq (yO [.plain,.plain,.plain,.read true,.plain,.plain,.plain,.plain,.read true,.plain] (by kernel_rfl) (by kernel_rfl) (by kernel_rfl) ?_)))))))
   refine zD (zC rfl (zA rfl)) (zD (zC rfl (zA rfl)) ?_)
   refine zD (yE (u:=.int .i64 y) rfl ty22 rfl rfl (by omega) (by rw[show((k:Int)+1).toNat=k+1 by omega];simp[hy]) cl3 (zA rfl)) ?_
   refine zT rfl (zS rfl rfl sh3 rfl (zA rfl)) ?_
   refine zD (zC rfl (zA rfl)) (zD (zC rfl (zA rfl)) ?_)
   refine zD (zAQ rfl rfl rfl (by unfold I64;omega) (zA rfl)) ?_
   refine zD (yE (u:=.int .i64 x) rfl ty22 rfl rfl (by omega) (by rw[show((k:Int)+1 - 1).toNat=k by omega];simp[hx]) cl3 (zA rfl)) ?_
   refine zT rfl (zS rfl rfl sh3 rfl (zA rfl)) ?_
   refine zD (wB rfl rfl rfl (zA rfl)) ?_
   refine wH ?_
   refine zJ [(0,.lst .ro 1 (zE q)),(3,.int .i64 c),(4,.int .i64 (↑k+(1:Int))),(20,U.bool (decide (y≠x)))] ([]) (.c4 rfl rfl rfl rfl (.nil rfl)) rfl fun fr=>?_
   refine k_cF rfl (by assumption) (zR (k_region (zC rfl ?_)))
   refine yT rfl rfl rfl (by unfold I64;omega) (zB rfl (zA ?_))
   exact⟨kk - 1,by omega,k+1,by omega,rfl,.cons rfl (.cons (by rw[hsu];rfl) (.cons rfl (.nil rfl)))⟩
  ·rw[if_neg h]at hsu
   have k20:decide (y≠x)=true:=decide_eq_true h
   refine zJ _ _ hs2 hst2 fun fr2=>?_
   refine k_seq (kQ (zC rfl (zC rfl (yA rfl ty22 rfl (List.length_map _) ?_))))
   refine zh rfl rfl rfl (zA (k_cT rfl (decide_eq_true (by omega)) (zR (k_seq (zN (k_seq (yO [.plain,.plain,.plain,.read true,.plain,.plain,.plain,.plain,.read true,.plain] (by kernel_rfl) (by kernel_rfl) (by kernel_rfl) ?_)))))))
   refine zD (zC rfl (zA rfl)) (zD (zC rfl (zA rfl)) ?_)
   refine zD (yE (u:=.int .i64 y) rfl ty22 rfl rfl (by omega) (by rw[show((k:Int)+1).toNat=k+1 by omega];simp[hy]) cl3 (zA rfl)) ?_
   refine zT rfl (zS rfl rfl sh3 rfl (zA rfl)) ?_
   refine zD (zC rfl (zA rfl)) (zD (zC rfl (zA rfl)) ?_)
   refine zD (zAQ rfl rfl rfl (by unfold I64;omega) (zA rfl)) ?_
   refine zD (yE (u:=.int .i64 x) rfl ty22 rfl rfl (by omega) (by rw[show((k:Int)+1 - 1).toNat=k by omega];simp[hx]) cl3 (zA rfl)) ?_
   refine zT rfl (zS rfl rfl sh3 rfl (zA rfl)) ?_
   refine zD (wB rfl rfl rfl (zA rfl)) ?_
   refine wH ?_
   refine zJ [(0,.lst .ro 1 (zE q)),(3,.int .i64 c),(4,.int .i64 (↑k+(1:Int))),(20,U.bool (decide (y≠x)))] ([]) (.c4 rfl rfl rfl rfl (.nil rfl)) rfl fun fr=>?_
   refine k_cT rfl (by assumption) (k_region (zC rfl ?_))
   refine yT rfl rfl rfl (by unfold I64;omega) (zB rfl (zA (k_region (zC rfl ?_))))
   refine yT rfl rfl rfl (by unfold I64;omega) (zB rfl (zA ?_))
   exact⟨kk - 1,by omega,k+1,by omega,rfl,.cons rfl (.cons (by rw[hsu];rfl) (.cons rfl (.nil rfl)))⟩
 ·have hke:k=q.length - 1:=by omega
  subst hke
  refine zJ _ _ hs2 hst2 fun fr2=>?_
  have k8:decide (((q.length - 1:Nat):Int)+1<q.length)=false:=decide_eq_false (by omega)
  refine k_seq (kQ (zC rfl (zC rfl (yA rfl ty22 rfl (List.length_map _) ?_))))
  refine zh rfl rfl rfl (zA (k_cF rfl (by assumption) (yJ (kQ (zC rfl (zB rfl (zA (zV ?_))))))))
  refine⟨.inr rfl,_,.cons _ _ _ _ (.tmp 2) .nil,?_⟩
  exact .refl _
  done
set_option maxHeartbeats 8000000 in
theorem ret74(hi:Off is)(hb:BOk b):RetP Tryd.prog is orc 74 [b.u] (.lst .ro 1 (llU (wb b))):=by
 refine zp body74 pure74 (hi 74 (by decide)) rfl rfl (wS (yM b 4)) (.inl (dat_ll _ 5)) ?_
 have q104:=ret104 (orc:=orc) hi hb
 have hpa:=hb.pa
 have hok:∀q∈zFp b,POk b q:=fun q hq=>(mem_paths hb).1 hq
 have hln:(zFp b).length≤65536:=by
  have h1:=lvP_len b b.parts.toNat []
  have h2:4 ^ b.parts.toNat≤4 ^ 8:=Nat.pow_le_pow_right (by omega) (by omega)
  have h3:(4:Nat) ^ 8=65536:=rfl
  unfold zFp;omega
 unfold wb
 generalize zFp b=W at*
 refine kQ (zl rfl rfl (zB rfl (zA ?_)))
 refine zJ [(1,U.box 0 0)] ([SB.box [.int .i64 (Bk.parts b),.int .i64 (Bk.size b),.lst .ro 1 (zE (Bk.beats b)),.int .i64 (Bk.start b),.int .i64 (Bk.fin b),.int .i64 (Bk.tlo b),.int .i64 (Bk.thi b),.int .i64 (Bk.slo b),.int .i64 (Bk.shi b),.int .i64 (Bk.notice b),.lst .ro 3 (plsU (Bk.players b))]]) (.cons rfl (.nil rfl)) rfl fun fr=>?_
 refine kQ (zM rfl rfl rfl sh27 rfl (zP rfl (q104) (.lrefl _) (zB rfl (zA (kQ (zB rfl (zA (k_seq ?_))))))))
 refine kQ (zB rfl (zA (zN ?_)))
 refine yd (fun kk s2=>∃(i:Nat) (kd:Kd) (z:Nat),kk+i=W.length∧((kd=.full∧z=0∧(W.take i).filter (zBb b)=[])∨(kd=.own∧z=1))∧s2.st=[.box [.int .i64 b.parts,.int .i64 b.size,.lst .ro 1 (zE b.beats),.int .i64 b.start,.int .i64 b.fin,.int .i64 b.tlo,.int .i64 b.thi,.int .i64 b.slo,.int .i64 b.shi,.int .i64 b.notice,.lst .ro 3 (plsU b.players)]]∧Holds s2 [(1,.box 0 0),(3,.lst .ro 1 (llU W)),(4,.lst kd z (llU ((W.take i).filter (zBb b)))),(5,.int .i64 i)]) (fun kk s2 hI=>?_) W.length _ ⟨0,.full,0,by omega,.inl ⟨rfl,rfl,rfl⟩,rfl,.c4 rfl rfl rfl rfl (.nil rfl)⟩
 obtain⟨i,kd,z,hk,hkd,hst2,hs2⟩:=hI
 by_cases hil:i<W.length
 ·obtain⟨q,hq⟩:∃q,W[i]? =some q:=⟨W[i]'hil,List.getElem?_eq_getElem hil⟩
  have q72:=ret72 (orc:=orc) hi hb (hok q (List.mem_of_getElem? hq))
  have hsu:(W.take (i+1)).filter (zBb b)=(W.take i).filter (zBb b)++(if zBb b q=true then [q]else []):=by
   rw[List.take_add_one,hq,List.filter_append]
   congr 1
   show List.filter (zBb b) [q]=_
   rw[List.filter_cons,List.filter_nil]
  have hal:((W.take i).filter (zBb b)).length≤65536:=by
   have:=List.length_filter_le (zBb b) (W.take i)
   rw[List.length_take]at this
   omega
  generalize (W.take i).filter (zBb b)=A at*
  cases hz:zBb b q with
  |true=>
   rw[hz]at q72 hsu
   rw[if_pos rfl]at hsu
   rcases hkd with ⟨rfl,rfl,rfl⟩|⟨rfl,rfl⟩
   ·refine zJ _ _ hs2 hst2 fun fr2=>?_
    refine k_seq (kQ (zC rfl (zC rfl (yA rfl ty96 rfl (List.length_map _) ?_))))
    refine zh rfl rfl rfl (zA (k_cT rfl (decide_eq_true (by omega)) (zR (k_seq (zN (k_seq (yO [.read true,.plain,.plain,.plain,.read true,.plain] (by kernel_rfl) (by kernel_rfl) (by kernel_rfl) ?_)))))))
    refine zT rfl (zM rfl rfl rfl sh27 rfl (zA rfl)) ?_
    refine zD (zC rfl (zA rfl)) (zD (zC rfl (zA rfl)) ?_)
    refine zD (yE (u:=.lst .ro 1 (zE q)) rfl ty96 rfl rfl (Int.natCast_nonneg _) (by rw[List.getElem?_map,Int.toNat_natCast,hq];rfl) cl22 (zA rfl)) ?_
    refine zT rfl (zS rfl rfl sh22 rfl (zA rfl)) ?_
    refine zD (zP rfl (q72) (.lrefl _) (zA rfl)) ?_
    refine wH ?_
    refine k_cT rfl rfl ?_
    refine k_region (zC rfl (zC rfl (zC rfl ?_)))
    refine yE (u:=.lst .ro 1 (zE q)) rfl ty96 rfl rfl (Int.natCast_nonneg _) (by rw[List.getElem?_map,Int.toNat_natCast,hq];rfl) cl22 ?_
    refine zS rfl rfl sh22 rfl ?_
    refine zBF (es:=[U.lst Kd.ro 1 (zE q)]) rfl ty96 ze22 cl22 rfl rfl rfl rfl rfl rfl rfl rfl ?_
    refine zBn rfl ap96_96 rfl rfl (by simp) (by simp) (by simp[yX,yF,oneU]) (by simp) ?_
    refine zB rfl (zA ?_)
    refine zJ [(1,U.box 0 0),(3,.lst .ro 1 (llU W)),(4,U.lst Kd.own 1 [.lst .ro 1 (zE q)]),(5,.int .i64 ↑i)] ([SB.box [.int .i64 (Bk.parts b),.int .i64 (Bk.size b),.lst .ro 1 (zE (Bk.beats b)),.int .i64 (Bk.start b),.int .i64 (Bk.fin b),.int .i64 (Bk.tlo b),.int .i64 (Bk.thi b),.int .i64 (Bk.slo b),.int .i64 (Bk.shi b),.int .i64 (Bk.notice b),.lst .ro 3 (plsU (Bk.players b))]]) (.c4 rfl rfl rfl rfl (.nil rfl)) rfl fun fr=>?_
    refine k_region (zC rfl ?_)
    refine yT rfl rfl rfl (by unfold I64;omega) (zB rfl (zA ?_))
    exact⟨kk - 1,by omega,i+1,.own,1,by omega,.inr ⟨rfl,rfl⟩,rfl,.cons rfl (.cons rfl (.cons (by rw[hsu];rfl) (.cons rfl (.nil rfl))))⟩
   ·refine zJ _ _ hs2 hst2 fun fr2=>?_
    refine k_seq (kQ (zC rfl (zC rfl (yA rfl ty96 rfl (List.length_map _) ?_))))
    refine zh rfl rfl rfl (zA (k_cT rfl (decide_eq_true (by omega)) (zR (k_seq (zN (k_seq (yO [.read true,.plain,.plain,.plain,.read true,.plain] (by kernel_rfl) (by kernel_rfl) (by kernel_rfl) ?_)))))))
    refine zT rfl (zM rfl rfl rfl sh27 rfl (zA rfl)) ?_
    refine zD (zC rfl (zA rfl)) (zD (zC rfl (zA rfl)) ?_)
    refine zD (yE (u:=.lst .ro 1 (zE q)) rfl ty96 rfl rfl (Int.natCast_nonneg _) (by rw[List.getElem?_map,Int.toNat_natCast,hq];rfl) cl22 (zA rfl)) ?_
    refine zT rfl (zS rfl rfl sh22 rfl (zA rfl)) ?_
    refine zD (zP rfl (q72) (.lrefl _) (zA rfl)) ?_
    refine wH ?_
    refine k_cT rfl rfl ?_
    refine k_region (zC rfl (zC rfl (zC rfl ?_)))
    refine yE (u:=.lst .ro 1 (zE q)) rfl ty96 rfl rfl (Int.natCast_nonneg _) (by rw[List.getElem?_map,Int.toNat_natCast,hq];rfl) cl22 ?_
    refine zS rfl rfl sh22 rfl ?_
    refine zBF (es:=[U.lst Kd.ro 1 (zE q)]) rfl ty96 ze22 cl22 rfl rfl rfl rfl rfl rfl rfl rfl ?_
    refine zCm 4 rfl ap96_96 rfl rfl rfl (by simp) (by simp) rfl (by simp at hal ⊢;omega) ?_
    refine zB rfl (zA ?_)
    refine zJ [(1,U.box 0 0),(3,.lst .ro 1 (llU W)),(4,U.lst Kd.own 1 (llU A++[.lst .ro 1 (zE q)])),(5,.int .i64 ↑i)] ([SB.box [.int .i64 (Bk.parts b),.int .i64 (Bk.size b),.lst .ro 1 (zE (Bk.beats b)),.int .i64 (Bk.start b),.int .i64 (Bk.fin b),.int .i64 (Bk.tlo b),.int .i64 (Bk.thi b),.int .i64 (Bk.slo b),.int .i64 (Bk.shi b),.int .i64 (Bk.notice b),.lst .ro 3 (plsU (Bk.players b))]]) (.c4 rfl rfl rfl rfl (.nil rfl)) rfl fun fr=>?_
    refine k_region (zC rfl ?_)
    refine yT rfl rfl rfl (by unfold I64;omega) (zB rfl (zA ?_))
    exact⟨kk - 1,by omega,i+1,.own,1,by omega,.inr ⟨rfl,rfl⟩,rfl,.cons rfl (.cons rfl (.cons (by rw[hsu];simp[llU];rfl) (.cons rfl (.nil rfl))))⟩
  |false=>
   rw[hz]at q72 hsu
   rw[if_neg (by decide),List.append_nil]at hsu
   refine zJ _ _ hs2 hst2 fun fr2=>?_
   refine k_seq (kQ (zC rfl (zC rfl (yA rfl ty96 rfl (List.length_map _) ?_))))
   refine zh rfl rfl rfl (zA (k_cT rfl (decide_eq_true (by omega)) (zR (k_seq (zN (k_seq (yO [.read true,.plain,.plain,.plain,.read true,.plain] (by kernel_rfl) (by kernel_rfl) (by kernel_rfl) ?_)))))))
   refine zT rfl (zM rfl rfl rfl sh27 rfl (zA rfl)) ?_
   refine zD (zC rfl (zA rfl)) (zD (zC rfl (zA rfl)) ?_)
   refine zD (yE (u:=.lst .ro 1 (zE q)) rfl ty96 rfl rfl (Int.natCast_nonneg _) (by rw[List.getElem?_map,Int.toNat_natCast,hq];rfl) cl22 (zA rfl)) ?_
   refine zT rfl (zS rfl rfl sh22 rfl (zA rfl)) ?_
   refine zD (zP rfl (q72) (.lrefl _) (zA rfl)) ?_
   refine wH ?_
   refine k_cF rfl rfl ?_
   refine zR (k_region (zC rfl ?_))
   refine yT rfl rfl rfl (by unfold I64;omega) (zB rfl (zA ?_))
   rw[←hsu]at hkd
   exact⟨kk - 1,by omega,i+1,kd,z,by omega,hkd,rfl,.cons rfl (.cons rfl (.cons (by rw[hsu];rfl) (.cons rfl (.nil rfl))))⟩
 ·have hie:i=W.length:=by omega
  subst hie
  rw[List.take_length]at hkd hs2
  generalize W.filter (zBb b)=A at*
  rcases hkd with ⟨rfl,rfl,rfl⟩|⟨rfl,rfl⟩
  ·refine zJ _ _ hs2 hst2 fun fr2=>?_
   refine k_seq (kQ (zC rfl (zC rfl (yA rfl ty96 rfl (List.length_map _) ?_))))
   refine zh rfl rfl rfl (zA (k_cF rfl (decide_eq_false (by omega)) (yJ (kQ (zC rfl (zB rfl (zA (zV ?_))))))))
   refine⟨.inr rfl,_,.cons _ _ _ _ (.tmp 2) .nil,?_⟩
   exact .nil _ _ _
  ·refine zJ _ _ hs2 hst2 fun fr2=>?_
   refine k_seq (kQ (zC rfl (zC rfl (yA rfl ty96 rfl (List.length_map _) ?_))))
   refine zh rfl rfl rfl (zA (k_cF rfl (decide_eq_false (by omega)) (yJ (kQ (zC rfl (zB rfl (zA (zV ?_))))))))
   refine⟨.inr rfl,_,.cons _ _ _ _ (.tmp 2) .nil,?_⟩
   exact .refl _
   done
def plaL(b:Bk):List Int:=if yk b=true then wn (wb b)else []
def plaE(b:Bk):Int:=if yk b=true then(if wn (wb b)=[]then 4 else 0)else 80
def plaN(b:Bk):Int:=if yk b=true then(wb b).length else 0
theorem ret27a(hi:Off is)(b:Bk):RetP Tryd.prog is orc 27 [b.u] (.tup [.lst .ro 1 (zE (plaL b)),.int .i64 (plaE b)]):=by
 unfold plaL plaE
 cases hv:yk b with
 |false=>exact ret27i hi hv
 |true=>exact ret27 hi ((wR b).1 hv)
theorem ret29a(hi:Off is)(b:Bk):RetP Tryd.prog is orc 29 [b.u] (.tup [.int .i64 (plaN b),.int .i64 (if yk b=true then 0 else 80)]):=by
 unfold plaN
 cases hv:yk b with
 |false=>exact ret29i hi hv
 |true=>exact ret29 hi ((wR b).1 hv)
set_option maxHeartbeats 8000000 in
theorem ret30(hi:Off is)(b:Bk):RetP Tryd.prog is orc 30 [b.u] (.tup [.int .i64 (plaN b),.int .i64 (if yk b=true then 0 else 80)]):=by
 refine zp body30 pure30 (hi 30 (by decide)) rfl rfl (wS (yM b 4)) (.inr ⟨_,rfl,yR (k:=7) (.int _ _ _) (.int _ _ _)⟩) ?_
 have q18:=ret18 (orc:=orc) hi b
 unfold plaN
 cases hv:yk b with
 |false=>
  rw[hv]at q18
  refine kQ (zl rfl rfl (zB rfl (zB rfl (zA ?_))))
  refine zJ [(1,U.box 0 0)] ([SB.box [.int .i64 (Bk.parts b),.int .i64 (Bk.size b),.lst .ro 1 (zE (Bk.beats b)),.int .i64 (Bk.start b),.int .i64 (Bk.fin b),.int .i64 (Bk.tlo b),.int .i64 (Bk.thi b),.int .i64 (Bk.slo b),.int .i64 (Bk.shi b),.int .i64 (Bk.notice b),.lst .ro 3 (plsU (Bk.players b))]]) (.cons rfl (.nil rfl)) rfl fun fr=>?_
  refine k_seq (kQ (zM rfl rfl rfl sh27 rfl (zP rfl (q18) (.lrefl _) (zB rfl (zA (kQ (zC rfl (wB rfl rfl rfl ?_))))))))
  refine zA (k_cT rfl rfl ?_)
  refine kQ (zC rfl (zB rfl (zB rfl (zA (zV ?_)))))
  refine⟨.inr rfl,_,.cons _ _ _ _ (.tmp 2) (.cons _ _ _ _ (.tmp 3) .nil),?_⟩
  exact .refl _
  done
 |true=>
  rw[hv]at q18
  have q74:=ret74 (orc:=orc) hi ((wR b).1 hv)
  generalize wb b=W at*
  refine kQ (zl rfl rfl (zB rfl (zB rfl (zA ?_))))
  refine zJ [(1,U.box 0 0)] ([SB.box [.int .i64 (Bk.parts b),.int .i64 (Bk.size b),.lst .ro 1 (zE (Bk.beats b)),.int .i64 (Bk.start b),.int .i64 (Bk.fin b),.int .i64 (Bk.tlo b),.int .i64 (Bk.thi b),.int .i64 (Bk.slo b),.int .i64 (Bk.shi b),.int .i64 (Bk.notice b),.lst .ro 3 (plsU (Bk.players b))]]) (.cons rfl (.nil rfl)) rfl fun fr=>?_
  refine k_seq (kQ (zM rfl rfl rfl sh27 rfl (zP rfl (q18) (.lrefl _) (zB rfl (zA (kQ (zC rfl (wB rfl rfl rfl ?_))))))))
  refine zA (k_cF rfl rfl ?_)
  refine zR (kQ (zM rfl rfl rfl sh27 rfl (zP rfl (q74) (.lrefl _) (yA rfl ty96 rfl (List.length_map _) ?_))))
  refine zB rfl (zB rfl (zA (zV ?_)))
  refine⟨.inr rfl,_,.cons _ _ _ _ (.tmp 2) (.cons _ _ _ _ (.tmp 3) .nil),?_⟩
  exact .refl _
  done
set_option maxHeartbeats 8000000 in
theorem ret28(hi:Off is)(b:Bk):RetP Tryd.prog is orc 28 [b.u] (.tup [.lst .ro 1 (zE (plaL b)),.int .i64 (plaE b)]):=by
 refine zp body28 pure28 (hi 28 (by decide)) rfl rfl (wS (yM b 4)) (.inr ⟨_,rfl,yR (k:=7) (zd 5 .ro (fun h=>by cases h) 1 _) (.int _ _ _)⟩) ?_
 have q18:=ret18 (orc:=orc) hi b
 unfold plaL plaE
 cases hv:yk b with
 |false=>
  rw[hv]at q18
  refine kQ (zl rfl rfl (zB rfl (zB rfl (zA ?_))))
  refine zJ [(1,U.box 0 0)] ([SB.box [.int .i64 (Bk.parts b),.int .i64 (Bk.size b),.lst .ro 1 (zE (Bk.beats b)),.int .i64 (Bk.start b),.int .i64 (Bk.fin b),.int .i64 (Bk.tlo b),.int .i64 (Bk.thi b),.int .i64 (Bk.slo b),.int .i64 (Bk.shi b),.int .i64 (Bk.notice b),.lst .ro 3 (plsU (Bk.players b))]]) (.cons rfl (.nil rfl)) rfl fun fr=>?_
  refine k_seq (kQ (zM rfl rfl rfl sh27 rfl (zP rfl (q18) (.lrefl _) (zB rfl (zA (kQ (zC rfl (wB rfl rfl rfl ?_))))))))
  refine zA (k_cT rfl rfl ?_)
  refine kQ (zC rfl (zB rfl (zB rfl (zA (zV ?_)))))
  refine⟨.inr rfl,_,.cons _ _ _ _ (.tmp 2) (.cons _ _ _ _ (.tmp 3) .nil),?_⟩
  exact .tup _ _ (.lcons _ _ _ _ (.nil .full .ro 1) (.lrefl _))
 |true=>
  rw[hv]at q18
  have hb:=(wR b).1 hv
  have q74:=ret74 (orc:=orc) hi hb
  have hok:∀q∈wb b,ok8 q=true:=fun q hq=>POk.ok8 hb ((zFz hb).1 hq).1
  rw[if_pos rfl,if_pos rfl]
  have hpl:=plans_len hb
  generalize wb b=W at*
  cases hW:W with
  |nil=>
   rw[hW]at q74
   have e0:wn []=[]:=rfl
   rw[e0,if_pos rfl]
   refine kQ (zl rfl rfl (zB rfl (zB rfl (zA ?_))))
   refine zJ [(1,U.box 0 0)] ([SB.box [.int .i64 (Bk.parts b),.int .i64 (Bk.size b),.lst .ro 1 (zE (Bk.beats b)),.int .i64 (Bk.start b),.int .i64 (Bk.fin b),.int .i64 (Bk.tlo b),.int .i64 (Bk.thi b),.int .i64 (Bk.slo b),.int .i64 (Bk.shi b),.int .i64 (Bk.notice b),.lst .ro 3 (plsU (Bk.players b))]]) (.cons rfl (.nil rfl)) rfl fun fr=>?_
   refine k_seq (kQ (zM rfl rfl rfl sh27 rfl (zP rfl (q18) (.lrefl _) (zB rfl (zA (kQ (zC rfl (wB rfl rfl rfl ?_))))))))
   refine zA (k_cF rfl rfl ?_)
   refine zR (kQ (zM rfl rfl rfl sh27 rfl (zP rfl (q74) (.lrefl _) (zB rfl (zA (k_seq (kQ (zC rfl ?_))))))))
   refine yA rfl ty96 rfl (List.length_map _) ?_
   refine zAI rfl rfl rfl (zA ?_)
   refine zJ [(5,.lst .ro 1 (llU [])),(17,U.bool (decide (↑(List.length [])=(0:Int))))] ([SB.box [.int .i64 (Bk.parts b),.int .i64 (Bk.size b),.lst .ro 1 (zE (Bk.beats b)),.int .i64 (Bk.start b),.int .i64 (Bk.fin b),.int .i64 (Bk.tlo b),.int .i64 (Bk.thi b),.int .i64 (Bk.slo b),.int .i64 (Bk.shi b),.int .i64 (Bk.notice b),.lst .ro 3 (plsU (Bk.players b))]]) (.cons rfl (.cons rfl (.nil rfl))) rfl fun fr=>?_
   refine k_cT rfl rfl ?_
   refine kQ (zB rfl (zB rfl (zA (zV ?_))))
   refine⟨.inr rfl,_,.cons _ _ _ _ (.tmp 2) (.cons _ _ _ _ (.tmp 3) .nil),?_⟩
   exact .tup _ _ (.lcons _ _ _ _ (.nil .full .ro 1) (.lrefl _))
  |cons q0 W'=>
   rw[←hW]
   have hq0:W[0]? =some q0:=by rw[hW];rfl
   have hlW:1≤W.length:=by rw[hW];simp
   have k17:decide ((W.length:Int)=0)=false:=decide_eq_false (by omega)
   have b1:wn (W.take 1)=q0:=by
    rw[hW]
    show wn ([]++[q0])=q0
    rw[zGU [] (hok q0 (List.mem_of_getElem? hq0))]
    unfold zAZ
    rw[if_pos (.inl rfl)]
   have hne:∀q,ok8 q=true→q≠[]:=fun q h e=>by rw[e]at h;cases h
   clear hW
   refine kQ (zl rfl rfl (zB rfl (zB rfl (zA ?_))))
   refine zJ [(1,U.box 0 0)] ([SB.box [.int .i64 (Bk.parts b),.int .i64 (Bk.size b),.lst .ro 1 (zE (Bk.beats b)),.int .i64 (Bk.start b),.int .i64 (Bk.fin b),.int .i64 (Bk.tlo b),.int .i64 (Bk.thi b),.int .i64 (Bk.slo b),.int .i64 (Bk.shi b),.int .i64 (Bk.notice b),.lst .ro 3 (plsU (Bk.players b))]]) (.cons rfl (.nil rfl)) rfl fun fr=>?_
   refine k_seq (kQ (zM rfl rfl rfl sh27 rfl (zP rfl (q18) (.lrefl _) (zB rfl (zA (kQ (zC rfl (wB rfl rfl rfl ?_))))))))
   refine zA (k_cF rfl rfl ?_)
   refine zR (kQ (zM rfl rfl rfl sh27 rfl (zP rfl (q74) (.lrefl _) (zB rfl (zA (k_seq (kQ (zC rfl ?_))))))))
   refine yA rfl ty96 rfl (List.length_map _) ?_
   refine zAI rfl rfl rfl (zA ?_)
   refine zJ [(5,.lst .ro 1 (llU W)),(17,U.bool (decide (↑(List.length W)=(0:Int))))] ([SB.box [.int .i64 (Bk.parts b),.int .i64 (Bk.size b),.lst .ro 1 (zE (Bk.beats b)),.int .i64 (Bk.start b),.int .i64 (Bk.fin b),.int .i64 (Bk.tlo b),.int .i64 (Bk.thi b),.int .i64 (Bk.slo b),.int .i64 (Bk.shi b),.int .i64 (Bk.notice b),.lst .ro 3 (plsU (Bk.players b))]]) (.cons rfl (.cons rfl (.nil rfl))) rfl fun fr=>?_
   refine k_cF rfl (by assumption) (zR (kQ (zC rfl ?_)))
   refine yE (u:=.lst .ro 1 (zE q0)) rfl ty96 rfl rfl (by omega) (by rw[List.getElem?_map,show((0:Int)).toNat=0 from rfl,hq0];rfl) cl22 ?_
   refine zS rfl rfl sh22 rfl ?_
   refine zB rfl (zA (k_seq (kQ (zB rfl (zA (zN ?_))))))
   refine yd (fun kk s2=>∃i:Nat,kk+i=W.length∧1≤i∧ok8 (wn (W.take i))=true∧s2.st=[.box [.int .i64 b.parts,.int .i64 b.size,.lst .ro 1 (zE b.beats),.int .i64 b.start,.int .i64 b.fin,.int .i64 b.tlo,.int .i64 b.thi,.int .i64 b.slo,.int .i64 b.shi,.int .i64 b.notice,.lst .ro 3 (plsU b.players)]]∧Holds s2 [(5,.lst .ro 1 (llU W)),(6,.lst .ro 1 (zE (wn (W.take i)))),(7,.int .i64 i)]) (fun kk s2 hI=>?_) (W.length - 1) _ ⟨1,by omega,Nat.le_refl _,by rw[b1];exact hok q0 (List.mem_of_getElem? hq0),rfl,.cons rfl (.cons (by rw[b1];rfl) (.cons rfl (.nil rfl)))⟩
   obtain⟨i,hk,hi1,hbo,hst2,hs2⟩:=hI
   by_cases hil:i<W.length
   ·obtain⟨q,hq⟩:∃q,W[i]? =some q:=⟨W[i]'hil,List.getElem?_eq_getElem hil⟩
    have hqo:=hok q (List.mem_of_getElem? hq)
    have hsu:wn (W.take (i+1))=zAZ (wn (W.take i)) q:=by
     rw[List.take_add_one,hq]
     exact zGU _ hqo
    generalize wn (W.take i)=B at*
    have q75:=ret75 (orc:=orc) hi (zCl.1 hqo)
    have q75b:=ret75 (orc:=orc) hi (zCl.1 hbo)
    unfold zAZ at hsu
    by_cases h:chg q<chg B
    ·rw[if_pos (.inr h)]at hsu
     have k34:decide (chg q<chg B)=true:=decide_eq_true h
     generalize chg q=c1 at*
     generalize chg B=c2 at*
     refine zJ _ _ hs2 hst2 fun fr2=>?_
     refine k_seq (kQ (zC rfl (zC rfl (yA rfl ty96 rfl (List.length_map _) ?_))))
     refine zh rfl rfl rfl (zA (k_cT rfl (decide_eq_true (by omega)) (zR (k_seq (zN (kQ (zC rfl (zC rfl ?_))))))))
     refine yE (u:=.lst .ro 1 (zE q)) rfl ty96 rfl rfl (Int.natCast_nonneg _) (by rw[List.getElem?_map,Int.toNat_natCast,hq];rfl) cl22 ?_
     refine zS rfl rfl sh22 rfl ?_
     refine zP rfl (q75) (.lrefl _) (zC rfl (zP rfl (q75b) (.lrefl _) (zh rfl rfl rfl (zA ?_))))
     refine zJ [(5,.lst .ro 1 (llU W)),(6,.lst .ro 1 (zE B)),(7,.int .i64 ↑i),(34,U.bool (decide (c1<c2)))] ([SB.box [.int .i64 (Bk.parts b),.int .i64 (Bk.size b),.lst .ro 1 (zE (Bk.beats b)),.int .i64 (Bk.start b),.int .i64 (Bk.fin b),.int .i64 (Bk.tlo b),.int .i64 (Bk.thi b),.int .i64 (Bk.slo b),.int .i64 (Bk.shi b),.int .i64 (Bk.notice b),.lst .ro 3 (plsU (Bk.players b))]]) (.c4 rfl rfl rfl rfl (.nil rfl)) rfl fun fr=>?_
     refine k_cT rfl (by assumption) (k_region (zC rfl (zC rfl ?_)))
     refine yE (u:=.lst .ro 1 (zE q)) rfl ty96 rfl rfl (Int.natCast_nonneg _) (by rw[List.getElem?_map,Int.toNat_natCast,hq];rfl) cl22 ?_
     refine zS rfl rfl sh22 rfl ?_
     refine zB rfl (zA (k_region (zC rfl ?_)))
     refine yT rfl rfl rfl (by unfold I64;omega) (zB rfl (zA ?_))
     exact⟨kk - 1,by omega,i+1,by omega,by omega,by rw[hsu];exact hqo,rfl,.cons rfl (.cons (by rw[hsu];rfl) (.cons rfl (.nil rfl)))⟩
    ·rw[if_neg (by rintro(e|e);exact hne B hbo e;exact h e)]at hsu
     have k34:decide (chg q<chg B)=false:=decide_eq_false h
     generalize chg q=c1 at*
     generalize chg B=c2 at*
     refine zJ _ _ hs2 hst2 fun fr2=>?_
     refine k_seq (kQ (zC rfl (zC rfl (yA rfl ty96 rfl (List.length_map _) ?_))))
     refine zh rfl rfl rfl (zA (k_cT rfl (decide_eq_true (by omega)) (zR (k_seq (zN (kQ (zC rfl (zC rfl ?_))))))))
     refine yE (u:=.lst .ro 1 (zE q)) rfl ty96 rfl rfl (Int.natCast_nonneg _) (by rw[List.getElem?_map,Int.toNat_natCast,hq];rfl) cl22 ?_
     refine zS rfl rfl sh22 rfl ?_
     refine zP rfl (q75) (.lrefl _) (zC rfl (zP rfl (q75b) (.lrefl _) (zh rfl rfl rfl (zA ?_))))
     refine zJ [(5,.lst .ro 1 (llU W)),(6,.lst .ro 1 (zE B)),(7,.int .i64 ↑i),(34,U.bool (decide (c1<c2)))] ([SB.box [.int .i64 (Bk.parts b),.int .i64 (Bk.size b),.lst .ro 1 (zE (Bk.beats b)),.int .i64 (Bk.start b),.int .i64 (Bk.fin b),.int .i64 (Bk.tlo b),.int .i64 (Bk.thi b),.int .i64 (Bk.slo b),.int .i64 (Bk.shi b),.int .i64 (Bk.notice b),.lst .ro 3 (plsU (Bk.players b))]]) (.c4 rfl rfl rfl rfl (.nil rfl)) rfl fun fr=>?_
     refine k_cF rfl (by assumption) (zR (k_region (zC rfl ?_)))
     refine yT rfl rfl rfl (by unfold I64;omega) (zB rfl (zA ?_))
     exact⟨kk - 1,by omega,i+1,by omega,by omega,by rw[hsu];exact hbo,rfl,.cons rfl (.cons (by rw[hsu];rfl) (.cons rfl (.nil rfl)))⟩
   ·rw[List.take_of_length_le (by omega)]at hbo hs2
    rw[if_neg (hne _ hbo)]
    generalize wn W=B at*
    refine zJ _ _ hs2 hst2 fun fr2=>?_
    refine k_seq (kQ (zC rfl (zC rfl (yA rfl ty96 rfl (List.length_map _) ?_))))
    refine zh rfl rfl rfl (zA (k_cF rfl (decide_eq_false (by omega)) (yJ (kQ (zC rfl (zB rfl (zB rfl (zA ?_))))))))
    refine zV ?_
    refine⟨.inr rfl,_,.cons _ _ _ _ (.tmp 2) (.cons _ _ _ _ (.tmp 3) .nil),?_⟩
    exact .refl _
    done
set_option maxHeartbeats 16000000 in
theorem ret4(hi:Off is)(b:Bk)(L:List Int)(r24:RetP Tryd.prog is orc 24 [] (.bool true)):RetP Tryd.prog is orc 4 [b.u,.lst .ro 1 (zE L)] (.bool true):=by
 refine zp body4 pure4 (hi 4 (by decide)) rfl rfl (yR (yM b 4) (zd 6 .ro (fun h=>by cases h) 1 L)) (.inl (.bool _ _)) ?_
 have q25:=ret25a (orc:=orc) hi b L
 have q26:=ret26 (orc:=orc) hi b L
 have q27:=ret27a (orc:=orc) hi b
 have q28:=ret28 (orc:=orc) hi b
 have q29:=ret29a (orc:=orc) hi b
 have q30:=ret30 (orc:=orc) hi b
 have hl:(plaL b).length≤4096:=by
  unfold plaL
  split
  ·rename_i h
   have hb:=(wR b).1 h
   rcases best_spec hb with ⟨_,h2⟩|⟨h1,_⟩
   ·rw[h2];simp
   ·have:=zCl.1 (POk.ok8 hb ((zFz hb).1 h1).1);omega
  ·simp
 have q23:=ret23 (orc:=orc) hi (plaL b) hl
 generalize (if yk b=true then(0:Int)else 80)=v at*
 generalize isPl b L=z at*
 generalize plaL b=A at*
 generalize plaE b=e at*
 generalize plaN b=m at*
 have k27:decide (z≠z)=false:=decide_eq_false (fun h=>h rfl)
 refine kQ (zl rfl rfl (zB rfl (zA ?_)))
 refine zJ [(1,.lst .ro 1 (zE L)),(2,U.box 0 0)] ([SB.box [.int .i64 (Bk.parts b),.int .i64 (Bk.size b),.lst .ro 1 (zE (Bk.beats b)),.int .i64 (Bk.start b),.int .i64 (Bk.fin b),.int .i64 (Bk.tlo b),.int .i64 (Bk.thi b),.int .i64 (Bk.slo b),.int .i64 (Bk.shi b),.int .i64 (Bk.notice b),.lst .ro 3 (plsU (Bk.players b))]]) (.cons rfl (.cons rfl (.nil rfl))) rfl fun fr=>?_
 refine kQ (zM rfl rfl rfl sh27 rfl (zC rfl (zP rfl (q25) (.lrefl _) (zC rfl (zb rfl rfl rfl (zb rfl rfl rfl (zB rfl (zB rfl ?_))))))))
 refine zA (kQ (zM rfl rfl rfl sh27 rfl (zC rfl (zP rfl (q26) (.lrefl _) (zC rfl (zb rfl rfl rfl (zb rfl rfl rfl (zB rfl ?_))))))))
 refine zB rfl (zA ?_)
 refine zJ [(2,U.box 0 0),(5,U.bool z),(6,.int .i64 v),(7,U.bool z),(8,.int .i64 v)] ([SB.box [.int .i64 (Bk.parts b),.int .i64 (Bk.size b),.lst .ro 1 (zE (Bk.beats b)),.int .i64 (Bk.start b),.int .i64 (Bk.fin b),.int .i64 (Bk.tlo b),.int .i64 (Bk.thi b),.int .i64 (Bk.slo b),.int .i64 (Bk.shi b),.int .i64 (Bk.notice b),.lst .ro 3 (plsU (Bk.players b))]]) (.c4 rfl rfl rfl rfl (.cons rfl (.nil rfl))) rfl fun fr=>?_
 refine k_seq (kQ (zC rfl (zC rfl (o_neqB rfl ty4 rfl rfl ?_))))
 refine zC rfl (o_gD rfl rfl rfl rfl (by assumption) (zC rfl (o_gD rfl rfl rfl rfl (by assumption) (zC rfl (o_gD rfl rfl rfl rfl (by assumption) (wB rfl rfl rfl (zL rfl rfl (by assumption) ?_)))))))
 refine zA (k_cF rfl (decide_eq_false (by omega)) (zR (kQ (zM rfl rfl rfl sh27 rfl (zP rfl (q27) (.lrefl _) (zC rfl (zb rfl rfl rfl (zb rfl rfl rfl ?_))))))))
 refine zB rfl (zB rfl (zA ?_))
 refine zJ [(2,U.box 0 0),(6,.int .i64 e),(9,.lst .ro 1 (zE A))] ([SB.box [.int .i64 (Bk.parts b),.int .i64 (Bk.size b),.lst .ro 1 (zE (Bk.beats b)),.int .i64 (Bk.start b),.int .i64 (Bk.fin b),.int .i64 (Bk.tlo b),.int .i64 (Bk.thi b),.int .i64 (Bk.slo b),.int .i64 (Bk.shi b),.int .i64 (Bk.notice b),.lst .ro 3 (plsU (Bk.players b))]]) (.cons rfl (.cons rfl (.cons rfl (.nil rfl)))) rfl fun fr=>?_
 refine kQ (zM rfl rfl rfl sh27 rfl (zP rfl (q28) (.lrefl _) (zC rfl (zb rfl rfl rfl (zb rfl rfl rfl (zB rfl (zB rfl (zA ?_))))))))
 refine k_seq (kQ (zC rfl (zC rfl (zP rfl (q23) (.lrefl _) (wK rfl rfl (zC rfl (o_gD rfl rfl rfl rfl rfl (zC rfl ?_))))))))
 refine o_gD rfl rfl rfl rfl rfl (zC rfl (o_gD rfl rfl rfl rfl rfl (wB rfl rfl rfl (zL rfl rfl rfl ?_))))
 refine zA ?_
 refine zJ [(2,U.box 0 0),(51,U.bool (decide (e≠e)))] ([SB.box [.int .i64 (Bk.parts b),.int .i64 (Bk.size b),.lst .ro 1 (zE (Bk.beats b)),.int .i64 (Bk.start b),.int .i64 (Bk.fin b),.int .i64 (Bk.tlo b),.int .i64 (Bk.thi b),.int .i64 (Bk.slo b),.int .i64 (Bk.shi b),.int .i64 (Bk.notice b),.lst .ro 3 (plsU (Bk.players b))]]) (.cons rfl (.cons rfl (.nil rfl))) rfl fun fr=>?_
 refine k_cF rfl (decide_eq_false (by omega)) (zR (kQ (zM rfl rfl rfl sh27 rfl (zP rfl (q29) (.lrefl _) (zC rfl (zb rfl rfl rfl (zb rfl rfl rfl (zB rfl ?_))))))))
 refine zB rfl (zA (kQ (zM rfl rfl rfl sh27 rfl (zP rfl (q30) (.lrefl _) (zC rfl (zb rfl rfl rfl (zb rfl rfl rfl (zB rfl ?_))))))))
 refine zB rfl (zA ?_)
 refine zJ [(6,.int .i64 v),(8,.int .i64 v),(11,.int .i64 m),(12,.int .i64 m)] ([SB.box [.int .i64 (Bk.parts b),.int .i64 (Bk.size b),.lst .ro 1 (zE (Bk.beats b)),.int .i64 (Bk.start b),.int .i64 (Bk.fin b),.int .i64 (Bk.tlo b),.int .i64 (Bk.thi b),.int .i64 (Bk.slo b),.int .i64 (Bk.shi b),.int .i64 (Bk.notice b),.lst .ro 3 (plsU (Bk.players b))]]) (.c4 rfl rfl rfl rfl (.nil rfl)) rfl fun fr=>?_
 refine kQ (zC rfl (zC rfl (zAI rfl rfl rfl (zC rfl (o_gD rfl rfl rfl rfl (decide_eq_true (by omega)) ?_)))))
 refine zC rfl (o_gD rfl rfl rfl rfl (decide_eq_true (by omega)) ?_)
 refine zC rfl (o_gD rfl rfl rfl rfl (decide_eq_true (by omega)) ?_)
 refine zAI rfl rfl rfl (zX rfl rfl (decide_eq_true (by omega)) ?_)
 refine zC rfl (o_gD rfl rfl rfl rfl (decide_eq_true (by omega)) ?_)
 refine zP rfl (r24) (.lrefl _) (zX rfl rfl (decide_eq_true (by omega)) ?_)
 refine zB rfl (zA (zV ?_))
 refine⟨.inr rfl,_,.cons _ _ _ _ (.tmp 4) .nil,?_⟩
 exact .refl _
 done
end
section
variable {is:FuncId→Bool}{orc:Known}
theorem ret4_all(hi:Off is)(r24:RetP Tryd.prog is orc 24 [] (.bool true)):∀us,ShpAs Tryd.prog [27,22] us→RetP Tryd.prog is orc 4 us (.bool true):=by
 intro us h
 cases h with
 |cons _ _ u us h1 h=>cases h with
 |cons _ _ v us h2 h=>
 cases h
 obtain⟨fs,hu⟩:=und27
 unfold ShpA at h1 h2
 rw[hu]at h1
 rw[u22]at h2
 obtain⟨b,rfl⟩:=arg_bk h1
 obtain⟨l,rfl⟩:=arg_ints h2
 exact ret4 hi b l r24
end
end Go.Proofs.YtfbmlibilcjlgaaDoor.drumPlans
