import Derived.Test.YthhbfbmfhldbaaaDoorVamT19
set_option linter.unusedVariables false
set_option linter.unusedSimpArgs false
set_option linter.constructorNameAsVariable false
namespace Go.Proofs.YthhbfbmfhldbaaaDoor.locks
open Vam
section
variable {is:FuncId→Bool}{orc:Known}{l:Ln}
set_option maxHeartbeats 8000000 in
theorem ret23(hi:Off is)(A:List Int)(hl:A.length≤4096):RetP Tryd.prog is orc 23 [.lst .ro 1 (zE A),.lst .ro 1 (zE A)] (.bool true):=by
 refine zw body23 pure23 (hi 23 (by decide)) rfl rfl (yq (yG 6 .ro (fun h=>by cases h) 1 A) (yG 6 .ro (fun h=>by cases h) 1 A)) (.inl (.bool _ _)) ?_
 refine kQ (zA rfl (zB (kQ (zC rfl (zq rfl ty22 rfl (List.length_map _) ?_)))))
 refine zC rfl (zq rfl ty22 rfl (List.length_map _) ?_)
 refine ks rfl (zA rfl (zB (k_seq (kQ (zA rfl (zB (zI ?_)))))))
 refine yX (fun kk s2=>∃i:Nat,kk+i=A.length∧s2.st=[]∧Holds s2 [(0,.lst .ro 1 (zE A)),(1,.lst .ro 1 (zE A)),(5,.bool true),(6,.int .i64 i)]) (fun kk s2 hI=>?_) A.length _ ⟨0,by omega,rfl,.cons rfl (.cons rfl (.cons (by show U.bool (decide _)=_;simp) (.n1 rfl)))⟩
 obtain⟨i,hk,hst2,hs2⟩:=hI
 refine zH _ _ hs2 hst2 fun fr2=>?_
 by_cases hj:i<A.length
 ·have hx:A[i]? =some (A[i]'hj):=List.getElem?_eq_getElem hj
  generalize A[i]'hj=x at hx
  refine k_seq (kQ (zC rfl (zC rfl (kf rfl (zC rfl (kf rfl (zC rfl (kf rfl (zq rfl ty22 rfl (List.length_map _) ?_)))))))))
  refine kf rfl (kp rfl (kE rfl ?_))
  refine zB (k_cT rfl (kF (by omega)) (zL (k_seq (zI (yf [.plain,.plain,.plain,.read true,.plain,.plain,.plain,.read true,.plain,.plain] (by kernel_rfl) (by kernel_rfl) (by kernel_rfl) ?_)))))
  refine zD (zC rfl (zB rfl)) (zD (zC rfl (zB rfl)) (zD (yA (u:=.int .i64 (x)) rfl ty22 rfl rfl (Int.natCast_nonneg _) (by simp[hx]) cl3 (zB rfl)) ?_))
  refine zf rfl (kC sh3 rfl (zB rfl)) ?_
  refine zD (zC rfl (zB rfl)) (zD (zC rfl (zB rfl)) (zD (yA (u:=.int .i64 (x)) rfl ty22 rfl rfl (Int.natCast_nonneg _) (by simp[hx]) cl3 (zB rfl)) ?_))
  refine zf rfl (kC sh3 rfl (zB rfl)) ?_
  refine zD (ks rfl (zB rfl)) ?_
  refine zD (zA rfl (zB rfl)) ?_
  refine wm ?_
  refine k_region (zC rfl ?_)
  refine kz rfl (by unfold I64;omega) (zA rfl (zB ?_))
  exact⟨kk - 1,by omega,i+1,by omega,rfl,.cons rfl (.cons rfl (.cons (by show U.bool (decide _)=_;simp) (.n1 rfl)))⟩
 ·refine k_seq ?_
  refine kQ (zC rfl (zC rfl (kf rfl (zC rfl (kf rfl (zC rfl (kf rfl (zq rfl ty22 rfl (List.length_map _) ?_))))))))
  refine kf rfl (kp rfl (kE rfl ?_))
  refine zB (k_cF rfl (kG (by omega)) (zj (kQ (zC rfl (zA rfl (zB (zV ?_)))))))
  refine⟨.inr rfl,_,.cons _ _ _ _ (.tmp 4) .nil,?_⟩
  exact .refl _
  done
end
section
variable {is:FuncId→Bool}{orc:Known}{l:Ln}
theorem zEF:zp Tryd.prog 79 0=some (0,3):=by kernel_rfl
theorem fld79_1:zp Tryd.prog 79 1=some (1,77):=by kernel_rfl
theorem ty77:tyOf Tryd.prog 77=.array 16 3:=by kernel_rfl
noncomputable def b96:Code:=(Tryd.f96.body).getD .skip
theorem body96:bodyOf Tryd.prog 96=some (30,b96,[]):=by kernel_rfl
theorem pure96:pureFn Tryd.prog 96=false:=by kernel_rfl
def tlC(n:Nat)(c:Nat→Nat):List U:=.int .i64 n::zE (i16 c)
theorem tl_len(n:Nat)(c:Nat→Nat):(tlC n c).length=17:=by unfold tlC;rw[List.length_cons,List.length_map,zFo]
theorem tl_at{n:Nat}{c:Nat→Nat}{i:Nat}(h:i<16):(tlC n c)[1+((i:Nat):Int).toNat*1]? =some (.int .i64 (c i:Nat)):=by
 unfold tlC
 rw[show 1+((i:Nat):Int).toNat*1=i+1 by simp;omega,List.getElem?_cons_succ]
 have:=ints_at (i16_at (f:=c) h)
 rw[show 0+((i:Nat):Int).toNat*1=i by simp]at this
 exact this
theorem tl_set{n:Nat}{c:Nat→Nat}{i v:Nat}:(tlC n c).set (1+((i:Nat):Int).toNat*1) (.int .i64 (v:Nat))=tlC n (fun k=>if k=i then v else c k):=by
 unfold tlC
 rw[show 1+((i:Nat):Int).toNat*1=i+1 by simp;omega,List.set_cons_succ,←i16_set]
 have:=ints_st (S:=i16 c) (i:=i) (v:=(v:Nat))
 rw[show 0+((i:Nat):Int).toNat*1=i by simp]at this
 rw[this]
theorem tl_dg(n:Nat)(c:Nat→Nat):(tlC n c).map dg=tlC n c:=by
 unfold tlC
 rw[List.map_cons,ints_dg];rfl
theorem tl_one(n:Nat)(c:Nat→Nat):(tlC n c).all oneU=true:=by
 rw[List.all_eq_true]
 intro x hx
 rcases List.mem_cons.1 hx with rfl|hx
 ·rfl
 ·obtain⟨b,_,rfl⟩:=List.mem_map.1 hx;rfl
def upC(f:Nat→Bool)(c:Nat→Nat)(i k:Nat):Nat:=if k<i∧f k=true then c k+1 else c k
theorem upC_zero(f:Nat→Bool)(c:Nat→Nat):upC f c 0=c:=by
 funext k;unfold upC;rw[if_neg (by omega)]
theorem upC_yes{f:Nat→Bool}{c:Nat→Nat}{i:Nat}(h:f i=true):(fun k=>if k=i then c i+1 else upC f c i k)=upC f c (i+1):=by
 funext k
 unfold upC
 by_cases e:k=i
 ·subst e;rw[if_pos rfl,if_pos ⟨by omega,h⟩]
 ·rw[if_neg e]
  by_cases e2:k<i∧f k=true
  ·rw[if_pos e2,if_pos ⟨by omega,e2.2⟩]
  ·rw[if_neg e2,if_neg (fun h3=>e2 ⟨by omega,h3.2⟩)]
theorem upC_no{f:Nat→Bool}{c:Nat→Nat}{i:Nat}(h:f i=false):upC f c (i+1)=upC f c i:=by
 funext k
 unfold upC
 by_cases e2:k<i∧f k=true
 ·rw[if_pos e2,if_pos ⟨by omega,e2.2⟩]
 ·rw[if_neg e2,if_neg]
  rintro⟨h1,h2⟩
  by_cases e:k=i
  ·subst e;rw[h]at h2;cases h2
  ·exact e2 ⟨by omega,h2⟩
set_option maxHeartbeats 16000000 in
theorem wpc96(hi:Off is){n:Nat}{c:Nat→Nat}{f:Nat→Bool}(hn:n<1000000)(hc:∀k,c k<1000000){ci:Nat}{st:List SB}(hb:st[ci]? =some (.box (tlC n c))):
  WpC Tryd.prog is orc 96 [.box ci 0,.agg (zK (b16 f))] st fun _ st'=>∃e,st'=(st.set ci (.box (tlC (n+1) (upC f c 16))))++e:=by
 have hci:=(List.getElem?_eq_some_iff.1 hb).1
 have hBd:=zBU (b16 f)
 have hl:(zK (b16 f)).length=16:=by unfold zK;rw[List.length_map,zl]
 have hat:∀i,i<16→(zK (b16 f))[((i:Nat):Int).toNat*1]? =some (.bool (f i)):=fun i h=>by
  rw[show((i:Nat):Int).toNat*1=i by simp];exact zBw (zCb h)
 obtain⟨B,hB⟩:∃B,B=zK (b16 f):=⟨_,rfl⟩
 rw[←hB]at hBd hl hat ⊢
 have hb2:(st++[SB.box B])[ci]? =some (.box (tlC n c)):=zAF hb
 have hb3:(st.set ci (.box (tlC (n+1) c))++[SB.box B])[ci]? =some (.box (tlC (n+1) c)):=zAF (at_eq hb)
 refine wpc_of body96 pure96 rfl rfl ?_
 refine kQ (zk rfl rfl (zB ?_))
 refine zH [(0,U.box ci 0),(3,U.box (List.length st) 0)] (st++[SB.box (List.map dg (zZ (zP (initF (List.map dg [U.box ci 0,U.agg B]) st) (Go.Operand.tmp 1))))]) (.n2 rfl) rfl fun fr=>?_
 refine zH [(0,.box ci 0),(3,.box st.length 0)] (st++[.box B]) (.n2 rfl) (by show st++[SB.box (List.map dg B)]=_;rw[hBd]) fun fr=>?_
 have z0:(tlC n c)[0]? =some (.int .i64 n):=rfl
 refine kQ (zC rfl (yw rfl rfl ?_))
 refine kw rfl zEF (zx rfl rfl hb2 sh3 z0 ?_)
 refine kz rfl (by unfold I64;omega) (yw rfl rfl ?_)
 refine kw rfl zEF (wO rfl hb2 sh3 rfl rfl ?_)
 refine zB ?_
 refine zH [(0,U.box ci 0),(3,U.box (List.length st) 0)] (List.set (st++[SB.box B]) ci (SB.box (List.set (tlC n c) (0+0) (.int .i64 (↑n+(1:Int)))))) (.n2 rfl) rfl fun fr=>?_
 have hBat:∀x,(st.set ci x++[SB.box B])[st.length]? =some (.box B):=fun x=>by
  rw[List.getElem?_append_right (by rw[List.length_set];exact Nat.le_refl _),List.length_set,Nat.sub_self];rfl
 have hTat:∀i,(st.set ci (.box (tlC (n+1) (upC f c i)))++[SB.box B])[ci]? =some (.box (tlC (n+1) (upC f c i))):=fun i=>zAF (at_eq hb)
 refine zH [(0,.box ci 0),(3,.box st.length 0)] (st.set ci (.box (tlC (n+1) (upC f c 0)))++[.box B]) (.n2 rfl) (by
  show(st++[SB.box B]).set ci (.box ((tlC n c).set 0 (.int .i64 ((n:Int)+1))))=_
  rw[List.set_append_left _ _ hci,upC_zero];rfl) fun fr=>?_
 have hB0:=hBat (.box (tlC (n+1) (upC f c 0)))
 refine kQ (yn rfl rfl hB0 sh83 hl ?_)
 refine zC rfl (zB ?_)
 refine zH [(0,U.box ci 0),(13,U.agg B),(14,.int .i64 0)] (List.set st ci (SB.box (tlC (n+1) (upC f c 0)))++[SB.box B]) (.n3 rfl) rfl fun fr=>?_
 refine zI ?_
 refine yX (fun kk s2=>∃i:Nat,kk+i=16∧s2.st=st.set ci (.box (tlC (n+1) (upC f c i)))++[.box B]∧Holds s2 [(0,.box ci 0),(13,.agg B),(14,.int .i64 i)]) (fun kk s2 hI=>?_) 16 _ ⟨0,rfl,rfl,.cons rfl (.n2 rfl)⟩
 obtain⟨i,hk,hst2,hs2⟩:=hI
 refine zH _ _ hs2 hst2 fun fr2=>?_
 by_cases hi16:i<16
 ·have hbi:=hat i hi16
  have hT:=hTat i
  have hta:=tl_at (n:=n+1) (c:=upC f c i) hi16
  have hbl:Nat.blt (1+((i:Nat):Int).toNat*1) (tlC (n+1) (upC f c i)).length=true:=by rw[Nat.blt_eq,tl_len];simp;omega
  have hup:upC f c i i=c i:=by unfold upC;rw[if_neg (by omega)]
  rw[hup]at hta
  have hci2:=hc i
  have hset:=tl_set (n:=n+1) (c:=upC f c i) (i:=i) (v:=c i+1)
  cases hf:f i with
  |true=>
   rw[hf]at hbi
   rw[upC_yes hf]at hset
   refine kQ (kp rfl (zB ?_))
   refine zH [(0,U.box ci 0),(13,U.agg B),(14,.int .i64 ↑i),(15,U.bool (decide (↑i<(16:Int))))] (List.set st ci (SB.box (tlC (n+1) (upC f c i)))++[SB.box B]) (.n4 rfl) rfl fun fr=>?_
   refine k_seq (k_cT rfl (kF (by omega)) (zL (k_seq (zI (kQ (zC rfl (wX rfl ty83 rfl rfl (Int.natCast_nonneg _) (by omega) cl4 sh4 hbi ?_)))))))
   refine zA rfl (zA rfl (zB ?_))
   refine zH [(0,U.box ci 0),(4,.int .i64 ↑i),(5,.bool true),(13,U.agg B),(14,.int .i64 ↑i)] (List.set st ci (SB.box (tlC (n+1) (upC f c i)))++[SB.box B]) (.n5 rfl) rfl fun fr=>?_
   refine kQ (zC rfl (zB ?_))
   refine zH [(0,U.box ci 0),(4,.int .i64 ↑i),(13,U.agg B),(14,.int .i64 ↑i),(18,.bool true)] (List.set st ci (SB.box (tlC (n+1) (upC f c i)))++[SB.box B]) (.n5 rfl) rfl fun fr=>?_
   refine k_cT rfl rfl ?_
   refine yf [.plain,.plain,.plain,.plain,.plain,.plain,.plain,.plain,.plain,.plain,.plain] (by kernel_rfl) (by kernel_rfl) (by kernel_rfl) ?_
   refine zD (zC rfl (zB rfl)) (zD (zC rfl (zB rfl)) (zD (yw rfl rfl (zB rfl)) ?_))
   refine zD (kw rfl fld79_1 (zB rfl)) ?_
   refine zD (yW rfl ty77 rfl rfl (by omega) (by omega) cl3 (zB rfl)) ?_
   refine zD (zx rfl rfl hT sh3 hta (zB rfl)) ?_
   refine zD (kz rfl (by unfold I64;omega) (zB rfl)) ?_
   refine zD (yw rfl rfl (zB rfl)) ?_
   refine zD (kw rfl fld79_1 (zB rfl)) ?_
   refine zD (yW rfl ty77 rfl rfl (by omega) (by omega) cl3 (zB rfl)) ?_
   refine zD (wO rfl hT sh3 hbl rfl (zB rfl)) ?_
   refine wm ?_
   refine zH [(0,U.box ci 0),(13,U.agg B),(14,.int .i64 ↑i)] (List.set (List.set st ci (SB.box (tlC (n+1) (upC f c i)))++[SB.box B]) ci (SB.box (List.set (tlC (n+1) (upC f c i)) (0+1+Int.toNat ↑i*1) (.int .i64 (↑(c i)+(1:Int)))))) (.n3 rfl) rfl fun fr=>?_
   refine k_region ?_
   refine kz rfl (by unfold I64;omega) (zC rfl (zB ?_))
   exact⟨kk - 1,by omega,i+1,by omega,(by
    show(st.set ci (.box (tlC (n+1) (upC f c i)))++[SB.box B]).set ci (.box ((tlC (n+1) (upC f c i)).set (1+((i:Nat):Int).toNat*1) (.int .i64 ((c i+1:Nat):Int))))=_
    rw[hset,List.set_append_left _ _ (by rw[List.length_set];exact hci),List.set_set]),.cons rfl (.n2 rfl)⟩
  |false=>
   rw[hf]at hbi
   refine kQ (kp rfl (zB ?_))
   refine zH [(0,U.box ci 0),(13,U.agg B),(14,.int .i64 ↑i),(15,U.bool (decide (↑i<(16:Int))))] (List.set st ci (SB.box (tlC (n+1) (upC f c i)))++[SB.box B]) (.n4 rfl) rfl fun fr=>?_
   refine k_seq (k_cT rfl (kF (by omega)) (zL (k_seq (zI (kQ (zC rfl (wX rfl ty83 rfl rfl (Int.natCast_nonneg _) (by omega) cl4 sh4 hbi ?_)))))))
   refine zA rfl (zA rfl (zB ?_))
   refine zH [(0,U.box ci 0),(4,.int .i64 ↑i),(5,.bool false),(13,U.agg B),(14,.int .i64 ↑i)] (List.set st ci (SB.box (tlC (n+1) (upC f c i)))++[SB.box B]) (.n5 rfl) rfl fun fr=>?_
   refine kQ (zC rfl (zB ?_))
   refine zH [(0,U.box ci 0),(4,.int .i64 ↑i),(13,U.agg B),(14,.int .i64 ↑i),(18,.bool false)] (List.set st ci (SB.box (tlC (n+1) (upC f c i)))++[SB.box B]) (.n5 rfl) rfl fun fr=>?_
   refine k_cF rfl rfl ?_
   refine zL (k_region ?_)
   refine kz rfl (by unfold I64;omega) (zC rfl (zB ?_))
   exact⟨kk - 1,by omega,i+1,by omega,(by rw[upC_no hf];rfl),.cons rfl (.n2 rfl)⟩
 ·have hie:i=16:=by omega
  subst hie
  refine kQ (kp rfl (zB ?_))
  refine zH [(0,U.box ci 0),(13,U.agg B),(14,.int .i64 ↑16),(15,U.bool (decide (↑16<(16:Int))))] (List.set st ci (SB.box (tlC (n+1) (upC f c 16)))++[SB.box B]) (.n4 rfl) rfl fun fr=>?_
  refine k_seq (k_cF rfl rfl ?_)
  refine zj ?_
  exact⟨.inl rfl,_,.nil,_,.refl _,[.box B],rfl⟩
end
section
variable {is:FuncId→Bool}{orc:Known}{l:Ln}
theorem sh79:shOf Tryd.prog 79=.many 17:=by kernel_rfl
theorem ze79:yM Tryd.prog 79=some ((.cons (.int .i64 0) (.cons (.int .i64 0) (.cons (.int .i64 0) (.cons (.int .i64 0) (.cons (.int .i64 0) (.cons (.int .i64 0) (.cons (.int .i64 0) (.cons (.int .i64 0) (.cons (.int .i64 0) (.cons (.int .i64 0) (.cons (.int .i64 0) (.cons (.int .i64 0) (.cons (.int .i64 0) (.cons (.int .i64 0) (.cons (.int .i64 0) (.cons (.int .i64 0) (.cons (.int .i64 0) .nil))))))))))))))))):V):=by kernel_rfl
noncomputable def b61:Code:=(Tryd.f61.body).getD .skip
theorem body61:bodyOf Tryd.prog 61=some (12,b61,[.cell 2 79]):=by kernel_rfl
theorem pure61:pureFn Tryd.prog 61=true:=by kernel_rfl
noncomputable def b19:Code:=(Tryd.f19.body).getD .skip
theorem body19:bodyOf Tryd.prog 19=some (14,b19,[.tmp 2,.tmp 3]):=by kernel_rfl
theorem pure19:pureFn Tryd.prog 19=true:=by kernel_rfl
def cntL(L:List (List Int))(k:Nat):Nat:=(L.filter fun p=>plF p 0 k).length
theorem cntL_snoc(L:List (List Int))(q:List Int):cntL (L++[q])=upC (plF q 0) (cntL L) (q.length+16):=by
 funext k
 unfold cntL upC
 rw[List.filter_append,List.length_append]
 by_cases c:plF q 0 k=true
 ·have hk:k<q.length+16:=by
   by_cases e:k<q.length
   ·omega
   ·unfold plF at c
    rw[zEc (show q.length≤k by omega)]at c
    exact absurd (of_decide_eq_true c) (by decide)
  rw[if_pos ⟨hk,c⟩];simp[c]
 ·rw[if_neg (fun h=>c h.2)];simp[c]
theorem upC_more{f:Nat→Bool}{c:Nat→Nat}{i j:Nat}(h:i≤j)(h2:∀k,i≤k→f k=false):upC f c j=upC f c i:=by
 funext k
 unfold upC
 by_cases e:k<i
 ·by_cases e2:f k=true
  ·rw[if_pos ⟨by omega,e2⟩,if_pos ⟨e,e2⟩]
  ·rw[if_neg (fun h=>e2 h.2),if_neg (fun h=>e2 h.2)]
 ·have:=h2 k (by omega)
  rw[this,if_neg (by simp),if_neg (by simp)]
theorem cntL_16(L:List (List Int)){q:List Int}(hq:q.length≤16):cntL (L++[q])=upC (plF q 0) (cntL L) 16:=by
 rw[cntL_snoc]
 refine upC_more (by omega) fun k hk=>?_
 unfold plF
 rw[zEc (by omega)];rfl
theorem cntL_le(L:List (List Int))(k:Nat):cntL L k≤L.length:=List.length_filter_le _ _
def ctV(l:Ln)(L:List (List Int)):List SB:=[.box l.cs,.box (tlC 0 fun _=>0),.box (tlC L.length (cntL L)),.box l.cs]
theorem bd_tl(n:Nat)(c:Nat→Nat)(m:Nat):BdS m (.box (tlC n c)):=fun x hx=>by
 rcases List.mem_cons.1 hx with rfl|hx
 ·exact Bd.int _ _ _
 ·obtain⟨b,_,rfl⟩:=List.mem_map.1 hx;exact Bd.int _ _ _
theorem ctV_bd(l:Ln)(L:List (List Int)):∀x∈ctV l L,BdS 4 x:=fun x hx=>by
 unfold ctV at hx
 simp only[List.mem_cons,List.not_mem_nil,or_false]at hx
 rcases hx with rfl|rfl|rfl|rfl
 ·exact bd_cs l _
 ·exact bd_tl _ _ _
 ·exact bd_tl _ _ _
 ·exact bd_cs l _
theorem spl_few(h:VL l):(splL l).length≤65536:=by
 have h1:=spl_len2 l l.slots.length []
 have h2:=Nat.pow_le_pow_right (show 0<2 by decide) h.n.2
 unfold splL
 omega
theorem dat_tl(n:Nat)(c:Nat→Nat)(k:Nat):Dat (k+2) (.agg (tlC n c)):=.agg _ _ fun x hx=>by
 rcases List.mem_cons.1 hx with rfl|hx
 ·exact .int _ _ _
 ·obtain⟨b,_,rfl⟩:=List.mem_map.1 hx;exact .int _ _ _
set_option maxHeartbeats 16000000 in
theorem ret61(hi:Off is)(h:VL l):RetP Tryd.prog is orc 61 [l.u] (.agg (tlC (splL l).length (cntL (splL l)))):=by
 refine zw body61 pure61 (hi 61 (by decide)) rfl rfl (wA (yk l 5)) (.inl (dat_tl _ _ 6)) ?_
 have hw:=wpc95 (is:=is) (orc:=orc) l [.box l.cs,.box (tlC 0 fun _=>0),.box (tlC 0 fun _=>0)]
 refine kQ (zk rfl rfl (yL rfl ze79 ?_))
 refine zB ?_
 refine zH [(1,U.box 0 0),(2,U.box 1 0)] ([SB.box [.lst .ro 1 (zE (Ln.slots l)),.int .i64 (Ln.left l),.int .i64 (Ln.right l),.int .i64 (Ln.run l)],SB.box [.int .i64 0,.int .i64 0,.int .i64 0,.int .i64 0,.int .i64 0,.int .i64 0,.int .i64 0,.int .i64 0,.int .i64 0,.int .i64 0,.int .i64 0,.int .i64 0,.int .i64 0,.int .i64 0,.int .i64 0,.int .i64 0,.int .i64 0]]) (.n2 rfl) rfl fun fr=>?_
 refine kQ (yL rfl ze79 ?_)
 refine zB ?_
 refine zH [(1,U.box 0 0),(2,U.box 1 0),(3,U.box 2 0)] ([SB.box [.lst .ro 1 (zE (Ln.slots l)),.int .i64 (Ln.left l),.int .i64 (Ln.right l),.int .i64 (Ln.run l)],SB.box [.int .i64 0,.int .i64 0,.int .i64 0,.int .i64 0,.int .i64 0,.int .i64 0,.int .i64 0,.int .i64 0,.int .i64 0,.int .i64 0,.int .i64 0,.int .i64 0,.int .i64 0,.int .i64 0,.int .i64 0,.int .i64 0,.int .i64 0],SB.box [.int .i64 0,.int .i64 0,.int .i64 0,.int .i64 0,.int .i64 0,.int .i64 0,.int .i64 0,.int .i64 0,.int .i64 0,.int .i64 0,.int .i64 0,.int .i64 0,.int .i64 0,.int .i64 0,.int .i64 0,.int .i64 0,.int .i64 0]]) (.n3 rfl) rfl fun fr=>?_
 refine zH [(1,.box 0 0),(2,.box 1 0),(3,.box 2 0)] [.box l.cs,.box (tlC 0 fun _=>0),.box (tlC 0 fun _=>0)] (.n3 rfl) rfl fun fr=>?_
 refine k_seq (kQ (kB sh73 rfl ?_))
 refine o_callW rfl hw (.lrefl _) (fun u st1 hM=>?_)
 refine zB (zI ?_)
 obtain⟨rfl,rfl⟩:=hM
 refine k_forget [(2,.box 1 0),(3,.box 2 0),(6,.fn 110 [] [.box 3 0])] (ctV l []) (.n3 rfl) rfl ?_
 refine k_rangeV (n:=4) (V:=ctV l) (p0:=7) hi (gen110 h 3) rfl (fun _=>rfl) (ctV_bd l) (fun c hc L=>by rcases List.mem_singleton.1 hc with rfl;rfl) rfl ?_ (fun i=>zCt _) rfl rfl rfl ?_ ?_
 ·intro i
  refine lookU_all (p:=fun u=>Bd (4+1) (dg u)) ?_ (Bd.junk _) i
  intro x hx
  simp only[List.mem_cons,List.not_mem_nil,or_false]at hx
  rcases hx with rfl|rfl|rfl
  ·exact Bd.box (by omega)
  ·exact Bd.box (by omega)
  ·exact Bd.fn (fun u hu=>by cases hu) fun u hu=>by rcases List.mem_singleton.1 hu with rfl;exact Bd.box (by omega)
 ·generalize hlp:lpOf _ _ _ _=lp
  rintro is orc hi L q r e hels
  have hn:=h.n
  have hql:=zDr h (show q∈splL l by rw[hels];simp)
  have hfew:=spl_few h
  have hLl:L.length<65536:=by rw[hels]at hfew;simp at hfew;omega
  have hcn:=cntL_16 L (q:=q) (by omega)
  have hV:ctV l L=[.box l.cs,.box (tlC 0 fun _=>0),.box (tlC L.length (cntL L)),.box l.cs]:=rfl
  have hV2:ctV l (L++[q])=[.box l.cs,.box (tlC 0 fun _=>0),.box (tlC (L.length+1) (upC (plF q 0) (cntL L) 16)),.box l.cs]:=by rw[←hcn];unfold ctV;rw[List.length_append];rfl
  have hcl:=cntL_le L
  rw[hV2,hV]
  have w96:=fun st hb=>wpc96 (is:=is) (orc:=orc) hi (n:=L.length) (c:=cntL L) (f:=plF q 0) (by omega) (fun k=>by have:=hcl k;omega) (ci:=2) (st:=st) hb
  generalize cntL L=c at*
  generalize L.length=n at*
  have hl:=wd q
  have hone:=zCv (spB q)
  have hBd:=zBU (spB q)
  have hB0:zK (spB q)=[]++(zK (b16 (plF q 0))++zK (b16 (plF q 1))):=by show(b16 _++b16 _).map _=_;rw[List.map_append];rfl
  have hl0:(zK (b16 (plF q 0))).length=16:=by unfold zK;rw[List.length_map,zl]
  unfold spE
  generalize zK (b16 (plF q 0))=B0 at*
  obtain⟨B,hB⟩:∃B,B=zK (spB q):=⟨_,rfl⟩
  rw[←hB]at hl hone hBd hB0 ⊢
  unfold WpY
  rw[←congrArg Lp.assign hlp,←congrArg Lp.body hlp,←congrArg Lp.ps hlp,←congrArg Lp.fr hlp]
  obtain⟨Y1,hY1⟩:∃Y,Y=([.box l.cs,.box (tlC 0 fun _=>0),.box (tlC n c),.box l.cs]++[SB.loop .ready lp])++e:=⟨_,rfl⟩
  rw[←hY1]
  refine k_region (yL rfl ze85 ?_)
  refine zBE rfl (wI _ _) sh85 rfl hl rfl rfl hone hBd ?_
  refine zB ?_
  have hYl:Y1.length=5+e.length:=by rw[hY1];simp;omega
  refine⟨rfl,?_,?_⟩
  ·show((Y1++[SB.box _]).set Y1.length (SB.box _))[4]? =_
   rw[zAJ,hY1];rfl
  ·obtain⟨Y2,hY2⟩:∃Y,Y=([.box l.cs,.box (tlC 0 fun _=>0),.box (tlC n c),.box l.cs]++[SB.loop .busy lp])++(e++[SB.box B]):=⟨_,rfl⟩
   have y2:Y2[2]? =some (.box (tlC n c)):=by rw[hY2];rfl
   have y5:Y2[Y1.length]? =some (.box ([]++(B0++zK (b16 (plF q 1))))):=by
    rw[←hB0,hY2,hYl,←List.append_assoc,List.getElem?_append_right (by simp;omega)]
    simp
    rw[show 5+e.length - (e.length+1+1+1+1+1)=0 by omega];rfl
   refine zH [(3,.box 2 0),(4,.box Y1.length 0)] Y2 (.n2 rfl) (by
    show(((Y1++[SB.box _]).set Y1.length (SB.box _)).set 4 (.loop .busy lp))=_
    rw[zAJ,hY1,hY2,List.append_assoc];rfl) fun fr=>?_
   have w96:=w96 Y2 y2
   refine zI (k_region (yW rfl ty85 rfl rfl (by omega) (by omega) cl83 ?_))
   refine o_loadP rfl rfl y5 sh83 rfl hl0 ?_
   refine o_callW rfl w96 (.lrefl _) (fun u st1 hM=>?_)
   refine zB ?_
   obtain⟨e2,rfl⟩:=hM
   refine⟨?_,rfl,[SB.box B]++e2,?_⟩
   ·show(Y2.set 2 (SB.box _)++e2)[4]? =_
    rw[hY2];rfl
   ·show(Y2.set 2 (SB.box _)++e2).set 4 (.loop .ready lp)=_
    rw[hY2]
    show [SB.box l.cs,SB.box (tlC 0 fun _=>0),SB.box (tlC (n+1) (upC (plF q 0) c 16)),SB.box l.cs]++[SB.loop .ready lp]++((e++[SB.box B])++e2)=_
    rw[List.append_assoc e]
 ·show Wp Tryd.prog is orc _ _ _
  have hs:=tl_len (splL l).length (cntL (splL l))
  have ho:=tl_one (splL l).length (cntL (splL l))
  have hd:=tl_dg (splL l).length (cntL (splL l))
  have hV:ctV l (splL l)=[.box l.cs,.box (tlC 0 fun _=>0),.box (tlC (splL l).length (cntL (splL l))),.box l.cs]:=rfl
  rw[hV]
  refine kQ (yn rfl rfl rfl sh79 hs ?_)
  refine zBE rfl rfl sh79 rfl hs rfl rfl ho hd ?_
  refine zB (zV ?_)
  refine⟨.inr rfl,_,.cons _ _ _ _ (.cellN 2 79 _ _ _ _ rfl rfl sh79 rfl) .nil,?_⟩
  exact .refl _
noncomputable def manE(l:Ln):Int:=if zz l=true then 0 else 70
noncomputable def manN(l:Ln):Nat:=if zz l=true then(splL l).length else 0
set_option maxHeartbeats 16000000 in
theorem ret19(hi:Off is)(l:Ln):RetP Tryd.prog is orc 19 [l.u] (.tup [.int .i64 (manN l:Nat),.int .i64 (manE l)]):=by
 refine zw body19 pure19 (hi 19 (by decide)) rfl rfl (wA (yk l 5)) (.inr ⟨_,rfl,yq (.int _ _ _) (.int _ _ _)⟩) ?_
 have q56:=ask0 (orc:=orc) hi l
 unfold manE manN
 cases hv:zz l with
 |false=>
  rw[hv,if_neg (by decide)]at q56
  refine kQ (zk rfl rfl (zA rfl (zA rfl (zB ?_))))
  refine zH [(1,U.box 0 0)] ([SB.box [.lst .ro 1 (zE (Ln.slots l)),.int .i64 (Ln.left l),.int .i64 (Ln.right l),.int .i64 (Ln.run l)]]) (.n1 rfl) rfl fun fr=>?_
  refine k_seq (kQ (kB sh24 rfl (zN rfl (q56) (.lcons _ _ _ _ (.refl _) (.lcons _ _ _ _ (.nil .full .ro 1) (.lrefl _))) ?_)))
  refine zA rfl (zB (kQ (zC rfl (kr rfl (zB (k_cT rfl rfl ?_))))))
  refine kQ (zC rfl (zA rfl (zA rfl (zB (zV ?_)))))
  refine⟨.inr rfl,_,.cons _ _ _ _ (.tmp 2) (.cons _ _ _ _ (.tmp 3) .nil),?_⟩
  exact .refl _
 |true=>
  have h:=yl.1 hv
  rw[hv,if_pos rfl]at q56
  have q61:=ret61 (orc:=orc) hi h
  have hK:tlC (splL l).length (cntL (splL l))=.int .i64 ((splL l).length:Nat)::zE (i16 (cntL (splL l))):=rfl
  rw[hK]at q61
  generalize (splL l).length=n at*
  generalize zE (i16 (cntL (splL l)))=K at*
  refine kQ (zk rfl rfl (zA rfl (zA rfl (zB ?_))))
  refine zH [(1,U.box 0 0)] ([SB.box [.lst .ro 1 (zE (Ln.slots l)),.int .i64 (Ln.left l),.int .i64 (Ln.right l),.int .i64 (Ln.run l)]]) (.n1 rfl) rfl fun fr=>?_
  refine k_seq (kQ (kB sh24 rfl (zN rfl (q56) (.lcons _ _ _ _ (.refl _) (.lcons _ _ _ _ (.nil .full .ro 1) (.lrefl _))) ?_)))
  refine zA rfl (zB (kQ (zC rfl (kr rfl (zB (k_cF rfl rfl ?_))))))
  refine zL (kQ (kB sh24 rfl (we rfl ze73 pl73 rfl rfl ?_)))
  refine zN rfl (q61) (.lrefl _) (o_field1 rfl rfl zEF sh3 rfl ?_)
  refine zA rfl (zA rfl (zB (zV ?_)))
  refine⟨.inr rfl,_,.cons _ _ _ _ (.tmp 2) (.cons _ _ _ _ (.tmp 3) .nil),?_⟩
  exact .refl _
end
end Go.Proofs.YthhbfbmfhldbaaaDoor.locks
