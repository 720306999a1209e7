import Derived.Test.YthhbfbmfhldbaaaDoorVamT11
set_option linter.unusedVariables false
set_option linter.unusedSimpArgs false
set_option linter.constructorNameAsVariable false
namespace Go.Proofs.YthhbfbmfhldbaaaDoor.locks
open Vam
section
variable {is:FuncId→Bool}{orc:Known}{l:Ln}
theorem by22:Program.bytesOf Tryd.prog 22=24:=by kernel_rfl
theorem ze22:yU Tryd.prog 22=some ((.cons .nils .nil):V):=by kernel_rfl
theorem ap42_42:AppT Tryd.prog 42 42 22 1 24 ((.cons .nils .nil):V):=⟨ty42,⟨_,ty42⟩,cl22,by decide,by22,ze22,rfl⟩
noncomputable def b84:Code:=(Tryd.f84.body).getD .skip
theorem body84:bodyOf Tryd.prog 84=some (46,b84,[.tmp 4]):=by kernel_rfl
theorem pure84:pureFn Tryd.prog 84=true:=by kernel_rfl
def accL(F:List (List Int)):U:=match F with
 |[]=>.lst .full 0 []
 |F=>.lst .own 1 (zq F)
theorem accL_snoc(q:List Int)(F:List (List Int)):accL (F++[q])=.lst .own 1 (zq F++[.lst .ro 1 (zE q)]):=by
 cases F with
 |nil=>rfl
 |cons y F=>show U.lst .own 1 (zq ((y::F)++[q]))=_;simp[zq]
def rowN(f:Nat→Nat)(k:Nat):List Int:=memP (fun t=>bitI (f k) t) 8
def zCF(f:Nat→Nat)(n:Nat):List (List Int):=(List.range n).map (rowN f)
theorem rowsN_succ(f:Nat→Nat)(n:Nat):zCF f (n+1)=zCF f n++[rowN f n]:=by simp[zCF,List.range_succ]
theorem zDw(f:Nat→Nat)(n:Nat):(zCF f n).length=n:=by simp[zCF]
theorem flat_intsU(L:List Int):yC (zE L)=zE L:=by
 induction L with
 |nil=>rfl
 |cons a L ih=>show U.int .i64 a::yC (zE L)=_;rw[ih];rfl
theorem ints_dg(L:List Int):(zE L).map dg=zE L:=by
 induction L with
 |nil=>rfl
 |cons a L ih=>show dg (.int .i64 a)::(zE L).map dg=_;rw[ih];rfl
theorem ints_c1(L:List Int):∀e∈zE L,(za e).length=1:=fun e he=>by
 obtain⟨x,_,rfl⟩:=List.mem_map.1 he;rfl
set_option maxHeartbeats 16000000 in
theorem ret84(hi:Off is){f:Nat→Nat}(hf:∀k,f k<256){n:Nat}(hn:1≤n∧n≤16):RetP Tryd.prog is orc 84 [.agg (zE (i16 f)),.int .i64 n] (.lst .ro 1 (zq (zCF f n))):=by
 refine yH body84 pure84 (hi 84 (by decide)) rfl rfl (wE (dat_i16 _ 6) (.int _ _ _)) (.inl (zEP _ 5)) ?_
 obtain⟨T,hT⟩:∃T,T=(i16 f).take n:=⟨_,rfl⟩
 have hTl:T.length=n:=by rw[hT,List.length_take,zAG];omega
 have hes:yC (zE T)=(((zE (i16 f)).map dg).drop (0+0*1)).take ((n - 0)*1):=by
  rw[flat_intsU,ints_dg,hT,Nat.zero_mul,Nat.add_zero,List.drop_zero,Nat.sub_zero,Nat.mul_one]
  exact List.map_take
 have hel:(zE T).length=n - 0:=by rw[List.length_map,hTl];rfl
 refine kQ (yB rfl rfl (zC rfl (zB ?_)))
 refine zH [(1,.int .i64 ↑n),(2,U.box 0 0)] ([SB.box [.int .i64 ((fun k ↦ ↑(f k)) (nat_lit 0)),.int .i64 ((fun k ↦ ↑(f k)) (nat_lit 1)),.int .i64 ((fun k ↦ ↑(f k)) (nat_lit 2)),.int .i64 ((fun k ↦ ↑(f k)) (nat_lit 3)),.int .i64 ((fun k ↦ ↑(f k)) (nat_lit 4)),.int .i64 ((fun k ↦ ↑(f k)) (nat_lit 5)),.int .i64 ((fun k ↦ ↑(f k)) (nat_lit 6)),.int .i64 ((fun k ↦ ↑(f k)) (nat_lit 7)),.int .i64 ((fun k ↦ ↑(f k)) (nat_lit 8)),.int .i64 ((fun k ↦ ↑(f k)) (nat_lit 9)),.int .i64 ((fun k ↦ ↑(f k)) (nat_lit 10)),.int .i64 ((fun k ↦ ↑(f k)) (nat_lit 11)),.int .i64 ((fun k ↦ ↑(f k)) (nat_lit 12)),.int .i64 ((fun k ↦ ↑(f k)) (nat_lit 13)),.int .i64 ((fun k ↦ ↑(f k)) (nat_lit 14)),.int .i64 ((fun k ↦ ↑(f k)) (nat_lit 15))]]) (.n2 rfl) rfl fun fr=>?_
 refine kQ (zC rfl (zB (k_seq (kQ (zA rfl (o_sliceA (es:=zE T) (l1:=0) (h1:=n) (m1:=16) rfl ty108 cl3 rfl rfl rfl rfl rfl ⟨_,rfl⟩ rfl (.inl rfl) (Nat.zero_le _) (by omega) (by decide) hes (ints_c1 T) hel ?_))))))
 refine zk rfl ty22 rfl (List.length_map _) ?_
 refine zA rfl (zB (zG ?_))
 refine yZ (fun kk s2=>∃i:Nat,kk+i=n∧s2.st=[.froz (zE (i16 f))]∧Holds s2 [(5,accL (zCF f i)),(11,.lst .ro 1 (zE T)),(12,.int .i64 T.length),(13,.int .i64 i)]) (fun kk s2 hI=>?_) n _ ⟨0,rfl,rfl,.c4 rfl rfl rfl rfl (.nil rfl)⟩
 obtain⟨i,hk,hst2,hs2⟩:=hI
 have hsF:=rowsN_succ f i
 have hFl:=zDw f i
 obtain⟨F,hF⟩:∃F,F=zCF f i:=⟨_,rfl⟩
 rw[←hF]at hsF hFl hs2
 clear hes hel
 by_cases hin:i<n
 ·have hx:T[i]? =some (f i:Int):=by rw[hT,List.getElem?_take_of_lt hin,i16_at (by omega)]
  have hfi:=hf i
  have hrow:rowN f i=memP (fun t=>bitI (f i) t) 8:=rfl
  generalize f i=v at*
  rw[hrow]at hsF
  refine zH _ _ hs2 hst2 fun fr2=>?_
  refine kQ (kp rfl (zB (k_seq (k_cT rfl (kF (by omega)) (zK (k_seq (zG (kQ (zf (u:=.int .i64 (↑v)) rfl ty22 rfl rfl (Int.natCast_nonneg _) (by simp[hx]) cl3 ?_)))))))))
  refine kC sh3 rfl ?_
  refine zC rfl (zB (kQ (zC rfl (zB (k_seq (kQ (zA rfl (zB (zG ?_)))))))))
  refine yZ (fun mm s3=>∃j:Nat,mm+j=8∧s3.st=[.froz (zE (i16 f))]∧Holds s3 [(5,accL F),(7,.int .i64 v),(8,accI (memP (fun t=>bitI v t) j)),(11,.lst .ro 1 (zE T)),(12,.int .i64 T.length),(13,.int .i64 i),(17,.int .i64 j)]) (fun mm s3 hJ=>?_) 8 _ ⟨0,rfl,rfl,.c4 rfl rfl rfl rfl (.n3 rfl)⟩
  obtain⟨j,hj,hst3,hs3⟩:=hJ
  have hsu:=zED (fun t=>bitI v t) j
  have hml:=zCO (fun t=>bitI v t) j
  obtain⟨M,hM⟩:∃M,M=memP (fun t=>bitI v t) j:=⟨_,rfl⟩
  rw[←hM]at hsu hml hs3
  by_cases hj8:j<8
  ·have hfd:=fdiv_b (n:=(v:Int)) (j:Int).toNat (by omega)
   cases hb:bitI v j with
   |true=>
    rw[if_pos hb]at hsu
    unfold bitI at hb
    cases M with
    |nil=>
     refine zH _ _ hs3 hst3 fun fr3=>?_
     refine kQ (kp rfl (zB (k_seq (k_cT rfl (kF (by omega)) (zK (k_seq (zG (kQ (zA rfl (zC rfl (zB (kQ (zA rfl (zA rfl (o_shr rfl rfl rfl (by omega) ?_)))))))))))))))
     refine zDL rfl rfl rfl hfd ?_
     refine ks rfl (zB (k_cT rfl (by assumption) (k_region (zA rfl (zA rfl (wv (es:=[.int .i64 ↑j]) rfl ty22 ze3 cl3 rfl rfl rfl rfl rfl rfl rfl rfl ?_))))))
     refine wg rfl zAM rfl rfl (by simp) (by simp) (by simp[yC,za,oneU]) (by simp) ?_
     refine zC rfl (zB ?_)
     refine zH [(5,accL F),(7,.int .i64 ↑v),(8,U.lst Kd.own 1 [.int .i64 ↑j]),(11,.lst .ro 1 (zE T)),(12,.int .i64 ↑(List.length T)),(13,.int .i64 ↑i),(17,.int .i64 ↑j)] ([SB.froz (zE (i16 f))]) (.n7 rfl) rfl fun fr=>?_
     refine k_region ?_
     refine kz rfl (by unfold I64;omega) (zA rfl (zB ?_))
     exact⟨mm - 1,by omega,j+1,by omega,rfl,.cons rfl (.cons rfl (.cons (by rw[hsu];rfl) (.n4 rfl)))⟩
    |cons y M=>
     refine zH _ _ hs3 hst3 fun fr3=>?_
     refine kQ (kp rfl (zB (k_seq (k_cT rfl (kF (by omega)) (zK (k_seq (zG (kQ (zA rfl (zC rfl (zB (kQ (zA rfl (zA rfl (o_shr rfl rfl rfl (by omega) ?_)))))))))))))))
     refine zDL rfl rfl rfl hfd ?_
     refine ks rfl (zB (k_cT rfl (by assumption) (k_region (zA rfl (zA rfl (wv (es:=[.int .i64 ↑j]) rfl ty22 ze3 cl3 rfl rfl rfl rfl rfl rfl rfl rfl ?_))))))
     refine zAC 8 rfl zAM rfl rfl rfl (by simp) (by simp) (by simp[yC,za,oneU]) (by simp at hml ⊢;omega) ?_
     refine zC rfl (zB (k_region ?_))
     refine kz rfl (by unfold I64;omega) (zA rfl (zB ?_))
     exact⟨mm - 1,by omega,j+1,by omega,rfl,.cons rfl (.cons rfl (.cons (by rw[hsu,zBO];rfl) (.n4 rfl)))⟩
   |false=>
    rw[if_neg (by rw[hb];decide),List.append_nil]at hsu
    unfold bitI at hb
    refine zH _ _ hs3 hst3 fun fr3=>?_
    refine kQ (kp rfl (zB (k_seq (k_cT rfl (kF (by omega)) (zK (k_seq (zG (kQ (zA rfl (zC rfl (zB (kQ (zA rfl (zA rfl (o_shr rfl rfl rfl (by omega) ?_)))))))))))))))
    refine zDL rfl rfl rfl hfd ?_
    refine ks rfl (zB (k_cF rfl (by assumption) (zK (k_region ?_))))
    refine kz rfl (by unfold I64;omega) (zA rfl (zB ?_))
    exact⟨mm - 1,by omega,j+1,by omega,rfl,.cons rfl (.cons rfl (.cons (congrArg accI hsu.symm) (.n4 rfl)))⟩
  ·have hje:j=8:=by omega
   rw[hje]at hM
   rw[←hM]at hsF
   clear hsu hM
   cases M with
   |nil=>
    cases F with
    |nil=>
     refine zH _ _ hs3 hst3 fun fr3=>?_
     refine kQ (kp rfl (zB (k_seq (k_cF rfl (kG (by omega)) (zp (k_region (zA rfl (zA rfl (zA rfl (zk rfl ty22 rfl rfl ?_))))))))))
     refine zA rfl (zk rfl ty22 rfl rfl ?_)
     refine zAz rfl ty22 cl3 rfl (by simp) rfl rfl (Nat.le_refl _) (o_weak 36 (u:=.lst .ro 1 (zE [])) rfl (fun v=>rfl) (.ro .full 1 []) ?_)
     refine wv (es:=[U.lst Kd.ro 1 (zE [])]) rfl ty42 ze22 cl22 rfl rfl rfl rfl rfl rfl rfl rfl ?_
     refine wg rfl ap42_42 rfl rfl (by simp) (by simp) (by simp[yC,za,oneU]) (by simp) ?_
     refine zC rfl (zB (k_region ?_))
     refine kz rfl (by unfold I64;omega) (zA rfl (zB ?_))
     exact⟨kk - 1,by omega,i+1,by omega,rfl,.cons (by rw[hsF];rfl) (.n3 rfl)⟩
    |cons q F=>
     refine zH _ _ hs3 hst3 fun fr3=>?_
     refine kQ (kp rfl (zB (k_seq (k_cF rfl (kG (by omega)) (zp (k_region (zA rfl (zA rfl (zA rfl (zk rfl ty22 rfl rfl ?_))))))))))
     refine zA rfl (zk rfl ty22 rfl rfl ?_)
     refine zAz rfl ty22 cl3 rfl (by simp) rfl rfl (Nat.le_refl _) (o_weak 36 (u:=.lst .ro 1 (zE [])) rfl (fun v=>rfl) (.ro .full 1 []) ?_)
     refine wv (es:=[U.lst Kd.ro 1 (zE [])]) rfl ty42 ze22 cl22 rfl rfl rfl rfl rfl rfl rfl rfl ?_
     refine zAC 5 rfl ap42_42 rfl rfl rfl (by simp) (by simp) (by simp[yC,za,oneU]) (by simp at hFl ⊢;omega) ?_
     refine zC rfl (zB (k_region ?_))
     refine kz rfl (by unfold I64;omega) (zA rfl (zB ?_))
     exact⟨kk - 1,by omega,i+1,by omega,rfl,.cons (by rw[hsF,accL_snoc];rfl) (.n3 rfl)⟩
   |cons y M=>
    have hw2:UW (.u (.lst .full 1 (List.take (y::M).length (zE (y::M))))) (.u (.lst .ro 1 (zE (y::M)))):=by
     rw[List.take_of_length_le (by simp)]
     exact .ro _ _ _
    cases F with
    |nil=>
     refine zH _ _ hs3 hst3 fun fr3=>?_
     refine kQ (kp rfl (zB (k_seq (k_cF rfl (kG (by omega)) (zp (k_region (zA rfl (zA rfl (zA rfl (zk rfl ty22 rfl (List.length_map _) ?_))))))))))
     refine zA rfl (zk rfl ty22 rfl (List.length_map _) ?_)
     refine zAz rfl ty22 cl3 rfl (by simp) rfl rfl (by simp) (o_weak 36 (u:=.lst .ro 1 (zE (y::M))) rfl (fun v=>rfl) hw2 ?_)
     refine wv (es:=[U.lst Kd.ro 1 (zE (y::M))]) rfl ty42 ze22 cl22 rfl rfl rfl rfl rfl rfl rfl rfl ?_
     refine wg rfl ap42_42 rfl rfl (by simp) (by simp) (by simp[yC,za,oneU]) (by simp) ?_
     refine zC rfl (zB (k_region ?_))
     refine kz rfl (by unfold I64;omega) (zA rfl (zB ?_))
     exact⟨kk - 1,by omega,i+1,by omega,rfl,.cons (by rw[hsF];rfl) (.n3 rfl)⟩
    |cons q F=>
     refine zH _ _ hs3 hst3 fun fr3=>?_
     refine kQ (kp rfl (zB (k_seq (k_cF rfl (kG (by omega)) (zp (k_region (zA rfl (zA rfl (zA rfl (zk rfl ty22 rfl (List.length_map _) ?_))))))))))
     refine zA rfl (zk rfl ty22 rfl (List.length_map _) ?_)
     refine zAz rfl ty22 cl3 rfl (by simp) rfl rfl (by simp) (o_weak 36 (u:=.lst .ro 1 (zE (y::M))) rfl (fun v=>rfl) hw2 ?_)
     refine wv (es:=[U.lst Kd.ro 1 (zE (y::M))]) rfl ty42 ze22 cl22 rfl rfl rfl rfl rfl rfl rfl rfl ?_
     refine zAC 5 rfl ap42_42 rfl rfl rfl (by simp) (by simp) (by simp[yC,za,oneU]) (by simp at hFl ⊢;omega) ?_
     refine zC rfl (zB (k_region ?_))
     refine kz rfl (by unfold I64;omega) (zA rfl (zB ?_))
     exact⟨kk - 1,by omega,i+1,by omega,rfl,.cons (by rw[hsF,accL_snoc];rfl) (.n3 rfl)⟩
 ·have hie:i=n:=by omega
  have hF2:zCF f n=F:=by rw[hF,hie]
  rw[hF2]
  clear hF hF2 hsF
  refine zH _ _ hs2 hst2 fun fr2=>?_
  cases F with
  |nil=>exact absurd hFl (by show ¬ (0=i);omega)
  |cons y M=>
   have ht:List.take (y::M).length (zq (y::M))=zq (y::M):=List.take_of_length_le (by simp)
   refine kQ (kp rfl (zB (k_seq (k_cF rfl (kG (by omega)) (zp (kQ (zA rfl (zA rfl (zk rfl ty42 rfl (List.length_map _) ?_)))))))))
   refine zA rfl (zk rfl ty42 rfl (List.length_map _) ?_)
   refine zAz rfl ty42 cl22 rfl (by simp) rfl rfl (by simp) ?_
   refine zC rfl (zB (zY ?_))
   refine⟨.inr rfl,_,.cons _ _ _ _ (.tmp 4) .nil,?_⟩
   show UW (.u (.lst .full 1 (List.take (y::M).length (zq (y::M))))) _
   rw[ht]
   exact .ro _ _ _
end
section
variable {is:FuncId→Bool}{orc:Known}{l:Ln}
noncomputable def b82:Code:=(Tryd.f82.body).getD .skip
theorem body82:bodyOf Tryd.prog 82=some (13,b82,[.tmp 2]):=by kernel_rfl
theorem pure82:pureFn Tryd.prog 82=true:=by kernel_rfl
theorem pl107:zFN Tryd.prog 107=some [(0,1),(1,1)]:=by kernel_rfl
theorem zAw:shOf Tryd.prog 107=.many 2:=by kernel_rfl
theorem ze107:yU Tryd.prog 107=some ((.cons (.int .i64 0) (.cons (.int .i64 0) .nil)):V):=by kernel_rfl
noncomputable def b33:Code:=(Tryd.f33.body).getD .skip
theorem body33:bodyOf Tryd.prog 33=some (36,b33,[.tmp 8,.tmp 9]):=by kernel_rfl
theorem pure33:pureFn Tryd.prog 33=true:=by kernel_rfl
def lateB(w b:Int):Bool:=inS 0 1 w&&inS 0 8 b
theorem ret82(hi:Off is)(w b:Int):RetP Tryd.prog is orc 82 [zBP w b] (.bool (lateB w b)):=by
 have q1:=ret93 (orc:=orc) hi w
 have q2:=ret77 (orc:=orc) hi 0 8 b
 refine yH body82 pure82 (hi 82 (by decide)) rfl rfl (wk (zEO w b 6)) (.inl (.bool _ _)) ?_
 unfold lateB
 generalize inS 0 1 w=z1 at*
 generalize inS 0 8 b=z2 at*
 cases z1 with
 |false=>
  refine kQ (yB rfl rfl (zC rfl (zB ?_)))
  refine zH [(1,U.box 0 0)] ([SB.box [.int .i64 w,.int .i64 b]]) (.n1 rfl) rfl fun fr=>?_
  refine kQ (kw rfl zDQ (kA sh3 rfl (zN rfl (q1) (.lrefl _) (zA rfl (ke rfl (ke rfl (ke rfl (ke rfl (ke rfl (kD rfl ?_))))))))))
  refine zC rfl (zB (zY ?_))
  refine⟨.inr rfl,_,.cons _ _ _ _ (.tmp 2) .nil,?_⟩
  exact .refl _
 |true=>
  refine kQ (yB rfl rfl (zC rfl (zB ?_)))
  refine zH [(1,U.box 0 0)] ([SB.box [.int .i64 w,.int .i64 b]]) (.n1 rfl) rfl fun fr=>?_
  refine kQ (kw rfl zDQ (kA sh3 rfl (zN rfl (q1) (.lrefl _) (zA rfl (kf rfl (zDz (i:=5) (c:=2) (n:=7) sh99 rfl rfl rfl rfl rfl rfl zDq cl99 rfl rfl rfl (gatB 5 (by decide)) rfl ?_))))))
  refine kf rfl (kw rfl wn (kf rfl (kA sh3 rfl (kf rfl (zN rfl (q2) (.lrefl _) (kE rfl ?_))))))
  refine zC rfl (zB (zY ?_))
  refine⟨.inr rfl,_,.cons _ _ _ _ (.tmp 2) .nil,?_⟩
  exact .refl _
theorem hr_lt(h:VL l){p:List Int}(hp:p.length=l.slots.length)(w:Int)(b:Nat):∀k,hrN l p w b p.length k<256:=fun k=>hrN_lt h p w b _ (by omega) k
def zFB(l:Ln)(p:List Int)(w:Int)(b:Nat):List (List Int):=zCF (hrN l p w b p.length) l.slots.length
set_option maxHeartbeats 16000000 in
theorem ret33(hi:Off is)(h:VL l){p:List Int}(hd:divB l p=true){w:Int}(hw:w=0∨w=1){b:Nat}(hb:b≤8):RetP Tryd.prog is orc 33 [l.u,.lst .ro 1 (zE p),.int .i64 w,.int .i64 b] (.tup [.lst .ro 1 (zq (zFB l p w b)),.int .i64 0]):=by
 refine yH body33 pure33 (hi 33 (by decide)) rfl rfl (dat_l4 (wa l 5) (yK 6 .ro (fun h=>by cases h) 1 p) (.int _ _ _) (.int _ _ _)) (.inr ⟨_,rfl,wE (zEP _ 4) (.int _ _ _)⟩) ?_
 have hn:=h.n
 have hp:=(zAZ.1 hd).1
 have hv:=zBG.2 h
 have q57:=ret57 (orc:=orc) hi l p
 have hlb:lateB w b=true:=by unfold lateB;rw[zAW.2 (by omega),zAW.2 (by omega)];rfl
 have q58:=ret58 (orc:=orc) hi h p
 have q82:=ret82 (orc:=orc) hi w b
 rw[hd]at q58
 rw[hlb]at q82
 have q56:=ret56 (orc:=orc) hi l [⟨58,[zCh l p],true⟩,⟨82,[zBP w b],true⟩] (fun q hq u hu=>by
  simp only[List.mem_cons,List.not_mem_nil,or_false]at hq
  rcases hq with rfl|rfl
  ·exact(wk (zBb l p 5) u hu).nb
  ·exact(wk (zEO w b 6) u hu).nb) (fun _ i q hq _=>by
  match i,hq with
  |0,hq=>cases hq;exact q58
  |1,hq=>cases hq;exact q82) (by show 2≤10;omega)
 have q56:RetP Tryd.prog is orc 56 [l.u,.lst .ro 1 [.fn 58 [zCh l p] [],.fn 82 [zBP w b] []]] (.int .i64 0):=by
  have e:askI l [⟨58,[zCh l p],true⟩,⟨82,[zBP w b],true⟩]=0:=by unfold askI;rw[hv];rfl
  rw[e]at q56;exact q56
 have q83:=ret83 (orc:=orc) hi h hd (who:=w) hb
 have q84:=ret84 (orc:=orc) hi (f:=hrN l p w b p.length) (hr_lt h hp w b) (n:=l.slots.length) hn
 have e:zFB l p w b=zCF (hrN l p w b p.length) l.slots.length:=rfl
 rw[e]
 have hSl:=zAG (hrN l p w b p.length)
 generalize zCF (hrN l p w b p.length) l.slots.length=R at*
 generalize i16 (hrN l p w b p.length)=S at*
 obtain⟨a0,a1,a2,a3,a4,a5,a6,a7,a8,a9,a10,a11,a12,a13,a14,a15,rfl⟩:=zEF hSl
 refine kQ (yB rfl rfl (zC rfl (zC rfl (zB ?_))))
 refine zH [(1,.lst .ro 1 (zE p)),(2,.int .i64 w),(3,.int .i64 ↑b),(4,U.box 0 0)] ([SB.box [.lst .ro 1 (zE (Ln.slots l)),.int .i64 (Ln.left l),.int .i64 (Ln.right l),.int .i64 (Ln.run l)]]) (.n4 rfl) rfl fun fr=>?_
 refine kQ (kB sh24 rfl (zA rfl (zN rfl (q57) (.lrefl _) (zo rfl ze75 ?_))))
 refine zt rfl rfl sh75 rfl rfl rfl rfl rfl ?_
 refine zB ?_
 refine zH [(2,.int .i64 w),(3,.int .i64 ↑b),(4,U.box 0 0),(10,U.box 1 0)] ([SB.box [.lst .ro 1 (zE (Ln.slots l)),.int .i64 (Ln.left l),.int .i64 (Ln.right l),.int .i64 (Ln.run l)],SB.box [.lst .ro 1 (zE (Ln.slots l)),.int .i64 (Ln.left l),.int .i64 (Ln.right l),.int .i64 (Ln.run l),.lst .ro 1 (zE p)]]) (.n4 rfl) rfl fun fr=>?_
 refine kQ (zA rfl (zA rfl (wN rfl ze107 pl107 rfl rfl ?_)))
 refine zo rfl ze107 ?_
 refine zt rfl rfl zAw rfl rfl rfl rfl rfl ?_
 refine zB ?_
 refine zH [(4,U.box 0 0),(10,U.box 1 0),(11,U.box 2 0)] ([SB.box [.lst .ro 1 (zE (Ln.slots l)),.int .i64 (Ln.left l),.int .i64 (Ln.right l),.int .i64 (Ln.run l)],SB.box [.lst .ro 1 (zE (Ln.slots l)),.int .i64 (Ln.left l),.int .i64 (Ln.right l),.int .i64 (Ln.run l),.lst .ro 1 (zE p)],SB.box [.int .i64 w,.int .i64 ↑b]]) (.n3 rfl) rfl fun fr=>?_
 refine k_seq (kQ (kB sh24 rfl (kB sh75 rfl ?_)))
 refine zCw rfl ?_
 refine kB zAw rfl ?_
 refine zCw rfl ?_
 refine wv (es:=[U.fn 58 [U.agg [U.lst Kd.ro 1 (zE (Ln.slots l)),.int .i64 (Ln.left l),.int .i64 (Ln.right l),.int .i64 (Ln.run l),U.lst Kd.ro 1 (zE p)]] [],U.fn 82 [U.agg [.int .i64 w,.int .i64 ↑b]] []]) rfl zGq ze34 cl34 rfl rfl rfl rfl rfl rfl rfl rfl ?_
 refine zN rfl (q56) (.lcons _ _ _ _ (.refl _) (.lcons _ _ _ _ (.ro _ _ _) (.lrefl _))) ?_
 refine zC rfl (zB (kQ (zA rfl (kr rfl (zB (k_cF rfl rfl ?_))))))
 refine zK (k_seq (yI [.read true,.read true,.read false,.plain,.read true,.read true,.plain,.plain,.plain] (by kernel_rfl) (by kernel_rfl) (by kernel_rfl) ?_))
 refine zP rfl (kB sh75 rfl (zB rfl)) ?_
 refine zP rfl (kB zAw rfl (zB rfl)) ?_
 refine zDm rfl (q83) (zGd [a0,a1,a2,a3,a4,a5,a6,a7,a8,a9,a10,a11,a12,a13,a14,a15]) (.lrefl _) ?_
 refine zD (kw rfl zQ (zB rfl)) ?_
 refine zP rfl (kA sh22 rfl (zB rfl)) (zP rfl (zk rfl ty22 rfl (List.length_map _) (zB rfl)) ?_)
 refine zD (zN rfl (q84) (.lrefl _) (zB rfl)) ?_
 refine zD (zC rfl (zB rfl)) ?_
 refine zD (zC rfl (zB rfl)) ?_
 refine yu ?_
 refine zY ?_
 refine⟨.inr rfl,_,.cons _ _ _ _ (.tmp 8) (.cons _ _ _ _ (.tmp 9) .nil),?_⟩
 exact .refl _
end
end Go.Proofs.YthhbfbmfhldbaaaDoor.locks
