import Derived.Test.YtlknfhjfkcboiaaDoorVamT10
set_option linter.unusedVariables false
set_option linter.unusedSimpArgs false
set_option linter.constructorNameAsVariable false
namespace Go.Proofs.YtlknfhjfkcboiaaDoor.night
open Vam
section
variable {is:FuncId→Bool}{orc:Known}
noncomputable def b69:Code:=(Tryd.f69.body).getD .skip
theorem body69:bodyOf Tryd.prog 69=some (34,b69,[.tmp 4]):=by kernel_rfl
theorem pure69:pureFn Tryd.prog 69=true:=by kernel_rfl
noncomputable def b30:Code:=(Tryd.f30.body).getD .skip
theorem body30:bodyOf Tryd.prog 30=some (28,b30,[.tmp 4]):=by kernel_rfl
theorem pure30:pureFn Tryd.prog 30=true:=by kernel_rfl
theorem sh44:shOf Tryd.prog 44=.many 3:=by kernel_rfl
theorem ty44:tyOf Tryd.prog 44=.array 3 3:=by kernel_rfl
theorem ze44:yX Tryd.prog 44=some ((.cons (.int .i64 0) (.cons (.int .i64 0) (.cons (.int .i64 0) .nil))):V):=by kernel_rfl
noncomputable def b33:Code:=(Tryd.f33.body).getD .skip
theorem body33:bodyOf Tryd.prog 33=some (55,b33,[.cell 6 44]):=by kernel_rfl
theorem pure33:pureFn Tryd.prog 33=true:=by kernel_rfl
def drawI(a b n:Int):Int:=if b≤a then a else a+zGN n (b - a+1)
theorem drawI_b{a b:Int}(n:Int)(h:a≤b):a≤drawI a b n∧drawI a b n≤b:=by
 unfold drawI
 split
 ·omega
 ·have:=turnI_b (n:=n) (b:=b - a+1) (by omega)
  omega
set_option maxHeartbeats 4000000 in
theorem ret69(hi:Off is)(a b n:Int)(ha: -100000≤a∧a≤100000)(hb: -100000≤b∧b≤100000):RetP Tryd.prog is orc 69 [zCa a b,.int .i64 n] (.int .i64 (drawI a b n)):=by
 refine zw body69 pure69 (hi 69 (by decide)) rfl rfl (yE (zCK a b 6) (.int _ _ _)) (.inl (.int _ _ _)) ?_
 unfold drawI
 by_cases h:b≤a
 ·rw[if_pos h]
  refine kQ (yF rfl rfl (zB rfl (zC ?_)))
  refine zH [(1,.int .i64 n),(2,U.box 0 0)] ([SB.box [.int .i64 a,.int .i64 b]]) (.cons rfl (.cons rfl (.nil rfl))) rfl fun fr=>?_
  refine k_seq (kQ (zE rfl rfl zAO (zG rfl rfl rfl sh3 rfl (zE rfl rfl wH (zG rfl rfl rfl sh3 rfl (zBq rfl rfl rfl (zC (k_cT rfl (decide_eq_true (by omega)) ?_))))))))
  refine kQ (zE rfl rfl wH (zG rfl rfl rfl sh3 rfl (zB rfl (zC (zX ?_)))))
  refine⟨.inr rfl,_,.cons _ _ _ _ (.tmp 4) .nil,?_⟩
  exact .refl _
 ·rw[if_neg h]
  have ht:=turnI_b (n:=n) (b:=b - a+1) (by omega)
  refine kQ (yF rfl rfl (zB rfl (zC ?_)))
  refine zH [(1,.int .i64 n),(2,U.box 0 0)] ([SB.box [.int .i64 a,.int .i64 b]]) (.cons rfl (.cons rfl (.nil rfl))) rfl fun fr=>?_
  refine k_seq (kQ (zE rfl rfl zAO (zG rfl rfl rfl sh3 rfl (zE rfl rfl wH (zG rfl rfl rfl sh3 rfl (zBq rfl rfl rfl (zC (k_cF rfl (decide_eq_false (by omega)) ?_))))))))
  refine zL (kQ (zE rfl rfl zAO (zG rfl rfl rfl sh3 rfl (zE rfl rfl wH (zG rfl rfl rfl sh3 rfl ?_)))))
  refine o_sub rfl rfl rfl (by unfold I64;omega) ?_
  refine yH rfl rfl rfl (by unfold I64;omega) (zB rfl (zC ?_))
  refine zH [(1,.int .i64 n),(2,U.box 0 0),(5,.int .i64 (b - a+(1:Int)))] ([SB.box [.int .i64 a,.int .i64 b]]) (.cons rfl (.cons rfl (.cons rfl (.nil rfl)))) rfl fun fr=>?_
  refine k_seq (kQ (zA rfl (zW rfl rfl rfl (zC (k_cF rfl (decide_eq_false (by omega)) (zL (k_seq (wn [.plain,.read true,.plain,.plain,.read false,.plain,.plain] (by kernel_rfl) (by kernel_rfl) (by kernel_rfl) ?_))))))))
  refine zD (zE rfl rfl wH (zC rfl)) ?_
  refine zg rfl (zG rfl rfl rfl sh3 rfl (zC rfl)) (zD (zA rfl (zC rfl)) (zD (zA rfl (zC rfl)) (zAQ rfl (ret38 hi n (b - a+1) (by omega)) (.int _ _) (.lrefl _) ?_)))
  refine zD (yH rfl rfl rfl (by unfold I64;omega) (zC rfl)) ?_
  refine zD (zB rfl (zC rfl)) ?_
  refine zBi ?_
  refine zX ?_
  refine⟨.inr rfl,_,.cons _ _ _ _ (.tmp 4) .nil,?_⟩
  exact .refl _
def truI(b:Bk)(bits:List Int)(i:Nat):Int:=match b.scenes[i]? with|none=>0|some q=>drawI q.lo q.hi (nthI bits i)
def truL(b:Bk)(bits:List Int)(n:Nat):List Int:=(List.range n).map (truI b bits)
theorem zFH(b:Bk)(bits:List Int)(n:Nat):(truL b bits n).length=n:=by simp[truL]
theorem truL_succ(b:Bk)(bits:List Int)(n:Nat):truL b bits (n+1)=truL b bits n++[truI b bits n]:=by simp[truL,List.range_succ]
theorem truL_at{b:Bk}{bits:List Int}{n i:Nat}(h:i<n):(truL b bits n)[i]? =some (truI b bits i):=by simp[truL,h]
theorem zGa{b:Bk}(h:BOk b)(bits:List Int){i:Nat}{q:Sc}(hq:b.scenes[i]? =some q):q.lo≤truI b bits i∧truI b bits i≤q.hi:=by
 have hs:=h.sc i q hq
 unfold truI
 rw[hq]
 exact drawI_b _ (by omega)
set_option maxHeartbeats 8000000 in
theorem ret30(hi:Off is){b:Bk}(h:BOk b)(bits:List Int):RetP Tryd.prog is orc 30 [b.u,.lst .ro 1 (zF bits)] (.lst .ro 1 (zF (truL b bits b.scenes.length))):=by
 refine zw body30 pure30 (hi 30 (by decide)) rfl rfl (yE (wV b 4) (zY 6 .ro (fun h=>by cases h) 1 bits)) (.inl (zY 6 .ro (fun h=>by cases h) 1 _)) ?_
 have hn:=h.sn
 refine kQ (yF rfl rfl (zB rfl (zC ?_)))
 refine zH [(1,.lst .ro 1 (zF bits)),(2,U.box 0 0)] ([SB.box (Bk.cs b)]) (.cons rfl (.cons rfl (.nil rfl))) rfl fun fr=>?_
 refine kQ (zB rfl (zC (k_seq (kQ (zB rfl (zC (zK ?_)))))))
 refine yZ (fun kk s2=>∃i:Nat,kk+i=b.scenes.length∧s2.st=[.box (Bk.cs b)]∧Holds s2 [(1,.lst .ro 1 (zF bits)),(2,.box 0 0),(5,accI (truL b bits i)),(6,.int .i64 i)]) (fun kk s2 hI=>?_) b.scenes.length _ ⟨0,rfl,rfl,.c4 rfl rfl rfl rfl (.nil rfl)⟩
 obtain⟨i,hk,hst2,hs2⟩:=hI
 have hsu:=truL_succ b bits i
 have hlen:=zFH b bits i
 obtain⟨M,hM⟩:∃M,M=truL b bits i:=⟨_,rfl⟩
 rw[←hM]at hsu hlen hs2
 refine zH _ _ hs2 hst2 fun fr2=>?_
 by_cases hin:i<b.scenes.length
 ·obtain⟨x,hx⟩:∃x,b.scenes[i]? =some x:=⟨b.scenes[i],List.getElem?_eq_getElem hin⟩
  have hs:=h.sc i x hx
  have q45:=ret45 (orc:=orc) hi bits i
  have q69:=ret69 (orc:=orc) hi x.lo x.hi (nthI bits i) (by omega) (by omega)
  have ht:truI b bits i=drawI x.lo x.hi (nthI bits i):=by unfold truI;rw[hx]
  rw[ht]at hsu
  generalize drawI x.lo x.hi (nthI bits i)=t at*
  cases M with
  |nil=>
   refine k_seq (kQ (zA rfl (zE rfl rfl zo (zG rfl rfl rfl sh23 rfl (zd rfl ty23 rfl (List.length_map _) ?_)))))
   refine zW rfl rfl rfl (zC (k_cT rfl (decide_eq_true (by omega)) (zL (k_seq (zK (wn [.plain,.plain,.read true,.plain,.plain,.plain,.read true,.plain,.plain,.read false,.plain,.plain,.plain,.plain] (by kernel_rfl) (by kernel_rfl) (by kernel_rfl) ?_))))))
   refine zD (zA rfl (zC rfl)) (zD (zE rfl rfl zo (zC rfl)) ?_)
   refine zg rfl (zG rfl rfl rfl sh23 rfl (zC rfl)) (zD (zA rfl (zC rfl)) (zD (zh (u:=(x).u) rfl ty23 rfl rfl (Int.natCast_nonneg _) (by simp[hx]) cl50 (zC rfl)) ?_))
   refine zD (wB rfl rfl we (zC rfl)) ?_
   refine zg rfl (yl rfl rfl sh48 rfl (zC rfl)) ?_
   refine zD (zA rfl (zC rfl)) (zD (zA rfl (zC rfl)) ?_)
   refine yz [(1,.lst .ro 1 (zF bits)),(2,U.box 0 0),(6,.int .i64 ↑i),(14,.lst .full 0 []),(20,U.agg [.int .i64 (Sc.lo x),.int .i64 (Sc.hi x)]),(21,.lst .ro 1 (zF bits)),(22,.int .i64 ↑i)] [] ([SB.box (Bk.cs b)]) (.c4 rfl rfl rfl rfl (.cons rfl (.cons rfl (.cons rfl (.nil rfl))))) rfl rfl fun fr=>?_
   refine zAQ rfl (q45) (.int _ _) (.lrefl _) ?_
   refine zD (zM rfl (q69) (.lrefl _) (zC rfl)) ?_
   refine zD (zAY (es:=[.int .i64 t]) rfl ty22 ze3 cl3 rfl rfl rfl rfl rfl rfl rfl rfl (zC rfl)) ?_
   refine zD (zAK rfl zAs rfl rfl (by simp) (by simp) (by simp[yK,zt,oneU]) (by simp) (zC rfl)) ?_
   refine zD (zB rfl (zC rfl)) ?_
   refine zBi ?_
   refine zH [(1,.lst .ro 1 (zF bits)),(2,U.box 0 0),(5,U.lst Kd.own 1 [.int .i64 t]),(6,.int .i64 ↑i)] ([SB.box (Bk.cs b)]) (.c4 rfl rfl rfl rfl (.nil rfl)) rfl fun fr=>?_
   refine k_region (zA rfl ?_)
   refine yH rfl rfl rfl (by unfold I64;omega) (zB rfl (zC ?_))
   exact⟨kk - 1,by omega,i+1,by omega,rfl,.cons rfl (.cons rfl (.cons (by rw[hsu];rfl) (.cons rfl (.nil rfl))))⟩
  |cons y M=>
   refine k_seq (kQ (zA rfl (zE rfl rfl zo (zG rfl rfl rfl sh23 rfl (zd rfl ty23 rfl (List.length_map _) ?_)))))
   refine zW rfl rfl rfl (zC (k_cT rfl (decide_eq_true (by omega)) (zL (k_seq (zK (wn [.plain,.plain,.read true,.plain,.plain,.plain,.read true,.plain,.plain,.read false,.plain,.plain,.plain,.plain] (by kernel_rfl) (by kernel_rfl) (by kernel_rfl) ?_))))))
   refine zD (zA rfl (zC rfl)) (zD (zE rfl rfl zo (zC rfl)) ?_)
   refine zg rfl (zG rfl rfl rfl sh23 rfl (zC rfl)) (zD (zA rfl (zC rfl)) (zD (zh (u:=(x).u) rfl ty23 rfl rfl (Int.natCast_nonneg _) (by simp[hx]) cl50 (zC rfl)) ?_))
   refine zD (wB rfl rfl we (zC rfl)) ?_
   refine zg rfl (yl rfl rfl sh48 rfl (zC rfl)) ?_
   refine zD (zA rfl (zC rfl)) (zD (zA rfl (zC rfl)) (zAQ rfl (q45) (.int _ _) (.lrefl _) ?_))
   refine zD (zM rfl (q69) (.lrefl _) (zC rfl)) ?_
   refine zD (zAY (es:=[.int .i64 t]) rfl ty22 ze3 cl3 rfl rfl rfl rfl rfl rfl rfl rfl (zC rfl)) ?_
   refine zD (zAj 5 rfl zAs rfl rfl rfl (by simp) (by simp) (by simp[yK,zt,oneU]) (by simp at hlen ⊢;omega) (zC rfl)) ?_
   refine zD (zB rfl (zC rfl)) ?_
   refine zBi ?_
   refine k_region (zA rfl ?_)
   refine yH rfl rfl rfl (by unfold I64;omega) (zB rfl (zC ?_))
   exact⟨kk - 1,by omega,i+1,by omega,rfl,.cons rfl (.cons rfl (.cons (by rw[hsu,zAo];rfl) (.cons rfl (.nil rfl))))⟩
 ·have hie:b.scenes.length=i:=by omega
  rw[hie,←hM]
  have hu:=uw_accI M
  refine k_seq (kQ (zA rfl (zE rfl rfl zo (zG rfl rfl rfl sh23 rfl (zd rfl ty23 rfl (List.length_map _) ?_)))))
  refine zW rfl rfl rfl (zC (k_cF rfl (decide_eq_false (by omega)) (yO (kQ (zA rfl (zB rfl (zC (zX ?_))))))))
  refine⟨.inr rfl,_,.cons _ _ _ _ (.tmp 4) .nil,?_⟩
  exact hu
theorem mnS_none{b:Bk}{d L:List Int}{p:Int}{e:Bool}{i:Nat}(h:∀(j:Nat) (q:Sc),b.scenes[j]? =some q→j<i→q.part≠p):mnS b d L p e i=[]:=by
 induction i with
 |zero=>rfl
 |succ i ih=>
  unfold mnS
  rw[ih fun j q hq hj=>h j q hq (by omega)]
  cases hq:b.scenes[i]? with
  |none=>rfl
  |some q=>
   show []++elM d L p e i q=[]
   unfold elM
   rw[if_pos (.inl (h i q hq (by omega)))];rfl
theorem mnS_stop{b:Bk}{d L:List Int}{p:Int}{e:Bool}{i:Nat}(h:∀(j:Nat) (q:Sc),b.scenes[j]? =some q→i≤j→q.part≠p):∀n,i≤n→mnS b d L p e n=mnS b d L p e i:=by
 intro n hn
 obtain⟨k,rfl⟩:=Nat.exists_eq_add_of_le hn
 induction k with
 |zero=>rfl
 |succ k ih=>
  rw[←Nat.add_assoc]
  conv=>lhs;unfold mnS
  rw[ih (by omega)]
  cases hq:b.scenes[i+k]? with
  |none=>simp
  |some q=>
   show _++elM d L p e (i+k) q=_
   unfold elM
   rw[if_pos (.inl (h _ q hq (by omega))),List.append_nil]
theorem part_mono{b:Bk}(h:BOk b){i:Nat}{q:Sc}(hq:b.scenes[i]? =some q):∀(k:Nat) (q2:Sc),b.scenes[i+k]? =some q2→q.part≤q2.part:=by
 intro k
 induction k with
 |zero=>intro q2 h2;rw[Nat.add_zero,hq]at h2;cases h2;exact Int.le_refl _
 |succ k ih=>
  intro q2 h2
  have hl:=(List.getElem?_eq_some_iff.1 h2).1
  have h3:b.scenes[i+k]? =some (b.scenes[i+k]'(by omega)):=List.getElem?_eq_getElem (by omega)
  have h4:=ih _ h3
  have h5:=(h.sc (i+(k+1)) q2 h2).1.1
  have h6:prA b.scenes (i+(k+1))=(b.scenes[i+k]'(by omega)).part:=by
   show((b.scenes[i+k]?).map Sc.part).getD 0=_
   rw[h3];rfl
  omega
theorem part_nn{b:Bk}(h:BOk b){j:Nat}{q:Sc}(hq:b.scenes[j]? =some q):0≤q.part:=by
 have hl:=(List.getElem?_eq_some_iff.1 hq).1
 have h0:b.scenes[0]? =some (b.scenes[0]'(by omega)):=List.getElem?_eq_getElem (by omega)
 have h1:=part_mono h h0 j q (by rw[Nat.zero_add];exact hq)
 have h2:=(h.sc 0 _ h0).1.1
 have h3:prA b.scenes 0=0:=rfl
 omega
set_option maxHeartbeats 16000000 in
theorem ret33(hi:Off is){b:Bk}(h:BOk b){L t:List Int}(hL:L.length≤64)(ht:t.length=b.scenes.length)(htr:∀x∈t, -1≤x∧x≤600):RetP Tryd.prog is orc 33 [b.u,.lst .ro 1 (zF L),.lst .ro 1 (zF t)] (.agg (tri (clS b t L true 1) (clS b t L true 2) (clS b t L true 3))):=by
 refine zw body33 pure33 (hi 33 (by decide)) rfl rfl (zDU (wV b 4) (zY 6 .ro (fun h=>by cases h) 1 L) (zY 6 .ro (fun h=>by cases h) 1 t)) (.inl (.agg _ _ (zDU (k:=7) (.int _ _ _) (.int _ _ _) (.int _ _ _)))) ?_
 have hn:=h.sn
 have hop:=h.op
 have hd:DOk b t:=⟨by omega,htr⟩
 have hcb:=clS_b h hd L true
 have hmb:=mn_sb h hd L
 have hC:∀p:Nat,clS b t L true (p+1)=max (clS b t L true p) ((b.opens[p]?).getD 0)+sumI (mnS b t L p true b.scenes.length):=fun p=>rfl
 obtain⟨Ar,hAr⟩:∃Ar:Nat→List U,Ar 0=tri 0 0 0∧Ar 1=tri (clS b t L true 1) 0 0∧Ar 2=tri (clS b t L true 1) (clS b t L true 2) 0∧Ar 3=tri (clS b t L true 1) (clS b t L true 2) (clS b t L true 3):=⟨fun p=>match p with|0=>tri 0 0 0|1=>tri (clS b t L true 1) 0 0|2=>tri (clS b t L true 1) (clS b t L true 2) 0|_=>tri (clS b t L true 1) (clS b t L true 2) (clS b t L true 3),rfl,rfl,rfl,rfl⟩
 refine kQ (yF rfl rfl (zu rfl ze44 ?_))
 refine zC ?_
 refine zH [(1,.lst .ro 1 (zF L)),(2,.lst .ro 1 (zF t)),(3,U.box 0 0),(6,U.box 1 0)] ([SB.box (Bk.cs b),SB.box [.int .i64 0,.int .i64 0,.int .i64 0]]) (.c4 rfl rfl rfl rfl (.nil rfl)) rfl fun fr=>?_
 refine kQ (zu rfl ze44 ?_)
 refine zC ?_
 refine zH [(1,.lst .ro 1 (zF L)),(2,.lst .ro 1 (zF t)),(3,U.box 0 0),(6,U.box 1 0),(7,U.box 2 0)] ([SB.box (Bk.cs b),SB.box [.int .i64 0,.int .i64 0,.int .i64 0],SB.box [.int .i64 0,.int .i64 0,.int .i64 0]]) (.c4 rfl rfl rfl rfl (.cons rfl (.nil rfl))) rfl fun fr=>?_
 refine kQ (zE rfl rfl fld25_0 (zG rfl rfl rfl sh3 rfl (zB rfl (zB rfl (zC (k_seq (kQ (zB rfl ?_))))))))
 refine zC (zK ?_)
 refine yZ (fun kk s2=>∃p i:Nat,kk+p=3∧i≤b.scenes.length∧(∀(j:Nat) (q:Sc),b.scenes[j]? =some q→j<i→q.part<p)∧(∀(j:Nat) (q:Sc),b.scenes[j]? =some q→i≤j→(p:Int)≤q.part)∧s2.st=[.box (Bk.cs b),.box (tri 0 0 0),.box (Ar p)]∧Holds s2 [(1,.lst .ro 1 (zF L)),(2,.lst .ro 1 (zF t)),(3,.box 0 0),(6,.box 1 0),(7,.box 2 0),(8,.int .i64 (clS b t L true p)),(9,.int .i64 i),(10,.int .i64 p)]) (fun kk s2 hI=>?_) 3 _ ⟨0,0,rfl,Nat.zero_le _,(fun j q _ hj=>by omega),(fun j q hq _=>part_nn h hq),(by rw[hAr.1];rfl),.c4 rfl rfl rfl rfl (.c4 rfl rfl rfl rfl (.nil rfl))⟩
 obtain⟨p,i0,hkp,hi0,hI1,hI2,hst2,hs2⟩:=hI
 by_cases hp:p<3
 ·obtain⟨o,ho⟩:∃x,b.opens[p]? =some x:=⟨b.opens[p],List.getElem?_eq_getElem (by omega)⟩
  have hCp:=hC p
  rw[ho]at hCp
  have hCp:clS b t L true (p+1)=max (clS b t L true p) o+sumI (mnS b t L p true b.scenes.length):=hCp
  have hob:=h.ops o (List.mem_of_getElem? ho)
  have hc1:=hcb p
  have hc2:=hcb (p+1)
  have h0:mnS b t L p true i0=[]:=mnS_none fun j q hq hj=>by have:=hI1 j q hq hj;omega
  refine zH _ _ hs2 hst2 fun fr2=>?_
  refine k_seq (kQ (zA rfl (zW rfl rfl rfl (zC (k_cT rfl (decide_eq_true (by omega)) (zL (k_seq (zK ?_))))))))
  refine kQ (zA rfl (zE rfl rfl zAa (zG rfl rfl rfl sh22 rfl (zA rfl (zh (u:=.int .i64 (o)) rfl ty22 rfl rfl (Int.natCast_nonneg _) (by simp[ho]) cl3 ?_)))))
  refine zR rfl rfl sh3 rfl ?_
  refine o_max rfl rfl rfl ?_
  refine zB rfl (zC (k_seq (zK ?_)))
  have hmb2:=mnS_b (L:=L) h hd p true
  refine yZ (fun mm s2=>∃i:Nat,mm+i=b.scenes.length∧i0≤i∧(∀(j:Nat) (q:Sc),b.scenes[j]? =some q→j<i→q.part≤p)∧(∀(j:Nat) (q:Sc),b.scenes[j]? =some q→i≤j→(p:Int)≤q.part)∧s2.st=[.box (Bk.cs b),.box (tri 0 0 0),.box (Ar p)]∧Holds s2 [(1,.lst .ro 1 (zF L)),(2,.lst .ro 1 (zF t)),(3,.box 0 0),(6,.box 1 0),(7,.box 2 0),(8,.int .i64 (max (clS b t L true p) o+sumI (mnS b t L p true i))),(9,.int .i64 i),(10,.int .i64 p)]) (fun mm s2 hI=>?_) (b.scenes.length - i0) _ ⟨i0,by omega,Nat.le_refl _,(fun j q hq hj=>by have:=hI1 j q hq hj;omega),hI2,rfl,.c4 rfl rfl rfl rfl (.cons rfl (.cons (by rw[h0];show U.int .i64 _=U.int .i64 (_+0);rw[Int.add_zero]) (.cons rfl (.cons rfl (.nil rfl)))))⟩
  obtain⟨i,hmi,hi0i,hK1,hK2,hst3,hs3⟩:=hI
  have hin2:i≤b.scenes.length:=by omega
  have hsi: -6000≤sumI (mnS b t L p true i)∧sumI (mnS b t L p true i)≤6000:=by
   have h1:=hmb2 i
   have:=sum_b (l:=mnS b t L p true i) (B:=600) (by omega) fun x hx=>by have:=h1.2 x hx;omega
   omega
  by_cases hin:i<b.scenes.length
  ·obtain⟨q,hq⟩:∃q,b.scenes[i]? =some q:=⟨b.scenes[i],List.getElem?_eq_getElem hin⟩
   by_cases hqp:q.part=p
   ·have hsu:=mnS_at (d:=t) (L:=L) (p:=p) (e:=true) hq
    have q39:=ret39 (orc:=orc) hi L i (by omega)
    have hix:=idx_mem L i 0
    obtain⟨x,hx⟩:∃x,t[i]? =some x:=⟨t[i]'(by omega),List.getElem?_eq_getElem (by omega)⟩
    have hxr:=htr x (List.mem_of_getElem? hx)
    have hN1:∀(j:Nat) (q:Sc),b.scenes[j]? =some q→j<i+1→q.part≤p:=fun j r hr hj=>by
     by_cases e:j=i
     ·rw[e,hq]at hr;cases hr;omega
     ·exact hK1 j r hr (by omega)
    have hN2:∀(j:Nat) (q:Sc),b.scenes[j]? =some q→i+1≤j→(p:Int)≤q.part:=fun j r hr hj=>hK2 j r hr (by omega)
    by_cases hm:(i:Int)∈L
    ·rw[decide_eq_true hm,decide_eq_true_eq]at hix
     have hel:elM t L p true i q=[]:=by unfold elM;rw[if_pos (.inr hm)]
     rw[hel,List.append_nil]at hsu
     generalize idxI L i 0=ix at*
     refine zH _ _ hs3 hst3 fun fr3=>?_
     refine k_seq (kQ (zA rfl (zE rfl rfl zo (zG rfl rfl rfl sh23 rfl (zd rfl ty23 rfl (List.length_map _) ?_)))))
     refine zW rfl rfl rfl (zA rfl (o_gD rfl rfl rfl rfl (decide_eq_true (by omega)) ?_))
     refine zE rfl rfl zo (o_gD rfl rfl rfl rfl (decide_eq_true (by omega)) ?_)
     refine zG rfl rfl rfl sh23 rfl (o_gD rfl rfl rfl rfl (decide_eq_true (by omega)) ?_)
     refine zA rfl (o_gD rfl rfl rfl rfl (decide_eq_true (by omega)) ?_)
     refine zh (u:=(q).u) rfl ty23 rfl rfl (Int.natCast_nonneg _) (by simp[hq]) cl50 ?_
     refine o_gD rfl rfl rfl rfl (decide_eq_true (by omega)) ?_
     refine wB rfl rfl wU ?_
     refine o_gD rfl rfl rfl rfl (decide_eq_true (by omega)) ?_
     refine zR rfl rfl sh3 rfl ?_
     refine o_gD rfl rfl rfl rfl (decide_eq_true (by omega)) ?_
     refine zA rfl (o_gD rfl rfl rfl rfl (decide_eq_true (by omega)) ?_)
     refine zAS rfl rfl rfl (zV rfl rfl (decide_eq_true (by omega)) ?_)
     refine zC ?_
     refine zH [(1,.lst .ro 1 (zF L)),(2,.lst .ro 1 (zF t)),(3,U.box 0 0),(6,U.box 1 0),(7,U.box 2 0),(8,.int .i64 (Max.max (clS b t L Bool.true p) o+sumI (mnS b t L (↑p) Bool.true i))),(9,.int .i64 ↑i),(10,.int .i64 ↑p),(30,U.box 0 3),(31,.lst .ro 5 (scsU (Bk.scenes b))),(32,.int .i64 ↑i),(33,U.eref [.int .i64 (Sc.part q),.int .i64 (Sc.wt q),.int .i64 (Sc.lo q),.int .i64 (Sc.hi q),U.bool (Sc.must q)] 0),(34,U.eref [.int .i64 (Sc.part q),.int .i64 (Sc.wt q),.int .i64 (Sc.lo q),.int .i64 (Sc.hi q),U.bool (Sc.must q)] 0),(35,.int .i64 (Sc.part q)),(36,.int .i64 ↑p),(37,U.bool (decide (Sc.part q= ↑p))),(38,U.bool (decide (Sc.part q= ↑p)))] ([SB.box (Bk.cs b),SB.box (tri (0:Int) (0:Int) (0:Int)),SB.box (Ar p)]) (.c4 rfl rfl rfl rfl (.c4 rfl rfl rfl rfl (.c4 rfl rfl rfl rfl (.c4 rfl rfl rfl rfl (.cons rfl (.nil rfl)))))) rfl fun fr=>?_
     refine k_cT rfl (decide_eq_true (by omega)) (zL (zK (k_seq (kQ (zA rfl (zA rfl (zM rfl (q39) (.lrefl _) (zW rfl rfl rfl ?_))))))))
     refine zC (k_cF rfl (decide_eq_false (by omega)) (zL (k_region (zA rfl ?_))))
     refine yH rfl rfl rfl (by unfold I64;omega) (zB rfl (zC ?_))
     exact⟨mm - 1,by omega,i+1,by omega,by omega,hN1,hN2,rfl,.c4 rfl rfl rfl rfl (.cons rfl (.cons (by rw[hsu];rfl) (.cons rfl (.cons rfl (.nil rfl)))))⟩
    ·rw[decide_eq_false hm,decide_eq_false_iff_not]at hix
     have hel:elM t L p true i q=[x]:=by
      unfold elM
      rw[if_neg (by rintro(h|h);exact h hqp;exact hm h)]
      unfold tkI
      rw[if_pos (by omega),hx];rfl
     rw[hel]at hsu
     have hsu2:sumI (mnS b t L p true (i+1))=sumI (mnS b t L p true i)+x:=by rw[hsu,zFb];show _+(x+0)=_;rw[Int.add_zero]
     generalize idxI L i 0=ix at*
     generalize sumI (mnS b t L p true i)=S at*
     refine zH _ _ hs3 hst3 fun fr3=>?_
     refine k_seq (kQ (zA rfl (zE rfl rfl zo (zG rfl rfl rfl sh23 rfl (zd rfl ty23 rfl (List.length_map _) ?_)))))
     refine zW rfl rfl rfl (zA rfl (o_gD rfl rfl rfl rfl (decide_eq_true (by omega)) ?_))
     refine zE rfl rfl zo (o_gD rfl rfl rfl rfl (decide_eq_true (by omega)) ?_)
     refine zG rfl rfl rfl sh23 rfl (o_gD rfl rfl rfl rfl (decide_eq_true (by omega)) ?_)
     refine zA rfl (o_gD rfl rfl rfl rfl (decide_eq_true (by omega)) ?_)
     refine zh (u:=(q).u) rfl ty23 rfl rfl (Int.natCast_nonneg _) (by simp[hq]) cl50 ?_
     refine o_gD rfl rfl rfl rfl (decide_eq_true (by omega)) ?_
     refine wB rfl rfl wU ?_
     refine o_gD rfl rfl rfl rfl (decide_eq_true (by omega)) ?_
     refine zR rfl rfl sh3 rfl ?_
     refine o_gD rfl rfl rfl rfl (decide_eq_true (by omega)) ?_
     refine zA rfl (o_gD rfl rfl rfl rfl (decide_eq_true (by omega)) ?_)
     refine zAS rfl rfl rfl (zV rfl rfl (decide_eq_true (by omega)) ?_)
     refine zC ?_
     refine zH [(1,.lst .ro 1 (zF L)),(2,.lst .ro 1 (zF t)),(3,U.box 0 0),(6,U.box 1 0),(7,U.box 2 0),(8,.int .i64 (Max.max (clS b t L Bool.true p) o+S)),(9,.int .i64 ↑i),(10,.int .i64 ↑p),(30,U.box 0 3),(31,.lst .ro 5 (scsU (Bk.scenes b))),(32,.int .i64 ↑i),(33,U.eref [.int .i64 (Sc.part q),.int .i64 (Sc.wt q),.int .i64 (Sc.lo q),.int .i64 (Sc.hi q),U.bool (Sc.must q)] 0),(34,U.eref [.int .i64 (Sc.part q),.int .i64 (Sc.wt q),.int .i64 (Sc.lo q),.int .i64 (Sc.hi q),U.bool (Sc.must q)] 0),(35,.int .i64 (Sc.part q)),(36,.int .i64 ↑p),(37,U.bool (decide (Sc.part q= ↑p))),(38,U.bool (decide (Sc.part q= ↑p)))] ([SB.box (Bk.cs b),SB.box (tri (0:Int) (0:Int) (0:Int)),SB.box (Ar p)]) (.c4 rfl rfl rfl rfl (.c4 rfl rfl rfl rfl (.c4 rfl rfl rfl rfl (.c4 rfl rfl rfl rfl (.cons rfl (.nil rfl)))))) rfl fun fr=>?_
     refine k_cT rfl (decide_eq_true (by omega)) (zL (zK (k_seq (kQ (zA rfl (zA rfl (zM rfl (q39) (.lrefl _) (zW rfl rfl rfl ?_))))))))
     refine zC (k_cT rfl (decide_eq_true (by omega)) (k_region (zA rfl (zA rfl (zA rfl (zh (u:=.int .i64 (x)) rfl ty22 rfl rfl (Int.natCast_nonneg _) (by simp[hx]) cl3 ?_))))))
     refine zR rfl rfl sh3 rfl ?_
     refine yH rfl rfl rfl (by unfold I64;omega) (zB rfl (zC (k_region (zA rfl ?_))))
     refine yH rfl rfl rfl (by unfold I64;omega) (zB rfl (zC ?_))
     exact⟨mm - 1,by omega,i+1,by omega,by omega,hN1,hN2,rfl,.c4 rfl rfl rfl rfl (.cons rfl (.cons (by rw[hsu2,←Int.add_assoc];rfl) (.cons rfl (.cons rfl (.nil rfl)))))⟩
   ·have hqg:=hK2 i q hq (Nat.le_refl _)
    have hJ2:∀(j:Nat) (q:Sc),b.scenes[j]? =some q→i≤j→((p+1:Nat):Int)≤q.part:=fun j r hr hj=>by
     have:=part_mono h hq (j - i) r (by rw[show i+(j - i)=j by omega];exact hr)
     omega
    have hJ1:∀(j:Nat) (q:Sc),b.scenes[j]? =some q→j<i→q.part<((p+1:Nat):Int):=fun j r hr hj=>by have:=hK1 j r hr hj;omega
    have hst:=mnS_stop (d:=t) (L:=L) (p:=p) (e:=true) (fun j r hr hj=>by have:=hJ2 j r hr hj;omega) b.scenes.length hin2
    refine zH _ _ hs3 hst3 fun fr3=>?_
    refine k_seq (kQ (zA rfl (zE rfl rfl zo (zG rfl rfl rfl sh23 rfl (zd rfl ty23 rfl (List.length_map _) ?_)))))
    refine zW rfl rfl rfl (zA rfl (o_gD rfl rfl rfl rfl (decide_eq_true (by omega)) ?_))
    refine zE rfl rfl zo (o_gD rfl rfl rfl rfl (decide_eq_true (by omega)) ?_)
    refine zG rfl rfl rfl sh23 rfl (o_gD rfl rfl rfl rfl (decide_eq_true (by omega)) ?_)
    refine zA rfl (o_gD rfl rfl rfl rfl (decide_eq_true (by omega)) ?_)
    refine zh (u:=(q).u) rfl ty23 rfl rfl (Int.natCast_nonneg _) (by simp[hq]) cl50 ?_
    refine o_gD rfl rfl rfl rfl (decide_eq_true (by omega)) ?_
    refine wB rfl rfl wU ?_
    refine o_gD rfl rfl rfl rfl (decide_eq_true (by omega)) ?_
    refine zR rfl rfl sh3 rfl ?_
    refine o_gD rfl rfl rfl rfl (decide_eq_true (by omega)) ?_
    refine zA rfl (o_gD rfl rfl rfl rfl (decide_eq_true (by omega)) ?_)
    refine zAS rfl rfl rfl (zV rfl rfl (decide_eq_true (by omega)) ?_)
    refine zC ?_
    refine zH [(1,.lst .ro 1 (zF L)),(2,.lst .ro 1 (zF t)),(3,U.box 0 0),(6,U.box 1 0),(7,U.box 2 0),(8,.int .i64 (Max.max (clS b t L Bool.true p) o+sumI (mnS b t L (↑p) Bool.true i))),(9,.int .i64 ↑i),(10,.int .i64 ↑p),(30,U.box 0 3),(31,.lst .ro 5 (scsU (Bk.scenes b))),(32,.int .i64 ↑i),(33,U.eref [.int .i64 (Sc.part q),.int .i64 (Sc.wt q),.int .i64 (Sc.lo q),.int .i64 (Sc.hi q),U.bool (Sc.must q)] 0),(34,U.eref [.int .i64 (Sc.part q),.int .i64 (Sc.wt q),.int .i64 (Sc.lo q),.int .i64 (Sc.hi q),U.bool (Sc.must q)] 0),(35,.int .i64 (Sc.part q)),(36,.int .i64 ↑p),(37,U.bool (decide (Sc.part q= ↑p))),(38,U.bool (decide (Sc.part q= ↑p)))] ([SB.box (Bk.cs b),SB.box (tri (0:Int) (0:Int) (0:Int)),SB.box (Ar p)]) (.c4 rfl rfl rfl rfl (.c4 rfl rfl rfl rfl (.c4 rfl rfl rfl rfl (.c4 rfl rfl rfl rfl (.cons rfl (.nil rfl)))))) rfl fun fr=>?_
    refine k_cF rfl (decide_eq_false (by omega)) (yO ?_)
    have hC2:clS b t L true (p+1)=max (clS b t L true p) o+sumI (mnS b t L p true i):=by rw[hCp,hst]
    rcases(show p=0∨p=1∨p=2 by omega)with rfl|rfl|rfl
    ·rw[hAr.1]
     refine k_region (zA rfl (zA rfl (yi rfl ty44 rfl rfl (by omega) (by omega) cl3 ?_)))
     refine yS rfl rfl sh3 rfl rfl (zC ?_)
     refine zH [(1,.lst .ro 1 (zF L)),(2,.lst .ro 1 (zF t)),(3,U.box 0 0),(6,U.box 1 0),(7,U.box 2 0),(8,.int .i64 (Max.max (clS b t L Bool.true 0) o+sumI (mnS b t L (↑0) Bool.true i))),(9,.int .i64 ↑i),(10,.int .i64 ↑0),(30,U.box 0 3),(31,.lst .ro 5 (scsU (Bk.scenes b))),(32,.int .i64 ↑i),(33,U.eref [.int .i64 (Sc.part q),.int .i64 (Sc.wt q),.int .i64 (Sc.lo q),.int .i64 (Sc.hi q),U.bool (Sc.must q)] 0),(34,U.eref [.int .i64 (Sc.part q),.int .i64 (Sc.wt q),.int .i64 (Sc.lo q),.int .i64 (Sc.hi q),U.bool (Sc.must q)] 0),(35,.int .i64 (Sc.part q)),(36,.int .i64 ↑0),(37,U.bool (decide (Sc.part q= ↑0)))] ([SB.box (Bk.cs b),SB.box (tri (0:Int) (0:Int) (0:Int)),SB.box (List.set (tri (0:Int) (0:Int) (0:Int)) (0+Int.toNat ↑0*1) (.int .i64 (Max.max (clS b t L Bool.true 0) o+sumI (mnS b t L (↑0) Bool.true i))))]) (.c4 rfl rfl rfl rfl (.c4 rfl rfl rfl rfl (.c4 rfl rfl rfl rfl (.c4 rfl rfl rfl rfl (.nil rfl))))) rfl fun fr=>?_
     refine k_region (zA rfl ?_)
     refine yH rfl rfl rfl (by unfold I64;omega) (zB rfl (zC ?_))
     exact⟨kk - 1,by omega,1,i,by omega,hin2,hJ1,hJ2,(by rw[hAr.2.1,hC2];rfl),.c4 rfl rfl rfl rfl (.cons rfl (.cons (by rw[hC2];rfl) (.cons rfl (.cons rfl (.nil rfl)))))⟩
    ·rw[hAr.2.1]
     refine k_region (zA rfl (zA rfl (yi rfl ty44 rfl rfl (by omega) (by omega) cl3 ?_)))
     refine yS rfl rfl sh3 rfl rfl (zC ?_)
     refine zH [(1,.lst .ro 1 (zF L)),(2,.lst .ro 1 (zF t)),(3,U.box 0 0),(6,U.box 1 0),(7,U.box 2 0),(8,.int .i64 (Max.max (clS b t L Bool.true 1) o+sumI (mnS b t L (↑1) Bool.true i))),(9,.int .i64 ↑i),(10,.int .i64 ↑1),(30,U.box 0 3),(31,.lst .ro 5 (scsU (Bk.scenes b))),(32,.int .i64 ↑i),(33,U.eref [.int .i64 (Sc.part q),.int .i64 (Sc.wt q),.int .i64 (Sc.lo q),.int .i64 (Sc.hi q),U.bool (Sc.must q)] 0),(34,U.eref [.int .i64 (Sc.part q),.int .i64 (Sc.wt q),.int .i64 (Sc.lo q),.int .i64 (Sc.hi q),U.bool (Sc.must q)] 0),(35,.int .i64 (Sc.part q)),(36,.int .i64 ↑1),(37,U.bool (decide (Sc.part q= ↑1)))] ([SB.box (Bk.cs b),SB.box (tri (0:Int) (0:Int) (0:Int)),SB.box (List.set (tri (clS b t L Bool.true 1) (0:Int) (0:Int)) (0+Int.toNat ↑1*1) (.int .i64 (Max.max (clS b t L Bool.true 1) o+sumI (mnS b t L (↑1) Bool.true i))))]) (.c4 rfl rfl rfl rfl (.c4 rfl rfl rfl rfl (.c4 rfl rfl rfl rfl (.c4 rfl rfl rfl rfl (.nil rfl))))) rfl fun fr=>?_
     refine k_region (zA rfl ?_)
     refine yH rfl rfl rfl (by unfold I64;omega) (zB rfl (zC ?_))
     exact⟨kk - 1,by omega,2,i,by omega,hin2,hJ1,hJ2,(by rw[hAr.2.2.1,hC2];rfl),.c4 rfl rfl rfl rfl (.cons rfl (.cons (by rw[hC2];rfl) (.cons rfl (.cons rfl (.nil rfl)))))⟩
    ·rw[hAr.2.2.1]
     refine k_region (zA rfl (zA rfl (yi rfl ty44 rfl rfl (by omega) (by omega) cl3 ?_)))
     refine yS rfl rfl sh3 rfl rfl (zC ?_)
     refine zH [(1,.lst .ro 1 (zF L)),(2,.lst .ro 1 (zF t)),(3,U.box 0 0),(6,U.box 1 0),(7,U.box 2 0),(8,.int .i64 (Max.max (clS b t L Bool.true 2) o+sumI (mnS b t L (↑2) Bool.true i))),(9,.int .i64 ↑i),(10,.int .i64 ↑2),(30,U.box 0 3),(31,.lst .ro 5 (scsU (Bk.scenes b))),(32,.int .i64 ↑i),(33,U.eref [.int .i64 (Sc.part q),.int .i64 (Sc.wt q),.int .i64 (Sc.lo q),.int .i64 (Sc.hi q),U.bool (Sc.must q)] 0),(34,U.eref [.int .i64 (Sc.part q),.int .i64 (Sc.wt q),.int .i64 (Sc.lo q),.int .i64 (Sc.hi q),U.bool (Sc.must q)] 0),(35,.int .i64 (Sc.part q)),(36,.int .i64 ↑2),(37,U.bool (decide (Sc.part q= ↑2)))] ([SB.box (Bk.cs b),SB.box (tri (0:Int) (0:Int) (0:Int)),SB.box (List.set (tri (clS b t L Bool.true 1) (clS b t L Bool.true 2) (0:Int)) (0+Int.toNat ↑2*1) (.int .i64 (Max.max (clS b t L Bool.true 2) o+sumI (mnS b t L (↑2) Bool.true i))))]) (.c4 rfl rfl rfl rfl (.c4 rfl rfl rfl rfl (.c4 rfl rfl rfl rfl (.c4 rfl rfl rfl rfl (.nil rfl))))) rfl fun fr=>?_
     refine k_region (zA rfl ?_)
     refine yH rfl rfl rfl (by unfold I64;omega) (zB rfl (zC ?_))
     exact⟨kk - 1,by omega,3,i,by omega,hin2,hJ1,hJ2,(by rw[hAr.2.2.2,hC2];rfl),.c4 rfl rfl rfl rfl (.cons rfl (.cons (by rw[hC2];rfl) (.cons rfl (.cons rfl (.nil rfl)))))⟩
  ·have hie:i=b.scenes.length:=by omega
   have hJ2:∀(j:Nat) (q:Sc),b.scenes[j]? =some q→i≤j→((p+1:Nat):Int)≤q.part:=fun j r hr hj=>by have:=(List.getElem?_eq_some_iff.1 hr).1;omega
   have hJ1:∀(j:Nat) (q:Sc),b.scenes[j]? =some q→j<i→q.part<((p+1:Nat):Int):=fun j r hr hj=>by have:=hK1 j r hr hj;omega
   have hst:mnS b t L p true b.scenes.length=mnS b t L p true i:=by rw[hie]
   refine zH _ _ hs3 hst3 fun fr3=>?_
   refine k_seq (kQ (zA rfl (zE rfl rfl zo (zG rfl rfl rfl sh23 rfl (zd rfl ty23 rfl (List.length_map _) ?_)))))
   refine zW rfl rfl rfl (zA rfl (o_gS rfl rfl rfl rfl (decide_eq_false (by omega)) ?_))
   refine o_gS rfl rfl rfl rfl (decide_eq_false (by omega)) ?_
   refine o_gS rfl rfl rfl rfl (decide_eq_false (by omega)) ?_
   refine o_gS rfl rfl rfl rfl (decide_eq_false (by omega)) ?_
   refine o_gS rfl rfl rfl rfl (decide_eq_false (by omega)) ?_
   refine o_gS rfl rfl rfl rfl (decide_eq_false (by omega)) ?_
   refine o_gS rfl rfl rfl rfl (decide_eq_false (by omega)) ?_
   refine o_gS rfl rfl rfl rfl (decide_eq_false (by omega)) ?_
   refine zO rfl rfl (decide_eq_false (by omega)) ?_
   refine zC ?_
   refine zH [(1,.lst .ro 1 (zF L)),(2,.lst .ro 1 (zF t)),(3,U.box 0 0),(6,U.box 1 0),(7,U.box 2 0),(8,.int .i64 (Max.max (clS b t L Bool.true p) o+sumI (mnS b t L (↑p) Bool.true i))),(9,.int .i64 ↑i),(10,.int .i64 ↑p),(30,U.tup []),(31,U.tup []),(32,U.tup []),(33,U.tup []),(34,U.tup []),(35,U.tup []),(36,U.tup []),(37,U.tup []),(38,.bool false)] ([SB.box (Bk.cs b),SB.box (tri (0:Int) (0:Int) (0:Int)),SB.box (Ar p)]) (.c4 rfl rfl rfl rfl (.c4 rfl rfl rfl rfl (.c4 rfl rfl rfl rfl (.c4 rfl rfl rfl rfl (.cons rfl (.nil rfl)))))) rfl fun fr=>?_
   refine k_cF rfl rfl ?_
   refine yO ?_
   have hC2:clS b t L true (p+1)=max (clS b t L true p) o+sumI (mnS b t L p true i):=by rw[hCp,hst]
   rcases(show p=0∨p=1∨p=2 by omega)with rfl|rfl|rfl
   ·rw[hAr.1]
    refine k_region (zA rfl (zA rfl (yi rfl ty44 rfl rfl (by omega) (by omega) cl3 ?_)))
    refine yS rfl rfl sh3 rfl rfl (zC ?_)
    refine zH [(1,.lst .ro 1 (zF L)),(2,.lst .ro 1 (zF t)),(3,U.box 0 0),(6,U.box 1 0),(7,U.box 2 0),(8,.int .i64 (Max.max (clS b t L Bool.true 0) o+sumI (mnS b t L (↑0) Bool.true i))),(9,.int .i64 ↑i),(10,.int .i64 ↑0),(30,U.tup []),(31,U.tup []),(32,U.tup []),(33,U.tup []),(34,U.tup []),(35,U.tup []),(36,U.tup []),(37,U.tup [])] ([SB.box (Bk.cs b),SB.box (tri (0:Int) (0:Int) (0:Int)),SB.box (List.set (tri (0:Int) (0:Int) (0:Int)) (0+Int.toNat ↑0*1) (.int .i64 (Max.max (clS b t L Bool.true 0) o+sumI (mnS b t L (↑0) Bool.true i))))]) (.c4 rfl rfl rfl rfl (.c4 rfl rfl rfl rfl (.c4 rfl rfl rfl rfl (.c4 rfl rfl rfl rfl (.nil rfl))))) rfl fun fr=>?_
    refine k_region (zA rfl ?_)
    refine yH rfl rfl rfl (by unfold I64;omega) (zB rfl (zC ?_))
    exact⟨kk - 1,by omega,1,i,by omega,hin2,hJ1,hJ2,(by rw[hAr.2.1,hC2];rfl),.c4 rfl rfl rfl rfl (.cons rfl (.cons (by rw[hC2];rfl) (.cons rfl (.cons rfl (.nil rfl)))))⟩
   ·rw[hAr.2.1]
    refine k_region (zA rfl (zA rfl (yi rfl ty44 rfl rfl (by omega) (by omega) cl3 ?_)))
    refine yS rfl rfl sh3 rfl rfl (zC ?_)
    refine zH [(1,.lst .ro 1 (zF L)),(2,.lst .ro 1 (zF t)),(3,U.box 0 0),(6,U.box 1 0),(7,U.box 2 0),(8,.int .i64 (Max.max (clS b t L Bool.true 1) o+sumI (mnS b t L (↑1) Bool.true i))),(9,.int .i64 ↑i),(10,.int .i64 ↑1),(30,U.tup []),(31,U.tup []),(32,U.tup []),(33,U.tup []),(34,U.tup []),(35,U.tup []),(36,U.tup []),(37,U.tup [])] ([SB.box (Bk.cs b),SB.box (tri (0:Int) (0:Int) (0:Int)),SB.box (List.set (tri (clS b t L Bool.true 1) (0:Int) (0:Int)) (0+Int.toNat ↑1*1) (.int .i64 (Max.max (clS b t L Bool.true 1) o+sumI (mnS b t L (↑1) Bool.true i))))]) (.c4 rfl rfl rfl rfl (.c4 rfl rfl rfl rfl (.c4 rfl rfl rfl rfl (.c4 rfl rfl rfl rfl (.nil rfl))))) rfl fun fr=>?_
    refine k_region (zA rfl ?_)
    refine yH rfl rfl rfl (by unfold I64;omega) (zB rfl (zC ?_))
    exact⟨kk - 1,by omega,2,i,by omega,hin2,hJ1,hJ2,(by rw[hAr.2.2.1,hC2];rfl),.c4 rfl rfl rfl rfl (.cons rfl (.cons (by rw[hC2];rfl) (.cons rfl (.cons rfl (.nil rfl)))))⟩
   ·rw[hAr.2.2.1]
    refine k_region (zA rfl (zA rfl (yi rfl ty44 rfl rfl (by omega) (by omega) cl3 ?_)))
    refine yS rfl rfl sh3 rfl rfl (zC ?_)
    refine zH [(1,.lst .ro 1 (zF L)),(2,.lst .ro 1 (zF t)),(3,U.box 0 0),(6,U.box 1 0),(7,U.box 2 0),(8,.int .i64 (Max.max (clS b t L Bool.true 2) o+sumI (mnS b t L (↑2) Bool.true i))),(9,.int .i64 ↑i),(10,.int .i64 ↑2),(30,U.tup []),(31,U.tup []),(32,U.tup []),(33,U.tup []),(34,U.tup []),(35,U.tup []),(36,U.tup []),(37,U.tup [])] ([SB.box (Bk.cs b),SB.box (tri (0:Int) (0:Int) (0:Int)),SB.box (List.set (tri (clS b t L Bool.true 1) (clS b t L Bool.true 2) (0:Int)) (0+Int.toNat ↑2*1) (.int .i64 (Max.max (clS b t L Bool.true 2) o+sumI (mnS b t L (↑2) Bool.true i))))]) (.c4 rfl rfl rfl rfl (.c4 rfl rfl rfl rfl (.c4 rfl rfl rfl rfl (.c4 rfl rfl rfl rfl (.nil rfl))))) rfl fun fr=>?_
    refine k_region (zA rfl ?_)
    refine yH rfl rfl rfl (by unfold I64;omega) (zB rfl (zC ?_))
    exact⟨kk - 1,by omega,3,i,by omega,hin2,hJ1,hJ2,(by rw[hAr.2.2.2,hC2];rfl),.c4 rfl rfl rfl rfl (.cons rfl (.cons (by rw[hC2];rfl) (.cons rfl (.cons rfl (.nil rfl)))))⟩
 ·have hp3:p=3:=by omega
  subst hp3
  rw[hAr.2.2.2]at hst2
  refine zH _ _ hs2 hst2 fun fr2=>?_
  refine k_seq (kQ (zA rfl (zW rfl rfl rfl (zC (k_cF rfl rfl ?_)))))
  refine yO (kQ (zS rfl rfl rfl sh44 rfl (zc rfl rfl sh44 rfl rfl rfl rfl rfl ?_)))
  refine zC (zX ?_)
  refine⟨.inr rfl,_,.cons _ _ _ _ (.cellN 6 44 _ _ _ _ rfl rfl sh44 rfl) .nil,?_⟩
  exact .refl _
end
section
variable {b:Bk}
theorem mn_le{d1 d2 L:List Int}{p:Int}{e1 e2:Bool}(h:∀(i:Nat) (q:Sc),b.scenes[i]? =some q→(i:Int) ∉ L→tkI d1 e1 i q≤tkI d2 e2 i q):∀n,sumI (mnS b d1 L p e1 n)≤sumI (mnS b d2 L p e2 n):=by
 intro n
 induction n with
 |zero=>exact Int.le_refl _
 |succ n ih=>
  cases hq:b.scenes[n]? with
  |none=>
   have e:∀d e,mnS b d L p e (n+1)=mnS b d L p e n:=fun d e=>by
    show _++(match b.scenes[n]? with|none=>[]|some q=>elM d L p e n q)=_
    rw[hq];simp
   rw[e,e];exact ih
  |some q=>
   rw[mnS_at hq,mnS_at hq,zFb,zFb]
   unfold elM
   by_cases hc:q.part≠p∨(n:Int)∈L
   ·rw[if_pos hc,if_pos hc];omega
   ·rw[if_neg hc,if_neg hc]
    have h1:=h n q hq (fun hm=>hc (.inr hm))
    show _+(_+0)≤_+(_+0)
    omega
theorem cl_le{d1 d2 L:List Int}{e1 e2:Bool}(h:∀(i:Nat) (q:Sc),b.scenes[i]? =some q→(i:Int) ∉ L→tkI d1 e1 i q≤tkI d2 e2 i q):∀p,clS b d1 L e1 p≤clS b d2 L e2 p:=by
 intro p
 induction p with
 |zero=>exact Int.le_refl _
 |succ p ih=>
  have h1:=mn_le (p:=p) h b.scenes.length
  show max (clS b d1 L e1 p) ((b.opens[p]?).getD 0)+_≤max (clS b d2 L e2 p) ((b.opens[p]?).getD 0)+_
  omega
theorem fit_iff{d L:List Int}:fitB b d L=true↔ ∀p,p<3→clS b d L true (p+1)≤(b.ends[p]?).getD 0:=by
 unfold fitB dlI
 rw[Bool.and_eq_true,Bool.and_eq_true,decide_eq_true_eq,decide_eq_true_eq,decide_eq_true_eq]
 constructor
 ·rintro⟨h1,h2,h3⟩ p hp
  rcases(show p=0∨p=1∨p=2 by omega)with rfl|rfl|rfl<;>omega
 ·intro h
  have h0:=h 0 (by decide)
  have h1:=h 1 (by decide)
  have h2:=h 2 (by decide)
  omega
structure Goes(b:Bk)(d t:List Int):Prop where
 len:t.length=b.scenes.length
 was:∀(i:Nat) (x:Int),d[i]? =some x→x≠ -1→t[i]? =some x
 hi:∀(i:Nat) (q:Sc) (x:Int),b.scenes[i]? =some q→t[i]? =some x→d.length≤i→x≤q.hi
theorem mem_P{P:Nat→Bool}{n i:Nat}(hi:i<n):(i:Int)∈memP P n↔P i=true:=by
 rw[zDw]
 constructor
 ·rintro⟨j,_,h2,h3⟩
  have:i=j:=by omega
  rw[this];exact h3
 ·intro h;exact⟨i,hi,rfl,h⟩
theorem chs_was{d m:List Int}(h:m∈chs b d){i:Nat}{x:Int}(hx:d[i]? =some x)(hi:i<b.scenes.length):(i:Int)∈m↔x= -1:=by
 obtain⟨P,h1,rfl⟩:=zEQ.1 h
 have h2:=(zCm _).1 h1 i hi
 unfold canB at h2
 rw[if_pos (List.getElem?_eq_some_iff.1 hx).1,hx]at h2
 have h2:=of_decide_eq_true h2
 rw[mem_P hi,h2]
 exact decide_eq_true_iff
theorem fit_goes{d m t:List Int}(h:m∈chs b d)(hf:fitB b d m=true)(hg:Goes b d t):∀p,p<3→clS b t m true (p+1)≤(b.ends[p]?).getD 0:=by
 intro p hp
 refine Int.le_trans (cl_le (fun i q hq hm=>?_) _) (fit_iff.1 hf p hp)
 have hl:=(List.getElem?_eq_some_iff.1 hq).1
 have hti:i<t.length:=by rw[hg.len];exact hl
 obtain⟨x,hx⟩:∃x,t[i]? =some x:=⟨t[i],List.getElem?_eq_getElem hti⟩
 unfold tkI
 rw[if_pos hti,hx]
 by_cases hd:i<d.length
 ·obtain⟨y,hy⟩:∃y,d[i]? =some y:=⟨d[i],List.getElem?_eq_getElem hd⟩
  rw[if_pos hd,hy]
  have h1:=hg.was i y hy (fun e=>hm ((chs_was h hy hl).2 e))
  rw[hx]at h1
  cases h1;exact Int.le_refl _
 ·rw[if_neg hd]
  exact hg.hi i q x hq hx (by omega)
theorem wt_app(A B:List Int):wt b (A++B)=wt b A+wt b B:=by
 unfold wt
 rw[List.map_append,zFb]
theorem app_at{d:List Int}{x:Int}{i:Nat}(h:i<d.length):(d++[x])[i]? =d[i]? :=List.getElem?_append_left h
theorem cue_step{d m:List Int}{x:Int}{q:Sc}(h:m∈chs b d)(hf:fitB b d m=true)(hq:b.scenes[d.length]? =some q)(h1:(d.length:Int)∈m→x= -1)(h2:(d.length:Int) ∉ m→0≤x∧x≤q.hi):m∈chs b (d++[x])∧fitB b (d++[x]) m=true:=by
 have hl:=(List.getElem?_eq_some_iff.1 hq).1
 have hx:(d++[x])[d.length]? =some x:=by simp
 refine⟨?_,fit_iff.2 fun p hp=>Int.le_trans (cl_le (fun i r hr hm=>?_) _) (fit_iff.1 hf p hp)⟩
 ·obtain⟨P,h3,rfl⟩:=zEQ.1 h
  refine zEQ.2 ⟨P,(zCm _).2 fun i hi=>?_,rfl⟩
  have h4:=(zCm _).1 h3 i hi
  unfold canB at h4 ⊢
  rw[List.length_append,List.length_singleton]
  by_cases c1:i<d.length
  ·rw[if_pos c1]at h4
   rw[if_pos (by omega),app_at c1];exact h4
  ·rw[if_neg c1]at h4
   by_cases c2:i=d.length
   ·subst c2
    rw[if_pos (by omega),hx]
    refine decide_eq_true ?_
    rw[mem_P hl]at h1 h2
    show P d.length=decide (x= -1)
    cases hp:P d.length with
    |true=>rw[decide_eq_true (h1 hp)]
    |false=>rw[decide_eq_false (by have:=h2 (by rw[hp];decide);omega)]
   ·rw[if_neg (by omega)];exact h4
 ·unfold tkI
  rw[List.length_append,List.length_singleton]
  by_cases c1:i<d.length
  ·rw[if_pos c1,if_pos (by omega),app_at c1];exact Int.le_refl _
  ·rw[if_neg c1]
   by_cases c2:i=d.length
   ·subst c2
    rw[if_pos (by omega),hx]
    rw[hq]at hr;cases hr
    exact(h2 hm).2
   ·rw[if_neg (by omega)];exact Int.le_refl _
theorem lgt_le{d m:List Int}(h:m∈chs b d)(hf:fitB b d m=true):∃m2,lgt b d=some m2∧wt b m2≤wt b m:=by
 cases ho:lgt b d with
 |none=>have:=lgt_none ho m h;rw[hf]at this;cases this
 |some m2=>
  refine⟨m2,rfl,?_⟩
  have:=(zDH ho).2 m h hf
  by_cases hlt:wt b m<wt b m2
  ·rw[zGk.2 (.inl hlt)]at this;cases this
  ·omega
theorem chs_cho2{d m r:List Int}(h:m∈chs b d)(hr:m=zBN d++r)(hg:∀x∈r,(d.length:Int)≤x):Cho b r:=by
 obtain⟨P,h1,h2⟩:=zEQ.1 h
 have hp:m.Pairwise (fun x y=>x<y):=by rw[h2];exact memP_pair _ _
 rw[hr]at hp
 have hmem:∀x∈r,x∈m:=fun x hx=>by rw[hr];exact List.mem_append_right _ hx
 refine⟨(List.pairwise_append.1 hp).2.1,fun x hx=>?_,fun x hx=>?_⟩
 ·have:=hmem x hx
  rw[h2]at this
  exact memP_rg this
 ·have h3:=hmem x hx
  rw[h2]at h3
  obtain⟨i,h4,rfl,h5⟩:=zDw.1 h3
  have h6:=(zCm _).1 h1 i h4
  have h7:=hg _ hx
  unfold canB at h6
  rw[if_neg (by omega),h5]at h6
  simpa using h6
theorem zFX{d m:List Int}(hd:DOk b d)(h:lgt b d=some m):∃r,cueO b d=some r∧m=zBN d++r∧(∀x∈r,(d.length:Int)≤x)∧Cho b r:=by
 have hm:=(zDH h).1.1
 obtain⟨r,h1,h2⟩:=chs_left hd hm
 refine⟨r,?_,h1,h2,chs_cho2 hm h1 h2⟩
 unfold cueO
 rw[h,h1]
 show some ((zBN d++r).drop (zBN d).length)=_
 rw[List.drop_left]
theorem left_snoc(d:List Int)(x:Int):zBN (d++[x])=zBN d++if x= -1 then [(d.length:Int)]else []:=by
 unfold zBN
 rw[List.length_append,List.length_singleton]
 show memP (zET (d++[x])) d.length++_=_
 rw[zER (Q:=zET d) fun i hi=>by unfold zET;rw[app_at hi]]
 congr 1
 have e:zET (d++[x]) d.length=decide (x= -1):=by unfold zET;simp
 rw[e]
 simp only[decide_eq_true_eq]
theorem done_snoc{d:List Int}{x:Int}(h:zBv b d=true)(hl:d.length<b.scenes.length)(hx:dnB b d.length x=true):zBv b (d++[x])=true:=by
 unfold zBv at h ⊢
 rw[Bool.and_eq_true]at h ⊢
 refine⟨decide_eq_true (by simp;omega),(dnF_at _ 0).2 fun j y hy=>?_⟩
 rw[Nat.zero_add]
 by_cases hj:j<d.length
 ·rw[app_at hj]at hy
  have:=(dnF_at _ 0).1 h.2 j y hy
  rw[Nat.zero_add]at this;exact this
 ·have hl2:=(List.getElem?_eq_some_iff.1 hy).1
  rw[List.length_append,List.length_singleton]at hl2
  obtain rfl:j=d.length:=by omega
  have e:(d++[x])[d.length]? =some x:=by simp
  rw[e]at hy;cases hy;exact hx
theorem wt_one(i:Nat):wt b [(i:Int)]=wtA b i:=by
 unfold wt
 show wtA b i+0=_
 omega
theorem cue_next{d m r:List Int}{x:Int}{q:Sc}(hb:BOk b)(hd:zBv b d=true)(ho:lgt b d=some m)(hmr:m=zBN d++r)(hrg:∀y∈r,(d.length:Int)≤y)(hq:b.scenes[d.length]? =some q)(h1:(d.length:Int)∈r→x= -1)(h2:(d.length:Int) ∉ r→q.lo≤x∧x≤q.hi):
  ∃r2,zBv b (d++[x])=true∧(lgt b (d++[x])).isSome=true∧cueO b (d++[x])=some r2∧Cho b r2∧(if(d.length:Int)∈r then wtA b d.length else 0)+wt b r2≤wt b r∧(∃m2,lgt b (d++[x])=some m2∧wt b m2≤wt b m):=by
 have hl:=(List.getElem?_eq_some_iff.1 hq).1
 have hs:=hb.sc _ q hq
 obtain⟨⟨hm,hf⟩,_⟩:=zDH ho
 have hmem:(d.length:Int)∈m↔(d.length:Int)∈r:=by
  rw[hmr,List.mem_append]
  constructor
  ·rintro(h|h)
   ·unfold zBN at h
    have:=memP_rg h
    omega
   ·exact h
  ·exact .inr
 obtain⟨h3,h4⟩:=cue_step (x:=x) hm hf hq (fun h=>h1 (hmem.1 h)) (fun h=>by have:=h2 (fun h3=>h (hmem.2 h3));omega)
 obtain⟨m2,h5,h6⟩:=lgt_le h3 h4
 have hdn:dnB b d.length x=true:=by
  unfold dnB
  by_cases hr:(d.length:Int)∈r
  ·have hc:=chs_cho2 hm hmr hrg
   have:=hc.mu _ hr
   rw[Int.toNat_natCast]at this
   rw[h1 hr,this];rfl
  ·rw[hq]
   show(_||inS q.lo q.hi x)=true
   rw[zAr.2 (h2 hr),Bool.or_true]
 have hd2:=done_snoc hd hl hdn
 obtain⟨r2,h7,h8,_,h10⟩:=zFX (done_ok hb hd2) h5
 refine⟨r2,hd2,by rw[h5];rfl,h7,h10,?_,m2,h5,h6⟩
 rw[h8,hmr,left_snoc,wt_app,wt_app,wt_app]at h6
 by_cases hr:(d.length:Int)∈r
 ·rw[if_pos (h1 hr),wt_one]at h6
  rw[if_pos hr];omega
 ·rw[if_neg (by have:=h2 hr;omega)]at h6
  rw[if_neg hr]
  have:wt b []=0:=rfl
  omega
end
end Go.Proofs.YtlknfhjfkcboiaaDoor.night
