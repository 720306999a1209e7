import Derived.Test.YtlknfhjfkcboiaaDoorVamT5
set_option linter.unusedVariables false
set_option linter.unusedSimpArgs false
set_option linter.constructorNameAsVariable false
namespace Go.Proofs.YtlknfhjfkcboiaaDoor.night
open Vam
variable {is:FuncId→Bool}{orc:Known}
theorem ty4:tyOf Tryd.prog 4=.bool:=by kernel_rfl
noncomputable def b114:Code:=(Tryd.f114.body).getD .skip
theorem body114:bodyOf Tryd.prog 114=some (33,b114,[.tmp 6]):=by kernel_rfl
theorem pure114:pureFn Tryd.prog 114=true:=by kernel_rfl
theorem ap83_83:AppT Tryd.prog 83 83 3 1 8 ((.cons (.int .i64 0) .nil):V):=⟨ty83,⟨_,ty83⟩,cl3,by decide,by3,ze3,rfl⟩
noncomputable def b113:Code:=(Tryd.f113.body).getD .skip
theorem body113:bodyOf Tryd.prog 113=some (45,b113,[]):=by kernel_rfl
theorem pure113:pureFn Tryd.prog 113=false:=by kernel_rfl
noncomputable def b103:Code:=(Tryd.f103.body).getD .skip
theorem body103:bodyOf Tryd.prog 103=some (4,b103,[.tmp 2]):=by kernel_rfl
theorem pure103:pureFn Tryd.prog 103=false:=by kernel_rfl
def canB(b:Bk)(d:List Int)(lv:Bool)(i:Nat):Bool:=if i<d.length then decide (lv=decide ((d[i]?).getD 0= -1))else(!lv|| !zAT b i)
set_option maxHeartbeats 4000000 in
theorem ret114(hi:Off is){b:Bk}(h:BOk b){d:List Int}(hd:DOk b d)(lv:Bool){i:Nat}(hin:i<b.scenes.length):RetP Tryd.prog is orc 114 [crU b d,.bool lv,.int .i64 i] (.bool (canB b d lv i)):=by
 refine zp body114 pure114 (hi 114 (by decide)) rfl rfl (zCr (zBp b d 4) (.bool _ _) (.int _ _ _)) (.inl (.bool _ _)) ?_
 have hn:=h.sn
 have hdl:=hd.len
 unfold canB
 by_cases h1:i<d.length
 ·rw[if_pos h1]
  obtain⟨y,hy⟩:∃y,d[i]? =some y:=⟨d[i],List.getElem?_eq_getElem h1⟩
  rw[hy]
  show Wp _ _ _ _ _ _
  refine kQ (yB rfl rfl (zB rfl (zC ?_)))
  refine zF [(1,U.bool lv),(2,.int .i64 ↑i),(3,U.box 0 0)] ([SB.box (Bk.cd b d)]) (.n3 rfl) rfl fun fr=>?_
  refine k_seq (kQ (zA rfl (kA rfl wK (kC sh22 rfl (zP rfl ty22 rfl (List.length_map _) ?_)))))
  refine kq rfl (zC (k_cT rfl (kH (by omega)) (kQ (zA rfl (kA rfl wK (kC sh22 rfl (zA rfl (zX (u:=.int .i64 (y)) rfl ty22 rfl rfl (Int.natCast_nonneg _) (by simp[hy]) cl3 ?_))))))))
  refine kE sh3 rfl ?_
  refine kw rfl (o_eqlB rfl ty4 rfl rfl ?_)
  refine zB rfl (zC (zS ?_))
  refine⟨.inr rfl,_,.cons _ _ _ _ (.tmp 6) .nil,?_⟩
  exact .refl _
 ·rw[if_neg h1]
  obtain⟨q,hq⟩:∃q,b.scenes[i]? =some q:=⟨b.scenes[i],List.getElem?_eq_getElem hin⟩
  have hm:zAT b i=q.must:=by unfold zAT;rw[hq];rfl
  rw[hm]
  cases lv with
  |true=>
   refine kQ (yB rfl rfl (zB rfl (zC ?_)))
   refine zF [(1,.bool true),(2,.int .i64 ↑i),(3,U.box 0 0)] ([SB.box (Bk.cd b d)]) (.n3 rfl) rfl fun fr=>?_
   refine k_seq (kQ (zA rfl (kA rfl wK (kC sh22 rfl (zP rfl ty22 rfl (List.length_map _) ?_)))))
   refine kq rfl (zC (k_cF rfl (kI (by omega)) (zJ (kQ (zA rfl (zh rfl rfl (zA rfl (kf rfl (kA rfl zBd (kf rfl (kA rfl wL (kf rfl (kA rfl ze (kf rfl (kC sh23 rfl ?_)))))))))))))))
   refine kf rfl (zA rfl (kf rfl (zX (u:=(q).u) rfl ty23 rfl rfl (Int.natCast_nonneg _) (by simp[hq]) cl50 ?_)))
   refine zL [(22,U.bool !Bool.true),(28,U.eref [.int .i64 (Sc.part q),.int .i64 (Sc.wt q),.int .i64 (Sc.lo q),.int .i64 (Sc.hi q),U.bool (Sc.must q)] 0)] [] ([SB.box (Bk.cd b d)]) (.n2 rfl) rfl rfl fun fr=>?_
   refine kf rfl ?_
   refine zL [(22,U.bool !Bool.true),(28,U.eref [.int .i64 (Sc.part q),.int .i64 (Sc.wt q),.int .i64 (Sc.lo q),.int .i64 (Sc.hi q),U.bool (Sc.must q)] 0)] [] ([SB.box (Bk.cd b d)]) (.n2 rfl) rfl rfl fun fr=>?_
   refine yV rfl rfl zEY ?_
   refine kf rfl (kE sh4 rfl ?_)
   refine kf rfl (zh rfl rfl (kF rfl ?_))
   refine zB rfl (zC (zS ?_))
   refine⟨.inr rfl,_,.cons _ _ _ _ (.tmp 6) .nil,?_⟩
   exact .refl _
  |false=>
   refine kQ (yB rfl rfl (zB rfl (zC ?_)))
   refine zF [(1,.bool false),(2,.int .i64 ↑i),(3,U.box 0 0)] ([SB.box (Bk.cd b d)]) (.n3 rfl) rfl fun fr=>?_
   refine k_seq (kQ (zA rfl (kA rfl wK (kC sh22 rfl (zP rfl ty22 rfl (List.length_map _) ?_)))))
   refine kq rfl (zC (k_cF rfl (kI (by omega)) (zJ (kQ (zA rfl (zh rfl rfl (zA rfl (ke rfl (ke rfl (ke rfl (ke rfl (ke rfl (ke rfl ?_)))))))))))))
   refine zL [(22,U.bool !Bool.false)] [] ([SB.box (Bk.cd b d)]) (.n1 rfl) rfl rfl fun fr=>?_
   refine ke rfl (ke rfl (ke rfl (kG rfl ?_)))
   refine zB rfl (zC (zS ?_))
   refine⟨.inr rfl,_,.cons _ _ _ _ (.tmp 6) .nil,?_⟩
   exact .refl _
def okN(b:Bk)(d:List Int)(P:Nat→Bool):Nat→Bool
 |0=>true
 |i+1=>okN b d P i&&canB b d (P i) i
theorem zDX{b:Bk}{d:List Int}{P:Nat→Bool}:∀n,okN b d P n=true↔ ∀i,i<n→canB b d (P i) i=true:=by
 intro n
 induction n with
 |zero=>exact⟨(fun _ i h=>by omega),(fun _=>rfl)⟩
 |succ n ih=>
  unfold okN
  rw[Bool.and_eq_true,ih]
  constructor
  ·rintro⟨h1,h2⟩ i hi
   by_cases e:i=n
   ·rw[e];exact h2
   ·exact h1 i (by omega)
  ·intro h;exact⟨fun i hi=>h i (by omega),h n (by omega)⟩
theorem okN_not{b:Bk}{d:List Int}{P:Nat→Bool}{i n:Nat}(h:canB b d (P i) i=false)(hi:i<n):okN b d P n=false:=by
 cases hk:okN b d P n with
 |false=>rfl
 |true=>rw[(zDX n).1 hk i hi]at h;cases h
def bt(s:Nat):Nat→Bool:=fun i=>s.testBit i
theorem bt_eq(j i:Nat):decide ((j:Int).fdiv (2 ^ i) % 2=1)=bt j i:=by
 unfold bt
 rw[Nat.testBit_eq_decide_div_mod_eq,Int.fdiv_eq_ediv_of_nonneg _ (Int.le_of_lt (Int.pow_pos (by decide)))]
 refine decide_eq_decide.2 ?_
 have e:(j:Int) / 2 ^ i=((j / 2 ^ i:Nat):Int):=by rw[Int.natCast_ediv,Int.natCast_pow];rfl
 rw[e]
 omega
def ptC(b:Bk)(d:List Int)(j:Nat):List (List Int):=((List.range j).filter fun s=>okN b d (bt s) b.scenes.length).map fun s=>memP (bt s) b.scenes.length
def chs(b:Bk)(d:List Int):List (List Int):=ptC b d (2 ^ b.scenes.length)
theorem ptC_succ(b:Bk)(d:List Int)(j:Nat):ptC b d (j+1)=ptC b d j++if okN b d (bt j) b.scenes.length=true then [memP (bt j) b.scenes.length]else []:=by
 unfold ptC
 rw[List.range_succ,List.filter_append,List.map_append]
 congr 1
 cases h:okN b d (bt j) b.scenes.length<;>simp[h]
theorem ptC_mono{b:Bk}{d:List Int}{s:List Int→Bool}{i j:Nat}(hij:i≤j)(h:(ptC b d i).any s=true):(ptC b d j).any s=true:=by
 obtain⟨k,rfl⟩:=Nat.exists_eq_add_of_le hij
 induction k with
 |zero=>exact h
 |succ k ih=>
  rw[←Nat.add_assoc,ptC_succ,List.any_append,ih (by omega),Bool.true_or]
def EOk(b:Bk)(q:List Int):Prop:=(∀x∈q,0≤x∧x<b.scenes.length)∧q.length≤b.scenes.length
theorem memP_eok(b:Bk)(P:Nat→Bool):EOk b (memP P b.scenes.length):=⟨fun x hx=>zFs hx,zCA _ _⟩
theorem zDQ(l:List Int):UW (.u (accI l)) (.u (.lst .ro 1 (zE l))):=by
 cases l with
 |nil=>exact .nil _ _ _
 |cons y l=>exact .ro _ _ _
theorem fdiv_b{n:Int}(k:Nat)(h:0≤n∧n≤1000000):0≤n.fdiv (2 ^ k)∧n.fdiv (2 ^ k)≤9223372036854775807:=by
 have hp:(0:Int)<2 ^ k:=Int.pow_pos (by decide)
 rw[Int.fdiv_eq_ediv_of_nonneg _ (Int.le_of_lt hp)]
 exact⟨Int.ediv_nonneg h.1 (Int.le_of_lt hp),Int.le_trans (Int.ediv_le_self _ h.1) (by omega)⟩
variable {N A:Nat}{lp:Lp}{stop:List Int→Bool}{X:List (List Int)→List SB}{D:List SB}
set_option maxHeartbeats 16000000 in
theorem gen113{b:Bk}(h:BOk b){d:List Int}(hd:DOk b d)(ci:Nat):Gen 113 [.box ci 0] [(ci,.box (Bk.cd b d))] (chs b d) (EOk b):=by
 intro is orc hi N A lp stop X D hc hcap
 have hX:=hc.len []
 have h0:∀l,(X l)[ci]? =some (.box (Bk.cd b d)):=hcap _ List.mem_cons_self
 have y0:(X [])[ci]? =some (.box (Bk.cd b d)):=h0 []
 have hn:=h.sn
 obtain⟨T,hT⟩:∃T,T=2 ^ b.scenes.length:=⟨_,rfl⟩
 have hTb:T≤1024:=by rw[hT];exact Nat.le_trans (Nat.pow_le_pow_right (by decide) hn.2) (by decide)
 have hN:(2:Int) ^ b.scenes.length=(T:Int):=by rw[hT,Int.natCast_pow];rfl
 unfold chs
 rw[←hT]
 refine wpc_cut body113 pure113 rfl rfl ?_
 refine k_scope (k_seq (k_label ?_))
 refine kQ (kA rfl zBd (kA rfl wL (kA rfl ze (zQ rfl rfl y0 sh23 rfl ?_))))
 refine zP rfl ty23 rfl (List.length_map _) ?_
 (refine zBx rfl rfl rfl (by omega) ?_;rw[hN])
 refine zA rfl (zC (zH ?_))
 refine yR (fun kk s2=>∃(j:Nat) (e1:List SB),kk+j=T∧(ptC b d j).any stop=false∧s2.st=X (ptC b d j)++e1∧Holds s2 [(0,.yld A),(1,.box ci 0),(12,.int .i64 T),(13,.int .i64 j)]) (fun kk s2 hI=>?_) T _ ⟨0,[],rfl,rfl,(by show X []=X []++[];rw[List.append_nil]),.c4 rfl rfl rfl rfl (.nil rfl)⟩
 obtain⟨j,e1,hkj,hno,hst2,hs2⟩:=hI
 have hX2:=hc.len (ptC b d j)
 have z1:(X (ptC b d j)++e1)[ci]? =some (.box (Bk.cd b d)):=yL (h0 _)
 have hbl:=hc.bl (ptC b d j)
 have hsu:=ptC_succ b d j
 have hmono:=fun k hk=>ptC_mono (b:=b) (d:=d) (s:=stop) (i:=j+1) (j:=k) hk
 have hrun:=hc.run is orc hi (ptC b d j)
 have hlen2:N≤(X (ptC b d j)++e1).length:=by rw[List.length_append,hX2];omega
 by_cases hj:j<T
 ·have hT1:=hmono T (by omega)
  refine zF _ _ hs2 hst2 fun fr2=>?_
  refine kQ (kq rfl (zC (k_seq (k_cT rfl (kH (by omega)) (zJ (k_seq (zH (kQ (zA rfl (zB rfl (zC (kQ (zB rfl (zC (k_seq ?_)))))))))))))))
  refine kQ (kA rfl zBd (kA rfl wL (kA rfl ze (zQ rfl rfl z1 sh23 rfl ?_))))
  refine zP rfl ty23 rfl (List.length_map _) ?_
  refine zA rfl (zC ?_)
  refine zF [(0,U.yld A),(1,U.box ci 0),(3,.int .i64 ↑j),(4,.lst .full 0 []),(12,.int .i64 ↑T),(13,.int .i64 ↑j),(20,.int .i64 ↑(List.length (Bk.scenes b))),(21,.int .i64 0)] (X (ptC b d j)++e1) (.n8 rfl) rfl fun fr=>?_
  refine zH ?_
  obtain⟨Y,hY⟩:∃Y,Y=X (ptC b d j)++e1:=⟨_,rfl⟩
  rw[←hY]at z1
  refine yR (fun mm s2=>∃i:Nat,mm+i=b.scenes.length∧okN b d (bt j) i=true∧s2.st=Y∧Holds s2 [(0,.yld A),(1,.box ci 0),(3,.int .i64 j),(4,accI (memP (bt j) i)),(12,.int .i64 T),(13,.int .i64 j),(20,.int .i64 b.scenes.length),(21,.int .i64 i)]) (fun mm s2 hI=>?_) b.scenes.length _ ⟨0,rfl,rfl,hY.symm,.c4 rfl rfl rfl rfl (.n4 rfl)⟩
  obtain⟨i,hmi,hok,hst3,hs3⟩:=hI
  have hlen:=zCA (bt j) i
  have hms:=zBH (bt j) i
  by_cases hin:i<b.scenes.length
  ·have hbt:=bt_eq j i
   have hfd:=fdiv_b (n:=(j:Int)) i (by omega)
   have hnot:=okN_not (b:=b) (d:=d) (P:=bt j) (i:=i) (n:=b.scenes.length)
   have hoks:okN b d (bt j) (i+1)=(okN b d (bt j) i&&canB b d (bt j i) i):=rfl
   rw[hok,Bool.true_and]at hoks
   obtain⟨M,hM⟩:∃M,M=memP (bt j) i:=⟨_,rfl⟩
   rw[←hM]at hlen hms hs3
   refine zF _ _ hs3 hst3 fun fr3=>?_
   refine kQ (kq rfl (zC (k_seq (k_cT rfl (kH (by omega)) (zJ (k_seq (zH (kQ (zA rfl (zB rfl (zC (kQ (zA rfl (zA rfl (o_shr rfl rfl rfl (by omega) ?_)))))))))))))))
   refine o_andOne rfl rfl rfl hfd ?_
   refine kw rfl (zB rfl (zC ?_))
   refine zF [(0,.yld A),(1,.box ci 0),(3,.int .i64 j),(4,accI M),(5,.int .i64 i),(6,.bool (bt j i)),(12,.int .i64 T),(13,.int .i64 j),(20,.int .i64 b.scenes.length),(21,.int .i64 i)] Y (.c4 rfl rfl rfl rfl (.cons rfl (.cons (by rw[←hbt];rfl) (.n4 rfl)))) rfl fun fr4=>?_
   have q114:=ret114 (orc:=orc) hi h hd (bt j i) hin
   generalize bt j i=B at*
   cases hcan:canB b d B i with
   |false=>
    rw[hcan]at q114
    have hf:=hnot hcan hin
    rw[hf,if_neg (by decide),List.append_nil]at hsu
    refine k_seq (kQ (yK rfl rfl z1 sh72 rfl ?_))
    refine zA rfl (zA rfl (zG rfl (q114) (.lrefl _) (zh rfl rfl (zC (k_cT rfl rfl ?_)))))
    refine zr (k_region ?_)
    refine kB rfl (by unfold I64;omega) (zA rfl (zC ?_))
    exact⟨kk - 1,by omega,j+1,e1,by omega,(by rw[hsu];exact hno),(by rw[hsu];exact hY),.c4 rfl rfl rfl rfl (.nil rfl)⟩
   |true=>
    rw[hcan]at q114 hoks
    cases B with
    |false=>
     rw[if_neg (by decide),List.append_nil]at hms
     refine k_seq (kQ (yK rfl rfl z1 sh72 rfl ?_))
     refine zA rfl (zA rfl (zG rfl (q114) (.lrefl _) (zh rfl rfl (zC (k_cF rfl rfl ?_)))))
     refine zJ (kQ (zA rfl (zC (k_cF rfl rfl ?_))))
     refine zJ (k_region ?_)
     refine kB rfl (by unfold I64;omega) (zA rfl (zC ?_))
     exact⟨mm - 1,by omega,i+1,by omega,hoks,rfl,.cons rfl (.cons rfl (.cons rfl (.cons (congrArg accI hms.symm) (.n4 rfl))))⟩
    |true=>
     rw[if_pos rfl]at hms
     cases M with
     |nil=>
      refine k_seq (kQ (yK rfl rfl z1 sh72 rfl ?_))
      refine zA rfl (zA rfl (zG rfl (q114) (.lrefl _) (zh rfl rfl (zC (k_cF rfl rfl ?_)))))
      refine zJ (kQ (zA rfl (zC (k_cT rfl rfl ?_))))
      refine k_region (zA rfl (zA rfl (wW (es:=[.int .i64 ↑i]) rfl ty83 ze3 cl3 rfl rfl rfl rfl rfl rfl rfl rfl ?_)))
      refine wC rfl ap83_83 rfl rfl (by simp) (by simp) (by simp[yF,zg,oneU]) (by simp) ?_
      refine zB rfl (zC ?_)
      refine zF [(0,U.yld A),(1,U.box ci 0),(3,.int .i64 ↑j),(4,U.lst Kd.own 1 [.int .i64 ↑i]),(12,.int .i64 ↑T),(13,.int .i64 ↑j),(20,.int .i64 ↑(List.length (Bk.scenes b))),(21,.int .i64 ↑i)] (Y) (.n8 rfl) rfl fun fr=>?_
      refine k_region ?_
      refine kB rfl (by unfold I64;omega) (zA rfl (zC ?_))
      exact⟨mm - 1,by omega,i+1,by omega,hoks,rfl,.cons rfl (.cons rfl (.cons rfl (.cons (by rw[hms];rfl) (.n4 rfl))))⟩
     |cons w M=>
      refine k_seq (kQ (yK rfl rfl z1 sh72 rfl ?_))
      refine zA rfl (zA rfl (zG rfl (q114) (.lrefl _) (zh rfl rfl (zC (k_cF rfl rfl ?_)))))
      refine zJ (kQ (zA rfl (zC (k_cT rfl rfl ?_))))
      refine k_region (zA rfl (zA rfl (wW (es:=[.int .i64 ↑i]) rfl ty83 ze3 cl3 rfl rfl rfl rfl rfl rfl rfl rfl ?_)))
      refine wX 4 rfl ap83_83 rfl rfl rfl (by simp) (by simp) (by simp[yF,zg,oneU]) (by simp at hlen ⊢;omega) ?_
      refine zB rfl (zC (k_region ?_))
      refine kB rfl (by unfold I64;omega) (zA rfl (zC ?_))
      exact⟨mm - 1,by omega,i+1,by omega,hoks,rfl,.cons rfl (.cons rfl (.cons rfl (.cons (by rw[hms,wO];rfl) (.n4 rfl))))⟩
  ·have hie:i=b.scenes.length:=by omega
   subst hie
   rw[hok,if_pos rfl]at hsu
   have heo:=memP_eok b (bt j)
   obtain⟨q,hq⟩:∃q,q=memP (bt j) b.scenes.length:=⟨_,rfl⟩
   rw[←hq]at hsu hs3 heo
   have hr:=hrun q e1 heo
   obtain⟨pp,hp1,hp2⟩:=hc.ps
   have hu:=zDQ q
   refine zF _ _ hs3 hst3 fun fr3=>?_
   refine kQ (kq rfl (zC (k_seq (k_cF rfl (kI (by omega)) (zr (kQ ?_))))))
   refine o_weak 4 rfl (fun _=>rfl) (u:=.lst .ro 1 (zE q)) hu ?_
   subst hY
   refine zA rfl (zA rfl ?_)
   refine o_yield (a:=A) rfl rfl (yL hbl) hc.own (by rw[hp1];simp[hp2]) (by rw[hp1];rfl) (.lrefl _) hr (fun u st1 hM=>?_)
   rcases hM with ⟨hs,rfl,e',rfl⟩|⟨hs,rfl,e',rfl⟩
   ·refine zh rfl rfl ?_
    refine zC (k_cF rfl rfl ?_)
    refine zJ (k_region ?_)
    refine kB rfl (by unfold I64;omega) (zA rfl (zC ?_))
    exact⟨kk - 1,by omega,j+1,e1++e',by omega,(by rw[hsu,List.any_append,hno];simp[hs]),(by rw[hsu];rfl),.c4 rfl rfl rfl rfl (.nil rfl)⟩
   ·have hany:(ptC b d T).any stop=true:=hT1 (by rw[hsu,List.any_append];simp[hs])
    refine zh rfl rfl (zC (k_cT rfl rfl ?_))
    refine zS ?_
    refine⟨(fun l h=>by cases h),.inr rfl,_,.nil,_,.refl _,Bd.tup (fun c hc=>by cases hc),?_,?_,.inr ⟨hany,?_⟩⟩
    ·show(X []).length≤(D++_).length
     rw[List.length_append,hX,hc.lenD];omega
    ·show ∀x∈(D++_).take (X []).length,BdS (X []).length x
     rw[hX,wc hc.lenD];exact hc.bdD
    ·show(D++_).take (X []).length=_
     rw[hX,wc hc.lenD]
 ·have hje:j=T:=by omega
  subst hje
  refine zF _ _ hs2 hst2 fun fr2=>?_
  refine kQ (kq rfl (zC (k_seq (k_cF rfl (kI (by omega)) (zr ?_)))))
  refine⟨(fun l h=>by cases h),.inl rfl,_,.nil,_,.refl _,Bd.tup (fun c hc=>by cases hc),?_,?_,.inl ⟨hno,?_⟩⟩
  ·show(X []).length≤(X _++_).length
   rw[List.length_append,hX,hc.len];omega
  ·show ∀x∈(X _++_).take (X []).length,BdS (X []).length x
   rw[hX,wc (hc.len _)];exact hc.bd _
  ·show(X _++_).take (X []).length=_
   rw[hX,wc (hc.len _)]
theorem wpc103(b:Bk)(d:List Int)(st:List SB):WpC Tryd.prog is orc 103 [crU b d] st fun u st'=>u=.fn 113 [] [.box st.length 0]∧st'=st++[.box (Bk.cd b d)]:=by
 refine zFX body103 pure103 rfl rfl ?_
 refine kQ (yB rfl rfl (zB rfl (zC ?_)))
 refine zF [(1,U.box (List.length st) 0)] (st++[SB.box (Bk.cd b d)]) (.n1 rfl) rfl fun fr=>?_
 refine kQ ?_
 refine zDq rfl ?_
 refine zB rfl (zC (zS ?_))
 refine⟨.inr rfl,_,.cons _ _ _ _ (.tmp 2) .nil,?_⟩
 exact⟨_,.refl _,rfl,rfl⟩
end Go.Proofs.YtlknfhjfkcboiaaDoor.night
