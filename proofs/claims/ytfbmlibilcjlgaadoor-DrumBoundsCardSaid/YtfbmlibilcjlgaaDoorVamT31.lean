import Derived.Test.YtfbmlibilcjlgaaDoorVamT30
set_option linter.unusedVariables false
set_option linter.unusedSimpArgs false
set_option linter.constructorNameAsVariable false
namespace Go.Proofs.YtfbmlibilcjlgaaDoor.drumBounds
open Vam
variable {is:FuncId→Bool}{orc:Known}{b:Bk}
noncomputable def b32:Code:=(Tryd.f32.body).getD .skip
theorem body32:bodyOf Tryd.prog 32=some (58,b32,[.tmp 4,.tmp 5]):=by kernel_rfl
theorem pure32:pureFn Tryd.prog 32=false:=by kernel_rfl
noncomputable def b5:Code:=(Tryd.f5.body).getD .skip
theorem body5:bodyOf Tryd.prog 5=some (56,b5,[.tmp 6]):=by kernel_rfl
theorem pure5:pureFn Tryd.prog 5=true:=by kernel_rfl
theorem set_off2{Y X:List SB}{x:SB}:(Y++X).set Y.length x=Y++X.set 0 x:=by
 rw[List.set_append_right _ _ (Nat.le_refl _),Nat.sub_self]
set_option maxHeartbeats 8000000 in
theorem ret32(hi:Off is)(hb:BOk b){i:Nat}{p:Pl}(hp:b.players[i]? =some p){m:Nat}(hm:Least (noP b i) 501 m):RetP Tryd.prog is orc 32 [b.u,.int .i64 i] (.tup [.int .i64 (if m=0 then 0 else(m:Int) - 1),.int .i64 (if m=0 then 4 else 0)]):=by
 have hil:=(List.getElem?_eq_some_iff.1 hp).1
 have hpn:=hb.pn
 have hlen:=zEd b.players
 have hda:∀u∈[b.u,U.int .i64 i],Dat 8 u:=yM (yK b 4) (.int _ _ _)
 refine wQ body32 pure32 rfl rfl (fun u hu=>⟨(hda u hu).nb,(hda u hu).own⟩) (NB.tup fun c hc=>by
  simp only[List.mem_cons,List.not_mem_nil,or_false]at hc
  rcases hc with rfl|rfl<;>exact NB.int _ _) ?_
 have q52:=zFQ (orc:=orc) hi (i:Int) 0 ((b.players.length:Int) - 1)
 rw[zBn.2 (by omega)]at q52
 have q79:=ret79 (orc:=orc) hi b true
 rw[(wZ b).2 hb]at q79
 change RetP _ _ _ _ _ (.int .i64 0)at q79
 have hle:=hm.le
 refine kQ (zc rfl rfl (zB rfl (zB rfl (zA ?_))))
 refine zH [(1,.int .i64 ↑i),(2,U.box 0 0)] ([SB.box (Bk.cs b)]) (.cons rfl (.cons rfl (.nil rfl))) rfl fun fr=>?_
 refine k_seq (k_seq (yL [.read true,.plain,.plain,.read true,.read true,.plain,.read false,.plain,.plain] (by kernel_rfl) (by kernel_rfl) (by kernel_rfl) ?_))
 refine zR rfl (zJ rfl rfl rfl sh27 rfl (zA rfl)) ?_
 refine zD (zC rfl (zA rfl)) (zD (zE rfl rfl yd (zA rfl)) ?_)
 refine zR rfl (zF rfl rfl rfl sh25 rfl (zA rfl)) (zR rfl (yF rfl ty25 rfl (List.length_map _) (zA rfl)) ?_)
 refine zD (yn rfl rfl rfl (by unfold I64;omega) (zA rfl)) ?_
 refine zBQ rfl (q52) (.bool _) (.lrefl _) ?_
 refine zD (zP rfl (q79) (.lrefl _) (zA rfl)) ?_
 refine zD (zB rfl (zA rfl)) ?_
 refine yw ?_
 refine kQ (zC rfl (wC rfl rfl rfl (zA (k_cF rfl rfl ?_))))
 refine zQ (kQ (zB rfl (zB rfl (zA ?_))))
 refine zH [(1,.int .i64 ↑i),(2,U.box 0 0),(7,.int .i64 (-1:Int)),(8,.int .i64 (501:Int))] ([SB.box (Bk.cs b)]) (.c4 rfl rfl rfl rfl (.nil rfl)) rfl fun fr=>?_
 refine k_seq (zL ?_)
 refine yh (fun kk s2=>∃lo hg:Int,lo+1≤m∧(m:Int)≤hg∧ -1≤lo∧hg≤501∧(kk:Int)=hg - lo∧(∃e,s2.st=[.box (Bk.cs b)]++e)∧Holds s2 [(1,.int .i64 i),(2,.box 0 0),(7,.int .i64 lo),(8,.int .i64 hg)]) (fun kk s2 hI=>?_) 502 _ ⟨-1,501,by omega,by omega,by omega,by omega,by omega,⟨[],rfl⟩,.c4 rfl rfl rfl rfl (.nil rfl)⟩
 obtain⟨lo,hg,h1,h2,h3,h4,hk,⟨e,hst2⟩,hs2⟩:=hI
 by_cases hc:hg - lo > 1
 ·obtain⟨c,hcd⟩:∃c:Nat,Int.tdiv (lo+hg) 2=c:=⟨((lo+hg) / 2).toNat,by rw[Int.tdiv_eq_ediv_of_nonneg (by omega)];omega⟩
  have hcr:lo<(c:Int)∧(c:Int)<hg:=by rw[Int.tdiv_eq_ediv_of_nonneg (by omega)]at hcd;omega
  have hset:(plF b.players).take (0+(i:Int).toNat*3)++[U.int .i64 0,.int .i64 c,.lst .ro 2 (zu p.cat)].map dg++(plF b.players).drop (0+(i:Int).toNat*3+3)=plF (b.players.set i ⟨0,c,p.cat⟩):=by
   rw[Int.toNat_natCast,Nat.zero_add];exact plF_set b.players i ⟨0,c,p.cat⟩ hil
  have q74:=ret74 (orc:=orc) hi (held_ok hb hp (lo:=0) (hg:=c) (by omega))
  rw[zDo hp]at q74
  generalize hY:[.box (Bk.cs b)]++e=Y at hst2
  have y0:Y[0]? =some (SB.box (Bk.cs b)):=by rw[←hY];rfl
  have k25:decide (hg - lo > 1)=true:=decide_eq_true hc
  refine zH _ _ hs2 hst2 fun fr2=>?_
  refine k_seq (kQ (zC rfl (zC rfl ?_)))
  refine yn rfl rfl rfl (by unfold I64;omega) (zBj rfl rfl rfl (zA (k_cT rfl (by assumption) (zQ (zL (kQ (zC rfl (zC rfl ?_))))))))
  refine yO rfl rfl rfl (by unfold I64;omega) ?_
  refine o_quo rfl rfl rfl (by omega) (by unfold I64;omega) ?_
  refine zB rfl (zA (kQ (zJ rfl rfl y0 sh27 rfl ?_)))
  refine zi rfl ze27 ?_
  refine zZ rfl (zp _ _) sh27 rfl rfl rfl rfl rfl ?_
  refine zA ?_
  refine zH [(1,.int .i64 ↑i),(2,U.box 0 0),(7,.int .i64 lo),(8,.int .i64 hg),(9,.int .i64 (Int.tdiv (lo+hg) (2:Int))),(10,U.box (List.length Y) 0)] (Y++[SB.box (Bk.cs b)]) (.c4 rfl rfl rfl rfl (.cons rfl (.cons rfl (.nil rfl)))) (yx _ _ _) fun fr=>?_
  refine zH [(1,.int .i64 i),(2,.box 0 0),(7,.int .i64 lo),(8,.int .i64 hg),(9,.int .i64 c),(10,.box Y.length 0)] (Y++[.box (Bk.cs b)]) (.c4 rfl rfl rfl rfl (.cons (by show U.int .i64 _=_;rw[hcd]) (.cons rfl (.nil rfl)))) rfl fun fr3=>?_
  have z0:(Y++[.box (Bk.cs b)])[Y.length]? =some (.box (Bk.cs b)):=zp _ _
  refine kQ (wb (es:=[]) rfl ty25 ze68 cl68 rfl rfl rfl rfl rfl rfl rfl rfl ?_)
  refine zE rfl rfl yd (zF rfl rfl (zo y0) sh25 rfl ?_)
  refine o_appendB rfl ap25_25 rfl rfl (by simp) (by simp) (plsU_one _) (by rw[zDz,zGz]) (List.length_map _) (by omega) (by omega) ?_
  refine zE rfl rfl yd (zAP rfl (zo z0) sh25 rfl rfl ?_)
  refine zA ?_
  refine zH [(1,.int .i64 ↑i),(2,U.box 0 0),(7,.int .i64 lo),(8,.int .i64 hg),(9,.int .i64 ↑c),(10,U.box (List.length Y) 0)] (List.set (Y++[SB.box (Bk.cs b)]++[SB.box (plF (Bk.players b))]) (List.length Y) (SB.box [.int .i64 (Bk.parts b),.int .i64 (Bk.size b),.lst .ro 1 (zG (Bk.beats b)),.int .i64 (Bk.start b),.int .i64 (Bk.fin b),.int .i64 (Bk.tlo b),.int .i64 (Bk.thi b),.int .i64 (Bk.slo b),.int .i64 (Bk.shi b),.int .i64 (Bk.notice b),U.sl (List.length (Y++[SB.box (Bk.cs b)])) 0 (List.length (Bk.players b)) 3])) (.c4 rfl rfl rfl rfl (.cons rfl (.cons rfl (.nil rfl)))) rfl fun fr=>?_
  refine zH [(1,.int .i64 i),(2,.box 0 0),(7,.int .i64 lo),(8,.int .i64 hg),(9,.int .i64 c),(10,.box Y.length 0)] (Y++[.box (bC b (.sl (Y.length+1) 0 b.players.length 3)),.box (plF b.players)]) (.c4 rfl rfl rfl rfl (.cons rfl (.cons rfl (.nil rfl)))) (by
   show((Y++[SB.box _])++[SB.box (plF b.players)]).set Y.length (SB.box _)=_
   rw[List.append_assoc,set_off2];simp) fun fr4=>?_
  have w1:(Y++[SB.box (bC b (.sl (Y.length+1) 0 b.players.length 3)),.box (plF b.players)])[Y.length]? =some (.box (bC b (.sl (Y.length+1) 0 b.players.length 3))):=by simp
  have w2:(Y++[SB.box (bC b (.sl (Y.length+1) 0 b.players.length 3)),.box (plF b.players)])[Y.length+1]? =some (.box (plF b.players)):=by simp
  refine k_seq (yL [.plain,.read true,.plain,.plain,.read false,.plain,.read true,.plain,.plain,.plain,.read true,.plain,.plain,.plain] (by kernel_rfl) (by kernel_rfl) (by kernel_rfl) ?_)
  refine zD (zE rfl rfl yd (zA rfl)) ?_
  refine zR rfl (zF rfl rfl w1 sh25 rfl (zA rfl)) ?_
  refine zD (zC rfl (zA rfl)) (zD (zC rfl (zA rfl)) (zBQ rfl (ret48 hi 0 (c:Int)) (zCz _ _) (.lrefl _) ?_))
  refine zD (zE rfl rfl yd (zA rfl)) ?_
  refine zR rfl (zF rfl rfl (zo y0) sh25 rfl (zA rfl)) ?_
  refine zD (zC rfl (zA rfl)) (zD (yD (u:=(p).u) rfl ty25 rfl rfl (Int.natCast_nonneg _) (by simp[hp]) cl68 (zA rfl)) ?_)
  refine yI [(1,.int .i64 ↑i),(2,U.box 0 0),(7,.int .i64 lo),(8,.int .i64 hg),(9,.int .i64 ↑c),(10,U.box (List.length Y) 0),(37,U.sl (List.length Y+1) 0 (List.length (Bk.players b)) 3),(38,.int .i64 ↑i),(40,wB (0:Int) ↑c),(44,U.eref [.int .i64 (Pl.la p),.int .i64 (Pl.lb p),.lst .ro 2 (zu (Pl.cat p))] 0)] [] (Y++[SB.box (bC b (U.sl (List.length Y+1) 0 (List.length (Bk.players b)) 3)),SB.box (plF (Bk.players b))]) (.c4 rfl rfl rfl rfl (.c4 rfl rfl rfl rfl (.cons rfl (.cons rfl (.nil rfl))))) rfl rfl fun fr=>?_
  refine zD (o_faddrR rfl rfl zCv (zA rfl)) ?_
  refine zR rfl (zT rfl rfl sh66 rfl (zA rfl)) ?_
  refine zD (yp rfl ze68 pl68 rfl rfl (zA rfl)) ?_
  refine zD (o_idxS rfl ty25 rfl rfl (Int.natCast_nonneg _) (by omega) cl68 (zA rfl)) ?_
  refine zD (o_storeNW rfl w2 sh68 rfl rfl rfl (by rw[hlen];omega) rfl hset (zA rfl)) ?_
  refine yw ?_
  refine zH [(1,.int .i64 ↑i),(2,U.box 0 0),(7,.int .i64 lo),(8,.int .i64 hg),(9,.int .i64 ↑c),(10,U.box (List.length Y) 0)] (List.set (Y++[SB.box (bC b (U.sl (List.length Y+1) 0 (List.length (Bk.players b)) 3)),SB.box (plF (Bk.players b))]) (List.length Y+1) (SB.box (plF (List.set (Bk.players b) i {la:=(0:Int),lb:= ↑c,cat:=Pl.cat p})))) (.c4 rfl rfl rfl rfl (.cons rfl (.cons rfl (.nil rfl)))) rfl fun fr=>?_
  obtain⟨W,hW⟩:∃W,W=b.players.set i ⟨0,c,p.cat⟩:=⟨_,rfl⟩
  have hWl:W.length=b.players.length:=by rw[hW,List.length_set]
  have hno:noP b i c= !(decide (zEc ⟨b.parts,b.size,b.beats,b.start,b.fin,b.tlo,b.thi,b.slo,b.shi,b.notice,W⟩≠[])):=by unfold noP;rw[zDo hp,hW]
  rw[←hW]at q74 ⊢
  refine zH [(1,.int .i64 i),(2,.box 0 0),(7,.int .i64 lo),(8,.int .i64 hg),(9,.int .i64 c),(10,.box Y.length 0)] (Y++[.box (bC b (.sl (Y.length+1) 0 b.players.length 3)),.box (plF W)]) (.c4 rfl rfl rfl rfl (.cons rfl (.cons rfl (.nil rfl)))) (by
   show(Y++[_,_]).set (Y.length+1) (SB.box _)=_
   rw[List.set_append_right _ _ (by omega),show Y.length+1 - Y.length=1 by omega];rfl) fun fr5=>?_
  have w3:(Y++[SB.box (bC b (.sl (Y.length+1) 0 b.players.length 3)),.box (plF W)])[Y.length+1]? =some (.box (plF W)):=by simp
  refine k_frz w3 ?_
  refine zH [(1,.int .i64 i),(2,.box 0 0),(7,.int .i64 lo),(8,.int .i64 hg),(9,.int .i64 c),(10,.box Y.length 0)] (Y++[.box (bC b (.sl (Y.length+1) 0 b.players.length 3)),.froz ((plF W).map dg)]) (.c4 rfl rfl rfl rfl (.cons rfl (.cons rfl (.nil rfl)))) (by
   show(Y++[_,_]).set (Y.length+1) (SB.froz _)=_
   rw[List.set_append_right _ _ (by omega),show Y.length+1 - Y.length=1 by omega];rfl) fun fr6=>?_
  have w4:(Y++[SB.box (bC b (.sl (Y.length+1) 0 b.players.length 3)),.froz ((plF W).map dg)])[Y.length]? =some (.box (bC b (.sl (Y.length+1) 0 b.players.length 3))):=by simp
  have w5:(Y++[SB.box (bC b (.sl (Y.length+1) 0 b.players.length 3)),.froz ((plF W).map dg)])[Y.length+1]? =some (.froz ((plF W).map dg)):=by simp
  have hfs:yG (plsU W)=(((plF W).map dg).drop 0).take (b.players.length*3):=by
   rw[zGz,zDz,List.drop_zero,List.take_of_length_le (by rw[zEd,hWl];exact Nat.le_refl _)]
  have hez:∀e∈plsU W,(zq e).length=3:=fun e he=>by
   obtain⟨q,_,rfl⟩:=List.mem_map.1 he;rfl
  have hel:(plsU W).length=b.players.length:=by rw[List.length_map,hWl]
  have hle2:0+b.players.length*3≤((plF W).map dg).length:=by rw[zGz,zEd,hWl];omega
  have hgrow:∀X:List SB,∃e2,Y++X=[.box (Bk.cs b)]++e2:=fun X=>⟨e++X,by rw[←hY,List.append_assoc]⟩
  generalize zEc ⟨b.parts,b.size,b.beats,b.start,b.fin,b.tlo,b.thi,b.slo,b.shi,b.notice,W⟩=R at*
  by_cases hcm:c<m
  ·have hn:=hm.lo c hcm
   rw[hno,Bool.not_eq_false',decide_eq_true_iff]at hn
   have hRl:0<R.length:=List.length_pos_iff.2 hn
   have k52:decide ((R.length:Int) > 0)=true:=decide_eq_true (by omega)
   refine kQ (zJ rfl rfl w4 sh27 rfl ?_)
   refine o_see 49 rfl (fun _=>rfl) (.agg _ _ (.lcons _ _ _ _ (.refl _) (.lcons _ _ _ _ (.refl _) (.lcons _ _ _ _ (.refl _) (.lcons _ _ _ _ (.refl _) (.lcons _ _ _ _ (.refl _) (.lcons _ _ _ _ (.refl _) (.lcons _ _ _ _ (.refl _) (.lcons _ _ _ _ (.refl _) (.lcons _ _ _ _ (.refl _) (.lcons _ _ _ _ (.refl _) (.lcons _ _ _ _ (.sl _ _ _ _ _ _ w5 hfs hez hel hle2) (.lrefl _))))))))))))) ?_
   refine zP rfl (q74) (.lrefl _) (yF rfl ty96 rfl (List.length_map _) ?_)
   refine zBj rfl rfl rfl (zA (k_cT rfl (by assumption) (k_region (zC rfl (zB rfl (zA ?_))))))
   exact⟨(hg - c).toNat,by omega,c,hg,by omega,by omega,by omega,by omega,by omega,hgrow _,.c4 rfl rfl rfl rfl (.nil rfl)⟩
  ·have hn:=hm.hi c (by omega) (by omega)
   rw[hno,Bool.not_eq_true',decide_eq_false_iff_not]at hn
   have hn:R=[]:=Decidable.not_not.1 hn
   have k52:decide ((R.length:Int) > 0)=false:=decide_eq_false (by rw[hn];simp)
   refine kQ (zJ rfl rfl w4 sh27 rfl ?_)
   refine o_see 49 rfl (fun _=>rfl) (.agg _ _ (.lcons _ _ _ _ (.refl _) (.lcons _ _ _ _ (.refl _) (.lcons _ _ _ _ (.refl _) (.lcons _ _ _ _ (.refl _) (.lcons _ _ _ _ (.refl _) (.lcons _ _ _ _ (.refl _) (.lcons _ _ _ _ (.refl _) (.lcons _ _ _ _ (.refl _) (.lcons _ _ _ _ (.refl _) (.lcons _ _ _ _ (.refl _) (.lcons _ _ _ _ (.sl _ _ _ _ _ _ w5 hfs hez hel hle2) (.lrefl _))))))))))))) ?_
   refine zP rfl (q74) (.lrefl _) (yF rfl ty96 rfl (List.length_map _) ?_)
   refine zBj rfl rfl rfl (zA (k_cF rfl (by assumption) (k_region (zC rfl (zB rfl (zA ?_))))))
   exact⟨(c - lo).toNat,by omega,lo,c,by omega,by omega,by omega,by omega,by omega,hgrow _,.c4 rfl rfl rfl rfl (.nil rfl)⟩
 ·have hml:lo=(m:Int) - 1:=by omega
  subst hml
  have k25:decide (hg - ((m:Int) - 1) > 1)=false:=decide_eq_false hc
  by_cases h0:m=0
  ·rw[if_pos h0,if_pos h0]
   have k56:decide ((m:Int) - 1<0)=true:=decide_eq_true (by omega)
   refine zH _ _ hs2 hst2 fun fr2=>?_
   refine k_seq (kQ (zC rfl (zC rfl ?_)))
   refine yn rfl rfl rfl (by unfold I64;omega) (zBj rfl rfl rfl (zA (k_cF rfl (by assumption) (yP (k_seq (kQ (zC rfl (zf rfl rfl rfl ?_))))))))
   refine zA (k_cT rfl (by assumption) (kQ (zB rfl (zB rfl (zA (zU ?_))))))
   refine⟨.inr rfl,_,.cons _ _ _ _ (.tmp 4) (.cons _ _ _ _ (.tmp 5) .nil),?_⟩
   exact .refl _
   done
  ·rw[if_neg h0,if_neg h0]
   have k56:decide ((m:Int) - 1<0)=false:=decide_eq_false (by omega)
   refine zH _ _ hs2 hst2 fun fr2=>?_
   refine k_seq (kQ (zC rfl (zC rfl ?_)))
   refine yn rfl rfl rfl (by unfold I64;omega) (zBj rfl rfl rfl (zA (k_cF rfl (by assumption) (yP (k_seq (kQ (zC rfl (zf rfl rfl rfl ?_))))))))
   refine zA (k_cF rfl (by assumption) (zQ (kQ (zC rfl (zB rfl (zB rfl (zA (zU ?_))))))))
   refine⟨.inr rfl,_,.cons _ _ _ _ (.tmp 4) (.cons _ _ _ _ (.tmp 5) .nil),?_⟩
   exact .refl _
   done
end Go.Proofs.YtfbmlibilcjlgaaDoor.drumBounds
