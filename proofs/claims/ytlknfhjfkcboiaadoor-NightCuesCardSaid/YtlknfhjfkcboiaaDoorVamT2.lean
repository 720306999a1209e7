import Derived.Test.YtlknfhjfkcboiaaDoorVamT1
set_option linter.unusedVariables false
set_option linter.unusedSimpArgs false
set_option linter.constructorNameAsVariable false
namespace Go.Proofs.YtlknfhjfkcboiaaDoor.night
open Vam
variable {is:FuncId→Bool}{orc:Known}
theorem zGE:zt Tryd.prog 25 0=some (0,3):=by kernel_rfl
theorem zAD:zt Tryd.prog 25 1=some (1,22):=by kernel_rfl
theorem zAC:zt Tryd.prog 25 2=some (2,22):=by kernel_rfl
theorem ze:zt Tryd.prog 25 3=some (3,23):=by kernel_rfl
theorem fld25_4:zt Tryd.prog 25 4=some (4,3):=by kernel_rfl
theorem zCq:zt Tryd.prog 25 5=some (5,22):=by kernel_rfl
theorem fld25_6:zt Tryd.prog 25 6=some (6,3):=by kernel_rfl
theorem fld25_7:zt Tryd.prog 25 7=some (7,3):=by kernel_rfl
theorem fld25_8:zt Tryd.prog 25 8=some (8,3):=by kernel_rfl
theorem zDd:zt Tryd.prog 25 9=some (9,22):=by kernel_rfl
theorem sh22:shOf Tryd.prog 22=.one:=by kernel_rfl
theorem sh23:shOf Tryd.prog 23=.one:=by kernel_rfl
noncomputable def b56:Code:=(Tryd.f56.body).getD .skip
theorem body56:bodyOf Tryd.prog 56=some (97,b56,[.tmp 2]):=by kernel_rfl
theorem pure56:pureFn Tryd.prog 56=true:=by kernel_rfl
theorem sh25:shOf Tryd.prog 25=.many 10:=by kernel_rfl
noncomputable def b17:Code:=(Tryd.f17.body).getD .skip
theorem body17:bodyOf Tryd.prog 17=some (6,b17,[.tmp 2]):=by kernel_rfl
theorem pure17:pureFn Tryd.prog 17=true:=by kernel_rfl
theorem zAr{α:Type}{l:List α}{n:Nat}{x:α}(h:l[n]? =some x):l.drop n=x::l.drop (n+1):=by
 obtain⟨h1,h2⟩:=List.getElem?_eq_some_iff.1 h
 rw[←h2];exact List.drop_eq_getElem_cons h1
set_option maxHeartbeats 8000000 in
theorem ret82(hi:Off is)(l:List Sc)(hl:l.length≤4096):RetP Tryd.prog is orc 82 [.lst .ro 5 (scsU l)] (.bool (scsB 0 l)):=by
 refine zp body82 pure82 (hi 82 (by decide)) rfl rfl (zCT (dat_scs l .ro (fun h=>by cases h) 6)) (.inl (.bool _ _)) ?_
 generalize hz:scsB 0 l=z
 refine kQ (zB rfl (zC (kQ (wk rfl ze48 pl48 rfl rfl ?_))))
 refine zq rfl ze48 ?_
 refine zZ rfl rfl sh48 rfl rfl rfl rfl rfl ?_
 refine zC ?_
 refine zF [(0,.lst .ro 5 (scsU l)),(3,U.box 0 0)] ([SB.box [.int .i64 0,.int .i64 2]]) (.n2 rfl) rfl fun fr=>?_
 refine k_seq (kQ (zA rfl (zP rfl ty23 rfl (List.length_map _) ?_)))
 refine zA rfl (zC (zH ?_))
 refine yR (fun kk s2=>∃(i:Nat) (e:List SB),kk+i=l.length∧z=scsB (prA l i) (l.drop i)∧s2.st=[.box [.int .i64 (prA l i),.int .i64 2]]++e∧Holds s2 [(3,.box 0 0),(7,.lst .ro 5 (scsU l)),(8,.int .i64 l.length),(9,.int .i64 i)]) (fun kk s2 hI=>?_) l.length _ ⟨0,[],rfl,hz.symm,rfl,.c4 rfl rfl rfl rfl (.nil rfl)⟩
 obtain⟨i,e,hk,hw,hst2,hs2⟩:=hI
 clear hz
 have hpi:∀x,l[i]? =some x→prA l (i+1)=x.part:=fun x hx=>by show((l[i]?).map Sc.part).getD 0=_;rw[hx];rfl
 generalize prA l i=p at*
 generalize hY:[SB.box [U.int .i64 p,.int .i64 2]]++e=Y at hst2
 have y0:Y[0]? =some (.box [.int .i64 p,.int .i64 2]):=by rw[←hY];rfl
 refine zF _ _ hs2 hst2 fun fr2=>?_
 by_cases hin:i<l.length
 ·obtain⟨x,hx⟩:∃x,l[i]? =some x:=⟨l[i],List.getElem?_eq_getElem hin⟩
  have hp2:=hpi x hx
  rw[zAr hx]at hw
  have hw:z=(scB p x&&scsB x.part (l.drop (i+1))):=hw
  have q1:=ret80 (orc:=orc) hi p 2 x.part
  have q2:=ret80 (orc:=orc) hi 0 100 x.wt
  have q4:=ret81 (orc:=orc) hi 0 600 [x.lo,x.hi] (by simp)
  unfold scB at hw
  cases c1:inS p 2 x.part with
  |false=>
   rw[c1]at q1 hw
   obtain rfl:z=false:=hw
   refine kQ (kq rfl (zC (k_seq (k_cT rfl (kH (by omega)) (zJ (k_seq (zH (kQ (zX (u:=(x).u) rfl ty23 rfl rfl (Int.natCast_nonneg _) (by simp[hx]) cl50 ?_)))))))))
   refine yi rfl rfl sh50 rfl ?_
   refine zq rfl ze50 ?_
   refine zZ rfl (za _ _) sh50 rfl rfl rfl rfl rfl ?_
   refine zC ?_
   refine zF [(3,U.box 0 0),(5,U.box (List.length Y) 0),(7,.lst .ro 5 (scsU l)),(8,.int .i64 ↑(List.length l)),(9,.int .i64 ↑i)] (Y++[SB.box [.int .i64 (Sc.part x),.int .i64 (Sc.wt x),.int .i64 (Sc.lo x),.int .i64 (Sc.hi x),U.bool (Sc.must x)]]) (.n5 rfl) (yc _ _ _) fun fr=>?_
   refine k_seq (kQ (yK rfl rfl (yL y0) sh48 rfl ?_))
   refine kA rfl yx (zQ rfl rfl (za _ _) sh3 rfl ?_)
   refine zG rfl (q1) (.lrefl _) (zh rfl rfl (zA rfl (ke rfl (ke rfl (ke rfl ?_)))))
   refine zL [(3,U.box 0 0),(5,U.box (List.length Y) 0),(7,.lst .ro 5 (scsU l)),(8,.int .i64 ↑(List.length l)),(9,.int .i64 ↑i),(18,U.bool !Bool.false)] [] (Y++[SB.box [.int .i64 (Sc.part x),.int .i64 (Sc.wt x),.int .i64 (Sc.lo x),.int .i64 (Sc.hi x),U.bool (Sc.must x)]]) (.n6 rfl) rfl rfl fun fr=>?_
   refine ke rfl (ke rfl (ke rfl (kG rfl ?_)))
   refine zA rfl (ke rfl (ke rfl (ke rfl (ke rfl ?_))))
   refine zL [(3,U.box 0 0),(5,U.box (List.length Y) 0),(7,.lst .ro 5 (scsU l)),(8,.int .i64 ↑(List.length l)),(9,.int .i64 ↑i),(26,.bool true)] [] (Y++[SB.box [.int .i64 (Sc.part x),.int .i64 (Sc.wt x),.int .i64 (Sc.lo x),.int .i64 (Sc.hi x),U.bool (Sc.must x)]]) (.n6 rfl) rfl rfl fun fr=>?_
   refine ke rfl (ke rfl (ke rfl (kG rfl ?_)))
   refine zA rfl (ke rfl (ke rfl (ke rfl (ke rfl ?_))))
   refine zL [(3,U.box 0 0),(5,U.box (List.length Y) 0),(7,.lst .ro 5 (scsU l)),(8,.int .i64 ↑(List.length l)),(9,.int .i64 ↑i),(35,.bool true)] [] (Y++[SB.box [.int .i64 (Sc.part x),.int .i64 (Sc.wt x),.int .i64 (Sc.lo x),.int .i64 (Sc.hi x),U.bool (Sc.must x)]]) (.n6 rfl) rfl rfl fun fr=>?_
   refine ke rfl (ke rfl (ke rfl (ke rfl (ke rfl (ke rfl (ke rfl (kG rfl ?_)))))))
   refine zC ?_
   refine zF [(3,U.box 0 0),(5,U.box (List.length Y) 0),(7,.lst .ro 5 (scsU l)),(8,.int .i64 ↑(List.length l)),(9,.int .i64 ↑i),(47,.bool true)] (Y++[SB.box [.int .i64 (Sc.part x),.int .i64 (Sc.wt x),.int .i64 (Sc.lo x),.int .i64 (Sc.hi x),U.bool (Sc.must x)]]) (.n6 rfl) rfl fun fr=>?_
   refine k_cT rfl rfl ?_
   refine kQ (zB rfl (zC (zS ?_)))
   refine⟨.inr rfl,_,.cons _ _ _ _ (.tmp 2) .nil,?_⟩
   exact .refl _
  |true=>
   rw[c1,Bool.true_and]at hw
   rw[c1]at q1
   cases c2:inS 0 100 x.wt with
   |false=>
    rw[c2]at q2 hw
    obtain rfl:z=false:=hw
    refine kQ (kq rfl (zC (k_seq (k_cT rfl (kH (by omega)) (zJ (k_seq (zH (kQ (zX (u:=(x).u) rfl ty23 rfl rfl (Int.natCast_nonneg _) (by simp[hx]) cl50 ?_)))))))))
    refine yi rfl rfl sh50 rfl ?_
    refine zq rfl ze50 ?_
    refine zZ rfl (za _ _) sh50 rfl rfl rfl rfl rfl ?_
    refine zC ?_
    refine zF [(3,U.box 0 0),(5,U.box (List.length Y) 0),(7,.lst .ro 5 (scsU l)),(8,.int .i64 ↑(List.length l)),(9,.int .i64 ↑i)] (Y++[SB.box [.int .i64 (Sc.part x),.int .i64 (Sc.wt x),.int .i64 (Sc.lo x),.int .i64 (Sc.hi x),U.bool (Sc.must x)]]) (.n5 rfl) (yc _ _ _) fun fr=>?_
    refine k_seq (kQ (yK rfl rfl (yL y0) sh48 rfl ?_))
    refine kA rfl yx (zQ rfl rfl (za _ _) sh3 rfl ?_)
    refine zG rfl (q1) (.lrefl _) (zh rfl rfl (zA rfl (kf rfl (yU (i:=2) (c:=2) (n:=9) sh48 rfl rfl rfl rfl rfl rfl zBK cl48 rfl rfl rfl (gatB 2 (by decide)) rfl ?_))))
    refine kf rfl (kA rfl zCE ?_)
    refine zL [(3,U.box 0 0),(5,U.box (List.length Y) 0),(7,.lst .ro 5 (scsU l)),(8,.int .i64 ↑(List.length l)),(9,.int .i64 ↑i),(18,U.bool !Bool.true),(20,U.agg [.int .i64 (loB 2),.int .i64 (hiB 2)]),(21,U.box (List.length Y) 1)] [] (Y++[SB.box [.int .i64 (Sc.part x),.int .i64 (Sc.wt x),.int .i64 (Sc.lo x),.int .i64 (Sc.hi x),U.bool (Sc.must x)]]) (.n8 rfl) rfl rfl fun fr=>?_
    refine kf rfl ?_
    refine zL [(3,U.box 0 0),(5,U.box (List.length Y) 0),(7,.lst .ro 5 (scsU l)),(8,.int .i64 ↑(List.length l)),(9,.int .i64 ↑i),(18,U.bool !Bool.true),(20,U.agg [.int .i64 (loB 2),.int .i64 (hiB 2)]),(21,U.box (List.length Y) 1)] [] (Y++[SB.box [.int .i64 (Sc.part x),.int .i64 (Sc.wt x),.int .i64 (Sc.lo x),.int .i64 (Sc.hi x),U.bool (Sc.must x)]]) (.n8 rfl) rfl rfl fun fr=>?_
    refine zQ rfl rfl (za _ _) sh3 rfl ?_
    refine kf rfl (zG rfl (q2) (.lrefl _) (kf rfl (zh rfl rfl (kF rfl ?_))))
    refine zA rfl (ke rfl (ke rfl (ke rfl (ke rfl ?_))))
    refine zL [(3,U.box 0 0),(5,U.box (List.length Y) 0),(7,.lst .ro 5 (scsU l)),(8,.int .i64 ↑(List.length l)),(9,.int .i64 ↑i),(26,U.bool !Bool.false)] [] (Y++[SB.box [.int .i64 (Sc.part x),.int .i64 (Sc.wt x),.int .i64 (Sc.lo x),.int .i64 (Sc.hi x),U.bool (Sc.must x)]]) (.n6 rfl) rfl rfl fun fr=>?_
    refine ke rfl (ke rfl (ke rfl (kG rfl ?_)))
    refine zA rfl (ke rfl (ke rfl (ke rfl (ke rfl ?_))))
    refine zL [(3,U.box 0 0),(5,U.box (List.length Y) 0),(7,.lst .ro 5 (scsU l)),(8,.int .i64 ↑(List.length l)),(9,.int .i64 ↑i),(35,.bool true)] [] (Y++[SB.box [.int .i64 (Sc.part x),.int .i64 (Sc.wt x),.int .i64 (Sc.lo x),.int .i64 (Sc.hi x),U.bool (Sc.must x)]]) (.n6 rfl) rfl rfl fun fr=>?_
    refine ke rfl (ke rfl (ke rfl (ke rfl (ke rfl (ke rfl (ke rfl (kG rfl ?_)))))))
    refine zC ?_
    refine zF [(3,U.box 0 0),(5,U.box (List.length Y) 0),(7,.lst .ro 5 (scsU l)),(8,.int .i64 ↑(List.length l)),(9,.int .i64 ↑i),(47,.bool true)] (Y++[SB.box [.int .i64 (Sc.part x),.int .i64 (Sc.wt x),.int .i64 (Sc.lo x),.int .i64 (Sc.hi x),U.bool (Sc.must x)]]) (.n6 rfl) rfl fun fr=>?_
    refine k_cT rfl rfl ?_
    refine kQ (zB rfl (zC (zS ?_)))
    refine⟨.inr rfl,_,.cons _ _ _ _ (.tmp 2) .nil,?_⟩
    exact .refl _
   |true=>
    rw[c2,Bool.true_and]at hw
    rw[c2]at q2
    by_cases c3:x.lo≤x.hi
    ·rw[kH c3,Bool.true_and]at hw
     cases c4:[x.lo,x.hi].all (inS 0 600)with
     |false=>
      rw[c4]at q4 hw
      obtain rfl:z=false:=hw
      refine kQ (kq rfl (zC (k_seq (k_cT rfl (kH (by omega)) (zJ (k_seq (zH (kQ (zX (u:=(x).u) rfl ty23 rfl rfl (Int.natCast_nonneg _) (by simp[hx]) cl50 ?_)))))))))
      refine yi rfl rfl sh50 rfl ?_
      refine zq rfl ze50 ?_
      refine zZ rfl (za _ _) sh50 rfl rfl rfl rfl rfl ?_
      refine zC ?_
      refine zF [(3,U.box 0 0),(5,U.box (List.length Y) 0),(7,.lst .ro 5 (scsU l)),(8,.int .i64 ↑(List.length l)),(9,.int .i64 ↑i)] (Y++[SB.box [.int .i64 (Sc.part x),.int .i64 (Sc.wt x),.int .i64 (Sc.lo x),.int .i64 (Sc.hi x),U.bool (Sc.must x)]]) (.n5 rfl) (yc _ _ _) fun fr=>?_
      refine k_seq (kQ (yK rfl rfl (yL y0) sh48 rfl ?_))
      refine kA rfl yx (zQ rfl rfl (za _ _) sh3 rfl ?_)
      refine zG rfl (q1) (.lrefl _) (zh rfl rfl (zA rfl (kf rfl (yU (i:=2) (c:=2) (n:=9) sh48 rfl rfl rfl rfl rfl rfl zBK cl48 rfl rfl rfl (gatB 2 (by decide)) rfl ?_))))
      refine kf rfl (kA rfl zCE ?_)
      refine zL [(3,U.box 0 0),(5,U.box (List.length Y) 0),(7,.lst .ro 5 (scsU l)),(8,.int .i64 ↑(List.length l)),(9,.int .i64 ↑i),(18,U.bool !Bool.true),(20,U.agg [.int .i64 (loB 2),.int .i64 (hiB 2)]),(21,U.box (List.length Y) 1)] [] (Y++[SB.box [.int .i64 (Sc.part x),.int .i64 (Sc.wt x),.int .i64 (Sc.lo x),.int .i64 (Sc.hi x),U.bool (Sc.must x)]]) (.n8 rfl) rfl rfl fun fr=>?_
      refine kf rfl ?_
      refine zL [(3,U.box 0 0),(5,U.box (List.length Y) 0),(7,.lst .ro 5 (scsU l)),(8,.int .i64 ↑(List.length l)),(9,.int .i64 ↑i),(18,U.bool !Bool.true),(20,U.agg [.int .i64 (loB 2),.int .i64 (hiB 2)]),(21,U.box (List.length Y) 1)] [] (Y++[SB.box [.int .i64 (Sc.part x),.int .i64 (Sc.wt x),.int .i64 (Sc.lo x),.int .i64 (Sc.hi x),U.bool (Sc.must x)]]) (.n8 rfl) rfl rfl fun fr=>?_
      refine zQ rfl rfl (za _ _) sh3 rfl ?_
      refine kf rfl (zG rfl (q2) (.lrefl _) (kf rfl (zh rfl rfl (kF rfl ?_))))
      refine zA rfl (kf rfl (kA rfl wM (kf rfl (kA rfl wD (kf rfl (zQ rfl rfl (za _ _) sh3 rfl ?_))))))
      refine kf rfl (kA rfl wM ?_)
      refine zL [(3,U.box 0 0),(5,U.box (List.length Y) 0),(7,.lst .ro 5 (scsU l)),(8,.int .i64 ↑(List.length l)),(9,.int .i64 ↑i),(26,U.bool !Bool.true),(29,.int .i64 (Sc.lo x)),(30,U.box (List.length Y) 2)] [] (Y++[SB.box [.int .i64 (Sc.part x),.int .i64 (Sc.wt x),.int .i64 (Sc.lo x),.int .i64 (Sc.hi x),U.bool (Sc.must x)]]) (.n8 rfl) rfl rfl fun fr=>?_
      refine kf rfl ?_
      refine zL [(3,U.box 0 0),(5,U.box (List.length Y) 0),(7,.lst .ro 5 (scsU l)),(8,.int .i64 ↑(List.length l)),(9,.int .i64 ↑i),(26,U.bool !Bool.true),(29,.int .i64 (Sc.lo x)),(30,U.box (List.length Y) 2)] [] (Y++[SB.box [.int .i64 (Sc.part x),.int .i64 (Sc.wt x),.int .i64 (Sc.lo x),.int .i64 (Sc.hi x),U.bool (Sc.must x)]]) (.n8 rfl) rfl rfl fun fr=>?_
      refine kA rfl ym (kf rfl (zQ rfl rfl (za _ _) sh3 rfl ?_))
      refine kf rfl (o_gtr rfl rfl rfl (kF rfl ?_))
      refine zA rfl (kh rfl (kI (by omega)) (yU (i:=3) (c:=2) (n:=9) sh48 rfl rfl rfl (kI (by omega)) rfl rfl zBK cl48 rfl rfl rfl (gatB 3 (by decide)) rfl ?_))
      refine kh rfl (kI (by omega)) (kA rfl wM (kh rfl (kI (by omega)) (kA rfl wD ?_)))
      refine zL [(3,U.box 0 0),(5,U.box (List.length Y) 0),(7,.lst .ro 5 (scsU l)),(8,.int .i64 ↑(List.length l)),(9,.int .i64 ↑i),(35,U.bool (decide (Sc.hi x<Sc.lo x))),(37,U.agg [.int .i64 (loB 3),.int .i64 (hiB 3)]),(39,U.box (List.length Y) 2)] [] (Y++[SB.box [.int .i64 (Sc.part x),.int .i64 (Sc.wt x),.int .i64 (Sc.lo x),.int .i64 (Sc.hi x),U.bool (Sc.must x)]]) (.n8 rfl) rfl rfl fun fr=>?_
      refine kh rfl (kI (by omega)) ?_
      refine zL [(3,U.box 0 0),(5,U.box (List.length Y) 0),(7,.lst .ro 5 (scsU l)),(8,.int .i64 ↑(List.length l)),(9,.int .i64 ↑i),(35,U.bool (decide (Sc.hi x<Sc.lo x))),(37,U.agg [.int .i64 (loB 3),.int .i64 (hiB 3)]),(39,U.box (List.length Y) 2)] [] (Y++[SB.box [.int .i64 (Sc.part x),.int .i64 (Sc.wt x),.int .i64 (Sc.lo x),.int .i64 (Sc.hi x),U.bool (Sc.must x)]]) (.n8 rfl) rfl rfl fun fr=>?_
      refine zQ rfl rfl (za _ _) sh3 rfl ?_
      refine kh rfl (kI (by omega)) (kA rfl wM (kh rfl (kI (by omega)) (kA rfl ym (kh rfl (kI (by omega)) (zQ rfl rfl (za _ _) sh3 rfl ?_)))))
      refine kh rfl (kI (by omega)) (wW (es:=[.int .i64 (Sc.lo x),.int .i64 (Sc.hi x)]) rfl ty22 ze3 cl3 rfl rfl rfl rfl rfl rfl rfl rfl ?_)
      refine kh rfl (kI (by omega)) (zG rfl (q4) (.lcons _ _ _ _ (.refl _) (.lcons _ _ _ _ (.ro _ _ _) (.lrefl _))) ?_)
      refine kh rfl (kI (by omega)) (zh rfl rfl (zW rfl rfl (kI (by omega)) ?_))
      refine zC ?_
      refine zF [(3,U.box 0 0),(5,U.box (List.length Y) 0),(7,.lst .ro 5 (scsU l)),(8,.int .i64 ↑(List.length l)),(9,.int .i64 ↑i),(47,U.bool !Bool.false)] (Y++[SB.box [.int .i64 (Sc.part x),.int .i64 (Sc.wt x),.int .i64 (Sc.lo x),.int .i64 (Sc.hi x),U.bool (Sc.must x)]]) (.n6 rfl) rfl fun fr=>?_
      refine k_cT rfl rfl ?_
      refine kQ (zB rfl (zC (zS ?_)))
      refine⟨.inr rfl,_,.cons _ _ _ _ (.tmp 2) .nil,?_⟩
      exact .refl _
     |true=>
      rw[c4,Bool.true_and]at hw
      rw[c4]at q4
      refine kQ (kq rfl (zC (k_seq (k_cT rfl (kH (by omega)) (zJ (k_seq (zH (kQ (zX (u:=(x).u) rfl ty23 rfl rfl (Int.natCast_nonneg _) (by simp[hx]) cl50 ?_)))))))))
      refine yi rfl rfl sh50 rfl ?_
      refine zq rfl ze50 ?_
      refine zZ rfl (za _ _) sh50 rfl rfl rfl rfl rfl ?_
      refine zC ?_
      refine zF [(3,U.box 0 0),(5,U.box (List.length Y) 0),(7,.lst .ro 5 (scsU l)),(8,.int .i64 ↑(List.length l)),(9,.int .i64 ↑i)] (Y++[SB.box [.int .i64 (Sc.part x),.int .i64 (Sc.wt x),.int .i64 (Sc.lo x),.int .i64 (Sc.hi x),U.bool (Sc.must x)]]) (.n5 rfl) (yc _ _ _) fun fr=>?_
      refine k_seq (kQ (yK rfl rfl (yL y0) sh48 rfl ?_))
      refine kA rfl yx (zQ rfl rfl (za _ _) sh3 rfl ?_)
      refine zG rfl (q1) (.lrefl _) (zh rfl rfl (zA rfl (kf rfl (yU (i:=2) (c:=2) (n:=9) sh48 rfl rfl rfl rfl rfl rfl zBK cl48 rfl rfl rfl (gatB 2 (by decide)) rfl ?_))))
      refine kf rfl (kA rfl zCE ?_)
      refine zL [(3,U.box 0 0),(5,U.box (List.length Y) 0),(7,.lst .ro 5 (scsU l)),(8,.int .i64 ↑(List.length l)),(9,.int .i64 ↑i),(18,U.bool !Bool.true),(20,U.agg [.int .i64 (loB 2),.int .i64 (hiB 2)]),(21,U.box (List.length Y) 1)] [] (Y++[SB.box [.int .i64 (Sc.part x),.int .i64 (Sc.wt x),.int .i64 (Sc.lo x),.int .i64 (Sc.hi x),U.bool (Sc.must x)]]) (.n8 rfl) rfl rfl fun fr=>?_
      refine kf rfl ?_
      refine zL [(3,U.box 0 0),(5,U.box (List.length Y) 0),(7,.lst .ro 5 (scsU l)),(8,.int .i64 ↑(List.length l)),(9,.int .i64 ↑i),(18,U.bool !Bool.true),(20,U.agg [.int .i64 (loB 2),.int .i64 (hiB 2)]),(21,U.box (List.length Y) 1)] [] (Y++[SB.box [.int .i64 (Sc.part x),.int .i64 (Sc.wt x),.int .i64 (Sc.lo x),.int .i64 (Sc.hi x),U.bool (Sc.must x)]]) (.n8 rfl) rfl rfl fun fr=>?_
      refine zQ rfl rfl (za _ _) sh3 rfl ?_
      refine kf rfl (zG rfl (q2) (.lrefl _) (kf rfl (zh rfl rfl (kF rfl ?_))))
      refine zA rfl (kf rfl (kA rfl wM (kf rfl (kA rfl wD (kf rfl (zQ rfl rfl (za _ _) sh3 rfl ?_))))))
      refine kf rfl (kA rfl wM ?_)
      refine zL [(3,U.box 0 0),(5,U.box (List.length Y) 0),(7,.lst .ro 5 (scsU l)),(8,.int .i64 ↑(List.length l)),(9,.int .i64 ↑i),(26,U.bool !Bool.true),(29,.int .i64 (Sc.lo x)),(30,U.box (List.length Y) 2)] [] (Y++[SB.box [.int .i64 (Sc.part x),.int .i64 (Sc.wt x),.int .i64 (Sc.lo x),.int .i64 (Sc.hi x),U.bool (Sc.must x)]]) (.n8 rfl) rfl rfl fun fr=>?_
      refine kf rfl ?_
      refine zL [(3,U.box 0 0),(5,U.box (List.length Y) 0),(7,.lst .ro 5 (scsU l)),(8,.int .i64 ↑(List.length l)),(9,.int .i64 ↑i),(26,U.bool !Bool.true),(29,.int .i64 (Sc.lo x)),(30,U.box (List.length Y) 2)] [] (Y++[SB.box [.int .i64 (Sc.part x),.int .i64 (Sc.wt x),.int .i64 (Sc.lo x),.int .i64 (Sc.hi x),U.bool (Sc.must x)]]) (.n8 rfl) rfl rfl fun fr=>?_
      refine kA rfl ym (kf rfl (zQ rfl rfl (za _ _) sh3 rfl ?_))
      refine kf rfl (o_gtr rfl rfl rfl (kF rfl ?_))
      refine zA rfl (kh rfl (kI (by omega)) (yU (i:=3) (c:=2) (n:=9) sh48 rfl rfl rfl (kI (by omega)) rfl rfl zBK cl48 rfl rfl rfl (gatB 3 (by decide)) rfl ?_))
      refine kh rfl (kI (by omega)) (kA rfl wM (kh rfl (kI (by omega)) (kA rfl wD ?_)))
      refine zL [(3,U.box 0 0),(5,U.box (List.length Y) 0),(7,.lst .ro 5 (scsU l)),(8,.int .i64 ↑(List.length l)),(9,.int .i64 ↑i),(35,U.bool (decide (Sc.hi x<Sc.lo x))),(37,U.agg [.int .i64 (loB 3),.int .i64 (hiB 3)]),(39,U.box (List.length Y) 2)] [] (Y++[SB.box [.int .i64 (Sc.part x),.int .i64 (Sc.wt x),.int .i64 (Sc.lo x),.int .i64 (Sc.hi x),U.bool (Sc.must x)]]) (.n8 rfl) rfl rfl fun fr=>?_
      refine kh rfl (kI (by omega)) ?_
      refine zL [(3,U.box 0 0),(5,U.box (List.length Y) 0),(7,.lst .ro 5 (scsU l)),(8,.int .i64 ↑(List.length l)),(9,.int .i64 ↑i),(35,U.bool (decide (Sc.hi x<Sc.lo x))),(37,U.agg [.int .i64 (loB 3),.int .i64 (hiB 3)]),(39,U.box (List.length Y) 2)] [] (Y++[SB.box [.int .i64 (Sc.part x),.int .i64 (Sc.wt x),.int .i64 (Sc.lo x),.int .i64 (Sc.hi x),U.bool (Sc.must x)]]) (.n8 rfl) rfl rfl fun fr=>?_
      refine zQ rfl rfl (za _ _) sh3 rfl ?_
      refine kh rfl (kI (by omega)) (kA rfl wM (kh rfl (kI (by omega)) (kA rfl ym (kh rfl (kI (by omega)) (zQ rfl rfl (za _ _) sh3 rfl ?_)))))
      refine kh rfl (kI (by omega)) (wW (es:=[.int .i64 (Sc.lo x),.int .i64 (Sc.hi x)]) rfl ty22 ze3 cl3 rfl rfl rfl rfl rfl rfl rfl rfl ?_)
      refine kh rfl (kI (by omega)) (zG rfl (q4) (.lcons _ _ _ _ (.refl _) (.lcons _ _ _ _ (.ro _ _ _) (.lrefl _))) ?_)
      refine kh rfl (kI (by omega)) (zh rfl rfl (zW rfl rfl (kI (by omega)) ?_))
      refine zC ?_
      refine zF [(3,U.box 0 0),(5,U.box (List.length Y) 0),(7,.lst .ro 5 (scsU l)),(8,.int .i64 ↑(List.length l)),(9,.int .i64 ↑i),(47,U.bool !Bool.true)] (Y++[SB.box [.int .i64 (Sc.part x),.int .i64 (Sc.wt x),.int .i64 (Sc.lo x),.int .i64 (Sc.hi x),U.bool (Sc.must x)]]) (.n6 rfl) rfl fun fr=>?_
      refine k_cF rfl rfl ?_
      refine zJ (k_region (kA rfl yx (zQ rfl rfl (za _ _) sh3 rfl ?_)))
      refine kA rfl wD (yz rfl (yL y0) sh3 rfl rfl ?_)
      refine zC ?_
      refine zF [(3,U.box 0 0),(7,.lst .ro 5 (scsU l)),(8,.int .i64 ↑(List.length l)),(9,.int .i64 ↑i)] (List.set (Y++[SB.box [.int .i64 (Sc.part x),.int .i64 (Sc.wt x),.int .i64 (Sc.lo x),.int .i64 (Sc.hi x),U.bool (Sc.must x)]]) 0 (SB.box [.int .i64 (Sc.part x),.int .i64 2])) (.n4 rfl) rfl fun fr=>?_
      refine k_region ?_
      refine kB rfl (by unfold I64;omega) (zA rfl (zC ?_))
      refine⟨kk - 1,by omega,i+1,e++[.box x.cs],by omega,by rw[hp2];exact hw,?_,.c4 rfl rfl rfl rfl (.nil rfl)⟩
      show(Y++[SB.box x.cs]).set 0 (SB.box [.int .i64 x.part,.int .i64 2])=_
      rw[hp2,←hY];rfl
    ·rw[kI c3]at hw
     obtain rfl:z=false:=hw
     refine kQ (kq rfl (zC (k_seq (k_cT rfl (kH (by omega)) (zJ (k_seq (zH (kQ (zX (u:=(x).u) rfl ty23 rfl rfl (Int.natCast_nonneg _) (by simp[hx]) cl50 ?_)))))))))
     refine yi rfl rfl sh50 rfl ?_
     refine zq rfl ze50 ?_
     refine zZ rfl (za _ _) sh50 rfl rfl rfl rfl rfl ?_
     refine zC ?_
     refine zF [(3,U.box 0 0),(5,U.box (List.length Y) 0),(7,.lst .ro 5 (scsU l)),(8,.int .i64 ↑(List.length l)),(9,.int .i64 ↑i)] (Y++[SB.box [.int .i64 (Sc.part x),.int .i64 (Sc.wt x),.int .i64 (Sc.lo x),.int .i64 (Sc.hi x),U.bool (Sc.must x)]]) (.n5 rfl) (yc _ _ _) fun fr=>?_
     refine k_seq (kQ (yK rfl rfl (yL y0) sh48 rfl ?_))
     refine kA rfl yx (zQ rfl rfl (za _ _) sh3 rfl ?_)
     refine zG rfl (q1) (.lrefl _) (zh rfl rfl (zA rfl (kf rfl (yU (i:=2) (c:=2) (n:=9) sh48 rfl rfl rfl rfl rfl rfl zBK cl48 rfl rfl rfl (gatB 2 (by decide)) rfl ?_))))
     refine kf rfl (kA rfl zCE ?_)
     refine zL [(3,U.box 0 0),(5,U.box (List.length Y) 0),(7,.lst .ro 5 (scsU l)),(8,.int .i64 ↑(List.length l)),(9,.int .i64 ↑i),(18,U.bool !Bool.true),(20,U.agg [.int .i64 (loB 2),.int .i64 (hiB 2)]),(21,U.box (List.length Y) 1)] [] (Y++[SB.box [.int .i64 (Sc.part x),.int .i64 (Sc.wt x),.int .i64 (Sc.lo x),.int .i64 (Sc.hi x),U.bool (Sc.must x)]]) (.n8 rfl) rfl rfl fun fr=>?_
     refine kf rfl ?_
     refine zL [(3,U.box 0 0),(5,U.box (List.length Y) 0),(7,.lst .ro 5 (scsU l)),(8,.int .i64 ↑(List.length l)),(9,.int .i64 ↑i),(18,U.bool !Bool.true),(20,U.agg [.int .i64 (loB 2),.int .i64 (hiB 2)]),(21,U.box (List.length Y) 1)] [] (Y++[SB.box [.int .i64 (Sc.part x),.int .i64 (Sc.wt x),.int .i64 (Sc.lo x),.int .i64 (Sc.hi x),U.bool (Sc.must x)]]) (.n8 rfl) rfl rfl fun fr=>?_
     refine zQ rfl rfl (za _ _) sh3 rfl ?_
     refine kf rfl (zG rfl (q2) (.lrefl _) (kf rfl (zh rfl rfl (kF rfl ?_))))
     refine zA rfl (kf rfl (kA rfl wM (kf rfl (kA rfl wD (kf rfl (zQ rfl rfl (za _ _) sh3 rfl ?_))))))
     refine kf rfl (kA rfl wM ?_)
     refine zL [(3,U.box 0 0),(5,U.box (List.length Y) 0),(7,.lst .ro 5 (scsU l)),(8,.int .i64 ↑(List.length l)),(9,.int .i64 ↑i),(26,U.bool !Bool.true),(29,.int .i64 (Sc.lo x)),(30,U.box (List.length Y) 2)] [] (Y++[SB.box [.int .i64 (Sc.part x),.int .i64 (Sc.wt x),.int .i64 (Sc.lo x),.int .i64 (Sc.hi x),U.bool (Sc.must x)]]) (.n8 rfl) rfl rfl fun fr=>?_
     refine kf rfl ?_
     refine zL [(3,U.box 0 0),(5,U.box (List.length Y) 0),(7,.lst .ro 5 (scsU l)),(8,.int .i64 ↑(List.length l)),(9,.int .i64 ↑i),(26,U.bool !Bool.true),(29,.int .i64 (Sc.lo x)),(30,U.box (List.length Y) 2)] [] (Y++[SB.box [.int .i64 (Sc.part x),.int .i64 (Sc.wt x),.int .i64 (Sc.lo x),.int .i64 (Sc.hi x),U.bool (Sc.must x)]]) (.n8 rfl) rfl rfl fun fr=>?_
     refine kA rfl ym (kf rfl (zQ rfl rfl (za _ _) sh3 rfl ?_))
     refine kf rfl (o_gtr rfl rfl rfl (kF rfl ?_))
     refine zA rfl (kg rfl (kH (by omega)) (kg rfl (kH (by omega)) (kg rfl (kH (by omega)) (kg rfl (kH (by omega)) ?_))))
     refine zL [(3,U.box 0 0),(5,U.box (List.length Y) 0),(7,.lst .ro 5 (scsU l)),(8,.int .i64 ↑(List.length l)),(9,.int .i64 ↑i),(35,U.bool (decide (Sc.hi x<Sc.lo x)))] [] (Y++[SB.box [.int .i64 (Sc.part x),.int .i64 (Sc.wt x),.int .i64 (Sc.lo x),.int .i64 (Sc.hi x),U.bool (Sc.must x)]]) (.n6 rfl) rfl rfl fun fr=>?_
     refine kg rfl (kH (by omega)) (kg rfl (kH (by omega)) (kg rfl (kH (by omega)) (kg rfl (kH (by omega)) (kg rfl (kH (by omega)) (kg rfl (kH (by omega)) (kg rfl (kH (by omega)) (zc rfl rfl (kH (by omega)) ?_)))))))
     refine zC ?_
     refine zF [(3,U.box 0 0),(5,U.box (List.length Y) 0),(7,.lst .ro 5 (scsU l)),(8,.int .i64 ↑(List.length l)),(9,.int .i64 ↑i),(47,.bool true)] (Y++[SB.box [.int .i64 (Sc.part x),.int .i64 (Sc.wt x),.int .i64 (Sc.lo x),.int .i64 (Sc.hi x),U.bool (Sc.must x)]]) (.n6 rfl) rfl fun fr=>?_
     refine k_cT rfl rfl ?_
     refine kQ (zB rfl (zC (zS ?_)))
     refine⟨.inr rfl,_,.cons _ _ _ _ (.tmp 2) .nil,?_⟩
     exact .refl _
 ·have hd:l.drop i=[]:=List.drop_eq_nil_of_le (by omega)
  rw[hd]at hw
  obtain rfl:z=true:=hw
  refine kQ (kq rfl (zC (k_seq (k_cF rfl (kI (by omega)) (zr (kQ (zB rfl (zC (zS ?_)))))))))
  refine⟨.inr rfl,_,.cons _ _ _ _ (.tmp 2) .nil,?_⟩
  exact .refl _
def vlA(b:Bk):Bool:=decide (b.opens.length=3)&&(decide (b.ends.length=3)&&(inS 1 10 b.scenes.length&&(inS 0 8 b.loads.length&&inS 1 12 b.shares.length)))
def vlB(b:Bk):Bool:=inS 0 2000 b.bg&&(b.opens.all (inS 0 2000)&&(b.ends.all (inS 0 2000)&&(scsB 0 b.scenes&&([b.fee,b.cost,b.feast].all (inS 0 100000)&&(b.loads.all (inS 1 500)&&(inS 1 500 b.cart&&b.shares.all (inS 1 100)))))))
def zAs(b:Bk):Bool:=vlA b&&vlB b
set_option maxHeartbeats 16000000 in
theorem ret56(hi:Off is)(b:Bk):RetP Tryd.prog is orc 56 [b.u] (.bool (zAs b)):=by
 refine zp body56 pure56 (hi 56 (by decide)) rfl rfl (zCT (wU b 4)) (.inl (.bool _ _)) ?_
 unfold zAs
 have q3:=ret80 (orc:=orc) hi 1 10 b.scenes.length
 have q4:=ret80 (orc:=orc) hi 0 8 b.loads.length
 have q5:=ret80 (orc:=orc) hi 1 12 b.shares.length
 have fals:∀z,vlA b=z→z=false→(z&&vlB b)=false:=fun z _ h=>by rw[h];rfl
 cases hA:vlA b with
 |false=>
  rw[Bool.false_and]
  unfold vlA at hA
  by_cases h1:b.opens.length=3
  ·by_cases h2:b.ends.length=3
   ·rw[kH h1,kH h2,Bool.true_and,Bool.true_and]at hA
    generalize inS 1 10 b.scenes.length=z3 at*
    generalize inS 0 8 b.loads.length=z4 at*
    generalize inS 1 12 b.shares.length=z5 at*
    cases z3 with
    |false=>
     refine kQ (yB rfl rfl (zB rfl (zC ?_)))
     refine zF [(1,U.box 0 0)] ([SB.box (Bk.cs b)]) (.n1 rfl) rfl fun fr=>?_
     refine k_seq (kQ (kA rfl zAD (kC sh22 rfl (zP rfl ty22 rfl (List.length_map _) ?_))))
     refine ku rfl (zA rfl (kh rfl (kI (by omega)) (kA rfl zAC (kh rfl (kI (by omega)) (kC sh22 rfl (kh rfl (kI (by omega)) (zP rfl ty22 rfl (List.length_map _) ?_)))))))
     refine kh rfl (kI (by omega)) (ku rfl ?_)
     refine zL [(1,U.box 0 0),(7,U.bool (decide (↑(List.length (Bk.opens b))≠(3:Int)))),(11,U.bool (decide (↑(List.length (Bk.ends b))≠(3:Int))))] [] ([SB.box (Bk.cs b)]) (.n3 rfl) rfl rfl fun fr=>?_
     refine zW rfl rfl (kI (by omega)) ?_
     refine zA rfl (kh rfl (kI (by omega)) (yU (i:=1) (c:=2) (n:=9) sh48 rfl rfl rfl (kI (by omega)) rfl rfl zBK cl48 rfl rfl rfl (gatB 1 (by decide)) rfl ?_))
     refine kh rfl (kI (by omega)) (kA rfl ze (kh rfl (kI (by omega)) (kC sh23 rfl (kh rfl (kI (by omega)) (zP rfl ty23 rfl (List.length_map _) ?_)))))
     refine kh rfl (kI (by omega)) (zG rfl (q3) (.lrefl _) (kh rfl (kI (by omega)) (zh rfl rfl ?_)))
     refine zL [(1,U.box 0 0),(13,U.bool (decide (↑(List.length (Bk.ends b))≠(3:Int)))),(20,U.bool !Bool.false)] [] ([SB.box (Bk.cs b)]) (.n3 rfl) rfl rfl fun fr=>?_
     refine zW rfl rfl (kI (by omega)) ?_
     refine zA rfl (ke rfl (ke rfl (ke rfl (ke rfl (ke rfl (ke rfl (ke rfl ?_)))))))
     refine zL [(1,U.box 0 0),(22,U.bool !Bool.false)] [] ([SB.box (Bk.cs b)]) (.n2 rfl) rfl rfl fun fr=>?_
     refine kG rfl ?_
     refine zA rfl (ke rfl (ke rfl (ke rfl (ke rfl (ke rfl (ke rfl (ke rfl ?_)))))))
     refine zL [(1,U.box 0 0),(31,.bool true)] [] ([SB.box (Bk.cs b)]) (.n2 rfl) rfl rfl fun fr=>?_
     refine kG rfl ?_
     refine zC ?_
     refine zF [(1,U.box 0 0),(39,.bool true)] ([SB.box (Bk.cs b)]) (.n2 rfl) rfl fun fr=>?_
     refine k_cT rfl rfl ?_
     refine kQ (zB rfl (zC (zS ?_)))
     refine⟨.inr rfl,_,.cons _ _ _ _ (.tmp 2) .nil,?_⟩
     exact .refl _
    |true=>cases z4 with
     |false=>
      refine kQ (yB rfl rfl (zB rfl (zC ?_)))
      refine zF [(1,U.box 0 0)] ([SB.box (Bk.cs b)]) (.n1 rfl) rfl fun fr=>?_
      refine k_seq (kQ (kA rfl zAD (kC sh22 rfl (zP rfl ty22 rfl (List.length_map _) ?_))))
      refine ku rfl (zA rfl (kh rfl (kI (by omega)) (kA rfl zAC (kh rfl (kI (by omega)) (kC sh22 rfl (kh rfl (kI (by omega)) (zP rfl ty22 rfl (List.length_map _) ?_)))))))
      refine kh rfl (kI (by omega)) (ku rfl ?_)
      refine zL [(1,U.box 0 0),(7,U.bool (decide (↑(List.length (Bk.opens b))≠(3:Int)))),(11,U.bool (decide (↑(List.length (Bk.ends b))≠(3:Int))))] [] ([SB.box (Bk.cs b)]) (.n3 rfl) rfl rfl fun fr=>?_
      refine zW rfl rfl (kI (by omega)) ?_
      refine zA rfl (kh rfl (kI (by omega)) (yU (i:=1) (c:=2) (n:=9) sh48 rfl rfl rfl (kI (by omega)) rfl rfl zBK cl48 rfl rfl rfl (gatB 1 (by decide)) rfl ?_))
      refine kh rfl (kI (by omega)) (kA rfl ze (kh rfl (kI (by omega)) (kC sh23 rfl (kh rfl (kI (by omega)) (zP rfl ty23 rfl (List.length_map _) ?_)))))
      refine kh rfl (kI (by omega)) (zG rfl (q3) (.lrefl _) (kh rfl (kI (by omega)) (zh rfl rfl ?_)))
      refine zL [(1,U.box 0 0),(13,U.bool (decide (↑(List.length (Bk.ends b))≠(3:Int)))),(20,U.bool !Bool.true)] [] ([SB.box (Bk.cs b)]) (.n3 rfl) rfl rfl fun fr=>?_
      refine zW rfl rfl (kI (by omega)) ?_
      refine zA rfl (kf rfl (yU (i:=5) (c:=2) (n:=9) sh48 rfl rfl rfl rfl rfl rfl zBK cl48 rfl rfl rfl (gatB 5 (by decide)) rfl ?_))
      refine kf rfl (kA rfl zCq (kf rfl (kC sh22 rfl (kf rfl (zP rfl ty22 rfl (List.length_map _) ?_)))))
      refine kf rfl (zG rfl (q4) (.lrefl _) (kf rfl (zh rfl rfl ?_)))
      refine zL [(1,U.box 0 0),(22,U.bool !Bool.true),(29,U.bool !Bool.false)] [] ([SB.box (Bk.cs b)]) (.n3 rfl) rfl rfl fun fr=>?_
      refine kF rfl ?_
      refine zA rfl (ke rfl (ke rfl (ke rfl (ke rfl (ke rfl (ke rfl (ke rfl ?_)))))))
      refine zL [(1,U.box 0 0),(31,U.bool !Bool.false)] [] ([SB.box (Bk.cs b)]) (.n2 rfl) rfl rfl fun fr=>?_
      refine kG rfl ?_
      refine zC ?_
      refine zF [(1,U.box 0 0),(39,.bool true)] ([SB.box (Bk.cs b)]) (.n2 rfl) rfl fun fr=>?_
      refine k_cT rfl rfl ?_
      refine kQ (zB rfl (zC (zS ?_)))
      refine⟨.inr rfl,_,.cons _ _ _ _ (.tmp 2) .nil,?_⟩
      exact .refl _
     |true=>cases z5 with
      |false=>
       refine kQ (yB rfl rfl (zB rfl (zC ?_)))
       refine zF [(1,U.box 0 0)] ([SB.box (Bk.cs b)]) (.n1 rfl) rfl fun fr=>?_
       refine k_seq (kQ (kA rfl zAD (kC sh22 rfl (zP rfl ty22 rfl (List.length_map _) ?_))))
       refine ku rfl (zA rfl (kh rfl (kI (by omega)) (kA rfl zAC (kh rfl (kI (by omega)) (kC sh22 rfl (kh rfl (kI (by omega)) (zP rfl ty22 rfl (List.length_map _) ?_)))))))
       refine kh rfl (kI (by omega)) (ku rfl ?_)
       refine zL [(1,U.box 0 0),(7,U.bool (decide (↑(List.length (Bk.opens b))≠(3:Int)))),(11,U.bool (decide (↑(List.length (Bk.ends b))≠(3:Int))))] [] ([SB.box (Bk.cs b)]) (.n3 rfl) rfl rfl fun fr=>?_
       refine zW rfl rfl (kI (by omega)) ?_
       refine zA rfl (kh rfl (kI (by omega)) (yU (i:=1) (c:=2) (n:=9) sh48 rfl rfl rfl (kI (by omega)) rfl rfl zBK cl48 rfl rfl rfl (gatB 1 (by decide)) rfl ?_))
       refine kh rfl (kI (by omega)) (kA rfl ze (kh rfl (kI (by omega)) (kC sh23 rfl (kh rfl (kI (by omega)) (zP rfl ty23 rfl (List.length_map _) ?_)))))
       refine kh rfl (kI (by omega)) (zG rfl (q3) (.lrefl _) (kh rfl (kI (by omega)) (zh rfl rfl ?_)))
       refine zL [(1,U.box 0 0),(13,U.bool (decide (↑(List.length (Bk.ends b))≠(3:Int)))),(20,U.bool !Bool.true)] [] ([SB.box (Bk.cs b)]) (.n3 rfl) rfl rfl fun fr=>?_
       refine zW rfl rfl (kI (by omega)) ?_
       refine zA rfl (kf rfl (yU (i:=5) (c:=2) (n:=9) sh48 rfl rfl rfl rfl rfl rfl zBK cl48 rfl rfl rfl (gatB 5 (by decide)) rfl ?_))
       refine kf rfl (kA rfl zCq (kf rfl (kC sh22 rfl (kf rfl (zP rfl ty22 rfl (List.length_map _) ?_)))))
       refine kf rfl (zG rfl (q4) (.lrefl _) (kf rfl (zh rfl rfl ?_)))
       refine zL [(1,U.box 0 0),(22,U.bool !Bool.true),(29,U.bool !Bool.true)] [] ([SB.box (Bk.cs b)]) (.n3 rfl) rfl rfl fun fr=>?_
       refine kF rfl ?_
       refine zA rfl (kf rfl (yU (i:=7) (c:=2) (n:=9) sh48 rfl rfl rfl rfl rfl rfl zBK cl48 rfl rfl rfl (gatB 7 (by decide)) rfl ?_))
       refine kf rfl (kA rfl zDd (kf rfl (kC sh22 rfl (kf rfl (zP rfl ty22 rfl (List.length_map _) ?_)))))
       refine kf rfl (zG rfl (q5) (.lrefl _) (kf rfl (zh rfl rfl ?_)))
       refine zL [(1,U.box 0 0),(31,U.bool !Bool.true),(38,U.bool !Bool.false)] [] ([SB.box (Bk.cs b)]) (.n3 rfl) rfl rfl fun fr=>?_
       refine kF rfl ?_
       refine zC ?_
       refine zF [(1,U.box 0 0),(39,U.bool !Bool.false)] ([SB.box (Bk.cs b)]) (.n2 rfl) rfl fun fr=>?_
       refine k_cT rfl rfl ?_
       refine kQ (zB rfl (zC (zS ?_)))
       refine⟨.inr rfl,_,.cons _ _ _ _ (.tmp 2) .nil,?_⟩
       exact .refl _
      |true=>cases hA
   ·refine kQ ?_
    refine yB rfl rfl (zB rfl (zC ?_))
    refine zF [(1,U.box 0 0)] ([SB.box (Bk.cs b)]) (.n1 rfl) rfl fun fr=>?_
    refine k_seq (kQ (kA rfl zAD (kC sh22 rfl (zP rfl ty22 rfl (List.length_map _) ?_))))
    refine ku rfl (zA rfl (kh rfl (kI (by omega)) (kA rfl zAC (kh rfl (kI (by omega)) (kC sh22 rfl (kh rfl (kI (by omega)) (zP rfl ty22 rfl (List.length_map _) ?_)))))))
    refine kh rfl (kI (by omega)) (ku rfl ?_)
    refine zL [(1,U.box 0 0),(7,U.bool (decide (↑(List.length (Bk.opens b))≠(3:Int)))),(11,U.bool (decide (↑(List.length (Bk.ends b))≠(3:Int))))] [] ([SB.box (Bk.cs b)]) (.n3 rfl) rfl rfl fun fr=>?_
    refine zW rfl rfl (kI (by omega)) ?_
    refine zA rfl (kg rfl (kH (by omega)) (kg rfl (kH (by omega)) (kg rfl (kH (by omega)) (kg rfl (kH (by omega)) (kg rfl (kH (by omega)) (kg rfl (kH (by omega)) (kg rfl (kH (by omega)) ?_)))))))
    refine zL [(1,U.box 0 0),(13,U.bool (decide (↑(List.length (Bk.ends b))≠(3:Int))))] [] ([SB.box (Bk.cs b)]) (.n2 rfl) rfl rfl fun fr=>?_
    refine zc rfl rfl (kH (by omega)) ?_
    refine zA rfl (ke rfl (ke rfl (ke rfl (ke rfl (ke rfl (ke rfl (ke rfl ?_)))))))
    refine zL [(1,U.box 0 0),(22,.bool true)] [] ([SB.box (Bk.cs b)]) (.n2 rfl) rfl rfl fun fr=>?_
    refine kG rfl ?_
    refine zA rfl (ke rfl (ke rfl (ke rfl (ke rfl (ke rfl (ke rfl (ke rfl ?_)))))))
    refine zL [(1,U.box 0 0),(31,.bool true)] [] ([SB.box (Bk.cs b)]) (.n2 rfl) rfl rfl fun fr=>?_
    refine kG rfl ?_
    refine zC ?_
    refine zF [(1,U.box 0 0),(39,.bool true)] ([SB.box (Bk.cs b)]) (.n2 rfl) rfl fun fr=>?_
    refine k_cT rfl rfl ?_
    refine kQ (zB rfl (zC (zS ?_)))
    refine⟨.inr rfl,_,.cons _ _ _ _ (.tmp 2) .nil,?_⟩
    exact .refl _
  ·refine kQ ?_
   refine yB rfl rfl (zB rfl (zC ?_))
   refine zF [(1,U.box 0 0)] ([SB.box (Bk.cs b)]) (.n1 rfl) rfl fun fr=>?_
   refine k_seq (kQ (kA rfl zAD (kC sh22 rfl (zP rfl ty22 rfl (List.length_map _) ?_))))
   refine ku rfl (zA rfl (kg rfl (kH (by omega)) (kg rfl (kH (by omega)) (kg rfl (kH (by omega)) (kg rfl (kH (by omega)) ?_)))))
   refine zL [(1,U.box 0 0),(7,U.bool (decide (↑(List.length (Bk.opens b))≠(3:Int))))] [] ([SB.box (Bk.cs b)]) (.n2 rfl) rfl rfl fun fr=>?_
   refine zc rfl rfl (kH (by omega)) ?_
   refine zA rfl (ke rfl (ke rfl (ke rfl (ke rfl (ke rfl (ke rfl (ke rfl ?_)))))))
   refine zL [(1,U.box 0 0),(13,.bool true)] [] ([SB.box (Bk.cs b)]) (.n2 rfl) rfl rfl fun fr=>?_
   refine kG rfl ?_
   refine zA rfl (ke rfl (ke rfl (ke rfl (ke rfl (ke rfl (ke rfl (ke rfl ?_)))))))
   refine zL [(1,U.box 0 0),(22,.bool true)] [] ([SB.box (Bk.cs b)]) (.n2 rfl) rfl rfl fun fr=>?_
   refine kG rfl ?_
   refine zA rfl (ke rfl (ke rfl (ke rfl (ke rfl (ke rfl (ke rfl (ke rfl ?_)))))))
   refine zL [(1,U.box 0 0),(31,.bool true)] [] ([SB.box (Bk.cs b)]) (.n2 rfl) rfl rfl fun fr=>?_
   refine kG rfl ?_
   refine zC ?_
   refine zF [(1,U.box 0 0),(39,.bool true)] ([SB.box (Bk.cs b)]) (.n2 rfl) rfl fun fr=>?_
   refine k_cT rfl rfl ?_
   refine kQ (zB rfl (zC (zS ?_)))
   refine⟨.inr rfl,_,.cons _ _ _ _ (.tmp 2) .nil,?_⟩
   exact .refl _
 |true=>
  rw[Bool.true_and]
  unfold vlA at hA
  simp only[Bool.and_eq_true,decide_eq_true_eq]at hA
  obtain⟨h1,h2,h3,h4,h5⟩:=hA
  rw[h3]at q3
  rw[h4]at q4
  rw[h5]at q5
  unfold inS at h3 h4 h5
  simp only[Bool.and_eq_true,decide_eq_true_eq]at h3 h4 h5
  refine kQ (yB rfl rfl (zB rfl (zC ?_)))
  refine zF [(1,U.box 0 0)] ([SB.box (Bk.cs b)]) (.n1 rfl) rfl fun fr=>?_
  refine k_seq (kQ (kA rfl zAD (kC sh22 rfl (zP rfl ty22 rfl (List.length_map _) ?_))))
  refine ku rfl (zA rfl (kh rfl (kI (by omega)) (kA rfl zAC (kh rfl (kI (by omega)) (kC sh22 rfl (kh rfl (kI (by omega)) (zP rfl ty22 rfl (List.length_map _) ?_)))))))
  refine kh rfl (kI (by omega)) (ku rfl ?_)
  refine zL [(1,U.box 0 0),(7,U.bool (decide (↑(List.length (Bk.opens b))≠(3:Int)))),(11,U.bool (decide (↑(List.length (Bk.ends b))≠(3:Int))))] [] ([SB.box (Bk.cs b)]) (.n3 rfl) rfl rfl fun fr=>?_
  refine zW rfl rfl (kI (by omega)) ?_
  refine zA rfl (kh rfl (kI (by omega)) (yU (i:=1) (c:=2) (n:=9) sh48 rfl rfl rfl (kI (by omega)) rfl rfl zBK cl48 rfl rfl rfl (gatB 1 (by decide)) rfl ?_))
  refine kh rfl (kI (by omega)) (kA rfl ze (kh rfl (kI (by omega)) (kC sh23 rfl (kh rfl (kI (by omega)) (zP rfl ty23 rfl (List.length_map _) ?_)))))
  refine kh rfl (kI (by omega)) (zG rfl (q3) (.lrefl _) (kh rfl (kI (by omega)) (zh rfl rfl ?_)))
  refine zL [(1,U.box 0 0),(13,U.bool (decide (↑(List.length (Bk.ends b))≠(3:Int)))),(20,U.bool !Bool.true)] [] ([SB.box (Bk.cs b)]) (.n3 rfl) rfl rfl fun fr=>?_
  refine zW rfl rfl (kI (by omega)) ?_
  refine zA rfl (kf rfl (yU (i:=5) (c:=2) (n:=9) sh48 rfl rfl rfl rfl rfl rfl zBK cl48 rfl rfl rfl (gatB 5 (by decide)) rfl ?_))
  refine kf rfl (kA rfl zCq (kf rfl (kC sh22 rfl (kf rfl (zP rfl ty22 rfl (List.length_map _) ?_)))))
  refine kf rfl (zG rfl (q4) (.lrefl _) (kf rfl (zh rfl rfl ?_)))
  refine zL [(1,U.box 0 0),(22,U.bool !Bool.true),(29,U.bool !Bool.true)] [] ([SB.box (Bk.cs b)]) (.n3 rfl) rfl rfl fun fr=>?_
  refine kF rfl ?_
  refine zA rfl (kf rfl (yU (i:=7) (c:=2) (n:=9) sh48 rfl rfl rfl rfl rfl rfl zBK cl48 rfl rfl rfl (gatB 7 (by decide)) rfl ?_))
  refine kf rfl (kA rfl zDd (kf rfl (kC sh22 rfl (kf rfl (zP rfl ty22 rfl (List.length_map _) ?_)))))
  refine kf rfl (zG rfl (q5) (.lrefl _) (kf rfl (zh rfl rfl ?_)))
  refine zL [(1,U.box 0 0),(31,U.bool !Bool.true),(38,U.bool !Bool.true)] [] ([SB.box (Bk.cs b)]) (.n3 rfl) rfl rfl fun fr=>?_
  refine kF rfl ?_
  refine zC ?_
  refine zF [(1,U.box 0 0),(39,U.bool !Bool.true)] ([SB.box (Bk.cs b)]) (.n2 rfl) rfl fun fr=>?_
  refine k_cF rfl rfl ?_
  refine zJ ?_
  unfold vlB
  have c1:=ret80 (orc:=orc) hi 0 2000 b.bg
  have c2:=ret81 (orc:=orc) hi 0 2000 b.opens (by omega)
  have c3:=ret81 (orc:=orc) hi 0 2000 b.ends (by omega)
  have c4:=ret82 (orc:=orc) hi b.scenes (by omega)
  have c5:=ret81 (orc:=orc) hi 0 100000 [b.fee,b.cost,b.feast] (by simp)
  have c6:=ret81 (orc:=orc) hi 1 500 b.loads (by omega)
  have c7:=ret80 (orc:=orc) hi 1 500 b.cart
  have c8:=ret81 (orc:=orc) hi 1 100 b.shares (by omega)
  generalize inS 0 2000 b.bg=z1 at c1
  generalize b.opens.all (inS 0 2000)=z2 at c2
  generalize b.ends.all (inS 0 2000)=z3 at c3
  generalize scsB 0 b.scenes=z4 at c4
  generalize [b.fee,b.cost,b.feast].all (inS 0 100000)=z5 at c5
  generalize b.loads.all (inS 1 500)=z6 at c6
  generalize inS 1 500 b.cart=z7 at c7
  generalize b.shares.all (inS 1 100)=z8 at c8
  refine kQ (o_gpair (i:=0) (c:=2) (n:=9) sh48 rfl rfl zBK cl48 rfl rfl rfl (gatB 0 (by decide)) rfl ?_)
  refine kA rfl zGE (kC sh3 rfl (zG rfl (c1) (.lrefl _) (zA rfl ?_)))
  refine yp rfl rfl rfl rfl (fun h45=>?_) (fun h45=>?_)
  ·refine yU (i:=0) (c:=2) (n:=9) sh48 rfl rfl rfl (by assumption) rfl rfl zBK cl48 rfl rfl rfl (gatB 0 (by decide)) rfl ?_
   refine kh rfl (by assumption) (kA rfl zAD ?_)
   refine zL [(1,U.box 0 0),(45,U.bool z1),(47,U.agg [.int .i64 (loB 0),.int .i64 (hiB 0)]),(48,U.box 0 1)] [] ([SB.box (Bk.cs b)]) (.n4 rfl) rfl rfl fun fr=>?_
   refine kh rfl (by assumption) ?_
   refine zL [(1,U.box 0 0),(45,U.bool z1),(47,U.agg [.int .i64 (loB 0),.int .i64 (hiB 0)]),(48,U.box 0 1)] [] ([SB.box (Bk.cs b)]) (.n4 rfl) rfl rfl fun fr=>?_
   refine kC sh22 rfl (kh rfl (by assumption) (zG rfl (c2) (.lrefl _) (zc rfl rfl (by assumption) ?_)))
   refine zA rfl ?_
   refine yp rfl rfl rfl rfl (fun h52=>?_) (fun h52=>?_)
   ·refine yU (i:=0) (c:=2) (n:=9) sh48 rfl rfl rfl (by assumption) rfl rfl zBK cl48 rfl rfl rfl (gatB 0 (by decide)) rfl ?_
    refine kh rfl (by assumption) (kA rfl zAC (kh rfl (by assumption) (kC sh22 rfl (kh rfl (by assumption) (zG rfl (c3) (.lrefl _) ?_)))))
    refine zL [(1,U.box 0 0),(52,U.bool z2),(57,U.bool z3)] [] ([SB.box (Bk.cs b)]) (.n3 rfl) rfl rfl fun fr=>?_
    refine zc rfl rfl (by assumption) ?_
    refine zA rfl ?_
    refine yp rfl rfl rfl rfl (fun h59=>?_) (fun h59=>?_)
    ·refine kA rfl ze ?_
     refine kh rfl (by assumption) (kC sh23 rfl (kh rfl (by assumption) (zG rfl (c4) (.lrefl _) (zc rfl rfl (by assumption) ?_))))
     refine zA rfl ?_
     refine yp rfl rfl rfl rfl (fun h64=>?_) (fun h64=>?_)
     ·refine yU (i:=4) (c:=2) (n:=9) sh48 rfl rfl rfl (by assumption) rfl rfl zBK cl48 rfl rfl rfl (gatB 4 (by decide)) rfl ?_
      refine zL [(1,U.box 0 0),(64,U.bool z4),(66,U.agg [.int .i64 (loB 4),.int .i64 (hiB 4)])] [] ([SB.box (Bk.cs b)]) (.n3 rfl) rfl rfl fun fr=>?_
      refine kh rfl (by assumption) ?_
      refine zL [(1,U.box 0 0),(64,U.bool z4),(66,U.agg [.int .i64 (loB 4),.int .i64 (hiB 4)])] [] ([SB.box (Bk.cs b)]) (.n3 rfl) rfl rfl fun fr=>?_
      refine kA rfl fld25_4 (kh rfl (by assumption) (kC sh3 rfl (kh rfl (by assumption) (kA rfl fld25_7 (kh rfl (by assumption) (kC sh3 rfl (kh rfl (by assumption) (kA rfl fld25_8 (kh rfl (by assumption) (kC sh3 rfl (kh rfl (by assumption) (wW (es:=[.int .i64 (Bk.fee b),.int .i64 (Bk.cost b),.int .i64 (Bk.feast b)]) rfl ty22 ze3 cl3 rfl rfl rfl rfl rfl rfl rfl rfl ?_))))))))))))
      refine kh rfl (by assumption) (zG rfl (c5) (.lcons _ _ _ _ (.refl _) (.lcons _ _ _ _ (.ro _ _ _) (.lrefl _))) ?_)
      refine zc rfl rfl (by assumption) ?_
      refine zL [(1,U.box 0 0),(75,U.bool z5)] [] ([SB.box (Bk.cs b)]) (.n2 rfl) rfl rfl fun fr=>?_
      refine zA rfl ?_
      refine yp rfl rfl rfl rfl (fun h76=>?_) (fun h76=>?_)
      ·refine yU (i:=6) (c:=2) (n:=9) sh48 rfl rfl rfl (by assumption) rfl rfl zBK cl48 rfl rfl rfl (gatB 6 (by decide)) rfl ?_
       refine kh rfl (by assumption) (kA rfl zCq (kh rfl (by assumption) (kC sh22 rfl (kh rfl (by assumption) (zG rfl (c6) (.lrefl _) (zc rfl rfl (by assumption) ?_))))))
       refine zA rfl ?_
       refine yp rfl rfl rfl rfl (fun h83=>?_) (fun h83=>?_)
       ·refine yU (i:=6) (c:=2) (n:=9) sh48 rfl rfl rfl (by assumption) rfl rfl zBK cl48 rfl rfl rfl (gatB 6 (by decide)) rfl ?_
        refine kh rfl (by assumption) (kA rfl fld25_6 (kh rfl (by assumption) (kC sh3 rfl (kh rfl (by assumption) (zG rfl (c7) (.lrefl _) (zc rfl rfl (by assumption) ?_))))))
        refine zA rfl ?_
        refine yp rfl rfl rfl rfl (fun h90=>?_) (fun h90=>?_)
        ·refine yU (i:=8) (c:=2) (n:=9) sh48 rfl rfl rfl (by assumption) rfl rfl zBK cl48 rfl rfl rfl (gatB 8 (by decide)) rfl ?_
         refine kh rfl (by assumption) (kA rfl zDd ?_)
         refine zL [(90,U.bool z7),(92,U.agg [.int .i64 (loB 8),.int .i64 (hiB 8)]),(93,U.box 0 9)] [] ([SB.box (Bk.cs b)]) (.n3 rfl) rfl rfl fun fr=>?_
         refine kh rfl (by assumption) ?_
         refine zL [(90,U.bool z7),(92,U.agg [.int .i64 (loB 8),.int .i64 (hiB 8)]),(93,U.box 0 9)] [] ([SB.box (Bk.cs b)]) (.n3 rfl) rfl rfl fun fr=>?_
         refine kC sh22 rfl (kh rfl (by assumption) (zG rfl (c8) (.lrefl _) (zc rfl rfl (by assumption) ?_)))
         refine zB rfl (zC (zS ?_))
         refine⟨.inr rfl,_,.cons _ _ _ _ (.tmp 2) .nil,?_⟩
         subst_vars;exact .refl _
        ·refine kg rfl (by assumption) ?_
         refine kg rfl (by assumption) ?_
         refine zL [(90,U.bool z7)] [] ([SB.box (Bk.cs b)]) (.n1 rfl) rfl rfl fun fr=>?_
         refine kg rfl (by assumption) (kg rfl (by assumption) (zW rfl rfl (by assumption) ?_))
         refine zB rfl (zC (zS ?_))
         refine⟨.inr rfl,_,.cons _ _ _ _ (.tmp 2) .nil,?_⟩
         subst_vars;exact .refl _
       ·refine zL [(1,U.box 0 0),(83,U.bool z6)] [] ([SB.box (Bk.cs b)]) (.n2 rfl) rfl rfl fun fr=>?_
        refine kg rfl (by assumption) (kg rfl (by assumption) (kg rfl (by assumption) (kg rfl (by assumption) (zW rfl rfl (by assumption) ?_))))
        refine zA rfl (ke rfl (ke rfl (ke rfl ?_)))
        refine zL [(90,.bool false)] [] ([SB.box (Bk.cs b)]) (.n1 rfl) rfl rfl fun fr=>?_
        refine ke rfl (ke rfl (kF rfl ?_))
        refine zB rfl (zC (zS ?_))
        refine⟨.inr rfl,_,.cons _ _ _ _ (.tmp 2) .nil,?_⟩
        subst_vars;exact .refl _
      ·refine kg rfl (by assumption) ?_
       refine kg rfl (by assumption) (kg rfl (by assumption) (kg rfl (by assumption) (zW rfl rfl (by assumption) ?_)))
       refine zA rfl (ke rfl ?_)
       refine zL [(1,U.box 0 0),(83,.bool false)] [] ([SB.box (Bk.cs b)]) (.n2 rfl) rfl rfl fun fr=>?_
       refine ke rfl (ke rfl (ke rfl (ke rfl (kF rfl ?_))))
       refine zA rfl (ke rfl (ke rfl (ke rfl ?_)))
       refine zL [(90,.bool false)] [] ([SB.box (Bk.cs b)]) (.n1 rfl) rfl rfl fun fr=>?_
       refine ke rfl (ke rfl (kF rfl ?_))
       refine zB rfl (zC (zS ?_))
       refine⟨.inr rfl,_,.cons _ _ _ _ (.tmp 2) .nil,?_⟩
       subst_vars;exact .refl _
     ·refine kg rfl (by assumption) ?_
      refine zL [(1,U.box 0 0),(64,U.bool z4)] [] ([SB.box (Bk.cs b)]) (.n2 rfl) rfl rfl fun fr=>?_
      refine kg rfl (by assumption) (kg rfl (by assumption) (kg rfl (by assumption) (kg rfl (by assumption) (kg rfl (by assumption) (kg rfl (by assumption) (kg rfl (by assumption) (kg rfl (by assumption) (zW rfl rfl (by assumption) ?_))))))))
      refine zL [(1,U.box 0 0),(75,.bool false)] [] ([SB.box (Bk.cs b)]) (.n2 rfl) rfl rfl fun fr=>?_
      refine zA rfl (ke rfl (ke rfl (ke rfl (ke rfl (ke rfl (kF rfl ?_))))))
      refine zA rfl (ke rfl ?_)
      refine zL [(1,U.box 0 0),(83,.bool false)] [] ([SB.box (Bk.cs b)]) (.n2 rfl) rfl rfl fun fr=>?_
      refine ke rfl (ke rfl (ke rfl (ke rfl (kF rfl ?_))))
      refine zA rfl (ke rfl (ke rfl (ke rfl ?_)))
      refine zL [(90,.bool false)] [] ([SB.box (Bk.cs b)]) (.n1 rfl) rfl rfl fun fr=>?_
      refine ke rfl (ke rfl (kF rfl ?_))
      refine zB rfl (zC (zS ?_))
      refine⟨.inr rfl,_,.cons _ _ _ _ (.tmp 2) .nil,?_⟩
      subst_vars;exact .refl _
    ·refine kg rfl (by assumption) ?_
     refine kg rfl (by assumption) (zW rfl rfl (by assumption) ?_)
     refine zA rfl (ke rfl (ke rfl ?_))
     refine zL [(1,U.box 0 0),(64,.bool false)] [] ([SB.box (Bk.cs b)]) (.n2 rfl) rfl rfl fun fr=>?_
     refine ke rfl (ke rfl (ke rfl (ke rfl (ke rfl (ke rfl (ke rfl (ke rfl (kF rfl ?_))))))))
     refine zL [(1,U.box 0 0),(75,.bool false)] [] ([SB.box (Bk.cs b)]) (.n2 rfl) rfl rfl fun fr=>?_
     refine zA rfl (ke rfl (ke rfl (ke rfl (ke rfl (ke rfl (kF rfl ?_))))))
     refine zA rfl (ke rfl ?_)
     refine zL [(1,U.box 0 0),(83,.bool false)] [] ([SB.box (Bk.cs b)]) (.n2 rfl) rfl rfl fun fr=>?_
     refine ke rfl (ke rfl (ke rfl (ke rfl (kF rfl ?_))))
     refine zA rfl (ke rfl (ke rfl (ke rfl ?_)))
     refine zL [(90,.bool false)] [] ([SB.box (Bk.cs b)]) (.n1 rfl) rfl rfl fun fr=>?_
     refine ke rfl (ke rfl (kF rfl ?_))
     refine zB rfl (zC (zS ?_))
     refine⟨.inr rfl,_,.cons _ _ _ _ (.tmp 2) .nil,?_⟩
     subst_vars;exact .refl _
   ·refine kg rfl (by assumption) ?_
    refine kg rfl (by assumption) (kg rfl (by assumption) (kg rfl (by assumption) ?_))
    refine zL [(1,U.box 0 0),(52,U.bool z2)] [] ([SB.box (Bk.cs b)]) (.n2 rfl) rfl rfl fun fr=>?_
    refine zW rfl rfl (by assumption) ?_
    refine zA rfl (ke rfl (ke rfl (ke rfl (kF rfl ?_))))
    refine zA rfl (ke rfl (ke rfl ?_))
    refine zL [(1,U.box 0 0),(64,.bool false)] [] ([SB.box (Bk.cs b)]) (.n2 rfl) rfl rfl fun fr=>?_
    refine ke rfl (ke rfl (ke rfl (ke rfl (ke rfl (ke rfl (ke rfl (ke rfl (kF rfl ?_))))))))
    refine zL [(1,U.box 0 0),(75,.bool false)] [] ([SB.box (Bk.cs b)]) (.n2 rfl) rfl rfl fun fr=>?_
    refine zA rfl (ke rfl (ke rfl (ke rfl (ke rfl (ke rfl (kF rfl ?_))))))
    refine zA rfl (ke rfl ?_)
    refine zL [(1,U.box 0 0),(83,.bool false)] [] ([SB.box (Bk.cs b)]) (.n2 rfl) rfl rfl fun fr=>?_
    refine ke rfl (ke rfl (ke rfl (ke rfl (kF rfl ?_))))
    refine zA rfl (ke rfl (ke rfl (ke rfl ?_)))
    refine zL [(90,.bool false)] [] ([SB.box (Bk.cs b)]) (.n1 rfl) rfl rfl fun fr=>?_
    refine ke rfl (ke rfl (kF rfl ?_))
    refine zB rfl (zC (zS ?_))
    refine⟨.inr rfl,_,.cons _ _ _ _ (.tmp 2) .nil,?_⟩
    subst_vars;exact .refl _
  ·refine kg rfl (by assumption) ?_
   refine kg rfl (by assumption) ?_
   refine zL [(1,U.box 0 0),(45,U.bool z1)] [] ([SB.box (Bk.cs b)]) (.n2 rfl) rfl rfl fun fr=>?_
   refine kg rfl (by assumption) (kg rfl (by assumption) (zW rfl rfl (by assumption) ?_))
   refine zA rfl (ke rfl (ke rfl (ke rfl (ke rfl (ke rfl ?_)))))
   refine zL [(1,U.box 0 0),(52,.bool false)] [] ([SB.box (Bk.cs b)]) (.n2 rfl) rfl rfl fun fr=>?_
   refine kF rfl ?_
   refine zA rfl (ke rfl (ke rfl (ke rfl (kF rfl ?_))))
   refine zA rfl (ke rfl (ke rfl ?_))
   refine zL [(1,U.box 0 0),(64,.bool false)] [] ([SB.box (Bk.cs b)]) (.n2 rfl) rfl rfl fun fr=>?_
   refine ke rfl (ke rfl (ke rfl (ke rfl (ke rfl (ke rfl (ke rfl (ke rfl (kF rfl ?_))))))))
   refine zL [(1,U.box 0 0),(75,.bool false)] [] ([SB.box (Bk.cs b)]) (.n2 rfl) rfl rfl fun fr=>?_
   refine zA rfl (ke rfl (ke rfl (ke rfl (ke rfl (ke rfl (kF rfl ?_))))))
   refine zA rfl (ke rfl ?_)
   refine zL [(1,U.box 0 0),(83,.bool false)] [] ([SB.box (Bk.cs b)]) (.n2 rfl) rfl rfl fun fr=>?_
   refine ke rfl (ke rfl (ke rfl (ke rfl (kF rfl ?_))))
   refine zA rfl (ke rfl (ke rfl (ke rfl ?_)))
   refine zL [(90,.bool false)] [] ([SB.box (Bk.cs b)]) (.n1 rfl) rfl rfl fun fr=>?_
   refine ke rfl (ke rfl (kF rfl ?_))
   refine zB rfl (zC (zS ?_))
   refine⟨.inr rfl,_,.cons _ _ _ _ (.tmp 2) .nil,?_⟩
   subst_vars;exact .refl _
theorem ret17(hi:Off is)(b:Bk):RetP Tryd.prog is orc 17 [b.u] (.int .i64 (if zAs b=true then 0 else 100)):=by
 have q56:=ret56 (orc:=orc) hi b
 refine zp body17 pure17 (hi 17 (by decide)) rfl rfl (zCT (wU b 4)) (.inl (.int _ _ _)) ?_
 cases hv:zAs b with
 |true=>
  rw[hv]at q56
  rw[if_pos rfl]
  refine kQ (yB rfl rfl (zB rfl (zC ?_)))
  refine zF [(1,U.box 0 0)] ([SB.box (Bk.cs b)]) (.n1 rfl) rfl fun fr=>?_
  refine k_seq (kQ (kD sh25 rfl (zG rfl (q56) (.lrefl _) (zh rfl rfl (zC (k_cF rfl rfl ?_))))))
  refine zJ (kQ (zB rfl (zC (zS ?_))))
  refine⟨.inr rfl,_,.cons _ _ _ _ (.tmp 2) .nil,?_⟩
  exact .refl _
 |false=>
  rw[hv]at q56
  rw[if_neg (by decide)]
  refine kQ (yB rfl rfl (zB rfl (zC ?_)))
  refine zF [(1,U.box 0 0)] ([SB.box (Bk.cs b)]) (.n1 rfl) rfl fun fr=>?_
  refine k_seq (kQ (kD sh25 rfl (zG rfl (q56) (.lrefl _) (zh rfl rfl (zC (k_cT rfl rfl ?_))))))
  refine kQ (zB rfl (zC (zS ?_)))
  refine⟨.inr rfl,_,.cons _ _ _ _ (.tmp 2) .nil,?_⟩
  exact .refl _
end Go.Proofs.YtlknfhjfkcboiaaDoor.night
