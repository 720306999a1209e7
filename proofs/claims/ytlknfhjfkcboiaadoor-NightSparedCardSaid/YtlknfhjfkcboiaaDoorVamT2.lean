import Derived.Test.YtlknfhjfkcboiaaDoorVamT1
set_option linter.unusedVariables false
set_option linter.unusedSimpArgs false
set_option linter.constructorNameAsVariable false
namespace Go.Proofs.YtlknfhjfkcboiaaDoor.night
open Vam
variable {is:FuncId→Bool}{orc:Known}
theorem zAD:zo Tryd.prog 25 0=some (0,3):=by kernel_rfl
theorem zAh:zo Tryd.prog 25 1=some (1,22):=by kernel_rfl
theorem zBu:zo Tryd.prog 25 2=some (2,22):=by kernel_rfl
theorem yd:zo Tryd.prog 25 3=some (3,23):=by kernel_rfl
theorem fld25_4:zo Tryd.prog 25 4=some (4,3):=by kernel_rfl
theorem zCf:zo Tryd.prog 25 5=some (5,22):=by kernel_rfl
theorem fld25_6:zo Tryd.prog 25 6=some (6,3):=by kernel_rfl
theorem fld25_7:zo Tryd.prog 25 7=some (7,3):=by kernel_rfl
theorem fld25_8:zo Tryd.prog 25 8=some (8,3):=by kernel_rfl
theorem zDY:zo Tryd.prog 25 9=some (9,22):=by kernel_rfl
theorem sh22:shOf Tryd.prog 22=.one:=by kernel_rfl
theorem sh23:shOf Tryd.prog 23=.one:=by kernel_rfl
noncomputable def b56:Code:=(Tryd.f56.body).getD .skip
theorem body56:bodyOf Tryd.prog 56=some (97,b56,[.tmp 2]):=by kernel_rfl
theorem pure56:pureFn Tryd.prog 56=true:=by kernel_rfl
theorem sh25:shOf Tryd.prog 25=.many 10:=by kernel_rfl
noncomputable def b17:Code:=(Tryd.f17.body).getD .skip
theorem body17:bodyOf Tryd.prog 17=some (6,b17,[.tmp 2]):=by kernel_rfl
theorem pure17:pureFn Tryd.prog 17=true:=by kernel_rfl
theorem zDZ{α:Type}{l:List α}{n:Nat}{x:α}(h:l[n]? =some x):l.drop n=x::l.drop (n+1):=by
 obtain⟨h1,h2⟩:=List.getElem?_eq_some_iff.1 h
 rw[←h2];exact List.drop_eq_getElem_cons h1
set_option maxHeartbeats 8000000 in
theorem ret82(hi:Off is)(l:List Sc)(hl:l.length≤4096):RetP Tryd.prog is orc 82 [.lst .ro 5 (scsU l)] (.bool (scsB 0 l)):=by
 refine yC body82 pure82 (hi 82 (by decide)) rfl rfl (zAe (dat_scs l .ro (fun h=>by cases h) 6)) (.inl (.bool _ _)) ?_
 generalize hz:scsB 0 l=z
 refine kQ (zA rfl (zC (kQ (wY rfl ze48 pl48 rfl rfl ?_))))
 refine zu rfl ze48 ?_
 refine zd rfl rfl sh48 rfl rfl rfl rfl rfl ?_
 refine zC ?_
 refine zK [(0,.lst .ro 5 (scsU l)),(3,U.box 0 0)] ([SB.box [.int .i64 0,.int .i64 2]]) (.cons rfl (.cons rfl (.nil rfl))) rfl fun fr=>?_
 refine k_seq (kQ (zB rfl (zp rfl ty23 rfl (List.length_map _) ?_)))
 refine zB rfl (zC (zQ ?_))
 refine yr (fun kk s2=>∃(i:Nat) (e:List SB),kk+i=l.length∧z=scsB (prA l i) (l.drop i)∧s2.st=[.box [.int .i64 (prA l i),.int .i64 2]]++e∧Holds s2 [(3,.box 0 0),(7,.lst .ro 5 (scsU l)),(8,.int .i64 l.length),(9,.int .i64 i)]) (fun kk s2 hI=>?_) l.length _ ⟨0,[],rfl,hz.symm,rfl,.c4 rfl rfl rfl rfl (.nil rfl)⟩
 obtain⟨i,e,hk,hw,hst2,hs2⟩:=hI
 clear hz
 have hpi:∀x,l[i]? =some x→prA l (i+1)=x.part:=fun x hx=>by show((l[i]?).map Sc.part).getD 0=_;rw[hx];rfl
 generalize prA l i=p at*
 generalize hY:[SB.box [U.int .i64 p,.int .i64 2]]++e=Y at hst2
 have y0:Y[0]? =some (.box [.int .i64 p,.int .i64 2]):=by rw[←hY];rfl
 refine zK _ _ hs2 hst2 fun fr2=>?_
 by_cases hin:i<l.length
 ·obtain⟨x,hx⟩:∃x,l[i]? =some x:=⟨l[i],List.getElem?_eq_getElem hin⟩
  have hp2:=hpi x hx
  rw[zDZ hx]at hw
  have hw:z=(scB p x&&scsB x.part (l.drop (i+1))):=hw
  have q1:=ret80 (orc:=orc) hi p 2 x.part
  have q2:=ret80 (orc:=orc) hi 0 100 x.wt
  have q4:=ret81 (orc:=orc) hi 0 600 [x.lo,x.hi] (by simp)
  unfold scB at hw
  cases c1:inS p 2 x.part with
  |false=>
   rw[c1]at q1 hw
   obtain rfl:z=false:=hw
   refine kQ (ze rfl rfl rfl (zC (k_seq (k_cT rfl (decide_eq_true (by omega)) (zU (k_seq (zQ (kQ ?_))))))))
   refine yG (u:=(x).u) rfl ty23 rfl rfl (Int.natCast_nonneg _) (by simp[hx]) cl50 ?_
   refine wT rfl rfl sh50 rfl ?_
   refine zu rfl ze50 ?_
   refine zd rfl (zc _ _) sh50 rfl rfl rfl rfl rfl ?_
   refine zC ?_
   refine zK [(3,U.box 0 0),(5,U.box (List.length Y) 0),(7,.lst .ro 5 (scsU l)),(8,.int .i64 ↑(List.length l)),(9,.int .i64 ↑i)] (Y++[SB.box [.int .i64 (Sc.part x),.int .i64 (Sc.wt x),.int .i64 (Sc.lo x),.int .i64 (Sc.hi x),U.bool (Sc.must x)]]) (.c4 rfl rfl rfl rfl (.cons rfl (.nil rfl))) (yW _ _ _) fun fr=>?_
   refine k_seq (kQ (zP rfl rfl (yP y0) sh48 rfl ?_))
   refine zD rfl rfl zAB (zE rfl rfl (zc _ _) sh3 rfl ?_)
   refine zN rfl (q1) (.lrefl _) (yB rfl rfl (zB rfl (o_gS rfl rfl rfl rfl rfl (o_gS rfl rfl rfl rfl rfl (o_gS rfl rfl rfl rfl rfl ?_)))))
   refine zM [(3,U.box 0 0),(5,U.box (List.length Y) 0),(7,.lst .ro 5 (scsU l)),(8,.int .i64 ↑(List.length l)),(9,.int .i64 ↑i),(18,U.bool !Bool.false),(19,U.tup []),(20,U.tup []),(21,U.tup [])] [] (Y++[SB.box [.int .i64 (Sc.part x),.int .i64 (Sc.wt x),.int .i64 (Sc.lo x),.int .i64 (Sc.hi x),U.bool (Sc.must x)]]) (.c4 rfl rfl rfl rfl (.c4 rfl rfl rfl rfl (.cons rfl (.nil rfl)))) rfl rfl fun fr=>?_
   refine o_gS rfl rfl rfl rfl rfl (o_gS rfl rfl rfl rfl rfl (o_gS rfl rfl rfl rfl rfl (zT rfl rfl rfl ?_)))
   refine zB rfl (o_gS rfl rfl rfl rfl rfl (o_gS rfl rfl rfl rfl rfl (o_gS rfl rfl rfl rfl rfl (o_gS rfl rfl rfl rfl rfl ?_))))
   refine zM [(3,U.box 0 0),(5,U.box (List.length Y) 0),(7,.lst .ro 5 (scsU l)),(8,.int .i64 ↑(List.length l)),(9,.int .i64 ↑i),(19,U.tup []),(20,U.tup []),(21,U.tup []),(22,U.tup []),(23,U.tup []),(24,U.tup []),(26,.bool true),(27,U.tup []),(28,U.tup []),(29,U.tup []),(30,U.tup [])] [] (Y++[SB.box [.int .i64 (Sc.part x),.int .i64 (Sc.wt x),.int .i64 (Sc.lo x),.int .i64 (Sc.hi x),U.bool (Sc.must x)]]) (.c4 rfl rfl rfl rfl (.c4 rfl rfl rfl rfl (.c4 rfl rfl rfl rfl (.c4 rfl rfl rfl rfl (.nil rfl))))) rfl rfl fun fr=>?_
   refine o_gS rfl rfl rfl rfl rfl (o_gS rfl rfl rfl rfl rfl (o_gS rfl rfl rfl rfl rfl (zT rfl rfl rfl ?_)))
   refine zB rfl (o_gS rfl rfl rfl rfl rfl (o_gS rfl rfl rfl rfl rfl (o_gS rfl rfl rfl rfl rfl (o_gS rfl rfl rfl rfl rfl ?_))))
   refine zM [(3,U.box 0 0),(5,U.box (List.length Y) 0),(7,.lst .ro 5 (scsU l)),(8,.int .i64 ↑(List.length l)),(9,.int .i64 ↑i),(19,U.tup []),(20,U.tup []),(21,U.tup []),(22,U.tup []),(23,U.tup []),(24,U.tup []),(27,U.tup []),(28,U.tup []),(29,U.tup []),(30,U.tup []),(31,U.tup []),(32,U.tup []),(33,U.tup []),(35,.bool true),(36,U.tup []),(37,U.tup []),(38,U.tup []),(39,U.tup [])] [] (Y++[SB.box [.int .i64 (Sc.part x),.int .i64 (Sc.wt x),.int .i64 (Sc.lo x),.int .i64 (Sc.hi x),U.bool (Sc.must x)]]) (.c4 rfl rfl rfl rfl (.c4 rfl rfl rfl rfl (.c4 rfl rfl rfl rfl (.c4 rfl rfl rfl rfl (.c4 rfl rfl rfl rfl (.cons rfl (.cons rfl (.cons rfl (.nil rfl))))))))) rfl rfl fun fr=>?_
   refine o_gS rfl rfl rfl rfl rfl (o_gS rfl rfl rfl rfl rfl (o_gS rfl rfl rfl rfl rfl (o_gS rfl rfl rfl rfl rfl (o_gS rfl rfl rfl rfl rfl (o_gS rfl rfl rfl rfl rfl (o_gS rfl rfl rfl rfl rfl (zT rfl rfl rfl ?_)))))))
   refine zC ?_
   refine zK [(3,U.box 0 0),(5,U.box (List.length Y) 0),(7,.lst .ro 5 (scsU l)),(8,.int .i64 ↑(List.length l)),(9,.int .i64 ↑i),(19,U.tup []),(20,U.tup []),(21,U.tup []),(22,U.tup []),(23,U.tup []),(24,U.tup []),(27,U.tup []),(28,U.tup []),(29,U.tup []),(30,U.tup []),(31,U.tup []),(32,U.tup []),(33,U.tup []),(36,U.tup []),(37,U.tup []),(38,U.tup []),(39,U.tup []),(40,U.tup []),(41,U.tup []),(42,U.tup []),(43,U.tup []),(44,U.tup []),(45,U.tup []),(46,U.tup []),(47,.bool true)] (Y++[SB.box [.int .i64 (Sc.part x),.int .i64 (Sc.wt x),.int .i64 (Sc.lo x),.int .i64 (Sc.hi x),U.bool (Sc.must x)]]) (.c4 rfl rfl rfl rfl (.c4 rfl rfl rfl rfl (.c4 rfl rfl rfl rfl (.c4 rfl rfl rfl rfl (.c4 rfl rfl rfl rfl (.c4 rfl rfl rfl rfl (.c4 rfl rfl rfl rfl (.cons rfl (.cons rfl (.nil rfl)))))))))) rfl fun fr=>?_
   refine k_cT rfl rfl ?_
   refine kQ (zA rfl (zC (zZ ?_)))
   refine⟨.inr rfl,_,.cons _ _ _ _ (.tmp 2) .nil,?_⟩
   exact .refl _
  |true=>
   rw[c1,Bool.true_and]at hw
   rw[c1]at q1
   cases c2:inS 0 100 x.wt with
   |false=>
    rw[c2]at q2 hw
    obtain rfl:z=false:=hw
    refine kQ (ze rfl rfl rfl (zC (k_seq (k_cT rfl (decide_eq_true (by omega)) (zU (k_seq (zQ (kQ ?_))))))))
    refine yG (u:=(x).u) rfl ty23 rfl rfl (Int.natCast_nonneg _) (by simp[hx]) cl50 ?_
    refine wT rfl rfl sh50 rfl ?_
    refine zu rfl ze50 ?_
    refine zd rfl (zc _ _) sh50 rfl rfl rfl rfl rfl ?_
    refine zC ?_
    refine zK [(3,U.box 0 0),(5,U.box (List.length Y) 0),(7,.lst .ro 5 (scsU l)),(8,.int .i64 ↑(List.length l)),(9,.int .i64 ↑i)] (Y++[SB.box [.int .i64 (Sc.part x),.int .i64 (Sc.wt x),.int .i64 (Sc.lo x),.int .i64 (Sc.hi x),U.bool (Sc.must x)]]) (.c4 rfl rfl rfl rfl (.cons rfl (.nil rfl))) (yW _ _ _) fun fr=>?_
    refine k_seq (kQ (zP rfl rfl (yP y0) sh48 rfl ?_))
    refine zD rfl rfl zAB (zE rfl rfl (zc _ _) sh3 rfl ?_)
    refine zN rfl (q1) (.lrefl _) (yB rfl rfl (zB rfl (o_gD rfl rfl rfl rfl rfl (yU (i:=2) (c:=2) (n:=9) sh48 rfl rfl rfl rfl rfl rfl zBE cl48 rfl rfl rfl (gatB 2 (by decide)) rfl ?_))))
    refine o_gD rfl rfl rfl rfl rfl (zD rfl rfl zCe ?_)
    refine zM [(3,U.box 0 0),(5,U.box (List.length Y) 0),(7,.lst .ro 5 (scsU l)),(8,.int .i64 ↑(List.length l)),(9,.int .i64 ↑i),(18,U.bool !Bool.true),(20,U.agg [.int .i64 (loB 2),.int .i64 (hiB 2)]),(21,U.box (List.length Y) 1)] [] (Y++[SB.box [.int .i64 (Sc.part x),.int .i64 (Sc.wt x),.int .i64 (Sc.lo x),.int .i64 (Sc.hi x),U.bool (Sc.must x)]]) (.c4 rfl rfl rfl rfl (.c4 rfl rfl rfl rfl (.nil rfl))) rfl rfl fun fr=>?_
    refine o_gD rfl rfl rfl rfl rfl ?_
    refine zM [(3,U.box 0 0),(5,U.box (List.length Y) 0),(7,.lst .ro 5 (scsU l)),(8,.int .i64 ↑(List.length l)),(9,.int .i64 ↑i),(18,U.bool !Bool.true),(20,U.agg [.int .i64 (loB 2),.int .i64 (hiB 2)]),(21,U.box (List.length Y) 1)] [] (Y++[SB.box [.int .i64 (Sc.part x),.int .i64 (Sc.wt x),.int .i64 (Sc.lo x),.int .i64 (Sc.hi x),U.bool (Sc.must x)]]) (.c4 rfl rfl rfl rfl (.c4 rfl rfl rfl rfl (.nil rfl))) rfl rfl fun fr=>?_
    refine zE rfl rfl (zc _ _) sh3 rfl ?_
    refine o_gD rfl rfl rfl rfl rfl (zN rfl (q2) (.lrefl _) (o_gD rfl rfl rfl rfl rfl (yB rfl rfl (zL rfl rfl rfl ?_))))
    refine zB rfl (o_gS rfl rfl rfl rfl rfl (o_gS rfl rfl rfl rfl rfl (o_gS rfl rfl rfl rfl rfl (o_gS rfl rfl rfl rfl rfl ?_))))
    refine zM [(3,U.box 0 0),(5,U.box (List.length Y) 0),(7,.lst .ro 5 (scsU l)),(8,.int .i64 ↑(List.length l)),(9,.int .i64 ↑i),(20,U.agg [.int .i64 (loB 2),.int .i64 (hiB 2)]),(21,U.box (List.length Y) 1),(22,.int .i64 (Sc.wt x)),(23,.bool false),(24,U.bool !Bool.false),(26,U.bool !Bool.false),(27,U.tup []),(28,U.tup []),(29,U.tup []),(30,U.tup [])] [] (Y++[SB.box [.int .i64 (Sc.part x),.int .i64 (Sc.wt x),.int .i64 (Sc.lo x),.int .i64 (Sc.hi x),U.bool (Sc.must x)]]) (.c4 rfl rfl rfl rfl (.c4 rfl rfl rfl rfl (.c4 rfl rfl rfl rfl (.cons rfl (.cons rfl (.cons rfl (.nil rfl))))))) rfl rfl fun fr=>?_
    refine o_gS rfl rfl rfl rfl rfl (o_gS rfl rfl rfl rfl rfl (o_gS rfl rfl rfl rfl rfl (zT rfl rfl rfl ?_)))
    refine zB rfl (o_gS rfl rfl rfl rfl rfl (o_gS rfl rfl rfl rfl rfl (o_gS rfl rfl rfl rfl rfl (o_gS rfl rfl rfl rfl rfl ?_))))
    refine zM [(3,U.box 0 0),(5,U.box (List.length Y) 0),(7,.lst .ro 5 (scsU l)),(8,.int .i64 ↑(List.length l)),(9,.int .i64 ↑i),(20,U.agg [.int .i64 (loB 2),.int .i64 (hiB 2)]),(21,U.box (List.length Y) 1),(22,.int .i64 (Sc.wt x)),(23,.bool false),(24,U.bool !Bool.false),(27,U.tup []),(28,U.tup []),(29,U.tup []),(30,U.tup []),(31,U.tup []),(32,U.tup []),(33,U.tup []),(35,.bool true),(36,U.tup []),(37,U.tup []),(38,U.tup []),(39,U.tup [])] [] (Y++[SB.box [.int .i64 (Sc.part x),.int .i64 (Sc.wt x),.int .i64 (Sc.lo x),.int .i64 (Sc.hi x),U.bool (Sc.must x)]]) (.c4 rfl rfl rfl rfl (.c4 rfl rfl rfl rfl (.c4 rfl rfl rfl rfl (.c4 rfl rfl rfl rfl (.c4 rfl rfl rfl rfl (.cons rfl (.cons rfl (.nil rfl)))))))) rfl rfl fun fr=>?_
    refine o_gS rfl rfl rfl rfl rfl (o_gS rfl rfl rfl rfl rfl (o_gS rfl rfl rfl rfl rfl (o_gS rfl rfl rfl rfl rfl (o_gS rfl rfl rfl rfl rfl (o_gS rfl rfl rfl rfl rfl (o_gS rfl rfl rfl rfl rfl (zT rfl rfl rfl ?_)))))))
    refine zC ?_
    refine zK [(3,U.box 0 0),(5,U.box (List.length Y) 0),(7,.lst .ro 5 (scsU l)),(8,.int .i64 ↑(List.length l)),(9,.int .i64 ↑i),(20,U.agg [.int .i64 (loB 2),.int .i64 (hiB 2)]),(21,U.box (List.length Y) 1),(22,.int .i64 (Sc.wt x)),(23,.bool false),(24,U.bool !Bool.false),(27,U.tup []),(28,U.tup []),(29,U.tup []),(30,U.tup []),(31,U.tup []),(32,U.tup []),(33,U.tup []),(36,U.tup []),(37,U.tup []),(38,U.tup []),(39,U.tup []),(40,U.tup []),(41,U.tup []),(42,U.tup []),(43,U.tup []),(44,U.tup []),(45,U.tup []),(46,U.tup []),(47,.bool true)] (Y++[SB.box [.int .i64 (Sc.part x),.int .i64 (Sc.wt x),.int .i64 (Sc.lo x),.int .i64 (Sc.hi x),U.bool (Sc.must x)]]) (.c4 rfl rfl rfl rfl (.c4 rfl rfl rfl rfl (.c4 rfl rfl rfl rfl (.c4 rfl rfl rfl rfl (.c4 rfl rfl rfl rfl (.c4 rfl rfl rfl rfl (.c4 rfl rfl rfl rfl (.cons rfl (.nil rfl))))))))) rfl fun fr=>?_
    refine k_cT rfl rfl ?_
    refine kQ (zA rfl (zC (zZ ?_)))
    refine⟨.inr rfl,_,.cons _ _ _ _ (.tmp 2) .nil,?_⟩
    exact .refl _
   |true=>
    rw[c2,Bool.true_and]at hw
    rw[c2]at q2
    by_cases c3:x.lo≤x.hi
    ·rw[decide_eq_true c3,Bool.true_and]at hw
     cases c4:[x.lo,x.hi].all (inS 0 600)with
     |false=>
      rw[c4]at q4 hw
      obtain rfl:z=false:=hw
      refine kQ (ze rfl rfl rfl (zC (k_seq (k_cT rfl (decide_eq_true (by omega)) (zU (k_seq (zQ (kQ ?_))))))))
      refine yG (u:=(x).u) rfl ty23 rfl rfl (Int.natCast_nonneg _) (by simp[hx]) cl50 ?_
      refine wT rfl rfl sh50 rfl ?_
      refine zu rfl ze50 ?_
      refine zd rfl (zc _ _) sh50 rfl rfl rfl rfl rfl ?_
      refine zC ?_
      refine zK [(3,U.box 0 0),(5,U.box (List.length Y) 0),(7,.lst .ro 5 (scsU l)),(8,.int .i64 ↑(List.length l)),(9,.int .i64 ↑i)] (Y++[SB.box [.int .i64 (Sc.part x),.int .i64 (Sc.wt x),.int .i64 (Sc.lo x),.int .i64 (Sc.hi x),U.bool (Sc.must x)]]) (.c4 rfl rfl rfl rfl (.cons rfl (.nil rfl))) (yW _ _ _) fun fr=>?_
      refine k_seq (kQ (zP rfl rfl (yP y0) sh48 rfl ?_))
      refine zD rfl rfl zAB (zE rfl rfl (zc _ _) sh3 rfl ?_)
      refine zN rfl (q1) (.lrefl _) (yB rfl rfl (zB rfl (o_gD rfl rfl rfl rfl rfl (yU (i:=2) (c:=2) (n:=9) sh48 rfl rfl rfl rfl rfl rfl zBE cl48 rfl rfl rfl (gatB 2 (by decide)) rfl ?_))))
      refine o_gD rfl rfl rfl rfl rfl (zD rfl rfl zCe ?_)
      refine zM [(3,U.box 0 0),(5,U.box (List.length Y) 0),(7,.lst .ro 5 (scsU l)),(8,.int .i64 ↑(List.length l)),(9,.int .i64 ↑i),(18,U.bool !Bool.true),(20,U.agg [.int .i64 (loB 2),.int .i64 (hiB 2)]),(21,U.box (List.length Y) 1)] [] (Y++[SB.box [.int .i64 (Sc.part x),.int .i64 (Sc.wt x),.int .i64 (Sc.lo x),.int .i64 (Sc.hi x),U.bool (Sc.must x)]]) (.c4 rfl rfl rfl rfl (.c4 rfl rfl rfl rfl (.nil rfl))) rfl rfl fun fr=>?_
      refine o_gD rfl rfl rfl rfl rfl ?_
      refine zM [(3,U.box 0 0),(5,U.box (List.length Y) 0),(7,.lst .ro 5 (scsU l)),(8,.int .i64 ↑(List.length l)),(9,.int .i64 ↑i),(18,U.bool !Bool.true),(20,U.agg [.int .i64 (loB 2),.int .i64 (hiB 2)]),(21,U.box (List.length Y) 1)] [] (Y++[SB.box [.int .i64 (Sc.part x),.int .i64 (Sc.wt x),.int .i64 (Sc.lo x),.int .i64 (Sc.hi x),U.bool (Sc.must x)]]) (.c4 rfl rfl rfl rfl (.c4 rfl rfl rfl rfl (.nil rfl))) rfl rfl fun fr=>?_
      refine zE rfl rfl (zc _ _) sh3 rfl ?_
      refine o_gD rfl rfl rfl rfl rfl (zN rfl (q2) (.lrefl _) (o_gD rfl rfl rfl rfl rfl (yB rfl rfl (zL rfl rfl rfl ?_))))
      refine zB rfl (o_gD rfl rfl rfl rfl rfl (zD rfl rfl zAA (o_gD rfl rfl rfl rfl rfl (zD rfl rfl zAC (o_gD rfl rfl rfl rfl rfl (zE rfl rfl (zc _ _) sh3 rfl ?_))))))
      refine o_gD rfl rfl rfl rfl rfl (zD rfl rfl zAA ?_)
      refine zM [(3,U.box 0 0),(5,U.box (List.length Y) 0),(7,.lst .ro 5 (scsU l)),(8,.int .i64 ↑(List.length l)),(9,.int .i64 ↑i),(20,U.agg [.int .i64 (loB 2),.int .i64 (hiB 2)]),(21,U.box (List.length Y) 1),(22,.int .i64 (Sc.wt x)),(23,.bool true),(24,U.bool !Bool.true),(26,U.bool !Bool.true),(27,U.box (List.length Y) 2),(28,U.box (List.length Y) 2),(29,.int .i64 (Sc.lo x)),(30,U.box (List.length Y) 2)] [] (Y++[SB.box [.int .i64 (Sc.part x),.int .i64 (Sc.wt x),.int .i64 (Sc.lo x),.int .i64 (Sc.hi x),U.bool (Sc.must x)]]) (.c4 rfl rfl rfl rfl (.c4 rfl rfl rfl rfl (.c4 rfl rfl rfl rfl (.cons rfl (.cons rfl (.cons rfl (.nil rfl))))))) rfl rfl fun fr=>?_
      refine o_gD rfl rfl rfl rfl rfl ?_
      refine zM [(3,U.box 0 0),(5,U.box (List.length Y) 0),(7,.lst .ro 5 (scsU l)),(8,.int .i64 ↑(List.length l)),(9,.int .i64 ↑i),(20,U.agg [.int .i64 (loB 2),.int .i64 (hiB 2)]),(21,U.box (List.length Y) 1),(22,.int .i64 (Sc.wt x)),(23,.bool true),(24,U.bool !Bool.true),(26,U.bool !Bool.true),(27,U.box (List.length Y) 2),(28,U.box (List.length Y) 2),(29,.int .i64 (Sc.lo x)),(30,U.box (List.length Y) 2)] [] (Y++[SB.box [.int .i64 (Sc.part x),.int .i64 (Sc.wt x),.int .i64 (Sc.lo x),.int .i64 (Sc.hi x),U.bool (Sc.must x)]]) (.c4 rfl rfl rfl rfl (.c4 rfl rfl rfl rfl (.c4 rfl rfl rfl rfl (.cons rfl (.cons rfl (.cons rfl (.nil rfl))))))) rfl rfl fun fr=>?_
      refine zD rfl rfl zBW (o_gD rfl rfl rfl rfl rfl (zE rfl rfl (zc _ _) sh3 rfl ?_))
      refine o_gD rfl rfl rfl rfl rfl (zEq rfl rfl rfl (zL rfl rfl rfl ?_))
      refine zB rfl (o_gD rfl rfl rfl rfl (decide_eq_false (by omega)) (yU (i:=3) (c:=2) (n:=9) sh48 rfl rfl rfl (decide_eq_false (by omega)) rfl rfl zBE cl48 rfl rfl rfl (gatB 3 (by decide)) rfl ?_))
      refine o_gD rfl rfl rfl rfl (decide_eq_false (by omega)) (zD rfl rfl zAA (o_gD rfl rfl rfl rfl (decide_eq_false (by omega)) (zD rfl rfl zAC ?_)))
      refine zM [(3,U.box 0 0),(5,U.box (List.length Y) 0),(7,.lst .ro 5 (scsU l)),(8,.int .i64 ↑(List.length l)),(9,.int .i64 ↑i),(20,U.agg [.int .i64 (loB 2),.int .i64 (hiB 2)]),(21,U.box (List.length Y) 1),(22,.int .i64 (Sc.wt x)),(23,.bool true),(24,U.bool !Bool.true),(27,U.box (List.length Y) 2),(28,U.box (List.length Y) 2),(29,.int .i64 (Sc.lo x)),(30,U.box (List.length Y) 2),(31,U.box (List.length Y) 3),(32,.int .i64 (Sc.hi x)),(33,U.bool (decide (Sc.hi x<Sc.lo x))),(35,U.bool (decide (Sc.hi x<Sc.lo x))),(37,U.agg [.int .i64 (loB 3),.int .i64 (hiB 3)]),(38,U.box (List.length Y) 2),(39,U.box (List.length Y) 2)] [] (Y++[SB.box [.int .i64 (Sc.part x),.int .i64 (Sc.wt x),.int .i64 (Sc.lo x),.int .i64 (Sc.hi x),U.bool (Sc.must x)]]) (.c4 rfl rfl rfl rfl (.c4 rfl rfl rfl rfl (.c4 rfl rfl rfl rfl (.c4 rfl rfl rfl rfl (.c4 rfl rfl rfl rfl (.cons rfl (.nil rfl))))))) rfl rfl fun fr=>?_
      refine o_gD rfl rfl rfl rfl (decide_eq_false (by omega)) ?_
      refine zM [(3,U.box 0 0),(5,U.box (List.length Y) 0),(7,.lst .ro 5 (scsU l)),(8,.int .i64 ↑(List.length l)),(9,.int .i64 ↑i),(20,U.agg [.int .i64 (loB 2),.int .i64 (hiB 2)]),(21,U.box (List.length Y) 1),(22,.int .i64 (Sc.wt x)),(23,.bool true),(24,U.bool !Bool.true),(27,U.box (List.length Y) 2),(28,U.box (List.length Y) 2),(29,.int .i64 (Sc.lo x)),(30,U.box (List.length Y) 2),(31,U.box (List.length Y) 3),(32,.int .i64 (Sc.hi x)),(33,U.bool (decide (Sc.hi x<Sc.lo x))),(35,U.bool (decide (Sc.hi x<Sc.lo x))),(37,U.agg [.int .i64 (loB 3),.int .i64 (hiB 3)]),(38,U.box (List.length Y) 2),(39,U.box (List.length Y) 2)] [] (Y++[SB.box [.int .i64 (Sc.part x),.int .i64 (Sc.wt x),.int .i64 (Sc.lo x),.int .i64 (Sc.hi x),U.bool (Sc.must x)]]) (.c4 rfl rfl rfl rfl (.c4 rfl rfl rfl rfl (.c4 rfl rfl rfl rfl (.c4 rfl rfl rfl rfl (.c4 rfl rfl rfl rfl (.cons rfl (.nil rfl))))))) rfl rfl fun fr=>?_
      refine zE rfl rfl (zc _ _) sh3 rfl ?_
      refine o_gD rfl rfl rfl rfl (decide_eq_false (by omega)) (zD rfl rfl zAA (o_gD rfl rfl rfl rfl (decide_eq_false (by omega)) (zD rfl rfl zBW (o_gD rfl rfl rfl rfl (decide_eq_false (by omega)) (zE rfl rfl (zc _ _) sh3 rfl ?_)))))
      refine o_gD rfl rfl rfl rfl (decide_eq_false (by omega)) (zDE (es:=[.int .i64 (Sc.lo x),.int .i64 (Sc.hi x)]) rfl ty22 ze3 cl3 rfl rfl rfl rfl rfl rfl rfl rfl ?_)
      refine o_gD rfl rfl rfl rfl (decide_eq_false (by omega)) (zN rfl (q4) (.lcons _ _ _ _ (.refl _) (.lcons _ _ _ _ (.ro _ _ _) (.lrefl _))) ?_)
      refine o_gD rfl rfl rfl rfl (decide_eq_false (by omega)) (yB rfl rfl (zL rfl rfl (decide_eq_false (by omega)) ?_))
      refine zC ?_
      refine zK [(3,U.box 0 0),(5,U.box (List.length Y) 0),(7,.lst .ro 5 (scsU l)),(8,.int .i64 ↑(List.length l)),(9,.int .i64 ↑i),(20,U.agg [.int .i64 (loB 2),.int .i64 (hiB 2)]),(21,U.box (List.length Y) 1),(22,.int .i64 (Sc.wt x)),(23,.bool true),(24,U.bool !Bool.true),(27,U.box (List.length Y) 2),(28,U.box (List.length Y) 2),(29,.int .i64 (Sc.lo x)),(30,U.box (List.length Y) 2),(31,U.box (List.length Y) 3),(32,.int .i64 (Sc.hi x)),(33,U.bool (decide (Sc.hi x<Sc.lo x))),(37,U.agg [.int .i64 (loB 3),.int .i64 (hiB 3)]),(38,U.box (List.length Y) 2),(39,U.box (List.length Y) 2),(40,.int .i64 (Sc.lo x)),(41,U.box (List.length Y) 2),(42,U.box (List.length Y) 3),(43,.int .i64 (Sc.hi x)),(44,.lst .full 1 [.int .i64 (Sc.lo x),.int .i64 (Sc.hi x)]),(45,.bool false),(46,U.bool !Bool.false),(47,U.bool !Bool.false)] (Y++[SB.box [.int .i64 (Sc.part x),.int .i64 (Sc.wt x),.int .i64 (Sc.lo x),.int .i64 (Sc.hi x),U.bool (Sc.must x)]]) (.c4 rfl rfl rfl rfl (.c4 rfl rfl rfl rfl (.c4 rfl rfl rfl rfl (.c4 rfl rfl rfl rfl (.c4 rfl rfl rfl rfl (.c4 rfl rfl rfl rfl (.c4 rfl rfl rfl rfl (.nil rfl)))))))) rfl fun fr=>?_
      refine k_cT rfl rfl ?_
      refine kQ (zA rfl (zC (zZ ?_)))
      refine⟨.inr rfl,_,.cons _ _ _ _ (.tmp 2) .nil,?_⟩
      exact .refl _
     |true=>
      rw[c4,Bool.true_and]at hw
      rw[c4]at q4
      refine kQ (ze rfl rfl rfl (zC (k_seq (k_cT rfl (decide_eq_true (by omega)) (zU (k_seq (zQ (kQ ?_))))))))
      refine yG (u:=(x).u) rfl ty23 rfl rfl (Int.natCast_nonneg _) (by simp[hx]) cl50 ?_
      refine wT rfl rfl sh50 rfl ?_
      refine zu rfl ze50 ?_
      refine zd rfl (zc _ _) sh50 rfl rfl rfl rfl rfl ?_
      refine zC ?_
      refine zK [(3,U.box 0 0),(5,U.box (List.length Y) 0),(7,.lst .ro 5 (scsU l)),(8,.int .i64 ↑(List.length l)),(9,.int .i64 ↑i)] (Y++[SB.box [.int .i64 (Sc.part x),.int .i64 (Sc.wt x),.int .i64 (Sc.lo x),.int .i64 (Sc.hi x),U.bool (Sc.must x)]]) (.c4 rfl rfl rfl rfl (.cons rfl (.nil rfl))) (yW _ _ _) fun fr=>?_
      refine k_seq (kQ (zP rfl rfl (yP y0) sh48 rfl ?_))
      refine zD rfl rfl zAB (zE rfl rfl (zc _ _) sh3 rfl ?_)
      refine zN rfl (q1) (.lrefl _) (yB rfl rfl (zB rfl (o_gD rfl rfl rfl rfl rfl (yU (i:=2) (c:=2) (n:=9) sh48 rfl rfl rfl rfl rfl rfl zBE cl48 rfl rfl rfl (gatB 2 (by decide)) rfl ?_))))
      refine o_gD rfl rfl rfl rfl rfl (zD rfl rfl zCe ?_)
      refine zM [(3,U.box 0 0),(5,U.box (List.length Y) 0),(7,.lst .ro 5 (scsU l)),(8,.int .i64 ↑(List.length l)),(9,.int .i64 ↑i),(18,U.bool !Bool.true),(20,U.agg [.int .i64 (loB 2),.int .i64 (hiB 2)]),(21,U.box (List.length Y) 1)] [] (Y++[SB.box [.int .i64 (Sc.part x),.int .i64 (Sc.wt x),.int .i64 (Sc.lo x),.int .i64 (Sc.hi x),U.bool (Sc.must x)]]) (.c4 rfl rfl rfl rfl (.c4 rfl rfl rfl rfl (.nil rfl))) rfl rfl fun fr=>?_
      refine o_gD rfl rfl rfl rfl rfl ?_
      refine zM [(3,U.box 0 0),(5,U.box (List.length Y) 0),(7,.lst .ro 5 (scsU l)),(8,.int .i64 ↑(List.length l)),(9,.int .i64 ↑i),(18,U.bool !Bool.true),(20,U.agg [.int .i64 (loB 2),.int .i64 (hiB 2)]),(21,U.box (List.length Y) 1)] [] (Y++[SB.box [.int .i64 (Sc.part x),.int .i64 (Sc.wt x),.int .i64 (Sc.lo x),.int .i64 (Sc.hi x),U.bool (Sc.must x)]]) (.c4 rfl rfl rfl rfl (.c4 rfl rfl rfl rfl (.nil rfl))) rfl rfl fun fr=>?_
      refine zE rfl rfl (zc _ _) sh3 rfl ?_
      refine o_gD rfl rfl rfl rfl rfl (zN rfl (q2) (.lrefl _) (o_gD rfl rfl rfl rfl rfl (yB rfl rfl (zL rfl rfl rfl ?_))))
      refine zB rfl (o_gD rfl rfl rfl rfl rfl (zD rfl rfl zAA (o_gD rfl rfl rfl rfl rfl (zD rfl rfl zAC (o_gD rfl rfl rfl rfl rfl (zE rfl rfl (zc _ _) sh3 rfl ?_))))))
      refine o_gD rfl rfl rfl rfl rfl (zD rfl rfl zAA ?_)
      refine zM [(3,U.box 0 0),(5,U.box (List.length Y) 0),(7,.lst .ro 5 (scsU l)),(8,.int .i64 ↑(List.length l)),(9,.int .i64 ↑i),(20,U.agg [.int .i64 (loB 2),.int .i64 (hiB 2)]),(21,U.box (List.length Y) 1),(22,.int .i64 (Sc.wt x)),(23,.bool true),(24,U.bool !Bool.true),(26,U.bool !Bool.true),(27,U.box (List.length Y) 2),(28,U.box (List.length Y) 2),(29,.int .i64 (Sc.lo x)),(30,U.box (List.length Y) 2)] [] (Y++[SB.box [.int .i64 (Sc.part x),.int .i64 (Sc.wt x),.int .i64 (Sc.lo x),.int .i64 (Sc.hi x),U.bool (Sc.must x)]]) (.c4 rfl rfl rfl rfl (.c4 rfl rfl rfl rfl (.c4 rfl rfl rfl rfl (.cons rfl (.cons rfl (.cons rfl (.nil rfl))))))) rfl rfl fun fr=>?_
      refine o_gD rfl rfl rfl rfl rfl ?_
      refine zM [(3,U.box 0 0),(5,U.box (List.length Y) 0),(7,.lst .ro 5 (scsU l)),(8,.int .i64 ↑(List.length l)),(9,.int .i64 ↑i),(20,U.agg [.int .i64 (loB 2),.int .i64 (hiB 2)]),(21,U.box (List.length Y) 1),(22,.int .i64 (Sc.wt x)),(23,.bool true),(24,U.bool !Bool.true),(26,U.bool !Bool.true),(27,U.box (List.length Y) 2),(28,U.box (List.length Y) 2),(29,.int .i64 (Sc.lo x)),(30,U.box (List.length Y) 2)] [] (Y++[SB.box [.int .i64 (Sc.part x),.int .i64 (Sc.wt x),.int .i64 (Sc.lo x),.int .i64 (Sc.hi x),U.bool (Sc.must x)]]) (.c4 rfl rfl rfl rfl (.c4 rfl rfl rfl rfl (.c4 rfl rfl rfl rfl (.cons rfl (.cons rfl (.cons rfl (.nil rfl))))))) rfl rfl fun fr=>?_
      refine zD rfl rfl zBW (o_gD rfl rfl rfl rfl rfl (zE rfl rfl (zc _ _) sh3 rfl ?_))
      refine o_gD rfl rfl rfl rfl rfl (zEq rfl rfl rfl (zL rfl rfl rfl ?_))
      refine zB rfl (o_gD rfl rfl rfl rfl (decide_eq_false (by omega)) (yU (i:=3) (c:=2) (n:=9) sh48 rfl rfl rfl (decide_eq_false (by omega)) rfl rfl zBE cl48 rfl rfl rfl (gatB 3 (by decide)) rfl ?_))
      refine o_gD rfl rfl rfl rfl (decide_eq_false (by omega)) (zD rfl rfl zAA (o_gD rfl rfl rfl rfl (decide_eq_false (by omega)) (zD rfl rfl zAC ?_)))
      refine zM [(3,U.box 0 0),(5,U.box (List.length Y) 0),(7,.lst .ro 5 (scsU l)),(8,.int .i64 ↑(List.length l)),(9,.int .i64 ↑i),(20,U.agg [.int .i64 (loB 2),.int .i64 (hiB 2)]),(21,U.box (List.length Y) 1),(22,.int .i64 (Sc.wt x)),(23,.bool true),(24,U.bool !Bool.true),(27,U.box (List.length Y) 2),(28,U.box (List.length Y) 2),(29,.int .i64 (Sc.lo x)),(30,U.box (List.length Y) 2),(31,U.box (List.length Y) 3),(32,.int .i64 (Sc.hi x)),(33,U.bool (decide (Sc.hi x<Sc.lo x))),(35,U.bool (decide (Sc.hi x<Sc.lo x))),(37,U.agg [.int .i64 (loB 3),.int .i64 (hiB 3)]),(38,U.box (List.length Y) 2),(39,U.box (List.length Y) 2)] [] (Y++[SB.box [.int .i64 (Sc.part x),.int .i64 (Sc.wt x),.int .i64 (Sc.lo x),.int .i64 (Sc.hi x),U.bool (Sc.must x)]]) (.c4 rfl rfl rfl rfl (.c4 rfl rfl rfl rfl (.c4 rfl rfl rfl rfl (.c4 rfl rfl rfl rfl (.c4 rfl rfl rfl rfl (.cons rfl (.nil rfl))))))) rfl rfl fun fr=>?_
      refine o_gD rfl rfl rfl rfl (decide_eq_false (by omega)) ?_
      refine zM [(3,U.box 0 0),(5,U.box (List.length Y) 0),(7,.lst .ro 5 (scsU l)),(8,.int .i64 ↑(List.length l)),(9,.int .i64 ↑i),(20,U.agg [.int .i64 (loB 2),.int .i64 (hiB 2)]),(21,U.box (List.length Y) 1),(22,.int .i64 (Sc.wt x)),(23,.bool true),(24,U.bool !Bool.true),(27,U.box (List.length Y) 2),(28,U.box (List.length Y) 2),(29,.int .i64 (Sc.lo x)),(30,U.box (List.length Y) 2),(31,U.box (List.length Y) 3),(32,.int .i64 (Sc.hi x)),(33,U.bool (decide (Sc.hi x<Sc.lo x))),(35,U.bool (decide (Sc.hi x<Sc.lo x))),(37,U.agg [.int .i64 (loB 3),.int .i64 (hiB 3)]),(38,U.box (List.length Y) 2),(39,U.box (List.length Y) 2)] [] (Y++[SB.box [.int .i64 (Sc.part x),.int .i64 (Sc.wt x),.int .i64 (Sc.lo x),.int .i64 (Sc.hi x),U.bool (Sc.must x)]]) (.c4 rfl rfl rfl rfl (.c4 rfl rfl rfl rfl (.c4 rfl rfl rfl rfl (.c4 rfl rfl rfl rfl (.c4 rfl rfl rfl rfl (.cons rfl (.nil rfl))))))) rfl rfl fun fr=>?_
      refine zE rfl rfl (zc _ _) sh3 rfl ?_
      refine o_gD rfl rfl rfl rfl (decide_eq_false (by omega)) (zD rfl rfl zAA (o_gD rfl rfl rfl rfl (decide_eq_false (by omega)) (zD rfl rfl zBW (o_gD rfl rfl rfl rfl (decide_eq_false (by omega)) (zE rfl rfl (zc _ _) sh3 rfl ?_)))))
      refine o_gD rfl rfl rfl rfl (decide_eq_false (by omega)) (zDE (es:=[.int .i64 (Sc.lo x),.int .i64 (Sc.hi x)]) rfl ty22 ze3 cl3 rfl rfl rfl rfl rfl rfl rfl rfl ?_)
      refine o_gD rfl rfl rfl rfl (decide_eq_false (by omega)) (zN rfl (q4) (.lcons _ _ _ _ (.refl _) (.lcons _ _ _ _ (.ro _ _ _) (.lrefl _))) ?_)
      refine o_gD rfl rfl rfl rfl (decide_eq_false (by omega)) (yB rfl rfl (zL rfl rfl (decide_eq_false (by omega)) ?_))
      refine zC ?_
      refine zK [(3,U.box 0 0),(5,U.box (List.length Y) 0),(7,.lst .ro 5 (scsU l)),(8,.int .i64 ↑(List.length l)),(9,.int .i64 ↑i),(20,U.agg [.int .i64 (loB 2),.int .i64 (hiB 2)]),(21,U.box (List.length Y) 1),(22,.int .i64 (Sc.wt x)),(23,.bool true),(24,U.bool !Bool.true),(27,U.box (List.length Y) 2),(28,U.box (List.length Y) 2),(29,.int .i64 (Sc.lo x)),(30,U.box (List.length Y) 2),(31,U.box (List.length Y) 3),(32,.int .i64 (Sc.hi x)),(33,U.bool (decide (Sc.hi x<Sc.lo x))),(37,U.agg [.int .i64 (loB 3),.int .i64 (hiB 3)]),(38,U.box (List.length Y) 2),(39,U.box (List.length Y) 2),(40,.int .i64 (Sc.lo x)),(41,U.box (List.length Y) 2),(42,U.box (List.length Y) 3),(43,.int .i64 (Sc.hi x)),(44,.lst .full 1 [.int .i64 (Sc.lo x),.int .i64 (Sc.hi x)]),(45,.bool true),(46,U.bool !Bool.true),(47,U.bool !Bool.true)] (Y++[SB.box [.int .i64 (Sc.part x),.int .i64 (Sc.wt x),.int .i64 (Sc.lo x),.int .i64 (Sc.hi x),U.bool (Sc.must x)]]) (.c4 rfl rfl rfl rfl (.c4 rfl rfl rfl rfl (.c4 rfl rfl rfl rfl (.c4 rfl rfl rfl rfl (.c4 rfl rfl rfl rfl (.c4 rfl rfl rfl rfl (.c4 rfl rfl rfl rfl (.nil rfl)))))))) rfl fun fr=>?_
      refine k_cF rfl rfl ?_
      refine zU (k_region (zD rfl rfl zAB (zE rfl rfl (zc _ _) sh3 rfl ?_)))
      refine zD rfl rfl zAC (wB rfl (yP y0) sh3 rfl rfl ?_)
      refine zC ?_
      refine zK [(3,U.box 0 0),(7,.lst .ro 5 (scsU l)),(8,.int .i64 ↑(List.length l)),(9,.int .i64 ↑i),(20,U.agg [.int .i64 (loB 2),.int .i64 (hiB 2)]),(21,U.box (List.length Y) 1),(22,.int .i64 (Sc.wt x)),(23,.bool true),(24,U.bool !Bool.true),(27,U.box (List.length Y) 2),(28,U.box (List.length Y) 2),(29,.int .i64 (Sc.lo x)),(30,U.box (List.length Y) 2),(31,U.box (List.length Y) 3),(32,.int .i64 (Sc.hi x)),(33,U.bool (decide (Sc.hi x<Sc.lo x))),(37,U.agg [.int .i64 (loB 3),.int .i64 (hiB 3)]),(38,U.box (List.length Y) 2),(39,U.box (List.length Y) 2),(40,.int .i64 (Sc.lo x)),(41,U.box (List.length Y) 2),(42,U.box (List.length Y) 3),(43,.int .i64 (Sc.hi x)),(44,.lst .full 1 [.int .i64 (Sc.lo x),.int .i64 (Sc.hi x)]),(45,.bool true),(46,U.bool !Bool.true)] (List.set (Y++[SB.box [.int .i64 (Sc.part x),.int .i64 (Sc.wt x),.int .i64 (Sc.lo x),.int .i64 (Sc.hi x),U.bool (Sc.must x)]]) 0 (SB.box [.int .i64 (Sc.part x),.int .i64 2])) (.c4 rfl rfl rfl rfl (.c4 rfl rfl rfl rfl (.c4 rfl rfl rfl rfl (.c4 rfl rfl rfl rfl (.c4 rfl rfl rfl rfl (.c4 rfl rfl rfl rfl (.cons rfl (.cons rfl (.nil rfl))))))))) rfl fun fr=>?_
      refine k_region ?_
      refine yV rfl rfl rfl (by unfold I64;omega) (zB rfl (zC ?_))
      refine⟨kk - 1,by omega,i+1,e++[.box x.cs],by omega,by rw[hp2];exact hw,?_,.c4 rfl rfl rfl rfl (.nil rfl)⟩
      show(Y++[SB.box x.cs]).set 0 (SB.box [.int .i64 x.part,.int .i64 2])=_
      rw[hp2,←hY];rfl
    ·rw[decide_eq_false c3]at hw
     obtain rfl:z=false:=hw
     refine kQ (ze rfl rfl rfl (zC (k_seq (k_cT rfl (decide_eq_true (by omega)) (zU (k_seq (zQ (kQ ?_))))))))
     refine yG (u:=(x).u) rfl ty23 rfl rfl (Int.natCast_nonneg _) (by simp[hx]) cl50 ?_
     refine wT rfl rfl sh50 rfl ?_
     refine zu rfl ze50 ?_
     refine zd rfl (zc _ _) sh50 rfl rfl rfl rfl rfl ?_
     refine zC ?_
     refine zK [(3,U.box 0 0),(5,U.box (List.length Y) 0),(7,.lst .ro 5 (scsU l)),(8,.int .i64 ↑(List.length l)),(9,.int .i64 ↑i)] (Y++[SB.box [.int .i64 (Sc.part x),.int .i64 (Sc.wt x),.int .i64 (Sc.lo x),.int .i64 (Sc.hi x),U.bool (Sc.must x)]]) (.c4 rfl rfl rfl rfl (.cons rfl (.nil rfl))) (yW _ _ _) fun fr=>?_
     refine k_seq (kQ (zP rfl rfl (yP y0) sh48 rfl ?_))
     refine zD rfl rfl zAB (zE rfl rfl (zc _ _) sh3 rfl ?_)
     refine zN rfl (q1) (.lrefl _) (yB rfl rfl (zB rfl (o_gD rfl rfl rfl rfl rfl (yU (i:=2) (c:=2) (n:=9) sh48 rfl rfl rfl rfl rfl rfl zBE cl48 rfl rfl rfl (gatB 2 (by decide)) rfl ?_))))
     refine o_gD rfl rfl rfl rfl rfl (zD rfl rfl zCe ?_)
     refine zM [(3,U.box 0 0),(5,U.box (List.length Y) 0),(7,.lst .ro 5 (scsU l)),(8,.int .i64 ↑(List.length l)),(9,.int .i64 ↑i),(18,U.bool !Bool.true),(20,U.agg [.int .i64 (loB 2),.int .i64 (hiB 2)]),(21,U.box (List.length Y) 1)] [] (Y++[SB.box [.int .i64 (Sc.part x),.int .i64 (Sc.wt x),.int .i64 (Sc.lo x),.int .i64 (Sc.hi x),U.bool (Sc.must x)]]) (.c4 rfl rfl rfl rfl (.c4 rfl rfl rfl rfl (.nil rfl))) rfl rfl fun fr=>?_
     refine o_gD rfl rfl rfl rfl rfl ?_
     refine zM [(3,U.box 0 0),(5,U.box (List.length Y) 0),(7,.lst .ro 5 (scsU l)),(8,.int .i64 ↑(List.length l)),(9,.int .i64 ↑i),(18,U.bool !Bool.true),(20,U.agg [.int .i64 (loB 2),.int .i64 (hiB 2)]),(21,U.box (List.length Y) 1)] [] (Y++[SB.box [.int .i64 (Sc.part x),.int .i64 (Sc.wt x),.int .i64 (Sc.lo x),.int .i64 (Sc.hi x),U.bool (Sc.must x)]]) (.c4 rfl rfl rfl rfl (.c4 rfl rfl rfl rfl (.nil rfl))) rfl rfl fun fr=>?_
     refine zE rfl rfl (zc _ _) sh3 rfl ?_
     refine o_gD rfl rfl rfl rfl rfl (zN rfl (q2) (.lrefl _) (o_gD rfl rfl rfl rfl rfl (yB rfl rfl (zL rfl rfl rfl ?_))))
     refine zB rfl (o_gD rfl rfl rfl rfl rfl (zD rfl rfl zAA (o_gD rfl rfl rfl rfl rfl (zD rfl rfl zAC (o_gD rfl rfl rfl rfl rfl (zE rfl rfl (zc _ _) sh3 rfl ?_))))))
     refine o_gD rfl rfl rfl rfl rfl (zD rfl rfl zAA ?_)
     refine zM [(3,U.box 0 0),(5,U.box (List.length Y) 0),(7,.lst .ro 5 (scsU l)),(8,.int .i64 ↑(List.length l)),(9,.int .i64 ↑i),(20,U.agg [.int .i64 (loB 2),.int .i64 (hiB 2)]),(21,U.box (List.length Y) 1),(22,.int .i64 (Sc.wt x)),(23,.bool true),(24,U.bool !Bool.true),(26,U.bool !Bool.true),(27,U.box (List.length Y) 2),(28,U.box (List.length Y) 2),(29,.int .i64 (Sc.lo x)),(30,U.box (List.length Y) 2)] [] (Y++[SB.box [.int .i64 (Sc.part x),.int .i64 (Sc.wt x),.int .i64 (Sc.lo x),.int .i64 (Sc.hi x),U.bool (Sc.must x)]]) (.c4 rfl rfl rfl rfl (.c4 rfl rfl rfl rfl (.c4 rfl rfl rfl rfl (.cons rfl (.cons rfl (.cons rfl (.nil rfl))))))) rfl rfl fun fr=>?_
     refine o_gD rfl rfl rfl rfl rfl ?_
     refine zM [(3,U.box 0 0),(5,U.box (List.length Y) 0),(7,.lst .ro 5 (scsU l)),(8,.int .i64 ↑(List.length l)),(9,.int .i64 ↑i),(20,U.agg [.int .i64 (loB 2),.int .i64 (hiB 2)]),(21,U.box (List.length Y) 1),(22,.int .i64 (Sc.wt x)),(23,.bool true),(24,U.bool !Bool.true),(26,U.bool !Bool.true),(27,U.box (List.length Y) 2),(28,U.box (List.length Y) 2),(29,.int .i64 (Sc.lo x)),(30,U.box (List.length Y) 2)] [] (Y++[SB.box [.int .i64 (Sc.part x),.int .i64 (Sc.wt x),.int .i64 (Sc.lo x),.int .i64 (Sc.hi x),U.bool (Sc.must x)]]) (.c4 rfl rfl rfl rfl (.c4 rfl rfl rfl rfl (.c4 rfl rfl rfl rfl (.cons rfl (.cons rfl (.cons rfl (.nil rfl))))))) rfl rfl fun fr=>?_
     refine zD rfl rfl zBW (o_gD rfl rfl rfl rfl rfl (zE rfl rfl (zc _ _) sh3 rfl ?_))
     refine o_gD rfl rfl rfl rfl rfl (zEq rfl rfl rfl (zL rfl rfl rfl ?_))
     refine zB rfl (o_gS rfl rfl rfl rfl (decide_eq_true (by omega)) (o_gS rfl rfl rfl rfl (decide_eq_true (by omega)) (o_gS rfl rfl rfl rfl (decide_eq_true (by omega)) (o_gS rfl rfl rfl rfl (decide_eq_true (by omega)) ?_))))
     refine zM [(3,U.box 0 0),(5,U.box (List.length Y) 0),(7,.lst .ro 5 (scsU l)),(8,.int .i64 ↑(List.length l)),(9,.int .i64 ↑i),(20,U.agg [.int .i64 (loB 2),.int .i64 (hiB 2)]),(21,U.box (List.length Y) 1),(22,.int .i64 (Sc.wt x)),(23,.bool true),(24,U.bool !Bool.true),(27,U.box (List.length Y) 2),(28,U.box (List.length Y) 2),(29,.int .i64 (Sc.lo x)),(30,U.box (List.length Y) 2),(31,U.box (List.length Y) 3),(32,.int .i64 (Sc.hi x)),(33,U.bool (decide (Sc.hi x<Sc.lo x))),(35,U.bool (decide (Sc.hi x<Sc.lo x))),(36,U.tup []),(37,U.tup []),(38,U.tup []),(39,U.tup [])] [] (Y++[SB.box [.int .i64 (Sc.part x),.int .i64 (Sc.wt x),.int .i64 (Sc.lo x),.int .i64 (Sc.hi x),U.bool (Sc.must x)]]) (.c4 rfl rfl rfl rfl (.c4 rfl rfl rfl rfl (.c4 rfl rfl rfl rfl (.c4 rfl rfl rfl rfl (.c4 rfl rfl rfl rfl (.cons rfl (.cons rfl (.nil rfl)))))))) rfl rfl fun fr=>?_
     refine o_gS rfl rfl rfl rfl (decide_eq_true (by omega)) (o_gS rfl rfl rfl rfl (decide_eq_true (by omega)) (o_gS rfl rfl rfl rfl (decide_eq_true (by omega)) (o_gS rfl rfl rfl rfl (decide_eq_true (by omega)) (o_gS rfl rfl rfl rfl (decide_eq_true (by omega)) (o_gS rfl rfl rfl rfl (decide_eq_true (by omega)) (o_gS rfl rfl rfl rfl (decide_eq_true (by omega)) (zT rfl rfl (decide_eq_true (by omega)) ?_)))))))
     refine zC ?_
     refine zK [(3,U.box 0 0),(5,U.box (List.length Y) 0),(7,.lst .ro 5 (scsU l)),(8,.int .i64 ↑(List.length l)),(9,.int .i64 ↑i),(20,U.agg [.int .i64 (loB 2),.int .i64 (hiB 2)]),(21,U.box (List.length Y) 1),(22,.int .i64 (Sc.wt x)),(23,.bool true),(24,U.bool !Bool.true),(27,U.box (List.length Y) 2),(28,U.box (List.length Y) 2),(29,.int .i64 (Sc.lo x)),(30,U.box (List.length Y) 2),(31,U.box (List.length Y) 3),(32,.int .i64 (Sc.hi x)),(33,U.bool (decide (Sc.hi x<Sc.lo x))),(36,U.tup []),(37,U.tup []),(38,U.tup []),(39,U.tup []),(40,U.tup []),(41,U.tup []),(42,U.tup []),(43,U.tup []),(44,U.tup []),(45,U.tup []),(46,U.tup []),(47,.bool true)] (Y++[SB.box [.int .i64 (Sc.part x),.int .i64 (Sc.wt x),.int .i64 (Sc.lo x),.int .i64 (Sc.hi x),U.bool (Sc.must x)]]) (.c4 rfl rfl rfl rfl (.c4 rfl rfl rfl rfl (.c4 rfl rfl rfl rfl (.c4 rfl rfl rfl rfl (.c4 rfl rfl rfl rfl (.c4 rfl rfl rfl rfl (.c4 rfl rfl rfl rfl (.cons rfl (.nil rfl))))))))) rfl fun fr=>?_
     refine k_cT rfl rfl ?_
     refine kQ (zA rfl (zC (zZ ?_)))
     refine⟨.inr rfl,_,.cons _ _ _ _ (.tmp 2) .nil,?_⟩
     exact .refl _
 ·have hd:l.drop i=[]:=List.drop_eq_nil_of_le (by omega)
  rw[hd]at hw
  obtain rfl:z=true:=hw
  refine kQ (ze rfl rfl rfl (zC (k_seq (k_cF rfl (decide_eq_false (by omega)) (yf (kQ (zA rfl (zC ?_))))))))
  refine zZ ?_
  refine⟨.inr rfl,_,.cons _ _ _ _ (.tmp 2) .nil,?_⟩
  exact .refl _
def vlA(b:Bk):Bool:=decide (b.opens.length=3)&&(decide (b.ends.length=3)&&(inS 1 10 b.scenes.length&&(inS 0 8 b.loads.length&&inS 1 12 b.shares.length)))
def vlB(b:Bk):Bool:=inS 0 2000 b.bg&&(b.opens.all (inS 0 2000)&&(b.ends.all (inS 0 2000)&&(scsB 0 b.scenes&&([b.fee,b.cost,b.feast].all (inS 0 100000)&&(b.loads.all (inS 1 500)&&(inS 1 500 b.cart&&b.shares.all (inS 1 100)))))))
def zBF(b:Bk):Bool:=vlA b&&vlB b
set_option maxHeartbeats 16000000 in
theorem ret56(hi:Off is)(b:Bk):RetP Tryd.prog is orc 56 [b.u] (.bool (zBF b)):=by
 refine yC body56 pure56 (hi 56 (by decide)) rfl rfl (zAe (zAG b 4)) (.inl (.bool _ _)) ?_
 unfold zBF
 have q3:=ret80 (orc:=orc) hi 1 10 b.scenes.length
 have q4:=ret80 (orc:=orc) hi 0 8 b.loads.length
 have q5:=ret80 (orc:=orc) hi 1 12 b.shares.length
 have fals:∀z,vlA b=z→z=false→(z&&vlB b)=false:=fun z _ h=>by rw[h];rfl
 cases hA:vlA b with
 |false=>
  rw[Bool.false_and]
  unfold vlA at hA
  by_cases h1:b.opens.length=3
  ·by_cases h2:b.ends.length=3
   ·rw[decide_eq_true h1,decide_eq_true h2,Bool.true_and,Bool.true_and]at hA
    generalize inS 1 10 b.scenes.length=z3 at*
    generalize inS 0 8 b.loads.length=z4 at*
    generalize inS 1 12 b.shares.length=z5 at*
    cases z3 with
    |false=>
     refine kQ (yH rfl rfl (zA rfl (zC ?_)))
     refine zK [(1,U.box 0 0)] ([SB.box (Bk.cs b)]) (.cons rfl (.nil rfl)) rfl fun fr=>?_
     refine k_seq (kQ (zD rfl rfl zAh (zE rfl rfl rfl sh22 rfl (zp rfl ty22 rfl (List.length_map _) ?_))))
     refine wF rfl rfl rfl (zB rfl (o_gD rfl rfl rfl rfl (decide_eq_false (by omega)) (zD rfl rfl zBu (o_gD rfl rfl rfl rfl (decide_eq_false (by omega)) (zE rfl rfl rfl sh22 rfl (o_gD rfl rfl rfl rfl (decide_eq_false (by omega)) (zp rfl ty22 rfl (List.length_map _) ?_)))))))
     refine o_gD rfl rfl rfl rfl (decide_eq_false (by omega)) (wF rfl rfl rfl ?_)
     refine zM [(1,U.box 0 0),(7,U.bool (decide (↑(List.length (Bk.opens b))≠(3:Int)))),(11,U.bool (decide (↑(List.length (Bk.ends b))≠(3:Int))))] [] ([SB.box (Bk.cs b)]) (.cons rfl (.cons rfl (.cons rfl (.nil rfl)))) rfl rfl fun fr=>?_
     refine zL rfl rfl (decide_eq_false (by omega)) ?_
     refine zB rfl (o_gD rfl rfl rfl rfl (decide_eq_false (by omega)) (yU (i:=1) (c:=2) (n:=9) sh48 rfl rfl rfl (decide_eq_false (by omega)) rfl rfl zBE cl48 rfl rfl rfl (gatB 1 (by decide)) rfl ?_))
     refine o_gD rfl rfl rfl rfl (decide_eq_false (by omega)) (zD rfl rfl yd (o_gD rfl rfl rfl rfl (decide_eq_false (by omega)) (zE rfl rfl rfl sh23 rfl (o_gD rfl rfl rfl rfl (decide_eq_false (by omega)) (zp rfl ty23 rfl (List.length_map _) ?_)))))
     refine o_gD rfl rfl rfl rfl (decide_eq_false (by omega)) (zN rfl (q3) (.lrefl _) (o_gD rfl rfl rfl rfl (decide_eq_false (by omega)) (yB rfl rfl ?_)))
     refine zM [(1,U.box 0 0),(13,U.bool (decide (↑(List.length (Bk.ends b))≠(3:Int)))),(20,U.bool !Bool.false)] [] ([SB.box (Bk.cs b)]) (.cons rfl (.cons rfl (.cons rfl (.nil rfl)))) rfl rfl fun fr=>?_
     refine zL rfl rfl (decide_eq_false (by omega)) ?_
     refine zB rfl (o_gS rfl rfl rfl rfl rfl (o_gS rfl rfl rfl rfl rfl (o_gS rfl rfl rfl rfl rfl (o_gS rfl rfl rfl rfl rfl (o_gS rfl rfl rfl rfl rfl (o_gS rfl rfl rfl rfl rfl (o_gS rfl rfl rfl rfl rfl ?_)))))))
     refine zM [(1,U.box 0 0),(22,U.bool !Bool.false),(29,U.tup [])] [] ([SB.box (Bk.cs b)]) (.cons rfl (.cons rfl (.cons rfl (.nil rfl)))) rfl rfl fun fr=>?_
     refine zT rfl rfl rfl ?_
     refine zB rfl (o_gS rfl rfl rfl rfl rfl (o_gS rfl rfl rfl rfl rfl (o_gS rfl rfl rfl rfl rfl (o_gS rfl rfl rfl rfl rfl (o_gS rfl rfl rfl rfl rfl (o_gS rfl rfl rfl rfl rfl (o_gS rfl rfl rfl rfl rfl ?_)))))))
     refine zM [(1,U.box 0 0),(31,.bool true),(38,U.tup [])] [] ([SB.box (Bk.cs b)]) (.cons rfl (.cons rfl (.cons rfl (.nil rfl)))) rfl rfl fun fr=>?_
     refine zT rfl rfl rfl ?_
     refine zC ?_
     refine zK [(1,U.box 0 0),(39,.bool true)] ([SB.box (Bk.cs b)]) (.cons rfl (.cons rfl (.nil rfl))) rfl fun fr=>?_
     refine k_cT rfl rfl ?_
     refine kQ (zA rfl (zC (zZ ?_)))
     refine⟨.inr rfl,_,.cons _ _ _ _ (.tmp 2) .nil,?_⟩
     exact .refl _
    |true=>cases z4 with
     |false=>
      refine kQ (yH rfl rfl (zA rfl (zC ?_)))
      refine zK [(1,U.box 0 0)] ([SB.box (Bk.cs b)]) (.cons rfl (.nil rfl)) rfl fun fr=>?_
      refine k_seq (kQ (zD rfl rfl zAh (zE rfl rfl rfl sh22 rfl (zp rfl ty22 rfl (List.length_map _) ?_))))
      refine wF rfl rfl rfl (zB rfl (o_gD rfl rfl rfl rfl (decide_eq_false (by omega)) (zD rfl rfl zBu (o_gD rfl rfl rfl rfl (decide_eq_false (by omega)) (zE rfl rfl rfl sh22 rfl (o_gD rfl rfl rfl rfl (decide_eq_false (by omega)) (zp rfl ty22 rfl (List.length_map _) ?_)))))))
      refine o_gD rfl rfl rfl rfl (decide_eq_false (by omega)) (wF rfl rfl rfl ?_)
      refine zM [(1,U.box 0 0),(7,U.bool (decide (↑(List.length (Bk.opens b))≠(3:Int)))),(11,U.bool (decide (↑(List.length (Bk.ends b))≠(3:Int))))] [] ([SB.box (Bk.cs b)]) (.cons rfl (.cons rfl (.cons rfl (.nil rfl)))) rfl rfl fun fr=>?_
      refine zL rfl rfl (decide_eq_false (by omega)) ?_
      refine zB rfl (o_gD rfl rfl rfl rfl (decide_eq_false (by omega)) (yU (i:=1) (c:=2) (n:=9) sh48 rfl rfl rfl (decide_eq_false (by omega)) rfl rfl zBE cl48 rfl rfl rfl (gatB 1 (by decide)) rfl ?_))
      refine o_gD rfl rfl rfl rfl (decide_eq_false (by omega)) (zD rfl rfl yd (o_gD rfl rfl rfl rfl (decide_eq_false (by omega)) (zE rfl rfl rfl sh23 rfl (o_gD rfl rfl rfl rfl (decide_eq_false (by omega)) (zp rfl ty23 rfl (List.length_map _) ?_)))))
      refine o_gD rfl rfl rfl rfl (decide_eq_false (by omega)) (zN rfl (q3) (.lrefl _) (o_gD rfl rfl rfl rfl (decide_eq_false (by omega)) (yB rfl rfl ?_)))
      refine zM [(1,U.box 0 0),(13,U.bool (decide (↑(List.length (Bk.ends b))≠(3:Int)))),(20,U.bool !Bool.true)] [] ([SB.box (Bk.cs b)]) (.cons rfl (.cons rfl (.cons rfl (.nil rfl)))) rfl rfl fun fr=>?_
      refine zL rfl rfl (decide_eq_false (by omega)) ?_
      refine zB rfl (o_gD rfl rfl rfl rfl rfl (yU (i:=5) (c:=2) (n:=9) sh48 rfl rfl rfl rfl rfl rfl zBE cl48 rfl rfl rfl (gatB 5 (by decide)) rfl ?_))
      refine o_gD rfl rfl rfl rfl rfl (zD rfl rfl zCf (o_gD rfl rfl rfl rfl rfl (zE rfl rfl rfl sh22 rfl (o_gD rfl rfl rfl rfl rfl (zp rfl ty22 rfl (List.length_map _) ?_)))))
      refine o_gD rfl rfl rfl rfl rfl (zN rfl (q4) (.lrefl _) (o_gD rfl rfl rfl rfl rfl (yB rfl rfl ?_)))
      refine zM [(1,U.box 0 0),(22,U.bool !Bool.true),(29,U.bool !Bool.false)] [] ([SB.box (Bk.cs b)]) (.cons rfl (.cons rfl (.cons rfl (.nil rfl)))) rfl rfl fun fr=>?_
      refine zL rfl rfl rfl ?_
      refine zB rfl (o_gS rfl rfl rfl rfl rfl (o_gS rfl rfl rfl rfl rfl (o_gS rfl rfl rfl rfl rfl (o_gS rfl rfl rfl rfl rfl (o_gS rfl rfl rfl rfl rfl (o_gS rfl rfl rfl rfl rfl (o_gS rfl rfl rfl rfl rfl ?_)))))))
      refine zM [(1,U.box 0 0),(31,U.bool !Bool.false),(38,U.tup [])] [] ([SB.box (Bk.cs b)]) (.cons rfl (.cons rfl (.cons rfl (.nil rfl)))) rfl rfl fun fr=>?_
      refine zT rfl rfl rfl ?_
      refine zC ?_
      refine zK [(1,U.box 0 0),(39,.bool true)] ([SB.box (Bk.cs b)]) (.cons rfl (.cons rfl (.nil rfl))) rfl fun fr=>?_
      refine k_cT rfl rfl ?_
      refine kQ (zA rfl (zC (zZ ?_)))
      refine⟨.inr rfl,_,.cons _ _ _ _ (.tmp 2) .nil,?_⟩
      exact .refl _
     |true=>cases z5 with
      |false=>
       refine kQ (yH rfl rfl (zA rfl (zC ?_)))
       refine zK [(1,U.box 0 0)] ([SB.box (Bk.cs b)]) (.cons rfl (.nil rfl)) rfl fun fr=>?_
       refine k_seq (kQ (zD rfl rfl zAh (zE rfl rfl rfl sh22 rfl (zp rfl ty22 rfl (List.length_map _) ?_))))
       refine wF rfl rfl rfl (zB rfl (o_gD rfl rfl rfl rfl (decide_eq_false (by omega)) (zD rfl rfl zBu (o_gD rfl rfl rfl rfl (decide_eq_false (by omega)) (zE rfl rfl rfl sh22 rfl (o_gD rfl rfl rfl rfl (decide_eq_false (by omega)) (zp rfl ty22 rfl (List.length_map _) ?_)))))))
       refine o_gD rfl rfl rfl rfl (decide_eq_false (by omega)) (wF rfl rfl rfl ?_)
       refine zM [(1,U.box 0 0),(7,U.bool (decide (↑(List.length (Bk.opens b))≠(3:Int)))),(11,U.bool (decide (↑(List.length (Bk.ends b))≠(3:Int))))] [] ([SB.box (Bk.cs b)]) (.cons rfl (.cons rfl (.cons rfl (.nil rfl)))) rfl rfl fun fr=>?_
       refine zL rfl rfl (decide_eq_false (by omega)) ?_
       refine zB rfl (o_gD rfl rfl rfl rfl (decide_eq_false (by omega)) (yU (i:=1) (c:=2) (n:=9) sh48 rfl rfl rfl (decide_eq_false (by omega)) rfl rfl zBE cl48 rfl rfl rfl (gatB 1 (by decide)) rfl ?_))
       refine o_gD rfl rfl rfl rfl (decide_eq_false (by omega)) (zD rfl rfl yd (o_gD rfl rfl rfl rfl (decide_eq_false (by omega)) (zE rfl rfl rfl sh23 rfl (o_gD rfl rfl rfl rfl (decide_eq_false (by omega)) (zp rfl ty23 rfl (List.length_map _) ?_)))))
       refine o_gD rfl rfl rfl rfl (decide_eq_false (by omega)) (zN rfl (q3) (.lrefl _) (o_gD rfl rfl rfl rfl (decide_eq_false (by omega)) (yB rfl rfl ?_)))
       refine zM [(1,U.box 0 0),(13,U.bool (decide (↑(List.length (Bk.ends b))≠(3:Int)))),(20,U.bool !Bool.true)] [] ([SB.box (Bk.cs b)]) (.cons rfl (.cons rfl (.cons rfl (.nil rfl)))) rfl rfl fun fr=>?_
       refine zL rfl rfl (decide_eq_false (by omega)) ?_
       refine zB rfl (o_gD rfl rfl rfl rfl rfl (yU (i:=5) (c:=2) (n:=9) sh48 rfl rfl rfl rfl rfl rfl zBE cl48 rfl rfl rfl (gatB 5 (by decide)) rfl ?_))
       refine o_gD rfl rfl rfl rfl rfl (zD rfl rfl zCf (o_gD rfl rfl rfl rfl rfl (zE rfl rfl rfl sh22 rfl (o_gD rfl rfl rfl rfl rfl (zp rfl ty22 rfl (List.length_map _) ?_)))))
       refine o_gD rfl rfl rfl rfl rfl (zN rfl (q4) (.lrefl _) (o_gD rfl rfl rfl rfl rfl (yB rfl rfl ?_)))
       refine zM [(1,U.box 0 0),(22,U.bool !Bool.true),(29,U.bool !Bool.true)] [] ([SB.box (Bk.cs b)]) (.cons rfl (.cons rfl (.cons rfl (.nil rfl)))) rfl rfl fun fr=>?_
       refine zL rfl rfl rfl ?_
       refine zB rfl (o_gD rfl rfl rfl rfl rfl (yU (i:=7) (c:=2) (n:=9) sh48 rfl rfl rfl rfl rfl rfl zBE cl48 rfl rfl rfl (gatB 7 (by decide)) rfl ?_))
       refine o_gD rfl rfl rfl rfl rfl (zD rfl rfl zDY (o_gD rfl rfl rfl rfl rfl (zE rfl rfl rfl sh22 rfl (o_gD rfl rfl rfl rfl rfl (zp rfl ty22 rfl (List.length_map _) ?_)))))
       refine o_gD rfl rfl rfl rfl rfl (zN rfl (q5) (.lrefl _) (o_gD rfl rfl rfl rfl rfl (yB rfl rfl ?_)))
       refine zM [(1,U.box 0 0),(31,U.bool !Bool.true),(38,U.bool !Bool.false)] [] ([SB.box (Bk.cs b)]) (.cons rfl (.cons rfl (.cons rfl (.nil rfl)))) rfl rfl fun fr=>?_
       refine zL rfl rfl rfl ?_
       refine zC ?_
       refine zK [(1,U.box 0 0),(39,U.bool !Bool.false)] ([SB.box (Bk.cs b)]) (.cons rfl (.cons rfl (.nil rfl))) rfl fun fr=>?_
       refine k_cT rfl rfl ?_
       refine kQ (zA rfl (zC (zZ ?_)))
       refine⟨.inr rfl,_,.cons _ _ _ _ (.tmp 2) .nil,?_⟩
       exact .refl _
      |true=>cases hA
   ·refine kQ ?_
    refine yH rfl rfl (zA rfl (zC ?_))
    refine zK [(1,U.box 0 0)] ([SB.box (Bk.cs b)]) (.cons rfl (.nil rfl)) rfl fun fr=>?_
    refine k_seq (kQ (zD rfl rfl zAh (zE rfl rfl rfl sh22 rfl (zp rfl ty22 rfl (List.length_map _) ?_))))
    refine wF rfl rfl rfl (zB rfl (o_gD rfl rfl rfl rfl (decide_eq_false (by omega)) (zD rfl rfl zBu (o_gD rfl rfl rfl rfl (decide_eq_false (by omega)) (zE rfl rfl rfl sh22 rfl (o_gD rfl rfl rfl rfl (decide_eq_false (by omega)) (zp rfl ty22 rfl (List.length_map _) ?_)))))))
    refine o_gD rfl rfl rfl rfl (decide_eq_false (by omega)) (wF rfl rfl rfl ?_)
    refine zM [(1,U.box 0 0),(7,U.bool (decide (↑(List.length (Bk.opens b))≠(3:Int)))),(11,U.bool (decide (↑(List.length (Bk.ends b))≠(3:Int))))] [] ([SB.box (Bk.cs b)]) (.cons rfl (.cons rfl (.cons rfl (.nil rfl)))) rfl rfl fun fr=>?_
    refine zL rfl rfl (decide_eq_false (by omega)) ?_
    refine zB rfl (o_gS rfl rfl rfl rfl (decide_eq_true (by omega)) (o_gS rfl rfl rfl rfl (decide_eq_true (by omega)) (o_gS rfl rfl rfl rfl (decide_eq_true (by omega)) (o_gS rfl rfl rfl rfl (decide_eq_true (by omega)) (o_gS rfl rfl rfl rfl (decide_eq_true (by omega)) (o_gS rfl rfl rfl rfl (decide_eq_true (by omega)) (o_gS rfl rfl rfl rfl (decide_eq_true (by omega)) ?_)))))))
    refine zM [(1,U.box 0 0),(13,U.bool (decide (↑(List.length (Bk.ends b))≠(3:Int)))),(20,U.tup [])] [] ([SB.box (Bk.cs b)]) (.cons rfl (.cons rfl (.cons rfl (.nil rfl)))) rfl rfl fun fr=>?_
    refine zT rfl rfl (decide_eq_true (by omega)) ?_
    refine zB rfl (o_gS rfl rfl rfl rfl rfl (o_gS rfl rfl rfl rfl rfl (o_gS rfl rfl rfl rfl rfl (o_gS rfl rfl rfl rfl rfl (o_gS rfl rfl rfl rfl rfl (o_gS rfl rfl rfl rfl rfl (o_gS rfl rfl rfl rfl rfl ?_)))))))
    refine zM [(1,U.box 0 0),(22,.bool true),(29,U.tup [])] [] ([SB.box (Bk.cs b)]) (.cons rfl (.cons rfl (.cons rfl (.nil rfl)))) rfl rfl fun fr=>?_
    refine zT rfl rfl rfl ?_
    refine zB rfl (o_gS rfl rfl rfl rfl rfl (o_gS rfl rfl rfl rfl rfl (o_gS rfl rfl rfl rfl rfl (o_gS rfl rfl rfl rfl rfl (o_gS rfl rfl rfl rfl rfl (o_gS rfl rfl rfl rfl rfl (o_gS rfl rfl rfl rfl rfl ?_)))))))
    refine zM [(1,U.box 0 0),(31,.bool true),(38,U.tup [])] [] ([SB.box (Bk.cs b)]) (.cons rfl (.cons rfl (.cons rfl (.nil rfl)))) rfl rfl fun fr=>?_
    refine zT rfl rfl rfl ?_
    refine zC ?_
    refine zK [(1,U.box 0 0),(39,.bool true)] ([SB.box (Bk.cs b)]) (.cons rfl (.cons rfl (.nil rfl))) rfl fun fr=>?_
    refine k_cT rfl rfl ?_
    refine kQ (zA rfl (zC (zZ ?_)))
    refine⟨.inr rfl,_,.cons _ _ _ _ (.tmp 2) .nil,?_⟩
    exact .refl _
  ·refine kQ ?_
   refine yH rfl rfl (zA rfl (zC ?_))
   refine zK [(1,U.box 0 0)] ([SB.box (Bk.cs b)]) (.cons rfl (.nil rfl)) rfl fun fr=>?_
   refine k_seq (kQ (zD rfl rfl zAh (zE rfl rfl rfl sh22 rfl (zp rfl ty22 rfl (List.length_map _) ?_))))
   refine wF rfl rfl rfl (zB rfl (o_gS rfl rfl rfl rfl (decide_eq_true (by omega)) (o_gS rfl rfl rfl rfl (decide_eq_true (by omega)) (o_gS rfl rfl rfl rfl (decide_eq_true (by omega)) (o_gS rfl rfl rfl rfl (decide_eq_true (by omega)) ?_)))))
   refine zM [(1,U.box 0 0),(7,U.bool (decide (↑(List.length (Bk.opens b))≠(3:Int)))),(11,U.tup [])] [] ([SB.box (Bk.cs b)]) (.cons rfl (.cons rfl (.cons rfl (.nil rfl)))) rfl rfl fun fr=>?_
   refine zT rfl rfl (decide_eq_true (by omega)) ?_
   refine zB rfl (o_gS rfl rfl rfl rfl rfl (o_gS rfl rfl rfl rfl rfl (o_gS rfl rfl rfl rfl rfl (o_gS rfl rfl rfl rfl rfl (o_gS rfl rfl rfl rfl rfl (o_gS rfl rfl rfl rfl rfl (o_gS rfl rfl rfl rfl rfl ?_)))))))
   refine zM [(1,U.box 0 0),(13,.bool true),(20,U.tup [])] [] ([SB.box (Bk.cs b)]) (.cons rfl (.cons rfl (.cons rfl (.nil rfl)))) rfl rfl fun fr=>?_
   refine zT rfl rfl rfl ?_
   refine zB rfl (o_gS rfl rfl rfl rfl rfl (o_gS rfl rfl rfl rfl rfl (o_gS rfl rfl rfl rfl rfl (o_gS rfl rfl rfl rfl rfl (o_gS rfl rfl rfl rfl rfl (o_gS rfl rfl rfl rfl rfl (o_gS rfl rfl rfl rfl rfl ?_)))))))
   refine zM [(1,U.box 0 0),(22,.bool true),(29,U.tup [])] [] ([SB.box (Bk.cs b)]) (.cons rfl (.cons rfl (.cons rfl (.nil rfl)))) rfl rfl fun fr=>?_
   refine zT rfl rfl rfl ?_
   refine zB rfl (o_gS rfl rfl rfl rfl rfl (o_gS rfl rfl rfl rfl rfl (o_gS rfl rfl rfl rfl rfl (o_gS rfl rfl rfl rfl rfl (o_gS rfl rfl rfl rfl rfl (o_gS rfl rfl rfl rfl rfl (o_gS rfl rfl rfl rfl rfl ?_)))))))
   refine zM [(1,U.box 0 0),(31,.bool true),(38,U.tup [])] [] ([SB.box (Bk.cs b)]) (.cons rfl (.cons rfl (.cons rfl (.nil rfl)))) rfl rfl fun fr=>?_
   refine zT rfl rfl rfl ?_
   refine zC ?_
   refine zK [(1,U.box 0 0),(39,.bool true)] ([SB.box (Bk.cs b)]) (.cons rfl (.cons rfl (.nil rfl))) rfl fun fr=>?_
   refine k_cT rfl rfl ?_
   refine kQ (zA rfl (zC (zZ ?_)))
   refine⟨.inr rfl,_,.cons _ _ _ _ (.tmp 2) .nil,?_⟩
   exact .refl _
 |true=>
  rw[Bool.true_and]
  unfold vlA at hA
  simp only[Bool.and_eq_true,decide_eq_true_eq]at hA
  obtain⟨h1,h2,h3,h4,h5⟩:=hA
  rw[h3]at q3
  rw[h4]at q4
  rw[h5]at q5
  unfold inS at h3 h4 h5
  simp only[Bool.and_eq_true,decide_eq_true_eq]at h3 h4 h5
  refine kQ (yH rfl rfl (zA rfl (zC ?_)))
  refine zK [(1,U.box 0 0)] ([SB.box (Bk.cs b)]) (.cons rfl (.nil rfl)) rfl fun fr=>?_
  refine k_seq (kQ (zD rfl rfl zAh (zE rfl rfl rfl sh22 rfl (zp rfl ty22 rfl (List.length_map _) ?_))))
  refine wF rfl rfl rfl (zB rfl (o_gD rfl rfl rfl rfl (decide_eq_false (by omega)) (zD rfl rfl zBu (o_gD rfl rfl rfl rfl (decide_eq_false (by omega)) (zE rfl rfl rfl sh22 rfl (o_gD rfl rfl rfl rfl (decide_eq_false (by omega)) (zp rfl ty22 rfl (List.length_map _) ?_)))))))
  refine o_gD rfl rfl rfl rfl (decide_eq_false (by omega)) (wF rfl rfl rfl ?_)
  refine zM [(1,U.box 0 0),(7,U.bool (decide (↑(List.length (Bk.opens b))≠(3:Int)))),(11,U.bool (decide (↑(List.length (Bk.ends b))≠(3:Int))))] [] ([SB.box (Bk.cs b)]) (.cons rfl (.cons rfl (.cons rfl (.nil rfl)))) rfl rfl fun fr=>?_
  refine zL rfl rfl (decide_eq_false (by omega)) ?_
  refine zB rfl (o_gD rfl rfl rfl rfl (decide_eq_false (by omega)) (yU (i:=1) (c:=2) (n:=9) sh48 rfl rfl rfl (decide_eq_false (by omega)) rfl rfl zBE cl48 rfl rfl rfl (gatB 1 (by decide)) rfl ?_))
  refine o_gD rfl rfl rfl rfl (decide_eq_false (by omega)) (zD rfl rfl yd (o_gD rfl rfl rfl rfl (decide_eq_false (by omega)) (zE rfl rfl rfl sh23 rfl (o_gD rfl rfl rfl rfl (decide_eq_false (by omega)) (zp rfl ty23 rfl (List.length_map _) ?_)))))
  refine o_gD rfl rfl rfl rfl (decide_eq_false (by omega)) (zN rfl (q3) (.lrefl _) (o_gD rfl rfl rfl rfl (decide_eq_false (by omega)) (yB rfl rfl ?_)))
  refine zM [(1,U.box 0 0),(13,U.bool (decide (↑(List.length (Bk.ends b))≠(3:Int)))),(20,U.bool !Bool.true)] [] ([SB.box (Bk.cs b)]) (.cons rfl (.cons rfl (.cons rfl (.nil rfl)))) rfl rfl fun fr=>?_
  refine zL rfl rfl (decide_eq_false (by omega)) ?_
  refine zB rfl (o_gD rfl rfl rfl rfl rfl (yU (i:=5) (c:=2) (n:=9) sh48 rfl rfl rfl rfl rfl rfl zBE cl48 rfl rfl rfl (gatB 5 (by decide)) rfl ?_))
  refine o_gD rfl rfl rfl rfl rfl (zD rfl rfl zCf (o_gD rfl rfl rfl rfl rfl (zE rfl rfl rfl sh22 rfl (o_gD rfl rfl rfl rfl rfl (zp rfl ty22 rfl (List.length_map _) ?_)))))
  refine o_gD rfl rfl rfl rfl rfl (zN rfl (q4) (.lrefl _) (o_gD rfl rfl rfl rfl rfl (yB rfl rfl ?_)))
  refine zM [(1,U.box 0 0),(22,U.bool !Bool.true),(29,U.bool !Bool.true)] [] ([SB.box (Bk.cs b)]) (.cons rfl (.cons rfl (.cons rfl (.nil rfl)))) rfl rfl fun fr=>?_
  refine zL rfl rfl rfl ?_
  refine zB rfl (o_gD rfl rfl rfl rfl rfl (yU (i:=7) (c:=2) (n:=9) sh48 rfl rfl rfl rfl rfl rfl zBE cl48 rfl rfl rfl (gatB 7 (by decide)) rfl ?_))
  refine o_gD rfl rfl rfl rfl rfl (zD rfl rfl zDY (o_gD rfl rfl rfl rfl rfl (zE rfl rfl rfl sh22 rfl (o_gD rfl rfl rfl rfl rfl (zp rfl ty22 rfl (List.length_map _) ?_)))))
  refine o_gD rfl rfl rfl rfl rfl (zN rfl (q5) (.lrefl _) (o_gD rfl rfl rfl rfl rfl (yB rfl rfl ?_)))
  refine zM [(1,U.box 0 0),(31,U.bool !Bool.true),(38,U.bool !Bool.true)] [] ([SB.box (Bk.cs b)]) (.cons rfl (.cons rfl (.cons rfl (.nil rfl)))) rfl rfl fun fr=>?_
  refine zL rfl rfl rfl ?_
  refine zC ?_
  refine zK [(1,U.box 0 0),(39,U.bool !Bool.true)] ([SB.box (Bk.cs b)]) (.cons rfl (.cons rfl (.nil rfl))) rfl fun fr=>?_
  refine k_cF rfl rfl ?_
  refine zU ?_
  unfold vlB
  have c1:=ret80 (orc:=orc) hi 0 2000 b.bg
  have c2:=ret81 (orc:=orc) hi 0 2000 b.opens (by omega)
  have c3:=ret81 (orc:=orc) hi 0 2000 b.ends (by omega)
  have c4:=ret82 (orc:=orc) hi b.scenes (by omega)
  have c5:=ret81 (orc:=orc) hi 0 100000 [b.fee,b.cost,b.feast] (by simp)
  have c6:=ret81 (orc:=orc) hi 1 500 b.loads (by omega)
  have c7:=ret80 (orc:=orc) hi 1 500 b.cart
  have c8:=ret81 (orc:=orc) hi 1 100 b.shares (by omega)
  generalize inS 0 2000 b.bg=z1 at c1
  generalize b.opens.all (inS 0 2000)=z2 at c2
  generalize b.ends.all (inS 0 2000)=z3 at c3
  generalize scsB 0 b.scenes=z4 at c4
  generalize [b.fee,b.cost,b.feast].all (inS 0 100000)=z5 at c5
  generalize b.loads.all (inS 1 500)=z6 at c6
  generalize inS 1 500 b.cart=z7 at c7
  generalize b.shares.all (inS 1 100)=z8 at c8
  refine kQ (o_gpair (i:=0) (c:=2) (n:=9) sh48 rfl rfl zBE cl48 rfl rfl rfl (gatB 0 (by decide)) rfl ?_)
  refine zD rfl rfl zAD (zE rfl rfl rfl sh3 rfl (zN rfl (c1) (.lrefl _) (zB rfl ?_)))
  refine zBK rfl rfl rfl rfl (fun h45=>?_) (fun h45=>?_)
  ·refine yU (i:=0) (c:=2) (n:=9) sh48 rfl rfl rfl (by assumption) rfl rfl zBE cl48 rfl rfl rfl (gatB 0 (by decide)) rfl ?_
   refine o_gD rfl rfl rfl rfl (by assumption) (zD rfl rfl zAh ?_)
   refine zM [(1,U.box 0 0),(45,U.bool z1),(47,U.agg [.int .i64 (loB 0),.int .i64 (hiB 0)]),(48,U.box 0 1)] [] ([SB.box (Bk.cs b)]) (.c4 rfl rfl rfl rfl (.nil rfl)) rfl rfl fun fr=>?_
   refine o_gD rfl rfl rfl rfl (by assumption) ?_
   refine zM [(1,U.box 0 0),(45,U.bool z1),(47,U.agg [.int .i64 (loB 0),.int .i64 (hiB 0)]),(48,U.box 0 1)] [] ([SB.box (Bk.cs b)]) (.c4 rfl rfl rfl rfl (.nil rfl)) rfl rfl fun fr=>?_
   refine zE rfl rfl rfl sh22 rfl (o_gD rfl rfl rfl rfl (by assumption) (zN rfl (c2) (.lrefl _) (zT rfl rfl (by assumption) ?_)))
   refine zB rfl ?_
   refine zBK rfl rfl rfl rfl (fun h52=>?_) (fun h52=>?_)
   ·refine yU (i:=0) (c:=2) (n:=9) sh48 rfl rfl rfl (by assumption) rfl rfl zBE cl48 rfl rfl rfl (gatB 0 (by decide)) rfl ?_
    refine o_gD rfl rfl rfl rfl (by assumption) (zD rfl rfl zBu (o_gD rfl rfl rfl rfl (by assumption) (zE rfl rfl rfl sh22 rfl (o_gD rfl rfl rfl rfl (by assumption) (zN rfl (c3) (.lrefl _) ?_)))))
    refine zM [(1,U.box 0 0),(52,U.bool z2),(57,U.bool z3)] [] ([SB.box (Bk.cs b)]) (.cons rfl (.cons rfl (.cons rfl (.nil rfl)))) rfl rfl fun fr=>?_
    refine zT rfl rfl (by assumption) ?_
    refine zB rfl ?_
    refine zBK rfl rfl rfl rfl (fun h59=>?_) (fun h59=>?_)
    ·refine zD rfl rfl yd ?_
     refine o_gD rfl rfl rfl rfl (by assumption) (zE rfl rfl rfl sh23 rfl (o_gD rfl rfl rfl rfl (by assumption) (zN rfl (c4) (.lrefl _) (zT rfl rfl (by assumption) ?_))))
     refine zB rfl ?_
     refine zBK rfl rfl rfl rfl (fun h64=>?_) (fun h64=>?_)
     ·refine yU (i:=4) (c:=2) (n:=9) sh48 rfl rfl rfl (by assumption) rfl rfl zBE cl48 rfl rfl rfl (gatB 4 (by decide)) rfl ?_
      refine zM [(1,U.box 0 0),(64,U.bool z4),(66,U.agg [.int .i64 (loB 4),.int .i64 (hiB 4)])] [] ([SB.box (Bk.cs b)]) (.cons rfl (.cons rfl (.cons rfl (.nil rfl)))) rfl rfl fun fr=>?_
      refine o_gD rfl rfl rfl rfl (by assumption) ?_
      refine zM [(1,U.box 0 0),(64,U.bool z4),(66,U.agg [.int .i64 (loB 4),.int .i64 (hiB 4)])] [] ([SB.box (Bk.cs b)]) (.cons rfl (.cons rfl (.cons rfl (.nil rfl)))) rfl rfl fun fr=>?_
      refine zD rfl rfl fld25_4 (o_gD rfl rfl rfl rfl (by assumption) (zE rfl rfl rfl sh3 rfl (o_gD rfl rfl rfl rfl (by assumption) (zD rfl rfl fld25_7 (o_gD rfl rfl rfl rfl (by assumption) (zE rfl rfl rfl sh3 rfl (o_gD rfl rfl rfl rfl (by assumption) (zD rfl rfl fld25_8 ?_))))))))
      refine o_gD rfl rfl rfl rfl (by assumption) (zE rfl rfl rfl sh3 rfl (o_gD rfl rfl rfl rfl (by assumption) (zDE (es:=[.int .i64 (Bk.fee b),.int .i64 (Bk.cost b),.int .i64 (Bk.feast b)]) rfl ty22 ze3 cl3 rfl rfl rfl rfl rfl rfl rfl rfl ?_)))
      refine o_gD rfl rfl rfl rfl (by assumption) (zN rfl (c5) (.lcons _ _ _ _ (.refl _) (.lcons _ _ _ _ (.ro _ _ _) (.lrefl _))) ?_)
      refine zT rfl rfl (by assumption) ?_
      refine zM [(1,U.box 0 0),(75,U.bool z5)] [] ([SB.box (Bk.cs b)]) (.cons rfl (.cons rfl (.nil rfl))) rfl rfl fun fr=>?_
      refine zB rfl ?_
      refine zBK rfl rfl rfl rfl (fun h76=>?_) (fun h76=>?_)
      ·refine yU (i:=6) (c:=2) (n:=9) sh48 rfl rfl rfl (by assumption) rfl rfl zBE cl48 rfl rfl rfl (gatB 6 (by decide)) rfl ?_
       refine o_gD rfl rfl rfl rfl (by assumption) (zD rfl rfl zCf (o_gD rfl rfl rfl rfl (by assumption) (zE rfl rfl rfl sh22 rfl (o_gD rfl rfl rfl rfl (by assumption) (zN rfl (c6) (.lrefl _) (zT rfl rfl (by assumption) ?_))))))
       refine zB rfl ?_
       refine zBK rfl rfl rfl rfl (fun h83=>?_) (fun h83=>?_)
       ·refine yU (i:=6) (c:=2) (n:=9) sh48 rfl rfl rfl (by assumption) rfl rfl zBE cl48 rfl rfl rfl (gatB 6 (by decide)) rfl ?_
        refine o_gD rfl rfl rfl rfl (by assumption) (zD rfl rfl fld25_6 (o_gD rfl rfl rfl rfl (by assumption) (zE rfl rfl rfl sh3 rfl (o_gD rfl rfl rfl rfl (by assumption) (zN rfl (c7) (.lrefl _) (zT rfl rfl (by assumption) ?_))))))
        refine zB rfl ?_
        refine zBK rfl rfl rfl rfl (fun h90=>?_) (fun h90=>?_)
        ·refine yU (i:=8) (c:=2) (n:=9) sh48 rfl rfl rfl (by assumption) rfl rfl zBE cl48 rfl rfl rfl (gatB 8 (by decide)) rfl ?_
         refine o_gD rfl rfl rfl rfl (by assumption) (zD rfl rfl zDY ?_)
         refine zM [(90,U.bool z7),(92,U.agg [.int .i64 (loB 8),.int .i64 (hiB 8)]),(93,U.box 0 9)] [] ([SB.box (Bk.cs b)]) (.cons rfl (.cons rfl (.cons rfl (.nil rfl)))) rfl rfl fun fr=>?_
         refine o_gD rfl rfl rfl rfl (by assumption) ?_
         refine zM [(90,U.bool z7),(92,U.agg [.int .i64 (loB 8),.int .i64 (hiB 8)]),(93,U.box 0 9)] [] ([SB.box (Bk.cs b)]) (.cons rfl (.cons rfl (.cons rfl (.nil rfl)))) rfl rfl fun fr=>?_
         refine zE rfl rfl rfl sh22 rfl (o_gD rfl rfl rfl rfl (by assumption) (zN rfl (c8) (.lrefl _) (zT rfl rfl (by assumption) ?_)))
         refine zA rfl (zC (zZ ?_))
         refine⟨.inr rfl,_,.cons _ _ _ _ (.tmp 2) .nil,?_⟩
         subst_vars;exact .refl _
        ·refine o_gS rfl rfl rfl rfl (by assumption) ?_
         refine o_gS rfl rfl rfl rfl (by assumption) ?_
         refine zM [(90,U.bool z7),(92,U.tup []),(93,U.tup [])] [] ([SB.box (Bk.cs b)]) (.cons rfl (.cons rfl (.cons rfl (.nil rfl)))) rfl rfl fun fr=>?_
         refine o_gS rfl rfl rfl rfl (by assumption) (o_gS rfl rfl rfl rfl (by assumption) (zL rfl rfl (by assumption) ?_))
         refine zA rfl (zC (zZ ?_))
         refine⟨.inr rfl,_,.cons _ _ _ _ (.tmp 2) .nil,?_⟩
         subst_vars;exact .refl _
       ·refine zM [(1,U.box 0 0),(83,U.bool z6),(84,U.tup [])] [] ([SB.box (Bk.cs b)]) (.cons rfl (.cons rfl (.cons rfl (.nil rfl)))) rfl rfl fun fr=>?_
        refine o_gS rfl rfl rfl rfl (by assumption) (o_gS rfl rfl rfl rfl (by assumption) (o_gS rfl rfl rfl rfl (by assumption) (o_gS rfl rfl rfl rfl (by assumption) (zL rfl rfl (by assumption) ?_))))
        refine zB rfl (o_gS rfl rfl rfl rfl rfl (o_gS rfl rfl rfl rfl rfl (o_gS rfl rfl rfl rfl rfl ?_)))
        refine zM [(90,.bool false),(92,U.tup []),(93,U.tup [])] [] ([SB.box (Bk.cs b)]) (.cons rfl (.cons rfl (.cons rfl (.nil rfl)))) rfl rfl fun fr=>?_
        refine o_gS rfl rfl rfl rfl rfl (o_gS rfl rfl rfl rfl rfl (zL rfl rfl rfl ?_))
        refine zA rfl (zC (zZ ?_))
        refine⟨.inr rfl,_,.cons _ _ _ _ (.tmp 2) .nil,?_⟩
        subst_vars;exact .refl _
      ·refine o_gS rfl rfl rfl rfl (by assumption) ?_
       refine o_gS rfl rfl rfl rfl (by assumption) (o_gS rfl rfl rfl rfl (by assumption) (o_gS rfl rfl rfl rfl (by assumption) (zL rfl rfl (by assumption) ?_)))
       refine zB rfl (o_gS rfl rfl rfl rfl rfl ?_)
       refine zM [(1,U.box 0 0),(83,.bool false),(84,U.tup [])] [] ([SB.box (Bk.cs b)]) (.cons rfl (.cons rfl (.cons rfl (.nil rfl)))) rfl rfl fun fr=>?_
       refine o_gS rfl rfl rfl rfl rfl (o_gS rfl rfl rfl rfl rfl (o_gS rfl rfl rfl rfl rfl (o_gS rfl rfl rfl rfl rfl (zL rfl rfl rfl ?_))))
       refine zB rfl (o_gS rfl rfl rfl rfl rfl (o_gS rfl rfl rfl rfl rfl (o_gS rfl rfl rfl rfl rfl ?_)))
       refine zM [(90,.bool false),(92,U.tup []),(93,U.tup [])] [] ([SB.box (Bk.cs b)]) (.cons rfl (.cons rfl (.cons rfl (.nil rfl)))) rfl rfl fun fr=>?_
       refine o_gS rfl rfl rfl rfl rfl (o_gS rfl rfl rfl rfl rfl (zL rfl rfl rfl ?_))
       refine zA rfl (zC (zZ ?_))
       refine⟨.inr rfl,_,.cons _ _ _ _ (.tmp 2) .nil,?_⟩
       subst_vars;exact .refl _
     ·refine o_gS rfl rfl rfl rfl (by assumption) ?_
      refine zM [(1,U.box 0 0),(64,U.bool z4),(66,U.tup [])] [] ([SB.box (Bk.cs b)]) (.cons rfl (.cons rfl (.cons rfl (.nil rfl)))) rfl rfl fun fr=>?_
      refine o_gS rfl rfl rfl rfl (by assumption) (o_gS rfl rfl rfl rfl (by assumption) (o_gS rfl rfl rfl rfl (by assumption) (o_gS rfl rfl rfl rfl (by assumption) (o_gS rfl rfl rfl rfl (by assumption) (o_gS rfl rfl rfl rfl (by assumption) (o_gS rfl rfl rfl rfl (by assumption) (o_gS rfl rfl rfl rfl (by assumption) (zL rfl rfl (by assumption) ?_))))))))
      refine zM [(1,U.box 0 0),(75,.bool false)] [] ([SB.box (Bk.cs b)]) (.cons rfl (.cons rfl (.nil rfl))) rfl rfl fun fr=>?_
      refine zB rfl (o_gS rfl rfl rfl rfl rfl (o_gS rfl rfl rfl rfl rfl (o_gS rfl rfl rfl rfl rfl (o_gS rfl rfl rfl rfl rfl (o_gS rfl rfl rfl rfl rfl (zL rfl rfl rfl ?_))))))
      refine zB rfl (o_gS rfl rfl rfl rfl rfl ?_)
      refine zM [(1,U.box 0 0),(83,.bool false),(84,U.tup [])] [] ([SB.box (Bk.cs b)]) (.cons rfl (.cons rfl (.cons rfl (.nil rfl)))) rfl rfl fun fr=>?_
      refine o_gS rfl rfl rfl rfl rfl (o_gS rfl rfl rfl rfl rfl (o_gS rfl rfl rfl rfl rfl (o_gS rfl rfl rfl rfl rfl (zL rfl rfl rfl ?_))))
      refine zB rfl (o_gS rfl rfl rfl rfl rfl (o_gS rfl rfl rfl rfl rfl (o_gS rfl rfl rfl rfl rfl ?_)))
      refine zM [(90,.bool false),(92,U.tup []),(93,U.tup [])] [] ([SB.box (Bk.cs b)]) (.cons rfl (.cons rfl (.cons rfl (.nil rfl)))) rfl rfl fun fr=>?_
      refine o_gS rfl rfl rfl rfl rfl (o_gS rfl rfl rfl rfl rfl (zL rfl rfl rfl ?_))
      refine zA rfl (zC (zZ ?_))
      refine⟨.inr rfl,_,.cons _ _ _ _ (.tmp 2) .nil,?_⟩
      subst_vars;exact .refl _
    ·refine o_gS rfl rfl rfl rfl (by assumption) ?_
     refine o_gS rfl rfl rfl rfl (by assumption) (zL rfl rfl (by assumption) ?_)
     refine zB rfl (o_gS rfl rfl rfl rfl rfl (o_gS rfl rfl rfl rfl rfl ?_))
     refine zM [(1,U.box 0 0),(64,.bool false),(66,U.tup [])] [] ([SB.box (Bk.cs b)]) (.cons rfl (.cons rfl (.cons rfl (.nil rfl)))) rfl rfl fun fr=>?_
     refine o_gS rfl rfl rfl rfl rfl (o_gS rfl rfl rfl rfl rfl (o_gS rfl rfl rfl rfl rfl (o_gS rfl rfl rfl rfl rfl (o_gS rfl rfl rfl rfl rfl (o_gS rfl rfl rfl rfl rfl (o_gS rfl rfl rfl rfl rfl (o_gS rfl rfl rfl rfl rfl (zL rfl rfl rfl ?_))))))))
     refine zM [(1,U.box 0 0),(75,.bool false)] [] ([SB.box (Bk.cs b)]) (.cons rfl (.cons rfl (.nil rfl))) rfl rfl fun fr=>?_
     refine zB rfl (o_gS rfl rfl rfl rfl rfl (o_gS rfl rfl rfl rfl rfl (o_gS rfl rfl rfl rfl rfl (o_gS rfl rfl rfl rfl rfl (o_gS rfl rfl rfl rfl rfl (zL rfl rfl rfl ?_))))))
     refine zB rfl (o_gS rfl rfl rfl rfl rfl ?_)
     refine zM [(1,U.box 0 0),(83,.bool false),(84,U.tup [])] [] ([SB.box (Bk.cs b)]) (.cons rfl (.cons rfl (.cons rfl (.nil rfl)))) rfl rfl fun fr=>?_
     refine o_gS rfl rfl rfl rfl rfl (o_gS rfl rfl rfl rfl rfl (o_gS rfl rfl rfl rfl rfl (o_gS rfl rfl rfl rfl rfl (zL rfl rfl rfl ?_))))
     refine zB rfl (o_gS rfl rfl rfl rfl rfl (o_gS rfl rfl rfl rfl rfl (o_gS rfl rfl rfl rfl rfl ?_)))
     refine zM [(90,.bool false),(92,U.tup []),(93,U.tup [])] [] ([SB.box (Bk.cs b)]) (.cons rfl (.cons rfl (.cons rfl (.nil rfl)))) rfl rfl fun fr=>?_
     refine o_gS rfl rfl rfl rfl rfl (o_gS rfl rfl rfl rfl rfl (zL rfl rfl rfl ?_))
     refine zA rfl (zC (zZ ?_))
     refine⟨.inr rfl,_,.cons _ _ _ _ (.tmp 2) .nil,?_⟩
     subst_vars;exact .refl _
   ·refine o_gS rfl rfl rfl rfl (by assumption) ?_
    refine o_gS rfl rfl rfl rfl (by assumption) (o_gS rfl rfl rfl rfl (by assumption) (o_gS rfl rfl rfl rfl (by assumption) ?_))
    refine zM [(1,U.box 0 0),(52,U.bool z2),(57,U.tup [])] [] ([SB.box (Bk.cs b)]) (.cons rfl (.cons rfl (.cons rfl (.nil rfl)))) rfl rfl fun fr=>?_
    refine zL rfl rfl (by assumption) ?_
    refine zB rfl (o_gS rfl rfl rfl rfl rfl (o_gS rfl rfl rfl rfl rfl (o_gS rfl rfl rfl rfl rfl (zL rfl rfl rfl ?_))))
    refine zB rfl (o_gS rfl rfl rfl rfl rfl (o_gS rfl rfl rfl rfl rfl ?_))
    refine zM [(1,U.box 0 0),(64,.bool false),(66,U.tup [])] [] ([SB.box (Bk.cs b)]) (.cons rfl (.cons rfl (.cons rfl (.nil rfl)))) rfl rfl fun fr=>?_
    refine o_gS rfl rfl rfl rfl rfl (o_gS rfl rfl rfl rfl rfl (o_gS rfl rfl rfl rfl rfl (o_gS rfl rfl rfl rfl rfl (o_gS rfl rfl rfl rfl rfl (o_gS rfl rfl rfl rfl rfl (o_gS rfl rfl rfl rfl rfl (o_gS rfl rfl rfl rfl rfl (zL rfl rfl rfl ?_))))))))
    refine zM [(1,U.box 0 0),(75,.bool false)] [] ([SB.box (Bk.cs b)]) (.cons rfl (.cons rfl (.nil rfl))) rfl rfl fun fr=>?_
    refine zB rfl (o_gS rfl rfl rfl rfl rfl (o_gS rfl rfl rfl rfl rfl (o_gS rfl rfl rfl rfl rfl (o_gS rfl rfl rfl rfl rfl (o_gS rfl rfl rfl rfl rfl (zL rfl rfl rfl ?_))))))
    refine zB rfl (o_gS rfl rfl rfl rfl rfl ?_)
    refine zM [(1,U.box 0 0),(83,.bool false),(84,U.tup [])] [] ([SB.box (Bk.cs b)]) (.cons rfl (.cons rfl (.cons rfl (.nil rfl)))) rfl rfl fun fr=>?_
    refine o_gS rfl rfl rfl rfl rfl (o_gS rfl rfl rfl rfl rfl (o_gS rfl rfl rfl rfl rfl (o_gS rfl rfl rfl rfl rfl (zL rfl rfl rfl ?_))))
    refine zB rfl (o_gS rfl rfl rfl rfl rfl (o_gS rfl rfl rfl rfl rfl (o_gS rfl rfl rfl rfl rfl ?_)))
    refine zM [(90,.bool false),(92,U.tup []),(93,U.tup [])] [] ([SB.box (Bk.cs b)]) (.cons rfl (.cons rfl (.cons rfl (.nil rfl)))) rfl rfl fun fr=>?_
    refine o_gS rfl rfl rfl rfl rfl (o_gS rfl rfl rfl rfl rfl (zL rfl rfl rfl ?_))
    refine zA rfl (zC (zZ ?_))
    refine⟨.inr rfl,_,.cons _ _ _ _ (.tmp 2) .nil,?_⟩
    subst_vars;exact .refl _
  ·refine o_gS rfl rfl rfl rfl (by assumption) ?_
   refine o_gS rfl rfl rfl rfl (by assumption) ?_
   refine zM [(1,U.box 0 0),(45,U.bool z1),(47,U.tup []),(48,U.tup [])] [] ([SB.box (Bk.cs b)]) (.c4 rfl rfl rfl rfl (.nil rfl)) rfl rfl fun fr=>?_
   refine o_gS rfl rfl rfl rfl (by assumption) (o_gS rfl rfl rfl rfl (by assumption) (zL rfl rfl (by assumption) ?_))
   refine zB rfl (o_gS rfl rfl rfl rfl rfl (o_gS rfl rfl rfl rfl rfl (o_gS rfl rfl rfl rfl rfl (o_gS rfl rfl rfl rfl rfl (o_gS rfl rfl rfl rfl rfl ?_)))))
   refine zM [(1,U.box 0 0),(52,.bool false),(57,U.tup [])] [] ([SB.box (Bk.cs b)]) (.cons rfl (.cons rfl (.cons rfl (.nil rfl)))) rfl rfl fun fr=>?_
   refine zL rfl rfl rfl ?_
   refine zB rfl (o_gS rfl rfl rfl rfl rfl (o_gS rfl rfl rfl rfl rfl (o_gS rfl rfl rfl rfl rfl (zL rfl rfl rfl ?_))))
   refine zB rfl (o_gS rfl rfl rfl rfl rfl (o_gS rfl rfl rfl rfl rfl ?_))
   refine zM [(1,U.box 0 0),(64,.bool false),(66,U.tup [])] [] ([SB.box (Bk.cs b)]) (.cons rfl (.cons rfl (.cons rfl (.nil rfl)))) rfl rfl fun fr=>?_
   refine o_gS rfl rfl rfl rfl rfl (o_gS rfl rfl rfl rfl rfl (o_gS rfl rfl rfl rfl rfl (o_gS rfl rfl rfl rfl rfl (o_gS rfl rfl rfl rfl rfl (o_gS rfl rfl rfl rfl rfl (o_gS rfl rfl rfl rfl rfl (o_gS rfl rfl rfl rfl rfl (zL rfl rfl rfl ?_))))))))
   refine zM [(1,U.box 0 0),(75,.bool false)] [] ([SB.box (Bk.cs b)]) (.cons rfl (.cons rfl (.nil rfl))) rfl rfl fun fr=>?_
   refine zB rfl (o_gS rfl rfl rfl rfl rfl (o_gS rfl rfl rfl rfl rfl (o_gS rfl rfl rfl rfl rfl (o_gS rfl rfl rfl rfl rfl (o_gS rfl rfl rfl rfl rfl (zL rfl rfl rfl ?_))))))
   refine zB rfl (o_gS rfl rfl rfl rfl rfl ?_)
   refine zM [(1,U.box 0 0),(83,.bool false),(84,U.tup [])] [] ([SB.box (Bk.cs b)]) (.cons rfl (.cons rfl (.cons rfl (.nil rfl)))) rfl rfl fun fr=>?_
   refine o_gS rfl rfl rfl rfl rfl (o_gS rfl rfl rfl rfl rfl (o_gS rfl rfl rfl rfl rfl (o_gS rfl rfl rfl rfl rfl (zL rfl rfl rfl ?_))))
   refine zB rfl (o_gS rfl rfl rfl rfl rfl (o_gS rfl rfl rfl rfl rfl (o_gS rfl rfl rfl rfl rfl ?_)))
   refine zM [(90,.bool false),(92,U.tup []),(93,U.tup [])] [] ([SB.box (Bk.cs b)]) (.cons rfl (.cons rfl (.cons rfl (.nil rfl)))) rfl rfl fun fr=>?_
   refine o_gS rfl rfl rfl rfl rfl (o_gS rfl rfl rfl rfl rfl (zL rfl rfl rfl ?_))
   refine zA rfl (zC (zZ ?_))
   refine⟨.inr rfl,_,.cons _ _ _ _ (.tmp 2) .nil,?_⟩
   subst_vars;exact .refl _
theorem ret17(hi:Off is)(b:Bk):RetP Tryd.prog is orc 17 [b.u] (.int .i64 (if zBF b=true then 0 else 100)):=by
 have q56:=ret56 (orc:=orc) hi b
 refine yC body17 pure17 (hi 17 (by decide)) rfl rfl (zAe (zAG b 4)) (.inl (.int _ _ _)) ?_
 cases hv:zBF b with
 |true=>
  rw[hv]at q56
  rw[if_pos rfl]
  refine kQ (yH rfl rfl (zA rfl (zC ?_)))
  refine zK [(1,U.box 0 0)] ([SB.box (Bk.cs b)]) (.cons rfl (.nil rfl)) rfl fun fr=>?_
  refine k_seq (kQ (zP rfl rfl rfl sh25 rfl (zN rfl (q56) (.lrefl _) (yB rfl rfl (zC (k_cF rfl rfl ?_))))))
  refine zU (kQ (zA rfl (zC (zZ ?_))))
  refine⟨.inr rfl,_,.cons _ _ _ _ (.tmp 2) .nil,?_⟩
  exact .refl _
 |false=>
  rw[hv]at q56
  rw[if_neg (by decide)]
  refine kQ (yH rfl rfl (zA rfl (zC ?_)))
  refine zK [(1,U.box 0 0)] ([SB.box (Bk.cs b)]) (.cons rfl (.nil rfl)) rfl fun fr=>?_
  refine k_seq (kQ (zP rfl rfl rfl sh25 rfl (zN rfl (q56) (.lrefl _) (yB rfl rfl (zC (k_cT rfl rfl ?_))))))
  refine kQ (zA rfl (zC (zZ ?_)))
  refine⟨.inr rfl,_,.cons _ _ _ _ (.tmp 2) .nil,?_⟩
  exact .refl _
end Go.Proofs.YtlknfhjfkcboiaaDoor.night
