import Derived.Test.YtfbmlibilcjlgaaDoorVamT13
set_option linter.unusedVariables false
set_option linter.unusedSimpArgs false
set_option linter.constructorNameAsVariable false
namespace Go.Proofs.YtfbmlibilcjlgaaDoor.drumGong
open Vam
section
variable {is:FuncId→Bool}{orc:Known}
noncomputable def b87:Code:=(Tryd.f87.body).getD .skip
theorem body87:bodyOf Tryd.prog 87=some (8,b87,[.tmp 2]):=by kernel_rfl
theorem pure87:pureFn Tryd.prog 87=true:=by kernel_rfl
noncomputable def b39:Code:=(Tryd.f39.body).getD .skip
theorem body39:bodyOf Tryd.prog 39=some (50,b39,[.tmp 4]):=by kernel_rfl
theorem pure39:pureFn Tryd.prog 39=true:=by kernel_rfl
noncomputable def b7:Code:=(Tryd.f7.body).getD .skip
theorem body7:bodyOf Tryd.prog 7=some (163,b7,[.tmp 4]):=by kernel_rfl
theorem pure7:pureFn Tryd.prog 7=true:=by kernel_rfl
theorem ret87(hi:Off is)(n:Int)(hn: -100≤n∧n≤100):RetP Tryd.prog is orc 87 [.int .i64 n] (.int .i64 (max n (-n))):=by
 refine zw body87 pure87 (hi 87 (by decide)) rfl rfl (wq (.int _ _ _)) (.inl (.int _ _ _)) ?_
 by_cases h:n<0
 ·rw[show max n (-n)= -n by omega]
  refine kQ (zC rfl (zA (k_seq (kQ (zB rfl (zt rfl rfl rfl (zA (k_cT rfl (decide_eq_true (by omega)) ?_))))))))
  refine kQ (zB rfl ?_)
  refine o_neg rfl rfl (by unfold I64;omega) ?_
  refine zC rfl (zA (zZ ?_))
  refine⟨.inr rfl,_,.cons _ _ _ _ (.tmp 2) .nil,?_⟩
  exact .refl _
 ·rw[show max n (-n)=n by omega]
  refine kQ (zC rfl (zA (k_seq (kQ (zB rfl (zt rfl rfl rfl (zA (k_cF rfl (decide_eq_false (by omega)) ?_))))))))
  refine zR (kQ (zB rfl (zC rfl (zA (zZ ?_)))))
  refine⟨.inr rfl,_,.cons _ _ _ _ (.tmp 2) .nil,?_⟩
  exact .refl _
set_option maxHeartbeats 8000000 in
theorem ret39(hi:Off is){b:Bk}{L:List Int}(hb:BOk b)(h:POk b L):RetP Tryd.prog is orc 39 [b.u,.lst .ro 1 (zE L)] (.bool true):=by
 refine zw body39 pure39 (hi 39 (by decide)) rfl rfl (yV (yT b 4) (zh 6 .ro (fun h=>by cases h) 1 L)) (.inl (.bool _ _)) ?_
 have hp:=hb.pa
 have hlen:=h.len
 have h0:=h.st
 refine kQ (zx rfl rfl (zC rfl (zA ?_)))
 refine zL [(1,.lst .ro 1 (zE L)),(2,U.box 0 0)] ([SB.box [.int .i64 (Bk.parts b),.int .i64 (Bk.size b),.lst .ro 1 (zE (Bk.beats b)),.int .i64 (Bk.start b),.int .i64 (Bk.fin b),.int .i64 (Bk.tlo b),.int .i64 (Bk.thi b),.int .i64 (Bk.slo b),.int .i64 (Bk.shi b),.int .i64 (Bk.notice b),.lst .ro 3 (plsU (Bk.players b))]]) (.cons rfl (.cons rfl (.nil rfl))) rfl fun fr=>?_
 refine k_seq (k_seq (yu [.plain,.read true,.plain,.read true,.plain,.plain,.plain,.plain,.plain,.plain,.plain,.plain,.plain,.read true,.plain,.read true,.plain,.plain] (by kernel_rfl) (by kernel_rfl) (by kernel_rfl) ?_))
 refine zD (zB rfl (zA rfl)) (zi rfl (yM rfl ty22 rfl (List.length_map _) (zA rfl)) ?_)
 refine zD (zF rfl rfl zAT (zA rfl)) ?_
 refine zi rfl (zG rfl rfl rfl sh3 rfl (zA rfl)) (zD (wZ rfl rfl rfl (zA rfl)) ?_)
 refine zD (zB rfl (zA rfl)) (d_gD rfl rfl rfl rfl (decide_eq_false (by omega)) ?_)
 refine zD (zB rfl (zA rfl)) (d_gD rfl rfl rfl rfl (decide_eq_false (by omega)) ?_)
 refine zD (yM rfl ty22 rfl (List.length_map _) (zA rfl)) ?_
 refine d_gD rfl rfl rfl rfl (decide_eq_false (by omega)) ?_
 refine zD (we rfl rfl rfl (zA rfl)) ?_
 refine yY [(1,.lst .ro 1 (zE L)),(2,U.box 0 0),(11,U.bool (decide (↑(List.length L)≠Bk.parts b))),(14,U.bool (decide (↑(List.length L)=(0:Int))))] [] ([SB.box [.int .i64 (Bk.parts b),.int .i64 (Bk.size b),.lst .ro 1 (zE (Bk.beats b)),.int .i64 (Bk.start b),.int .i64 (Bk.fin b),.int .i64 (Bk.tlo b),.int .i64 (Bk.thi b),.int .i64 (Bk.slo b),.int .i64 (Bk.shi b),.int .i64 (Bk.notice b),.lst .ro 3 (plsU (Bk.players b))]]) (.c4 rfl rfl rfl rfl (.nil rfl)) rfl rfl fun fr=>?_
 refine zD (zO rfl rfl (decide_eq_false (by omega)) (zA rfl)) ?_
 refine zD (zB rfl (zA rfl)) (d_gD rfl rfl rfl rfl (decide_eq_false (by omega)) ?_)
 refine zD (zB rfl (zA rfl)) (d_gD rfl rfl rfl rfl (decide_eq_false (by omega)) ?_)
 refine zD (wJ (u:=.int .i64 (Bk.start b)) rfl ty22 rfl rfl (Int.natCast_nonneg _) (by simp[h0]) cl3 (zA rfl)) ?_
 refine d_gD rfl rfl rfl rfl (decide_eq_false (by omega)) ?_
 refine zi rfl (yD rfl rfl sh3 rfl (zA rfl)) ?_
 refine d_gD rfl rfl rfl rfl (decide_eq_false (by omega)) ?_
 refine zD (zF rfl rfl fld27_3 (zA rfl)) ?_
 refine d_gD rfl rfl rfl rfl (decide_eq_false (by omega)) ?_
 refine zi rfl (zG rfl rfl rfl sh3 rfl (zA rfl)) (d_gD rfl rfl rfl rfl (decide_eq_false (by omega)) ?_)
 refine zD (wZ rfl rfl rfl (zA rfl)) ?_
 refine zD (zO rfl rfl (decide_eq_false (by omega)) (zA rfl)) ?_
 refine zAI ?_
 refine zL [(1,.lst .ro 1 (zE L)),(23,U.bool (decide (Bk.start b≠Bk.start b)))] ([SB.box [.int .i64 (Bk.parts b),.int .i64 (Bk.size b),.lst .ro 1 (zE (Bk.beats b)),.int .i64 (Bk.start b),.int .i64 (Bk.fin b),.int .i64 (Bk.tlo b),.int .i64 (Bk.thi b),.int .i64 (Bk.slo b),.int .i64 (Bk.shi b),.int .i64 (Bk.notice b),.lst .ro 3 (plsU (Bk.players b))]]) (.cons rfl (.cons rfl (.nil rfl))) rfl fun fr=>?_
 refine k_cF rfl (decide_eq_false (by omega)) (zR (k_seq (kQ (zC rfl (zA (zP ?_))))))
 refine wD (fun kk s2=>∃k:Nat,kk+k+1=L.length∧s2.st=[.box [.int .i64 b.parts,.int .i64 b.size,.lst .ro 1 (zE b.beats),.int .i64 b.start,.int .i64 b.fin,.int .i64 b.tlo,.int .i64 b.thi,.int .i64 b.slo,.int .i64 b.shi,.int .i64 b.notice,.lst .ro 3 (plsU b.players)]]∧Holds s2 [(1,.lst .ro 1 (zE L)),(5,.int .i64 (k+1))]) (fun kk s2 hI=>?_) (L.length - 1) _ ⟨0,by omega,rfl,.cons rfl (.cons rfl (.nil rfl))⟩
 obtain⟨k,hk,hst2,hs2⟩:=hI
 refine zL _ _ hs2 hst2 fun fr2=>?_
 by_cases hin:k+1<L.length
 ·obtain⟨x,hx⟩:∃x,L[k]? =some x:=⟨L[k],List.getElem?_eq_getElem (by omega)⟩
  obtain⟨y,hy⟩:∃y,L[k+1]? =some y:=⟨L[k+1],List.getElem?_eq_getElem hin⟩
  have hxr:=h.rg x (List.mem_of_getElem? hx)
  have hyr:=h.rg y (List.mem_of_getElem? hy)
  have hn:=h.nr k x y hx hy
  have hy2:L[((k:Int)+1).toNat]? =some y:=by rw[show((k:Int)+1).toNat=k+1 by omega];exact hy
  have hx2:L[((k:Int)+1 - 1).toNat]? =some x:=by rw[show((k:Int)+1 - 1).toNat=k by omega];exact hx
  have q52:=ret52 (orc:=orc) hi y 0 3
  rw[zEI.2 hyr]at q52
  have q87:=ret87 (orc:=orc) hi (y - x) (by omega)
  have hmx:max (y - x) (-(y - x))≤1:=by omega
  generalize max (y - x) (-(y - x))=mx at*
  refine k_seq (kQ (zB rfl (zB rfl (yM rfl ty22 rfl (List.length_map _) ?_))))
  refine zt rfl rfl rfl (zA (k_cT rfl (decide_eq_true (by omega)) (zR (k_seq (zP (k_seq (yu [.plain,.plain,.plain,.plain,.plain,.plain,.plain,.plain,.plain,.plain,.read true,.plain,.plain,.plain,.plain,.read true,.plain,.plain,.plain,.plain] (by kernel_rfl) (by kernel_rfl) (by kernel_rfl) ?_)))))))
  refine zD (zB rfl (zA rfl)) (zD (zB rfl (zA rfl)) ?_)
  refine zD (wJ (u:=.int .i64 y) rfl ty22 rfl rfl (by omega) (by rw[List.getElem?_map,hy2];rfl) cl3 (zA rfl)) ?_
  refine zD (yD rfl rfl sh3 rfl (zA rfl)) ?_
  refine zD (zQ rfl (q52) (.lrefl _) (zA rfl)) ?_
  refine zD (wY rfl rfl (zA rfl)) ?_
  refine zD (zB rfl (zA rfl)) (d_gD rfl rfl rfl rfl rfl (zD (zB rfl (zA rfl)) (d_gD rfl rfl rfl rfl rfl (zD (zB rfl (zA rfl)) ?_))))
  refine yY [(1,.lst .ro 1 (zE L)),(5,.int .i64 (↑k+(1:Int))),(36,U.bool !Bool.true),(37,.lst .ro 1 (zE L)),(38,.int .i64 (↑k+(1:Int)))] [] ([SB.box [.int .i64 (Bk.parts b),.int .i64 (Bk.size b),.lst .ro 1 (zE (Bk.beats b)),.int .i64 (Bk.start b),.int .i64 (Bk.fin b),.int .i64 (Bk.tlo b),.int .i64 (Bk.thi b),.int .i64 (Bk.slo b),.int .i64 (Bk.shi b),.int .i64 (Bk.notice b),.lst .ro 3 (plsU (Bk.players b))]]) (.c4 rfl rfl rfl rfl (.cons rfl (.nil rfl))) rfl rfl fun fr=>?_
  refine d_gD rfl rfl rfl rfl rfl ?_
  refine zD (wJ (u:=.int .i64 y) rfl ty22 rfl rfl (by omega) (by rw[List.getElem?_map,hy2];rfl) cl3 (zA rfl)) ?_
  refine d_gD rfl rfl rfl rfl rfl (zi rfl (yD rfl rfl sh3 rfl (zA rfl)) ?_)
  refine d_gD rfl rfl rfl rfl rfl (zD (zB rfl (zA rfl)) (d_gD rfl rfl rfl rfl rfl (zD (zB rfl (zA rfl)) (d_gD rfl rfl rfl rfl rfl ?_))))
  refine zD (zCP rfl rfl rfl (by unfold I64;omega) (zA rfl)) ?_
  refine d_gD rfl rfl rfl rfl rfl ?_
  refine zD (wJ (u:=.int .i64 x) rfl ty22 rfl rfl (by omega) (by rw[List.getElem?_map,hx2];rfl) cl3 (zA rfl)) ?_
  refine d_gD rfl rfl rfl rfl rfl (zi rfl (yD rfl rfl sh3 rfl (zA rfl)) ?_)
  refine d_gD rfl rfl rfl rfl rfl ?_
  refine zD (zCP rfl rfl rfl (by unfold I64;omega) (zA rfl)) ?_
  refine d_gD rfl rfl rfl rfl rfl (zD (zQ rfl (q87) (.lrefl _) (zA rfl)) ?_)
  refine yY [(1,.lst .ro 1 (zE L)),(5,.int .i64 (↑k+(1:Int))),(36,U.bool !Bool.true),(37,.lst .ro 1 (zE L)),(38,.int .i64 (↑k+(1:Int))),(39,U.eref [.int .i64 y] 0),(40,.int .i64 y),(41,.lst .ro 1 (zE L)),(42,.int .i64 (↑k+(1:Int))),(43,.int .i64 (↑k+(1:Int) - (1:Int))),(44,U.eref [.int .i64 x] 0),(45,.int .i64 x),(46,.int .i64 (y - x)),(47,.int .i64 mx)] [] ([SB.box [.int .i64 (Bk.parts b),.int .i64 (Bk.size b),.lst .ro 1 (zE (Bk.beats b)),.int .i64 (Bk.start b),.int .i64 (Bk.fin b),.int .i64 (Bk.tlo b),.int .i64 (Bk.thi b),.int .i64 (Bk.slo b),.int .i64 (Bk.shi b),.int .i64 (Bk.notice b),.lst .ro 3 (plsU (Bk.players b))]]) (.c4 rfl rfl rfl rfl (.c4 rfl rfl rfl rfl (.c4 rfl rfl rfl rfl (.cons rfl (.cons rfl (.nil rfl)))))) rfl rfl fun fr=>?_
  refine d_gD rfl rfl rfl rfl rfl ?_
  refine yY [(1,.lst .ro 1 (zE L)),(5,.int .i64 (↑k+(1:Int))),(36,U.bool !Bool.true),(37,.lst .ro 1 (zE L)),(38,.int .i64 (↑k+(1:Int))),(39,U.eref [.int .i64 y] 0),(40,.int .i64 y),(41,.lst .ro 1 (zE L)),(42,.int .i64 (↑k+(1:Int))),(43,.int .i64 (↑k+(1:Int) - (1:Int))),(44,U.eref [.int .i64 x] 0),(45,.int .i64 x),(46,.int .i64 (y - x)),(47,.int .i64 mx)] [] ([SB.box [.int .i64 (Bk.parts b),.int .i64 (Bk.size b),.lst .ro 1 (zE (Bk.beats b)),.int .i64 (Bk.start b),.int .i64 (Bk.fin b),.int .i64 (Bk.tlo b),.int .i64 (Bk.thi b),.int .i64 (Bk.slo b),.int .i64 (Bk.shi b),.int .i64 (Bk.notice b),.lst .ro 3 (plsU (Bk.players b))]]) (.c4 rfl rfl rfl rfl (.c4 rfl rfl rfl rfl (.c4 rfl rfl rfl rfl (.cons rfl (.cons rfl (.nil rfl)))))) rfl rfl fun fr=>?_
  refine zD (zDf rfl rfl rfl (zA rfl)) ?_
  refine zD (zO rfl rfl rfl (zA rfl)) ?_
  refine zAI ?_
  refine zL [(1,.lst .ro 1 (zE L)),(5,.int .i64 (↑k+(1:Int))),(37,.lst .ro 1 (zE L)),(38,.int .i64 (↑k+(1:Int))),(39,U.eref [.int .i64 y] 0),(40,.int .i64 y),(41,.lst .ro 1 (zE L)),(42,.int .i64 (↑k+(1:Int))),(43,.int .i64 (↑k+(1:Int) - (1:Int))),(44,U.eref [.int .i64 x] 0),(45,.int .i64 x),(46,.int .i64 (y - x)),(47,.int .i64 mx),(48,U.bool (decide ((1:Int)<mx))),(49,U.bool (decide ((1:Int)<mx)))] ([SB.box [.int .i64 (Bk.parts b),.int .i64 (Bk.size b),.lst .ro 1 (zE (Bk.beats b)),.int .i64 (Bk.start b),.int .i64 (Bk.fin b),.int .i64 (Bk.tlo b),.int .i64 (Bk.thi b),.int .i64 (Bk.slo b),.int .i64 (Bk.shi b),.int .i64 (Bk.notice b),.lst .ro 3 (plsU (Bk.players b))]]) (.c4 rfl rfl rfl rfl (.c4 rfl rfl rfl rfl (.c4 rfl rfl rfl rfl (.cons rfl (.cons rfl (.cons rfl (.nil rfl))))))) rfl fun fr=>?_
  refine k_cF rfl (decide_eq_false (by omega)) (zR (k_region (zB rfl ?_)))
  refine yr rfl rfl rfl (by unfold I64;omega) (zC rfl (zA ?_))
  exact⟨kk - 1,by omega,k+1,by omega,rfl,.cons rfl (.cons rfl (.nil rfl))⟩
 ·refine k_seq ?_
  refine kQ (zB rfl (zB rfl (yM rfl ty22 rfl (List.length_map _) ?_)))
  refine zt rfl rfl rfl (zA (k_cF rfl (decide_eq_false (by omega)) (yj (kQ (zC rfl (zA (zZ ?_)))))))
  refine⟨.inr rfl,_,.cons _ _ _ _ (.tmp 4) .nil,?_⟩
  exact .refl _
set_option maxHeartbeats 8000000 in
theorem wpc60i(hi:Off is){b:Bk}(hb:zCE b=false){st:List SB}:WpC Tryd.prog is orc 60 [b.u,.lst .full 0 []] st fun u st'=>u=.tup [.agg [.int .i64 0,.int .i64 0,.lst .full 0 [],.int .i64 0,.int .i64 0,.int .i64 0,.int .i64 0,.int .i64 0,.int .i64 0,.int .i64 0,.lst .full 0 []],.int .i64 80]∧∃e,st'=st++e:=by
 refine zCR body60 pure60 rfl rfl ?_
 have q17:=ret17 (orc:=orc) hi b
 rw[if_neg (by rw[hb];simp)]at q17
 refine kQ (zx rfl rfl (zk rfl ze75 ?_))
 refine zC rfl (zA ?_)
 refine zL [(1,.lst .full 0 []),(2,U.box (List.length st) 0),(4,U.box (List.length (st++[SB.box [.int .i64 (Bk.parts b),.int .i64 (Bk.size b),.lst .ro 1 (zE (Bk.beats b)),.int .i64 (Bk.start b),.int .i64 (Bk.fin b),.int .i64 (Bk.tlo b),.int .i64 (Bk.thi b),.int .i64 (Bk.slo b),.int .i64 (Bk.shi b),.int .i64 (Bk.notice b),.lst .ro 3 (plsU (Bk.players b))]])) 0)] (st++[SB.box [.int .i64 (Bk.parts b),.int .i64 (Bk.size b),.lst .ro 1 (zE (Bk.beats b)),.int .i64 (Bk.start b),.int .i64 (Bk.fin b),.int .i64 (Bk.tlo b),.int .i64 (Bk.thi b),.int .i64 (Bk.slo b),.int .i64 (Bk.shi b),.int .i64 (Bk.notice b),.lst .ro 3 (plsU (Bk.players b))]]++[SB.box [.int .i64 0,.int .i64 0,.lst .full 0 [],.int .i64 0,.int .i64 0,.int .i64 0,.int .i64 0,.int .i64 0,.int .i64 0,.int .i64 0,.lst .full 0 []]]) (.cons rfl (.cons rfl (.cons rfl (.nil rfl)))) rfl fun fr=>?_
 refine k_seq (kQ (zK rfl rfl (yK (zp _ _)) sh27 rfl ?_))
 refine zQ rfl (q17) (.lrefl _) (zC rfl (zA (kQ (zB rfl (wZ rfl rfl rfl (zA (k_cT rfl rfl ?_)))))))
 refine kQ (zAi rfl ze75 pl75 rfl rfl ?_)
 refine zB rfl (zd rfl (zp _ _) sh75 rfl rfl rfl rfl rfl ?_)
 refine zC rfl (zA (zZ ?_))
 refine⟨.inr rfl,_,.cons _ _ _ _ (.cellN 4 75 (st++[SB.box [.int .i64 b.parts,.int .i64 b.size,.lst .ro 1 (zE b.beats),.int .i64 b.start,.int .i64 b.fin,.int .i64 b.tlo,.int .i64 b.thi,.int .i64 b.slo,.int .i64 b.shi,.int .i64 b.notice,.lst .ro 3 (plsU b.players)]]).length 0 11 [.int .i64 0,.int .i64 0,.lst .full 0 [],.int .i64 0,.int .i64 0,.int .i64 0,.int .i64 0,.int .i64 0,.int .i64 0,.int .i64 0,.lst .full 0 []] rfl (by show(((st++[SB.box [.int .i64 b.parts,.int .i64 b.size,.lst .ro 1 (zE b.beats),.int .i64 b.start,.int .i64 b.fin,.int .i64 b.tlo,.int .i64 b.thi,.int .i64 b.slo,.int .i64 b.shi,.int .i64 b.notice,.lst .ro 3 (plsU b.players)]])++[SB.box _]).set (st++[SB.box [.int .i64 b.parts,.int .i64 b.size,.lst .ro 1 (zE b.beats),.int .i64 b.start,.int .i64 b.fin,.int .i64 b.tlo,.int .i64 b.thi,.int .i64 b.slo,.int .i64 b.shi,.int .i64 b.notice,.lst .ro 3 (plsU b.players)]]).length (SB.box _))[(st++[SB.box [.int .i64 b.parts,.int .i64 b.size,.lst .ro 1 (zE b.beats),.int .i64 b.start,.int .i64 b.fin,.int .i64 b.tlo,.int .i64 b.thi,.int .i64 b.slo,.int .i64 b.shi,.int .i64 b.notice,.lst .ro 3 (plsU b.players)]]).length]? =_;rw[yy];exact zp _ _) sh75 rfl) (.cons _ _ _ _ (.tmp 5) .nil),_,.refl _,rfl,[SB.box [.int .i64 b.parts,.int .i64 b.size,.lst .ro 1 (zE b.beats),.int .i64 b.start,.int .i64 b.fin,.int .i64 b.tlo,.int .i64 b.thi,.int .i64 b.slo,.int .i64 b.shi,.int .i64 b.notice,.lst .ro 3 (plsU b.players)],.box _],(by show((st++[SB.box [.int .i64 b.parts,.int .i64 b.size,.lst .ro 1 (zE b.beats),.int .i64 b.start,.int .i64 b.fin,.int .i64 b.tlo,.int .i64 b.thi,.int .i64 b.slo,.int .i64 b.shi,.int .i64 b.notice,.lst .ro 3 (plsU b.players)]])++[SB.box _]).set (st++[SB.box [.int .i64 b.parts,.int .i64 b.size,.lst .ro 1 (zE b.beats),.int .i64 b.start,.int .i64 b.fin,.int .i64 b.tlo,.int .i64 b.thi,.int .i64 b.slo,.int .i64 b.shi,.int .i64 b.notice,.lst .ro 3 (plsU b.players)]]).length (SB.box _)=_;rw[yy,List.append_assoc];rfl)⟩
theorem ret27i(hi:Off is){b:Bk}(hb:zCE b=false):RetP Tryd.prog is orc 27 [b.u] (.tup [.lst .ro 1 [],.int .i64 80]):=by
 refine zw body27 pure27 (hi 27 (by decide)) rfl rfl (wq (yT b 4)) (.inr ⟨_,rfl,yV (k:=7) (zh 5 .ro (fun h=>by cases h) 1 []) (.int _ _ _)⟩) ?_
 refine kQ (zx rfl rfl (zC rfl (zC rfl (zA ?_))))
 refine zL [(1,U.box 0 0)] ([SB.box [.int .i64 (Bk.parts b),.int .i64 (Bk.size b),.lst .ro 1 (zE (Bk.beats b)),.int .i64 (Bk.start b),.int .i64 (Bk.fin b),.int .i64 (Bk.tlo b),.int .i64 (Bk.thi b),.int .i64 (Bk.slo b),.int .i64 (Bk.shi b),.int .i64 (Bk.notice b),.lst .ro 3 (plsU (Bk.players b))]]) (.cons rfl (.nil rfl)) rfl fun fr=>?_
 refine kQ (zK rfl rfl rfl sh27 rfl ?_)
 refine zBV rfl (wpc60i hi hb) (.lrefl _) (fun u st1 hM=>?_)
 obtain⟨rfl,e,hY⟩:=hM
 refine zB rfl (zW rfl rfl rfl (zW rfl rfl rfl (zk rfl ze75 ?_)))
 refine zd rfl (zp _ _) sh75 rfl rfl rfl rfl rfl ?_
 refine zC rfl (zA ?_)
 refine zL [(4,U.box (List.length st1) 0),(5,.int .i64 80)] (st1++[SB.box [.int .i64 0,.int .i64 0,.lst .full 0 [],.int .i64 0,.int .i64 0,.int .i64 0,.int .i64 0,.int .i64 0,.int .i64 0,.int .i64 0,.lst .full 0 []]]) (.cons rfl (.cons rfl (.nil rfl))) (yy _ _ _) fun fr=>?_
 refine k_seq (kQ (zB rfl (wZ rfl rfl rfl (zA (k_cT rfl rfl ?_)))))
 refine kQ (zB rfl (zC rfl (zC rfl (zA (zZ ?_)))))
 refine⟨.inr rfl,_,.cons _ _ _ _ (.tmp 2) (.cons _ _ _ _ (.tmp 3) .nil),?_⟩
 exact .tup _ _ (.lcons _ _ _ _ (.nil .full .ro 1) (.lrefl _))
theorem ret29i(hi:Off is){b:Bk}(hb:zCE b=false):RetP Tryd.prog is orc 29 [b.u] (.tup [.int .i64 0,.int .i64 80]):=by
 refine zw body29 pure29 (hi 29 (by decide)) rfl rfl (wq (yT b 4)) (.inr ⟨_,rfl,yV (k:=7) (.int _ _ _) (.int _ _ _)⟩) ?_
 refine kQ (zx rfl rfl (zC rfl (zC rfl (zA ?_))))
 refine zL [(1,U.box 0 0)] ([SB.box [.int .i64 (Bk.parts b),.int .i64 (Bk.size b),.lst .ro 1 (zE (Bk.beats b)),.int .i64 (Bk.start b),.int .i64 (Bk.fin b),.int .i64 (Bk.tlo b),.int .i64 (Bk.thi b),.int .i64 (Bk.slo b),.int .i64 (Bk.shi b),.int .i64 (Bk.notice b),.lst .ro 3 (plsU (Bk.players b))]]) (.cons rfl (.nil rfl)) rfl fun fr=>?_
 refine kQ (zK rfl rfl rfl sh27 rfl ?_)
 refine zBV rfl (wpc60i hi hb) (.lrefl _) (fun u st1 hM=>?_)
 obtain⟨rfl,e,hY⟩:=hM
 refine zB rfl (zW rfl rfl rfl (zW rfl rfl rfl (zk rfl ze75 ?_)))
 refine zd rfl (zp _ _) sh75 rfl rfl rfl rfl rfl ?_
 refine zC rfl (zA ?_)
 refine zL [(4,U.box (List.length st1) 0),(5,.int .i64 80)] (st1++[SB.box [.int .i64 0,.int .i64 0,.lst .full 0 [],.int .i64 0,.int .i64 0,.int .i64 0,.int .i64 0,.int .i64 0,.int .i64 0,.int .i64 0,.lst .full 0 []]]) (.cons rfl (.cons rfl (.nil rfl))) (yy _ _ _) fun fr=>?_
 refine k_seq (kQ (zB rfl (wZ rfl rfl rfl (zA (k_cT rfl rfl ?_)))))
 refine kQ (zB rfl (zC rfl (zC rfl (zA (zZ ?_)))))
 refine⟨.inr rfl,_,.cons _ _ _ _ (.tmp 2) (.cons _ _ _ _ (.tmp 3) .nil),?_⟩
 exact .refl _
set_option maxHeartbeats 16000000 in
set_option maxRecDepth 20000 in
theorem ret7(hi:Off is)(b:Bk)(bits:List Int)(r24:RetP Tryd.prog is orc 24 [] (.bool true)):RetP Tryd.prog is orc 7 [b.u,.lst .ro 1 (zE bits)] (.bool true):=by
 have q38:=ret38 (orc:=orc) hi b
 refine zw body7 pure7 (hi 7 (by decide)) rfl rfl (yV (yT b 4) (zh 6 .ro (fun h=>by cases h) 1 bits)) (.inl (.bool _ _)) ?_
 cases hv:zCE b with
 |false=>
  rw[hv]at q38
  refine kQ (zx rfl rfl (zC rfl (zA ?_)))
  refine zL [(1,.lst .ro 1 (zE bits)),(2,U.box 0 0)] ([SB.box [.int .i64 (Bk.parts b),.int .i64 (Bk.size b),.lst .ro 1 (zE (Bk.beats b)),.int .i64 (Bk.start b),.int .i64 (Bk.fin b),.int .i64 (Bk.tlo b),.int .i64 (Bk.thi b),.int .i64 (Bk.slo b),.int .i64 (Bk.shi b),.int .i64 (Bk.notice b),.lst .ro 3 (plsU (Bk.players b))]]) (.cons rfl (.cons rfl (.nil rfl))) rfl fun fr=>?_
  refine kQ (zK rfl rfl rfl sh27 rfl (zQ rfl (ret27i hi hv) (.lrefl _) ?_))
  refine zB rfl (zW rfl rfl rfl (zW rfl rfl rfl (zC rfl (zC rfl (zA (kQ (zK rfl rfl rfl sh27 rfl (zQ rfl (ret29i hi hv) (.lrefl _) ?_))))))))
  refine zB rfl (zW rfl rfl rfl (zW rfl rfl rfl (zC rfl (zC rfl (zA ?_)))))
  refine zL [(1,.lst .ro 1 (zE bits)),(2,U.box 0 0),(5,.lst .ro 1 []),(6,.int .i64 80),(7,.int .i64 0),(8,.int .i64 80)] ([SB.box [.int .i64 (Bk.parts b),.int .i64 (Bk.size b),.lst .ro 1 (zE (Bk.beats b)),.int .i64 (Bk.start b),.int .i64 (Bk.fin b),.int .i64 (Bk.tlo b),.int .i64 (Bk.thi b),.int .i64 (Bk.slo b),.int .i64 (Bk.shi b),.int .i64 (Bk.notice b),.lst .ro 3 (plsU (Bk.players b))]]) (.c4 rfl rfl rfl rfl (.cons rfl (.cons rfl (.nil rfl)))) rfl fun fr=>?_
  refine k_seq (kQ (zK rfl rfl rfl sh27 rfl (zQ rfl (q38) (.lrefl _) (wY rfl rfl (zA (k_cT rfl rfl ?_))))))
  refine kQ (zB rfl (we rfl rfl rfl (zB rfl (o_gD rfl rfl rfl rfl rfl (zB rfl (o_gD rfl rfl rfl rfl rfl (zB rfl (o_gD rfl rfl rfl rfl rfl ?_))))))))
  refine we rfl rfl rfl (zT rfl rfl rfl ?_)
  refine zB rfl (o_gD rfl rfl rfl rfl rfl (zB rfl ?_))
  refine zU [(7,.int .i64 0),(35,U.bool (decide ((80:Int)=(80:Int)))),(36,.lst .ro 1 [])] [] ([SB.box [.int .i64 (Bk.parts b),.int .i64 (Bk.size b),.lst .ro 1 (zE (Bk.beats b)),.int .i64 (Bk.start b),.int .i64 (Bk.fin b),.int .i64 (Bk.tlo b),.int .i64 (Bk.thi b),.int .i64 (Bk.slo b),.int .i64 (Bk.shi b),.int .i64 (Bk.notice b),.lst .ro 3 (plsU (Bk.players b))]]) (.cons rfl (.cons rfl (.cons rfl (.nil rfl)))) rfl rfl fun fr=>?_
  refine o_gD rfl rfl rfl rfl rfl ?_
  refine zU [(7,.int .i64 0),(35,U.bool (decide ((80:Int)=(80:Int)))),(36,.lst .ro 1 [])] [] ([SB.box [.int .i64 (Bk.parts b),.int .i64 (Bk.size b),.lst .ro 1 (zE (Bk.beats b)),.int .i64 (Bk.start b),.int .i64 (Bk.fin b),.int .i64 (Bk.tlo b),.int .i64 (Bk.thi b),.int .i64 (Bk.slo b),.int .i64 (Bk.shi b),.int .i64 (Bk.notice b),.lst .ro 3 (plsU (Bk.players b))]]) (.cons rfl (.cons rfl (.cons rfl (.nil rfl)))) rfl rfl fun fr=>?_
  refine yM rfl ty22 rfl rfl ?_
  refine o_gD rfl rfl rfl rfl rfl (we rfl rfl rfl (zT rfl rfl rfl ?_))
  refine zB rfl (o_gD rfl rfl rfl rfl rfl (zB rfl (o_gD rfl rfl rfl rfl rfl (we rfl rfl rfl (zT rfl rfl rfl ?_)))))
  refine zB rfl (o_gD rfl rfl rfl rfl rfl (zQ rfl (r24) (.lrefl _) ?_))
  refine zU [(44,U.bool (decide ((0:Int)=(0:Int)))),(45,.bool true)] [] ([SB.box [.int .i64 (Bk.parts b),.int .i64 (Bk.size b),.lst .ro 1 (zE (Bk.beats b)),.int .i64 (Bk.start b),.int .i64 (Bk.fin b),.int .i64 (Bk.tlo b),.int .i64 (Bk.thi b),.int .i64 (Bk.slo b),.int .i64 (Bk.shi b),.int .i64 (Bk.notice b),.lst .ro 3 (plsU (Bk.players b))]]) (.cons rfl (.cons rfl (.nil rfl))) rfl rfl fun fr=>?_
  refine zT rfl rfl rfl ?_
  refine zC rfl (zA (zZ ?_))
  refine⟨.inr rfl,_,.cons _ _ _ _ (.tmp 4) .nil,?_⟩
  exact .refl _
 |true=>
  rw[hv]at q38
  have h:=(zCS b).1 hv
  have hpa:=h.pa
  have hsz:=h.sz
  have q27:=ret27 (orc:=orc) hi h
  have q29:=ret29 (orc:=orc) hi h
  have hps:=zEt h
  have hmp:=mul_ps h
  rcases best_spec h with ⟨h1,h2⟩|⟨h1,_⟩
  ·rw[h2,if_pos rfl]at q27
   rw[h1]at q29
   change RetP _ _ _ _ _ (.tup [.int .i64 0,.int .i64 0])at q29
   refine kQ (zx rfl rfl (zC rfl (zA ?_)))
   refine zL [(1,.lst .ro 1 (zE bits)),(2,U.box 0 0)] ([SB.box [.int .i64 (Bk.parts b),.int .i64 (Bk.size b),.lst .ro 1 (zE (Bk.beats b)),.int .i64 (Bk.start b),.int .i64 (Bk.fin b),.int .i64 (Bk.tlo b),.int .i64 (Bk.thi b),.int .i64 (Bk.slo b),.int .i64 (Bk.shi b),.int .i64 (Bk.notice b),.lst .ro 3 (plsU (Bk.players b))]]) (.cons rfl (.cons rfl (.nil rfl))) rfl fun fr=>?_
   refine kQ (zK rfl rfl rfl sh27 rfl (zQ rfl (q27) (.lrefl _) (zB rfl (zW rfl rfl rfl (zW rfl rfl rfl (zC rfl (zC rfl (zA ?_))))))))
   refine kQ (zK rfl rfl rfl sh27 rfl (zQ rfl (q29) (.lrefl _) (zB rfl (zW rfl rfl rfl (zW rfl rfl rfl (zC rfl (zC rfl (zA ?_))))))))
   refine zL [(1,.lst .ro 1 (zE bits)),(2,U.box 0 0),(5,.lst .ro 1 (zE [])),(6,.int .i64 4),(7,.int .i64 0),(8,.int .i64 0)] ([SB.box [.int .i64 (Bk.parts b),.int .i64 (Bk.size b),.lst .ro 1 (zE (Bk.beats b)),.int .i64 (Bk.start b),.int .i64 (Bk.fin b),.int .i64 (Bk.tlo b),.int .i64 (Bk.thi b),.int .i64 (Bk.slo b),.int .i64 (Bk.shi b),.int .i64 (Bk.notice b),.lst .ro 3 (plsU (Bk.players b))]]) (.c4 rfl rfl rfl rfl (.cons rfl (.cons rfl (.nil rfl)))) rfl fun fr=>?_
   refine k_seq (kQ (zK rfl rfl rfl sh27 rfl (zQ rfl (q38) (.lrefl _) (wY rfl rfl (zA (k_cF rfl rfl ?_))))))
   refine zR (k_seq (kQ (zB rfl (wZ rfl rfl rfl (zA (k_cT rfl rfl ?_))))))
   refine kQ (zB rfl (we rfl rfl rfl (zB rfl (o_gD rfl rfl rfl rfl rfl (zB rfl (o_gD rfl rfl rfl rfl rfl (we rfl rfl rfl (zT rfl rfl rfl ?_))))))))
   refine zB rfl (o_gD rfl rfl rfl rfl rfl (zB rfl (o_gD rfl rfl rfl rfl rfl (yM rfl ty22 rfl (List.length_map _) ?_))))
   refine zU [(7,.int .i64 0),(55,U.bool (decide ((0:Int)=(0:Int)))),(57,.int .i64 ↑(List.length []))] [] ([SB.box [.int .i64 (Bk.parts b),.int .i64 (Bk.size b),.lst .ro 1 (zE (Bk.beats b)),.int .i64 (Bk.start b),.int .i64 (Bk.fin b),.int .i64 (Bk.tlo b),.int .i64 (Bk.thi b),.int .i64 (Bk.slo b),.int .i64 (Bk.shi b),.int .i64 (Bk.notice b),.lst .ro 3 (plsU (Bk.players b))]]) (.cons rfl (.cons rfl (.cons rfl (.nil rfl)))) rfl rfl fun fr=>?_
   refine o_gD rfl rfl rfl rfl rfl ?_
   refine zU [(7,.int .i64 0),(55,U.bool (decide ((0:Int)=(0:Int)))),(57,.int .i64 ↑(List.length []))] [] ([SB.box [.int .i64 (Bk.parts b),.int .i64 (Bk.size b),.lst .ro 1 (zE (Bk.beats b)),.int .i64 (Bk.start b),.int .i64 (Bk.fin b),.int .i64 (Bk.tlo b),.int .i64 (Bk.thi b),.int .i64 (Bk.slo b),.int .i64 (Bk.shi b),.int .i64 (Bk.notice b),.lst .ro 3 (plsU (Bk.players b))]]) (.cons rfl (.cons rfl (.cons rfl (.nil rfl)))) rfl rfl fun fr=>?_
   refine we rfl rfl rfl (zT rfl rfl rfl ?_)
   refine zB rfl (o_gD rfl rfl rfl rfl rfl (zB rfl (o_gD rfl rfl rfl rfl rfl (we rfl rfl rfl (zT rfl rfl rfl ?_)))))
   refine zB rfl (o_gD rfl rfl rfl rfl rfl (zQ rfl (r24) (.lrefl _) (zT rfl rfl rfl ?_)))
   refine zU [(66,.bool true)] [] ([SB.box [.int .i64 (Bk.parts b),.int .i64 (Bk.size b),.lst .ro 1 (zE (Bk.beats b)),.int .i64 (Bk.start b),.int .i64 (Bk.fin b),.int .i64 (Bk.tlo b),.int .i64 (Bk.thi b),.int .i64 (Bk.slo b),.int .i64 (Bk.shi b),.int .i64 (Bk.notice b),.lst .ro 3 (plsU (Bk.players b))]]) (.cons rfl (.nil rfl)) rfl rfl fun fr=>?_
   refine zC rfl (zA (zZ ?_))
   refine⟨.inr rfl,_,.cons _ _ _ _ (.tmp 4) .nil,?_⟩
   exact .refl _
   done
  ·obtain⟨hok,hpl⟩:=(mem_plans h).1 h1
   have hn1:1≤(wc b).length∧(wc b).length≤65536:=⟨by cases hl:wc b with
    |nil=>rw[hl]at h1;cases h1
    |cons a l=>simp,plans_len h⟩
   generalize (wc b).length=np at*
   have hlen:=hok.len
   rw[if_neg (by intro e;rw[e]at hlen;simp at hlen;omega)]at q27
   generalize zAt (wc b)=L at*
   have q39:=ret39 (orc:=orc) hi h hok
   have q15:=ret15 (orc:=orc) hi h hok
   have q21:=ret21 (orc:=orc) hi h hok
   have q25:=ret25 (orc:=orc) hi h hok
   have q41:=ret41 (orc:=orc) hi h hok.rg (by omega)
   have q40:=ret40 (orc:=orc) hi b.tlo b.thi (zBC b L L.length)
   rw[hpl]at q25
   have hz:=zero_lat h hok.rg (b.parts*b.size).toNat
   obtain⟨x,hx,hxr⟩:=at_ok hok (q:=b.parts.toNat - 1) (by omega)
   have hx2:L[((L.length:Int) - 1).toNat]? =some x:=by rw[show((L.length:Int) - 1).toNat=b.parts.toNat - 1 by omega];exact hx
   unfold planB at hpl
   rw[hx,hz,Bool.and_eq_true,Bool.and_eq_true,decide_eq_true_iff,decide_eq_true_iff]at hpl
   obtain⟨hf,hin,hA⟩:=hpl
   change x=b.fin at hf
   rw[hin]at q40
   have hlat:=(lat_nil (f:=aftF b true L (b.parts*b.size).toNat) b.players.length).1 (List.length_eq_zero_iff.1 hA)
   generalize latS (aftF b true L (b.parts*b.size).toNat) b.players.length=A at*
   generalize zBC b L L.length=la at*
   generalize hN:(b.parts*b.size).toNat=N at*
   refine kQ (zx rfl rfl (zC rfl (zA ?_)))
   refine zL [(1,.lst .ro 1 (zE bits)),(2,U.box 0 0)] ([SB.box [.int .i64 (Bk.parts b),.int .i64 (Bk.size b),.lst .ro 1 (zE (Bk.beats b)),.int .i64 (Bk.start b),.int .i64 (Bk.fin b),.int .i64 (Bk.tlo b),.int .i64 (Bk.thi b),.int .i64 (Bk.slo b),.int .i64 (Bk.shi b),.int .i64 (Bk.notice b),.lst .ro 3 (plsU (Bk.players b))]]) (.cons rfl (.cons rfl (.nil rfl))) rfl fun fr=>?_
   refine kQ (zK rfl rfl rfl sh27 rfl (zQ rfl (q27) (.lrefl _) (zB rfl (zW rfl rfl rfl (zW rfl rfl rfl (zC rfl (zC rfl (zA ?_))))))))
   refine kQ (zK rfl rfl rfl sh27 rfl (zQ rfl (q29) (.lrefl _) (zB rfl (zW rfl rfl rfl (zW rfl rfl rfl (zC rfl (zC rfl (zA ?_))))))))
   refine zL [(1,.lst .ro 1 (zE bits)),(2,U.box 0 0),(5,.lst .ro 1 (zE L)),(6,.int .i64 0),(7,.int .i64 ↑np),(8,.int .i64 0)] ([SB.box [.int .i64 (Bk.parts b),.int .i64 (Bk.size b),.lst .ro 1 (zE (Bk.beats b)),.int .i64 (Bk.start b),.int .i64 (Bk.fin b),.int .i64 (Bk.tlo b),.int .i64 (Bk.thi b),.int .i64 (Bk.slo b),.int .i64 (Bk.shi b),.int .i64 (Bk.notice b),.lst .ro 3 (plsU (Bk.players b))]]) (.c4 rfl rfl rfl rfl (.cons rfl (.cons rfl (.nil rfl)))) rfl fun fr=>?_
   refine k_seq (kQ (zK rfl rfl rfl sh27 rfl (zQ rfl (q38) (.lrefl _) (wY rfl rfl (zA (k_cF rfl rfl ?_))))))
   refine zR (k_seq (kQ (zB rfl (wZ rfl rfl rfl (zA (k_cF rfl rfl ?_))))))
   refine zR (k_seq (k_seq (yu [.plain,.plain,.plain,.plain,.plain,.plain,.plain,.plain,.plain,.plain,.plain,.plain,.plain,.plain,.plain,.read true,.plain,.plain,.read true,.plain,.read true,.plain,.plain,.plain,.plain,.read true,.read true,.plain,.read false,.plain,.plain,.plain] (by kernel_rfl) (by kernel_rfl) (by kernel_rfl) ?_)))
   refine zD (zB rfl (zA rfl)) (zD (wZ rfl rfl rfl (zA rfl)) ?_)
   refine zD (zB rfl (zA rfl)) (d_gD rfl rfl rfl rfl rfl (zD (zB rfl (zA rfl)) (d_gD rfl rfl rfl rfl rfl (zD (zt rfl rfl rfl (zA rfl)) ?_))))
   refine zD (zO rfl rfl rfl (zA rfl)) ?_
   refine zD (zB rfl (zA rfl)) (d_gD rfl rfl rfl rfl (decide_eq_false (by omega)) ?_)
   refine zD (zK rfl rfl rfl sh27 rfl (zA rfl)) ?_
   refine d_gD rfl rfl rfl rfl (decide_eq_false (by omega)) ?_
   refine zD (zB rfl (zA rfl)) ?_
   refine yY [(1,.lst .ro 1 (zE bits)),(2,U.box 0 0),(5,.lst .ro 1 (zE L)),(73,U.bool (decide (↑np<(1:Int)))),(74,U.agg [.int .i64 (Bk.parts b),.int .i64 (Bk.size b),.lst .ro 1 (zE (Bk.beats b)),.int .i64 (Bk.start b),.int .i64 (Bk.fin b),.int .i64 (Bk.tlo b),.int .i64 (Bk.thi b),.int .i64 (Bk.slo b),.int .i64 (Bk.shi b),.int .i64 (Bk.notice b),.lst .ro 3 (plsU (Bk.players b))]),(75,.lst .ro 1 (zE L))] [] ([SB.box [.int .i64 (Bk.parts b),.int .i64 (Bk.size b),.lst .ro 1 (zE (Bk.beats b)),.int .i64 (Bk.start b),.int .i64 (Bk.fin b),.int .i64 (Bk.tlo b),.int .i64 (Bk.thi b),.int .i64 (Bk.slo b),.int .i64 (Bk.shi b),.int .i64 (Bk.notice b),.lst .ro 3 (plsU (Bk.players b))]]) (.c4 rfl rfl rfl rfl (.cons rfl (.cons rfl (.nil rfl)))) rfl rfl fun fr=>?_
   refine d_gD rfl rfl rfl rfl (decide_eq_false (by omega)) ?_
   refine yY [(1,.lst .ro 1 (zE bits)),(2,U.box 0 0),(5,.lst .ro 1 (zE L)),(73,U.bool (decide (↑np<(1:Int)))),(74,U.agg [.int .i64 (Bk.parts b),.int .i64 (Bk.size b),.lst .ro 1 (zE (Bk.beats b)),.int .i64 (Bk.start b),.int .i64 (Bk.fin b),.int .i64 (Bk.tlo b),.int .i64 (Bk.thi b),.int .i64 (Bk.slo b),.int .i64 (Bk.shi b),.int .i64 (Bk.notice b),.lst .ro 3 (plsU (Bk.players b))]),(75,.lst .ro 1 (zE L))] [] ([SB.box [.int .i64 (Bk.parts b),.int .i64 (Bk.size b),.lst .ro 1 (zE (Bk.beats b)),.int .i64 (Bk.start b),.int .i64 (Bk.fin b),.int .i64 (Bk.tlo b),.int .i64 (Bk.thi b),.int .i64 (Bk.slo b),.int .i64 (Bk.shi b),.int .i64 (Bk.notice b),.lst .ro 3 (plsU (Bk.players b))]]) (.c4 rfl rfl rfl rfl (.cons rfl (.cons rfl (.nil rfl)))) rfl rfl fun fr=>?_
   refine zD (zQ rfl (q39) (.lrefl _) (zA rfl)) ?_
   refine d_gD rfl rfl rfl rfl (decide_eq_false (by omega)) ?_
   refine zD (wY rfl rfl (zA rfl)) ?_
   refine zD (zO rfl rfl (decide_eq_false (by omega)) (zA rfl)) ?_
   refine zD (zB rfl (zA rfl)) (d_gD rfl rfl rfl rfl rfl (zD (zB rfl (zA rfl)) (d_gD rfl rfl rfl rfl rfl (zD (zB rfl (zA rfl)) (d_gD rfl rfl rfl rfl rfl (zi rfl (yM rfl ty22 rfl (List.length_map _) (zA rfl)) ?_))))))
   refine d_gD rfl rfl rfl rfl rfl ?_
   refine zD (zCP rfl rfl rfl (by unfold I64;omega) (zA rfl)) ?_
   refine d_gD rfl rfl rfl rfl rfl ?_
   refine zD (wJ (u:=.int .i64 x) rfl ty22 rfl rfl (by omega) (by rw[List.getElem?_map,hx2];rfl) cl3 (zA rfl)) ?_
   refine yY [(1,.lst .ro 1 (zE bits)),(2,U.box 0 0),(5,.lst .ro 1 (zE L)),(79,U.bool !Bool.true),(84,U.eref [.int .i64 x] 0)] [] ([SB.box [.int .i64 (Bk.parts b),.int .i64 (Bk.size b),.lst .ro 1 (zE (Bk.beats b)),.int .i64 (Bk.start b),.int .i64 (Bk.fin b),.int .i64 (Bk.tlo b),.int .i64 (Bk.thi b),.int .i64 (Bk.slo b),.int .i64 (Bk.shi b),.int .i64 (Bk.notice b),.lst .ro 3 (plsU (Bk.players b))]]) (.c4 rfl rfl rfl rfl (.cons rfl (.nil rfl))) rfl rfl fun fr=>?_
   refine d_gD rfl rfl rfl rfl rfl ?_
   refine yY [(1,.lst .ro 1 (zE bits)),(2,U.box 0 0),(5,.lst .ro 1 (zE L)),(79,U.bool !Bool.true),(84,U.eref [.int .i64 x] 0)] [] ([SB.box [.int .i64 (Bk.parts b),.int .i64 (Bk.size b),.lst .ro 1 (zE (Bk.beats b)),.int .i64 (Bk.start b),.int .i64 (Bk.fin b),.int .i64 (Bk.tlo b),.int .i64 (Bk.thi b),.int .i64 (Bk.slo b),.int .i64 (Bk.shi b),.int .i64 (Bk.notice b),.lst .ro 3 (plsU (Bk.players b))]]) (.c4 rfl rfl rfl rfl (.cons rfl (.nil rfl))) rfl rfl fun fr=>?_
   refine zi rfl (yD rfl rfl sh3 rfl (zA rfl)) ?_
   refine d_gD rfl rfl rfl rfl rfl (zD (zF rfl rfl fld27_4 (zA rfl)) ?_)
   refine d_gD rfl rfl rfl rfl rfl (zi rfl (zG rfl rfl rfl sh3 rfl (zA rfl)) (d_gD rfl rfl rfl rfl rfl (zD (wZ rfl rfl rfl (zA rfl)) ?_)))
   refine zD (zO rfl rfl rfl (zA rfl)) ?_
   refine zD (zB rfl (zA rfl)) (d_gD rfl rfl rfl rfl (decide_eq_false (by omega)) ?_)
   refine zD (zF rfl rfl fld27_5 (zA rfl)) ?_
   refine d_gD rfl rfl rfl rfl (decide_eq_false (by omega)) ?_
   refine zi rfl (zK rfl rfl rfl sh24 rfl (zA rfl)) ?_
   refine d_gD rfl rfl rfl rfl (decide_eq_false (by omega)) ?_
   refine zi rfl (zK rfl rfl rfl sh27 rfl (zA rfl)) ?_
   refine yY [(1,.lst .ro 1 (zE bits)),(2,U.box 0 0),(5,.lst .ro 1 (zE L)),(90,U.bool (decide (x≠Bk.fin b))),(92,U.agg [.int .i64 (Bk.tlo b),.int .i64 (Bk.thi b)]),(93,U.agg [.int .i64 (Bk.parts b),.int .i64 (Bk.size b),.lst .ro 1 (zE (Bk.beats b)),.int .i64 (Bk.start b),.int .i64 (Bk.fin b),.int .i64 (Bk.tlo b),.int .i64 (Bk.thi b),.int .i64 (Bk.slo b),.int .i64 (Bk.shi b),.int .i64 (Bk.notice b),.lst .ro 3 (plsU (Bk.players b))])] [] ([SB.box [.int .i64 (Bk.parts b),.int .i64 (Bk.size b),.lst .ro 1 (zE (Bk.beats b)),.int .i64 (Bk.start b),.int .i64 (Bk.fin b),.int .i64 (Bk.tlo b),.int .i64 (Bk.thi b),.int .i64 (Bk.slo b),.int .i64 (Bk.shi b),.int .i64 (Bk.notice b),.lst .ro 3 (plsU (Bk.players b))]]) (.c4 rfl rfl rfl rfl (.cons rfl (.cons rfl (.nil rfl)))) rfl rfl fun fr=>?_
   refine d_gD rfl rfl rfl rfl (decide_eq_false (by omega)) ?_
   refine yY [(1,.lst .ro 1 (zE bits)),(2,U.box 0 0),(5,.lst .ro 1 (zE L)),(90,U.bool (decide (x≠Bk.fin b))),(92,U.agg [.int .i64 (Bk.tlo b),.int .i64 (Bk.thi b)]),(93,U.agg [.int .i64 (Bk.parts b),.int .i64 (Bk.size b),.lst .ro 1 (zE (Bk.beats b)),.int .i64 (Bk.start b),.int .i64 (Bk.fin b),.int .i64 (Bk.tlo b),.int .i64 (Bk.thi b),.int .i64 (Bk.slo b),.int .i64 (Bk.shi b),.int .i64 (Bk.notice b),.lst .ro 3 (plsU (Bk.players b))])] [] ([SB.box [.int .i64 (Bk.parts b),.int .i64 (Bk.size b),.lst .ro 1 (zE (Bk.beats b)),.int .i64 (Bk.start b),.int .i64 (Bk.fin b),.int .i64 (Bk.tlo b),.int .i64 (Bk.thi b),.int .i64 (Bk.slo b),.int .i64 (Bk.shi b),.int .i64 (Bk.notice b),.lst .ro 3 (plsU (Bk.players b))]]) (.c4 rfl rfl rfl rfl (.cons rfl (.cons rfl (.nil rfl)))) rfl rfl fun fr=>?_
   refine zD (zB rfl (zA rfl)) (d_gD rfl rfl rfl rfl (decide_eq_false (by omega)) ?_)
   refine zAU rfl (q41) (.int _ _) (.lrefl _) ?_
   refine d_gD rfl rfl rfl rfl (decide_eq_false (by omega)) ?_
   refine zD (zQ rfl (q40) (.lrefl _) (zA rfl)) ?_
   refine d_gD rfl rfl rfl rfl (decide_eq_false (by omega)) ?_
   refine zD (wY rfl rfl (zA rfl)) ?_
   refine zD (zO rfl rfl (decide_eq_false (by omega)) (zA rfl)) ?_
   refine zAI ?_
   refine zL [(1,.lst .ro 1 (zE bits)),(2,U.box 0 0),(5,.lst .ro 1 (zE L)),(98,U.bool !Bool.true)] ([SB.box [.int .i64 (Bk.parts b),.int .i64 (Bk.size b),.lst .ro 1 (zE (Bk.beats b)),.int .i64 (Bk.start b),.int .i64 (Bk.fin b),.int .i64 (Bk.tlo b),.int .i64 (Bk.thi b),.int .i64 (Bk.slo b),.int .i64 (Bk.shi b),.int .i64 (Bk.notice b),.lst .ro 3 (plsU (Bk.players b))]]) (.c4 rfl rfl rfl rfl (.nil rfl)) rfl fun fr=>?_
   refine k_cF rfl rfl ?_
   refine zR (kQ (zK rfl rfl rfl sh27 rfl (zB rfl (zQ rfl (q15) (.lrefl _) (zB rfl (zW rfl rfl rfl (zW rfl rfl rfl (zC rfl ?_))))))))
   refine zC rfl (zA (kQ (zK rfl rfl rfl sh27 rfl (zB rfl (zQ rfl (q25) (.lrefl _) (zB rfl (zW rfl rfl rfl (zW rfl rfl rfl ?_))))))))
   refine zC rfl (zC rfl (zA ?_))
   refine zL [(1,.lst .ro 1 (zE bits)),(2,U.box 0 0),(5,.lst .ro 1 (zE L)),(6,.int .i64 0),(8,.int .i64 0),(9,.int .i64 la),(10,.bool true)] ([SB.box [.int .i64 (Bk.parts b),.int .i64 (Bk.size b),.lst .ro 1 (zE (Bk.beats b)),.int .i64 (Bk.start b),.int .i64 (Bk.fin b),.int .i64 (Bk.tlo b),.int .i64 (Bk.thi b),.int .i64 (Bk.slo b),.int .i64 (Bk.shi b),.int .i64 (Bk.notice b),.lst .ro 3 (plsU (Bk.players b))]]) (.c4 rfl rfl rfl rfl (.cons rfl (.cons rfl (.cons rfl (.nil rfl))))) rfl fun fr=>?_
   refine kQ (zK rfl rfl rfl sh27 rfl (zB rfl (zQ rfl (q21) (.lrefl _) (zB rfl (zW rfl rfl rfl (zW rfl rfl rfl (zC rfl (zC rfl ?_))))))))
   refine zA (k_seq (kQ (zB rfl (wZ rfl rfl rfl (zB rfl (o_gD rfl rfl rfl rfl rfl (zB rfl (o_gD rfl rfl rfl rfl rfl ?_))))))))
   refine wZ rfl rfl rfl (zO rfl rfl rfl ?_)
   refine zB rfl (o_gD rfl rfl rfl rfl rfl (zB rfl (o_gD rfl rfl rfl rfl rfl (wZ rfl rfl rfl ?_))))
   refine zU [(1,.lst .ro 1 (zE bits)),(2,U.box 0 0),(5,.lst .ro 1 (zE L)),(9,.int .i64 la),(10,.bool true),(11,.lst .ro 1 (zE A)),(123,U.bool (decide ((0:Int)≠(0:Int)))),(125,U.bool (decide ((0:Int)≠(0:Int))))] [] ([SB.box [.int .i64 (Bk.parts b),.int .i64 (Bk.size b),.lst .ro 1 (zE (Bk.beats b)),.int .i64 (Bk.start b),.int .i64 (Bk.fin b),.int .i64 (Bk.tlo b),.int .i64 (Bk.thi b),.int .i64 (Bk.slo b),.int .i64 (Bk.shi b),.int .i64 (Bk.notice b),.lst .ro 3 (plsU (Bk.players b))]]) (.c4 rfl rfl rfl rfl (.c4 rfl rfl rfl rfl (.nil rfl))) rfl rfl fun fr=>?_
   refine zO rfl rfl rfl ?_
   refine zB rfl (o_gD rfl rfl rfl rfl rfl (zB rfl (o_gD rfl rfl rfl rfl rfl (zK rfl rfl rfl sh27 rfl (o_gD rfl rfl rfl rfl rfl (zB rfl (o_gD rfl rfl rfl rfl rfl (zQ rfl (q41) (.lrefl _) ?_))))))))
   refine o_gD rfl rfl rfl rfl rfl (wZ rfl rfl rfl (zO rfl rfl rfl ?_))
   refine zB rfl ?_
   refine zU [(1,.lst .ro 1 (zE bits)),(2,U.box 0 0),(5,.lst .ro 1 (zE L)),(10,.bool true),(11,.lst .ro 1 (zE A)),(134,U.bool (decide (la≠la)))] [] ([SB.box [.int .i64 (Bk.parts b),.int .i64 (Bk.size b),.lst .ro 1 (zE (Bk.beats b)),.int .i64 (Bk.start b),.int .i64 (Bk.fin b),.int .i64 (Bk.tlo b),.int .i64 (Bk.thi b),.int .i64 (Bk.slo b),.int .i64 (Bk.shi b),.int .i64 (Bk.notice b),.lst .ro 3 (plsU (Bk.players b))]]) (.c4 rfl rfl rfl rfl (.cons rfl (.cons rfl (.nil rfl)))) rfl rfl fun fr=>?_
   refine o_gD rfl rfl rfl rfl (decide_eq_false (by omega)) ?_
   refine zU [(1,.lst .ro 1 (zE bits)),(2,U.box 0 0),(5,.lst .ro 1 (zE L)),(10,.bool true),(11,.lst .ro 1 (zE A)),(134,U.bool (decide (la≠la)))] [] ([SB.box [.int .i64 (Bk.parts b),.int .i64 (Bk.size b),.lst .ro 1 (zE (Bk.beats b)),.int .i64 (Bk.start b),.int .i64 (Bk.fin b),.int .i64 (Bk.tlo b),.int .i64 (Bk.thi b),.int .i64 (Bk.slo b),.int .i64 (Bk.shi b),.int .i64 (Bk.notice b),.lst .ro 3 (plsU (Bk.players b))]]) (.c4 rfl rfl rfl rfl (.cons rfl (.cons rfl (.nil rfl)))) rfl rfl fun fr=>?_
   refine zB rfl (o_gD rfl rfl rfl rfl (decide_eq_false (by omega)) (wY rfl rfl (zO rfl rfl (decide_eq_false (by omega)) ?_)))
   refine zB rfl (o_gD rfl rfl rfl rfl rfl (zB rfl (o_gD rfl rfl rfl rfl rfl (yM rfl ty22 rfl (List.length_map _) ?_))))
   refine o_gD rfl rfl rfl rfl rfl (wZ rfl rfl rfl (zO rfl rfl rfl ?_))
   refine zA ?_
   refine zL [(1,.lst .ro 1 (zE bits)),(2,U.box 0 0),(5,.lst .ro 1 (zE L)),(142,U.bool (decide (↑(List.length A)≠(0:Int))))] ([SB.box [.int .i64 (Bk.parts b),.int .i64 (Bk.size b),.lst .ro 1 (zE (Bk.beats b)),.int .i64 (Bk.start b),.int .i64 (Bk.fin b),.int .i64 (Bk.tlo b),.int .i64 (Bk.thi b),.int .i64 (Bk.slo b),.int .i64 (Bk.shi b),.int .i64 (Bk.notice b),.lst .ro 3 (plsU (Bk.players b))]]) (.c4 rfl rfl rfl rfl (.nil rfl)) rfl fun fr=>?_
   refine k_cF rfl (decide_eq_false (by omega)) (zR (k_seq (kQ (zC rfl (zA (zP ?_))))))
   refine wD (fun kk s2=>∃i:Nat,kk+i=b.players.length∧s2.st=[.box [.int .i64 b.parts,.int .i64 b.size,.lst .ro 1 (zE b.beats),.int .i64 b.start,.int .i64 b.fin,.int .i64 b.tlo,.int .i64 b.thi,.int .i64 b.slo,.int .i64 b.shi,.int .i64 b.notice,.lst .ro 3 (plsU b.players)]]∧Holds s2 [(1,.lst .ro 1 (zE bits)),(2,.box 0 0),(5,.lst .ro 1 (zE L)),(13,.int .i64 i)]) (fun kk s2 hI=>?_) b.players.length _ ⟨0,rfl,rfl,.c4 rfl rfl rfl rfl (.nil rfl)⟩
   obtain⟨i,hk,hst2,hs2⟩:=hI
   have hpn:=h.pn
   refine zL _ _ hs2 hst2 fun fr2=>?_
   by_cases hil:i<b.players.length
   ·obtain⟨p,hp1⟩:∃p,b.players[i]? =some p:=⟨b.players[i],List.getElem?_eq_getElem hil⟩
    have hpo:=pl_ok h hp1
    have q42:=ret42 (orc:=orc) hi h hok bits hp1
    rw[hN]at q42
    have hlen2:=truL_len b L bits p i (N+1)
    have hat:(truL b L bits p i (N+1))[N]? =some (truI b L bits p i N):=truL_at (by omega)
    have hb1:=tru_in h hok.rg bits hpo i N
    have hb2:=aft_b h false L hok.rg hpo N
    have hb3:aftF b true L N i=aftI b true L p N:=by unfold aftF;rw[hp1]
    have hb4:=hlat i hil
    rw[hb3]at hb4
    have h0:truI b L bits p i N=0:=by omega
    rw[h0]at hat
    generalize truL b L bits p i (N+1)=R at*
    refine k_seq (kQ (zB rfl (zF rfl rfl zAS (zG rfl rfl rfl sh25 rfl (yM rfl ty25 rfl (List.length_map _) ?_)))))
    refine zt rfl rfl rfl (zA (k_cT rfl (decide_eq_true (by omega)) (zR (k_seq (zP (kQ (zK rfl rfl rfl sh27 rfl (zB rfl ?_))))))))
    refine zB rfl (zB rfl (zQ rfl (q42) (.lrefl _) (zC rfl (zA (kQ (zB rfl (zB rfl (yM rfl ty22 rfl (List.length_map _) ?_))))))))
    refine zCP rfl rfl rfl (by unfold I64;omega) ?_
    refine wJ (u:=.int .i64 0) rfl ty22 rfl rfl (by omega) (by rw[show(((R.length:Nat):Int) - 1).toNat=N by omega];simp[hat]) cl3 ?_
    refine yD rfl rfl sh3 rfl ?_
    refine wZ rfl rfl rfl (zA ?_)
    refine zL [(1,.lst .ro 1 (zE bits)),(2,U.box 0 0),(5,.lst .ro 1 (zE L)),(13,.int .i64 ↑i),(161,U.bool (decide ((0:Int)≠(0:Int))))] ([SB.box [.int .i64 (Bk.parts b),.int .i64 (Bk.size b),.lst .ro 1 (zE (Bk.beats b)),.int .i64 (Bk.start b),.int .i64 (Bk.fin b),.int .i64 (Bk.tlo b),.int .i64 (Bk.thi b),.int .i64 (Bk.slo b),.int .i64 (Bk.shi b),.int .i64 (Bk.notice b),.lst .ro 3 (plsU (Bk.players b))]]) (.c4 rfl rfl rfl rfl (.cons rfl (.nil rfl))) rfl fun fr=>?_
    refine k_cF rfl rfl ?_
    refine zR (k_region (zB rfl ?_))
    refine yr rfl rfl rfl (by unfold I64;omega) (zC rfl (zA ?_))
    exact⟨kk - 1,by omega,i+1,by omega,rfl,.c4 rfl rfl rfl rfl (.nil rfl)⟩
   ·refine k_seq ?_
    refine kQ (zB rfl (zF rfl rfl zAS (zG rfl rfl rfl sh25 rfl (yM rfl ty25 rfl (List.length_map _) ?_))))
    refine zt rfl rfl rfl (zA (k_cF rfl (decide_eq_false (by omega)) (yj (kQ (zQ rfl (r24) (.lrefl _) (zC rfl (zA (zZ ?_))))))))
    refine⟨.inr rfl,_,.cons _ _ _ _ (.tmp 4) .nil,?_⟩
    exact .refl _
end
section
variable {is:FuncId→Bool}{orc:Known}
theorem zDv{P:Program}{t:TypeId}(n:Nat)(h:(match P.underlying t with|some (.struct fs)=>Nat.beq fs.size n|_=>false)=true):∃fs,P.underlying t=some (.struct fs):=by
 cases hu:P.underlying t with
 |none=>rw[hu]at h;cases h
 |some ty=>rw[hu]at h;cases ty<;>first|exact⟨_,rfl⟩|cases h
theorem u3:Tryd.prog.underlying 3=some (.int .i64):=by kernel_rfl
theorem u22:Tryd.prog.underlying 22=some (.slice 3):=by kernel_rfl
theorem u66:Tryd.prog.underlying 66=some (.slice 24):=by kernel_rfl
theorem u25:Tryd.prog.underlying 25=some (.slice 68):=by kernel_rfl
def fts(P:Program)(t:TypeId):List TypeId:=match P.underlying t with|some (.struct fs)=>fs.toList.map (·.type)|_=>[]
theorem f27:fts Tryd.prog 27=[3,3,22,3,3,24,24,3,25]:=by kernel_rfl
theorem f24:fts Tryd.prog 24=[3,3]:=by kernel_rfl
theorem f68:fts Tryd.prog 68=[24,66]:=by kernel_rfl
theorem clq24:Program.cellsOf Tryd.prog 24=2:=by kernel_rfl
theorem clq68:Program.cellsOf Tryd.prog 68=3:=by kernel_rfl
theorem clq3:Program.cellsOf Tryd.prog 3=1:=by kernel_rfl
theorem zCV{cs:List U}(h:Shp Tryd.prog 3 cs):∃n:Int,cs=[.int .i64 n]:=by
 cases h with
 |int _ k n hu _=>rw[u3]at hu;cases hu;exact⟨n,rfl⟩
 |bool _ _ hu=>rw[u3]at hu;cases hu
 |str _ _ hu=>rw[u3]at hu;cases hu
 |slice _ _ _ hu=>rw[u3]at hu;cases hu
 |struct _ _ _ hu=>rw[u3]at hu;cases hu
 |array _ _ _ _ hu=>rw[u3]at hu;cases hu
theorem zEB{P:Program}{t:TypeId}{cs:List U}(h:Shp P t cs)(hne:fts P t≠[]):∃fs:List Field,fs.map (·.type)=fts P t∧ShpF P fs cs:=by
 have no:∀{ty},P.underlying t=some ty→(∀fs,ty≠.struct fs)→False:=fun hu hn=>hne (by unfold fts;rw[hu];split<;>simp_all)
 cases h with
 |struct _ fs _ hu hf=>exact⟨fs.toList,by unfold fts;rw[hu],hf⟩
 |int _ k n hu _=>exact(no hu (by intro fs h;cases h)).elim
 |bool _ _ hu=>exact(no hu (by intro fs h;cases h)).elim
 |str _ _ hu=>exact(no hu (by intro fs h;cases h)).elim
 |slice _ _ _ hu=>exact(no hu (by intro fs h;cases h)).elim
 |array _ _ _ _ hu=>exact(no hu (by intro fs h;cases h)).elim
theorem yx{P:Program}{fs:List Field}{t:TypeId}{ts:List TypeId}{cs:List U}(h:ShpF P fs cs)(e:fs.map (·.type)=t::ts):∃gs xs ys,cs=xs++ys∧Shp P t xs∧ShpF P gs ys∧gs.map (·.type)=ts:=by
 cases h with
 |nil=>cases e
 |cons f fs xs ys h1 h2=>
  simp only[List.map_cons,List.cons.injEq]at e
  obtain⟨rfl,rfl⟩:=e
  exact⟨fs,xs,ys,rfl,h1,h2,rfl⟩
theorem shpF_nil{P:Program}{fs:List Field}{cs:List U}(h:ShpF P fs cs)(e:fs.map (·.type)=[]):cs=[]:=by
 cases h with
 |nil=>rfl
 |cons=>cases e
theorem zEw{cs:List U}(h:Shp Tryd.prog 24 cs):∃a b:Int,cs=[.int .i64 a,.int .i64 b]:=by
 obtain⟨fs,e,hf⟩:=zEB h (by rw[f24];simp)
 rw[f24]at e
 obtain⟨g1,a1,b1,rfl,k1,r1,e1⟩:=yx hf e
 obtain⟨g2,a2,b2,rfl,k2,r2,e2⟩:=yx r1 e1
 obtain rfl:=shpF_nil r2 e2
 obtain⟨x,rfl⟩:=zCV k1
 obtain⟨y,rfl⟩:=zCV k2
 exact⟨x,y,rfl⟩
theorem shpL_map{P:Program}{e:TypeId}{α:Type}{f:α→List U}{css:List (List U)}(h:ShpL P e css)(k:∀cs,Shp P e cs→∃q,cs=f q):∃l:List α,css=l.map f:=by
 induction css with
 |nil=>exact⟨[],rfl⟩
 |cons cs css ih=>
  cases h with
  |cons _ _ _ h1 h2=>
   obtain⟨q,rfl⟩:=k _ h1
   obtain⟨l,rfl⟩:=ih h2
   exact⟨q::l,rfl⟩
theorem zFT{P:Program}{t e:TypeId}{cs:List U}(hu:P.underlying t=some (.slice e))(h:Shp P t cs):∃css,ShpL P e css∧cs=[.lst .ro (P.cellsOf e) (css.map (eU P e))]:=by
 cases h with
 |slice _ e' css hu' hl=>rw[hu]at hu';cases hu';exact⟨css,hl,rfl⟩
 |int _ k n hu' _=>rw[hu]at hu';cases hu'
 |bool _ _ hu'=>rw[hu]at hu';cases hu'
 |str _ _ hu'=>rw[hu]at hu';cases hu'
 |struct _ _ _ hu'=>rw[hu]at hu';cases hu'
 |array _ _ _ _ hu'=>rw[hu]at hu';cases hu'
theorem eu68:∀cs,eU Tryd.prog 68 cs=.agg cs:=by
 obtain⟨fs,h⟩:=zDv (P:=Tryd.prog) (t:=68) 2 (by kernel_rfl)
 intro cs;unfold eU;rw[h]
theorem eu24:∀cs,eU Tryd.prog 24 cs=.agg cs:=by
 obtain⟨fs,h⟩:=zDv (P:=Tryd.prog) (t:=24) 2 (by kernel_rfl)
 intro cs;unfold eU;rw[h]
theorem eu3:∀cs,eU Tryd.prog 3 cs=cs.headD .junk:=by
 intro cs;unfold eU;rw[u3]
theorem map_ints{F:List U→U}(he:∀cs,F cs=cs.headD .junk)(l:List Int):(l.map fun n:Int=>[U.int .i64 n]).map F=zE l:=by
 rw[List.map_map]
 exact List.map_congr_left fun q _=>he _
theorem shp_ints{cs:List U}(h:Shp Tryd.prog 22 cs):∃l:List Int,cs=[.lst .ro 1 (zE l)]:=by
 obtain⟨css,hl,rfl⟩:=zFT u22 h
 obtain⟨l,rfl⟩:=shpL_map (f:=fun n:Int=>[.int .i64 n]) hl fun cs hcs=>zCV hcs
 refine⟨l,?_⟩
 rw[clq3,map_ints eu3]
theorem map_twos{F:List U→U}(he:∀cs,F cs=.agg cs)(l:List Two):(l.map fun q:Two=>[U.int .i64 q.a,.int .i64 q.b]).map F=yd l:=by
 rw[List.map_map]
 exact List.map_congr_left fun q _=>he _
theorem shp_spans{cs:List U}(h:Shp Tryd.prog 66 cs):∃l:List Two,cs=[.lst .ro 2 (yd l)]:=by
 obtain⟨css,hl,rfl⟩:=zFT u66 h
 obtain⟨l,rfl⟩:=shpL_map (f:=fun q:Two=>[.int .i64 q.a,.int .i64 q.b]) hl fun cs hcs=>by obtain⟨x,y,rfl⟩:=zEw hcs;exact⟨⟨x,y⟩,rfl⟩
 refine⟨l,?_⟩
 rw[clq24,map_twos eu24]
theorem shp_player{cs:List U}(h:Shp Tryd.prog 68 cs):∃p:Pl,cs=p.cs:=by
 obtain⟨fs,e,hf⟩:=zEB h (by rw[f68];simp)
 rw[f68]at e
 obtain⟨g1,a1,b1,rfl,k1,r1,e1⟩:=yx hf e
 obtain⟨g2,a2,b2,rfl,k2,r2,e2⟩:=yx r1 e1
 obtain rfl:=shpF_nil r2 e2
 obtain⟨x,y,rfl⟩:=zEw k1
 obtain⟨l,rfl⟩:=shp_spans k2
 exact⟨⟨x,y,l⟩,rfl⟩
theorem map_pls{F:List U→U}(he:∀cs,F cs=.agg cs)(l:List Pl):(l.map fun q:Pl=>q.cs).map F=plsU l:=by
 rw[List.map_map]
 exact List.map_congr_left fun q _=>he _
theorem shp_players{cs:List U}(h:Shp Tryd.prog 25 cs):∃l:List Pl,cs=[.lst .ro 3 (plsU l)]:=by
 obtain⟨css,hl,rfl⟩:=zFT u25 h
 obtain⟨l,rfl⟩:=shpL_map (f:=fun q:Pl=>q.cs) hl fun cs hcs=>shp_player hcs
 refine⟨l,?_⟩
 rw[clq68,map_pls eu68]
theorem shp_bk{cs:List U}(h:Shp Tryd.prog 27 cs):∃b:Bk,cs=b.cs:=by
 obtain⟨fs,e,hf⟩:=zEB h (by rw[f27];simp)
 rw[f27]at e
 obtain⟨g1,a1,b1,rfl,k1,r1,e1⟩:=yx hf e
 obtain⟨g2,a2,b2,rfl,k2,r2,e2⟩:=yx r1 e1
 obtain⟨g3,a3,b3,rfl,k3,r3,e3⟩:=yx r2 e2
 obtain⟨g4,a4,b4,rfl,k4,r4,e4⟩:=yx r3 e3
 obtain⟨g5,a5,b5,rfl,k5,r5,e5⟩:=yx r4 e4
 obtain⟨g6,a6,b6,rfl,k6,r6,e6⟩:=yx r5 e5
 obtain⟨g7,a7,b7,rfl,k7,r7,e7⟩:=yx r6 e6
 obtain⟨g8,a8,b8,rfl,k8,r8,e8⟩:=yx r7 e7
 obtain⟨g9,a9,b9,rfl,k9,r9,e9⟩:=yx r8 e8
 obtain rfl:=shpF_nil r9 e9
 obtain⟨parts,rfl⟩:=zCV k1
 obtain⟨size,rfl⟩:=zCV k2
 obtain⟨beats,rfl⟩:=shp_ints k3
 obtain⟨start,rfl⟩:=zCV k4
 obtain⟨fin,rfl⟩:=zCV k5
 obtain⟨tlo,thi,rfl⟩:=zEw k6
 obtain⟨slo,shi,rfl⟩:=zEw k7
 obtain⟨notice,rfl⟩:=zCV k8
 obtain⟨players,rfl⟩:=shp_players k9
 exact⟨⟨parts,size,beats,start,fin,tlo,thi,slo,shi,notice,players⟩,rfl⟩
theorem und27:∃fs,Tryd.prog.underlying 27=some (.struct fs):=zDv (P:=Tryd.prog) (t:=27) 9 (by kernel_rfl)
theorem arg_bk{u:U}(h:∃cs,u=.agg cs∧Shp Tryd.prog 27 cs):∃b:Bk,u=b.u:=by
 obtain⟨cs,rfl,h⟩:=h
 obtain⟨b,rfl⟩:=shp_bk h
 exact⟨b,rfl⟩
theorem arg_ints{u:U}(h:Shp Tryd.prog 22 [u]):∃l:List Int,u=.lst .ro 1 (zE l):=by
 obtain⟨l,e⟩:=shp_ints h
 cases e
 exact⟨l,rfl⟩
end
section
variable {is:FuncId→Bool}{orc:Known}
theorem ret7_all(hi:Off is)(r24:RetP Tryd.prog is orc 24 [] (.bool true)):∀us,ShpAs Tryd.prog [27,22] us→RetP Tryd.prog is orc 7 us (.bool true):=by
 intro us h
 cases h with
 |cons _ _ u us h1 h=>cases h with
 |cons _ _ v us h2 h=>
 cases h
 obtain⟨fs,hu⟩:=und27
 unfold ShpA at h1 h2
 rw[hu]at h1
 rw[u22]at h2
 obtain⟨b,rfl⟩:=arg_bk h1
 obtain⟨l,rfl⟩:=arg_ints h2
 exact ret7 hi b l r24
end
end Go.Proofs.YtfbmlibilcjlgaaDoor.drumGong
