import Derived.Test.YtfbmlibilcjlgaaDoorVamT5
set_option linter.unusedVariables false
set_option linter.unusedSimpArgs false
set_option linter.constructorNameAsVariable false
namespace Go.Proofs.YtfbmlibilcjlgaaDoor.drumEnds
open Vam
section
variable {is:FuncId→Bool}{orc:Known}
noncomputable def b63:Code:=(Tryd.f63.body).getD .skip
theorem body63:bodyOf Tryd.prog 63=some (15,b63,[.tmp 4]):=by kernel_rfl
theorem pure63:pureFn Tryd.prog 63=true:=by kernel_rfl
noncomputable def b64:Code:=(Tryd.f64.body).getD .skip
theorem body64:bodyOf Tryd.prog 64=some (13,b64,[.tmp 4]):=by kernel_rfl
theorem pure64:pureFn Tryd.prog 64=true:=by kernel_rfl
noncomputable def b95:Code:=(Tryd.f95.body).getD .skip
theorem body95:bodyOf Tryd.prog 95=some (10,b95,[.tmp 2]):=by kernel_rfl
theorem pure95:pureFn Tryd.prog 95=true:=by kernel_rfl
noncomputable def b61:Code:=(Tryd.f61.body).getD .skip
theorem body61:bodyOf Tryd.prog 61=some (19,b61,[.tmp 5]):=by kernel_rfl
theorem pure61:pureFn Tryd.prog 61=false:=by kernel_rfl
noncomputable def b19:Code:=(Tryd.f19.body).getD .skip
theorem body19:bodyOf Tryd.prog 19=some (42,b19,[.cell 8 24,.tmp 9]):=by kernel_rfl
theorem pure19:pureFn Tryd.prog 19=true:=by kernel_rfl
theorem ret63(hi:Off is)(b:Bk)(n:Int):RetP Tryd.prog is orc 63 [b.u,.int .i64 n] (.bool (decide (0≤n)&&decide (n<b.players.length))):=by
 refine yK body63 pure63 (hi 63 (by decide)) rfl rfl (yz (wV b 4) (.int _ _ _)) (.inl (.bool _ _)) ?_
 by_cases h:0≤n
 ·rw[decide_eq_true h,Bool.true_and]
  refine kQ (yI rfl rfl (zD rfl (zA ?_)))
  refine zO [(1,.int .i64 n),(2,U.box 0 0)] ([SB.box [.int .i64 (Bk.parts b),.int .i64 (Bk.size b),.lst .ro 1 (zH (Bk.beats b)),.int .i64 (Bk.start b),.int .i64 (Bk.fin b),.int .i64 (Bk.tlo b),.int .i64 (Bk.thi b),.int .i64 (Bk.slo b),.int .i64 (Bk.shi b),.int .i64 (Bk.notice b),.lst .ro 3 (plsU (Bk.players b))]]) (.cons rfl (.cons rfl (.nil rfl))) rfl fun fr=>?_
  refine kQ (zC rfl (zBR rfl rfl rfl (zC rfl (o_gD rfl rfl rfl rfl (decide_eq_true (by omega)) ?_))))
  refine zC rfl (o_gD rfl rfl rfl rfl (decide_eq_true (by omega)) ?_)
  refine zE rfl rfl yd (o_gD rfl rfl rfl rfl (decide_eq_true (by omega)) ?_)
  refine zE rfl rfl yW (o_gD rfl rfl rfl rfl (decide_eq_true (by omega)) ?_)
  refine zG rfl rfl rfl sh25 rfl (o_gD rfl rfl rfl rfl (decide_eq_true (by omega)) ?_)
  refine wI rfl ty25 rfl (List.length_map _) ?_
  refine o_gD rfl rfl rfl rfl (decide_eq_true (by omega)) ?_
  refine yR rfl rfl rfl (zU rfl rfl (decide_eq_true (by omega)) ?_)
  refine zD rfl (zA (zh ?_))
  refine⟨.inr rfl,_,.cons _ _ _ _ (.tmp 4) .nil,?_⟩
  exact .refl _
 ·rw[decide_eq_false h,Bool.false_and]
  refine kQ (yI rfl rfl (zD rfl (zA ?_)))
  refine zO [(1,.int .i64 n),(2,U.box 0 0)] ([SB.box [.int .i64 (Bk.parts b),.int .i64 (Bk.size b),.lst .ro 1 (zH (Bk.beats b)),.int .i64 (Bk.start b),.int .i64 (Bk.fin b),.int .i64 (Bk.tlo b),.int .i64 (Bk.thi b),.int .i64 (Bk.slo b),.int .i64 (Bk.shi b),.int .i64 (Bk.notice b),.lst .ro 3 (plsU (Bk.players b))]]) (.cons rfl (.cons rfl (.nil rfl))) rfl fun fr=>?_
  refine kQ (zC rfl (zBR rfl rfl rfl (zC rfl (o_gS rfl rfl rfl rfl (decide_eq_false (by omega)) ?_))))
  refine o_gS rfl rfl rfl rfl (decide_eq_false (by omega)) ?_
  refine o_gS rfl rfl rfl rfl (decide_eq_false (by omega)) ?_
  refine o_gS rfl rfl rfl rfl (decide_eq_false (by omega)) ?_
  refine o_gS rfl rfl rfl rfl (decide_eq_false (by omega)) ?_
  refine o_gS rfl rfl rfl rfl (decide_eq_false (by omega)) ?_
  refine zS rfl rfl (decide_eq_false (by omega)) ?_
  refine zD rfl (zA (zh ?_))
  refine⟨.inr rfl,_,.cons _ _ _ _ (.tmp 4) .nil,?_⟩
  exact .refl _
theorem mul_ps{b:Bk}(hb:BOk b):1≤b.parts*b.size∧b.parts*b.size≤128:=by
 have hp:=hb.pa
 have hs:=hb.sz
 constructor
 ·have:=Int.mul_le_mul hp.1 hs.1 (by omega) (by omega)
  omega
 ·have:=Int.mul_le_mul hp.2 hs.2 (by omega) (by omega)
  omega
theorem ret95(hi:Off is){b:Bk}(hb:BOk b):RetP Tryd.prog is orc 95 [b.u] (.int .i64 (b.parts*b.size)):=by
 refine yK body95 pure95 (hi 95 (by decide)) rfl rfl (zBa (wV b 4)) (.inl (.int _ _ _)) ?_
 have:=mul_ps hb
 refine kQ (yI rfl rfl (zD rfl (zA ?_)))
 refine zO [(1,U.box 0 0)] ([SB.box [.int .i64 (Bk.parts b),.int .i64 (Bk.size b),.lst .ro 1 (zH (Bk.beats b)),.int .i64 (Bk.start b),.int .i64 (Bk.fin b),.int .i64 (Bk.tlo b),.int .i64 (Bk.thi b),.int .i64 (Bk.slo b),.int .i64 (Bk.shi b),.int .i64 (Bk.notice b),.lst .ro 3 (plsU (Bk.players b))]]) (.cons rfl (.nil rfl)) rfl fun fr=>?_
 refine kQ (zE rfl rfl yd (zE rfl rfl zAb (zG rfl rfl rfl sh3 rfl (zE rfl rfl yd (zE rfl rfl wg (zG rfl rfl rfl sh3 rfl ?_))))))
 refine o_mul rfl rfl rfl (by unfold I64;omega) ?_
 refine zD rfl (zA (zh ?_))
 refine⟨.inr rfl,_,.cons _ _ _ _ (.tmp 2) .nil,?_⟩
 exact .refl _
theorem ret64(hi:Off is){b:Bk}(hb:BOk b)(n:Int):RetP Tryd.prog is orc 64 [b.u,.int .i64 n] (.bool (decide (0≤n)&&decide (n≤b.parts*b.size))):=by
 refine yK body64 pure64 (hi 64 (by decide)) rfl rfl (yz (wV b 4) (.int _ _ _)) (.inl (.bool _ _)) ?_
 have q95:=ret95 (orc:=orc) hi hb
 by_cases h:0≤n
 ·rw[decide_eq_true h,Bool.true_and]
  refine kQ (yI rfl rfl (zD rfl (zA ?_)))
  refine zO [(1,.int .i64 n),(2,U.box 0 0)] ([SB.box [.int .i64 (Bk.parts b),.int .i64 (Bk.size b),.lst .ro 1 (zH (Bk.beats b)),.int .i64 (Bk.start b),.int .i64 (Bk.fin b),.int .i64 (Bk.tlo b),.int .i64 (Bk.thi b),.int .i64 (Bk.slo b),.int .i64 (Bk.shi b),.int .i64 (Bk.notice b),.lst .ro 3 (plsU (Bk.players b))]]) (.cons rfl (.cons rfl (.nil rfl))) rfl fun fr=>?_
  refine kQ (zC rfl (zBR rfl rfl rfl (zC rfl (o_gD rfl rfl rfl rfl (decide_eq_true (by omega)) ?_))))
  refine zC rfl (o_gD rfl rfl rfl rfl (decide_eq_true (by omega)) ?_)
  refine zN rfl rfl rfl sh75 rfl (o_gD rfl rfl rfl rfl (decide_eq_true (by omega)) ?_)
  refine zP rfl (q95) (.lrefl _) (o_gD rfl rfl rfl rfl (decide_eq_true (by omega)) ?_)
  refine zBR rfl rfl rfl (zU rfl rfl (decide_eq_true (by omega)) ?_)
  refine zD rfl (zA (zh ?_))
  refine⟨.inr rfl,_,.cons _ _ _ _ (.tmp 4) .nil,?_⟩
  exact .refl _
 ·rw[decide_eq_false h,Bool.false_and]
  refine kQ (yI rfl rfl (zD rfl (zA ?_)))
  refine zO [(1,.int .i64 n),(2,U.box 0 0)] ([SB.box [.int .i64 (Bk.parts b),.int .i64 (Bk.size b),.lst .ro 1 (zH (Bk.beats b)),.int .i64 (Bk.start b),.int .i64 (Bk.fin b),.int .i64 (Bk.tlo b),.int .i64 (Bk.thi b),.int .i64 (Bk.slo b),.int .i64 (Bk.shi b),.int .i64 (Bk.notice b),.lst .ro 3 (plsU (Bk.players b))]]) (.cons rfl (.cons rfl (.nil rfl))) rfl fun fr=>?_
  refine kQ (zC rfl (zBR rfl rfl rfl (zC rfl (o_gS rfl rfl rfl rfl (decide_eq_false (by omega)) ?_))))
  refine o_gS rfl rfl rfl rfl (decide_eq_false (by omega)) ?_
  refine o_gS rfl rfl rfl rfl (decide_eq_false (by omega)) ?_
  refine o_gS rfl rfl rfl rfl (decide_eq_false (by omega)) ?_
  refine zS rfl rfl (decide_eq_false (by omega)) ?_
  refine zD rfl (zA (zh ?_))
  refine⟨.inr rfl,_,.cons _ _ _ _ (.tmp 4) .nil,?_⟩
  exact .refl _
set_option maxHeartbeats 8000000 in
theorem wpc60v(hi:Off is){b:Bk}(hb:BOk b){st:List SB}{g:Nat}{B:List U}(hg:∀X,WpC Tryd.prog is orc g ([b.u]++B) (st++X) fun u st'=>u=.bool true∧∃e,st'=(st++X)++e):WpC Tryd.prog is orc 60 [b.u,.lst .ro 1 [.fn g [] B]] st fun u st'=>u=.tup [b.u,.int .i64 0]∧∃e,st'=st++e:=by
 refine wpc_of body60 pure60 rfl rfl ?_
 have q17:=ret17 (orc:=orc) hi b
 rw[if_pos ((zDJ b).2 hb)]at q17
 refine kQ (yI rfl rfl (zz rfl ze75 ?_))
 refine zD rfl (zA ?_)
 refine zO [(1,.lst .ro 1 [U.fn g [] B]),(2,U.box (List.length st) 0),(4,U.box (List.length (st++[SB.box [.int .i64 (Bk.parts b),.int .i64 (Bk.size b),.lst .ro 1 (zH (Bk.beats b)),.int .i64 (Bk.start b),.int .i64 (Bk.fin b),.int .i64 (Bk.tlo b),.int .i64 (Bk.thi b),.int .i64 (Bk.slo b),.int .i64 (Bk.shi b),.int .i64 (Bk.notice b),.lst .ro 3 (plsU (Bk.players b))]])) 0)] (st++[SB.box [.int .i64 (Bk.parts b),.int .i64 (Bk.size b),.lst .ro 1 (zH (Bk.beats b)),.int .i64 (Bk.start b),.int .i64 (Bk.fin b),.int .i64 (Bk.tlo b),.int .i64 (Bk.thi b),.int .i64 (Bk.slo b),.int .i64 (Bk.shi b),.int .i64 (Bk.notice b),.lst .ro 3 (plsU (Bk.players b))]]++[SB.box [.int .i64 0,.int .i64 0,.lst .full 0 [],.int .i64 0,.int .i64 0,.int .i64 0,.int .i64 0,.int .i64 0,.int .i64 0,.int .i64 0,.lst .full 0 []]]) (.cons rfl (.cons rfl (.cons rfl (.nil rfl)))) rfl fun fr=>?_
 refine k_seq (kQ (zN rfl rfl (yO (yB _ _)) sh27 rfl ?_))
 refine zP rfl (q17) (.lrefl _) (zD rfl (zA (kQ (zC rfl (zFQ rfl rfl rfl (zA (k_cF rfl rfl ?_)))))))
 refine zk (kQ (zN rfl rfl (yO (yB _ _)) sh27 rfl ?_))
 refine ww rfl ze75 pl75 rfl rfl ?_
 refine zz rfl ze75 ?_
 refine zb rfl (yB _ _) sh75 rfl rfl rfl rfl rfl ?_
 refine zA ?_
 refine zO [(1,.lst .ro 1 [U.fn g [] B]),(4,U.box (List.length (st++[SB.box [.int .i64 (Bk.parts b),.int .i64 (Bk.size b),.lst .ro 1 (zH (Bk.beats b)),.int .i64 (Bk.start b),.int .i64 (Bk.fin b),.int .i64 (Bk.tlo b),.int .i64 (Bk.thi b),.int .i64 (Bk.slo b),.int .i64 (Bk.shi b),.int .i64 (Bk.notice b),.lst .ro 3 (plsU (Bk.players b))]])) 0),(7,U.box (List.length (st++[SB.box [.int .i64 (Bk.parts b),.int .i64 (Bk.size b),.lst .ro 1 (zH (Bk.beats b)),.int .i64 (Bk.start b),.int .i64 (Bk.fin b),.int .i64 (Bk.tlo b),.int .i64 (Bk.thi b),.int .i64 (Bk.slo b),.int .i64 (Bk.shi b),.int .i64 (Bk.notice b),.lst .ro 3 (plsU (Bk.players b))]]++[SB.box [.int .i64 0,.int .i64 0,.lst .full 0 [],.int .i64 0,.int .i64 0,.int .i64 0,.int .i64 0,.int .i64 0,.int .i64 0,.int .i64 0,.lst .full 0 []]])) 0)] (st++[SB.box [.int .i64 (Bk.parts b),.int .i64 (Bk.size b),.lst .ro 1 (zH (Bk.beats b)),.int .i64 (Bk.start b),.int .i64 (Bk.fin b),.int .i64 (Bk.tlo b),.int .i64 (Bk.thi b),.int .i64 (Bk.slo b),.int .i64 (Bk.shi b),.int .i64 (Bk.notice b),.lst .ro 3 (plsU (Bk.players b))]]++[SB.box [.int .i64 0,.int .i64 0,.lst .full 0 [],.int .i64 0,.int .i64 0,.int .i64 0,.int .i64 0,.int .i64 0,.int .i64 0,.int .i64 0,.lst .full 0 []]]++[SB.box [.int .i64 (Bk.parts b),.int .i64 (Bk.size b),.lst .ro 1 (zH (Bk.beats b)),.int .i64 (Bk.start b),.int .i64 (Bk.fin b),.int .i64 (Bk.tlo b),.int .i64 (Bk.thi b),.int .i64 (Bk.slo b),.int .i64 (Bk.shi b),.int .i64 (Bk.notice b),.lst .ro 3 (plsU (Bk.players b))]]) (.cons rfl (.cons rfl (.cons rfl (.nil rfl)))) (wW _ _ _) fun fr=>?_
 refine k_seq (kQ (zC rfl (wI rfl ty116 rfl rfl ?_)))
 refine zC rfl (zA (zc ?_))
 refine wl (fun kk s2=>∃X:List SB,s2.st=st++X∧X[1]? =some (.box [.int .i64 0,.int .i64 0,.lst .full 0 [],.int .i64 0,.int .i64 0,.int .i64 0,.int .i64 0,.int .i64 0,.int .i64 0,.int .i64 0,.lst .full 0 []])∧X[2]? =some (.box [.int .i64 b.parts,.int .i64 b.size,.lst .ro 1 (zH b.beats),.int .i64 b.start,.int .i64 b.fin,.int .i64 b.tlo,.int .i64 b.thi,.int .i64 b.slo,.int .i64 b.shi,.int .i64 b.notice,.lst .ro 3 (plsU b.players)])∧((kk=1∧Holds s2 [(4,.box (st.length+1) 0),(7,.box (st.length+2) 0),(18,.lst .ro 1 [.fn g [] B]),(19,.int .i64 1),(20,.int .i64 0)])∨(kk=0∧Holds s2 [(4,.box (st.length+1) 0),(7,.box (st.length+2) 0),(18,.lst .ro 1 [.fn g [] B]),(19,.int .i64 1),(20,.int .i64 1)]))) (fun kk s2 hI=>?_) 1 _ ⟨[.box [.int .i64 b.parts,.int .i64 b.size,.lst .ro 1 (zH b.beats),.int .i64 b.start,.int .i64 b.fin,.int .i64 b.tlo,.int .i64 b.thi,.int .i64 b.slo,.int .i64 b.shi,.int .i64 b.notice,.lst .ro 3 (plsU b.players)],.box [.int .i64 0,.int .i64 0,.lst .full 0 [],.int .i64 0,.int .i64 0,.int .i64 0,.int .i64 0,.int .i64 0,.int .i64 0,.int .i64 0,.lst .full 0 []],.box [.int .i64 b.parts,.int .i64 b.size,.lst .ro 1 (zH b.beats),.int .i64 b.start,.int .i64 b.fin,.int .i64 b.tlo,.int .i64 b.thi,.int .i64 b.slo,.int .i64 b.shi,.int .i64 b.notice,.lst .ro 3 (plsU b.players)]],(by show((st++[SB.box _])++[SB.box _])++[SB.box _]=_;rw[List.append_assoc,List.append_assoc];rfl),rfl,rfl,.inl ⟨rfl,.cons (by show U.box (st++[SB.box _]).length 0=_;simp) (.cons (by show U.box ((st++[SB.box _])++[SB.box _]).length 0=_;simp) (.cons rfl (.cons rfl (.cons rfl (.nil rfl)))))⟩⟩
 obtain⟨X,hst2,x1,x2,⟨hk,hs2⟩|⟨hk,hs2⟩⟩:=hI
 ·have y1:=zGV (st:=st) x1
  have y2:=zGV (st:=st) x2
  refine zO _ _ hs2 hst2 fun fr2=>?_
  refine kQ (yR rfl rfl rfl (zA (k_seq (k_cT rfl rfl ?_))))
  refine zk (k_seq (zc (kQ (wR rfl ty116 rfl rfl (by decide) rfl cl83 ?_))))
  refine yE rfl rfl sh83 rfl ?_
  refine zD rfl (zA (kQ (zC rfl (zN rfl rfl y2 sh75 rfl ?_))))
  refine o_callV rfl rfl (hg X) (.lrefl _) (fun u st1 hM=>?_)
  obtain⟨rfl,e,rfl⟩:=hM
  refine zCm rfl rfl (zA (k_cF rfl rfl ?_))
  refine zk (k_region ?_)
  refine we rfl rfl rfl (by unfold I64;omega) (zC rfl (zA ?_))
  exact⟨0,by omega,X++e,(by show(st++X)++e=_;rw[List.append_assoc]),yO x1,yO x2,.inr ⟨rfl,.c4 rfl rfl rfl rfl (.cons rfl (.nil rfl))⟩⟩
 ·have y1:=zGV (st:=st) x1
  have y2:=zGV (st:=st) x2
  refine zO _ _ hs2 hst2 fun fr2=>?_
  have hl:st.length+1<(st++X).length:=(List.getElem?_eq_some_iff.1 y1).1
  refine kQ (yR rfl rfl rfl (zA (k_seq (k_cF rfl rfl ?_))))
  refine wU (kQ (zN rfl rfl y2 sh75 rfl ?_))
  refine zb rfl y1 sh75 rfl rfl rfl rfl rfl ?_
  refine zD rfl (zA (zh ?_))
  refine⟨.inr rfl,_,.cons _ _ _ _ (.cellN 4 75 (st.length+1) 0 11 [.int .i64 b.parts,.int .i64 b.size,.lst .ro 1 (zH b.beats),.int .i64 b.start,.int .i64 b.fin,.int .i64 b.tlo,.int .i64 b.thi,.int .i64 b.slo,.int .i64 b.shi,.int .i64 b.notice,.lst .ro 3 (plsU b.players)] rfl (List.getElem?_set_self hl) sh75 rfl) (.cons _ _ _ _ (.tmp 5) .nil),_,.refl _,rfl,_,set_off⟩
set_option maxHeartbeats 8000000 in
theorem wpc60z(hi:Off is){b:Bk}(hb:BOk b){st:List SB}:WpC Tryd.prog is orc 60 [b.u,.lst .full 0 []] st fun u st'=>u=.tup [b.u,.int .i64 0]∧∃e,st'=st++e:=by
 refine wpc_of body60 pure60 rfl rfl ?_
 have q17:=ret17 (orc:=orc) hi b
 rw[if_pos ((zDJ b).2 hb)]at q17
 refine kQ (yI rfl rfl (zz rfl ze75 ?_))
 refine zD rfl (zA ?_)
 refine zO [(1,.lst .full 0 []),(2,U.box (List.length st) 0),(4,U.box (List.length (st++[SB.box [.int .i64 (Bk.parts b),.int .i64 (Bk.size b),.lst .ro 1 (zH (Bk.beats b)),.int .i64 (Bk.start b),.int .i64 (Bk.fin b),.int .i64 (Bk.tlo b),.int .i64 (Bk.thi b),.int .i64 (Bk.slo b),.int .i64 (Bk.shi b),.int .i64 (Bk.notice b),.lst .ro 3 (plsU (Bk.players b))]])) 0)] (st++[SB.box [.int .i64 (Bk.parts b),.int .i64 (Bk.size b),.lst .ro 1 (zH (Bk.beats b)),.int .i64 (Bk.start b),.int .i64 (Bk.fin b),.int .i64 (Bk.tlo b),.int .i64 (Bk.thi b),.int .i64 (Bk.slo b),.int .i64 (Bk.shi b),.int .i64 (Bk.notice b),.lst .ro 3 (plsU (Bk.players b))]]++[SB.box [.int .i64 0,.int .i64 0,.lst .full 0 [],.int .i64 0,.int .i64 0,.int .i64 0,.int .i64 0,.int .i64 0,.int .i64 0,.int .i64 0,.lst .full 0 []]]) (.cons rfl (.cons rfl (.cons rfl (.nil rfl)))) rfl fun fr=>?_
 refine k_seq (kQ (zN rfl rfl (yO (yB _ _)) sh27 rfl ?_))
 refine zP rfl (q17) (.lrefl _) (zD rfl (zA (kQ (zC rfl (zFQ rfl rfl rfl (zA (k_cF rfl rfl ?_)))))))
 refine zk (kQ (zN rfl rfl (yO (yB _ _)) sh27 rfl ?_))
 refine ww rfl ze75 pl75 rfl rfl ?_
 refine zz rfl ze75 ?_
 refine zb rfl (yB _ _) sh75 rfl rfl rfl rfl rfl ?_
 refine zA ?_
 refine zO [(1,.lst .full 0 []),(4,U.box (List.length (st++[SB.box [.int .i64 (Bk.parts b),.int .i64 (Bk.size b),.lst .ro 1 (zH (Bk.beats b)),.int .i64 (Bk.start b),.int .i64 (Bk.fin b),.int .i64 (Bk.tlo b),.int .i64 (Bk.thi b),.int .i64 (Bk.slo b),.int .i64 (Bk.shi b),.int .i64 (Bk.notice b),.lst .ro 3 (plsU (Bk.players b))]])) 0),(7,U.box (List.length (st++[SB.box [.int .i64 (Bk.parts b),.int .i64 (Bk.size b),.lst .ro 1 (zH (Bk.beats b)),.int .i64 (Bk.start b),.int .i64 (Bk.fin b),.int .i64 (Bk.tlo b),.int .i64 (Bk.thi b),.int .i64 (Bk.slo b),.int .i64 (Bk.shi b),.int .i64 (Bk.notice b),.lst .ro 3 (plsU (Bk.players b))]]++[SB.box [.int .i64 0,.int .i64 0,.lst .full 0 [],.int .i64 0,.int .i64 0,.int .i64 0,.int .i64 0,.int .i64 0,.int .i64 0,.int .i64 0,.lst .full 0 []]])) 0)] (st++[SB.box [.int .i64 (Bk.parts b),.int .i64 (Bk.size b),.lst .ro 1 (zH (Bk.beats b)),.int .i64 (Bk.start b),.int .i64 (Bk.fin b),.int .i64 (Bk.tlo b),.int .i64 (Bk.thi b),.int .i64 (Bk.slo b),.int .i64 (Bk.shi b),.int .i64 (Bk.notice b),.lst .ro 3 (plsU (Bk.players b))]]++[SB.box [.int .i64 0,.int .i64 0,.lst .full 0 [],.int .i64 0,.int .i64 0,.int .i64 0,.int .i64 0,.int .i64 0,.int .i64 0,.int .i64 0,.lst .full 0 []]]++[SB.box [.int .i64 (Bk.parts b),.int .i64 (Bk.size b),.lst .ro 1 (zH (Bk.beats b)),.int .i64 (Bk.start b),.int .i64 (Bk.fin b),.int .i64 (Bk.tlo b),.int .i64 (Bk.thi b),.int .i64 (Bk.slo b),.int .i64 (Bk.shi b),.int .i64 (Bk.notice b),.lst .ro 3 (plsU (Bk.players b))]]) (.cons rfl (.cons rfl (.cons rfl (.nil rfl)))) (wW _ _ _) fun fr=>?_
 refine k_seq (kQ (zC rfl (wI rfl ty116 rfl rfl ?_)))
 refine zC rfl (zA (zc ?_))
 refine wl (fun kk s2=>∃X:List SB,s2.st=st++X∧X[1]? =some (.box [.int .i64 0,.int .i64 0,.lst .full 0 [],.int .i64 0,.int .i64 0,.int .i64 0,.int .i64 0,.int .i64 0,.int .i64 0,.int .i64 0,.lst .full 0 []])∧X[2]? =some (.box [.int .i64 b.parts,.int .i64 b.size,.lst .ro 1 (zH b.beats),.int .i64 b.start,.int .i64 b.fin,.int .i64 b.tlo,.int .i64 b.thi,.int .i64 b.slo,.int .i64 b.shi,.int .i64 b.notice,.lst .ro 3 (plsU b.players)])∧kk=0∧Holds s2 [(4,.box (st.length+1) 0),(7,.box (st.length+2) 0),(18,.lst .full 0 []),(19,.int .i64 0),(20,.int .i64 0)]) (fun kk s2 hI=>?_) 0 _ ⟨[.box [.int .i64 b.parts,.int .i64 b.size,.lst .ro 1 (zH b.beats),.int .i64 b.start,.int .i64 b.fin,.int .i64 b.tlo,.int .i64 b.thi,.int .i64 b.slo,.int .i64 b.shi,.int .i64 b.notice,.lst .ro 3 (plsU b.players)],.box [.int .i64 0,.int .i64 0,.lst .full 0 [],.int .i64 0,.int .i64 0,.int .i64 0,.int .i64 0,.int .i64 0,.int .i64 0,.int .i64 0,.lst .full 0 []],.box [.int .i64 b.parts,.int .i64 b.size,.lst .ro 1 (zH b.beats),.int .i64 b.start,.int .i64 b.fin,.int .i64 b.tlo,.int .i64 b.thi,.int .i64 b.slo,.int .i64 b.shi,.int .i64 b.notice,.lst .ro 3 (plsU b.players)]],(by show((st++[SB.box _])++[SB.box _])++[SB.box _]=_;rw[List.append_assoc,List.append_assoc];rfl),rfl,rfl,rfl,.cons (by show U.box (st++[SB.box _]).length 0=_;simp) (.cons (by show U.box ((st++[SB.box _])++[SB.box _]).length 0=_;simp) (.cons rfl (.cons rfl (.cons rfl (.nil rfl)))))⟩
 obtain⟨X,hst2,x1,x2,hk,hs2⟩:=hI
 have y1:=zGV (st:=st) x1
 have y2:=zGV (st:=st) x2
 refine zO _ _ hs2 hst2 fun fr2=>?_
 have hl:st.length+1<(st++X).length:=(List.getElem?_eq_some_iff.1 y1).1
 refine kQ (yR rfl rfl rfl (zA (k_seq (k_cF rfl rfl ?_))))
 refine wU (kQ (zN rfl rfl y2 sh75 rfl ?_))
 refine zb rfl y1 sh75 rfl rfl rfl rfl rfl ?_
 refine zD rfl (zA (zh ?_))
 refine⟨.inr rfl,_,.cons _ _ _ _ (.cellN 4 75 (st.length+1) 0 11 [.int .i64 b.parts,.int .i64 b.size,.lst .ro 1 (zH b.beats),.int .i64 b.start,.int .i64 b.fin,.int .i64 b.tlo,.int .i64 b.thi,.int .i64 b.slo,.int .i64 b.shi,.int .i64 b.notice,.lst .ro 3 (plsU b.players)] rfl (List.getElem?_set_self hl) sh75 rfl) (.cons _ _ _ _ (.tmp 5) .nil),_,.refl _,rfl,_,set_off⟩
theorem wpc61(hi:Off is){b:Bk}{l:List Int}(hb:BOk b)(h:POk b l){st:List SB}{j k m:Nat}{pl bt:Int}(hj:st[j]? =some (.box [.lst .ro 1 (zH l)]))(hk:st[k]? =some (.box [.int .i64 pl]))(hm:st[m]? =some (.box [.int .i64 bt]))(hp:0≤pl∧pl<b.players.length)(hbt:0≤bt∧bt≤b.parts*b.size):WpC Tryd.prog is orc 61 [b.u,.box j 0,.box k 0,.box m 0] st fun u st'=>u=.bool true∧∃e,st'=st++e:=by
 refine wpc_of body61 pure61 rfl rfl ?_
 have q62:=ret62 (orc:=orc) hi hb h
 have q63:RetP Tryd.prog is orc 63 [b.u,.int .i64 pl] (.bool true):=by
  have:=ret63 (orc:=orc) hi b pl
  rw[decide_eq_true hp.1,decide_eq_true hp.2]at this;exact this
 have q64:RetP Tryd.prog is orc 64 [b.u,.int .i64 bt] (.bool true):=by
  have:=ret64 (orc:=orc) hi hb bt
  rw[decide_eq_true hbt.1,decide_eq_true hbt.2]at this;exact this
 refine kQ (yI rfl rfl (zD rfl (zA ?_)))
 refine zO [(1,U.box j 0),(2,U.box k 0),(3,U.box m 0),(4,U.box (List.length st) 0)] (st++[SB.box [.int .i64 (Bk.parts b),.int .i64 (Bk.size b),.lst .ro 1 (zH (Bk.beats b)),.int .i64 (Bk.start b),.int .i64 (Bk.fin b),.int .i64 (Bk.tlo b),.int .i64 (Bk.thi b),.int .i64 (Bk.slo b),.int .i64 (Bk.shi b),.int .i64 (Bk.notice b),.lst .ro 3 (plsU (Bk.players b))]]) (.c4 rfl rfl rfl rfl (.nil rfl)) rfl fun fr=>?_
 refine kQ (zN rfl rfl (yB _ _) sh75 rfl ?_)
 refine zG rfl rfl (yO hj) sh22 rfl ?_
 refine zP rfl (q62) (.lrefl _) (zC rfl (o_gD rfl rfl rfl rfl rfl (zN rfl rfl (yB _ _) sh75 rfl ?_)))
 refine o_gD rfl rfl rfl rfl rfl (zG rfl rfl (yO hk) sh3 rfl ?_)
 refine o_gD rfl rfl rfl rfl rfl (zP rfl (q63) (.lrefl _) (zU rfl rfl rfl ?_))
 refine zC rfl ?_
 refine zW [(3,U.box m 0),(4,U.box (List.length st) 0),(14,.bool true)] [] (st++[SB.box [.int .i64 (Bk.parts b),.int .i64 (Bk.size b),.lst .ro 1 (zH (Bk.beats b)),.int .i64 (Bk.start b),.int .i64 (Bk.fin b),.int .i64 (Bk.tlo b),.int .i64 (Bk.thi b),.int .i64 (Bk.slo b),.int .i64 (Bk.shi b),.int .i64 (Bk.notice b),.lst .ro 3 (plsU (Bk.players b))]]) (.cons rfl (.cons rfl (.cons rfl (.nil rfl)))) rfl rfl fun fr=>?_
 refine o_gD rfl rfl rfl rfl rfl ?_
 refine zW [(3,U.box m 0),(4,U.box (List.length st) 0),(14,.bool true)] [] (st++[SB.box [.int .i64 (Bk.parts b),.int .i64 (Bk.size b),.lst .ro 1 (zH (Bk.beats b)),.int .i64 (Bk.start b),.int .i64 (Bk.fin b),.int .i64 (Bk.tlo b),.int .i64 (Bk.thi b),.int .i64 (Bk.slo b),.int .i64 (Bk.shi b),.int .i64 (Bk.notice b),.lst .ro 3 (plsU (Bk.players b))]]) (.cons rfl (.cons rfl (.cons rfl (.nil rfl)))) rfl rfl fun fr=>?_
 refine zN rfl rfl (yB _ _) sh75 rfl ?_
 refine o_gD rfl rfl rfl rfl rfl (zG rfl rfl (yO hm) sh3 rfl ?_)
 refine o_gD rfl rfl rfl rfl rfl (zP rfl (q64) (.lrefl _) (zU rfl rfl rfl ?_))
 refine zD rfl (zA (zh ?_))
 refine⟨.inr rfl,_,.cons _ _ _ _ (.tmp 5) .nil,?_⟩
 exact⟨_,.refl _,rfl,_,rfl⟩
theorem at_set2(l:List SB)(a b x:SB):((l++[a]++[b]).set l.length x)[(l++[a]).length]? =some b:=by simp
set_option maxHeartbeats 8000000 in
theorem ret19(hi:Off is){b:Bk}{L:List Int}(hb:BOk b)(h:POk b L){i n:Nat}(hpl:i<b.players.length)(hn:(n:Int)≤b.parts*b.size):RetP Tryd.prog is orc 19 [b.u,.lst .ro 1 (zH L),.int .i64 i,.int .i64 n] (.tup [yq (aftF b false L n i) (aftF b true L n i),.int .i64 0]):=by
 refine yK body19 pure19 (hi 19 (by decide)) rfl rfl (fun u hu=>?_) (.inr ⟨_,rfl,yz (k:=7) (wD _ _ _) (.int _ _ _)⟩) ?_
 ·simp only[List.mem_cons,List.not_mem_nil,or_false]at hu
  rcases hu with rfl|rfl|rfl|rfl
  ·exact wV b 4
  ·exact ya 6 .ro (fun h=>by cases h) 1 L
  ·exact .int _ _ _
  ·exact .int _ _ _
 have hi0:(0:Int)≤i∧(i:Int)<b.players.length:=by omega
 have hn0:(0:Int)≤n∧(n:Int)≤b.parts*b.size:=by omega
 have hpn:=hb.pn
 have q65:=ret65 (orc:=orc) hi b
 have q67:=ret67 (orc:=orc) hi b
 have qf:RetP Tryd.prog is orc 66 [truU b 96 97,.lst .ro 1 (zH L),.int .i64 n] (.agg (arrU (aftF b false L n))):=ret66 hi hb h false true rfl hn
 have qt:RetP Tryd.prog is orc 66 [truU b 97 96,.lst .ro 1 (zH L),.int .i64 n] (.agg (arrU (aftF b true L n))):=ret66 hi hb h true false rfl hn
 have af:=zGW (aftF b false L n) (show i<5 by omega)
 have at':=zGW (aftF b true L n) (show i<5 by omega)
 refine kQ (yI rfl rfl (yI rfl rfl (yI rfl rfl (yI rfl rfl (zz rfl ze24 ?_)))))
 refine zD rfl (zA ?_)
 refine zO [(4,U.box 0 0),(5,U.box 1 0),(6,U.box 2 0),(7,U.box 3 0),(8,U.box 4 0)] ([SB.box [.int .i64 (Bk.parts b),.int .i64 (Bk.size b),.lst .ro 1 (zH (Bk.beats b)),.int .i64 (Bk.start b),.int .i64 (Bk.fin b),.int .i64 (Bk.tlo b),.int .i64 (Bk.thi b),.int .i64 (Bk.slo b),.int .i64 (Bk.shi b),.int .i64 (Bk.notice b),.lst .ro 3 (plsU (Bk.players b))],SB.box [.lst .ro 1 (zH L)],SB.box [.int .i64 ↑i],SB.box [.int .i64 ↑n],SB.box [.int .i64 0,.int .i64 0]]) (.c4 rfl rfl rfl rfl (.cons rfl (.nil rfl))) rfl fun fr=>?_
 refine kQ (zN rfl rfl rfl sh27 rfl ?_)
 refine o_func rfl ?_
 refine zCn (es:=[U.fn 61 [] [U.box 1 0,U.box 2 0,U.box 3 0]]) rfl ty116 ze83 cl83 rfl rfl rfl rfl rfl rfl rfl rfl ?_
 refine o_callW rfl (wpc60v hi hb (fun X=>wpc61 hi hb h (j:=1) (k:=2) (m:=3) (yO rfl) (yO rfl) (yO rfl) hi0 hn0)) (.lcons _ _ _ _ (.refl _) (.lcons _ _ _ _ (.ro _ _ _) (.lrefl _))) (fun u st1 hM=>?_)
 obtain⟨rfl,e,hY⟩:=hM
 have y1:st1[1]? =some (.box [.lst .ro 1 (zH L)]):=by rw[hY];rfl
 have y2:st1[2]? =some (.box [.int .i64 i]):=by rw[hY];rfl
 have y3:st1[3]? =some (.box [.int .i64 n]):=by rw[hY];rfl
 have y4:st1[4]? =some (.box [.int .i64 0,.int .i64 0]):=by rw[hY];rfl
 clear hY
 obtain⟨Y,hY⟩:∃Y:List SB,Y=st1++[.box [.int .i64 b.parts,.int .i64 b.size,.lst .ro 1 (zH b.beats),.int .i64 b.start,.int .i64 b.fin,.int .i64 b.tlo,.int .i64 b.thi,.int .i64 b.slo,.int .i64 b.shi,.int .i64 b.notice,.lst .ro 3 (plsU b.players)]]:=⟨_,rfl⟩
 refine zC rfl (yk rfl rfl rfl (yk rfl rfl rfl (zz rfl ze75 ?_)))
 refine zb rfl (yB _ _) sh75 rfl rfl rfl rfl rfl ?_
 refine zD rfl (zA ?_)
 refine zO [(5,U.box 1 0),(6,U.box 2 0),(7,U.box 3 0),(8,U.box 4 0),(10,U.box (List.length st1) 0),(11,.int .i64 0)] (st1++[SB.box [.int .i64 (Bk.parts b),.int .i64 (Bk.size b),.lst .ro 1 (zH (Bk.beats b)),.int .i64 (Bk.start b),.int .i64 (Bk.fin b),.int .i64 (Bk.tlo b),.int .i64 (Bk.thi b),.int .i64 (Bk.slo b),.int .i64 (Bk.shi b),.int .i64 (Bk.notice b),.lst .ro 3 (plsU (Bk.players b))]]) (.c4 rfl rfl rfl rfl (.cons rfl (.cons rfl (.nil rfl)))) (wW _ _ _) fun fr=>?_
 refine k_seq (kQ (zC rfl (zFQ rfl rfl rfl (zA (k_cF rfl rfl ?_)))))
 refine zk (k_seq (zAc [.read true,.quiet,.read true,.read true,.quiet,.read true,.quiet,.read true,.read true,.quiet,.pre,.pre,.plain,.plain] (by kernel_rfl) (by kernel_rfl) (by kernel_rfl) ?_))
 refine zq rfl (zN rfl rfl (yB _ _) sh75 rfl (zA rfl)) ?_
 refine zDF rfl (q65) (.lrefl _) ?_
 refine zq rfl (zG rfl rfl (yO y1) sh22 rfl (zA rfl)) ?_
 refine zq rfl (zG rfl rfl (yO y3) sh3 rfl (zA rfl)) ?_
 refine zDF rfl (qf) (.lrefl _) ?_
 refine zq rfl (zN rfl rfl (yB _ _) sh75 rfl (zA rfl)) ?_
 refine zDF rfl (q67) (.lrefl _) ?_
 refine zq rfl (zG rfl rfl (yO y1) sh22 rfl (zA rfl)) ?_
 refine zq rfl (zG rfl rfl (yO y3) sh3 rfl (zA rfl)) ?_
 refine zAZ [(6,U.box 2 0),(8,U.box 4 0),(29,U.agg (arrU (aftF b Bool.false L n))),(31,U.agg (truC b 97 96)),(32,.lst .ro 1 (zH L)),(33,.int .i64 ↑n)] [] (st1++[SB.box [.int .i64 (Bk.parts b),.int .i64 (Bk.size b),.lst .ro 1 (zH (Bk.beats b)),.int .i64 (Bk.start b),.int .i64 (Bk.fin b),.int .i64 (Bk.tlo b),.int .i64 (Bk.thi b),.int .i64 (Bk.slo b),.int .i64 (Bk.shi b),.int .i64 (Bk.notice b),.lst .ro 3 (plsU (Bk.players b))]]) (.c4 rfl rfl rfl rfl (.cons rfl (.cons rfl (.nil rfl)))) rfl rfl fun fr=>?_
 refine zDF rfl (qt) (.lrefl _) ?_
 refine d_pre rfl ze85 ?_
 refine d_pre rfl ze85 ?_
 refine zF (zb rfl (yO (yB _ _)) sh85 rfl rfl rfl rfl rfl (zA rfl)) ?_
 refine zF (zb rfl (at_set2 _ _ _ _) sh85 rfl rfl rfl rfl rfl (zA rfl)) ?_
 refine zCS ?_
 refine zO [(6,U.box 2 0),(8,U.box 4 0),(12,U.box (List.length (st1++[SB.box [.int .i64 (Bk.parts b),.int .i64 (Bk.size b),.lst .ro 1 (zH (Bk.beats b)),.int .i64 (Bk.start b),.int .i64 (Bk.fin b),.int .i64 (Bk.tlo b),.int .i64 (Bk.thi b),.int .i64 (Bk.slo b),.int .i64 (Bk.shi b),.int .i64 (Bk.notice b),.lst .ro 3 (plsU (Bk.players b))]])) 0),(13,U.box (List.length (st1++[SB.box [.int .i64 (Bk.parts b),.int .i64 (Bk.size b),.lst .ro 1 (zH (Bk.beats b)),.int .i64 (Bk.start b),.int .i64 (Bk.fin b),.int .i64 (Bk.tlo b),.int .i64 (Bk.thi b),.int .i64 (Bk.slo b),.int .i64 (Bk.shi b),.int .i64 (Bk.notice b),.lst .ro 3 (plsU (Bk.players b))]]++[SB.box [.int .i64 0,.int .i64 0,.int .i64 0,.int .i64 0,.int .i64 0]])) 0)] (List.set (List.set (st1++[SB.box [.int .i64 (Bk.parts b),.int .i64 (Bk.size b),.lst .ro 1 (zH (Bk.beats b)),.int .i64 (Bk.start b),.int .i64 (Bk.fin b),.int .i64 (Bk.tlo b),.int .i64 (Bk.thi b),.int .i64 (Bk.slo b),.int .i64 (Bk.shi b),.int .i64 (Bk.notice b),.lst .ro 3 (plsU (Bk.players b))]]++[SB.box [.int .i64 0,.int .i64 0,.int .i64 0,.int .i64 0,.int .i64 0]]++[SB.box [.int .i64 0,.int .i64 0,.int .i64 0,.int .i64 0,.int .i64 0]]) (List.length (St.st (St.dst {fr:=fun j=>zDs [(6,U.box 2 0),(8,U.box 4 0),(29,U.agg (arrU (aftF b Bool.false L n))),(31,U.agg (truC b 97 96)),(32,.lst .ro 1 (zH L)),(33,.int .i64 ↑n)] j (fr j),al:=[],st:=st1++[SB.box [.int .i64 (Bk.parts b),.int .i64 (Bk.size b),.lst .ro 1 (zH (Bk.beats b)),.int .i64 (Bk.start b),.int .i64 (Bk.fin b),.int .i64 (Bk.tlo b),.int .i64 (Bk.thi b),.int .i64 (Bk.slo b),.int .i64 (Bk.shi b),.int .i64 (Bk.notice b),.lst .ro 3 (plsU (Bk.players b))]]} (Option.some 34) (dg (U.agg (arrU (aftF b Bool.true L n))))))) (SB.box [.int .i64 (aftF b Bool.false L n (nat_lit 0)),.int .i64 (aftF b Bool.false L n (nat_lit 1)),.int .i64 (aftF b Bool.false L n (nat_lit 2)),.int .i64 (aftF b Bool.false L n (nat_lit 3)),.int .i64 (aftF b Bool.false L n (nat_lit 4))])) (List.length (St.st (St.put (St.newB (St.dst {fr:=fun j=>zDs [(6,U.box 2 0),(8,U.box 4 0),(29,U.agg (arrU (aftF b Bool.false L n))),(31,U.agg (truC b 97 96)),(32,.lst .ro 1 (zH L)),(33,.int .i64 ↑n)] j (fr j),al:=[],st:=st1++[SB.box [.int .i64 (Bk.parts b),.int .i64 (Bk.size b),.lst .ro 1 (zH (Bk.beats b)),.int .i64 (Bk.start b),.int .i64 (Bk.fin b),.int .i64 (Bk.tlo b),.int .i64 (Bk.thi b),.int .i64 (Bk.slo b),.int .i64 (Bk.shi b),.int .i64 (Bk.notice b),.lst .ro 3 (plsU (Bk.players b))]]} (Option.some 34) (dg (U.agg (arrU (aftF b Bool.true L n))))) (zDL (V.cons (V.int .i64 (0:Int)) (V.cons (V.int .i64 (0:Int)) (V.cons (V.int .i64 (0:Int)) (V.cons (V.int .i64 (0:Int)) (V.cons (V.int .i64 (0:Int)) V.nil))))))) 12 (U.box (List.length (St.st (St.dst {fr:=fun j=>zDs [(6,U.box 2 0),(8,U.box 4 0),(29,U.agg (arrU (aftF b Bool.false L n))),(31,U.agg (truC b 97 96)),(32,.lst .ro 1 (zH L)),(33,.int .i64 ↑n)] j (fr j),al:=[],st:=st1++[SB.box [.int .i64 (Bk.parts b),.int .i64 (Bk.size b),.lst .ro 1 (zH (Bk.beats b)),.int .i64 (Bk.start b),.int .i64 (Bk.fin b),.int .i64 (Bk.tlo b),.int .i64 (Bk.thi b),.int .i64 (Bk.slo b),.int .i64 (Bk.shi b),.int .i64 (Bk.notice b),.lst .ro 3 (plsU (Bk.players b))]]} (Option.some 34) (dg (U.agg (arrU (aftF b Bool.true L n))))))) 0)))) (SB.box [.int .i64 (aftF b Bool.true L n (nat_lit 0)),.int .i64 (aftF b Bool.true L n (nat_lit 1)),.int .i64 (aftF b Bool.true L n (nat_lit 2)),.int .i64 (aftF b Bool.true L n (nat_lit 3)),.int .i64 (aftF b Bool.true L n (nat_lit 4))])) (.c4 rfl rfl rfl rfl (.nil rfl)) rfl fun fr=>?_
 refine zO [(6,.box 2 0),(8,.box 4 0),(12,.box Y.length 0),(13,.box (Y.length+1) 0)] (Y++[.box (arrU (aftF b false L n)),.box (arrU (aftF b true L n))]) (.cons rfl (.cons rfl (.cons (by show U.box (st1++[SB.box _]).length 0=_;rw[hY]) (.cons (by show U.box ((st1++[SB.box _])++[SB.box _]).length 0=_;rw[hY];simp) (.nil rfl))))) (by show((((st1++[SB.box _])++[SB.box _])++[SB.box _]).set ((st1++[SB.box _]).length) (SB.box (arrU _))).set (((st1++[SB.box _])++[SB.box _]).length) (SB.box (arrU _))=_;rw[hY];simp) fun fr=>?_
 have z2:Y[2]? =some (.box [.int .i64 i]):=by rw[hY];exact yO y2
 have z4:Y[4]? =some (.box [.int .i64 0,.int .i64 0]):=by rw[hY];exact yO y4
 have zf:(Y++[SB.box (arrU (aftF b false L n)),.box (arrU (aftF b true L n))])[Y.length]? =some (.box (arrU (aftF b false L n))):=by simp
 have zt:(Y++[SB.box (arrU (aftF b false L n)),.box (arrU (aftF b true L n))])[Y.length+1]? =some (.box (arrU (aftF b true L n))):=by simp
 have mf:(arrU (aftF b false L n))[0+(i:Int).toNat*1]? =some (.int .i64 (aftF b false L n i)):=by rw[Int.toNat_natCast,Nat.mul_one,Nat.zero_add];exact af
 have mt:(arrU (aftF b true L n))[0+(i:Int).toNat*1]? =some (.int .i64 (aftF b true L n i)):=by rw[Int.toNat_natCast,Nat.mul_one,Nat.zero_add];exact at'
 refine k_seq (zAc [.read true,.plain,.read true,.read true,.plain,.read true,.plain,.plain,.plain] (by kernel_rfl) (by kernel_rfl) (by kernel_rfl) ?_)
 refine zq rfl (zG rfl rfl (yO z2) sh3 rfl (zA rfl)) ?_
 refine zF (zFR rfl ty85 rfl rfl (by omega) (by omega) cl3 (zA rfl)) ?_
 refine zq rfl (zG rfl rfl zf sh3 mf (zA rfl)) ?_
 refine zq rfl (zG rfl rfl (yO z2) sh3 rfl (zA rfl)) ?_
 refine zF (zFR rfl ty85 rfl rfl (by omega) (by omega) cl3 (zA rfl)) ?_
 refine zq rfl (zG rfl rfl zt sh3 mt (zA rfl)) ?_
 refine zF (ww rfl ze24 pl24 rfl rfl (zA rfl)) ?_
 refine zF (zb rfl (yO z4) sh24 rfl rfl rfl rfl rfl (zA rfl)) ?_
 refine zF (zD rfl (zA rfl)) ?_
 refine zCS ?_
 refine zh ?_
 have hl4:4<(Y++[SB.box (arrU (aftF b false L n)),.box (arrU (aftF b true L n))]).length:=(List.getElem?_eq_some_iff.1 (yO z4)).1
 refine⟨.inr rfl,_,.cons _ _ _ _ (.cellN 8 24 4 0 2 [.int .i64 (aftF b false L n i),.int .i64 (aftF b true L n i)] rfl (List.getElem?_set_self hl4) sh24 rfl) (.cons _ _ _ _ (.tmp 9) .nil),?_⟩
 exact .refl _
end
section
variable {is:FuncId→Bool}{orc:Known}
noncomputable def b102:Code:=(Tryd.f102.body).getD .skip
theorem body102:bodyOf Tryd.prog 102=some (11,b102,[.cell 2 125]):=by kernel_rfl
theorem pure102:pureFn Tryd.prog 102=true:=by kernel_rfl
theorem pl85:zFK Tryd.prog 85=some [(0,1),(1,1),(2,1),(3,1),(4,1)]:=by kernel_rfl
noncomputable def b71:Code:=(Tryd.f71.body).getD .skip
theorem body71:bodyOf Tryd.prog 71=some (33,b71,[.tmp 4]):=by kernel_rfl
theorem pure71:pureFn Tryd.prog 71=true:=by kernel_rfl
noncomputable def b25:Code:=(Tryd.f25.body).getD .skip
theorem body25:bodyOf Tryd.prog 25=some (24,b25,[.tmp 4,.tmp 5]):=by kernel_rfl
theorem pure25:pureFn Tryd.prog 25=true:=by kernel_rfl
theorem toNat_ps{b:Bk}(hb:BOk b):((b.parts*b.size).toNat:Int)=b.parts*b.size:=by
 have:=mul_ps hb
 omega
theorem dec_beq(a b:Int):(a==b)=decide (a=b):=by
 by_cases h:a=b
 ·rw[decide_eq_true h];simp[h]
 ·rw[decide_eq_false h];simp[h]
theorem spn_eq(a b c d:Int):binV Tryd.prog 125 .eql (valK (yq a b)) (valK (yq c d))=some (.bool (decide (a=c)&&decide (b=d))):=by
 have h:binV Tryd.prog 125 .eql (valK (yq a b)) (valK (yq c d))=opt none (fun x=>some (V.bool x)) (Vam.cond (ieq a c) (Vam.cond (ieq b d) (some true) (some false)) (some false)):=by kernel_rfl
 rw[h,zAV,zAV,dec_beq,dec_beq]
 cases decide (a=c)<;>cases decide (b=d)<;>rfl
theorem arr_eq(f:Nat→Int):binV Tryd.prog 85 .eql (valK (.agg (arrU f))) (valK (.agg [.int .i64 0,.int .i64 0,.int .i64 0,.int .i64 0,.int .i64 0]))=some (.bool (decide (f 0=0)&&(decide (f 1=0)&&(decide (f 2=0)&&(decide (f 3=0)&&decide (f 4=0)))))):=by
 have h:binV Tryd.prog 85 .eql (valK (.agg (arrU f))) (valK (.agg [.int .i64 0,.int .i64 0,.int .i64 0,.int .i64 0,.int .i64 0]))=opt none (fun x=>some (V.bool x)) (Vam.cond (ieq (f 0) 0) (Vam.cond (ieq (f 1) 0) (Vam.cond (ieq (f 2) 0) (Vam.cond (ieq (f 3) 0) (Vam.cond (ieq (f 4) 0) (some true) (some false)) (some false)) (some false)) (some false)) (some false)):=by kernel_rfl
 rw[h]
 simp only[zAV,dec_beq]
 cases decide (f 0=0)<;>cases decide (f 1=0)<;>cases decide (f 2=0)<;>cases decide (f 3=0)<;>cases decide (f 4=0)<;>rfl
def zeroB(f:Nat→Int):Bool:=decide (f 0=0)&&(decide (f 1=0)&&(decide (f 2=0)&&(decide (f 3=0)&&decide (f 4=0))))
def planB(b:Bk)(L:List Int):Bool:=decide ((L[b.parts.toNat - 1]?).getD 0=b.fin)&&(inS b.tlo b.thi (zCC b L L.length)&&zeroB (aftF b true L (b.parts*b.size).toNat))
theorem ret102(hi:Off is){b:Bk}(hb:BOk b):RetP Tryd.prog is orc 102 [b.u] (yq (b.parts - 1) b.fin):=by
 refine yK body102 pure102 (hi 102 (by decide)) rfl rfl (zBa (wV b 4)) (.inl (wD _ _ 6)) ?_
 have:=hb.pa
 refine kQ (yI rfl rfl (zz rfl ze125 ?_))
 refine zA ?_
 refine zO [(1,U.box 0 0),(2,U.box 1 0)] ([SB.box [.int .i64 (Bk.parts b),.int .i64 (Bk.size b),.lst .ro 1 (zH (Bk.beats b)),.int .i64 (Bk.start b),.int .i64 (Bk.fin b),.int .i64 (Bk.tlo b),.int .i64 (Bk.thi b),.int .i64 (Bk.slo b),.int .i64 (Bk.shi b),.int .i64 (Bk.notice b),.lst .ro 3 (plsU (Bk.players b))],SB.box [.int .i64 0,.int .i64 0]]) (.cons rfl (.cons rfl (.nil rfl))) rfl fun fr=>?_
 refine kQ (zE rfl rfl yd (zE rfl rfl zAb (zG rfl rfl rfl sh3 rfl ?_)))
 refine zDR rfl rfl rfl (by unfold I64;omega) (zE rfl rfl yd (zE rfl rfl fld27_4 (zG rfl rfl rfl sh3 rfl (ww rfl ze125 pl125 rfl rfl ?_))))
 refine zb rfl rfl sh125 rfl rfl rfl rfl rfl ?_
 refine zA (zh ?_)
 refine⟨.inr rfl,_,.cons _ _ _ _ (.cellN 2 125 _ _ _ _ rfl rfl sh125 rfl) .nil,?_⟩
 exact .refl _
set_option maxHeartbeats 8000000 in
set_option maxRecDepth 20000 in
theorem ret71(hi:Off is){b:Bk}{L:List Int}(hb:BOk b)(h:POk b L):RetP Tryd.prog is orc 71 [b.u,.lst .ro 1 (zH L)] (.bool (planB b L)):=by
 refine yK body71 pure71 (hi 71 (by decide)) rfl rfl (yz (wV b 4) (ya 6 .ro (fun h=>by cases h) 1 L)) (.inl (.bool _ _)) ?_
 have hp:=hb.pa
 have hlen:=h.len
 have q95:=ret95 (orc:=orc) hi hb
 have q67:=ret67 (orc:=orc) hi b
 have hps:=toNat_ps hb
 have q55:=ret55 (orc:=orc) hi hb h.rg (by omega)
 have q102:=ret102 (orc:=orc) hi hb
 obtain⟨x,hx,hxr⟩:=at_ok h (q:=b.parts.toNat - 1) (by omega)
 have q101:RetP Tryd.prog is orc 101 [.lst .ro 1 (zH L),.int .i64 (b.parts - 1)] (yq (b.parts - 1) x):=by
  have:=ret101 (orc:=orc) hi hx (by omega)
  rw[show((b.parts.toNat - 1:Nat):Int)=b.parts - 1 by omega]at this;exact this
 have q66:RetP Tryd.prog is orc 66 [truU b 97 96,.lst .ro 1 (zH L),.int .i64 (b.parts*b.size)] (.agg (arrU (aftF b true L (b.parts*b.size).toNat))):=by
  have:=ret66 (orc:=orc) hi hb h true false rfl (m:=(b.parts*b.size).toNat) (by omega)
  rw[hps]at this;exact this
 unfold planB
 rw[hx]
 show Wp _ _ _ _ _ fun e s=>_∧∃us,_∧UW _ (.u (.bool (decide (x=b.fin)&&_)))
 have eb:=spn_eq (b.parts - 1) x (b.parts - 1) b.fin
 rw[decide_eq_true (rfl:b.parts - 1=b.parts - 1),Bool.true_and]at eb
 have ea:=arr_eq (aftF b true L (b.parts*b.size).toNat)
 change _=some (V.bool (zeroB _))at ea
 have q90:=ret90 (orc:=orc) hi b.tlo b.thi (zCC b L L.length)
 generalize decide (x=b.fin)=z1 at*
 generalize inS b.tlo b.thi (zCC b L L.length)=z2 at*
 generalize zeroB (aftF b true L (b.parts*b.size).toNat)=z3 at*
 cases z1 with
 |false=>
  rw[Bool.false_and]
  refine kQ (yI rfl rfl (zD rfl (zA ?_)))
  refine zO [(1,.lst .ro 1 (zH L)),(2,U.box 0 0)] ([SB.box [.int .i64 (Bk.parts b),.int .i64 (Bk.size b),.lst .ro 1 (zH (Bk.beats b)),.int .i64 (Bk.start b),.int .i64 (Bk.fin b),.int .i64 (Bk.tlo b),.int .i64 (Bk.thi b),.int .i64 (Bk.slo b),.int .i64 (Bk.shi b),.int .i64 (Bk.notice b),.lst .ro 3 (plsU (Bk.players b))]]) (.cons rfl (.cons rfl (.nil rfl))) rfl fun fr=>?_
  refine k_seq (zAc [.plain,.plain,.plain,.read true,.plain,.read false,.read true,.plain,.plain,.plain,.plain,.plain,.read true,.read true,.plain,.read false,.plain,.plain,.plain,.read true,.quiet,.plain,.read true,.plain,.plain,.plain,.plain,.plain,.plain] (by kernel_rfl) (by kernel_rfl) (by kernel_rfl) ?_)
  refine zF (zC rfl (zA rfl)) (zF (zE rfl rfl yd (zA rfl)) ?_)
  refine zF (zE rfl rfl zAb (zA rfl)) ?_
  refine zq rfl (zG rfl rfl rfl sh3 rfl (zA rfl)) ?_
  refine zF (zDR rfl rfl rfl (by unfold I64;omega) (zA rfl)) ?_
  refine zBM rfl (q101) (zAv _ _) (.lrefl _) ?_
  refine zq rfl (zN rfl rfl rfl sh75 rfl (zA rfl)) ?_
  refine zF (zP rfl (q102) (.lrefl _) (zA rfl)) ?_
  refine zF (zFS rfl rfl rfl rfl rfl eb (zA rfl)) ?_
  refine zAZ [(1,.lst .ro 1 (zH L)),(2,U.box 0 0),(13,.bool false)] [] ([SB.box [.int .i64 (Bk.parts b),.int .i64 (Bk.size b),.lst .ro 1 (zH (Bk.beats b)),.int .i64 (Bk.start b),.int .i64 (Bk.fin b),.int .i64 (Bk.tlo b),.int .i64 (Bk.thi b),.int .i64 (Bk.slo b),.int .i64 (Bk.shi b),.int .i64 (Bk.notice b),.lst .ro 3 (plsU (Bk.players b))]]) (.cons rfl (.cons rfl (.cons rfl (.nil rfl)))) rfl rfl fun fr=>?_
  refine zF (zC rfl (zA rfl)) (d_gS rfl rfl rfl rfl rfl (d_gS rfl rfl rfl rfl rfl (d_gS rfl rfl rfl rfl rfl (d_gS rfl rfl rfl rfl rfl (d_gS rfl rfl rfl rfl rfl (d_gS rfl rfl rfl rfl rfl (d_gS rfl rfl rfl rfl rfl (zF (zS rfl rfl rfl (zA rfl)) ?_))))))))
  refine zAZ [(1,.lst .ro 1 (zH L)),(2,U.box 0 0),(22,.bool false)] [] ([SB.box [.int .i64 (Bk.parts b),.int .i64 (Bk.size b),.lst .ro 1 (zH (Bk.beats b)),.int .i64 (Bk.start b),.int .i64 (Bk.fin b),.int .i64 (Bk.tlo b),.int .i64 (Bk.thi b),.int .i64 (Bk.slo b),.int .i64 (Bk.shi b),.int .i64 (Bk.notice b),.lst .ro 3 (plsU (Bk.players b))]]) (.cons rfl (.cons rfl (.cons rfl (.nil rfl)))) rfl rfl fun fr=>?_
  refine zF (zC rfl (zA rfl)) (d_gS rfl rfl rfl rfl rfl (d_gS rfl rfl rfl rfl rfl (d_gS rfl rfl rfl rfl rfl (d_gS rfl rfl rfl rfl rfl (d_gS rfl rfl rfl rfl rfl (d_gS rfl rfl rfl rfl rfl (d_gS rfl rfl rfl rfl rfl (d_gS rfl rfl rfl rfl rfl ?_))))))))
  refine zAZ [(23,.bool false),(31,U.tup [])] [] ([SB.box [.int .i64 (Bk.parts b),.int .i64 (Bk.size b),.lst .ro 1 (zH (Bk.beats b)),.int .i64 (Bk.start b),.int .i64 (Bk.fin b),.int .i64 (Bk.tlo b),.int .i64 (Bk.thi b),.int .i64 (Bk.slo b),.int .i64 (Bk.shi b),.int .i64 (Bk.notice b),.lst .ro 3 (plsU (Bk.players b))]]) (.cons rfl (.cons rfl (.nil rfl))) rfl rfl fun fr=>?_
  refine zF (zS rfl rfl rfl (zA rfl)) ?_
  refine zF (zD rfl (zA rfl)) ?_
  refine zCS ?_
  refine zh ?_
  refine⟨.inr rfl,_,.cons _ _ _ _ (.tmp 4) .nil,?_⟩
  exact .refl _
 |true=>
  rw[Bool.true_and]
  refine kQ (yI rfl rfl (zD rfl (zA ?_)))
  refine zO [(1,.lst .ro 1 (zH L)),(2,U.box 0 0)] ([SB.box [.int .i64 (Bk.parts b),.int .i64 (Bk.size b),.lst .ro 1 (zH (Bk.beats b)),.int .i64 (Bk.start b),.int .i64 (Bk.fin b),.int .i64 (Bk.tlo b),.int .i64 (Bk.thi b),.int .i64 (Bk.slo b),.int .i64 (Bk.shi b),.int .i64 (Bk.notice b),.lst .ro 3 (plsU (Bk.players b))]]) (.cons rfl (.cons rfl (.nil rfl))) rfl fun fr=>?_
  refine k_seq (zAc [.plain,.plain,.plain,.read true,.plain,.read false,.read true,.plain,.plain,.plain,.plain,.plain,.read true,.read true,.plain,.read false,.plain,.plain,.plain,.read true,.quiet,.plain,.read true,.plain,.plain,.plain,.plain,.plain,.plain] (by kernel_rfl) (by kernel_rfl) (by kernel_rfl) ?_)
  refine zF (zC rfl (zA rfl)) (zF (zE rfl rfl yd (zA rfl)) ?_)
  refine zF (zE rfl rfl zAb (zA rfl)) ?_
  refine zq rfl (zG rfl rfl rfl sh3 rfl (zA rfl)) ?_
  refine zF (zDR rfl rfl rfl (by unfold I64;omega) (zA rfl)) ?_
  refine zBM rfl (q101) (zAv _ _) (.lrefl _) ?_
  refine zq rfl (zN rfl rfl rfl sh75 rfl (zA rfl)) ?_
  refine zF (zP rfl (q102) (.lrefl _) (zA rfl)) ?_
  refine zF (zFS rfl rfl rfl rfl rfl eb (zA rfl)) ?_
  refine zAZ [(1,.lst .ro 1 (zH L)),(2,U.box 0 0),(13,.bool true)] [] ([SB.box [.int .i64 (Bk.parts b),.int .i64 (Bk.size b),.lst .ro 1 (zH (Bk.beats b)),.int .i64 (Bk.start b),.int .i64 (Bk.fin b),.int .i64 (Bk.tlo b),.int .i64 (Bk.thi b),.int .i64 (Bk.slo b),.int .i64 (Bk.shi b),.int .i64 (Bk.notice b),.lst .ro 3 (plsU (Bk.players b))]]) (.cons rfl (.cons rfl (.cons rfl (.nil rfl)))) rfl rfl fun fr=>?_
  refine zF (zC rfl (zA rfl)) (d_gD rfl rfl rfl rfl rfl (zF (zE rfl rfl yd (zA rfl)) ?_))
  refine d_gD rfl rfl rfl rfl rfl (zF (zE rfl rfl fld27_5 (zA rfl)) ?_)
  refine d_gD rfl rfl rfl rfl rfl (zq rfl (zN rfl rfl rfl sh24 rfl (zA rfl)) ?_)
  refine d_gD rfl rfl rfl rfl rfl (zq rfl (zN rfl rfl rfl sh75 rfl (zA rfl)) ?_)
  refine d_gD rfl rfl rfl rfl rfl (zF (zC rfl (zA rfl)) (d_gD rfl rfl rfl rfl rfl (zBM rfl (q55) (.int _ _) (.lrefl _) ?_)))
  refine d_gD rfl rfl rfl rfl rfl (zF (zP rfl (q90) (.lrefl _) (zA rfl)) ?_)
  refine zF (zU rfl rfl rfl (zA rfl)) ?_
  refine zAZ [(1,.lst .ro 1 (zH L)),(2,U.box 0 0),(22,U.bool z2)] [] ([SB.box [.int .i64 (Bk.parts b),.int .i64 (Bk.size b),.lst .ro 1 (zH (Bk.beats b)),.int .i64 (Bk.start b),.int .i64 (Bk.fin b),.int .i64 (Bk.tlo b),.int .i64 (Bk.thi b),.int .i64 (Bk.slo b),.int .i64 (Bk.shi b),.int .i64 (Bk.notice b),.lst .ro 3 (plsU (Bk.players b))]]) (.cons rfl (.cons rfl (.cons rfl (.nil rfl)))) rfl rfl fun fr=>?_
  refine zF (zC rfl (zA rfl)) ?_
  refine d_guardX rfl rfl rfl rfl (fun h23=>?_) (fun h23=>?_)
  ·refine zq rfl (zN rfl rfl rfl sh75 rfl (zA rfl)) ?_
   refine d_gD rfl rfl rfl rfl (by assumption) ?_
   refine zDF rfl (q67) (.lrefl _) ?_
   refine d_gD rfl rfl rfl rfl (by assumption) ?_
   refine zF (zC rfl (zA rfl)) (d_gD rfl rfl rfl rfl (by assumption) ?_)
   refine zq rfl (zN rfl rfl rfl sh75 rfl (zA rfl)) ?_
   refine d_gD rfl rfl rfl rfl (by assumption) ?_
   refine zF (zP rfl (q95) (.lrefl _) (zA rfl)) ?_
   refine d_gD rfl rfl rfl rfl (by assumption) ?_
   refine zF (zP rfl (q66) (.lrefl _) (zA rfl)) ?_
   refine d_gD rfl rfl rfl rfl (by assumption) ?_
   refine zF (ww rfl ze85 pl85 rfl rfl (zA rfl)) ?_
   refine d_gD rfl rfl rfl rfl (by assumption) ?_
   refine zF (zFS rfl rfl rfl rfl rfl ea (zA rfl)) ?_
   refine zAZ [(23,U.bool z2),(31,U.bool z3)] [] ([SB.box [.int .i64 (Bk.parts b),.int .i64 (Bk.size b),.lst .ro 1 (zH (Bk.beats b)),.int .i64 (Bk.start b),.int .i64 (Bk.fin b),.int .i64 (Bk.tlo b),.int .i64 (Bk.thi b),.int .i64 (Bk.slo b),.int .i64 (Bk.shi b),.int .i64 (Bk.notice b),.lst .ro 3 (plsU (Bk.players b))]]) (.cons rfl (.cons rfl (.nil rfl))) rfl rfl fun fr=>?_
   refine zF (zU rfl rfl (by assumption) (zA rfl)) ?_
   refine zF (zD rfl (zA rfl)) ?_
   refine zCS ?_
   refine zh ?_
   refine⟨.inr rfl,_,.cons _ _ _ _ (.tmp 4) .nil,?_⟩
   subst_vars;exact .refl _
  ·refine d_gS rfl rfl rfl rfl (by assumption) ?_
   refine d_gS rfl rfl rfl rfl (by assumption) ?_
   refine d_gS rfl rfl rfl rfl (by assumption) ?_
   refine d_gS rfl rfl rfl rfl (by assumption) ?_
   refine d_gS rfl rfl rfl rfl (by assumption) ?_
   refine d_gS rfl rfl rfl rfl (by assumption) ?_
   refine d_gS rfl rfl rfl rfl (by assumption) ?_
   refine zAZ [(23,U.bool z2),(31,U.tup [])] [] ([SB.box [.int .i64 (Bk.parts b),.int .i64 (Bk.size b),.lst .ro 1 (zH (Bk.beats b)),.int .i64 (Bk.start b),.int .i64 (Bk.fin b),.int .i64 (Bk.tlo b),.int .i64 (Bk.thi b),.int .i64 (Bk.slo b),.int .i64 (Bk.shi b),.int .i64 (Bk.notice b),.lst .ro 3 (plsU (Bk.players b))]]) (.cons rfl (.cons rfl (.nil rfl))) rfl rfl fun fr=>?_
   refine zF (zS rfl rfl (by assumption) (zA rfl)) ?_
   refine zF (zD rfl (zA rfl)) ?_
   refine zCS ?_
   refine zh ?_
   refine⟨.inr rfl,_,.cons _ _ _ _ (.tmp 4) .nil,?_⟩
   subst_vars;exact .refl _
theorem ret25(hi:Off is){b:Bk}{L:List Int}(h:BOk b)(hp:POk b L):RetP Tryd.prog is orc 25 [b.u,.lst .ro 1 (zH L)] (.tup [.bool (planB b L),.int .i64 0]):=by
 refine yK body25 pure25 (hi 25 (by decide)) rfl rfl (yz (wV b 4) (ya 6 .ro (fun h=>by cases h) 1 L)) (.inr ⟨_,rfl,yz (k:=7) (.bool _ _) (.int _ _ _)⟩) ?_
 have q62:=ret62 (orc:=orc) hi h hp
 have q71:=ret71 (orc:=orc) hi h hp
 refine kQ (yI rfl rfl (zD rfl (zD rfl (zA ?_))))
 refine zO [(1,.lst .ro 1 (zH L)),(2,U.box 0 0)] ([SB.box [.int .i64 (Bk.parts b),.int .i64 (Bk.size b),.lst .ro 1 (zH (Bk.beats b)),.int .i64 (Bk.start b),.int .i64 (Bk.fin b),.int .i64 (Bk.tlo b),.int .i64 (Bk.thi b),.int .i64 (Bk.slo b),.int .i64 (Bk.shi b),.int .i64 (Bk.notice b),.lst .ro 3 (plsU (Bk.players b))]]) (.cons rfl (.cons rfl (.nil rfl))) rfl fun fr=>?_
 refine kQ (zN rfl rfl rfl sh27 rfl ?_)
 refine o_callW rfl (wpc60z hi h) (.lrefl _) (fun u st1 hM=>?_)
 obtain⟨rfl,e,hY⟩:=hM
 refine zC rfl (yk rfl rfl rfl (yk rfl rfl rfl (zz rfl ze75 ?_)))
 refine zb rfl (yB _ _) sh75 rfl rfl rfl rfl rfl ?_
 refine zD rfl (zA ?_)
 refine zO [(1,.lst .ro 1 (zH L)),(6,U.box (List.length st1) 0),(7,.int .i64 0)] (st1++[SB.box [.int .i64 (Bk.parts b),.int .i64 (Bk.size b),.lst .ro 1 (zH (Bk.beats b)),.int .i64 (Bk.start b),.int .i64 (Bk.fin b),.int .i64 (Bk.tlo b),.int .i64 (Bk.thi b),.int .i64 (Bk.slo b),.int .i64 (Bk.shi b),.int .i64 (Bk.notice b),.lst .ro 3 (plsU (Bk.players b))]]) (.cons rfl (.cons rfl (.cons rfl (.nil rfl)))) (wW _ _ _) fun fr=>?_
 refine k_seq (kQ (zC rfl (zFQ rfl rfl rfl (zA (k_cF rfl rfl ?_)))))
 refine zk (kQ (zN rfl rfl (yB _ _) sh75 rfl ?_))
 refine zC rfl (zP rfl (q62) (.lrefl _) (zC rfl (o_gD rfl rfl rfl rfl rfl (zN rfl rfl (yB _ _) sh75 rfl ?_))))
 refine o_gD rfl rfl rfl rfl rfl (zC rfl (o_gD rfl rfl rfl rfl rfl (zP rfl (q71) (.lrefl _) (zU rfl rfl rfl ?_))))
 refine zD rfl (zD rfl (zA (zh ?_)))
 refine⟨.inr rfl,_,.cons _ _ _ _ (.tmp 4) (.cons _ _ _ _ (.tmp 5) .nil),?_⟩
 exact .refl _
end
end Go.Proofs.YtfbmlibilcjlgaaDoor.drumEnds
