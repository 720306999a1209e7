import Derived.Test.YtfbmlibilcjlgaaDoorVamT5
set_option linter.unusedVariables false
set_option linter.unusedSimpArgs false
set_option linter.constructorNameAsVariable false
namespace Go.Proofs.YtfbmlibilcjlgaaDoor.drumPaths
open Vam
section
variable {is:FuncId→Bool}{orc:Known}
noncomputable def b63:Code:=(Tryd.f63.body).getD .skip
theorem body63:bodyOf Tryd.prog 63=some (15,b63,[.tmp 4]):=by kernel_rfl
theorem pure63:pureFn Tryd.prog 63=true:=by kernel_rfl
noncomputable def b64:Code:=(Tryd.f64.body).getD .skip
theorem body64:bodyOf Tryd.prog 64=some (13,b64,[.tmp 4]):=by kernel_rfl
theorem pure64:pureFn Tryd.prog 64=true:=by kernel_rfl
noncomputable def b95:Code:=(Tryd.f95.body).getD .skip
theorem body95:bodyOf Tryd.prog 95=some (10,b95,[.tmp 2]):=by kernel_rfl
theorem pure95:pureFn Tryd.prog 95=true:=by kernel_rfl
noncomputable def b61:Code:=(Tryd.f61.body).getD .skip
theorem body61:bodyOf Tryd.prog 61=some (19,b61,[.tmp 5]):=by kernel_rfl
theorem pure61:pureFn Tryd.prog 61=false:=by kernel_rfl
noncomputable def b19:Code:=(Tryd.f19.body).getD .skip
theorem body19:bodyOf Tryd.prog 19=some (42,b19,[.cell 8 24,.tmp 9]):=by kernel_rfl
theorem pure19:pureFn Tryd.prog 19=true:=by kernel_rfl
theorem ret63(hi:Off is)(b:Bk)(n:Int):RetP Tryd.prog is orc 63 [b.u,.int .i64 n] (.bool (decide (0≤n)&&decide (n<b.players.length))):=by
 refine yC body63 pure63 (hi 63 (by decide)) rfl rfl (yL (yZ b 4) (.int _ _ _)) (.inl (.bool _ _)) ?_
 by_cases h:0≤n
 ·rw[decide_eq_true h,Bool.true_and]
  refine kQ (ze rfl rfl (zC rfl (zA ?_)))
  refine zL [(1,.int .i64 n),(2,U.box 0 0)] ([SB.box [.int .i64 (Bk.parts b),.int .i64 (Bk.size b),.lst .ro 1 (zE (Bk.beats b)),.int .i64 (Bk.start b),.int .i64 (Bk.fin b),.int .i64 (Bk.tlo b),.int .i64 (Bk.thi b),.int .i64 (Bk.slo b),.int .i64 (Bk.shi b),.int .i64 (Bk.notice b),.lst .ro 3 (plsU (Bk.players b))]]) (.cons rfl (.cons rfl (.nil rfl))) rfl fun fr=>?_
  refine kQ (zB rfl (zCE rfl rfl rfl (zB rfl (o_gD rfl rfl rfl rfl (decide_eq_true (by omega)) ?_))))
  refine zB rfl (o_gD rfl rfl rfl rfl (decide_eq_true (by omega)) ?_)
  refine zF rfl rfl yy (o_gD rfl rfl rfl rfl (decide_eq_true (by omega)) ?_)
  refine zF rfl rfl yi (o_gD rfl rfl rfl rfl (decide_eq_true (by omega)) ?_)
  refine zG rfl rfl rfl sh25 rfl (o_gD rfl rfl rfl rfl (decide_eq_true (by omega)) ?_)
  refine yR rfl ty25 rfl (List.length_map _) ?_
  refine o_gD rfl rfl rfl rfl (decide_eq_true (by omega)) ?_
  refine yE rfl rfl rfl (zV rfl rfl (decide_eq_true (by omega)) ?_)
  refine zC rfl (zA (zY ?_))
  refine⟨.inr rfl,_,.cons _ _ _ _ (.tmp 4) .nil,?_⟩
  exact .refl _
 ·rw[decide_eq_false h,Bool.false_and]
  refine kQ (ze rfl rfl (zC rfl (zA ?_)))
  refine zL [(1,.int .i64 n),(2,U.box 0 0)] ([SB.box [.int .i64 (Bk.parts b),.int .i64 (Bk.size b),.lst .ro 1 (zE (Bk.beats b)),.int .i64 (Bk.start b),.int .i64 (Bk.fin b),.int .i64 (Bk.tlo b),.int .i64 (Bk.thi b),.int .i64 (Bk.slo b),.int .i64 (Bk.shi b),.int .i64 (Bk.notice b),.lst .ro 3 (plsU (Bk.players b))]]) (.cons rfl (.cons rfl (.nil rfl))) rfl fun fr=>?_
  refine kQ (zB rfl (zCE rfl rfl rfl (zB rfl (o_gS rfl rfl rfl rfl (decide_eq_false (by omega)) ?_))))
  refine o_gS rfl rfl rfl rfl (decide_eq_false (by omega)) ?_
  refine o_gS rfl rfl rfl rfl (decide_eq_false (by omega)) ?_
  refine o_gS rfl rfl rfl rfl (decide_eq_false (by omega)) ?_
  refine o_gS rfl rfl rfl rfl (decide_eq_false (by omega)) ?_
  refine o_gS rfl rfl rfl rfl (decide_eq_false (by omega)) ?_
  refine zK rfl rfl (decide_eq_false (by omega)) ?_
  refine zC rfl (zA (zY ?_))
  refine⟨.inr rfl,_,.cons _ _ _ _ (.tmp 4) .nil,?_⟩
  exact .refl _
theorem mul_ps{b:Bk}(hb:BOk b):1≤b.parts*b.size∧b.parts*b.size≤128:=by
 have hp:=hb.pa
 have hs:=hb.sz
 constructor
 ·have:=Int.mul_le_mul hp.1 hs.1 (by omega) (by omega)
  omega
 ·have:=Int.mul_le_mul hp.2 hs.2 (by omega) (by omega)
  omega
theorem ret95(hi:Off is){b:Bk}(hb:BOk b):RetP Tryd.prog is orc 95 [b.u] (.int .i64 (b.parts*b.size)):=by
 refine yC body95 pure95 (hi 95 (by decide)) rfl rfl (zBc (yZ b 4)) (.inl (.int _ _ _)) ?_
 have:=mul_ps hb
 refine kQ (ze rfl rfl (zC rfl (zA ?_)))
 refine zL [(1,U.box 0 0)] ([SB.box [.int .i64 (Bk.parts b),.int .i64 (Bk.size b),.lst .ro 1 (zE (Bk.beats b)),.int .i64 (Bk.start b),.int .i64 (Bk.fin b),.int .i64 (Bk.tlo b),.int .i64 (Bk.thi b),.int .i64 (Bk.slo b),.int .i64 (Bk.shi b),.int .i64 (Bk.notice b),.lst .ro 3 (plsU (Bk.players b))]]) (.cons rfl (.nil rfl)) rfl fun fr=>?_
 refine kQ (zF rfl rfl yy (zF rfl rfl zAI (zG rfl rfl rfl sh3 rfl (zF rfl rfl yy (zF rfl rfl yY (zG rfl rfl rfl sh3 rfl ?_))))))
 refine o_mul rfl rfl rfl (by unfold I64;omega) ?_
 refine zC rfl (zA (zY ?_))
 refine⟨.inr rfl,_,.cons _ _ _ _ (.tmp 2) .nil,?_⟩
 exact .refl _
theorem ret64(hi:Off is){b:Bk}(hb:BOk b)(n:Int):RetP Tryd.prog is orc 64 [b.u,.int .i64 n] (.bool (decide (0≤n)&&decide (n≤b.parts*b.size))):=by
 refine yC body64 pure64 (hi 64 (by decide)) rfl rfl (yL (yZ b 4) (.int _ _ _)) (.inl (.bool _ _)) ?_
 have q95:=ret95 (orc:=orc) hi hb
 by_cases h:0≤n
 ·rw[decide_eq_true h,Bool.true_and]
  refine kQ (ze rfl rfl (zC rfl (zA ?_)))
  refine zL [(1,.int .i64 n),(2,U.box 0 0)] ([SB.box [.int .i64 (Bk.parts b),.int .i64 (Bk.size b),.lst .ro 1 (zE (Bk.beats b)),.int .i64 (Bk.start b),.int .i64 (Bk.fin b),.int .i64 (Bk.tlo b),.int .i64 (Bk.thi b),.int .i64 (Bk.slo b),.int .i64 (Bk.shi b),.int .i64 (Bk.notice b),.lst .ro 3 (plsU (Bk.players b))]]) (.cons rfl (.cons rfl (.nil rfl))) rfl fun fr=>?_
  refine kQ (zB rfl (zCE rfl rfl rfl (zB rfl (o_gD rfl rfl rfl rfl (decide_eq_true (by omega)) ?_))))
  refine zB rfl (o_gD rfl rfl rfl rfl (decide_eq_true (by omega)) ?_)
  refine zJ rfl rfl rfl sh75 rfl (o_gD rfl rfl rfl rfl (decide_eq_true (by omega)) ?_)
  refine zO rfl (q95) (.lrefl _) (o_gD rfl rfl rfl rfl (decide_eq_true (by omega)) ?_)
  refine zCE rfl rfl rfl (zV rfl rfl (decide_eq_true (by omega)) ?_)
  refine zC rfl (zA (zY ?_))
  refine⟨.inr rfl,_,.cons _ _ _ _ (.tmp 4) .nil,?_⟩
  exact .refl _
 ·rw[decide_eq_false h,Bool.false_and]
  refine kQ (ze rfl rfl (zC rfl (zA ?_)))
  refine zL [(1,.int .i64 n),(2,U.box 0 0)] ([SB.box [.int .i64 (Bk.parts b),.int .i64 (Bk.size b),.lst .ro 1 (zE (Bk.beats b)),.int .i64 (Bk.start b),.int .i64 (Bk.fin b),.int .i64 (Bk.tlo b),.int .i64 (Bk.thi b),.int .i64 (Bk.slo b),.int .i64 (Bk.shi b),.int .i64 (Bk.notice b),.lst .ro 3 (plsU (Bk.players b))]]) (.cons rfl (.cons rfl (.nil rfl))) rfl fun fr=>?_
  refine kQ (zB rfl (zCE rfl rfl rfl (zB rfl (o_gS rfl rfl rfl rfl (decide_eq_false (by omega)) ?_))))
  refine o_gS rfl rfl rfl rfl (decide_eq_false (by omega)) ?_
  refine o_gS rfl rfl rfl rfl (decide_eq_false (by omega)) ?_
  refine o_gS rfl rfl rfl rfl (decide_eq_false (by omega)) ?_
  refine zK rfl rfl (decide_eq_false (by omega)) ?_
  refine zC rfl (zA (zY ?_))
  refine⟨.inr rfl,_,.cons _ _ _ _ (.tmp 4) .nil,?_⟩
  exact .refl _
set_option maxHeartbeats 8000000 in
theorem wpc60v(hi:Off is){b:Bk}(hb:BOk b){st:List SB}{g:Nat}{B:List U}(hg:∀X,WpC Tryd.prog is orc g ([b.u]++B) (st++X) fun u st'=>u=.bool true∧∃e,st'=(st++X)++e):WpC Tryd.prog is orc 60 [b.u,.lst .ro 1 [.fn g [] B]] st fun u st'=>u=.tup [b.u,.int .i64 0]∧∃e,st'=st++e:=by
 refine zEN body60 pure60 rfl rfl ?_
 have q17:=ret17 (orc:=orc) hi b
 rw[if_pos ((wT b).2 hb)]at q17
 refine kQ (ze rfl rfl (zd rfl ze75 ?_))
 refine zC rfl (zA ?_)
 refine zL [(1,.lst .ro 1 [U.fn g [] B]),(2,U.box (List.length st) 0),(4,U.box (List.length (st++[SB.box [.int .i64 (Bk.parts b),.int .i64 (Bk.size b),.lst .ro 1 (zE (Bk.beats b)),.int .i64 (Bk.start b),.int .i64 (Bk.fin b),.int .i64 (Bk.tlo b),.int .i64 (Bk.thi b),.int .i64 (Bk.slo b),.int .i64 (Bk.shi b),.int .i64 (Bk.notice b),.lst .ro 3 (plsU (Bk.players b))]])) 0)] (st++[SB.box [.int .i64 (Bk.parts b),.int .i64 (Bk.size b),.lst .ro 1 (zE (Bk.beats b)),.int .i64 (Bk.start b),.int .i64 (Bk.fin b),.int .i64 (Bk.tlo b),.int .i64 (Bk.thi b),.int .i64 (Bk.slo b),.int .i64 (Bk.shi b),.int .i64 (Bk.notice b),.lst .ro 3 (plsU (Bk.players b))]]++[SB.box [.int .i64 0,.int .i64 0,.lst .full 0 [],.int .i64 0,.int .i64 0,.int .i64 0,.int .i64 0,.int .i64 0,.int .i64 0,.int .i64 0,.lst .full 0 []]]) (.cons rfl (.cons rfl (.cons rfl (.nil rfl)))) rfl fun fr=>?_
 refine k_seq (kQ (zJ rfl rfl (zp (zq _ _)) sh27 rfl ?_))
 refine zO rfl (q17) (.lrefl _) (zC rfl (zA (kQ (zB rfl (yz rfl rfl rfl (zA (k_cF rfl rfl ?_)))))))
 refine zT (kQ (zJ rfl rfl (zp (zq _ _)) sh27 rfl ?_))
 refine wD rfl ze75 pl75 rfl rfl ?_
 refine zd rfl ze75 ?_
 refine zS rfl (zq _ _) sh75 rfl rfl rfl rfl rfl ?_
 refine zA ?_
 refine zL [(1,.lst .ro 1 [U.fn g [] B]),(4,U.box (List.length (st++[SB.box [.int .i64 (Bk.parts b),.int .i64 (Bk.size b),.lst .ro 1 (zE (Bk.beats b)),.int .i64 (Bk.start b),.int .i64 (Bk.fin b),.int .i64 (Bk.tlo b),.int .i64 (Bk.thi b),.int .i64 (Bk.slo b),.int .i64 (Bk.shi b),.int .i64 (Bk.notice b),.lst .ro 3 (plsU (Bk.players b))]])) 0),(7,U.box (List.length (st++[SB.box [.int .i64 (Bk.parts b),.int .i64 (Bk.size b),.lst .ro 1 (zE (Bk.beats b)),.int .i64 (Bk.start b),.int .i64 (Bk.fin b),.int .i64 (Bk.tlo b),.int .i64 (Bk.thi b),.int .i64 (Bk.slo b),.int .i64 (Bk.shi b),.int .i64 (Bk.notice b),.lst .ro 3 (plsU (Bk.players b))]]++[SB.box [.int .i64 0,.int .i64 0,.lst .full 0 [],.int .i64 0,.int .i64 0,.int .i64 0,.int .i64 0,.int .i64 0,.int .i64 0,.int .i64 0,.lst .full 0 []]])) 0)] (st++[SB.box [.int .i64 (Bk.parts b),.int .i64 (Bk.size b),.lst .ro 1 (zE (Bk.beats b)),.int .i64 (Bk.start b),.int .i64 (Bk.fin b),.int .i64 (Bk.tlo b),.int .i64 (Bk.thi b),.int .i64 (Bk.slo b),.int .i64 (Bk.shi b),.int .i64 (Bk.notice b),.lst .ro 3 (plsU (Bk.players b))]]++[SB.box [.int .i64 0,.int .i64 0,.lst .full 0 [],.int .i64 0,.int .i64 0,.int .i64 0,.int .i64 0,.int .i64 0,.int .i64 0,.int .i64 0,.lst .full 0 []]]++[SB.box [.int .i64 (Bk.parts b),.int .i64 (Bk.size b),.lst .ro 1 (zE (Bk.beats b)),.int .i64 (Bk.start b),.int .i64 (Bk.fin b),.int .i64 (Bk.tlo b),.int .i64 (Bk.thi b),.int .i64 (Bk.slo b),.int .i64 (Bk.shi b),.int .i64 (Bk.notice b),.lst .ro 3 (plsU (Bk.players b))]]) (.cons rfl (.cons rfl (.cons rfl (.nil rfl)))) (wV _ _ _) fun fr=>?_
 refine k_seq (kQ (zB rfl (yR rfl zEa rfl rfl ?_)))
 refine zB rfl (zA (zR ?_))
 refine wE (fun kk s2=>∃X:List SB,s2.st=st++X∧X[1]? =some (.box [.int .i64 0,.int .i64 0,.lst .full 0 [],.int .i64 0,.int .i64 0,.int .i64 0,.int .i64 0,.int .i64 0,.int .i64 0,.int .i64 0,.lst .full 0 []])∧X[2]? =some (.box [.int .i64 b.parts,.int .i64 b.size,.lst .ro 1 (zE b.beats),.int .i64 b.start,.int .i64 b.fin,.int .i64 b.tlo,.int .i64 b.thi,.int .i64 b.slo,.int .i64 b.shi,.int .i64 b.notice,.lst .ro 3 (plsU b.players)])∧((kk=1∧Holds s2 [(4,.box (st.length+1) 0),(7,.box (st.length+2) 0),(18,.lst .ro 1 [.fn g [] B]),(19,.int .i64 1),(20,.int .i64 0)])∨(kk=0∧Holds s2 [(4,.box (st.length+1) 0),(7,.box (st.length+2) 0),(18,.lst .ro 1 [.fn g [] B]),(19,.int .i64 1),(20,.int .i64 1)]))) (fun kk s2 hI=>?_) 1 _ ⟨[.box [.int .i64 b.parts,.int .i64 b.size,.lst .ro 1 (zE b.beats),.int .i64 b.start,.int .i64 b.fin,.int .i64 b.tlo,.int .i64 b.thi,.int .i64 b.slo,.int .i64 b.shi,.int .i64 b.notice,.lst .ro 3 (plsU b.players)],.box [.int .i64 0,.int .i64 0,.lst .full 0 [],.int .i64 0,.int .i64 0,.int .i64 0,.int .i64 0,.int .i64 0,.int .i64 0,.int .i64 0,.lst .full 0 []],.box [.int .i64 b.parts,.int .i64 b.size,.lst .ro 1 (zE b.beats),.int .i64 b.start,.int .i64 b.fin,.int .i64 b.tlo,.int .i64 b.thi,.int .i64 b.slo,.int .i64 b.shi,.int .i64 b.notice,.lst .ro 3 (plsU b.players)]],(by show((st++[SB.box _])++[SB.box _])++[SB.box _]=_;rw[List.append_assoc,List.append_assoc];rfl),rfl,rfl,.inl ⟨rfl,.cons (by show U.box (st++[SB.box _]).length 0=_;simp) (.cons (by show U.box ((st++[SB.box _])++[SB.box _]).length 0=_;simp) (.cons rfl (.cons rfl (.cons rfl (.nil rfl)))))⟩⟩
 obtain⟨X,hst2,x1,x2,⟨hk,hs2⟩|⟨hk,hs2⟩⟩:=hI
 ·have y1:=zCz (st:=st) x1
  have y2:=zCz (st:=st) x2
  refine zL _ _ hs2 hst2 fun fr2=>?_
  refine kQ (yE rfl rfl rfl (zA (k_seq (k_cT rfl rfl ?_))))
  refine zT (k_seq (zR (kQ (yg rfl zEa rfl rfl (by decide) rfl cl83 ?_))))
  refine zl rfl rfl sh83 rfl ?_
  refine zC rfl (zA (kQ (zB rfl (zJ rfl rfl y2 sh75 rfl ?_))))
  refine o_callV rfl rfl (hg X) (.lrefl _) (fun u st1 hM=>?_)
  obtain⟨rfl,e,rfl⟩:=hM
  refine wG rfl rfl (zA (k_cF rfl rfl ?_))
  refine zT (k_region ?_)
  refine wM rfl rfl rfl (by unfold I64;omega) (zB rfl (zA ?_))
  exact⟨0,by omega,X++e,(by show(st++X)++e=_;rw[List.append_assoc]),zp x1,zp x2,.inr ⟨rfl,.c4 rfl rfl rfl rfl (.cons rfl (.nil rfl))⟩⟩
 ·have y1:=zCz (st:=st) x1
  have y2:=zCz (st:=st) x2
  refine zL _ _ hs2 hst2 fun fr2=>?_
  have hl:st.length+1<(st++X).length:=(List.getElem?_eq_some_iff.1 y1).1
  refine kQ (yE rfl rfl rfl (zA (k_seq (k_cF rfl rfl ?_))))
  refine yh (kQ (zJ rfl rfl y2 sh75 rfl ?_))
  refine zS rfl y1 sh75 rfl rfl rfl rfl rfl ?_
  refine zC rfl (zA (zY ?_))
  refine⟨.inr rfl,_,.cons _ _ _ _ (.cellN 4 75 (st.length+1) 0 11 [.int .i64 b.parts,.int .i64 b.size,.lst .ro 1 (zE b.beats),.int .i64 b.start,.int .i64 b.fin,.int .i64 b.tlo,.int .i64 b.thi,.int .i64 b.slo,.int .i64 b.shi,.int .i64 b.notice,.lst .ro 3 (plsU b.players)] rfl (List.getElem?_set_self hl) sh75 rfl) (.cons _ _ _ _ (.tmp 5) .nil),_,.refl _,rfl,_,set_off⟩
theorem wpc61(hi:Off is){b:Bk}{l:List Int}(hb:BOk b)(h:POk b l){st:List SB}{j k m:Nat}{pl bt:Int}(hj:st[j]? =some (.box [.lst .ro 1 (zE l)]))(hk:st[k]? =some (.box [.int .i64 pl]))(hm:st[m]? =some (.box [.int .i64 bt]))(hp:0≤pl∧pl<b.players.length)(hbt:0≤bt∧bt≤b.parts*b.size):WpC Tryd.prog is orc 61 [b.u,.box j 0,.box k 0,.box m 0] st fun u st'=>u=.bool true∧∃e,st'=st++e:=by
 refine zEN body61 pure61 rfl rfl ?_
 have q62:=ret62 (orc:=orc) hi hb h
 have q63:RetP Tryd.prog is orc 63 [b.u,.int .i64 pl] (.bool true):=by
  have:=ret63 (orc:=orc) hi b pl
  rw[decide_eq_true hp.1,decide_eq_true hp.2]at this;exact this
 have q64:RetP Tryd.prog is orc 64 [b.u,.int .i64 bt] (.bool true):=by
  have:=ret64 (orc:=orc) hi hb bt
  rw[decide_eq_true hbt.1,decide_eq_true hbt.2]at this;exact this
 refine kQ (ze rfl rfl (zC rfl (zA ?_)))
 refine zL [(1,U.box j 0),(2,U.box k 0),(3,U.box m 0),(4,U.box (List.length st) 0)] (st++[SB.box [.int .i64 (Bk.parts b),.int .i64 (Bk.size b),.lst .ro 1 (zE (Bk.beats b)),.int .i64 (Bk.start b),.int .i64 (Bk.fin b),.int .i64 (Bk.tlo b),.int .i64 (Bk.thi b),.int .i64 (Bk.slo b),.int .i64 (Bk.shi b),.int .i64 (Bk.notice b),.lst .ro 3 (plsU (Bk.players b))]]) (.c4 rfl rfl rfl rfl (.nil rfl)) rfl fun fr=>?_
 refine kQ (zJ rfl rfl (zq _ _) sh75 rfl ?_)
 refine zG rfl rfl (zp hj) sh22 rfl ?_
 refine zO rfl (q62) (.lrefl _) (zB rfl (o_gD rfl rfl rfl rfl rfl (zJ rfl rfl (zq _ _) sh75 rfl ?_)))
 refine o_gD rfl rfl rfl rfl rfl (zG rfl rfl (zp hk) sh3 rfl ?_)
 refine o_gD rfl rfl rfl rfl rfl (zO rfl (q63) (.lrefl _) (zV rfl rfl rfl ?_))
 refine zB rfl ?_
 refine zP [(3,U.box m 0),(4,U.box (List.length st) 0),(14,.bool true)] [] (st++[SB.box [.int .i64 (Bk.parts b),.int .i64 (Bk.size b),.lst .ro 1 (zE (Bk.beats b)),.int .i64 (Bk.start b),.int .i64 (Bk.fin b),.int .i64 (Bk.tlo b),.int .i64 (Bk.thi b),.int .i64 (Bk.slo b),.int .i64 (Bk.shi b),.int .i64 (Bk.notice b),.lst .ro 3 (plsU (Bk.players b))]]) (.cons rfl (.cons rfl (.cons rfl (.nil rfl)))) rfl rfl fun fr=>?_
 refine o_gD rfl rfl rfl rfl rfl ?_
 refine zP [(3,U.box m 0),(4,U.box (List.length st) 0),(14,.bool true)] [] (st++[SB.box [.int .i64 (Bk.parts b),.int .i64 (Bk.size b),.lst .ro 1 (zE (Bk.beats b)),.int .i64 (Bk.start b),.int .i64 (Bk.fin b),.int .i64 (Bk.tlo b),.int .i64 (Bk.thi b),.int .i64 (Bk.slo b),.int .i64 (Bk.shi b),.int .i64 (Bk.notice b),.lst .ro 3 (plsU (Bk.players b))]]) (.cons rfl (.cons rfl (.cons rfl (.nil rfl)))) rfl rfl fun fr=>?_
 refine zJ rfl rfl (zq _ _) sh75 rfl ?_
 refine o_gD rfl rfl rfl rfl rfl (zG rfl rfl (zp hm) sh3 rfl ?_)
 refine o_gD rfl rfl rfl rfl rfl (zO rfl (q64) (.lrefl _) (zV rfl rfl rfl ?_))
 refine zC rfl (zA (zY ?_))
 refine⟨.inr rfl,_,.cons _ _ _ _ (.tmp 5) .nil,?_⟩
 exact⟨_,.refl _,rfl,_,rfl⟩
theorem at_set2(l:List SB)(a b x:SB):((l++[a]++[b]).set l.length x)[(l++[a]).length]? =some b:=by simp
set_option maxHeartbeats 8000000 in
theorem ret19(hi:Off is){b:Bk}{L:List Int}(hb:BOk b)(h:POk b L){i n:Nat}(hpl:i<b.players.length)(hn:(n:Int)≤b.parts*b.size):RetP Tryd.prog is orc 19 [b.u,.lst .ro 1 (zE L),.int .i64 i,.int .i64 n] (.tup [wA (aftF b false L n i) (aftF b true L n i),.int .i64 0]):=by
 refine yC body19 pure19 (hi 19 (by decide)) rfl rfl (fun u hu=>?_) (.inr ⟨_,rfl,yL (k:=7) (yr _ _ _) (.int _ _ _)⟩) ?_
 ·simp only[List.mem_cons,List.not_mem_nil,or_false]at hu
  rcases hu with rfl|rfl|rfl|rfl
  ·exact yZ b 4
  ·exact zi 6 .ro (fun h=>by cases h) 1 L
  ·exact .int _ _ _
  ·exact .int _ _ _
 have hi0:(0:Int)≤i∧(i:Int)<b.players.length:=by omega
 have hn0:(0:Int)≤n∧(n:Int)≤b.parts*b.size:=by omega
 have hpn:=hb.pn
 have q65:=ret65 (orc:=orc) hi b
 have q67:=ret67 (orc:=orc) hi b
 have qf:RetP Tryd.prog is orc 66 [truU b 96 97,.lst .ro 1 (zE L),.int .i64 n] (.agg (arrU (aftF b false L n))):=ret66 hi hb h false true rfl hn
 have qt:RetP Tryd.prog is orc 66 [truU b 97 96,.lst .ro 1 (zE L),.int .i64 n] (.agg (arrU (aftF b true L n))):=ret66 hi hb h true false rfl hn
 have af:=zFv (aftF b false L n) (show i<5 by omega)
 have at':=zFv (aftF b true L n) (show i<5 by omega)
 refine kQ (ze rfl rfl (ze rfl rfl (ze rfl rfl (ze rfl rfl (zd rfl ze24 ?_)))))
 refine zC rfl (zA ?_)
 refine zL [(4,U.box 0 0),(5,U.box 1 0),(6,U.box 2 0),(7,U.box 3 0),(8,U.box 4 0)] ([SB.box [.int .i64 (Bk.parts b),.int .i64 (Bk.size b),.lst .ro 1 (zE (Bk.beats b)),.int .i64 (Bk.start b),.int .i64 (Bk.fin b),.int .i64 (Bk.tlo b),.int .i64 (Bk.thi b),.int .i64 (Bk.slo b),.int .i64 (Bk.shi b),.int .i64 (Bk.notice b),.lst .ro 3 (plsU (Bk.players b))],SB.box [.lst .ro 1 (zE L)],SB.box [.int .i64 ↑i],SB.box [.int .i64 ↑n],SB.box [.int .i64 0,.int .i64 0]]) (.c4 rfl rfl rfl rfl (.cons rfl (.nil rfl))) rfl fun fr=>?_
 refine kQ (zJ rfl rfl rfl sh27 rfl ?_)
 refine zFX rfl ?_
 refine zBW (es:=[U.fn 61 [] [U.box 1 0,U.box 2 0,U.box 3 0]]) rfl zEa ze83 cl83 rfl rfl rfl rfl rfl rfl rfl rfl ?_
 refine zDq rfl (wpc60v hi hb (fun X=>wpc61 hi hb h (j:=1) (k:=2) (m:=3) (zp rfl) (zp rfl) (zp rfl) hi0 hn0)) (.lcons _ _ _ _ (.refl _) (.lcons _ _ _ _ (.ro _ _ _) (.lrefl _))) (fun u st1 hM=>?_)
 obtain⟨rfl,e,hY⟩:=hM
 have y1:st1[1]? =some (.box [.lst .ro 1 (zE L)]):=by rw[hY];rfl
 have y2:st1[2]? =some (.box [.int .i64 i]):=by rw[hY];rfl
 have y3:st1[3]? =some (.box [.int .i64 n]):=by rw[hY];rfl
 have y4:st1[4]? =some (.box [.int .i64 0,.int .i64 0]):=by rw[hY];rfl
 clear hY
 obtain⟨Y,hY⟩:∃Y:List SB,Y=st1++[.box [.int .i64 b.parts,.int .i64 b.size,.lst .ro 1 (zE b.beats),.int .i64 b.start,.int .i64 b.fin,.int .i64 b.tlo,.int .i64 b.thi,.int .i64 b.slo,.int .i64 b.shi,.int .i64 b.notice,.lst .ro 3 (plsU b.players)]]:=⟨_,rfl⟩
 refine zB rfl (zc rfl rfl rfl (zc rfl rfl rfl (zd rfl ze75 ?_)))
 refine zS rfl (zq _ _) sh75 rfl rfl rfl rfl rfl ?_
 refine zC rfl (zA ?_)
 refine zL [(5,U.box 1 0),(6,U.box 2 0),(7,U.box 3 0),(8,U.box 4 0),(10,U.box (List.length st1) 0),(11,.int .i64 0)] (st1++[SB.box [.int .i64 (Bk.parts b),.int .i64 (Bk.size b),.lst .ro 1 (zE (Bk.beats b)),.int .i64 (Bk.start b),.int .i64 (Bk.fin b),.int .i64 (Bk.tlo b),.int .i64 (Bk.thi b),.int .i64 (Bk.slo b),.int .i64 (Bk.shi b),.int .i64 (Bk.notice b),.lst .ro 3 (plsU (Bk.players b))]]) (.c4 rfl rfl rfl rfl (.cons rfl (.cons rfl (.nil rfl)))) (wV _ _ _) fun fr=>?_
 refine k_seq (kQ (zB rfl (yz rfl rfl rfl (zA (k_cF rfl rfl ?_)))))
 refine zT (k_seq (ym [.read true,.quiet,.read true,.read true,.quiet,.read true,.quiet,.read true,.read true,.quiet,.pre,.pre,.plain,.plain] (by kernel_rfl) (by kernel_rfl) (by kernel_rfl) ?_))
 refine zX rfl (zJ rfl rfl (zq _ _) sh75 rfl (zA rfl)) ?_
 refine zDM rfl (q65) (.lrefl _) ?_
 refine zX rfl (zG rfl rfl (zp y1) sh22 rfl (zA rfl)) ?_
 refine zX rfl (zG rfl rfl (zp y3) sh3 rfl (zA rfl)) ?_
 refine zDM rfl (qf) (.lrefl _) ?_
 refine zX rfl (zJ rfl rfl (zq _ _) sh75 rfl (zA rfl)) ?_
 refine zDM rfl (q67) (.lrefl _) ?_
 refine zX rfl (zG rfl rfl (zp y1) sh22 rfl (zA rfl)) ?_
 refine zX rfl (zG rfl rfl (zp y3) sh3 rfl (zA rfl)) ?_
 refine yT [(6,U.box 2 0),(8,U.box 4 0),(29,U.agg (arrU (aftF b Bool.false L n))),(31,U.agg (truC b 97 96)),(32,.lst .ro 1 (zE L)),(33,.int .i64 ↑n)] [] (st1++[SB.box [.int .i64 (Bk.parts b),.int .i64 (Bk.size b),.lst .ro 1 (zE (Bk.beats b)),.int .i64 (Bk.start b),.int .i64 (Bk.fin b),.int .i64 (Bk.tlo b),.int .i64 (Bk.thi b),.int .i64 (Bk.slo b),.int .i64 (Bk.shi b),.int .i64 (Bk.notice b),.lst .ro 3 (plsU (Bk.players b))]]) (.c4 rfl rfl rfl rfl (.cons rfl (.cons rfl (.nil rfl)))) rfl rfl fun fr=>?_
 refine zDM rfl (qt) (.lrefl _) ?_
 refine d_pre rfl ze85 ?_
 refine d_pre rfl ze85 ?_
 refine zD (zS rfl (zp (zq _ _)) sh85 rfl rfl rfl rfl rfl (zA rfl)) ?_
 refine zD (zS rfl (at_set2 _ _ _ _) sh85 rfl rfl rfl rfl rfl (zA rfl)) ?_
 refine zAA ?_
 refine zL [(6,U.box 2 0),(8,U.box 4 0),(12,U.box (List.length (st1++[SB.box [.int .i64 (Bk.parts b),.int .i64 (Bk.size b),.lst .ro 1 (zE (Bk.beats b)),.int .i64 (Bk.start b),.int .i64 (Bk.fin b),.int .i64 (Bk.tlo b),.int .i64 (Bk.thi b),.int .i64 (Bk.slo b),.int .i64 (Bk.shi b),.int .i64 (Bk.notice b),.lst .ro 3 (plsU (Bk.players b))]])) 0),(13,U.box (List.length (st1++[SB.box [.int .i64 (Bk.parts b),.int .i64 (Bk.size b),.lst .ro 1 (zE (Bk.beats b)),.int .i64 (Bk.start b),.int .i64 (Bk.fin b),.int .i64 (Bk.tlo b),.int .i64 (Bk.thi b),.int .i64 (Bk.slo b),.int .i64 (Bk.shi b),.int .i64 (Bk.notice b),.lst .ro 3 (plsU (Bk.players b))]]++[SB.box [.int .i64 0,.int .i64 0,.int .i64 0,.int .i64 0,.int .i64 0]])) 0)] (List.set (List.set (st1++[SB.box [.int .i64 (Bk.parts b),.int .i64 (Bk.size b),.lst .ro 1 (zE (Bk.beats b)),.int .i64 (Bk.start b),.int .i64 (Bk.fin b),.int .i64 (Bk.tlo b),.int .i64 (Bk.thi b),.int .i64 (Bk.slo b),.int .i64 (Bk.shi b),.int .i64 (Bk.notice b),.lst .ro 3 (plsU (Bk.players b))]]++[SB.box [.int .i64 0,.int .i64 0,.int .i64 0,.int .i64 0,.int .i64 0]]++[SB.box [.int .i64 0,.int .i64 0,.int .i64 0,.int .i64 0,.int .i64 0]]) (List.length (St.st (St.dst {fr:=fun j=>zDs [(6,U.box 2 0),(8,U.box 4 0),(29,U.agg (arrU (aftF b Bool.false L n))),(31,U.agg (truC b 97 96)),(32,.lst .ro 1 (zE L)),(33,.int .i64 ↑n)] j (fr j),al:=[],st:=st1++[SB.box [.int .i64 (Bk.parts b),.int .i64 (Bk.size b),.lst .ro 1 (zE (Bk.beats b)),.int .i64 (Bk.start b),.int .i64 (Bk.fin b),.int .i64 (Bk.tlo b),.int .i64 (Bk.thi b),.int .i64 (Bk.slo b),.int .i64 (Bk.shi b),.int .i64 (Bk.notice b),.lst .ro 3 (plsU (Bk.players b))]]} (Option.some 34) (dg (U.agg (arrU (aftF b Bool.true L n))))))) (SB.box [.int .i64 (aftF b Bool.false L n (nat_lit 0)),.int .i64 (aftF b Bool.false L n (nat_lit 1)),.int .i64 (aftF b Bool.false L n (nat_lit 2)),.int .i64 (aftF b Bool.false L n (nat_lit 3)),.int .i64 (aftF b Bool.false L n (nat_lit 4))])) (List.length (St.st (St.put (St.newB (St.dst {fr:=fun j=>zDs [(6,U.box 2 0),(8,U.box 4 0),(29,U.agg (arrU (aftF b Bool.false L n))),(31,U.agg (truC b 97 96)),(32,.lst .ro 1 (zE L)),(33,.int .i64 ↑n)] j (fr j),al:=[],st:=st1++[SB.box [.int .i64 (Bk.parts b),.int .i64 (Bk.size b),.lst .ro 1 (zE (Bk.beats b)),.int .i64 (Bk.start b),.int .i64 (Bk.fin b),.int .i64 (Bk.tlo b),.int .i64 (Bk.thi b),.int .i64 (Bk.slo b),.int .i64 (Bk.shi b),.int .i64 (Bk.notice b),.lst .ro 3 (plsU (Bk.players b))]]} (Option.some 34) (dg (U.agg (arrU (aftF b Bool.true L n))))) (zCI (V.cons (V.int .i64 (0:Int)) (V.cons (V.int .i64 (0:Int)) (V.cons (V.int .i64 (0:Int)) (V.cons (V.int .i64 (0:Int)) (V.cons (V.int .i64 (0:Int)) V.nil))))))) 12 (U.box (List.length (St.st (St.dst {fr:=fun j=>zDs [(6,U.box 2 0),(8,U.box 4 0),(29,U.agg (arrU (aftF b Bool.false L n))),(31,U.agg (truC b 97 96)),(32,.lst .ro 1 (zE L)),(33,.int .i64 ↑n)] j (fr j),al:=[],st:=st1++[SB.box [.int .i64 (Bk.parts b),.int .i64 (Bk.size b),.lst .ro 1 (zE (Bk.beats b)),.int .i64 (Bk.start b),.int .i64 (Bk.fin b),.int .i64 (Bk.tlo b),.int .i64 (Bk.thi b),.int .i64 (Bk.slo b),.int .i64 (Bk.shi b),.int .i64 (Bk.notice b),.lst .ro 3 (plsU (Bk.players b))]]} (Option.some 34) (dg (U.agg (arrU (aftF b Bool.true L n))))))) 0)))) (SB.box [.int .i64 (aftF b Bool.true L n (nat_lit 0)),.int .i64 (aftF b Bool.true L n (nat_lit 1)),.int .i64 (aftF b Bool.true L n (nat_lit 2)),.int .i64 (aftF b Bool.true L n (nat_lit 3)),.int .i64 (aftF b Bool.true L n (nat_lit 4))])) (.c4 rfl rfl rfl rfl (.nil rfl)) rfl fun fr=>?_
 refine zL [(6,.box 2 0),(8,.box 4 0),(12,.box Y.length 0),(13,.box (Y.length+1) 0)] (Y++[.box (arrU (aftF b false L n)),.box (arrU (aftF b true L n))]) (.cons rfl (.cons rfl (.cons (by show U.box (st1++[SB.box _]).length 0=_;rw[hY]) (.cons (by show U.box ((st1++[SB.box _])++[SB.box _]).length 0=_;rw[hY];simp) (.nil rfl))))) (by show((((st1++[SB.box _])++[SB.box _])++[SB.box _]).set ((st1++[SB.box _]).length) (SB.box (arrU _))).set (((st1++[SB.box _])++[SB.box _]).length) (SB.box (arrU _))=_;rw[hY];simp) fun fr=>?_
 have z2:Y[2]? =some (.box [.int .i64 i]):=by rw[hY];exact zp y2
 have z4:Y[4]? =some (.box [.int .i64 0,.int .i64 0]):=by rw[hY];exact zp y4
 have zf:(Y++[SB.box (arrU (aftF b false L n)),.box (arrU (aftF b true L n))])[Y.length]? =some (.box (arrU (aftF b false L n))):=by simp
 have zt:(Y++[SB.box (arrU (aftF b false L n)),.box (arrU (aftF b true L n))])[Y.length+1]? =some (.box (arrU (aftF b true L n))):=by simp
 have mf:(arrU (aftF b false L n))[0+(i:Int).toNat*1]? =some (.int .i64 (aftF b false L n i)):=by rw[Int.toNat_natCast,Nat.mul_one,Nat.zero_add];exact af
 have mt:(arrU (aftF b true L n))[0+(i:Int).toNat*1]? =some (.int .i64 (aftF b true L n i)):=by rw[Int.toNat_natCast,Nat.mul_one,Nat.zero_add];exact at'
 refine k_seq (ym [.read true,.plain,.read true,.read true,.plain,.read true,.plain,.plain,.plain] (by kernel_rfl) (by kernel_rfl) (by kernel_rfl) ?_)
 refine zX rfl (zG rfl rfl (zp z2) sh3 rfl (zA rfl)) ?_
 refine zD (zBx rfl ty85 rfl rfl (by omega) (by omega) cl3 (zA rfl)) ?_
 refine zX rfl (zG rfl rfl zf sh3 mf (zA rfl)) ?_
 refine zX rfl (zG rfl rfl (zp z2) sh3 rfl (zA rfl)) ?_
 refine zD (zBx rfl ty85 rfl rfl (by omega) (by omega) cl3 (zA rfl)) ?_
 refine zX rfl (zG rfl rfl zt sh3 mt (zA rfl)) ?_
 refine zD (wD rfl ze24 pl24 rfl rfl (zA rfl)) ?_
 refine zD (zS rfl (zp z4) sh24 rfl rfl rfl rfl rfl (zA rfl)) ?_
 refine zD (zC rfl (zA rfl)) ?_
 refine zAA ?_
 refine zY ?_
 have hl4:4<(Y++[SB.box (arrU (aftF b false L n)),.box (arrU (aftF b true L n))]).length:=(List.getElem?_eq_some_iff.1 (zp z4)).1
 refine⟨.inr rfl,_,.cons _ _ _ _ (.cellN 8 24 4 0 2 [.int .i64 (aftF b false L n i),.int .i64 (aftF b true L n i)] rfl (List.getElem?_set_self hl4) sh24 rfl) (.cons _ _ _ _ (.tmp 9) .nil),?_⟩
 exact .refl _
end
section
variable {is:FuncId→Bool}{orc:Known}
noncomputable def b69:Code:=(Tryd.f69.body).getD .skip
theorem body69:bodyOf Tryd.prog 69=some (36,b69,[.tmp 4]):=by kernel_rfl
theorem pure69:pureFn Tryd.prog 69=true:=by kernel_rfl
noncomputable def b21:Code:=(Tryd.f21.body).getD .skip
theorem body21:bodyOf Tryd.prog 21=some (20,b21,[.tmp 4,.tmp 5]):=by kernel_rfl
theorem pure21:pureFn Tryd.prog 21=true:=by kernel_rfl
theorem toNat_ps{b:Bk}(hb:BOk b):((b.parts*b.size).toNat:Int)=b.parts*b.size:=by
 have:=mul_ps hb
 omega
def latS(f:Nat→Int):Nat→List Int
 |0=>[]
 |i+1=>latS f i++if 0<f i then [(i:Int)]else []
theorem lat_len(f:Nat→Int)(n:Nat):(latS f n).length≤n:=by
 induction n with
 |zero=>exact Nat.le_refl _
 |succ n ih=>
  show(latS f n++_).length≤_
  rw[List.length_append]
  split<;>simp<;>omega
def lsU:List Int→U
 |[]=>.lst .full 0 []
 |q::l=>.lst .own 1 (zE (q::l))
theorem ls_snoc(q:Int)(B:List Int)(z:Int):lsU (q::B++[z])=.lst .own 1 (zE (q::B)++[.int .i64 z]):=by
 show U.lst .own 1 (zE (q::B++[z]))=_
 unfold zE
 rw[List.map_append];rfl
set_option maxHeartbeats 8000000 in
theorem ret69(hi:Off is){b:Bk}{L:List Int}(hb:BOk b)(h:POk b L):RetP Tryd.prog is orc 69 [b.u,.lst .ro 1 (zE L)] (.lst .ro 1 (zE (latS (aftF b true L (b.parts*b.size).toNat) b.players.length))):=by
 refine yC body69 pure69 (hi 69 (by decide)) rfl rfl (yL (yZ b 4) (zi 6 .ro (fun h=>by cases h) 1 L)) (.inl (zi 6 .ro (fun h=>by cases h) 1 _)) ?_
 have q95:=ret95 (orc:=orc) hi hb
 have q67:=ret67 (orc:=orc) hi b
 have hpn:=hb.pn
 have hps:=toNat_ps hb
 generalize hN:(b.parts*b.size).toNat=N at*
 have q66:RetP Tryd.prog is orc 66 [truU b 97 96,.lst .ro 1 (zE L),.int .i64 (b.parts*b.size)] (.agg (arrU (aftF b true L N))):=by
  rw[←hps];exact ret66 hi hb h true false rfl (by omega)
 generalize aftF b true L N=f at*
 refine kQ (ze rfl rfl (zC rfl (zA ?_)))
 refine zL [(1,.lst .ro 1 (zE L)),(2,U.box 0 0)] ([SB.box [.int .i64 (Bk.parts b),.int .i64 (Bk.size b),.lst .ro 1 (zE (Bk.beats b)),.int .i64 (Bk.start b),.int .i64 (Bk.fin b),.int .i64 (Bk.tlo b),.int .i64 (Bk.thi b),.int .i64 (Bk.slo b),.int .i64 (Bk.shi b),.int .i64 (Bk.notice b),.lst .ro 3 (plsU (Bk.players b))]]) (.cons rfl (.cons rfl (.nil rfl))) rfl fun fr=>?_
 refine k_seq (ym [.read true,.quiet,.plain,.read true,.read false,.quiet,.pre,.plain] (by kernel_rfl) (by kernel_rfl) (by kernel_rfl) ?_)
 refine zX rfl (zJ rfl rfl rfl sh75 rfl (zA rfl)) ?_
 refine zDM rfl (q67) (.lrefl _) ?_
 refine zD (zB rfl (zA rfl)) (zX rfl (zJ rfl rfl rfl sh75 rfl (zA rfl)) ?_)
 refine d_callR rfl (q95) (.int _ _) (.lrefl _) ?_
 refine zDM rfl (q66) (.lrefl _) ?_
 refine d_pre rfl ze85 ?_
 refine zD (zS rfl rfl sh85 rfl rfl rfl rfl rfl (zA rfl)) ?_
 refine zAA ?_
 refine zL [(2,U.box 0 0),(5,U.box 1 0)] ([SB.box [.int .i64 (Bk.parts b),.int .i64 (Bk.size b),.lst .ro 1 (zE (Bk.beats b)),.int .i64 (Bk.start b),.int .i64 (Bk.fin b),.int .i64 (Bk.tlo b),.int .i64 (Bk.thi b),.int .i64 (Bk.slo b),.int .i64 (Bk.shi b),.int .i64 (Bk.notice b),.lst .ro 3 (plsU (Bk.players b))],SB.box [.int .i64 (f (nat_lit 0)),.int .i64 (f (nat_lit 1)),.int .i64 (f (nat_lit 2)),.int .i64 (f (nat_lit 3)),.int .i64 (f (nat_lit 4))]]) (.cons rfl (.cons rfl (.nil rfl))) rfl fun fr=>?_
 refine kQ (zC rfl (zA (k_seq (kQ (zF rfl rfl yy (zF rfl rfl yi (zG rfl rfl rfl sh25 rfl (yR rfl ty25 rfl (List.length_map _) ?_))))))))
 refine zB rfl (zA (zR ?_))
 refine wE (fun kk s2=>∃i:Nat,kk+i=b.players.length∧s2.st=[.box [.int .i64 b.parts,.int .i64 b.size,.lst .ro 1 (zE b.beats),.int .i64 b.start,.int .i64 b.fin,.int .i64 b.tlo,.int .i64 b.thi,.int .i64 b.slo,.int .i64 b.shi,.int .i64 b.notice,.lst .ro 3 (plsU b.players)],.box (arrU f)]∧Holds s2 [(5,.box 1 0),(6,lsU (latS f i)),(17,.int .i64 b.players.length),(18,.int .i64 i)]) (fun kk s2 hI=>?_) b.players.length _ ⟨0,rfl,rfl,.c4 rfl rfl rfl rfl (.nil rfl)⟩
 obtain⟨i,hk,hst2,hs2⟩:=hI
 have hll:=lat_len f i
 have es:latS f (i+1)=latS f i++if 0<f i then [(i:Int)]else []:=rfl
 by_cases hin:i<b.players.length
 ·have ma:(arrU f)[0+(i:Int).toNat*1]? =some (.int .i64 (f i)):=by rw[Int.toNat_natCast,Nat.mul_one,Nat.zero_add];exact zFv f (by omega)
  generalize latS f i=A at*
  refine zL _ _ hs2 hst2 fun fr2=>?_
  by_cases hf:0<f i
  ·rw[if_pos hf]at es
   cases A with
   |nil=>
    refine kQ (yE rfl rfl rfl (zA (k_seq (k_cT rfl (decide_eq_true (by omega)) (zT (k_seq (zR (kQ ?_))))))))
    refine zB rfl (zC rfl (zA (kQ (zB rfl (zBx rfl ty85 rfl rfl (by omega) (by omega) cl3 ?_)))))
    refine zG rfl rfl rfl sh3 ma ?_
    refine zCF rfl rfl rfl (zA (k_cT rfl (decide_eq_true (by omega)) (k_region (zB rfl (zB rfl (zBW (es:=[.int .i64 ↑i]) rfl ty22 ze3 cl3 rfl rfl rfl rfl rfl rfl rfl rfl ?_))))))
    refine o_appendF rfl ap22_22 rfl rfl (by simp) (by simp) (by simp[yf,yI,oneU]) (by simp) ?_
    refine zC rfl (zA ?_)
    refine zL [(5,U.box 1 0),(6,U.lst Kd.own 1 [.int .i64 ↑i]),(17,.int .i64 ↑(List.length (Bk.players b))),(18,.int .i64 ↑i)] ([SB.box [.int .i64 (Bk.parts b),.int .i64 (Bk.size b),.lst .ro 1 (zE (Bk.beats b)),.int .i64 (Bk.start b),.int .i64 (Bk.fin b),.int .i64 (Bk.tlo b),.int .i64 (Bk.thi b),.int .i64 (Bk.slo b),.int .i64 (Bk.shi b),.int .i64 (Bk.notice b),.lst .ro 3 (plsU (Bk.players b))],SB.box (arrU f)]) (.c4 rfl rfl rfl rfl (.nil rfl)) rfl fun fr=>?_
    refine k_region ?_
    refine wM rfl rfl rfl (by unfold I64;omega) (zB rfl (zA ?_))
    exact⟨kk - 1,by omega,i+1,by omega,rfl,.cons rfl (.cons (by rw[es];rfl) (.cons rfl (.cons rfl (.nil rfl))))⟩
   |cons q A=>
    refine kQ (yE rfl rfl rfl (zA (k_seq (k_cT rfl (decide_eq_true (by omega)) (zT (k_seq (zR (kQ ?_))))))))
    refine zB rfl (zC rfl (zA (kQ (zB rfl (zBx rfl ty85 rfl rfl (by omega) (by omega) cl3 ?_)))))
    refine zG rfl rfl rfl sh3 ma ?_
    refine zCF rfl rfl rfl (zA (k_cT rfl (decide_eq_true (by omega)) (k_region (zB rfl (zB rfl (zBW (es:=[.int .i64 ↑i]) rfl ty22 ze3 cl3 rfl rfl rfl rfl rfl rfl rfl rfl ?_))))))
    refine o_appendS 6 rfl ap22_22 rfl rfl rfl (by simp) (by simp) (by simp[yf,yI,oneU]) (by simp at*;omega) ?_
    refine zC rfl (zA ?_)
    refine zL [(5,U.box 1 0),(6,U.lst Kd.own 1 (.int .i64 q::List.append (List.map (fun n ↦ .int .i64 n) A) [.int .i64 ↑i])),(17,.int .i64 ↑(List.length (Bk.players b))),(18,.int .i64 ↑i)] ([SB.box [.int .i64 (Bk.parts b),.int .i64 (Bk.size b),.lst .ro 1 (zE (Bk.beats b)),.int .i64 (Bk.start b),.int .i64 (Bk.fin b),.int .i64 (Bk.tlo b),.int .i64 (Bk.thi b),.int .i64 (Bk.slo b),.int .i64 (Bk.shi b),.int .i64 (Bk.notice b),.lst .ro 3 (plsU (Bk.players b))],SB.box (arrU f)]) (.c4 rfl rfl rfl rfl (.nil rfl)) rfl fun fr=>?_
    refine k_region ?_
    refine wM rfl rfl rfl (by unfold I64;omega) (zB rfl (zA ?_))
    exact⟨kk - 1,by omega,i+1,by omega,rfl,.cons rfl (.cons (by rw[es,ls_snoc];rfl) (.cons rfl (.cons rfl (.nil rfl))))⟩
  ·rw[if_neg hf,List.append_nil]at es
   refine kQ (yE rfl rfl rfl (zA (k_seq (k_cT rfl (decide_eq_true (by omega)) (zT (k_seq (zR (kQ ?_))))))))
   refine zB rfl (zC rfl (zA (kQ (zB rfl (zBx rfl ty85 rfl rfl (by omega) (by omega) cl3 ?_)))))
   refine zG rfl rfl rfl sh3 ma ?_
   refine zCF rfl rfl rfl (zA (k_cF rfl (decide_eq_false (by omega)) (zT (k_region ?_))))
   refine wM rfl rfl rfl (by unfold I64;omega) (zB rfl (zA ?_))
   exact⟨kk - 1,by omega,i+1,by omega,rfl,.cons rfl (.cons (by rw[es];rfl) (.cons rfl (.cons rfl (.nil rfl))))⟩
 ·have hie:i=b.players.length:=by omega
  subst hie
  generalize latS f b.players.length=A at*
  refine zL _ _ hs2 hst2 fun fr2=>?_
  cases A with
  |nil=>
   refine kQ (yE rfl rfl rfl (zA (k_seq (k_cF rfl (decide_eq_false (by omega)) (yh (kQ (zB rfl (zB rfl ?_))))))))
   refine yR rfl ty22 rfl rfl ?_
   refine zB rfl (yR rfl ty22 rfl rfl ?_)
   refine o_slice0 rfl ty22 cl3 rfl (by simp) rfl rfl (Nat.le_refl _) ?_
   refine zC rfl (zA (zY ?_))
   refine⟨.inr rfl,_,.cons _ _ _ _ (.tmp 4) .nil,?_⟩
   exact .ro _ _ _
  |cons q A=>
   refine kQ (yE rfl rfl rfl (zA (k_seq (k_cF rfl (decide_eq_false (by omega)) (yh (kQ (zB rfl (zB rfl ?_))))))))
   refine yR rfl ty22 rfl (List.length_map _) ?_
   refine zB rfl (yR rfl ty22 rfl (List.length_map _) ?_)
   refine o_slice0 rfl ty22 cl3 rfl (by simp) rfl rfl (by simp) ?_
   refine zC rfl (zA (zY ?_))
   refine⟨.inr rfl,_,.cons _ _ _ _ (.tmp 4) .nil,?_⟩
   have huw:UW (.u (.lst .full 1 (List.take (q::A).length (zE (q::A))))) (.u (.lst .ro 1 (zE (q::A)))):=by
    rw[List.take_of_length_le (by simp[zE])];exact .ro _ _ _
   exact huw
theorem ret21(hi:Off is){b:Bk}{L:List Int}(h:BOk b)(hp:POk b L):RetP Tryd.prog is orc 21 [b.u,.lst .ro 1 (zE L)] (.tup [.lst .ro 1 (zE (latS (aftF b true L (b.parts*b.size).toNat) b.players.length)),.int .i64 0]):=by
 refine yC body21 pure21 (hi 21 (by decide)) rfl rfl (yL (yZ b 4) (zi 6 .ro (fun h=>by cases h) 1 L)) (.inr ⟨_,rfl,yL (k:=7) (zi 5 .ro (fun h=>by cases h) 1 _) (.int _ _ _)⟩) ?_
 have q69:=ret69 (orc:=orc) hi h hp
 generalize latS (aftF b true L (b.parts*b.size).toNat) b.players.length=A at*
 refine kQ (ze rfl rfl (zC rfl (zC rfl (zA ?_))))
 refine zL [(1,.lst .ro 1 (zE L)),(2,U.box 0 0)] ([SB.box [.int .i64 (Bk.parts b),.int .i64 (Bk.size b),.lst .ro 1 (zE (Bk.beats b)),.int .i64 (Bk.start b),.int .i64 (Bk.fin b),.int .i64 (Bk.tlo b),.int .i64 (Bk.thi b),.int .i64 (Bk.slo b),.int .i64 (Bk.shi b),.int .i64 (Bk.notice b),.lst .ro 3 (plsU (Bk.players b))]]) (.cons rfl (.cons rfl (.nil rfl))) rfl fun fr=>?_
 refine kQ (zJ rfl rfl rfl sh27 rfl (zB rfl (zO rfl (ret54 hi h hp) (.lrefl _) ?_)))
 refine zB rfl (zc rfl rfl rfl (zc rfl rfl rfl (zd rfl ze75 ?_)))
 refine zS rfl rfl sh75 rfl rfl rfl rfl rfl ?_
 refine zC rfl (zA ?_)
 refine zL [(1,.lst .ro 1 (zE L)),(6,U.box 1 0),(7,.int .i64 0)] ([SB.box [.int .i64 (Bk.parts b),.int .i64 (Bk.size b),.lst .ro 1 (zE (Bk.beats b)),.int .i64 (Bk.start b),.int .i64 (Bk.fin b),.int .i64 (Bk.tlo b),.int .i64 (Bk.thi b),.int .i64 (Bk.slo b),.int .i64 (Bk.shi b),.int .i64 (Bk.notice b),.lst .ro 3 (plsU (Bk.players b))],SB.box [.int .i64 (Bk.parts b),.int .i64 (Bk.size b),.lst .ro 1 (zE (Bk.beats b)),.int .i64 (Bk.start b),.int .i64 (Bk.fin b),.int .i64 (Bk.tlo b),.int .i64 (Bk.thi b),.int .i64 (Bk.slo b),.int .i64 (Bk.shi b),.int .i64 (Bk.notice b),.lst .ro 3 (plsU (Bk.players b))]]) (.cons rfl (.cons rfl (.cons rfl (.nil rfl)))) rfl fun fr=>?_
 refine k_seq (kQ (zB rfl (yz rfl rfl rfl (zA (k_cF rfl rfl ?_)))))
 refine zT (kQ (zJ rfl rfl rfl sh75 rfl (zB rfl (zO rfl (q69) (.lrefl _) (zC rfl (zC rfl (zA (zY ?_))))))))
 refine⟨.inr rfl,_,.cons _ _ _ _ (.tmp 4) (.cons _ _ _ _ (.tmp 5) .nil),?_⟩
 exact .refl _
theorem dec_beq(a b:Int):(a==b)=decide (a=b):=by
 by_cases h:a=b
 ·rw[decide_eq_true h];simp[h]
 ·rw[decide_eq_false h];simp[h]
theorem spn_eq(a b c d:Int):binV Tryd.prog 125 .eql (valK (wA a b)) (valK (wA c d))=some (.bool (decide (a=c)&&decide (b=d))):=by
 have h:binV Tryd.prog 125 .eql (valK (wA a b)) (valK (wA c d))=opt none (fun x=>some (V.bool x)) (Vam.cond (ieq a c) (Vam.cond (ieq b d) (some true) (some false)) (some false)):=by kernel_rfl
 rw[h,zAh,zAh,dec_beq,dec_beq]
 cases decide (a=c)<;>cases decide (b=d)<;>rfl
end
end Go.Proofs.YtfbmlibilcjlgaaDoor.drumPaths
