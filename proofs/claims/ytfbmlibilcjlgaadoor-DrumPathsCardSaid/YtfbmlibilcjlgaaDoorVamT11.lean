import Derived.Test.YtfbmlibilcjlgaaDoorVamT10
set_option linter.unusedVariables false
set_option linter.unusedSimpArgs false
set_option linter.constructorNameAsVariable false
namespace Go.Proofs.YtfbmlibilcjlgaaDoor.drumPaths
open Vam
section
variable {is:FuncId→Bool}{orc:Known}
noncomputable def b87:Code:=(Tryd.f87.body).getD .skip
theorem body87:bodyOf Tryd.prog 87=some (8,b87,[.tmp 2]):=by kernel_rfl
theorem pure87:pureFn Tryd.prog 87=true:=by kernel_rfl
noncomputable def b23:Code:=(Tryd.f23.body).getD .skip
theorem body23:bodyOf Tryd.prog 23=some (31,b23,[.tmp 4]):=by kernel_rfl
theorem pure23:pureFn Tryd.prog 23=true:=by kernel_rfl
theorem ret87(hi:Off is)(n:Int)(hn: -100≤n∧n≤100):RetP Tryd.prog is orc 87 [.int .i64 n] (.int .i64 (max n (-n))):=by
 refine yC body87 pure87 (hi 87 (by decide)) rfl rfl (zBc (.int _ _ _)) (.inl (.int _ _ _)) ?_
 by_cases h:n<0
 ·rw[show max n (-n)= -n by omega]
  refine kQ (zC rfl (zA (k_seq (kQ (zB rfl (yE rfl rfl rfl (zA (k_cT rfl (decide_eq_true (by omega)) ?_))))))))
  refine kQ (zB rfl ?_)
  refine o_neg rfl rfl (by unfold I64;omega) ?_
  refine zC rfl (zA (zY ?_))
  refine⟨.inr rfl,_,.cons _ _ _ _ (.tmp 2) .nil,?_⟩
  exact .refl _
 ·rw[show max n (-n)=n by omega]
  refine kQ (zC rfl (zA (k_seq (kQ (zB rfl (yE rfl rfl rfl (zA (k_cF rfl (decide_eq_false (by omega)) ?_))))))))
  refine zT (kQ (zB rfl (zC rfl (zA (zY ?_)))))
  refine⟨.inr rfl,_,.cons _ _ _ _ (.tmp 2) .nil,?_⟩
  exact .refl _
set_option maxHeartbeats 8000000 in
theorem ret23(hi:Off is)(A:List Int)(hl:A.length≤4096):RetP Tryd.prog is orc 23 [.lst .ro 1 (zE A),.lst .ro 1 (zE A)] (.bool true):=by
 refine yC body23 pure23 (hi 23 (by decide)) rfl rfl (yL (zi 6 .ro (fun h=>by cases h) 1 A) (zi 6 .ro (fun h=>by cases h) 1 A)) (.inl (.bool _ _)) ?_
 refine kQ (zC rfl (zA (kQ (zB rfl (yR rfl ty22 rfl (List.length_map _) ?_)))))
 refine zB rfl (yR rfl ty22 rfl (List.length_map _) ?_)
 refine zCG rfl rfl rfl (zC rfl (zA (k_seq (kQ (zC rfl (zA (zR ?_)))))))
 refine wE (fun kk s2=>∃i:Nat,kk+i=A.length∧s2.st=[]∧Holds s2 [(0,.lst .ro 1 (zE A)),(1,.lst .ro 1 (zE A)),(5,.bool true),(6,.int .i64 i)]) (fun kk s2 hI=>?_) A.length _ ⟨0,by omega,rfl,.cons rfl (.cons rfl (.cons (by show U.bool (decide _)=_;simp) (.cons rfl (.nil rfl))))⟩
 obtain⟨i,hk,hst2,hs2⟩:=hI
 refine zL _ _ hs2 hst2 fun fr2=>?_
 by_cases hj:i<A.length
 ·have hx:A[i]? =some (A[i]'hj):=List.getElem?_eq_getElem hj
  generalize A[i]'hj=x at hx
  refine k_seq (kQ (zB rfl (zB rfl (o_gD rfl rfl rfl rfl rfl (zB rfl (o_gD rfl rfl rfl rfl rfl (zB rfl (o_gD rfl rfl rfl rfl rfl ?_))))))))
  refine yR rfl ty22 rfl (List.length_map _) ?_
  refine o_gD rfl rfl rfl rfl rfl (yE rfl rfl rfl (zV rfl rfl rfl ?_))
  refine zA (k_cT rfl (decide_eq_true (by omega)) (zT (k_seq (zR (ym [.plain,.plain,.plain,.read true,.plain,.plain,.plain,.read true,.plain,.plain] (by kernel_rfl) (by kernel_rfl) (by kernel_rfl) ?_)))))
  refine zD (zB rfl (zA rfl)) (zD (zB rfl (zA rfl)) (zD (yg (u:=.int .i64 (x)) rfl ty22 rfl rfl (Int.natCast_nonneg _) (by simp[hx]) cl3 (zA rfl)) ?_))
  refine zX rfl (zl rfl rfl sh3 rfl (zA rfl)) ?_
  refine zD (zB rfl (zA rfl)) (zD (zB rfl (zA rfl)) (zD (yg (u:=.int .i64 (x)) rfl ty22 rfl rfl (Int.natCast_nonneg _) (by simp[hx]) cl3 (zA rfl)) ?_))
  refine zX rfl (zl rfl rfl sh3 rfl (zA rfl)) ?_
  refine zD (zCG rfl rfl rfl (zA rfl)) ?_
  refine zD (zC rfl (zA rfl)) ?_
  refine zAA ?_
  refine k_region (zB rfl ?_)
  refine wM rfl rfl rfl (by unfold I64;omega) (zC rfl (zA ?_))
  exact⟨kk - 1,by omega,i+1,by omega,rfl,.cons rfl (.cons rfl (.cons (by show U.bool (decide _)=_;simp) (.cons rfl (.nil rfl))))⟩
 ·refine k_seq ?_
  refine kQ (zB rfl (zB rfl (o_gD rfl rfl rfl rfl rfl (zB rfl (o_gD rfl rfl rfl rfl rfl (zB rfl (o_gD rfl rfl rfl rfl rfl (yR rfl ty22 rfl (List.length_map _) ?_))))))))
  refine o_gD rfl rfl rfl rfl rfl (yE rfl rfl rfl (zV rfl rfl rfl ?_))
  refine zA (k_cF rfl (decide_eq_false (by omega)) (yh (kQ (zB rfl (zC rfl (zA (zY ?_)))))))
  refine⟨.inr rfl,_,.cons _ _ _ _ (.tmp 4) .nil,?_⟩
  exact .refl _
  done
end
section
variable {is:FuncId→Bool}{orc:Known}
def bk0:Bk:=⟨0,0,[],0,0,0,0,0,0,0,[]⟩
theorem uw_bk0{n:Int}:UW (.u (.tup [.agg [.int .i64 0,.int .i64 0,.lst .full 0 [],.int .i64 0,.int .i64 0,.int .i64 0,.int .i64 0,.int .i64 0,.int .i64 0,.int .i64 0,.lst .full 0 []],.int .i64 n])) (.u (.tup [bk0.u,.int .i64 n])):=
 .tup _ _ (.lcons _ _ _ _ (.agg _ _ (.lcons _ _ _ _ (.refl _) (.lcons _ _ _ _ (.refl _) (.lcons _ _ _ _ (.nil .full .ro 1) (.lcons _ _ _ _ (.refl _) (.lcons _ _ _ _ (.refl _) (.lcons _ _ _ _ (.refl _) (.lcons _ _ _ _ (.refl _) (.lcons _ _ _ _ (.refl _) (.lcons _ _ _ _ (.refl _) (.lcons _ _ _ _ (.refl _) (.lcons _ _ _ _ (.nil .full .ro 3) (.lrefl _))))))))))))) (.lrefl _))
set_option maxHeartbeats 8000000 in
theorem wpc60j(hi:Off is){b:Bk}(hb:wU b=false){st:List SB}{g:Nat}{B:List U}:WpC Tryd.prog is orc 60 [b.u,.lst .ro 1 [.fn g [] B]] st fun u st'=>u=.tup [.agg [.int .i64 0,.int .i64 0,.lst .full 0 [],.int .i64 0,.int .i64 0,.int .i64 0,.int .i64 0,.int .i64 0,.int .i64 0,.int .i64 0,.lst .full 0 []],.int .i64 80]∧∃e,st'=st++e:=by
 refine zEN body60 pure60 rfl rfl ?_
 have q17:=ret17 (orc:=orc) hi b
 rw[if_neg (by rw[hb];simp)]at q17
 refine kQ (ze rfl rfl (zd rfl ze75 ?_))
 refine zC rfl (zA ?_)
 refine zL [(1,.lst .ro 1 [U.fn g [] B]),(2,U.box (List.length st) 0),(4,U.box (List.length (st++[SB.box [.int .i64 (Bk.parts b),.int .i64 (Bk.size b),.lst .ro 1 (zE (Bk.beats b)),.int .i64 (Bk.start b),.int .i64 (Bk.fin b),.int .i64 (Bk.tlo b),.int .i64 (Bk.thi b),.int .i64 (Bk.slo b),.int .i64 (Bk.shi b),.int .i64 (Bk.notice b),.lst .ro 3 (plsU (Bk.players b))]])) 0)] (st++[SB.box [.int .i64 (Bk.parts b),.int .i64 (Bk.size b),.lst .ro 1 (zE (Bk.beats b)),.int .i64 (Bk.start b),.int .i64 (Bk.fin b),.int .i64 (Bk.tlo b),.int .i64 (Bk.thi b),.int .i64 (Bk.slo b),.int .i64 (Bk.shi b),.int .i64 (Bk.notice b),.lst .ro 3 (plsU (Bk.players b))]]++[SB.box [.int .i64 0,.int .i64 0,.lst .full 0 [],.int .i64 0,.int .i64 0,.int .i64 0,.int .i64 0,.int .i64 0,.int .i64 0,.int .i64 0,.lst .full 0 []]]) (.cons rfl (.cons rfl (.cons rfl (.nil rfl)))) rfl fun fr=>?_
 refine k_seq (kQ (zJ rfl rfl (zp (zq _ _)) sh27 rfl ?_))
 refine zO rfl (q17) (.lrefl _) (zC rfl (zA (kQ (zB rfl (yz rfl rfl rfl (zA (k_cT rfl rfl ?_)))))))
 refine kQ (wD rfl ze75 pl75 rfl rfl ?_)
 refine zB rfl (zS rfl (zq _ _) sh75 rfl rfl rfl rfl rfl ?_)
 refine zC rfl (zA (zY ?_))
 refine⟨.inr rfl,_,.cons _ _ _ _ (.cellN 4 75 (st++[SB.box [.int .i64 b.parts,.int .i64 b.size,.lst .ro 1 (zE b.beats),.int .i64 b.start,.int .i64 b.fin,.int .i64 b.tlo,.int .i64 b.thi,.int .i64 b.slo,.int .i64 b.shi,.int .i64 b.notice,.lst .ro 3 (plsU b.players)]]).length 0 11 [.int .i64 0,.int .i64 0,.lst .full 0 [],.int .i64 0,.int .i64 0,.int .i64 0,.int .i64 0,.int .i64 0,.int .i64 0,.int .i64 0,.lst .full 0 []] rfl (by show(((st++[SB.box [.int .i64 b.parts,.int .i64 b.size,.lst .ro 1 (zE b.beats),.int .i64 b.start,.int .i64 b.fin,.int .i64 b.tlo,.int .i64 b.thi,.int .i64 b.slo,.int .i64 b.shi,.int .i64 b.notice,.lst .ro 3 (plsU b.players)]])++[SB.box _]).set (st++[SB.box [.int .i64 b.parts,.int .i64 b.size,.lst .ro 1 (zE b.beats),.int .i64 b.start,.int .i64 b.fin,.int .i64 b.tlo,.int .i64 b.thi,.int .i64 b.slo,.int .i64 b.shi,.int .i64 b.notice,.lst .ro 3 (plsU b.players)]]).length (SB.box _))[(st++[SB.box [.int .i64 b.parts,.int .i64 b.size,.lst .ro 1 (zE b.beats),.int .i64 b.start,.int .i64 b.fin,.int .i64 b.tlo,.int .i64 b.thi,.int .i64 b.slo,.int .i64 b.shi,.int .i64 b.notice,.lst .ro 3 (plsU b.players)]]).length]? =_;rw[wV];exact zq _ _) sh75 rfl) (.cons _ _ _ _ (.tmp 5) .nil),_,.refl _,rfl,[SB.box [.int .i64 b.parts,.int .i64 b.size,.lst .ro 1 (zE b.beats),.int .i64 b.start,.int .i64 b.fin,.int .i64 b.tlo,.int .i64 b.thi,.int .i64 b.slo,.int .i64 b.shi,.int .i64 b.notice,.lst .ro 3 (plsU b.players)],.box _],(by show((st++[SB.box [.int .i64 b.parts,.int .i64 b.size,.lst .ro 1 (zE b.beats),.int .i64 b.start,.int .i64 b.fin,.int .i64 b.tlo,.int .i64 b.thi,.int .i64 b.slo,.int .i64 b.shi,.int .i64 b.notice,.lst .ro 3 (plsU b.players)]])++[SB.box _]).set (st++[SB.box [.int .i64 b.parts,.int .i64 b.size,.lst .ro 1 (zE b.beats),.int .i64 b.start,.int .i64 b.fin,.int .i64 b.tlo,.int .i64 b.thi,.int .i64 b.slo,.int .i64 b.shi,.int .i64 b.notice,.lst .ro 3 (plsU b.players)]]).length (SB.box _)=_;rw[wV,List.append_assoc];rfl)⟩
set_option maxHeartbeats 8000000 in
theorem wpc60n(hi:Off is){b:Bk}(hb:BOk b){st:List SB}{g:Nat}{B:List U}(hg:∀X,WpC Tryd.prog is orc g ([b.u]++B) (st++X) fun u st'=>u=.bool false∧∃e,st'=(st++X)++e):WpC Tryd.prog is orc 60 [b.u,.lst .ro 1 [.fn g [] B]] st fun u st'=>u=.tup [.agg [.int .i64 0,.int .i64 0,.lst .full 0 [],.int .i64 0,.int .i64 0,.int .i64 0,.int .i64 0,.int .i64 0,.int .i64 0,.int .i64 0,.lst .full 0 []],.int .i64 81]∧∃e,st'=st++e:=by
 refine zEN body60 pure60 rfl rfl ?_
 have q17:=ret17 (orc:=orc) hi b
 rw[if_pos ((wT b).2 hb)]at q17
 refine kQ (ze rfl rfl (zd rfl ze75 ?_))
 refine zC rfl (zA ?_)
 refine zL [(1,.lst .ro 1 [U.fn g [] B]),(2,U.box (List.length st) 0),(4,U.box (List.length (st++[SB.box [.int .i64 (Bk.parts b),.int .i64 (Bk.size b),.lst .ro 1 (zE (Bk.beats b)),.int .i64 (Bk.start b),.int .i64 (Bk.fin b),.int .i64 (Bk.tlo b),.int .i64 (Bk.thi b),.int .i64 (Bk.slo b),.int .i64 (Bk.shi b),.int .i64 (Bk.notice b),.lst .ro 3 (plsU (Bk.players b))]])) 0)] (st++[SB.box [.int .i64 (Bk.parts b),.int .i64 (Bk.size b),.lst .ro 1 (zE (Bk.beats b)),.int .i64 (Bk.start b),.int .i64 (Bk.fin b),.int .i64 (Bk.tlo b),.int .i64 (Bk.thi b),.int .i64 (Bk.slo b),.int .i64 (Bk.shi b),.int .i64 (Bk.notice b),.lst .ro 3 (plsU (Bk.players b))]]++[SB.box [.int .i64 0,.int .i64 0,.lst .full 0 [],.int .i64 0,.int .i64 0,.int .i64 0,.int .i64 0,.int .i64 0,.int .i64 0,.int .i64 0,.lst .full 0 []]]) (.cons rfl (.cons rfl (.cons rfl (.nil rfl)))) rfl fun fr=>?_
 refine k_seq (kQ (zJ rfl rfl (zp (zq _ _)) sh27 rfl ?_))
 refine zO rfl (q17) (.lrefl _) (zC rfl (zA (kQ (zB rfl (yz rfl rfl rfl (zA (k_cF rfl rfl ?_)))))))
 refine zT (kQ (zJ rfl rfl (zp (zq _ _)) sh27 rfl ?_))
 refine wD rfl ze75 pl75 rfl rfl ?_
 refine zd rfl ze75 ?_
 refine zS rfl (zq _ _) sh75 rfl rfl rfl rfl rfl ?_
 refine zA ?_
 refine zL [(1,.lst .ro 1 [U.fn g [] B]),(4,U.box (List.length (st++[SB.box [.int .i64 (Bk.parts b),.int .i64 (Bk.size b),.lst .ro 1 (zE (Bk.beats b)),.int .i64 (Bk.start b),.int .i64 (Bk.fin b),.int .i64 (Bk.tlo b),.int .i64 (Bk.thi b),.int .i64 (Bk.slo b),.int .i64 (Bk.shi b),.int .i64 (Bk.notice b),.lst .ro 3 (plsU (Bk.players b))]])) 0),(7,U.box (List.length (st++[SB.box [.int .i64 (Bk.parts b),.int .i64 (Bk.size b),.lst .ro 1 (zE (Bk.beats b)),.int .i64 (Bk.start b),.int .i64 (Bk.fin b),.int .i64 (Bk.tlo b),.int .i64 (Bk.thi b),.int .i64 (Bk.slo b),.int .i64 (Bk.shi b),.int .i64 (Bk.notice b),.lst .ro 3 (plsU (Bk.players b))]]++[SB.box [.int .i64 0,.int .i64 0,.lst .full 0 [],.int .i64 0,.int .i64 0,.int .i64 0,.int .i64 0,.int .i64 0,.int .i64 0,.int .i64 0,.lst .full 0 []]])) 0)] (st++[SB.box [.int .i64 (Bk.parts b),.int .i64 (Bk.size b),.lst .ro 1 (zE (Bk.beats b)),.int .i64 (Bk.start b),.int .i64 (Bk.fin b),.int .i64 (Bk.tlo b),.int .i64 (Bk.thi b),.int .i64 (Bk.slo b),.int .i64 (Bk.shi b),.int .i64 (Bk.notice b),.lst .ro 3 (plsU (Bk.players b))]]++[SB.box [.int .i64 0,.int .i64 0,.lst .full 0 [],.int .i64 0,.int .i64 0,.int .i64 0,.int .i64 0,.int .i64 0,.int .i64 0,.int .i64 0,.lst .full 0 []]]++[SB.box [.int .i64 (Bk.parts b),.int .i64 (Bk.size b),.lst .ro 1 (zE (Bk.beats b)),.int .i64 (Bk.start b),.int .i64 (Bk.fin b),.int .i64 (Bk.tlo b),.int .i64 (Bk.thi b),.int .i64 (Bk.slo b),.int .i64 (Bk.shi b),.int .i64 (Bk.notice b),.lst .ro 3 (plsU (Bk.players b))]]) (.cons rfl (.cons rfl (.cons rfl (.nil rfl)))) (wV _ _ _) fun fr=>?_
 refine k_seq (kQ (zB rfl (yR rfl zEa rfl rfl ?_)))
 refine zB rfl (zA (zR ?_))
 refine wE (fun kk s2=>∃X:List SB,s2.st=st++X∧X[1]? =some (.box [.int .i64 0,.int .i64 0,.lst .full 0 [],.int .i64 0,.int .i64 0,.int .i64 0,.int .i64 0,.int .i64 0,.int .i64 0,.int .i64 0,.lst .full 0 []])∧X[2]? =some (.box [.int .i64 b.parts,.int .i64 b.size,.lst .ro 1 (zE b.beats),.int .i64 b.start,.int .i64 b.fin,.int .i64 b.tlo,.int .i64 b.thi,.int .i64 b.slo,.int .i64 b.shi,.int .i64 b.notice,.lst .ro 3 (plsU b.players)])∧(kk=1∧Holds s2 [(4,.box (st.length+1) 0),(7,.box (st.length+2) 0),(18,.lst .ro 1 [.fn g [] B]),(19,.int .i64 1),(20,.int .i64 0)])) (fun kk s2 hI=>?_) 1 _ ⟨[.box [.int .i64 b.parts,.int .i64 b.size,.lst .ro 1 (zE b.beats),.int .i64 b.start,.int .i64 b.fin,.int .i64 b.tlo,.int .i64 b.thi,.int .i64 b.slo,.int .i64 b.shi,.int .i64 b.notice,.lst .ro 3 (plsU b.players)],.box [.int .i64 0,.int .i64 0,.lst .full 0 [],.int .i64 0,.int .i64 0,.int .i64 0,.int .i64 0,.int .i64 0,.int .i64 0,.int .i64 0,.lst .full 0 []],.box [.int .i64 b.parts,.int .i64 b.size,.lst .ro 1 (zE b.beats),.int .i64 b.start,.int .i64 b.fin,.int .i64 b.tlo,.int .i64 b.thi,.int .i64 b.slo,.int .i64 b.shi,.int .i64 b.notice,.lst .ro 3 (plsU b.players)]],(by show((st++[SB.box _])++[SB.box _])++[SB.box _]=_;rw[List.append_assoc,List.append_assoc];rfl),rfl,rfl,⟨rfl,.cons (by show U.box (st++[SB.box _]).length 0=_;simp) (.cons (by show U.box ((st++[SB.box _])++[SB.box _]).length 0=_;simp) (.cons rfl (.cons rfl (.cons rfl (.nil rfl)))))⟩⟩
 obtain⟨X,hst2,x1,x2,hk,hs2⟩:=hI
 have y1:=zCz (st:=st) x1
 have y2:=zCz (st:=st) x2
 refine zL _ _ hs2 hst2 fun fr2=>?_
 refine kQ (yE rfl rfl rfl (zA (k_seq (k_cT rfl rfl ?_))))
 refine zT (k_seq (zR (kQ (yg rfl zEa rfl rfl (by decide) rfl cl83 ?_))))
 refine zl rfl rfl sh83 rfl ?_
 refine zC rfl (zA (kQ (zB rfl (zJ rfl rfl y2 sh75 rfl ?_))))
 refine o_callV rfl rfl (hg X) (.lrefl _) (fun u st1 hM=>?_)
 obtain⟨rfl,e,rfl⟩:=hM
 have y3:((st++X)++e)[st.length+1]? =some (SB.box [.int .i64 0,.int .i64 0,.lst .full 0 [],.int .i64 0,.int .i64 0,.int .i64 0,.int .i64 0,.int .i64 0,.int .i64 0,.int .i64 0,.lst .full 0 []]):=zp y1
 have hl:st.length+1<((st++X)++e).length:=(List.getElem?_eq_some_iff.1 y3).1
 refine wG rfl rfl (zA (k_cT rfl rfl ?_))
 refine kQ (wD rfl ze75 pl75 rfl rfl ?_)
 refine zS rfl y3 sh75 rfl rfl rfl rfl rfl ?_
 refine zC rfl (zA (zY ?_))
 refine⟨.inr rfl,_,.cons _ _ _ _ (.cellN 4 75 (st.length+1) 0 11 [.int .i64 0,.int .i64 0,.lst .full 0 [],.int .i64 0,.int .i64 0,.int .i64 0,.int .i64 0,.int .i64 0,.int .i64 0,.int .i64 0,.lst .full 0 []] rfl (List.getElem?_set_self hl) sh75 rfl) (.cons _ _ _ _ (.tmp 5) .nil),_,.refl _,rfl,((X++e).set 1 (.box [.int .i64 0,.int .i64 0,.lst .full 0 [],.int .i64 0,.int .i64 0,.int .i64 0,.int .i64 0,.int .i64 0,.int .i64 0,.int .i64 0,.lst .full 0 []])),?_⟩
 show((st++X)++e).set (st.length+1) _=_
 rw[List.append_assoc];exact set_off
theorem wpc89n(hi:Off is){b:Bk}{l:List Int}(hb:BOk b)(h:zAf b l=false){st:List SB}{j:Nat}(hj:st[j]? =some (.box [.lst .ro 1 (zE l)])):WpC Tryd.prog is orc 89 [b.u,.box j 0] st fun u st'=>u=.bool false∧∃e,st'=st++e:=by
 refine zEN body89 pure89 rfl rfl ?_
 have q62:=ret62g (orc:=orc) hi hb l
 rw[h]at q62
 refine kQ (ze rfl rfl (zC rfl (zA ?_)))
 refine zL [(1,U.box j 0),(2,U.box (List.length st) 0)] (st++[SB.box [.int .i64 (Bk.parts b),.int .i64 (Bk.size b),.lst .ro 1 (zE (Bk.beats b)),.int .i64 (Bk.start b),.int .i64 (Bk.fin b),.int .i64 (Bk.tlo b),.int .i64 (Bk.thi b),.int .i64 (Bk.slo b),.int .i64 (Bk.shi b),.int .i64 (Bk.notice b),.lst .ro 3 (plsU (Bk.players b))]]) (.cons rfl (.cons rfl (.nil rfl))) rfl fun fr=>?_
 refine kQ (zJ rfl rfl (zq _ _) sh75 rfl ?_)
 refine zG rfl rfl (zp hj) sh22 rfl ?_
 refine zO rfl (q62) (.lrefl _) (zC rfl (zA (zY ?_)))
 refine⟨.inr rfl,_,.cons _ _ _ _ (.tmp 3) .nil,?_⟩
 exact⟨_,.refl _,rfl,_,rfl⟩
def errI(b:Bk)(L:List Int):Int:=if wU b=false then 80 else if zAf b L=false then 81 else 0
set_option maxHeartbeats 8000000 in
theorem ret54g(hi:Off is){b:Bk}{l:List Int}(h:errI b l≠0):RetP Tryd.prog is orc 54 [b.u,.lst .ro 1 (zE l)] (.tup [bk0.u,.int .i64 (errI b l)]):=by
 refine yC body54 pure54 (hi 54 (by decide)) rfl rfl (yL (yZ b 4) (zi 6 .ro (fun h=>by cases h) 1 l)) (.inr ⟨_,rfl,yL (k:=7) (yZ bk0 3) (.int _ _ _)⟩) ?_
 unfold errI at h ⊢
 by_cases hv:wU b=false
 ·rw[if_pos hv]
  refine kQ (ze rfl rfl (ze rfl rfl (zd rfl ze75 ?_)))
  refine zC rfl (zA ?_)
  refine zL [(2,U.box 0 0),(3,U.box 1 0),(4,U.box 2 0)] ([SB.box [.int .i64 (Bk.parts b),.int .i64 (Bk.size b),.lst .ro 1 (zE (Bk.beats b)),.int .i64 (Bk.start b),.int .i64 (Bk.fin b),.int .i64 (Bk.tlo b),.int .i64 (Bk.thi b),.int .i64 (Bk.slo b),.int .i64 (Bk.shi b),.int .i64 (Bk.notice b),.lst .ro 3 (plsU (Bk.players b))],SB.box [.lst .ro 1 (zE l)],SB.box [.int .i64 0,.int .i64 0,.lst .full 0 [],.int .i64 0,.int .i64 0,.int .i64 0,.int .i64 0,.int .i64 0,.int .i64 0,.int .i64 0,.lst .full 0 []]]) (.cons rfl (.cons rfl (.cons rfl (.nil rfl)))) rfl fun fr=>?_
  refine kQ (zJ rfl rfl rfl sh27 rfl ?_)
  refine zFX rfl ?_
  refine zBW (es:=[U.fn 89 [] [U.box 1 0]]) rfl zEa ze83 cl83 rfl rfl rfl rfl rfl rfl rfl rfl ?_
  refine zDq rfl (wpc60j hi hv) (.lcons _ _ _ _ (.refl _) (.lcons _ _ _ _ (.ro _ _ _) (.lrefl _))) (fun u st1 hM=>?_)
  obtain⟨rfl,e,rfl⟩:=hM
  refine zc rfl rfl rfl (zc rfl rfl rfl (zS rfl rfl sh75 rfl rfl rfl rfl rfl ?_))
  refine zC rfl (zA (zY ?_))
  refine⟨.inr rfl,_,.cons _ _ _ _ (.cellN 4 75 _ _ _ _ rfl rfl sh75 rfl) (.cons _ _ _ _ (.tmp 5) .nil),?_⟩
  exact uw_bk0
 ·rw[if_neg hv]at h ⊢
  have hb:=(wT b).1 (by simpa using hv)
  by_cases hp:zAf b l=false
  ·rw[if_pos hp]
   refine kQ (ze rfl rfl (ze rfl rfl (zd rfl ze75 ?_)))
   refine zC rfl (zA ?_)
   refine zL [(2,U.box 0 0),(3,U.box 1 0),(4,U.box 2 0)] ([SB.box [.int .i64 (Bk.parts b),.int .i64 (Bk.size b),.lst .ro 1 (zE (Bk.beats b)),.int .i64 (Bk.start b),.int .i64 (Bk.fin b),.int .i64 (Bk.tlo b),.int .i64 (Bk.thi b),.int .i64 (Bk.slo b),.int .i64 (Bk.shi b),.int .i64 (Bk.notice b),.lst .ro 3 (plsU (Bk.players b))],SB.box [.lst .ro 1 (zE l)],SB.box [.int .i64 0,.int .i64 0,.lst .full 0 [],.int .i64 0,.int .i64 0,.int .i64 0,.int .i64 0,.int .i64 0,.int .i64 0,.int .i64 0,.lst .full 0 []]]) (.cons rfl (.cons rfl (.cons rfl (.nil rfl)))) rfl fun fr=>?_
   refine kQ (zJ rfl rfl rfl sh27 rfl ?_)
   refine zFX rfl ?_
   refine zBW (es:=[U.fn 89 [] [U.box 1 0]]) rfl zEa ze83 cl83 rfl rfl rfl rfl rfl rfl rfl rfl ?_
   refine zDq rfl (wpc60n hi hb (fun X=>wpc89n hi hb hp (j:=1) (zp rfl))) (.lcons _ _ _ _ (.refl _) (.lcons _ _ _ _ (.ro _ _ _) (.lrefl _))) (fun u st1 hM=>?_)
   obtain⟨rfl,e,rfl⟩:=hM
   refine zc rfl rfl rfl (zc rfl rfl rfl (zS rfl rfl sh75 rfl rfl rfl rfl rfl ?_))
   refine zC rfl (zA (zY ?_))
   refine⟨.inr rfl,_,.cons _ _ _ _ (.cellN 4 75 _ _ _ _ rfl rfl sh75 rfl) (.cons _ _ _ _ (.tmp 5) .nil),?_⟩
   exact uw_bk0
  ·rw[if_neg hp]at h;exact absurd rfl h
theorem err_zero{b:Bk}{L:List Int}:errI b L=0↔BOk b∧POk b L:=by
 unfold errI
 by_cases hv:wU b=false
 ·rw[if_pos hv]
  refine⟨(fun h=>by cases h),fun h=>?_⟩
  rw[(wT b).2 h.1]at hv;cases hv
 ·rw[if_neg hv]
  have hb:=(wT b).1 (by simpa using hv)
  by_cases hp:zAf b L=false
  ·rw[if_pos hp]
   refine⟨(fun h=>by cases h),fun h=>?_⟩
   rw[(zCh hb).2 h.2]at hp;cases hp
  ·rw[if_neg hp]
   exact⟨fun _=>⟨hb,(zCh hb).1 (by simpa using hp)⟩,fun _=>rfl⟩
theorem ret15g(hi:Off is){b:Bk}{L:List Int}(h:errI b L≠0):RetP Tryd.prog is orc 15 [b.u,.lst .ro 1 (zE L)] (.tup [.int .i64 0,.int .i64 (errI b L)]):=by
 refine yC body15 pure15 (hi 15 (by decide)) rfl rfl (yL (yZ b 4) (zi 6 .ro (fun h=>by cases h) 1 L)) (.inr ⟨_,rfl,yL (k:=7) (.int _ _ _) (.int _ _ _)⟩) ?_
 have q54:=ret54g (orc:=orc) hi h
 generalize errI b L=er at*
 refine kQ (ze rfl rfl (zC rfl (zC rfl (zA ?_))))
 refine zL [(1,.lst .ro 1 (zE L)),(2,U.box 0 0)] ([SB.box [.int .i64 (Bk.parts b),.int .i64 (Bk.size b),.lst .ro 1 (zE (Bk.beats b)),.int .i64 (Bk.start b),.int .i64 (Bk.fin b),.int .i64 (Bk.tlo b),.int .i64 (Bk.thi b),.int .i64 (Bk.slo b),.int .i64 (Bk.shi b),.int .i64 (Bk.notice b),.lst .ro 3 (plsU (Bk.players b))]]) (.cons rfl (.cons rfl (.nil rfl))) rfl fun fr=>?_
 refine kQ (zJ rfl rfl rfl sh27 rfl (zB rfl (zO rfl (q54) (.lrefl _) (zB rfl (zc rfl rfl rfl (zc rfl rfl rfl (zd rfl ze75 ?_)))))))
 refine zS rfl rfl sh75 rfl rfl rfl rfl rfl ?_
 refine zC rfl (zA ?_)
 refine zL [(1,.lst .ro 1 (zE L)),(6,U.box 1 0),(7,.int .i64 er)] ([SB.box [.int .i64 (Bk.parts b),.int .i64 (Bk.size b),.lst .ro 1 (zE (Bk.beats b)),.int .i64 (Bk.start b),.int .i64 (Bk.fin b),.int .i64 (Bk.tlo b),.int .i64 (Bk.thi b),.int .i64 (Bk.slo b),.int .i64 (Bk.shi b),.int .i64 (Bk.notice b),.lst .ro 3 (plsU (Bk.players b))],SB.box [.int .i64 (Bk.parts bk0),.int .i64 (Bk.size bk0),.lst .ro 1 (zE (Bk.beats bk0)),.int .i64 (Bk.start bk0),.int .i64 (Bk.fin bk0),.int .i64 (Bk.tlo bk0),.int .i64 (Bk.thi bk0),.int .i64 (Bk.slo bk0),.int .i64 (Bk.shi bk0),.int .i64 (Bk.notice bk0),.lst .ro 3 (plsU (Bk.players bk0))]]) (.cons rfl (.cons rfl (.cons rfl (.nil rfl)))) rfl fun fr=>?_
 refine k_seq (kQ (zB rfl (yz rfl rfl rfl (zA (k_cT rfl (decide_eq_true h) ?_)))))
 refine kQ (zB rfl (zC rfl (zC rfl (zA (zY ?_)))))
 refine⟨.inr rfl,_,.cons _ _ _ _ (.tmp 4) (.cons _ _ _ _ (.tmp 5) .nil),?_⟩
 exact .refl _
 done
theorem ret21g(hi:Off is){b:Bk}{L:List Int}(h:errI b L≠0):RetP Tryd.prog is orc 21 [b.u,.lst .ro 1 (zE L)] (.tup [.lst .ro 1 [],.int .i64 (errI b L)]):=by
 refine yC body21 pure21 (hi 21 (by decide)) rfl rfl (yL (yZ b 4) (zi 6 .ro (fun h=>by cases h) 1 L)) (.inr ⟨_,rfl,yL (k:=7) (zi 5 .ro (fun h=>by cases h) 1 []) (.int _ _ _)⟩) ?_
 have q54:=ret54g (orc:=orc) hi h
 generalize errI b L=er at*
 refine kQ (ze rfl rfl (zC rfl (zC rfl (zA ?_))))
 refine zL [(1,.lst .ro 1 (zE L)),(2,U.box 0 0)] ([SB.box [.int .i64 (Bk.parts b),.int .i64 (Bk.size b),.lst .ro 1 (zE (Bk.beats b)),.int .i64 (Bk.start b),.int .i64 (Bk.fin b),.int .i64 (Bk.tlo b),.int .i64 (Bk.thi b),.int .i64 (Bk.slo b),.int .i64 (Bk.shi b),.int .i64 (Bk.notice b),.lst .ro 3 (plsU (Bk.players b))]]) (.cons rfl (.cons rfl (.nil rfl))) rfl fun fr=>?_
 refine kQ (zJ rfl rfl rfl sh27 rfl (zB rfl (zO rfl (q54) (.lrefl _) (zB rfl (zc rfl rfl rfl (zc rfl rfl rfl (zd rfl ze75 ?_)))))))
 refine zS rfl rfl sh75 rfl rfl rfl rfl rfl ?_
 refine zC rfl (zA ?_)
 refine zL [(1,.lst .ro 1 (zE L)),(6,U.box 1 0),(7,.int .i64 er)] ([SB.box [.int .i64 (Bk.parts b),.int .i64 (Bk.size b),.lst .ro 1 (zE (Bk.beats b)),.int .i64 (Bk.start b),.int .i64 (Bk.fin b),.int .i64 (Bk.tlo b),.int .i64 (Bk.thi b),.int .i64 (Bk.slo b),.int .i64 (Bk.shi b),.int .i64 (Bk.notice b),.lst .ro 3 (plsU (Bk.players b))],SB.box [.int .i64 (Bk.parts bk0),.int .i64 (Bk.size bk0),.lst .ro 1 (zE (Bk.beats bk0)),.int .i64 (Bk.start bk0),.int .i64 (Bk.fin bk0),.int .i64 (Bk.tlo bk0),.int .i64 (Bk.thi bk0),.int .i64 (Bk.slo bk0),.int .i64 (Bk.shi bk0),.int .i64 (Bk.notice bk0),.lst .ro 3 (plsU (Bk.players bk0))]]) (.cons rfl (.cons rfl (.cons rfl (.nil rfl)))) rfl fun fr=>?_
 refine k_seq (kQ (zB rfl (yz rfl rfl rfl (zA (k_cT rfl (decide_eq_true h) ?_)))))
 refine kQ (zB rfl (zC rfl (zC rfl (zA (zY ?_)))))
 refine⟨.inr rfl,_,.cons _ _ _ _ (.tmp 4) (.cons _ _ _ _ (.tmp 5) .nil),?_⟩
 exact .tup _ _ (.lcons _ _ _ _ (.nil .full .ro 1) (.lrefl _))
end
end Go.Proofs.YtfbmlibilcjlgaaDoor.drumPaths
