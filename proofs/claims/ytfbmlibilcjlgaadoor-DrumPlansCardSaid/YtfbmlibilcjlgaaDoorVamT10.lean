import Derived.Test.YtfbmlibilcjlgaaDoorVamT9
set_option linter.unusedVariables false
set_option linter.unusedSimpArgs false
set_option linter.constructorNameAsVariable false
namespace Go.Proofs.YtfbmlibilcjlgaaDoor.drumPlans
open Vam
variable {is:FuncId→Bool}{orc:Known}
noncomputable def b103:Code:=(Tryd.f103.body).getD .skip
theorem body103:bodyOf Tryd.prog 103=some (16,b103,[.tmp 2]):=by kernel_rfl
theorem pure103:pureFn Tryd.prog 103=true:=by kernel_rfl
noncomputable def b29:Code:=(Tryd.f29.body).getD .skip
theorem body29:bodyOf Tryd.prog 29=some (21,b29,[.tmp 2,.tmp 3]):=by kernel_rfl
theorem pure29:pureFn Tryd.prog 29=true:=by kernel_rfl
variable {b:Bk}
def wb(b:Bk):List (List Int):=(zFp b).filter (zBb b)
abbrev plC(b:Bk)(n:Nat):List SB:=[.box [.int .i64 b.parts,.int .i64 b.size,.lst .ro 1 (zE b.beats),.int .i64 b.start,.int .i64 b.fin,.int .i64 b.tlo,.int .i64 b.thi,.int .i64 b.slo,.int .i64 b.shi,.int .i64 b.notice,.lst .ro 3 (plsU b.players)],.box [.int .i64 b.parts,.int .i64 b.size,.lst .ro 1 (zE b.beats),.int .i64 b.start,.int .i64 b.fin,.int .i64 b.tlo,.int .i64 b.thi,.int .i64 b.slo,.int .i64 b.shi,.int .i64 b.notice,.lst .ro 3 (plsU b.players)],.box [.fn 122 [] [.box (n+1) 0]],.box [.fn 71 [b.u] []]]
theorem q106(b:Bk)(n:Nat):WpC Tryd.prog is orc 106 [b.u] (List.replicate n .dead) fun u st'=>∃new,st'=List.replicate n .dead++new∧Fwd n u∧(∀x∈new,FwdS n x)∧(u=.fn 122 [] [.box n 0]∧new=[.box [.int .i64 b.parts,.int .i64 b.size,.lst .ro 1 (zE b.beats),.int .i64 b.start,.int .i64 b.fin,.int .i64 b.tlo,.int .i64 b.thi,.int .i64 b.slo,.int .i64 b.shi,.int .i64 b.notice,.lst .ro 3 (plsU b.players)]]):=by
 refine(wpc106 b (List.replicate n .dead)).mono fun u st' hM=>?_
 rw[List.length_replicate]at hM
 obtain⟨rfl,rfl⟩:=hM
 refine⟨_,rfl,.fn (fun u hu=>by cases hu) fun u hu=>?_,fun x hx=>?_,rfl,rfl⟩
 ·rcases List.mem_singleton.1 hu with rfl;exact .box (by omega)
 ·rcases List.mem_singleton.1 hx with rfl
  intro c hc
  cases yM b 4 with
  |agg _ _ h=>exact((h c hc).nb).fwd n
set_option maxHeartbeats 8000000 in
theorem wpc76(b:Bk)(st:List SB):WpC Tryd.prog is orc 76 [b.u] st fun u st'=>u=.fn 121 [] [.box (st.length+2) 0,.box (st.length+3) 0]∧st'=st++plC b st.length:=by
 refine zDj body76 pure76 rfl rfl ?_
 have hl:(st++[SB.box [.int .i64 b.parts,.int .i64 b.size,.lst .ro 1 (zE b.beats),.int .i64 b.start,.int .i64 b.fin,.int .i64 b.tlo,.int .i64 b.thi,.int .i64 b.slo,.int .i64 b.shi,.int .i64 b.notice,.lst .ro 3 (plsU b.players)]]).length=st.length+1:=by simp
 refine kQ (zl rfl rfl (zB rfl (zA ?_)))
 refine zJ [(1,U.box (List.length st) 0)] (st++[SB.box [.int .i64 (Bk.parts b),.int .i64 (Bk.size b),.lst .ro 1 (zE (Bk.beats b)),.int .i64 (Bk.start b),.int .i64 (Bk.fin b),.int .i64 (Bk.tlo b),.int .i64 (Bk.thi b),.int .i64 (Bk.slo b),.int .i64 (Bk.shi b),.int .i64 (Bk.notice b),.lst .ro 3 (plsU (Bk.players b))]]) (.cons rfl (.nil rfl)) rfl fun fr=>?_
 refine k_seq (yO [.read true,.quiet,.read true,.plain,.plain,.plain] (by kernel_rfl) (by kernel_rfl) (by kernel_rfl) ?_)
 refine zT rfl (zM rfl rfl (zu _ _) sh75 rfl (zA rfl)) ?_
 refine d_callQW (n:=st.length+1) hl rfl (fun u hu=>by rcases List.mem_singleton.1 hu with rfl;exact(nbo_bk b).1) (q106 b (st.length+1)) (.lrefl _) (fun u new hM=>?_)
 obtain⟨rfl,rfl⟩:=hM
 refine zT rfl (zM rfl rfl (ye (zu _ _)) sh75 rfl (zA rfl)) ?_
 refine zD (zGq rfl (zA rfl)) ?_
 refine d_callWE rfl (wpc105 122 71 [] [.box (st.length+1) 0] [b.u] [] _) (.lrefl _) fun u st1 hM=>?_
 obtain⟨rfl,rfl⟩:=hM
 refine zD (zB rfl (zA rfl)) ?_
 refine wH ?_
 refine zV ?_
 refine⟨.inr rfl,_,.cons _ _ _ _ (.tmp 2) .nil,?_⟩
 have h1:((st++[SB.box [.int .i64 b.parts,.int .i64 b.size,.lst .ro 1 (zE b.beats),.int .i64 b.start,.int .i64 b.fin,.int .i64 b.tlo,.int .i64 b.thi,.int .i64 b.slo,.int .i64 b.shi,.int .i64 b.notice,.lst .ro 3 (plsU b.players)]])++[SB.box [.int .i64 b.parts,.int .i64 b.size,.lst .ro 1 (zE b.beats),.int .i64 b.start,.int .i64 b.fin,.int .i64 b.tlo,.int .i64 b.thi,.int .i64 b.slo,.int .i64 b.shi,.int .i64 b.notice,.lst .ro 3 (plsU b.players)]]).length=st.length+2:=by simp
 exact⟨_,.refl _,(by show U.fn 121 [] [.box ((st++[SB.box [.int .i64 b.parts,.int .i64 b.size,.lst .ro 1 (zE b.beats),.int .i64 b.start,.int .i64 b.fin,.int .i64 b.tlo,.int .i64 b.thi,.int .i64 b.slo,.int .i64 b.shi,.int .i64 b.notice,.lst .ro 3 (plsU b.players)]])++[SB.box [.int .i64 b.parts,.int .i64 b.size,.lst .ro 1 (zE b.beats),.int .i64 b.start,.int .i64 b.fin,.int .i64 b.tlo,.int .i64 b.thi,.int .i64 b.slo,.int .i64 b.shi,.int .i64 b.notice,.lst .ro 3 (plsU b.players)]]).length 0,.box (((st++[SB.box [.int .i64 b.parts,.int .i64 b.size,.lst .ro 1 (zE b.beats),.int .i64 b.start,.int .i64 b.fin,.int .i64 b.tlo,.int .i64 b.thi,.int .i64 b.slo,.int .i64 b.shi,.int .i64 b.notice,.lst .ro 3 (plsU b.players)]])++[SB.box [.int .i64 b.parts,.int .i64 b.size,.lst .ro 1 (zE b.beats),.int .i64 b.start,.int .i64 b.fin,.int .i64 b.tlo,.int .i64 b.thi,.int .i64 b.slo,.int .i64 b.shi,.int .i64 b.notice,.lst .ro 3 (plsU b.players)]]).length+1) 0]=_;rw[h1]),(by show((st++[SB.box [.int .i64 b.parts,.int .i64 b.size,.lst .ro 1 (zE b.beats),.int .i64 b.start,.int .i64 b.fin,.int .i64 b.tlo,.int .i64 b.thi,.int .i64 b.slo,.int .i64 b.shi,.int .i64 b.notice,.lst .ro 3 (plsU b.players)]])++[SB.box [.int .i64 b.parts,.int .i64 b.size,.lst .ro 1 (zE b.beats),.int .i64 b.start,.int .i64 b.fin,.int .i64 b.tlo,.int .i64 b.thi,.int .i64 b.slo,.int .i64 b.shi,.int .i64 b.notice,.lst .ro 3 (plsU b.players)]])++[SB.box _,SB.box _]=_;simp only[List.append_assoc];rfl)⟩
abbrev plK(b:Bk)(n:Nat):List (Nat×SB):=[(n+2,.box [.fn 122 [] [.box (n+1) 0]]),(n+3,.box [.fn 71 [b.u] []]),(n+1,.box [.int .i64 b.parts,.int .i64 b.size,.lst .ro 1 (zE b.beats),.int .i64 b.start,.int .i64 b.fin,.int .i64 b.tlo,.int .i64 b.thi,.int .i64 b.slo,.int .i64 b.shi,.int .i64 b.notice,.lst .ro 3 (plsU b.players)])]
theorem plK_at{st:List SB}(c:Nat×SB)(hc:c∈plK b st.length)(P:List SB):(st++plC b st.length++P)[c.1]? =some c.2:=by
 rw[List.append_assoc]
 simp only[List.mem_cons,List.not_mem_nil,or_false]at hc
 rcases hc with rfl|rfl|rfl
 ·exact zBY (i:=2) rfl rfl
 ·exact zBY (i:=3) rfl rfl
 ·exact zBY (i:=1) rfl rfl
theorem genPlans(hb:BOk b)(n:Nat):Gen 121 [.box (n+2) 0,.box (n+3) 0] (plK b n) (wb b) (POk b):=
 gen121 (gen122 hb (n+1)) (fun N h u hu=>by
  rcases List.mem_singleton.1 hu with rfl
  exact Bd.box (h _ List.mem_cons_self)) (fun is orc hi L hL=>ret71 hi hb hL)
theorem bd_plC(b:Bk)(n:Nat):∀x∈plC b n,BdS (n+4) x:=by
 have hB:BdS (n+4) (.box [.int .i64 b.parts,.int .i64 b.size,.lst .ro 1 (zE b.beats),.int .i64 b.start,.int .i64 b.fin,.int .i64 b.tlo,.int .i64 b.thi,.int .i64 b.slo,.int .i64 b.shi,.int .i64 b.notice,.lst .ro 3 (plsU b.players)]):=fun c hc=>by
  cases yM b 4 with
  |agg _ _ h=>exact((h c hc).nb).bd _
 intro x hx
 simp only[List.mem_cons,List.not_mem_nil,or_false]at hx
 rcases hx with rfl|rfl|rfl|rfl
 ·exact hB
 ·exact hB
 ·intro c hc
  rcases List.mem_singleton.1 hc with rfl
  exact Bd.fn (fun u hu=>by cases hu) fun u hu=>by rcases List.mem_singleton.1 hu with rfl;exact Bd.box (by omega)
 ·intro c hc
  rcases List.mem_singleton.1 hc with rfl
  exact Bd.fn (fun u hu=>by rcases List.mem_singleton.1 hu with rfl;exact((yM b 4).nb).bd _) fun u hu=>by cases hu
theorem mem_lvP{b:Bk}:∀(r:Nat) (p L:List Int),L∈lvP b r p→∃q,L=p++q∧q.length=r:=by
 intro r
 induction r with
 |zero=>intro p L h;rcases List.mem_singleton.1 (show L∈[p]from h)with rfl;exact⟨[],by simp,rfl⟩
 |succ r ih=>
  intro p L h
  obtain⟨d,_,hd⟩:=List.mem_flatMap.1 (show L∈(List.range 4).flatMap _ from h)
  split at hd
  ·obtain⟨q,rfl,hq⟩:=ih _ _ hd
   exact⟨(d:Int)::q,by simp,by simp[hq]⟩
  ·cases hd
set_option maxHeartbeats 8000000 in
theorem wpc60c(hi:Off is){b:Bk}(hb:BOk b){st:List SB}(hst:∀x∈st,BdS st.length x):WpC Tryd.prog is orc 60 [b.u,.lst .full 0 []] st fun u st'=>u=.tup [b.u,.int .i64 0]∧st'=st:=by
 refine wpc_cut body60 pure60 rfl rfl ?_
 have q17:=ret17 (orc:=orc) hi b
 rw[if_pos ((wR b).2 hb)]at q17
 refine kQ (zl rfl rfl (zo rfl ze75 ?_))
 refine zB rfl (zA ?_)
 refine zJ [(1,.lst .full 0 []),(2,U.box (List.length st) 0),(4,U.box (List.length (st++[SB.box [.int .i64 (Bk.parts b),.int .i64 (Bk.size b),.lst .ro 1 (zE (Bk.beats b)),.int .i64 (Bk.start b),.int .i64 (Bk.fin b),.int .i64 (Bk.tlo b),.int .i64 (Bk.thi b),.int .i64 (Bk.slo b),.int .i64 (Bk.shi b),.int .i64 (Bk.notice b),.lst .ro 3 (plsU (Bk.players b))]])) 0)] (st++[SB.box [.int .i64 (Bk.parts b),.int .i64 (Bk.size b),.lst .ro 1 (zE (Bk.beats b)),.int .i64 (Bk.start b),.int .i64 (Bk.fin b),.int .i64 (Bk.tlo b),.int .i64 (Bk.thi b),.int .i64 (Bk.slo b),.int .i64 (Bk.shi b),.int .i64 (Bk.notice b),.lst .ro 3 (plsU (Bk.players b))]]++[SB.box [.int .i64 0,.int .i64 0,.lst .full 0 [],.int .i64 0,.int .i64 0,.int .i64 0,.int .i64 0,.int .i64 0,.int .i64 0,.int .i64 0,.lst .full 0 []]]) (.cons rfl (.cons rfl (.cons rfl (.nil rfl)))) rfl fun fr=>?_
 refine k_seq (kQ (zM rfl rfl (ye (zu _ _)) sh27 rfl ?_))
 refine zP rfl (q17) (.lrefl _) (zB rfl (zA (kQ (zC rfl (wB rfl rfl rfl (zA (k_cF rfl rfl ?_)))))))
 refine zR (kQ (zM rfl rfl (ye (zu _ _)) sh27 rfl ?_))
 refine zAn rfl ze75 pl75 rfl rfl ?_
 refine zo rfl ze75 ?_
 refine ze rfl (zu _ _) sh75 rfl rfl rfl rfl rfl ?_
 refine zA ?_
 refine zJ [(1,.lst .full 0 []),(4,U.box (List.length (st++[SB.box [.int .i64 (Bk.parts b),.int .i64 (Bk.size b),.lst .ro 1 (zE (Bk.beats b)),.int .i64 (Bk.start b),.int .i64 (Bk.fin b),.int .i64 (Bk.tlo b),.int .i64 (Bk.thi b),.int .i64 (Bk.slo b),.int .i64 (Bk.shi b),.int .i64 (Bk.notice b),.lst .ro 3 (plsU (Bk.players b))]])) 0),(7,U.box (List.length (st++[SB.box [.int .i64 (Bk.parts b),.int .i64 (Bk.size b),.lst .ro 1 (zE (Bk.beats b)),.int .i64 (Bk.start b),.int .i64 (Bk.fin b),.int .i64 (Bk.tlo b),.int .i64 (Bk.thi b),.int .i64 (Bk.slo b),.int .i64 (Bk.shi b),.int .i64 (Bk.notice b),.lst .ro 3 (plsU (Bk.players b))]]++[SB.box [.int .i64 0,.int .i64 0,.lst .full 0 [],.int .i64 0,.int .i64 0,.int .i64 0,.int .i64 0,.int .i64 0,.int .i64 0,.int .i64 0,.lst .full 0 []]])) 0)] (st++[SB.box [.int .i64 (Bk.parts b),.int .i64 (Bk.size b),.lst .ro 1 (zE (Bk.beats b)),.int .i64 (Bk.start b),.int .i64 (Bk.fin b),.int .i64 (Bk.tlo b),.int .i64 (Bk.thi b),.int .i64 (Bk.slo b),.int .i64 (Bk.shi b),.int .i64 (Bk.notice b),.lst .ro 3 (plsU (Bk.players b))]]++[SB.box [.int .i64 0,.int .i64 0,.lst .full 0 [],.int .i64 0,.int .i64 0,.int .i64 0,.int .i64 0,.int .i64 0,.int .i64 0,.int .i64 0,.lst .full 0 []]]++[SB.box [.int .i64 (Bk.parts b),.int .i64 (Bk.size b),.lst .ro 1 (zE (Bk.beats b)),.int .i64 (Bk.start b),.int .i64 (Bk.fin b),.int .i64 (Bk.tlo b),.int .i64 (Bk.thi b),.int .i64 (Bk.slo b),.int .i64 (Bk.shi b),.int .i64 (Bk.notice b),.lst .ro 3 (plsU (Bk.players b))]]) (.cons rfl (.cons rfl (.cons rfl (.nil rfl)))) (yr _ _ _) fun fr=>?_
 refine k_seq (kQ (zC rfl (yA rfl ty116 rfl rfl ?_)))
 refine zC rfl (zA (zN ?_))
 refine yd (fun kk s2=>∃X:List SB,s2.st=st++X∧X[1]? =some (.box [.int .i64 0,.int .i64 0,.lst .full 0 [],.int .i64 0,.int .i64 0,.int .i64 0,.int .i64 0,.int .i64 0,.int .i64 0,.int .i64 0,.lst .full 0 []])∧X[2]? =some (.box [.int .i64 b.parts,.int .i64 b.size,.lst .ro 1 (zE b.beats),.int .i64 b.start,.int .i64 b.fin,.int .i64 b.tlo,.int .i64 b.thi,.int .i64 b.slo,.int .i64 b.shi,.int .i64 b.notice,.lst .ro 3 (plsU b.players)])∧kk=0∧Holds s2 [(4,.box (st.length+1) 0),(7,.box (st.length+2) 0),(18,.lst .full 0 []),(19,.int .i64 0),(20,.int .i64 0)]) (fun kk s2 hI=>?_) 0 _ ⟨[.box [.int .i64 b.parts,.int .i64 b.size,.lst .ro 1 (zE b.beats),.int .i64 b.start,.int .i64 b.fin,.int .i64 b.tlo,.int .i64 b.thi,.int .i64 b.slo,.int .i64 b.shi,.int .i64 b.notice,.lst .ro 3 (plsU b.players)],.box [.int .i64 0,.int .i64 0,.lst .full 0 [],.int .i64 0,.int .i64 0,.int .i64 0,.int .i64 0,.int .i64 0,.int .i64 0,.int .i64 0,.lst .full 0 []],.box [.int .i64 b.parts,.int .i64 b.size,.lst .ro 1 (zE b.beats),.int .i64 b.start,.int .i64 b.fin,.int .i64 b.tlo,.int .i64 b.thi,.int .i64 b.slo,.int .i64 b.shi,.int .i64 b.notice,.lst .ro 3 (plsU b.players)]],(by show((st++[SB.box _])++[SB.box _])++[SB.box _]=_;rw[List.append_assoc,List.append_assoc];rfl),rfl,rfl,rfl,.cons (by show U.box (st++[SB.box _]).length 0=_;simp) (.cons (by show U.box ((st++[SB.box _])++[SB.box _]).length 0=_;simp) (.cons rfl (.cons rfl (.cons rfl (.nil rfl)))))⟩
 obtain⟨X,hst2,x1,x2,hk,hs2⟩:=hI
 have y1:=at_off (st:=st) x1
 have y2:=at_off (st:=st) x2
 refine zJ _ _ hs2 hst2 fun fr2=>?_
 have hl:st.length+1<(st++X).length:=(List.getElem?_eq_some_iff.1 y1).1
 refine kQ (zh rfl rfl rfl (zA (k_seq (k_cF rfl rfl ?_))))
 refine yJ (kQ (zM rfl rfl y2 sh75 rfl ?_))
 refine ze rfl y1 sh75 rfl rfl rfl rfl rfl ?_
 refine zB rfl (zA (zV ?_))
 refine⟨.inr rfl,_,.cons _ _ _ _ (.cellN 4 75 (st.length+1) 0 11 [.int .i64 b.parts,.int .i64 b.size,.lst .ro 1 (zE b.beats),.int .i64 b.start,.int .i64 b.fin,.int .i64 b.tlo,.int .i64 b.thi,.int .i64 b.slo,.int .i64 b.shi,.int .i64 b.notice,.lst .ro 3 (plsU b.players)] rfl (List.getElem?_set_self hl) sh75 rfl) (.cons _ _ _ _ (.tmp 5) .nil),_,.refl _,?_,?_,?_,rfl,?_⟩
 ·refine Bd.tup fun c hc=>?_
  simp only[List.mem_cons,List.not_mem_nil,or_false]at hc
  rcases hc with rfl|rfl
  ·exact((yM b 4).nb).bd _
  ·exact Bd.int _ _ _
 ·show st.length≤((st++X).set (st.length+1) _).length
  simp
 ·show ∀x∈((st++X).set (st.length+1) _).take st.length,BdS st.length x
  rw[set_off,List.take_left];exact hst
 ·show((st++X).set (st.length+1) _).take st.length=st
  rw[set_off,List.take_left]
theorem bd_bk(b:Bk)(n:Nat):BdS n (.box [.int .i64 b.parts,.int .i64 b.size,.lst .ro 1 (zE b.beats),.int .i64 b.start,.int .i64 b.fin,.int .i64 b.tlo,.int .i64 b.thi,.int .i64 b.slo,.int .i64 b.shi,.int .i64 b.notice,.lst .ro 3 (plsU b.players)]):=fun c hc=>by
 cases yM b 4 with
 |agg _ _ h=>exact((h c hc).nb).bd _
theorem k_rangeG{g n:Nat}{B:List U}{caps:List (Nat×SB)}{els:List (List Int)}{elt:List Int→Prop}{lp:Lp}{stop:List Int→Bool}{Z:List (List Int)→List SB}{DZ:List SB}{ex:Ex}{s:St}{x:Operand}{ps:Array Tmp}{assign body:Code}{Q:Ex→St→Prop}(hi:Off is)
  (hg:Gen g B caps els elt) (hx:zZ s x=.fn g [] B) (hc:Cns (n+1) n lp stop (fun l=>Z l++[.loop .ready lp]) (DZ++[.loop (.done ex) lp]) elt) (hn:∀l,(Z l).length=n) (hnD:DZ.length=n) (hcap:∀c∈caps,∀l,(Z l)[c.1]? =some c.2)
  (hbd:∀l,∀x∈Z l,BdS n x) (hbdD:∀x∈DZ,BdS n x) (hlp:lpOf s ps.toList assign body=lp) (hst:s.st=Z []) (k1:els.any stop=false→endQ Q .ready ⟨s.fr,[],Z els⟩) (k2:els.any stop=true→endQ Q (.done ex) ⟨s.fr,[],DZ⟩):Wp Tryd.prog is orc (.rangeFunc x ps assign body) s Q:=by
 refine k_range hx ?_
 have hl:s.st.length=n:=by rw[hst,hn]
 show WpC Tryd.prog is orc g ([]++([.yld s.st.length]++B)) _ _
 rw[hlp,hl,hst]
 refine(hg is orc hi hc (fun c h l=>ye (hcap c h l))).mono fun _ st' hs=>?_
 rcases hs with ⟨h1,h2⟩|⟨h1,h2⟩
 ·subst h2
  exact⟨.ready,by rw[←hn els];exact zu _ _,by rw[wj (hn els)];exact hbd _,by rw[wj (hn els)];exact k1 h1⟩
 ·subst h2
  exact⟨.done ex,by rw[←hnD];exact zu _ _,by rw[wj hnD];exact hbdD,by rw[wj hnD];exact k2 h1⟩
noncomputable def rg29:Code×Code:=match b29 with
 | .seq _ (.seq _ (.seq _ (.seq _ (.seq (.seq _ (.block _ (.rangeFunc _ _ a b))) _))))=>(a,b)
 |_=>(.skip,.skip)
noncomputable def lp29:Lp:=⟨fun i=>dg (zBe [(4,.box 1 0),(6,.box 2 0),(16,.fn 121 [] [.box 5 0,.box 6 0])] i .junk),[17],rg29.1,rg29.2⟩
noncomputable def cntI:Nat→Int
 |0=>0
 |n+1=>zCV .i64 (cntI n+1)
theorem cntI_eq(n:Nat)(h:n≤1000000):cntI n=n:=by
 induction n with
 |zero=>rfl
 |succ n ih=>
  show zCV .i64 (cntI n+1)=_
  rw[ih (by omega),zGi (by unfold I64;omega)];omega
noncomputable abbrev Z29(b:Bk)(l:List (List Int)):List SB:=[.box [.int .i64 b.parts,.int .i64 b.size,.lst .ro 1 (zE b.beats),.int .i64 b.start,.int .i64 b.fin,.int .i64 b.tlo,.int .i64 b.thi,.int .i64 b.slo,.int .i64 b.shi,.int .i64 b.notice,.lst .ro 3 (plsU b.players)],.box [.int .i64 b.parts,.int .i64 b.size,.lst .ro 1 (zE b.beats),.int .i64 b.start,.int .i64 b.fin,.int .i64 b.tlo,.int .i64 b.thi,.int .i64 b.slo,.int .i64 b.shi,.int .i64 b.notice,.lst .ro 3 (plsU b.players)],.box [.int .i64 (cntI l.length)]]++plC b 3
theorem bd_Z29(b:Bk)(l:List (List Int)):∀x∈Z29 b l,BdS 7 x:=fun x hx=>by
 rcases List.mem_append.1 hx with hx|hx
 ·simp only[List.mem_cons,List.not_mem_nil,or_false]at hx
  rcases hx with rfl|rfl|rfl
  ·exact bd_bk b _
  ·exact bd_bk b _
  ·intro c hc;rcases List.mem_singleton.1 hc with rfl;exact Bd.int _ _ _
 ·exact bd_plC b 3 x hx
theorem cns29(b:Bk):Cns 8 7 lp29 (fun _=>false) (fun l=>Z29 b l++[.loop .ready lp29]) (Z29 b []++[.loop (.done .ret) lp29]) (POk b):=by
 have hlp:∀i,Bd 8 (lp29.fr i):=by
  refine zGB (p:=fun u=>Bd 8 (dg u)) ?_ (Bd.junk _)
  intro x hx
  simp only[List.mem_cons,List.not_mem_nil,or_false]at hx
  rcases hx with rfl|rfl|rfl
  ·exact Bd.box (by omega)
  ·exact Bd.box (by omega)
  ·refine Bd.fn (fun u hu=>by cases hu) fun u hu=>?_
   simp only[List.mem_cons,List.not_mem_nil,or_false]at hu
   rcases hu with rfl|rfl<;>exact Bd.box (by omega)
 have bd1:∀l q,∀x∈Z29 b l++[.loop q lp29],BdS 8 x:=fun l q x hx=>by
  rcases List.mem_append.1 hx with hx|hx
  ·exact BdS.mono (bd_Z29 b l x hx) (by omega)
  ·rcases List.mem_singleton.1 hx with rfl;exact hlp
 refine⟨fun l=>rfl,rfl,fun l=>bd1 l _,bd1 [] _,fun l=>rfl,fun i=>zBX _,⟨17,rfl,rfl⟩,fun is orc hi l q e hq=>?_⟩
 show Wp _ _ _ rg29.1 _ _
 have hlen:cntI (l++[q]).length=zCV .i64 (cntI l.length+1):=by rw[List.length_append];rfl
 refine zR ⟨rfl,rfl,?_⟩
 show Wp _ _ _ rg29.2 _ _
 refine zJ [(4,.box 1 0),(6,.box 2 0)] ((Z29 b l++[.loop .busy lp29])++e) (.cons rfl (.cons rfl (.nil rfl))) rfl fun fr=>?_
 refine zN (k_region (zG rfl rfl rfl sh3 rfl (zFt (v:=.int .i64 (zCV .i64 (cntI l.length+1))) rfl rfl rfl rfl rfl ?_)))
 refine zAt rfl rfl sh3 rfl rfl (zA ?_)
 refine⟨rfl,.inl ⟨rfl,rfl,[],?_⟩⟩
 show [.box [.int .i64 b.parts,.int .i64 b.size,.lst .ro 1 (zE b.beats),.int .i64 b.start,.int .i64 b.fin,.int .i64 b.tlo,.int .i64 b.thi,.int .i64 b.slo,.int .i64 b.shi,.int .i64 b.notice,.lst .ro 3 (plsU b.players)],.box [.int .i64 b.parts,.int .i64 b.size,.lst .ro 1 (zE b.beats),.int .i64 b.start,.int .i64 b.fin,.int .i64 b.tlo,.int .i64 b.thi,.int .i64 b.slo,.int .i64 b.shi,.int .i64 b.notice,.lst .ro 3 (plsU b.players)],SB.box [.int .i64 (zCV .i64 (cntI l.length+1))]]++plC b 3++[.loop .ready lp29]++e=[.box [.int .i64 b.parts,.int .i64 b.size,.lst .ro 1 (zE b.beats),.int .i64 b.start,.int .i64 b.fin,.int .i64 b.tlo,.int .i64 b.thi,.int .i64 b.slo,.int .i64 b.shi,.int .i64 b.notice,.lst .ro 3 (plsU b.players)],.box [.int .i64 b.parts,.int .i64 b.size,.lst .ro 1 (zE b.beats),.int .i64 b.start,.int .i64 b.fin,.int .i64 b.tlo,.int .i64 b.thi,.int .i64 b.slo,.int .i64 b.shi,.int .i64 b.notice,.lst .ro 3 (plsU b.players)],SB.box [.int .i64 (cntI (l++[q]).length)]]++plC b 3++[.loop .ready lp29]++(e++[])
 rw[hlen,List.append_nil]
theorem lvP_len(b:Bk):∀(r:Nat) (p:List Int),(lvP b r p).length≤4 ^ r:=by
 intro r
 induction r with
 |zero=>intro p;exact Nat.le_refl _
 |succ r ih=>
  intro p
  have h:∀j,(ptP b r p j).length≤j*4 ^ r:=by
   intro j
   induction j with
   |zero=>simp[ptP]
   |succ j ihj=>
    rw[zCE,List.length_append,Nat.succ_mul]
    have:(if exB b p j=true then lvP b r (p++[(j:Int)])else []).length≤4 ^ r:=by
     split
     ·exact ih _
     ·exact Nat.zero_le _
    omega
  have:=h 4
  rw[Nat.pow_succ,Nat.mul_comm];exact this
theorem plans_len(hb:BOk b):(wb b).length≤65536:=by
 have hp:=hb.pa
 have h1:=lvP_len b b.parts.toNat []
 have h2:(wb b).length≤(zFp b).length:=List.length_filter_le _ _
 have h3:4 ^ b.parts.toNat≤4 ^ 8:=Nat.pow_le_pow_right (by omega) (by omega)
 have h4:(4:Nat) ^ 8=65536:=rfl
 unfold zFp at h2
 omega
set_option maxHeartbeats 8000000 in
theorem ret29(hi:Off is)(hb:BOk b):RetP Tryd.prog is orc 29 [b.u] (.tup [.int .i64 (wb b).length,.int .i64 0]):=by
 refine zp body29 pure29 (hi 29 (by decide)) rfl rfl (wS (yM b 4)) (.inr ⟨_,rfl,yR (k:=7) (.int _ _ _) (.int _ _ _)⟩) ?_
 refine kQ (zl rfl rfl (zB rfl (zB rfl (zA ?_))))
 refine zJ [(1,U.box 0 0)] ([SB.box [.int .i64 (Bk.parts b),.int .i64 (Bk.size b),.lst .ro 1 (zE (Bk.beats b)),.int .i64 (Bk.start b),.int .i64 (Bk.fin b),.int .i64 (Bk.tlo b),.int .i64 (Bk.thi b),.int .i64 (Bk.slo b),.int .i64 (Bk.shi b),.int .i64 (Bk.notice b),.lst .ro 3 (plsU (Bk.players b))]]) (.cons rfl (.nil rfl)) rfl fun fr=>?_
 refine kQ (zM rfl rfl rfl sh27 rfl ?_)
 refine zBG rfl (wpc60c hi hb (fun x hx=>by rcases List.mem_singleton.1 hx with rfl;exact bd_bk b _)) (.lrefl _) (fun u st1 hM=>?_)
 obtain⟨rfl,rfl⟩:=hM
 refine zC rfl (zb rfl rfl rfl (zb rfl rfl rfl (zo rfl ze75 ?_)))
 refine ze rfl rfl sh75 rfl rfl rfl rfl rfl ?_
 refine zB rfl (zA ?_)
 refine zJ [(4,U.box 1 0),(5,.int .i64 0)] ([SB.box [.int .i64 (Bk.parts b),.int .i64 (Bk.size b),.lst .ro 1 (zE (Bk.beats b)),.int .i64 (Bk.start b),.int .i64 (Bk.fin b),.int .i64 (Bk.tlo b),.int .i64 (Bk.thi b),.int .i64 (Bk.slo b),.int .i64 (Bk.shi b),.int .i64 (Bk.notice b),.lst .ro 3 (plsU (Bk.players b))],SB.box [.int .i64 (Bk.parts b),.int .i64 (Bk.size b),.lst .ro 1 (zE (Bk.beats b)),.int .i64 (Bk.start b),.int .i64 (Bk.fin b),.int .i64 (Bk.tlo b),.int .i64 (Bk.thi b),.int .i64 (Bk.slo b),.int .i64 (Bk.shi b),.int .i64 (Bk.notice b),.lst .ro 3 (plsU (Bk.players b))]]) (.cons rfl (.cons rfl (.nil rfl))) rfl fun fr=>?_
 refine k_seq (kQ (zC rfl (wB rfl rfl rfl (zA (k_cF rfl rfl ?_)))))
 refine zR (kQ (zo rfl ze3 ?_))
 refine zAt rfl rfl sh3 rfl rfl (zA ?_)
 refine zJ [(4,U.box 1 0),(6,U.box 2 0)] ([SB.box [.int .i64 (Bk.parts b),.int .i64 (Bk.size b),.lst .ro 1 (zE (Bk.beats b)),.int .i64 (Bk.start b),.int .i64 (Bk.fin b),.int .i64 (Bk.tlo b),.int .i64 (Bk.thi b),.int .i64 (Bk.slo b),.int .i64 (Bk.shi b),.int .i64 (Bk.notice b),.lst .ro 3 (plsU (Bk.players b))],SB.box [.int .i64 (Bk.parts b),.int .i64 (Bk.size b),.lst .ro 1 (zE (Bk.beats b)),.int .i64 (Bk.start b),.int .i64 (Bk.fin b),.int .i64 (Bk.tlo b),.int .i64 (Bk.thi b),.int .i64 (Bk.slo b),.int .i64 (Bk.shi b),.int .i64 (Bk.notice b),.lst .ro 3 (plsU (Bk.players b))],SB.box [.int .i64 0]]) (.cons rfl (.cons rfl (.nil rfl))) rfl fun fr=>?_
 refine k_seq (kQ (zM rfl rfl rfl sh75 rfl ?_))
 refine zBG rfl (wpc76 b _) (.lrefl _) (fun u st1 hM=>?_)
 obtain⟨rfl,rfl⟩:=hM
 refine zA (zN (zFV [(4,.box 1 0),(6,.box 2 0),(16,.fn 121 [] [.box 5 0,.box 6 0])] (Z29 b []) (.cons rfl (.cons rfl (.cons rfl (.nil rfl)))) rfl ?_))
 refine k_rangeG (n:=7) (stop:=fun _=>false) (Z:=Z29 b) (DZ:=Z29 b []) (ex:=.ret) hi (genPlans hb 3) rfl (cns29 b) (fun l=>rfl) rfl (fun c hc l=>plK_at (st:=[.box [.int .i64 b.parts,.int .i64 b.size,.lst .ro 1 (zE b.beats),.int .i64 b.start,.int .i64 b.fin,.int .i64 b.tlo,.int .i64 b.thi,.int .i64 b.slo,.int .i64 b.shi,.int .i64 b.notice,.lst .ro 3 (plsU b.players)],.box [.int .i64 b.parts,.int .i64 b.size,.lst .ro 1 (zE b.beats),.int .i64 b.start,.int .i64 b.fin,.int .i64 b.tlo,.int .i64 b.thi,.int .i64 b.slo,.int .i64 b.shi,.int .i64 b.notice,.lst .ro 3 (plsU b.players)],.box [.int .i64 (cntI l.length)]]) c hc []) (bd_Z29 b) (bd_Z29 b []) rfl rfl (fun _=>?_) (fun h=>by rw[List.any_eq_true]at h;obtain⟨_,_,h⟩:=h;cases h)
 refine zJ [(4,.box 1 0),(6,.box 2 0)] (Z29 b (wb b)) (.cons rfl (.cons rfl (.nil rfl))) rfl fun fr=>?_
 have hpl:=plans_len hb
 rw[←cntI_eq _ (show(wb b).length≤1000000 by omega)]
 refine kQ (zG rfl rfl rfl sh3 rfl (zB rfl (zB rfl (zA (zV ?_)))))
 refine⟨.inr rfl,_,.cons _ _ _ _ (.tmp 2) (.cons _ _ _ _ (.tmp 3) .nil),?_⟩
 exact .refl _
end Go.Proofs.YtfbmlibilcjlgaaDoor.drumPlans
