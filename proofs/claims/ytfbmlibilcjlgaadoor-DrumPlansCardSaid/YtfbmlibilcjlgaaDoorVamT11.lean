import Derived.Test.YtfbmlibilcjlgaaDoorVamT10
set_option linter.unusedVariables false
set_option linter.unusedSimpArgs false
set_option linter.constructorNameAsVariable false
namespace Go.Proofs.YtfbmlibilcjlgaaDoor.drumPlans
open Vam
variable {is:FuncId→Bool}{orc:Known}{b:Bk}
theorem ze94:yY Tryd.prog 94=some ((.cons .nils .nil):V):=by kernel_rfl
noncomputable def b73:Code:=(Tryd.f73.body).getD .skip
theorem body73:bodyOf Tryd.prog 73=some (24,b73,[.tmp 2]):=by kernel_rfl
theorem pure73:pureFn Tryd.prog 73=true:=by kernel_rfl
noncomputable def b27:Code:=(Tryd.f27.body).getD .skip
theorem body27:bodyOf Tryd.prog 27=some (21,b27,[.tmp 2,.tmp 3]):=by kernel_rfl
theorem pure27:pureFn Tryd.prog 27=true:=by kernel_rfl
def chgL(L:List Int)(n:Nat):Int:=chgI (fun i=>(L[i]?).getD 0) n
noncomputable def rg103:Code×Code:=match b103 with
 | .seq _ (.seq _ (.seq (.seq _ (.block _ (.rangeFunc _ _ a b))) _))=>(a,b)
 |_=>(.skip,.skip)
noncomputable def lp103:Lp:=⟨fun i=>dg (zBe [(3,.box 0 0),(7,.fn 125 [] [.box 1 0])] i .junk),[8,9],rg103.1,rg103.2⟩
noncomputable abbrev Y103(L:List Int)(c:Int)(s:Lq):List SB:=[.box [.int .i64 c],.box [.lst .ro 1 (zE L)],.loop s lp103]
set_option maxHeartbeats 8000000 in
theorem yield103(hi:Off is)(L:List Int)(i:Nat)(x y c:Int)(e:List SB)(hc:0≤c∧c≤4096):
  WpY Tryd.prog is orc 2 lp103 [.int .i64 i,wa x y] (Y103 L c .ready++e) fun u st'=>u=.bool true∧∃e',st'=Y103 L (c+if y=x then 0 else 1) .ready++e':=by
 show Wp _ _ _ rg103.1 _ _
 generalize hY:Y103 L c .ready++e=Y
 have hlen:Y.length=3+e.length:=by rw[←hY];simp;omega
 refine k_region (zo rfl ze135 ?_)
 refine ze rfl (zu _ _) sh135 rfl rfl rfl rfl rfl ?_
 refine zA ?_
 refine⟨rfl,?_,?_⟩
 ·show((Y++[SB.box _]).set Y.length (SB.box _))[2]? =_
  rw[yr,←hY];rfl
 refine zJ [(3,.box 0 0),(5,.box Y.length 0)] (Y103 L c .busy++(e++[.box [.int .i64 x,.int .i64 y]])) (.cons rfl (.cons rfl (.nil rfl))) (by
  show((Y++[SB.box _]).set Y.length (SB.box _)).set 2 (.loop .busy lp103)=_
  rw[yr,←hY,List.append_assoc];rfl) fun fr=>?_
 have hb5:(Y103 L c .busy++(e++[SB.box [.int .i64 x,.int .i64 y]]))[Y.length]? =some (.box [.int .i64 x,.int .i64 y]):=by
  rw[←List.append_assoc,show Y.length=(Y103 L c .busy++e).length by simp[hlen];omega];exact zu _ _
 have q119:=ret119 (orc:=orc) hi x y
 show Wp _ _ _ rg103.2 _ _
 by_cases hxy:y=x
 ·rw[decide_eq_true hxy]at q119
  refine zN (kQ (zM rfl rfl hb5 sh135 rfl ?_))
  refine zP rfl (q119) (.lrefl _) (wK rfl rfl (zA (k_cF rfl rfl ?_)))
  refine zR ?_
  exact⟨rfl,rfl,_,by rw[if_pos hxy,Int.add_zero];rfl⟩
 ·rw[decide_eq_false hxy]at q119
  refine zN (kQ (zM rfl rfl hb5 sh135 rfl ?_))
  refine zP rfl (q119) (.lrefl _) (wK rfl rfl (zA (k_cT rfl rfl ?_)))
  refine k_region (zG rfl rfl rfl sh3 rfl ?_)
  refine yT rfl rfl rfl (by unfold I64;omega) (zAt rfl rfl sh3 rfl rfl (zA ?_))
  exact⟨rfl,rfl,_,by rw[if_neg hxy];rfl⟩
set_option maxHeartbeats 8000000 in
theorem ret103(hi:Off is){L:List Int}(hL:1≤L.length∧L.length≤4096):RetP Tryd.prog is orc 103 [.lst .ro 1 (zE L)] (.int .i64 (chgL L (L.length - 1))):=by
 refine zp body103 pure103 (hi 103 (by decide)) rfl rfl (wS (zd 6 .ro (fun h=>by cases h) 1 L)) (.inl (.int _ _ _)) ?_
 refine kQ (zB rfl (zA (kQ (zo rfl ze3 ?_))))
 refine zAt rfl rfl sh3 rfl rfl (zA ?_)
 refine zJ [(0,.lst .ro 1 (zE L)),(3,U.box 0 0)] ([SB.box [.int .i64 0]]) (.cons rfl (.cons rfl (.nil rfl))) rfl fun fr=>?_
 refine k_seq (kQ (zC rfl ?_))
 refine zBG rfl (wpc111 L _) (.lrefl _) (fun u st1 hM=>?_)
 obtain⟨rfl,rfl⟩:=hM
 refine zA (zN (zFV [(3,.box 0 0),(7,.fn 125 [] [.box 1 0])] [.box [.int .i64 0],.box [.lst .ro 1 (zE L)]] (.cons rfl (.cons rfl (.nil rfl))) rfl ?_))
 have hcb:∀i,0≤chgL L i∧chgL L i≤i:=fun i=>chgI_b _ _
 have hM:Mks L 2 1 lp103 (fun i Y=>i<L.length∧∃e,Y=Y103 L (chgL L i) .ready++e):=by
  refine⟨fun i=>zBX _,⟨8,9,rfl,by decide,by decide⟩,fun i Y hY=>?_,fun i Y hY=>?_,fun is orc hi i x y Y hY hx hy=>?_⟩
  ·obtain⟨_,e,rfl⟩:=hY;rfl
  ·obtain⟨_,e,rfl⟩:=hY;rfl
  ·obtain⟨_,e,rfl⟩:=hY
   have hy1:=(List.getElem?_eq_some_iff.1 hy).1
   have hb:=hcb i
   have es:chgL L (i+1)=chgL L i+if y=x then 0 else 1:=by
    show chgL L i+(if(L[i+1]?).getD 0=(L[i]?).getD 0 then 0 else 1)=_
    rw[hx,hy];rfl
   rw[es]
   refine(yield103 hi L i x y (chgL L i) e (by omega)).mono fun u st' hu=>⟨hu.1,hy1,hu.2⟩
 refine k_range (g:=125) rfl ((wpc125 hi hM hL _ ⟨by omega,[],rfl⟩).mono fun _ st' hst=>⟨.ready,?_,?_,?_⟩)
 ·obtain⟨_,e,rfl⟩:=hst;rfl
 ·obtain⟨_,e,rfl⟩:=hst
  intro y hy
  simp only[List.mem_cons,List.not_mem_nil,or_false]at hy
  have hy:y=SB.box [.int .i64 (chgL L (L.length - 1))]∨y=.box [.lst .ro 1 (zE L)]:=by
   have:y∈[SB.box [.int .i64 (chgL L (L.length - 1))],.box [.lst .ro 1 (zE L)]]:=hy
   simpa using this
  rcases hy with rfl|rfl
  ·intro c hc;rcases List.mem_singleton.1 hc with rfl;exact Bd.int _ _ _
  ·intro c hc;rcases List.mem_singleton.1 hc with rfl;exact((zd 6 .ro (fun h=>by cases h) 1 L).nb).bd _
 ·obtain⟨_,e,rfl⟩:=hst
  refine zJ [(3,.box 0 0)] [.box [.int .i64 (chgL L (L.length - 1))],.box [.lst .ro 1 (zE L)]] (.cons rfl (.nil rfl)) rfl fun fr=>?_
  refine kQ (zG rfl rfl rfl sh3 rfl (zB rfl (zA (zV ?_))))
  refine⟨.inr rfl,_,.cons _ _ _ _ (.tmp 2) .nil,?_⟩
  exact .refl _
def chg(q:List Int):Int:=chgL q (q.length - 1)
def zAZ(best q:List Int):List Int:=if best=[]∨chg q<chg best then q else best
def ok8(q:List Int):Bool:=decide (1≤q.length)&&decide (q.length≤8)
def wn(l:List (List Int)):List Int:=(l.filter ok8).foldl zAZ []
theorem zCl{q:List Int}:ok8 q=true↔1≤q.length∧q.length≤8:=by unfold ok8;rw[Bool.and_eq_true,decide_eq_true_iff,decide_eq_true_iff]
theorem zGU(l:List (List Int)){q:List Int}(h:ok8 q=true):wn (l++[q])=zAZ (wn l) q:=by
 unfold wn
 rw[List.filter_append,List.filter_cons_of_pos h,List.filter_nil,List.foldl_append];rfl
theorem fold_ok(l:List (List Int))(hl:∀q∈l,ok8 q=true):∀a:List Int,(a=[]∨ok8 a=true)→(l.foldl zAZ a=[]∨ok8 (l.foldl zAZ a)=true):=by
 induction l with
 |nil=>intro a h;exact h
 |cons q l ih=>
  intro a h
  refine ih (fun x hx=>hl x (List.mem_cons_of_mem _ hx)) _ ?_
  unfold zAZ
  split
  ·exact .inr (hl q List.mem_cons_self)
  ·exact h
theorem best_ok(l:List (List Int)):wn l=[]∨ok8 (wn l)=true:=fold_ok _ (fun q hq=>(List.mem_filter.1 hq).2) _ (.inl rfl)
def bestU:List Int→U
 |[]=>.lst .full 0 []
 |q::l=>.lst .ro 1 (zE (q::l))
noncomputable def rg73:Code×Code:=match b73 with
 | .seq _ (.seq _ (.seq (.seq _ (.block _ (.rangeFunc _ _ a b))) _))=>(a,b)
 |_=>(.skip,.skip)
noncomputable def lp73:Lp:=⟨fun i=>dg (zBe [(3,.box 1 0),(6,.fn 121 [] [.box 4 0,.box 5 0])] i .junk),[7],rg73.1,rg73.2⟩
abbrev Z73(b:Bk)(l:List (List Int)):List SB:=[.box [.int .i64 b.parts,.int .i64 b.size,.lst .ro 1 (zE b.beats),.int .i64 b.start,.int .i64 b.fin,.int .i64 b.tlo,.int .i64 b.thi,.int .i64 b.slo,.int .i64 b.shi,.int .i64 b.notice,.lst .ro 3 (plsU b.players)],.box [bestU (wn l)]]++plC b 2
theorem bd_best(q:List Int)(n:Nat):Bd n (bestU q):=by
 cases q with
 |nil=>exact Bd.lst fun c hc=>by cases hc
 |cons q l=>exact((zd 6 .ro (fun h=>by cases h) 1 (q::l)).nb).bd _
theorem bd_Z73(b:Bk)(l:List (List Int)):∀x∈Z73 b l,BdS 6 x:=fun x hx=>by
 rcases List.mem_append.1 hx with hx|hx
 ·simp only[List.mem_cons,List.not_mem_nil,or_false]at hx
  rcases hx with rfl|rfl
  ·exact bd_bk b _
  ·intro c hc;rcases List.mem_singleton.1 hc with rfl;exact bd_best _ _
 ·exact bd_plC b 2 x hx
theorem POk.ok8{q:List Int}(hb:BOk b)(h:POk b q):ok8 q=true:=zCl.2 (by have:=h.len;have:=hb.pa;omega)
set_option maxHeartbeats 8000000 in
theorem cns73(hb:BOk b):Cns 7 6 lp73 (fun _=>false) (fun l=>Z73 b l++[.loop .ready lp73]) (Z73 b []++[.loop (.done .ret) lp73]) (POk b):=by
 have hlp:∀i,Bd 7 (lp73.fr i):=by
  refine zGB (p:=fun u=>Bd 7 (dg u)) ?_ (Bd.junk _)
  intro x hx
  simp only[List.mem_cons,List.not_mem_nil,or_false]at hx
  rcases hx with rfl|rfl
  ·exact Bd.box (by omega)
  ·refine Bd.fn (fun u hu=>by cases hu) fun u hu=>?_
   simp only[List.mem_cons,List.not_mem_nil,or_false]at hu
   rcases hu with rfl|rfl<;>exact Bd.box (by omega)
 have bd1:∀l q,∀x∈Z73 b l++[.loop q lp73],BdS 7 x:=fun l q x hx=>by
  rcases List.mem_append.1 hx with hx|hx
  ·exact BdS.mono (bd_Z73 b l x hx) (by omega)
  ·rcases List.mem_singleton.1 hx with rfl;exact hlp
 refine⟨fun l=>rfl,rfl,fun l=>bd1 l _,bd1 [] _,fun l=>rfl,fun i=>zBX _,⟨7,rfl,rfl⟩,fun is orc hi l q e hq=>?_⟩
 have hq8:=POk.ok8 hb hq
 have hq1:=zCl.1 hq8
 have hbs:=zGU l hq8
 have hbo:=best_ok l
 show Wp _ _ _ rg73.1 ⟨_,[],([.box [.int .i64 b.parts,.int .i64 b.size,.lst .ro 1 (zE b.beats),.int .i64 b.start,.int .i64 b.fin,.int .i64 b.tlo,.int .i64 b.thi,.int .i64 b.slo,.int .i64 b.shi,.int .i64 b.notice,.lst .ro 3 (plsU b.players)],.box [bestU (wn l)]]++plC b 2++[.loop .ready lp73])++e⟩ _
 show Wp _ _ _ _ _ fun e' s1=>e'=.normal∧s1.st[6]? =some (.loop .ready lp73)∧Wp _ _ _ rg73.2 ⟨s1.fr,[],s1.st.set 6 (.loop .busy lp73)⟩ fun e2 s2=>s2.st[6]? =some (.loop .busy lp73)∧match e2 with
  | .normal=>(false=false∧U.bool true=.bool true∧∃e',s2.st.set 6 (.loop .ready lp73)=([.box [.int .i64 b.parts,.int .i64 b.size,.lst .ro 1 (zE b.beats),.int .i64 b.start,.int .i64 b.fin,.int .i64 b.tlo,.int .i64 b.thi,.int .i64 b.slo,.int .i64 b.shi,.int .i64 b.notice,.lst .ro 3 (plsU b.players)],.box [bestU (wn (l++[q]))]]++plC b 2++[.loop .ready lp73])++(e++e'))∨(false=true∧U.bool true=.bool false∧∃e',s2.st.set 6 (.loop .ready lp73)=(Z73 b []++[.loop (.done .ret) lp73])++(e++e'))
  |ex=>(false=false∧U.bool false=.bool true∧∃e',s2.st.set 6 (.loop (.done ex) lp73)=([.box [.int .i64 b.parts,.int .i64 b.size,.lst .ro 1 (zE b.beats),.int .i64 b.start,.int .i64 b.fin,.int .i64 b.tlo,.int .i64 b.thi,.int .i64 b.slo,.int .i64 b.shi,.int .i64 b.notice,.lst .ro 3 (plsU b.players)],.box [bestU (wn (l++[q]))]]++plC b 2++[.loop .ready lp73])++(e++e'))∨(false=true∧U.bool false=.bool false∧∃e',s2.st.set 6 (.loop (.done ex) lp73)=(Z73 b []++[.loop (.done .ret) lp73])++(e++e'))
 rw[hbs]
 generalize wn l=best at*
 have q103:=ret103 (orc:=orc) hi (L:=q) (by omega)
 have hqu:U.lst .ro 1 (zE q)=bestU q:=by
  cases q with
  |nil=>simp at hq1
  |cons a q=>rfl
 refine k_region (zB rfl (zA ?_))
 refine⟨rfl,rfl,?_⟩
 cases best with
 |nil=>
  have e1:zAZ [] q=q:=by unfold zAZ;rw[if_pos (.inl rfl)]
  rw[e1,←hqu]
  refine zJ [(3,.box 1 0),(4,.lst .ro 1 (zE q))] (([.box [.int .i64 b.parts,.int .i64 b.size,.lst .ro 1 (zE b.beats),.int .i64 b.start,.int .i64 b.fin,.int .i64 b.tlo,.int .i64 b.thi,.int .i64 b.slo,.int .i64 b.shi,.int .i64 b.notice,.lst .ro 3 (plsU b.players)],.box [.lst .full 0 []]]++plC b 2++[.loop .busy lp73])++e) (.cons rfl (.cons rfl (.nil rfl))) rfl fun fr=>?_
  refine zN (k_seq (yO [.plain,.plain,.plain,.plain,.read false,.read true,.plain,.plain,.plain] (by kernel_rfl) (by kernel_rfl) (by kernel_rfl) ?_))
  refine zD (zG rfl rfl rfl sh94 rfl (zA rfl)) ?_
  refine zD (o_eqNilT rfl ty94 rfl (fun _=>rfl) (zA rfl)) ?_
  refine zD (zC rfl (zA rfl)) (d_gS rfl rfl rfl rfl rfl (d_gS rfl rfl rfl rfl rfl (d_gS rfl rfl rfl rfl rfl (d_gS rfl rfl rfl rfl rfl (d_gS rfl rfl rfl rfl rfl (zD (zX rfl rfl rfl (zA rfl)) ?_))))))
  refine wH ?_
  refine k_cT rfl rfl ?_
  refine k_region (zC rfl (zAt rfl rfl sh94 rfl rfl (zA ?_)))
  exact⟨rfl,.inl ⟨rfl,rfl,[],by rw[List.append_nil];rfl⟩⟩
 |cons a best=>
  have q103b:=ret103 (orc:=orc) hi (L:=a::best) (by rcases hbo with h|h;cases h;have:=zCl.1 h;omega)
  change RetP _ _ _ _ _ (.int .i64 (chg q))at q103
  change RetP _ _ _ _ _ (.int .i64 (chg (a::best)))at q103b
  by_cases hlt:chg q<chg (a::best)
  ·have e1:zAZ (a::best) q=q:=by unfold zAZ;rw[if_pos (.inr hlt)]
   rw[e1,←hqu]
   generalize chg q=cq at*
   generalize chg (a::best)=cb at*
   refine zJ [(3,.box 1 0),(4,.lst .ro 1 (zE q))] (([.box [.int .i64 b.parts,.int .i64 b.size,.lst .ro 1 (zE b.beats),.int .i64 b.start,.int .i64 b.fin,.int .i64 b.tlo,.int .i64 b.thi,.int .i64 b.slo,.int .i64 b.shi,.int .i64 b.notice,.lst .ro 3 (plsU b.players)],.box [.lst .ro 1 (zE (a::best))]]++plC b 2++[.loop .busy lp73])++e) (.cons rfl (.cons rfl (.nil rfl))) rfl fun fr=>?_
   refine zN (k_seq (yO [.plain,.plain,.plain,.plain,.read false,.read true,.plain,.plain,.plain] (by kernel_rfl) (by kernel_rfl) (by kernel_rfl) ?_))
   refine zD (zG rfl rfl rfl sh94 rfl (zA rfl)) ?_
   refine zD (o_eqNilF rfl ty94 rfl (by simp) (fun _=>rfl) (zA rfl)) ?_
   refine zD (zC rfl (zA rfl)) (d_gD rfl rfl rfl rfl rfl (zD (zC rfl (zA rfl)) (d_gD rfl rfl rfl rfl rfl (zCL rfl (q103) (.int _ _) (.lrefl _) ?_))))
   refine d_gD rfl rfl rfl rfl rfl (zT rfl (zG rfl rfl rfl sh94 rfl (zA rfl)) (d_gD rfl rfl rfl rfl rfl (zD (zP rfl (q103b) (.lrefl _) (zA rfl)) ?_)))
   refine d_gD rfl rfl rfl rfl rfl (zD (zh rfl rfl rfl (zA rfl)) ?_)
   refine zD (zL rfl rfl rfl (zA rfl)) ?_
   refine wH ?_
   refine k_cT rfl (decide_eq_true (by omega)) (k_region (zC rfl (zAt rfl rfl sh94 rfl rfl (zA ?_))))
   exact⟨rfl,.inl ⟨rfl,rfl,[],by rw[List.append_nil];rfl⟩⟩
  ·have e1:zAZ (a::best) q=a::best:=by unfold zAZ;rw[if_neg (by rintro(h|h);cases h;exact hlt h)]
   rw[e1]
   generalize chg q=cq at*
   generalize chg (a::best)=cb at*
   refine zJ [(3,.box 1 0),(4,.lst .ro 1 (zE q))] (([.box [.int .i64 b.parts,.int .i64 b.size,.lst .ro 1 (zE b.beats),.int .i64 b.start,.int .i64 b.fin,.int .i64 b.tlo,.int .i64 b.thi,.int .i64 b.slo,.int .i64 b.shi,.int .i64 b.notice,.lst .ro 3 (plsU b.players)],.box [.lst .ro 1 (zE (a::best))]]++plC b 2++[.loop .busy lp73])++e) (.cons rfl (.cons rfl (.nil rfl))) rfl fun fr=>?_
   refine zN (k_seq (yO [.plain,.plain,.plain,.plain,.read false,.read true,.plain,.plain,.plain] (by kernel_rfl) (by kernel_rfl) (by kernel_rfl) ?_))
   refine zD (zG rfl rfl rfl sh94 rfl (zA rfl)) ?_
   refine zD (o_eqNilF rfl ty94 rfl (by simp) (fun _=>rfl) (zA rfl)) ?_
   refine zD (zC rfl (zA rfl)) (d_gD rfl rfl rfl rfl rfl (zD (zC rfl (zA rfl)) (d_gD rfl rfl rfl rfl rfl (zCL rfl (q103) (.int _ _) (.lrefl _) ?_))))
   refine d_gD rfl rfl rfl rfl rfl (zT rfl (zG rfl rfl rfl sh94 rfl (zA rfl)) (d_gD rfl rfl rfl rfl rfl (zD (zP rfl (q103b) (.lrefl _) (zA rfl)) ?_)))
   refine d_gD rfl rfl rfl rfl rfl (zD (zh rfl rfl rfl (zA rfl)) ?_)
   refine zD (zL rfl rfl rfl (zA rfl)) ?_
   refine wH ?_
   refine k_cF rfl (decide_eq_false (by omega)) (zR ?_)
   exact⟨rfl,.inl ⟨rfl,rfl,[],by rw[List.append_nil];rfl⟩⟩
set_option maxHeartbeats 8000000 in
theorem ret73(hi:Off is)(hb:BOk b):RetP Tryd.prog is orc 73 [b.u] (.lst .ro 1 (zE (wn (wb b)))):=by
 refine zp body73 pure73 (hi 73 (by decide)) rfl rfl (wS (yM b 4)) (.inl (zd 6 .ro (fun h=>by cases h) 1 _)) ?_
 refine kQ (zl rfl rfl (zB rfl (zA ?_)))
 refine zJ [(1,U.box 0 0)] ([SB.box [.int .i64 (Bk.parts b),.int .i64 (Bk.size b),.lst .ro 1 (zE (Bk.beats b)),.int .i64 (Bk.start b),.int .i64 (Bk.fin b),.int .i64 (Bk.tlo b),.int .i64 (Bk.thi b),.int .i64 (Bk.slo b),.int .i64 (Bk.shi b),.int .i64 (Bk.notice b),.lst .ro 3 (plsU (Bk.players b))]]) (.cons rfl (.nil rfl)) rfl fun fr=>?_
 refine kQ (zo rfl ze94 ?_)
 refine zA ?_
 refine zJ [(1,U.box 0 0),(3,U.box 1 0)] ([SB.box [.int .i64 (Bk.parts b),.int .i64 (Bk.size b),.lst .ro 1 (zE (Bk.beats b)),.int .i64 (Bk.start b),.int .i64 (Bk.fin b),.int .i64 (Bk.tlo b),.int .i64 (Bk.thi b),.int .i64 (Bk.slo b),.int .i64 (Bk.shi b),.int .i64 (Bk.notice b),.lst .ro 3 (plsU (Bk.players b))],SB.box [.lst .full 0 []]]) (.cons rfl (.cons rfl (.nil rfl))) rfl fun fr=>?_
 refine k_seq (kQ (zM rfl rfl rfl sh75 rfl ?_))
 refine zBG rfl (wpc76 b _) (.lrefl _) (fun u st1 hM=>?_)
 obtain⟨rfl,rfl⟩:=hM
 refine zA (zN (zFV [(3,.box 1 0),(6,.fn 121 [] [.box 4 0,.box 5 0])] (Z73 b []) (.cons rfl (.cons rfl (.nil rfl))) rfl ?_))
 refine k_rangeG (n:=6) (stop:=fun _=>false) (Z:=Z73 b) (DZ:=Z73 b []) (ex:=.ret) hi (genPlans hb 2) rfl (cns73 hb) (fun l=>rfl) rfl (fun c hc l=>plK_at (st:=[.box [.int .i64 b.parts,.int .i64 b.size,.lst .ro 1 (zE b.beats),.int .i64 b.start,.int .i64 b.fin,.int .i64 b.tlo,.int .i64 b.thi,.int .i64 b.slo,.int .i64 b.shi,.int .i64 b.notice,.lst .ro 3 (plsU b.players)],.box [bestU (wn l)]]) c hc []) (bd_Z73 b) (bd_Z73 b []) rfl rfl (fun _=>?_) (fun h=>by rw[List.any_eq_true]at h;obtain⟨_,_,h⟩:=h;cases h)
 have hbo:=best_ok (wb b)
 generalize hB:wn (wb b)=best at*
 refine zJ [(3,.box 1 0)] ([.box [.int .i64 b.parts,.int .i64 b.size,.lst .ro 1 (zE b.beats),.int .i64 b.start,.int .i64 b.fin,.int .i64 b.tlo,.int .i64 b.thi,.int .i64 b.slo,.int .i64 b.shi,.int .i64 b.notice,.lst .ro 3 (plsU b.players)],.box [bestU best]]++plC b 2) (.cons rfl (.nil rfl)) (by rw[←hB]) fun fr=>?_
 cases best with
 |nil=>
  refine kQ (zG rfl rfl rfl sh94 rfl (zG rfl rfl rfl sh94 rfl (yA rfl ty94 rfl rfl ?_)))
  refine zG rfl rfl rfl sh94 rfl (yA rfl ty94 rfl rfl ?_)
  refine o_slice0 rfl ty94 cl3 rfl (by simp) rfl rfl (Nat.le_refl _) ?_
  refine zB rfl (zA (zV ?_))
  refine⟨.inr rfl,_,.cons _ _ _ _ (.tmp 2) .nil,?_⟩
  exact .ro _ _ _
 |cons a best=>
  refine kQ (zG rfl rfl rfl sh94 rfl (zG rfl rfl rfl sh94 rfl (yA rfl ty94 rfl (List.length_map _) ?_)))
  refine zG rfl rfl rfl sh94 rfl (yA rfl ty94 rfl (List.length_map _) ?_)
  refine o_slice0 rfl ty94 cl3 rfl (by simp) rfl rfl (by simp) ?_
  refine zB rfl (zA (zV ?_))
  refine⟨.inr rfl,_,.cons _ _ _ _ (.tmp 2) .nil,?_⟩
  have huw:UW (.u (.lst .full 1 (List.take (a::best).length (zE (a::best))))) (.u (.lst .ro 1 (zE (a::best)))):=by
   rw[List.take_of_length_le (by simp[zE])];exact .ro _ _ _
  exact huw
theorem ret27(hi:Off is)(hb:BOk b):RetP Tryd.prog is orc 27 [b.u] (.tup [.lst .ro 1 (zE (wn (wb b))),.int .i64 (if wn (wb b)=[]then 4 else 0)]):=by
 refine zp body27 pure27 (hi 27 (by decide)) rfl rfl (wS (yM b 4)) (.inr ⟨_,rfl,yR (k:=7) (zd 5 .ro (fun h=>by cases h) 1 _) (.int _ _ _)⟩) ?_
 have q73:=ret73 (orc:=orc) hi hb
 generalize wn (wb b)=best at*
 refine kQ (zl rfl rfl (zB rfl (zB rfl (zA ?_))))
 refine zJ [(1,U.box 0 0)] ([SB.box [.int .i64 (Bk.parts b),.int .i64 (Bk.size b),.lst .ro 1 (zE (Bk.beats b)),.int .i64 (Bk.start b),.int .i64 (Bk.fin b),.int .i64 (Bk.tlo b),.int .i64 (Bk.thi b),.int .i64 (Bk.slo b),.int .i64 (Bk.shi b),.int .i64 (Bk.notice b),.lst .ro 3 (plsU (Bk.players b))]]) (.cons rfl (.nil rfl)) rfl fun fr=>?_
 refine kQ (zM rfl rfl rfl sh27 rfl ?_)
 refine zBG rfl (wpc60c hi hb (fun x hx=>by rcases List.mem_singleton.1 hx with rfl;exact bd_bk b _)) (.lrefl _) (fun u st1 hM=>?_)
 obtain⟨rfl,rfl⟩:=hM
 cases best with
 |nil=>
  rw[if_pos rfl]
  refine zC rfl (zb rfl rfl rfl (zb rfl rfl rfl (zo rfl ze75 ?_)))
  refine ze rfl rfl sh75 rfl rfl rfl rfl rfl ?_
  refine zB rfl (zA ?_)
  refine zJ [(4,U.box 1 0),(5,.int .i64 0)] ([SB.box [.int .i64 (Bk.parts b),.int .i64 (Bk.size b),.lst .ro 1 (zE (Bk.beats b)),.int .i64 (Bk.start b),.int .i64 (Bk.fin b),.int .i64 (Bk.tlo b),.int .i64 (Bk.thi b),.int .i64 (Bk.slo b),.int .i64 (Bk.shi b),.int .i64 (Bk.notice b),.lst .ro 3 (plsU (Bk.players b))],SB.box [.int .i64 (Bk.parts b),.int .i64 (Bk.size b),.lst .ro 1 (zE (Bk.beats b)),.int .i64 (Bk.start b),.int .i64 (Bk.fin b),.int .i64 (Bk.tlo b),.int .i64 (Bk.thi b),.int .i64 (Bk.slo b),.int .i64 (Bk.shi b),.int .i64 (Bk.notice b),.lst .ro 3 (plsU (Bk.players b))]]) (.cons rfl (.cons rfl (.nil rfl))) rfl fun fr=>?_
  refine k_seq (kQ (zC rfl (wB rfl rfl rfl (zA (k_cF rfl rfl ?_)))))
  refine zR (kQ (zM rfl rfl rfl sh75 rfl (zP rfl (q73) (.lrefl _) (zB rfl (zA (k_seq (kQ (zC rfl ?_))))))))
  refine yA rfl ty94 rfl (List.length_map _) ?_
  refine zAI rfl rfl rfl (zA (k_cT rfl rfl ?_))
  refine kQ (zB rfl (zB rfl (zA (zV ?_))))
  refine⟨.inr rfl,_,.cons _ _ _ _ (.tmp 2) (.cons _ _ _ _ (.tmp 3) .nil),?_⟩
  exact .tup _ _ (.lcons _ _ _ _ (.nil .full .ro 1) (.lrefl _))
 |cons a best=>
  rw[if_neg (by simp)]
  have k19b:decide (((a::best).length:Int)=0)=false:=decide_eq_false (by simp;omega)
  refine zC rfl (zb rfl rfl rfl (zb rfl rfl rfl (zo rfl ze75 ?_)))
  refine ze rfl rfl sh75 rfl rfl rfl rfl rfl ?_
  refine zB rfl (zA ?_)
  refine zJ [(4,U.box 1 0),(5,.int .i64 0)] ([SB.box [.int .i64 (Bk.parts b),.int .i64 (Bk.size b),.lst .ro 1 (zE (Bk.beats b)),.int .i64 (Bk.start b),.int .i64 (Bk.fin b),.int .i64 (Bk.tlo b),.int .i64 (Bk.thi b),.int .i64 (Bk.slo b),.int .i64 (Bk.shi b),.int .i64 (Bk.notice b),.lst .ro 3 (plsU (Bk.players b))],SB.box [.int .i64 (Bk.parts b),.int .i64 (Bk.size b),.lst .ro 1 (zE (Bk.beats b)),.int .i64 (Bk.start b),.int .i64 (Bk.fin b),.int .i64 (Bk.tlo b),.int .i64 (Bk.thi b),.int .i64 (Bk.slo b),.int .i64 (Bk.shi b),.int .i64 (Bk.notice b),.lst .ro 3 (plsU (Bk.players b))]]) (.cons rfl (.cons rfl (.nil rfl))) rfl fun fr=>?_
  refine k_seq (kQ (zC rfl (wB rfl rfl rfl (zA (k_cF rfl rfl ?_)))))
  refine zR (kQ (zM rfl rfl rfl sh75 rfl (zP rfl (q73) (.lrefl _) (zB rfl (zA (k_seq (kQ (zC rfl ?_))))))))
  refine yA rfl ty94 rfl (List.length_map _) ?_
  refine zAI rfl rfl rfl (zA (k_cF rfl (by assumption) (zR (kQ (zC rfl (zB rfl (zB rfl (zA ?_))))))))
  refine zV ?_
  refine⟨.inr rfl,_,.cons _ _ _ _ (.tmp 2) (.cons _ _ _ _ (.tmp 3) .nil),?_⟩
  exact .refl _
end Go.Proofs.YtfbmlibilcjlgaaDoor.drumPlans
