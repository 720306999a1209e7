import Derived.Test.YtlknfhjfkcboiaaDoorVamT5
set_option linter.unusedVariables false
set_option linter.unusedSimpArgs false
set_option linter.constructorNameAsVariable false
namespace Go.Proofs.YtlknfhjfkcboiaaDoor.night
open Vam
section
variable {is:FuncId→Bool}{orc:Known}
theorem sh119:shOf Tryd.prog 119=.one:=by kernel_rfl
theorem sh78:shOf Tryd.prog 78=.one:=by kernel_rfl
noncomputable def b112:Code:=(Tryd.f112.body).getD .skip
theorem body112:bodyOf Tryd.prog 112=some (16,b112,[]):=by kernel_rfl
theorem pure112:pureFn Tryd.prog 112=false:=by kernel_rfl
noncomputable def b102:Code:=(Tryd.f102.body).getD .skip
theorem body102:bodyOf Tryd.prog 102=some (6,b102,[.tmp 4]):=by kernel_rfl
theorem pure102:pureFn Tryd.prog 102=false:=by kernel_rfl
theorem Bd.mono{n m:Nat}{u:U}(h:Bd n u)(hm:n≤m):Bd m u:=fun φ S v hv=>(h φ S v hv).mono (fun a b e=>BMap.cut_of (by have:=(BMap.cut_some e).1;omega) (BMap.cut_some e).2) S.le_refl
theorem BdS.mono{n m:Nat}{x:SB}(h:BdS n x)(hm:n≤m):BdS m x:=by
 cases x with
 |box cs=>exact fun c hc=>Bd.mono (h c hc) hm
 |froz cs=>exact fun c hc=>Bd.mono (h c hc) hm
 |map es=>exact fun p hp=>⟨Bd.mono (h p hp).1 hm,Bd.mono (h p hp).2 hm⟩
 |loop q l=>exact fun i=>Bd.mono (h i) hm
 |dead=>trivial
structure Cns(N A:Nat)(lp:Lp)(stop:List Int→Bool)(X:List (List Int)→List SB)(D:List SB)(elt:List Int→Prop):Prop where
 len:∀l,(X l).length=N
 lenD:D.length=N
 bd:∀l,∀x∈X l,BdS N x
 bdD:∀x∈D,BdS N x
 bl:∀l,(X l)[A]? =some (.loop .ready lp)
 own:∀i,NoOwn (lp.fr i)
 ps:∃p,lp.ps=[p]∧Nat.blt p 1024=true
 run:∀(is:FuncId→Bool) (orc:Known),Off is→∀l q e,elt q→WpY Tryd.prog is orc A lp [.lst .ro 1 (zF q)] (X l++e) fun u st'=>
  (stop q=false∧u=.bool true∧∃e',st'=X (l++[q])++(e++e'))∨(stop q=true∧u=.bool false∧∃e',st'=D++(e++e'))
theorem zEl{P Q:List SB}{n i:Nat}{x:SB}(h:P.length=n)(hx:Q[i]? =some x):(P++Q)[n+i]? =some x:=by
 rw[List.getElem?_append_right (by omega),h,Nat.add_sub_cancel_left];exact hx
theorem zGm{st X:List SB}{k:Nat}{x:SB}(h:X[k]? =some x):(st++X)[st.length+k]? =some x:=by
 rw[List.getElem?_append_right (by omega),Nat.add_sub_cancel_left];exact h
theorem set_off{st X:List SB}{k:Nat}{x:SB}:(st++X).set (st.length+k) x=st++X.set k x:=by
 rw[List.set_append_right _ _ (by omega),Nat.add_sub_cancel_left]
variable {N A:Nat}{lp:Lp}{stop:List Int→Bool}{X:List (List Int)→List SB}{D:List SB}
def Gen(g:Nat)(B:List U)(caps:List (Nat×SB))(els:List (List Int))(elt:List Int→Prop):Prop:=
 ∀(is:FuncId→Bool) (orc:Known),Off is→∀{N A:Nat} {lp:Lp} {stop:List Int→Bool} {X:List (List Int)→List SB} {D:List SB},Cns N A lp stop X D elt→(∀c∈caps,∀l,(X l)[c.1]? =some c.2)→
  WpC Tryd.prog is orc g (.yld A::B) (X []) fun _ st'=>(els.any stop=false∧st'=X els)∨(els.any stop=true∧st'=D)
theorem Cns.lt{elt:List Int→Prop}(hc:Cns N A lp stop X D elt):A<N:=by
 have h1:=(List.getElem?_eq_some_iff.1 (hc.bl [])).1
 rw[hc.len]at h1;exact h1
theorem wO{P Q:List SB}{n:Nat}(h:P.length=n):(P++Q).take n=P:=by rw[←h,List.take_left]
noncomputable def rg112:Code×Code:=match b112 with
 | .seq _ (.seq _ (.block _ (.rangeFunc _ _ a b)))=>(a,b)
 |_=>(.skip,.skip)
theorem wpc102(f g:Nat)(F1 F2 G1 G2:List U)(st:List SB):WpC Tryd.prog is orc 102 [.fn f F1 F2,.fn g G1 G2] st fun u st'=>u=.fn 112 [] [.box st.length 0,.box (st.length+1) 0]∧st'=st++[.box [.fn f F1 F2],.box [.fn g G1 G2]]:=by
 refine zDH body102 pure102 rfl rfl ?_
 refine kQ (yH rfl rfl (yH rfl rfl (zA rfl (zC ?_))))
 refine zK [(2,U.box (List.length st) 0),(3,U.box (List.length (st++[SB.box [U.fn f F1 F2]])) 0)] (st++[SB.box [U.fn f F1 F2]]++[SB.box [U.fn g G1 G2]]) (.cons rfl (.cons rfl (.nil rfl))) rfl fun fr=>?_
 refine kQ ?_
 refine zFd rfl ?_
 refine zA rfl (zC (zZ ?_))
 refine⟨.inr rfl,_,.cons _ _ _ _ (.tmp 4) .nil,?_⟩
 exact⟨_,.refl _,(by show U.fn 112 [] [.box st.length 0,.box (st++[SB.box _]).length 0]=_;simp),(by show(st++[SB.box _])++[SB.box _]=_;rw[List.append_assoc];rfl)⟩
noncomputable def lp112(pi si N g:Nat)(B:List U):Lp:=⟨fun i=>dg (zBr [(2,.box si 0),(3,.box N 0),(5,.fn g [] B)] i .junk),[6],rg112.1,rg112.2⟩
noncomputable abbrev zAt(A:Nat)(pi si N g:Nat)(B:List U)(q:Lq):List SB:=[.box [.yld A],.loop q (lp112 pi si N g B)]
section those
variable {pi si g h:Nat}{B C:List U}{sel:List Int→Bool}{els:List (List Int)}{elt:List Int→Prop}
set_option maxHeartbeats 16000000 in
theorem yield112(hi:Off is)(hc:Cns N A lp stop X D elt)(hsi:∀l,(X l)[si]? =some (.box [.fn h C []]))(hsel:∀(is:FuncId→Bool) (orc:Known),Off is→∀L,elt L→RetP Tryd.prog is orc h (C++[.lst .ro 1 (zF L)]) (.bool (sel L)))
  (l:List (List Int)) (q:List Int) (e:List SB) (hq:elt q):
  WpY Tryd.prog is orc (N+1) (lp112 pi si N g B) [.lst .ro 1 (zF q)] ((X (l.filter sel)++zAt A pi si N g B .ready)++e) fun u st'=>
   ((sel q&&stop q)=false∧u=.bool true∧∃e',st'=(X ((l++[q]).filter sel)++zAt A pi si N g B .ready)++(e++e'))∨
   ((sel q&&stop q)=true∧u=.bool false∧∃e',st'=(D++zAt A pi si N g B (.done .ret))++(e++e')):=by
 show Wp _ _ _ rg112.1 _ _
 rw[List.filter_append]
 generalize l.filter sel=F
 have hX:=hc.len F
 have hD:=hc.lenD
 have hlt:=hc.lt
 have set1:∀(P:List SB) (x:Lq),P.length=N→∀y E,((P++zAt A pi si N g B y)++E).set (N+1) (.loop x (lp112 pi si N g B))=(P++zAt A pi si N g B x)++E:=fun P x hP y E=>by
  rw[List.set_append_left _ _ (by simp[hP]),List.set_append_right _ _ (by omega),hP,Nat.add_sub_cancel_left];rfl
 have hE:∀(P:List SB) (y:Lq) (e':List SB),P++((zAt A pi si N g B y++e)++e')=(P++zAt A pi si N g B y)++(e++e'):=fun P y e'=>by simp only[List.append_assoc]
 have qsel:=hsel is orc hi q hq
 refine k_region (zA rfl (zC ?_))
 refine⟨rfl,?_,?_⟩
 ·show((X F++zAt A pi si N g B .ready)++e)[N+1]? =_
  exact yP (zEl hX rfl)
 refine zK [(2,.box si 0),(3,.box N 0),(4,.lst .ro 1 (zF q))] ((X F++zAt A pi si N g B .busy)++e) (.cons rfl (.cons rfl (.cons rfl (.nil rfl)))) (by
  show((X F++zAt A pi si N g B .ready)++e).set (N+1) (.loop .busy (lp112 pi si N g B))=_
  exact set1 _ _ hX _ _) fun fr=>?_
 have z2:((X F++zAt A pi si N g B .busy)++e)[si]? =some (.box [.fn h C []]):=yP (yP (hsi F))
 have z3:((X F++zAt A pi si N g B .busy)++e)[N]? =some (.box [.yld A]):=yP (zEl (i:=0) hX rfl)
 show Wp _ _ _ rg112.2 _ _
 generalize hz:sel q=z at*
 cases z with
 |false=>
  have hf:[q].filter sel=[]:=by simp[hz]
  refine zQ (kQ (zE rfl rfl z2 sh78 rfl ?_))
  refine zB rfl (zCu rfl rfl qsel (.lrefl _) ?_)
  refine zB rfl (o_gS rfl rfl rfl rfl rfl (o_gS rfl rfl rfl rfl rfl (o_gS rfl rfl rfl rfl rfl (o_gS rfl rfl rfl rfl rfl (zL rfl rfl rfl ?_)))))
  refine zC (k_cF rfl rfl ?_)
  refine zU ?_
  refine⟨yP (zEl hX rfl),.inl ⟨rfl,rfl,[],?_⟩⟩
  show((X F++zAt A pi si N g B .busy)++e).set (N+1) (.loop .ready (lp112 pi si N g B))=_
  rw[set1 _ _ hX,hf,List.append_nil,List.append_nil]
 |true=>
  have hf:[q].filter sel=[q]:=by simp[hz]
  have hX2:=hc.len (F++[q])
  have hr:=hc.run is orc hi F q (zAt A pi si N g B .busy++e) hq
  rw[←List.append_assoc]at hr
  obtain⟨pp,hp1,hp2⟩:=hc.ps
  refine zQ (kQ (zE rfl rfl z2 sh78 rfl ?_))
  refine zB rfl (zCu rfl rfl qsel (.lrefl _) ?_)
  refine zB rfl (o_gD rfl rfl rfl rfl rfl (zE rfl rfl z3 sh78 rfl ?_))
  refine o_gD rfl rfl rfl rfl rfl (zB rfl (o_gD rfl rfl rfl rfl rfl ?_))
  refine o_yield (a:=A) rfl rfl (yP (yP (hc.bl F))) hc.own (by rw[hp1];simp[hp2]) (by rw[hp1];rfl) (.lrefl _) hr (fun u st1 hM=>?_)
  rcases hM with ⟨hs,rfl,e',rfl⟩|⟨hs,rfl,e',rfl⟩
  ·refine o_gD rfl rfl rfl rfl rfl ?_
   refine yB rfl rfl (zT rfl rfl rfl ?_)
   refine zC (k_cF rfl rfl ?_)
   refine zU ?_
   refine⟨?_,.inl ⟨by rw[hs];rfl,rfl,e',?_⟩⟩
   ·show(X (F++[q])++((zAt A pi si N g B .busy++e)++e'))[N+1]? =_
    rw[hE];exact yP (zEl hX2 rfl)
   ·show(X (F++[q])++((zAt A pi si N g B .busy++e)++e')).set (N+1) _=_
    rw[hE,set1 _ _ hX2,hf]
  ·refine o_gD rfl rfl rfl rfl rfl ?_
   refine yB rfl rfl (zT rfl rfl rfl ?_)
   refine zC (k_cT rfl rfl ?_)
   refine zZ ?_
   refine⟨?_,.inr ⟨by rw[hs];rfl,rfl,e',?_⟩⟩
   ·show(D++((zAt A pi si N g B .busy++e)++e'))[N+1]? =_
    rw[hE];exact yP (zEl hD rfl)
   ·show(D++((zAt A pi si N g B .busy++e)++e')).set (N+1) _=_
    rw[hE,set1 _ _ hD];rfl
theorem any_sel(l:List (List Int))(p:List Int→Bool):l.any (fun q=>sel q&&p q)=(l.filter sel).any p:=by rw[List.any_filter]
theorem lookU_all{p:U→Prop}{l:List (Nat×U)}{d:U}(h:∀x∈l,p x.2)(hd:p d)(i:Nat):p (zBr l i d):=by
 induction l with
 |nil=>exact hd
 |cons x l ih=>
  obtain⟨j,u⟩:=x
  show p (Vam.cond (Nat.beq i j) u (zBr l i d))
  cases Nat.beq i j with
  |true=>exact h _ List.mem_cons_self
  |false=>exact ih fun y hy=>h y (List.mem_cons_of_mem _ hy)
theorem lp112_bd(hs:si<N)(hB:∀u∈B,Bd N u)(i:Nat):Bd (N+1) ((lp112 pi si N g B).fr i):=by
 refine lookU_all (p:=fun u=>Bd (N+1) (dg u)) ?_ (Bd.junk _) i
 intro x hx
 simp only[List.mem_cons,List.not_mem_nil,or_false]at hx
 rcases hx with rfl|rfl|rfl
 ·exact Bd.box (by omega)
 ·exact Bd.box (by omega)
 ·exact Bd.fn (fun u hu=>by cases hu) fun u hu=>Bd.mono (hB u hu) (by omega)
set_option maxHeartbeats 16000000 in
theorem gen112{caps:List (Nat×SB)}(hg:Gen g B caps els elt)(hB:∀(N:Nat),(∀c∈caps,c.1<N)→∀u∈B,Bd N u)
  (hsel:∀(is:FuncId→Bool) (orc:Known),Off is→∀L,elt L→RetP Tryd.prog is orc h (C++[.lst .ro 1 (zF L)]) (.bool (sel L))):
  Gen 112 [.box pi 0,.box si 0] ((pi,.box [.fn g [] B])::(si,.box [.fn h C []])::caps) (els.filter sel) elt:=by
 intro is orc hi N A lp stop X D hc hcap
 have hX:=hc.len []
 have hD:=hc.lenD
 have hlt:=hc.lt
 have hpi:=hcap _ List.mem_cons_self
 have hsi:=hcap _ (List.mem_cons_of_mem _ List.mem_cons_self)
 have hca:∀c∈caps,∀l,(X l)[c.1]? =some c.2:=fun c hc=>hcap c (List.mem_cons_of_mem _ (List.mem_cons_of_mem _ hc))
 have lt_of:∀{i x},(X [])[i]? =some x→i<N:=fun h1=>by have:=(List.getElem?_eq_some_iff.1 h1).1;omega
 have hBN:=hB N fun c hc=>lt_of (hca c hc [])
 have hlp:=lp112_bd (N:=N) (pi:=pi) (g:=g) (lt_of (hsi [])) hBN
 have bd2:∀(P:List SB) (q:Lq),(∀x∈P,BdS N x)→∀x∈P++zAt A pi si N g B q,BdS (N+2) x:=fun P q hP x hx=>by
  rcases List.mem_append.1 hx with hx|hx
  ·exact BdS.mono (hP x hx) (by omega)
  ·simp only[List.mem_cons,List.not_mem_nil,or_false]at hx
   rcases hx with rfl|rfl
   ·intro c hc;rcases List.mem_singleton.1 hc with rfl;exact Bd.yld (by omega)
   ·exact fun i=>Bd.mono (hlp i) (by omega)
 have hc2:Cns (N+2) (N+1) (lp112 pi si N g B) (fun q=>sel q&&stop q) (fun l=>X (l.filter sel)++zAt A pi si N g B .ready) (D++zAt A pi si N g B (.done .ret)) elt:=by
  refine⟨fun l=>by simp[hc.len],by simp[hD],fun l=>bd2 _ _ (hc.bd _),bd2 _ _ hc.bdD,fun l=>zEl (hc.len _) rfl,fun i=>zDB _,⟨6,rfl,rfl⟩,fun is orc hi l q e hq=>?_⟩
  exact yield112 hi hc hsi hsel l q e hq
 have hw:=hg is orc hi hc2 (fun c hc l=>yP (hca c hc _))
 rw[any_sel]at hw
 refine wpc_cut body112 pure112 rfl rfl ?_
 have y1:=hpi []
 refine kQ (yH rfl rfl (zC ?_))
 refine zK [(1,U.box pi 0),(2,U.box si 0),(3,U.box (List.length (X [])) 0)] (X []++[SB.box [U.yld A]]) (.cons rfl (.cons rfl (.cons rfl (.nil rfl)))) rfl fun fr=>?_
 refine kQ (zE rfl rfl (yP y1) sh119 rfl ?_)
 refine zC (zQ ?_)
 refine k_forget [(2,.box si 0),(3,.box N 0),(5,.fn g [] B)] (X []++[.box [.yld A]]) (.cons rfl (.cons (by show U.box (X []).length 0=_;rw[hX]) (.cons rfl (.nil rfl)))) rfl ?_
 have hl1:(X []++[SB.box [.yld A]]).length=N+1:=by simp[hX]
 refine k_range (g:=g) rfl ?_
 show WpC Tryd.prog is orc g (.yld (X []++[SB.box [.yld A]]).length::B) ((X []++[SB.box [.yld A]])++[.loop .ready (lp112 pi si N g B)]) _
 rw[hl1,List.append_assoc]
 refine hw.mono fun _ st' hst=>?_
 have tk:∀(P:List SB) (q:Lq),P.length=N→(P++zAt A pi si N g B q).take (N+1)=P++[.box [.yld A]]:=fun P q hP=>by
  rw[show P++zAt A pi si N g B q=(P++[SB.box [.yld A]])++[SB.loop q (lp112 pi si N g B)] by rw[List.append_assoc];rfl,wO (by simp[hP])]
 have bd1:∀(P:List SB),(∀x∈P,BdS N x)→∀x∈P++[SB.box [.yld A]],BdS (N+1) x:=fun P hP x hx=>by
  rcases List.mem_append.1 hx with hx|hx
  ·exact BdS.mono (hP x hx) (by omega)
  ·rcases List.mem_singleton.1 hx with rfl
   intro c hc;rcases List.mem_singleton.1 hc with rfl;exact Bd.yld (by omega)
 rcases hst with ⟨h1,h2⟩|⟨h1,h2⟩
 ·refine⟨.ready,by rw[h2];exact zEl (hc.len _) rfl,?_,?_⟩
  ·rw[h2,tk _ _ (hc.len _)];exact bd1 _ (hc.bd _)
  ·rw[h2,tk _ _ (hc.len _)]
   refine⟨.inl rfl,_,.nil,_,.refl _,Bd.tup (fun c hc=>by cases hc),?_,?_,.inl ⟨h1,?_⟩⟩
   ·show(X []).length≤(X _++_).length
    rw[List.length_append,hX,hc.len];omega
   ·show ∀x∈(X _++_).take (X []).length,BdS (X []).length x
    rw[hX,wO (hc.len _)];exact hc.bd _
   ·show(X _++_).take (X []).length=_
    rw[hX,wO (hc.len _)]
 ·refine⟨.done .ret,by rw[h2];exact zEl hD rfl,?_,?_⟩
  ·rw[h2,tk _ _ hD];exact bd1 _ hc.bdD
  ·rw[h2,tk _ _ hD]
   refine⟨.inr rfl,_,.nil,_,.refl _,Bd.tup (fun c hc=>by cases hc),?_,?_,.inr ⟨h1,?_⟩⟩
   ·show(X []).length≤(D++_).length
    rw[List.length_append,hX,hD];omega
   ·show ∀x∈(D++_).take (X []).length,BdS (X []).length x
    rw[hX,wO hD];exact hc.bdD
   ·show(D++_).take (X []).length=_
    rw[hX,wO hD]
end those
theorem k_rangeG{g n:Nat}{B:List U}{caps:List (Nat×SB)}{els:List (List Int)}{elt:List Int→Prop}{lp:Lp}{stop:List Int→Bool}{Z:List (List Int)→List SB}{DZ:List SB}{ex:Ex}{s:St}{x:Operand}{ps:Array Tmp}{assign body:Code}{Q:Ex→St→Prop}(hi:Off is)
  (hg:Gen g B caps els elt) (hx:zX s x=.fn g [] B) (hc:Cns (n+1) n lp stop (fun l=>Z l++[.loop .ready lp]) (DZ++[.loop (.done ex) lp]) elt) (hn:∀l,(Z l).length=n) (hnD:DZ.length=n) (hcap:∀c∈caps,∀l,(Z l)[c.1]? =some c.2)
  (hbd:∀l,∀x∈Z l,BdS n x) (hbdD:∀x∈DZ,BdS n x) (hlp:lpOf s ps.toList assign body=lp) (hst:s.st=Z []) (k1:els.any stop=false→endQ Q .ready ⟨s.fr,[],Z els⟩) (k2:els.any stop=true→endQ Q (.done ex) ⟨s.fr,[],DZ⟩):Wp Tryd.prog is orc (.rangeFunc x ps assign body) s Q:=by
 refine k_range hx ?_
 have hl:s.st.length=n:=by rw[hst,hn]
 show WpC Tryd.prog is orc g ([]++([.yld s.st.length]++B)) _ _
 rw[hlp,hl,hst]
 refine(hg is orc hi hc (fun c h l=>yP (hcap c h l))).mono fun _ st' hs=>?_
 rcases hs with ⟨h1,h2⟩|⟨h1,h2⟩
 ·subst h2
  exact⟨.ready,by rw[←hn els];exact zc _ _,by rw[wO (hn els)];exact hbd _,by rw[wO (hn els)];exact k1 h1⟩
 ·subst h2
  exact⟨.done ex,by rw[←hnD];exact zc _ _,by rw[wO hnD];exact hbdD,by rw[wO hnD];exact k2 h1⟩
end
section
variable {is:FuncId→Bool}{orc:Known}
theorem ty4:tyOf Tryd.prog 4=.bool:=by kernel_rfl
noncomputable def b114:Code:=(Tryd.f114.body).getD .skip
theorem body114:bodyOf Tryd.prog 114=some (33,b114,[.tmp 6]):=by kernel_rfl
theorem pure114:pureFn Tryd.prog 114=true:=by kernel_rfl
theorem ap83_83:AppT Tryd.prog 83 83 3 1 8 ((.cons (.int .i64 0) .nil):V):=⟨ty83,⟨_,ty83⟩,cl3,by decide,by3,ze3,rfl⟩
noncomputable def b113:Code:=(Tryd.f113.body).getD .skip
theorem body113:bodyOf Tryd.prog 113=some (45,b113,[]):=by kernel_rfl
theorem pure113:pureFn Tryd.prog 113=false:=by kernel_rfl
noncomputable def b103:Code:=(Tryd.f103.body).getD .skip
theorem body103:bodyOf Tryd.prog 103=some (4,b103,[.tmp 2]):=by kernel_rfl
theorem pure103:pureFn Tryd.prog 103=false:=by kernel_rfl
def canB(b:Bk)(d:List Int)(lv:Bool)(i:Nat):Bool:=if i<d.length then decide (lv=decide ((d[i]?).getD 0= -1))else(!lv|| !zEs b i)
set_option maxHeartbeats 4000000 in
theorem ret114(hi:Off is){b:Bk}(h:BOk b){d:List Int}(hd:DOk b d)(lv:Bool){i:Nat}(hin:i<b.scenes.length):RetP Tryd.prog is orc 114 [crU b d,.bool lv,.int .i64 i] (.bool (canB b d lv i)):=by
 refine yC body114 pure114 (hi 114 (by decide)) rfl rfl (zEi (zBC b d 4) (.bool _ _) (.int _ _ _)) (.inl (.bool _ _)) ?_
 have hn:=h.sn
 have hdl:=hd.len
 unfold canB
 by_cases h1:i<d.length
 ·rw[if_pos h1]
  obtain⟨y,hy⟩:∃y,d[i]? =some y:=⟨d[i],List.getElem?_eq_getElem h1⟩
  rw[hy]
  show Wp _ _ _ _ _ _
  refine kQ (yH rfl rfl (zA rfl (zC ?_)))
  refine zK [(1,U.bool lv),(2,.int .i64 ↑i),(3,U.box 0 0)] ([SB.box (Bk.cd b d)]) (.cons rfl (.cons rfl (.cons rfl (.nil rfl)))) rfl fun fr=>?_
  refine k_seq (kQ (zB rfl (zD rfl rfl zBA (zE rfl rfl rfl sh22 rfl (zp rfl ty22 rfl (List.length_map _) ?_)))))
  refine ze rfl rfl rfl (zC (k_cT rfl (decide_eq_true (by omega)) (kQ (zB rfl (zD rfl rfl zBA (zE rfl rfl rfl sh22 rfl (zB rfl (yG (u:=.int .i64 (y)) rfl ty22 rfl rfl (Int.natCast_nonneg _) (by simp[hy]) cl3 ?_))))))))
  refine zV rfl rfl sh3 rfl ?_
  refine wn rfl rfl rfl (o_eqlB rfl ty4 rfl rfl ?_)
  refine zA rfl (zC (zZ ?_))
  refine⟨.inr rfl,_,.cons _ _ _ _ (.tmp 6) .nil,?_⟩
  exact .refl _
 ·rw[if_neg h1]
  obtain⟨q,hq⟩:∃q,b.scenes[i]? =some q:=⟨b.scenes[i],List.getElem?_eq_getElem hin⟩
  have hm:zEs b i=q.must:=by unfold zEs;rw[hq];rfl
  rw[hm]
  cases lv with
  |true=>
   refine kQ (yH rfl rfl (zA rfl (zC ?_)))
   refine zK [(1,.bool true),(2,.int .i64 ↑i),(3,U.box 0 0)] ([SB.box (Bk.cd b d)]) (.cons rfl (.cons rfl (.cons rfl (.nil rfl)))) rfl fun fr=>?_
   refine k_seq (kQ (zB rfl (zD rfl rfl zBA (zE rfl rfl rfl sh22 rfl (zp rfl ty22 rfl (List.length_map _) ?_)))))
   refine ze rfl rfl rfl (zC (k_cF rfl (decide_eq_false (by omega)) (zU (kQ (zB rfl (yB rfl rfl (zB rfl (o_gD rfl rfl rfl rfl rfl ?_))))))))
   refine zD rfl rfl zAN (o_gD rfl rfl rfl rfl rfl (zD rfl rfl wD (o_gD rfl rfl rfl rfl rfl (zD rfl rfl yd (o_gD rfl rfl rfl rfl rfl (zE rfl rfl rfl sh23 rfl (o_gD rfl rfl rfl rfl rfl (zB rfl ?_))))))))
   refine o_gD rfl rfl rfl rfl rfl (yG (u:=(q).u) rfl ty23 rfl rfl (Int.natCast_nonneg _) (by simp[hq]) cl50 ?_)
   refine zM [(22,U.bool !Bool.true),(28,U.eref [.int .i64 (Sc.part q),.int .i64 (Sc.wt q),.int .i64 (Sc.lo q),.int .i64 (Sc.hi q),U.bool (Sc.must q)] 0)] [] ([SB.box (Bk.cd b d)]) (.cons rfl (.cons rfl (.nil rfl))) rfl rfl fun fr=>?_
   refine o_gD rfl rfl rfl rfl rfl ?_
   refine zM [(22,U.bool !Bool.true),(28,U.eref [.int .i64 (Sc.part q),.int .i64 (Sc.wt q),.int .i64 (Sc.lo q),.int .i64 (Sc.hi q),U.bool (Sc.must q)] 0)] [] ([SB.box (Bk.cd b d)]) (.cons rfl (.cons rfl (.nil rfl))) rfl rfl fun fr=>?_
   refine zAl rfl rfl zFu ?_
   refine o_gD rfl rfl rfl rfl rfl (zV rfl rfl sh4 rfl ?_)
   refine o_gD rfl rfl rfl rfl rfl (yB rfl rfl (zL rfl rfl rfl ?_))
   refine zA rfl (zC (zZ ?_))
   refine⟨.inr rfl,_,.cons _ _ _ _ (.tmp 6) .nil,?_⟩
   exact .refl _
  |false=>
   refine kQ (yH rfl rfl (zA rfl (zC ?_)))
   refine zK [(1,.bool false),(2,.int .i64 ↑i),(3,U.box 0 0)] ([SB.box (Bk.cd b d)]) (.cons rfl (.cons rfl (.cons rfl (.nil rfl)))) rfl fun fr=>?_
   refine k_seq (kQ (zB rfl (zD rfl rfl zBA (zE rfl rfl rfl sh22 rfl (zp rfl ty22 rfl (List.length_map _) ?_)))))
   refine ze rfl rfl rfl (zC (k_cF rfl (decide_eq_false (by omega)) (zU (kQ (zB rfl (yB rfl rfl (zB rfl (o_gS rfl rfl rfl rfl rfl ?_))))))))
   refine o_gS rfl rfl rfl rfl rfl (o_gS rfl rfl rfl rfl rfl (o_gS rfl rfl rfl rfl rfl (o_gS rfl rfl rfl rfl rfl (o_gS rfl rfl rfl rfl rfl ?_))))
   refine zM [(22,U.bool !Bool.false),(28,U.tup [])] [] ([SB.box (Bk.cd b d)]) (.cons rfl (.cons rfl (.nil rfl))) rfl rfl fun fr=>?_
   refine o_gS rfl rfl rfl rfl rfl (o_gS rfl rfl rfl rfl rfl (o_gS rfl rfl rfl rfl rfl (zT rfl rfl rfl ?_)))
   refine zA rfl (zC (zZ ?_))
   refine⟨.inr rfl,_,.cons _ _ _ _ (.tmp 6) .nil,?_⟩
   exact .refl _
def okN(b:Bk)(d:List Int)(P:Nat→Bool):Nat→Bool
 |0=>true
 |i+1=>okN b d P i&&canB b d (P i) i
theorem zEF{b:Bk}{d:List Int}{P:Nat→Bool}:∀n,okN b d P n=true↔ ∀i,i<n→canB b d (P i) i=true:=by
 intro n
 induction n with
 |zero=>exact⟨(fun _ i h=>by omega),(fun _=>rfl)⟩
 |succ n ih=>
  unfold okN
  rw[Bool.and_eq_true,ih]
  constructor
  ·rintro⟨h1,h2⟩ i hi
   by_cases e:i=n
   ·rw[e];exact h2
   ·exact h1 i (by omega)
  ·intro h;exact⟨fun i hi=>h i (by omega),h n (by omega)⟩
theorem okN_not{b:Bk}{d:List Int}{P:Nat→Bool}{i n:Nat}(h:canB b d (P i) i=false)(hi:i<n):okN b d P n=false:=by
 cases hk:okN b d P n with
 |false=>rfl
 |true=>rw[(zEF n).1 hk i hi]at h;cases h
def bt(s:Nat):Nat→Bool:=fun i=>s.testBit i
theorem bt_eq(j i:Nat):decide ((j:Int).fdiv (2 ^ i) % 2=1)=bt j i:=by
 unfold bt
 rw[Nat.testBit_eq_decide_div_mod_eq,Int.fdiv_eq_ediv_of_nonneg _ (Int.le_of_lt (Int.pow_pos (by decide)))]
 refine decide_eq_decide.2 ?_
 have e:(j:Int) / 2 ^ i=((j / 2 ^ i:Nat):Int):=by rw[Int.natCast_ediv,Int.natCast_pow];rfl
 rw[e]
 omega
def ptC(b:Bk)(d:List Int)(j:Nat):List (List Int):=((List.range j).filter fun s=>okN b d (bt s) b.scenes.length).map fun s=>memP (bt s) b.scenes.length
def chs(b:Bk)(d:List Int):List (List Int):=ptC b d (2 ^ b.scenes.length)
theorem ptC_succ(b:Bk)(d:List Int)(j:Nat):ptC b d (j+1)=ptC b d j++if okN b d (bt j) b.scenes.length=true then [memP (bt j) b.scenes.length]else []:=by
 unfold ptC
 rw[List.range_succ,List.filter_append,List.map_append]
 congr 1
 cases h:okN b d (bt j) b.scenes.length<;>simp[h]
theorem ptC_mono{b:Bk}{d:List Int}{s:List Int→Bool}{i j:Nat}(hij:i≤j)(h:(ptC b d i).any s=true):(ptC b d j).any s=true:=by
 obtain⟨k,rfl⟩:=Nat.exists_eq_add_of_le hij
 induction k with
 |zero=>exact h
 |succ k ih=>
  rw[←Nat.add_assoc,ptC_succ,List.any_append,ih (by omega),Bool.true_or]
def EOk(b:Bk)(q:List Int):Prop:=(∀x∈q,0≤x∧x<b.scenes.length)∧q.length≤b.scenes.length
theorem memP_eok(b:Bk)(P:Nat→Bool):EOk b (memP P b.scenes.length):=⟨fun x hx=>memP_rg hx,memP_len _ _⟩
theorem uw_acc2(l:List Int):UW (.u (accI l)) (.u (.lst .ro 1 (zF l))):=by
 cases l with
 |nil=>exact .nil _ _ _
 |cons y l=>exact .ro _ _ _
theorem fdiv_b{n:Int}(k:Nat)(h:0≤n∧n≤1000000):0≤n.fdiv (2 ^ k)∧n.fdiv (2 ^ k)≤9223372036854775807:=by
 have hp:(0:Int)<2 ^ k:=Int.pow_pos (by decide)
 rw[Int.fdiv_eq_ediv_of_nonneg _ (Int.le_of_lt hp)]
 exact⟨Int.ediv_nonneg h.1 (Int.le_of_lt hp),Int.le_trans (Int.ediv_le_self _ h.1) (by omega)⟩
variable {N A:Nat}{lp:Lp}{stop:List Int→Bool}{X:List (List Int)→List SB}{D:List SB}
set_option maxHeartbeats 16000000 in
theorem gen113{b:Bk}(h:BOk b){d:List Int}(hd:DOk b d)(ci:Nat):Gen 113 [.box ci 0] [(ci,.box (Bk.cd b d))] (chs b d) (EOk b):=by
 intro is orc hi N A lp stop X D hc hcap
 have hX:=hc.len []
 have h0:∀l,(X l)[ci]? =some (.box (Bk.cd b d)):=hcap _ List.mem_cons_self
 have y0:(X [])[ci]? =some (.box (Bk.cd b d)):=h0 []
 have hn:=h.sn
 obtain⟨T,hT⟩:∃T,T=2 ^ b.scenes.length:=⟨_,rfl⟩
 have hTb:T≤1024:=by rw[hT];exact Nat.le_trans (Nat.pow_le_pow_right (by decide) hn.2) (by decide)
 have hN:(2:Int) ^ b.scenes.length=(T:Int):=by rw[hT,Int.natCast_pow];rfl
 unfold chs
 rw[←hT]
 refine wpc_cut body113 pure113 rfl rfl ?_
 refine k_scope (k_seq (k_label ?_))
 refine kQ (zD rfl rfl zAN (zD rfl rfl wD (zD rfl rfl yd (zE rfl rfl y0 sh23 rfl ?_))))
 refine zp rfl ty23 rfl (List.length_map _) ?_
 (refine o_shlOne rfl rfl rfl (by omega) ?_;rw[hN])
 refine zB rfl (zC (zQ ?_))
 refine yr (fun kk s2=>∃(j:Nat) (e1:List SB),kk+j=T∧(ptC b d j).any stop=false∧s2.st=X (ptC b d j)++e1∧Holds s2 [(0,.yld A),(1,.box ci 0),(12,.int .i64 T),(13,.int .i64 j)]) (fun kk s2 hI=>?_) T _ ⟨0,[],rfl,rfl,(by show X []=X []++[];rw[List.append_nil]),.c4 rfl rfl rfl rfl (.nil rfl)⟩
 obtain⟨j,e1,hkj,hno,hst2,hs2⟩:=hI
 have hX2:=hc.len (ptC b d j)
 have z1:(X (ptC b d j)++e1)[ci]? =some (.box (Bk.cd b d)):=yP (h0 _)
 have hbl:=hc.bl (ptC b d j)
 have hsu:=ptC_succ b d j
 have hmono:=fun k hk=>ptC_mono (b:=b) (d:=d) (s:=stop) (i:=j+1) (j:=k) hk
 have hrun:=hc.run is orc hi (ptC b d j)
 have hlen2:N≤(X (ptC b d j)++e1).length:=by rw[List.length_append,hX2];omega
 by_cases hj:j<T
 ·have hT1:=hmono T (by omega)
  refine zK _ _ hs2 hst2 fun fr2=>?_
  refine kQ (ze rfl rfl rfl (zC (k_seq (k_cT rfl (decide_eq_true (by omega)) (zU (k_seq (zQ (kQ ?_))))))))
  refine zB rfl (zA rfl (zC (kQ (zA rfl (zC (k_seq (kQ (zD rfl rfl zAN ?_))))))))
  refine zD rfl rfl wD (zD rfl rfl yd (zE rfl rfl z1 sh23 rfl ?_))
  refine zp rfl ty23 rfl (List.length_map _) ?_
  refine zB rfl (zC ?_)
  refine zK [(0,U.yld A),(1,U.box ci 0),(3,.int .i64 ↑j),(4,.lst .full 0 []),(12,.int .i64 ↑T),(13,.int .i64 ↑j),(20,.int .i64 ↑(List.length (Bk.scenes b))),(21,.int .i64 0)] (X (ptC b d j)++e1) (.c4 rfl rfl rfl rfl (.c4 rfl rfl rfl rfl (.nil rfl))) rfl fun fr=>?_
  refine zQ ?_
  obtain⟨Y,hY⟩:∃Y,Y=X (ptC b d j)++e1:=⟨_,rfl⟩
  rw[←hY]at z1
  refine yr (fun mm s2=>∃i:Nat,mm+i=b.scenes.length∧okN b d (bt j) i=true∧s2.st=Y∧Holds s2 [(0,.yld A),(1,.box ci 0),(3,.int .i64 j),(4,accI (memP (bt j) i)),(12,.int .i64 T),(13,.int .i64 j),(20,.int .i64 b.scenes.length),(21,.int .i64 i)]) (fun mm s2 hI=>?_) b.scenes.length _ ⟨0,rfl,rfl,hY.symm,.c4 rfl rfl rfl rfl (.c4 rfl rfl rfl rfl (.nil rfl))⟩
  obtain⟨i,hmi,hok,hst3,hs3⟩:=hI
  have hlen:=memP_len (bt j) i
  have hms:=zFi (bt j) i
  by_cases hin:i<b.scenes.length
  ·have hbt:=bt_eq j i
   have hfd:=fdiv_b (n:=(j:Int)) i (by omega)
   have hnot:=okN_not (b:=b) (d:=d) (P:=bt j) (i:=i) (n:=b.scenes.length)
   have hoks:okN b d (bt j) (i+1)=(okN b d (bt j) i&&canB b d (bt j i) i):=rfl
   rw[hok,Bool.true_and]at hoks
   obtain⟨M,hM⟩:∃M,M=memP (bt j) i:=⟨_,rfl⟩
   rw[←hM]at hlen hms hs3
   refine zK _ _ hs3 hst3 fun fr3=>?_
   refine kQ (ze rfl rfl rfl (zC (k_seq (k_cT rfl (decide_eq_true (by omega)) (zU (k_seq (zQ (kQ ?_))))))))
   refine zB rfl (zA rfl (zC (kQ (zB rfl (zB rfl (o_shr rfl rfl rfl (by omega) ?_))))))
   refine o_andOne rfl rfl rfl hfd ?_
   refine wn rfl rfl rfl (zA rfl (zC ?_))
   refine zK [(0,.yld A),(1,.box ci 0),(3,.int .i64 j),(4,accI M),(5,.int .i64 i),(6,.bool (bt j i)),(12,.int .i64 T),(13,.int .i64 j),(20,.int .i64 b.scenes.length),(21,.int .i64 i)] Y (.c4 rfl rfl rfl rfl (.cons rfl (.cons (by rw[←hbt];rfl) (.c4 rfl rfl rfl rfl (.nil rfl))))) rfl fun fr4=>?_
   have q114:=ret114 (orc:=orc) hi h hd (bt j i) hin
   generalize bt j i=B at*
   cases hcan:canB b d B i with
   |false=>
    rw[hcan]at q114
    have hf:=hnot hcan hin
    rw[hf,if_neg (by decide),List.append_nil]at hsu
    refine k_seq (kQ (zP rfl rfl z1 sh72 rfl ?_))
    refine zB rfl (zB rfl (zN rfl (q114) (.lrefl _) (yB rfl rfl (zC (k_cT rfl rfl ?_)))))
    refine yf (k_region ?_)
    refine yV rfl rfl rfl (by unfold I64;omega) (zB rfl (zC ?_))
    exact⟨kk - 1,by omega,j+1,e1,by omega,(by rw[hsu];exact hno),(by rw[hsu];exact hY),.c4 rfl rfl rfl rfl (.nil rfl)⟩
   |true=>
    rw[hcan]at q114 hoks
    cases B with
    |false=>
     rw[if_neg (by decide),List.append_nil]at hms
     refine k_seq (kQ (zP rfl rfl z1 sh72 rfl ?_))
     refine zB rfl (zB rfl (zN rfl (q114) (.lrefl _) (yB rfl rfl (zC (k_cF rfl rfl ?_)))))
     refine zU (kQ (zB rfl (zC (k_cF rfl rfl ?_))))
     refine zU (k_region ?_)
     refine yV rfl rfl rfl (by unfold I64;omega) (zB rfl (zC ?_))
     exact⟨mm - 1,by omega,i+1,by omega,hoks,rfl,.cons rfl (.cons rfl (.cons rfl (.cons (congrArg accI hms.symm) (.c4 rfl rfl rfl rfl (.nil rfl)))))⟩
    |true=>
     rw[if_pos rfl]at hms
     cases M with
     |nil=>
      refine k_seq (kQ (zP rfl rfl z1 sh72 rfl ?_))
      refine zB rfl (zB rfl (zN rfl (q114) (.lrefl _) (yB rfl rfl (zC (k_cF rfl rfl ?_)))))
      refine zU (kQ (zB rfl (zC (k_cT rfl rfl ?_))))
      refine k_region (zB rfl (zB rfl (zDE (es:=[.int .i64 ↑i]) rfl ty83 ze3 cl3 rfl rfl rfl rfl rfl rfl rfl rfl ?_)))
      refine zCa rfl ap83_83 rfl rfl (by simp) (by simp) (by simp[yR,zz,oneU]) (by simp) ?_
      refine zA rfl (zC ?_)
      refine zK [(0,U.yld A),(1,U.box ci 0),(3,.int .i64 ↑j),(4,U.lst Kd.own 1 [.int .i64 ↑i]),(12,.int .i64 ↑T),(13,.int .i64 ↑j),(20,.int .i64 ↑(List.length (Bk.scenes b))),(21,.int .i64 ↑i)] (Y) (.c4 rfl rfl rfl rfl (.c4 rfl rfl rfl rfl (.nil rfl))) rfl fun fr=>?_
      refine k_region ?_
      refine yV rfl rfl rfl (by unfold I64;omega) (zB rfl (zC ?_))
      exact⟨mm - 1,by omega,i+1,by omega,hoks,rfl,.cons rfl (.cons rfl (.cons rfl (.cons (by rw[hms];rfl) (.c4 rfl rfl rfl rfl (.nil rfl)))))⟩
     |cons w M=>
      refine k_seq (kQ (zP rfl rfl z1 sh72 rfl ?_))
      refine zB rfl (zB rfl (zN rfl (q114) (.lrefl _) (yB rfl rfl (zC (k_cF rfl rfl ?_)))))
      refine zU (kQ (zB rfl (zC (k_cT rfl rfl ?_))))
      refine k_region (zB rfl (zB rfl (zDE (es:=[.int .i64 ↑i]) rfl ty83 ze3 cl3 rfl rfl rfl rfl rfl rfl rfl rfl ?_)))
      refine zCZ 4 rfl ap83_83 rfl rfl rfl (by simp) (by simp) (by simp[yR,zz,oneU]) (by simp at hlen ⊢;omega) ?_
      refine zA rfl (zC (k_region ?_))
      refine yV rfl rfl rfl (by unfold I64;omega) (zB rfl (zC ?_))
      exact⟨mm - 1,by omega,i+1,by omega,hoks,rfl,.cons rfl (.cons rfl (.cons rfl (.cons (by rw[hms,zCl];rfl) (.c4 rfl rfl rfl rfl (.nil rfl)))))⟩
  ·have hie:i=b.scenes.length:=by omega
   subst hie
   rw[hok,if_pos rfl]at hsu
   have heo:=memP_eok b (bt j)
   obtain⟨q,hq⟩:∃q,q=memP (bt j) b.scenes.length:=⟨_,rfl⟩
   rw[←hq]at hsu hs3 heo
   have hr:=hrun q e1 heo
   obtain⟨pp,hp1,hp2⟩:=hc.ps
   have hu:=uw_acc2 q
   refine zK _ _ hs3 hst3 fun fr3=>?_
   refine kQ (ze rfl rfl rfl (zC (k_seq (k_cF rfl (decide_eq_false (by omega)) (yf (kQ ?_))))))
   refine o_weak 4 rfl (fun _=>rfl) (u:=.lst .ro 1 (zF q)) hu ?_
   subst hY
   refine zB rfl (zB rfl ?_)
   refine o_yield (a:=A) rfl rfl (yP hbl) hc.own (by rw[hp1];simp[hp2]) (by rw[hp1];rfl) (.lrefl _) hr (fun u st1 hM=>?_)
   rcases hM with ⟨hs,rfl,e',rfl⟩|⟨hs,rfl,e',rfl⟩
   ·refine yB rfl rfl ?_
    refine zC (k_cF rfl rfl ?_)
    refine zU (k_region ?_)
    refine yV rfl rfl rfl (by unfold I64;omega) (zB rfl (zC ?_))
    exact⟨kk - 1,by omega,j+1,e1++e',by omega,(by rw[hsu,List.any_append,hno];simp[hs]),(by rw[hsu];rfl),.c4 rfl rfl rfl rfl (.nil rfl)⟩
   ·have hany:(ptC b d T).any stop=true:=hT1 (by rw[hsu,List.any_append];simp[hs])
    refine yB rfl rfl (zC (k_cT rfl rfl ?_))
    refine zZ ?_
    refine⟨(fun l h=>by cases h),.inr rfl,_,.nil,_,.refl _,Bd.tup (fun c hc=>by cases hc),?_,?_,.inr ⟨hany,?_⟩⟩
    ·show(X []).length≤(D++_).length
     rw[List.length_append,hX,hc.lenD];omega
    ·show ∀x∈(D++_).take (X []).length,BdS (X []).length x
     rw[hX,wO hc.lenD];exact hc.bdD
    ·show(D++_).take (X []).length=_
     rw[hX,wO hc.lenD]
 ·have hje:j=T:=by omega
  subst hje
  refine zK _ _ hs2 hst2 fun fr2=>?_
  refine kQ (ze rfl rfl rfl (zC (k_seq (k_cF rfl (decide_eq_false (by omega)) (yf ?_)))))
  refine⟨(fun l h=>by cases h),.inl rfl,_,.nil,_,.refl _,Bd.tup (fun c hc=>by cases hc),?_,?_,.inl ⟨hno,?_⟩⟩
  ·show(X []).length≤(X _++_).length
   rw[List.length_append,hX,hc.len];omega
  ·show ∀x∈(X _++_).take (X []).length,BdS (X []).length x
   rw[hX,wO (hc.len _)];exact hc.bd _
  ·show(X _++_).take (X []).length=_
   rw[hX,wO (hc.len _)]
theorem wpc103(b:Bk)(d:List Int)(st:List SB):WpC Tryd.prog is orc 103 [crU b d] st fun u st'=>u=.fn 113 [] [.box st.length 0]∧st'=st++[.box (Bk.cd b d)]:=by
 refine zDH body103 pure103 rfl rfl ?_
 refine kQ (yH rfl rfl (zA rfl (zC ?_)))
 refine zK [(1,U.box (List.length st) 0)] (st++[SB.box (Bk.cd b d)]) (.cons rfl (.nil rfl)) rfl fun fr=>?_
 refine kQ ?_
 refine zFd rfl ?_
 refine zA rfl (zC (zZ ?_))
 refine⟨.inr rfl,_,.cons _ _ _ _ (.tmp 2) .nil,?_⟩
 exact⟨_,.refl _,rfl,rfl⟩
end
end Go.Proofs.YtlknfhjfkcboiaaDoor.night
