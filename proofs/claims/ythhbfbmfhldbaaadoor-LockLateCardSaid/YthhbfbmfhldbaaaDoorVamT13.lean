import Derived.Test.YthhbfbmfhldbaaaDoorVamT12
set_option linter.unusedVariables false
set_option linter.unusedSimpArgs false
set_option linter.constructorNameAsVariable false
namespace Go.Proofs.YthhbfbmfhldbaaaDoor.locks
open Vam
section
variable {is:FuncId→Bool}{orc:Known}{l:Ln}
noncomputable def b106:Code:=(Tryd.f106.body).getD .skip
theorem body106:bodyOf Tryd.prog 106=some (1,b106,[.tmp 0]):=by kernel_rfl
theorem pure106:pureFn Tryd.prog 106=false:=by kernel_rfl
noncomputable def b114:Code:=(Tryd.f114.body).getD .skip
theorem body114:bodyOf Tryd.prog 114=some (20,b114,[]):=by kernel_rfl
theorem pure114:pureFn Tryd.prog 114=false:=by kernel_rfl
theorem Bd.mono{n m:Nat}{u:U}(h:Bd n u)(hm:n≤m):Bd m u:=fun φ S v hv=>(h φ S v hv).mono (fun a b e=>BMap.cut_of (by have:=(BMap.cut_some e).1;omega) (BMap.cut_some e).2) S.le_refl
theorem BdS.mono{n m:Nat}{x:SB}(h:BdS n x)(hm:n≤m):BdS m x:=by
 cases x with
 |box cs=>exact fun c hc=>Bd.mono (h c hc) hm
 |froz cs=>exact fun c hc=>Bd.mono (h c hc) hm
 |map es=>exact fun p hp=>⟨Bd.mono (h p hp).1 hm,Bd.mono (h p hp).2 hm⟩
 |loop q l=>exact fun i=>Bd.mono (h i) hm
 |dead=>trivial
theorem at_off{st X:List SB}{k:Nat}{x:SB}(h:X[k]? =some x):(st++X)[st.length+k]? =some x:=by
 rw[List.getElem?_append_right (by omega),Nat.add_sub_cancel_left];exact h
theorem set_off{st X:List SB}{k:Nat}{x:SB}:(st++X).set (st.length+k) x=st++X.set k x:=by
 rw[List.set_append_right _ _ (by omega),Nat.add_sub_cancel_left]
theorem wS{P Q:List SB}{n:Nat}(h:P.length=n):(P++Q).take n=P:=by rw[←h,List.take_left]
abbrev latU(x:Nat×Nat):U:=.agg [.int .i64 (x.1:Int),.int .i64 (x.2:Int)]
def lat(k:Nat):Nat×Nat:=(k / 9,k % 9)
def preL(k:Nat):List (Nat×Nat):=(List.range k).map lat
theorem zGB(k:Nat):preL (k+1)=preL k++[lat k]:=by simp[preL,List.range_succ]
theorem zGU{w b:Nat}(hb:b<9):lat (9*w+b)=(w,b):=by
 unfold lat
 rw[show(9*w+b) / 9=w by omega,show(9*w+b) % 9=b by omega]
theorem pre_pre{a b:Nat}(h:a≤b):∃r,preL b=preL a++r:=by
 refine⟨(List.range' a (b - a)).map lat,?_⟩
 unfold preL
 rw[←List.map_append,List.range_eq_range',List.range_eq_range',show List.range' 0 b=List.range' 0 a++List.range' a (b - a) by
  have:=List.range'_append (s:=0) (m:=a) (n:=b - a) (step:=1)
  rw[show 0+1*a=a by omega,show a+(b - a)=b by omega]at this
  exact this.symm]
theorem ret106(hi:Off is):RetP Tryd.prog is orc 106 [] (.fn 114 [] []):=by
 refine zAx body106 pure106 rfl rfl (fun u hu=>by cases hu) (zGP _) ?_
 refine kQ (zC rfl (zB (kQ (zC rfl (zB (zY ?_))))))
 refine⟨.inr rfl,_,.cons _ _ _ _ (.tmp 0) .nil,?_⟩
 exact .refl _
end
section
variable {is:FuncId→Bool}{orc:Known}{l:Ln}
structure CnsE{α:Type}(enc:α→U)(N A:Nat)(lp:Lp)(I D:List α→List SB→Prop)(els:List α):Prop where
 len:∀l st,I l st→N≤st.length
 lenD:∀l st,D l st→N≤st.length
 tk:∀l st,I l st→I l (st.take N)
 tkD:∀l st,D l st→D l (st.take N)
 bd:∀l st,I l st→∀x∈st.take N,BdS N x
 bdD:∀l st,D l st→∀x∈st.take N,BdS N x
 bl:∀l st,I l st→st[A]? =some (.loop .ready lp)
 own:∀i,NoOwn (lp.fr i)
 ps:∃p,lp.ps=[p]∧Nat.blt p 1024=true
 run:∀(is:FuncId→Bool) (orc:Known),Off is→∀l q r st,els=l++q::r→I l st→WpY Tryd.prog is orc A lp [enc q] st fun u st'=>
  (u=.bool true∧I (l++[q]) st')∨(u=.bool false∧D (l++[q]) st')
def GenE{α:Type}(enc:α→U)(g:Nat)(B:List U)(els:List α):Prop:=
 ∀(is:FuncId→Bool) (orc:Known),Off is→∀{N A:Nat} {lp:Lp} {I D:List α→List SB→Prop},CnsE enc N A lp I D els→∀st,st.length=N→I [] st→
  WpC Tryd.prog is orc g (.yld A::B) st fun _ st'=>st'.length=N∧(I els st'∨∃l r,els=l++r∧D l st')
theorem bd_e{e:List SB}{n:Nat}{y:SB}(h:∀x∈e,BdS (n+1+e.length) x)(hy:∀m,BdS m y):∀x∈e++[y],BdS (n+1+(e++[y]).length) x:=fun x hx=>by
 rcases List.mem_append.1 hx with hx|hx
 ·exact BdS.mono (h x hx) (by simp)
 ·rcases List.mem_singleton.1 hx with rfl;exact hy _
theorem zFh{α:Type}{enc:α→U}{g n:Nat}{B:List U}{els:List α}{lp:Lp}{I D:List α→List SB→Prop}{ex:Ex}{s:St}{x:Operand}{ps:Array Tmp}{assign body:Code}{Q:Ex→St→Prop}(hi:Off is)
  (hg:GenE enc g B els) (hx:zO s x=.fn g [] B) (hc:CnsE enc (n+1) n lp (fun l st=>∃Z e,I l Z∧Z.length=n∧(∀x∈e,BdS (n+1+e.length) x)∧st=Z++(.loop .ready lp::e)) (fun l st=>∃Z e,D l Z∧Z.length=n∧(∀x∈e,BdS (n+1+e.length) x)∧st=Z++(.loop (.done ex) lp::e)) els)
  (hbd:∀l Z,I l Z→Z.length=n→∀x∈Z,BdS n x) (hbdD:∀l Z,D l Z→Z.length=n→∀x∈Z,BdS n x) (hlp:lpOf s ps.toList assign body=lp) (hl:s.st.length=n) (hst:I [] s.st)
  (k1:∀Z,I els Z→Z.length=n→endQ Q .ready ⟨s.fr,[],Z⟩) (k2:∀l r Z,els=l++r→D l Z→Z.length=n→endQ Q (.done ex) ⟨s.fr,[],Z⟩):Wp Tryd.prog is orc (.rangeFunc x ps assign body) s Q:=by
 refine k_range hx ?_
 show WpC Tryd.prog is orc g ([]++([.yld s.st.length]++B)) _ _
 rw[hlp,hl]
 refine(hg is orc hi hc (s.st++[.loop .ready lp]) (by simp[hl]) ⟨s.st,[],hst,hl,(fun x hx=>by cases hx),rfl⟩).mono fun _ st' hs=>?_
 have nil:∀{Z e:List SB} {y:SB},(Z++(y::e)).length=n+1→Z.length=n→e=[]:=fun {Z e y} h1 h2=>by
  rw[List.length_append,List.length_cons]at h1
  exact List.eq_nil_of_length_eq_zero (by omega)
 obtain⟨h0,⟨Z,e,hZ,hZl,_,rfl⟩|⟨l,r,h1,Z,e,hZ,hZl,_,rfl⟩⟩:=hs
 ·obtain rfl:=nil h0 hZl
  exact⟨.ready,by rw[←hZl];exact yj _ _,by rw[wS hZl];exact hbd _ _ hZ hZl,by rw[wS hZl];exact k1 Z hZ hZl⟩
 ·obtain rfl:=nil h0 hZl
  exact⟨.done ex,by rw[←hZl];exact yj _ _,by rw[wS hZl];exact hbdD _ _ hZ hZl,by rw[wS hZl];exact k2 l r Z h1 hZ hZl⟩
set_option maxHeartbeats 16000000 in
theorem gen114E:GenE latU 114 [] (preL 18):=by
 intro is orc hi N A lp I D hc st0 hl0 hI0
 have q115:=ret115 (orc:=orc) hi
 obtain⟨pp,hp1,hp2⟩:=hc.ps
 have fin:∀st3:List SB,N≤st3.length→(∀x∈st3.take N,BdS N x)→st0.length≤st3.length∧(∀x∈st3.take st0.length,BdS st0.length x)∧(st3.take st0.length).length=N∧st3.take st0.length=st3.take N:=fun st3 h1 h2=>by
  rw[hl0]
  exact⟨h1,h2,by rw[List.length_take];omega,rfl⟩
 refine wpc_cut body114 pure114 rfl rfl ?_
 refine kQ (zN rfl (q115) (.lrefl _) (zA rfl (zA rfl (zB (zG ?_)))))
 refine yZ (fun kk s2=>∃(w:Nat) (st1:List SB),kk+w=2∧I (preL (9*w)) st1∧s2.st=st1∧Holds s2 [(0,.yld A),(5,.int .i64 2),(6,.int .i64 w)]) (fun kk s2 hJ=>?_) 2 _ ⟨0,st0,rfl,hI0,rfl,.cons rfl (.n2 rfl)⟩
 obtain⟨w,st1,hk,hI1,hst2,hs2⟩:=hJ
 refine zH _ _ hs2 hst2 fun fr2=>?_
 by_cases hw:w<2
 ·refine kQ ?_
  refine kp rfl (zB (k_seq (k_cT rfl (kF (by omega)) (zK (k_seq (zG (kQ (zA rfl (zC rfl (zB (kQ (zA rfl (zB (zG ?_))))))))))))))
  refine yZ (fun mm s3=>∃(b:Nat) (st2:List SB),mm+b=9∧I (preL (9*w+b)) st2∧s3.st=st2∧Holds s3 [(0,.yld A),(2,.int .i64 w),(5,.int .i64 2),(6,.int .i64 w),(9,.int .i64 b)]) (fun mm s3 hJ=>?_) 9 _ ⟨0,st1,rfl,hI1,rfl,.c4 rfl rfl rfl rfl (.n1 rfl)⟩
  obtain⟨b,st2,hm,hI2,hst3,hs3⟩:=hJ
  refine zH _ _ hs3 hst3 fun fr3=>?_
  by_cases hb:b<9
  ·have hos:∃r,preL 18=preL (9*w+b+1)++r:=pre_pre (by omega)
   obtain⟨rr,hrr⟩:=hos
   have hr:=hc.run is orc hi (preL (9*w+b)) (w,b) rr st2 (by rw[hrr,zGB,zGU hb];simp) hI2
   have hos:∃r,preL 18=preL (9*w+b+1)++r:=⟨rr,hrr⟩
   rw[←zGU hb,←zGB]at hr
   rw[zGU hb]at hr
   have hbl:=hc.bl _ _ hI2
   refine kQ (kp rfl (zB (k_seq (k_cT rfl (kF (by omega)) (zK (k_seq (zG (kQ (zA rfl (zC rfl (zB (kQ (zA rfl (zA rfl (zA rfl ?_)))))))))))))))
   refine wN rfl ze107 pl107 rfl rfl ?_
   refine o_yield (a:=A) rfl rfl hbl hc.own (by rw[hp1];simp[hp2]) (by rw[hp1];rfl) (.lrefl _) hr (fun u st3 hM=>?_)
   rcases hM with ⟨rfl,hI3⟩|⟨rfl,hD3⟩
   ·refine yN rfl rfl ?_
    refine zB (k_cF rfl rfl ?_)
    refine zK (k_region ?_)
    refine kz rfl (by unfold I64;omega) (zA rfl (zB ?_))
    exact⟨mm - 1,by omega,b+1,st3,by omega,hI3,rfl,.c4 rfl rfl rfl rfl (.n1 rfl)⟩
   ·refine yN rfl rfl ?_
    refine zB (k_cT rfl rfl ?_)
    refine zY ?_
    obtain⟨f1,f2,f4,f3⟩:=fin st3 (hc.lenD _ _ hD3) (hc.bdD _ _ hD3)
    obtain⟨r,hr2⟩:=hos
    exact⟨.inr rfl,_,.nil,_,.refl _,Bd.tup (fun c hc=>by cases hc),f1,f2,f4,.inr ⟨_,r,hr2,by show D _ (st3.take st0.length);rw[f3];exact hc.tkD _ _ hD3⟩⟩
  ·have hb9:b=9:=by omega
   subst hb9
   refine kQ (kp rfl (zB (k_seq (k_cF rfl rfl ?_))))
   refine zp (k_region ?_)
   refine kz rfl (by unfold I64;omega) (zA rfl (zB ?_))
   exact⟨kk - 1,by omega,w+1,st2,by omega,hI2,rfl,.cons rfl (.n2 rfl)⟩
 ·have hw2:w=2:=by omega
  subst hw2
  refine kQ (kp rfl (zB (k_seq (k_cF rfl rfl ?_))))
  refine zp ?_
  obtain⟨f1,f2,f4,f3⟩:=fin st1 (hc.len _ _ hI1) (hc.bd _ _ hI1)
  exact⟨.inl rfl,_,.nil,_,.refl _,Bd.tup (fun c hc=>by cases hc),f1,f2,f4,.inl (by show I _ (st1.take st0.length);rw[f3];exact hc.tk _ _ hI1)⟩
end
section
variable {is:FuncId→Bool}{orc:Known}{l:Ln}
theorem zFJ:shOf Tryd.prog 136=.one:=by kernel_rfl
theorem ze136:yU Tryd.prog 136=some ((.cons .nilm .nil):V):=by kernel_rfl
noncomputable def b105:Code:=(Tryd.f105.body).getD .skip
theorem body105:bodyOf Tryd.prog 105=some (14,b105,[.tmp 2]):=by kernel_rfl
theorem pure105:pureFn Tryd.prog 105=false:=by kernel_rfl
theorem ty136:tyOf Tryd.prog 136=.map 107 108:=by kernel_rfl
def sndU(l:Ln)(p:List Int)(x:Nat×Nat):U:=.agg (zE (i16 (hrN l p x.1 x.2 p.length)))
noncomputable def esL(l:Ln)(p:List Int)(L:List (Nat×Nat)):List (U×U):=L.foldl (fun es x=>setK es (latU x) (sndU l p x)) []
theorem esL_snoc(l:Ln)(p:List Int)(L:List (Nat×Nat))(x:Nat×Nat):esL l p (L++[x])=setK (esL l p L) (latU x) (sndU l p x):=by
 unfold esL;rw[List.foldl_append];rfl
theorem esL_mem{p:List Int}:∀(L:List (Nat×Nat)) (es:List (U×U)),(∀q∈es,∃x,q=(latU x,sndU l p x))→∀q∈L.foldl (fun es x=>setK es (latU x) (sndU l p x)) es,∃x,q=(latU x,sndU l p x):=by
 intro L
 induction L with
 |nil=>intro es h q hq;exact h q hq
 |cons x L ih=>
  intro es h q hq
  refine ih _ (fun y hy=>?_) q hq
  rcases mem_setK hy with rfl|hy
  ·exact⟨x,rfl⟩
  ·exact h y hy
theorem zCb{p:List Int}{L:List (Nat×Nat)}:∀q∈esL l p L,∃x,q=(latU x,sndU l p x):=esL_mem L [] fun q hq=>by cases hq
theorem eq107(a c x y:Int):eqT Tryd.prog 107 (valK (zBP a c)) (valK (zBP x y))=some ((a==x)&&(c==y)):=by
 have h:eqT Tryd.prog 107 (valK (zBP a c)) (valK (zBP x y))=Vam.cond (ieq a x) (Vam.cond (ieq c y) (some true) (some false)) (some false):=by kernel_rfl
 rw[h,zAF,zAF]
 cases a==x<;>cases c==y<;>rfl
theorem same107(a c:Int):sameV (valK (zBP a c)) (valK (zBP a c))=true:=by
 have h:sameV (valK (zBP a c)) (valK (zBP a c))=Vam.cond (ieq a a) (Vam.cond (ieq c c) true false) false:=by kernel_rfl
 rw[h,zAF,zAF,show(a==a)=true by simp,show(c==c)=true by simp];rfl
theorem zBV{p:List Int}{es:List (U×U)}(h:∀q∈es,∃x,q=(latU x,sndU l p x))(x:Nat×Nat):KeyOk Tryd.prog 107 (latU x) es:=by
 refine⟨rfl,?_,same107 _ _,fun q hq=>?_⟩
 ·kernel_rfl
 ·obtain⟨y,rfl⟩:=h q hq
  refine⟨rfl,_,eq107 _ _ _ _,?_⟩
  simp only[Bool.and_eq_true,beq_iff_eq,U.agg.injEq,List.cons.injEq,U.int.injEq,true_and,and_true]
  omega
theorem bd_es{p:List Int}{es:List (U×U)}(h:∀q∈es,∃x,q=(latU x,sndU l p x))(n:Nat):BdS n (.map es):=fun q hq=>by
 obtain⟨x,rfl⟩:=h q hq
 refine⟨Bd.agg fun u hu=>?_,Bd.agg fun u hu=>?_⟩
 ·simp only[List.mem_cons,List.not_mem_nil,or_false]at hu
  rcases hu with rfl|rfl<;>exact Bd.int _ _ _
 ·obtain⟨z,_,rfl⟩:=List.mem_map.1 hu
  exact Bd.int _ _ _
theorem zBo(a b:Int)(m:Nat):BdS m (.box [.int .i64 a,.int .i64 b]):=fun c hc=>by
 simp only[List.mem_cons,List.not_mem_nil,or_false]at hc
 rcases hc with rfl|rfl<;>exact Bd.int _ _ _
abbrev zCi(l:Ln)(p:List Int):List U:=[.lst .ro 1 (zE l.slots),.int .i64 l.left,.int .i64 l.right,.int .i64 l.run,.lst .ro 1 (zE p)]
noncomputable def wyV(l:Ln)(p:List Int)(st:List SB)(es:List (U×U)):List SB:=st++[.box (zCi l p),.map es,.box [.mp (st.length+1)]]
theorem zBe(l:Ln)(p:List Int)(st:List SB)(es:List (U×U)):(wyV l p st es).length=st.length+3:=by simp[wyV]
theorem wyV_at(l:Ln)(p:List Int)(st:List SB)(es:List (U×U)):(wyV l p st es)[st.length]? =some (.box (zCi l p))∧(wyV l p st es)[st.length+1]? =some (.map es)∧(wyV l p st es)[st.length+2]? =some (.box [.mp (st.length+1)]):=by
 unfold wyV
 exact⟨by simp,at_off rfl,at_off rfl⟩
theorem wyV_set(l:Ln)(p:List Int)(st:List SB)(es es2:List (U×U)):(wyV l p st es).set (st.length+1) (.map es2)=wyV l p st es2:=by
 unfold wyV;rw[set_off];rfl
theorem wyV_bd{p:List Int}{st:List SB}(hb:∀x∈st,BdS st.length x){es:List (U×U)}(h:∀q∈es,∃x,q=(latU x,sndU l p x)):∀x∈wyV l p st es,BdS (st.length+3) x:=fun x hx=>by
 rcases List.mem_append.1 hx with hx|hx
 ·exact BdS.mono (hb x hx) (by omega)
 ·simp only[List.mem_cons,List.not_mem_nil,or_false]at hx
  rcases hx with rfl|rfl|rfl
  ·intro c hc
   simp only[List.mem_cons,List.not_mem_nil,or_false]at hc
   rcases hc with rfl|rfl|rfl|rfl|rfl
   ·exact(yK 6 .ro (fun h=>by cases h) 1 _).nb.bd _
   ·exact Bd.int _ _ _
   ·exact Bd.int _ _ _
   ·exact Bd.int _ _ _
   ·exact(yK 6 .ro (fun h=>by cases h) 1 _).nb.bd _
  ·exact bd_es h _
  ·intro c hc
   rcases List.mem_singleton.1 hc with rfl
   exact Bd.mp (by omega)
theorem zCy{p:U→Prop}{l:List (Nat×U)}{d:U}(h:∀x∈l,p x.2)(hd:p d)(i:Nat):p (zBj l i d):=by
 induction l with
 |nil=>exact hd
 |cons x l ih=>
  obtain⟨j,u⟩:=x
  show p (Vam.cond (Nat.beq i j) u (zBj l i d))
  cases Nat.beq i j with
  |true=>exact h _ List.mem_cons_self
  |false=>exact ih fun y hy=>h y (List.mem_cons_of_mem _ hy)
theorem zCm{Z e:List SB}{y:SB}{n:Nat}(h:Z.length=n):(Z++(y::e)).take (n+1)=Z++[y]:=by
 rw[show Z++(y::e)=(Z++[y])++e by simp,wS (by simp[h])]
theorem at_n{Z e:List SB}{y:SB}{n:Nat}(h:Z.length=n):(Z++(y::e))[n]? =some y:=by rw[←h];simp
theorem set_n{Z e:List SB}{y x:SB}{n:Nat}(h:Z.length=n):(Z++(y::e)).set n x=Z++(x::e):=by
 rw[List.set_append_right _ _ (by omega),h,Nat.sub_self];rfl
set_option maxHeartbeats 16000000 in
theorem wpc105(hi:Off is)(h:VL l){p:List Int}(hd:divB l p=true)(st:List SB)(hb:∀x∈st,BdS st.length x):
  WpC Tryd.prog is orc 105 [zCh l p] st fun u st'=>u=.mp (st.length+1)∧st'=wyV l p st (esL l p (preL 18)):=by
 refine zFo body105 pure105 rfl rfl ?_
 have q106:=ret106 (orc:=orc) hi
 have he0:esL l p (preL 0)=[]:=by simp[esL,preL]
 refine kQ (yB rfl rfl (zC rfl (zB ?_)))
 refine zH [(1,U.box (List.length st) 0)] (st++[SB.box [.lst .ro 1 (zE (Ln.slots l)),.int .i64 (Ln.left l),.int .i64 (Ln.right l),.int .i64 (Ln.run l),.lst .ro 1 (zE p)]]) (.n1 rfl) rfl fun fr=>?_
 refine kQ (o_makeMap rfl ty136 ?_)
 refine zo rfl ze136 ?_
 refine yl rfl (yj _ _) zFJ rfl rfl ?_
 refine zB ?_
 refine zH [(1,U.box (List.length st) 0),(3,U.box (List.length (st++[SB.box [.lst .ro 1 (zE (Ln.slots l)),.int .i64 (Ln.left l),.int .i64 (Ln.right l),.int .i64 (Ln.run l),.lst .ro 1 (zE p)]]++[SB.map []])) 0)] (st++[SB.box [.lst .ro 1 (zE (Ln.slots l)),.int .i64 (Ln.left l),.int .i64 (Ln.right l),.int .i64 (Ln.run l),.lst .ro 1 (zE p)]]++[SB.map []]++[SB.box [U.mp (List.length (st++[SB.box [.lst .ro 1 (zE (Ln.slots l)),.int .i64 (Ln.left l),.int .i64 (Ln.right l),.int .i64 (Ln.run l),.lst .ro 1 (zE p)]]))]]) (.n2 rfl) (yw _ _ _) fun fr=>?_
 refine k_seq (kQ (zN rfl (q106) (.lrefl _) (zB (zG ?_))))
 refine zEI [(1,.box st.length 0),(3,.box (st.length+2) 0),(6,.fn 114 [] [])] (wyV l p st (esL l p (preL 0))) (.cons rfl (.cons (by show U.box _ 0=_;simp) (.n1 rfl))) (by rw[he0];show((st++[_])++[_])++[SB.box [.mp (st++[SB.box _]).length]]=_;unfold wyV;simp) ?_
 refine zFh (n:=st.length+3) (I:=fun L Z=>Z=wyV l p st (esL l p L)) (D:=fun _ _=>False) (ex:=.ret) hi gen114E rfl ?_ ?_ ?_ rfl (zBe _ _ _ _) rfl ?_ ?_
 ·have hlpb:∀(i:Nat),Bd (st.length+3+1) (dg (zBj [(1,.box st.length 0),(3,.box (st.length+2) 0),(6,.fn 114 [] [])] i .junk)):=fun i=>by
   refine zCy (p:=fun u=>Bd (st.length+3+1) (dg u)) ?_ (Bd.junk _) i
   intro x hx
   simp only[List.mem_cons,List.not_mem_nil,or_false]at hx
   rcases hx with rfl|rfl|rfl
   ·exact Bd.box (by omega)
   ·exact Bd.box (by omega)
   ·exact(zGP _).bd _
  refine⟨?_,?_,?_,?_,?_,?_,?_,fun i=>zAe _,⟨7,rfl,rfl⟩,?_⟩
  ·rintro L st' ⟨Z,e,_,hZl,_,rfl⟩;simp[hZl]
  ·rintro L st' ⟨Z,e,hf,_⟩;cases hf
  ·rintro L st' ⟨Z,e,hZ,hZl,_,rfl⟩;exact⟨Z,[],hZ,hZl,(fun x hx=>by cases hx),zCm hZl⟩
  ·rintro L st' ⟨Z,e,hf,_⟩;cases hf
  ·rintro L st' ⟨Z,e,rfl,hZl,hbe,rfl⟩ x hx
   rw[zCm hZl]at hx
   rcases List.mem_append.1 hx with hx|hx
   ·exact BdS.mono (wyV_bd hb zCb x hx) (by omega)
   ·rcases List.mem_singleton.1 hx with rfl
    exact hlpb
  ·rintro L st' ⟨Z,e,hf,_⟩;cases hf
  ·rintro L st' ⟨Z,e,_,hZl,_,rfl⟩;exact at_n hZl
  ·generalize hlp:lpOf _ _ _ _=lp
   rintro is orc hi L ⟨w,b⟩ rr st' hrr ⟨Z,e,rfl,hZl,hbe,rfl⟩
   have hb8:b≤8:=by
    have hm:(w,b)∈preL 18:=by rw[hrr];simp
    obtain⟨k,_,e⟩:=List.mem_map.1 hm
    unfold lat at e
    cases e
    omega
   have q83:=ret83 (orc:=orc) hi h hd (who:=(w:Int)) (b:=b) hb8
   have hs83:RetP Tryd.prog is orc 83 [zCh l p,zBP w b] (sndU l p (w,b)):=q83
   have es2:=esL_snoc l p L (w,b)
   unfold WpY
   rw[←congrArg Lp.assign hlp,←congrArg Lp.body hlp,←congrArg Lp.ps hlp,←congrArg Lp.fr hlp]
   obtain⟨Y1,hY1⟩:∃Y,Y=wyV l p st (esL l p L)++(SB.loop .ready lp::e):=⟨_,rfl⟩
   rw[←hY1]
   refine k_region (zo rfl ze107 ?_)
   refine zt rfl (yj _ _) zAw rfl rfl rfl rfl rfl ?_
   refine zB ?_
   have hYl:Y1.length=st.length+3+1+e.length:=by rw[hY1,List.length_append,zBe,List.length_cons];omega
   refine⟨rfl,?_,?_⟩
   ·show((Y1++[SB.box _]).set Y1.length (SB.box _))[st.length+3]? =_
    rw[yw,hY1];exact wK (at_n (zBe _ _ _ _))
   ·obtain⟨Y2,hY2⟩:∃Y,Y=wyV l p st (esL l p L)++(SB.loop .busy lp::(e++[SB.box [.int .i64 (w:Int),.int .i64 (b:Int)]])):=⟨_,rfl⟩
    have y0:Y2[st.length]? =some (.box (zCi l p)):=by rw[hY2];exact wK (wyV_at _ _ _ _).1
    have y1:Y2[st.length+1]? =some (.map (esL l p L)):=by rw[hY2];exact wK (wyV_at _ _ _ _).2.1
    have y2:Y2[st.length+2]? =some (.box [.mp (st.length+1)]):=by rw[hY2];exact wK (wyV_at _ _ _ _).2.2
    have y4:Y2[Y1.length]? =some (.box [.int .i64 (w:Int),.int .i64 (b:Int)]):=by
     rw[hY2,hYl,show wyV l p st (esL l p L)++(SB.loop .busy lp::(e++[SB.box [.int .i64 (w:Int),.int .i64 (b:Int)]]))=(wyV l p st (esL l p L)++(SB.loop .busy lp::e))++[SB.box [.int .i64 (w:Int),.int .i64 (b:Int)]] by simp]
     rw[List.getElem?_append_right (by rw[List.length_append,zBe,List.length_cons];omega),List.length_append,zBe,List.length_cons,show st.length+3+1+e.length - (st.length+3+(e.length+1))=0 by omega];rfl
    have hset:∀(lq:Lq) (E:List SB),(wyV l p st (esL l p L)++(SB.loop lq lp::E)).set (st.length+1) (.map (setK (esL l p L) (latU (w,b)) (sndU l p (w,b))))=wyV l p st (esL l p (L++[(w,b)]))++(SB.loop lq lp::E):=fun lq E=>by
     rw[List.set_append_left _ _ (by rw[zBe];omega),wyV_set,es2]
    have hin:∀q∈esL l p L,∃x,q=(latU x,sndU l p x):=zCb
    refine zH [(1,.box st.length 0),(3,.box (st.length+2) 0),(4,.box Y1.length 0)] Y2 (.n3 rfl) (by
     show(((Y1++[SB.box _]).set Y1.length (SB.box _)).set (st.length+3) (.loop .busy lp))=_
     rw[yw,hY1,hY2,List.append_assoc,List.cons_append,set_n (zBe _ _ _ _)];rfl) fun fr=>?_
    have hsn:sndU l p (w,b)=.agg (zE (i16 (hrN l p w b p.length))):=rfl
    rw[hsn]at hset
    generalize i16 (hrN l p w b p.length)=S at*
    refine zG (yI [.read true,.read true,.read true,.read true,.read false,.plain] (by kernel_rfl) (by kernel_rfl) (by kernel_rfl) ?_)
    refine zP rfl (zV rfl rfl y2 zFJ rfl (zB rfl)) ?_
    refine zP rfl (yL rfl rfl y4 zAw rfl (zB rfl)) ?_
    refine zP rfl (yL rfl rfl y0 sh75 rfl (zB rfl)) ?_
    refine zP rfl (yL rfl rfl y4 zAw rfl (zB rfl)) ?_
    refine zDm rfl (q83) (zGd S) (.lrefl _) ?_
    refine zD (o_mapUpdate rfl ty136 rfl y1 rfl (zBV hin (w,b)) (zB rfl)) ?_
    refine yu ?_
    refine⟨?_,.inl ⟨rfl,wyV l p st (esL l p (L++[(w,b)])),e++[SB.box [.int .i64 (w:Int),.int .i64 (b:Int)]],rfl,zBe _ _ _ _,bd_e hbe (zBo _ _),?_⟩⟩
    ·show(Y2.set (st.length+1) (.map (setK (esL l p L) (latU (w,b)) (.agg (zE S)))))[st.length+3]? =_
     rw[hY2,hset];exact at_n (zBe _ _ _ _)
    ·show(Y2.set (st.length+1) (.map (setK (esL l p L) (latU (w,b)) (.agg (zE S))))).set (st.length+3) (.loop .ready lp)=_
     rw[hY2,hset,set_n (zBe _ _ _ _)]
 ·rintro L Z rfl _;exact wyV_bd hb zCb
 ·rintro L Z hf;cases hf
 ·rintro Z rfl _
  have y2:=(wyV_at l p st (esL l p (preL 18))).2.2
  show Wp Tryd.prog is orc _ _ _
  refine kQ (zV rfl rfl y2 zFJ rfl ?_)
  refine zC rfl (zB (zY ?_))
  refine⟨.inr rfl,_,.cons _ _ _ _ (.tmp 2) .nil,?_⟩
  exact⟨_,.refl _,rfl,rfl⟩
 ·rintro L r Z _ hf;cases hf
end
end Go.Proofs.YthhbfbmfhldbaaaDoor.locks
