import Derived.Test.YthhbfbmfhldbaaaDoorVamP
set_option linter.unusedVariables false
set_option linter.unusedSimpArgs false
namespace Vam
open Go
variable {Pr:Prt}{φ φ' ψ:BMap}{S S' R:SMap}{s s':St}{tm tm':TT}{H H':CH}{P:Program}{is:FuncId→Bool}{orc:Known}
def flatC(u:U):Bool:=match u with
 | .int _ _=>true
 | .bool _=>true
 | .str _=>true
 |_=>false
def flatK(u:U):Bool:=match u with
 | .agg cs=>cs.all flatC
 |u=>flatC u
def val1(u:U):V:=match u with
 | .int k n=>.int k n
 | .bool b=>.bool b
 | .str s=>.str s
 |_=>undef
noncomputable def valK(u:U):V:=match u with
 | .agg cs=>.agg (ofList (cs.map val1))
 |u=>val1 u
theorem val1_of{v:V}{u:U}(h:VU φ S v u)(hf:flatC u=true):v=val1 u:=by
 cases h<;>first|rfl|cases hf
theorem valL_of{l:List V}{us:List U}(h:LU φ S l us)(hf:us.all flatC=true):l=us.map val1:=by
 induction us generalizing l with
 |nil=>cases h;rfl
 |cons u us ih=>
  cases h with
  |cons x l _ _ h1 h2=>
   simp only[List.all_cons,Bool.and_eq_true]at hf
   rw[val1_of h1 hf.1,ih h2 hf.2];rfl
theorem zFq{v:V}{u:U}(h:VU φ S v u)(hf:flatK u=true):v=valK u:=by
 cases h with
 |agg l cs h1=>show V.agg (ofList l)=_;rw[valL_of h1 hf];rfl
 |int k n=>rfl
 |bool b=>rfl
 |str s=>rfl
 |_=>cases hf
theorem valK_rel{u:U}(hf:flatK u=true):VU φ S (valK u) u:=by
 have one:∀u,flatC u=true→VU φ S (val1 u) u:=by
  intro u h
  cases u<;>first|exact .int _ _|exact .bool _|exact .str _|cases h
 cases u with
 |agg cs=>
  refine .agg _ _ ?_
  have:∀cs:List U,cs.all flatC=true→LU φ S (cs.map val1) cs:=by
   intro cs
   induction cs with
   |nil=>intro _;exact .nil
   |cons c cs ih=>
    intro h
    simp only[List.all_cons,Bool.and_eq_true]at h
    exact .cons _ _ _ _ (one c h.1) (ih h.2)
  exact this cs hf
 |int k n=>exact .int _ _
 |bool b=>exact .bool _
 |str q=>exact .str _
 |_=>cases hf
section ops
variable {all l:List Oper}{d:Nat}{xt yt t:TypeId}{p:String}{e:Array Edge}{Q:St→Prop}{x y:Operand}{u w:U}{a off:Nat}{cs:List U}
theorem zCx{op:BinOp}{b:Bool}(hd:Nat.blt d 1024=true)(hx:zO s x=u)(hy:zO s y=w)(fu:flatK u=true)(fw:flatK w=true)(he:binV P xt op (valK u) (valK w)=some (.bool b))(k:WpO P is orc all l (s.put d (.bool b)) Q):
  WpO P is orc all (⟨some d,.binOp op xt x y yt,t,p,e,none⟩::l) s Q:=by
 refine wM hd (fun w=>rfl) (fun Pr φ S tm H hs=>⟨.bool b,fun E=>?_,.bool b⟩) k
 have h1:=zJ hs x
 have h2:=zJ hs y
 rw[hx]at h1;rw[hy]at h2
 show zh H (binV P xt op (zF tm x) (zF tm y))=_
 rw[zFq h1 fu,zFq h2 fw,he];rfl
open Classical in
noncomputable def getK:List (U×U)→U→Option U
 |[],_=>none
 |p::ps,k=>if p.1=k then some p.2 else getK ps k
open Classical in
noncomputable def setK:List (U×U)→U→U→List (U×U)
 |[],k,v=>[(k,v)]
 |p::ps,k,v=>if p.1=k then(k,v)::ps else p::setK ps k v
theorem getK_setK(ps:List (U×U))(k v j:U)[Decidable (j=k)]:getK (setK ps k v) j=if j=k then some v else getK ps j:=by
 induction ps with
 |nil=>
  unfold setK getK getK
  by_cases h:j=k
  ·subst h;simp
  ·rw[if_neg (fun e=>h e.symm),if_neg h]
 |cons p ps ih=>
  unfold setK
  by_cases h1:p.1=k
  ·rw[if_pos h1]
   by_cases h:j=k
   ·subst h;unfold getK;simp
   ·unfold getK
    rw[if_neg (fun e=>h e.symm),if_neg h,if_neg (fun e=>h (e.symm.trans h1))]
  ·rw[if_neg h1]
   unfold getK
   by_cases h2:p.1=j
   ·rw[if_pos h2,if_pos h2,if_neg (fun e=>h1 (h2.trans e))]
   ·rw[if_neg h2,if_neg h2]
    exact ih
theorem mem_setK{ps:List (U×U)}{k v:U}{q:U×U}(h:q∈setK ps k v):q=(k,v)∨q∈ps:=by
 induction ps with
 |nil=>unfold setK at h;rcases List.mem_singleton.1 h with rfl;exact .inl rfl
 |cons p ps ih=>
  unfold setK at h
  split at h
  ·rcases List.mem_cons.1 h with rfl|h
   ·exact .inl rfl
   ·exact .inr (List.mem_cons_of_mem _ h)
  ·rcases List.mem_cons.1 h with rfl|h
   ·exact .inr List.mem_cons_self
   ·exact(ih h).imp id (List.mem_cons_of_mem _)
def KeyOk(P:Program)(kt:TypeId)(k:U)(ps:List (U×U)):Prop:=flatK k=true∧keyT P kt (valK k)=true∧sameV (valK k) (valK k)=true∧∀p∈ps,flatK p.1=true∧∃b,eqT P kt (valK k) (valK p.1)=some b∧(b=true↔p.1=k)
theorem find_run{kt:TypeId}{k:U}:∀{es:List Ent} {ps:List (U×U)},EntsU φ S es ps→(∀p∈ps,flatK p.1=true∧∃b,eqT P kt (valK k) (valK p.1)=some b∧(b=true↔p.1=k))→∀i,
  (∃j v e x,zCg P kt (valK k) es i=some (some (i+j,valK k,v))∧es[j]? =some e∧ps[j]? =some (k,x)∧v=e.val∧VU φ S v x∧(∀w,yF w x=none)∧getK ps k=some x∧(∀y,setK ps k y=ps.set j (k,y)))∨(zCg P kt (valK k) es i=some none∧getK ps k=none∧∀y,setK ps k y=ps++[(k,y)]):=by
 intro es ps h
 induction h with
 |nil=>intro _ i;exact .inr ⟨rfl,rfl,fun _=>rfl⟩
 |cons e es p ps h1 h2 h3 _ ih=>
  intro hk i
  obtain⟨f1,b,f2,f3⟩:=hk p List.mem_cons_self
  have hkey:=zFq h1 f1
  have hstep:zCg P kt (valK k) (e::es) i=cond b (some (some (i,e.key,e.val))) (zCg P kt (valK k) es (i+1)):=by
   show opt none (fun b=>cond b (some (some (i,e.key,e.val))) (zCg P kt (valK k) es (Nat.succ i))) (eqT P kt (valK k) e.key)=_
   rw[hkey,f2];rfl
  by_cases hb:p.1=k
  ·have hb':=f3.2 hb
   subst hb'
   left
   refine⟨0,e.val,e,p.2,?_,rfl,by rw[←hb];rfl,rfl,h2,h3,?_,fun y=>?_⟩
   ·rw[hstep,hkey,hb];rfl
   ·unfold getK;rw[if_pos hb]
   ·unfold setK;rw[if_pos hb];rfl
  ·have hb':b=false:=by
    cases b with
    |false=>rfl
    |true=>exact absurd (f3.1 rfl) hb
   subst hb'
   rcases ih (fun q hq=>hk q (List.mem_cons_of_mem _ hq)) (i+1)with ⟨j,v,e',x,q1,q2,q3,q4,q5,q6,q7,q8⟩|⟨q1,q2,q3⟩
   ·left
    refine⟨j+1,v,e',x,?_,by simpa using q2,by simpa using q3,q4,q5,q6,?_,fun y=>?_⟩
    ·rw[hstep]
     show zCg P kt (valK k) es (i+1)=_
     rw[q1,show i+1+j=i+(j+1) by omega]
    ·unfold getK;rw[if_neg hb];exact q7
    ·unfold setK;rw[if_neg hb,q8 y];rfl
   ·right
    refine⟨by rw[hstep];exact q1,?_,fun y=>?_⟩
    ·unfold getK;rw[if_neg hb];exact q2
    ·unfold setK;rw[if_neg hb,q3 y];rfl
theorem mp_of{v:V}{a:Nat}(h:VU φ S v (.mp a)):∃b,φ a=some b∧v=.map b:=by cases h with|mp _ b hk=>exact⟨b,hk,rfl⟩
theorem zCJ{kt el:TypeId}{ps:List (U×U)}{key r z:U}{zv:V}{ok:Bool}(hd:Nat.blt d 1024=true)(ht:tyOf P xt=.map kt el)(hx:zO s x=.mp a)(hst:s.st[a]? =some (.map ps))(hy:zO s y=key)(hk:KeyOk P kt key ps)(hz:zeroV P el=some zv)(hzu:uOfV zv=z)(hzn:∀m,zv=.agg m→∃l,m=ofList l)
  (hr:r=match getK ps key with|some u=>cond ok (.tup [u,.bool true]) u|none=>cond ok (.tup [z,.bool false]) z) (k:WpO P is orc all l (s.put d (dg r)) Q):
  WpO P is orc all (⟨some d,.lookup xt x y ok,t,p,e,none⟩::l) s Q:=by
 subst hr
 refine wM hd (fun w=>yP w _) (fun Pr φ S tm H hs=>?_) k
 have h1:=zJ hs x
 have h2:=zJ hs y
 rw[hx]at h1;rw[hy]at h2
 obtain⟨b,g1,g2⟩:=mp_of h1
 obtain⟨b',es,n,q1,q2,q3⟩:=hs.bx a _ hst
 rw[g1]at q1;cases q1
 have hkv:=zFq h2 hk.1
 have hz2:VU φ S zv z:=by
  rw[←hzu]
  unfold uOfV
  split
  ·obtain⟨l,rfl⟩:=hzn _ rfl;exact .agg _ _ (zBH l)
  ·exact uOf_rel _
 have hrun:wc P H xt (zF tm x) (zF tm y) ok=opt (opt none (fun z=>some (zEL ok z false)) (zeroV P el)) (fun iv=>some (zEL ok iv.2.2 true)) ((zCg P kt (valK key) es 0).getD none):=by
  unfold wc
  rw[ht,hkv]
  show cond (keyT P kt (valK key)) _ none=_
  rw[hk.2.1]
  show opt none _ (mapEs H (zF tm x))=_
  rw[g2]
  have:mapEs H (.map b)=some es:=by
   show zGH none (fun es _=>some es) (H.get b)=_
   rw[q2];rfl
  rw[this]
  show opt none (fun r=>opt (opt none (fun z=>some (zEL ok z false)) (zeroV P el)) (fun iv=>some (zEL ok iv.2.2 true)) r) (zCg P kt (valK key) es 0)=_
  rcases find_run q3 hk.2.2.2 0 with ⟨j,v,e',x',w1,_⟩|⟨w1,_⟩<;>rw[w1]<;>rfl
 rcases find_run q3 hk.2.2.2 0 with ⟨j,v,e',x',w1,w2,w3,w4,w5,w6,w7,w8⟩|⟨w1,w2,w3⟩
 ·refine⟨zEL ok v true,fun E=>?_,?_⟩
  ·show zh H (wc P H xt (zF tm x) (zF tm y) ok)=_
   rw[hrun,w1];rfl
  ·rw[w7]
   refine VU.dg ?_
   cases ok with
   |true=>exact .tup _ _ (.cons _ _ _ _ w5 (.cons _ _ _ _ (.bool _) .nil))
   |false=>exact w5
 ·refine⟨zEL ok zv false,fun E=>?_,?_⟩
  ·show zh H (wc P H xt (zF tm x) (zF tm y) ok)=_
   rw[hrun,w1]
   show zh H (opt none (fun z=>some (zEL ok z false)) (zeroV P el))=_
   rw[hz];rfl
  ·rw[w2]
   refine VU.dg ?_
   cases ok with
   |true=>exact .tup [zv,.bool false] _ (.cons _ _ _ _ hz2 (.cons _ _ _ _ (.bool _) .nil))
   |false=>exact hz2
theorem setEnt_run{es:List Ent}{ps:List (U×U)}(h:EntsU φ S es ps):∀{j:Nat} {e:Ent} {v:V} {x k:U},es[j]? =some e→VU φ S (valK k) k→VU φ S v x→(∀w,yF w x=none)→EntsU φ S (zCp (valK k) v es j) (ps.set j (k,x)):=by
 induction h with
 |nil=>intro j e v x k h;simp at h
 |cons e es p ps h1 h2 h3 h4 ih=>
  intro j e' v x k hj hk hv hx
  cases j with
  |zero=>exact .cons _ _ _ _ hk hv hx h4
  |succ j=>exact .cons _ _ _ _ h1 h2 h3 (ih (by simpa using hj) hk hv hx)
theorem EntsU.snoc{es:List Ent}{ps:List (U×U)}(h:EntsU φ S es ps){e:Ent}{p:U×U}(h1:VU φ S e.key p.1)(h2:VU φ S e.val p.2)(h3:∀v,yF v p.2=none):EntsU φ S (es++[e]) (ps++[p]):=by
 induction h with
 |nil=>exact .cons _ _ _ _ h1 h2 h3 .nil
 |cons e' es p' ps a b c _ ih=>exact .cons _ _ _ _ a b c ih
def St.setS(s:St)(a:Nat)(x:SB):St:=⟨s.fr,[],s.st.set a x⟩
theorem o_mapUpdate{kt el:TypeId}{ps:List (U×U)}{key:U}{v:Operand}{dst:Option Nat}(hd:wX 1024 dst=true)(ht:tyOf P xt=.map kt el)(hx:zO s x=.mp a)(hst:s.st[a]? =some (.map ps))(hy:zO s y=key)(hk:KeyOk P kt key ps)
  (k:WpO P is orc all l ((s.setS a (.map (setK ps key (dg (zO s v))))).dst dst .junk) Q):
  WpO P is orc all (⟨dst,.mapUpdate xt x y v,t,p,e,none⟩::l) s Q:=by
 refine o_op (R:=fun u s1=>u=.junk∧s1=s.setS a (.map (setK ps key (dg (zO s v))))) hd ?_ fun u s1 h=>by obtain⟨rfl,rfl⟩:=h;exact k
 intro Pr φ S tm H hs
 have h1:=zJ hs x
 have h2:=zJ hs y
 have h3:=(zJ hs v).dg
 rw[hx]at h1;rw[hy]at h2
 obtain⟨b,g1,g2⟩:=mp_of h1
 obtain⟨b',es,n,q1,q2,q3⟩:=hs.bx a _ hst
 rw[g1]at q1;cases q1
 have hkv:=zFq h2 hk.1
 obtain⟨es',n',r1,r2⟩:∃es' n',(∀H',H.set b (.map es' n')=some H'→wF P xt H (zF tm x) (zF tm y) (zF tm v)=some H')∧EntsU φ S es' (setK ps key (dg (zO s v))):=by
  have hrun:∀o,zCg P kt (valK key) es 0=some o→wF P xt H (zF tm x) (zF tm y) (zF tm v)=opt (H.set b (.map (es++[⟨valK key,zF tm v,n⟩]) (Nat.succ n))) (fun iv=>cond (sameV iv.2.1 (valK key)) (H.set b (.map (zCp (valK key) (zF tm v) es iv.1) n)) none) o:=by
   intro o ho
   unfold wF
   rw[ht,hkv,g2]
   show cond (keyT P kt (valK key)) (zGH none (mapSet P kt H b (valK key) (zF tm v)) (H.get b)) none=_
   rw[hk.2.1,q2]
   show opt none _ (zCg P kt (valK key) es 0)=_
   rw[ho];rfl
  rcases find_run q3 hk.2.2.2 0 with ⟨j,w,e',x',w1,w2,w3,w4,w5,w6,w7,w8⟩|⟨w1,w2,w3⟩
  ·refine⟨zCp (valK key) (zF tm v) es j,n,fun H' hH=>?_,by rw[w8];exact setEnt_run q3 w2 (valK_rel hk.1) h3 (fun w=>yP w _)⟩
   rw[hrun _ w1]
   show cond (sameV (valK key) (valK key)) (H.set b (.map (zCp (valK key) (zF tm v) es (0+j)) n)) none=_
   rw[hk.2.2.1,Nat.zero_add];exact hH
  ·refine⟨es++[⟨valK key,zF tm v,n⟩],n+1,fun H' hH=>?_,by rw[w3];exact q3.snoc (valK_rel hk.1) h3 (fun w=>yP w _)⟩
   rw[hrun _ w1];exact hH
 obtain⟨H',u1,u2,u3,_⟩:=hs.updS (k1:=.map es' n') hst (x':=.map (setK ps key (dg (zO s v)))) trivial trivial g1 q2 (fun _ _ _ _ h=>by cases h) (fun _ h=>by cases h) .map fun H' hg=>⟨b,es',n',g1,hg,r2⟩
 refine⟨undef,.junk,_,H',φ,S,⟨0,fun n _=>?_⟩,u2,φ.le_refl,S.le_refl,u3,.junk _,NewOk.none rfl,rfl,rfl⟩
 show zDu (wF P xt H (zF tm x) (zF tm y) (zF tm v))=_
 rw[r1 H' u1];rfl
end ops
end Vam
namespace Vam
open Go
variable {Pr:Prt}{φ φ' ψ:BMap}{S S' R:SMap}{s s':St}{tm tm':TT}{H H':CH}{P:Program}{is:FuncId→Bool}{orc:Known}
noncomputable def St.frz(s:St)(a:Nat)(cs:List U):St:=⟨s.fr,zEH (fun p=> !(p.2.isCell a)) s.al,s.st.set a (.froz (cs.map dg))⟩
theorem SR.freeze(hs:SR Pr φ S s tm H){a:Nat}{cs:List U}(hst:s.st[a]? =some (.box cs)){b:Id}(hφ:φ a=some b){m:List V}{e:TypeId}(hg:H.get b=some (.cells (ofList m) e 0 []))(hm:LU φ S m cs):
  SR Pr φ (S.with b m) (s.frz a cs) tm H∧S.le (S.with b m):=by
 obtain⟨d1,d2,d3,d4⟩:=hs.dom a b hφ
 have hnone:S b=none:=by
  cases h:S b with
  |none=>rfl
  |some l=>
   obtain⟨cs',hc⟩:=(hs.mem b l h).2.2.1 a hφ
   rw[hst]at hc;cases hc
 have hle:=SMap.le_with m hnone
 have hfr:∀(a':Nat),(∃cs,s.st[a']? =some (SB.froz cs))→∃cs',(s.st.set a (.froz (cs.map dg)))[a']? =some (SB.froz cs'):=by
  rintro a' ⟨cs',hc⟩
  have hne':a'≠a:=by rintro rfl;rw[hst]at hc;cases hc
  exact⟨cs',by rw[List.getElem?_set_ne (Ne.symm hne')];exact hc⟩
 have key:∀lo v u,At φ (s.frz a cs) tm H lo v u→At φ s tm H lo v u:=by
  intro lo v u ha
  cases ha with
  |slot i hi=>exact .slot i hi
  |cell c o b' cs' l e _ _ q1 q2 q3 q4 q5=>
   have q1:(s.st.set a (.froz (cs.map dg)))[c]? =some (.box cs'):=q1
   have ec:c≠a:=by rintro rfl;rw[List.getElem?_set_self d3]at q1;cases q1
   rw[List.getElem?_set_ne (Ne.symm ec)]at q1
   exact .cell c o b' cs' l e _ _ q1 q2 q3 q4 q5
 refine⟨⟨hs.nok,hs.fzn,fun i hi=>(hs.fr i hi).mono φ.le_refl hle,?_,?_,hs.inj,?_,fun lo v u c ha hc=>hs.own lo v u c (key _ _ _ ha) hc,fun lo lo' v u v' u' c ha ha' hc hc'=>hs.excl lo lo' v u v' u' c (key _ _ _ ha) (key _ _ _ ha') hc hc',?_,?_,?_⟩,hle⟩
 ·intro c x hx
  have hx:(s.st.set a (.froz (cs.map dg)))[c]? =some x:=hx
  by_cases ec:c=a
  ·subst ec
   rw[List.getElem?_set_self d3]at hx
   cases hx
   exact⟨b,m,hφ,SMap.with_self _ _ _,(LU.dgs hm).mono φ.le_refl hle⟩
  ·rw[List.getElem?_set_ne (Ne.symm ec)]at hx
   exact(hs.bx c x hx).move φ.le_refl hle fun _ _=>rfl
 ·intro c b' hc
  obtain⟨q1,q2,q3,q4⟩:=hs.dom c b' hc
  exact⟨q1,q2,by show c<(s.st.set a _).length;simpa using q3,q4⟩
 ·intro c l hc
  unfold SMap.with at hc
  split at hc
  ·rename_i ec;subst ec;cases hc
   refine⟨d1,d2,fun a' ha'=>?_,.inl ⟨e,0,[],hg,by decide⟩⟩
   have:=hs.inj a' a c ha' hφ
   subst this
   exact⟨_,by show(s.st.set a' _)[a']? =_;rw[List.getElem?_set_self d3]⟩
  ·obtain⟨q1,q2,q3,q4⟩:=hs.mem c l hc
   exact⟨q1,q2,fun a' ha'=>hfr a' (q3 a' ha'),q4⟩
 ·intro p hp
  have hp:p∈zEH (fun p=> !(p.2.isCell a)) s.al:=hp
  rw[zGV]at hp
  obtain⟨p1,p2⟩:=List.mem_filter.1 hp
  obtain⟨q1,v,u,q2,q3⟩:=hs.ali p p1
  refine⟨q1,v,u,?_,q3⟩
  cases hlo:p.2 with
  |slot i=>rw[hlo]at q2;cases q2 with|slot _ hi=>exact .slot i hi
  |cell c o=>
   rw[hlo]at q2
   have ec:c≠a:=by rintro rfl;rw[hlo]at p2;simp[Lo.isCell]at p2
   cases q2 with
   |cell _ _ b' cs2 l2 e2 _ _ k1 k2 k3 k4 k5=>exact .cell c o b' cs2 l2 e2 _ _ (by show(s.st.set a _)[c]? =_;rw[List.getElem?_set_ne (Ne.symm ec)];exact k1) k2 k3 k4 k5
 ·intro c hc
  obtain⟨q1,q2,q3,q4⟩:=hs.prot c hc
  exact⟨q1,q2,fun a' ha'=>hfr a' (q3 a' ha'),fun lo v u ha=>q4 lo v u (key _ _ _ ha)⟩
 ·intro c hc
  obtain⟨q1,q2⟩:=hs.pnew c hc
  refine⟨q1,?_⟩
  unfold SMap.with
  rw[if_neg];exact q2
  rintro rfl;exact hs.pnew_ne hc a hφ
section ops
variable {all l:List Oper}{d:Nat}{xt t t':TypeId}{p:String}{e:Array Edge}{Q:St→Prop}{x:Operand}{u:U}{a off:Nat}{cs es:List U}
def natO(s:St)(o:Option Operand)(d l:Nat):Prop:=match o with
 |none=>l=d
 |some x=>∃k,zO s x=.int k (l:Int)
theorem natO_run(hs:SR Pr φ S s tm H){o:Option Operand}{d l:Nat}(h:natO s o d l):(o=none∧l=d)∨∃x k,o=some x∧zZ tm o=some (.int k (l:Int)):=by
 cases o with
 |none=>exact .inl ⟨rfl,h⟩
 |some x=>
  obtain⟨k,h⟩:=h
  have h1:=zJ hs x
  rw[h]at h1
  exact .inr ⟨x,k,rfl,by show some (zF tm x)=_;rw[zBL h1]⟩
theorem bounds_run(hs:SR Pr φ S s tm H){lo hi mx:Option Operand}{n l h m:Nat}(hm:natO s mx n m)(hh:natO s hi n h)(hl:natO s lo 0 l)(h3:mx=none∨hi≠none)(h0:l≤h)(h1:h≤m)(h2:m≤n):
  opt (some n) (sliceB n) (zZ tm mx)=some m∧zCE n m (zZ tm lo) (zZ tm hi) (zZ tm mx)=some (l,h):=by
 have lo1:opt (some 0) (sliceB h) (zZ tm lo)=some l:=by
  rcases natO_run hs hl with ⟨rfl,rfl⟩|⟨x,k,rfl,e⟩
  ·rfl
  ·rw[e]
   show cond (Nat.ble l h) (some l) none=_
   rw[show Nat.ble l h=true by rw[Nat.ble_eq];exact h0];rfl
 have hi1:opt (opt (some n) (fun _=>none) (zZ tm mx)) (sliceB m) (zZ tm hi)=some h:=by
  rcases natO_run hs hh with ⟨rfl,rfl⟩|⟨x,k,rfl,e⟩
  ·rcases h3 with rfl|h3
   ·rfl
   ·exact absurd rfl h3
  ·rw[e]
   show cond (Nat.ble h m) (some h) none=_
   rw[show Nat.ble h m=true by rw[Nat.ble_eq];exact h1];rfl
 refine⟨?_,?_⟩
 ·rcases natO_run hs hm with ⟨rfl,rfl⟩|⟨x,k,rfl,e⟩
  ·rfl
  ·rw[e]
   show cond (Nat.ble m n) (some m) none=_
   rw[show Nat.ble m n=true by rw[Nat.ble_eq];exact h2];rfl
 ·show opt none (fun h=>opt none (fun l=>some (l,h)) (opt (some 0) (sliceB h) (zZ tm lo))) (opt (opt (some n) (fun _=>none) (zZ tm mx)) (sliceB m) (zZ tm hi))=_
  rw[hi1]
  show opt none (fun l=>some (l,h)) (opt (some 0) (sliceB h) (zZ tm lo))=_
  rw[lo1];rfl
theorem o_sliceA{lo hi mx:Option Operand}{el:TypeId}{n c l1 h1 m1:Nat}(hd:Nat.blt d 1024=true)(ht:tyOf P xt=.array n el)(hc:P.cellsOf el=c)(h0:Nat.blt 0 c=true)(hx:zO s x=.box a off)(hb:s.st[a]? =some (.box cs))(hbig:Nat.ble (off+n*c) cs.length=true)
  (hm:natO s mx n m1) (hh:natO s hi n h1) (hl:natO s lo 0 l1) (hn:mx=none∨hi≠none) (b0:l1≤h1) (b1:h1≤m1) (b2:m1≤n) (hes:yC es=((cs.map dg).drop (off+l1*c)).take ((h1 - l1)*c)) (hez:∀e∈es,(za e).length=c) (hel:es.length=h1 - l1)
  (k:WpO P is orc all l ((s.frz a cs).put d (.lst .ro c es)) Q):WpO P is orc all (⟨some d,.slice xt x lo hi mx,t,p,e,none⟩::l) s Q:=by
 have hbig:=Nat.le_of_ble_eq_true hbig
 have h0:=yY h0
 refine o_op (R:=fun u s1=>u=.lst .ro c es∧s1=s.frz a cs) hd ?_ fun u s1 h=>by obtain⟨rfl,rfl⟩:=h;exact k
 intro Pr φ S tm H hs
 have g1:=zJ hs x
 rw[hx]at g1
 obtain⟨b,g2,g3⟩:=zCA g1
 obtain⟨b',m,ty,q1,q2,q3⟩:=hs.box a cs hb
 rw[g2]at q1;cases q1
 obtain⟨f1,f2⟩:=hs.freeze hb g2 q2 q3
 obtain⟨r1,r2⟩:=bounds_run hs hm hh hl hn b0 b1 b2
 have hrun:zBr P xt (zF tm x) (zZ tm lo) (zZ tm hi) (zZ tm mx)=zAa c b off m1 true l1 h1:=by
  unfold zBr
  rw[ht,g3]
  show cond (zFA b) none (zFV (P.cellsOf el) n (zZ tm lo) (zZ tm hi) (zZ tm mx) b off)=_
  rw[zGX (hs.dom a b g2).1]
  show zFV (P.cellsOf el) n (zZ tm lo) (zZ tm hi) (zZ tm mx) b off=_
  unfold zFV
  rw[r1,hc]
  show opt none (fun lh=>zAa c b off m1 true lh.1 lh.2) (zCE n m1 (zZ tm lo) (zZ tm hi) (zZ tm mx))=_
  rw[r2];rfl
 have hmul:l1*c+(h1 - l1)*c≤n*c:=by
  rw[←Nat.add_mul];exact Nat.mul_le_mul_right _ (by omega)
 have hmlen:m.length=cs.length:=q3.len
 have hL:LU φ (S.with b m) (((m.drop (off+l1*c)).take ((h1 - l1)*c))) (yC es):=by
  rw[hes]
  exact((LU.dgs (LU.drop (q3.mono φ.le_refl f2) (off+l1*c))).take _ |> fun h=>by rwa [List.map_drop]at h)
 obtain⟨v,hv1,hv2⟩:∃v,zAa c b off m1 true l1 h1=some v∧VU φ (S.with b m) v (.lst .ro c es):=by
  unfold zAa
  by_cases e1:m1=l1
  ·subst e1
   have:h1=m1:=by omega
   subst this
   rw[Nat.beq_refl]
   refine⟨_,rfl,?_⟩
   have he:es=[]:=by rw[Nat.sub_self]at hel;exact List.length_eq_zero_iff.1 hel
   subst he
   refine .slice b off (h1 - h1) (capX 0) c m [] (m.drop off) .ro [] (SMap.with_self _ _ _) (by simp) .nil (by simp) (by simp) ⟨by omega,by rw[Nat.sub_self];exact Nat.zero_le _,trivial⟩ h0
  ·rw[beq_ne e1]
   refine⟨_,rfl,?_⟩
   refine .slice b (off+l1*c) (h1 - l1) (capX (m1 - l1)) c m _ ((m.drop (off+l1*c)).drop ((h1 - l1)*c)) .ro es (SMap.with_self _ _ _) (List.take_append_drop _ _).symm hL hez hel ⟨by omega,?_,trivial⟩ h0
   show h1 - l1≤(2*(m1 - l1)+1) / 2
   omega
 refine⟨v,_,_,H,φ,S.with b m,⟨0,fun n _=>?_⟩,f1,φ.le_refl,f2,Kept.refl _ _,hv2,NewOk.none rfl,rfl,rfl⟩
 show zh H (zBr P xt (zF tm x) (zZ tm lo) (zZ tm hi) (zZ tm mx))=_
 rw[hrun,hv1];rfl
end ops
end Vam
namespace Vam
open Go
variable {Pr:Prt}{φ φ' ψ:BMap}{S S' R:SMap}{s s':St}{tm tm':TT}{H H':CH}{P:Program}{is:FuncId→Bool}{orc:Known}
def ApartS(s:St)(p:Nat×Nat):Prop:=∃a o a' o' cs,s.slot p.1=.box a o∧s.slot p.2=.box a' o'∧a≠a'∧s.st[a]? =some (.box cs)
theorem apart_run(hs:SR Pr φ S s tm H){p:Nat×Nat}(h:ApartS s p):zDE tm H p=true:=by
 obtain⟨a,o,a',o',cs,h1,h2,h3,h4⟩:=h
 have g1:=zJ hs (.tmp p.1)
 have g2:=zJ hs (.tmp p.2)
 rw[show zO s (.tmp p.1)=_ from h1]at g1
 rw[show zO s (.tmp p.2)=_ from h2]at g2
 obtain⟨b,k1,k2⟩:=zCA g1
 obtain⟨c,k3,k4⟩:=zCA g2
 obtain⟨b',l,e,q1,q2,_⟩:=hs.box a cs h4
 rw[k1]at q1;cases q1
 have hne:b.num≠c.num:=fun e=>h3 (hs.inj a a' b k1 (by rw[Id.wf_inj (hs.dom a b k1).1 (hs.dom a' c k3).1 e];exact k3))
 show wV false (fun b _=>wV false (fun c _=>cond (Nat.beq b.num c.num) false (zu false (fun _ _ st _=>Nat.beq st 0) (H.get b))) (tm.get p.2)) (tm.get p.1)=true
 rw[show tm.get p.1=_ from k2,show tm.get p.2=_ from k4]
 show cond (Nat.beq b.num c.num) false (zu false (fun _ _ st _=>Nat.beq st 0) (H.get b))=true
 rw[beq_ne hne,q2];rfl
theorem k_drawA{i:Nat}{ops:Array Oper}(ms:List M0)(ds:List (Nat×Nat)){Q:Ex→St→Prop}(hm:drawn P ops.toList=zipM ops.toList ms)(hd:zAd ops.toList=ds)(hp:preOk P (zipM ops.toList ms)=true)
  (h:WpD P is orc ops.toList (zipM ops.toList ms) s fun s'=>(∀p∈ds,ApartS s' p)∧Q .normal {s' with al:=[]}):Wp P is orc (.region i ops true) s Q:=by
 intro Pr φ S tm H dfs ro fn hs ho hr
 obtain⟨m,H1,r1,r2,r3,r4,r5⟩:=resv_run (P:=P) _ hs.nok hs.fzn hp
 obtain⟨g1,g2⟩:=hs.grow (r3 S)
 have hfresh:∀i∈pend m,S i=none:=by
  intro i hi
  cases hS:S i with
  |none=>rfl
  |some l=>exact absurd (hs.mem i l hS).2.1 (r5 i hi).2.1
 have hout:∀i∈pend m, ¬ Pr i:=fun i hi hpi=>(r5 i hi).2.1 (hs.prot i hpi).2.1
 have hs1:SR (Pr.and (pend m)) φ S s tm H1:=by
  refine⟨g1.nok,g1.fzn,g1.fr,g1.bx,g1.dom,g1.inj,g1.mem,g1.own,g1.excl,g1.ali,?_,?_⟩
  ·intro b hb
   rcases hb with hb|hb
   ·exact g1.prot b hb
   ·obtain⟨w1,w2,w3,w4⟩:=r5 b hb
    refine⟨w1,w3,fun a ha=>absurd (hs.dom a b ha).2.1 w2,fun lo v u ha he=>?_⟩
    obtain⟨x,hx⟩:=own_S (ha.vu g1) he
    rw[hfresh b hb]at hx;cases hx
  ·intro b hb
   refine⟨(Pr.and (pend m)).s b hb,?_⟩
   rcases hb with hb|hb
   ·exact(hs.pnew b hb).2
   ·exact hfresh b hb
 obtain⟨s2,tm2,H2,φ2,S2,⟨n2,k1⟩,k2,k3,k4,k5,k6,k7⟩:=h Pr φ S tm H1 m r2 ⟨r4,fun i hi=>by rw[g2.fz];exact(r5 i hi).2.2.2,hout,fun i hi hoi=>(r5 i hi).2.1 (ho i hoi).2⟩ hs1
 refine⟨.normal,[],{s2 with al:=[]},tm2,H2,φ2,S2,⟨.nil _ _ _,n2+1,fun n hn=>?_⟩,k2.noAl,k3,k4,g2.trans k5,k7⟩
 cases n with
 |zero=>omega
 |succ n=>
  show zBn dfs (RS.rec (motive:=fun _=>RO) .no (fun l H=>zDZ (zAd ops.toList) (wP P (zL true P is orc n) ops.toList l tm H)) (resv P (drawn P ops.toList) H))=_
  rw[hm,r1]
  show zBn dfs (zDZ (zAd ops.toList) (wP P (zL true P is orc n) ops.toList m tm H1))=_
  rw[hd,k1 n (by omega)]
  have key:∀ds:List (Nat×Nat),(∀p∈ds,ApartS s2 p)→zDZ ds (.ok tm2 H2)=.ok tm2 H2:=by
   intro ds
   induction ds with
   |nil=>intro _;rfl
   |cons p ds ih=>
    intro hk
    show cond (zDE tm2 H2 p) (zDZ ds (.ok tm2 H2)) .no=_
    rw[apart_run k2 (hk p List.mem_cons_self)]
    exact ih fun q hq=>hk q (List.mem_cons_of_mem _ hq)
  rw[key ds k6];rfl
theorem zBU{all l:List Oper}{d:Nat}{x y:Operand}{xt t el:TypeId}{p:String}{e:Array Edge}{Q:St→Prop}{cs:List U}{u:U}{n c:Nat}{ki:IntKind}{i:Int}(hd:Nat.blt d 1024=true)(ht:tyOf P xt=.array n el)(hx:zO s x=.agg cs)(hi:zO s y=.int ki i)(h0:0≤i)(he:i<n)
  (hc:P.cellsOf el=c) (hsh:shOf P el=.one) (hu:cs[i.toNat*c]? =some u) (k:WpO P is orc all l (s.put d (dg u)) Q):WpO P is orc all (⟨some d,.index xt x y,t,p,e,none⟩::l) s Q:=by
 refine wM hd (fun w=>yP w u) (fun Pr φ S tm H hs=>?_) k
 have h1:=zJ hs x
 rw[hx]at h1
 obtain⟨m,g1,g2⟩:=zFG h1
 have h2:=zJ hs y
 rw[hi]at h2
 have h2:=zBL h2
 obtain⟨j,rfl⟩:∃j:Nat,i=j:=⟨i.toNat,by omega⟩
 obtain⟨v,h4,h5⟩:=g2.get hu
 refine⟨v,fun E=>?_,h5.dg⟩
 show zCX P xt (zF tm x) (zF tm y) H=_
 unfold zCX
 rw[ht,g1,h2]
 show cond (Nat.ble (Nat.succ j) n) (zh H (zAr P el (ofList m) (Nat.mul j (P.cellsOf el)))) .no=_
 rw[show Nat.ble (Nat.succ j) n=true by rw[Nat.ble_eq];omega,hc]
 show zh H (zAr P el (ofList m) (j*c))=_
 rw[part_one hsh (by simpa using h4)];rfl
theorem zH{c:Code}{Q:Ex→St→Prop}(l:List (Nat×U))(st:List SB)(h1:Holds s l)(h2:s.st=st)(k:∀fr:Nat→U,Wp P is orc c ⟨fun j=>zBj l j (fr j),[],st⟩ Q):Wp P is orc c s Q:=by
 rw[h1.eq]
 subst h2
 exact k s.fr
theorem SR.forget(h:SR Pr φ S s tm H){fr:Nat→U}(hfr:∀i,fr i=s.fr i∨fr i=.junk):SR Pr φ S ⟨fr,[],s.st⟩ tm H:=by
 have key:∀lo v u,At φ ⟨fr,[],s.st⟩ tm H lo v u→At φ s tm H lo v u∨yF v u=none:=by
  intro lo v u ha
  cases ha with
  |slot i hi=>
   rcases hfr i with e|e
   ·show At φ s tm H (.slot i) (tm.get i) (fr i)∨_
    rw[e];exact .inl (.slot i hi)
   ·right
    show yF _ (fr i)=none
    rw[e];rfl
  |cell a o b cs l e _ _ h1 h2 h3 h4 h5=>exact .inl (.cell a o b cs l e _ _ h1 h2 h3 h4 h5)
 refine⟨h.nok,h.fzn,fun i hi=>?_,h.bx,h.dom,h.inj,h.mem,?_,?_,fun p hp=>(by cases hp),?_,h.pnew⟩
 ·rcases hfr i with e|e
  ·show VU φ S _ (fr i);rw[e];exact h.fr i hi
  ·show VU φ S _ (fr i);rw[e];exact .junk _
 ·intro lo v u b ha hb
  rcases key _ _ _ ha with ha|hq
  ·exact h.own lo v u b ha hb
  ·rw[hq]at hb;cases hb
 ·intro lo lo' v u v' u' b ha ha' hb hb'
  rcases key _ _ _ ha with ha|hq
  ·rcases key _ _ _ ha' with ha'|hq
   ·exact h.excl lo lo' v u v' u' b ha ha' hb hb'
   ·rw[hq]at hb';cases hb'
  ·rw[hq]at hb;cases hb
 ·intro b hb
  obtain⟨q1,q2,q3,q4⟩:=h.prot b hb
  refine⟨q1,q2,q3,fun lo v u ha=>?_⟩
  rcases key _ _ _ ha with ha|hq
  ·exact q4 lo v u ha
  ·rw[hq];simp
theorem zEI{c:Code}{Q:Ex→St→Prop}(l:List (Nat×U))(st:List SB)(h1:Holds s l)(h2:s.st=st)(k:Wp P is orc c ⟨fun j=>zBj l j .junk,[],st⟩ Q):Wp P is orc c s Q:=by
 intro Pr φ S tm H ds ro fn hs ho hr
 refine k Pr φ S tm H ds ro fn ?_ ho hr
 rw[←h2]
 refine hs.forget fun i=>?_
 have key:∀l:List (Nat×U),(∀p∈l,s.fr p.1=p.2)→zBj l i .junk=s.fr i∨zBj l i .junk=.junk:=by
  intro l
  induction l with
  |nil=>intro _;exact .inr rfl
  |cons p l ih=>
   intro hp
   obtain⟨j,u⟩:=p
   show cond (Nat.beq i j) u (zBj l i .junk)=_∨cond (Nat.beq i j) u (zBj l i .junk)=_
   by_cases e:i=j
   ·subst e
    rw[Nat.beq_refl]
    exact .inl (hp (i,u) List.mem_cons_self).symm
   ·rw[beq_ne e]
    exact ih fun q hq=>hp q (List.mem_cons_of_mem _ hq)
 exact key l h1.2
end Vam
namespace Vam
open Go
variable {Pr:Prt}{φ φ' ψ:BMap}{S S' R:SMap}{s s':St}{tm tm':TT}{H H':CH}{P:Program}{is:FuncId→Bool}{orc:Known}
theorem VU.undef:VU φ S undef (.tup []):=UR.tup [] [] .nil
theorem own_undef:yF undef (.tup [])=none:=rfl
theorem undef_of{v:V}(h:VU φ S v (.tup [])):v=undef:=by
 cases h with
 |tup l us h=>cases h;rfl
theorem zEV{all:List Oper}{g:Nat}{want:Bool}{og:Oper}{j:Nat}{c:Bool}(hs:SR Pr φ S s tm H)(hg:nthO all g=some og)(hj:og.dst=some j)(hc:s.slot j=.bool c):zBg all tm (g,want)=bEq c want:=by
 have hv:=zJ hs (.tmp j)
 rw[show zO s (.tmp j)=.bool c from hc]at hv
 have hv:tm.get j=.bool c:=zDC hv
 show opt false (fun b=>bEq b want) (opt none (fun o=>opt none (fun d=>ye none (fun b=>some b) (tm.get d)) (dstOf o)) (nthO all g))=_
 rw[hg]
 show opt false (fun b=>bEq b want) (opt none (fun d=>ye none (fun b=>some b) (tm.get d)) og.dst)=_
 rw[hj]
 show opt false (fun b=>bEq b want) (ye none (fun b=>some b) (tm.get j))=_
 rw[hv];rfl
theorem want_dead{all:List Oper}{g:Nat}{want:Bool}{og:Oper}{j:Nat}(hs:SR Pr φ S s tm H)(hg:nthO all g=some og)(hj:og.dst=some j)(hc:s.slot j=.tup []):zBg all tm (g,want)=false:=by
 have hv:=zJ hs (.tmp j)
 rw[show zO s (.tmp j)=.tup []from hc]at hv
 have hv:tm.get j=undef:=undef_of hv
 show opt false (fun b=>bEq b want) (opt none (fun o=>opt none (fun d=>ye none (fun b=>some b) (tm.get d)) (dstOf o)) (nthO all g))=_
 rw[hg]
 show opt false (fun b=>bEq b want) (opt none (fun d=>ye none (fun b=>some b) (tm.get d)) og.dst)=_
 rw[hj]
 show opt false (fun b=>bEq b want) (ye none (fun b=>some b) (tm.get j))=_
 rw[hv];rfl
theorem o_left{all l:List Oper}{dst:Option Nat}{o:Op}{t:TypeId}{p:String}{a:Array Edge}{g:Nat}{want:Bool}{Q:St→Prop}(hd:wX 1024 dst=true)(hw:∀Pr φ S tm H,SR Pr φ S s tm H→zBg all tm (g,want)=false)
  (h2:WpO P is orc all l (s.dst dst (.tup [])) Q):WpO P is orc all (⟨dst,o,t,p,a,some (g,want)⟩::l) s Q:=by
 intro Pr φ S tm H hs
 obtain⟨s2,tm2,H2,φ2,S2,⟨n2,k1⟩,k2⟩:=h2 Pr φ S _ H (wT hs hd VU.undef (NewOk.none own_undef))
 refine⟨s2,tm2,H2,φ2,S2,⟨n2,fun n hn=>?_⟩,k2⟩
 show opsIf P (zL true P is orc n) dst o tm H (zAp P (zL true P is orc n) all l) (zBg all tm (g,want))=_
 rw[hw _ _ _ _ _ hs]
 exact k1 n hn
theorem o_guardX{all l:List Oper}{dst:Option Nat}{o:Op}{t:TypeId}{p:String}{a:Array Edge}{g:Nat}{want:Bool}{og:Oper}{j:Nat}{c:Bool}{Q:St→Prop}(hd:wX 1024 dst=true)
  (hg:nthO all g=some og) (hj:og.dst=some j) (hc:s.slot j=.bool c)
  (h1:c=want→WpO P is orc all (⟨dst,o,t,p,a,none⟩::l) s Q) (h2:c= !want→WpO P is orc all l (s.dst dst (.tup [])) Q):WpO P is orc all (⟨dst,o,t,p,a,some (g,want)⟩::l) s Q:=by
 by_cases e:c=want
 ·exact o_guard hd hg hj hc h1 fun h=>by cases c<;>cases want<;>cases e<;>cases h
 ·have e':c= !want:=by cases c<;>cases want<;>simp_all
  refine o_left hd (fun Pr φ S tm H hs=>?_) (h2 e')
  rw[zEV hs hg hj hc];subst e';cases want<;>rfl
theorem zAO{all l:List Oper}{dst:Option Nat}{o:Op}{t:TypeId}{p:String}{a:Array Edge}{g:Nat}{want:Bool}{og:Oper}{j:Nat}{Q:St→Prop}(hd:wX 1024 dst=true)
  (hg:nthO all g=some og) (hj:og.dst=some j) (hc:s.slot j=.tup []) (h2:WpO P is orc all l (s.dst dst (.tup [])) Q):WpO P is orc all (⟨dst,o,t,p,a,some (g,want)⟩::l) s Q:=
 o_left hd (fun _ _ _ _ _ hs=>want_dead hs hg hj hc) h2
theorem d_left{all:List Oper}{dst:Option Nat}{o:Op}{t:TypeId}{p:String}{a:Array Edge}{m0:M0}{l:List (Oper×M0)}{g:Nat}{want:Bool}{Q:St→Prop}(hd:wX 1024 dst=true)
  (hw:∀Pr φ S tm H,SR Pr φ S s tm H→zBg all tm (g,want)=false) (h2:WpD P is orc all l (s.dst dst (.tup [])) Q):WpD P is orc all ((⟨dst,o,t,p,a,some (g,want)⟩,m0)::l) s Q:=by
 intro Pr φ S tm H m hm hp hs
 obtain⟨md,m',rfl,hm2⟩:∃md m',m=(⟨dst,o,t,p,a,some (g,want)⟩,md)::m'∧Mt P H l m':=by
  cases hm with
  |plain _ _ m hm=>exact⟨_,m,rfl,hm⟩
  |quiet _ _ m hm=>exact⟨_,m,rfl,hm⟩
  |read _ ld _ m hm=>exact⟨_,m,rfl,hm⟩
  |pre _ i x _ m q1 q2 hm=>exact⟨_,m,rfl,hm⟩
  |lay _ i _ m hm=>exact⟨_,m,rfl,hm⟩
 have hw:zBf all tm (some (g,want))=false:=hw _ _ _ _ _ hs
 have hin:∀b,b∈pend m'→b∈pend ((⟨dst,o,t,p,a,some (g,want)⟩,md)::m'):=by
  intro b hb
  cases hmd:mdId md with
  |none=>simpa[pend,hmd]using hb
  |some i=>simp only[pend,List.filterMap_cons,hmd];exact List.mem_cons_of_mem _ hb
 have hnd:(pend m').Nodup:=by
  have:=hp.nodup
  cases hmd:mdId md with
  |none=>simpa[pend,hmd]using this
  |some i=>simp only[pend,List.filterMap_cons,hmd]at this;exact(List.nodup_cons.1 this).2
 have hs':SR (Pr.and (pend m')) φ S s tm H:=hs.weaken (fun b hb=>hb.imp id (hin b)) fun b hb=>by
  obtain⟨q1,q2⟩:=hs.pnew b (hb.imp id (hin b))
  rcases hb with hb|hb
  ·exact⟨.inl (Pr.s b hb),q2⟩
  ·exact⟨.inr hb,q2⟩
 refine zEQ ⟨0,fun n hn=>?_⟩ φ.le_refl S.le_refl (Kept.refl _ _) hm2 ⟨hnd,fun i hi=>hp.ok i (hin i hi),fun i hi=>hp.out i (hin i hi),fun i hi=>hp.odd i (hin i hi)⟩ (wT hs' hd VU.undef (NewOk.none own_undef)) h2
 show cond (zBf all tm (some (g,want))) (yy dst tm (zAq P (zL true P is orc n) tm H md o)) (.ok (setT tm dst undef) H)=_
 rw[hw];rfl
theorem d_guardX{all:List Oper}{dst:Option Nat}{o:Op}{t:TypeId}{p:String}{a:Array Edge}{m0:M0}{l:List (Oper×M0)}{g:Nat}{want:Bool}{og:Oper}{j:Nat}{c:Bool}{Q:St→Prop}(hd:wX 1024 dst=true)
  (hg:nthO all g=some og) (hj:og.dst=some j) (hc:s.slot j=.bool c)
  (h1:c=want→WpD P is orc all ((⟨dst,o,t,p,a,none⟩,m0)::l) s Q) (h2:c= !want→WpD P is orc all l (s.dst dst (.tup [])) Q):WpD P is orc all ((⟨dst,o,t,p,a,some (g,want)⟩,m0)::l) s Q:=by
 by_cases e:c=want
 ·exact d_guard hd hg hj hc h1 fun h=>by cases c<;>cases want<;>cases e<;>cases h
 ·have e':c= !want:=by cases c<;>cases want<;>simp_all
  refine d_left hd (fun Pr φ S tm H hs=>?_) (h2 e')
  rw[zEV hs hg hj hc];subst e';cases want<;>rfl
end Vam
namespace Vam
open Go
variable {s:St}{P:Program}{is:FuncId→Bool}{orc:Known}
section short
variable {all l:List Oper}{dst:Option Nat}{o:Op}{t:TypeId}{p:String}{a:Array Edge}{g:Nat}{want:Bool}{og:Oper}{j:Nat}{c:Bool}{Q:St→Prop}
theorem o_gD(hd:wX 1024 dst=true)(hg:nthO all g=some og)(hj:og.dst=some j)(hc:s.slot j=.bool c)(e:c=want)(h1:WpO P is orc all (⟨dst,o,t,p,a,none⟩::l) s Q):WpO P is orc all (⟨dst,o,t,p,a,some (g,want)⟩::l) s Q:=
 o_guard hd hg hj hc (fun _=>h1) fun h=>by cases c<;>cases want<;>cases e<;>cases h
theorem o_gS(hd:wX 1024 dst=true)(hg:nthO all g=some og)(hj:og.dst=some j)(hc:s.slot j=.bool c)(e:c= !want)(h2:WpO P is orc all l (s.dst dst (.tup [])) Q):WpO P is orc all (⟨dst,o,t,p,a,some (g,want)⟩::l) s Q:=
 o_guardX hd hg hj hc (fun h=>by cases c<;>cases want<;>cases e<;>cases h) fun _=>h2
variable {m0:M0}{m:List (Oper×M0)}
theorem d_gD(hd:wX 1024 dst=true)(hg:nthO all g=some og)(hj:og.dst=some j)(hc:s.slot j=.bool c)(e:c=want)(h1:WpD P is orc all ((⟨dst,o,t,p,a,none⟩,m0)::m) s Q):WpD P is orc all ((⟨dst,o,t,p,a,some (g,want)⟩,m0)::m) s Q:=
 d_guard hd hg hj hc (fun _=>h1) fun h=>by cases c<;>cases want<;>cases e<;>cases h
theorem d_gS(hd:wX 1024 dst=true)(hg:nthO all g=some og)(hj:og.dst=some j)(hc:s.slot j=.bool c)(e:c= !want)(h2:WpD P is orc all m (s.dst dst (.tup [])) Q):WpD P is orc all ((⟨dst,o,t,p,a,some (g,want)⟩,m0)::m) s Q:=
 d_guardX hd hg hj hc (fun h=>by cases c<;>cases want<;>cases e<;>cases h) fun _=>h2
end short
theorem k_cT{x:Operand}{a b:Code}{c:Bool}{Q:Ex→St→Prop}(hx:zO s x=.bool c)(e:c=true)(h:Wp P is orc a s Q):Wp P is orc (.cond x a b) s Q:=k_cond hx (fun _=>h) fun h'=>by rw[e]at h';cases h'
theorem k_cF{x:Operand}{a b:Code}{c:Bool}{Q:Ex→St→Prop}(hx:zO s x=.bool c)(e:c=false)(h:Wp P is orc b s Q):Wp P is orc (.cond x a b) s Q:=k_cond hx (fun h'=>by rw[e]at h';cases h') fun _=>h
end Vam
namespace Vam
open Go
variable {s:St}{P:Program}{is:FuncId→Bool}{orc:Known}
section shifts
variable {all l:List Oper}{d:Nat}{x y:Operand}{xt yt t:TypeId}{p:String}{e:Array Edge}{a b:Int}{Q:St→Prop}
theorem kwrap64{n:Int}(h:0≤n∧n≤9223372036854775807):IntKind.i64.wrap n=n:=by
 have e:n % (2 ^ IntKind.i64.bits:Int)=n:=Int.emod_eq_of_lt h.1 (by show n<18446744073709551616;omega)
 have e2: ¬ (n ≥ (2 ^ (IntKind.i64.bits - 1):Int)):=by show ¬ (n ≥ 9223372036854775808);omega
 unfold IntKind.wrap
 simp only[e]
 rw[if_neg (by simp only[Bool.and_eq_true,decide_eq_true_eq];exact fun h=>e2 h.2)]
theorem o_shr{ky:IntKind}(hd:Nat.blt d 1024=true)(hx:zO s x=.int .i64 a)(hy:zO s y=.int ky b)(hb:0≤b∧b≤64)(hk:WpO P is orc all l (s.put d (.int .i64 (a.fdiv (2 ^ b.toNat)))) Q):WpO P is orc all (⟨some d,.binOp .shr xt x y yt,t,p,e,none⟩::l) s Q:=
 zDh hd hx hy (v:=.int .i64 (a.fdiv (2 ^ b.toNat))) (by
  obtain⟨n,rfl⟩:∃n:Nat,b=n:=⟨b.toNat,by omega⟩
  show some (V.int .i64 (a.fdiv (2 ^ (min n IntKind.i64.bits))))=_
  rw[show min n IntKind.i64.bits=n by show min n 64=n;omega];rfl) rfl hk
theorem zDL(hd:Nat.blt d 1024=true)(hx:zO s x=.int .i64 a)(hy:zO s y=.int .i64 1)(ha:0≤a∧a≤9223372036854775807)(hk:WpO P is orc all l (s.put d (.int .i64 (a % 2))) Q):WpO P is orc all (⟨some d,.binOp .and xt x y yt,t,p,e,none⟩::l) s Q:=
 zDh hd hx hy (v:=.int .i64 (a % 2)) (by
  obtain⟨n,rfl⟩:∃n:Nat,a=n:=⟨a.toNat,by omega⟩
  have hb:((BitVec.ofInt 64 (n:Int)) &&& (BitVec.ofInt 64 1)).toNat=n % 2:=by
   rw[BitVec.toNat_and]
   have e1:(BitVec.ofInt 64 (n:Int)).toNat=n:=by
    rw[BitVec.toNat_ofInt];omega
   have e2:(BitVec.ofInt 64 1).toNat=1:=rfl
   rw[e1,e2,Nat.and_one_is_mod]
  show some (V.int .i64 (IntKind.i64.wrap ((BitVec.ofInt 64 (n:Int)) &&& (BitVec.ofInt 64 1)).toNat))=_
  rw[hb,kwrap64 (by omega)]
  congr 2) rfl hk
end shifts
end Vam
namespace Vam
open Go
variable {Pr:Prt}{φ φ' ψ:BMap}{S S' R:SMap}{s s':St}{tm tm':TT}{H H':CH}{P:Program}{is:FuncId→Bool}{orc:Known}
end Vam
namespace Vam
open Go
variable {P:Program}{is:FuncId→Bool}{orc:Known}
section calls
variable {s:St}{all l:List Oper}{d:Option Nat}{g:FuncId}{xs:Array Operand}{ts:Array TypeId}{t:TypeId}{p:String}{e:Array Edge}{args:List U}{M:U→List SB→Prop}{Q:St→Prop}
end calls
end Vam
namespace Vam
open Go
variable {P:Program}{is:FuncId→Bool}{orc:Known}{s:St}
theorem St.byList{l:List (Nat×U)}(h:Holds ⟨s.fr,[],s.st⟩ l):s=⟨fun j=>zBj l j (s.fr j),s.al,s.st⟩:=by
 have:=congrArg St.fr h.eq
 cases s with
 |mk fr al st=>
  have e:fr=fun j=>zBj l j (fr j):=this
  show St.mk fr al st=St.mk (fun j=>zBj l j (fr j)) al st
  rw[←e]
theorem zT{all m:List Oper}{Q:St→Prop}(l:List (Nat×U))(al:List (Nat×Lo))(st:List SB)(h1:Holds ⟨s.fr,[],s.st⟩ l)(h2:s.st=st)(h3:s.al=al)(k:∀fr:Nat→U,WpO P is orc all m ⟨fun j=>zBj l j (fr j),al,st⟩ Q):WpO P is orc all m s Q:=by
 rw[St.byList h1]
 subst h2;subst h3
 exact k s.fr
theorem wA{all:List Oper}{m:List (Oper×M0)}{Q:St→Prop}(l:List (Nat×U))(al:List (Nat×Lo))(st:List SB)(h1:Holds ⟨s.fr,[],s.st⟩ l)(h2:s.st=st)(h3:s.al=al)(k:∀fr:Nat→U,WpD P is orc all m ⟨fun j=>zBj l j (fr j),al,st⟩ Q):WpD P is orc all m s Q:=by
 rw[St.byList h1]
 subst h2;subst h3
 exact k s.fr
section slices
variable {Pr:Prt}{φ:BMap}{S:SMap}{tm:TT}{H:CH}{all l:List Oper}{d:Nat}{x:Operand}{xt t:TypeId}{p:String}{e:Array Edge}{Q:St→Prop}{es:List U}
end slices
end Vam
namespace Vam
open Go
variable {Pr:Prt}{φ φ' ψ:BMap}{S S' R:SMap}{s s':St}{tm tm':TT}{H H':CH}{P:Program}{is:FuncId→Bool}{orc:Known}
section ops
variable {all l:List Oper}{d:Nat}{x y:Operand}{t t' t1 t2 xt el:TypeId}{p:String}{e:Array Edge}{a off n c bb z zy len:Nat}{cs es xs ys:List U}{u:U}{Q:St→Prop}{zv:V}{ky:Kd}
end ops
theorem SR.slotcong(hs:SR Pr φ S s tm H)(h:∀i,i<1024→tm.get i=tm'.get i):SR Pr φ S s tm' H:=by
 have key:∀lo v u,At φ s tm' H lo v u→At φ s tm H lo v u:=by
  intro lo v u ha
  cases ha with
  |slot i hi=>rw[←h i hi];exact .slot i hi
  |cell a o b cs l e v u q1 q2 q3 q4 q5=>exact .cell a o b cs l e v u q1 q2 q3 q4 q5
 have key':∀lo v u,At φ s tm H lo v u→At φ s tm' H lo v u:=by
  intro lo v u ha
  cases ha with
  |slot i hi=>rw[h i hi];exact .slot i hi
  |cell a o b cs l e v u q1 q2 q3 q4 q5=>exact .cell a o b cs l e v u q1 q2 q3 q4 q5
 exact⟨hs.nok,hs.fzn,fun i hi=>by rw[←h i hi];exact hs.fr i hi,hs.bx,hs.dom,hs.inj,hs.mem,fun lo v u b ha=>hs.own lo v u b (key _ _ _ ha),fun lo lo' v u v' u' b ha ha'=>hs.excl lo lo' v u v' u' b (key _ _ _ ha) (key _ _ _ ha'),
  fun p hp=>by obtain⟨h3,w,x,h4,h5⟩:=hs.ali p hp;exact⟨h3,w,x,key' _ _ _ h4,by rw[←h _ h3];exact h5⟩,
  fun b hb=>by obtain⟨p1,p2,p3,p4⟩:=hs.prot b hb;exact⟨p1,p2,p3,fun lo w x ha=>p4 lo w x (key _ _ _ ha)⟩,hs.pnew⟩
end Vam
namespace Vam
open Go
variable {Pr:Prt}{φ φ' ψ:BMap}{S S' R:SMap}{s s':St}{tm tm':TT}{H H':CH}{P:Program}{is:FuncId→Bool}{orc:Known}
theorem d_callVQ{all:List Oper}{l:List (Oper×M0)}{d:Option Nat}{g:FuncId}{xs:Array Operand}{ts:Array TypeId}{t:TypeId}{p:String}{e:Array Edge}{args A B:List U}{r:U}{Q:St→Prop}{x:Nat}
  (hd:wX 1024 d=true) (hx:s.slot x=.fn g A B) (hr:RetP P is orc g args r) (hle:UW (.l (A++(zDB s xs.toList++B))) (.l args)) (k:WpD P is orc all l (s.dst d (dg r)) Q):
  WpD P is orc all ((⟨d,.call ⟨.value (.tmp x),xs,ts⟩,t,p,e,none⟩,.quiet)::l) s Q:=by
 intro Pr φ S tm H m0 hm hp hs
 cases hm with
 |quiet _ _ m hm=>
  have e0:pend ((⟨d,.call ⟨.value (.tmp x),xs,ts⟩,t,p,e,none⟩,Md.quiet)::m)=pend m:=rfl
  rw[e0]at hp hs
  have hv:=zJ hs (.tmp x)
  rw[show zO s (.tmp x)=_ from hx]at hv
  generalize hq:zF tm (.tmp x)=w at hv
  cases hv with
  |fn _ VA VB _ _ a1 a2=>
   have hl:=UW.vu (LU.append a1 (LU.append (wG hs xs.toList) a2)) hle
   have hl0:LU φ0 S (VA++(xs.toList.map (zF tm)++VB)) args:=zDa hl fun v u hu hv=>hr.dat u hu _ _ _ hv
   have hmo:MemOk S H.freeze:=⟨by rw[yg];exact hs.nok,fun b l hb=>by rw[yg,zBF];exact hs.memOk.mem b l hb⟩
   obtain⟨n0,v,H',S',h1,h2,h3⟩:=hr.run S H.freeze _ hmo (by rw[zEK,yg];exact Nat.le_of_eq (Id.top_num hs.nok)) hl0
   have hg:Grow2 S H S' (H'.thaw H.fz):=by
    refine⟨by rw[zCl];exact h2.nok,by rw[thaw_fz],by rw[zCl];have:=h2.num;rwa [yg]at this,fun b hb=>by rw[zCl];exact h2.bef b (by rw[yg];exact hb),fun b hw hb=>by rw[zAv,h2.get b hw (by rw[yg];exact hb),zBF],h2.le,fun b l q1 q2=>?_⟩
    obtain⟨w1,w2,w3,w4⟩:=h2.new b l q1 q2
    rw[yg]at w2
    exact⟨w1,w2,by rw[zCl];exact w3,by rw[zAv];exact w4⟩
   obtain⟨g1,g2⟩:=hs.grow hg
   refine zEQ ⟨n0,fun n hn=>?_⟩ φ.le_refl hg.le (g2.weaken (fun b hb=>.inl hb) fun _ h=>h) (hm.keep fun i hi=>g2.get i (.inr hi)) ⟨hp.nodup,fun i hi=>by rw[g2.fz];exact hp.ok i hi,hp.out,hp.odd⟩
    (wT g1 hd (VU.dg (h3.mono (ψ:=φ) (fun a b h=>by cases h) S'.le_refl)) (NewOk.none (yP _ _))) k
   show yy d tm (zGr H.fz (zDl (zL true P is orc n) (tm.get x) (yD tm xs.toList) H.freeze))=_
   rw[show tm.get x=_ from hq]
   show yy d tm (zGr H.fz ((zL true P is orc n).call g (appV (ofList VA) (appV (yD tm xs.toList) (ofList VB))) H.freeze))=_
   rw[zAc,zBN,zBN,h1 n hn];rfl
theorem o_idxN{all l:List Oper}{d:Nat}{x y:Operand}{xt t el:TypeId}{p:String}{e:Array Edge}{Q:St→Prop}{cs:List U}{n c:Nat}{ki:IntKind}{i:Nat}(hd:Nat.blt d 1024=true)(ht:tyOf P xt=.array n el)(hx:zO s x=.agg cs)(hi:zO s y=.int ki (i:Int))(he:i<n)
  (hc:P.cellsOf el=c) (hsh:shOf P el=.many c) (hu:i*c+c≤cs.length) (k:WpO P is orc all l (s.put d (.agg ((cs.drop (i*c)).take c))) Q):WpO P is orc all (⟨some d,.index xt x y,t,p,e,none⟩::l) s Q:=by
 refine wM hd (fun w=>rfl) (fun Pr φ S tm H hs=>?_) k
 have h1:=zJ hs x
 rw[hx]at h1
 obtain⟨m,g1,g2⟩:=zFG h1
 have h2:=zJ hs y
 rw[hi]at h2
 have h2:=zBL h2
 refine⟨.agg (ofList ((m.drop (i*c)).take c)),fun E=>?_,.agg _ _ ((g2.drop (i*c)).take c)⟩
 show zCX P xt (zF tm x) (zF tm y) H=_
 unfold zCX
 rw[ht,g1,h2]
 show cond (Nat.ble (Nat.succ i) n) (zh H (zAr P el (ofList m) (Nat.mul i (P.cellsOf el)))) .no=_
 rw[show Nat.ble (Nat.succ i) n=true by rw[Nat.ble_eq];omega,hc]
 show zh H (zAr P el (ofList m) (i*c))=_
 rw[part_many hsh (by rw[g2.len];exact hu)];rfl
theorem wm{all l:List Oper}{d:Option Nat}{g:FuncId}{xs:Array Operand}{ts:Array TypeId}{t:TypeId}{p:String}{e:Array Edge}{args A B:List U}{r:U}{Q:St→Prop}{x:Nat}(hd:wX 1024 d=true)(hx:s.slot x=.fn g A B)(hr:RetP P is orc g args r)
  (hle:UW (.l (A++(zDB s xs.toList++B))) (.l args)) (k:WpO P is orc all l (s.dst d (dg r)) Q):WpO P is orc all (⟨d,.call ⟨.value (.tmp x),xs,ts⟩,t,p,e,none⟩::l) s Q:=by
 refine o_op (R:=fun u s1=>u=dg r∧s1=s) hd ?_ fun u s1 h=>by obtain⟨rfl,rfl⟩:=h;exact k
 intro Pr φ S tm H hs
 have hv:=zJ hs (.tmp x)
 rw[show zO s (.tmp x)=_ from hx]at hv
 generalize hq:zF tm (.tmp x)=w at hv
 cases hv with
 |fn _ VA VB _ _ a1 a2=>
  have hl:=UW.vu (LU.append a1 (LU.append (wG hs xs.toList) a2)) hle
  have hl0:LU φ0 S (VA++(xs.toList.map (zF tm)++VB)) args:=zDa hl fun v u hu hv=>hr.dat u hu _ _ _ hv
  obtain⟨n0,v,H',S',h1,h2,h3⟩:=hr.run S H _ hs.memOk hs.fzn hl0
  obtain⟨g1,g2⟩:=hs.grow h2
  refine⟨v,_,s,H',φ,S',⟨n0,fun n hn=>?_⟩,g1,φ.le_refl,h2.le,g2,?_,NewOk.none (yP _ _),rfl,rfl⟩
  ·show zDl (zL true P is orc n) (tm.get x) (yD tm xs.toList) H=_
   rw[show tm.get x=_ from hq]
   show(zL true P is orc n).call g (appV (ofList VA) (appV (yD tm xs.toList) (ofList VB))) H=_
   rw[zAc,zBN,zBN];exact h1 n hn
  ·exact VU.dg (h3.mono (ψ:=φ) (fun a b h=>by cases h) S'.le_refl)
end Vam
namespace Vam
open Go
variable {Pr:Prt}{φ φ' ψ:BMap}{S S' R:SMap}{s s':St}{tm tm':TT}{H H':CH}{P:Program}{is:FuncId→Bool}{orc:Known}
section ops
variable {all l:List Oper}{d:Nat}{x y:Operand}{t xt t1 t2 el:TypeId}{p:String}{e:Array Edge}{a off n c z:Nat}{cs es:List U}{Q:St→Prop}{kd:Kd}
end ops
end Vam
namespace Vam
open Go
variable {Pr:Prt}{φ φ' ψ:BMap}{S S' R:SMap}{s s':St}{tm tm':TT}{H H':CH}{P:Program}{is:FuncId→Bool}{orc:Known}
section ops
variable {all l:List Oper}{d:Nat}{x:Operand}{t xt:TypeId}{p:String}{e:Array Edge}{es:List U}{Q:St→Prop}
end ops
end Vam
namespace Vam
open Go
variable {Pr:Prt}{φ φ' ψ:BMap}{S S' R:SMap}{s s':St}{tm tm':TT}{H H':CH}{P:Program}{is:FuncId→Bool}{orc:Known}
section ops
variable {all l:List Oper}{d:Nat}{x y:Operand}{t t' t1 t2 xt el:TypeId}{p:String}{e:Array Edge}{a off n c bb z zy len:Nat}{cs es xs ys:List U}{u:U}{Q:St→Prop}{zv:V}{ky:Kd}
end ops
end Vam
namespace Vam
open Go
variable {s:St}{P:Program}{is:FuncId→Bool}{orc:Known}
theorem o_shlOne{all l:List Oper}{d:Nat}{x y:Operand}{xt yt t:TypeId}{p:String}{e:Array Edge}{Q:St→Prop}{ky:IntKind}{n:Nat}(hd:Nat.blt d 1024=true)(hx:zO s x=.int .i64 1)(hy:zO s y=.int ky (n:Int))(hn:n≤62)(hk:WpO P is orc all l (s.put d (.int .i64 (2 ^ n))) Q):
  WpO P is orc all (⟨some d,.binOp .shl xt x y yt,t,p,e,none⟩::l) s Q:=
 zDh hd hx hy (v:=.int .i64 (2 ^ n)) (by
  have h1:(2:Int) ^ n≤2 ^ 62:=by
   have:=Nat.pow_le_pow_right (n:=2) (by decide) hn
   exact_mod_cast this
  have h2:(0:Int)≤2 ^ n:=Int.le_of_lt (Int.pow_pos (by decide))
  show some (V.int .i64 (IntKind.i64.wrap (1*2 ^ (min n IntKind.i64.bits))))=_
  rw[show min n IntKind.i64.bits=n by show min n 64=n;omega,Int.one_mul,kwrap64 ⟨h2,by omega⟩]) rfl hk
end Vam
namespace Vam
open Go
variable {s:St}{P:Program}{is:FuncId→Bool}{orc:Known}
theorem o_weak{all l:List Oper}{Q:St→Prop}(d:Nat){u:U}(hd:Nat.blt d 1024=true)(hn:∀v,yF v u=none)(hu:UW (.u (s.fr d)) (.u u))(k:WpO P is orc all l (s.put d u) Q):WpO P is orc all l s Q:=by
 intro Pr φ S tm H hs
 have hd:=yY hd
 have h1:=hs.put' hd (UW.vu (hs.fr d hd) hu) (hn _)
 exact k Pr φ S tm H (h1.slotcong fun i hi=>by rw[TT.get_set _ _ _ _ hd hi];split<;>simp_all)
end Vam
