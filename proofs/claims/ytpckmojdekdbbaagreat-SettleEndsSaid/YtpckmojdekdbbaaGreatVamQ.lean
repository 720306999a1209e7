import Derived.Test.YtpckmojdekdbbaaGreatVamP
set_option linter.unusedVariables false
set_option linter.unusedSimpArgs false
namespace Vam
open Go
variable {Pr:Prt}{φ φ' ψ:BMap}{S S' R:SMap}{s s':St}{tm tm':TT}{H H':CH}{P:Program}{is:FuncId→Bool}{orc:Known}
def flatC(u:U):Bool:=match u with
 | .int _ _=>true
 | .bool _=>true
 | .str _=>true
 |_=>false
def flatK(u:U):Bool:=match u with
 | .agg cs=>cs.all flatC
 |u=>flatC u
def val1(u:U):V:=match u with
 | .int k n=>.int k n
 | .bool b=>.bool b
 | .str s=>.str s
 |_=>undef
noncomputable def valK(u:U):V:=match u with
 | .agg cs=>.agg (zF (cs.map val1))
 |u=>val1 u
theorem val1_of{v:V}{u:U}(h:VU φ S v u)(hf:flatC u=true):v=val1 u:=by
 cases h<;>first|rfl|cases hf
theorem valL_of{l:List V}{us:List U}(h:LU φ S l us)(hf:us.all flatC=true):l=us.map val1:=by
 induction us generalizing l with
 |nil=>cases h;rfl
 |cons u us ih=>
  cases h with
  |cons x l _ _ h1 h2=>
   simp only[List.all_cons,Bool.and_eq_true]at hf
   rw[val1_of h1 hf.1,ih h2 hf.2];rfl
theorem zGL{v:V}{u:U}(h:VU φ S v u)(hf:flatK u=true):v=valK u:=by
 cases h with
 |agg l cs h1=>show V.agg (zF l)=_;rw[valL_of h1 hf];rfl
 |int k n=>rfl
 |bool b=>rfl
 |str s=>rfl
 |_=>cases hf
theorem valK_rel{u:U}(hf:flatK u=true):VU φ S (valK u) u:=by
 have one:∀u,flatC u=true→VU φ S (val1 u) u:=by
  intro u h
  cases u<;>first|exact .int _ _|exact .bool _|exact .str _|cases h
 cases u with
 |agg cs=>
  refine .agg _ _ ?_
  have:∀cs:List U,cs.all flatC=true→LU φ S (cs.map val1) cs:=by
   intro cs
   induction cs with
   |nil=>intro _;exact .nil
   |cons c cs ih=>
    intro h
    simp only[List.all_cons,Bool.and_eq_true]at h
    exact .cons _ _ _ _ (one c h.1) (ih h.2)
  exact this cs hf
 |int k n=>exact .int _ _
 |bool b=>exact .bool _
 |str q=>exact .str _
 |_=>cases hf
section ops
variable {all l:List Oper}{d:Nat}{xt yt t:TypeId}{p:String}{e:Array Edge}{Q:St→Prop}{x y:Operand}{u w:U}{a off:Nat}{cs:List U}
theorem o_binK{op:BinOp}{b:Bool}(hd:Nat.blt d 1024=true)(hx:zQ s x=u)(hy:zQ s y=w)(fu:flatK u=true)(fw:flatK w=true)(he:binV P xt op (valK u) (valK w)=some (.bool b))(k:WpO P is orc all l (s.put d (.bool b)) Q):
  WpO P is orc all (⟨some d,.binOp op xt x y yt,t,p,e,none⟩::l) s Q:=by
 refine wm hd (fun w=>rfl) (fun Pr φ S tm H hs=>⟨.bool b,fun E=>?_,.bool b⟩) k
 have h1:=zK hs x
 have h2:=zK hs y
 rw[hx]at h1;rw[hy]at h2
 show zt H (binV P xt op (zG tm x) (zG tm y))=_
 rw[zGL h1 fu,zGL h2 fw,he];rfl
open Classical in
noncomputable def getK:List (U×U)→U→Option U
 |[],_=>none
 |p::ps,k=>if p.1=k then some p.2 else getK ps k
open Classical in
noncomputable def setK:List (U×U)→U→U→List (U×U)
 |[],k,v=>[(k,v)]
 |p::ps,k,v=>if p.1=k then(k,v)::ps else p::setK ps k v
theorem getK_setK(ps:List (U×U))(k v j:U)[Decidable (j=k)]:getK (setK ps k v) j=if j=k then some v else getK ps j:=by
 induction ps with
 |nil=>
  unfold setK getK getK
  by_cases h:j=k
  ·subst h;simp
  ·rw[if_neg (fun e=>h e.symm),if_neg h]
 |cons p ps ih=>
  unfold setK
  by_cases h1:p.1=k
  ·rw[if_pos h1]
   by_cases h:j=k
   ·subst h;unfold getK;simp
   ·unfold getK
    rw[if_neg (fun e=>h e.symm),if_neg h,if_neg (fun e=>h (e.symm.trans h1))]
  ·rw[if_neg h1]
   unfold getK
   by_cases h2:p.1=j
   ·rw[if_pos h2,if_pos h2,if_neg (fun e=>h1 (h2.trans e))]
   ·rw[if_neg h2,if_neg h2]
    exact ih
theorem mem_setK{ps:List (U×U)}{k v:U}{q:U×U}(h:q∈setK ps k v):q=(k,v)∨q∈ps:=by
 induction ps with
 |nil=>unfold setK at h;rcases List.mem_singleton.1 h with rfl;exact .inl rfl
 |cons p ps ih=>
  unfold setK at h
  split at h
  ·rcases List.mem_cons.1 h with rfl|h
   ·exact .inl rfl
   ·exact .inr (List.mem_cons_of_mem _ h)
  ·rcases List.mem_cons.1 h with rfl|h
   ·exact .inr List.mem_cons_self
   ·exact(ih h).imp id (List.mem_cons_of_mem _)
def KeyOk(P:Program)(kt:TypeId)(k:U)(ps:List (U×U)):Prop:=flatK k=true∧keyT P kt (valK k)=true∧sameV (valK k) (valK k)=true∧∀p∈ps,flatK p.1=true∧∃b,eqT P kt (valK k) (valK p.1)=some b∧(b=true↔p.1=k)
theorem find_run{kt:TypeId}{k:U}:∀{es:List Ent} {ps:List (U×U)},EntsU φ S es ps→(∀p∈ps,flatK p.1=true∧∃b,eqT P kt (valK k) (valK p.1)=some b∧(b=true↔p.1=k))→∀i,
  (∃j v e x,zCq P kt (valK k) es i=some (some (i+j,valK k,v))∧es[j]? =some e∧ps[j]? =some (k,x)∧v=e.val∧VU φ S v x∧(∀w,yU w x=none)∧getK ps k=some x∧(∀y,setK ps k y=ps.set j (k,y)))∨(zCq P kt (valK k) es i=some none∧getK ps k=none∧∀y,setK ps k y=ps++[(k,y)]):=by
 intro es ps h
 induction h with
 |nil=>intro _ i;exact .inr ⟨rfl,rfl,fun _=>rfl⟩
 |cons e es p ps h1 h2 h3 _ ih=>
  intro hk i
  obtain⟨f1,b,f2,f3⟩:=hk p List.mem_cons_self
  have hkey:=zGL h1 f1
  have hstep:zCq P kt (valK k) (e::es) i=cond b (some (some (i,e.key,e.val))) (zCq P kt (valK k) es (i+1)):=by
   show opt none (fun b=>cond b (some (some (i,e.key,e.val))) (zCq P kt (valK k) es (Nat.succ i))) (eqT P kt (valK k) e.key)=_
   rw[hkey,f2];rfl
  by_cases hb:p.1=k
  ·have hb':=f3.2 hb
   subst hb'
   left
   refine⟨0,e.val,e,p.2,?_,rfl,by rw[←hb];rfl,rfl,h2,h3,?_,fun y=>?_⟩
   ·rw[hstep,hkey,hb];rfl
   ·unfold getK;rw[if_pos hb]
   ·unfold setK;rw[if_pos hb];rfl
  ·have hb':b=false:=by
    cases b with
    |false=>rfl
    |true=>exact absurd (f3.1 rfl) hb
   subst hb'
   rcases ih (fun q hq=>hk q (List.mem_cons_of_mem _ hq)) (i+1)with ⟨j,v,e',x,q1,q2,q3,q4,q5,q6,q7,q8⟩|⟨q1,q2,q3⟩
   ·left
    refine⟨j+1,v,e',x,?_,by simpa using q2,by simpa using q3,q4,q5,q6,?_,fun y=>?_⟩
    ·rw[hstep]
     show zCq P kt (valK k) es (i+1)=_
     rw[q1,show i+1+j=i+(j+1) by omega]
    ·unfold getK;rw[if_neg hb];exact q7
    ·unfold setK;rw[if_neg hb,q8 y];rfl
   ·right
    refine⟨by rw[hstep];exact q1,?_,fun y=>?_⟩
    ·unfold getK;rw[if_neg hb];exact q2
    ·unfold setK;rw[if_neg hb,q3 y];rfl
theorem mp_of{v:V}{a:Nat}(h:VU φ S v (.mp a)):∃b,φ a=some b∧v=.map b:=by cases h with|mp _ b hk=>exact⟨b,hk,rfl⟩
theorem o_lookupE{kt el:TypeId}{ps:List (U×U)}{key r z:U}{zv:V}{ok:Bool}(hd:Nat.blt d 1024=true)(ht:tyOf P xt=.map kt el)(hx:zQ s x=.mp a)(hst:s.st[a]? =some (.map ps)∨s.st[a]? =some (.fmap ps))(hy:zQ s y=key)(hk:KeyOk P kt key ps)(hz:zHI P el=some zv)(hzu:uOfV zv=z)(hzn:∀m,zv=.agg m→∃l,m=zF l)
  (hr:r=match getK ps key with|some u=>cond ok (.tup [u,.bool true]) u|none=>cond ok (.tup [z,.bool false]) z) (k:WpO P is orc all l (s.put d (dg r)) Q):
  WpO P is orc all (⟨some d,.lookup xt x y ok,t,p,e,none⟩::l) s Q:=by
 subst hr
 refine wm hd (fun w=>yk w _) (fun Pr φ S tm H hs=>?_) k
 have h1:=zK hs x
 have h2:=zK hs y
 rw[hx]at h1;rw[hy]at h2
 obtain⟨b,g1,g2⟩:=mp_of h1
 obtain⟨b',es,n,q1,q2,q3⟩:∃b ents n,φ a=some b∧H.get b=some (.map ents n)∧EntsU φ S ents ps:=by
  rcases hst with hst|hst
  ·exact hs.bx a _ hst
  ·exact hs.bx a _ hst
 rw[g1]at q1;cases q1
 have hkv:=zGL h2 hk.1
 have hz2:VU φ S zv z:=by
  rw[←hzu]
  unfold uOfV
  split
  ·obtain⟨l,rfl⟩:=hzn _ rfl;exact .agg _ _ (zCs l)
  ·exact uOf_rel _
 have hrun:wn P H xt (zG tm x) (zG tm y) ok=opt (opt none (fun z=>some (zEb ok z false)) (zHI P el)) (fun iv=>some (zEb ok iv.2.2 true)) ((zCq P kt (valK key) es 0).getD none):=by
  unfold wn
  rw[ht,hkv]
  show cond (keyT P kt (valK key)) _ none=_
  rw[hk.2.1]
  show opt none _ (mapEs H (zG tm x))=_
  rw[g2]
  have:mapEs H (.map b)=some es:=by
   show zGe none (fun es _=>some es) (H.get b)=_
   rw[q2];rfl
  rw[this]
  show opt none (fun r=>opt (opt none (fun z=>some (zEb ok z false)) (zHI P el)) (fun iv=>some (zEb ok iv.2.2 true)) r) (zCq P kt (valK key) es 0)=_
  rcases find_run q3 hk.2.2.2 0 with ⟨j,v,e',x',w1,_⟩|⟨w1,_⟩<;>rw[w1]<;>rfl
 rcases find_run q3 hk.2.2.2 0 with ⟨j,v,e',x',w1,w2,w3,w4,w5,w6,w7,w8⟩|⟨w1,w2,w3⟩
 ·refine⟨zEb ok v true,fun E=>?_,?_⟩
  ·show zt H (wn P H xt (zG tm x) (zG tm y) ok)=_
   rw[hrun,w1];rfl
  ·rw[w7]
   refine VU.dg ?_
   cases ok with
   |true=>exact .tup _ _ (.cons _ _ _ _ w5 (.cons _ _ _ _ (.bool _) .nil))
   |false=>exact w5
 ·refine⟨zEb ok zv false,fun E=>?_,?_⟩
  ·show zt H (wn P H xt (zG tm x) (zG tm y) ok)=_
   rw[hrun,w1]
   show zt H (opt none (fun z=>some (zEb ok z false)) (zHI P el))=_
   rw[hz];rfl
  ·rw[w2]
   refine VU.dg ?_
   cases ok with
   |true=>exact .tup [zv,.bool false] _ (.cons _ _ _ _ hz2 (.cons _ _ _ _ (.bool _) .nil))
   |false=>exact hz2
theorem o_lookup{kt el:TypeId}{ps:List (U×U)}{key r z:U}{zv:V}{ok:Bool}(hd:Nat.blt d 1024=true)(ht:tyOf P xt=.map kt el)(hx:zQ s x=.mp a)(hst:s.st[a]? =some (.map ps))(hy:zQ s y=key)(hk:KeyOk P kt key ps)(hz:zHI P el=some zv)(hzu:uOfV zv=z)(hzn:∀m,zv=.agg m→∃l,m=zF l)
  (hr:r=match getK ps key with|some u=>cond ok (.tup [u,.bool true]) u|none=>cond ok (.tup [z,.bool false]) z) (k:WpO P is orc all l (s.put d (dg r)) Q):
  WpO P is orc all (⟨some d,.lookup xt x y ok,t,p,e,none⟩::l) s Q:=
 o_lookupE hd ht hx (.inl hst) hy hk hz hzu hzn hr k
theorem setEnt_run{es:List Ent}{ps:List (U×U)}(h:EntsU φ S es ps):∀{j:Nat} {e:Ent} {v:V} {x k:U},es[j]? =some e→VU φ S (valK k) k→VU φ S v x→(∀w,yU w x=none)→EntsU φ S (zCv (valK k) v es j) (ps.set j (k,x)):=by
 induction h with
 |nil=>intro j e v x k h;simp at h
 |cons e es p ps h1 h2 h3 h4 ih=>
  intro j e' v x k hj hk hv hx
  cases j with
  |zero=>exact .cons _ _ _ _ hk hv hx h4
  |succ j=>exact .cons _ _ _ _ h1 h2 h3 (ih (by simpa using hj) hk hv hx)
theorem EntsU.snoc{es:List Ent}{ps:List (U×U)}(h:EntsU φ S es ps){e:Ent}{p:U×U}(h1:VU φ S e.key p.1)(h2:VU φ S e.val p.2)(h3:∀v,yU v p.2=none):EntsU φ S (es++[e]) (ps++[p]):=by
 induction h with
 |nil=>exact .cons _ _ _ _ h1 h2 h3 .nil
 |cons e' es p' ps a b c _ ih=>exact .cons _ _ _ _ a b c ih
def St.setS(s:St)(a:Nat)(x:SB):St:=⟨s.fr,[],s.st.set a x⟩
theorem o_mapUpdate{kt el:TypeId}{ps:List (U×U)}{key:U}{v:Operand}{dst:Option Nat}(hd:wj 1024 dst=true)(ht:tyOf P xt=.map kt el)(hx:zQ s x=.mp a)(hst:s.st[a]? =some (.map ps))(hy:zQ s y=key)(hk:KeyOk P kt key ps)
  (k:WpO P is orc all l ((s.setS a (.map (setK ps key (dg (zQ s v))))).dst dst .junk) Q):
  WpO P is orc all (⟨dst,.mapUpdate xt x y v,t,p,e,none⟩::l) s Q:=by
 refine o_op (R:=fun u s1=>u=.junk∧s1=s.setS a (.map (setK ps key (dg (zQ s v))))) hd ?_ fun u s1 h=>by obtain⟨rfl,rfl⟩:=h;exact k
 intro Pr φ S tm H hs
 have h1:=zK hs x
 have h2:=zK hs y
 have h3:=(zK hs v).dg
 rw[hx]at h1;rw[hy]at h2
 obtain⟨b,g1,g2⟩:=mp_of h1
 obtain⟨b',es,n,q1,q2,q3⟩:=hs.bx a _ hst
 rw[g1]at q1;cases q1
 have hkv:=zGL h2 hk.1
 obtain⟨es',n',r1,r2⟩:∃es' n',(∀H',H.set b (.map es' n')=some H'→wV P xt H (zG tm x) (zG tm y) (zG tm v)=some H')∧EntsU φ S es' (setK ps key (dg (zQ s v))):=by
  have hrun:∀o,zCq P kt (valK key) es 0=some o→wV P xt H (zG tm x) (zG tm y) (zG tm v)=opt (H.set b (.map (es++[⟨valK key,zG tm v,n⟩]) (Nat.succ n))) (fun iv=>cond (sameV iv.2.1 (valK key)) (H.set b (.map (zCv (valK key) (zG tm v) es iv.1) n)) none) o:=by
   intro o ho
   unfold wV
   rw[ht,hkv,g2]
   show cond (keyT P kt (valK key)) (zGe none (mapSet P kt H b (valK key) (zG tm v)) (H.get b)) none=_
   rw[hk.2.1,q2]
   show opt none _ (zCq P kt (valK key) es 0)=_
   rw[ho];rfl
  rcases find_run q3 hk.2.2.2 0 with ⟨j,w,e',x',w1,w2,w3,w4,w5,w6,w7,w8⟩|⟨w1,w2,w3⟩
  ·refine⟨zCv (valK key) (zG tm v) es j,n,fun H' hH=>?_,by rw[w8];exact setEnt_run q3 w2 (valK_rel hk.1) h3 (fun w=>yk w _)⟩
   rw[hrun _ w1]
   show cond (sameV (valK key) (valK key)) (H.set b (.map (zCv (valK key) (zG tm v) es (0+j)) n)) none=_
   rw[hk.2.2.1,Nat.zero_add];exact hH
  ·refine⟨es++[⟨valK key,zG tm v,n⟩],n+1,fun H' hH=>?_,by rw[w3];exact q3.snoc (valK_rel hk.1) h3 (fun w=>yk w _)⟩
   rw[hrun _ w1];exact hH
 obtain⟨H',u1,u2,u3,_⟩:=hs.updS (k1:=.map es' n') hst (x':=.map (setK ps key (dg (zQ s v)))) trivial trivial g1 q2 (fun _ _ _ _ h=>by cases h) (fun _ h=>by cases h) .map fun H' hg=>⟨b,es',n',g1,hg,r2⟩
 refine⟨undef,.junk,_,H',φ,S,⟨0,fun n _=>?_⟩,u2,φ.le_refl,S.le_refl,u3,.junk _,NewOk.none rfl,rfl,rfl⟩
 show zEK (wV P xt H (zG tm x) (zG tm y) (zG tm v))=_
 rw[r1 H' u1];rfl
end ops
end Vam
namespace Vam
open Go
variable {Pr:Prt}{φ φ' ψ:BMap}{S S' R:SMap}{s s':St}{tm tm':TT}{H H':CH}{P:Program}{is:FuncId→Bool}{orc:Known}
noncomputable def St.frz(s:St)(a:Nat)(cs:List U):St:=⟨s.fr,zEY (fun p=> !(p.2.isCell a)) s.al,s.st.set a (.froz (cs.map dg))⟩
theorem SR.freeze(hs:SR Pr φ S s tm H){a:Nat}{cs:List U}(hst:s.st[a]? =some (.box cs)){b:Id}(hφ:φ a=some b){m:List V}{e:TypeId}(hg:H.get b=some (.cells (zF m) e 0 []))(hm:LU φ S m cs):
  SR Pr φ (S.with b m) (s.frz a cs) tm H∧S.le (S.with b m):=by
 obtain⟨d1,d2,d3,d4⟩:=hs.dom a b hφ
 have hnone:S b=none:=by
  cases h:S b with
  |none=>rfl
  |some l=>
   obtain⟨cs',hc⟩:=(hs.mem b l h).2.2.1 a hφ
   rw[hst]at hc;cases hc
 have hle:=SMap.le_with m hnone
 have hfr:∀(a':Nat),(∃cs,s.st[a']? =some (SB.froz cs))→∃cs',(s.st.set a (.froz (cs.map dg)))[a']? =some (SB.froz cs'):=by
  rintro a' ⟨cs',hc⟩
  have hne':a'≠a:=by rintro rfl;rw[hst]at hc;cases hc
  exact⟨cs',by rw[List.getElem?_set_ne (Ne.symm hne')];exact hc⟩
 have key:∀lo v u,At φ (s.frz a cs) tm H lo v u→At φ s tm H lo v u:=by
  intro lo v u ha
  cases ha with
  |slot i hi=>exact .slot i hi
  |cell c o b' cs' l e _ _ q1 q2 q3 q4 q5=>
   have q1:(s.st.set a (.froz (cs.map dg)))[c]? =some (.box cs'):=q1
   have ec:c≠a:=by rintro rfl;rw[List.getElem?_set_self d3]at q1;cases q1
   rw[List.getElem?_set_ne (Ne.symm ec)]at q1
   exact .cell c o b' cs' l e _ _ q1 q2 q3 q4 q5
 refine⟨⟨hs.nok,hs.fzn,fun i hi=>(hs.fr i hi).mono φ.le_refl hle,?_,?_,hs.inj,?_,fun lo v u c ha hc=>hs.own lo v u c (key _ _ _ ha) hc,fun lo lo' v u v' u' c ha ha' hc hc'=>hs.excl lo lo' v u v' u' c (key _ _ _ ha) (key _ _ _ ha') hc hc',?_,?_,?_⟩,hle⟩
 ·intro c x hx
  have hx:(s.st.set a (.froz (cs.map dg)))[c]? =some x:=hx
  by_cases ec:c=a
  ·subst ec
   rw[List.getElem?_set_self d3]at hx
   cases hx
   exact⟨b,m,hφ,SMap.with_self _ _ _,(LU.dgs hm).mono φ.le_refl hle⟩
  ·rw[List.getElem?_set_ne (Ne.symm ec)]at hx
   exact(hs.bx c x hx).move φ.le_refl hle fun _ _=>rfl
 ·intro c b' hc
  obtain⟨q1,q2,q3,q4⟩:=hs.dom c b' hc
  exact⟨q1,q2,by show c<(s.st.set a _).length;simpa using q3,fun q=>q4 (q.set hst fun _ q=>by cases q)⟩
 ·intro c l hc
  unfold SMap.with at hc
  split at hc
  ·rename_i ec;subst ec;cases hc
   refine⟨d1,d2,fun a' ha'=>?_,.inl ⟨e,0,[],hg,by decide⟩⟩
   have:=hs.inj a' a c ha' hφ
   subst this
   exact⟨_,by show(s.st.set a' _)[a']? =_;rw[List.getElem?_set_self d3]⟩
  ·obtain⟨q1,q2,q3,q4⟩:=hs.mem c l hc
   exact⟨q1,q2,fun a' ha'=>hfr a' (q3 a' ha'),q4⟩
 ·intro p hp
  have hp:p∈zEY (fun p=> !(p.2.isCell a)) s.al:=hp
  rw[zGm]at hp
  obtain⟨p1,p2⟩:=List.mem_filter.1 hp
  obtain⟨q1,v,u,q2,q3⟩:=hs.ali p p1
  refine⟨q1,v,u,?_,q3⟩
  cases hlo:p.2 with
  |slot i=>rw[hlo]at q2;cases q2 with|slot _ hi=>exact .slot i hi
  |cell c o=>
   rw[hlo]at q2
   have ec:c≠a:=by rintro rfl;rw[hlo]at p2;simp[Lo.isCell]at p2
   cases q2 with
   |cell _ _ b' cs2 l2 e2 _ _ k1 k2 k3 k4 k5=>exact .cell c o b' cs2 l2 e2 _ _ (by show(s.st.set a _)[c]? =_;rw[List.getElem?_set_ne (Ne.symm ec)];exact k1) k2 k3 k4 k5
 ·intro c hc
  obtain⟨q1,q2,q3,q4⟩:=hs.prot c hc
  exact⟨q1,q2,fun a' ha'=>hfr a' (q3 a' ha'),fun lo v u ha=>q4 lo v u (key _ _ _ ha)⟩
 ·intro c hc
  obtain⟨q1,q2⟩:=hs.pnew c hc
  refine⟨q1,?_⟩
  unfold SMap.with
  rw[if_neg];exact q2
  rintro rfl;exact hs.pnew_ne hc a hφ
section ops
variable {all l:List Oper}{d:Nat}{xt t t':TypeId}{p:String}{e:Array Edge}{Q:St→Prop}{x:Operand}{u:U}{a off:Nat}{cs es:List U}
def natO(s:St)(o:Option Operand)(d l:Nat):Prop:=match o with
 |none=>l=d
 |some x=>∃k,zQ s x=.int k (l:Int)
theorem natO_run(hs:SR Pr φ S s tm H){o:Option Operand}{d l:Nat}(h:natO s o d l):(o=none∧l=d)∨∃x k,o=some x∧zd tm o=some (.int k (l:Int)):=by
 cases o with
 |none=>exact .inl ⟨rfl,h⟩
 |some x=>
  obtain⟨k,h⟩:=h
  have h1:=zK hs x
  rw[h]at h1
  exact .inr ⟨x,k,rfl,by show some (zG tm x)=_;rw[zCE h1]⟩
theorem bounds_run(hs:SR Pr φ S s tm H){lo hi mx:Option Operand}{n l h m:Nat}(hm:natO s mx n m)(hh:natO s hi n h)(hl:natO s lo 0 l)(h3:mx=none∨hi≠none)(h0:l≤h)(h1:h≤m)(h2:m≤n):
  opt (some n) (sliceB n) (zd tm mx)=some m∧zCN n m (zd tm lo) (zd tm hi) (zd tm mx)=some (l,h):=by
 have lo1:opt (some 0) (sliceB h) (zd tm lo)=some l:=by
  rcases natO_run hs hl with ⟨rfl,rfl⟩|⟨x,k,rfl,e⟩
  ·rfl
  ·rw[e]
   show cond (Nat.ble l h) (some l) none=_
   rw[show Nat.ble l h=true by rw[Nat.ble_eq];exact h0];rfl
 have hi1:opt (opt (some n) (fun _=>none) (zd tm mx)) (sliceB m) (zd tm hi)=some h:=by
  rcases natO_run hs hh with ⟨rfl,rfl⟩|⟨x,k,rfl,e⟩
  ·rcases h3 with rfl|h3
   ·rfl
   ·exact absurd rfl h3
  ·rw[e]
   show cond (Nat.ble h m) (some h) none=_
   rw[show Nat.ble h m=true by rw[Nat.ble_eq];exact h1];rfl
 refine⟨?_,?_⟩
 ·rcases natO_run hs hm with ⟨rfl,rfl⟩|⟨x,k,rfl,e⟩
  ·rfl
  ·rw[e]
   show cond (Nat.ble m n) (some m) none=_
   rw[show Nat.ble m n=true by rw[Nat.ble_eq];exact h2];rfl
 ·show opt none (fun h=>opt none (fun l=>some (l,h)) (opt (some 0) (sliceB h) (zd tm lo))) (opt (opt (some n) (fun _=>none) (zd tm mx)) (sliceB m) (zd tm hi))=_
  rw[hi1]
  show opt none (fun l=>some (l,h)) (opt (some 0) (sliceB h) (zd tm lo))=_
  rw[lo1];rfl
theorem o_sliceA{lo hi mx:Option Operand}{el:TypeId}{n c l1 h1 m1:Nat}(hd:Nat.blt d 1024=true)(ht:tyOf P xt=.array n el)(hc:P.cellsOf el=c)(h0:Nat.blt 0 c=true)(hx:zQ s x=.box a off)(hb:s.st[a]? =some (.box cs))(hbig:Nat.ble (off+n*c) cs.length=true)
  (hm:natO s mx n m1) (hh:natO s hi n h1) (hl:natO s lo 0 l1) (hn:mx=none∨hi≠none) (b0:l1≤h1) (b1:h1≤m1) (b2:m1≤n) (hes:yW es=((cs.map dg).drop (off+l1*c)).take ((h1 - l1)*c)) (hez:∀e∈es,(zx e).length=c) (hel:es.length=h1 - l1)
  (k:WpO P is orc all l ((s.frz a cs).put d (.lst .ro c es)) Q):WpO P is orc all (⟨some d,.slice xt x lo hi mx,t,p,e,none⟩::l) s Q:=by
 have hbig:=Nat.le_of_ble_eq_true hbig
 have h0:=yu h0
 refine o_op (R:=fun u s1=>u=.lst .ro c es∧s1=s.frz a cs) hd ?_ fun u s1 h=>by obtain⟨rfl,rfl⟩:=h;exact k
 intro Pr φ S tm H hs
 have g1:=zK hs x
 rw[hx]at g1
 obtain⟨b,g2,g3⟩:=zDj g1
 obtain⟨b',m,ty,q1,q2,q3⟩:=hs.box a cs hb
 rw[g2]at q1;cases q1
 obtain⟨f1,f2⟩:=hs.freeze hb g2 q2 q3
 obtain⟨r1,r2⟩:=bounds_run hs hm hh hl hn b0 b1 b2
 have hrun:zBv P xt (zG tm x) (zd tm lo) (zd tm hi) (zd tm mx)=zAl c b off m1 true l1 h1:=by
  unfold zBv
  rw[ht,g3]
  show cond (zGp b) none (zFp (P.cellsOf el) n (zd tm lo) (zd tm hi) (zd tm mx) b off)=_
  rw[zGo (hs.dom a b g2).1]
  show zFp (P.cellsOf el) n (zd tm lo) (zd tm hi) (zd tm mx) b off=_
  unfold zFp
  rw[r1,hc]
  show opt none (fun lh=>zAl c b off m1 true lh.1 lh.2) (zCN n m1 (zd tm lo) (zd tm hi) (zd tm mx))=_
  rw[r2];rfl
 have hmul:l1*c+(h1 - l1)*c≤n*c:=by
  rw[←Nat.add_mul];exact Nat.mul_le_mul_right _ (by omega)
 have hmlen:m.length=cs.length:=q3.len
 have hL:LU φ (S.with b m) (((m.drop (off+l1*c)).take ((h1 - l1)*c))) (yW es):=by
  rw[hes]
  exact((LU.dgs (LU.drop (q3.mono φ.le_refl f2) (off+l1*c))).take _ |> fun h=>by rwa [List.map_drop]at h)
 obtain⟨v,hv1,hv2⟩:∃v,zAl c b off m1 true l1 h1=some v∧VU φ (S.with b m) v (.lst .ro c es):=by
  unfold zAl
  by_cases e1:m1=l1
  ·subst e1
   have:h1=m1:=by omega
   subst this
   rw[Nat.beq_refl]
   refine⟨_,rfl,?_⟩
   have he:es=[]:=by rw[Nat.sub_self]at hel;exact List.length_eq_zero_iff.1 hel
   subst he
   refine .slice b off (h1 - h1) (capX 0) c m [] (m.drop off) .ro [] (SMap.with_self _ _ _) (by simp) .nil (by simp) (by simp) ⟨by omega,by rw[Nat.sub_self];exact Nat.zero_le _,trivial⟩ h0
  ·rw[beq_ne e1]
   refine⟨_,rfl,?_⟩
   refine .slice b (off+l1*c) (h1 - l1) (capX (m1 - l1)) c m _ ((m.drop (off+l1*c)).drop ((h1 - l1)*c)) .ro es (SMap.with_self _ _ _) (List.take_append_drop _ _).symm hL hez hel ⟨by omega,?_,trivial⟩ h0
   show h1 - l1≤(2*(m1 - l1)+1) / 2
   omega
 refine⟨v,_,_,H,φ,S.with b m,⟨0,fun n _=>?_⟩,f1,φ.le_refl,f2,Kept.refl _ _,hv2,NewOk.none rfl,rfl,rfl⟩
 show zt H (zBv P xt (zG tm x) (zd tm lo) (zd tm hi) (zd tm mx))=_
 rw[hrun,hv1];rfl
end ops
end Vam
namespace Vam
open Go
variable {Pr:Prt}{φ φ' ψ:BMap}{S S' R:SMap}{s s':St}{tm tm':TT}{H H':CH}{P:Program}{is:FuncId→Bool}{orc:Known}
theorem o_idx1{all l:List Oper}{d:Nat}{x y:Operand}{xt t el:TypeId}{p:String}{e:Array Edge}{Q:St→Prop}{cs:List U}{u:U}{n c:Nat}{ki:IntKind}{i:Int}(hd:Nat.blt d 1024=true)(ht:tyOf P xt=.array n el)(hx:zQ s x=.agg cs)(hi:zQ s y=.int ki i)(h0:0≤i)(he:i<n)
  (hc:P.cellsOf el=c) (hsh:shOf P el=.one) (hu:cs[i.toNat*c]? =some u) (k:WpO P is orc all l (s.put d (dg u)) Q):WpO P is orc all (⟨some d,.index xt x y,t,p,e,none⟩::l) s Q:=by
 refine wm hd (fun w=>yk w u) (fun Pr φ S tm H hs=>?_) k
 have h1:=zK hs x
 rw[hx]at h1
 obtain⟨m,g1,g2⟩:=zHq h1
 have h2:=zK hs y
 rw[hi]at h2
 have h2:=zCE h2
 obtain⟨j,rfl⟩:∃j:Nat,i=j:=⟨i.toNat,by omega⟩
 obtain⟨v,h4,h5⟩:=g2.get hu
 refine⟨v,fun E=>?_,h5.dg⟩
 show zDf P xt (zG tm x) (zG tm y) H=_
 unfold zDf
 rw[ht,g1,h2]
 show cond (Nat.ble (Nat.succ j) n) (zt H (zBm P el (zF m) (Nat.mul j (P.cellsOf el)))) .no=_
 rw[show Nat.ble (Nat.succ j) n=true by rw[Nat.ble_eq];omega,hc]
 show zt H (zBm P el (zF m) (j*c))=_
 rw[part_one hsh (by simpa using h4)];rfl
theorem zL{c:Code}{Q:Ex→St→Prop}(l:List (Nat×U))(st:List SB)(h1:Holds s l)(h2:s.st=st)(k:∀fr:Nat→U,Wp P is orc c ⟨fun j=>zCD l j (fr j),[],st⟩ Q):Wp P is orc c s Q:=by
 rw[h1.eq]
 subst h2
 exact k s.fr
theorem SR.forget(h:SR Pr φ S s tm H){fr:Nat→U}(hfr:∀i,fr i=s.fr i∨fr i=.junk):SR Pr φ S ⟨fr,[],s.st⟩ tm H:=by
 have key:∀lo v u,At φ ⟨fr,[],s.st⟩ tm H lo v u→At φ s tm H lo v u∨yU v u=none:=by
  intro lo v u ha
  cases ha with
  |slot i hi=>
   rcases hfr i with e|e
   ·show At φ s tm H (.slot i) (tm.get i) (fr i)∨_
    rw[e];exact .inl (.slot i hi)
   ·right
    show yU _ (fr i)=none
    rw[e];rfl
  |cell a o b cs l e _ _ h1 h2 h3 h4 h5=>exact .inl (.cell a o b cs l e _ _ h1 h2 h3 h4 h5)
 refine⟨h.nok,h.fzn,fun i hi=>?_,h.bx,h.dom,h.inj,h.mem,?_,?_,fun p hp=>(by cases hp),?_,h.pnew⟩
 ·rcases hfr i with e|e
  ·show VU φ S _ (fr i);rw[e];exact h.fr i hi
  ·show VU φ S _ (fr i);rw[e];exact .junk _
 ·intro lo v u b ha hb
  rcases key _ _ _ ha with ha|hq
  ·exact h.own lo v u b ha hb
  ·rw[hq]at hb;cases hb
 ·intro lo lo' v u v' u' b ha ha' hb hb'
  rcases key _ _ _ ha with ha|hq
  ·rcases key _ _ _ ha' with ha'|hq
   ·exact h.excl lo lo' v u v' u' b ha ha' hb hb'
   ·rw[hq]at hb';cases hb'
  ·rw[hq]at hb;cases hb
 ·intro b hb
  obtain⟨q1,q2,q3,q4⟩:=h.prot b hb
  refine⟨q1,q2,q3,fun lo v u ha=>?_⟩
  rcases key _ _ _ ha with ha|hq
  ·exact q4 lo v u ha
  ·rw[hq];simp
theorem k_forget{c:Code}{Q:Ex→St→Prop}(l:List (Nat×U))(st:List SB)(h1:Holds s l)(h2:s.st=st)(k:Wp P is orc c ⟨fun j=>zCD l j .junk,[],st⟩ Q):Wp P is orc c s Q:=by
 intro Pr φ S tm H ds ro fn hs ho hr
 refine k Pr φ S tm H ds ro fn ?_ ho hr
 rw[←h2]
 refine hs.forget fun i=>?_
 have key:∀l:List (Nat×U),(∀p∈l,s.fr p.1=p.2)→zCD l i .junk=s.fr i∨zCD l i .junk=.junk:=by
  intro l
  induction l with
  |nil=>intro _;exact .inr rfl
  |cons p l ih=>
   intro hp
   obtain⟨j,u⟩:=p
   show cond (Nat.beq i j) u (zCD l i .junk)=_∨cond (Nat.beq i j) u (zCD l i .junk)=_
   by_cases e:i=j
   ·subst e
    rw[Nat.beq_refl]
    exact .inl (hp (i,u) List.mem_cons_self).symm
   ·rw[beq_ne e]
    exact ih fun q hq=>hp q (List.mem_cons_of_mem _ hq)
 exact key l h1.2
end Vam
namespace Vam
open Go
variable {Pr:Prt}{φ φ' ψ:BMap}{S S' R:SMap}{s s':St}{tm tm':TT}{H H':CH}{P:Program}{is:FuncId→Bool}{orc:Known}
theorem VU.undef:VU φ S undef (.tup []):=UR.tup [] [] .nil
theorem own_undef:yU undef (.tup [])=none:=rfl
theorem undef_of{v:V}(h:VU φ S v (.tup [])):v=undef:=by
 cases h with
 |tup l us h=>cases h;rfl
theorem zHV{all:List Oper}{g:Nat}{want:Bool}{og:Oper}{j:Nat}{c:Bool}(hs:SR Pr φ S s tm H)(hg:nthO all g=some og)(hj:og.dst=some j)(hc:s.slot j=.bool c):zBs all tm (g,want)=bEq c want:=by
 have hv:=zK hs (.tmp j)
 rw[show zQ s (.tmp j)=.bool c from hc]at hv
 have hv:tm.get j=.bool c:=zDI hv
 show opt false (fun b=>bEq b want) (opt none (fun o=>opt none (fun d=>wB none (fun b=>some b) (tm.get d)) (dstOf o)) (nthO all g))=_
 rw[hg]
 show opt false (fun b=>bEq b want) (opt none (fun d=>wB none (fun b=>some b) (tm.get d)) og.dst)=_
 rw[hj]
 show opt false (fun b=>bEq b want) (wB none (fun b=>some b) (tm.get j))=_
 rw[hv];rfl
theorem want_dead{all:List Oper}{g:Nat}{want:Bool}{og:Oper}{j:Nat}(hs:SR Pr φ S s tm H)(hg:nthO all g=some og)(hj:og.dst=some j)(hc:s.slot j=.tup []):zBs all tm (g,want)=false:=by
 have hv:=zK hs (.tmp j)
 rw[show zQ s (.tmp j)=.tup []from hc]at hv
 have hv:tm.get j=undef:=undef_of hv
 show opt false (fun b=>bEq b want) (opt none (fun o=>opt none (fun d=>wB none (fun b=>some b) (tm.get d)) (dstOf o)) (nthO all g))=_
 rw[hg]
 show opt false (fun b=>bEq b want) (opt none (fun d=>wB none (fun b=>some b) (tm.get d)) og.dst)=_
 rw[hj]
 show opt false (fun b=>bEq b want) (wB none (fun b=>some b) (tm.get j))=_
 rw[hv];rfl
theorem o_left{all l:List Oper}{dst:Option Nat}{o:Op}{t:TypeId}{p:String}{a:Array Edge}{g:Nat}{want:Bool}{Q:St→Prop}(hd:wj 1024 dst=true)(hw:∀Pr φ S tm H,SR Pr φ S s tm H→zBs all tm (g,want)=false)
  (h2:WpO P is orc all l (s.dst dst (.tup [])) Q):WpO P is orc all (⟨dst,o,t,p,a,some (g,want)⟩::l) s Q:=by
 intro Pr φ S tm H hs
 obtain⟨s2,tm2,H2,φ2,S2,⟨n2,k1⟩,k2⟩:=h2 Pr φ S _ H (zBI hs hd VU.undef (NewOk.none own_undef))
 refine⟨s2,tm2,H2,φ2,S2,⟨n2,fun n hn=>?_⟩,k2⟩
 show opsIf P (zO true P is orc n) dst o tm H (zBq P (zO true P is orc n) all l) (zBs all tm (g,want))=_
 rw[hw _ _ _ _ _ hs]
 exact k1 n hn
theorem o_guardX{all l:List Oper}{dst:Option Nat}{o:Op}{t:TypeId}{p:String}{a:Array Edge}{g:Nat}{want:Bool}{og:Oper}{j:Nat}{c:Bool}{Q:St→Prop}(hd:wj 1024 dst=true)
  (hg:nthO all g=some og) (hj:og.dst=some j) (hc:s.slot j=.bool c)
  (h1:c=want→WpO P is orc all (⟨dst,o,t,p,a,none⟩::l) s Q) (h2:c= !want→WpO P is orc all l (s.dst dst (.tup [])) Q):WpO P is orc all (⟨dst,o,t,p,a,some (g,want)⟩::l) s Q:=by
 by_cases e:c=want
 ·exact o_guard hd hg hj hc h1 fun h=>by cases c<;>cases want<;>cases e<;>cases h
 ·have e':c= !want:=by cases c<;>cases want<;>simp_all
  refine o_left hd (fun Pr φ S tm H hs=>?_) (h2 e')
  rw[zHV hs hg hj hc];subst e';cases want<;>rfl
theorem d_left{all:List Oper}{dst:Option Nat}{o:Op}{t:TypeId}{p:String}{a:Array Edge}{m0:M0}{l:List (Oper×M0)}{g:Nat}{want:Bool}{Q:St→Prop}(hd:wj 1024 dst=true)
  (hw:∀Pr φ S tm H,SR Pr φ S s tm H→zBs all tm (g,want)=false) (h2:WpD P is orc all l (s.dst dst (.tup [])) Q):WpD P is orc all ((⟨dst,o,t,p,a,some (g,want)⟩,m0)::l) s Q:=by
 intro Pr φ S tm H m hm hp hs
 obtain⟨md,m',rfl,hm2⟩:∃md m',m=(⟨dst,o,t,p,a,some (g,want)⟩,md)::m'∧Mt P H l m':=by
  cases hm with
  |plain _ _ m hm=>exact⟨_,m,rfl,hm⟩
  |quiet _ _ m hm=>exact⟨_,m,rfl,hm⟩
  |read _ ld _ m hm=>exact⟨_,m,rfl,hm⟩
  |pre _ i x _ m q1 q2 hm=>exact⟨_,m,rfl,hm⟩
  |lay _ i _ m hm=>exact⟨_,m,rfl,hm⟩
 have hw:zBl all tm (some (g,want))=false:=hw _ _ _ _ _ hs
 have hin:∀b,b∈pend m'→b∈pend ((⟨dst,o,t,p,a,some (g,want)⟩,md)::m'):=by
  intro b hb
  cases hmd:mdId md with
  |none=>simpa[pend,hmd]using hb
  |some i=>simp only[pend,List.filterMap_cons,hmd];exact List.mem_cons_of_mem _ hb
 have hnd:(pend m').Nodup:=by
  have:=hp.nodup
  cases hmd:mdId md with
  |none=>simpa[pend,hmd]using this
  |some i=>simp only[pend,List.filterMap_cons,hmd]at this;exact(List.nodup_cons.1 this).2
 have hs':SR (Pr.and (pend m')) φ S s tm H:=hs.weaken (fun b hb=>hb.imp id (hin b)) fun b hb=>by
  obtain⟨q1,q2⟩:=hs.pnew b (hb.imp id (hin b))
  rcases hb with hb|hb
  ·exact⟨.inl (Pr.s b hb),q2⟩
  ·exact⟨.inr hb,q2⟩
 refine zDi ⟨0,fun n hn=>?_⟩ φ.le_refl S.le_refl (Kept.refl _ _) hm2 ⟨hnd,fun i hi=>hp.ok i (hin i hi),fun i hi=>hp.out i (hin i hi),fun i hi=>hp.odd i (hin i hi)⟩ (zBI hs' hd VU.undef (NewOk.none own_undef)) h2
 show cond (zBl all tm (some (g,want))) (wO dst tm (zAz P (zO true P is orc n) tm H md o)) (.ok (setT tm dst undef) H)=_
 rw[hw];rfl
theorem d_guardX{all:List Oper}{dst:Option Nat}{o:Op}{t:TypeId}{p:String}{a:Array Edge}{m0:M0}{l:List (Oper×M0)}{g:Nat}{want:Bool}{og:Oper}{j:Nat}{c:Bool}{Q:St→Prop}(hd:wj 1024 dst=true)
  (hg:nthO all g=some og) (hj:og.dst=some j) (hc:s.slot j=.bool c)
  (h1:c=want→WpD P is orc all ((⟨dst,o,t,p,a,none⟩,m0)::l) s Q) (h2:c= !want→WpD P is orc all l (s.dst dst (.tup [])) Q):WpD P is orc all ((⟨dst,o,t,p,a,some (g,want)⟩,m0)::l) s Q:=by
 by_cases e:c=want
 ·exact d_guard hd hg hj hc h1 fun h=>by cases c<;>cases want<;>cases e<;>cases h
 ·have e':c= !want:=by cases c<;>cases want<;>simp_all
  refine d_left hd (fun Pr φ S tm H hs=>?_) (h2 e')
  rw[zHV hs hg hj hc];subst e';cases want<;>rfl
theorem zHl{all:List Oper}{dst:Option Nat}{o:Op}{t:TypeId}{p:String}{a:Array Edge}{m0:M0}{l:List (Oper×M0)}{g:Nat}{want:Bool}{og:Oper}{j:Nat}{Q:St→Prop}(hd:wj 1024 dst=true)
  (hg:nthO all g=some og) (hj:og.dst=some j) (hc:s.slot j=.tup []) (h2:WpD P is orc all l (s.dst dst (.tup [])) Q):WpD P is orc all ((⟨dst,o,t,p,a,some (g,want)⟩,m0)::l) s Q:=
 d_left hd (fun _ _ _ _ _ hs=>want_dead hs hg hj hc) h2
end Vam
namespace Vam
open Go
variable {s:St}{P:Program}{is:FuncId→Bool}{orc:Known}
section short
variable {all l:List Oper}{dst:Option Nat}{o:Op}{t:TypeId}{p:String}{a:Array Edge}{g:Nat}{want:Bool}{og:Oper}{j:Nat}{c:Bool}{Q:St→Prop}
theorem o_gD(hd:wj 1024 dst=true)(hg:nthO all g=some og)(hj:og.dst=some j)(hc:s.slot j=.bool c)(e:c=want)(h1:WpO P is orc all (⟨dst,o,t,p,a,none⟩::l) s Q):WpO P is orc all (⟨dst,o,t,p,a,some (g,want)⟩::l) s Q:=
 o_guard hd hg hj hc (fun _=>h1) fun h=>by cases c<;>cases want<;>cases e<;>cases h
theorem o_gS(hd:wj 1024 dst=true)(hg:nthO all g=some og)(hj:og.dst=some j)(hc:s.slot j=.bool c)(e:c= !want)(h2:WpO P is orc all l (s.dst dst (.tup [])) Q):WpO P is orc all (⟨dst,o,t,p,a,some (g,want)⟩::l) s Q:=
 o_guardX hd hg hj hc (fun h=>by cases c<;>cases want<;>cases e<;>cases h) fun _=>h2
variable {m0:M0}{m:List (Oper×M0)}
theorem d_gD(hd:wj 1024 dst=true)(hg:nthO all g=some og)(hj:og.dst=some j)(hc:s.slot j=.bool c)(e:c=want)(h1:WpD P is orc all ((⟨dst,o,t,p,a,none⟩,m0)::m) s Q):WpD P is orc all ((⟨dst,o,t,p,a,some (g,want)⟩,m0)::m) s Q:=
 d_guard hd hg hj hc (fun _=>h1) fun h=>by cases c<;>cases want<;>cases e<;>cases h
theorem d_gS(hd:wj 1024 dst=true)(hg:nthO all g=some og)(hj:og.dst=some j)(hc:s.slot j=.bool c)(e:c= !want)(h2:WpD P is orc all m (s.dst dst (.tup [])) Q):WpD P is orc all ((⟨dst,o,t,p,a,some (g,want)⟩,m0)::m) s Q:=
 d_guardX hd hg hj hc (fun h=>by cases c<;>cases want<;>cases e<;>cases h) fun _=>h2
end short
theorem k_cT{x:Operand}{a b:Code}{c:Bool}{Q:Ex→St→Prop}(hx:zQ s x=.bool c)(e:c=true)(h:Wp P is orc a s Q):Wp P is orc (.cond x a b) s Q:=k_cond hx (fun _=>h) fun h'=>by rw[e]at h';cases h'
theorem k_cF{x:Operand}{a b:Code}{c:Bool}{Q:Ex→St→Prop}(hx:zQ s x=.bool c)(e:c=false)(h:Wp P is orc b s Q):Wp P is orc (.cond x a b) s Q:=k_cond hx (fun h'=>by rw[e]at h';cases h') fun _=>h
end Vam
namespace Vam
open Go
variable {s:St}{P:Program}{is:FuncId→Bool}{orc:Known}
section shifts
variable {all l:List Oper}{d:Nat}{x y:Operand}{xt yt t:TypeId}{p:String}{e:Array Edge}{a b:Int}{Q:St→Prop}
end shifts
end Vam
namespace Vam
open Go
variable {Pr:Prt}{φ φ' ψ:BMap}{S S' R:SMap}{s s':St}{tm tm':TT}{H H':CH}{P:Program}{is:FuncId→Bool}{orc:Known}
def Fwd(k:Nat)(u:U):Prop:=∀(φ:BMap) (S:SMap) (v:V),VU φ S v u→VU (fun a=>if a<k then none else φ a) S v u
def FwdS(k:Nat)(x:SB):Prop:=match x with
 | .box cs=>∀c∈cs,Fwd k c
 | .froz cs=>∀c∈cs,Fwd k c
 | .map es=>∀p∈es,Fwd k p.1∧Fwd k p.2
 | .loop _ l=>∀i,Fwd k (l.fr i)
 | .dead=>True
 | .fmap _=>False
theorem NB.fwd{u:U}(h:NB u)(k:Nat):Fwd k u:=fun _ S v hv=>(h _ _ _ hv).mono (fun a b h=>by cases h) S.le_refl
theorem Fwd.mp{k a:Nat}(h:k≤a):Fwd k (.mp a):=fun φ _ _ hv=>by
 cases hv with|mp _ b h1=>exact .mp a b (by show(if a<k then none else φ a)=_;rw[if_neg (by omega)];exact h1)
theorem FwdL{k:Nat}{us:List U}(h:∀u∈us,Fwd k u){l:List V}(hl:LU φ S l us):LU (fun a=>if a<k then none else φ a) S l us:=zDM hl fun _ _ hu hv=>h _ hu _ _ _ hv
theorem Fwd.agg{k:Nat}{cs:List U}(h:∀c∈cs,Fwd k c):Fwd k (.agg cs):=fun _ _ _ hv=>by
 cases hv with|agg l _ h1=>exact .agg l cs (FwdL h h1)
theorem Fwd.tup{k:Nat}{cs:List U}(h:∀c∈cs,Fwd k c):Fwd k (.tup cs):=fun _ _ _ hv=>by
 cases hv with|tup l _ h1=>exact .tup l cs (FwdL h h1)
def BMap.join(φ:BMap)(k:Nat)(φ':BMap):BMap:=fun a=>if a<k then φ a else φ' a
theorem BMap.low_le(φ φ':BMap)(k:Nat):BMap.le (fun a=>if a<k then none else φ' a) (φ.join k φ'):=by
 intro a b h
 have h:(if a<k then none else φ' a)=some b:=h
 show(if a<k then φ a else φ' a)=some b
 split at h
 ·cases h
 ·rename_i h1;rw[if_neg h1];exact h
theorem Fwd.vu{k:Nat}{u:U}(h:Fwd k u){v:V}(hv:VU φ' S' v u)(φ:BMap):VU (φ.join k φ') S' v u:=(h _ _ _ hv).mono (BMap.low_le φ φ' k) S'.le_refl
theorem FwdS.ok{k a:Nat}{x:SB}(h:FwdS k x)(ha:k≤a)(hx:SBOk φ' S' H a x)(φ:BMap):SBOk (φ.join k φ') S' H a x:=by
 have ej:∀{b},φ' a=some b→φ.join k φ' a=some b:=fun {b} e=>by show(if a<k then φ a else φ' a)=some b;rw[if_neg (by omega)];exact e
 have hl:∀{us:List U} {l:List V},(∀u∈us,Fwd k u)→LU φ' S' l us→LU (φ.join k φ') S' l us:=fun {us l} hu hl=>zDM hl fun v u hm hv=>(hu u hm).vu hv φ
 cases x with
 |box cs=>obtain⟨b,l,e,q1,q2,q3⟩:=hx;exact⟨b,l,e,ej q1,q2,hl h q3⟩
 |froz cs=>obtain⟨b,l,q1,q2,q3⟩:=hx;exact⟨b,l,ej q1,q2,hl h q3⟩
 |map es=>
  obtain⟨b,l,e,q1,q2,q3⟩:=hx
  refine⟨b,l,e,ej q1,q2,?_⟩
  have key:∀{ents:List Ent} {ps:List (U×U)},EntsU φ' S' ents ps→(∀p∈ps,Fwd k p.1∧Fwd k p.2)→EntsU (φ.join k φ') S' ents ps:=by
   intro ents ps he
   induction he with
   |nil=>intro _;exact .nil
   |cons e es p ps a b c _ ih=>intro hp;exact .cons e es p ps ((hp p List.mem_cons_self).1.vu a φ) ((hp p List.mem_cons_self).2.vu b φ) c (ih fun q hq=>hp q (List.mem_cons_of_mem _ hq))
  exact key q3 h
 |loop q l=>obtain⟨b,st,pe,fn,tm,d,q1,q2,q3,q4⟩:=hx;exact⟨b,st,pe,fn,tm,d,ej q1,q2,q3,fun i hi=>(h i).vu (q4 i hi) φ⟩
 |dead=>trivial
 |fmap es=>exact(show False from h).elim
def OldOk(st:List SB)(old:List SB):Prop:=old.length=st.length∧∀(a:Nat) (x:SB),old[a]? =some x→x=SB.dead∨∃es:List (U×U),x=SB.fmap es∧(st[a]? =some (SB.map es)∨st[a]? =some (SB.fmap es))∧∀p∈es,NB p.1∧NB p.2
def mapM(old:List SB)(φ:BMap):BMap:=fun a=>match old[a]? with
 |some (.fmap _)=>φ a
 |_=>none
theorem zDD{old:List SB}{a:Nat}{b:Id}(h:mapM old φ a=some b):∃es,old[a]? =some (.fmap es)∧φ a=some b:=by
 unfold mapM at h
 split at h
 ·rename_i es e;exact⟨es,e,h⟩
 ·cases h
def OldM(H:CH)(S:SMap)(f:BMap):Prt:=⟨fun b=>(b.wf∧Before b H.n)∧∀a,f a≠some b,fun b=>((b.wf∧Before b H.n)∧∀a,f a≠some b)∧S b=none,fun b=>b.wf∧Before b H.n,fun _ h=>h.1⟩
theorem EntsU.nb{ψ:BMap}{es:List Ent}{ps:List (U×U)}(h:EntsU φ S es ps):(∀p∈ps,NB p.1∧NB p.2)→EntsU ψ S es ps:=by
 induction h with
 |nil=>intro _;exact .nil
 |cons e es p ps a b c _ ih=>intro hn;exact .cons e es p ps (((hn p List.mem_cons_self).1 _ _ _ a).mono (fun a b h=>by cases h) S.le_refl) (((hn p List.mem_cons_self).2 _ _ _ b).mono (fun a b h=>by cases h) S.le_refl) c (ih fun q hq=>hn q (List.mem_cons_of_mem _ hq))
theorem SR.fm(hs:SR Pr φ S s tm H){old:List SB}(hO:OldOk s.st old){a:Nat}{b:Id}(h:mapM old φ a=some b):∃es ents n,old[a]? =some (.fmap es)∧φ a=some b∧(s.st[a]? =some (.map es)∨s.st[a]? =some (.fmap es))∧H.get b=some (.map ents n)∧EntsU φ S ents es∧∀p∈es,NB p.1∧NB p.2:=by
 obtain⟨es,h1,h2⟩:=zDD h
 rcases hO.2 a _ h1 with h3|⟨es',h3,h4,h5⟩
 ·cases h3
 ·cases h3
  rcases h4 with h4|h4
  ·obtain⟨c,ents,n,q1,q2,q3⟩:=hs.bx a _ h4
   rw[h2]at q1;cases q1
   exact⟨es,ents,n,h1,h2,.inl h4,q2,q3,h5⟩
  ·obtain⟨c,ents,n,q1,q2,q3⟩:=hs.bx a _ h4
   rw[h2]at q1;cases q1
   exact⟨es,ents,n,h1,h2,.inr h4,q2,q3,h5⟩
theorem SR.aloneM(hs:SR Pr φ S s tm H){old:List SB}(hO:OldOk s.st old):SR (OldM H S (mapM old φ)) (mapM old φ) S ⟨fun _=>.junk,[],old⟩ tm H.freeze:=by
 have no:∀lo v u,At (mapM old φ) ⟨fun _=>.junk,[],old⟩ tm H.freeze lo v u→yU v u=none:=by
  intro lo v u ha
  cases ha with
  |slot i hi=>rfl
  |cell a o b cs l e _ _ h1 h2=>
   obtain⟨es,h3,_⟩:=zDD h2
   have h1:old[a]? =some (.box cs):=h1
   rw[h3]at h1;cases h1
 refine⟨by rw[zAn];exact hs.nok,by rw[zEa,zAn];exact Nat.le_of_eq (Id.top_num hs.nok),fun i _=>.junk _,?_,?_,?_,?_,?_,?_,fun p hp=>(by cases hp),?_,?_⟩
 ·intro a x hx
  have hx:old[a]? =some x:=hx
  rcases hO.2 a x hx with rfl|⟨es,rfl,h4,h5⟩
  ·trivial
  ·have hb:∃b ents n,φ a=some b∧H.get b=some (.map ents n)∧EntsU φ S ents es:=by
    rcases h4 with h4|h4
    ·exact hs.bx a _ h4
    ·exact hs.bx a _ h4
   obtain⟨b,ents,n,q1,q2,q3⟩:=hb
   exact⟨b,ents,n,by unfold mapM;rw[hx];exact q1,by rw[zCG];exact q2,q3.nb h5⟩
 ·intro a b h
  obtain⟨es,h1,h2⟩:=zDD h
  obtain⟨x1,x2,_,_⟩:=hs.dom a b h2
  exact⟨x1,by rw[zAn];exact x2,(List.getElem?_eq_some_iff.1 h1).1,fun q=>absurd h1 (q es)⟩
 ·intro a a' b h h'
  exact hs.inj a a' b (zDD h).choose_spec.2 (zDD h').choose_spec.2
 ·intro b l hb
  obtain⟨q1,q2,_,q4⟩:=hs.mem b l hb
  refine⟨q1,by rw[zAn];exact q2,fun a h=>?_,by rw[zCG];exact q4⟩
  obtain⟨_,ents,n,_,_,_,hg,_⟩:=hs.fm hO h
  rcases q4 with ⟨_,_,_,r,_⟩|r<;>rw[hg]at r<;>cases r
 ·intro lo v u b ha hb;rw[no lo v u ha]at hb;cases hb
 ·intro lo lo' v u v' u' b ha _ hb;rw[no lo v u ha]at hb;cases hb
 ·rintro b ⟨⟨h1,h2⟩,h3⟩
  exact⟨h1,by rw[zAn];exact h2,fun a h=>absurd h (h3 a),fun lo v u ha=>by rw[no lo v u ha];simp⟩
 ·rintro b ⟨h1,h2⟩;exact⟨h1,h2⟩
theorem SR.joinM(hs:SR Pr φ S s tm H){k:Nat}(hk:s.st.length=k){old:List SB}(hO:OldOk s.st old){fr':Nat→U}{new:List SB}(h1:SR (OldM H S (mapM old φ)) φ' S' ⟨fr',[],old++new⟩ tm H')(hl0:(mapM old φ).le φ')(hS:S.le S')(hkp:Kept (OldM H S (mapM old φ)) H.freeze H')(hn:∀x∈new,FwdS k x):
  SR Pr (φ.join k φ') S' ⟨s.fr,s.al,s.st++new⟩ tm (H'.thaw H.fz)∧φ.le (φ.join k φ')∧Kept Pr H (H'.thaw H.fz):=by
 have hol:old.length=k:=hO.1.trans hk
 have hget2:∀b,b.wf→Before b H.n→(∀a,mapM old φ a≠some b)→H'.get b=H.get b:=fun b hw hb hf=>by rw[hkp.get b ⟨⟨hw,hb⟩,hf⟩,zCG]
 have hno:∀b,(∀ents n,H.get b≠some (.map ents n))→∀a,mapM old φ a≠some b:=fun b hm a e=>by
  obtain⟨_,ents,n,_,_,_,hg,_⟩:=hs.fm hO e
  exact hm _ _ hg
 have hget:∀b,b.wf→Before b H.n→(∀ents n,H.get b≠some (.map ents n))→H'.get b=H.get b:=fun b hw hb hm=>hget2 b hw hb (hno b hm)
 have hnoP:∀b,Pr b→∀a,mapM old φ a≠some b:=fun b hp a e=>by
  obtain⟨_,_,_,_,h2,h4,_⟩:=hs.fm hO e
  obtain⟨cs,hc⟩:=(hs.prot b hp).2.2.1 a h2
  rcases h4 with h4|h4<;>rw[h4]at hc<;>cases hc
 have hbef:∀b,Before b H.n→Before b H'.n:=fun b hb=>hkp.bef b (by rw[zAn];exact hb)
 have hle:φ.le (φ.join k φ'):=fun a b e=>by
  show(if a<k then φ a else φ' a)=some b
  rw[if_pos (by rw[←hk];exact(hs.dom a b e).2.2.1)];exact e
 have hold:∀{a b},φ.join k φ' a=some b→(a<k∧φ a=some b)∨(k≤a∧φ' a=some b):=fun {a b} e=>by
  have e:(if a<k then φ a else φ' a)=some b:=e
  split at e
  ·rename_i h;exact .inl ⟨h,e⟩
  ·rename_i h;exact .inr ⟨by omega,e⟩
 have hfz:H'.fz=H.n.top:=by rw[hkp.fz,zEa]
 have nokH:=hs.nok
 have hth:∀{a},k≤a→Thw (old++new) a:=fun {a} ha es e=>by
  rw[List.getElem?_append_right (by rw[hol];exact ha)]at e
  exact hn _ (List.mem_of_getElem? e)
 have hnew:∀{a b},k≤a→φ' a=some b→ ¬ Before b H.n:=fun {a b} ha e hb=>by
  have:=(h1.dom a b e).2.2.2 (hth ha)
  rw[hfz]at this
  have:=Id.num_lt_top (show H.n.okN from nokH) hb
  omega
 have hst:∀{a x},(old++new)[a]? =some x→k≤a→(s.st++new)[a]? =some x∧x∈new:=fun {a x} e ha=>by
  rw[List.getElem?_append_right (by rw[hol];exact ha),hol]at e
  rw[List.getElem?_append_right (by omega),hk]
  exact⟨e,List.mem_of_getElem? e⟩
 have hcell:∀{a b cs},s.st[a]? =some (.box cs)→φ a=some b→∀ents n,H.get b≠some (.map ents n):=fun {a b cs} hx hb ents n hg=>by
  obtain⟨c,l,e,q1,q2,_⟩:=hs.bx a _ hx
  rw[hb]at q1;cases q1
  rw[hg]at q2;cases q2
 have key:∀lo v u,At (φ.join k φ') ⟨s.fr,s.al,s.st++new⟩ tm (H'.thaw H.fz) lo v u→At φ s tm H lo v u∨(At φ' ⟨fr',[],old++new⟩ tm H' lo v u∧∃a o,lo=.cell a o∧k≤a):=by
  intro lo v u ha
  cases ha with
  |slot i hi=>exact .inl (.slot i hi)
  |cell a o b cs l e _ _ q1 q2 q3 q4 q5=>
   rw[wH]at q3
   rcases hold q2 with ⟨w1,w2⟩|⟨w1,w2⟩
   ·have q1':(s.st++new)[a]? =some (.box cs):=q1
    rw[List.getElem?_append_left (by omega)]at q1'
    obtain⟨x1,x2,_⟩:=hs.dom a b w2
    exact .inl (.cell a o b cs l e _ _ q1' w2 (by rw[←hget b x1 x2 (hcell q1' w2)];exact q3) q4 q5)
   ·have q1':(s.st++new)[a]? =some (.box cs):=q1
    rw[List.getElem?_append_right (by omega),hk]at q1'
    refine .inr ⟨.cell a o b cs l e _ _ ?_ w2 q3 q4 q5,a,o,rfl,w1⟩
    show(old++new)[a]? =_
    rw[List.getElem?_append_right (by rw[hol];exact w1),hol];exact q1'
 have key':∀lo v u,At φ s tm H lo v u→At (φ.join k φ') ⟨s.fr,s.al,s.st++new⟩ tm (H'.thaw H.fz) lo v u:=by
  intro lo v u ha
  cases ha with
  |slot i hi=>exact .slot i hi
  |cell a o b cs l e _ _ q1 q2 q3 q4 q5=>
   obtain⟨x1,x2,x3,_⟩:=hs.dom a b q2
   exact .cell a o b cs l e _ _ (by show(s.st++new)[a]? =_;rw[List.getElem?_append_left x3];exact q1) (hle a b q2) (by rw[wH,hget b x1 x2 (hcell q1 q2)];exact q3) q4 q5
 have oldown:∀{lo v u b},At φ s tm H lo v u→yU v u=some b→b.wf∧Before b H.n:=fun ha hb=>zDe hs ha hb
 have oldm:∀{lo v u b},At φ s tm H lo v u→yU v u=some b→∀ents n,H.get b≠some (.map ents n):=fun {lo v u b} ha hb ents n hg=>by
  obtain⟨_,l,e,sh,q⟩:=hs.own lo v u b ha hb
  rw[hg]at q;cases q
 have hmm:∀{a x},s.st[a]? =some x→(∀es,x≠.map es)→(∀es,x≠.fmap es)→∀b,φ a=some b→∀a',mapM old φ a'≠some b:=fun {a x} hx n1 n2 b hb a' e=>by
  obtain⟨es,_,_,_,h2,h4,_⟩:=hs.fm hO e
  obtain rfl:=hs.inj a a' b hb h2
  rcases h4 with h4|h4
  ·rw[hx]at h4;exact n1 _ (Option.some.inj h4)
  ·rw[hx]at h4;exact n2 _ (Option.some.inj h4)
 have hmp:∀{a es},(s.st[a]? =some (.map es)∨s.st[a]? =some (.fmap es))→∃b ents n,φ.join k φ' a=some b∧(H'.thaw H.fz).get b=some (.map ents n)∧EntsU (φ.join k φ') S' ents es:=fun {a es} hx=>by
  have hb:∃b ents n,φ a=some b∧H.get b=some (.map ents n)∧EntsU φ S ents es:=by
   rcases hx with hx|hx
   ·exact hs.bx a _ hx
   ·exact hs.bx a _ hx
  obtain⟨b,ents,n,q1,q2,q3⟩:=hb
  by_cases hf:∃a',mapM old φ a'=some b
  ·obtain⟨a',hf⟩:=hf
   obtain⟨es',_,_,h0,h2,h4,_,_,h5⟩:=hs.fm hO hf
   obtain rfl:=hs.inj a a' b q1 h2
   obtain rfl:es'=es:=by
    rcases hx with hx|hx<;>rcases h4 with h4|h4<;>rw[hx]at h4<;>cases h4<;>rfl
   obtain⟨c,ents',n',r1,r2,r3⟩:=h1.bx a (.fmap es') (by
    show(old++new)[a]? =_
    rw[List.getElem?_append_left (List.getElem?_eq_some_iff.1 h0).1];exact h0)
   rw[hl0 a b hf]at r1;cases r1
   exact⟨b,ents',n',hle a b q1,by rw[wH];exact r2,r3.nb h5⟩
  ·obtain⟨x1,x2,_⟩:=hs.dom a b q1
   exact⟨b,ents,n,hle a b q1,by rw[wH,hget2 b x1 x2 (fun a' e=>hf ⟨a',e⟩)];exact q2,q3.mono hle hS⟩
 refine⟨⟨by rw[zEH];exact h1.nok,?_,fun i hi=>(hs.fr i hi).mono hle hS,?_,?_,?_,?_,?_,?_,?_,?_,?_⟩,hle,?_⟩
 ·rw[zEl,zEH]
  have a1:=h1.fzn
  rw[hfz,Id.top_num hs.nok]at a1
  exact Nat.le_trans hs.fzn a1
 ·intro a x hx
  have hx:(s.st++new)[a]? =some x:=hx
  by_cases ha:a<k
  ·rw[List.getElem?_append_left (by omega)]at hx
   have mv:(∀es,x≠.map es)→(∀es,x≠.fmap es)→SBOk (φ.join k φ') S' (H'.thaw H.fz) a x:=fun n1 n2=>(hs.bx a x hx).move hle hS fun b hb=>by rw[wH];exact hget2 b (hs.dom a b hb).1 (hs.dom a b hb).2.1 (hmm hx n1 n2 b hb)
   cases x with
   |map es=>exact hmp (.inl hx)
   |fmap es=>exact hmp (.inr hx)
   |box cs=>exact mv (fun _ q=>by cases q) (fun _ q=>by cases q)
   |froz cs=>exact mv (fun _ q=>by cases q) (fun _ q=>by cases q)
   |loop q l=>exact mv (fun _ q=>by cases q) (fun _ q=>by cases q)
   |dead=>trivial
  ·have hx':(old++new)[a]? =some x:=by
    rw[List.getElem?_append_right (by omega),hol]
    rw[List.getElem?_append_right (by omega),hk]at hx;exact hx
   have hxn:=(hst hx' (by omega)).2
   exact(FwdS.ok (hn x hxn) (by omega) (h1.bx a x hx') φ).move (BMap.le_refl _) S'.le_refl fun b _=>wH _ _ _
 ·intro a b e
  rw[zEH,zEl]
  rcases hold e with ⟨w1,w2⟩|⟨w1,w2⟩
  ·obtain⟨x1,x2,x3,x4⟩:=hs.dom a b w2
   exact⟨x1,hbef b x2,by show a<(s.st++new).length;rw[List.length_append];omega,fun q=>x4 (q.app x3)⟩
  ·obtain⟨x1,x2,x3,x4⟩:=h1.dom a b w2
   have x3:a<(old++new).length:=x3
   refine⟨x1,x2,?_,fun _=>?_⟩
   ·show a<(s.st++new).length
    rw[List.length_append]at x3 ⊢;omega
   ·have x4:=x4 (hth w1)
    rw[hfz,Id.top_num hs.nok]at x4;exact Nat.le_trans hs.fzn x4
 ·intro a a' b e e'
  rcases hold e with ⟨w1,w2⟩|⟨w1,w2⟩<;>rcases hold e' with ⟨w3,w4⟩|⟨w3,w4⟩
  ·exact hs.inj a a' b w2 w4
  ·exact absurd (hs.dom a b w2).2.1 (hnew w3 w4)
  ·exact absurd (hs.dom a' b w4).2.1 (hnew w1 w2)
  ·exact h1.inj a a' b w2 w4
 ·intro b l hb
  obtain⟨q1,q2,q3,q4⟩:=h1.mem b l hb
  refine⟨q1,by rw[zEH];exact q2,fun a e=>?_,by rw[wH];exact q4⟩
  rcases hold e with ⟨w1,w2⟩|⟨w1,w2⟩
  ·obtain⟨x1,x2,x3,_⟩:=hs.dom a b w2
   cases hSb:S b with
   |some m=>
    obtain⟨cs,hc⟩:=(hs.mem b m hSb).2.2.1 a w2
    exact⟨cs,by show(s.st++new)[a]? =_;rw[List.getElem?_append_left x3];exact hc⟩
   |none=>
    have hf:∀a',mapM old φ a'≠some b:=fun a' e'=>by
     obtain⟨es',_,_,h0,_⟩:=hs.fm hO e'
     obtain⟨c,ents',n',r1,r2,r3⟩:=h1.bx a' (.fmap es') (by
      show(old++new)[a']? =_
      rw[List.getElem?_append_left (List.getElem?_eq_some_iff.1 h0).1];exact h0)
     rw[hl0 a' b e']at r1;cases r1
     rcases q4 with ⟨_,_,_,r,_⟩|r<;>rw[r2]at r<;>cases r
    have:=(h1.pnew b ⟨⟨⟨x1,x2⟩,hf⟩,hSb⟩).2
    rw[this]at hb;cases hb
  ·obtain⟨cs,hc⟩:=q3 a w2
   exact⟨cs,(hst hc w1).1⟩
 ·intro lo v u b ha hb
  rw[zEl]
  rcases key lo v u ha with ha|⟨ha,_⟩
  ·obtain⟨x1,l,e,sh,x2⟩:=hs.own lo v u b ha hb
   obtain⟨w1,w2⟩:=oldown ha hb
   exact⟨x1,l,e,sh,by rw[wH,hget b w1 w2 (oldm ha hb)];exact x2⟩
  ·obtain⟨x1,l,e,sh,x2⟩:=h1.own lo v u b ha hb
   rw[hfz,Id.top_num hs.nok]at x1
   exact⟨Nat.le_trans hs.fzn x1,l,e,sh,by rw[wH];exact x2⟩
 ·intro lo lo' v u v' u' b ha ha' hb hb'
  rcases key lo v u ha with ha|⟨ha,_⟩<;>rcases key lo' v' u' ha' with ha'|⟨ha',_⟩
  ·exact hs.excl lo lo' v u v' u' b ha ha' hb hb'
  ·exact absurd hb' ((h1.prot b ⟨oldown ha hb,hno b (oldm ha hb)⟩).2.2.2 lo' v' u' ha')
  ·exact absurd hb ((h1.prot b ⟨oldown ha' hb',hno b (oldm ha' hb')⟩).2.2.2 lo v u ha)
  ·exact h1.excl lo lo' v u v' u' b ha ha' hb hb'
 ·intro p hp
  obtain⟨x1,v,u,x2,x3⟩:=hs.ali p hp
  exact⟨x1,v,u,key' _ _ _ x2,x3⟩
 ·intro b hb
  obtain⟨x1,x2,x3,x4⟩:=hs.prot b hb
  refine⟨x1,by rw[zEH];exact hbef b x2,fun a e=>?_,fun lo v u ha=>?_⟩
  ·rcases hold e with ⟨w1,w2⟩|⟨w1,w2⟩
   ·obtain⟨cs,hc⟩:=x3 a w2
    exact⟨cs,by show(s.st++new)[a]? =_;rw[List.getElem?_append_left (by omega)];exact hc⟩
   ·exact absurd x2 (hnew w1 w2)
  ·rcases key lo v u ha with ha|⟨ha,_⟩
   ·exact x4 lo v u ha
   ·exact(h1.prot b ⟨⟨x1,x2⟩,hnoP b hb⟩).2.2.2 lo v u ha
 ·intro b hb
  obtain⟨x1,x2⟩:=hs.pnew b hb
  obtain⟨y1,y2,_⟩:=hs.prot b x1
  exact⟨x1,(h1.pnew b ⟨⟨⟨y1,y2⟩,hnoP b x1⟩,x2⟩).2⟩
 ·refine⟨zEl _ _,fun b hb=>by rw[zEH];exact hbef b hb,fun b hb=>?_,fun b _ hw hb=>?_⟩
  ·rw[wH];exact hget2 b (hs.prot b hb).1 (hs.prot b hb).2.1 (hnoP b hb)
  ·rw[wH]
   by_cases hf:∃a',mapM old φ a'=some b
   ·obtain⟨a',hf⟩:=hf
    obtain⟨_,ents,n,_,_,_,hg,_⟩:=hs.fm hO hf
    rw[hg];exact .map
   ·exact .of_eq (hget2 b hw hb (fun a' e=>hf ⟨a',e⟩))
theorem oldOk_dead(st:List SB):OldOk st (List.replicate st.length .dead):=⟨List.length_replicate,fun a x h=>by
 rw[List.getElem?_replicate]at h
 split at h
 ·cases h;exact .inl rfl
 ·cases h⟩
theorem d_callQM{all:List Oper}{l:List (Oper×M0)}{d:Option Nat}{g:FuncId}{xs:Array Operand}{ts:Array TypeId}{t:TypeId}{p:String}{e:Array Edge}{args:List U}{M:U→List SB→Prop}{Q:St→Prop}{n:Nat}{old:List SB}(hlen:s.st.length=n)(hO:OldOk s.st old)(hd:wj 1024 d=true)(hargs:∀u∈args,∀φ S v,VU φ S v u→VU (mapM old φ) S v u)
  (hw:WpC P is orc g args old fun u st'=>∃new,st'=old++new∧Fwd n u∧(∀x∈new,FwdS n x)∧M u new) (hle:UW (.l (zDG s xs.toList)) (.l args))
  (k:∀u new,M u new→WpD P is orc all l ((⟨s.fr,s.al,s.st++new⟩:St).dst d u) Q):
  WpD P is orc all ((⟨d,.call ⟨.value (.func g),xs,ts⟩,t,p,e,none⟩,.quiet)::l) s Q:=by
 subst hlen
 intro Pr φ S tm H m0 hm hp hs
 cases hm with
 |quiet _ _ m hm=>
  have e0:pend ((⟨d,.call ⟨.value (.func g),xs,ts⟩,t,p,e,none⟩,Md.quiet)::m)=pend m:=rfl
  rw[e0]at hp hs
  have hl:=UW.vu (zAH hs xs.toList) hle
  have hl0:LU (mapM old φ) S (xs.toList.map (zG tm)) args:=zDM hl fun v u hu hv=>hargs u hu _ _ _ hv
  obtain⟨φ',S',H',st',v,u,⟨n0,q1⟩,q2,q3,q4,q5,q6,q7,new,rfl,q8,q9,q10⟩:=hw _ _ _ _ _ _ _ (hs.aloneM hO) rfl hl0
  obtain⟨g1,g2,g3⟩:=hs.joinM rfl hO q2 q3 q4 q5 q9
  refine zDi ⟨n0,fun n hn=>?_⟩ g2 q4 (g3.weaken (fun b hb=>.inl hb) fun _ h=>h) (hm.keep fun i hi=>g3.get i (.inr hi)) ⟨hp.nodup,fun i hi=>by rw[g3.fz];exact hp.ok i hi,hp.out,hp.odd⟩
   (zBI g1 hd (q8.vu q6 φ) (NewOk.none (q7 v))) (k u new q10)
  show wO d tm (thawR H.fz ((zO true P is orc n).call g (yY tm xs.toList) H.freeze))=_
  rw[zBi,q1 n hn];rfl
theorem zGF{all:List Oper}{l:List (Oper×M0)}{d:Option Nat}{g:FuncId}{xs:Array Operand}{ts:Array TypeId}{t:TypeId}{p:String}{e:Array Edge}{args:List U}{M:U→List SB→Prop}{Q:St→Prop}{n:Nat}(hlen:s.st.length=n)(hd:wj 1024 d=true)(hargs:∀u∈args,NB u)
  (hw:WpC P is orc g args (List.replicate n .dead) fun u st'=>∃new,st'=List.replicate n .dead++new∧Fwd n u∧(∀x∈new,FwdS n x)∧M u new) (hle:UW (.l (zDG s xs.toList)) (.l args))
  (k:∀u new,M u new→WpD P is orc all l ((⟨s.fr,s.al,s.st++new⟩:St).dst d u) Q):
  WpD P is orc all ((⟨d,.call ⟨.value (.func g),xs,ts⟩,t,p,e,none⟩,.quiet)::l) s Q:=by
 subst hlen
 exact d_callQM (old:=List.replicate s.st.length .dead) rfl (oldOk_dead _) hd (fun u hu φ S v hv=>(hargs u hu φ S v hv).mono (fun a b h=>by cases h) S.le_refl) hw hle k
end Vam
namespace Vam
open Go
variable {P:Program}{is:FuncId→Bool}{orc:Known}
section calls
variable {s:St}{all l:List Oper}{d:Option Nat}{g:FuncId}{xs:Array Operand}{ts:Array TypeId}{t:TypeId}{p:String}{e:Array Edge}{args:List U}{M:U→List SB→Prop}{Q:St→Prop}
end calls
end Vam
namespace Vam
open Go
variable {P:Program}{is:FuncId→Bool}{orc:Known}{s:St}
theorem St.byList{l:List (Nat×U)}(h:Holds ⟨s.fr,[],s.st⟩ l):s=⟨fun j=>zCD l j (s.fr j),s.al,s.st⟩:=by
 have:=congrArg St.fr h.eq
 cases s with
 |mk fr al st=>
  have e:fr=fun j=>zCD l j (fr j):=this
  show St.mk fr al st=St.mk (fun j=>zCD l j (fr j)) al st
  rw[←e]
theorem yJ{all m:List Oper}{Q:St→Prop}(l:List (Nat×U))(al:List (Nat×Lo))(st:List SB)(h1:Holds ⟨s.fr,[],s.st⟩ l)(h2:s.st=st)(h3:s.al=al)(k:∀fr:Nat→U,WpO P is orc all m ⟨fun j=>zCD l j (fr j),al,st⟩ Q):WpO P is orc all m s Q:=by
 rw[St.byList h1]
 subst h2;subst h3
 exact k s.fr
theorem zp{all:List Oper}{m:List (Oper×M0)}{Q:St→Prop}(l:List (Nat×U))(al:List (Nat×Lo))(st:List SB)(h1:Holds ⟨s.fr,[],s.st⟩ l)(h2:s.st=st)(h3:s.al=al)(k:∀fr:Nat→U,WpD P is orc all m ⟨fun j=>zCD l j (fr j),al,st⟩ Q):WpD P is orc all m s Q:=by
 rw[St.byList h1]
 subst h2;subst h3
 exact k s.fr
theorem isCp_head{a n o:Nat}{r:List (Nat×Lo)}(h:s.al=(a,.cell n o)::r):isCp s a (.cell n o)=true:=by
 unfold isCp
 rw[h,List.any_cons]
 simp[Nat.beq_refl]
section slices
variable {Pr:Prt}{φ:BMap}{S:SMap}{tm:TT}{H:CH}{all l:List Oper}{d:Nat}{x:Operand}{xt t:TypeId}{p:String}{e:Array Edge}{Q:St→Prop}{es:List U}
end slices
end Vam
namespace Vam
open Go
variable {Pr:Prt}{φ φ' ψ:BMap}{S S' R:SMap}{s s':St}{tm tm':TT}{H H':CH}{P:Program}{is:FuncId→Bool}{orc:Known}
section ops
variable {all l:List Oper}{d:Nat}{x y:Operand}{t t' t1 t2 xt el:TypeId}{p:String}{e:Array Edge}{a off n c bb z zy len:Nat}{cs es xs ys:List U}{u:U}{Q:St→Prop}{zv:V}{ky:Kd}
end ops
end Vam
namespace Vam
open Go
variable {Pr:Prt}{φ φ' ψ:BMap}{S S' R:SMap}{s s':St}{tm tm':TT}{H H':CH}{P:Program}{is:FuncId→Bool}{orc:Known}
theorem zER{all l:List Oper}{d:Option Nat}{g:FuncId}{xs:Array Operand}{ts:Array TypeId}{t:TypeId}{p:String}{e:Array Edge}{args A B:List U}{r:U}{Q:St→Prop}{x:Nat}(hd:wj 1024 d=true)(hx:s.slot x=.fn g A B)(hr:RetP P is orc g args r)
  (hle:UW (.l (A++(zDG s xs.toList++B))) (.l args)) (k:WpO P is orc all l (s.dst d (dg r)) Q):WpO P is orc all (⟨d,.call ⟨.value (.tmp x),xs,ts⟩,t,p,e,none⟩::l) s Q:=by
 refine o_op (R:=fun u s1=>u=dg r∧s1=s) hd ?_ fun u s1 h=>by obtain⟨rfl,rfl⟩:=h;exact k
 intro Pr φ S tm H hs
 have hv:=zK hs (.tmp x)
 rw[show zQ s (.tmp x)=_ from hx]at hv
 generalize hq:zG tm (.tmp x)=w at hv
 cases hv with
 |fn _ VA VB _ _ a1 a2=>
  have hl:=UW.vu (LU.append a1 (LU.append (zAH hs xs.toList) a2)) hle
  have hl0:LU φ0 S (VA++(xs.toList.map (zG tm)++VB)) args:=zDM hl fun v u hu hv=>hr.dat u hu _ _ _ hv
  obtain⟨n0,v,H',S',h1,h2,h3⟩:=hr.run S H _ hs.memOk hs.fzn hl0
  obtain⟨g1,g2⟩:=hs.grow h2
  refine⟨v,_,s,H',φ,S',⟨n0,fun n hn=>?_⟩,g1,φ.le_refl,h2.le,g2,?_,NewOk.none (yk _ _),rfl,rfl⟩
  ·show zGr (zO true P is orc n) (tm.get x) (yY tm xs.toList) H=_
   rw[show tm.get x=_ from hq]
   show(zO true P is orc n).call g (appV (zF VA) (appV (yY tm xs.toList) (zF VB))) H=_
   rw[zBi,zED,zED];exact h1 n hn
  ·exact VU.dg (h3.mono (ψ:=φ) (fun a b h=>by cases h) S'.le_refl)
end Vam
namespace Vam
open Go
variable {Pr:Prt}{φ φ' ψ:BMap}{S S' R:SMap}{s s':St}{tm tm':TT}{H H':CH}{P:Program}{is:FuncId→Bool}{orc:Known}
section ops
variable {all l:List Oper}{d:Nat}{x y:Operand}{t xt t1 t2 el:TypeId}{p:String}{e:Array Edge}{a off n c z:Nat}{cs es:List U}{Q:St→Prop}{kd:Kd}
end ops
end Vam
namespace Vam
open Go
variable {Pr:Prt}{φ φ' ψ:BMap}{S S' R:SMap}{s s':St}{tm tm':TT}{H H':CH}{P:Program}{is:FuncId→Bool}{orc:Known}
section ops
variable {all l:List Oper}{d:Nat}{x:Operand}{t xt:TypeId}{p:String}{e:Array Edge}{es:List U}{Q:St→Prop}
end ops
end Vam
namespace Vam
open Go
variable {Pr:Prt}{φ φ' ψ:BMap}{S S' R:SMap}{s s':St}{tm tm':TT}{H H':CH}{P:Program}{is:FuncId→Bool}{orc:Known}
section ops
variable {all l:List Oper}{d:Nat}{x y:Operand}{t t' t1 t2 xt el:TypeId}{p:String}{e:Array Edge}{a off n c bb z zy len:Nat}{cs es xs ys:List U}{u:U}{Q:St→Prop}{zv:V}{ky:Kd}
end ops
end Vam
namespace Vam
open Go
variable {s:St}{P:Program}{is:FuncId→Bool}{orc:Known}
end Vam
namespace Vam
open Go
variable {s:St}{P:Program}{is:FuncId→Bool}{orc:Known}
end Vam
