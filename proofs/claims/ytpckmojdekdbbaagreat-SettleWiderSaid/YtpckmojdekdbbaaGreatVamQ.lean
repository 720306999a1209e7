import Derived.Test.YtpckmojdekdbbaaGreatVamP
set_option linter.unusedVariables false
set_option linter.unusedSimpArgs false
namespace Vam
open Go
variable {Pr:Prt}{φ φ' ψ:BMap}{S S' R:SMap}{s s':St}{tm tm':TT}{H H':CH}{P:Program}{is:FuncId→Bool}{orc:Known}
def flatC(u:U):Bool:=match u with
 | .int _ _=>true
 | .bool _=>true
 | .str _=>true
 |_=>false
def flatK(u:U):Bool:=match u with
 | .agg cs=>cs.all flatC
 |u=>flatC u
def val1(u:U):V:=match u with
 | .int k n=>.int k n
 | .bool b=>.bool b
 | .str s=>.str s
 |_=>undef
noncomputable def valK(u:U):V:=match u with
 | .agg cs=>.agg (zD (cs.map val1))
 |u=>val1 u
theorem val1_of{v:V}{u:U}(h:VU φ S v u)(hf:flatC u=true):v=val1 u:=by
 cases h<;>first|rfl|cases hf
theorem valL_of{l:List V}{us:List U}(h:LU φ S l us)(hf:us.all flatC=true):l=us.map val1:=by
 induction us generalizing l with
 |nil=>cases h;rfl
 |cons u us ih=>
  cases h with
  |cons x l _ _ h1 h2=>
   simp only[List.all_cons,Bool.and_eq_true]at hf
   rw[val1_of h1 hf.1,ih h2 hf.2];rfl
theorem zGJ{v:V}{u:U}(h:VU φ S v u)(hf:flatK u=true):v=valK u:=by
 cases h with
 |agg l cs h1=>show V.agg (zD l)=_;rw[valL_of h1 hf];rfl
 |int k n=>rfl
 |bool b=>rfl
 |str s=>rfl
 |_=>cases hf
theorem valK_rel{u:U}(hf:flatK u=true):VU φ S (valK u) u:=by
 have one:∀u,flatC u=true→VU φ S (val1 u) u:=by
  intro u h
  cases u<;>first|exact .int _ _|exact .bool _|exact .str _|cases h
 cases u with
 |agg cs=>
  refine .agg _ _ ?_
  have:∀cs:List U,cs.all flatC=true→LU φ S (cs.map val1) cs:=by
   intro cs
   induction cs with
   |nil=>intro _;exact .nil
   |cons c cs ih=>
    intro h
    simp only[List.all_cons,Bool.and_eq_true]at h
    exact .cons _ _ _ _ (one c h.1) (ih h.2)
  exact this cs hf
 |int k n=>exact .int _ _
 |bool b=>exact .bool _
 |str q=>exact .str _
 |_=>cases hf
section ops
variable {all l:List Oper}{d:Nat}{xt yt t:TypeId}{p:String}{e:Array Edge}{Q:St→Prop}{x y:Operand}{u w:U}{a off:Nat}{cs:List U}
theorem o_binK{op:BinOp}{b:Bool}(hd:Nat.blt d 1024=true)(hx:zL s x=u)(hy:zL s y=w)(fu:flatK u=true)(fw:flatK w=true)(he:binV P xt op (valK u) (valK w)=some (.bool b))(k:WpO P is orc all l (s.put d (.bool b)) Q):
  WpO P is orc all (⟨some d,.binOp op xt x y yt,t,p,e,none⟩::l) s Q:=by
 refine wY hd (fun w=>rfl) (fun Pr φ S tm H hs=>⟨.bool b,fun E=>?_,.bool b⟩) k
 have h1:=zI hs x
 have h2:=zI hs y
 rw[hx]at h1;rw[hy]at h2
 show zp H (binV P xt op (zG tm x) (zG tm y))=_
 rw[zGJ h1 fu,zGJ h2 fw,he];rfl
open Classical in
noncomputable def getK:List (U×U)→U→Option U
 |[],_=>none
 |p::ps,k=>if p.1=k then some p.2 else getK ps k
open Classical in
noncomputable def setK:List (U×U)→U→U→List (U×U)
 |[],k,v=>[(k,v)]
 |p::ps,k,v=>if p.1=k then(k,v)::ps else p::setK ps k v
theorem getK_setK(ps:List (U×U))(k v j:U)[Decidable (j=k)]:getK (setK ps k v) j=if j=k then some v else getK ps j:=by
 induction ps with
 |nil=>
  unfold setK getK getK
  by_cases h:j=k
  ·subst h;simp
  ·rw[if_neg (fun e=>h e.symm),if_neg h]
 |cons p ps ih=>
  unfold setK
  by_cases h1:p.1=k
  ·rw[if_pos h1]
   by_cases h:j=k
   ·subst h;unfold getK;simp
   ·unfold getK
    rw[if_neg (fun e=>h e.symm),if_neg h,if_neg (fun e=>h (e.symm.trans h1))]
  ·rw[if_neg h1]
   unfold getK
   by_cases h2:p.1=j
   ·rw[if_pos h2,if_pos h2,if_neg (fun e=>h1 (h2.trans e))]
   ·rw[if_neg h2,if_neg h2]
    exact ih
theorem mem_setK{ps:List (U×U)}{k v:U}{q:U×U}(h:q∈setK ps k v):q=(k,v)∨q∈ps:=by
 induction ps with
 |nil=>unfold setK at h;rcases List.mem_singleton.1 h with rfl;exact .inl rfl
 |cons p ps ih=>
  unfold setK at h
  split at h
  ·rcases List.mem_cons.1 h with rfl|h
   ·exact .inl rfl
   ·exact .inr (List.mem_cons_of_mem _ h)
  ·rcases List.mem_cons.1 h with rfl|h
   ·exact .inr List.mem_cons_self
   ·exact(ih h).imp id (List.mem_cons_of_mem _)
def KeyOk(P:Program)(kt:TypeId)(k:U)(ps:List (U×U)):Prop:=flatK k=true∧keyT P kt (valK k)=true∧sameV (valK k) (valK k)=true∧∀p∈ps,flatK p.1=true∧∃b,eqT P kt (valK k) (valK p.1)=some b∧(b=true↔p.1=k)
theorem find_run{kt:TypeId}{k:U}:∀{es:List Ent} {ps:List (U×U)},EntsU φ S es ps→(∀p∈ps,flatK p.1=true∧∃b,eqT P kt (valK k) (valK p.1)=some b∧(b=true↔p.1=k))→∀i,
  (∃j v e x,zCl P kt (valK k) es i=some (some (i+j,valK k,v))∧es[j]? =some e∧ps[j]? =some (k,x)∧v=e.val∧VU φ S v x∧(∀w,yN w x=none)∧getK ps k=some x∧(∀y,setK ps k y=ps.set j (k,y)))∨(zCl P kt (valK k) es i=some none∧getK ps k=none∧∀y,setK ps k y=ps++[(k,y)]):=by
 intro es ps h
 induction h with
 |nil=>intro _ i;exact .inr ⟨rfl,rfl,fun _=>rfl⟩
 |cons e es p ps h1 h2 h3 _ ih=>
  intro hk i
  obtain⟨f1,b,f2,f3⟩:=hk p List.mem_cons_self
  have hkey:=zGJ h1 f1
  have hstep:zCl P kt (valK k) (e::es) i=cond b (some (some (i,e.key,e.val))) (zCl P kt (valK k) es (i+1)):=by
   show opt none (fun b=>cond b (some (some (i,e.key,e.val))) (zCl P kt (valK k) es (Nat.succ i))) (eqT P kt (valK k) e.key)=_
   rw[hkey,f2];rfl
  by_cases hb:p.1=k
  ·have hb':=f3.2 hb
   subst hb'
   left
   refine⟨0,e.val,e,p.2,?_,rfl,by rw[←hb];rfl,rfl,h2,h3,?_,fun y=>?_⟩
   ·rw[hstep,hkey,hb];rfl
   ·unfold getK;rw[if_pos hb]
   ·unfold setK;rw[if_pos hb];rfl
  ·have hb':b=false:=by
    cases b with
    |false=>rfl
    |true=>exact absurd (f3.1 rfl) hb
   subst hb'
   rcases ih (fun q hq=>hk q (List.mem_cons_of_mem _ hq)) (i+1)with ⟨j,v,e',x,q1,q2,q3,q4,q5,q6,q7,q8⟩|⟨q1,q2,q3⟩
   ·left
    refine⟨j+1,v,e',x,?_,by simpa using q2,by simpa using q3,q4,q5,q6,?_,fun y=>?_⟩
    ·rw[hstep]
     show zCl P kt (valK k) es (i+1)=_
     rw[q1,show i+1+j=i+(j+1) by omega]
    ·unfold getK;rw[if_neg hb];exact q7
    ·unfold setK;rw[if_neg hb,q8 y];rfl
   ·right
    refine⟨by rw[hstep];exact q1,?_,fun y=>?_⟩
    ·unfold getK;rw[if_neg hb];exact q2
    ·unfold setK;rw[if_neg hb,q3 y];rfl
theorem mp_of{v:V}{a:Nat}(h:VU φ S v (.mp a)):∃b,φ a=some b∧v=.map b:=by cases h with|mp _ b hk=>exact⟨b,hk,rfl⟩
theorem o_lookup{kt el:TypeId}{ps:List (U×U)}{key r z:U}{zv:V}{ok:Bool}(hd:Nat.blt d 1024=true)(ht:tyOf P xt=.map kt el)(hx:zL s x=.mp a)(hst:s.st[a]? =some (.map ps))(hy:zL s y=key)(hk:KeyOk P kt key ps)(hz:zeroV P el=some zv)(hzu:uOfV zv=z)(hzn:∀m,zv=.agg m→∃l,m=zD l)
  (hr:r=match getK ps key with|some u=>cond ok (.tup [u,.bool true]) u|none=>cond ok (.tup [z,.bool false]) z) (k:WpO P is orc all l (s.put d (dg r)) Q):
  WpO P is orc all (⟨some d,.lookup xt x y ok,t,p,e,none⟩::l) s Q:=by
 subst hr
 refine wY hd (fun w=>yd w _) (fun Pr φ S tm H hs=>?_) k
 have h1:=zI hs x
 have h2:=zI hs y
 rw[hx]at h1;rw[hy]at h2
 obtain⟨b,g1,g2⟩:=mp_of h1
 obtain⟨b',es,n,q1,q2,q3⟩:=hs.bx a _ hst
 rw[g1]at q1;cases q1
 have hkv:=zGJ h2 hk.1
 have hz2:VU φ S zv z:=by
  rw[←hzu]
  unfold uOfV
  split
  ·obtain⟨l,rfl⟩:=hzn _ rfl;exact .agg _ _ (zCn l)
  ·exact uOf_rel _
 have hrun:wk P H xt (zG tm x) (zG tm y) ok=opt (opt none (fun z=>some (zEW ok z false)) (zeroV P el)) (fun iv=>some (zEW ok iv.2.2 true)) ((zCl P kt (valK key) es 0).getD none):=by
  unfold wk
  rw[ht,hkv]
  show cond (keyT P kt (valK key)) _ none=_
  rw[hk.2.1]
  show opt none _ (mapEs H (zG tm x))=_
  rw[g2]
  have:mapEs H (.map b)=some es:=by
   show zGX none (fun es _=>some es) (H.get b)=_
   rw[q2];rfl
  rw[this]
  show opt none (fun r=>opt (opt none (fun z=>some (zEW ok z false)) (zeroV P el)) (fun iv=>some (zEW ok iv.2.2 true)) r) (zCl P kt (valK key) es 0)=_
  rcases find_run q3 hk.2.2.2 0 with ⟨j,v,e',x',w1,_⟩|⟨w1,_⟩<;>rw[w1]<;>rfl
 rcases find_run q3 hk.2.2.2 0 with ⟨j,v,e',x',w1,w2,w3,w4,w5,w6,w7,w8⟩|⟨w1,w2,w3⟩
 ·refine⟨zEW ok v true,fun E=>?_,?_⟩
  ·show zp H (wk P H xt (zG tm x) (zG tm y) ok)=_
   rw[hrun,w1];rfl
  ·rw[w7]
   refine VU.dg ?_
   cases ok with
   |true=>exact .tup _ _ (.cons _ _ _ _ w5 (.cons _ _ _ _ (.bool _) .nil))
   |false=>exact w5
 ·refine⟨zEW ok zv false,fun E=>?_,?_⟩
  ·show zp H (wk P H xt (zG tm x) (zG tm y) ok)=_
   rw[hrun,w1]
   show zp H (opt none (fun z=>some (zEW ok z false)) (zeroV P el))=_
   rw[hz];rfl
  ·rw[w2]
   refine VU.dg ?_
   cases ok with
   |true=>exact .tup [zv,.bool false] _ (.cons _ _ _ _ hz2 (.cons _ _ _ _ (.bool _) .nil))
   |false=>exact hz2
theorem setEnt_run{es:List Ent}{ps:List (U×U)}(h:EntsU φ S es ps):∀{j:Nat} {e:Ent} {v:V} {x k:U},es[j]? =some e→VU φ S (valK k) k→VU φ S v x→(∀w,yN w x=none)→EntsU φ S (zCq (valK k) v es j) (ps.set j (k,x)):=by
 induction h with
 |nil=>intro j e v x k h;simp at h
 |cons e es p ps h1 h2 h3 h4 ih=>
  intro j e' v x k hj hk hv hx
  cases j with
  |zero=>exact .cons _ _ _ _ hk hv hx h4
  |succ j=>exact .cons _ _ _ _ h1 h2 h3 (ih (by simpa using hj) hk hv hx)
theorem EntsU.snoc{es:List Ent}{ps:List (U×U)}(h:EntsU φ S es ps){e:Ent}{p:U×U}(h1:VU φ S e.key p.1)(h2:VU φ S e.val p.2)(h3:∀v,yN v p.2=none):EntsU φ S (es++[e]) (ps++[p]):=by
 induction h with
 |nil=>exact .cons _ _ _ _ h1 h2 h3 .nil
 |cons e' es p' ps a b c _ ih=>exact .cons _ _ _ _ a b c ih
def St.setS(s:St)(a:Nat)(x:SB):St:=⟨s.fr,[],s.st.set a x⟩
theorem o_mapUpdate{kt el:TypeId}{ps:List (U×U)}{key:U}{v:Operand}{dst:Option Nat}(hd:zBD 1024 dst=true)(ht:tyOf P xt=.map kt el)(hx:zL s x=.mp a)(hst:s.st[a]? =some (.map ps))(hy:zL s y=key)(hk:KeyOk P kt key ps)
  (k:WpO P is orc all l ((s.setS a (.map (setK ps key (dg (zL s v))))).dst dst .junk) Q):
  WpO P is orc all (⟨dst,.mapUpdate xt x y v,t,p,e,none⟩::l) s Q:=by
 refine o_op (R:=fun u s1=>u=.junk∧s1=s.setS a (.map (setK ps key (dg (zL s v))))) hd ?_ fun u s1 h=>by obtain⟨rfl,rfl⟩:=h;exact k
 intro Pr φ S tm H hs
 have h1:=zI hs x
 have h2:=zI hs y
 have h3:=(zI hs v).dg
 rw[hx]at h1;rw[hy]at h2
 obtain⟨b,g1,g2⟩:=mp_of h1
 obtain⟨b',es,n,q1,q2,q3⟩:=hs.bx a _ hst
 rw[g1]at q1;cases q1
 have hkv:=zGJ h2 hk.1
 obtain⟨es',n',r1,r2⟩:∃es' n',(∀H',H.set b (.map es' n')=some H'→wR P xt H (zG tm x) (zG tm y) (zG tm v)=some H')∧EntsU φ S es' (setK ps key (dg (zL s v))):=by
  have hrun:∀o,zCl P kt (valK key) es 0=some o→wR P xt H (zG tm x) (zG tm y) (zG tm v)=opt (H.set b (.map (es++[⟨valK key,zG tm v,n⟩]) (Nat.succ n))) (fun iv=>cond (sameV iv.2.1 (valK key)) (H.set b (.map (zCq (valK key) (zG tm v) es iv.1) n)) none) o:=by
   intro o ho
   unfold wR
   rw[ht,hkv,g2]
   show cond (keyT P kt (valK key)) (zGX none (mapSet P kt H b (valK key) (zG tm v)) (H.get b)) none=_
   rw[hk.2.1,q2]
   show opt none _ (zCl P kt (valK key) es 0)=_
   rw[ho];rfl
  rcases find_run q3 hk.2.2.2 0 with ⟨j,w,e',x',w1,w2,w3,w4,w5,w6,w7,w8⟩|⟨w1,w2,w3⟩
  ·refine⟨zCq (valK key) (zG tm v) es j,n,fun H' hH=>?_,by rw[w8];exact setEnt_run q3 w2 (valK_rel hk.1) h3 (fun w=>yd w _)⟩
   rw[hrun _ w1]
   show cond (sameV (valK key) (valK key)) (H.set b (.map (zCq (valK key) (zG tm v) es (0+j)) n)) none=_
   rw[hk.2.2.1,Nat.zero_add];exact hH
  ·refine⟨es++[⟨valK key,zG tm v,n⟩],n+1,fun H' hH=>?_,by rw[w3];exact q3.snoc (valK_rel hk.1) h3 (fun w=>yd w _)⟩
   rw[hrun _ w1];exact hH
 obtain⟨H',u1,u2,u3,_⟩:=hs.updS (k1:=.map es' n') hst (x':=.map (setK ps key (dg (zL s v)))) trivial trivial g1 q2 (fun _ _ _ _ h=>by cases h) (fun _ h=>by cases h) .map fun H' hg=>⟨b,es',n',g1,hg,r2⟩
 refine⟨undef,.junk,_,H',φ,S,⟨0,fun n _=>?_⟩,u2,φ.le_refl,S.le_refl,u3,.junk _,NewOk.none rfl,rfl,rfl⟩
 show zEF (wR P xt H (zG tm x) (zG tm y) (zG tm v))=_
 rw[r1 H' u1];rfl
end ops
end Vam
namespace Vam
open Go
variable {Pr:Prt}{φ φ' ψ:BMap}{S S' R:SMap}{s s':St}{tm tm':TT}{H H':CH}{P:Program}{is:FuncId→Bool}{orc:Known}
noncomputable def St.frz(s:St)(a:Nat)(cs:List U):St:=⟨s.fr,zCf (fun p=> !(p.2.isCell a)) s.al,s.st.set a (.froz (cs.map dg))⟩
theorem SR.freeze(hs:SR Pr φ S s tm H){a:Nat}{cs:List U}(hst:s.st[a]? =some (.box cs)){b:Id}(hφ:φ a=some b){m:List V}{e:TypeId}(hg:H.get b=some (.cells (zD m) e 0 []))(hm:LU φ S m cs):
  SR Pr φ (S.with b m) (s.frz a cs) tm H∧S.le (S.with b m):=by
 obtain⟨d1,d2,d3,d4⟩:=hs.dom a b hφ
 have hnone:S b=none:=by
  cases h:S b with
  |none=>rfl
  |some l=>
   obtain⟨cs',hc⟩:=(hs.mem b l h).2.2.1 a hφ
   rw[hst]at hc;cases hc
 have hle:=SMap.le_with m hnone
 have hfr:∀(a':Nat),(∃cs,s.st[a']? =some (SB.froz cs))→∃cs',(s.st.set a (.froz (cs.map dg)))[a']? =some (SB.froz cs'):=by
  rintro a' ⟨cs',hc⟩
  have hne':a'≠a:=by rintro rfl;rw[hst]at hc;cases hc
  exact⟨cs',by rw[List.getElem?_set_ne (Ne.symm hne')];exact hc⟩
 have key:∀lo v u,At φ (s.frz a cs) tm H lo v u→At φ s tm H lo v u:=by
  intro lo v u ha
  cases ha with
  |slot i hi=>exact .slot i hi
  |cell c o b' cs' l e _ _ q1 q2 q3 q4 q5=>
   have q1:(s.st.set a (.froz (cs.map dg)))[c]? =some (.box cs'):=q1
   have ec:c≠a:=by rintro rfl;rw[List.getElem?_set_self d3]at q1;cases q1
   rw[List.getElem?_set_ne (Ne.symm ec)]at q1
   exact .cell c o b' cs' l e _ _ q1 q2 q3 q4 q5
 refine⟨⟨hs.nok,hs.fzn,fun i hi=>(hs.fr i hi).mono φ.le_refl hle,?_,?_,hs.inj,?_,fun lo v u c ha hc=>hs.own lo v u c (key _ _ _ ha) hc,fun lo lo' v u v' u' c ha ha' hc hc'=>hs.excl lo lo' v u v' u' c (key _ _ _ ha) (key _ _ _ ha') hc hc',?_,?_,?_⟩,hle⟩
 ·intro c x hx
  have hx:(s.st.set a (.froz (cs.map dg)))[c]? =some x:=hx
  by_cases ec:c=a
  ·subst ec
   rw[List.getElem?_set_self d3]at hx
   cases hx
   exact⟨b,m,hφ,SMap.with_self _ _ _,(LU.dgs hm).mono φ.le_refl hle⟩
  ·rw[List.getElem?_set_ne (Ne.symm ec)]at hx
   exact(hs.bx c x hx).move φ.le_refl hle fun _ _=>rfl
 ·intro c b' hc
  obtain⟨q1,q2,q3,q4⟩:=hs.dom c b' hc
  exact⟨q1,q2,by show c<(s.st.set a _).length;simpa using q3,q4⟩
 ·intro c l hc
  unfold SMap.with at hc
  split at hc
  ·rename_i ec;subst ec;cases hc
   refine⟨d1,d2,fun a' ha'=>?_,.inl ⟨e,0,[],hg,by decide⟩⟩
   have:=hs.inj a' a c ha' hφ
   subst this
   exact⟨_,by show(s.st.set a' _)[a']? =_;rw[List.getElem?_set_self d3]⟩
  ·obtain⟨q1,q2,q3,q4⟩:=hs.mem c l hc
   exact⟨q1,q2,fun a' ha'=>hfr a' (q3 a' ha'),q4⟩
 ·intro p hp
  have hp:p∈zCf (fun p=> !(p.2.isCell a)) s.al:=hp
  rw[zGg]at hp
  obtain⟨p1,p2⟩:=List.mem_filter.1 hp
  obtain⟨q1,v,u,q2,q3⟩:=hs.ali p p1
  refine⟨q1,v,u,?_,q3⟩
  cases hlo:p.2 with
  |slot i=>rw[hlo]at q2;cases q2 with|slot _ hi=>exact .slot i hi
  |cell c o=>
   rw[hlo]at q2
   have ec:c≠a:=by rintro rfl;rw[hlo]at p2;simp[Lo.isCell]at p2
   cases q2 with
   |cell _ _ b' cs2 l2 e2 _ _ k1 k2 k3 k4 k5=>exact .cell c o b' cs2 l2 e2 _ _ (by show(s.st.set a _)[c]? =_;rw[List.getElem?_set_ne (Ne.symm ec)];exact k1) k2 k3 k4 k5
 ·intro c hc
  obtain⟨q1,q2,q3,q4⟩:=hs.prot c hc
  exact⟨q1,q2,fun a' ha'=>hfr a' (q3 a' ha'),fun lo v u ha=>q4 lo v u (key _ _ _ ha)⟩
 ·intro c hc
  obtain⟨q1,q2⟩:=hs.pnew c hc
  refine⟨q1,?_⟩
  unfold SMap.with
  rw[if_neg];exact q2
  rintro rfl;exact hs.pnew_ne hc a hφ
section ops
variable {all l:List Oper}{d:Nat}{xt t t':TypeId}{p:String}{e:Array Edge}{Q:St→Prop}{x:Operand}{u:U}{a off:Nat}{cs es:List U}
def natO(s:St)(o:Option Operand)(d l:Nat):Prop:=match o with
 |none=>l=d
 |some x=>∃k,zL s x=.int k (l:Int)
theorem natO_run(hs:SR Pr φ S s tm H){o:Option Operand}{d l:Nat}(h:natO s o d l):(o=none∧l=d)∨∃x k,o=some x∧zb tm o=some (.int k (l:Int)):=by
 cases o with
 |none=>exact .inl ⟨rfl,h⟩
 |some x=>
  obtain⟨k,h⟩:=h
  have h1:=zI hs x
  rw[h]at h1
  exact .inr ⟨x,k,rfl,by show some (zG tm x)=_;rw[zBX h1]⟩
theorem bounds_run(hs:SR Pr φ S s tm H){lo hi mx:Option Operand}{n l h m:Nat}(hm:natO s mx n m)(hh:natO s hi n h)(hl:natO s lo 0 l)(h3:mx=none∨hi≠none)(h0:l≤h)(h1:h≤m)(h2:m≤n):
  opt (some n) (sliceB n) (zb tm mx)=some m∧zCL n m (zb tm lo) (zb tm hi) (zb tm mx)=some (l,h):=by
 have lo1:opt (some 0) (sliceB h) (zb tm lo)=some l:=by
  rcases natO_run hs hl with ⟨rfl,rfl⟩|⟨x,k,rfl,e⟩
  ·rfl
  ·rw[e]
   show cond (Nat.ble l h) (some l) none=_
   rw[show Nat.ble l h=true by rw[Nat.ble_eq];exact h0];rfl
 have hi1:opt (opt (some n) (fun _=>none) (zb tm mx)) (sliceB m) (zb tm hi)=some h:=by
  rcases natO_run hs hh with ⟨rfl,rfl⟩|⟨x,k,rfl,e⟩
  ·rcases h3 with rfl|h3
   ·rfl
   ·exact absurd rfl h3
  ·rw[e]
   show cond (Nat.ble h m) (some h) none=_
   rw[show Nat.ble h m=true by rw[Nat.ble_eq];exact h1];rfl
 refine⟨?_,?_⟩
 ·rcases natO_run hs hm with ⟨rfl,rfl⟩|⟨x,k,rfl,e⟩
  ·rfl
  ·rw[e]
   show cond (Nat.ble m n) (some m) none=_
   rw[show Nat.ble m n=true by rw[Nat.ble_eq];exact h2];rfl
 ·show opt none (fun h=>opt none (fun l=>some (l,h)) (opt (some 0) (sliceB h) (zb tm lo))) (opt (opt (some n) (fun _=>none) (zb tm mx)) (sliceB m) (zb tm hi))=_
  rw[hi1]
  show opt none (fun l=>some (l,h)) (opt (some 0) (sliceB h) (zb tm lo))=_
  rw[lo1];rfl
theorem o_sliceA{lo hi mx:Option Operand}{el:TypeId}{n c l1 h1 m1:Nat}(hd:Nat.blt d 1024=true)(ht:tyOf P xt=.array n el)(hc:P.cellsOf el=c)(h0:Nat.blt 0 c=true)(hx:zL s x=.box a off)(hb:s.st[a]? =some (.box cs))(hbig:Nat.ble (off+n*c) cs.length=true)
  (hm:natO s mx n m1) (hh:natO s hi n h1) (hl:natO s lo 0 l1) (hn:mx=none∨hi≠none) (b0:l1≤h1) (b1:h1≤m1) (b2:m1≤n) (hes:zT es=((cs.map dg).drop (off+l1*c)).take ((h1 - l1)*c)) (hez:∀e∈es,(zZ e).length=c) (hel:es.length=h1 - l1)
  (k:WpO P is orc all l ((s.frz a cs).put d (.lst .ro c es)) Q):WpO P is orc all (⟨some d,.slice xt x lo hi mx,t,p,e,none⟩::l) s Q:=by
 have hbig:=Nat.le_of_ble_eq_true hbig
 have h0:=yj h0
 refine o_op (R:=fun u s1=>u=.lst .ro c es∧s1=s.frz a cs) hd ?_ fun u s1 h=>by obtain⟨rfl,rfl⟩:=h;exact k
 intro Pr φ S tm H hs
 have g1:=zI hs x
 rw[hx]at g1
 obtain⟨b,g2,g3⟩:=zDi g1
 obtain⟨b',m,ty,q1,q2,q3⟩:=hs.box a cs hb
 rw[g2]at q1;cases q1
 obtain⟨f1,f2⟩:=hs.freeze hb g2 q2 q3
 obtain⟨r1,r2⟩:=bounds_run hs hm hh hl hn b0 b1 b2
 have hrun:zBs P xt (zG tm x) (zb tm lo) (zb tm hi) (zb tm mx)=zAh c b off m1 true l1 h1:=by
  unfold zBs
  rw[ht,g3]
  show cond (zGj b) none (zFl (P.cellsOf el) n (zb tm lo) (zb tm hi) (zb tm mx) b off)=_
  rw[zGi (hs.dom a b g2).1]
  show zFl (P.cellsOf el) n (zb tm lo) (zb tm hi) (zb tm mx) b off=_
  unfold zFl
  rw[r1,hc]
  show opt none (fun lh=>zAh c b off m1 true lh.1 lh.2) (zCL n m1 (zb tm lo) (zb tm hi) (zb tm mx))=_
  rw[r2];rfl
 have hmul:l1*c+(h1 - l1)*c≤n*c:=by
  rw[←Nat.add_mul];exact Nat.mul_le_mul_right _ (by omega)
 have hmlen:m.length=cs.length:=q3.len
 have hL:LU φ (S.with b m) (((m.drop (off+l1*c)).take ((h1 - l1)*c))) (zT es):=by
  rw[hes]
  exact((LU.dgs (LU.drop (q3.mono φ.le_refl f2) (off+l1*c))).take _ |> fun h=>by rwa [List.map_drop]at h)
 obtain⟨v,hv1,hv2⟩:∃v,zAh c b off m1 true l1 h1=some v∧VU φ (S.with b m) v (.lst .ro c es):=by
  unfold zAh
  by_cases e1:m1=l1
  ·subst e1
   have:h1=m1:=by omega
   subst this
   rw[Nat.beq_refl]
   refine⟨_,rfl,?_⟩
   have he:es=[]:=by rw[Nat.sub_self]at hel;exact List.length_eq_zero_iff.1 hel
   subst he
   refine .slice b off (h1 - h1) (capX 0) c m [] (m.drop off) .ro [] (SMap.with_self _ _ _) (by simp) .nil (by simp) (by simp) ⟨by omega,by rw[Nat.sub_self];exact Nat.zero_le _,trivial⟩ h0
  ·rw[beq_ne e1]
   refine⟨_,rfl,?_⟩
   refine .slice b (off+l1*c) (h1 - l1) (capX (m1 - l1)) c m _ ((m.drop (off+l1*c)).drop ((h1 - l1)*c)) .ro es (SMap.with_self _ _ _) (List.take_append_drop _ _).symm hL hez hel ⟨by omega,?_,trivial⟩ h0
   show h1 - l1≤(2*(m1 - l1)+1) / 2
   omega
 refine⟨v,_,_,H,φ,S.with b m,⟨0,fun n _=>?_⟩,f1,φ.le_refl,f2,Kept.refl _ _,hv2,NewOk.none rfl,rfl,rfl⟩
 show zp H (zBs P xt (zG tm x) (zb tm lo) (zb tm hi) (zb tm mx))=_
 rw[hrun,hv1];rfl
end ops
end Vam
namespace Vam
open Go
variable {Pr:Prt}{φ φ' ψ:BMap}{S S' R:SMap}{s s':St}{tm tm':TT}{H H':CH}{P:Program}{is:FuncId→Bool}{orc:Known}
theorem o_idx1{all l:List Oper}{d:Nat}{x y:Operand}{xt t el:TypeId}{p:String}{e:Array Edge}{Q:St→Prop}{cs:List U}{u:U}{n c:Nat}{ki:IntKind}{i:Int}(hd:Nat.blt d 1024=true)(ht:tyOf P xt=.array n el)(hx:zL s x=.agg cs)(hi:zL s y=.int ki i)(h0:0≤i)(he:i<n)
  (hc:P.cellsOf el=c) (hsh:shOf P el=.one) (hu:cs[i.toNat*c]? =some u) (k:WpO P is orc all l (s.put d (dg u)) Q):WpO P is orc all (⟨some d,.index xt x y,t,p,e,none⟩::l) s Q:=by
 refine wY hd (fun w=>yd w u) (fun Pr φ S tm H hs=>?_) k
 have h1:=zI hs x
 rw[hx]at h1
 obtain⟨m,g1,g2⟩:=zHl h1
 have h2:=zI hs y
 rw[hi]at h2
 have h2:=zBX h2
 obtain⟨j,rfl⟩:∃j:Nat,i=j:=⟨i.toNat,by omega⟩
 obtain⟨v,h4,h5⟩:=g2.get hu
 refine⟨v,fun E=>?_,h5.dg⟩
 show zDc P xt (zG tm x) (zG tm y) H=_
 unfold zDc
 rw[ht,g1,h2]
 show cond (Nat.ble (Nat.succ j) n) (zp H (zBg P el (zD m) (Nat.mul j (P.cellsOf el)))) .no=_
 rw[show Nat.ble (Nat.succ j) n=true by rw[Nat.ble_eq];omega,hc]
 show zp H (zBg P el (zD m) (j*c))=_
 rw[part_one hsh (by simpa using h4)];rfl
theorem zO{c:Code}{Q:Ex→St→Prop}(l:List (Nat×U))(st:List SB)(h1:Holds s l)(h2:s.st=st)(k:∀fr:Nat→U,Wp P is orc c ⟨fun j=>zCC l j (fr j),[],st⟩ Q):Wp P is orc c s Q:=by
 rw[h1.eq]
 subst h2
 exact k s.fr
theorem SR.forget(h:SR Pr φ S s tm H){fr:Nat→U}(hfr:∀i,fr i=s.fr i∨fr i=.junk):SR Pr φ S ⟨fr,[],s.st⟩ tm H:=by
 have key:∀lo v u,At φ ⟨fr,[],s.st⟩ tm H lo v u→At φ s tm H lo v u∨yN v u=none:=by
  intro lo v u ha
  cases ha with
  |slot i hi=>
   rcases hfr i with e|e
   ·show At φ s tm H (.slot i) (tm.get i) (fr i)∨_
    rw[e];exact .inl (.slot i hi)
   ·right
    show yN _ (fr i)=none
    rw[e];rfl
  |cell a o b cs l e _ _ h1 h2 h3 h4 h5=>exact .inl (.cell a o b cs l e _ _ h1 h2 h3 h4 h5)
 refine⟨h.nok,h.fzn,fun i hi=>?_,h.bx,h.dom,h.inj,h.mem,?_,?_,fun p hp=>(by cases hp),?_,h.pnew⟩
 ·rcases hfr i with e|e
  ·show VU φ S _ (fr i);rw[e];exact h.fr i hi
  ·show VU φ S _ (fr i);rw[e];exact .junk _
 ·intro lo v u b ha hb
  rcases key _ _ _ ha with ha|hq
  ·exact h.own lo v u b ha hb
  ·rw[hq]at hb;cases hb
 ·intro lo lo' v u v' u' b ha ha' hb hb'
  rcases key _ _ _ ha with ha|hq
  ·rcases key _ _ _ ha' with ha'|hq
   ·exact h.excl lo lo' v u v' u' b ha ha' hb hb'
   ·rw[hq]at hb';cases hb'
  ·rw[hq]at hb;cases hb
 ·intro b hb
  obtain⟨q1,q2,q3,q4⟩:=h.prot b hb
  refine⟨q1,q2,q3,fun lo v u ha=>?_⟩
  rcases key _ _ _ ha with ha|hq
  ·exact q4 lo v u ha
  ·rw[hq];simp
theorem k_forget{c:Code}{Q:Ex→St→Prop}(l:List (Nat×U))(st:List SB)(h1:Holds s l)(h2:s.st=st)(k:Wp P is orc c ⟨fun j=>zCC l j .junk,[],st⟩ Q):Wp P is orc c s Q:=by
 intro Pr φ S tm H ds ro fn hs ho hr
 refine k Pr φ S tm H ds ro fn ?_ ho hr
 rw[←h2]
 refine hs.forget fun i=>?_
 have key:∀l:List (Nat×U),(∀p∈l,s.fr p.1=p.2)→zCC l i .junk=s.fr i∨zCC l i .junk=.junk:=by
  intro l
  induction l with
  |nil=>intro _;exact .inr rfl
  |cons p l ih=>
   intro hp
   obtain⟨j,u⟩:=p
   show cond (Nat.beq i j) u (zCC l i .junk)=_∨cond (Nat.beq i j) u (zCC l i .junk)=_
   by_cases e:i=j
   ·subst e
    rw[Nat.beq_refl]
    exact .inl (hp (i,u) List.mem_cons_self).symm
   ·rw[beq_ne e]
    exact ih fun q hq=>hp q (List.mem_cons_of_mem _ hq)
 exact key l h1.2
end Vam
namespace Vam
open Go
variable {Pr:Prt}{φ φ' ψ:BMap}{S S' R:SMap}{s s':St}{tm tm':TT}{H H':CH}{P:Program}{is:FuncId→Bool}{orc:Known}
theorem VU.undef:VU φ S undef (.tup []):=UR.tup [] [] .nil
theorem own_undef:yN undef (.tup [])=none:=rfl
theorem undef_of{v:V}(h:VU φ S v (.tup [])):v=undef:=by
 cases h with
 |tup l us h=>cases h;rfl
theorem want_known{all:List Oper}{g:Nat}{want:Bool}{og:Oper}{j:Nat}{c:Bool}(hs:SR Pr φ S s tm H)(hg:nthO all g=some og)(hj:og.dst=some j)(hc:s.slot j=.bool c):zCH all tm (g,want)=bEq c want:=by
 have hv:=zI hs (.tmp j)
 rw[show zL s (.tmp j)=.bool c from hc]at hv
 have hv:tm.get j=.bool c:=zDy hv
 show opt false (fun b=>bEq b want) (opt none (fun o=>opt none (fun d=>yz none (fun b=>some b) (tm.get d)) (dstOf o)) (nthO all g))=_
 rw[hg]
 show opt false (fun b=>bEq b want) (opt none (fun d=>yz none (fun b=>some b) (tm.get d)) og.dst)=_
 rw[hj]
 show opt false (fun b=>bEq b want) (yz none (fun b=>some b) (tm.get j))=_
 rw[hv];rfl
theorem want_dead{all:List Oper}{g:Nat}{want:Bool}{og:Oper}{j:Nat}(hs:SR Pr φ S s tm H)(hg:nthO all g=some og)(hj:og.dst=some j)(hc:s.slot j=.tup []):zCH all tm (g,want)=false:=by
 have hv:=zI hs (.tmp j)
 rw[show zL s (.tmp j)=.tup []from hc]at hv
 have hv:tm.get j=undef:=undef_of hv
 show opt false (fun b=>bEq b want) (opt none (fun o=>opt none (fun d=>yz none (fun b=>some b) (tm.get d)) (dstOf o)) (nthO all g))=_
 rw[hg]
 show opt false (fun b=>bEq b want) (opt none (fun d=>yz none (fun b=>some b) (tm.get d)) og.dst)=_
 rw[hj]
 show opt false (fun b=>bEq b want) (yz none (fun b=>some b) (tm.get j))=_
 rw[hv];rfl
theorem o_left{all l:List Oper}{dst:Option Nat}{o:Op}{t:TypeId}{p:String}{a:Array Edge}{g:Nat}{want:Bool}{Q:St→Prop}(hd:zBD 1024 dst=true)(hw:∀Pr φ S tm H,SR Pr φ S s tm H→zCH all tm (g,want)=false)
  (h2:WpO P is orc all l (s.dst dst (.tup [])) Q):WpO P is orc all (⟨dst,o,t,p,a,some (g,want)⟩::l) s Q:=by
 intro Pr φ S tm H hs
 obtain⟨s2,tm2,H2,φ2,S2,⟨n2,k1⟩,k2⟩:=h2 Pr φ S _ H (zCM hs hd VU.undef (NewOk.none own_undef))
 refine⟨s2,tm2,H2,φ2,S2,⟨n2,fun n hn=>?_⟩,k2⟩
 show opsIf P (zJ true P is orc n) dst o tm H (zBm P (zJ true P is orc n) all l) (zCH all tm (g,want))=_
 rw[hw _ _ _ _ _ hs]
 exact k1 n hn
theorem o_guardX{all l:List Oper}{dst:Option Nat}{o:Op}{t:TypeId}{p:String}{a:Array Edge}{g:Nat}{want:Bool}{og:Oper}{j:Nat}{c:Bool}{Q:St→Prop}(hd:zBD 1024 dst=true)
  (hg:nthO all g=some og) (hj:og.dst=some j) (hc:s.slot j=.bool c)
  (h1:c=want→WpO P is orc all (⟨dst,o,t,p,a,none⟩::l) s Q) (h2:c= !want→WpO P is orc all l (s.dst dst (.tup [])) Q):WpO P is orc all (⟨dst,o,t,p,a,some (g,want)⟩::l) s Q:=by
 by_cases e:c=want
 ·exact o_guard hd hg hj hc h1 fun h=>by cases c<;>cases want<;>cases e<;>cases h
 ·have e':c= !want:=by cases c<;>cases want<;>simp_all
  refine o_left hd (fun Pr φ S tm H hs=>?_) (h2 e')
  rw[want_known hs hg hj hc];subst e';cases want<;>rfl
theorem zCd{all l:List Oper}{dst:Option Nat}{o:Op}{t:TypeId}{p:String}{a:Array Edge}{g:Nat}{want:Bool}{og:Oper}{j:Nat}{Q:St→Prop}(hd:zBD 1024 dst=true)
  (hg:nthO all g=some og) (hj:og.dst=some j) (hc:s.slot j=.tup []) (h2:WpO P is orc all l (s.dst dst (.tup [])) Q):WpO P is orc all (⟨dst,o,t,p,a,some (g,want)⟩::l) s Q:=
 o_left hd (fun _ _ _ _ _ hs=>want_dead hs hg hj hc) h2
end Vam
namespace Vam
open Go
variable {s:St}{P:Program}{is:FuncId→Bool}{orc:Known}
section short
variable {all l:List Oper}{dst:Option Nat}{o:Op}{t:TypeId}{p:String}{a:Array Edge}{g:Nat}{want:Bool}{og:Oper}{j:Nat}{c:Bool}{Q:St→Prop}
theorem o_gD(hd:zBD 1024 dst=true)(hg:nthO all g=some og)(hj:og.dst=some j)(hc:s.slot j=.bool c)(e:c=want)(h1:WpO P is orc all (⟨dst,o,t,p,a,none⟩::l) s Q):WpO P is orc all (⟨dst,o,t,p,a,some (g,want)⟩::l) s Q:=
 o_guard hd hg hj hc (fun _=>h1) fun h=>by cases c<;>cases want<;>cases e<;>cases h
theorem o_gS(hd:zBD 1024 dst=true)(hg:nthO all g=some og)(hj:og.dst=some j)(hc:s.slot j=.bool c)(e:c= !want)(h2:WpO P is orc all l (s.dst dst (.tup [])) Q):WpO P is orc all (⟨dst,o,t,p,a,some (g,want)⟩::l) s Q:=
 o_guardX hd hg hj hc (fun h=>by cases c<;>cases want<;>cases e<;>cases h) fun _=>h2
variable {m0:M0}{m:List (Oper×M0)}
end short
theorem k_cT{x:Operand}{a b:Code}{c:Bool}{Q:Ex→St→Prop}(hx:zL s x=.bool c)(e:c=true)(h:Wp P is orc a s Q):Wp P is orc (.cond x a b) s Q:=k_cond hx (fun _=>h) fun h'=>by rw[e]at h';cases h'
theorem k_cF{x:Operand}{a b:Code}{c:Bool}{Q:Ex→St→Prop}(hx:zL s x=.bool c)(e:c=false)(h:Wp P is orc b s Q):Wp P is orc (.cond x a b) s Q:=k_cond hx (fun h'=>by rw[e]at h';cases h') fun _=>h
end Vam
namespace Vam
open Go
variable {s:St}{P:Program}{is:FuncId→Bool}{orc:Known}
section shifts
variable {all l:List Oper}{d:Nat}{x y:Operand}{xt yt t:TypeId}{p:String}{e:Array Edge}{a b:Int}{Q:St→Prop}
end shifts
end Vam
namespace Vam
open Go
variable {Pr:Prt}{φ φ' ψ:BMap}{S S' R:SMap}{s s':St}{tm tm':TT}{H H':CH}{P:Program}{is:FuncId→Bool}{orc:Known}
def Fwd(k:Nat)(u:U):Prop:=∀(φ:BMap) (S:SMap) (v:V),VU φ S v u→VU (fun a=>if a<k then none else φ a) S v u
def FwdS(k:Nat)(x:SB):Prop:=match x with
 | .box cs=>∀c∈cs,Fwd k c
 | .froz cs=>∀c∈cs,Fwd k c
 | .map es=>∀p∈es,Fwd k p.1∧Fwd k p.2
 | .loop _ l=>∀i,Fwd k (l.fr i)
 | .dead=>True
theorem NB.fwd{u:U}(h:NB u)(k:Nat):Fwd k u:=fun _ S v hv=>(h _ _ _ hv).mono (fun a b h=>by cases h) S.le_refl
theorem Fwd.mp{k a:Nat}(h:k≤a):Fwd k (.mp a):=fun φ _ _ hv=>by
 cases hv with|mp _ b h1=>exact .mp a b (by show(if a<k then none else φ a)=_;rw[if_neg (by omega)];exact h1)
theorem FwdL{k:Nat}{us:List U}(h:∀u∈us,Fwd k u){l:List V}(hl:LU φ S l us):LU (fun a=>if a<k then none else φ a) S l us:=zDj hl fun _ _ hu hv=>h _ hu _ _ _ hv
theorem Fwd.agg{k:Nat}{cs:List U}(h:∀c∈cs,Fwd k c):Fwd k (.agg cs):=fun _ _ _ hv=>by
 cases hv with|agg l _ h1=>exact .agg l cs (FwdL h h1)
theorem Fwd.tup{k:Nat}{cs:List U}(h:∀c∈cs,Fwd k c):Fwd k (.tup cs):=fun _ _ _ hv=>by
 cases hv with|tup l _ h1=>exact .tup l cs (FwdL h h1)
def BMap.join(φ:BMap)(k:Nat)(φ':BMap):BMap:=fun a=>if a<k then φ a else φ' a
theorem BMap.low_le(φ φ':BMap)(k:Nat):BMap.le (fun a=>if a<k then none else φ' a) (φ.join k φ'):=by
 intro a b h
 have h:(if a<k then none else φ' a)=some b:=h
 show(if a<k then φ a else φ' a)=some b
 split at h
 ·cases h
 ·rename_i h1;rw[if_neg h1];exact h
theorem Fwd.vu{k:Nat}{u:U}(h:Fwd k u){v:V}(hv:VU φ' S' v u)(φ:BMap):VU (φ.join k φ') S' v u:=(h _ _ _ hv).mono (BMap.low_le φ φ' k) S'.le_refl
theorem FwdS.ok{k a:Nat}{x:SB}(h:FwdS k x)(ha:k≤a)(hx:SBOk φ' S' H a x)(φ:BMap):SBOk (φ.join k φ') S' H a x:=by
 have ej:∀{b},φ' a=some b→φ.join k φ' a=some b:=fun {b} e=>by show(if a<k then φ a else φ' a)=some b;rw[if_neg (by omega)];exact e
 have hl:∀{us:List U} {l:List V},(∀u∈us,Fwd k u)→LU φ' S' l us→LU (φ.join k φ') S' l us:=fun {us l} hu hl=>zDj hl fun v u hm hv=>(hu u hm).vu hv φ
 cases x with
 |box cs=>obtain⟨b,l,e,q1,q2,q3⟩:=hx;exact⟨b,l,e,ej q1,q2,hl h q3⟩
 |froz cs=>obtain⟨b,l,q1,q2,q3⟩:=hx;exact⟨b,l,ej q1,q2,hl h q3⟩
 |map es=>
  obtain⟨b,l,e,q1,q2,q3⟩:=hx
  refine⟨b,l,e,ej q1,q2,?_⟩
  have key:∀{ents:List Ent} {ps:List (U×U)},EntsU φ' S' ents ps→(∀p∈ps,Fwd k p.1∧Fwd k p.2)→EntsU (φ.join k φ') S' ents ps:=by
   intro ents ps he
   induction he with
   |nil=>intro _;exact .nil
   |cons e es p ps a b c _ ih=>intro hp;exact .cons e es p ps ((hp p List.mem_cons_self).1.vu a φ) ((hp p List.mem_cons_self).2.vu b φ) c (ih fun q hq=>hp q (List.mem_cons_of_mem _ hq))
  exact key q3 h
 |loop q l=>obtain⟨b,st,pe,fn,tm,d,q1,q2,q3,q4⟩:=hx;exact⟨b,st,pe,fn,tm,d,ej q1,q2,q3,fun i hi=>(h i).vu (q4 i hi) φ⟩
 |dead=>trivial
def Old(H:CH)(S:SMap):Prt:=⟨fun b=>b.wf∧Before b H.n,fun b=>(b.wf∧Before b H.n)∧S b=none,fun b=>b.wf∧Before b H.n,fun _ h=>h.1⟩
theorem SR.alone(hs:SR Pr φ S s tm H)(k:Nat):SR (Old H S) φ0 S ⟨fun _=>.junk,[],List.replicate k .dead⟩ tm H.freeze:=by
 have no:∀lo v u,At φ0 ⟨fun _=>.junk,[],List.replicate k .dead⟩ tm H.freeze lo v u→yN v u=none:=by
  intro lo v u ha
  cases ha with
  |slot i hi=>rfl
  |cell a o b cs l e _ _ h1 h2=>cases h2
 refine⟨by rw[zBI];exact hs.nok,by rw[zEV,zBI];exact Nat.le_of_eq (Id.top_num hs.nok),fun i _=>.junk _,?_,fun a b h=>(by cases h),fun a a' b h=>(by cases h),?_,?_,?_,fun p hp=>(by cases hp),?_,?_⟩
 ·intro a x hx
  have hx:(List.replicate k SB.dead)[a]? =some x:=hx
  rw[List.getElem?_replicate]at hx
  split at hx
  ·cases hx;trivial
  ·cases hx
 ·intro b l hb
  obtain⟨q1,q2,_,q4⟩:=hs.mem b l hb
  exact⟨q1,by rw[zBI];exact q2,fun a h=>(by cases h),by rw[zDQ];exact q4⟩
 ·intro lo v u b ha hb;rw[no lo v u ha]at hb;cases hb
 ·intro lo lo' v u v' u' b ha _ hb;rw[no lo v u ha]at hb;cases hb
 ·rintro b ⟨h1,h2⟩
  exact⟨h1,by rw[zBI];exact h2,fun a h=>(by cases h),fun lo v u ha=>by rw[no lo v u ha];simp⟩
 ·rintro b ⟨h1,h2⟩;exact⟨h1,h2⟩
theorem SR.join(hs:SR Pr φ S s tm H){k:Nat}(hk:s.st.length=k){fr':Nat→U}{new:List SB}(h1:SR (Old H S) φ' S' ⟨fr',[],List.replicate k .dead++new⟩ tm H')(hS:S.le S')(hkp:Kept (Old H S) H.freeze H')(hn:∀x∈new,FwdS k x):
  SR Pr (φ.join k φ') S' ⟨s.fr,s.al,s.st++new⟩ tm (H'.thaw H.fz)∧φ.le (φ.join k φ')∧Kept Pr H (H'.thaw H.fz):=by
 have hget:∀b,b.wf→Before b H.n→H'.get b=H.get b:=fun b hw hb=>by rw[hkp.get b ⟨hw,hb⟩,zDQ]
 have hbef:∀b,Before b H.n→Before b H'.n:=fun b hb=>hkp.bef b (by rw[zBI];exact hb)
 have hle:φ.le (φ.join k φ'):=fun a b e=>by
  show(if a<k then φ a else φ' a)=some b
  rw[if_pos (by rw[←hk];exact(hs.dom a b e).2.2.1)];exact e
 have hold:∀{a b},φ.join k φ' a=some b→(a<k∧φ a=some b)∨(k≤a∧φ' a=some b):=fun {a b} e=>by
  have e:(if a<k then φ a else φ' a)=some b:=e
  split at e
  ·rename_i h;exact .inl ⟨h,e⟩
  ·rename_i h;exact .inr ⟨by omega,e⟩
 have hfz:H'.fz=H.n.top:=by rw[hkp.fz,zEV]
 have nokH:=hs.nok
 have hnew:∀{a b},φ' a=some b→ ¬ Before b H.n:=fun {a b} e hb=>by
  have:=(h1.dom a b e).2.2.2
  rw[hfz]at this
  have:=Id.num_lt_top (show H.n.okN from nokH) hb
  omega
 have hst:∀{a x},(List.replicate k SB.dead++new)[a]? =some x→k≤a→(s.st++new)[a]? =some x∧x∈new:=fun {a x} e ha=>by
  rw[List.getElem?_append_right (by simpa using ha)]at e
  rw[List.getElem?_append_right (by omega),hk]
  simp only[List.length_replicate]at e
  exact⟨e,List.mem_of_getElem? e⟩
 have key:∀lo v u,At (φ.join k φ') ⟨s.fr,s.al,s.st++new⟩ tm (H'.thaw H.fz) lo v u→At φ s tm H lo v u∨(At φ' ⟨fr',[],List.replicate k .dead++new⟩ tm H' lo v u∧∃a o,lo=.cell a o∧k≤a):=by
  intro lo v u ha
  cases ha with
  |slot i hi=>exact .inl (.slot i hi)
  |cell a o b cs l e _ _ q1 q2 q3 q4 q5=>
   rw[wV]at q3
   rcases hold q2 with ⟨w1,w2⟩|⟨w1,w2⟩
   ·have q1':(s.st++new)[a]? =some (.box cs):=q1
    rw[List.getElem?_append_left (by omega)]at q1'
    obtain⟨x1,x2,_⟩:=hs.dom a b w2
    exact .inl (.cell a o b cs l e _ _ q1' w2 (by rw[←hget b x1 x2];exact q3) q4 q5)
   ·have q1':(s.st++new)[a]? =some (.box cs):=q1
    rw[List.getElem?_append_right (by omega),hk]at q1'
    refine .inr ⟨.cell a o b cs l e _ _ ?_ w2 q3 q4 q5,a,o,rfl,w1⟩
    show(List.replicate k SB.dead++new)[a]? =_
    rw[List.getElem?_append_right (by simpa using w1),List.length_replicate];exact q1'
 have key':∀lo v u,At φ s tm H lo v u→At (φ.join k φ') ⟨s.fr,s.al,s.st++new⟩ tm (H'.thaw H.fz) lo v u:=by
  intro lo v u ha
  cases ha with
  |slot i hi=>exact .slot i hi
  |cell a o b cs l e _ _ q1 q2 q3 q4 q5=>
   obtain⟨x1,x2,x3,_⟩:=hs.dom a b q2
   exact .cell a o b cs l e _ _ (by show(s.st++new)[a]? =_;rw[List.getElem?_append_left x3];exact q1) (hle a b q2) (by rw[wV,hget b x1 x2];exact q3) q4 q5
 have oldown:∀{lo v u b},At φ s tm H lo v u→yN v u=some b→b.wf∧Before b H.n:=fun ha hb=>zDb hs ha hb
 refine⟨⟨by rw[zEC];exact h1.nok,?_,fun i hi=>(hs.fr i hi).mono hle hS,?_,?_,?_,?_,?_,?_,?_,?_,?_⟩,hle,?_⟩
 ·rw[zEf,zEC]
  have a1:=h1.fzn
  rw[hfz,Id.top_num hs.nok]at a1
  exact Nat.le_trans hs.fzn a1
 ·intro a x hx
  have hx:(s.st++new)[a]? =some x:=hx
  by_cases ha:a<k
  ·rw[List.getElem?_append_left (by omega)]at hx
   exact(hs.bx a x hx).move hle hS fun b hb=>by rw[wV];exact hget b (hs.dom a b hb).1 (hs.dom a b hb).2.1
  ·have hx':(List.replicate k SB.dead++new)[a]? =some x:=by
    rw[List.getElem?_append_right (by simp;omega),List.length_replicate]
    rw[List.getElem?_append_right (by omega),hk]at hx;exact hx
   have hxn:=(hst hx' (by omega)).2
   exact(FwdS.ok (hn x hxn) (by omega) (h1.bx a x hx') φ).move (BMap.le_refl _) S'.le_refl fun b _=>wV _ _ _
 ·intro a b e
  rw[zEC,zEf]
  rcases hold e with ⟨w1,w2⟩|⟨w1,w2⟩
  ·obtain⟨x1,x2,x3,x4⟩:=hs.dom a b w2
   exact⟨x1,hbef b x2,by show a<(s.st++new).length;rw[List.length_append];omega,x4⟩
  ·obtain⟨x1,x2,x3,x4⟩:=h1.dom a b w2
   have x3:a<(List.replicate k SB.dead++new).length:=x3
   refine⟨x1,x2,?_,?_⟩
   ·show a<(s.st++new).length
    rw[List.length_append]at x3 ⊢;simp at x3;omega
   ·rw[hfz,Id.top_num hs.nok]at x4;exact Nat.le_trans hs.fzn x4
 ·intro a a' b e e'
  rcases hold e with ⟨w1,w2⟩|⟨w1,w2⟩<;>rcases hold e' with ⟨w3,w4⟩|⟨w3,w4⟩
  ·exact hs.inj a a' b w2 w4
  ·exact absurd (hs.dom a b w2).2.1 (hnew w4)
  ·exact absurd (hs.dom a' b w4).2.1 (hnew w2)
  ·exact h1.inj a a' b w2 w4
 ·intro b l hb
  obtain⟨q1,q2,q3,q4⟩:=h1.mem b l hb
  refine⟨q1,by rw[zEC];exact q2,fun a e=>?_,by rw[wV];exact q4⟩
  rcases hold e with ⟨w1,w2⟩|⟨w1,w2⟩
  ·obtain⟨x1,x2,x3,_⟩:=hs.dom a b w2
   cases hSb:S b with
   |some m=>
    obtain⟨cs,hc⟩:=(hs.mem b m hSb).2.2.1 a w2
    exact⟨cs,by show(s.st++new)[a]? =_;rw[List.getElem?_append_left x3];exact hc⟩
   |none=>
    have:=(h1.pnew b ⟨⟨x1,x2⟩,hSb⟩).2
    rw[this]at hb;cases hb
  ·obtain⟨cs,hc⟩:=q3 a w2
   exact⟨cs,(hst hc w1).1⟩
 ·intro lo v u b ha hb
  rw[zEf]
  rcases key lo v u ha with ha|⟨ha,_⟩
  ·obtain⟨x1,l,e,sh,x2⟩:=hs.own lo v u b ha hb
   obtain⟨w1,w2⟩:=oldown ha hb
   exact⟨x1,l,e,sh,by rw[wV,hget b w1 w2];exact x2⟩
  ·obtain⟨x1,l,e,sh,x2⟩:=h1.own lo v u b ha hb
   rw[hfz,Id.top_num hs.nok]at x1
   exact⟨Nat.le_trans hs.fzn x1,l,e,sh,by rw[wV];exact x2⟩
 ·intro lo lo' v u v' u' b ha ha' hb hb'
  rcases key lo v u ha with ha|⟨ha,_⟩<;>rcases key lo' v' u' ha' with ha'|⟨ha',_⟩
  ·exact hs.excl lo lo' v u v' u' b ha ha' hb hb'
  ·exact absurd hb' ((h1.prot b (oldown ha hb)).2.2.2 lo' v' u' ha')
  ·exact absurd hb ((h1.prot b (oldown ha' hb')).2.2.2 lo v u ha)
  ·exact h1.excl lo lo' v u v' u' b ha ha' hb hb'
 ·intro p hp
  obtain⟨x1,v,u,x2,x3⟩:=hs.ali p hp
  exact⟨x1,v,u,key' _ _ _ x2,x3⟩
 ·intro b hb
  obtain⟨x1,x2,x3,x4⟩:=hs.prot b hb
  refine⟨x1,by rw[zEC];exact hbef b x2,fun a e=>?_,fun lo v u ha=>?_⟩
  ·rcases hold e with ⟨w1,w2⟩|⟨w1,w2⟩
   ·obtain⟨cs,hc⟩:=x3 a w2
    exact⟨cs,by show(s.st++new)[a]? =_;rw[List.getElem?_append_left (by omega)];exact hc⟩
   ·exact absurd x2 (hnew w2)
  ·rcases key lo v u ha with ha|⟨ha,_⟩
   ·exact x4 lo v u ha
   ·exact(h1.prot b ⟨x1,x2⟩).2.2.2 lo v u ha
 ·intro b hb
  obtain⟨x1,x2⟩:=hs.pnew b hb
  obtain⟨y1,y2,_⟩:=hs.prot b x1
  exact⟨x1,(h1.pnew b ⟨⟨y1,y2⟩,x2⟩).2⟩
 ·refine⟨zEf _ _,fun b hb=>by rw[zEC];exact hbef b hb,fun b hb=>?_,fun b _ hw hb=>?_⟩
  ·rw[wV];exact hget b (hs.prot b hb).1 (hs.prot b hb).2.1
  ·rw[wV];exact .of_eq (hget b hw hb)
theorem d_callQW{all:List Oper}{l:List (Oper×M0)}{d:Option Nat}{g:FuncId}{xs:Array Operand}{ts:Array TypeId}{t:TypeId}{p:String}{e:Array Edge}{args:List U}{M:U→List SB→Prop}{Q:St→Prop}{n:Nat}(hlen:s.st.length=n)(hd:zBD 1024 d=true)(hargs:∀u∈args,NB u)
  (hw:WpC P is orc g args (List.replicate n .dead) fun u st'=>∃new,st'=List.replicate n .dead++new∧Fwd n u∧(∀x∈new,FwdS n x)∧M u new) (hle:UW (.l (zDf s xs.toList)) (.l args))
  (k:∀u new,M u new→WpD P is orc all l ((⟨s.fr,s.al,s.st++new⟩:St).dst d u) Q):
  WpD P is orc all ((⟨d,.call ⟨.value (.func g),xs,ts⟩,t,p,e,none⟩,.quiet)::l) s Q:=by
 subst hlen
 intro Pr φ S tm H m0 hm hp hs
 cases hm with
 |quiet _ _ m hm=>
  have e0:pend ((⟨d,.call ⟨.value (.func g),xs,ts⟩,t,p,e,none⟩,Md.quiet)::m)=pend m:=rfl
  rw[e0]at hp hs
  have hl:=UW.vu (zAC hs xs.toList) hle
  have hl0:LU φ0 S (xs.toList.map (zG tm)) args:=zDj hl fun v u hu hv=>hargs u hu _ _ _ hv
  obtain⟨φ',S',H',st',v,u,⟨n0,q1⟩,q2,q3,q4,q5,q6,q7,new,rfl,q8,q9,q10⟩:=hw _ _ _ _ _ _ _ (hs.alone s.st.length) rfl hl0
  obtain⟨g1,g2,g3⟩:=hs.join rfl q2 q4 q5 q9
  refine zFS ⟨n0,fun n hn=>?_⟩ g2 q4 (g3.weaken (fun b hb=>.inl hb) fun _ h=>h) (hm.keep fun i hi=>g3.get i (.inr hi)) ⟨hp.nodup,fun i hi=>by rw[g3.fz];exact hp.ok i hi,hp.out,hp.odd⟩
   (zCM g1 hd (q8.vu q6 φ) (NewOk.none (q7 v))) (k u new q10)
  show wa d tm (thawR H.fz ((zJ true P is orc n).call g (yQ tm xs.toList) H.freeze))=_
  rw[zBd,q1 n hn];rfl
end Vam
namespace Vam
open Go
variable {P:Program}{is:FuncId→Bool}{orc:Known}
section calls
variable {s:St}{all l:List Oper}{d:Option Nat}{g:FuncId}{xs:Array Operand}{ts:Array TypeId}{t:TypeId}{p:String}{e:Array Edge}{args:List U}{M:U→List SB→Prop}{Q:St→Prop}
end calls
end Vam
namespace Vam
open Go
variable {P:Program}{is:FuncId→Bool}{orc:Known}{s:St}
theorem St.byList{l:List (Nat×U)}(h:Holds ⟨s.fr,[],s.st⟩ l):s=⟨fun j=>zCC l j (s.fr j),s.al,s.st⟩:=by
 have:=congrArg St.fr h.eq
 cases s with
 |mk fr al st=>
  have e:fr=fun j=>zCC l j (fr j):=this
  show St.mk fr al st=St.mk (fun j=>zCC l j (fr j)) al st
  rw[←e]
theorem zt{all m:List Oper}{Q:St→Prop}(l:List (Nat×U))(al:List (Nat×Lo))(st:List SB)(h1:Holds ⟨s.fr,[],s.st⟩ l)(h2:s.st=st)(h3:s.al=al)(k:∀fr:Nat→U,WpO P is orc all m ⟨fun j=>zCC l j (fr j),al,st⟩ Q):WpO P is orc all m s Q:=by
 rw[St.byList h1]
 subst h2;subst h3
 exact k s.fr
theorem zAs{all:List Oper}{m:List (Oper×M0)}{Q:St→Prop}(l:List (Nat×U))(al:List (Nat×Lo))(st:List SB)(h1:Holds ⟨s.fr,[],s.st⟩ l)(h2:s.st=st)(h3:s.al=al)(k:∀fr:Nat→U,WpD P is orc all m ⟨fun j=>zCC l j (fr j),al,st⟩ Q):WpD P is orc all m s Q:=by
 rw[St.byList h1]
 subst h2;subst h3
 exact k s.fr
theorem isCp_head{a n o:Nat}{r:List (Nat×Lo)}(h:s.al=(a,.cell n o)::r):isCp s a (.cell n o)=true:=by
 unfold isCp
 rw[h,List.any_cons]
 simp[Nat.beq_refl]
section slices
variable {Pr:Prt}{φ:BMap}{S:SMap}{tm:TT}{H:CH}{all l:List Oper}{d:Nat}{x:Operand}{xt t:TypeId}{p:String}{e:Array Edge}{Q:St→Prop}{es:List U}
end slices
end Vam
namespace Vam
open Go
variable {Pr:Prt}{φ φ' ψ:BMap}{S S' R:SMap}{s s':St}{tm tm':TT}{H H':CH}{P:Program}{is:FuncId→Bool}{orc:Known}
theorem sl_of{v:V}{a off len z:Nat}(h:VU φ S v (.sl a off len z)):∃b cc,φ a=some b∧v=.slice b off len cc z∧len≤capN cc∧0<z:=by
 cases h with
 |sl _ b _ _ cc _ h1 h2 h3=>exact⟨b,cc,h1,rfl,h2,h3⟩
theorem first_runK{K:CH}(hK:∀b m,S b=some m→zCZ (K.get b) m){v:V}{k:Kd}{z c:Nat}{es:List U}(h:VU φ S v (.lst k z es))(hz:z=c∨z=0):∃m,firstCells K c es.length v=some (zD m)∧LU φ S m (zT es)∧∀e∈es,(zZ e).length=c:=by
 rcases zDe h with ⟨rfl,h1|⟨_,_,_,h1⟩⟩|⟨b,off,cc,m,l1,l2,h1,h2,h3,h4,h5,h6,h7⟩
 ·rw[h1];exact⟨[],rfl,.nil,by simp⟩
 ·rw[h1]
  refine⟨[],?_,.nil,by simp⟩
  show zS K .over 0 (0*c)=_
  rw[Nat.zero_mul];rfl
 ·have hzc:z=c:=by rcases hz with h|h<;>omega
  subst hzc
  have hl1:l1.length=es.length*z:=by rw[h4.len,we h5]
  have hm:off+es.length*z≤m.length:=by
   have:=congrArg List.length h3
   simp at this
   have:=h6.1
   omega
  refine⟨l1,?_,h4,h5⟩
  rw[h1]
  show zS K b off (es.length*z)=_
  rw[zDl (hK b m h2) (.inr hm),h3,←hl1]
  simp
theorem appendB_run{K:CH}(hnok:K.n.wf)(hK:∀b m,S b=some m→zCZ (K.get b) m){el:TypeId}{v w:V}{z zy c bb:Nat}{ys:List U}{ky:Kd}{zv:V}(hv:VU φ S v (.lst .full z []))(hw:VU φ S w (.lst ky zy ys))
  (hc:P.cellsOf el=c) (h0:0<c) (hb:P.bytesOf el=bb) (hzv:yZ P el=some zv) (hzc:Nat.beq (lenV zv 0) c=true) (hz:z=c∨z=0) (hzy:zy=c∨zy=0) (hone:(zT ys).all oneU=true)
  (hbig:ys.length*(bb+c)≤16777216) (hpos:0<ys.length):
  ∃m H1,wO P el K v w=.ok (.slice K.n 0 ys.length (capA ys.length) c) H1∧LU φ S m (zT ys)∧(∀e∈ys,(zZ e).length=c)∧Alloc K H1 (.cells (zD m) el 0 []):=by
 obtain⟨nm,n1,n2,n3⟩:=first_runK hK hw (c:=c) hzy
 have hrun:wO P el K v w=yf .no (zBp P K el c ys.length (zD nm)) (yh P K el c ys.length (zD nm)) v:=by
  unfold wO
  rw[zER hw,zER hv]
  show cond (Nat.ble ((0+ys.length)*(P.bytesOf el+P.cellsOf el)) zBG) _ _=_
  rw[hb,hc,Nat.zero_add,show Nat.ble (ys.length*(bb+c)) zBG=true by rw[Nat.ble_eq];exact hbig]
  obtain⟨c1,rfl⟩:∃c1,c=c1+1:=⟨c - 1,by omega⟩
  show opt R.no (fun new=>yf .no (zBp P K el (Nat.succ c1) ys.length new) (yh P K el (Nat.succ c1) ys.length new) v) (firstCells K (Nat.succ c1) ys.length w)=_
  rw[show firstCells K (Nat.succ c1) ys.length w=some (zD nm)from n1];rfl
 have hall:=zHE n2 hone
 obtain⟨H1,a1,a2,a3,a4⟩:=zAQ R.no hnok (.cells (zD nm) el 0 []) (fun n H=>.ok (.slice n 0 ys.length (capA ys.length) c) H)
 refine⟨nm,H1,?_,n2,n3,⟨a2,a3,a4⟩⟩
 rw[hrun]
 obtain⟨k,hk⟩:∃k,ys.length=k+1:=⟨ys.length - 1,by omega⟩
 rcases zDe hv with ⟨_,h1|⟨hz0,cc0,hcc,h1⟩⟩|⟨b,off,cc,m,l1,l2,h1,h2,h3,h4,h5,h6,h7⟩
 ·rw[h1]
  show yh P K el c ys.length (zD nm)=_
  rw[hk]at a1 ⊢
  show opt .no (fun z=>cond (Nat.beq (lenV z 0) c) (cond (wG (zD nm)) (yV K el c (k+1) (zD nm)) .no) .no) (yZ P el)=_
  rw[hzv]
  show cond (Nat.beq (lenV zv 0) c) (cond (wG (zD nm)) (yV K el c (k+1) (zD nm)) .no) .no=_
  rw[hzc,hall]
  exact a1
 ·obtain rfl:=hcc.resolve_left (fun h=>by cases h)
  have hzc':z=c:=by rcases hz with h|h<;>omega
  subst hzc'
  rw[h1]
  show cond (Nat.beq z z) (cond (Nat.ble (0+ys.length) (capN (capX 0))) (wh K z (0+ys.length) (zD nm) .over 0 0 (capX 0)) (zr P K el z (0+ys.length) (zD nm) .over 0 0 (capX 0))) .no=_
  rw[Nat.beq_refl,Nat.zero_add,show Nat.ble ys.length (capN (capX 0))=false by rw[hk];rfl]
  show zr P K el z ys.length (zD nm) .over 0 0 (capX 0)=_
  unfold zr
  rw[hzv]
  show cond (Nat.beq (lenV zv 0) z) (cond (wG (zD nm)) (opt .no (fun old=>yV K el z ys.length (appV old (zD nm))) (zS K .over 0 (0*z))) .no) .no=_
  rw[hzc,hall,Nat.zero_mul]
  exact a1
 ·have hzc':z=c:=by rcases hz with h|h<;>omega
  subst hzc'
  have hcn:capN cc=0:=h6.2.2.2
  have hcE:capE cc=true:=h6.2.2.1
  rw[h1]
  show cond (Nat.beq z z) (cond (Nat.ble (0+ys.length) (capN cc)) (wh K z (0+ys.length) (zD nm) b off 0 cc) (zr P K el z (0+ys.length) (zD nm) b off 0 cc)) R.no=_
  rw[Nat.beq_refl,Nat.zero_add,hcn,show Nat.ble ys.length 0=false by rw[hk];rfl]
  show zr P K el z ys.length (zD nm) b off 0 cc=_
  unfold zr
  rw[hzv,hcE]
  show cond (Nat.beq (lenV zv 0) z) (cond (wG (zD nm)) (opt .no (fun old=>yV K el z ys.length (appV old (zD nm))) (zS K b off (0*z))) .no) .no=_
  rw[hzc,hall,Nat.zero_mul]
  show opt .no (fun old=>yV K el z ys.length (appV old (zD nm))) (zS K b off 0)=_
  rw[zDl (hK b m h2) (.inl rfl)]
  exact a1
theorem capA_n(n:Nat):capN (capA n)=n:=by show(2*n) / 2=n;omega
section ops
variable {all l:List Oper}{d:Nat}{x y:Operand}{t t' t1 t2 xt el:TypeId}{p:String}{e:Array Edge}{a off n c bb z zy len:Nat}{cs es xs ys:List U}{u:U}{Q:St→Prop}{zv:V}{ky:Kd}
theorem zEM(hd:Nat.blt d 1024=true)(hT:AppT P t1 t2 el c bb zv)(hx:zL s x=.lst .full z [])(hy:zL s y=.lst ky zy ys)(hz:z=c∨z=0)(hzy:zy=c∨zy=0)(hone:(zT ys).all oneU=true)
  {ws:List U} {n:Nat} (hw:(zT ys).map dg=ws) (hnl:ys.length=n) (hbig:n*(bb+c)≤16777216) (hpos:0<n) (k:WpO P is orc all l ((s.newB ws).put d (.sl s.st.length 0 n c)) Q):
  WpO P is orc all (⟨some d,.call ⟨.builtin .append, #[x,y], #[t1,t2]⟩,t,p,e,none⟩::l) s Q:=by
 subst hw;subst hnl
 refine o_op (R:=fun u s1=>u=.sl s.st.length 0 ys.length c∧s1=s.newB ((zT ys).map dg)) hd ?_ fun u s1 h=>by obtain⟨rfl,rfl⟩:=h;exact k
 intro Pr φ S tm H hs
 have hxr:=zI hs x
 rw[hx]at hxr
 have hyr:=zI hs y
 rw[hy]at hyr
 obtain⟨m,H1,r1,r2,_,r3⟩:=appendB_run hs.nok (fun b m h=>(hs.mem b m h).2.2.2) hxr hyr hT.hc hT.h0 hT.hb hT.hz hT.hzc hz hzy hone hbig hpos
 have hcN:=capA_n ys.length
 refine⟨_,_,_,H1,_,S,⟨0,fun n _=>?_⟩,hs.newBox r3 r2.dgs mem_dg,BMap.le_with _ hs.none_st,S.le_refl,r3.kept hs,.sl _ _ _ _ _ _ (BMap.with_self _ _ _) (by rw[hcN];exact Nat.le_refl _) hT.h0,NewOk.none rfl,rfl,rfl⟩
 show wP P [t1,t2] H (zG tm x) (zG tm y)=_
 unfold wP
 obtain⟨e2,h2⟩:=hT.h2
 simp only[hT.h1,h2]
 exact r1
theorem zHY{ki:IntKind}{i:Int}(hd:Nat.blt d 1024=true)(ht:tyOf P xt=.slice el)(hx:zL s x=.sl a off len z)(hi:zL s y=.int ki i)(h0:0≤i)(he:i<len)(hc:P.cellsOf el=c)
  (k:WpO P is orc all l (s.put d (.box a (off+i.toNat*c))) Q):WpO P is orc all (⟨some d,.indexAddr xt x y,t,p,e,none⟩::l) s Q:=by
 refine wY hd (fun w=>rfl) (fun Pr φ S tm H hs=>?_) k
 have h1:=zI hs x
 rw[hx]at h1
 have h2:=zI hs y
 rw[hi]at h2
 have h2:=zBX h2
 obtain⟨j,rfl⟩:∃j:Nat,i=j:=⟨i.toNat,by omega⟩
 obtain⟨b,cc,q1,q2,q3,q4⟩:=sl_of h1
 refine⟨.ptr b (off+j*c),fun E=>?_,.box _ _ _ q1⟩
 show yX P xt (zG tm x) (zG tm y) H=_
 unfold yX
 rw[ht,q2,h2]
 show cond (Nat.ble (Nat.succ j) len) (R.ok (.ptr b (Nat.add off (Nat.mul j (P.cellsOf el)))) H) .no=_
 rw[show Nat.ble (Nat.succ j) len=true by rw[Nat.ble_eq];omega,hc];rfl
theorem zBx{m:Nat}{us ws:List U}(hx:zL s x=.box a off)(hb:s.st[a]? =some (.box cs))(hsh:shOf P t'=.many m)(hy:zL s y=.agg us)(hn:Nat.beq us.length m=true)(h0:Nat.blt 0 m=true)(hl:off+m≤cs.length)(ho:us.all oneU=true)
  (hw:cs.take off++us.map dg++cs.drop (off+m)=ws) (k:WpO P is orc all l (s.wr a ws) Q):WpO P is orc all (⟨none,.store t' x y,t,p,e,none⟩::l) s Q:=by
 subst hw
 exact zR hx hb hsh hy hn h0 (by rw[Nat.ble_eq];exact hl) ho k
end ops
inductive US(st:List SB):UX→UX→Prop where
 |refl (u:U):US st (.u u) (.u u)
 |sl (a off len z:Nat) (cs es:List U):st[a]? =some (.froz cs)→zT es=(cs.drop off).take (len*z)→(∀e∈es,(zZ e).length=z)→es.length=len→off+len*z≤cs.length→US st (.u (.sl a off len z)) (.u (.lst .ro z es))
 |agg (cs cs':List U):US st (.l cs) (.l cs')→US st (.u (.agg cs)) (.u (.agg cs'))
 |lrefl (us:List U):US st (.l us) (.l us)
 |lcons (u u':U) (us us':List U):US st (.u u) (.u u')→US st (.l us) (.l us')→US st (.l (u::us)) (.l (u'::us'))
theorem US.vu(hs:SR Pr φ S s tm H){u u':UX}(w:US s.st u u'):∀{v:VX},UR φ S v u→UR φ S v u':=by
 induction w with
 |refl u=>exact fun h=>h
 |lrefl us=>exact fun h=>h
 |agg cs cs' _ ih=>intro v h;cases h with|agg l _ h=>exact .agg _ _ (ih h)
 |lcons u u' us us' _ _ i1 i2=>intro v h;cases h with|cons x l _ _ h1 h2=>exact .cons _ _ _ _ (i1 h1) (i2 h2)
 |sl a off len z cs es h1 h2 h3 h4 h5=>
  intro v h
  cases h with
  |sl _ b _ _ cc _ g1 g2 g3=>
   obtain⟨b',m,q1,q2,q3⟩:=hs.bx a _ h1
   rw[g1]at q1;cases q1
   have hm:m.length=cs.length:=q3.len
   refine .slice b off len cc z m ((m.drop off).take (len*z)) ((m.drop off).drop (len*z)) .ro es q2 (List.take_append_drop _ _).symm ?_ h3 h4 ⟨by omega,g2,trivial⟩ g3
   rw[h2];exact(q3.drop off).take _
theorem SR.slotcong(hs:SR Pr φ S s tm H)(h:∀i,i<1024→tm.get i=tm'.get i):SR Pr φ S s tm' H:=by
 have key:∀lo v u,At φ s tm' H lo v u→At φ s tm H lo v u:=by
  intro lo v u ha
  cases ha with
  |slot i hi=>rw[←h i hi];exact .slot i hi
  |cell a o b cs l e v u q1 q2 q3 q4 q5=>exact .cell a o b cs l e v u q1 q2 q3 q4 q5
 have key':∀lo v u,At φ s tm H lo v u→At φ s tm' H lo v u:=by
  intro lo v u ha
  cases ha with
  |slot i hi=>rw[h i hi];exact .slot i hi
  |cell a o b cs l e v u q1 q2 q3 q4 q5=>exact .cell a o b cs l e v u q1 q2 q3 q4 q5
 exact⟨hs.nok,hs.fzn,fun i hi=>by rw[←h i hi];exact hs.fr i hi,hs.bx,hs.dom,hs.inj,hs.mem,fun lo v u b ha=>hs.own lo v u b (key _ _ _ ha),fun lo lo' v u v' u' b ha ha'=>hs.excl lo lo' v u v' u' b (key _ _ _ ha) (key _ _ _ ha'),
  fun p hp=>by obtain⟨h3,w,x,h4,h5⟩:=hs.ali p hp;exact⟨h3,w,x,key' _ _ _ h4,by rw[←h _ h3];exact h5⟩,
  fun b hb=>by obtain⟨p1,p2,p3,p4⟩:=hs.prot b hb;exact⟨p1,p2,p3,fun lo w x ha=>p4 lo w x (key _ _ _ ha)⟩,hs.pnew⟩
theorem o_see{all l:List Oper}{Q:St→Prop}(d:Nat){u:U}(hd:Nat.blt d 1024=true)(hn:∀v,yN v u=none)(hu:US s.st (.u (s.fr d)) (.u u))(k:WpO P is orc all l (s.put d u) Q):WpO P is orc all l s Q:=by
 intro Pr φ S tm H hs
 have hd:=yj hd
 have h1:=hs.put' hd (US.vu hs hu (hs.fr d hd)) (hn _)
 exact k Pr φ S tm H (h1.slotcong fun i hi=>by rw[TT.get_set _ _ _ _ hd hi];split<;>simp_all)
end Vam
namespace Vam
open Go
variable {Pr:Prt}{φ φ' ψ:BMap}{S S' R:SMap}{s s':St}{tm tm':TT}{H H':CH}{P:Program}{is:FuncId→Bool}{orc:Known}
theorem zFv{all l:List Oper}{d:Option Nat}{g:FuncId}{xs:Array Operand}{ts:Array TypeId}{t:TypeId}{p:String}{e:Array Edge}{args A B:List U}{r:U}{Q:St→Prop}{x:Nat}(hd:zBD 1024 d=true)(hx:s.slot x=.fn g A B)(hr:RetP P is orc g args r)
  (hle:UW (.l (A++(zDf s xs.toList++B))) (.l args)) (k:WpO P is orc all l (s.dst d (dg r)) Q):WpO P is orc all (⟨d,.call ⟨.value (.tmp x),xs,ts⟩,t,p,e,none⟩::l) s Q:=by
 refine o_op (R:=fun u s1=>u=dg r∧s1=s) hd ?_ fun u s1 h=>by obtain⟨rfl,rfl⟩:=h;exact k
 intro Pr φ S tm H hs
 have hv:=zI hs (.tmp x)
 rw[show zL s (.tmp x)=_ from hx]at hv
 generalize hq:zG tm (.tmp x)=w at hv
 cases hv with
 |fn _ VA VB _ _ a1 a2=>
  have hl:=UW.vu (LU.append a1 (LU.append (zAC hs xs.toList) a2)) hle
  have hl0:LU φ0 S (VA++(xs.toList.map (zG tm)++VB)) args:=zDj hl fun v u hu hv=>hr.dat u hu _ _ _ hv
  obtain⟨n0,v,H',S',h1,h2,h3⟩:=hr.run S H _ hs.memOk hs.fzn hl0
  obtain⟨g1,g2⟩:=hs.grow h2
  refine⟨v,_,s,H',φ,S',⟨n0,fun n hn=>?_⟩,g1,φ.le_refl,h2.le,g2,?_,NewOk.none (yd _ _),rfl,rfl⟩
  ·show zGl (zJ true P is orc n) (tm.get x) (yQ tm xs.toList) H=_
   rw[show tm.get x=_ from hq]
   show(zJ true P is orc n).call g (appV (zD VA) (appV (yQ tm xs.toList) (zD VB))) H=_
   rw[zBd,zDz,zDz];exact h1 n hn
  ·exact VU.dg (h3.mono (ψ:=φ) (fun a b h=>by cases h) S'.le_refl)
end Vam
namespace Vam
open Go
variable {Pr:Prt}{φ φ' ψ:BMap}{S S' R:SMap}{s s':St}{tm tm':TT}{H H':CH}{P:Program}{is:FuncId→Bool}{orc:Known}
section ops
variable {all l:List Oper}{d:Nat}{x y:Operand}{t xt t1 t2 el:TypeId}{p:String}{e:Array Edge}{a off n c z:Nat}{cs es:List U}{Q:St→Prop}{kd:Kd}
end ops
end Vam
namespace Vam
open Go
variable {Pr:Prt}{φ φ' ψ:BMap}{S S' R:SMap}{s s':St}{tm tm':TT}{H H':CH}{P:Program}{is:FuncId→Bool}{orc:Known}
section ops
variable {all l:List Oper}{d:Nat}{x:Operand}{t xt:TypeId}{p:String}{e:Array Edge}{es:List U}{Q:St→Prop}
end ops
end Vam
namespace Vam
open Go
variable {Pr:Prt}{φ φ' ψ:BMap}{S S' R:SMap}{s s':St}{tm tm':TT}{H H':CH}{P:Program}{is:FuncId→Bool}{orc:Known}
section ops
variable {all l:List Oper}{d:Nat}{x y:Operand}{t t' t1 t2 xt el:TypeId}{p:String}{e:Array Edge}{a off n c bb z zy len:Nat}{cs es xs ys:List U}{u:U}{Q:St→Prop}{zv:V}{ky:Kd}
end ops
end Vam
namespace Vam
open Go
variable {s:St}{P:Program}{is:FuncId→Bool}{orc:Known}
end Vam
namespace Vam
open Go
variable {s:St}{P:Program}{is:FuncId→Bool}{orc:Known}
end Vam
