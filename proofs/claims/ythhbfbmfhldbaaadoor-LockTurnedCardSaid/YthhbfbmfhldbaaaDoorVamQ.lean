import Derived.Test.YthhbfbmfhldbaaaDoorVamP
set_option linter.unusedVariables false
set_option linter.unusedSimpArgs false
namespace Vam
open Go
variable {Pr:Prt}{φ φ' ψ:BMap}{S S' R:SMap}{s s':St}{tm tm':TT}{H H':CH}{P:Program}{is:FuncId→Bool}{orc:Known}
def flatC(u:U):Bool:=match u with
 | .int _ _=>true
 | .bool _=>true
 | .str _=>true
 |_=>false
def flatK(u:U):Bool:=match u with
 | .agg cs=>cs.all flatC
 |u=>flatC u
def val1(u:U):V:=match u with
 | .int k n=>.int k n
 | .bool b=>.bool b
 | .str s=>.str s
 |_=>undef
noncomputable def valK(u:U):V:=match u with
 | .agg cs=>.agg (ofList (cs.map val1))
 |u=>val1 u
theorem val1_of{v:V}{u:U}(h:VU φ S v u)(hf:flatC u=true):v=val1 u:=by
 cases h<;>first|rfl|cases hf
theorem valL_of{l:List V}{us:List U}(h:LU φ S l us)(hf:us.all flatC=true):l=us.map val1:=by
 induction us generalizing l with
 |nil=>cases h;rfl
 |cons u us ih=>
  cases h with
  |cons x l _ _ h1 h2=>
   simp only[List.all_cons,Bool.and_eq_true]at hf
   rw[val1_of h1 hf.1,ih h2 hf.2];rfl
theorem valK_of{v:V}{u:U}(h:VU φ S v u)(hf:flatK u=true):v=valK u:=by
 cases h with
 |agg l cs h1=>show V.agg (ofList l)=_;rw[valL_of h1 hf];rfl
 |int k n=>rfl
 |bool b=>rfl
 |str s=>rfl
 |_=>cases hf
section ops
variable {all l:List Oper}{d:Nat}{xt yt t:TypeId}{p:String}{e:Array Edge}{Q:St→Prop}{x y:Operand}{u w:U}{a off:Nat}{cs:List U}
theorem o_binK{op:BinOp}{b:Bool}(hd:Nat.blt d 1024=true)(hx:zL s x=u)(hy:zL s y=w)(fu:flatK u=true)(fw:flatK w=true)(he:binV P xt op (valK u) (valK w)=some (.bool b))(k:WpO P is orc all l (s.put d (.bool b)) Q):
  WpO P is orc all (⟨some d,.binOp op xt x y yt,t,p,e,none⟩::l) s Q:=by
 refine wA hd (fun w=>rfl) (fun Pr φ S tm H hs=>⟨.bool b,fun E=>?_,.bool b⟩) k
 have h1:=zH hs x
 have h2:=zH hs y
 rw[hx]at h1;rw[hy]at h2
 show zW H (binV P xt op (zE tm x) (zE tm y))=_
 rw[valK_of h1 fu,valK_of h2 fw,he];rfl
end ops
end Vam
namespace Vam
open Go
variable {Pr:Prt}{φ φ' ψ:BMap}{S S' R:SMap}{s s':St}{tm tm':TT}{H H':CH}{P:Program}{is:FuncId→Bool}{orc:Known}
section ops
variable {all l:List Oper}{d:Nat}{xt t t':TypeId}{p:String}{e:Array Edge}{Q:St→Prop}{x:Operand}{u:U}{a off:Nat}{cs es:List U}
end ops
end Vam
namespace Vam
open Go
variable {Pr:Prt}{φ φ' ψ:BMap}{S S' R:SMap}{s s':St}{tm tm':TT}{H H':CH}{P:Program}{is:FuncId→Bool}{orc:Known}
def ApartS(s:St)(p:Nat×Nat):Prop:=∃a o a' o' cs,s.slot p.1=.box a o∧s.slot p.2=.box a' o'∧a≠a'∧s.st[a]? =some (.box cs)
theorem apart_run(hs:SR Pr φ S s tm H){p:Nat×Nat}(h:ApartS s p):zCb tm H p=true:=by
 obtain⟨a,o,a',o',cs,h1,h2,h3,h4⟩:=h
 have g1:=zH hs (.tmp p.1)
 have g2:=zH hs (.tmp p.2)
 rw[show zL s (.tmp p.1)=_ from h1]at g1
 rw[show zL s (.tmp p.2)=_ from h2]at g2
 obtain⟨b,k1,k2⟩:=zCF g1
 obtain⟨c,k3,k4⟩:=zCF g2
 obtain⟨b',l,e,q1,q2,_⟩:=hs.box a cs h4
 rw[k1]at q1;cases q1
 have hne:b.num≠c.num:=fun e=>h3 (hs.inj a a' b k1 (by rw[Id.wf_inj (hs.dom a b k1).1 (hs.dom a' c k3).1 e];exact k3))
 show wQ false (fun b _=>wQ false (fun c _=>cond (Nat.beq b.num c.num) false (zf false (fun _ _ st _=>Nat.beq st 0) (H.get b))) (tm.get p.2)) (tm.get p.1)=true
 rw[show tm.get p.1=_ from k2,show tm.get p.2=_ from k4]
 show cond (Nat.beq b.num c.num) false (zf false (fun _ _ st _=>Nat.beq st 0) (H.get b))=true
 rw[beq_ne hne,q2];rfl
theorem k_drawA{i:Nat}{ops:Array Oper}(ms:List M0)(ds:List (Nat×Nat)){Q:Ex→St→Prop}(hm:drawn P ops.toList=zipM ops.toList ms)(hd:zAK ops.toList=ds)(hp:preOk P (zipM ops.toList ms)=true)
  (h:WpD P is orc ops.toList (zipM ops.toList ms) s fun s'=>(∀p∈ds,ApartS s' p)∧Q .normal {s' with al:=[]}):Wp P is orc (.region i ops true) s Q:=by
 intro Pr φ S tm H dfs ro fn hs ho hr
 obtain⟨m,H1,r1,r2,r3,r4,r5⟩:=resv_run (P:=P) _ hs.nok hs.fzn hp
 obtain⟨g1,g2⟩:=hs.grow (r3 S)
 have hfresh:∀i∈pend m,S i=none:=by
  intro i hi
  cases hS:S i with
  |none=>rfl
  |some l=>exact absurd (hs.mem i l hS).2.1 (r5 i hi).2.1
 have hout:∀i∈pend m, ¬ Pr i:=fun i hi hpi=>(r5 i hi).2.1 (hs.prot i hpi).2.1
 have hs1:SR (Pr.and (pend m)) φ S s tm H1:=by
  refine⟨g1.nok,g1.fzn,g1.fr,g1.bx,g1.dom,g1.inj,g1.mem,g1.own,g1.excl,g1.ali,?_,?_⟩
  ·intro b hb
   rcases hb with hb|hb
   ·exact g1.prot b hb
   ·obtain⟨w1,w2,w3,w4⟩:=r5 b hb
    refine⟨w1,w3,fun a ha=>absurd (hs.dom a b ha).2.1 w2,fun lo v u ha he=>?_⟩
    obtain⟨x,hx⟩:=own_S (ha.vu g1) he
    rw[hfresh b hb]at hx;cases hx
  ·intro b hb
   refine⟨(Pr.and (pend m)).s b hb,?_⟩
   rcases hb with hb|hb
   ·exact(hs.pnew b hb).2
   ·exact hfresh b hb
 obtain⟨s2,tm2,H2,φ2,S2,⟨n2,k1⟩,k2,k3,k4,k5,k6,k7⟩:=h Pr φ S tm H1 m r2 ⟨r4,fun i hi=>by rw[g2.fz];exact(r5 i hi).2.2.2,hout,fun i hi hoi=>(r5 i hi).2.1 (ho i hoi).2⟩ hs1
 refine⟨.normal,[],{s2 with al:=[]},tm2,H2,φ2,S2,⟨.nil _ _ _,n2+1,fun n hn=>?_⟩,k2.noAl,k3,k4,g2.trans k5,k7⟩
 cases n with
 |zero=>omega
 |succ n=>
  show zBN dfs (RS.rec (motive:=fun _=>RO) .no (fun l H=>zDD (zAK ops.toList) (wH P (zI true P is orc n) ops.toList l tm H)) (resv P (drawn P ops.toList) H))=_
  rw[hm,r1]
  show zBN dfs (zDD (zAK ops.toList) (wH P (zI true P is orc n) ops.toList m tm H1))=_
  rw[hd,k1 n (by omega)]
  have key:∀ds:List (Nat×Nat),(∀p∈ds,ApartS s2 p)→zDD ds (.ok tm2 H2)=.ok tm2 H2:=by
   intro ds
   induction ds with
   |nil=>intro _;rfl
   |cons p ds ih=>
    intro hk
    show cond (zCb tm2 H2 p) (zDD ds (.ok tm2 H2)) .no=_
    rw[apart_run k2 (hk p List.mem_cons_self)]
    exact ih fun q hq=>hk q (List.mem_cons_of_mem _ hq)
  rw[key ds k6];rfl
theorem zAS{all l:List Oper}{d:Nat}{x y:Operand}{xt t el:TypeId}{p:String}{e:Array Edge}{Q:St→Prop}{cs:List U}{u:U}{n c:Nat}{ki:IntKind}{i:Int}(hd:Nat.blt d 1024=true)(ht:tyOf P xt=.array n el)(hx:zL s x=.agg cs)(hi:zL s y=.int ki i)(h0:0≤i)(he:i<n)
  (hc:P.cellsOf el=c) (hsh:shOf P el=.one) (hu:cs[i.toNat*c]? =some u) (k:WpO P is orc all l (s.put d (dg u)) Q):WpO P is orc all (⟨some d,.index xt x y,t,p,e,none⟩::l) s Q:=by
 refine wA hd (fun w=>yJ w u) (fun Pr φ S tm H hs=>?_) k
 have h1:=zH hs x
 rw[hx]at h1
 obtain⟨m,g1,g2⟩:=zEa h1
 have h2:=zH hs y
 rw[hi]at h2
 have h2:=zAa h2
 obtain⟨j,rfl⟩:∃j:Nat,i=j:=⟨i.toNat,by omega⟩
 obtain⟨v,h4,h5⟩:=g2.get hu
 refine⟨v,fun E=>?_,h5.dg⟩
 show zCA P xt (zE tm x) (zE tm y) H=_
 unfold zCA
 rw[ht,g1,h2]
 show cond (Nat.ble (Nat.succ j) n) (zW H (zAQ P el (ofList m) (Nat.mul j (P.cellsOf el)))) .no=_
 rw[show Nat.ble (Nat.succ j) n=true by rw[Nat.ble_eq];omega,hc]
 show zW H (zAQ P el (ofList m) (j*c))=_
 rw[part_one hsh (by simpa using h4)];rfl
theorem zM{c:Code}{Q:Ex→St→Prop}(l:List (Nat×U))(st:List SB)(h1:Holds s l)(h2:s.st=st)(k:∀fr:Nat→U,Wp P is orc c ⟨fun j=>zCV l j (fr j),[],st⟩ Q):Wp P is orc c s Q:=by
 rw[h1.eq]
 subst h2
 exact k s.fr
theorem SR.forget(h:SR Pr φ S s tm H){fr:Nat→U}(hfr:∀i,fr i=s.fr i∨fr i=.junk):SR Pr φ S ⟨fr,[],s.st⟩ tm H:=by
 have key:∀lo v u,At φ ⟨fr,[],s.st⟩ tm H lo v u→At φ s tm H lo v u∨zt v u=none:=by
  intro lo v u ha
  cases ha with
  |slot i hi=>
   rcases hfr i with e|e
   ·show At φ s tm H (.slot i) (tm.get i) (fr i)∨_
    rw[e];exact .inl (.slot i hi)
   ·right
    show zt _ (fr i)=none
    rw[e];rfl
  |cell a o b cs l e _ _ h1 h2 h3 h4 h5=>exact .inl (.cell a o b cs l e _ _ h1 h2 h3 h4 h5)
 refine⟨h.nok,h.fzn,fun i hi=>?_,h.bx,h.dom,h.inj,h.mem,?_,?_,fun p hp=>(by cases hp),?_,h.pnew⟩
 ·rcases hfr i with e|e
  ·show VU φ S _ (fr i);rw[e];exact h.fr i hi
  ·show VU φ S _ (fr i);rw[e];exact .junk _
 ·intro lo v u b ha hb
  rcases key _ _ _ ha with ha|hq
  ·exact h.own lo v u b ha hb
  ·rw[hq]at hb;cases hb
 ·intro lo lo' v u v' u' b ha ha' hb hb'
  rcases key _ _ _ ha with ha|hq
  ·rcases key _ _ _ ha' with ha'|hq
   ·exact h.excl lo lo' v u v' u' b ha ha' hb hb'
   ·rw[hq]at hb';cases hb'
  ·rw[hq]at hb;cases hb
 ·intro b hb
  obtain⟨q1,q2,q3,q4⟩:=h.prot b hb
  refine⟨q1,q2,q3,fun lo v u ha=>?_⟩
  rcases key _ _ _ ha with ha|hq
  ·exact q4 lo v u ha
  ·rw[hq];simp
theorem k_forget{c:Code}{Q:Ex→St→Prop}(l:List (Nat×U))(st:List SB)(h1:Holds s l)(h2:s.st=st)(k:Wp P is orc c ⟨fun j=>zCV l j .junk,[],st⟩ Q):Wp P is orc c s Q:=by
 intro Pr φ S tm H ds ro fn hs ho hr
 refine k Pr φ S tm H ds ro fn ?_ ho hr
 rw[←h2]
 refine hs.forget fun i=>?_
 have key:∀l:List (Nat×U),(∀p∈l,s.fr p.1=p.2)→zCV l i .junk=s.fr i∨zCV l i .junk=.junk:=by
  intro l
  induction l with
  |nil=>intro _;exact .inr rfl
  |cons p l ih=>
   intro hp
   obtain⟨j,u⟩:=p
   show cond (Nat.beq i j) u (zCV l i .junk)=_∨cond (Nat.beq i j) u (zCV l i .junk)=_
   by_cases e:i=j
   ·subst e
    rw[Nat.beq_refl]
    exact .inl (hp (i,u) List.mem_cons_self).symm
   ·rw[beq_ne e]
    exact ih fun q hq=>hp q (List.mem_cons_of_mem _ hq)
 exact key l h1.2
end Vam
namespace Vam
open Go
variable {Pr:Prt}{φ φ' ψ:BMap}{S S' R:SMap}{s s':St}{tm tm':TT}{H H':CH}{P:Program}{is:FuncId→Bool}{orc:Known}
theorem VU.undef:VU φ S undef (.tup []):=UR.tup [] [] .nil
theorem own_undef:zt undef (.tup [])=none:=rfl
theorem zDq{all:List Oper}{g:Nat}{want:Bool}{og:Oper}{j:Nat}{c:Bool}(hs:SR Pr φ S s tm H)(hg:nthO all g=some og)(hj:og.dst=some j)(hc:s.slot j=.bool c):zBR all tm (g,want)=bEq c want:=by
 have hv:=zH hs (.tmp j)
 rw[show zL s (.tmp j)=.bool c from hc]at hv
 have hv:tm.get j=.bool c:=zCY hv
 show opt false (fun b=>bEq b want) (opt none (fun o=>opt none (fun d=>yZ none (fun b=>some b) (tm.get d)) (dstOf o)) (nthO all g))=_
 rw[hg]
 show opt false (fun b=>bEq b want) (opt none (fun d=>yZ none (fun b=>some b) (tm.get d)) og.dst)=_
 rw[hj]
 show opt false (fun b=>bEq b want) (yZ none (fun b=>some b) (tm.get j))=_
 rw[hv];rfl
theorem o_left{all l:List Oper}{dst:Option Nat}{o:Op}{t:TypeId}{p:String}{a:Array Edge}{g:Nat}{want:Bool}{Q:St→Prop}(hd:wS 1024 dst=true)(hw:∀Pr φ S tm H,SR Pr φ S s tm H→zBR all tm (g,want)=false)
  (h2:WpO P is orc all l (s.dst dst (.tup [])) Q):WpO P is orc all (⟨dst,o,t,p,a,some (g,want)⟩::l) s Q:=by
 intro Pr φ S tm H hs
 obtain⟨s2,tm2,H2,φ2,S2,⟨n2,k1⟩,k2⟩:=h2 Pr φ S _ H (yl hs hd VU.undef (NewOk.none own_undef))
 refine⟨s2,tm2,H2,φ2,S2,⟨n2,fun n hn=>?_⟩,k2⟩
 show opsIf P (zI true P is orc n) dst o tm H (zAW P (zI true P is orc n) all l) (zBR all tm (g,want))=_
 rw[hw _ _ _ _ _ hs]
 exact k1 n hn
theorem o_guardX{all l:List Oper}{dst:Option Nat}{o:Op}{t:TypeId}{p:String}{a:Array Edge}{g:Nat}{want:Bool}{og:Oper}{j:Nat}{c:Bool}{Q:St→Prop}(hd:wS 1024 dst=true)
  (hg:nthO all g=some og) (hj:og.dst=some j) (hc:s.slot j=.bool c)
  (h1:c=want→WpO P is orc all (⟨dst,o,t,p,a,none⟩::l) s Q) (h2:c= !want→WpO P is orc all l (s.dst dst (.tup [])) Q):WpO P is orc all (⟨dst,o,t,p,a,some (g,want)⟩::l) s Q:=by
 by_cases e:c=want
 ·exact o_guard hd hg hj hc h1 fun h=>by cases c<;>cases want<;>cases e<;>cases h
 ·have e':c= !want:=by cases c<;>cases want<;>simp_all
  refine o_left hd (fun Pr φ S tm H hs=>?_) (h2 e')
  rw[zDq hs hg hj hc];subst e';cases want<;>rfl
theorem d_left{all:List Oper}{dst:Option Nat}{o:Op}{t:TypeId}{p:String}{a:Array Edge}{m0:M0}{l:List (Oper×M0)}{g:Nat}{want:Bool}{Q:St→Prop}(hd:wS 1024 dst=true)
  (hw:∀Pr φ S tm H,SR Pr φ S s tm H→zBR all tm (g,want)=false) (h2:WpD P is orc all l (s.dst dst (.tup [])) Q):WpD P is orc all ((⟨dst,o,t,p,a,some (g,want)⟩,m0)::l) s Q:=by
 intro Pr φ S tm H m hm hp hs
 obtain⟨md,m',rfl,hm2⟩:∃md m',m=(⟨dst,o,t,p,a,some (g,want)⟩,md)::m'∧Mt P H l m':=by
  cases hm with
  |plain _ _ m hm=>exact⟨_,m,rfl,hm⟩
  |quiet _ _ m hm=>exact⟨_,m,rfl,hm⟩
  |read _ ld _ m hm=>exact⟨_,m,rfl,hm⟩
  |pre _ i x _ m q1 q2 hm=>exact⟨_,m,rfl,hm⟩
  |lay _ i _ m hm=>exact⟨_,m,rfl,hm⟩
 have hw:zCG all tm (some (g,want))=false:=hw _ _ _ _ _ hs
 have hin:∀b,b∈pend m'→b∈pend ((⟨dst,o,t,p,a,some (g,want)⟩,md)::m'):=by
  intro b hb
  cases hmd:mdId md with
  |none=>simpa[pend,hmd]using hb
  |some i=>simp only[pend,List.filterMap_cons,hmd];exact List.mem_cons_of_mem _ hb
 have hnd:(pend m').Nodup:=by
  have:=hp.nodup
  cases hmd:mdId md with
  |none=>simpa[pend,hmd]using this
  |some i=>simp only[pend,List.filterMap_cons,hmd]at this;exact(List.nodup_cons.1 this).2
 have hs':SR (Pr.and (pend m')) φ S s tm H:=hs.weaken (fun b hb=>hb.imp id (hin b)) fun b hb=>by
  obtain⟨q1,q2⟩:=hs.pnew b (hb.imp id (hin b))
  rcases hb with hb|hb
  ·exact⟨.inl (Pr.s b hb),q2⟩
  ·exact⟨.inr hb,q2⟩
 refine zDC ⟨0,fun n hn=>?_⟩ φ.le_refl S.le_refl (Kept.refl _ _) hm2 ⟨hnd,fun i hi=>hp.ok i (hin i hi),fun i hi=>hp.out i (hin i hi),fun i hi=>hp.odd i (hin i hi)⟩ (yl hs' hd VU.undef (NewOk.none own_undef)) h2
 show cond (zCG all tm (some (g,want))) (yk dst tm (zAX P (zI true P is orc n) tm H md o)) (.ok (setT tm dst undef) H)=_
 rw[hw];rfl
theorem d_guardX{all:List Oper}{dst:Option Nat}{o:Op}{t:TypeId}{p:String}{a:Array Edge}{m0:M0}{l:List (Oper×M0)}{g:Nat}{want:Bool}{og:Oper}{j:Nat}{c:Bool}{Q:St→Prop}(hd:wS 1024 dst=true)
  (hg:nthO all g=some og) (hj:og.dst=some j) (hc:s.slot j=.bool c)
  (h1:c=want→WpD P is orc all ((⟨dst,o,t,p,a,none⟩,m0)::l) s Q) (h2:c= !want→WpD P is orc all l (s.dst dst (.tup [])) Q):WpD P is orc all ((⟨dst,o,t,p,a,some (g,want)⟩,m0)::l) s Q:=by
 by_cases e:c=want
 ·exact d_guard hd hg hj hc h1 fun h=>by cases c<;>cases want<;>cases e<;>cases h
 ·have e':c= !want:=by cases c<;>cases want<;>simp_all
  refine d_left hd (fun Pr φ S tm H hs=>?_) (h2 e')
  rw[zDq hs hg hj hc];subst e';cases want<;>rfl
end Vam
namespace Vam
open Go
variable {s:St}{P:Program}{is:FuncId→Bool}{orc:Known}
section short
variable {all l:List Oper}{dst:Option Nat}{o:Op}{t:TypeId}{p:String}{a:Array Edge}{g:Nat}{want:Bool}{og:Oper}{j:Nat}{c:Bool}{Q:St→Prop}
theorem o_gD(hd:wS 1024 dst=true)(hg:nthO all g=some og)(hj:og.dst=some j)(hc:s.slot j=.bool c)(e:c=want)(h1:WpO P is orc all (⟨dst,o,t,p,a,none⟩::l) s Q):WpO P is orc all (⟨dst,o,t,p,a,some (g,want)⟩::l) s Q:=
 o_guard hd hg hj hc (fun _=>h1) fun h=>by cases c<;>cases want<;>cases e<;>cases h
theorem o_gS(hd:wS 1024 dst=true)(hg:nthO all g=some og)(hj:og.dst=some j)(hc:s.slot j=.bool c)(e:c= !want)(h2:WpO P is orc all l (s.dst dst (.tup [])) Q):WpO P is orc all (⟨dst,o,t,p,a,some (g,want)⟩::l) s Q:=
 o_guardX hd hg hj hc (fun h=>by cases c<;>cases want<;>cases e<;>cases h) fun _=>h2
variable {m0:M0}{m:List (Oper×M0)}
theorem d_gD(hd:wS 1024 dst=true)(hg:nthO all g=some og)(hj:og.dst=some j)(hc:s.slot j=.bool c)(e:c=want)(h1:WpD P is orc all ((⟨dst,o,t,p,a,none⟩,m0)::m) s Q):WpD P is orc all ((⟨dst,o,t,p,a,some (g,want)⟩,m0)::m) s Q:=
 d_guard hd hg hj hc (fun _=>h1) fun h=>by cases c<;>cases want<;>cases e<;>cases h
theorem d_gS(hd:wS 1024 dst=true)(hg:nthO all g=some og)(hj:og.dst=some j)(hc:s.slot j=.bool c)(e:c= !want)(h2:WpD P is orc all m (s.dst dst (.tup [])) Q):WpD P is orc all ((⟨dst,o,t,p,a,some (g,want)⟩,m0)::m) s Q:=
 d_guardX hd hg hj hc (fun h=>by cases c<;>cases want<;>cases e<;>cases h) fun _=>h2
end short
theorem k_cT{x:Operand}{a b:Code}{c:Bool}{Q:Ex→St→Prop}(hx:zL s x=.bool c)(e:c=true)(h:Wp P is orc a s Q):Wp P is orc (.cond x a b) s Q:=k_cond hx (fun _=>h) fun h'=>by rw[e]at h';cases h'
theorem k_cF{x:Operand}{a b:Code}{c:Bool}{Q:Ex→St→Prop}(hx:zL s x=.bool c)(e:c=false)(h:Wp P is orc b s Q):Wp P is orc (.cond x a b) s Q:=k_cond hx (fun h'=>by rw[e]at h';cases h') fun _=>h
end Vam
namespace Vam
open Go
variable {s:St}{P:Program}{is:FuncId→Bool}{orc:Known}
section shifts
variable {all l:List Oper}{d:Nat}{x y:Operand}{xt yt t:TypeId}{p:String}{e:Array Edge}{a b:Int}{Q:St→Prop}
theorem kwrap64{n:Int}(h:0≤n∧n≤9223372036854775807):IntKind.i64.wrap n=n:=by
 have e:n % (2 ^ IntKind.i64.bits:Int)=n:=Int.emod_eq_of_lt h.1 (by show n<18446744073709551616;omega)
 have e2: ¬ (n ≥ (2 ^ (IntKind.i64.bits - 1):Int)):=by show ¬ (n ≥ 9223372036854775808);omega
 unfold IntKind.wrap
 simp only[e]
 rw[if_neg (by simp only[Bool.and_eq_true,decide_eq_true_eq];exact fun h=>e2 h.2)]
theorem o_shr{ky:IntKind}(hd:Nat.blt d 1024=true)(hx:zL s x=.int .i64 a)(hy:zL s y=.int ky b)(hb:0≤b∧b≤64)(hk:WpO P is orc all l (s.put d (.int .i64 (a.fdiv (2 ^ b.toNat)))) Q):WpO P is orc all (⟨some d,.binOp .shr xt x y yt,t,p,e,none⟩::l) s Q:=
 zGF hd hx hy (v:=.int .i64 (a.fdiv (2 ^ b.toNat))) (by
  obtain⟨n,rfl⟩:∃n:Nat,b=n:=⟨b.toNat,by omega⟩
  show some (V.int .i64 (a.fdiv (2 ^ (min n IntKind.i64.bits))))=_
  rw[show min n IntKind.i64.bits=n by show min n 64=n;omega];rfl) rfl hk
theorem o_andOne(hd:Nat.blt d 1024=true)(hx:zL s x=.int .i64 a)(hy:zL s y=.int .i64 1)(ha:0≤a∧a≤9223372036854775807)(hk:WpO P is orc all l (s.put d (.int .i64 (a % 2))) Q):WpO P is orc all (⟨some d,.binOp .and xt x y yt,t,p,e,none⟩::l) s Q:=
 zGF hd hx hy (v:=.int .i64 (a % 2)) (by
  obtain⟨n,rfl⟩:∃n:Nat,a=n:=⟨a.toNat,by omega⟩
  have hb:((BitVec.ofInt 64 (n:Int)) &&& (BitVec.ofInt 64 1)).toNat=n % 2:=by
   rw[BitVec.toNat_and]
   have e1:(BitVec.ofInt 64 (n:Int)).toNat=n:=by
    rw[BitVec.toNat_ofInt];omega
   have e2:(BitVec.ofInt 64 1).toNat=1:=rfl
   rw[e1,e2,Nat.and_one_is_mod]
  show some (V.int .i64 (IntKind.i64.wrap ((BitVec.ofInt 64 (n:Int)) &&& (BitVec.ofInt 64 1)).toNat))=_
  rw[hb,kwrap64 (by omega)]
  congr 2) rfl hk
end shifts
end Vam
namespace Vam
open Go
variable {Pr:Prt}{φ φ' ψ:BMap}{S S' R:SMap}{s s':St}{tm tm':TT}{H H':CH}{P:Program}{is:FuncId→Bool}{orc:Known}
end Vam
namespace Vam
open Go
variable {P:Program}{is:FuncId→Bool}{orc:Known}
section calls
variable {s:St}{all l:List Oper}{d:Option Nat}{g:FuncId}{xs:Array Operand}{ts:Array TypeId}{t:TypeId}{p:String}{e:Array Edge}{args:List U}{M:U→List SB→Prop}{Q:St→Prop}
end calls
end Vam
namespace Vam
open Go
variable {P:Program}{is:FuncId→Bool}{orc:Known}{s:St}
theorem St.byList{l:List (Nat×U)}(h:Holds ⟨s.fr,[],s.st⟩ l):s=⟨fun j=>zCV l j (s.fr j),s.al,s.st⟩:=by
 have:=congrArg St.fr h.eq
 cases s with
 |mk fr al st=>
  have e:fr=fun j=>zCV l j (fr j):=this
  show St.mk fr al st=St.mk (fun j=>zCV l j (fr j)) al st
  rw[←e]
theorem wP{all m:List Oper}{Q:St→Prop}(l:List (Nat×U))(al:List (Nat×Lo))(st:List SB)(h1:Holds ⟨s.fr,[],s.st⟩ l)(h2:s.st=st)(h3:s.al=al)(k:∀fr:Nat→U,WpO P is orc all m ⟨fun j=>zCV l j (fr j),al,st⟩ Q):WpO P is orc all m s Q:=by
 rw[St.byList h1]
 subst h2;subst h3
 exact k s.fr
theorem wI{all:List Oper}{m:List (Oper×M0)}{Q:St→Prop}(l:List (Nat×U))(al:List (Nat×Lo))(st:List SB)(h1:Holds ⟨s.fr,[],s.st⟩ l)(h2:s.st=st)(h3:s.al=al)(k:∀fr:Nat→U,WpD P is orc all m ⟨fun j=>zCV l j (fr j),al,st⟩ Q):WpD P is orc all m s Q:=by
 rw[St.byList h1]
 subst h2;subst h3
 exact k s.fr
section slices
variable {Pr:Prt}{φ:BMap}{S:SMap}{tm:TT}{H:CH}{all l:List Oper}{d:Nat}{x:Operand}{xt t:TypeId}{p:String}{e:Array Edge}{Q:St→Prop}{es:List U}
theorem o_sliceH{hi:Operand}{el:TypeId}{c z n:Nat}{kx:Kd}{k2:IntKind}(hd:Nat.blt d 1024=true)(ht:tyOf P xt=.slice el)(hc:P.cellsOf el=c)(h0:Nat.blt 0 c=true)(hx:zL s x=.lst kx z es)(hz:z=c∨z=0)(hh:zL s hi=.int k2 (n:Int))(hn:n≤es.length)
  (k:WpO P is orc all l (s.put d (.lst .ro c (es.take n))) Q):WpO P is orc all (⟨some d,.slice xt x none (some hi) none,t,p,e,none⟩::l) s Q:=by
 have h0:=zx h0
 refine wA hd (fun w=>rfl) (fun Pr φ S tm H hs=>?_) k
 have g1:=zH hs x
 rw[hx]at g1
 have g3:=zH hs hi
 rw[hh]at g3
 have hev:∀E:Ev,evOp P E tm H (.slice xt x none (some hi) none)=zW H (yA none (wG c none (some (.int k2 (n:Int))) none) (zEo none (some (.int k2 (n:Int))) none) (zE tm x)):=by
  intro E
  show zW H (zAx P xt (zE tm x) none (some (zE tm hi)) none)=_
  rw[zAa g3]
  unfold zAx
  rw[ht,←hc]
 have hsl:∀(b:Id) (off len cc:Nat),n≤capN cc→wG c none (some (.int k2 (n:Int))) none b off len cc c=yO c b off (capN cc) (capE cc) 0 n:=by
  intro b off len cc h5
  unfold wG
  rw[Nat.beq_refl]
  show opt none (fun lh=>yO c b off (capN cc) (capE cc) lh.1 lh.2) (opt none (fun h=>some (0,h)) (cond (Nat.ble n (capN cc)) (some n) none))=_
  rw[show Nat.ble n (capN cc)=true by rw[Nat.ble_eq];exact h5];rfl
 rcases zCC g1 with ⟨rfl,h4|⟨hz0,cc0,hcc,h4⟩⟩|⟨b,off,cc,m,l1,l2,q1,q2,q3,q4,q5,q6,q7⟩
 ·have:n=0:=by simpa using hn
  subst this
  exact⟨.nils,fun E=>by rw[hev,h4];rfl,.nils _ _⟩
 ·have:n=0:=by simpa using hn
  subst this
  have hzc:z=c:=by rcases hz with h|h<;>omega
  subst hzc
  obtain⟨cc1,hc1⟩:∃cc1,yO z .over 0 (capN cc0) (capE cc0) 0 0=some (.slice .over 0 0 cc1 z):=by
   unfold yO
   cases Nat.beq (capN cc0) 0 with
   |true=>cases capE cc0 with
    |true=>exact⟨_,rfl⟩
    |false=>exact⟨_,rfl⟩
   |false=>
    refine⟨cond (capE cc0) (capX (Nat.sub (capN cc0) 0)) (capA (Nat.sub (capN cc0) 0)),?_⟩
    show some (V.slice .over (0+0*z) (0 - 0) _ z)=_
    rw[Nat.zero_mul]
  refine⟨.slice .over 0 0 cc1 z,fun E=>?_,.over _ _ _ (by omega) (.inl rfl)⟩
  rw[hev,h4]
  show zW H (wG z none (some (.int k2 ((0:Nat):Int))) none .over 0 0 cc0 z)=_
  rw[hsl .over 0 0 cc0 (Nat.zero_le _),hc1];rfl
 ·have hzc:z=c:=by rcases hz with h|h<;>omega
  subst hzc
  obtain⟨w1,w2,w3⟩:=q6
  have hrun:=hsl b off es.length cc (Nat.le_trans hn w2)
  obtain⟨k1,k2',r1,r2,r3⟩:=lst_sub (len:=0) (cc:=0) q2 q3 q4 q5 (lo:=0) (hi:=n) (Nat.zero_le n) hn
  simp only[Nat.zero_mul,Nat.add_zero,List.drop_zero]at r1 r2 r3
  have hv:∃cc',n≤capN cc'∧yO z b off (capN cc) (capE cc) 0 n=some (.slice b off n cc' z):=by
   unfold yO
   by_cases e1:capN cc=0
   ·have hn0:n=0:=by omega
    subst hn0
    rw[e1]
    cases capE cc with
    |true=>exact⟨capX 0,Nat.zero_le _,rfl⟩
    |false=>exact⟨capA 0,Nat.zero_le _,rfl⟩
   ·rw[beq_ne e1]
    refine⟨cond (capE cc) (capX (capN cc - 0)) (capA (capN cc - 0)),?_,?_⟩
    ·rw[Nat.sub_zero]
     cases capE cc with
     |true=>show n≤(2*capN cc+1) / 2;omega
     |false=>show n≤(2*capN cc) / 2;omega
    ·show some (V.slice b (off+0*z) (n - 0) _ z)=_
     rw[Nat.zero_mul,Nat.add_zero,Nat.sub_zero];rfl
  obtain⟨cc',hc1,hc2⟩:=hv
  refine⟨.slice b off n cc' z,fun E=>?_,?_⟩
  ·rw[hev,q1]
   show zW H (wG z none (some (.int k2 (n:Int))) none b off es.length cc z)=_
   rw[hrun,hc2];rfl
  ·exact .slice b off n cc' z m k1 k2' .ro _ q2 r1 r2 r3 (by simp;omega) ⟨w1,hc1,trivial⟩ q7
end slices
end Vam
namespace Vam
open Go
variable {Pr:Prt}{φ φ' ψ:BMap}{S S' R:SMap}{s s':St}{tm tm':TT}{H H':CH}{P:Program}{is:FuncId→Bool}{orc:Known}
theorem first_runK{K:CH}(hK:∀b m,S b=some m→zBw (K.get b) m){v:V}{k:Kd}{z c:Nat}{es:List U}(h:VU φ S v (.lst k z es))(hz:z=c∨z=0):∃m,firstCells K c es.length v=some (ofList m)∧LU φ S m (zl es)∧∀e∈es,(zZ e).length=c:=by
 rcases zCC h with ⟨rfl,h1|⟨_,_,_,h1⟩⟩|⟨b,off,cc,m,l1,l2,h1,h2,h3,h4,h5,h6,h7⟩
 ·rw[h1];exact⟨[],rfl,.nil,by simp⟩
 ·rw[h1]
  refine⟨[],?_,.nil,by simp⟩
  show zN K .over 0 (0*c)=_
  rw[Nat.zero_mul];rfl
 ·have hzc:z=c:=by rcases hz with h|h<;>omega
  subst hzc
  have hl1:l1.length=es.length*z:=by rw[h4.len,wD h5]
  have hm:off+es.length*z≤m.length:=by
   have:=congrArg List.length h3
   simp at this
   have:=h6.1
   omega
  refine⟨l1,?_,h4,h5⟩
  rw[h1]
  show zN K b off (es.length*z)=_
  rw[zDF (hK b m h2) (.inr hm),h3,←hl1]
  simp
theorem appendB_run{K:CH}(hnok:K.n.wf)(hK:∀b m,S b=some m→zBw (K.get b) m){el:TypeId}{v w:V}{z zy c bb:Nat}{ys:List U}{ky:Kd}{zv:V}(hv:VU φ S v (.lst .full z []))(hw:VU φ S w (.lst ky zy ys))
  (hc:P.cellsOf el=c) (h0:0<c) (hb:P.bytesOf el=bb) (hzv:yF P el=some zv) (hzc:Nat.beq (lenV zv 0) c=true) (hz:z=c∨z=0) (hzy:zy=c∨zy=0) (hone:(zl ys).all oneU=true)
  (hbig:ys.length*(bb+c)≤16777216) (hpos:0<ys.length):
  ∃m H1,yq P el K v w=.ok (.slice K.n 0 ys.length (capA ys.length) c) H1∧LU φ S m (zl ys)∧(∀e∈ys,(zZ e).length=c)∧Alloc K H1 (.cells (ofList m) el 0 []):=by
 obtain⟨nm,n1,n2,n3⟩:=first_runK hK hw (c:=c) hzy
 have hrun:yq P el K v w=yA .no (zBQ P K el c ys.length (ofList nm)) (yI P K el c ys.length (ofList nm)) v:=by
  unfold yq
  rw[zDd hw,zDd hv]
  show cond (Nat.ble ((0+ys.length)*(P.bytesOf el+P.cellsOf el)) zAf) _ _=_
  rw[hb,hc,Nat.zero_add,show Nat.ble (ys.length*(bb+c)) zAf=true by rw[Nat.ble_eq];exact hbig]
  obtain⟨c1,rfl⟩:∃c1,c=c1+1:=⟨c - 1,by omega⟩
  show opt R.no (fun new=>yA .no (zBQ P K el (Nat.succ c1) ys.length new) (yI P K el (Nat.succ c1) ys.length new) v) (firstCells K (Nat.succ c1) ys.length w)=_
  rw[show firstCells K (Nat.succ c1) ys.length w=some (ofList nm)from n1];rfl
 have hall:=zFy n2 hone
 obtain⟨H1,a1,a2,a3,a4⟩:=zAM R.no hnok (.cells (ofList nm) el 0 []) (fun n H=>.ok (.slice n 0 ys.length (capA ys.length) c) H)
 refine⟨nm,H1,?_,n2,n3,⟨a2,a3,a4⟩⟩
 rw[hrun]
 obtain⟨k,hk⟩:∃k,ys.length=k+1:=⟨ys.length - 1,by omega⟩
 rcases zCC hv with ⟨_,h1|⟨hz0,cc0,hcc,h1⟩⟩|⟨b,off,cc,m,l1,l2,h1,h2,h3,h4,h5,h6,h7⟩
 ·rw[h1]
  show yI P K el c ys.length (ofList nm)=_
  rw[hk]at a1 ⊢
  show opt .no (fun z=>cond (Nat.beq (lenV z 0) c) (cond (yi (ofList nm)) (zu K el c (k+1) (ofList nm)) .no) .no) (yF P el)=_
  rw[hzv]
  show cond (Nat.beq (lenV zv 0) c) (cond (yi (ofList nm)) (zu K el c (k+1) (ofList nm)) .no) .no=_
  rw[hzc,hall]
  exact a1
 ·obtain rfl:=hcc.resolve_left (fun h=>by cases h)
  have hzc':z=c:=by rcases hz with h|h<;>omega
  subst hzc'
  rw[h1]
  show cond (Nat.beq z z) (cond (Nat.ble (0+ys.length) (capN (capX 0))) (wN K z (0+ys.length) (ofList nm) .over 0 0 (capX 0)) (zd P K el z (0+ys.length) (ofList nm) .over 0 0 (capX 0))) .no=_
  rw[Nat.beq_refl,Nat.zero_add,show Nat.ble ys.length (capN (capX 0))=false by rw[hk];rfl]
  show zd P K el z ys.length (ofList nm) .over 0 0 (capX 0)=_
  unfold zd
  rw[hzv]
  show cond (Nat.beq (lenV zv 0) z) (cond (yi (ofList nm)) (opt .no (fun old=>zu K el z ys.length (appV old (ofList nm))) (zN K .over 0 (0*z))) .no) .no=_
  rw[hzc,hall,Nat.zero_mul]
  exact a1
 ·have hzc':z=c:=by rcases hz with h|h<;>omega
  subst hzc'
  have hcn:capN cc=0:=h6.2.2.2
  have hcE:capE cc=true:=h6.2.2.1
  rw[h1]
  show cond (Nat.beq z z) (cond (Nat.ble (0+ys.length) (capN cc)) (wN K z (0+ys.length) (ofList nm) b off 0 cc) (zd P K el z (0+ys.length) (ofList nm) b off 0 cc)) R.no=_
  rw[Nat.beq_refl,Nat.zero_add,hcn,show Nat.ble ys.length 0=false by rw[hk];rfl]
  show zd P K el z ys.length (ofList nm) b off 0 cc=_
  unfold zd
  rw[hzv,hcE]
  show cond (Nat.beq (lenV zv 0) z) (cond (yi (ofList nm)) (opt .no (fun old=>zu K el z ys.length (appV old (ofList nm))) (zN K b off (0*z))) .no) .no=_
  rw[hzc,hall,Nat.zero_mul]
  show opt .no (fun old=>zu K el z ys.length (appV old (ofList nm))) (zN K b off 0)=_
  rw[zDF (hK b m h2) (.inl rfl)]
  exact a1
theorem capA_n(n:Nat):capN (capA n)=n:=by show(2*n) / 2=n;omega
theorem capA_e(n:Nat):capE (capA n)=false:=by show Nat.beq ((2*n) % 2) 1=false;rw[Nat.mul_mod_right];rfl
theorem fresh_own(hs:SR Pr φ S s tm H){m:List V}{us:List U}{el:TypeId}{c need:Nat}(h0:0<c)(hn:0<need)(hm:LU φ S m (zl us))(hz:∀e∈us,(zZ e).length=c)(hl:us.length=need){H1:CH}(hA:Alloc H H1 (.cells (ofList m) el 0 [])):
  SR Pr φ (S.with H.n m) s tm H1∧S.le (S.with H.n m)∧Kept Pr H H1∧VU φ (S.with H.n m) (.slice H.n 0 need (capA need) c) (.lst .own c us)∧NewOk Pr φ s tm H1 (.slice H.n 0 need (capA need) c) (.lst .own c us):=by
 have hle:=SMap.le_with m hs.none_n
 refine⟨hs.newMem hA,hle,hA.kept hs,?_,?_⟩
 ·refine .slice H.n 0 need _ c m m [] .own us (SMap.with_self _ _ _) (by simp) (hm.mono φ.le_refl hle) hz hl ⟨Nat.zero_le _,by rw[capA_n];exact Nat.le_refl _,.inr ⟨capA_e _,capA_n _,rfl,?_,hn⟩⟩ h0
  rw[hm.len,wD hz,hl]
 ·intro b hb
  have hb:(if capE (capA need)=true then none else some H.n)=some b:=hb
  rw[capA_e]at hb
  cases hb
  refine⟨by rw[hA.fz];exact hs.fzn,⟨m,el,[],by rw[hA.get _ hs.nok,if_pos rfl]⟩,fun lo v' u' ha he=>?_,fun hp=>zT hs.nok (hs.prot _ hp).2.1⟩
  have ha:=ha.alloc hA hs
  obtain⟨w1,w2⟩:=zCx hs ha he
  exact zT hs.nok w2
section ops
variable {all l:List Oper}{d:Nat}{x y:Operand}{t t' t1 t2 xt el:TypeId}{p:String}{e:Array Edge}{a off n c bb z zy len:Nat}{cs es xs ys:List U}{u:U}{Q:St→Prop}{zv:V}{ky:Kd}
theorem d_appendQ{l:List (Oper×M0)}(hd:Nat.blt d 1024=true)(hT:AppT P t1 t2 el c bb zv)(hx:zL s x=.lst .full z [])(hy:zL s y=.lst ky zy ys)(hz:z=c∨z=0)(hzy:zy=c∨zy=0)(hone:(zl ys).all oneU=true)
  (hbig:ys.length*(bb+c)≤16777216) (hpos:0<ys.length) (k:WpD P is orc all l (s.put d (.lst .own c ys)) Q):
  WpD P is orc all ((⟨some d,.call ⟨.builtin .append, #[x,y], #[t1,t2]⟩,t,p,e,none⟩,.quiet)::l) s Q:=by
 intro Pr φ S tm H m0 hm hp hs
 cases hm with
 |quiet _ _ m hm=>
  have e0:pend ((⟨some d,.call ⟨.builtin .append, #[x,y], #[t1,t2]⟩,t,p,e,none⟩,Md.quiet)::m)=pend m:=rfl
  rw[e0]at hp hs
  have hxr:=zH hs x
  rw[hx]at hxr
  have hyr:=zH hs y
  rw[hy]at hyr
  obtain⟨ml,H1,r1,r2,r3,r4⟩:=appendB_run (K:=H.freeze) (by rw[yB];exact hs.nok) (fun b m h=>by rw[wb];exact(hs.mem b m h).2.2.2) hxr hyr hT.hc hT.h0 hT.hb hT.hz hT.hzc hz hzy hone hbig hpos
  rw[yB]at r1
  have hA:Alloc H (H1.thaw H.fz) (.cells (ofList ml) el 0 []):=⟨by rw[zBx,r4.n,yB],by rw[zFJ],fun b hb=>by rw[zAH,r4.get b hb,yB,wb]⟩
  obtain⟨g1,g2,g3,g4,g5⟩:=fresh_own hs hT.h0 hpos r2 r3 rfl hA
  refine zDC ⟨0,fun n hn=>?_⟩ φ.le_refl g2 (g3.weaken (fun b hb=>.inl hb) fun _ h=>h) (hm.keep fun i hi=>g3.get i (.inr hi)) ⟨hp.nodup,fun i hi=>by rw[g3.fz];exact hp.ok i hi,hp.out,hp.odd⟩
   (yl g1 (d:=some d) hd g4 g5) k
  show yk (some d) tm (zFK H.fz (yr P [t1,t2] H.freeze (zE tm x) (zE tm y)))=_
  unfold yr
  obtain⟨e2,h2⟩:=hT.h2
  simp only[hT.h1,h2]
  rw[r1];rfl
end ops
theorem SR.slotcong(hs:SR Pr φ S s tm H)(h:∀i,i<1024→tm.get i=tm'.get i):SR Pr φ S s tm' H:=by
 have key:∀lo v u,At φ s tm' H lo v u→At φ s tm H lo v u:=by
  intro lo v u ha
  cases ha with
  |slot i hi=>rw[←h i hi];exact .slot i hi
  |cell a o b cs l e v u q1 q2 q3 q4 q5=>exact .cell a o b cs l e v u q1 q2 q3 q4 q5
 have key':∀lo v u,At φ s tm H lo v u→At φ s tm' H lo v u:=by
  intro lo v u ha
  cases ha with
  |slot i hi=>rw[h i hi];exact .slot i hi
  |cell a o b cs l e v u q1 q2 q3 q4 q5=>exact .cell a o b cs l e v u q1 q2 q3 q4 q5
 exact⟨hs.nok,hs.fzn,fun i hi=>by rw[←h i hi];exact hs.fr i hi,hs.bx,hs.dom,hs.inj,hs.mem,fun lo v u b ha=>hs.own lo v u b (key _ _ _ ha),fun lo lo' v u v' u' b ha ha'=>hs.excl lo lo' v u v' u' b (key _ _ _ ha) (key _ _ _ ha'),
  fun p hp=>by obtain⟨h3,w,x,h4,h5⟩:=hs.ali p hp;exact⟨h3,w,x,key' _ _ _ h4,by rw[←h _ h3];exact h5⟩,
  fun b hb=>by obtain⟨p1,p2,p3,p4⟩:=hs.prot b hb;exact⟨p1,p2,p3,fun lo w x ha=>p4 lo w x (key _ _ _ ha)⟩,hs.pnew⟩
end Vam
namespace Vam
open Go
variable {Pr:Prt}{φ φ' ψ:BMap}{S S' R:SMap}{s s':St}{tm tm':TT}{H H':CH}{P:Program}{is:FuncId→Bool}{orc:Known}
theorem d_callVQ{all:List Oper}{l:List (Oper×M0)}{d:Option Nat}{g:FuncId}{xs:Array Operand}{ts:Array TypeId}{t:TypeId}{p:String}{e:Array Edge}{args A B:List U}{r:U}{Q:St→Prop}{x:Nat}
  (hd:wS 1024 d=true) (hx:s.slot x=.fn g A B) (hr:RetP P is orc g args r) (hle:UW (.l (A++(zCX s xs.toList++B))) (.l args)) (k:WpD P is orc all l (s.dst d (dg r)) Q):
  WpD P is orc all ((⟨d,.call ⟨.value (.tmp x),xs,ts⟩,t,p,e,none⟩,.quiet)::l) s Q:=by
 intro Pr φ S tm H m0 hm hp hs
 cases hm with
 |quiet _ _ m hm=>
  have e0:pend ((⟨d,.call ⟨.value (.tmp x),xs,ts⟩,t,p,e,none⟩,Md.quiet)::m)=pend m:=rfl
  rw[e0]at hp hs
  have hv:=zH hs (.tmp x)
  rw[show zL s (.tmp x)=_ from hx]at hv
  generalize hq:zE tm (.tmp x)=w at hv
  cases hv with
  |fn _ VA VB _ _ a1 a2=>
   have hl:=UW.vu (LU.append a1 (LU.append (yw hs xs.toList) a2)) hle
   have hl0:LU φ0 S (VA++(xs.toList.map (zE tm)++VB)) args:=zDp hl fun v u hu hv=>hr.dat u hu _ _ _ hv
   have hmo:MemOk S H.freeze:=⟨by rw[yB];exact hs.nok,fun b l hb=>by rw[yB,wb];exact hs.memOk.mem b l hb⟩
   obtain⟨n0,v,H',S',h1,h2,h3⟩:=hr.run S H.freeze _ hmo (by rw[zDi,yB];exact Nat.le_of_eq (Id.top_num hs.nok)) hl0
   have hg:Grow2 S H S' (H'.thaw H.fz):=by
    refine⟨by rw[zBx];exact h2.nok,by rw[zFJ],by rw[zBx];have:=h2.num;rwa [yB]at this,fun b hb=>by rw[zBx];exact h2.bef b (by rw[yB];exact hb),fun b hw hb=>by rw[zAH,h2.get b hw (by rw[yB];exact hb),wb],h2.le,fun b l q1 q2=>?_⟩
    obtain⟨w1,w2,w3,w4⟩:=h2.new b l q1 q2
    rw[yB]at w2
    exact⟨w1,w2,by rw[zBx];exact w3,by rw[zAH];exact w4⟩
   obtain⟨g1,g2⟩:=hs.grow hg
   refine zDC ⟨n0,fun n hn=>?_⟩ φ.le_refl hg.le (g2.weaken (fun b hb=>.inl hb) fun _ h=>h) (hm.keep fun i hi=>g2.get i (.inr hi)) ⟨hp.nodup,fun i hi=>by rw[g2.fz];exact hp.ok i hi,hp.out,hp.odd⟩
    (yl g1 hd (VU.dg (h3.mono (ψ:=φ) (fun a b h=>by cases h) S'.le_refl)) (NewOk.none (yJ _ _))) k
   show yk d tm (zFK H.fz (zDO (zI true P is orc n) (tm.get x) (zi tm xs.toList) H.freeze))=_
   rw[show tm.get x=_ from hq]
   show yk d tm (zFK H.fz ((zI true P is orc n).call g (appV (ofList VA) (appV (zi tm xs.toList) (ofList VB))) H.freeze))=_
   rw[zAJ,zAu,zAu,h1 n hn];rfl
theorem o_idxN{all l:List Oper}{d:Nat}{x y:Operand}{xt t el:TypeId}{p:String}{e:Array Edge}{Q:St→Prop}{cs:List U}{n c:Nat}{ki:IntKind}{i:Nat}(hd:Nat.blt d 1024=true)(ht:tyOf P xt=.array n el)(hx:zL s x=.agg cs)(hi:zL s y=.int ki (i:Int))(he:i<n)
  (hc:P.cellsOf el=c) (hsh:shOf P el=.many c) (hu:i*c+c≤cs.length) (k:WpO P is orc all l (s.put d (.agg ((cs.drop (i*c)).take c))) Q):WpO P is orc all (⟨some d,.index xt x y,t,p,e,none⟩::l) s Q:=by
 refine wA hd (fun w=>rfl) (fun Pr φ S tm H hs=>?_) k
 have h1:=zH hs x
 rw[hx]at h1
 obtain⟨m,g1,g2⟩:=zEa h1
 have h2:=zH hs y
 rw[hi]at h2
 have h2:=zAa h2
 refine⟨.agg (ofList ((m.drop (i*c)).take c)),fun E=>?_,.agg _ _ ((g2.drop (i*c)).take c)⟩
 show zCA P xt (zE tm x) (zE tm y) H=_
 unfold zCA
 rw[ht,g1,h2]
 show cond (Nat.ble (Nat.succ i) n) (zW H (zAQ P el (ofList m) (Nat.mul i (P.cellsOf el)))) .no=_
 rw[show Nat.ble (Nat.succ i) n=true by rw[Nat.ble_eq];omega,hc]
 show zW H (zAQ P el (ofList m) (i*c))=_
 rw[part_many hsh (by rw[g2.len];exact hu)];rfl
theorem zBC{all l:List Oper}{d:Option Nat}{g:FuncId}{xs:Array Operand}{ts:Array TypeId}{t:TypeId}{p:String}{e:Array Edge}{args A B:List U}{r:U}{Q:St→Prop}{x:Nat}(hd:wS 1024 d=true)(hx:s.slot x=.fn g A B)(hr:RetP P is orc g args r)
  (hle:UW (.l (A++(zCX s xs.toList++B))) (.l args)) (k:WpO P is orc all l (s.dst d (dg r)) Q):WpO P is orc all (⟨d,.call ⟨.value (.tmp x),xs,ts⟩,t,p,e,none⟩::l) s Q:=by
 refine o_op (R:=fun u s1=>u=dg r∧s1=s) hd ?_ fun u s1 h=>by obtain⟨rfl,rfl⟩:=h;exact k
 intro Pr φ S tm H hs
 have hv:=zH hs (.tmp x)
 rw[show zL s (.tmp x)=_ from hx]at hv
 generalize hq:zE tm (.tmp x)=w at hv
 cases hv with
 |fn _ VA VB _ _ a1 a2=>
  have hl:=UW.vu (LU.append a1 (LU.append (yw hs xs.toList) a2)) hle
  have hl0:LU φ0 S (VA++(xs.toList.map (zE tm)++VB)) args:=zDp hl fun v u hu hv=>hr.dat u hu _ _ _ hv
  obtain⟨n0,v,H',S',h1,h2,h3⟩:=hr.run S H _ hs.memOk hs.fzn hl0
  obtain⟨g1,g2⟩:=hs.grow h2
  refine⟨v,_,s,H',φ,S',⟨n0,fun n hn=>?_⟩,g1,φ.le_refl,h2.le,g2,?_,NewOk.none (yJ _ _),rfl,rfl⟩
  ·show zDO (zI true P is orc n) (tm.get x) (zi tm xs.toList) H=_
   rw[show tm.get x=_ from hq]
   show(zI true P is orc n).call g (appV (ofList VA) (appV (zi tm xs.toList) (ofList VB))) H=_
   rw[zAJ,zAu,zAu];exact h1 n hn
  ·exact VU.dg (h3.mono (ψ:=φ) (fun a b h=>by cases h) S'.le_refl)
end Vam
namespace Vam
open Go
variable {Pr:Prt}{φ φ' ψ:BMap}{S S' R:SMap}{s s':St}{tm tm':TT}{H H':CH}{P:Program}{is:FuncId→Bool}{orc:Known}
section ops
variable {all l:List Oper}{d:Nat}{x y:Operand}{t xt t1 t2 el:TypeId}{p:String}{e:Array Edge}{a off n c z:Nat}{cs es:List U}{Q:St→Prop}{kd:Kd}
end ops
end Vam
namespace Vam
open Go
variable {Pr:Prt}{φ φ' ψ:BMap}{S S' R:SMap}{s s':St}{tm tm':TT}{H H':CH}{P:Program}{is:FuncId→Bool}{orc:Known}
section ops
variable {all l:List Oper}{d:Nat}{x:Operand}{t xt:TypeId}{p:String}{e:Array Edge}{es:List U}{Q:St→Prop}
theorem o_sliceK{lo:Operand}{el:TypeId}{c z n:Nat}{kk:IntKind}(hd:Nat.blt d 1024=true)(ht:tyOf P xt=.slice el)(hc:P.cellsOf el=c)(h0:Nat.blt 0 c=true)(hx:zL s x=.lst .ro z es)(hz:z=c∨z=0)(hlo:zL s lo=.int kk (n:Int))(hn:n≤es.length)
  (k:WpO P is orc all l (s.put d (.lst .ro c (es.drop n))) Q):WpO P is orc all (⟨some d,.slice xt x (some lo) none none,t,p,e,none⟩::l) s Q:=by
 have h0:=zx h0
 refine wA hd (fun w=>rfl) (fun Pr φ S tm H hs=>?_) k
 have g1:=zH hs x
 rw[hx]at g1
 have g2:=zH hs lo
 rw[hlo]at g2
 have hev:∀E:Ev,evOp P E tm H (.slice xt x (some lo) none none)=zW H (yA none (wG c (some (.int kk (n:Int))) none none) (zEo (some (.int kk (n:Int))) none none) (zE tm x)):=by
  intro E
  show zW H (zAx P xt (zE tm x) (some (zE tm lo)) none none)=_
  rw[zAa g2]
  unfold zAx
  rw[ht,←hc]
 have hb3:∀len m,n≤len→zBh len m (some (.int kk (n:Int))) none none=some (n,len):=by
  intro len m hl
  show opt none (fun l=>some (l,len)) (cond (Nat.ble n len) (some n) none)=_
  rw[show Nat.ble n len=true by rw[Nat.ble_eq];exact hl];rfl
 have hsl:∀(b:Id) (off len cc:Nat),n≤len→wG c (some (.int kk (n:Int))) none none b off len cc c=yO c b off (capN cc) (capE cc) n len:=by
  intro b off len cc hl
  unfold wG
  rw[Nat.beq_refl]
  show opt none (fun lh=>yO c b off (capN cc) (capE cc) lh.1 lh.2) (zBh len (capN cc) (some (.int kk (n:Int))) none none)=_
  rw[hb3 _ _ hl];rfl
 rcases zCC g1 with ⟨rfl,h4|⟨hz0,cc0,hcc,h4⟩⟩|⟨b,off,cc,m,l1,l2,q1,q2,q3,q4,q5,q6,q7⟩
 ·have:n=0:=by simpa using hn
  subst this
  exact⟨.nils,fun E=>by rw[hev,h4];rfl,.nils _ _⟩
 ·have:n=0:=by simpa using hn
  subst this
  have hzc:z=c:=by rcases hz with h|h<;>omega
  subst hzc
  obtain⟨cc1,hc1⟩:∃cc1,yO z .over 0 (capN cc0) (capE cc0) 0 0=some (.slice .over 0 0 cc1 z):=by
   unfold yO
   cases Nat.beq (capN cc0) 0 with
   |true=>cases capE cc0 with
    |true=>exact⟨_,rfl⟩
    |false=>exact⟨_,rfl⟩
   |false=>
    refine⟨cond (capE cc0) (capX (Nat.sub (capN cc0) 0)) (capA (Nat.sub (capN cc0) 0)),?_⟩
    show some (V.slice .over (0+0*z) (0 - 0) _ z)=_
    rw[Nat.zero_mul]
  refine⟨.slice .over 0 0 cc1 z,fun E=>?_,.over _ _ _ (by omega) (.inl rfl)⟩
  rw[hev,h4]
  show zW H (wG z (some (.int kk ((0:Nat):Int))) none none .over 0 0 cc0 z)=_
  rw[hsl .over 0 0 cc0 (Nat.zero_le _),hc1];rfl
 ·have hzc:z=c:=by rcases hz with h|h<;>omega
  subst hzc
  obtain⟨w1,w2,w3⟩:=q6
  by_cases e1:capN cc=n
  ·have e2:es.length=n:=by omega
   have he:es.drop n=[]:=by rw[←e2];exact List.drop_length
   rw[he]
   have e3:Nat.sub es.length n=0:=by show es.length - n=0;omega
   obtain⟨v,hv1,hv2⟩:∃v,yO z b off (capN cc) (capE cc) n es.length=some v∧VU φ S v (.lst .ro z []):=by
    unfold yO
    rw[e1,Nat.beq_refl,e3]
    cases capE cc with
    |true=>exact⟨_,rfl,.slice b off 0 (capX 0) z m [] (m.drop off) .ro [] q2 (by simp) .nil (by simp) rfl ⟨w1,Nat.zero_le _,trivial⟩ h0⟩
    |false=>
     cases n with
     |zero=>exact⟨_,rfl,.slice b off 0 (capA 0) z m [] (m.drop off) .ro [] q2 (by simp) .nil (by simp) rfl ⟨w1,Nat.zero_le _,trivial⟩ h0⟩
     |succ n=>exact⟨_,rfl,.over _ _ _ h0 (.inl rfl)⟩
   refine⟨v,fun E=>?_,hv2⟩
   rw[hev,q1]
   show zW H (wG z (some (.int kk (n:Int))) none none b off es.length cc z)=_
   rw[hsl _ _ _ _ hn,hv1];rfl
  ·refine⟨.slice b (off+n*z) (es.length - n) (cond (capE cc) (capX (capN cc - n)) (capA (capN cc - n))) z,fun E=>?_,?_⟩
   ·rw[hev,q1]
    show zW H (wG z (some (.int kk (n:Int))) none none b off es.length cc z)=_
    rw[hsl _ _ _ _ hn]
    unfold yO
    rw[beq_ne e1];rfl
   ·obtain⟨k1,k2,r1,r2,r3⟩:=lst_sub (len:=0) (cc:=0) q2 q3 q4 q5 (lo:=n) (hi:=es.length) hn (Nat.le_refl _)
    rw[List.take_length]at r2 r3
    have hmm:off+n*z≤m.length:=by
     have hl1:l1.length=es.length*z:=by rw[q4.len,wD q5]
     have:=congrArg List.length q3
     simp at this
     have:=Nat.mul_le_mul_right z hn
     omega
    refine .slice b (off+n*z) (es.length - n) _ z m k1 k2 .ro _ q2 r1 r2 r3 (by simp) ⟨hmm,?_,trivial⟩ h0
    cases capE cc with
    |true=>show es.length - n≤(2*(capN cc - n)+1) / 2;omega
    |false=>show es.length - n≤(2*(capN cc - n)) / 2;omega
end ops
end Vam
namespace Vam
open Go
variable {Pr:Prt}{φ φ' ψ:BMap}{S S' R:SMap}{s s':St}{tm tm':TT}{H H':CH}{P:Program}{is:FuncId→Bool}{orc:Known}
section ops
variable {all l:List Oper}{d:Nat}{x y:Operand}{t t' t1 t2 xt el:TypeId}{p:String}{e:Array Edge}{a off n c bb z zy len:Nat}{cs es xs ys:List U}{u:U}{Q:St→Prop}{zv:V}{ky:Kd}
end ops
end Vam
namespace Vam
open Go
variable {s:St}{P:Program}{is:FuncId→Bool}{orc:Known}
end Vam
namespace Vam
open Go
variable {s:St}{P:Program}{is:FuncId→Bool}{orc:Known}
theorem o_weak{all l:List Oper}{Q:St→Prop}(d:Nat){u:U}(hd:Nat.blt d 1024=true)(hn:∀v,zt v u=none)(hu:UW (.u (s.fr d)) (.u u))(k:WpO P is orc all l (s.put d u) Q):WpO P is orc all l s Q:=by
 intro Pr φ S tm H hs
 have hd:=zx hd
 have h1:=hs.put' hd (UW.vu (hs.fr d hd) hu) (hn _)
 exact k Pr φ S tm H (h1.slotcong fun i hi=>by rw[TT.get_set _ _ _ _ hd hi];split<;>simp_all)
end Vam
