import Derived.Test.YthhbfbmfhldbaaaDoorVamP
set_option linter.unusedVariables false
set_option linter.unusedSimpArgs false
namespace Vam
open Go
variable {Pr:Prt}{φ φ' ψ:BMap}{S S' R:SMap}{s s':St}{tm tm':TT}{H H':CH}{P:Program}{is:FuncId→Bool}{orc:Known}
def flatC(u:U):Bool:=match u with
 | .int _ _=>true
 | .bool _=>true
 | .str _=>true
 |_=>false
def flatK(u:U):Bool:=match u with
 | .agg cs=>cs.all flatC
 |u=>flatC u
def val1(u:U):V:=match u with
 | .int k n=>.int k n
 | .bool b=>.bool b
 | .str s=>.str s
 |_=>undef
noncomputable def valK(u:U):V:=match u with
 | .agg cs=>.agg (ofList (cs.map val1))
 |u=>val1 u
theorem val1_of{v:V}{u:U}(h:VU φ S v u)(hf:flatC u=true):v=val1 u:=by
 cases h<;>first|rfl|cases hf
theorem valL_of{l:List V}{us:List U}(h:LU φ S l us)(hf:us.all flatC=true):l=us.map val1:=by
 induction us generalizing l with
 |nil=>cases h;rfl
 |cons u us ih=>
  cases h with
  |cons x l _ _ h1 h2=>
   simp only[List.all_cons,Bool.and_eq_true]at hf
   rw[val1_of h1 hf.1,ih h2 hf.2];rfl
theorem valK_of{v:V}{u:U}(h:VU φ S v u)(hf:flatK u=true):v=valK u:=by
 cases h with
 |agg l cs h1=>show V.agg (ofList l)=_;rw[valL_of h1 hf];rfl
 |int k n=>rfl
 |bool b=>rfl
 |str s=>rfl
 |_=>cases hf
section ops
variable {all l:List Oper}{d:Nat}{xt yt t:TypeId}{p:String}{e:Array Edge}{Q:St→Prop}{x y:Operand}{u w:U}{a off:Nat}{cs:List U}
theorem o_binK{op:BinOp}{b:Bool}(hd:Nat.blt d 1024=true)(hx:zP s x=u)(hy:zP s y=w)(fu:flatK u=true)(fw:flatK w=true)(he:binV P xt op (valK u) (valK w)=some (.bool b))(k:WpO P is orc all l (s.put d (.bool b)) Q):
  WpO P is orc all (⟨some d,.binOp op xt x y yt,t,p,e,none⟩::l) s Q:=by
 refine wW hd (fun w=>rfl) (fun Pr φ S tm H hs=>⟨.bool b,fun E=>?_,.bool b⟩) k
 have h1:=zM hs x
 have h2:=zM hs y
 rw[hx]at h1;rw[hy]at h2
 show zd H (binV P xt op (zF tm x) (zF tm y))=_
 rw[valK_of h1 fu,valK_of h2 fw,he];rfl
theorem o_neqB{a b:Bool}(hd:Nat.blt d 1024=true)(ht:tyOf P xt=.bool)(hx:zP s x=.bool a)(hy:zP s y=.bool b)(k:WpO P is orc all l (s.put d (.bool (decide (a≠b)))) Q):
  WpO P is orc all (⟨some d,.binOp .neq xt x y yt,t,p,e,none⟩::l) s Q:=by
 refine o_binK hd hx hy rfl rfl ?_ k
 show eqOp P xt .neq (.bool a) (.bool b)=_
 show opt none (fun b=>some (V.bool (not b))) (eqT P xt (.bool a) (.bool b))=_
 have:eqT P xt (.bool a) (.bool b)=some (bEq a b):=by
  show zGa P _ xt (.bool a) (.bool b)=_
  unfold zGa
  rw[ht];rfl
 rw[this]
 show some (V.bool (not (bEq a b)))=_
 cases a<;>cases b<;>rfl
end ops
end Vam
namespace Vam
open Go
variable {Pr:Prt}{φ φ' ψ:BMap}{S S' R:SMap}{s s':St}{tm tm':TT}{H H':CH}{P:Program}{is:FuncId→Bool}{orc:Known}
section ops
variable {all l:List Oper}{d:Nat}{xt t t':TypeId}{p:String}{e:Array Edge}{Q:St→Prop}{x:Operand}{u:U}{a off:Nat}{cs es:List U}
end ops
end Vam
namespace Vam
open Go
variable {Pr:Prt}{φ φ' ψ:BMap}{S S' R:SMap}{s s':St}{tm tm':TT}{H H':CH}{P:Program}{is:FuncId→Bool}{orc:Known}
def ApartS(s:St)(p:Nat×Nat):Prop:=∃a o a' o' cs,s.slot p.1=.box a o∧s.slot p.2=.box a' o'∧a≠a'∧s.st[a]? =some (.box cs)
theorem apart_run(hs:SR Pr φ S s tm H){p:Nat×Nat}(h:ApartS s p):zCd tm H p=true:=by
 obtain⟨a,o,a',o',cs,h1,h2,h3,h4⟩:=h
 have g1:=zM hs (.tmp p.1)
 have g2:=zM hs (.tmp p.2)
 rw[show zP s (.tmp p.1)=_ from h1]at g1
 rw[show zP s (.tmp p.2)=_ from h2]at g2
 obtain⟨b,k1,k2⟩:=zCF g1
 obtain⟨c,k3,k4⟩:=zCF g2
 obtain⟨b',l,e,q1,q2,_⟩:=hs.box a cs h4
 rw[k1]at q1;cases q1
 have hne:b.num≠c.num:=fun e=>h3 (hs.inj a a' b k1 (by rw[Id.wf_inj (hs.dom a b k1).1 (hs.dom a' c k3).1 e];exact k3))
 show wR false (fun b _=>wR false (fun c _=>cond (Nat.beq b.num c.num) false (zh false (fun _ _ st _=>Nat.beq st 0) (H.get b))) (tm.get p.2)) (tm.get p.1)=true
 rw[show tm.get p.1=_ from k2,show tm.get p.2=_ from k4]
 show cond (Nat.beq b.num c.num) false (zh false (fun _ _ st _=>Nat.beq st 0) (H.get b))=true
 rw[beq_ne hne,q2];rfl
theorem k_drawA{i:Nat}{ops:Array Oper}(ms:List M0)(ds:List (Nat×Nat)){Q:Ex→St→Prop}(hm:drawn P ops.toList=zipM ops.toList ms)(hd:zAT ops.toList=ds)(hp:preOk P (zipM ops.toList ms)=true)
  (h:WpD P is orc ops.toList (zipM ops.toList ms) s fun s'=>(∀p∈ds,ApartS s' p)∧Q .normal {s' with al:=[]}):Wp P is orc (.region i ops true) s Q:=by
 intro Pr φ S tm H dfs ro fn hs ho hr
 obtain⟨m,H1,r1,r2,r3,r4,r5⟩:=resv_run (P:=P) _ hs.nok hs.fzn hp
 obtain⟨g1,g2⟩:=hs.grow (r3 S)
 have hfresh:∀i∈pend m,S i=none:=by
  intro i hi
  cases hS:S i with
  |none=>rfl
  |some l=>exact absurd (hs.mem i l hS).2.1 (r5 i hi).2.1
 have hout:∀i∈pend m, ¬ Pr i:=fun i hi hpi=>(r5 i hi).2.1 (hs.prot i hpi).2.1
 have hs1:SR (Pr.and (pend m)) φ S s tm H1:=by
  refine⟨g1.nok,g1.fzn,g1.fr,g1.bx,g1.dom,g1.inj,g1.mem,g1.own,g1.excl,g1.ali,?_,?_⟩
  ·intro b hb
   rcases hb with hb|hb
   ·exact g1.prot b hb
   ·obtain⟨w1,w2,w3,w4⟩:=r5 b hb
    refine⟨w1,w3,fun a ha=>absurd (hs.dom a b ha).2.1 w2,fun lo v u ha he=>?_⟩
    obtain⟨x,hx⟩:=own_S (ha.vu g1) he
    rw[hfresh b hb]at hx;cases hx
  ·intro b hb
   refine⟨(Pr.and (pend m)).s b hb,?_⟩
   rcases hb with hb|hb
   ·exact(hs.pnew b hb).2
   ·exact hfresh b hb
 obtain⟨s2,tm2,H2,φ2,S2,⟨n2,k1⟩,k2,k3,k4,k5,k6,k7⟩:=h Pr φ S tm H1 m r2 ⟨r4,fun i hi=>by rw[g2.fz];exact(r5 i hi).2.2.2,hout,fun i hi hoi=>(r5 i hi).2.1 (ho i hoi).2⟩ hs1
 refine⟨.normal,[],{s2 with al:=[]},tm2,H2,φ2,S2,⟨.nil _ _ _,n2+1,fun n hn=>?_⟩,k2.noAl,k3,k4,g2.trans k5,k7⟩
 cases n with
 |zero=>omega
 |succ n=>
  show zBT dfs (RS.rec (motive:=fun _=>RO) .no (fun l H=>zDE (zAT ops.toList) (wG P (zJ true P is orc n) ops.toList l tm H)) (resv P (drawn P ops.toList) H))=_
  rw[hm,r1]
  show zBT dfs (zDE (zAT ops.toList) (wG P (zJ true P is orc n) ops.toList m tm H1))=_
  rw[hd,k1 n (by omega)]
  have key:∀ds:List (Nat×Nat),(∀p∈ds,ApartS s2 p)→zDE ds (.ok tm2 H2)=.ok tm2 H2:=by
   intro ds
   induction ds with
   |nil=>intro _;rfl
   |cons p ds ih=>
    intro hk
    show cond (zCd tm2 H2 p) (zDE ds (.ok tm2 H2)) .no=_
    rw[apart_run k2 (hk p List.mem_cons_self)]
    exact ih fun q hq=>hk q (List.mem_cons_of_mem _ hq)
  rw[key ds k6];rfl
theorem wX{all l:List Oper}{d:Nat}{x y:Operand}{xt t el:TypeId}{p:String}{e:Array Edge}{Q:St→Prop}{cs:List U}{u:U}{n c:Nat}{ki:IntKind}{i:Int}(hd:Nat.blt d 1024=true)(ht:tyOf P xt=.array n el)(hx:zP s x=.agg cs)(hi:zP s y=.int ki i)(h0:0≤i)(he:i<n)
  (hc:P.cellsOf el=c) (hsh:shOf P el=.one) (hu:cs[i.toNat*c]? =some u) (k:WpO P is orc all l (s.put d (dg u)) Q):WpO P is orc all (⟨some d,.index xt x y,t,p,e,none⟩::l) s Q:=by
 refine wW hd (fun w=>yO w u) (fun Pr φ S tm H hs=>?_) k
 have h1:=zM hs x
 rw[hx]at h1
 obtain⟨m,g1,g2⟩:=zEd h1
 have h2:=zM hs y
 rw[hi]at h2
 have h2:=zCC h2
 obtain⟨j,rfl⟩:∃j:Nat,i=j:=⟨i.toNat,by omega⟩
 obtain⟨v,h4,h5⟩:=g2.get hu
 refine⟨v,fun E=>?_,h5.dg⟩
 show zCA P xt (zF tm x) (zF tm y) H=_
 unfold zCA
 rw[ht,g1,h2]
 show cond (Nat.ble (Nat.succ j) n) (zd H (zAY P el (ofList m) (Nat.mul j (P.cellsOf el)))) .no=_
 rw[show Nat.ble (Nat.succ j) n=true by rw[Nat.ble_eq];omega,hc]
 show zd H (zAY P el (ofList m) (j*c))=_
 rw[part_one hsh (by simpa using h4)];rfl
theorem zH{c:Code}{Q:Ex→St→Prop}(l:List (Nat×U))(st:List SB)(h1:Holds s l)(h2:s.st=st)(k:∀fr:Nat→U,Wp P is orc c ⟨fun j=>zCU l j (fr j),[],st⟩ Q):Wp P is orc c s Q:=by
 rw[h1.eq]
 subst h2
 exact k s.fr
theorem SR.forget(h:SR Pr φ S s tm H){fr:Nat→U}(hfr:∀i,fr i=s.fr i∨fr i=.junk):SR Pr φ S ⟨fr,[],s.st⟩ tm H:=by
 have key:∀lo v u,At φ ⟨fr,[],s.st⟩ tm H lo v u→At φ s tm H lo v u∨yD v u=none:=by
  intro lo v u ha
  cases ha with
  |slot i hi=>
   rcases hfr i with e|e
   ·show At φ s tm H (.slot i) (tm.get i) (fr i)∨_
    rw[e];exact .inl (.slot i hi)
   ·right
    show yD _ (fr i)=none
    rw[e];rfl
  |cell a o b cs l e _ _ h1 h2 h3 h4 h5=>exact .inl (.cell a o b cs l e _ _ h1 h2 h3 h4 h5)
 refine⟨h.nok,h.fzn,fun i hi=>?_,h.bx,h.dom,h.inj,h.mem,?_,?_,fun p hp=>(by cases hp),?_,h.pnew⟩
 ·rcases hfr i with e|e
  ·show VU φ S _ (fr i);rw[e];exact h.fr i hi
  ·show VU φ S _ (fr i);rw[e];exact .junk _
 ·intro lo v u b ha hb
  rcases key _ _ _ ha with ha|hq
  ·exact h.own lo v u b ha hb
  ·rw[hq]at hb;cases hb
 ·intro lo lo' v u v' u' b ha ha' hb hb'
  rcases key _ _ _ ha with ha|hq
  ·rcases key _ _ _ ha' with ha'|hq
   ·exact h.excl lo lo' v u v' u' b ha ha' hb hb'
   ·rw[hq]at hb';cases hb'
  ·rw[hq]at hb;cases hb
 ·intro b hb
  obtain⟨q1,q2,q3,q4⟩:=h.prot b hb
  refine⟨q1,q2,q3,fun lo v u ha=>?_⟩
  rcases key _ _ _ ha with ha|hq
  ·exact q4 lo v u ha
  ·rw[hq];simp
theorem k_forget{c:Code}{Q:Ex→St→Prop}(l:List (Nat×U))(st:List SB)(h1:Holds s l)(h2:s.st=st)(k:Wp P is orc c ⟨fun j=>zCU l j .junk,[],st⟩ Q):Wp P is orc c s Q:=by
 intro Pr φ S tm H ds ro fn hs ho hr
 refine k Pr φ S tm H ds ro fn ?_ ho hr
 rw[←h2]
 refine hs.forget fun i=>?_
 have key:∀l:List (Nat×U),(∀p∈l,s.fr p.1=p.2)→zCU l i .junk=s.fr i∨zCU l i .junk=.junk:=by
  intro l
  induction l with
  |nil=>intro _;exact .inr rfl
  |cons p l ih=>
   intro hp
   obtain⟨j,u⟩:=p
   show cond (Nat.beq i j) u (zCU l i .junk)=_∨cond (Nat.beq i j) u (zCU l i .junk)=_
   by_cases e:i=j
   ·subst e
    rw[Nat.beq_refl]
    exact .inl (hp (i,u) List.mem_cons_self).symm
   ·rw[beq_ne e]
    exact ih fun q hq=>hp q (List.mem_cons_of_mem _ hq)
 exact key l h1.2
end Vam
namespace Vam
open Go
variable {Pr:Prt}{φ φ' ψ:BMap}{S S' R:SMap}{s s':St}{tm tm':TT}{H H':CH}{P:Program}{is:FuncId→Bool}{orc:Known}
theorem VU.undef:VU φ S undef (.tup []):=UR.tup [] [] .nil
theorem own_undef:yD undef (.tup [])=none:=rfl
theorem zDn{all:List Oper}{g:Nat}{want:Bool}{og:Oper}{j:Nat}{c:Bool}(hs:SR Pr φ S s tm H)(hg:nthO all g=some og)(hj:og.dst=some j)(hc:s.slot j=.bool c):zBW all tm (g,want)=bEq c want:=by
 have hv:=zM hs (.tmp j)
 rw[show zP s (.tmp j)=.bool c from hc]at hv
 have hv:tm.get j=.bool c:=zCZ hv
 show opt false (fun b=>bEq b want) (opt none (fun o=>opt none (fun d=>ye none (fun b=>some b) (tm.get d)) (dstOf o)) (nthO all g))=_
 rw[hg]
 show opt false (fun b=>bEq b want) (opt none (fun d=>ye none (fun b=>some b) (tm.get d)) og.dst)=_
 rw[hj]
 show opt false (fun b=>bEq b want) (ye none (fun b=>some b) (tm.get j))=_
 rw[hv];rfl
theorem o_left{all l:List Oper}{dst:Option Nat}{o:Op}{t:TypeId}{p:String}{a:Array Edge}{g:Nat}{want:Bool}{Q:St→Prop}(hd:wV 1024 dst=true)(hw:∀Pr φ S tm H,SR Pr φ S s tm H→zBW all tm (g,want)=false)
  (h2:WpO P is orc all l (s.dst dst (.tup [])) Q):WpO P is orc all (⟨dst,o,t,p,a,some (g,want)⟩::l) s Q:=by
 intro Pr φ S tm H hs
 obtain⟨s2,tm2,H2,φ2,S2,⟨n2,k1⟩,k2⟩:=h2 Pr φ S _ H (wL hs hd VU.undef (NewOk.none own_undef))
 refine⟨s2,tm2,H2,φ2,S2,⟨n2,fun n hn=>?_⟩,k2⟩
 show opsIf P (zJ true P is orc n) dst o tm H (zAe P (zJ true P is orc n) all l) (zBW all tm (g,want))=_
 rw[hw _ _ _ _ _ hs]
 exact k1 n hn
theorem o_guardX{all l:List Oper}{dst:Option Nat}{o:Op}{t:TypeId}{p:String}{a:Array Edge}{g:Nat}{want:Bool}{og:Oper}{j:Nat}{c:Bool}{Q:St→Prop}(hd:wV 1024 dst=true)
  (hg:nthO all g=some og) (hj:og.dst=some j) (hc:s.slot j=.bool c)
  (h1:c=want→WpO P is orc all (⟨dst,o,t,p,a,none⟩::l) s Q) (h2:c= !want→WpO P is orc all l (s.dst dst (.tup [])) Q):WpO P is orc all (⟨dst,o,t,p,a,some (g,want)⟩::l) s Q:=by
 by_cases e:c=want
 ·exact o_guard hd hg hj hc h1 fun h=>by cases c<;>cases want<;>cases e<;>cases h
 ·have e':c= !want:=by cases c<;>cases want<;>simp_all
  refine o_left hd (fun Pr φ S tm H hs=>?_) (h2 e')
  rw[zDn hs hg hj hc];subst e';cases want<;>rfl
theorem d_left{all:List Oper}{dst:Option Nat}{o:Op}{t:TypeId}{p:String}{a:Array Edge}{m0:M0}{l:List (Oper×M0)}{g:Nat}{want:Bool}{Q:St→Prop}(hd:wV 1024 dst=true)
  (hw:∀Pr φ S tm H,SR Pr φ S s tm H→zBW all tm (g,want)=false) (h2:WpD P is orc all l (s.dst dst (.tup [])) Q):WpD P is orc all ((⟨dst,o,t,p,a,some (g,want)⟩,m0)::l) s Q:=by
 intro Pr φ S tm H m hm hp hs
 obtain⟨md,m',rfl,hm2⟩:∃md m',m=(⟨dst,o,t,p,a,some (g,want)⟩,md)::m'∧Mt P H l m':=by
  cases hm with
  |plain _ _ m hm=>exact⟨_,m,rfl,hm⟩
  |quiet _ _ m hm=>exact⟨_,m,rfl,hm⟩
  |read _ ld _ m hm=>exact⟨_,m,rfl,hm⟩
  |pre _ i x _ m q1 q2 hm=>exact⟨_,m,rfl,hm⟩
  |lay _ i _ m hm=>exact⟨_,m,rfl,hm⟩
 have hw:zCG all tm (some (g,want))=false:=hw _ _ _ _ _ hs
 have hin:∀b,b∈pend m'→b∈pend ((⟨dst,o,t,p,a,some (g,want)⟩,md)::m'):=by
  intro b hb
  cases hmd:mdId md with
  |none=>simpa[pend,hmd]using hb
  |some i=>simp only[pend,List.filterMap_cons,hmd];exact List.mem_cons_of_mem _ hb
 have hnd:(pend m').Nodup:=by
  have:=hp.nodup
  cases hmd:mdId md with
  |none=>simpa[pend,hmd]using this
  |some i=>simp only[pend,List.filterMap_cons,hmd]at this;exact(List.nodup_cons.1 this).2
 have hs':SR (Pr.and (pend m')) φ S s tm H:=hs.weaken (fun b hb=>hb.imp id (hin b)) fun b hb=>by
  obtain⟨q1,q2⟩:=hs.pnew b (hb.imp id (hin b))
  rcases hb with hb|hb
  ·exact⟨.inl (Pr.s b hb),q2⟩
  ·exact⟨.inr hb,q2⟩
 refine zEZ ⟨0,fun n hn=>?_⟩ φ.le_refl S.le_refl (Kept.refl _ _) hm2 ⟨hnd,fun i hi=>hp.ok i (hin i hi),fun i hi=>hp.out i (hin i hi),fun i hi=>hp.odd i (hin i hi)⟩ (wL hs' hd VU.undef (NewOk.none own_undef)) h2
 show cond (zCG all tm (some (g,want))) (wH dst tm (zAf P (zJ true P is orc n) tm H md o)) (.ok (setT tm dst undef) H)=_
 rw[hw];rfl
theorem d_guardX{all:List Oper}{dst:Option Nat}{o:Op}{t:TypeId}{p:String}{a:Array Edge}{m0:M0}{l:List (Oper×M0)}{g:Nat}{want:Bool}{og:Oper}{j:Nat}{c:Bool}{Q:St→Prop}(hd:wV 1024 dst=true)
  (hg:nthO all g=some og) (hj:og.dst=some j) (hc:s.slot j=.bool c)
  (h1:c=want→WpD P is orc all ((⟨dst,o,t,p,a,none⟩,m0)::l) s Q) (h2:c= !want→WpD P is orc all l (s.dst dst (.tup [])) Q):WpD P is orc all ((⟨dst,o,t,p,a,some (g,want)⟩,m0)::l) s Q:=by
 by_cases e:c=want
 ·exact d_guard hd hg hj hc h1 fun h=>by cases c<;>cases want<;>cases e<;>cases h
 ·have e':c= !want:=by cases c<;>cases want<;>simp_all
  refine d_left hd (fun Pr φ S tm H hs=>?_) (h2 e')
  rw[zDn hs hg hj hc];subst e';cases want<;>rfl
end Vam
namespace Vam
open Go
variable {s:St}{P:Program}{is:FuncId→Bool}{orc:Known}
section short
variable {all l:List Oper}{dst:Option Nat}{o:Op}{t:TypeId}{p:String}{a:Array Edge}{g:Nat}{want:Bool}{og:Oper}{j:Nat}{c:Bool}{Q:St→Prop}
theorem o_gD(hd:wV 1024 dst=true)(hg:nthO all g=some og)(hj:og.dst=some j)(hc:s.slot j=.bool c)(e:c=want)(h1:WpO P is orc all (⟨dst,o,t,p,a,none⟩::l) s Q):WpO P is orc all (⟨dst,o,t,p,a,some (g,want)⟩::l) s Q:=
 o_guard hd hg hj hc (fun _=>h1) fun h=>by cases c<;>cases want<;>cases e<;>cases h
theorem o_gS(hd:wV 1024 dst=true)(hg:nthO all g=some og)(hj:og.dst=some j)(hc:s.slot j=.bool c)(e:c= !want)(h2:WpO P is orc all l (s.dst dst (.tup [])) Q):WpO P is orc all (⟨dst,o,t,p,a,some (g,want)⟩::l) s Q:=
 o_guardX hd hg hj hc (fun h=>by cases c<;>cases want<;>cases e<;>cases h) fun _=>h2
variable {m0:M0}{m:List (Oper×M0)}
theorem d_gD(hd:wV 1024 dst=true)(hg:nthO all g=some og)(hj:og.dst=some j)(hc:s.slot j=.bool c)(e:c=want)(h1:WpD P is orc all ((⟨dst,o,t,p,a,none⟩,m0)::m) s Q):WpD P is orc all ((⟨dst,o,t,p,a,some (g,want)⟩,m0)::m) s Q:=
 d_guard hd hg hj hc (fun _=>h1) fun h=>by cases c<;>cases want<;>cases e<;>cases h
theorem d_gS(hd:wV 1024 dst=true)(hg:nthO all g=some og)(hj:og.dst=some j)(hc:s.slot j=.bool c)(e:c= !want)(h2:WpD P is orc all m (s.dst dst (.tup [])) Q):WpD P is orc all ((⟨dst,o,t,p,a,some (g,want)⟩,m0)::m) s Q:=
 d_guardX hd hg hj hc (fun h=>by cases c<;>cases want<;>cases e<;>cases h) fun _=>h2
end short
theorem k_cT{x:Operand}{a b:Code}{c:Bool}{Q:Ex→St→Prop}(hx:zP s x=.bool c)(e:c=true)(h:Wp P is orc a s Q):Wp P is orc (.cond x a b) s Q:=k_cond hx (fun _=>h) fun h'=>by rw[e]at h';cases h'
theorem k_cF{x:Operand}{a b:Code}{c:Bool}{Q:Ex→St→Prop}(hx:zP s x=.bool c)(e:c=false)(h:Wp P is orc b s Q):Wp P is orc (.cond x a b) s Q:=k_cond hx (fun h'=>by rw[e]at h';cases h') fun _=>h
end Vam
namespace Vam
open Go
variable {s:St}{P:Program}{is:FuncId→Bool}{orc:Known}
section shifts
variable {all l:List Oper}{d:Nat}{x y:Operand}{xt yt t:TypeId}{p:String}{e:Array Edge}{a b:Int}{Q:St→Prop}
theorem kwrap64{n:Int}(h:0≤n∧n≤9223372036854775807):IntKind.i64.wrap n=n:=by
 have e:n % (2 ^ IntKind.i64.bits:Int)=n:=Int.emod_eq_of_lt h.1 (by show n<18446744073709551616;omega)
 have e2: ¬ (n ≥ (2 ^ (IntKind.i64.bits - 1):Int)):=by show ¬ (n ≥ 9223372036854775808);omega
 unfold IntKind.wrap
 simp only[e]
 rw[if_neg (by simp only[Bool.and_eq_true,decide_eq_true_eq];exact fun h=>e2 h.2)]
theorem o_shr{ky:IntKind}(hd:Nat.blt d 1024=true)(hx:zP s x=.int .i64 a)(hy:zP s y=.int ky b)(hb:0≤b∧b≤64)(hk:WpO P is orc all l (s.put d (.int .i64 (a.fdiv (2 ^ b.toNat)))) Q):WpO P is orc all (⟨some d,.binOp .shr xt x y yt,t,p,e,none⟩::l) s Q:=
 zFc hd hx hy (v:=.int .i64 (a.fdiv (2 ^ b.toNat))) (by
  obtain⟨n,rfl⟩:∃n:Nat,b=n:=⟨b.toNat,by omega⟩
  show some (V.int .i64 (a.fdiv (2 ^ (min n IntKind.i64.bits))))=_
  rw[show min n IntKind.i64.bits=n by show min n 64=n;omega];rfl) rfl hk
theorem o_andOne(hd:Nat.blt d 1024=true)(hx:zP s x=.int .i64 a)(hy:zP s y=.int .i64 1)(ha:0≤a∧a≤9223372036854775807)(hk:WpO P is orc all l (s.put d (.int .i64 (a % 2))) Q):WpO P is orc all (⟨some d,.binOp .and xt x y yt,t,p,e,none⟩::l) s Q:=
 zFc hd hx hy (v:=.int .i64 (a % 2)) (by
  obtain⟨n,rfl⟩:∃n:Nat,a=n:=⟨a.toNat,by omega⟩
  have hb:((BitVec.ofInt 64 (n:Int)) &&& (BitVec.ofInt 64 1)).toNat=n % 2:=by
   rw[BitVec.toNat_and]
   have e1:(BitVec.ofInt 64 (n:Int)).toNat=n:=by
    rw[BitVec.toNat_ofInt];omega
   have e2:(BitVec.ofInt 64 1).toNat=1:=rfl
   rw[e1,e2,Nat.and_one_is_mod]
  show some (V.int .i64 (IntKind.i64.wrap ((BitVec.ofInt 64 (n:Int)) &&& (BitVec.ofInt 64 1)).toNat))=_
  rw[hb,kwrap64 (by omega)]
  congr 2) rfl hk
end shifts
end Vam
namespace Vam
open Go
variable {Pr:Prt}{φ φ' ψ:BMap}{S S' R:SMap}{s s':St}{tm tm':TT}{H H':CH}{P:Program}{is:FuncId→Bool}{orc:Known}
end Vam
namespace Vam
open Go
variable {P:Program}{is:FuncId→Bool}{orc:Known}
section calls
variable {s:St}{all l:List Oper}{d:Option Nat}{g:FuncId}{xs:Array Operand}{ts:Array TypeId}{t:TypeId}{p:String}{e:Array Edge}{args:List U}{M:U→List SB→Prop}{Q:St→Prop}
end calls
end Vam
namespace Vam
open Go
variable {P:Program}{is:FuncId→Bool}{orc:Known}{s:St}
theorem St.byList{l:List (Nat×U)}(h:Holds ⟨s.fr,[],s.st⟩ l):s=⟨fun j=>zCU l j (s.fr j),s.al,s.st⟩:=by
 have:=congrArg St.fr h.eq
 cases s with
 |mk fr al st=>
  have e:fr=fun j=>zCU l j (fr j):=this
  show St.mk fr al st=St.mk (fun j=>zCU l j (fr j)) al st
  rw[←e]
theorem zAa{all m:List Oper}{Q:St→Prop}(l:List (Nat×U))(al:List (Nat×Lo))(st:List SB)(h1:Holds ⟨s.fr,[],s.st⟩ l)(h2:s.st=st)(h3:s.al=al)(k:∀fr:Nat→U,WpO P is orc all m ⟨fun j=>zCU l j (fr j),al,st⟩ Q):WpO P is orc all m s Q:=by
 rw[St.byList h1]
 subst h2;subst h3
 exact k s.fr
theorem zn{all:List Oper}{m:List (Oper×M0)}{Q:St→Prop}(l:List (Nat×U))(al:List (Nat×Lo))(st:List SB)(h1:Holds ⟨s.fr,[],s.st⟩ l)(h2:s.st=st)(h3:s.al=al)(k:∀fr:Nat→U,WpD P is orc all m ⟨fun j=>zCU l j (fr j),al,st⟩ Q):WpD P is orc all m s Q:=by
 rw[St.byList h1]
 subst h2;subst h3
 exact k s.fr
section slices
variable {Pr:Prt}{φ:BMap}{S:SMap}{tm:TT}{H:CH}{all l:List Oper}{d:Nat}{x:Operand}{xt t:TypeId}{p:String}{e:Array Edge}{Q:St→Prop}{es:List U}
end slices
end Vam
namespace Vam
open Go
variable {Pr:Prt}{φ φ' ψ:BMap}{S S' R:SMap}{s s':St}{tm tm':TT}{H H':CH}{P:Program}{is:FuncId→Bool}{orc:Known}
section ops
variable {all l:List Oper}{d:Nat}{x y:Operand}{t t' t1 t2 xt el:TypeId}{p:String}{e:Array Edge}{a off n c bb z zy len:Nat}{cs es xs ys:List U}{u:U}{Q:St→Prop}{zv:V}{ky:Kd}
end ops
theorem SR.slotcong(hs:SR Pr φ S s tm H)(h:∀i,i<1024→tm.get i=tm'.get i):SR Pr φ S s tm' H:=by
 have key:∀lo v u,At φ s tm' H lo v u→At φ s tm H lo v u:=by
  intro lo v u ha
  cases ha with
  |slot i hi=>rw[←h i hi];exact .slot i hi
  |cell a o b cs l e v u q1 q2 q3 q4 q5=>exact .cell a o b cs l e v u q1 q2 q3 q4 q5
 have key':∀lo v u,At φ s tm H lo v u→At φ s tm' H lo v u:=by
  intro lo v u ha
  cases ha with
  |slot i hi=>rw[h i hi];exact .slot i hi
  |cell a o b cs l e v u q1 q2 q3 q4 q5=>exact .cell a o b cs l e v u q1 q2 q3 q4 q5
 exact⟨hs.nok,hs.fzn,fun i hi=>by rw[←h i hi];exact hs.fr i hi,hs.bx,hs.dom,hs.inj,hs.mem,fun lo v u b ha=>hs.own lo v u b (key _ _ _ ha),fun lo lo' v u v' u' b ha ha'=>hs.excl lo lo' v u v' u' b (key _ _ _ ha) (key _ _ _ ha'),
  fun p hp=>by obtain⟨h3,w,x,h4,h5⟩:=hs.ali p hp;exact⟨h3,w,x,key' _ _ _ h4,by rw[←h _ h3];exact h5⟩,
  fun b hb=>by obtain⟨p1,p2,p3,p4⟩:=hs.prot b hb;exact⟨p1,p2,p3,fun lo w x ha=>p4 lo w x (key _ _ _ ha)⟩,hs.pnew⟩
end Vam
namespace Vam
open Go
variable {Pr:Prt}{φ φ' ψ:BMap}{S S' R:SMap}{s s':St}{tm tm':TT}{H H':CH}{P:Program}{is:FuncId→Bool}{orc:Known}
theorem d_callVQ{all:List Oper}{l:List (Oper×M0)}{d:Option Nat}{g:FuncId}{xs:Array Operand}{ts:Array TypeId}{t:TypeId}{p:String}{e:Array Edge}{args A B:List U}{r:U}{Q:St→Prop}{x:Nat}
  (hd:wV 1024 d=true) (hx:s.slot x=.fn g A B) (hr:RetP P is orc g args r) (hle:UW (.l (A++(zCX s xs.toList++B))) (.l args)) (k:WpD P is orc all l (s.dst d (dg r)) Q):
  WpD P is orc all ((⟨d,.call ⟨.value (.tmp x),xs,ts⟩,t,p,e,none⟩,.quiet)::l) s Q:=by
 intro Pr φ S tm H m0 hm hp hs
 cases hm with
 |quiet _ _ m hm=>
  have e0:pend ((⟨d,.call ⟨.value (.tmp x),xs,ts⟩,t,p,e,none⟩,Md.quiet)::m)=pend m:=rfl
  rw[e0]at hp hs
  have hv:=zM hs (.tmp x)
  rw[show zP s (.tmp x)=_ from hx]at hv
  generalize hq:zF tm (.tmp x)=w at hv
  cases hv with
  |fn _ VA VB _ _ a1 a2=>
   have hl:=UW.vu (LU.append a1 (LU.append (wB hs xs.toList) a2)) hle
   have hl0:LU φ0 S (VA++(xs.toList.map (zF tm)++VB)) args:=zDm hl fun v u hu hv=>hr.dat u hu _ _ _ hv
   have hmo:MemOk S H.freeze:=⟨by rw[yZ];exact hs.nok,fun b l hb=>by rw[yZ,zAr];exact hs.memOk.mem b l hb⟩
   obtain⟨n0,v,H',S',h1,h2,h3⟩:=hr.run S H.freeze _ hmo (by rw[zDf,yZ];exact Nat.le_of_eq (Id.top_num hs.nok)) hl0
   have hg:Grow2 S H S' (H'.thaw H.fz):=by
    refine⟨by rw[zCL];exact h2.nok,by rw[thaw_fz],by rw[zCL];have:=h2.num;rwa [yZ]at this,fun b hb=>by rw[zCL];exact h2.bef b (by rw[yZ];exact hb),fun b hw hb=>by rw[zAj,h2.get b hw (by rw[yZ];exact hb),zAr],h2.le,fun b l q1 q2=>?_⟩
    obtain⟨w1,w2,w3,w4⟩:=h2.new b l q1 q2
    rw[yZ]at w2
    exact⟨w1,w2,by rw[zCL];exact w3,by rw[zAj];exact w4⟩
   obtain⟨g1,g2⟩:=hs.grow hg
   refine zEZ ⟨n0,fun n hn=>?_⟩ φ.le_refl hg.le (g2.weaken (fun b hb=>.inl hb) fun _ h=>h) (hm.keep fun i hi=>g2.get i (.inr hi)) ⟨hp.nodup,fun i hi=>by rw[g2.fz];exact hp.ok i hi,hp.out,hp.odd⟩
    (wL g1 hd (VU.dg (h3.mono (ψ:=φ) (fun a b h=>by cases h) S'.le_refl)) (NewOk.none (yO _ _))) k
   show wH d tm (zGC H.fz (zDN (zJ true P is orc n) (tm.get x) (zr tm xs.toList) H.freeze))=_
   rw[show tm.get x=_ from hq]
   show wH d tm (zGC H.fz ((zJ true P is orc n).call g (appV (ofList VA) (appV (zr tm xs.toList) (ofList VB))) H.freeze))=_
   rw[zAS,zAy,zAy,h1 n hn];rfl
theorem o_idxN{all l:List Oper}{d:Nat}{x y:Operand}{xt t el:TypeId}{p:String}{e:Array Edge}{Q:St→Prop}{cs:List U}{n c:Nat}{ki:IntKind}{i:Nat}(hd:Nat.blt d 1024=true)(ht:tyOf P xt=.array n el)(hx:zP s x=.agg cs)(hi:zP s y=.int ki (i:Int))(he:i<n)
  (hc:P.cellsOf el=c) (hsh:shOf P el=.many c) (hu:i*c+c≤cs.length) (k:WpO P is orc all l (s.put d (.agg ((cs.drop (i*c)).take c))) Q):WpO P is orc all (⟨some d,.index xt x y,t,p,e,none⟩::l) s Q:=by
 refine wW hd (fun w=>rfl) (fun Pr φ S tm H hs=>?_) k
 have h1:=zM hs x
 rw[hx]at h1
 obtain⟨m,g1,g2⟩:=zEd h1
 have h2:=zM hs y
 rw[hi]at h2
 have h2:=zCC h2
 refine⟨.agg (ofList ((m.drop (i*c)).take c)),fun E=>?_,.agg _ _ ((g2.drop (i*c)).take c)⟩
 show zCA P xt (zF tm x) (zF tm y) H=_
 unfold zCA
 rw[ht,g1,h2]
 show cond (Nat.ble (Nat.succ i) n) (zd H (zAY P el (ofList m) (Nat.mul i (P.cellsOf el)))) .no=_
 rw[show Nat.ble (Nat.succ i) n=true by rw[Nat.ble_eq];omega,hc]
 show zd H (zAY P el (ofList m) (i*c))=_
 rw[part_many hsh (by rw[g2.len];exact hu)];rfl
theorem wb{all l:List Oper}{d:Option Nat}{g:FuncId}{xs:Array Operand}{ts:Array TypeId}{t:TypeId}{p:String}{e:Array Edge}{args A B:List U}{r:U}{Q:St→Prop}{x:Nat}(hd:wV 1024 d=true)(hx:s.slot x=.fn g A B)(hr:RetP P is orc g args r)
  (hle:UW (.l (A++(zCX s xs.toList++B))) (.l args)) (k:WpO P is orc all l (s.dst d (dg r)) Q):WpO P is orc all (⟨d,.call ⟨.value (.tmp x),xs,ts⟩,t,p,e,none⟩::l) s Q:=by
 refine o_op (R:=fun u s1=>u=dg r∧s1=s) hd ?_ fun u s1 h=>by obtain⟨rfl,rfl⟩:=h;exact k
 intro Pr φ S tm H hs
 have hv:=zM hs (.tmp x)
 rw[show zP s (.tmp x)=_ from hx]at hv
 generalize hq:zF tm (.tmp x)=w at hv
 cases hv with
 |fn _ VA VB _ _ a1 a2=>
  have hl:=UW.vu (LU.append a1 (LU.append (wB hs xs.toList) a2)) hle
  have hl0:LU φ0 S (VA++(xs.toList.map (zF tm)++VB)) args:=zDm hl fun v u hu hv=>hr.dat u hu _ _ _ hv
  obtain⟨n0,v,H',S',h1,h2,h3⟩:=hr.run S H _ hs.memOk hs.fzn hl0
  obtain⟨g1,g2⟩:=hs.grow h2
  refine⟨v,_,s,H',φ,S',⟨n0,fun n hn=>?_⟩,g1,φ.le_refl,h2.le,g2,?_,NewOk.none (yO _ _),rfl,rfl⟩
  ·show zDN (zJ true P is orc n) (tm.get x) (zr tm xs.toList) H=_
   rw[show tm.get x=_ from hq]
   show(zJ true P is orc n).call g (appV (ofList VA) (appV (zr tm xs.toList) (ofList VB))) H=_
   rw[zAS,zAy,zAy];exact h1 n hn
  ·exact VU.dg (h3.mono (ψ:=φ) (fun a b h=>by cases h) S'.le_refl)
end Vam
namespace Vam
open Go
variable {Pr:Prt}{φ φ' ψ:BMap}{S S' R:SMap}{s s':St}{tm tm':TT}{H H':CH}{P:Program}{is:FuncId→Bool}{orc:Known}
section ops
variable {all l:List Oper}{d:Nat}{x y:Operand}{t xt t1 t2 el:TypeId}{p:String}{e:Array Edge}{a off n c z:Nat}{cs es:List U}{Q:St→Prop}{kd:Kd}
end ops
end Vam
namespace Vam
open Go
variable {Pr:Prt}{φ φ' ψ:BMap}{S S' R:SMap}{s s':St}{tm tm':TT}{H H':CH}{P:Program}{is:FuncId→Bool}{orc:Known}
section ops
variable {all l:List Oper}{d:Nat}{x:Operand}{t xt:TypeId}{p:String}{e:Array Edge}{es:List U}{Q:St→Prop}
end ops
end Vam
namespace Vam
open Go
variable {Pr:Prt}{φ φ' ψ:BMap}{S S' R:SMap}{s s':St}{tm tm':TT}{H H':CH}{P:Program}{is:FuncId→Bool}{orc:Known}
section ops
variable {all l:List Oper}{d:Nat}{x y:Operand}{t t' t1 t2 xt el:TypeId}{p:String}{e:Array Edge}{a off n c bb z zy len:Nat}{cs es xs ys:List U}{u:U}{Q:St→Prop}{zv:V}{ky:Kd}
end ops
end Vam
namespace Vam
open Go
variable {s:St}{P:Program}{is:FuncId→Bool}{orc:Known}
theorem o_shlOne{all l:List Oper}{d:Nat}{x y:Operand}{xt yt t:TypeId}{p:String}{e:Array Edge}{Q:St→Prop}{ky:IntKind}{n:Nat}(hd:Nat.blt d 1024=true)(hx:zP s x=.int .i64 1)(hy:zP s y=.int ky (n:Int))(hn:n≤62)(hk:WpO P is orc all l (s.put d (.int .i64 (2 ^ n))) Q):
  WpO P is orc all (⟨some d,.binOp .shl xt x y yt,t,p,e,none⟩::l) s Q:=
 zFc hd hx hy (v:=.int .i64 (2 ^ n)) (by
  have h1:(2:Int) ^ n≤2 ^ 62:=by
   have:=Nat.pow_le_pow_right (n:=2) (by decide) hn
   exact_mod_cast this
  have h2:(0:Int)≤2 ^ n:=Int.le_of_lt (Int.pow_pos (by decide))
  show some (V.int .i64 (IntKind.i64.wrap (1*2 ^ (min n IntKind.i64.bits))))=_
  rw[show min n IntKind.i64.bits=n by show min n 64=n;omega,Int.one_mul,kwrap64 ⟨h2,by omega⟩]) rfl hk
end Vam
namespace Vam
open Go
variable {s:St}{P:Program}{is:FuncId→Bool}{orc:Known}
theorem o_weak{all l:List Oper}{Q:St→Prop}(d:Nat){u:U}(hd:Nat.blt d 1024=true)(hn:∀v,yD v u=none)(hu:UW (.u (s.fr d)) (.u u))(k:WpO P is orc all l (s.put d u) Q):WpO P is orc all l s Q:=by
 intro Pr φ S tm H hs
 have hd:=yN hd
 have h1:=hs.put' hd (UW.vu (hs.fr d hd) hu) (hn _)
 exact k Pr φ S tm H (h1.slotcong fun i hi=>by rw[TT.get_set _ _ _ _ hd hi];split<;>simp_all)
end Vam
