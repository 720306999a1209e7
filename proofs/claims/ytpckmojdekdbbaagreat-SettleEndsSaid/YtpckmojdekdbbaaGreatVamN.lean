import Derived.Test.YtpckmojdekdbbaaGreatVamM
set_option linter.unusedVariables false
set_option linter.unusedSimpArgs false
namespace Vam
open Go
variable {Pr:Prt}{φ φ':BMap}{S S':SMap}{s s':St}{tm tm':TT}{H H':CH}{P:Program}{is:FuncId→Bool}{orc:Known}
inductive Mt(P:Program)(H:CH):List (Oper×M0)→List (Oper×Md)→Prop where
 |nil:Mt P H [] []
 |plain (o:Oper) (l:List (Oper×M0)) (m:List (Oper×Md)):Mt P H l m→Mt P H ((o,.plain)::l) ((o,.plain)::m)
 |quiet (o:Oper) (l:List (Oper×M0)) (m:List (Oper×Md)):Mt P H l m→Mt P H ((o,.quiet)::l) ((o,.quiet)::m)
 |read (o:Oper) (ld:Bool) (l:List (Oper×M0)) (m:List (Oper×Md)):Mt P H l m→Mt P H ((o,.read ld)::l) ((o,.read ld)::m)
 |pre (o:Oper) (i:Id) (x:Blk) (l:List (Oper×M0)) (m:List (Oper×Md)):zEP P o.op=some x→H.get i=some x→Mt P H l m→Mt P H ((o,.pre)::l) ((o,.pre i)::m)
 |lay (o:Oper) (i:Id) (l:List (Oper×M0)) (m:List (Oper×Md)):Mt P H l m→Mt P H ((o,.lay)::l) ((o,.lay i)::m)
def mdId(m:Md):Option Id:=match m with
 | .pre i=>some i
 | .lay i=>some i
 |_=>none
def pend(m:List (Oper×Md)):List Id:=m.filterMap fun p=>mdId p.2
structure PendOk(Pr:Prt)(H:CH)(ids:List Id):Prop where
 nodup:ids.Nodup
 ok:∀i∈ids,H.fz≤i.num
 out:∀i∈ids, ¬ Pr i
 odd:∀i∈ids, ¬ Pr.o i
def Prt.and(Pr:Prt)(ids:List Id):Prt:=⟨fun b=>Pr b∨b∈ids,fun b=>Pr.n b∨b∈ids,Pr.o,fun b h=>h.imp (Pr.s b) id⟩
def WpD(P:Program)(is:FuncId→Bool)(orc:Known)(all:List Oper)(l:List (Oper×M0))(s:St)(Q:St→Prop):Prop:=∀Pr φ S tm H m,Mt P H l m→PendOk Pr H (pend m)→SR (Pr.and (pend m)) φ S s tm H→
 Post Pr φ S H Q fun tm' H'=>∃n0,∀n,n0≤n→wv P (zO true P is orc n) all m tm H=.ok tm' H'
theorem SR.weaken{Pr':Prt}(h:SR Pr φ S s tm H)(k:∀b,Pr' b→Pr b)(k2:∀b,Pr'.n b→Pr' b∧S b=none):SR Pr' φ S s tm H:=
 ⟨h.nok,h.fzn,h.fr,h.bx,h.dom,h.inj,h.mem,h.own,h.excl,h.ali,fun b hb=>h.prot b (k b hb),k2⟩
theorem Kept.weaken{Pr':Prt}(h:Kept Pr H H')(k:∀b,Pr' b→Pr b)(ko:∀b,Pr'.o b→Pr.o b):Kept Pr' H H':=⟨h.fz,h.bef,fun b hb=>h.get b (k b hb),fun b ho=>h.odd b (ko b ho)⟩
theorem Mt.keep{l:List (Oper×M0)}{m:List (Oper×Md)}(h:Mt P H l m)(k:∀i∈pend m,H'.get i=H.get i):Mt P H' l m:=by
 induction h with
 |nil=>exact .nil
 |plain o l m _ ih=>exact .plain o l m (ih k)
 |quiet o l m _ ih=>exact .quiet o l m (ih k)
 |read o ld l m _ ih=>exact .read o ld l m (ih k)
 |pre o i x l m h1 h2 _ ih=>exact .pre o i x l m h1 ((k i (by simp[pend,mdId])).trans h2) (ih fun j hj=>k j (by simp[pend,mdId]at hj ⊢;exact .inr hj))
 |lay o i l m _ ih=>exact .lay o i l m (ih fun j hj=>k j (by simp[pend,mdId]at hj ⊢;exact .inr hj))
theorem zAK{all:List Oper}{Q:St→Prop}(h:Q s):WpD P is orc all [] s Q:=by
 intro Pr φ S tm H m hm _ hs
 cases hm
 exact Post.here (hs.weaken (fun b hb=>.inl hb) fun b hb=>⟨((hs.pnew b (.inl hb)).1).resolve_right (by simp[pend]),(hs.pnew b (.inl hb)).2⟩) ⟨0,fun _ _=>rfl⟩ h
theorem zFo(E:Ev)(all:List Oper)(o:Oper)(tm:TT)(H:CH):zBq P E all [o] tm H=yN P E all (o,.plain) tm H:=by
 obtain⟨dst,op,t,p,a,g⟩:=o
 cases g with
 |none=>
  show zCn P E dst op tm H RO.ok=wO dst tm (evOp P E tm H op)
  unfold zCn wO
  cases evOp P E tm H op<;>rfl
 |some g=>
  show opsIf P E dst op tm H RO.ok (zBs all tm g)=cond (zBs all tm g) (wO dst tm (evOp P E tm H op)) (.ok (setT tm dst undef) H)
  cases zBs all tm g with
  |false=>rfl
  |true=>
   show zCn P E dst op tm H RO.ok=wO dst tm (evOp P E tm H op)
   unfold zCn wO
   cases evOp P E tm H op<;>rfl
theorem zDi{all:List Oper}{o:Oper}{md:Md}{m:List (Oper×Md)}{Q:St→Prop}{s1:St}{tm1:TT}{H1:CH}{φ1:BMap}{S1:SMap}{l:List (Oper×M0)}
  (hrun:∃n0,∀n,n0≤n→yN P (zO true P is orc n) all (o,md) tm H=.ok tm1 H1) (h1:φ.le φ1) (h2:S.le S1) (h3:Kept Pr H H1) (hm:Mt P H1 l m) (hp:PendOk Pr H1 (pend m)) (hs:SR (Pr.and (pend m)) φ1 S1 s1 tm1 H1)
  (k:WpD P is orc all l s1 Q):Post Pr φ S H Q fun tm' H'=>∃n0,∀n,n0≤n→wv P (zO true P is orc n) all ((o,md)::m) tm H=.ok tm' H':=by
 obtain⟨n1,r1⟩:=hrun
 obtain⟨s2,tm2,H2,φ2,S2,⟨n2,k1⟩,k2,k3,k4,k5,k6⟩:=k Pr φ1 S1 tm1 H1 m hm hp hs
 refine⟨s2,tm2,H2,φ2,S2,⟨n1+n2,fun n hn=>?_⟩,k2,BMap.le_trans h1 k3,SMap.le_trans h2 k4,h3.trans k5,k6⟩
 show RO.rec (motive:=fun _=>RO) .no (wv P (zO true P is orc n) all m) (yN P (zO true P is orc n) all (o,md) tm H)=_
 rw[r1 n (by omega)]
 exact k1 n (by omega)
theorem zC{all:List Oper}{o:Oper}{l:List (Oper×M0)}{s1:St}{Q:St→Prop}(h:WpO P is orc all [o] s fun s'=>s'=s1)(k:WpD P is orc all l s1 Q):WpD P is orc all ((o,.plain)::l) s Q:=by
 intro Pr φ S tm H m0 hm hp hs
 cases hm with
 |plain _ _ m hm=>
  have e:pend ((o,Md.plain)::m)=pend m:=rfl
  rw[e]at hp hs
  obtain⟨s2,tm1,H1,φ1,S1,⟨n1,r1⟩,r2,r3,r4,r5,rfl⟩:=h _ φ S tm H hs
  refine zDi ⟨n1,fun n hn=>by rw[←zFo];exact r1 n hn⟩ r3 r4 (r5.weaken (fun b hb=>.inl hb) fun _ h=>h) (hm.keep fun i hi=>r5.get i (.inr hi)) ⟨hp.nodup,fun i hi=>by rw[r5.fz];exact hp.ok i hi,hp.out,hp.odd⟩ r2 k
end Vam
namespace Vam
open Go
variable {Pr:Prt}{φ φ':BMap}{S S':SMap}{s s':St}{tm tm':TT}{H H':CH}{P:Program}{is:FuncId→Bool}{orc:Known}
def neutral(o:Op):Bool:=match o with
 | .load .. =>true
 | .call c=>match c.callee with
  | .builtin .len=>true
  | .builtin .min=>true
  | .builtin .max=>true
  |_=>false
 |_=>false
theorem neutral_heap{E:Ev}{o:Op}{v:V}(hn:neutral o=true)(h:evOp P E tm H o=.ok v H'):H'=H:=by
 unfold neutral at hn
 split at hn
 ·rename_i t x
  obtain⟨b,n,_,h1⟩:=wg (show zAD R.no (zES P t H) (zG tm x)=.ok v H' from h) R.ok_ne
  exact(yZ h1).2
 ·rename_i c
  obtain⟨cal,args,ts⟩:=c
  split at hn
  ·rename_i hc
   simp only at hc
   subst hc
   have h:wZ P .len ts.toList (yY tm args.toList) H=.ok v H':=h
   simp only[wZ]at h
   split at h
   ·rcases za h R.ok_ne with ⟨_,h1⟩|⟨x,l,_,h1⟩
    ·cases h1
    ·rcases za h1 R.ok_ne with ⟨_,h2⟩|⟨_,_,_,h2⟩
     ·exact(yZ h2).2
     ·cases h2
   ·cases h
  ·rename_i hc
   simp only at hc
   subst hc
   have h:zu R.no .no (fun x l=>zt H (zCI minV l x)) (yY tm args.toList)=.ok v H':=h
   rcases za h R.ok_ne with ⟨_,h1⟩|⟨x,l,_,h1⟩
   ·cases h1
   ·exact(yZ h1).2
  ·rename_i hc
   simp only at hc
   subst hc
   have h:zu R.no .no (fun x l=>zt H (zCI maxV l x)) (yY tm args.toList)=.ok v H':=h
   rcases za h R.ok_ne with ⟨_,h1⟩|⟨x,l,_,h1⟩
   ·cases h1
   ·exact(yZ h1).2
  ·cases hn
 ·cases hn
theorem read_plain{E:Ev}{all:List Oper}{o:Oper}(hn:neutral o.op=true)(h:yN P E all (o,.plain) tm H=.ok tm' H'):yN P E all (o,.read true) tm H=.ok tm' H':=by
 have h:cond (zBl all tm o.guard) (wO o.dst tm (evOp P E tm H o.op)) (.ok (setT tm o.dst undef) H)=.ok tm' H':=h
 show cond (zBl all tm o.guard) (wO o.dst tm (zAa P E true tm H o.op)) (.ok (setT tm o.dst undef) H)=.ok tm' H'
 cases hw:zBl all tm o.guard with
 |false=>rw[hw]at h;exact h
 |true=>
  rw[hw]at h
  have hh:wO o.dst tm (evOp P E tm H o.op)=.ok tm' H':=h
  show wO o.dst tm (zAa P E true tm H o.op)=.ok tm' H'
  cases he:evOp P E tm H o.op with
  |no=>rw[he]at hh;cases hh
  |ok v H1=>
   rw[he]at hh
   have e:=neutral_heap hn he
   subst e
   have:zAa P E true tm H1 o.op=.ok v H1:=by
    show R.rec (motive:=fun _=>R) .no (fun v _=>cond (cond true true (zAE v)) (.ok v H1) .no) (evOp P E tm H1 o.op)=_
    rw[he];rfl
   rw[this];exact hh
theorem zJ{all:List Oper}{o:Oper}{l:List (Oper×M0)}{s1:St}{Q:St→Prop}(hn:neutral o.op=true)(h:WpO P is orc all [o] s fun s'=>s'=s1)(k:WpD P is orc all l s1 Q):WpD P is orc all ((o,.read true)::l) s Q:=by
 intro Pr φ S tm H m0 hm hp hs
 cases hm with
 |read _ _ _ m hm=>
  have e:pend ((o,Md.read true)::m)=pend m:=rfl
  rw[e]at hp hs
  obtain⟨s2,tm1,H1,φ1,S1,⟨n1,r1⟩,r2,r3,r4,r5,rfl⟩:=h _ φ S tm H hs
  exact zDi ⟨n1,fun n hn'=>read_plain hn (by rw[←zFo];exact r1 n hn')⟩ r3 r4 (r5.weaken (fun b hb=>.inl hb) fun _ h=>h) (hm.keep fun i hi=>r5.get i (.inr hi)) ⟨hp.nodup,fun i hi=>by rw[r5.fz];exact hp.ok i hi,hp.out,hp.odd⟩ r2 k
theorem d_guard{all:List Oper}{dst:Option Nat}{o:Op}{t:TypeId}{p:String}{a:Array Edge}{m0:M0}{l:List (Oper×M0)}{g:Nat}{want:Bool}{og:Oper}{j:Nat}{c:Bool}{Q:St→Prop}(hd:wj 1024 dst=true)
  (hg:nthO all g=some og) (hj:og.dst=some j) (hc:s.slot j=.bool c)
  (h1:c=want→WpD P is orc all ((⟨dst,o,t,p,a,none⟩,m0)::l) s Q) (h2:c= !want→WpD P is orc all l (s.dst dst .junk) Q):WpD P is orc all ((⟨dst,o,t,p,a,some (g,want)⟩,m0)::l) s Q:=by
 intro Pr φ S tm H m hm hp hs
 obtain⟨md,m',rfl,hm1,hm2,hsub⟩:∃md m',m=(⟨dst,o,t,p,a,some (g,want)⟩,md)::m'∧Mt P H ((⟨dst,o,t,p,a,none⟩,m0)::l) ((⟨dst,o,t,p,a,none⟩,md)::m')∧Mt P H l m'∧
   (pend ((⟨dst,o,t,p,a,some (g,want)⟩,md)::m')=pend ((⟨dst,o,t,p,a,none⟩,md)::m')):=by
  cases hm with
  |plain _ _ m hm=>exact⟨_,m,rfl,.plain _ _ _ hm,hm,rfl⟩
  |quiet _ _ m hm=>exact⟨_,m,rfl,.quiet _ _ _ hm,hm,rfl⟩
  |read _ ld _ m hm=>exact⟨_,m,rfl,.read _ _ _ _ hm,hm,rfl⟩
  |pre _ i x _ m q1 q2 hm=>exact⟨_,m,rfl,.pre _ i x _ _ q1 q2 hm,hm,rfl⟩
  |lay _ i _ m hm=>exact⟨_,m,rfl,.lay _ i _ _ hm,hm,rfl⟩
 have hv:=zK hs (.tmp j)
 rw[show zQ s (.tmp j)=.bool c from hc]at hv
 have hv:tm.get j=.bool c:=zDI hv
 have hw:zBl all tm (some (g,want))=bEq c want:=by
  show opt false (fun b=>bEq b want) (opt none (fun o=>opt none (fun d=>wB none (fun b=>some b) (tm.get d)) (dstOf o)) (nthO all g))=_
  rw[hg]
  show opt false (fun b=>bEq b want) (opt none (fun d=>wB none (fun b=>some b) (tm.get d)) og.dst)=_
  rw[hj]
  show opt false (fun b=>bEq b want) (wB none (fun b=>some b) (tm.get j))=_
  rw[hv];rfl
 by_cases e:c=want
 ·have hb:bEq c want=true:=by subst e;cases c<;>rfl
  rw[hsub]at hp hs
  obtain⟨s2,tm2,H2,φ2,S2,⟨n2,k1⟩,k2⟩:=h1 e Pr φ S tm H _ hm1 hp hs
  refine⟨s2,tm2,H2,φ2,S2,⟨n2,fun n hn=>?_⟩,k2⟩
  have hk:=k1 n hn
  have hk:RO.rec (motive:=fun _=>RO) .no (wv P (zO true P is orc n) all m') (wO dst tm (zAz P (zO true P is orc n) tm H md o))=.ok tm2 H2:=hk
  show RO.rec (motive:=fun _=>RO) .no (wv P (zO true P is orc n) all m') (cond (zBl all tm (some (g,want))) (wO dst tm (zAz P (zO true P is orc n) tm H md o)) (.ok (setT tm dst undef) H))=_
  rw[hw,hb];exact hk
 ·have e':c= !want:=by cases c<;>cases want<;>simp_all
  have hb:bEq c want=false:=by subst e';cases want<;>rfl
  have hin:∀b,b∈pend m'→b∈pend ((⟨dst,o,t,p,a,some (g,want)⟩,md)::m'):=by
   intro b hb
   cases hmd:mdId md with
   |none=>simpa[pend,hmd]using hb
   |some i=>simp only[pend,List.filterMap_cons,hmd];exact List.mem_cons_of_mem _ hb
  have hnd:(pend m').Nodup:=by
   have:=hp.nodup
   cases hmd:mdId md with
   |none=>simpa[pend,hmd]using this
   |some i=>simp only[pend,List.filterMap_cons,hmd]at this;exact(List.nodup_cons.1 this).2
  have hs':SR (Pr.and (pend m')) φ S s tm H:=hs.weaken (fun b hb=>hb.imp id (hin b)) fun b hb=>by
   obtain⟨q1,q2⟩:=hs.pnew b (hb.imp id (hin b))
   rcases hb with hb|hb
   ·exact⟨.inl (Pr.s b hb),q2⟩
   ·exact⟨.inr hb,q2⟩
  refine zDi ⟨0,fun n hn=>?_⟩ φ.le_refl S.le_refl (Kept.refl _ _) hm2 ⟨hnd,fun i hi=>hp.ok i (hin i hi),fun i hi=>hp.out i (hin i hi),fun i hi=>hp.odd i (hin i hi)⟩ (zBI hs' hd (UR.junk undef) (NewOk.none (by unfold yU;rfl))) (h2 e')
  show cond (zBl all tm (some (g,want))) (wO dst tm (zAz P (zO true P is orc n) tm H md o)) (.ok (setT tm dst undef) H)=_
  rw[hw,hb];rfl
end Vam
namespace Vam
open Go
variable {Pr:Prt}{φ φ':BMap}{S S':SMap}{s s':St}{tm tm':TT}{H H':CH}{P:Program}{is:FuncId→Bool}{orc:Known}
theorem Id.top_num{n:Id}(h:n.wf):n.top=n.num:=by
 cases n with
 |over=>exact h.elim
 |mk=>rfl
inductive FlatU:U→Prop where
 |bool (b:Bool):FlatU (.bool b)
 |int (k:IntKind) (n:Int):FlatU (.int k n)
 |str (s:List Nat):FlatU (.str s)
 |agg (cs:List U):(∀c∈cs,FlatU c)→FlatU (.agg cs)
 |tup (cs:List U):(∀c∈cs,FlatU c)→FlatU (.tup cs)
theorem zHj{l:List V}(h:∀v∈l,zAE v=true):zAE (zF l)=true:=by
 induction l with
 |nil=>rfl
 |cons x l ih=>
  show cond (zAE x) (zAE (zF l)) false=true
  rw[h x List.mem_cons_self]
  exact ih fun v hv=>h v (List.mem_cons_of_mem _ hv)
theorem flat_list{l:List V}{us:List U}{ψ:BMap}{R:SMap}(h:LU φ S l us)(k:∀u∈us,∀v,VU φ S v u→zAE v=true∧VU ψ R v u):(∀v∈l,zAE v=true)∧LU ψ R l us:=by
 induction us generalizing l with
 |nil=>cases h;exact⟨fun v hv=>(by cases hv),.nil⟩
 |cons u us ih=>
  cases h with
  |cons x l _ _ h1 h2=>
   obtain⟨a1,a2⟩:=ih h2 fun u hu=>k u (List.mem_cons_of_mem _ hu)
   obtain⟨b1,b2⟩:=k u List.mem_cons_self x h1
   refine⟨fun v hv=>?_,.cons _ _ _ _ b2 a2⟩
   rcases List.mem_cons.1 hv with rfl|hv
   ·exact b1
   ·exact a1 v hv
theorem FlatU.vu{u:U}(h:FlatU u){ψ:BMap}{R:SMap}:∀v,VU φ S v u→zAE v=true∧VU ψ R v u:=by
 induction h with
 |bool b=>intro v hv;cases hv;exact⟨rfl,.bool _⟩
 |int k n=>intro v hv;cases hv;exact⟨rfl,.int _ _⟩
 |str q=>intro v hv;cases hv;exact⟨rfl,.str _⟩
 |agg cs _ ih=>
  intro v hv
  obtain⟨l,rfl,hl⟩:=zHq hv
  obtain⟨h1,h2⟩:=flat_list hl ih
  exact⟨zHj h1,.agg _ _ h2⟩
 |tup cs _ ih=>
  intro v hv
  obtain⟨l,rfl,hl⟩:=tup_of hv
  obtain⟨h1,h2⟩:=flat_list hl ih
  exact⟨zHj h1,.tup _ _ h2⟩
theorem FlatU.own{u:U}(h:FlatU u)(v:V):yU v u=none:=by cases h<;>rfl
section modes
variable {all:List Oper}{l:List (Oper×M0)}{d:Option Nat}{g:FuncId}{xs:Array Operand}{ts:Array TypeId}{t:TypeId}{p:String}{e:Array Edge}{args:List U}{r:U}{Q:St→Prop}
theorem yH(hd:wj 1024 d=true)(hr:RetP P is orc g args r)(hf:FlatU r)(hle:UW (.l (zDG s xs.toList)) (.l args))(k:WpD P is orc all l (s.dst d r) Q):
  WpD P is orc all ((⟨d,.call ⟨.value (.func g),xs,ts⟩,t,p,e,none⟩,.read false)::l) s Q:=by
 intro Pr φ S tm H m0 hm hp hs
 cases hm with
 |read _ _ _ m hm=>
  have e0:pend ((⟨d,.call ⟨.value (.func g),xs,ts⟩,t,p,e,none⟩,Md.read false)::m)=pend m:=rfl
  rw[e0]at hp hs
  have hl:=UW.vu (zAH hs xs.toList) hle
  have hl0:LU φ0 S (xs.toList.map (zG tm)) args:=zDM hl fun v u hu hv=>hr.dat u hu _ _ _ hv
  obtain⟨n0,v,H',S',h1,h2,h3⟩:=hr.run S H _ hs.memOk hs.fzn hl0
  obtain⟨f1,f2⟩:=hf.vu (ψ:=φ) (R:=S) v h3
  refine zDi ⟨n0,fun n hn=>?_⟩ φ.le_refl S.le_refl (Kept.refl _ _) hm hp (zBI hs hd f2 (NewOk.none (hf.own v))) k
  show wO d tm (R.rec (motive:=fun _=>R) .no (fun v _=>cond (cond false true (zAE v)) (.ok v H) .no) ((zO true P is orc n).call g (yY tm xs.toList) H))=_
  rw[zBi,h1 n hn]
  show wO d tm (cond (zAE v) (.ok v H) .no)=_
  rw[f1];rfl
theorem SR.adopt{i:Id}{m:List V}{cs:List U}{ty:TypeId}{Pr':Prt}(hs:SR Pr φ S s tm H)(hi:Pr.n i)(hsub:∀b,Pr' b→Pr b∧b≠i)(hsubn:∀b,Pr'.n b→Pr.n b)(hg:H.get i=some (.cells (zF m) ty 0 []))(hf:H.fz≤i.num)
  (hl:LU φ S m cs) (hn:∀v u,u∈cs→yU v u=none):SR Pr' (φ.with s.st.length i) S (s.newB cs) tm H:=by
 obtain⟨n1,n2⟩:=hs.pnew i hi
 obtain⟨p1,p2,_,p4⟩:=hs.prot i n1
 have p3:∀a,φ a≠some i:=hs.pnew_ne hi
 have hle:=BMap.le_with i hs.none_st
 have key:∀lo v u,At (φ.with s.st.length i) (s.newB cs) tm H lo v u→At φ s tm H lo v u∨yU v u=none:=by
  intro lo v u ha
  cases ha with
  |slot j hj=>exact .inl (.slot j hj)
  |cell a o b cs' l' e' _ _ h1 h2 h3 h4 h5=>
   have h1:(s.st++[SB.box cs])[a]? =some (.box cs'):=h1
   by_cases ea:a<s.st.length
   ·left
    rw[List.getElem?_append_left ea]at h1
    have h2:φ a=some b:=by unfold BMap.with at h2;rw[if_neg (by omega)]at h2;exact h2
    exact .cell a o b cs' l' e' _ _ h1 h2 h3 h4 h5
   ·right
    rw[List.getElem?_append_right (by omega)]at h1
    have hz:a - s.st.length=0:=by
     cases hq:a - s.st.length with
     |zero=>rfl
     |succ n=>rw[hq]at h1;simp at h1
    rw[hz]at h1
    have e:cs'=cs:=by simp at h1;exact h1.symm
    subst e
    exact hn _ _ (List.mem_of_getElem? h5)
 have key':∀lo v u,At φ s tm H lo v u→At (φ.with s.st.length i) (s.newB cs) tm H lo v u:=by
  intro lo v u ha
  cases ha with
  |slot j hj=>exact .slot j hj
  |cell a o b cs' l' e' _ _ h1 h2 h3 h4 h5=>
   have ea:=(hs.dom a b h2).2.2.1
   exact .cell a o b cs' l' e' _ _ (by show(s.st++[SB.box cs])[a]? =_;rw[List.getElem?_append_left ea];exact h1) (hle _ _ h2) h3 h4 h5
 refine⟨hs.nok,hs.fzn,fun j hj=>(hs.fr j hj).mono hle S.le_refl,?_,?_,?_,?_,?_,?_,?_,?_,?_⟩
 ·intro a x ha
  have ha:(s.st++[SB.box cs])[a]? =some x:=ha
  by_cases ea:a<s.st.length
  ·rw[List.getElem?_append_left ea]at ha
   exact(hs.bx a x ha).move hle S.le_refl fun _ _=>rfl
  ·rw[List.getElem?_append_right (by omega)]at ha
   have hz:a - s.st.length=0:=by
    cases hq:a - s.st.length with
    |zero=>rfl
    |succ n=>rw[hq]at ha;simp at ha
   rw[hz]at ha
   have e1:x=.box cs:=by simp at ha;exact ha.symm
   have e2:a=s.st.length:=by omega
   subst e1;subst e2
   exact⟨i,m,ty,BMap.with_self _ _ _,hg,hl.mono hle S.le_refl⟩
 ·intro a b ha
  unfold BMap.with at ha
  split at ha
  ·rename_i ea;cases ha
   exact⟨p1,p2,by rw[ea];show _<(s.st++[SB.box cs]).length;simp,fun _=>hf⟩
  ·obtain⟨h1,h2,h3,h4⟩:=hs.dom a b ha
   exact⟨h1,h2,by show _<(s.st++[SB.box cs]).length;simp;omega,fun q=>h4 (q.app h3)⟩
 ·intro a a' b ha ha'
  unfold BMap.with at ha ha'
  split at ha<;>split at ha'
  ·omega
  ·cases ha;exact absurd ha' (p3 a')
  ·cases ha';exact absurd ha (p3 a)
  ·exact hs.inj a a' b ha ha'
 ·intro b m' hb
  obtain⟨h1,h2,h3,h4⟩:=hs.mem b m' hb
  refine⟨h1,h2,?_,h4⟩
  intro a ha
  unfold BMap.with at ha
  split at ha
  ·cases ha;rw[n2]at hb;cases hb
  ·obtain⟨cs0,q⟩:=h3 a ha;exact⟨cs0,by show(s.st++[SB.box cs])[a]? =_;rw[List.getElem?_append_left (List.getElem?_eq_some_iff.1 q).1];exact q⟩
 ·intro lo v u b ha hb
  rcases key _ _ _ ha with ha|hq
  ·exact hs.own lo v u b ha hb
  ·rw[hq]at hb;cases hb
 ·intro lo lo' v u v' u' b ha ha' hb hb'
  rcases key _ _ _ ha with ha|hq
  ·rcases key _ _ _ ha' with ha'|hq
   ·exact hs.excl lo lo' v u v' u' b ha ha' hb hb'
   ·rw[hq]at hb';cases hb'
  ·rw[hq]at hb;cases hb
 ·intro p hp
  obtain⟨h1,v,u,h2,h3⟩:=hs.ali p hp
  exact⟨h1,v,u,key' _ _ _ h2,h3⟩
 ·intro b hb
  obtain⟨hb1,hb2⟩:=hsub b hb
  obtain⟨h1,h2,h3,h4⟩:=hs.prot b hb1
  refine⟨h1,h2,?_,fun lo v u ha=>?_⟩
  ·intro a ha
   unfold BMap.with at ha
   split at ha
   ·cases ha;exact absurd rfl hb2
   ·obtain⟨cs0,q⟩:=h3 a ha;exact⟨cs0,by show(s.st++[SB.box cs])[a]? =_;rw[List.getElem?_append_left (List.getElem?_eq_some_iff.1 q).1];exact q⟩
  ·rcases key _ _ _ ha with ha|hq
   ·exact h4 lo v u ha
   ·rw[hq];simp
 ·intro b hb
  exact⟨Pr'.s b hb,(hs.pnew b (hsubn b hb)).2⟩
theorem d_pre{t':TypeId}{z:V}{d:Nat}(hd:Nat.blt d 1024=true)(hz:yf P t'=some z)(k:WpD P is orc all l ((s.newB (zBu z)).put d (.box s.st.length 0)) Q):
  WpD P is orc all ((⟨some d,.alloc t',t,p,e,none⟩,.pre)::l) s Q:=by
 intro Pr φ S tm H m0 hm hp hs
 obtain⟨zm,rfl⟩:=zEF hz
 cases hm with
 |pre _ i x _ m q1 q2 hm=>
  have e0:pend ((⟨some d,.alloc t',t,p,e,none⟩,Md.pre i)::m)=i::pend m:=rfl
  rw[e0]at hp hs
  have q1:opt none (fun z=>some (Blk.cells z t' 0 [])) (yf P t')=some x:=q1
  rw[hz]at q1
  cases q1
  obtain⟨nd1,nd2⟩:=List.nodup_cons.1 hp.nodup
  have hprI:=hp.out i List.mem_cons_self
  have hsA:SR (Pr.and (pend m)) (φ.with s.st.length i) S (s.newB (zBu (zF zm))) tm H:=
   hs.adopt (i:=i) (.inr List.mem_cons_self) (fun b hb=>⟨hb.imp id (List.mem_cons_of_mem _),by rintro rfl;rcases hb with hb|hb;exact hprI hb;exact nd1 hb⟩) (fun b hb=>hb.imp id (List.mem_cons_of_mem _)) q2 (hp.ok i List.mem_cons_self)
    (zCs zm) uList_own
  refine zDi ⟨0,fun n hn=>?_⟩ (BMap.le_with i hs.none_st) S.le_refl (Kept.refl _ _) hm ⟨nd2,fun j hj=>hp.ok j (List.mem_cons_of_mem _ hj),fun j hj=>hp.out j (List.mem_cons_of_mem _ hj),fun j hj=>hp.odd j (List.mem_cons_of_mem _ hj)⟩
   (zBI hsA (d:=some d) hd (UR.box s.st.length i 0 (BMap.with_self _ _ _)) (NewOk.none rfl)) k
  show wO (some d) tm (preOp P i H (.alloc t'))=_
  rfl
theorem d_lay{ps:Array (Nat×Operand)}{n c:Nat}{t' el:TypeId}{z:V}{es:List U}{d:Nat}(hd:Nat.blt d 1024=true)(ht:tyOf P t'=.slice el)(hz:yf P el=some z)(hc:P.cellsOf el=c)(h0:Nat.blt 0 c=true)(hzc:Nat.beq (lenV z 0) c=true)(hq:seqB 0 ps.toList=true)
  (hn:Nat.beq ps.toList.length n=true) (hbig:Nat.ble (n*c) 4096=true)
  (hj:(ps.toList.all fun p=>zDu (zQ s p.2))=true) (hsz:(ps.toList.all fun p=>Nat.beq (zx (zQ s p.2)).length c)=true)
  (hes:(ps.toList.map fun p=>zQ s p.2).map dg=es) (k:WpD P is orc all l (s.put d (.lst .full c es)) Q):WpD P is orc all ((⟨some d,.buildSlice t' n ps,t,p,e,none⟩,.lay)::l) s Q:=by
 subst hes
 intro Pr φ S tm H m0 hm hp hs
 obtain⟨zm,rfl⟩:=zEF hz
 have hn:=zl hn
 have hzl:zm.length=c:=by have:=zl hzc;rwa [zBV,Nat.add_zero]at this
 cases hm with
 |lay _ i _ m hm=>
  have e0:pend ((⟨some d,.buildSlice t' n ps,t,p,e,none⟩,Md.lay i)::m)=i::pend m:=rfl
  rw[e0]at hp hs
  obtain⟨nd1,nd2⟩:=List.nodup_cons.1 hp.nodup
  have hprI:=hp.out i List.mem_cons_self
  obtain⟨n1,n2⟩:=hs.pnew i (.inr List.mem_cons_self)
  obtain⟨p1,p2,_,p4⟩:=hs.prot i n1
  have p3:∀a,φ a≠some i:=hs.pnew_ne (.inr List.mem_cons_self)
  obtain⟨r,r1,r2⟩:=repL_of zm n
  obtain⟨mm,g1,g2⟩:=seq_run hs ps.toList (i:=0) (dn:=[]) (rest:=r) (ds:=[]) .nil (by simp) (by rw[r2,hzl,hn]) hj hsz hq
  simp only[List.nil_append]at g1 g2
  have hmlen:mm.length=n*c:=by
   rw[g2.len]
   have:∀(qs:List (Nat×Operand)),(qs.all fun p=>Nat.beq (zx (zQ s p.2)).length c)=true→(yW (qs.map fun p=>zQ s p.2)).length=qs.length*c:=by
    intro qs
    induction qs with
    |nil=>intro _;simp[yW]
    |cons q qs ih=>
     intro h
     simp only[List.all_cons,Bool.and_eq_true]at h
     have:=ih h.2
     have h1:=zl h.1
     simp only[yW,List.map_cons,List.flatMap_cons,List.length_append,List.length_cons,Nat.succ_mul]at this ⊢
     omega
   rw[this _ hsz,hn]
  obtain⟨K,a1,a2,a3,a4⟩:=zAp (H:=H.named i) R.no (by rw[yl];exact p1) (.cells (zF mm) el 0 []) (fun q H=>.ok (.slice q 0 n (capX n) c) H)
  rw[yl]at a1 a2 a4
  have hK:∀j:Id,j.wf→(K.named H.n).get j=if j=i then some (.cells (zF mm) el 0 [])else H.get j:=by
   intro j hj
   rw[zCC,a4 j hj,zCC]
  have hle:=SMap.le_with (S:=S) mm n2
  have hfz:(K.named H.n).fz=H.fz:=by rw[zDU,a3,zDU]
  have hne:∀b,b.wf→b≠i→(K.named H.n).get b=H.get b:=fun b hb hbi=>by rw[hK b hb,if_neg hbi]
  have key:∀lo v u,At φ s tm (K.named H.n) lo v u→At φ s tm H lo v u:=by
   intro lo v u ha
   cases ha with
   |slot j hj=>exact .slot j hj
   |cell a o b cs l e _ _ k1 k2 k3 k4 k5=>exact .cell a o b cs l e _ _ k1 k2 (by rw[←hne b (hs.dom a b k2).1 (by rintro rfl;exact p3 a k2)];exact k3) k4 k5
  have key':∀lo v u,At φ s tm H lo v u→At φ s tm (K.named H.n) lo v u:=by
   intro lo v u ha
   cases ha with
   |slot j hj=>exact .slot j hj
   |cell a o b cs l e _ _ k1 k2 k3 k4 k5=>exact .cell a o b cs l e _ _ k1 k2 (by rw[hne b (hs.dom a b k2).1 (by rintro rfl;exact p3 a k2)];exact k3) k4 k5
  have hs1:SR (Pr.and (pend m)) φ (S.with i mm) s tm (K.named H.n):=by
   refine⟨by rw[yl];exact hs.nok,by rw[yl,hfz];exact hs.fzn,fun j hj=>(hs.fr j hj).mono φ.le_refl hle,?_,?_,hs.inj,?_,?_,?_,?_,?_,?_⟩
   ·intro a x ha
    exact(hs.bx a x ha).move φ.le_refl hle fun b q1=>hne b (hs.dom a b q1).1 (by rintro rfl;exact p3 a q1)
   ·intro a b ha
    obtain⟨q1,q2,q3,q4⟩:=hs.dom a b ha
    exact⟨q1,by rw[yl];exact q2,q3,by rw[hfz];exact q4⟩
   ·intro b x hb
    unfold SMap.with at hb
    split at hb
    ·rename_i ee;subst ee;cases hb
     exact⟨p1,by rw[yl];exact p2,fun a ha=>absurd ha (p3 a),.inl ⟨el,0,[],by rw[hK _ p1,if_pos rfl],by decide⟩⟩
    ·obtain⟨q1,q2,q3,q4⟩:=hs.mem b x hb
     exact⟨q1,by rw[yl];exact q2,q3,by rw[hne b q1 (by assumption)];exact q4⟩
   ·intro lo v u b ha hb
    obtain⟨q1,m',e',sh',q2⟩:=hs.own lo v u b (key _ _ _ ha) hb
    exact⟨by rw[hfz];exact q1,m',e',sh',by rw[hne b (zDe hs (key _ _ _ ha) hb).1 (by rintro rfl;exact p4 _ _ _ (key _ _ _ ha) hb)];exact q2⟩
   ·intro lo lo' v u v' u' b ha ha' hb hb'
    exact hs.excl lo lo' v u v' u' b (key _ _ _ ha) (key _ _ _ ha') hb hb'
   ·intro q hq
    obtain⟨h1,v,u,h2,h3⟩:=hs.ali q hq
    exact⟨h1,v,u,key' _ _ _ h2,h3⟩
   ·intro b hb
    obtain⟨q1,q2,q3,q4⟩:=hs.prot b (hb.imp id (List.mem_cons_of_mem _))
    exact⟨q1,by rw[yl];exact q2,q3,fun lo v u ha=>q4 lo v u (key _ _ _ ha)⟩
   ·intro b hb
    refine⟨(Pr.and (pend m)).s b hb,?_⟩
    unfold SMap.with
    rw[if_neg]
    ·exact(hs.pnew b (hb.imp id (List.mem_cons_of_mem _))).2
    ·rintro rfl
     rcases hb with hb|hb
     ·exact hprI (Pr.s _ hb)
     ·exact nd1 hb
  have hv:VU φ (S.with i mm) (.slice i 0 n (capX n) c) (.lst .full c ((ps.toList.map fun p=>zQ s p.2).map dg)):=by
   refine .slice i 0 n (capX n) c mm mm [] .full _ (SMap.with_self _ _ _) (by simp) ((flat_dg _ g2).mono φ.le_refl hle) ?_ (by simp[hn]) ⟨by simp,?_,?_,?_⟩ (yu h0)
   ·intro w hw
    obtain⟨w',hw',rfl⟩:=List.mem_map.1 hw
    obtain⟨q,hq',rfl⟩:=List.mem_map.1 hw'
    rw[cells_dg]
    exact zl (List.all_eq_true.1 hsz q hq')
   ·show n≤(2*n+1) / 2;omega
   ·show Nat.beq ((2*n+1) % 2) 1=true
    rw[show(2*n+1) % 2=1 by omega];rfl
   ·show(2*n+1) / 2=n;omega
  refine zDi (H1:=K.named H.n) ⟨0,fun q _=>?_⟩ φ.le_refl hle ⟨hfz,fun b hb=>by rw[yl];exact hb,fun b hb=>hne b (hs.prot b (.inl hb)).1 (by rintro rfl;exact hprI hb),fun b ho hw _=>.of_eq (hne b hw (by rintro rfl;exact hp.odd _ List.mem_cons_self ho))⟩
   (hm.keep fun j hj=>hne j (hs.prot j (.inr (List.mem_cons_of_mem _ hj))).1 (by rintro rfl;exact nd1 hj)) ⟨nd2,fun j hj=>by rw[hfz];exact hp.ok j (List.mem_cons_of_mem _ hj),fun j hj=>hp.out j (List.mem_cons_of_mem _ hj),fun j hj=>hp.odd j (List.mem_cons_of_mem _ hj)⟩
   (zBI hs1 (d:=some d) hd hv (NewOk.none rfl)) k
  show wO (some d) tm (zEW P (zO true P is orc q) i tm H (.buildSlice t' n ps))=_
  have hrun:evOp P (zO true P is orc q) tm (H.named i) (.buildSlice t' n ps)=.ok (.slice i 0 n (capX n) c) K:=by
   show ze P t' n (zW tm ps.toList) (H.named i)=_
   unfold ze
   rw[ht]
   simp only[hz,hc]
   rw[hzc,show Nat.ble (n*c) 4096=true from hbig,r1,g1]
   exact a1
  show wO (some d) tm (R.rec (motive:=fun _=>R) .no (fun v K=>.ok v (K.named H.n)) (evOp P (zO true P is orc q) tm (H.named i) (.buildSlice t' n ps)))=_
  rw[hrun];rfl
end modes
noncomputable def preOk(P:Program)(l:List (Oper×M0)):Bool:=l.all fun p=>match p.2 with
 | .pre=>match p.1.op with
  | .alloc t=>(yf P t).isSome
  |_=>false
 |_=>true
theorem resv_run:∀(l:List (Oper×M0)) {H:CH},H.n.wf→H.fz≤H.n.num→preOk P l=true→∃m H1,resv P l H=.ok m H1∧Mt P H1 l m∧(∀S,Grow2 S H S H1)∧(pend m).Nodup∧∀i∈pend m,i.wf∧ ¬ Before i H.n∧Before i H1.n∧H.fz≤i.num:=by
 intro l
 induction l with
 |nil=>intro H hn hf _;exact⟨[],H,rfl,.nil,fun S=>Grow2.refl hn,List.nodup_nil,fun i hi=>(by cases hi)⟩
 |cons p l ih=>
  intro H hn hf hp
  obtain⟨o,m0⟩:=p
  simp only[preOk,List.all_cons,Bool.and_eq_true]at hp
  obtain⟨hp1,hp2⟩:=hp
  cases m0 with
  |plain=>
   obtain⟨m,H1,r1,r2,r3,r4,r5⟩:=ih hn hf hp2
   exact⟨(o,.plain)::m,H1,by show wX o .plain (resv P l H)=_;rw[r1];rfl,.plain _ _ _ r2,r3,r4,r5⟩
  |quiet=>
   obtain⟨m,H1,r1,r2,r3,r4,r5⟩:=ih hn hf hp2
   exact⟨(o,.quiet)::m,H1,by show wX o .quiet (resv P l H)=_;rw[r1];rfl,.quiet _ _ _ r2,r3,r4,r5⟩
  |read ld=>
   obtain⟨m,H1,r1,r2,r3,r4,r5⟩:=ih hn hf hp2
   exact⟨(o,.read ld)::m,H1,by show wX o (.read ld) (resv P l H)=_;rw[r1];rfl,.read _ _ _ _ r2,r3,r4,r5⟩
  |pre=>
   simp only at hp1
   split at hp1
   ·rename_i t ht
    cases hz:yf P t with
    |none=>rw[hz]at hp1;cases hp1
    |some z=>
     have hb:zEP P o.op=some (.cells z t 0 []):=by
      rw[ht]
      show opt none (fun z=>some (Blk.cells z t 0 [])) (yf P t)=_
      rw[hz];rfl
     obtain⟨K,a1,a2,a3,a4⟩:=zAp RS.no hn (.cells z t 0 []) (fun n H=>wX o (.pre n) (resv P l H))
     have hKn:K.n.wf:=by rw[a2];exact(Id.next_ok hn).1
     have hKf:K.fz≤K.n.num:=by rw[a2,a3,(Id.next_ok hn).2];omega
     obtain⟨m,H1,r1,r2,r3,r4,r5⟩:=ih hKn hKf hp2
     have hself:Before H.n K.n:=by rw[a2];exact Before.self hn
     have hgK:∀S,Grow2 S H S K:=fun S=>⟨hKn,a3,by rw[a2,(Id.next_ok hn).2];omega,fun b hb=>by rw[a2];exact Before.next hn hb,fun b hw hb=>by rw[a4 b hw,if_neg];rintro rfl;exact zj hn hb,S.le_refl,fun b l q1 q2=>by rw[q1]at q2;cases q2⟩
     refine⟨(o,.pre H.n)::m,H1,?_,.pre _ _ _ _ _ hb ?_ r2,fun S=>(hgK S).trans (r3 S),?_,?_⟩
     ·show opt .no (fun x=>alloc .no H x (fun n H=>wX o (.pre n) (resv P l H))) (zEP P o.op)=_
      rw[hb]
      show alloc .no H (.cells z t 0 []) (fun n H=>wX o (.pre n) (resv P l H))=_
      rw[a1,r1];rfl
     ·rw[(r3 (fun _=>none)).get H.n hn hself,a4 _ hn,if_pos rfl]
     ·exact List.nodup_cons.2 ⟨fun h=>(r5 _ h).2.1 hself,r4⟩
     ·intro i hi
      rcases List.mem_cons.1 (show i∈H.n::pend m from hi)with rfl|hi
      ·exact⟨hn,zj hn,(r3 (fun _=>none)).bef _ hself,hf⟩
      ·obtain⟨w1,w2,w3,w4⟩:=r5 i hi
       exact⟨w1,fun h=>w2 ((hgK (fun _=>none)).bef _ h),w3,by rw[←a3];exact w4⟩
   ·cases hp1
  |lay=>
   cases H with
   |mk n f t=>
    cases n with
    |over=>exact hn.elim
    |mk kk a b c d e=>
     have hKn:(CH.mk (Id.next (.mk kk a b c d e)) f t).n.wf:=(Id.next_ok hn).1
     have hKf:(CH.mk (Id.next (.mk kk a b c d e)) f t).fz≤(CH.mk (Id.next (.mk kk a b c d e)) f t).n.num:=by
      have:=(Id.next_ok hn).2
      show f≤(Id.next (.mk kk a b c d e)).num
      have hf:f≤(Id.mk kk a b c d e).num:=hf
      have this:(Id.next (.mk kk a b c d e)).num=(Id.mk kk a b c d e).num+1:=this
      omega
     obtain⟨m,H1,r1,r2,r3,r4,r5⟩:=ih hKn hKf hp2
     have hself:Before (Id.mk kk a b c d e) (CH.mk (Id.next (.mk kk a b c d e)) f t).n:=Before.self hn
     have hgK:∀S,Grow2 S (CH.mk (.mk kk a b c d e) f t) S (CH.mk (Id.next (.mk kk a b c d e)) f t):=fun S=>⟨hKn,rfl,by
      show(Id.mk kk a b c d e).num≤(Id.next (.mk kk a b c d e)).num
      have this:(Id.next (.mk kk a b c d e)).num=(Id.mk kk a b c d e).num+1:=(Id.next_ok hn).2
      omega,fun b hb=>Before.next hn hb,fun b hw hb=>by cases b<;>rfl,S.le_refl,fun b l q1 q2=>by rw[q1]at q2;cases q2⟩
     refine⟨(o,.lay (.mk kk a b c d e))::m,H1,?_,.lay _ _ _ _ r2,fun S=>(hgK S).trans (r3 S),?_,?_⟩
     ·show wX o (.lay (.mk kk a b c d e)) (resv P l (.mk (Id.next (.mk kk a b c d e)) f t))=_
      rw[r1];rfl
     ·exact List.nodup_cons.2 ⟨fun h=>(r5 _ h).2.1 hself,r4⟩
     ·intro i hi
      rcases List.mem_cons.1 (show i∈Id.mk kk a b c d e::pend m from hi)with rfl|hi
      ·exact⟨hn,zj (H:=CH.mk (.mk kk a b c d e) f t) hn,(r3 (fun _=>none)).bef _ hself,hf⟩
      ·obtain⟨w1,w2,w3,w4⟩:=r5 i hi
       exact⟨w1,fun h=>w2 ((hgK (fun _=>none)).bef _ h),w3,w4⟩
def zipM(ops:List Oper)(ms:List M0):List (Oper×M0):=match ops,ms with
 |o::ops,m::ms=>(o,m)::zipM ops ms
 |_,_=>[]
theorem wM{i:Nat}{ops:Array Oper}(ms:List M0){Q:Ex→St→Prop}(hm:drawn P ops.toList=zipM ops.toList ms)(hd:zCZ ops.toList=[])(hp:preOk P (zipM ops.toList ms)=true)
  (h:WpD P is orc ops.toList (zipM ops.toList ms) s fun s'=>Q .normal {s' with al:=[]}):Wp P is orc (.region i ops true) s Q:=by
 intro Pr φ S tm H ds ro fn hs ho hr
 obtain⟨m,H1,r1,r2,r3,r4,r5⟩:=resv_run (P:=P) _ hs.nok hs.fzn hp
 obtain⟨g1,g2⟩:=hs.grow (r3 S)
 have hfresh:∀i∈pend m,S i=none:=by
  intro i hi
  cases hS:S i with
  |none=>rfl
  |some l=>exact absurd (hs.mem i l hS).2.1 (r5 i hi).2.1
 have hout:∀i∈pend m, ¬ Pr i:=fun i hi hpi=>(r5 i hi).2.1 (hs.prot i hpi).2.1
 have hs1:SR (Pr.and (pend m)) φ S s tm H1:=by
  refine⟨g1.nok,g1.fzn,g1.fr,g1.bx,g1.dom,g1.inj,g1.mem,g1.own,g1.excl,g1.ali,?_,?_⟩
  ·intro b hb
   rcases hb with hb|hb
   ·exact g1.prot b hb
   ·obtain⟨w1,w2,w3,w4⟩:=r5 b hb
    refine⟨w1,w3,fun a ha=>absurd (hs.dom a b ha).2.1 w2,fun lo v u ha he=>?_⟩
    obtain⟨x,hx⟩:=own_S (ha.vu g1) he
    rw[hfresh b hb]at hx;cases hx
  ·intro b hb
   refine⟨(Pr.and (pend m)).s b hb,?_⟩
   rcases hb with hb|hb
   ·exact(hs.pnew b hb).2
   ·exact hfresh b hb
 obtain⟨s2,tm2,H2,φ2,S2,⟨n2,k1⟩,k2,k3,k4,k5,k6⟩:=h Pr φ S tm H1 m r2 ⟨r4,fun i hi=>by rw[g2.fz];exact(r5 i hi).2.2.2,hout,fun i hi hoi=>(r5 i hi).2.1 (ho i hoi).2⟩ hs1
 refine⟨.normal,[],{s2 with al:=[]},tm2,H2,φ2,S2,⟨.nil _ _ _,n2+1,fun n hn=>?_⟩,k2.noAl,k3,k4,g2.trans k5,k6⟩
 cases n with
 |zero=>omega
 |succ n=>
  show zDH ds (RS.rec (motive:=fun _=>RO) .no (fun l H=>zHp (zCZ ops.toList) (wv P (zO true P is orc n) ops.toList l tm H)) (resv P (drawn P ops.toList) H))=_
  rw[hm,r1]
  show zDH ds (zHp (zCZ ops.toList) (wv P (zO true P is orc n) ops.toList m tm H1))=_
  rw[hd,k1 n (by omega)];rfl
end Vam
