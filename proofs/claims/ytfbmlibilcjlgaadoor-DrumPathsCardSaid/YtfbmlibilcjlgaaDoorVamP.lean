import Derived.Test.YtfbmlibilcjlgaaDoorVamO
set_option linter.unusedVariables false
set_option linter.unusedSimpArgs false
namespace Vam
open Go
variable {Pr:Prt}{φ φ' ψ:BMap}{S S' R:SMap}{s s':St}{tm tm':TT}{H H':CH}{P:Program}{is:FuncId→Bool}{orc:Known}
def ownF(s:St)(tm:TT)(b:Id):Prop:=∃i,i<1024∧yQ (tm.get i) (s.fr i)=some b
def Prt.sub(Pr:Prt)(s:St)(tm:TT)(H:CH)(ls:List Id):Prt:=⟨fun b=>Pr b∨ownF s tm b,Pr.n,fun b=>(Pr.o b∧b.wf∧Before b H.n)∨b∈ls,fun b h=>.inl (Pr.s b h)⟩
def initF(args:List U)(st:List SB):St:=⟨fun j=>(args[j]?).getD .junk,[],st⟩
theorem SR.ownF_S(hs:SR Pr φ S s tm H){b:Id}(hb:ownF s tm b):∃l,S b=some l:=by
 obtain⟨i,hi,h⟩:=hb
 exact own_S (hs.fr i hi) h
theorem SR.other(hs:SR Pr φ S s tm H){fr:Nat→U}{tm1:TT}(hf:∀i,i<1024→VU φ S (tm1.get i) (fr i))(ho:∀i,i<1024→NoOwn (fr i))(ls:List Id):SR (Pr.sub s tm H ls) φ S ⟨fr,[],s.st⟩ tm1 H:=by
 have key:∀lo v u,At φ ⟨fr,[],s.st⟩ tm1 H lo v u→(∃a o,lo=.cell a o∧At φ s tm H lo v u)∨yQ v u=none:=by
  intro lo v u ha
  cases ha with
  |slot i hi=>exact .inr (ho i hi _)
  |cell a o b cs l e _ _ h1 h2 h3 h4 h5=>exact .inl ⟨a,o,rfl,.cell a o b cs l e _ _ h1 h2 h3 h4 h5⟩
 refine⟨hs.nok,hs.fzn,hf,hs.bx,hs.dom,hs.inj,hs.mem,?_,?_,fun p hp=>(by cases hp),?_,?_⟩
 ·intro lo v u b ha hb
  rcases key _ _ _ ha with ⟨_,_,_,ha⟩|hq
  ·exact hs.own lo v u b ha hb
  ·rw[hq]at hb;cases hb
 ·intro lo lo' v u v' u' b ha ha' hb hb'
  rcases key _ _ _ ha with ⟨_,_,_,ha⟩|hq
  ·rcases key _ _ _ ha' with ⟨_,_,_,ha'⟩|hq
   ·exact hs.excl lo lo' v u v' u' b ha ha' hb hb'
   ·rw[hq]at hb';cases hb'
  ·rw[hq]at hb;cases hb
 ·intro b hb
  rcases hb with hb|hb
  ·obtain⟨q1,q2,q3,q4⟩:=hs.prot b hb
   refine⟨q1,q2,q3,fun lo v u ha=>?_⟩
   rcases key _ _ _ ha with ⟨_,_,_,ha⟩|hq
   ·exact q4 lo v u ha
   ·rw[hq];simp
  ·obtain⟨l,hl⟩:=hs.ownF_S hb
   obtain⟨w1,w2,w3,w4⟩:=hs.mem b l hl
   obtain⟨i,hi,hi2⟩:=hb
   refine⟨w1,w2,w3,fun lo v u ha=>?_⟩
   rcases key _ _ _ ha with ⟨a,o,rfl,ha⟩|hq
   ·intro he
    have:=hs.excl _ _ _ _ _ _ b (.slot i hi) ha hi2 he
    cases this
   ·rw[hq];simp
 ·intro b hb
  obtain⟨q1,q2⟩:=hs.pnew b hb
  exact⟨.inl q1,q2⟩
theorem SR.leave(hs:SR Pr φ S s tm H){ls:List Id}{φ1:BMap}{S1:SMap}{s1:St}{tm1:TT}{H1:CH}(h1:SR (Pr.sub s tm H ls) φ1 S1 s1 tm1 H1)(hφ:φ.le φ1)(hS:S.le S1)(hk:Kept (Pr.sub s tm H ls) H H1):
  SR Pr φ1 S1 ⟨s.fr,[],s1.st⟩ tm H1:=by
 have key:∀lo v u,At φ1 ⟨s.fr,[],s1.st⟩ tm H1 lo v u→(∃i,lo=.slot i∧i<1024∧At φ s tm H lo v u)∨(∃a o,lo=.cell a o∧At φ1 s1 tm1 H1 lo v u):=by
  intro lo v u ha
  cases ha with
  |slot i hi=>exact .inl ⟨i,rfl,hi,.slot i hi⟩
  |cell a o b cs l e _ _ h1 h2 h3 h4 h5=>exact .inr ⟨a,o,rfl,.cell a o b cs l e _ _ h1 h2 h3 h4 h5⟩
 have hown:∀i v u b,At φ s tm H (.slot i) v u→yQ v u=some b→ownF s tm b:=by
  intro i v u b ha hb
  cases ha with
  |slot _ hi=>exact⟨i,hi,hb⟩
 refine⟨h1.nok,h1.fzn,fun i hi=>(hs.fr i hi).mono hφ hS,h1.bx,h1.dom,h1.inj,h1.mem,?_,?_,fun p hp=>(by cases hp),?_,?_⟩
 ·intro lo v u b ha hb
  rcases key _ _ _ ha with ⟨i,rfl,hi,ha⟩|⟨_,_,_,ha⟩
  ·obtain⟨q1,m,e,sh,q2⟩:=hs.own _ v u b ha hb
   exact⟨by rw[hk.fz];exact q1,m,e,sh,by rw[hk.get b (.inr (hown _ _ _ _ ha hb))];exact q2⟩
  ·exact h1.own lo v u b ha hb
 ·intro lo lo' v u v' u' b ha ha' hb hb'
  rcases key _ _ _ ha with ⟨i,rfl,hi,ha⟩|⟨_,_,_,ha⟩
  ·rcases key _ _ _ ha' with ⟨i',rfl,hi',ha'⟩|⟨_,_,_,ha'⟩
   ·exact hs.excl _ _ v u v' u' b ha ha' hb hb'
   ·exact absurd hb' ((h1.prot b (.inr (hown _ _ _ _ ha hb))).2.2.2 _ _ _ ha')
  ·rcases key _ _ _ ha' with ⟨i',rfl,hi',ha'⟩|⟨_,_,_,ha'⟩
   ·exact absurd hb ((h1.prot b (.inr (hown _ _ _ _ ha' hb'))).2.2.2 _ _ _ ha)
   ·exact h1.excl _ _ v u v' u' b ha ha' hb hb'
 ·intro b hb
  obtain⟨q1,q2,q3,q4⟩:=h1.prot b (.inl hb)
  refine⟨q1,q2,q3,fun lo v u ha=>?_⟩
  rcases key _ _ _ ha with ⟨i,rfl,hi,ha⟩|⟨_,_,_,ha⟩
  ·exact(hs.prot b hb).2.2.2 _ v u ha
  ·exact q4 _ v u ha
 ·intro b hb
  exact⟨Pr.s b hb,(h1.pnew b hb).2⟩
theorem Kept.sub{ls:List Id}(hk:Kept (Pr.sub s tm H ls) H H'):Kept Pr H H':=⟨hk.fz,hk.bef,fun b hb=>hk.get b (.inl hb),fun b ho hw hb=>hk.odd b (.inl ⟨ho,hw,hb⟩) hw hb⟩
def WpC(P:Program)(is:FuncId→Bool)(orc:Known)(g:FuncId)(args:List U)(st:List SB)(Q:U→List SB→Prop):Prop:=∀Pr φ S s tm H vs,SR Pr φ S s tm H→s.st=st→LU φ S vs args→
 ∃φ' S' H' st' v u,(∃n0,∀n,n0≤n→(zM true P is orc n).call g (ofList vs) H=.ok v H')∧SR Pr φ' S' ⟨s.fr,[],st'⟩ tm H'∧φ.le φ'∧S.le S'∧Kept Pr H H'∧VU φ' S' v u∧NoOwn u∧Q u st'
theorem dg_noOwn(u:U):NoOwn (dg u):=fun v=>yV v u
theorem init_noOwn(args:List U)(i:Nat):NoOwn (((args.map dg)[i]?).getD .junk):=by
 cases h:(args.map dg)[i]? with
 |none=>exact fun _=>rfl
 |some u=>
  obtain⟨w,_,rfl⟩:=List.mem_map.1 (List.mem_of_getElem? h)
  exact dg_noOwn w
theorem init_rel{vs:List V}{args:List U}(hl:LU φ S vs args)(hn:vs.length≤1024)(j:Nat)(hj:j<1024):VU φ S ((TT.ofV (ofList vs) 0 .leaf).get j) ((args[j]?).getD .junk):=by
 rw[ofV_get vs 0 .leaf (by omega) j hj,if_pos (Nat.zero_le _),TT.get_leaf]
 show VU φ S ((vs[j]?).getD undef) _
 cases h:args[j]? with
 |none=>exact .junk _
 |some u=>obtain⟨v,h1,h2⟩:=hl.get h;rw[h1];exact h2
theorem call_core{g:FuncId}{nt:Nat}{body:Code}{rs:List ResultVar}{args:List U}{M:St→List U→Prop}(hb:bodyOf P g=some (nt,body,rs))(hp:pureFn P g=false)(hn:Nat.ble args.length nt=true)(hnt:Nat.ble nt 1024=true)
  (hw:Wp P is orc body (initF (args.map dg) s.st) fun e s=>(e=.normal∨e=.ret)∧∃us,ResL P s rs us∧M s us) (hs:SR Pr φ S s tm H) {vs:List V} (hl:LU φ S vs args):
  ∃φ1 S1 H2 s1 tm1 v us,(∃n0,∀n,n0≤n→(zM true P is orc n).call g (ofList vs) H=.ok v H2)∧SR Pr φ1 S1 ⟨s.fr,[],s1.st⟩ tm H2∧φ.le φ1∧S.le S1∧Kept Pr H H2∧VU φ1 S1 v (tupU us)∧M s1 us∧SR (Pr.sub s tm H []) φ1 S1 s1 tm1 H2:=by
 have hn:=Nat.le_of_ble_eq_true hn
 have hnt:=Nat.le_of_ble_eq_true hnt
 have hlen:=hl.len
 have hs1:=hs.other (fun j hj=>init_rel hl.dgs (by omega) j hj) (fun i _=>init_noOwn args i) []
 obtain⟨e,new,s1,tm1,H1,φ1,S1,⟨r0,n0,b1⟩,b2,b3,b4,b5,b6,us,b7,b8⟩:=hw _ _ _ _ _ [] none g hs1 (fun b hb=>by rcases hb with hb|hb;exact hb.2;cases hb) (RoOk.none _ _)
 obtain⟨H2,v,c1,c2,c3,c4,c5,c6⟩:=zEB b2 r0 (fun b hb h=>(r0.ok b hb).2.1 (hs1.prot b h).2.1) b7
 have hk:Kept (Pr.sub s tm H []) H H2:=⟨by rw[c5];exact b5.fz,fun b hb=>by rw[c4];exact b5.bef b hb,fun b hb=>by
  obtain⟨w1,w2,_⟩:=hs1.prot b hb
  rw[c6 b w1 fun hn=>(r0.ok b hn).2.1 w2];exact b5.get b hb,fun b ho hw hb=>by
  rw[c6 b hw fun hn=>(r0.ok b hn).2.1 hb];exact b5.odd b ho hw hb⟩
 refine⟨φ1,S1,H2,s1,tm1,v,us,⟨n0+1,fun n hn'=>?_⟩,hs.leave c2 b3 b4 hk,b3,b4,hk.sub,c3,b8,c2⟩
 cases n with
 |zero=>omega
 |succ n=>
  show opt .no (cond (pureFn P g) (cond (is g) (yO true P orc (zM true P is orc n) g (ofList vs) H) (zz true P (zM true P is orc n) g (ofList vs) H)) (zg P (zM true P is orc n) g (ofList vs) H)) (bodyOf P g)=_
  rw[hb,hp]
  show cond (Nat.ble (lenV (ofList vs) 0) nt) (zBa P rs ((zM true P is orc n).code body (TT.ofV (ofList vs) 0 .leaf) [] none g H)) .no=_
  rw[zBN,Nat.add_zero,show Nat.ble vs.length nt=true by rw[Nat.ble_eq];omega,b1 n (by omega)]
  rcases b6 with rfl|rfl
  ·exact c1
  ·exact c1
theorem zEN{g:FuncId}{nt:Nat}{body:Code}{rs:List ResultVar}{args:List U}{st:List SB}{Q:U→List SB→Prop}(hb:bodyOf P g=some (nt,body,rs))(hp:pureFn P g=false)(hn:Nat.ble args.length nt=true)(hnt:Nat.ble nt 1024=true)
  (hw:Wp P is orc body (initF (args.map dg) st) fun e s=>(e=.normal∨e=.ret)∧∃us,ResL P s rs us∧∃r,UW (.u (tupU us)) (.u r)∧Q (dg r) s.st):WpC P is orc g args st Q:=by
 intro Pr φ S s tm H vs hs hst hl
 subst hst
 obtain⟨φ1,S1,H2,s1,tm1,v,us,a1,a2,a3,a4,a5,a6,⟨r,a7,a8⟩,_⟩:=call_core hb hp hn hnt hw hs hl
 exact⟨φ1,S1,H2,s1.st,v,dg r,a1,a2,a3,a4,a5,VU.dg (UW.vu a6 a7),dg_noOwn r,a8⟩
section calls
variable {all l:List Oper}{d:Option Nat}{g:FuncId}{xs:Array Operand}{ts:Array TypeId}{t:TypeId}{p:String}{e:Array Edge}{args:List U}{M:U→List SB→Prop}{Q:St→Prop}
theorem zDq(hd:zAw 1024 d=true)(hw:WpC P is orc g args s.st M)(hle:UW (.l (zCx s xs.toList)) (.l args))(k:∀u st',M u st'→WpO P is orc all l ((⟨s.fr,[],st'⟩:St).dst d u) Q):
  WpO P is orc all (⟨d,.call ⟨.value (.func g),xs,ts⟩,t,p,e,none⟩::l) s Q:=by
 refine o_op (R:=fun u s1=>∃st',s1=⟨s.fr,[],st'⟩∧M u st') hd ?_ fun u s1 h=>by obtain⟨st',rfl,h⟩:=h;exact k u st' h
 intro Pr φ S tm H hs
 have hl:=UW.vu (wg hs xs.toList) hle
 obtain⟨φ',S',H',st',v,u,⟨n0,q1⟩,q2,q3,q4,q5,q6,q7,q8⟩:=hw Pr φ S s tm H _ hs rfl hl
 refine⟨v,u,_,H',φ',S',⟨n0,fun n hn=>?_⟩,q2,q3,q4,q5,q6,NewOk.none (q7 v),st',rfl,q8⟩
 show(zM true P is orc n).call g (yH tm xs.toList) H=_
 rw[zAp];exact q1 n hn
theorem o_callV{x:Nat}{A B:List U}(hd:zAw 1024 d=true)(hx:s.slot x=.fn g A B)(hw:WpC P is orc g args s.st M)(hle:UW (.l (A++(zCx s xs.toList++B))) (.l args))(k:∀u st',M u st'→WpO P is orc all l ((⟨s.fr,[],st'⟩:St).dst d u) Q):
  WpO P is orc all (⟨d,.call ⟨.value (.tmp x),xs,ts⟩,t,p,e,none⟩::l) s Q:=by
 refine o_op (R:=fun u s1=>∃st',s1=⟨s.fr,[],st'⟩∧M u st') hd ?_ fun u s1 h=>by obtain⟨st',rfl,h⟩:=h;exact k u st' h
 intro Pr φ S tm H hs
 have hv:=zQ hs (.tmp x)
 rw[show za s (.tmp x)=_ from hx]at hv
 generalize hq:zI tm (.tmp x)=w at hv
 cases hv with
 |fn _ VA VB _ _ h1 h2=>
  have hl:=UW.vu (LU.append h1 (LU.append (wg hs xs.toList) h2)) hle
  obtain⟨φ',S',H',st',v,u,⟨n0,q1⟩,q2,q3,q4,q5,q6,q7,q8⟩:=hw Pr φ S s tm H _ hs rfl hl
  refine⟨v,u,_,H',φ',S',⟨n0,fun n hn=>?_⟩,q2,q3,q4,q5,q6,NewOk.none (q7 v),st',rfl,q8⟩
  show zDw (zM true P is orc n) (tm.get x) (yH tm xs.toList) H=_
  rw[show tm.get x=_ from hq]
  show(zM true P is orc n).call g (appV (ofList VA) (appV (yH tm xs.toList) (ofList VB))) H=_
  rw[zAp,zBt,zBt];exact q1 n hn
end calls
end Vam
namespace Vam
open Go
variable {Pr:Prt}{φ φ' ψ:BMap}{S S' R:SMap}{s s':St}{tm tm':TT}{H H':CH}{P:Program}{is:FuncId→Bool}{orc:Known}
end Vam
namespace Vam
open Go
variable {Pr:Prt}{φ φ' ψ:BMap}{S S' R:SMap}{s s':St}{tm tm':TT}{H H':CH}{P:Program}{is:FuncId→Bool}{orc:Known}
end Vam
