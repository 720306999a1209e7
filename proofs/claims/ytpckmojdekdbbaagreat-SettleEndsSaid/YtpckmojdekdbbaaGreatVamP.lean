import Derived.Test.YtpckmojdekdbbaaGreatVamO
set_option linter.unusedVariables false
set_option linter.unusedSimpArgs false
namespace Vam
open Go
variable {Pr:Prt}{φ φ' ψ:BMap}{S S' R:SMap}{s s':St}{tm tm':TT}{H H':CH}{P:Program}{is:FuncId→Bool}{orc:Known}
def ownF(s:St)(tm:TT)(b:Id):Prop:=∃i,i<1024∧yU (tm.get i) (s.fr i)=some b
def Prt.sub(Pr:Prt)(s:St)(tm:TT)(H:CH)(ls:List Id):Prt:=⟨fun b=>Pr b∨ownF s tm b,Pr.n,fun b=>(Pr.o b∧b.wf∧Before b H.n)∨b∈ls,fun b h=>.inl (Pr.s b h)⟩
def initF(args:List U)(st:List SB):St:=⟨fun j=>(args[j]?).getD .junk,[],st⟩
theorem SR.ownF_S(hs:SR Pr φ S s tm H){b:Id}(hb:ownF s tm b):∃l,S b=some l:=by
 obtain⟨i,hi,h⟩:=hb
 exact own_S (hs.fr i hi) h
theorem SR.other(hs:SR Pr φ S s tm H){fr:Nat→U}{tm1:TT}(hf:∀i,i<1024→VU φ S (tm1.get i) (fr i))(ho:∀i,i<1024→zFj (fr i))(ls:List Id):SR (Pr.sub s tm H ls) φ S ⟨fr,[],s.st⟩ tm1 H:=by
 have key:∀lo v u,At φ ⟨fr,[],s.st⟩ tm1 H lo v u→(∃a o,lo=.cell a o∧At φ s tm H lo v u)∨yU v u=none:=by
  intro lo v u ha
  cases ha with
  |slot i hi=>exact .inr (ho i hi _)
  |cell a o b cs l e _ _ h1 h2 h3 h4 h5=>exact .inl ⟨a,o,rfl,.cell a o b cs l e _ _ h1 h2 h3 h4 h5⟩
 refine⟨hs.nok,hs.fzn,hf,hs.bx,hs.dom,hs.inj,hs.mem,?_,?_,fun p hp=>(by cases hp),?_,?_⟩
 ·intro lo v u b ha hb
  rcases key _ _ _ ha with ⟨_,_,_,ha⟩|hq
  ·exact hs.own lo v u b ha hb
  ·rw[hq]at hb;cases hb
 ·intro lo lo' v u v' u' b ha ha' hb hb'
  rcases key _ _ _ ha with ⟨_,_,_,ha⟩|hq
  ·rcases key _ _ _ ha' with ⟨_,_,_,ha'⟩|hq
   ·exact hs.excl lo lo' v u v' u' b ha ha' hb hb'
   ·rw[hq]at hb';cases hb'
  ·rw[hq]at hb;cases hb
 ·intro b hb
  rcases hb with hb|hb
  ·obtain⟨q1,q2,q3,q4⟩:=hs.prot b hb
   refine⟨q1,q2,q3,fun lo v u ha=>?_⟩
   rcases key _ _ _ ha with ⟨_,_,_,ha⟩|hq
   ·exact q4 lo v u ha
   ·rw[hq];simp
  ·obtain⟨l,hl⟩:=hs.ownF_S hb
   obtain⟨w1,w2,w3,w4⟩:=hs.mem b l hl
   obtain⟨i,hi,hi2⟩:=hb
   refine⟨w1,w2,w3,fun lo v u ha=>?_⟩
   rcases key _ _ _ ha with ⟨a,o,rfl,ha⟩|hq
   ·intro he
    have:=hs.excl _ _ _ _ _ _ b (.slot i hi) ha hi2 he
    cases this
   ·rw[hq];simp
 ·intro b hb
  obtain⟨q1,q2⟩:=hs.pnew b hb
  exact⟨.inl q1,q2⟩
theorem SR.leave(hs:SR Pr φ S s tm H){ls:List Id}{φ1:BMap}{S1:SMap}{s1:St}{tm1:TT}{H1:CH}(h1:SR (Pr.sub s tm H ls) φ1 S1 s1 tm1 H1)(hφ:φ.le φ1)(hS:S.le S1)(hk:Kept (Pr.sub s tm H ls) H H1):
  SR Pr φ1 S1 ⟨s.fr,[],s1.st⟩ tm H1:=by
 have key:∀lo v u,At φ1 ⟨s.fr,[],s1.st⟩ tm H1 lo v u→(∃i,lo=.slot i∧i<1024∧At φ s tm H lo v u)∨(∃a o,lo=.cell a o∧At φ1 s1 tm1 H1 lo v u):=by
  intro lo v u ha
  cases ha with
  |slot i hi=>exact .inl ⟨i,rfl,hi,.slot i hi⟩
  |cell a o b cs l e _ _ h1 h2 h3 h4 h5=>exact .inr ⟨a,o,rfl,.cell a o b cs l e _ _ h1 h2 h3 h4 h5⟩
 have hown:∀i v u b,At φ s tm H (.slot i) v u→yU v u=some b→ownF s tm b:=by
  intro i v u b ha hb
  cases ha with
  |slot _ hi=>exact⟨i,hi,hb⟩
 refine⟨h1.nok,h1.fzn,fun i hi=>(hs.fr i hi).mono hφ hS,h1.bx,h1.dom,h1.inj,h1.mem,?_,?_,fun p hp=>(by cases hp),?_,?_⟩
 ·intro lo v u b ha hb
  rcases key _ _ _ ha with ⟨i,rfl,hi,ha⟩|⟨_,_,_,ha⟩
  ·obtain⟨q1,m,e,sh,q2⟩:=hs.own _ v u b ha hb
   exact⟨by rw[hk.fz];exact q1,m,e,sh,by rw[hk.get b (.inr (hown _ _ _ _ ha hb))];exact q2⟩
  ·exact h1.own lo v u b ha hb
 ·intro lo lo' v u v' u' b ha ha' hb hb'
  rcases key _ _ _ ha with ⟨i,rfl,hi,ha⟩|⟨_,_,_,ha⟩
  ·rcases key _ _ _ ha' with ⟨i',rfl,hi',ha'⟩|⟨_,_,_,ha'⟩
   ·exact hs.excl _ _ v u v' u' b ha ha' hb hb'
   ·exact absurd hb' ((h1.prot b (.inr (hown _ _ _ _ ha hb))).2.2.2 _ _ _ ha')
  ·rcases key _ _ _ ha' with ⟨i',rfl,hi',ha'⟩|⟨_,_,_,ha'⟩
   ·exact absurd hb ((h1.prot b (.inr (hown _ _ _ _ ha' hb'))).2.2.2 _ _ _ ha)
   ·exact h1.excl _ _ v u v' u' b ha ha' hb hb'
 ·intro b hb
  obtain⟨q1,q2,q3,q4⟩:=h1.prot b (.inl hb)
  refine⟨q1,q2,q3,fun lo v u ha=>?_⟩
  rcases key _ _ _ ha with ⟨i,rfl,hi,ha⟩|⟨_,_,_,ha⟩
  ·exact(hs.prot b hb).2.2.2 _ v u ha
  ·exact q4 _ v u ha
 ·intro b hb
  exact⟨Pr.s b hb,(h1.pnew b hb).2⟩
theorem Kept.sub{ls:List Id}(hk:Kept (Pr.sub s tm H ls) H H'):Kept Pr H H':=⟨hk.fz,hk.bef,fun b hb=>hk.get b (.inl hb),fun b ho hw hb=>hk.odd b (.inl ⟨ho,hw,hb⟩) hw hb⟩
def BMap.cut(φ:BMap)(n:Nat):BMap:=fun a=>if a<n then φ a else none
theorem BMap.cut_some{n a:Nat}{b:Id}(h:φ.cut n a=some b):a<n∧φ a=some b:=by
 unfold BMap.cut at h
 split at h
 ·exact⟨by assumption,h⟩
 ·cases h
theorem BMap.cut_of{n a:Nat}{b:Id}(ha:a<n)(h:φ a=some b):φ.cut n a=some b:=by
 unfold BMap.cut;rw[if_pos ha];exact h
theorem BMap.le_cut{n:Nat}(h:φ.le ψ)(hd:∀a b,φ a=some b→a<n):φ.le (ψ.cut n):=fun a b e=>BMap.cut_of (hd a b e) (h a b e)
def Bd(n:Nat)(u:U):Prop:=∀(φ:BMap) (S:SMap) (v:V),VU φ S v u→VU (φ.cut n) S v u
theorem BdL{n:Nat}{us:List U}(h:∀u∈us,Bd n u){l:List V}(hl:LU φ S l us):LU (φ.cut n) S l us:=zDM hl fun _ _ hu hv=>h _ hu _ _ _ hv
theorem NB.bd{u:U}(h:NB u)(n:Nat):Bd n u:=fun _ S v hv=>(h _ _ _ hv).mono (fun a b h=>by cases h) S.le_refl
theorem Bd.box{n a off:Nat}(h:a<n):Bd n (.box a off):=fun _ _ _ hv=>by
 obtain⟨b,h1,rfl⟩:=zDj hv
 exact .box a b off (BMap.cut_of h h1)
theorem Bd.mp{n a:Nat}(h:a<n):Bd n (.mp a):=fun _ _ _ hv=>by
 cases hv with|mp _ b h1=>exact .mp a b (BMap.cut_of h h1)
theorem Bd.fn{n f:Nat}{a b:List U}(ha:∀u∈a,Bd n u)(hb:∀u∈b,Bd n u):Bd n (.fn f a b):=fun _ _ _ hv=>by
 cases hv with
 |fn _ A B _ _ h1 h2=>exact .fn f A B a b (BdL ha h1) (BdL hb h2)
theorem Bd.tup{n:Nat}{cs:List U}(h:∀c∈cs,Bd n c):Bd n (.tup cs):=fun _ _ _ hv=>by
 obtain⟨l,rfl,hl⟩:=tup_of hv
 exact .tup _ _ (BdL h hl)
theorem Bd.int(n:Nat)(k:IntKind)(i:Int):Bd n (.int k i):=(NB.int k i).bd n
theorem Bd.bool(n:Nat)(b:Bool):Bd n (.bool b):=(NB.bool b).bd n
theorem Bd.junk(n:Nat):Bd n .junk:=NB.junk.bd n
theorem Bd.lst{n:Nat}{k:Kd}{z:Nat}{es:List U}(h:∀c∈yW es,Bd n c):Bd n (.lst k z es):=fun φ S v hv=>by
 cases hv with
 |nils=>exact .nils _ _
 |over _ _ _ h0 hk=>exact .over _ _ _ h0 hk
 |slice b off len cc sz l l1 l2 k es h1 h2 h3 h4 h5 h6 h7=>exact .slice b off len cc _ l l1 l2 _ es h1 h2 (BdL h h3) h4 h5 h6 h7
theorem Dat.bd{k:Nat}{u:U}(h:Dat k u)(n:Nat):Bd n u:=h.nb.bd n
def BdS(n:Nat)(x:SB):Prop:=match x with
 | .box cs=>∀c∈cs,Bd n c
 | .froz cs=>∀c∈cs,Bd n c
 | .map es=>∀p∈es,Bd n p.1∧Bd n p.2
 | .loop _ l=>∀i,Bd n (l.fr i)
 | .dead=>True
 | .fmap es=>∀p∈es,Bd n p.1∧Bd n p.2
theorem EntsU.bd{n:Nat}{es:List Ent}{ps:List (U×U)}(h:EntsU φ S es ps)(k:∀p∈ps,Bd n p.1∧Bd n p.2):EntsU (φ.cut n) S es ps:=by
 induction h with
 |nil=>exact .nil
 |cons e es p ps a b c _ ih=>exact .cons e es p ps ((k p List.mem_cons_self).1 _ _ _ a) ((k p List.mem_cons_self).2 _ _ _ b) c (ih fun q hq=>k q (List.mem_cons_of_mem _ hq))
theorem SR.cut(h:SR Pr φ S s tm H){n:Nat}(hn:n≤s.st.length)(hb:∀x∈s.st.take n,BdS n x){fr:Nat→U}(hfr:∀i,i<1024→VU (φ.cut n) S (tm.get i) (fr i)∧(fr i=s.fr i∨fr i=.junk)):
  SR Pr (φ.cut n) S ⟨fr,[],s.st.take n⟩ tm H:=by
 have hget:∀(a:Nat) x,(s.st.take n)[a]? =some x→a<n∧s.st[a]? =some x:=by
  intro a x hx
  rw[List.getElem?_take]at hx
  split at hx
  ·exact⟨by assumption,hx⟩
  ·cases hx
 have key:∀lo v u,At (φ.cut n) ⟨fr,[],s.st.take n⟩ tm H lo v u→At φ s tm H lo v u∨yU v u=none:=by
  intro lo v u ha
  cases ha with
  |slot i hi=>
   rcases(hfr i hi).2 with e|e
   ·show At φ s tm H (.slot i) (tm.get i) (fr i)∨_
    rw[e];exact .inl (.slot i hi)
   ·right
    show yU _ (fr i)=none
    rw[e];rfl
  |cell a o b cs l e _ _ h1 h2 h3 h4 h5=>exact .inl (.cell a o b cs l e _ _ (hget a _ h1).2 (BMap.cut_some h2).2 h3 h4 h5)
 refine⟨h.nok,h.fzn,fun i hi=>(hfr i hi).1,?_,?_,?_,?_,?_,?_,fun p hp=>(by cases hp),?_,h.pnew⟩
 ·intro a x hx
  have hx:(s.st.take n)[a]? =some x:=hx
  have hbx:=hb x (List.mem_of_getElem? hx)
  obtain⟨ha,hx⟩:=hget a x hx
  have hk:=h.bx a x hx
  cases x with
  |box cs=>obtain⟨b,l,e,q1,q2,q3⟩:=hk;exact⟨b,l,e,BMap.cut_of ha q1,q2,BdL hbx q3⟩
  |froz cs=>obtain⟨b,l,q1,q2,q3⟩:=hk;exact⟨b,l,BMap.cut_of ha q1,q2,BdL hbx q3⟩
  |map es=>obtain⟨b,l,e,q1,q2,q3⟩:=hk;exact⟨b,l,e,BMap.cut_of ha q1,q2,q3.bd hbx⟩
  |loop q l=>obtain⟨b,st,pe,fn,tm,d,q1,q2,q3,q4⟩:=hk;exact⟨b,st,pe,fn,tm,d,BMap.cut_of ha q1,q2,q3,fun i hi=>hbx i _ _ _ (q4 i hi)⟩
  |dead=>trivial
  |fmap es=>obtain⟨b,l,e,q1,q2,q3⟩:=hk;exact⟨b,l,e,BMap.cut_of ha q1,q2,q3.bd hbx⟩
 ·intro a b ha
  obtain⟨k1,k2⟩:=BMap.cut_some ha
  obtain⟨q1,q2,q3,q4⟩:=h.dom a b k2
  exact⟨q1,q2,by show a<(s.st.take n).length;rw[List.length_take];omega,fun q=>q4 fun es e=>q es (by show(s.st.take n)[a]? =_;rw[List.getElem?_take,if_pos (by omega)];exact e)⟩
 ·intro a a' b ha ha'
  exact h.inj a a' b (BMap.cut_some ha).2 (BMap.cut_some ha').2
 ·intro b l hl
  obtain⟨q1,q2,q3,q4⟩:=h.mem b l hl
  refine⟨q1,q2,fun a ha=>?_,q4⟩
  obtain⟨k1,k2⟩:=BMap.cut_some ha
  obtain⟨cs,hc⟩:=q3 a k2
  exact⟨cs,by show(s.st.take n)[a]? =_;rw[List.getElem?_take,if_pos k1];exact hc⟩
 ·intro lo v u b ha hb
  rcases key _ _ _ ha with ha|hq
  ·exact h.own lo v u b ha hb
  ·rw[hq]at hb;cases hb
 ·intro lo lo' v u v' u' b ha ha' hb hb'
  rcases key _ _ _ ha with ha|hq
  ·rcases key _ _ _ ha' with ha'|hq
   ·exact h.excl lo lo' v u v' u' b ha ha' hb hb'
   ·rw[hq]at hb';cases hb'
  ·rw[hq]at hb;cases hb
 ·intro b hb
  obtain⟨q1,q2,q3,q4⟩:=h.prot b hb
  refine⟨q1,q2,fun a ha=>?_,fun lo v u ha=>?_⟩
  ·obtain⟨k1,k2⟩:=BMap.cut_some ha
   obtain⟨cs,hc⟩:=q3 a k2
   exact⟨cs,by show(s.st.take n)[a]? =_;rw[List.getElem?_take,if_pos k1];exact hc⟩
  ·rcases key _ _ _ ha with ha|hq
   ·exact q4 lo v u ha
   ·rw[hq];simp
theorem SR.dom_lt(h:SR Pr φ S s tm H)(a:Nat)(b:Id)(e:φ a=some b):a<s.st.length:=(h.dom a b e).2.2.1
def WpC(P:Program)(is:FuncId→Bool)(orc:Known)(g:FuncId)(args:List U)(st:List SB)(Q:U→List SB→Prop):Prop:=∀Pr φ S s tm H vs,SR Pr φ S s tm H→s.st=st→LU φ S vs args→
 ∃φ' S' H' st' v u,(∃n0,∀n,n0≤n→(zO true P is orc n).call g (zF vs) H=.ok v H')∧SR Pr φ' S' ⟨s.fr,[],st'⟩ tm H'∧φ.le φ'∧S.le S'∧Kept Pr H H'∧VU φ' S' v u∧zFj u∧Q u st'
theorem WpC.mono{g:FuncId}{args:List U}{st:List SB}{Q Q':U→List SB→Prop}(h:WpC P is orc g args st Q)(k:∀u st',Q u st'→Q' u st'):WpC P is orc g args st Q':=by
 intro Pr φ S s tm H vs h1 h2 h3
 obtain⟨φ',S',H',st',v,u,q1,q2,q3,q4,q5,q6,q7,q8⟩:=h Pr φ S s tm H vs h1 h2 h3
 exact⟨φ',S',H',st',v,u,q1,q2,q3,q4,q5,q6,q7,k _ _ q8⟩
theorem zDZ(u:U):zFj (dg u):=fun v=>yk v u
theorem init_noOwn(args:List U)(i:Nat):zFj (((args.map dg)[i]?).getD .junk):=by
 cases h:(args.map dg)[i]? with
 |none=>exact fun _=>rfl
 |some u=>
  obtain⟨w,_,rfl⟩:=List.mem_map.1 (List.mem_of_getElem? h)
  exact zDZ w
theorem init_rel{vs:List V}{args:List U}(hl:LU φ S vs args)(hn:vs.length≤1024)(j:Nat)(hj:j<1024):VU φ S ((TT.ofV (zF vs) 0 .leaf).get j) ((args[j]?).getD .junk):=by
 rw[ofV_get vs 0 .leaf (by omega) j hj,if_pos (Nat.zero_le _),TT.get_leaf]
 show VU φ S ((vs[j]?).getD undef) _
 cases h:args[j]? with
 |none=>exact .junk _
 |some u=>obtain⟨v,h1,h2⟩:=hl.get h;rw[h1];exact h2
theorem call_core{g:FuncId}{nt:Nat}{body:Code}{rs:List ResultVar}{args:List U}{M:St→List U→Prop}(hb:bodyOf P g=some (nt,body,rs))(hp:pureFn P g=false)(hn:Nat.ble args.length nt=true)(hnt:Nat.ble nt 1024=true)
  (hw:Wp P is orc body (initF (args.map dg) s.st) fun e s=>(e=.normal∨e=.ret)∧∃us,ResL P s rs us∧M s us) (hs:SR Pr φ S s tm H) {vs:List V} (hl:LU φ S vs args):
  ∃φ1 S1 H2 s1 tm1 v us,(∃n0,∀n,n0≤n→(zO true P is orc n).call g (zF vs) H=.ok v H2)∧SR Pr φ1 S1 ⟨s.fr,[],s1.st⟩ tm H2∧φ.le φ1∧S.le S1∧Kept Pr H H2∧VU φ1 S1 v (tupU us)∧M s1 us∧SR (Pr.sub s tm H []) φ1 S1 s1 tm1 H2:=by
 have hn:=Nat.le_of_ble_eq_true hn
 have hnt:=Nat.le_of_ble_eq_true hnt
 have hlen:=hl.len
 have hs1:=hs.other (fun j hj=>init_rel hl.dgs (by omega) j hj) (fun i _=>init_noOwn args i) []
 obtain⟨e,new,s1,tm1,H1,φ1,S1,⟨r0,n0,b1⟩,b2,b3,b4,b5,b6,us,b7,b8⟩:=hw _ _ _ _ _ [] none g hs1 (fun b hb=>by rcases hb with hb|hb;exact hb.2;cases hb) (RoOk.none _ _)
 obtain⟨H2,v,c1,c2,c3,c4,c5,c6⟩:=zFD b2 r0 (fun b hb h=>(r0.ok b hb).2.1 (hs1.prot b h).2.1) b7
 have hk:Kept (Pr.sub s tm H []) H H2:=⟨by rw[c5];exact b5.fz,fun b hb=>by rw[c4];exact b5.bef b hb,fun b hb=>by
  obtain⟨w1,w2,_⟩:=hs1.prot b hb
  rw[c6 b w1 fun hn=>(r0.ok b hn).2.1 w2];exact b5.get b hb,fun b ho hw hb=>by
  rw[c6 b hw fun hn=>(r0.ok b hn).2.1 hb];exact b5.odd b ho hw hb⟩
 refine⟨φ1,S1,H2,s1,tm1,v,us,⟨n0+1,fun n hn'=>?_⟩,hs.leave c2 b3 b4 hk,b3,b4,hk.sub,c3,b8,c2⟩
 cases n with
 |zero=>omega
 |succ n=>
  show opt .no (cond (pureFn P g) (cond (is g) (yg true P orc (zO true P is orc n) g (zF vs) H) (yc true P (zO true P is orc n) g (zF vs) H)) (yG P (zO true P is orc n) g (zF vs) H)) (bodyOf P g)=_
  rw[hb,hp]
  show cond (Nat.ble (lenV (zF vs) 0) nt) (zCK P rs ((zO true P is orc n).code body (TT.ofV (zF vs) 0 .leaf) [] none g H)) .no=_
  rw[zBV,Nat.add_zero,show Nat.ble vs.length nt=true by rw[Nat.ble_eq];omega,b1 n (by omega)]
  rcases b6 with rfl|rfl
  ·exact c1
  ·exact c1
theorem zGI{g:FuncId}{nt:Nat}{body:Code}{rs:List ResultVar}{args:List U}{st:List SB}{Q:U→List SB→Prop}(hb:bodyOf P g=some (nt,body,rs))(hp:pureFn P g=false)(hn:Nat.ble args.length nt=true)(hnt:Nat.ble nt 1024=true)
  (hw:Wp P is orc body (initF (args.map dg) st) fun e s=>(e=.normal∨e=.ret)∧∃us,ResL P s rs us∧∃r,UW (.u (tupU us)) (.u r)∧Q (dg r) s.st):WpC P is orc g args st Q:=by
 intro Pr φ S s tm H vs hs hst hl
 subst hst
 obtain⟨φ1,S1,H2,s1,tm1,v,us,a1,a2,a3,a4,a5,a6,⟨r,a7,a8⟩,_⟩:=call_core hb hp hn hnt hw hs hl
 exact⟨φ1,S1,H2,s1.st,v,dg r,a1,a2,a3,a4,a5,VU.dg (UW.vu a6 a7),zDZ r,a8⟩
theorem zDk{g:FuncId}{nt:Nat}{body:Code}{rs:List ResultVar}{args:List U}{st:List SB}{Q:U→List SB→Prop}(hb:bodyOf P g=some (nt,body,rs))(hp:pureFn P g=false)(hn:Nat.ble args.length nt=true)(hnt:Nat.ble nt 1024=true)
  (hw:Wp P is orc body (initF (args.map dg) st) fun e s=>(e=.normal∨e=.ret)∧∃us,ResL P s rs us∧∃r,UW (.u (tupU us)) (.u r)∧Bd st.length r∧st.length≤s.st.length∧(∀x∈s.st.take st.length,BdS st.length x)∧Q (dg r) (s.st.take st.length)):WpC P is orc g args st Q:=by
 intro Pr φ S s tm H vs hs hst hl
 subst hst
 obtain⟨φ1,S1,H2,s1,tm1,v,us,a1,a2,a3,a4,a5,a6,⟨r,a7,a8,a9,a10,a11⟩,_⟩:=call_core hb hp hn hnt hw hs hl
 have hle:φ.le (φ1.cut s.st.length):=BMap.le_cut a3 hs.dom_lt
 exact⟨φ1.cut s.st.length,S1,H2,s1.st.take s.st.length,v,dg r,a1,a2.cut (n:=s.st.length) a9 a10 (fun i hi=>⟨(hs.fr i hi).mono hle a4,.inl rfl⟩),hle,a4,a5,VU.dg (a8 _ _ _ (UW.vu a6 a7)),zDZ r,a11⟩
section calls
variable {all l:List Oper}{d:Option Nat}{g:FuncId}{xs:Array Operand}{ts:Array TypeId}{t:TypeId}{p:String}{e:Array Edge}{args:List U}{M:U→List SB→Prop}{Q:St→Prop}
theorem zAO(hd:wj 1024 d=true)(hw:WpC P is orc g args s.st M)(hle:UW (.l (zDG s xs.toList)) (.l args))(k:∀u st',M u st'→WpO P is orc all l ((⟨s.fr,[],st'⟩:St).dst d u) Q):
  WpO P is orc all (⟨d,.call ⟨.value (.func g),xs,ts⟩,t,p,e,none⟩::l) s Q:=by
 refine o_op (R:=fun u s1=>∃st',s1=⟨s.fr,[],st'⟩∧M u st') hd ?_ fun u s1 h=>by obtain⟨st',rfl,h⟩:=h;exact k u st' h
 intro Pr φ S tm H hs
 have hl:=UW.vu (zAH hs xs.toList) hle
 obtain⟨φ',S',H',st',v,u,⟨n0,q1⟩,q2,q3,q4,q5,q6,q7,q8⟩:=hw Pr φ S s tm H _ hs rfl hl
 refine⟨v,u,_,H',φ',S',⟨n0,fun n hn=>?_⟩,q2,q3,q4,q5,q6,NewOk.none (q7 v),st',rfl,q8⟩
 show(zO true P is orc n).call g (yY tm xs.toList) H=_
 rw[zBi];exact q1 n hn
end calls
end Vam
namespace Vam
open Go
variable {Pr:Prt}{φ φ' ψ:BMap}{S S' R:SMap}{s s':St}{tm tm':TT}{H H':CH}{P:Program}{is:FuncId→Bool}{orc:Known}
theorem SR.updS(hs:SR Pr φ S s tm H){a:Nat}{x x':SB}(hst:s.st[a]? =some x)(hx:x.odd)(hx':x'.odd){b:Id}(hφ:φ a=some b){k0 k1:Blk}(hg:H.get b=some k0)(hnc:∀cs e st sh,k0≠.cells cs e st sh)(hna:∀cs,k0≠.arg cs)
  (hodd:OddTo (some k0) (some k1)) (hok:∀H':CH,H'.get b=some k1→SBOk φ S H' a x'):
  ∃H',H.set b k1=some H'∧SR Pr φ S ⟨s.fr,[],s.st.set a x'⟩ tm H'∧Kept Pr H H'∧H'.get b=some k1∧H'.n=H.n∧∀c:Id,c.wf→c≠b→H'.get c=H.get c:=by
 obtain⟨d1,d2,d3,d4⟩:=hs.dom a b hφ
 obtain⟨H',h1,h2,h3,h4⟩:=set_of d1 (d4 (Thw.at hst (by rintro es rfl;exact hx))) k1
 have hne:∀c,c.wf→c≠b→H'.get c=H.get c:=fun c hc hcb=>by rw[h4 c hc,if_neg hcb]
 have hnb:∀cs,x≠.box cs:=by rintro cs rfl;exact hx
 have hnf:∀cs,x≠.froz cs:=by rintro cs rfl;exact hx
 have hnb':∀cs,x'≠.box cs:=by rintro cs rfl;exact hx'
 have hcell:∀(c:Id) cs e st sh,H.get c=some (.cells cs e st sh)→c≠b:=by rintro c cs e st sh h rfl;rw[hg]at h;cases h;exact hnc _ _ _ _ rfl
 have hfr:∀(a':Nat) (c:Id),(∃cs,s.st[a']? =some (SB.froz cs))→∃cs,(s.st.set a x')[a']? =some (SB.froz cs):=by
  rintro a' _ ⟨cs,hc⟩
  have hne':a'≠a:=by rintro rfl;rw[hst]at hc;cases hc;exact hnf _ rfl
  exact⟨cs,by rw[List.getElem?_set_ne (Ne.symm hne')];exact hc⟩
 have key:∀lo v u,At φ ⟨s.fr,[],s.st.set a x'⟩ tm H' lo v u→At φ s tm H lo v u:=by
  intro lo v u ha
  cases ha with
  |slot i hi=>exact .slot i hi
  |cell c o b' cs l e _ _ q1 q2 q3 q4 q5=>
   have q1:(s.st.set a x')[c]? =some (.box cs):=q1
   have ec:c≠a:=by rintro rfl;rw[List.getElem?_set_self d3]at q1;cases q1;exact hnb' _ rfl
   rw[List.getElem?_set_ne (Ne.symm ec)]at q1
   exact .cell c o b' cs l e _ _ q1 q2 (by rw[←hne b' (hs.dom c b' q2).1 (by rintro rfl;exact ec (hs.inj _ _ _ q2 hφ))];exact q3) q4 q5
 refine⟨H',h1,⟨by rw[h2];exact hs.nok,by rw[h2,h3];exact hs.fzn,hs.fr,?_,?_,hs.inj,?_,?_,?_,fun p hp=>(by cases hp),?_,hs.pnew⟩,⟨h3,fun c hc=>by rw[h2];exact hc,fun c hc=>hne c (hs.prot c hc).1 ?_,fun c _ hw _=>?_⟩,by rw[h4 b d1,if_pos rfl],h2,hne⟩
 ·intro c y hy
  have hy:(s.st.set a x')[c]? =some y:=hy
  by_cases ec:c=a
  ·subst ec
   rw[List.getElem?_set_self d3]at hy
   cases hy
   exact hok H' (by rw[h4 b d1,if_pos rfl])
  ·rw[List.getElem?_set_ne (Ne.symm ec)]at hy
   exact(hs.bx c y hy).move φ.le_refl S.le_refl fun b' q1=>hne b' (hs.dom c b' q1).1 (by rintro rfl;exact ec (hs.inj _ _ _ q1 hφ))
 ·intro c b' hc
  obtain⟨q1,q2,q3,q4⟩:=hs.dom c b' hc
  exact⟨q1,by rw[h2];exact q2,by show c<(s.st.set a _).length;simpa using q3,fun q=>by rw[h3];exact q4 (q.set hst (by rintro es rfl;exact hx))⟩
 ·intro c m hc
  obtain⟨q1,q2,q3,q4⟩:=hs.mem c m hc
  have ec:c≠b:=by
   rintro rfl
   rcases q4 with ⟨e',st,sh',r1,r2⟩|r1<;>rw[hg]at r1<;>cases r1
   ·exact hnc _ _ _ _ rfl
   ·exact hna _ rfl
  exact⟨q1,by rw[h2];exact q2,fun a' ha'=>hfr a' c (q3 a' ha'),by rw[hne c q1 ec];exact q4⟩
 ·intro lo v u c ha hc
  obtain⟨q1,m,e',sh',q2⟩:=hs.own lo v u c (key _ _ _ ha) hc
  exact⟨by rw[h3];exact q1,m,e',sh',by rw[hne c (zDe hs (key _ _ _ ha) hc).1 (hcell _ _ _ _ _ q2)];exact q2⟩
 ·intro lo lo' v u v' u' c ha ha' hc hc'
  exact hs.excl lo lo' v u v' u' c (key _ _ _ ha) (key _ _ _ ha') hc hc'
 ·intro c hc
  obtain⟨q1,q2,q3,q4⟩:=hs.prot c hc
  exact⟨q1,by rw[h2];exact q2,fun a' ha'=>hfr a' c (q3 a' ha'),fun lo v u ha=>q4 lo v u (key _ _ _ ha)⟩
 ·rintro rfl
  obtain⟨cs,q⟩:=(hs.prot _ hc).2.2.1 a hφ
  rw[hst]at q;cases q;exact hnf _ rfl
 ·by_cases ec:c=b
  ·subst ec;rw[hg,h4 c d1,if_pos rfl];exact hodd
  ·exact .of_eq (hne c hw ec)
noncomputable def setPU:List Nat→List U→(Nat→U)→Nat→U
 |p::ps,u::us,fr=>setPU ps us fun j=>cond (Nat.beq j p) u (fr j)
 |_,_,fr=>fr
theorem setP_run:∀(ps:List Nat) {vs:List V} {us:List U} {tm:TT} {fr:Nat→U},ps.length=us.length→(∀p∈ps,p<1024)→LU φ S vs us→(∀i,i<1024→VU φ S (tm.get i) (fr i))→
  ∃tm1,zBS ps (zF vs) tm=some tm1∧∀i,i<1024→VU φ S (tm1.get i) (setPU ps us fr i):=by
 intro ps
 induction ps with
 |nil=>
  intro vs us tm fr hl _ hv hf
  cases us with
  |cons _ _=>simp at hl
  |nil=>cases hv;exact⟨tm,rfl,hf⟩
 |cons p ps ih=>
  intro vs us tm fr hl hp hv hf
  cases us with
  |nil=>simp at hl
  |cons u us=>
   cases hv with
   |cons v vs _ _ h1 h2=>
    have hpp:=hp p List.mem_cons_self
    exact ih (tm:=TT.set v tm p) (by simpa using hl) (fun q hq=>hp q (List.mem_cons_of_mem _ hq)) h2 fun i hi=>by
     rw[TT.get_set v tm p i hpp hi]
     by_cases e:i=p
     ·subst e;rw[if_pos rfl,Nat.beq_refl];exact h1
     ·rw[if_neg e,beq_ne e];exact hf i hi
theorem setP_own:∀(ps:List Nat) (us:List U) (fr:Nat→U),(∀u∈us,zFj u)→(∀i,zFj (fr i))→∀i,zFj (setPU ps us fr i):=by
 intro ps
 induction ps with
 |nil=>intro us fr _ h i;cases us<;>exact h i
 |cons p ps ih=>
  intro us fr hu h
  cases us with
  |nil=>exact h
  |cons u us=>
   refine ih us _ (fun w hw=>hu w (List.mem_cons_of_mem _ hw)) fun i=>?_
   cases Nat.beq i p with
   |true=>exact hu u List.mem_cons_self
   |false=>exact h i
def WpY(P:Program)(is:FuncId→Bool)(orc:Known)(a:Nat)(lp:Lp)(args:List U)(st:List SB)(K:U→List SB→Prop):Prop:=
 Wp P is orc lp.assign ⟨setPU lp.ps (args.map dg) lp.fr,[],st⟩ fun e s1=>e=.normal∧s1.st[a]? =some (.loop .ready lp)∧
  Wp P is orc lp.body ⟨s1.fr,[],s1.st.set a (.loop .busy lp)⟩ fun e s2=>s2.st[a]? =some (.loop .busy lp)∧
   match e with
   | .normal=>K (.bool true) (s2.st.set a (.loop .ready lp))
   |e=>K (.bool false) (s2.st.set a (.loop (.done e) lp))
theorem o_yield{all l:List Oper}{d:Option Nat}{x a:Nat}{xs:Array Operand}{ts:Array TypeId}{t:TypeId}{p:String}{e:Array Edge}{args:List U}{lp:Lp}{K:U→List SB→Prop}{Q:St→Prop}(hd:wj 1024 d=true)(hx:s.slot x=.yld a)(hst:s.st[a]? =some (.loop .ready lp))
  (hfr:∀i,zFj (lp.fr i)) (hps:lp.ps.all (fun p=>Nat.blt p 1024)=true) (hn:lp.ps.length=args.length) (hle:UW (.l (zDG s xs.toList)) (.l args)) (hw:WpY P is orc a lp args s.st K)
  (k:∀u st',K u st'→WpO P is orc all l ((⟨s.fr,[],st'⟩:St).dst d u) Q):WpO P is orc all (⟨d,.call ⟨.value (.tmp x),xs,ts⟩,t,p,e,none⟩::l) s Q:=by
 refine o_op (R:=fun u s1=>∃st',s1=⟨s.fr,[],st'⟩∧K u st') hd ?_ fun u s1 h=>by obtain⟨st',rfl,h⟩:=h;exact k u st' h
 intro Pr φ S tm H hs
 have hv:=zK hs (.tmp x)
 rw[show zQ s (.tmp x)=_ from hx]at hv
 have hl:=UW.vu (zAH hs xs.toList) hle
 generalize hq:zG tm (.tmp x)=w at hv
 cases hv with
 |yld _ b hφ=>
  obtain⟨b',st0,pe,fnl,tm0,dblk,q1,q2,⟨rfl,rfl⟩,q4⟩:=hs.bx a _ hst
  rw[hφ]at q1;cases q1
  obtain⟨w1,w2,w3,w4⟩:=hs.dom a b hφ
  obtain⟨tm1,p1,p2⟩:=setP_run lp.ps (us:=args.map dg) (by simpa using hn) (fun p hp=>yu (List.all_eq_true.1 hps p hp)) (LU.dgs hl) q4
  have hs1:=hs.other p2 (fun i _=>setP_own lp.ps _ _ (fun u hu=>by obtain⟨w,_,rfl⟩:=List.mem_map.1 hu;exact zDZ w) hfr i) [b]
  have hO:OOk (Pr.sub s tm H [b]) H:=fun c hc=>by
   rcases hc with hc|hc
   ·exact hc.2
   ·rcases List.mem_singleton.1 hc with rfl;exact⟨w1,w2⟩
  have hR:RoOk (Pr.sub s tm H [b]) (some b) H:=fun c hc=>by cases hc;exact⟨.inr (List.mem_singleton.2 rfl),_,_,_,_,_,_,_,_,q2⟩
  obtain⟨e1,new1,s1,tmA,H1,φ1,S1,⟨r1,n1,a1⟩,a2,a3,a4,a5,rfl,a7,a8⟩:=hw _ _ _ _ _ [] (some b) fnl hs1 hO hR
  have hne1:=r1.rnd (by simp)
  subst hne1
  obtain⟨b1,st1,pe1,fn1,tm01,d1,c1,c2,⟨rfl,rfl⟩,c4⟩:=a2.bx a _ a7
  rw[a3 _ _ hφ]at c1;cases c1
  obtain⟨H2,u1,u2,u3,u4,u5,u6⟩:=a2.updS (k1:=.loop .busy none fn1 tm01 lp.ps lp.assign lp.body d1) a7 (x':=.loop .busy lp) trivial trivial (a3 _ _ hφ) c2 (fun _ _ _ _ h=>by cases h) (fun _ h=>by cases h)
   ⟨fun _ h=>(by cases h),fun _ _ _ _ _ _ _ _ h=>by cases h;exact⟨_,_,_,_,_,_,_,rfl⟩⟩ fun H' hg=>⟨b,_,_,_,_,_,a3 _ _ hφ,hg,rfl,c4⟩
  have hR2:=(hR.kept hO a5).kept (hO.kept a5) u3
  have hO2:=(hO.kept a5).kept u3
  obtain⟨e2,new2,s2,tmB,H3,φ2,S2,⟨r2,n2,f1⟩,f2,f3,f4,f5,f7,f8⟩:=a8 _ _ _ _ _ [] (some b) fnl u2 hO2 hR2
  have hne2:=r2.rnd (by simp)
  subst hne2
  obtain⟨b2,st2,pe2,fn2,tm02,d2,g1,g2,g3,g4⟩:=f2.bx a _ f7
  have hφ2:=f3 _ _ (a3 _ _ hφ)
  rw[hφ2]at g1;cases g1
  obtain⟨q',pe',v',hfin,hK⟩:∃q' pe' vb,(∀E:Ev,endRound b (.ok e2 tmB [] H3)=opt .no (R.ok (.bool vb)) (H3.set b (.loop q' pe' fn2 tm02 lp.ps lp.assign lp.body d2)))∧
    ∃q:Lq,LqOk q q' pe'∧K (.bool vb) (s2.st.set a (.loop q lp)):=by
   cases e2 with
   |normal=>exact⟨.ready,none,true,fun E=>by unfold endRound;simp only[g2];rfl,.ready,⟨rfl,rfl⟩,f8⟩
   |exit i=>exact⟨.done,some (.exit i),false,fun E=>by unfold endRound;simp only[g2];rfl,.done (.exit i),⟨rfl,rfl,by simp⟩,f8⟩
   |goto i=>exact⟨.done,some (.goto i),false,fun E=>by unfold endRound;simp only[g2];rfl,.done (.goto i),⟨rfl,rfl,by simp⟩,f8⟩
   |ret=>exact⟨.done,some .ret,false,fun E=>by unfold endRound;simp only[g2];rfl,.done .ret,⟨rfl,rfl,by simp⟩,f8⟩
  obtain⟨q,hq1,hq2⟩:=hK
  obtain⟨H4,t1,t2,t3,t4,t5,t6⟩:=f2.updS (k1:=.loop q' pe' fn2 tm02 lp.ps lp.assign lp.body d2) f7 (x':=.loop q lp) trivial trivial hφ2 g2 (fun _ _ _ _ h=>by cases h) (fun _ h=>by cases h)
   ⟨fun _ h=>(by cases h),fun _ _ _ _ _ _ _ _ h=>by cases h;exact⟨_,_,_,_,_,_,_,rfl⟩⟩ fun H' hg=>⟨b,_,_,_,_,_,hφ2,hg,hq1,g4⟩
  have hkept:=((a5.trans u3).trans f5).trans t3
  refine⟨.bool v',.bool v',_,H4,φ2,S2,⟨n1+n2,fun n hn'=>?_⟩,hs.leave t2 (BMap.le_trans a3 f3) (SMap.le_trans a4 f4) hkept,BMap.le_trans a3 f3,SMap.le_trans a4 f4,hkept.sub,.bool _,NewOk.none rfl,_,rfl,hq2⟩
  show zGr (zO true P is orc n) (tm.get x) (yY tm xs.toList) H=_
  rw[show tm.get x=_ from hq]
  show zHB (zO true P is orc n) (yY tm xs.toList) H b=_
  unfold zHB
  rw[q2]
  show opt .no (fun tm=>beginRound (zO true P is orc n) b fnl lp.body ((zO true P is orc n).code lp.assign tm [] (some b) fnl H)) (zBS lp.ps (yY tm xs.toList) tm0)=_
  rw[zBi,p1]
  show beginRound (zO true P is orc n) b fnl lp.body ((zO true P is orc n).code lp.assign tm1 [] (some b) fnl H)=_
  rw[a1 n (by omega)]
  unfold beginRound
  simp only[List.append_nil,c2]
  rw[u1]
  show endRound b ((zO true P is orc n).code lp.body tmA [] (some b) fnl H2)=_
  rw[f1 n (by omega),List.append_nil,hfin (zO true P is orc n),t1];rfl
end Vam
namespace Vam
open Go
variable {Pr:Prt}{φ φ' ψ:BMap}{S S' R:SMap}{s s':St}{tm tm':TT}{H H':CH}{P:Program}{is:FuncId→Bool}{orc:Known}
theorem alloc_uni{H:CH}(hn:H.n.wf)(x:Blk):
  ∃H':CH,(∀{α:Type} (no:α) (k:Id→CH→α),alloc no H x k=k H.n H')∧H'.n=H.n.next∧H'.fz=H.fz∧∀j:Id,j.wf→H'.get j=if j=H.n then some x else H.get j:=by
 cases H with
 |mk n f t=>cases n with
  |over=>exact hn.elim
  |mk m a b c d e=>
   obtain⟨H',h2,h3,h4,h5⟩:=zAp (α:=Option (Id×CH)) none (H:=.mk (.mk m a b c d e) f t) hn x (fun n H=>some (n,H))
   have h2:some (Id.mk m a b c d e,CH.mk (Id.next (.mk m a b c d e)) f (Tr.put (some x) t a b c d e))=some (_,H'):=h2
   cases h2
   exact⟨_,fun _ _=>rfl,h3,h4,h5⟩
noncomputable def lpOf(s:St)(ps:List Nat)(assign body:Code):Lp:=⟨fun i=>dg (s.fr i),ps,assign,body⟩
noncomputable def endQ(Q:Ex→St→Prop)(q:Lq)(s:St):Prop:=match q with
 | .ready=>Q .normal s
 | .busy=>False
 | .done e=>Q e s
theorem zHY{g:FuncId}{A B:List U}{x:Operand}{ps:Array Tmp}{assign body:Code}{Q:Ex→St→Prop}(hx:zQ s x=.fn g A B)(hs:SR Pr φ S s tm H)(dblk:Id)(ds:List Id)(ro:Option Id)(fn:FuncId)
  (hw:WpC P is orc g (A++([.yld s.st.length]++B)) (s.st++[.loop .ready (lpOf s ps.toList assign body)]) fun _ st'=>∃q,st'[s.st.length]? =some (.loop q (lpOf s ps.toList assign body))∧
   (∀y∈st'.take s.st.length,BdS s.st.length y)∧endQ Q q ⟨s.fr,[],st'.take s.st.length⟩):
  ∃e,Post Pr φ S H (Q e) fun tm' H'=>∃n0,∀n,n0≤n→zCb (zO true P is orc n) (zG tm x) ps assign body dblk tm ds ro fn H=.ok e tm' ds H':=by
 have hv:=zK hs x
 rw[hx]at hv
 generalize hq:zG tm x=w at hv
 cases hv with
 |fn _ VA VB _ _ h1 h2=>
  obtain⟨H1,a1,a2,a3,a4⟩:=alloc_uni hs.nok (.loop .ready none fn tm ps.toList assign body dblk)
  have hA:Alloc H H1 (.loop .ready none fn tm ps.toList assign body dblk):=⟨a2,a3,a4⟩
  have hself:H1.get H.n=some (.loop .ready none fn tm ps.toList assign body dblk):=by rw[a4 _ hs.nok,if_pos rfl]
  obtain⟨b1,b2⟩:=hs.allocS (x:=.loop .ready (lpOf s ps.toList assign body)) trivial hA fun χ hle hχ=>⟨H.n,_,_,_,_,_,hχ,hself,⟨rfl,rfl⟩,fun i hi=>VU.dg ((hs.fr i hi).mono hle S.le_refl)⟩
  have hle1:φ.le (φ.with s.st.length H.n):=BMap.le_with _ hs.none_st
  have hlv:LU (φ.with s.st.length H.n) S (VA++([.yield H.n]++VB)) (A++([.yld s.st.length]++B)):=
   LU.append (h1.mono hle1 S.le_refl) (LU.append (.cons _ _ _ _ (.yld _ _ (BMap.with_self _ _ _)) .nil) (h2.mono hle1 S.le_refl))
  obtain⟨φ2,S2,H2,st',v,u,⟨n1,c1⟩,c2,c3,c4,c5,c6,c7,q,d1,d3,d4⟩:=hw Pr _ S (s.newS _) tm H1 _ b1 rfl hlv
  obtain⟨bl,st0,pe,fnl,tm0,dd,e1,e2,e3,e4⟩:=c2.bx _ _ d1
  have hφl:φ2 s.st.length=some H.n:=c3 _ _ (BMap.with_self _ _ _)
  rw[hφl]at e1;cases e1
  obtain⟨H3,u1,u2,u3,u4,u5,u6⟩:=c2.updS (k1:=.loop .exhausted pe fnl tm0 ps.toList assign body dd) d1 (x':=.dead) trivial trivial hφl e2 (fun _ _ _ _ h=>by cases h) (fun _ h=>by cases h)
   ⟨fun _ h=>(by cases h),fun _ _ _ _ _ _ _ _ h=>by cases h;exact⟨_,_,_,_,_,_,_,rfl⟩⟩ fun _ _=>trivial
  have hlen:s.st.length<st'.length:=(List.getElem?_eq_some_iff.1 d1).1
  have htake:(st'.set s.st.length SB.dead).take s.st.length=st'.take s.st.length:=List.take_set_of_le (Nat.le_refl _)
  have hle2:φ.le (φ2.cut s.st.length):=BMap.le_cut (BMap.le_trans hle1 c3) hs.dom_lt
  have hcut:=u2.cut (n:=s.st.length) (by show _≤(st'.set s.st.length SB.dead).length;simp;omega) (by show ∀y∈(st'.set s.st.length SB.dead).take s.st.length,_;rw[htake];exact d3) (fr:=s.fr) (fun i hi=>⟨(hs.fr i hi).mono hle2 c4,.inl rfl⟩)
  have hcut:SR Pr (φ2.cut s.st.length) S2 ⟨s.fr,[],st'.take s.st.length⟩ tm H3:=by rw[←htake];exact hcut
  have hkept:=(b2.trans c5).trans u3
  have hgo:∀n,n1≤n→zCb (zO true P is orc n) (.func g (zF VA) (zF VB)) ps assign body dblk tm ds ro fn H=endLoop (zO true P is orc n) H.n tm ds ro fn (.ok v H2):=by
   intro n hn
   unfold zCb
   rw[a1]
   show endLoop (zO true P is orc n) H.n tm ds ro fn ((zO true P is orc n).call g (appV (zF VA) (appV (.cons (.yield H.n) .nil) (zF VB))) H1)=_
   rw[show V.cons (.yield H.n) .nil=zF [.yield H.n]from rfl,zED,zED,c1 n hn]
  have hend:∀n,endLoop (zO true P is orc n) H.n tm ds ro fn (.ok v H2)=match st0 with
    | .busy=>.no
    |_=>match pe with
     |none=>opt .no (RC.ok .normal tm ds) (H2.set H.n (.loop .exhausted none fnl tm0 ps.toList assign body dd))
     |some c=>opt .no ((zO true P is orc n).code c tm ds ro fn) (H2.set H.n (.loop .exhausted (some c) fnl tm0 ps.toList assign body dd)):=by
   intro n
   unfold endLoop
   simp only[e2]
   cases st0<;>cases pe<;>rfl
  have fin:∀e,Q e ⟨s.fr,[],st'.take s.st.length⟩→(∃n0,∀n,n0≤n→endLoop (zO true P is orc n) H.n tm ds ro fn (.ok v H2)=.ok e tm ds H3)→
    ∃e,Post Pr φ S H (Q e) fun tm' H'=>∃n0,∀n,n0≤n→zCb (zO true P is orc n) (.func g (zF VA) (zF VB)) ps assign body dblk tm ds ro fn H=.ok e tm' ds H':=by
   rintro e hQ ⟨n0,hn0⟩
   exact⟨e,_,tm,H3,_,S2,⟨n0+n1,fun n hn=>by rw[hgo n (by omega)];exact hn0 n (by omega)⟩,hcut,hle2,c4,hkept,hQ⟩
  cases q with
  |busy=>exact d4.elim
  |ready=>
   obtain⟨rfl,rfl⟩:=e3
   refine fin .normal d4 ⟨0,fun n _=>?_⟩
   rw[hend n]
   show opt RC.no (RC.ok .normal tm ds) (H2.set H.n _)=_
   rw[u1];rfl
  |done e=>
   obtain⟨rfl,rfl,hne⟩:=e3
   refine fin e d4 ⟨1,fun n hn=>?_⟩
   rw[hend n]
   cases n with
   |zero=>omega
   |succ n=>
    cases e with
    |normal=>exact absurd rfl hne
    |exit i=>
     show opt RC.no ((zO true P is orc (n+1)).code (.exit i) tm ds ro fn) (H2.set H.n _)=_
     rw[show(jumpOf (.exit i))=some (.exit i)from rfl]at u1
     rw[u1];rfl
    |goto i=>
     show opt RC.no ((zO true P is orc (n+1)).code (.goto i) tm ds ro fn) (H2.set H.n _)=_
     rw[show(jumpOf (.goto i))=some (.goto i)from rfl]at u1
     rw[u1];rfl
    |ret=>
     show opt RC.no ((zO true P is orc (n+1)).code .ret tm ds ro fn) (H2.set H.n _)=_
     rw[show(jumpOf .ret)=some .ret from rfl]at u1
     rw[u1];rfl
theorem k_range{g:FuncId}{A B:List U}{x:Operand}{ps:Array Tmp}{assign body:Code}{Q:Ex→St→Prop}(hx:zQ s x=.fn g A B)
  (hw:WpC P is orc g (A++([.yld s.st.length]++B)) (s.st++[.loop .ready (lpOf s ps.toList assign body)]) fun _ st'=>∃q,st'[s.st.length]? =some (.loop q (lpOf s ps.toList assign body))∧
   (∀y∈st'.take s.st.length,BdS s.st.length y)∧endQ Q q ⟨s.fr,[],st'.take s.st.length⟩):Wp P is orc (.rangeFunc x ps assign body) s Q:=by
 intro Pr φ S tm H ds ro fn hs ho hr
 cases ro with
 |some l=>
  obtain⟨hl1,st,pe,fn',tm',ps',as',bd',d,hg⟩:=hr l rfl
  obtain⟨e,s1,tm1,H1,φ1,S1,⟨n0,a1⟩,a2⟩:=zHY hx hs d ds (some l) fn hw
  refine⟨e,[],s1,tm1,H1,φ1,S1,⟨.nil _ _ _,n0+1,fun n hn=>?_⟩,a2⟩
  cases n with
  |zero=>omega
  |succ n=>
   show zFW (zO true P is orc n) (zG tm x) ps assign body tm ds (some l) fn H=_
   unfold zFW
   simp only[hg]
   exact a1 n (by omega)
 |none=>
  obtain⟨H1,b1,b2,b3,b4⟩:=alloc_uni hs.nok (.dfr false)
  have hA:Alloc H H1 (.dfr false):=⟨b2,b3,b4⟩
  obtain⟨g1,g2⟩:=hs.grow (hA.grow (S:=S) hs.nok)
  have hwf:=hs.nok
  have hbef:Before H.n H1.n:=by rw[b2];exact Before.self hs.nok
  obtain⟨e,s1,tm1,H2,φ1,S1,⟨n0,a1⟩,a2,a3,a4,a5,a6⟩:=zHY hx (g1.plus [H.n]) H.n (H.n::ds) none fn hw
  refine⟨e,[H.n],s1,tm1,H2,φ1,S1,⟨⟨by simp,fun b hb=>?_,fun h=>absurd rfl h⟩,n0+1,fun n hn=>?_⟩,a2.unplus,a3,a4,g2.trans a5.unplus,a6⟩
  ·rcases List.mem_singleton.1 hb with rfl
   refine⟨hwf,zj hs.nok,a5.bef _ hbef,(a5.odd _ (.inr List.mem_cons_self) hwf hbef).1 _ (by rw[b4 _ hwf,if_pos rfl]),?_⟩
   rw[a5.fz,b3];exact hs.fzn
  ·cases n with
   |zero=>omega
   |succ n=>
    show zFW (zO true P is orc n) (zG tm x) ps assign body tm ds none fn H=_
    unfold zFW
    rw[show alloc RC.no H (.dfr false) (fun n_1 H=>zCb (zO true P is orc n) (zG tm x) ps assign body n_1 tm (n_1::ds) none fn H)=_ from b1 _ _]
    exact a1 n (by omega)
end Vam
