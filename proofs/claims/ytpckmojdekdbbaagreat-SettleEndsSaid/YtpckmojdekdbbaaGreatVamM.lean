import Derived.Test.YtpckmojdekdbbaaGreatVamL
set_option linter.unusedVariables false
set_option linter.unusedSimpArgs false
namespace Vam
open Go
variable {Pr:Prt}{φ φ':BMap}{S S':SMap}{s s':St}{tm tm':TT}{H H':CH}{P:Program}{is:FuncId→Bool}{orc:Known}
def φ0:BMap:=fun _=>none
inductive Dat:Nat→U→Prop where
 |bool (k:Nat) (b:Bool):Dat (k+1) (.bool b)
 |int (k:Nat) (kk:IntKind) (n:Int):Dat (k+1) (.int kk n)
 |str (k:Nat) (s:List Nat):Dat (k+1) (.str s)
 |lst (k:Nat) (kd:Kd) (z:Nat) (es:List U):kd≠.own→(∀c∈yW es,Dat k c)→Dat (k+1) (.lst kd z es)
 |agg (k:Nat) (cs:List U):(∀c∈cs,Dat k c)→Dat (k+1) (.agg cs)
theorem zDM{ψ:BMap}{R:SMap}{l:List V}{us:List U}(h:LU φ S l us)(k:∀v u,u∈us→VU φ S v u→VU ψ R v u):LU ψ R l us:=by
 induction us generalizing l with
 |nil=>cases h;exact .nil
 |cons u us ih=>
  cases h with
  |cons x l _ _ h1 h2=>exact .cons _ _ _ _ (k _ _ List.mem_cons_self h1) (ih h2 fun v u hu=>k v u (List.mem_cons_of_mem _ hu))
theorem Dat.phi:∀(k:Nat) {v:V} {u:U} {ψ:BMap},Dat k u→VU φ S v u→VU ψ S v u:=by
 intro k
 induction k with
 |zero=>intro v u ψ hd;cases hd
 |succ k ih=>
  intro v u ψ hd h
  cases hd with
  |bool=>cases h;exact .bool _
  |int=>cases h;exact .int _ _
  |str=>cases h;exact .str _
  |lst _ kd z es h1 h2=>
   cases h with
   |nils=>exact .nils _ _
   |over _ _ _ h0 hk=>exact .over _ _ _ h0 hk
   |slice b off len cc _ l l1 l2 _ _ q1 q2 q3 q4 q5 q6 q7=>exact .slice b off len cc _ l l1 l2 _ _ q1 q2 (zDM q3 fun v u hu hv=>ih (h2 u hu) hv) q4 q5 q6 q7
  |agg _ cs h1=>cases h with|agg l _ hl=>exact .agg _ _ (zDM hl fun v u hu hv=>ih (h1 u hu) hv)
structure MemOk(S:SMap)(H:CH):Prop where
 nok:H.n.wf
 mem:∀b l,S b=some l→b.wf∧Before b H.n∧zEE (H.get b) l
theorem SR.memOk(h:SR Pr φ S s tm H):MemOk S H:=⟨h.nok,fun b l hb=>⟨(h.mem b l hb).1,(h.mem b l hb).2.1,(h.mem b l hb).2.2.2⟩⟩
structure Grow2(S:SMap)(H:CH)(S':SMap)(H':CH):Prop where
 nok:H'.n.wf
 fz:H'.fz=H.fz
 num:H.n.num≤H'.n.num
 bef:∀b,Before b H.n→Before b H'.n
 get:∀b,b.wf→Before b H.n→H'.get b=H.get b
 le:S.le S'
 new:∀b l,S' b=some l→S b=none→b.wf∧ ¬ Before b H.n∧Before b H'.n∧zEE (H'.get b) l
theorem Grow2.refl(h:H.n.wf):Grow2 S H S H:=⟨h,rfl,Nat.le_refl _,fun _ h=>h,fun _ _ _=>rfl,S.le_refl,fun b l h1 h2=>by rw[h1]at h2;cases h2⟩
theorem Grow2.trans{S1 S2 S3:SMap}{H1 H2 H3:CH}(h:Grow2 S1 H1 S2 H2)(k:Grow2 S2 H2 S3 H3):Grow2 S1 H1 S3 H3:=by
 refine⟨k.nok,k.fz.trans h.fz,Nat.le_trans h.num k.num,fun b hb=>k.bef b (h.bef b hb),fun b hw hb=>(k.get b hw (h.bef b hb)).trans (h.get b hw hb),SMap.le_trans h.le k.le,?_⟩
 intro b l h3 h1
 cases h2:S2 b with
 |none=>
  obtain⟨q1,q2,q3,q4⟩:=k.new b l h3 h2
  exact⟨q1,fun hb=>q2 (h.bef b hb),q3,q4⟩
 |some m=>
  have:=k.le b m h2
  rw[h3]at this;cases this
  obtain⟨q1,q2,q3,q4⟩:=h.new b l h2 h1
  exact⟨q1,q2,k.bef b q3,by rw[k.get b q1 q3];exact q4⟩
theorem MemOk.grow(h:MemOk S H)(g:Grow2 S H S' H'):MemOk S' H':=by
 refine⟨g.nok,fun b l hb=>?_⟩
 cases hS:S b with
 |none=>obtain⟨q1,q2,q3,q4⟩:=g.new b l hb hS;exact⟨q1,q3,q4⟩
 |some m=>
  have:=g.le b m hS
  rw[hb]at this;cases this
  obtain⟨q1,q2,q3⟩:=h.mem b l hS
  exact⟨q1,g.bef b q2,by rw[g.get b q1 q2];exact q3⟩
theorem SR.grow(hs:SR Pr φ S s tm H)(g:Grow2 S H S' H'):SR Pr φ S' s tm H'∧Kept Pr H H':=by
 have key:∀lo v u,At φ s tm H' lo v u→At φ s tm H lo v u:=by
  intro lo v u ha
  cases ha with
  |slot i hi=>exact .slot i hi
  |cell a o c cs l e _ _ k1 k2 k3 k4 k5=>exact .cell a o c cs l e _ _ k1 k2 (by rw[←g.get c (hs.dom a c k2).1 (hs.dom a c k2).2.1];exact k3) k4 k5
 have key':∀lo v u,At φ s tm H lo v u→At φ s tm H' lo v u:=by
  intro lo v u ha
  cases ha with
  |slot i hi=>exact .slot i hi
  |cell a o c cs l e _ _ k1 k2 k3 k4 k5=>exact .cell a o c cs l e _ _ k1 k2 (by rw[g.get c (hs.dom a c k2).1 (hs.dom a c k2).2.1];exact k3) k4 k5
 refine⟨⟨g.nok,by rw[g.fz];exact Nat.le_trans hs.fzn g.num,fun i hi=>(hs.fr i hi).mono φ.le_refl g.le,?_,?_,hs.inj,?_,?_,?_,?_,?_,?_⟩,⟨g.fz,g.bef,fun b hb=>g.get b (hs.prot b hb).1 (hs.prot b hb).2.1,fun b _ hw hb=>.of_eq (g.get b hw hb)⟩⟩
 ·intro a x ha
  exact(hs.bx a x ha).move φ.le_refl g.le fun c q1=>g.get c (hs.dom a c q1).1 (hs.dom a c q1).2.1
 ·intro a c ha
  obtain⟨q1,q2,q3,q4⟩:=hs.dom a c ha
  exact⟨q1,g.bef c q2,q3,by rw[g.fz];exact q4⟩
 ·intro c l hc
  have hm:=(hs.memOk.grow g).mem c l hc
  refine⟨hm.1,hm.2.1,?_,hm.2.2⟩
  cases hS:S c with
  |none=>
   obtain⟨_,q2,_⟩:=g.new c l hc hS
   intro a ha;exact absurd (hs.dom a c ha).2.1 q2
  |some m=>exact(hs.mem c m hS).2.2.1
 ·intro lo v u c ha hc
  obtain⟨q1,m',e',sh',q2⟩:=hs.own lo v u c (key _ _ _ ha) hc
  obtain⟨w1,w2⟩:=zDe hs (key _ _ _ ha) hc
  exact⟨by rw[g.fz];exact q1,m',e',sh',by rw[g.get c w1 w2];exact q2⟩
 ·intro lo lo' v u v' u' c ha ha' hc hc'
  exact hs.excl lo lo' v u v' u' c (key _ _ _ ha) (key _ _ _ ha') hc hc'
 ·intro p hpp
  obtain⟨q1,v,u,q2,q3⟩:=hs.ali p hpp
  exact⟨q1,v,u,key' _ _ _ q2,q3⟩
 ·intro c hc
  obtain⟨q1,q2,q3,q4⟩:=hs.prot c hc
  exact⟨q1,g.bef c q2,q3,fun lo v u ha=>q4 lo v u (key _ _ _ ha)⟩
 ·intro b hb
  obtain⟨q1,q2⟩:=hs.pnew b hb
  refine⟨q1,?_⟩
  cases hS:S' b with
  |none=>rfl
  |some l=>exact absurd (hs.prot b q1).2.1 (g.new b l hS q2).2.1
inductive Og(os:List (Id×Nat))(G S:SMap):VX→VX→Prop where
 |bool (b:Bool):Og os G S (.v (.bool b)) (.v (.bool b))
 |int (k:IntKind) (n:Int):Og os G S (.v (.int k n)) (.v (.int k n))
 |str (s:List Nat):Og os G S (.v (.str s)) (.v (.str s))
 |nils:Og os G S (.v .nils) (.v .nils)
 |over (sz cc:Nat):Og os G S (.v (.slice .over 0 0 cc sz)) (.v (.slice .over 0 0 cc sz))
 |slice (b c:Id) (o len cc cc' sz:Nat) (l m m1 m2:List V):b.wf→cc'=cond (capE cc) cc (capA len)→os[b.num]? =some (c,o)→G b=some l→S c=some m→o≤m.length→m.drop o=m1++m2→len≤capN cc→l.length=len*sz→Og os G S (.l l) (.l m1)→
   Og os G S (.v (.slice b 0 len cc' sz)) (.v (.slice c o len cc sz))
 |agg (l m:List V):Og os G S (.l l) (.l m)→Og os G S (.v (.agg (zF l))) (.v (.agg (zF m)))
 |nil:Og os G S (.l []) (.l [])
 |cons (x y:V) (l m:List V):Og os G S (.v x) (.v y)→Og os G S (.l l) (.l m)→Og os G S (.l (x::l)) (.l (y::m))
theorem Og.mono{os os':List (Id×Nat)}{G G':SMap}(h1:∀(i:Nat) (p:Id×Nat),os[i]? =some p→os'[i]? =some p)(h2:G.le G'){x y:VX}(h:Og os G S x y):Og os' G' S x y:=by
 induction h with
 |bool b=>exact .bool b
 |int k n=>exact .int k n
 |str s=>exact .str s
 |nils=>exact .nils
 |over sz cc=>exact .over sz cc
 |slice b c o len cc cc' sz l m m1 m2 qw qc q1 q2 q3 q4 q5 q6 q7 _ ih=>exact .slice b c o len cc cc' sz l m m1 m2 qw qc (h1 _ _ q1) (h2 _ _ q2) q3 q4 q5 q6 q7 ih
 |agg l m _ ih=>exact .agg l m ih
 |nil=>exact .nil
 |cons x y l m _ _ i1 i2=>exact .cons x y l m i1 i2
theorem Og.len{os:List (Id×Nat)}{G:SMap}{l m:List V}(h:Og os G S (.l l) (.l m)):l.length=m.length:=by
 induction l generalizing m with
 |nil=>cases h;rfl
 |cons x l ih=>cases h with|cons _ y _ m _ h2=>simp[ih h2]
theorem Og.drop{os:List (Id×Nat)}{G:SMap}{l m:List V}(h:Og os G S (.l l) (.l m))(n:Nat):Og os G S (.l (l.drop n)) (.l (m.drop n)):=by
 induction n generalizing l m with
 |zero=>simpa using h
 |succ n ih=>cases h with
  |nil=>exact .nil
  |cons x y l m _ h2=>simpa using ih h2
theorem Og.split{os:List (Id×Nat)}{G:SMap}{l1 l2 m:List V}(h:Og os G S (.l (l1++l2)) (.l m)):∃m1 m2,m=m1++m2∧Og os G S (.l l1) (.l m1)∧Og os G S (.l l2) (.l m2):=by
 induction l1 generalizing m with
 |nil=>exact⟨[],m,rfl,.nil,h⟩
 |cons x l1 ih=>
  cases h with
  |cons _ y _ m h1 h2=>
   obtain⟨m1,m2,rfl,a,b⟩:=ih h2
   exact⟨y::m1,m2,rfl,.cons _ _ _ _ h1 a,b⟩
theorem Og.vu{os:List (Id×Nat)}{G G':SMap}(hG:G.le G'):∀(k:Nat) {v v':V} {u:U},Og os G S (.v v') (.v v)→Dat k u→VU φ G' v' u→VU φ0 S v u:=by
 intro k
 induction k with
 |zero=>intro v v' u _ hd;cases hd
 |succ k ih=>
  have ihl:∀{l m:List V} {us:List U},Og os G S (.l l) (.l m)→(∀u∈us,Dat k u)→LU φ G' l us→LU φ0 S m us:=by
   intro l m us
   induction us generalizing l m with
   |nil=>intro h _ hl;cases hl;cases h;exact .nil
   |cons u us ihu=>
    intro h hd hl
    cases hl with
    |cons x l _ _ h1 h2=>cases h with
     |cons _ y _ m g1 g2=>exact .cons _ _ _ _ (ih g1 (hd u List.mem_cons_self) h1) (ihu g2 (fun w hw=>hd w (List.mem_cons_of_mem _ hw)) h2)
  intro v v' u ho hd hv
  cases ho with
  |bool b=>cases hv with
   |junk=>cases hd
   |bool=>exact .bool b
  |int kk n=>cases hv with
   |junk=>cases hd
   |int=>exact .int kk n
  |str s=>cases hv with
   |junk=>cases hd
   |str=>exact .str s
  |nils=>cases hv with
   |junk=>cases hd
   |nils=>exact .nils _ _
  |over sz cc=>cases hv with
   |junk=>cases hd
   |sl=>cases hd
   |over _ _ _ h0 hk=>exact .over _ _ _ h0 hk
   |slice _ _ _ _ _ l' l1 l2 _ _ r1 r2 r3 r4 r5 r6 r7=>
    cases List.eq_nil_of_length_eq_zero r5
    exact .over _ _ _ r7 (over_kd r6)
  |slice b c o len cc cc' sz l m m1 m2 qw qc q1 q2 q3 q4 q5 q6 q7 q8=>
   cases hv with
   |junk=>cases hd
   |sl=>cases hd
   |over=>exact qw.elim
   |slice _ _ _ _ _ l' l1 l2 kd es r1 r2 r3 r4 r5 r6 r7=>
    cases hd with
    |lst _ _ _ _ d1 d2=>
     have:=hG _ _ q2
     rw[r1]at this;cases this
     have hl1:l1.length=len*sz:=by rw[LU.len r3,zAW r4,r5]
     have hl2:l2=[]:=by
      have:=congrArg List.length r2
      simp at this
      cases l2 with
      |nil=>rfl
      |cons _ _=>simp at this;omega
     subst hl2
     have e:l=l1:=by simpa using r2
     subst e
     refine .slice c o len cc sz m m1 m2 kd es q3 q5 (ihl q8 d2 r3) r4 r5 ⟨q4,q6,?_⟩ r7
     cases kd with
     |ro=>trivial
     |own=>exact absurd rfl d1
     |full=>
      obtain⟨_,_,f1,f2⟩:=r6
      rw[qc]at f1 f2
      cases hE:capE cc with
      |true=>rw[hE]at f2;exact⟨rfl,f2⟩
      |false=>
       rw[hE]at f1
       have:capE (capA len)=true:=f1
       have e8:capE (capA len)=false:=by show Nat.beq ((2*len) % 2) 1=false;rw[Nat.mul_mod_right];rfl
       rw[e8]at this;cases this
  |agg l m hl=>
   generalize hx:zF l=lx at hv
   cases hv with
   |junk=>cases hd
   |agg l' cs hl'=>
    cases hd with
    |agg _ _ d1=>have:=zAi hx;subst this;exact .agg _ _ (ihl hl d1 hl')
theorem Og.lu{os:List (Id×Nat)}{G G':SMap}(hG:G.le G'){k:Nat}{l m:List V}{us:List U}(h:Og os G S (.l l) (.l m))(hd:∀u∈us,Dat k u)(hl:LU φ G' l us):LU φ0 S m us:=by
 induction us generalizing l m with
 |nil=>cases hl;cases h;exact .nil
 |cons u us ihu=>
  cases hl with
  |cons x l _ _ h1 h2=>cases h with
   |cons _ y _ m g1 g2=>exact .cons _ _ _ _ (Og.vu hG k g1 (hd u List.mem_cons_self) h1) (ihu g2 (fun w hw=>hd w (List.mem_cons_of_mem _ hw)) h2)
end Vam
namespace Vam
open Go
variable {Pr:Prt}{φ φ':BMap}{S S':SMap}{s s':St}{tm tm':TT}{H H':CH}{P:Program}{is:FuncId→Bool}{orc:Known}
structure InS(S G:SMap)(C:CH)(os:List (Id×Nat)):Prop where
 nok:C.n.wf
 fz:C.fz=0
 num:C.n.num=os.length
 mem:∀b l,G b=some l→b.wf∧Before b C.n∧C.get b=some (.arg (zF l))
 all:∀i,i<os.length→∃b l c o m m1 m2,b.num=i∧G b=some l∧os[i]? =some (c,o)∧S c=some m∧o≤m.length∧m.drop o=m1++m2∧Og os G S (.l l) (.l m1)
theorem InS.start(S:SMap):InS S (fun _=>none) H0 []:=⟨rfl,rfl,rfl,fun b l h=>(by cases h),fun i h=>(by cases h)⟩
theorem within_of{b:Id}{m:List V}{off n:Nat}(hr:zEE (H.get b) m)(h:off≤m.length):Vam.within (H.get b) off n=true:=by
 unfold Vam.within
 cases n with
 |succ n=>rfl
 |zero=>
  show yS false (fun cs _ _ _=>Nat.ble off (lenV cs 0)) (H.get b)=true
  have hb:Nat.ble off (lenV (zF m) 0)=true:=by rw[zBV,Nat.add_zero,Nat.ble_eq];exact h
  rcases hr with ⟨e,st,sh,hg,hst⟩|hg
  ·rw[hg]
   show cond (Nat.beq st 2) false (Nat.ble off (lenV (zF m) 0))=true
   rw[beq_ne hst];exact hb
  ·rw[hg];exact hb
def InRun(S:SMap)(f:V→MvK)(v:V)(u:U):Prop:=∀{C:CH} {G:SMap} {os:List (Id×Nat)},InS S G C os→
 ∃v' C' G' os',f v C os=.ok v' C' os'∧InS S G' C' os'∧G.le G'∧(∃x,os'=os++x)∧VU φ0 G' v' u∧Og os' G' S (.v v') (.v v)
theorem get_ext{os x:List (Id×Nat)}(i:Nat)(p:Id×Nat)(h:os[i]? =some p):(os++x)[i]? =some p:=by
 rw[List.getElem?_append_left (List.getElem?_eq_some_iff.1 h).1];exact h
theorem zEx{f:V→MvK}{l:List V}{us:List U}(hl:LU φ0 S l us)(ih:∀v u,u∈us→VU φ0 S v u→InRun S f v u){C:CH}{G:SMap}{os:List (Id×Nat)}(hI:InS S G C os):
  ∃l' C' G' os',yn f (zF l) C os=.ok (zF l') C' os'∧InS S G' C' os'∧G.le G'∧(∃x,os'=os++x)∧LU φ0 G' l' us∧Og os' G' S (.l l') (.l l):=by
 induction us generalizing l C G os with
 |nil=>cases hl;exact⟨[],C,G,os,rfl,hI,G.le_refl,⟨[],by simp⟩,.nil,.nil⟩
 |cons u us ihu=>
  cases hl with
  |cons x l _ _ h1 h2=>
   obtain⟨v1,C1,G1,os1,a1,a2,a3,⟨y,rfl⟩,a5,a6⟩:=ih x u List.mem_cons_self h1 hI
   obtain⟨l2,C2,G2,os2,b1,b2,b3,⟨z,rfl⟩,b5,b6⟩:=ihu h2 (fun v w hw=>ih v w (List.mem_cons_of_mem _ hw)) a2
   refine⟨v1::l2,C2,G2,_,?_,b2,SMap.le_trans a3 b3,⟨y++z,by simp⟩,.cons _ _ _ _ (a5.mono φ0.le_refl b3) b5,.cons _ _ _ _ (a6.mono get_ext b3) b6⟩
   show wt (f x C os) (fun x H o=>wt (yn f (zF l) H o) (fun l H o=>.ok (.cons x l) H o))=_
   rw[a1]
   show wt (yn f (zF l) C1 (os++y)) (fun l H o=>.ok (.cons v1 l) H o)=_
   rw[b1];rfl
theorem in_run(hm:MemOk S H):∀(k:Nat) {v:V} {u:U},Dat k u→VU φ0 S v u→InRun S (inV H k) v u:=by
 intro k
 induction k with
 |zero=>intro v u hd;cases hd
 |succ k ih=>
  intro v u hd hv C G os hI
  cases hd with
  |bool _ b=>cases hv;cases b<;>exact⟨_,C,G,os,rfl,hI,G.le_refl,⟨[],by simp⟩,.bool _,.bool _⟩
  |int _ kk n=>
   cases hv
   refine⟨.int kk n,C,G,os,?_,hI,G.le_refl,⟨[],by simp⟩,.int _ _,.int _ _⟩
   show zCk (fun n=>zBd (.int kk n)) n C os=_
   rw[zAy];rfl
  |str _ q=>cases hv;exact⟨_,C,G,os,rfl,hI,G.le_refl,⟨[],by simp⟩,.str _,.str _⟩
  |agg _ cs h1=>
   obtain⟨l,rfl,hl⟩:=zHq hv
   obtain⟨l',C',G',os',a1,a2,a3,a4,a5,a6⟩:=zEx hl (fun v u hu hvu=>ih (h1 u hu) hvu) hI
   refine⟨.agg (zF l'),C',G',os',?_,a2,a3,a4,.agg _ _ a5,.agg _ _ a6⟩
   show wt (yn (inV H k) (zF l) C os) (fun l H o=>.ok (.agg l) H o)=_
   rw[a1];rfl
  |lst _ kd z es h1 h2=>
   rcases zFS hv with ⟨rfl,h3|⟨h0,cc0,hcc,h3⟩⟩|⟨b,off,cc,m,l1,l2,q1,q2,q3,q4,q5,q6,q7⟩
   ·subst h3;exact⟨.nils,C,G,os,rfl,hI,G.le_refl,⟨[],by simp⟩,.nils _ _,.nils⟩
   ·subst h3;exact⟨_,C,G,os,rfl,hI,G.le_refl,⟨[],by simp⟩,.over _ _ _ h0 hcc,.over _ _⟩
   ·subst q1
    obtain⟨m1,m2,m3⟩:=hm.mem b m q2
    obtain⟨l',C1,G1,os1,a1,a2,a3,⟨x,rfl⟩,a5,a6⟩:=zEx q4 (fun v u hu hvu=>ih (h2 u hu) hvu) hI
    obtain⟨C2,c1,c2,c3,c4⟩:=zAp Mv.no a2.nok (.arg (zF l')) (zBM b off es.length cc z (os++x))
    have hl1:l1.length=es.length*z:=by rw[q4.len,zAW q5]
    have hl':l'.length=es.length*z:=by rw[a5.len,zAW q5]
    have hoff:off+es.length*z≤m.length:=by
     have:=congrArg List.length q3
     simp at this
     have:=q6.1
     omega
    have hnone:G1 C1.n=none:=by
     cases h:G1 C1.n with
     |none=>rfl
     |some l=>exact absurd (a2.mem _ _ h).2.1 (zj a2.nok)
    have hle:=SMap.le_with (S:=G1) l' hnone
    have e7:capN (capA es.length)=es.length:=by show(2*es.length) / 2=es.length;omega
    have hext:∀(i:Nat) (p:Id×Nat),(os++x)[i]? =some p→(os++x++[(b,off)])[i]? =some p:=get_ext
    refine⟨.slice C1.n 0 es.length (cond (capE cc) cc (capA es.length)) z,C2,G1.with C1.n l',os++x++[(b,off)],?_,?_,SMap.le_trans a3 hle,⟨x++[(b,off)],by simp⟩,?_,?_⟩
    ·have hbw:∀(X:V→MvK),(Id.rec (motive:=fun _=>MvK) (fun _ _ _ _ _ _=>zAS H X b off es.length cc z) (zBd (.slice .over off es.length cc z)) b)=zAS H X b off es.length cc z:=by
      intro X
      cases b with
      |over=>exact m1.elim
      |mk _ _ _ _ _ _=>rfl
     show(Id.rec (motive:=fun _=>MvK) (fun _ _ _ _ _ _=>zAS H (inV H k) b off es.length cc z) (zBd (.slice .over off es.length cc z)) b) C os=_
     rw[hbw]
     show cond (Vam.within (H.get b) off (es.length*z)) (opt .no (fun cells=>wt (yn (inV H k) cells C os) (fun cells H o=>alloc .no H (.arg cells) (zBM b off es.length cc z o))) (zX H b off (es.length*z))) .no=_
     rw[within_of m3 q6.1,zGW m3 (.inr hoff),q3,←hl1]
     show wt (yn (inV H k) (zF ((l1++l2).take l1.length)) C os) (fun cells H o=>alloc .no H (.arg cells) (zBM b off es.length cc z o))=_
     rw[show(l1++l2).take l1.length=l1 by simp,a1]
     show alloc .no C1 (.arg (zF l')) (zBM b off es.length cc z (os++x))=_
     rw[c1]
     unfold zBM
     rw[zAU,zAU,zAU]
    ·refine⟨by rw[c2];exact(Id.next_ok a2.nok).1,c3.trans a2.fz,by rw[c2,(Id.next_ok a2.nok).2,a2.num];simp;omega,?_,?_⟩
     ·intro d l hd
      unfold SMap.with at hd
      split at hd
      ·rename_i e;subst e;cases hd
       exact⟨a2.nok,by rw[c2];exact Before.self a2.nok,by rw[c4 _ a2.nok,if_pos rfl]⟩
      ·obtain⟨r1,r2,r3⟩:=a2.mem d l hd
       exact⟨r1,by rw[c2];exact Before.next a2.nok r2,by rw[c4 d r1,if_neg (by assumption)];exact r3⟩
     ·intro i hi
      by_cases hi':i<(os++x).length
      ·obtain⟨d,l,c,o,mm,mm1,mm2,r1,r2,r3,r4,r5,r6,r7⟩:=a2.all i hi'
       exact⟨d,l,c,o,mm,mm1,mm2,r1,hle _ _ r2,hext _ _ r3,r4,r5,r6,r7.mono hext hle⟩
      ·have:i=(os++x).length:=by simp at hi hi' ⊢;omega
       subst this
       refine⟨C1.n,l',b,off,m,l1,l2,a2.num,SMap.with_self _ _ _,by simp,q2,q6.1,q3,a6.mono hext hle⟩
    ·refine .slice C1.n 0 es.length _ z l' l' [] kd es (SMap.with_self _ _ _) (by simp) (a5.mono φ0.le_refl hle) q5 rfl ⟨Nat.zero_le _,?_,?_⟩ q7
     ·cases hE:capE cc with
      |true=>exact q6.2.1
      |false=>show es.length≤capN (capA es.length);rw[e7];exact Nat.le_refl _
     ·cases kd with
      |ro=>trivial
      |own=>exact absurd rfl h1
      |full=>
       obtain⟨_,_,f1,f2⟩:=q6
       rw[f1];exact⟨f1,f2⟩
    ·exact .slice C1.n b off es.length cc _ z l' m l1 l2 a2.nok rfl (by rw[a2.num];simp) (SMap.with_self _ _ _) q2 q6.1 q3 q6.2.1 hl' (a6.mono hext hle)
def OutRun(C:CH)(os:List (Id×Nat))(S:SMap)(k:Nat)(v:V)(u:U):Prop:=∀{K:CH} {R:SMap} {m:List (Nat×Id)},MemOk R K→S.le R→
 ∃v' K' R',outW C os k v K m=.ok v' K' m∧Grow2 R K R' K'∧VU φ0 R' v' u
theorem zDp{C:CH}{os:List (Id×Nat)}{k:Nat}{G':SMap}{l:List V}{us:List U}(hl:LU φ G' l us)(ih:∀v u,u∈us→VU φ G' v u→OutRun C os S k v u){K:CH}{R:SMap}{m:List (Nat×Id)}(hK:MemOk R K)(hS:S.le R):
  ∃l' K' R',yR (outW C os k) (zF l) K m=.ok (zF l') K' m∧Grow2 R K R' K'∧LU φ0 R' l' us:=by
 induction us generalizing l K R with
 |nil=>cases hl;exact⟨[],K,R,rfl,Grow2.refl hK.nok,.nil⟩
 |cons u us ihu=>
  cases hl with
  |cons x l _ _ h1 h2=>
   obtain⟨v1,K1,R1,a1,a2,a3⟩:=ih x u List.mem_cons_self h1 hK hS (m:=m)
   obtain⟨l2,K2,R2,b1,b2,b3⟩:=ihu h2 (fun v w hw=>ih v w (List.mem_cons_of_mem _ hw)) (hK.grow a2) (SMap.le_trans hS a2.le)
   refine⟨v1::l2,K2,R2,?_,a2.trans b2,.cons _ _ _ _ (a3.mono φ0.le_refl b2.le) b3⟩
   show ye (outW C os k x K m) (fun x H m=>ye (yR (outW C os k) (zF l) H m) (fun l H m=>.ok (.cons x l) H m))=_
   rw[a1]
   show ye (yR (outW C os k) (zF l) K1 m) (fun l H m=>.ok (.cons v1 l) H m)=_
   rw[b1];rfl
theorem out_run{C C':CH}{os:List (Id×Nat)}{G G':SMap}(hC:MemOk G' C')(hI:InS S G C os)(hG:G.le G'):∀(k:Nat) {v:V} {u:U},Dat k u→VU φ G' v u→OutRun C' os S k v u:=by
 intro k
 induction k with
 |zero=>intro v u hd;cases hd
 |succ k ih=>
  intro v u hd hv K R mm hK hS
  cases hd with
  |bool _ b=>cases hv;exact⟨_,K,R,rfl,Grow2.refl hK.nok,.bool _⟩
  |int _ kk n=>
   cases hv
   refine⟨.int kk n,K,R,?_,Grow2.refl hK.nok,.int _ _⟩
   show zCk (fun n=>yw (.int kk n)) n K mm=_
   rw[zAy];rfl
  |str _ q=>cases hv;exact⟨_,K,R,rfl,Grow2.refl hK.nok,.str _⟩
  |agg _ cs h1=>
   obtain⟨l,rfl,hl⟩:=zHq hv
   obtain⟨l',K',R',a1,a2,a3⟩:=zDp (m:=mm) hl (fun v u hu hvu=>ih (h1 u hu) hvu) hK hS
   refine⟨.agg (zF l'),K',R',?_,a2,.agg _ _ a3⟩
   show ye (yR (outW C' os k) (zF l) K mm) (fun l H m=>.ok (.agg l) H m)=_
   rw[a1];rfl
  |lst _ kd z es h1 h2=>
   rcases zFS hv with ⟨rfl,h3|⟨h0,cc0,hcc,h3⟩⟩|⟨b,off,cc,l,l1,l2,q1,q2,q3,q4,q5,q6,q7⟩
   ·subst h3;exact⟨.nils,K,R,rfl,Grow2.refl hK.nok,.nils _ _⟩
   ·subst h3;exact⟨_,K,R,rfl,Grow2.refl hK.nok,.over _ _ _ h0 hcc⟩
   ·subst q1
    obtain⟨m1,m2,m3⟩:=hC.mem b l q2
    have hbw:∀(X:V→BkK),(Id.rec (motive:=fun _=>BkK) (fun _ _ _ _ _ _=>wN C' os X b off es.length cc z) (yw (.slice .over off es.length cc z)) b)=wN C' os X b off es.length cc z:=by
     intro X
     cases b with
     |over=>exact m1.elim
     |mk _ _ _ _ _ _=>rfl
    have hl1:l1.length=es.length*z:=by rw[LU.len q4,zAW q5]
    have hoff:off+es.length*z≤l.length:=by
     have:=congrArg List.length q3
     simp at this
     have:=q6.1
     omega
    by_cases hb:b.num<os.length
    ·
     obtain⟨d,l0,c,o,m,ma,mb,r1,r2,r3,r4,r5,r6,r7⟩:=hI.all b.num hb
     have e:d=b:=Id.wf_inj (hI.mem d l0 r2).1 m1 r1
     subst e
     have:=hG _ _ r2
     rw[q2]at this;cases this
     have o1:=r7.drop off
     rw[q3]at o1
     obtain⟨p1,p2,o2,o3,o4⟩:=o1.split
     have hmal:=r7.len
     refine⟨.slice c (o+off) es.length cc z,K,R,?_,Grow2.refl hK.nok,?_⟩
     ·show(Id.rec (motive:=fun _=>BkK) (fun _ _ _ _ _ _=>wN C' os (outW C' os k) d off es.length cc z) (yw (.slice .over off es.length cc z)) d) K mm=_
      rw[hbw]
      unfold wN
      rw[zGi,r3];rfl
     ·refine .slice c (o+off) es.length cc z m p1 (p2++mb) kd es (hS _ _ r4) ?_ ((Og.lu hG o3 h2 q4).mono φ0.le_refl hS) q5 rfl ⟨?_,q6.2.1,?_⟩ q7
      ·rw[←List.drop_drop,r6,List.drop_append_of_le_length (by omega),o2,List.append_assoc]
      ·have:=congrArg List.length r6
       simp at this
       omega
      ·cases kd with
       |ro=>trivial
       |own=>exact absurd rfl h1
       |full=>exact q6.2.2
    ·obtain⟨l',K1,R1,a1,a2,a3⟩:=zDp (m:=mm) q4 (fun v u hu hvu=>ih (h2 u hu) hvu) hK hS
     have hK1:=hK.grow a2
     obtain⟨K2,c1,c2,c3,c4⟩:=zAp Bk.no hK1.nok (.arg (zF l')) (fun n H=>.ok (.slice n 0 es.length (cond (capE cc) cc (capA es.length)) z) H mm)
     have hnone:R1 K1.n=none:=by
      cases h:R1 K1.n with
      |none=>rfl
      |some l=>exact absurd (hK1.mem _ _ h).2.1 (zj hK1.nok)
     have hle:=SMap.le_with (S:=R1) l' hnone
     have hl':l'.length=es.length*z:=by rw[a3.len,zAW q5]
     have e7:capN (capA es.length)=es.length:=by show(2*es.length) / 2=es.length;omega
     have hg:Grow2 R1 K1 (R1.with K1.n l') K2:=by
      refine⟨by rw[c2];exact(Id.next_ok hK1.nok).1,c3,by rw[c2,(Id.next_ok hK1.nok).2];omega,fun d hd=>by rw[c2];exact Before.next hK1.nok hd,?_,hle,?_⟩
      ·intro d hw hd
       rw[c4 d hw,if_neg];rintro rfl;exact zj hK1.nok hd
      ·intro d x hd hd0
       unfold SMap.with at hd
       split at hd
       ·rename_i e;subst e;cases hd
        exact⟨hK1.nok,zj hK1.nok,by rw[c2];exact Before.self hK1.nok,.inr (by rw[c4 _ hK1.nok,if_pos rfl])⟩
       ·rw[hd0]at hd;cases hd
     refine⟨.slice K1.n 0 es.length (cond (capE cc) cc (capA es.length)) z,K2,R1.with K1.n l',?_,a2.trans hg,?_⟩
     ·show(Id.rec (motive:=fun _=>BkK) (fun _ _ _ _ _ _=>wN C' os (outW C' os k) b off es.length cc z) (yw (.slice .over off es.length cc z)) b) K mm=_
      rw[hbw]
      unfold wN
      rw[zGi,List.getElem?_eq_none (by omega)]
      show cond (Vam.within (C'.get b) off (es.length*z)) (opt .no (fun cells=>ye (yR (outW C' os k) cells K mm) (fun cells H m=>alloc .no H (.arg cells) (fun n H=>.ok (.slice n 0 es.length (cond (capE cc) cc (capA es.length)) z) H m))) (zX C' b off (es.length*z))) .no=_
      rw[within_of m3 q6.1,zGW m3 (.inr hoff),q3,←hl1]
      show ye (yR (outW C' os k) (zF ((l1++l2).take l1.length)) K mm) _=_
      rw[show(l1++l2).take l1.length=l1 by simp,a1]
      exact c1
     ·refine .slice K1.n 0 es.length _ z l' l' [] kd es (SMap.with_self _ _ _) (by simp) (a3.mono φ0.le_refl hle) q5 rfl ⟨Nat.zero_le _,?_,?_⟩ q7
      ·cases hE:capE cc with
       |true=>exact q6.2.1
       |false=>show es.length≤capN (capA es.length);rw[e7];exact Nat.le_refl _
      ·cases kd with
       |ro=>trivial
       |own=>exact absurd rfl h1
       |full=>
        obtain⟨_,_,f1,f2⟩:=q6
        rw[f1];exact⟨f1,f2⟩
end Vam
namespace Vam
open Go
variable {Pr:Prt}{φ φ':BMap}{S S':SMap}{s s':St}{tm tm':TT}{H H':CH}{P:Program}{is:FuncId→Bool}{orc:Known}
inductive UW:UX→UX→Prop where
 |refl (u:U):UW (.u u) (.u u)
 |nil (k k':Kd) (z:Nat):UW (.u (.lst k 0 [])) (.u (.lst k' z []))
 |ro (k:Kd) (z:Nat) (es:List U):UW (.u (.lst k z es)) (.u (.lst .ro z es))
 |lst (k:Kd) (z:Nat) (es es':List U):UW (.l (yW es)) (.l (yW es'))→es.map (fun e=>(zx e).length)=es'.map (fun e=>(zx e).length)→UW (.u (.lst k z es)) (.u (.lst .ro z es'))
 |agg (cs cs':List U):UW (.l cs) (.l cs')→UW (.u (.agg cs)) (.u (.agg cs'))
 |tup (cs cs':List U):UW (.l cs) (.l cs')→UW (.u (.tup cs)) (.u (.tup cs'))
 |junk (u:U):UW (.u u) (.u .junk)
 |fn (f:Nat) (a b a' b':List U):UW (.l a) (.l a')→UW (.l b) (.l b')→UW (.u (.fn f a b)) (.u (.fn f a' b'))
 |lrefl (us:List U):UW (.l us) (.l us)
 |lcons (u u':U) (us us':List U):UW (.u u) (.u u')→UW (.l us) (.l us')→UW (.l (u::us)) (.l (u'::us'))
theorem UW.vu:∀{v:VX} {u:UX},UR φ S v u→∀{u':UX},UW u u'→UR φ S v u':=by
 intro v u h
 induction h with
 |nil=>intro u' hw;cases hw;exact .nil
 |cons x l u us h1 h2 i1 i2=>intro u' hw;cases hw with
  |lrefl=>exact .cons _ _ _ _ h1 h2
  |lcons _ u' _ us' g1 g2=>exact .cons _ _ _ _ (i1 g1) (i2 g2)
 |agg l cs h1 ih=>intro u' hw;cases hw with
  |refl=>exact .agg _ _ h1
  |junk=>exact .junk _
  |agg _ cs' g=>exact .agg _ _ (ih g)
 |tup l cs h1 ih=>intro u' hw;cases hw with
  |refl=>exact .tup _ _ h1
  |junk=>exact .junk _
  |tup _ cs' g=>exact .tup _ _ (ih g)
 |nils k z=>intro u' hw;cases hw with
  |refl=>exact .nils _ _
  |junk=>exact .junk _
  |nil=>exact .nils _ _
  |ro=>exact .nils _ _
  |lst _ _ _ es' g1 g2=>
   have:es'=[]:=by cases es'<;>simp at g2 ⊢
   subst this;exact .nils _ _
 |over k sz cc h0 hk=>intro u' hw;cases hw with
  |refl=>exact .over _ _ _ h0 hk
  |junk=>exact .junk _
  |nil=>exact absurd h0 (Nat.lt_irrefl _)
  |ro=>exact .over _ _ _ h0 (.inl rfl)
  |lst _ _ _ es' g1 g2=>
   have:es'=[]:=by cases es'<;>simp at g2 ⊢
   subst this;exact .over _ _ _ h0 (.inl rfl)
 |slice b off len cc sz l l1 l2 k es h1 h2 h3 h4 h5 h6 h7 ih=>intro u' hw;cases hw with
  |refl=>exact .slice b off len cc sz l l1 l2 k es h1 h2 h3 h4 h5 h6 h7
  |junk=>exact .junk _
  |nil=>exact absurd h7 (Nat.lt_irrefl _)
  |ro=>exact .slice b off len cc sz l l1 l2 _ es h1 h2 h3 h4 h5 ⟨h6.1,h6.2.1,trivial⟩ h7
  |lst _ _ _ es' g1 g2=>
   have hlen:es.length=es'.length:=by have:=congrArg List.length g2;simpa using this
   refine .slice b off len cc sz l l1 l2 _ es' h1 h2 (ih g1) ?_ (by omega) ⟨h6.1,h6.2.1,trivial⟩ h7
   intro e he
   obtain⟨i,hi⟩:=List.getElem?_of_mem he
   have:(es'.map (fun e=>(zx e).length))[i]? =some (zx e).length:=by rw[List.getElem?_map,hi];rfl
   rw[←g2,List.getElem?_map]at this
   cases hq:es[i]? with
   |none=>rw[hq]at this;cases this
   |some e0=>
    rw[hq]at this
    have h8:(zx e0).length=(zx e).length:=by simpa using this
    rw[←h8];exact h4 e0 (List.mem_of_getElem? hq)
 |junk v=>intro u' hw;cases hw<;>exact .junk _
 |bool b=>intro u' hw;cases hw<;>first|exact .bool _|exact .junk _
 |int k n=>intro u' hw;cases hw<;>first|exact .int _ _|exact .junk _
 |str q=>intro u' hw;cases hw<;>first|exact .str _|exact .junk _
 |nilp=>intro u' hw;cases hw<;>first|exact .nilp|exact .junk _
 |box a b off h1=>intro u' hw;cases hw<;>first|exact .box _ _ _ h1|exact .junk _
 |sl a b off len cc sz h1 h2 h3=>intro u' hw;cases hw<;>first|exact .sl _ _ _ _ _ _ h1 h2 h3|exact .junk _
 |eref b l l1 l2 p cs off h1 h2 h3 _=>intro u' hw;cases hw<;>first|exact .eref b l l1 l2 p cs off h1 h2 h3|exact .junk _
 |mp a b h1=>intro u' hw;cases hw<;>first|exact .mp _ _ h1|exact .junk _
 |nilm=>intro u' hw;cases hw<;>first|exact .nilm|exact .junk _
 |fn f A B a b h1 h2 i1 i2=>intro u' hw;cases hw with
  |refl=>exact .fn f A B a b h1 h2
  |junk=>exact .junk _
  |fn _ _ _ a' b' g1 g2=>exact .fn f A B a' b' (i1 g1) (i2 g2)
 |nilf=>intro u' hw;cases hw<;>first|exact .nilf|exact .junk _
 |yld a b h1=>intro u' hw;cases hw<;>first|exact .yld _ _ h1|exact .junk _
def NB(u:U):Prop:=∀(φ:BMap) (S:SMap) (v:V),VU φ S v u→VU φ0 S v u
theorem Dat.nb{k:Nat}{u:U}(h:Dat k u):NB u:=fun _ _ _ hv=>Dat.phi k h hv
structure RetP(P:Program)(is:FuncId→Bool)(orc:Known)(f:FuncId)(args:List U)(r:U):Prop where
 dat:∀u∈args,NB u
 run:∀S H vs,MemOk S H→H.fz≤H.n.num→LU φ0 S vs args→∃n0 v H' S',(∀n,n0≤n→(zO true P is orc n).call f (zF vs) H=.ok v H')∧Grow2 S H S' H'∧VU φ0 S' v r
theorem zY{all l:List Oper}{d:Option Nat}{g:FuncId}{xs:Array Operand}{ts:Array TypeId}{t:TypeId}{p:String}{e:Array Edge}{args:List U}{r:U}{Q:St→Prop}(hd:wj 1024 d=true)(hr:RetP P is orc g args r)
  (hle:UW (.l (zDG s xs.toList)) (.l args)) (k:WpO P is orc all l (s.dst d (dg r)) Q):WpO P is orc all (⟨d,.call ⟨.value (.func g),xs,ts⟩,t,p,e,none⟩::l) s Q:=by
 refine o_op (R:=fun u s1=>u=dg r∧s1=s) hd ?_ fun u s1 h=>by obtain⟨rfl,rfl⟩:=h;exact k
 intro Pr φ S tm H hs
 have hl:=UW.vu (zAH hs xs.toList) hle
 have hl0:LU φ0 S (xs.toList.map (zG tm)) args:=zDM hl fun v u hu hv=>hr.dat u hu _ _ _ hv
 obtain⟨n0,v,H',S',h1,h2,h3⟩:=hr.run S H _ hs.memOk hs.fzn hl0
 obtain⟨g1,g2⟩:=hs.grow h2
 refine⟨v,_,s,H',φ,S',⟨n0,fun n hn=>?_⟩,g1,φ.le_refl,h2.le,g2,?_,NewOk.none (yk _ _),rfl,rfl⟩
 ·show(zO true P is orc n).call g (yY tm xs.toList) H=_
  rw[zBi];exact h1 n hn
 ·exact VU.dg (h3.mono (ψ:=φ) (fun a b h=>by cases h) S'.le_refl)
def St.init(args:List U):St:=⟨fun j=>(args[j]?).getD .junk,[],[]⟩
theorem ofV_get(l:List V)(i:Nat)(t:TT)(h:i+l.length≤1024)(j:Nat)(hj:j<1024):(TT.ofV (zF l) i t).get j=if i≤j then(l[j - i]?).getD (t.get j)else t.get j:=by
 induction l generalizing i t with
 |nil=>
  show t.get j=_
  split<;>simp
 |cons x l ih=>
  simp only[List.length_cons]at h
  show(TT.ofV (zF l) (i+1) (TT.set x t i)).get j=_
  rw[ih (i+1) _ (by omega),TT.get_set x t i j (by omega) hj]
  by_cases h1:i+1≤j
  ·rw[if_pos h1,if_neg (by omega),if_pos (by omega)]
   have:j - i=(j - (i+1))+1:=by omega
   rw[this];simp
  ·rw[if_neg h1]
   by_cases h2:j=i
   ·subst h2;simp
   ·rw[if_neg h2,if_neg (by omega)]
theorem Dat.own{k:Nat}{u:U}(h:Dat k u)(v:V):yU v u=none:=by
 cases h with
 |lst _ kd _ _ h1 _=>cases kd with
  |own=>exact absurd rfl h1
  |_=>rfl
 |_=>rfl
theorem SR.init{G:SMap}{C:CH}{os:List (Id×Nat)}(hI:InS S G C os){l:List V}{args:List U}(hl:LU φ0 G l args)(hd:∀u∈args,Dat 8 u)(hn:args.length≤1024):
  SR ⟨fun _=>False,fun _=>False,fun _=>False,fun _ h=>h⟩ φ0 G (St.init args) (TT.ofV (zF l) 0 .leaf) C:=by
 have hlen:=hl.len
 have hget:∀j,j<1024→(TT.ofV (zF l) 0 .leaf).get j=(l[j]?).getD undef:=by
  intro j hj
  rw[ofV_get l 0 .leaf (by omega) j hj,if_pos (Nat.zero_le _),TT.get_leaf];rfl
 have hfr:∀j,j<1024→VU φ0 G ((TT.ofV (zF l) 0 .leaf).get j) ((St.init args).fr j):=by
  intro j hj
  rw[hget j hj]
  show VU φ0 G _ ((args[j]?).getD .junk)
  cases h:args[j]? with
  |none=>exact .junk _
  |some u=>obtain⟨v,h1,h2⟩:=hl.get h;rw[h1];exact h2
 have hat:∀lo v u,At φ0 (St.init args) (TT.ofV (zF l) 0 .leaf) C lo v u→yU v u=none:=by
  intro lo v u ha
  cases ha with
  |slot i hi=>
   show yU _ ((args[i]?).getD .junk)=none
   cases h:args[i]? with
   |none=>rfl
   |some u=>exact(hd u (List.mem_of_getElem? h)).own _
  |cell a o b cs l e _ _ h1=>cases h1
 refine⟨hI.nok,by rw[hI.fz];exact Nat.zero_le _,hfr,fun a cs h=>(by cases h),fun a b h=>(by cases h),fun a a' b h=>(by cases h),?_,?_,?_,fun p hp=>(by cases hp),fun b hb=>hb.elim,fun b hb=>hb.elim⟩
 ·intro b l hb
  obtain⟨q1,q2,q3⟩:=hI.mem b l hb
  exact⟨q1,q2,fun a h=>(by cases h),.inr q3⟩
 ·intro lo v u b ha hb;rw[hat lo v u ha]at hb;cases hb
 ·intro lo lo' v u v' u' b ha ha' hb;rw[hat lo v u ha]at hb;cases hb
inductive Res1(P:Program)(s:St):ResultVar→U→Prop where
 |tmp (t:Nat):Res1 P s (.tmp t) (s.slot t)
 |cell1 (a:Nat) (t:TypeId) (b off:Nat) (cs:List U) (u:U):s.slot a=.box b off→s.st[b]? =some (.box cs)→shOf P t=.one→cs[off]? =some u→Res1 P s (.cell a t) u
 |cellN (a:Nat) (t:TypeId) (b off n:Nat) (cs:List U):s.slot a=.box b off→s.st[b]? =some (.box cs)→shOf P t=.many n→Nat.ble (off+n) cs.length=true→Res1 P s (.cell a t) (.agg ((cs.drop off).take n))
inductive ResL(P:Program)(s:St):List ResultVar→List U→Prop where
 |nil:ResL P s [] []
 |cons (r:ResultVar) (rs:List ResultVar) (u:U) (us:List U):Res1 P s r u→ResL P s rs us→ResL P s (r::rs) (u::us)
def tupU(us:List U):U:=match us with
 |[u]=>u
 |us=>.tup us
theorem res1_run(hs:SR Pr φ S s tm H){r:ResultVar}{u:U}(h:Res1 P s r u):∃v,zGV P tm H r=some v∧VU φ S v u:=by
 cases h with
 |tmp t=>exact⟨tm.get t,rfl,zK hs (.tmp t)⟩
 |cell1 a t b off cs _ h1 h2 h3 h4=>
  have h5:=zK hs (.tmp a)
  rw[show zQ s (.tmp a)=_ from h1]at h5
  obtain⟨id,g1,g2⟩:=zDj h5
  obtain⟨id',m,ty,q1,q2,q3⟩:=hs.box b cs h2
  rw[g1]at q1;cases q1
  obtain⟨v,w1,w2⟩:=q3.get h4
  refine⟨v,?_,w2⟩
  show zAD none (zBB P t H) (zG tm (.tmp a))=_
  rw[g2]
  exact load_one h3 (.inl ⟨ty,0,[],q2,by decide⟩) w1
 |cellN a t b off n cs h1 h2 h3 h4=>
  have h5:=zK hs (.tmp a)
  rw[show zQ s (.tmp a)=_ from h1]at h5
  obtain⟨id,g1,g2⟩:=zDj h5
  obtain⟨id',m,ty,q1,q2,q3⟩:=hs.box b cs h2
  rw[g1]at q1;cases q1
  refine⟨.agg (zF ((m.drop off).take n)),?_,.agg _ _ ((q3.drop off).take n)⟩
  show zAD none (zBB P t H) (zG tm (.tmp a))=_
  rw[g2]
  exact zGk h3 (.inl ⟨ty,0,[],q2,by decide⟩) (.inr (by rw[q3.len];exact Nat.le_of_ble_eq_true h4))
theorem resL_run(hs:SR Pr φ S s tm H){rs:List ResultVar}{us:List U}(h:ResL P s rs us):∃vs,zCP P tm H rs=some (zF vs)∧LU φ S vs us:=by
 induction h with
 |nil=>exact⟨[],rfl,.nil⟩
 |cons r rs u us h1 _ ih=>
  obtain⟨v,a1,a2⟩:=res1_run hs h1
  obtain⟨vs,b1,b2⟩:=ih
  refine⟨v::vs,?_,.cons _ _ _ _ a2 b2⟩
  show opt none (fun v=>opt none (fun l=>some (V.cons v l)) (zCP P tm H rs)) (zGV P tm H r)=_
  rw[a1]
  show opt none (fun l=>some (V.cons v l)) (zCP P tm H rs)=_
  rw[b1];rfl
theorem results_run(hs:SR Pr φ S s tm H){rs:List ResultVar}{us:List U}(h:ResL P s rs us):∃v,zCO P rs tm H=some v∧VU φ S v (tupU us):=by
 obtain⟨vs,h1,h2⟩:=resL_run hs h
 have e:zCO P rs tm H=zu none (some (.tup .nil)) (fun v l=>zu none (some v) (fun _ _=>some (.tup (zF vs))) l) (zF vs):=by
  unfold zCO;rw[h1];rfl
 rw[e]
 cases h2 with
 |nil=>exact⟨.tup .nil,rfl,.tup [] [] .nil⟩
 |cons x l u us g1 g2=>
  cases g2 with
  |nil=>exact⟨x,rfl,g1⟩
  |cons y l u2 us k1 k2=>exact⟨.tup (zF (x::y::l)),rfl,.tup _ _ (.cons _ _ _ _ g1 (.cons _ _ _ _ k1 k2))⟩
def DatR(r:U):Prop:=Dat 8 r∨∃cs,r=.tup cs∧∀c∈cs,Dat 7 c
theorem zFD{C0:CH}{new:List Id}{rs:List ResultVar}{us:List U}(hs:SR Pr φ S s tm H)(hr:Ran C0 H none new)(hp:∀b∈new, ¬ Pr b)(hu:ResL P s rs us):
  ∃H' v,zFE P rs tm (new++[]) H=.ok v H'∧SR Pr φ S s tm H'∧VU φ S v (tupU us)∧H'.n=H.n∧H'.fz=H.fz∧∀j:Id,j.wf→j ∉ new→H'.get j=H.get j:=by
 obtain⟨H',a1,a2,a3,a4,a5⟩:=dfrs_run new hs hr.nodup fun b hb=>⟨(hr.ok b hb).1,(hr.ok b hb).2.2.2.1,(hr.ok b hb).2.2.2.2,hp b hb⟩
 obtain⟨v,c1,c2⟩:=results_run a2 hu
 refine⟨H',v,?_,a2,c2,a3,a4,a5⟩
 rw[List.append_nil]
 show opt .no (fun H=>zt H (zCO P rs tm H)) (zAN new H)=_
 rw[a1]
 show zt H' (zCO P rs tm H')=_
 rw[c1];rfl
theorem yp{f:FuncId}{nt:Nat}{body:Code}{rs:List ResultVar}{args:List U}{r:U}(hb:bodyOf P f=some (nt,body,rs))(hp:pureFn P f=true)(hi:is f=false)(hn:Nat.ble args.length nt=true)(hnt:Nat.ble nt 1024=true)
  (hd:∀u∈args,Dat 8 u) (hr:DatR r) (hw:Wp P is orc body (St.init args) fun e s=>(e=.normal∨e=.ret)∧∃us,ResL P s rs us∧UW (.u (tupU us)) (.u r)):RetP P is orc f args r:=by
 refine⟨fun u hu=>(hd u hu).nb,fun S H vs hm _ hl=>?_⟩
 have hn:=Nat.le_of_ble_eq_true hn
 have hnt:=Nat.le_of_ble_eq_true hnt
 obtain⟨l,C,G,os,a1,a2,_,_,a5,_⟩:=zEx (f:=inV H 8) hl (fun v u hu hv=>in_run hm 8 (hd u hu) hv) (InS.start S)
 have hs0:=SR.init a2 a5 hd (by omega)
 obtain⟨e,new,s1,tm1,C0,φ1,G1,⟨r0,n0,b1⟩,b2,_,b4,_,b6,us,b7,b8⟩:=hw _ _ _ _ _ [] none f hs0 (fun b hb=>hb.elim) (RoOk.none _ _)
 obtain⟨C1,v,c1,b2,c2,_⟩:=zFD b2 r0 (fun b _ h=>h) b7
 have c3:VU φ1 G1 v r:=UW.vu c2 b8
 have hplain:∀n,n0≤n→yG P (zO true P is orc n) f (zF l) C (nt,body,rs)=.ok v C1:=by
  intro n hn'
  show cond (Nat.ble (lenV (zF l) 0) nt) (zCK P rs ((zO true P is orc n).code body (TT.ofV (zF l) 0 .leaf) [] none f C)) .no=_
  rw[zBV,Nat.add_zero,show Nat.ble l.length nt=true by rw[Nat.ble_eq,a5.len];exact hn,b1 n hn']
  have hf:zFE P rs tm1 (new++[]) C0=.ok v C1:=c1
  rcases b6 with rfl|rfl
  ·exact hf
  ·exact hf
 have hpure:∀n,n0≤n→yc true P (zO true P is orc n) f (zF vs) H (nt,body,rs)=bkR (outW C1 os 8 v H []):=by
  intro n hn'
  unfold yc
  rw[show yn (inV H 8) (zF vs) H0 []=.ok (zF l) C os from a1]
  show R.rec (motive:=fun _=>R) .no (fun v G=>zBr true G os v H) (yG P (zO true P is orc n) f (zF l) C (nt,body,rs))=_
  rw[hplain n hn'];rfl
 have hcall:∀n,n0+1≤n→(zO true P is orc n).call f (zF vs) H=bkR (outW C1 os 8 v H []):=by
  intro n hn'
  cases n with
  |zero=>omega
  |succ n=>
   show opt .no (cond (pureFn P f) (cond (is f) (yg true P orc (zO true P is orc n) f (zF vs) H) (yc true P (zO true P is orc n) f (zF vs) H)) (yG P (zO true P is orc n) f (zF vs) H)) (bodyOf P f)=_
   rw[hb,hp,hi]
   exact hpure n (by omega)
 rcases hr with hr|⟨cs,rfl,hr⟩
 ·obtain⟨v',K',R',d1,d2,d3⟩:=out_run b2.memOk a2 b4 8 hr c3 hm S.le_refl (m:=[])
  exact⟨n0+1,v',K',R',fun n hn'=>by rw[hcall n hn',d1];rfl,d2,d3⟩
 ·obtain⟨l',rfl,hl'⟩:=tup_of c3
  obtain⟨m',K',R',d1,d2,d3⟩:=zDp (C:=C1) (os:=os) (k:=7) (m:=[]) hl' (fun v u hu hv=>out_run b2.memOk a2 b4 7 (hr u hu) hv) hm S.le_refl
  refine⟨n0+1,.tup (zF m'),K',R',fun n hn'=>?_,d2,.tup _ _ d3⟩
  rw[hcall n hn']
  show bkR (ye (yR (outW C1 os 7) (zF l') H []) (fun l H m=>.ok (.tup l) H m))=_
  rw[d1];rfl
theorem ret_known{f:FuncId}{br:Nat×Code×List ResultVar}{v:V}{r:U}(hb:bodyOf P f=some br)(hp:pureFn P f=true)(hi:is f=true)(ho:orc f .nil []=some (v,H0))(hv:∀S,VU φ0 S v r)(hs:∀H,zBr false H0 [] v H=.ok v H:=by intro H;rfl):RetP P is orc f [] r:=by
 refine⟨fun u hu=>(by cases hu),fun S H vs hm _ hl=>?_⟩
 cases hl
 refine⟨1,v,H,S,fun n hn=>?_,Grow2.refl hm.nok,hv S⟩
 cases n with
 |zero=>exact absurd hn (by omega)
 |succ n=>
  show opt .no (cond (pureFn P f) (cond (is f) (yg true P orc (zO true P is orc n) f .nil H) (yc true P (zO true P is orc n) f .nil H)) (yG P (zO true P is orc n) f .nil H)) (bodyOf P f)=_
  rw[hb,hp,hi]
  show opt (zCM true P (zO true P is orc n) f H br .nil H0 []) (fun x=>zBr false x.2 [] x.1 H) (opt none (orc f .nil) (zHG H0))=_
  rw[show zHG H0=some []from rfl]
  show opt (zCM true P (zO true P is orc n) f H br .nil H0 []) (fun x=>zBr false x.2 [] x.1 H) (orc f .nil [])=_
  rw[ho];exact hs H
end Vam
