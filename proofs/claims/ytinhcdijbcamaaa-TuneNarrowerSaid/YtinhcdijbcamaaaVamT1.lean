import Derived.Test.YtinhcdijbcamaaaVamQ
import Derived.Test.YtinhcdijbcamaaaProg
import Derived.KernelRfl
set_option linter.unusedVariables false
set_option linter.unusedSimpArgs false
set_option linter.constructorNameAsVariable false
theorem Vam.Holds.c4{s:Vam.St}{a b c d:Nat}{x y z w:Vam.U}{l:List (Nat×Vam.U)}(h1:s.fr a=x)(h2:s.fr b=y)(h3:s.fr c=z)(h4:s.fr d=w)(h:Vam.Holds s l):Vam.Holds s ((a,x)::(b,y)::(c,z)::(d,w)::l):=.cons h1 (.cons h2 (.cons h3 (.cons h4 h)))
theorem Vam.kQ{P:Go.Program}{is:Go.FuncId→Bool}{orc:Vam.Known}{s:Vam.St}{i:Nat}{ops:Array Go.Oper}{b:Go.Code}{Q:Vam.Ex→Vam.St→Prop}(h:Vam.WpO P is orc ops.toList ops.toList s fun s'=>Vam.Wp P is orc b {s' with al:=[]} Q):Vam.Wp P is orc (.seq (.region i ops false) b) s Q:=Vam.k_seq (Vam.k_region h)
theorem Vam.Holds.c2{s:Vam.St}{a b:Nat}{x y:Vam.U}{l:List (Nat×Vam.U)}(h1:s.fr a=x)(h2:s.fr b=y)(h:Vam.Holds s l):Vam.Holds s ((a,x)::(b,y)::l):=.cons h1 (.cons h2 h)
namespace Go.Proofs.Ytinhcdijbcamaaa.tuneNarrower
abbrev Es:=List (Int×Int)
def Adj(E:Es)(u v:Int):Prop:=(u,v)∈E∨(v,u)∈E
theorem Adj.symm{E:Es}{u v:Int}(h:Adj E u v):Adj E v u:=Or.symm h
inductive Conn(E:Es):Int→Int→Prop where
 |refl (a:Int):Conn E a a
 |step {a b c:Int}:Conn E a b→Adj E b c→Conn E a c
theorem Conn.trans{E:Es}{a b c:Int}(h:Conn E a b)(k:Conn E b c):Conn E a c:=by
 induction k with
 |refl=>exact h
 |step _ ha ih=>exact .step ih ha
theorem Conn.one{E:Es}{a b:Int}(h:Adj E a b):Conn E a b:=.step (.refl a) h
theorem Conn.symm{E:Es}{a b:Int}(h:Conn E a b):Conn E b a:=by
 induction h with
 |refl=>exact .refl _
 |step _ ha ih=>exact(Conn.one ha.symm).trans ih
theorem Conn.mono{E F:Es}(hs:∀e∈E,e∈F){a b:Int}(h:Conn E a b):Conn F a b:=by
 induction h with
 |refl=>exact .refl _
 |step _ ha ih=>exact .step ih (ha.imp (hs _) (hs _))
inductive Acy:Es→Prop where
 |nil:Acy []
 |snoc {E:Es} {a b:Int}:Acy E→ ¬ Conn E a b→Acy (E++[(a,b)])
inductive Way(E:Es):List Int→Prop where
 |one (v:Int):Way E [v]
 |two {u v:Int}:Adj E u v→Way E [v,u]
 |more {v u w:Int} {l:List Int}:Adj E u v→w≠v→Way E (u::w::l)→Way E (v::u::w::l)
theorem Way.conn{E:Es}{l:List Int}(h:Way E l):∀v,l.head? =some v→∀p∈l,Conn E v p:=by
 induction h with
 |one v=>
  intro x hx p hp
  simp at hx hp;subst hx;subst hp;exact .refl _
 |two ha=>
  intro x hx p hp
  simp at hx hp;subst hx
  rcases hp with rfl|rfl
  ·exact .refl _
  ·exact .one ha.symm
 |more ha _ _ ih=>
  intro x hx p hp
  simp at hx;subst hx
  rcases List.mem_cons.1 hp with rfl|hp
  ·exact .refl _
  ·exact(Conn.one ha.symm).trans (ih _ rfl p hp)
theorem wu{E:Es}{a b u v:Int}(h:Adj (E++[(a,b)]) u v):Adj E u v∨(u=a∧v=b)∨(u=b∧v=a):=by
 unfold Adj at*
 simp only[List.mem_append,List.mem_singleton,Prod.mk.injEq]at h
 rcases h with (h|h)|(h|h)
 ·exact .inl (.inl h)
 ·exact .inr (.inl h)
 ·exact .inl (.inr h)
 ·exact .inr (.inr ⟨h.2,h.1⟩)
theorem Way.cut{E:Es}{a b:Int}(hn:∀l,Way E l→l.Nodup)(hab: ¬ Conn E a b){l:List Int}(h:Way (E++[(a,b)]) l):
  Way E l∨∃l1 l2 x y,l=l1++l2∧Way E l1∧Way E l2∧l1.getLast? =some x∧l2.head? =some y∧((x=a∧y=b)∨(x=b∧y=a)):=by
 induction h with
 |one v=>exact .inl (.one v)
 |@two u v ha=>
  rcases wu ha with h|h
  ·exact .inl (.two h)
  ·exact .inr ⟨[v],[u],v,u,rfl,.one v,.one u,rfl,rfl,by rcases h with ⟨rfl,rfl⟩|⟨rfl,rfl⟩<;>simp⟩
 |@more v u w l ha hw h0 ih=>
  rcases ih with ih|⟨l1,l2,x,y,e,w1,w2,hx,hy,hxy⟩
  ·rcases wu ha with h|h
   ·exact .inl (.more h hw ih)
   ·exact .inr ⟨[v],u::w::l,v,u,rfl,.one v,ih,rfl,rfl,by rcases h with ⟨rfl,rfl⟩|⟨rfl,rfl⟩<;>simp⟩
  ·cases l1 with
   |nil=>simp at hx
   |cons u' l1=>
    have eu:u'=u:=by simp at e;exact e.1.symm
    subst eu
    rcases wu ha with h|h
    ·refine .inr ⟨v::u'::l1,l2,x,y,by rw[e];rfl,?_,w2,by simpa using hx,hy,hxy⟩
     cases l1 with
     |nil=>exact .two h
     |cons w' l1=>
      have ew:w'=w:=by simp at e;exact e.1.symm
      subst ew
      exact .more h hw w1
    ·exfalso
     have hc:Conn E u' x:=w1.conn u' rfl x (List.mem_of_getLast? hx)
     have hux:u'=x:=by
      rcases h with ⟨rfl,rfl⟩|⟨rfl,rfl⟩<;>rcases hxy with ⟨rfl,rfl⟩|⟨rfl,rfl⟩
      ·rfl
      ·exact absurd hc hab
      ·exact absurd hc.symm hab
      ·rfl
     subst hux
     have hnd:=hn _ w1
     cases l1 with
     |nil=>
      have hw':w=y:=by
       simp at e
       rw[←e]at hy;simp at hy;exact hy
      apply hw
      rw[hw']
      rcases h with ⟨rfl,rfl⟩|⟨rfl,rfl⟩<;>rcases hxy with ⟨h1,h2⟩|⟨h1,h2⟩
      ·exact h2
      ·exact h2.trans h1
      ·exact h2.trans h1
      ·exact h2
     |cons w' l1=>
      rw[List.getLast?_cons_cons]at hx
      exact(List.nodup_cons.1 hnd).1 (List.mem_of_getLast? hx)
theorem Acy.nodup{E:Es}(h:Acy E):∀l,Way E l→l.Nodup:=by
 induction h with
 |nil=>
  intro l hl
  cases hl with
  |one v=>simp
  |two ha=>rcases ha with h|h<;>cases h
  |more ha _ _=>rcases ha with h|h<;>cases h
 |@snoc E a b _ hab ih=>
  intro l hl
  rcases hl.cut ih hab with hl|⟨l1,l2,x,y,rfl,w1,w2,hx,hy,hxy⟩
  ·exact ih l hl
  ·refine List.nodup_append.2 ⟨ih _ w1,ih _ w2,?_⟩
   rintro p hp q hq rfl
   have c2:Conn E y p:=w2.conn y hy p hq
   have c1:Conn E x p:=by
    cases l1 with
    |nil=>cases hp
    |cons v l1=>
     exact(w1.conn v rfl x (List.mem_of_getLast? hx)).symm.trans (w1.conn v rfl p hp)
   rcases hxy with ⟨rfl,rfl⟩|⟨rfl,rfl⟩
   ·exact hab (c1.trans c2.symm)
   ·exact hab (c2.trans c1.symm)
theorem Way.glue{E:Es}:∀(l1:List Int) (x:Int) (z:List Int),Way E (x::l1)→Way E (x::z)→(∀p q,l1.head? =some p→z.head? =some q→p≠q)→Way E (l1.reverse++x::z):=by
 intro l1
 induction l1 with
 |nil=>intro x z _ h _;exact h
 |cons y l1 ih=>
  intro x z h1 h2 hne
  rw[List.reverse_cons,List.append_assoc]
  have hyx:Adj E x y:=by
   cases h1 with
   |two ha=>exact ha.symm
   |more ha _ _=>exact ha.symm
  have hz:Way E (y::x::z):=by
   cases z with
   |nil=>exact .two hyx
   |cons q z=>exact .more hyx (fun e=>hne y q rfl rfl e.symm) h2
  refine ih y (x::z) ?_ hz ?_
  ·cases h1 with
   |two ha=>exact .one _
   |more _ _ h=>exact h
  ·intro p q hp hq
   simp at hq;subst hq
   cases h1 with
   |two ha=>simp at hp
   |more _ hw _=>simp at hp;subst hp;exact hw
theorem Acy.uniq{E:Es}(h:Acy E):∀(l1 l2:List Int) (v r:Int),Way E (v::l1)→Way E (v::l2)→(v::l1).getLast? =some r→(v::l2).getLast? =some r→l1=l2:=by
 intro l1
 induction l1 with
 |nil=>
  intro l2 v r _ h2 e1 e2
  cases l2 with
  |nil=>rfl
  |cons q l2=>
   exfalso
   simp at e1;subst e1
   rw[List.getLast?_cons_cons]at e2
   exact(List.nodup_cons.1 (h.nodup _ h2)).1 (List.mem_of_getLast? e2)
 |cons p l1 ih=>
  intro l2 v r h1 h2 e1 e2
  cases l2 with
  |nil=>
   exfalso
   simp at e2;subst e2
   rw[List.getLast?_cons_cons]at e1
   exact(List.nodup_cons.1 (h.nodup _ h1)).1 (List.mem_of_getLast? e1)
  |cons q l2=>
   rw[List.getLast?_cons_cons]at e1 e2
   by_cases hpq:p=q
   ·subst hpq
    have k1:Way E (p::l1):=by cases h1 with
     |two _=>exact .one _
     |more _ _ h=>exact h
    have k2:Way E (p::l2):=by cases h2 with
     |two _=>exact .one _
     |more _ _ h=>exact h
    rw[ih l2 p r k1 k2 e1 e2]
   ·exfalso
    have hg:=Way.glue (p::l1) v (q::l2) h1 h2 (fun a b ha hb=>by simp at ha hb;subst ha;subst hb;exact hpq)
    have hd:=h.nodup _ hg
    have d:=(List.nodup_append.1 hd).2.2
    exact d r (by rw[List.mem_reverse];exact List.mem_of_getLast? e1) r (List.mem_cons_of_mem _ (List.mem_of_getLast? e2)) rfl
theorem wZ:∀(n:Nat) (l:List Int),l.Nodup→(∀x∈l,0≤x∧x<n)→l.length≤n:=by
 intro n
 induction n with
 |zero=>
  intro l _ h
  cases l with
  |nil=>exact Nat.le_refl 0
  |cons x l=>have:=h x List.mem_cons_self;omega
 |succ n ih=>
  intro l hd h
  have h1:=ih (l.erase (n:Int)) (hd.erase _) (fun x hx=>by
   have h2:=h x (List.mem_of_mem_erase hx)
   have h3:x≠(n:Int):=fun e=>by subst e;exact(List.Nodup.not_mem_erase hd) hx
   omega)
  have h4:=List.length_erase_of_mem (a:=(n:Int)) (l:=l)
  by_cases hm:(n:Int)∈l
  ·rw[h4 hm]at h1;omega
  ·rw[List.erase_of_not_mem hm]at h1;omega
theorem Conn.way{E:Es}{r v:Int}(h:Conn E r v):∃l,Way E (v::l)∧(v::l).getLast? =some r:=by
 induction h with
 |refl=>exact⟨[],.one _,rfl⟩
 |@step b c _ ha ih=>
  obtain⟨l,h1,h2⟩:=ih
  cases l with
  |nil=>exact⟨[b],.two ha,by rw[List.getLast?_cons_cons];exact h2⟩
  |cons p l=>
   by_cases hp:p=c
   ·subst hp
    refine⟨l,?_,by rw[List.getLast?_cons_cons]at h2;exact h2⟩
    cases h1 with
    |two _=>exact .one _
    |more _ _ h=>exact h
   ·exact⟨b::p::l,.more ha hp h1,by rw[List.getLast?_cons_cons];exact h2⟩
end Go.Proofs.Ytinhcdijbcamaaa.tuneNarrower
namespace Go.Proofs.Ytinhcdijbcamaaa.tuneNarrower
structure Jn where
 kd:Int
 one:Int
 two:Int
 lo:Int
 hi:Int
def bkI(k:Int):Int:=if k=0 then 1 else if k=1 then 0 else if k=2 then 3 else 2
def Jn.bk(j:Jn):Jn:=⟨bkI j.kd,j.two,j.one,j.lo,j.hi⟩
def upI(n b:Int):Int:=(n+b - 1).tdiv b
def Jn.alo(j:Jn)(x:Int):Int:=if j.kd=0 then upI (j.lo*x) 1000 else if j.kd=1 then upI (1000*x) j.hi else if j.kd=2 then x+j.lo else x - j.hi
def Jn.ahi(j:Jn)(x:Int):Int:=if j.kd=0 then(j.hi*x).tdiv 1000 else if j.kd=1 then(1000*x).tdiv j.lo else if j.kd=2 then x+j.hi else x - j.lo
def Fit(j:Jn)(x y:Int):Prop:=j.alo x≤y∧y≤j.ahi x
instance (j:Jn)(x y:Int):Decidable (Fit j x y):=by unfold Fit;infer_instance
def edJ(j:Jn):Int×Int:=(j.one,j.two)
abbrev EJ(J:List Jn):Es:=J.map edJ
def see1(v:Int)(j:Jn):Option Jn:=if(if j.two=v then j.bk else j).one=v then some (if j.two=v then j.bk else j)else none
def see(J:List Jn)(v:Int):List Jn:=J.filterMap (see1 v)
def rgI(lo hi:Int):List Int:=(List.range (hi+1 - lo).toNat).map fun i:Nat=>lo+i
theorem uM{lo hi x:Int}:x∈rgI lo hi↔lo≤x∧x≤hi:=by
 unfold rgI
 rw[List.mem_map]
 constructor
 ·rintro⟨i,h,rfl⟩
  have:=List.mem_range.1 h
  omega
 ·intro h
  exact⟨(x - lo).toNat,List.mem_range.2 (by omega),by omega⟩
theorem wD{J:List Jn}{v:Int}{k:Jn}:k∈see J v↔ ∃j∈J,(k=j∧j.one=v∧j.two≠v)∨(k=j.bk∧j.two=v):=by
 unfold see see1
 rw[List.mem_filterMap]
 constructor
 ·rintro⟨j,hj,h⟩
  refine⟨j,hj,?_⟩
  by_cases h1:j.two=v
  ·simp only[h1,if_true]at h
   right
   split at h
   ·cases h;exact⟨rfl,h1⟩
   ·cases h
  ·simp only[h1,if_false]at h
   left
   split at h
   ·cases h;exact⟨rfl,by assumption,h1⟩
   ·cases h
 ·rintro⟨j,hj,⟨rfl,h1,h2⟩|⟨rfl,h1⟩⟩
  ·exact⟨k,hj,by simp[h1,h2]⟩
  ·exact⟨j,hj,by simp[h1,Jn.bk]⟩
theorem wV{J:List Jn}{v:Int}{k:Jn}(h:k∈see J v):Adj (EJ J) v k.two:=by
 obtain⟨j,hj,⟨rfl,h1,_⟩|⟨rfl,h1⟩⟩:=wD.1 h
 ·left;rw[←h1];exact List.mem_map.2 ⟨k,hj,rfl⟩
 ·right;rw[←h1];exact List.mem_map.2 ⟨j,hj,rfl⟩
def canF(J:List Jn)(hl hh:Int→Int):Nat→Int→Int→Int→Bool
 |0,_,_,_=>true
 |n+1,v,x,fr=>(see J v).all fun k=>decide (k.two=fr)||(rgI (max (k.alo x) (hl k.two)) (min (k.ahi x) (hh k.two))).any fun y=>canF J hl hh n k.two y v
structure JOk(J:List Jn):Prop where
 acy:Acy (EJ J)
 rng:∀j∈J,(0≤j.one∧j.one<8)∧(0≤j.two∧j.two<8)
 sym:∀j∈J,∀x y,1≤x→1≤y→(Fit j x y↔Fit j.bk y x)
variable {J:List Jn}{hl hh:Int→Int}
theorem JOk.adj_rng(h:JOk J){u v:Int}(ha:Adj (EJ J) u v):(0≤u∧u<8)∧(0≤v∧v<8):=by
 rcases ha with ha|ha
 ·obtain⟨j,hj,e⟩:=List.mem_map.1 ha
  cases e;exact h.rng j hj
 ·obtain⟨j,hj,e⟩:=List.mem_map.1 ha
  cases e;exact⟨(h.rng j hj).2,(h.rng j hj).1⟩
theorem JOk.way_rng(h:JOk J){l:List Int}(hw:Way (EJ J) l):∀v,l.head? =some v→0≤v∧v<8→∀x∈l,0≤x∧x<8:=by
 induction hw with
 |one v=>
  intro u hu hv x hx
  simp at hu hx;subst hu;subst hx;exact hv
 |two ha=>
  intro u hu hv x hx
  simp at hu hx;subst hu
  rcases hx with rfl|rfl
  ·exact hv
  ·exact(h.adj_rng ha).1
 |more ha _ _ ih=>
  intro u hu hv x hx
  simp at hu;subst hu
  rcases List.mem_cons.1 hx with rfl|hx
  ·exact hv
  ·exact ih _ rfl (h.adj_rng ha).1 x hx
theorem JOk.way_len(h:JOk J){v:Int}{l:List Int}(hw:Way (EJ J) (v::l))(hv:0≤v∧v<8):l.length≤7:=by
 have:=wZ 8 _ (h.acy.nodup _ hw) (h.way_rng hw v rfl hv)
 simp at this;omega
def frm(l:List Int):Int:=l.headD (-1)
theorem JOk.next(h:JOk J){v:Int}{l:List Int}(hw:Way (EJ J) (v::l)){k:Jn}(hk:k∈see J v)(hf:k.two≠frm l):Way (EJ J) (k.two::v::l):=by
 cases l with
 |nil=>exact .two (wV hk)
 |cons w l=>exact .more (wV hk) (fun e=>hf e.symm) hw
theorem JOk.stab(h:JOk J):∀(n m:Nat) (v x:Int) (l:List Int),Way (EJ J) (v::l)→0≤v∧v<8→8≤n+l.length→8≤m+l.length→canF J hl hh n v x (frm l)=canF J hl hh m v x (frm l):=by
 intro n
 induction n with
 |zero=>
  intro m v x l hw hv hn _
  have:=h.way_len hw hv
  omega
 |succ n ih=>
  intro m v x l hw hv hn hm
  have hlen:=h.way_len hw hv
  cases m with
  |zero=>omega
  |succ m=>
   unfold canF
   rw[Bool.eq_iff_iff,List.all_eq_true,List.all_eq_true]
   refine forall_congr' fun k=>forall_congr' fun hk=>?_
   by_cases hf:k.two=frm l
   ·simp[hf]
   ·have hn2:=h.next hw hk hf
    have hv2:=(h.adj_rng (wV hk)).2
    simp only[hf,decide_false,Bool.false_or]
    rw[List.any_eq_true,List.any_eq_true]
    refine exists_congr fun y=>and_congr_right fun _=>?_
    have:=ih m k.two y (v::l) hn2 hv2 (by simp;omega) (by simp;omega)
    rw[show frm (v::l)=v from rfl]at this
    rw[this]
theorem JOk.eqn(h:JOk J){v x:Int}{l:List Int}(hw:Way (EJ J) (v::l))(hv:0≤v∧v<8):
  canF J hl hh 8 v x (frm l)=(see J v).all fun k=>decide (k.two=frm l)||(rgI (max (k.alo x) (hl k.two)) (min (k.ahi x) (hh k.two))).any fun y=>canF J hl hh 8 k.two y v:=by
 rw[h.stab 8 9 v x l hw hv (by omega) (by omega)]
 rfl
theorem JOk.unq(h:JOk J):∀j∈J,∀j'∈J,(j.one=j'.one∧j.two=j'.two)∨(j.one=j'.two∧j.two=j'.one)→j=j':=by
 have key:∀E,Acy E→∀J:List Jn,E=EJ J→∀j∈J,∀j'∈J,(j.one=j'.one∧j.two=j'.two)∨(j.one=j'.two∧j.two=j'.one)→j=j':=by
  intro E hE
  induction hE with
  |nil=>
   intro J hJ j hj
   have:J=[]:=by cases J with
    |nil=>rfl
    |cons=>cases hJ
   subst this;cases hj
  |@snoc E a b _ hab ih=>
   intro J hJ j hj j' hj' hd
   obtain⟨J1,J2,rfl,h1,h2⟩:=List.map_eq_append_iff.1 hJ.symm
   obtain⟨j0,rfl,h3⟩:∃j0,J2=[j0]∧edJ j0=(a,b):=by
    cases J2 with
    |nil=>cases h2
    |cons j0 J2=>
     cases J2 with
     |nil=>simp at h2;exact⟨j0,rfl,h2⟩
     |cons _ _=>simp at h2
   have no:∀j∈J1, ¬ ((j.one=j0.one∧j.two=j0.two)∨(j.one=j0.two∧j.two=j0.one)):=by
    intro j hj hd
    apply hab
    have hm:edJ j∈E:=by rw[←h1];exact List.mem_map.2 ⟨j,hj,rfl⟩
    unfold edJ at hm h3
    cases h3
    rcases hd with ⟨e1,e2⟩|⟨e1,e2⟩
    ·rw[e1,e2]at hm;exact .one (.inl hm)
    ·rw[e1,e2]at hm;exact .one (.inr hm)
   rcases List.mem_append.1 hj with g1|g1<;>rcases List.mem_append.1 hj' with g2|g2
   ·exact ih J1 h1.symm j g1 j' g2 hd
   ·rcases List.mem_singleton.1 g2 with rfl;exact absurd hd (no j g1)
   ·rcases List.mem_singleton.1 g1 with rfl
    exact absurd (by rcases hd with ⟨a,b⟩|⟨a,b⟩<;>simp[a,b]) (no j' g2)
   ·rcases List.mem_singleton.1 g1 with rfl;rcases List.mem_singleton.1 g2 with rfl;rfl
 exact key _ h.acy J rfl
theorem JOk.see_unq(h:JOk J){v:Int}{k k':Jn}(hk:k∈see J v)(hk':k'∈see J v)(e:k.two=k'.two):k=k':=by
 obtain⟨j,hj,h1⟩:=wD.1 hk
 obtain⟨j',hj',h2⟩:=wD.1 hk'
 have no:∀j∈J,j.one≠j.two:=by
  intro j hj e
  have hw:Way (EJ J) [j.one,j.two]:=.two (.inr (List.mem_map.2 ⟨j,hj,rfl⟩))
  have:=h.acy.nodup _ hw
  simp[e]at this
 rcases h1 with ⟨rfl,a1,a2⟩|⟨rfl,a1⟩<;>rcases h2 with ⟨rfl,b1,b2⟩|⟨rfl,b1⟩
 ·exact h.unq _ hj _ hj' (.inl ⟨a1.trans b1.symm,e⟩)
 ·have e:k.two=j'.one:=e
  have:=h.unq _ hj _ hj' (.inr ⟨a1.trans b1.symm,e⟩)
  subst this
  exact absurd (a1.trans b1.symm) (no _ hj)
 ·have e:j.one=k'.two:=e
  have:=h.unq _ hj _ hj' (.inr ⟨e,a1.trans b1.symm⟩)
  subst this
  exact absurd (b1.trans a1.symm) (no _ hj)
 ·have e:j.one=j'.one:=e
  rw[h.unq _ hj _ hj' (.inl ⟨e,a1.trans b1.symm⟩)]
theorem canF_of{C:Int→Prop}(hC:∀u v,C u→Adj (EJ J) u v→C v){p:Int→Int}(hp:∀v,C v→hl v≤p v∧p v≤hh v)(hf:∀v,C v→∀k∈see J v,Fit k (p v) (p k.two)):
  ∀(n:Nat) (v fr:Int),C v→canF J hl hh n v (p v) fr=true:=by
 intro n
 induction n with
 |zero=>intro _ _ _;rfl
 |succ n ih=>
  intro v fr hv
  unfold canF
  rw[List.all_eq_true]
  intro k hk
  rw[Bool.or_eq_true]
  right
  have h2:=hC _ _ hv (wV hk)
  have h3:=hf v hv k hk
  have h4:=hp _ h2
  rw[List.any_eq_true]
  exact⟨p k.two,uM.2 ⟨Int.max_le.2 ⟨h3.1,h4.1⟩,Int.le_min.2 ⟨h3.2,h4.2⟩⟩,ih k.two v h2⟩
open Classical in
noncomputable def wj(J:List Jn)(hl hh:Int→Int)(x:Int):List Int→Int
 |[]=>0
 |[_]=>x
 |v::u::l=>if h:∃y,(∀k∈see J u,k.two=v→Fit k (wj J hl hh x (u::l)) y)∧hl v≤y∧y≤hh v∧canF J hl hh 8 v y u=true then h.choose else 0
theorem JOk.pick(h:JOk J){r x:Int}(hr:0≤r∧r<8)(hx:canF J hl hh 8 r x (-1)=true):∀(l:List Int) (v:Int),Way (EJ J) (v::l)→(v::l).getLast? =some r→
  canF J hl hh 8 v (wj J hl hh x (v::l)) (frm l)=true∧(∀u m,l=u::m→(∀k∈see J u,k.two=v→Fit k (wj J hl hh x (u::m)) (wj J hl hh x (v::l)))∧hl v≤wj J hl hh x (v::l)∧wj J hl hh x (v::l)≤hh v):=by
 intro l
 induction l with
 |nil=>
  intro v _ e
  simp at e;subst e
  exact⟨hx,fun u m e=>by cases e⟩
 |cons u l ih=>
  intro v hw e
  rw[List.getLast?_cons_cons]at e
  have hw2:Way (EJ J) (u::l):=by cases hw with
   |two _=>exact .one _
   |more _ _ h=>exact h
  have ha:Adj (EJ J) u v:=by cases hw with
   |two h=>exact h
   |more h _ _=>exact h
  obtain⟨h1,_⟩:=ih u hw2 e
  have hu:=(h.adj_rng ha).1
  have hne:v≠frm l:=by
   cases hw with
   |two _=>unfold frm;have:=(h.adj_rng ha).2;simp;omega
   |more _ hn _=>exact fun e=>hn e.symm
  rw[h.eqn hw2 hu,List.all_eq_true]at h1
  have hex:∃y,(∀k∈see J u,k.two=v→Fit k (wj J hl hh x (u::l)) y)∧hl v≤y∧y≤hh v∧canF J hl hh 8 v y u=true:=by
   obtain⟨k,hk,hkv⟩:∃k∈see J u,k.two=v:=by
    rcases ha with ha|ha
    ·obtain⟨j,hj,e⟩:=List.mem_map.1 ha
     cases e
     by_cases hjj:j.two=j.one
     ·refine⟨j.bk,wD.2 ⟨j,hj,.inr ⟨rfl,hjj⟩⟩,?_⟩
      show j.one=j.two;exact hjj.symm
     ·exact⟨j,wD.2 ⟨j,hj,.inl ⟨rfl,rfl,hjj⟩⟩,rfl⟩
    ·obtain⟨j,hj,e⟩:=List.mem_map.1 ha
     cases e
     exact⟨j.bk,wD.2 ⟨j,hj,.inr ⟨rfl,rfl⟩⟩,rfl⟩
   have h2:=h1 k hk
   rw[Bool.or_eq_true]at h2
   rcases h2 with h2|h2
   ·exact absurd (hkv.symm.trans (of_decide_eq_true h2)) hne
   ·obtain⟨y,hy,hc⟩:=List.any_eq_true.1 h2
    rw[hkv]at hy hc
    have hy:=uM.1 hy
    refine⟨y,fun k' hk' e'=>?_,by omega,by omega,hc⟩
    rw[h.see_unq hk' hk (e'.trans hkv.symm)]
    exact⟨by omega,by omega⟩
  have hs:=hex.choose_spec
  have hp:wj J hl hh x (v::u::l)=hex.choose:=by
   rw[wj];exact dif_pos hex
  rw[hp]
  refine⟨hs.2.2.2,fun u' m e=>?_⟩
  cases e
  exact⟨hs.1,hs.2.1,hs.2.2.1⟩
open Classical in
theorem JOk.found(h:JOk J){r x:Int}(hr:0≤r∧r<8)(hx1:1≤x)(hpos:∀v,1≤hl v)(hx:canF J hl hh 8 r x (-1)=true):
  ∃p:Int→Int,p r=x∧(∀v,Conn (EJ J) r v→v≠r→hl v≤p v∧p v≤hh v)∧∀j∈J,Conn (EJ J) r j.one→Fit j (p j.one) (p j.two):=by
 have hex:∀v,Conn (EJ J) r v→∃l,Way (EJ J) (v::l)∧(v::l).getLast? =some r:=fun v hv=>hv.way
 let p:Int→Int:=fun v=>if hv:Conn (EJ J) r v then wj J hl hh x (v::(hex v hv).choose)else 0
 have pe:∀v l,Way (EJ J) (v::l)→(v::l).getLast? =some r→p v=wj J hl hh x (v::l):=by
  intro v l hw e
  have hv:Conn (EJ J) r v:=(hw.conn v rfl r (List.mem_of_getLast? e)).symm
  show(if hv:Conn (EJ J) r v then wj J hl hh x (v::(hex v hv).choose)else 0)=_
  rw[dif_pos hv]
  have hs:=(hex v hv).choose_spec
  rw[h.acy.uniq _ l v r hs.1 hw hs.2 e]
 have pr:p r=x:=by rw[pe r [] (.one r) rfl,wj]
 have inH:∀v,Conn (EJ J) r v→v≠r→hl v≤p v∧p v≤hh v:=by
  intro v hv hne
  obtain⟨l,hw,e⟩:=hex v hv
  cases l with
  |nil=>simp at e;exact absurd e hne
  |cons u l=>
   rw[pe v _ hw e]
   exact((h.pick hr hx _ v hw e).2 u l rfl).2
 have pos:∀v,Conn (EJ J) r v→1≤p v:=by
  intro v hv
  by_cases e:v=r
  ·rw[e,pr];exact hx1
  ·have:=(inH v hv e).1
   have:=hpos v
   omega
 refine⟨p,pr,inH,fun j hj hc=>?_⟩
 have hadj:Adj (EJ J) j.one j.two:=.inl (List.mem_map.2 ⟨j,hj,rfl⟩)
 have hc2:Conn (EJ J) r j.two:=.step hc hadj
 have hne:j.two≠j.one:=by
  intro e
  have hw:Way (EJ J) [j.one,j.two]:=.two hadj.symm
  have:=h.acy.nodup _ hw
  simp[e]at this
 obtain⟨l,hw,e⟩:=hex _ hc
 by_cases hb:l.head? =some j.two
 ·cases l with
  |nil=>simp at hb
  |cons w l=>
   simp at hb;subst hb
   rw[List.getLast?_cons_cons]at e
   have hw2:Way (EJ J) (j.two::l):=by cases hw with
    |two _=>exact .one _
    |more _ _ h=>exact h
   have hk:=((h.pick hr hx _ j.one hw (by rw[List.getLast?_cons_cons];exact e)).2 _ _ rfl).1 j.bk (wD.2 ⟨j,hj,.inr ⟨rfl,rfl⟩⟩) rfl
   rw[←pe _ _ hw2 e,←pe _ _ hw (by rw[List.getLast?_cons_cons];exact e)]at hk
   exact(h.sym j hj _ _ (pos _ hc) (pos _ hc2)).2 hk
 ·have hw2:Way (EJ J) (j.two::j.one::l):=by
   cases l with
   |nil=>exact .two hadj
   |cons w l=>exact .more hadj (fun e=>hb (by simp[e])) hw
  have e2:(j.two::j.one::l).getLast? =some r:=by rw[List.getLast?_cons_cons];exact e
  have hk:=((h.pick hr hx _ j.two hw2 e2).2 _ _ rfl).1 j (wD.2 ⟨j,hj,.inl ⟨rfl,rfl,hne⟩⟩) rfl
  rw[←pe _ _ hw e,←pe _ _ hw2 e2]at hk
  exact hk
end Go.Proofs.Ytinhcdijbcamaaa.tuneNarrower
namespace Go.Proofs.Ytinhcdijbcamaaa.tuneNarrower
def Tun(J:List Jn)(hl hh:Int→Int)(n:Nat)(p:Int→Int):Prop:=(∀v:Int,0≤v→v<n→hl v≤p v∧p v≤hh v)∧∀j∈J,Fit j (p j.one) (p j.two)
structure JN(J:List Jn)(hl:Int→Int)(n:Nat):Prop where
 ok:JOk J
 le:n≤8
 lt:∀j∈J,j.one<n∧j.two<n
 pos:∀v,1≤hl v
variable {J:List Jn}{hl hh:Int→Int}{n:Nat}
theorem Tun.see(h:JN J hl n){p:Int→Int}(hp:Tun J hl hh n p):∀v,(0≤v∧v<(n:Int))→∀k∈Go.Proofs.Ytinhcdijbcamaaa.tuneNarrower.see J v,Fit k (p v) (p k.two):=by
 intro v hv k hk
 obtain⟨j,hj,⟨rfl,h1,h2⟩|⟨rfl,h1⟩⟩:=wD.1 hk
 ·rw[←h1];exact hp.2 _ hj
 ·have:=h.ok.rng j hj
  have hl2:=h.lt j hj
  have a:=hp.1 j.one (by omega) (by omega)
  have b:=hp.1 j.two (by omega) (by omega)
  have:=h.pos j.one
  have:=h.pos j.two
  have hf:=(h.ok.sym j hj _ _ (by omega) (by omega)).1 (hp.2 _ hj)
  rw[h1]at hf
  exact hf
theorem JN.adj(h:JN J hl n){u v:Int}(ha:Adj (EJ J) u v):(0≤v∧v<(n:Int)):=by
 rcases ha with ha|ha
 ·obtain⟨j,hj,e⟩:=List.mem_map.1 ha
  cases e;exact⟨(h.ok.rng j hj).2.1,(h.lt j hj).2⟩
 ·obtain⟨j,hj,e⟩:=List.mem_map.1 ha
  cases e;exact⟨(h.ok.rng j hj).1.1,(h.lt j hj).1⟩
theorem JN.conn(h:JN J hl n){u v:Int}(hu:0≤u∧u<(n:Int))(ha:Conn (EJ J) u v):(0≤v∧v<(n:Int)):=by
 induction ha with
 |refl=>exact hu
 |step _ hb _=>exact h.adj hb
theorem Tun.can(h:JN J hl n){p:Int→Int}(hp:Tun J hl hh n p){v:Int}(hv:0≤v∧v<(n:Int))(m:Nat)(fr:Int):canF J hl hh m v (p v) fr=true:=
 canF_of (C:=fun v=>0≤v∧v<(n:Int)) (fun u v _ ha=>h.adj ha) (fun v hv=>hp.1 v hv.1 hv.2) (hp.see h) m v fr hv
open Classical in
theorem JN.tunable(h:JN J hl n)(hc:∀v,0≤v→v<(n:Int)→∃x,hl v≤x∧x≤hh v∧canF J hl hh 8 v x (-1)=true):∃p,Tun J hl hh n p:=by
 have hs:∀v,0≤v→v<(n:Int)→∃p:Int→Int,(∀w,Conn (EJ J) v w→hl w≤p w∧p w≤hh w)∧∀j∈J,Conn (EJ J) v j.one→Fit j (p j.one) (p j.two):=by
  intro v h0 h1
  obtain⟨x,a,b,c⟩:=hc v h0 h1
  have hle:=h.le
  have hpos:=h.pos v
  obtain⟨p,e,q1,q2⟩:=h.ok.found (by omega) (by omega) h.pos c
  refine⟨p,fun w hw=>?_,q2⟩
  by_cases hwv:w=v
  ·subst hwv;rw[e];exact⟨a,b⟩
  ·exact q1 w hw hwv
 have hex:∀v:Int,∃r:Nat,Conn (EJ J) v (r:Int)∨v<0:=fun v=>by
  by_cases hv:v<0
  ·exact⟨0,.inr hv⟩
  ·exact⟨v.toNat,.inl (by rw[show((v.toNat:Nat):Int)=v by omega];exact .refl v)⟩
 have hrep:∀v:Int,0≤v→∃r:Nat,Conn (EJ J) v (r:Int)∧∀m:Nat,Conn (EJ J) v (m:Int)→r≤m:=by
  intro v hv
  have key:∀k:Nat,∀r:Nat,r≤k→Conn (EJ J) v (r:Int)→∃r:Nat,Conn (EJ J) v (r:Int)∧∀m:Nat,Conn (EJ J) v (m:Int)→r≤m:=by
   intro k
   induction k with
   |zero=>intro r hr hcn;exact⟨r,hcn,fun m _=>by omega⟩
   |succ k ih=>
    intro r hr hcn
    by_cases hm:∃m:Nat,m<r∧Conn (EJ J) v (m:Int)
    ·obtain⟨m,h1,h2⟩:=hm
     exact ih m (by omega) h2
    ·exact⟨r,hcn,fun m hcm=>by
      by_cases hlt:m<r
      ·exact absurd ⟨m,hlt,hcm⟩ hm
      ·omega⟩
  exact key v.toNat v.toNat (Nat.le_refl _) (by rw[show((v.toNat:Nat):Int)=v by omega];exact .refl v)
 let rep:Int→Int:=fun v=>if hv:0≤v then((hrep v hv).choose:Int)else 0
 have rep_conn:∀v,0≤v→Conn (EJ J) v (rep v):=fun v hv=>by
  show Conn _ v (if hv:0≤v then((hrep v hv).choose:Int)else 0)
  rw[dif_pos hv];exact(hrep v hv).choose_spec.1
 have rep_eq:∀u v,0≤u→0≤v→Conn (EJ J) u v→rep u=rep v:=fun u v hu hv huv=>by
  show(if hv:0≤u then((hrep u hv).choose:Int)else 0)=(if hv:0≤v then((hrep v hv).choose:Int)else 0)
  rw[dif_pos hu,dif_pos hv]
  have a:=(hrep u hu).choose_spec
  have b:=(hrep v hv).choose_spec
  have c:=a.2 _ (huv.trans b.1)
  have d:=b.2 _ (huv.symm.trans a.1)
  omega
 let sol:Int→Int→Int:=fun r=>if hr:0≤r∧r<(n:Int)then(hs r hr.1 hr.2).choose else fun _=>0
 have sol_spec:∀r,0≤r→r<(n:Int)→(∀w,Conn (EJ J) r w→hl w≤sol r w∧sol r w≤hh w)∧∀j∈J,Conn (EJ J) r j.one→Fit j (sol r j.one) (sol r j.two):=fun r h0 h1=>by
  have:sol r=(hs r h0 h1).choose:=dif_pos ⟨h0,h1⟩
  rw[this];exact(hs r h0 h1).choose_spec
 refine⟨fun v=>sol (rep v) v,fun v h0 h1=>?_,fun j hj=>?_⟩
 ·have hc1:=rep_conn v h0
  have hr:=h.conn ⟨h0,h1⟩ hc1
  exact(sol_spec _ hr.1 hr.2).1 v hc1.symm
 ·have hr0:=h.ok.rng j hj
  have hl0:=h.lt j hj
  have hc1:=rep_conn j.one hr0.1.1
  have hr:=h.conn ⟨hr0.1.1,hl0.1⟩ hc1
  have e:=rep_eq j.one j.two hr0.1.1 hr0.2.1 (.one (.inl (List.mem_map.2 ⟨j,hj,rfl⟩)))
  show Fit j (sol (rep j.one) j.one) (sol (rep j.two) j.two)
  rw[←e]
  exact(sol_spec _ hr.1 hr.2).2 j hj hc1.symm
open Classical in
theorem JN.can_iff(h:JN J hl n)(ht:∃p,Tun J hl hh n p){r x:Int}(hr:0≤r∧r<(n:Int))(hx:hl r≤x∧x≤hh r):canF J hl hh 8 r x (-1)=true↔ ∃p,Tun J hl hh n p∧p r=x:=by
 constructor
 ·intro hc
  obtain⟨p0,hp0⟩:=ht
  have hle:=h.le
  have hpos:=h.pos r
  obtain⟨p,e,q1,q2⟩:=h.ok.found (by omega) (by omega) h.pos hc
  refine⟨fun v=>if Conn (EJ J) r v then p v else p0 v,⟨fun v h0 h1=>?_,fun j hj=>?_⟩,?_⟩
  ·show hl v≤(if Conn (EJ J) r v then p v else p0 v)∧(if Conn (EJ J) r v then p v else p0 v)≤hh v
   by_cases hcv:Conn (EJ J) r v
   ·rw[if_pos hcv]
    by_cases hvr:v=r
    ·subst hvr;rw[e];exact hx
    ·exact q1 v hcv hvr
   ·rw[if_neg hcv];exact hp0.1 v h0 h1
  ·show Fit j (if Conn (EJ J) r j.one then p j.one else p0 j.one) (if Conn (EJ J) r j.two then p j.two else p0 j.two)
   have ha:Adj (EJ J) j.one j.two:=.inl (List.mem_map.2 ⟨j,hj,rfl⟩)
   by_cases hcv:Conn (EJ J) r j.one
   ·rw[if_pos hcv,if_pos (.step hcv ha)];exact q2 j hj hcv
   ·rw[if_neg hcv,if_neg (fun hq=>hcv (.step hq ha.symm))];exact hp0.2 j hj
  ·show(if Conn (EJ J) r r then p r else p0 r)=x
   rw[if_pos (.refl r),e]
 ·rintro⟨p,hp,rfl⟩
  exact hp.can h hr 8 (-1)
theorem JN.tunable_iff(h:JN J hl n):(∀v,0≤v→v<(n:Int)→∃x,hl v≤x∧x≤hh v∧canF J hl hh 8 v x (-1)=true)↔ ∃p,Tun J hl hh n p:=
 ⟨h.tunable,fun⟨p,hp⟩ v h0 h1=>⟨p v,(hp.1 v h0 h1).1,(hp.1 v h0 h1).2,hp.can h ⟨h0,h1⟩ 8 (-1)⟩⟩
end Go.Proofs.Ytinhcdijbcamaaa.tuneNarrower
