import Derived.Test.YthhbfbmfhldbaaaDoorVamT15
set_option linter.unusedVariables false
set_option linter.unusedSimpArgs false
set_option linter.constructorNameAsVariable false
namespace Go.Proofs.YthhbfbmfhldbaaaDoor.locks
open Vam
section
variable {l:Ln}
theorem rest_win{f:Int→Bool}{r:Nat}{s:Int}(hs:f s=true):zCI f r s=true↔ ∀i,i≤s→s≤i+r→ ¬ Win f r i:=by
 obtain⟨a1,a2,a3,a4⟩:=zBL f r 1 (r+1) (s+1) 1 (by omega) (by omega)
 unfold zCI
 obtain⟨c,hc⟩:∃c,c=cntF f r 1 (r+1) (s+1) 1:=⟨_,rfl⟩
 rw[←hc]at a1 a2 a3 a4 ⊢
 obtain⟨b1,b2,b3,b4⟩:=zBL f r (-1) (r+1) (s - 1) c a2 (by omega)
 obtain⟨e,he⟩:∃e,e=cntF f r (-1) (r+1) (s - 1) c:=⟨_,rfl⟩
 rw[←he]at b1 b2 b3 b4 ⊢
 constructor
 ·intro h0 i h1 h2 hw
  have h0:=of_decide_eq_true h0
  have hin:∀x:Int,i≤x→x≤i+r→f x=true:=fun x x1 x2=>by
   have:=hw (x - i).toNat (by omega)
   rw[show i+((x - i).toNat:Int)=x by omega]at this;exact this
  have hcr:=a4 (by omega)
  have hcl:i+r<s+1+((c - 1:Nat):Int)*1:=by
   by_cases g:i+r<s+1+((c - 1:Nat):Int)*1
   ·exact g
   ·rw[hin _ (by omega) (by omega)]at hcr;cases hcr
  have her:=b4 (by omega)
  have hel:s - 1+((e - c:Nat):Int)* -1<i:=by
   by_cases g:s - 1+((e - c:Nat):Int)* -1<i
   ·exact g
   ·rw[hin _ (by omega) (by omega)]at her;cases her
  omega
 ·intro h
  refine kF ?_
  by_cases hle:e≤r
  ·exact hle
  ·exfalso
   refine h (s - ((e - c:Nat):Int)) (by omega) (by omega) fun j hj=>?_
   by_cases j1:j<e - c
   ·have:=b3 (e - c - 1 - j) (by omega)
    rw[show s - 1+((e - c - 1 - j:Nat):Int)* -1=s - ((e - c:Nat):Int)+j by omega]at this
    exact this
   ·by_cases j2:j=e - c
    ·subst j2;rw[show s - ((e - c:Nat):Int)+((e - c:Nat):Int)=s by omega];exact hs
    ·have:=a3 (j - (e - c) - 1) (by omega)
     rw[show s+1+((j - (e - c) - 1:Nat):Int)*1=s - ((e - c:Nat):Int)+j by omega]at this
     exact this
def okP(l:Ln)(q:List Int)(w:Int):Bool:=zDp l w (at' l.slots (q.length - 1))&&zCI (rF (plF q 0) (plF q 1) w l.slots.length) l.run.toNat ((q.length - 1:Nat):Int)
def spl(l:Ln):Nat→List Int→List (List Int)
 |0,p=>[p]
 |k+1,p=>if at' l.slots p.length= -1 then spl l k (p++[-1])else(if okP l (p++[0]) 0=true then spl l k (p++[0])else [])++(if okP l (p++[1]) 1=true then spl l k (p++[1])else [])
def StP(l:Ln)(q:List Int)(i:Nat):Prop:=(at' l.slots i= -1∧at' q i= -1)∨(at' l.slots i≠ -1∧(at' q i=0∨at' q i=1)∧okP l (q.take (i+1)) (at' q i)=true)
theorem at_end(p:List Int)(x:Int):at' (p++[x]) p.length=x:=by unfold at';simp
theorem at_bef{p:List Int}{i:Nat}(x:Int)(h:i<p.length):at' (p++[x]) i=at' p i:=by
 unfold at';rw[List.getElem?_append_left h]
theorem zEc{p:List Int}{i:Nat}(h:p.length≤i):at' p i= -1:=by unfold at';rw[List.getElem?_eq_none h];rfl
theorem at_take{q:List Int}{m i:Nat}(h:i<m):at' (q.take m) i=at' q i:=by unfold at';rw[List.getElem?_take_of_lt h]
theorem at_takeo{q:List Int}{m i:Nat}(h:m≤i):at' (q.take m) i= -1:=zEc (by rw[List.length_take];omega)
theorem zFG{p q:List Int}{x:Int}(hl:p.length<q.length):q.take (p.length+1)=p++[x]↔q.take p.length=p∧at' q p.length=x:=by
 have e:q[p.length]? =some q[p.length]:=List.getElem?_eq_getElem hl
 have ea:at' q p.length=q[p.length]:=by unfold at';rw[e];rfl
 rw[List.take_add_one,e,ea]
 constructor
 ·intro h
  obtain⟨h1,h2⟩:=List.append_inj h (by rw[List.length_take];omega)
  exact⟨h1,by simpa using h2⟩
 ·rintro⟨h1,h2⟩
  rw[h1,h2];rfl
theorem mem_spl(l:Ln):∀(k:Nat) (p q:List Int),q∈spl l k p↔q.length=p.length+k∧q.take p.length=p∧∀i,p.length≤i→i<q.length→StP l q i:=by
 intro k
 induction k with
 |zero=>
  intro p q
  show q∈[p]↔_
  rw[List.mem_singleton]
  constructor
  ·rintro rfl;exact⟨rfl,List.take_of_length_le (Nat.le_refl _),fun i h1 h2=>by omega⟩
  ·rintro⟨h1,h2,_⟩;rw[List.take_of_length_le (by omega)]at h2;exact h2
 |succ k ih=>
  intro p q
  have key:∀x:Int,q∈spl l k (p++[x])↔q.length=p.length+(k+1)∧(q.take p.length=p∧at' q p.length=x)∧∀i,p.length+1≤i→i<q.length→StP l q i:=fun x=>by
   rw[ih (p++[x]) q,List.length_append]
   show q.length=p.length+1+k∧List.take (p.length+1) q=p++[x]∧_↔_
   constructor
   ·rintro⟨h1,h2,h3⟩;exact⟨by omega,(zFG (by omega)).1 h2,h3⟩
   ·rintro⟨h1,h2,h3⟩;exact⟨by omega,(zFG (by omega)).2 h2,h3⟩
  have stp:q.length=p.length+(k+1)→((∀i,p.length≤i→i<q.length→StP l q i)↔(StP l q p.length∧∀i,p.length+1≤i→i<q.length→StP l q i)):=fun hl=>by
   constructor
   ·intro h;exact⟨h _ (Nat.le_refl _) (by omega),fun i h1 h2=>h i (by omega) h2⟩
   ·rintro⟨h1,h2⟩ i h3 h4
    by_cases e:i=p.length
    ·rw[e];exact h1
    ·exact h2 i (by omega) h4
  unfold spl
  by_cases c:at' l.slots p.length= -1
  ·rw[if_pos c,key]
   constructor
   ·rintro⟨h1,⟨h2,h3⟩,h4⟩;exact⟨h1,h2,(stp h1).2 ⟨.inl ⟨c,h3⟩,h4⟩⟩
   ·rintro⟨h1,h2,h3⟩
    obtain⟨h4,h5⟩:=(stp h1).1 h3
    rcases h4 with ⟨_,h4⟩|⟨h4,_⟩
    ·exact⟨h1,⟨h2,h4⟩,h5⟩
    ·exact absurd c h4
  ·rw[if_neg c,List.mem_append]
   have one:∀x:Int,(x=0∨x=1)→(q∈(if okP l (p++[x]) x=true then spl l k (p++[x])else [])↔q.length=p.length+(k+1)∧q.take p.length=p∧at' q p.length=x∧∀i,p.length≤i→i<q.length→StP l q i):=fun x hx=>by
    constructor
    ·intro h
     split at h
     ·next ho=>
      obtain⟨h1,h2,h3⟩:=(key x).1 h
      refine⟨h1,h2.1,h2.2,(stp h1).2 ⟨.inr ⟨c,by rw[h2.2];exact hx,?_⟩,h3⟩⟩
      rw[(zFG (by omega)).2 h2,h2.2];exact ho
     ·cases h
    ·rintro⟨h1,h2,h3,h4⟩
     obtain⟨h5,h6⟩:=(stp h1).1 h4
     rcases h5 with ⟨h5,_⟩|⟨_,_,h5⟩
     ·exact absurd h5 c
     ·rw[(zFG (by omega)).2 ⟨h2,h3⟩,h3]at h5
      rw[if_pos h5]
      exact(key x).2 ⟨h1,⟨h2,h3⟩,h6⟩
   rw[one 0 (.inl rfl),one 1 (.inr rfl)]
   constructor
   ·rintro(⟨h1,h2,_,h3⟩|⟨h1,h2,_,h3⟩)<;>exact⟨h1,h2,h3⟩
   ·rintro⟨h1,h2,h3⟩
    rcases h3 p.length (Nat.le_refl _) (by omega)with ⟨h4,_⟩|⟨_,h4|h4,_⟩
    ·exact absurd h4 c
    ·exact .inl ⟨h1,h2,h4,h3⟩
    ·exact .inr ⟨h1,h2,h4,h3⟩
theorem max_at(f:Nat→Nat):∀r:Nat,∃t,t≤r∧∀j,j≤r→f j≤f t:=by
 intro r
 induction r with
 | zero => exact ⟨0, Nat.le_refl _, fun j hj => by obtain rfl : j = 0 := by omega
                                                   exact Nat.le_refl _⟩
 |succ r ih=>
  obtain⟨t,h1,h2⟩:=ih
  by_cases c:f (r+1)≤f t
  ·refine⟨t,by omega,fun j hj=>?_⟩
   by_cases e:j=r+1
   ·rw[e];exact c
   ·exact h2 j (by omega)
  ·refine⟨r+1,Nat.le_refl _,fun j hj=>?_⟩
   by_cases e:j=r+1
   ·rw[e];exact Nat.le_refl _
   ·have:=h2 j (by omega);omega
theorem rF_at{q:List Int}{w:Int}(hw:w=0∨w=1)(n:Nat)(k:Int):rF (plF q 0) (plF q 1) w n k=decide (at' q (k % (n:Int)).toNat=w):=by
 unfold rF
 rcases hw with rfl|rfl
 ·rw[if_pos rfl];rfl
 ·rw[if_neg (by decide)];rfl
theorem rF_per{q:List Int}{w:Int}(n:Nat)(z x:Int):rF (plF q 0) (plF q 1) w n (x+n*z)=rF (plF q 0) (plF q 1) w n x:=by
 unfold rF
 rw[Int.add_mul_emod_self_left]
theorem spl_div(h:VL l){q:List Int}:q∈spl l l.slots.length []↔divB l q=true:=by
 have hn:=h.n
 rw[mem_spl,zBS]
 show q.length=0+l.slots.length∧q.take 0=[]∧(∀i,0≤i→i<q.length→StP l q i)↔_
 rw[Nat.zero_add]
 constructor
 ·rintro⟨hl,_,hS⟩
  refine⟨hl,fun i hi=>?_,fun who h0 i hw=>?_⟩
  ·unfold tokB
   rcases hS i (by omega) (by omega)with ⟨c1,c2⟩|⟨c1,c2,c3⟩
   ·rw[kF c1,kF c2];rfl
   ·unfold okP zDp at c3
    rw[Bool.and_eq_true]at c3
    have c4:=c3.1
    rw[show(q.take (i+1)).length - 1=i by rw[List.length_take];omega]at c4
    rw[c4]
    rcases c2 with c|c
    ·rw[kF c];simp
    ·rw[kF c];simp
  ·have hat:∀j:Nat,j≤l.run.toNat→at' q ((i+j) % (l.slots.length:Int)).toNat=who:=fun j hj=>by
    have:=hw j hj
    unfold hit pl at this
    rw[hl]at this
    exact of_decide_eq_true this
   have hlt:∀j:Nat,((i+j) % (l.slots.length:Int)).toNat<l.slots.length:=fun j=>by
    have:=Int.emod_lt_of_pos (i+j) (show(0:Int)<l.slots.length by omega)
    omega
   obtain⟨t,ht,hmax⟩:=max_at (fun j=>((i+(j:Int)) % (l.slots.length:Int)).toNat) l.run.toNat
   obtain⟨m,hm⟩:∃m,m=((i+(t:Int)) % (l.slots.length:Int)).toNat:=⟨_,rfl⟩
   have hmq:at' q m=who:=by rw[hm];exact hat t ht
   have hml:m<l.slots.length:=by rw[hm];exact hlt t
   rcases hS m (by omega) (by omega)with ⟨_,c⟩|⟨_,c1,c2⟩
   ·omega
   ·have hw1:who=0∨who=1:=by rw[hmq]at c1;exact c1
    unfold okP at c2
    rw[Bool.and_eq_true,show(q.take (m+1)).length - 1=m by rw[List.length_take];omega,hmq]at c2
    have c3:=c2.2
    have hF:∀j:Nat,j≤l.run.toNat→rF (plF (q.take (m+1)) 0) (plF (q.take (m+1)) 1) who l.slots.length (i+j)=true:=fun j hj=>by
     rw[rF_at hw1]
     refine kF ?_
     have hmj:((i+(j:Int)) % (l.slots.length:Int)).toNat≤m:=by rw[hm];exact hmax j hj
     rw[at_take (by omega)]
     exact hat j hj
    have hpos:i+(t:Int)=(m:Int)+(l.slots.length:Int)*((i+(t:Int)) / (l.slots.length:Int)):=by
     have e1:=Int.emod_nonneg (i+(t:Int)) (show(l.slots.length:Int)≠0 by omega)
     have e3:=Int.emod_add_mul_ediv (i+(t:Int)) l.slots.length
     rw[hm,Int.toNat_of_nonneg e1];exact e3.symm
    rw[←rest_per (m:=(l.slots.length:Int)*((i+(t:Int)) / (l.slots.length:Int))) (fun x=>rF_per _ _ x),←hpos]at c3
    exact(rest_win (hF t ht)).1 c3 i (by omega) (by omega) hF
 ·rintro⟨hl,h2,h3⟩
  refine⟨hl,rfl,fun i _ hi=>?_⟩
  rcases wn (h2 i (by omega))with c|⟨c1,c2⟩
  ·exact .inl ⟨c.2,c.1⟩
  ·refine .inr ⟨c2,c1,?_⟩
   have htok:=h2 i (by omega)
   unfold okP
   rw[show(q.take (i+1)).length - 1=i by rw[List.length_take];omega,Bool.and_eq_true]
   constructor
   ·unfold tokB at htok
    simp only[Bool.or_eq_true,Bool.and_eq_true,decide_eq_true_eq]at htok
    rcases htok with ⟨_,e⟩|⟨_,_,e⟩
    ·exact absurd e c2
    ·unfold zDp;rw[kF c2,Bool.true_and];exact e
   ·refine(rest_win ?_).2 fun a _ _ hw=>h3 (at' q i) (by omega) a fun j hj=>?_
    ·rw[rF_at c1]
     refine kF ?_
     rw[Int.emod_eq_of_lt (by omega) (by omega),show((i:Int)).toNat=i by omega,at_take (by omega)]
    ·have:=hw j hj
     rw[rF_at c1]at this
     have:=of_decide_eq_true this
     unfold hit pl
     rw[hl]
     refine kF ?_
     show at' q _=_
     by_cases g:((a+(j:Int)) % (l.slots.length:Int)).toNat<i+1
     ·rw[at_take g]at this;exact this
     ·rw[at_takeo (by omega)]at this;omega
def zAH:List Int→List Int→Bool
 |[],l=>decide (0<l.length)
 |_::_,[]=>false
 |x::a,y::c=>if x≠y then decide (x<y)else zAH a c
theorem soon_irr:∀a:List Int,zAH a a=false:=by
 intro a
 induction a with
 |nil=>rfl
 |cons x a ih=>unfold zAH;rw[if_neg (by simp)];exact ih
theorem zFO:∀(a c:List Int),zAH a c=true→zAH c a=false:=by
 intro a
 induction a with
 |nil=>intro c h;cases c with
  |nil=>rfl
  |cons y c=>rfl
 |cons x a ih=>
  intro c h
  cases c with
  |nil=>cases h
  |cons y c=>
   unfold zAH at h ⊢
   by_cases e:x=y
   ·rw[if_neg (by simp[e])]at h
    rw[if_neg (by simp[e])]
    exact ih c h
   ·rw[if_pos e]at h
    rw[if_pos (fun h2=>e h2.symm)]
    have:=of_decide_eq_true h
    exact kG (by omega)
theorem soon_ext{x y:Int}(h:x<y)(a b:List Int):∀p:List Int,zAH (p++x::a) (p++y::b)=true:=by
 intro p
 induction p with
 |nil=>show zAH (x::a) (y::b)=true;unfold zAH;rw[if_pos (by omega)];exact kF h
 |cons z p ih=>show zAH (z::(p++x::a)) (z::(p++y::b))=true;unfold zAH;rw[if_neg (by simp)];exact ih
theorem spl_ext{k:Nat}{p q:List Int}(h:q∈spl l k p):q=p++q.drop p.length:=by
 obtain⟨_,h2,_⟩:=(mem_spl l k p q).1 h
 have:=List.take_append_drop p.length q
 rw[h2]at this;exact this.symm
theorem zEq(l:Ln):∀(k:Nat) (p:List Int),(spl l k p).Pairwise (fun a b=>zAH a b=true):=by
 intro k
 induction k with
 |zero=>intro p;exact List.pairwise_singleton _ _
 |succ k ih=>
  intro p
  unfold spl
  split
  ·exact ih _
  ·refine List.pairwise_append.2 ⟨?_,?_,fun a ha b hb=>?_⟩
   ·split
    ·exact ih _
    ·exact List.Pairwise.nil
   ·split
    ·exact ih _
    ·exact List.Pairwise.nil
   ·split at ha
    ·split at hb
     ·have e1:=spl_ext ha
      have e2:=spl_ext hb
      rw[e1,e2,List.append_assoc,List.append_assoc]
      exact soon_ext (by decide) _ _ p
     ·cases hb
    ·cases ha
theorem spl_len2(l:Ln):∀(k:Nat) (p:List Int),(spl l k p).length≤2 ^ k:=by
 intro k
 induction k with
 |zero=>intro p;exact Nat.le_refl _
 |succ k ih=>
  intro p
  have h0:=ih (p++[0])
  have h1:=ih (p++[1])
  have h2:=ih (p++[-1])
  have hp:2 ^ (k+1)=2 ^ k+2 ^ k:=by rw[Nat.pow_succ];omega
  have h3:=Nat.two_pow_pos k
  unfold spl
  split
  ·omega
  ·rw[List.length_append]
   split<;>split<;>(try simp only[List.length_nil])<;>omega
end
section
variable {l:Ln}
def dfI(p:List Int):Int:=max (((prtL p 0).length:Int) - (prtL p 1).length) (((prtL p 1).length:Int) - (prtL p 0).length)
def zBd(b:Option (List Int))(p:List Int):Option (List Int):=match b with
 |none=>some p
 |some q=>if dfI p<dfI q then some p else some q
def bstO(L:List (List Int)):Option (List Int):=L.foldl zBd none
theorem bstO_snoc(L:List (List Int))(p:List Int):bstO (L++[p])=zBd (bstO L) p:=by unfold bstO;rw[List.foldl_append];rfl
theorem bst_some:∀(L:List (List Int)) (q:List Int),(q::L).Pairwise (fun a b=>zAH a b=true)→∃b,L.foldl zBd (some q)=some b∧b∈q::L∧∀s∈q::L,dfI b≤dfI s∧(dfI s=dfI b→zAH s b=false):=by
 intro L
 induction L with
 |nil=>
  intro q _
  refine⟨q,rfl,List.mem_singleton.2 rfl,fun s hs=>?_⟩
  rcases List.mem_singleton.1 hs with rfl
  exact⟨Int.le_refl _,fun _=>soon_irr _⟩
 |cons p L ih=>
  intro q hp
  have hp2:=List.pairwise_cons.1 hp
  have hqp:zAH q p=true:=hp2.1 p List.mem_cons_self
  by_cases c:dfI p<dfI q
  ·obtain⟨b,h1,h2,h3⟩:=ih p hp2.2
   refine⟨b,by show L.foldl zBd (zBd (some q) p)=_;unfold zBd;simp only[if_pos c];exact h1,List.mem_cons_of_mem _ h2,fun s hs=>?_⟩
   rcases List.mem_cons.1 hs with rfl|hs
   ·have:=h3 p List.mem_cons_self
    exact⟨by omega,fun e=>by omega⟩
   ·exact h3 s hs
  ·have hq:(q::L).Pairwise (fun a b=>zAH a b=true):=List.pairwise_cons.2 ⟨fun s hs=>hp2.1 s (List.mem_cons_of_mem _ hs),(List.pairwise_cons.1 hp2.2).2⟩
   obtain⟨b,h1,h2,h3⟩:=ih q hq
   refine⟨b,by show L.foldl zBd (zBd (some q) p)=_;unfold zBd;simp only[if_neg c];exact h1,?_,fun s hs=>?_⟩
   ·rcases List.mem_cons.1 h2 with h|h
    ·rw[h];exact List.mem_cons_self
    ·exact List.mem_cons_of_mem _ (List.mem_cons_of_mem _ h)
   ·rcases List.mem_cons.1 hs with rfl|hs
    ·exact h3 _ List.mem_cons_self
    rcases List.mem_cons.1 hs with rfl|hs
    ·have hqb:=h3 q List.mem_cons_self
     refine⟨by omega,fun e=>?_⟩
     rcases List.mem_cons.1 h2 with rfl|h
     ·exact zFO _ _ hqp
     ·have h5:zAH q b=true:=(List.pairwise_cons.1 hq).1 b h
      have:=hqb.2 (by omega)
      rw[h5]at this;cases this
    ·exact h3 s (List.mem_cons_of_mem _ hs)
theorem bst_spec{L:List (List Int)}(hp:L.Pairwise (fun a b=>zAH a b=true)):(L=[]∧bstO L=none)∨∃b,bstO L=some b∧b∈L∧∀s∈L,dfI b≤dfI s∧(dfI s=dfI b→zAH s b=false):=by
 cases L with
 |nil=>exact .inl ⟨rfl,rfl⟩
 |cons q L=>
  obtain⟨b,h1,h2,h3⟩:=bst_some L q hp
  exact .inr ⟨b,h1,h2,h3⟩
end
section
variable {is:FuncId→Bool}{orc:Known}
structure CnsF{α:Type}(enc:α→U)(N A:Nat)(lp:Lp)(I D:List α→List SB→Prop)(els:List α):Prop where
 len:∀l Z,I l Z→Z.length=N
 lenD:∀l Z,D l Z→Z.length=N
 bd:∀l Z,I l Z→∀x∈Z,BdS N x
 bdD:∀l Z,D l Z→∀x∈Z,BdS N x
 bl:∀l Z,I l Z→Z[A]? =some (.loop .ready lp)
 own:∀i,NoOwn (lp.fr i)
 ps:∃p,lp.ps=[p]∧Nat.blt p 1024=true
 run:∀(is:FuncId→Bool) (orc:Known),Off is→∀l q r Z e,els=l++q::r→I l Z→WpY Tryd.prog is orc A lp [enc q] (Z++e) fun u st'=>
  ∃Z' e',st'=Z'++(e++e')∧((u=.bool true∧I (l++[q]) Z')∨(u=.bool false∧D (l++[q]) Z'))
def GenF{α:Type}(enc:α→U)(g:Nat)(B:List U)(caps:List (Nat×SB))(els:List α):Prop:=
 ∀(is:FuncId→Bool) (orc:Known),Off is→∀{N A:Nat} {lp:Lp} {I D:List α→List SB→Prop},CnsF enc N A lp I D els→(∀c∈caps,∀l Z,I l Z→Z[c.1]? =some c.2)→∀Z,I [] Z→
  WpC Tryd.prog is orc g (.yld A::B) Z fun _ st'=>I els st'∨∃l r,els=l++r∧D l st'
theorem k_rangeF{α:Type}{enc:α→U}{g n:Nat}{B:List U}{caps:List (Nat×SB)}{els:List α}{lp:Lp}{I D:List α→List SB→Prop}{ex:Ex}{s:St}{x:Operand}{ps:Array Tmp}{assign body:Code}{Q:Ex→St→Prop}(hi:Off is)
  (hg:GenF enc g B caps els) (hx:zP s x=.fn g [] B) (hc:CnsF enc (n+1) n lp (fun l st=>∃Z,I l Z∧st=Z++[.loop .ready lp]) (fun l st=>∃Z,D l Z∧st=Z++[.loop (.done ex) lp]) els)
  (hn:∀l Z,I l Z→Z.length=n) (hnD:∀l Z,D l Z→Z.length=n) (hcap:∀c∈caps,∀l Z,I l Z→Z[c.1]? =some c.2)
  (hbd:∀l Z,I l Z→∀x∈Z,BdS n x) (hbdD:∀l Z,D l Z→∀x∈Z,BdS n x) (hlp:lpOf s ps.toList assign body=lp) (hst:I [] s.st)
  (k1:∀Z,I els Z→endQ Q .ready ⟨s.fr,[],Z⟩) (k2:∀l r Z,els=l++r→D l Z→endQ Q (.done ex) ⟨s.fr,[],Z⟩):Wp Tryd.prog is orc (.rangeFunc x ps assign body) s Q:=by
 refine k_range hx ?_
 have hl:s.st.length=n:=hn _ _ hst
 show WpC Tryd.prog is orc g ([]++([.yld s.st.length]++B)) _ _
 rw[hlp,hl]
 refine(hg is orc hi hc (fun c h l st ⟨Z,hZ,e⟩=>by rw[e];exact zAF (hcap c h l Z hZ)) _ ⟨s.st,hst,rfl⟩).mono fun _ st' hs=>?_
 rcases hs with ⟨Z,hZ,rfl⟩|⟨l,r,h1,Z,hZ,rfl⟩
 ·exact⟨.ready,by rw[←hn _ _ hZ];exact wI _ _,by rw[zAz (hn _ _ hZ)];exact hbd _ _ hZ,by rw[zAz (hn _ _ hZ)];exact k1 Z hZ⟩
 ·exact⟨.done ex,by rw[←hnD _ _ hZ];exact wI _ _,by rw[zAz (hnD _ _ hZ)];exact hbdD _ _ hZ,by rw[zAz (hnD _ _ hZ)];exact k2 l r Z h1 hZ⟩
theorem at_len{P Q:List SB}{n i:Nat}{x:SB}(h:P.length=n)(hx:Q[i]? =some x):(P++Q)[n+i]? =some x:=by
 rw[List.getElem?_append_right (by omega),h,Nat.add_sub_cancel_left];exact hx
theorem k_rangeV{α:Type}{enc:α→U}{g n p0:Nat}{B:List U}{caps:List (Nat×SB)}{els:List α}{lp:Lp}{V:List α→List SB}{s:St}{x:Operand}{ps:Array Tmp}{assign body:Code}{Q:Ex→St→Prop}(hi:Off is)
  (hg:GenF enc g B caps els) (hx:zP s x=.fn g [] B) (hlen:∀l,(V l).length=n) (hbd:∀l,∀x∈V l,BdS n x) (hcap:∀c∈caps,∀l,(V l)[c.1]? =some c.2) (hlp:lpOf s ps.toList assign body=lp)
  (hfr:∀i,Bd (n+1) (lp.fr i)) (hown:∀i,NoOwn (lp.fr i)) (hps:lp.ps=[p0]) (hp0:Nat.blt p0 1024=true) (hst:s.st=V [])
  (run:∀(is:FuncId→Bool) (orc:Known),Off is→∀l q r e,els=l++q::r→WpY Tryd.prog is orc n lp [enc q] ((V l++[.loop .ready lp])++e) fun u st'=>u=.bool true∧∃e',st'=(V (l++[q])++[.loop .ready lp])++(e++e'))
  (k:endQ Q .ready ⟨s.fr,[],V els⟩):Wp Tryd.prog is orc (.rangeFunc x ps assign body) s Q:=by
 refine k_rangeF (n:=n) (I:=fun l Z=>Z=V l) (D:=fun _ _=>False) (ex:=.ret) (lp:=lp) hi hg hx ?_ (fun l Z h=>by rw[h];exact hlen l) (fun _ _ h=>by cases h) (fun c hc l Z h=>by rw[h];exact hcap c hc l) (fun l Z h=>by rw[h];exact hbd l) (fun _ _ h=>by cases h) hlp hst (fun Z h=>by rw[h];exact k) (fun _ _ _ _ h=>by cases h)
 refine⟨?_,?_,?_,?_,?_,hown,⟨p0,hps,hp0⟩,?_⟩
 ·rintro l Z ⟨Y,rfl,rfl⟩;simp[hlen]
 ·rintro l Z ⟨Y,h,_⟩;cases h
 ·rintro l Z ⟨Y,rfl,rfl⟩ x hx
  rcases List.mem_append.1 hx with hx|hx
  ·exact BdS.mono (hbd l x hx) (by omega)
  ·rcases List.mem_singleton.1 hx with rfl
   exact hfr
 ·rintro l Z ⟨Y,h,_⟩;cases h
 ·rintro l Z ⟨Y,rfl,rfl⟩;rw[←hlen l];exact wI _ _
 ·rintro is orc hi l q r Z e hels ⟨Y,rfl,rfl⟩
  refine(run is orc hi l q r e hels).mono fun u st' h=>?_
  obtain⟨rfl,e',rfl⟩:=h
  exact⟨_,e',rfl,.inl ⟨rfl,_,rfl,rfl⟩⟩
end
end Go.Proofs.YthhbfbmfhldbaaaDoor.locks
