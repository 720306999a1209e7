import Derived.Test.YtfbmlibilcjlgaaDoorVamT11
set_option linter.unusedVariables false
set_option linter.unusedSimpArgs false
set_option linter.constructorNameAsVariable false
namespace Go.Proofs.YtfbmlibilcjlgaaDoor.drumPlans
open Vam
section
variable {is:FuncId→Bool}{orc:Known}{b:Bk}
def zDK:List Int→List Int→Bool
 |[],l=>decide (0<l.length)
 |_::_,[]=>false
 |x::a,y::c=>if x≠y then decide (x<y)else zDK a c
theorem soon_asym:∀(a c:List Int),zDK a c=true→zDK c a=false:=by
 intro a
 induction a with
 |nil=>intro c h;cases c with
  |nil=>rfl
  |cons y c=>rfl
 |cons x a ih=>
  intro c h
  cases c with
  |nil=>cases h
  |cons y c=>
   unfold zDK at h ⊢
   by_cases e:x=y
   ·rw[if_neg (by simp[e])]at h
    rw[if_neg (by simp[e])]
    exact ih c h
   ·rw[if_pos e]at h
    rw[if_pos (fun h2=>e h2.symm)]
    have:=of_decide_eq_true h
    exact decide_eq_false (by omega)
theorem soon_irr:∀a:List Int,zDK a a=false:=by
 intro a
 induction a with
 |nil=>rfl
 |cons x a ih=>unfold zDK;rw[if_neg (by simp)];exact ih
theorem soon_pre:∀(p a c:List Int),zDK (p++a) (p++c)=zDK a c:=by
 intro p
 induction p with
 |nil=>intro a c;rfl
 |cons x p ih=>
  intro a c
  show zDK (x::(p++a)) (x::(p++c))=_
  show(if x≠x then decide (x<x)else zDK (p++a) (p++c))=_
  rw[if_neg (by simp)]
  exact ih a c
end
section
variable {is:FuncId→Bool}{orc:Known}{b:Bk}
theorem pair_app{α:Type}{R:α→α→Prop}{l m:List α}:(l++m).Pairwise R↔l.Pairwise R∧m.Pairwise R∧∀x∈l,∀y∈m,R x y:=List.pairwise_append
theorem lvP_pair(b:Bk):∀(r:Nat) (p:List Int),(lvP b r p).Pairwise fun x y=>zDK x y=true:=by
 intro r
 induction r with
 |zero=>intro p;exact List.pairwise_singleton _ _
 |succ r ih=>
  intro p
  have h:∀j,(ptP b r p j).Pairwise (fun x y=>zDK x y=true)∧∀x∈ptP b r p j,∃(d:Nat) (q:List Int),d<j∧x=p++(d:Int)::q:=by
   intro j
   induction j with
   |zero=>exact⟨List.Pairwise.nil,fun x hx=>by cases hx⟩
   |succ j ihj=>
    rw[zCE]
    have hnew:∀y∈(if exB b p j=true then lvP b r (p++[(j:Int)])else []),∃q,y=p++(j:Int)::q:=fun y hy=>by
     split at hy
     ·obtain⟨q,rfl,_⟩:=mem_lvP _ _ _ hy
      exact⟨q,by simp⟩
     ·cases hy
    refine⟨pair_app.2 ⟨ihj.1,?_,fun x hx y hy=>?_⟩,fun x hx=>?_⟩
    ·split
     ·exact ih _
     ·exact List.Pairwise.nil
    ·obtain⟨d,q,hd,rfl⟩:=ihj.2 x hx
     obtain⟨q2,rfl⟩:=hnew y hy
     rw[soon_pre]
     show(if(d:Int)≠(j:Int)then decide ((d:Int)<j)else zDK q q2)=true
     rw[if_pos (by omega)]
     exact decide_eq_true (by omega)
    ·rcases List.mem_append.1 hx with hx|hx
     ·obtain⟨d,q,hd,e⟩:=ihj.2 x hx
      exact⟨d,q,by omega,e⟩
     ·obtain⟨q,e⟩:=hnew x hx
      exact⟨j,q,by omega,e⟩
  exact(h 4).1
theorem lvP_pok(hb:BOk b):∀(r:Nat) (p L:List Int),((p.length+r:Nat):Int)=b.parts→Pre b p→L∈lvP b r p→POk b L:=by
 intro r
 induction r with
 |zero=>
  intro p L hpr hp hL
  rcases List.mem_singleton.1 (show L∈[p]from hL)with rfl
  exact hp.pok hb (by simpa using hpr)
 |succ r ih=>
  intro p L hpr hp hL
  obtain⟨d,hd,hL⟩:=List.mem_flatMap.1 (show L∈(List.range 4).flatMap _ from hL)
  have hd4:=List.mem_range.1 hd
  split at hL
  ·rename_i he
   exact ih _ L (by rw[List.length_append];simp at hpr ⊢;omega) (hp.snoc (by omega) he) hL
  ·cases hL
theorem paths_pok(hb:BOk b){L:List Int}(h:L∈zFp b):POk b L:=by
 have:=hb.pa
 exact lvP_pok hb _ [] L (by simp;omega) (pre_nil b) h
theorem mem_lv(hb:BOk b){L:List Int}(hL:POk b L):∀(r:Nat) (p q:List Int),((p.length+r:Nat):Int)=b.parts→L=p++q→L∈lvP b r p:=by
 have hlen:=hL.len
 intro r
 induction r with
 |zero=>
  intro p q hpr e
  have hq:q=[]:=by
   have:L.length=p.length+q.length:=by rw[e,List.length_append]
   refine List.eq_nil_of_length_eq_zero ?_
   simp at hpr;omega
  subst hq
  rw[List.append_nil]at e
  exact List.mem_singleton.2 e
 |succ r ih=>
  intro p q hpr e
  have hLl:L.length=p.length+q.length:=by rw[e,List.length_append]
  cases q with
  |nil=>simp at hLl hpr;omega
  |cons d q=>
   have hat:L[p.length]? =some d:=by rw[e];simp
   have hd:=hL.rg d (List.mem_of_getElem? hat)
   obtain⟨n,rfl⟩:∃n:Nat,d=n:=⟨d.toNat,by omega⟩
   refine List.mem_flatMap.2 ⟨n,List.mem_range.2 (by omega),?_⟩
   have hex:exB b p n=true:=by
    unfold exB
    rw[Bool.and_eq_true,Bool.or_eq_true,Bool.or_eq_true]
    by_cases h0:p.length=0
    ·refine⟨.inr (decide_eq_true ?_),.inl (decide_eq_true h0)⟩
     have:=hL.st
     rw[h0]at hat
     rw[hat]at this;exact Option.some.inj this
    ·refine⟨.inl (decide_eq_true (by omega)),.inr (decide_eq_true ?_)⟩
     obtain⟨x,hx⟩:∃x,p[p.length - 1]? =some x:=⟨p[p.length - 1],List.getElem?_eq_getElem (by omega)⟩
     have hx2:L[p.length - 1]? =some x:=by rw[e,List.getElem?_append_left (by omega)];exact hx
     have:=hL.nr (p.length - 1) x n hx2 (by rw[show p.length - 1+1=p.length by omega];exact hat)
     rw[hx]
     unfold zCY
     simp only[Option.getD_some]
     omega
   rw[if_pos hex]
   exact ih (p++[(n:Int)]) q (by rw[List.length_append];simp at hpr ⊢;omega) (by rw[e];simp)
theorem mem_paths(hb:BOk b){L:List Int}:L∈zFp b↔POk b L:=by
 have:=hb.pa
 exact⟨paths_pok hb,fun h=>mem_lv hb h _ [] L (by simp;omega) rfl⟩
theorem zFz(hb:BOk b){L:List Int}:L∈wb b↔POk b L∧zBb b L=true:=by
 unfold wb
 rw[List.mem_filter,mem_paths hb]
theorem fold_min{R:List Int→List Int→Prop}(hR:∀x y,R x y→ ¬ R y x):∀(l:List (List Int)) (a:List Int),a≠[]→(∀q∈l,q≠[]∧R a q)→l.Pairwise R→
  (l.foldl zAZ a∈a::l)∧∀q∈a::l,chg (l.foldl zAZ a)<chg q∨(chg (l.foldl zAZ a)=chg q∧(l.foldl zAZ a=q∨R (l.foldl zAZ a) q)):=by
 intro l
 induction l with
 |nil=>intro a ha _ _;exact⟨List.mem_cons_self,fun q hq=>by rcases List.mem_singleton.1 hq with rfl;exact .inr ⟨rfl,.inl rfl⟩⟩
 |cons x l ih=>
  intro a ha hq hp
  obtain⟨hp1,hp2⟩:=List.pairwise_cons.1 hp
  have hx:=hq x List.mem_cons_self
  rw[List.foldl_cons]
  by_cases hlt:chg x<chg a
  ·have e:zAZ a x=x:=by unfold zAZ;rw[if_pos (.inr hlt)]
   rw[e]
   obtain⟨h1,h2⟩:=ih x hx.1 (fun q h=>⟨(hq q (List.mem_cons_of_mem _ h)).1,hp1 q h⟩) hp2
   refine⟨List.mem_cons_of_mem _ h1,fun q h=>?_⟩
   rcases List.mem_cons.1 h with rfl|h
   ·rcases h2 x List.mem_cons_self with h|h
    ·exact .inl (by omega)
    ·exact .inl (by omega)
   ·exact h2 q h
  ·have e:zAZ a x=a:=by unfold zAZ;rw[if_neg (by rintro(h|h);exact ha h;exact hlt h)]
   rw[e]
   obtain⟨h1,h2⟩:=ih a ha (fun q h=>hq q (List.mem_cons_of_mem _ h)) hp2
   refine⟨?_,fun q h=>?_⟩
   ·rcases List.mem_cons.1 h1 with h|h
    ·rw[h];exact List.mem_cons_self
    ·exact List.mem_cons_of_mem _ (List.mem_cons_of_mem _ h)
   ·rcases List.mem_cons.1 h with rfl|h
    ·exact h2 q List.mem_cons_self
    ·rcases List.mem_cons.1 h with rfl|h
     ·rcases h2 a List.mem_cons_self with h3|⟨h3,h4⟩
      ·exact .inl (by omega)
      ·rcases h4 with h4|h4
       ·by_cases h5:chg (l.foldl zAZ a)<chg q
        ·exact .inl h5
        ·refine .inr ⟨by omega,.inr ?_⟩
         rw[h4];exact hx.2
       ·rcases List.mem_cons.1 h1 with h5|h5
        ·rw[h5]at h4;exact absurd h4 (fun h=>hR _ _ h h)
        ·exact absurd h4 (hR _ _ (hq _ (List.mem_cons_of_mem _ h5)).2)
     ·exact h2 q (List.mem_cons_of_mem _ h)
theorem filter_all{α:Type}{p:α→Bool}{l:List α}(h:∀x∈l,p x=true):l.filter p=l:=List.filter_eq_self.2 h
theorem best_spec(hb:BOk b):(wb b=[]∧wn (wb b)=[])∨(wn (wb b)∈wb b∧∀q∈wb b,chg (wn (wb b))<chg q∨(chg (wn (wb b))=chg q∧zDK q (wn (wb b))=false)):=by
 have h8:∀q∈wb b,ok8 q=true:=fun q hq=>POk.ok8 hb ((zFz hb).1 hq).1
 have hpw:(wb b).Pairwise fun x y=>zDK x y=true:=List.Pairwise.filter _ (lvP_pair b _ _)
 have e:wn (wb b)=(wb b).foldl zAZ []:=by unfold wn;rw[filter_all h8]
 rw[e]
 generalize wb b=l at*
 cases l with
 |nil=>exact .inl ⟨rfl,rfl⟩
 |cons a l=>
  right
  have ha:a≠[]:=fun h=>by have:=zCl.1 (h8 a List.mem_cons_self);rw[h]at this;simp at this
  obtain⟨hp1,hp2⟩:=List.pairwise_cons.1 hpw
  have e1:zAZ [] a=a:=by unfold zAZ;rw[if_pos (.inl rfl)]
  rw[List.foldl_cons,e1]
  obtain⟨h1,h2⟩:=fold_min (R:=fun x y=>zDK x y=true) (fun x y h h2=>by rw[soon_asym _ _ h]at h2;cases h2) l a ha (fun q hq=>⟨fun h=>by have:=zCl.1 (h8 q (List.mem_cons_of_mem _ hq));rw[h]at this;simp at this,hp1 q hq⟩) hp2
  refine⟨h1,fun q hq=>?_⟩
  rcases h2 q hq with h|⟨h,h3⟩
  ·exact .inl h
  ·refine .inr ⟨h,?_⟩
   rcases h3 with h3|h3
   ·rw[h3];exact soon_irr _
   ·exact soon_asym _ _ h3
end
end Go.Proofs.YtfbmlibilcjlgaaDoor.drumPlans
