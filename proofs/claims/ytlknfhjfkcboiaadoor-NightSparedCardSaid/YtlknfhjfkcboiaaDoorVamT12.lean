import Derived.Test.YtlknfhjfkcboiaaDoorVamT11
set_option linter.unusedVariables false
set_option linter.unusedSimpArgs false
set_option linter.constructorNameAsVariable false
namespace Go.Proofs.YtlknfhjfkcboiaaDoor.night
open Vam
structure Esy(b d:Bk):Prop where
 bg:d.bg≤b.bg
 op:∀p:Nat,(d.opens[p]?).getD 0≤(b.opens[p]?).getD 0
 en:∀p:Nat,(b.ends[p]?).getD 0≤(d.ends[p]?).getD 0
 sn:d.scenes.length=b.scenes.length
 sc:∀(i:Nat) (q r:Sc),d.scenes[i]? =some q→b.scenes[i]? =some r→q.part=r.part∧q.wt=r.wt∧q.must=r.must∧q.hi≤r.hi
variable {b d:Bk}
theorem Esy.two(h:Esy b d)(i:Nat):(d.scenes[i]? =none∧b.scenes[i]? =none)∨∃q r,d.scenes[i]? =some q∧b.scenes[i]? =some r∧q.part=r.part∧q.wt=r.wt∧q.must=r.must∧q.hi≤r.hi:=by
 have hn:=h.sn
 by_cases hi:i<b.scenes.length
 ·have e1:d.scenes[i]? =some (d.scenes[i]'(by omega)):=List.getElem?_eq_getElem (by omega)
  have e2:b.scenes[i]? =some b.scenes[i]:=List.getElem?_eq_getElem hi
  exact .inr ⟨_,_,e1,e2,h.sc i _ _ e1 e2⟩
 ·exact .inl ⟨List.getElem?_eq_none (by omega),List.getElem?_eq_none (by omega)⟩
theorem esy_mn(h:Esy b d)(L:List Int)(p:Int):∀n,sumI (mnS d [] L p true n)≤sumI (mnS b [] L p true n):=by
 intro n
 induction n with
 |zero=>exact Int.le_refl _
 |succ n ih=>
  rcases h.two n with ⟨e1,e2⟩|⟨q,r,e1,e2,e3,e4,e5,e6⟩
  ·have k1:mnS d [] L p true (n+1)=mnS d [] L p true n:=by
    show _++(match d.scenes[n]? with|none=>[]|some q=>elM [] L p true n q)=_
    rw[e1];simp
   have k2:mnS b [] L p true (n+1)=mnS b [] L p true n:=by
    show _++(match b.scenes[n]? with|none=>[]|some q=>elM [] L p true n q)=_
    rw[e2];simp
   rw[k1,k2];exact ih
  ·rw[mnS_at e1,mnS_at e2,sum_app,sum_app]
   unfold elM
   rw[e3]
   by_cases hc:r.part≠p∨(n:Int)∈L
   ·rw[if_pos hc,if_pos hc];omega
   ·rw[if_neg hc,if_neg hc]
    show _+(q.hi+0)≤_+(r.hi+0)
    omega
theorem esy_cl(h:Esy b d)(L:List Int):∀p,clS d [] L true p≤clS b [] L true p:=by
 intro p
 induction p with
 |zero=>exact h.bg
 |succ p ih=>
  have h1:=esy_mn h L p b.scenes.length
  have h2:=h.op p
  show max (clS d [] L true p) ((d.opens[p]?).getD 0)+sumI (mnS d [] L p true d.scenes.length)≤max (clS b [] L true p) ((b.opens[p]?).getD 0)+_
  rw[h.sn]
  omega
theorem esy_fit(h:Esy b d){L:List Int}(hf:fitB b [] L=true):fitB d [] L=true:=by
 rw[fit_iff]at hf ⊢
 intro p hp
 have h1:=hf p hp
 have h2:=esy_cl h L (p+1)
 have h3:=h.en p
 omega
theorem esy_must(h:Esy b d)(i:Nat):zEs d i=zEs b i:=by
 unfold zEs
 rcases h.two i with ⟨e1,e2⟩|⟨q,r,e1,e2,e3,e4,e5,e6⟩
 ·rw[e1,e2]
 ·rw[e1,e2];exact e5
theorem esy_wt(h:Esy b d)(L:List Int):wt d L=wt b L:=by
 have e:wtA d=wtA b:=by
  funext x
  unfold wtA
  rcases h.two x.toNat with ⟨e1,e2⟩|⟨q,r,e1,e2,e3,e4,e5,e6⟩
  ·rw[e1,e2]
  ·rw[e1,e2];exact e4
 unfold wt;rw[e]
theorem esy_chs(h:Esy b d)(L:List Int):L∈chs d []↔L∈chs b []:=by
 have e:∀P n,okN d [] P n=okN b [] P n:=fun P n=>by
  have e1:∀lv i,canB d [] lv i=canB b [] lv i:=fun lv i=>by unfold canB;rw[esy_must h]
  induction n with
  |zero=>rfl
  |succ n ih=>
   have h1:=zEF (b:=d) (d:=[]) (P:=P) (n+1)
   have h2:=zEF (b:=b) (d:=[]) (P:=P) (n+1)
   simp only[e1]at h1
   exact Bool.eq_iff_iff.2 (h1.trans h2.symm)
 rw[mem_chs,mem_chs,h.sn]
 simp only[e]
theorem esy_lgt(h:Esy b d){m:List Int}(hm:lgt b []=some m):∃m2,lgt d []=some m2∧m2∈chs b []∧wt b m2≤wt b m:=by
 obtain⟨⟨h1,h2⟩,_⟩:=zBs hm
 have g1:=(esy_chs h m).2 h1
 have g2:=esy_fit h h2
 cases ho:lgt d []with
 |none=>rw[lgt_none ho m g1]at g2;cases g2
 |some m2=>
  obtain⟨⟨k1,_⟩,k2⟩:=zBs ho
  refine⟨m2,rfl,(esy_chs h m2).1 k1,?_⟩
  have k3:=k2 m g1 g2
  have k3: ¬ (ltB (wt d) m m2=true):=by rw[k3];decide
  rw[zGY,esy_wt h,esy_wt h]at k3
  by_cases k4:wt b m<wt b m2
  ·exact absurd (.inl k4) k3
  ·omega
theorem esy_self(b:Bk):Esy b b:=⟨Int.le_refl _,fun _=>Int.le_refl _,fun _=>Int.le_refl _,rfl,fun i q r h1 h2=>by rw[h1]at h2;cases h2;exact⟨rfl,rfl,rfl,Int.le_refl _⟩⟩
end Go.Proofs.YtlknfhjfkcboiaaDoor.night
