import Derived.Test.YtfbmlibilcjlgaaDoorVamT16
set_option linter.unusedVariables false
set_option linter.unusedSimpArgs false
set_option linter.constructorNameAsVariable false
namespace Go.Proofs.YtfbmlibilcjlgaaDoor.drumEasier
open Vam
variable {is:FuncId→Bool}{orc:Known}{b x:Bk}
structure Esy(b x:Bk):Prop where
 pa:x.parts=b.parts
 sz:x.size=b.size
 be:x.beats=b.beats
 st:x.start=b.start
 fi:x.fin=b.fin
 ti:x.tlo≤b.tlo∧b.thi≤x.thi
 sh:x.shi≤b.shi
 pl:∀(j:Nat) (q:Pl),x.players[j]? =some q→∃p:Pl,b.players[j]? =some p∧q.lb≤p.lb∧∀(k:Nat) (c d:Two),q.cat[k]? =some c→p.cat[k]? =some d→d.a≤c.a
theorem esy_pok(h:Esy b x){L:List Int}:POk x L↔POk b L:=
 ⟨fun k=>⟨by rw[←h.pa];exact k.len,k.rg,by rw[←h.st];exact k.st,k.nr⟩,fun k=>⟨by rw[h.pa];exact k.len,k.rg,by rw[h.st];exact k.st,k.nr⟩⟩
theorem esy_slip(hb:BOk b)(hx:BOk x)(h:Esy b x)(L:List Int)(n:Nat):zBf x true L n≤zBf b true L n:=by
 have:=hb.sl
 have:=hx.sl
 have:=h.sh
 unfold zBf
 rw[h.sz]
 split
 ·omega
 ·show x.shi≤b.shi;omega
theorem esy_cat{p q:Pl}(hp:p.cat.length=4∧∀c∈p.cat,0≤c.a∧c.a≤c.b∧c.b≤100)(hq:q.cat.length=4∧∀c∈q.cat,0≤c.a∧c.a≤c.b∧c.b≤100)(h:∀(k:Nat) (c d:Two),q.cat[k]? =some c→p.cat[k]? =some d→d.a≤c.a){v:Int}(hv:0≤v∧v≤3):catI false p v≤catI false q v:=by
 unfold catI
 have h1:p.cat[v.toNat]? =some (p.cat[v.toNat]'(by omega)):=List.getElem?_eq_getElem (by omega)
 have h2:q.cat[v.toNat]? =some (q.cat[v.toNat]'(by omega)):=List.getElem?_eq_getElem (by omega)
 have:=h _ _ _ h2 h1
 rw[h1,h2];exact this
theorem esy_aft(hb:BOk b)(hx:BOk x)(h:Esy b x){L:List Int}(hL:∀y∈L,0≤y∧y≤3){j:Nat}{p q:Pl}(hp:b.players[j]? =some p)(hq:x.players[j]? =some q)(n:Nat):aftI x true L q n≤aftI b true L p n:=by
 obtain⟨p2,hp2,h1,h2⟩:=h.pl j q hq
 rw[hp]at hp2;cases hp2
 induction n with
 |zero=>exact h1
 |succ n ih=>
  have hs:=esy_slip hb hx h L n
  have hc:=esy_cat (pl_ok hb hp).2 (pl_ok hx hq).2 h2 (rg_at hL (n / b.size.toNat))
  show max 0 (aftI x true L q n+zBf x true L n - catI false q ((L[n / x.size.toNat]?).getD 0))≤max 0 (aftI b true L p n+zBf b true L n - catI false p ((L[n / b.size.toNat]?).getD 0))
  rw[h.sz];omega
theorem esy_last(h:Esy b x)(L:List Int)(n:Nat):zBI x L n=zBI b L n:=by
 induction n with
 |zero=>rfl
 |succ n ih=>
  show zBI x L n+x.size*zDd x _=zBI b L n+b.size*zDd b _
  unfold zDd
  rw[ih,h.sz,h.be]
theorem esy_plan(hb:BOk b)(hx:BOk x)(h:Esy b x){L:List Int}(hL:∀y∈L,0≤y∧y≤3)(k:zEM b L=true):zEM x L=true:=by
 unfold zEM at k ⊢
 rw[esy_last h,h.pa,h.sz,h.fi]
 rw[Bool.and_eq_true,Bool.and_eq_true]at k ⊢
 obtain⟨k1,k2,k3⟩:=k
 have ht:=h.ti
 refine⟨k1,zDb.2 (by have:=zDb.1 k2;omega),?_⟩
 rw[zero_iff]at k3 ⊢
 have key:∀j,aftF b true L (b.parts*b.size).toNat j=0→aftF x true L (b.parts*b.size).toNat j=0:=fun j hj=>by
  cases hq:x.players[j]? with
  |none=>unfold aftF;rw[hq]
  |some q=>
   obtain⟨p,hp,_⟩:=h.pl j q hq
   have h1:=esy_aft hb hx h hL hp hq (b.parts*b.size).toNat
   have h2:=(aft_b hx true L hL (pl_ok hx hq) (b.parts*b.size).toNat).1
   unfold aftF at hj ⊢
   rw[hp]at hj
   rw[hq]
   simp only at hj ⊢
   omega
 exact⟨key 0 k3.1,key 1 k3.2.1,key 2 k3.2.2.1,key 3 k3.2.2.2.1,key 4 k3.2.2.2.2⟩
theorem esy_lvP(h:Esy b x):∀(r:Nat) (p:List Int),lvP x r p=lvP b r p:=by
 intro r
 induction r with
 |zero=>intro p;rfl
 |succ r ih=>
  intro p
  show(List.range 4).flatMap _=(List.range 4).flatMap _
  have e:∀d:Int,exB x p d=exB b p d:=fun d=>by unfold exB;rw[h.st]
  simp only[e,ih]
theorem esy_many(hb:BOk b)(hx:BOk x)(h:Esy b x):(zBz b).length≤(zBz x).length:=by
 unfold zBz paths
 rw[h.pa,esy_lvP h,←List.countP_eq_length_filter,←List.countP_eq_length_filter]
 refine List.countP_mono_left fun L hL k=>esy_plan hb hx h ?_ k
 exact((mem_paths hb).1 hL).rg
theorem esy_held(hb:BOk b)(hx:BOk x)(h:Esy b x){p q:Pl}(hp:b.players[0]? =some p)(hq:x.players[0]? =some q)(late:Int):Esy (zBB b 0 0 late) (zBB x 0 0 late):=by
 rw[zDc hp,zDc hq]
 refine⟨h.pa,h.sz,h.be,h.st,h.fi,h.ti,h.sh,fun j r hr=>?_⟩
 obtain⟨p2,hp2,_,hc⟩:=h.pl 0 q hq
 rw[hp]at hp2;cases hp2
 have hpl:=(List.getElem?_eq_some_iff.1 hp).1
 have hr:(x.players.set 0 ⟨0,late,q.cat⟩)[j]? =some r:=hr
 show ∃p',(b.players.set 0 ⟨0,late,p.cat⟩)[j]? =some p'∧_
 rw[List.getElem?_set]at hr ⊢
 by_cases e:0=j
 ·subst e
  rw[if_pos rfl]at hr ⊢
  split at hr
  ·cases hr
   rw[if_pos hpl]
   exact⟨_,rfl,Int.le_refl _,hc⟩
  ·cases hr
 ·rw[if_neg e]at hr ⊢
  exact h.pl j r hr
theorem esy_bound(hb:BOk b)(hx:BOk x)(h:Esy b x){p q:Pl}(hp:b.players[0]? =some p)(hq:x.players[0]? =some q){m n:Nat}(hm:Least (noP b 0) 501 m)(hn:Least (noP x 0) 501 n):m≤n:=by
 rcases Nat.lt_or_ge n m with h1|h1
 ·have k1:=hm.lo n h1
  have k2:=hn.hi n (Nat.le_refl _) (by have:=hm.le;omega)
  have hl:=hm.le
  unfold noP at k1 k2
  rw[Bool.not_eq_false',decide_eq_true_iff]at k1
  rw[Bool.not_eq_true',decide_eq_false_iff_not]at k2
  have k3:=esy_many (zGK hb hp (lo:=0) (hg:=n) (by omega)) (zGK hx hq (lo:=0) (hg:=n) (by omega)) (esy_held hb hx h hp hq n)
  refine absurd (fun h2=>k1 ?_) k2
  rw[h2]at k3
  exact List.eq_nil_of_length_eq_zero (by simpa using k3)
 ·exact h1
theorem esy_set(hb:BOk b){i:Nat}{p q:Pl}(hp:b.players[i]? =some p)(hq:(0≤q.la∧q.la≤q.lb∧q.lb≤500)∧q.cat.length=4∧∀c∈q.cat,0≤c.a∧c.a≤c.b∧c.b≤100)(hl:q.lb≤p.lb)(hc:∀(k:Nat) (c d:Two),q.cat[k]? =some c→p.cat[k]? =some d→d.a≤c.a):
  BOk ⟨b.parts,b.size,b.beats,b.start,b.fin,b.tlo,b.thi,b.slo,b.shi,b.notice,b.players.set i q⟩∧Esy b ⟨b.parts,b.size,b.beats,b.start,b.fin,b.tlo,b.thi,b.slo,b.shi,b.notice,b.players.set i q⟩:=by
 have hil:=(List.getElem?_eq_some_iff.1 hp).1
 constructor
 ·refine⟨hb.n4,by show 1≤(b.players.set i _).length∧(b.players.set i _).length≤5;rw[List.length_set];exact hb.pn,fun r hr=>?_,hb.pa,hb.sz,hb.bt,hb.st,hb.fi,hb.ti,hb.sl,hb.no⟩
  rcases List.mem_or_eq_of_mem_set (show r∈b.players.set i _ from hr)with hr|rfl
  ·exact hb.pl r hr
  ·exact hq
 ·refine⟨rfl,rfl,rfl,rfl,rfl,⟨Int.le_refl _,Int.le_refl _⟩,Int.le_refl _,fun j r hr=>?_⟩
  have hr:(b.players.set i q)[j]? =some r:=hr
  rw[List.getElem?_set]at hr
  by_cases e:i=j
  ·subst e
   rw[if_pos rfl,if_pos hil]at hr
   cases hr
   exact⟨p,hp,hl,hc⟩
  ·rw[if_neg e]at hr
   exact⟨r,hr,Int.le_refl _,fun k c d h1 h2=>by rw[h1]at h2;cases h2;exact Int.le_refl _⟩
end Go.Proofs.YtfbmlibilcjlgaaDoor.drumEasier
