import Derived.Test.YtfbmlibilcjlgaaDoorVamT12
set_option linter.unusedVariables false
set_option linter.unusedSimpArgs false
set_option linter.constructorNameAsVariable false
namespace Go.Proofs.YtfbmlibilcjlgaaDoor.drumPlans
open Vam
variable {is:FuncId→Bool}{orc:Known}
theorem lat_nil{f:Nat→Int}:∀n,latS f n=[]↔ ∀i,i<n→f i≤0:=by
 intro n
 constructor
 ·intro h i hi
  by_cases hf:0<f i
  ·have:=(mem_lat (f:=f) (n:=n) (i:=i)).2 ⟨hi,hf⟩
   rw[h]at this;cases this
  ·omega
 ·intro h
  cases hl:latS f n with
  |nil=>rfl
  |cons x l=>
   have hx:x∈latS f n:=by rw[hl];exact List.mem_cons_self
   have hb:=lat_lt x hx
   obtain⟨i,rfl⟩:∃i:Nat,x=i:=⟨x.toNat,by omega⟩
   have:=mem_lat.1 hx
   have:=h i this.1
   omega
theorem zero_lat{b:Bk}(hb:BOk b){L:List Int}(hL:∀x∈L,0≤x∧x≤3)(N:Nat):zeroB (aftF b true L N)=decide ((latS (aftF b true L N) b.players.length).length=0):=by
 have hpn:=hb.pn
 have hz:∀i,0≤aftF b true L N i∧(b.players.length≤i→aftF b true L N i=0):=fun i=>by
  unfold aftF
  constructor
  ·cases hp:b.players[i]? with
   |none=>exact Int.le_refl _
   |some p=>exact(aft_b hb true L hL (pl_ok hb hp) N).1
  ·intro h;rw[List.getElem?_eq_none h]
 generalize aftF b true L N=f at*
 have e:(latS f b.players.length).length=0↔ ∀i,i<b.players.length→f i≤0:=by rw[List.length_eq_zero_iff];exact lat_nil _
 have k:(f 0=0∧f 1=0∧f 2=0∧f 3=0∧f 4=0)↔ ∀i,i<b.players.length→f i≤0:=by
  constructor
  ·intro h i hi
   have hi5:i=0∨i=1∨i=2∨i=3∨i=4:=by omega
   rcases hi5 with rfl|rfl|rfl|rfl|rfl<;>omega
  ·intro h
   have g:∀i,f i=0:=fun i=>by
    have h1:=hz i
    by_cases hi:i<b.players.length
    ·have:=h i hi;omega
    ·exact h1.2 (by omega)
   exact⟨g 0,g 1,g 2,g 3,g 4⟩
 have d:decide (f 0=0∧f 1=0∧f 2=0∧f 3=0∧f 4=0)=decide ((latS f b.players.length).length=0):=decide_eq_decide.2 (k.trans e.symm)
 unfold zeroB
 rw[←d]
 simp only[Bool.decide_and]
end Go.Proofs.YtfbmlibilcjlgaaDoor.drumPlans
