import Derived.Test.YtinhcdijbcamaaaVamT8
set_option linter.unusedVariables false
set_option linter.unusedSimpArgs false
set_option linter.constructorNameAsVariable false
namespace Go.Proofs.Ytinhcdijbcamaaa.tuneApart
open Vam
variable {t:Ts}{J:List Jn}{v x:Int}
abbrev TunT(t:Ts)(J:List Jn)(p:Int→Int):Prop:=Tun J (hloT t) (hhiT t) t.heard.length p
def TunE(t:Ts)(J:List Jn):Prop:=∃p,TunT t J p
theorem TOk.sok(h:TOk t):SOk t (joinsI t):=by
 have hv:=(valid_iff t).2 h
 unfold validI at hv
 rw[Bool.and_eq_true,Bool.and_eq_true,Bool.and_eq_true,Bool.and_eq_true]at hv
 obtain⟨_,hB,hC,hD,_⟩:=hv
 have hj:=joins_ok h.n8 hB hC hD
 exact⟨h.n1,h.n8,h.hd,fun j hj'=>(hj j hj').1,fun j hj'=>(hj j hj').2,by have:=joins_len h.sh;omega,h.ac⟩
def InH(t:Ts)(v x:Int):Prop:=hloT t v≤x∧x≤hhiT t v
theorem ut_some{s:Bool}{i:Nat}(h:utI t J s v=some i):i<(hhiT t v+1 - hloT t v).toNat∧canS t J v (pI s (hloT t v) (hhiT t v) i) (-1)=true∧∀j,j<i→canS t J v (pI s (hloT t v) (hhiT t v) j) (-1)=false:=by
 unfold utI at h
 obtain⟨h1,xs,ys,h2,h3⟩:=List.find?_eq_some_iff_append.1 h
 have hm:i∈List.range (hhiT t v+1 - hloT t v).toNat:=by rw[h2];simp
 have hlt:=List.mem_range.1 hm
 have hlen:xs.length=i:=by
  have:=congrArg (fun l=>l[xs.length]?) h2
  rw[List.getElem?_append_right (Nat.le_refl _),Nat.sub_self]at this
  obtain⟨hl,he⟩:=List.getElem?_eq_some_iff.1 this
  rw[List.getElem_range]at he;exact he
 refine⟨hlt,h1,fun j hj=>?_⟩
 have hin:j∈xs:=by
  have h5:(List.range (hhiT t v+1 - hloT t v).toNat)[j]? =some j:=List.getElem?_range (by omega)
  rw[h2,List.getElem?_append_left (by omega)]at h5
  exact List.mem_of_getElem? h5
 have:=h3 j hin
 simpa using this
theorem pI_in{s:Bool}{i:Nat}(h:i<(hhiT t v+1 - hloT t v).toNat):InH t v (pI s (hloT t v) (hhiT t v) i):=by
 unfold InH;cases s<;>unfold pI<;>simp only<;>omega
def pX(s:Bool)(lo hi x:Int):Nat:=match s with|false=>(x - lo).toNat|true=>(hi - x).toNat
theorem pI_pX{s:Bool}{lo hi x:Int}(h:lo≤x∧x≤hi):pX s lo hi x<(hi+1 - lo).toNat∧pI s lo hi (pX s lo hi x)=x:=by cases s<;>unfold pI pX<;>simp only<;>omega
theorem ut_none{s:Bool}(h:utI t J s v=none):∀x,InH t v x→canS t J v x (-1)=false:=by
 intro x hx
 unfold utI at h
 rw[List.find?_eq_none]at h
 obtain⟨h1,h2⟩:=pI_pX (s:=s) hx
 have:=h _ (List.mem_range.2 h1)
 rw[h2]at this
 simpa using this
theorem tunB_iff(h:SOk t J):tunB t J=true↔TunE t J:=by
 unfold TunE
 rw[←h.jn.tunable_iff]
 unfold tunB
 rw[List.all_eq_true]
 constructor
 ·intro h1 v hv0 hv1
  have:=h1 v.toNat (List.mem_range.2 (by omega))
  rw[show((v.toNat:Nat):Int)=v by omega]at this
  obtain⟨i,hi⟩:=Option.isSome_iff_exists.1 this
  obtain⟨a,b,_⟩:=ut_some hi
  have:=pI_in (s:=false) a
  exact⟨_,this.1,this.2,b⟩
 ·intro h1 v hv
  obtain⟨x,a,b,c⟩:=h1 v (by omega) (by have:=List.mem_range.1 hv;omega)
  cases hu:utI t J false v with
  |some i=>rfl
  |none=>
   have:=ut_none hu x ⟨a,b⟩
   rw[show canS t J (v:Int) x (-1)=true from c]at this;cases this
theorem can_t(h:SOk t J)(ht:TunE t J)(hv:0≤v∧v<(t.heard.length:Int))(hx:InH t v x):canS t J v x (-1)=true↔ ∃p,TunT t J p∧p v=x:=h.jn.can_iff ht hv hx
def Least(t:Ts)(J:List Jn)(f:(Int→Int)→Int)(m:Int):Prop:=(∃p,TunT t J p∧f p=m)∧∀p,TunT t J p→m≤f p
def Most(t:Ts)(J:List Jn)(f:(Int→Int)→Int)(m:Int):Prop:=(∃p,TunT t J p∧f p=m)∧∀p,TunT t J p→f p≤m
theorem ut_ex(h:SOk t J)(ht:TunE t J)(s:Bool)(hv:0≤v∧v<(t.heard.length:Int)):∃i,utI t J s v=some i:=by
 cases hu:utI t J s v with
 |some i=>exact⟨i,rfl⟩
 |none=>
  obtain⟨p,hp⟩:=ht
  have hin:InH t v (p v):=hp.1 v hv.1 hv.2
  have:=ut_none hu _ hin
  rw[(can_t h ⟨p,hp⟩ hv hin).2 ⟨p,hp,rfl⟩]at this;cases this
theorem ut_low(h:SOk t J)(ht:TunE t J)(hv:0≤v∧v<(t.heard.length:Int)):Least t J (fun p=>p v) (utP t J false v):=by
 obtain⟨i,hi⟩:=ut_ex h ht false hv
 obtain⟨a,b,c⟩:=ut_some hi
 have hin:=pI_in (s:=false) a
 have e:utP t J false v=hloT t v+i:=by unfold utP;rw[hi];rfl
 refine⟨?_,fun p hp=>?_⟩
 ·rw[e];exact(can_t h ht hv hin).1 b
 ·rw[e]
  have hpv:InH t v (p v):=hp.1 v hv.1 hv.2
  by_cases hlt:hloT t v+i≤p v
  ·exact hlt
  ·exfalso
   have:=c (p v - hloT t v).toNat (by have:=hpv.1;omega)
   rw[show pI false (hloT t v) (hhiT t v) (p v - hloT t v).toNat=p v by unfold pI;simp only;have:=hpv.1;omega,(can_t h ht hv hpv).2 ⟨p,hp,rfl⟩]at this
   cases this
theorem ut_high(h:SOk t J)(ht:TunE t J)(hv:0≤v∧v<(t.heard.length:Int)):Most t J (fun p=>p v) (utP t J true v):=by
 obtain⟨i,hi⟩:=ut_ex h ht true hv
 obtain⟨a,b,c⟩:=ut_some hi
 have hin:=pI_in (s:=true) a
 have e:utP t J true v=hhiT t v - i:=by unfold utP;rw[hi];rfl
 refine⟨?_,fun p hp=>?_⟩
 ·rw[e];exact(can_t h ht hv hin).1 b
 ·rw[e]
  have hpv:InH t v (p v):=hp.1 v hv.1 hv.2
  by_cases hlt:p v≤hhiT t v - i
  ·exact hlt
  ·exfalso
   have:=c (hhiT t v - p v).toNat (by have:=hpv.2;omega)
   rw[show pI true (hloT t v) (hhiT t v) (hhiT t v - p v).toNat=p v by unfold pI;simp only;have:=hpv.2;omega,(can_t h ht hv hpv).2 ⟨p,hp,rfl⟩]at this
   cases this
def narrow(t:Ts)(v x:Int):Ts:={t with heard:=t.heard.set v.toNat ⟨x,x⟩}
theorem narrow_lo(hv:0≤v∧v<(t.heard.length:Int))(u:Int)(hu:0≤u):hloT (narrow t v x) u=if u=v then x else hloT t u:=by
 unfold hloT narrow
 simp only[List.getElem?_set]
 by_cases e:u=v
 ·subst e;rw[if_pos rfl,if_pos rfl,if_pos (by omega)];rfl
 ·rw[if_neg e,if_neg (by omega)]
theorem narrow_hi(hv:0≤v∧v<(t.heard.length:Int))(u:Int)(hu:0≤u):hhiT (narrow t v x) u=if u=v then x else hhiT t u:=by
 unfold hhiT narrow
 simp only[List.getElem?_set]
 by_cases e:u=v
 ·subst e;rw[if_pos rfl,if_pos rfl,if_pos (by omega)];rfl
 ·rw[if_neg e,if_neg (by omega)]
theorem narrow_sok(h:SOk t J)(hx:1≤x∧x≤4000):SOk (narrow t v x) J:=by
 have hl:(narrow t v x).heard.length=t.heard.length:=by unfold narrow;simp
 refine⟨by rw[hl];exact h.n1,by rw[hl];exact h.n8,fun q hq=>?_,h.jv,by rw[hl];exact h.jr,h.jl,h.ac⟩
 rcases List.mem_or_eq_of_mem_set hq with hq|rfl
 ·exact h.hd q hq
 ·exact⟨hx.1,Int.le_refl _,hx.2,by show x - x≤40;omega⟩
theorem narrow_tun(hv:0≤v∧v<(t.heard.length:Int))(hx:InH t v x)(p:Int→Int):TunT (narrow t v x) J p↔TunT t J p∧p v=x:=by
 have hl:(narrow t v x).heard.length=t.heard.length:=by unfold narrow;simp
 unfold TunT Tun
 rw[hl]
 constructor
 ·rintro⟨h1,h2⟩
  have hvv:=h1 v hv.1 hv.2
  rw[narrow_lo hv v hv.1,narrow_hi hv v hv.1,if_pos rfl,if_pos rfl]at hvv
  refine⟨⟨fun u hu0 hu1=>?_,h2⟩,by omega⟩
  have:=h1 u hu0 hu1
  rw[narrow_lo hv u hu0,narrow_hi hv u hu0]at this
  by_cases e:u=v
  ·subst e;have:=hx.1;have:=hx.2;omega
  ·rwa [if_neg e,if_neg e]at this
 ·rintro⟨⟨h1,h2⟩,h3⟩
  refine⟨fun u hu0 hu1=>?_,h2⟩
  rw[narrow_lo hv u hu0,narrow_hi hv u hu0]
  by_cases e:u=v
  ·subst e;rw[if_pos rfl,if_pos rfl];omega
  ·rw[if_neg e,if_neg e];exact h1 u hu0 hu1
def xs0(t:Ts)(J:List Jn)(a:Int)(n:Nat):List Int:=((List.range n).map fun i:Nat=>hloT t a+i).filter fun x=>canS t J a x (-1)
def apL(t:Ts)(J:List Jn)(a b:Int)(s:Bool)(n:Nat):List Int:=(xs0 t J a n).map fun x=>utP (narrow t a x) J s b - x
def apN(t:Ts)(a:Int):Nat:=(hhiT t a+1 - hloT t a).toNat
def apI(t:Ts)(J:List Jn)(a b:Int)(s:Bool):Int:=match s with
 |false=>(apL t J a b false (apN t a)).foldl min ((apL t J a b false (apN t a)).headD 0)
 |true=>(apL t J a b true (apN t a)).foldl max ((apL t J a b true (apN t a)).headD 0)
theorem foldmin_spec:∀(l:List Int) (a:Int),l.foldl min a≤a∧(∀x∈l,l.foldl min a≤x)∧(l.foldl min a=a∨l.foldl min a∈l):=by
 intro l
 induction l with
 |nil=>intro a;simp
 |cons y l ih=>
  intro a
  obtain⟨h1,h2,h3⟩:=ih (min a y)
  show l.foldl min (min a y)≤a∧(∀x∈y::l,l.foldl min (min a y)≤x)∧(l.foldl min (min a y)=a∨l.foldl min (min a y)∈y::l)
  refine⟨by omega,fun x hx=>?_,?_⟩
  ·rcases List.mem_cons.1 hx with rfl|hx
   ·omega
   ·exact h2 x hx
  ·rcases h3 with h3|h3
   ·rcases Int.le_total a y with h|h
    ·left;omega
    ·right;rw[h3,Int.min_eq_right h];exact List.mem_cons_self
   ·right;exact List.mem_cons_of_mem _ h3
theorem foldmax_spec:∀(l:List Int) (a:Int),a≤l.foldl max a∧(∀x∈l,x≤l.foldl max a)∧(l.foldl max a=a∨l.foldl max a∈l):=by
 intro l
 induction l with
 |nil=>intro a;simp
 |cons y l ih=>
  intro a
  obtain⟨h1,h2,h3⟩:=ih (max a y)
  show a≤l.foldl max (max a y)∧(∀x∈y::l,x≤l.foldl max (max a y))∧(l.foldl max (max a y)=a∨l.foldl max (max a y)∈y::l)
  refine⟨by omega,fun x hx=>?_,?_⟩
  ·rcases List.mem_cons.1 hx with rfl|hx
   ·omega
   ·exact h2 x hx
  ·rcases h3 with h3|h3
   ·rcases Int.le_total a y with h|h
    ·right;rw[h3,Int.max_eq_right h];exact List.mem_cons_self
    ·left;omega
   ·right;exact List.mem_cons_of_mem _ h3
theorem mem_xs0{a x:Int}{n:Nat}:x∈xs0 t J a n↔(∃i:Nat,i<n∧x=hloT t a+i)∧canS t J a x (-1)=true:=by
 unfold xs0
 rw[List.mem_filter,List.mem_map]
 constructor
 ·rintro⟨⟨i,hi,rfl⟩,h⟩
  exact⟨⟨i,List.mem_range.1 hi,rfl⟩,h⟩
 ·rintro⟨⟨i,hi,rfl⟩,h⟩
  exact⟨⟨i,List.mem_range.2 hi,rfl⟩,h⟩
theorem mem_xsN{a x:Int}:x∈xs0 t J a (apN t a)↔InH t a x∧canS t J a x (-1)=true:=by
 rw[mem_xs0]
 unfold InH apN
 constructor
 ·rintro⟨⟨i,hi,rfl⟩,h⟩
  exact⟨by omega,h⟩
 ·rintro⟨h1,h2⟩
  exact⟨⟨(x - hloT t a).toNat,by omega,by omega⟩,h2⟩
theorem in_pos(h:SOk t J){a x:Int}(ha:0≤a∧a<(t.heard.length:Int))(hx:InH t a x):1≤x∧x≤4000:=by
 obtain⟨q,_,e1,e2,hq⟩:=h.key ha
 unfold InH at hx
 rw[e1,e2]at hx
 omega
theorem ap_low(h:SOk t J)(ht:TunE t J){a b:Int}(ha:0≤a∧a<(t.heard.length:Int))(hb:0≤b∧b<(t.heard.length:Int)):Least t J (fun p=>p b - p a) (apI t J a b false):=by
 have hb':∀x,0≤b∧b<((narrow t a x).heard.length:Int):=fun x=>by unfold narrow;simpa using hb
 have key:∀x,InH t a x→canS t J a x (-1)=true→Least (narrow t a x) J (fun p=>p b) (utP (narrow t a x) J false b):=fun x hx hc=>by
  obtain⟨p,hp,e⟩:=(can_t h ht ha hx).1 hc
  exact ut_low (narrow_sok h (in_pos h ha hx)) ⟨p,(narrow_tun ha hx p).2 ⟨hp,e⟩⟩ (hb' x)
 obtain⟨p0,hp0⟩:=ht
 have hin0:InH t a (p0 a):=hp0.1 a ha.1 ha.2
 have hc0:=(can_t h ⟨p0,hp0⟩ ha hin0).2 ⟨p0,hp0,rfl⟩
 have hm0:p0 a∈xs0 t J a (apN t a):=mem_xsN.2 ⟨hin0,hc0⟩
 obtain⟨L,hL⟩:∃L,L=apL t J a b false (apN t a):=⟨_,rfl⟩
 have hLne:L.headD 0∈L:=by
  have:utP (narrow t a (p0 a)) J false b - p0 a∈L:=by rw[hL];exact List.mem_map.2 ⟨_,hm0,rfl⟩
  cases L with
  |nil=>cases this
  |cons y L=>exact List.mem_cons_self
 obtain⟨f1,f2,f3⟩:=foldmin_spec L (L.headD 0)
 have e:apI t J a b false=L.foldl min (L.headD 0):=by rw[hL];rfl
 rw[e]
 refine⟨?_,fun p hp=>?_⟩
 ·have hmem : L.foldl min (L.headD 0) ∈ L := by rcases f3 with f3 | f3
                                                · rw[f3];exact hLne
                                                · exact f3
  generalize L.foldl min (L.headD 0)=m at hmem
  rw[hL]at hmem
  obtain⟨x,hx,e2⟩:=List.mem_map.1 hmem
  obtain⟨hx1,hx2⟩:=mem_xsN.1 hx
  obtain⟨⟨p,hp,ep⟩,_⟩:=key x hx1 hx2
  obtain⟨hp1,hp2⟩:=(narrow_tun ha hx1 p).1 hp
  have ep:p b=_:=ep
  exact⟨p,hp1,by show p b - p a=_;rw[←e2,ep,hp2]⟩
 ·have hin:InH t a (p a):=hp.1 a ha.1 ha.2
  have hc:=(can_t h ⟨p0,hp0⟩ ha hin).2 ⟨p,hp,rfl⟩
  have hk:=(key _ hin hc).2 p ((narrow_tun ha hin p).2 ⟨hp,rfl⟩)
  have:=f2 (utP (narrow t a (p a)) J false b - p a) (by rw[hL];exact List.mem_map.2 ⟨_,mem_xsN.2 ⟨hin,hc⟩,rfl⟩)
  show _≤p b - p a
  have hk:utP (narrow t a (p a)) J false b≤p b:=hk
  omega
theorem ap_high(h:SOk t J)(ht:TunE t J){a b:Int}(ha:0≤a∧a<(t.heard.length:Int))(hb:0≤b∧b<(t.heard.length:Int)):Most t J (fun p=>p b - p a) (apI t J a b true):=by
 have hb':∀x,0≤b∧b<((narrow t a x).heard.length:Int):=fun x=>by unfold narrow;simpa using hb
 have key:∀x,InH t a x→canS t J a x (-1)=true→Most (narrow t a x) J (fun p=>p b) (utP (narrow t a x) J true b):=fun x hx hc=>by
  obtain⟨p,hp,e⟩:=(can_t h ht ha hx).1 hc
  exact ut_high (narrow_sok h (in_pos h ha hx)) ⟨p,(narrow_tun ha hx p).2 ⟨hp,e⟩⟩ (hb' x)
 obtain⟨p0,hp0⟩:=ht
 have hin0:InH t a (p0 a):=hp0.1 a ha.1 ha.2
 have hc0:=(can_t h ⟨p0,hp0⟩ ha hin0).2 ⟨p0,hp0,rfl⟩
 have hm0:p0 a∈xs0 t J a (apN t a):=mem_xsN.2 ⟨hin0,hc0⟩
 obtain⟨L,hL⟩:∃L,L=apL t J a b true (apN t a):=⟨_,rfl⟩
 have hLne:L.headD 0∈L:=by
  have:utP (narrow t a (p0 a)) J true b - p0 a∈L:=by rw[hL];exact List.mem_map.2 ⟨_,hm0,rfl⟩
  cases L with
  |nil=>cases this
  |cons y L=>exact List.mem_cons_self
 obtain⟨f1,f2,f3⟩:=foldmax_spec L (L.headD 0)
 have e:apI t J a b true=L.foldl max (L.headD 0):=by rw[hL];rfl
 rw[e]
 refine⟨?_,fun p hp=>?_⟩
 ·have hmem : L.foldl max (L.headD 0) ∈ L := by rcases f3 with f3 | f3
                                                · rw[f3];exact hLne
                                                · exact f3
  generalize L.foldl max (L.headD 0)=m at hmem
  rw[hL]at hmem
  obtain⟨x,hx,e2⟩:=List.mem_map.1 hmem
  obtain⟨hx1,hx2⟩:=mem_xsN.1 hx
  obtain⟨⟨p,hp,ep⟩,_⟩:=key x hx1 hx2
  obtain⟨hp1,hp2⟩:=(narrow_tun ha hx1 p).1 hp
  have ep:p b=_:=ep
  exact⟨p,hp1,by show p b - p a=_;rw[←e2,ep,hp2]⟩
 ·have hin:InH t a (p a):=hp.1 a ha.1 ha.2
  have hc:=(can_t h ⟨p0,hp0⟩ ha hin).2 ⟨p,hp,rfl⟩
  have hk:=(key _ hin hc).2 p ((narrow_tun ha hin p).2 ⟨hp,rfl⟩)
  have:=f2 (utP (narrow t a (p a)) J true b - p a) (by rw[hL];exact List.mem_map.2 ⟨_,mem_xsN.2 ⟨hin,hc⟩,rfl⟩)
  show p b - p a≤_
  have hk:p b≤utP (narrow t a (p a)) J true b:=hk
  omega
end Go.Proofs.Ytinhcdijbcamaaa.tuneApart
namespace Go.Proofs.Ytinhcdijbcamaaa.tuneApart
open Vam
variable {is:FuncId→Bool}{orc:Known}
theorem by26:Program.bytesOf Try.prog 26=16:=by kernel_rfl
theorem ap22_22:AppT Try.prog 22 22 26 2 16 ((.cons (.int .i64 0) (.cons (.int .i64 0) .nil)):V):=⟨ty22,⟨_,ty22⟩,cl26,by decide,by26,ze26,rfl⟩
noncomputable def b91:Code:=(Try.f91.body).getD .skip
theorem body91:bodyOf Try.prog 91=some (8,b91,[.tmp 2]):=by kernel_rfl
theorem pure91:pureFn Try.prog 91=false:=by kernel_rfl
theorem ze84:zeroL Try.prog 84=some ((.cons .nils (.cons .nils (.cons .nils (.cons (.int .i64 0) (.cons (.int .i64 0) (.cons .nils .nil)))))):V):=by kernel_rfl
noncomputable def b64:Code:=(Try.f64.body).getD .skip
theorem body64:bodyOf Try.prog 64=some (21,b64,[.cell 6 84]):=by kernel_rfl
theorem pure64:pureFn Try.prog 64=false:=by kernel_rfl
variable {t:Ts}{J:List Jn}{v x:Int}
theorem flat_twos(l:List Two):flatU (twosU l)=l.flatMap fun q=>[U.int .i64 q.a,.int .i64 q.b]:=by
 induction l with
 |nil=>rfl
 |cons q l ih=>show cellsU q.u++flatU (twosU l)=_;rw[ih];rfl
theorem flat_twos_dg(l:List Two):(flatU (twosU l)).map dg=flatU (twosU l):=by
 rw[flat_twos]
 induction l with
 |nil=>rfl
 |cons q l ih=>rw[List.flatMap_cons,List.map_append,ih];rfl
theorem flat_twos_one(l:List Two):(flatU (twosU l)).all oneU=true:=by
 rw[flat_twos]
 induction l with
 |nil=>rfl
 |cons q l ih=>rw[List.flatMap_cons,List.all_append,ih];rfl
theorem flat_twos_len(l:List Two):(flatU (twosU l)).length=2*l.length:=by
 rw[flat_twos]
 induction l with
 |nil=>rfl
 |cons q l ih=>rw[List.flatMap_cons,List.length_append,ih];simp;omega
theorem flat_twos_set(l:List Two)(i:Nat)(q:Two)(h:i<l.length):(flatU (twosU l)).take (0+i*2)++[U.int .i64 q.a,.int .i64 q.b]++(flatU (twosU l)).drop (0+i*2+2)=flatU (twosU (l.set i q)):=by
 rw[flat_twos,flat_twos,Nat.zero_add]
 induction l generalizing i with
 |nil=>simp at h
 |cons p l ih=>
  cases i with
  |zero=>simp
  |succ i=>
   have:=ih i (by simpa using h)
   rw[List.set_cons_succ,List.flatMap_cons,List.flatMap_cons,←this]
   rw[show(i+1)*2=i*2+1+1 by omega]
   simp[List.take_add,Nat.add_assoc]
theorem wpc91(l:List Two)(h1:1≤l.length)(h8:l.length≤8)(st:List SB):WpC Try.prog is orc 91 [.lst .ro 2 (twosU l)] st fun u st'=>u=.sl st.length 0 l.length 2∧st'=st++[.box (flatU (twosU l))]:=by
 refine wpc_of body91 pure91 rfl rfl ?_
 refine k_seq (k_region (o_assign rfl (o_nil (k_seq (k_seq (k_region (o_move rfl ?_)))))))
 refine o_eqNil rfl ty22 rfl (fun _=>rfl) fun b hb=>?_
 have hb:=hb (by cases l with
  |nil=>simp at h1
  |cons q l=>exact fun h=>by cases h)
 subst hb
 refine o_nil (k_cF rfl rfl ?_)
 refine k_skip (k_seq (k_region (o_lit (es:=[]) rfl ty22 ze26 cl26 rfl rfl rfl rfl rfl rfl rfl rfl ?_)))
 refine o_move rfl (o_appendB rfl ap22_22 rfl rfl (by simp) (by simp) (flat_twos_one l) (flat_twos_dg l) (List.length_map _) (by omega) (by omega) ?_)
 refine o_assign rfl (o_nil (k_ret ?_))
 exact⟨.inr rfl,_,.cons _ _ _ _ (.tmp 2) .nil,_,.refl _,rfl,rfl⟩
theorem o_seeE{P:Program}{sg:St}{all l:List Oper}{Q:St→Prop}(d:Nat){u w:U}{st:List SB}(hd:Nat.blt d 1024=true)(hn:∀v,ownId v u=none)(hw:sg.fr d=w)(he:sg.st=st)(hu:US st (.u w) (.u u))(k:WpO P is orc all l (sg.put d u) Q):WpO P is orc all l sg Q:=by
 subst hw;subst he;exact o_see d hd hn hu k
theorem nb_setC(t:Ts)(J:List Jn):NB (.agg (setC t J)):=(dat_set t J 0).nb
theorem no_agg(cs:List U):NoOwn (.agg cs):=fun _=>rfl
abbrev narC(t:Ts)(J:List Jn)(u:U):List U:=[u,.lst .ro 2 (sclsU t.scales),.lst .ro 2 (twosU t.pairs),.int .i64 t.lo,.int .i64 t.hi,.lst .ro 5 (jnsU J)]
set_option maxHeartbeats 8000000 in
theorem ret64(hi:Off is)(h1:1≤t.heard.length)(h8:t.heard.length≤8)(hv:0≤v∧v<(t.heard.length:Int)):RetP Try.prog is orc 64 [.agg (setC t J),.int .i64 v,.int .i64 x] (.agg (setC (narrow t v x) J)):=by
 refine ret_of_shared body64 pure64 rfl rfl (fun u hu=>by
  simp only[List.mem_cons,List.not_mem_nil,or_false]at hu
  rcases hu with rfl|rfl|rfl
  ·exact⟨nb_setC t J,no_agg _⟩
  ·exact⟨NB.int _ _,fun _=>rfl⟩
  ·exact⟨NB.int _ _,fun _=>rfl⟩) (nb_setC _ J) ?_
 have q92:=ret92 (orc:=orc) hi x
 have hset:=flat_twos_set t.heard v.toNat ⟨x,x⟩ (by omega)
 have hfl:=flat_twos_len t.heard
 refine k_seq (k_region (o_box rfl rfl (o_alloc rfl ze84 ?_)))
 refine o_nil ?_
 refine k_gen [(1,.int .i64 v),(2,.int .i64 x),(3,U.box 0 0),(6,U.box 1 0)] ([SB.box [.lst .ro 2 (twosU t.heard),.lst .ro 2 (sclsU t.scales),.lst .ro 2 (twosU t.pairs),.int .i64 t.lo,.int .i64 t.hi,.lst .ro 5 (jnsU J)],SB.box [.lst .full 0 [],.lst .full 0 [],.lst .full 0 [],.int .i64 0,.int .i64 0,.lst .full 0 []]]) (.c4 rfl rfl rfl rfl (.nil rfl)) rfl fun fr=>?_
 refine k_seq (k_region (o_faddr rfl rfl fld84_0 (o_faddr rfl rfl fld28_0 (o_load1 rfl rfl rfl sh22 rfl ?_))))
 (refine o_callW rfl (wpc91 t.heard h1 h8 _) (.lrefl _) (fun u st1 hM=>?_);obtain⟨rfl,rfl⟩:=hM)
 refine o_faddr rfl rfl fld84_0 (o_faddr rfl rfl fld28_0 (o_store1 rfl rfl sh22 rfl rfl (o_nil ?_)))
 refine k_gen [(1,.int .i64 v),(2,.int .i64 x),(3,U.box 0 0),(6,U.box 1 0)] ([SB.box [U.sl 2 0 t.heard.length 2,.lst .ro 2 (sclsU t.scales),.lst .ro 2 (twosU t.pairs),.int .i64 t.lo,.int .i64 t.hi,.lst .ro 5 (jnsU J)],SB.box [.lst .full 0 [],.lst .full 0 [],.lst .full 0 [],.int .i64 0,.int .i64 0,.lst .full 0 []],SB.box (flatU (twosU t.heard))]) (.c4 rfl rfl rfl rfl (.nil rfl)) rfl fun fr=>?_
 refine k_seq (k_draw [.plain,.plain,.read true,.plain,.plain,.read false,.plain,.plain] (by kernel_rfl) (by kernel_rfl) (by kernel_rfl) ?_)
 refine d_plain (o_faddr rfl rfl fld84_0 (o_nil rfl)) ?_
 refine d_plain (o_faddr rfl rfl fld28_0 (o_nil rfl)) ?_
 refine d_load rfl (o_load1 rfl rfl rfl sh22 rfl (o_nil rfl)) (d_plain (o_move rfl (o_nil rfl)) (d_plain (o_move rfl (o_nil rfl)) (d_callR rfl (ret92 hi ..) (flat_span _ _) (.lrefl _) ?_)))
 refine d_plain (o_idxS rfl ty22 rfl rfl (by omega) (by omega) cl26 (o_nil rfl)) ?_
 refine d_plain (o_storeNW rfl rfl sh26 rfl rfl rfl (by rw[hfl];omega) rfl hset (o_nil rfl)) ?_
 refine d_nil ?_
 refine k_gen [(3,U.box 0 0),(6,U.box 1 0)] ([SB.box [U.sl 2 0 t.heard.length 2,.lst .ro 2 (sclsU t.scales),.lst .ro 2 (twosU t.pairs),.int .i64 t.lo,.int .i64 t.hi,.lst .ro 5 (jnsU J)],SB.box [.lst .full 0 [],.lst .full 0 [],.lst .full 0 [],.int .i64 0,.int .i64 0,.lst .full 0 []],SB.box (flatU (twosU (List.set t.heard (Int.toNat v) {a:=x,b:=x})))]) (.cons rfl (.cons rfl (.nil rfl))) rfl fun fr=>?_
 have hfs:flatU (twosU (narrow t v x).heard)=((flatU (twosU (narrow t v x).heard)).drop 0).take (t.heard.length*2):=by
  rw[List.drop_zero,List.take_of_length_le (by rw[flat_twos_len];unfold narrow;simp;omega)]
 have hez:∀e∈twosU (narrow t v x).heard,(cellsU e).length=2:=fun e he=>by
  obtain⟨q,_,rfl⟩:=List.mem_map.1 he;rfl
 have hel:(twosU (narrow t v x).heard).length=t.heard.length:=by unfold narrow;simp
 have hle:0+t.heard.length*2≤(flatU (twosU (narrow t v x).heard)).length:=by rw[flat_twos_len];unfold narrow;simp;omega
 refine k_gen [(3,.box 0 0),(6,.box 1 0)] [.box (narC t J (.sl 2 0 t.heard.length 2)),.box [.lst .full 0 [],.lst .full 0 [],.lst .full 0 [],.int .i64 0,.int .i64 0,.lst .full 0 []],.box (flatU (twosU (narrow t v x).heard))] (.cons rfl (.cons rfl (.nil rfl))) rfl fun frx=>?_
 refine k_seq (k_region (o_frz (a:=2) rfl ?_))
 refine o_loadN rfl rfl rfl sh84 rfl ?_
 have hus:US [.box (narC t J (.sl 2 0 t.heard.length 2)),.box [.lst .full 0 [],.lst .full 0 [],.lst .full 0 [],.int .i64 0,.int .i64 0,.lst .full 0 []],.froz ((flatU (twosU (narrow t v x).heard)).map dg)] (.u (.agg (narC t J (.sl 2 0 t.heard.length 2)))) (.u (.agg (narC t J (.lst .ro 2 (twosU (narrow t v x).heard))))):=
  .agg _ _ (.lcons _ _ _ _ (.sl _ _ _ _ _ _ rfl (by rw[flat_twos_dg];exact hfs) hez hel (by rw[flat_twos_dg];exact hle)) (.lrefl _))
 refine o_seeE 20 (u:=.agg (narC t J (.lst .ro 2 (twosU (narrow t v x).heard)))) rfl (fun _=>rfl) rfl rfl hus ?_
 refine o_storeN rfl rfl sh84 rfl rfl rfl rfl rfl ?_
 refine o_nil (k_ret ?_)
 refine⟨.inr rfl,_,.cons _ _ _ _ (.cellN 6 84 _ _ _ _ rfl rfl sh84 rfl) .nil,?_⟩
 exact .refl _
end Go.Proofs.Ytinhcdijbcamaaa.tuneApart
namespace Go.Proofs.Ytinhcdijbcamaaa.tuneApart
open Vam
variable {is:FuncId→Bool}{orc:Known}
theorem pl84:plcOf Try.prog 84=some [(0,5),(5,1)]:=by kernel_rfl
noncomputable def b72:Code:=(Try.f72.body).getD .skip
theorem body72:bodyOf Try.prog 72=some (7,b72,[.cell 2 84]):=by kernel_rfl
theorem pure72:pureFn Try.prog 72=true:=by kernel_rfl
noncomputable def b59:Code:=(Try.f59.body).getD .skip
theorem body59:bodyOf Try.prog 59=some (40,b59,[.cell 4 84,.tmp 5]):=by kernel_rfl
theorem pure59:pureFn Try.prog 59=true:=by kernel_rfl
variable {t:Ts}{J:List Jn}{v x:Int}
theorem ret72(hi:Off is)(h:Sh t):RetP Try.prog is orc 72 [t.u] (.agg (setC t (joinsI t))):=by
 have q51:=ret51 (orc:=orc) hi h
 refine ret_of body72 pure72 (hi 72 (by decide)) rfl rfl (dat_l1 (dat_ts t 4)) (.inl (dat_set _ _ _)) ?_
 refine k_seq (k_region (o_box rfl rfl (o_alloc rfl ze84 ?_)))
 refine o_nil ?_
 refine k_gen [(1,U.box 0 0),(2,U.box 1 0)] ([SB.box t.cs,SB.box [.lst .full 0 [],.lst .full 0 [],.lst .full 0 [],.int .i64 0,.int .i64 0,.lst .full 0 []]]) (.cons rfl (.cons rfl (.nil rfl))) rfl fun fr=>?_
 refine k_seq (k_draw [.read true,.read true,.quiet,.plain,.plain] (by kernel_rfl) (by kernel_rfl) (by kernel_rfl) ?_)
 refine d_load rfl (o_loadN rfl rfl rfl sh28 rfl (o_nil rfl)) ?_
 refine d_load rfl (o_loadN rfl rfl rfl sh28 rfl (o_nil rfl)) ?_
 refine d_callQ rfl q51 (.lrefl _) ?_
 refine d_plain (o_build rfl ze84 pl84 rfl rfl (o_nil rfl)) ?_
 refine d_plain (o_storeN rfl rfl sh84 rfl rfl rfl rfl rfl (o_nil rfl)) ?_
 refine d_nil ?_
 refine k_ret ?_
 refine⟨.inr rfl,_,.cons _ _ _ _ (.cellN 2 84 _ _ _ _ rfl rfl sh84 rfl) .nil,?_⟩
 exact .refl _
def keysB(t:Ts)(l:List Int):Bool:=l.all fun k=>decide (0≤k)&&decide (k<(t.heard.length:Int))
noncomputable def askE(t:Ts)(l:List Int):Int:=if validI t=true then(if keysB t l=true then(if tunB t (joinsI t)=true then 0 else 12)else 11)else 10
abbrev z6:List U:=[.lst .full 0 [],.lst .full 0 [],.lst .full 0 [],.int .i64 0,.int .i64 0,.lst .full 0 []]
theorem dat_z6(k:Nat):Dat (k+2) (.agg z6):=.agg _ _ fun c hc=>by
 simp only[List.mem_cons,List.not_mem_nil,or_false]at hc
 rcases hc with rfl|rfl|rfl|rfl|rfl|rfl<;>first|exact .int _ _ _|exact .lst _ _ _ _ (fun h=>by cases h) (fun c hc=>by cases hc)
noncomputable def askC(t:Ts)(l:List Int):List U:=if askE t l=0 then setC t (joinsI t)else z6
theorem dat_askC(t:Ts)(l:List Int)(k:Nat):Dat (k+4) (.agg (askC t l)):=by
 unfold askC
 split
 ·exact dat_set _ _ _
 ·exact dat_z6 _
set_option maxHeartbeats 8000000 in
theorem ret59(hi:Off is)(t:Ts)(l:List Int)(hl:l.length≤4):RetP Try.prog is orc 59 [t.u,.lst .ro 1 (intsU l)] (.tup [.agg (askC t l),.int .i64 (askE t l)]):=by
 have q17:=ret17 (orc:=orc) hi t
 refine ret_of body59 pure59 (hi 59 (by decide)) rfl rfl (dat_l2 (dat_ts t 4) (dat_ints 6 .ro (fun h=>by cases h) 1 l)) (.inr ⟨_,rfl,dat_l2 (dat_askC t l 3) (.int _ _ _)⟩) ?_
 cases hv:validI t with
 |false=>
  have e:askE t l=10:=by unfold askE;rw[hv];rfl
  have e2:askC t l=z6:=by unfold askC;rw[e];rfl
  rw[hv,if_neg (by decide)]at q17
  rw[e,e2]
  refine k_seq (k_region (o_box rfl rfl (o_alloc rfl ze84 ?_)))
  refine o_assign rfl (o_nil ?_)
  refine k_gen [(1,.lst .ro 1 (intsU l)),(2,U.box 0 0),(4,U.box 1 0)] ([SB.box t.cs,SB.box [.lst .full 0 [],.lst .full 0 [],.lst .full 0 [],.int .i64 0,.int .i64 0,.lst .full 0 []]]) (.cons rfl (.cons rfl (.cons rfl (.nil rfl)))) rfl fun fr=>?_
  refine k_seq (k_seq (k_region (o_loadN rfl rfl rfl sh28 rfl (o_call rfl (q17) (.lrefl _) (o_assign rfl (o_nil (k_seq (k_region (o_move rfl (o_neq rfl rfl rfl ?_))))))))))
  refine o_nil (k_cT rfl rfl ?_)
  refine k_seq (k_region (o_build rfl ze84 pl84 rfl rfl ?_))
  refine o_move rfl (o_storeN rfl rfl sh84 rfl rfl rfl rfl rfl ?_)
  refine o_assign rfl (o_nil (k_ret ?_))
  refine⟨.inr rfl,_,.cons _ _ _ _ (.cellN 4 84 _ _ _ _ rfl rfl sh84 rfl) (.cons _ _ _ _ (.tmp 5) .nil),?_⟩
  exact .refl _
 |true=>
  have hok:=(valid_iff t).1 hv
  have hsok:=hok.sok
  rw[hv,if_pos rfl]at q17
  have q72:=ret72 (orc:=orc) hi hok.sh
  have q65:=ret65 (orc:=orc) hi hsok
  refine k_seq (k_region (o_box rfl rfl (o_alloc rfl ze84 ?_)))
  refine o_assign rfl (o_nil ?_)
  refine k_gen [(1,.lst .ro 1 (intsU l)),(2,U.box 0 0),(4,U.box 1 0)] ([SB.box t.cs,SB.box [.lst .full 0 [],.lst .full 0 [],.lst .full 0 [],.int .i64 0,.int .i64 0,.lst .full 0 []]]) (.cons rfl (.cons rfl (.cons rfl (.nil rfl)))) rfl fun fr=>?_
  refine k_seq (k_seq (k_region (o_loadN rfl rfl rfl sh28 rfl (o_call rfl (q17) (.lrefl _) (o_assign rfl (o_nil (k_seq (k_region (o_move rfl (o_neq rfl rfl rfl ?_))))))))))
  refine o_nil (k_cF rfl rfl ?_)
  refine k_skip (k_seq (k_seq (k_region (o_move rfl (o_len rfl ty29 rfl (List.length_map _) ?_)))))
  refine o_move rfl (o_nil (k_block ?_))
  refine k_loop (fun k s2=>∃n:Nat,k+n=l.length∧keysB t (l.take n)=true∧s2.st=[.box t.cs,.box z6]∧Holds s2 [(2,.box 0 0),(4,.box 1 0),(16,.lst .ro 1 (intsU l)),(17,.int .i64 l.length),(18,.int .i64 n)]) (fun k s2 hI=>?_) l.length _ ⟨0,rfl,rfl,rfl,.c4 rfl rfl rfl rfl (.cons rfl (.nil rfl))⟩
  obtain⟨n,hk,hall,hst,hs⟩:=hI
  refine k_gen _ _ hs hst fun frx=>?_
  by_cases hn:n<l.length
  ·obtain⟨y,hy⟩:∃y,l[n]? =some y:=⟨l[n],List.getElem?_eq_getElem hn⟩
   by_cases h1:y<0
   ·have hkb:keysB t l=false:=all_not hy (by simp;omega)
    have e:askE t l=11:=by unfold askE;rw[hv,hkb];rfl
    have e2:askC t l=z6:=by unfold askC;rw[e];rfl
    rw[e,e2]
    refine k_seq (k_region (o_lss rfl rfl rfl (o_nil (k_seq (k_cT rfl (decide_eq_true (by omega)) (k_skip (k_seq (k_block (k_seq (k_region ?_))))))))))
    refine o_idx (u:=.int .i64 (y)) rfl ty29 rfl rfl (Int.natCast_nonneg _) (by simp[hy]) cl3 ?_
    refine o_loadR1 rfl rfl sh3 rfl ?_
    refine o_assign rfl (o_nil (k_seq (k_region (o_move rfl (o_lss rfl rfl rfl (o_move rfl (o_gS rfl rfl rfl rfl (decide_eq_true (by omega)) (o_gS rfl rfl rfl rfl (decide_eq_true (by omega)) (o_gS rfl rfl rfl rfl (decide_eq_true (by omega)) ?_)))))))))
    refine o_gS rfl rfl rfl rfl (decide_eq_true (by omega)) (o_gS rfl rfl rfl rfl (decide_eq_true (by omega)) (o_pickT rfl rfl (decide_eq_true (by omega)) ?_))
    refine o_nil ?_
    refine k_gen [(2,U.box 0 0),(4,U.box 1 0),(16,.lst .ro 1 (intsU l)),(17,.int .i64 ↑(List.length l)),(18,.int .i64 ↑n),(25,U.tup []),(26,U.tup []),(27,U.tup []),(28,U.tup []),(29,U.tup []),(30,.bool true)] ([SB.box t.cs,SB.box z6]) (.c4 rfl rfl rfl rfl (.c4 rfl rfl rfl rfl (.cons rfl (.cons rfl (.cons rfl (.nil rfl)))))) rfl fun fr=>?_
    refine k_cT rfl rfl ?_
    refine k_seq (k_region (o_build rfl ze84 pl84 rfl rfl ?_))
    refine o_storeN rfl rfl sh84 rfl rfl rfl rfl rfl ?_
    refine o_assign rfl (o_nil (k_ret ?_))
    refine⟨.inr rfl,_,.cons _ _ _ _ (.cellN 4 84 _ _ _ _ rfl rfl sh84 rfl) (.cons _ _ _ _ (.tmp 5) .nil),?_⟩
    exact .refl _
   ·by_cases h2:y ≥ (t.heard.length:Int)
    ·have hkb:keysB t l=false:=all_not hy (by simp;omega)
     have e:askE t l=11:=by unfold askE;rw[hv,hkb];rfl
     have e2:askC t l=z6:=by unfold askC;rw[e];rfl
     rw[e,e2]
     refine k_seq (k_region (o_lss rfl rfl rfl (o_nil (k_seq (k_cT rfl (decide_eq_true (by omega)) (k_skip (k_seq (k_block (k_seq (k_region ?_))))))))))
     refine o_idx (u:=.int .i64 (y)) rfl ty29 rfl rfl (Int.natCast_nonneg _) (by simp[hy]) cl3 ?_
     refine o_loadR1 rfl rfl sh3 rfl ?_
     refine o_assign rfl (o_nil (k_seq (k_region (o_move rfl (o_lss rfl rfl rfl (o_move rfl (o_gD rfl rfl rfl rfl (decide_eq_false (by omega)) (o_move rfl (o_gD rfl rfl rfl rfl (decide_eq_false (by omega)) ?_)))))))))
     refine o_faddr rfl rfl fld28_0 (o_gD rfl rfl rfl rfl (decide_eq_false (by omega)) (o_load1 rfl rfl rfl sh22 rfl (o_gD rfl rfl rfl rfl (decide_eq_false (by omega)) (o_len rfl ty22 rfl (List.length_map _) ?_))))
     refine o_gD rfl rfl rfl rfl (decide_eq_false (by omega)) (o_geq rfl rfl rfl (o_pickF rfl rfl (decide_eq_false (by omega)) ?_))
     refine o_nil ?_
     refine k_gen [(2,U.box 0 0),(4,U.box 1 0),(16,.lst .ro 1 (intsU l)),(17,.int .i64 ↑(List.length l)),(18,.int .i64 ↑n),(25,.int .i64 y),(26,U.box 0 0),(27,.lst .ro 2 (twosU t.heard)),(28,.int .i64 ↑t.heard.length),(29,U.bool (decide (↑t.heard.length≤y))),(30,U.bool (decide (↑t.heard.length≤y)))] ([SB.box t.cs,SB.box z6]) (.c4 rfl rfl rfl rfl (.c4 rfl rfl rfl rfl (.cons rfl (.cons rfl (.cons rfl (.nil rfl)))))) rfl fun fr=>?_
     refine k_cT rfl (decide_eq_true (by omega)) (k_seq (k_region (o_build rfl ze84 pl84 rfl rfl ?_)))
     refine o_storeN rfl rfl sh84 rfl rfl rfl rfl rfl ?_
     refine o_assign rfl (o_nil (k_ret ?_))
     refine⟨.inr rfl,_,.cons _ _ _ _ (.cellN 4 84 _ _ _ _ rfl rfl sh84 rfl) (.cons _ _ _ _ (.tmp 5) .nil),?_⟩
     exact .refl _
    ·refine k_seq (k_region ?_)
     refine o_lss rfl rfl rfl (o_nil (k_seq (k_cT rfl (decide_eq_true (by omega)) (k_skip (k_seq (k_block (k_seq (k_region (o_idx (u:=.int .i64 (y)) rfl ty29 rfl rfl (Int.natCast_nonneg _) (by simp[hy]) cl3 ?_)))))))))
     refine o_loadR1 rfl rfl sh3 rfl ?_
     refine o_assign rfl (o_nil (k_seq (k_region (o_move rfl (o_lss rfl rfl rfl (o_move rfl (o_gD rfl rfl rfl rfl (decide_eq_false (by omega)) (o_move rfl (o_gD rfl rfl rfl rfl (decide_eq_false (by omega)) ?_)))))))))
     refine o_faddr rfl rfl fld28_0 (o_gD rfl rfl rfl rfl (decide_eq_false (by omega)) (o_load1 rfl rfl rfl sh22 rfl (o_gD rfl rfl rfl rfl (decide_eq_false (by omega)) (o_len rfl ty22 rfl (List.length_map _) ?_))))
     refine o_gD rfl rfl rfl rfl (decide_eq_false (by omega)) (o_geq rfl rfl rfl (o_pickF rfl rfl (decide_eq_false (by omega)) ?_))
     refine o_nil ?_
     refine k_gen [(2,U.box 0 0),(4,U.box 1 0),(16,.lst .ro 1 (intsU l)),(17,.int .i64 ↑(List.length l)),(18,.int .i64 ↑n),(25,.int .i64 y),(26,U.box 0 0),(27,.lst .ro 2 (twosU t.heard)),(28,.int .i64 ↑t.heard.length),(29,U.bool (decide (↑t.heard.length≤y))),(30,U.bool (decide (↑t.heard.length≤y)))] ([SB.box t.cs,SB.box z6]) (.c4 rfl rfl rfl rfl (.c4 rfl rfl rfl rfl (.cons rfl (.cons rfl (.cons rfl (.nil rfl)))))) rfl fun fr=>?_
     refine k_cF rfl (decide_eq_false (by omega)) (k_skip (k_region ?_))
     refine o_add rfl rfl rfl (by unfold I64;omega) (o_move rfl (o_nil ?_))
     exact⟨k - 1,by omega,n+1,by omega,all_take hy hall (by simp;omega),rfl,.c4 rfl rfl rfl rfl (.cons rfl (.nil rfl))⟩
  ·have hn:n=l.length:=by omega
   subst hn
   rw[List.take_length]at hall
   cases htb:tunB t (joinsI t)with
   |false=>
    have e:askE t l=12:=by unfold askE;rw[hv,hall,htb];rfl
    have e2:askC t l=z6:=by unfold askC;rw[e];rfl
    rw[e,e2]
    rw[htb]at q65
    refine k_seq (k_region (o_lss rfl rfl rfl (o_nil (k_seq (k_cF rfl (decide_eq_false (by omega)) (k_exit (k_seq (k_region (o_loadN rfl rfl rfl sh28 rfl (o_call rfl q72 (.lrefl _) ?_))))))))))
    refine o_alloc rfl ze84 ?_
    refine o_storeN rfl rfl sh84 rfl rfl rfl rfl rfl ?_
    refine o_nil ?_
    refine k_gen [(4,U.box 1 0),(9,U.box 2 0)] ([SB.box t.cs,SB.box z6,SB.box [.lst .ro 2 (twosU t.heard),.lst .ro 2 (sclsU t.scales),.lst .ro 2 (twosU t.pairs),.int .i64 t.lo,.int .i64 t.hi,.lst .ro 5 (jnsU (joinsI t))]]) (.cons rfl (.cons rfl (.nil rfl))) rfl fun fr=>?_
    refine k_seq (k_seq (k_region (o_loadN rfl rfl rfl sh84 rfl (o_call rfl (q65) (.lrefl _) (o_not rfl rfl (o_nil (k_cT rfl rfl ?_)))))))
    refine k_seq (k_region (o_build rfl ze84 pl84 rfl rfl ?_))
    refine o_storeN rfl rfl sh84 rfl rfl rfl rfl rfl ?_
    refine o_assign rfl (o_nil (k_ret ?_))
    refine⟨.inr rfl,_,.cons _ _ _ _ (.cellN 4 84 _ _ _ _ rfl rfl sh84 rfl) (.cons _ _ _ _ (.tmp 5) .nil),?_⟩
    exact .refl _
   |true=>
    have e:askE t l=0:=by unfold askE;rw[hv,hall,htb];rfl
    have e2:askC t l=setC t (joinsI t):=by unfold askC;rw[e];rfl
    rw[e,e2]
    rw[htb]at q65
    refine k_seq (k_region (o_lss rfl rfl rfl (o_nil (k_seq (k_cF rfl (decide_eq_false (by omega)) (k_exit (k_seq (k_region (o_loadN rfl rfl rfl sh28 rfl (o_call rfl q72 (.lrefl _) ?_))))))))))
    refine o_alloc rfl ze84 ?_
    refine o_storeN rfl rfl sh84 rfl rfl rfl rfl rfl ?_
    refine o_nil ?_
    refine k_gen [(4,U.box 1 0),(9,U.box 2 0)] ([SB.box t.cs,SB.box z6,SB.box [.lst .ro 2 (twosU t.heard),.lst .ro 2 (sclsU t.scales),.lst .ro 2 (twosU t.pairs),.int .i64 t.lo,.int .i64 t.hi,.lst .ro 5 (jnsU (joinsI t))]]) (.cons rfl (.cons rfl (.nil rfl))) rfl fun fr=>?_
    refine k_seq (k_seq (k_region (o_loadN rfl rfl rfl sh84 rfl (o_call rfl (q65) (.lrefl _) (o_not rfl rfl (o_nil (k_cF rfl rfl ?_)))))))
    refine k_skip (k_seq (k_region (o_loadN rfl rfl rfl sh84 rfl (o_storeN rfl rfl sh84 rfl rfl rfl rfl rfl ?_))))
    refine o_assign rfl (o_nil (k_ret ?_))
    refine⟨.inr rfl,_,.cons _ _ _ _ (.cellN 4 84 _ _ _ _ rfl rfl sh84 rfl) (.cons _ _ _ _ (.tmp 5) .nil),?_⟩
    exact .refl _
end Go.Proofs.Ytinhcdijbcamaaa.tuneApart
