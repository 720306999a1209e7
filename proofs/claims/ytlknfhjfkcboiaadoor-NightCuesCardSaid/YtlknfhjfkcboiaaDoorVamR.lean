import Derived.Test.YtlknfhjfkcboiaaDoorVamQ
import Derived.Test.YtlknfhjfkcboiaaDoorVamIg
set_option linter.unusedVariables false
set_option linter.unusedSimpArgs false
namespace Vam
open Go
variable {s:St}{P:Program}{is:FuncId→Bool}{orc:Known}
section glob
variable {all l:List Oper}{d1 d2 g i n c:Nat}{xt el t' t1 t2:TypeId}{y:Operand}{p1 p2:String}{e1 e2:Array Edge}{ki:IntKind}{m:List V}{us:List U}{Q:St→Prop}
theorem g_addr{Pr:Prt}{φ:BMap}{S:SMap}{tm:TT}{H:CH}(hs:SR Pr φ S s tm H)(ht:tyOf P xt=.array n el)(hc:P.cellsOf el=c)(hi:zT s y=.int ki (i:Int))(hlt:Nat.blt i n=true)(hp:ptrOk .over (g*4096) (i*c)=true)(E:Ev):
  evOp P E tm H (.indexAddr xt (.global g) y)=.ok (.ptr .over (g*4096+i*c)) H:=by
 have h2:=zN hs y
 rw[hi]at h2
 have h2:=zCQ h2
 show yW P xt (globV g) (zK tm y) H=_
 unfold yW
 rw[ht,h2]
 show cond (Nat.ble (Nat.succ i) n) (zCh H .over (g*4096) (Nat.mul i (P.cellsOf el))) .no=_
 rw[show Nat.ble (Nat.succ i) n=true from hlt,hc]
 show cond (ptrOk .over (g*4096) (i*c)) _ _=_
 rw[hp];rfl
theorem g_load{tm:TT}{H:CH}{c2:Nat}(hsh0:shOf P t'=.many (c2+1))(hj:tm.get d1=.ptr .over n)(hr:loadG P t' n=some (.agg (ofList m)))(E:Ev):evOp P E tm H (.load t' (.tmp d1))=.ok (.agg (ofList m)) H:=by
 show wn .no (zDb P t' H) (tm.get d1)=_
 rw[hj]
 show zx H (opt (cond (zFy .over) (loadG P t' n) none) (fun v=>some v) (zCn P t' H .over n))=_
 have h0:zCn P t' H .over n=none∨∃v,zCn P t' H .over n=some v:=by cases zCn P t' H .over n<;>simp
 rcases h0 with h0|⟨v,h0⟩
 ·rw[h0]
  show zx H (loadG P t' n)=_
  rw[hr];rfl
 ·exfalso
  unfold zCn at h0
  cases hsh:shOf P t' with
  |bad=>rw[hsh]at h0;cases h0
  |one=>
   rw[hsh]at h0
   have h0:read1 H .over n=some v:=h0
   unfold read1 at h0
   rw[CH.get_over]at h0
   cases h0
  |many k=>
   rw[hsh0]at hsh
   cases hsh
   rw[hsh0]at h0
   have h0:opt none (fun l=>some (V.agg l)) (zU H .over n (c2+1))=some v:=h0
   have e:zU H .over n (c2+1)=none:=by
    show zj none (rd n (c2+1)) (H.get .over)=none
    rw[CH.get_over];rfl
   rw[e]at h0
   cases h0
theorem zGj{k off:Nat}{r:V}(hsh:shOf P t'=.many k)(hr:gread off (fun cs o=>opt none (fun l=>some (V.agg l)) (zCa k (zCG cs o)))=some r):loadG P t' off=some r:=by
 unfold loadG
 rw[hsh];exact hr
theorem o_gpair{c2:Nat}(hsh0:shOf P t'=.many (c2+1))(hd1:Nat.blt d1 1024=true)(hd2:Nat.blt d2 1024=true)(ht:tyOf P xt=.array n el)(hc:P.cellsOf el=c)(hi:zT s y=.int ki (i:Int))(hlt:Nat.blt i n=true)(hp:ptrOk .over (g*4096) (i*c)=true)(hr:gread (g*4096+i*c) (fun cs o=>opt none (fun l=>some (V.agg l)) (zCa (c2+1) (zCG cs o)))=some (.agg (ofList m)))(hu:yk (ofList m)=us)
  (k:WpO P is orc all l ((s.put d1 .junk).put d2 (.agg us)) Q):WpO P is orc all (⟨some d1,.indexAddr xt (.global g) y,t1,p1,e1,none⟩::⟨some d2,.load t' (.tmp d1),t2,p2,e2,none⟩::l) s Q:=by
 subst hu
 intro Pr φ S tm H hs
 have hs1:=wz hs (d:=some d1) hd1 (.junk (.ptr .over (g*4096+i*c))) (NewOk.none rfl)
 have hget:(setT tm (some d1) (.ptr .over (g*4096+i*c))).get d1=.ptr .over (g*4096+i*c):=by
  show(TT.set _ tm d1).get d1=_
  rw[TT.get_set _ _ _ _ (yT hd1) (yT hd1),if_pos rfl]
 have hs2:=wz hs1 (d:=some d2) hd2 (.agg _ _ (zCZ m)) (NewOk.none rfl)
 obtain⟨s2,tm2,H2,φ2,S2,⟨n2,k1⟩,k2⟩:=k Pr φ S _ H hs2
 refine⟨s2,tm2,H2,φ2,S2,⟨n2,fun n hn=>?_⟩,k2⟩
 show zAi P (zM true P is orc n) (some d1) (.indexAddr xt (.global g) y) tm H (zAm P (zM true P is orc n) all (⟨some d2,.load t' (.tmp d1),t2,p2,e2,none⟩::l))=_
 unfold zAi
 rw[g_addr hs ht hc hi hlt hp]
 show zAi P (zM true P is orc n) (some d2) (.load t' (.tmp d1)) (setT tm (some d1) (.ptr .over (g*4096+i*c))) H (zAm P (zM true P is orc n) all l)=_
 unfold zAi
 rw[g_load hsh0 hget (zGj hsh0 hr)]
 exact k1 n hn
theorem yU{c2:Nat}(hsh0:shOf P t'=.many (c2+1)){gi:Nat}{want:Bool}{og:Oper}{j:Nat}{b:Bool}(hg:nthO all gi=some og)(hj:og.dst=some j)(hb:(s.put d1 .junk).slot j=.bool b)(eb:b=want)(hd1:Nat.blt d1 1024=true)(hd2:Nat.blt d2 1024=true)(ht:tyOf P xt=.array n el)(hc:P.cellsOf el=c)(hi:zT s y=.int ki (i:Int))(hlt:Nat.blt i n=true)(hp:ptrOk .over (g*4096) (i*c)=true)(hr:gread (g*4096+i*c) (fun cs o=>opt none (fun l=>some (V.agg l)) (zCa (c2+1) (zCG cs o)))=some (.agg (ofList m)))(hu:yk (ofList m)=us)
  (k:WpO P is orc all l ((s.put d1 .junk).put d2 (.agg us)) Q):WpO P is orc all (⟨some d1,.indexAddr xt (.global g) y,t1,p1,e1,none⟩::⟨some d2,.load t' (.tmp d1),t2,p2,e2,some (gi,want)⟩::l) s Q:=by
 subst hu;subst eb
 intro Pr φ S tm H hs
 have hs1:=wz hs (d:=some d1) hd1 (.junk (.ptr .over (g*4096+i*c))) (NewOk.none rfl)
 have hget:(setT tm (some d1) (.ptr .over (g*4096+i*c))).get d1=.ptr .over (g*4096+i*c):=by
  show(TT.set _ tm d1).get d1=_
  rw[TT.get_set _ _ _ _ (yT hd1) (yT hd1),if_pos rfl]
 have hs2:=wz hs1 (d:=some d2) hd2 (.agg _ _ (zCZ m)) (NewOk.none rfl)
 obtain⟨s2,tm2,H2,φ2,S2,⟨n2,k1⟩,k2⟩:=k Pr φ S _ H hs2
 refine⟨s2,tm2,H2,φ2,S2,⟨n2,fun n hn=>?_⟩,k2⟩
 show zAi P (zM true P is orc n) (some d1) (.indexAddr xt (.global g) y) tm H (zAm P (zM true P is orc n) all (⟨some d2,.load t' (.tmp d1),t2,p2,e2,some (gi,b)⟩::l))=_
 unfold zAi
 rw[g_addr hs ht hc hi hlt hp]
 show opsIf P (zM true P is orc n) (some d2) (.load t' (.tmp d1)) (setT tm (some d1) (.ptr .over (g*4096+i*c))) H (zAm P (zM true P is orc n) all l) (zBY all (setT tm (some d1) (.ptr .over (g*4096+i*c))) (gi,b))=_
 rw[zEI hs1 hg hj hb,show bEq b b=true by cases b<;>rfl]
 show zAi P (zM true P is orc n) (some d2) (.load t' (.tmp d1)) (setT tm (some d1) (.ptr .over (g*4096+i*c))) H (zAm P (zM true P is orc n) all l)=_
 unfold zAi
 rw[g_load hsh0 hget (zGj hsh0 hr)]
 exact k1 n hn
end glob
end Vam
namespace Vam
open Go
variable {s:St}{P:Program}{is:FuncId→Bool}{orc:Known}
end Vam
namespace Vam
open Go
section
variable {Pr:Prt}{φ:BMap}{S:SMap}{tm:TT}{H:CH}{P:Program}{is:FuncId→Bool}{orc:Known}{s:St}
theorem d_plainE{all:List Oper}{o:Oper}{l:List (Oper×M0)}{Q:St→Prop}(M:St→Prop)(h:WpO P is orc all [o] s M)(k:∀s1,M s1→WpD P is orc all l s1 Q):WpD P is orc all ((o,.plain)::l) s Q:=by
 intro Pr φ S tm H m0 hm hp hs
 cases hm with
 |plain _ _ m hm=>
  have e:pend ((o,Md.plain)::m)=pend m:=rfl
  rw[e]at hp hs
  obtain⟨s2,tm1,H1,φ1,S1,⟨n1,r1⟩,r2,r3,r4,r5,r6⟩:=h _ φ S tm H hs
  exact zEr ⟨n1,fun n hn=>by rw[←step_one];exact r1 n hn⟩ r3 r4 (r5.weaken (fun b hb=>.inl hb) fun _ h=>h) (hm.keep fun i hi=>r5.get i (.inr hi)) ⟨hp.nodup,fun i hi=>by rw[r5.fz];exact hp.ok i hi,hp.out,hp.odd⟩ r2 (k s2 r6)
theorem d_callWE{all:List Oper}{l:List (Oper×M0)}{d:Option Nat}{g:FuncId}{xs:Array Operand}{ts:Array TypeId}{t:TypeId}{p:String}{e:Array Edge}{args:List U}{M:U→List SB→Prop}{Q:St→Prop}(hd:wV 1024 d=true)
  (hw:WpC P is orc g args s.st M) (hle:UW (.l (zCS s xs.toList)) (.l args)) (k:∀u st',M u st'→WpD P is orc all l ((⟨s.fr,[],st'⟩:St).dst d u) Q):
  WpD P is orc all ((⟨d,.call ⟨.value (.func g),xs,ts⟩,t,p,e,none⟩,.plain)::l) s Q:=
 d_plainE (fun s1=>∃u st',M u st'∧s1=(⟨s.fr,[],st'⟩:St).dst d u) (zDZ hd hw hle fun u st' hM=>zC ⟨u,st',hM,rfl⟩) fun s1 ⟨u,st',hM,e⟩=>by subst e;exact k u st' hM
end
end Vam
namespace Vam
open Go
section
variable {P:Program}{is:FuncId→Bool}{orc:Known}{s:St}{all l:List Oper}{d:Nat}{x y:Operand}{t:TypeId}{p:String}{e:Array Edge}{Q:St→Prop}
end
end Vam
namespace Vam
open Go
section
variable {P:Program}{is:FuncId→Bool}{orc:Known}{s:St}{all l:List Oper}{d:Nat}{x:Operand}{t xt:TypeId}{p:String}{e:Array Edge}{Q:St→Prop}
end
end Vam
namespace Vam
open Go
variable {P:Program}{is:FuncId→Bool}{orc:Known}
end Vam
namespace Vam
open Go
variable {P:Program}{is:FuncId→Bool}{orc:Known}
end Vam
namespace Vam
def psDr:List (Int×Int):=[(0,2000),(1,10),(0,100),(0,600),(0,100000),(0,8),(1,500),(1,12),(1,100)]
def loB(i:Nat):Int:=((psDr[i]?).map Prod.fst).getD 0
def hiB(i:Nat):Int:=((psDr[i]?).map Prod.snd).getD 0
theorem gatB(i:Nat)(h:i<9):gread (0*4096+i*2) (fun cs o=>opt none (fun l=>some (V.agg l)) (zCa (1+1) (zCG cs o)))=some (.agg (ofList [.int .i64 (loB i),.int .i64 (hiB i)])):=by
 match i,h with
 |0,_=>rfl
 |1,_=>rfl
 |2,_=>rfl
 |3,_=>rfl
 |4,_=>rfl
 |5,_=>rfl
 |6,_=>rfl
 |7,_=>rfl
 |8,_=>rfl
end Vam
