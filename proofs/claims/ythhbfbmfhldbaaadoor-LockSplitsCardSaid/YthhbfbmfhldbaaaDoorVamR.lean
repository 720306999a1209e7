import Derived.Test.YthhbfbmfhldbaaaDoorVamQ
import Derived.Test.YthhbfbmfhldbaaaDoorVamIg
set_option linter.unusedVariables false
set_option linter.unusedSimpArgs false
set_option linter.constructorNameAsVariable false
namespace Vam
open Go
variable {s:St}{P:Program}{is:FuncId→Bool}{orc:Known}
section glob
variable {all l:List Oper}{d1 d2 g i n c:Nat}{xt el t' t1 t2:TypeId}{y:Operand}{p1 p2:String}{e1 e2:Array Edge}{ki:IntKind}{m:List V}{us:List U}{Q:St→Prop}
theorem g_addr{Pr:Prt}{φ:BMap}{S:SMap}{tm:TT}{H:CH}(hs:SR Pr φ S s tm H)(ht:tyOf P xt=.array n el)(hc:P.cellsOf el=c)(hi:zP s y=.int ki (i:Int))(hlt:Nat.blt i n=true)(hp:ptrOk .over (g*4096) (i*c)=true)(E:Ev):
  evOp P E tm H (.indexAddr xt (.global g) y)=.ok (.ptr .over (g*4096+i*c)) H:=by
 have h2:=zM hs y
 rw[hi]at h2
 have h2:=zCC h2
 show yP P xt (globV g) (zF tm y) H=_
 unfold yP
 rw[ht,h2]
 show cond (Nat.ble (Nat.succ i) n) (zDA H .over (g*4096) (Nat.mul i (P.cellsOf el))) .no=_
 rw[show Nat.ble (Nat.succ i) n=true from hlt,hc]
 show cond (ptrOk .over (g*4096) (i*c)) _ _=_
 rw[hp];rfl
theorem g_load{tm:TT}{H:CH}{c2:Nat}(hsh0:shOf P t'=.many (c2+1))(hj:tm.get d1=.ptr .over n)(hr:loadG P t' n=some (.agg (ofList m)))(E:Ev):evOp P E tm H (.load t' (.tmp d1))=.ok (.agg (ofList m)) H:=by
 show wR .no (zDW P t' H) (tm.get d1)=_
 rw[hj]
 show zd H (opt (cond (zFm .over) (loadG P t' n) none) (fun v=>some v) (zCV P t' H .over n))=_
 have h0:zCV P t' H .over n=none∨∃v,zCV P t' H .over n=some v:=by cases zCV P t' H .over n<;>simp
 rcases h0 with h0|⟨v,h0⟩
 ·rw[h0]
  show zd H (loadG P t' n)=_
  rw[hr];rfl
 ·exfalso
  unfold zCV at h0
  cases hsh:shOf P t' with
  |bad=>rw[hsh]at h0;cases h0
  |one=>
   rw[hsh]at h0
   have h0:read1 H .over n=some v:=h0
   unfold read1 at h0
   rw[CH.get_over]at h0
   cases h0
  |many k=>
   rw[hsh0]at hsh
   cases hsh
   rw[hsh0]at h0
   have h0:opt none (fun l=>some (V.agg l)) (zQ H .over n (c2+1))=some v:=h0
   have e:zQ H .over n (c2+1)=none:=by
    show zh none (rd n (c2+1)) (H.get .over)=none
    rw[CH.get_over];rfl
   rw[e]at h0
   cases h0
theorem zGT{k off:Nat}{r:V}(hsh:shOf P t'=.many k)(hr:gread off (fun cs o=>opt none (fun l=>some (V.agg l)) (zCH k (zBg cs o)))=some r):loadG P t' off=some r:=by
 unfold loadG
 rw[hsh];exact hr
theorem zBo{c2:Nat}(hsh0:shOf P t'=.many (c2+1))(hd1:Nat.blt d1 1024=true)(hd2:Nat.blt d2 1024=true)(ht:tyOf P xt=.array n el)(hc:P.cellsOf el=c)(hi:zP s y=.int ki (i:Int))(hlt:Nat.blt i n=true)(hp:ptrOk .over (g*4096) (i*c)=true)(hr:gread (g*4096+i*c) (fun cs o=>opt none (fun l=>some (V.agg l)) (zCH (c2+1) (zBg cs o)))=some (.agg (ofList m)))(hu:zEf (ofList m)=us)
  (k:WpO P is orc all l ((s.put d1 .junk).put d2 (.agg us)) Q):WpO P is orc all (⟨some d1,.indexAddr xt (.global g) y,t1,p1,e1,none⟩::⟨some d2,.load t' (.tmp d1),t2,p2,e2,none⟩::l) s Q:=by
 subst hu
 intro Pr φ S tm H hs
 have hs1:=wL hs (d:=some d1) hd1 (.junk (.ptr .over (g*4096+i*c))) (NewOk.none rfl)
 have hget:(setT tm (some d1) (.ptr .over (g*4096+i*c))).get d1=.ptr .over (g*4096+i*c):=by
  show(TT.set _ tm d1).get d1=_
  rw[TT.get_set _ _ _ _ (yN hd1) (yN hd1),if_pos rfl]
 have hs2:=wL hs1 (d:=some d2) hd2 (.agg _ _ (zBX m)) (NewOk.none rfl)
 obtain⟨s2,tm2,H2,φ2,S2,⟨n2,k1⟩,k2⟩:=k Pr φ S _ H hs2
 refine⟨s2,tm2,H2,φ2,S2,⟨n2,fun n hn=>?_⟩,k2⟩
 show zAZ P (zJ true P is orc n) (some d1) (.indexAddr xt (.global g) y) tm H (zAe P (zJ true P is orc n) all (⟨some d2,.load t' (.tmp d1),t2,p2,e2,none⟩::l))=_
 unfold zAZ
 rw[g_addr hs ht hc hi hlt hp]
 show zAZ P (zJ true P is orc n) (some d2) (.load t' (.tmp d1)) (setT tm (some d1) (.ptr .over (g*4096+i*c))) H (zAe P (zJ true P is orc n) all l)=_
 unfold zAZ
 rw[g_load hsh0 hget (zGT hsh0 hr)]
 exact k1 n hn
theorem zEz{c2:Nat}(hsh0:shOf P t'=.many (c2+1)){gi:Nat}{want:Bool}{og:Oper}{j:Nat}{b:Bool}(hg:nthO all gi=some og)(hj:og.dst=some j)(hb:(s.put d1 .junk).slot j=.bool b)(eb:b=want)(hd1:Nat.blt d1 1024=true)(hd2:Nat.blt d2 1024=true)(ht:tyOf P xt=.array n el)(hc:P.cellsOf el=c)(hi:zP s y=.int ki (i:Int))(hlt:Nat.blt i n=true)(hp:ptrOk .over (g*4096) (i*c)=true)(hr:gread (g*4096+i*c) (fun cs o=>opt none (fun l=>some (V.agg l)) (zCH (c2+1) (zBg cs o)))=some (.agg (ofList m)))(hu:zEf (ofList m)=us)
  (k:WpO P is orc all l ((s.put d1 .junk).put d2 (.agg us)) Q):WpO P is orc all (⟨some d1,.indexAddr xt (.global g) y,t1,p1,e1,none⟩::⟨some d2,.load t' (.tmp d1),t2,p2,e2,some (gi,want)⟩::l) s Q:=by
 subst hu;subst eb
 intro Pr φ S tm H hs
 have hs1:=wL hs (d:=some d1) hd1 (.junk (.ptr .over (g*4096+i*c))) (NewOk.none rfl)
 have hget:(setT tm (some d1) (.ptr .over (g*4096+i*c))).get d1=.ptr .over (g*4096+i*c):=by
  show(TT.set _ tm d1).get d1=_
  rw[TT.get_set _ _ _ _ (yN hd1) (yN hd1),if_pos rfl]
 have hs2:=wL hs1 (d:=some d2) hd2 (.agg _ _ (zBX m)) (NewOk.none rfl)
 obtain⟨s2,tm2,H2,φ2,S2,⟨n2,k1⟩,k2⟩:=k Pr φ S _ H hs2
 refine⟨s2,tm2,H2,φ2,S2,⟨n2,fun n hn=>?_⟩,k2⟩
 show zAZ P (zJ true P is orc n) (some d1) (.indexAddr xt (.global g) y) tm H (zAe P (zJ true P is orc n) all (⟨some d2,.load t' (.tmp d1),t2,p2,e2,some (gi,b)⟩::l))=_
 unfold zAZ
 rw[g_addr hs ht hc hi hlt hp]
 show opsIf P (zJ true P is orc n) (some d2) (.load t' (.tmp d1)) (setT tm (some d1) (.ptr .over (g*4096+i*c))) H (zAe P (zJ true P is orc n) all l) (zBW all (setT tm (some d1) (.ptr .over (g*4096+i*c))) (gi,b))=_
 rw[zDn hs1 hg hj hb,show bEq b b=true by cases b<;>rfl]
 show zAZ P (zJ true P is orc n) (some d2) (.load t' (.tmp d1)) (setT tm (some d1) (.ptr .over (g*4096+i*c))) H (zAe P (zJ true P is orc n) all l)=_
 unfold zAZ
 rw[g_load hsh0 hget (zGT hsh0 hr)]
 exact k1 n hn
end glob
end Vam
namespace Vam
open Go
variable {s:St}{P:Program}{is:FuncId→Bool}{orc:Known}
end Vam
namespace Vam
open Go
section
variable {Pr:Prt}{φ:BMap}{S:SMap}{tm:TT}{H:CH}{P:Program}{is:FuncId→Bool}{orc:Known}{s:St}
end
end Vam
namespace Vam
open Go
section
variable {P:Program}{is:FuncId→Bool}{orc:Known}{s:St}{all l:List Oper}{d:Nat}{x y:Operand}{t:TypeId}{p:String}{e:Array Edge}{Q:St→Prop}
end
end Vam
namespace Vam
open Go
section
variable {P:Program}{is:FuncId→Bool}{orc:Known}{s:St}{all l:List Oper}{d:Nat}{x:Operand}{t xt:TypeId}{p:String}{e:Array Edge}{Q:St→Prop}
end
end Vam
namespace Vam
open Go
variable {P:Program}{is:FuncId→Bool}{orc:Known}
end Vam
namespace Vam
open Go
variable {P:Program}{is:FuncId→Bool}{orc:Known}
end Vam
namespace Vam
open Go
section ops
variable {P:Program}{is:FuncId→Bool}{orc:Known}{all L:List Oper}{s:St}{d a off n:Nat}{x y:Operand}{t' t:TypeId}{p:String}{e:Array Edge}{Q:St→Prop}{cs us:List U}
theorem yw(hd:Nat.blt d 1024=true)(hx:zP s x=.box a off)(k:WpO P is orc all L (s.put d (.box a off)) Q):WpO P is orc all (⟨some d,.nilCheck x,t,p,e,none⟩::L) s Q:=by
 refine wW hd (fun w=>rfl) (fun Pr φ S tm H hs=>?_) k
 have h1:=zM hs x
 rw[hx]at h1
 obtain⟨b,h2,h3⟩:=zCF h1
 refine⟨.ptr b off,fun E=>?_,.box _ _ _ h2⟩
 show zAv (zF tm x) H=_
 rw[h3];rfl
theorem yn(hd:Nat.blt d 1024=true)(hx:zP s x=.box a 0)(hb:s.st[a]? =some (.box cs))(hsh:shOf P t'=.many n)(hn:cs.length=n)(k:WpO P is orc all L (s.put d (.agg cs)) Q):WpO P is orc all (⟨some d,.load t' x,t,p,e,none⟩::L) s Q:=by
 refine zDx hd hx hb hsh (by rw[Nat.ble_eq];omega) ?_
 rw[List.drop_zero,List.take_of_length_le (by omega)]
 exact k
theorem zBE(hx:zP s x=.box a 0)(hb:s.st[a]? =some (.box cs))(hsh:shOf P t'=.many n)(hy:zP s y=.agg us)(hn:us.length=n)(h0:Nat.blt 0 n=true)(hl:cs.length=n)(ho:us.all oneU=true)(hg:us.map dg=us)(k:WpO P is orc all L (s.wr a us) Q):WpO P is orc all (⟨none,.store t' x y,t,p,e,none⟩::L) s Q:=by
 refine yY hx hb hsh hy (by rw[hn];exact Nat.beq_refl n) h0 (by rw[Nat.ble_eq];omega) ho ?_
 rw[List.take_zero,List.nil_append,hg,List.drop_of_length_le (by omega),List.append_nil]
 exact k
theorem o_loadP{l1 l2:List U}(hd:Nat.blt d 1024=true)(hx:zP s x=.box a off)(hb:s.st[a]? =some (.box (l1++(cs++l2))))(hsh:shOf P t'=.many n)(h1:l1.length=off)(hn:cs.length=n)(k:WpO P is orc all L (s.put d (.agg cs)) Q):WpO P is orc all (⟨some d,.load t' x,t,p,e,none⟩::L) s Q:=by
 refine zDx hd hx hb hsh (by rw[Nat.ble_eq];simp;omega) ?_
 rw[←h1,←hn,List.drop_left,List.take_left]
 exact k
theorem o_storeP{l1 l2 ws:List U}(hx:zP s x=.box a off)(hb:s.st[a]? =some (.box (l1++(cs++l2))))(hsh:shOf P t'=.many n)(hy:zP s y=.agg us)(h1:l1.length=off)(hn:us.length=n)(h0:Nat.blt 0 n=true)(hl:cs.length=n)(ho:us.all oneU=true)(hg:us.map dg=us)(hw:ws=l1++(us++l2))(k:WpO P is orc all L (s.wr a ws) Q):WpO P is orc all (⟨none,.store t' x y,t,p,e,none⟩::L) s Q:=by
 subst hw
 refine yY hx hb hsh hy (by rw[hn];exact Nat.beq_refl n) h0 (by rw[Nat.ble_eq];simp;omega) ho ?_
 rw[show l1++(cs++l2)=(l1++cs)++l2 by simp,List.append_assoc l1 cs l2,←h1,List.take_left,hg,←List.append_assoc l1 cs l2,show l1.length+n=(l1++cs).length by simp[hl],List.drop_left,List.append_assoc]
 exact k
end ops
end Vam
namespace Vam
def psDr:List (Int×Int):=[(1,16),(-1,7),(0,255),(1,16),(0,1),(0,8),(0,6)]
def loB(i:Nat):Int:=((psDr[i]?).map Prod.fst).getD 0
def hiB(i:Nat):Int:=((psDr[i]?).map Prod.snd).getD 0
theorem gatB(i:Nat)(h:i<7):gread (0*4096+i*2) (fun cs o=>opt none (fun l=>some (V.agg l)) (zCH (1+1) (zBg cs o)))=some (.agg (ofList [.int .i64 (loB i),.int .i64 (hiB i)])):=by
 match i,h with
 |0,_=>rfl
 |1,_=>rfl
 |2,_=>rfl
 |3,_=>rfl
 |4,_=>rfl
 |5,_=>rfl
 |6,_=>rfl
end Vam
