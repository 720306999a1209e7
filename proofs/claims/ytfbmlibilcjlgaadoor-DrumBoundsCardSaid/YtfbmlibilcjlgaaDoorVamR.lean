import Derived.Test.YtfbmlibilcjlgaaDoorVamQ
import Derived.Test.YtfbmlibilcjlgaaDoorVamIg
set_option linter.unusedVariables false
set_option linter.unusedSimpArgs false
namespace Vam
open Go
variable {s:St}{P:Program}{is:FuncId→Bool}{orc:Known}
section glob
variable {all l:List Oper}{d1 d2 g i n c:Nat}{xt el t' t1 t2:TypeId}{y:Operand}{p1 p2:String}{e1 e2:Array Edge}{ki:IntKind}{m:List V}{us:List U}{Q:St→Prop}
theorem g_addr{Pr:Prt}{φ:BMap}{S:SMap}{tm:TT}{H:CH}(hs:SR Pr φ S s tm H)(ht:tyOf P xt=.array n el)(hc:P.cellsOf el=c)(hi:zY s y=.int ki (i:Int))(hlt:Nat.blt i n=true)(hp:ptrOk .over (g*4096) (i*c)=true)(E:Ev):
  evOp P E tm H (.indexAddr xt (.global g) y)=.ok (.ptr .over (g*4096+i*c)) H:=by
 have h2:=zO hs y
 rw[hi]at h2
 have h2:=zBZ h2
 show ya P xt (globV g) (zI tm y) H=_
 unfold ya
 rw[ht,h2]
 show cond (Nat.ble (Nat.succ i) n) (zCo H .over (g*4096) (Nat.mul i (P.cellsOf el))) .no=_
 rw[show Nat.ble (Nat.succ i) n=true from hlt,hc]
 show cond (ptrOk .over (g*4096) (i*c)) _ _=_
 rw[hp];rfl
theorem g_load{tm:TT}{H:CH}{c2:Nat}(hsh0:shOf P t'=.many (c2+1))(hj:tm.get d1=.ptr .over n)(hr:loadG P t' n=some (.agg (ofList m)))(E:Ev):evOp P E tm H (.load t' (.tmp d1))=.ok (.agg (ofList m)) H:=by
 show ww .no (zDl P t' H) (tm.get d1)=_
 rw[hj]
 show zx H (opt (cond (zGT .over) (loadG P t' n) none) (fun v=>some v) (zCt P t' H .over n))=_
 have h0:zCt P t' H .over n=none∨∃v,zCt P t' H .over n=some v:=by cases zCt P t' H .over n<;>simp
 rcases h0 with h0|⟨v,h0⟩
 ·rw[h0]
  show zx H (loadG P t' n)=_
  rw[hr];rfl
 ·exfalso
  unfold zCt at h0
  cases hsh:shOf P t' with
  |bad=>rw[hsh]at h0;cases h0
  |one=>
   rw[hsh]at h0
   have h0:read1 H .over n=some v:=h0
   unfold read1 at h0
   rw[CH.get_over]at h0
   cases h0
  |many k=>
   rw[hsh0]at hsh
   cases hsh
   rw[hsh0]at h0
   have h0:opt none (fun l=>some (V.agg l)) (zW H .over n (c2+1))=some v:=h0
   have e:zW H .over n (c2+1)=none:=by
    show yN none (rd n (c2+1)) (H.get .over)=none
    rw[CH.get_over];rfl
   rw[e]at h0
   cases h0
theorem zEh{k off:Nat}{r:V}(hsh:shOf P t'=.many k)(hr:gread off (fun cs o=>opt none (fun l=>some (V.agg l)) (zCd k (zCG cs o)))=some r):loadG P t' off=some r:=by
 unfold loadG
 rw[hsh];exact hr
theorem o_gpair{c2:Nat}(hsh0:shOf P t'=.many (c2+1))(hd1:Nat.blt d1 1024=true)(hd2:Nat.blt d2 1024=true)(ht:tyOf P xt=.array n el)(hc:P.cellsOf el=c)(hi:zY s y=.int ki (i:Int))(hlt:Nat.blt i n=true)(hp:ptrOk .over (g*4096) (i*c)=true)(hr:gread (g*4096+i*c) (fun cs o=>opt none (fun l=>some (V.agg l)) (zCd (c2+1) (zCG cs o)))=some (.agg (ofList m)))(hu:zDT (ofList m)=us)
  (k:WpO P is orc all l ((s.put d1 .junk).put d2 (.agg us)) Q):WpO P is orc all (⟨some d1,.indexAddr xt (.global g) y,t1,p1,e1,none⟩::⟨some d2,.load t' (.tmp d1),t2,p2,e2,none⟩::l) s Q:=by
 subst hu
 intro Pr φ S tm H hs
 have hs1:=wI hs (d:=some d1) hd1 (.junk (.ptr .over (g*4096+i*c))) (NewOk.none rfl)
 have hget:(setT tm (some d1) (.ptr .over (g*4096+i*c))).get d1=.ptr .over (g*4096+i*c):=by
  show(TT.set _ tm d1).get d1=_
  rw[TT.get_set _ _ _ _ (yb hd1) (yb hd1),if_pos rfl]
 have hs2:=wI hs1 (d:=some d2) hd2 (.agg _ _ (zBH m)) (NewOk.none rfl)
 obtain⟨s2,tm2,H2,φ2,S2,⟨n2,k1⟩,k2⟩:=k Pr φ S _ H hs2
 refine⟨s2,tm2,H2,φ2,S2,⟨n2,fun n hn=>?_⟩,k2⟩
 show zAK P (zM true P is orc n) (some d1) (.indexAddr xt (.global g) y) tm H (zAq P (zM true P is orc n) all (⟨some d2,.load t' (.tmp d1),t2,p2,e2,none⟩::l))=_
 unfold zAK
 rw[g_addr hs ht hc hi hlt hp]
 show zAK P (zM true P is orc n) (some d2) (.load t' (.tmp d1)) (setT tm (some d1) (.ptr .over (g*4096+i*c))) H (zAq P (zM true P is orc n) all l)=_
 unfold zAK
 rw[g_load hsh0 hget (zEh hsh0 hr)]
 exact k1 n hn
theorem zBY{c2:Nat}(hsh0:shOf P t'=.many (c2+1)){gi:Nat}{want:Bool}{og:Oper}{j:Nat}{b:Bool}(hg:nthO all gi=some og)(hj:og.dst=some j)(hb:(s.put d1 .junk).slot j=.bool b)(eb:b=want)(hd1:Nat.blt d1 1024=true)(hd2:Nat.blt d2 1024=true)(ht:tyOf P xt=.array n el)(hc:P.cellsOf el=c)(hi:zY s y=.int ki (i:Int))(hlt:Nat.blt i n=true)(hp:ptrOk .over (g*4096) (i*c)=true)(hr:gread (g*4096+i*c) (fun cs o=>opt none (fun l=>some (V.agg l)) (zCd (c2+1) (zCG cs o)))=some (.agg (ofList m)))(hu:zDT (ofList m)=us)
  (k:WpO P is orc all l ((s.put d1 .junk).put d2 (.agg us)) Q):WpO P is orc all (⟨some d1,.indexAddr xt (.global g) y,t1,p1,e1,none⟩::⟨some d2,.load t' (.tmp d1),t2,p2,e2,some (gi,want)⟩::l) s Q:=by
 subst hu;subst eb
 intro Pr φ S tm H hs
 have hs1:=wI hs (d:=some d1) hd1 (.junk (.ptr .over (g*4096+i*c))) (NewOk.none rfl)
 have hget:(setT tm (some d1) (.ptr .over (g*4096+i*c))).get d1=.ptr .over (g*4096+i*c):=by
  show(TT.set _ tm d1).get d1=_
  rw[TT.get_set _ _ _ _ (yb hd1) (yb hd1),if_pos rfl]
 have hs2:=wI hs1 (d:=some d2) hd2 (.agg _ _ (zBH m)) (NewOk.none rfl)
 obtain⟨s2,tm2,H2,φ2,S2,⟨n2,k1⟩,k2⟩:=k Pr φ S _ H hs2
 refine⟨s2,tm2,H2,φ2,S2,⟨n2,fun n hn=>?_⟩,k2⟩
 show zAK P (zM true P is orc n) (some d1) (.indexAddr xt (.global g) y) tm H (zAq P (zM true P is orc n) all (⟨some d2,.load t' (.tmp d1),t2,p2,e2,some (gi,b)⟩::l))=_
 unfold zAK
 rw[g_addr hs ht hc hi hlt hp]
 show opsIf P (zM true P is orc n) (some d2) (.load t' (.tmp d1)) (setT tm (some d1) (.ptr .over (g*4096+i*c))) H (zAq P (zM true P is orc n) all l) (zBs all (setT tm (some d1) (.ptr .over (g*4096+i*c))) (gi,b))=_
 rw[zET hs1 hg hj hb,show bEq b b=true by cases b<;>rfl]
 show zAK P (zM true P is orc n) (some d2) (.load t' (.tmp d1)) (setT tm (some d1) (.ptr .over (g*4096+i*c))) H (zAq P (zM true P is orc n) all l)=_
 unfold zAK
 rw[g_load hsh0 hget (zEh hsh0 hr)]
 exact k1 n hn
end glob
end Vam
namespace Vam
open Go
variable {s:St}{P:Program}{is:FuncId→Bool}{orc:Known}
theorem d_gpair{all:List Oper}{l:List (Oper×M0)}{d1 d2 g i n c:Nat}{xt el t' t1 t2:TypeId}{y:Operand}{p1 p2:String}{e1 e2:Array Edge}{ki:IntKind}{m:List V}{us:List U}{Q:St→Prop}{c2:Nat}(hsh0:shOf P t'=.many (c2+1))(hd1:Nat.blt d1 1024=true)(hd2:Nat.blt d2 1024=true)(ht:tyOf P xt=.array n el)(hc:P.cellsOf el=c)(hi:zY s y=.int ki (i:Int))(hlt:Nat.blt i n=true)(hp:ptrOk .over (g*4096) (i*c)=true)(hr:gread (g*4096+i*c) (fun cs o=>opt none (fun l=>some (V.agg l)) (zCd (c2+1) (zCG cs o)))=some (.agg (ofList m)))(hu:zDT (ofList m)=us)
  (k:WpD P is orc all l ((s.put d1 .junk).put d2 (.agg us)) Q):WpD P is orc all ((⟨some d1,.indexAddr xt (.global g) y,t1,p1,e1,none⟩,.plain)::(⟨some d2,.load t' (.tmp d1),t2,p2,e2,none⟩,.read true)::l) s Q:=by
 subst hu
 intro Pr φ S tm H m0 hm hpo hs
 cases hm with
 |plain _ _ m0 hm=>
 cases hm with
 |read _ _ _ m0 hm=>
 have e:pend ((⟨some d1,.indexAddr xt (.global g) y,t1,p1,e1,none⟩,Md.plain)::(⟨some d2,.load t' (.tmp d1),t2,p2,e2,none⟩,Md.read true)::m0)=pend m0:=rfl
 rw[e]at hpo hs
 have hs1:=wI hs (d:=some d1) hd1 (.junk (.ptr .over (g*4096+i*c))) (NewOk.none rfl)
 have hget:(setT tm (some d1) (.ptr .over (g*4096+i*c))).get d1=.ptr .over (g*4096+i*c):=by
  show(TT.set _ tm d1).get d1=_
  rw[TT.get_set _ _ _ _ (yb hd1) (yb hd1),if_pos rfl]
 have hs2:=wI hs1 (d:=some d2) hd2 (.agg _ _ (zBH m)) (NewOk.none rfl)
 obtain⟨s2,tm2,H2,φ2,S2,⟨n2,k1⟩,k2⟩:=k Pr φ S _ H m0 hm hpo hs2
 refine⟨s2,tm2,H2,φ2,S2,⟨n2,fun n hn=>?_⟩,k2⟩
 have r1:yH P (zM true P is orc n) all (⟨some d1,.indexAddr xt (.global g) y,t1,p1,e1,none⟩,.plain) tm H=.ok (setT tm (some d1) (.ptr .over (g*4096+i*c))) H:=by
  rw[←zDt]
  show zAK P (zM true P is orc n) (some d1) (.indexAddr xt (.global g) y) tm H RO.ok=_
  unfold zAK
  rw[g_addr hs ht hc hi hlt hp];rfl
 have r2:yH P (zM true P is orc n) all (⟨some d2,.load t' (.tmp d1),t2,p2,e2,none⟩,.read true) (setT tm (some d1) (.ptr .over (g*4096+i*c))) H=.ok (setT (setT tm (some d1) (.ptr .over (g*4096+i*c))) (some d2) (.agg (ofList m))) H:=by
  refine zGw rfl ?_
  rw[←zDt]
  show zAK P (zM true P is orc n) (some d2) (.load t' (.tmp d1)) (setT tm (some d1) (.ptr .over (g*4096+i*c))) H RO.ok=_
  unfold zAK
  rw[g_load hsh0 hget (zEh hsh0 hr)];rfl
 show RO.rec (motive:=fun _=>RO) .no (wn P (zM true P is orc n) all ((⟨some d2,.load t' (.tmp d1),t2,p2,e2,none⟩,.read true)::m0)) (yH P (zM true P is orc n) all (⟨some d1,.indexAddr xt (.global g) y,t1,p1,e1,none⟩,.plain) tm H)=_
 rw[r1]
 show RO.rec (motive:=fun _=>RO) .no (wn P (zM true P is orc n) all m0) (yH P (zM true P is orc n) all (⟨some d2,.load t' (.tmp d1),t2,p2,e2,none⟩,.read true) (setT tm (some d1) (.ptr .over (g*4096+i*c))) H)=_
 rw[r2]
 exact k1 n hn
end Vam
namespace Vam
open Go
section
variable {Pr:Prt}{φ:BMap}{S:SMap}{tm:TT}{H:CH}{P:Program}{is:FuncId→Bool}{orc:Known}{s:St}
theorem nils_key{P:Program}{xt el:TypeId}{v:V}(hv:v=.nils∨∃a b c d e,v=.slice a b c d e)(ht:tyOf P xt=.slice el){b:Bool}(hb:isNils none (fun a=>isNils none (nilEq a) .nils) v=some b):binV P xt .eql v .nils=some (.bool b):=by
 have e:eqT P xt v .nils=some b:=by show zHL P _ xt v .nils=_;unfold zHL;rw[ht];exact hb
 have e2:binV P xt .eql v .nils=opt none (fun b=>some (V.bool b)) (eqT P xt v .nils):=by rcases hv with rfl|⟨_,_,_,_,_,rfl⟩<;>rfl
 rw[e2,e];rfl
theorem o_eqNilF{all l:List Oper}{d:Nat}{x y:Operand}{xt yt t el:TypeId}{p:String}{e:Array Edge}{k:Kd}{z:Nat}{es:List U}{Q:St→Prop}(hd:Nat.blt d 1024=true)(ht:tyOf P xt=.slice el)(hx:zY s x=.lst k z es)(hn:es≠[])(hy:∀tm,zI tm y=.nils)
  (h:WpO P is orc all l (s.put d (.bool false)) Q):WpO P is orc all (⟨some d,.binOp .eql xt x y yt,t,p,e,none⟩::l) s Q:=by
 refine o_op (R:=fun u s1=>u=.bool false∧s1=s) hd ?_ fun u s1 h1=>by obtain⟨rfl,rfl⟩:=h1;exact h
 intro Pr φ S tm H hs
 have hv:=zO hs x
 rw[hx]at hv
 have key:binV P xt .eql (zI tm x) (zI tm y)=some (.bool false):=by
  rw[hy tm]
  rcases zCs hv with ⟨h0,_⟩|⟨b,off,cc,m,l1,l2,h1,_⟩
  ·exact absurd h0 hn
  ·rw[h1];exact nils_key (.inr ⟨_,_,_,_,_,rfl⟩) ht rfl
 exact⟨.bool false,.bool false,s,H,φ,S,⟨0,fun n _=>by show zx H (binV P xt .eql (zI tm x) (zI tm y))=_;rw[key];rfl⟩,hs,φ.le_refl,S.le_refl,Kept.refl _ _,.bool false,NewOk.none rfl,rfl,rfl⟩
theorem d_plainE{all:List Oper}{o:Oper}{l:List (Oper×M0)}{Q:St→Prop}(M:St→Prop)(h:WpO P is orc all [o] s M)(k:∀s1,M s1→WpD P is orc all l s1 Q):WpD P is orc all ((o,.plain)::l) s Q:=by
 intro Pr φ S tm H m0 hm hp hs
 cases hm with
 |plain _ _ m hm=>
  have e:pend ((o,Md.plain)::m)=pend m:=rfl
  rw[e]at hp hs
  obtain⟨s2,tm1,H1,φ1,S1,⟨n1,r1⟩,r2,r3,r4,r5,r6⟩:=h _ φ S tm H hs
  exact zDZ ⟨n1,fun n hn=>by rw[←zDt];exact r1 n hn⟩ r3 r4 (r5.weaken (fun b hb=>.inl hb) fun _ h=>h) (hm.keep fun i hi=>r5.get i (.inr hi)) ⟨hp.nodup,fun i hi=>by rw[r5.fz];exact hp.ok i hi,hp.out,hp.odd⟩ r2 (k s2 r6)
theorem d_callWE{all:List Oper}{l:List (Oper×M0)}{d:Option Nat}{g:FuncId}{xs:Array Operand}{ts:Array TypeId}{t:TypeId}{p:String}{e:Array Edge}{args:List U}{M:U→List SB→Prop}{Q:St→Prop}(hd:zAk 1024 d=true)
  (hw:WpC P is orc g args s.st M) (hle:UW (.l (zCF s xs.toList)) (.l args)) (k:∀u st',M u st'→WpD P is orc all l ((⟨s.fr,[],st'⟩:St).dst d u) Q):
  WpD P is orc all ((⟨d,.call ⟨.value (.func g),xs,ts⟩,t,p,e,none⟩,.plain)::l) s Q:=
 d_plainE (fun s1=>∃u st',M u st'∧s1=(⟨s.fr,[],st'⟩:St).dst d u) (zBM hd hw hle fun u st' hM=>zA ⟨u,st',hM,rfl⟩) fun s1 ⟨u,st',hM,e⟩=>by subst e;exact k u st' hM
end
end Vam
namespace Vam
open Go
section
variable {P:Program}{is:FuncId→Bool}{orc:Known}{s:St}{all l:List Oper}{d:Nat}{x y:Operand}{t:TypeId}{p:String}{e:Array Edge}{Q:St→Prop}
theorem o_conv{k k':IntKind}{n m:Int}{ts td:TypeId}(hd:Nat.blt d 1024=true)(hs:zCf P ts=true)(ht:tyOf P td=.int k')(hx:zY s x=.int k n)(hw:zBg k' n=m)(hk:WpO P is orc all l (s.put d (.int k' m)) Q):WpO P is orc all (⟨some d,.convert ts td x,t,p,e,none⟩::l) s Q:=by
 refine we hd (fun _=>rfl) (fun Pr φ S tm H hs'=>⟨.int k' m,fun E=>?_,.int _ _⟩) hk
 have hv:=zO hs' x
 rw[hx]at hv
 have e1:zI tm x=.int k n:=by
  generalize zI tm x=v at hv
  cases hv;rfl
 show zAy P ts td (zI tm x) H=_
 unfold zAy
 rw[e1,hs,ht]
 show R.ok (.int k' (zBg k' n)) H=_
 rw[hw]
theorem wrapU64{n:Int}(h:0≤n∧n≤9223372036854775807):zBg .u64 n=n:=by
 show IntKind.u64.wrap n=n
 have e:n % (2 ^ IntKind.u64.bits:Int)=n:=Int.emod_eq_of_lt h.1 (by show n<18446744073709551616;omega)
 unfold IntKind.wrap
 simp only[e]
 rfl
end
end Vam
namespace Vam
open Go
section
variable {P:Program}{is:FuncId→Bool}{orc:Known}{s:St}{all l:List Oper}{d:Nat}{x:Operand}{t xt:TypeId}{p:String}{e:Array Edge}{Q:St→Prop}
end
end Vam
namespace Vam
open Go
variable {P:Program}{is:FuncId→Bool}{orc:Known}
theorem k_frz{s:St}{a:Nat}{cs:List U}{c:Code}{Q:Ex→St→Prop}(hb:s.st[a]? =some (.box cs))(k:Wp P is orc c (s.frz a cs) Q):Wp P is orc c s Q:=by
 intro Pr φ S tm H ds ro fn hs ho hr
 obtain⟨b,m,ty,q1,q2,q3⟩:=hs.box a cs hb
 obtain⟨f1,f2⟩:=hs.freeze hb q1 q2 q3
 obtain⟨e,new,s2,tm2,H2,φ2,S2,k1,k2,k3,k4,k5,k6⟩:=k Pr φ _ tm H ds ro fn f1 ho hr
 exact⟨e,new,s2,tm2,H2,φ2,S2,k1,k2,k3,SMap.le_trans f2 k4,k5,k6⟩
end Vam
namespace Vam
open Go
variable {P:Program}{is:FuncId→Bool}{orc:Known}
end Vam
namespace Vam
def psDr:List (Int×Int):=[(1,8),(1,16),(1,1000),(0,3),(0,128000),(0,100),(1,5),(0,500),(0,100),(-2,1)]
def loB(i:Nat):Int:=((psDr[i]?).map Prod.fst).getD 0
def hiB(i:Nat):Int:=((psDr[i]?).map Prod.snd).getD 0
theorem gatB(i:Nat)(h:i<10):gread (0*4096+i*2) (fun cs o=>opt none (fun l=>some (V.agg l)) (zCd (1+1) (zCG cs o)))=some (.agg (ofList [.int .i64 (loB i),.int .i64 (hiB i)])):=by
 match i,h with
 |0,_=>rfl
 |1,_=>rfl
 |2,_=>rfl
 |3,_=>rfl
 |4,_=>rfl
 |5,_=>rfl
 |6,_=>rfl
 |7,_=>rfl
 |8,_=>rfl
 |9,_=>rfl
end Vam
