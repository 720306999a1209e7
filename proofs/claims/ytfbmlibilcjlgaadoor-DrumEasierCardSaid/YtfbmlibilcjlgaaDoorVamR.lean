import Derived.Test.YtfbmlibilcjlgaaDoorVamQ
import Derived.Test.YtfbmlibilcjlgaaDoorVamIg
set_option linter.unusedVariables false
set_option linter.unusedSimpArgs false
namespace Vam
open Go
variable {s:St}{P:Program}{is:FuncId→Bool}{orc:Known}
section glob
variable {all l:List Oper}{d1 d2 g i n c:Nat}{xt el t' t1 t2:TypeId}{y:Operand}{p1 p2:String}{e1 e2:Array Edge}{ki:IntKind}{m:List V}{us:List U}{Q:St→Prop}
theorem g_addr{Pr:Prt}{φ:BMap}{S:SMap}{tm:TT}{H:CH}(hs:SR Pr φ S s tm H)(ht:tyOf P xt=.array n el)(hc:P.cellsOf el=c)(hi:zS s y=.int ki (i:Int))(hlt:Nat.blt i n=true)(hp:ptrOk .over (g*4096) (i*c)=true)(E:Ev):
  evOp P E tm H (.indexAddr xt (.global g) y)=.ok (.ptr .over (g*4096+i*c)) H:=by
 have h2:=zK hs y
 rw[hi]at h2
 have h2:=zBO h2
 show yQ P xt (globV g) (zH tm y) H=_
 unfold yQ
 rw[ht,h2]
 show cond (Nat.ble (Nat.succ i) n) (zCi H .over (g*4096) (Nat.mul i (P.cellsOf el))) .no=_
 rw[show Nat.ble (Nat.succ i) n=true from hlt,hc]
 show cond (ptrOk .over (g*4096) (i*c)) _ _=_
 rw[hp];rfl
theorem g_load{tm:TT}{H:CH}{c2:Nat}(hsh0:shOf P t'=.many (c2+1))(hj:tm.get d1=.ptr .over n)(hr:loadG P t' n=some (.agg (ofList m)))(E:Ev):evOp P E tm H (.load t' (.tmp d1))=.ok (.agg (ofList m)) H:=by
 show wc .no (zDY P t' H) (tm.get d1)=_
 rw[hj]
 show zj H (opt (cond (zGH .over) (loadG P t' n) none) (fun v=>some v) (zCp P t' H .over n))=_
 have h0:zCp P t' H .over n=none∨∃v,zCp P t' H .over n=some v:=by cases zCp P t' H .over n<;>simp
 rcases h0 with h0|⟨v,h0⟩
 ·rw[h0]
  show zj H (loadG P t' n)=_
  rw[hr];rfl
 ·exfalso
  unfold zCp at h0
  cases hsh:shOf P t' with
  |bad=>rw[hsh]at h0;cases h0
  |one=>
   rw[hsh]at h0
   have h0:read1 H .over n=some v:=h0
   unfold read1 at h0
   rw[CH.get_over]at h0
   cases h0
  |many k=>
   rw[hsh0]at hsh
   cases hsh
   rw[hsh0]at h0
   have h0:opt none (fun l=>some (V.agg l)) (zQ H .over n (c2+1))=some v:=h0
   have e:zQ H .over n (c2+1)=none:=by
    show zz none (rd n (c2+1)) (H.get .over)=none
    rw[CH.get_over];rfl
   rw[e]at h0
   cases h0
theorem zER{k off:Nat}{r:V}(hsh:shOf P t'=.many k)(hr:gread off (fun cs o=>opt none (fun l=>some (V.agg l)) (zCU k (zBr cs o)))=some r):loadG P t' off=some r:=by
 unfold loadG
 rw[hsh];exact hr
theorem o_gpair{c2:Nat}(hsh0:shOf P t'=.many (c2+1))(hd1:Nat.blt d1 1024=true)(hd2:Nat.blt d2 1024=true)(ht:tyOf P xt=.array n el)(hc:P.cellsOf el=c)(hi:zS s y=.int ki (i:Int))(hlt:Nat.blt i n=true)(hp:ptrOk .over (g*4096) (i*c)=true)(hr:gread (g*4096+i*c) (fun cs o=>opt none (fun l=>some (V.agg l)) (zCU (c2+1) (zBr cs o)))=some (.agg (ofList m)))(hu:zFY (ofList m)=us)
  (k:WpO P is orc all l ((s.put d1 .junk).put d2 (.agg us)) Q):WpO P is orc all (⟨some d1,.indexAddr xt (.global g) y,t1,p1,e1,none⟩::⟨some d2,.load t' (.tmp d1),t2,p2,e2,none⟩::l) s Q:=by
 subst hu
 intro Pr φ S tm H hs
 have hs1:=wA hs (d:=some d1) hd1 (.junk (.ptr .over (g*4096+i*c))) (NewOk.none rfl)
 have hget:(setT tm (some d1) (.ptr .over (g*4096+i*c))).get d1=.ptr .over (g*4096+i*c):=by
  show(TT.set _ tm d1).get d1=_
  rw[TT.get_set _ _ _ _ (yP hd1) (yP hd1),if_pos rfl]
 have hs2:=wA hs1 (d:=some d2) hd2 (.agg _ _ (zBe m)) (NewOk.none rfl)
 obtain⟨s2,tm2,H2,φ2,S2,⟨n2,k1⟩,k2⟩:=k Pr φ S _ H hs2
 refine⟨s2,tm2,H2,φ2,S2,⟨n2,fun n hn=>?_⟩,k2⟩
 show wz P (zJ true P is orc n) (some d1) (.indexAddr xt (.global g) y) tm H (zAf P (zJ true P is orc n) all (⟨some d2,.load t' (.tmp d1),t2,p2,e2,none⟩::l))=_
 unfold wz
 rw[g_addr hs ht hc hi hlt hp]
 show wz P (zJ true P is orc n) (some d2) (.load t' (.tmp d1)) (setT tm (some d1) (.ptr .over (g*4096+i*c))) H (zAf P (zJ true P is orc n) all l)=_
 unfold wz
 rw[g_load hsh0 hget (zER hsh0 hr)]
 exact k1 n hn
theorem zBN{c2:Nat}(hsh0:shOf P t'=.many (c2+1)){gi:Nat}{want:Bool}{og:Oper}{j:Nat}{b:Bool}(hg:nthO all gi=some og)(hj:og.dst=some j)(hb:(s.put d1 .junk).slot j=.bool b)(eb:b=want)(hd1:Nat.blt d1 1024=true)(hd2:Nat.blt d2 1024=true)(ht:tyOf P xt=.array n el)(hc:P.cellsOf el=c)(hi:zS s y=.int ki (i:Int))(hlt:Nat.blt i n=true)(hp:ptrOk .over (g*4096) (i*c)=true)(hr:gread (g*4096+i*c) (fun cs o=>opt none (fun l=>some (V.agg l)) (zCU (c2+1) (zBr cs o)))=some (.agg (ofList m)))(hu:zFY (ofList m)=us)
  (k:WpO P is orc all l ((s.put d1 .junk).put d2 (.agg us)) Q):WpO P is orc all (⟨some d1,.indexAddr xt (.global g) y,t1,p1,e1,none⟩::⟨some d2,.load t' (.tmp d1),t2,p2,e2,some (gi,want)⟩::l) s Q:=by
 subst hu;subst eb
 intro Pr φ S tm H hs
 have hs1:=wA hs (d:=some d1) hd1 (.junk (.ptr .over (g*4096+i*c))) (NewOk.none rfl)
 have hget:(setT tm (some d1) (.ptr .over (g*4096+i*c))).get d1=.ptr .over (g*4096+i*c):=by
  show(TT.set _ tm d1).get d1=_
  rw[TT.get_set _ _ _ _ (yP hd1) (yP hd1),if_pos rfl]
 have hs2:=wA hs1 (d:=some d2) hd2 (.agg _ _ (zBe m)) (NewOk.none rfl)
 obtain⟨s2,tm2,H2,φ2,S2,⟨n2,k1⟩,k2⟩:=k Pr φ S _ H hs2
 refine⟨s2,tm2,H2,φ2,S2,⟨n2,fun n hn=>?_⟩,k2⟩
 show wz P (zJ true P is orc n) (some d1) (.indexAddr xt (.global g) y) tm H (zAf P (zJ true P is orc n) all (⟨some d2,.load t' (.tmp d1),t2,p2,e2,some (gi,b)⟩::l))=_
 unfold wz
 rw[g_addr hs ht hc hi hlt hp]
 show opsIf P (zJ true P is orc n) (some d2) (.load t' (.tmp d1)) (setT tm (some d1) (.ptr .over (g*4096+i*c))) H (zAf P (zJ true P is orc n) all l) (zBV all (setT tm (some d1) (.ptr .over (g*4096+i*c))) (gi,b))=_
 rw[zEE hs1 hg hj hb,show bEq b b=true by cases b<;>rfl]
 show wz P (zJ true P is orc n) (some d2) (.load t' (.tmp d1)) (setT tm (some d1) (.ptr .over (g*4096+i*c))) H (zAf P (zJ true P is orc n) all l)=_
 unfold wz
 rw[g_load hsh0 hget (zER hsh0 hr)]
 exact k1 n hn
end glob
end Vam
namespace Vam
open Go
variable {s:St}{P:Program}{is:FuncId→Bool}{orc:Known}
theorem d_gpair{all:List Oper}{l:List (Oper×M0)}{d1 d2 g i n c:Nat}{xt el t' t1 t2:TypeId}{y:Operand}{p1 p2:String}{e1 e2:Array Edge}{ki:IntKind}{m:List V}{us:List U}{Q:St→Prop}{c2:Nat}(hsh0:shOf P t'=.many (c2+1))(hd1:Nat.blt d1 1024=true)(hd2:Nat.blt d2 1024=true)(ht:tyOf P xt=.array n el)(hc:P.cellsOf el=c)(hi:zS s y=.int ki (i:Int))(hlt:Nat.blt i n=true)(hp:ptrOk .over (g*4096) (i*c)=true)(hr:gread (g*4096+i*c) (fun cs o=>opt none (fun l=>some (V.agg l)) (zCU (c2+1) (zBr cs o)))=some (.agg (ofList m)))(hu:zFY (ofList m)=us)
  (k:WpD P is orc all l ((s.put d1 .junk).put d2 (.agg us)) Q):WpD P is orc all ((⟨some d1,.indexAddr xt (.global g) y,t1,p1,e1,none⟩,.plain)::(⟨some d2,.load t' (.tmp d1),t2,p2,e2,none⟩,.read true)::l) s Q:=by
 subst hu
 intro Pr φ S tm H m0 hm hpo hs
 cases hm with
 |plain _ _ m0 hm=>
 cases hm with
 |read _ _ _ m0 hm=>
 have e:pend ((⟨some d1,.indexAddr xt (.global g) y,t1,p1,e1,none⟩,Md.plain)::(⟨some d2,.load t' (.tmp d1),t2,p2,e2,none⟩,Md.read true)::m0)=pend m0:=rfl
 rw[e]at hpo hs
 have hs1:=wA hs (d:=some d1) hd1 (.junk (.ptr .over (g*4096+i*c))) (NewOk.none rfl)
 have hget:(setT tm (some d1) (.ptr .over (g*4096+i*c))).get d1=.ptr .over (g*4096+i*c):=by
  show(TT.set _ tm d1).get d1=_
  rw[TT.get_set _ _ _ _ (yP hd1) (yP hd1),if_pos rfl]
 have hs2:=wA hs1 (d:=some d2) hd2 (.agg _ _ (zBe m)) (NewOk.none rfl)
 obtain⟨s2,tm2,H2,φ2,S2,⟨n2,k1⟩,k2⟩:=k Pr φ S _ H m0 hm hpo hs2
 refine⟨s2,tm2,H2,φ2,S2,⟨n2,fun n hn=>?_⟩,k2⟩
 have r1:zq P (zJ true P is orc n) all (⟨some d1,.indexAddr xt (.global g) y,t1,p1,e1,none⟩,.plain) tm H=.ok (setT tm (some d1) (.ptr .over (g*4096+i*c))) H:=by
  rw[←zDh]
  show wz P (zJ true P is orc n) (some d1) (.indexAddr xt (.global g) y) tm H RO.ok=_
  unfold wz
  rw[g_addr hs ht hc hi hlt hp];rfl
 have r2:zq P (zJ true P is orc n) all (⟨some d2,.load t' (.tmp d1),t2,p2,e2,none⟩,.read true) (setT tm (some d1) (.ptr .over (g*4096+i*c))) H=.ok (setT (setT tm (some d1) (.ptr .over (g*4096+i*c))) (some d2) (.agg (ofList m))) H:=by
  refine zGi rfl ?_
  rw[←zDh]
  show wz P (zJ true P is orc n) (some d2) (.load t' (.tmp d1)) (setT tm (some d1) (.ptr .over (g*4096+i*c))) H RO.ok=_
  unfold wz
  rw[g_load hsh0 hget (zER hsh0 hr)];rfl
 show RO.rec (motive:=fun _=>RO) .no (wR P (zJ true P is orc n) all ((⟨some d2,.load t' (.tmp d1),t2,p2,e2,none⟩,.read true)::m0)) (zq P (zJ true P is orc n) all (⟨some d1,.indexAddr xt (.global g) y,t1,p1,e1,none⟩,.plain) tm H)=_
 rw[r1]
 show RO.rec (motive:=fun _=>RO) .no (wR P (zJ true P is orc n) all m0) (zq P (zJ true P is orc n) all (⟨some d2,.load t' (.tmp d1),t2,p2,e2,none⟩,.read true) (setT tm (some d1) (.ptr .over (g*4096+i*c))) H)=_
 rw[r2]
 exact k1 n hn
end Vam
namespace Vam
open Go
section
variable {Pr:Prt}{φ:BMap}{S:SMap}{tm:TT}{H:CH}{P:Program}{is:FuncId→Bool}{orc:Known}{s:St}
theorem nils_key{P:Program}{xt el:TypeId}{v:V}(hv:v=.nils∨∃a b c d e,v=.slice a b c d e)(ht:tyOf P xt=.slice el){b:Bool}(hb:isNils none (fun a=>isNils none (nilEq a) .nils) v=some b):binV P xt .eql v .nils=some (.bool b):=by
 have e:eqT P xt v .nils=some b:=by show zGx P _ xt v .nils=_;unfold zGx;rw[ht];exact hb
 have e2:binV P xt .eql v .nils=opt none (fun b=>some (V.bool b)) (eqT P xt v .nils):=by rcases hv with rfl|⟨_,_,_,_,_,rfl⟩<;>rfl
 rw[e2,e];rfl
theorem o_eqNilF{all l:List Oper}{d:Nat}{x y:Operand}{xt yt t el:TypeId}{p:String}{e:Array Edge}{k:Kd}{z:Nat}{es:List U}{Q:St→Prop}(hd:Nat.blt d 1024=true)(ht:tyOf P xt=.slice el)(hx:zS s x=.lst k z es)(hn:es≠[])(hy:∀tm,zH tm y=.nils)
  (h:WpO P is orc all l (s.put d (.bool false)) Q):WpO P is orc all (⟨some d,.binOp .eql xt x y yt,t,p,e,none⟩::l) s Q:=by
 refine o_op (R:=fun u s1=>u=.bool false∧s1=s) hd ?_ fun u s1 h1=>by obtain⟨rfl,rfl⟩:=h1;exact h
 intro Pr φ S tm H hs
 have hv:=zK hs x
 rw[hx]at hv
 have key:binV P xt .eql (zH tm x) (zH tm y)=some (.bool false):=by
  rw[hy tm]
  rcases zCo hv with ⟨h0,_⟩|⟨b,off,cc,m,l1,l2,h1,_⟩
  ·exact absurd h0 hn
  ·rw[h1];exact nils_key (.inr ⟨_,_,_,_,_,rfl⟩) ht rfl
 exact⟨.bool false,.bool false,s,H,φ,S,⟨0,fun n _=>by show zj H (binV P xt .eql (zH tm x) (zH tm y))=_;rw[key];rfl⟩,hs,φ.le_refl,S.le_refl,Kept.refl _ _,.bool false,NewOk.none rfl,rfl,rfl⟩
theorem d_plainE{all:List Oper}{o:Oper}{l:List (Oper×M0)}{Q:St→Prop}(M:St→Prop)(h:WpO P is orc all [o] s M)(k:∀s1,M s1→WpD P is orc all l s1 Q):WpD P is orc all ((o,.plain)::l) s Q:=by
 intro Pr φ S tm H m0 hm hp hs
 cases hm with
 |plain _ _ m hm=>
  have e:pend ((o,Md.plain)::m)=pend m:=rfl
  rw[e]at hp hs
  obtain⟨s2,tm1,H1,φ1,S1,⟨n1,r1⟩,r2,r3,r4,r5,r6⟩:=h _ φ S tm H hs
  exact zDy ⟨n1,fun n hn=>by rw[←zDh];exact r1 n hn⟩ r3 r4 (r5.weaken (fun b hb=>.inl hb) fun _ h=>h) (hm.keep fun i hi=>r5.get i (.inr hi)) ⟨hp.nodup,fun i hi=>by rw[r5.fz];exact hp.ok i hi,hp.out,hp.odd⟩ r2 (k s2 r6)
theorem d_callWE{all:List Oper}{l:List (Oper×M0)}{d:Option Nat}{g:FuncId}{xs:Array Operand}{ts:Array TypeId}{t:TypeId}{p:String}{e:Array Edge}{args:List U}{M:U→List SB→Prop}{Q:St→Prop}(hd:zAP 1024 d=true)
  (hw:WpC P is orc g args s.st M) (hle:UW (.l (zBq s xs.toList)) (.l args)) (k:∀u st',M u st'→WpD P is orc all l ((⟨s.fr,[],st'⟩:St).dst d u) Q):
  WpD P is orc all ((⟨d,.call ⟨.value (.func g),xs,ts⟩,t,p,e,none⟩,.plain)::l) s Q:=
 d_plainE (fun s1=>∃u st',M u st'∧s1=(⟨s.fr,[],st'⟩:St).dst d u) (zCn hd hw hle fun u st' hM=>zC ⟨u,st',hM,rfl⟩) fun s1 ⟨u,st',hM,e⟩=>by subst e;exact k u st' hM
end
end Vam
namespace Vam
open Go
section
variable {P:Program}{is:FuncId→Bool}{orc:Known}{s:St}{all l:List Oper}{d:Nat}{x y:Operand}{t:TypeId}{p:String}{e:Array Edge}{Q:St→Prop}
theorem o_conv{k k':IntKind}{n m:Int}{ts td:TypeId}(hd:Nat.blt d 1024=true)(hs:zCV P ts=true)(ht:tyOf P td=.int k')(hx:zS s x=.int k n)(hw:zBG k' n=m)(hk:WpO P is orc all l (s.put d (.int k' m)) Q):WpO P is orc all (⟨some d,.convert ts td x,t,p,e,none⟩::l) s Q:=by
 refine wK hd (fun _=>rfl) (fun Pr φ S tm H hs'=>⟨.int k' m,fun E=>?_,.int _ _⟩) hk
 have hv:=zK hs' x
 rw[hx]at hv
 have e1:zH tm x=.int k n:=by
  generalize zH tm x=v at hv
  cases hv;rfl
 show zAn P ts td (zH tm x) H=_
 unfold zAn
 rw[e1,hs,ht]
 show R.ok (.int k' (zBG k' n)) H=_
 rw[hw]
theorem wrapU64{n:Int}(h:0≤n∧n≤9223372036854775807):zBG .u64 n=n:=by
 show IntKind.u64.wrap n=n
 have e:n % (2 ^ IntKind.u64.bits:Int)=n:=Int.emod_eq_of_lt h.1 (by show n<18446744073709551616;omega)
 unfold IntKind.wrap
 simp only[e]
 rfl
end
end Vam
namespace Vam
open Go
section
variable {P:Program}{is:FuncId→Bool}{orc:Known}{s:St}{all l:List Oper}{d:Nat}{x:Operand}{t xt:TypeId}{p:String}{e:Array Edge}{Q:St→Prop}
theorem o_sliceSl{hi:Operand}{el:TypeId}{a off len c n:Nat}{k2:IntKind}(hd:Nat.blt d 1024=true)(ht:tyOf P xt=.slice el)(hc:P.cellsOf el=c)(hx:zS s x=.sl a off len c)(hh:zS s hi=.int k2 (n:Int))(h1:0<n)(hn:n≤len)
  (k:WpO P is orc all l (s.put d (.sl a off n c)) Q):WpO P is orc all (⟨some d,.slice xt x none (some hi) none,t,p,e,none⟩::l) s Q:=by
 refine wK hd (fun w=>rfl) (fun Pr φ S tm H hs=>?_) k
 have g1:=zK hs x
 rw[hx]at g1
 have g3:=zK hs hi
 rw[hh]at g3
 obtain⟨b,cc,q1,q2,q3,q4⟩:=sl_of g1
 refine⟨.slice b (off+0*c) (n - 0) (cond (capE cc) (capX (capN cc - 0)) (capA (capN cc - 0))) c,fun E=>?_,?_⟩
 ·show zj H (zCL P xt (zH tm x) none (some (zH tm hi)) none)=_
  rw[zBO g3]
  unfold zCL
  rw[ht,q2]
  show zj H (zCd (P.cellsOf el) none (some (.int k2 (n:Int))) none b off len cc c)=_
  unfold zCd
  rw[hc,Nat.beq_refl]
  show zj H (opt none (fun lh=>zAl c b off (capN cc) (capE cc) lh.1 lh.2) (opt none (fun h=>some (0,h)) (cond (Nat.ble n (capN cc)) (some n) none)))=_
  rw[show Nat.ble n (capN cc)=true by rw[Nat.ble_eq];omega]
  show zj H (zAl c b off (capN cc) (capE cc) 0 n)=_
  unfold zAl
  rw[beq_ne (show capN cc≠0 by omega)];rfl
 ·rw[Nat.zero_mul,Nat.add_zero,Nat.sub_zero,Nat.sub_zero]
  refine .sl _ b _ _ _ _ q1 ?_ q4
  cases capE cc with
  |true=>show n≤(2*capN cc+1) / 2;omega
  |false=>show n≤capN (capA (capN cc));rw[capA_n];omega
end
end Vam
namespace Vam
open Go
variable {P:Program}{is:FuncId→Bool}{orc:Known}
theorem k_frz{s:St}{a:Nat}{cs:List U}{c:Code}{Q:Ex→St→Prop}(hb:s.st[a]? =some (.box cs))(k:Wp P is orc c (s.frz a cs) Q):Wp P is orc c s Q:=by
 intro Pr φ S tm H ds ro fn hs ho hr
 obtain⟨b,m,ty,q1,q2,q3⟩:=hs.box a cs hb
 obtain⟨f1,f2⟩:=hs.freeze hb q1 q2 q3
 obtain⟨e,new,s2,tm2,H2,φ2,S2,k1,k2,k3,k4,k5,k6⟩:=k Pr φ _ tm H ds ro fn f1 ho hr
 exact⟨e,new,s2,tm2,H2,φ2,S2,k1,k2,k3,SMap.le_trans f2 k4,k5,k6⟩
theorem k_see{s:St}{c:Code}{Q:Ex→St→Prop}(d:Nat){u:U}(hd:Nat.blt d 1024=true)(hn:∀v,yJ v u=none)(hu:US s.st (.u (s.fr d)) (.u u))(k:Wp P is orc c (s.put d u) Q):Wp P is orc c s Q:=by
 intro Pr φ S tm H ds ro fn hs ho hr
 have hd:=yP hd
 have h1:=hs.put' hd (US.vu hs hu (hs.fr d hd)) (hn _)
 exact k Pr φ S tm H ds ro fn (h1.slotcong fun i hi=>by rw[TT.get_set _ _ _ _ hd hi];split<;>simp_all) ho hr
end Vam
namespace Vam
def psDr:List (Int×Int):=[(1,8),(1,16),(1,1000),(0,3),(0,128000),(0,100),(1,5),(0,500),(0,100),(-2,1)]
def loB(i:Nat):Int:=((psDr[i]?).map Prod.fst).getD 0
def hiB(i:Nat):Int:=((psDr[i]?).map Prod.snd).getD 0
theorem gatB(i:Nat)(h:i<10):gread (0*4096+i*2) (fun cs o=>opt none (fun l=>some (V.agg l)) (zCU (1+1) (zBr cs o)))=some (.agg (ofList [.int .i64 (loB i),.int .i64 (hiB i)])):=by
 match i,h with
 |0,_=>rfl
 |1,_=>rfl
 |2,_=>rfl
 |3,_=>rfl
 |4,_=>rfl
 |5,_=>rfl
 |6,_=>rfl
 |7,_=>rfl
 |8,_=>rfl
 |9,_=>rfl
end Vam
