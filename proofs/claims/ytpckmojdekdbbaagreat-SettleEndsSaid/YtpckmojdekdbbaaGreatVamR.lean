import Derived.Test.YtpckmojdekdbbaaGreatVamQ
set_option linter.unusedVariables false
set_option linter.unusedSimpArgs false
set_option linter.constructorNameAsVariable false
namespace Vam
open Go
variable {s:St}{P:Program}{is:FuncId→Bool}{orc:Known}
section glob
variable {all l:List Oper}{d1 d2 g i n c:Nat}{xt el t' t1 t2:TypeId}{y:Operand}{p1 p2:String}{e1 e2:Array Edge}{ki:IntKind}{m:List V}{us:List U}{Q:St→Prop}
end glob
end Vam
namespace Vam
open Go
variable {s:St}{P:Program}{is:FuncId→Bool}{orc:Known}
end Vam
namespace Vam
open Go
section
variable {Pr:Prt}{φ:BMap}{S:SMap}{tm:TT}{H:CH}{P:Program}{is:FuncId→Bool}{orc:Known}{s:St}
theorem d_plainE{all:List Oper}{o:Oper}{l:List (Oper×M0)}{Q:St→Prop}(M:St→Prop)(h:WpO P is orc all [o] s M)(k:∀s1,M s1→WpD P is orc all l s1 Q):WpD P is orc all ((o,.plain)::l) s Q:=by
 intro Pr φ S tm H m0 hm hp hs
 cases hm with
 |plain _ _ m hm=>
  have e:pend ((o,Md.plain)::m)=pend m:=rfl
  rw[e]at hp hs
  obtain⟨s2,tm1,H1,φ1,S1,⟨n1,r1⟩,r2,r3,r4,r5,r6⟩:=h _ φ S tm H hs
  exact zDi ⟨n1,fun n hn=>by rw[←zFo];exact r1 n hn⟩ r3 r4 (r5.weaken (fun b hb=>.inl hb) fun _ h=>h) (hm.keep fun i hi=>r5.get i (.inr hi)) ⟨hp.nodup,fun i hi=>by rw[r5.fz];exact hp.ok i hi,hp.out,hp.odd⟩ r2 (k s2 r6)
theorem d_callWE{all:List Oper}{l:List (Oper×M0)}{d:Option Nat}{g:FuncId}{xs:Array Operand}{ts:Array TypeId}{t:TypeId}{p:String}{e:Array Edge}{args:List U}{M:U→List SB→Prop}{Q:St→Prop}(hd:wj 1024 d=true)
  (hw:WpC P is orc g args s.st M) (hle:UW (.l (zDG s xs.toList)) (.l args)) (k:∀u st',M u st'→WpD P is orc all l ((⟨s.fr,[],st'⟩:St).dst d u) Q):
  WpD P is orc all ((⟨d,.call ⟨.value (.func g),xs,ts⟩,t,p,e,none⟩,.plain)::l) s Q:=
 d_plainE (fun s1=>∃u st',M u st'∧s1=(⟨s.fr,[],st'⟩:St).dst d u) (zAO hd hw hle fun u st' hM=>zA ⟨u,st',hM,rfl⟩) fun s1 ⟨u,st',hM,e⟩=>by subst e;exact k u st' hM
end
end Vam
namespace Vam
open Go
section
variable {P:Program}{is:FuncId→Bool}{orc:Known}{s:St}{all l:List Oper}{d:Nat}{x y:Operand}{t:TypeId}{p:String}{e:Array Edge}{Q:St→Prop}
end
end Vam
namespace Vam
open Go
section
variable {P:Program}{is:FuncId→Bool}{orc:Known}{s:St}{all l:List Oper}{d:Nat}{x:Operand}{t xt:TypeId}{p:String}{e:Array Edge}{Q:St→Prop}
end
end Vam
namespace Vam
open Go
variable {P:Program}{is:FuncId→Bool}{orc:Known}
end Vam
namespace Vam
open Go
variable {P:Program}{is:FuncId→Bool}{orc:Known}
end Vam
namespace Vam
open Go
section ops
variable {P:Program}{is:FuncId→Bool}{orc:Known}{all L:List Oper}{s:St}{d a off n:Nat}{x y:Operand}{t' t:TypeId}{p:String}{e:Array Edge}{Q:St→Prop}{cs us:List U}
theorem o_loadW(hd:Nat.blt d 1024=true)(hx:zQ s x=.box a 0)(hb:s.st[a]? =some (.box cs))(hsh:shOf P t'=.many n)(hn:cs.length=n)(k:WpO P is orc all L (s.put d (.agg cs)) Q):WpO P is orc all (⟨some d,.load t' x,t,p,e,none⟩::L) s Q:=by
 refine zg hd hx hb hsh (by rw[Nat.ble_eq];omega) ?_
 rw[List.drop_zero,List.take_of_length_le (by omega)]
 exact k
theorem o_storeW(hx:zQ s x=.box a 0)(hb:s.st[a]? =some (.box cs))(hsh:shOf P t'=.many n)(hy:zQ s y=.agg us)(hn:us.length=n)(h0:Nat.blt 0 n=true)(hl:cs.length=n)(ho:us.all oneU=true)(hg:us.map dg=us)(k:WpO P is orc all L (s.wr a us) Q):WpO P is orc all (⟨none,.store t' x y,t,p,e,none⟩::L) s Q:=by
 refine zS hx hb hsh hy (by rw[hn];exact Nat.beq_refl n) h0 (by rw[Nat.ble_eq];omega) ho ?_
 rw[List.take_zero,List.nil_append,hg,List.drop_of_length_le (by omega),List.append_nil]
 exact k
theorem o_loadP{l1 l2:List U}(hd:Nat.blt d 1024=true)(hx:zQ s x=.box a off)(hb:s.st[a]? =some (.box (l1++(cs++l2))))(hsh:shOf P t'=.many n)(h1:l1.length=off)(hn:cs.length=n)(k:WpO P is orc all L (s.put d (.agg cs)) Q):WpO P is orc all (⟨some d,.load t' x,t,p,e,none⟩::L) s Q:=by
 refine zg hd hx hb hsh (by rw[Nat.ble_eq];simp;omega) ?_
 rw[←h1,←hn,List.drop_left,List.take_left]
 exact k
theorem o_storeP{l1 l2 ws:List U}(hx:zQ s x=.box a off)(hb:s.st[a]? =some (.box (l1++(cs++l2))))(hsh:shOf P t'=.many n)(hy:zQ s y=.agg us)(h1:l1.length=off)(hn:us.length=n)(h0:Nat.blt 0 n=true)(hl:cs.length=n)(ho:us.all oneU=true)(hg:us.map dg=us)(hw:ws=l1++(us++l2))(k:WpO P is orc all L (s.wr a ws) Q):WpO P is orc all (⟨none,.store t' x y,t,p,e,none⟩::L) s Q:=by
 subst hw
 refine zS hx hb hsh hy (by rw[hn];exact Nat.beq_refl n) h0 (by rw[Nat.ble_eq];simp;omega) ho ?_
 rw[show l1++(cs++l2)=(l1++cs)++l2 by simp,List.append_assoc l1 cs l2,←h1,List.take_left,hg,←List.append_assoc l1 cs l2,show l1.length+n=(l1++cs).length by simp[hl],List.drop_left,List.append_assoc]
 exact k
end ops
end Vam
namespace Vam
open Go
section ops
variable {P:Program}{is:FuncId→Bool}{orc:Known}{s:St}{all l:List Oper}{d:Nat}{x y:Operand}{xt el t:TypeId}{p:String}{e:Array Edge}{Q:St→Prop}{bb n:Nat}{k1 k2:IntKind}
end ops
end Vam
