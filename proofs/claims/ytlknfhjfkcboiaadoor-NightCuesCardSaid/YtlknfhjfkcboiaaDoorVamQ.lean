import Derived.Test.YtlknfhjfkcboiaaDoorVamP
set_option linter.unusedVariables false
set_option linter.unusedSimpArgs false
namespace Vam
open Go
variable {Pr:Prt}{φ φ' ψ:BMap}{S S' R:SMap}{s s':St}{tm tm':TT}{H H':CH}{P:Program}{is:FuncId→Bool}{orc:Known}
def flatC(u:U):Bool:=match u with
 | .int _ _=>true
 | .bool _=>true
 | .str _=>true
 |_=>false
def flatK(u:U):Bool:=match u with
 | .agg cs=>cs.all flatC
 |u=>flatC u
def val1(u:U):V:=match u with
 | .int k n=>.int k n
 | .bool b=>.bool b
 | .str s=>.str s
 |_=>undef
noncomputable def valK(u:U):V:=match u with
 | .agg cs=>.agg (ofList (cs.map val1))
 |u=>val1 u
theorem val1_of{v:V}{u:U}(h:VU φ S v u)(hf:flatC u=true):v=val1 u:=by
 cases h<;>first|rfl|cases hf
theorem valL_of{l:List V}{us:List U}(h:LU φ S l us)(hf:us.all flatC=true):l=us.map val1:=by
 induction us generalizing l with
 |nil=>cases h;rfl
 |cons u us ih=>
  cases h with
  |cons x l _ _ h1 h2=>
   simp only[List.all_cons,Bool.and_eq_true]at hf
   rw[val1_of h1 hf.1,ih h2 hf.2];rfl
theorem valK_of{v:V}{u:U}(h:VU φ S v u)(hf:flatK u=true):v=valK u:=by
 cases h with
 |agg l cs h1=>show V.agg (ofList l)=_;rw[valL_of h1 hf];rfl
 |int k n=>rfl
 |bool b=>rfl
 |str s=>rfl
 |_=>cases hf
section ops
variable {all l:List Oper}{d:Nat}{xt yt t:TypeId}{p:String}{e:Array Edge}{Q:St→Prop}{x y:Operand}{u w:U}{a off:Nat}{cs:List U}
theorem o_binK{op:BinOp}{b:Bool}(hd:Nat.blt d 1024=true)(hx:zT s x=u)(hy:zT s y=w)(fu:flatK u=true)(fw:flatK w=true)(he:binV P xt op (valK u) (valK w)=some (.bool b))(k:WpO P is orc all l (s.put d (.bool b)) Q):
  WpO P is orc all (⟨some d,.binOp op xt x y yt,t,p,e,none⟩::l) s Q:=by
 refine zAM hd (fun w=>rfl) (fun Pr φ S tm H hs=>⟨.bool b,fun E=>?_,.bool b⟩) k
 have h1:=zN hs x
 have h2:=zN hs y
 rw[hx]at h1;rw[hy]at h2
 show zx H (binV P xt op (zK tm x) (zK tm y))=_
 rw[valK_of h1 fu,valK_of h2 fw,he];rfl
theorem o_eqlB{a b:Bool}(hd:Nat.blt d 1024=true)(ht:tyOf P xt=.bool)(hx:zT s x=.bool a)(hy:zT s y=.bool b)(k:WpO P is orc all l (s.put d (.bool (decide (a=b)))) Q):
  WpO P is orc all (⟨some d,.binOp .eql xt x y yt,t,p,e,none⟩::l) s Q:=by
 refine o_binK hd hx hy rfl rfl ?_ k
 show eqOp P xt .eql (.bool a) (.bool b)=_
 show opt none (fun b=>some (V.bool b)) (eqT P xt (.bool a) (.bool b))=_
 have:eqT P xt (.bool a) (.bool b)=some (bEq a b):=by
  show zGr P _ xt (.bool a) (.bool b)=_
  unfold zGr
  rw[ht];rfl
 rw[this]
 show some (V.bool (bEq a b))=_
 cases a<;>cases b<;>rfl
end ops
end Vam
namespace Vam
open Go
variable {Pr:Prt}{φ φ' ψ:BMap}{S S' R:SMap}{s s':St}{tm tm':TT}{H H':CH}{P:Program}{is:FuncId→Bool}{orc:Known}
section ops
variable {all l:List Oper}{d:Nat}{xt t t':TypeId}{p:String}{e:Array Edge}{Q:St→Prop}{x:Operand}{u:U}{a off:Nat}{cs es:List U}
end ops
end Vam
namespace Vam
open Go
variable {Pr:Prt}{φ φ' ψ:BMap}{S S' R:SMap}{s s':St}{tm tm':TT}{H H':CH}{P:Program}{is:FuncId→Bool}{orc:Known}
theorem zF{c:Code}{Q:Ex→St→Prop}(l:List (Nat×U))(st:List SB)(h1:Holds s l)(h2:s.st=st)(k:∀fr:Nat→U,Wp P is orc c ⟨fun j=>zCC l j (fr j),[],st⟩ Q):Wp P is orc c s Q:=by
 rw[h1.eq]
 subst h2
 exact k s.fr
theorem SR.forget(h:SR Pr φ S s tm H){fr:Nat→U}(hfr:∀i,fr i=s.fr i∨fr i=.junk):SR Pr φ S ⟨fr,[],s.st⟩ tm H:=by
 have key:∀lo v u,At φ ⟨fr,[],s.st⟩ tm H lo v u→At φ s tm H lo v u∨yJ v u=none:=by
  intro lo v u ha
  cases ha with
  |slot i hi=>
   rcases hfr i with e|e
   ·show At φ s tm H (.slot i) (tm.get i) (fr i)∨_
    rw[e];exact .inl (.slot i hi)
   ·right
    show yJ _ (fr i)=none
    rw[e];rfl
  |cell a o b cs l e _ _ h1 h2 h3 h4 h5=>exact .inl (.cell a o b cs l e _ _ h1 h2 h3 h4 h5)
 refine⟨h.nok,h.fzn,fun i hi=>?_,h.bx,h.dom,h.inj,h.mem,?_,?_,fun p hp=>(by cases hp),?_,h.pnew⟩
 ·rcases hfr i with e|e
  ·show VU φ S _ (fr i);rw[e];exact h.fr i hi
  ·show VU φ S _ (fr i);rw[e];exact .junk _
 ·intro lo v u b ha hb
  rcases key _ _ _ ha with ha|hq
  ·exact h.own lo v u b ha hb
  ·rw[hq]at hb;cases hb
 ·intro lo lo' v u v' u' b ha ha' hb hb'
  rcases key _ _ _ ha with ha|hq
  ·rcases key _ _ _ ha' with ha'|hq
   ·exact h.excl lo lo' v u v' u' b ha ha' hb hb'
   ·rw[hq]at hb';cases hb'
  ·rw[hq]at hb;cases hb
 ·intro b hb
  obtain⟨q1,q2,q3,q4⟩:=h.prot b hb
  refine⟨q1,q2,q3,fun lo v u ha=>?_⟩
  rcases key _ _ _ ha with ha|hq
  ·exact q4 lo v u ha
  ·rw[hq];simp
theorem k_forget{c:Code}{Q:Ex→St→Prop}(l:List (Nat×U))(st:List SB)(h1:Holds s l)(h2:s.st=st)(k:Wp P is orc c ⟨fun j=>zCC l j .junk,[],st⟩ Q):Wp P is orc c s Q:=by
 intro Pr φ S tm H ds ro fn hs ho hr
 refine k Pr φ S tm H ds ro fn ?_ ho hr
 rw[←h2]
 refine hs.forget fun i=>?_
 have key:∀l:List (Nat×U),(∀p∈l,s.fr p.1=p.2)→zCC l i .junk=s.fr i∨zCC l i .junk=.junk:=by
  intro l
  induction l with
  |nil=>intro _;exact .inr rfl
  |cons p l ih=>
   intro hp
   obtain⟨j,u⟩:=p
   show cond (Nat.beq i j) u (zCC l i .junk)=_∨cond (Nat.beq i j) u (zCC l i .junk)=_
   by_cases e:i=j
   ·subst e
    rw[Nat.beq_refl]
    exact .inl (hp (i,u) List.mem_cons_self).symm
   ·rw[beq_ne e]
    exact ih fun q hq=>hp q (List.mem_cons_of_mem _ hq)
 exact key l h1.2
end Vam
namespace Vam
open Go
variable {Pr:Prt}{φ φ' ψ:BMap}{S S' R:SMap}{s s':St}{tm tm':TT}{H H':CH}{P:Program}{is:FuncId→Bool}{orc:Known}
theorem VU.undef:VU φ S undef (.tup []):=UR.tup [] [] .nil
theorem own_undef:yJ undef (.tup [])=none:=rfl
theorem undef_of{v:V}(h:VU φ S v (.tup [])):v=undef:=by
 cases h with
 |tup l us h=>cases h;rfl
theorem zEI{all:List Oper}{g:Nat}{want:Bool}{og:Oper}{j:Nat}{c:Bool}(hs:SR Pr φ S s tm H)(hg:nthO all g=some og)(hj:og.dst=some j)(hc:s.slot j=.bool c):zBY all tm (g,want)=bEq c want:=by
 have hv:=zN hs (.tmp j)
 rw[show zT s (.tmp j)=.bool c from hc]at hv
 have hv:tm.get j=.bool c:=zCu hv
 show opt false (fun b=>bEq b want) (opt none (fun o=>opt none (fun d=>yf none (fun b=>some b) (tm.get d)) (dstOf o)) (nthO all g))=_
 rw[hg]
 show opt false (fun b=>bEq b want) (opt none (fun d=>yf none (fun b=>some b) (tm.get d)) og.dst)=_
 rw[hj]
 show opt false (fun b=>bEq b want) (yf none (fun b=>some b) (tm.get j))=_
 rw[hv];rfl
theorem want_dead{all:List Oper}{g:Nat}{want:Bool}{og:Oper}{j:Nat}(hs:SR Pr φ S s tm H)(hg:nthO all g=some og)(hj:og.dst=some j)(hc:s.slot j=.tup []):zBY all tm (g,want)=false:=by
 have hv:=zN hs (.tmp j)
 rw[show zT s (.tmp j)=.tup []from hc]at hv
 have hv:tm.get j=undef:=undef_of hv
 show opt false (fun b=>bEq b want) (opt none (fun o=>opt none (fun d=>yf none (fun b=>some b) (tm.get d)) (dstOf o)) (nthO all g))=_
 rw[hg]
 show opt false (fun b=>bEq b want) (opt none (fun d=>yf none (fun b=>some b) (tm.get d)) og.dst)=_
 rw[hj]
 show opt false (fun b=>bEq b want) (yf none (fun b=>some b) (tm.get j))=_
 rw[hv];rfl
theorem o_left{all l:List Oper}{dst:Option Nat}{o:Op}{t:TypeId}{p:String}{a:Array Edge}{g:Nat}{want:Bool}{Q:St→Prop}(hd:wV 1024 dst=true)(hw:∀Pr φ S tm H,SR Pr φ S s tm H→zBY all tm (g,want)=false)
  (h2:WpO P is orc all l (s.dst dst (.tup [])) Q):WpO P is orc all (⟨dst,o,t,p,a,some (g,want)⟩::l) s Q:=by
 intro Pr φ S tm H hs
 obtain⟨s2,tm2,H2,φ2,S2,⟨n2,k1⟩,k2⟩:=h2 Pr φ S _ H (wz hs hd VU.undef (NewOk.none own_undef))
 refine⟨s2,tm2,H2,φ2,S2,⟨n2,fun n hn=>?_⟩,k2⟩
 show opsIf P (zM true P is orc n) dst o tm H (zAm P (zM true P is orc n) all l) (zBY all tm (g,want))=_
 rw[hw _ _ _ _ _ hs]
 exact k1 n hn
theorem yp{all l:List Oper}{dst:Option Nat}{o:Op}{t:TypeId}{p:String}{a:Array Edge}{g:Nat}{want:Bool}{og:Oper}{j:Nat}{c:Bool}{Q:St→Prop}(hd:wV 1024 dst=true)
  (hg:nthO all g=some og) (hj:og.dst=some j) (hc:s.slot j=.bool c)
  (h1:c=want→WpO P is orc all (⟨dst,o,t,p,a,none⟩::l) s Q) (h2:c= !want→WpO P is orc all l (s.dst dst (.tup [])) Q):WpO P is orc all (⟨dst,o,t,p,a,some (g,want)⟩::l) s Q:=by
 by_cases e:c=want
 ·exact o_guard hd hg hj hc h1 fun h=>by cases c<;>cases want<;>cases e<;>cases h
 ·have e':c= !want:=by cases c<;>cases want<;>simp_all
  refine o_left hd (fun Pr φ S tm H hs=>?_) (h2 e')
  rw[zEI hs hg hj hc];subst e';cases want<;>rfl
theorem yD{all l:List Oper}{dst:Option Nat}{o:Op}{t:TypeId}{p:String}{a:Array Edge}{g:Nat}{want:Bool}{og:Oper}{j:Nat}{Q:St→Prop}(hd:wV 1024 dst=true)
  (hg:nthO all g=some og) (hj:og.dst=some j) (hc:s.slot j=.tup []) (h2:WpO P is orc all l (s.dst dst (.tup [])) Q):WpO P is orc all (⟨dst,o,t,p,a,some (g,want)⟩::l) s Q:=
 o_left hd (fun _ _ _ _ _ hs=>want_dead hs hg hj hc) h2
theorem d_left{all:List Oper}{dst:Option Nat}{o:Op}{t:TypeId}{p:String}{a:Array Edge}{m0:M0}{l:List (Oper×M0)}{g:Nat}{want:Bool}{Q:St→Prop}(hd:wV 1024 dst=true)
  (hw:∀Pr φ S tm H,SR Pr φ S s tm H→zBY all tm (g,want)=false) (h2:WpD P is orc all l (s.dst dst (.tup [])) Q):WpD P is orc all ((⟨dst,o,t,p,a,some (g,want)⟩,m0)::l) s Q:=by
 intro Pr φ S tm H m hm hp hs
 obtain⟨md,m',rfl,hm2⟩:∃md m',m=(⟨dst,o,t,p,a,some (g,want)⟩,md)::m'∧Mt P H l m':=by
  cases hm with
  |plain _ _ m hm=>exact⟨_,m,rfl,hm⟩
  |quiet _ _ m hm=>exact⟨_,m,rfl,hm⟩
  |read _ ld _ m hm=>exact⟨_,m,rfl,hm⟩
  |pre _ i x _ m q1 q2 hm=>exact⟨_,m,rfl,hm⟩
  |lay _ i _ m hm=>exact⟨_,m,rfl,hm⟩
 have hw:zCV all tm (some (g,want))=false:=hw _ _ _ _ _ hs
 have hin:∀b,b∈pend m'→b∈pend ((⟨dst,o,t,p,a,some (g,want)⟩,md)::m'):=by
  intro b hb
  cases hmd:mdId md with
  |none=>simpa[pend,hmd]using hb
  |some i=>simp only[pend,List.filterMap_cons,hmd];exact List.mem_cons_of_mem _ hb
 have hnd:(pend m').Nodup:=by
  have:=hp.nodup
  cases hmd:mdId md with
  |none=>simpa[pend,hmd]using this
  |some i=>simp only[pend,List.filterMap_cons,hmd]at this;exact(List.nodup_cons.1 this).2
 have hs':SR (Pr.and (pend m')) φ S s tm H:=hs.weaken (fun b hb=>hb.imp id (hin b)) fun b hb=>by
  obtain⟨q1,q2⟩:=hs.pnew b (hb.imp id (hin b))
  rcases hb with hb|hb
  ·exact⟨.inl (Pr.s b hb),q2⟩
  ·exact⟨.inr hb,q2⟩
 refine zEr ⟨0,fun n hn=>?_⟩ φ.le_refl S.le_refl (Kept.refl _ _) hm2 ⟨hnd,fun i hi=>hp.ok i (hin i hi),fun i hi=>hp.out i (hin i hi),fun i hi=>hp.odd i (hin i hi)⟩ (wz hs' hd VU.undef (NewOk.none own_undef)) h2
 show cond (zCV all tm (some (g,want))) (wu dst tm (zAn P (zM true P is orc n) tm H md o)) (.ok (setT tm dst undef) H)=_
 rw[hw];rfl
theorem d_guardX{all:List Oper}{dst:Option Nat}{o:Op}{t:TypeId}{p:String}{a:Array Edge}{m0:M0}{l:List (Oper×M0)}{g:Nat}{want:Bool}{og:Oper}{j:Nat}{c:Bool}{Q:St→Prop}(hd:wV 1024 dst=true)
  (hg:nthO all g=some og) (hj:og.dst=some j) (hc:s.slot j=.bool c)
  (h1:c=want→WpD P is orc all ((⟨dst,o,t,p,a,none⟩,m0)::l) s Q) (h2:c= !want→WpD P is orc all l (s.dst dst (.tup [])) Q):WpD P is orc all ((⟨dst,o,t,p,a,some (g,want)⟩,m0)::l) s Q:=by
 by_cases e:c=want
 ·exact d_guard hd hg hj hc h1 fun h=>by cases c<;>cases want<;>cases e<;>cases h
 ·have e':c= !want:=by cases c<;>cases want<;>simp_all
  refine d_left hd (fun Pr φ S tm H hs=>?_) (h2 e')
  rw[zEI hs hg hj hc];subst e';cases want<;>rfl
theorem d_dead{all:List Oper}{dst:Option Nat}{o:Op}{t:TypeId}{p:String}{a:Array Edge}{m0:M0}{l:List (Oper×M0)}{g:Nat}{want:Bool}{og:Oper}{j:Nat}{Q:St→Prop}(hd:wV 1024 dst=true)
  (hg:nthO all g=some og) (hj:og.dst=some j) (hc:s.slot j=.tup []) (h2:WpD P is orc all l (s.dst dst (.tup [])) Q):WpD P is orc all ((⟨dst,o,t,p,a,some (g,want)⟩,m0)::l) s Q:=
 d_left hd (fun _ _ _ _ _ hs=>want_dead hs hg hj hc) h2
end Vam
namespace Vam
open Go
variable {s:St}{P:Program}{is:FuncId→Bool}{orc:Known}
section short
variable {all l:List Oper}{dst:Option Nat}{o:Op}{t:TypeId}{p:String}{a:Array Edge}{g:Nat}{want:Bool}{og:Oper}{j:Nat}{c:Bool}{Q:St→Prop}
theorem o_gD(hd:wV 1024 dst=true)(hg:nthO all g=some og)(hj:og.dst=some j)(hc:s.slot j=.bool c)(e:c=want)(h1:WpO P is orc all (⟨dst,o,t,p,a,none⟩::l) s Q):WpO P is orc all (⟨dst,o,t,p,a,some (g,want)⟩::l) s Q:=
 o_guard hd hg hj hc (fun _=>h1) fun h=>by cases c<;>cases want<;>cases e<;>cases h
theorem o_gS(hd:wV 1024 dst=true)(hg:nthO all g=some og)(hj:og.dst=some j)(hc:s.slot j=.bool c)(e:c= !want)(h2:WpO P is orc all l (s.dst dst (.tup [])) Q):WpO P is orc all (⟨dst,o,t,p,a,some (g,want)⟩::l) s Q:=
 yp hd hg hj hc (fun h=>by cases c<;>cases want<;>cases e<;>cases h) fun _=>h2
variable {m0:M0}{m:List (Oper×M0)}
theorem d_gD(hd:wV 1024 dst=true)(hg:nthO all g=some og)(hj:og.dst=some j)(hc:s.slot j=.bool c)(e:c=want)(h1:WpD P is orc all ((⟨dst,o,t,p,a,none⟩,m0)::m) s Q):WpD P is orc all ((⟨dst,o,t,p,a,some (g,want)⟩,m0)::m) s Q:=
 d_guard hd hg hj hc (fun _=>h1) fun h=>by cases c<;>cases want<;>cases e<;>cases h
theorem d_gS(hd:wV 1024 dst=true)(hg:nthO all g=some og)(hj:og.dst=some j)(hc:s.slot j=.bool c)(e:c= !want)(h2:WpD P is orc all m (s.dst dst (.tup [])) Q):WpD P is orc all ((⟨dst,o,t,p,a,some (g,want)⟩,m0)::m) s Q:=
 d_guardX hd hg hj hc (fun h=>by cases c<;>cases want<;>cases e<;>cases h) fun _=>h2
end short
theorem k_cT{x:Operand}{a b:Code}{c:Bool}{Q:Ex→St→Prop}(hx:zT s x=.bool c)(e:c=true)(h:Wp P is orc a s Q):Wp P is orc (.cond x a b) s Q:=k_cond hx (fun _=>h) fun h'=>by rw[e]at h';cases h'
theorem k_cF{x:Operand}{a b:Code}{c:Bool}{Q:Ex→St→Prop}(hx:zT s x=.bool c)(e:c=false)(h:Wp P is orc b s Q):Wp P is orc (.cond x a b) s Q:=k_cond hx (fun h'=>by rw[e]at h';cases h') fun _=>h
end Vam
namespace Vam
open Go
variable {s:St}{P:Program}{is:FuncId→Bool}{orc:Known}
section shifts
variable {all l:List Oper}{d:Nat}{x y:Operand}{xt yt t:TypeId}{p:String}{e:Array Edge}{a b:Int}{Q:St→Prop}
theorem kwrap64{n:Int}(h:0≤n∧n≤9223372036854775807):IntKind.i64.wrap n=n:=by
 have e:n % (2 ^ IntKind.i64.bits:Int)=n:=Int.emod_eq_of_lt h.1 (by show n<18446744073709551616;omega)
 have e2: ¬ (n ≥ (2 ^ (IntKind.i64.bits - 1):Int)):=by show ¬ (n ≥ 9223372036854775808);omega
 unfold IntKind.wrap
 simp only[e]
 rw[if_neg (by simp only[Bool.and_eq_true,decide_eq_true_eq];exact fun h=>e2 h.2)]
theorem o_shr{ky:IntKind}(hd:Nat.blt d 1024=true)(hx:zT s x=.int .i64 a)(hy:zT s y=.int ky b)(hb:0≤b∧b≤64)(hk:WpO P is orc all l (s.put d (.int .i64 (a.fdiv (2 ^ b.toNat)))) Q):WpO P is orc all (⟨some d,.binOp .shr xt x y yt,t,p,e,none⟩::l) s Q:=
 zEz hd hx hy (v:=.int .i64 (a.fdiv (2 ^ b.toNat))) (by
  obtain⟨n,rfl⟩:∃n:Nat,b=n:=⟨b.toNat,by omega⟩
  show some (V.int .i64 (a.fdiv (2 ^ (min n IntKind.i64.bits))))=_
  rw[show min n IntKind.i64.bits=n by show min n 64=n;omega];rfl) rfl hk
theorem o_andOne(hd:Nat.blt d 1024=true)(hx:zT s x=.int .i64 a)(hy:zT s y=.int .i64 1)(ha:0≤a∧a≤9223372036854775807)(hk:WpO P is orc all l (s.put d (.int .i64 (a % 2))) Q):WpO P is orc all (⟨some d,.binOp .and xt x y yt,t,p,e,none⟩::l) s Q:=
 zEz hd hx hy (v:=.int .i64 (a % 2)) (by
  obtain⟨n,rfl⟩:∃n:Nat,a=n:=⟨a.toNat,by omega⟩
  have hb:((BitVec.ofInt 64 (n:Int)) &&& (BitVec.ofInt 64 1)).toNat=n % 2:=by
   rw[BitVec.toNat_and]
   have e1:(BitVec.ofInt 64 (n:Int)).toNat=n:=by
    rw[BitVec.toNat_ofInt];omega
   have e2:(BitVec.ofInt 64 1).toNat=1:=rfl
   rw[e1,e2,Nat.and_one_is_mod]
  show some (V.int .i64 (IntKind.i64.wrap ((BitVec.ofInt 64 (n:Int)) &&& (BitVec.ofInt 64 1)).toNat))=_
  rw[hb,kwrap64 (by omega)]
  congr 2) rfl hk
end shifts
end Vam
namespace Vam
open Go
variable {Pr:Prt}{φ φ' ψ:BMap}{S S' R:SMap}{s s':St}{tm tm':TT}{H H':CH}{P:Program}{is:FuncId→Bool}{orc:Known}
def Fwd(k:Nat)(u:U):Prop:=∀(φ:BMap) (S:SMap) (v:V),VU φ S v u→VU (fun a=>if a<k then none else φ a) S v u
def FwdS(k:Nat)(x:SB):Prop:=match x with
 | .box cs=>∀c∈cs,Fwd k c
 | .froz cs=>∀c∈cs,Fwd k c
 | .map es=>∀p∈es,Fwd k p.1∧Fwd k p.2
 | .loop _ l=>∀i,Fwd k (l.fr i)
 | .dead=>True
theorem NB.fwd{u:U}(h:NB u)(k:Nat):Fwd k u:=fun _ S v hv=>(h _ _ _ hv).mono (fun a b h=>by cases h) S.le_refl
theorem Fwd.box{k a off:Nat}(h:k≤a):Fwd k (.box a off):=fun φ _ _ hv=>by
 cases hv with|box _ b _ h1=>exact .box a b off (by show(if a<k then none else φ a)=_;rw[if_neg (by omega)];exact h1)
theorem FwdL{k:Nat}{us:List U}(h:∀u∈us,Fwd k u){l:List V}(hl:LU φ S l us):LU (fun a=>if a<k then none else φ a) S l us:=zCx hl fun _ _ hu hv=>h _ hu _ _ _ hv
theorem Fwd.fn{k f:Nat}{a b:List U}(ha:∀u∈a,Fwd k u)(hb:∀u∈b,Fwd k u):Fwd k (.fn f a b):=fun _ _ _ hv=>by
 cases hv with|fn _ A B _ _ h1 h2=>exact .fn f A B a b (FwdL ha h1) (FwdL hb h2)
def BMap.join(φ:BMap)(k:Nat)(φ':BMap):BMap:=fun a=>if a<k then φ a else φ' a
theorem BMap.low_le(φ φ':BMap)(k:Nat):BMap.le (fun a=>if a<k then none else φ' a) (φ.join k φ'):=by
 intro a b h
 have h:(if a<k then none else φ' a)=some b:=h
 show(if a<k then φ a else φ' a)=some b
 split at h
 ·cases h
 ·rename_i h1;rw[if_neg h1];exact h
theorem Fwd.vu{k:Nat}{u:U}(h:Fwd k u){v:V}(hv:VU φ' S' v u)(φ:BMap):VU (φ.join k φ') S' v u:=(h _ _ _ hv).mono (BMap.low_le φ φ' k) S'.le_refl
theorem FwdS.ok{k a:Nat}{x:SB}(h:FwdS k x)(ha:k≤a)(hx:SBOk φ' S' H a x)(φ:BMap):SBOk (φ.join k φ') S' H a x:=by
 have ej:∀{b},φ' a=some b→φ.join k φ' a=some b:=fun {b} e=>by show(if a<k then φ a else φ' a)=some b;rw[if_neg (by omega)];exact e
 have hl:∀{us:List U} {l:List V},(∀u∈us,Fwd k u)→LU φ' S' l us→LU (φ.join k φ') S' l us:=fun {us l} hu hl=>zCx hl fun v u hm hv=>(hu u hm).vu hv φ
 cases x with
 |box cs=>obtain⟨b,l,e,q1,q2,q3⟩:=hx;exact⟨b,l,e,ej q1,q2,hl h q3⟩
 |froz cs=>obtain⟨b,l,q1,q2,q3⟩:=hx;exact⟨b,l,ej q1,q2,hl h q3⟩
 |map es=>
  obtain⟨b,l,e,q1,q2,q3⟩:=hx
  refine⟨b,l,e,ej q1,q2,?_⟩
  have key:∀{ents:List Ent} {ps:List (U×U)},EntsU φ' S' ents ps→(∀p∈ps,Fwd k p.1∧Fwd k p.2)→EntsU (φ.join k φ') S' ents ps:=by
   intro ents ps he
   induction he with
   |nil=>intro _;exact .nil
   |cons e es p ps a b c _ ih=>intro hp;exact .cons e es p ps ((hp p List.mem_cons_self).1.vu a φ) ((hp p List.mem_cons_self).2.vu b φ) c (ih fun q hq=>hp q (List.mem_cons_of_mem _ hq))
  exact key q3 h
 |loop q l=>obtain⟨b,st,pe,fn,tm,d,q1,q2,q3,q4⟩:=hx;exact⟨b,st,pe,fn,tm,d,ej q1,q2,q3,fun i hi=>(h i).vu (q4 i hi) φ⟩
 |dead=>trivial
def Old(H:CH)(S:SMap):Prt:=⟨fun b=>b.wf∧Before b H.n,fun b=>(b.wf∧Before b H.n)∧S b=none,fun b=>b.wf∧Before b H.n,fun _ h=>h.1⟩
theorem SR.alone(hs:SR Pr φ S s tm H)(k:Nat):SR (Old H S) φ0 S ⟨fun _=>.junk,[],List.replicate k .dead⟩ tm H.freeze:=by
 have no:∀lo v u,At φ0 ⟨fun _=>.junk,[],List.replicate k .dead⟩ tm H.freeze lo v u→yJ v u=none:=by
  intro lo v u ha
  cases ha with
  |slot i hi=>rfl
  |cell a o b cs l e _ _ h1 h2=>cases h2
 refine⟨by rw[wA];exact hs.nok,by rw[zCp,wA];exact Nat.le_of_eq (Id.top_num hs.nok),fun i _=>.junk _,?_,fun a b h=>(by cases h),fun a a' b h=>(by cases h),?_,?_,?_,fun p hp=>(by cases hp),?_,?_⟩
 ·intro a x hx
  have hx:(List.replicate k SB.dead)[a]? =some x:=hx
  rw[List.getElem?_replicate]at hx
  split at hx
  ·cases hx;trivial
  ·cases hx
 ·intro b l hb
  obtain⟨q1,q2,_,q4⟩:=hs.mem b l hb
  exact⟨q1,by rw[wA];exact q2,fun a h=>(by cases h),by rw[zBC];exact q4⟩
 ·intro lo v u b ha hb;rw[no lo v u ha]at hb;cases hb
 ·intro lo lo' v u v' u' b ha _ hb;rw[no lo v u ha]at hb;cases hb
 ·rintro b ⟨h1,h2⟩
  exact⟨h1,by rw[wA];exact h2,fun a h=>(by cases h),fun lo v u ha=>by rw[no lo v u ha];simp⟩
 ·rintro b ⟨h1,h2⟩;exact⟨h1,h2⟩
theorem SR.join(hs:SR Pr φ S s tm H){k:Nat}(hk:s.st.length=k){fr':Nat→U}{new:List SB}(h1:SR (Old H S) φ' S' ⟨fr',[],List.replicate k .dead++new⟩ tm H')(hS:S.le S')(hkp:Kept (Old H S) H.freeze H')(hn:∀x∈new,FwdS k x):
  SR Pr (φ.join k φ') S' ⟨s.fr,s.al,s.st++new⟩ tm (H'.thaw H.fz)∧φ.le (φ.join k φ')∧Kept Pr H (H'.thaw H.fz):=by
 have hget:∀b,b.wf→Before b H.n→H'.get b=H.get b:=fun b hw hb=>by rw[hkp.get b ⟨hw,hb⟩,zBC]
 have hbef:∀b,Before b H.n→Before b H'.n:=fun b hb=>hkp.bef b (by rw[wA];exact hb)
 have hle:φ.le (φ.join k φ'):=fun a b e=>by
  show(if a<k then φ a else φ' a)=some b
  rw[if_pos (by rw[←hk];exact(hs.dom a b e).2.2.1)];exact e
 have hold:∀{a b},φ.join k φ' a=some b→(a<k∧φ a=some b)∨(k≤a∧φ' a=some b):=fun {a b} e=>by
  have e:(if a<k then φ a else φ' a)=some b:=e
  split at e
  ·rename_i h;exact .inl ⟨h,e⟩
  ·rename_i h;exact .inr ⟨by omega,e⟩
 have hfz:H'.fz=H.n.top:=by rw[hkp.fz,zCp]
 have nokH:=hs.nok
 have hnew:∀{a b},φ' a=some b→ ¬ Before b H.n:=fun {a b} e hb=>by
  have:=(h1.dom a b e).2.2.2
  rw[hfz]at this
  have:=Id.num_lt_top (show H.n.okN from nokH) hb
  omega
 have hst:∀{a x},(List.replicate k SB.dead++new)[a]? =some x→k≤a→(s.st++new)[a]? =some x∧x∈new:=fun {a x} e ha=>by
  rw[List.getElem?_append_right (by simpa using ha)]at e
  rw[List.getElem?_append_right (by omega),hk]
  simp only[List.length_replicate]at e
  exact⟨e,List.mem_of_getElem? e⟩
 have key:∀lo v u,At (φ.join k φ') ⟨s.fr,s.al,s.st++new⟩ tm (H'.thaw H.fz) lo v u→At φ s tm H lo v u∨(At φ' ⟨fr',[],List.replicate k .dead++new⟩ tm H' lo v u∧∃a o,lo=.cell a o∧k≤a):=by
  intro lo v u ha
  cases ha with
  |slot i hi=>exact .inl (.slot i hi)
  |cell a o b cs l e _ _ q1 q2 q3 q4 q5=>
   rw[yy]at q3
   rcases hold q2 with ⟨w1,w2⟩|⟨w1,w2⟩
   ·have q1':(s.st++new)[a]? =some (.box cs):=q1
    rw[List.getElem?_append_left (by omega)]at q1'
    obtain⟨x1,x2,_⟩:=hs.dom a b w2
    exact .inl (.cell a o b cs l e _ _ q1' w2 (by rw[←hget b x1 x2];exact q3) q4 q5)
   ·have q1':(s.st++new)[a]? =some (.box cs):=q1
    rw[List.getElem?_append_right (by omega),hk]at q1'
    refine .inr ⟨.cell a o b cs l e _ _ ?_ w2 q3 q4 q5,a,o,rfl,w1⟩
    show(List.replicate k SB.dead++new)[a]? =_
    rw[List.getElem?_append_right (by simpa using w1),List.length_replicate];exact q1'
 have key':∀lo v u,At φ s tm H lo v u→At (φ.join k φ') ⟨s.fr,s.al,s.st++new⟩ tm (H'.thaw H.fz) lo v u:=by
  intro lo v u ha
  cases ha with
  |slot i hi=>exact .slot i hi
  |cell a o b cs l e _ _ q1 q2 q3 q4 q5=>
   obtain⟨x1,x2,x3,_⟩:=hs.dom a b q2
   exact .cell a o b cs l e _ _ (by show(s.st++new)[a]? =_;rw[List.getElem?_append_left x3];exact q1) (hle a b q2) (by rw[yy,hget b x1 x2];exact q3) q4 q5
 have oldown:∀{lo v u b},At φ s tm H lo v u→yJ v u=some b→b.wf∧Before b H.n:=fun ha hb=>zDp hs ha hb
 refine⟨⟨by rw[zBg];exact h1.nok,?_,fun i hi=>(hs.fr i hi).mono hle hS,?_,?_,?_,?_,?_,?_,?_,?_,?_⟩,hle,?_⟩
 ·rw[zDR,zBg]
  have a1:=h1.fzn
  rw[hfz,Id.top_num hs.nok]at a1
  exact Nat.le_trans hs.fzn a1
 ·intro a x hx
  have hx:(s.st++new)[a]? =some x:=hx
  by_cases ha:a<k
  ·rw[List.getElem?_append_left (by omega)]at hx
   exact(hs.bx a x hx).move hle hS fun b hb=>by rw[yy];exact hget b (hs.dom a b hb).1 (hs.dom a b hb).2.1
  ·have hx':(List.replicate k SB.dead++new)[a]? =some x:=by
    rw[List.getElem?_append_right (by simp;omega),List.length_replicate]
    rw[List.getElem?_append_right (by omega),hk]at hx;exact hx
   have hxn:=(hst hx' (by omega)).2
   exact(FwdS.ok (hn x hxn) (by omega) (h1.bx a x hx') φ).move (BMap.le_refl _) S'.le_refl fun b _=>yy _ _ _
 ·intro a b e
  rw[zBg,zDR]
  rcases hold e with ⟨w1,w2⟩|⟨w1,w2⟩
  ·obtain⟨x1,x2,x3,x4⟩:=hs.dom a b w2
   exact⟨x1,hbef b x2,by show a<(s.st++new).length;rw[List.length_append];omega,x4⟩
  ·obtain⟨x1,x2,x3,x4⟩:=h1.dom a b w2
   have x3:a<(List.replicate k SB.dead++new).length:=x3
   refine⟨x1,x2,?_,?_⟩
   ·show a<(s.st++new).length
    rw[List.length_append]at x3 ⊢;simp at x3;omega
   ·rw[hfz,Id.top_num hs.nok]at x4;exact Nat.le_trans hs.fzn x4
 ·intro a a' b e e'
  rcases hold e with ⟨w1,w2⟩|⟨w1,w2⟩<;>rcases hold e' with ⟨w3,w4⟩|⟨w3,w4⟩
  ·exact hs.inj a a' b w2 w4
  ·exact absurd (hs.dom a b w2).2.1 (hnew w4)
  ·exact absurd (hs.dom a' b w4).2.1 (hnew w2)
  ·exact h1.inj a a' b w2 w4
 ·intro b l hb
  obtain⟨q1,q2,q3,q4⟩:=h1.mem b l hb
  refine⟨q1,by rw[zBg];exact q2,fun a e=>?_,by rw[yy];exact q4⟩
  rcases hold e with ⟨w1,w2⟩|⟨w1,w2⟩
  ·obtain⟨x1,x2,x3,_⟩:=hs.dom a b w2
   cases hSb:S b with
   |some m=>
    obtain⟨cs,hc⟩:=(hs.mem b m hSb).2.2.1 a w2
    exact⟨cs,by show(s.st++new)[a]? =_;rw[List.getElem?_append_left x3];exact hc⟩
   |none=>
    have:=(h1.pnew b ⟨⟨x1,x2⟩,hSb⟩).2
    rw[this]at hb;cases hb
  ·obtain⟨cs,hc⟩:=q3 a w2
   exact⟨cs,(hst hc w1).1⟩
 ·intro lo v u b ha hb
  rw[zDR]
  rcases key lo v u ha with ha|⟨ha,_⟩
  ·obtain⟨x1,l,e,sh,x2⟩:=hs.own lo v u b ha hb
   obtain⟨w1,w2⟩:=oldown ha hb
   exact⟨x1,l,e,sh,by rw[yy,hget b w1 w2];exact x2⟩
  ·obtain⟨x1,l,e,sh,x2⟩:=h1.own lo v u b ha hb
   rw[hfz,Id.top_num hs.nok]at x1
   exact⟨Nat.le_trans hs.fzn x1,l,e,sh,by rw[yy];exact x2⟩
 ·intro lo lo' v u v' u' b ha ha' hb hb'
  rcases key lo v u ha with ha|⟨ha,_⟩<;>rcases key lo' v' u' ha' with ha'|⟨ha',_⟩
  ·exact hs.excl lo lo' v u v' u' b ha ha' hb hb'
  ·exact absurd hb' ((h1.prot b (oldown ha hb)).2.2.2 lo' v' u' ha')
  ·exact absurd hb ((h1.prot b (oldown ha' hb')).2.2.2 lo v u ha)
  ·exact h1.excl lo lo' v u v' u' b ha ha' hb hb'
 ·intro p hp
  obtain⟨x1,v,u,x2,x3⟩:=hs.ali p hp
  exact⟨x1,v,u,key' _ _ _ x2,x3⟩
 ·intro b hb
  obtain⟨x1,x2,x3,x4⟩:=hs.prot b hb
  refine⟨x1,by rw[zBg];exact hbef b x2,fun a e=>?_,fun lo v u ha=>?_⟩
  ·rcases hold e with ⟨w1,w2⟩|⟨w1,w2⟩
   ·obtain⟨cs,hc⟩:=x3 a w2
    exact⟨cs,by show(s.st++new)[a]? =_;rw[List.getElem?_append_left (by omega)];exact hc⟩
   ·exact absurd x2 (hnew w2)
  ·rcases key lo v u ha with ha|⟨ha,_⟩
   ·exact x4 lo v u ha
   ·exact(h1.prot b ⟨x1,x2⟩).2.2.2 lo v u ha
 ·intro b hb
  obtain⟨x1,x2⟩:=hs.pnew b hb
  obtain⟨y1,y2,_⟩:=hs.prot b x1
  exact⟨x1,(h1.pnew b ⟨⟨y1,y2⟩,x2⟩).2⟩
 ·refine⟨zDR _ _,fun b hb=>by rw[zBg];exact hbef b hb,fun b hb=>?_,fun b _ hw hb=>?_⟩
  ·rw[yy];exact hget b (hs.prot b hb).1 (hs.prot b hb).2.1
  ·rw[yy];exact .of_eq (hget b hw hb)
theorem d_callQW{all:List Oper}{l:List (Oper×M0)}{d:Option Nat}{g:FuncId}{xs:Array Operand}{ts:Array TypeId}{t:TypeId}{p:String}{e:Array Edge}{args:List U}{M:U→List SB→Prop}{Q:St→Prop}{n:Nat}(hlen:s.st.length=n)(hd:wV 1024 d=true)(hargs:∀u∈args,NB u)
  (hw:WpC P is orc g args (List.replicate n .dead) fun u st'=>∃new,st'=List.replicate n .dead++new∧Fwd n u∧(∀x∈new,FwdS n x)∧M u new) (hle:UW (.l (zCS s xs.toList)) (.l args))
  (k:∀u new,M u new→WpD P is orc all l ((⟨s.fr,s.al,s.st++new⟩:St).dst d u) Q):
  WpD P is orc all ((⟨d,.call ⟨.value (.func g),xs,ts⟩,t,p,e,none⟩,.quiet)::l) s Q:=by
 subst hlen
 intro Pr φ S tm H m0 hm hp hs
 cases hm with
 |quiet _ _ m hm=>
  have e0:pend ((⟨d,.call ⟨.value (.func g),xs,ts⟩,t,p,e,none⟩,Md.quiet)::m)=pend m:=rfl
  rw[e0]at hp hs
  have hl:=UW.vu (wP hs xs.toList) hle
  have hl0:LU φ0 S (xs.toList.map (zK tm)) args:=zCx hl fun v u hu hv=>hargs u hu _ _ _ hv
  obtain⟨φ',S',H',st',v,u,⟨n0,q1⟩,q2,q3,q4,q5,q6,q7,new,rfl,q8,q9,q10⟩:=hw _ _ _ _ _ _ _ (hs.alone s.st.length) rfl hl0
  obtain⟨g1,g2,g3⟩:=hs.join rfl q2 q4 q5 q9
  refine zEr ⟨n0,fun n hn=>?_⟩ g2 q4 (g3.weaken (fun b hb=>.inl hb) fun _ h=>h) (hm.keep fun i hi=>g3.get i (.inr hi)) ⟨hp.nodup,fun i hi=>by rw[g3.fz];exact hp.ok i hi,hp.out,hp.odd⟩
   (wz g1 hd (q8.vu q6 φ) (NewOk.none (q7 v))) (k u new q10)
  show wu d tm (thawR H.fz ((zM true P is orc n).call g (yH tm xs.toList) H.freeze))=_
  rw[zAb,q1 n hn];rfl
end Vam
namespace Vam
open Go
variable {P:Program}{is:FuncId→Bool}{orc:Known}
section calls
variable {s:St}{all l:List Oper}{d:Option Nat}{g:FuncId}{xs:Array Operand}{ts:Array TypeId}{t:TypeId}{p:String}{e:Array Edge}{args:List U}{M:U→List SB→Prop}{Q:St→Prop}
end calls
end Vam
namespace Vam
open Go
variable {P:Program}{is:FuncId→Bool}{orc:Known}{s:St}
theorem St.byList{l:List (Nat×U)}(h:Holds ⟨s.fr,[],s.st⟩ l):s=⟨fun j=>zCC l j (s.fr j),s.al,s.st⟩:=by
 have:=congrArg St.fr h.eq
 cases s with
 |mk fr al st=>
  have e:fr=fun j=>zCC l j (fr j):=this
  show St.mk fr al st=St.mk (fun j=>zCC l j (fr j)) al st
  rw[←e]
theorem zL{all m:List Oper}{Q:St→Prop}(l:List (Nat×U))(al:List (Nat×Lo))(st:List SB)(h1:Holds ⟨s.fr,[],s.st⟩ l)(h2:s.st=st)(h3:s.al=al)(k:∀fr:Nat→U,WpO P is orc all m ⟨fun j=>zCC l j (fr j),al,st⟩ Q):WpO P is orc all m s Q:=by
 rw[St.byList h1]
 subst h2;subst h3
 exact k s.fr
theorem yY{all:List Oper}{m:List (Oper×M0)}{Q:St→Prop}(l:List (Nat×U))(al:List (Nat×Lo))(st:List SB)(h1:Holds ⟨s.fr,[],s.st⟩ l)(h2:s.st=st)(h3:s.al=al)(k:∀fr:Nat→U,WpD P is orc all m ⟨fun j=>zCC l j (fr j),al,st⟩ Q):WpD P is orc all m s Q:=by
 rw[St.byList h1]
 subst h2;subst h3
 exact k s.fr
section slices
variable {Pr:Prt}{φ:BMap}{S:SMap}{tm:TT}{H:CH}{all l:List Oper}{d:Nat}{x:Operand}{xt t:TypeId}{p:String}{e:Array Edge}{Q:St→Prop}{es:List U}
theorem o_slice3(kr:Kd)(hkr:kr≠.own){lo hi mx:Operand}{el:TypeId}{c z a n:Nat}{kx:Kd}{k1 k2 k3:IntKind}(hd:Nat.blt d 1024=true)(ht:tyOf P xt=.slice el)(hc:P.cellsOf el=c)(h0:Nat.blt 0 c=true)(hx:zT s x=.lst kx z es)(hz:z=c∨z=0)(hl:zT s lo=.int k1 (a:Int))(hh:zT s hi=.int k2 (n:Int))(hm:zT s mx=.int k3 (n:Int))(ha:a≤n)(hn:n≤es.length)
  (k:WpO P is orc all l (s.put d (.lst kr c ((es.take n).drop a))) Q):WpO P is orc all (⟨some d,.slice xt x (some lo) (some hi) (some mx),t,p,e,none⟩::l) s Q:=by
 have h0:=yT h0
 refine zAM hd (fun w=>by cases kr<;>first|rfl|exact absurd rfl hkr) (fun Pr φ S tm H hs=>?_) k
 have g1:=zN hs x
 rw[hx]at g1
 have g2:=zN hs lo
 rw[hl]at g2
 have g3:=zN hs hi
 rw[hh]at g3
 have g4:=zN hs mx
 rw[hm]at g4
 have hev:∀E:Ev,evOp P E tm H (.slice xt x (some lo) (some hi) (some mx))=zx H (ya none (zAp c (some (.int k1 (a:Int))) (some (.int k2 (n:Int))) (some (.int k3 (n:Int)))) (sliceNil (some (.int k1 (a:Int))) (some (.int k2 (n:Int))) (some (.int k3 (n:Int)))) (zK tm x)):=by
  intro E
  show zx H (zCN P xt (zK tm x) (some (zK tm lo)) (some (zK tm hi)) (some (zK tm mx)))=_
  rw[zCQ g2,zCQ g3,zCQ g4]
  unfold zCN
  rw[ht,←hc]
 have hsl:∀(b:Id) (off len cc:Nat),n≤capN cc→zAp c (some (.int k1 (a:Int))) (some (.int k2 (n:Int))) (some (.int k3 (n:Int))) b off len cc c=ww c b off n true a n:=by
  intro b off len cc h5
  unfold zAp
  rw[Nat.beq_refl]
  show opt none (fun me=>opt none (fun lh=>ww c b off me.1 me.2 lh.1 lh.2) (zCb len me.1 (some (.int k1 (a:Int))) (some (.int k2 (n:Int))) (some (.int k3 (n:Int))))) (opt none (fun m=>some (m,true)) (cond (Nat.ble n (capN cc)) (some n) none))=_
  rw[show Nat.ble n (capN cc)=true by rw[Nat.ble_eq];omega]
  show opt none (fun lh=>ww c b off n true lh.1 lh.2) (opt none (fun h=>opt none (fun l=>some (l,h)) (cond (Nat.ble a h) (some a) none)) (cond (Nat.ble n n) (some n) none))=_
  rw[Nat.ble_self_eq_true]
  show opt none (fun lh=>ww c b off n true lh.1 lh.2) (opt none (fun l=>some (l,n)) (cond (Nat.ble a n) (some a) none))=_
  rw[show Nat.ble a n=true by rw[Nat.ble_eq];exact ha];rfl
 rcases zDv g1 with ⟨rfl,h4|⟨hz0,cc0,hcc,h4⟩⟩|⟨b,off,cc,m,l1,l2,q1,q2,q3,q4,q5,q6,q7⟩
 ·have:n=0:=by simpa using hn
  subst this
  have:a=0:=by omega
  subst this
  exact⟨.nils,fun E=>by rw[hev,h4];rfl,.nils _ _⟩
 ·have:n=0:=by simpa using hn
  subst this
  have:a=0:=by omega
  subst this
  have hzc:z=c:=by rcases hz with h|h<;>omega
  subst hzc
  refine⟨.slice .over 0 0 (capX 0) z,fun E=>?_,.over _ _ _ (by omega) (.inr rfl)⟩
  rw[hev,h4]
  show zx H (zAp z (some (.int k1 ((0:Nat):Int))) (some (.int k2 ((0:Nat):Int))) (some (.int k3 ((0:Nat):Int))) .over 0 0 cc0 z)=_
  rw[hsl .over 0 0 cc0 (Nat.zero_le _)];rfl
 ·have hzc:z=c:=by rcases hz with h|h<;>omega
  subst hzc
  obtain⟨w1,w2,w3⟩:=q6
  have hrun:=hsl b off es.length cc (Nat.le_trans hn w2)
  by_cases e1:n=a
  ·subst e1
   refine⟨.slice b off 0 (capX 0) z,fun E=>?_,?_⟩
   ·rw[hev,q1]
    show zx H (zAp z (some (.int k1 (n:Int))) (some (.int k2 (n:Int))) (some (.int k3 (n:Int))) b off es.length cc z)=_
    rw[hrun]
    unfold ww
    rw[Nat.beq_refl]
    show zx H (some (V.slice b off (n - n) (capX 0) z))=_
    rw[Nat.sub_self];rfl
   ·have he:(es.take n).drop n=[]:=by rw[List.drop_eq_nil_iff,List.length_take];omega
    rw[he]
    exact .slice b off 0 (capX 0) z m [] (m.drop off) kr [] q2 (by simp) .nil (by simp) rfl (by cases kr with|ro=>exact⟨w1,Nat.zero_le _,trivial⟩|full=>exact⟨w1,Nat.zero_le _,rfl,rfl⟩|own=>exact absurd rfl hkr) h0
  ·refine⟨.slice b (off+a*z) (n - a) (capX (n - a)) z,fun E=>?_,?_⟩
   ·rw[hev,q1]
    show zx H (zAp z (some (.int k1 (a:Int))) (some (.int k2 (n:Int))) (some (.int k3 (n:Int))) b off es.length cc z)=_
    rw[hrun]
    unfold ww
    rw[beq_ne e1];rfl
   ·obtain⟨k1,k2,r1,r2,r3⟩:=lst_sub (len:=0) (cc:=0) q2 q3 q4 q5 (lo:=a) (hi:=n) ha hn
    have hmm:off+a*z≤m.length:=by
     have hl1:l1.length=es.length*z:=by rw[q4.len,zAA q5]
     have:=congrArg List.length q3
     simp at this
     have:=Nat.mul_le_mul_right z (Nat.le_trans ha hn)
     omega
    have c1:n - a≤capN (capX (n - a)):=by show n - a≤(2*(n - a)+1) / 2;omega
    have c2:capE (capX (n - a))=true:=by
     show Nat.beq ((2*(n - a)+1) % 2) 1=true
     rw[show(2*(n - a)+1) % 2=1 by omega];rfl
    have c3:capN (capX (n - a))=n - a:=by show(2*(n - a)+1) / 2=n - a;omega
    exact .slice b (off+a*z) (n - a) _ z m k1 k2 kr _ q2 r1 r2 r3 (by simp;omega) (by cases kr with|ro=>exact⟨hmm,c1,trivial⟩|full=>exact⟨hmm,c1,c2,c3⟩|own=>exact absurd rfl hkr) h0
end slices
end Vam
namespace Vam
open Go
variable {Pr:Prt}{φ φ' ψ:BMap}{S S' R:SMap}{s s':St}{tm tm':TT}{H H':CH}{P:Program}{is:FuncId→Bool}{orc:Known}
section ops
variable {all l:List Oper}{d:Nat}{x y:Operand}{t t' t1 t2 xt el:TypeId}{p:String}{e:Array Edge}{a off n c bb z zy len:Nat}{cs es xs ys:List U}{u:U}{Q:St→Prop}{zv:V}{ky:Kd}
end ops
theorem SR.slotcong(hs:SR Pr φ S s tm H)(h:∀i,i<1024→tm.get i=tm'.get i):SR Pr φ S s tm' H:=by
 have key:∀lo v u,At φ s tm' H lo v u→At φ s tm H lo v u:=by
  intro lo v u ha
  cases ha with
  |slot i hi=>rw[←h i hi];exact .slot i hi
  |cell a o b cs l e v u q1 q2 q3 q4 q5=>exact .cell a o b cs l e v u q1 q2 q3 q4 q5
 have key':∀lo v u,At φ s tm H lo v u→At φ s tm' H lo v u:=by
  intro lo v u ha
  cases ha with
  |slot i hi=>rw[h i hi];exact .slot i hi
  |cell a o b cs l e v u q1 q2 q3 q4 q5=>exact .cell a o b cs l e v u q1 q2 q3 q4 q5
 exact⟨hs.nok,hs.fzn,fun i hi=>by rw[←h i hi];exact hs.fr i hi,hs.bx,hs.dom,hs.inj,hs.mem,fun lo v u b ha=>hs.own lo v u b (key _ _ _ ha),fun lo lo' v u v' u' b ha ha'=>hs.excl lo lo' v u v' u' b (key _ _ _ ha) (key _ _ _ ha'),
  fun p hp=>by obtain⟨h3,w,x,h4,h5⟩:=hs.ali p hp;exact⟨h3,w,x,key' _ _ _ h4,by rw[←h _ h3];exact h5⟩,
  fun b hb=>by obtain⟨p1,p2,p3,p4⟩:=hs.prot b hb;exact⟨p1,p2,p3,fun lo w x ha=>p4 lo w x (key _ _ _ ha)⟩,hs.pnew⟩
end Vam
namespace Vam
open Go
variable {Pr:Prt}{φ φ' ψ:BMap}{S S' R:SMap}{s s':St}{tm tm':TT}{H H':CH}{P:Program}{is:FuncId→Bool}{orc:Known}
theorem zDD{all l:List Oper}{d:Option Nat}{g:FuncId}{xs:Array Operand}{ts:Array TypeId}{t:TypeId}{p:String}{e:Array Edge}{args A B:List U}{r:U}{Q:St→Prop}{x:Nat}(hd:wV 1024 d=true)(hx:s.slot x=.fn g A B)(hr:RetP P is orc g args r)
  (hle:UW (.l (A++(zCS s xs.toList++B))) (.l args)) (k:WpO P is orc all l (s.dst d (dg r)) Q):WpO P is orc all (⟨d,.call ⟨.value (.tmp x),xs,ts⟩,t,p,e,none⟩::l) s Q:=by
 refine o_op (R:=fun u s1=>u=dg r∧s1=s) hd ?_ fun u s1 h=>by obtain⟨rfl,rfl⟩:=h;exact k
 intro Pr φ S tm H hs
 have hv:=zN hs (.tmp x)
 rw[show zT s (.tmp x)=_ from hx]at hv
 generalize hq:zK tm (.tmp x)=w at hv
 cases hv with
 |fn _ VA VB _ _ a1 a2=>
  have hl:=UW.vu (LU.append a1 (LU.append (wP hs xs.toList) a2)) hle
  have hl0:LU φ0 S (VA++(xs.toList.map (zK tm)++VB)) args:=zCx hl fun v u hu hv=>hr.dat u hu _ _ _ hv
  obtain⟨n0,v,H',S',h1,h2,h3⟩:=hr.run S H _ hs.memOk hs.fzn hl0
  obtain⟨g1,g2⟩:=hs.grow h2
  refine⟨v,_,s,H',φ,S',⟨n0,fun n hn=>?_⟩,g1,φ.le_refl,h2.le,g2,?_,NewOk.none (yh _ _),rfl,rfl⟩
  ·show zET (zM true P is orc n) (tm.get x) (yH tm xs.toList) H=_
   rw[show tm.get x=_ from hq]
   show(zM true P is orc n).call g (appV (ofList VA) (appV (yH tm xs.toList) (ofList VB))) H=_
   rw[zAb,zCM,zCM];exact h1 n hn
  ·exact VU.dg (h3.mono (ψ:=φ) (fun a b h=>by cases h) S'.le_refl)
end Vam
namespace Vam
open Go
variable {Pr:Prt}{φ φ' ψ:BMap}{S S' R:SMap}{s s':St}{tm tm':TT}{H H':CH}{P:Program}{is:FuncId→Bool}{orc:Known}
section ops
variable {all l:List Oper}{d:Nat}{x y:Operand}{t xt t1 t2 el:TypeId}{p:String}{e:Array Edge}{a off n c z:Nat}{cs es:List U}{Q:St→Prop}{kd:Kd}
end ops
end Vam
namespace Vam
open Go
variable {Pr:Prt}{φ φ' ψ:BMap}{S S' R:SMap}{s s':St}{tm tm':TT}{H H':CH}{P:Program}{is:FuncId→Bool}{orc:Known}
section ops
variable {all l:List Oper}{d:Nat}{x:Operand}{t xt:TypeId}{p:String}{e:Array Edge}{es:List U}{Q:St→Prop}
end ops
end Vam
namespace Vam
open Go
variable {Pr:Prt}{φ φ' ψ:BMap}{S S' R:SMap}{s s':St}{tm tm':TT}{H H':CH}{P:Program}{is:FuncId→Bool}{orc:Known}
section ops
variable {all l:List Oper}{d:Nat}{x y:Operand}{t t' t1 t2 xt el:TypeId}{p:String}{e:Array Edge}{a off n c bb z zy len:Nat}{cs es xs ys:List U}{u:U}{Q:St→Prop}{zv:V}{ky:Kd}
end ops
end Vam
namespace Vam
open Go
variable {s:St}{P:Program}{is:FuncId→Bool}{orc:Known}
theorem zBx{all l:List Oper}{d:Nat}{x y:Operand}{xt yt t:TypeId}{p:String}{e:Array Edge}{Q:St→Prop}{ky:IntKind}{n:Nat}(hd:Nat.blt d 1024=true)(hx:zT s x=.int .i64 1)(hy:zT s y=.int ky (n:Int))(hn:n≤62)(hk:WpO P is orc all l (s.put d (.int .i64 (2 ^ n))) Q):
  WpO P is orc all (⟨some d,.binOp .shl xt x y yt,t,p,e,none⟩::l) s Q:=
 zEz hd hx hy (v:=.int .i64 (2 ^ n)) (by
  have h1:(2:Int) ^ n≤2 ^ 62:=by
   have:=Nat.pow_le_pow_right (n:=2) (by decide) hn
   exact_mod_cast this
  have h2:(0:Int)≤2 ^ n:=Int.le_of_lt (Int.pow_pos (by decide))
  show some (V.int .i64 (IntKind.i64.wrap (1*2 ^ (min n IntKind.i64.bits))))=_
  rw[show min n IntKind.i64.bits=n by show min n 64=n;omega,Int.one_mul,kwrap64 ⟨h2,by omega⟩]) rfl hk
end Vam
namespace Vam
open Go
variable {s:St}{P:Program}{is:FuncId→Bool}{orc:Known}
theorem o_weak{all l:List Oper}{Q:St→Prop}(d:Nat){u:U}(hd:Nat.blt d 1024=true)(hn:∀v,yJ v u=none)(hu:UW (.u (s.fr d)) (.u u))(k:WpO P is orc all l (s.put d u) Q):WpO P is orc all l s Q:=by
 intro Pr φ S tm H hs
 have hd:=yT hd
 have h1:=hs.put' hd (UW.vu (hs.fr d hd) hu) (hn _)
 exact k Pr φ S tm H (h1.slotcong fun i hi=>by rw[TT.get_set _ _ _ _ hd hi];split<;>simp_all)
end Vam
