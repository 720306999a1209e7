import Derived.Test.YtlknfhjfkcboiaaDoorVamR
import Derived.Test.YtlknfhjfkcboiaaDoorProg
import Derived.KernelRfl
set_option linter.unusedVariables false
set_option linter.unusedSimpArgs false
set_option linter.constructorNameAsVariable false
theorem Vam.Holds.c4{s:Vam.St}{a b c d:Nat}{x y z w:Vam.U}{l:List (Nat×Vam.U)}(h1:s.fr a=x)(h2:s.fr b=y)(h3:s.fr c=z)(h4:s.fr d=w)(h:Vam.Holds s l):Vam.Holds s ((a,x)::(b,y)::(c,z)::(d,w)::l):=.cons h1 (.cons h2 (.cons h3 (.cons h4 h)))
theorem Vam.kQ{P:Go.Program}{is:Go.FuncId→Bool}{orc:Vam.Known}{s:Vam.St}{i:Nat}{ops:Array Go.Oper}{b:Go.Code}{Q:Vam.Ex→Vam.St→Prop}(h:Vam.WpO P is orc ops.toList ops.toList s fun s'=>Vam.Wp P is orc b {s' with al:=[]} Q):Vam.Wp P is orc (.seq (.region i ops false) b) s Q:=Vam.k_seq (Vam.k_region h)
namespace Vam
section
open Go
variable {P:Program}{is:FuncId→Bool}{orc:Known}{all l:List Oper}{m:List (Oper×M0)}{m0:M0}{dst:Option Nat}{o:Op}{t t' xt yt:TypeId}{p:String}{a e:Array Edge}{g d n off:Nat}{want c:Bool}{og:Oper}{j ad:Nat}{s:St}{x y:Operand}{Q:St→Prop}{k:IntKind}{ai bi:Int}{cs:List U}{u:U}{f:String}
theorem ke(h:(wV 1024 dst,nthO all g,og.dst,s.slot j,c)=(true,some og,some j,U.bool c, !want))(q:WpO P is orc all l (s.dst dst (.tup [])) Q):WpO P is orc all (⟨dst,o,t,p,a,some (g,want)⟩::l) s Q:=o_gS (congrArg (fun v=>v.1) h) (congrArg (fun v=>v.2.1) h) (congrArg (fun v=>v.2.2.1) h) (congrArg (fun v=>v.2.2.2.1) h) (congrArg (fun v=>v.2.2.2.2) h) q
theorem kf(h:(wV 1024 dst,nthO all g,og.dst,s.slot j,c)=(true,some og,some j,U.bool c,want))(q:WpO P is orc all (⟨dst,o,t,p,a,none⟩::l) s Q):WpO P is orc all (⟨dst,o,t,p,a,some (g,want)⟩::l) s Q:=o_gD (congrArg (fun v=>v.1) h) (congrArg (fun v=>v.2.1) h) (congrArg (fun v=>v.2.2.1) h) (congrArg (fun v=>v.2.2.2.1) h) (congrArg (fun v=>v.2.2.2.2) h) q
theorem kg(h:(wV 1024 dst,nthO all g,og.dst,s.slot j)=(true,some og,some j,U.bool c))(ee:c= !want)(q:WpO P is orc all l (s.dst dst (.tup [])) Q):WpO P is orc all (⟨dst,o,t,p,a,some (g,want)⟩::l) s Q:=o_gS (congrArg (fun v=>v.1) h) (congrArg (fun v=>v.2.1) h) (congrArg (fun v=>v.2.2.1) h) (congrArg (fun v=>v.2.2.2) h) ee q
theorem kh(h:(wV 1024 dst,nthO all g,og.dst,s.slot j)=(true,some og,some j,U.bool c))(ee:c=want)(q:WpO P is orc all (⟨dst,o,t,p,a,none⟩::l) s Q):WpO P is orc all (⟨dst,o,t,p,a,some (g,want)⟩::l) s Q:=o_gD (congrArg (fun v=>v.1) h) (congrArg (fun v=>v.2.1) h) (congrArg (fun v=>v.2.2.1) h) (congrArg (fun v=>v.2.2.2) h) ee q
theorem kj(h:(wV 1024 dst,nthO all g,og.dst,s.slot j,c)=(true,some og,some j,U.bool c, !want))(q:WpD P is orc all m (s.dst dst (.tup [])) Q):WpD P is orc all ((⟨dst,o,t,p,a,some (g,want)⟩,m0)::m) s Q:=d_gS (congrArg (fun v=>v.1) h) (congrArg (fun v=>v.2.1) h) (congrArg (fun v=>v.2.2.1) h) (congrArg (fun v=>v.2.2.2.1) h) (congrArg (fun v=>v.2.2.2.2) h) q
theorem kl(h:(wV 1024 dst,nthO all g,og.dst,s.slot j,c)=(true,some og,some j,U.bool c,want))(q:WpD P is orc all ((⟨dst,o,t,p,a,none⟩,m0)::m) s Q):WpD P is orc all ((⟨dst,o,t,p,a,some (g,want)⟩,m0)::m) s Q:=d_gD (congrArg (fun v=>v.1) h) (congrArg (fun v=>v.2.1) h) (congrArg (fun v=>v.2.2.1) h) (congrArg (fun v=>v.2.2.2.1) h) (congrArg (fun v=>v.2.2.2.2) h) q
theorem km(h:(wV 1024 dst,nthO all g,og.dst,s.slot j)=(true,some og,some j,U.bool c))(ee:c= !want)(q:WpD P is orc all m (s.dst dst (.tup [])) Q):WpD P is orc all ((⟨dst,o,t,p,a,some (g,want)⟩,m0)::m) s Q:=d_gS (congrArg (fun v=>v.1) h) (congrArg (fun v=>v.2.1) h) (congrArg (fun v=>v.2.2.1) h) (congrArg (fun v=>v.2.2.2) h) ee q
theorem kn(h:(wV 1024 dst,nthO all g,og.dst,s.slot j)=(true,some og,some j,U.bool c))(ee:c=want)(q:WpD P is orc all ((⟨dst,o,t,p,a,none⟩,m0)::m) s Q):WpD P is orc all ((⟨dst,o,t,p,a,some (g,want)⟩,m0)::m) s Q:=d_gD (congrArg (fun v=>v.1) h) (congrArg (fun v=>v.2.1) h) (congrArg (fun v=>v.2.2.1) h) (congrArg (fun v=>v.2.2.2) h) ee q
theorem kq(h:(Nat.blt d 1024,zT s x,zT s y)=(true,U.int k ai,U.int k bi))(q:WpO P is orc all l (s.put d (.bool (decide (ai<bi)))) Q):WpO P is orc all (⟨some d,.binOp .lss xt x y yt,t,p,e,none⟩::l) s Q:=o_lss (congrArg (fun v=>v.1) h) (congrArg (fun v=>v.2.1) h) (congrArg (fun v=>v.2.2) h) q
theorem ks(h:(Nat.blt d 1024,zT s x,zT s y)=(true,U.int k ai,U.int k bi))(q:WpO P is orc all l (s.put d (.bool (decide (ai≤bi)))) Q):WpO P is orc all (⟨some d,.binOp .leq xt x y yt,t,p,e,none⟩::l) s Q:=o_leq (congrArg (fun v=>v.1) h) (congrArg (fun v=>v.2.1) h) (congrArg (fun v=>v.2.2) h) q
theorem ku(h:(Nat.blt d 1024,zT s x,zT s y)=(true,U.int k ai,U.int k bi))(q:WpO P is orc all l (s.put d (.bool (decide (ai≠bi)))) Q):WpO P is orc all (⟨some d,.binOp .neq xt x y yt,t,p,e,none⟩::l) s Q:=o_neq (congrArg (fun v=>v.1) h) (congrArg (fun v=>v.2.1) h) (congrArg (fun v=>v.2.2) h) q
theorem kw(h:(Nat.blt d 1024,zT s x,zT s y)=(true,U.int k ai,U.int k bi))(q:WpO P is orc all l (s.put d (.bool (decide (ai=bi)))) Q):WpO P is orc all (⟨some d,.binOp .eql xt x y yt,t,p,e,none⟩::l) s Q:=o_eql (congrArg (fun v=>v.1) h) (congrArg (fun v=>v.2.1) h) (congrArg (fun v=>v.2.2) h) q
theorem kz(h:(Nat.blt d 1024,zT s x,cs[n]?)=(true,U.tup cs,some u))(q:WpO P is orc all l (s.put d (dg u)) Q):WpO P is orc all (⟨some d,.extract x n,t,p,e,none⟩::l) s Q:=o_extract (congrArg (fun v=>v.1) h) (congrArg (fun v=>v.2.1) h) (congrArg (fun v=>v.2.2) h) q
theorem kA(h:(Nat.blt d 1024,zT s x)=(true,U.box ad off)){f:_}{fo ft:_}(hf:zt P xt f=some (fo,ft))(q:WpO P is orc all l (s.put d (.box ad (off+fo))) Q):WpO P is orc all (⟨some d,.fieldAddr xt x f,t,p,e,none⟩::l) s Q:=o_faddr (congrArg (fun v=>v.1) h) (congrArg (fun v=>v.2) h) hf q
theorem kB(h:(Nat.blt d 1024,zT s x,zT s y)=(true,U.int .i64 ai,U.int .i64 bi))(hr:I64 (ai+bi))(q:WpO P is orc all l (s.put d (.int .i64 (ai+bi))) Q):WpO P is orc all (⟨some d,.binOp .add xt x y yt,t,p,e,none⟩::l) s Q:=o_add (congrArg (fun v=>v.1) h) (congrArg (fun v=>v.2.1) h) (congrArg (fun v=>v.2.2) h) hr q
theorem kC(hs:shOf P t'=.one)(h:(Nat.blt d 1024,zT s x,s.st[ad]?,cs[off]?)=(true,U.box ad off,some (SB.box cs),some u))(q:WpO P is orc all l (s.ld d ad off u) Q):WpO P is orc all (⟨some d,.load t' x,t,p,e,none⟩::l) s Q:=zQ (congrArg (fun v=>v.1) h) (congrArg (fun v=>v.2.1) h) (congrArg (fun v=>v.2.2.1) h) hs (congrArg (fun v=>v.2.2.2) h) q
theorem kD(hs:shOf P t'=.many n)(h:(Nat.blt d 1024,zT s x,s.st[ad]?,Nat.ble (off+n) cs.length)=(true,U.box ad off,some (SB.box cs),true))(q:WpO P is orc all l (s.put d (.agg ((cs.drop off).take n))) Q):WpO P is orc all (⟨some d,.load t' x,t,p,e,none⟩::l) s Q:=yK (congrArg (fun v=>v.1) h) (congrArg (fun v=>v.2.1) h) (congrArg (fun v=>v.2.2.1) h) hs (congrArg (fun v=>v.2.2.2) h) q
theorem kE(hs:shOf P t'=.one)(h:(Nat.blt d 1024,zT s x,cs[off]?)=(true,U.eref cs off,some u))(q:WpO P is orc all l (s.put d (dg u)) Q):WpO P is orc all (⟨some d,.load t' x,t,p,e,none⟩::l) s Q:=o_loadR1 (congrArg (fun v=>v.1) h) (congrArg (fun v=>v.2.1) h) hs (congrArg (fun v=>v.2.2) h) q
theorem kF{z:Operand}(h:(Nat.blt d 1024,zT s z,c)=(true,U.bool c,false))(q:WpO P is orc all l (s.put d (dg (zT s y))) Q):WpO P is orc all (⟨some d,.pick z x y,t,p,e,none⟩::l) s Q:=zW (congrArg (fun v=>v.1) h) (congrArg (fun v=>v.2.1) h) (congrArg (fun v=>v.2.2) h) q
theorem kG{z:Operand}(h:(Nat.blt d 1024,zT s z,c)=(true,U.bool c,true))(q:WpO P is orc all l (s.put d (dg (zT s x))) Q):WpO P is orc all (⟨some d,.pick z x y,t,p,e,none⟩::l) s Q:=zc (congrArg (fun v=>v.1) h) (congrArg (fun v=>v.2.1) h) (congrArg (fun v=>v.2.2) h) q
theorem kH{b:Prop}[Decidable b](h:b):decide b=true:=decide_eq_true h
theorem kI{b:Prop}[Decidable b](h: ¬ b):decide b=false:=decide_eq_false h
theorem Holds.n1{a0:Nat}{x0:U}(h:(s.fr a0,s.al)=(x0,[])):Holds s [(a0,x0)]:=.cons (congrArg (fun v=>v.1) h) (.nil (congrArg (fun v=>v.2) h))
theorem Holds.n2{a0 a1:Nat}{x0 x1:U}(h:(s.fr a0,s.fr a1,s.al)=(x0,x1,[])):Holds s [(a0,x0),(a1,x1)]:=.cons (congrArg (fun v=>v.1) h) (.cons (congrArg (fun v=>v.2.1) h) (.nil (congrArg (fun v=>v.2.2) h)))
theorem Holds.n3{a0 a1 a2:Nat}{x0 x1 x2:U}(h:(s.fr a0,s.fr a1,s.fr a2,s.al)=(x0,x1,x2,[])):Holds s [(a0,x0),(a1,x1),(a2,x2)]:=.cons (congrArg (fun v=>v.1) h) (.cons (congrArg (fun v=>v.2.1) h) (.cons (congrArg (fun v=>v.2.2.1) h) (.nil (congrArg (fun v=>v.2.2.2) h))))
theorem Holds.n4{a0 a1 a2 a3:Nat}{x0 x1 x2 x3:U}(h:(s.fr a0,s.fr a1,s.fr a2,s.fr a3,s.al)=(x0,x1,x2,x3,[])):Holds s [(a0,x0),(a1,x1),(a2,x2),(a3,x3)]:=.cons (congrArg (fun v=>v.1) h) (.cons (congrArg (fun v=>v.2.1) h) (.cons (congrArg (fun v=>v.2.2.1) h) (.cons (congrArg (fun v=>v.2.2.2.1) h) (.nil (congrArg (fun v=>v.2.2.2.2) h)))))
theorem Holds.n5{a0 a1 a2 a3 a4:Nat}{x0 x1 x2 x3 x4:U}(h:(s.fr a0,s.fr a1,s.fr a2,s.fr a3,s.fr a4,s.al)=(x0,x1,x2,x3,x4,[])):Holds s [(a0,x0),(a1,x1),(a2,x2),(a3,x3),(a4,x4)]:=.cons (congrArg (fun v=>v.1) h) (.cons (congrArg (fun v=>v.2.1) h) (.cons (congrArg (fun v=>v.2.2.1) h) (.cons (congrArg (fun v=>v.2.2.2.1) h) (.cons (congrArg (fun v=>v.2.2.2.2.1) h) (.nil (congrArg (fun v=>v.2.2.2.2.2) h))))))
theorem Holds.n6{a0 a1 a2 a3 a4 a5:Nat}{x0 x1 x2 x3 x4 x5:U}(h:(s.fr a0,s.fr a1,s.fr a2,s.fr a3,s.fr a4,s.fr a5,s.al)=(x0,x1,x2,x3,x4,x5,[])):Holds s [(a0,x0),(a1,x1),(a2,x2),(a3,x3),(a4,x4),(a5,x5)]:=.cons (congrArg (fun v=>v.1) h) (.cons (congrArg (fun v=>v.2.1) h) (.cons (congrArg (fun v=>v.2.2.1) h) (.cons (congrArg (fun v=>v.2.2.2.1) h) (.cons (congrArg (fun v=>v.2.2.2.2.1) h) (.cons (congrArg (fun v=>v.2.2.2.2.2.1) h) (.nil (congrArg (fun v=>v.2.2.2.2.2.2) h)))))))
theorem Holds.n7{a0 a1 a2 a3 a4 a5 a6:Nat}{x0 x1 x2 x3 x4 x5 x6:U}(h:(s.fr a0,s.fr a1,s.fr a2,s.fr a3,s.fr a4,s.fr a5,s.fr a6,s.al)=(x0,x1,x2,x3,x4,x5,x6,[])):Holds s [(a0,x0),(a1,x1),(a2,x2),(a3,x3),(a4,x4),(a5,x5),(a6,x6)]:=.cons (congrArg (fun v=>v.1) h) (.cons (congrArg (fun v=>v.2.1) h) (.cons (congrArg (fun v=>v.2.2.1) h) (.cons (congrArg (fun v=>v.2.2.2.1) h) (.cons (congrArg (fun v=>v.2.2.2.2.1) h) (.cons (congrArg (fun v=>v.2.2.2.2.2.1) h) (.cons (congrArg (fun v=>v.2.2.2.2.2.2.1) h) (.nil (congrArg (fun v=>v.2.2.2.2.2.2.2) h))))))))
theorem Holds.n8{a0 a1 a2 a3 a4 a5 a6 a7:Nat}{x0 x1 x2 x3 x4 x5 x6 x7:U}(h:(s.fr a0,s.fr a1,s.fr a2,s.fr a3,s.fr a4,s.fr a5,s.fr a6,s.fr a7,s.al)=(x0,x1,x2,x3,x4,x5,x6,x7,[])):Holds s [(a0,x0),(a1,x1),(a2,x2),(a3,x3),(a4,x4),(a5,x5),(a6,x6),(a7,x7)]:=.cons (congrArg (fun v=>v.1) h) (.cons (congrArg (fun v=>v.2.1) h) (.cons (congrArg (fun v=>v.2.2.1) h) (.cons (congrArg (fun v=>v.2.2.2.1) h) (.cons (congrArg (fun v=>v.2.2.2.2.1) h) (.cons (congrArg (fun v=>v.2.2.2.2.2.1) h) (.cons (congrArg (fun v=>v.2.2.2.2.2.2.1) h) (.cons (congrArg (fun v=>v.2.2.2.2.2.2.2.1) h) (.nil (congrArg (fun v=>v.2.2.2.2.2.2.2.2) h)))))))))
theorem Holds.n9{a0 a1 a2 a3 a4 a5 a6 a7 a8:Nat}{x0 x1 x2 x3 x4 x5 x6 x7 x8:U}(h:(s.fr a0,s.fr a1,s.fr a2,s.fr a3,s.fr a4,s.fr a5,s.fr a6,s.fr a7,s.fr a8,s.al)=(x0,x1,x2,x3,x4,x5,x6,x7,x8,[])):Holds s [(a0,x0),(a1,x1),(a2,x2),(a3,x3),(a4,x4),(a5,x5),(a6,x6),(a7,x7),(a8,x8)]:=.cons (congrArg (fun v=>v.1) h) (.cons (congrArg (fun v=>v.2.1) h) (.cons (congrArg (fun v=>v.2.2.1) h) (.cons (congrArg (fun v=>v.2.2.2.1) h) (.cons (congrArg (fun v=>v.2.2.2.2.1) h) (.cons (congrArg (fun v=>v.2.2.2.2.2.1) h) (.cons (congrArg (fun v=>v.2.2.2.2.2.2.1) h) (.cons (congrArg (fun v=>v.2.2.2.2.2.2.2.1) h) (.cons (congrArg (fun v=>v.2.2.2.2.2.2.2.2.1) h) (.nil (congrArg (fun v=>v.2.2.2.2.2.2.2.2.2) h))))))))))
theorem Holds.n10{a0 a1 a2 a3 a4 a5 a6 a7 a8 a9:Nat}{x0 x1 x2 x3 x4 x5 x6 x7 x8 x9:U}(h:(s.fr a0,s.fr a1,s.fr a2,s.fr a3,s.fr a4,s.fr a5,s.fr a6,s.fr a7,s.fr a8,s.fr a9,s.al)=(x0,x1,x2,x3,x4,x5,x6,x7,x8,x9,[])):Holds s [(a0,x0),(a1,x1),(a2,x2),(a3,x3),(a4,x4),(a5,x5),(a6,x6),(a7,x7),(a8,x8),(a9,x9)]:=.cons (congrArg (fun v=>v.1) h) (.cons (congrArg (fun v=>v.2.1) h) (.cons (congrArg (fun v=>v.2.2.1) h) (.cons (congrArg (fun v=>v.2.2.2.1) h) (.cons (congrArg (fun v=>v.2.2.2.2.1) h) (.cons (congrArg (fun v=>v.2.2.2.2.2.1) h) (.cons (congrArg (fun v=>v.2.2.2.2.2.2.1) h) (.cons (congrArg (fun v=>v.2.2.2.2.2.2.2.1) h) (.cons (congrArg (fun v=>v.2.2.2.2.2.2.2.2.1) h) (.cons (congrArg (fun v=>v.2.2.2.2.2.2.2.2.2.1) h) (.nil (congrArg (fun v=>v.2.2.2.2.2.2.2.2.2.2) h)))))))))))
end
end Vam
namespace Go.Proofs.YtlknfhjfkcboiaaDoor.night
open Vam
section
def memP(P:Nat→Bool):Nat→List Int
 |0=>[]
 |n+1=>memP P n++if P n=true then [(n:Int)]else []
theorem zDu{P:Nat→Bool}{n:Nat}{x:Int}:x∈memP P n↔ ∃i:Nat,i<n∧x=i∧P i=true:=by
 induction n with
 |zero=>exact⟨(fun h=>by cases h),(fun⟨i,h,_⟩=>by omega)⟩
 |succ n ih=>
  unfold memP
  rw[List.mem_append,ih]
  constructor
  ·rintro(⟨i,h,e,hp⟩|h)
   ·exact⟨i,by omega,e,hp⟩
   ·split at h
    ·rename_i hp;rcases List.mem_singleton.1 h with rfl;exact⟨n,by omega,rfl,hp⟩
    ·cases h
  ·rintro⟨i,h,e,hp⟩
   by_cases hi:i<n
   ·exact .inl ⟨i,hi,e,hp⟩
   ·have:i=n:=by omega
    subst this
    rw[if_pos hp];exact .inr (List.mem_singleton.2 e)
theorem zBm{P Q:Nat→Bool}{n:Nat}(h:∀i,i<n→P i=Q i):memP P n=memP Q n:=by
 induction n with
 |zero=>rfl
 |succ n ih=>unfold memP;rw[ih fun i hi=>h i (by omega),h n (by omega)]
theorem zCA(P:Nat→Bool)(n:Nat):(memP P n).length≤n:=by
 induction n with
 |zero=>exact Nat.le_refl _
 |succ n ih=>unfold memP;rw[List.length_append];split<;>simp<;>omega
theorem bits_ex(P:Nat→Bool):∀n:Nat,∃s:Nat,s<2 ^ n∧∀i,i<n→s.testBit i=P i:=by
 intro n
 induction n with
 |zero=>exact⟨0,by decide,fun i h=>by omega⟩
 |succ n ih=>
  obtain⟨s,hs,hb⟩:=ih
  cases hp:P n with
  |false=>
   refine⟨s,Nat.lt_of_lt_of_le hs (Nat.pow_le_pow_right (by decide) (by omega)),fun i hi=>?_⟩
   by_cases h:i<n
   ·exact hb i h
   ·have:i=n:=by omega
    subst this
    rw[hp];exact Nat.testBit_lt_two_pow hs
  |true=>
   refine⟨2 ^ n+s,by rw[Nat.pow_succ];omega,fun i hi=>?_⟩
   by_cases h:i<n
   ·rw[Nat.testBit_two_pow_add_gt h];exact hb i h
   ·have:i=n:=by omega
    subst this
    rw[Nat.testBit_two_pow_add_eq,Nat.testBit_lt_two_pow hs,hp];rfl
def zAf:List Int→List Int→Bool
 |[],l=>decide (0<l.length)
 |_::_,[]=>false
 |x::a,y::c=>if x≠y then decide (x<y)else zAf a c
theorem soon_irr:∀a:List Int,zAf a a=false:=by
 intro a
 induction a with
 |nil=>rfl
 |cons x a ih=>unfold zAf;rw[if_neg (by simp)];exact ih
theorem soon_trans:∀(a b c:List Int),zAf a b=true→zAf b c=true→zAf a c=true:=by
 intro a
 induction a with
 |nil=>
  intro b c h1 h2
  cases c with
  |nil=>cases b with
   |nil=>cases h2
   |cons y b=>cases h2
  |cons z c=>rfl
 |cons x a ih=>
  intro b c h1 h2
  cases b with
  |nil=>cases h1
  |cons y b=>
   cases c with
   |nil=>cases h2
   |cons z c=>
    unfold zAf at h1 h2 ⊢
    by_cases e1:x=y
    ·rw[if_neg (by simp[e1])]at h1
     by_cases e2:y=z
     ·rw[if_neg (by simp[e2])]at h2
      rw[if_neg (by simp[e1,e2])]
      exact ih b c h1 h2
     ·rw[if_pos e2]at h2
      rw[if_pos (by rw[e1];exact e2),e1];exact h2
    ·rw[if_pos e1]at h1
     have h1:=of_decide_eq_true h1
     by_cases e2:y=z
     ·rw[if_pos (by omega)];exact kH (by omega)
     ·rw[if_pos e2]at h2
      have h2:=of_decide_eq_true h2
      rw[if_pos (by omega)];exact kH (by omega)
theorem soon_neg:∀(a b c:List Int),zAf a c=true→zAf a b=true∨zAf b c=true:=by
 intro a
 induction a with
 |nil=>
  intro b c h
  cases c with
  |nil=>cases h
  |cons z c=>cases b with
   |nil=>exact .inr rfl
   |cons y b=>exact .inl rfl
 |cons x a ih=>
  intro b c h
  cases c with
  |nil=>cases h
  |cons z c=>cases b with
   |nil=>exact .inr rfl
   |cons y b=>
    unfold zAf at h ⊢
    by_cases e1:x=y
    ·by_cases e2:y=z
     ·rw[if_neg (by simp[e1,e2])]at h
      rw[if_neg (by simp[e1]),if_neg (by simp[e2])]
      exact ih b c h
     ·rw[if_pos (by rw[e1];exact e2)]at h
      have:=of_decide_eq_true h
      right;rw[if_pos e2];exact kH (by omega)
    ·by_cases h1:x<y
     ·left;rw[if_pos e1];exact kH h1
     ·by_cases e2:x=z
      ·right;rw[if_pos (by omega)];exact kH (by omega)
      ·rw[if_pos e2]at h
       have:=of_decide_eq_true h
       right;rw[if_pos (by omega)];exact kH (by omega)
def ltB(w:List Int→Int)(a c:List Int):Bool:=decide (w a<w c)||(decide (w a=w c)&&(decide (a.length<c.length)||(decide (a.length=c.length)&&zAf a c)))
theorem zGi{w:List Int→Int}{a c:List Int}:ltB w a c=true↔w a<w c∨(w a=w c∧(a.length<c.length∨(a.length=c.length∧zAf a c=true))):=by
 unfold ltB
 simp only[Bool.or_eq_true,Bool.and_eq_true,decide_eq_true_eq]
theorem lt_irr(w:List Int→Int)(a:List Int):ltB w a a=false:=by
 cases h:ltB w a a with
 |false=>rfl
 |true=>
  rcases zGi.1 h with h|⟨_,h|⟨_,h⟩⟩
  ·omega
  ·omega
  ·rw[soon_irr]at h;cases h
theorem lt_trans{w:List Int→Int}{a b c:List Int}(h1:ltB w a b=true)(h2:ltB w b c=true):ltB w a c=true:=by
 rw[zGi]at*
 rcases h1 with h1|⟨h1,h3⟩<;>rcases h2 with h2|⟨h2,h4⟩
 ·exact .inl (by omega)
 ·exact .inl (by omega)
 ·exact .inl (by omega)
 ·refine .inr ⟨by omega,?_⟩
  rcases h3 with h3|⟨h3,h5⟩<;>rcases h4 with h4|⟨h4,h6⟩
  ·exact .inl (by omega)
  ·exact .inl (by omega)
  ·exact .inl (by omega)
  ·exact .inr ⟨by omega,soon_trans _ _ _ h5 h6⟩
theorem lt_neg{w:List Int→Int}{a b c:List Int}(h:ltB w a c=true):ltB w a b=true∨ltB w b c=true:=by
 rw[zGi]at h
 rw[zGi,zGi]
 by_cases h1:w a<w b
 ·exact .inl (.inl h1)
 ·by_cases h2:w b<w c
  ·exact .inr (.inl h2)
  ·rcases h with h|⟨h,h3⟩
   ·exact absurd h (by omega)
   ·by_cases h4:a.length<b.length
    ·exact .inl (.inr ⟨by omega,.inl h4⟩)
    ·by_cases h5:b.length<c.length
     ·exact .inr (.inr ⟨by omega,.inl h5⟩)
     ·rcases h3 with h3|⟨h3,h6⟩
      ·exact absurd h3 (by omega)
      ·rcases soon_neg a b c h6 with h7|h7
       ·exact .inl (.inr ⟨by omega,.inr ⟨by omega,h7⟩⟩)
       ·exact .inr (.inr ⟨by omega,.inr ⟨by omega,h7⟩⟩)
def bstS(w:List Int→Int):Option (List Int)→List Int→Option (List Int)
 |none,q=>some q
 |some m,q=>if ltB w q m=true then some q else some m
def bstO(w:List Int→Int)(l:List (List Int)):Option (List Int):=l.foldl (bstS w) none
theorem bst_snoc(w:List Int→Int)(l:List (List Int))(q:List Int):bstO w (l++[q])=bstS w (bstO w l) q:=by
 unfold bstO;rw[List.foldl_append];rfl
theorem bst_fold(w:List Int→Int):∀(l:List (List Int)) (a:List Int),∃m,l.foldl (bstS w) (some a)=some m∧m∈a::l∧∀q∈a::l,ltB w q m=false:=by
 intro l
 induction l with
 |nil=>intro a;exact⟨a,rfl,List.mem_cons_self,fun q hq=>by rcases List.mem_singleton.1 hq with rfl;exact lt_irr w _⟩
 |cons x l ih=>
  intro a
  rw[List.foldl_cons]
  cases hx:ltB w x a with
  |true=>
   obtain⟨m,h1,h2,h3⟩:=ih x
   refine⟨m,by rw[show bstS w (some a) x=some x by unfold bstS;exact if_pos hx];exact h1,List.mem_cons_of_mem _ h2,fun q hq=>?_⟩
   rcases List.mem_cons.1 hq with rfl|hq
   ·have h4:=h3 x List.mem_cons_self
    cases h5:ltB w q m with
    |false=>rfl
    |true=>rw[lt_trans hx h5]at h4;cases h4
   ·exact h3 q hq
  |false=>
   obtain⟨m,h1,h2,h3⟩:=ih a
   refine⟨m,by rw[show bstS w (some a) x=some a by unfold bstS;exact if_neg (by rw[hx];decide)];exact h1,?_,fun q hq=>?_⟩
   ·rcases List.mem_cons.1 h2 with h|h
    ·rw[h];exact List.mem_cons_self
    ·exact List.mem_cons_of_mem _ (List.mem_cons_of_mem _ h)
   ·rcases List.mem_cons.1 hq with rfl|hq
    ·exact h3 q List.mem_cons_self
    ·rcases List.mem_cons.1 hq with rfl|hq
     ·have h4:=h3 a List.mem_cons_self
      rcases List.mem_cons.1 h2 with h|h
      ·rw[h];exact hx
      ·cases h5:ltB w q m with
       |false=>rfl
       |true=>
        rcases lt_neg (b:=a) h5 with h6|h6
        ·rw[h6]at hx;cases hx
        ·rw[h6]at h4;cases h4
     ·exact h3 q (List.mem_cons_of_mem _ hq)
theorem zFV(w:List Int→Int)(l:List (List Int)):(l=[]∧bstO w l=none)∨∃m,bstO w l=some m∧m∈l∧∀q∈l,ltB w q m=false:=by
 cases l with
 |nil=>exact .inl ⟨rfl,rfl⟩
 |cons a l=>exact .inr (bst_fold w l a)
end
section
variable {is:FuncId→Bool}{orc:Known}
theorem zCT{k:Nat}{a:U}(h:Dat k a):∀v∈[a],Dat k v:=fun v hv=>by
 simp only[List.mem_cons,List.not_mem_nil,or_false]at hv
 subst hv;exact h
theorem zu{k:Nat}{a b:U}(h:Dat k a)(h2:Dat k b):∀v∈[a,b],Dat k v:=fun v hv=>by
 simp only[List.mem_cons,List.not_mem_nil,or_false]at hv
 rcases hv with rfl|rfl<;>assumption
theorem zCr{k:Nat}{a b c:U}(h:Dat k a)(h2:Dat k b)(h3:Dat k c):∀v∈[a,b,c],Dat k v:=fun v hv=>by
 simp only[List.mem_cons,List.not_mem_nil,or_false]at hv
 rcases hv with rfl|rfl|rfl<;>assumption
abbrev wQ(a b:Int):U:=.agg [.int .i64 a,.int .i64 b]
theorem zCI(a b:Int)(k:Nat):Dat (k+2) (wQ a b):=.agg _ _ (zu (.int _ _ _) (.int _ _ _))
abbrev zE(l:List Int):List U:=l.map fun n=>.int .i64 n
theorem all_take{α:Type}{p:α→Bool}{l:List α}{n:Nat}{x:α}(h:l[n]? =some x)(h1:(l.take n).all p=true)(h2:p x=true):(l.take (n+1)).all p=true:=by
 rw[List.take_add_one,List.all_append,h1,h]
 simpa using h2
theorem all_not{α:Type}{p:α→Bool}{l:List α}{n:Nat}{x:α}(h:l[n]? =some x)(h2:p x=false):l.all p=false:=by
 rw[List.all_eq_false]
 exact⟨x,List.mem_of_getElem? h,by simp[h2]⟩
theorem yL{l m:List SB}{i:Nat}{x:SB}(h:l[i]? =some x):(l++m)[i]? =some x:=by
 rw[List.getElem?_append_left (List.getElem?_eq_some_iff.1 h).1,h]
theorem yc(l:List SB)(x y:SB):(l++[x]).set l.length y=l++[y]:=by
 rw[List.set_append_right _ _ (Nat.le_refl _),Nat.sub_self];rfl
theorem grow{V Y e e2:List SB}(h:V++e=Y):Y++e2=V++(e++e2):=by rw[←h,List.append_assoc]
abbrev Off(is:FuncId→Bool):Prop:=∀f,f≠24→is f=false
structure Sc where
 part:Int
 wt:Int
 lo:Int
 hi:Int
 must:Bool
abbrev Sc.cs(q:Sc):List U:=[.int .i64 q.part,.int .i64 q.wt,.int .i64 q.lo,.int .i64 q.hi,.bool q.must]
abbrev Sc.u(q:Sc):U:=.agg q.cs
abbrev scsU(l:List Sc):List U:=l.map Sc.u
theorem dat_sccs(q:Sc)(k:Nat):∀c∈q.cs,Dat (k+1) c:=fun c hc=>by
 simp only[List.mem_cons,List.not_mem_nil,or_false]at hc
 rcases hc with rfl|rfl|rfl|rfl|rfl
 ·exact .int _ _ _
 ·exact .int _ _ _
 ·exact .int _ _ _
 ·exact .int _ _ _
 ·exact .bool _ _
theorem dat_scs(l:List Sc)(kd:Kd)(hk:kd≠.own)(k:Nat):Dat (k+2) (.lst kd 5 (scsU l)):=by
 refine .lst _ _ _ _ hk fun c hc=>?_
 obtain⟨e,h1,h2⟩:=List.mem_flatMap.1 hc
 obtain⟨q,_,rfl⟩:=List.mem_map.1 h1
 exact dat_sccs q _ c h2
structure Bk where
 bg:Int
 opens:List Int
 ends:List Int
 scenes:List Sc
 fee:Int
 loads:List Int
 cart:Int
 cost:Int
 feast:Int
 shares:List Int
abbrev Bk.cs(b:Bk):List U:=[.int .i64 b.bg,.lst .ro 1 (zE b.opens),.lst .ro 1 (zE b.ends),.lst .ro 5 (scsU b.scenes),.int .i64 b.fee,.lst .ro 1 (zE b.loads),.int .i64 b.cart,.int .i64 b.cost,.int .i64 b.feast,.lst .ro 1 (zE b.shares)]
abbrev Bk.u(b:Bk):U:=.agg b.cs
theorem dat_bkcs(b:Bk)(k:Nat):∀c∈b.cs,Dat (k+3) c:=fun c hc=>by
 simp only[List.mem_cons,List.not_mem_nil,or_false]at hc
 rcases hc with rfl|rfl|rfl|rfl|rfl|rfl|rfl|rfl|rfl|rfl
 ·exact .int _ _ _
 ·exact zR _ .ro (fun h=>by cases h) 1 _
 ·exact zR _ .ro (fun h=>by cases h) 1 _
 ·exact dat_scs _ .ro (fun h=>by cases h) _
 ·exact .int _ _ _
 ·exact zR _ .ro (fun h=>by cases h) 1 _
 ·exact .int _ _ _
 ·exact .int _ _ _
 ·exact .int _ _ _
 ·exact zR _ .ro (fun h=>by cases h) 1 _
theorem wU(b:Bk)(k:Nat):Dat (k+4) b.u:=.agg _ _ (dat_bkcs b k)
abbrev crU(b:Bk)(d:List Int):U:=.agg [.int .i64 b.bg,.lst .ro 1 (zE b.opens),.lst .ro 1 (zE b.ends),.lst .ro 5 (scsU b.scenes),.int .i64 b.fee,.lst .ro 1 (zE b.loads),.int .i64 b.cart,.int .i64 b.cost,.int .i64 b.feast,.lst .ro 1 (zE b.shares),.lst .ro 1 (zE d)]
abbrev Bk.cd(b:Bk)(d:List Int):List U:=[.int .i64 b.bg,.lst .ro 1 (zE b.opens),.lst .ro 1 (zE b.ends),.lst .ro 5 (scsU b.scenes),.int .i64 b.fee,.lst .ro 1 (zE b.loads),.int .i64 b.cart,.int .i64 b.cost,.int .i64 b.feast,.lst .ro 1 (zE b.shares),.lst .ro 1 (zE d)]
theorem zBp(b:Bk)(d:List Int)(k:Nat):Dat (k+4) (crU b d):=.agg _ _ fun c hc=>by
 rcases List.mem_append.1 (show c∈b.cs++[.lst .ro 1 (zE d)]from hc)with hc|hc
 ·exact dat_bkcs b k c hc
 ·rcases List.mem_singleton.1 hc with rfl;exact zR _ .ro (fun h=>by cases h) 1 _
theorem wD:zt Tryd.prog 48 0=some (0,3):=by kernel_rfl
theorem ym:zt Tryd.prog 48 1=some (1,3):=by kernel_rfl
theorem sh3:shOf Tryd.prog 3=.one:=by kernel_rfl
noncomputable def b80:Code:=(Tryd.f80.body).getD .skip
theorem body80:bodyOf Tryd.prog 80=some (15,b80,[.tmp 4]):=by kernel_rfl
theorem pure80:pureFn Tryd.prog 80=true:=by kernel_rfl
noncomputable def b41:Code:=(Tryd.f41.body).getD .skip
theorem body41:bodyOf Tryd.prog 41=some (15,b41,[.tmp 6]):=by kernel_rfl
theorem pure41:pureFn Tryd.prog 41=true:=by kernel_rfl
noncomputable def b57:Code:=(Tryd.f57.body).getD .skip
theorem body57:bodyOf Tryd.prog 57=some (24,b57,[.tmp 6]):=by kernel_rfl
theorem pure57:pureFn Tryd.prog 57=true:=by kernel_rfl
theorem pl48:zGR Tryd.prog 48=some [(0,1),(1,1)]:=by kernel_rfl
theorem sh48:shOf Tryd.prog 48=.many 2:=by kernel_rfl
theorem ze48:yZ Tryd.prog 48=some ((.cons (.int .i64 0) (.cons (.int .i64 0) .nil)):V):=by kernel_rfl
noncomputable def b36:Code:=(Tryd.f36.body).getD .skip
theorem body36:bodyOf Tryd.prog 36=some (8,b36,[.cell 4 48]):=by kernel_rfl
theorem pure36:pureFn Tryd.prog 36=true:=by kernel_rfl
noncomputable def b34:Code:=(Tryd.f34.body).getD .skip
theorem body34:bodyOf Tryd.prog 34=some (11,b34,[.tmp 4]):=by kernel_rfl
theorem pure34:pureFn Tryd.prog 34=true:=by kernel_rfl
theorem cl3:Program.cellsOf Tryd.prog 3=1:=by kernel_rfl
theorem ty22:tyOf Tryd.prog 22=.slice 3:=by kernel_rfl
noncomputable def b81:Code:=(Tryd.f81.body).getD .skip
theorem body81:bodyOf Tryd.prog 81=some (18,b81,[.tmp 4]):=by kernel_rfl
theorem pure81:pureFn Tryd.prog 81=true:=by kernel_rfl
theorem cl48:Program.cellsOf Tryd.prog 48=2:=by kernel_rfl
theorem cl50:Program.cellsOf Tryd.prog 50=5:=by kernel_rfl
theorem yx:zt Tryd.prog 50 0=some (0,3):=by kernel_rfl
theorem zCE:zt Tryd.prog 50 1=some (1,3):=by kernel_rfl
theorem wM:zt Tryd.prog 50 2=some (2,48):=by kernel_rfl
theorem sh50:shOf Tryd.prog 50=.many 5:=by kernel_rfl
theorem zBK:tyOf Tryd.prog 100=.array 9 48:=by kernel_rfl
theorem ty23:tyOf Tryd.prog 23=.slice 50:=by kernel_rfl
theorem ze3:yZ Tryd.prog 3=some ((.cons (.int .i64 0) .nil):V):=by kernel_rfl
theorem ze50:yZ Tryd.prog 50=some ((.cons (.int .i64 0) (.cons (.int .i64 0) (.cons (.int .i64 0) (.cons (.int .i64 0) (.cons (.bool false) .nil))))):V):=by kernel_rfl
noncomputable def b82:Code:=(Tryd.f82.body).getD .skip
theorem body82:bodyOf Tryd.prog 82=some (52,b82,[.tmp 2]):=by kernel_rfl
theorem pure82:pureFn Tryd.prog 82=true:=by kernel_rfl
def inS(a b n:Int):Bool:=decide (a≤n)&&decide (n≤b)
theorem ret80(hi:Off is)(a b n:Int):RetP Tryd.prog is orc 80 [wQ a b,.int .i64 n] (.bool (inS a b n)):=by
 refine zp body80 pure80 (hi 80 (by decide)) rfl rfl (zu (zCI a b 6) (.int _ _ _)) (.inl (.bool _ _)) ?_
 unfold inS
 by_cases h:a≤n
 ·rw[kH h,Bool.true_and]
  refine kQ (yB rfl rfl (zB rfl (zC ?_)))
  refine zF [(1,.int .i64 n),(2,U.box 0 0)] ([SB.box [.int .i64 a,.int .i64 b]]) (.n2 rfl) rfl fun fr=>?_
  refine kQ (kA rfl wD (kC sh3 rfl (zA rfl (ks rfl (zA rfl (kh rfl (kH (by omega)) ?_))))))
  refine zA rfl (kh rfl (kH (by omega)) ?_)
  refine kA rfl ym (kh rfl (kH (by omega)) ?_)
  refine kC sh3 rfl (kh rfl (kH (by omega)) ?_)
  refine ks rfl (zc rfl rfl (kH (by omega)) ?_)
  refine zB rfl (zC (zS ?_))
  refine⟨.inr rfl,_,.cons _ _ _ _ (.tmp 4) .nil,?_⟩
  exact .refl _
 ·rw[kI h,Bool.false_and]
  refine kQ (yB rfl rfl (zB rfl (zC ?_)))
  refine zF [(1,.int .i64 n),(2,U.box 0 0)] ([SB.box [.int .i64 a,.int .i64 b]]) (.n2 rfl) rfl fun fr=>?_
  refine kQ (kA rfl wD (kC sh3 rfl (zA rfl (ks rfl (zA rfl (kg rfl (kI (by omega)) ?_))))))
  refine kg rfl (kI (by omega)) ?_
  refine kg rfl (kI (by omega)) ?_
  refine kg rfl (kI (by omega)) ?_
  refine zW rfl rfl (kI (by omega)) ?_
  refine zB rfl (zC (zS ?_))
  refine⟨.inr rfl,_,.cons _ _ _ _ (.tmp 4) .nil,?_⟩
  exact .refl _
theorem zDm(hi:Off is)(n a b:Int):RetP Tryd.prog is orc 41 [.int .i64 n,.int .i64 a,.int .i64 b] (.bool (inS a b n)):=by
 refine zp body41 pure41 (hi 41 (by decide)) rfl rfl (zCr (.int _ _ _) (.int _ _ _) (.int _ _ _)) (.inl (.bool _ _)) ?_
 unfold inS
 by_cases h:a≤n
 ·rw[kH h,Bool.true_and]
  refine kQ (zB rfl (zC (kQ (zA rfl (zA rfl (ks rfl (zA rfl (kh rfl (kH (by omega)) ?_))))))))
  refine zA rfl (kh rfl (kH (by omega)) ?_)
  refine zA rfl (kh rfl (kH (by omega)) ?_)
  refine ks rfl (zc rfl rfl (kH (by omega)) ?_)
  refine zB rfl (zC (zS ?_))
  refine⟨.inr rfl,_,.cons _ _ _ _ (.tmp 6) .nil,?_⟩
  exact .refl _
 ·rw[kI h,Bool.false_and]
  refine kQ (zB rfl (zC (kQ (zA rfl (zA rfl (ks rfl (zA rfl (kg rfl (kI (by omega)) ?_))))))))
  refine kg rfl (kI (by omega)) ?_
  refine kg rfl (kI (by omega)) ?_
  refine zW rfl rfl (kI (by omega)) ?_
  refine zB rfl (zC (zS ?_))
  refine⟨.inr rfl,_,.cons _ _ _ _ (.tmp 6) .nil,?_⟩
  exact .refl _
def goodB(a b lo hi:Int):Bool:=decide (lo≤a)&&(decide (a≤b)&&decide (b≤hi))
theorem ret57(hi:Off is)(a b lo up:Int):RetP Tryd.prog is orc 57 [wQ a b,.int .i64 lo,.int .i64 up] (.bool (goodB a b lo up)):=by
 refine zp body57 pure57 (hi 57 (by decide)) rfl rfl (zCr (zCI a b 6) (.int _ _ _) (.int _ _ _)) (.inl (.bool _ _)) ?_
 unfold goodB
 by_cases h:lo≤a
 ·rw[kH h,Bool.true_and]
  by_cases h2:a≤b
  ·rw[kH h2,Bool.true_and]
   refine kQ (yB rfl rfl (zB rfl (zC ?_)))
   refine zF [(1,.int .i64 lo),(2,.int .i64 up),(3,U.box 0 0)] ([SB.box [.int .i64 a,.int .i64 b]]) (.n3 rfl) rfl fun fr=>?_
   refine kQ (zA rfl (kA rfl wD (kC sh3 rfl (ks rfl (zA rfl (kh rfl (kH (by omega)) ?_))))))
   refine kA rfl wD (kh rfl (kH (by omega)) ?_)
   refine kC sh3 rfl (kh rfl (kH (by omega)) ?_)
   refine kA rfl ym (kh rfl (kH (by omega)) ?_)
   refine kC sh3 rfl ?_
   refine zL [(2,.int .i64 up),(3,U.box 0 0),(11,U.bool (decide (lo≤a))),(13,.int .i64 a),(15,.int .i64 b)] [] ([SB.box [.int .i64 a,.int .i64 b]]) (.n5 rfl) rfl rfl fun fr=>?_
   refine kh rfl (kH (by omega)) ?_
   refine zL [(2,.int .i64 up),(3,U.box 0 0),(11,U.bool (decide (lo≤a))),(13,.int .i64 a),(15,.int .i64 b)] [] ([SB.box [.int .i64 a,.int .i64 b]]) (.n5 rfl) rfl rfl fun fr=>?_
   refine ks rfl (zc rfl rfl (kH (by omega)) ?_)
   refine zA rfl (kh rfl (kH (by omega)) ?_)
   refine kA rfl ym (kh rfl (kH (by omega)) ?_)
   refine kC sh3 rfl (kh rfl (kH (by omega)) ?_)
   refine zA rfl (kh rfl (kH (by omega)) ?_)
   refine ks rfl (zc rfl rfl (kH (by omega)) ?_)
   refine zB rfl (zC (zS ?_))
   refine⟨.inr rfl,_,.cons _ _ _ _ (.tmp 6) .nil,?_⟩
   exact .refl _
  ·rw[kI h2,Bool.false_and]
   refine kQ (yB rfl rfl (zB rfl (zC ?_)))
   refine zF [(1,.int .i64 lo),(2,.int .i64 up),(3,U.box 0 0)] ([SB.box [.int .i64 a,.int .i64 b]]) (.n3 rfl) rfl fun fr=>?_
   refine kQ (zA rfl (kA rfl wD (kC sh3 rfl (ks rfl (zA rfl (kh rfl (kH (by omega)) ?_))))))
   refine kA rfl wD (kh rfl (kH (by omega)) ?_)
   refine kC sh3 rfl (kh rfl (kH (by omega)) ?_)
   refine kA rfl ym (kh rfl (kH (by omega)) ?_)
   refine kC sh3 rfl ?_
   refine zL [(2,.int .i64 up),(3,U.box 0 0),(11,U.bool (decide (lo≤a))),(13,.int .i64 a),(15,.int .i64 b)] [] ([SB.box [.int .i64 a,.int .i64 b]]) (.n5 rfl) rfl rfl fun fr=>?_
   refine kh rfl (kH (by omega)) ?_
   refine zL [(2,.int .i64 up),(3,U.box 0 0),(11,U.bool (decide (lo≤a))),(13,.int .i64 a),(15,.int .i64 b)] [] ([SB.box [.int .i64 a,.int .i64 b]]) (.n5 rfl) rfl rfl fun fr=>?_
   refine ks rfl (zc rfl rfl (kH (by omega)) ?_)
   refine zA rfl (kg rfl (kI (by omega)) ?_)
   refine kg rfl (kI (by omega)) ?_
   refine kg rfl (kI (by omega)) ?_
   refine kg rfl (kI (by omega)) ?_
   refine zW rfl rfl (kI (by omega)) ?_
   refine zB rfl (zC (zS ?_))
   refine⟨.inr rfl,_,.cons _ _ _ _ (.tmp 6) .nil,?_⟩
   exact .refl _
 ·rw[kI h,Bool.false_and]
  refine kQ (yB rfl rfl (zB rfl (zC ?_)))
  refine zF [(1,.int .i64 lo),(2,.int .i64 up),(3,U.box 0 0)] ([SB.box [.int .i64 a,.int .i64 b]]) (.n3 rfl) rfl fun fr=>?_
  refine kQ (zA rfl (kA rfl wD (kC sh3 rfl (ks rfl (zA rfl (kg rfl (kI (by omega)) ?_))))))
  refine kg rfl (kI (by omega)) ?_
  refine kg rfl (kI (by omega)) ?_
  refine kg rfl (kI (by omega)) ?_
  refine zL [(2,.int .i64 up),(3,U.box 0 0),(11,U.bool (decide (lo≤a)))] [] ([SB.box [.int .i64 a,.int .i64 b]]) (.n3 rfl) rfl rfl fun fr=>?_
  refine kg rfl (kI (by omega)) ?_
  refine zW rfl rfl (kI (by omega)) ?_
  refine zA rfl (ke rfl (ke rfl (ke rfl (ke rfl (kF rfl ?_)))))
  refine zB rfl (zC (zS ?_))
  refine⟨.inr rfl,_,.cons _ _ _ _ (.tmp 6) .nil,?_⟩
  exact .refl _
theorem ret36(hi:Off is)(a b:Int):RetP Tryd.prog is orc 36 [.int .i64 a,.int .i64 b] (wQ a b):=by
 refine zp body36 pure36 (hi 36 (by decide)) rfl rfl (zu (.int _ _ _) (.int _ _ _)) (.inl (zCI a b 6)) ?_
 refine kQ (zq rfl ze48 ?_)
 refine zC ?_
 refine zF [(0,.int .i64 a),(1,.int .i64 b),(4,U.box 0 0)] ([SB.box [.int .i64 0,.int .i64 0]]) (.n3 rfl) rfl fun fr=>?_
 refine kQ (zA rfl (zA rfl (wk rfl ze48 pl48 rfl rfl ?_)))
 refine zZ rfl rfl sh48 rfl rfl rfl rfl rfl ?_
 refine zC (zS ?_)
 refine⟨.inr rfl,_,.cons _ _ _ _ (.cellN 4 48 _ _ _ _ rfl rfl sh48 rfl) .nil,?_⟩
 exact .refl _
theorem ret34(hi:Off is)(a b n:Int):RetP Tryd.prog is orc 34 [wQ a b,.int .i64 n] (.bool (inS a b n)):=by
 have q41:=zDm (orc:=orc) hi n a b
 refine zp body34 pure34 (hi 34 (by decide)) rfl rfl (zu (zCI a b 6) (.int _ _ _)) (.inl (.bool _ _)) ?_
 refine kQ (yB rfl rfl (zB rfl (zC ?_)))
 refine zF [(1,.int .i64 n),(2,U.box 0 0)] ([SB.box [.int .i64 a,.int .i64 b]]) (.n2 rfl) rfl fun fr=>?_
 refine kQ (zA rfl (kA rfl wD (kC sh3 rfl (kA rfl ym (kC sh3 rfl (zG rfl (q41) (.lrefl _) (zB rfl (zC (zS ?_)))))))))
 refine⟨.inr rfl,_,.cons _ _ _ _ (.tmp 4) .nil,?_⟩
 exact .refl _
set_option maxHeartbeats 4000000 in
theorem ret81(hi:Off is)(a b:Int)(l:List Int)(hl:l.length≤4096):RetP Tryd.prog is orc 81 [wQ a b,.lst .ro 1 (zE l)] (.bool (l.all (inS a b))):=by
 refine zp body81 pure81 (hi 81 (by decide)) rfl rfl (zu (zCI a b 6) (zR 6 .ro (fun h=>by cases h) 1 l)) (.inl (.bool _ _)) ?_
 refine kQ (yB rfl rfl (zB rfl (zC ?_)))
 refine zF [(1,.lst .ro 1 (zE l)),(2,U.box 0 0)] ([SB.box [.int .i64 a,.int .i64 b]]) (.n2 rfl) rfl fun fr=>?_
 refine k_seq (kQ (zA rfl (zP rfl ty22 rfl (List.length_map _) ?_)))
 refine zA rfl (zC (zH ?_))
 refine yR (fun kk s2=>∃i:Nat,kk+i=l.length∧(l.take i).all (inS a b)=true∧s2.st=[.box [.int .i64 a,.int .i64 b]]∧Holds s2 [(2,.box 0 0),(7,.lst .ro 1 (zE l)),(8,.int .i64 l.length),(9,.int .i64 i)]) (fun kk s2 hI=>?_) l.length _ ⟨0,rfl,rfl,rfl,.c4 rfl rfl rfl rfl (.nil rfl)⟩
 obtain⟨i,hk,hall,hst2,hs2⟩:=hI
 refine zF _ _ hs2 hst2 fun fr2=>?_
 by_cases hin:i<l.length
 ·obtain⟨x,hx⟩:∃x,l[i]? =some x:=⟨l[i],List.getElem?_eq_getElem hin⟩
  have q80:=ret80 (orc:=orc) hi a b x
  cases hc:inS a b x with
  |true=>
   rw[hc]at q80
   refine kQ (kq rfl (zC (k_seq (k_cT rfl (kH (by omega)) (zJ (k_seq (zH (kQ (zX (u:=.int .i64 (x)) rfl ty22 rfl rfl (Int.natCast_nonneg _) (by simp[hx]) cl3 ?_)))))))))
   refine kE sh3 rfl ?_
   refine zB rfl (zC (kQ (kD sh48 rfl (zA rfl (zG rfl (q80) (.lrefl _) (zh rfl rfl (zC (k_cF rfl rfl ?_))))))))
   refine zJ (k_region ?_)
   refine kB rfl (by unfold I64;omega) (zA rfl (zC ?_))
   exact⟨kk - 1,by omega,i+1,by omega,all_take hx hall hc,rfl,.c4 rfl rfl rfl rfl (.nil rfl)⟩
  |false=>
   rw[hc]at q80
   rw[all_not hx hc]
   refine kQ (kq rfl (zC (k_seq (k_cT rfl (kH (by omega)) (zJ (k_seq (zH (kQ (zX (u:=.int .i64 (x)) rfl ty22 rfl rfl (Int.natCast_nonneg _) (by simp[hx]) cl3 ?_)))))))))
   refine kE sh3 rfl ?_
   refine zB rfl (zC (kQ (kD sh48 rfl (zA rfl (zG rfl (q80) (.lrefl _) (zh rfl rfl (zC (k_cT rfl rfl ?_))))))))
   refine kQ (zB rfl (zC (zS ?_)))
   refine⟨.inr rfl,_,.cons _ _ _ _ (.tmp 4) .nil,?_⟩
   exact .refl _
 ·have hiN:i=l.length:=by omega
  subst hiN
  rw[List.take_length]at hall
  rw[hall]
  refine kQ (kq rfl (zC (k_seq (k_cF rfl (kI (by omega)) (zr (kQ (zB rfl (zC (zS ?_)))))))))
  refine⟨.inr rfl,_,.cons _ _ _ _ (.tmp 4) .nil,?_⟩
  exact .refl _
def scB(p:Int)(q:Sc):Bool:=inS p 2 q.part&&(inS 0 100 q.wt&&(decide (q.lo≤q.hi)&&[q.lo,q.hi].all (inS 0 600)))
def scsB:Int→List Sc→Bool
 |_,[]=>true
 |p,q::l=>scB p q&&scsB q.part l
def prA(l:List Sc):Nat→Int
 |0=>0
 |i+1=>((l[i]?).map Sc.part).getD 0
theorem scs_at(l:List Sc):∀(p:Int),scsB p l=true↔ ∀(i:Nat) (q:Sc),l[i]? =some q→scB (if i=0 then p else prA l i) q=true:=by
 induction l with
 |nil=>intro p;exact⟨fun _ i q h=>by simp at h,fun _=>rfl⟩
 |cons x l ih=>
  intro p
  unfold scsB
  rw[Bool.and_eq_true,ih]
  have hpr:∀j,prA (x::l) (j+1)=if j=0 then x.part else prA l j:=fun j=>by
   cases j with
   |zero=>rfl
   |succ j=>rfl
  constructor
  ·rintro⟨h1,h2⟩ i q hq
   cases i with
   |zero=>cases hq;exact h1
   |succ i=>
    rw[if_neg (by omega),hpr]
    exact h2 i q (by simpa using hq)
  ·intro h
   refine⟨h 0 x rfl,fun i q hq=>?_⟩
   have:=h (i+1) q (by simpa using hq)
   rw[if_neg (by omega),hpr]at this
   exact this
end
end Go.Proofs.YtlknfhjfkcboiaaDoor.night
