import Derived.Test.YthhbfbmfhldbaaaDoorVamR
import Derived.Test.YthhbfbmfhldbaaaDoorProg
import Derived.KernelRfl
set_option linter.unusedVariables false
set_option linter.unusedSimpArgs false
set_option linter.constructorNameAsVariable false
theorem Vam.Holds.c4{s:Vam.St}{a b c d:Nat}{x y z w:Vam.U}{l:List (Nat×Vam.U)}(h1:s.fr a=x)(h2:s.fr b=y)(h3:s.fr c=z)(h4:s.fr d=w)(h:Vam.Holds s l):Vam.Holds s ((a,x)::(b,y)::(c,z)::(d,w)::l):=.cons h1 (.cons h2 (.cons h3 (.cons h4 h)))
theorem Vam.kQ{P:Go.Program}{is:Go.FuncId→Bool}{orc:Vam.Known}{s:Vam.St}{i:Nat}{ops:Array Go.Oper}{b:Go.Code}{Q:Vam.Ex→Vam.St→Prop}(h:Vam.WpO P is orc ops.toList ops.toList s fun s'=>Vam.Wp P is orc b {s' with al:=[]} Q):Vam.Wp P is orc (.seq (.region i ops false) b) s Q:=Vam.k_seq (Vam.k_region h)
namespace Vam
section
open Go
variable {P:Program}{is:FuncId→Bool}{orc:Known}{all l:List Oper}{m:List (Oper×M0)}{m0:M0}{dst:Option Nat}{o:Op}{t t' xt yt:TypeId}{p:String}{a e:Array Edge}{g d n off:Nat}{want c:Bool}{og:Oper}{j ad:Nat}{s:St}{x y:Operand}{Q:St→Prop}{k:IntKind}{ai bi:Int}{cs:List U}{u:U}{f:String}
theorem ke(h:(wV 1024 dst,nthO all g,og.dst,s.slot j,c)=(true,some og,some j,U.bool c, !want))(q:WpO P is orc all l (s.dst dst (.tup [])) Q):WpO P is orc all (⟨dst,o,t,p,a,some (g,want)⟩::l) s Q:=o_gS (congrArg (fun v=>v.1) h) (congrArg (fun v=>v.2.1) h) (congrArg (fun v=>v.2.2.1) h) (congrArg (fun v=>v.2.2.2.1) h) (congrArg (fun v=>v.2.2.2.2) h) q
theorem kf(h:(wV 1024 dst,nthO all g,og.dst,s.slot j,c)=(true,some og,some j,U.bool c,want))(q:WpO P is orc all (⟨dst,o,t,p,a,none⟩::l) s Q):WpO P is orc all (⟨dst,o,t,p,a,some (g,want)⟩::l) s Q:=o_gD (congrArg (fun v=>v.1) h) (congrArg (fun v=>v.2.1) h) (congrArg (fun v=>v.2.2.1) h) (congrArg (fun v=>v.2.2.2.1) h) (congrArg (fun v=>v.2.2.2.2) h) q
theorem kg(h:(wV 1024 dst,nthO all g,og.dst,s.slot j)=(true,some og,some j,U.bool c))(ee:c= !want)(q:WpO P is orc all l (s.dst dst (.tup [])) Q):WpO P is orc all (⟨dst,o,t,p,a,some (g,want)⟩::l) s Q:=o_gS (congrArg (fun v=>v.1) h) (congrArg (fun v=>v.2.1) h) (congrArg (fun v=>v.2.2.1) h) (congrArg (fun v=>v.2.2.2) h) ee q
theorem kh(h:(wV 1024 dst,nthO all g,og.dst,s.slot j)=(true,some og,some j,U.bool c))(ee:c=want)(q:WpO P is orc all (⟨dst,o,t,p,a,none⟩::l) s Q):WpO P is orc all (⟨dst,o,t,p,a,some (g,want)⟩::l) s Q:=o_gD (congrArg (fun v=>v.1) h) (congrArg (fun v=>v.2.1) h) (congrArg (fun v=>v.2.2.1) h) (congrArg (fun v=>v.2.2.2) h) ee q
theorem kj(h:(wV 1024 dst,nthO all g,og.dst,s.slot j,c)=(true,some og,some j,U.bool c, !want))(q:WpD P is orc all m (s.dst dst (.tup [])) Q):WpD P is orc all ((⟨dst,o,t,p,a,some (g,want)⟩,m0)::m) s Q:=d_gS (congrArg (fun v=>v.1) h) (congrArg (fun v=>v.2.1) h) (congrArg (fun v=>v.2.2.1) h) (congrArg (fun v=>v.2.2.2.1) h) (congrArg (fun v=>v.2.2.2.2) h) q
theorem kl(h:(wV 1024 dst,nthO all g,og.dst,s.slot j,c)=(true,some og,some j,U.bool c,want))(q:WpD P is orc all ((⟨dst,o,t,p,a,none⟩,m0)::m) s Q):WpD P is orc all ((⟨dst,o,t,p,a,some (g,want)⟩,m0)::m) s Q:=d_gD (congrArg (fun v=>v.1) h) (congrArg (fun v=>v.2.1) h) (congrArg (fun v=>v.2.2.1) h) (congrArg (fun v=>v.2.2.2.1) h) (congrArg (fun v=>v.2.2.2.2) h) q
theorem km(h:(wV 1024 dst,nthO all g,og.dst,s.slot j)=(true,some og,some j,U.bool c))(ee:c= !want)(q:WpD P is orc all m (s.dst dst (.tup [])) Q):WpD P is orc all ((⟨dst,o,t,p,a,some (g,want)⟩,m0)::m) s Q:=d_gS (congrArg (fun v=>v.1) h) (congrArg (fun v=>v.2.1) h) (congrArg (fun v=>v.2.2.1) h) (congrArg (fun v=>v.2.2.2) h) ee q
theorem kn(h:(wV 1024 dst,nthO all g,og.dst,s.slot j)=(true,some og,some j,U.bool c))(ee:c=want)(q:WpD P is orc all ((⟨dst,o,t,p,a,none⟩,m0)::m) s Q):WpD P is orc all ((⟨dst,o,t,p,a,some (g,want)⟩,m0)::m) s Q:=d_gD (congrArg (fun v=>v.1) h) (congrArg (fun v=>v.2.1) h) (congrArg (fun v=>v.2.2.1) h) (congrArg (fun v=>v.2.2.2) h) ee q
theorem kp(h:(Nat.blt d 1024,zP s x,zP s y)=(true,U.int k ai,U.int k bi))(q:WpO P is orc all l (s.put d (.bool (decide (ai<bi)))) Q):WpO P is orc all (⟨some d,.binOp .lss xt x y yt,t,p,e,none⟩::l) s Q:=o_lss (congrArg (fun v=>v.1) h) (congrArg (fun v=>v.2.1) h) (congrArg (fun v=>v.2.2) h) q
theorem kq(h:(Nat.blt d 1024,zP s x,zP s y)=(true,U.int k ai,U.int k bi))(q:WpO P is orc all l (s.put d (.bool (decide (ai≤bi)))) Q):WpO P is orc all (⟨some d,.binOp .leq xt x y yt,t,p,e,none⟩::l) s Q:=o_leq (congrArg (fun v=>v.1) h) (congrArg (fun v=>v.2.1) h) (congrArg (fun v=>v.2.2) h) q
theorem kr(h:(Nat.blt d 1024,zP s x,zP s y)=(true,U.int k ai,U.int k bi))(q:WpO P is orc all l (s.put d (.bool (decide (ai≠bi)))) Q):WpO P is orc all (⟨some d,.binOp .neq xt x y yt,t,p,e,none⟩::l) s Q:=o_neq (congrArg (fun v=>v.1) h) (congrArg (fun v=>v.2.1) h) (congrArg (fun v=>v.2.2) h) q
theorem ks(h:(Nat.blt d 1024,zP s x,zP s y)=(true,U.int k ai,U.int k bi))(q:WpO P is orc all l (s.put d (.bool (decide (ai=bi)))) Q):WpO P is orc all (⟨some d,.binOp .eql xt x y yt,t,p,e,none⟩::l) s Q:=o_eql (congrArg (fun v=>v.1) h) (congrArg (fun v=>v.2.1) h) (congrArg (fun v=>v.2.2) h) q
theorem ku(h:(Nat.blt d 1024,zP s x,cs[n]?)=(true,U.tup cs,some u))(q:WpO P is orc all l (s.put d (dg u)) Q):WpO P is orc all (⟨some d,.extract x n,t,p,e,none⟩::l) s Q:=o_extract (congrArg (fun v=>v.1) h) (congrArg (fun v=>v.2.1) h) (congrArg (fun v=>v.2.2) h) q
theorem kw(h:(Nat.blt d 1024,zP s x)=(true,U.box ad off)){f:_}{fo ft:_}(hf:zp P xt f=some (fo,ft))(q:WpO P is orc all l (s.put d (.box ad (off+fo))) Q):WpO P is orc all (⟨some d,.fieldAddr xt x f,t,p,e,none⟩::l) s Q:=o_faddr (congrArg (fun v=>v.1) h) (congrArg (fun v=>v.2) h) hf q
theorem kz(h:(Nat.blt d 1024,zP s x,zP s y)=(true,U.int .i64 ai,U.int .i64 bi))(hr:I64 (ai+bi))(q:WpO P is orc all l (s.put d (.int .i64 (ai+bi))) Q):WpO P is orc all (⟨some d,.binOp .add xt x y yt,t,p,e,none⟩::l) s Q:=o_add (congrArg (fun v=>v.1) h) (congrArg (fun v=>v.2.1) h) (congrArg (fun v=>v.2.2) h) hr q
theorem kA(hs:shOf P t'=.one)(h:(Nat.blt d 1024,zP s x,s.st[ad]?,cs[off]?)=(true,U.box ad off,some (SB.box cs),some u))(q:WpO P is orc all l (s.ld d ad off u) Q):WpO P is orc all (⟨some d,.load t' x,t,p,e,none⟩::l) s Q:=zx (congrArg (fun v=>v.1) h) (congrArg (fun v=>v.2.1) h) (congrArg (fun v=>v.2.2.1) h) hs (congrArg (fun v=>v.2.2.2) h) q
theorem kB(hs:shOf P t'=.many n)(h:(Nat.blt d 1024,zP s x,s.st[ad]?,Nat.ble (off+n) cs.length)=(true,U.box ad off,some (SB.box cs),true))(q:WpO P is orc all l (s.put d (.agg ((cs.drop off).take n))) Q):WpO P is orc all (⟨some d,.load t' x,t,p,e,none⟩::l) s Q:=zDx (congrArg (fun v=>v.1) h) (congrArg (fun v=>v.2.1) h) (congrArg (fun v=>v.2.2.1) h) hs (congrArg (fun v=>v.2.2.2) h) q
theorem kC(hs:shOf P t'=.one)(h:(Nat.blt d 1024,zP s x,cs[off]?)=(true,U.eref cs off,some u))(q:WpO P is orc all l (s.put d (dg u)) Q):WpO P is orc all (⟨some d,.load t' x,t,p,e,none⟩::l) s Q:=o_loadR1 (congrArg (fun v=>v.1) h) (congrArg (fun v=>v.2.1) h) hs (congrArg (fun v=>v.2.2) h) q
theorem kD{z:Operand}(h:(Nat.blt d 1024,zP s z,c)=(true,U.bool c,false))(q:WpO P is orc all l (s.put d (dg (zP s y))) Q):WpO P is orc all (⟨some d,.pick z x y,t,p,e,none⟩::l) s Q:=zAO (congrArg (fun v=>v.1) h) (congrArg (fun v=>v.2.1) h) (congrArg (fun v=>v.2.2) h) q
theorem kE{z:Operand}(h:(Nat.blt d 1024,zP s z,c)=(true,U.bool c,true))(q:WpO P is orc all l (s.put d (dg (zP s x))) Q):WpO P is orc all (⟨some d,.pick z x y,t,p,e,none⟩::l) s Q:=wq (congrArg (fun v=>v.1) h) (congrArg (fun v=>v.2.1) h) (congrArg (fun v=>v.2.2) h) q
theorem kF{b:Prop}[Decidable b](h:b):decide b=true:=decide_eq_true h
theorem kG{b:Prop}[Decidable b](h: ¬ b):decide b=false:=decide_eq_false h
theorem Holds.n1{a0:Nat}{x0:U}(h:(s.fr a0,s.al)=(x0,[])):Holds s [(a0,x0)]:=.cons (congrArg (fun v=>v.1) h) (.nil (congrArg (fun v=>v.2) h))
theorem Holds.n2{a0 a1:Nat}{x0 x1:U}(h:(s.fr a0,s.fr a1,s.al)=(x0,x1,[])):Holds s [(a0,x0),(a1,x1)]:=.cons (congrArg (fun v=>v.1) h) (.cons (congrArg (fun v=>v.2.1) h) (.nil (congrArg (fun v=>v.2.2) h)))
theorem Holds.n3{a0 a1 a2:Nat}{x0 x1 x2:U}(h:(s.fr a0,s.fr a1,s.fr a2,s.al)=(x0,x1,x2,[])):Holds s [(a0,x0),(a1,x1),(a2,x2)]:=.cons (congrArg (fun v=>v.1) h) (.cons (congrArg (fun v=>v.2.1) h) (.cons (congrArg (fun v=>v.2.2.1) h) (.nil (congrArg (fun v=>v.2.2.2) h))))
theorem Holds.n4{a0 a1 a2 a3:Nat}{x0 x1 x2 x3:U}(h:(s.fr a0,s.fr a1,s.fr a2,s.fr a3,s.al)=(x0,x1,x2,x3,[])):Holds s [(a0,x0),(a1,x1),(a2,x2),(a3,x3)]:=.cons (congrArg (fun v=>v.1) h) (.cons (congrArg (fun v=>v.2.1) h) (.cons (congrArg (fun v=>v.2.2.1) h) (.cons (congrArg (fun v=>v.2.2.2.1) h) (.nil (congrArg (fun v=>v.2.2.2.2) h)))))
theorem Holds.n5{a0 a1 a2 a3 a4:Nat}{x0 x1 x2 x3 x4:U}(h:(s.fr a0,s.fr a1,s.fr a2,s.fr a3,s.fr a4,s.al)=(x0,x1,x2,x3,x4,[])):Holds s [(a0,x0),(a1,x1),(a2,x2),(a3,x3),(a4,x4)]:=.cons (congrArg (fun v=>v.1) h) (.cons (congrArg (fun v=>v.2.1) h) (.cons (congrArg (fun v=>v.2.2.1) h) (.cons (congrArg (fun v=>v.2.2.2.1) h) (.cons (congrArg (fun v=>v.2.2.2.2.1) h) (.nil (congrArg (fun v=>v.2.2.2.2.2) h))))))
theorem Holds.n6{a0 a1 a2 a3 a4 a5:Nat}{x0 x1 x2 x3 x4 x5:U}(h:(s.fr a0,s.fr a1,s.fr a2,s.fr a3,s.fr a4,s.fr a5,s.al)=(x0,x1,x2,x3,x4,x5,[])):Holds s [(a0,x0),(a1,x1),(a2,x2),(a3,x3),(a4,x4),(a5,x5)]:=.cons (congrArg (fun v=>v.1) h) (.cons (congrArg (fun v=>v.2.1) h) (.cons (congrArg (fun v=>v.2.2.1) h) (.cons (congrArg (fun v=>v.2.2.2.1) h) (.cons (congrArg (fun v=>v.2.2.2.2.1) h) (.cons (congrArg (fun v=>v.2.2.2.2.2.1) h) (.nil (congrArg (fun v=>v.2.2.2.2.2.2) h)))))))
theorem Holds.n7{a0 a1 a2 a3 a4 a5 a6:Nat}{x0 x1 x2 x3 x4 x5 x6:U}(h:(s.fr a0,s.fr a1,s.fr a2,s.fr a3,s.fr a4,s.fr a5,s.fr a6,s.al)=(x0,x1,x2,x3,x4,x5,x6,[])):Holds s [(a0,x0),(a1,x1),(a2,x2),(a3,x3),(a4,x4),(a5,x5),(a6,x6)]:=.cons (congrArg (fun v=>v.1) h) (.cons (congrArg (fun v=>v.2.1) h) (.cons (congrArg (fun v=>v.2.2.1) h) (.cons (congrArg (fun v=>v.2.2.2.1) h) (.cons (congrArg (fun v=>v.2.2.2.2.1) h) (.cons (congrArg (fun v=>v.2.2.2.2.2.1) h) (.cons (congrArg (fun v=>v.2.2.2.2.2.2.1) h) (.nil (congrArg (fun v=>v.2.2.2.2.2.2.2) h))))))))
theorem Holds.n8{a0 a1 a2 a3 a4 a5 a6 a7:Nat}{x0 x1 x2 x3 x4 x5 x6 x7:U}(h:(s.fr a0,s.fr a1,s.fr a2,s.fr a3,s.fr a4,s.fr a5,s.fr a6,s.fr a7,s.al)=(x0,x1,x2,x3,x4,x5,x6,x7,[])):Holds s [(a0,x0),(a1,x1),(a2,x2),(a3,x3),(a4,x4),(a5,x5),(a6,x6),(a7,x7)]:=.cons (congrArg (fun v=>v.1) h) (.cons (congrArg (fun v=>v.2.1) h) (.cons (congrArg (fun v=>v.2.2.1) h) (.cons (congrArg (fun v=>v.2.2.2.1) h) (.cons (congrArg (fun v=>v.2.2.2.2.1) h) (.cons (congrArg (fun v=>v.2.2.2.2.2.1) h) (.cons (congrArg (fun v=>v.2.2.2.2.2.2.1) h) (.cons (congrArg (fun v=>v.2.2.2.2.2.2.2.1) h) (.nil (congrArg (fun v=>v.2.2.2.2.2.2.2.2) h)))))))))
theorem Holds.n9{a0 a1 a2 a3 a4 a5 a6 a7 a8:Nat}{x0 x1 x2 x3 x4 x5 x6 x7 x8:U}(h:(s.fr a0,s.fr a1,s.fr a2,s.fr a3,s.fr a4,s.fr a5,s.fr a6,s.fr a7,s.fr a8,s.al)=(x0,x1,x2,x3,x4,x5,x6,x7,x8,[])):Holds s [(a0,x0),(a1,x1),(a2,x2),(a3,x3),(a4,x4),(a5,x5),(a6,x6),(a7,x7),(a8,x8)]:=.cons (congrArg (fun v=>v.1) h) (.cons (congrArg (fun v=>v.2.1) h) (.cons (congrArg (fun v=>v.2.2.1) h) (.cons (congrArg (fun v=>v.2.2.2.1) h) (.cons (congrArg (fun v=>v.2.2.2.2.1) h) (.cons (congrArg (fun v=>v.2.2.2.2.2.1) h) (.cons (congrArg (fun v=>v.2.2.2.2.2.2.1) h) (.cons (congrArg (fun v=>v.2.2.2.2.2.2.2.1) h) (.cons (congrArg (fun v=>v.2.2.2.2.2.2.2.2.1) h) (.nil (congrArg (fun v=>v.2.2.2.2.2.2.2.2.2) h))))))))))
theorem Holds.n10{a0 a1 a2 a3 a4 a5 a6 a7 a8 a9:Nat}{x0 x1 x2 x3 x4 x5 x6 x7 x8 x9:U}(h:(s.fr a0,s.fr a1,s.fr a2,s.fr a3,s.fr a4,s.fr a5,s.fr a6,s.fr a7,s.fr a8,s.fr a9,s.al)=(x0,x1,x2,x3,x4,x5,x6,x7,x8,x9,[])):Holds s [(a0,x0),(a1,x1),(a2,x2),(a3,x3),(a4,x4),(a5,x5),(a6,x6),(a7,x7),(a8,x8),(a9,x9)]:=.cons (congrArg (fun v=>v.1) h) (.cons (congrArg (fun v=>v.2.1) h) (.cons (congrArg (fun v=>v.2.2.1) h) (.cons (congrArg (fun v=>v.2.2.2.1) h) (.cons (congrArg (fun v=>v.2.2.2.2.1) h) (.cons (congrArg (fun v=>v.2.2.2.2.2.1) h) (.cons (congrArg (fun v=>v.2.2.2.2.2.2.1) h) (.cons (congrArg (fun v=>v.2.2.2.2.2.2.2.1) h) (.cons (congrArg (fun v=>v.2.2.2.2.2.2.2.2.1) h) (.cons (congrArg (fun v=>v.2.2.2.2.2.2.2.2.2.1) h) (.nil (congrArg (fun v=>v.2.2.2.2.2.2.2.2.2.2) h)))))))))))
end
end Vam
namespace Go.Proofs.YthhbfbmfhldbaaaDoor.locks
open Vam
section
def cntF(f:Int→Bool)(r:Nat)(st:Int):Nat→Int→Nat→Nat
 |0,_,c=>c
 |k+1,at',c=>if c≤r∧f at'=true then cntF f r st k (at'+st) (c+1)else c
theorem zBL(f:Int→Bool)(r:Nat)(st:Int):∀(k:Nat) (a:Int) (c:Nat),c≤r+1→r+1≤c+k→
  c≤cntF f r st k a c∧cntF f r st k a c≤r+1∧(∀j:Nat,c+j<cntF f r st k a c→f (a+j*st)=true)∧(cntF f r st k a c≤r→f (a+((cntF f r st k a c - c:Nat):Int)*st)=false):=by
 intro k
 induction k with
 |zero=>
  intro a c h1 h2
  have:c=r+1:=by omega
  subst this
  exact⟨Nat.le_refl _,Nat.le_refl _,fun j hj=>by unfold cntF at hj;omega,fun h=>by unfold cntF at h;omega⟩
 |succ k ih=>
  intro a c h1 h2
  unfold cntF
  by_cases hc:c≤r∧f a=true
  ·rw[if_pos hc]
   obtain⟨i1,i2,i3,i4⟩:=ih (a+st) (c+1) (by omega) (by omega)
   refine⟨by omega,i2,fun j hj=>?_,fun h=>?_⟩
   ·cases j with
    |zero=>simpa using hc.2
    |succ j=>
     have:=i3 j (by omega)
     rw[show a+((j+1:Nat):Int)*st=a+st+(j:Int)*st by rw[Int.natCast_add,Int.add_mul];simp;omega]
     exact this
   ·have h3:=i4 h
    obtain⟨m,hm⟩:∃m,m=cntF f r st k (a+st) (c+1):=⟨_,rfl⟩
    rw[←hm]at h3 h i1 ⊢
    obtain⟨d,hd⟩:∃d,m=c+1+d:=⟨m - (c+1),by omega⟩
    rw[show m - (c+1)=d by omega]at h3
    rw[show m - c=d+1 by omega,show a+((d+1:Nat):Int)*st=a+st+(d:Int)*st by rw[Int.natCast_add,Int.add_mul];simp;omega]
    exact h3
  ·rw[if_neg hc]
   refine⟨Nat.le_refl _,h1,fun j hj=>by omega,fun h=>?_⟩
   rw[Nat.sub_self]
   simp only[Int.natCast_zero,Int.zero_mul,Int.add_zero]
   cases hf:f a with
   |false=>rfl
   |true=>exact absurd ⟨h,hf⟩ hc
def zCI(f:Int→Bool)(r:Nat)(slot:Int):Bool:=decide (cntF f r (-1) (r+1) (slot - 1) (cntF f r 1 (r+1) (slot+1) 1)≤r)
def Win(f:Int→Bool)(r:Nat)(i:Int):Prop:=∀j:Nat,j≤r→f (i+j)=true
theorem rest_iff(f:Int→Bool){r:Nat}:(∀slot,f slot=true→zCI f r slot=true)↔ ∀i, ¬ Win f r i:=by
 constructor
 ·intro h i hw
  have h0:=h i (by have:=hw 0 (Nat.zero_le _);simpa using this)
  unfold zCI at h0
  have h0:=of_decide_eq_true h0
  obtain⟨a1,a2,_,a4⟩:=zBL f r 1 (r+1) (i+1) 1 (by omega) (by omega)
  obtain⟨c,hc⟩:∃c,c=cntF f r 1 (r+1) (i+1) 1:=⟨_,rfl⟩
  rw[←hc]at h0 a1 a2 a4
  have hcr:c=r+1:=by
   by_cases hle:c≤r
   ·have h1:=a4 hle
    have h2:=hw c hle
    rw[show i+1+((c - 1:Nat):Int)*1=i+c by omega]at h1
    rw[h1]at h2;cases h2
   ·omega
  obtain⟨b1,_⟩:=zBL f r (-1) (r+1) (i - 1) c a2 (by omega)
  omega
 ·intro h slot hs
  obtain⟨a1,a2,a3,_⟩:=zBL f r 1 (r+1) (slot+1) 1 (by omega) (by omega)
  obtain⟨c,hc⟩:∃c,c=cntF f r 1 (r+1) (slot+1) 1:=⟨_,rfl⟩
  rw[←hc]at a1 a2 a3
  obtain⟨b1,b2,b3,_⟩:=zBL f r (-1) (r+1) (slot - 1) c a2 (by omega)
  unfold zCI
  rw[←hc]
  refine kF ?_
  obtain⟨e,he⟩:∃e,e=cntF f r (-1) (r+1) (slot - 1) c:=⟨_,rfl⟩
  rw[←he]at b1 b2 b3 ⊢
  by_cases hle:e≤r
  ·exact hle
  ·exfalso
   refine h (slot - ((e - c:Nat):Int)) fun j hj=>?_
   by_cases j1:j<e - c
   ·have:=b3 (e - c - 1 - j) (by omega)
    rw[show slot - 1+((e - c - 1 - j:Nat):Int)* -1=slot - ((e - c:Nat):Int)+j by omega]at this
    exact this
   ·by_cases j2:j=e - c
    ·subst j2;rw[show slot - ((e - c:Nat):Int)+((e - c:Nat):Int)=slot by omega];exact hs
    ·have:=a3 (j - (e - c) - 1) (by omega)
     rw[show slot+1+((j - (e - c) - 1:Nat):Int)*1=slot - ((e - c:Nat):Int)+j by omega]at this
     exact this
def pl(p:List Int)(i:Int):Int:=(p[(i % (p.length:Int)).toNat]?).getD (-1)
def hit(p:List Int)(who:Int)(i:Int):Bool:=decide (pl p i=who)
theorem pl_add(p:List Int)(i k:Int):pl p (i+p.length*k)=pl p i:=by
 unfold pl
 rw[Int.add_mul_emod_self_left]
theorem pl_mod(p:List Int)(i:Int):pl p (i % (p.length:Int))=pl p i:=by
 unfold pl
 rw[Int.emod_emod_of_dvd _ (Int.dvd_refl _)]
def NoWin(p:List Int)(r:Nat):Prop:=∀who,0≤who→∀i, ¬ Win (hit p who) r i
end
section
def memP(P:Nat→Bool):Nat→List Int
 |0=>[]
 |n+1=>memP P n++if P n=true then [(n:Int)]else []
theorem zBc(P:Nat→Bool)(n:Nat):memP P (n+1)=memP P n++if P n=true then [(n:Int)]else []:=rfl
theorem zBF(P:Nat→Bool)(n:Nat):(memP P n).length≤n:=by
 induction n with
 |zero=>exact Nat.le_refl _
 |succ n ih=>unfold memP;rw[List.length_append];split<;>simp<;>omega
def at'(l:List Int)(i:Nat):Int:=(l[i]?).getD (-1)
structure Ln where
 slots:List Int
 left:Int
 right:Int
 run:Int
def bitI(s t:Int):Bool:=decide (s.fdiv (2 ^ t.toNat) % 2=1)
def zCx(l:Ln)(who:Int):Int:=if who=0 then l.left else l.right
def tokB(l:Ln)(p t:Int):Bool:=(decide (p= -1)&&decide (t= -1))||((decide (p=0)||decide (p=1))&&(decide (t≠ -1)&&bitI (zCx l p) t))
noncomputable def divB(l:Ln)(p:List Int):Bool:=@decide (p.length=l.slots.length∧(∀i,i<l.slots.length→tokB l (at' p i) (at' l.slots i)=true)∧NoWin p l.run.toNat) (Classical.propDecidable _)
theorem zBS{l:Ln}{p:List Int}:divB l p=true↔p.length=l.slots.length∧(∀i,i<l.slots.length→tokB l (at' p i) (at' l.slots i)=true)∧NoWin p l.run.toNat:=by
 unfold divB
 exact @decide_eq_true_iff _ (Classical.propDecidable _)
def prtL(p:List Int)(who:Int):List Int:=memP (fun i=>decide (at' p i=who)) p.length
theorem at_ext{p q:List Int}(h:p.length=q.length)(h2:∀i,i<p.length→at' p i=at' q i):p=q:=by
 apply List.ext_getElem h
 intro i h1 h3
 have:=h2 i h1
 unfold at' at this
 rw[List.getElem?_eq_getElem h1,List.getElem?_eq_getElem h3]at this
 exact this
theorem wn{l:Ln}{p t:Int}(h:tokB l p t=true):(p= -1∧t= -1)∨((p=0∨p=1)∧t≠ -1):=by
 unfold tokB at h
 simp only[Bool.or_eq_true,Bool.and_eq_true,decide_eq_true_eq]at h
 rcases h with h|⟨h1,h2,_⟩
 ·exact .inl h
 ·exact .inr ⟨h1,h2⟩
end
section
variable {is:FuncId→Bool}{orc:Known}
theorem wA{k:Nat}{a:U}(h:Dat k a):∀v∈[a],Dat k v:=fun v hv=>by
 simp only[List.mem_cons,List.not_mem_nil,or_false]at hv
 subst hv;exact h
theorem yq{k:Nat}{a b:U}(h:Dat k a)(h2:Dat k b):∀v∈[a,b],Dat k v:=fun v hv=>by
 simp only[List.mem_cons,List.not_mem_nil,or_false]at hv
 rcases hv with rfl|rfl<;>assumption
theorem dat_l3{k:Nat}{a b c:U}(h:Dat k a)(h2:Dat k b)(h3:Dat k c):∀v∈[a,b,c],Dat k v:=fun v hv=>by
 simp only[List.mem_cons,List.not_mem_nil,or_false]at hv
 rcases hv with rfl|rfl|rfl<;>assumption
theorem dat_l4{k:Nat}{a b c d:U}(h:Dat k a)(h2:Dat k b)(h3:Dat k c)(h4:Dat k d):∀v∈[a,b,c,d],Dat k v:=fun v hv=>by
 simp only[List.mem_cons,List.not_mem_nil,or_false]at hv
 rcases hv with rfl|rfl|rfl|rfl<;>assumption
abbrev spanU(a b:Int):U:=.agg [.int .i64 a,.int .i64 b]
theorem dat_span(a b:Int)(k:Nat):Dat (k+2) (spanU a b):=.agg _ _ (yq (.int _ _ _) (.int _ _ _))
abbrev zE(l:List Int):List U:=l.map fun n=>.int .i64 n
theorem take_all{α:Type}(f:α→Bool){l:List α}{i:Nat}{x:α}(h:l[i]? =some x):(l.take (i+1)).all f=((l.take i).all f&&f x):=by
 rw[List.take_add_one,h,List.all_append];simp
theorem zAF{l m:List SB}{i:Nat}{x:SB}(h:l[i]? =some x):(l++m)[i]? =some x:=by
 rw[List.getElem?_append_left (List.getElem?_eq_some_iff.1 h).1,h]
theorem zAJ(l:List SB)(x y:SB):(l++[x]).set l.length y=l++[y]:=by
 rw[List.set_append_right _ _ (Nat.le_refl _),Nat.sub_self];rfl
theorem drop_at{α:Type}{l:List α}{n:Nat}{x:α}(h:l[n]? =some x):l.drop n=x::l.drop (n+1):=by
 obtain⟨h1,h2⟩:=List.getElem?_eq_some_iff.1 h
 rw[←h2];exact List.drop_eq_getElem_cons h1
abbrev Off(is:FuncId→Bool):Prop:=∀f,f≠26→is f=false
noncomputable def b51:Code:=(Tryd.f51.body).getD .skip
theorem body51:bodyOf Tryd.prog 51=some (15,b51,[.tmp 6]):=by kernel_rfl
theorem pure51:pureFn Tryd.prog 51=true:=by kernel_rfl
theorem fld99_0:zp Tryd.prog 99 0=some (0,3):=by kernel_rfl
theorem fld99_1:zp Tryd.prog 99 1=some (1,3):=by kernel_rfl
theorem sh3:shOf Tryd.prog 3=.one:=by kernel_rfl
noncomputable def b77:Code:=(Tryd.f77.body).getD .skip
theorem body77:bodyOf Tryd.prog 77=some (15,b77,[.tmp 4]):=by kernel_rfl
theorem pure77:pureFn Tryd.prog 77=true:=by kernel_rfl
theorem cl3:Program.cellsOf Tryd.prog 3=1:=by kernel_rfl
theorem ty22:tyOf Tryd.prog 22=.slice 3:=by kernel_rfl
noncomputable def b50:Code:=(Tryd.f50.body).getD .skip
theorem body50:bodyOf Tryd.prog 50=some (10,b50,[.tmp 4]):=by kernel_rfl
theorem pure50:pureFn Tryd.prog 50=true:=by kernel_rfl
noncomputable def b23:Code:=(Tryd.f23.body).getD .skip
theorem body23:bodyOf Tryd.prog 23=some (31,b23,[.tmp 4]):=by kernel_rfl
theorem pure23:pureFn Tryd.prog 23=true:=by kernel_rfl
def inS(a b n:Int):Bool:=decide (a≤n)&&decide (n≤b)
theorem wg{a b n:Int}:inS a b n=true↔a≤n∧n≤b:=by
 unfold inS
 rw[Bool.and_eq_true,decide_eq_true_eq,decide_eq_true_eq]
theorem ret51(hi:Off is)(n a b:Int):RetP Tryd.prog is orc 51 [.int .i64 n,.int .i64 a,.int .i64 b] (.bool (inS a b n)):=by
 refine zw body51 pure51 (hi 51 (by decide)) rfl rfl (dat_l3 (.int _ _ _) (.int _ _ _) (.int _ _ _)) (.inl (.bool _ _)) ?_
 unfold inS
 by_cases h:a≤n
 ·rw[kF h,Bool.true_and]
  refine kQ (zA rfl (zB (kQ (zC rfl (zC rfl (kq rfl (zC rfl (kh rfl (kF (by omega)) ?_))))))))
  refine zC rfl (kh rfl (kF (by omega)) ?_)
  refine zC rfl (kh rfl (kF (by omega)) ?_)
  refine kq rfl (wq rfl rfl (kF (by omega)) ?_)
  refine zA rfl (zB (zV ?_))
  refine⟨.inr rfl,_,.cons _ _ _ _ (.tmp 6) .nil,?_⟩
  exact .refl _
 ·rw[kG h,Bool.false_and]
  refine kQ (zA rfl (zB (kQ (zC rfl (zC rfl (kq rfl (zC rfl (kg rfl (kG (by omega)) ?_))))))))
  refine kg rfl (kG (by omega)) ?_
  refine kg rfl (kG (by omega)) ?_
  refine zAO rfl rfl (kG (by omega)) ?_
  refine zA rfl (zB (zV ?_))
  refine⟨.inr rfl,_,.cons _ _ _ _ (.tmp 6) .nil,?_⟩
  exact .refl _
theorem ret77(hi:Off is)(a b n:Int):RetP Tryd.prog is orc 77 [spanU a b,.int .i64 n] (.bool (inS a b n)):=by
 refine zw body77 pure77 (hi 77 (by decide)) rfl rfl (yq (dat_span a b 6) (.int _ _ _)) (.inl (.bool _ _)) ?_
 unfold inS
 by_cases h:a≤n
 ·rw[kF h,Bool.true_and]
  refine kQ (zk rfl rfl (zA rfl (zB ?_)))
  refine zH [(1,.int .i64 n),(2,U.box 0 0)] ([SB.box [.int .i64 a,.int .i64 b]]) (.n2 rfl) rfl fun fr=>?_
  refine kQ (kw rfl fld99_0 (kA sh3 rfl (zC rfl (kq rfl (zC rfl (kh rfl (kF (by omega)) ?_))))))
  refine zC rfl (kh rfl (kF (by omega)) ?_)
  refine kw rfl fld99_1 (kh rfl (kF (by omega)) ?_)
  refine kA sh3 rfl (kh rfl (kF (by omega)) ?_)
  refine kq rfl (wq rfl rfl (kF (by omega)) ?_)
  refine zA rfl (zB (zV ?_))
  refine⟨.inr rfl,_,.cons _ _ _ _ (.tmp 4) .nil,?_⟩
  exact .refl _
 ·rw[kG h,Bool.false_and]
  refine kQ (zk rfl rfl (zA rfl (zB ?_)))
  refine zH [(1,.int .i64 n),(2,U.box 0 0)] ([SB.box [.int .i64 a,.int .i64 b]]) (.n2 rfl) rfl fun fr=>?_
  refine kQ (kw rfl fld99_0 (kA sh3 rfl (zC rfl (kq rfl (zC rfl (kg rfl (kG (by omega)) ?_))))))
  refine kg rfl (kG (by omega)) ?_
  refine kg rfl (kG (by omega)) ?_
  refine kg rfl (kG (by omega)) ?_
  refine zAO rfl rfl (kG (by omega)) ?_
  refine zA rfl (zB (zV ?_))
  refine⟨.inr rfl,_,.cons _ _ _ _ (.tmp 4) .nil,?_⟩
  exact .refl _
def accI(l:List Int):U:=match l with
 |[]=>.lst .full 0 []
 |l=>.lst .own 1 (zE l)
theorem zAg(x:Int)(l:List Int):accI (l++[x])=.lst .own 1 (zE l++[.int .i64 x]):=by
 cases l with
 |nil=>rfl
 |cons y l=>show U.lst .own 1 (zE ((y::l)++[x]))=_;simp[zE]
theorem tmod_neg{n b:Int}(hb0:0<b)(hn:n.tmod b<0):n % b=n.tmod b+b:=by
 rw[Int.emod_eq_tmod]
 have h0: ¬ (0≤n):=fun h0=>by have:=Int.tmod_nonneg b h0;omega
 have h3: ¬ (b ∣ n):=fun h3=>by have:=(Int.dvd_iff_tmod_eq_zero).1 h3;omega
 simp[h0,h3];omega
theorem tmod_pos{n b:Int}(hb0:0<b)(hn: ¬ n.tmod b<0):n % b=n.tmod b:=by
 rw[Int.emod_eq_tmod]
 by_cases h0:0≤n
 ·simp[h0]
 ·have h3:n.tmod b=0:=by
   have:=Int.tmod_nonneg b (show 0≤ -n by omega)
   rw[Int.neg_tmod]at this
   omega
  have:b ∣ n:=(Int.dvd_iff_tmod_eq_zero).2 h3
  simp[h0,this]
theorem fdiv_b{n:Int}(k:Nat)(h:0≤n∧n≤1000000):0≤n.fdiv (2 ^ k)∧n.fdiv (2 ^ k)≤9223372036854775807:=by
 rw[Int.fdiv_eq_ediv_of_nonneg _ (Int.le_of_lt (Int.pow_pos (by decide)))]
 have h1:n / 2 ^ k≤n:=Int.ediv_le_self _ h.1
 exact⟨Int.ediv_nonneg h.1 (Int.le_of_lt (Int.pow_pos (by decide))),by omega⟩
theorem ret50(hi:Off is){s t:Int}(hs:0≤s∧s≤1000000)(ht:0≤t∧t≤60):RetP Tryd.prog is orc 50 [.int .i64 s,.int .i64 t] (.bool (bitI s t)):=by
 have hfd:=fdiv_b t.toNat hs
 refine zw body50 pure50 (hi 50 (by decide)) rfl rfl (yq (.int _ _ _) (.int _ _ _)) (.inl (.bool _ _)) ?_
 unfold bitI
 refine kQ (zA rfl (zB (kQ (zC rfl (zC rfl (o_shr rfl rfl rfl (by omega) ?_))))))
 refine o_andOne rfl rfl rfl hfd ?_
 refine ks rfl (zA rfl (zB (zV ?_)))
 refine⟨.inr rfl,_,.cons _ _ _ _ (.tmp 4) .nil,?_⟩
 exact .refl _
end
end Go.Proofs.YthhbfbmfhldbaaaDoor.locks
