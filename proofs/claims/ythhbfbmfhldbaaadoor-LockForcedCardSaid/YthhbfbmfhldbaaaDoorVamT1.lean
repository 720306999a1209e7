import Derived.Test.YthhbfbmfhldbaaaDoorVamR
import Derived.Test.YthhbfbmfhldbaaaDoorProg
import Derived.KernelRfl
set_option linter.unusedVariables false
set_option linter.unusedSimpArgs false
set_option linter.constructorNameAsVariable false
theorem Vam.Holds.c4{s:Vam.St}{a b c d:Nat}{x y z w:Vam.U}{l:List (Nat×Vam.U)}(h1:s.fr a=x)(h2:s.fr b=y)(h3:s.fr c=z)(h4:s.fr d=w)(h:Vam.Holds s l):Vam.Holds s ((a,x)::(b,y)::(c,z)::(d,w)::l):=.cons h1 (.cons h2 (.cons h3 (.cons h4 h)))
theorem Vam.kQ{P:Go.Program}{is:Go.FuncId→Bool}{orc:Vam.Known}{s:Vam.St}{i:Nat}{ops:Array Go.Oper}{b:Go.Code}{Q:Vam.Ex→Vam.St→Prop}(h:Vam.WpO P is orc ops.toList ops.toList s fun s'=>Vam.Wp P is orc b {s' with al:=[]} Q):Vam.Wp P is orc (.seq (.region i ops false) b) s Q:=Vam.k_seq (Vam.k_region h)
namespace Vam
section
open Go
variable {P:Program}{is:FuncId→Bool}{orc:Known}{all l:List Oper}{m:List (Oper×M0)}{m0:M0}{dst:Option Nat}{o:Op}{t t' xt yt:TypeId}{p:String}{a e:Array Edge}{g d n off:Nat}{want c:Bool}{og:Oper}{j ad:Nat}{s:St}{x y:Operand}{Q:St→Prop}{k:IntKind}{ai bi:Int}{cs:List U}{u:U}{f:String}
theorem ke(h:(wW 1024 dst,nthO all g,og.dst,s.slot j,c)=(true,some og,some j,U.bool c, !want))(q:WpO P is orc all l (s.dst dst (.tup [])) Q):WpO P is orc all (⟨dst,o,t,p,a,some (g,want)⟩::l) s Q:=o_gS (congrArg (fun v=>v.1) h) (congrArg (fun v=>v.2.1) h) (congrArg (fun v=>v.2.2.1) h) (congrArg (fun v=>v.2.2.2.1) h) (congrArg (fun v=>v.2.2.2.2) h) q
theorem kf(h:(wW 1024 dst,nthO all g,og.dst,s.slot j,c)=(true,some og,some j,U.bool c,want))(q:WpO P is orc all (⟨dst,o,t,p,a,none⟩::l) s Q):WpO P is orc all (⟨dst,o,t,p,a,some (g,want)⟩::l) s Q:=o_gD (congrArg (fun v=>v.1) h) (congrArg (fun v=>v.2.1) h) (congrArg (fun v=>v.2.2.1) h) (congrArg (fun v=>v.2.2.2.1) h) (congrArg (fun v=>v.2.2.2.2) h) q
theorem kg(h:(wW 1024 dst,nthO all g,og.dst,s.slot j)=(true,some og,some j,U.bool c))(ee:c= !want)(q:WpO P is orc all l (s.dst dst (.tup [])) Q):WpO P is orc all (⟨dst,o,t,p,a,some (g,want)⟩::l) s Q:=o_gS (congrArg (fun v=>v.1) h) (congrArg (fun v=>v.2.1) h) (congrArg (fun v=>v.2.2.1) h) (congrArg (fun v=>v.2.2.2) h) ee q
theorem kh(h:(wW 1024 dst,nthO all g,og.dst,s.slot j)=(true,some og,some j,U.bool c))(ee:c=want)(q:WpO P is orc all (⟨dst,o,t,p,a,none⟩::l) s Q):WpO P is orc all (⟨dst,o,t,p,a,some (g,want)⟩::l) s Q:=o_gD (congrArg (fun v=>v.1) h) (congrArg (fun v=>v.2.1) h) (congrArg (fun v=>v.2.2.1) h) (congrArg (fun v=>v.2.2.2) h) ee q
theorem kj(h:(wW 1024 dst,nthO all g,og.dst,s.slot j,c)=(true,some og,some j,U.bool c, !want))(q:WpD P is orc all m (s.dst dst (.tup [])) Q):WpD P is orc all ((⟨dst,o,t,p,a,some (g,want)⟩,m0)::m) s Q:=d_gS (congrArg (fun v=>v.1) h) (congrArg (fun v=>v.2.1) h) (congrArg (fun v=>v.2.2.1) h) (congrArg (fun v=>v.2.2.2.1) h) (congrArg (fun v=>v.2.2.2.2) h) q
theorem kl(h:(wW 1024 dst,nthO all g,og.dst,s.slot j,c)=(true,some og,some j,U.bool c,want))(q:WpD P is orc all ((⟨dst,o,t,p,a,none⟩,m0)::m) s Q):WpD P is orc all ((⟨dst,o,t,p,a,some (g,want)⟩,m0)::m) s Q:=d_gD (congrArg (fun v=>v.1) h) (congrArg (fun v=>v.2.1) h) (congrArg (fun v=>v.2.2.1) h) (congrArg (fun v=>v.2.2.2.1) h) (congrArg (fun v=>v.2.2.2.2) h) q
theorem km(h:(wW 1024 dst,nthO all g,og.dst,s.slot j)=(true,some og,some j,U.bool c))(ee:c= !want)(q:WpD P is orc all m (s.dst dst (.tup [])) Q):WpD P is orc all ((⟨dst,o,t,p,a,some (g,want)⟩,m0)::m) s Q:=d_gS (congrArg (fun v=>v.1) h) (congrArg (fun v=>v.2.1) h) (congrArg (fun v=>v.2.2.1) h) (congrArg (fun v=>v.2.2.2) h) ee q
theorem kp(h:(wW 1024 dst,nthO all g,og.dst,s.slot j)=(true,some og,some j,U.bool c))(ee:c=want)(q:WpD P is orc all ((⟨dst,o,t,p,a,none⟩,m0)::m) s Q):WpD P is orc all ((⟨dst,o,t,p,a,some (g,want)⟩,m0)::m) s Q:=d_gD (congrArg (fun v=>v.1) h) (congrArg (fun v=>v.2.1) h) (congrArg (fun v=>v.2.2.1) h) (congrArg (fun v=>v.2.2.2) h) ee q
theorem kq(h:(Nat.blt d 1024,zO s x,zO s y)=(true,U.int k ai,U.int k bi))(q:WpO P is orc all l (s.put d (.bool (decide (ai<bi)))) Q):WpO P is orc all (⟨some d,.binOp .lss xt x y yt,t,p,e,none⟩::l) s Q:=o_lss (congrArg (fun v=>v.1) h) (congrArg (fun v=>v.2.1) h) (congrArg (fun v=>v.2.2) h) q
theorem kr(h:(Nat.blt d 1024,zO s x,zO s y)=(true,U.int k ai,U.int k bi))(q:WpO P is orc all l (s.put d (.bool (decide (ai≤bi)))) Q):WpO P is orc all (⟨some d,.binOp .leq xt x y yt,t,p,e,none⟩::l) s Q:=o_leq (congrArg (fun v=>v.1) h) (congrArg (fun v=>v.2.1) h) (congrArg (fun v=>v.2.2) h) q
theorem ks(h:(Nat.blt d 1024,zO s x,zO s y)=(true,U.int k ai,U.int k bi))(q:WpO P is orc all l (s.put d (.bool (decide (ai≠bi)))) Q):WpO P is orc all (⟨some d,.binOp .neq xt x y yt,t,p,e,none⟩::l) s Q:=o_neq (congrArg (fun v=>v.1) h) (congrArg (fun v=>v.2.1) h) (congrArg (fun v=>v.2.2) h) q
theorem ku(h:(Nat.blt d 1024,zO s x,zO s y)=(true,U.int k ai,U.int k bi))(q:WpO P is orc all l (s.put d (.bool (decide (ai=bi)))) Q):WpO P is orc all (⟨some d,.binOp .eql xt x y yt,t,p,e,none⟩::l) s Q:=o_eql (congrArg (fun v=>v.1) h) (congrArg (fun v=>v.2.1) h) (congrArg (fun v=>v.2.2) h) q
theorem kw(h:(Nat.blt d 1024,zO s x,cs[n]?)=(true,U.tup cs,some u))(q:WpO P is orc all l (s.put d (dg u)) Q):WpO P is orc all (⟨some d,.extract x n,t,p,e,none⟩::l) s Q:=o_extract (congrArg (fun v=>v.1) h) (congrArg (fun v=>v.2.1) h) (congrArg (fun v=>v.2.2) h) q
theorem kz(h:(Nat.blt d 1024,zO s x)=(true,U.box ad off)){f:_}{fo ft:_}(hf:zu P xt f=some (fo,ft))(q:WpO P is orc all l (s.put d (.box ad (off+fo))) Q):WpO P is orc all (⟨some d,.fieldAddr xt x f,t,p,e,none⟩::l) s Q:=o_faddr (congrArg (fun v=>v.1) h) (congrArg (fun v=>v.2) h) hf q
theorem kA(h:(Nat.blt d 1024,zO s x,zO s y)=(true,U.int .i64 ai,U.int .i64 bi))(hr:I64 (ai+bi))(q:WpO P is orc all l (s.put d (.int .i64 (ai+bi))) Q):WpO P is orc all (⟨some d,.binOp .add xt x y yt,t,p,e,none⟩::l) s Q:=o_add (congrArg (fun v=>v.1) h) (congrArg (fun v=>v.2.1) h) (congrArg (fun v=>v.2.2) h) hr q
theorem kB(hs:shOf P t'=.one)(h:(Nat.blt d 1024,zO s x,s.st[ad]?,cs[off]?)=(true,U.box ad off,some (SB.box cs),some u))(q:WpO P is orc all l (s.ld d ad off u) Q):WpO P is orc all (⟨some d,.load t' x,t,p,e,none⟩::l) s Q:=zt (congrArg (fun v=>v.1) h) (congrArg (fun v=>v.2.1) h) (congrArg (fun v=>v.2.2.1) h) hs (congrArg (fun v=>v.2.2.2) h) q
theorem kC(hs:shOf P t'=.many n)(h:(Nat.blt d 1024,zO s x,s.st[ad]?,Nat.ble (off+n) cs.length)=(true,U.box ad off,some (SB.box cs),true))(q:WpO P is orc all l (s.put d (.agg ((cs.drop off).take n))) Q):WpO P is orc all (⟨some d,.load t' x,t,p,e,none⟩::l) s Q:=zDx (congrArg (fun v=>v.1) h) (congrArg (fun v=>v.2.1) h) (congrArg (fun v=>v.2.2.1) h) hs (congrArg (fun v=>v.2.2.2) h) q
theorem kD(hs:shOf P t'=.one)(h:(Nat.blt d 1024,zO s x,cs[off]?)=(true,U.eref cs off,some u))(q:WpO P is orc all l (s.put d (dg u)) Q):WpO P is orc all (⟨some d,.load t' x,t,p,e,none⟩::l) s Q:=o_loadR1 (congrArg (fun v=>v.1) h) (congrArg (fun v=>v.2.1) h) hs (congrArg (fun v=>v.2.2) h) q
theorem kE{z:Operand}(h:(Nat.blt d 1024,zO s z,c)=(true,U.bool c,false))(q:WpO P is orc all l (s.put d (dg (zO s y))) Q):WpO P is orc all (⟨some d,.pick z x y,t,p,e,none⟩::l) s Q:=yc (congrArg (fun v=>v.1) h) (congrArg (fun v=>v.2.1) h) (congrArg (fun v=>v.2.2) h) q
theorem kF{z:Operand}(h:(Nat.blt d 1024,zO s z,c)=(true,U.bool c,true))(q:WpO P is orc all l (s.put d (dg (zO s x))) Q):WpO P is orc all (⟨some d,.pick z x y,t,p,e,none⟩::l) s Q:=zo (congrArg (fun v=>v.1) h) (congrArg (fun v=>v.2.1) h) (congrArg (fun v=>v.2.2) h) q
theorem kG{b:Prop}[Decidable b](h:b):decide b=true:=decide_eq_true h
theorem kH{b:Prop}[Decidable b](h: ¬ b):decide b=false:=decide_eq_false h
theorem Holds.n1{a0:Nat}{x0:U}(h:(s.fr a0,s.al)=(x0,[])):Holds s [(a0,x0)]:=.cons (congrArg (fun v=>v.1) h) (.nil (congrArg (fun v=>v.2) h))
theorem Holds.n2{a0 a1:Nat}{x0 x1:U}(h:(s.fr a0,s.fr a1,s.al)=(x0,x1,[])):Holds s [(a0,x0),(a1,x1)]:=.cons (congrArg (fun v=>v.1) h) (.cons (congrArg (fun v=>v.2.1) h) (.nil (congrArg (fun v=>v.2.2) h)))
theorem Holds.n3{a0 a1 a2:Nat}{x0 x1 x2:U}(h:(s.fr a0,s.fr a1,s.fr a2,s.al)=(x0,x1,x2,[])):Holds s [(a0,x0),(a1,x1),(a2,x2)]:=.cons (congrArg (fun v=>v.1) h) (.cons (congrArg (fun v=>v.2.1) h) (.cons (congrArg (fun v=>v.2.2.1) h) (.nil (congrArg (fun v=>v.2.2.2) h))))
theorem Holds.n4{a0 a1 a2 a3:Nat}{x0 x1 x2 x3:U}(h:(s.fr a0,s.fr a1,s.fr a2,s.fr a3,s.al)=(x0,x1,x2,x3,[])):Holds s [(a0,x0),(a1,x1),(a2,x2),(a3,x3)]:=.cons (congrArg (fun v=>v.1) h) (.cons (congrArg (fun v=>v.2.1) h) (.cons (congrArg (fun v=>v.2.2.1) h) (.cons (congrArg (fun v=>v.2.2.2.1) h) (.nil (congrArg (fun v=>v.2.2.2.2) h)))))
theorem Holds.n5{a0 a1 a2 a3 a4:Nat}{x0 x1 x2 x3 x4:U}(h:(s.fr a0,s.fr a1,s.fr a2,s.fr a3,s.fr a4,s.al)=(x0,x1,x2,x3,x4,[])):Holds s [(a0,x0),(a1,x1),(a2,x2),(a3,x3),(a4,x4)]:=.cons (congrArg (fun v=>v.1) h) (.cons (congrArg (fun v=>v.2.1) h) (.cons (congrArg (fun v=>v.2.2.1) h) (.cons (congrArg (fun v=>v.2.2.2.1) h) (.cons (congrArg (fun v=>v.2.2.2.2.1) h) (.nil (congrArg (fun v=>v.2.2.2.2.2) h))))))
theorem Holds.n6{a0 a1 a2 a3 a4 a5:Nat}{x0 x1 x2 x3 x4 x5:U}(h:(s.fr a0,s.fr a1,s.fr a2,s.fr a3,s.fr a4,s.fr a5,s.al)=(x0,x1,x2,x3,x4,x5,[])):Holds s [(a0,x0),(a1,x1),(a2,x2),(a3,x3),(a4,x4),(a5,x5)]:=.cons (congrArg (fun v=>v.1) h) (.cons (congrArg (fun v=>v.2.1) h) (.cons (congrArg (fun v=>v.2.2.1) h) (.cons (congrArg (fun v=>v.2.2.2.1) h) (.cons (congrArg (fun v=>v.2.2.2.2.1) h) (.cons (congrArg (fun v=>v.2.2.2.2.2.1) h) (.nil (congrArg (fun v=>v.2.2.2.2.2.2) h)))))))
theorem Holds.n7{a0 a1 a2 a3 a4 a5 a6:Nat}{x0 x1 x2 x3 x4 x5 x6:U}(h:(s.fr a0,s.fr a1,s.fr a2,s.fr a3,s.fr a4,s.fr a5,s.fr a6,s.al)=(x0,x1,x2,x3,x4,x5,x6,[])):Holds s [(a0,x0),(a1,x1),(a2,x2),(a3,x3),(a4,x4),(a5,x5),(a6,x6)]:=.cons (congrArg (fun v=>v.1) h) (.cons (congrArg (fun v=>v.2.1) h) (.cons (congrArg (fun v=>v.2.2.1) h) (.cons (congrArg (fun v=>v.2.2.2.1) h) (.cons (congrArg (fun v=>v.2.2.2.2.1) h) (.cons (congrArg (fun v=>v.2.2.2.2.2.1) h) (.cons (congrArg (fun v=>v.2.2.2.2.2.2.1) h) (.nil (congrArg (fun v=>v.2.2.2.2.2.2.2) h))))))))
theorem Holds.n8{a0 a1 a2 a3 a4 a5 a6 a7:Nat}{x0 x1 x2 x3 x4 x5 x6 x7:U}(h:(s.fr a0,s.fr a1,s.fr a2,s.fr a3,s.fr a4,s.fr a5,s.fr a6,s.fr a7,s.al)=(x0,x1,x2,x3,x4,x5,x6,x7,[])):Holds s [(a0,x0),(a1,x1),(a2,x2),(a3,x3),(a4,x4),(a5,x5),(a6,x6),(a7,x7)]:=.cons (congrArg (fun v=>v.1) h) (.cons (congrArg (fun v=>v.2.1) h) (.cons (congrArg (fun v=>v.2.2.1) h) (.cons (congrArg (fun v=>v.2.2.2.1) h) (.cons (congrArg (fun v=>v.2.2.2.2.1) h) (.cons (congrArg (fun v=>v.2.2.2.2.2.1) h) (.cons (congrArg (fun v=>v.2.2.2.2.2.2.1) h) (.cons (congrArg (fun v=>v.2.2.2.2.2.2.2.1) h) (.nil (congrArg (fun v=>v.2.2.2.2.2.2.2.2) h)))))))))
theorem Holds.n9{a0 a1 a2 a3 a4 a5 a6 a7 a8:Nat}{x0 x1 x2 x3 x4 x5 x6 x7 x8:U}(h:(s.fr a0,s.fr a1,s.fr a2,s.fr a3,s.fr a4,s.fr a5,s.fr a6,s.fr a7,s.fr a8,s.al)=(x0,x1,x2,x3,x4,x5,x6,x7,x8,[])):Holds s [(a0,x0),(a1,x1),(a2,x2),(a3,x3),(a4,x4),(a5,x5),(a6,x6),(a7,x7),(a8,x8)]:=.cons (congrArg (fun v=>v.1) h) (.cons (congrArg (fun v=>v.2.1) h) (.cons (congrArg (fun v=>v.2.2.1) h) (.cons (congrArg (fun v=>v.2.2.2.1) h) (.cons (congrArg (fun v=>v.2.2.2.2.1) h) (.cons (congrArg (fun v=>v.2.2.2.2.2.1) h) (.cons (congrArg (fun v=>v.2.2.2.2.2.2.1) h) (.cons (congrArg (fun v=>v.2.2.2.2.2.2.2.1) h) (.cons (congrArg (fun v=>v.2.2.2.2.2.2.2.2.1) h) (.nil (congrArg (fun v=>v.2.2.2.2.2.2.2.2.2) h))))))))))
theorem Holds.n10{a0 a1 a2 a3 a4 a5 a6 a7 a8 a9:Nat}{x0 x1 x2 x3 x4 x5 x6 x7 x8 x9:U}(h:(s.fr a0,s.fr a1,s.fr a2,s.fr a3,s.fr a4,s.fr a5,s.fr a6,s.fr a7,s.fr a8,s.fr a9,s.al)=(x0,x1,x2,x3,x4,x5,x6,x7,x8,x9,[])):Holds s [(a0,x0),(a1,x1),(a2,x2),(a3,x3),(a4,x4),(a5,x5),(a6,x6),(a7,x7),(a8,x8),(a9,x9)]:=.cons (congrArg (fun v=>v.1) h) (.cons (congrArg (fun v=>v.2.1) h) (.cons (congrArg (fun v=>v.2.2.1) h) (.cons (congrArg (fun v=>v.2.2.2.1) h) (.cons (congrArg (fun v=>v.2.2.2.2.1) h) (.cons (congrArg (fun v=>v.2.2.2.2.2.1) h) (.cons (congrArg (fun v=>v.2.2.2.2.2.2.1) h) (.cons (congrArg (fun v=>v.2.2.2.2.2.2.2.1) h) (.cons (congrArg (fun v=>v.2.2.2.2.2.2.2.2.1) h) (.cons (congrArg (fun v=>v.2.2.2.2.2.2.2.2.2.1) h) (.nil (congrArg (fun v=>v.2.2.2.2.2.2.2.2.2.2) h)))))))))))
end
end Vam
namespace Go.Proofs.YthhbfbmfhldbaaaDoor.locks
open Vam
section
def cntF(f:Int→Bool)(r:Nat)(st:Int):Nat→Int→Nat→Nat
 |0,_,c=>c
 |k+1,at',c=>if c≤r∧f at'=true then cntF f r st k (at'+st) (c+1)else c
theorem zFG(f:Int→Bool)(r:Nat)(st:Int):∀(k:Nat) (a:Int) (c:Nat),c≤r+1→r+1≤c+k→
  c≤cntF f r st k a c∧cntF f r st k a c≤r+1∧(∀j:Nat,c+j<cntF f r st k a c→f (a+j*st)=true)∧(cntF f r st k a c≤r→f (a+((cntF f r st k a c - c:Nat):Int)*st)=false):=by
 intro k
 induction k with
 |zero=>
  intro a c h1 h2
  have:c=r+1:=by omega
  subst this
  exact⟨Nat.le_refl _,Nat.le_refl _,fun j hj=>by unfold cntF at hj;omega,fun h=>by unfold cntF at h;omega⟩
 |succ k ih=>
  intro a c h1 h2
  unfold cntF
  by_cases hc:c≤r∧f a=true
  ·rw[if_pos hc]
   obtain⟨i1,i2,i3,i4⟩:=ih (a+st) (c+1) (by omega) (by omega)
   refine⟨by omega,i2,fun j hj=>?_,fun h=>?_⟩
   ·cases j with
    |zero=>simpa using hc.2
    |succ j=>
     have:=i3 j (by omega)
     rw[show a+((j+1:Nat):Int)*st=a+st+(j:Int)*st by rw[Int.natCast_add,Int.add_mul];simp;omega]
     exact this
   ·have h3:=i4 h
    obtain⟨m,hm⟩:∃m,m=cntF f r st k (a+st) (c+1):=⟨_,rfl⟩
    rw[←hm]at h3 h i1 ⊢
    obtain⟨d,hd⟩:∃d,m=c+1+d:=⟨m - (c+1),by omega⟩
    rw[show m - (c+1)=d by omega]at h3
    rw[show m - c=d+1 by omega,show a+((d+1:Nat):Int)*st=a+st+(d:Int)*st by rw[Int.natCast_add,Int.add_mul];simp;omega]
    exact h3
  ·rw[if_neg hc]
   refine⟨Nat.le_refl _,h1,fun j hj=>by omega,fun h=>?_⟩
   rw[Nat.sub_self]
   simp only[Int.natCast_zero,Int.zero_mul,Int.add_zero]
   cases hf:f a with
   |false=>rfl
   |true=>exact absurd ⟨h,hf⟩ hc
def zFP(f:Int→Bool)(r:Nat)(slot:Int):Bool:=decide (cntF f r (-1) (r+1) (slot - 1) (cntF f r 1 (r+1) (slot+1) 1)≤r)
def Win(f:Int→Bool)(r:Nat)(i:Int):Prop:=∀j:Nat,j≤r→f (i+j)=true
def pl(p:List Int)(i:Int):Int:=(p[(i % (p.length:Int)).toNat]?).getD (-1)
def hit(p:List Int)(who:Int)(i:Int):Bool:=decide (pl p i=who)
theorem pl_mod(p:List Int)(i:Int):pl p (i % (p.length:Int))=pl p i:=by
 unfold pl
 rw[Int.emod_emod_of_dvd _ (Int.dvd_refl _)]
def NoWin(p:List Int)(r:Nat):Prop:=∀who,0≤who→∀i, ¬ Win (hit p who) r i
def stk(p:List Int):Nat→Nat
 |0=>1
 |i+1=>if pl p ((i+1:Nat):Int)=pl p i∧0≤pl p ((i+1:Nat):Int)then stk p i+1 else 1
theorem stk_win{p:List Int}:∀(i k:Nat),0≤pl p i→(k+1≤stk p i↔k≤i∧∀j:Nat,j≤k→pl p ((i - k+j:Nat):Int)=pl p i):=by
 intro i
 induction i with
 |zero=>
  intro k h0
  constructor
  ·intro h
   have h:k+1≤1:=h
   obtain rfl:k=0:=by omega
   exact ⟨Nat.le_refl _, fun j hj => by obtain rfl : j = 0 := by omega
                                        rfl⟩
  ·rintro⟨h,_⟩
   obtain rfl:k=0:=by omega
   exact Nat.le_refl _
 |succ i ih=>
  intro k h0
  unfold stk
  by_cases hc:pl p ((i+1:Nat):Int)=pl p i∧0≤pl p ((i+1:Nat):Int)
  ·rw[if_pos hc]
   cases k with
   | zero => exact ⟨fun _ => ⟨Nat.zero_le _, fun j hj => by obtain rfl : j = 0 := by omega
                                                            rfl⟩,fun _=>by omega⟩
   |succ k=>
    have:=ih k (by rw[←hc.1];exact h0)
    rw[show k+1+1≤stk p i+1↔k+1≤stk p i by omega,this]
    constructor
    ·rintro⟨h1,h2⟩
     refine⟨by omega,fun j hj=>?_⟩
     by_cases hjk:j≤k
     ·rw[show i+1 - (k+1)+j=i - k+j by omega,h2 j hjk,hc.1]
     ·rw[show i+1 - (k+1)+j=i+1 by omega]
    ·rintro⟨h1,h2⟩
     refine⟨by omega,fun j hj=>?_⟩
     have:=h2 j (by omega)
     rw[show i+1 - (k+1)+j=i - k+j by omega]at this
     rw[this,hc.1]
  ·rw[if_neg hc]
   constructor
   ·intro h
    obtain rfl:k=0:=by omega
    exact ⟨Nat.zero_le _, fun j hj => by obtain rfl : j = 0 := by omega
                                         rfl⟩
   ·rintro⟨h1,h2⟩
    by_cases hk:k=0
    ·omega
    ·exfalso
     apply hc
     have:=h2 (k - 1) (by omega)
     rw[show i+1 - k+(k - 1)=i by omega]at this
     exact⟨this.symm,h0⟩
theorem stk_all{p:List Int}(h1:1≤p.length){r N:Nat}(hN:p.length+r≤N):(∀i,i<N→0≤pl p i→stk p i≤r)↔NoWin p r:=by
 constructor
 ·intro h who hw i hwin
  obtain⟨a,ha⟩:∃a:Nat,(a:Int)=i % (p.length:Int):=⟨(i % (p.length:Int)).toNat,by have:=Int.emod_nonneg i (show(p.length:Int)≠0 by omega);omega⟩
  have hal:a<p.length:=by have:=Int.emod_lt_of_pos i (show(0:Int)<p.length by omega);omega
  have hsame:∀j:Nat,j≤r→pl p ((a+j:Nat):Int)=who:=fun j hj=>by
   have h2:=hwin j hj
   unfold hit at h2
   have h2:=of_decide_eq_true h2
   rw[←h2,←pl_mod p (i+j),Int.add_emod,←ha,←pl_mod p ((a+j:Nat):Int)]
   congr 1
   rw[Int.natCast_add,Int.add_emod,Int.emod_eq_of_lt (a:=(a:Int)) (by omega) (by omega)]
  have hr:=hsame r (Nat.le_refl _)
  have h3:=h (a+r) (by omega) (by rw[hr];exact hw)
  have h4:=(stk_win (p:=p) (a+r) r (by rw[hr];exact hw)).2 ⟨by omega,fun j hj=>by rw[show a+r - r+j=a+j by omega,hsame j hj,hr]⟩
  omega
 ·intro h i _ h0
  by_cases hs:stk p i≤r
  ·exact hs
  ·exfalso
   obtain⟨hk,hw⟩:=(stk_win (p:=p) i r h0).1 (by omega)
   refine h (pl p i) h0 ((i - r:Nat):Int) fun j hj=>?_
   unfold hit
   rw[show(((i - r:Nat):Int)+j)=((i - r+j:Nat):Int) by omega]
   exact kG (hw j hj)
end
section
def memP(P:Nat→Bool):Nat→List Int
 |0=>[]
 |n+1=>memP P n++if P n=true then [(n:Int)]else []
theorem zFc(P:Nat→Bool)(n:Nat):memP P (n+1)=memP P n++if P n=true then [(n:Int)]else []:=rfl
theorem mem_memP{P:Nat→Bool}{n:Nat}{x:Int}:x∈memP P n↔ ∃i:Nat,i<n∧x=i∧P i=true:=by
 induction n with
 |zero=>exact⟨(fun h=>by cases h),(fun⟨i,h,_⟩=>by omega)⟩
 |succ n ih=>
  unfold memP
  rw[List.mem_append,ih]
  constructor
  ·rintro(⟨i,h,e,hp⟩|h)
   ·exact⟨i,by omega,e,hp⟩
   ·split at h
    ·rename_i hp;rcases List.mem_singleton.1 h with rfl;exact⟨n,by omega,rfl,hp⟩
    ·cases h
  ·rintro⟨i,h,e,hp⟩
   by_cases hi:i<n
   ·exact .inl ⟨i,hi,e,hp⟩
   ·have:i=n:=by omega
    subst this
    rw[if_pos hp];exact .inr (List.mem_singleton.2 e)
theorem mem_P{P:Nat→Bool}{n i:Nat}(hi:i<n):(i:Int)∈memP P n↔P i=true:=by
 rw[mem_memP]
 exact ⟨fun ⟨j, _, e, h⟩ => by have : i = j := by omega
                               subst this;exact h,fun h=>⟨i,hi,rfl,h⟩⟩
theorem zDd(P:Nat→Bool)(n:Nat):(memP P n).length≤n:=by
 induction n with
 |zero=>exact Nat.le_refl _
 |succ n ih=>unfold memP;rw[List.length_append];split<;>simp<;>omega
theorem memP_pair(P:Nat→Bool)(n:Nat):(memP P n).Pairwise (fun x y=>x<y):=by
 induction n with
 |zero=>exact List.Pairwise.nil
 |succ n ih=>
  unfold memP
  refine List.pairwise_append.2 ⟨ih,?_,fun x hx y hy=>?_⟩
  ·split
   ·exact List.pairwise_singleton _ _
   ·exact List.Pairwise.nil
  ·obtain⟨i,hi,rfl,_⟩:=mem_memP.1 hx
   split at hy
   ·rcases List.mem_singleton.1 hy with rfl;omega
   ·cases hy
def at'(l:List Int)(i:Nat):Int:=(l[i]?).getD (-1)
structure Ln where
 slots:List Int
 left:Int
 right:Int
 run:Int
def bitI(s t:Int):Bool:=decide (s.fdiv (2 ^ t.toNat) % 2=1)
def zDV(l:Ln)(who:Int):Int:=if who=0 then l.left else l.right
def tokB(l:Ln)(p t:Int):Bool:=(decide (p= -1)&&decide (t= -1))||((decide (p=0)||decide (p=1))&&(decide (t≠ -1)&&bitI (zDV l p) t))
noncomputable def divB(l:Ln)(p:List Int):Bool:=@decide (p.length=l.slots.length∧(∀i,i<l.slots.length→tokB l (at' p i) (at' l.slots i)=true)∧NoWin p l.run.toNat) (Classical.propDecidable _)
theorem zBo{l:Ln}{p:List Int}:divB l p=true↔p.length=l.slots.length∧(∀i,i<l.slots.length→tokB l (at' p i) (at' l.slots i)=true)∧NoWin p l.run.toNat:=by
 unfold divB
 exact @decide_eq_true_iff _ (Classical.propDecidable _)
def prtL(p:List Int)(who:Int):List Int:=memP (fun i=>decide (at' p i=who)) p.length
theorem at_ext{p q:List Int}(h:p.length=q.length)(h2:∀i,i<p.length→at' p i=at' q i):p=q:=by
 apply List.ext_getElem h
 intro i h1 h3
 have:=h2 i h1
 unfold at' at this
 rw[List.getElem?_eq_getElem h1,List.getElem?_eq_getElem h3]at this
 exact this
theorem zDR{l:Ln}{p t:Int}(h:tokB l p t=true):(p= -1∧t= -1)∨((p=0∨p=1)∧t≠ -1):=by
 unfold tokB at h
 simp only[Bool.or_eq_true,Bool.and_eq_true,decide_eq_true_eq]at h
 rcases h with h|⟨h1,h2,_⟩
 ·exact .inl h
 ·exact .inr ⟨h1,h2⟩
end
section
variable {is:FuncId→Bool}{orc:Known}
theorem zAa{k:Nat}{a:U}(h:Dat k a):∀v∈[a],Dat k v:=fun v hv=>by
 simp only[List.mem_cons,List.not_mem_nil,or_false]at hv
 subst hv;exact h
theorem ww{k:Nat}{a b:U}(h:Dat k a)(h2:Dat k b):∀v∈[a,b],Dat k v:=fun v hv=>by
 simp only[List.mem_cons,List.not_mem_nil,or_false]at hv
 rcases hv with rfl|rfl<;>assumption
theorem dat_l3{k:Nat}{a b c:U}(h:Dat k a)(h2:Dat k b)(h3:Dat k c):∀v∈[a,b,c],Dat k v:=fun v hv=>by
 simp only[List.mem_cons,List.not_mem_nil,or_false]at hv
 rcases hv with rfl|rfl|rfl<;>assumption
theorem dat_l4{k:Nat}{a b c d:U}(h:Dat k a)(h2:Dat k b)(h3:Dat k c)(h4:Dat k d):∀v∈[a,b,c,d],Dat k v:=fun v hv=>by
 simp only[List.mem_cons,List.not_mem_nil,or_false]at hv
 rcases hv with rfl|rfl|rfl|rfl<;>assumption
abbrev spanU(a b:Int):U:=.agg [.int .i64 a,.int .i64 b]
theorem dat_span(a b:Int)(k:Nat):Dat (k+2) (spanU a b):=.agg _ _ (ww (.int _ _ _) (.int _ _ _))
abbrev zE(l:List Int):List U:=l.map fun n=>.int .i64 n
theorem take_all{α:Type}(f:α→Bool){l:List α}{i:Nat}{x:α}(h:l[i]? =some x):(l.take (i+1)).all f=((l.take i).all f&&f x):=by
 rw[List.take_add_one,h,List.all_append];simp
theorem zAA{l m:List SB}{i:Nat}{x:SB}(h:l[i]? =some x):(l++m)[i]? =some x:=by
 rw[List.getElem?_append_left (List.getElem?_eq_some_iff.1 h).1,h]
theorem zAD(l:List SB)(x y:SB):(l++[x]).set l.length y=l++[y]:=by
 rw[List.set_append_right _ _ (Nat.le_refl _),Nat.sub_self];rfl
theorem drop_at{α:Type}{l:List α}{n:Nat}{x:α}(h:l[n]? =some x):l.drop n=x::l.drop (n+1):=by
 obtain⟨h1,h2⟩:=List.getElem?_eq_some_iff.1 h
 rw[←h2];exact List.drop_eq_getElem_cons h1
abbrev Off(is:FuncId→Bool):Prop:=∀f,f≠26→is f=false
noncomputable def b51:Code:=(Tryd.f51.body).getD .skip
theorem body51:bodyOf Tryd.prog 51=some (15,b51,[.tmp 6]):=by kernel_rfl
theorem pure51:pureFn Tryd.prog 51=true:=by kernel_rfl
theorem fld99_0:zu Tryd.prog 99 0=some (0,3):=by kernel_rfl
theorem fld99_1:zu Tryd.prog 99 1=some (1,3):=by kernel_rfl
theorem sh3:shOf Tryd.prog 3=.one:=by kernel_rfl
noncomputable def b77:Code:=(Tryd.f77.body).getD .skip
theorem body77:bodyOf Tryd.prog 77=some (15,b77,[.tmp 4]):=by kernel_rfl
theorem pure77:pureFn Tryd.prog 77=true:=by kernel_rfl
noncomputable def b48:Code:=(Tryd.f48.body).getD .skip
theorem body48:bodyOf Tryd.prog 48=some (17,b48,[.tmp 4]):=by kernel_rfl
theorem pure48:pureFn Tryd.prog 48=true:=by kernel_rfl
theorem cl3:Program.cellsOf Tryd.prog 3=1:=by kernel_rfl
theorem ty22:tyOf Tryd.prog 22=.slice 3:=by kernel_rfl
noncomputable def b52:Code:=(Tryd.f52.body).getD .skip
theorem body52:bodyOf Tryd.prog 52=some (15,b52,[.tmp 4]):=by kernel_rfl
theorem pure52:pureFn Tryd.prog 52=true:=by kernel_rfl
noncomputable def b49:Code:=(Tryd.f49.body).getD .skip
theorem body49:bodyOf Tryd.prog 49=some (19,b49,[.tmp 4]):=by kernel_rfl
theorem pure49:pureFn Tryd.prog 49=true:=by kernel_rfl
noncomputable def b50:Code:=(Tryd.f50.body).getD .skip
theorem body50:bodyOf Tryd.prog 50=some (10,b50,[.tmp 4]):=by kernel_rfl
theorem pure50:pureFn Tryd.prog 50=true:=by kernel_rfl
noncomputable def b47:Code:=(Tryd.f47.body).getD .skip
theorem body47:bodyOf Tryd.prog 47=some (31,b47,[.tmp 4]):=by kernel_rfl
theorem pure47:pureFn Tryd.prog 47=true:=by kernel_rfl
def inS(a b n:Int):Bool:=decide (a≤n)&&decide (n≤b)
theorem zDP{a b n:Int}:inS a b n=true↔a≤n∧n≤b:=by
 unfold inS
 rw[Bool.and_eq_true,decide_eq_true_eq,decide_eq_true_eq]
theorem ret51(hi:Off is)(n a b:Int):RetP Tryd.prog is orc 51 [.int .i64 n,.int .i64 a,.int .i64 b] (.bool (inS a b n)):=by
 refine yW body51 pure51 (hi 51 (by decide)) rfl rfl (dat_l3 (.int _ _ _) (.int _ _ _) (.int _ _ _)) (.inl (.bool _ _)) ?_
 unfold inS
 by_cases h:a≤n
 ·rw[kG h,Bool.true_and]
  refine kQ (zC rfl (zA (kQ (zB rfl (zB rfl (kr rfl (zB rfl (kh rfl (kG (by omega)) ?_))))))))
  refine zB rfl (kh rfl (kG (by omega)) ?_)
  refine zB rfl (kh rfl (kG (by omega)) ?_)
  refine kr rfl (zo rfl rfl (kG (by omega)) ?_)
  refine zC rfl (zA (za ?_))
  refine⟨.inr rfl,_,.cons _ _ _ _ (.tmp 6) .nil,?_⟩
  exact .refl _
 ·rw[kH h,Bool.false_and]
  refine kQ (zC rfl (zA (kQ (zB rfl (zB rfl (kr rfl (zB rfl (kg rfl (kH (by omega)) ?_))))))))
  refine kg rfl (kH (by omega)) ?_
  refine kg rfl (kH (by omega)) ?_
  refine yc rfl rfl (kH (by omega)) ?_
  refine zC rfl (zA (za ?_))
  refine⟨.inr rfl,_,.cons _ _ _ _ (.tmp 6) .nil,?_⟩
  exact .refl _
theorem ret77(hi:Off is)(a b n:Int):RetP Tryd.prog is orc 77 [spanU a b,.int .i64 n] (.bool (inS a b n)):=by
 refine yW body77 pure77 (hi 77 (by decide)) rfl rfl (ww (dat_span a b 6) (.int _ _ _)) (.inl (.bool _ _)) ?_
 unfold inS
 by_cases h:a≤n
 ·rw[kG h,Bool.true_and]
  refine kQ (yK rfl rfl (zC rfl (zA ?_)))
  refine zH [(1,.int .i64 n),(2,U.box 0 0)] ([SB.box [.int .i64 a,.int .i64 b]]) (.n2 rfl) rfl fun fr=>?_
  refine kQ (kz rfl fld99_0 (kB sh3 rfl (zB rfl (kr rfl (zB rfl (kh rfl (kG (by omega)) ?_))))))
  refine zB rfl (kh rfl (kG (by omega)) ?_)
  refine kz rfl fld99_1 (kh rfl (kG (by omega)) ?_)
  refine kB sh3 rfl (kh rfl (kG (by omega)) ?_)
  refine kr rfl (zo rfl rfl (kG (by omega)) ?_)
  refine zC rfl (zA (za ?_))
  refine⟨.inr rfl,_,.cons _ _ _ _ (.tmp 4) .nil,?_⟩
  exact .refl _
 ·rw[kH h,Bool.false_and]
  refine kQ (yK rfl rfl (zC rfl (zA ?_)))
  refine zH [(1,.int .i64 n),(2,U.box 0 0)] ([SB.box [.int .i64 a,.int .i64 b]]) (.n2 rfl) rfl fun fr=>?_
  refine kQ (kz rfl fld99_0 (kB sh3 rfl (zB rfl (kr rfl (zB rfl (kg rfl (kH (by omega)) ?_))))))
  refine kg rfl (kH (by omega)) ?_
  refine kg rfl (kH (by omega)) ?_
  refine kg rfl (kH (by omega)) ?_
  refine yc rfl rfl (kH (by omega)) ?_
  refine zC rfl (zA (za ?_))
  refine⟨.inr rfl,_,.cons _ _ _ _ (.tmp 4) .nil,?_⟩
  exact .refl _
def accI(l:List Int):U:=match l with
 |[]=>.lst .full 0 []
 |l=>.lst .own 1 (zE l)
theorem zBd(x:Int)(l:List Int):accI (l++[x])=.lst .own 1 (zE l++[.int .i64 x]):=by
 cases l with
 |nil=>rfl
 |cons y l=>show U.lst .own 1 (zE ((y::l)++[x]))=_;simp[zE]
def nthI(l:List Int)(i:Nat):Int:=(l[i % l.length]?).getD 0
theorem tmod_n{n m:Int}(hn:0≤n):n.tmod m=n % m:=Int.tmod_eq_emod_of_nonneg hn
theorem tmod_neg{n b:Int}(hb0:0<b)(hn:n.tmod b<0):n % b=n.tmod b+b:=by
 rw[Int.emod_eq_tmod]
 have h0: ¬ (0≤n):=fun h0=>by have:=Int.tmod_nonneg b h0;omega
 have h3: ¬ (b ∣ n):=fun h3=>by have:=(Int.dvd_iff_tmod_eq_zero).1 h3;omega
 simp[h0,h3];omega
theorem tmod_pos{n b:Int}(hb0:0<b)(hn: ¬ n.tmod b<0):n % b=n.tmod b:=by
 rw[Int.emod_eq_tmod]
 by_cases h0:0≤n
 ·simp[h0]
 ·have h3:n.tmod b=0:=by
   have:=Int.tmod_nonneg b (show 0≤ -n by omega)
   rw[Int.neg_tmod]at this
   omega
  have:b ∣ n:=(Int.dvd_iff_tmod_eq_zero).2 h3
  simp[h0,this]
def zEe(n b:Int):Int:=if b<1 then 0 else n % b
theorem turnI_b{n b:Int}(h:1≤b):0≤zEe n b∧zEe n b<b:=by
 unfold zEe;rw[if_neg (by omega)]
 exact⟨Int.emod_nonneg _ (by omega),Int.emod_lt_of_pos _ (by omega)⟩
set_option maxHeartbeats 4000000 in
theorem ret48(hi:Off is)(n b:Int)(hb:b≤1000000):RetP Tryd.prog is orc 48 [.int .i64 n,.int .i64 b] (.int .i64 (zEe n b)):=by
 refine yW body48 pure48 (hi 48 (by decide)) rfl rfl (ww (.int _ _ _) (.int _ _ _)) (.inl (.int _ _ _)) ?_
 by_cases h:b<1
 ·have e:zEe n b=0:=by unfold zEe;rw[if_pos h]
  rw[e]
  refine kQ (zC rfl (zA (k_seq (kQ (zB rfl (kq rfl (zA (k_cT rfl (kG (by omega)) (kQ (zC rfl (zA (za ?_))))))))))))
  refine⟨.inr rfl,_,.cons _ _ _ _ (.tmp 4) .nil,?_⟩
  exact .refl _
 ·have hb0:0<b:=by omega
  have e:zEe n b=n % b:=by unfold zEe;rw[if_neg h]
  have t1:n.tmod b<b:=Int.tmod_lt_of_pos n hb0
  have t2: -b<n.tmod b:=by have:=Int.lt_tmod_of_pos n hb0;omega
  by_cases hn:n.tmod b<0
  ·have e2:=tmod_neg hb0 hn
   rw[e,e2]
   refine kQ (zC rfl (zA (k_seq (kQ (zB rfl (kq rfl (zA (k_cF rfl (kH (by omega)) (zN (kQ (zB rfl (zB rfl (o_rem rfl rfl rfl (by omega) ?_)))))))))))))
   refine zC rfl (zA (k_seq (kQ (zB rfl (kq rfl (zA (k_cT rfl (kG (by omega)) (k_region (zB rfl (zB rfl ?_))))))))))
   refine kA rfl (by unfold I64;omega) (zC rfl (zA ?_))
   refine zH [(5,.int .i64 (Int.tmod n b+b))] ([]) (.n1 rfl) rfl fun fr=>?_
   refine kQ (zB rfl (zC rfl (zA (za ?_))))
   refine⟨.inr rfl,_,.cons _ _ _ _ (.tmp 4) .nil,?_⟩
   exact .refl _
  ·have e2:=tmod_pos hb0 hn
   rw[e,e2]
   refine kQ (zC rfl (zA (k_seq (kQ (zB rfl (kq rfl (zA (k_cF rfl (kH (by omega)) (zN (kQ (zB rfl (zB rfl (o_rem rfl rfl rfl (by omega) ?_)))))))))))))
   refine zC rfl (zA (k_seq (kQ (zB rfl (kq rfl (zA (k_cF rfl (kH (by omega)) (zN (kQ (zB rfl (zC rfl (zA (za ?_)))))))))))))
   refine⟨.inr rfl,_,.cons _ _ _ _ (.tmp 4) .nil,?_⟩
   exact .refl _
set_option maxHeartbeats 4000000 in
theorem ret48_n(hi:Off is)(n m:Int)(hm:0<m)(hn:0≤n):RetP Tryd.prog is orc 48 [.int .i64 n,.int .i64 m] (.int .i64 (n % m)):=by
 refine yW body48 pure48 (hi 48 (by decide)) rfl rfl (ww (.int _ _ _) (.int _ _ _)) (.inl (.int _ _ _)) ?_
 rw[←tmod_n hn]
 have h2:=Int.tmod_nonneg m hn
 refine kQ (zC rfl (zA (k_seq (kQ (zB rfl (kq rfl (zA (k_cF rfl (kH (by omega)) (zN (kQ (zB rfl (zB rfl (o_rem rfl rfl rfl (by omega) ?_)))))))))))))
 refine zC rfl (zA (k_seq (kQ (zB rfl (kq rfl (zA (k_cF rfl (kH (by omega)) (zN (kQ (zB rfl (zC rfl (zA (za ?_)))))))))))))
 refine⟨.inr rfl,_,.cons _ _ _ _ (.tmp 4) .nil,?_⟩
 exact .refl _
set_option maxHeartbeats 4000000 in
theorem ret52(hi:Off is)(l:List Int)(i:Nat):RetP Tryd.prog is orc 52 [.lst .ro 1 (zE l),.int .i64 i] (.int .i64 (nthI l i)):=by
 refine yW body52 pure52 (hi 52 (by decide)) rfl rfl (ww (wI 6 .ro (fun h=>by cases h) 1 l) (.int _ _ _)) (.inl (.int _ _ _)) ?_
 by_cases h0:l.length=0
 ·have hl:l=[]:=List.eq_nil_of_length_eq_zero h0
  subst hl
  refine kQ (zC rfl (zA (k_seq (kQ (zB rfl (yG rfl ty22 rfl (List.length_map _) ?_))))))
  refine ku rfl (zA (k_cT rfl rfl ?_))
  refine kQ (zC rfl (zA (za ?_)))
  refine⟨.inr rfl,_,.cons _ _ _ _ (.tmp 4) .nil,?_⟩
  exact .refl _
 ·have hl:0<l.length:=by omega
  obtain⟨q,hq⟩:∃q,l[i % l.length]? =some q:=⟨_,List.getElem?_eq_getElem (Nat.mod_lt i hl)⟩
  have q46:RetP Tryd.prog is orc 48 [.int .i64 i,.int .i64 l.length] (.int .i64 ((i % l.length:Nat):Int)):=by
   have:=ret48_n (orc:=orc) hi (i:Int) l.length (by omega) (by omega)
   rw[←Int.natCast_emod]at this
   exact this
  rw[show nthI l i=q by unfold nthI;rw[hq];rfl]
  generalize hm:i % l.length=m at q46 hq
  have hml:m<l.length:=by rw[←hm];exact Nat.mod_lt i hl
  refine kQ (zC rfl (zA (k_seq (kQ (zB rfl (yG rfl ty22 rfl (List.length_map _) ?_))))))
  refine ku rfl (zA (k_cF rfl (kH (by omega)) (zN (kQ (zB rfl (zB rfl (zB rfl (yG rfl ty22 rfl (List.length_map _) ?_))))))))
  refine zP rfl (q46) (.lrefl _) (yT (u:=.int .i64 (q)) rfl ty22 rfl rfl (Int.natCast_nonneg _) (by simp[hq]) cl3 ?_)
  refine kD sh3 rfl ?_
  refine zC rfl (zA (za ?_))
  refine⟨.inr rfl,_,.cons _ _ _ _ (.tmp 4) .nil,?_⟩
  exact .refl _
def idxI:List Int→Int→Nat→Int
 |[],_,_=> -1
 |y::l,x,k=>if x=y then k else idxI l x (k+1)
theorem idx_mem:∀(l:List Int) (x:Int) (k:Nat),decide (0≤idxI l x k)=decide (x∈l):=by
 intro l
 induction l with
 |nil=>intro x k;simp[idxI]
 |cons y l ih=>
  intro x k
  unfold idxI
  by_cases e:x=y
  ·rw[if_pos e]
   rw[kG (show 0≤(k:Int) by omega),kG (by rw[e];exact List.mem_cons_self)]
  ·rw[if_neg e,ih x (k+1)]
   exact decide_eq_decide.2 ⟨fun h=>List.mem_cons_of_mem _ h,fun h=>(List.mem_cons.1 h).resolve_left e⟩
theorem ret49(hi:Off is)(l:List Int)(x:Int)(hl:l.length≤4096):RetP Tryd.prog is orc 49 [.lst .ro 1 (zE l),.int .i64 x] (.int .i64 (idxI l x 0)):=by
 refine yW body49 pure49 (hi 49 (by decide)) rfl rfl (ww (wI 6 .ro (fun h=>by cases h) 1 l) (.int _ _ _)) (.inl (.int _ _ _)) ?_
 generalize hz:idxI l x 0=z
 refine kQ (zC rfl (zA (k_seq (kQ (zC rfl (zA (zK ?_)))))))
 refine wD (fun kk s2=>∃i:Nat,kk+i=l.length∧z=idxI (l.drop i) x i∧s2.st=[]∧Holds s2 [(0,.lst .ro 1 (zE l)),(1,.int .i64 x),(5,.int .i64 i)]) (fun kk s2 hI=>?_) l.length _ ⟨0,rfl,hz.symm,rfl,.cons rfl (.n2 rfl)⟩
 obtain⟨i,hk,hw,hst2,hs2⟩:=hI
 clear hz
 refine zH _ _ hs2 hst2 fun fr2=>?_
 by_cases hin:i<l.length
 ·obtain⟨y,hy⟩:∃y,l[i]? =some y:=⟨l[i],List.getElem?_eq_getElem hin⟩
  rw[drop_at hy]at hw
  have es:idxI (y::l.drop (i+1)) x i=if x=y then(i:Int)else idxI (l.drop (i+1)) x (i+1):=rfl
  by_cases e:x=y
  ·rw[es,if_pos e]at hw
   subst hw
   refine k_seq (kQ (zB rfl (zB rfl (yG rfl ty22 rfl (List.length_map _) ?_))))
   refine kq rfl (zA (k_cT rfl (kG (by omega)) (zN (k_seq (zK (kQ (zB rfl (zB rfl (yT (u:=.int .i64 (y)) rfl ty22 rfl rfl (Int.natCast_nonneg _) (by simp[hy]) cl3 ?_)))))))))
   refine kD sh3 rfl ?_
   refine zB rfl (ku rfl (zA (k_cT rfl (kG (by omega)) (kQ (zB rfl (zC rfl (zA (za ?_))))))))
   refine⟨.inr rfl,_,.cons _ _ _ _ (.tmp 4) .nil,?_⟩
   exact .refl _
  ·rw[es,if_neg e]at hw
   refine k_seq (kQ (zB rfl (zB rfl (yG rfl ty22 rfl (List.length_map _) ?_))))
   refine kq rfl (zA (k_cT rfl (kG (by omega)) (zN (k_seq (zK (kQ (zB rfl (zB rfl (yT (u:=.int .i64 (y)) rfl ty22 rfl rfl (Int.natCast_nonneg _) (by simp[hy]) cl3 ?_)))))))))
   refine kD sh3 rfl ?_
   refine zB rfl (ku rfl (zA (k_cF rfl (kH (by omega)) (zN (k_region (zB rfl ?_))))))
   refine kA rfl (by unfold I64;omega) (zC rfl (zA ?_))
   exact⟨kk - 1,by omega,i+1,by omega,hw,rfl,.cons rfl (.n2 rfl)⟩
 ·have hd:l.drop i=[]:=List.drop_eq_nil_of_le (by omega)
  rw[hd]at hw
  change z= -1 at hw
  subst hw
  refine k_seq (kQ (zB rfl (zB rfl (yG rfl ty22 rfl (List.length_map _) ?_))))
  refine kq rfl (zA (k_cF rfl (kH (by omega)) (yD (kQ (zC rfl (zA (za ?_)))))))
  refine⟨.inr rfl,_,.cons _ _ _ _ (.tmp 4) .nil,?_⟩
  exact .refl _
theorem fdiv_b{n:Int}(k:Nat)(h:0≤n∧n≤1000000):0≤n.fdiv (2 ^ k)∧n.fdiv (2 ^ k)≤9223372036854775807:=by
 rw[Int.fdiv_eq_ediv_of_nonneg _ (Int.le_of_lt (Int.pow_pos (by decide)))]
 have h1:n / 2 ^ k≤n:=Int.ediv_le_self _ h.1
 exact⟨Int.ediv_nonneg h.1 (Int.le_of_lt (Int.pow_pos (by decide))),by omega⟩
theorem ret50(hi:Off is){s t:Int}(hs:0≤s∧s≤1000000)(ht:0≤t∧t≤60):RetP Tryd.prog is orc 50 [.int .i64 s,.int .i64 t] (.bool (bitI s t)):=by
 have hfd:=fdiv_b t.toNat hs
 refine yW body50 pure50 (hi 50 (by decide)) rfl rfl (ww (.int _ _ _) (.int _ _ _)) (.inl (.bool _ _)) ?_
 unfold bitI
 refine kQ (zC rfl (zA (kQ (zB rfl (zB rfl (o_shr rfl rfl rfl (by omega) ?_))))))
 refine o_andOne rfl rfl rfl hfd ?_
 refine ku rfl (zC rfl (zA (za ?_)))
 refine⟨.inr rfl,_,.cons _ _ _ _ (.tmp 4) .nil,?_⟩
 exact .refl _
def lstI(L:List Int):Nat→Int
 |0=> -1
 |i+1=>(L[i]?).getD 0
def grwB:Int→Int→List Int→Bool
 |_,_,[]=>true
 |q,n,x::l=>decide (q<x)&&(decide (x<n)&&grwB x n l)
theorem grw_iff{n:Int}:∀(L:List Int) (q:Int),grwB q n L=true↔L.Pairwise (fun x y=>x<y)∧∀x∈L,q<x∧x<n:=by
 intro L
 induction L with
 |nil=>intro q;exact⟨fun _=>⟨List.Pairwise.nil,(fun x h=>by cases h)⟩,fun _=>rfl⟩
 |cons y L ih=>
  intro q
  unfold grwB
  rw[Bool.and_eq_true,Bool.and_eq_true,decide_eq_true_eq,decide_eq_true_eq,ih y,List.pairwise_cons]
  constructor
  ·rintro⟨h1,h2,h3,h4⟩
   refine⟨⟨fun z hz=>(h4 z hz).1,h3⟩,fun z hz=>?_⟩
   rcases List.mem_cons.1 hz with rfl|hz
   ·exact⟨h1,h2⟩
   ·have:=h4 z hz;exact⟨by omega,this.2⟩
  ·rintro⟨⟨h1,h2⟩,h3⟩
   exact⟨(h3 y List.mem_cons_self).1,(h3 y List.mem_cons_self).2,h2,fun z hz=>⟨h1 z hz,(h3 z (List.mem_cons_of_mem _ hz)).2⟩⟩
set_option maxHeartbeats 8000000 in
theorem ret47(hi:Off is){n:Nat}(hn:n≤16)(L:List Int):RetP Tryd.prog is orc 47 [.lst .ro 1 (zE L),.int .i64 n] (.bool (grwB (-1) n L)):=by
 refine yW body47 pure47 (hi 47 (by decide)) rfl rfl (ww (wI 6 .ro (fun h=>by cases h) 1 L) (.int _ _ _)) (.inl (.bool _ _)) ?_
 generalize hz:grwB (-1) n L=z
 refine kQ (zC rfl (zA (kQ (zC rfl (zA (k_seq (kQ (zC rfl (zA (zK ?_))))))))))
 refine wD (fun kk s2=>∃i:Nat,kk+i=L.length∧z=grwB (lstI L i) n (L.drop i)∧(i:Int)≤lstI L i+1∧lstI L i<16∧s2.st=[]∧Holds s2 [(0,.lst .ro 1 (zE L)),(1,.int .i64 n),(5,.int .i64 (lstI L i)),(6,.int .i64 i)]) (fun kk s2 hI=>?_) L.length _ ⟨0,rfl,hz.symm,(by show(0:Int)≤ -1+1;omega),(by show(-1:Int)<16;omega),rfl,.c4 rfl rfl rfl rfl (.nil rfl)⟩
 obtain⟨i,hk,hw,hb1,hb2,hst2,hs2⟩:=hI
 clear hz
 have hln:∀x,L[i]? =some x→lstI L (i+1)=x:=fun x hx=>by show(L[i]?).getD 0=x;rw[hx];rfl
 generalize lstI L i=p at*
 refine zH _ _ hs2 hst2 fun fr2=>?_
 by_cases hin:i<L.length
 ·obtain⟨x,hx⟩:∃x,L[i]? =some x:=⟨L[i],List.getElem?_eq_getElem hin⟩
  have hl2:=hln x hx
  rw[drop_at hx]at hw
  have hw:z=(decide (p<x)&&(decide (x<(n:Int))&&grwB x n (L.drop (i+1)))):=hw
  by_cases c1:p<x
  ·rw[kG c1,Bool.true_and]at hw
   by_cases c2:x<n
   ·rw[kG c2,Bool.true_and]at hw
    refine k_seq (kQ (zB rfl (zB rfl (yG rfl ty22 rfl (List.length_map _) ?_))))
    refine kq rfl (zA (k_cT rfl (kG (by omega)) (zN (k_seq (zK (k_seq (kQ (zB rfl (zB rfl (yT (u:=.int .i64 (x)) rfl ty22 rfl rfl (Int.natCast_nonneg _) (by simp[hx]) cl3 ?_))))))))))
    refine kD sh3 rfl ?_
    refine zB rfl (kr rfl (zB rfl (kh rfl (kH (by omega)) (zB rfl (kh rfl (kH (by omega)) (zB rfl ?_))))))
    refine zj [(0,.lst .ro 1 (zE L)),(1,.int .i64 ↑n),(6,.int .i64 ↑i),(19,U.bool (decide (x≤p))),(20,.lst .ro 1 (zE L)),(21,.int .i64 ↑i)] [] ([]) (.n6 rfl) rfl rfl fun fr=>?_
    refine kh rfl (kH (by omega)) ?_
    refine zj [(0,.lst .ro 1 (zE L)),(1,.int .i64 ↑n),(6,.int .i64 ↑i),(19,U.bool (decide (x≤p))),(20,.lst .ro 1 (zE L)),(21,.int .i64 ↑i)] [] ([]) (.n6 rfl) rfl rfl fun fr=>?_
    refine yT (u:=.int .i64 (x)) rfl ty22 rfl rfl (Int.natCast_nonneg _) (by simp[hx]) cl3 ?_
    refine kh rfl (kH (by omega)) (kD sh3 rfl ?_)
    refine kh rfl (kH (by omega)) (zB rfl (kh rfl (kH (by omega)) (zBj rfl rfl rfl (yc rfl rfl (kH (by omega)) ?_))))
    refine zA ?_
    refine zH [(0,.lst .ro 1 (zE L)),(1,.int .i64 ↑n),(6,.int .i64 ↑i),(26,U.bool (decide (↑n≤x)))] ([]) (.n4 rfl) rfl fun fr=>?_
    refine k_cF rfl (kH (by omega)) (zN (k_region (zB rfl (zB rfl (yT (u:=.int .i64 (x)) rfl ty22 rfl rfl (Int.natCast_nonneg _) (by simp[hx]) cl3 ?_)))))
    refine kD sh3 rfl ?_
    refine zC rfl (zA (k_region (zB rfl ?_)))
    refine kA rfl (by unfold I64;omega) (zC rfl (zA ?_))
    exact⟨kk - 1,by omega,i+1,by omega,by rw[hl2];exact hw,by omega,by omega,rfl,.cons rfl (.cons rfl (.cons (by rw[hl2];rfl) (.n1 rfl)))⟩
   ·rw[kH c2,Bool.false_and]at hw
    obtain rfl:z=false:=hw
    refine k_seq (kQ (zB rfl (zB rfl (yG rfl ty22 rfl (List.length_map _) ?_))))
    refine kq rfl (zA (k_cT rfl (kG (by omega)) (zN (k_seq (zK (k_seq (kQ (zB rfl (zB rfl (yT (u:=.int .i64 (x)) rfl ty22 rfl rfl (Int.natCast_nonneg _) (by simp[hx]) cl3 ?_))))))))))
    refine kD sh3 rfl ?_
    refine zB rfl (kr rfl (zB rfl (kh rfl (kH (by omega)) (zB rfl (kh rfl (kH (by omega)) (zB rfl ?_))))))
    refine zj [(0,.lst .ro 1 (zE L)),(1,.int .i64 ↑n),(6,.int .i64 ↑i),(19,U.bool (decide (x≤p))),(20,.lst .ro 1 (zE L)),(21,.int .i64 ↑i)] [] ([]) (.n6 rfl) rfl rfl fun fr=>?_
    refine kh rfl (kH (by omega)) ?_
    refine zj [(0,.lst .ro 1 (zE L)),(1,.int .i64 ↑n),(6,.int .i64 ↑i),(19,U.bool (decide (x≤p))),(20,.lst .ro 1 (zE L)),(21,.int .i64 ↑i)] [] ([]) (.n6 rfl) rfl rfl fun fr=>?_
    refine yT (u:=.int .i64 (x)) rfl ty22 rfl rfl (Int.natCast_nonneg _) (by simp[hx]) cl3 ?_
    refine kh rfl (kH (by omega)) (kD sh3 rfl ?_)
    refine kh rfl (kH (by omega)) (zB rfl (kh rfl (kH (by omega)) (zBj rfl rfl rfl (yc rfl rfl (kH (by omega)) ?_))))
    refine zA ?_
    refine zH [(0,.lst .ro 1 (zE L)),(1,.int .i64 ↑n),(6,.int .i64 ↑i),(26,U.bool (decide (↑n≤x)))] ([]) (.n4 rfl) rfl fun fr=>?_
    refine k_cT rfl (kG (by omega)) (kQ (zC rfl (zA (za ?_))))
    refine⟨.inr rfl,_,.cons _ _ _ _ (.tmp 4) .nil,?_⟩
    exact .refl _
  ·rw[kH c1,Bool.false_and]at hw
   obtain rfl:z=false:=hw
   refine k_seq (kQ (zB rfl (zB rfl (yG rfl ty22 rfl (List.length_map _) ?_))))
   refine kq rfl (zA (k_cT rfl (kG (by omega)) (zN (k_seq (zK (k_seq (kQ (zB rfl (zB rfl (yT (u:=.int .i64 (x)) rfl ty22 rfl rfl (Int.natCast_nonneg _) (by simp[hx]) cl3 ?_))))))))))
   refine kD sh3 rfl ?_
   refine zB rfl (kr rfl (zB rfl (kg rfl (kG (by omega)) (kg rfl (kG (by omega)) ?_))))
   refine zj [(0,.lst .ro 1 (zE L)),(1,.int .i64 ↑n),(6,.int .i64 ↑i),(19,U.bool (decide (x≤p)))] [] ([]) (.n4 rfl) rfl rfl fun fr=>?_
   refine kg rfl (kG (by omega)) (kg rfl (kG (by omega)) (kg rfl (kG (by omega)) (kg rfl (kG (by omega)) (zo rfl rfl (kG (by omega)) ?_))))
   refine zA ?_
   refine zH [(0,.lst .ro 1 (zE L)),(1,.int .i64 ↑n),(6,.int .i64 ↑i),(26,.bool true)] ([]) (.n4 rfl) rfl fun fr=>?_
   refine k_cT rfl rfl ?_
   refine kQ (zC rfl (zA (za ?_)))
   refine⟨.inr rfl,_,.cons _ _ _ _ (.tmp 4) .nil,?_⟩
   exact .refl _
 ·have hd:L.drop i=[]:=List.drop_eq_nil_of_le (by omega)
  rw[hd]at hw
  obtain rfl:z=true:=hw
  refine k_seq (kQ (zB rfl (zB rfl (yG rfl ty22 rfl (List.length_map _) ?_))))
  refine kq rfl (zA (k_cF rfl (kH (by omega)) (yD (kQ (zC rfl (zA (za ?_)))))))
  refine⟨.inr rfl,_,.cons _ _ _ _ (.tmp 4) .nil,?_⟩
  exact .refl _
end
end Go.Proofs.YthhbfbmfhldbaaaDoor.locks
