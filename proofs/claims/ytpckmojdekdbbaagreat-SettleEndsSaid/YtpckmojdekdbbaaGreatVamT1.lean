import Derived.Test.YtpckmojdekdbbaaGreatVamR
import Derived.Test.YtpckmojdekdbbaaGreatProg
import Derived.KernelRfl
set_option linter.unusedVariables false
set_option linter.unusedSimpArgs false
set_option linter.constructorNameAsVariable false
theorem Vam.Holds.c4{s:Vam.St}{a b c d:Nat}{x y z w:Vam.U}{l:List (Nat×Vam.U)}(h1:s.fr a=x)(h2:s.fr b=y)(h3:s.fr c=z)(h4:s.fr d=w)(h:Vam.Holds s l):Vam.Holds s ((a,x)::(b,y)::(c,z)::(d,w)::l):=.cons h1 (.cons h2 (.cons h3 (.cons h4 h)))
theorem Vam.kQ{P:Go.Program}{is:Go.FuncId→Bool}{orc:Vam.Known}{s:Vam.St}{i:Nat}{ops:Array Go.Oper}{b:Go.Code}{Q:Vam.Ex→Vam.St→Prop}(h:Vam.WpO P is orc ops.toList ops.toList s fun s'=>Vam.Wp P is orc b {s' with al:=[]} Q):Vam.Wp P is orc (.seq (.region i ops false) b) s Q:=Vam.k_seq (Vam.k_region h)
namespace Vam
section
open Go
variable {P:Program}{is:FuncId→Bool}{orc:Known}{all l:List Oper}{m:List (Oper×M0)}{m0:M0}{dst:Option Nat}{o:Op}{t t' xt yt:TypeId}{p:String}{a e:Array Edge}{g d n off:Nat}{want c:Bool}{og:Oper}{j ad:Nat}{s:St}{x y:Operand}{Q:St→Prop}{k:IntKind}{ai bi:Int}{cs:List U}{u:U}{f:String}
theorem ke(h:(wj 1024 dst,nthO all g,og.dst,s.slot j,c)=(true,some og,some j,U.bool c, !want))(q:WpO P is orc all l (s.dst dst (.tup [])) Q):WpO P is orc all (⟨dst,o,t,p,a,some (g,want)⟩::l) s Q:=o_gS (congrArg (fun v=>v.1) h) (congrArg (fun v=>v.2.1) h) (congrArg (fun v=>v.2.2.1) h) (congrArg (fun v=>v.2.2.2.1) h) (congrArg (fun v=>v.2.2.2.2) h) q
theorem kf(h:(wj 1024 dst,nthO all g,og.dst,s.slot j,c)=(true,some og,some j,U.bool c,want))(q:WpO P is orc all (⟨dst,o,t,p,a,none⟩::l) s Q):WpO P is orc all (⟨dst,o,t,p,a,some (g,want)⟩::l) s Q:=o_gD (congrArg (fun v=>v.1) h) (congrArg (fun v=>v.2.1) h) (congrArg (fun v=>v.2.2.1) h) (congrArg (fun v=>v.2.2.2.1) h) (congrArg (fun v=>v.2.2.2.2) h) q
theorem kg(h:(wj 1024 dst,nthO all g,og.dst,s.slot j)=(true,some og,some j,U.bool c))(ee:c= !want)(q:WpO P is orc all l (s.dst dst (.tup [])) Q):WpO P is orc all (⟨dst,o,t,p,a,some (g,want)⟩::l) s Q:=o_gS (congrArg (fun v=>v.1) h) (congrArg (fun v=>v.2.1) h) (congrArg (fun v=>v.2.2.1) h) (congrArg (fun v=>v.2.2.2) h) ee q
theorem kh(h:(wj 1024 dst,nthO all g,og.dst,s.slot j)=(true,some og,some j,U.bool c))(ee:c=want)(q:WpO P is orc all (⟨dst,o,t,p,a,none⟩::l) s Q):WpO P is orc all (⟨dst,o,t,p,a,some (g,want)⟩::l) s Q:=o_gD (congrArg (fun v=>v.1) h) (congrArg (fun v=>v.2.1) h) (congrArg (fun v=>v.2.2.1) h) (congrArg (fun v=>v.2.2.2) h) ee q
theorem kj(h:(wj 1024 dst,nthO all g,og.dst,s.slot j,c)=(true,some og,some j,U.bool c, !want))(q:WpD P is orc all m (s.dst dst (.tup [])) Q):WpD P is orc all ((⟨dst,o,t,p,a,some (g,want)⟩,m0)::m) s Q:=d_gS (congrArg (fun v=>v.1) h) (congrArg (fun v=>v.2.1) h) (congrArg (fun v=>v.2.2.1) h) (congrArg (fun v=>v.2.2.2.1) h) (congrArg (fun v=>v.2.2.2.2) h) q
theorem kl(h:(wj 1024 dst,nthO all g,og.dst,s.slot j,c)=(true,some og,some j,U.bool c,want))(q:WpD P is orc all ((⟨dst,o,t,p,a,none⟩,m0)::m) s Q):WpD P is orc all ((⟨dst,o,t,p,a,some (g,want)⟩,m0)::m) s Q:=d_gD (congrArg (fun v=>v.1) h) (congrArg (fun v=>v.2.1) h) (congrArg (fun v=>v.2.2.1) h) (congrArg (fun v=>v.2.2.2.1) h) (congrArg (fun v=>v.2.2.2.2) h) q
theorem km(h:(wj 1024 dst,nthO all g,og.dst,s.slot j)=(true,some og,some j,U.bool c))(ee:c= !want)(q:WpD P is orc all m (s.dst dst (.tup [])) Q):WpD P is orc all ((⟨dst,o,t,p,a,some (g,want)⟩,m0)::m) s Q:=d_gS (congrArg (fun v=>v.1) h) (congrArg (fun v=>v.2.1) h) (congrArg (fun v=>v.2.2.1) h) (congrArg (fun v=>v.2.2.2) h) ee q
theorem kn(h:(wj 1024 dst,nthO all g,og.dst,s.slot j)=(true,some og,some j,U.bool c))(ee:c=want)(q:WpD P is orc all ((⟨dst,o,t,p,a,none⟩,m0)::m) s Q):WpD P is orc all ((⟨dst,o,t,p,a,some (g,want)⟩,m0)::m) s Q:=d_gD (congrArg (fun v=>v.1) h) (congrArg (fun v=>v.2.1) h) (congrArg (fun v=>v.2.2.1) h) (congrArg (fun v=>v.2.2.2) h) ee q
theorem kp(h:(Nat.blt d 1024,zQ s x,zQ s y)=(true,U.int k ai,U.int k bi))(q:WpO P is orc all l (s.put d (.bool (decide (ai<bi)))) Q):WpO P is orc all (⟨some d,.binOp .lss xt x y yt,t,p,e,none⟩::l) s Q:=o_lss (congrArg (fun v=>v.1) h) (congrArg (fun v=>v.2.1) h) (congrArg (fun v=>v.2.2) h) q
theorem kq(h:(Nat.blt d 1024,zQ s x,zQ s y)=(true,U.int k ai,U.int k bi))(q:WpO P is orc all l (s.put d (.bool (decide (ai≤bi)))) Q):WpO P is orc all (⟨some d,.binOp .leq xt x y yt,t,p,e,none⟩::l) s Q:=o_leq (congrArg (fun v=>v.1) h) (congrArg (fun v=>v.2.1) h) (congrArg (fun v=>v.2.2) h) q
theorem kr(h:(Nat.blt d 1024,zQ s x,zQ s y)=(true,U.int k ai,U.int k bi))(q:WpO P is orc all l (s.put d (.bool (decide (ai≠bi)))) Q):WpO P is orc all (⟨some d,.binOp .neq xt x y yt,t,p,e,none⟩::l) s Q:=o_neq (congrArg (fun v=>v.1) h) (congrArg (fun v=>v.2.1) h) (congrArg (fun v=>v.2.2) h) q
theorem ks(h:(Nat.blt d 1024,zQ s x,zQ s y)=(true,U.int k ai,U.int k bi))(q:WpO P is orc all l (s.put d (.bool (decide (ai=bi)))) Q):WpO P is orc all (⟨some d,.binOp .eql xt x y yt,t,p,e,none⟩::l) s Q:=o_eql (congrArg (fun v=>v.1) h) (congrArg (fun v=>v.2.1) h) (congrArg (fun v=>v.2.2) h) q
theorem ku(h:(Nat.blt d 1024,zQ s x,cs[n]?)=(true,U.tup cs,some u))(q:WpO P is orc all l (s.put d (dg u)) Q):WpO P is orc all (⟨some d,.extract x n,t,p,e,none⟩::l) s Q:=o_extract (congrArg (fun v=>v.1) h) (congrArg (fun v=>v.2.1) h) (congrArg (fun v=>v.2.2) h) q
theorem kw(h:(Nat.blt d 1024,zQ s x)=(true,U.box ad off)){f:_}{fo ft:_}(hf:zc P xt f=some (fo,ft))(q:WpO P is orc all l (s.put d (.box ad (off+fo))) Q):WpO P is orc all (⟨some d,.fieldAddr xt x f,t,p,e,none⟩::l) s Q:=o_faddr (congrArg (fun v=>v.1) h) (congrArg (fun v=>v.2) h) hf q
theorem kz(h:(Nat.blt d 1024,zQ s x,zQ s y)=(true,U.int .i64 ai,U.int .i64 bi))(hr:I64 (ai+bi))(q:WpO P is orc all l (s.put d (.int .i64 (ai+bi))) Q):WpO P is orc all (⟨some d,.binOp .add xt x y yt,t,p,e,none⟩::l) s Q:=o_add (congrArg (fun v=>v.1) h) (congrArg (fun v=>v.2.1) h) (congrArg (fun v=>v.2.2) h) hr q
theorem kA(hs:shOf P t'=.one)(h:(Nat.blt d 1024,zQ s x,s.st[ad]?,cs[off]?)=(true,U.box ad off,some (SB.box cs),some u))(q:WpO P is orc all l (s.ld d ad off u) Q):WpO P is orc all (⟨some d,.load t' x,t,p,e,none⟩::l) s Q:=zI (congrArg (fun v=>v.1) h) (congrArg (fun v=>v.2.1) h) (congrArg (fun v=>v.2.2.1) h) hs (congrArg (fun v=>v.2.2.2) h) q
theorem kB(hs:shOf P t'=.many n)(h:(Nat.blt d 1024,zQ s x,s.st[ad]?,Nat.ble (off+n) cs.length)=(true,U.box ad off,some (SB.box cs),true))(q:WpO P is orc all l (s.put d (.agg ((cs.drop off).take n))) Q):WpO P is orc all (⟨some d,.load t' x,t,p,e,none⟩::l) s Q:=zg (congrArg (fun v=>v.1) h) (congrArg (fun v=>v.2.1) h) (congrArg (fun v=>v.2.2.1) h) hs (congrArg (fun v=>v.2.2.2) h) q
theorem kC(hs:shOf P t'=.one)(h:(Nat.blt d 1024,zQ s x,cs[off]?)=(true,U.eref cs off,some u))(q:WpO P is orc all l (s.put d (dg u)) Q):WpO P is orc all (⟨some d,.load t' x,t,p,e,none⟩::l) s Q:=o_loadR1 (congrArg (fun v=>v.1) h) (congrArg (fun v=>v.2.1) h) hs (congrArg (fun v=>v.2.2) h) q
theorem kD{z:Operand}(h:(Nat.blt d 1024,zQ s z,c)=(true,U.bool c,false))(q:WpO P is orc all l (s.put d (dg (zQ s y))) Q):WpO P is orc all (⟨some d,.pick z x y,t,p,e,none⟩::l) s Q:=wY (congrArg (fun v=>v.1) h) (congrArg (fun v=>v.2.1) h) (congrArg (fun v=>v.2.2) h) q
theorem kE{z:Operand}(h:(Nat.blt d 1024,zQ s z,c)=(true,U.bool c,true))(q:WpO P is orc all l (s.put d (dg (zQ s x))) Q):WpO P is orc all (⟨some d,.pick z x y,t,p,e,none⟩::l) s Q:=wD (congrArg (fun v=>v.1) h) (congrArg (fun v=>v.2.1) h) (congrArg (fun v=>v.2.2) h) q
theorem kF{b:Prop}[Decidable b](h:b):decide b=true:=decide_eq_true h
theorem kG{b:Prop}[Decidable b](h: ¬ b):decide b=false:=decide_eq_false h
theorem Holds.n1{a0:Nat}{x0:U}(h:(s.fr a0,s.al)=(x0,[])):Holds s [(a0,x0)]:=.cons (congrArg (fun v=>v.1) h) (.nil (congrArg (fun v=>v.2) h))
theorem Holds.n2{a0 a1:Nat}{x0 x1:U}(h:(s.fr a0,s.fr a1,s.al)=(x0,x1,[])):Holds s [(a0,x0),(a1,x1)]:=.cons (congrArg (fun v=>v.1) h) (.cons (congrArg (fun v=>v.2.1) h) (.nil (congrArg (fun v=>v.2.2) h)))
theorem Holds.n3{a0 a1 a2:Nat}{x0 x1 x2:U}(h:(s.fr a0,s.fr a1,s.fr a2,s.al)=(x0,x1,x2,[])):Holds s [(a0,x0),(a1,x1),(a2,x2)]:=.cons (congrArg (fun v=>v.1) h) (.cons (congrArg (fun v=>v.2.1) h) (.cons (congrArg (fun v=>v.2.2.1) h) (.nil (congrArg (fun v=>v.2.2.2) h))))
theorem Holds.n4{a0 a1 a2 a3:Nat}{x0 x1 x2 x3:U}(h:(s.fr a0,s.fr a1,s.fr a2,s.fr a3,s.al)=(x0,x1,x2,x3,[])):Holds s [(a0,x0),(a1,x1),(a2,x2),(a3,x3)]:=.cons (congrArg (fun v=>v.1) h) (.cons (congrArg (fun v=>v.2.1) h) (.cons (congrArg (fun v=>v.2.2.1) h) (.cons (congrArg (fun v=>v.2.2.2.1) h) (.nil (congrArg (fun v=>v.2.2.2.2) h)))))
theorem Holds.n5{a0 a1 a2 a3 a4:Nat}{x0 x1 x2 x3 x4:U}(h:(s.fr a0,s.fr a1,s.fr a2,s.fr a3,s.fr a4,s.al)=(x0,x1,x2,x3,x4,[])):Holds s [(a0,x0),(a1,x1),(a2,x2),(a3,x3),(a4,x4)]:=.cons (congrArg (fun v=>v.1) h) (.cons (congrArg (fun v=>v.2.1) h) (.cons (congrArg (fun v=>v.2.2.1) h) (.cons (congrArg (fun v=>v.2.2.2.1) h) (.cons (congrArg (fun v=>v.2.2.2.2.1) h) (.nil (congrArg (fun v=>v.2.2.2.2.2) h))))))
theorem Holds.n6{a0 a1 a2 a3 a4 a5:Nat}{x0 x1 x2 x3 x4 x5:U}(h:(s.fr a0,s.fr a1,s.fr a2,s.fr a3,s.fr a4,s.fr a5,s.al)=(x0,x1,x2,x3,x4,x5,[])):Holds s [(a0,x0),(a1,x1),(a2,x2),(a3,x3),(a4,x4),(a5,x5)]:=.cons (congrArg (fun v=>v.1) h) (.cons (congrArg (fun v=>v.2.1) h) (.cons (congrArg (fun v=>v.2.2.1) h) (.cons (congrArg (fun v=>v.2.2.2.1) h) (.cons (congrArg (fun v=>v.2.2.2.2.1) h) (.cons (congrArg (fun v=>v.2.2.2.2.2.1) h) (.nil (congrArg (fun v=>v.2.2.2.2.2.2) h)))))))
theorem Holds.n7{a0 a1 a2 a3 a4 a5 a6:Nat}{x0 x1 x2 x3 x4 x5 x6:U}(h:(s.fr a0,s.fr a1,s.fr a2,s.fr a3,s.fr a4,s.fr a5,s.fr a6,s.al)=(x0,x1,x2,x3,x4,x5,x6,[])):Holds s [(a0,x0),(a1,x1),(a2,x2),(a3,x3),(a4,x4),(a5,x5),(a6,x6)]:=.cons (congrArg (fun v=>v.1) h) (.cons (congrArg (fun v=>v.2.1) h) (.cons (congrArg (fun v=>v.2.2.1) h) (.cons (congrArg (fun v=>v.2.2.2.1) h) (.cons (congrArg (fun v=>v.2.2.2.2.1) h) (.cons (congrArg (fun v=>v.2.2.2.2.2.1) h) (.cons (congrArg (fun v=>v.2.2.2.2.2.2.1) h) (.nil (congrArg (fun v=>v.2.2.2.2.2.2.2) h))))))))
theorem Holds.n8{a0 a1 a2 a3 a4 a5 a6 a7:Nat}{x0 x1 x2 x3 x4 x5 x6 x7:U}(h:(s.fr a0,s.fr a1,s.fr a2,s.fr a3,s.fr a4,s.fr a5,s.fr a6,s.fr a7,s.al)=(x0,x1,x2,x3,x4,x5,x6,x7,[])):Holds s [(a0,x0),(a1,x1),(a2,x2),(a3,x3),(a4,x4),(a5,x5),(a6,x6),(a7,x7)]:=.cons (congrArg (fun v=>v.1) h) (.cons (congrArg (fun v=>v.2.1) h) (.cons (congrArg (fun v=>v.2.2.1) h) (.cons (congrArg (fun v=>v.2.2.2.1) h) (.cons (congrArg (fun v=>v.2.2.2.2.1) h) (.cons (congrArg (fun v=>v.2.2.2.2.2.1) h) (.cons (congrArg (fun v=>v.2.2.2.2.2.2.1) h) (.cons (congrArg (fun v=>v.2.2.2.2.2.2.2.1) h) (.nil (congrArg (fun v=>v.2.2.2.2.2.2.2.2) h)))))))))
theorem Holds.n9{a0 a1 a2 a3 a4 a5 a6 a7 a8:Nat}{x0 x1 x2 x3 x4 x5 x6 x7 x8:U}(h:(s.fr a0,s.fr a1,s.fr a2,s.fr a3,s.fr a4,s.fr a5,s.fr a6,s.fr a7,s.fr a8,s.al)=(x0,x1,x2,x3,x4,x5,x6,x7,x8,[])):Holds s [(a0,x0),(a1,x1),(a2,x2),(a3,x3),(a4,x4),(a5,x5),(a6,x6),(a7,x7),(a8,x8)]:=.cons (congrArg (fun v=>v.1) h) (.cons (congrArg (fun v=>v.2.1) h) (.cons (congrArg (fun v=>v.2.2.1) h) (.cons (congrArg (fun v=>v.2.2.2.1) h) (.cons (congrArg (fun v=>v.2.2.2.2.1) h) (.cons (congrArg (fun v=>v.2.2.2.2.2.1) h) (.cons (congrArg (fun v=>v.2.2.2.2.2.2.1) h) (.cons (congrArg (fun v=>v.2.2.2.2.2.2.2.1) h) (.cons (congrArg (fun v=>v.2.2.2.2.2.2.2.2.1) h) (.nil (congrArg (fun v=>v.2.2.2.2.2.2.2.2.2) h))))))))))
theorem Holds.n10{a0 a1 a2 a3 a4 a5 a6 a7 a8 a9:Nat}{x0 x1 x2 x3 x4 x5 x6 x7 x8 x9:U}(h:(s.fr a0,s.fr a1,s.fr a2,s.fr a3,s.fr a4,s.fr a5,s.fr a6,s.fr a7,s.fr a8,s.fr a9,s.al)=(x0,x1,x2,x3,x4,x5,x6,x7,x8,x9,[])):Holds s [(a0,x0),(a1,x1),(a2,x2),(a3,x3),(a4,x4),(a5,x5),(a6,x6),(a7,x7),(a8,x8),(a9,x9)]:=.cons (congrArg (fun v=>v.1) h) (.cons (congrArg (fun v=>v.2.1) h) (.cons (congrArg (fun v=>v.2.2.1) h) (.cons (congrArg (fun v=>v.2.2.2.1) h) (.cons (congrArg (fun v=>v.2.2.2.2.1) h) (.cons (congrArg (fun v=>v.2.2.2.2.2.1) h) (.cons (congrArg (fun v=>v.2.2.2.2.2.2.1) h) (.cons (congrArg (fun v=>v.2.2.2.2.2.2.2.1) h) (.cons (congrArg (fun v=>v.2.2.2.2.2.2.2.2.1) h) (.cons (congrArg (fun v=>v.2.2.2.2.2.2.2.2.2.1) h) (.nil (congrArg (fun v=>v.2.2.2.2.2.2.2.2.2.2) h)))))))))))
end
end Vam
namespace Go.Proofs.YtpckmojdekdbbaaGreat.settles
open Vam
section
abbrev Sp:=Int×Int
def zAj(a b:Sp):Sp:=(max a.1 b.1,min a.2 b.2)
def zBT(a b:Sp):Sp:=(a.1+b.1,a.2+b.2)
def minusS(a b:Sp):Sp:=(a.1 - b.2,a.2 - b.1)
def fwS(S T:Nat→Sp):Nat→Sp
 |0=>S 0
 |i+1=>zAj (S (i+1)) (zBT (fwS S T i) (T i))
def zr(n:Nat)(S T:Nat→Sp):Nat→Sp:=fun i=>if i≤n then fwS S T i else S i
def bwS(S T:Nat→Sp)(n:Nat):Nat→Sp
 |0=>S n
 |k+1=>zAj (S (n - (k+1))) (minusS (bwS S T n k) (T (n - (k+1))))
def zBO(n:Nat)(S T:Nat→Sp):Nat→Sp:=fun i=>if i≤n then bwS S T n (n - i)else S i
def yP(n:Nat)(S T:Nat→Sp):Nat→Sp:=zBO n (zr n S T) T
def updS(S:Nat→Sp)(j:Nat)(x:Sp):Nat→Sp:=fun k=>if k=j then x else S k
theorem zCH(n:Nat)(S T:Nat→Sp):zr n S T 0=S 0:=by simp[zr,fwS]
theorem zBQ{n i:Nat}(S T:Nat→Sp)(h:i<n):zr n S T (i+1)=zAj (S (i+1)) (zBT (zr n S T i) (T i)):=by
 unfold zr
 rw[if_pos (by omega),if_pos (by omega)];rfl
theorem zEc{n i:Nat}(S T:Nat→Sp)(h:n<i):zr n S T i=S i:=by unfold zr;rw[if_neg (by omega)]
theorem forth_start(S T:Nat→Sp):zr 0 S T=S:=by
 funext i
 unfold zr
 split
 ·obtain rfl:i=0:=by omega
  rfl
 ·rfl
theorem forth_more(n:Nat)(S T:Nat→Sp):zr (n+1) S T=updS (zr n S T) (n+1) (zAj (S (n+1)) (zBT (zr n S T n) (T n))):=by
 funext i
 unfold updS
 by_cases e:i=n+1
 ·subst e
  rw[if_pos rfl]
  unfold zr
  rw[if_pos (Nat.le_refl _),if_pos (Nat.le_refl _)];rfl
 ·rw[if_neg e]
  unfold zr
  by_cases h:i≤n
  ·rw[if_pos h,if_pos (by omega)]
  ·rw[if_neg h,if_neg (by omega)]
theorem zBY(n:Nat)(S T:Nat→Sp):zBO n S T n=S n:=by simp[zBO,bwS]
theorem zBX{n i:Nat}(S T:Nat→Sp)(h:i<n):zBO n S T i=zAj (S i) (minusS (zBO n S T (i+1)) (T i)):=by
 unfold zBO
 rw[if_pos (by omega),if_pos (by omega)]
 obtain⟨k,hk⟩:∃k,n - i=k+1:=⟨n - i - 1,by omega⟩
 rw[hk,show n - (i+1)=k by omega]
 show zAj (S (n - (k+1))) (minusS (bwS S T n k) (T (n - (k+1))))=_
 rw[show n - (k+1)=i by omega]
theorem zGG{n i:Nat}(S T:Nat→Sp)(h:n<i):zBO n S T i=S i:=by unfold zBO;rw[if_neg (by omega)]
def bckP(n m:Nat)(S T:Nat→Sp):Nat→Sp:=fun j=>if m≤j then zBO n S T j else S j
theorem bck_all(n:Nat)(S T:Nat→Sp):bckP n 0 S T=zBO n S T:=by funext j;unfold bckP;rw[if_pos (Nat.zero_le _)]
theorem bck_none(n:Nat)(S T:Nat→Sp):bckP n n S T=S:=by
 funext j
 unfold bckP
 split
 ·by_cases e:j=n
  ·subst e;exact zBY _ _ _
  ·exact zGG _ _ (by omega)
 ·rfl
theorem bck_more{n m:Nat}(S T:Nat→Sp)(h:m<n):bckP n m S T=updS (bckP n (m+1) S T) m (zAj (bckP n (m+1) S T m) (minusS (bckP n (m+1) S T (m+1)) (T m))):=by
 funext j
 unfold updS
 by_cases e:j=m
 ·subst e
  rw[if_pos rfl]
  unfold bckP
  rw[if_pos (Nat.le_refl _),if_neg (by omega),if_pos (Nat.le_refl _)]
  exact zBX _ _ h
 ·rw[if_neg e]
  unfold bckP
  by_cases h2:m+1≤j
  ·rw[if_pos h2,if_pos (by omega)]
  ·rw[if_neg h2,if_neg (by omega)]
structure Stb(n:Nat)(S T:Nat→Sp):Prop where
 a:∀i,i<n→(S i).1+(T i).1≤(S (i+1)).1
 b:∀i,i<n→(S (i+1)).2≤(S i).2+(T i).2
 c:∀i,i<n→(S (i+1)).1 - (T i).2≤(S i).1
 d:∀i,i<n→(S i).2≤(S (i+1)).2 - (T i).1
def Ups(n:Nat)(T:Nat→Sp):Prop:=∀i,i<n→(T i).1≤(T i).2
theorem zEM{n:Nat}(S:Nat→Sp){T:Nat→Sp}(hT:Ups n T):Stb n (yP n S T) T:=by
 have key:∀i,i<n→(yP n S T i).1=max (zr n S T i).1 ((yP n S T (i+1)).1 - (T i).2)∧(yP n S T i).2=min (zr n S T i).2 ((yP n S T (i+1)).2 - (T i).1):=fun i hi=>by
  unfold yP
  rw[zBX _ _ hi];exact⟨rfl,rfl⟩
 have fk:∀i,i<n→(zr n S T i).1+(T i).1≤(zr n S T (i+1)).1∧(zr n S T (i+1)).2≤(zr n S T i).2+(T i).2:=fun i hi=>by
  rw[zBQ S T hi]
  unfold zAj zBT
  exact⟨Int.le_max_right _ _,Int.min_le_right _ _⟩
 have up:∀i,i≤n→(zr n S T i).1≤(yP n S T i).1∧(yP n S T i).2≤(zr n S T i).2:=fun i hi=>by
  by_cases e:i=n
  ·subst e;unfold yP;rw[zBY];exact⟨Int.le_refl _,Int.le_refl _⟩
  ·have:=key i (by omega);omega
 have h4:∀i,i<n→(yP n S T i).1+(T i).1≤(yP n S T (i+1)).1∧(yP n S T (i+1)).2≤(yP n S T i).2+(T i).2∧(yP n S T (i+1)).1 - (T i).2≤(yP n S T i).1∧(yP n S T i).2≤(yP n S T (i+1)).2 - (T i).1:=fun i hi=>by
  have h1:=key i hi
  have h2:=fk i hi
  have h3:=up (i+1) (by omega)
  have h5:=hT i hi
  omega
 exact⟨fun i hi=>(h4 i hi).1,fun i hi=>(h4 i hi).2.1,fun i hi=>(h4 i hi).2.2.1,fun i hi=>(h4 i hi).2.2.2⟩
theorem meet_same{a b:Sp}(h1:b.1≤a.1)(h2:a.2≤b.2):zAj a b=a:=by
 unfold zAj
 rw[Int.max_eq_left h1,Int.min_eq_left h2]
theorem stb_forth{n:Nat}{S T:Nat→Sp}(h:Stb n S T):zr n S T=S:=by
 funext i
 by_cases hi:i≤n
 ·induction i with
  |zero=>exact zCH _ _ _
  |succ i ih=>
   rw[zBQ _ _ (by omega),ih (by omega)]
   exact meet_same (h.a i (by omega)) (h.b i (by omega))
 ·exact zEc _ _ (by omega)
theorem stb_back{n:Nat}{S T:Nat→Sp}(h:Stb n S T):zBO n S T=S:=by
 funext i
 by_cases hi:i≤n
 ·obtain⟨k,hk⟩:∃k,i+k=n:=⟨n - i,by omega⟩
  induction k generalizing i with
  |zero=>
   obtain rfl:i=n:=hk
   exact zBY _ _ _
  |succ k ih=>
   rw[zBX _ _ (by omega),ih (i+1) (by omega) (by omega)]
   exact meet_same (h.c i (by omega)) (h.d i (by omega))
 ·exact zGG _ _ (by omega)
theorem zHX{n:Nat}(S:Nat→Sp){T:Nat→Sp}(hT:Ups n T):zr n (yP n S T) T=yP n S T∧zBO n (yP n S T) T=yP n S T:=⟨stb_forth (zEM S hT),stb_back (zEM S hT)⟩
theorem setl_in(n:Nat)(S T:Nat→Sp){i:Nat}(hi:i≤n):(S i).1≤(yP n S T i).1∧(yP n S T i).2≤(S i).2:=by
 have h1:(S i).1≤(zr n S T i).1∧(zr n S T i).2≤(S i).2:=by
  cases i with
  |zero=>rw[zCH];exact⟨Int.le_refl _,Int.le_refl _⟩
  |succ i=>rw[zBQ _ _ (by omega)];exact⟨Int.le_max_left _ _,Int.min_le_left _ _⟩
 have h2:(zr n S T i).1≤(yP n S T i).1∧(yP n S T i).2≤(zr n S T i).2:=by
  unfold yP
  by_cases e:i=n
  ·subst e;rw[zBY];exact⟨Int.le_refl _,Int.le_refl _⟩
  ·rw[zBX _ _ (by omega)];exact⟨Int.le_max_left _ _,Int.min_le_left _ _⟩
 omega
structure OkC(n:Nat)(S T:Nat→Sp)(r:Nat→Int):Prop where
 at':∀i,i≤n→(S i).1≤r i∧r i≤(S i).2
 st:∀i,i<n→(T i).1≤r (i+1) - r i∧r (i+1) - r i≤(T i).2
theorem setl_low{n:Nat}{S T:Nat→Sp}(hT:Ups n T)(hn:∀i,i≤n→(yP n S T i).1≤(yP n S T i).2):OkC n S T fun i=>(yP n S T i).1:=by
 have hs:=zEM S hT
 refine⟨fun i hi=>?_,fun i hi=>?_⟩
 ·have:=setl_in n S T hi;have:=hn i hi;show _≤(yP n S T i).1∧(yP n S T i).1≤_;omega
 ·have h1:=hs.a i hi
  have h2:=hs.c i hi
  show _≤(yP n S T (i+1)).1 - (yP n S T i).1∧(yP n S T (i+1)).1 - (yP n S T i).1≤_
  omega
theorem setl_high{n:Nat}{S T:Nat→Sp}(hT:Ups n T)(hn:∀i,i≤n→(yP n S T i).1≤(yP n S T i).2):OkC n S T fun i=>(yP n S T i).2:=by
 have hs:=zEM S hT
 refine⟨fun i hi=>?_,fun i hi=>?_⟩
 ·have:=setl_in n S T hi;have:=hn i hi;show _≤(yP n S T i).2∧(yP n S T i).2≤_;omega
 ·have h1:=hs.b i hi
  have h2:=hs.d i hi
  show _≤(yP n S T (i+1)).2 - (yP n S T i).2∧(yP n S T (i+1)).2 - (yP n S T i).2≤_
  omega
def Bnd(n:Nat)(B:Int)(S:Nat→Sp):Prop:=∀i,i≤n→ -B≤(S i).1∧(S i).1≤B∧ -B≤(S i).2∧(S i).2≤B
theorem forth_bnd{n:Nat}{B C:Int}{S T:Nat→Sp}(h:Bnd n B S)(hC:0≤C)(hT:∀i,i<n→ -C≤(T i).1∧(T i).1≤C∧ -C≤(T i).2∧(T i).2≤C):∀i,i≤n→ -(B+i*C)≤(zr n S T i).1∧(zr n S T i).1≤B+i*C∧ -(B+i*C)≤(zr n S T i).2∧(zr n S T i).2≤B+i*C:=by
 intro i hi
 induction i with
 |zero=>rw[zCH];have:=h 0 hi;simp;omega
 |succ i ih=>
  rw[zBQ _ _ (by omega)]
  have h1:=ih (by omega)
  have h2:=hT i (by omega)
  have h3:=h (i+1) hi
  have e:((i+1:Nat):Int)*C=i*C+C:=by rw[Int.natCast_add,Int.add_mul];simp
  have e2:0≤(i:Int)*C:=Int.mul_nonneg (Int.natCast_nonneg _) hC
  rw[e]
  generalize (i:Int)*C=m at*
  show -_≤max _ (_+_)∧max _ (_+_)≤_∧ -_≤min _ (_+_)∧min _ (_+_)≤_
  omega
theorem back_bnd{n:Nat}{B C:Int}{S T:Nat→Sp}(h:Bnd n B S)(hC:0≤C)(hT:∀i,i<n→ -C≤(T i).1∧(T i).1≤C∧ -C≤(T i).2∧(T i).2≤C):∀k i,i+k=n→ -(B+k*C)≤(zBO n S T i).1∧(zBO n S T i).1≤B+k*C∧ -(B+k*C)≤(zBO n S T i).2∧(zBO n S T i).2≤B+k*C:=by
 intro k
 induction k with
 |zero=>
  intro i hk
  obtain rfl:i=n:=hk
  rw[zBY];have:=h i (Nat.le_refl _);simp;omega
 |succ k ih=>
  intro i hk
  rw[zBX _ _ (by omega)]
  have h1:=ih (i+1) (by omega)
  have h2:=hT i (by omega)
  have h3:=h i (by omega)
  have e:((k+1:Nat):Int)*C=k*C+C:=by rw[Int.natCast_add,Int.add_mul];simp
  have e2:0≤(k:Int)*C:=Int.mul_nonneg (Int.natCast_nonneg _) hC
  rw[e]
  generalize (k:Int)*C=m at*
  show -_≤max _ (_ - _)∧max _ (_ - _)≤_∧ -_≤min _ (_ - _)∧min _ (_ - _)≤_
  omega
theorem mul_top{k n:Nat}{C:Int}(hC:0≤C)(h:k≤n):(k:Int)*C≤n*C:=Int.mul_le_mul_of_nonneg_right (by omega) hC
theorem forth_top{n:Nat}{B C:Int}{S T:Nat→Sp}(h:Bnd n B S)(hC:0≤C)(hT:∀i,i<n→ -C≤(T i).1∧(T i).1≤C∧ -C≤(T i).2∧(T i).2≤C):Bnd n (B+n*C) (zr n S T):=fun i hi=>by
 have h1:=forth_bnd h hC hT i hi
 have h2:=mul_top hC hi
 omega
theorem back_top{n:Nat}{B C:Int}{S T:Nat→Sp}(h:Bnd n B S)(hC:0≤C)(hT:∀i,i<n→ -C≤(T i).1∧(T i).1≤C∧ -C≤(T i).2∧(T i).2≤C):Bnd n (B+n*C) (zBO n S T):=fun i hi=>by
 have h1:=back_bnd h hC hT (n - i) i (by omega)
 have h2:=mul_top (n:=n) hC (show n - i≤n by omega)
 omega
structure Ky where
 bg:Sp
 rt:Sp
 fx:Bool
 dn:Int
 up:Int
structure Fl where
 yr:Int
 ky:Int
 bs:Sp
structure Lk where
 yr:Int
 ky:Int
 rd:Int
 er:Int
structure Zt where
 yrs:Int
 keys:List Ky
 steps:List Sp
 files:List Fl
 looks:List Lk
def filS(fs:List Fl)(k y:Int)(a:Sp):Sp:=fs.foldl (fun a f=>if f.ky=k∧f.yr=y then zBT a f.bs else a) a
def lkS(ls:List Lk)(k y:Int)(a:Sp):Sp:=ls.foldl (fun a l=>if l.ky=k∧l.yr=y then zAj a (l.rd - l.er,l.rd+l.er)else a) a
def Zt.key(z:Zt)(k:Nat):Ky:=(z.keys[k]?).getD ⟨(0,0),(0,0),false,0,0⟩
def grwS(z:Zt)(k:Nat):Nat→Sp:=fun y=>zBT (z.key k).rt (filS z.files k y (0,0))
def begS(z:Zt)(k:Nat):Nat→Sp:=fun y=>if y=0 then zAj (lkS z.looks k 0 (1800,23200)) (z.key k).bg else if y≤z.yrs.toNat then lkS z.looks k y (1800,23200)else(0,0)
def pitS(z:Zt)(k:Nat):Nat→Sp:=yP z.yrs.toNat (begS z k) (grwS z k)
def zCF(a b:Int)(x:Sp):Prop:=a≤x.1∧x.1≤x.2∧x.2≤b
structure ZOk(z:Zt):Prop where
 y:1≤z.yrs∧z.yrs≤40
 k:1≤z.keys.length∧z.keys.length≤7
 s:z.steps.length+1=z.keys.length
 f:z.files.length≤6
 l:z.looks.length≤12
 kk:∀x∈z.keys,zCF 5000 20000 x.bg∧zCF (-50) 50 x.rt∧(0≤x.dn∧x.dn≤1000)∧(0≤x.up∧x.up≤1000)
 ss:∀x∈z.steps,zCF 0 30000 x
 ff:∀x∈z.files,(0≤x.yr∧x.yr≤z.yrs - 1)∧(0≤x.ky∧x.ky≤(z.keys.length:Int) - 1)∧zCF (-200) 200 x.bs
 ll:∀x∈z.looks,(0≤x.yr∧x.yr≤z.yrs)∧(0≤x.ky∧x.ky≤(z.keys.length:Int) - 1)∧(0≤x.rd∧x.rd≤30000)∧(0≤x.er∧x.er≤500)
theorem ZOk.at{z:Zt}(h:ZOk z){k:Nat}(hk:k<z.keys.length):zCF 5000 20000 (z.key k).bg∧zCF (-50) 50 (z.key k).rt∧(0≤(z.key k).dn∧(z.key k).dn≤1000)∧(0≤(z.key k).up∧(z.key k).up≤1000):=by
 refine h.kk _ ?_
 unfold Zt.key
 rw[List.getElem?_eq_getElem hk]
 exact List.getElem_mem _
structure Row(z:Zt)(k:Nat)(r:Nat→Int):Prop where
 b:(z.key k).bg.1≤r 0∧r 0≤(z.key k).bg.2
 g:∀y,y<z.yrs.toNat→(grwS z k y).1≤r (y+1) - r y∧r (y+1) - r y≤(grwS z k y).2
 l:∀x∈z.looks,x.ky=k→x.rd - x.er≤r x.yr.toNat∧r x.yr.toNat≤x.rd+x.er
theorem lk_cons(x:Lk)(ls:List Lk)(k y:Int)(a:Sp):lkS (x::ls) k y a=lkS ls k y (if x.ky=k∧x.yr=y then zAj a (x.rd - x.er,x.rd+x.er)else a):=rfl
theorem lk_in{k y:Int}{n:Int}:∀(ls:List Lk) (a:Sp),((lkS ls k y a).1≤n∧n≤(lkS ls k y a).2)↔(a.1≤n∧n≤a.2)∧∀x∈ls,x.ky=k∧x.yr=y→x.rd - x.er≤n∧n≤x.rd+x.er:=by
 intro ls
 induction ls with
 |nil=>intro a;simp[lkS]
 |cons x ls ih=>
  intro a
  rw[List.forall_mem_cons,lk_cons]
  by_cases c:x.ky=k∧x.yr=y
  ·rw[if_pos c,ih]
   unfold zAj
   constructor
   ·rintro⟨h1,h2⟩;exact⟨by omega,fun _=>by omega,h2⟩
   ·rintro⟨h1,h2,h3⟩;have:=h2 c;exact⟨by show max _ _≤n∧n≤min _ _;omega,h3⟩
  ·rw[if_neg c,ih]
   constructor
   ·rintro⟨h1,h2⟩;exact⟨h1,fun h=>absurd h c,h2⟩
   ·rintro⟨h1,_,h3⟩;exact⟨h1,h3⟩
theorem lk_bnd{k y:Int}:∀(ls:List Lk) (a:Sp),(∀x∈ls,(0≤x.rd∧x.rd≤30000)∧(0≤x.er∧x.er≤500))→ -40000≤a.1∧a.1≤40000∧ -40000≤a.2∧a.2≤40000→ -40000≤(lkS ls k y a).1∧(lkS ls k y a).1≤40000∧ -40000≤(lkS ls k y a).2∧(lkS ls k y a).2≤40000:=by
 intro ls
 induction ls with
 |nil=>intro a _ h;exact h
 |cons x ls ih=>
  intro a hx h
  have h1:=hx x List.mem_cons_self
  rw[lk_cons]
  refine ih _ (fun y hy=>hx y (List.mem_cons_of_mem _ hy)) ?_
  by_cases c:x.ky=k∧x.yr=y
  ·rw[if_pos c];unfold zAj;show -40000≤max _ _∧max _ _≤40000∧ -40000≤min _ _∧min _ _≤40000;omega
  ·rw[if_neg c];exact h
def nfl(fs:List Fl)(k y:Int):Int:=((fs.filter fun f=>decide (f.ky=k∧f.yr=y)).length:Int)
theorem fil_bnd{k y:Int}:∀(fs:List Fl) (a:Sp),(∀x∈fs,zCF (-200) 200 x.bs)→a.1 - 200*nfl fs k y≤(filS fs k y a).1∧(filS fs k y a).2≤a.2+200*nfl fs k y∧(a.1≤a.2→(filS fs k y a).1≤(filS fs k y a).2):=by
 intro fs
 induction fs with
 |nil=>intro a _;exact⟨by simp[filS,nfl],by simp[filS,nfl],fun h=>h⟩
 |cons x fs ih=>
  intro a hx
  have h1:=hx x List.mem_cons_self
  unfold zCF at h1
  have h2:=ih (zBT a x.bs) fun y hy=>hx y (List.mem_cons_of_mem _ hy)
  have h3:=ih a fun y hy=>hx y (List.mem_cons_of_mem _ hy)
  by_cases c:x.ky=k∧x.yr=y
  ·have e:nfl (x::fs) k y=nfl fs k y+1:=by unfold nfl;rw[List.filter_cons_of_pos (by simpa using c),List.length_cons];simp
   rw[show filS (x::fs) k y a=filS fs k y (zBT a x.bs) by simp[filS,c],e]
   unfold zBT at h2 ⊢
   simp only at h2
   omega
  ·have e:nfl (x::fs) k y=nfl fs k y:=by unfold nfl;rw[List.filter_cons_of_neg (by simpa using c)]
   rw[show filS (x::fs) k y a=filS fs k y a by simp[filS,c],e]
   exact h3
def nbf(fs:List Fl)(k:Int)(y:Nat):Int:=((fs.filter fun f=>decide (f.ky=k∧0≤f.yr∧f.yr<(y:Int))).length:Int)
theorem nbf_succ(k:Int)(y:Nat):∀fs:List Fl,nbf fs k (y+1)=nbf fs k y+nfl fs k y:=by
 intro fs
 induction fs with
 |nil=>simp[nbf,nfl]
 |cons x fs ih=>
  unfold nbf nfl at*
  simp only[List.filter_cons]
  by_cases c1:x.ky=k∧x.yr=y
  ·rw[if_pos (by simp only[decide_eq_true_eq];omega),if_neg (by simp only[decide_eq_true_eq];omega),if_pos (by simp only[decide_eq_true_eq];omega)]
   simp only[List.length_cons];omega
  ·by_cases c2:x.ky=k∧0≤x.yr∧x.yr<y
   ·rw[if_pos (by simp only[decide_eq_true_eq];omega),if_pos (by simp only[decide_eq_true_eq];omega),if_neg (by simp only[decide_eq_true_eq];omega)]
    simp only[List.length_cons];omega
   ·rw[if_neg (by simp only[decide_eq_true_eq];omega),if_neg (by simp only[decide_eq_true_eq];omega),if_neg (by simp only[decide_eq_true_eq];omega)]
    exact ih
theorem nbf_le(fs:List Fl)(k:Int)(y:Nat):0≤nbf fs k y∧nbf fs k y≤fs.length:=by
 have:=List.length_filter_le (fun f:Fl=>decide (f.ky=k∧0≤f.yr∧f.yr<(y:Int))) fs
 unfold nbf;omega
theorem nfl_le(fs:List Fl)(k y:Int):0≤nfl fs k y∧nfl fs k y≤fs.length:=by
 have:=List.length_filter_le (fun f:Fl=>decide (f.ky=k∧f.yr=y)) fs
 unfold nfl;omega
section
variable {z:Zt}
theorem grw_ok(h:ZOk z){k:Nat}(hk:k<z.keys.length)(y:Nat):(grwS z k y).1≤(grwS z k y).2∧ -50 - 200*nfl z.files k y≤(grwS z k y).1∧(grwS z k y).2≤50+200*nfl z.files k y:=by
 have h1:=(h.at hk).2.1
 have h2:=fil_bnd (k:=k) (y:=y) z.files (0,0) fun x hx=>(h.ff x hx).2.2
 unfold zCF at h1
 have h3:=h2.2.2 (Int.le_refl _)
 unfold grwS zBT
 simp only at h2 ⊢
 omega
theorem grw_top(h:ZOk z){k:Nat}(hk:k<z.keys.length)(y:Nat): -1250≤(grwS z k y).1∧(grwS z k y).1≤1250∧ -1250≤(grwS z k y).2∧(grwS z k y).2≤1250:=by
 have h1:=grw_ok h hk y
 have h2:=nfl_le z.files k y
 have:=h.f
 omega
theorem row_far(h:ZOk z){k:Nat}(hk:k<z.keys.length){r:Nat→Int}(hr:Row z k r):∀y,y≤z.yrs.toNat→5000 - 50*(y:Int) - 200*nbf z.files k y≤r y∧r y≤20000+50*(y:Int)+200*nbf z.files k y:=by
 intro y hy
 induction y with
 |zero=>
  have h1:=(h.at hk).1
  have h2:=hr.b
  have h3:=nbf_le z.files k 0
  unfold zCF at h1;omega
 |succ y ih=>
  have h1:=ih (by omega)
  have h2:=hr.g y (by omega)
  have h3:=grw_ok h hk y
  rw[nbf_succ]
  omega
theorem row_in(h:ZOk z){k:Nat}(hk:k<z.keys.length){r:Nat→Int}(hr:Row z k r){y:Nat}(hy:y≤z.yrs.toNat):1800≤r y∧r y≤23200:=by
 have h1:=row_far h hk hr y hy
 have h2:=nbf_le z.files k y
 have:=h.f
 have:=h.y
 omega
theorem okc_row(h:ZOk z){k:Nat}(hk:k<z.keys.length){r:Nat→Int}:OkC z.yrs.toNat (begS z k) (grwS z k) r↔Row z k r:=by
 have hy0:=h.y
 constructor
 ·intro ho
  have h0:=ho.at' 0 (Nat.zero_le _)
  unfold begS at h0
  rw[if_pos rfl]at h0
  have h0':((lkS z.looks k 0 (1800,23200)).1≤r 0∧r 0≤(lkS z.looks k 0 (1800,23200)).2)∧(z.key k).bg.1≤r 0∧r 0≤(z.key k).bg.2:=by
   unfold zAj at h0
   simp only at h0
   omega
  refine⟨h0'.2,ho.st,fun x hx hxk=>?_⟩
  have hl:=(h.ll x hx).1
  by_cases e:x.yr=0
  ·have:=((lk_in _ _).1 h0'.1).2 x hx ⟨hxk,e⟩
   rw[e];exact this
  ·have h1:=ho.at' x.yr.toNat (by omega)
   unfold begS at h1
   rw[if_neg (by omega),if_pos (by omega)]at h1
   exact((lk_in _ _).1 h1).2 x hx ⟨hxk,by omega⟩
 ·intro hr
  refine⟨fun y hy=>?_,hr.g⟩
  have hin:=row_in h hk hr hy
  have hl:(lkS z.looks k y (1800,23200)).1≤r y∧r y≤(lkS z.looks k y (1800,23200)).2:=(lk_in _ _).2 ⟨hin,fun x hx hxk=>by
   have:=hr.l x hx hxk.1
   rw[hxk.2]at this;exact this⟩
  unfold begS
  by_cases e:y=0
  ·subst e
   rw[if_pos rfl]
   have:=hr.b
   unfold zAj
   simp only
   have hl:(lkS z.looks k 0 (1800,23200)).1≤r 0∧r 0≤(lkS z.looks k 0 (1800,23200)).2:=hl
   omega
  ·rw[if_neg e,if_pos hy];exact hl
theorem grw_ups(h:ZOk z){k:Nat}(hk:k<z.keys.length):Ups z.yrs.toNat (grwS z k):=fun y _=>(grw_ok h hk y).1
def trueK(z:Zt)(k:Nat):Prop:=∀y,y≤z.yrs.toNat→(pitS z k y).1≤(pitS z k y).2
theorem low_row(h:ZOk z){k:Nat}(hk:k<z.keys.length)(ht:trueK z k):Row z k fun y=>(pitS z k y).1:=(okc_row h hk).1 (setl_low (grw_ups h hk) ht)
theorem high_row(h:ZOk z){k:Nat}(hk:k<z.keys.length)(ht:trueK z k):Row z k fun y=>(pitS z k y).2:=(okc_row h hk).1 (setl_high (grw_ups h hk) ht)
theorem beg_bnd(h:ZOk z){k:Nat}(hk:k<z.keys.length):Bnd z.yrs.toNat 40000 (begS z k):=fun y hy=>by
 have hl:∀y:Int,_:=fun y=>lk_bnd (k:=k) (y:=y) z.looks (1800,23200) (fun x hx=>(h.ll x hx).2.2) (by simp)
 have h1:=(h.at hk).1
 unfold zCF at h1
 unfold begS
 by_cases e:y=0
 ·rw[if_pos e]
  have:=hl 0
  unfold zAj
  show -40000≤max _ _∧max _ _≤40000∧ -40000≤min _ _∧min _ _≤40000
  omega
 ·rw[if_neg e,if_pos hy];exact hl y
end
end
section
variable {is:FuncId→Bool}{orc:Known}
theorem zCl{k:Nat}{a:U}(h:Dat k a):∀v∈[a],Dat k v:=fun v hv=>by
 simp only[List.mem_cons,List.not_mem_nil,or_false]at hv
 subst hv;exact h
theorem wQ{k:Nat}{a b:U}(h:Dat k a)(h2:Dat k b):∀v∈[a,b],Dat k v:=fun v hv=>by
 simp only[List.mem_cons,List.not_mem_nil,or_false]at hv
 rcases hv with rfl|rfl<;>assumption
theorem dat_l3{k:Nat}{a b c:U}(h:Dat k a)(h2:Dat k b)(h3:Dat k c):∀v∈[a,b,c],Dat k v:=fun v hv=>by
 simp only[List.mem_cons,List.not_mem_nil,or_false]at hv
 rcases hv with rfl|rfl|rfl<;>assumption
theorem zHC{k:Nat}{a b c d:U}(h:Dat k a)(h2:Dat k b)(h3:Dat k c)(h4:Dat k d):∀v∈[a,b,c,d],Dat k v:=fun v hv=>by
 simp only[List.mem_cons,List.not_mem_nil,or_false]at hv
 rcases hv with rfl|rfl|rfl|rfl<;>assumption
abbrev yQ(a b:Int):U:=.agg [.int .i64 a,.int .i64 b]
abbrev spU(x:Sp):U:=yQ x.1 x.2
theorem yO(a b:Int)(k:Nat):Dat (k+2) (yQ a b):=.agg _ _ (wQ (.int _ _ _) (.int _ _ _))
theorem zf(a b:Int):FlatU (yQ a b):=.agg _ fun c hc=>by
 simp only[List.mem_cons,List.not_mem_nil,or_false]at hc
 rcases hc with rfl|rfl<;>exact .int _ _
abbrev zb(l:List Int):List U:=l.map fun n=>.int .i64 n
theorem zn{l m:List SB}{i:Nat}{x:SB}(h:l[i]? =some x):(l++m)[i]? =some x:=by
 rw[List.getElem?_append_left (List.getElem?_eq_some_iff.1 h).1,h]
theorem yK(l:List SB)(x y:SB):(l++[x]).set l.length y=l++[y]:=by
 rw[List.set_append_right _ _ (Nat.le_refl _),Nat.sub_self];rfl
theorem drop_at{α:Type}{l:List α}{n:Nat}{x:α}(h:l[n]? =some x):l.drop n=x::l.drop (n+1):=by
 obtain⟨h1,h2⟩:=List.getElem?_eq_some_iff.1 h
 rw[←h2];exact List.drop_eq_getElem_cons h1
theorem zGO{α:Type}{β:Type}{f:β→α→β}{l:List α}{n:Nat}{x:α}{a:β}(h:l[n]? =some x):(l.take (n+1)).foldl f a=f ((l.take n).foldl f a) x:=by
 rw[List.take_add_one,List.foldl_append,h];rfl
abbrev Off(is:FuncId→Bool):Prop:=∀f,f≠21→is f=false
def inS(a b n:Int):Bool:=decide (a≤n)&&decide (n≤b)
theorem zBC{a b n:Int}:inS a b n=true↔a≤n∧n≤b:=by
 unfold inS
 rw[Bool.and_eq_true,decide_eq_true_eq,decide_eq_true_eq]
theorem pl35:zHN Tryz.prog 35=some [(0,1),(1,1)]:=by kernel_rfl
theorem sh35:shOf Tryz.prog 35=.many 2:=by kernel_rfl
theorem ze35:yf Tryz.prog 35=some ((.cons (.int .i64 0) (.cons (.int .i64 0) .nil)):V):=by kernel_rfl
noncomputable def b81:Code:=(Tryz.f81.body).getD .skip
theorem body81:bodyOf Tryz.prog 81=some (6,b81,[.cell 2 35]):=by kernel_rfl
theorem pure81:pureFn Tryz.prog 81=true:=by kernel_rfl
theorem yX:zc Tryz.prog 35 0=some (0,3):=by kernel_rfl
theorem yz:zc Tryz.prog 35 1=some (1,3):=by kernel_rfl
theorem sh3:shOf Tryz.prog 3=.one:=by kernel_rfl
noncomputable def b96:Code:=(Tryz.f96.body).getD .skip
theorem body96:bodyOf Tryz.prog 96=some (15,b96,[.tmp 4]):=by kernel_rfl
theorem pure96:pureFn Tryz.prog 96=true:=by kernel_rfl
noncomputable def b103:Code:=(Tryz.f103.body).getD .skip
theorem body103:bodyOf Tryz.prog 103=some (16,b103,[.cell 4 35]):=by kernel_rfl
theorem pure103:pureFn Tryz.prog 103=true:=by kernel_rfl
noncomputable def b117:Code:=(Tryz.f117.body).getD .skip
theorem body117:bodyOf Tryz.prog 117=some (16,b117,[.cell 4 35]):=by kernel_rfl
theorem pure117:pureFn Tryz.prog 117=true:=by kernel_rfl
theorem cl3:Program.cellsOf Tryz.prog 3=1:=by kernel_rfl
theorem ty40:tyOf Tryz.prog 40=.slice 3:=by kernel_rfl
noncomputable def b139:Code:=(Tryz.f139.body).getD .skip
theorem body139:bodyOf Tryz.prog 139=some (18,b139,[.tmp 4]):=by kernel_rfl
theorem pure139:pureFn Tryz.prog 139=true:=by kernel_rfl
noncomputable def b140:Code:=(Tryz.f140.body).getD .skip
theorem body140:bodyOf Tryz.prog 140=some (18,b140,[.tmp 4]):=by kernel_rfl
theorem pure140:pureFn Tryz.prog 140=true:=by kernel_rfl
theorem ze3:yf Tryz.prog 3=some ((.cons (.int .i64 0) .nil):V):=by kernel_rfl
noncomputable def b122:Code:=(Tryz.f122.body).getD .skip
theorem body122:bodyOf Tryz.prog 122=some (18,b122,[.cell 4 35]):=by kernel_rfl
theorem pure122:pureFn Tryz.prog 122=true:=by kernel_rfl
noncomputable def b109:Code:=(Tryz.f109.body).getD .skip
theorem body109:bodyOf Tryz.prog 109=some (8,b109,[.tmp 2]):=by kernel_rfl
theorem pure109:pureFn Tryz.prog 109=true:=by kernel_rfl
theorem zBg:zc Tryz.prog 126 0=some (0,35):=by kernel_rfl
theorem fld126_1:zc Tryz.prog 126 1=some (2,3):=by kernel_rfl
theorem fld126_2:zc Tryz.prog 126 2=some (3,3):=by kernel_rfl
noncomputable def b106:Code:=(Tryz.f106.body).getD .skip
theorem body106:bodyOf Tryz.prog 106=some (26,b106,[.tmp 2]):=by kernel_rfl
theorem pure106:pureFn Tryz.prog 106=true:=by kernel_rfl
noncomputable def b50:Code:=(Tryz.f50.body).getD .skip
theorem body50:bodyOf Tryz.prog 50=some (15,b50,[.tmp 6]):=by kernel_rfl
theorem pure50:pureFn Tryz.prog 50=true:=by kernel_rfl
noncomputable def b41:Code:=(Tryz.f41.body).getD .skip
theorem body41:bodyOf Tryz.prog 41=some (8,b41,[.cell 4 35]):=by kernel_rfl
theorem pure41:pureFn Tryz.prog 41=true:=by kernel_rfl
noncomputable def b42:Code:=(Tryz.f42.body).getD .skip
theorem body42:bodyOf Tryz.prog 42=some (17,b42,[.tmp 4]):=by kernel_rfl
theorem pure42:pureFn Tryz.prog 42=true:=by kernel_rfl
noncomputable def b55:Code:=(Tryz.f55.body).getD .skip
theorem body55:bodyOf Tryz.prog 55=some (24,b55,[.tmp 6]):=by kernel_rfl
theorem pure55:pureFn Tryz.prog 55=true:=by kernel_rfl
theorem zEN(hi:Off is)(n:Int):RetP Tryz.prog is orc 81 [.int .i64 n] (yQ n n):=by
 refine yp body81 pure81 (hi 81 (by decide)) rfl rfl (zCl (.int _ _ _)) (.inl (yO _ _ _)) ?_
 refine kQ (zi rfl ze35 ?_)
 refine zA ?_
 refine zL [(0,.int .i64 n),(2,U.box 0 0)] ([SB.box [.int .i64 0,.int .i64 0]]) (.n2 rfl) rfl fun fr=>?_
 refine kQ (zD rfl (zD rfl (zZ rfl ze35 pl35 rfl rfl ?_)))
 refine zS rfl rfl sh35 rfl rfl rfl rfl rfl ?_
 refine zA (zw ?_)
 refine⟨.inr rfl,_,.cons _ _ _ _ (.cellN 2 35 _ _ _ _ rfl rfl sh35 rfl) .nil,?_⟩
 exact .refl _
theorem ret96(hi:Off is)(a b n:Int):RetP Tryz.prog is orc 96 [yQ a b,.int .i64 n] (.bool (inS a b n)):=by
 refine yp body96 pure96 (hi 96 (by decide)) rfl rfl (wQ (yO a b 6) (.int _ _ _)) (.inl (.bool _ _)) ?_
 unfold inS
 by_cases h:a≤n
 ·rw[kF h,Bool.true_and]
  refine kQ (ya rfl rfl (zE rfl (zA ?_)))
  refine zL [(1,.int .i64 n),(2,U.box 0 0)] ([SB.box [.int .i64 a,.int .i64 b]]) (.n2 rfl) rfl fun fr=>?_
  refine kQ (kw rfl yX (kA sh3 rfl (zD rfl (kq rfl (zD rfl (kh rfl (kF (by omega)) ?_))))))
  refine zD rfl (kh rfl (kF (by omega)) ?_)
  refine kw rfl yz (kh rfl (kF (by omega)) ?_)
  refine kA sh3 rfl (kh rfl (kF (by omega)) ?_)
  refine kq rfl (wD rfl rfl (kF (by omega)) ?_)
  refine zE rfl (zA (zw ?_))
  refine⟨.inr rfl,_,.cons _ _ _ _ (.tmp 4) .nil,?_⟩
  exact .refl _
 ·rw[kG h,Bool.false_and]
  refine kQ (ya rfl rfl (zE rfl (zA ?_)))
  refine zL [(1,.int .i64 n),(2,U.box 0 0)] ([SB.box [.int .i64 a,.int .i64 b]]) (.n2 rfl) rfl fun fr=>?_
  refine kQ (kw rfl yX (kA sh3 rfl (zD rfl (kq rfl (zD rfl (kg rfl (kG (by omega)) ?_))))))
  refine kg rfl (kG (by omega)) ?_
  refine kg rfl (kG (by omega)) ?_
  refine kg rfl (kG (by omega)) ?_
  refine wY rfl rfl (kG (by omega)) ?_
  refine zE rfl (zA (zw ?_))
  refine⟨.inr rfl,_,.cons _ _ _ _ (.tmp 4) .nil,?_⟩
  exact .refl _
theorem ret103(hi:Off is)(a b c d:Int)(h1:I64 (a+c))(h2:I64 (b+d)):RetP Tryz.prog is orc 103 [yQ a b,yQ c d] (yQ (a+c) (b+d)):=by
 refine yp body103 pure103 (hi 103 (by decide)) rfl rfl (wQ (yO a b 6) (yO c d 6)) (.inl (yO _ _ _)) ?_
 refine kQ (ya rfl rfl (ya rfl rfl (zi rfl ze35 ?_)))
 refine zA ?_
 refine zL [(2,U.box 0 0),(3,U.box 1 0),(4,U.box 2 0)] ([SB.box [.int .i64 a,.int .i64 b],SB.box [.int .i64 c,.int .i64 d],SB.box [.int .i64 0,.int .i64 0]]) (.n3 rfl) rfl fun fr=>?_
 refine kQ (kw rfl yX (kA sh3 rfl (kw rfl yX (kA sh3 rfl (kz rfl h1 ?_)))))
 refine kw rfl yz (kA sh3 rfl (kw rfl yz (kA sh3 rfl (kz rfl h2 ?_))))
 refine zZ rfl ze35 pl35 rfl rfl ?_
 refine zS rfl rfl sh35 rfl rfl rfl rfl rfl ?_
 refine zA (zw ?_)
 refine⟨.inr rfl,_,.cons _ _ _ _ (.cellN 4 35 _ _ _ _ rfl rfl sh35 rfl) .nil,?_⟩
 exact .refl _
theorem ret117(hi:Off is)(a b c d:Int)(h1:I64 (a - d))(h2:I64 (b - c)):RetP Tryz.prog is orc 117 [yQ a b,yQ c d] (yQ (a - d) (b - c)):=by
 refine yp body117 pure117 (hi 117 (by decide)) rfl rfl (wQ (yO a b 6) (yO c d 6)) (.inl (yO _ _ _)) ?_
 refine kQ (ya rfl rfl (ya rfl rfl (zi rfl ze35 ?_)))
 refine zA ?_
 refine zL [(2,U.box 0 0),(3,U.box 1 0),(4,U.box 2 0)] ([SB.box [.int .i64 a,.int .i64 b],SB.box [.int .i64 c,.int .i64 d],SB.box [.int .i64 0,.int .i64 0]]) (.n3 rfl) rfl fun fr=>?_
 refine kQ (kw rfl yX (kA sh3 rfl (kw rfl yz (kA sh3 rfl (zDc rfl rfl rfl h1 ?_)))))
 refine kw rfl yz (kA sh3 rfl (kw rfl yX (kA sh3 rfl (zDc rfl rfl rfl h2 ?_))))
 refine zZ rfl ze35 pl35 rfl rfl ?_
 refine zS rfl rfl sh35 rfl rfl rfl rfl rfl ?_
 refine zA (zw ?_)
 refine⟨.inr rfl,_,.cons _ _ _ _ (.cellN 4 35 _ _ _ _ rfl rfl sh35 rfl) .nil,?_⟩
 exact .refl _
set_option maxHeartbeats 4000000 in
theorem ret139(hi:Off is)(a:Int)(l:List Int)(hll:l.length≤4096):RetP Tryz.prog is orc 139 [.int .i64 a,.lst .ro 1 (zb l)] (.int .i64 (l.foldl max a)):=by
 refine yp body139 pure139 (hi 139 (by decide)) rfl rfl (wQ (.int _ _ _) (zEf 6 .ro (fun h=>by cases h) 1 l)) (.inl (.int _ _ _)) ?_
 refine kQ (zE rfl (zA (k_seq (kQ (zD rfl (zz rfl ty40 rfl (List.length_map _) ?_))))))
 refine zD rfl (zA (zR ?_))
 refine yq (fun k st=>∃n:Nat,k+n=l.length∧Holds st [(0,.int .i64 ((l.take n).foldl max a)),(7,.lst .ro 1 (zb l)),(8,.int .i64 l.length),(9,.int .i64 n)]) (fun k st hI=>?_) l.length _ ?_
 ·obtain⟨n,hk,hs⟩:=hI
  rw[hs.eq]
  by_cases hn:n<l.length
  ·obtain⟨x,hx⟩:∃x,l[n]? =some x:=⟨l[n],List.getElem?_eq_getElem hn⟩
   refine kQ (kp rfl (zA (k_seq (k_cT rfl (kF (by omega)) (zV (k_seq (zR (kQ (wb (u:=.int .i64 (x)) rfl ty40 rfl rfl (Int.natCast_nonneg _) (by simp[hx]) cl3 ?_)))))))))
   refine kC sh3 rfl ?_
   refine zE rfl (zA (k_region (zD rfl (zD rfl (o_max rfl rfl rfl ?_)))))
   refine zE rfl (zA (k_region ?_))
   refine kz rfl (by unfold I64;omega) (zD rfl (zA ?_))
   exact⟨k - 1,by omega,n+1,by omega,.cons (congrArg (U.int .i64) (zGO hx).symm) (.n3 rfl)⟩
  ·have hn:n=l.length:=by omega
   subst hn
   rw[List.take_length]
   refine kQ (kp rfl (zA (k_seq (k_cF rfl (kG (by omega)) (yj (kQ (zD rfl (zE rfl (zA (zw ?_))))))))))
   refine⟨.inr rfl,_,.cons _ _ _ _ (.tmp 4) .nil,?_⟩
   exact .refl _
 ·exact⟨0,rfl,.c4 rfl rfl rfl rfl (.nil rfl)⟩
set_option maxHeartbeats 4000000 in
theorem ret140(hi:Off is)(a:Int)(l:List Int)(hll:l.length≤4096):RetP Tryz.prog is orc 140 [.int .i64 a,.lst .ro 1 (zb l)] (.int .i64 (l.foldl min a)):=by
 refine yp body140 pure140 (hi 140 (by decide)) rfl rfl (wQ (.int _ _ _) (zEf 6 .ro (fun h=>by cases h) 1 l)) (.inl (.int _ _ _)) ?_
 refine kQ (zE rfl (zA (k_seq (kQ (zD rfl (zz rfl ty40 rfl (List.length_map _) ?_))))))
 refine zD rfl (zA (zR ?_))
 refine yq (fun k st=>∃n:Nat,k+n=l.length∧Holds st [(0,.int .i64 ((l.take n).foldl min a)),(7,.lst .ro 1 (zb l)),(8,.int .i64 l.length),(9,.int .i64 n)]) (fun k st hI=>?_) l.length _ ?_
 ·obtain⟨n,hk,hs⟩:=hI
  rw[hs.eq]
  by_cases hn:n<l.length
  ·obtain⟨x,hx⟩:∃x,l[n]? =some x:=⟨l[n],List.getElem?_eq_getElem hn⟩
   refine kQ (kp rfl (zA (k_seq (k_cT rfl (kF (by omega)) (zV (k_seq (zR (kQ (wb (u:=.int .i64 (x)) rfl ty40 rfl rfl (Int.natCast_nonneg _) (by simp[hx]) cl3 ?_)))))))))
   refine kC sh3 rfl ?_
   refine zE rfl (zA (k_region (zD rfl (zD rfl (o_min rfl rfl rfl ?_)))))
   refine zE rfl (zA (k_region ?_))
   refine kz rfl (by unfold I64;omega) (zD rfl (zA ?_))
   exact⟨k - 1,by omega,n+1,by omega,.cons (congrArg (U.int .i64) (zGO hx).symm) (.n3 rfl)⟩
  ·have hn:n=l.length:=by omega
   subst hn
   rw[List.take_length]
   refine kQ (kp rfl (zA (k_seq (k_cF rfl (kG (by omega)) (yj (kQ (zD rfl (zE rfl (zA (zw ?_))))))))))
   refine⟨.inr rfl,_,.cons _ _ _ _ (.tmp 4) .nil,?_⟩
   exact .refl _
 ·exact⟨0,rfl,.c4 rfl rfl rfl rfl (.nil rfl)⟩
theorem ret122(hi:Off is)(a b c d:Int):RetP Tryz.prog is orc 122 [yQ a b,yQ c d] (yQ (max a c) (min b d)):=by
 refine yp body122 pure122 (hi 122 (by decide)) rfl rfl (wQ (yO a b 6) (yO c d 6)) (.inl (yO _ _ _)) ?_
 have q94:=ret139 (orc:=orc) hi a [c] (by simp)
 have q93:=ret140 (orc:=orc) hi b [d] (by simp)
 refine kQ (ya rfl rfl (ya rfl rfl (zi rfl ze35 ?_)))
 refine zA ?_
 refine zL [(2,U.box 0 0),(3,U.box 1 0),(4,U.box 2 0)] ([SB.box [.int .i64 a,.int .i64 b],SB.box [.int .i64 c,.int .i64 d],SB.box [.int .i64 0,.int .i64 0]]) (.n3 rfl) rfl fun fr=>?_
 refine k_seq (wM [.plain,.read true,.plain,.read true,.lay,.read false,.plain,.read true,.plain,.read true,.lay,.plain,.plain,.plain] (by kernel_rfl) (by kernel_rfl) (by kernel_rfl) ?_)
 refine zC (kw rfl yX (zA rfl)) ?_
 refine zJ rfl (kA sh3 rfl (zA rfl)) (zC (kw rfl yX (zA rfl)) ?_)
 refine zJ rfl (kA sh3 rfl (zA rfl)) (d_lay (es:=[.int .i64 c]) rfl ty40 ze3 cl3 rfl rfl rfl rfl rfl rfl rfl rfl ?_)
 refine yH rfl q94 (.int _ _) (.lcons _ _ _ _ (.refl _) (.lcons _ _ _ _ (.ro _ _ _) (.lrefl _))) ?_
 refine zC (kw rfl yz (zA rfl)) ?_
 refine zJ rfl (kA sh3 rfl (zA rfl)) (zC (kw rfl yz (zA rfl)) ?_)
 refine zp [(4,U.box 2 0),(10,.int .i64 (List.foldl Max.max a [c])),(12,.int .i64 b),(13,U.box 1 1)] [] ([SB.box [.int .i64 a,.int .i64 b],SB.box [.int .i64 c,.int .i64 d],SB.box [.int .i64 0,.int .i64 0]]) (.n4 rfl) rfl rfl fun fr=>?_
 refine zJ rfl (kA sh3 rfl (zA rfl)) (d_lay (es:=[.int .i64 d]) rfl ty40 ze3 cl3 rfl rfl rfl rfl rfl rfl rfl rfl ?_)
 refine zC (zY rfl (q93) (.lcons _ _ _ _ (.refl _) (.lcons _ _ _ _ (.ro _ _ _) (.lrefl _))) (zA rfl)) ?_
 refine zC (zZ rfl ze35 pl35 rfl rfl (zA rfl)) ?_
 refine zC (zS rfl rfl sh35 rfl rfl rfl rfl rfl (zA rfl)) ?_
 refine zAK ?_
 refine zw ?_
 refine⟨.inr rfl,_,.cons _ _ _ _ (.cellN 4 35 _ _ _ _ rfl rfl sh35 rfl) .nil,?_⟩
 exact .refl _
theorem ret109(hi:Off is)(a b:Int):RetP Tryz.prog is orc 109 [yQ a b] (.bool (decide (b<a))):=by
 refine yp body109 pure109 (hi 109 (by decide)) rfl rfl (zCl (yO a b 6)) (.inl (.bool _ _)) ?_
 refine kQ (ya rfl rfl (zE rfl (zA ?_)))
 refine zL [(1,U.box 0 0)] ([SB.box [.int .i64 a,.int .i64 b]]) (.n1 rfl) rfl fun fr=>?_
 refine kQ (kw rfl yX (kA sh3 rfl (kw rfl yz (kA sh3 rfl (o_gtr rfl rfl rfl (zE rfl (zA (zw ?_))))))))
 refine⟨.inr rfl,_,.cons _ _ _ _ (.tmp 2) .nil,?_⟩
 exact .refl _
def zFA(lo hi:Int)(a b:Int):Bool:=decide (lo≤a)&&(decide (a≤b)&&decide (b≤hi))
theorem good_iff{lo hi:Int}{x:Sp}:zFA lo hi x.1 x.2=true↔zCF lo hi x:=by
 unfold zFA zCF
 simp only[Bool.and_eq_true,decide_eq_true_eq]
theorem good_one{lo hi n:Int}:zFA lo hi n n=true↔lo≤n∧n≤hi:=by
 unfold zFA
 simp only[Bool.and_eq_true,decide_eq_true_eq]
 omega
theorem ret106(hi:Off is)(a b lo up:Int):RetP Tryz.prog is orc 106 [.agg [.int .i64 a,.int .i64 b,.int .i64 lo,.int .i64 up]] (.bool (zFA lo up a b)):=by
 refine yp body106 pure106 (hi 106 (by decide)) rfl rfl (zCl (.agg _ _ (zHC (.int _ _ _) (.int _ _ _) (.int _ _ _) (.int _ _ _)))) (.inl (.bool _ _)) ?_
 unfold zFA
 by_cases h:lo≤a
 ·rw[kF h,Bool.true_and]
  by_cases h2:a≤b
  ·rw[kF h2,Bool.true_and]
   refine kQ (ya rfl rfl (zE rfl (zA ?_)))
   refine zL [(1,U.box 0 0)] ([SB.box [.int .i64 a,.int .i64 b,.int .i64 lo,.int .i64 up]]) (.n1 rfl) rfl fun fr=>?_
   refine kQ (kw rfl fld126_1 (kA sh3 rfl (kw rfl zBg (kw rfl yX (kA sh3 rfl (kq rfl (zD rfl (kh rfl (kF (by omega)) ?_))))))))
   refine kw rfl zBg (kh rfl (kF (by omega)) ?_)
   refine kw rfl yX ?_
   refine yJ [(1,U.box 0 0),(9,U.bool (decide (lo≤a))),(11,U.box 0 0)] [] ([SB.box [.int .i64 a,.int .i64 b,.int .i64 lo,.int .i64 up]]) (.n3 rfl) rfl rfl fun fr=>?_
   refine kh rfl (kF (by omega)) ?_
   refine yJ [(1,U.box 0 0),(9,U.bool (decide (lo≤a))),(11,U.box 0 0)] [] ([SB.box [.int .i64 a,.int .i64 b,.int .i64 lo,.int .i64 up]]) (.n3 rfl) rfl rfl fun fr=>?_
   refine kA sh3 rfl (kh rfl (kF (by omega)) ?_)
   refine kw rfl zBg (kh rfl (kF (by omega)) ?_)
   refine kw rfl yz (kh rfl (kF (by omega)) ?_)
   refine kA sh3 rfl (kh rfl (kF (by omega)) ?_)
   refine kq rfl (wD rfl rfl (kF (by omega)) ?_)
   refine zD rfl (kh rfl (kF (by omega)) ?_)
   refine kw rfl zBg (kh rfl (kF (by omega)) ?_)
   refine kw rfl yz ?_
   refine yJ [(1,U.box 0 0),(18,U.bool (decide (a≤b))),(20,U.box 0 1)] [] ([SB.box [.int .i64 a,.int .i64 b,.int .i64 lo,.int .i64 up]]) (.n3 rfl) rfl rfl fun fr=>?_
   refine kh rfl (kF (by omega)) ?_
   refine yJ [(1,U.box 0 0),(18,U.bool (decide (a≤b))),(20,U.box 0 1)] [] ([SB.box [.int .i64 a,.int .i64 b,.int .i64 lo,.int .i64 up]]) (.n3 rfl) rfl rfl fun fr=>?_
   refine kA sh3 rfl (kh rfl (kF (by omega)) ?_)
   refine kw rfl fld126_2 (kh rfl (kF (by omega)) ?_)
   refine kA sh3 rfl (kh rfl (kF (by omega)) ?_)
   refine kq rfl (wD rfl rfl (kF (by omega)) ?_)
   refine zE rfl (zA (zw ?_))
   refine⟨.inr rfl,_,.cons _ _ _ _ (.tmp 2) .nil,?_⟩
   exact .refl _
  ·rw[kG h2,Bool.false_and]
   refine kQ (ya rfl rfl (zE rfl (zA ?_)))
   refine zL [(1,U.box 0 0)] ([SB.box [.int .i64 a,.int .i64 b,.int .i64 lo,.int .i64 up]]) (.n1 rfl) rfl fun fr=>?_
   refine kQ (kw rfl fld126_1 (kA sh3 rfl (kw rfl zBg (kw rfl yX (kA sh3 rfl (kq rfl (zD rfl (kh rfl (kF (by omega)) ?_))))))))
   refine kw rfl zBg (kh rfl (kF (by omega)) ?_)
   refine kw rfl yX ?_
   refine yJ [(1,U.box 0 0),(9,U.bool (decide (lo≤a))),(11,U.box 0 0)] [] ([SB.box [.int .i64 a,.int .i64 b,.int .i64 lo,.int .i64 up]]) (.n3 rfl) rfl rfl fun fr=>?_
   refine kh rfl (kF (by omega)) ?_
   refine yJ [(1,U.box 0 0),(9,U.bool (decide (lo≤a))),(11,U.box 0 0)] [] ([SB.box [.int .i64 a,.int .i64 b,.int .i64 lo,.int .i64 up]]) (.n3 rfl) rfl rfl fun fr=>?_
   refine kA sh3 rfl (kh rfl (kF (by omega)) ?_)
   refine kw rfl zBg (kh rfl (kF (by omega)) ?_)
   refine kw rfl yz (kh rfl (kF (by omega)) ?_)
   refine kA sh3 rfl (kh rfl (kF (by omega)) ?_)
   refine kq rfl (wD rfl rfl (kF (by omega)) ?_)
   refine zD rfl (kg rfl (kG (by omega)) ?_)
   refine kg rfl (kG (by omega)) ?_
   refine yJ [(1,U.box 0 0),(18,U.bool (decide (a≤b))),(20,U.tup [])] [] ([SB.box [.int .i64 a,.int .i64 b,.int .i64 lo,.int .i64 up]]) (.n3 rfl) rfl rfl fun fr=>?_
   refine kg rfl (kG (by omega)) ?_
   refine kg rfl (kG (by omega)) ?_
   refine kg rfl (kG (by omega)) ?_
   refine kg rfl (kG (by omega)) ?_
   refine wY rfl rfl (kG (by omega)) ?_
   refine zE rfl (zA (zw ?_))
   refine⟨.inr rfl,_,.cons _ _ _ _ (.tmp 2) .nil,?_⟩
   exact .refl _
 ·rw[kG h,Bool.false_and]
  refine kQ (ya rfl rfl (zE rfl (zA ?_)))
  refine zL [(1,U.box 0 0)] ([SB.box [.int .i64 a,.int .i64 b,.int .i64 lo,.int .i64 up]]) (.n1 rfl) rfl fun fr=>?_
  refine kQ (kw rfl fld126_1 (kA sh3 rfl (kw rfl zBg (kw rfl yX (kA sh3 rfl (kq rfl (zD rfl (kg rfl (kG (by omega)) ?_))))))))
  refine kg rfl (kG (by omega)) ?_
  refine yJ [(1,U.box 0 0),(9,U.bool (decide (lo≤a))),(11,U.tup [])] [] ([SB.box [.int .i64 a,.int .i64 b,.int .i64 lo,.int .i64 up]]) (.n3 rfl) rfl rfl fun fr=>?_
  refine kg rfl (kG (by omega)) ?_
  refine kg rfl (kG (by omega)) ?_
  refine kg rfl (kG (by omega)) ?_
  refine kg rfl (kG (by omega)) ?_
  refine kg rfl (kG (by omega)) ?_
  refine wY rfl rfl (kG (by omega)) ?_
  refine zD rfl (ke rfl (ke rfl ?_))
  refine yJ [(1,U.box 0 0),(18,.bool false),(20,U.tup [])] [] ([SB.box [.int .i64 a,.int .i64 b,.int .i64 lo,.int .i64 up]]) (.n3 rfl) rfl rfl fun fr=>?_
  refine ke rfl (ke rfl (ke rfl (ke rfl (kD rfl ?_))))
  refine zE rfl (zA (zw ?_))
  refine⟨.inr rfl,_,.cons _ _ _ _ (.tmp 2) .nil,?_⟩
  exact .refl _
theorem zHM(hi:Off is)(n a b:Int):RetP Tryz.prog is orc 50 [.int .i64 n,.int .i64 a,.int .i64 b] (.bool (inS a b n)):=by
 refine yp body50 pure50 (hi 50 (by decide)) rfl rfl (dat_l3 (.int _ _ _) (.int _ _ _) (.int _ _ _)) (.inl (.bool _ _)) ?_
 unfold inS
 by_cases h:a≤n
 ·rw[kF h,Bool.true_and]
  refine kQ (zE rfl (zA (kQ (zD rfl (zD rfl (kq rfl (zD rfl (kh rfl (kF (by omega)) ?_))))))))
  refine zD rfl (kh rfl (kF (by omega)) ?_)
  refine zD rfl (kh rfl (kF (by omega)) ?_)
  refine kq rfl (wD rfl rfl (kF (by omega)) ?_)
  refine zE rfl (zA (zw ?_))
  refine⟨.inr rfl,_,.cons _ _ _ _ (.tmp 6) .nil,?_⟩
  exact .refl _
 ·rw[kG h,Bool.false_and]
  refine kQ (zE rfl (zA (kQ (zD rfl (zD rfl (kq rfl (zD rfl (kg rfl (kG (by omega)) ?_))))))))
  refine kg rfl (kG (by omega)) ?_
  refine kg rfl (kG (by omega)) ?_
  refine wY rfl rfl (kG (by omega)) ?_
  refine zE rfl (zA (zw ?_))
  refine⟨.inr rfl,_,.cons _ _ _ _ (.tmp 6) .nil,?_⟩
  exact .refl _
theorem ret41(hi:Off is)(a b:Int):RetP Tryz.prog is orc 41 [.int .i64 a,.int .i64 b] (yQ a b):=by
 refine yp body41 pure41 (hi 41 (by decide)) rfl rfl (wQ (.int _ _ _) (.int _ _ _)) (.inl (yO _ _ _)) ?_
 refine kQ (zi rfl ze35 ?_)
 refine zA ?_
 refine zL [(0,.int .i64 a),(1,.int .i64 b),(4,U.box 0 0)] ([SB.box [.int .i64 0,.int .i64 0]]) (.n3 rfl) rfl fun fr=>?_
 refine kQ (zD rfl (zD rfl (zZ rfl ze35 pl35 rfl rfl ?_)))
 refine zS rfl rfl sh35 rfl rfl rfl rfl rfl ?_
 refine zA (zw ?_)
 refine⟨.inr rfl,_,.cons _ _ _ _ (.cellN 4 35 _ _ _ _ rfl rfl sh35 rfl) .nil,?_⟩
 exact .refl _
theorem ret42(hi:Off is)(a b c d:Int):RetP Tryz.prog is orc 42 [yQ a b,yQ c d] (.bool (decide (c≤a)&&decide (b≤d))):=by
 refine yp body42 pure42 (hi 42 (by decide)) rfl rfl (wQ (yO a b 6) (yO c d 6)) (.inl (.bool _ _)) ?_
 by_cases h:c≤a
 ·rw[kF h,Bool.true_and]
  refine kQ (ya rfl rfl (ya rfl rfl (zE rfl (zA ?_))))
  refine zL [(2,U.box 0 0),(3,U.box 1 0)] ([SB.box [.int .i64 a,.int .i64 b],SB.box [.int .i64 c,.int .i64 d]]) (.n2 rfl) rfl fun fr=>?_
  refine kQ (kw rfl yX (kA sh3 rfl (kw rfl yX (kA sh3 rfl (kq rfl (zD rfl (kh rfl (kF (by omega)) ?_)))))))
  refine kw rfl yz (kh rfl (kF (by omega)) ?_)
  refine kA sh3 rfl (kh rfl (kF (by omega)) ?_)
  refine kw rfl yz ?_
  refine yJ [(10,U.bool (decide (c≤a))),(12,.int .i64 b),(13,U.box 1 1)] [] ([SB.box [.int .i64 a,.int .i64 b],SB.box [.int .i64 c,.int .i64 d]]) (.n3 rfl) rfl rfl fun fr=>?_
  refine kh rfl (kF (by omega)) ?_
  refine yJ [(10,U.bool (decide (c≤a))),(12,.int .i64 b),(13,U.box 1 1)] [] ([SB.box [.int .i64 a,.int .i64 b],SB.box [.int .i64 c,.int .i64 d]]) (.n3 rfl) rfl rfl fun fr=>?_
  refine kA sh3 rfl (kh rfl (kF (by omega)) ?_)
  refine kq rfl (wD rfl rfl (kF (by omega)) ?_)
  refine zE rfl (zA (zw ?_))
  refine⟨.inr rfl,_,.cons _ _ _ _ (.tmp 4) .nil,?_⟩
  exact .refl _
 ·rw[kG h,Bool.false_and]
  refine kQ (ya rfl rfl (ya rfl rfl (zE rfl (zA ?_))))
  refine zL [(2,U.box 0 0),(3,U.box 1 0)] ([SB.box [.int .i64 a,.int .i64 b],SB.box [.int .i64 c,.int .i64 d]]) (.n2 rfl) rfl fun fr=>?_
  refine kQ (kw rfl yX (kA sh3 rfl (kw rfl yX (kA sh3 rfl (kq rfl (zD rfl (kg rfl (kG (by omega)) ?_)))))))
  refine kg rfl (kG (by omega)) ?_
  refine kg rfl (kG (by omega)) ?_
  refine yJ [(10,U.bool (decide (c≤a))),(12,U.tup []),(13,U.tup [])] [] ([SB.box [.int .i64 a,.int .i64 b],SB.box [.int .i64 c,.int .i64 d]]) (.n3 rfl) rfl rfl fun fr=>?_
  refine kg rfl (kG (by omega)) ?_
  refine kg rfl (kG (by omega)) ?_
  refine wY rfl rfl (kG (by omega)) ?_
  refine zE rfl (zA (zw ?_))
  refine⟨.inr rfl,_,.cons _ _ _ _ (.tmp 4) .nil,?_⟩
  exact .refl _
theorem ret55(hi:Off is)(a b lo up:Int):RetP Tryz.prog is orc 55 [yQ a b,.int .i64 lo,.int .i64 up] (.bool (zFA lo up a b)):=by
 refine yp body55 pure55 (hi 55 (by decide)) rfl rfl (dat_l3 (yO a b 6) (.int _ _ _) (.int _ _ _)) (.inl (.bool _ _)) ?_
 unfold zFA
 by_cases h:lo≤a
 ·rw[kF h,Bool.true_and]
  by_cases h2:a≤b
  ·rw[kF h2,Bool.true_and]
   refine kQ (ya rfl rfl (zE rfl (zA ?_)))
   refine zL [(1,.int .i64 lo),(2,.int .i64 up),(3,U.box 0 0)] ([SB.box [.int .i64 a,.int .i64 b]]) (.n3 rfl) rfl fun fr=>?_
   refine kQ (zD rfl (kw rfl yX (kA sh3 rfl (kq rfl (zD rfl (kh rfl (kF (by omega)) ?_))))))
   refine kw rfl yX (kh rfl (kF (by omega)) ?_)
   refine kA sh3 rfl (kh rfl (kF (by omega)) ?_)
   refine kw rfl yz (kh rfl (kF (by omega)) ?_)
   refine kA sh3 rfl ?_
   refine yJ [(2,.int .i64 up),(3,U.box 0 0),(11,U.bool (decide (lo≤a))),(13,.int .i64 a),(15,.int .i64 b)] [] ([SB.box [.int .i64 a,.int .i64 b]]) (.n5 rfl) rfl rfl fun fr=>?_
   refine kh rfl (kF (by omega)) ?_
   refine yJ [(2,.int .i64 up),(3,U.box 0 0),(11,U.bool (decide (lo≤a))),(13,.int .i64 a),(15,.int .i64 b)] [] ([SB.box [.int .i64 a,.int .i64 b]]) (.n5 rfl) rfl rfl fun fr=>?_
   refine kq rfl (wD rfl rfl (kF (by omega)) ?_)
   refine zD rfl (kh rfl (kF (by omega)) ?_)
   refine kw rfl yz (kh rfl (kF (by omega)) ?_)
   refine kA sh3 rfl (kh rfl (kF (by omega)) ?_)
   refine zD rfl (kh rfl (kF (by omega)) ?_)
   refine kq rfl (wD rfl rfl (kF (by omega)) ?_)
   refine zE rfl (zA (zw ?_))
   refine⟨.inr rfl,_,.cons _ _ _ _ (.tmp 6) .nil,?_⟩
   exact .refl _
  ·rw[kG h2,Bool.false_and]
   refine kQ (ya rfl rfl (zE rfl (zA ?_)))
   refine zL [(1,.int .i64 lo),(2,.int .i64 up),(3,U.box 0 0)] ([SB.box [.int .i64 a,.int .i64 b]]) (.n3 rfl) rfl fun fr=>?_
   refine kQ (zD rfl (kw rfl yX (kA sh3 rfl (kq rfl (zD rfl (kh rfl (kF (by omega)) ?_))))))
   refine kw rfl yX (kh rfl (kF (by omega)) ?_)
   refine kA sh3 rfl (kh rfl (kF (by omega)) ?_)
   refine kw rfl yz (kh rfl (kF (by omega)) ?_)
   refine kA sh3 rfl ?_
   refine yJ [(2,.int .i64 up),(3,U.box 0 0),(11,U.bool (decide (lo≤a))),(13,.int .i64 a),(15,.int .i64 b)] [] ([SB.box [.int .i64 a,.int .i64 b]]) (.n5 rfl) rfl rfl fun fr=>?_
   refine kh rfl (kF (by omega)) ?_
   refine yJ [(2,.int .i64 up),(3,U.box 0 0),(11,U.bool (decide (lo≤a))),(13,.int .i64 a),(15,.int .i64 b)] [] ([SB.box [.int .i64 a,.int .i64 b]]) (.n5 rfl) rfl rfl fun fr=>?_
   refine kq rfl (wD rfl rfl (kF (by omega)) ?_)
   refine zD rfl (kg rfl (kG (by omega)) ?_)
   refine kg rfl (kG (by omega)) ?_
   refine kg rfl (kG (by omega)) ?_
   refine kg rfl (kG (by omega)) ?_
   refine wY rfl rfl (kG (by omega)) ?_
   refine zE rfl (zA (zw ?_))
   refine⟨.inr rfl,_,.cons _ _ _ _ (.tmp 6) .nil,?_⟩
   exact .refl _
 ·rw[kG h,Bool.false_and]
  refine kQ (ya rfl rfl (zE rfl (zA ?_)))
  refine zL [(1,.int .i64 lo),(2,.int .i64 up),(3,U.box 0 0)] ([SB.box [.int .i64 a,.int .i64 b]]) (.n3 rfl) rfl fun fr=>?_
  refine kQ (zD rfl (kw rfl yX (kA sh3 rfl (kq rfl (zD rfl (kg rfl (kG (by omega)) ?_))))))
  refine kg rfl (kG (by omega)) ?_
  refine kg rfl (kG (by omega)) ?_
  refine kg rfl (kG (by omega)) ?_
  refine yJ [(2,.int .i64 up),(3,U.box 0 0),(11,U.bool (decide (lo≤a))),(13,U.tup []),(15,U.tup [])] [] ([SB.box [.int .i64 a,.int .i64 b]]) (.n5 rfl) rfl rfl fun fr=>?_
  refine kg rfl (kG (by omega)) ?_
  refine wY rfl rfl (kG (by omega)) ?_
  refine zD rfl (ke rfl (ke rfl (ke rfl (ke rfl (kD rfl ?_)))))
  refine zE rfl (zA (zw ?_))
  refine⟨.inr rfl,_,.cons _ _ _ _ (.tmp 6) .nil,?_⟩
  exact .refl _
end
end Go.Proofs.YtpckmojdekdbbaaGreat.settles
