import Derived.Test.YtfbmlibilcjlgaaDoorVamT4
set_option linter.unusedVariables false
set_option linter.unusedSimpArgs false
set_option linter.constructorNameAsVariable false
namespace Go.Proofs.YtfbmlibilcjlgaaDoor.drumBounds
open Vam
section
variable {is:FuncId→Bool}{orc:Known}
theorem by73:Program.bytesOf Tryd.prog 73=16:=by kernel_rfl
theorem cl73:Program.cellsOf Tryd.prog 73=2:=by kernel_rfl
theorem pl28:zDx Tryd.prog 28=some [(0,1),(1,1)]:=by kernel_rfl
theorem pl73:zDx Tryd.prog 73=some [(0,1),(1,1)]:=by kernel_rfl
theorem sh46:shOf Tryd.prog 46=.one:=by kernel_rfl
theorem ty28:tyOf Tryd.prog 28=.array 2 3:=by kernel_rfl
theorem ty46:tyOf Tryd.prog 46=.slice 73:=by kernel_rfl
theorem ze28:yV Tryd.prog 28=some ((.cons (.int .i64 0) (.cons (.int .i64 0) .nil)):V):=by kernel_rfl
theorem ze46:yV Tryd.prog 46=some ((.cons .nils .nil):V):=by kernel_rfl
theorem ze73:yV Tryd.prog 73=some ((.cons (.int .i64 0) (.cons (.int .i64 0) .nil)):V):=by kernel_rfl
theorem zFA:AppT Tryd.prog 46 46 73 2 16 ((.cons (.int .i64 0) (.cons (.int .i64 0) .nil)):V):=⟨ty46,⟨_,ty46⟩,cl73,by decide,by73,ze73,rfl⟩
noncomputable def b80:Code:=(Tryd.f80.body).getD .skip
theorem body80:bodyOf Tryd.prog 80=some (43,b80,[.tmp 4]):=by kernel_rfl
theorem pure80:pureFn Tryd.prog 80=true:=by kernel_rfl
def cuM(b:Bk)(i:Nat)(x y:Int):List Two:=(if x<y then [⟨((i:Int)+1)*b.size - b.notice,1⟩]else [])++(if y<x then [⟨((i:Int)+1)*b.size - b.notice, -1⟩]else [])
def cuS(b:Bk)(L:List Int):Nat→List Two
 |0=>[]
 |i+1=>cuS b L i++cuM b i ((L[i]?).getD 0) ((L[i+1]?).getD 0)
def cuU:List Two→U
 |[]=>.lst .full 0 []
 |q::l=>.lst .own 2 (zu (q::l))
theorem cu_snoc(q:Two)(B:List Two)(z:Two):cuU (q::B++[z])=.lst .own 2 (zu (q::B)++[wB z.a z.b]):=by
 show U.lst .own 2 (zu (q::B++[z]))=_
 unfold zu
 rw[List.map_append];rfl
noncomputable def rg80:Code×Code:=match b80 with
 | .seq _ (.seq _ (.seq (.seq _ (.block _ (.rangeFunc _ _ a b))) _))=>(a,b)
 |_=>(.skip,.skip)
noncomputable def lp80:Lp:=⟨fun i=>dg (zCA [(2,.box 0 0),(5,.box 1 0),(11,.fn 125 [] [.box 2 0])] i .junk),[12,13],rg80.1,rg80.2⟩
noncomputable abbrev Y80(b:Bk)(L:List Int)(A:List Two)(s:Lq):List SB:=[.box (Bk.cs b),.box [cuU A],.box [.lst .ro 1 (zG L)],.loop s lp80]
def upM(b:Bk)(i:Nat)(x y:Int)(A:List Two):Nat→List Two
 |0=>A
 |1=>A++(if x<y then [⟨((i:Int)+1)*b.size - b.notice,1⟩]else [])
 |_=>A++cuM b i x y
theorem len_cuM(b:Bk)(i:Nat)(x y:Int):(cuM b i x y).length≤1:=by
 unfold cuM
 by_cases h:x<y
 ·rw[if_pos h,if_neg (by omega)];exact Nat.le_refl _
 ·rw[if_neg h]
  split
  ·exact Nat.le_refl _
  ·exact Nat.zero_le _
theorem len_cuS(b:Bk)(L:List Int)(i:Nat):(cuS b L i).length≤i:=by
 induction i with
 |zero=>exact Nat.le_refl _
 |succ i ih=>
  have:=len_cuM b i ((L[i]?).getD 0) ((L[i+1]?).getD 0)
  show(cuS b L i++_).length≤_
  rw[List.length_append];omega
set_option maxHeartbeats 8000000 in
theorem yield80(hi:Off is){b:Bk}(hb:BOk b)(L:List Int)(i:Nat)(x y:Int)(A:List Two)(e:List SB)(hA:A.length≤i)(hi8:i<8):
  WpY Tryd.prog is orc 3 lp80 [.int .i64 i,wB x y] (Y80 b L A .ready++e) fun u st'=>u=.bool true∧∃e',st'=Y80 b L (A++cuM b i x y) .ready++e':=by
 show Wp _ _ _ rg80.1 _ _
 generalize hY:Y80 b L A .ready++e=Y
 have hlk:∀{k z},(Y80 b L A .ready)[k]? =some z→Y[k]? =some z:=fun h=>by rw[←hY];exact zo h
 refine kQ (zB rfl (zA (k_region (zi rfl ze135 ?_))))
 refine zZ rfl (zp _ _) zEa rfl rfl rfl rfl rfl ?_
 refine zA ?_
 refine⟨rfl,?_,?_⟩
 ·show((Y++[SB.box _]).set Y.length (SB.box _))[3]? =_
  rw[yx]
  exact zo (hlk rfl)
 refine zH [(2,.box 0 0),(5,.box 1 0),(6,.int .i64 i),(7,.box Y.length 0)] (Y80 b L A .busy++(e++[.box [.int .i64 x,.int .i64 y]])) (.c4 rfl rfl rfl rfl (.nil rfl)) (by
  show((Y++[SB.box _]).set Y.length (SB.box _)).set 3 (.loop .busy lp80)=_
  rw[yx,←hY,List.append_assoc];rfl) fun fr=>?_
 have hlen:Y.length=4+e.length:=by rw[←hY];simp;omega
 have hbx:∀P:List SB,P.length=4→(P++(e++[.box [.int .i64 x,.int .i64 y]]))[Y.length]? =some (.box [.int .i64 x,.int .i64 y]):=fun P hP=>by
  rw[←List.append_assoc,show Y.length=(P++e).length by simp[hP,hlen]];exact zp _ _
 have hm:0≤((i:Int)+1)*b.size∧((i:Int)+1)*b.size≤128:=by
  have hs:=hb.sz
  constructor
  ·exact Int.mul_nonneg (by omega) (by omega)
  ·have:=Int.mul_le_mul (show(i:Int)+1≤8 by omega) hs.2 (by omega) (by omega)
   omega
 have hno:=hb.no
 have hsz:=hb.sz
 show Wp _ _ _ rg80.2 _ _
 refine zL (kQ (yp rfl ze28 pl28 rfl rfl ?_))
 refine zC rfl (zA (zL ?_))
 refine yh (fun kk s2=>∃j:Nat,kk+j=2∧s2.st=Y80 b L (upM b i x y A j) .busy++(e++[.box [.int .i64 x,.int .i64 y]])∧Holds s2 [(2,.box 0 0),(5,.box 1 0),(6,.int .i64 i),(7,.box Y.length 0),(14,.agg [.int .i64 1,.int .i64 (-1)]),(15,.int .i64 j)]) (fun kk s2 hI=>?_) 2 _ ⟨0,rfl,rfl,.c4 rfl rfl rfl rfl (.cons rfl (.cons rfl (.nil rfl)))⟩
 obtain⟨j,hk,hst2,hs2⟩:=hI
 have hj3:j=0∨j=1∨j=2:=by omega
 rcases hj3 with rfl|rfl|rfl
 ·have q112:=ret112 (orc:=orc) hi x y (1) (by omega)
  have e1:doesB x y (1)=decide (x<y):=rfl
  rw[e1]at q112
  have hBl:(upM b i x y A 0).length≤9:=by show A.length≤9;omega
  by_cases hxy:x<y
  ·rw[decide_eq_true hxy]at q112
   have eu:upM b i x y A 1=upM b i x y A 0++[⟨((i:Int)+1)*b.size - b.notice,1⟩]:=by show A++_=A++_;rw[if_pos hxy]
   generalize upM b i x y A 0=B at eu hst2 hBl
   refine zH _ _ hs2 hst2 fun fr2=>?_
   have hb5:=hbx (Y80 b L B .busy) rfl
   cases B with
   |nil=>
    refine kQ (zf rfl rfl rfl (zA (k_seq (k_cT rfl rfl ?_))))
    refine zQ (k_seq (zL (kQ (wg rfl ty28 rfl rfl (by omega) (by omega) cl3 sh3 rfl ?_))))
    refine zB rfl (zA (kQ (zJ rfl rfl hb5 zEa rfl ?_)))
    refine zC rfl (zP rfl (q112) (.lrefl _) (zA (k_cT rfl rfl ?_)))
    refine k_region (zF rfl rfl rfl sh46 rfl (zC rfl ?_))
    refine yO rfl rfl rfl (by unfold I64;omega) (zE rfl rfl yB (zE rfl rfl yZ (zF rfl rfl rfl sh3 rfl ?_)))
    refine zFR rfl rfl rfl (by unfold I64;omega) ?_
    refine zE rfl rfl yB (zE rfl rfl zCx ?_)
    refine zV [(2,U.box 0 0),(5,U.box 1 0),(6,.int .i64 ↑i),(7,U.box (List.length Y) 0),(9,.int .i64 1),(14,U.agg [.int .i64 1,.int .i64 (-1:Int)]),(15,.int .i64 ↑0),(17,.int .i64 1),(18,U.agg [.int .i64 x,.int .i64 y]),(19,.int .i64 1),(21,.lst .full 0 []),(22,.int .i64 ↑i),(23,.int .i64 (↑i+(1:Int))),(24,U.box 0 0),(25,U.box 0 1),(26,.int .i64 (Bk.size b)),(27,.int .i64 ((↑i+(1:Int))*Bk.size b)),(28,U.box 0 0),(29,U.box 0 9)] [] (SB.box (Bk.cs b)::SB.box [cuU []]::SB.box [.lst .ro 1 (zG L)]::SB.loop Lq.busy lp80::List.append [] (e++[SB.box [.int .i64 x,.int .i64 y]])) (.c4 rfl rfl rfl rfl (.c4 rfl rfl rfl rfl (.c4 rfl rfl rfl rfl (.c4 rfl rfl rfl rfl (.cons rfl (.cons rfl (.cons rfl (.nil rfl)))))))) rfl rfl fun fr=>?_
    refine zF rfl rfl rfl sh3 rfl ?_
    refine yn rfl rfl rfl (by unfold I64;omega) (zC rfl (yp rfl ze73 pl73 rfl rfl ?_))
    refine wb (es:=[U.agg [.int .i64 ((↑i+(1:Int))*Bk.size b - Bk.notice b),.int .i64 1]]) rfl ty46 ze73 cl73 rfl rfl rfl rfl rfl rfl rfl rfl ?_
    refine zAQ rfl zFA rfl rfl (by simp) (by simp) (by simp[yG,zq,oneU]) (by simp) ?_
    refine zAP rfl rfl sh46 rfl rfl (zA ?_)
    refine zH [(2,U.box 0 0),(5,U.box 1 0),(6,.int .i64 ↑i),(7,U.box (List.length Y) 0),(9,.int .i64 1),(14,U.agg [.int .i64 1,.int .i64 (-1:Int)]),(15,.int .i64 0),(17,.int .i64 1),(18,U.agg [.int .i64 x,.int .i64 y]),(19,.int .i64 1),(21,.lst .full 0 []),(22,.int .i64 ↑i),(23,.int .i64 (↑i+(1:Int))),(24,U.box 0 0),(25,U.box 0 1),(26,.int .i64 (Bk.size b)),(27,.int .i64 ((↑i+(1:Int))*Bk.size b)),(28,U.box 0 0),(29,U.box 0 9),(30,.int .i64 (Bk.notice b)),(31,.int .i64 ((↑i+(1:Int))*Bk.size b - Bk.notice b)),(32,.int .i64 1),(33,U.agg [.int .i64 ((↑i+(1:Int))*Bk.size b - Bk.notice b),.int .i64 1]),(34,.lst .full 2 [U.agg [.int .i64 ((↑i+(1:Int))*Bk.size b - Bk.notice b),.int .i64 1]]),(35,.lst .ro 2 [U.agg [.int .i64 ((↑i+(1:Int))*Bk.size b - Bk.notice b),.int .i64 1]])] (SB.box (Bk.cs b)::SB.box [U.lst Kd.own 2 [U.agg [.int .i64 ((↑i+(1:Int))*Bk.size b - Bk.notice b),.int .i64 1]]]::SB.box [.lst .ro 1 (zG L)]::SB.loop Lq.busy lp80::List.append [] (e++[SB.box [.int .i64 x,.int .i64 y]])) (.c4 rfl rfl rfl rfl (.c4 rfl rfl rfl rfl (.c4 rfl rfl rfl rfl (.c4 rfl rfl rfl rfl (.c4 rfl rfl rfl rfl (.c4 rfl rfl rfl rfl (.cons rfl (.nil rfl)))))))) rfl fun fr=>?_
    refine k_region ?_
    refine yO rfl rfl rfl (by unfold I64;omega) (zC rfl (zA ?_))
    exact⟨1,by omega,1,by omega,by rw[eu];rfl,.c4 rfl rfl rfl rfl (.cons rfl (.cons rfl (.nil rfl)))⟩
   |cons q B=>
    refine kQ (zf rfl rfl rfl (zA (k_seq (k_cT rfl rfl ?_))))
    refine zQ (k_seq (zL (kQ (wg rfl ty28 rfl rfl (by omega) (by omega) cl3 sh3 rfl ?_))))
    refine zB rfl (zA (kQ (zJ rfl rfl hb5 zEa rfl ?_)))
    refine zC rfl (zP rfl (q112) (.lrefl _) (zA (k_cT rfl rfl ?_)))
    refine k_region (zF rfl rfl rfl sh46 rfl (zC rfl ?_))
    refine yO rfl rfl rfl (by unfold I64;omega) (zE rfl rfl yB (zE rfl rfl yZ (zF rfl rfl rfl sh3 rfl ?_)))
    refine zFR rfl rfl rfl (by unfold I64;omega) ?_
    refine zE rfl rfl yB (zE rfl rfl zCx ?_)
    refine zV [(2,U.box 0 0),(5,U.box 1 0),(6,.int .i64 ↑i),(7,U.box (List.length Y) 0),(9,.int .i64 1),(14,U.agg [.int .i64 1,.int .i64 (-1:Int)]),(15,.int .i64 ↑0),(17,.int .i64 1),(18,U.agg [.int .i64 x,.int .i64 y]),(19,.int .i64 1),(21,.lst .ro 2 (zu (q::B))),(22,.int .i64 ↑i),(23,.int .i64 (↑i+(1:Int))),(24,U.box 0 0),(25,U.box 0 1),(26,.int .i64 (Bk.size b)),(27,.int .i64 ((↑i+(1:Int))*Bk.size b)),(28,U.box 0 0),(29,U.box 0 9)] [(21,.cell 1 0)] (SB.box (Bk.cs b)::SB.box [cuU (q::B)]::SB.box [.lst .ro 1 (zG L)]::SB.loop Lq.busy lp80::List.append [] (e++[SB.box [.int .i64 x,.int .i64 y]])) (.c4 rfl rfl rfl rfl (.c4 rfl rfl rfl rfl (.c4 rfl rfl rfl rfl (.c4 rfl rfl rfl rfl (.cons rfl (.cons rfl (.cons rfl (.nil rfl)))))))) rfl rfl fun fr=>?_
    refine zF rfl rfl rfl sh3 rfl ?_
    refine yn rfl rfl rfl (by unfold I64;omega) (zC rfl (yp rfl ze73 pl73 rfl rfl ?_))
    refine wb (es:=[U.agg [.int .i64 ((↑i+(1:Int))*Bk.size b - Bk.notice b),.int .i64 1]]) rfl ty46 ze73 cl73 rfl rfl rfl rfl rfl rfl rfl rfl ?_
    refine o_appendC (1) 0 rfl zFA rfl rfl rfl rfl (by simp) (by simp) (by simp[yG,zq,oneU]) (by simp at*;omega) ?_
    refine zAP rfl rfl sh46 rfl rfl (zA ?_)
    refine zH [(2,U.box 0 0),(5,U.box 1 0),(6,.int .i64 ↑i),(7,U.box (List.length Y) 0),(9,.int .i64 1),(14,U.agg [.int .i64 1,.int .i64 (-1:Int)]),(15,.int .i64 0),(17,.int .i64 1),(18,U.agg [.int .i64 x,.int .i64 y]),(19,.int .i64 1),(21,.lst .ro 2 (zu (q::B))),(22,.int .i64 ↑i),(23,.int .i64 (↑i+(1:Int))),(24,U.box 0 0),(25,U.box 0 1),(26,.int .i64 (Bk.size b)),(27,.int .i64 ((↑i+(1:Int))*Bk.size b)),(28,U.box 0 0),(29,U.box 0 9),(30,.int .i64 (Bk.notice b)),(31,.int .i64 ((↑i+(1:Int))*Bk.size b - Bk.notice b)),(32,.int .i64 1),(33,U.agg [.int .i64 ((↑i+(1:Int))*Bk.size b - Bk.notice b),.int .i64 1]),(34,.lst .full 2 [U.agg [.int .i64 ((↑i+(1:Int))*Bk.size b - Bk.notice b),.int .i64 1]]),(35,.lst .ro 2 (Two.u q::List.append (List.map Two.u B) [U.agg [.int .i64 ((↑i+(1:Int))*Bk.size b - Bk.notice b),.int .i64 1]]))] (SB.box (Bk.cs b)::SB.box [U.lst Kd.own 2 (Two.u q::List.append (List.map Two.u B) [U.agg [.int .i64 ((↑i+(1:Int))*Bk.size b - Bk.notice b),.int .i64 1]])]::SB.box [.lst .ro 1 (zG L)]::SB.loop Lq.busy lp80::List.append [] (e++[SB.box [.int .i64 x,.int .i64 y]])) (.c4 rfl rfl rfl rfl (.c4 rfl rfl rfl rfl (.c4 rfl rfl rfl rfl (.c4 rfl rfl rfl rfl (.c4 rfl rfl rfl rfl (.c4 rfl rfl rfl rfl (.cons rfl (.nil rfl)))))))) rfl fun fr=>?_
    refine k_region ?_
    refine yO rfl rfl rfl (by unfold I64;omega) (zC rfl (zA ?_))
    exact⟨1,by omega,1,by omega,(by rw[eu];show _=[_,SB.box [cuU (q::B++[_])],_,_]++_;rw[cu_snoc];rfl),.c4 rfl rfl rfl rfl (.cons rfl (.cons rfl (.nil rfl)))⟩
  ·rw[decide_eq_false hxy]at q112
   have eu:upM b i x y A 1=upM b i x y A 0:=by show A++_=A;rw[if_neg hxy,List.append_nil]
   generalize upM b i x y A 0=B at eu hst2 hBl
   refine zH _ _ hs2 hst2 fun fr2=>?_
   have hb5:=hbx (Y80 b L B .busy) rfl
   refine kQ (zf rfl rfl rfl (zA (k_seq (k_cT rfl rfl ?_))))
   refine zQ (k_seq (zL (kQ (wg rfl ty28 rfl rfl (by omega) (by omega) cl3 sh3 rfl ?_))))
   refine zB rfl (zA (kQ (zJ rfl rfl hb5 zEa rfl ?_)))
   refine zC rfl (zP rfl (q112) (.lrefl _) (zA (k_cF rfl rfl ?_)))
   refine zQ (k_region ?_)
   refine yO rfl rfl rfl (by unfold I64;omega) (zC rfl (zA ?_))
   exact⟨1,by omega,1,by omega,by rw[eu];rfl,.c4 rfl rfl rfl rfl (.cons rfl (.cons rfl (.nil rfl)))⟩
 ·have q112:=ret112 (orc:=orc) hi x y (-1) (by omega)
  have e1:doesB x y (-1)=decide (y<x):=rfl
  rw[e1]at q112
  have hBl:(upM b i x y A 1).length≤9:=by show(A++_).length≤9;rw[List.length_append];split<;>simp<;>omega
  by_cases hxy:y<x
  ·rw[decide_eq_true hxy]at q112
   have eu:upM b i x y A 2=upM b i x y A 1++[⟨((i:Int)+1)*b.size - b.notice, -1⟩]:=by show A++cuM b i x y=(A++_)++_;unfold cuM;rw[if_pos hxy,List.append_assoc]
   generalize upM b i x y A 1=B at eu hst2 hBl
   refine zH _ _ hs2 hst2 fun fr2=>?_
   have hb5:=hbx (Y80 b L B .busy) rfl
   cases B with
   |nil=>
    refine kQ (zf rfl rfl rfl (zA (k_seq (k_cT rfl rfl ?_))))
    refine zQ (k_seq (zL (kQ (wg rfl ty28 rfl rfl (by omega) (by omega) cl3 sh3 rfl ?_))))
    refine zB rfl (zA (kQ (zJ rfl rfl hb5 zEa rfl ?_)))
    refine zC rfl (zP rfl (q112) (.lrefl _) (zA (k_cT rfl rfl ?_)))
    refine k_region (zF rfl rfl rfl sh46 rfl (zC rfl ?_))
    refine yO rfl rfl rfl (by unfold I64;omega) (zE rfl rfl yB (zE rfl rfl yZ (zF rfl rfl rfl sh3 rfl ?_)))
    refine zFR rfl rfl rfl (by unfold I64;omega) ?_
    refine zE rfl rfl yB (zE rfl rfl zCx ?_)
    refine zV [(2,U.box 0 0),(5,U.box 1 0),(6,.int .i64 ↑i),(7,U.box (List.length Y) 0),(9,.int .i64 (-1:Int)),(14,U.agg [.int .i64 1,.int .i64 (-1:Int)]),(15,.int .i64 ↑1),(17,.int .i64 (-1:Int)),(18,U.agg [.int .i64 x,.int .i64 y]),(19,.int .i64 (-1:Int)),(21,.lst .full 0 []),(22,.int .i64 ↑i),(23,.int .i64 (↑i+(1:Int))),(24,U.box 0 0),(25,U.box 0 1),(26,.int .i64 (Bk.size b)),(27,.int .i64 ((↑i+(1:Int))*Bk.size b)),(28,U.box 0 0),(29,U.box 0 9)] [] (SB.box (Bk.cs b)::SB.box [cuU []]::SB.box [.lst .ro 1 (zG L)]::SB.loop Lq.busy lp80::List.append [] (e++[SB.box [.int .i64 x,.int .i64 y]])) (.c4 rfl rfl rfl rfl (.c4 rfl rfl rfl rfl (.c4 rfl rfl rfl rfl (.c4 rfl rfl rfl rfl (.cons rfl (.cons rfl (.cons rfl (.nil rfl)))))))) rfl rfl fun fr=>?_
    refine zF rfl rfl rfl sh3 rfl ?_
    refine yn rfl rfl rfl (by unfold I64;omega) (zC rfl (yp rfl ze73 pl73 rfl rfl ?_))
    refine wb (es:=[U.agg [.int .i64 ((↑i+(1:Int))*Bk.size b - Bk.notice b),.int .i64 (-1:Int)]]) rfl ty46 ze73 cl73 rfl rfl rfl rfl rfl rfl rfl rfl ?_
    refine zAQ rfl zFA rfl rfl (by simp) (by simp) (by simp[yG,zq,oneU]) (by simp) ?_
    refine zAP rfl rfl sh46 rfl rfl (zA ?_)
    refine zH [(2,U.box 0 0),(5,U.box 1 0),(6,.int .i64 ↑i),(7,U.box (List.length Y) 0),(9,.int .i64 (-1:Int)),(14,U.agg [.int .i64 1,.int .i64 (-1:Int)]),(15,.int .i64 1),(17,.int .i64 (-1:Int)),(18,U.agg [.int .i64 x,.int .i64 y]),(19,.int .i64 (-1:Int)),(21,.lst .full 0 []),(22,.int .i64 ↑i),(23,.int .i64 (↑i+(1:Int))),(24,U.box 0 0),(25,U.box 0 1),(26,.int .i64 (Bk.size b)),(27,.int .i64 ((↑i+(1:Int))*Bk.size b)),(28,U.box 0 0),(29,U.box 0 9),(30,.int .i64 (Bk.notice b)),(31,.int .i64 ((↑i+(1:Int))*Bk.size b - Bk.notice b)),(32,.int .i64 (-1:Int)),(33,U.agg [.int .i64 ((↑i+(1:Int))*Bk.size b - Bk.notice b),.int .i64 (-1:Int)]),(34,.lst .full 2 [U.agg [.int .i64 ((↑i+(1:Int))*Bk.size b - Bk.notice b),.int .i64 (-1:Int)]]),(35,.lst .ro 2 [U.agg [.int .i64 ((↑i+(1:Int))*Bk.size b - Bk.notice b),.int .i64 (-1:Int)]])] (SB.box (Bk.cs b)::SB.box [U.lst Kd.own 2 [U.agg [.int .i64 ((↑i+(1:Int))*Bk.size b - Bk.notice b),.int .i64 (-1:Int)]]]::SB.box [.lst .ro 1 (zG L)]::SB.loop Lq.busy lp80::List.append [] (e++[SB.box [.int .i64 x,.int .i64 y]])) (.c4 rfl rfl rfl rfl (.c4 rfl rfl rfl rfl (.c4 rfl rfl rfl rfl (.c4 rfl rfl rfl rfl (.c4 rfl rfl rfl rfl (.c4 rfl rfl rfl rfl (.cons rfl (.nil rfl)))))))) rfl fun fr=>?_
    refine k_region ?_
    refine yO rfl rfl rfl (by unfold I64;omega) (zC rfl (zA ?_))
    exact⟨0,by omega,2,by omega,by rw[eu];rfl,.c4 rfl rfl rfl rfl (.cons rfl (.cons rfl (.nil rfl)))⟩
   |cons q B=>
    refine kQ (zf rfl rfl rfl (zA (k_seq (k_cT rfl rfl ?_))))
    refine zQ (k_seq (zL (kQ (wg rfl ty28 rfl rfl (by omega) (by omega) cl3 sh3 rfl ?_))))
    refine zB rfl (zA (kQ (zJ rfl rfl hb5 zEa rfl ?_)))
    refine zC rfl (zP rfl (q112) (.lrefl _) (zA (k_cT rfl rfl ?_)))
    refine k_region (zF rfl rfl rfl sh46 rfl (zC rfl ?_))
    refine yO rfl rfl rfl (by unfold I64;omega) (zE rfl rfl yB (zE rfl rfl yZ (zF rfl rfl rfl sh3 rfl ?_)))
    refine zFR rfl rfl rfl (by unfold I64;omega) ?_
    refine zE rfl rfl yB (zE rfl rfl zCx ?_)
    refine zV [(2,U.box 0 0),(5,U.box 1 0),(6,.int .i64 ↑i),(7,U.box (List.length Y) 0),(9,.int .i64 (-1:Int)),(14,U.agg [.int .i64 1,.int .i64 (-1:Int)]),(15,.int .i64 ↑1),(17,.int .i64 (-1:Int)),(18,U.agg [.int .i64 x,.int .i64 y]),(19,.int .i64 (-1:Int)),(21,.lst .ro 2 (zu (q::B))),(22,.int .i64 ↑i),(23,.int .i64 (↑i+(1:Int))),(24,U.box 0 0),(25,U.box 0 1),(26,.int .i64 (Bk.size b)),(27,.int .i64 ((↑i+(1:Int))*Bk.size b)),(28,U.box 0 0),(29,U.box 0 9)] [(21,.cell 1 0)] (SB.box (Bk.cs b)::SB.box [cuU (q::B)]::SB.box [.lst .ro 1 (zG L)]::SB.loop Lq.busy lp80::List.append [] (e++[SB.box [.int .i64 x,.int .i64 y]])) (.c4 rfl rfl rfl rfl (.c4 rfl rfl rfl rfl (.c4 rfl rfl rfl rfl (.c4 rfl rfl rfl rfl (.cons rfl (.cons rfl (.cons rfl (.nil rfl)))))))) rfl rfl fun fr=>?_
    refine zF rfl rfl rfl sh3 rfl ?_
    refine yn rfl rfl rfl (by unfold I64;omega) (zC rfl (yp rfl ze73 pl73 rfl rfl ?_))
    refine wb (es:=[U.agg [.int .i64 ((↑i+(1:Int))*Bk.size b - Bk.notice b),.int .i64 (-1:Int)]]) rfl ty46 ze73 cl73 rfl rfl rfl rfl rfl rfl rfl rfl ?_
    refine o_appendC (1) 0 rfl zFA rfl rfl rfl rfl (by simp) (by simp) (by simp[yG,zq,oneU]) (by simp at*;omega) ?_
    refine zAP rfl rfl sh46 rfl rfl (zA ?_)
    refine zH [(2,U.box 0 0),(5,U.box 1 0),(6,.int .i64 ↑i),(7,U.box (List.length Y) 0),(9,.int .i64 (-1:Int)),(14,U.agg [.int .i64 1,.int .i64 (-1:Int)]),(15,.int .i64 1),(17,.int .i64 (-1:Int)),(18,U.agg [.int .i64 x,.int .i64 y]),(19,.int .i64 (-1:Int)),(21,.lst .ro 2 (zu (q::B))),(22,.int .i64 ↑i),(23,.int .i64 (↑i+(1:Int))),(24,U.box 0 0),(25,U.box 0 1),(26,.int .i64 (Bk.size b)),(27,.int .i64 ((↑i+(1:Int))*Bk.size b)),(28,U.box 0 0),(29,U.box 0 9),(30,.int .i64 (Bk.notice b)),(31,.int .i64 ((↑i+(1:Int))*Bk.size b - Bk.notice b)),(32,.int .i64 (-1:Int)),(33,U.agg [.int .i64 ((↑i+(1:Int))*Bk.size b - Bk.notice b),.int .i64 (-1:Int)]),(34,.lst .full 2 [U.agg [.int .i64 ((↑i+(1:Int))*Bk.size b - Bk.notice b),.int .i64 (-1:Int)]]),(35,.lst .ro 2 (Two.u q::List.append (List.map Two.u B) [U.agg [.int .i64 ((↑i+(1:Int))*Bk.size b - Bk.notice b),.int .i64 (-1:Int)]]))] (SB.box (Bk.cs b)::SB.box [U.lst Kd.own 2 (Two.u q::List.append (List.map Two.u B) [U.agg [.int .i64 ((↑i+(1:Int))*Bk.size b - Bk.notice b),.int .i64 (-1:Int)]])]::SB.box [.lst .ro 1 (zG L)]::SB.loop Lq.busy lp80::List.append [] (e++[SB.box [.int .i64 x,.int .i64 y]])) (.c4 rfl rfl rfl rfl (.c4 rfl rfl rfl rfl (.c4 rfl rfl rfl rfl (.c4 rfl rfl rfl rfl (.c4 rfl rfl rfl rfl (.c4 rfl rfl rfl rfl (.cons rfl (.nil rfl)))))))) rfl fun fr=>?_
    refine k_region ?_
    refine yO rfl rfl rfl (by unfold I64;omega) (zC rfl (zA ?_))
    exact⟨0,by omega,2,by omega,(by rw[eu];show _=[_,SB.box [cuU (q::B++[_])],_,_]++_;rw[cu_snoc];rfl),.c4 rfl rfl rfl rfl (.cons rfl (.cons rfl (.nil rfl)))⟩
  ·rw[decide_eq_false hxy]at q112
   have eu:upM b i x y A 2=upM b i x y A 1:=by show A++cuM b i x y=A++_;unfold cuM;rw[if_neg hxy,List.append_nil]
   generalize upM b i x y A 1=B at eu hst2 hBl
   refine zH _ _ hs2 hst2 fun fr2=>?_
   have hb5:=hbx (Y80 b L B .busy) rfl
   refine kQ (zf rfl rfl rfl (zA (k_seq (k_cT rfl rfl ?_))))
   refine zQ (k_seq (zL (kQ (wg rfl ty28 rfl rfl (by omega) (by omega) cl3 sh3 rfl ?_))))
   refine zB rfl (zA (kQ (zJ rfl rfl hb5 zEa rfl ?_)))
   refine zC rfl (zP rfl (q112) (.lrefl _) (zA (k_cF rfl rfl ?_)))
   refine zQ (k_region ?_)
   refine yO rfl rfl rfl (by unfold I64;omega) (zC rfl (zA ?_))
   exact⟨0,by omega,2,by omega,by rw[eu];rfl,.c4 rfl rfl rfl rfl (.cons rfl (.cons rfl (.nil rfl)))⟩
 ·refine zH _ _ hs2 hst2 fun fr2=>?_
  refine kQ (zf rfl rfl rfl (zA (k_seq (k_cF rfl rfl ?_))))
  refine yP ?_
  exact⟨rfl,rfl,_,rfl⟩
theorem bd_cu(A:List Two)(n:Nat):Bd n (cuU A):=by
 cases A with
 |nil=>exact Bd.lst fun c hc=>by cases hc
 |cons q A=>
  refine Bd.lst fun c hc=>?_
  cases zBD (q::A) .ro (fun h=>by cases h) 6 with
  |lst _ _ _ _ _ h=>exact((h c hc).nb).bd n
theorem bd_80(b:Bk)(L:List Int)(A:List Two):∀y∈[SB.box (Bk.cs b),.box [cuU A],.box [.lst .ro 1 (zG L)]],BdS 3 y:=by
 intro y hy
 simp only[List.mem_cons,List.not_mem_nil,or_false]at hy
 rcases hy with rfl|rfl|rfl
 ·intro c hc
  cases yK b 4 with
  |agg _ _ h=>exact((h c hc).nb).bd 3
 ·intro c hc
  rcases List.mem_singleton.1 hc with rfl;exact bd_cu A 3
 ·intro c hc
  rcases List.mem_singleton.1 hc with rfl;exact((zr 6 .ro (fun h=>by cases h) 1 L).nb).bd 3
set_option maxHeartbeats 4000000 in
theorem ret80(hi:Off is){b:Bk}{L:List Int}(h:BOk b)(hp:POk b L):RetP Tryd.prog is orc 80 [b.u,.lst .ro 1 (zG L)] (.lst .ro 2 (zu (cuS b L (L.length - 1)))):=by
 refine zk body80 pure80 (hi 80 (by decide)) rfl rfl (yM (yK b 4) (zr 6 .ro (fun h=>by cases h) 1 L)) (.inl (zBD _ .ro (fun h=>by cases h) 6)) ?_
 refine kQ (zc rfl rfl (zB rfl (zA ?_)))
 refine zH [(1,.lst .ro 1 (zG L)),(2,U.box 0 0)] ([SB.box (Bk.cs b)]) (.cons rfl (.cons rfl (.nil rfl))) rfl fun fr=>?_
 refine kQ (zi rfl ze46 ?_)
 refine zA ?_
 refine zH [(1,.lst .ro 1 (zG L)),(2,U.box 0 0),(5,U.box 1 0)] ([SB.box (Bk.cs b),SB.box [.lst .full 0 []]]) (.cons rfl (.cons rfl (.cons rfl (.nil rfl)))) rfl fun fr=>?_
 refine k_seq (kQ (zC rfl ?_))
 refine zBM rfl (wpc111 L _) (.lrefl _) (fun u st1 hM=>?_)
 obtain⟨rfl,rfl⟩:=hM
 refine zA (zL ?_)
 have hlL:1≤L.length∧L.length≤8:=by have:=hp.len;have:=h.pa;omega
 refine k_forget [(2,.box 0 0),(5,.box 1 0),(11,.fn 125 [] [.box 2 0])] [.box (Bk.cs b),.box [cuU []],.box [.lst .ro 1 (zG L)]] (.cons rfl (.cons rfl (.cons rfl (.nil rfl)))) rfl ?_
 have hM:Mks L 3 2 lp80 (fun i Y=>∃e,Y=Y80 b L (cuS b L i) .ready++e):=by
  refine⟨fun i=>zCR _,⟨12,13,rfl,by decide,by decide⟩,fun i Y hY=>?_,fun i Y hY=>?_,fun is orc hi i x y Y hY hx hy=>?_⟩
  ·obtain⟨e,rfl⟩:=hY;rfl
  ·obtain⟨e,rfl⟩:=hY;rfl
  ·obtain⟨e,rfl⟩:=hY
   have hy1:=(List.getElem?_eq_some_iff.1 hy).1
   have es:cuS b L (i+1)=cuS b L i++cuM b i x y:=by
    show cuS b L i++cuM b i ((L[i]?).getD 0) ((L[i+1]?).getD 0)=_
    rw[hx,hy];rfl
   rw[es]
   exact yield80 hi h L i x y (cuS b L i) e (len_cuS b L i) (by omega)
 refine k_range (g:=125) rfl ((wpc125 hi hM (by omega) _ ⟨[],rfl⟩).mono fun _ st' hst=>⟨.ready,?_,?_,?_⟩)
 ·obtain⟨e,rfl⟩:=hst;rfl
 ·obtain⟨e,rfl⟩:=hst
  exact bd_80 b L _
 ·obtain⟨e,rfl⟩:=hst
  refine zH [(2,.box 0 0),(5,.box 1 0)] [.box (Bk.cs b),.box [cuU (cuS b L (L.length - 1))],.box [.lst .ro 1 (zG L)]] (.cons rfl (.cons rfl (.nil rfl))) rfl fun fr=>?_
  have hl:=len_cuS b L (L.length - 1)
  generalize cuS b L (L.length - 1)=A at hl
  cases A with
  |nil=>
   refine kQ (zF rfl rfl rfl sh46 rfl (zF rfl rfl rfl sh46 rfl (yF rfl ty46 rfl rfl ?_)))
   refine zF rfl rfl rfl sh46 rfl (yF rfl ty46 rfl rfl ?_)
   refine o_slice0 rfl ty46 cl73 rfl (by simp) rfl rfl (Nat.le_refl _) ?_
   refine zB rfl (zA (zU ?_))
   refine⟨.inr rfl,_,.cons _ _ _ _ (.tmp 4) .nil,?_⟩
   exact .ro _ _ _
  |cons q A=>
   refine kQ (zF rfl rfl rfl sh46 rfl (zF rfl rfl rfl sh46 rfl (yF rfl ty46 rfl (List.length_map _) ?_)))
   refine zF rfl rfl rfl sh46 rfl (yF rfl ty46 rfl (List.length_map _) ?_)
   refine o_slice0 rfl ty46 cl73 rfl (by simp) rfl rfl (by simp) ?_
   refine zB rfl (zA (zU ?_))
   refine⟨.inr rfl,_,.cons _ _ _ _ (.tmp 4) .nil,?_⟩
   have huw:UW (.u (.lst .full 2 (List.take (q::A).length (zu (q::A))))) (.u (.lst .ro 2 (zu (q::A)))):=by
    rw[List.take_of_length_le (by simp[zu])];exact .ro _ _ _
   exact huw
end
section
variable {is:FuncId→Bool}{orc:Known}
noncomputable def b33:Code:=(Tryd.f33.body).getD .skip
theorem body33:bodyOf Tryd.prog 33=some (20,b33,[.tmp 4,.tmp 5]):=by kernel_rfl
theorem pure33:pureFn Tryd.prog 33=true:=by kernel_rfl
theorem ret33(hi:Off is){b:Bk}{L:List Int}(h:BOk b)(hp:POk b L):RetP Tryd.prog is orc 33 [b.u,.lst .ro 1 (zG L)] (.tup [.lst .ro 2 (zu (cuS b L (L.length - 1))),.int .i64 0]):=by
 refine zk body33 pure33 (hi 33 (by decide)) rfl rfl (yM (yK b 4) (zr 6 .ro (fun h=>by cases h) 1 L)) (.inr ⟨_,rfl,yM (k:=7) (zBD _ .ro (fun h=>by cases h) 5) (.int _ _ _)⟩) ?_
 refine kQ (zc rfl rfl (zB rfl (zB rfl (zA ?_))))
 refine zH [(1,.lst .ro 1 (zG L)),(2,U.box 0 0)] ([SB.box (Bk.cs b)]) (.cons rfl (.cons rfl (.nil rfl))) rfl fun fr=>?_
 refine kQ (zJ rfl rfl rfl sh27 rfl (zC rfl (zP rfl (ret54 hi h hp) (.lrefl _) ?_)))
 refine zC rfl (zX rfl rfl rfl (zX rfl rfl rfl (zi rfl ze75 ?_)))
 refine zZ rfl rfl sh75 rfl rfl rfl rfl rfl ?_
 refine zB rfl (zA ?_)
 refine zH [(1,.lst .ro 1 (zG L)),(6,U.box 1 0),(7,.int .i64 0)] ([SB.box (Bk.cs b),SB.box (Bk.cs b)]) (.cons rfl (.cons rfl (.cons rfl (.nil rfl)))) rfl fun fr=>?_
 refine k_seq (kQ (zC rfl (wC rfl rfl rfl (zA (k_cF rfl rfl ?_)))))
 refine zQ (kQ (zJ rfl rfl rfl sh75 rfl (zC rfl (zP rfl (ret80 hi h hp) (.lrefl _) ?_))))
 refine zB rfl (zB rfl (zA (zU ?_)))
 refine⟨.inr rfl,_,.cons _ _ _ _ (.tmp 4) (.cons _ _ _ _ (.tmp 5) .nil),?_⟩
 exact .refl _
end
section
end
end Go.Proofs.YtfbmlibilcjlgaaDoor.drumBounds
