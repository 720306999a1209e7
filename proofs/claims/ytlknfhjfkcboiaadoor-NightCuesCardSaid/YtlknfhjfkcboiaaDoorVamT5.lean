import Derived.Test.YtlknfhjfkcboiaaDoorVamT4
set_option linter.unusedVariables false
set_option linter.unusedSimpArgs false
set_option linter.constructorNameAsVariable false
namespace Go.Proofs.YtlknfhjfkcboiaaDoor.night
open Vam
section
variable {is:FuncId→Bool}{orc:Known}
theorem sh72:shOf Tryd.prog 72=.many 11:=by kernel_rfl
theorem sh98:shOf Tryd.prog 98=.many 3:=by kernel_rfl
theorem ty98:tyOf Tryd.prog 98=.array 3 3:=by kernel_rfl
theorem ze98:yZ Tryd.prog 98=some ((.cons (.int .i64 0) (.cons (.int .i64 0) (.cons (.int .i64 0) .nil))):V):=by kernel_rfl
noncomputable def b79:Code:=(Tryd.f79.body).getD .skip
theorem body79:bodyOf Tryd.prog 79=some (38,b79,[.cell 6 98]):=by kernel_rfl
theorem pure79:pureFn Tryd.prog 79=true:=by kernel_rfl
noncomputable def b83:Code:=(Tryd.f83.body).getD .skip
theorem body83:bodyOf Tryd.prog 83=some (31,b83,[.cell 4 98]):=by kernel_rfl
theorem pure83:pureFn Tryd.prog 83=true:=by kernel_rfl
theorem pl98:zGR Tryd.prog 98=some [(0,1),(1,1),(2,1)]:=by kernel_rfl
noncomputable def b58:Code:=(Tryd.f58.body).getD .skip
theorem body58:bodyOf Tryd.prog 58=some (10,b58,[.tmp 4]):=by kernel_rfl
theorem pure58:pureFn Tryd.prog 58=true:=by kernel_rfl
def clS(b:Bk)(d L:List Int)(e:Bool):Nat→Int
 |0=>b.bg
 |p+1=>max (clS b d L e p) ((b.opens[p]?).getD 0)+sumI (mnS b d L p e b.scenes.length)
theorem mn_sb{b:Bk}(h:BOk b){d:List Int}(hd:DOk b d)(L:List Int)(p:Int)(e:Bool): -6000≤sumI (mnS b d L p e b.scenes.length)∧sumI (mnS b d L p e b.scenes.length)≤6000:=by
 obtain⟨h1,h2⟩:=mnS_b (L:=L) h hd p e b.scenes.length
 have:=h.sn
 have:=sum_b (B:=600) (by omega) fun x hx=>by have:=h2 x hx;omega
 omega
theorem op_b{b:Bk}(h:BOk b)(p:Nat):0≤(b.opens[p]?).getD 0∧(b.opens[p]?).getD 0≤2000:=by
 cases hq:b.opens[p]? with
 |none=>simp
 |some x=>exact h.ops x (List.mem_of_getElem? hq)
theorem clS_b{b:Bk}(h:BOk b){d:List Int}(hd:DOk b d)(L:List Int)(e:Bool)(p:Nat): -6000≤clS b d L e p∧clS b d L e p≤4000+6000*p:=by
 induction p with
 |zero=>have:=h.bg;show -6000≤b.bg∧b.bg≤_;omega
 |succ p ih=>
  have h1:=mn_sb h hd L p e
  have h2:=op_b h p
  show -6000≤max (clS b d L e p) ((b.opens[p]?).getD 0)+sumI (mnS b d L p e b.scenes.length)∧max (clS b d L e p) ((b.opens[p]?).getD 0)+sumI (mnS b d L p e b.scenes.length)≤_
  omega
abbrev tri(x y z:Int):List U:=[.int .i64 x,.int .i64 y,.int .i64 z]
set_option maxHeartbeats 8000000 in
theorem ret79(hi:Off is){b:Bk}(h:BOk b){d L:List Int}(hd:DOk b d)(hL:L.length≤64)(e:Bool):RetP Tryd.prog is orc 79 [crU b d,.lst .ro 1 (zE L),.int .i64 (endN e)] (.agg (tri (clS b d L e 1) (clS b d L e 2) (clS b d L e 3))):=by
 refine zp body79 pure79 (hi 79 (by decide)) rfl rfl (zCr (zBp b d 4) (zR 6 .ro (fun h=>by cases h) 1 L) (.int _ _ _)) (.inl (.agg _ _ (zCr (k:=7) (.int _ _ _) (.int _ _ _) (.int _ _ _)))) ?_
 have hop:=h.op
 obtain⟨o0,ho0⟩:∃x,b.opens[0]? =some x:=⟨b.opens[0],List.getElem?_eq_getElem (by omega)⟩
 obtain⟨o1,ho1⟩:∃x,b.opens[1]? =some x:=⟨b.opens[1],List.getElem?_eq_getElem (by omega)⟩
 obtain⟨o2,ho2⟩:∃x,b.opens[2]? =some x:=⟨b.opens[2],List.getElem?_eq_getElem (by omega)⟩
 have q0:=ret97 (orc:=orc) hi h hd hL 0 e
 have q1:=ret97 (orc:=orc) hi h hd hL 1 e
 have q2:=ret97 (orc:=orc) hi h hd hL 2 e
 have hmb:=fun p=>mnS_b (L:=L) h hd p e b.scenes.length
 have hsn:=h.sn
 have t0:=ret93 (orc:=orc) hi (l:=mnS b d L 0 e b.scenes.length) (by have:=(hmb 0).1;omega) (fun x hx=>by have:=(hmb 0).2 x hx;omega)
 have t1:=ret93 (orc:=orc) hi (l:=mnS b d L 1 e b.scenes.length) (by have:=(hmb 1).1;omega) (fun x hx=>by have:=(hmb 1).2 x hx;omega)
 have t2:=ret93 (orc:=orc) hi (l:=mnS b d L 2 e b.scenes.length) (by have:=(hmb 2).1;omega) (fun x hx=>by have:=(hmb 2).2 x hx;omega)
 have b0:=mn_sb h hd L 0 e
 have b1:=mn_sb h hd L 1 e
 have b2:=mn_sb h hd L 2 e
 have e1:clS b d L e 1=max b.bg o0+sumI (mnS b d L 0 e b.scenes.length):=by show max b.bg ((b.opens[0]?).getD 0)+_=_;rw[ho0];rfl
 have e2:clS b d L e 2=max (clS b d L e 1) o1+sumI (mnS b d L 1 e b.scenes.length):=by show max _ ((b.opens[1]?).getD 0)+_=_;rw[ho1];rfl
 have e3:clS b d L e 3=max (clS b d L e 2) o2+sumI (mnS b d L 2 e b.scenes.length):=by show max _ ((b.opens[2]?).getD 0)+_=_;rw[ho2];rfl
 have c1:=clS_b h hd L e 1
 have c2:=clS_b h hd L e 2
 have c3:=clS_b h hd L e 3
 have hbg:=h.bg
 have g0:=h.ops o0 (List.mem_of_getElem? ho0)
 have g1:=h.ops o1 (List.mem_of_getElem? ho1)
 have g2:=h.ops o2 (List.mem_of_getElem? ho2)
 generalize clS b d L e 1=C1 at*
 generalize clS b d L e 2=C2 at*
 generalize clS b d L e 3=C3 at*
 generalize mnS b d L 0 e b.scenes.length=M0 at*
 generalize mnS b d L 1 e b.scenes.length=M1 at*
 generalize mnS b d L 2 e b.scenes.length=M2 at*
 generalize sumI M0=S0 at*
 generalize sumI M1=S1 at*
 generalize sumI M2=S2 at*
 refine kQ (yB rfl rfl (zq rfl ze98 ?_))
 refine zC ?_
 refine zF [(1,.lst .ro 1 (zE L)),(2,.int .i64 (endN e)),(3,U.box 0 0),(6,U.box 1 0)] ([SB.box (Bk.cd b d),SB.box [.int .i64 0,.int .i64 0,.int .i64 0]]) (.n4 rfl) rfl fun fr=>?_
 refine kQ (zq rfl ze98 ?_)
 refine zC ?_
 refine zF [(1,.lst .ro 1 (zE L)),(2,.int .i64 (endN e)),(3,U.box 0 0),(6,U.box 1 0),(7,U.box 2 0)] ([SB.box (Bk.cd b d),SB.box [.int .i64 0,.int .i64 0,.int .i64 0],SB.box [.int .i64 0,.int .i64 0,.int .i64 0]]) (.n5 rfl) rfl fun fr=>?_
 refine kQ (kA rfl zBd (kA rfl wL (kA rfl zGE (kC sh3 rfl (zB rfl (zC (k_seq (kQ (zA rfl (zC (zH ?_)))))))))))
 refine yR (fun kk s2=>(kk=3∧s2.st=[.box (Bk.cd b d),.box (tri 0 0 0),.box (tri 0 0 0)]∧Holds s2 [(1,.lst .ro 1 (zE L)),(2,.int .i64 (endN e)),(3,.box 0 0),(6,.box 1 0),(7,.box 2 0),(8,.int .i64 b.bg),(14,.int .i64 0)])∨(kk=2∧s2.st=[.box (Bk.cd b d),.box (tri 0 0 0),.box (tri C1 0 0)]∧Holds s2 [(1,.lst .ro 1 (zE L)),(2,.int .i64 (endN e)),(3,.box 0 0),(6,.box 1 0),(7,.box 2 0),(8,.int .i64 C1),(14,.int .i64 1)])∨(kk=1∧s2.st=[.box (Bk.cd b d),.box (tri 0 0 0),.box (tri C1 C2 0)]∧Holds s2 [(1,.lst .ro 1 (zE L)),(2,.int .i64 (endN e)),(3,.box 0 0),(6,.box 1 0),(7,.box 2 0),(8,.int .i64 C2),(14,.int .i64 2)])∨(kk=0∧s2.st=[.box (Bk.cd b d),.box (tri 0 0 0),.box (tri C1 C2 C3)]∧Holds s2 [(1,.lst .ro 1 (zE L)),(2,.int .i64 (endN e)),(3,.box 0 0),(6,.box 1 0),(7,.box 2 0),(8,.int .i64 C3),(14,.int .i64 3)])) (fun kk s2 hI=>?_) 3 _ (.inl ⟨rfl,rfl,.c4 rfl rfl rfl rfl (.n3 rfl)⟩)
 rcases hI with ⟨hk,hst2,hs2⟩|⟨hk,hst2,hs2⟩|⟨hk,hst2,hs2⟩|⟨hk,hst2,hs2⟩
 ·refine zF _ _ hs2 hst2 fun fr2=>?_
  refine kQ (kq rfl (zC (k_seq (k_cT rfl rfl ?_))))
  refine zJ (k_seq (zH (kQ (zA rfl (zB rfl (zC (k_seq (wH [.plain,.plain,.plain,.plain,.read true,.plain,.plain,.read true,.read true,.read true,.plain,.plain,.plain,.quiet,.read false,.plain,.plain] (by kernel_rfl) (by kernel_rfl) (by kernel_rfl) ?_))))))))
  refine zD (zA rfl (zC rfl)) (zD (kA rfl zBd (zC rfl)) ?_)
  refine zD (kA rfl wL (zC rfl)) ?_
  refine zD (kA rfl zAD (zC rfl)) ?_
  refine zV rfl (kC sh22 rfl (zC rfl)) (zD (zA rfl (zC rfl)) (zD (zX (u:=.int .i64 (o0)) rfl ty22 rfl rfl (Int.natCast_nonneg _) (by simp[ho0]) cl3 (zC rfl)) ?_))
  refine zV rfl (kE sh3 rfl (zC rfl)) ?_
  refine zV rfl (o_max rfl rfl rfl (zC rfl)) ?_
  refine yY [(1,.lst .ro 1 (zE L)),(2,.int .i64 (endN e)),(3,U.box 0 0),(6,U.box 1 0),(7,U.box 2 0),(9,.int .i64 0),(14,.int .i64 0),(25,.int .i64 (Max.max (Bk.bg b) o0))] [] ([SB.box (Bk.cd b d),SB.box (tri (0:Int) (0:Int) (0:Int)),SB.box (tri (0:Int) (0:Int) (0:Int))]) (.n8 rfl) rfl rfl fun fr=>?_
  refine zV rfl (kD sh72 rfl (zC rfl)) ?_
  refine zD (zA rfl (zC rfl)) (zD (zA rfl (zC rfl)) (zD (zA rfl (zC rfl)) (zGK rfl (q0) (.lrefl _) ?_)))
  refine zDf rfl (t0) (.int _ _) (.lrefl _) ?_
  refine zD (kB rfl (by unfold I64;omega) (zC rfl)) ?_
  refine zD (zB rfl (zC rfl)) ?_
  refine zAo ?_
  refine zF [(1,.lst .ro 1 (zE L)),(2,.int .i64 (endN e)),(3,U.box 0 0),(6,U.box 1 0),(7,U.box 2 0),(8,.int .i64 (Max.max (Bk.bg b) o0+S0)),(9,.int .i64 0),(14,.int .i64 0)] ([SB.box (Bk.cd b d),SB.box (tri (0:Int) (0:Int) (0:Int)),SB.box (tri (0:Int) (0:Int) (0:Int))]) (.n8 rfl) rfl fun fr=>?_
  refine k_region (zA rfl (zA rfl (zCm rfl ty98 rfl rfl (by omega) (by omega) cl3 ?_)))
  refine yz rfl rfl sh3 rfl rfl (zC ?_)
  refine zF [(1,.lst .ro 1 (zE L)),(2,.int .i64 (endN e)),(3,U.box 0 0),(6,U.box 1 0),(7,U.box 2 0),(8,.int .i64 (Max.max (Bk.bg b) o0+S0)),(14,.int .i64 0)] ([SB.box (Bk.cd b d),SB.box (tri (0:Int) (0:Int) (0:Int)),SB.box (List.set (tri (0:Int) (0:Int) (0:Int)) (0+Int.toNat (0:Int)*1) (.int .i64 (Max.max (Bk.bg b) o0+S0)))]) (.n7 rfl) rfl fun fr=>?_
  refine k_region ?_
  refine kB rfl (by unfold I64;omega) (zA rfl (zC ?_))
  exact⟨2,by omega,.inr (.inl ⟨rfl,(by rw[e1];rfl),.c4 rfl rfl rfl rfl (.cons rfl (.cons (by rw[e1];rfl) (.n1 rfl)))⟩)⟩
 ·refine zF _ _ hs2 hst2 fun fr2=>?_
  refine kQ (kq rfl (zC (k_seq (k_cT rfl rfl ?_))))
  refine zJ (k_seq (zH (kQ (zA rfl (zB rfl (zC (k_seq (wH [.plain,.plain,.plain,.plain,.read true,.plain,.plain,.read true,.read true,.read true,.plain,.plain,.plain,.quiet,.read false,.plain,.plain] (by kernel_rfl) (by kernel_rfl) (by kernel_rfl) ?_))))))))
  refine zD (zA rfl (zC rfl)) (zD (kA rfl zBd (zC rfl)) ?_)
  refine zD (kA rfl wL (zC rfl)) ?_
  refine zD (kA rfl zAD (zC rfl)) ?_
  refine zV rfl (kC sh22 rfl (zC rfl)) (zD (zA rfl (zC rfl)) (zD (zX (u:=.int .i64 (o1)) rfl ty22 rfl rfl (Int.natCast_nonneg _) (by simp[ho1]) cl3 (zC rfl)) ?_))
  refine zV rfl (kE sh3 rfl (zC rfl)) ?_
  refine zV rfl (o_max rfl rfl rfl (zC rfl)) ?_
  refine yY [(1,.lst .ro 1 (zE L)),(2,.int .i64 (endN e)),(3,U.box 0 0),(6,U.box 1 0),(7,U.box 2 0),(9,.int .i64 1),(14,.int .i64 1),(25,.int .i64 (Max.max C1 o1))] [] ([SB.box (Bk.cd b d),SB.box (tri (0:Int) (0:Int) (0:Int)),SB.box (tri C1 (0:Int) (0:Int))]) (.n8 rfl) rfl rfl fun fr=>?_
  refine zV rfl (kD sh72 rfl (zC rfl)) ?_
  refine zD (zA rfl (zC rfl)) (zD (zA rfl (zC rfl)) (zD (zA rfl (zC rfl)) (zGK rfl (q1) (.lrefl _) ?_)))
  refine zDf rfl (t1) (.int _ _) (.lrefl _) ?_
  refine zD (kB rfl (by unfold I64;omega) (zC rfl)) ?_
  refine zD (zB rfl (zC rfl)) ?_
  refine zAo ?_
  refine zF [(1,.lst .ro 1 (zE L)),(2,.int .i64 (endN e)),(3,U.box 0 0),(6,U.box 1 0),(7,U.box 2 0),(8,.int .i64 (Max.max C1 o1+S1)),(9,.int .i64 1),(14,.int .i64 1)] ([SB.box (Bk.cd b d),SB.box (tri (0:Int) (0:Int) (0:Int)),SB.box (tri C1 (0:Int) (0:Int))]) (.n8 rfl) rfl fun fr=>?_
  refine k_region (zA rfl (zA rfl (zCm rfl ty98 rfl rfl (by omega) (by omega) cl3 ?_)))
  refine yz rfl rfl sh3 rfl rfl (zC ?_)
  refine zF [(1,.lst .ro 1 (zE L)),(2,.int .i64 (endN e)),(3,U.box 0 0),(6,U.box 1 0),(7,U.box 2 0),(8,.int .i64 (Max.max C1 o1+S1)),(14,.int .i64 1)] ([SB.box (Bk.cd b d),SB.box (tri (0:Int) (0:Int) (0:Int)),SB.box (List.set (tri C1 (0:Int) (0:Int)) (0+Int.toNat (1:Int)*1) (.int .i64 (Max.max C1 o1+S1)))]) (.n7 rfl) rfl fun fr=>?_
  refine k_region ?_
  refine kB rfl (by unfold I64;omega) (zA rfl (zC ?_))
  exact⟨1,by omega,.inr (.inr (.inl ⟨rfl,(by rw[e2];rfl),.c4 rfl rfl rfl rfl (.cons rfl (.cons (by rw[e2];rfl) (.n1 rfl)))⟩))⟩
 ·refine zF _ _ hs2 hst2 fun fr2=>?_
  refine kQ (kq rfl (zC (k_seq (k_cT rfl rfl ?_))))
  refine zJ (k_seq (zH (kQ (zA rfl (zB rfl (zC (k_seq (wH [.plain,.plain,.plain,.plain,.read true,.plain,.plain,.read true,.read true,.read true,.plain,.plain,.plain,.quiet,.read false,.plain,.plain] (by kernel_rfl) (by kernel_rfl) (by kernel_rfl) ?_))))))))
  refine zD (zA rfl (zC rfl)) (zD (kA rfl zBd (zC rfl)) ?_)
  refine zD (kA rfl wL (zC rfl)) ?_
  refine zD (kA rfl zAD (zC rfl)) ?_
  refine zV rfl (kC sh22 rfl (zC rfl)) (zD (zA rfl (zC rfl)) (zD (zX (u:=.int .i64 (o2)) rfl ty22 rfl rfl (Int.natCast_nonneg _) (by simp[ho2]) cl3 (zC rfl)) ?_))
  refine zV rfl (kE sh3 rfl (zC rfl)) ?_
  refine zV rfl (o_max rfl rfl rfl (zC rfl)) ?_
  refine yY [(1,.lst .ro 1 (zE L)),(2,.int .i64 (endN e)),(3,U.box 0 0),(6,U.box 1 0),(7,U.box 2 0),(9,.int .i64 2),(14,.int .i64 2),(25,.int .i64 (Max.max C2 o2))] [] ([SB.box (Bk.cd b d),SB.box (tri (0:Int) (0:Int) (0:Int)),SB.box (tri C1 C2 (0:Int))]) (.n8 rfl) rfl rfl fun fr=>?_
  refine zV rfl (kD sh72 rfl (zC rfl)) ?_
  refine zD (zA rfl (zC rfl)) (zD (zA rfl (zC rfl)) (zD (zA rfl (zC rfl)) (zGK rfl (q2) (.lrefl _) ?_)))
  refine zDf rfl (t2) (.int _ _) (.lrefl _) ?_
  refine zD (kB rfl (by unfold I64;omega) (zC rfl)) ?_
  refine zD (zB rfl (zC rfl)) ?_
  refine zAo ?_
  refine zF [(1,.lst .ro 1 (zE L)),(2,.int .i64 (endN e)),(3,U.box 0 0),(6,U.box 1 0),(7,U.box 2 0),(8,.int .i64 (Max.max C2 o2+S2)),(9,.int .i64 2),(14,.int .i64 2)] ([SB.box (Bk.cd b d),SB.box (tri (0:Int) (0:Int) (0:Int)),SB.box (tri C1 C2 (0:Int))]) (.n8 rfl) rfl fun fr=>?_
  refine k_region (zA rfl (zA rfl (zCm rfl ty98 rfl rfl (by omega) (by omega) cl3 ?_)))
  refine yz rfl rfl sh3 rfl rfl (zC ?_)
  refine zF [(1,.lst .ro 1 (zE L)),(2,.int .i64 (endN e)),(3,U.box 0 0),(6,U.box 1 0),(7,U.box 2 0),(8,.int .i64 (Max.max C2 o2+S2)),(14,.int .i64 2)] ([SB.box (Bk.cd b d),SB.box (tri (0:Int) (0:Int) (0:Int)),SB.box (List.set (tri C1 C2 (0:Int)) (0+Int.toNat (2:Int)*1) (.int .i64 (Max.max C2 o2+S2)))]) (.n7 rfl) rfl fun fr=>?_
  refine k_region ?_
  refine kB rfl (by unfold I64;omega) (zA rfl (zC ?_))
  exact⟨0,by omega,.inr (.inr (.inr ⟨rfl,(by rw[e3];rfl),.c4 rfl rfl rfl rfl (.cons rfl (.cons (by rw[e3];rfl) (.n1 rfl)))⟩))⟩
 ·refine zF _ _ hs2 hst2 fun fr2=>?_
  refine kQ (kq rfl (zC (k_seq (k_cF rfl rfl ?_))))
  refine zr (kQ (kD sh98 rfl (zZ rfl rfl sh98 rfl rfl rfl rfl rfl ?_)))
  refine zC (zS ?_)
  refine⟨.inr rfl,_,.cons _ _ _ _ (.cellN 6 98 _ _ _ _ rfl rfl sh98 rfl) .nil,?_⟩
  exact .refl _
def dlI(b:Bk)(d L:List Int)(p:Nat):Int:=max 0 (clS b d L true (p+1) - (b.ends[p]?).getD 0)
def fitB(b:Bk)(d L:List Int):Bool:=decide (dlI b d L 0=0)&&(decide (dlI b d L 1=0)&&decide (dlI b d L 2=0))
set_option maxHeartbeats 8000000 in
theorem ret83(hi:Off is){b:Bk}(h:BOk b){d L:List Int}(hd:DOk b d)(hL:L.length≤64):RetP Tryd.prog is orc 83 [crU b d,.lst .ro 1 (zE L)] (.agg (tri (dlI b d L 0) (dlI b d L 1) (dlI b d L 2))):=by
 refine zp body83 pure83 (hi 83 (by decide)) rfl rfl (zu (zBp b d 4) (zR 6 .ro (fun h=>by cases h) 1 L)) (.inl (.agg _ _ (zCr (k:=7) (.int _ _ _) (.int _ _ _) (.int _ _ _)))) ?_
 have hen:=h.en
 obtain⟨o0,ho0⟩:∃x,b.ends[0]? =some x:=⟨b.ends[0],List.getElem?_eq_getElem (by omega)⟩
 obtain⟨o1,ho1⟩:∃x,b.ends[1]? =some x:=⟨b.ends[1],List.getElem?_eq_getElem (by omega)⟩
 obtain⟨o2,ho2⟩:∃x,b.ends[2]? =some x:=⟨b.ends[2],List.getElem?_eq_getElem (by omega)⟩
 have q79:=ret79 (orc:=orc) hi h hd hL true
 have c1:=clS_b h hd L true 1
 have c2:=clS_b h hd L true 2
 have c3:=clS_b h hd L true 3
 have g0:=h.ens o0 (List.mem_of_getElem? ho0)
 have g1:=h.ens o1 (List.mem_of_getElem? ho1)
 have g2:=h.ens o2 (List.mem_of_getElem? ho2)
 have e1:dlI b d L 0=max 0 (clS b d L true 1 - o0):=by unfold dlI;rw[ho0];rfl
 have e2:dlI b d L 1=max 0 (clS b d L true 2 - o1):=by unfold dlI;rw[ho1];rfl
 have e3:dlI b d L 2=max 0 (clS b d L true 3 - o2):=by unfold dlI;rw[ho2];rfl
 rw[e1,e2,e3]
 generalize clS b d L true 1=C1 at*
 generalize clS b d L true 2=C2 at*
 generalize clS b d L true 3=C3 at*
 have q79:RetP Tryd.prog is orc 79 [crU b d,.lst .ro 1 (zE L),.int .i64 1] (.agg (tri C1 C2 C3)):=q79
 refine kQ (yB rfl rfl (zq rfl ze98 ?_))
 refine zC ?_
 refine zF [(1,.lst .ro 1 (zE L)),(2,U.box 0 0),(4,U.box 1 0)] ([SB.box (Bk.cd b d),SB.box [.int .i64 0,.int .i64 0,.int .i64 0]]) (.n3 rfl) rfl fun fr=>?_
 refine kQ (kD sh72 rfl (zA rfl (zG rfl (q79) (.lrefl _) (zq rfl ze98 ?_))))
 refine zZ rfl rfl sh98 rfl rfl rfl rfl rfl ?_
 refine zC ?_
 refine zF [(2,U.box 0 0),(4,U.box 1 0),(5,U.box 2 0)] ([SB.box (Bk.cd b d),SB.box [.int .i64 0,.int .i64 0,.int .i64 0],SB.box [.int .i64 C1,.int .i64 C2,.int .i64 C3]]) (.n3 rfl) rfl fun fr=>?_
 refine k_seq (kQ (kA rfl zBd (kA rfl wL (kA rfl zAC (kC sh22 rfl (zP rfl ty22 rfl (List.length_map _) ?_))))))
 refine zA rfl (zC (zH ?_))
 refine yR (fun kk s2=>(kk=3∧s2.st=[.box (Bk.cd b d),.box (tri 0 0 0),.box (tri C1 C2 C3)]∧Holds s2 [(4,.box 1 0),(5,.box 2 0),(14,.lst .ro 1 (zE b.ends)),(15,.int .i64 b.ends.length),(16,.int .i64 0)])∨(kk=2∧s2.st=[.box (Bk.cd b d),.box (tri 0 0 0),.box (tri (max 0 (C1 - o0)) C2 C3)]∧Holds s2 [(4,.box 1 0),(5,.box 2 0),(14,.lst .ro 1 (zE b.ends)),(15,.int .i64 b.ends.length),(16,.int .i64 1)])∨(kk=1∧s2.st=[.box (Bk.cd b d),.box (tri 0 0 0),.box (tri (max 0 (C1 - o0)) (max 0 (C2 - o1)) C3)]∧Holds s2 [(4,.box 1 0),(5,.box 2 0),(14,.lst .ro 1 (zE b.ends)),(15,.int .i64 b.ends.length),(16,.int .i64 2)])∨(kk=0∧s2.st=[.box (Bk.cd b d),.box (tri 0 0 0),.box (tri (max 0 (C1 - o0)) (max 0 (C2 - o1)) (max 0 (C3 - o2)))]∧Holds s2 [(4,.box 1 0),(5,.box 2 0),(14,.lst .ro 1 (zE b.ends)),(15,.int .i64 b.ends.length),(16,.int .i64 3)])) (fun kk s2 hI=>?_) 3 _ (.inl ⟨rfl,rfl,.c4 rfl rfl rfl rfl (.n1 rfl)⟩)
 rcases hI with ⟨hk,hst2,hs2⟩|⟨hk,hst2,hs2⟩|⟨hk,hst2,hs2⟩|⟨hk,hst2,hs2⟩
 ·refine zF _ _ hs2 hst2 fun fr2=>?_
  refine kQ (kq rfl (zC (k_seq (k_cT rfl (kH (by omega)) (zJ (k_seq (zH (kQ (zA rfl (zX (u:=.int .i64 (o0)) rfl ty22 rfl rfl (Int.natCast_nonneg _) (by simp[ho0]) cl3 ?_))))))))))
  refine kE sh3 rfl ?_
  refine zB rfl (zB rfl (zC (k_region (zA rfl (zA rfl (zCm rfl ty98 rfl rfl (by omega) (by omega) cl3 ?_))))))
  refine kC sh3 rfl (zA rfl ?_)
  refine o_sub rfl rfl rfl (by unfold I64;omega) (o_max rfl rfl rfl ?_)
  refine zCm rfl ty98 rfl rfl (by omega) (by omega) cl3 ?_
  refine yz rfl rfl sh3 rfl rfl (zC ?_)
  refine zF [(4,U.box 1 0),(5,U.box 2 0),(14,.lst .ro 1 (zE (Bk.ends b))),(15,.int .i64 ↑(List.length (Bk.ends b))),(16,.int .i64 0)] ([SB.box (Bk.cd b d),SB.box (tri (0:Int) (0:Int) (0:Int)),SB.box (List.set (tri C1 C2 C3) (0+Int.toNat (0:Int)*1) (.int .i64 (Max.max (0:Int) (C1 - o0))))]) (.n5 rfl) rfl fun fr=>?_
  refine k_region ?_
  refine kB rfl (by unfold I64;omega) (zA rfl (zC ?_))
  exact⟨2,by omega,.inr (.inl ⟨rfl,rfl,.c4 rfl rfl rfl rfl (.n1 rfl)⟩)⟩
 ·refine zF _ _ hs2 hst2 fun fr2=>?_
  refine kQ (kq rfl (zC (k_seq (k_cT rfl (kH (by omega)) (zJ (k_seq (zH (kQ (zA rfl (zX (u:=.int .i64 (o1)) rfl ty22 rfl rfl (Int.natCast_nonneg _) (by simp[ho1]) cl3 ?_))))))))))
  refine kE sh3 rfl ?_
  refine zB rfl (zB rfl (zC (k_region (zA rfl (zA rfl (zCm rfl ty98 rfl rfl (by omega) (by omega) cl3 ?_))))))
  refine kC sh3 rfl (zA rfl ?_)
  refine o_sub rfl rfl rfl (by unfold I64;omega) (o_max rfl rfl rfl ?_)
  refine zCm rfl ty98 rfl rfl (by omega) (by omega) cl3 ?_
  refine yz rfl rfl sh3 rfl rfl (zC ?_)
  refine zF [(4,U.box 1 0),(5,U.box 2 0),(14,.lst .ro 1 (zE (Bk.ends b))),(15,.int .i64 ↑(List.length (Bk.ends b))),(16,.int .i64 1)] ([SB.box (Bk.cd b d),SB.box (tri (0:Int) (0:Int) (0:Int)),SB.box (List.set (tri (Max.max (0:Int) (C1 - o0)) C2 C3) (0+Int.toNat (1:Int)*1) (.int .i64 (Max.max (0:Int) (C2 - o1))))]) (.n5 rfl) rfl fun fr=>?_
  refine k_region ?_
  refine kB rfl (by unfold I64;omega) (zA rfl (zC ?_))
  exact⟨1,by omega,.inr (.inr (.inl ⟨rfl,rfl,.c4 rfl rfl rfl rfl (.n1 rfl)⟩))⟩
 ·refine zF _ _ hs2 hst2 fun fr2=>?_
  refine kQ (kq rfl (zC (k_seq (k_cT rfl (kH (by omega)) (zJ (k_seq (zH (kQ (zA rfl (zX (u:=.int .i64 (o2)) rfl ty22 rfl rfl (Int.natCast_nonneg _) (by simp[ho2]) cl3 ?_))))))))))
  refine kE sh3 rfl ?_
  refine zB rfl (zB rfl (zC (k_region (zA rfl (zA rfl (zCm rfl ty98 rfl rfl (by omega) (by omega) cl3 ?_))))))
  refine kC sh3 rfl (zA rfl ?_)
  refine o_sub rfl rfl rfl (by unfold I64;omega) (o_max rfl rfl rfl ?_)
  refine zCm rfl ty98 rfl rfl (by omega) (by omega) cl3 ?_
  refine yz rfl rfl sh3 rfl rfl (zC ?_)
  refine zF [(4,U.box 1 0),(5,U.box 2 0),(14,.lst .ro 1 (zE (Bk.ends b))),(15,.int .i64 ↑(List.length (Bk.ends b))),(16,.int .i64 2)] ([SB.box (Bk.cd b d),SB.box (tri (0:Int) (0:Int) (0:Int)),SB.box (List.set (tri (Max.max (0:Int) (C1 - o0)) (Max.max (0:Int) (C2 - o1)) C3) (0+Int.toNat (2:Int)*1) (.int .i64 (Max.max (0:Int) (C3 - o2))))]) (.n5 rfl) rfl fun fr=>?_
  refine k_region ?_
  refine kB rfl (by unfold I64;omega) (zA rfl (zC ?_))
  exact⟨0,by omega,.inr (.inr (.inr ⟨rfl,rfl,.c4 rfl rfl rfl rfl (.n1 rfl)⟩))⟩
 ·refine zF _ _ hs2 hst2 fun fr2=>?_
  refine kQ (kq rfl (zC (k_seq (k_cF rfl (kI (by omega)) (zr (kQ (kD sh98 rfl (zZ rfl rfl sh98 rfl rfl rfl rfl rfl ?_))))))))
  refine zC (zS ?_)
  refine⟨.inr rfl,_,.cons _ _ _ _ (.cellN 4 98 _ _ _ _ rfl rfl sh98 rfl) .nil,?_⟩
  exact .refl _
theorem dec_beq(a b:Int):(a==b)=decide (a=b):=by
 by_cases h:a=b
 ·rw[kH h];simp[h]
 ·rw[kI h];simp[h]
theorem arr_eq(x y z:Int):binV Tryd.prog 98 .eql (valK (.agg (tri x y z))) (valK (.agg (tri 0 0 0)))=some (.bool (decide (x=0)&&(decide (y=0)&&decide (z=0)))):=by
 have h:binV Tryd.prog 98 .eql (valK (.agg (tri x y z))) (valK (.agg (tri 0 0 0)))=opt none (fun x=>some (V.bool x)) (Vam.cond (ieq x 0) (Vam.cond (ieq y 0) (Vam.cond (ieq z 0) (some true) (some false)) (some false)) (some false)):=by kernel_rfl
 rw[h]
 simp only[zDy,dec_beq]
 cases decide (x=0)<;>cases decide (y=0)<;>cases decide (z=0)<;>rfl
theorem ret58(hi:Off is){b:Bk}(h:BOk b){d L:List Int}(hd:DOk b d)(hL:L.length≤64):RetP Tryd.prog is orc 58 [crU b d,.lst .ro 1 (zE L)] (.bool (fitB b d L)):=by
 refine zp body58 pure58 (hi 58 (by decide)) rfl rfl (zu (zBp b d 4) (zR 6 .ro (fun h=>by cases h) 1 L)) (.inl (.bool _ _)) ?_
 have q83:=ret83 (orc:=orc) hi h hd hL
 have ea:=arr_eq (dlI b d L 0) (dlI b d L 1) (dlI b d L 2)
 change _=some (V.bool (fitB b d L))at ea
 generalize fitB b d L=z at*
 generalize dlI b d L 0=D0 at*
 generalize dlI b d L 1=D1 at*
 generalize dlI b d L 2=D2 at*
 refine kQ (yB rfl rfl (zB rfl (zC ?_)))
 refine zF [(1,.lst .ro 1 (zE L)),(2,U.box 0 0)] ([SB.box (Bk.cd b d)]) (.n2 rfl) rfl fun fr=>?_
 refine kQ (kD sh72 rfl (zA rfl (zG rfl (q83) (.lrefl _) (wk rfl ze98 pl98 rfl rfl ?_))))
 refine o_binK rfl rfl rfl rfl rfl ea ?_
 refine zB rfl (zC (zS ?_))
 refine⟨.inr rfl,_,.cons _ _ _ _ (.tmp 4) .nil,?_⟩
 exact .refl _
end
section
variable {is:FuncId→Bool}{orc:Known}
theorem sh119:shOf Tryd.prog 119=.one:=by kernel_rfl
theorem sh78:shOf Tryd.prog 78=.one:=by kernel_rfl
noncomputable def b112:Code:=(Tryd.f112.body).getD .skip
theorem body112:bodyOf Tryd.prog 112=some (16,b112,[]):=by kernel_rfl
theorem pure112:pureFn Tryd.prog 112=false:=by kernel_rfl
noncomputable def b102:Code:=(Tryd.f102.body).getD .skip
theorem body102:bodyOf Tryd.prog 102=some (6,b102,[.tmp 4]):=by kernel_rfl
theorem pure102:pureFn Tryd.prog 102=false:=by kernel_rfl
theorem Bd.mono{n m:Nat}{u:U}(h:Bd n u)(hm:n≤m):Bd m u:=fun φ S v hv=>(h φ S v hv).mono (fun a b e=>BMap.cut_of (by have:=(BMap.cut_some e).1;omega) (BMap.cut_some e).2) S.le_refl
theorem BdS.mono{n m:Nat}{x:SB}(h:BdS n x)(hm:n≤m):BdS m x:=by
 cases x with
 |box cs=>exact fun c hc=>Bd.mono (h c hc) hm
 |froz cs=>exact fun c hc=>Bd.mono (h c hc) hm
 |map es=>exact fun p hp=>⟨Bd.mono (h p hp).1 hm,Bd.mono (h p hp).2 hm⟩
 |loop q l=>exact fun i=>Bd.mono (h i) hm
 |dead=>trivial
structure Cns(N A:Nat)(lp:Lp)(stop:List Int→Bool)(X:List (List Int)→List SB)(D:List SB)(elt:List Int→Prop):Prop where
 len:∀l,(X l).length=N
 lenD:D.length=N
 bd:∀l,∀x∈X l,BdS N x
 bdD:∀x∈D,BdS N x
 bl:∀l,(X l)[A]? =some (.loop .ready lp)
 own:∀i,NoOwn (lp.fr i)
 ps:∃p,lp.ps=[p]∧Nat.blt p 1024=true
 run:∀(is:FuncId→Bool) (orc:Known),Off is→∀l q e,elt q→WpY Tryd.prog is orc A lp [.lst .ro 1 (zE q)] (X l++e) fun u st'=>
  (stop q=false∧u=.bool true∧∃e',st'=X (l++[q])++(e++e'))∨(stop q=true∧u=.bool false∧∃e',st'=D++(e++e'))
theorem zEu{P Q:List SB}{n i:Nat}{x:SB}(h:P.length=n)(hx:Q[i]? =some x):(P++Q)[n+i]? =some x:=by
 rw[List.getElem?_append_right (by omega),h,Nat.add_sub_cancel_left];exact hx
theorem at_off{st X:List SB}{k:Nat}{x:SB}(h:X[k]? =some x):(st++X)[st.length+k]? =some x:=by
 rw[List.getElem?_append_right (by omega),Nat.add_sub_cancel_left];exact h
theorem set_off{st X:List SB}{k:Nat}{x:SB}:(st++X).set (st.length+k) x=st++X.set k x:=by
 rw[List.set_append_right _ _ (by omega),Nat.add_sub_cancel_left]
variable {N A:Nat}{lp:Lp}{stop:List Int→Bool}{X:List (List Int)→List SB}{D:List SB}
def Gen(g:Nat)(B:List U)(caps:List (Nat×SB))(els:List (List Int))(elt:List Int→Prop):Prop:=
 ∀(is:FuncId→Bool) (orc:Known),Off is→∀{N A:Nat} {lp:Lp} {stop:List Int→Bool} {X:List (List Int)→List SB} {D:List SB},Cns N A lp stop X D elt→(∀c∈caps,∀l,(X l)[c.1]? =some c.2)→
  WpC Tryd.prog is orc g (.yld A::B) (X []) fun _ st'=>(els.any stop=false∧st'=X els)∨(els.any stop=true∧st'=D)
theorem Cns.lt{elt:List Int→Prop}(hc:Cns N A lp stop X D elt):A<N:=by
 have h1:=(List.getElem?_eq_some_iff.1 (hc.bl [])).1
 rw[hc.len]at h1;exact h1
theorem wc{P Q:List SB}{n:Nat}(h:P.length=n):(P++Q).take n=P:=by rw[←h,List.take_left]
noncomputable def rg112:Code×Code:=match b112 with
 | .seq _ (.seq _ (.block _ (.rangeFunc _ _ a b)))=>(a,b)
 |_=>(.skip,.skip)
theorem wpc102(f g:Nat)(F1 F2 G1 G2:List U)(st:List SB):WpC Tryd.prog is orc 102 [.fn f F1 F2,.fn g G1 G2] st fun u st'=>u=.fn 112 [] [.box st.length 0,.box (st.length+1) 0]∧st'=st++[.box [.fn f F1 F2],.box [.fn g G1 G2]]:=by
 refine zFX body102 pure102 rfl rfl ?_
 refine kQ (yB rfl rfl (yB rfl rfl (zB rfl (zC ?_))))
 refine zF [(2,U.box (List.length st) 0),(3,U.box (List.length (st++[SB.box [U.fn f F1 F2]])) 0)] (st++[SB.box [U.fn f F1 F2]]++[SB.box [U.fn g G1 G2]]) (.n2 rfl) rfl fun fr=>?_
 refine kQ ?_
 refine zDq rfl ?_
 refine zB rfl (zC (zS ?_))
 refine⟨.inr rfl,_,.cons _ _ _ _ (.tmp 4) .nil,?_⟩
 exact⟨_,.refl _,(by show U.fn 112 [] [.box st.length 0,.box (st++[SB.box _]).length 0]=_;simp),(by show(st++[SB.box _])++[SB.box _]=_;rw[List.append_assoc];rfl)⟩
noncomputable def lp112(pi si N g:Nat)(B:List U):Lp:=⟨fun i=>dg (zCC [(2,.box si 0),(3,.box N 0),(5,.fn g [] B)] i .junk),[6],rg112.1,rg112.2⟩
noncomputable abbrev zBD(A:Nat)(pi si N g:Nat)(B:List U)(q:Lq):List SB:=[.box [.yld A],.loop q (lp112 pi si N g B)]
section those
variable {pi si g h:Nat}{B C:List U}{sel:List Int→Bool}{els:List (List Int)}{elt:List Int→Prop}
set_option maxHeartbeats 16000000 in
theorem yield112(hi:Off is)(hc:Cns N A lp stop X D elt)(hsi:∀l,(X l)[si]? =some (.box [.fn h C []]))(hsel:∀(is:FuncId→Bool) (orc:Known),Off is→∀L,elt L→RetP Tryd.prog is orc h (C++[.lst .ro 1 (zE L)]) (.bool (sel L)))
  (l:List (List Int)) (q:List Int) (e:List SB) (hq:elt q):
  WpY Tryd.prog is orc (N+1) (lp112 pi si N g B) [.lst .ro 1 (zE q)] ((X (l.filter sel)++zBD A pi si N g B .ready)++e) fun u st'=>
   ((sel q&&stop q)=false∧u=.bool true∧∃e',st'=(X ((l++[q]).filter sel)++zBD A pi si N g B .ready)++(e++e'))∨
   ((sel q&&stop q)=true∧u=.bool false∧∃e',st'=(D++zBD A pi si N g B (.done .ret))++(e++e')):=by
 show Wp _ _ _ rg112.1 _ _
 rw[List.filter_append]
 generalize l.filter sel=F
 have hX:=hc.len F
 have hD:=hc.lenD
 have hlt:=hc.lt
 have set1:∀(P:List SB) (x:Lq),P.length=N→∀y E,((P++zBD A pi si N g B y)++E).set (N+1) (.loop x (lp112 pi si N g B))=(P++zBD A pi si N g B x)++E:=fun P x hP y E=>by
  rw[List.set_append_left _ _ (by simp[hP]),List.set_append_right _ _ (by omega),hP,Nat.add_sub_cancel_left];rfl
 have hE:∀(P:List SB) (y:Lq) (e':List SB),P++((zBD A pi si N g B y++e)++e')=(P++zBD A pi si N g B y)++(e++e'):=fun P y e'=>by simp only[List.append_assoc]
 have qsel:=hsel is orc hi q hq
 refine k_region (zB rfl (zC ?_))
 refine⟨rfl,?_,?_⟩
 ·show((X F++zBD A pi si N g B .ready)++e)[N+1]? =_
  exact yL (zEu hX rfl)
 refine zF [(2,.box si 0),(3,.box N 0),(4,.lst .ro 1 (zE q))] ((X F++zBD A pi si N g B .busy)++e) (.n3 rfl) (by
  show((X F++zBD A pi si N g B .ready)++e).set (N+1) (.loop .busy (lp112 pi si N g B))=_
  exact set1 _ _ hX _ _) fun fr=>?_
 have z2:((X F++zBD A pi si N g B .busy)++e)[si]? =some (.box [.fn h C []]):=yL (yL (hsi F))
 have z3:((X F++zBD A pi si N g B .busy)++e)[N]? =some (.box [.yld A]):=yL (zEu (i:=0) hX rfl)
 show Wp _ _ _ rg112.2 _ _
 generalize hz:sel q=z at*
 cases z with
 |false=>
  have hf:[q].filter sel=[]:=by simp[hz]
  refine zH (kQ (zQ rfl rfl z2 sh78 rfl ?_))
  refine zA rfl (zDD rfl rfl qsel (.lrefl _) ?_)
  refine zA rfl (ke rfl (ke rfl (ke rfl (ke rfl (kF rfl ?_)))))
  refine zC (k_cF rfl rfl ?_)
  refine zJ ?_
  refine⟨yL (zEu hX rfl),.inl ⟨rfl,rfl,[],?_⟩⟩
  show((X F++zBD A pi si N g B .busy)++e).set (N+1) (.loop .ready (lp112 pi si N g B))=_
  rw[set1 _ _ hX,hf,List.append_nil,List.append_nil]
 |true=>
  have hf:[q].filter sel=[q]:=by simp[hz]
  have hX2:=hc.len (F++[q])
  have hr:=hc.run is orc hi F q (zBD A pi si N g B .busy++e) hq
  rw[←List.append_assoc]at hr
  obtain⟨pp,hp1,hp2⟩:=hc.ps
  refine zH (kQ (zQ rfl rfl z2 sh78 rfl ?_))
  refine zA rfl (zDD rfl rfl qsel (.lrefl _) ?_)
  refine zA rfl (kf rfl (zQ rfl rfl z3 sh78 rfl ?_))
  refine kf rfl (zA rfl (kf rfl ?_))
  refine o_yield (a:=A) rfl rfl (yL (yL (hc.bl F))) hc.own (by rw[hp1];simp[hp2]) (by rw[hp1];rfl) (.lrefl _) hr (fun u st1 hM=>?_)
  rcases hM with ⟨hs,rfl,e',rfl⟩|⟨hs,rfl,e',rfl⟩
  ·refine kf rfl ?_
   refine zh rfl rfl (kG rfl ?_)
   refine zC (k_cF rfl rfl ?_)
   refine zJ ?_
   refine⟨?_,.inl ⟨by rw[hs];rfl,rfl,e',?_⟩⟩
   ·show(X (F++[q])++((zBD A pi si N g B .busy++e)++e'))[N+1]? =_
    rw[hE];exact yL (zEu hX2 rfl)
   ·show(X (F++[q])++((zBD A pi si N g B .busy++e)++e')).set (N+1) _=_
    rw[hE,set1 _ _ hX2,hf]
  ·refine kf rfl ?_
   refine zh rfl rfl (kG rfl ?_)
   refine zC (k_cT rfl rfl ?_)
   refine zS ?_
   refine⟨?_,.inr ⟨by rw[hs];rfl,rfl,e',?_⟩⟩
   ·show(D++((zBD A pi si N g B .busy++e)++e'))[N+1]? =_
    rw[hE];exact yL (zEu hD rfl)
   ·show(D++((zBD A pi si N g B .busy++e)++e')).set (N+1) _=_
    rw[hE,set1 _ _ hD];rfl
theorem any_sel(l:List (List Int))(p:List Int→Bool):l.any (fun q=>sel q&&p q)=(l.filter sel).any p:=by rw[List.any_filter]
theorem lookU_all{p:U→Prop}{l:List (Nat×U)}{d:U}(h:∀x∈l,p x.2)(hd:p d)(i:Nat):p (zCC l i d):=by
 induction l with
 |nil=>exact hd
 |cons x l ih=>
  obtain⟨j,u⟩:=x
  show p (Vam.cond (Nat.beq i j) u (zCC l i d))
  cases Nat.beq i j with
  |true=>exact h _ List.mem_cons_self
  |false=>exact ih fun y hy=>h y (List.mem_cons_of_mem _ hy)
theorem lp112_bd(hs:si<N)(hB:∀u∈B,Bd N u)(i:Nat):Bd (N+1) ((lp112 pi si N g B).fr i):=by
 refine lookU_all (p:=fun u=>Bd (N+1) (dg u)) ?_ (Bd.junk _) i
 intro x hx
 simp only[List.mem_cons,List.not_mem_nil,or_false]at hx
 rcases hx with rfl|rfl|rfl
 ·exact Bd.box (by omega)
 ·exact Bd.box (by omega)
 ·exact Bd.fn (fun u hu=>by cases hu) fun u hu=>Bd.mono (hB u hu) (by omega)
set_option maxHeartbeats 16000000 in
theorem gen112{caps:List (Nat×SB)}(hg:Gen g B caps els elt)(hB:∀(N:Nat),(∀c∈caps,c.1<N)→∀u∈B,Bd N u)
  (hsel:∀(is:FuncId→Bool) (orc:Known),Off is→∀L,elt L→RetP Tryd.prog is orc h (C++[.lst .ro 1 (zE L)]) (.bool (sel L))):
  Gen 112 [.box pi 0,.box si 0] ((pi,.box [.fn g [] B])::(si,.box [.fn h C []])::caps) (els.filter sel) elt:=by
 intro is orc hi N A lp stop X D hc hcap
 have hX:=hc.len []
 have hD:=hc.lenD
 have hlt:=hc.lt
 have hpi:=hcap _ List.mem_cons_self
 have hsi:=hcap _ (List.mem_cons_of_mem _ List.mem_cons_self)
 have hca:∀c∈caps,∀l,(X l)[c.1]? =some c.2:=fun c hc=>hcap c (List.mem_cons_of_mem _ (List.mem_cons_of_mem _ hc))
 have lt_of:∀{i x},(X [])[i]? =some x→i<N:=fun h1=>by have:=(List.getElem?_eq_some_iff.1 h1).1;omega
 have hBN:=hB N fun c hc=>lt_of (hca c hc [])
 have hlp:=lp112_bd (N:=N) (pi:=pi) (g:=g) (lt_of (hsi [])) hBN
 have bd2:∀(P:List SB) (q:Lq),(∀x∈P,BdS N x)→∀x∈P++zBD A pi si N g B q,BdS (N+2) x:=fun P q hP x hx=>by
  rcases List.mem_append.1 hx with hx|hx
  ·exact BdS.mono (hP x hx) (by omega)
  ·simp only[List.mem_cons,List.not_mem_nil,or_false]at hx
   rcases hx with rfl|rfl
   ·intro c hc;rcases List.mem_singleton.1 hc with rfl;exact Bd.yld (by omega)
   ·exact fun i=>Bd.mono (hlp i) (by omega)
 have hc2:Cns (N+2) (N+1) (lp112 pi si N g B) (fun q=>sel q&&stop q) (fun l=>X (l.filter sel)++zBD A pi si N g B .ready) (D++zBD A pi si N g B (.done .ret)) elt:=by
  refine⟨fun l=>by simp[hc.len],by simp[hD],fun l=>bd2 _ _ (hc.bd _),bd2 _ _ hc.bdD,fun l=>zEu (hc.len _) rfl,fun i=>zDK _,⟨6,rfl,rfl⟩,fun is orc hi l q e hq=>?_⟩
  exact yield112 hi hc hsi hsel l q e hq
 have hw:=hg is orc hi hc2 (fun c hc l=>yL (hca c hc _))
 rw[any_sel]at hw
 refine wpc_cut body112 pure112 rfl rfl ?_
 have y1:=hpi []
 refine kQ (yB rfl rfl (zC ?_))
 refine zF [(1,U.box pi 0),(2,U.box si 0),(3,U.box (List.length (X [])) 0)] (X []++[SB.box [U.yld A]]) (.n3 rfl) rfl fun fr=>?_
 refine kQ (zQ rfl rfl (yL y1) sh119 rfl ?_)
 refine zC (zH ?_)
 refine k_forget [(2,.box si 0),(3,.box N 0),(5,.fn g [] B)] (X []++[.box [.yld A]]) (.cons rfl (.cons (by show U.box (X []).length 0=_;rw[hX]) (.n1 rfl))) rfl ?_
 have hl1:(X []++[SB.box [.yld A]]).length=N+1:=by simp[hX]
 refine k_range (g:=g) rfl ?_
 show WpC Tryd.prog is orc g (.yld (X []++[SB.box [.yld A]]).length::B) ((X []++[SB.box [.yld A]])++[.loop .ready (lp112 pi si N g B)]) _
 rw[hl1,List.append_assoc]
 refine hw.mono fun _ st' hst=>?_
 have tk:∀(P:List SB) (q:Lq),P.length=N→(P++zBD A pi si N g B q).take (N+1)=P++[.box [.yld A]]:=fun P q hP=>by
  rw[show P++zBD A pi si N g B q=(P++[SB.box [.yld A]])++[SB.loop q (lp112 pi si N g B)] by rw[List.append_assoc];rfl,wc (by simp[hP])]
 have bd1:∀(P:List SB),(∀x∈P,BdS N x)→∀x∈P++[SB.box [.yld A]],BdS (N+1) x:=fun P hP x hx=>by
  rcases List.mem_append.1 hx with hx|hx
  ·exact BdS.mono (hP x hx) (by omega)
  ·rcases List.mem_singleton.1 hx with rfl
   intro c hc;rcases List.mem_singleton.1 hc with rfl;exact Bd.yld (by omega)
 rcases hst with ⟨h1,h2⟩|⟨h1,h2⟩
 ·refine⟨.ready,by rw[h2];exact zEu (hc.len _) rfl,?_,?_⟩
  ·rw[h2,tk _ _ (hc.len _)];exact bd1 _ (hc.bd _)
  ·rw[h2,tk _ _ (hc.len _)]
   refine⟨.inl rfl,_,.nil,_,.refl _,Bd.tup (fun c hc=>by cases hc),?_,?_,.inl ⟨h1,?_⟩⟩
   ·show(X []).length≤(X _++_).length
    rw[List.length_append,hX,hc.len];omega
   ·show ∀x∈(X _++_).take (X []).length,BdS (X []).length x
    rw[hX,wc (hc.len _)];exact hc.bd _
   ·show(X _++_).take (X []).length=_
    rw[hX,wc (hc.len _)]
 ·refine⟨.done .ret,by rw[h2];exact zEu hD rfl,?_,?_⟩
  ·rw[h2,tk _ _ hD];exact bd1 _ hc.bdD
  ·rw[h2,tk _ _ hD]
   refine⟨.inr rfl,_,.nil,_,.refl _,Bd.tup (fun c hc=>by cases hc),?_,?_,.inr ⟨h1,?_⟩⟩
   ·show(X []).length≤(D++_).length
    rw[List.length_append,hX,hD];omega
   ·show ∀x∈(D++_).take (X []).length,BdS (X []).length x
    rw[hX,wc hD];exact hc.bdD
   ·show(D++_).take (X []).length=_
    rw[hX,wc hD]
end those
theorem k_rangeG{g n:Nat}{B:List U}{caps:List (Nat×SB)}{els:List (List Int)}{elt:List Int→Prop}{lp:Lp}{stop:List Int→Bool}{Z:List (List Int)→List SB}{DZ:List SB}{ex:Ex}{s:St}{x:Operand}{ps:Array Tmp}{assign body:Code}{Q:Ex→St→Prop}(hi:Off is)
  (hg:Gen g B caps els elt) (hx:zT s x=.fn g [] B) (hc:Cns (n+1) n lp stop (fun l=>Z l++[.loop .ready lp]) (DZ++[.loop (.done ex) lp]) elt) (hn:∀l,(Z l).length=n) (hnD:DZ.length=n) (hcap:∀c∈caps,∀l,(Z l)[c.1]? =some c.2)
  (hbd:∀l,∀x∈Z l,BdS n x) (hbdD:∀x∈DZ,BdS n x) (hlp:lpOf s ps.toList assign body=lp) (hst:s.st=Z []) (k1:els.any stop=false→endQ Q .ready ⟨s.fr,[],Z els⟩) (k2:els.any stop=true→endQ Q (.done ex) ⟨s.fr,[],DZ⟩):Wp Tryd.prog is orc (.rangeFunc x ps assign body) s Q:=by
 refine k_range hx ?_
 have hl:s.st.length=n:=by rw[hst,hn]
 show WpC Tryd.prog is orc g ([]++([.yld s.st.length]++B)) _ _
 rw[hlp,hl,hst]
 refine(hg is orc hi hc (fun c h l=>yL (hcap c h l))).mono fun _ st' hs=>?_
 rcases hs with ⟨h1,h2⟩|⟨h1,h2⟩
 ·subst h2
  exact⟨.ready,by rw[←hn els];exact za _ _,by rw[wc (hn els)];exact hbd _,by rw[wc (hn els)];exact k1 h1⟩
 ·subst h2
  exact⟨.done ex,by rw[←hnD];exact za _ _,by rw[wc hnD];exact hbdD,by rw[wc hnD];exact k2 h1⟩
end
end Go.Proofs.YtlknfhjfkcboiaaDoor.night
