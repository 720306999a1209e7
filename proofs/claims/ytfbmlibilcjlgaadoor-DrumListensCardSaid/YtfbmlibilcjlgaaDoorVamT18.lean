import Derived.Test.YtfbmlibilcjlgaaDoorVamT17
set_option linter.unusedVariables false
set_option linter.unusedSimpArgs false
set_option linter.constructorNameAsVariable false
namespace Go.Proofs.YtfbmlibilcjlgaaDoor.drumListens
open Vam
section
variable {is:FuncId→Bool}{orc:Known}{b:Bk}
noncomputable def b14:Code:=(Tryd.f14.body).getD .skip
theorem body14:bodyOf Tryd.prog 14=some (201,b14,[.tmp 6]):=by kernel_rfl
theorem pure14:pureFn Tryd.prog 14=true:=by kernel_rfl
noncomputable def rest14:Code:=match b14 with
 | .seq _ (.seq _ (.seq _ (.seq _ (.seq _ (.seq _ c)))))=>c
 |_=>.skip
abbrev hrS(bits:List Int)(L:List Int)(k:Nat):Int:=if zEI (nthI bits (k+3)) 3=0 then dfI L k else -2
abbrev hrM(bits:List Int)(t:Int)(L:List Int)(k:Nat):Int:=if zEI (nthI bits (k+3)) 3=0 then dfI L k else if(k:Int)=t then dfI L k else -2
set_option maxHeartbeats 16000000 in
set_option maxRecDepth 20000 in
theorem tail14(hi:Off is)(hb:BOk b){L:List Int}(hL:L∈wS b)(bits:List Int)(n:Int)(r24:RetP Tryd.prog is orc 24 [] (.bool true))(fr:Nat→U):Wp Tryd.prog is orc rest14 ⟨fun j=>zBK [(1,.lst .ro 1 (zD bits)),(2,.int .i64 n),(3,.box 0 0),(7,.lst .ro 1 (zD L))] j (fr j),[],[.box [.int .i64 b.parts,.int .i64 b.size,.lst .ro 1 (zD b.beats),.int .i64 b.start,.int .i64 b.fin,.int .i64 b.tlo,.int .i64 b.thi,.int .i64 b.slo,.int .i64 b.shi,.int .i64 b.notice,.lst .ro 3 (plsU b.players)]]⟩ (fun e s=>(e=.normal∨e=.ret)∧∃us,ResL Tryd.prog s [.tmp 6] us∧UW (.u (tupU us)) (.u (.bool true))):=by
 have hok:=((zAH hb).1 hL).1
 have hlen:=hok.len
 have hpa:=hb.pa
 have q39:=ret39 (orc:=orc) hi hb hok
 have qt:=ret46 (orc:=orc) hi n b.parts (by omega)
 refine k_seq (kQ (zO rfl rfl rfl sh27 rfl (zA rfl (zN rfl (q39) (.lrefl _) (wI rfl rfl (zB (k_cF rfl rfl ?_)))))))
 refine zQ (kQ (zC rfl (zC rfl (zC rfl (zB (k_seq (kQ (zC rfl ?_))))))))
 refine zB (zM ?_)
 generalize zEI n b.parts=T at qt
 refine yi (fun kk s2=>∃(k:Nat) (kd:Kd) (z:Nat),kk+k+1=L.length∧((kd=.full∧z=0∧k=0)∨(kd=.own∧z=1))∧s2.st=[.box [.int .i64 b.parts,.int .i64 b.size,.lst .ro 1 (zD b.beats),.int .i64 b.start,.int .i64 b.fin,.int .i64 b.tlo,.int .i64 b.thi,.int .i64 b.slo,.int .i64 b.shi,.int .i64 b.notice,.lst .ro 3 (plsU b.players)]]∧Holds s2 [(1,.lst .ro 1 (zD bits)),(2,.int .i64 n),(3,.box 0 0),(7,.lst .ro 1 (zD L)),(12,.lst kd z (zD (heaL (hrS bits L) k))),(13,.lst kd z (zD (heaL (hrM bits T L) k))),(14,.lst kd z (zD (heaL (dfI L) k))),(15,.int .i64 (k+1))]) (fun kk s2 hI=>?_) (L.length - 1) _ ⟨0,.full,0,by omega,.inl ⟨rfl,rfl,rfl⟩,rfl,.c4 rfl rfl rfl rfl (.c4 rfl rfl rfl rfl (.nil rfl))⟩
 obtain⟨k,kd,z,hk,hkd,hst2,hs2⟩:=hI
 by_cases hkl:k+1<L.length
 ·have hx:L[k]? =some (L[k]'(by omega)):=List.getElem?_eq_getElem (by omega)
  have hy:L[k+1]? =some (L[k+1]'hkl):=List.getElem?_eq_getElem hkl
  generalize L[k]'(by omega)=x at hx
  generalize L[k+1]'hkl=y at hy
  have hxr:=hok.rg x (List.mem_of_getElem? hx)
  have hyr:=hok.rg y (List.mem_of_getElem? hy)
  have eD:dfI L k=y - x:=by unfold dfI;rw[hx,hy];rfl
  have hS:=zGD (hrS bits L) k
  have hM:=zGD (hrM bits T L) k
  have hD:=zGD (dfI L) k
  have hl12:=zFS (hrS bits L) k
  have hl13:=zFS (hrM bits T L) k
  have hl14:=zFS (dfI L) k
  have q53:=ret53 (orc:=orc) hi bits (k+3)
  have qu:=ret46 (orc:=orc) hi (nthI bits (k+3)) 3 (by omega)
  unfold hrS at hS
  unfold hrM at hM
  rw[eD]at hS hM hD
  change heaL (hrS bits L) (k+1)=heaL (hrS bits L) k++_ at hS
  change heaL (hrM bits T L) (k+1)=heaL (hrM bits T L) k++_ at hM
  generalize zEI (nthI bits (k+3)) 3=u at qu hS hM
  generalize nthI bits (k+3)=v at q53 qu
  rcases hkd with ⟨rfl,rfl,h0⟩|⟨rfl,rfl⟩
  ·rw[show heaL (hrS bits L) k=[] by rw[h0];rfl]at hS hs2
   rw[show heaL (hrM bits T L) k=[] by rw[h0];rfl]at hM hs2
   rw[show heaL (dfI L) k=[] by rw[h0];rfl]at hD hs2
   by_cases c1:u=0
   ·have k102:=decide_eq_true c1
    rw[if_pos c1]at hS hM
    refine zK _ _ hs2 hst2 fun fr2=>?_
    refine k_seq (kQ (zA rfl (zA rfl (yB rfl ty22 rfl (List.length_map _) ?_))))
    refine zc rfl rfl rfl (zB (k_cT rfl (decide_eq_true (by omega)) (zQ (k_seq (zM (k_seq (ya [.plain,.plain,.plain,.read true,.plain,.plain,.plain,.plain,.read true,.plain,.plain] (by kernel_rfl) (by kernel_rfl) (by kernel_rfl) ?_)))))))
    refine zE (zA rfl (zB rfl)) (zE (zA rfl (zB rfl)) ?_)
    refine zE (yb (u:=.int .i64 y) rfl ty22 rfl rfl (by omega) (by rw[show((k:Int)+1).toNat=k+1 by omega];simp[hy]) cl3 (zB rfl)) ?_
    refine zb rfl (zZ rfl rfl sh3 rfl (zB rfl)) ?_
    refine zE (zA rfl (zB rfl)) (zE (zA rfl (zB rfl)) ?_)
    refine zE (wF rfl rfl rfl (by unfold I64;omega) (zB rfl)) ?_
    refine zE (yb (u:=.int .i64 x) rfl ty22 rfl rfl (by omega) (by rw[show((k:Int)+1 - 1).toNat=k by omega];simp[hx]) cl3 (zB rfl)) ?_
    refine zb rfl (zZ rfl rfl sh3 rfl (zB rfl)) ?_
    refine zE (wF rfl rfl rfl (by unfold I64;omega) (zB rfl)) ?_
    refine zE (zC rfl (zB rfl)) ?_
    refine wb ?_
    refine zK [(1,.lst .ro 1 (zD bits)),(2,.int .i64 n),(3,U.box 0 0),(7,.lst .ro 1 (zD L)),(12,.lst .full 0 (zD [])),(13,.lst .full 0 (zD [])),(14,.lst .full 0 (zD [])),(15,.int .i64 (↑k+(1:Int))),(16,.int .i64 (y - x))] ([SB.box [.int .i64 (Bk.parts b),.int .i64 (Bk.size b),.lst .ro 1 (zD (Bk.beats b)),.int .i64 (Bk.start b),.int .i64 (Bk.fin b),.int .i64 (Bk.tlo b),.int .i64 (Bk.thi b),.int .i64 (Bk.slo b),.int .i64 (Bk.shi b),.int .i64 (Bk.notice b),.lst .ro 3 (plsU (Bk.players b))]]) (.c4 rfl rfl rfl rfl (.c4 rfl rfl rfl rfl (.cons rfl (.nil rfl)))) rfl fun fr=>?_
    refine kQ (zA rfl (zA rfl (wX (es:=[.int .i64 (y - x)]) rfl ty22 ze3 cl3 rfl rfl rfl rfl rfl rfl rfl rfl ?_)))
    refine wP rfl ap22_22 rfl rfl (by simp) (by simp) (by simp[yK,zn,oneU]) (by simp) ?_
    refine zC rfl (zB (kQ (zA rfl (zA rfl ?_))))
    refine yU rfl rfl rfl (by unfold I64;omega) (zN rfl (q53) (.lrefl _) (zN rfl (qu) (.lrefl _) (wG rfl rfl rfl (zB (k_cT rfl (by assumption) (k_region (zA rfl (zA rfl ?_))))))))
    refine wX (es:=[.int .i64 (y - x)]) rfl ty22 ze3 cl3 rfl rfl rfl rfl rfl rfl rfl rfl ?_
    refine wP rfl ap22_22 rfl rfl (by simp) (by simp) (by simp[yK,zn,oneU]) (by simp) ?_
    refine zA rfl (zA rfl (wX (es:=[.int .i64 (y - x)]) rfl ty22 ze3 cl3 rfl rfl rfl rfl rfl rfl rfl rfl ?_))
    refine wP rfl ap22_22 rfl rfl (by simp) (by simp) (by simp[yK,zn,oneU]) (by simp) ?_
    refine zC rfl (zC rfl (zB ?_))
    refine zK [(1,.lst .ro 1 (zD bits)),(2,.int .i64 n),(3,U.box 0 0),(7,.lst .ro 1 (zD L)),(12,U.lst Kd.own 1 [.int .i64 (y - x)]),(13,U.lst Kd.own 1 [.int .i64 (y - x)]),(14,U.lst Kd.own 1 [.int .i64 (y - x)]),(15,.int .i64 (↑k+(1:Int)))] ([SB.box [.int .i64 (Bk.parts b),.int .i64 (Bk.size b),.lst .ro 1 (zD (Bk.beats b)),.int .i64 (Bk.start b),.int .i64 (Bk.fin b),.int .i64 (Bk.tlo b),.int .i64 (Bk.thi b),.int .i64 (Bk.slo b),.int .i64 (Bk.shi b),.int .i64 (Bk.notice b),.lst .ro 3 (plsU (Bk.players b))]]) (.c4 rfl rfl rfl rfl (.c4 rfl rfl rfl rfl (.nil rfl))) rfl fun fr=>?_
    refine k_region (zA rfl ?_)
    refine yU rfl rfl rfl (by unfold I64;omega) (zC rfl (zB ?_))
    exact⟨kk - 1,by omega,k+1,.own,1,by omega,.inr ⟨rfl,rfl⟩,rfl,.c4 rfl rfl rfl rfl (.cons (by rw[hS];rfl) (.cons (by rw[hM];rfl) (.cons (by rw[hD];rfl) (.cons rfl (.nil rfl)))))⟩
   ·have k102:=decide_eq_false c1
    rw[if_neg c1]at hS hM
    by_cases c2:(k:Int)=T
    ·have k117:decide ((k:Int)+1 - 1=T)=true:=decide_eq_true (by omega)
     rw[if_pos c2]at hM
     refine zK _ _ hs2 hst2 fun fr2=>?_
     refine k_seq (kQ (zA rfl (zA rfl (yB rfl ty22 rfl (List.length_map _) ?_))))
     refine zc rfl rfl rfl (zB (k_cT rfl (decide_eq_true (by omega)) (zQ (k_seq (zM (k_seq (ya [.plain,.plain,.plain,.read true,.plain,.plain,.plain,.plain,.read true,.plain,.plain] (by kernel_rfl) (by kernel_rfl) (by kernel_rfl) ?_)))))))
     refine zE (zA rfl (zB rfl)) (zE (zA rfl (zB rfl)) ?_)
     refine zE (yb (u:=.int .i64 y) rfl ty22 rfl rfl (by omega) (by rw[show((k:Int)+1).toNat=k+1 by omega];simp[hy]) cl3 (zB rfl)) ?_
     refine zb rfl (zZ rfl rfl sh3 rfl (zB rfl)) ?_
     refine zE (zA rfl (zB rfl)) (zE (zA rfl (zB rfl)) ?_)
     refine zE (wF rfl rfl rfl (by unfold I64;omega) (zB rfl)) ?_
     refine zE (yb (u:=.int .i64 x) rfl ty22 rfl rfl (by omega) (by rw[show((k:Int)+1 - 1).toNat=k by omega];simp[hx]) cl3 (zB rfl)) ?_
     refine zb rfl (zZ rfl rfl sh3 rfl (zB rfl)) ?_
     refine zE (wF rfl rfl rfl (by unfold I64;omega) (zB rfl)) ?_
     refine zE (zC rfl (zB rfl)) ?_
     refine wb ?_
     refine zK [(1,.lst .ro 1 (zD bits)),(2,.int .i64 n),(3,U.box 0 0),(7,.lst .ro 1 (zD L)),(12,.lst .full 0 (zD [])),(13,.lst .full 0 (zD [])),(14,.lst .full 0 (zD [])),(15,.int .i64 (↑k+(1:Int))),(16,.int .i64 (y - x))] ([SB.box [.int .i64 (Bk.parts b),.int .i64 (Bk.size b),.lst .ro 1 (zD (Bk.beats b)),.int .i64 (Bk.start b),.int .i64 (Bk.fin b),.int .i64 (Bk.tlo b),.int .i64 (Bk.thi b),.int .i64 (Bk.slo b),.int .i64 (Bk.shi b),.int .i64 (Bk.notice b),.lst .ro 3 (plsU (Bk.players b))]]) (.c4 rfl rfl rfl rfl (.c4 rfl rfl rfl rfl (.cons rfl (.nil rfl)))) rfl fun fr=>?_
     refine kQ (zA rfl (zA rfl (wX (es:=[.int .i64 (y - x)]) rfl ty22 ze3 cl3 rfl rfl rfl rfl rfl rfl rfl rfl ?_)))
     refine wP rfl ap22_22 rfl rfl (by simp) (by simp) (by simp[yK,zn,oneU]) (by simp) ?_
     refine zC rfl (zB (kQ (zA rfl (zA rfl ?_))))
     refine yU rfl rfl rfl (by unfold I64;omega) (zN rfl (q53) (.lrefl _) (zN rfl (qu) (.lrefl _) (wG rfl rfl rfl (zB (k_cF rfl (by assumption) (kQ (zA rfl ?_)))))))
     refine wF rfl rfl rfl (by unfold I64;omega) (zA rfl (zF rfl rfl yp (zG rfl rfl rfl sh3 rfl (zN rfl (qt) (.lrefl _) (wG rfl rfl rfl (zB ?_))))))
     refine zK [(1,.lst .ro 1 (zD bits)),(2,.int .i64 n),(3,U.box 0 0),(7,.lst .ro 1 (zD L)),(12,.lst .full 0 (zD [])),(13,.lst .full 0 (zD [])),(14,U.lst Kd.own 1 [.int .i64 (y - x)]),(15,.int .i64 (↑k+(1:Int))),(16,.int .i64 (y - x)),(117,U.bool (decide (↑k+(1:Int) - (1:Int)=T)))] ([SB.box [.int .i64 (Bk.parts b),.int .i64 (Bk.size b),.lst .ro 1 (zD (Bk.beats b)),.int .i64 (Bk.start b),.int .i64 (Bk.fin b),.int .i64 (Bk.tlo b),.int .i64 (Bk.thi b),.int .i64 (Bk.slo b),.int .i64 (Bk.shi b),.int .i64 (Bk.notice b),.lst .ro 3 (plsU (Bk.players b))]]) (.c4 rfl rfl rfl rfl (.c4 rfl rfl rfl rfl (.cons rfl (.cons rfl (.nil rfl))))) rfl fun fr=>?_
     refine k_cT rfl (by assumption) (k_region (zA rfl (wX (es:=[_]) rfl ty22 ze3 cl3 rfl rfl rfl rfl rfl rfl rfl rfl ?_)))
     refine wP rfl ap22_22 rfl rfl (by simp) (by simp) rfl (by simp) ?_
     refine zA rfl (zA rfl (wX (es:=[.int .i64 (y - x)]) rfl ty22 ze3 cl3 rfl rfl rfl rfl rfl rfl rfl rfl ?_))
     refine wP rfl ap22_22 rfl rfl (by simp) (by simp) (by simp[yK,zn,oneU]) (by simp) ?_
     refine zC rfl (zC rfl (zB (k_region (zA rfl ?_))))
     refine yU rfl rfl rfl (by unfold I64;omega) (zC rfl (zB ?_))
     exact⟨kk - 1,by omega,k+1,.own,1,by omega,.inr ⟨rfl,rfl⟩,rfl,.c4 rfl rfl rfl rfl (.cons (by rw[hS];rfl) (.cons (by rw[hM];rfl) (.cons (by rw[hD];rfl) (.cons rfl (.nil rfl)))))⟩
    ·have k117:decide ((k:Int)+1 - 1=T)=false:=decide_eq_false (by omega)
     rw[if_neg c2]at hM
     refine zK _ _ hs2 hst2 fun fr2=>?_
     refine k_seq (kQ (zA rfl (zA rfl (yB rfl ty22 rfl (List.length_map _) ?_))))
     refine zc rfl rfl rfl (zB (k_cT rfl (decide_eq_true (by omega)) (zQ (k_seq (zM (k_seq (ya [.plain,.plain,.plain,.read true,.plain,.plain,.plain,.plain,.read true,.plain,.plain] (by kernel_rfl) (by kernel_rfl) (by kernel_rfl) ?_)))))))
     refine zE (zA rfl (zB rfl)) (zE (zA rfl (zB rfl)) ?_)
     refine zE (yb (u:=.int .i64 y) rfl ty22 rfl rfl (by omega) (by rw[show((k:Int)+1).toNat=k+1 by omega];simp[hy]) cl3 (zB rfl)) ?_
     refine zb rfl (zZ rfl rfl sh3 rfl (zB rfl)) ?_
     refine zE (zA rfl (zB rfl)) (zE (zA rfl (zB rfl)) ?_)
     refine zE (wF rfl rfl rfl (by unfold I64;omega) (zB rfl)) ?_
     refine zE (yb (u:=.int .i64 x) rfl ty22 rfl rfl (by omega) (by rw[show((k:Int)+1 - 1).toNat=k by omega];simp[hx]) cl3 (zB rfl)) ?_
     refine zb rfl (zZ rfl rfl sh3 rfl (zB rfl)) ?_
     refine zE (wF rfl rfl rfl (by unfold I64;omega) (zB rfl)) ?_
     refine zE (zC rfl (zB rfl)) ?_
     refine wb ?_
     refine zK [(1,.lst .ro 1 (zD bits)),(2,.int .i64 n),(3,U.box 0 0),(7,.lst .ro 1 (zD L)),(12,.lst .full 0 (zD [])),(13,.lst .full 0 (zD [])),(14,.lst .full 0 (zD [])),(15,.int .i64 (↑k+(1:Int))),(16,.int .i64 (y - x))] ([SB.box [.int .i64 (Bk.parts b),.int .i64 (Bk.size b),.lst .ro 1 (zD (Bk.beats b)),.int .i64 (Bk.start b),.int .i64 (Bk.fin b),.int .i64 (Bk.tlo b),.int .i64 (Bk.thi b),.int .i64 (Bk.slo b),.int .i64 (Bk.shi b),.int .i64 (Bk.notice b),.lst .ro 3 (plsU (Bk.players b))]]) (.c4 rfl rfl rfl rfl (.c4 rfl rfl rfl rfl (.cons rfl (.nil rfl)))) rfl fun fr=>?_
     refine kQ (zA rfl (zA rfl (wX (es:=[.int .i64 (y - x)]) rfl ty22 ze3 cl3 rfl rfl rfl rfl rfl rfl rfl rfl ?_)))
     refine wP rfl ap22_22 rfl rfl (by simp) (by simp) (by simp[yK,zn,oneU]) (by simp) ?_
     refine zC rfl (zB (kQ (zA rfl (zA rfl ?_))))
     refine yU rfl rfl rfl (by unfold I64;omega) (zN rfl (q53) (.lrefl _) (zN rfl (qu) (.lrefl _) (wG rfl rfl rfl (zB (k_cF rfl (by assumption) (kQ (zA rfl ?_)))))))
     refine wF rfl rfl rfl (by unfold I64;omega) (zA rfl (zF rfl rfl yp (zG rfl rfl rfl sh3 rfl (zN rfl (qt) (.lrefl _) (wG rfl rfl rfl (zB ?_))))))
     refine zK [(1,.lst .ro 1 (zD bits)),(2,.int .i64 n),(3,U.box 0 0),(7,.lst .ro 1 (zD L)),(12,.lst .full 0 (zD [])),(13,.lst .full 0 (zD [])),(14,U.lst Kd.own 1 [.int .i64 (y - x)]),(15,.int .i64 (↑k+(1:Int))),(16,.int .i64 (y - x)),(117,U.bool (decide (↑k+(1:Int) - (1:Int)=T)))] ([SB.box [.int .i64 (Bk.parts b),.int .i64 (Bk.size b),.lst .ro 1 (zD (Bk.beats b)),.int .i64 (Bk.start b),.int .i64 (Bk.fin b),.int .i64 (Bk.tlo b),.int .i64 (Bk.thi b),.int .i64 (Bk.slo b),.int .i64 (Bk.shi b),.int .i64 (Bk.notice b),.lst .ro 3 (plsU (Bk.players b))]]) (.c4 rfl rfl rfl rfl (.c4 rfl rfl rfl rfl (.cons rfl (.cons rfl (.nil rfl))))) rfl fun fr=>?_
     refine k_cF rfl (by assumption) (k_region (zA rfl (wX (es:=[_]) rfl ty22 ze3 cl3 rfl rfl rfl rfl rfl rfl rfl rfl ?_)))
     refine wP rfl ap22_22 rfl rfl (by simp) (by simp) rfl (by simp) ?_
     refine zA rfl (wX (es:=[_]) rfl ty22 ze3 cl3 rfl rfl rfl rfl rfl rfl rfl rfl ?_)
     refine wP rfl ap22_22 rfl rfl (by simp) (by simp) rfl (by simp) ?_
     refine zC rfl (zC rfl (zB (k_region (zA rfl ?_))))
     refine yU rfl rfl rfl (by unfold I64;omega) (zC rfl (zB ?_))
     exact⟨kk - 1,by omega,k+1,.own,1,by omega,.inr ⟨rfl,rfl⟩,rfl,.c4 rfl rfl rfl rfl (.cons (by rw[hS];rfl) (.cons (by rw[hM];rfl) (.cons (by rw[hD];rfl) (.cons rfl (.nil rfl)))))⟩
  ·generalize heaL (hrS bits L) k=A12 at hS hl12 hs2
   generalize heaL (hrM bits T L) k=A13 at hM hl13 hs2
   generalize heaL (dfI L) k=A14 at hD hl14 hs2
   by_cases c1:u=0
   ·have k102:=decide_eq_true c1
    rw[if_pos c1]at hS hM
    refine zK _ _ hs2 hst2 fun fr2=>?_
    refine k_seq (kQ (zA rfl (zA rfl (yB rfl ty22 rfl (List.length_map _) ?_))))
    refine zc rfl rfl rfl (zB (k_cT rfl (decide_eq_true (by omega)) (zQ (k_seq (zM (k_seq (ya [.plain,.plain,.plain,.read true,.plain,.plain,.plain,.plain,.read true,.plain,.plain] (by kernel_rfl) (by kernel_rfl) (by kernel_rfl) ?_)))))))
    refine zE (zA rfl (zB rfl)) (zE (zA rfl (zB rfl)) ?_)
    refine zE (yb (u:=.int .i64 y) rfl ty22 rfl rfl (by omega) (by rw[show((k:Int)+1).toNat=k+1 by omega];simp[hy]) cl3 (zB rfl)) ?_
    refine zb rfl (zZ rfl rfl sh3 rfl (zB rfl)) ?_
    refine zE (zA rfl (zB rfl)) (zE (zA rfl (zB rfl)) ?_)
    refine zE (wF rfl rfl rfl (by unfold I64;omega) (zB rfl)) ?_
    refine zE (yb (u:=.int .i64 x) rfl ty22 rfl rfl (by omega) (by rw[show((k:Int)+1 - 1).toNat=k by omega];simp[hx]) cl3 (zB rfl)) ?_
    refine zb rfl (zZ rfl rfl sh3 rfl (zB rfl)) ?_
    refine zE (wF rfl rfl rfl (by unfold I64;omega) (zB rfl)) ?_
    refine zE (zC rfl (zB rfl)) ?_
    refine wb ?_
    refine zK [(1,.lst .ro 1 (zD bits)),(2,.int .i64 n),(3,U.box 0 0),(7,.lst .ro 1 (zD L)),(12,U.lst Kd.own 1 (zD A12)),(13,U.lst Kd.own 1 (zD A13)),(14,U.lst Kd.own 1 (zD A14)),(15,.int .i64 (↑k+(1:Int))),(16,.int .i64 (y - x))] ([SB.box [.int .i64 (Bk.parts b),.int .i64 (Bk.size b),.lst .ro 1 (zD (Bk.beats b)),.int .i64 (Bk.start b),.int .i64 (Bk.fin b),.int .i64 (Bk.tlo b),.int .i64 (Bk.thi b),.int .i64 (Bk.slo b),.int .i64 (Bk.shi b),.int .i64 (Bk.notice b),.lst .ro 3 (plsU (Bk.players b))]]) (.c4 rfl rfl rfl rfl (.c4 rfl rfl rfl rfl (.cons rfl (.nil rfl)))) rfl fun fr=>?_
    refine kQ (zA rfl (zA rfl (wX (es:=[.int .i64 (y - x)]) rfl ty22 ze3 cl3 rfl rfl rfl rfl rfl rfl rfl rfl ?_)))
    refine wY 14 rfl ap22_22 rfl rfl rfl (by simp) (by simp) (by simp[yK,zn,oneU]) (by simp at hl14 ⊢;omega) ?_
    refine zC rfl (zB (kQ (zA rfl (zA rfl ?_))))
    refine yU rfl rfl rfl (by unfold I64;omega) (zN rfl (q53) (.lrefl _) (zN rfl (qu) (.lrefl _) (wG rfl rfl rfl (zB (k_cT rfl (by assumption) (k_region (zA rfl (zA rfl ?_))))))))
    refine wX (es:=[.int .i64 (y - x)]) rfl ty22 ze3 cl3 rfl rfl rfl rfl rfl rfl rfl rfl ?_
    refine wY 12 rfl ap22_22 rfl rfl rfl (by simp) (by simp) (by simp[yK,zn,oneU]) (by simp at hl12 ⊢;omega) ?_
    refine zA rfl (zA rfl (wX (es:=[.int .i64 (y - x)]) rfl ty22 ze3 cl3 rfl rfl rfl rfl rfl rfl rfl rfl ?_))
    refine wY 13 rfl ap22_22 rfl rfl rfl (by simp) (by simp) (by simp[yK,zn,oneU]) (by simp at hl13 ⊢;omega) ?_
    refine zC rfl (zC rfl (zB ?_))
    refine zK [(1,.lst .ro 1 (zD bits)),(2,.int .i64 n),(3,U.box 0 0),(7,.lst .ro 1 (zD L)),(12,U.lst Kd.own 1 (zD A12++[.int .i64 (y - x)])),(13,U.lst Kd.own 1 (zD A13++[.int .i64 (y - x)])),(14,U.lst Kd.own 1 (zD A14++[.int .i64 (y - x)])),(15,.int .i64 (↑k+(1:Int)))] ([SB.box [.int .i64 (Bk.parts b),.int .i64 (Bk.size b),.lst .ro 1 (zD (Bk.beats b)),.int .i64 (Bk.start b),.int .i64 (Bk.fin b),.int .i64 (Bk.tlo b),.int .i64 (Bk.thi b),.int .i64 (Bk.slo b),.int .i64 (Bk.shi b),.int .i64 (Bk.notice b),.lst .ro 3 (plsU (Bk.players b))]]) (.c4 rfl rfl rfl rfl (.c4 rfl rfl rfl rfl (.nil rfl))) rfl fun fr=>?_
    refine k_region (zA rfl ?_)
    refine yU rfl rfl rfl (by unfold I64;omega) (zC rfl (zB ?_))
    exact⟨kk - 1,by omega,k+1,.own,1,by omega,.inr ⟨rfl,rfl⟩,rfl,.c4 rfl rfl rfl rfl (.cons (by rw[hS];simp[zD];rfl) (.cons (by rw[hM];simp[zD];rfl) (.cons (by rw[hD];simp[zD];rfl) (.cons rfl (.nil rfl)))))⟩
   ·have k102:=decide_eq_false c1
    rw[if_neg c1]at hS hM
    by_cases c2:(k:Int)=T
    ·have k117:decide ((k:Int)+1 - 1=T)=true:=decide_eq_true (by omega)
     rw[if_pos c2]at hM
     refine zK _ _ hs2 hst2 fun fr2=>?_
     refine k_seq (kQ (zA rfl (zA rfl (yB rfl ty22 rfl (List.length_map _) ?_))))
     refine zc rfl rfl rfl (zB (k_cT rfl (decide_eq_true (by omega)) (zQ (k_seq (zM (k_seq (ya [.plain,.plain,.plain,.read true,.plain,.plain,.plain,.plain,.read true,.plain,.plain] (by kernel_rfl) (by kernel_rfl) (by kernel_rfl) ?_)))))))
     refine zE (zA rfl (zB rfl)) (zE (zA rfl (zB rfl)) ?_)
     refine zE (yb (u:=.int .i64 y) rfl ty22 rfl rfl (by omega) (by rw[show((k:Int)+1).toNat=k+1 by omega];simp[hy]) cl3 (zB rfl)) ?_
     refine zb rfl (zZ rfl rfl sh3 rfl (zB rfl)) ?_
     refine zE (zA rfl (zB rfl)) (zE (zA rfl (zB rfl)) ?_)
     refine zE (wF rfl rfl rfl (by unfold I64;omega) (zB rfl)) ?_
     refine zE (yb (u:=.int .i64 x) rfl ty22 rfl rfl (by omega) (by rw[show((k:Int)+1 - 1).toNat=k by omega];simp[hx]) cl3 (zB rfl)) ?_
     refine zb rfl (zZ rfl rfl sh3 rfl (zB rfl)) ?_
     refine zE (wF rfl rfl rfl (by unfold I64;omega) (zB rfl)) ?_
     refine zE (zC rfl (zB rfl)) ?_
     refine wb ?_
     refine zK [(1,.lst .ro 1 (zD bits)),(2,.int .i64 n),(3,U.box 0 0),(7,.lst .ro 1 (zD L)),(12,U.lst Kd.own 1 (zD A12)),(13,U.lst Kd.own 1 (zD A13)),(14,U.lst Kd.own 1 (zD A14)),(15,.int .i64 (↑k+(1:Int))),(16,.int .i64 (y - x))] ([SB.box [.int .i64 (Bk.parts b),.int .i64 (Bk.size b),.lst .ro 1 (zD (Bk.beats b)),.int .i64 (Bk.start b),.int .i64 (Bk.fin b),.int .i64 (Bk.tlo b),.int .i64 (Bk.thi b),.int .i64 (Bk.slo b),.int .i64 (Bk.shi b),.int .i64 (Bk.notice b),.lst .ro 3 (plsU (Bk.players b))]]) (.c4 rfl rfl rfl rfl (.c4 rfl rfl rfl rfl (.cons rfl (.nil rfl)))) rfl fun fr=>?_
     refine kQ (zA rfl (zA rfl (wX (es:=[.int .i64 (y - x)]) rfl ty22 ze3 cl3 rfl rfl rfl rfl rfl rfl rfl rfl ?_)))
     refine wY 14 rfl ap22_22 rfl rfl rfl (by simp) (by simp) (by simp[yK,zn,oneU]) (by simp at hl14 ⊢;omega) ?_
     refine zC rfl (zB (kQ (zA rfl (zA rfl ?_))))
     refine yU rfl rfl rfl (by unfold I64;omega) (zN rfl (q53) (.lrefl _) (zN rfl (qu) (.lrefl _) (wG rfl rfl rfl (zB (k_cF rfl (by assumption) (kQ (zA rfl ?_)))))))
     refine wF rfl rfl rfl (by unfold I64;omega) (zA rfl (zF rfl rfl yp (zG rfl rfl rfl sh3 rfl (zN rfl (qt) (.lrefl _) (wG rfl rfl rfl (zB ?_))))))
     refine zK [(1,.lst .ro 1 (zD bits)),(2,.int .i64 n),(3,U.box 0 0),(7,.lst .ro 1 (zD L)),(12,U.lst Kd.own 1 (zD A12)),(13,U.lst Kd.own 1 (zD A13)),(14,U.lst Kd.own 1 (zD A14++[.int .i64 (y - x)])),(15,.int .i64 (↑k+(1:Int))),(16,.int .i64 (y - x)),(117,U.bool (decide (↑k+(1:Int) - (1:Int)=T)))] ([SB.box [.int .i64 (Bk.parts b),.int .i64 (Bk.size b),.lst .ro 1 (zD (Bk.beats b)),.int .i64 (Bk.start b),.int .i64 (Bk.fin b),.int .i64 (Bk.tlo b),.int .i64 (Bk.thi b),.int .i64 (Bk.slo b),.int .i64 (Bk.shi b),.int .i64 (Bk.notice b),.lst .ro 3 (plsU (Bk.players b))]]) (.c4 rfl rfl rfl rfl (.c4 rfl rfl rfl rfl (.cons rfl (.cons rfl (.nil rfl))))) rfl fun fr=>?_
     refine k_cT rfl (by assumption) (k_region (zA rfl (wX (es:=[_]) rfl ty22 ze3 cl3 rfl rfl rfl rfl rfl rfl rfl rfl ?_)))
     refine wY 12 rfl ap22_22 rfl rfl rfl (by simp) (by simp) rfl (by simp;omega) ?_
     refine zA rfl (zA rfl (wX (es:=[.int .i64 (y - x)]) rfl ty22 ze3 cl3 rfl rfl rfl rfl rfl rfl rfl rfl ?_))
     refine wY 13 rfl ap22_22 rfl rfl rfl (by simp) (by simp) (by simp[yK,zn,oneU]) (by simp at hl13 ⊢;omega) ?_
     refine zC rfl (zC rfl (zB (k_region (zA rfl ?_))))
     refine yU rfl rfl rfl (by unfold I64;omega) (zC rfl (zB ?_))
     exact⟨kk - 1,by omega,k+1,.own,1,by omega,.inr ⟨rfl,rfl⟩,rfl,.c4 rfl rfl rfl rfl (.cons (by rw[hS];simp[zD];rfl) (.cons (by rw[hM];simp[zD];rfl) (.cons (by rw[hD];simp[zD];rfl) (.cons rfl (.nil rfl)))))⟩
    ·have k117:decide ((k:Int)+1 - 1=T)=false:=decide_eq_false (by omega)
     rw[if_neg c2]at hM
     refine zK _ _ hs2 hst2 fun fr2=>?_
     refine k_seq (kQ (zA rfl (zA rfl (yB rfl ty22 rfl (List.length_map _) ?_))))
     refine zc rfl rfl rfl (zB (k_cT rfl (decide_eq_true (by omega)) (zQ (k_seq (zM (k_seq (ya [.plain,.plain,.plain,.read true,.plain,.plain,.plain,.plain,.read true,.plain,.plain] (by kernel_rfl) (by kernel_rfl) (by kernel_rfl) ?_)))))))
     refine zE (zA rfl (zB rfl)) (zE (zA rfl (zB rfl)) ?_)
     refine zE (yb (u:=.int .i64 y) rfl ty22 rfl rfl (by omega) (by rw[show((k:Int)+1).toNat=k+1 by omega];simp[hy]) cl3 (zB rfl)) ?_
     refine zb rfl (zZ rfl rfl sh3 rfl (zB rfl)) ?_
     refine zE (zA rfl (zB rfl)) (zE (zA rfl (zB rfl)) ?_)
     refine zE (wF rfl rfl rfl (by unfold I64;omega) (zB rfl)) ?_
     refine zE (yb (u:=.int .i64 x) rfl ty22 rfl rfl (by omega) (by rw[show((k:Int)+1 - 1).toNat=k by omega];simp[hx]) cl3 (zB rfl)) ?_
     refine zb rfl (zZ rfl rfl sh3 rfl (zB rfl)) ?_
     refine zE (wF rfl rfl rfl (by unfold I64;omega) (zB rfl)) ?_
     refine zE (zC rfl (zB rfl)) ?_
     refine wb ?_
     refine zK [(1,.lst .ro 1 (zD bits)),(2,.int .i64 n),(3,U.box 0 0),(7,.lst .ro 1 (zD L)),(12,U.lst Kd.own 1 (zD A12)),(13,U.lst Kd.own 1 (zD A13)),(14,U.lst Kd.own 1 (zD A14)),(15,.int .i64 (↑k+(1:Int))),(16,.int .i64 (y - x))] ([SB.box [.int .i64 (Bk.parts b),.int .i64 (Bk.size b),.lst .ro 1 (zD (Bk.beats b)),.int .i64 (Bk.start b),.int .i64 (Bk.fin b),.int .i64 (Bk.tlo b),.int .i64 (Bk.thi b),.int .i64 (Bk.slo b),.int .i64 (Bk.shi b),.int .i64 (Bk.notice b),.lst .ro 3 (plsU (Bk.players b))]]) (.c4 rfl rfl rfl rfl (.c4 rfl rfl rfl rfl (.cons rfl (.nil rfl)))) rfl fun fr=>?_
     refine kQ (zA rfl (zA rfl (wX (es:=[.int .i64 (y - x)]) rfl ty22 ze3 cl3 rfl rfl rfl rfl rfl rfl rfl rfl ?_)))
     refine wY 14 rfl ap22_22 rfl rfl rfl (by simp) (by simp) (by simp[yK,zn,oneU]) (by simp at hl14 ⊢;omega) ?_
     refine zC rfl (zB (kQ (zA rfl (zA rfl ?_))))
     refine yU rfl rfl rfl (by unfold I64;omega) (zN rfl (q53) (.lrefl _) (zN rfl (qu) (.lrefl _) (wG rfl rfl rfl (zB (k_cF rfl (by assumption) (kQ (zA rfl ?_)))))))
     refine wF rfl rfl rfl (by unfold I64;omega) (zA rfl (zF rfl rfl yp (zG rfl rfl rfl sh3 rfl (zN rfl (qt) (.lrefl _) (wG rfl rfl rfl (zB ?_))))))
     refine zK [(1,.lst .ro 1 (zD bits)),(2,.int .i64 n),(3,U.box 0 0),(7,.lst .ro 1 (zD L)),(12,U.lst Kd.own 1 (zD A12)),(13,U.lst Kd.own 1 (zD A13)),(14,U.lst Kd.own 1 (zD A14++[.int .i64 (y - x)])),(15,.int .i64 (↑k+(1:Int))),(16,.int .i64 (y - x)),(117,U.bool (decide (↑k+(1:Int) - (1:Int)=T)))] ([SB.box [.int .i64 (Bk.parts b),.int .i64 (Bk.size b),.lst .ro 1 (zD (Bk.beats b)),.int .i64 (Bk.start b),.int .i64 (Bk.fin b),.int .i64 (Bk.tlo b),.int .i64 (Bk.thi b),.int .i64 (Bk.slo b),.int .i64 (Bk.shi b),.int .i64 (Bk.notice b),.lst .ro 3 (plsU (Bk.players b))]]) (.c4 rfl rfl rfl rfl (.c4 rfl rfl rfl rfl (.cons rfl (.cons rfl (.nil rfl))))) rfl fun fr=>?_
     refine k_cF rfl (by assumption) (k_region (zA rfl (wX (es:=[_]) rfl ty22 ze3 cl3 rfl rfl rfl rfl rfl rfl rfl rfl ?_)))
     refine wY 12 rfl ap22_22 rfl rfl rfl (by simp) (by simp) rfl (by simp;omega) ?_
     refine zA rfl (wX (es:=[_]) rfl ty22 ze3 cl3 rfl rfl rfl rfl rfl rfl rfl rfl ?_)
     refine wY 13 rfl ap22_22 rfl rfl rfl (by simp) (by simp) rfl (by simp;omega) ?_
     refine zC rfl (zC rfl (zB (k_region (zA rfl ?_))))
     refine yU rfl rfl rfl (by unfold I64;omega) (zC rfl (zB ?_))
     exact⟨kk - 1,by omega,k+1,.own,1,by omega,.inr ⟨rfl,rfl⟩,rfl,.c4 rfl rfl rfl rfl (.cons (by rw[hS];simp[zD];rfl) (.cons (by rw[hM];simp[zD];rfl) (.cons (by rw[hD];simp[zD];rfl) (.cons rfl (.nil rfl)))))⟩
 ·have hke:k=L.length - 1:=by omega
  subst hke
  have hu:∀F:Nat→Int,UW (.u (.lst kd z (zD (heaL F (L.length - 1))))) (.u (.lst .ro 1 (zD (heaL F (L.length - 1))))):=fun F=>by
   rcases hkd with ⟨rfl,rfl,h0⟩|⟨rfl,rfl⟩
   ·rw[h0];exact .nil _ _ _
   ·exact .ro _ _ _
  have hfS:∀k,k<L.length - 1→hrS bits L k= -2∨hrS bits L k=dfI L k:=fun k _=>by
   unfold hrS;split
   ·exact .inr rfl
   ·exact .inl rfl
  have hfM:∀k,k<L.length - 1→hrM bits T L k= -2∨hrM bits T L k=dfI L k:=fun k _=>by
   unfold hrM;split
   ·exact .inr rfl
   ·split
    ·exact .inr rfl
    ·exact .inl rfl
  have hfSM:∀k,k<L.length - 1→hrS bits L k= -2∨hrS bits L k=hrM bits T L k:=fun k _=>by
   unfold hrS hrM
   split
   ·exact .inr rfl
   ·exact .inl rfl
  have hrg:∀F:Nat→Int,(∀k,k<L.length - 1→F k= -2∨F k=dfI L k)→∀x∈heaL F (L.length - 1), -2≤x∧x≤1:=fun F hF x hx=>by
   obtain⟨k,hk,rfl⟩:=List.mem_map.1 hx
   have hk:=List.mem_range.1 hk
   have:=df_rg hok hk
   have:=hF k hk
   omega
  have hHl:∀F:Nat→Int,((heaL F (L.length - 1)).length:Int)=b.parts - 1:=fun F=>by rw[zFS];omega
  have eS:=fun(i:Nat) (hp:(0:Int)≤i∧(i:Int)<b.parts)=>ret36 (orc:=orc) hi hb (hHl (hrS bits L)) (hrg _ hfS) hp
  have eM:=fun(i:Nat) (hp:(0:Int)≤i∧(i:Int)<b.parts)=>ret36 (orc:=orc) hi hb (hHl (hrM bits T L)) (hrg _ hfM) hp
  have eA:=fun(i:Nat) (hp:(0:Int)≤i∧(i:Int)<b.parts)=>ret36 (orc:=orc) hi hb (hHl (dfI L)) (hrg _ fun k _=>.inr rfl) hp
  have kS:=fun(i:Nat) (x:Int) (hx:L[i]? =some x)=>knows_own hb hL hfS hx
  have kM:=fun(i:Nat) (x:Int) (hx:L[i]? =some x)=>knows_own hb hL hfM hx
  have kA:=fun(i:Nat) (x:Int) (hx:L[i]? =some x)=>knows_all hb hL hx
  have kL:=fun(i:Nat) (y:Int)=>knows_less hb hL hfSM (i:=i) (y:=y)
  have hu1:=hu (hrS bits L)
  have hu2:=hu (hrM bits T L)
  have hu3:=hu (dfI L)
  generalize heaL (hrS bits L) (L.length - 1)=SL at*
  generalize heaL (hrM bits T L) (L.length - 1)=ML at*
  generalize heaL (dfI L) (L.length - 1)=DL at*
  refine zK _ _ hs2 hst2 fun fr2=>?_
  have k80:decide (((L.length - 1:Nat):Int)+1<L.length)=false:=decide_eq_false (by omega)
  refine k_seq (kQ ?_)
  refine o_weak 12 rfl (fun _=>rfl) hu1 ?_
  refine o_weak 13 rfl (fun _=>rfl) hu2 ?_
  refine o_weak 14 rfl (fun _=>rfl) hu3 ?_
  refine zA rfl (zA rfl (yB rfl ty22 rfl (List.length_map _) ?_))
  refine zc rfl rfl rfl (zB (k_cF rfl (by assumption) (yX (k_seq (kQ (zC rfl (zB (zM ?_))))))))
  refine yi (fun kk s2=>∃i:Nat,kk+i=L.length∧s2.st=[.box [.int .i64 b.parts,.int .i64 b.size,.lst .ro 1 (zD b.beats),.int .i64 b.start,.int .i64 b.fin,.int .i64 b.tlo,.int .i64 b.thi,.int .i64 b.slo,.int .i64 b.shi,.int .i64 b.notice,.lst .ro 3 (plsU b.players)]]∧Holds s2 [(3,.box 0 0),(7,.lst .ro 1 (zD L)),(12,.lst .ro 1 (zD SL)),(13,.lst .ro 1 (zD ML)),(14,.lst .ro 1 (zD DL)),(17,.int .i64 i)]) (fun kk s2 hI=>?_) L.length _ ⟨0,by omega,rfl,.c4 rfl rfl rfl rfl (.cons rfl (.cons rfl (.nil rfl)))⟩
  obtain⟨i,hk3,hst3,hs3⟩:=hI
  by_cases hil:i<L.length
  ·have hx:L[i]? =some (L[i]'hil):=List.getElem?_eq_getElem hil
   generalize L[i]'hil=x at hx
   have q1:=eS i (by omega)
   have q2:=eM i (by omega)
   have q3:=eA i (by omega)
   have h1:=kS i x hx
   have h2:=kM i x hx
   have h3:=kL i
   rw[kA i x hx,if_neg (by simp)]at q3
   rw[if_neg (fun e=>by rw[e]at h1;cases h1)]at q1
   rw[if_neg (fun e=>by rw[e]at h2;cases h2)]at q2
   have hl1:=knJ_len b SL i 4
   have hl2:=knJ_len b ML i 4
   generalize knJ b SL i 4=A at*
   generalize knJ b ML i 4=B at*
   have q45:=ret45 (orc:=orc) hi B x (by omega)
   have k175:decide (whrI B x<0)=false:=decide_eq_false (fun h=>(whr_neg B x).1 h h2)
   have q23:=ret23 (orc:=orc) hi [x] (by simp)
   refine zK _ _ hs3 hst3 fun fr3=>?_
   refine k_seq (kQ (zA rfl (zA rfl (yB rfl ty22 rfl (List.length_map _) ?_))))
   refine zc rfl rfl rfl (zB (k_cT rfl (decide_eq_true (by omega)) (zQ (k_seq (zM (kQ (zO rfl rfl rfl sh27 rfl (zA rfl ?_))))))))
   refine zA rfl (zN rfl (q1) (.lrefl _) (zA rfl (zj rfl rfl rfl (zj rfl rfl rfl (zC rfl (zC rfl (zB ?_)))))))
   refine zK [(3,U.box 0 0),(7,.lst .ro 1 (zD L)),(12,.lst .ro 1 (zD SL)),(13,.lst .ro 1 (zD ML)),(14,.lst .ro 1 (zD DL)),(17,.int .i64 ↑i),(18,.lst .ro 1 (zD A)),(19,.int .i64 0)] ([SB.box [.int .i64 (Bk.parts b),.int .i64 (Bk.size b),.lst .ro 1 (zD (Bk.beats b)),.int .i64 (Bk.start b),.int .i64 (Bk.fin b),.int .i64 (Bk.tlo b),.int .i64 (Bk.thi b),.int .i64 (Bk.slo b),.int .i64 (Bk.shi b),.int .i64 (Bk.notice b),.lst .ro 3 (plsU (Bk.players b))]]) (.c4 rfl rfl rfl rfl (.c4 rfl rfl rfl rfl (.nil rfl))) rfl fun fr=>?_
   refine kQ (zO rfl rfl rfl sh27 rfl (zA rfl (zA rfl (zN rfl (q2) (.lrefl _) (zA rfl (zj rfl rfl rfl (zj rfl rfl rfl (zC rfl ?_))))))))
   refine zC rfl (zB (kQ (zO rfl rfl rfl sh27 rfl (zA rfl (zA rfl (zN rfl (q3) (.lrefl _) (zA rfl (zj rfl rfl rfl ?_))))))))
   refine zj rfl rfl rfl (zC rfl (zC rfl (zB ?_)))
   refine zK [(3,U.box 0 0),(7,.lst .ro 1 (zD L)),(12,.lst .ro 1 (zD SL)),(13,.lst .ro 1 (zD ML)),(14,.lst .ro 1 (zD DL)),(17,.int .i64 ↑i),(18,.lst .ro 1 (zD A)),(19,.int .i64 0),(20,.lst .ro 1 (zD B)),(21,.int .i64 0),(22,.lst .ro 1 (zD [x])),(23,.int .i64 0)] ([SB.box [.int .i64 (Bk.parts b),.int .i64 (Bk.size b),.lst .ro 1 (zD (Bk.beats b)),.int .i64 (Bk.start b),.int .i64 (Bk.fin b),.int .i64 (Bk.tlo b),.int .i64 (Bk.thi b),.int .i64 (Bk.slo b),.int .i64 (Bk.shi b),.int .i64 (Bk.notice b),.lst .ro 3 (plsU (Bk.players b))]]) (.c4 rfl rfl rfl rfl (.c4 rfl rfl rfl rfl (.c4 rfl rfl rfl rfl (.nil rfl)))) rfl fun fr=>?_
   refine k_seq (kQ (zA rfl (zAr rfl rfl rfl (zA rfl (o_gD rfl rfl rfl rfl rfl (zA rfl (o_gD rfl rfl rfl rfl rfl (zAr rfl rfl rfl ?_))))))))
   refine zR rfl rfl rfl ?_
   refine zA rfl (o_gD rfl rfl rfl rfl rfl (zA rfl (o_gD rfl rfl rfl rfl rfl (zAr rfl rfl rfl ?_))))
   refine zV [(3,U.box 0 0),(7,.lst .ro 1 (zD L)),(12,.lst .ro 1 (zD SL)),(13,.lst .ro 1 (zD ML)),(14,.lst .ro 1 (zD DL)),(17,.int .i64 ↑i),(18,.lst .ro 1 (zD A)),(20,.lst .ro 1 (zD B)),(22,.lst .ro 1 (zD [x])),(161,.int .i64 0),(162,U.bool (decide ((0:Int)≠(0:Int)))),(164,U.bool (decide ((0:Int)≠(0:Int)))),(165,.int .i64 0),(166,U.bool (decide ((0:Int)≠(0:Int))))] [] ([SB.box [.int .i64 (Bk.parts b),.int .i64 (Bk.size b),.lst .ro 1 (zD (Bk.beats b)),.int .i64 (Bk.start b),.int .i64 (Bk.fin b),.int .i64 (Bk.tlo b),.int .i64 (Bk.thi b),.int .i64 (Bk.slo b),.int .i64 (Bk.shi b),.int .i64 (Bk.notice b),.lst .ro 3 (plsU (Bk.players b))]]) (.c4 rfl rfl rfl rfl (.c4 rfl rfl rfl rfl (.c4 rfl rfl rfl rfl (.cons rfl (.cons rfl (.nil rfl)))))) rfl rfl fun fr=>?_
   refine zR rfl rfl rfl ?_
   refine zA rfl (o_gD rfl rfl rfl rfl rfl (zA rfl (o_gD rfl rfl rfl rfl rfl (zA rfl (o_gD rfl rfl rfl rfl rfl (zA rfl (o_gD rfl rfl rfl rfl rfl (yb (u:=.int .i64 (x)) rfl ty22 rfl rfl (Int.natCast_nonneg _) (by simp[hx]) cl3 ?_))))))))
   refine o_gD rfl rfl rfl rfl rfl (zZ rfl rfl sh3 rfl ?_)
   refine o_gD rfl rfl rfl rfl rfl (zN rfl (q45) (.lrefl _) (o_gD rfl rfl rfl rfl rfl (zc rfl rfl rfl ?_)))
   refine zV [(3,U.box 0 0),(7,.lst .ro 1 (zD L)),(12,.lst .ro 1 (zD SL)),(13,.lst .ro 1 (zD ML)),(14,.lst .ro 1 (zD DL)),(17,.int .i64 ↑i),(18,.lst .ro 1 (zD A)),(20,.lst .ro 1 (zD B)),(22,.lst .ro 1 (zD [x])),(161,.int .i64 0),(162,U.bool (decide ((0:Int)≠(0:Int)))),(165,.int .i64 0),(166,U.bool (decide ((0:Int)≠(0:Int)))),(168,U.bool (decide ((0:Int)≠(0:Int)))),(169,.lst .ro 1 (zD B)),(170,.lst .ro 1 (zD L)),(171,.int .i64 ↑i),(172,U.eref [.int .i64 x] 0),(173,.int .i64 x),(174,.int .i64 (whrI B x)),(175,U.bool (decide (whrI B x<(0:Int))))] [] ([SB.box [.int .i64 (Bk.parts b),.int .i64 (Bk.size b),.lst .ro 1 (zD (Bk.beats b)),.int .i64 (Bk.start b),.int .i64 (Bk.fin b),.int .i64 (Bk.tlo b),.int .i64 (Bk.thi b),.int .i64 (Bk.slo b),.int .i64 (Bk.shi b),.int .i64 (Bk.notice b),.lst .ro 3 (plsU (Bk.players b))]]) (.c4 rfl rfl rfl rfl (.c4 rfl rfl rfl rfl (.c4 rfl rfl rfl rfl (.c4 rfl rfl rfl rfl (.c4 rfl rfl rfl rfl (.cons rfl (.nil rfl))))))) rfl rfl fun fr=>?_
   refine zR rfl rfl rfl ?_
   refine zA rfl (o_gD rfl rfl rfl rfl (by assumption) (zA rfl (o_gD rfl rfl rfl rfl (by assumption) (zA rfl (o_gD rfl rfl rfl rfl (by assumption) (zA rfl (o_gD rfl rfl rfl rfl (by assumption) (yb (u:=.int .i64 (x)) rfl ty22 rfl rfl (Int.natCast_nonneg _) (by simp[hx]) cl3 ?_))))))))
   refine o_gD rfl rfl rfl rfl (by assumption) (zZ rfl rfl sh3 rfl ?_)
   refine o_gD rfl rfl rfl rfl (by assumption) (wX (es:=[.int .i64 x]) rfl ty22 ze3 cl3 rfl rfl rfl rfl rfl rfl rfl rfl ?_)
   refine o_gD rfl rfl rfl rfl (by assumption) (zN rfl (q23) (.lcons _ _ _ _ (.refl _) (.lcons _ _ _ _ (.ro _ _ _) (.lrefl _))) ?_)
   refine zV [(3,U.box 0 0),(7,.lst .ro 1 (zD L)),(12,.lst .ro 1 (zD SL)),(13,.lst .ro 1 (zD ML)),(14,.lst .ro 1 (zD DL)),(17,.int .i64 ↑i),(18,.lst .ro 1 (zD A)),(20,.lst .ro 1 (zD B)),(161,.int .i64 0),(162,U.bool (decide ((0:Int)≠(0:Int)))),(165,.int .i64 0),(166,U.bool (decide ((0:Int)≠(0:Int)))),(169,.lst .ro 1 (zD B)),(170,.lst .ro 1 (zD L)),(171,.int .i64 ↑i),(172,U.eref [.int .i64 x] 0),(173,.int .i64 x),(174,.int .i64 (whrI B x)),(175,U.bool (decide (whrI B x<(0:Int)))),(177,U.bool (decide (whrI B x<(0:Int)))),(178,.lst .ro 1 (zD [x])),(179,.lst .ro 1 (zD L)),(180,.int .i64 ↑i),(181,U.eref [.int .i64 x] 0),(182,.int .i64 x),(183,.lst .full 1 [.int .i64 x]),(184,.bool true)] [] ([SB.box [.int .i64 (Bk.parts b),.int .i64 (Bk.size b),.lst .ro 1 (zD (Bk.beats b)),.int .i64 (Bk.start b),.int .i64 (Bk.fin b),.int .i64 (Bk.tlo b),.int .i64 (Bk.thi b),.int .i64 (Bk.slo b),.int .i64 (Bk.shi b),.int .i64 (Bk.notice b),.lst .ro 3 (plsU (Bk.players b))]]) (.c4 rfl rfl rfl rfl (.c4 rfl rfl rfl rfl (.c4 rfl rfl rfl rfl (.c4 rfl rfl rfl rfl (.c4 rfl rfl rfl rfl (.c4 rfl rfl rfl rfl (.cons rfl (.cons rfl (.cons rfl (.nil rfl)))))))))) rfl rfl fun fr=>?_
   refine o_gD rfl rfl rfl rfl (by assumption) ?_
   refine zV [(3,U.box 0 0),(7,.lst .ro 1 (zD L)),(12,.lst .ro 1 (zD SL)),(13,.lst .ro 1 (zD ML)),(14,.lst .ro 1 (zD DL)),(17,.int .i64 ↑i),(18,.lst .ro 1 (zD A)),(20,.lst .ro 1 (zD B)),(161,.int .i64 0),(162,U.bool (decide ((0:Int)≠(0:Int)))),(165,.int .i64 0),(166,U.bool (decide ((0:Int)≠(0:Int)))),(169,.lst .ro 1 (zD B)),(170,.lst .ro 1 (zD L)),(171,.int .i64 ↑i),(172,U.eref [.int .i64 x] 0),(173,.int .i64 x),(174,.int .i64 (whrI B x)),(175,U.bool (decide (whrI B x<(0:Int)))),(177,U.bool (decide (whrI B x<(0:Int)))),(178,.lst .ro 1 (zD [x])),(179,.lst .ro 1 (zD L)),(180,.int .i64 ↑i),(181,U.eref [.int .i64 x] 0),(182,.int .i64 x),(183,.lst .full 1 [.int .i64 x]),(184,.bool true)] [] ([SB.box [.int .i64 (Bk.parts b),.int .i64 (Bk.size b),.lst .ro 1 (zD (Bk.beats b)),.int .i64 (Bk.start b),.int .i64 (Bk.fin b),.int .i64 (Bk.tlo b),.int .i64 (Bk.thi b),.int .i64 (Bk.slo b),.int .i64 (Bk.shi b),.int .i64 (Bk.notice b),.lst .ro 3 (plsU (Bk.players b))]]) (.c4 rfl rfl rfl rfl (.c4 rfl rfl rfl rfl (.c4 rfl rfl rfl rfl (.c4 rfl rfl rfl rfl (.c4 rfl rfl rfl rfl (.c4 rfl rfl rfl rfl (.cons rfl (.cons rfl (.cons rfl (.nil rfl)))))))))) rfl rfl fun fr=>?_
   refine wI rfl rfl (zR rfl rfl (by assumption) ?_)
   refine zB ?_
   refine zK [(3,U.box 0 0),(7,.lst .ro 1 (zD L)),(12,.lst .ro 1 (zD SL)),(13,.lst .ro 1 (zD ML)),(14,.lst .ro 1 (zD DL)),(17,.int .i64 ↑i),(18,.lst .ro 1 (zD A)),(20,.lst .ro 1 (zD B)),(161,.int .i64 0),(162,U.bool (decide ((0:Int)≠(0:Int)))),(165,.int .i64 0),(166,U.bool (decide ((0:Int)≠(0:Int)))),(169,.lst .ro 1 (zD B)),(170,.lst .ro 1 (zD L)),(171,.int .i64 ↑i),(172,U.eref [.int .i64 x] 0),(173,.int .i64 x),(174,.int .i64 (whrI B x)),(175,U.bool (decide (whrI B x<(0:Int)))),(178,.lst .ro 1 (zD [x])),(179,.lst .ro 1 (zD L)),(180,.int .i64 ↑i),(181,U.eref [.int .i64 x] 0),(182,.int .i64 x),(183,.lst .full 1 [.int .i64 x]),(184,.bool true),(185,U.bool !Bool.true),(186,U.bool !Bool.true)] ([SB.box [.int .i64 (Bk.parts b),.int .i64 (Bk.size b),.lst .ro 1 (zD (Bk.beats b)),.int .i64 (Bk.start b),.int .i64 (Bk.fin b),.int .i64 (Bk.tlo b),.int .i64 (Bk.thi b),.int .i64 (Bk.slo b),.int .i64 (Bk.shi b),.int .i64 (Bk.notice b),.lst .ro 3 (plsU (Bk.players b))]]) (.c4 rfl rfl rfl rfl (.c4 rfl rfl rfl rfl (.c4 rfl rfl rfl rfl (.c4 rfl rfl rfl rfl (.c4 rfl rfl rfl rfl (.c4 rfl rfl rfl rfl (.c4 rfl rfl rfl rfl (.nil rfl)))))))) rfl fun fr=>?_
   refine k_cF rfl rfl ?_
   refine zQ (kQ (zC rfl (zB (zM ?_))))
   refine yi (fun kk s2=>∃j:Nat,kk+j=B.length∧s2.st=[.box [.int .i64 b.parts,.int .i64 b.size,.lst .ro 1 (zD b.beats),.int .i64 b.start,.int .i64 b.fin,.int .i64 b.tlo,.int .i64 b.thi,.int .i64 b.slo,.int .i64 b.shi,.int .i64 b.notice,.lst .ro 3 (plsU b.players)]]∧Holds s2 [(3,.box 0 0),(7,.lst .ro 1 (zD L)),(12,.lst .ro 1 (zD SL)),(13,.lst .ro 1 (zD ML)),(14,.lst .ro 1 (zD DL)),(17,.int .i64 i),(18,.lst .ro 1 (zD A)),(20,.lst .ro 1 (zD B)),(24,.int .i64 j)]) (fun k2 s2 hI=>?_) B.length _ ⟨0,by omega,rfl,.c4 rfl rfl rfl rfl (.c4 rfl rfl rfl rfl (.cons rfl (.nil rfl)))⟩
   obtain⟨j,hk4,hst4,hs4⟩:=hI
   by_cases hjl:j<B.length
   ·have hy:B[j]? =some (B[j]'hjl):=List.getElem?_eq_getElem hjl
    generalize B[j]'hjl=y at hy
    have q45:=ret45 (orc:=orc) hi A y (by omega)
    have k199:decide (whrI A y<0)=false:=decide_eq_false (fun h=>(whr_neg A y).1 h (h3 y (List.mem_of_getElem? hy)))
    refine zK _ _ hs4 hst4 fun fr4=>?_
    refine k_seq (kQ (zA rfl (zA rfl (yB rfl ty22 rfl (List.length_map _) ?_))))
    refine zc rfl rfl rfl (zB (k_cT rfl (decide_eq_true (by omega)) (zQ (k_seq (zM (kQ (zA rfl (zA rfl ?_))))))))
    refine zA rfl (yb (u:=.int .i64 (y)) rfl ty22 rfl rfl (Int.natCast_nonneg _) (by simp[hy]) cl3 ?_)
    refine zZ rfl rfl sh3 rfl ?_
    refine zN rfl (q45) (.lrefl _) (zc rfl rfl rfl (zB (k_cF rfl (by assumption) (zQ (k_region (zA rfl ?_))))))
    refine yU rfl rfl rfl (by unfold I64;omega) (zC rfl (zB ?_))
    exact⟨k2 - 1,by omega,j+1,by omega,rfl,.c4 rfl rfl rfl rfl (.c4 rfl rfl rfl rfl (.cons rfl (.nil rfl)))⟩
   ·refine zK _ _ hs4 hst4 fun fr4=>?_
    refine k_seq (kQ (zA rfl (zA rfl (yB rfl ty22 rfl (List.length_map _) ?_))))
    refine zc rfl rfl rfl (zB (k_cF rfl (decide_eq_false (by omega)) (yX (k_region (zA rfl ?_)))))
    refine yU rfl rfl rfl (by unfold I64;omega) (zC rfl (zB ?_))
    exact⟨kk - 1,by omega,i+1,by omega,rfl,.c4 rfl rfl rfl rfl (.cons rfl (.cons rfl (.nil rfl)))⟩
  ·refine zK _ _ hs3 hst3 fun fr3=>?_
   refine k_seq (kQ (zA rfl (zA rfl (yB rfl ty22 rfl (List.length_map _) ?_))))
   refine zc rfl rfl rfl (zB (k_cF rfl (decide_eq_false (by omega)) (yX (kQ (zN rfl (r24) (.lrefl _) (zC rfl (zB (zU ?_))))))))
   refine⟨.inr rfl,_,.cons _ _ _ _ (.tmp 6) .nil,?_⟩
   exact .refl _
   done
set_option maxHeartbeats 16000000 in
set_option maxRecDepth 20000 in
theorem ret14(hi:Off is)(b:Bk)(bits:List Int)(n:Int)(r24:RetP Tryd.prog is orc 24 [] (.bool true)):RetP Tryd.prog is orc 14 [b.u,.lst .ro 1 (zD bits),.int .i64 n] (.bool true):=by
 have q38:=ret38 (orc:=orc) hi b
 refine zw body14 pure14 (hi 14 (by decide)) rfl rfl (fun u hu=>?_) (.inl (.bool _ _)) ?_
 ·simp only[List.mem_cons,List.not_mem_nil,or_false]at hu
  rcases hu with rfl|rfl|rfl
  ·exact yg b 4
  ·exact zg 6 .ro (fun h=>by cases h) 1 bits
  ·exact .int _ _ _
 cases hv:zDc b with
 |false=>
  rw[hv]at q38
  refine kQ (zr rfl rfl (zC rfl (zB ?_)))
  refine zK [(1,.lst .ro 1 (zD bits)),(2,.int .i64 n),(3,U.box 0 0)] ([SB.box [.int .i64 (Bk.parts b),.int .i64 (Bk.size b),.lst .ro 1 (zD (Bk.beats b)),.int .i64 (Bk.start b),.int .i64 (Bk.fin b),.int .i64 (Bk.tlo b),.int .i64 (Bk.thi b),.int .i64 (Bk.slo b),.int .i64 (Bk.shi b),.int .i64 (Bk.notice b),.lst .ro 3 (plsU (Bk.players b))]]) (.cons rfl (.cons rfl (.cons rfl (.nil rfl)))) rfl fun fr=>?_
  refine k_seq (kQ (zO rfl rfl rfl sh27 rfl (zN rfl (q38) (.lrefl _) (wI rfl rfl (zB (k_cT rfl rfl ?_))))))
  refine kQ (zN rfl (r24) (.lrefl _) (zC rfl (zB (zU ?_))))
  refine⟨.inr rfl,_,.cons _ _ _ _ (.tmp 6) .nil,?_⟩
  exact .refl _
 |true=>
  rw[hv]at q38
  have h:=(zCX b).1 hv
  have hpa:=h.pa
  have hC:=chol_ok h bits
  have q43:=ret43 (orc:=orc) hi h bits
  generalize choL b bits b.parts.toNat=C at hC q43
  have q25:=ret25 (orc:=orc) hi h hC
  cases hz:planB b C with
  |true=>
   rw[hz]at q25
   have hL:C∈wS b:=(zAH h).2 ⟨hC,hz⟩
   refine kQ (zr rfl rfl (zC rfl (zB ?_)))
   refine zK [(1,.lst .ro 1 (zD bits)),(2,.int .i64 n),(3,U.box 0 0)] ([SB.box [.int .i64 (Bk.parts b),.int .i64 (Bk.size b),.lst .ro 1 (zD (Bk.beats b)),.int .i64 (Bk.start b),.int .i64 (Bk.fin b),.int .i64 (Bk.tlo b),.int .i64 (Bk.thi b),.int .i64 (Bk.slo b),.int .i64 (Bk.shi b),.int .i64 (Bk.notice b),.lst .ro 3 (plsU (Bk.players b))]]) (.cons rfl (.cons rfl (.cons rfl (.nil rfl)))) rfl fun fr=>?_
   refine k_seq (kQ (zO rfl rfl rfl sh27 rfl (zN rfl (q38) (.lrefl _) (wI rfl rfl (zB (k_cF rfl rfl ?_))))))
   refine zQ (kQ (zO rfl rfl rfl sh27 rfl (zA rfl (zN rfl (q43) (.lrefl _) (zC rfl (zB (kQ (zO rfl rfl rfl sh27 rfl ?_))))))))
   refine zA rfl (zN rfl (q25) (.lrefl _) (zA rfl (zj rfl rfl rfl (zj rfl rfl rfl (zC rfl (zC rfl (zB ?_)))))))
   refine zK [(1,.lst .ro 1 (zD bits)),(2,.int .i64 n),(3,U.box 0 0),(7,.lst .ro 1 (zD C)),(8,.bool true),(9,.int .i64 0)] ([SB.box [.int .i64 (Bk.parts b),.int .i64 (Bk.size b),.lst .ro 1 (zD (Bk.beats b)),.int .i64 (Bk.start b),.int .i64 (Bk.fin b),.int .i64 (Bk.tlo b),.int .i64 (Bk.thi b),.int .i64 (Bk.slo b),.int .i64 (Bk.shi b),.int .i64 (Bk.notice b),.lst .ro 3 (plsU (Bk.players b))]]) (.c4 rfl rfl rfl rfl (.cons rfl (.cons rfl (.nil rfl)))) rfl fun fr=>?_
   refine k_seq (kQ (zA rfl (zAr rfl rfl rfl (zB (k_cF rfl rfl ?_)))))
   refine zQ (k_seq (kQ (zA rfl (wI rfl rfl (zB (k_cF rfl rfl ?_))))))
   refine zQ ?_
   refine zK [(1,.lst .ro 1 (zD bits)),(2,.int .i64 n),(3,.box 0 0),(7,.lst .ro 1 (zD C))] [.box [.int .i64 b.parts,.int .i64 b.size,.lst .ro 1 (zD b.beats),.int .i64 b.start,.int .i64 b.fin,.int .i64 b.tlo,.int .i64 b.thi,.int .i64 b.slo,.int .i64 b.shi,.int .i64 b.notice,.lst .ro 3 (plsU b.players)]] (.c4 rfl rfl rfl rfl (.nil rfl)) rfl fun fr=>?_
   exact tail14 hi h hL bits n r24 fr
  |false=>
   rw[hz]at q25
   have q27:=ret27 (orc:=orc) hi h
   rcases best_spec h with ⟨h1,h2⟩|⟨h1,_⟩
   ·rw[h2,if_pos rfl]at q27
    have q36:=ret36 (orc:=orc) hi h (H:=List.replicate (b.parts.toNat - 1) 0) (by simp;omega) (fun x hx=>by rw[(List.mem_replicate.1 hx).2];omega) (part:=0) (by omega)
    rw[knows_none h1,if_pos rfl]at q36
    refine kQ (zr rfl rfl (zC rfl (zB ?_)))
    refine zK [(1,.lst .ro 1 (zD bits)),(2,.int .i64 n),(3,U.box 0 0)] ([SB.box [.int .i64 (Bk.parts b),.int .i64 (Bk.size b),.lst .ro 1 (zD (Bk.beats b)),.int .i64 (Bk.start b),.int .i64 (Bk.fin b),.int .i64 (Bk.tlo b),.int .i64 (Bk.thi b),.int .i64 (Bk.slo b),.int .i64 (Bk.shi b),.int .i64 (Bk.notice b),.lst .ro 3 (plsU (Bk.players b))]]) (.cons rfl (.cons rfl (.cons rfl (.nil rfl)))) rfl fun fr=>?_
    refine k_seq (kQ (zO rfl rfl rfl sh27 rfl (zN rfl (q38) (.lrefl _) (wI rfl rfl (zB (k_cF rfl rfl ?_))))))
    refine zQ (kQ (zO rfl rfl rfl sh27 rfl (zA rfl (zN rfl (q43) (.lrefl _) (zC rfl (zB (kQ (zO rfl rfl rfl sh27 rfl ?_))))))))
    refine zA rfl (zN rfl (q25) (.lrefl _) (zA rfl (zj rfl rfl rfl (zj rfl rfl rfl (zC rfl (zC rfl (zB ?_)))))))
    refine zK [(1,.lst .ro 1 (zD bits)),(2,.int .i64 n),(3,U.box 0 0),(7,.lst .ro 1 (zD C)),(8,.bool false),(9,.int .i64 0)] ([SB.box [.int .i64 (Bk.parts b),.int .i64 (Bk.size b),.lst .ro 1 (zD (Bk.beats b)),.int .i64 (Bk.start b),.int .i64 (Bk.fin b),.int .i64 (Bk.tlo b),.int .i64 (Bk.thi b),.int .i64 (Bk.slo b),.int .i64 (Bk.shi b),.int .i64 (Bk.notice b),.lst .ro 3 (plsU (Bk.players b))]]) (.c4 rfl rfl rfl rfl (.cons rfl (.cons rfl (.nil rfl)))) rfl fun fr=>?_
    refine k_seq (kQ (zA rfl (zAr rfl rfl rfl (zB (k_cF rfl rfl ?_)))))
    refine zQ (k_seq (kQ (zA rfl (wI rfl rfl (zB (k_cT rfl rfl ?_))))))
    refine kQ (zO rfl rfl rfl sh27 rfl (zN rfl (q27) (.lrefl _) (zA rfl (zj rfl rfl rfl (zj rfl rfl rfl (zC rfl (zC rfl (zB ?_))))))))
    refine zK [(1,.lst .ro 1 (zD bits)),(2,.int .i64 n),(3,U.box 0 0),(7,.lst .ro 1 (zD [])),(9,.int .i64 4)] ([SB.box [.int .i64 (Bk.parts b),.int .i64 (Bk.size b),.lst .ro 1 (zD (Bk.beats b)),.int .i64 (Bk.start b),.int .i64 (Bk.fin b),.int .i64 (Bk.tlo b),.int .i64 (Bk.thi b),.int .i64 (Bk.slo b),.int .i64 (Bk.shi b),.int .i64 (Bk.notice b),.lst .ro 3 (plsU (Bk.players b))]]) (.c4 rfl rfl rfl rfl (.cons rfl (.nil rfl))) rfl fun fr=>?_
    refine kQ (zA rfl (zAr rfl rfl rfl (zB (k_cT rfl rfl ?_))))
    refine k_seq (ya [.read true,.plain,.read true,.plain,.quiet,.plain,.plain,.plain,.plain,.plain,.plain] (by kernel_rfl) (by kernel_rfl) (by kernel_rfl) ?_)
    refine zb rfl (zO rfl rfl rfl sh27 rfl (zB rfl)) ?_
    refine zE (zF rfl rfl yp (zB rfl)) ?_
    refine zb rfl (zG rfl rfl rfl sh3 rfl (zB rfl)) ?_
    refine zE (wF rfl rfl rfl (by unfold I64;omega) (zB rfl)) ?_
    refine d_makeInts (n:=b.parts.toNat - 1) rfl ty22 cl3 ap22_22.hb ap22_22.hz (congrArg (U.int .i64) (by omega)) (congrArg (U.int .i64) (by omega)) (by omega) ?_
    refine zE (zN rfl (q36) (.lcons _ _ _ _ (.refl _) (.lcons _ _ _ _ (by rw[←List.map_replicate];exact .ro _ _ _) (.lrefl _))) (zB rfl)) ?_
    refine zE (zA rfl (zB rfl)) (zE (zj rfl rfl rfl (zB rfl)) ?_)
    refine zE (zj rfl rfl rfl (zB rfl)) ?_
    refine zE (zC rfl (zB rfl)) ?_
    refine zE (zC rfl (zB rfl)) ?_
    refine wb ?_
    refine zK [(9,.int .i64 4),(10,.lst .ro 1 (zD [])),(11,.int .i64 4)] ([SB.box [.int .i64 (Bk.parts b),.int .i64 (Bk.size b),.lst .ro 1 (zD (Bk.beats b)),.int .i64 (Bk.start b),.int .i64 (Bk.fin b),.int .i64 (Bk.tlo b),.int .i64 (Bk.thi b),.int .i64 (Bk.slo b),.int .i64 (Bk.shi b),.int .i64 (Bk.notice b),.lst .ro 3 (plsU (Bk.players b))]]) (.cons rfl (.cons rfl (.cons rfl (.nil rfl)))) rfl fun fr=>?_
    refine kQ (zA rfl (wG rfl rfl rfl (zA rfl (o_gD rfl rfl rfl rfl rfl (zA rfl (o_gD rfl rfl rfl rfl rfl (zA rfl (o_gD rfl rfl rfl rfl rfl ?_))))))))
    refine wG rfl rfl rfl (zX rfl rfl rfl ?_)
    refine zA rfl (o_gD rfl rfl rfl rfl rfl (zA rfl ?_))
    refine zV [(65,U.bool (decide ((4:Int)=(4:Int)))),(66,.lst .ro 1 (zD []))] [] ([SB.box [.int .i64 (Bk.parts b),.int .i64 (Bk.size b),.lst .ro 1 (zD (Bk.beats b)),.int .i64 (Bk.start b),.int .i64 (Bk.fin b),.int .i64 (Bk.tlo b),.int .i64 (Bk.thi b),.int .i64 (Bk.slo b),.int .i64 (Bk.shi b),.int .i64 (Bk.notice b),.lst .ro 3 (plsU (Bk.players b))]]) (.cons rfl (.cons rfl (.nil rfl))) rfl rfl fun fr=>?_
    refine o_gD rfl rfl rfl rfl rfl ?_
    refine zV [(65,U.bool (decide ((4:Int)=(4:Int)))),(66,.lst .ro 1 (zD []))] [] ([SB.box [.int .i64 (Bk.parts b),.int .i64 (Bk.size b),.lst .ro 1 (zD (Bk.beats b)),.int .i64 (Bk.start b),.int .i64 (Bk.fin b),.int .i64 (Bk.tlo b),.int .i64 (Bk.thi b),.int .i64 (Bk.slo b),.int .i64 (Bk.shi b),.int .i64 (Bk.notice b),.lst .ro 3 (plsU (Bk.players b))]]) (.cons rfl (.cons rfl (.nil rfl))) rfl rfl fun fr=>?_
    refine yB rfl ty22 rfl (List.length_map _) ?_
    refine o_gD rfl rfl rfl rfl rfl (wG rfl rfl rfl (zX rfl rfl rfl ?_))
    refine zA rfl (o_gD rfl rfl rfl rfl rfl (zN rfl (r24) (.lrefl _) (zX rfl rfl rfl ?_)))
    refine zC rfl (zB (zU ?_))
    refine⟨.inr rfl,_,.cons _ _ _ _ (.tmp 6) .nil,?_⟩
    exact .refl _
    done
   ·have hpl:=(zAH h).1 h1
    have hlen:=hpl.1.len
    rw[if_neg (by intro e;rw[e]at hlen;simp at hlen;omega)]at q27
    generalize zBD (wS b)=L at*
    refine kQ (zr rfl rfl (zC rfl (zB ?_)))
    refine zK [(1,.lst .ro 1 (zD bits)),(2,.int .i64 n),(3,U.box 0 0)] ([SB.box [.int .i64 (Bk.parts b),.int .i64 (Bk.size b),.lst .ro 1 (zD (Bk.beats b)),.int .i64 (Bk.start b),.int .i64 (Bk.fin b),.int .i64 (Bk.tlo b),.int .i64 (Bk.thi b),.int .i64 (Bk.slo b),.int .i64 (Bk.shi b),.int .i64 (Bk.notice b),.lst .ro 3 (plsU (Bk.players b))]]) (.cons rfl (.cons rfl (.cons rfl (.nil rfl)))) rfl fun fr=>?_
    refine k_seq (kQ (zO rfl rfl rfl sh27 rfl (zN rfl (q38) (.lrefl _) (wI rfl rfl (zB (k_cF rfl rfl ?_))))))
    refine zQ (kQ (zO rfl rfl rfl sh27 rfl (zA rfl (zN rfl (q43) (.lrefl _) (zC rfl (zB (kQ (zO rfl rfl rfl sh27 rfl ?_))))))))
    refine zA rfl (zN rfl (q25) (.lrefl _) (zA rfl (zj rfl rfl rfl (zj rfl rfl rfl (zC rfl (zC rfl (zB ?_)))))))
    refine zK [(1,.lst .ro 1 (zD bits)),(2,.int .i64 n),(3,U.box 0 0),(7,.lst .ro 1 (zD C)),(8,.bool false),(9,.int .i64 0)] ([SB.box [.int .i64 (Bk.parts b),.int .i64 (Bk.size b),.lst .ro 1 (zD (Bk.beats b)),.int .i64 (Bk.start b),.int .i64 (Bk.fin b),.int .i64 (Bk.tlo b),.int .i64 (Bk.thi b),.int .i64 (Bk.slo b),.int .i64 (Bk.shi b),.int .i64 (Bk.notice b),.lst .ro 3 (plsU (Bk.players b))]]) (.c4 rfl rfl rfl rfl (.cons rfl (.cons rfl (.nil rfl)))) rfl fun fr=>?_
    refine k_seq (kQ (zA rfl (zAr rfl rfl rfl (zB (k_cF rfl rfl ?_)))))
    refine zQ (k_seq (kQ (zA rfl (wI rfl rfl (zB (k_cT rfl rfl ?_))))))
    refine kQ (zO rfl rfl rfl sh27 rfl (zN rfl (q27) (.lrefl _) (zA rfl (zj rfl rfl rfl (zj rfl rfl rfl (zC rfl (zC rfl (zB ?_))))))))
    refine zK [(1,.lst .ro 1 (zD bits)),(2,.int .i64 n),(3,U.box 0 0),(7,.lst .ro 1 (zD L)),(9,.int .i64 0)] ([SB.box [.int .i64 (Bk.parts b),.int .i64 (Bk.size b),.lst .ro 1 (zD (Bk.beats b)),.int .i64 (Bk.start b),.int .i64 (Bk.fin b),.int .i64 (Bk.tlo b),.int .i64 (Bk.thi b),.int .i64 (Bk.slo b),.int .i64 (Bk.shi b),.int .i64 (Bk.notice b),.lst .ro 3 (plsU (Bk.players b))]]) (.c4 rfl rfl rfl rfl (.cons rfl (.nil rfl))) rfl fun fr=>?_
    refine kQ (zA rfl (zAr rfl rfl rfl (zB (k_cF rfl rfl ?_))))
    refine zQ ?_
    refine zK [(1,.lst .ro 1 (zD bits)),(2,.int .i64 n),(3,.box 0 0),(7,.lst .ro 1 (zD L))] [.box [.int .i64 b.parts,.int .i64 b.size,.lst .ro 1 (zD b.beats),.int .i64 b.start,.int .i64 b.fin,.int .i64 b.tlo,.int .i64 b.thi,.int .i64 b.slo,.int .i64 b.shi,.int .i64 b.notice,.lst .ro 3 (plsU b.players)]] (.c4 rfl rfl rfl rfl (.nil rfl)) rfl fun fr=>?_
    exact tail14 hi h h1 bits n r24 fr
end
section
variable {is:FuncId→Bool}{orc:Known}
theorem ret14_all(hi:Off is)(r24:RetP Tryd.prog is orc 24 [] (.bool true)):∀us,ShpAs Tryd.prog [27,22,3] us→RetP Tryd.prog is orc 14 us (.bool true):=by
 intro us h
 cases h with
 |cons _ _ u us h1 h=>cases h with
 |cons _ _ v us h2 h=>cases h with
 |cons _ _ x us h3 h=>
 cases h
 obtain⟨fs,hu⟩:=und27
 unfold ShpA at h1 h2 h3
 rw[hu]at h1
 rw[u22]at h2
 rw[u3]at h3
 obtain⟨b,rfl⟩:=arg_bk h1
 obtain⟨l,rfl⟩:=arg_ints h2
 obtain⟨n,rfl⟩:=arg_int h3
 exact ret14 hi b l n r24
end
end Go.Proofs.YtfbmlibilcjlgaaDoor.drumListens
