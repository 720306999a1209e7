import Derived.Test.YtlknfhjfkcboiaaDoorVamT7
set_option linter.unusedVariables false
set_option linter.unusedSimpArgs false
set_option linter.constructorNameAsVariable false
namespace Go.Proofs.YtlknfhjfkcboiaaDoor.night
open Vam
variable {is:FuncId→Bool}{orc:Known}
noncomputable def b66:Code:=(Tryd.f66.body).getD .skip
theorem body66:bodyOf Tryd.prog 66=some (27,b66,[.tmp 4]):=by kernel_rfl
theorem pure66:pureFn Tryd.prog 66=true:=by kernel_rfl
theorem ret84(hi:Off is){b:Bk}(h:BOk b){i:Nat}{q:Sc}(hq:b.scenes[i]? =some q)(x:Int):RetP Tryd.prog is orc 84 [b.u,.int .i64 i,.int .i64 x] (.bool (inS q.lo q.hi x)):=by
 refine zp body84 pure84 (hi 84 (by decide)) rfl rfl (zCr (wU b 4) (.int _ _ _) (.int _ _ _)) (.inl (.bool _ _)) ?_
 have q80:=ret80 (orc:=orc) hi q.lo q.hi x
 have hil:=(List.getElem?_eq_some_iff.1 hq).1
 refine kQ (yB rfl rfl (zB rfl (zC ?_)))
 refine zF [(1,.int .i64 ↑i),(2,.int .i64 x),(3,U.box 0 0)] ([SB.box (Bk.cs b)]) (.n3 rfl) rfl fun fr=>?_
 refine kQ (kA rfl wL (kA rfl ze (kC sh23 rfl (zA rfl (zX (u:=(q).u) rfl ty23 rfl rfl (Int.natCast_nonneg _) (by simp[hq]) cl50 ?_)))))
 refine yV rfl rfl wM ?_
 refine yi rfl rfl sh48 rfl ?_
 refine zA rfl (zG rfl (q80) (.lrefl _) (zB rfl (zC (zS ?_))))
 refine⟨.inr rfl,_,.cons _ _ _ _ (.tmp 6) .nil,?_⟩
 exact .refl _
def dnB(b:Bk)(i:Nat)(x:Int):Bool:=(decide (x= -1)&& !zAT b i)||(match b.scenes[i]? with|none=>false|some q=>inS q.lo q.hi x)
def dnF(b:Bk):Nat→List Int→Bool
 |_,[]=>true
 |i,x::l=>dnB b i x&&dnF b (i+1) l
def wZ(b:Bk)(d:List Int):Bool:=decide (d.length≤b.scenes.length)&&dnF b 0 d
set_option maxHeartbeats 8000000 in
theorem ret62(hi:Off is){b:Bk}(h:BOk b)(d:List Int):RetP Tryd.prog is orc 62 [b.u,.lst .ro 1 (zE d)] (.bool (wZ b d)):=by
 refine zp body62 pure62 (hi 62 (by decide)) rfl rfl (zu (wU b 4) (zR 6 .ro (fun h=>by cases h) 1 d)) (.inl (.bool _ _)) ?_
 have hn:=h.sn
 unfold wZ
 by_cases hl:d.length≤b.scenes.length
 ·rw[kH hl,Bool.true_and]
  generalize hz:dnF b 0 d=z
  refine kQ (yB rfl rfl (zB rfl (zC ?_)))
  refine zF [(1,.lst .ro 1 (zE d)),(2,U.box 0 0)] ([SB.box (Bk.cs b)]) (.n2 rfl) rfl fun fr=>?_
  refine k_seq (kQ (zA rfl (zP rfl ty22 rfl (List.length_map _) ?_)))
  refine kA rfl wL (kA rfl ze (kC sh23 rfl (zP rfl ty23 rfl (List.length_map _) ?_)))
  refine o_gtr rfl rfl rfl (zC (k_cF rfl (kI (by omega)) (zJ (k_seq (kQ (zA rfl (zP rfl ty22 rfl (List.length_map _) ?_)))))))
  refine zA rfl (zC (zH ?_))
  refine yR (fun kk s2=>∃i:Nat,kk+i=d.length∧z=dnF b i (d.drop i)∧s2.st=[.box (Bk.cs b)]∧Holds s2 [(2,.box 0 0),(15,.lst .ro 1 (zE d)),(16,.int .i64 d.length),(17,.int .i64 i)]) (fun kk s2 hI=>?_) d.length _ ⟨0,rfl,hz.symm,rfl,.c4 rfl rfl rfl rfl (.nil rfl)⟩
  obtain⟨i,hk,hw,hst2,hs2⟩:=hI
  clear hz
  refine zF _ _ hs2 hst2 fun fr2=>?_
  by_cases hin:i<d.length
  ·obtain⟨x,hx⟩:∃x,d[i]? =some x:=⟨d[i],List.getElem?_eq_getElem hin⟩
   rw[zAr hx]at hw
   have hw:z=(dnB b i x&&dnF b (i+1) (d.drop (i+1))):=hw
   obtain⟨q,hq⟩:∃q,b.scenes[i]? =some q:=⟨b.scenes[i],List.getElem?_eq_getElem (by omega)⟩
   have hm:zAT b i=q.must:=by unfold zAT;rw[hq];rfl
   have hdn:dnB b i x=((decide (x= -1)&& !q.must)||inS q.lo q.hi x):=by unfold dnB;rw[hq,hm]
   rw[hdn]at hw
   have q84:=ret84 (orc:=orc) hi h hq x
   by_cases h1:x= -1
   ·cases hqm:q.must with
    |false=>
     have k20:(!q.must)=true:=by rw[hqm];rfl
     have k21:(!!q.must)=false:=by rw[hqm];rfl
     rw[kH h1,hqm]at hw
     have hw:z=dnF b (i+1) (d.drop (i+1)):=hw
     refine kQ (kq rfl (zC (k_seq (k_cT rfl (kH (by omega)) (zJ (k_seq (zH (kQ (zA rfl (zX (u:=.int .i64 (x)) rfl ty22 rfl rfl (Int.natCast_nonneg _) (by simp[hx]) cl3 ?_))))))))))
     refine kE sh3 rfl ?_
     refine zB rfl (zB rfl (zC (kQ (zA rfl (kw rfl (zA rfl (kh rfl (kH (by omega)) ?_)))))))
     refine kA rfl wL (kh rfl (kH (by omega)) ?_)
     refine kA rfl ze (kh rfl (kH (by omega)) ?_)
     refine kC sh23 rfl (kh rfl (kH (by omega)) ?_)
     refine zA rfl (kh rfl (kH (by omega)) ?_)
     refine zX (u:=(q).u) rfl ty23 rfl rfl (Int.natCast_nonneg _) (by simp[hq]) cl50 ?_
     refine kh rfl (kH (by omega)) ?_
     refine yV rfl rfl zEY ?_
     refine zL [(2,U.box 0 0),(5,.int .i64 ↑i),(6,.int .i64 x),(15,.lst .ro 1 (zE d)),(16,.int .i64 ↑(List.length d)),(17,.int .i64 ↑i),(24,U.bool (decide (x=(-1:Int)))),(30,U.eref [.int .i64 (Sc.part q),.int .i64 (Sc.wt q),.int .i64 (Sc.lo q),.int .i64 (Sc.hi q),U.bool (Sc.must q)] 4)] [] ([SB.box (Bk.cs b)]) (.n8 rfl) rfl rfl fun fr=>?_
     refine kh rfl (kH (by omega)) ?_
     refine zL [(2,U.box 0 0),(5,.int .i64 ↑i),(6,.int .i64 x),(15,.lst .ro 1 (zE d)),(16,.int .i64 ↑(List.length d)),(17,.int .i64 ↑i),(24,U.bool (decide (x=(-1:Int)))),(30,U.eref [.int .i64 (Sc.part q),.int .i64 (Sc.wt q),.int .i64 (Sc.lo q),.int .i64 (Sc.hi q),U.bool (Sc.must q)] 4)] [] ([SB.box (Bk.cs b)]) (.n8 rfl) rfl rfl fun fr=>?_
     refine kE sh4 rfl ?_
     refine kh rfl (kH (by omega)) ?_
     refine zh rfl rfl (zc rfl rfl (kH (by omega)) ?_)
     refine zB rfl (zC ?_)
     refine zF [(2,U.box 0 0),(5,.int .i64 ↑i),(6,.int .i64 x),(7,U.bool !Sc.must q),(15,.lst .ro 1 (zE d)),(16,.int .i64 ↑(List.length d)),(17,.int .i64 ↑i)] ([SB.box (Bk.cs b)]) (.n7 rfl) rfl fun fr=>?_
     refine kQ (zA rfl (zh rfl rfl (zA rfl (kg rfl (by assumption) (kg rfl (by assumption) (kg rfl (by assumption) (kg rfl (by assumption) (kg rfl (by assumption) (zW rfl rfl (by assumption) ?_)))))))))
     refine zC (k_cF rfl rfl ?_)
     refine zJ (k_region ?_)
     refine kB rfl (by unfold I64;omega) (zA rfl (zC ?_))
     exact⟨kk - 1,by omega,i+1,by omega,hw,rfl,.c4 rfl rfl rfl rfl (.nil rfl)⟩
    |true=>
     have k20:(!q.must)=false:=by rw[hqm];rfl
     have k21:(!!q.must)=true:=by rw[hqm];rfl
     rw[kH h1,hqm]at hw
     have hw:z=(inS q.lo q.hi x&&dnF b (i+1) (d.drop (i+1))):=hw
     cases hs:inS q.lo q.hi x with
     |true=>
      rw[hs]at hw q84
      have hw:z=dnF b (i+1) (d.drop (i+1)):=hw
      refine kQ (kq rfl (zC (k_seq (k_cT rfl (kH (by omega)) (zJ (k_seq (zH (kQ (zA rfl (zX (u:=.int .i64 (x)) rfl ty22 rfl rfl (Int.natCast_nonneg _) (by simp[hx]) cl3 ?_))))))))))
      refine kE sh3 rfl ?_
      refine zB rfl (zB rfl (zC (kQ (zA rfl (kw rfl (zA rfl (kh rfl (kH (by omega)) ?_)))))))
      refine kA rfl wL (kh rfl (kH (by omega)) ?_)
      refine kA rfl ze (kh rfl (kH (by omega)) ?_)
      refine kC sh23 rfl (kh rfl (kH (by omega)) ?_)
      refine zA rfl (kh rfl (kH (by omega)) ?_)
      refine zX (u:=(q).u) rfl ty23 rfl rfl (Int.natCast_nonneg _) (by simp[hq]) cl50 ?_
      refine kh rfl (kH (by omega)) ?_
      refine yV rfl rfl zEY ?_
      refine zL [(2,U.box 0 0),(5,.int .i64 ↑i),(6,.int .i64 x),(15,.lst .ro 1 (zE d)),(16,.int .i64 ↑(List.length d)),(17,.int .i64 ↑i),(24,U.bool (decide (x=(-1:Int)))),(30,U.eref [.int .i64 (Sc.part q),.int .i64 (Sc.wt q),.int .i64 (Sc.lo q),.int .i64 (Sc.hi q),U.bool (Sc.must q)] 4)] [] ([SB.box (Bk.cs b)]) (.n8 rfl) rfl rfl fun fr=>?_
      refine kh rfl (kH (by omega)) ?_
      refine zL [(2,U.box 0 0),(5,.int .i64 ↑i),(6,.int .i64 x),(15,.lst .ro 1 (zE d)),(16,.int .i64 ↑(List.length d)),(17,.int .i64 ↑i),(24,U.bool (decide (x=(-1:Int)))),(30,U.eref [.int .i64 (Sc.part q),.int .i64 (Sc.wt q),.int .i64 (Sc.lo q),.int .i64 (Sc.hi q),U.bool (Sc.must q)] 4)] [] ([SB.box (Bk.cs b)]) (.n8 rfl) rfl rfl fun fr=>?_
      refine kE sh4 rfl ?_
      refine kh rfl (kH (by omega)) ?_
      refine zh rfl rfl (zc rfl rfl (kH (by omega)) ?_)
      refine zB rfl (zC ?_)
      refine zF [(2,U.box 0 0),(5,.int .i64 ↑i),(6,.int .i64 x),(7,U.bool !Sc.must q),(15,.lst .ro 1 (zE d)),(16,.int .i64 ↑(List.length d)),(17,.int .i64 ↑i)] ([SB.box (Bk.cs b)]) (.n7 rfl) rfl fun fr=>?_
      refine kQ (zA rfl (zh rfl rfl (zA rfl (kh rfl (by assumption) (kD sh70 rfl (kh rfl (by assumption) (zA rfl (kh rfl (by assumption) (zA rfl (kh rfl (by assumption) (zG rfl (q84) (.lrefl _) (kh rfl (by assumption) (zh rfl rfl (zc rfl rfl (by assumption) ?_))))))))))))))
      refine zC (k_cF rfl rfl ?_)
      refine zJ (k_region ?_)
      refine kB rfl (by unfold I64;omega) (zA rfl (zC ?_))
      exact⟨kk - 1,by omega,i+1,by omega,hw,rfl,.c4 rfl rfl rfl rfl (.nil rfl)⟩
     |false=>
      rw[hs]at hw q84
      obtain rfl:z=false:=hw
      refine kQ (kq rfl (zC (k_seq (k_cT rfl (kH (by omega)) (zJ (k_seq (zH (kQ (zA rfl (zX (u:=.int .i64 (x)) rfl ty22 rfl rfl (Int.natCast_nonneg _) (by simp[hx]) cl3 ?_))))))))))
      refine kE sh3 rfl ?_
      refine zB rfl (zB rfl (zC (kQ (zA rfl (kw rfl (zA rfl (kh rfl (kH (by omega)) ?_)))))))
      refine kA rfl wL (kh rfl (kH (by omega)) ?_)
      refine kA rfl ze (kh rfl (kH (by omega)) ?_)
      refine kC sh23 rfl (kh rfl (kH (by omega)) ?_)
      refine zA rfl (kh rfl (kH (by omega)) ?_)
      refine zX (u:=(q).u) rfl ty23 rfl rfl (Int.natCast_nonneg _) (by simp[hq]) cl50 ?_
      refine kh rfl (kH (by omega)) ?_
      refine yV rfl rfl zEY ?_
      refine zL [(2,U.box 0 0),(5,.int .i64 ↑i),(6,.int .i64 x),(15,.lst .ro 1 (zE d)),(16,.int .i64 ↑(List.length d)),(17,.int .i64 ↑i),(24,U.bool (decide (x=(-1:Int)))),(30,U.eref [.int .i64 (Sc.part q),.int .i64 (Sc.wt q),.int .i64 (Sc.lo q),.int .i64 (Sc.hi q),U.bool (Sc.must q)] 4)] [] ([SB.box (Bk.cs b)]) (.n8 rfl) rfl rfl fun fr=>?_
      refine kh rfl (kH (by omega)) ?_
      refine zL [(2,U.box 0 0),(5,.int .i64 ↑i),(6,.int .i64 x),(15,.lst .ro 1 (zE d)),(16,.int .i64 ↑(List.length d)),(17,.int .i64 ↑i),(24,U.bool (decide (x=(-1:Int)))),(30,U.eref [.int .i64 (Sc.part q),.int .i64 (Sc.wt q),.int .i64 (Sc.lo q),.int .i64 (Sc.hi q),U.bool (Sc.must q)] 4)] [] ([SB.box (Bk.cs b)]) (.n8 rfl) rfl rfl fun fr=>?_
      refine kE sh4 rfl ?_
      refine kh rfl (kH (by omega)) ?_
      refine zh rfl rfl (zc rfl rfl (kH (by omega)) ?_)
      refine zB rfl (zC ?_)
      refine zF [(2,U.box 0 0),(5,.int .i64 ↑i),(6,.int .i64 x),(7,U.bool !Sc.must q),(15,.lst .ro 1 (zE d)),(16,.int .i64 ↑(List.length d)),(17,.int .i64 ↑i)] ([SB.box (Bk.cs b)]) (.n7 rfl) rfl fun fr=>?_
      refine kQ (zA rfl (zh rfl rfl (zA rfl (kh rfl (by assumption) (kD sh70 rfl (kh rfl (by assumption) (zA rfl (kh rfl (by assumption) (zA rfl (kh rfl (by assumption) (zG rfl (q84) (.lrefl _) (kh rfl (by assumption) (zh rfl rfl (zc rfl rfl (by assumption) ?_))))))))))))))
      refine zC (k_cT rfl rfl ?_)
      refine kQ (zB rfl (zC (zS ?_)))
      refine⟨.inr rfl,_,.cons _ _ _ _ (.tmp 4) .nil,?_⟩
      exact .refl _
   ·rw[kI h1,Bool.false_and,Bool.false_or]at hw
    cases hs:inS q.lo q.hi x with
    |true=>
     rw[hs]at hw q84
     have hw:z=dnF b (i+1) (d.drop (i+1)):=hw
     refine kQ (kq rfl (zC (k_seq (k_cT rfl (kH (by omega)) (zJ (k_seq (zH (kQ (zA rfl (zX (u:=.int .i64 (x)) rfl ty22 rfl rfl (Int.natCast_nonneg _) (by simp[hx]) cl3 ?_))))))))))
     refine kE sh3 rfl ?_
     refine zB rfl (zB rfl (zC (kQ (zA rfl (kw rfl (zA rfl (kg rfl (kI (by omega)) ?_)))))))
     refine kg rfl (kI (by omega)) ?_
     refine kg rfl (kI (by omega)) ?_
     refine kg rfl (kI (by omega)) ?_
     refine kg rfl (kI (by omega)) ?_
     refine kg rfl (kI (by omega)) ?_
     refine zL [(2,U.box 0 0),(5,.int .i64 ↑i),(6,.int .i64 x),(15,.lst .ro 1 (zE d)),(16,.int .i64 ↑(List.length d)),(17,.int .i64 ↑i),(24,U.bool (decide (x=(-1:Int))))] [] ([SB.box (Bk.cs b)]) (.n7 rfl) rfl rfl fun fr=>?_
     refine kg rfl (kI (by omega)) ?_
     refine kg rfl (kI (by omega)) ?_
     refine zW rfl rfl (kI (by omega)) ?_
     refine zB rfl (zC ?_)
     refine zF [(2,U.box 0 0),(5,.int .i64 ↑i),(6,.int .i64 x),(7,.bool false),(15,.lst .ro 1 (zE d)),(16,.int .i64 ↑(List.length d)),(17,.int .i64 ↑i)] ([SB.box (Bk.cs b)]) (.n7 rfl) rfl fun fr=>?_
     refine kQ (zA rfl (zh rfl rfl (zA rfl (kf rfl (kD sh70 rfl (kf rfl (zA rfl (kf rfl (zA rfl (kf rfl (zG rfl (q84) (.lrefl _) (kf rfl (zh rfl rfl (kG rfl ?_))))))))))))))
     refine zC (k_cF rfl rfl ?_)
     refine zJ (k_region ?_)
     refine kB rfl (by unfold I64;omega) (zA rfl (zC ?_))
     exact⟨kk - 1,by omega,i+1,by omega,hw,rfl,.c4 rfl rfl rfl rfl (.nil rfl)⟩
    |false=>
     rw[hs]at hw q84
     obtain rfl:z=false:=hw
     refine kQ (kq rfl (zC (k_seq (k_cT rfl (kH (by omega)) (zJ (k_seq (zH (kQ (zA rfl (zX (u:=.int .i64 (x)) rfl ty22 rfl rfl (Int.natCast_nonneg _) (by simp[hx]) cl3 ?_))))))))))
     refine kE sh3 rfl ?_
     refine zB rfl (zB rfl (zC (kQ (zA rfl (kw rfl (zA rfl (kg rfl (kI (by omega)) ?_)))))))
     refine kg rfl (kI (by omega)) ?_
     refine kg rfl (kI (by omega)) ?_
     refine kg rfl (kI (by omega)) ?_
     refine kg rfl (kI (by omega)) ?_
     refine kg rfl (kI (by omega)) ?_
     refine zL [(2,U.box 0 0),(5,.int .i64 ↑i),(6,.int .i64 x),(15,.lst .ro 1 (zE d)),(16,.int .i64 ↑(List.length d)),(17,.int .i64 ↑i),(24,U.bool (decide (x=(-1:Int))))] [] ([SB.box (Bk.cs b)]) (.n7 rfl) rfl rfl fun fr=>?_
     refine kg rfl (kI (by omega)) ?_
     refine kg rfl (kI (by omega)) ?_
     refine zW rfl rfl (kI (by omega)) ?_
     refine zB rfl (zC ?_)
     refine zF [(2,U.box 0 0),(5,.int .i64 ↑i),(6,.int .i64 x),(7,.bool false),(15,.lst .ro 1 (zE d)),(16,.int .i64 ↑(List.length d)),(17,.int .i64 ↑i)] ([SB.box (Bk.cs b)]) (.n7 rfl) rfl fun fr=>?_
     refine kQ (zA rfl (zh rfl rfl (zA rfl (kf rfl (kD sh70 rfl (kf rfl (zA rfl (kf rfl (zA rfl (kf rfl (zG rfl (q84) (.lrefl _) (kf rfl (zh rfl rfl (kG rfl ?_))))))))))))))
     refine zC (k_cT rfl rfl ?_)
     refine kQ (zB rfl (zC (zS ?_)))
     refine⟨.inr rfl,_,.cons _ _ _ _ (.tmp 4) .nil,?_⟩
     exact .refl _
  ·have hd:d.drop i=[]:=List.drop_eq_nil_of_le (by omega)
   rw[hd]at hw
   obtain rfl:z=true:=hw
   refine kQ (kq rfl (zC (k_seq (k_cF rfl (kI (by omega)) (zr (kQ (zB rfl (zC (zS ?_)))))))))
   refine⟨.inr rfl,_,.cons _ _ _ _ (.tmp 4) .nil,?_⟩
   exact .refl _
 ·rw[kI hl,Bool.false_and]
  refine kQ (yB rfl rfl (zB rfl (zC ?_)))
  refine zF [(1,.lst .ro 1 (zE d)),(2,U.box 0 0)] ([SB.box (Bk.cs b)]) (.n2 rfl) rfl fun fr=>?_
  refine k_seq (kQ (zA rfl (zP rfl ty22 rfl (List.length_map _) ?_)))
  refine kA rfl wL (kA rfl ze (kC sh23 rfl (zP rfl ty23 rfl (List.length_map _) ?_)))
  refine o_gtr rfl rfl rfl (zC (k_cT rfl (kH (by omega)) (kQ (zB rfl (zC (zS ?_))))))
  refine⟨.inr rfl,_,.cons _ _ _ _ (.tmp 4) .nil,?_⟩
  exact .refl _
def chF(b:Bk):Int→List Int→Bool
 |_,[]=>true
 |q,x::l=>decide (q<x)&&(decide (x<b.scenes.length)&&(!zAT b x.toNat&&chF b x l))
end Go.Proofs.YtlknfhjfkcboiaaDoor.night
