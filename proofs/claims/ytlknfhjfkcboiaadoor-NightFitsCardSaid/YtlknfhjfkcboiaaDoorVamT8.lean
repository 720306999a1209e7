import Derived.Test.YtlknfhjfkcboiaaDoorVamT7
set_option linter.unusedVariables false
set_option linter.unusedSimpArgs false
set_option linter.constructorNameAsVariable false
namespace Go.Proofs.YtlknfhjfkcboiaaDoor.night
open Vam
variable {is:FuncId→Bool}{orc:Known}
theorem ret84(hi:Off is){b:Bk}(h:BOk b){i:Nat}{q:Sc}(hq:b.scenes[i]? =some q)(x:Int):RetP Tryd.prog is orc 84 [b.u,.int .i64 i,.int .i64 x] (.bool (inS q.lo q.hi x)):=by
 refine zc body84 pure84 (hi 84 (by decide)) rfl rfl (zDO (yZ b 4) (.int _ _ _) (.int _ _ _)) (.inl (.bool _ _)) ?_
 have q80:=ret80 (orc:=orc) hi q.lo q.hi x
 have hil:=(List.getElem?_eq_some_iff.1 hq).1
 refine kQ (zq rfl rfl (zB rfl (zC ?_)))
 refine zF [(1,.int .i64 ↑i),(2,.int .i64 x),(3,U.box 0 0)] ([SB.box (Bk.cs b)]) (.n3 rfl) rfl fun fr=>?_
 refine kQ (kz rfl yn (kz rfl ze (kB rfl sh23 (zA rfl (zY (u:=(q).u) rfl ty23 rfl rfl (Int.natCast_nonneg _) (by simp[hq]) cl50 ?_)))))
 refine yV rfl rfl wN ?_
 refine yg rfl rfl sh48 rfl ?_
 refine zA rfl (zG rfl (q80) (.lrefl _) (zB rfl (zC (zR ?_))))
 refine⟨.inr rfl,_,.cons _ _ _ _ (.tmp 6) .nil,?_⟩
 exact .refl _
def dnB(b:Bk)(i:Nat)(x:Int):Bool:=(decide (x= -1)&& !wu b i)||(match b.scenes[i]? with|none=>false|some q=>inS q.lo q.hi x)
def dnF(b:Bk):Nat→List Int→Bool
 |_,[]=>true
 |i,x::l=>dnB b i x&&dnF b (i+1) l
def zAO(b:Bk)(d:List Int):Bool:=decide (d.length≤b.scenes.length)&&dnF b 0 d
set_option maxHeartbeats 8000000 in
theorem ret62(hi:Off is){b:Bk}(h:BOk b)(d:List Int):RetP Tryd.prog is orc 62 [b.u,.lst .ro 1 (zE d)] (.bool (zAO b d)):=by
 refine zc body62 pure62 (hi 62 (by decide)) rfl rfl (zb (yZ b 4) (zP 6 .ro (fun h=>by cases h) 1 d)) (.inl (.bool _ _)) ?_
 have hn:=h.sn
 unfold zAO
 by_cases hl:d.length≤b.scenes.length
 ·rw[kG hl,Bool.true_and]
  generalize hz:dnF b 0 d=z
  refine kQ (zq rfl rfl (zB rfl (zC ?_)))
  refine zF [(1,.lst .ro 1 (zE d)),(2,U.box 0 0)] ([SB.box (Bk.cs b)]) (.n2 rfl) rfl fun fr=>?_
  refine k_seq (kQ (zA rfl (zS rfl ty22 rfl (List.length_map _) ?_)))
  refine kz rfl yn (kz rfl ze (kB rfl sh23 (zS rfl ty23 rfl (List.length_map _) ?_)))
  refine o_gtr rfl rfl rfl (zC (k_cF rfl (kH (by omega)) (zL (k_seq (kQ (zA rfl (zS rfl ty22 rfl (List.length_map _) ?_)))))))
  refine zA rfl (zC (zJ ?_))
  refine yX (fun kk s2=>∃i:Nat,kk+i=d.length∧z=dnF b i (d.drop i)∧s2.st=[.box (Bk.cs b)]∧Holds s2 [(2,.box 0 0),(15,.lst .ro 1 (zE d)),(16,.int .i64 d.length),(17,.int .i64 i)]) (fun kk s2 hI=>?_) d.length _ ⟨0,rfl,hz.symm,rfl,.c4 rfl rfl rfl rfl (.nil rfl)⟩
  obtain⟨i,hk,hw,hst2,hs2⟩:=hI
  clear hz
  refine zF _ _ hs2 hst2 fun fr2=>?_
  by_cases hin:i<d.length
  ·obtain⟨x,hx⟩:∃x,d[i]? =some x:=⟨d[i],List.getElem?_eq_getElem hin⟩
   rw[zBI hx]at hw
   have hw:z=(dnB b i x&&dnF b (i+1) (d.drop (i+1))):=hw
   obtain⟨q,hq⟩:∃q,b.scenes[i]? =some q:=⟨b.scenes[i],List.getElem?_eq_getElem (by omega)⟩
   have hm:wu b i=q.must:=by unfold wu;rw[hq];rfl
   have hdn:dnB b i x=((decide (x= -1)&& !q.must)||inS q.lo q.hi x):=by unfold dnB;rw[hq,hm]
   rw[hdn]at hw
   have q84:=ret84 (orc:=orc) hi h hq x
   by_cases h1:x= -1
   ·cases hqm:q.must with
    |false=>
     have k20:(!q.must)=true:=by rw[hqm];rfl
     have k21:(!!q.must)=false:=by rw[hqm];rfl
     rw[kG h1,hqm]at hw
     have hw:z=dnF b (i+1) (d.drop (i+1)):=hw
     refine kQ (kp rfl (zC (k_seq (k_cT rfl (kG (by omega)) (zL (k_seq (zJ (kQ (zA rfl (zY (u:=.int .i64 (x)) rfl ty22 rfl rfl (Int.natCast_nonneg _) (by simp[hx]) cl3 ?_))))))))))
     refine kD rfl sh3 ?_
     refine zB rfl (zB rfl (zC (kQ (zA rfl (ku rfl (zA rfl (kh rfl (kG (by omega)) ?_)))))))
     refine kz rfl yn (kh rfl (kG (by omega)) ?_)
     refine kz rfl ze (kh rfl (kG (by omega)) ?_)
     refine kB rfl sh23 (kh rfl (kG (by omega)) ?_)
     refine zA rfl (kh rfl (kG (by omega)) ?_)
     refine zY (u:=(q).u) rfl ty23 rfl rfl (Int.natCast_nonneg _) (by simp[hq]) cl50 ?_
     refine kh rfl (kG (by omega)) ?_
     refine yV rfl rfl zCl ?_
     refine zH [(2,U.box 0 0),(5,.int .i64 ↑i),(6,.int .i64 x),(15,.lst .ro 1 (zE d)),(16,.int .i64 ↑(List.length d)),(17,.int .i64 ↑i),(24,U.bool (decide (x=(-1:Int)))),(30,U.eref [.int .i64 (Sc.part q),.int .i64 (Sc.wt q),.int .i64 (Sc.lo q),.int .i64 (Sc.hi q),U.bool (Sc.must q)] 4)] [] ([SB.box (Bk.cs b)]) (.n8 rfl) rfl rfl fun fr=>?_
     refine kh rfl (kG (by omega)) ?_
     refine zH [(2,U.box 0 0),(5,.int .i64 ↑i),(6,.int .i64 x),(15,.lst .ro 1 (zE d)),(16,.int .i64 ↑(List.length d)),(17,.int .i64 ↑i),(24,U.bool (decide (x=(-1:Int)))),(30,U.eref [.int .i64 (Sc.part q),.int .i64 (Sc.wt q),.int .i64 (Sc.lo q),.int .i64 (Sc.hi q),U.bool (Sc.must q)] 4)] [] ([SB.box (Bk.cs b)]) (.n8 rfl) rfl rfl fun fr=>?_
     refine kD rfl sh4 ?_
     refine kh rfl (kG (by omega)) ?_
     refine zw rfl rfl (zg rfl rfl (kG (by omega)) ?_)
     refine zB rfl (zC ?_)
     refine zF [(2,U.box 0 0),(5,.int .i64 ↑i),(6,.int .i64 x),(7,U.bool !Sc.must q),(15,.lst .ro 1 (zE d)),(16,.int .i64 ↑(List.length d)),(17,.int .i64 ↑i)] ([SB.box (Bk.cs b)]) (.n7 rfl) rfl fun fr=>?_
     refine kQ (zA rfl (zw rfl rfl (zA rfl (kg rfl (by assumption) (kg rfl (by assumption) (kg rfl (by assumption) (kg rfl (by assumption) (kg rfl (by assumption) (zV rfl rfl (by assumption) ?_)))))))))
     refine zC (k_cF rfl rfl ?_)
     refine zL (k_region ?_)
     refine kA rfl (by unfold I64;omega) (zA rfl (zC ?_))
     exact⟨kk - 1,by omega,i+1,by omega,hw,rfl,.c4 rfl rfl rfl rfl (.nil rfl)⟩
    |true=>
     have k20:(!q.must)=false:=by rw[hqm];rfl
     have k21:(!!q.must)=true:=by rw[hqm];rfl
     rw[kG h1,hqm]at hw
     have hw:z=(inS q.lo q.hi x&&dnF b (i+1) (d.drop (i+1))):=hw
     cases hs:inS q.lo q.hi x with
     |true=>
      rw[hs]at hw q84
      have hw:z=dnF b (i+1) (d.drop (i+1)):=hw
      refine kQ (kp rfl (zC (k_seq (k_cT rfl (kG (by omega)) (zL (k_seq (zJ (kQ (zA rfl (zY (u:=.int .i64 (x)) rfl ty22 rfl rfl (Int.natCast_nonneg _) (by simp[hx]) cl3 ?_))))))))))
      refine kD rfl sh3 ?_
      refine zB rfl (zB rfl (zC (kQ (zA rfl (ku rfl (zA rfl (kh rfl (kG (by omega)) ?_)))))))
      refine kz rfl yn (kh rfl (kG (by omega)) ?_)
      refine kz rfl ze (kh rfl (kG (by omega)) ?_)
      refine kB rfl sh23 (kh rfl (kG (by omega)) ?_)
      refine zA rfl (kh rfl (kG (by omega)) ?_)
      refine zY (u:=(q).u) rfl ty23 rfl rfl (Int.natCast_nonneg _) (by simp[hq]) cl50 ?_
      refine kh rfl (kG (by omega)) ?_
      refine yV rfl rfl zCl ?_
      refine zH [(2,U.box 0 0),(5,.int .i64 ↑i),(6,.int .i64 x),(15,.lst .ro 1 (zE d)),(16,.int .i64 ↑(List.length d)),(17,.int .i64 ↑i),(24,U.bool (decide (x=(-1:Int)))),(30,U.eref [.int .i64 (Sc.part q),.int .i64 (Sc.wt q),.int .i64 (Sc.lo q),.int .i64 (Sc.hi q),U.bool (Sc.must q)] 4)] [] ([SB.box (Bk.cs b)]) (.n8 rfl) rfl rfl fun fr=>?_
      refine kh rfl (kG (by omega)) ?_
      refine zH [(2,U.box 0 0),(5,.int .i64 ↑i),(6,.int .i64 x),(15,.lst .ro 1 (zE d)),(16,.int .i64 ↑(List.length d)),(17,.int .i64 ↑i),(24,U.bool (decide (x=(-1:Int)))),(30,U.eref [.int .i64 (Sc.part q),.int .i64 (Sc.wt q),.int .i64 (Sc.lo q),.int .i64 (Sc.hi q),U.bool (Sc.must q)] 4)] [] ([SB.box (Bk.cs b)]) (.n8 rfl) rfl rfl fun fr=>?_
      refine kD rfl sh4 ?_
      refine kh rfl (kG (by omega)) ?_
      refine zw rfl rfl (zg rfl rfl (kG (by omega)) ?_)
      refine zB rfl (zC ?_)
      refine zF [(2,U.box 0 0),(5,.int .i64 ↑i),(6,.int .i64 x),(7,U.bool !Sc.must q),(15,.lst .ro 1 (zE d)),(16,.int .i64 ↑(List.length d)),(17,.int .i64 ↑i)] ([SB.box (Bk.cs b)]) (.n7 rfl) rfl fun fr=>?_
      refine kQ (zA rfl (zw rfl rfl (zA rfl (kh rfl (by assumption) (kC rfl sh70 (kh rfl (by assumption) (zA rfl (kh rfl (by assumption) (zA rfl (kh rfl (by assumption) (zG rfl (q84) (.lrefl _) (kh rfl (by assumption) (zw rfl rfl (zg rfl rfl (by assumption) ?_))))))))))))))
      refine zC (k_cF rfl rfl ?_)
      refine zL (k_region ?_)
      refine kA rfl (by unfold I64;omega) (zA rfl (zC ?_))
      exact⟨kk - 1,by omega,i+1,by omega,hw,rfl,.c4 rfl rfl rfl rfl (.nil rfl)⟩
     |false=>
      rw[hs]at hw q84
      obtain rfl:z=false:=hw
      refine kQ (kp rfl (zC (k_seq (k_cT rfl (kG (by omega)) (zL (k_seq (zJ (kQ (zA rfl (zY (u:=.int .i64 (x)) rfl ty22 rfl rfl (Int.natCast_nonneg _) (by simp[hx]) cl3 ?_))))))))))
      refine kD rfl sh3 ?_
      refine zB rfl (zB rfl (zC (kQ (zA rfl (ku rfl (zA rfl (kh rfl (kG (by omega)) ?_)))))))
      refine kz rfl yn (kh rfl (kG (by omega)) ?_)
      refine kz rfl ze (kh rfl (kG (by omega)) ?_)
      refine kB rfl sh23 (kh rfl (kG (by omega)) ?_)
      refine zA rfl (kh rfl (kG (by omega)) ?_)
      refine zY (u:=(q).u) rfl ty23 rfl rfl (Int.natCast_nonneg _) (by simp[hq]) cl50 ?_
      refine kh rfl (kG (by omega)) ?_
      refine yV rfl rfl zCl ?_
      refine zH [(2,U.box 0 0),(5,.int .i64 ↑i),(6,.int .i64 x),(15,.lst .ro 1 (zE d)),(16,.int .i64 ↑(List.length d)),(17,.int .i64 ↑i),(24,U.bool (decide (x=(-1:Int)))),(30,U.eref [.int .i64 (Sc.part q),.int .i64 (Sc.wt q),.int .i64 (Sc.lo q),.int .i64 (Sc.hi q),U.bool (Sc.must q)] 4)] [] ([SB.box (Bk.cs b)]) (.n8 rfl) rfl rfl fun fr=>?_
      refine kh rfl (kG (by omega)) ?_
      refine zH [(2,U.box 0 0),(5,.int .i64 ↑i),(6,.int .i64 x),(15,.lst .ro 1 (zE d)),(16,.int .i64 ↑(List.length d)),(17,.int .i64 ↑i),(24,U.bool (decide (x=(-1:Int)))),(30,U.eref [.int .i64 (Sc.part q),.int .i64 (Sc.wt q),.int .i64 (Sc.lo q),.int .i64 (Sc.hi q),U.bool (Sc.must q)] 4)] [] ([SB.box (Bk.cs b)]) (.n8 rfl) rfl rfl fun fr=>?_
      refine kD rfl sh4 ?_
      refine kh rfl (kG (by omega)) ?_
      refine zw rfl rfl (zg rfl rfl (kG (by omega)) ?_)
      refine zB rfl (zC ?_)
      refine zF [(2,U.box 0 0),(5,.int .i64 ↑i),(6,.int .i64 x),(7,U.bool !Sc.must q),(15,.lst .ro 1 (zE d)),(16,.int .i64 ↑(List.length d)),(17,.int .i64 ↑i)] ([SB.box (Bk.cs b)]) (.n7 rfl) rfl fun fr=>?_
      refine kQ (zA rfl (zw rfl rfl (zA rfl (kh rfl (by assumption) (kC rfl sh70 (kh rfl (by assumption) (zA rfl (kh rfl (by assumption) (zA rfl (kh rfl (by assumption) (zG rfl (q84) (.lrefl _) (kh rfl (by assumption) (zw rfl rfl (zg rfl rfl (by assumption) ?_))))))))))))))
      refine zC (k_cT rfl rfl ?_)
      refine kQ (zB rfl (zC (zR ?_)))
      refine⟨.inr rfl,_,.cons _ _ _ _ (.tmp 4) .nil,?_⟩
      exact .refl _
   ·rw[kH h1,Bool.false_and,Bool.false_or]at hw
    cases hs:inS q.lo q.hi x with
    |true=>
     rw[hs]at hw q84
     have hw:z=dnF b (i+1) (d.drop (i+1)):=hw
     refine kQ (kp rfl (zC (k_seq (k_cT rfl (kG (by omega)) (zL (k_seq (zJ (kQ (zA rfl (zY (u:=.int .i64 (x)) rfl ty22 rfl rfl (Int.natCast_nonneg _) (by simp[hx]) cl3 ?_))))))))))
     refine kD rfl sh3 ?_
     refine zB rfl (zB rfl (zC (kQ (zA rfl (ku rfl (zA rfl (kg rfl (kH (by omega)) ?_)))))))
     refine kg rfl (kH (by omega)) ?_
     refine kg rfl (kH (by omega)) ?_
     refine kg rfl (kH (by omega)) ?_
     refine kg rfl (kH (by omega)) ?_
     refine kg rfl (kH (by omega)) ?_
     refine zH [(2,U.box 0 0),(5,.int .i64 ↑i),(6,.int .i64 x),(15,.lst .ro 1 (zE d)),(16,.int .i64 ↑(List.length d)),(17,.int .i64 ↑i),(24,U.bool (decide (x=(-1:Int))))] [] ([SB.box (Bk.cs b)]) (.n7 rfl) rfl rfl fun fr=>?_
     refine kg rfl (kH (by omega)) ?_
     refine kg rfl (kH (by omega)) ?_
     refine zV rfl rfl (kH (by omega)) ?_
     refine zB rfl (zC ?_)
     refine zF [(2,U.box 0 0),(5,.int .i64 ↑i),(6,.int .i64 x),(7,.bool false),(15,.lst .ro 1 (zE d)),(16,.int .i64 ↑(List.length d)),(17,.int .i64 ↑i)] ([SB.box (Bk.cs b)]) (.n7 rfl) rfl fun fr=>?_
     refine kQ (zA rfl (zw rfl rfl (zA rfl (kf rfl (kC rfl sh70 (kf rfl (zA rfl (kf rfl (zA rfl (kf rfl (zG rfl (q84) (.lrefl _) (kf rfl (zw rfl rfl (kF rfl ?_))))))))))))))
     refine zC (k_cF rfl rfl ?_)
     refine zL (k_region ?_)
     refine kA rfl (by unfold I64;omega) (zA rfl (zC ?_))
     exact⟨kk - 1,by omega,i+1,by omega,hw,rfl,.c4 rfl rfl rfl rfl (.nil rfl)⟩
    |false=>
     rw[hs]at hw q84
     obtain rfl:z=false:=hw
     refine kQ (kp rfl (zC (k_seq (k_cT rfl (kG (by omega)) (zL (k_seq (zJ (kQ (zA rfl (zY (u:=.int .i64 (x)) rfl ty22 rfl rfl (Int.natCast_nonneg _) (by simp[hx]) cl3 ?_))))))))))
     refine kD rfl sh3 ?_
     refine zB rfl (zB rfl (zC (kQ (zA rfl (ku rfl (zA rfl (kg rfl (kH (by omega)) ?_)))))))
     refine kg rfl (kH (by omega)) ?_
     refine kg rfl (kH (by omega)) ?_
     refine kg rfl (kH (by omega)) ?_
     refine kg rfl (kH (by omega)) ?_
     refine kg rfl (kH (by omega)) ?_
     refine zH [(2,U.box 0 0),(5,.int .i64 ↑i),(6,.int .i64 x),(15,.lst .ro 1 (zE d)),(16,.int .i64 ↑(List.length d)),(17,.int .i64 ↑i),(24,U.bool (decide (x=(-1:Int))))] [] ([SB.box (Bk.cs b)]) (.n7 rfl) rfl rfl fun fr=>?_
     refine kg rfl (kH (by omega)) ?_
     refine kg rfl (kH (by omega)) ?_
     refine zV rfl rfl (kH (by omega)) ?_
     refine zB rfl (zC ?_)
     refine zF [(2,U.box 0 0),(5,.int .i64 ↑i),(6,.int .i64 x),(7,.bool false),(15,.lst .ro 1 (zE d)),(16,.int .i64 ↑(List.length d)),(17,.int .i64 ↑i)] ([SB.box (Bk.cs b)]) (.n7 rfl) rfl fun fr=>?_
     refine kQ (zA rfl (zw rfl rfl (zA rfl (kf rfl (kC rfl sh70 (kf rfl (zA rfl (kf rfl (zA rfl (kf rfl (zG rfl (q84) (.lrefl _) (kf rfl (zw rfl rfl (kF rfl ?_))))))))))))))
     refine zC (k_cT rfl rfl ?_)
     refine kQ (zB rfl (zC (zR ?_)))
     refine⟨.inr rfl,_,.cons _ _ _ _ (.tmp 4) .nil,?_⟩
     exact .refl _
  ·have hd:d.drop i=[]:=List.drop_eq_nil_of_le (by omega)
   rw[hd]at hw
   obtain rfl:z=true:=hw
   refine kQ (kp rfl (zC (k_seq (k_cF rfl (kH (by omega)) (zx (kQ (zB rfl (zC (zR ?_)))))))))
   refine⟨.inr rfl,_,.cons _ _ _ _ (.tmp 4) .nil,?_⟩
   exact .refl _
 ·rw[kH hl,Bool.false_and]
  refine kQ (zq rfl rfl (zB rfl (zC ?_)))
  refine zF [(1,.lst .ro 1 (zE d)),(2,U.box 0 0)] ([SB.box (Bk.cs b)]) (.n2 rfl) rfl fun fr=>?_
  refine k_seq (kQ (zA rfl (zS rfl ty22 rfl (List.length_map _) ?_)))
  refine kz rfl yn (kz rfl ze (kB rfl sh23 (zS rfl ty23 rfl (List.length_map _) ?_)))
  refine o_gtr rfl rfl rfl (zC (k_cT rfl (kG (by omega)) (kQ (zB rfl (zC (zR ?_))))))
  refine⟨.inr rfl,_,.cons _ _ _ _ (.tmp 4) .nil,?_⟩
  exact .refl _
def chF(b:Bk):Int→List Int→Bool
 |_,[]=>true
 |q,x::l=>decide (q<x)&&(decide (x<b.scenes.length)&&(!wu b x.toNat&&chF b x l))
set_option maxHeartbeats 8000000 in
theorem ret78(hi:Off is){b:Bk}(h:BOk b)(L:List Int):RetP Tryd.prog is orc 78 [b.u,.lst .ro 1 (zE L)] (.bool (chF b (-1) L)):=by
 refine zc body78 pure78 (hi 78 (by decide)) rfl rfl (zb (yZ b 4) (zP 6 .ro (fun h=>by cases h) 1 L)) (.inl (.bool _ _)) ?_
 have hn:=h.sn
 generalize hz:chF b (-1) L=z
 refine kQ (zq rfl rfl (zB rfl (zC ?_)))
 refine zF [(1,.lst .ro 1 (zE L)),(2,U.box 0 0)] ([SB.box (Bk.cs b)]) (.n2 rfl) rfl fun fr=>?_
 refine kQ (zB rfl (zC (k_seq (kQ (zA rfl (zS rfl ty83 rfl (List.length_map _) ?_))))))
 refine zA rfl (zC (zJ ?_))
 refine yX (fun kk s2=>∃i:Nat,kk+i=L.length∧z=chF b (lstI L i) (L.drop i)∧(i:Int)≤lstI L i+1∧lstI L i<10∧s2.st=[.box (Bk.cs b)]∧Holds s2 [(2,.box 0 0),(5,.int .i64 (lstI L i)),(8,.lst .ro 1 (zE L)),(9,.int .i64 L.length),(10,.int .i64 i)]) (fun kk s2 hI=>?_) L.length _ ⟨0,rfl,hz.symm,(by show(0:Int)≤ -1+1;omega),(by show(-1:Int)<10;omega),rfl,.c4 rfl rfl rfl rfl (.n1 rfl)⟩
 obtain⟨i,hk,hw,hb1,hb2,hst2,hs2⟩:=hI
 clear hz
 have hln:∀x,L[i]? =some x→lstI L (i+1)=x:=fun x hx=>by show(L[i]?).getD 0=x;rw[hx];rfl
 generalize lstI L i=p at*
 refine zF _ _ hs2 hst2 fun fr2=>?_
 by_cases hin:i<L.length
 ·obtain⟨x,hx⟩:∃x,L[i]? =some x:=⟨L[i],List.getElem?_eq_getElem hin⟩
  have hl2:=hln x hx
  rw[zBI hx]at hw
  have hw:z=(decide (p<x)&&(decide (x<b.scenes.length)&&(!wu b x.toNat&&chF b x (L.drop (i+1))))):=hw
  by_cases c1:p<x
  ·rw[kG c1,Bool.true_and]at hw
   by_cases c2:x<b.scenes.length
   ·rw[kG c2,Bool.true_and]at hw
    obtain⟨q,hq⟩:∃q,b.scenes[x.toNat]? =some q:=⟨b.scenes[x.toNat],List.getElem?_eq_getElem (by omega)⟩
    have hm:wu b x.toNat=q.must:=by unfold wu;rw[hq];rfl
    rw[hm]at hw
    cases hqm:q.must with
    |true=>
     rw[hqm]at hw
     obtain rfl:z=false:=hw
     refine kQ (kp rfl (zC (k_seq (k_cT rfl (kG (by omega)) (zL (k_seq (zJ (kQ (zY (u:=.int .i64 (x)) rfl ty83 rfl rfl (Int.natCast_nonneg _) (by simp[hx]) cl3 ?_)))))))))
     refine kD rfl sh3 ?_
     refine zB rfl (zC (k_seq (kQ (zA rfl (zA rfl (kq rfl (zA rfl (kh rfl (kH (by omega)) (zA rfl (kh rfl (kH (by omega)) (kz rfl yn (kh rfl (kH (by omega)) (kz rfl ze (kh rfl (kH (by omega)) (kB rfl sh23 ?_)))))))))))))))
     refine kh rfl (kH (by omega)) (zS rfl ty23 rfl (List.length_map _) ?_)
     refine zH [(2,U.box 0 0),(7,.int .i64 x),(8,.lst .ro 1 (zE L)),(9,.int .i64 ↑(List.length L)),(10,.int .i64 ↑i),(17,U.bool (decide (x≤p))),(18,.int .i64 x),(22,.int .i64 ↑(List.length (Bk.scenes b)))] [] ([SB.box (Bk.cs b)]) (.n8 rfl) rfl rfl fun fr=>?_
     refine kh rfl (kH (by omega)) ?_
     refine zH [(2,U.box 0 0),(7,.int .i64 x),(8,.lst .ro 1 (zE L)),(9,.int .i64 ↑(List.length L)),(10,.int .i64 ↑i),(17,U.bool (decide (x≤p))),(18,.int .i64 x),(22,.int .i64 ↑(List.length (Bk.scenes b)))] [] ([SB.box (Bk.cs b)]) (.n8 rfl) rfl rfl fun fr=>?_
     refine o_geq rfl rfl rfl (zV rfl rfl (kH (by omega)) ?_)
     refine zA rfl (kh rfl (kH (by omega)) (kz rfl yn (kh rfl (kH (by omega)) (kz rfl ze (kh rfl (kH (by omega)) (kB rfl sh23 (kh rfl (kH (by omega)) (zA rfl (kh rfl (kH (by omega)) (zY (u:=(q).u) rfl ty23 rfl rfl (by omega) (by simp[hq]) cl50 ?_))))))))))
     refine kh rfl (kH (by omega)) (yV rfl rfl zCl ?_)
     refine zH [(2,U.box 0 0),(7,.int .i64 x),(8,.lst .ro 1 (zE L)),(9,.int .i64 ↑(List.length L)),(10,.int .i64 ↑i),(25,U.bool (decide (↑(List.length (Bk.scenes b))≤x))),(31,U.eref [.int .i64 (Sc.part q),.int .i64 (Sc.wt q),.int .i64 (Sc.lo q),.int .i64 (Sc.hi q),U.bool (Sc.must q)] 4)] [] ([SB.box (Bk.cs b)]) (.n7 rfl) rfl rfl fun fr=>?_
     refine kh rfl (kH (by omega)) ?_
     refine zH [(2,U.box 0 0),(7,.int .i64 x),(8,.lst .ro 1 (zE L)),(9,.int .i64 ↑(List.length L)),(10,.int .i64 ↑i),(25,U.bool (decide (↑(List.length (Bk.scenes b))≤x))),(31,U.eref [.int .i64 (Sc.part q),.int .i64 (Sc.wt q),.int .i64 (Sc.lo q),.int .i64 (Sc.hi q),U.bool (Sc.must q)] 4)] [] ([SB.box (Bk.cs b)]) (.n7 rfl) rfl rfl fun fr=>?_
     refine kD rfl sh4 ?_
     refine zV rfl rfl (kH (by omega)) ?_
     refine zC ?_
     refine zF [(2,U.box 0 0),(7,.int .i64 x),(8,.lst .ro 1 (zE L)),(9,.int .i64 ↑(List.length L)),(10,.int .i64 ↑i),(33,U.bool (Sc.must q))] ([SB.box (Bk.cs b)]) (.n6 rfl) rfl fun fr=>?_
     refine k_cT rfl (by assumption) (kQ (zB rfl (zC (zR ?_))))
     refine⟨.inr rfl,_,.cons _ _ _ _ (.tmp 4) .nil,?_⟩
     exact .refl _
    |false=>
     rw[hqm]at hw
     have hw:z=chF b x (L.drop (i+1)):=hw
     refine kQ (kp rfl (zC (k_seq (k_cT rfl (kG (by omega)) (zL (k_seq (zJ (kQ (zY (u:=.int .i64 (x)) rfl ty83 rfl rfl (Int.natCast_nonneg _) (by simp[hx]) cl3 ?_)))))))))
     refine kD rfl sh3 ?_
     refine zB rfl (zC (k_seq (kQ (zA rfl (zA rfl (kq rfl (zA rfl (kh rfl (kH (by omega)) (zA rfl (kh rfl (kH (by omega)) (kz rfl yn (kh rfl (kH (by omega)) (kz rfl ze (kh rfl (kH (by omega)) (kB rfl sh23 ?_)))))))))))))))
     refine kh rfl (kH (by omega)) (zS rfl ty23 rfl (List.length_map _) ?_)
     refine zH [(2,U.box 0 0),(7,.int .i64 x),(8,.lst .ro 1 (zE L)),(9,.int .i64 ↑(List.length L)),(10,.int .i64 ↑i),(17,U.bool (decide (x≤p))),(18,.int .i64 x),(22,.int .i64 ↑(List.length (Bk.scenes b)))] [] ([SB.box (Bk.cs b)]) (.n8 rfl) rfl rfl fun fr=>?_
     refine kh rfl (kH (by omega)) ?_
     refine zH [(2,U.box 0 0),(7,.int .i64 x),(8,.lst .ro 1 (zE L)),(9,.int .i64 ↑(List.length L)),(10,.int .i64 ↑i),(17,U.bool (decide (x≤p))),(18,.int .i64 x),(22,.int .i64 ↑(List.length (Bk.scenes b)))] [] ([SB.box (Bk.cs b)]) (.n8 rfl) rfl rfl fun fr=>?_
     refine o_geq rfl rfl rfl (zV rfl rfl (kH (by omega)) ?_)
     refine zA rfl (kh rfl (kH (by omega)) (kz rfl yn (kh rfl (kH (by omega)) (kz rfl ze (kh rfl (kH (by omega)) (kB rfl sh23 (kh rfl (kH (by omega)) (zA rfl (kh rfl (kH (by omega)) (zY (u:=(q).u) rfl ty23 rfl rfl (by omega) (by simp[hq]) cl50 ?_))))))))))
     refine kh rfl (kH (by omega)) (yV rfl rfl zCl ?_)
     refine zH [(2,U.box 0 0),(7,.int .i64 x),(8,.lst .ro 1 (zE L)),(9,.int .i64 ↑(List.length L)),(10,.int .i64 ↑i),(25,U.bool (decide (↑(List.length (Bk.scenes b))≤x))),(31,U.eref [.int .i64 (Sc.part q),.int .i64 (Sc.wt q),.int .i64 (Sc.lo q),.int .i64 (Sc.hi q),U.bool (Sc.must q)] 4)] [] ([SB.box (Bk.cs b)]) (.n7 rfl) rfl rfl fun fr=>?_
     refine kh rfl (kH (by omega)) ?_
     refine zH [(2,U.box 0 0),(7,.int .i64 x),(8,.lst .ro 1 (zE L)),(9,.int .i64 ↑(List.length L)),(10,.int .i64 ↑i),(25,U.bool (decide (↑(List.length (Bk.scenes b))≤x))),(31,U.eref [.int .i64 (Sc.part q),.int .i64 (Sc.wt q),.int .i64 (Sc.lo q),.int .i64 (Sc.hi q),U.bool (Sc.must q)] 4)] [] ([SB.box (Bk.cs b)]) (.n7 rfl) rfl rfl fun fr=>?_
     refine kD rfl sh4 ?_
     refine zV rfl rfl (kH (by omega)) ?_
     refine zC ?_
     refine zF [(2,U.box 0 0),(7,.int .i64 x),(8,.lst .ro 1 (zE L)),(9,.int .i64 ↑(List.length L)),(10,.int .i64 ↑i),(33,U.bool (Sc.must q))] ([SB.box (Bk.cs b)]) (.n6 rfl) rfl fun fr=>?_
     refine k_cF rfl (by assumption) (zL (k_region (zA rfl (zB rfl (zC (k_region ?_))))))
     refine kA rfl (by unfold I64;omega) (zA rfl (zC ?_))
     exact⟨kk - 1,by omega,i+1,by omega,by rw[hl2];exact hw,by omega,by omega,rfl,.cons rfl (.cons (by rw[hl2];rfl) (.n3 rfl))⟩
   ·rw[kH c2,Bool.false_and]at hw
    obtain rfl:z=false:=hw
    refine kQ (kp rfl (zC (k_seq (k_cT rfl (kG (by omega)) (zL (k_seq (zJ (kQ (zY (u:=.int .i64 (x)) rfl ty83 rfl rfl (Int.natCast_nonneg _) (by simp[hx]) cl3 ?_)))))))))
    refine kD rfl sh3 ?_
    refine zB rfl (zC (k_seq (kQ (zA rfl (zA rfl (kq rfl (zA rfl (kh rfl (kH (by omega)) (zA rfl (kh rfl (kH (by omega)) (kz rfl yn (kh rfl (kH (by omega)) (kz rfl ze (kh rfl (kH (by omega)) (kB rfl sh23 ?_)))))))))))))))
    refine kh rfl (kH (by omega)) (zS rfl ty23 rfl (List.length_map _) ?_)
    refine zH [(2,U.box 0 0),(7,.int .i64 x),(8,.lst .ro 1 (zE L)),(9,.int .i64 ↑(List.length L)),(10,.int .i64 ↑i),(17,U.bool (decide (x≤p))),(18,.int .i64 x),(22,.int .i64 ↑(List.length (Bk.scenes b)))] [] ([SB.box (Bk.cs b)]) (.n8 rfl) rfl rfl fun fr=>?_
    refine kh rfl (kH (by omega)) ?_
    refine zH [(2,U.box 0 0),(7,.int .i64 x),(8,.lst .ro 1 (zE L)),(9,.int .i64 ↑(List.length L)),(10,.int .i64 ↑i),(17,U.bool (decide (x≤p))),(18,.int .i64 x),(22,.int .i64 ↑(List.length (Bk.scenes b)))] [] ([SB.box (Bk.cs b)]) (.n8 rfl) rfl rfl fun fr=>?_
    refine o_geq rfl rfl rfl (zV rfl rfl (kH (by omega)) ?_)
    refine zA rfl (kg rfl (kG (by omega)) (kg rfl (kG (by omega)) (kg rfl (kG (by omega)) (kg rfl (kG (by omega)) (kg rfl (kG (by omega)) (kg rfl (kG (by omega)) ?_))))))
    refine zH [(2,U.box 0 0),(7,.int .i64 x),(8,.lst .ro 1 (zE L)),(9,.int .i64 ↑(List.length L)),(10,.int .i64 ↑i),(25,U.bool (decide (↑(List.length (Bk.scenes b))≤x)))] [] ([SB.box (Bk.cs b)]) (.n6 rfl) rfl rfl fun fr=>?_
    refine kg rfl (kG (by omega)) (zg rfl rfl (kG (by omega)) ?_)
    refine zC ?_
    refine zF [(2,U.box 0 0),(7,.int .i64 x),(8,.lst .ro 1 (zE L)),(9,.int .i64 ↑(List.length L)),(10,.int .i64 ↑i),(33,.bool true)] ([SB.box (Bk.cs b)]) (.n6 rfl) rfl fun fr=>?_
    refine k_cT rfl rfl ?_
    refine kQ (zB rfl (zC (zR ?_)))
    refine⟨.inr rfl,_,.cons _ _ _ _ (.tmp 4) .nil,?_⟩
    exact .refl _
  ·rw[kH c1,Bool.false_and]at hw
   obtain rfl:z=false:=hw
   refine kQ (kp rfl (zC (k_seq (k_cT rfl (kG (by omega)) (zL (k_seq (zJ (kQ (zY (u:=.int .i64 (x)) rfl ty83 rfl rfl (Int.natCast_nonneg _) (by simp[hx]) cl3 ?_)))))))))
   refine kD rfl sh3 ?_
   refine zB rfl (zC (k_seq (kQ (zA rfl (zA rfl (kq rfl (zA rfl (kg rfl (kG (by omega)) (kg rfl (kG (by omega)) (kg rfl (kG (by omega)) (kg rfl (kG (by omega)) (kg rfl (kG (by omega)) ?_))))))))))))
   refine zH [(2,U.box 0 0),(7,.int .i64 x),(8,.lst .ro 1 (zE L)),(9,.int .i64 ↑(List.length L)),(10,.int .i64 ↑i),(17,U.bool (decide (x≤p)))] [] ([SB.box (Bk.cs b)]) (.n6 rfl) rfl rfl fun fr=>?_
   refine kg rfl (kG (by omega)) (zg rfl rfl (kG (by omega)) ?_)
   refine zA rfl (ke rfl (ke rfl (ke rfl (ke rfl (ke rfl (ke rfl ?_))))))
   refine zH [(2,U.box 0 0),(7,.int .i64 x),(8,.lst .ro 1 (zE L)),(9,.int .i64 ↑(List.length L)),(10,.int .i64 ↑i),(25,.bool true)] [] ([SB.box (Bk.cs b)]) (.n6 rfl) rfl rfl fun fr=>?_
   refine ke rfl (kF rfl ?_)
   refine zC ?_
   refine zF [(2,U.box 0 0),(7,.int .i64 x),(8,.lst .ro 1 (zE L)),(9,.int .i64 ↑(List.length L)),(10,.int .i64 ↑i),(33,.bool true)] ([SB.box (Bk.cs b)]) (.n6 rfl) rfl fun fr=>?_
   refine k_cT rfl rfl ?_
   refine kQ (zB rfl (zC (zR ?_)))
   refine⟨.inr rfl,_,.cons _ _ _ _ (.tmp 4) .nil,?_⟩
   exact .refl _
 ·have hd:L.drop i=[]:=List.drop_eq_nil_of_le (by omega)
  rw[hd]at hw
  obtain rfl:z=true:=hw
  refine kQ (kp rfl (zC (k_seq (k_cF rfl (kH (by omega)) (zx (kQ (zB rfl (zC (zR ?_)))))))))
  refine⟨.inr rfl,_,.cons _ _ _ _ (.tmp 4) .nil,?_⟩
  exact .refl _
end Go.Proofs.YtlknfhjfkcboiaaDoor.night
