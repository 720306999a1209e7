import Derived.Test.YtfbmlibilcjlgaaDoorVamT21
set_option linter.unusedVariables false
set_option linter.unusedSimpArgs false
set_option linter.constructorNameAsVariable false
namespace Go.Proofs.YtfbmlibilcjlgaaDoor.drumBounds
open Vam
variable {is:FuncId→Bool}{orc:Known}{b:Bk}
noncomputable def b57:Code:=(Tryd.f57.body).getD .skip
theorem body57:bodyOf Tryd.prog 57=some (27,b57,[.tmp 4]):=by kernel_rfl
theorem pure57:pureFn Tryd.prog 57=true:=by kernel_rfl
noncomputable def b16:Code:=(Tryd.f16.body).getD .skip
theorem body16:bodyOf Tryd.prog 16=some (19,b16,[.tmp 4,.tmp 5]):=by kernel_rfl
theorem pure16:pureFn Tryd.prog 16=true:=by kernel_rfl
set_option maxHeartbeats 8000000 in
theorem ret56(hi:Off is)(hb:BOk b)(L:List Int):RetP Tryd.prog is orc 56 [b.u,.lst .ro 1 (zG L)] (.bool (zBi b L)):=by
 refine zk body56 pure56 (hi 56 (by decide)) rfl rfl (yM (yK b 4) (zr 6 .ro (fun h=>by cases h) 1 L)) (.inl (.bool _ _)) ?_
 have hpa:=hb.pa
 have hst:=hb.st
 by_cases hlen:(L.length:Int)=b.parts
 ·obtain⟨x0,hx0⟩:∃x,L[0]? =some x:=⟨L[0]'(by omega),List.getElem?_eq_getElem (by omega)⟩
  have k10:decide ((L.length:Int)≠b.parts)=false:=decide_eq_false (fun h=>h hlen)
  by_cases h0:x0=b.start
  ·have k17:decide (x0≠b.start)=false:=decide_eq_false (fun h=>h h0)
   have hs0:stB b L 0=true:=by
    unfold stB rl2 rl3
    rw[hx0]
    simp only[Bool.and_eq_true,Bool.or_eq_true,decide_eq_true_eq,Option.getD_some]
    exact⟨zBn.2 (by omega),.inr h0,.inl trivial⟩
   refine kQ (zc rfl rfl (zB rfl (zA ?_)))
   refine zH [(1,.lst .ro 1 (zG L)),(2,U.box 0 0)] ([SB.box (Bk.cs b)]) (.cons rfl (.cons rfl (.nil rfl))) rfl fun fr=>?_
   refine k_seq (k_seq (yL [.plain,.read true,.plain,.read true,.plain,.plain,.plain,.plain,.read true,.plain,.read true,.plain,.plain] (by kernel_rfl) (by kernel_rfl) (by kernel_rfl) ?_))
   refine zD (zC rfl (zA rfl)) (zR rfl (yF rfl ty22 rfl (List.length_map _) (zA rfl)) ?_)
   refine zD (zE rfl rfl wU (zA rfl)) ?_
   refine zR rfl (zF rfl rfl rfl sh3 rfl (zA rfl)) (zD (wC rfl rfl rfl (zA rfl)) ?_)
   refine zD (zC rfl (zA rfl)) (d_gD rfl rfl rfl rfl (by assumption) ?_)
   refine zD (zC rfl (zA rfl)) (d_gD rfl rfl rfl rfl (by assumption) ?_)
   refine zD (yD (u:=.int .i64 (x0)) rfl ty22 rfl rfl (Int.natCast_nonneg _) (by simp[hx0]) cl3 (zA rfl)) ?_
   refine d_gD rfl rfl rfl rfl (by assumption) ?_
   refine zR rfl (zT rfl rfl sh3 rfl (zA rfl)) ?_
   refine yI [(1,.lst .ro 1 (zG L)),(2,U.box 0 0),(11,U.bool (decide (↑(List.length L)≠Bk.parts b))),(14,.int .i64 x0)] [] ([SB.box (Bk.cs b)]) (.c4 rfl rfl rfl rfl (.nil rfl)) rfl rfl fun fr=>?_
   refine d_gD rfl rfl rfl rfl (by assumption) ?_
   refine yI [(1,.lst .ro 1 (zG L)),(2,U.box 0 0),(11,U.bool (decide (↑(List.length L)≠Bk.parts b))),(14,.int .i64 x0)] [] ([SB.box (Bk.cs b)]) (.c4 rfl rfl rfl rfl (.nil rfl)) rfl rfl fun fr=>?_
   refine zD (zE rfl rfl zEp (zA rfl)) ?_
   refine d_gD rfl rfl rfl rfl (by assumption) ?_
   refine zR rfl (zF rfl rfl rfl sh3 rfl (zA rfl)) (d_gD rfl rfl rfl rfl (by assumption) ?_)
   refine zD (wC rfl rfl rfl (zA rfl)) ?_
   refine zD (zN rfl rfl (by assumption) (zA rfl)) ?_
   refine yw ?_
   refine zH [(1,.lst .ro 1 (zG L)),(18,U.bool (decide (x0≠Bk.start b)))] ([SB.box (Bk.cs b)]) (.cons rfl (.cons rfl (.nil rfl))) rfl fun fr=>?_
   refine k_cF rfl (by assumption) (zQ (k_seq (kQ (zB rfl (zA (zL ?_))))))
   refine yh (fun kk s2=>∃i:Nat,kk+i=L.length∧1≤i∧(∀k,k<i→stB b L k=true)∧s2.st=[.box (Bk.cs b)]∧Holds s2 [(1,.lst .ro 1 (zG L)),(5,.int .i64 i)]) (fun kk s2 hI=>?_) (L.length - 1) _ ⟨1,by omega,Nat.le_refl _,fun k hk=>(show 0=k by omega) ▸ hs0,rfl,.cons rfl (.cons rfl (.nil rfl))⟩
   obtain⟨i,hk,hi1,hall,hst2,hs2⟩:=hI
   refine zH _ _ hs2 hst2 fun fr2=>?_
   by_cases hin:i<L.length
   ·obtain⟨x,hx⟩:∃x,L[i]? =some x:=⟨L[i],List.getElem?_eq_getElem hin⟩
    obtain⟨w,hw⟩:∃w,L[i - 1]? =some w:=⟨L[i - 1]'(by omega),List.getElem?_eq_getElem (by omega)⟩
    have hwr:=st_rg hall (by omega) w (List.mem_iff_getElem?.2 ⟨i - 1,by rw[List.getElem?_take,if_pos (by omega)];exact hw⟩)
    have q52:=zFQ (orc:=orc) hi x 0 3
    have hsi:stB b L i=(inS 0 3 x&&(rl2 b i x&&decide (zCe w x≤1))):=by
     unfold stB rl3
     rw[hx,hw,decide_eq_false (by omega),Bool.false_or];rfl
    have h2:rl2 b i x=true:=by unfold rl2;rw[decide_eq_true (by omega)];rfl
    rw[h2,Bool.true_and]at hsi
    cases hz:inS 0 3 x with
    |false=>
     rw[hz]at q52 hsi
     rw[zFa hin hsi]
     refine k_seq (kQ (zC rfl (zC rfl (yF rfl ty22 rfl (List.length_map _) ?_))))
     refine zf rfl rfl rfl (zA (k_cT rfl (decide_eq_true (by omega)) (zQ (k_seq (zL (k_seq (yL [.plain,.plain,.plain,.plain,.plain,.plain,.plain,.plain,.plain,.plain,.read true,.plain,.plain,.plain,.plain,.read true,.plain,.plain,.plain,.plain] (by kernel_rfl) (by kernel_rfl) (by kernel_rfl) ?_)))))))
     refine zD (zC rfl (zA rfl)) (zD (zC rfl (zA rfl)) (zD (yD (u:=.int .i64 (x)) rfl ty22 rfl rfl (Int.natCast_nonneg _) (by simp[hx]) cl3 (zA rfl)) ?_))
     refine zD (zT rfl rfl sh3 rfl (zA rfl)) ?_
     refine zD (zP rfl (q52) (.lrefl _) (zA rfl)) ?_
     refine zD (yu rfl rfl (zA rfl)) ?_
     refine zD (zC rfl (zA rfl)) (d_gS rfl rfl rfl rfl rfl (d_gS rfl rfl rfl rfl rfl ?_))
     refine yI [(1,.lst .ro 1 (zG L)),(5,.int .i64 ↑i),(31,U.bool !Bool.false),(32,U.tup []),(33,U.tup [])] [] ([SB.box (Bk.cs b)]) (.c4 rfl rfl rfl rfl (.cons rfl (.nil rfl))) rfl rfl fun fr=>?_
     refine d_gS rfl rfl rfl rfl rfl (d_gS rfl rfl rfl rfl rfl (d_gS rfl rfl rfl rfl rfl (d_gS rfl rfl rfl rfl rfl (d_gS rfl rfl rfl rfl rfl (d_gS rfl rfl rfl rfl rfl (d_gS rfl rfl rfl rfl rfl (d_gS rfl rfl rfl rfl rfl (d_gS rfl rfl rfl rfl rfl ?_))))))))
     refine yI [(1,.lst .ro 1 (zG L)),(5,.int .i64 ↑i),(31,U.bool !Bool.false),(32,U.tup []),(33,U.tup []),(34,U.tup []),(35,U.tup []),(36,U.tup []),(37,U.tup []),(38,U.tup []),(39,U.tup []),(40,U.tup []),(41,U.tup []),(42,U.tup [])] [] ([SB.box (Bk.cs b)]) (.c4 rfl rfl rfl rfl (.c4 rfl rfl rfl rfl (.c4 rfl rfl rfl rfl (.cons rfl (.cons rfl (.nil rfl)))))) rfl rfl fun fr=>?_
     refine d_gS rfl rfl rfl rfl rfl (zD (za rfl rfl rfl (zA rfl)) ?_)
     refine yw ?_
     refine zH [(1,.lst .ro 1 (zG L)),(5,.int .i64 ↑i),(32,U.tup []),(33,U.tup []),(34,U.tup []),(35,U.tup []),(36,U.tup []),(37,U.tup []),(38,U.tup []),(39,U.tup []),(40,U.tup []),(41,U.tup []),(42,U.tup []),(43,U.tup []),(44,.bool true)] ([SB.box (Bk.cs b)]) (.c4 rfl rfl rfl rfl (.c4 rfl rfl rfl rfl (.c4 rfl rfl rfl rfl (.cons rfl (.cons rfl (.cons rfl (.nil rfl))))))) rfl fun fr=>?_
     refine k_cT rfl rfl ?_
     refine kQ (zB rfl (zA (zU ?_)))
     refine⟨.inr rfl,_,.cons _ _ _ _ (.tmp 4) .nil,?_⟩
     exact .refl _
    |true=>
     rw[hz,Bool.true_and]at hsi
     rw[hz]at q52
     have hxr:=zBn.1 hz
     have q87:=ret87 (orc:=orc) hi (x - w) (by omega)
     have es:zCe w x=max (x - w) (-(x - w)):=by unfold zCe;rw[show -(x - w)=w - x by omega]
     rw[es]at hsi
     by_cases h3:max (x - w) (-(x - w))≤1
     ·rw[decide_eq_true h3]at hsi
      have k43:decide (max (x - w) (-(x - w)) > 1)=false:=decide_eq_false (by omega)
      generalize hm:max (x - w) (-(x - w))=m at*
      refine k_seq (kQ (zC rfl (zC rfl (yF rfl ty22 rfl (List.length_map _) ?_))))
      refine zf rfl rfl rfl (zA (k_cT rfl (decide_eq_true (by omega)) (zQ (k_seq (zL (k_seq (yL [.plain,.plain,.plain,.plain,.plain,.plain,.plain,.plain,.plain,.plain,.read true,.plain,.plain,.plain,.plain,.read true,.plain,.plain,.plain,.plain] (by kernel_rfl) (by kernel_rfl) (by kernel_rfl) ?_)))))))
      refine zD (zC rfl (zA rfl)) (zD (zC rfl (zA rfl)) (zD (yD (u:=.int .i64 (x)) rfl ty22 rfl rfl (Int.natCast_nonneg _) (by simp[hx]) cl3 (zA rfl)) ?_))
      refine zD (zT rfl rfl sh3 rfl (zA rfl)) ?_
      refine zD (zP rfl (q52) (.lrefl _) (zA rfl)) ?_
      refine zD (yu rfl rfl (zA rfl)) ?_
      refine zD (zC rfl (zA rfl)) (d_gD rfl rfl rfl rfl rfl (zD (zC rfl (zA rfl)) (d_gD rfl rfl rfl rfl rfl (zD (zC rfl (zA rfl)) ?_))))
      refine yI [(1,.lst .ro 1 (zG L)),(5,.int .i64 ↑i),(31,U.bool !Bool.true),(32,.lst .ro 1 (zG L)),(33,.int .i64 ↑i)] [] ([SB.box (Bk.cs b)]) (.c4 rfl rfl rfl rfl (.cons rfl (.nil rfl))) rfl rfl fun fr=>?_
      refine d_gD rfl rfl rfl rfl rfl ?_
      refine yI [(1,.lst .ro 1 (zG L)),(5,.int .i64 ↑i),(31,U.bool !Bool.true),(32,.lst .ro 1 (zG L)),(33,.int .i64 ↑i)] [] ([SB.box (Bk.cs b)]) (.c4 rfl rfl rfl rfl (.cons rfl (.nil rfl))) rfl rfl fun fr=>?_
      refine zD (yD (u:=.int .i64 (x)) rfl ty22 rfl rfl (Int.natCast_nonneg _) (by simp[hx]) cl3 (zA rfl)) ?_
      refine d_gD rfl rfl rfl rfl rfl (zR rfl (zT rfl rfl sh3 rfl (zA rfl)) ?_)
      refine d_gD rfl rfl rfl rfl rfl (zD (zC rfl (zA rfl)) (d_gD rfl rfl rfl rfl rfl (zD (zC rfl (zA rfl)) (d_gD rfl rfl rfl rfl rfl ?_))))
      refine zD (yn rfl rfl rfl (by unfold I64;omega) (zA rfl)) ?_
      refine d_gD rfl rfl rfl rfl rfl ?_
      refine zD (yD (u:=.int .i64 w) rfl ty22 rfl rfl (by omega) (by rw[show((i:Int) - 1).toNat=i - 1 by omega];simp[hw]) cl3 (zA rfl)) ?_
      refine d_gD rfl rfl rfl rfl rfl (zR rfl (zT rfl rfl sh3 rfl (zA rfl)) ?_)
      refine d_gD rfl rfl rfl rfl rfl ?_
      refine zD (yn rfl rfl rfl (by unfold I64;omega) (zA rfl)) ?_
      refine d_gD rfl rfl rfl rfl rfl (zD (zP rfl (q87) (.lrefl _) (zA rfl)) ?_)
      refine yI [(1,.lst .ro 1 (zG L)),(5,.int .i64 ↑i),(31,U.bool !Bool.true),(32,.lst .ro 1 (zG L)),(33,.int .i64 ↑i),(34,U.eref [.int .i64 x] 0),(35,.int .i64 x),(36,.lst .ro 1 (zG L)),(37,.int .i64 ↑i),(38,.int .i64 (↑i - (1:Int))),(39,U.eref [.int .i64 w] 0),(40,.int .i64 w),(41,.int .i64 (x - w)),(42,.int .i64 m)] [] ([SB.box (Bk.cs b)]) (.c4 rfl rfl rfl rfl (.c4 rfl rfl rfl rfl (.c4 rfl rfl rfl rfl (.cons rfl (.cons rfl (.nil rfl)))))) rfl rfl fun fr=>?_
      refine d_gD rfl rfl rfl rfl rfl ?_
      refine yI [(1,.lst .ro 1 (zG L)),(5,.int .i64 ↑i),(31,U.bool !Bool.true),(32,.lst .ro 1 (zG L)),(33,.int .i64 ↑i),(34,U.eref [.int .i64 x] 0),(35,.int .i64 x),(36,.lst .ro 1 (zG L)),(37,.int .i64 ↑i),(38,.int .i64 (↑i - (1:Int))),(39,U.eref [.int .i64 w] 0),(40,.int .i64 w),(41,.int .i64 (x - w)),(42,.int .i64 m)] [] ([SB.box (Bk.cs b)]) (.c4 rfl rfl rfl rfl (.c4 rfl rfl rfl rfl (.c4 rfl rfl rfl rfl (.cons rfl (.cons rfl (.nil rfl)))))) rfl rfl fun fr=>?_
      refine zD (zBj rfl rfl rfl (zA rfl)) ?_
      refine zD (zN rfl rfl rfl (zA rfl)) ?_
      refine yw ?_
      refine zH [(1,.lst .ro 1 (zG L)),(5,.int .i64 ↑i),(32,.lst .ro 1 (zG L)),(33,.int .i64 ↑i),(34,U.eref [.int .i64 x] 0),(35,.int .i64 x),(36,.lst .ro 1 (zG L)),(37,.int .i64 ↑i),(38,.int .i64 (↑i - (1:Int))),(39,U.eref [.int .i64 w] 0),(40,.int .i64 w),(41,.int .i64 (x - w)),(42,.int .i64 m),(43,U.bool (decide ((1:Int)<m))),(44,U.bool (decide ((1:Int)<m)))] ([SB.box (Bk.cs b)]) (.c4 rfl rfl rfl rfl (.c4 rfl rfl rfl rfl (.c4 rfl rfl rfl rfl (.cons rfl (.cons rfl (.cons rfl (.nil rfl))))))) rfl fun fr=>?_
      refine k_cF rfl (by assumption) (zQ (k_region (zC rfl ?_)))
      refine yO rfl rfl rfl (by unfold I64;omega) (zB rfl (zA ?_))
      exact⟨kk - 1,by omega,i+1,by omega,by omega,fun k hk=>(Nat.lt_or_ge k i).elim (fun h2=>hall k h2) (fun h2=>(show i=k by omega) ▸ hsi),rfl,.cons rfl (.cons rfl (.nil rfl))⟩
     ·rw[decide_eq_false h3]at hsi
      rw[zFa hin hsi]
      have k43:decide (max (x - w) (-(x - w)) > 1)=true:=decide_eq_true (by omega)
      generalize hm:max (x - w) (-(x - w))=m at*
      refine k_seq (kQ (zC rfl (zC rfl (yF rfl ty22 rfl (List.length_map _) ?_))))
      refine zf rfl rfl rfl (zA (k_cT rfl (decide_eq_true (by omega)) (zQ (k_seq (zL (k_seq (yL [.plain,.plain,.plain,.plain,.plain,.plain,.plain,.plain,.plain,.plain,.read true,.plain,.plain,.plain,.plain,.read true,.plain,.plain,.plain,.plain] (by kernel_rfl) (by kernel_rfl) (by kernel_rfl) ?_)))))))
      refine zD (zC rfl (zA rfl)) (zD (zC rfl (zA rfl)) (zD (yD (u:=.int .i64 (x)) rfl ty22 rfl rfl (Int.natCast_nonneg _) (by simp[hx]) cl3 (zA rfl)) ?_))
      refine zD (zT rfl rfl sh3 rfl (zA rfl)) ?_
      refine zD (zP rfl (q52) (.lrefl _) (zA rfl)) ?_
      refine zD (yu rfl rfl (zA rfl)) ?_
      refine zD (zC rfl (zA rfl)) (d_gD rfl rfl rfl rfl rfl (zD (zC rfl (zA rfl)) (d_gD rfl rfl rfl rfl rfl (zD (zC rfl (zA rfl)) ?_))))
      refine yI [(1,.lst .ro 1 (zG L)),(5,.int .i64 ↑i),(31,U.bool !Bool.true),(32,.lst .ro 1 (zG L)),(33,.int .i64 ↑i)] [] ([SB.box (Bk.cs b)]) (.c4 rfl rfl rfl rfl (.cons rfl (.nil rfl))) rfl rfl fun fr=>?_
      refine d_gD rfl rfl rfl rfl rfl ?_
      refine yI [(1,.lst .ro 1 (zG L)),(5,.int .i64 ↑i),(31,U.bool !Bool.true),(32,.lst .ro 1 (zG L)),(33,.int .i64 ↑i)] [] ([SB.box (Bk.cs b)]) (.c4 rfl rfl rfl rfl (.cons rfl (.nil rfl))) rfl rfl fun fr=>?_
      refine zD (yD (u:=.int .i64 (x)) rfl ty22 rfl rfl (Int.natCast_nonneg _) (by simp[hx]) cl3 (zA rfl)) ?_
      refine d_gD rfl rfl rfl rfl rfl (zR rfl (zT rfl rfl sh3 rfl (zA rfl)) ?_)
      refine d_gD rfl rfl rfl rfl rfl (zD (zC rfl (zA rfl)) (d_gD rfl rfl rfl rfl rfl (zD (zC rfl (zA rfl)) (d_gD rfl rfl rfl rfl rfl ?_))))
      refine zD (yn rfl rfl rfl (by unfold I64;omega) (zA rfl)) ?_
      refine d_gD rfl rfl rfl rfl rfl ?_
      refine zD (yD (u:=.int .i64 w) rfl ty22 rfl rfl (by omega) (by rw[show((i:Int) - 1).toNat=i - 1 by omega];simp[hw]) cl3 (zA rfl)) ?_
      refine d_gD rfl rfl rfl rfl rfl (zR rfl (zT rfl rfl sh3 rfl (zA rfl)) ?_)
      refine d_gD rfl rfl rfl rfl rfl ?_
      refine zD (yn rfl rfl rfl (by unfold I64;omega) (zA rfl)) ?_
      refine d_gD rfl rfl rfl rfl rfl (zD (zP rfl (q87) (.lrefl _) (zA rfl)) ?_)
      refine yI [(1,.lst .ro 1 (zG L)),(5,.int .i64 ↑i),(31,U.bool !Bool.true),(32,.lst .ro 1 (zG L)),(33,.int .i64 ↑i),(34,U.eref [.int .i64 x] 0),(35,.int .i64 x),(36,.lst .ro 1 (zG L)),(37,.int .i64 ↑i),(38,.int .i64 (↑i - (1:Int))),(39,U.eref [.int .i64 w] 0),(40,.int .i64 w),(41,.int .i64 (x - w)),(42,.int .i64 m)] [] ([SB.box (Bk.cs b)]) (.c4 rfl rfl rfl rfl (.c4 rfl rfl rfl rfl (.c4 rfl rfl rfl rfl (.cons rfl (.cons rfl (.nil rfl)))))) rfl rfl fun fr=>?_
      refine d_gD rfl rfl rfl rfl rfl ?_
      refine yI [(1,.lst .ro 1 (zG L)),(5,.int .i64 ↑i),(31,U.bool !Bool.true),(32,.lst .ro 1 (zG L)),(33,.int .i64 ↑i),(34,U.eref [.int .i64 x] 0),(35,.int .i64 x),(36,.lst .ro 1 (zG L)),(37,.int .i64 ↑i),(38,.int .i64 (↑i - (1:Int))),(39,U.eref [.int .i64 w] 0),(40,.int .i64 w),(41,.int .i64 (x - w)),(42,.int .i64 m)] [] ([SB.box (Bk.cs b)]) (.c4 rfl rfl rfl rfl (.c4 rfl rfl rfl rfl (.c4 rfl rfl rfl rfl (.cons rfl (.cons rfl (.nil rfl)))))) rfl rfl fun fr=>?_
      refine zD (zBj rfl rfl rfl (zA rfl)) ?_
      refine zD (zN rfl rfl rfl (zA rfl)) ?_
      refine yw ?_
      refine zH [(1,.lst .ro 1 (zG L)),(5,.int .i64 ↑i),(32,.lst .ro 1 (zG L)),(33,.int .i64 ↑i),(34,U.eref [.int .i64 x] 0),(35,.int .i64 x),(36,.lst .ro 1 (zG L)),(37,.int .i64 ↑i),(38,.int .i64 (↑i - (1:Int))),(39,U.eref [.int .i64 w] 0),(40,.int .i64 w),(41,.int .i64 (x - w)),(42,.int .i64 m),(43,U.bool (decide ((1:Int)<m))),(44,U.bool (decide ((1:Int)<m)))] ([SB.box (Bk.cs b)]) (.c4 rfl rfl rfl rfl (.c4 rfl rfl rfl rfl (.c4 rfl rfl rfl rfl (.cons rfl (.cons rfl (.cons rfl (.nil rfl))))))) rfl fun fr=>?_
      refine k_cT rfl (by assumption) (kQ (zB rfl (zA (zU ?_))))
      refine⟨.inr rfl,_,.cons _ _ _ _ (.tmp 4) .nil,?_⟩
      exact .refl _
      done
   ·rw[st_true hlen (fun k hk=>hall k (by omega))]
    refine k_seq (kQ (zC rfl (zC rfl (yF rfl ty22 rfl (List.length_map _) ?_))))
    refine zf rfl rfl rfl (zA (k_cF rfl (decide_eq_false (by omega)) (yP (kQ (zB rfl (zA (zU ?_)))))))
    refine⟨.inr rfl,_,.cons _ _ _ _ (.tmp 4) .nil,?_⟩
    exact .refl _
  ·have k17:decide (x0≠b.start)=true:=decide_eq_true h0
   have hs0:stB b L 0=false:=by
    unfold stB rl2
    rw[hx0]
    simp[h0]
   rw[zFa (by omega) hs0]
   refine kQ (zc rfl rfl (zB rfl (zA ?_)))
   refine zH [(1,.lst .ro 1 (zG L)),(2,U.box 0 0)] ([SB.box (Bk.cs b)]) (.cons rfl (.cons rfl (.nil rfl))) rfl fun fr=>?_
   refine k_seq (k_seq (yL [.plain,.read true,.plain,.read true,.plain,.plain,.plain,.plain,.read true,.plain,.read true,.plain,.plain] (by kernel_rfl) (by kernel_rfl) (by kernel_rfl) ?_))
   refine zD (zC rfl (zA rfl)) (zR rfl (yF rfl ty22 rfl (List.length_map _) (zA rfl)) ?_)
   refine zD (zE rfl rfl wU (zA rfl)) ?_
   refine zR rfl (zF rfl rfl rfl sh3 rfl (zA rfl)) (zD (wC rfl rfl rfl (zA rfl)) ?_)
   refine zD (zC rfl (zA rfl)) (d_gD rfl rfl rfl rfl (by assumption) ?_)
   refine zD (zC rfl (zA rfl)) (d_gD rfl rfl rfl rfl (by assumption) ?_)
   refine zD (yD (u:=.int .i64 (x0)) rfl ty22 rfl rfl (Int.natCast_nonneg _) (by simp[hx0]) cl3 (zA rfl)) ?_
   refine d_gD rfl rfl rfl rfl (by assumption) ?_
   refine zR rfl (zT rfl rfl sh3 rfl (zA rfl)) ?_
   refine yI [(1,.lst .ro 1 (zG L)),(2,U.box 0 0),(11,U.bool (decide (↑(List.length L)≠Bk.parts b))),(14,.int .i64 x0)] [] ([SB.box (Bk.cs b)]) (.c4 rfl rfl rfl rfl (.nil rfl)) rfl rfl fun fr=>?_
   refine d_gD rfl rfl rfl rfl (by assumption) ?_
   refine yI [(1,.lst .ro 1 (zG L)),(2,U.box 0 0),(11,U.bool (decide (↑(List.length L)≠Bk.parts b))),(14,.int .i64 x0)] [] ([SB.box (Bk.cs b)]) (.c4 rfl rfl rfl rfl (.nil rfl)) rfl rfl fun fr=>?_
   refine zD (zE rfl rfl zEp (zA rfl)) ?_
   refine d_gD rfl rfl rfl rfl (by assumption) ?_
   refine zR rfl (zF rfl rfl rfl sh3 rfl (zA rfl)) (d_gD rfl rfl rfl rfl (by assumption) ?_)
   refine zD (wC rfl rfl rfl (zA rfl)) ?_
   refine zD (zN rfl rfl (by assumption) (zA rfl)) ?_
   refine yw ?_
   refine zH [(1,.lst .ro 1 (zG L)),(18,U.bool (decide (x0≠Bk.start b)))] ([SB.box (Bk.cs b)]) (.cons rfl (.cons rfl (.nil rfl))) rfl fun fr=>?_
   refine k_cT rfl (by assumption) (kQ (zB rfl (zA (zU ?_))))
   refine⟨.inr rfl,_,.cons _ _ _ _ (.tmp 4) .nil,?_⟩
   exact .refl _
   done
 ·have k10:decide ((L.length:Int)≠b.parts)=true:=decide_eq_true hlen
  have hF:zBi b L=false:=by unfold zBi;rw[decide_eq_false hlen,Bool.false_and]
  rw[hF]
  refine kQ (zc rfl rfl (zB rfl (zA ?_)))
  refine zH [(1,.lst .ro 1 (zG L)),(2,U.box 0 0)] ([SB.box (Bk.cs b)]) (.cons rfl (.cons rfl (.nil rfl))) rfl fun fr=>?_
  refine k_seq (k_seq (yL [.plain,.read true,.plain,.read true,.plain,.plain,.plain,.plain,.read true,.plain,.read true,.plain,.plain] (by kernel_rfl) (by kernel_rfl) (by kernel_rfl) ?_))
  refine zD (zC rfl (zA rfl)) (zR rfl (yF rfl ty22 rfl (List.length_map _) (zA rfl)) ?_)
  refine zD (zE rfl rfl wU (zA rfl)) ?_
  refine zR rfl (zF rfl rfl rfl sh3 rfl (zA rfl)) (zD (wC rfl rfl rfl (zA rfl)) ?_)
  refine zD (zC rfl (zA rfl)) (d_gS rfl rfl rfl rfl (by assumption) ?_)
  refine d_gS rfl rfl rfl rfl (by assumption) ?_
  refine d_gS rfl rfl rfl rfl (by assumption) ?_
  refine yI [(1,.lst .ro 1 (zG L)),(2,U.box 0 0),(11,U.bool (decide (↑(List.length L)≠Bk.parts b))),(14,U.tup [])] [] ([SB.box (Bk.cs b)]) (.c4 rfl rfl rfl rfl (.nil rfl)) rfl rfl fun fr=>?_
  refine d_gS rfl rfl rfl rfl (by assumption) ?_
  refine d_gS rfl rfl rfl rfl (by assumption) ?_
  refine d_gS rfl rfl rfl rfl (by assumption) ?_
  refine zD (za rfl rfl (by assumption) (zA rfl)) ?_
  refine yw ?_
  refine zH [(1,.lst .ro 1 (zG L)),(18,.bool true)] ([SB.box (Bk.cs b)]) (.cons rfl (.cons rfl (.nil rfl))) rfl fun fr=>?_
  refine k_cT rfl rfl ?_
  refine kQ (zB rfl (zA (zU ?_)))
  refine⟨.inr rfl,_,.cons _ _ _ _ (.tmp 4) .nil,?_⟩
  exact .refl _
  done
set_option maxHeartbeats 8000000 in
theorem ret57(hi:Off is)(h:BOk b){L:List Int}(hL:∀x∈L,0≤x∧x≤3)(hn:L.length≤8):RetP Tryd.prog is orc 57 [b.u,.lst .ro 1 (zG L)] (.int .i64 (zAL b L L.length)):=by
 refine zk body57 pure57 (hi 57 (by decide)) rfl rfl (yM (yK b 4) (zr 6 .ro (fun h=>by cases h) 1 L)) (.inl (.int _ _ _)) ?_
 refine kQ (zc rfl rfl (zB rfl (zA ?_)))
 refine zH [(1,.lst .ro 1 (zG L)),(2,U.box 0 0)] ([SB.box (Bk.cs b)]) (.cons rfl (.cons rfl (.nil rfl))) rfl fun fr=>?_
 refine kQ (zB rfl (zA (k_seq (kQ (zB rfl (zA (zL ?_)))))))
 refine yh (fun kk s2=>∃i:Nat,kk+i=L.length∧s2.st=[.box (Bk.cs b)]∧Holds s2 [(1,.lst .ro 1 (zG L)),(2,.box 0 0),(5,.int .i64 (zAL b L i)),(6,.int .i64 i)]) (fun kk s2 hI=>?_) L.length _ ⟨0,by omega,rfl,.c4 rfl rfl rfl rfl (.nil rfl)⟩
 obtain⟨i,hk,hst2,hs2⟩:=hI
 have hl:=lastI_b h hL i
 refine zH _ _ hs2 hst2 fun fr2=>?_
 by_cases hin:i<L.length
 ·obtain⟨x,hx⟩:∃x,L[i]? =some x:=⟨L[i],List.getElem?_eq_getElem hin⟩
  have hxr:=hL x (List.mem_of_getElem? hx)
  obtain⟨hq,hqb⟩:=beat_at h hxr
  have hm:=mul_b h.sz hqb
  have e:zAL b L (i+1)=zAL b L i+b.size*zDp b x:=by show _+b.size*zDp b ((L[i]?).getD 0)=_;rw[hx];rfl
  generalize zDp b x=q at hq hqb hm e
  refine k_seq (kQ (zC rfl (zC rfl (yF rfl ty22 rfl (List.length_map _) ?_))))
  refine zf rfl rfl rfl (zA (k_cT rfl (decide_eq_true (by omega)) (zQ (k_seq (zL (yL [.plain,.plain,.read true,.plain,.read true,.plain,.plain,.plain,.read true,.plain,.read true,.plain,.plain,.plain] (by kernel_rfl) (by kernel_rfl) (by kernel_rfl) ?_))))))
  refine zD (zC rfl (zA rfl)) (zD (zE rfl rfl yZ (zA rfl)) ?_)
  refine zR rfl (zF rfl rfl rfl sh3 rfl (zA rfl)) (zD (zE rfl rfl zCy (zA rfl)) ?_)
  refine zR rfl (zF rfl rfl rfl sh22 rfl (zA rfl)) (zD (zC rfl (zA rfl)) (zD (zC rfl (zA rfl)) (zD (yD (u:=.int .i64 (x)) rfl ty22 rfl rfl (Int.natCast_nonneg _) (by simp[hx]) cl3 (zA rfl)) ?_)))
  refine zR rfl (zT rfl rfl sh3 rfl (zA rfl)) ?_
  refine yI [(1,.lst .ro 1 (zG L)),(2,U.box 0 0),(6,.int .i64 ↑i),(13,.int .i64 (zAL b L i)),(15,.int .i64 (Bk.size b)),(17,.lst .ro 1 (zG (Bk.beats b))),(21,.int .i64 x)] [] ([SB.box (Bk.cs b)]) (.c4 rfl rfl rfl rfl (.cons rfl (.cons rfl (.cons rfl (.nil rfl))))) rfl rfl fun fr=>?_
  refine zD (yD (u:=.int .i64 (q)) rfl ty22 rfl rfl (by omega) (by simp[hq]) cl3 (zA rfl)) ?_
  refine zR rfl (zT rfl rfl sh3 rfl (zA rfl)) ?_
  refine zD (zFR rfl rfl rfl (by unfold I64;omega) (zA rfl)) ?_
  refine zD (yO rfl rfl rfl (by unfold I64;omega) (zA rfl)) ?_
  refine zD (zB rfl (zA rfl)) ?_
  refine yw ?_
  refine zH [(1,.lst .ro 1 (zG L)),(2,U.box 0 0),(5,.int .i64 (zAL b L i+Bk.size b*q)),(6,.int .i64 ↑i)] ([SB.box (Bk.cs b)]) (.c4 rfl rfl rfl rfl (.nil rfl)) rfl fun fr=>?_
  refine k_region (zC rfl ?_)
  refine yO rfl rfl rfl (by unfold I64;omega) (zB rfl (zA ?_))
  exact⟨kk - 1,by omega,i+1,by omega,rfl,.cons rfl (.cons rfl (.cons (by show U.int .i64 _=_;rw[e]) (.cons rfl (.nil rfl))))⟩
 ·have hie:i=L.length:=by omega
  subst hie
  refine k_seq (kQ (zC rfl (zC rfl (yF rfl ty22 rfl (List.length_map _) ?_))))
  refine zf rfl rfl rfl (zA (k_cF rfl (decide_eq_false (by omega)) (yP (kQ (zC rfl (zB rfl (zA (zU ?_))))))))
  refine⟨.inr rfl,_,.cons _ _ _ _ (.tmp 4) .nil,?_⟩
  exact .refl _
  done
theorem ret16(hi:Off is)(b:Bk)(L:List Int):RetP Tryd.prog is orc 16 [b.u,.lst .ro 1 (zG L)] (.tup [.int .i64 (if errI b L=0 then zAL b L L.length else 0),.int .i64 (errI b L)]):=by
 refine zk body16 pure16 (hi 16 (by decide)) rfl rfl (yM (yK b 4) (zr 6 .ro (fun h=>by cases h) 1 L)) (.inr ⟨_,rfl,yM (k:=7) (.int _ _ _) (.int _ _ _)⟩) ?_
 have q18:=ret18 (orc:=orc) hi b
 unfold errI
 by_cases hv:wl b=false
 ·rw[if_pos hv,if_neg (by decide)]
  rw[if_neg (by rw[hv];decide)]at q18
  refine kQ (zc rfl rfl (zB rfl (zB rfl (zA ?_))))
  refine zH [(1,.lst .ro 1 (zG L)),(2,U.box 0 0)] ([SB.box (Bk.cs b)]) (.cons rfl (.cons rfl (.nil rfl))) rfl fun fr=>?_
  refine k_seq (kQ (zJ rfl rfl rfl sh27 rfl (zP rfl (q18) (.lrefl _) (zB rfl (zA (kQ (zC rfl (wC rfl rfl rfl ?_))))))))
  refine zA (k_cT rfl rfl ?_)
  refine kQ (zC rfl (zB rfl (zB rfl (zA (zU ?_)))))
  refine⟨.inr rfl,_,.cons _ _ _ _ (.tmp 4) (.cons _ _ _ _ (.tmp 5) .nil),?_⟩
  exact .refl _
  done
 ·rw[if_neg hv]
  have hv2:wl b=true:=by simpa using hv
  have hb:=(wZ b).1 hv2
  rw[if_pos hv2]at q18
  have q56:=ret56 (orc:=orc) hi hb L
  by_cases hp:zBi b L=false
  ·rw[if_pos hp,if_neg (by decide)]
   rw[hp]at q56
   refine kQ (zc rfl rfl (zB rfl (zB rfl (zA ?_))))
   refine zH [(1,.lst .ro 1 (zG L)),(2,U.box 0 0)] ([SB.box (Bk.cs b)]) (.cons rfl (.cons rfl (.nil rfl))) rfl fun fr=>?_
   refine k_seq (kQ (zJ rfl rfl rfl sh27 rfl (zP rfl (q18) (.lrefl _) (zB rfl (zA (kQ (zC rfl (wC rfl rfl rfl ?_))))))))
   refine zA (k_cF rfl rfl ?_)
   refine zQ (k_seq (kQ (zJ rfl rfl rfl sh27 rfl (zC rfl (zP rfl (q56) (.lrefl _) (yu rfl rfl (zA (k_cT rfl rfl ?_))))))))
   refine kQ (zB rfl (zB rfl (zA (zU ?_))))
   refine⟨.inr rfl,_,.cons _ _ _ _ (.tmp 4) (.cons _ _ _ _ (.tmp 5) .nil),?_⟩
   exact .refl _
   done
  ·rw[if_neg hp,if_pos rfl]
   have hp2:zBi b L=true:=by simpa using hp
   have hok:=(zFj hb).1 hp2
   rw[hp2]at q56
   have q57:=ret57 (orc:=orc) hi hb hok.rg (by have:=hok.len;have:=hb.pa;omega)
   refine kQ (zc rfl rfl (zB rfl (zB rfl (zA ?_))))
   refine zH [(1,.lst .ro 1 (zG L)),(2,U.box 0 0)] ([SB.box (Bk.cs b)]) (.cons rfl (.cons rfl (.nil rfl))) rfl fun fr=>?_
   refine k_seq (kQ (zJ rfl rfl rfl sh27 rfl (zP rfl (q18) (.lrefl _) (zB rfl (zA (kQ (zC rfl (wC rfl rfl rfl ?_))))))))
   refine zA (k_cF rfl rfl ?_)
   refine zQ (k_seq (kQ (zJ rfl rfl rfl sh27 rfl (zC rfl (zP rfl (q56) (.lrefl _) (yu rfl rfl (zA (k_cF rfl rfl ?_))))))))
   refine zQ (kQ (zJ rfl rfl rfl sh27 rfl (zC rfl (zP rfl (q57) (.lrefl _) (zB rfl (zB rfl (zA (zU ?_))))))))
   refine⟨.inr rfl,_,.cons _ _ _ _ (.tmp 4) (.cons _ _ _ _ (.tmp 5) .nil),?_⟩
   exact .refl _
   done
end Go.Proofs.YtfbmlibilcjlgaaDoor.drumBounds
