import Derived.Test.YtfbmlibilcjlgaaDoorVamT29
set_option linter.unusedVariables false
set_option linter.unusedSimpArgs false
set_option linter.constructorNameAsVariable false
namespace Go.Proofs.YtfbmlibilcjlgaaDoor.drumBounds
open Vam
variable {is:FuncId→Bool}{orc:Known}{b:Bk}
set_option maxHeartbeats 8000000 in
theorem ret34(hi:Off is)(b:Bk)(L:List Int):RetP Tryd.prog is orc 34 [b.u,.lst .ro 1 (zG L)] (.tup [.lst .ro 2 (zu (cueL b L)),.int .i64 (errI b L)]):=by
 refine zk body34 pure34 (hi 34 (by decide)) rfl rfl (yM (yK b 4) (zr 6 .ro (fun h=>by cases h) 1 L)) (.inr ⟨_,rfl,yM (k:=7) (zBD _ .ro (fun h=>by cases h) 5) (.int _ _ _)⟩) ?_
 have q16:=ret16 (orc:=orc) hi b L
 unfold cueL
 by_cases h:errI b L=0
 ·obtain⟨hb,hp⟩:=zEM.1 h
  rw[h,if_pos rfl]at q16
  rw[if_pos h,h]
  have hlen:=hp.len
  have hpa:=hb.pa
  have hsz:=hb.sz
  have hno:=hb.no
  generalize zAL b L L.length=la at*
  refine kQ (zc rfl rfl (zB rfl (zB rfl (zA ?_))))
  refine zH [(1,.lst .ro 1 (zG L)),(2,U.box 0 0)] ([SB.box (Bk.cs b)]) (.cons rfl (.cons rfl (.nil rfl))) rfl fun fr=>?_
  refine k_seq (kQ (zJ rfl rfl rfl sh27 rfl (zC rfl (zP rfl (q16) (.lrefl _) (zC rfl (zX rfl rfl rfl (zX rfl rfl rfl (zB rfl ?_))))))))
  refine zB rfl (zA (kQ (zC rfl (wC rfl rfl rfl (zA (k_cF rfl rfl ?_))))))
  refine zQ (kQ (zB rfl (zA ?_)))
  refine zH [(1,.lst .ro 1 (zG L)),(2,U.box 0 0),(8,.lst .full 0 [])] ([SB.box (Bk.cs b)]) (.cons rfl (.cons rfl (.cons rfl (.nil rfl)))) rfl fun fr=>?_
  refine k_seq (kQ (zB rfl (zA (zL ?_))))
  refine yh (fun kk s2=>∃(k:Nat) (kd:Kd) (z:Nat),kk+k+1=L.length∧((kd=.full∧z=0∧cuS b L k=[])∨(kd=.own∧z=2))∧s2.st=[.box (Bk.cs b)]∧Holds s2 [(1,.lst .ro 1 (zG L)),(2,.box 0 0),(8,.lst kd z (zu (cuS b L k))),(9,.int .i64 (k+1))]) (fun kk s2 hI=>?_) (L.length - 1) _ ⟨0,.full,0,by omega,.inl ⟨rfl,rfl,rfl⟩,rfl,.c4 rfl rfl rfl rfl (.nil rfl)⟩
  obtain⟨k,kd,z,hk,hkd,hst2,hs2⟩:=hI
  have hcl:=len_cuS b L k
  by_cases hkl:k+1<L.length
  ·obtain⟨x,hx⟩:∃x,L[k]? =some x:=⟨L[k]'(by omega),List.getElem?_eq_getElem (by omega)⟩
   obtain⟨y,hy⟩:∃y,L[k+1]? =some y:=⟨L[k+1]'hkl,List.getElem?_eq_getElem hkl⟩
   have hxr:=hp.rg x (List.mem_of_getElem? hx)
   have hyr:=hp.rg y (List.mem_of_getElem? hy)
   have hnr:=hp.nr k x y hx hy
   have hm:0≤((k:Int)+1)*b.size∧((k:Int)+1)*b.size≤128:=by
    constructor
    ·exact Int.mul_nonneg (by omega) (by omega)
    ·have:=Int.mul_le_mul (show(k:Int)+1≤8 by omega) hsz.2 (by omega) (by omega)
     omega
   have hsu:cuS b L (k+1)=cuS b L k++(if y=x then []else [⟨((k:Int)+1)*b.size - b.notice,y - x⟩]):=by
    show cuS b L k++cuM b k ((L[k]?).getD 0) ((L[k+1]?).getD 0)=_
    rw[hx,hy]
    show _++cuM b k x y=_
    congr 1
    unfold cuM
    by_cases h1:x<y
    ·rw[if_pos h1,if_neg (by omega),if_neg (by omega),show y - x=1 by omega];rfl
    ·rw[if_neg h1]
     by_cases h2:y<x
     ·rw[if_pos h2,if_neg (by omega),show y - x= -1 by omega];rfl
     ·rw[if_neg h2,if_pos (by omega)];rfl
   generalize cuS b L k=A at*
   by_cases he:y=x
   ·rw[if_pos he,List.append_nil]at hsu
    have k34:decide (y≠x)=false:=decide_eq_false (fun h2=>h2 he)
    refine zH _ _ hs2 hst2 fun fr2=>?_
    refine k_seq (kQ (zC rfl (zC rfl (yF rfl ty22 rfl (List.length_map _) ?_))))
    refine zf rfl rfl rfl (zA (k_cT rfl (decide_eq_true (by omega)) (zQ (k_seq (zL (k_seq (yL [.plain,.plain,.plain,.read true,.plain,.plain,.plain,.plain,.read true,.plain] (by kernel_rfl) (by kernel_rfl) (by kernel_rfl) ?_)))))))
    refine zD (zC rfl (zA rfl)) (zD (zC rfl (zA rfl)) ?_)
    refine zD (yD (u:=.int .i64 y) rfl ty22 rfl rfl (by omega) (by rw[show((k:Int)+1).toNat=k+1 by omega];simp[hy]) cl3 (zA rfl)) ?_
    refine zR rfl (zT rfl rfl sh3 rfl (zA rfl)) ?_
    refine zD (zC rfl (zA rfl)) (zD (zC rfl (zA rfl)) ?_)
    refine zD (yn rfl rfl rfl (by unfold I64;omega) (zA rfl)) ?_
    refine zD (yD (u:=.int .i64 x) rfl ty22 rfl rfl (by omega) (by rw[show((k:Int)+1 - 1).toNat=k by omega];simp[hx]) cl3 (zA rfl)) ?_
    refine zR rfl (zT rfl rfl sh3 rfl (zA rfl)) ?_
    refine zD (wC rfl rfl rfl (zA rfl)) ?_
    refine yw ?_
    refine zH [(1,.lst .ro 1 (zG L)),(2,U.box 0 0),(8,U.lst kd z (zu A)),(9,.int .i64 (↑k+(1:Int))),(34,U.bool (decide (y≠x)))] ([SB.box (Bk.cs b)]) (.c4 rfl rfl rfl rfl (.cons rfl (.nil rfl))) rfl fun fr=>?_
    refine k_cF rfl (by assumption) (zQ (k_region (zC rfl ?_)))
    refine yO rfl rfl rfl (by unfold I64;omega) (zB rfl (zA ?_))
    rw[←hsu]at hkd
    exact⟨kk - 1,by omega,k+1,kd,z,by omega,hkd,rfl,.cons rfl (.cons rfl (.cons (by rw[hsu];rfl) (.cons rfl (.nil rfl))))⟩
   ·rw[if_neg he]at hsu
    have k34:decide (y≠x)=true:=decide_eq_true he
    rcases hkd with ⟨rfl,rfl,rfl⟩|⟨rfl,rfl⟩
    ·refine zH _ _ hs2 hst2 fun fr2=>?_
     refine k_seq (kQ (zC rfl (zC rfl (yF rfl ty22 rfl (List.length_map _) ?_))))
     refine zf rfl rfl rfl (zA (k_cT rfl (decide_eq_true (by omega)) (zQ (k_seq (zL (k_seq (yL [.plain,.plain,.plain,.read true,.plain,.plain,.plain,.plain,.read true,.plain] (by kernel_rfl) (by kernel_rfl) (by kernel_rfl) ?_)))))))
     refine zD (zC rfl (zA rfl)) (zD (zC rfl (zA rfl)) ?_)
     refine zD (yD (u:=.int .i64 y) rfl ty22 rfl rfl (by omega) (by rw[show((k:Int)+1).toNat=k+1 by omega];simp[hy]) cl3 (zA rfl)) ?_
     refine zR rfl (zT rfl rfl sh3 rfl (zA rfl)) ?_
     refine zD (zC rfl (zA rfl)) (zD (zC rfl (zA rfl)) ?_)
     refine zD (yn rfl rfl rfl (by unfold I64;omega) (zA rfl)) ?_
     refine zD (yD (u:=.int .i64 x) rfl ty22 rfl rfl (by omega) (by rw[show((k:Int)+1 - 1).toNat=k by omega];simp[hx]) cl3 (zA rfl)) ?_
     refine zR rfl (zT rfl rfl sh3 rfl (zA rfl)) ?_
     refine zD (wC rfl rfl rfl (zA rfl)) ?_
     refine yw ?_
     refine zH [(1,.lst .ro 1 (zG L)),(2,U.box 0 0),(8,.lst .full 0 (zu [])),(9,.int .i64 (↑k+(1:Int))),(34,U.bool (decide (y≠x)))] ([SB.box (Bk.cs b)]) (.c4 rfl rfl rfl rfl (.cons rfl (.nil rfl))) rfl fun fr=>?_
     refine k_cT rfl (by assumption) (yL [.plain,.plain,.plain,.read true,.plain,.plain,.read true,.plain,.plain,.plain,.plain,.read true,.plain,.plain,.plain,.plain,.read true,.plain,.plain,.plain,.plain,.plain] (by kernel_rfl) (by kernel_rfl) (by kernel_rfl) ?_)
     refine zD (zC rfl (zA rfl)) (zD (zC rfl (zA rfl)) (zD (zE rfl rfl yZ (zA rfl)) ?_))
     refine zR rfl (zF rfl rfl rfl sh3 rfl (zA rfl)) ?_
     refine zD (zFR rfl rfl rfl (by unfold I64;omega) (zA rfl)) ?_
     refine zD (zE rfl rfl zCx (zA rfl)) ?_
     refine zR rfl (zF rfl rfl rfl sh3 rfl (zA rfl)) ?_
     refine zD (yn rfl rfl rfl (by unfold I64;omega) (zA rfl)) ?_
     refine zD (zC rfl (zA rfl)) ?_
     refine yI [(1,.lst .ro 1 (zG L)),(2,U.box 0 0),(9,.int .i64 (↑k+(1:Int))),(35,.lst .full 0 (zu [])),(42,.int .i64 ((↑k+(1:Int))*Bk.size b - Bk.notice b)),(43,.lst .ro 1 (zG L))] [] ([SB.box (Bk.cs b)]) (.c4 rfl rfl rfl rfl (.cons rfl (.cons rfl (.nil rfl)))) rfl rfl fun fr=>?_
     refine zD (zC rfl (zA rfl)) ?_
     refine zD (yD (u:=.int .i64 y) rfl ty22 rfl rfl (by omega) (by rw[show((k:Int)+1).toNat=k+1 by omega];simp[hy]) cl3 (zA rfl)) ?_
     refine zR rfl (zT rfl rfl sh3 rfl (zA rfl)) ?_
     refine zD (zC rfl (zA rfl)) (zD (zC rfl (zA rfl)) ?_)
     refine zD (yn rfl rfl rfl (by unfold I64;omega) (zA rfl)) ?_
     refine zD (yD (u:=.int .i64 x) rfl ty22 rfl rfl (by omega) (by rw[show((k:Int)+1 - 1).toNat=k by omega];simp[hx]) cl3 (zA rfl)) ?_
     refine zR rfl (zT rfl rfl sh3 rfl (zA rfl)) ?_
     refine zD (yn rfl rfl rfl (by unfold I64;omega) (zA rfl)) ?_
     refine yI [(1,.lst .ro 1 (zG L)),(2,U.box 0 0),(9,.int .i64 (↑k+(1:Int))),(35,.lst .full 0 (zu [])),(42,.int .i64 ((↑k+(1:Int))*Bk.size b - Bk.notice b)),(52,.int .i64 (y - x))] [] ([SB.box (Bk.cs b)]) (.c4 rfl rfl rfl rfl (.cons rfl (.cons rfl (.nil rfl)))) rfl rfl fun fr=>?_
     refine zD (yp rfl ze73 pl73 rfl rfl (zA rfl)) ?_
     refine zD (wb (es:=[U.agg [.int .i64 ((↑k+(1:Int))*Bk.size b - Bk.notice b),.int .i64 (y - x)]]) rfl ty46 ze73 cl73 rfl rfl rfl rfl rfl rfl rfl rfl (zA rfl)) ?_
     refine zD (zAQ rfl zFA rfl rfl (by simp) (by simp) (by simp[yG,zq,oneU]) (by simp) (zA rfl)) ?_
     refine zD (zB rfl (zA rfl)) ?_
     refine yw ?_
     refine zH [(1,.lst .ro 1 (zG L)),(2,U.box 0 0),(8,U.lst Kd.own 2 [U.agg [.int .i64 ((↑k+(1:Int))*Bk.size b - Bk.notice b),.int .i64 (y - x)]]),(9,.int .i64 (↑k+(1:Int)))] ([SB.box (Bk.cs b)]) (.c4 rfl rfl rfl rfl (.nil rfl)) rfl fun fr=>?_
     refine k_region (zC rfl ?_)
     refine yO rfl rfl rfl (by unfold I64;omega) (zB rfl (zA ?_))
     exact⟨kk - 1,by omega,k+1,.own,2,by omega,.inr ⟨rfl,rfl⟩,rfl,.cons rfl (.cons rfl (.cons (by rw[hsu];rfl) (.cons rfl (.nil rfl))))⟩
    ·refine zH _ _ hs2 hst2 fun fr2=>?_
     refine k_seq (kQ (zC rfl (zC rfl (yF rfl ty22 rfl (List.length_map _) ?_))))
     refine zf rfl rfl rfl (zA (k_cT rfl (decide_eq_true (by omega)) (zQ (k_seq (zL (k_seq (yL [.plain,.plain,.plain,.read true,.plain,.plain,.plain,.plain,.read true,.plain] (by kernel_rfl) (by kernel_rfl) (by kernel_rfl) ?_)))))))
     refine zD (zC rfl (zA rfl)) (zD (zC rfl (zA rfl)) ?_)
     refine zD (yD (u:=.int .i64 y) rfl ty22 rfl rfl (by omega) (by rw[show((k:Int)+1).toNat=k+1 by omega];simp[hy]) cl3 (zA rfl)) ?_
     refine zR rfl (zT rfl rfl sh3 rfl (zA rfl)) ?_
     refine zD (zC rfl (zA rfl)) (zD (zC rfl (zA rfl)) ?_)
     refine zD (yn rfl rfl rfl (by unfold I64;omega) (zA rfl)) ?_
     refine zD (yD (u:=.int .i64 x) rfl ty22 rfl rfl (by omega) (by rw[show((k:Int)+1 - 1).toNat=k by omega];simp[hx]) cl3 (zA rfl)) ?_
     refine zR rfl (zT rfl rfl sh3 rfl (zA rfl)) ?_
     refine zD (wC rfl rfl rfl (zA rfl)) ?_
     refine yw ?_
     refine k_cT rfl (by assumption) (yL [.plain,.plain,.plain,.read true,.plain,.plain,.read true,.plain,.plain,.plain,.plain,.read true,.plain,.plain,.plain,.plain,.read true,.plain,.plain,.plain,.plain,.plain] (by kernel_rfl) (by kernel_rfl) (by kernel_rfl) ?_)
     refine zD (zC rfl (zA rfl)) (zD (zC rfl (zA rfl)) (zD (zE rfl rfl yZ (zA rfl)) ?_))
     refine zR rfl (zF rfl rfl rfl sh3 rfl (zA rfl)) ?_
     refine zD (zFR rfl rfl rfl (by unfold I64;omega) (zA rfl)) ?_
     refine zD (zE rfl rfl zCx (zA rfl)) ?_
     refine zR rfl (zF rfl rfl rfl sh3 rfl (zA rfl)) ?_
     refine zD (yn rfl rfl rfl (by unfold I64;omega) (zA rfl)) ?_
     refine zD (zC rfl (zA rfl)) (zD (zC rfl (zA rfl)) ?_)
     refine zD (yD (u:=.int .i64 y) rfl ty22 rfl rfl (by omega) (by rw[show((k:Int)+1).toNat=k+1 by omega];simp[hy]) cl3 (zA rfl)) ?_
     refine zR rfl (zT rfl rfl sh3 rfl (zA rfl)) ?_
     refine zD (zC rfl (zA rfl)) (zD (zC rfl (zA rfl)) ?_)
     refine zD (yn rfl rfl rfl (by unfold I64;omega) (zA rfl)) ?_
     refine zD (yD (u:=.int .i64 x) rfl ty22 rfl rfl (by omega) (by rw[show((k:Int)+1 - 1).toNat=k by omega];simp[hx]) cl3 (zA rfl)) ?_
     refine zR rfl (zT rfl rfl sh3 rfl (zA rfl)) ?_
     refine zD (yn rfl rfl rfl (by unfold I64;omega) (zA rfl)) ?_
     refine zD (yp rfl ze73 pl73 rfl rfl (zA rfl)) ?_
     refine zD (wb (es:=[U.agg [.int .i64 ((↑k+(1:Int))*Bk.size b - Bk.notice b),.int .i64 (y - x)]]) rfl ty46 ze73 cl73 rfl rfl rfl rfl rfl rfl rfl rfl (zA rfl)) ?_
     refine zD (zBx 8 rfl zFA rfl rfl rfl (by simp) (by simp) (by simp[yG,zq,oneU]) (by simp at hcl ⊢;omega) (zA rfl)) ?_
     refine zD (zB rfl (zA rfl)) ?_
     refine yw ?_
     refine k_region (zC rfl ?_)
     refine yO rfl rfl rfl (by unfold I64;omega) (zB rfl (zA ?_))
     exact⟨kk - 1,by omega,k+1,.own,2,by omega,.inr ⟨rfl,rfl⟩,rfl,.cons rfl (.cons rfl (.cons (by rw[hsu];simp[zu];rfl) (.cons rfl (.nil rfl))))⟩
  ·have hke:k=L.length - 1:=by omega
   subst hke
   generalize cuS b L (L.length - 1)=A at*
   have k22:decide (((L.length - 1:Nat):Int)+1<L.length)=false:=decide_eq_false (by omega)
   rcases hkd with ⟨rfl,rfl,rfl⟩|⟨rfl,rfl⟩
   ·refine zH _ _ hs2 hst2 fun fr2=>?_
    refine k_seq (kQ (zC rfl (zC rfl (yF rfl ty22 rfl (List.length_map _) ?_))))
    refine zf rfl rfl rfl (zA (k_cF rfl (by assumption) (yP (kQ (zC rfl (zB rfl (zB rfl (zA ?_))))))))
    refine zU ?_
    refine⟨.inr rfl,_,.cons _ _ _ _ (.tmp 4) (.cons _ _ _ _ (.tmp 5) .nil),?_⟩
    exact .tup _ _ (.lcons _ _ _ _ (.nil .full .ro 2) (.lrefl _))
   ·refine zH _ _ hs2 hst2 fun fr2=>?_
    refine k_seq (kQ (zC rfl (zC rfl (yF rfl ty22 rfl (List.length_map _) ?_))))
    refine zf rfl rfl rfl (zA (k_cF rfl (by assumption) (yP (kQ (zC rfl (zB rfl (zB rfl (zA ?_))))))))
    refine zU ?_
    refine⟨.inr rfl,_,.cons _ _ _ _ (.tmp 4) (.cons _ _ _ _ (.tmp 5) .nil),?_⟩
    exact .refl _
    done
 ·rw[if_neg h]at q16 ⊢
  generalize errI b L=er at*
  refine kQ (zc rfl rfl (zB rfl (zB rfl (zA ?_))))
  refine zH [(1,.lst .ro 1 (zG L)),(2,U.box 0 0)] ([SB.box (Bk.cs b)]) (.cons rfl (.cons rfl (.nil rfl))) rfl fun fr=>?_
  refine k_seq (kQ (zJ rfl rfl rfl sh27 rfl (zC rfl (zP rfl (q16) (.lrefl _) (zC rfl (zX rfl rfl rfl (zX rfl rfl rfl (zB rfl ?_))))))))
  refine zB rfl (zA (kQ (zC rfl (wC rfl rfl rfl (zA (k_cT rfl (decide_eq_true h) ?_))))))
  refine kQ (zC rfl (zB rfl (zB rfl (zA (zU ?_)))))
  refine⟨.inr rfl,_,.cons _ _ _ _ (.tmp 4) (.cons _ _ _ _ (.tmp 5) .nil),?_⟩
  exact .tup _ _ (.lcons _ _ _ _ (.nil .full .ro 2) (.lrefl _))
end Go.Proofs.YtfbmlibilcjlgaaDoor.drumBounds
