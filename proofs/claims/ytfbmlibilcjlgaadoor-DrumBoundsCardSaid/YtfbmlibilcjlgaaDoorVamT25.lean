import Derived.Test.YtfbmlibilcjlgaaDoorVamT23
set_option linter.unusedVariables false
set_option linter.unusedSimpArgs false
set_option linter.constructorNameAsVariable false
namespace Go.Proofs.YtfbmlibilcjlgaaDoor.drumBounds
open Vam
variable {is:FuncId→Bool}{orc:Known}{b:Bk}
noncomputable def b22:Code:=(Tryd.f22.body).getD .skip
theorem body22:bodyOf Tryd.prog 22=some (45,b22,[.tmp 4,.tmp 5]):=by kernel_rfl
theorem pure22:pureFn Tryd.prog 22=true:=by kernel_rfl
end Go.Proofs.YtfbmlibilcjlgaaDoor.drumBounds

set_option linter.unusedVariables false
set_option linter.unusedSimpArgs false
set_option linter.constructorNameAsVariable false
namespace Go.Proofs.YtfbmlibilcjlgaaDoor.drumBounds
open Vam
variable {is:FuncId→Bool}{orc:Known}{b:Bk}
def lasL(b:Bk)(L:List Int):List Int:=if errI b L=0 then latS (aftF b true L (b.parts*b.size).toNat) b.players.length else []
set_option maxHeartbeats 8000000 in
theorem ret22(hi:Off is)(b:Bk)(L:List Int):RetP Tryd.prog is orc 22 [b.u,.lst .ro 1 (zG L)] (.tup [.lst .ro 1 (zG (lasL b L)),.int .i64 (errI b L)]):=by
 refine zk body22 pure22 (hi 22 (by decide)) rfl rfl (yM (yK b 4) (zr 6 .ro (fun h=>by cases h) 1 L)) (.inr ⟨_,rfl,yM (k:=7) (zr 5 .ro (fun h=>by cases h) 1 _) (.int _ _ _)⟩) ?_
 have q18:=ret18 (orc:=orc) hi b
 unfold lasL errI
 by_cases hv:wl b=false
 ·rw[if_pos hv,if_neg (by decide)]
  rw[if_neg (by rw[hv];decide)]at q18
  refine kQ (zc rfl rfl (zB rfl (zB rfl (zA ?_))))
  refine zH [(1,.lst .ro 1 (zG L)),(2,U.box 0 0)] ([SB.box (Bk.cs b)]) (.cons rfl (.cons rfl (.nil rfl))) rfl fun fr=>?_
  refine k_seq (kQ (zJ rfl rfl rfl sh27 rfl (zP rfl (q18) (.lrefl _) (zB rfl (zA (kQ (zC rfl (wC rfl rfl rfl ?_))))))))
  refine zA (k_cT rfl rfl ?_)
  refine kQ (zC rfl (zB rfl (zB rfl (zA (zU ?_)))))
  refine⟨.inr rfl,_,.cons _ _ _ _ (.tmp 4) (.cons _ _ _ _ (.tmp 5) .nil),?_⟩
  exact .tup _ _ (.lcons _ _ _ _ (.nil .full .ro 1) (.lrefl _))
 ·rw[if_neg hv]
  have hv2:wl b=true:=by simpa using hv
  have hb:=(wZ b).1 hv2
  rw[if_pos hv2]at q18
  have q56:=ret56 (orc:=orc) hi hb L
  by_cases hp:zBi b L=false
  ·rw[if_pos hp,if_neg (by decide)]
   rw[hp]at q56
   refine kQ (zc rfl rfl (zB rfl (zB rfl (zA ?_))))
   refine zH [(1,.lst .ro 1 (zG L)),(2,U.box 0 0)] ([SB.box (Bk.cs b)]) (.cons rfl (.cons rfl (.nil rfl))) rfl fun fr=>?_
   refine k_seq (kQ (zJ rfl rfl rfl sh27 rfl (zP rfl (q18) (.lrefl _) (zB rfl (zA (kQ (zC rfl (wC rfl rfl rfl ?_))))))))
   refine zA (k_cF rfl rfl ?_)
   refine zQ (k_seq (kQ (zJ rfl rfl rfl sh27 rfl (zC rfl (zP rfl (q56) (.lrefl _) (yu rfl rfl (zA (k_cT rfl rfl ?_))))))))
   refine kQ (zB rfl (zB rfl (zA (zU ?_))))
   refine⟨.inr rfl,_,.cons _ _ _ _ (.tmp 4) (.cons _ _ _ _ (.tmp 5) .nil),?_⟩
   exact .tup _ _ (.lcons _ _ _ _ (.nil .full .ro 1) (.lrefl _))
  ·rw[if_neg hp,if_pos rfl]
   have hp2:zBi b L=true:=by simpa using hp
   have hok:=(zFj hb).1 hp2
   rw[hp2]at q56
   have hps:=toNat_ps hb
   have hmp:=mul_ps hb
   have hpn:=hb.pn
   refine kQ (zc rfl rfl (zB rfl (zB rfl (zA ?_))))
   refine zH [(1,.lst .ro 1 (zG L)),(2,U.box 0 0)] ([SB.box (Bk.cs b)]) (.cons rfl (.cons rfl (.nil rfl))) rfl fun fr=>?_
   refine k_seq (kQ (zJ rfl rfl rfl sh27 rfl (zP rfl (q18) (.lrefl _) (zB rfl (zA (kQ (zC rfl (wC rfl rfl rfl ?_))))))))
   refine zA (k_cF rfl rfl ?_)
   refine zQ (k_seq (kQ (zJ rfl rfl rfl sh27 rfl (zC rfl (zP rfl (q56) (.lrefl _) (yu rfl rfl (zA (k_cF rfl rfl ?_))))))))
   refine zQ (kQ (zB rfl (zA ?_)))
   refine zH [(1,.lst .ro 1 (zG L)),(2,U.box 0 0),(7,.lst .full 0 [])] ([SB.box (Bk.cs b)]) (.cons rfl (.cons rfl (.cons rfl (.nil rfl)))) rfl fun fr=>?_
   refine k_seq (kQ (zB rfl (zA (zL ?_))))
   refine yh (fun kk s2=>∃(i:Nat) (kd:Kd) (z:Nat),kk+i=b.players.length∧((kd=.full∧z=0∧latS (aftF b true L (b.parts*b.size).toNat) i=[])∨(kd=.own∧z=1))∧s2.st=[.box (Bk.cs b)]∧Holds s2 [(1,.lst .ro 1 (zG L)),(2,.box 0 0),(7,.lst kd z (zG (latS (aftF b true L (b.parts*b.size).toNat) i))),(8,.int .i64 i)]) (fun kk s2 hI=>?_) b.players.length _ ⟨0,.full,0,by omega,.inl ⟨rfl,rfl,rfl⟩,rfl,.c4 rfl rfl rfl rfl (.nil rfl)⟩
   obtain⟨i,kd,z,hk,hkd,hst2,hs2⟩:=hI
   have hlen:=lat_len (aftF b true L (b.parts*b.size).toNat) i
   by_cases hin:i<b.players.length
   ·obtain⟨p,hp1⟩:∃p,b.players[i]? =some p:=⟨b.players[i]'hin,List.getElem?_eq_getElem hin⟩
    have q68:=ret68 (orc:=orc) hi hb hok hp1 (m:=(b.parts*b.size).toNat) (by omega)
    rw[hps]at q68
    have ea:aftF b true L (b.parts*b.size).toNat i=aftI b true L p (b.parts*b.size).toNat:=by unfold aftF;rw[hp1]
    have hsu:latS (aftF b true L (b.parts*b.size).toNat) (i+1)=latS (aftF b true L (b.parts*b.size).toNat) i++(if 0<aftI b true L p (b.parts*b.size).toNat then [(i:Int)]else []):=by rw[←ea];rfl
    generalize aftI b true L p (b.parts*b.size).toNat=v at*
    generalize aftI b false L p (b.parts*b.size).toNat=v0 at*
    generalize latS (aftF b true L (b.parts*b.size).toNat) i=A at*
    by_cases h0:0<v
    ·rw[if_pos h0]at hsu
     have k39:decide (v > 0)=true:=decide_eq_true h0
     rcases hkd with ⟨rfl,rfl,rfl⟩|⟨rfl,rfl⟩
     ·refine zH _ _ hs2 hst2 fun fr2=>?_
      refine k_seq (kQ (zC rfl (zE rfl rfl yd (zF rfl rfl rfl sh25 rfl (yF rfl ty25 rfl (List.length_map _) ?_)))))
      refine zf rfl rfl rfl (zA (k_cT rfl (decide_eq_true (by omega)) (zQ (k_seq (zL (k_seq (yL [.read true,.plain,.plain,.read true,.plain,.plain,.read true,.plain,.read true,.plain,.read true,.plain,.plain,.plain,.plain] (by kernel_rfl) (by kernel_rfl) (by kernel_rfl) ?_)))))))
      refine zR rfl (zJ rfl rfl rfl sh27 rfl (zA rfl)) ?_
      refine zD (zC rfl (zA rfl)) (zD (zE rfl rfl yd (zA rfl)) ?_)
      refine zR rfl (zF rfl rfl rfl sh25 rfl (zA rfl)) (zD (zC rfl (zA rfl)) (zD (yD (u:=(p).u) rfl ty25 rfl rfl (Int.natCast_nonneg _) (by simp[hp1]) cl68 (zA rfl)) ?_))
      refine zR rfl (wJ rfl rfl sh68 rfl (zA rfl)) ?_
      refine zD (zE rfl rfl wU (zA rfl)) ?_
      refine zR rfl (zF rfl rfl rfl sh3 rfl (zA rfl)) ?_
      refine yI [(1,.lst .ro 1 (zG L)),(2,U.box 0 0),(7,.lst .full 0 (zG [])),(8,.int .i64 ↑i),(25,U.agg (Bk.cs b)),(26,.lst .ro 1 (zG L)),(31,U.agg [.int .i64 (Pl.la p),.int .i64 (Pl.lb p),.lst .ro 2 (zu (Pl.cat p))]),(33,.int .i64 (Bk.parts b))] [] ([SB.box (Bk.cs b)]) (.c4 rfl rfl rfl rfl (.c4 rfl rfl rfl rfl (.nil rfl))) rfl rfl fun fr=>?_
      refine zD (zE rfl rfl yZ (zA rfl)) ?_
      refine zR rfl (zF rfl rfl rfl sh3 rfl (zA rfl)) ?_
      refine zD (zFR rfl rfl rfl (by unfold I64;omega) (zA rfl)) ?_
      refine zD (zP rfl (q68) (.lrefl _) (zA rfl)) ?_
      refine zD (o_field1 rfl rfl wc sh3 rfl (zA rfl)) ?_
      refine zD (zBj rfl rfl rfl (zA rfl)) ?_
      refine yw ?_
      refine zH [(1,.lst .ro 1 (zG L)),(2,U.box 0 0),(7,.lst .full 0 (zG [])),(8,.int .i64 ↑i),(39,U.bool (decide ((0:Int)<v)))] ([SB.box (Bk.cs b)]) (.c4 rfl rfl rfl rfl (.cons rfl (.nil rfl))) rfl fun fr=>?_
      refine k_cT rfl (by assumption) (k_region (zC rfl (zC rfl (wb (es:=[.int .i64 ↑i]) rfl ty22 ze3 cl3 rfl rfl rfl rfl rfl rfl rfl rfl ?_))))
      refine zAQ rfl zFB rfl rfl (by simp) (by simp) (by simp[yG,zq,oneU]) (by simp) ?_
      refine zB rfl (zA (k_region (zC rfl ?_)))
      refine yO rfl rfl rfl (by unfold I64;omega) (zB rfl (zA ?_))
      exact⟨kk - 1,by omega,i+1,.own,1,by omega,.inr ⟨rfl,rfl⟩,rfl,.cons rfl (.cons rfl (.cons (by rw[hsu];rfl) (.cons rfl (.nil rfl))))⟩
     ·refine zH _ _ hs2 hst2 fun fr2=>?_
      refine k_seq (kQ (zC rfl (zE rfl rfl yd (zF rfl rfl rfl sh25 rfl (yF rfl ty25 rfl (List.length_map _) ?_)))))
      refine zf rfl rfl rfl (zA (k_cT rfl (decide_eq_true (by omega)) (zQ (k_seq (zL (k_seq (yL [.read true,.plain,.plain,.read true,.plain,.plain,.read true,.plain,.read true,.plain,.read true,.plain,.plain,.plain,.plain] (by kernel_rfl) (by kernel_rfl) (by kernel_rfl) ?_)))))))
      refine zR rfl (zJ rfl rfl rfl sh27 rfl (zA rfl)) ?_
      refine zD (zC rfl (zA rfl)) (zD (zE rfl rfl yd (zA rfl)) ?_)
      refine zR rfl (zF rfl rfl rfl sh25 rfl (zA rfl)) (zD (zC rfl (zA rfl)) (zD (yD (u:=(p).u) rfl ty25 rfl rfl (Int.natCast_nonneg _) (by simp[hp1]) cl68 (zA rfl)) ?_))
      refine zR rfl (wJ rfl rfl sh68 rfl (zA rfl)) ?_
      refine zD (zE rfl rfl wU (zA rfl)) ?_
      refine zR rfl (zF rfl rfl rfl sh3 rfl (zA rfl)) ?_
      refine yI [(1,.lst .ro 1 (zG L)),(2,U.box 0 0),(7,U.lst Kd.own 1 (zG A)),(8,.int .i64 ↑i),(25,U.agg (Bk.cs b)),(26,.lst .ro 1 (zG L)),(31,U.agg [.int .i64 (Pl.la p),.int .i64 (Pl.lb p),.lst .ro 2 (zu (Pl.cat p))]),(33,.int .i64 (Bk.parts b))] [] ([SB.box (Bk.cs b)]) (.c4 rfl rfl rfl rfl (.c4 rfl rfl rfl rfl (.nil rfl))) rfl rfl fun fr=>?_
      refine zD (zE rfl rfl yZ (zA rfl)) ?_
      refine zR rfl (zF rfl rfl rfl sh3 rfl (zA rfl)) ?_
      refine zD (zFR rfl rfl rfl (by unfold I64;omega) (zA rfl)) ?_
      refine zD (zP rfl (q68) (.lrefl _) (zA rfl)) ?_
      refine zD (o_field1 rfl rfl wc sh3 rfl (zA rfl)) ?_
      refine zD (zBj rfl rfl rfl (zA rfl)) ?_
      refine yw ?_
      refine zH [(1,.lst .ro 1 (zG L)),(2,U.box 0 0),(7,U.lst Kd.own 1 (zG A)),(8,.int .i64 ↑i),(39,U.bool (decide ((0:Int)<v)))] ([SB.box (Bk.cs b)]) (.c4 rfl rfl rfl rfl (.cons rfl (.nil rfl))) rfl fun fr=>?_
      refine k_cT rfl (by assumption) (k_region (zC rfl (zC rfl (wb (es:=[.int .i64 ↑i]) rfl ty22 ze3 cl3 rfl rfl rfl rfl rfl rfl rfl rfl ?_))))
      refine zBx 7 rfl zFB rfl rfl rfl (by simp) (by simp) (by simp[yG,zq,oneU]) (by simp at hlen ⊢;omega) ?_
      refine zB rfl (zA (k_region (zC rfl ?_)))
      refine yO rfl rfl rfl (by unfold I64;omega) (zB rfl (zA ?_))
      exact⟨kk - 1,by omega,i+1,.own,1,by omega,.inr ⟨rfl,rfl⟩,rfl,.cons rfl (.cons rfl (.cons (by rw[hsu];simp[zG];rfl) (.cons rfl (.nil rfl))))⟩
    ·rw[if_neg h0,List.append_nil]at hsu
     have k39:decide (v > 0)=false:=decide_eq_false h0
     refine zH _ _ hs2 hst2 fun fr2=>?_
     refine k_seq (kQ (zC rfl (zE rfl rfl yd (zF rfl rfl rfl sh25 rfl (yF rfl ty25 rfl (List.length_map _) ?_)))))
     refine zf rfl rfl rfl (zA (k_cT rfl (decide_eq_true (by omega)) (zQ (k_seq (zL (k_seq (yL [.read true,.plain,.plain,.read true,.plain,.plain,.read true,.plain,.read true,.plain,.read true,.plain,.plain,.plain,.plain] (by kernel_rfl) (by kernel_rfl) (by kernel_rfl) ?_)))))))
     refine zR rfl (zJ rfl rfl rfl sh27 rfl (zA rfl)) ?_
     refine zD (zC rfl (zA rfl)) (zD (zE rfl rfl yd (zA rfl)) ?_)
     refine zR rfl (zF rfl rfl rfl sh25 rfl (zA rfl)) (zD (zC rfl (zA rfl)) (zD (yD (u:=(p).u) rfl ty25 rfl rfl (Int.natCast_nonneg _) (by simp[hp1]) cl68 (zA rfl)) ?_))
     refine zR rfl (wJ rfl rfl sh68 rfl (zA rfl)) ?_
     refine zD (zE rfl rfl wU (zA rfl)) ?_
     refine zR rfl (zF rfl rfl rfl sh3 rfl (zA rfl)) ?_
     refine yI [(1,.lst .ro 1 (zG L)),(2,U.box 0 0),(7,U.lst kd z (zG A)),(8,.int .i64 ↑i),(25,U.agg (Bk.cs b)),(26,.lst .ro 1 (zG L)),(31,U.agg [.int .i64 (Pl.la p),.int .i64 (Pl.lb p),.lst .ro 2 (zu (Pl.cat p))]),(33,.int .i64 (Bk.parts b))] [] ([SB.box (Bk.cs b)]) (.c4 rfl rfl rfl rfl (.c4 rfl rfl rfl rfl (.nil rfl))) rfl rfl fun fr=>?_
     refine zD (zE rfl rfl yZ (zA rfl)) ?_
     refine zR rfl (zF rfl rfl rfl sh3 rfl (zA rfl)) ?_
     refine zD (zFR rfl rfl rfl (by unfold I64;omega) (zA rfl)) ?_
     refine zD (zP rfl (q68) (.lrefl _) (zA rfl)) ?_
     refine zD (o_field1 rfl rfl wc sh3 rfl (zA rfl)) ?_
     refine zD (zBj rfl rfl rfl (zA rfl)) ?_
     refine yw ?_
     refine zH [(1,.lst .ro 1 (zG L)),(2,U.box 0 0),(7,U.lst kd z (zG A)),(8,.int .i64 ↑i),(39,U.bool (decide ((0:Int)<v)))] ([SB.box (Bk.cs b)]) (.c4 rfl rfl rfl rfl (.cons rfl (.nil rfl))) rfl fun fr=>?_
     refine k_cF rfl (by assumption) (zQ (k_region (zC rfl ?_)))
     refine yO rfl rfl rfl (by unfold I64;omega) (zB rfl (zA ?_))
     rw[←hsu]at hkd
     exact⟨kk - 1,by omega,i+1,kd,z,by omega,hkd,rfl,.cons rfl (.cons rfl (.cons (by rw[hsu];rfl) (.cons rfl (.nil rfl))))⟩
   ·have hie:i=b.players.length:=by omega
    subst hie
    generalize latS (aftF b true L (b.parts*b.size).toNat) b.players.length=A at*
    rcases hkd with ⟨rfl,rfl,rfl⟩|⟨rfl,rfl⟩
    ·refine zH _ _ hs2 hst2 fun fr2=>?_
     refine k_seq (kQ (zC rfl (zE rfl rfl yd (zF rfl rfl rfl sh25 rfl (yF rfl ty25 rfl (List.length_map _) ?_)))))
     refine zf rfl rfl rfl (zA (k_cF rfl (decide_eq_false (by omega)) (yP (kQ (zC rfl (zB rfl (zB rfl (zA ?_))))))))
     refine zU ?_
     refine⟨.inr rfl,_,.cons _ _ _ _ (.tmp 4) (.cons _ _ _ _ (.tmp 5) .nil),?_⟩
     exact .tup _ _ (.lcons _ _ _ _ (.nil .full .ro 1) (.lrefl _))
    ·refine zH _ _ hs2 hst2 fun fr2=>?_
     refine k_seq (kQ (zC rfl (zE rfl rfl yd (zF rfl rfl rfl sh25 rfl (yF rfl ty25 rfl (List.length_map _) ?_)))))
     refine zf rfl rfl rfl (zA (k_cF rfl (decide_eq_false (by omega)) (yP (kQ (zC rfl (zB rfl (zB rfl (zA ?_))))))))
     refine zU ?_
     refine⟨.inr rfl,_,.cons _ _ _ _ (.tmp 4) (.cons _ _ _ _ (.tmp 5) .nil),?_⟩
     exact .refl _
     done
end Go.Proofs.YtfbmlibilcjlgaaDoor.drumBounds
