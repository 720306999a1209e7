import Derived.Test.YtfbmlibilcjlgaaDoorVamT14
set_option linter.unusedVariables false
set_option linter.unusedSimpArgs false
set_option linter.constructorNameAsVariable false
namespace Go.Proofs.YtfbmlibilcjlgaaDoor.drumPaths
open Vam
section
variable {is:FuncId→Bool}{orc:Known}{b:Bk}
noncomputable def b3:Code:=(Tryd.f3.body).getD .skip
theorem body3:bodyOf Tryd.prog 3=some (93,b3,[.tmp 6]):=by kernel_rfl
theorem pure3:pureFn Tryd.prog 3=true:=by kernel_rfl
def lasL(b:Bk)(L:List Int):List Int:=if errI b L=0 then latS (aftF b true L (b.parts*b.size).toNat) b.players.length else []
theorem ret21a(hi:Off is)(b:Bk)(L:List Int):RetP Tryd.prog is orc 21 [b.u,.lst .ro 1 (zE L)] (.tup [.lst .ro 1 (zE (lasL b L)),.int .i64 (errI b L)]):=by
 unfold lasL
 by_cases h:errI b L=0
 ·rw[if_pos h,h]
  obtain⟨hb,hp⟩:=err_zero.1 h
  exact ret21 hi hb hp
 ·rw[if_neg h]
  exact ret21g hi h
theorem ret15a(hi:Off is)(b:Bk)(L:List Int):RetP Tryd.prog is orc 15 [b.u,.lst .ro 1 (zE L)] (.tup [.int .i64 (if errI b L=0 then zBO b L L.length else 0),.int .i64 (errI b L)]):=by
 by_cases h:errI b L=0
 ·rw[if_pos h,h]
  obtain⟨hb,hp⟩:=err_zero.1 h
  exact ret15 hi hb hp
 ·rw[if_neg h]
  exact ret15g hi h
set_option maxHeartbeats 8000000 in
theorem ret22(hi:Off is)(b:Bk)(L:List Int):RetP Tryd.prog is orc 22 [b.u,.lst .ro 1 (zE L)] (.tup [.lst .ro 1 (zE (lasL b L)),.int .i64 (errI b L)]):=by
 refine yC body22 pure22 (hi 22 (by decide)) rfl rfl (yL (yZ b 4) (zi 6 .ro (fun h=>by cases h) 1 L)) (.inr ⟨_,rfl,yL (k:=7) (zi 5 .ro (fun h=>by cases h) 1 _) (.int _ _ _)⟩) ?_
 have q18:=ret18 (orc:=orc) hi b
 unfold lasL errI
 by_cases hv:wU b=false
 ·rw[if_pos hv,if_neg (by decide)]
  rw[if_neg (by rw[hv];decide)]at q18
  refine kQ (ze rfl rfl (zC rfl (zC rfl (zA ?_))))
  refine zL [(1,.lst .ro 1 (zE L)),(2,U.box 0 0)] ([SB.box [.int .i64 (Bk.parts b),.int .i64 (Bk.size b),.lst .ro 1 (zE (Bk.beats b)),.int .i64 (Bk.start b),.int .i64 (Bk.fin b),.int .i64 (Bk.tlo b),.int .i64 (Bk.thi b),.int .i64 (Bk.slo b),.int .i64 (Bk.shi b),.int .i64 (Bk.notice b),.lst .ro 3 (plsU (Bk.players b))]]) (.cons rfl (.cons rfl (.nil rfl))) rfl fun fr=>?_
  refine k_seq (kQ (zJ rfl rfl rfl sh27 rfl (zO rfl (q18) (.lrefl _) (zC rfl (zA (kQ (zB rfl (yz rfl rfl rfl ?_))))))))
  refine zA (k_cT rfl rfl ?_)
  refine kQ (zB rfl (zC rfl (zC rfl (zA (zY ?_)))))
  refine⟨.inr rfl,_,.cons _ _ _ _ (.tmp 4) (.cons _ _ _ _ (.tmp 5) .nil),?_⟩
  exact .tup _ _ (.lcons _ _ _ _ (.nil .full .ro 1) (.lrefl _))
 ·rw[if_neg hv]
  have hv2:wU b=true:=by simpa using hv
  have hb:=(wT b).1 hv2
  rw[if_pos hv2]at q18
  have q56:=ret56 (orc:=orc) hi hb L
  by_cases hp:zAf b L=false
  ·rw[if_pos hp,if_neg (by decide)]
   rw[hp]at q56
   refine kQ (ze rfl rfl (zC rfl (zC rfl (zA ?_))))
   refine zL [(1,.lst .ro 1 (zE L)),(2,U.box 0 0)] ([SB.box [.int .i64 (Bk.parts b),.int .i64 (Bk.size b),.lst .ro 1 (zE (Bk.beats b)),.int .i64 (Bk.start b),.int .i64 (Bk.fin b),.int .i64 (Bk.tlo b),.int .i64 (Bk.thi b),.int .i64 (Bk.slo b),.int .i64 (Bk.shi b),.int .i64 (Bk.notice b),.lst .ro 3 (plsU (Bk.players b))]]) (.cons rfl (.cons rfl (.nil rfl))) rfl fun fr=>?_
   refine k_seq (kQ (zJ rfl rfl rfl sh27 rfl (zO rfl (q18) (.lrefl _) (zC rfl (zA (kQ (zB rfl (yz rfl rfl rfl ?_))))))))
   refine zA (k_cF rfl rfl ?_)
   refine zT (k_seq (kQ (zJ rfl rfl rfl sh27 rfl (zB rfl (zO rfl (q56) (.lrefl _) (wG rfl rfl (zA (k_cT rfl rfl ?_))))))))
   refine kQ (zC rfl (zC rfl (zA (zY ?_))))
   refine⟨.inr rfl,_,.cons _ _ _ _ (.tmp 4) (.cons _ _ _ _ (.tmp 5) .nil),?_⟩
   exact .tup _ _ (.lcons _ _ _ _ (.nil .full .ro 1) (.lrefl _))
  ·rw[if_neg hp,if_pos rfl]
   have hp2:zAf b L=true:=by simpa using hp
   have hok:=(zCh hb).1 hp2
   rw[hp2]at q56
   have hps:=toNat_ps hb
   have hmp:=mul_ps hb
   have hpn:=hb.pn
   refine kQ (ze rfl rfl (zC rfl (zC rfl (zA ?_))))
   refine zL [(1,.lst .ro 1 (zE L)),(2,U.box 0 0)] ([SB.box [.int .i64 (Bk.parts b),.int .i64 (Bk.size b),.lst .ro 1 (zE (Bk.beats b)),.int .i64 (Bk.start b),.int .i64 (Bk.fin b),.int .i64 (Bk.tlo b),.int .i64 (Bk.thi b),.int .i64 (Bk.slo b),.int .i64 (Bk.shi b),.int .i64 (Bk.notice b),.lst .ro 3 (plsU (Bk.players b))]]) (.cons rfl (.cons rfl (.nil rfl))) rfl fun fr=>?_
   refine k_seq (kQ (zJ rfl rfl rfl sh27 rfl (zO rfl (q18) (.lrefl _) (zC rfl (zA (kQ (zB rfl (yz rfl rfl rfl ?_))))))))
   refine zA (k_cF rfl rfl ?_)
   refine zT (k_seq (kQ (zJ rfl rfl rfl sh27 rfl (zB rfl (zO rfl (q56) (.lrefl _) (wG rfl rfl (zA (k_cF rfl rfl ?_))))))))
   refine zT (kQ (zC rfl (zA ?_)))
   refine zL [(1,.lst .ro 1 (zE L)),(2,U.box 0 0),(7,.lst .full 0 [])] ([SB.box [.int .i64 (Bk.parts b),.int .i64 (Bk.size b),.lst .ro 1 (zE (Bk.beats b)),.int .i64 (Bk.start b),.int .i64 (Bk.fin b),.int .i64 (Bk.tlo b),.int .i64 (Bk.thi b),.int .i64 (Bk.slo b),.int .i64 (Bk.shi b),.int .i64 (Bk.notice b),.lst .ro 3 (plsU (Bk.players b))]]) (.cons rfl (.cons rfl (.cons rfl (.nil rfl)))) rfl fun fr=>?_
   refine k_seq (kQ (zC rfl (zA (zR ?_))))
   refine wE (fun kk s2=>∃(i:Nat) (kd:Kd) (z:Nat),kk+i=b.players.length∧((kd=.full∧z=0∧latS (aftF b true L (b.parts*b.size).toNat) i=[])∨(kd=.own∧z=1))∧s2.st=[.box [.int .i64 b.parts,.int .i64 b.size,.lst .ro 1 (zE b.beats),.int .i64 b.start,.int .i64 b.fin,.int .i64 b.tlo,.int .i64 b.thi,.int .i64 b.slo,.int .i64 b.shi,.int .i64 b.notice,.lst .ro 3 (plsU b.players)]]∧Holds s2 [(1,.lst .ro 1 (zE L)),(2,.box 0 0),(7,.lst kd z (zE (latS (aftF b true L (b.parts*b.size).toNat) i))),(8,.int .i64 i)]) (fun kk s2 hI=>?_) b.players.length _ ⟨0,.full,0,by omega,.inl ⟨rfl,rfl,rfl⟩,rfl,.c4 rfl rfl rfl rfl (.nil rfl)⟩
   obtain⟨i,kd,z,hk,hkd,hst2,hs2⟩:=hI
   have hlen:=lat_len (aftF b true L (b.parts*b.size).toNat) i
   by_cases hin:i<b.players.length
   ·obtain⟨p,hp1⟩:∃p,b.players[i]? =some p:=⟨b.players[i]'hin,List.getElem?_eq_getElem hin⟩
    have q68:=ret68 (orc:=orc) hi hb hok hp1 (m:=(b.parts*b.size).toNat) (by omega)
    rw[hps]at q68
    have ea:aftF b true L (b.parts*b.size).toNat i=aftI b true L p (b.parts*b.size).toNat:=by unfold aftF;rw[hp1]
    have hsu:latS (aftF b true L (b.parts*b.size).toNat) (i+1)=latS (aftF b true L (b.parts*b.size).toNat) i++(if 0<aftI b true L p (b.parts*b.size).toNat then [(i:Int)]else []):=by rw[←ea];rfl
    generalize aftI b true L p (b.parts*b.size).toNat=v at*
    generalize aftI b false L p (b.parts*b.size).toNat=v0 at*
    generalize latS (aftF b true L (b.parts*b.size).toNat) i=A at*
    by_cases h0:0<v
    ·rw[if_pos h0]at hsu
     have k39:decide (v > 0)=true:=decide_eq_true h0
     rcases hkd with ⟨rfl,rfl,rfl⟩|⟨rfl,rfl⟩
     ·refine zL _ _ hs2 hst2 fun fr2=>?_
      refine k_seq (kQ (zB rfl (zF rfl rfl yi (zG rfl rfl rfl sh25 rfl (yR rfl ty25 rfl (List.length_map _) ?_)))))
      refine yE rfl rfl rfl (zA (k_cT rfl (decide_eq_true (by omega)) (zT (k_seq (zR (k_seq (ym [.read true,.plain,.plain,.read true,.plain,.plain,.read true,.plain,.read true,.plain,.read true,.plain,.plain,.plain,.plain] (by kernel_rfl) (by kernel_rfl) (by kernel_rfl) ?_)))))))
      refine zX rfl (zJ rfl rfl rfl sh27 rfl (zA rfl)) ?_
      refine zD (zB rfl (zA rfl)) (zD (zF rfl rfl yi (zA rfl)) ?_)
      refine zX rfl (zG rfl rfl rfl sh25 rfl (zA rfl)) (zD (zB rfl (zA rfl)) (zD (yg (u:=(p).u) rfl ty25 rfl rfl (Int.natCast_nonneg _) (by simp[hp1]) cl68 (zA rfl)) ?_))
      refine zX rfl (wK rfl rfl sh68 rfl (zA rfl)) ?_
      refine zD (zF rfl rfl zAI (zA rfl)) ?_
      refine zX rfl (zG rfl rfl rfl sh3 rfl (zA rfl)) ?_
      refine yT [(1,.lst .ro 1 (zE L)),(2,U.box 0 0),(7,.lst .full 0 (zE [])),(8,.int .i64 ↑i),(25,U.agg [.int .i64 (Bk.parts b),.int .i64 (Bk.size b),.lst .ro 1 (zE (Bk.beats b)),.int .i64 (Bk.start b),.int .i64 (Bk.fin b),.int .i64 (Bk.tlo b),.int .i64 (Bk.thi b),.int .i64 (Bk.slo b),.int .i64 (Bk.shi b),.int .i64 (Bk.notice b),.lst .ro 3 (plsU (Bk.players b))]),(26,.lst .ro 1 (zE L)),(31,U.agg [.int .i64 (Pl.la p),.int .i64 (Pl.lb p),.lst .ro 2 (yd (Pl.cat p))]),(33,.int .i64 (Bk.parts b))] [] ([SB.box [.int .i64 (Bk.parts b),.int .i64 (Bk.size b),.lst .ro 1 (zE (Bk.beats b)),.int .i64 (Bk.start b),.int .i64 (Bk.fin b),.int .i64 (Bk.tlo b),.int .i64 (Bk.thi b),.int .i64 (Bk.slo b),.int .i64 (Bk.shi b),.int .i64 (Bk.notice b),.lst .ro 3 (plsU (Bk.players b))]]) (.c4 rfl rfl rfl rfl (.c4 rfl rfl rfl rfl (.nil rfl))) rfl rfl fun fr=>?_
      refine zD (zF rfl rfl yY (zA rfl)) ?_
      refine zX rfl (zG rfl rfl rfl sh3 rfl (zA rfl)) ?_
      refine zD (o_mul rfl rfl rfl (by unfold I64;omega) (zA rfl)) ?_
      refine zD (zO rfl (q68) (.lrefl _) (zA rfl)) ?_
      refine zD (o_field1 rfl rfl wX sh3 rfl (zA rfl)) ?_
      refine zD (zCF rfl rfl rfl (zA rfl)) ?_
      refine zAA ?_
      refine zL [(1,.lst .ro 1 (zE L)),(2,U.box 0 0),(7,.lst .full 0 (zE [])),(8,.int .i64 ↑i),(39,U.bool (decide ((0:Int)<v)))] ([SB.box [.int .i64 (Bk.parts b),.int .i64 (Bk.size b),.lst .ro 1 (zE (Bk.beats b)),.int .i64 (Bk.start b),.int .i64 (Bk.fin b),.int .i64 (Bk.tlo b),.int .i64 (Bk.thi b),.int .i64 (Bk.slo b),.int .i64 (Bk.shi b),.int .i64 (Bk.notice b),.lst .ro 3 (plsU (Bk.players b))]]) (.c4 rfl rfl rfl rfl (.cons rfl (.nil rfl))) rfl fun fr=>?_
      refine k_cT rfl (by assumption) (k_region (zB rfl (zB rfl (zBW (es:=[.int .i64 ↑i]) rfl ty22 ze3 cl3 rfl rfl rfl rfl rfl rfl rfl rfl ?_))))
      refine o_appendF rfl ap22_22 rfl rfl (by simp) (by simp) (by simp[yf,yI,oneU]) (by simp) ?_
      refine zC rfl (zA (k_region (zB rfl ?_)))
      refine wM rfl rfl rfl (by unfold I64;omega) (zC rfl (zA ?_))
      exact⟨kk - 1,by omega,i+1,.own,1,by omega,.inr ⟨rfl,rfl⟩,rfl,.cons rfl (.cons rfl (.cons (by rw[hsu];rfl) (.cons rfl (.nil rfl))))⟩
     ·refine zL _ _ hs2 hst2 fun fr2=>?_
      refine k_seq (kQ (zB rfl (zF rfl rfl yi (zG rfl rfl rfl sh25 rfl (yR rfl ty25 rfl (List.length_map _) ?_)))))
      refine yE rfl rfl rfl (zA (k_cT rfl (decide_eq_true (by omega)) (zT (k_seq (zR (k_seq (ym [.read true,.plain,.plain,.read true,.plain,.plain,.read true,.plain,.read true,.plain,.read true,.plain,.plain,.plain,.plain] (by kernel_rfl) (by kernel_rfl) (by kernel_rfl) ?_)))))))
      refine zX rfl (zJ rfl rfl rfl sh27 rfl (zA rfl)) ?_
      refine zD (zB rfl (zA rfl)) (zD (zF rfl rfl yi (zA rfl)) ?_)
      refine zX rfl (zG rfl rfl rfl sh25 rfl (zA rfl)) (zD (zB rfl (zA rfl)) (zD (yg (u:=(p).u) rfl ty25 rfl rfl (Int.natCast_nonneg _) (by simp[hp1]) cl68 (zA rfl)) ?_))
      refine zX rfl (wK rfl rfl sh68 rfl (zA rfl)) ?_
      refine zD (zF rfl rfl zAI (zA rfl)) ?_
      refine zX rfl (zG rfl rfl rfl sh3 rfl (zA rfl)) ?_
      refine yT [(1,.lst .ro 1 (zE L)),(2,U.box 0 0),(7,U.lst Kd.own 1 (zE A)),(8,.int .i64 ↑i),(25,U.agg [.int .i64 (Bk.parts b),.int .i64 (Bk.size b),.lst .ro 1 (zE (Bk.beats b)),.int .i64 (Bk.start b),.int .i64 (Bk.fin b),.int .i64 (Bk.tlo b),.int .i64 (Bk.thi b),.int .i64 (Bk.slo b),.int .i64 (Bk.shi b),.int .i64 (Bk.notice b),.lst .ro 3 (plsU (Bk.players b))]),(26,.lst .ro 1 (zE L)),(31,U.agg [.int .i64 (Pl.la p),.int .i64 (Pl.lb p),.lst .ro 2 (yd (Pl.cat p))]),(33,.int .i64 (Bk.parts b))] [] ([SB.box [.int .i64 (Bk.parts b),.int .i64 (Bk.size b),.lst .ro 1 (zE (Bk.beats b)),.int .i64 (Bk.start b),.int .i64 (Bk.fin b),.int .i64 (Bk.tlo b),.int .i64 (Bk.thi b),.int .i64 (Bk.slo b),.int .i64 (Bk.shi b),.int .i64 (Bk.notice b),.lst .ro 3 (plsU (Bk.players b))]]) (.c4 rfl rfl rfl rfl (.c4 rfl rfl rfl rfl (.nil rfl))) rfl rfl fun fr=>?_
      refine zD (zF rfl rfl yY (zA rfl)) ?_
      refine zX rfl (zG rfl rfl rfl sh3 rfl (zA rfl)) ?_
      refine zD (o_mul rfl rfl rfl (by unfold I64;omega) (zA rfl)) ?_
      refine zD (zO rfl (q68) (.lrefl _) (zA rfl)) ?_
      refine zD (o_field1 rfl rfl wX sh3 rfl (zA rfl)) ?_
      refine zD (zCF rfl rfl rfl (zA rfl)) ?_
      refine zAA ?_
      refine zL [(1,.lst .ro 1 (zE L)),(2,U.box 0 0),(7,U.lst Kd.own 1 (zE A)),(8,.int .i64 ↑i),(39,U.bool (decide ((0:Int)<v)))] ([SB.box [.int .i64 (Bk.parts b),.int .i64 (Bk.size b),.lst .ro 1 (zE (Bk.beats b)),.int .i64 (Bk.start b),.int .i64 (Bk.fin b),.int .i64 (Bk.tlo b),.int .i64 (Bk.thi b),.int .i64 (Bk.slo b),.int .i64 (Bk.shi b),.int .i64 (Bk.notice b),.lst .ro 3 (plsU (Bk.players b))]]) (.c4 rfl rfl rfl rfl (.cons rfl (.nil rfl))) rfl fun fr=>?_
      refine k_cT rfl (by assumption) (k_region (zB rfl (zB rfl (zBW (es:=[.int .i64 ↑i]) rfl ty22 ze3 cl3 rfl rfl rfl rfl rfl rfl rfl rfl ?_))))
      refine o_appendS 7 rfl ap22_22 rfl rfl rfl (by simp) (by simp) (by simp[yf,yI,oneU]) (by simp at hlen ⊢;omega) ?_
      refine zC rfl (zA (k_region (zB rfl ?_)))
      refine wM rfl rfl rfl (by unfold I64;omega) (zC rfl (zA ?_))
      exact⟨kk - 1,by omega,i+1,.own,1,by omega,.inr ⟨rfl,rfl⟩,rfl,.cons rfl (.cons rfl (.cons (by rw[hsu];simp[zE];rfl) (.cons rfl (.nil rfl))))⟩
    ·rw[if_neg h0,List.append_nil]at hsu
     have k39:decide (v > 0)=false:=decide_eq_false h0
     refine zL _ _ hs2 hst2 fun fr2=>?_
     refine k_seq (kQ (zB rfl (zF rfl rfl yi (zG rfl rfl rfl sh25 rfl (yR rfl ty25 rfl (List.length_map _) ?_)))))
     refine yE rfl rfl rfl (zA (k_cT rfl (decide_eq_true (by omega)) (zT (k_seq (zR (k_seq (ym [.read true,.plain,.plain,.read true,.plain,.plain,.read true,.plain,.read true,.plain,.read true,.plain,.plain,.plain,.plain] (by kernel_rfl) (by kernel_rfl) (by kernel_rfl) ?_)))))))
     refine zX rfl (zJ rfl rfl rfl sh27 rfl (zA rfl)) ?_
     refine zD (zB rfl (zA rfl)) (zD (zF rfl rfl yi (zA rfl)) ?_)
     refine zX rfl (zG rfl rfl rfl sh25 rfl (zA rfl)) (zD (zB rfl (zA rfl)) (zD (yg (u:=(p).u) rfl ty25 rfl rfl (Int.natCast_nonneg _) (by simp[hp1]) cl68 (zA rfl)) ?_))
     refine zX rfl (wK rfl rfl sh68 rfl (zA rfl)) ?_
     refine zD (zF rfl rfl zAI (zA rfl)) ?_
     refine zX rfl (zG rfl rfl rfl sh3 rfl (zA rfl)) ?_
     refine yT [(1,.lst .ro 1 (zE L)),(2,U.box 0 0),(7,U.lst kd z (zE A)),(8,.int .i64 ↑i),(25,U.agg [.int .i64 (Bk.parts b),.int .i64 (Bk.size b),.lst .ro 1 (zE (Bk.beats b)),.int .i64 (Bk.start b),.int .i64 (Bk.fin b),.int .i64 (Bk.tlo b),.int .i64 (Bk.thi b),.int .i64 (Bk.slo b),.int .i64 (Bk.shi b),.int .i64 (Bk.notice b),.lst .ro 3 (plsU (Bk.players b))]),(26,.lst .ro 1 (zE L)),(31,U.agg [.int .i64 (Pl.la p),.int .i64 (Pl.lb p),.lst .ro 2 (yd (Pl.cat p))]),(33,.int .i64 (Bk.parts b))] [] ([SB.box [.int .i64 (Bk.parts b),.int .i64 (Bk.size b),.lst .ro 1 (zE (Bk.beats b)),.int .i64 (Bk.start b),.int .i64 (Bk.fin b),.int .i64 (Bk.tlo b),.int .i64 (Bk.thi b),.int .i64 (Bk.slo b),.int .i64 (Bk.shi b),.int .i64 (Bk.notice b),.lst .ro 3 (plsU (Bk.players b))]]) (.c4 rfl rfl rfl rfl (.c4 rfl rfl rfl rfl (.nil rfl))) rfl rfl fun fr=>?_
     refine zD (zF rfl rfl yY (zA rfl)) ?_
     refine zX rfl (zG rfl rfl rfl sh3 rfl (zA rfl)) ?_
     refine zD (o_mul rfl rfl rfl (by unfold I64;omega) (zA rfl)) ?_
     refine zD (zO rfl (q68) (.lrefl _) (zA rfl)) ?_
     refine zD (o_field1 rfl rfl wX sh3 rfl (zA rfl)) ?_
     refine zD (zCF rfl rfl rfl (zA rfl)) ?_
     refine zAA ?_
     refine zL [(1,.lst .ro 1 (zE L)),(2,U.box 0 0),(7,U.lst kd z (zE A)),(8,.int .i64 ↑i),(39,U.bool (decide ((0:Int)<v)))] ([SB.box [.int .i64 (Bk.parts b),.int .i64 (Bk.size b),.lst .ro 1 (zE (Bk.beats b)),.int .i64 (Bk.start b),.int .i64 (Bk.fin b),.int .i64 (Bk.tlo b),.int .i64 (Bk.thi b),.int .i64 (Bk.slo b),.int .i64 (Bk.shi b),.int .i64 (Bk.notice b),.lst .ro 3 (plsU (Bk.players b))]]) (.c4 rfl rfl rfl rfl (.cons rfl (.nil rfl))) rfl fun fr=>?_
     refine k_cF rfl (by assumption) (zT (k_region (zB rfl ?_)))
     refine wM rfl rfl rfl (by unfold I64;omega) (zC rfl (zA ?_))
     rw[←hsu]at hkd
     exact⟨kk - 1,by omega,i+1,kd,z,by omega,hkd,rfl,.cons rfl (.cons rfl (.cons (by rw[hsu];rfl) (.cons rfl (.nil rfl))))⟩
   ·have hie:i=b.players.length:=by omega
    subst hie
    generalize latS (aftF b true L (b.parts*b.size).toNat) b.players.length=A at*
    rcases hkd with ⟨rfl,rfl,rfl⟩|⟨rfl,rfl⟩
    ·refine zL _ _ hs2 hst2 fun fr2=>?_
     refine k_seq (kQ (zB rfl (zF rfl rfl yi (zG rfl rfl rfl sh25 rfl (yR rfl ty25 rfl (List.length_map _) ?_)))))
     refine yE rfl rfl rfl (zA (k_cF rfl (decide_eq_false (by omega)) (yh (kQ (zB rfl (zC rfl (zC rfl (zA ?_))))))))
     refine zY ?_
     refine⟨.inr rfl,_,.cons _ _ _ _ (.tmp 4) (.cons _ _ _ _ (.tmp 5) .nil),?_⟩
     exact .tup _ _ (.lcons _ _ _ _ (.nil .full .ro 1) (.lrefl _))
    ·refine zL _ _ hs2 hst2 fun fr2=>?_
     refine k_seq (kQ (zB rfl (zF rfl rfl yi (zG rfl rfl rfl sh25 rfl (yR rfl ty25 rfl (List.length_map _) ?_)))))
     refine yE rfl rfl rfl (zA (k_cF rfl (decide_eq_false (by omega)) (yh (kQ (zB rfl (zC rfl (zC rfl (zA ?_))))))))
     refine zY ?_
     refine⟨.inr rfl,_,.cons _ _ _ _ (.tmp 4) (.cons _ _ _ _ (.tmp 5) .nil),?_⟩
     exact .refl _
     done
theorem spn_neq24(a b:Int):binV Tryd.prog 24 .neq (valK (wA a b)) (valK (wA a b))=some (.bool false):=by
 have h:binV Tryd.prog 24 .neq (valK (wA a b)) (valK (wA a b))=opt none (fun x=>some (V.bool (not x))) (Vam.cond (ieq a a) (Vam.cond (ieq b b) (some true) (some false)) (some false)):=by kernel_rfl
 rw[h,zAh,zAh,show(a==a)=true by simp,show(b==b)=true by simp];rfl
set_option maxHeartbeats 16000000 in
theorem ret3(hi:Off is)(b:Bk)(L:List Int)(pl bt:Int)(r24:RetP Tryd.prog is orc 24 [] (.bool true)):RetP Tryd.prog is orc 3 [b.u,.lst .ro 1 (zE L),.agg [.int .i64 pl,.int .i64 bt]] (.bool true):=by
 refine yC body3 pure3 (hi 3 (by decide)) rfl rfl (fun u hu=>?_) (.inl (.bool _ _)) ?_
 ·simp only[List.mem_cons,List.not_mem_nil,or_false]at hu
  rcases hu with rfl|rfl|rfl
  ·exact yZ b 4
  ·exact zi 6 .ro (fun h=>by cases h) 1 L
  ·exact yr pl bt 6
 have q15:=ret15a (orc:=orc) hi b L
 have q16:=ret16 (orc:=orc) hi b L
 have q17:=ret17 (orc:=orc) hi b
 have q18:=ret18 (orc:=orc) hi b
 have q19:=ret19a (orc:=orc) hi b L pl bt
 have q20:=ret20 (orc:=orc) hi b L pl bt
 have q21:=ret21a (orc:=orc) hi b L
 have q22:=ret22 (orc:=orc) hi b L
 have hl:(lasL b L).length≤4096:=by
  unfold lasL
  split
  ·rename_i h
   have:=lat_len (aftF b true L (b.parts*b.size).toNat) b.players.length
   have:=(err_zero.1 h).1.pn
   omega
  ·simp
 have q23:=ret23 (orc:=orc) hi (lasL b L) hl
 obtain⟨x,y,hxy⟩:∃x y,latI b L pl bt=wA x y:=by
  unfold latI
  split
  ·exact⟨_,_,rfl⟩
  ·exact⟨_,_,rfl⟩
 rw[hxy]at q19 q20
 generalize (if errI b L=0 then zBO b L L.length else 0)=t at*
 generalize (if wU b=true then(0:Int)else 80)=v at*
 generalize errI b L=e at*
 generalize errL b L pl bt=e2 at*
 generalize lasL b L=A at*
 refine kQ (ze rfl rfl (ze rfl rfl (zC rfl (zA ?_))))
 refine zL [(1,.lst .ro 1 (zE L)),(3,U.box 0 0),(5,U.box 1 0)] ([SB.box [.int .i64 (Bk.parts b),.int .i64 (Bk.size b),.lst .ro 1 (zE (Bk.beats b)),.int .i64 (Bk.start b),.int .i64 (Bk.fin b),.int .i64 (Bk.tlo b),.int .i64 (Bk.thi b),.int .i64 (Bk.slo b),.int .i64 (Bk.shi b),.int .i64 (Bk.notice b),.lst .ro 3 (plsU (Bk.players b))],SB.box [.int .i64 pl,.int .i64 bt]]) (.cons rfl (.cons rfl (.cons rfl (.nil rfl)))) rfl fun fr=>?_
 refine kQ (zJ rfl rfl rfl sh27 rfl (zB rfl (zO rfl (q15) (.lrefl _) (zB rfl (zc rfl rfl rfl (zc rfl rfl rfl (zC rfl (zC rfl ?_))))))))
 refine zA (kQ (zJ rfl rfl rfl sh27 rfl (zB rfl (zO rfl (q16) (.lrefl _) (zB rfl (zc rfl rfl rfl (zc rfl rfl rfl (zC rfl ?_))))))))
 refine zC rfl (zA ?_)
 refine zL [(1,.lst .ro 1 (zE L)),(3,U.box 0 0),(5,U.box 1 0),(7,.int .i64 t),(8,.int .i64 e),(9,.int .i64 t),(10,.int .i64 e)] ([SB.box [.int .i64 (Bk.parts b),.int .i64 (Bk.size b),.lst .ro 1 (zE (Bk.beats b)),.int .i64 (Bk.start b),.int .i64 (Bk.fin b),.int .i64 (Bk.tlo b),.int .i64 (Bk.thi b),.int .i64 (Bk.slo b),.int .i64 (Bk.shi b),.int .i64 (Bk.notice b),.lst .ro 3 (plsU (Bk.players b))],SB.box [.int .i64 pl,.int .i64 bt]]) (.c4 rfl rfl rfl rfl (.cons rfl (.cons rfl (.cons rfl (.nil rfl))))) rfl fun fr=>?_
 refine k_seq (k_seq (ym [.plain,.plain,.plain,.plain,.plain,.plain,.plain,.plain,.plain,.read true,.read false,.read true,.plain,.plain,.plain] (by kernel_rfl) (by kernel_rfl) (by kernel_rfl) ?_))
 refine zD (zB rfl (zA rfl)) (zD (zB rfl (zA rfl)) (zD (yz rfl rfl rfl (zA rfl)) ?_))
 refine zD (zB rfl (zA rfl)) (d_gD rfl rfl rfl rfl (decide_eq_false (by omega)) ?_)
 refine zD (zB rfl (zA rfl)) (d_gD rfl rfl rfl rfl (decide_eq_false (by omega)) ?_)
 refine zD (zB rfl (zA rfl)) (d_gD rfl rfl rfl rfl (decide_eq_false (by omega)) ?_)
 refine zD (yz rfl rfl rfl (zA rfl)) ?_
 refine zD (zK rfl rfl (decide_eq_false (by omega)) (zA rfl)) ?_
 refine zD (zB rfl (zA rfl)) ?_
 refine yT [(1,.lst .ro 1 (zE L)),(3,U.box 0 0),(5,U.box 1 0),(35,U.bool (decide (e≠e)))] [] ([SB.box [.int .i64 (Bk.parts b),.int .i64 (Bk.size b),.lst .ro 1 (zE (Bk.beats b)),.int .i64 (Bk.start b),.int .i64 (Bk.fin b),.int .i64 (Bk.tlo b),.int .i64 (Bk.thi b),.int .i64 (Bk.slo b),.int .i64 (Bk.shi b),.int .i64 (Bk.notice b),.lst .ro 3 (plsU (Bk.players b))],SB.box [.int .i64 pl,.int .i64 bt]]) (.c4 rfl rfl rfl rfl (.nil rfl)) rfl rfl fun fr=>?_
 refine d_gD rfl rfl rfl rfl (decide_eq_false (by omega)) ?_
 refine yT [(1,.lst .ro 1 (zE L)),(3,U.box 0 0),(5,U.box 1 0),(35,U.bool (decide (e≠e)))] [] ([SB.box [.int .i64 (Bk.parts b),.int .i64 (Bk.size b),.lst .ro 1 (zE (Bk.beats b)),.int .i64 (Bk.start b),.int .i64 (Bk.fin b),.int .i64 (Bk.tlo b),.int .i64 (Bk.thi b),.int .i64 (Bk.slo b),.int .i64 (Bk.shi b),.int .i64 (Bk.notice b),.lst .ro 3 (plsU (Bk.players b))],SB.box [.int .i64 pl,.int .i64 bt]]) (.c4 rfl rfl rfl rfl (.nil rfl)) rfl rfl fun fr=>?_
 refine zX rfl (zJ rfl rfl rfl sh27 rfl (zA rfl)) ?_
 refine d_gD rfl rfl rfl rfl (decide_eq_false (by omega)) ?_
 refine d_callR rfl (q17) (.int _ _) (.lrefl _) ?_
 refine d_gD rfl rfl rfl rfl (decide_eq_false (by omega)) ?_
 refine zX rfl (zJ rfl rfl rfl sh27 rfl (zA rfl)) ?_
 refine d_gD rfl rfl rfl rfl (decide_eq_false (by omega)) ?_
 refine zD (zO rfl (q18) (.lrefl _) (zA rfl)) ?_
 refine d_gD rfl rfl rfl rfl (decide_eq_false (by omega)) ?_
 refine zD (yz rfl rfl rfl (zA rfl)) ?_
 refine zD (zK rfl rfl (decide_eq_false (by omega)) (zA rfl)) ?_
 refine zAA ?_
 refine zL [(1,.lst .ro 1 (zE L)),(3,U.box 0 0),(5,U.box 1 0),(41,U.bool (decide (v≠v)))] ([SB.box [.int .i64 (Bk.parts b),.int .i64 (Bk.size b),.lst .ro 1 (zE (Bk.beats b)),.int .i64 (Bk.start b),.int .i64 (Bk.fin b),.int .i64 (Bk.tlo b),.int .i64 (Bk.thi b),.int .i64 (Bk.slo b),.int .i64 (Bk.shi b),.int .i64 (Bk.notice b),.lst .ro 3 (plsU (Bk.players b))],SB.box [.int .i64 pl,.int .i64 bt]]) (.c4 rfl rfl rfl rfl (.nil rfl)) rfl fun fr=>?_
 refine k_cF rfl (decide_eq_false (by omega)) (zT (kQ (zJ rfl rfl rfl sh27 rfl (zB rfl (zBx rfl ty28 rfl rfl (by omega) (by omega) cl3 ?_)))))
 refine zG rfl rfl rfl sh3 rfl (zBx rfl ty28 rfl rfl (by omega) (by omega) cl3 ?_)
 refine zG rfl rfl rfl sh3 rfl (zO rfl (q19) (.lrefl _) (zB rfl (zc rfl rfl rfl ?_)))
 refine zP [(1,.lst .ro 1 (zE L)),(3,U.box 0 0),(5,U.box 1 0),(42,U.tup [wA x y,.int .i64 e2]),(50,U.agg [.int .i64 x,.int .i64 y])] [] ([SB.box [.int .i64 (Bk.parts b),.int .i64 (Bk.size b),.lst .ro 1 (zE (Bk.beats b)),.int .i64 (Bk.start b),.int .i64 (Bk.fin b),.int .i64 (Bk.tlo b),.int .i64 (Bk.thi b),.int .i64 (Bk.slo b),.int .i64 (Bk.shi b),.int .i64 (Bk.notice b),.lst .ro 3 (plsU (Bk.players b))],SB.box [.int .i64 pl,.int .i64 bt]]) (.c4 rfl rfl rfl rfl (.cons rfl (.nil rfl))) rfl rfl fun fr=>?_
 refine zc rfl rfl rfl (zd rfl ze24 ?_)
 refine zS rfl rfl sh24 rfl rfl rfl rfl rfl ?_
 refine zC rfl (zA ?_)
 refine zL [(1,.lst .ro 1 (zE L)),(3,U.box 0 0),(5,U.box 1 0),(8,.int .i64 e2),(11,U.box 2 0)] ([SB.box [.int .i64 (Bk.parts b),.int .i64 (Bk.size b),.lst .ro 1 (zE (Bk.beats b)),.int .i64 (Bk.start b),.int .i64 (Bk.fin b),.int .i64 (Bk.tlo b),.int .i64 (Bk.thi b),.int .i64 (Bk.slo b),.int .i64 (Bk.shi b),.int .i64 (Bk.notice b),.lst .ro 3 (plsU (Bk.players b))],SB.box [.int .i64 pl,.int .i64 bt],SB.box [.int .i64 x,.int .i64 y]]) (.c4 rfl rfl rfl rfl (.cons rfl (.nil rfl))) rfl fun fr=>?_
 refine kQ (zJ rfl rfl rfl sh27 rfl (zB rfl (zBx rfl ty28 rfl rfl (by omega) (by omega) cl3 ?_)))
 refine zG rfl rfl rfl sh3 rfl (zBx rfl ty28 rfl rfl (by omega) (by omega) cl3 ?_)
 refine zG rfl rfl rfl sh3 rfl (zO rfl (q20) (.lrefl _) (zB rfl (zc rfl rfl rfl ?_)))
 refine zP [(1,.lst .ro 1 (zE L)),(3,U.box 0 0),(8,.int .i64 e2),(11,U.box 2 0),(52,U.tup [wA x y,.int .i64 e2]),(60,U.agg [.int .i64 x,.int .i64 y])] [] ([SB.box [.int .i64 (Bk.parts b),.int .i64 (Bk.size b),.lst .ro 1 (zE (Bk.beats b)),.int .i64 (Bk.start b),.int .i64 (Bk.fin b),.int .i64 (Bk.tlo b),.int .i64 (Bk.thi b),.int .i64 (Bk.slo b),.int .i64 (Bk.shi b),.int .i64 (Bk.notice b),.lst .ro 3 (plsU (Bk.players b))],SB.box [.int .i64 pl,.int .i64 bt],SB.box [.int .i64 x,.int .i64 y]]) (.c4 rfl rfl rfl rfl (.cons rfl (.cons rfl (.nil rfl)))) rfl rfl fun fr=>?_
 refine zc rfl rfl rfl (zd rfl ze24 ?_)
 refine zS rfl rfl sh24 rfl rfl rfl rfl rfl ?_
 refine zC rfl (zA ?_)
 refine zL [(1,.lst .ro 1 (zE L)),(3,U.box 0 0),(8,.int .i64 e2),(10,.int .i64 e2),(11,U.box 2 0),(12,U.box 3 0)] ([SB.box [.int .i64 (Bk.parts b),.int .i64 (Bk.size b),.lst .ro 1 (zE (Bk.beats b)),.int .i64 (Bk.start b),.int .i64 (Bk.fin b),.int .i64 (Bk.tlo b),.int .i64 (Bk.thi b),.int .i64 (Bk.slo b),.int .i64 (Bk.shi b),.int .i64 (Bk.notice b),.lst .ro 3 (plsU (Bk.players b))],SB.box [.int .i64 pl,.int .i64 bt],SB.box [.int .i64 x,.int .i64 y],SB.box [.int .i64 x,.int .i64 y]]) (.c4 rfl rfl rfl rfl (.cons rfl (.cons rfl (.nil rfl)))) rfl fun fr=>?_
 refine k_seq (kQ (zJ rfl rfl rfl sh24 rfl (zJ rfl rfl rfl sh24 rfl (o_binK rfl rfl rfl rfl rfl (spn_neq24 _ _) ?_))))
 refine zB rfl (o_gD rfl rfl rfl rfl rfl (zB rfl (o_gD rfl rfl rfl rfl rfl (zB rfl (o_gD rfl rfl rfl rfl rfl (yz rfl rfl rfl (zK rfl rfl rfl ?_)))))))
 refine zA (k_cF rfl (decide_eq_false (by omega)) (zT (kQ (zJ rfl rfl rfl sh27 rfl (zB rfl (zO rfl (q21) (.lrefl _) (zB rfl (zc rfl rfl rfl ?_))))))))
 refine zc rfl rfl rfl (zC rfl (zC rfl (zA ?_)))
 refine zL [(1,.lst .ro 1 (zE L)),(3,U.box 0 0),(8,.int .i64 e),(13,.lst .ro 1 (zE A))] ([SB.box [.int .i64 (Bk.parts b),.int .i64 (Bk.size b),.lst .ro 1 (zE (Bk.beats b)),.int .i64 (Bk.start b),.int .i64 (Bk.fin b),.int .i64 (Bk.tlo b),.int .i64 (Bk.thi b),.int .i64 (Bk.slo b),.int .i64 (Bk.shi b),.int .i64 (Bk.notice b),.lst .ro 3 (plsU (Bk.players b))],SB.box [.int .i64 pl,.int .i64 bt],SB.box [.int .i64 x,.int .i64 y],SB.box [.int .i64 x,.int .i64 y]]) (.c4 rfl rfl rfl rfl (.nil rfl)) rfl fun fr=>?_
 refine kQ (zJ rfl rfl rfl sh27 rfl (zB rfl (zO rfl (q22) (.lrefl _) (zB rfl (zc rfl rfl rfl (zc rfl rfl rfl (zC rfl (zC rfl ?_))))))))
 refine zA (kQ (zB rfl (zB rfl (zO rfl (q23) (.lrefl _) (zB rfl (o_gD rfl rfl rfl rfl rfl (zB rfl (o_gD rfl rfl rfl rfl rfl ?_))))))))
 refine zB rfl (o_gD rfl rfl rfl rfl rfl (zCG rfl rfl rfl (zV rfl rfl rfl ?_)))
 refine zB rfl (o_gD rfl rfl rfl rfl (decide_eq_true (by omega)) ?_)
 refine zO rfl (r24) (.lrefl _) (zV rfl rfl (decide_eq_true (by omega)) ?_)
 refine zC rfl (zA (zY ?_))
 refine⟨.inr rfl,_,.cons _ _ _ _ (.tmp 6) .nil,?_⟩
 exact .refl _
 done
end
section
variable {is:FuncId→Bool}{orc:Known}
theorem zDi{P:Program}{t:TypeId}(n:Nat)(h:(match P.underlying t with|some (.struct fs)=>Nat.beq fs.size n|_=>false)=true):∃fs,P.underlying t=some (.struct fs):=by
 cases hu:P.underlying t with
 |none=>rw[hu]at h;cases h
 |some ty=>rw[hu]at h;cases ty<;>first|exact⟨_,rfl⟩|cases h
theorem u3:Tryd.prog.underlying 3=some (.int .i64):=by kernel_rfl
theorem u22:Tryd.prog.underlying 22=some (.slice 3):=by kernel_rfl
theorem u66:Tryd.prog.underlying 66=some (.slice 24):=by kernel_rfl
theorem u25:Tryd.prog.underlying 25=some (.slice 68):=by kernel_rfl
def fts(P:Program)(t:TypeId):List TypeId:=match P.underlying t with|some (.struct fs)=>fs.toList.map (·.type)|_=>[]
theorem f27:fts Tryd.prog 27=[3,3,22,3,3,24,24,3,25]:=by kernel_rfl
theorem f24:fts Tryd.prog 24=[3,3]:=by kernel_rfl
theorem f68:fts Tryd.prog 68=[24,66]:=by kernel_rfl
theorem clq24:Program.cellsOf Tryd.prog 24=2:=by kernel_rfl
theorem clq68:Program.cellsOf Tryd.prog 68=3:=by kernel_rfl
theorem clq3:Program.cellsOf Tryd.prog 3=1:=by kernel_rfl
theorem zBh{cs:List U}(h:Shp Tryd.prog 3 cs):∃n:Int,cs=[.int .i64 n]:=by
 cases h with
 |int _ k n hu _=>rw[u3]at hu;cases hu;exact⟨n,rfl⟩
 |bool _ _ hu=>rw[u3]at hu;cases hu
 |str _ _ hu=>rw[u3]at hu;cases hu
 |slice _ _ _ hu=>rw[u3]at hu;cases hu
 |struct _ _ _ hu=>rw[u3]at hu;cases hu
 |array _ _ _ _ hu=>rw[u3]at hu;cases hu
theorem zDn{P:Program}{t:TypeId}{cs:List U}(h:Shp P t cs)(hne:fts P t≠[]):∃fs:List Field,fs.map (·.type)=fts P t∧ShpF P fs cs:=by
 have no:∀{ty},P.underlying t=some ty→(∀fs,ty≠.struct fs)→False:=fun hu hn=>hne (by unfold fts;rw[hu];split<;>simp_all)
 cases h with
 |struct _ fs _ hu hf=>exact⟨fs.toList,by unfold fts;rw[hu],hf⟩
 |int _ k n hu _=>exact(no hu (by intro fs h;cases h)).elim
 |bool _ _ hu=>exact(no hu (by intro fs h;cases h)).elim
 |str _ _ hu=>exact(no hu (by intro fs h;cases h)).elim
 |slice _ _ _ hu=>exact(no hu (by intro fs h;cases h)).elim
 |array _ _ _ _ hu=>exact(no hu (by intro fs h;cases h)).elim
theorem wB{P:Program}{fs:List Field}{t:TypeId}{ts:List TypeId}{cs:List U}(h:ShpF P fs cs)(e:fs.map (·.type)=t::ts):∃gs xs ys,cs=xs++ys∧Shp P t xs∧ShpF P gs ys∧gs.map (·.type)=ts:=by
 cases h with
 |nil=>cases e
 |cons f fs xs ys h1 h2=>
  simp only[List.map_cons,List.cons.injEq]at e
  obtain⟨rfl,rfl⟩:=e
  exact⟨fs,xs,ys,rfl,h1,h2,rfl⟩
theorem shpF_nil{P:Program}{fs:List Field}{cs:List U}(h:ShpF P fs cs)(e:fs.map (·.type)=[]):cs=[]:=by
 cases h with
 |nil=>rfl
 |cons=>cases e
theorem zEp{cs:List U}(h:Shp Tryd.prog 24 cs):∃a b:Int,cs=[.int .i64 a,.int .i64 b]:=by
 obtain⟨fs,e,hf⟩:=zDn h (by rw[f24];simp)
 rw[f24]at e
 obtain⟨g1,a1,b1,rfl,k1,r1,e1⟩:=wB hf e
 obtain⟨g2,a2,b2,rfl,k2,r2,e2⟩:=wB r1 e1
 obtain rfl:=shpF_nil r2 e2
 obtain⟨x,rfl⟩:=zBh k1
 obtain⟨y,rfl⟩:=zBh k2
 exact⟨x,y,rfl⟩
theorem zEq{P:Program}{e:TypeId}{α:Type}{f:α→List U}{css:List (List U)}(h:ShpL P e css)(k:∀cs,Shp P e cs→∃q,cs=f q):∃l:List α,css=l.map f:=by
 induction css with
 |nil=>exact⟨[],rfl⟩
 |cons cs css ih=>
  cases h with
  |cons _ _ _ h1 h2=>
   obtain⟨q,rfl⟩:=k _ h1
   obtain⟨l,rfl⟩:=ih h2
   exact⟨q::l,rfl⟩
theorem zFK{P:Program}{t e:TypeId}{cs:List U}(hu:P.underlying t=some (.slice e))(h:Shp P t cs):∃css,ShpL P e css∧cs=[.lst .ro (P.cellsOf e) (css.map (eU P e))]:=by
 cases h with
 |slice _ e' css hu' hl=>rw[hu]at hu';cases hu';exact⟨css,hl,rfl⟩
 |int _ k n hu' _=>rw[hu]at hu';cases hu'
 |bool _ _ hu'=>rw[hu]at hu';cases hu'
 |str _ _ hu'=>rw[hu]at hu';cases hu'
 |struct _ _ _ hu'=>rw[hu]at hu';cases hu'
 |array _ _ _ _ hu'=>rw[hu]at hu';cases hu'
theorem eu68:∀cs,eU Tryd.prog 68 cs=.agg cs:=by
 obtain⟨fs,h⟩:=zDi (P:=Tryd.prog) (t:=68) 2 (by kernel_rfl)
 intro cs;unfold eU;rw[h]
theorem eu24:∀cs,eU Tryd.prog 24 cs=.agg cs:=by
 obtain⟨fs,h⟩:=zDi (P:=Tryd.prog) (t:=24) 2 (by kernel_rfl)
 intro cs;unfold eU;rw[h]
theorem eu3:∀cs,eU Tryd.prog 3 cs=cs.headD .junk:=by
 intro cs;unfold eU;rw[u3]
theorem map_ints{F:List U→U}(he:∀cs,F cs=cs.headD .junk)(l:List Int):(l.map fun n:Int=>[U.int .i64 n]).map F=zE l:=by
 rw[List.map_map]
 exact List.map_congr_left fun q _=>he _
theorem shp_ints{cs:List U}(h:Shp Tryd.prog 22 cs):∃l:List Int,cs=[.lst .ro 1 (zE l)]:=by
 obtain⟨css,hl,rfl⟩:=zFK u22 h
 obtain⟨l,rfl⟩:=zEq (f:=fun n:Int=>[.int .i64 n]) hl fun cs hcs=>zBh hcs
 refine⟨l,?_⟩
 rw[clq3,map_ints eu3]
theorem map_twos{F:List U→U}(he:∀cs,F cs=.agg cs)(l:List Two):(l.map fun q:Two=>[U.int .i64 q.a,.int .i64 q.b]).map F=yd l:=by
 rw[List.map_map]
 exact List.map_congr_left fun q _=>he _
theorem shp_spans{cs:List U}(h:Shp Tryd.prog 66 cs):∃l:List Two,cs=[.lst .ro 2 (yd l)]:=by
 obtain⟨css,hl,rfl⟩:=zFK u66 h
 obtain⟨l,rfl⟩:=zEq (f:=fun q:Two=>[.int .i64 q.a,.int .i64 q.b]) hl fun cs hcs=>by obtain⟨x,y,rfl⟩:=zEp hcs;exact⟨⟨x,y⟩,rfl⟩
 refine⟨l,?_⟩
 rw[clq24,map_twos eu24]
theorem shp_player{cs:List U}(h:Shp Tryd.prog 68 cs):∃p:Pl,cs=p.cs:=by
 obtain⟨fs,e,hf⟩:=zDn h (by rw[f68];simp)
 rw[f68]at e
 obtain⟨g1,a1,b1,rfl,k1,r1,e1⟩:=wB hf e
 obtain⟨g2,a2,b2,rfl,k2,r2,e2⟩:=wB r1 e1
 obtain rfl:=shpF_nil r2 e2
 obtain⟨x,y,rfl⟩:=zEp k1
 obtain⟨l,rfl⟩:=shp_spans k2
 exact⟨⟨x,y,l⟩,rfl⟩
theorem map_pls{F:List U→U}(he:∀cs,F cs=.agg cs)(l:List Pl):(l.map fun q:Pl=>q.cs).map F=plsU l:=by
 rw[List.map_map]
 exact List.map_congr_left fun q _=>he _
theorem shp_players{cs:List U}(h:Shp Tryd.prog 25 cs):∃l:List Pl,cs=[.lst .ro 3 (plsU l)]:=by
 obtain⟨css,hl,rfl⟩:=zFK u25 h
 obtain⟨l,rfl⟩:=zEq (f:=fun q:Pl=>q.cs) hl fun cs hcs=>shp_player hcs
 refine⟨l,?_⟩
 rw[clq68,map_pls eu68]
theorem shp_bk{cs:List U}(h:Shp Tryd.prog 27 cs):∃b:Bk,cs=b.cs:=by
 obtain⟨fs,e,hf⟩:=zDn h (by rw[f27];simp)
 rw[f27]at e
 obtain⟨g1,a1,b1,rfl,k1,r1,e1⟩:=wB hf e
 obtain⟨g2,a2,b2,rfl,k2,r2,e2⟩:=wB r1 e1
 obtain⟨g3,a3,b3,rfl,k3,r3,e3⟩:=wB r2 e2
 obtain⟨g4,a4,b4,rfl,k4,r4,e4⟩:=wB r3 e3
 obtain⟨g5,a5,b5,rfl,k5,r5,e5⟩:=wB r4 e4
 obtain⟨g6,a6,b6,rfl,k6,r6,e6⟩:=wB r5 e5
 obtain⟨g7,a7,b7,rfl,k7,r7,e7⟩:=wB r6 e6
 obtain⟨g8,a8,b8,rfl,k8,r8,e8⟩:=wB r7 e7
 obtain⟨g9,a9,b9,rfl,k9,r9,e9⟩:=wB r8 e8
 obtain rfl:=shpF_nil r9 e9
 obtain⟨parts,rfl⟩:=zBh k1
 obtain⟨size,rfl⟩:=zBh k2
 obtain⟨beats,rfl⟩:=shp_ints k3
 obtain⟨start,rfl⟩:=zBh k4
 obtain⟨fin,rfl⟩:=zBh k5
 obtain⟨tlo,thi,rfl⟩:=zEp k6
 obtain⟨slo,shi,rfl⟩:=zEp k7
 obtain⟨notice,rfl⟩:=zBh k8
 obtain⟨players,rfl⟩:=shp_players k9
 exact⟨⟨parts,size,beats,start,fin,tlo,thi,slo,shi,notice,players⟩,rfl⟩
theorem und27:∃fs,Tryd.prog.underlying 27=some (.struct fs):=zDi (P:=Tryd.prog) (t:=27) 9 (by kernel_rfl)
theorem arg_bk{u:U}(h:∃cs,u=.agg cs∧Shp Tryd.prog 27 cs):∃b:Bk,u=b.u:=by
 obtain⟨cs,rfl,h⟩:=h
 obtain⟨b,rfl⟩:=shp_bk h
 exact⟨b,rfl⟩
theorem arg_ints{u:U}(h:Shp Tryd.prog 22 [u]):∃l:List Int,u=.lst .ro 1 (zE l):=by
 obtain⟨l,e⟩:=shp_ints h
 cases e
 exact⟨l,rfl⟩
end
section
variable {is:FuncId→Bool}{orc:Known}
theorem u28:Tryd.prog.underlying 28=some (.array 2 3):=by kernel_rfl
theorem shp_arr{t n:Nat}(hu:Tryd.prog.underlying t=some (.array n 3)){cs:List U}(h:Shp Tryd.prog t cs):∃l:List Int,l.length=n∧cs=(l.map fun n:Int=>[U.int .i64 n]).flatten:=by
 cases h with
 |array _ n e css hu' hl hn=>
  rw[hu]at hu';cases hu'
  obtain⟨l,rfl⟩:=zEq (f:=fun n:Int=>[U.int .i64 n]) hl fun cs hcs=>zBh hcs
  rw[List.length_map]at hn
  exact⟨l,hn,rfl⟩
 |int _ k n hu' _=>rw[hu]at hu';cases hu'
 |bool _ _ hu'=>rw[hu]at hu';cases hu'
 |str _ _ hu'=>rw[hu]at hu';cases hu'
 |slice _ _ _ hu'=>rw[hu]at hu';cases hu'
 |struct _ _ _ hu'=>rw[hu]at hu';cases hu'
theorem arg_two{u:U}(h:∃cs,u=.agg cs∧Shp Tryd.prog 28 cs):∃a b:Int,u=.agg [.int .i64 a,.int .i64 b]:=by
 obtain⟨cs,rfl,h⟩:=h
 obtain⟨l,hl,rfl⟩:=shp_arr u28 h
 match l,hl with
 |[a,b],_=>exact⟨a,b,rfl⟩
end
section
variable {is:FuncId→Bool}{orc:Known}
theorem ret3_all(hi:Off is)(r24:RetP Tryd.prog is orc 24 [] (.bool true)):∀us,ShpAs Tryd.prog [27,22,28] us→RetP Tryd.prog is orc 3 us (.bool true):=by
 intro us h
 cases h with
 |cons _ _ u us h1 h=>cases h with
 |cons _ _ v us h2 h=>cases h with
 |cons _ _ x us h3 h=>
 cases h
 obtain⟨fs,hu⟩:=und27
 unfold ShpA at h1 h2 h3
 rw[hu]at h1
 rw[u22]at h2
 rw[u28]at h3
 obtain⟨b,rfl⟩:=arg_bk h1
 obtain⟨l,rfl⟩:=arg_ints h2
 obtain⟨n0,n1,rfl⟩:=arg_two h3
 exact ret3 hi b l n0 n1 r24
end
end Go.Proofs.YtfbmlibilcjlgaaDoor.drumPaths
