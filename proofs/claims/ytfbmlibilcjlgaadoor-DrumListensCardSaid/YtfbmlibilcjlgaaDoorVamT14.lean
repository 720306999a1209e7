import Derived.Test.YtfbmlibilcjlgaaDoorVamT13
set_option linter.unusedVariables false
set_option linter.unusedSimpArgs false
set_option linter.constructorNameAsVariable false
namespace Go.Proofs.YtfbmlibilcjlgaaDoor.drumListens
open Vam
variable {is:FuncId→Bool}{orc:Known}
noncomputable def b87:Code:=(Tryd.f87.body).getD .skip
theorem body87:bodyOf Tryd.prog 87=some (8,b87,[.tmp 2]):=by kernel_rfl
theorem pure87:pureFn Tryd.prog 87=true:=by kernel_rfl
noncomputable def b39:Code:=(Tryd.f39.body).getD .skip
theorem body39:bodyOf Tryd.prog 39=some (50,b39,[.tmp 4]):=by kernel_rfl
theorem pure39:pureFn Tryd.prog 39=true:=by kernel_rfl
theorem ret87(hi:Off is)(n:Int)(hn: -100≤n∧n≤100):RetP Tryd.prog is orc 87 [.int .i64 n] (.int .i64 (max n (-n))):=by
 refine zw body87 pure87 (hi 87 (by decide)) rfl rfl (zAA (.int _ _ _)) (.inl (.int _ _ _)) ?_
 by_cases h:n<0
 ·rw[show max n (-n)= -n by omega]
  refine kQ (zC rfl (zB (k_seq (kQ (zA rfl (zc rfl rfl rfl (zB (k_cT rfl (decide_eq_true (by omega)) ?_))))))))
  refine kQ (zA rfl ?_)
  refine o_neg rfl rfl (by unfold I64;omega) ?_
  refine zC rfl (zB (zU ?_))
  refine⟨.inr rfl,_,.cons _ _ _ _ (.tmp 2) .nil,?_⟩
  exact .refl _
 ·rw[show max n (-n)=n by omega]
  refine kQ (zC rfl (zB (k_seq (kQ (zA rfl (zc rfl rfl rfl (zB (k_cF rfl (decide_eq_false (by omega)) ?_))))))))
  refine zQ (kQ (zA rfl (zC rfl (zB (zU ?_)))))
  refine⟨.inr rfl,_,.cons _ _ _ _ (.tmp 2) .nil,?_⟩
  exact .refl _
set_option maxHeartbeats 8000000 in
theorem ret39(hi:Off is){b:Bk}{L:List Int}(hb:BOk b)(h:POk b L):RetP Tryd.prog is orc 39 [b.u,.lst .ro 1 (zD L)] (.bool true):=by
 refine zw body39 pure39 (hi 39 (by decide)) rfl rfl (yj (yg b 4) (zg 6 .ro (fun h=>by cases h) 1 L)) (.inl (.bool _ _)) ?_
 have hp:=hb.pa
 have hlen:=h.len
 have h0:=h.st
 refine kQ (zr rfl rfl (zC rfl (zB ?_)))
 refine zK [(1,.lst .ro 1 (zD L)),(2,U.box 0 0)] ([SB.box [.int .i64 (Bk.parts b),.int .i64 (Bk.size b),.lst .ro 1 (zD (Bk.beats b)),.int .i64 (Bk.start b),.int .i64 (Bk.fin b),.int .i64 (Bk.tlo b),.int .i64 (Bk.thi b),.int .i64 (Bk.slo b),.int .i64 (Bk.shi b),.int .i64 (Bk.notice b),.lst .ro 3 (plsU (Bk.players b))]]) (.cons rfl (.cons rfl (.nil rfl))) rfl fun fr=>?_
 refine k_seq (k_seq (ya [.plain,.read true,.plain,.read true,.plain,.plain,.plain,.plain,.plain,.plain,.plain,.plain,.plain,.read true,.plain,.read true,.plain,.plain] (by kernel_rfl) (by kernel_rfl) (by kernel_rfl) ?_))
 refine zE (zA rfl (zB rfl)) (zb rfl (yB rfl ty22 rfl (List.length_map _) (zB rfl)) ?_)
 refine zE (zF rfl rfl yp (zB rfl)) ?_
 refine zb rfl (zG rfl rfl rfl sh3 rfl (zB rfl)) (zE (zAr rfl rfl rfl (zB rfl)) ?_)
 refine zE (zA rfl (zB rfl)) (d_gD rfl rfl rfl rfl (decide_eq_false (by omega)) ?_)
 refine zE (zA rfl (zB rfl)) (d_gD rfl rfl rfl rfl (decide_eq_false (by omega)) ?_)
 refine zE (yB rfl ty22 rfl (List.length_map _) (zB rfl)) ?_
 refine d_gD rfl rfl rfl rfl (decide_eq_false (by omega)) ?_
 refine zE (wG rfl rfl rfl (zB rfl)) ?_
 refine zBX [(1,.lst .ro 1 (zD L)),(2,U.box 0 0),(11,U.bool (decide (↑(List.length L)≠Bk.parts b))),(14,U.bool (decide (↑(List.length L)=(0:Int))))] [] ([SB.box [.int .i64 (Bk.parts b),.int .i64 (Bk.size b),.lst .ro 1 (zD (Bk.beats b)),.int .i64 (Bk.start b),.int .i64 (Bk.fin b),.int .i64 (Bk.tlo b),.int .i64 (Bk.thi b),.int .i64 (Bk.slo b),.int .i64 (Bk.shi b),.int .i64 (Bk.notice b),.lst .ro 3 (plsU (Bk.players b))]]) (.c4 rfl rfl rfl rfl (.nil rfl)) rfl rfl fun fr=>?_
 refine zE (zR rfl rfl (decide_eq_false (by omega)) (zB rfl)) ?_
 refine zE (zA rfl (zB rfl)) (d_gD rfl rfl rfl rfl (decide_eq_false (by omega)) ?_)
 refine zE (zA rfl (zB rfl)) (d_gD rfl rfl rfl rfl (decide_eq_false (by omega)) ?_)
 refine zE (yb (u:=.int .i64 (Bk.start b)) rfl ty22 rfl rfl (Int.natCast_nonneg _) (by simp[h0]) cl3 (zB rfl)) ?_
 refine d_gD rfl rfl rfl rfl (decide_eq_false (by omega)) ?_
 refine zb rfl (zZ rfl rfl sh3 rfl (zB rfl)) ?_
 refine d_gD rfl rfl rfl rfl (decide_eq_false (by omega)) ?_
 refine zE (zF rfl rfl zGJ (zB rfl)) ?_
 refine d_gD rfl rfl rfl rfl (decide_eq_false (by omega)) ?_
 refine zb rfl (zG rfl rfl rfl sh3 rfl (zB rfl)) (d_gD rfl rfl rfl rfl (decide_eq_false (by omega)) ?_)
 refine zE (zAr rfl rfl rfl (zB rfl)) ?_
 refine zE (zR rfl rfl (decide_eq_false (by omega)) (zB rfl)) ?_
 refine wb ?_
 refine zK [(1,.lst .ro 1 (zD L)),(23,U.bool (decide (Bk.start b≠Bk.start b)))] ([SB.box [.int .i64 (Bk.parts b),.int .i64 (Bk.size b),.lst .ro 1 (zD (Bk.beats b)),.int .i64 (Bk.start b),.int .i64 (Bk.fin b),.int .i64 (Bk.tlo b),.int .i64 (Bk.thi b),.int .i64 (Bk.slo b),.int .i64 (Bk.shi b),.int .i64 (Bk.notice b),.lst .ro 3 (plsU (Bk.players b))]]) (.cons rfl (.cons rfl (.nil rfl))) rfl fun fr=>?_
 refine k_cF rfl (decide_eq_false (by omega)) (zQ (k_seq (kQ (zC rfl (zB (zM ?_))))))
 refine yi (fun kk s2=>∃k:Nat,kk+k+1=L.length∧s2.st=[.box [.int .i64 b.parts,.int .i64 b.size,.lst .ro 1 (zD b.beats),.int .i64 b.start,.int .i64 b.fin,.int .i64 b.tlo,.int .i64 b.thi,.int .i64 b.slo,.int .i64 b.shi,.int .i64 b.notice,.lst .ro 3 (plsU b.players)]]∧Holds s2 [(1,.lst .ro 1 (zD L)),(5,.int .i64 (k+1))]) (fun kk s2 hI=>?_) (L.length - 1) _ ⟨0,by omega,rfl,.cons rfl (.cons rfl (.nil rfl))⟩
 obtain⟨k,hk,hst2,hs2⟩:=hI
 refine zK _ _ hs2 hst2 fun fr2=>?_
 by_cases hin:k+1<L.length
 ·obtain⟨x,hx⟩:∃x,L[k]? =some x:=⟨L[k],List.getElem?_eq_getElem (by omega)⟩
  obtain⟨y,hy⟩:∃y,L[k+1]? =some y:=⟨L[k+1],List.getElem?_eq_getElem hin⟩
  have hxr:=h.rg x (List.mem_of_getElem? hx)
  have hyr:=h.rg y (List.mem_of_getElem? hy)
  have hn:=h.nr k x y hx hy
  have hy2:L[((k:Int)+1).toNat]? =some y:=by rw[show((k:Int)+1).toNat=k+1 by omega];exact hy
  have hx2:L[((k:Int)+1 - 1).toNat]? =some x:=by rw[show((k:Int)+1 - 1).toNat=k by omega];exact hx
  have q52:=ret52 (orc:=orc) hi y 0 3
  rw[zDZ.2 hyr]at q52
  have q87:=ret87 (orc:=orc) hi (y - x) (by omega)
  have hmx:max (y - x) (-(y - x))≤1:=by omega
  generalize max (y - x) (-(y - x))=mx at*
  refine k_seq (kQ (zA rfl (zA rfl (yB rfl ty22 rfl (List.length_map _) ?_))))
  refine zc rfl rfl rfl (zB (k_cT rfl (decide_eq_true (by omega)) (zQ (k_seq (zM (k_seq (ya [.plain,.plain,.plain,.plain,.plain,.plain,.plain,.plain,.plain,.plain,.read true,.plain,.plain,.plain,.plain,.read true,.plain,.plain,.plain,.plain] (by kernel_rfl) (by kernel_rfl) (by kernel_rfl) ?_)))))))
  refine zE (zA rfl (zB rfl)) (zE (zA rfl (zB rfl)) ?_)
  refine zE (yb (u:=.int .i64 y) rfl ty22 rfl rfl (by omega) (by rw[List.getElem?_map,hy2];rfl) cl3 (zB rfl)) ?_
  refine zE (zZ rfl rfl sh3 rfl (zB rfl)) ?_
  refine zE (zN rfl (q52) (.lrefl _) (zB rfl)) ?_
  refine zE (wI rfl rfl (zB rfl)) ?_
  refine zE (zA rfl (zB rfl)) (d_gD rfl rfl rfl rfl rfl (zE (zA rfl (zB rfl)) (d_gD rfl rfl rfl rfl rfl (zE (zA rfl (zB rfl)) ?_))))
  refine zBX [(1,.lst .ro 1 (zD L)),(5,.int .i64 (↑k+(1:Int))),(36,U.bool !Bool.true),(37,.lst .ro 1 (zD L)),(38,.int .i64 (↑k+(1:Int)))] [] ([SB.box [.int .i64 (Bk.parts b),.int .i64 (Bk.size b),.lst .ro 1 (zD (Bk.beats b)),.int .i64 (Bk.start b),.int .i64 (Bk.fin b),.int .i64 (Bk.tlo b),.int .i64 (Bk.thi b),.int .i64 (Bk.slo b),.int .i64 (Bk.shi b),.int .i64 (Bk.notice b),.lst .ro 3 (plsU (Bk.players b))]]) (.c4 rfl rfl rfl rfl (.cons rfl (.nil rfl))) rfl rfl fun fr=>?_
  refine d_gD rfl rfl rfl rfl rfl ?_
  refine zE (yb (u:=.int .i64 y) rfl ty22 rfl rfl (by omega) (by rw[List.getElem?_map,hy2];rfl) cl3 (zB rfl)) ?_
  refine d_gD rfl rfl rfl rfl rfl (zb rfl (zZ rfl rfl sh3 rfl (zB rfl)) ?_)
  refine d_gD rfl rfl rfl rfl rfl (zE (zA rfl (zB rfl)) (d_gD rfl rfl rfl rfl rfl (zE (zA rfl (zB rfl)) (d_gD rfl rfl rfl rfl rfl ?_))))
  refine zE (wF rfl rfl rfl (by unfold I64;omega) (zB rfl)) ?_
  refine d_gD rfl rfl rfl rfl rfl ?_
  refine zE (yb (u:=.int .i64 x) rfl ty22 rfl rfl (by omega) (by rw[List.getElem?_map,hx2];rfl) cl3 (zB rfl)) ?_
  refine d_gD rfl rfl rfl rfl rfl (zb rfl (zZ rfl rfl sh3 rfl (zB rfl)) ?_)
  refine d_gD rfl rfl rfl rfl rfl ?_
  refine zE (wF rfl rfl rfl (by unfold I64;omega) (zB rfl)) ?_
  refine d_gD rfl rfl rfl rfl rfl (zE (zN rfl (q87) (.lrefl _) (zB rfl)) ?_)
  refine zBX [(1,.lst .ro 1 (zD L)),(5,.int .i64 (↑k+(1:Int))),(36,U.bool !Bool.true),(37,.lst .ro 1 (zD L)),(38,.int .i64 (↑k+(1:Int))),(39,U.eref [.int .i64 y] 0),(40,.int .i64 y),(41,.lst .ro 1 (zD L)),(42,.int .i64 (↑k+(1:Int))),(43,.int .i64 (↑k+(1:Int) - (1:Int))),(44,U.eref [.int .i64 x] 0),(45,.int .i64 x),(46,.int .i64 (y - x)),(47,.int .i64 mx)] [] ([SB.box [.int .i64 (Bk.parts b),.int .i64 (Bk.size b),.lst .ro 1 (zD (Bk.beats b)),.int .i64 (Bk.start b),.int .i64 (Bk.fin b),.int .i64 (Bk.tlo b),.int .i64 (Bk.thi b),.int .i64 (Bk.slo b),.int .i64 (Bk.shi b),.int .i64 (Bk.notice b),.lst .ro 3 (plsU (Bk.players b))]]) (.c4 rfl rfl rfl rfl (.c4 rfl rfl rfl rfl (.c4 rfl rfl rfl rfl (.cons rfl (.cons rfl (.nil rfl)))))) rfl rfl fun fr=>?_
  refine d_gD rfl rfl rfl rfl rfl ?_
  refine zBX [(1,.lst .ro 1 (zD L)),(5,.int .i64 (↑k+(1:Int))),(36,U.bool !Bool.true),(37,.lst .ro 1 (zD L)),(38,.int .i64 (↑k+(1:Int))),(39,U.eref [.int .i64 y] 0),(40,.int .i64 y),(41,.lst .ro 1 (zD L)),(42,.int .i64 (↑k+(1:Int))),(43,.int .i64 (↑k+(1:Int) - (1:Int))),(44,U.eref [.int .i64 x] 0),(45,.int .i64 x),(46,.int .i64 (y - x)),(47,.int .i64 mx)] [] ([SB.box [.int .i64 (Bk.parts b),.int .i64 (Bk.size b),.lst .ro 1 (zD (Bk.beats b)),.int .i64 (Bk.start b),.int .i64 (Bk.fin b),.int .i64 (Bk.tlo b),.int .i64 (Bk.thi b),.int .i64 (Bk.slo b),.int .i64 (Bk.shi b),.int .i64 (Bk.notice b),.lst .ro 3 (plsU (Bk.players b))]]) (.c4 rfl rfl rfl rfl (.c4 rfl rfl rfl rfl (.c4 rfl rfl rfl rfl (.cons rfl (.cons rfl (.nil rfl)))))) rfl rfl fun fr=>?_
  refine zE (o_gtr rfl rfl rfl (zB rfl)) ?_
  refine zE (zR rfl rfl rfl (zB rfl)) ?_
  refine wb ?_
  refine zK [(1,.lst .ro 1 (zD L)),(5,.int .i64 (↑k+(1:Int))),(37,.lst .ro 1 (zD L)),(38,.int .i64 (↑k+(1:Int))),(39,U.eref [.int .i64 y] 0),(40,.int .i64 y),(41,.lst .ro 1 (zD L)),(42,.int .i64 (↑k+(1:Int))),(43,.int .i64 (↑k+(1:Int) - (1:Int))),(44,U.eref [.int .i64 x] 0),(45,.int .i64 x),(46,.int .i64 (y - x)),(47,.int .i64 mx),(48,U.bool (decide ((1:Int)<mx))),(49,U.bool (decide ((1:Int)<mx)))] ([SB.box [.int .i64 (Bk.parts b),.int .i64 (Bk.size b),.lst .ro 1 (zD (Bk.beats b)),.int .i64 (Bk.start b),.int .i64 (Bk.fin b),.int .i64 (Bk.tlo b),.int .i64 (Bk.thi b),.int .i64 (Bk.slo b),.int .i64 (Bk.shi b),.int .i64 (Bk.notice b),.lst .ro 3 (plsU (Bk.players b))]]) (.c4 rfl rfl rfl rfl (.c4 rfl rfl rfl rfl (.c4 rfl rfl rfl rfl (.cons rfl (.cons rfl (.cons rfl (.nil rfl))))))) rfl fun fr=>?_
  refine k_cF rfl (decide_eq_false (by omega)) (zQ (k_region (zA rfl ?_)))
  refine yU rfl rfl rfl (by unfold I64;omega) (zC rfl (zB ?_))
  exact⟨kk - 1,by omega,k+1,by omega,rfl,.cons rfl (.cons rfl (.nil rfl))⟩
 ·refine k_seq ?_
  refine kQ (zA rfl (zA rfl (yB rfl ty22 rfl (List.length_map _) ?_)))
  refine zc rfl rfl rfl (zB (k_cF rfl (decide_eq_false (by omega)) (yX (kQ (zC rfl (zB (zU ?_)))))))
  refine⟨.inr rfl,_,.cons _ _ _ _ (.tmp 4) .nil,?_⟩
  exact .refl _
end Go.Proofs.YtfbmlibilcjlgaaDoor.drumListens
