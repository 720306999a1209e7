import Derived.Test.YtfbmlibilcjlgaaDoorVamT25
set_option linter.unusedVariables false
set_option linter.unusedSimpArgs false
set_option linter.constructorNameAsVariable false
namespace Go.Proofs.YtfbmlibilcjlgaaDoor.drumBounds
open Vam
variable {is:FuncId→Bool}{orc:Known}{b:Bk}
noncomputable def b72:Code:=(Tryd.f72.body).getD .skip
theorem body72:bodyOf Tryd.prog 72=some (35,b72,[.tmp 4]):=by kernel_rfl
theorem pure72:pureFn Tryd.prog 72=true:=by kernel_rfl
theorem plan_lat(hb:BOk b){L:List Int}(h:POk b L):zBh b L=(decide ((L[b.parts.toNat - 1]?).getD 0=b.fin)&&(inS b.tlo b.thi (zAL b L L.length)&&decide (((lasL b L).length:Int)=0))):=by
 unfold zBh lasL
 rw[if_pos (zEM.2 ⟨hb,h⟩),zero_lat hb h.rg]
 congr 2
 rw[Bool.eq_iff_iff,decide_eq_true_eq,decide_eq_true_eq]
 omega
set_option maxHeartbeats 8000000 in
theorem ret72(hi:Off is)(hb:BOk b){L:List Int}(h:POk b L):RetP Tryd.prog is orc 72 [b.u,.lst .ro 1 (zG L)] (.bool (zBh b L)):=by
 refine zk body72 pure72 (hi 72 (by decide)) rfl rfl (yM (yK b 4) (zr 6 .ro (fun h=>by cases h) 1 L)) (.inl (.bool _ _)) ?_
 have q22:=ret22 (orc:=orc) hi b L
 have hlen:=h.len
 have hpa:=hb.pa
 have hl8:L.length≤8:=by omega
 have q57:=ret57 (orc:=orc) hi hb h.rg hl8
 have q40:=ret40 (orc:=orc) hi b.tlo b.thi (zAL b L L.length)
 rw[plan_lat hb h]
 obtain⟨x,hx⟩:∃x,L[b.parts.toNat - 1]? =some x:=⟨L[b.parts.toNat - 1]'(by omega),List.getElem?_eq_getElem (by omega)⟩
 rw[hx]
 have hx2:L[((L.length:Int) - 1).toNat]? =some x:=by rw[show((L.length:Int) - 1).toNat=b.parts.toNat - 1 by omega];exact hx
 show Wp _ _ _ _ _ (fun e s=>_∧∃us,_∧UW _ (.u (.bool (decide (x=b.fin)&&_))))
 generalize inS b.tlo b.thi (zAL b L L.length)=z2 at*
 generalize errI b L=er at*
 generalize lasL b L=A at*
 generalize zAL b L L.length=la at*
 by_cases h1:x=b.fin
 ·rw[decide_eq_true h1,Bool.true_and]
  cases z2 with
  |true=>
   rw[Bool.true_and]
   refine kQ (zc rfl rfl (zB rfl (zA ?_)))
   refine zH [(1,.lst .ro 1 (zG L)),(2,U.box 0 0)] ([SB.box (Bk.cs b)]) (.cons rfl (.cons rfl (.nil rfl))) rfl fun fr=>?_
   refine kQ (zJ rfl rfl rfl sh27 rfl (zC rfl (zP rfl (q22) (.lrefl _) (zC rfl (zX rfl rfl rfl (zX rfl rfl rfl (zB rfl (zB rfl ?_))))))))
   refine zA (k_seq (yL [.plain,.plain,.read true,.plain,.plain,.read true,.plain,.read true,.plain,.plain,.plain,.read true,.read true,.plain,.read false,.plain,.plain,.plain,.plain,.plain,.plain,.plain,.plain] (by kernel_rfl) (by kernel_rfl) (by kernel_rfl) ?_))
   refine zD (zC rfl (zA rfl)) (zD (zC rfl (zA rfl)) (zR rfl (yF rfl ty22 rfl (List.length_map _) (zA rfl)) ?_))
   refine zD (yn rfl rfl rfl (by unfold I64;omega) (zA rfl)) ?_
   refine zD (yD (u:=.int .i64 x) rfl ty22 rfl rfl (by omega) (by rw[List.getElem?_map,hx2];rfl) cl3 (zA rfl)) ?_
   refine zR rfl (zT rfl rfl sh3 rfl (zA rfl)) ?_
   refine zD (zE rfl rfl zEo (zA rfl)) ?_
   refine zR rfl (zF rfl rfl rfl sh3 rfl (zA rfl)) (zD (zAt rfl rfl rfl (zA rfl)) ?_)
   refine yI [(1,.lst .ro 1 (zG L)),(2,U.box 0 0),(5,.lst .ro 1 (zG A)),(21,U.bool (decide (x=Bk.fin b)))] [] ([SB.box (Bk.cs b)]) (.c4 rfl rfl rfl rfl (.nil rfl)) rfl rfl fun fr=>?_
   refine zD (zC rfl (zA rfl)) (d_gD rfl rfl rfl rfl (decide_eq_true (by omega)) ?_)
   refine zD (zE rfl rfl zGa (zA rfl)) ?_
   refine d_gD rfl rfl rfl rfl (decide_eq_true (by omega)) ?_
   refine zR rfl (zJ rfl rfl rfl sh24 rfl (zA rfl)) ?_
   refine d_gD rfl rfl rfl rfl (decide_eq_true (by omega)) ?_
   refine zR rfl (zJ rfl rfl rfl sh27 rfl (zA rfl)) ?_
   refine d_gD rfl rfl rfl rfl (decide_eq_true (by omega)) ?_
   refine zD (zC rfl (zA rfl)) (d_gD rfl rfl rfl rfl (decide_eq_true (by omega)) ?_)
   refine zBQ rfl (q57) (.int _ _) (.lrefl _) ?_
   refine d_gD rfl rfl rfl rfl (decide_eq_true (by omega)) ?_
   refine zD (zP rfl (q40) (.lrefl _) (zA rfl)) ?_
   refine zD (za rfl rfl (decide_eq_true (by omega)) (zA rfl)) ?_
   refine zD (zC rfl (zA rfl)) ?_
   refine yI [(5,.lst .ro 1 (zG A)),(30,.bool true)] [] ([SB.box (Bk.cs b)]) (.cons rfl (.cons rfl (.nil rfl))) rfl rfl fun fr=>?_
   refine d_gD rfl rfl rfl rfl rfl ?_
   refine yI [(5,.lst .ro 1 (zG A)),(30,.bool true)] [] ([SB.box (Bk.cs b)]) (.cons rfl (.cons rfl (.nil rfl))) rfl rfl fun fr=>?_
   refine zD (zC rfl (zA rfl)) (d_gD rfl rfl rfl rfl rfl (zD (yF rfl ty22 rfl (List.length_map _) (zA rfl)) ?_))
   refine d_gD rfl rfl rfl rfl rfl (zD (zAt rfl rfl rfl (zA rfl)) ?_)
   refine zD (za rfl rfl rfl (zA rfl)) ?_
   refine zD (zB rfl (zA rfl)) ?_
   refine yw ?_
   refine zU ?_
   refine⟨.inr rfl,_,.cons _ _ _ _ (.tmp 4) .nil,?_⟩
   exact .refl _
   done
  |false=>
   rw[Bool.false_and]
   refine kQ (zc rfl rfl (zB rfl (zA ?_)))
   refine zH [(1,.lst .ro 1 (zG L)),(2,U.box 0 0)] ([SB.box (Bk.cs b)]) (.cons rfl (.cons rfl (.nil rfl))) rfl fun fr=>?_
   refine kQ (zJ rfl rfl rfl sh27 rfl (zC rfl (zP rfl (q22) (.lrefl _) (zC rfl (zX rfl rfl rfl (zX rfl rfl rfl (zB rfl (zB rfl ?_))))))))
   refine zA (k_seq (yL [.plain,.plain,.read true,.plain,.plain,.read true,.plain,.read true,.plain,.plain,.plain,.read true,.read true,.plain,.read false,.plain,.plain,.plain,.plain,.plain,.plain,.plain,.plain] (by kernel_rfl) (by kernel_rfl) (by kernel_rfl) ?_))
   refine zD (zC rfl (zA rfl)) (zD (zC rfl (zA rfl)) (zR rfl (yF rfl ty22 rfl (List.length_map _) (zA rfl)) ?_))
   refine zD (yn rfl rfl rfl (by unfold I64;omega) (zA rfl)) ?_
   refine zD (yD (u:=.int .i64 x) rfl ty22 rfl rfl (by omega) (by rw[List.getElem?_map,hx2];rfl) cl3 (zA rfl)) ?_
   refine zR rfl (zT rfl rfl sh3 rfl (zA rfl)) ?_
   refine zD (zE rfl rfl zEo (zA rfl)) ?_
   refine zR rfl (zF rfl rfl rfl sh3 rfl (zA rfl)) (zD (zAt rfl rfl rfl (zA rfl)) ?_)
   refine yI [(1,.lst .ro 1 (zG L)),(2,U.box 0 0),(5,.lst .ro 1 (zG A)),(21,U.bool (decide (x=Bk.fin b)))] [] ([SB.box (Bk.cs b)]) (.c4 rfl rfl rfl rfl (.nil rfl)) rfl rfl fun fr=>?_
   refine zD (zC rfl (zA rfl)) (d_gD rfl rfl rfl rfl (decide_eq_true (by omega)) ?_)
   refine zD (zE rfl rfl zGa (zA rfl)) ?_
   refine d_gD rfl rfl rfl rfl (decide_eq_true (by omega)) ?_
   refine zR rfl (zJ rfl rfl rfl sh24 rfl (zA rfl)) ?_
   refine d_gD rfl rfl rfl rfl (decide_eq_true (by omega)) ?_
   refine zR rfl (zJ rfl rfl rfl sh27 rfl (zA rfl)) ?_
   refine d_gD rfl rfl rfl rfl (decide_eq_true (by omega)) ?_
   refine zD (zC rfl (zA rfl)) (d_gD rfl rfl rfl rfl (decide_eq_true (by omega)) ?_)
   refine zBQ rfl (q57) (.int _ _) (.lrefl _) ?_
   refine d_gD rfl rfl rfl rfl (decide_eq_true (by omega)) ?_
   refine zD (zP rfl (q40) (.lrefl _) (zA rfl)) ?_
   refine zD (za rfl rfl (decide_eq_true (by omega)) (zA rfl)) ?_
   refine zD (zC rfl (zA rfl)) ?_
   refine yI [(5,.lst .ro 1 (zG A)),(30,.bool false)] [] ([SB.box (Bk.cs b)]) (.cons rfl (.cons rfl (.nil rfl))) rfl rfl fun fr=>?_
   refine d_gS rfl rfl rfl rfl rfl (d_gS rfl rfl rfl rfl rfl (d_gS rfl rfl rfl rfl rfl (zD (zN rfl rfl rfl (zA rfl)) ?_)))
   refine zD (zB rfl (zA rfl)) ?_
   refine yw ?_
   refine zU ?_
   refine⟨.inr rfl,_,.cons _ _ _ _ (.tmp 4) .nil,?_⟩
   exact .refl _
   done
 ·rw[decide_eq_false h1,Bool.false_and]
  refine kQ (zc rfl rfl (zB rfl (zA ?_)))
  refine zH [(1,.lst .ro 1 (zG L)),(2,U.box 0 0)] ([SB.box (Bk.cs b)]) (.cons rfl (.cons rfl (.nil rfl))) rfl fun fr=>?_
  refine kQ (zJ rfl rfl rfl sh27 rfl (zC rfl (zP rfl (q22) (.lrefl _) (zC rfl (zX rfl rfl rfl (zX rfl rfl rfl (zB rfl (zB rfl ?_))))))))
  refine zA (k_seq (yL [.plain,.plain,.read true,.plain,.plain,.read true,.plain,.read true,.plain,.plain,.plain,.read true,.read true,.plain,.read false,.plain,.plain,.plain,.plain,.plain,.plain,.plain,.plain] (by kernel_rfl) (by kernel_rfl) (by kernel_rfl) ?_))
  refine zD (zC rfl (zA rfl)) (zD (zC rfl (zA rfl)) (zR rfl (yF rfl ty22 rfl (List.length_map _) (zA rfl)) ?_))
  refine zD (yn rfl rfl rfl (by unfold I64;omega) (zA rfl)) ?_
  refine zD (yD (u:=.int .i64 x) rfl ty22 rfl rfl (by omega) (by rw[List.getElem?_map,hx2];rfl) cl3 (zA rfl)) ?_
  refine zR rfl (zT rfl rfl sh3 rfl (zA rfl)) ?_
  refine zD (zE rfl rfl zEo (zA rfl)) ?_
  refine zR rfl (zF rfl rfl rfl sh3 rfl (zA rfl)) (zD (zAt rfl rfl rfl (zA rfl)) ?_)
  refine yI [(1,.lst .ro 1 (zG L)),(2,U.box 0 0),(5,.lst .ro 1 (zG A)),(21,U.bool (decide (x=Bk.fin b)))] [] ([SB.box (Bk.cs b)]) (.c4 rfl rfl rfl rfl (.nil rfl)) rfl rfl fun fr=>?_
  refine zD (zC rfl (zA rfl)) (d_gS rfl rfl rfl rfl (decide_eq_false (by omega)) ?_)
  refine d_gS rfl rfl rfl rfl (decide_eq_false (by omega)) ?_
  refine d_gS rfl rfl rfl rfl (decide_eq_false (by omega)) ?_
  refine d_gS rfl rfl rfl rfl (decide_eq_false (by omega)) ?_
  refine d_gS rfl rfl rfl rfl (decide_eq_false (by omega)) ?_
  refine d_gS rfl rfl rfl rfl (decide_eq_false (by omega)) ?_
  refine zD (zN rfl rfl (decide_eq_false (by omega)) (zA rfl)) ?_
  refine zD (zC rfl (zA rfl)) ?_
  refine yI [(5,.lst .ro 1 (zG A)),(30,.bool false)] [] ([SB.box (Bk.cs b)]) (.cons rfl (.cons rfl (.nil rfl))) rfl rfl fun fr=>?_
  refine d_gS rfl rfl rfl rfl rfl (d_gS rfl rfl rfl rfl rfl (d_gS rfl rfl rfl rfl rfl (zD (zN rfl rfl rfl (zA rfl)) ?_)))
  refine zD (zB rfl (zA rfl)) ?_
  refine yw ?_
  refine zU ?_
  refine⟨.inr rfl,_,.cons _ _ _ _ (.tmp 4) .nil,?_⟩
  exact .refl _
  done
end Go.Proofs.YtfbmlibilcjlgaaDoor.drumBounds
