import Derived.Test.YtfbmlibilcjlgaaDoorVamT21
set_option linter.unusedVariables false
set_option linter.unusedSimpArgs false
set_option linter.constructorNameAsVariable false
namespace Go.Proofs.YtfbmlibilcjlgaaDoor.drumPlans
open Vam
variable {is:FuncId→Bool}{orc:Known}{b:Bk}
noncomputable def b72:Code:=(Tryd.f72.body).getD .skip
theorem body72:bodyOf Tryd.prog 72=some (35,b72,[.tmp 4]):=by kernel_rfl
theorem pure72:pureFn Tryd.prog 72=true:=by kernel_rfl
noncomputable def b26:Code:=(Tryd.f26.body).getD .skip
theorem body26:bodyOf Tryd.prog 26=some (20,b26,[.tmp 4,.tmp 5]):=by kernel_rfl
theorem pure26:pureFn Tryd.prog 26=true:=by kernel_rfl
def isPl(b:Bk)(L:List Int):Bool:=yk b&&(zBm b L&&zBb b L)
theorem plan_lat(hb:BOk b){L:List Int}(h:POk b L):zBb b L=(decide ((L[b.parts.toNat - 1]?).getD 0=b.fin)&&(inS b.tlo b.thi (zAv b L L.length)&&decide (((lasL b L).length:Int)=0))):=by
 unfold zBb lasL
 rw[if_pos (err_zero.2 ⟨hb,h⟩),zero_lat hb h.rg]
 congr 2
 rw[Bool.eq_iff_iff,decide_eq_true_eq,decide_eq_true_eq]
 omega
set_option maxHeartbeats 8000000 in
theorem ret72(hi:Off is)(hb:BOk b){L:List Int}(h:POk b L):RetP Tryd.prog is orc 72 [b.u,.lst .ro 1 (zE L)] (.bool (zBb b L)):=by
 refine zp body72 pure72 (hi 72 (by decide)) rfl rfl (yR (yM b 4) (zd 6 .ro (fun h=>by cases h) 1 L)) (.inl (.bool _ _)) ?_
 have q22:=ret22 (orc:=orc) hi b L
 have hlen:=h.len
 have hpa:=hb.pa
 have hl8:L.length≤8:=by omega
 have q57:=ret57 (orc:=orc) hi hb h.rg hl8
 have q40:=ret40 (orc:=orc) hi b.tlo b.thi (zAv b L L.length)
 rw[plan_lat hb h]
 obtain⟨x,hx⟩:∃x,L[b.parts.toNat - 1]? =some x:=⟨L[b.parts.toNat - 1]'(by omega),List.getElem?_eq_getElem (by omega)⟩
 rw[hx]
 have hx2:L[((L.length:Int) - 1).toNat]? =some x:=by rw[show((L.length:Int) - 1).toNat=b.parts.toNat - 1 by omega];exact hx
 show Wp _ _ _ _ _ (fun e s=>_∧∃us,_∧UW _ (.u (.bool (decide (x=b.fin)&&_))))
 generalize inS b.tlo b.thi (zAv b L L.length)=z2 at*
 generalize errI b L=er at*
 generalize lasL b L=A at*
 generalize zAv b L L.length=la at*
 by_cases h1:x=b.fin
 ·rw[decide_eq_true h1,Bool.true_and]
  cases z2 with
  |true=>
   rw[Bool.true_and]
   refine kQ (zl rfl rfl (zB rfl (zA ?_)))
   refine zJ [(1,.lst .ro 1 (zE L)),(2,U.box 0 0)] ([SB.box [.int .i64 (Bk.parts b),.int .i64 (Bk.size b),.lst .ro 1 (zE (Bk.beats b)),.int .i64 (Bk.start b),.int .i64 (Bk.fin b),.int .i64 (Bk.tlo b),.int .i64 (Bk.thi b),.int .i64 (Bk.slo b),.int .i64 (Bk.shi b),.int .i64 (Bk.notice b),.lst .ro 3 (plsU (Bk.players b))]]) (.cons rfl (.cons rfl (.nil rfl))) rfl fun fr=>?_
   refine kQ (zM rfl rfl rfl sh27 rfl (zC rfl (zP rfl (q22) (.lrefl _) (zC rfl (zb rfl rfl rfl (zb rfl rfl rfl (zB rfl (zB rfl ?_))))))))
   refine zA (k_seq (yO [.plain,.plain,.read true,.plain,.plain,.read true,.plain,.read true,.plain,.plain,.plain,.read true,.read true,.plain,.read false,.plain,.plain,.plain,.plain,.plain,.plain,.plain,.plain] (by kernel_rfl) (by kernel_rfl) (by kernel_rfl) ?_))
   refine zD (zC rfl (zA rfl)) (zD (zC rfl (zA rfl)) (zT rfl (yA rfl ty22 rfl (List.length_map _) (zA rfl)) ?_))
   refine zD (zAQ rfl rfl rfl (by unfold I64;omega) (zA rfl)) ?_
   refine zD (yE (u:=.int .i64 x) rfl ty22 rfl rfl (by omega) (by rw[List.getElem?_map,hx2];rfl) cl3 (zA rfl)) ?_
   refine zT rfl (zS rfl rfl sh3 rfl (zA rfl)) ?_
   refine zD (zF rfl rfl zEZ (zA rfl)) ?_
   refine zT rfl (zG rfl rfl rfl sh3 rfl (zA rfl)) (zD (zAI rfl rfl rfl (zA rfl)) ?_)
   refine yC [(1,.lst .ro 1 (zE L)),(2,U.box 0 0),(5,.lst .ro 1 (zE A)),(21,U.bool (decide (x=Bk.fin b)))] [] ([SB.box [.int .i64 (Bk.parts b),.int .i64 (Bk.size b),.lst .ro 1 (zE (Bk.beats b)),.int .i64 (Bk.start b),.int .i64 (Bk.fin b),.int .i64 (Bk.tlo b),.int .i64 (Bk.thi b),.int .i64 (Bk.slo b),.int .i64 (Bk.shi b),.int .i64 (Bk.notice b),.lst .ro 3 (plsU (Bk.players b))]]) (.c4 rfl rfl rfl rfl (.nil rfl)) rfl rfl fun fr=>?_
   refine zD (zC rfl (zA rfl)) (d_gD rfl rfl rfl rfl (decide_eq_true (by omega)) ?_)
   refine zD (zF rfl rfl zGN (zA rfl)) ?_
   refine d_gD rfl rfl rfl rfl (decide_eq_true (by omega)) ?_
   refine zT rfl (zM rfl rfl rfl sh24 rfl (zA rfl)) ?_
   refine d_gD rfl rfl rfl rfl (decide_eq_true (by omega)) ?_
   refine zT rfl (zM rfl rfl rfl sh27 rfl (zA rfl)) ?_
   refine d_gD rfl rfl rfl rfl (decide_eq_true (by omega)) ?_
   refine zD (zC rfl (zA rfl)) (d_gD rfl rfl rfl rfl (decide_eq_true (by omega)) ?_)
   refine zCL rfl (q57) (.int _ _) (.lrefl _) ?_
   refine d_gD rfl rfl rfl rfl (decide_eq_true (by omega)) ?_
   refine zD (zP rfl (q40) (.lrefl _) (zA rfl)) ?_
   refine zD (zX rfl rfl (decide_eq_true (by omega)) (zA rfl)) ?_
   refine zD (zC rfl (zA rfl)) ?_
   refine yC [(5,.lst .ro 1 (zE A)),(30,.bool true)] [] ([SB.box [.int .i64 (Bk.parts b),.int .i64 (Bk.size b),.lst .ro 1 (zE (Bk.beats b)),.int .i64 (Bk.start b),.int .i64 (Bk.fin b),.int .i64 (Bk.tlo b),.int .i64 (Bk.thi b),.int .i64 (Bk.slo b),.int .i64 (Bk.shi b),.int .i64 (Bk.notice b),.lst .ro 3 (plsU (Bk.players b))]]) (.cons rfl (.cons rfl (.nil rfl))) rfl rfl fun fr=>?_
   refine d_gD rfl rfl rfl rfl rfl ?_
   refine yC [(5,.lst .ro 1 (zE A)),(30,.bool true)] [] ([SB.box [.int .i64 (Bk.parts b),.int .i64 (Bk.size b),.lst .ro 1 (zE (Bk.beats b)),.int .i64 (Bk.start b),.int .i64 (Bk.fin b),.int .i64 (Bk.tlo b),.int .i64 (Bk.thi b),.int .i64 (Bk.slo b),.int .i64 (Bk.shi b),.int .i64 (Bk.notice b),.lst .ro 3 (plsU (Bk.players b))]]) (.cons rfl (.cons rfl (.nil rfl))) rfl rfl fun fr=>?_
   refine zD (zC rfl (zA rfl)) (d_gD rfl rfl rfl rfl rfl (zD (yA rfl ty22 rfl (List.length_map _) (zA rfl)) ?_))
   refine d_gD rfl rfl rfl rfl rfl (zD (zAI rfl rfl rfl (zA rfl)) ?_)
   refine zD (zX rfl rfl rfl (zA rfl)) ?_
   refine zD (zB rfl (zA rfl)) ?_
   refine wH ?_
   refine zV ?_
   refine⟨.inr rfl,_,.cons _ _ _ _ (.tmp 4) .nil,?_⟩
   exact .refl _
   done
  |false=>
   rw[Bool.false_and]
   refine kQ (zl rfl rfl (zB rfl (zA ?_)))
   refine zJ [(1,.lst .ro 1 (zE L)),(2,U.box 0 0)] ([SB.box [.int .i64 (Bk.parts b),.int .i64 (Bk.size b),.lst .ro 1 (zE (Bk.beats b)),.int .i64 (Bk.start b),.int .i64 (Bk.fin b),.int .i64 (Bk.tlo b),.int .i64 (Bk.thi b),.int .i64 (Bk.slo b),.int .i64 (Bk.shi b),.int .i64 (Bk.notice b),.lst .ro 3 (plsU (Bk.players b))]]) (.cons rfl (.cons rfl (.nil rfl))) rfl fun fr=>?_
   refine kQ (zM rfl rfl rfl sh27 rfl (zC rfl (zP rfl (q22) (.lrefl _) (zC rfl (zb rfl rfl rfl (zb rfl rfl rfl (zB rfl (zB rfl ?_))))))))
   refine zA (k_seq (yO [.plain,.plain,.read true,.plain,.plain,.read true,.plain,.read true,.plain,.plain,.plain,.read true,.read true,.plain,.read false,.plain,.plain,.plain,.plain,.plain,.plain,.plain,.plain] (by kernel_rfl) (by kernel_rfl) (by kernel_rfl) ?_))
   refine zD (zC rfl (zA rfl)) (zD (zC rfl (zA rfl)) (zT rfl (yA rfl ty22 rfl (List.length_map _) (zA rfl)) ?_))
   refine zD (zAQ rfl rfl rfl (by unfold I64;omega) (zA rfl)) ?_
   refine zD (yE (u:=.int .i64 x) rfl ty22 rfl rfl (by omega) (by rw[List.getElem?_map,hx2];rfl) cl3 (zA rfl)) ?_
   refine zT rfl (zS rfl rfl sh3 rfl (zA rfl)) ?_
   refine zD (zF rfl rfl zEZ (zA rfl)) ?_
   refine zT rfl (zG rfl rfl rfl sh3 rfl (zA rfl)) (zD (zAI rfl rfl rfl (zA rfl)) ?_)
   refine yC [(1,.lst .ro 1 (zE L)),(2,U.box 0 0),(5,.lst .ro 1 (zE A)),(21,U.bool (decide (x=Bk.fin b)))] [] ([SB.box [.int .i64 (Bk.parts b),.int .i64 (Bk.size b),.lst .ro 1 (zE (Bk.beats b)),.int .i64 (Bk.start b),.int .i64 (Bk.fin b),.int .i64 (Bk.tlo b),.int .i64 (Bk.thi b),.int .i64 (Bk.slo b),.int .i64 (Bk.shi b),.int .i64 (Bk.notice b),.lst .ro 3 (plsU (Bk.players b))]]) (.c4 rfl rfl rfl rfl (.nil rfl)) rfl rfl fun fr=>?_
   refine zD (zC rfl (zA rfl)) (d_gD rfl rfl rfl rfl (decide_eq_true (by omega)) ?_)
   refine zD (zF rfl rfl zGN (zA rfl)) ?_
   refine d_gD rfl rfl rfl rfl (decide_eq_true (by omega)) ?_
   refine zT rfl (zM rfl rfl rfl sh24 rfl (zA rfl)) ?_
   refine d_gD rfl rfl rfl rfl (decide_eq_true (by omega)) ?_
   refine zT rfl (zM rfl rfl rfl sh27 rfl (zA rfl)) ?_
   refine d_gD rfl rfl rfl rfl (decide_eq_true (by omega)) ?_
   refine zD (zC rfl (zA rfl)) (d_gD rfl rfl rfl rfl (decide_eq_true (by omega)) ?_)
   refine zCL rfl (q57) (.int _ _) (.lrefl _) ?_
   refine d_gD rfl rfl rfl rfl (decide_eq_true (by omega)) ?_
   refine zD (zP rfl (q40) (.lrefl _) (zA rfl)) ?_
   refine zD (zX rfl rfl (decide_eq_true (by omega)) (zA rfl)) ?_
   refine zD (zC rfl (zA rfl)) ?_
   refine yC [(5,.lst .ro 1 (zE A)),(30,.bool false)] [] ([SB.box [.int .i64 (Bk.parts b),.int .i64 (Bk.size b),.lst .ro 1 (zE (Bk.beats b)),.int .i64 (Bk.start b),.int .i64 (Bk.fin b),.int .i64 (Bk.tlo b),.int .i64 (Bk.thi b),.int .i64 (Bk.slo b),.int .i64 (Bk.shi b),.int .i64 (Bk.notice b),.lst .ro 3 (plsU (Bk.players b))]]) (.cons rfl (.cons rfl (.nil rfl))) rfl rfl fun fr=>?_
   refine d_gS rfl rfl rfl rfl rfl (d_gS rfl rfl rfl rfl rfl (d_gS rfl rfl rfl rfl rfl (zD (zL rfl rfl rfl (zA rfl)) ?_)))
   refine zD (zB rfl (zA rfl)) ?_
   refine wH ?_
   refine zV ?_
   refine⟨.inr rfl,_,.cons _ _ _ _ (.tmp 4) .nil,?_⟩
   exact .refl _
   done
 ·rw[decide_eq_false h1,Bool.false_and]
  refine kQ (zl rfl rfl (zB rfl (zA ?_)))
  refine zJ [(1,.lst .ro 1 (zE L)),(2,U.box 0 0)] ([SB.box [.int .i64 (Bk.parts b),.int .i64 (Bk.size b),.lst .ro 1 (zE (Bk.beats b)),.int .i64 (Bk.start b),.int .i64 (Bk.fin b),.int .i64 (Bk.tlo b),.int .i64 (Bk.thi b),.int .i64 (Bk.slo b),.int .i64 (Bk.shi b),.int .i64 (Bk.notice b),.lst .ro 3 (plsU (Bk.players b))]]) (.cons rfl (.cons rfl (.nil rfl))) rfl fun fr=>?_
  refine kQ (zM rfl rfl rfl sh27 rfl (zC rfl (zP rfl (q22) (.lrefl _) (zC rfl (zb rfl rfl rfl (zb rfl rfl rfl (zB rfl (zB rfl ?_))))))))
  refine zA (k_seq (yO [.plain,.plain,.read true,.plain,.plain,.read true,.plain,.read true,.plain,.plain,.plain,.read true,.read true,.plain,.read false,.plain,.plain,.plain,.plain,.plain,.plain,.plain,.plain] (by kernel_rfl) (by kernel_rfl) (by kernel_rfl) ?_))
  refine zD (zC rfl (zA rfl)) (zD (zC rfl (zA rfl)) (zT rfl (yA rfl ty22 rfl (List.length_map _) (zA rfl)) ?_))
  refine zD (zAQ rfl rfl rfl (by unfold I64;omega) (zA rfl)) ?_
  refine zD (yE (u:=.int .i64 x) rfl ty22 rfl rfl (by omega) (by rw[List.getElem?_map,hx2];rfl) cl3 (zA rfl)) ?_
  refine zT rfl (zS rfl rfl sh3 rfl (zA rfl)) ?_
  refine zD (zF rfl rfl zEZ (zA rfl)) ?_
  refine zT rfl (zG rfl rfl rfl sh3 rfl (zA rfl)) (zD (zAI rfl rfl rfl (zA rfl)) ?_)
  refine yC [(1,.lst .ro 1 (zE L)),(2,U.box 0 0),(5,.lst .ro 1 (zE A)),(21,U.bool (decide (x=Bk.fin b)))] [] ([SB.box [.int .i64 (Bk.parts b),.int .i64 (Bk.size b),.lst .ro 1 (zE (Bk.beats b)),.int .i64 (Bk.start b),.int .i64 (Bk.fin b),.int .i64 (Bk.tlo b),.int .i64 (Bk.thi b),.int .i64 (Bk.slo b),.int .i64 (Bk.shi b),.int .i64 (Bk.notice b),.lst .ro 3 (plsU (Bk.players b))]]) (.c4 rfl rfl rfl rfl (.nil rfl)) rfl rfl fun fr=>?_
  refine zD (zC rfl (zA rfl)) (d_gS rfl rfl rfl rfl (decide_eq_false (by omega)) ?_)
  refine d_gS rfl rfl rfl rfl (decide_eq_false (by omega)) ?_
  refine d_gS rfl rfl rfl rfl (decide_eq_false (by omega)) ?_
  refine d_gS rfl rfl rfl rfl (decide_eq_false (by omega)) ?_
  refine d_gS rfl rfl rfl rfl (decide_eq_false (by omega)) ?_
  refine d_gS rfl rfl rfl rfl (decide_eq_false (by omega)) ?_
  refine zD (zL rfl rfl (decide_eq_false (by omega)) (zA rfl)) ?_
  refine zD (zC rfl (zA rfl)) ?_
  refine yC [(5,.lst .ro 1 (zE A)),(30,.bool false)] [] ([SB.box [.int .i64 (Bk.parts b),.int .i64 (Bk.size b),.lst .ro 1 (zE (Bk.beats b)),.int .i64 (Bk.start b),.int .i64 (Bk.fin b),.int .i64 (Bk.tlo b),.int .i64 (Bk.thi b),.int .i64 (Bk.slo b),.int .i64 (Bk.shi b),.int .i64 (Bk.notice b),.lst .ro 3 (plsU (Bk.players b))]]) (.cons rfl (.cons rfl (.nil rfl))) rfl rfl fun fr=>?_
  refine d_gS rfl rfl rfl rfl rfl (d_gS rfl rfl rfl rfl rfl (d_gS rfl rfl rfl rfl rfl (zD (zL rfl rfl rfl (zA rfl)) ?_)))
  refine zD (zB rfl (zA rfl)) ?_
  refine wH ?_
  refine zV ?_
  refine⟨.inr rfl,_,.cons _ _ _ _ (.tmp 4) .nil,?_⟩
  exact .refl _
  done
set_option maxHeartbeats 8000000 in
theorem ret26(hi:Off is)(b:Bk)(L:List Int):RetP Tryd.prog is orc 26 [b.u,.lst .ro 1 (zE L)] (.tup [.bool (isPl b L),.int .i64 (if yk b=true then 0 else 80)]):=by
 refine zp body26 pure26 (hi 26 (by decide)) rfl rfl (yR (yM b 4) (zd 6 .ro (fun h=>by cases h) 1 L)) (.inr ⟨_,rfl,yR (k:=7) (.bool _ _) (.int _ _ _)⟩) ?_
 have q18:=ret18 (orc:=orc) hi b
 unfold isPl
 cases hv:yk b with
 |false=>
  rw[hv]at q18
  refine kQ (zl rfl rfl (zB rfl (zB rfl (zA ?_))))
  refine zJ [(1,.lst .ro 1 (zE L)),(2,U.box 0 0)] ([SB.box [.int .i64 (Bk.parts b),.int .i64 (Bk.size b),.lst .ro 1 (zE (Bk.beats b)),.int .i64 (Bk.start b),.int .i64 (Bk.fin b),.int .i64 (Bk.tlo b),.int .i64 (Bk.thi b),.int .i64 (Bk.slo b),.int .i64 (Bk.shi b),.int .i64 (Bk.notice b),.lst .ro 3 (plsU (Bk.players b))]]) (.cons rfl (.cons rfl (.nil rfl))) rfl fun fr=>?_
  refine k_seq (kQ (zM rfl rfl rfl sh27 rfl (zP rfl (q18) (.lrefl _) (zB rfl (zA (kQ (zC rfl (wB rfl rfl rfl ?_))))))))
  refine zA (k_cT rfl rfl ?_)
  refine kQ (zC rfl (zB rfl (zB rfl (zA (zV ?_)))))
  refine⟨.inr rfl,_,.cons _ _ _ _ (.tmp 4) (.cons _ _ _ _ (.tmp 5) .nil),?_⟩
  exact .refl _
  done
 |true=>
  rw[hv]at q18
  have hb:=(wR b).1 hv
  have q56:=ret56 (orc:=orc) hi hb L
  cases hp:zBm b L with
  |false=>
   rw[hp]at q56
   refine kQ (zl rfl rfl (zB rfl (zB rfl (zA ?_))))
   refine zJ [(1,.lst .ro 1 (zE L)),(2,U.box 0 0)] ([SB.box [.int .i64 (Bk.parts b),.int .i64 (Bk.size b),.lst .ro 1 (zE (Bk.beats b)),.int .i64 (Bk.start b),.int .i64 (Bk.fin b),.int .i64 (Bk.tlo b),.int .i64 (Bk.thi b),.int .i64 (Bk.slo b),.int .i64 (Bk.shi b),.int .i64 (Bk.notice b),.lst .ro 3 (plsU (Bk.players b))]]) (.cons rfl (.cons rfl (.nil rfl))) rfl fun fr=>?_
   refine k_seq (kQ (zM rfl rfl rfl sh27 rfl (zP rfl (q18) (.lrefl _) (zB rfl (zA (kQ (zC rfl (wB rfl rfl rfl ?_))))))))
   refine zA (k_cF rfl rfl ?_)
   refine zR (kQ (zM rfl rfl rfl sh27 rfl (zC rfl (zP rfl (q56) (.lrefl _) (zC rfl (o_gS rfl rfl rfl rfl rfl (o_gS rfl rfl rfl rfl rfl (o_gS rfl rfl rfl rfl rfl ?_))))))))
   refine zL rfl rfl rfl ?_
   refine zB rfl (zB rfl (zA (zV ?_)))
   refine⟨.inr rfl,_,.cons _ _ _ _ (.tmp 4) (.cons _ _ _ _ (.tmp 5) .nil),?_⟩
   exact .refl _
   done
  |true=>
   rw[hp]at q56
   have q72:=ret72 (orc:=orc) hi hb ((zDs hb).1 hp)
   generalize zBb b L=z at*
   refine kQ (zl rfl rfl (zB rfl (zB rfl (zA ?_))))
   refine zJ [(1,.lst .ro 1 (zE L)),(2,U.box 0 0)] ([SB.box [.int .i64 (Bk.parts b),.int .i64 (Bk.size b),.lst .ro 1 (zE (Bk.beats b)),.int .i64 (Bk.start b),.int .i64 (Bk.fin b),.int .i64 (Bk.tlo b),.int .i64 (Bk.thi b),.int .i64 (Bk.slo b),.int .i64 (Bk.shi b),.int .i64 (Bk.notice b),.lst .ro 3 (plsU (Bk.players b))]]) (.cons rfl (.cons rfl (.nil rfl))) rfl fun fr=>?_
   refine k_seq (kQ (zM rfl rfl rfl sh27 rfl (zP rfl (q18) (.lrefl _) (zB rfl (zA (kQ (zC rfl (wB rfl rfl rfl ?_))))))))
   refine zA (k_cF rfl rfl ?_)
   refine zR (kQ (zM rfl rfl rfl sh27 rfl (zC rfl (zP rfl (q56) (.lrefl _) (zC rfl (o_gD rfl rfl rfl rfl rfl (zM rfl rfl rfl sh27 rfl (o_gD rfl rfl rfl rfl rfl ?_))))))))
   refine zC rfl (o_gD rfl rfl rfl rfl rfl (zP rfl (q72) (.lrefl _) (zX rfl rfl rfl ?_)))
   refine zB rfl (zB rfl (zA (zV ?_)))
   refine⟨.inr rfl,_,.cons _ _ _ _ (.tmp 4) (.cons _ _ _ _ (.tmp 5) .nil),?_⟩
   exact .refl _
   done
set_option maxHeartbeats 8000000 in
theorem ret25a(hi:Off is)(b:Bk)(L:List Int):RetP Tryd.prog is orc 25 [b.u,.lst .ro 1 (zE L)] (.tup [.bool (isPl b L),.int .i64 (if yk b=true then 0 else 80)]):=by
 unfold isPl
 cases hv:yk b with
 |false=>
  refine zp body25 pure25 (hi 25 (by decide)) rfl rfl (yR (yM b 4) (zd 6 .ro (fun h=>by cases h) 1 L)) (.inr ⟨_,rfl,yR (k:=7) (.bool _ _) (.int _ _ _)⟩) ?_
  refine kQ (zl rfl rfl (zB rfl (zB rfl (zA ?_))))
  refine zJ [(1,.lst .ro 1 (zE L)),(2,U.box 0 0)] ([SB.box [.int .i64 (Bk.parts b),.int .i64 (Bk.size b),.lst .ro 1 (zE (Bk.beats b)),.int .i64 (Bk.start b),.int .i64 (Bk.fin b),.int .i64 (Bk.tlo b),.int .i64 (Bk.thi b),.int .i64 (Bk.slo b),.int .i64 (Bk.shi b),.int .i64 (Bk.notice b),.lst .ro 3 (plsU (Bk.players b))]]) (.cons rfl (.cons rfl (.nil rfl))) rfl fun fr=>?_
  refine kQ (zM rfl rfl rfl sh27 rfl ?_)
  refine zBG rfl (wpc60i hi hv) (.lrefl _) (fun u st1 hM=>?_)
  obtain⟨rfl,e,hY⟩:=hM
  refine zC rfl (zb rfl rfl rfl (zb rfl rfl rfl (zo rfl ze75 ?_)))
  refine ze rfl (zu _ _) sh75 rfl rfl rfl rfl rfl ?_
  refine zB rfl (zA ?_)
  refine zJ [(1,.lst .ro 1 (zE L)),(6,U.box (List.length st1) 0),(7,.int .i64 80)] (st1++[SB.box [.int .i64 0,.int .i64 0,.lst .full 0 [],.int .i64 0,.int .i64 0,.int .i64 0,.int .i64 0,.int .i64 0,.int .i64 0,.int .i64 0,.lst .full 0 []]]) (.cons rfl (.cons rfl (.cons rfl (.nil rfl)))) (yr _ _ _) fun fr=>?_
  refine k_seq (kQ (zC rfl (wB rfl rfl rfl (zA (k_cT rfl rfl ?_)))))
  refine kQ (zC rfl (zB rfl (zB rfl (zA (zV ?_)))))
  refine⟨.inr rfl,_,.cons _ _ _ _ (.tmp 4) (.cons _ _ _ _ (.tmp 5) .nil),?_⟩
  exact .refl _
  done
 |true=>
  have hb:=(wR b).1 hv
  cases hp:zBm b L with
  |false=>
   refine zp body25 pure25 (hi 25 (by decide)) rfl rfl (yR (yM b 4) (zd 6 .ro (fun h=>by cases h) 1 L)) (.inr ⟨_,rfl,yR (k:=7) (.bool _ _) (.int _ _ _)⟩) ?_
   have q62:=ret62g (orc:=orc) hi hb L
   rw[hp]at q62
   refine kQ (zl rfl rfl (zB rfl (zB rfl (zA ?_))))
   refine zJ [(1,.lst .ro 1 (zE L)),(2,U.box 0 0)] ([SB.box [.int .i64 (Bk.parts b),.int .i64 (Bk.size b),.lst .ro 1 (zE (Bk.beats b)),.int .i64 (Bk.start b),.int .i64 (Bk.fin b),.int .i64 (Bk.tlo b),.int .i64 (Bk.thi b),.int .i64 (Bk.slo b),.int .i64 (Bk.shi b),.int .i64 (Bk.notice b),.lst .ro 3 (plsU (Bk.players b))]]) (.cons rfl (.cons rfl (.nil rfl))) rfl fun fr=>?_
   refine kQ (zM rfl rfl rfl sh27 rfl ?_)
   refine zBG rfl (wpc60z hi hb) (.lrefl _) (fun u st1 hM=>?_)
   obtain⟨rfl,e,hY⟩:=hM
   refine zC rfl (zb rfl rfl rfl (zb rfl rfl rfl (zo rfl ze75 ?_)))
   refine ze rfl (zu _ _) sh75 rfl rfl rfl rfl rfl ?_
   refine zB rfl (zA ?_)
   refine zJ [(1,.lst .ro 1 (zE L)),(6,U.box (List.length st1) 0),(7,.int .i64 0)] (st1++[SB.box [.int .i64 (Bk.parts b),.int .i64 (Bk.size b),.lst .ro 1 (zE (Bk.beats b)),.int .i64 (Bk.start b),.int .i64 (Bk.fin b),.int .i64 (Bk.tlo b),.int .i64 (Bk.thi b),.int .i64 (Bk.slo b),.int .i64 (Bk.shi b),.int .i64 (Bk.notice b),.lst .ro 3 (plsU (Bk.players b))]]) (.cons rfl (.cons rfl (.cons rfl (.nil rfl)))) (yr _ _ _) fun fr=>?_
   refine k_seq (kQ (zC rfl (wB rfl rfl rfl (zA (k_cF rfl rfl ?_)))))
   refine zR (kQ (zM rfl rfl (zu _ _) sh75 rfl ?_))
   refine zC rfl (zP rfl (q62) (.lrefl _) (zC rfl (o_gS rfl rfl rfl rfl rfl (o_gS rfl rfl rfl rfl rfl (o_gS rfl rfl rfl rfl rfl (zL rfl rfl rfl ?_))))))
   refine zB rfl (zB rfl (zA (zV ?_)))
   refine⟨.inr rfl,_,.cons _ _ _ _ (.tmp 4) (.cons _ _ _ _ (.tmp 5) .nil),?_⟩
   exact .refl _
   done
  |true=>
   exact ret25 hi hb ((zDs hb).1 hp)
end Go.Proofs.YtfbmlibilcjlgaaDoor.drumPlans
