import Derived.Test.YtfbmlibilcjlgaaDoorVamT2
set_option linter.unusedVariables false
set_option linter.unusedSimpArgs false
set_option linter.constructorNameAsVariable false
namespace Go.Proofs.YtfbmlibilcjlgaaDoor.drumPlans
open Vam
section
variable {is:FuncId→Bool}{orc:Known}
theorem pl118:zGb Tryd.prog 118=some [(0,1),(1,1),(2,1)]:=by kernel_rfl
theorem sh118:shOf Tryd.prog 118=.many 3:=by kernel_rfl
theorem ze118:yY Tryd.prog 118=some ((.cons .nilf (.cons .nilf (.cons .nilf .nil))):V):=by kernel_rfl
noncomputable def b94:Code:=(Tryd.f94.body).getD .skip
theorem body94:bodyOf Tryd.prog 94=some (6,b94,[.cell 2 118]):=by kernel_rfl
theorem pure94:pureFn Tryd.prog 94=false:=by kernel_rfl
theorem zEC:Program.cellsOf Tryd.prog 117=1:=by kernel_rfl
theorem zDp:shOf Tryd.prog 117=.one:=by kernel_rfl
theorem zDl:tyOf Tryd.prog 118=.array 3 117:=by kernel_rfl
noncomputable def b62:Code:=(Tryd.f62.body).getD .skip
theorem body62:bodyOf Tryd.prog 62=some (33,b62,[.tmp 4]):=by kernel_rfl
theorem pure62:pureFn Tryd.prog 62=true:=by kernel_rfl
theorem pl75:zGb Tryd.prog 75=some [(0,11)]:=by kernel_rfl
theorem ty116:tyOf Tryd.prog 116=.slice 83:=by kernel_rfl
theorem ze75:yY Tryd.prog 75=some ((.cons (.int .i64 0) (.cons (.int .i64 0) (.cons .nils (.cons (.int .i64 0) (.cons (.int .i64 0) (.cons (.int .i64 0) (.cons (.int .i64 0) (.cons (.int .i64 0) (.cons (.int .i64 0) (.cons (.int .i64 0) (.cons .nils .nil))))))))))):V):=by kernel_rfl
noncomputable def b60:Code:=(Tryd.f60.body).getD .skip
theorem body60:bodyOf Tryd.prog 60=some (31,b60,[.cell 4 75,.tmp 5]):=by kernel_rfl
theorem pure60:pureFn Tryd.prog 60=false:=by kernel_rfl
theorem ret128(hi:Off is)(b:Bk):RetP Tryd.prog is orc 128 [b.u] (wa 0 b.start):=by
 refine zp body128 pure128 (hi 128 (by decide)) rfl rfl (wS (yM b 4)) (.inl (wO _ _ 6)) ?_
 refine kQ (zl rfl rfl (zo rfl ze125 ?_))
 refine zA ?_
 refine zJ [(1,U.box 0 0),(2,U.box 1 0)] ([SB.box [.int .i64 (Bk.parts b),.int .i64 (Bk.size b),.lst .ro 1 (zE (Bk.beats b)),.int .i64 (Bk.start b),.int .i64 (Bk.fin b),.int .i64 (Bk.tlo b),.int .i64 (Bk.thi b),.int .i64 (Bk.slo b),.int .i64 (Bk.shi b),.int .i64 (Bk.notice b),.lst .ro 3 (plsU (Bk.players b))],SB.box [.int .i64 0,.int .i64 0]]) (.cons rfl (.cons rfl (.nil rfl))) rfl fun fr=>?_
 refine kQ (zF rfl rfl ya (zF rfl rfl zEa (zG rfl rfl rfl sh3 rfl (zAn rfl ze125 pl125 rfl rfl ?_))))
 refine ze rfl rfl sh125 rfl rfl rfl rfl rfl ?_
 refine zA (zV ?_)
 refine⟨.inr rfl,_,.cons _ _ _ _ (.cellN 2 125 _ _ _ _ rfl rfl sh125 rfl) .nil,?_⟩
 exact .refl _
theorem plc_same(a b:Int):binV Tryd.prog 125 .eql (valK (wa a b)) (valK (wa a b))=some (.bool true):=by
 have h:binV Tryd.prog 125 .eql (valK (wa a b)) (valK (wa a b))=opt none (fun x=>some (V.bool x)) (Vam.cond (ieq a a) (Vam.cond (ieq b b) (some true) (some false)) (some false)):=by kernel_rfl
 rw[h,zBI,zBI,show(a==a)=true by simp,show(b==b)=true by simp];rfl
set_option maxHeartbeats 4000000 in
theorem ret116(hi:Off is){b:Bk}{l:List Int}{i:Nat}{x:Int}(hx:l[i]? =some x)(hl:l.length≤4096)(h0:i=0→x=b.start):RetP Tryd.prog is orc 116 [b.u,.lst .ro 1 (zE l),.int .i64 i] (.bool true):=by
 refine zp body116 pure116 (hi 116 (by decide)) rfl rfl (fun u hu=>by
  simp only[List.mem_cons,List.not_mem_nil,or_false]at hu
  rcases hu with rfl|rfl|rfl
  ·exact yM b 4
  ·exact zd 6 .ro (fun h=>by cases h) 1 l
  ·exact .int _ _ _) (.inl (.bool _ _)) ?_
 have h1:=(List.getElem?_eq_some_iff.1 hx).1
 by_cases hz:i=0
 ·have hx0:=h0 hz
  subst hz
  subst hx0
  have q101:RetP Tryd.prog is orc 101 [.lst .ro 1 (zE l),.int .i64 0] (wa 0 b.start):=ret101 (orc:=orc) hi hx hl
  refine kQ (zl rfl rfl (zB rfl (zA ?_)))
  refine zJ [(1,.lst .ro 1 (zE l)),(2,.int .i64 ↑0),(3,U.box 0 0)] ([SB.box [.int .i64 (Bk.parts b),.int .i64 (Bk.size b),.lst .ro 1 (zE (Bk.beats b)),.int .i64 (Bk.start b),.int .i64 (Bk.fin b),.int .i64 (Bk.tlo b),.int .i64 (Bk.thi b),.int .i64 (Bk.slo b),.int .i64 (Bk.shi b),.int .i64 (Bk.notice b),.lst .ro 3 (plsU (Bk.players b))]]) (.cons rfl (.cons rfl (.cons rfl (.nil rfl)))) rfl fun fr=>?_
  refine k_seq (yO [.plain,.plain,.plain,.plain,.plain,.read false,.read true,.plain,.plain,.plain,.plain] (by kernel_rfl) (by kernel_rfl) (by kernel_rfl) ?_)
  refine zD (zC rfl (zA rfl)) (zD (zDc rfl rfl rfl (zA rfl)) ?_)
  refine zD (zC rfl (zA rfl)) (d_gD rfl rfl rfl rfl rfl (zD (zC rfl (zA rfl)) (d_gD rfl rfl rfl rfl rfl (zD (zC rfl (zA rfl)) (d_gD rfl rfl rfl rfl rfl (zCL rfl (q101) (zEA _ _) (.lrefl _) ?_))))))
  refine d_gD rfl rfl rfl rfl rfl (zT rfl (zM rfl rfl rfl sh75 rfl (zA rfl)) ?_)
  refine d_gD rfl rfl rfl rfl rfl (zD (zP rfl (ret128 hi b) (.lrefl _) (zA rfl)) ?_)
  refine d_gD rfl rfl rfl rfl rfl (zD (zGr rfl rfl rfl rfl rfl (plc_same 0 _) (zA rfl)) ?_)
  refine zD (zL rfl rfl rfl (zA rfl)) ?_
  refine zD (zB rfl (zA rfl)) ?_
  refine wH ?_
  refine zV ?_
  refine⟨.inr rfl,_,.cons _ _ _ _ (.tmp 6) .nil,?_⟩
  exact .refl _
 ·refine kQ ?_
  refine zl rfl rfl (zB rfl (zA ?_))
  refine zJ [(1,.lst .ro 1 (zE l)),(2,.int .i64 ↑i),(3,U.box 0 0)] ([SB.box [.int .i64 (Bk.parts b),.int .i64 (Bk.size b),.lst .ro 1 (zE (Bk.beats b)),.int .i64 (Bk.start b),.int .i64 (Bk.fin b),.int .i64 (Bk.tlo b),.int .i64 (Bk.thi b),.int .i64 (Bk.slo b),.int .i64 (Bk.shi b),.int .i64 (Bk.notice b),.lst .ro 3 (plsU (Bk.players b))]]) (.cons rfl (.cons rfl (.cons rfl (.nil rfl)))) rfl fun fr=>?_
  refine k_seq (yO [.plain,.plain,.plain,.plain,.plain,.read false,.read true,.plain,.plain,.plain,.plain] (by kernel_rfl) (by kernel_rfl) (by kernel_rfl) ?_)
  refine zD (zC rfl (zA rfl)) (zD (zDc rfl rfl rfl (zA rfl)) ?_)
  refine zD (zC rfl (zA rfl)) (d_gS rfl rfl rfl rfl (decide_eq_true (by omega)) ?_)
  refine d_gS rfl rfl rfl rfl (decide_eq_true (by omega)) ?_
  refine d_gS rfl rfl rfl rfl (decide_eq_true (by omega)) ?_
  refine d_gS rfl rfl rfl rfl (decide_eq_true (by omega)) ?_
  refine d_gS rfl rfl rfl rfl (decide_eq_true (by omega)) ?_
  refine d_gS rfl rfl rfl rfl (decide_eq_true (by omega)) ?_
  refine zD (zX rfl rfl (decide_eq_true (by omega)) (zA rfl)) ?_
  refine zD (zB rfl (zA rfl)) ?_
  refine wH ?_
  refine zV ?_
  refine⟨.inr rfl,_,.cons _ _ _ _ (.tmp 6) .nil,?_⟩
  exact .refl _
  done
def rulesU(b:Bk):U:=.agg [.fn 115 [] [],.fn 116 [b.u] [],.fn 117 [] []]
theorem ret94(hi:Off is)(b:Bk):RetP Tryd.prog is orc 94 [b.u] (rulesU b):=by
 refine zAr body94 pure94 rfl rfl (fun u hu=>?_) ?_ ?_
 ·have hd:=wS (yM b 4) u hu
  exact⟨hd.nb,NoOwn.of fun z es h=>by
   simp only[List.mem_cons,List.not_mem_nil,or_false]at hu
   rw[hu]at h;cases h⟩
 ·refine NB.agg fun c hc=>?_
  simp only[List.mem_cons,List.not_mem_nil,or_false]at hc
  rcases hc with rfl|rfl|rfl
  ·exact NB.fn (fun u hu=>by cases hu) (fun u hu=>by cases hu)
  ·exact NB.fn (fun u hu=>(wS (yM b 4) u hu).nb) (fun u hu=>by cases hu)
  ·exact NB.fn (fun u hu=>by cases hu) (fun u hu=>by cases hu)
 refine kQ (zl rfl rfl (zo rfl ze118 ?_))
 refine zA ?_
 refine zJ [(1,U.box 0 0),(2,U.box 1 0)] ([SB.box [.int .i64 (Bk.parts b),.int .i64 (Bk.size b),.lst .ro 1 (zE (Bk.beats b)),.int .i64 (Bk.start b),.int .i64 (Bk.fin b),.int .i64 (Bk.tlo b),.int .i64 (Bk.thi b),.int .i64 (Bk.slo b),.int .i64 (Bk.shi b),.int .i64 (Bk.notice b),.lst .ro 3 (plsU (Bk.players b))],SB.box [U.nilf,U.nilf,U.nilf]]) (.cons rfl (.cons rfl (.nil rfl))) rfl fun fr=>?_
 refine kQ (zM rfl rfl rfl sh75 rfl ?_)
 refine zGq rfl ?_
 refine zAn rfl ze118 pl118 rfl rfl ?_
 refine ze rfl rfl sh118 rfl rfl rfl rfl rfl ?_
 refine zA (zV ?_)
 refine⟨.inr rfl,_,.cons _ _ _ _ (.cellN 2 118 _ _ _ _ rfl rfl sh118 rfl) .nil,?_⟩
 exact .refl _
structure POk(b:Bk)(l:List Int):Prop where
 len:(l.length:Int)=b.parts
 rg:∀x∈l,0≤x∧x≤3
 st:l[0]? =some b.start
 nr:∀i x y,l[i]? =some x→l[i+1]? =some y→x - 1≤y∧y≤x+1
set_option maxHeartbeats 8000000 in
theorem ret62(hi:Off is){b:Bk}{l:List Int}(hb:BOk b)(h:POk b l):RetP Tryd.prog is orc 62 [b.u,.lst .ro 1 (zE l)] (.bool true):=by
 refine zp body62 pure62 (hi 62 (by decide)) rfl rfl (yR (yM b 4) (zd 6 .ro (fun h=>by cases h) 1 l)) (.inl (.bool _ _)) ?_
 have hp:=hb.pa
 have hlen:=h.len
 have q94:=ret94 (orc:=orc) hi b
 refine kQ (zl rfl rfl (zB rfl (zA ?_)))
 refine zJ [(1,.lst .ro 1 (zE l)),(2,U.box 0 0)] ([SB.box [.int .i64 (Bk.parts b),.int .i64 (Bk.size b),.lst .ro 1 (zE (Bk.beats b)),.int .i64 (Bk.start b),.int .i64 (Bk.fin b),.int .i64 (Bk.tlo b),.int .i64 (Bk.thi b),.int .i64 (Bk.slo b),.int .i64 (Bk.shi b),.int .i64 (Bk.notice b),.lst .ro 3 (plsU (Bk.players b))]]) (.cons rfl (.cons rfl (.nil rfl))) rfl fun fr=>?_
 refine k_seq (kQ (zC rfl (yA rfl ty94 rfl (List.length_map _) ?_)))
 refine zF rfl rfl ya (zF rfl rfl wN (zG rfl rfl rfl sh3 rfl (wB rfl rfl rfl (zA (k_cF rfl (decide_eq_false (by omega)) (zR (kQ (zM rfl rfl rfl sh75 rfl ?_))))))))
 refine zP rfl (q94) (.lrefl _) (zo rfl ze118 ?_)
 refine ze rfl rfl sh118 rfl rfl rfl rfl rfl ?_
 refine zA ?_
 refine zJ [(1,.lst .ro 1 (zE l)),(5,U.box 1 0)] ([SB.box [.int .i64 (Bk.parts b),.int .i64 (Bk.size b),.lst .ro 1 (zE (Bk.beats b)),.int .i64 (Bk.start b),.int .i64 (Bk.fin b),.int .i64 (Bk.tlo b),.int .i64 (Bk.thi b),.int .i64 (Bk.slo b),.int .i64 (Bk.shi b),.int .i64 (Bk.notice b),.lst .ro 3 (plsU (Bk.players b))],SB.box [U.fn 115 [] [],U.fn 116 [Bk.u b] [],U.fn 117 [] []]]) (.cons rfl (.cons rfl (.nil rfl))) rfl fun fr=>?_
 refine k_seq (kQ (zC rfl (yA rfl ty94 rfl (List.length_map _) ?_)))
 refine zC rfl (zA (zN ?_))
 refine yd (fun kk s2=>∃i:Nat,kk+i=l.length∧s2.st=[SB.box [.int .i64 b.parts,.int .i64 b.size,.lst .ro 1 (zE b.beats),.int .i64 b.start,.int .i64 b.fin,.int .i64 b.tlo,.int .i64 b.thi,.int .i64 b.slo,.int .i64 b.shi,.int .i64 b.notice,.lst .ro 3 (plsU b.players)],SB.box [U.fn 115 [] [],U.fn 116 [b.u] [],U.fn 117 [] []]]∧Holds s2 [(1,.lst .ro 1 (zE l)),(5,.box 1 0),(18,.int .i64 l.length),(19,.int .i64 i),(17,.lst .ro 1 (zE l))]) (fun kk s2 hI=>?_) l.length _ ⟨0,rfl,rfl,.c4 rfl rfl rfl rfl (.cons rfl (.nil rfl))⟩
 obtain⟨i,hk,hst2,hs2⟩:=hI
 refine zJ _ _ hs2 hst2 fun fr2=>?_
 by_cases hin:i<l.length
 ·obtain⟨x,hx⟩:∃x,l[i]? =some x:=⟨l[i],List.getElem?_eq_getElem hin⟩
  have hxr:=h.rg x (List.mem_of_getElem? hx)
  have q115:RetP Tryd.prog is orc 115 [.lst .ro 1 (zE l),.int .i64 i] (.bool true):=by
   have:=ret115 (orc:=orc) hi hx (by omega)
   rw[zCI.2 hxr]at this;exact this
  have q116:RetP Tryd.prog is orc 116 [b.u,.lst .ro 1 (zE l),.int .i64 i] (.bool true):=ret116 hi hx (by omega) fun hz=>by
   have h0:=h.st
   rw[←hz,hx]at h0;cases h0;rfl
  have q117:RetP Tryd.prog is orc 117 [.lst .ro 1 (zE l),.int .i64 i] (.bool true):=by
   have:=ret117 (orc:=orc) hi hx (fun y hy=>h.rg y (List.mem_of_mem_take hy)) (by omega)
   have e:(decide (i=0)||decide (zCY ((l[i - 1]?).getD 0) x≤1))=true:=by
    cases i with
    |zero=>rfl
    |succ i=>
     obtain⟨w,hw⟩:∃w,l[i]? =some w:=⟨l[i],List.getElem?_eq_getElem (by omega)⟩
     have:=h.nr i w x hw hx
     rw[Nat.add_sub_cancel,hw]
     unfold zCY
     simp only[Bool.or_eq_true,decide_eq_true_eq,Option.getD_some]
     omega
   rw[e]at this;exact this
  refine kQ (zh rfl rfl rfl (zA (k_seq (k_cT rfl (decide_eq_true (by omega)) (zR (k_seq (zN (kQ ?_))))))))
  refine zC rfl (zB rfl (zA (kQ (zM rfl rfl rfl sh118 rfl (zC rfl (zA (zN ?_)))))))
  refine yd (fun mm s2=>∃j:Nat,mm+j=3∧s2.st=[SB.box [.int .i64 b.parts,.int .i64 b.size,.lst .ro 1 (zE b.beats),.int .i64 b.start,.int .i64 b.fin,.int .i64 b.tlo,.int .i64 b.thi,.int .i64 b.slo,.int .i64 b.shi,.int .i64 b.notice,.lst .ro 3 (plsU b.players)],SB.box [U.fn 115 [] [],U.fn 116 [b.u] [],U.fn 117 [] []]]∧Holds s2 [(1,.lst .ro 1 (zE l)),(5,.box 1 0),(6,.int .i64 i),(17,.lst .ro 1 (zE l)),(18,.int .i64 l.length),(19,.int .i64 i),(22,.agg [U.fn 115 [] [],U.fn 116 [b.u] [],U.fn 117 [] []]),(23,.int .i64 j)]) (fun mm s2 hI=>?_) 3 _ ⟨0,rfl,rfl,.c4 rfl rfl rfl rfl (.c4 rfl rfl rfl rfl (.nil rfl))⟩
  obtain⟨j,hj,hst2,hs2⟩:=hI
  refine zJ _ _ hs2 hst2 fun fr2=>?_
  have hj3:j=0∨j=1∨j=2∨j=3:=by omega
  rcases hj3 with rfl|rfl|rfl|rfl
  ·refine kQ ?_
   refine zh rfl rfl rfl (zA (k_seq (k_cT rfl rfl ?_)))
   refine zR (k_seq (zN (kQ (zBR rfl zDl rfl rfl (by omega) (by omega) zEC zDp rfl ?_))))
   refine zB rfl (zA (kQ (zC rfl (zC rfl (zC rfl (yn rfl rfl q115 (.lrefl _) ?_))))))
   refine wK rfl rfl (zA (k_cF rfl rfl ?_))
   refine zR (k_region ?_)
   refine yT rfl rfl rfl (by unfold I64;omega) (zC rfl (zA ?_))
   exact⟨mm - 1,by omega,1,by omega,rfl,.c4 rfl rfl rfl rfl (.c4 rfl rfl rfl rfl (.nil rfl))⟩
  ·refine kQ ?_
   refine zh rfl rfl rfl (zA (k_seq (k_cT rfl rfl ?_)))
   refine zR (k_seq (zN (kQ (zBR rfl zDl rfl rfl (by omega) (by omega) zEC zDp rfl ?_))))
   refine zB rfl (zA (kQ (zC rfl (zC rfl (zC rfl (yn rfl rfl q116 (.lrefl _) ?_))))))
   refine wK rfl rfl (zA (k_cF rfl rfl ?_))
   refine zR (k_region ?_)
   refine yT rfl rfl rfl (by unfold I64;omega) (zC rfl (zA ?_))
   exact⟨mm - 1,by omega,2,by omega,rfl,.c4 rfl rfl rfl rfl (.c4 rfl rfl rfl rfl (.nil rfl))⟩
  ·refine kQ ?_
   refine zh rfl rfl rfl (zA (k_seq (k_cT rfl rfl ?_)))
   refine zR (k_seq (zN (kQ (zBR rfl zDl rfl rfl (by omega) (by omega) zEC zDp rfl ?_))))
   refine zB rfl (zA (kQ (zC rfl (zC rfl (zC rfl (yn rfl rfl q117 (.lrefl _) ?_))))))
   refine wK rfl rfl (zA (k_cF rfl rfl ?_))
   refine zR (k_region ?_)
   refine yT rfl rfl rfl (by unfold I64;omega) (zC rfl (zA ?_))
   exact⟨mm - 1,by omega,3,by omega,rfl,.c4 rfl rfl rfl rfl (.c4 rfl rfl rfl rfl (.nil rfl))⟩
  ·refine kQ ?_
   refine zh rfl rfl rfl (zA (k_seq (k_cF rfl rfl ?_)))
   refine yJ (k_region ?_)
   refine yT rfl rfl rfl (by unfold I64;omega) (zC rfl (zA ?_))
   exact⟨kk - 1,by omega,i+1,by omega,rfl,.c4 rfl rfl rfl rfl (.cons rfl (.nil rfl))⟩
 ·refine kQ ?_
  refine zh rfl rfl rfl (zA (k_seq (k_cF rfl (decide_eq_false (by omega)) (yJ (kQ (zB rfl (zA (zV ?_))))))))
  refine⟨.inr rfl,_,.cons _ _ _ _ (.tmp 4) .nil,?_⟩
  exact .refl _
end
section
variable {is:FuncId→Bool}{orc:Known}
theorem at_off{st X:List SB}{k:Nat}{x:SB}(h:X[k]? =some x):(st++X)[st.length+k]? =some x:=by
 rw[List.getElem?_append_right (by omega),Nat.add_sub_cancel_left];exact h
theorem set_off{st X:List SB}{k:Nat}{x:SB}:(st++X).set (st.length+k) x=st++X.set k x:=by
 rw[List.set_append_right _ _ (by omega),Nat.add_sub_cancel_left]
end
section
variable {is:FuncId→Bool}{orc:Known}
theorem nb_fn0(f:Nat):NB (.fn f [] []):=NB.fn (fun u hu=>by cases hu) (fun u hu=>by cases hu)
def chgI(p:Nat→Int):Nat→Int
 |0=>0
 |k+1=>chgI p k+if p (k+1)=p k then 0 else 1
theorem chgI_b(p:Nat→Int)(k:Nat):0≤chgI p k∧chgI p k≤k:=by
 induction k with
 |zero=>exact⟨Int.le_refl _,Int.le_refl _⟩
 |succ k ih=>
  have e:chgI p (k+1)=chgI p k+if p (k+1)=p k then 0 else 1:=rfl
  rw[e]
  split<;>omega
end
end Go.Proofs.YtfbmlibilcjlgaaDoor.drumPlans
