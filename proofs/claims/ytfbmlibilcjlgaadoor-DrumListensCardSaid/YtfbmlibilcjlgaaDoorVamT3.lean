import Derived.Test.YtfbmlibilcjlgaaDoorVamT2
set_option linter.unusedVariables false
set_option linter.unusedSimpArgs false
set_option linter.constructorNameAsVariable false
namespace Go.Proofs.YtfbmlibilcjlgaaDoor.drumListens
open Vam
section
variable {is:FuncId→Bool}{orc:Known}
theorem pl118:zEx Tryd.prog 118=some [(0,1),(1,1),(2,1)]:=by kernel_rfl
theorem sh118:shOf Tryd.prog 118=.many 3:=by kernel_rfl
theorem ze118:yQ Tryd.prog 118=some ((.cons .nilf (.cons .nilf (.cons .nilf .nil))):V):=by kernel_rfl
noncomputable def b94:Code:=(Tryd.f94.body).getD .skip
theorem body94:bodyOf Tryd.prog 94=some (6,b94,[.cell 2 118]):=by kernel_rfl
theorem pure94:pureFn Tryd.prog 94=false:=by kernel_rfl
theorem cl117:Program.cellsOf Tryd.prog 117=1:=by kernel_rfl
theorem sh117:shOf Tryd.prog 117=.one:=by kernel_rfl
theorem ty118:tyOf Tryd.prog 118=.array 3 117:=by kernel_rfl
noncomputable def b62:Code:=(Tryd.f62.body).getD .skip
theorem body62:bodyOf Tryd.prog 62=some (33,b62,[.tmp 4]):=by kernel_rfl
theorem pure62:pureFn Tryd.prog 62=true:=by kernel_rfl
theorem cl83:Program.cellsOf Tryd.prog 83=1:=by kernel_rfl
theorem pl75:zEx Tryd.prog 75=some [(0,11)]:=by kernel_rfl
theorem sh83:shOf Tryd.prog 83=.one:=by kernel_rfl
theorem ty116:tyOf Tryd.prog 116=.slice 83:=by kernel_rfl
theorem ze75:yQ Tryd.prog 75=some ((.cons (.int .i64 0) (.cons (.int .i64 0) (.cons .nils (.cons (.int .i64 0) (.cons (.int .i64 0) (.cons (.int .i64 0) (.cons (.int .i64 0) (.cons (.int .i64 0) (.cons (.int .i64 0) (.cons (.int .i64 0) (.cons .nils .nil))))))))))):V):=by kernel_rfl
noncomputable def b60:Code:=(Tryd.f60.body).getD .skip
theorem body60:bodyOf Tryd.prog 60=some (31,b60,[.cell 4 75,.tmp 5]):=by kernel_rfl
theorem pure60:pureFn Tryd.prog 60=false:=by kernel_rfl
theorem ze83:yQ Tryd.prog 83=some ((.cons .nilf .nil):V):=by kernel_rfl
theorem ret128(hi:Off is)(b:Bk):RetP Tryd.prog is orc 128 [b.u] (yD 0 b.start):=by
 refine zw body128 pure128 (hi 128 (by decide)) rfl rfl (zAA (yg b 4)) (.inl (yk _ _ 6)) ?_
 refine kQ (zr rfl rfl (zu rfl ze125 ?_))
 refine zB ?_
 refine zK [(1,U.box 0 0),(2,U.box 1 0)] ([SB.box [.int .i64 (Bk.parts b),.int .i64 (Bk.size b),.lst .ro 1 (zD (Bk.beats b)),.int .i64 (Bk.start b),.int .i64 (Bk.fin b),.int .i64 (Bk.tlo b),.int .i64 (Bk.thi b),.int .i64 (Bk.slo b),.int .i64 (Bk.shi b),.int .i64 (Bk.notice b),.lst .ro 3 (plsU (Bk.players b))],SB.box [.int .i64 0,.int .i64 0]]) (.cons rfl (.cons rfl (.nil rfl))) rfl fun fr=>?_
 refine kQ (zF rfl rfl yW (zF rfl rfl zGJ (zG rfl rfl rfl sh3 rfl (wT rfl ze125 pl125 rfl rfl ?_))))
 refine zl rfl rfl sh125 rfl rfl rfl rfl rfl ?_
 refine zB (zU ?_)
 refine⟨.inr rfl,_,.cons _ _ _ _ (.cellN 2 125 _ _ _ _ rfl rfl sh125 rfl) .nil,?_⟩
 exact .refl _
theorem plc_same(a b:Int):binV Tryd.prog 125 .eql (valK (yD a b)) (valK (yD a b))=some (.bool true):=by
 have h:binV Tryd.prog 125 .eql (valK (yD a b)) (valK (yD a b))=opt none (fun x=>some (V.bool x)) (Vam.cond (ieq a a) (Vam.cond (ieq b b) (some true) (some false)) (some false)):=by kernel_rfl
 rw[h,zAK,zAK,show(a==a)=true by simp,show(b==b)=true by simp];rfl
set_option maxHeartbeats 4000000 in
theorem ret116(hi:Off is){b:Bk}{l:List Int}{i:Nat}{x:Int}(hx:l[i]? =some x)(hl:l.length≤4096)(h0:i=0→x=b.start):RetP Tryd.prog is orc 116 [b.u,.lst .ro 1 (zD l),.int .i64 i] (.bool true):=by
 refine zw body116 pure116 (hi 116 (by decide)) rfl rfl (fun u hu=>by
  simp only[List.mem_cons,List.not_mem_nil,or_false]at hu
  rcases hu with rfl|rfl|rfl
  ·exact yg b 4
  ·exact zg 6 .ro (fun h=>by cases h) 1 l
  ·exact .int _ _ _) (.inl (.bool _ _)) ?_
 have h1:=(List.getElem?_eq_some_iff.1 hx).1
 by_cases hz:i=0
 ·have hx0:=h0 hz
  subst hz
  subst hx0
  have q101:RetP Tryd.prog is orc 101 [.lst .ro 1 (zD l),.int .i64 0] (yD 0 b.start):=ret101 (orc:=orc) hi hx hl
  refine kQ (zr rfl rfl (zC rfl (zB ?_)))
  refine zK [(1,.lst .ro 1 (zD l)),(2,.int .i64 ↑0),(3,U.box 0 0)] ([SB.box [.int .i64 (Bk.parts b),.int .i64 (Bk.size b),.lst .ro 1 (zD (Bk.beats b)),.int .i64 (Bk.start b),.int .i64 (Bk.fin b),.int .i64 (Bk.tlo b),.int .i64 (Bk.thi b),.int .i64 (Bk.slo b),.int .i64 (Bk.shi b),.int .i64 (Bk.notice b),.lst .ro 3 (plsU (Bk.players b))]]) (.cons rfl (.cons rfl (.cons rfl (.nil rfl)))) rfl fun fr=>?_
  refine k_seq (ya [.plain,.plain,.plain,.plain,.plain,.read false,.read true,.plain,.plain,.plain,.plain] (by kernel_rfl) (by kernel_rfl) (by kernel_rfl) ?_)
  refine zE (zA rfl (zB rfl)) (zE (o_gtr rfl rfl rfl (zB rfl)) ?_)
  refine zE (zA rfl (zB rfl)) (d_gD rfl rfl rfl rfl rfl (zE (zA rfl (zB rfl)) (d_gD rfl rfl rfl rfl rfl (zE (zA rfl (zB rfl)) (d_gD rfl rfl rfl rfl rfl (zCG rfl (q101) (zCm _ _) (.lrefl _) ?_))))))
  refine d_gD rfl rfl rfl rfl rfl (zb rfl (zO rfl rfl rfl sh75 rfl (zB rfl)) ?_)
  refine d_gD rfl rfl rfl rfl rfl (zE (zN rfl (ret128 hi b) (.lrefl _) (zB rfl)) ?_)
  refine d_gD rfl rfl rfl rfl rfl (zE (o_binK rfl rfl rfl rfl rfl (plc_same 0 _) (zB rfl)) ?_)
  refine zE (zR rfl rfl rfl (zB rfl)) ?_
  refine zE (zC rfl (zB rfl)) ?_
  refine wb ?_
  refine zU ?_
  refine⟨.inr rfl,_,.cons _ _ _ _ (.tmp 6) .nil,?_⟩
  exact .refl _
 ·refine kQ ?_
  refine zr rfl rfl (zC rfl (zB ?_))
  refine zK [(1,.lst .ro 1 (zD l)),(2,.int .i64 ↑i),(3,U.box 0 0)] ([SB.box [.int .i64 (Bk.parts b),.int .i64 (Bk.size b),.lst .ro 1 (zD (Bk.beats b)),.int .i64 (Bk.start b),.int .i64 (Bk.fin b),.int .i64 (Bk.tlo b),.int .i64 (Bk.thi b),.int .i64 (Bk.slo b),.int .i64 (Bk.shi b),.int .i64 (Bk.notice b),.lst .ro 3 (plsU (Bk.players b))]]) (.cons rfl (.cons rfl (.cons rfl (.nil rfl)))) rfl fun fr=>?_
  refine k_seq (ya [.plain,.plain,.plain,.plain,.plain,.read false,.read true,.plain,.plain,.plain,.plain] (by kernel_rfl) (by kernel_rfl) (by kernel_rfl) ?_)
  refine zE (zA rfl (zB rfl)) (zE (o_gtr rfl rfl rfl (zB rfl)) ?_)
  refine zE (zA rfl (zB rfl)) (d_gS rfl rfl rfl rfl (decide_eq_true (by omega)) ?_)
  refine d_gS rfl rfl rfl rfl (decide_eq_true (by omega)) ?_
  refine d_gS rfl rfl rfl rfl (decide_eq_true (by omega)) ?_
  refine d_gS rfl rfl rfl rfl (decide_eq_true (by omega)) ?_
  refine d_gS rfl rfl rfl rfl (decide_eq_true (by omega)) ?_
  refine d_gS rfl rfl rfl rfl (decide_eq_true (by omega)) ?_
  refine zE (zX rfl rfl (decide_eq_true (by omega)) (zB rfl)) ?_
  refine zE (zC rfl (zB rfl)) ?_
  refine wb ?_
  refine zU ?_
  refine⟨.inr rfl,_,.cons _ _ _ _ (.tmp 6) .nil,?_⟩
  exact .refl _
  done
def rulesU(b:Bk):U:=.agg [.fn 115 [] [],.fn 116 [b.u] [],.fn 117 [] []]
theorem ret94(hi:Off is)(b:Bk):RetP Tryd.prog is orc 94 [b.u] (rulesU b):=by
 refine zAG body94 pure94 rfl rfl (fun u hu=>?_) ?_ ?_
 ·have hd:=zAA (yg b 4) u hu
  exact⟨hd.nb,NoOwn.of fun z es h=>by
   simp only[List.mem_cons,List.not_mem_nil,or_false]at hu
   rw[hu]at h;cases h⟩
 ·refine NB.agg fun c hc=>?_
  simp only[List.mem_cons,List.not_mem_nil,or_false]at hc
  rcases hc with rfl|rfl|rfl
  ·exact NB.fn (fun u hu=>by cases hu) (fun u hu=>by cases hu)
  ·exact NB.fn (fun u hu=>(zAA (yg b 4) u hu).nb) (fun u hu=>by cases hu)
  ·exact NB.fn (fun u hu=>by cases hu) (fun u hu=>by cases hu)
 refine kQ (zr rfl rfl (zu rfl ze118 ?_))
 refine zB ?_
 refine zK [(1,U.box 0 0),(2,U.box 1 0)] ([SB.box [.int .i64 (Bk.parts b),.int .i64 (Bk.size b),.lst .ro 1 (zD (Bk.beats b)),.int .i64 (Bk.start b),.int .i64 (Bk.fin b),.int .i64 (Bk.tlo b),.int .i64 (Bk.thi b),.int .i64 (Bk.slo b),.int .i64 (Bk.shi b),.int .i64 (Bk.notice b),.lst .ro 3 (plsU (Bk.players b))],SB.box [U.nilf,U.nilf,U.nilf]]) (.cons rfl (.cons rfl (.nil rfl))) rfl fun fr=>?_
 refine kQ (zO rfl rfl rfl sh75 rfl ?_)
 refine zEm rfl ?_
 refine wT rfl ze118 pl118 rfl rfl ?_
 refine zl rfl rfl sh118 rfl rfl rfl rfl rfl ?_
 refine zB (zU ?_)
 refine⟨.inr rfl,_,.cons _ _ _ _ (.cellN 2 118 _ _ _ _ rfl rfl sh118 rfl) .nil,?_⟩
 exact .refl _
structure POk(b:Bk)(l:List Int):Prop where
 len:(l.length:Int)=b.parts
 rg:∀x∈l,0≤x∧x≤3
 st:l[0]? =some b.start
 nr:∀i x y,l[i]? =some x→l[i+1]? =some y→x - 1≤y∧y≤x+1
set_option maxHeartbeats 8000000 in
theorem ret62(hi:Off is){b:Bk}{l:List Int}(hb:BOk b)(h:POk b l):RetP Tryd.prog is orc 62 [b.u,.lst .ro 1 (zD l)] (.bool true):=by
 refine zw body62 pure62 (hi 62 (by decide)) rfl rfl (yj (yg b 4) (zg 6 .ro (fun h=>by cases h) 1 l)) (.inl (.bool _ _)) ?_
 have hp:=hb.pa
 have hlen:=h.len
 have q94:=ret94 (orc:=orc) hi b
 refine kQ (zr rfl rfl (zC rfl (zB ?_)))
 refine zK [(1,.lst .ro 1 (zD l)),(2,U.box 0 0)] ([SB.box [.int .i64 (Bk.parts b),.int .i64 (Bk.size b),.lst .ro 1 (zD (Bk.beats b)),.int .i64 (Bk.start b),.int .i64 (Bk.fin b),.int .i64 (Bk.tlo b),.int .i64 (Bk.thi b),.int .i64 (Bk.slo b),.int .i64 (Bk.shi b),.int .i64 (Bk.notice b),.lst .ro 3 (plsU (Bk.players b))]]) (.cons rfl (.cons rfl (.nil rfl))) rfl fun fr=>?_
 refine k_seq (kQ (zA rfl (yB rfl ty94 rfl (List.length_map _) ?_)))
 refine zF rfl rfl yW (zF rfl rfl yp (zG rfl rfl rfl sh3 rfl (zAr rfl rfl rfl (zB (k_cF rfl (decide_eq_false (by omega)) (zQ (kQ (zO rfl rfl rfl sh75 rfl ?_))))))))
 refine zN rfl (q94) (.lrefl _) (zu rfl ze118 ?_)
 refine zl rfl rfl sh118 rfl rfl rfl rfl rfl ?_
 refine zB ?_
 refine zK [(1,.lst .ro 1 (zD l)),(5,U.box 1 0)] ([SB.box [.int .i64 (Bk.parts b),.int .i64 (Bk.size b),.lst .ro 1 (zD (Bk.beats b)),.int .i64 (Bk.start b),.int .i64 (Bk.fin b),.int .i64 (Bk.tlo b),.int .i64 (Bk.thi b),.int .i64 (Bk.slo b),.int .i64 (Bk.shi b),.int .i64 (Bk.notice b),.lst .ro 3 (plsU (Bk.players b))],SB.box [U.fn 115 [] [],U.fn 116 [Bk.u b] [],U.fn 117 [] []]]) (.cons rfl (.cons rfl (.nil rfl))) rfl fun fr=>?_
 refine k_seq (kQ (zA rfl (yB rfl ty94 rfl (List.length_map _) ?_)))
 refine zA rfl (zB (zM ?_))
 refine yi (fun kk s2=>∃i:Nat,kk+i=l.length∧s2.st=[SB.box [.int .i64 b.parts,.int .i64 b.size,.lst .ro 1 (zD b.beats),.int .i64 b.start,.int .i64 b.fin,.int .i64 b.tlo,.int .i64 b.thi,.int .i64 b.slo,.int .i64 b.shi,.int .i64 b.notice,.lst .ro 3 (plsU b.players)],SB.box [U.fn 115 [] [],U.fn 116 [b.u] [],U.fn 117 [] []]]∧Holds s2 [(1,.lst .ro 1 (zD l)),(5,.box 1 0),(18,.int .i64 l.length),(19,.int .i64 i),(17,.lst .ro 1 (zD l))]) (fun kk s2 hI=>?_) l.length _ ⟨0,rfl,rfl,.c4 rfl rfl rfl rfl (.cons rfl (.nil rfl))⟩
 obtain⟨i,hk,hst2,hs2⟩:=hI
 refine zK _ _ hs2 hst2 fun fr2=>?_
 by_cases hin:i<l.length
 ·obtain⟨x,hx⟩:∃x,l[i]? =some x:=⟨l[i],List.getElem?_eq_getElem hin⟩
  have hxr:=h.rg x (List.mem_of_getElem? hx)
  have q115:RetP Tryd.prog is orc 115 [.lst .ro 1 (zD l),.int .i64 i] (.bool true):=by
   have:=ret115 (orc:=orc) hi hx (by omega)
   rw[zDZ.2 hxr]at this;exact this
  have q116:RetP Tryd.prog is orc 116 [b.u,.lst .ro 1 (zD l),.int .i64 i] (.bool true):=ret116 hi hx (by omega) fun hz=>by
   have h0:=h.st
   rw[←hz,hx]at h0;cases h0;rfl
  have q117:RetP Tryd.prog is orc 117 [.lst .ro 1 (zD l),.int .i64 i] (.bool true):=by
   have:=ret117 (orc:=orc) hi hx (fun y hy=>h.rg y (List.mem_of_mem_take hy)) (by omega)
   have e:(decide (i=0)||decide (zFb ((l[i - 1]?).getD 0) x≤1))=true:=by
    cases i with
    |zero=>rfl
    |succ i=>
     obtain⟨w,hw⟩:∃w,l[i]? =some w:=⟨l[i],List.getElem?_eq_getElem (by omega)⟩
     have:=h.nr i w x hw hx
     rw[Nat.add_sub_cancel,hw]
     unfold zFb
     simp only[Bool.or_eq_true,decide_eq_true_eq,Option.getD_some]
     omega
   rw[e]at this;exact this
  refine kQ (zc rfl rfl rfl (zB (k_seq (k_cT rfl (decide_eq_true (by omega)) (zQ (k_seq (zM (kQ ?_))))))))
  refine zA rfl (zC rfl (zB (kQ (zO rfl rfl rfl sh118 rfl (zA rfl (zB (zM ?_)))))))
  refine yi (fun mm s2=>∃j:Nat,mm+j=3∧s2.st=[SB.box [.int .i64 b.parts,.int .i64 b.size,.lst .ro 1 (zD b.beats),.int .i64 b.start,.int .i64 b.fin,.int .i64 b.tlo,.int .i64 b.thi,.int .i64 b.slo,.int .i64 b.shi,.int .i64 b.notice,.lst .ro 3 (plsU b.players)],SB.box [U.fn 115 [] [],U.fn 116 [b.u] [],U.fn 117 [] []]]∧Holds s2 [(1,.lst .ro 1 (zD l)),(5,.box 1 0),(6,.int .i64 i),(17,.lst .ro 1 (zD l)),(18,.int .i64 l.length),(19,.int .i64 i),(22,.agg [U.fn 115 [] [],U.fn 116 [b.u] [],U.fn 117 [] []]),(23,.int .i64 j)]) (fun mm s2 hI=>?_) 3 _ ⟨0,rfl,rfl,.c4 rfl rfl rfl rfl (.c4 rfl rfl rfl rfl (.nil rfl))⟩
  obtain⟨j,hj,hst2,hs2⟩:=hI
  refine zK _ _ hs2 hst2 fun fr2=>?_
  have hj3:j=0∨j=1∨j=2∨j=3:=by omega
  rcases hj3 with rfl|rfl|rfl|rfl
  ·refine kQ ?_
   refine zc rfl rfl rfl (zB (k_seq (k_cT rfl rfl ?_)))
   refine zQ (k_seq (zM (kQ (zCN rfl ty118 rfl rfl (by omega) (by omega) cl117 sh117 rfl ?_))))
   refine zC rfl (zB (kQ (zA rfl (zA rfl (zA rfl (wB rfl rfl q115 (.lrefl _) ?_))))))
   refine wI rfl rfl (zB (k_cF rfl rfl ?_))
   refine zQ (k_region ?_)
   refine yU rfl rfl rfl (by unfold I64;omega) (zA rfl (zB ?_))
   exact⟨mm - 1,by omega,1,by omega,rfl,.c4 rfl rfl rfl rfl (.c4 rfl rfl rfl rfl (.nil rfl))⟩
  ·refine kQ ?_
   refine zc rfl rfl rfl (zB (k_seq (k_cT rfl rfl ?_)))
   refine zQ (k_seq (zM (kQ (zCN rfl ty118 rfl rfl (by omega) (by omega) cl117 sh117 rfl ?_))))
   refine zC rfl (zB (kQ (zA rfl (zA rfl (zA rfl (wB rfl rfl q116 (.lrefl _) ?_))))))
   refine wI rfl rfl (zB (k_cF rfl rfl ?_))
   refine zQ (k_region ?_)
   refine yU rfl rfl rfl (by unfold I64;omega) (zA rfl (zB ?_))
   exact⟨mm - 1,by omega,2,by omega,rfl,.c4 rfl rfl rfl rfl (.c4 rfl rfl rfl rfl (.nil rfl))⟩
  ·refine kQ ?_
   refine zc rfl rfl rfl (zB (k_seq (k_cT rfl rfl ?_)))
   refine zQ (k_seq (zM (kQ (zCN rfl ty118 rfl rfl (by omega) (by omega) cl117 sh117 rfl ?_))))
   refine zC rfl (zB (kQ (zA rfl (zA rfl (zA rfl (wB rfl rfl q117 (.lrefl _) ?_))))))
   refine wI rfl rfl (zB (k_cF rfl rfl ?_))
   refine zQ (k_region ?_)
   refine yU rfl rfl rfl (by unfold I64;omega) (zA rfl (zB ?_))
   exact⟨mm - 1,by omega,3,by omega,rfl,.c4 rfl rfl rfl rfl (.c4 rfl rfl rfl rfl (.nil rfl))⟩
  ·refine kQ ?_
   refine zc rfl rfl rfl (zB (k_seq (k_cF rfl rfl ?_)))
   refine yX (k_region ?_)
   refine yU rfl rfl rfl (by unfold I64;omega) (zA rfl (zB ?_))
   exact⟨kk - 1,by omega,i+1,by omega,rfl,.c4 rfl rfl rfl rfl (.cons rfl (.nil rfl))⟩
 ·refine kQ ?_
  refine zc rfl rfl rfl (zB (k_seq (k_cF rfl (decide_eq_false (by omega)) (yX (kQ (zC rfl (zB (zU ?_))))))))
  refine⟨.inr rfl,_,.cons _ _ _ _ (.tmp 4) .nil,?_⟩
  exact .refl _
end
section
variable {is:FuncId→Bool}{orc:Known}
theorem zEr{st X:List SB}{k:Nat}{x:SB}(h:X[k]? =some x):(st++X)[st.length+k]? =some x:=by
 rw[List.getElem?_append_right (by omega),Nat.add_sub_cancel_left];exact h
theorem set_off{st X:List SB}{k:Nat}{x:SB}:(st++X).set (st.length+k) x=st++X.set k x:=by
 rw[List.set_append_right _ _ (by omega),Nat.add_sub_cancel_left]
end
section
variable {is:FuncId→Bool}{orc:Known}
theorem pl145:zEx Tryd.prog 145=some [(0,1),(1,1),(2,1),(3,1)]:=by kernel_rfl
theorem sh145:shOf Tryd.prog 145=.many 4:=by kernel_rfl
theorem ze145:yQ Tryd.prog 145=some ((.cons .nilf (.cons .nilf (.cons .nilf (.cons .nilf .nil)))):V):=by kernel_rfl
noncomputable def b126:Code:=(Tryd.f126.body).getD .skip
theorem body126:bodyOf Tryd.prog 126=some (2,b126,[.cell 0 145]):=by kernel_rfl
theorem pure126:pureFn Tryd.prog 126=false:=by kernel_rfl
theorem cl144:Program.cellsOf Tryd.prog 144=1:=by kernel_rfl
theorem sh144:shOf Tryd.prog 144=.one:=by kernel_rfl
theorem ty145:tyOf Tryd.prog 145=.array 4 144:=by kernel_rfl
noncomputable def b112:Code:=(Tryd.f112.body).getD .skip
theorem body112:bodyOf Tryd.prog 112=some (11,b112,[.tmp 4]):=by kernel_rfl
theorem pure112:pureFn Tryd.prog 112=true:=by kernel_rfl
abbrev waysU:U:=.agg [.fn 130 [] [],.fn 131 [] [],.fn 119 [] [],.fn 132 [] []]
theorem nb_fn0(f:Nat):NB (.fn f [] []):=NB.fn (fun u hu=>by cases hu) (fun u hu=>by cases hu)
theorem ret126(hi:Off is):RetP Tryd.prog is orc 126 [] waysU:=by
 refine zAG body126 pure126 rfl rfl (fun u hu=>by cases hu) (NB.agg fun c hc=>by
  simp only[List.mem_cons,List.not_mem_nil,or_false]at hc
  rcases hc with rfl|rfl|rfl|rfl<;>exact nb_fn0 _) ?_
 refine kQ (zu rfl ze145 ?_)
 refine zB ?_
 refine zK [(0,U.box 0 0)] ([SB.box [U.nilf,U.nilf,U.nilf,U.nilf]]) (.cons rfl (.nil rfl)) rfl fun fr=>?_
 refine kQ (wT rfl ze145 pl145 rfl rfl ?_)
 refine zl rfl rfl sh145 rfl rfl rfl rfl rfl ?_
 refine zB (zU ?_)
 refine⟨.inr rfl,_,.cons _ _ _ _ (.cellN 0 145 _ _ _ _ rfl rfl sh145 rfl) .nil,?_⟩
 exact .refl _
def zGO(x y w:Int):Bool:=if w= -2 then true else if w= -1 then decide (y<x)else if w=0 then decide (y=x)else decide (x<y)
set_option maxHeartbeats 4000000 in
theorem ret112(hi:Off is)(x y w:Int)(hw: -2≤w∧w≤1):RetP Tryd.prog is orc 112 [yD x y,.int .i64 w] (.bool (zGO x y w)):=by
 refine zw body112 pure112 (hi 112 (by decide)) rfl rfl (yj (yk x y 6) (.int _ _ _)) (.inl (.bool _ _)) ?_
 have q126:=ret126 (orc:=orc) hi
 have hc:w= -2∨w= -1∨w=0∨w=1:=by omega
 rcases hc with rfl|rfl|rfl|rfl
 ·refine kQ ?_
  refine zr rfl rfl (zC rfl (zB ?_))
  refine zK [(1,.int .i64 (-2:Int)),(2,U.box 0 0)] ([SB.box [.int .i64 x,.int .i64 y]]) (.cons rfl (.cons rfl (.nil rfl))) rfl fun fr=>?_
  refine k_seq (ya [.quiet,.plain,.plain,.plain,.read true,.plain,.plain] (by kernel_rfl) (by kernel_rfl) (by kernel_rfl) ?_)
  refine zEd rfl (q126) (.lrefl _) ?_
  refine zE (zA rfl (zB rfl)) ?_
  refine zE (wF rfl rfl rfl (by unfold I64;omega) (zB rfl)) ?_
  refine zE (zCN rfl ty145 rfl rfl (by omega) (by omega) cl144 sh144 rfl (zB rfl)) ?_
  refine zb rfl (zO rfl rfl rfl zEt rfl (zB rfl)) ?_
  refine zE (wB rfl rfl (ret130 (orc:=orc) hi x y) (.lrefl _) (zB rfl)) ?_
  refine zE (zC rfl (zB rfl)) ?_
  refine wb ?_
  refine zU ?_
  refine⟨.inr rfl,_,.cons _ _ _ _ (.tmp 4) .nil,?_⟩
  exact .refl _
 ·refine kQ ?_
  refine zr rfl rfl (zC rfl (zB ?_))
  refine zK [(1,.int .i64 (-1:Int)),(2,U.box 0 0)] ([SB.box [.int .i64 x,.int .i64 y]]) (.cons rfl (.cons rfl (.nil rfl))) rfl fun fr=>?_
  refine k_seq (ya [.quiet,.plain,.plain,.plain,.read true,.plain,.plain] (by kernel_rfl) (by kernel_rfl) (by kernel_rfl) ?_)
  refine zEd rfl (q126) (.lrefl _) ?_
  refine zE (zA rfl (zB rfl)) ?_
  refine zE (wF rfl rfl rfl (by unfold I64;omega) (zB rfl)) ?_
  refine zE (zCN rfl ty145 rfl rfl (by omega) (by omega) cl144 sh144 rfl (zB rfl)) ?_
  refine zb rfl (zO rfl rfl rfl zEt rfl (zB rfl)) ?_
  refine zE (wB rfl rfl (ret131 (orc:=orc) hi x y) (.lrefl _) (zB rfl)) ?_
  refine zE (zC rfl (zB rfl)) ?_
  refine wb ?_
  refine zU ?_
  refine⟨.inr rfl,_,.cons _ _ _ _ (.tmp 4) .nil,?_⟩
  exact .refl _
 ·refine kQ ?_
  refine zr rfl rfl (zC rfl (zB ?_))
  refine zK [(1,.int .i64 0),(2,U.box 0 0)] ([SB.box [.int .i64 x,.int .i64 y]]) (.cons rfl (.cons rfl (.nil rfl))) rfl fun fr=>?_
  refine k_seq (ya [.quiet,.plain,.plain,.plain,.read true,.plain,.plain] (by kernel_rfl) (by kernel_rfl) (by kernel_rfl) ?_)
  refine zEd rfl (q126) (.lrefl _) ?_
  refine zE (zA rfl (zB rfl)) ?_
  refine zE (wF rfl rfl rfl (by unfold I64;omega) (zB rfl)) ?_
  refine zE (zCN rfl ty145 rfl rfl (by omega) (by omega) cl144 sh144 rfl (zB rfl)) ?_
  refine zb rfl (zO rfl rfl rfl zEt rfl (zB rfl)) ?_
  refine zE (wB rfl rfl (ret119 (orc:=orc) hi x y) (.lrefl _) (zB rfl)) ?_
  refine zE (zC rfl (zB rfl)) ?_
  refine wb ?_
  refine zU ?_
  refine⟨.inr rfl,_,.cons _ _ _ _ (.tmp 4) .nil,?_⟩
  exact .refl _
 ·refine kQ ?_
  refine zr rfl rfl (zC rfl (zB ?_))
  refine zK [(1,.int .i64 1),(2,U.box 0 0)] ([SB.box [.int .i64 x,.int .i64 y]]) (.cons rfl (.cons rfl (.nil rfl))) rfl fun fr=>?_
  refine k_seq (ya [.quiet,.plain,.plain,.plain,.read true,.plain,.plain] (by kernel_rfl) (by kernel_rfl) (by kernel_rfl) ?_)
  refine zEd rfl (q126) (.lrefl _) ?_
  refine zE (zA rfl (zB rfl)) ?_
  refine zE (wF rfl rfl rfl (by unfold I64;omega) (zB rfl)) ?_
  refine zE (zCN rfl ty145 rfl rfl (by omega) (by omega) cl144 sh144 rfl (zB rfl)) ?_
  refine zb rfl (zO rfl rfl rfl zEt rfl (zB rfl)) ?_
  refine zE (wB rfl rfl (ret132 (orc:=orc) hi x y) (.lrefl _) (zB rfl)) ?_
  refine zE (zC rfl (zB rfl)) ?_
  refine wb ?_
  refine zU ?_
  refine⟨.inr rfl,_,.cons _ _ _ _ (.tmp 4) .nil,?_⟩
  exact .refl _
def chgI(p:Nat→Int):Nat→Int
 |0=>0
 |k+1=>chgI p k+if p (k+1)=p k then 0 else 1
theorem chgI_b(p:Nat→Int)(k:Nat):0≤chgI p k∧chgI p k≤k:=by
 induction k with
 |zero=>exact⟨Int.le_refl _,Int.le_refl _⟩
 |succ k ih=>
  have e:chgI p (k+1)=chgI p k+if p (k+1)=p k then 0 else 1:=rfl
  rw[e]
  split<;>omega
end
end Go.Proofs.YtfbmlibilcjlgaaDoor.drumListens
