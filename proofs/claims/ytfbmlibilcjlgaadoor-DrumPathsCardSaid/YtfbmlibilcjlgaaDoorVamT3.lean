import Derived.Test.YtfbmlibilcjlgaaDoorVamT2
set_option linter.unusedVariables false
set_option linter.unusedSimpArgs false
set_option linter.constructorNameAsVariable false
namespace Go.Proofs.YtfbmlibilcjlgaaDoor.drumPaths
open Vam
section
variable {is:FuncId→Bool}{orc:Known}
theorem pl118:plcOf Tryd.prog 118=some [(0,1),(1,1),(2,1)]:=by kernel_rfl
theorem sh118:shOf Tryd.prog 118=.many 3:=by kernel_rfl
theorem ze118:yX Tryd.prog 118=some ((.cons .nilf (.cons .nilf (.cons .nilf .nil))):V):=by kernel_rfl
noncomputable def b94:Code:=(Tryd.f94.body).getD .skip
theorem body94:bodyOf Tryd.prog 94=some (6,b94,[.cell 2 118]):=by kernel_rfl
theorem pure94:pureFn Tryd.prog 94=false:=by kernel_rfl
theorem cl117:Program.cellsOf Tryd.prog 117=1:=by kernel_rfl
theorem sh117:shOf Tryd.prog 117=.one:=by kernel_rfl
theorem ty118:tyOf Tryd.prog 118=.array 3 117:=by kernel_rfl
noncomputable def b62:Code:=(Tryd.f62.body).getD .skip
theorem body62:bodyOf Tryd.prog 62=some (33,b62,[.tmp 4]):=by kernel_rfl
theorem pure62:pureFn Tryd.prog 62=true:=by kernel_rfl
noncomputable def b89:Code:=(Tryd.f89.body).getD .skip
theorem body89:bodyOf Tryd.prog 89=some (7,b89,[.tmp 3]):=by kernel_rfl
theorem pure89:pureFn Tryd.prog 89=false:=by kernel_rfl
theorem cl83:Program.cellsOf Tryd.prog 83=1:=by kernel_rfl
theorem pl75:plcOf Tryd.prog 75=some [(0,11)]:=by kernel_rfl
theorem sh83:shOf Tryd.prog 83=.one:=by kernel_rfl
theorem zEa:tyOf Tryd.prog 116=.slice 83:=by kernel_rfl
theorem ze75:yX Tryd.prog 75=some ((.cons (.int .i64 0) (.cons (.int .i64 0) (.cons .nils (.cons (.int .i64 0) (.cons (.int .i64 0) (.cons (.int .i64 0) (.cons (.int .i64 0) (.cons (.int .i64 0) (.cons (.int .i64 0) (.cons (.int .i64 0) (.cons .nils .nil))))))))))):V):=by kernel_rfl
noncomputable def b60:Code:=(Tryd.f60.body).getD .skip
theorem body60:bodyOf Tryd.prog 60=some (31,b60,[.cell 4 75,.tmp 5]):=by kernel_rfl
theorem pure60:pureFn Tryd.prog 60=false:=by kernel_rfl
theorem ze83:yX Tryd.prog 83=some ((.cons .nilf .nil):V):=by kernel_rfl
noncomputable def b54:Code:=(Tryd.f54.body).getD .skip
theorem body54:bodyOf Tryd.prog 54=some (12,b54,[.cell 4 75,.tmp 5]):=by kernel_rfl
theorem pure54:pureFn Tryd.prog 54=true:=by kernel_rfl
theorem ret128(hi:Off is)(b:Bk):RetP Tryd.prog is orc 128 [b.u] (wA 0 b.start):=by
 refine yC body128 pure128 (hi 128 (by decide)) rfl rfl (zBc (yZ b 4)) (.inl (yr _ _ 6)) ?_
 refine kQ (ze rfl rfl (zd rfl ze125 ?_))
 refine zA ?_
 refine zL [(1,U.box 0 0),(2,U.box 1 0)] ([SB.box [.int .i64 (Bk.parts b),.int .i64 (Bk.size b),.lst .ro 1 (zE (Bk.beats b)),.int .i64 (Bk.start b),.int .i64 (Bk.fin b),.int .i64 (Bk.tlo b),.int .i64 (Bk.thi b),.int .i64 (Bk.slo b),.int .i64 (Bk.shi b),.int .i64 (Bk.notice b),.lst .ro 3 (plsU (Bk.players b))],SB.box [.int .i64 0,.int .i64 0]]) (.cons rfl (.cons rfl (.nil rfl))) rfl fun fr=>?_
 refine kQ (zF rfl rfl yy (zF rfl rfl zFp (zG rfl rfl rfl sh3 rfl (wD rfl ze125 pl125 rfl rfl ?_))))
 refine zS rfl rfl sh125 rfl rfl rfl rfl rfl ?_
 refine zA (zY ?_)
 refine⟨.inr rfl,_,.cons _ _ _ _ (.cellN 2 125 _ _ _ _ rfl rfl sh125 rfl) .nil,?_⟩
 exact .refl _
theorem plc_same(a b:Int):binV Tryd.prog 125 .eql (valK (wA a b)) (valK (wA a b))=some (.bool true):=by
 have h:binV Tryd.prog 125 .eql (valK (wA a b)) (valK (wA a b))=opt none (fun x=>some (V.bool x)) (Vam.cond (ieq a a) (Vam.cond (ieq b b) (some true) (some false)) (some false)):=by kernel_rfl
 rw[h,zAh,zAh,show(a==a)=true by simp,show(b==b)=true by simp];rfl
set_option maxHeartbeats 4000000 in
theorem ret116(hi:Off is){b:Bk}{l:List Int}{i:Nat}{x:Int}(hx:l[i]? =some x)(hl:l.length≤4096)(h0:i=0→x=b.start):RetP Tryd.prog is orc 116 [b.u,.lst .ro 1 (zE l),.int .i64 i] (.bool true):=by
 refine yC body116 pure116 (hi 116 (by decide)) rfl rfl (fun u hu=>by
  simp only[List.mem_cons,List.not_mem_nil,or_false]at hu
  rcases hu with rfl|rfl|rfl
  ·exact yZ b 4
  ·exact zi 6 .ro (fun h=>by cases h) 1 l
  ·exact .int _ _ _) (.inl (.bool _ _)) ?_
 have h1:=(List.getElem?_eq_some_iff.1 hx).1
 by_cases hz:i=0
 ·have hx0:=h0 hz
  subst hz
  subst hx0
  have q101:RetP Tryd.prog is orc 101 [.lst .ro 1 (zE l),.int .i64 0] (wA 0 b.start):=ret101 (orc:=orc) hi hx hl
  refine kQ (ze rfl rfl (zC rfl (zA ?_)))
  refine zL [(1,.lst .ro 1 (zE l)),(2,.int .i64 ↑0),(3,U.box 0 0)] ([SB.box [.int .i64 (Bk.parts b),.int .i64 (Bk.size b),.lst .ro 1 (zE (Bk.beats b)),.int .i64 (Bk.start b),.int .i64 (Bk.fin b),.int .i64 (Bk.tlo b),.int .i64 (Bk.thi b),.int .i64 (Bk.slo b),.int .i64 (Bk.shi b),.int .i64 (Bk.notice b),.lst .ro 3 (plsU (Bk.players b))]]) (.cons rfl (.cons rfl (.cons rfl (.nil rfl)))) rfl fun fr=>?_
  refine k_seq (ym [.plain,.plain,.plain,.plain,.plain,.read false,.read true,.plain,.plain,.plain,.plain] (by kernel_rfl) (by kernel_rfl) (by kernel_rfl) ?_)
  refine zD (zB rfl (zA rfl)) (zD (zCF rfl rfl rfl (zA rfl)) ?_)
  refine zD (zB rfl (zA rfl)) (d_gD rfl rfl rfl rfl rfl (zD (zB rfl (zA rfl)) (d_gD rfl rfl rfl rfl rfl (zD (zB rfl (zA rfl)) (d_gD rfl rfl rfl rfl rfl (d_callR rfl (q101) (flat_span _ _) (.lrefl _) ?_))))))
  refine d_gD rfl rfl rfl rfl rfl (zX rfl (zJ rfl rfl rfl sh75 rfl (zA rfl)) ?_)
  refine d_gD rfl rfl rfl rfl rfl (zD (zO rfl (ret128 hi b) (.lrefl _) (zA rfl)) ?_)
  refine d_gD rfl rfl rfl rfl rfl (zD (o_binK rfl rfl rfl rfl rfl (plc_same 0 _) (zA rfl)) ?_)
  refine zD (zK rfl rfl rfl (zA rfl)) ?_
  refine zD (zC rfl (zA rfl)) ?_
  refine zAA ?_
  refine zY ?_
  refine⟨.inr rfl,_,.cons _ _ _ _ (.tmp 6) .nil,?_⟩
  exact .refl _
 ·refine kQ ?_
  refine ze rfl rfl (zC rfl (zA ?_))
  refine zL [(1,.lst .ro 1 (zE l)),(2,.int .i64 ↑i),(3,U.box 0 0)] ([SB.box [.int .i64 (Bk.parts b),.int .i64 (Bk.size b),.lst .ro 1 (zE (Bk.beats b)),.int .i64 (Bk.start b),.int .i64 (Bk.fin b),.int .i64 (Bk.tlo b),.int .i64 (Bk.thi b),.int .i64 (Bk.slo b),.int .i64 (Bk.shi b),.int .i64 (Bk.notice b),.lst .ro 3 (plsU (Bk.players b))]]) (.cons rfl (.cons rfl (.cons rfl (.nil rfl)))) rfl fun fr=>?_
  refine k_seq (ym [.plain,.plain,.plain,.plain,.plain,.read false,.read true,.plain,.plain,.plain,.plain] (by kernel_rfl) (by kernel_rfl) (by kernel_rfl) ?_)
  refine zD (zB rfl (zA rfl)) (zD (zCF rfl rfl rfl (zA rfl)) ?_)
  refine zD (zB rfl (zA rfl)) (d_gS rfl rfl rfl rfl (decide_eq_true (by omega)) ?_)
  refine d_gS rfl rfl rfl rfl (decide_eq_true (by omega)) ?_
  refine d_gS rfl rfl rfl rfl (decide_eq_true (by omega)) ?_
  refine d_gS rfl rfl rfl rfl (decide_eq_true (by omega)) ?_
  refine d_gS rfl rfl rfl rfl (decide_eq_true (by omega)) ?_
  refine d_gS rfl rfl rfl rfl (decide_eq_true (by omega)) ?_
  refine zD (zV rfl rfl (decide_eq_true (by omega)) (zA rfl)) ?_
  refine zD (zC rfl (zA rfl)) ?_
  refine zAA ?_
  refine zY ?_
  refine⟨.inr rfl,_,.cons _ _ _ _ (.tmp 6) .nil,?_⟩
  exact .refl _
  done
def rulesU(b:Bk):U:=.agg [.fn 115 [] [],.fn 116 [b.u] [],.fn 117 [] []]
theorem ret94(hi:Off is)(b:Bk):RetP Tryd.prog is orc 94 [b.u] (rulesU b):=by
 refine zAD body94 pure94 rfl rfl (fun u hu=>?_) ?_ ?_
 ·have hd:=zBc (yZ b 4) u hu
  exact⟨hd.nb,NoOwn.of fun z es h=>by
   simp only[List.mem_cons,List.not_mem_nil,or_false]at hu
   rw[hu]at h;cases h⟩
 ·refine NB.agg fun c hc=>?_
  simp only[List.mem_cons,List.not_mem_nil,or_false]at hc
  rcases hc with rfl|rfl|rfl
  ·exact NB.fn (fun u hu=>by cases hu) (fun u hu=>by cases hu)
  ·exact NB.fn (fun u hu=>(zBc (yZ b 4) u hu).nb) (fun u hu=>by cases hu)
  ·exact NB.fn (fun u hu=>by cases hu) (fun u hu=>by cases hu)
 refine kQ (ze rfl rfl (zd rfl ze118 ?_))
 refine zA ?_
 refine zL [(1,U.box 0 0),(2,U.box 1 0)] ([SB.box [.int .i64 (Bk.parts b),.int .i64 (Bk.size b),.lst .ro 1 (zE (Bk.beats b)),.int .i64 (Bk.start b),.int .i64 (Bk.fin b),.int .i64 (Bk.tlo b),.int .i64 (Bk.thi b),.int .i64 (Bk.slo b),.int .i64 (Bk.shi b),.int .i64 (Bk.notice b),.lst .ro 3 (plsU (Bk.players b))],SB.box [U.nilf,U.nilf,U.nilf]]) (.cons rfl (.cons rfl (.nil rfl))) rfl fun fr=>?_
 refine kQ (zJ rfl rfl rfl sh75 rfl ?_)
 refine zFX rfl ?_
 refine wD rfl ze118 pl118 rfl rfl ?_
 refine zS rfl rfl sh118 rfl rfl rfl rfl rfl ?_
 refine zA (zY ?_)
 refine⟨.inr rfl,_,.cons _ _ _ _ (.cellN 2 118 _ _ _ _ rfl rfl sh118 rfl) .nil,?_⟩
 exact .refl _
structure POk(b:Bk)(l:List Int):Prop where
 len:(l.length:Int)=b.parts
 rg:∀x∈l,0≤x∧x≤3
 st:l[0]? =some b.start
 nr:∀i x y,l[i]? =some x→l[i+1]? =some y→x - 1≤y∧y≤x+1
set_option maxHeartbeats 8000000 in
theorem ret62(hi:Off is){b:Bk}{l:List Int}(hb:BOk b)(h:POk b l):RetP Tryd.prog is orc 62 [b.u,.lst .ro 1 (zE l)] (.bool true):=by
 refine yC body62 pure62 (hi 62 (by decide)) rfl rfl (yL (yZ b 4) (zi 6 .ro (fun h=>by cases h) 1 l)) (.inl (.bool _ _)) ?_
 have hp:=hb.pa
 have hlen:=h.len
 have q94:=ret94 (orc:=orc) hi b
 refine kQ (ze rfl rfl (zC rfl (zA ?_)))
 refine zL [(1,.lst .ro 1 (zE l)),(2,U.box 0 0)] ([SB.box [.int .i64 (Bk.parts b),.int .i64 (Bk.size b),.lst .ro 1 (zE (Bk.beats b)),.int .i64 (Bk.start b),.int .i64 (Bk.fin b),.int .i64 (Bk.tlo b),.int .i64 (Bk.thi b),.int .i64 (Bk.slo b),.int .i64 (Bk.shi b),.int .i64 (Bk.notice b),.lst .ro 3 (plsU (Bk.players b))]]) (.cons rfl (.cons rfl (.nil rfl))) rfl fun fr=>?_
 refine k_seq (kQ (zB rfl (yR rfl ty94 rfl (List.length_map _) ?_)))
 refine zF rfl rfl yy (zF rfl rfl zAI (zG rfl rfl rfl sh3 rfl (yz rfl rfl rfl (zA (k_cF rfl (decide_eq_false (by omega)) (zT (kQ (zJ rfl rfl rfl sh75 rfl ?_))))))))
 refine zO rfl (q94) (.lrefl _) (zd rfl ze118 ?_)
 refine zS rfl rfl sh118 rfl rfl rfl rfl rfl ?_
 refine zA ?_
 refine zL [(1,.lst .ro 1 (zE l)),(5,U.box 1 0)] ([SB.box [.int .i64 (Bk.parts b),.int .i64 (Bk.size b),.lst .ro 1 (zE (Bk.beats b)),.int .i64 (Bk.start b),.int .i64 (Bk.fin b),.int .i64 (Bk.tlo b),.int .i64 (Bk.thi b),.int .i64 (Bk.slo b),.int .i64 (Bk.shi b),.int .i64 (Bk.notice b),.lst .ro 3 (plsU (Bk.players b))],SB.box [U.fn 115 [] [],U.fn 116 [Bk.u b] [],U.fn 117 [] []]]) (.cons rfl (.cons rfl (.nil rfl))) rfl fun fr=>?_
 refine k_seq (kQ (zB rfl (yR rfl ty94 rfl (List.length_map _) ?_)))
 refine zB rfl (zA (zR ?_))
 refine wE (fun kk s2=>∃i:Nat,kk+i=l.length∧s2.st=[SB.box [.int .i64 b.parts,.int .i64 b.size,.lst .ro 1 (zE b.beats),.int .i64 b.start,.int .i64 b.fin,.int .i64 b.tlo,.int .i64 b.thi,.int .i64 b.slo,.int .i64 b.shi,.int .i64 b.notice,.lst .ro 3 (plsU b.players)],SB.box [U.fn 115 [] [],U.fn 116 [b.u] [],U.fn 117 [] []]]∧Holds s2 [(1,.lst .ro 1 (zE l)),(5,.box 1 0),(18,.int .i64 l.length),(19,.int .i64 i),(17,.lst .ro 1 (zE l))]) (fun kk s2 hI=>?_) l.length _ ⟨0,rfl,rfl,.c4 rfl rfl rfl rfl (.cons rfl (.nil rfl))⟩
 obtain⟨i,hk,hst2,hs2⟩:=hI
 refine zL _ _ hs2 hst2 fun fr2=>?_
 by_cases hin:i<l.length
 ·obtain⟨x,hx⟩:∃x,l[i]? =some x:=⟨l[i],List.getElem?_eq_getElem hin⟩
  have hxr:=h.rg x (List.mem_of_getElem? hx)
  have q115:RetP Tryd.prog is orc 115 [.lst .ro 1 (zE l),.int .i64 i] (.bool true):=by
   have:=ret115 (orc:=orc) hi hx (by omega)
   rw[zBP.2 hxr]at this;exact this
  have q116:RetP Tryd.prog is orc 116 [b.u,.lst .ro 1 (zE l),.int .i64 i] (.bool true):=ret116 hi hx (by omega) fun hz=>by
   have h0:=h.st
   rw[←hz,hx]at h0;cases h0;rfl
  have q117:RetP Tryd.prog is orc 117 [.lst .ro 1 (zE l),.int .i64 i] (.bool true):=by
   have:=ret117 (orc:=orc) hi hx (fun y hy=>h.rg y (List.mem_of_mem_take hy)) (by omega)
   have e:(decide (i=0)||decide (zEb ((l[i - 1]?).getD 0) x≤1))=true:=by
    cases i with
    |zero=>rfl
    |succ i=>
     obtain⟨w,hw⟩:∃w,l[i]? =some w:=⟨l[i],List.getElem?_eq_getElem (by omega)⟩
     have:=h.nr i w x hw hx
     rw[Nat.add_sub_cancel,hw]
     unfold zEb
     simp only[Bool.or_eq_true,decide_eq_true_eq,Option.getD_some]
     omega
   rw[e]at this;exact this
  refine kQ (yE rfl rfl rfl (zA (k_seq (k_cT rfl (decide_eq_true (by omega)) (zT (k_seq (zR (kQ ?_))))))))
  refine zB rfl (zC rfl (zA (kQ (zJ rfl rfl rfl sh118 rfl (zB rfl (zA (zR ?_)))))))
  refine wE (fun mm s2=>∃j:Nat,mm+j=3∧s2.st=[SB.box [.int .i64 b.parts,.int .i64 b.size,.lst .ro 1 (zE b.beats),.int .i64 b.start,.int .i64 b.fin,.int .i64 b.tlo,.int .i64 b.thi,.int .i64 b.slo,.int .i64 b.shi,.int .i64 b.notice,.lst .ro 3 (plsU b.players)],SB.box [U.fn 115 [] [],U.fn 116 [b.u] [],U.fn 117 [] []]]∧Holds s2 [(1,.lst .ro 1 (zE l)),(5,.box 1 0),(6,.int .i64 i),(17,.lst .ro 1 (zE l)),(18,.int .i64 l.length),(19,.int .i64 i),(22,.agg [U.fn 115 [] [],U.fn 116 [b.u] [],U.fn 117 [] []]),(23,.int .i64 j)]) (fun mm s2 hI=>?_) 3 _ ⟨0,rfl,rfl,.c4 rfl rfl rfl rfl (.c4 rfl rfl rfl rfl (.nil rfl))⟩
  obtain⟨j,hj,hst2,hs2⟩:=hI
  refine zL _ _ hs2 hst2 fun fr2=>?_
  have hj3:j=0∨j=1∨j=2∨j=3:=by omega
  rcases hj3 with rfl|rfl|rfl|rfl
  ·refine kQ ?_
   refine yE rfl rfl rfl (zA (k_seq (k_cT rfl rfl ?_)))
   refine zT (k_seq (zR (kQ (zDT rfl ty118 rfl rfl (by omega) (by omega) cl117 sh117 rfl ?_))))
   refine zC rfl (zA (kQ (zB rfl (zB rfl (zB rfl (zAE rfl rfl q115 (.lrefl _) ?_))))))
   refine wG rfl rfl (zA (k_cF rfl rfl ?_))
   refine zT (k_region ?_)
   refine wM rfl rfl rfl (by unfold I64;omega) (zB rfl (zA ?_))
   exact⟨mm - 1,by omega,1,by omega,rfl,.c4 rfl rfl rfl rfl (.c4 rfl rfl rfl rfl (.nil rfl))⟩
  ·refine kQ ?_
   refine yE rfl rfl rfl (zA (k_seq (k_cT rfl rfl ?_)))
   refine zT (k_seq (zR (kQ (zDT rfl ty118 rfl rfl (by omega) (by omega) cl117 sh117 rfl ?_))))
   refine zC rfl (zA (kQ (zB rfl (zB rfl (zB rfl (zAE rfl rfl q116 (.lrefl _) ?_))))))
   refine wG rfl rfl (zA (k_cF rfl rfl ?_))
   refine zT (k_region ?_)
   refine wM rfl rfl rfl (by unfold I64;omega) (zB rfl (zA ?_))
   exact⟨mm - 1,by omega,2,by omega,rfl,.c4 rfl rfl rfl rfl (.c4 rfl rfl rfl rfl (.nil rfl))⟩
  ·refine kQ ?_
   refine yE rfl rfl rfl (zA (k_seq (k_cT rfl rfl ?_)))
   refine zT (k_seq (zR (kQ (zDT rfl ty118 rfl rfl (by omega) (by omega) cl117 sh117 rfl ?_))))
   refine zC rfl (zA (kQ (zB rfl (zB rfl (zB rfl (zAE rfl rfl q117 (.lrefl _) ?_))))))
   refine wG rfl rfl (zA (k_cF rfl rfl ?_))
   refine zT (k_region ?_)
   refine wM rfl rfl rfl (by unfold I64;omega) (zB rfl (zA ?_))
   exact⟨mm - 1,by omega,3,by omega,rfl,.c4 rfl rfl rfl rfl (.c4 rfl rfl rfl rfl (.nil rfl))⟩
  ·refine kQ ?_
   refine yE rfl rfl rfl (zA (k_seq (k_cF rfl rfl ?_)))
   refine yh (k_region ?_)
   refine wM rfl rfl rfl (by unfold I64;omega) (zB rfl (zA ?_))
   exact⟨kk - 1,by omega,i+1,by omega,rfl,.c4 rfl rfl rfl rfl (.cons rfl (.nil rfl))⟩
 ·refine kQ ?_
  refine yE rfl rfl rfl (zA (k_seq (k_cF rfl (decide_eq_false (by omega)) (yh (kQ (zC rfl (zA (zY ?_))))))))
  refine⟨.inr rfl,_,.cons _ _ _ _ (.tmp 4) .nil,?_⟩
  exact .refl _
end
section
variable {is:FuncId→Bool}{orc:Known}
theorem wpc89(hi:Off is){b:Bk}{l:List Int}(hb:BOk b)(h:POk b l){st:List SB}{j:Nat}(hj:st[j]? =some (.box [.lst .ro 1 (zE l)])):WpC Tryd.prog is orc 89 [b.u,.box j 0] st fun u st'=>u=.bool true∧∃e,st'=st++e:=by
 refine zEN body89 pure89 rfl rfl ?_
 have q62:=ret62 (orc:=orc) hi hb h
 refine kQ (ze rfl rfl (zC rfl (zA ?_)))
 refine zL [(1,U.box j 0),(2,U.box (List.length st) 0)] (st++[SB.box [.int .i64 (Bk.parts b),.int .i64 (Bk.size b),.lst .ro 1 (zE (Bk.beats b)),.int .i64 (Bk.start b),.int .i64 (Bk.fin b),.int .i64 (Bk.tlo b),.int .i64 (Bk.thi b),.int .i64 (Bk.slo b),.int .i64 (Bk.shi b),.int .i64 (Bk.notice b),.lst .ro 3 (plsU (Bk.players b))]]) (.cons rfl (.cons rfl (.nil rfl))) rfl fun fr=>?_
 refine kQ (zJ rfl rfl (zq _ _) sh75 rfl ?_)
 refine zG rfl rfl (zp hj) sh22 rfl ?_
 refine zO rfl (q62) (.lrefl _) (zC rfl (zA (zY ?_)))
 refine⟨.inr rfl,_,.cons _ _ _ _ (.tmp 3) .nil,?_⟩
 exact⟨_,.refl _,rfl,_,rfl⟩
theorem zCz{st X:List SB}{k:Nat}{x:SB}(h:X[k]? =some x):(st++X)[st.length+k]? =some x:=by
 rw[List.getElem?_append_right (by omega),Nat.add_sub_cancel_left];exact h
theorem set_off{st X:List SB}{k:Nat}{x:SB}:(st++X).set (st.length+k) x=st++X.set k x:=by
 rw[List.set_append_right _ _ (by omega),Nat.add_sub_cancel_left]
set_option maxHeartbeats 8000000 in
theorem wpc60(hi:Off is){b:Bk}{l:List Int}(hb:BOk b)(h:POk b l){st:List SB}{j:Nat}(hj:st[j]? =some (.box [.lst .ro 1 (zE l)])):WpC Tryd.prog is orc 60 [b.u,.lst .ro 1 [.fn 89 [] [.box j 0]]] st fun u st'=>u=.tup [b.u,.int .i64 0]∧∃e,st'=st++e:=by
 refine zEN body60 pure60 rfl rfl ?_
 have q17:=ret17 (orc:=orc) hi b
 rw[if_pos ((wT b).2 hb)]at q17
 refine kQ (ze rfl rfl (zd rfl ze75 ?_))
 refine zC rfl (zA ?_)
 refine zL [(1,.lst .ro 1 [U.fn 89 [] [U.box j 0]]),(2,U.box (List.length st) 0),(4,U.box (List.length (st++[SB.box [.int .i64 (Bk.parts b),.int .i64 (Bk.size b),.lst .ro 1 (zE (Bk.beats b)),.int .i64 (Bk.start b),.int .i64 (Bk.fin b),.int .i64 (Bk.tlo b),.int .i64 (Bk.thi b),.int .i64 (Bk.slo b),.int .i64 (Bk.shi b),.int .i64 (Bk.notice b),.lst .ro 3 (plsU (Bk.players b))]])) 0)] (st++[SB.box [.int .i64 (Bk.parts b),.int .i64 (Bk.size b),.lst .ro 1 (zE (Bk.beats b)),.int .i64 (Bk.start b),.int .i64 (Bk.fin b),.int .i64 (Bk.tlo b),.int .i64 (Bk.thi b),.int .i64 (Bk.slo b),.int .i64 (Bk.shi b),.int .i64 (Bk.notice b),.lst .ro 3 (plsU (Bk.players b))]]++[SB.box [.int .i64 0,.int .i64 0,.lst .full 0 [],.int .i64 0,.int .i64 0,.int .i64 0,.int .i64 0,.int .i64 0,.int .i64 0,.int .i64 0,.lst .full 0 []]]) (.cons rfl (.cons rfl (.cons rfl (.nil rfl)))) rfl fun fr=>?_
 refine k_seq (kQ (zJ rfl rfl (zp (zq _ _)) sh27 rfl ?_))
 refine zO rfl (q17) (.lrefl _) (zC rfl (zA (kQ (zB rfl (yz rfl rfl rfl (zA (k_cF rfl rfl ?_)))))))
 refine zT (kQ (zJ rfl rfl (zp (zq _ _)) sh27 rfl ?_))
 refine wD rfl ze75 pl75 rfl rfl ?_
 refine zd rfl ze75 ?_
 refine zS rfl (zq _ _) sh75 rfl rfl rfl rfl rfl ?_
 refine zA ?_
 refine zL [(1,.lst .ro 1 [U.fn 89 [] [U.box j 0]]),(4,U.box (List.length (st++[SB.box [.int .i64 (Bk.parts b),.int .i64 (Bk.size b),.lst .ro 1 (zE (Bk.beats b)),.int .i64 (Bk.start b),.int .i64 (Bk.fin b),.int .i64 (Bk.tlo b),.int .i64 (Bk.thi b),.int .i64 (Bk.slo b),.int .i64 (Bk.shi b),.int .i64 (Bk.notice b),.lst .ro 3 (plsU (Bk.players b))]])) 0),(7,U.box (List.length (st++[SB.box [.int .i64 (Bk.parts b),.int .i64 (Bk.size b),.lst .ro 1 (zE (Bk.beats b)),.int .i64 (Bk.start b),.int .i64 (Bk.fin b),.int .i64 (Bk.tlo b),.int .i64 (Bk.thi b),.int .i64 (Bk.slo b),.int .i64 (Bk.shi b),.int .i64 (Bk.notice b),.lst .ro 3 (plsU (Bk.players b))]]++[SB.box [.int .i64 0,.int .i64 0,.lst .full 0 [],.int .i64 0,.int .i64 0,.int .i64 0,.int .i64 0,.int .i64 0,.int .i64 0,.int .i64 0,.lst .full 0 []]])) 0)] (st++[SB.box [.int .i64 (Bk.parts b),.int .i64 (Bk.size b),.lst .ro 1 (zE (Bk.beats b)),.int .i64 (Bk.start b),.int .i64 (Bk.fin b),.int .i64 (Bk.tlo b),.int .i64 (Bk.thi b),.int .i64 (Bk.slo b),.int .i64 (Bk.shi b),.int .i64 (Bk.notice b),.lst .ro 3 (plsU (Bk.players b))]]++[SB.box [.int .i64 0,.int .i64 0,.lst .full 0 [],.int .i64 0,.int .i64 0,.int .i64 0,.int .i64 0,.int .i64 0,.int .i64 0,.int .i64 0,.lst .full 0 []]]++[SB.box [.int .i64 (Bk.parts b),.int .i64 (Bk.size b),.lst .ro 1 (zE (Bk.beats b)),.int .i64 (Bk.start b),.int .i64 (Bk.fin b),.int .i64 (Bk.tlo b),.int .i64 (Bk.thi b),.int .i64 (Bk.slo b),.int .i64 (Bk.shi b),.int .i64 (Bk.notice b),.lst .ro 3 (plsU (Bk.players b))]]) (.cons rfl (.cons rfl (.cons rfl (.nil rfl)))) (wV _ _ _) fun fr=>?_
 refine k_seq (kQ (zB rfl (yR rfl zEa rfl rfl ?_)))
 refine zB rfl (zA (zR ?_))
 refine wE (fun kk s2=>∃X:List SB,s2.st=st++X∧X[1]? =some (.box [.int .i64 0,.int .i64 0,.lst .full 0 [],.int .i64 0,.int .i64 0,.int .i64 0,.int .i64 0,.int .i64 0,.int .i64 0,.int .i64 0,.lst .full 0 []])∧X[2]? =some (.box [.int .i64 b.parts,.int .i64 b.size,.lst .ro 1 (zE b.beats),.int .i64 b.start,.int .i64 b.fin,.int .i64 b.tlo,.int .i64 b.thi,.int .i64 b.slo,.int .i64 b.shi,.int .i64 b.notice,.lst .ro 3 (plsU b.players)])∧((kk=1∧Holds s2 [(4,.box (st.length+1) 0),(7,.box (st.length+2) 0),(18,.lst .ro 1 [.fn 89 [] [.box j 0]]),(19,.int .i64 1),(20,.int .i64 0)])∨(kk=0∧Holds s2 [(4,.box (st.length+1) 0),(7,.box (st.length+2) 0),(18,.lst .ro 1 [.fn 89 [] [.box j 0]]),(19,.int .i64 1),(20,.int .i64 1)]))) (fun kk s2 hI=>?_) 1 _ ⟨[.box [.int .i64 b.parts,.int .i64 b.size,.lst .ro 1 (zE b.beats),.int .i64 b.start,.int .i64 b.fin,.int .i64 b.tlo,.int .i64 b.thi,.int .i64 b.slo,.int .i64 b.shi,.int .i64 b.notice,.lst .ro 3 (plsU b.players)],.box [.int .i64 0,.int .i64 0,.lst .full 0 [],.int .i64 0,.int .i64 0,.int .i64 0,.int .i64 0,.int .i64 0,.int .i64 0,.int .i64 0,.lst .full 0 []],.box [.int .i64 b.parts,.int .i64 b.size,.lst .ro 1 (zE b.beats),.int .i64 b.start,.int .i64 b.fin,.int .i64 b.tlo,.int .i64 b.thi,.int .i64 b.slo,.int .i64 b.shi,.int .i64 b.notice,.lst .ro 3 (plsU b.players)]],(by show((st++[SB.box _])++[SB.box _])++[SB.box _]=_;rw[List.append_assoc,List.append_assoc];rfl),rfl,rfl,.inl ⟨rfl,.cons (by show U.box (st++[SB.box _]).length 0=_;simp) (.cons (by show U.box ((st++[SB.box _])++[SB.box _]).length 0=_;simp) (.cons rfl (.cons rfl (.cons rfl (.nil rfl)))))⟩⟩
 obtain⟨X,hst2,x1,x2,⟨hk,hs2⟩|⟨hk,hs2⟩⟩:=hI
 ·have y1:=zCz (st:=st) x1
  have y2:=zCz (st:=st) x2
  have y3:(st++X)[j]? =some (.box [.lst .ro 1 (zE l)]):=zp hj
  refine zL _ _ hs2 hst2 fun fr2=>?_
  refine kQ (yE rfl rfl rfl (zA (k_seq (k_cT rfl rfl ?_))))
  refine zT (k_seq (zR (kQ (yg rfl zEa rfl rfl (by decide) rfl cl83 ?_))))
  refine zl rfl rfl sh83 rfl ?_
  refine zC rfl (zA (kQ (zB rfl (zJ rfl rfl y2 sh75 rfl ?_))))
  refine o_callV rfl rfl (wpc89 hi hb h y3) (.lrefl _) (fun u st1 hM=>?_)
  obtain⟨rfl,e,rfl⟩:=hM
  refine wG rfl rfl (zA (k_cF rfl rfl ?_))
  refine zT (k_region ?_)
  refine wM rfl rfl rfl (by unfold I64;omega) (zB rfl (zA ?_))
  exact⟨0,by omega,X++e,(by show(st++X)++e=_;rw[List.append_assoc]),zp x1,zp x2,.inr ⟨rfl,.c4 rfl rfl rfl rfl (.cons rfl (.nil rfl))⟩⟩
 ·have y1:=zCz (st:=st) x1
  have y2:=zCz (st:=st) x2
  refine zL _ _ hs2 hst2 fun fr2=>?_
  have hl:st.length+1<(st++X).length:=(List.getElem?_eq_some_iff.1 y1).1
  refine kQ (yE rfl rfl rfl (zA (k_seq (k_cF rfl rfl ?_))))
  refine yh (kQ (zJ rfl rfl y2 sh75 rfl ?_))
  refine zS rfl y1 sh75 rfl rfl rfl rfl rfl ?_
  refine zC rfl (zA (zY ?_))
  refine⟨.inr rfl,_,.cons _ _ _ _ (.cellN 4 75 (st.length+1) 0 11 [.int .i64 b.parts,.int .i64 b.size,.lst .ro 1 (zE b.beats),.int .i64 b.start,.int .i64 b.fin,.int .i64 b.tlo,.int .i64 b.thi,.int .i64 b.slo,.int .i64 b.shi,.int .i64 b.notice,.lst .ro 3 (plsU b.players)] rfl (List.getElem?_set_self hl) sh75 rfl) (.cons _ _ _ _ (.tmp 5) .nil),_,.refl _,rfl,_,set_off⟩
set_option maxHeartbeats 8000000 in
theorem ret54(hi:Off is){b:Bk}{l:List Int}(hb:BOk b)(h:POk b l):RetP Tryd.prog is orc 54 [b.u,.lst .ro 1 (zE l)] (.tup [b.u,.int .i64 0]):=by
 refine yC body54 pure54 (hi 54 (by decide)) rfl rfl (yL (yZ b 4) (zi 6 .ro (fun h=>by cases h) 1 l)) (.inr ⟨_,rfl,yL (k:=7) (yZ b 3) (.int _ _ _)⟩) ?_
 refine kQ (ze rfl rfl (ze rfl rfl (zd rfl ze75 ?_)))
 refine zC rfl (zA ?_)
 refine zL [(2,U.box 0 0),(3,U.box 1 0),(4,U.box 2 0)] ([SB.box [.int .i64 (Bk.parts b),.int .i64 (Bk.size b),.lst .ro 1 (zE (Bk.beats b)),.int .i64 (Bk.start b),.int .i64 (Bk.fin b),.int .i64 (Bk.tlo b),.int .i64 (Bk.thi b),.int .i64 (Bk.slo b),.int .i64 (Bk.shi b),.int .i64 (Bk.notice b),.lst .ro 3 (plsU (Bk.players b))],SB.box [.lst .ro 1 (zE l)],SB.box [.int .i64 0,.int .i64 0,.lst .full 0 [],.int .i64 0,.int .i64 0,.int .i64 0,.int .i64 0,.int .i64 0,.int .i64 0,.int .i64 0,.lst .full 0 []]]) (.cons rfl (.cons rfl (.cons rfl (.nil rfl)))) rfl fun fr=>?_
 refine kQ (zJ rfl rfl rfl sh27 rfl ?_)
 refine zFX rfl ?_
 refine zBW (es:=[U.fn 89 [] [U.box 1 0]]) rfl zEa ze83 cl83 rfl rfl rfl rfl rfl rfl rfl rfl ?_
 refine zDq rfl (wpc60 hi hb h (st:=_) (j:=1) rfl) (.lcons _ _ _ _ (.refl _) (.lcons _ _ _ _ (.ro _ _ _) (.lrefl _))) (fun u st1 hM=>?_)
 obtain⟨rfl,e,rfl⟩:=hM
 refine zc rfl rfl rfl (zc rfl rfl rfl (zS rfl rfl sh75 rfl rfl rfl rfl rfl ?_))
 refine zC rfl (zA (zY ?_))
 refine⟨.inr rfl,_,.cons _ _ _ _ (.cellN 4 75 _ _ _ _ rfl rfl sh75 rfl) (.cons _ _ _ _ (.tmp 5) .nil),?_⟩
 exact .refl _
end
section
variable {is:FuncId→Bool}{orc:Known}
theorem nb_fn0(f:Nat):NB (.fn f [] []):=NB.fn (fun u hu=>by cases hu) (fun u hu=>by cases hu)
end
end Go.Proofs.YtfbmlibilcjlgaaDoor.drumPaths
