import Derived.Test.YtfbmlibilcjlgaaDoorVamT2
set_option linter.unusedVariables false
set_option linter.unusedSimpArgs false
set_option linter.constructorNameAsVariable false
namespace Go.Proofs.YtfbmlibilcjlgaaDoor.drumBounds
open Vam
section
variable {is:FuncId→Bool}{orc:Known}
theorem pl118:zDx Tryd.prog 118=some [(0,1),(1,1),(2,1)]:=by kernel_rfl
theorem sh118:shOf Tryd.prog 118=.many 3:=by kernel_rfl
theorem ze118:yV Tryd.prog 118=some ((.cons .nilf (.cons .nilf (.cons .nilf .nil))):V):=by kernel_rfl
noncomputable def b94:Code:=(Tryd.f94.body).getD .skip
theorem body94:bodyOf Tryd.prog 94=some (6,b94,[.cell 2 118]):=by kernel_rfl
theorem pure94:pureFn Tryd.prog 94=false:=by kernel_rfl
theorem zEN:Program.cellsOf Tryd.prog 117=1:=by kernel_rfl
theorem zDv:shOf Tryd.prog 117=.one:=by kernel_rfl
theorem zDr:tyOf Tryd.prog 118=.array 3 117:=by kernel_rfl
noncomputable def b62:Code:=(Tryd.f62.body).getD .skip
theorem body62:bodyOf Tryd.prog 62=some (33,b62,[.tmp 4]):=by kernel_rfl
theorem pure62:pureFn Tryd.prog 62=true:=by kernel_rfl
noncomputable def b89:Code:=(Tryd.f89.body).getD .skip
theorem body89:bodyOf Tryd.prog 89=some (7,b89,[.tmp 3]):=by kernel_rfl
theorem pure89:pureFn Tryd.prog 89=false:=by kernel_rfl
theorem cl83:Program.cellsOf Tryd.prog 83=1:=by kernel_rfl
theorem pl75:zDx Tryd.prog 75=some [(0,11)]:=by kernel_rfl
theorem sh83:shOf Tryd.prog 83=.one:=by kernel_rfl
theorem zFM:tyOf Tryd.prog 116=.slice 83:=by kernel_rfl
theorem ze75:yV Tryd.prog 75=some ((.cons (.int .i64 0) (.cons (.int .i64 0) (.cons .nils (.cons (.int .i64 0) (.cons (.int .i64 0) (.cons (.int .i64 0) (.cons (.int .i64 0) (.cons (.int .i64 0) (.cons (.int .i64 0) (.cons (.int .i64 0) (.cons .nils .nil))))))))))):V):=by kernel_rfl
noncomputable def b60:Code:=(Tryd.f60.body).getD .skip
theorem body60:bodyOf Tryd.prog 60=some (31,b60,[.cell 4 75,.tmp 5]):=by kernel_rfl
theorem pure60:pureFn Tryd.prog 60=false:=by kernel_rfl
theorem ze83:yV Tryd.prog 83=some ((.cons .nilf .nil):V):=by kernel_rfl
noncomputable def b54:Code:=(Tryd.f54.body).getD .skip
theorem body54:bodyOf Tryd.prog 54=some (12,b54,[.cell 4 75,.tmp 5]):=by kernel_rfl
theorem pure54:pureFn Tryd.prog 54=true:=by kernel_rfl
theorem ret128(hi:Off is)(b:Bk):RetP Tryd.prog is orc 128 [b.u] (wB 0 b.start):=by
 refine zk body128 pure128 (hi 128 (by decide)) rfl rfl (zAH (yK b 4)) (.inl (yq _ _ 6)) ?_
 refine kQ (zc rfl rfl (zi rfl ze125 ?_))
 refine zA ?_
 refine zH [(1,U.box 0 0),(2,U.box 1 0)] ([SB.box (Bk.cs b),SB.box [.int .i64 0,.int .i64 0]]) (.cons rfl (.cons rfl (.nil rfl))) rfl fun fr=>?_
 refine kQ (zE rfl rfl yB (zE rfl rfl zEp (zF rfl rfl rfl sh3 rfl (yp rfl ze125 pl125 rfl rfl ?_))))
 refine zZ rfl rfl sh125 rfl rfl rfl rfl rfl ?_
 refine zA (zU ?_)
 refine⟨.inr rfl,_,.cons _ _ _ _ (.cellN 2 125 _ _ _ _ rfl rfl sh125 rfl) .nil,?_⟩
 exact .refl _
theorem plc_same(a b:Int):binV Tryd.prog 125 .eql (valK (wB a b)) (valK (wB a b))=some (.bool true):=by
 have h:binV Tryd.prog 125 .eql (valK (wB a b)) (valK (wB a b))=opt none (fun x=>some (V.bool x)) (Vam.cond (ieq a a) (Vam.cond (ieq b b) (some true) (some false)) (some false)):=by kernel_rfl
 rw[h,zAo,zAo,show(a==a)=true by simp,show(b==b)=true by simp];rfl
set_option maxHeartbeats 4000000 in
theorem ret116(hi:Off is){b:Bk}{l:List Int}{i:Nat}{x:Int}(hx:l[i]? =some x)(hl:l.length≤4096)(h0:i=0→x=b.start):RetP Tryd.prog is orc 116 [b.u,.lst .ro 1 (zG l),.int .i64 i] (.bool true):=by
 refine zk body116 pure116 (hi 116 (by decide)) rfl rfl (fun u hu=>by
  simp only[List.mem_cons,List.not_mem_nil,or_false]at hu
  rcases hu with rfl|rfl|rfl
  ·exact yK b 4
  ·exact zr 6 .ro (fun h=>by cases h) 1 l
  ·exact .int _ _ _) (.inl (.bool _ _)) ?_
 have h1:=(List.getElem?_eq_some_iff.1 hx).1
 by_cases hz:i=0
 ·have hx0:=h0 hz
  subst hz
  subst hx0
  have q101:RetP Tryd.prog is orc 101 [.lst .ro 1 (zG l),.int .i64 0] (wB 0 b.start):=ret101 (orc:=orc) hi hx hl
  refine kQ (zc rfl rfl (zB rfl (zA ?_)))
  refine zH [(1,.lst .ro 1 (zG l)),(2,.int .i64 ↑0),(3,U.box 0 0)] ([SB.box (Bk.cs b)]) (.cons rfl (.cons rfl (.cons rfl (.nil rfl)))) rfl fun fr=>?_
  refine k_seq (yL [.plain,.plain,.plain,.plain,.plain,.read false,.read true,.plain,.plain,.plain,.plain] (by kernel_rfl) (by kernel_rfl) (by kernel_rfl) ?_)
  refine zD (zC rfl (zA rfl)) (zD (zBj rfl rfl rfl (zA rfl)) ?_)
  refine zD (zC rfl (zA rfl)) (d_gD rfl rfl rfl rfl rfl (zD (zC rfl (zA rfl)) (d_gD rfl rfl rfl rfl rfl (zD (zC rfl (zA rfl)) (d_gD rfl rfl rfl rfl rfl (zBQ rfl (q101) (zCz _ _) (.lrefl _) ?_))))))
  refine d_gD rfl rfl rfl rfl rfl (zR rfl (zJ rfl rfl rfl sh75 rfl (zA rfl)) ?_)
  refine d_gD rfl rfl rfl rfl rfl (zD (zP rfl (ret128 hi b) (.lrefl _) (zA rfl)) ?_)
  refine d_gD rfl rfl rfl rfl rfl (zD (zHD rfl rfl rfl rfl rfl (plc_same 0 _) (zA rfl)) ?_)
  refine zD (zN rfl rfl rfl (zA rfl)) ?_
  refine zD (zB rfl (zA rfl)) ?_
  refine yw ?_
  refine zU ?_
  refine⟨.inr rfl,_,.cons _ _ _ _ (.tmp 6) .nil,?_⟩
  exact .refl _
 ·refine kQ ?_
  refine zc rfl rfl (zB rfl (zA ?_))
  refine zH [(1,.lst .ro 1 (zG l)),(2,.int .i64 ↑i),(3,U.box 0 0)] ([SB.box (Bk.cs b)]) (.cons rfl (.cons rfl (.cons rfl (.nil rfl)))) rfl fun fr=>?_
  refine k_seq (yL [.plain,.plain,.plain,.plain,.plain,.read false,.read true,.plain,.plain,.plain,.plain] (by kernel_rfl) (by kernel_rfl) (by kernel_rfl) ?_)
  refine zD (zC rfl (zA rfl)) (zD (zBj rfl rfl rfl (zA rfl)) ?_)
  refine zD (zC rfl (zA rfl)) (d_gS rfl rfl rfl rfl (decide_eq_true (by omega)) ?_)
  refine d_gS rfl rfl rfl rfl (decide_eq_true (by omega)) ?_
  refine d_gS rfl rfl rfl rfl (decide_eq_true (by omega)) ?_
  refine d_gS rfl rfl rfl rfl (decide_eq_true (by omega)) ?_
  refine d_gS rfl rfl rfl rfl (decide_eq_true (by omega)) ?_
  refine d_gS rfl rfl rfl rfl (decide_eq_true (by omega)) ?_
  refine zD (za rfl rfl (decide_eq_true (by omega)) (zA rfl)) ?_
  refine zD (zB rfl (zA rfl)) ?_
  refine yw ?_
  refine zU ?_
  refine⟨.inr rfl,_,.cons _ _ _ _ (.tmp 6) .nil,?_⟩
  exact .refl _
  done
def rulesU(b:Bk):U:=.agg [.fn 115 [] [],.fn 116 [b.u] [],.fn 117 [] []]
theorem ret94(hi:Off is)(b:Bk):RetP Tryd.prog is orc 94 [b.u] (rulesU b):=by
 refine wQ body94 pure94 rfl rfl (fun u hu=>?_) ?_ ?_
 ·have hd:=zAH (yK b 4) u hu
  exact⟨hd.nb,NoOwn.of fun z es h=>by
   simp only[List.mem_cons,List.not_mem_nil,or_false]at hu
   rw[hu]at h;cases h⟩
 ·refine NB.agg fun c hc=>?_
  simp only[List.mem_cons,List.not_mem_nil,or_false]at hc
  rcases hc with rfl|rfl|rfl
  ·exact NB.fn (fun u hu=>by cases hu) (fun u hu=>by cases hu)
  ·exact NB.fn (fun u hu=>(zAH (yK b 4) u hu).nb) (fun u hu=>by cases hu)
  ·exact NB.fn (fun u hu=>by cases hu) (fun u hu=>by cases hu)
 refine kQ (zc rfl rfl (zi rfl ze118 ?_))
 refine zA ?_
 refine zH [(1,U.box 0 0),(2,U.box 1 0)] ([SB.box (Bk.cs b),SB.box [U.nilf,U.nilf,U.nilf]]) (.cons rfl (.cons rfl (.nil rfl))) rfl fun fr=>?_
 refine kQ (zJ rfl rfl rfl sh75 rfl ?_)
 refine zBw rfl ?_
 refine yp rfl ze118 pl118 rfl rfl ?_
 refine zZ rfl rfl sh118 rfl rfl rfl rfl rfl ?_
 refine zA (zU ?_)
 refine⟨.inr rfl,_,.cons _ _ _ _ (.cellN 2 118 _ _ _ _ rfl rfl sh118 rfl) .nil,?_⟩
 exact .refl _
structure POk(b:Bk)(l:List Int):Prop where
 len:(l.length:Int)=b.parts
 rg:∀x∈l,0≤x∧x≤3
 st:l[0]? =some b.start
 nr:∀i x y,l[i]? =some x→l[i+1]? =some y→x - 1≤y∧y≤x+1
set_option maxHeartbeats 8000000 in
theorem ret62(hi:Off is){b:Bk}{l:List Int}(hb:BOk b)(h:POk b l):RetP Tryd.prog is orc 62 [b.u,.lst .ro 1 (zG l)] (.bool true):=by
 refine zk body62 pure62 (hi 62 (by decide)) rfl rfl (yM (yK b 4) (zr 6 .ro (fun h=>by cases h) 1 l)) (.inl (.bool _ _)) ?_
 have hp:=hb.pa
 have hlen:=h.len
 have q94:=ret94 (orc:=orc) hi b
 refine kQ (zc rfl rfl (zB rfl (zA ?_)))
 refine zH [(1,.lst .ro 1 (zG l)),(2,U.box 0 0)] ([SB.box (Bk.cs b)]) (.cons rfl (.cons rfl (.nil rfl))) rfl fun fr=>?_
 refine k_seq (kQ (zC rfl (yF rfl ty94 rfl (List.length_map _) ?_)))
 refine zE rfl rfl yB (zE rfl rfl wU (zF rfl rfl rfl sh3 rfl (wC rfl rfl rfl (zA (k_cF rfl (decide_eq_false (by omega)) (zQ (kQ (zJ rfl rfl rfl sh75 rfl ?_))))))))
 refine zP rfl (q94) (.lrefl _) (zi rfl ze118 ?_)
 refine zZ rfl rfl sh118 rfl rfl rfl rfl rfl ?_
 refine zA ?_
 refine zH [(1,.lst .ro 1 (zG l)),(5,U.box 1 0)] ([SB.box (Bk.cs b),SB.box [U.fn 115 [] [],U.fn 116 [Bk.u b] [],U.fn 117 [] []]]) (.cons rfl (.cons rfl (.nil rfl))) rfl fun fr=>?_
 refine k_seq (kQ (zC rfl (yF rfl ty94 rfl (List.length_map _) ?_)))
 refine zC rfl (zA (zL ?_))
 refine yh (fun kk s2=>∃i:Nat,kk+i=l.length∧s2.st=[SB.box (Bk.cs b),SB.box [U.fn 115 [] [],U.fn 116 [b.u] [],U.fn 117 [] []]]∧Holds s2 [(1,.lst .ro 1 (zG l)),(5,.box 1 0),(18,.int .i64 l.length),(19,.int .i64 i),(17,.lst .ro 1 (zG l))]) (fun kk s2 hI=>?_) l.length _ ⟨0,rfl,rfl,.c4 rfl rfl rfl rfl (.cons rfl (.nil rfl))⟩
 obtain⟨i,hk,hst2,hs2⟩:=hI
 refine zH _ _ hs2 hst2 fun fr2=>?_
 by_cases hin:i<l.length
 ·obtain⟨x,hx⟩:∃x,l[i]? =some x:=⟨l[i],List.getElem?_eq_getElem hin⟩
  have hxr:=h.rg x (List.mem_of_getElem? hx)
  have q115:RetP Tryd.prog is orc 115 [.lst .ro 1 (zG l),.int .i64 i] (.bool true):=by
   have:=ret115 (orc:=orc) hi hx (by omega)
   rw[zBn.2 hxr]at this;exact this
  have q116:RetP Tryd.prog is orc 116 [b.u,.lst .ro 1 (zG l),.int .i64 i] (.bool true):=ret116 hi hx (by omega) fun hz=>by
   have h0:=h.st
   rw[←hz,hx]at h0;cases h0;rfl
  have q117:RetP Tryd.prog is orc 117 [.lst .ro 1 (zG l),.int .i64 i] (.bool true):=by
   have:=ret117 (orc:=orc) hi hx (fun y hy=>h.rg y (List.mem_of_mem_take hy)) (by omega)
   have e:(decide (i=0)||decide (zCe ((l[i - 1]?).getD 0) x≤1))=true:=by
    cases i with
    |zero=>rfl
    |succ i=>
     obtain⟨w,hw⟩:∃w,l[i]? =some w:=⟨l[i],List.getElem?_eq_getElem (by omega)⟩
     have:=h.nr i w x hw hx
     rw[Nat.add_sub_cancel,hw]
     unfold zCe
     simp only[Bool.or_eq_true,decide_eq_true_eq,Option.getD_some]
     omega
   rw[e]at this;exact this
  refine kQ (zf rfl rfl rfl (zA (k_seq (k_cT rfl (decide_eq_true (by omega)) (zQ (k_seq (zL (kQ ?_))))))))
  refine zC rfl (zB rfl (zA (kQ (zJ rfl rfl rfl sh118 rfl (zC rfl (zA (zL ?_)))))))
  refine yh (fun mm s2=>∃j:Nat,mm+j=3∧s2.st=[SB.box (Bk.cs b),SB.box [U.fn 115 [] [],U.fn 116 [b.u] [],U.fn 117 [] []]]∧Holds s2 [(1,.lst .ro 1 (zG l)),(5,.box 1 0),(6,.int .i64 i),(17,.lst .ro 1 (zG l)),(18,.int .i64 l.length),(19,.int .i64 i),(22,.agg [U.fn 115 [] [],U.fn 116 [b.u] [],U.fn 117 [] []]),(23,.int .i64 j)]) (fun mm s2 hI=>?_) 3 _ ⟨0,rfl,rfl,.c4 rfl rfl rfl rfl (.c4 rfl rfl rfl rfl (.nil rfl))⟩
  obtain⟨j,hj,hst2,hs2⟩:=hI
  refine zH _ _ hs2 hst2 fun fr2=>?_
  have hj3:j=0∨j=1∨j=2∨j=3:=by omega
  rcases hj3 with rfl|rfl|rfl|rfl
  ·refine kQ ?_
   refine zf rfl rfl rfl (zA (k_seq (k_cT rfl rfl ?_)))
   refine zQ (k_seq (zL (kQ (wg rfl zDr rfl rfl (by omega) (by omega) zEN zDv rfl ?_))))
   refine zB rfl (zA (kQ (zC rfl (zC rfl (zC rfl (ye rfl rfl q115 (.lrefl _) ?_))))))
   refine yu rfl rfl (zA (k_cF rfl rfl ?_))
   refine zQ (k_region ?_)
   refine yO rfl rfl rfl (by unfold I64;omega) (zC rfl (zA ?_))
   exact⟨mm - 1,by omega,1,by omega,rfl,.c4 rfl rfl rfl rfl (.c4 rfl rfl rfl rfl (.nil rfl))⟩
  ·refine kQ ?_
   refine zf rfl rfl rfl (zA (k_seq (k_cT rfl rfl ?_)))
   refine zQ (k_seq (zL (kQ (wg rfl zDr rfl rfl (by omega) (by omega) zEN zDv rfl ?_))))
   refine zB rfl (zA (kQ (zC rfl (zC rfl (zC rfl (ye rfl rfl q116 (.lrefl _) ?_))))))
   refine yu rfl rfl (zA (k_cF rfl rfl ?_))
   refine zQ (k_region ?_)
   refine yO rfl rfl rfl (by unfold I64;omega) (zC rfl (zA ?_))
   exact⟨mm - 1,by omega,2,by omega,rfl,.c4 rfl rfl rfl rfl (.c4 rfl rfl rfl rfl (.nil rfl))⟩
  ·refine kQ ?_
   refine zf rfl rfl rfl (zA (k_seq (k_cT rfl rfl ?_)))
   refine zQ (k_seq (zL (kQ (wg rfl zDr rfl rfl (by omega) (by omega) zEN zDv rfl ?_))))
   refine zB rfl (zA (kQ (zC rfl (zC rfl (zC rfl (ye rfl rfl q117 (.lrefl _) ?_))))))
   refine yu rfl rfl (zA (k_cF rfl rfl ?_))
   refine zQ (k_region ?_)
   refine yO rfl rfl rfl (by unfold I64;omega) (zC rfl (zA ?_))
   exact⟨mm - 1,by omega,3,by omega,rfl,.c4 rfl rfl rfl rfl (.c4 rfl rfl rfl rfl (.nil rfl))⟩
  ·refine kQ ?_
   refine zf rfl rfl rfl (zA (k_seq (k_cF rfl rfl ?_)))
   refine yP (k_region ?_)
   refine yO rfl rfl rfl (by unfold I64;omega) (zC rfl (zA ?_))
   exact⟨kk - 1,by omega,i+1,by omega,rfl,.c4 rfl rfl rfl rfl (.cons rfl (.nil rfl))⟩
 ·refine kQ ?_
  refine zf rfl rfl rfl (zA (k_seq (k_cF rfl (decide_eq_false (by omega)) (yP (kQ (zB rfl (zA (zU ?_))))))))
  refine⟨.inr rfl,_,.cons _ _ _ _ (.tmp 4) .nil,?_⟩
  exact .refl _
end
section
variable {is:FuncId→Bool}{orc:Known}
theorem wpc89(hi:Off is){b:Bk}{l:List Int}(hb:BOk b)(h:POk b l){st:List SB}{j:Nat}(hj:st[j]? =some (.box [.lst .ro 1 (zG l)])):WpC Tryd.prog is orc 89 [b.u,.box j 0] st fun u st'=>u=.bool true∧∃e,st'=st++e:=by
 refine zAW body89 pure89 rfl rfl ?_
 have q62:=ret62 (orc:=orc) hi hb h
 refine kQ (zc rfl rfl (zB rfl (zA ?_)))
 refine zH [(1,U.box j 0),(2,U.box (List.length st) 0)] (st++[SB.box (Bk.cs b)]) (.cons rfl (.cons rfl (.nil rfl))) rfl fun fr=>?_
 refine kQ (zJ rfl rfl (zp _ _) sh75 rfl ?_)
 refine zF rfl rfl (zo hj) sh22 rfl ?_
 refine zP rfl (q62) (.lrefl _) (zB rfl (zA (zU ?_)))
 refine⟨.inr rfl,_,.cons _ _ _ _ (.tmp 3) .nil,?_⟩
 exact⟨_,.refl _,rfl,_,rfl⟩
theorem zDa{st X:List SB}{k:Nat}{x:SB}(h:X[k]? =some x):(st++X)[st.length+k]? =some x:=by
 rw[List.getElem?_append_right (by omega),Nat.add_sub_cancel_left];exact h
theorem set_off{st X:List SB}{k:Nat}{x:SB}:(st++X).set (st.length+k) x=st++X.set k x:=by
 rw[List.set_append_right _ _ (by omega),Nat.add_sub_cancel_left]
set_option maxHeartbeats 8000000 in
theorem wpc60(hi:Off is){b:Bk}{l:List Int}(hb:BOk b)(h:POk b l){st:List SB}{j:Nat}(hj:st[j]? =some (.box [.lst .ro 1 (zG l)])):WpC Tryd.prog is orc 60 [b.u,.lst .ro 1 [.fn 89 [] [.box j 0]]] st fun u st'=>u=.tup [b.u,.int .i64 0]∧∃e,st'=st++e:=by
 refine zAW body60 pure60 rfl rfl ?_
 have q17:=ret17 (orc:=orc) hi b
 rw[if_pos ((wZ b).2 hb)]at q17
 refine kQ (zc rfl rfl (zi rfl ze75 ?_))
 refine zB rfl (zA ?_)
 refine zH [(1,.lst .ro 1 [U.fn 89 [] [U.box j 0]]),(2,U.box (List.length st) 0),(4,U.box (List.length (st++[SB.box (Bk.cs b)])) 0)] (st++[SB.box (Bk.cs b)]++[SB.box [.int .i64 0,.int .i64 0,.lst .full 0 [],.int .i64 0,.int .i64 0,.int .i64 0,.int .i64 0,.int .i64 0,.int .i64 0,.int .i64 0,.lst .full 0 []]]) (.cons rfl (.cons rfl (.cons rfl (.nil rfl)))) rfl fun fr=>?_
 refine k_seq (kQ (zJ rfl rfl (zo (zp _ _)) sh27 rfl ?_))
 refine zP rfl (q17) (.lrefl _) (zB rfl (zA (kQ (zC rfl (wC rfl rfl rfl (zA (k_cF rfl rfl ?_)))))))
 refine zQ (kQ (zJ rfl rfl (zo (zp _ _)) sh27 rfl ?_))
 refine yp rfl ze75 pl75 rfl rfl ?_
 refine zi rfl ze75 ?_
 refine zZ rfl (zp _ _) sh75 rfl rfl rfl rfl rfl ?_
 refine zA ?_
 refine zH [(1,.lst .ro 1 [U.fn 89 [] [U.box j 0]]),(4,U.box (List.length (st++[SB.box (Bk.cs b)])) 0),(7,U.box (List.length (st++[SB.box (Bk.cs b)]++[SB.box [.int .i64 0,.int .i64 0,.lst .full 0 [],.int .i64 0,.int .i64 0,.int .i64 0,.int .i64 0,.int .i64 0,.int .i64 0,.int .i64 0,.lst .full 0 []]])) 0)] (st++[SB.box (Bk.cs b)]++[SB.box [.int .i64 0,.int .i64 0,.lst .full 0 [],.int .i64 0,.int .i64 0,.int .i64 0,.int .i64 0,.int .i64 0,.int .i64 0,.int .i64 0,.lst .full 0 []]]++[SB.box (Bk.cs b)]) (.cons rfl (.cons rfl (.cons rfl (.nil rfl)))) (yx _ _ _) fun fr=>?_
 refine k_seq (kQ (zC rfl (yF rfl zFM rfl rfl ?_)))
 refine zC rfl (zA (zL ?_))
 refine yh (fun kk s2=>∃X:List SB,s2.st=st++X∧X[1]? =some (.box [.int .i64 0,.int .i64 0,.lst .full 0 [],.int .i64 0,.int .i64 0,.int .i64 0,.int .i64 0,.int .i64 0,.int .i64 0,.int .i64 0,.lst .full 0 []])∧X[2]? =some (.box (Bk.cs b))∧((kk=1∧Holds s2 [(4,.box (st.length+1) 0),(7,.box (st.length+2) 0),(18,.lst .ro 1 [.fn 89 [] [.box j 0]]),(19,.int .i64 1),(20,.int .i64 0)])∨(kk=0∧Holds s2 [(4,.box (st.length+1) 0),(7,.box (st.length+2) 0),(18,.lst .ro 1 [.fn 89 [] [.box j 0]]),(19,.int .i64 1),(20,.int .i64 1)]))) (fun kk s2 hI=>?_) 1 _ ⟨[.box (Bk.cs b),.box [.int .i64 0,.int .i64 0,.lst .full 0 [],.int .i64 0,.int .i64 0,.int .i64 0,.int .i64 0,.int .i64 0,.int .i64 0,.int .i64 0,.lst .full 0 []],.box (Bk.cs b)],(by show((st++[SB.box _])++[SB.box _])++[SB.box _]=_;rw[List.append_assoc,List.append_assoc];rfl),rfl,rfl,.inl ⟨rfl,.cons (by show U.box (st++[SB.box _]).length 0=_;simp) (.cons (by show U.box ((st++[SB.box _])++[SB.box _]).length 0=_;simp) (.cons rfl (.cons rfl (.cons rfl (.nil rfl)))))⟩⟩
 obtain⟨X,hst2,x1,x2,⟨hk,hs2⟩|⟨hk,hs2⟩⟩:=hI
 ·have y1:=zDa (st:=st) x1
  have y2:=zDa (st:=st) x2
  have y3:(st++X)[j]? =some (.box [.lst .ro 1 (zG l)]):=zo hj
  refine zH _ _ hs2 hst2 fun fr2=>?_
  refine kQ (zf rfl rfl rfl (zA (k_seq (k_cT rfl rfl ?_))))
  refine zQ (k_seq (zL (kQ (yD rfl zFM rfl rfl (by decide) rfl cl83 ?_))))
  refine zT rfl rfl sh83 rfl ?_
  refine zB rfl (zA (kQ (zC rfl (zJ rfl rfl y2 sh75 rfl ?_))))
  refine zEf rfl rfl (wpc89 hi hb h y3) (.lrefl _) (fun u st1 hM=>?_)
  obtain⟨rfl,e,rfl⟩:=hM
  refine yu rfl rfl (zA (k_cF rfl rfl ?_))
  refine zQ (k_region ?_)
  refine yO rfl rfl rfl (by unfold I64;omega) (zC rfl (zA ?_))
  exact⟨0,by omega,X++e,(by show(st++X)++e=_;rw[List.append_assoc]),zo x1,zo x2,.inr ⟨rfl,.c4 rfl rfl rfl rfl (.cons rfl (.nil rfl))⟩⟩
 ·have y1:=zDa (st:=st) x1
  have y2:=zDa (st:=st) x2
  refine zH _ _ hs2 hst2 fun fr2=>?_
  have hl:st.length+1<(st++X).length:=(List.getElem?_eq_some_iff.1 y1).1
  refine kQ (zf rfl rfl rfl (zA (k_seq (k_cF rfl rfl ?_))))
  refine yP (kQ (zJ rfl rfl y2 sh75 rfl ?_))
  refine zZ rfl y1 sh75 rfl rfl rfl rfl rfl ?_
  refine zB rfl (zA (zU ?_))
  refine⟨.inr rfl,_,.cons _ _ _ _ (.cellN 4 75 (st.length+1) 0 11 (Bk.cs b) rfl (List.getElem?_set_self hl) sh75 rfl) (.cons _ _ _ _ (.tmp 5) .nil),_,.refl _,rfl,_,set_off⟩
set_option maxHeartbeats 8000000 in
theorem ret54(hi:Off is){b:Bk}{l:List Int}(hb:BOk b)(h:POk b l):RetP Tryd.prog is orc 54 [b.u,.lst .ro 1 (zG l)] (.tup [b.u,.int .i64 0]):=by
 refine zk body54 pure54 (hi 54 (by decide)) rfl rfl (yM (yK b 4) (zr 6 .ro (fun h=>by cases h) 1 l)) (.inr ⟨_,rfl,yM (k:=7) (yK b 3) (.int _ _ _)⟩) ?_
 refine kQ (zc rfl rfl (zc rfl rfl (zi rfl ze75 ?_)))
 refine zB rfl (zA ?_)
 refine zH [(2,U.box 0 0),(3,U.box 1 0),(4,U.box 2 0)] ([SB.box (Bk.cs b),SB.box [.lst .ro 1 (zG l)],SB.box [.int .i64 0,.int .i64 0,.lst .full 0 [],.int .i64 0,.int .i64 0,.int .i64 0,.int .i64 0,.int .i64 0,.int .i64 0,.int .i64 0,.lst .full 0 []]]) (.cons rfl (.cons rfl (.cons rfl (.nil rfl)))) rfl fun fr=>?_
 refine kQ (zJ rfl rfl rfl sh27 rfl ?_)
 refine zBw rfl ?_
 refine wb (es:=[U.fn 89 [] [U.box 1 0]]) rfl zFM ze83 cl83 rfl rfl rfl rfl rfl rfl rfl rfl ?_
 refine zBM rfl (wpc60 hi hb h (st:=_) (j:=1) rfl) (.lcons _ _ _ _ (.refl _) (.lcons _ _ _ _ (.ro _ _ _) (.lrefl _))) (fun u st1 hM=>?_)
 obtain⟨rfl,e,rfl⟩:=hM
 refine zX rfl rfl rfl (zX rfl rfl rfl (zZ rfl rfl sh75 rfl rfl rfl rfl rfl ?_))
 refine zB rfl (zA (zU ?_))
 refine⟨.inr rfl,_,.cons _ _ _ _ (.cellN 4 75 _ _ _ _ rfl rfl sh75 rfl) (.cons _ _ _ _ (.tmp 5) .nil),?_⟩
 exact .refl _
end
section
variable {is:FuncId→Bool}{orc:Known}
theorem pl145:zDx Tryd.prog 145=some [(0,1),(1,1),(2,1),(3,1)]:=by kernel_rfl
theorem sh145:shOf Tryd.prog 145=.many 4:=by kernel_rfl
theorem ze145:yV Tryd.prog 145=some ((.cons .nilf (.cons .nilf (.cons .nilf (.cons .nilf .nil)))):V):=by kernel_rfl
noncomputable def b126:Code:=(Tryd.f126.body).getD .skip
theorem body126:bodyOf Tryd.prog 126=some (2,b126,[.cell 0 145]):=by kernel_rfl
theorem pure126:pureFn Tryd.prog 126=false:=by kernel_rfl
theorem cl144:Program.cellsOf Tryd.prog 144=1:=by kernel_rfl
theorem sh144:shOf Tryd.prog 144=.one:=by kernel_rfl
theorem ty145:tyOf Tryd.prog 145=.array 4 144:=by kernel_rfl
noncomputable def b112:Code:=(Tryd.f112.body).getD .skip
theorem body112:bodyOf Tryd.prog 112=some (11,b112,[.tmp 4]):=by kernel_rfl
theorem pure112:pureFn Tryd.prog 112=true:=by kernel_rfl
abbrev waysU:U:=.agg [.fn 130 [] [],.fn 131 [] [],.fn 119 [] [],.fn 132 [] []]
theorem nb_fn0(f:Nat):NB (.fn f [] []):=NB.fn (fun u hu=>by cases hu) (fun u hu=>by cases hu)
theorem ret126(hi:Off is):RetP Tryd.prog is orc 126 [] waysU:=by
 refine wQ body126 pure126 rfl rfl (fun u hu=>by cases hu) (NB.agg fun c hc=>by
  simp only[List.mem_cons,List.not_mem_nil,or_false]at hc
  rcases hc with rfl|rfl|rfl|rfl<;>exact nb_fn0 _) ?_
 refine kQ (zi rfl ze145 ?_)
 refine zA ?_
 refine zH [(0,U.box 0 0)] ([SB.box [U.nilf,U.nilf,U.nilf,U.nilf]]) (.cons rfl (.nil rfl)) rfl fun fr=>?_
 refine kQ (yp rfl ze145 pl145 rfl rfl ?_)
 refine zZ rfl rfl sh145 rfl rfl rfl rfl rfl ?_
 refine zA (zU ?_)
 refine⟨.inr rfl,_,.cons _ _ _ _ (.cellN 0 145 _ _ _ _ rfl rfl sh145 rfl) .nil,?_⟩
 exact .refl _
def doesB(x y w:Int):Bool:=if w= -2 then true else if w= -1 then decide (y<x)else if w=0 then decide (y=x)else decide (x<y)
set_option maxHeartbeats 4000000 in
theorem ret112(hi:Off is)(x y w:Int)(hw: -2≤w∧w≤1):RetP Tryd.prog is orc 112 [wB x y,.int .i64 w] (.bool (doesB x y w)):=by
 refine zk body112 pure112 (hi 112 (by decide)) rfl rfl (yM (yq x y 6) (.int _ _ _)) (.inl (.bool _ _)) ?_
 have q126:=ret126 (orc:=orc) hi
 have hc:w= -2∨w= -1∨w=0∨w=1:=by omega
 rcases hc with rfl|rfl|rfl|rfl
 ·refine kQ ?_
  refine zc rfl rfl (zB rfl (zA ?_))
  refine zH [(1,.int .i64 (-2:Int)),(2,U.box 0 0)] ([SB.box [.int .i64 x,.int .i64 y]]) (.cons rfl (.cons rfl (.nil rfl))) rfl fun fr=>?_
  refine k_seq (yL [.quiet,.plain,.plain,.plain,.read true,.plain,.plain] (by kernel_rfl) (by kernel_rfl) (by kernel_rfl) ?_)
  refine zEx rfl (q126) (.lrefl _) ?_
  refine zD (zC rfl (zA rfl)) ?_
  refine zD (yn rfl rfl rfl (by unfold I64;omega) (zA rfl)) ?_
  refine zD (wg rfl ty145 rfl rfl (by omega) (by omega) cl144 sh144 rfl (zA rfl)) ?_
  refine zR rfl (zJ rfl rfl rfl zEa rfl (zA rfl)) ?_
  refine zD (ye rfl rfl (ret130 (orc:=orc) hi x y) (.lrefl _) (zA rfl)) ?_
  refine zD (zB rfl (zA rfl)) ?_
  refine yw ?_
  refine zU ?_
  refine⟨.inr rfl,_,.cons _ _ _ _ (.tmp 4) .nil,?_⟩
  exact .refl _
 ·refine kQ ?_
  refine zc rfl rfl (zB rfl (zA ?_))
  refine zH [(1,.int .i64 (-1:Int)),(2,U.box 0 0)] ([SB.box [.int .i64 x,.int .i64 y]]) (.cons rfl (.cons rfl (.nil rfl))) rfl fun fr=>?_
  refine k_seq (yL [.quiet,.plain,.plain,.plain,.read true,.plain,.plain] (by kernel_rfl) (by kernel_rfl) (by kernel_rfl) ?_)
  refine zEx rfl (q126) (.lrefl _) ?_
  refine zD (zC rfl (zA rfl)) ?_
  refine zD (yn rfl rfl rfl (by unfold I64;omega) (zA rfl)) ?_
  refine zD (wg rfl ty145 rfl rfl (by omega) (by omega) cl144 sh144 rfl (zA rfl)) ?_
  refine zR rfl (zJ rfl rfl rfl zEa rfl (zA rfl)) ?_
  refine zD (ye rfl rfl (ret131 (orc:=orc) hi x y) (.lrefl _) (zA rfl)) ?_
  refine zD (zB rfl (zA rfl)) ?_
  refine yw ?_
  refine zU ?_
  refine⟨.inr rfl,_,.cons _ _ _ _ (.tmp 4) .nil,?_⟩
  exact .refl _
 ·refine kQ ?_
  refine zc rfl rfl (zB rfl (zA ?_))
  refine zH [(1,.int .i64 0),(2,U.box 0 0)] ([SB.box [.int .i64 x,.int .i64 y]]) (.cons rfl (.cons rfl (.nil rfl))) rfl fun fr=>?_
  refine k_seq (yL [.quiet,.plain,.plain,.plain,.read true,.plain,.plain] (by kernel_rfl) (by kernel_rfl) (by kernel_rfl) ?_)
  refine zEx rfl (q126) (.lrefl _) ?_
  refine zD (zC rfl (zA rfl)) ?_
  refine zD (yn rfl rfl rfl (by unfold I64;omega) (zA rfl)) ?_
  refine zD (wg rfl ty145 rfl rfl (by omega) (by omega) cl144 sh144 rfl (zA rfl)) ?_
  refine zR rfl (zJ rfl rfl rfl zEa rfl (zA rfl)) ?_
  refine zD (ye rfl rfl (ret119 (orc:=orc) hi x y) (.lrefl _) (zA rfl)) ?_
  refine zD (zB rfl (zA rfl)) ?_
  refine yw ?_
  refine zU ?_
  refine⟨.inr rfl,_,.cons _ _ _ _ (.tmp 4) .nil,?_⟩
  exact .refl _
 ·refine kQ ?_
  refine zc rfl rfl (zB rfl (zA ?_))
  refine zH [(1,.int .i64 1),(2,U.box 0 0)] ([SB.box [.int .i64 x,.int .i64 y]]) (.cons rfl (.cons rfl (.nil rfl))) rfl fun fr=>?_
  refine k_seq (yL [.quiet,.plain,.plain,.plain,.read true,.plain,.plain] (by kernel_rfl) (by kernel_rfl) (by kernel_rfl) ?_)
  refine zEx rfl (q126) (.lrefl _) ?_
  refine zD (zC rfl (zA rfl)) ?_
  refine zD (yn rfl rfl rfl (by unfold I64;omega) (zA rfl)) ?_
  refine zD (wg rfl ty145 rfl rfl (by omega) (by omega) cl144 sh144 rfl (zA rfl)) ?_
  refine zR rfl (zJ rfl rfl rfl zEa rfl (zA rfl)) ?_
  refine zD (ye rfl rfl (ret132 (orc:=orc) hi x y) (.lrefl _) (zA rfl)) ?_
  refine zD (zB rfl (zA rfl)) ?_
  refine yw ?_
  refine zU ?_
  refine⟨.inr rfl,_,.cons _ _ _ _ (.tmp 4) .nil,?_⟩
  exact .refl _
end
end Go.Proofs.YtfbmlibilcjlgaaDoor.drumBounds
