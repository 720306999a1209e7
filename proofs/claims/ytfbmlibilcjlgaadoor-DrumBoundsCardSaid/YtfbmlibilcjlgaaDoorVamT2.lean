import Derived.Test.YtfbmlibilcjlgaaDoorVamT1
set_option linter.unusedVariables false
set_option linter.unusedSimpArgs false
set_option linter.constructorNameAsVariable false
namespace Go.Proofs.YtfbmlibilcjlgaaDoor.drumBounds
open Vam
section
variable {is:FuncId→Bool}{orc:Known}
theorem by3:Program.bytesOf Tryd.prog 3=8:=by kernel_rfl
theorem zFB:AppT Tryd.prog 22 22 3 1 8 ((.cons (.int .i64 0) .nil):V):=⟨ty22,⟨_,ty22⟩,cl3,by decide,by3,ze3,rfl⟩
end
section
variable {is:FuncId→Bool}{orc:Known}
theorem pl135:zDx Tryd.prog 135=some [(0,1),(1,1)]:=by kernel_rfl
theorem zEa:shOf Tryd.prog 135=.many 2:=by kernel_rfl
theorem ty94:tyOf Tryd.prog 94=.slice 3:=by kernel_rfl
theorem ze135:yV Tryd.prog 135=some ((.cons (.int .i64 0) (.cons (.int .i64 0) .nil)):V):=by kernel_rfl
noncomputable def b118:Code:=(Tryd.f118.body).getD .skip
theorem body118:bodyOf Tryd.prog 118=some (15,b118,[.cell 4 135]):=by kernel_rfl
theorem pure118:pureFn Tryd.prog 118=true:=by kernel_rfl
theorem zEK:zz Tryd.prog 135 0=some (0,3):=by kernel_rfl
theorem zEJ:zz Tryd.prog 135 1=some (1,3):=by kernel_rfl
noncomputable def b119:Code:=(Tryd.f119.body).getD .skip
theorem body119:bodyOf Tryd.prog 119=some (8,b119,[.tmp 2]):=by kernel_rfl
theorem pure119:pureFn Tryd.prog 119=true:=by kernel_rfl
noncomputable def b99:Code:=(Tryd.f99.body).getD .skip
theorem body99:bodyOf Tryd.prog 99=some (18,b99,[.tmp 4]):=by kernel_rfl
theorem pure99:pureFn Tryd.prog 99=true:=by kernel_rfl
noncomputable def b129:Code:=(Tryd.f129.body).getD .skip
theorem body129:bodyOf Tryd.prog 129=some (15,b129,[.tmp 2]):=by kernel_rfl
theorem pure129:pureFn Tryd.prog 129=true:=by kernel_rfl
noncomputable def b130:Code:=(Tryd.f130.body).getD .skip
theorem body130:bodyOf Tryd.prog 130=some (3,b130,[.tmp 2]):=by kernel_rfl
theorem pure130:pureFn Tryd.prog 130=true:=by kernel_rfl
noncomputable def b131:Code:=(Tryd.f131.body).getD .skip
theorem body131:bodyOf Tryd.prog 131=some (8,b131,[.tmp 2]):=by kernel_rfl
theorem pure131:pureFn Tryd.prog 131=true:=by kernel_rfl
noncomputable def b132:Code:=(Tryd.f132.body).getD .skip
theorem body132:bodyOf Tryd.prog 132=some (8,b132,[.tmp 2]):=by kernel_rfl
theorem pure132:pureFn Tryd.prog 132=true:=by kernel_rfl
noncomputable def b115:Code:=(Tryd.f115.body).getD .skip
theorem body115:bodyOf Tryd.prog 115=some (12,b115,[.tmp 4]):=by kernel_rfl
theorem pure115:pureFn Tryd.prog 115=true:=by kernel_rfl
noncomputable def b117:Code:=(Tryd.f117.body).getD .skip
theorem body117:bodyOf Tryd.prog 117=some (15,b117,[.tmp 4]):=by kernel_rfl
theorem pure117:pureFn Tryd.prog 117=true:=by kernel_rfl
theorem pl125:zDx Tryd.prog 125=some [(0,1),(1,1)]:=by kernel_rfl
theorem sh125:shOf Tryd.prog 125=.many 2:=by kernel_rfl
theorem ze125:yV Tryd.prog 125=some ((.cons (.int .i64 0) (.cons (.int .i64 0) .nil)):V):=by kernel_rfl
noncomputable def b101:Code:=(Tryd.f101.body).getD .skip
theorem body101:bodyOf Tryd.prog 101=some (11,b101,[.cell 4 125]):=by kernel_rfl
theorem pure101:pureFn Tryd.prog 101=true:=by kernel_rfl
theorem yB:zz Tryd.prog 75 0=some (0,27):=by kernel_rfl
noncomputable def b128:Code:=(Tryd.f128.body).getD .skip
theorem body128:bodyOf Tryd.prog 128=some (7,b128,[.cell 2 125]):=by kernel_rfl
theorem pure128:pureFn Tryd.prog 128=true:=by kernel_rfl
theorem sh75:shOf Tryd.prog 75=.many 11:=by kernel_rfl
noncomputable def b116:Code:=(Tryd.f116.body).getD .skip
theorem body116:bodyOf Tryd.prog 116=some (17,b116,[.tmp 6]):=by kernel_rfl
theorem pure116:pureFn Tryd.prog 116=true:=by kernel_rfl
set_option maxHeartbeats 4000000 in
theorem ret118(hi:Off is){l:List Int}{i:Nat}{x y:Int}(hx:l[i]? =some x)(hy:l[i+1]? =some y)(hl:l.length≤4096):RetP Tryd.prog is orc 118 [.lst .ro 1 (zG l),.int .i64 i] (wB x y):=by
 refine zk body118 pure118 (hi 118 (by decide)) rfl rfl (yM (zr 6 .ro (fun h=>by cases h) 1 l) (.int _ _ _)) (.inl (yq _ _ 6)) ?_
 have h1:=(List.getElem?_eq_some_iff.1 hx).1
 refine kQ (zi rfl ze135 ?_)
 refine zA ?_
 refine zH [(0,.lst .ro 1 (zG l)),(1,.int .i64 ↑i),(4,U.box 0 0)] ([SB.box [.int .i64 0,.int .i64 0]]) (.cons rfl (.cons rfl (.cons rfl (.nil rfl)))) rfl fun fr=>?_
 refine k_seq (yL [.plain,.plain,.plain,.read true,.plain,.plain,.plain,.plain,.read true,.plain,.plain] (by kernel_rfl) (by kernel_rfl) (by kernel_rfl) ?_)
 refine zD (zC rfl (zA rfl)) (zD (zC rfl (zA rfl)) (zD (yD (u:=.int .i64 (x)) rfl ty94 rfl rfl (Int.natCast_nonneg _) (by simp[hx]) cl3 (zA rfl)) ?_))
 refine zR rfl (zT rfl rfl sh3 rfl (zA rfl)) ?_
 refine zD (zC rfl (zA rfl)) (zD (zC rfl (zA rfl)) ?_)
 refine zD (yO rfl rfl rfl (by unfold I64;omega) (zA rfl)) ?_
 refine zD (yD (u:=.int .i64 (y)) rfl ty94 rfl rfl (Int.natCast_nonneg _) (by simp[hy]) cl3 (zA rfl)) ?_
 refine zR rfl (zT rfl rfl sh3 rfl (zA rfl)) ?_
 refine zD (yp rfl ze135 pl135 rfl rfl (zA rfl)) ?_
 refine zD (zZ rfl rfl zEa rfl rfl rfl rfl rfl (zA rfl)) ?_
 refine yw ?_
 refine zU ?_
 refine⟨.inr rfl,_,.cons _ _ _ _ (.cellN 4 135 _ _ _ _ rfl rfl zEa rfl) .nil,?_⟩
 exact .refl _
theorem ret119(hi:Off is)(x y:Int):RetP Tryd.prog is orc 119 [wB x y] (.bool (decide (y=x))):=by
 refine zk body119 pure119 (hi 119 (by decide)) rfl rfl (zAH (yq x y 6)) (.inl (.bool _ _)) ?_
 refine kQ (zc rfl rfl (zB rfl (zA ?_)))
 refine zH [(1,U.box 0 0)] ([SB.box [.int .i64 x,.int .i64 y]]) (.cons rfl (.nil rfl)) rfl fun fr=>?_
 refine kQ (zE rfl rfl zEJ (zF rfl rfl rfl sh3 rfl (zE rfl rfl zEK (zF rfl rfl rfl sh3 rfl (zAt rfl rfl rfl (zB rfl (zA (zU ?_))))))))
 refine⟨.inr rfl,_,.cons _ _ _ _ (.tmp 2) .nil,?_⟩
 exact .refl _
theorem ret130(hi:Off is)(x y:Int):RetP Tryd.prog is orc 130 [wB x y] (.bool true):=by
 refine zk body130 pure130 (hi 130 (by decide)) rfl rfl (zAH (yq x y 6)) (.inl (.bool _ _)) ?_
 refine kQ (zc rfl rfl (zB rfl (zA ?_)))
 refine zH [] ([SB.box [.int .i64 x,.int .i64 y]]) (.nil rfl) rfl fun fr=>?_
 refine kQ (zB rfl (zA (zU ?_)))
 refine⟨.inr rfl,_,.cons _ _ _ _ (.tmp 2) .nil,?_⟩
 exact .refl _
theorem ret131(hi:Off is)(x y:Int):RetP Tryd.prog is orc 131 [wB x y] (.bool (decide (y<x))):=by
 refine zk body131 pure131 (hi 131 (by decide)) rfl rfl (zAH (yq x y 6)) (.inl (.bool _ _)) ?_
 refine kQ (zc rfl rfl (zB rfl (zA ?_)))
 refine zH [(1,U.box 0 0)] ([SB.box [.int .i64 x,.int .i64 y]]) (.cons rfl (.nil rfl)) rfl fun fr=>?_
 refine kQ (zE rfl rfl zEJ (zF rfl rfl rfl sh3 rfl (zE rfl rfl zEK (zF rfl rfl rfl sh3 rfl (zf rfl rfl rfl (zB rfl (zA (zU ?_))))))))
 refine⟨.inr rfl,_,.cons _ _ _ _ (.tmp 2) .nil,?_⟩
 exact .refl _
theorem ret132(hi:Off is)(x y:Int):RetP Tryd.prog is orc 132 [wB x y] (.bool (decide (x<y))):=by
 refine zk body132 pure132 (hi 132 (by decide)) rfl rfl (zAH (yq x y 6)) (.inl (.bool _ _)) ?_
 refine kQ (zc rfl rfl (zB rfl (zA ?_)))
 refine zH [(1,U.box 0 0)] ([SB.box [.int .i64 x,.int .i64 y]]) (.cons rfl (.nil rfl)) rfl fun fr=>?_
 refine kQ (zE rfl rfl zEJ (zF rfl rfl rfl sh3 rfl (zE rfl rfl zEK (zF rfl rfl rfl sh3 rfl (zBj rfl rfl rfl (zB rfl (zA (zU ?_))))))))
 refine⟨.inr rfl,_,.cons _ _ _ _ (.tmp 2) .nil,?_⟩
 exact .refl _
set_option maxHeartbeats 4000000 in
theorem ret99(hi:Off is)(x y:Int):RetP Tryd.prog is orc 99 [.int .i64 x,.lst .ro 1 (zG [y])] (.int .i64 (max x y)):=by
 refine zk body99 pure99 (hi 99 (by decide)) rfl rfl (yM (.int _ _ _) (zr 6 .ro (fun h=>by cases h) 1 [y])) (.inl (.int _ _ _)) ?_
 refine kQ (zB rfl (zA (k_seq (kQ (zC rfl (yF rfl ty22 rfl (List.length_map _) ?_))))))
 refine zC rfl (zA (zL ?_))
 refine yh (fun kk s2=>s2.st=[]∧((kk=1∧Holds s2 [(0,.int .i64 x),(7,.lst .ro 1 (zG [y])),(8,.int .i64 1),(9,.int .i64 0)])∨(kk=0∧Holds s2 [(0,.int .i64 (max x y)),(7,.lst .ro 1 (zG [y])),(8,.int .i64 1),(9,.int .i64 1)]))) (fun kk s2 hI=>?_) 1 _ ⟨rfl,.inl ⟨rfl,.c4 rfl rfl rfl rfl (.nil rfl)⟩⟩
 obtain⟨hst2,⟨hk,hs2⟩|⟨hk,hs2⟩⟩:=hI
 ·refine zH _ _ hs2 hst2 fun fr2=>?_
  refine kQ (zf rfl rfl rfl (zA (k_seq (k_cT rfl rfl ?_))))
  refine zQ (k_seq (zL (kQ (yD rfl ty22 rfl rfl (by decide) rfl cl3 ?_))))
  refine zT rfl rfl sh3 rfl ?_
  refine zB rfl (zA (k_region (zC rfl (zC rfl (o_max rfl rfl rfl ?_)))))
  refine zB rfl (zA (k_region ?_))
  refine yO rfl rfl rfl (by unfold I64;omega) (zC rfl (zA ?_))
  exact⟨0,by omega,rfl,.inr ⟨rfl,.c4 rfl rfl rfl rfl (.nil rfl)⟩⟩
 ·refine zH _ _ hs2 hst2 fun fr2=>?_
  refine kQ (zf rfl rfl rfl (zA (k_seq (k_cF rfl rfl ?_))))
  refine yP (kQ (zC rfl (zB rfl (zA (zU ?_)))))
  refine⟨.inr rfl,_,.cons _ _ _ _ (.tmp 4) .nil,?_⟩
  exact .refl _
def zCe(x y:Int):Int:=max (y - x) (x - y)
theorem ret129(hi:Off is){x y:Int}(hx:0≤x∧x≤3)(hy:0≤y∧y≤3):RetP Tryd.prog is orc 129 [wB x y] (.int .i64 (zCe x y)):=by
 refine zk body129 pure129 (hi 129 (by decide)) rfl rfl (zAH (yq x y 6)) (.inl (.int _ _ _)) ?_
 refine kQ (zc rfl rfl (zB rfl (zA ?_)))
 refine zH [(1,U.box 0 0)] ([SB.box [.int .i64 x,.int .i64 y]]) (.cons rfl (.nil rfl)) rfl fun fr=>?_
 refine kQ (zE rfl rfl zEJ (zF rfl rfl rfl sh3 rfl (zE rfl rfl zEK (zF rfl rfl rfl sh3 rfl ?_))))
 refine yn rfl rfl rfl (by unfold I64;omega) (zE rfl rfl zEK (zF rfl rfl rfl sh3 rfl (zE rfl rfl zEJ (zF rfl rfl rfl sh3 rfl ?_))))
 refine zV [(7,.int .i64 (y - x)),(9,.int .i64 x),(11,.int .i64 y)] [] ([SB.box [.int .i64 x,.int .i64 y]]) (.cons rfl (.cons rfl (.cons rfl (.nil rfl)))) rfl rfl fun fr=>?_
 refine yn rfl rfl rfl (by unfold I64;omega) (wb (es:=[.int .i64 (x - y)]) rfl ty22 ze3 cl3 rfl rfl rfl rfl rfl rfl rfl rfl ?_)
 refine zP rfl (ret99 hi (y - x) (x - y)) (.lcons _ _ _ _ (.refl _) (.lcons _ _ _ _ (.ro _ _ _) (.lrefl _))) ?_
 refine zB rfl (zA (zU ?_))
 refine⟨.inr rfl,_,.cons _ _ _ _ (.tmp 2) .nil,?_⟩
 exact .refl _
theorem ret115(hi:Off is){l:List Int}{i:Nat}{x:Int}(hx:l[i]? =some x)(hl:l.length≤4096):RetP Tryd.prog is orc 115 [.lst .ro 1 (zG l),.int .i64 i] (.bool (inS 0 3 x)):=by
 refine zk body115 pure115 (hi 115 (by decide)) rfl rfl (yM (zr 6 .ro (fun h=>by cases h) 1 l) (.int _ _ _)) (.inl (.bool _ _)) ?_
 have q90:=ret90 (orc:=orc) hi 0 3 x
 refine kQ (zB rfl (zA (k_seq (yL [.plain,.read true,.plain,.plain,.plain,.read true,.plain,.plain] (by kernel_rfl) (by kernel_rfl) (by kernel_rfl) ?_))))
 refine d_gpair (i:=3) (c:=2) (n:=10) sh24 rfl rfl zEV cl24 rfl rfl rfl (gatB 3 (by decide)) rfl ?_
 refine zD (zC rfl (zA rfl)) (zD (zC rfl (zA rfl)) (zD (yD (u:=.int .i64 (x)) rfl ty94 rfl rfl (Int.natCast_nonneg _) (by simp[hx]) cl3 (zA rfl)) ?_))
 refine zR rfl (zT rfl rfl sh3 rfl (zA rfl)) ?_
 refine zD (zP rfl (q90) (.lrefl _) (zA rfl)) ?_
 refine zD (zB rfl (zA rfl)) ?_
 refine yw ?_
 refine zU ?_
 refine⟨.inr rfl,_,.cons _ _ _ _ (.tmp 4) .nil,?_⟩
 exact .refl _
theorem ret101(hi:Off is){l:List Int}{i:Nat}{x:Int}(hx:l[i]? =some x)(hl:l.length≤4096):RetP Tryd.prog is orc 101 [.lst .ro 1 (zG l),.int .i64 i] (wB i x):=by
 refine zk body101 pure101 (hi 101 (by decide)) rfl rfl (yM (zr 6 .ro (fun h=>by cases h) 1 l) (.int _ _ _)) (.inl (yq _ _ 6)) ?_
 refine kQ (zi rfl ze125 ?_)
 refine zA ?_
 refine zH [(0,.lst .ro 1 (zG l)),(1,.int .i64 ↑i),(4,U.box 0 0)] ([SB.box [.int .i64 0,.int .i64 0]]) (.cons rfl (.cons rfl (.cons rfl (.nil rfl)))) rfl fun fr=>?_
 refine kQ (zC rfl (zC rfl (zC rfl (yD (u:=.int .i64 (x)) rfl ty94 rfl rfl (Int.natCast_nonneg _) (by simp[hx]) cl3 ?_))))
 refine zT rfl rfl sh3 rfl ?_
 refine yp rfl ze125 pl125 rfl rfl ?_
 refine zZ rfl rfl sh125 rfl rfl rfl rfl rfl ?_
 refine zA (zU ?_)
 refine⟨.inr rfl,_,.cons _ _ _ _ (.cellN 4 125 _ _ _ _ rfl rfl sh125 rfl) .nil,?_⟩
 exact .refl _
set_option maxHeartbeats 4000000 in
theorem ret117(hi:Off is){l:List Int}{i:Nat}{x:Int}(hx:l[i]? =some x)(hr:∀y∈l.take (i+1),0≤y∧y≤3)(hl:l.length≤4096):RetP Tryd.prog is orc 117 [.lst .ro 1 (zG l),.int .i64 i] (.bool (decide (i=0)||decide (zCe ((l[i - 1]?).getD 0) x≤1))):=by
 refine zk body117 pure117 (hi 117 (by decide)) rfl rfl (yM (zr 6 .ro (fun h=>by cases h) 1 l) (.int _ _ _)) (.inl (.bool _ _)) ?_
 have h1:=(List.getElem?_eq_some_iff.1 hx).1
 cases i with
 |zero=>
  refine kQ (zB rfl (zA (kQ (zC rfl (zAt rfl rfl rfl (zC rfl (o_gS rfl rfl rfl rfl rfl (o_gS rfl rfl rfl rfl rfl ?_))))))))
  refine o_gS rfl rfl rfl rfl rfl (o_gS rfl rfl rfl rfl rfl (o_gS rfl rfl rfl rfl rfl (o_gS rfl rfl rfl rfl rfl (za rfl rfl rfl ?_))))
  refine zB rfl (zA (zU ?_))
  refine⟨.inr rfl,_,.cons _ _ _ _ (.tmp 4) .nil,?_⟩
  exact .refl _
  done
 |succ i=>
  obtain⟨w,hw⟩:∃w,l[i]? =some w:=⟨l[i],List.getElem?_eq_getElem (by omega)⟩
  have e:((l[i+1 - 1]?).getD 0)=w:=by rw[Nat.add_sub_cancel,hw];rfl
  rw[e]
  have hwr:=hr w (by rw[List.mem_take_iff_getElem];exact⟨i,by omega,(List.getElem?_eq_some_iff.1 hw).2⟩)
  have hxr:=hr x (by rw[List.mem_take_iff_getElem];exact⟨i+1,by omega,(List.getElem?_eq_some_iff.1 hx).2⟩)
  have q118:RetP Tryd.prog is orc 118 [.lst .ro 1 (zG l),.int .i64 (((i+1:Nat):Int) - 1)] (wB w x):=by
   have:=ret118 (orc:=orc) hi hw hx hl
   rw[show((i+1:Nat):Int) - 1=i by omega];exact this
  rw[show(decide (i+1=0)||decide (zCe w x≤1))=decide (zCe w x≤1) by simp]
  refine kQ (zB rfl (zA (kQ (zC rfl (zAt rfl rfl rfl (zC rfl (o_gD rfl rfl rfl rfl (decide_eq_false (by omega)) (zC rfl ?_))))))))
  refine o_gD rfl rfl rfl rfl (decide_eq_false (by omega)) (zC rfl (o_gD rfl rfl rfl rfl (decide_eq_false (by omega)) ?_))
  refine yn rfl rfl rfl (by unfold I64;omega) (o_gD rfl rfl rfl rfl (decide_eq_false (by omega)) (zP rfl (q118) (.lrefl _) (o_gD rfl rfl rfl rfl (decide_eq_false (by omega)) (zP rfl (ret129 hi hwr hxr) (.lrefl _) ?_))))
  refine o_gD rfl rfl rfl rfl (decide_eq_false (by omega)) (zCh rfl rfl rfl (zN rfl rfl rfl ?_))
  refine zB rfl (zA (zU ?_))
  refine⟨.inr rfl,_,.cons _ _ _ _ (.tmp 4) .nil,?_⟩
  exact .refl _
  done
end
end Go.Proofs.YtfbmlibilcjlgaaDoor.drumBounds
