/- drum's functions, the specification's and the law's, by the logic of trees: what each gives back for all that it may be given. -/
import Derived.Test.YtfbmlibilcjlgaaDoorVamT3
set_option linter.unusedVariables false
set_option linter.unusedSimpArgs false
set_option linter.constructorNameAsVariable false
/-! ### drum: a path's marks and rules -/
namespace Go.Proofs.YtfbmlibilcjlgaaDoor.drumCued
open Vam
variable {is:FuncId→Bool}{orc:Known}
-- 118 (saron/drum.path).mark params [94, 3] pure True
theorem pl135:plcOf Tryd.prog 135=some [(0,1),(1,1)]:=by kernel_rfl
theorem sh135:shOf Tryd.prog 135=.many 2:=by kernel_rfl
theorem ty94:tyOf Tryd.prog 94=.slice 3:=by kernel_rfl
theorem ze135:zeroL Tryd.prog 135=some ((.cons (.int .i64 0) (.cons (.int .i64 0) .nil)):V):=by kernel_rfl
noncomputable def b118:Code:=(Tryd.f118.body).getD .skip
theorem body118:bodyOf Tryd.prog 118=some (15,b118,[.cell 4 135]):=by kernel_rfl
theorem pure118:pureFn Tryd.prog 118=true:=by kernel_rfl
-- 119 (saron/drum.mark).stays params [135] pure True
theorem fld135_0:fieldOf Tryd.prog 135 0=some (0,3):=by kernel_rfl
theorem fld135_1:fieldOf Tryd.prog 135 1=some (1,3):=by kernel_rfl
noncomputable def b119:Code:=(Tryd.f119.body).getD .skip
theorem body119:bodyOf Tryd.prog 119=some (8,b119,[.tmp 2]):=by kernel_rfl
theorem pure119:pureFn Tryd.prog 119=true:=by kernel_rfl
-- 99 saron/drum.most[int] params [3, 22] pure True
noncomputable def b99:Code:=(Tryd.f99.body).getD .skip
theorem body99:bodyOf Tryd.prog 99=some (18,b99,[.tmp 4]):=by kernel_rfl
theorem pure99:pureFn Tryd.prog 99=true:=by kernel_rfl
-- 129 (saron/drum.mark).step params [135] pure True
noncomputable def b129:Code:=(Tryd.f129.body).getD .skip
theorem body129:bodyOf Tryd.prog 129=some (15,b129,[.tmp 2]):=by kernel_rfl
theorem pure129:pureFn Tryd.prog 129=true:=by kernel_rfl
-- 130 (saron/drum.mark).isThere params [135] pure True
noncomputable def b130:Code:=(Tryd.f130.body).getD .skip
theorem body130:bodyOf Tryd.prog 130=some (3,b130,[.tmp 2]):=by kernel_rfl
theorem pure130:pureFn Tryd.prog 130=true:=by kernel_rfl
-- 131 (saron/drum.mark).falls params [135] pure True
noncomputable def b131:Code:=(Tryd.f131.body).getD .skip
theorem body131:bodyOf Tryd.prog 131=some (8,b131,[.tmp 2]):=by kernel_rfl
theorem pure131:pureFn Tryd.prog 131=true:=by kernel_rfl
-- 132 (saron/drum.mark).rises params [135] pure True
noncomputable def b132:Code:=(Tryd.f132.body).getD .skip
theorem body132:bodyOf Tryd.prog 132=some (8,b132,[.tmp 2]):=by kernel_rfl
theorem pure132:pureFn Tryd.prog 132=true:=by kernel_rfl
-- 115 (saron/drum.path).hasDensity params [94, 3] pure True
noncomputable def b115:Code:=(Tryd.f115.body).getD .skip
theorem body115:bodyOf Tryd.prog 115=some (12,b115,[.tmp 4]):=by kernel_rfl
theorem pure115:pureFn Tryd.prog 115=true:=by kernel_rfl
-- 117 (saron/drum.path).isNear params [94, 3] pure True
noncomputable def b117:Code:=(Tryd.f117.body).getD .skip
theorem body117:bodyOf Tryd.prog 117=some (15,b117,[.tmp 4]):=by kernel_rfl
theorem pure117:pureFn Tryd.prog 117=true:=by kernel_rfl
-- 101 (saron/drum.path).place params [94, 3] pure True
theorem pl125:plcOf Tryd.prog 125=some [(0,1),(1,1)]:=by kernel_rfl
theorem sh125:shOf Tryd.prog 125=.many 2:=by kernel_rfl
theorem ze125:zeroL Tryd.prog 125=some ((.cons (.int .i64 0) (.cons (.int .i64 0) .nil)):V):=by kernel_rfl
noncomputable def b101:Code:=(Tryd.f101.body).getD .skip
theorem body101:bodyOf Tryd.prog 101=some (11,b101,[.cell 4 125]):=by kernel_rfl
theorem pure101:pureFn Tryd.prog 101=true:=by kernel_rfl
-- 128 (saron/drum.book).start params [75] pure True
theorem fld75_0:fieldOf Tryd.prog 75 0=some (0,27):=by kernel_rfl
noncomputable def b128:Code:=(Tryd.f128.body).getD .skip
theorem body128:bodyOf Tryd.prog 128=some (7,b128,[.cell 2 125]):=by kernel_rfl
theorem pure128:pureFn Tryd.prog 128=true:=by kernel_rfl
-- 116 (saron/drum.book).startsRight params [75, 94, 3] pure True
theorem sh75:shOf Tryd.prog 75=.many 11:=by kernel_rfl
noncomputable def b116:Code:=(Tryd.f116.body).getD .skip
theorem body116:bodyOf Tryd.prog 116=some (17,b116,[.tmp 6]):=by kernel_rfl
theorem pure116:pureFn Tryd.prog 116=true:=by kernel_rfl
set_option maxHeartbeats 4000000 in
theorem ret118(hi:Off is){l:List Int}{i:Nat}{x y:Int}(hx:l[i]? =some x)(hy:l[i+1]? =some y)(hl:l.length≤4096):RetP Tryd.prog is orc 118 [.lst .ro 1 (intsU l),.int .i64 i] (spanU x y):=by
  refine ret_of body118 pure118 (hi 118 (by decide)) rfl rfl (dat_l2 (dat_ints 6 .ro (fun h=>by cases h) 1 l) (.int _ _ _)) (.inl (dat_span _ _ 6)) ?_
  have h1:=(List.getElem?_eq_some_iff.1 hx).1
  refine k_seq (k_region ?_)
  refine o_alloc rfl ze135 ?_
  refine o_nil ?_
  refine k_gen [(0,U.lst Kd.ro 1 (intsU l)),(1,.int .i64 ↑i),(4,U.box 0 0)] ([SB.box [.int .i64 0,.int .i64 0]]) (.cons rfl (.cons rfl (.cons rfl (.nil rfl)))) rfl fun fr=>?_
  refine k_seq ?_
  refine k_draw [.plain,.plain,.plain,.read true,.plain,.plain,.plain,.plain,.read true,.plain,.plain] (by kernel_rfl) (by kernel_rfl) (by kernel_rfl) ?_
  refine d_plain (o_move rfl (o_nil rfl)) ?_
  refine d_plain (o_move rfl (o_nil rfl)) ?_
  refine d_plain (o_idx (u:=.int .i64 (x)) rfl ty94 rfl rfl (Int.natCast_nonneg _) (by simp[hx]) cl3 (o_nil rfl)) ?_
  refine d_load rfl (o_loadR1 rfl rfl sh3 rfl (o_nil rfl)) ?_
  refine d_plain (o_move rfl (o_nil rfl)) ?_
  refine d_plain (o_move rfl (o_nil rfl)) ?_
  refine d_plain (o_add rfl rfl rfl (by unfold I64;omega) (o_nil rfl)) ?_
  refine d_plain (o_idx (u:=.int .i64 (y)) rfl ty94 rfl rfl (Int.natCast_nonneg _) (by simp[hy]) cl3 (o_nil rfl)) ?_
  refine d_load rfl (o_loadR1 rfl rfl sh3 rfl (o_nil rfl)) ?_
  refine d_plain (o_build rfl ze135 pl135 rfl rfl (o_nil rfl)) ?_
  refine d_plain (o_storeN rfl rfl sh135 rfl rfl rfl rfl rfl (o_nil rfl)) ?_
  refine d_nil ?_
  refine k_ret ?_
  refine⟨.inr rfl,_,.cons _ _ _ _ (.cellN 4 135 _ _ _ _ rfl rfl sh135 rfl) .nil,?_⟩
  exact .refl _
theorem ret119(hi:Off is)(x y:Int):RetP Tryd.prog is orc 119 [spanU x y] (.bool (decide (y=x))):=by
  refine ret_of body119 pure119 (hi 119 (by decide)) rfl rfl (dat_l1 (dat_span x y 6)) (.inl (.bool _ _)) ?_
  refine k_seq (k_region ?_)
  refine o_box rfl rfl ?_
  refine o_assign rfl ?_
  refine o_nil ?_
  refine k_gen [(1,U.box 0 0)] ([SB.box [.int .i64 x,.int .i64 y]]) (.cons rfl (.nil rfl)) rfl fun fr=>?_
  refine k_seq (k_region ?_)
  refine o_faddr rfl rfl fld135_1 ?_
  refine o_load1 rfl rfl rfl sh3 rfl ?_
  refine o_faddr rfl rfl fld135_0 ?_
  refine o_load1 rfl rfl rfl sh3 rfl ?_
  refine o_eql rfl rfl rfl ?_
  refine o_assign rfl ?_
  refine o_nil ?_
  refine k_ret ?_
  refine⟨.inr rfl,_,.cons _ _ _ _ (.tmp 2) .nil,?_⟩
  exact .refl _
theorem ret130(hi:Off is)(x y:Int):RetP Tryd.prog is orc 130 [spanU x y] (.bool true):=by
  refine ret_of body130 pure130 (hi 130 (by decide)) rfl rfl (dat_l1 (dat_span x y 6)) (.inl (.bool _ _)) ?_
  refine k_seq (k_region ?_)
  refine o_box rfl rfl ?_
  refine o_assign rfl ?_
  refine o_nil ?_
  refine k_gen [] ([SB.box [.int .i64 x,.int .i64 y]]) (.nil rfl) rfl fun fr=>?_
  refine k_seq (k_region ?_)
  refine o_assign rfl ?_
  refine o_nil ?_
  refine k_ret ?_
  refine⟨.inr rfl,_,.cons _ _ _ _ (.tmp 2) .nil,?_⟩
  exact .refl _
theorem ret131(hi:Off is)(x y:Int):RetP Tryd.prog is orc 131 [spanU x y] (.bool (decide (y<x))):=by
  refine ret_of body131 pure131 (hi 131 (by decide)) rfl rfl (dat_l1 (dat_span x y 6)) (.inl (.bool _ _)) ?_
  refine k_seq (k_region ?_)
  refine o_box rfl rfl ?_
  refine o_assign rfl ?_
  refine o_nil ?_
  refine k_gen [(1,U.box 0 0)] ([SB.box [.int .i64 x,.int .i64 y]]) (.cons rfl (.nil rfl)) rfl fun fr=>?_
  refine k_seq (k_region ?_)
  refine o_faddr rfl rfl fld135_1 ?_
  refine o_load1 rfl rfl rfl sh3 rfl ?_
  refine o_faddr rfl rfl fld135_0 ?_
  refine o_load1 rfl rfl rfl sh3 rfl ?_
  refine o_lss rfl rfl rfl ?_
  refine o_assign rfl ?_
  refine o_nil ?_
  refine k_ret ?_
  refine⟨.inr rfl,_,.cons _ _ _ _ (.tmp 2) .nil,?_⟩
  exact .refl _
theorem ret132(hi:Off is)(x y:Int):RetP Tryd.prog is orc 132 [spanU x y] (.bool (decide (x<y))):=by
  refine ret_of body132 pure132 (hi 132 (by decide)) rfl rfl (dat_l1 (dat_span x y 6)) (.inl (.bool _ _)) ?_
  refine k_seq (k_region ?_)
  refine o_box rfl rfl ?_
  refine o_assign rfl ?_
  refine o_nil ?_
  refine k_gen [(1,U.box 0 0)] ([SB.box [.int .i64 x,.int .i64 y]]) (.cons rfl (.nil rfl)) rfl fun fr=>?_
  refine k_seq (k_region ?_)
  refine o_faddr rfl rfl fld135_1 ?_
  refine o_load1 rfl rfl rfl sh3 rfl ?_
  refine o_faddr rfl rfl fld135_0 ?_
  refine o_load1 rfl rfl rfl sh3 rfl ?_
  refine o_gtr rfl rfl rfl ?_
  refine o_assign rfl ?_
  refine o_nil ?_
  refine k_ret ?_
  refine⟨.inr rfl,_,.cons _ _ _ _ (.tmp 2) .nil,?_⟩
  exact .refl _
set_option maxHeartbeats 4000000 in
theorem ret99(hi:Off is)(x y:Int):RetP Tryd.prog is orc 99 [.int .i64 x,.lst .ro 1 (intsU [y])] (.int .i64 (max x y)):=by
  refine ret_of body99 pure99 (hi 99 (by decide)) rfl rfl (dat_l2 (.int _ _ _) (dat_ints 6 .ro (fun h=>by cases h) 1 [y])) (.inl (.int _ _ _)) ?_
  refine k_seq (k_region ?_)
  refine o_assign rfl ?_
  refine o_nil ?_
  refine k_seq ?_
  refine k_seq (k_region ?_)
  refine o_move rfl ?_
  refine o_len rfl ty22 rfl (List.length_map _) ?_
  refine o_move rfl ?_
  refine o_nil ?_
  refine k_block ?_
  refine k_loop (fun kk s2=>s2.st=[]∧((kk=1∧Holds s2 [(0,.int .i64 x),(7,.lst .ro 1 (intsU [y])),(8,.int .i64 1),(9,.int .i64 0)])∨(kk=0∧Holds s2 [(0,.int .i64 (max x y)),(7,.lst .ro 1 (intsU [y])),(8,.int .i64 1),(9,.int .i64 1)]))) (fun kk s2 hI=>?_) 1 _ ⟨rfl,.inl ⟨rfl,.cons rfl (.cons rfl (.cons rfl (.cons rfl (.nil rfl))))⟩⟩
  obtain⟨hst2,⟨hk,hs2⟩|⟨hk,hs2⟩⟩:=hI
  · refine k_gen _ _ hs2 hst2 fun fr2=>?_
    refine k_seq (k_region ?_)
    refine o_lss rfl rfl rfl ?_
    refine o_nil ?_
    refine k_seq ?_
    refine k_cT rfl rfl ?_
    refine k_skip ?_
    refine k_seq ?_
    refine k_block ?_
    refine k_seq (k_region ?_)
    refine o_idx rfl ty22 rfl rfl (by decide) rfl cl3 ?_
    refine o_loadR1 rfl rfl sh3 rfl ?_
    refine o_assign rfl ?_
    refine o_nil ?_
    refine k_region ?_
    refine o_move rfl ?_
    refine o_move rfl ?_
    refine o_max rfl rfl rfl ?_
    refine o_assign rfl ?_
    refine o_nil ?_
    refine k_region ?_
    refine o_add rfl rfl rfl (by unfold I64;omega) ?_
    refine o_move rfl ?_
    refine o_nil ?_
    exact⟨0,by omega,rfl,.inr ⟨rfl,.cons rfl (.cons rfl (.cons rfl (.cons rfl (.nil rfl))))⟩⟩
  · refine k_gen _ _ hs2 hst2 fun fr2=>?_
    refine k_seq (k_region ?_)
    refine o_lss rfl rfl rfl ?_
    refine o_nil ?_
    refine k_seq ?_
    refine k_cF rfl rfl ?_
    refine k_exit ?_
    refine k_seq (k_region ?_)
    refine o_move rfl ?_
    refine o_assign rfl ?_
    refine o_nil ?_
    refine k_ret ?_
    refine⟨.inr rfl,_,.cons _ _ _ _ (.tmp 4) .nil,?_⟩
    exact .refl _
def stepI(x y:Int):Int:=max (y - x) (x - y)
theorem ret129(hi:Off is){x y:Int}(hx:0≤x∧x≤3)(hy:0≤y∧y≤3):RetP Tryd.prog is orc 129 [spanU x y] (.int .i64 (stepI x y)):=by
  refine ret_of body129 pure129 (hi 129 (by decide)) rfl rfl (dat_l1 (dat_span x y 6)) (.inl (.int _ _ _)) ?_
  refine k_seq (k_region ?_)
  refine o_box rfl rfl ?_
  refine o_assign rfl ?_
  refine o_nil ?_
  refine k_gen [(1,U.box 0 0)] ([SB.box [.int .i64 x,.int .i64 y]]) (.cons rfl (.nil rfl)) rfl fun fr=>?_
  refine k_seq (k_region ?_)
  refine o_faddr rfl rfl fld135_1 ?_
  refine o_load1 rfl rfl rfl sh3 rfl ?_
  refine o_faddr rfl rfl fld135_0 ?_
  refine o_load1 rfl rfl rfl sh3 rfl ?_
  refine o_sub rfl rfl rfl (by unfold I64;omega) ?_
  refine o_faddr rfl rfl fld135_0 ?_
  refine o_load1 rfl rfl rfl sh3 rfl ?_
  refine o_faddr rfl rfl fld135_1 ?_
  refine o_load1 rfl rfl rfl sh3 rfl ?_
  refine o_genA [(7,.int .i64 (y - x)),(9,.int .i64 x),(11,.int .i64 y)] [] ([SB.box [.int .i64 x,.int .i64 y]]) (.cons rfl (.cons rfl (.cons rfl (.nil rfl)))) rfl rfl fun fr=>?_
  refine o_sub rfl rfl rfl (by unfold I64;omega) ?_
  refine o_lit (es:=[.int .i64 (x - y)]) rfl ty22 ze3 cl3 rfl rfl rfl rfl rfl rfl rfl rfl ?_
  refine o_call rfl (ret99 hi (y - x) (x - y)) (.lcons _ _ _ _ (.refl _) (.lcons _ _ _ _ (.ro _ _ _) (.lrefl _))) ?_
  refine o_assign rfl ?_
  refine o_nil ?_
  refine k_ret ?_
  refine⟨.inr rfl,_,.cons _ _ _ _ (.tmp 2) .nil,?_⟩
  exact .refl _
theorem ret115(hi:Off is){l:List Int}{i:Nat}{x:Int}(hx:l[i]? =some x)(hl:l.length≤4096):RetP Tryd.prog is orc 115 [.lst .ro 1 (intsU l),.int .i64 i] (.bool (inS 0 3 x)):=by
  refine ret_of body115 pure115 (hi 115 (by decide)) rfl rfl (dat_l2 (dat_ints 6 .ro (fun h=>by cases h) 1 l) (.int _ _ _)) (.inl (.bool _ _)) ?_
  have q90:=ret90 (orc:=orc) hi 0 3 x
  refine k_seq (k_region ?_)
  refine o_assign rfl ?_
  refine o_nil ?_
  refine k_seq ?_
  refine k_draw [.plain,.read true,.plain,.plain,.plain,.read true,.plain,.plain] (by kernel_rfl) (by kernel_rfl) (by kernel_rfl) ?_
  refine d_gpair (i:=3) (c:=2) (n:=10) sh24 rfl rfl ty112 cl24 rfl rfl rfl (gatB 3 (by decide)) rfl ?_
  refine d_plain (o_move rfl (o_nil rfl)) ?_
  refine d_plain (o_move rfl (o_nil rfl)) ?_
  refine d_plain (o_idx (u:=.int .i64 (x)) rfl ty94 rfl rfl (Int.natCast_nonneg _) (by simp[hx]) cl3 (o_nil rfl)) ?_
  refine d_load rfl (o_loadR1 rfl rfl sh3 rfl (o_nil rfl)) ?_
  refine d_plain (o_call rfl (q90) (.lrefl _) (o_nil rfl)) ?_
  refine d_plain (o_assign rfl (o_nil rfl)) ?_
  refine d_nil ?_
  refine k_ret ?_
  refine⟨.inr rfl,_,.cons _ _ _ _ (.tmp 4) .nil,?_⟩
  exact .refl _
theorem ret101(hi:Off is){l:List Int}{i:Nat}{x:Int}(hx:l[i]? =some x)(hl:l.length≤4096):RetP Tryd.prog is orc 101 [.lst .ro 1 (intsU l),.int .i64 i] (spanU i x):=by
  refine ret_of body101 pure101 (hi 101 (by decide)) rfl rfl (dat_l2 (dat_ints 6 .ro (fun h=>by cases h) 1 l) (.int _ _ _)) (.inl (dat_span _ _ 6)) ?_
  refine k_seq (k_region ?_)
  refine o_alloc rfl ze125 ?_
  refine o_nil ?_
  refine k_gen [(0,U.lst Kd.ro 1 (intsU l)),(1,.int .i64 ↑i),(4,U.box 0 0)] ([SB.box [.int .i64 0,.int .i64 0]]) (.cons rfl (.cons rfl (.cons rfl (.nil rfl)))) rfl fun fr=>?_
  refine k_seq (k_region ?_)
  refine o_move rfl ?_
  refine o_move rfl ?_
  refine o_move rfl ?_
  refine o_idx (u:=.int .i64 (x)) rfl ty94 rfl rfl (Int.natCast_nonneg _) (by simp[hx]) cl3 ?_
  refine o_loadR1 rfl rfl sh3 rfl ?_
  refine o_build rfl ze125 pl125 rfl rfl ?_
  refine o_storeN rfl rfl sh125 rfl rfl rfl rfl rfl ?_
  refine o_nil ?_
  refine k_ret ?_
  refine⟨.inr rfl,_,.cons _ _ _ _ (.cellN 4 125 _ _ _ _ rfl rfl sh125 rfl) .nil,?_⟩
  exact .refl _
def Bk.c(b:Bk):U:=.agg (cellsU b.u)
set_option maxHeartbeats 4000000 in
theorem ret117(hi:Off is){l:List Int}{i:Nat}{x:Int}(hx:l[i]? =some x)(hr:∀y∈l.take (i+1),0≤y∧y≤3)(hl:l.length≤4096):RetP Tryd.prog is orc 117 [.lst .ro 1 (intsU l),.int .i64 i] (.bool (decide (i=0)||decide (stepI ((l[i - 1]?).getD 0) x≤1))):=by
  refine ret_of body117 pure117 (hi 117 (by decide)) rfl rfl (dat_l2 (dat_ints 6 .ro (fun h=>by cases h) 1 l) (.int _ _ _)) (.inl (.bool _ _)) ?_
  have h1:=(List.getElem?_eq_some_iff.1 hx).1
  cases i with
  |zero=>
    refine k_seq (k_region ?_)
    refine o_assign rfl ?_
    refine o_nil ?_
    refine k_seq (k_region ?_)
    refine o_move rfl ?_
    refine o_eql rfl rfl rfl ?_
    refine o_move rfl ?_
    refine o_gS rfl rfl rfl rfl rfl ?_
    refine o_gS rfl rfl rfl rfl rfl ?_
    refine o_gS rfl rfl rfl rfl rfl ?_
    refine o_gS rfl rfl rfl rfl rfl ?_
    refine o_gS rfl rfl rfl rfl rfl ?_
    refine o_gS rfl rfl rfl rfl rfl ?_
    refine o_pickT rfl rfl rfl ?_
    refine o_assign rfl ?_
    refine o_nil ?_
    refine k_ret ?_
    refine⟨.inr rfl,_,.cons _ _ _ _ (.tmp 4) .nil,?_⟩
    exact .refl _
    done
  |succ i=>
    obtain⟨w,hw⟩:∃w,l[i]? =some w:=⟨l[i],List.getElem?_eq_getElem (by omega)⟩
    have e:((l[i+1 - 1]?).getD 0)=w:=by rw[Nat.add_sub_cancel,hw];rfl
    rw[e]
    have hwr:=hr w (by rw[List.mem_take_iff_getElem];exact⟨i,by omega,(List.getElem?_eq_some_iff.1 hw).2⟩)
    have hxr:=hr x (by rw[List.mem_take_iff_getElem];exact⟨i+1,by omega,(List.getElem?_eq_some_iff.1 hx).2⟩)
    have q118:RetP Tryd.prog is orc 118 [.lst .ro 1 (intsU l),.int .i64 (((i+1:Nat):Int) - 1)] (spanU w x):=by
      have:=ret118 (orc:=orc) hi hw hx hl
      rw[show((i+1:Nat):Int) - 1=i by omega];exact this
    rw[show(decide (i+1=0)||decide (stepI w x≤1))=decide (stepI w x≤1) by simp]
    refine k_seq (k_region ?_)
    refine o_assign rfl ?_
    refine o_nil ?_
    refine k_seq (k_region ?_)
    refine o_move rfl ?_
    refine o_eql rfl rfl rfl ?_
    refine o_move rfl ?_
    refine o_gD rfl rfl rfl rfl (decide_eq_false (by omega)) ?_
    refine o_move rfl ?_
    refine o_gD rfl rfl rfl rfl (decide_eq_false (by omega)) ?_
    refine o_move rfl ?_
    refine o_gD rfl rfl rfl rfl (decide_eq_false (by omega)) ?_
    refine o_sub rfl rfl rfl (by unfold I64;omega) ?_
    refine o_gD rfl rfl rfl rfl (decide_eq_false (by omega)) ?_
    refine o_call rfl (q118) (.lrefl _) ?_
    refine o_gD rfl rfl rfl rfl (decide_eq_false (by omega)) ?_
    refine o_call rfl (ret129 hi hwr hxr) (.lrefl _) ?_
    refine o_gD rfl rfl rfl rfl (decide_eq_false (by omega)) ?_
    refine o_leq rfl rfl rfl ?_
    refine o_pickF rfl rfl rfl ?_
    refine o_assign rfl ?_
    refine o_nil ?_
    refine k_ret ?_
    refine⟨.inr rfl,_,.cons _ _ _ _ (.tmp 4) .nil,?_⟩
    exact .refl _
    done
end Go.Proofs.YtfbmlibilcjlgaaDoor.drumCued

/-! ### drum: isPath, ask, askPath -/
namespace Go.Proofs.YtfbmlibilcjlgaaDoor.drumCued
open Vam
variable {is:FuncId→Bool}{orc:Known}
-- 94 (saron/drum.book).rules params [75] pure False
theorem pl118:plcOf Tryd.prog 118=some [(0,1),(1,1),(2,1)]:=by kernel_rfl
theorem sh118:shOf Tryd.prog 118=.many 3:=by kernel_rfl
theorem ze118:zeroL Tryd.prog 118=some ((.cons .nilf (.cons .nilf (.cons .nilf .nil))):V):=by kernel_rfl
noncomputable def b94:Code:=(Tryd.f94.body).getD .skip
theorem body94:bodyOf Tryd.prog 94=some (6,b94,[.cell 2 118]):=by kernel_rfl
theorem pure94:pureFn Tryd.prog 94=false:=by kernel_rfl
-- 62 (saron/drum.book).isPath params [75, 94] pure True
theorem cl117:Program.cellsOf Tryd.prog 117=1:=by kernel_rfl
theorem sh117:shOf Tryd.prog 117=.one:=by kernel_rfl
theorem ty118:tyOf Tryd.prog 118=.array 3 117:=by kernel_rfl
noncomputable def b62:Code:=(Tryd.f62.body).getD .skip
theorem body62:bodyOf Tryd.prog 62=some (33,b62,[.tmp 4]):=by kernel_rfl
theorem pure62:pureFn Tryd.prog 62=true:=by kernel_rfl
-- 89 saron/drum.askPath$1 params [75] pure False
noncomputable def b89:Code:=(Tryd.f89.body).getD .skip
theorem body89:bodyOf Tryd.prog 89=some (7,b89,[.tmp 3]):=by kernel_rfl
theorem pure89:pureFn Tryd.prog 89=false:=by kernel_rfl
-- 60 saron/drum.ask params [27, 116] pure False
theorem cl83:Program.cellsOf Tryd.prog 83=1:=by kernel_rfl
theorem pl75:plcOf Tryd.prog 75=some [(0,11)]:=by kernel_rfl
theorem sh83:shOf Tryd.prog 83=.one:=by kernel_rfl
theorem ty116:tyOf Tryd.prog 116=.slice 83:=by kernel_rfl
theorem ze75:zeroL Tryd.prog 75=some ((.cons (.int .i64 0) (.cons (.int .i64 0) (.cons .nils (.cons (.int .i64 0) (.cons (.int .i64 0) (.cons (.int .i64 0) (.cons (.int .i64 0) (.cons (.int .i64 0) (.cons (.int .i64 0) (.cons (.int .i64 0) (.cons .nils .nil))))))))))):V):=by kernel_rfl
noncomputable def b60:Code:=(Tryd.f60.body).getD .skip
theorem body60:bodyOf Tryd.prog 60=some (31,b60,[.cell 4 75,.tmp 5]):=by kernel_rfl
theorem pure60:pureFn Tryd.prog 60=false:=by kernel_rfl
-- 54 saron/drum.askPath params [27, 22] pure True
theorem ze83:zeroL Tryd.prog 83=some ((.cons .nilf .nil):V):=by kernel_rfl
noncomputable def b54:Code:=(Tryd.f54.body).getD .skip
theorem body54:bodyOf Tryd.prog 54=some (12,b54,[.cell 4 75,.tmp 5]):=by kernel_rfl
theorem pure54:pureFn Tryd.prog 54=true:=by kernel_rfl
theorem ret128(hi:Off is)(b:Bk):RetP Tryd.prog is orc 128 [b.u] (spanU 0 b.start):=by
  refine ret_of body128 pure128 (hi 128 (by decide)) rfl rfl (dat_l1 (dat_bk b 4)) (.inl (dat_span _ _ 6)) ?_
  refine k_seq (k_region ?_)
  refine o_box rfl rfl ?_
  refine o_alloc rfl ze125 ?_
  refine o_nil ?_
  refine k_gen [(1,U.box 0 0),(2,U.box 1 0)] ([SB.box [.int .i64 (Bk.parts b),.int .i64 (Bk.size b),U.lst Kd.ro 1 (intsU (Bk.beats b)),.int .i64 (Bk.start b),.int .i64 (Bk.fin b),.int .i64 (Bk.tlo b),.int .i64 (Bk.thi b),.int .i64 (Bk.slo b),.int .i64 (Bk.shi b),.int .i64 (Bk.notice b),U.lst Kd.ro 3 (plsU (Bk.players b))],SB.box [.int .i64 0,.int .i64 0]]) (.cons rfl (.cons rfl (.nil rfl))) rfl fun fr=>?_
  refine k_seq (k_region ?_)
  refine o_faddr rfl rfl fld75_0 ?_
  refine o_faddr rfl rfl fld27_3 ?_
  refine o_load1 rfl rfl rfl sh3 rfl ?_
  refine o_build rfl ze125 pl125 rfl rfl ?_
  refine o_storeN rfl rfl sh125 rfl rfl rfl rfl rfl ?_
  refine o_nil ?_
  refine k_ret ?_
  refine⟨.inr rfl,_,.cons _ _ _ _ (.cellN 2 125 _ _ _ _ rfl rfl sh125 rfl) .nil,?_⟩
  exact .refl _
theorem plc_same(a b:Int):binV Tryd.prog 125 .eql (valK (spanU a b)) (valK (spanU a b))=some (.bool true):=by
  have h:binV Tryd.prog 125 .eql (valK (spanU a b)) (valK (spanU a b))=opt none (fun x=>some (V.bool x)) (Vam.cond (ieq a a) (Vam.cond (ieq b b) (some true) (some false)) (some false)):=by kernel_rfl
  rw[h,ieq_eq,ieq_eq,show(a==a)=true by simp,show(b==b)=true by simp];rfl
set_option maxHeartbeats 4000000 in
theorem ret116(hi:Off is){b:Bk}{l:List Int}{i:Nat}{x:Int}(hx:l[i]? =some x)(hl:l.length≤4096)(h0:i=0→x=b.start):RetP Tryd.prog is orc 116 [b.u,.lst .ro 1 (intsU l),.int .i64 i] (.bool true):=by
  refine ret_of body116 pure116 (hi 116 (by decide)) rfl rfl (fun u hu=>by
    simp only[List.mem_cons,List.not_mem_nil,or_false]at hu
    rcases hu with rfl|rfl|rfl
    · exact dat_bk b 4
    · exact dat_ints 6 .ro (fun h=>by cases h) 1 l
    · exact .int _ _ _) (.inl (.bool _ _)) ?_
  have h1:=(List.getElem?_eq_some_iff.1 hx).1
  by_cases hz:i=0
  · have hx0:=h0 hz
    subst hz
    subst hx0
    have q101:RetP Tryd.prog is orc 101 [.lst .ro 1 (intsU l),.int .i64 0] (spanU 0 b.start):=ret101 (orc:=orc) hi hx hl
    refine k_seq (k_region ?_)
    refine o_box rfl rfl ?_
    refine o_assign rfl ?_
    refine o_nil ?_
    refine k_gen [(1,U.lst Kd.ro 1 (intsU l)),(2,.int .i64 ↑0),(3,U.box 0 0)] ([SB.box [.int .i64 (Bk.parts b),.int .i64 (Bk.size b),U.lst Kd.ro 1 (intsU (Bk.beats b)),.int .i64 (Bk.start b),.int .i64 (Bk.fin b),.int .i64 (Bk.tlo b),.int .i64 (Bk.thi b),.int .i64 (Bk.slo b),.int .i64 (Bk.shi b),.int .i64 (Bk.notice b),U.lst Kd.ro 3 (plsU (Bk.players b))]]) (.cons rfl (.cons rfl (.cons rfl (.nil rfl)))) rfl fun fr=>?_
    refine k_seq ?_
    refine k_draw [.plain,.plain,.plain,.plain,.plain,.read false,.read true,.plain,.plain,.plain,.plain] (by kernel_rfl) (by kernel_rfl) (by kernel_rfl) ?_
    refine d_plain (o_move rfl (o_nil rfl)) ?_
    refine d_plain (o_gtr rfl rfl rfl (o_nil rfl)) ?_
    refine d_plain (o_move rfl (o_nil rfl)) ?_
    refine d_gD rfl rfl rfl rfl rfl ?_
    refine d_plain (o_move rfl (o_nil rfl)) ?_
    refine d_gD rfl rfl rfl rfl rfl ?_
    refine d_plain (o_move rfl (o_nil rfl)) ?_
    refine d_gD rfl rfl rfl rfl rfl ?_
    refine d_callR rfl (q101) (flat_span _ _) (.lrefl _) ?_
    refine d_gD rfl rfl rfl rfl rfl ?_
    refine d_load rfl (o_loadN rfl rfl rfl sh75 rfl (o_nil rfl)) ?_
    refine d_gD rfl rfl rfl rfl rfl ?_
    refine d_plain (o_call rfl (ret128 hi b) (.lrefl _) (o_nil rfl)) ?_
    refine d_gD rfl rfl rfl rfl rfl ?_
    refine d_plain (o_binK rfl rfl rfl rfl rfl (plc_same 0 _) (o_nil rfl)) ?_
    refine d_plain (o_pickF rfl rfl rfl (o_nil rfl)) ?_
    refine d_plain (o_assign rfl (o_nil rfl)) ?_
    refine d_nil ?_
    refine k_ret ?_
    refine⟨.inr rfl,_,.cons _ _ _ _ (.tmp 6) .nil,?_⟩
    exact .refl _
  · refine k_seq (k_region ?_)
    refine o_box rfl rfl ?_
    refine o_assign rfl ?_
    refine o_nil ?_
    refine k_gen [(1,U.lst Kd.ro 1 (intsU l)),(2,.int .i64 ↑i),(3,U.box 0 0)] ([SB.box [.int .i64 (Bk.parts b),.int .i64 (Bk.size b),U.lst Kd.ro 1 (intsU (Bk.beats b)),.int .i64 (Bk.start b),.int .i64 (Bk.fin b),.int .i64 (Bk.tlo b),.int .i64 (Bk.thi b),.int .i64 (Bk.slo b),.int .i64 (Bk.shi b),.int .i64 (Bk.notice b),U.lst Kd.ro 3 (plsU (Bk.players b))]]) (.cons rfl (.cons rfl (.cons rfl (.nil rfl)))) rfl fun fr=>?_
    refine k_seq ?_
    refine k_draw [.plain,.plain,.plain,.plain,.plain,.read false,.read true,.plain,.plain,.plain,.plain] (by kernel_rfl) (by kernel_rfl) (by kernel_rfl) ?_
    refine d_plain (o_move rfl (o_nil rfl)) ?_
    refine d_plain (o_gtr rfl rfl rfl (o_nil rfl)) ?_
    refine d_plain (o_move rfl (o_nil rfl)) ?_
    refine d_gS rfl rfl rfl rfl (decide_eq_true (by omega)) ?_
    refine d_gS rfl rfl rfl rfl (decide_eq_true (by omega)) ?_
    refine d_gS rfl rfl rfl rfl (decide_eq_true (by omega)) ?_
    refine d_gS rfl rfl rfl rfl (decide_eq_true (by omega)) ?_
    refine d_gS rfl rfl rfl rfl (decide_eq_true (by omega)) ?_
    refine d_gS rfl rfl rfl rfl (decide_eq_true (by omega)) ?_
    refine d_plain (o_pickT rfl rfl (decide_eq_true (by omega)) (o_nil rfl)) ?_
    refine d_plain (o_assign rfl (o_nil rfl)) ?_
    refine d_nil ?_
    refine k_ret ?_
    refine⟨.inr rfl,_,.cons _ _ _ _ (.tmp 6) .nil,?_⟩
    exact .refl _
    done
def rulesU(b:Bk):U:=.agg [.fn 115 [] [],.fn 116 [b.u] [],.fn 117 [] []]
theorem ret94(hi:Off is)(b:Bk):RetP Tryd.prog is orc 94 [b.u] (rulesU b):=by
  refine ret_of_shared body94 pure94 rfl rfl (fun u hu=>?_) ?_ ?_
  · have hd:=dat_l1 (dat_bk b 4) u hu
    exact⟨hd.nb,NoOwn.of fun z es h=>by
      simp only[List.mem_cons,List.not_mem_nil,or_false]at hu
      rw[hu]at h;cases h⟩
  · refine NB.agg fun c hc=>?_
    simp only[List.mem_cons,List.not_mem_nil,or_false]at hc
    rcases hc with rfl|rfl|rfl
    · exact NB.fn (fun u hu=>by cases hu) (fun u hu=>by cases hu)
    · exact NB.fn (fun u hu=>(dat_l1 (dat_bk b 4) u hu).nb) (fun u hu=>by cases hu)
    · exact NB.fn (fun u hu=>by cases hu) (fun u hu=>by cases hu)
  refine k_seq (k_region ?_)
  refine o_box rfl rfl ?_
  refine o_alloc rfl ze118 ?_
  refine o_nil ?_
  refine k_gen [(1,U.box 0 0),(2,U.box 1 0)] ([SB.box [.int .i64 (Bk.parts b),.int .i64 (Bk.size b),U.lst Kd.ro 1 (intsU (Bk.beats b)),.int .i64 (Bk.start b),.int .i64 (Bk.fin b),.int .i64 (Bk.tlo b),.int .i64 (Bk.thi b),.int .i64 (Bk.slo b),.int .i64 (Bk.shi b),.int .i64 (Bk.notice b),U.lst Kd.ro 3 (plsU (Bk.players b))],SB.box [U.nilf,U.nilf,U.nilf]]) (.cons rfl (.cons rfl (.nil rfl))) rfl fun fr=>?_
  refine k_seq (k_region ?_)
  refine o_loadN rfl rfl rfl sh75 rfl ?_
  refine o_func rfl ?_
  refine o_build rfl ze118 pl118 rfl rfl ?_
  refine o_storeN rfl rfl sh118 rfl rfl rfl rfl rfl ?_
  refine o_nil ?_
  refine k_ret ?_
  refine⟨.inr rfl,_,.cons _ _ _ _ (.cellN 2 118 _ _ _ _ rfl rfl sh118 rfl) .nil,?_⟩
  exact .refl _
structure POk(b:Bk)(l:List Int):Prop where
  len:(l.length:Int)=b.parts
  rg:∀x∈l,0≤x∧x≤3
  st:l[0]? =some b.start
  nr:∀i x y,l[i]? =some x→l[i+1]? =some y→x - 1≤y∧y≤x+1
set_option maxHeartbeats 8000000 in
theorem ret62(hi:Off is){b:Bk}{l:List Int}(hb:BOk b)(h:POk b l):RetP Tryd.prog is orc 62 [b.u,.lst .ro 1 (intsU l)] (.bool true):=by
  refine ret_of body62 pure62 (hi 62 (by decide)) rfl rfl (dat_l2 (dat_bk b 4) (dat_ints 6 .ro (fun h=>by cases h) 1 l)) (.inl (.bool _ _)) ?_
  have hp:=hb.pa
  have hlen:=h.len
  have q94:=ret94 (orc:=orc) hi b
  refine k_seq (k_region ?_)
  refine o_box rfl rfl ?_
  refine o_assign rfl ?_
  refine o_nil ?_
  refine k_gen [(1,U.lst Kd.ro 1 (intsU l)),(2,U.box 0 0)] ([SB.box [.int .i64 (Bk.parts b),.int .i64 (Bk.size b),U.lst Kd.ro 1 (intsU (Bk.beats b)),.int .i64 (Bk.start b),.int .i64 (Bk.fin b),.int .i64 (Bk.tlo b),.int .i64 (Bk.thi b),.int .i64 (Bk.slo b),.int .i64 (Bk.shi b),.int .i64 (Bk.notice b),U.lst Kd.ro 3 (plsU (Bk.players b))]]) (.cons rfl (.cons rfl (.nil rfl))) rfl fun fr=>?_
  refine k_seq ?_
  refine k_seq (k_region ?_)
  refine o_move rfl ?_
  refine o_len rfl ty94 rfl (List.length_map _) ?_
  refine o_faddr rfl rfl fld75_0 ?_
  refine o_faddr rfl rfl fld27_0 ?_
  refine o_load1 rfl rfl rfl sh3 rfl ?_
  refine o_neq rfl rfl rfl ?_
  refine o_nil ?_
  refine k_cF rfl (decide_eq_false (by omega)) ?_
  refine k_skip ?_
  refine k_seq (k_region ?_)
  refine o_loadN rfl rfl rfl sh75 rfl ?_
  refine o_call rfl (q94) (.lrefl _) ?_
  refine o_alloc rfl ze118 ?_
  refine o_storeN rfl rfl sh118 rfl rfl rfl rfl rfl ?_
  refine o_nil ?_
  refine k_gen [(1,U.lst Kd.ro 1 (intsU l)),(5,U.box 1 0)] ([SB.box [.int .i64 (Bk.parts b),.int .i64 (Bk.size b),U.lst Kd.ro 1 (intsU (Bk.beats b)),.int .i64 (Bk.start b),.int .i64 (Bk.fin b),.int .i64 (Bk.tlo b),.int .i64 (Bk.thi b),.int .i64 (Bk.slo b),.int .i64 (Bk.shi b),.int .i64 (Bk.notice b),U.lst Kd.ro 3 (plsU (Bk.players b))],SB.box [U.fn 115 [] [],U.fn 116 [Bk.u b] [],U.fn 117 [] []]]) (.cons rfl (.cons rfl (.nil rfl))) rfl fun fr=>?_
  refine k_seq ?_
  refine k_seq (k_region ?_)
  refine o_move rfl ?_
  refine o_len rfl ty94 rfl (List.length_map _) ?_
  refine o_move rfl ?_
  refine o_nil ?_
  refine k_block ?_
  refine k_loop (fun kk s2=>∃i:Nat,kk+i=l.length∧s2.st=[SB.box [.int .i64 b.parts,.int .i64 b.size,.lst .ro 1 (intsU b.beats),.int .i64 b.start,.int .i64 b.fin,.int .i64 b.tlo,.int .i64 b.thi,.int .i64 b.slo,.int .i64 b.shi,.int .i64 b.notice,.lst .ro 3 (plsU b.players)],SB.box [U.fn 115 [] [],U.fn 116 [b.u] [],U.fn 117 [] []]]∧Holds s2 [(1,.lst .ro 1 (intsU l)),(5,.box 1 0),(18,.int .i64 l.length),(19,.int .i64 i),(17,.lst .ro 1 (intsU l))]) (fun kk s2 hI=>?_) l.length _ ⟨0,rfl,rfl,.cons rfl (.cons rfl (.cons rfl (.cons rfl (.cons rfl (.nil rfl)))))⟩
  obtain⟨i,hk,hst2,hs2⟩:=hI
  refine k_gen _ _ hs2 hst2 fun fr2=>?_
  by_cases hin:i<l.length
  · obtain⟨x,hx⟩:∃x,l[i]? =some x:=⟨l[i],List.getElem?_eq_getElem hin⟩
    have hxr:=h.rg x (List.mem_of_getElem? hx)
    have q115:RetP Tryd.prog is orc 115 [.lst .ro 1 (intsU l),.int .i64 i] (.bool true):=by
      have:=ret115 (orc:=orc) hi hx (by omega)
      rw[inS_iff.2 hxr]at this;exact this
    have q116:RetP Tryd.prog is orc 116 [b.u,.lst .ro 1 (intsU l),.int .i64 i] (.bool true):=ret116 hi hx (by omega) fun hz=>by
      have h0:=h.st
      rw[←hz,hx]at h0;cases h0;rfl
    have q117:RetP Tryd.prog is orc 117 [.lst .ro 1 (intsU l),.int .i64 i] (.bool true):=by
      have:=ret117 (orc:=orc) hi hx (fun y hy=>h.rg y (List.mem_of_mem_take hy)) (by omega)
      have e:(decide (i=0)||decide (stepI ((l[i - 1]?).getD 0) x≤1))=true:=by
        cases i with
        |zero=>rfl
        |succ i=>
          obtain⟨w,hw⟩:∃w,l[i]? =some w:=⟨l[i],List.getElem?_eq_getElem (by omega)⟩
          have:=h.nr i w x hw hx
          rw[Nat.add_sub_cancel,hw]
          unfold stepI
          simp only[Bool.or_eq_true,decide_eq_true_eq,Option.getD_some]
          omega
      rw[e]at this;exact this
    refine k_seq (k_region ?_)
    refine o_lss rfl rfl rfl ?_
    refine o_nil ?_
    refine k_seq ?_
    refine k_cT rfl (decide_eq_true (by omega)) ?_
    refine k_skip ?_
    refine k_seq ?_
    refine k_block ?_
    refine k_seq (k_region ?_)
    refine o_move rfl ?_
    refine o_assign rfl ?_
    refine o_nil ?_
    refine k_seq (k_region ?_)
    refine o_loadN rfl rfl rfl sh118 rfl ?_
    refine o_move rfl ?_
    refine o_nil ?_
    refine k_block ?_
    refine k_loop (fun mm s2=>∃j:Nat,mm+j=3∧s2.st=[SB.box [.int .i64 b.parts,.int .i64 b.size,.lst .ro 1 (intsU b.beats),.int .i64 b.start,.int .i64 b.fin,.int .i64 b.tlo,.int .i64 b.thi,.int .i64 b.slo,.int .i64 b.shi,.int .i64 b.notice,.lst .ro 3 (plsU b.players)],SB.box [U.fn 115 [] [],U.fn 116 [b.u] [],U.fn 117 [] []]]∧Holds s2 [(1,.lst .ro 1 (intsU l)),(5,.box 1 0),(6,.int .i64 i),(17,.lst .ro 1 (intsU l)),(18,.int .i64 l.length),(19,.int .i64 i),(22,.agg [U.fn 115 [] [],U.fn 116 [b.u] [],U.fn 117 [] []]),(23,.int .i64 j)]) (fun mm s2 hI=>?_) 3 _ ⟨0,rfl,rfl,.cons rfl (.cons rfl (.cons rfl (.cons rfl (.cons rfl (.cons rfl (.cons rfl (.cons rfl (.nil rfl))))))))⟩
    obtain⟨j,hj,hst2,hs2⟩:=hI
    refine k_gen _ _ hs2 hst2 fun fr2=>?_
    have hj3:j=0∨j=1∨j=2∨j=3:=by omega
    rcases hj3 with rfl|rfl|rfl|rfl
    · refine k_seq (k_region ?_)
      refine o_lss rfl rfl rfl ?_
      refine o_nil ?_
      refine k_seq ?_
      refine k_cT rfl rfl ?_
      refine k_skip ?_
      refine k_seq ?_
      refine k_block ?_
      refine k_seq (k_region ?_)
      refine o_idx1 rfl ty118 rfl rfl (by omega) (by omega) cl117 sh117 rfl ?_
      refine o_assign rfl ?_
      refine o_nil ?_
      refine k_seq (k_region ?_)
      refine o_move rfl ?_
      refine o_move rfl ?_
      refine o_move rfl ?_
      refine o_callVR rfl rfl q115 (.lrefl _) ?_
      refine o_not rfl rfl ?_
      refine o_nil ?_
      refine k_cF rfl rfl ?_
      refine k_skip ?_
      refine k_region ?_
      refine o_add rfl rfl rfl (by unfold I64;omega) ?_
      refine o_move rfl ?_
      refine o_nil ?_
      exact⟨mm - 1,by omega,1,by omega,rfl,.cons rfl (.cons rfl (.cons rfl (.cons rfl (.cons rfl (.cons rfl (.cons rfl (.cons rfl (.nil rfl))))))))⟩
    · refine k_seq (k_region ?_)
      refine o_lss rfl rfl rfl ?_
      refine o_nil ?_
      refine k_seq ?_
      refine k_cT rfl rfl ?_
      refine k_skip ?_
      refine k_seq ?_
      refine k_block ?_
      refine k_seq (k_region ?_)
      refine o_idx1 rfl ty118 rfl rfl (by omega) (by omega) cl117 sh117 rfl ?_
      refine o_assign rfl ?_
      refine o_nil ?_
      refine k_seq (k_region ?_)
      refine o_move rfl ?_
      refine o_move rfl ?_
      refine o_move rfl ?_
      refine o_callVR rfl rfl q116 (.lrefl _) ?_
      refine o_not rfl rfl ?_
      refine o_nil ?_
      refine k_cF rfl rfl ?_
      refine k_skip ?_
      refine k_region ?_
      refine o_add rfl rfl rfl (by unfold I64;omega) ?_
      refine o_move rfl ?_
      refine o_nil ?_
      exact⟨mm - 1,by omega,2,by omega,rfl,.cons rfl (.cons rfl (.cons rfl (.cons rfl (.cons rfl (.cons rfl (.cons rfl (.cons rfl (.nil rfl))))))))⟩
    · refine k_seq (k_region ?_)
      refine o_lss rfl rfl rfl ?_
      refine o_nil ?_
      refine k_seq ?_
      refine k_cT rfl rfl ?_
      refine k_skip ?_
      refine k_seq ?_
      refine k_block ?_
      refine k_seq (k_region ?_)
      refine o_idx1 rfl ty118 rfl rfl (by omega) (by omega) cl117 sh117 rfl ?_
      refine o_assign rfl ?_
      refine o_nil ?_
      refine k_seq (k_region ?_)
      refine o_move rfl ?_
      refine o_move rfl ?_
      refine o_move rfl ?_
      refine o_callVR rfl rfl q117 (.lrefl _) ?_
      refine o_not rfl rfl ?_
      refine o_nil ?_
      refine k_cF rfl rfl ?_
      refine k_skip ?_
      refine k_region ?_
      refine o_add rfl rfl rfl (by unfold I64;omega) ?_
      refine o_move rfl ?_
      refine o_nil ?_
      exact⟨mm - 1,by omega,3,by omega,rfl,.cons rfl (.cons rfl (.cons rfl (.cons rfl (.cons rfl (.cons rfl (.cons rfl (.cons rfl (.nil rfl))))))))⟩
    · refine k_seq (k_region ?_)
      refine o_lss rfl rfl rfl ?_
      refine o_nil ?_
      refine k_seq ?_
      refine k_cF rfl rfl ?_
      refine k_exit ?_
      refine k_region ?_
      refine o_add rfl rfl rfl (by unfold I64;omega) ?_
      refine o_move rfl ?_
      refine o_nil ?_
      exact⟨kk - 1,by omega,i+1,by omega,rfl,.cons rfl (.cons rfl (.cons rfl (.cons rfl (.cons rfl (.nil rfl)))))⟩
  · refine k_seq (k_region ?_)
    refine o_lss rfl rfl rfl ?_
    refine o_nil ?_
    refine k_seq ?_
    refine k_cF rfl (decide_eq_false (by omega)) ?_
    refine k_exit ?_
    refine k_seq (k_region ?_)
    refine o_assign rfl ?_
    refine o_nil ?_
    refine k_ret ?_
    refine⟨.inr rfl,_,.cons _ _ _ _ (.tmp 4) .nil,?_⟩
    exact .refl _
end Go.Proofs.YtfbmlibilcjlgaaDoor.drumCued
