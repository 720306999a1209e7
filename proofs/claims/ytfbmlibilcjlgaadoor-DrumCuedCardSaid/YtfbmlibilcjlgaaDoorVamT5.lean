/- drum's functions, the specification's and the law's, by the logic of trees: what each gives back for all that it may be given. -/
import Derived.Test.YtfbmlibilcjlgaaDoorVamT4
set_option linter.unusedVariables false
set_option linter.unusedSimpArgs false
set_option linter.constructorNameAsVariable false
/-! ### drum: askPath -/
namespace Go.Proofs.YtfbmlibilcjlgaaDoor.drumCued
open Vam
variable {is:FuncId→Bool}{orc:Known}
theorem wpc89(hi:Off is){b:Bk}{l:List Int}(hb:BOk b)(h:POk b l){st:List SB}{j:Nat}(hj:st[j]? =some (.box [.lst .ro 1 (intsU l)])):WpC Tryd.prog is orc 89 [b.u,.box j 0] st fun u st'=>u=.bool true∧∃e,st'=st++e:=by
  refine wpc_of body89 pure89 rfl rfl ?_
  have q62:=ret62 (orc:=orc) hi hb h
  refine k_seq (k_region ?_)
  refine o_box rfl rfl ?_
  refine o_assign rfl ?_
  refine o_nil ?_
  refine k_gen [(1,U.box j 0),(2,U.box (List.length st) 0)] (st++[SB.box [.int .i64 (Bk.parts b),.int .i64 (Bk.size b),U.lst Kd.ro 1 (intsU (Bk.beats b)),.int .i64 (Bk.start b),.int .i64 (Bk.fin b),.int .i64 (Bk.tlo b),.int .i64 (Bk.thi b),.int .i64 (Bk.slo b),.int .i64 (Bk.shi b),.int .i64 (Bk.notice b),U.lst Kd.ro 3 (plsU (Bk.players b))]]) (.cons rfl (.cons rfl (.nil rfl))) rfl fun fr=>?_
  refine k_seq (k_region ?_)
  refine o_loadN rfl rfl (at_new _ _) sh75 rfl ?_
  refine o_load1 rfl rfl (at_pre hj) sh22 rfl ?_
  refine o_call rfl (q62) (.lrefl _) ?_
  refine o_assign rfl ?_
  refine o_nil ?_
  refine k_ret ?_
  refine⟨.inr rfl,_,.cons _ _ _ _ (.tmp 3) .nil,?_⟩
  exact⟨_,.refl _,rfl,_,rfl⟩
theorem at_off{st X:List SB}{k:Nat}{x:SB}(h:X[k]? =some x):(st++X)[st.length+k]? =some x:=by
  rw[List.getElem?_append_right (by omega),Nat.add_sub_cancel_left];exact h
theorem set_off{st X:List SB}{k:Nat}{x:SB}:(st++X).set (st.length+k) x=st++X.set k x:=by
  rw[List.set_append_right _ _ (by omega),Nat.add_sub_cancel_left]
set_option maxHeartbeats 8000000 in
theorem wpc60(hi:Off is){b:Bk}{l:List Int}(hb:BOk b)(h:POk b l){st:List SB}{j:Nat}(hj:st[j]? =some (.box [.lst .ro 1 (intsU l)])):WpC Tryd.prog is orc 60 [b.u,.lst .ro 1 [.fn 89 [] [.box j 0]]] st fun u st'=>u=.tup [b.u,.int .i64 0]∧∃e,st'=st++e:=by
  refine wpc_of body60 pure60 rfl rfl ?_
  have q17:=ret17 (orc:=orc) hi b
  rw[if_pos ((valid_iff b).2 hb)]at q17
  refine k_seq (k_region ?_)
  refine o_box rfl rfl ?_
  refine o_alloc rfl ze75 ?_
  refine o_assign rfl ?_
  refine o_nil ?_
  refine k_gen [(1,U.lst Kd.ro 1 [U.fn 89 [] [U.box j 0]]),(2,U.box (List.length st) 0),(4,U.box (List.length (st++[SB.box [.int .i64 (Bk.parts b),.int .i64 (Bk.size b),U.lst Kd.ro 1 (intsU (Bk.beats b)),.int .i64 (Bk.start b),.int .i64 (Bk.fin b),.int .i64 (Bk.tlo b),.int .i64 (Bk.thi b),.int .i64 (Bk.slo b),.int .i64 (Bk.shi b),.int .i64 (Bk.notice b),U.lst Kd.ro 3 (plsU (Bk.players b))]])) 0)] (st++[SB.box [.int .i64 (Bk.parts b),.int .i64 (Bk.size b),U.lst Kd.ro 1 (intsU (Bk.beats b)),.int .i64 (Bk.start b),.int .i64 (Bk.fin b),.int .i64 (Bk.tlo b),.int .i64 (Bk.thi b),.int .i64 (Bk.slo b),.int .i64 (Bk.shi b),.int .i64 (Bk.notice b),U.lst Kd.ro 3 (plsU (Bk.players b))]]++[SB.box [.int .i64 0,.int .i64 0,U.lst Kd.full 0 [],.int .i64 0,.int .i64 0,.int .i64 0,.int .i64 0,.int .i64 0,.int .i64 0,.int .i64 0,U.lst Kd.full 0 []]]) (.cons rfl (.cons rfl (.cons rfl (.nil rfl)))) rfl fun fr=>?_
  refine k_seq ?_
  refine k_seq (k_region ?_)
  refine o_loadN rfl rfl (at_pre (at_new _ _)) sh27 rfl ?_
  refine o_call rfl (q17) (.lrefl _) ?_
  refine o_assign rfl ?_
  refine o_nil ?_
  refine k_seq (k_region ?_)
  refine o_move rfl ?_
  refine o_neq rfl rfl rfl ?_
  refine o_nil ?_
  refine k_cF rfl rfl ?_
  refine k_skip ?_
  refine k_seq (k_region ?_)
  refine o_loadN rfl rfl (at_pre (at_new _ _)) sh27 rfl ?_
  refine o_build rfl ze75 pl75 rfl rfl ?_
  refine o_alloc rfl ze75 ?_
  refine o_storeN rfl (at_new _ _) sh75 rfl rfl rfl rfl rfl ?_
  refine o_nil ?_
  refine k_gen [(1,U.lst Kd.ro 1 [U.fn 89 [] [U.box j 0]]),(4,U.box (List.length (st++[SB.box [.int .i64 (Bk.parts b),.int .i64 (Bk.size b),U.lst Kd.ro 1 (intsU (Bk.beats b)),.int .i64 (Bk.start b),.int .i64 (Bk.fin b),.int .i64 (Bk.tlo b),.int .i64 (Bk.thi b),.int .i64 (Bk.slo b),.int .i64 (Bk.shi b),.int .i64 (Bk.notice b),U.lst Kd.ro 3 (plsU (Bk.players b))]])) 0),(7,U.box (List.length (st++[SB.box [.int .i64 (Bk.parts b),.int .i64 (Bk.size b),U.lst Kd.ro 1 (intsU (Bk.beats b)),.int .i64 (Bk.start b),.int .i64 (Bk.fin b),.int .i64 (Bk.tlo b),.int .i64 (Bk.thi b),.int .i64 (Bk.slo b),.int .i64 (Bk.shi b),.int .i64 (Bk.notice b),U.lst Kd.ro 3 (plsU (Bk.players b))]]++[SB.box [.int .i64 0,.int .i64 0,U.lst Kd.full 0 [],.int .i64 0,.int .i64 0,.int .i64 0,.int .i64 0,.int .i64 0,.int .i64 0,.int .i64 0,U.lst Kd.full 0 []]])) 0)] (st++[SB.box [.int .i64 (Bk.parts b),.int .i64 (Bk.size b),U.lst Kd.ro 1 (intsU (Bk.beats b)),.int .i64 (Bk.start b),.int .i64 (Bk.fin b),.int .i64 (Bk.tlo b),.int .i64 (Bk.thi b),.int .i64 (Bk.slo b),.int .i64 (Bk.shi b),.int .i64 (Bk.notice b),U.lst Kd.ro 3 (plsU (Bk.players b))]]++[SB.box [.int .i64 0,.int .i64 0,U.lst Kd.full 0 [],.int .i64 0,.int .i64 0,.int .i64 0,.int .i64 0,.int .i64 0,.int .i64 0,.int .i64 0,U.lst Kd.full 0 []]]++[SB.box [.int .i64 (Bk.parts b),.int .i64 (Bk.size b),U.lst Kd.ro 1 (intsU (Bk.beats b)),.int .i64 (Bk.start b),.int .i64 (Bk.fin b),.int .i64 (Bk.tlo b),.int .i64 (Bk.thi b),.int .i64 (Bk.slo b),.int .i64 (Bk.shi b),.int .i64 (Bk.notice b),U.lst Kd.ro 3 (plsU (Bk.players b))]]) (.cons rfl (.cons rfl (.cons rfl (.nil rfl)))) (set_end _ _ _) fun fr=>?_
  refine k_seq ?_
  refine k_seq (k_region ?_)
  refine o_move rfl ?_
  refine o_len rfl ty116 rfl rfl ?_
  refine o_move rfl ?_
  refine o_nil ?_
  refine k_block ?_
  refine k_loop (fun kk s2=>∃X:List SB,s2.st=st++X∧X[1]? =some (.box [.int .i64 0,.int .i64 0,.lst .full 0 [],.int .i64 0,.int .i64 0,.int .i64 0,.int .i64 0,.int .i64 0,.int .i64 0,.int .i64 0,.lst .full 0 []])∧X[2]? =some (.box [.int .i64 b.parts,.int .i64 b.size,.lst .ro 1 (intsU b.beats),.int .i64 b.start,.int .i64 b.fin,.int .i64 b.tlo,.int .i64 b.thi,.int .i64 b.slo,.int .i64 b.shi,.int .i64 b.notice,.lst .ro 3 (plsU b.players)])∧((kk=1∧Holds s2 [(4,.box (st.length+1) 0),(7,.box (st.length+2) 0),(18,.lst .ro 1 [.fn 89 [] [.box j 0]]),(19,.int .i64 1),(20,.int .i64 0)])∨(kk=0∧Holds s2 [(4,.box (st.length+1) 0),(7,.box (st.length+2) 0),(18,.lst .ro 1 [.fn 89 [] [.box j 0]]),(19,.int .i64 1),(20,.int .i64 1)]))) (fun kk s2 hI=>?_) 1 _ ⟨[.box [.int .i64 b.parts,.int .i64 b.size,.lst .ro 1 (intsU b.beats),.int .i64 b.start,.int .i64 b.fin,.int .i64 b.tlo,.int .i64 b.thi,.int .i64 b.slo,.int .i64 b.shi,.int .i64 b.notice,.lst .ro 3 (plsU b.players)],.box [.int .i64 0,.int .i64 0,.lst .full 0 [],.int .i64 0,.int .i64 0,.int .i64 0,.int .i64 0,.int .i64 0,.int .i64 0,.int .i64 0,.lst .full 0 []],.box [.int .i64 b.parts,.int .i64 b.size,.lst .ro 1 (intsU b.beats),.int .i64 b.start,.int .i64 b.fin,.int .i64 b.tlo,.int .i64 b.thi,.int .i64 b.slo,.int .i64 b.shi,.int .i64 b.notice,.lst .ro 3 (plsU b.players)]],(by show((st++[SB.box _])++[SB.box _])++[SB.box _]=_;rw[List.append_assoc,List.append_assoc];rfl),rfl,rfl,.inl ⟨rfl,.cons (by show U.box (st++[SB.box _]).length 0=_;simp) (.cons (by show U.box ((st++[SB.box _])++[SB.box _]).length 0=_;simp) (.cons rfl (.cons rfl (.cons rfl (.nil rfl)))))⟩⟩
  obtain⟨X,hst2,x1,x2,⟨hk,hs2⟩|⟨hk,hs2⟩⟩:=hI
  · have y1:=at_off (st:=st) x1
    have y2:=at_off (st:=st) x2
    have y3:(st++X)[j]? =some (.box [.lst .ro 1 (intsU l)]):=at_pre hj
    refine k_gen _ _ hs2 hst2 fun fr2=>?_
    refine k_seq (k_region ?_)
    refine o_lss rfl rfl rfl ?_
    refine o_nil ?_
    refine k_seq ?_
    refine k_cT rfl rfl ?_
    refine k_skip ?_
    refine k_seq ?_
    refine k_block ?_
    refine k_seq (k_region ?_)
    refine o_idx rfl ty116 rfl rfl (by decide) rfl cl83 ?_
    refine o_loadR1 rfl rfl sh83 rfl ?_
    refine o_assign rfl ?_
    refine o_nil ?_
    refine k_seq (k_region ?_)
    refine o_move rfl ?_
    refine o_loadN rfl rfl y2 sh75 rfl ?_
    refine o_callV rfl rfl (wpc89 hi hb h y3) (.lrefl _) (fun u st1 hM=>?_)
    obtain⟨rfl,e,rfl⟩:=hM
    refine o_not rfl rfl ?_
    refine o_nil ?_
    refine k_cF rfl rfl ?_
    refine k_skip ?_
    refine k_region ?_
    refine o_add rfl rfl rfl (by unfold I64;omega) ?_
    refine o_move rfl ?_
    refine o_nil ?_
    exact⟨0,by omega,X++e,(by show(st++X)++e=_;rw[List.append_assoc]),at_pre x1,at_pre x2,.inr ⟨rfl,.cons rfl (.cons rfl (.cons rfl (.cons rfl (.cons rfl (.nil rfl)))))⟩⟩
  · have y1:=at_off (st:=st) x1
    have y2:=at_off (st:=st) x2
    refine k_gen _ _ hs2 hst2 fun fr2=>?_
    have hl:st.length+1<(st++X).length:=(List.getElem?_eq_some_iff.1 y1).1
    refine k_seq (k_region ?_)
    refine o_lss rfl rfl rfl ?_
    refine o_nil ?_
    refine k_seq ?_
    refine k_cF rfl rfl ?_
    refine k_exit ?_
    refine k_seq (k_region ?_)
    refine o_loadN rfl rfl y2 sh75 rfl ?_
    refine o_storeN rfl y1 sh75 rfl rfl rfl rfl rfl ?_
    refine o_assign rfl ?_
    refine o_nil ?_
    refine k_ret ?_
    refine⟨.inr rfl,_,.cons _ _ _ _ (.cellN 4 75 (st.length+1) 0 11 [.int .i64 b.parts,.int .i64 b.size,.lst .ro 1 (intsU b.beats),.int .i64 b.start,.int .i64 b.fin,.int .i64 b.tlo,.int .i64 b.thi,.int .i64 b.slo,.int .i64 b.shi,.int .i64 b.notice,.lst .ro 3 (plsU b.players)] rfl (List.getElem?_set_self hl) sh75 rfl) (.cons _ _ _ _ (.tmp 5) .nil),_,.refl _,rfl,_,set_off⟩
theorem nb_dat{k:Nat}{u:U}(h:Dat k u):NB u:=h.nb
set_option maxHeartbeats 8000000 in
theorem ret54(hi:Off is){b:Bk}{l:List Int}(hb:BOk b)(h:POk b l):RetP Tryd.prog is orc 54 [b.u,.lst .ro 1 (intsU l)] (.tup [b.u,.int .i64 0]):=by
  refine ret_of body54 pure54 (hi 54 (by decide)) rfl rfl (dat_l2 (dat_bk b 4) (dat_ints 6 .ro (fun h=>by cases h) 1 l)) (.inr ⟨_,rfl,dat_l2 (k:=7) (dat_bk b 3) (.int _ _ _)⟩) ?_
  refine k_seq (k_region ?_)
  refine o_box rfl rfl ?_
  refine o_box rfl rfl ?_
  refine o_alloc rfl ze75 ?_
  refine o_assign rfl ?_
  refine o_nil ?_
  refine k_gen [(2,U.box 0 0),(3,U.box 1 0),(4,U.box 2 0)] ([SB.box [.int .i64 (Bk.parts b),.int .i64 (Bk.size b),U.lst Kd.ro 1 (intsU (Bk.beats b)),.int .i64 (Bk.start b),.int .i64 (Bk.fin b),.int .i64 (Bk.tlo b),.int .i64 (Bk.thi b),.int .i64 (Bk.slo b),.int .i64 (Bk.shi b),.int .i64 (Bk.notice b),U.lst Kd.ro 3 (plsU (Bk.players b))],SB.box [U.lst Kd.ro 1 (intsU l)],SB.box [.int .i64 0,.int .i64 0,U.lst Kd.full 0 [],.int .i64 0,.int .i64 0,.int .i64 0,.int .i64 0,.int .i64 0,.int .i64 0,.int .i64 0,U.lst Kd.full 0 []]]) (.cons rfl (.cons rfl (.cons rfl (.nil rfl)))) rfl fun fr=>?_
  refine k_seq (k_region ?_)
  refine o_loadN rfl rfl rfl sh27 rfl ?_
  refine o_func rfl ?_
  refine o_lit (es:=[U.fn 89 [] [U.box 1 0]]) rfl ty116 ze83 cl83 rfl rfl rfl rfl rfl rfl rfl rfl ?_
  refine o_callW rfl (wpc60 hi hb h (st:=_) (j:=1) rfl) (.lcons _ _ _ _ (.refl _) (.lcons _ _ _ _ (.ro _ _ _) (.lrefl _))) (fun u st1 hM=>?_)
  obtain⟨rfl,e,rfl⟩:=hM
  refine o_extract rfl rfl rfl ?_
  refine o_extract rfl rfl rfl ?_
  refine o_storeN rfl rfl sh75 rfl rfl rfl rfl rfl ?_
  refine o_assign rfl ?_
  refine o_nil ?_
  refine k_ret ?_
  refine⟨.inr rfl,_,.cons _ _ _ _ (.cellN 4 75 _ _ _ _ rfl rfl sh75 rfl) (.cons _ _ _ _ (.tmp 5) .nil),?_⟩
  exact .refl _
end Go.Proofs.YtfbmlibilcjlgaaDoor.drumCued

/-! ### drum: what a mark does; the law's changes -/
namespace Go.Proofs.YtfbmlibilcjlgaaDoor.drumCued
open Vam
variable {is:FuncId→Bool}{orc:Known}
-- 126 saron/drum.ways params [] pure False
theorem pl145:plcOf Tryd.prog 145=some [(0,1),(1,1),(2,1),(3,1)]:=by kernel_rfl
theorem sh145:shOf Tryd.prog 145=.many 4:=by kernel_rfl
theorem ze145:zeroL Tryd.prog 145=some ((.cons .nilf (.cons .nilf (.cons .nilf (.cons .nilf .nil)))):V):=by kernel_rfl
noncomputable def b126:Code:=(Tryd.f126.body).getD .skip
theorem body126:bodyOf Tryd.prog 126=some (2,b126,[.cell 0 145]):=by kernel_rfl
theorem pure126:pureFn Tryd.prog 126=false:=by kernel_rfl
-- 112 (saron/drum.mark).does params [135, 3] pure True
theorem cl144:Program.cellsOf Tryd.prog 144=1:=by kernel_rfl
theorem sh144:shOf Tryd.prog 144=.one:=by kernel_rfl
theorem ty145:tyOf Tryd.prog 145=.array 4 144:=by kernel_rfl
noncomputable def b112:Code:=(Tryd.f112.body).getD .skip
theorem body112:bodyOf Tryd.prog 112=some (11,b112,[.tmp 4]):=by kernel_rfl
theorem pure112:pureFn Tryd.prog 112=true:=by kernel_rfl
abbrev waysU:U:=.agg [.fn 130 [] [],.fn 131 [] [],.fn 119 [] [],.fn 132 [] []]
theorem nb_fn0(f:Nat):NB (.fn f [] []):=NB.fn (fun u hu=>by cases hu) (fun u hu=>by cases hu)
theorem ret126(hi:Off is):RetP Tryd.prog is orc 126 [] waysU:=by
  refine ret_of_shared body126 pure126 rfl rfl (fun u hu=>by cases hu) (NB.agg fun c hc=>by
    simp only[List.mem_cons,List.not_mem_nil,or_false]at hc
    rcases hc with rfl|rfl|rfl|rfl<;>exact nb_fn0 _) ?_
  refine k_seq (k_region ?_)
  refine o_alloc rfl ze145 ?_
  refine o_nil ?_
  refine k_gen [(0,U.box 0 0)] ([SB.box [U.nilf,U.nilf,U.nilf,U.nilf]]) (.cons rfl (.nil rfl)) rfl fun fr=>?_
  refine k_seq (k_region ?_)
  refine o_build rfl ze145 pl145 rfl rfl ?_
  refine o_storeN rfl rfl sh145 rfl rfl rfl rfl rfl ?_
  refine o_nil ?_
  refine k_ret ?_
  refine⟨.inr rfl,_,.cons _ _ _ _ (.cellN 0 145 _ _ _ _ rfl rfl sh145 rfl) .nil,?_⟩
  exact .refl _
def doesB(x y w:Int):Bool:=if w= -2 then true else if w= -1 then decide (y<x)else if w=0 then decide (y=x)else decide (x<y)
set_option maxHeartbeats 4000000 in
theorem ret112(hi:Off is)(x y w:Int)(hw: -2≤w∧w≤1):RetP Tryd.prog is orc 112 [spanU x y,.int .i64 w] (.bool (doesB x y w)):=by
  refine ret_of body112 pure112 (hi 112 (by decide)) rfl rfl (dat_l2 (dat_span x y 6) (.int _ _ _)) (.inl (.bool _ _)) ?_
  have q126:=ret126 (orc:=orc) hi
  have hc:w= -2∨w= -1∨w=0∨w=1:=by omega
  rcases hc with rfl|rfl|rfl|rfl
  · refine k_seq (k_region ?_)
    refine o_box rfl rfl ?_
    refine o_assign rfl ?_
    refine o_nil ?_
    refine k_gen [(1,.int .i64 (-2:Int)),(2,U.box 0 0)] ([SB.box [.int .i64 x,.int .i64 y]]) (.cons rfl (.cons rfl (.nil rfl))) rfl fun fr=>?_
    refine k_seq ?_
    refine k_draw [.quiet,.plain,.plain,.plain,.read true,.plain,.plain] (by kernel_rfl) (by kernel_rfl) (by kernel_rfl) ?_
    refine d_callQ rfl (q126) (.lrefl _) ?_
    refine d_plain (o_move rfl (o_nil rfl)) ?_
    refine d_plain (o_sub rfl rfl rfl (by unfold I64;omega) (o_nil rfl)) ?_
    refine d_plain (o_idx1 rfl ty145 rfl rfl (by omega) (by omega) cl144 sh144 rfl (o_nil rfl)) ?_
    refine d_load rfl (o_loadN rfl rfl rfl sh135 rfl (o_nil rfl)) ?_
    refine d_plain (o_callVR rfl rfl (ret130 (orc:=orc) hi x y) (.lrefl _) (o_nil rfl)) ?_
    refine d_plain (o_assign rfl (o_nil rfl)) ?_
    refine d_nil ?_
    refine k_ret ?_
    refine⟨.inr rfl,_,.cons _ _ _ _ (.tmp 4) .nil,?_⟩
    exact .refl _
  · refine k_seq (k_region ?_)
    refine o_box rfl rfl ?_
    refine o_assign rfl ?_
    refine o_nil ?_
    refine k_gen [(1,.int .i64 (-1:Int)),(2,U.box 0 0)] ([SB.box [.int .i64 x,.int .i64 y]]) (.cons rfl (.cons rfl (.nil rfl))) rfl fun fr=>?_
    refine k_seq ?_
    refine k_draw [.quiet,.plain,.plain,.plain,.read true,.plain,.plain] (by kernel_rfl) (by kernel_rfl) (by kernel_rfl) ?_
    refine d_callQ rfl (q126) (.lrefl _) ?_
    refine d_plain (o_move rfl (o_nil rfl)) ?_
    refine d_plain (o_sub rfl rfl rfl (by unfold I64;omega) (o_nil rfl)) ?_
    refine d_plain (o_idx1 rfl ty145 rfl rfl (by omega) (by omega) cl144 sh144 rfl (o_nil rfl)) ?_
    refine d_load rfl (o_loadN rfl rfl rfl sh135 rfl (o_nil rfl)) ?_
    refine d_plain (o_callVR rfl rfl (ret131 (orc:=orc) hi x y) (.lrefl _) (o_nil rfl)) ?_
    refine d_plain (o_assign rfl (o_nil rfl)) ?_
    refine d_nil ?_
    refine k_ret ?_
    refine⟨.inr rfl,_,.cons _ _ _ _ (.tmp 4) .nil,?_⟩
    exact .refl _
  · refine k_seq (k_region ?_)
    refine o_box rfl rfl ?_
    refine o_assign rfl ?_
    refine o_nil ?_
    refine k_gen [(1,.int .i64 0),(2,U.box 0 0)] ([SB.box [.int .i64 x,.int .i64 y]]) (.cons rfl (.cons rfl (.nil rfl))) rfl fun fr=>?_
    refine k_seq ?_
    refine k_draw [.quiet,.plain,.plain,.plain,.read true,.plain,.plain] (by kernel_rfl) (by kernel_rfl) (by kernel_rfl) ?_
    refine d_callQ rfl (q126) (.lrefl _) ?_
    refine d_plain (o_move rfl (o_nil rfl)) ?_
    refine d_plain (o_sub rfl rfl rfl (by unfold I64;omega) (o_nil rfl)) ?_
    refine d_plain (o_idx1 rfl ty145 rfl rfl (by omega) (by omega) cl144 sh144 rfl (o_nil rfl)) ?_
    refine d_load rfl (o_loadN rfl rfl rfl sh135 rfl (o_nil rfl)) ?_
    refine d_plain (o_callVR rfl rfl (ret119 (orc:=orc) hi x y) (.lrefl _) (o_nil rfl)) ?_
    refine d_plain (o_assign rfl (o_nil rfl)) ?_
    refine d_nil ?_
    refine k_ret ?_
    refine⟨.inr rfl,_,.cons _ _ _ _ (.tmp 4) .nil,?_⟩
    exact .refl _
  · refine k_seq (k_region ?_)
    refine o_box rfl rfl ?_
    refine o_assign rfl ?_
    refine o_nil ?_
    refine k_gen [(1,.int .i64 1),(2,U.box 0 0)] ([SB.box [.int .i64 x,.int .i64 y]]) (.cons rfl (.cons rfl (.nil rfl))) rfl fun fr=>?_
    refine k_seq ?_
    refine k_draw [.quiet,.plain,.plain,.plain,.read true,.plain,.plain] (by kernel_rfl) (by kernel_rfl) (by kernel_rfl) ?_
    refine d_callQ rfl (q126) (.lrefl _) ?_
    refine d_plain (o_move rfl (o_nil rfl)) ?_
    refine d_plain (o_sub rfl rfl rfl (by unfold I64;omega) (o_nil rfl)) ?_
    refine d_plain (o_idx1 rfl ty145 rfl rfl (by omega) (by omega) cl144 sh144 rfl (o_nil rfl)) ?_
    refine d_load rfl (o_loadN rfl rfl rfl sh135 rfl (o_nil rfl)) ?_
    refine d_plain (o_callVR rfl rfl (ret132 (orc:=orc) hi x y) (.lrefl _) (o_nil rfl)) ?_
    refine d_plain (o_assign rfl (o_nil rfl)) ?_
    refine d_nil ?_
    refine k_ret ?_
    refine⟨.inr rfl,_,.cons _ _ _ _ (.tmp 4) .nil,?_⟩
    exact .refl _
def chgI(p:Nat→Int):Nat→Int
  |0=>0
  |k+1=>chgI p k+if p (k+1)=p k then 0 else 1
theorem chgI_b(p:Nat→Int)(k:Nat):0≤chgI p k∧chgI p k≤k:=by
  induction k with
  |zero=>exact⟨Int.le_refl _,Int.le_refl _⟩
  |succ k ih=>
    have e:chgI p (k+1)=chgI p k+if p (k+1)=p k then 0 else 1:=rfl
    rw[e]
    split<;>omega
set_option maxHeartbeats 4000000 in
theorem ret49(hi:Off is)(p:Nat→Int)(n:Nat)(hn:1≤n∧n≤4096):RetP Tryd.prog is orc 49 [.lst .ro 1 (intsU ((List.range n).map p))] (.int .i64 (chgI p (n - 1))):=by
  refine ret_of body49 pure49 (hi 49 (by decide)) rfl rfl (dat_l1 (dat_ints 6 .ro (fun h=>by cases h) 1 _)) (.inl (.int _ _ _)) ?_
  have hlen:((List.range n).map p).length=n:=by simp
  have hat:∀i,i<n→((List.range n).map p)[i]? =some (p i):=fun i h=>by simp[h]
  generalize (List.range n).map p=L at hlen hat ⊢
  refine k_seq (k_region ?_)
  refine o_assign rfl ?_
  refine o_nil ?_
  refine k_seq (k_region ?_)
  refine o_assign rfl ?_
  refine o_nil ?_
  refine k_seq ?_
  refine k_seq (k_region ?_)
  refine o_assign rfl ?_
  refine o_nil ?_
  refine k_block ?_
  refine k_loop (fun kk s2=>∃i:Nat,kk+i+1=n∧s2.st=[]∧Holds s2 [(0,.lst .ro 1 (intsU L)),(3,.int .i64 (chgI p i)),(4,.int .i64 ((i+1:Nat):Int))]) (fun kk s2 hI=>?_) (n - 1) _ ⟨0,by omega,rfl,.cons rfl (.cons rfl (.cons rfl (.nil rfl)))⟩
  obtain⟨i,hk,hst2,hs2⟩:=hI
  refine k_gen _ _ hs2 hst2 fun fr2=>?_
  have hcb:=chgI_b p i
  by_cases hin:i+1<n
  · have hx:=hat i (by omega)
    have hy:=hat (i+1) hin
    have e:chgI p (i+1)=chgI p i+if p (i+1)=p i then 0 else 1:=rfl
    by_cases heq:p (i+1)=p i
    · rw[if_pos heq]at e
      refine k_seq ?_
      refine k_seq (k_region ?_)
      refine o_move rfl ?_
      refine o_move rfl ?_
      refine o_len rfl ty22 rfl (List.length_map _) ?_
      refine o_lss rfl rfl rfl ?_
      refine o_nil ?_
      refine k_cT rfl (decide_eq_true (by omega)) ?_
      refine k_skip ?_
      refine k_seq ?_
      refine k_block ?_
      refine k_seq ?_
      refine k_draw [.plain,.plain,.plain,.read true,.plain,.plain,.plain,.plain,.read true,.plain] (by kernel_rfl) (by kernel_rfl) (by kernel_rfl) ?_
      refine d_plain (o_move rfl (o_nil rfl)) ?_
      refine d_plain (o_move rfl (o_nil rfl)) ?_
      refine d_plain (o_idx (u:=.int .i64 (p (i+1))) rfl ty22 rfl rfl (Int.natCast_nonneg _) (by simp[hy]) cl3 (o_nil rfl)) ?_
      refine d_load rfl (o_loadR1 rfl rfl sh3 rfl (o_nil rfl)) ?_
      refine d_plain (o_move rfl (o_nil rfl)) ?_
      refine d_plain (o_move rfl (o_nil rfl)) ?_
      refine d_plain (o_sub rfl rfl rfl (by unfold I64;omega) (o_nil rfl)) ?_
      refine d_plain (o_idx (u:=.int .i64 (p i)) rfl ty22 rfl rfl (by omega) (by simp[hx]) cl3 (o_nil rfl)) ?_
      refine d_load rfl (o_loadR1 rfl rfl sh3 rfl (o_nil rfl)) ?_
      refine d_plain (o_neq rfl rfl rfl (o_nil rfl)) ?_
      refine d_nil ?_
      refine k_gen [(0,U.lst Kd.ro 1 (intsU L)),(3,.int .i64 (chgI p i)),(4,.int .i64 ↑(i+1)),(20,U.bool (Decidable.decide (p (i+1)≠p i)))] ([]) (.cons rfl (.cons rfl (.cons rfl (.cons rfl (.nil rfl))))) rfl fun fr=>?_
      refine k_cF rfl (decide_eq_false (by omega)) ?_
      refine k_skip ?_
      refine k_region ?_
      refine o_move rfl ?_
      refine o_add rfl rfl rfl (by unfold I64;omega) ?_
      refine o_assign rfl ?_
      refine o_nil ?_
      exact⟨kk - 1,by omega,i+1,by omega,rfl,.cons rfl (.cons (by show U.int .i64 _=_;rw[e];try rw[Int.add_zero]) (.cons rfl (.nil rfl)))⟩
    · rw[if_neg heq]at e
      refine k_seq ?_
      refine k_seq (k_region ?_)
      refine o_move rfl ?_
      refine o_move rfl ?_
      refine o_len rfl ty22 rfl (List.length_map _) ?_
      refine o_lss rfl rfl rfl ?_
      refine o_nil ?_
      refine k_cT rfl (decide_eq_true (by omega)) ?_
      refine k_skip ?_
      refine k_seq ?_
      refine k_block ?_
      refine k_seq ?_
      refine k_draw [.plain,.plain,.plain,.read true,.plain,.plain,.plain,.plain,.read true,.plain] (by kernel_rfl) (by kernel_rfl) (by kernel_rfl) ?_
      refine d_plain (o_move rfl (o_nil rfl)) ?_
      refine d_plain (o_move rfl (o_nil rfl)) ?_
      refine d_plain (o_idx (u:=.int .i64 (p (i+1))) rfl ty22 rfl rfl (Int.natCast_nonneg _) (by simp[hy]) cl3 (o_nil rfl)) ?_
      refine d_load rfl (o_loadR1 rfl rfl sh3 rfl (o_nil rfl)) ?_
      refine d_plain (o_move rfl (o_nil rfl)) ?_
      refine d_plain (o_move rfl (o_nil rfl)) ?_
      refine d_plain (o_sub rfl rfl rfl (by unfold I64;omega) (o_nil rfl)) ?_
      refine d_plain (o_idx (u:=.int .i64 (p i)) rfl ty22 rfl rfl (by omega) (by simp[hx]) cl3 (o_nil rfl)) ?_
      refine d_load rfl (o_loadR1 rfl rfl sh3 rfl (o_nil rfl)) ?_
      refine d_plain (o_neq rfl rfl rfl (o_nil rfl)) ?_
      refine d_nil ?_
      refine k_gen [(0,U.lst Kd.ro 1 (intsU L)),(3,.int .i64 (chgI p i)),(4,.int .i64 ↑(i+1)),(20,U.bool (Decidable.decide (p (i+1)≠p i)))] ([]) (.cons rfl (.cons rfl (.cons rfl (.cons rfl (.nil rfl))))) rfl fun fr=>?_
      refine k_cT rfl (decide_eq_true (by omega)) ?_
      refine k_region ?_
      refine o_move rfl ?_
      refine o_add rfl rfl rfl (by unfold I64;omega) ?_
      refine o_assign rfl ?_
      refine o_nil ?_
      refine k_region ?_
      refine o_move rfl ?_
      refine o_add rfl rfl rfl (by unfold I64;omega) ?_
      refine o_assign rfl ?_
      refine o_nil ?_
      exact⟨kk - 1,by omega,i+1,by omega,rfl,.cons rfl (.cons (by show U.int .i64 _=_;rw[e];try rw[Int.add_zero]) (.cons rfl (.nil rfl)))⟩
  · have hie:n - 1=i:=by omega
    rw[hie]
    refine k_seq ?_
    refine k_seq (k_region ?_)
    refine o_move rfl ?_
    refine o_move rfl ?_
    refine o_len rfl ty22 rfl (List.length_map _) ?_
    refine o_lss rfl rfl rfl ?_
    refine o_nil ?_
    refine k_cF rfl (decide_eq_false (by omega)) ?_
    refine k_exit ?_
    refine k_seq (k_region ?_)
    refine o_move rfl ?_
    refine o_assign rfl ?_
    refine o_nil ?_
    refine k_ret ?_
    refine⟨.inr rfl,_,.cons _ _ _ _ (.tmp 2) .nil,?_⟩
    exact .refl _
end Go.Proofs.YtfbmlibilcjlgaaDoor.drumCued
