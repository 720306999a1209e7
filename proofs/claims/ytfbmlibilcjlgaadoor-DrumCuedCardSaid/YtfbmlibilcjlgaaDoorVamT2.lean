/- drum's functions, the specification's and the law's, by the logic of trees: what each gives back for all that it may be given. -/
import Derived.Test.YtfbmlibilcjlgaaDoorVamT1
set_option linter.unusedVariables false
set_option linter.unusedSimpArgs false
set_option linter.constructorNameAsVariable false
/-! ### drum: books -/
namespace Go.Proofs.YtfbmlibilcjlgaaDoor.drumCued
open Vam
variable {is:FuncId→Bool}{orc:Known}
-- 58 saron/drum.isValid params [27] pure True
theorem cl68:Program.cellsOf Tryd.prog 68=3:=by kernel_rfl
theorem fld27_0:fieldOf Tryd.prog 27 0=some (0,3):=by kernel_rfl
theorem fld27_1:fieldOf Tryd.prog 27 1=some (1,3):=by kernel_rfl
theorem fld27_2:fieldOf Tryd.prog 27 2=some (2,22):=by kernel_rfl
theorem fld27_3:fieldOf Tryd.prog 27 3=some (3,3):=by kernel_rfl
theorem fld27_4:fieldOf Tryd.prog 27 4=some (4,3):=by kernel_rfl
theorem fld27_5:fieldOf Tryd.prog 27 5=some (5,24):=by kernel_rfl
theorem fld27_6:fieldOf Tryd.prog 27 6=some (7,24):=by kernel_rfl
theorem fld27_7:fieldOf Tryd.prog 27 7=some (9,3):=by kernel_rfl
theorem fld27_8:fieldOf Tryd.prog 27 8=some (10,25):=by kernel_rfl
theorem sh22:shOf Tryd.prog 22=.one:=by kernel_rfl
theorem sh25:shOf Tryd.prog 25=.one:=by kernel_rfl
theorem sh68:shOf Tryd.prog 68=.many 3:=by kernel_rfl
theorem ty25:tyOf Tryd.prog 25=.slice 68:=by kernel_rfl
theorem ze68:zeroL Tryd.prog 68=some ((.cons (.int .i64 0) (.cons (.int .i64 0) (.cons .nils .nil))):V):=by kernel_rfl
noncomputable def b58:Code:=(Tryd.f58.body).getD .skip
theorem body58:bodyOf Tryd.prog 58=some (82,b58,[.tmp 2]):=by kernel_rfl
theorem pure58:pureFn Tryd.prog 58=true:=by kernel_rfl
-- 17 saron/drum.Check params [27] pure True
theorem sh27:shOf Tryd.prog 27=.many 11:=by kernel_rfl
noncomputable def b17:Code:=(Tryd.f17.body).getD .skip
theorem body17:bodyOf Tryd.prog 17=some (6,b17,[.tmp 2]):=by kernel_rfl
theorem pure17:pureFn Tryd.prog 17=true:=by kernel_rfl
def vlA(b:Bk):Bool:=decide (b.beats.length=4)&&inS 1 5 b.players.length
def vlB(b:Bk):Bool:=inS 1 8 b.parts&&(inS 1 16 b.size&&(b.beats.all (inS 1 1000)&&([b.start,b.fin].all (inS 0 3)&&(spB 0 128000 ⟨b.tlo,b.thi⟩&&(spB 0 100 ⟨b.slo,b.shi⟩&&inS 1 b.size b.notice)))))
def validB(b:Bk):Bool:=vlA b&&(b.players.all plB&&vlB b)
set_option maxHeartbeats 16000000 in
theorem ret58(hi:Off is)(b:Bk):RetP Tryd.prog is orc 58 [b.u] (.bool (validB b)):=by
  refine ret_of body58 pure58 (hi 58 (by decide)) rfl rfl (dat_l1 (dat_bk b 4)) (.inl (.bool _ _)) ?_
  unfold validB vlA
  by_cases h4:b.beats.length=4
  · rw[decide_eq_true h4,Bool.true_and]
    have q5:=ret90 (orc:=orc) hi 1 5 b.players.length
    cases h5:inS 1 5 b.players.length with
    |false=>
      rw[h5]at q5
      rw[Bool.false_and]
      refine k_seq (k_region ?_)
      refine o_box rfl rfl ?_
      refine o_assign rfl ?_
      refine o_nil ?_
      refine k_gen [(1,U.box 0 0)] ([SB.box [.int .i64 (Bk.parts b),.int .i64 (Bk.size b),U.lst Kd.ro 1 (intsU (Bk.beats b)),.int .i64 (Bk.start b),.int .i64 (Bk.fin b),.int .i64 (Bk.tlo b),.int .i64 (Bk.thi b),.int .i64 (Bk.slo b),.int .i64 (Bk.shi b),.int .i64 (Bk.notice b),U.lst Kd.ro 3 (plsU (Bk.players b))]]) (.cons rfl (.nil rfl)) rfl fun fr=>?_
      refine k_seq ?_
      refine k_seq (k_region ?_)
      refine o_faddr rfl rfl fld27_2 ?_
      refine o_load1 rfl rfl rfl sh22 rfl ?_
      refine o_len rfl ty22 rfl (List.length_map _) ?_
      refine o_neq rfl rfl rfl ?_
      refine o_move rfl ?_
      refine o_gD rfl rfl rfl rfl (decide_eq_false (by omega)) ?_
      refine o_gpairG (i:=6) (c:=2) (n:=10) sh24 rfl rfl rfl (decide_eq_false (by omega)) rfl rfl ty112 cl24 rfl rfl rfl (gatB 6 (by decide)) rfl ?_
      refine o_gD rfl rfl rfl rfl (decide_eq_false (by omega)) ?_
      refine o_faddr rfl rfl fld27_8 ?_
      refine o_gD rfl rfl rfl rfl (decide_eq_false (by omega)) ?_
      refine o_load1 rfl rfl rfl sh25 rfl ?_
      refine o_genA [(1,U.box 0 0),(9,U.bool (Decidable.decide (↑(List.length (Bk.beats b))≠(4:Int)))),(11,U.agg [.int .i64 (loB 6),.int .i64 (hiB 6)]),(13,U.lst Kd.ro 3 (plsU (Bk.players b)))] [] ([SB.box [.int .i64 (Bk.parts b),.int .i64 (Bk.size b),U.lst Kd.ro 1 (intsU (Bk.beats b)),.int .i64 (Bk.start b),.int .i64 (Bk.fin b),.int .i64 (Bk.tlo b),.int .i64 (Bk.thi b),.int .i64 (Bk.slo b),.int .i64 (Bk.shi b),.int .i64 (Bk.notice b),U.lst Kd.ro 3 (plsU (Bk.players b))]]) (.cons rfl (.cons rfl (.cons rfl (.cons rfl (.nil rfl))))) rfl rfl fun fr=>?_
      refine o_gD rfl rfl rfl rfl (decide_eq_false (by omega)) ?_
      refine o_genA [(1,U.box 0 0),(9,U.bool (Decidable.decide (↑(List.length (Bk.beats b))≠(4:Int)))),(11,U.agg [.int .i64 (loB 6),.int .i64 (hiB 6)]),(13,U.lst Kd.ro 3 (plsU (Bk.players b)))] [] ([SB.box [.int .i64 (Bk.parts b),.int .i64 (Bk.size b),U.lst Kd.ro 1 (intsU (Bk.beats b)),.int .i64 (Bk.start b),.int .i64 (Bk.fin b),.int .i64 (Bk.tlo b),.int .i64 (Bk.thi b),.int .i64 (Bk.slo b),.int .i64 (Bk.shi b),.int .i64 (Bk.notice b),U.lst Kd.ro 3 (plsU (Bk.players b))]]) (.cons rfl (.cons rfl (.cons rfl (.cons rfl (.nil rfl))))) rfl rfl fun fr=>?_
      refine o_len rfl ty25 rfl (List.length_map _) ?_
      refine o_gD rfl rfl rfl rfl (decide_eq_false (by omega)) ?_
      refine o_call rfl (q5) (.lrefl _) ?_
      refine o_gD rfl rfl rfl rfl (decide_eq_false (by omega)) ?_
      refine o_not rfl rfl ?_
      refine o_pickF rfl rfl (decide_eq_false (by omega)) ?_
      refine o_nil ?_
      refine k_gen [(1,U.box 0 0),(17,U.bool !Bool.false)] ([SB.box [.int .i64 (Bk.parts b),.int .i64 (Bk.size b),U.lst Kd.ro 1 (intsU (Bk.beats b)),.int .i64 (Bk.start b),.int .i64 (Bk.fin b),.int .i64 (Bk.tlo b),.int .i64 (Bk.thi b),.int .i64 (Bk.slo b),.int .i64 (Bk.shi b),.int .i64 (Bk.notice b),U.lst Kd.ro 3 (plsU (Bk.players b))]]) (.cons rfl (.cons rfl (.nil rfl))) rfl fun fr=>?_
      refine k_cT rfl rfl ?_
      refine k_seq (k_region ?_)
      refine o_assign rfl ?_
      refine o_nil ?_
      refine k_ret ?_
      refine⟨.inr rfl,_,.cons _ _ _ _ (.tmp 2) .nil,?_⟩
      exact .refl _
    |true=>
      rw[h5]at q5
      rw[Bool.true_and]
      have h5':=h5
      unfold inS at h5'
      rw[Bool.and_eq_true,decide_eq_true_eq,decide_eq_true_eq]at h5'
      refine k_seq (k_region ?_)
      refine o_box rfl rfl ?_
      refine o_assign rfl ?_
      refine o_nil ?_
      refine k_gen [(1,U.box 0 0)] ([SB.box [.int .i64 (Bk.parts b),.int .i64 (Bk.size b),U.lst Kd.ro 1 (intsU (Bk.beats b)),.int .i64 (Bk.start b),.int .i64 (Bk.fin b),.int .i64 (Bk.tlo b),.int .i64 (Bk.thi b),.int .i64 (Bk.slo b),.int .i64 (Bk.shi b),.int .i64 (Bk.notice b),U.lst Kd.ro 3 (plsU (Bk.players b))]]) (.cons rfl (.nil rfl)) rfl fun fr=>?_
      refine k_seq ?_
      refine k_seq (k_region ?_)
      refine o_faddr rfl rfl fld27_2 ?_
      refine o_load1 rfl rfl rfl sh22 rfl ?_
      refine o_len rfl ty22 rfl (List.length_map _) ?_
      refine o_neq rfl rfl rfl ?_
      refine o_move rfl ?_
      refine o_gD rfl rfl rfl rfl (decide_eq_false (by omega)) ?_
      refine o_gpairG (i:=6) (c:=2) (n:=10) sh24 rfl rfl rfl (decide_eq_false (by omega)) rfl rfl ty112 cl24 rfl rfl rfl (gatB 6 (by decide)) rfl ?_
      refine o_gD rfl rfl rfl rfl (decide_eq_false (by omega)) ?_
      refine o_faddr rfl rfl fld27_8 ?_
      refine o_gD rfl rfl rfl rfl (decide_eq_false (by omega)) ?_
      refine o_load1 rfl rfl rfl sh25 rfl ?_
      refine o_genA [(1,U.box 0 0),(9,U.bool (Decidable.decide (↑(List.length (Bk.beats b))≠(4:Int)))),(11,U.agg [.int .i64 (loB 6),.int .i64 (hiB 6)]),(13,U.lst Kd.ro 3 (plsU (Bk.players b)))] [] ([SB.box [.int .i64 (Bk.parts b),.int .i64 (Bk.size b),U.lst Kd.ro 1 (intsU (Bk.beats b)),.int .i64 (Bk.start b),.int .i64 (Bk.fin b),.int .i64 (Bk.tlo b),.int .i64 (Bk.thi b),.int .i64 (Bk.slo b),.int .i64 (Bk.shi b),.int .i64 (Bk.notice b),U.lst Kd.ro 3 (plsU (Bk.players b))]]) (.cons rfl (.cons rfl (.cons rfl (.cons rfl (.nil rfl))))) rfl rfl fun fr=>?_
      refine o_gD rfl rfl rfl rfl (decide_eq_false (by omega)) ?_
      refine o_genA [(1,U.box 0 0),(9,U.bool (Decidable.decide (↑(List.length (Bk.beats b))≠(4:Int)))),(11,U.agg [.int .i64 (loB 6),.int .i64 (hiB 6)]),(13,U.lst Kd.ro 3 (plsU (Bk.players b)))] [] ([SB.box [.int .i64 (Bk.parts b),.int .i64 (Bk.size b),U.lst Kd.ro 1 (intsU (Bk.beats b)),.int .i64 (Bk.start b),.int .i64 (Bk.fin b),.int .i64 (Bk.tlo b),.int .i64 (Bk.thi b),.int .i64 (Bk.slo b),.int .i64 (Bk.shi b),.int .i64 (Bk.notice b),U.lst Kd.ro 3 (plsU (Bk.players b))]]) (.cons rfl (.cons rfl (.cons rfl (.cons rfl (.nil rfl))))) rfl rfl fun fr=>?_
      refine o_len rfl ty25 rfl (List.length_map _) ?_
      refine o_gD rfl rfl rfl rfl (decide_eq_false (by omega)) ?_
      refine o_call rfl (q5) (.lrefl _) ?_
      refine o_gD rfl rfl rfl rfl (decide_eq_false (by omega)) ?_
      refine o_not rfl rfl ?_
      refine o_pickF rfl rfl (decide_eq_false (by omega)) ?_
      refine o_nil ?_
      refine k_gen [(1,U.box 0 0),(17,U.bool !Bool.true)] ([SB.box [.int .i64 (Bk.parts b),.int .i64 (Bk.size b),U.lst Kd.ro 1 (intsU (Bk.beats b)),.int .i64 (Bk.start b),.int .i64 (Bk.fin b),.int .i64 (Bk.tlo b),.int .i64 (Bk.thi b),.int .i64 (Bk.slo b),.int .i64 (Bk.shi b),.int .i64 (Bk.notice b),U.lst Kd.ro 3 (plsU (Bk.players b))]]) (.cons rfl (.cons rfl (.nil rfl))) rfl fun fr=>?_
      refine k_cF rfl rfl ?_
      refine k_skip ?_
      refine k_seq ?_
      refine k_seq (k_region ?_)
      refine o_faddr rfl rfl fld27_8 ?_
      refine o_load1 rfl rfl rfl sh25 rfl ?_
      refine o_len rfl ty25 rfl (List.length_map _) ?_
      refine o_move rfl ?_
      refine o_nil ?_
      refine k_block ?_
      obtain⟨V,hV⟩:∃V:List SB,V=[.box b.cs]:=⟨_,rfl⟩
      refine k_loop (fun kk s2=>∃i:Nat,kk+i=b.players.length∧(b.players.take i).all plB=true∧(∃e,s2.st=V++e)∧Holds s2 [(1,.box 0 0),(19,.lst .ro 3 (plsU b.players)),(20,.int .i64 b.players.length),(21,.int .i64 i)]) (fun kk s2 hI=>?_) b.players.length _ ⟨0,rfl,rfl,⟨[],by rw[hV];rfl⟩,.cons rfl (.cons rfl (.cons rfl (.cons rfl (.nil rfl))))⟩
      obtain⟨i,hk,hall,⟨e,hst2⟩,hs2⟩:=hI
      generalize hY:V++e=Y at hst2
      have y0:Y[0]? =some (.box b.cs):=by rw[←hY,hV];rfl
      refine k_gen _ _ hs2 hst2 fun fr2=>?_
      by_cases hin:i<b.players.length
      · obtain⟨p,hp⟩:∃p,b.players[i]? =some p:=⟨b.players[i],List.getElem?_eq_getElem hin⟩
        have q91:=ret91 (orc:=orc) hi p
        cases hc:plB p with
        |true=>
          rw[hc]at q91
          refine k_seq (k_region ?_)
          refine o_lss rfl rfl rfl ?_
          refine o_nil ?_
          refine k_seq ?_
          refine k_cT rfl (decide_eq_true (by omega)) ?_
          refine k_skip ?_
          refine k_seq ?_
          refine k_block ?_
          refine k_seq (k_region ?_)
          refine o_idx (u:=(p).u) rfl ty25 rfl rfl (Int.natCast_nonneg _) (by simp[hp]) cl68 ?_
          refine o_loadRN rfl rfl sh68 rfl ?_
          refine o_alloc rfl ze68 ?_
          refine o_storeN rfl (at_new _ _) sh68 rfl rfl rfl rfl rfl ?_
          refine o_nil ?_
          refine k_gen [(1,U.box 0 0),(4,U.box (List.length Y) 0),(19,U.lst Kd.ro 3 (plsU (Bk.players b))),(20,.int .i64 ↑(List.length (Bk.players b))),(21,.int .i64 ↑i)] (Y++[SB.box [.int .i64 (Pl.la p),.int .i64 (Pl.lb p),U.lst Kd.ro 2 (twosU (Pl.cat p))]]) (.cons rfl (.cons rfl (.cons rfl (.cons rfl (.cons rfl (.nil rfl)))))) (set_end _ _ _) fun fr=>?_
          refine k_seq (k_region ?_)
          refine o_loadN rfl rfl (at_new _ _) sh68 rfl ?_
          refine o_call rfl (q91) (.lrefl _) ?_
          refine o_not rfl rfl ?_
          refine o_nil ?_
          refine k_cF rfl rfl ?_
          refine k_skip ?_
          refine k_region ?_
          refine o_add rfl rfl rfl (by unfold I64;omega) ?_
          refine o_move rfl ?_
          refine o_nil ?_
          exact⟨kk - 1,by omega,i+1,by omega,all_take hp hall hc,⟨_,by show Y++_=_;exact grow hY⟩,.cons rfl (.cons rfl (.cons rfl (.cons rfl (.nil rfl))))⟩
        |false=>
          rw[hc]at q91
          rw[all_not hp hc,Bool.false_and]
          refine k_seq (k_region ?_)
          refine o_lss rfl rfl rfl ?_
          refine o_nil ?_
          refine k_seq ?_
          refine k_cT rfl (decide_eq_true (by omega)) ?_
          refine k_skip ?_
          refine k_seq ?_
          refine k_block ?_
          refine k_seq (k_region ?_)
          refine o_idx (u:=(p).u) rfl ty25 rfl rfl (Int.natCast_nonneg _) (by simp[hp]) cl68 ?_
          refine o_loadRN rfl rfl sh68 rfl ?_
          refine o_alloc rfl ze68 ?_
          refine o_storeN rfl (at_new _ _) sh68 rfl rfl rfl rfl rfl ?_
          refine o_nil ?_
          refine k_gen [(1,U.box 0 0),(4,U.box (List.length Y) 0),(19,U.lst Kd.ro 3 (plsU (Bk.players b))),(20,.int .i64 ↑(List.length (Bk.players b))),(21,.int .i64 ↑i)] (Y++[SB.box [.int .i64 (Pl.la p),.int .i64 (Pl.lb p),U.lst Kd.ro 2 (twosU (Pl.cat p))]]) (.cons rfl (.cons rfl (.cons rfl (.cons rfl (.cons rfl (.nil rfl)))))) (set_end _ _ _) fun fr=>?_
          refine k_seq (k_region ?_)
          refine o_loadN rfl rfl (at_new _ _) sh68 rfl ?_
          refine o_call rfl (q91) (.lrefl _) ?_
          refine o_not rfl rfl ?_
          refine o_nil ?_
          refine k_cT rfl rfl ?_
          refine k_seq (k_region ?_)
          refine o_assign rfl ?_
          refine o_nil ?_
          refine k_ret ?_
          refine⟨.inr rfl,_,.cons _ _ _ _ (.tmp 2) .nil,?_⟩
          exact .refl _
      · have hiN:i=b.players.length:=by omega
        subst hiN
        rw[List.take_length]at hall
        rw[hall,Bool.true_and]
        refine k_seq (k_region ?_)
        refine o_lss rfl rfl rfl ?_
        refine o_nil ?_
        refine k_seq ?_
        refine k_cF rfl (decide_eq_false (by omega)) ?_
        refine k_exit ?_
        unfold vlB
        have c1:=ret90 (orc:=orc) hi 1 8 b.parts
        have c2:=ret90 (orc:=orc) hi 1 16 b.size
        have c3:=ret92 (orc:=orc) hi 1 1000 b.beats (by omega)
        have c4:=ret92 (orc:=orc) hi 0 3 [b.start,b.fin] (by simp)
        have c5:=ret93 (orc:=orc) hi 0 128000 [⟨b.tlo,b.thi⟩] (by simp)
        have c6:=ret93 (orc:=orc) hi 0 100 [⟨b.slo,b.shi⟩] (by simp)
        have c7:=ret90 (orc:=orc) hi 1 b.size b.notice
        rw[show [(⟨b.tlo,b.thi⟩:Two)].all (spB 0 128000)=spB 0 128000 ⟨b.tlo,b.thi⟩ by simp]at c5
        rw[show [(⟨b.slo,b.shi⟩:Two)].all (spB 0 100)=spB 0 100 ⟨b.slo,b.shi⟩ by simp]at c6
        generalize inS 1 8 b.parts=z1 at c1
        generalize inS 1 16 b.size=z2 at c2
        generalize b.beats.all (inS 1 1000)=z3 at c3
        generalize [b.start,b.fin].all (inS 0 3)=z4 at c4
        generalize spB 0 128000 ⟨b.tlo,b.thi⟩=z5 at c5
        generalize spB 0 100 ⟨b.slo,b.shi⟩=z6 at c6
        generalize inS 1 b.size b.notice=z7 at c7
        refine k_seq (k_region ?_)
        refine o_gpair (i:=0) (c:=2) (n:=10) sh24 rfl rfl ty112 cl24 rfl rfl rfl (gatB 0 (by decide)) rfl ?_
        refine o_faddr rfl rfl fld27_0 ?_
        refine o_load1 rfl rfl y0 sh3 rfl ?_
        refine o_call rfl (c1) (.lrefl _) ?_
        refine o_move rfl ?_
        refine o_guardX rfl rfl rfl rfl (fun h34=>?_) (fun h34=>?_)
        · refine o_gpairG (i:=1) (c:=2) (n:=10) sh24 rfl rfl rfl (by assumption) rfl rfl ty112 cl24 rfl rfl rfl (gatB 1 (by decide)) rfl ?_
          refine o_gD rfl rfl rfl rfl (by assumption) ?_
          refine o_faddr rfl rfl fld27_1 ?_
          refine o_genA [(1,U.box 0 0),(34,U.bool z1),(36,U.agg [.int .i64 (loB 1),.int .i64 (hiB 1)]),(37,U.box 0 1)] [] (Y) (.cons rfl (.cons rfl (.cons rfl (.cons rfl (.nil rfl))))) rfl rfl fun fr=>?_
          refine o_gD rfl rfl rfl rfl (by assumption) ?_
          refine o_genA [(1,U.box 0 0),(34,U.bool z1),(36,U.agg [.int .i64 (loB 1),.int .i64 (hiB 1)]),(37,U.box 0 1)] [] (Y) (.cons rfl (.cons rfl (.cons rfl (.cons rfl (.nil rfl))))) rfl rfl fun fr=>?_
          refine o_load1 rfl rfl y0 sh3 rfl ?_
          refine o_gD rfl rfl rfl rfl (by assumption) ?_
          refine o_call rfl (c2) (.lrefl _) ?_
          refine o_pickT rfl rfl (by assumption) ?_
          refine o_move rfl ?_
          refine o_guardX rfl rfl rfl rfl (fun h41=>?_) (fun h41=>?_)
          · refine o_gpairG (i:=2) (c:=2) (n:=10) sh24 rfl rfl rfl (by assumption) rfl rfl ty112 cl24 rfl rfl rfl (gatB 2 (by decide)) rfl ?_
            refine o_gD rfl rfl rfl rfl (by assumption) ?_
            refine o_faddr rfl rfl fld27_2 ?_
            refine o_gD rfl rfl rfl rfl (by assumption) ?_
            refine o_load1 rfl rfl y0 sh22 rfl ?_
            refine o_gD rfl rfl rfl rfl (by assumption) ?_
            refine o_call rfl (c3) (.lrefl _) ?_
            refine o_genA [(1,U.box 0 0),(41,U.bool z2),(46,U.bool z3)] [] (Y) (.cons rfl (.cons rfl (.cons rfl (.nil rfl)))) rfl rfl fun fr=>?_
            refine o_pickT rfl rfl (by assumption) ?_
            refine o_move rfl ?_
            refine o_guardX rfl rfl rfl rfl (fun h48=>?_) (fun h48=>?_)
            · refine o_gpairG (i:=3) (c:=2) (n:=10) sh24 rfl rfl rfl (by assumption) rfl rfl ty112 cl24 rfl rfl rfl (gatB 3 (by decide)) rfl ?_
              refine o_gD rfl rfl rfl rfl (by assumption) ?_
              refine o_faddr rfl rfl fld27_3 ?_
              refine o_gD rfl rfl rfl rfl (by assumption) ?_
              refine o_load1 rfl rfl y0 sh3 rfl ?_
              refine o_gD rfl rfl rfl rfl (by assumption) ?_
              refine o_faddr rfl rfl fld27_4 ?_
              refine o_gD rfl rfl rfl rfl (by assumption) ?_
              refine o_load1 rfl rfl y0 sh3 rfl ?_
              refine o_gD rfl rfl rfl rfl (by assumption) ?_
              refine o_lit (es:=[.int .i64 (Bk.start b),.int .i64 (Bk.fin b)]) rfl ty22 ze3 cl3 rfl rfl rfl rfl rfl rfl rfl rfl ?_
              refine o_genA [(1,U.box 0 0),(48,U.bool z3),(50,U.agg [.int .i64 (loB 3),.int .i64 (hiB 3)]),(55,U.lst Kd.full 1 [.int .i64 (Bk.start b),.int .i64 (Bk.fin b)])] [] (Y) (.cons rfl (.cons rfl (.cons rfl (.cons rfl (.nil rfl))))) rfl rfl fun fr=>?_
              refine o_gD rfl rfl rfl rfl (by assumption) ?_
              refine o_genA [(1,U.box 0 0),(48,U.bool z3),(50,U.agg [.int .i64 (loB 3),.int .i64 (hiB 3)]),(55,U.lst Kd.full 1 [.int .i64 (Bk.start b),.int .i64 (Bk.fin b)])] [] (Y) (.cons rfl (.cons rfl (.cons rfl (.cons rfl (.nil rfl))))) rfl rfl fun fr=>?_
              refine o_call rfl (c4) (.lcons _ _ _ _ (.refl _) (.lcons _ _ _ _ (.ro _ _ _) (.lrefl _))) ?_
              refine o_pickT rfl rfl (by assumption) ?_
              refine o_move rfl ?_
              refine o_guardX rfl rfl rfl rfl (fun h58=>?_) (fun h58=>?_)
              · refine o_gpairG (i:=4) (c:=2) (n:=10) sh24 rfl rfl rfl (by assumption) rfl rfl ty112 cl24 rfl rfl rfl (gatB 4 (by decide)) rfl ?_
                refine o_gD rfl rfl rfl rfl (by assumption) ?_
                refine o_faddr rfl rfl fld27_5 ?_
                refine o_gD rfl rfl rfl rfl (by assumption) ?_
                refine o_loadN rfl rfl y0 sh24 rfl ?_
                refine o_gD rfl rfl rfl rfl (by assumption) ?_
                refine o_lit (es:=[U.agg [.int .i64 (Bk.tlo b),.int .i64 (Bk.thi b)]]) rfl ty66 ze24 cl24 rfl rfl rfl rfl rfl rfl rfl rfl ?_
                refine o_gD rfl rfl rfl rfl (by assumption) ?_
                refine o_call rfl (c5) (.lcons _ _ _ _ (.refl _) (.lcons _ _ _ _ (.ro _ _ _) (.lrefl _))) ?_
                refine o_genA [(1,U.box 0 0),(58,U.bool z4),(64,U.bool z5)] [] (Y) (.cons rfl (.cons rfl (.cons rfl (.nil rfl)))) rfl rfl fun fr=>?_
                refine o_pickT rfl rfl (by assumption) ?_
                refine o_move rfl ?_
                refine o_guardX rfl rfl rfl rfl (fun h66=>?_) (fun h66=>?_)
                · refine o_gpairG (i:=5) (c:=2) (n:=10) sh24 rfl rfl rfl (by assumption) rfl rfl ty112 cl24 rfl rfl rfl (gatB 5 (by decide)) rfl ?_
                  refine o_gD rfl rfl rfl rfl (by assumption) ?_
                  refine o_faddr rfl rfl fld27_6 ?_
                  refine o_gD rfl rfl rfl rfl (by assumption) ?_
                  refine o_loadN rfl rfl y0 sh24 rfl ?_
                  refine o_gD rfl rfl rfl rfl (by assumption) ?_
                  refine o_lit (es:=[U.agg [.int .i64 (Bk.slo b),.int .i64 (Bk.shi b)]]) rfl ty66 ze24 cl24 rfl rfl rfl rfl rfl rfl rfl rfl ?_
                  refine o_gD rfl rfl rfl rfl (by assumption) ?_
                  refine o_call rfl (c6) (.lcons _ _ _ _ (.refl _) (.lcons _ _ _ _ (.ro _ _ _) (.lrefl _))) ?_
                  refine o_pickT rfl rfl (by assumption) ?_
                  refine o_genA [(1,U.box 0 0),(73,U.bool z6)] [] (Y) (.cons rfl (.cons rfl (.nil rfl))) rfl rfl fun fr=>?_
                  refine o_move rfl ?_
                  refine o_guardX rfl rfl rfl rfl (fun h74=>?_) (fun h74=>?_)
                  · refine o_faddr rfl rfl fld27_1 ?_
                    refine o_gD rfl rfl rfl rfl (by assumption) ?_
                    refine o_load1 rfl rfl y0 sh3 rfl ?_
                    refine o_gD rfl rfl rfl rfl (by assumption) ?_
                    refine o_build rfl ze24 pl24 rfl rfl ?_
                    refine o_gD rfl rfl rfl rfl (by assumption) ?_
                    refine o_faddr rfl rfl fld27_7 ?_
                    refine o_gD rfl rfl rfl rfl (by assumption) ?_
                    refine o_load1 rfl rfl y0 sh3 rfl ?_
                    refine o_gD rfl rfl rfl rfl (by assumption) ?_
                    refine o_call rfl (c7) (.lrefl _) ?_
                    refine o_pickT rfl rfl (by assumption) ?_
                    refine o_assign rfl ?_
                    refine o_nil ?_
                    refine k_ret ?_
                    refine⟨.inr rfl,_,.cons _ _ _ _ (.tmp 2) .nil,?_⟩
                    subst_vars;exact .refl _
                  · refine o_gS rfl rfl rfl rfl (by assumption) ?_
                    refine o_gS rfl rfl rfl rfl (by assumption) ?_
                    refine o_gS rfl rfl rfl rfl (by assumption) ?_
                    refine o_gS rfl rfl rfl rfl (by assumption) ?_
                    refine o_gS rfl rfl rfl rfl (by assumption) ?_
                    refine o_pickF rfl rfl (by assumption) ?_
                    refine o_assign rfl ?_
                    refine o_nil ?_
                    refine k_ret ?_
                    refine⟨.inr rfl,_,.cons _ _ _ _ (.tmp 2) .nil,?_⟩
                    subst_vars;exact .refl _
                · refine o_gS rfl rfl rfl rfl (by assumption) ?_
                  refine o_gS rfl rfl rfl rfl (by assumption) ?_
                  refine o_gS rfl rfl rfl rfl (by assumption) ?_
                  refine o_gS rfl rfl rfl rfl (by assumption) ?_
                  refine o_gS rfl rfl rfl rfl (by assumption) ?_
                  refine o_pickF rfl rfl (by assumption) ?_
                  refine o_genA [(1,U.box 0 0),(73,U.bool Bool.false)] [] (Y) (.cons rfl (.cons rfl (.nil rfl))) rfl rfl fun fr=>?_
                  refine o_move rfl ?_
                  refine o_gS rfl rfl rfl rfl rfl ?_
                  refine o_gS rfl rfl rfl rfl rfl ?_
                  refine o_gS rfl rfl rfl rfl rfl ?_
                  refine o_gS rfl rfl rfl rfl rfl ?_
                  refine o_gS rfl rfl rfl rfl rfl ?_
                  refine o_gS rfl rfl rfl rfl rfl ?_
                  refine o_pickF rfl rfl rfl ?_
                  refine o_assign rfl ?_
                  refine o_nil ?_
                  refine k_ret ?_
                  refine⟨.inr rfl,_,.cons _ _ _ _ (.tmp 2) .nil,?_⟩
                  subst_vars;exact .refl _
              · refine o_gS rfl rfl rfl rfl (by assumption) ?_
                refine o_gS rfl rfl rfl rfl (by assumption) ?_
                refine o_gS rfl rfl rfl rfl (by assumption) ?_
                refine o_gS rfl rfl rfl rfl (by assumption) ?_
                refine o_gS rfl rfl rfl rfl (by assumption) ?_
                refine o_genA [(1,U.box 0 0),(58,U.bool z4),(64,U.tup [])] [] (Y) (.cons rfl (.cons rfl (.cons rfl (.nil rfl)))) rfl rfl fun fr=>?_
                refine o_pickF rfl rfl (by assumption) ?_
                refine o_move rfl ?_
                refine o_gS rfl rfl rfl rfl rfl ?_
                refine o_gS rfl rfl rfl rfl rfl ?_
                refine o_gS rfl rfl rfl rfl rfl ?_
                refine o_gS rfl rfl rfl rfl rfl ?_
                refine o_gS rfl rfl rfl rfl rfl ?_
                refine o_gS rfl rfl rfl rfl rfl ?_
                refine o_pickF rfl rfl rfl ?_
                refine o_genA [(1,U.box 0 0),(73,U.bool Bool.false)] [] (Y) (.cons rfl (.cons rfl (.nil rfl))) rfl rfl fun fr=>?_
                refine o_move rfl ?_
                refine o_gS rfl rfl rfl rfl rfl ?_
                refine o_gS rfl rfl rfl rfl rfl ?_
                refine o_gS rfl rfl rfl rfl rfl ?_
                refine o_gS rfl rfl rfl rfl rfl ?_
                refine o_gS rfl rfl rfl rfl rfl ?_
                refine o_gS rfl rfl rfl rfl rfl ?_
                refine o_pickF rfl rfl rfl ?_
                refine o_assign rfl ?_
                refine o_nil ?_
                refine k_ret ?_
                refine⟨.inr rfl,_,.cons _ _ _ _ (.tmp 2) .nil,?_⟩
                subst_vars;exact .refl _
            · refine o_gS rfl rfl rfl rfl (by assumption) ?_
              refine o_gS rfl rfl rfl rfl (by assumption) ?_
              refine o_gS rfl rfl rfl rfl (by assumption) ?_
              refine o_gS rfl rfl rfl rfl (by assumption) ?_
              refine o_gS rfl rfl rfl rfl (by assumption) ?_
              refine o_gS rfl rfl rfl rfl (by assumption) ?_
              refine o_genA [(1,U.box 0 0),(48,U.bool z3),(50,U.tup []),(55,U.tup [])] [] (Y) (.cons rfl (.cons rfl (.cons rfl (.cons rfl (.nil rfl))))) rfl rfl fun fr=>?_
              refine o_gS rfl rfl rfl rfl (by assumption) ?_
              refine o_pickF rfl rfl (by assumption) ?_
              refine o_move rfl ?_
              refine o_gS rfl rfl rfl rfl rfl ?_
              refine o_gS rfl rfl rfl rfl rfl ?_
              refine o_gS rfl rfl rfl rfl rfl ?_
              refine o_gS rfl rfl rfl rfl rfl ?_
              refine o_gS rfl rfl rfl rfl rfl ?_
              refine o_gS rfl rfl rfl rfl rfl ?_
              refine o_genA [(1,U.box 0 0),(58,U.bool Bool.false),(64,U.tup [])] [] (Y) (.cons rfl (.cons rfl (.cons rfl (.nil rfl)))) rfl rfl fun fr=>?_
              refine o_pickF rfl rfl rfl ?_
              refine o_move rfl ?_
              refine o_gS rfl rfl rfl rfl rfl ?_
              refine o_gS rfl rfl rfl rfl rfl ?_
              refine o_gS rfl rfl rfl rfl rfl ?_
              refine o_gS rfl rfl rfl rfl rfl ?_
              refine o_gS rfl rfl rfl rfl rfl ?_
              refine o_gS rfl rfl rfl rfl rfl ?_
              refine o_pickF rfl rfl rfl ?_
              refine o_genA [(1,U.box 0 0),(73,U.bool Bool.false)] [] (Y) (.cons rfl (.cons rfl (.nil rfl))) rfl rfl fun fr=>?_
              refine o_move rfl ?_
              refine o_gS rfl rfl rfl rfl rfl ?_
              refine o_gS rfl rfl rfl rfl rfl ?_
              refine o_gS rfl rfl rfl rfl rfl ?_
              refine o_gS rfl rfl rfl rfl rfl ?_
              refine o_gS rfl rfl rfl rfl rfl ?_
              refine o_gS rfl rfl rfl rfl rfl ?_
              refine o_pickF rfl rfl rfl ?_
              refine o_assign rfl ?_
              refine o_nil ?_
              refine k_ret ?_
              refine⟨.inr rfl,_,.cons _ _ _ _ (.tmp 2) .nil,?_⟩
              subst_vars;exact .refl _
          · refine o_gS rfl rfl rfl rfl (by assumption) ?_
            refine o_gS rfl rfl rfl rfl (by assumption) ?_
            refine o_gS rfl rfl rfl rfl (by assumption) ?_
            refine o_gS rfl rfl rfl rfl (by assumption) ?_
            refine o_genA [(1,U.box 0 0),(41,U.bool z2),(46,U.tup [])] [] (Y) (.cons rfl (.cons rfl (.cons rfl (.nil rfl)))) rfl rfl fun fr=>?_
            refine o_pickF rfl rfl (by assumption) ?_
            refine o_move rfl ?_
            refine o_gS rfl rfl rfl rfl rfl ?_
            refine o_gS rfl rfl rfl rfl rfl ?_
            refine o_gS rfl rfl rfl rfl rfl ?_
            refine o_gS rfl rfl rfl rfl rfl ?_
            refine o_gS rfl rfl rfl rfl rfl ?_
            refine o_gS rfl rfl rfl rfl rfl ?_
            refine o_gS rfl rfl rfl rfl rfl ?_
            refine o_genA [(1,U.box 0 0),(48,U.bool Bool.false),(50,U.tup []),(55,U.tup [])] [] (Y) (.cons rfl (.cons rfl (.cons rfl (.cons rfl (.nil rfl))))) rfl rfl fun fr=>?_
            refine o_gS rfl rfl rfl rfl rfl ?_
            refine o_pickF rfl rfl rfl ?_
            refine o_move rfl ?_
            refine o_gS rfl rfl rfl rfl rfl ?_
            refine o_gS rfl rfl rfl rfl rfl ?_
            refine o_gS rfl rfl rfl rfl rfl ?_
            refine o_gS rfl rfl rfl rfl rfl ?_
            refine o_gS rfl rfl rfl rfl rfl ?_
            refine o_gS rfl rfl rfl rfl rfl ?_
            refine o_genA [(1,U.box 0 0),(58,U.bool Bool.false),(64,U.tup [])] [] (Y) (.cons rfl (.cons rfl (.cons rfl (.nil rfl)))) rfl rfl fun fr=>?_
            refine o_pickF rfl rfl rfl ?_
            refine o_move rfl ?_
            refine o_gS rfl rfl rfl rfl rfl ?_
            refine o_gS rfl rfl rfl rfl rfl ?_
            refine o_gS rfl rfl rfl rfl rfl ?_
            refine o_gS rfl rfl rfl rfl rfl ?_
            refine o_gS rfl rfl rfl rfl rfl ?_
            refine o_gS rfl rfl rfl rfl rfl ?_
            refine o_pickF rfl rfl rfl ?_
            refine o_genA [(1,U.box 0 0),(73,U.bool Bool.false)] [] (Y) (.cons rfl (.cons rfl (.nil rfl))) rfl rfl fun fr=>?_
            refine o_move rfl ?_
            refine o_gS rfl rfl rfl rfl rfl ?_
            refine o_gS rfl rfl rfl rfl rfl ?_
            refine o_gS rfl rfl rfl rfl rfl ?_
            refine o_gS rfl rfl rfl rfl rfl ?_
            refine o_gS rfl rfl rfl rfl rfl ?_
            refine o_gS rfl rfl rfl rfl rfl ?_
            refine o_pickF rfl rfl rfl ?_
            refine o_assign rfl ?_
            refine o_nil ?_
            refine k_ret ?_
            refine⟨.inr rfl,_,.cons _ _ _ _ (.tmp 2) .nil,?_⟩
            subst_vars;exact .refl _
        · refine o_gS rfl rfl rfl rfl (by assumption) ?_
          refine o_gS rfl rfl rfl rfl (by assumption) ?_
          refine o_genA [(1,U.box 0 0),(34,U.bool z1),(36,U.tup []),(37,U.tup [])] [] (Y) (.cons rfl (.cons rfl (.cons rfl (.cons rfl (.nil rfl))))) rfl rfl fun fr=>?_
          refine o_gS rfl rfl rfl rfl (by assumption) ?_
          refine o_gS rfl rfl rfl rfl (by assumption) ?_
          refine o_pickF rfl rfl (by assumption) ?_
          refine o_move rfl ?_
          refine o_gS rfl rfl rfl rfl rfl ?_
          refine o_gS rfl rfl rfl rfl rfl ?_
          refine o_gS rfl rfl rfl rfl rfl ?_
          refine o_gS rfl rfl rfl rfl rfl ?_
          refine o_gS rfl rfl rfl rfl rfl ?_
          refine o_genA [(1,U.box 0 0),(41,U.bool Bool.false),(46,U.tup [])] [] (Y) (.cons rfl (.cons rfl (.cons rfl (.nil rfl)))) rfl rfl fun fr=>?_
          refine o_pickF rfl rfl rfl ?_
          refine o_move rfl ?_
          refine o_gS rfl rfl rfl rfl rfl ?_
          refine o_gS rfl rfl rfl rfl rfl ?_
          refine o_gS rfl rfl rfl rfl rfl ?_
          refine o_gS rfl rfl rfl rfl rfl ?_
          refine o_gS rfl rfl rfl rfl rfl ?_
          refine o_gS rfl rfl rfl rfl rfl ?_
          refine o_gS rfl rfl rfl rfl rfl ?_
          refine o_genA [(1,U.box 0 0),(48,U.bool Bool.false),(50,U.tup []),(55,U.tup [])] [] (Y) (.cons rfl (.cons rfl (.cons rfl (.cons rfl (.nil rfl))))) rfl rfl fun fr=>?_
          refine o_gS rfl rfl rfl rfl rfl ?_
          refine o_pickF rfl rfl rfl ?_
          refine o_move rfl ?_
          refine o_gS rfl rfl rfl rfl rfl ?_
          refine o_gS rfl rfl rfl rfl rfl ?_
          refine o_gS rfl rfl rfl rfl rfl ?_
          refine o_gS rfl rfl rfl rfl rfl ?_
          refine o_gS rfl rfl rfl rfl rfl ?_
          refine o_gS rfl rfl rfl rfl rfl ?_
          refine o_genA [(1,U.box 0 0),(58,U.bool Bool.false),(64,U.tup [])] [] (Y) (.cons rfl (.cons rfl (.cons rfl (.nil rfl)))) rfl rfl fun fr=>?_
          refine o_pickF rfl rfl rfl ?_
          refine o_move rfl ?_
          refine o_gS rfl rfl rfl rfl rfl ?_
          refine o_gS rfl rfl rfl rfl rfl ?_
          refine o_gS rfl rfl rfl rfl rfl ?_
          refine o_gS rfl rfl rfl rfl rfl ?_
          refine o_gS rfl rfl rfl rfl rfl ?_
          refine o_gS rfl rfl rfl rfl rfl ?_
          refine o_pickF rfl rfl rfl ?_
          refine o_genA [(1,U.box 0 0),(73,U.bool Bool.false)] [] (Y) (.cons rfl (.cons rfl (.nil rfl))) rfl rfl fun fr=>?_
          refine o_move rfl ?_
          refine o_gS rfl rfl rfl rfl rfl ?_
          refine o_gS rfl rfl rfl rfl rfl ?_
          refine o_gS rfl rfl rfl rfl rfl ?_
          refine o_gS rfl rfl rfl rfl rfl ?_
          refine o_gS rfl rfl rfl rfl rfl ?_
          refine o_gS rfl rfl rfl rfl rfl ?_
          refine o_pickF rfl rfl rfl ?_
          refine o_assign rfl ?_
          refine o_nil ?_
          refine k_ret ?_
          refine⟨.inr rfl,_,.cons _ _ _ _ (.tmp 2) .nil,?_⟩
          subst_vars;exact .refl _
  · rw[decide_eq_false h4,Bool.false_and]
    refine k_seq (k_region ?_)
    refine o_box rfl rfl ?_
    refine o_assign rfl ?_
    refine o_nil ?_
    refine k_gen [(1,U.box 0 0)] ([SB.box [.int .i64 (Bk.parts b),.int .i64 (Bk.size b),U.lst Kd.ro 1 (intsU (Bk.beats b)),.int .i64 (Bk.start b),.int .i64 (Bk.fin b),.int .i64 (Bk.tlo b),.int .i64 (Bk.thi b),.int .i64 (Bk.slo b),.int .i64 (Bk.shi b),.int .i64 (Bk.notice b),U.lst Kd.ro 3 (plsU (Bk.players b))]]) (.cons rfl (.nil rfl)) rfl fun fr=>?_
    refine k_seq ?_
    refine k_seq (k_region ?_)
    refine o_faddr rfl rfl fld27_2 ?_
    refine o_load1 rfl rfl rfl sh22 rfl ?_
    refine o_len rfl ty22 rfl (List.length_map _) ?_
    refine o_neq rfl rfl rfl ?_
    refine o_move rfl ?_
    refine o_gS rfl rfl rfl rfl (decide_eq_true (by omega)) ?_
    refine o_gS rfl rfl rfl rfl (decide_eq_true (by omega)) ?_
    refine o_gS rfl rfl rfl rfl (decide_eq_true (by omega)) ?_
    refine o_gS rfl rfl rfl rfl (decide_eq_true (by omega)) ?_
    refine o_genA [(1,U.box 0 0),(9,U.bool (Decidable.decide (↑(List.length (Bk.beats b))≠(4:Int)))),(11,U.tup []),(13,U.tup [])] [] ([SB.box [.int .i64 (Bk.parts b),.int .i64 (Bk.size b),U.lst Kd.ro 1 (intsU (Bk.beats b)),.int .i64 (Bk.start b),.int .i64 (Bk.fin b),.int .i64 (Bk.tlo b),.int .i64 (Bk.thi b),.int .i64 (Bk.slo b),.int .i64 (Bk.shi b),.int .i64 (Bk.notice b),U.lst Kd.ro 3 (plsU (Bk.players b))]]) (.cons rfl (.cons rfl (.cons rfl (.cons rfl (.nil rfl))))) rfl rfl fun fr=>?_
    refine o_gS rfl rfl rfl rfl (decide_eq_true (by omega)) ?_
    refine o_gS rfl rfl rfl rfl (decide_eq_true (by omega)) ?_
    refine o_gS rfl rfl rfl rfl (decide_eq_true (by omega)) ?_
    refine o_pickT rfl rfl (decide_eq_true (by omega)) ?_
    refine o_nil ?_
    refine k_gen [(1,U.box 0 0),(17,U.bool Bool.true)] ([SB.box [.int .i64 (Bk.parts b),.int .i64 (Bk.size b),U.lst Kd.ro 1 (intsU (Bk.beats b)),.int .i64 (Bk.start b),.int .i64 (Bk.fin b),.int .i64 (Bk.tlo b),.int .i64 (Bk.thi b),.int .i64 (Bk.slo b),.int .i64 (Bk.shi b),.int .i64 (Bk.notice b),U.lst Kd.ro 3 (plsU (Bk.players b))]]) (.cons rfl (.cons rfl (.nil rfl))) rfl fun fr=>?_
    refine k_cT rfl rfl ?_
    refine k_seq (k_region ?_)
    refine o_assign rfl ?_
    refine o_nil ?_
    refine k_ret ?_
    refine⟨.inr rfl,_,.cons _ _ _ _ (.tmp 2) .nil,?_⟩
    exact .refl _
theorem ret17(hi:Off is)(b:Bk):RetP Tryd.prog is orc 17 [b.u] (.int .i64 (if validB b=true then 0 else 80)):=by
  have q58:=ret58 (orc:=orc) hi b
  refine ret_of body17 pure17 (hi 17 (by decide)) rfl rfl (dat_l1 (dat_bk b 4)) (.inl (.int _ _ _)) ?_
  cases hv:validB b with
  |true=>
    rw[hv]at q58
    rw[if_pos rfl]
    refine k_seq (k_region ?_)
    refine o_box rfl rfl ?_
    refine o_assign rfl ?_
    refine o_nil ?_
    refine k_gen [(1,U.box 0 0)] ([SB.box [.int .i64 (Bk.parts b),.int .i64 (Bk.size b),U.lst Kd.ro 1 (intsU (Bk.beats b)),.int .i64 (Bk.start b),.int .i64 (Bk.fin b),.int .i64 (Bk.tlo b),.int .i64 (Bk.thi b),.int .i64 (Bk.slo b),.int .i64 (Bk.shi b),.int .i64 (Bk.notice b),U.lst Kd.ro 3 (plsU (Bk.players b))]]) (.cons rfl (.nil rfl)) rfl fun fr=>?_
    refine k_seq ?_
    refine k_seq (k_region ?_)
    refine o_loadN rfl rfl rfl sh27 rfl ?_
    refine o_call rfl (q58) (.lrefl _) ?_
    refine o_not rfl rfl ?_
    refine o_nil ?_
    refine k_cF rfl rfl ?_
    refine k_skip ?_
    refine k_seq (k_region ?_)
    refine o_assign rfl ?_
    refine o_nil ?_
    refine k_ret ?_
    refine⟨.inr rfl,_,.cons _ _ _ _ (.tmp 2) .nil,?_⟩
    exact .refl _
  |false=>
    rw[hv]at q58
    rw[if_neg (by decide)]
    refine k_seq (k_region ?_)
    refine o_box rfl rfl ?_
    refine o_assign rfl ?_
    refine o_nil ?_
    refine k_gen [(1,U.box 0 0)] ([SB.box [.int .i64 (Bk.parts b),.int .i64 (Bk.size b),U.lst Kd.ro 1 (intsU (Bk.beats b)),.int .i64 (Bk.start b),.int .i64 (Bk.fin b),.int .i64 (Bk.tlo b),.int .i64 (Bk.thi b),.int .i64 (Bk.slo b),.int .i64 (Bk.shi b),.int .i64 (Bk.notice b),U.lst Kd.ro 3 (plsU (Bk.players b))]]) (.cons rfl (.nil rfl)) rfl fun fr=>?_
    refine k_seq ?_
    refine k_seq (k_region ?_)
    refine o_loadN rfl rfl rfl sh27 rfl ?_
    refine o_call rfl (q58) (.lrefl _) ?_
    refine o_not rfl rfl ?_
    refine o_nil ?_
    refine k_cT rfl rfl ?_
    refine k_seq (k_region ?_)
    refine o_assign rfl ?_
    refine o_nil ?_
    refine k_ret ?_
    refine⟨.inr rfl,_,.cons _ _ _ _ (.tmp 2) .nil,?_⟩
    exact .refl _
end Go.Proofs.YtfbmlibilcjlgaaDoor.drumCued
