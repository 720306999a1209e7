/- drum's functions, the specification's and the law's, by the logic of trees: what each gives back for all that it may be given. -/
import Derived.Test.YtfbmlibilcjlgaaDoorVamT2
set_option linter.unusedVariables false
set_option linter.unusedSimpArgs false
set_option linter.constructorNameAsVariable false
/-! ### drum: the law's sound -/
namespace Go.Proofs.YtfbmlibilcjlgaaDoor.drumCued
open Vam
variable {is:FuncId→Bool}{orc:Known}
-- 38 saron/saronlaw08.sound params [27] pure True
noncomputable def b38:Code:=(Tryd.f38.body).getD .skip
theorem body38:bodyOf Tryd.prog 38=some (117,b38,[.tmp 2]):=by kernel_rfl
theorem pure38:pureFn Tryd.prog 38=true:=by kernel_rfl
structure BOk(b:Bk):Prop where
  n4:b.beats.length=4
  pn:1≤b.players.length∧b.players.length≤5
  pl:∀p∈b.players,(0≤p.la∧p.la≤p.lb∧p.lb≤500)∧p.cat.length=4∧∀c∈p.cat,0≤c.a∧c.a≤c.b∧c.b≤100
  pa:1≤b.parts∧b.parts≤8
  sz:1≤b.size∧b.size≤16
  bt:∀x∈b.beats,1≤x∧x≤1000
  st:0≤b.start∧b.start≤3
  fi:0≤b.fin∧b.fin≤3
  ti:0≤b.tlo∧b.tlo≤b.thi∧b.thi≤128000
  sl:0≤b.slo∧b.slo≤b.shi∧b.shi≤100
  no:1≤b.notice∧b.notice≤b.size
theorem inS_iff{a b n:Int}:inS a b n=true↔a≤n∧n≤b:=by
  unfold inS
  rw[Bool.and_eq_true,decide_eq_true_eq,decide_eq_true_eq]
theorem spB_iff{a b:Int}{q:Two}:spB a b q=true↔a≤q.a∧q.a≤q.b∧q.b≤b:=by
  unfold spB
  simp only[List.all_cons,List.all_nil,Bool.and_true,Bool.and_eq_true,decide_eq_true_eq,inS_iff]
  omega
theorem plB_iff{p:Pl}:plB p=true↔(0≤p.la∧p.la≤p.lb∧p.lb≤500)∧p.cat.length=4∧∀c∈p.cat,0≤c.a∧c.a≤c.b∧c.b≤100:=by
  unfold plB
  rw[Bool.and_eq_true,Bool.and_eq_true,spB_iff,decide_eq_true_eq,List.all_eq_true]
  simp only[spB_iff]
theorem valid_iff(b:Bk):validB b=true↔BOk b:=by
  unfold validB vlA vlB
  simp only[Bool.and_eq_true,decide_eq_true_eq,List.all_eq_true,inS_iff,plB_iff,spB_iff]
  constructor
  · rintro⟨⟨h1,h2⟩,h3,h4,h5,h6,h7,h8,h9,h10⟩
    have h7a:=h7 b.start (by simp)
    have h7b:=h7 b.fin (by simp)
    exact⟨h1,by omega,h3,h4,h5,h6,h7a,h7b,h8,h9,h10⟩
  · intro h
    refine⟨⟨h.n4,by have:=h.pn;omega⟩,h.pl,h.pa,h.sz,h.bt,fun x hx=>?_,h.ti,h.sl,h.no⟩
    simp only[List.mem_cons,List.not_mem_nil,or_false]at hx
    rcases hx with rfl|rfl
    · exact h.st
    · exact h.fi
theorem good_t{a b lo hi:Int}:goodB a b lo hi=true↔lo≤a∧a≤b∧b≤hi:=by
  unfold goodB
  simp only[Bool.and_eq_true,decide_eq_true_eq]
set_option maxHeartbeats 16000000 in
theorem ret38(hi:Off is)(b:Bk):RetP Tryd.prog is orc 38 [b.u] (.bool (validB b)):=by
  have q17:=ret17 (orc:=orc) hi b
  refine ret_of body38 pure38 (hi 38 (by decide)) rfl rfl (dat_l1 (dat_bk b 4)) (.inl (.bool _ _)) ?_
  cases hv:validB b with
  |false=>
    rw[hv,if_neg (by decide)]at q17
    refine k_seq (k_region ?_)
    refine o_box rfl rfl ?_
    refine o_assign rfl ?_
    refine o_nil ?_
    refine k_gen [(1,U.box 0 0)] ([SB.box [.int .i64 (Bk.parts b),.int .i64 (Bk.size b),U.lst Kd.ro 1 (intsU (Bk.beats b)),.int .i64 (Bk.start b),.int .i64 (Bk.fin b),.int .i64 (Bk.tlo b),.int .i64 (Bk.thi b),.int .i64 (Bk.slo b),.int .i64 (Bk.shi b),.int .i64 (Bk.notice b),U.lst Kd.ro 3 (plsU (Bk.players b))]]) (.cons rfl (.nil rfl)) rfl fun fr=>?_
    refine k_seq (k_region ?_)
    refine o_loadN rfl rfl rfl sh27 rfl ?_
    refine o_call rfl (q17) (.lrefl _) ?_
    refine o_eql rfl rfl rfl ?_
    refine o_move rfl ?_
    refine o_gS rfl rfl rfl rfl rfl ?_
    refine o_gS rfl rfl rfl rfl rfl ?_
    refine o_gS rfl rfl rfl rfl rfl ?_
    refine o_pickF rfl rfl rfl ?_
    refine o_move rfl ?_
    refine o_genA [(1,U.box 0 0),(16,U.bool Bool.false)] [] ([SB.box [.int .i64 (Bk.parts b),.int .i64 (Bk.size b),U.lst Kd.ro 1 (intsU (Bk.beats b)),.int .i64 (Bk.start b),.int .i64 (Bk.fin b),.int .i64 (Bk.tlo b),.int .i64 (Bk.thi b),.int .i64 (Bk.slo b),.int .i64 (Bk.shi b),.int .i64 (Bk.notice b),U.lst Kd.ro 3 (plsU (Bk.players b))]]) (.cons rfl (.cons rfl (.nil rfl))) rfl rfl fun fr=>?_
    refine o_gS rfl rfl rfl rfl rfl ?_
    refine o_gS rfl rfl rfl rfl rfl ?_
    refine o_gS rfl rfl rfl rfl rfl ?_
    refine o_pickF rfl rfl rfl ?_
    refine o_move rfl ?_
    refine o_gS rfl rfl rfl rfl rfl ?_
    refine o_gS rfl rfl rfl rfl rfl ?_
    refine o_gS rfl rfl rfl rfl rfl ?_
    refine o_gS rfl rfl rfl rfl rfl ?_
    refine o_genA [(1,U.box 0 0),(21,U.bool Bool.false),(25,U.tup [])] [] ([SB.box [.int .i64 (Bk.parts b),.int .i64 (Bk.size b),U.lst Kd.ro 1 (intsU (Bk.beats b)),.int .i64 (Bk.start b),.int .i64 (Bk.fin b),.int .i64 (Bk.tlo b),.int .i64 (Bk.thi b),.int .i64 (Bk.slo b),.int .i64 (Bk.shi b),.int .i64 (Bk.notice b),U.lst Kd.ro 3 (plsU (Bk.players b))]]) (.cons rfl (.cons rfl (.cons rfl (.nil rfl)))) rfl rfl fun fr=>?_
    refine o_pickF rfl rfl rfl ?_
    refine o_move rfl ?_
    refine o_gS rfl rfl rfl rfl rfl ?_
    refine o_gS rfl rfl rfl rfl rfl ?_
    refine o_gS rfl rfl rfl rfl rfl ?_
    refine o_pickF rfl rfl rfl ?_
    refine o_move rfl ?_
    refine o_gS rfl rfl rfl rfl rfl ?_
    refine o_gS rfl rfl rfl rfl rfl ?_
    refine o_genA [(1,U.box 0 0),(32,U.bool Bool.false),(34,U.tup [])] [] ([SB.box [.int .i64 (Bk.parts b),.int .i64 (Bk.size b),U.lst Kd.ro 1 (intsU (Bk.beats b)),.int .i64 (Bk.start b),.int .i64 (Bk.fin b),.int .i64 (Bk.tlo b),.int .i64 (Bk.thi b),.int .i64 (Bk.slo b),.int .i64 (Bk.shi b),.int .i64 (Bk.notice b),U.lst Kd.ro 3 (plsU (Bk.players b))]]) (.cons rfl (.cons rfl (.cons rfl (.nil rfl)))) rfl rfl fun fr=>?_
    refine o_gS rfl rfl rfl rfl rfl ?_
    refine o_pickF rfl rfl rfl ?_
    refine o_move rfl ?_
    refine o_gS rfl rfl rfl rfl rfl ?_
    refine o_gS rfl rfl rfl rfl rfl ?_
    refine o_gS rfl rfl rfl rfl rfl ?_
    refine o_pickF rfl rfl rfl ?_
    refine o_move rfl ?_
    refine o_gS rfl rfl rfl rfl rfl ?_
    refine o_genA [(1,U.box 0 0),(42,U.bool Bool.false),(43,U.tup [])] [] ([SB.box [.int .i64 (Bk.parts b),.int .i64 (Bk.size b),U.lst Kd.ro 1 (intsU (Bk.beats b)),.int .i64 (Bk.start b),.int .i64 (Bk.fin b),.int .i64 (Bk.tlo b),.int .i64 (Bk.thi b),.int .i64 (Bk.slo b),.int .i64 (Bk.shi b),.int .i64 (Bk.notice b),U.lst Kd.ro 3 (plsU (Bk.players b))]]) (.cons rfl (.cons rfl (.cons rfl (.nil rfl)))) rfl rfl fun fr=>?_
    refine o_gS rfl rfl rfl rfl rfl ?_
    refine o_gS rfl rfl rfl rfl rfl ?_
    refine o_pickF rfl rfl rfl ?_
    refine o_move rfl ?_
    refine o_gS rfl rfl rfl rfl rfl ?_
    refine o_gS rfl rfl rfl rfl rfl ?_
    refine o_gS rfl rfl rfl rfl rfl ?_
    refine o_gS rfl rfl rfl rfl rfl ?_
    refine o_gS rfl rfl rfl rfl rfl ?_
    refine o_genA [(1,U.box 0 0),(47,U.bool Bool.false),(52,U.tup [])] [] ([SB.box [.int .i64 (Bk.parts b),.int .i64 (Bk.size b),U.lst Kd.ro 1 (intsU (Bk.beats b)),.int .i64 (Bk.start b),.int .i64 (Bk.fin b),.int .i64 (Bk.tlo b),.int .i64 (Bk.thi b),.int .i64 (Bk.slo b),.int .i64 (Bk.shi b),.int .i64 (Bk.notice b),U.lst Kd.ro 3 (plsU (Bk.players b))]]) (.cons rfl (.cons rfl (.cons rfl (.nil rfl)))) rfl rfl fun fr=>?_
    refine o_pickF rfl rfl rfl ?_
    refine o_move rfl ?_
    refine o_gS rfl rfl rfl rfl rfl ?_
    refine o_gS rfl rfl rfl rfl rfl ?_
    refine o_gS rfl rfl rfl rfl rfl ?_
    refine o_gS rfl rfl rfl rfl rfl ?_
    refine o_pickF rfl rfl rfl ?_
    refine o_assign rfl ?_
    refine o_nil ?_
    refine k_gen [(1,U.box 0 0),(3,U.bool Bool.false)] ([SB.box [.int .i64 (Bk.parts b),.int .i64 (Bk.size b),U.lst Kd.ro 1 (intsU (Bk.beats b)),.int .i64 (Bk.start b),.int .i64 (Bk.fin b),.int .i64 (Bk.tlo b),.int .i64 (Bk.thi b),.int .i64 (Bk.slo b),.int .i64 (Bk.shi b),.int .i64 (Bk.notice b),U.lst Kd.ro 3 (plsU (Bk.players b))]]) (.cons rfl (.cons rfl (.nil rfl))) rfl fun fr=>?_
    refine k_seq ?_
    refine k_seq (k_region ?_)
    refine o_assign rfl ?_
    refine o_nil ?_
    refine k_block ?_
    obtain⟨V,hV⟩:∃V:List SB,V=[.box [.int .i64 b.parts,.int .i64 b.size,.lst .ro 1 (intsU b.beats),.int .i64 b.start,.int .i64 b.fin,.int .i64 b.tlo,.int .i64 b.thi,.int .i64 b.slo,.int .i64 b.shi,.int .i64 b.notice,.lst .ro 3 (plsU b.players)]]:=⟨_,rfl⟩
    refine k_loop (fun _ s2=>s2.st=V∧Holds s2 [(1,.box 0 0),(3,.bool false),(4,.int .i64 0)]) (fun kk s2 hI=>?_) 0 _ ⟨hV.symm,.cons rfl (.cons rfl (.cons rfl (.nil rfl)))⟩
    obtain⟨hst2,hs2⟩:=hI
    rw[hV]at hst2
    refine k_gen _ _ hs2 hst2 fun fr2=>?_
    refine k_seq ?_
    refine k_seq (k_region ?_)
    refine o_move rfl ?_
    refine o_move rfl ?_
    refine o_gS rfl rfl rfl rfl rfl ?_
    refine o_gS rfl rfl rfl rfl rfl ?_
    refine o_gS rfl rfl rfl rfl rfl ?_
    refine o_gS rfl rfl rfl rfl rfl ?_
    refine o_gS rfl rfl rfl rfl rfl ?_
    refine o_pickF rfl rfl rfl ?_
    refine o_nil ?_
    refine k_cF rfl rfl ?_
    refine k_exit ?_
    refine k_seq ?_
    refine k_seq (k_region ?_)
    refine o_assign rfl ?_
    refine o_nil ?_
    refine k_block ?_
    refine k_loop (fun _ s2=>s2.st=V∧Holds s2 [(1,.box 0 0),(3,.bool false),(5,.int .i64 0)]) (fun kk s2 hI=>?_) 0 _ ⟨hV.symm,.cons rfl (.cons rfl (.cons rfl (.nil rfl)))⟩
    obtain⟨hst2,hs2⟩:=hI
    rw[hV]at hst2
    refine k_gen _ _ hs2 hst2 fun fr2=>?_
    refine k_seq ?_
    refine k_seq (k_region ?_)
    refine o_move rfl ?_
    refine o_move rfl ?_
    refine o_gS rfl rfl rfl rfl rfl ?_
    refine o_gS rfl rfl rfl rfl rfl ?_
    refine o_gS rfl rfl rfl rfl rfl ?_
    refine o_gS rfl rfl rfl rfl rfl ?_
    refine o_gS rfl rfl rfl rfl rfl ?_
    refine o_pickF rfl rfl rfl ?_
    refine o_nil ?_
    refine k_cF rfl rfl ?_
    refine k_exit ?_
    refine k_seq (k_region ?_)
    refine o_move rfl ?_
    refine o_assign rfl ?_
    refine o_nil ?_
    refine k_ret ?_
    refine⟨.inr rfl,_,.cons _ _ _ _ (.tmp 2) .nil,?_⟩
    exact .refl _
  |true=>
    have h:=(valid_iff b).1 hv
    rw[hv,if_pos rfl]at q17
    have h4:=h.n4
    have h5:=h.pn
    have q52:=fun(n a c:Int) (hn:a≤n∧n≤c)=>(inS_iff.2 hn ▸ ret52 (orc:=orc) hi n a c:RetP Tryd.prog is orc 52 [.int .i64 n,.int .i64 a,.int .i64 c] (.bool true))
    have q59:=fun(x y a c:Int) (hn:a≤x∧x≤y∧y≤c)=>(good_t.2 hn ▸ ret59 (orc:=orc) hi x y a c:RetP Tryd.prog is orc 59 [spanU x y,.int .i64 a,.int .i64 c] (.bool true))
    refine k_seq (k_region ?_)
    refine o_box rfl rfl ?_
    refine o_assign rfl ?_
    refine o_nil ?_
    refine k_gen [(1,U.box 0 0)] ([SB.box [.int .i64 (Bk.parts b),.int .i64 (Bk.size b),U.lst Kd.ro 1 (intsU (Bk.beats b)),.int .i64 (Bk.start b),.int .i64 (Bk.fin b),.int .i64 (Bk.tlo b),.int .i64 (Bk.thi b),.int .i64 (Bk.slo b),.int .i64 (Bk.shi b),.int .i64 (Bk.notice b),U.lst Kd.ro 3 (plsU (Bk.players b))]]) (.cons rfl (.nil rfl)) rfl fun fr=>?_
    refine k_seq (k_region ?_)
    refine o_loadN rfl rfl rfl sh27 rfl ?_
    refine o_call rfl (q17) (.lrefl _) ?_
    refine o_eql rfl rfl rfl ?_
    refine o_move rfl ?_
    refine o_gD rfl rfl rfl rfl rfl ?_
    refine o_faddr rfl rfl fld27_0 ?_
    refine o_gD rfl rfl rfl rfl rfl ?_
    refine o_load1 rfl rfl rfl sh3 rfl ?_
    refine o_gD rfl rfl rfl rfl rfl ?_
    refine o_call rfl ((q52 _ _ _ h.pa)) (.lrefl _) ?_
    refine o_pickT rfl rfl rfl ?_
    refine o_move rfl ?_
    refine o_genA [(1,U.box 0 0),(16,U.bool Bool.true)] [] ([SB.box [.int .i64 (Bk.parts b),.int .i64 (Bk.size b),U.lst Kd.ro 1 (intsU (Bk.beats b)),.int .i64 (Bk.start b),.int .i64 (Bk.fin b),.int .i64 (Bk.tlo b),.int .i64 (Bk.thi b),.int .i64 (Bk.slo b),.int .i64 (Bk.shi b),.int .i64 (Bk.notice b),U.lst Kd.ro 3 (plsU (Bk.players b))]]) (.cons rfl (.cons rfl (.nil rfl))) rfl rfl fun fr=>?_
    refine o_gD rfl rfl rfl rfl rfl ?_
    refine o_genA [(1,U.box 0 0),(16,U.bool Bool.true)] [] ([SB.box [.int .i64 (Bk.parts b),.int .i64 (Bk.size b),U.lst Kd.ro 1 (intsU (Bk.beats b)),.int .i64 (Bk.start b),.int .i64 (Bk.fin b),.int .i64 (Bk.tlo b),.int .i64 (Bk.thi b),.int .i64 (Bk.slo b),.int .i64 (Bk.shi b),.int .i64 (Bk.notice b),U.lst Kd.ro 3 (plsU (Bk.players b))]]) (.cons rfl (.cons rfl (.nil rfl))) rfl rfl fun fr=>?_
    refine o_faddr rfl rfl fld27_1 ?_
    refine o_gD rfl rfl rfl rfl rfl ?_
    refine o_load1 rfl rfl rfl sh3 rfl ?_
    refine o_gD rfl rfl rfl rfl rfl ?_
    refine o_call rfl ((q52 _ _ _ h.sz)) (.lrefl _) ?_
    refine o_pickT rfl rfl rfl ?_
    refine o_move rfl ?_
    refine o_gD rfl rfl rfl rfl rfl ?_
    refine o_faddr rfl rfl fld27_2 ?_
    refine o_gD rfl rfl rfl rfl rfl ?_
    refine o_load1 rfl rfl rfl sh22 rfl ?_
    refine o_gD rfl rfl rfl rfl rfl ?_
    refine o_len rfl ty22 rfl (List.length_map _) ?_
    refine o_gD rfl rfl rfl rfl rfl ?_
    refine o_eql rfl rfl rfl ?_
    refine o_genA [(1,U.box 0 0),(21,U.bool Bool.true),(25,U.bool (Decidable.decide (↑(List.length (Bk.beats b))=(4:Int))))] [] ([SB.box [.int .i64 (Bk.parts b),.int .i64 (Bk.size b),U.lst Kd.ro 1 (intsU (Bk.beats b)),.int .i64 (Bk.start b),.int .i64 (Bk.fin b),.int .i64 (Bk.tlo b),.int .i64 (Bk.thi b),.int .i64 (Bk.slo b),.int .i64 (Bk.shi b),.int .i64 (Bk.notice b),U.lst Kd.ro 3 (plsU (Bk.players b))]]) (.cons rfl (.cons rfl (.cons rfl (.nil rfl)))) rfl rfl fun fr=>?_
    refine o_pickT rfl rfl rfl ?_
    refine o_move rfl ?_
    refine o_gD rfl rfl rfl rfl (decide_eq_true (by omega)) ?_
    refine o_faddr rfl rfl fld27_3 ?_
    refine o_gD rfl rfl rfl rfl (decide_eq_true (by omega)) ?_
    refine o_load1 rfl rfl rfl sh3 rfl ?_
    refine o_gD rfl rfl rfl rfl (decide_eq_true (by omega)) ?_
    refine o_call rfl ((q52 _ _ _ h.st)) (.lrefl _) ?_
    refine o_pickT rfl rfl (decide_eq_true (by omega)) ?_
    refine o_move rfl ?_
    refine o_gD rfl rfl rfl rfl rfl ?_
    refine o_faddr rfl rfl fld27_4 ?_
    refine o_gD rfl rfl rfl rfl rfl ?_
    refine o_load1 rfl rfl rfl sh3 rfl ?_
    refine o_genA [(1,U.box 0 0),(32,U.bool Bool.true),(34,.int .i64 (Bk.fin b))] [] ([SB.box [.int .i64 (Bk.parts b),.int .i64 (Bk.size b),U.lst Kd.ro 1 (intsU (Bk.beats b)),.int .i64 (Bk.start b),.int .i64 (Bk.fin b),.int .i64 (Bk.tlo b),.int .i64 (Bk.thi b),.int .i64 (Bk.slo b),.int .i64 (Bk.shi b),.int .i64 (Bk.notice b),U.lst Kd.ro 3 (plsU (Bk.players b))]]) (.cons rfl (.cons rfl (.cons rfl (.nil rfl)))) rfl rfl fun fr=>?_
    refine o_gD rfl rfl rfl rfl rfl ?_
    refine o_genA [(1,U.box 0 0),(32,U.bool Bool.true),(34,.int .i64 (Bk.fin b))] [] ([SB.box [.int .i64 (Bk.parts b),.int .i64 (Bk.size b),U.lst Kd.ro 1 (intsU (Bk.beats b)),.int .i64 (Bk.start b),.int .i64 (Bk.fin b),.int .i64 (Bk.tlo b),.int .i64 (Bk.thi b),.int .i64 (Bk.slo b),.int .i64 (Bk.shi b),.int .i64 (Bk.notice b),U.lst Kd.ro 3 (plsU (Bk.players b))]]) (.cons rfl (.cons rfl (.cons rfl (.nil rfl)))) rfl rfl fun fr=>?_
    refine o_call rfl ((q52 _ _ _ h.fi)) (.lrefl _) ?_
    refine o_pickT rfl rfl rfl ?_
    refine o_move rfl ?_
    refine o_gD rfl rfl rfl rfl rfl ?_
    refine o_faddr rfl rfl fld27_5 ?_
    refine o_gD rfl rfl rfl rfl rfl ?_
    refine o_loadN rfl rfl rfl sh24 rfl ?_
    refine o_gD rfl rfl rfl rfl rfl ?_
    refine o_call rfl ((q59 _ _ _ _ h.ti)) (.lrefl _) ?_
    refine o_pickT rfl rfl rfl ?_
    refine o_move rfl ?_
    refine o_gD rfl rfl rfl rfl rfl ?_
    refine o_faddr rfl rfl fld27_6 ?_
    refine o_genA [(1,U.box 0 0),(42,U.bool Bool.true),(43,U.box 0 7)] [] ([SB.box [.int .i64 (Bk.parts b),.int .i64 (Bk.size b),U.lst Kd.ro 1 (intsU (Bk.beats b)),.int .i64 (Bk.start b),.int .i64 (Bk.fin b),.int .i64 (Bk.tlo b),.int .i64 (Bk.thi b),.int .i64 (Bk.slo b),.int .i64 (Bk.shi b),.int .i64 (Bk.notice b),U.lst Kd.ro 3 (plsU (Bk.players b))]]) (.cons rfl (.cons rfl (.cons rfl (.nil rfl)))) rfl rfl fun fr=>?_
    refine o_gD rfl rfl rfl rfl rfl ?_
    refine o_genA [(1,U.box 0 0),(42,U.bool Bool.true),(43,U.box 0 7)] [] ([SB.box [.int .i64 (Bk.parts b),.int .i64 (Bk.size b),U.lst Kd.ro 1 (intsU (Bk.beats b)),.int .i64 (Bk.start b),.int .i64 (Bk.fin b),.int .i64 (Bk.tlo b),.int .i64 (Bk.thi b),.int .i64 (Bk.slo b),.int .i64 (Bk.shi b),.int .i64 (Bk.notice b),U.lst Kd.ro 3 (plsU (Bk.players b))]]) (.cons rfl (.cons rfl (.cons rfl (.nil rfl)))) rfl rfl fun fr=>?_
    refine o_loadN rfl rfl rfl sh24 rfl ?_
    refine o_gD rfl rfl rfl rfl rfl ?_
    refine o_call rfl ((q59 _ _ _ _ h.sl)) (.lrefl _) ?_
    refine o_pickT rfl rfl rfl ?_
    refine o_move rfl ?_
    refine o_gD rfl rfl rfl rfl rfl ?_
    refine o_faddr rfl rfl fld27_7 ?_
    refine o_gD rfl rfl rfl rfl rfl ?_
    refine o_load1 rfl rfl rfl sh3 rfl ?_
    refine o_gD rfl rfl rfl rfl rfl ?_
    refine o_faddr rfl rfl fld27_1 ?_
    refine o_gD rfl rfl rfl rfl rfl ?_
    refine o_load1 rfl rfl rfl sh3 rfl ?_
    refine o_gD rfl rfl rfl rfl rfl ?_
    refine o_call rfl ((q52 _ _ _ h.no)) (.lrefl _) ?_
    refine o_genA [(1,U.box 0 0),(47,U.bool Bool.true),(52,U.bool Bool.true)] [] ([SB.box [.int .i64 (Bk.parts b),.int .i64 (Bk.size b),U.lst Kd.ro 1 (intsU (Bk.beats b)),.int .i64 (Bk.start b),.int .i64 (Bk.fin b),.int .i64 (Bk.tlo b),.int .i64 (Bk.thi b),.int .i64 (Bk.slo b),.int .i64 (Bk.shi b),.int .i64 (Bk.notice b),U.lst Kd.ro 3 (plsU (Bk.players b))]]) (.cons rfl (.cons rfl (.cons rfl (.nil rfl)))) rfl rfl fun fr=>?_
    refine o_pickT rfl rfl rfl ?_
    refine o_move rfl ?_
    refine o_gD rfl rfl rfl rfl rfl ?_
    refine o_faddr rfl rfl fld27_8 ?_
    refine o_gD rfl rfl rfl rfl rfl ?_
    refine o_load1 rfl rfl rfl sh25 rfl ?_
    refine o_gD rfl rfl rfl rfl rfl ?_
    refine o_len rfl ty25 rfl (List.length_map _) ?_
    refine o_gD rfl rfl rfl rfl rfl ?_
    refine o_call rfl ((q52 _ 1 5 (by omega))) (.lrefl _) ?_
    refine o_pickT rfl rfl rfl ?_
    refine o_assign rfl ?_
    refine o_nil ?_
    refine k_gen [(1,U.box 0 0),(3,U.bool Bool.true)] ([SB.box [.int .i64 (Bk.parts b),.int .i64 (Bk.size b),U.lst Kd.ro 1 (intsU (Bk.beats b)),.int .i64 (Bk.start b),.int .i64 (Bk.fin b),.int .i64 (Bk.tlo b),.int .i64 (Bk.thi b),.int .i64 (Bk.slo b),.int .i64 (Bk.shi b),.int .i64 (Bk.notice b),U.lst Kd.ro 3 (plsU (Bk.players b))]]) (.cons rfl (.cons rfl (.nil rfl))) rfl fun fr=>?_
    refine k_seq ?_
    refine k_seq (k_region ?_)
    refine o_assign rfl ?_
    refine o_nil ?_
    refine k_block ?_
    refine k_loop (fun kk s2=>∃i:Nat,kk+i=b.beats.length∧s2.st=[.box [.int .i64 b.parts,.int .i64 b.size,.lst .ro 1 (intsU b.beats),.int .i64 b.start,.int .i64 b.fin,.int .i64 b.tlo,.int .i64 b.thi,.int .i64 b.slo,.int .i64 b.shi,.int .i64 b.notice,.lst .ro 3 (plsU b.players)]]∧Holds s2 [(1,.box 0 0),(3,.bool true),(4,.int .i64 i)]) (fun kk s2 hI=>?_) b.beats.length _ ⟨0,rfl,rfl,.cons rfl (.cons rfl (.cons rfl (.nil rfl)))⟩
    obtain⟨i,hk,hst2,hs2⟩:=hI
    refine k_gen _ _ hs2 hst2 fun fr2=>?_
    by_cases hin:i<b.beats.length
    · obtain⟨x,hx⟩:∃x,b.beats[i]? =some x:=⟨b.beats[i],List.getElem?_eq_getElem hin⟩
      refine k_seq ?_
      refine k_seq (k_region ?_)
      refine o_move rfl ?_
      refine o_move rfl ?_
      refine o_gD rfl rfl rfl rfl rfl ?_
      refine o_move rfl ?_
      refine o_gD rfl rfl rfl rfl rfl ?_
      refine o_faddr rfl rfl fld27_2 ?_
      refine o_gD rfl rfl rfl rfl rfl ?_
      refine o_load1 rfl rfl rfl sh22 rfl ?_
      refine o_gD rfl rfl rfl rfl rfl ?_
      refine o_len rfl ty22 rfl (List.length_map _) ?_
      refine o_gD rfl rfl rfl rfl rfl ?_
      refine o_lss rfl rfl rfl ?_
      refine o_pickT rfl rfl rfl ?_
      refine o_nil ?_
      refine k_cT rfl (decide_eq_true (by omega)) ?_
      refine k_skip ?_
      refine k_seq ?_
      refine k_block ?_
      refine k_region ?_
      refine o_faddr rfl rfl fld27_2 ?_
      refine o_load1 rfl rfl rfl sh22 rfl ?_
      refine o_move rfl ?_
      refine o_idx (u:=.int .i64 (x)) rfl ty22 rfl rfl (Int.natCast_nonneg _) (by simp[hx]) cl3 ?_
      refine o_loadR1 rfl rfl sh3 rfl ?_
      refine o_call rfl ((q52 _ _ _ (h.bt x (List.mem_of_getElem? hx)))) (.lrefl _) ?_
      refine o_assign rfl ?_
      refine o_nil ?_
      refine k_region ?_
      refine o_move rfl ?_
      refine o_add rfl rfl rfl (by unfold I64;omega) ?_
      refine o_assign rfl ?_
      refine o_nil ?_
      exact⟨kk - 1,by omega,i+1,by omega,rfl,.cons rfl (.cons rfl (.cons rfl (.nil rfl)))⟩
    · refine k_seq ?_
      refine k_seq (k_region ?_)
      refine o_move rfl ?_
      refine o_move rfl ?_
      refine o_gD rfl rfl rfl rfl rfl ?_
      refine o_move rfl ?_
      refine o_gD rfl rfl rfl rfl rfl ?_
      refine o_faddr rfl rfl fld27_2 ?_
      refine o_gD rfl rfl rfl rfl rfl ?_
      refine o_load1 rfl rfl rfl sh22 rfl ?_
      refine o_gD rfl rfl rfl rfl rfl ?_
      refine o_len rfl ty22 rfl (List.length_map _) ?_
      refine o_gD rfl rfl rfl rfl rfl ?_
      refine o_lss rfl rfl rfl ?_
      refine o_pickT rfl rfl rfl ?_
      refine o_nil ?_
      refine k_cF rfl (decide_eq_false (by omega)) ?_
      refine k_exit ?_
      refine k_seq ?_
      refine k_seq (k_region ?_)
      refine o_assign rfl ?_
      refine o_nil ?_
      refine k_block ?_
      obtain⟨V,hV⟩:∃V:List SB,V=[.box [.int .i64 b.parts,.int .i64 b.size,.lst .ro 1 (intsU b.beats),.int .i64 b.start,.int .i64 b.fin,.int .i64 b.tlo,.int .i64 b.thi,.int .i64 b.slo,.int .i64 b.shi,.int .i64 b.notice,.lst .ro 3 (plsU b.players)]]:=⟨_,rfl⟩
      refine k_loop (fun kk s2=>∃i:Nat,kk+i=b.players.length∧(∃e,s2.st=V++e)∧Holds s2 [(1,.box 0 0),(3,.bool true),(5,.int .i64 i)]) (fun kk s2 hI=>?_) b.players.length _ ⟨0,rfl,⟨[],by rw[hV];rfl⟩,.cons rfl (.cons rfl (.cons rfl (.nil rfl)))⟩
      obtain⟨i,hk,⟨e,hst2⟩,hs2⟩:=hI
      generalize hY:V++e=Y at hst2
      have y0:Y[0]? =some (SB.box [.int .i64 b.parts,.int .i64 b.size,.lst .ro 1 (intsU b.beats),.int .i64 b.start,.int .i64 b.fin,.int .i64 b.tlo,.int .i64 b.thi,.int .i64 b.slo,.int .i64 b.shi,.int .i64 b.notice,.lst .ro 3 (plsU b.players)]):=by rw[←hY,hV];rfl
      refine k_gen _ _ hs2 hst2 fun fr2=>?_
      by_cases hin:i<b.players.length
      · obtain⟨p,hp⟩:∃p,b.players[i]? =some p:=⟨b.players[i],List.getElem?_eq_getElem hin⟩
        have hg:=h.pl p (List.mem_of_getElem? hp)
        have hg2:=hg.2.1
        refine k_seq ?_
        refine k_seq (k_region ?_)
        refine o_move rfl ?_
        refine o_move rfl ?_
        refine o_gD rfl rfl rfl rfl rfl ?_
        refine o_move rfl ?_
        refine o_gD rfl rfl rfl rfl rfl ?_
        refine o_faddr rfl rfl fld27_8 ?_
        refine o_gD rfl rfl rfl rfl rfl ?_
        refine o_load1 rfl rfl y0 sh25 rfl ?_
        refine o_gD rfl rfl rfl rfl rfl ?_
        refine o_len rfl ty25 rfl (List.length_map _) ?_
        refine o_gD rfl rfl rfl rfl rfl ?_
        refine o_lss rfl rfl rfl ?_
        refine o_pickT rfl rfl rfl ?_
        refine o_nil ?_
        refine k_cT rfl (decide_eq_true (by omega)) ?_
        refine k_skip ?_
        refine k_seq ?_
        refine k_block ?_
        refine k_seq (k_region ?_)
        refine o_faddr rfl rfl fld27_8 ?_
        refine o_load1 rfl rfl y0 sh25 rfl ?_
        refine o_move rfl ?_
        refine o_idx (u:=(p).u) rfl ty25 rfl rfl (Int.natCast_nonneg _) (by simp[hp]) cl68 ?_
        refine o_loadRN rfl rfl sh68 rfl ?_
        refine o_alloc rfl ze68 ?_
        refine o_storeN rfl (at_new _ _) sh68 rfl rfl rfl rfl rfl ?_
        refine o_nil ?_
        refine k_seq (k_region ?_)
        refine o_faddr rfl rfl fld68_0 ?_
        refine o_loadN rfl rfl (at_set _ _ _) sh24 rfl ?_
        refine o_call rfl ((q59 _ _ _ _ hg.1)) (.lrefl _) ?_
        refine o_move rfl ?_
        refine o_gD rfl rfl rfl rfl rfl ?_
        refine o_faddr rfl rfl fld68_1 ?_
        refine o_gD rfl rfl rfl rfl rfl ?_
        refine o_load1 rfl rfl (at_set _ _ _) sh66 rfl ?_
        refine o_gD rfl rfl rfl rfl rfl ?_
        refine o_len rfl ty66 rfl (List.length_map _) ?_
        refine o_gD rfl rfl rfl rfl rfl ?_
        refine o_eql rfl rfl rfl ?_
        refine o_pickT rfl rfl rfl ?_
        refine o_assign rfl ?_
        refine o_nil ?_
        refine k_seq (k_region ?_)
        refine o_assign rfl ?_
        refine o_nil ?_
        refine k_block ?_
        refine k_loop (fun mm s2=>∃j:Nat,mm+j=p.cat.length∧s2.st=Y++[.box [.int .i64 p.la,.int .i64 p.lb,.lst .ro 2 (twosU p.cat)]]∧Holds s2 [(1,.box 0 0),(3,.bool true),(5,.int .i64 i),(6,.box Y.length 0),(7,.int .i64 j)]) (fun mm s2 hI=>?_) p.cat.length _ ⟨0,rfl,(by show(Y++[SB.box _]).set Y.length (SB.box _)=_;rw[set_end];rfl),.cons rfl (.cons (show U.bool (decide ((p.cat.length:Int)=4))=.bool true by rw[hg2];rfl) (.cons rfl (.cons rfl (.cons rfl (.nil rfl)))))⟩
        obtain⟨j,hj,hst2,hs2⟩:=hI
        have y1:(Y++[SB.box [.int .i64 p.la,.int .i64 p.lb,.lst .ro 2 (twosU p.cat)]])[Y.length]? =some (.box [.int .i64 p.la,.int .i64 p.lb,.lst .ro 2 (twosU p.cat)]):=at_new _ _
        refine k_gen _ _ hs2 hst2 fun fr2=>?_
        by_cases hjn:j<p.cat.length
        · obtain⟨c,hc⟩:∃c,p.cat[j]? =some c:=⟨p.cat[j],List.getElem?_eq_getElem hjn⟩
          refine k_seq ?_
          refine k_seq (k_region ?_)
          refine o_move rfl ?_
          refine o_move rfl ?_
          refine o_gD rfl rfl rfl rfl rfl ?_
          refine o_move rfl ?_
          refine o_gD rfl rfl rfl rfl rfl ?_
          refine o_faddr rfl rfl fld68_1 ?_
          refine o_gD rfl rfl rfl rfl rfl ?_
          refine o_load1 rfl rfl y1 sh66 rfl ?_
          refine o_gD rfl rfl rfl rfl rfl ?_
          refine o_len rfl ty66 rfl (List.length_map _) ?_
          refine o_gD rfl rfl rfl rfl rfl ?_
          refine o_lss rfl rfl rfl ?_
          refine o_pickT rfl rfl rfl ?_
          refine o_nil ?_
          refine k_cT rfl (decide_eq_true (by omega)) ?_
          refine k_skip ?_
          refine k_seq ?_
          refine k_block ?_
          refine k_region ?_
          refine o_faddr rfl rfl fld68_1 ?_
          refine o_load1 rfl rfl y1 sh66 rfl ?_
          refine o_move rfl ?_
          refine o_idx (u:=(c).u) rfl ty66 rfl rfl (Int.natCast_nonneg _) (by simp[hc]) cl24 ?_
          refine o_loadRN rfl rfl sh24 rfl ?_
          refine o_call rfl ((q59 _ _ _ _ (hg.2.2 c (List.mem_of_getElem? hc)))) (.lrefl _) ?_
          refine o_assign rfl ?_
          refine o_nil ?_
          refine k_region ?_
          refine o_move rfl ?_
          refine o_add rfl rfl rfl (by unfold I64;omega) ?_
          refine o_assign rfl ?_
          refine o_nil ?_
          exact⟨mm - 1,by omega,j+1,by omega,rfl,.cons rfl (.cons rfl (.cons rfl (.cons rfl (.cons rfl (.nil rfl)))))⟩
        · refine k_seq ?_
          refine k_seq (k_region ?_)
          refine o_move rfl ?_
          refine o_move rfl ?_
          refine o_gD rfl rfl rfl rfl rfl ?_
          refine o_move rfl ?_
          refine o_gD rfl rfl rfl rfl rfl ?_
          refine o_faddr rfl rfl fld68_1 ?_
          refine o_gD rfl rfl rfl rfl rfl ?_
          refine o_load1 rfl rfl y1 sh66 rfl ?_
          refine o_gD rfl rfl rfl rfl rfl ?_
          refine o_len rfl ty66 rfl (List.length_map _) ?_
          refine o_gD rfl rfl rfl rfl rfl ?_
          refine o_lss rfl rfl rfl ?_
          refine o_pickT rfl rfl rfl ?_
          refine o_nil ?_
          refine k_cF rfl (decide_eq_false (by omega)) ?_
          refine k_exit ?_
          refine k_region ?_
          refine o_move rfl ?_
          refine o_add rfl rfl rfl (by unfold I64;omega) ?_
          refine o_assign rfl ?_
          refine o_nil ?_
          exact⟨kk - 1,by omega,i+1,by omega,⟨_,grow hY⟩,.cons rfl (.cons rfl (.cons rfl (.nil rfl)))⟩
      · refine k_seq ?_
        refine k_seq (k_region ?_)
        refine o_move rfl ?_
        refine o_move rfl ?_
        refine o_gD rfl rfl rfl rfl rfl ?_
        refine o_move rfl ?_
        refine o_gD rfl rfl rfl rfl rfl ?_
        refine o_faddr rfl rfl fld27_8 ?_
        refine o_gD rfl rfl rfl rfl rfl ?_
        refine o_load1 rfl rfl y0 sh25 rfl ?_
        refine o_gD rfl rfl rfl rfl rfl ?_
        refine o_len rfl ty25 rfl (List.length_map _) ?_
        refine o_gD rfl rfl rfl rfl rfl ?_
        refine o_lss rfl rfl rfl ?_
        refine o_pickT rfl rfl rfl ?_
        refine o_nil ?_
        refine k_cF rfl (decide_eq_false (by omega)) ?_
        refine k_exit ?_
        refine k_seq (k_region ?_)
        refine o_move rfl ?_
        refine o_assign rfl ?_
        refine o_nil ?_
        refine k_ret ?_
        refine⟨.inr rfl,_,.cons _ _ _ _ (.tmp 2) .nil,?_⟩
        exact .refl _
end Go.Proofs.YtfbmlibilcjlgaaDoor.drumCued

/-! ### drum: what numbers choose; the law's chosen and changes -/
namespace Go.Proofs.YtfbmlibilcjlgaaDoor.drumCued
open Vam
variable {is:FuncId→Bool}{orc:Known}
-- 46 saron/saronref00.Turn params [3, 3] pure True
noncomputable def b46:Code:=(Tryd.f46.body).getD .skip
theorem body46:bodyOf Tryd.prog 46=some (17,b46,[.tmp 4]):=by kernel_rfl
theorem pure46:pureFn Tryd.prog 46=true:=by kernel_rfl
-- 53 saron/saronref00.Nth params [22, 3] pure True
noncomputable def b53:Code:=(Tryd.f53.body).getD .skip
theorem body53:bodyOf Tryd.prog 53=some (15,b53,[.tmp 4]):=by kernel_rfl
theorem pure53:pureFn Tryd.prog 53=true:=by kernel_rfl
-- 88 saron/saronref00.Draw params [24, 3] pure True
noncomputable def b88:Code:=(Tryd.f88.body).getD .skip
theorem body88:bodyOf Tryd.prog 88=some (34,b88,[.tmp 4]):=by kernel_rfl
theorem pure88:pureFn Tryd.prog 88=true:=by kernel_rfl
-- 43 saron/saronlaw08.chosen params [27, 22] pure True
theorem by3:Program.bytesOf Tryd.prog 3=8:=by kernel_rfl
theorem ap22_22:AppT Tryd.prog 22 22 3 1 8 ((.cons (.int .i64 0) .nil):V):=⟨ty22,⟨_,ty22⟩,cl3,by decide,by3,ze3,rfl⟩
noncomputable def b43:Code:=(Tryd.f43.body).getD .skip
theorem body43:bodyOf Tryd.prog 43=some (37,b43,[.tmp 4]):=by kernel_rfl
theorem pure43:pureFn Tryd.prog 43=true:=by kernel_rfl
-- 49 saron/saronlaw08.changes params [22] pure True
noncomputable def b49:Code:=(Tryd.f49.body).getD .skip
theorem body49:bodyOf Tryd.prog 49=some (24,b49,[.tmp 2]):=by kernel_rfl
theorem pure49:pureFn Tryd.prog 49=true:=by kernel_rfl
def nthI(l:List Int)(i:Nat):Int:=(l[i % l.length]?).getD 0
theorem tmod_n{n m:Int}(hn:0≤n):n.tmod m=n % m:=Int.tmod_eq_emod_of_nonneg hn
set_option maxHeartbeats 4000000 in
theorem ret46n(hi:Off is)(n m:Int)(hm:0<m)(hn:0≤n):RetP Tryd.prog is orc 46 [.int .i64 n,.int .i64 m] (.int .i64 (n % m)):=by
  refine ret_of body46 pure46 (hi 46 (by decide)) rfl rfl (dat_l2 (.int _ _ _) (.int _ _ _)) (.inl (.int _ _ _)) ?_
  rw[←tmod_n hn]
  have h2:=Int.tmod_nonneg m hn
  refine k_seq (k_region ?_)
  refine o_assign rfl ?_
  refine o_nil ?_
  refine k_seq ?_
  refine k_seq (k_region ?_)
  refine o_move rfl ?_
  refine o_lss rfl rfl rfl ?_
  refine o_nil ?_
  refine k_cF rfl (decide_eq_false (by omega)) ?_
  refine k_skip ?_
  refine k_seq (k_region ?_)
  refine o_move rfl ?_
  refine o_move rfl ?_
  refine o_rem rfl rfl rfl (by omega) ?_
  refine o_assign rfl ?_
  refine o_nil ?_
  refine k_seq ?_
  refine k_seq (k_region ?_)
  refine o_move rfl ?_
  refine o_lss rfl rfl rfl ?_
  refine o_nil ?_
  refine k_cF rfl (decide_eq_false (by omega)) ?_
  refine k_skip ?_
  refine k_seq (k_region ?_)
  refine o_move rfl ?_
  refine o_assign rfl ?_
  refine o_nil ?_
  refine k_ret ?_
  refine⟨.inr rfl,_,.cons _ _ _ _ (.tmp 4) .nil,?_⟩
  exact .refl _
def turnI(n b:Int):Int:=if b<1 then 0 else n % b
theorem turnI_b{n b:Int}(h:1≤b):0≤turnI n b∧turnI n b<b:=by
  unfold turnI;rw[if_neg (by omega)]
  exact⟨Int.emod_nonneg _ (by omega),Int.emod_lt_of_pos _ (by omega)⟩
set_option maxHeartbeats 4000000 in
theorem ret46(hi:Off is)(n b:Int)(hb:b≤1000000):RetP Tryd.prog is orc 46 [.int .i64 n,.int .i64 b] (.int .i64 (turnI n b)):=by
  refine ret_of body46 pure46 (hi 46 (by decide)) rfl rfl (dat_l2 (.int _ _ _) (.int _ _ _)) (.inl (.int _ _ _)) ?_
  by_cases h:b<1
  · have e:turnI n b=0:=by unfold turnI;rw[if_pos h]
    rw[e]
    refine k_seq (k_region ?_)
    refine o_assign rfl ?_
    refine o_nil ?_
    refine k_seq ?_
    refine k_seq (k_region ?_)
    refine o_move rfl ?_
    refine o_lss rfl rfl rfl ?_
    refine o_nil ?_
    refine k_cT rfl (decide_eq_true (by omega)) ?_
    refine k_seq (k_region ?_)
    refine o_assign rfl ?_
    refine o_nil ?_
    refine k_ret ?_
    refine⟨.inr rfl,_,.cons _ _ _ _ (.tmp 4) .nil,?_⟩
    exact .refl _
  · have hb0:0<b:=by omega
    have e:turnI n b=n % b:=by unfold turnI;rw[if_neg h]
    have t1:n.tmod b<b:=Int.tmod_lt_of_pos n hb0
    have t2: -b<n.tmod b:=by have:=Int.lt_tmod_of_pos n hb0;omega
    by_cases hn:n.tmod b<0
    · have e2 : n % b = n.tmod b + b := by
        rw[Int.emod_eq_tmod]
        have h0: ¬ (0≤n):=fun h0=>by have:=Int.tmod_nonneg b h0;omega
        have h3: ¬ (b ∣ n):=fun h3=>by have:=(Int.dvd_iff_tmod_eq_zero).1 h3;omega
        simp[h0,h3];omega
      rw[e,e2]
      refine k_seq (k_region ?_)
      refine o_assign rfl ?_
      refine o_nil ?_
      refine k_seq ?_
      refine k_seq (k_region ?_)
      refine o_move rfl ?_
      refine o_lss rfl rfl rfl ?_
      refine o_nil ?_
      refine k_cF rfl (decide_eq_false (by omega)) ?_
      refine k_skip ?_
      refine k_seq (k_region ?_)
      refine o_move rfl ?_
      refine o_move rfl ?_
      refine o_rem rfl rfl rfl (by omega) ?_
      refine o_assign rfl ?_
      refine o_nil ?_
      refine k_seq ?_
      refine k_seq (k_region ?_)
      refine o_move rfl ?_
      refine o_lss rfl rfl rfl ?_
      refine o_nil ?_
      refine k_cT rfl (decide_eq_true (by omega)) ?_
      refine k_region ?_
      refine o_move rfl ?_
      refine o_move rfl ?_
      refine o_add rfl rfl rfl (by unfold I64;omega) ?_
      refine o_assign rfl ?_
      refine o_nil ?_
      refine k_gen [(5,.int .i64 (Int.tmod n b+b))] ([]) (.cons rfl (.nil rfl)) rfl fun fr=>?_
      refine k_seq (k_region ?_)
      refine o_move rfl ?_
      refine o_assign rfl ?_
      refine o_nil ?_
      refine k_ret ?_
      refine⟨.inr rfl,_,.cons _ _ _ _ (.tmp 4) .nil,?_⟩
      exact .refl _
    · have e2 : n % b = n.tmod b := by
        rw[Int.emod_eq_tmod]
        by_cases h0:0≤n
        · simp[h0]
        · have h3 : n.tmod b = 0 := by
            have:=Int.tmod_nonneg b (show 0≤ -n by omega)
            rw[Int.neg_tmod]at this
            omega
          have:b ∣ n:=(Int.dvd_iff_tmod_eq_zero).2 h3
          simp[h0,this]
      rw[e,e2]
      refine k_seq (k_region ?_)
      refine o_assign rfl ?_
      refine o_nil ?_
      refine k_seq ?_
      refine k_seq (k_region ?_)
      refine o_move rfl ?_
      refine o_lss rfl rfl rfl ?_
      refine o_nil ?_
      refine k_cF rfl (decide_eq_false (by omega)) ?_
      refine k_skip ?_
      refine k_seq (k_region ?_)
      refine o_move rfl ?_
      refine o_move rfl ?_
      refine o_rem rfl rfl rfl (by omega) ?_
      refine o_assign rfl ?_
      refine o_nil ?_
      refine k_seq ?_
      refine k_seq (k_region ?_)
      refine o_move rfl ?_
      refine o_lss rfl rfl rfl ?_
      refine o_nil ?_
      refine k_cF rfl (decide_eq_false (by omega)) ?_
      refine k_skip ?_
      refine k_seq (k_region ?_)
      refine o_move rfl ?_
      refine o_assign rfl ?_
      refine o_nil ?_
      refine k_ret ?_
      refine⟨.inr rfl,_,.cons _ _ _ _ (.tmp 4) .nil,?_⟩
      exact .refl _
def drawI(a b n:Int):Int:=if b≤a then a else a+turnI n (b - a+1)
theorem drawI_b{a b:Int}(n:Int)(h:a≤b):a≤drawI a b n∧drawI a b n≤b:=by
  unfold drawI
  split
  · omega
  · have:=turnI_b (n:=n) (b:=b - a+1) (by omega)
    omega
set_option maxHeartbeats 4000000 in
theorem ret88(hi:Off is)(a b n:Int)(ha: -100000≤a∧a≤100000)(hb: -100000≤b∧b≤100000):RetP Tryd.prog is orc 88 [spanU a b,.int .i64 n] (.int .i64 (drawI a b n)):=by
  refine ret_of body88 pure88 (hi 88 (by decide)) rfl rfl (dat_l2 (dat_span a b 6) (.int _ _ _)) (.inl (.int _ _ _)) ?_
  unfold drawI
  by_cases h:b≤a
  · rw[if_pos h]
    refine k_seq (k_region ?_)
    refine o_box rfl rfl ?_
    refine o_assign rfl ?_
    refine o_nil ?_
    refine k_gen [(1,.int .i64 n),(2,U.box 0 0)] ([SB.box [.int .i64 a,.int .i64 b]]) (.cons rfl (.cons rfl (.nil rfl))) rfl fun fr=>?_
    refine k_seq ?_
    refine k_seq (k_region ?_)
    refine o_faddr rfl rfl fld24_1 ?_
    refine o_load1 rfl rfl rfl sh3 rfl ?_
    refine o_faddr rfl rfl fld24_0 ?_
    refine o_load1 rfl rfl rfl sh3 rfl ?_
    refine o_leq rfl rfl rfl ?_
    refine o_nil ?_
    refine k_cT rfl (decide_eq_true (by omega)) ?_
    refine k_seq (k_region ?_)
    refine o_faddr rfl rfl fld24_0 ?_
    refine o_load1 rfl rfl rfl sh3 rfl ?_
    refine o_assign rfl ?_
    refine o_nil ?_
    refine k_ret ?_
    refine⟨.inr rfl,_,.cons _ _ _ _ (.tmp 4) .nil,?_⟩
    exact .refl _
  · rw[if_neg h]
    have ht:=turnI_b (n:=n) (b:=b - a+1) (by omega)
    refine k_seq (k_region ?_)
    refine o_box rfl rfl ?_
    refine o_assign rfl ?_
    refine o_nil ?_
    refine k_gen [(1,.int .i64 n),(2,U.box 0 0)] ([SB.box [.int .i64 a,.int .i64 b]]) (.cons rfl (.cons rfl (.nil rfl))) rfl fun fr=>?_
    refine k_seq ?_
    refine k_seq (k_region ?_)
    refine o_faddr rfl rfl fld24_1 ?_
    refine o_load1 rfl rfl rfl sh3 rfl ?_
    refine o_faddr rfl rfl fld24_0 ?_
    refine o_load1 rfl rfl rfl sh3 rfl ?_
    refine o_leq rfl rfl rfl ?_
    refine o_nil ?_
    refine k_cF rfl (decide_eq_false (by omega)) ?_
    refine k_skip ?_
    refine k_seq (k_region ?_)
    refine o_faddr rfl rfl fld24_1 ?_
    refine o_load1 rfl rfl rfl sh3 rfl ?_
    refine o_faddr rfl rfl fld24_0 ?_
    refine o_load1 rfl rfl rfl sh3 rfl ?_
    refine o_sub rfl rfl rfl (by unfold I64;omega) ?_
    refine o_add rfl rfl rfl (by unfold I64;omega) ?_
    refine o_assign rfl ?_
    refine o_nil ?_
    refine k_gen [(1,.int .i64 n),(2,U.box 0 0),(5,.int .i64 (b - a+(1:Int)))] ([SB.box [.int .i64 a,.int .i64 b]]) (.cons rfl (.cons rfl (.cons rfl (.nil rfl)))) rfl fun fr=>?_
    refine k_seq ?_
    refine k_seq (k_region ?_)
    refine o_move rfl ?_
    refine o_lss rfl rfl rfl ?_
    refine o_nil ?_
    refine k_cF rfl (decide_eq_false (by omega)) ?_
    refine k_skip ?_
    refine k_seq ?_
    refine k_draw [.plain,.read true,.plain,.plain,.read false,.plain,.plain] (by kernel_rfl) (by kernel_rfl) (by kernel_rfl) ?_
    refine d_plain (o_faddr rfl rfl fld24_0 (o_nil rfl)) ?_
    refine d_load rfl (o_load1 rfl rfl rfl sh3 rfl (o_nil rfl)) ?_
    refine d_plain (o_move rfl (o_nil rfl)) ?_
    refine d_plain (o_move rfl (o_nil rfl)) ?_
    refine d_callR rfl (ret46 hi n (b - a+1) (by omega)) (.int _ _) (.lrefl _) ?_
    refine d_plain (o_add rfl rfl rfl (by unfold I64;omega) (o_nil rfl)) ?_
    refine d_plain (o_assign rfl (o_nil rfl)) ?_
    refine d_nil ?_
    refine k_ret ?_
    refine⟨.inr rfl,_,.cons _ _ _ _ (.tmp 4) .nil,?_⟩
    exact .refl _
set_option maxHeartbeats 4000000 in
theorem ret53(hi:Off is)(l:List Int)(i:Nat):RetP Tryd.prog is orc 53 [.lst .ro 1 (intsU l),.int .i64 i] (.int .i64 (nthI l i)):=by
  refine ret_of body53 pure53 (hi 53 (by decide)) rfl rfl (dat_l2 (dat_ints 6 .ro (fun h=>by cases h) 1 l) (.int _ _ _)) (.inl (.int _ _ _)) ?_
  by_cases h0:l.length=0
  · have hl:l=[]:=List.eq_nil_of_length_eq_zero h0
    subst hl
    refine k_seq (k_region ?_)
    refine o_assign rfl ?_
    refine o_nil ?_
    refine k_seq ?_
    refine k_seq (k_region ?_)
    refine o_move rfl ?_
    refine o_len rfl ty22 rfl (List.length_map _) ?_
    refine o_eql rfl rfl rfl ?_
    refine o_nil ?_
    refine k_cT rfl rfl ?_
    refine k_seq (k_region ?_)
    refine o_assign rfl ?_
    refine o_nil ?_
    refine k_ret ?_
    refine⟨.inr rfl,_,.cons _ _ _ _ (.tmp 4) .nil,?_⟩
    exact .refl _
  · have hl:0<l.length:=by omega
    obtain⟨q,hq⟩:∃q,l[i % l.length]? =some q:=⟨_,List.getElem?_eq_getElem (Nat.mod_lt i hl)⟩
    have q46:RetP Tryd.prog is orc 46 [.int .i64 i,.int .i64 l.length] (.int .i64 ((i % l.length:Nat):Int)):=by
      have:=ret46n (orc:=orc) hi (i:Int) l.length (by omega) (by omega)
      rw[←Int.natCast_emod]at this
      exact this
    rw[show nthI l i=q by unfold nthI;rw[hq];rfl]
    generalize hm:i % l.length=m at q46 hq
    have hml:m<l.length:=by rw[←hm];exact Nat.mod_lt i hl
    refine k_seq (k_region ?_)
    refine o_assign rfl ?_
    refine o_nil ?_
    refine k_seq ?_
    refine k_seq (k_region ?_)
    refine o_move rfl ?_
    refine o_len rfl ty22 rfl (List.length_map _) ?_
    refine o_eql rfl rfl rfl ?_
    refine o_nil ?_
    refine k_cF rfl (decide_eq_false (by omega)) ?_
    refine k_skip ?_
    refine k_seq (k_region ?_)
    refine o_move rfl ?_
    refine o_move rfl ?_
    refine o_move rfl ?_
    refine o_len rfl ty22 rfl (List.length_map _) ?_
    refine o_call rfl (q46) (.lrefl _) ?_
    refine o_idx (u:=.int .i64 (q)) rfl ty22 rfl rfl (Int.natCast_nonneg _) (by simp[hq]) cl3 ?_
    refine o_loadR1 rfl rfl sh3 rfl ?_
    refine o_assign rfl ?_
    refine o_nil ?_
    refine k_ret ?_
    refine⟨.inr rfl,_,.cons _ _ _ _ (.tmp 4) .nil,?_⟩
    exact .refl _
def choI(b:Bk)(bits:List Int):Nat→Int
  |0=>b.start
  |k+1=>drawI (max 0 (choI b bits k - 1)) (min 3 (choI b bits k+1)) (nthI bits (k+1))
theorem choI_b{b:Bk}(h:BOk b)(bits:List Int)(k:Nat):0≤choI b bits k∧choI b bits k≤3:=by
  induction k with
  |zero=>exact h.st
  |succ k ih=>
    have:=drawI_b (a:=max 0 (choI b bits k - 1)) (b:=min 3 (choI b bits k+1)) (nthI bits (k+1)) (by omega)
    show 0≤drawI _ _ _∧drawI _ _ _≤3
    omega
theorem choI_n{b:Bk}(h:BOk b)(bits:List Int)(k:Nat):choI b bits k - 1≤choI b bits (k+1)∧choI b bits (k+1)≤choI b bits k+1:=by
  have hb:=choI_b h bits k
  have:=drawI_b (a:=max 0 (choI b bits k - 1)) (b:=min 3 (choI b bits k+1)) (nthI bits (k+1)) (by omega)
  show _≤drawI _ _ _∧drawI _ _ _≤_
  omega
def choL(b:Bk)(bits:List Int)(n:Nat):List Int:=(List.range n).map (choI b bits)
theorem choL_len(b:Bk)(bits:List Int)(n:Nat):(choL b bits n).length=n:=by simp[choL]
theorem choL_at{b:Bk}{bits:List Int}{n i:Nat}(h:i<n):(choL b bits n)[i]? =some (choI b bits i):=by simp[choL,h]
theorem choL_succ(b:Bk)(bits:List Int)(n:Nat):choL b bits (n+1)=choL b bits n++[choI b bits n]:=by simp[choL,List.range_succ]
set_option maxHeartbeats 4000000 in
theorem ret43(hi:Off is){b:Bk}(h:BOk b)(bits:List Int):RetP Tryd.prog is orc 43 [b.u,.lst .ro 1 (intsU bits)] (.lst .ro 1 (intsU (choL b bits b.parts.toNat))):=by
  refine ret_of body43 pure43 (hi 43 (by decide)) rfl rfl (dat_l2 (dat_bk b 4) (dat_ints 6 .ro (fun h=>by cases h) 1 bits)) (.inl (dat_ints 6 .ro (fun h=>by cases h) 1 _)) ?_
  have hp:=h.pa
  have hs:=h.st
  refine k_seq (k_region ?_)
  refine o_box rfl rfl ?_
  refine o_assign rfl ?_
  refine o_nil ?_
  refine k_gen [(1,U.lst Kd.ro 1 (intsU bits)),(2,U.box 0 0)] ([SB.box [.int .i64 (Bk.parts b),.int .i64 (Bk.size b),U.lst Kd.ro 1 (intsU (Bk.beats b)),.int .i64 (Bk.start b),.int .i64 (Bk.fin b),.int .i64 (Bk.tlo b),.int .i64 (Bk.thi b),.int .i64 (Bk.slo b),.int .i64 (Bk.shi b),.int .i64 (Bk.notice b),U.lst Kd.ro 3 (plsU (Bk.players b))]]) (.cons rfl (.cons rfl (.nil rfl))) rfl fun fr=>?_
  refine k_seq (k_region ?_)
  refine o_faddr rfl rfl fld27_3 ?_
  refine o_load1 rfl rfl rfl sh3 rfl ?_
  refine o_lit (es:=[.int .i64 (Bk.start b)]) rfl ty22 ze3 cl3 rfl rfl rfl rfl rfl rfl rfl rfl ?_
  refine o_assign rfl ?_
  refine o_nil ?_
  refine k_seq ?_
  refine k_seq (k_region ?_)
  refine o_assign rfl ?_
  refine o_nil ?_
  refine k_block ?_
  obtain⟨V,hV⟩:∃V:List SB,V=[.box [.int .i64 b.parts,.int .i64 b.size,.lst .ro 1 (intsU b.beats),.int .i64 b.start,.int .i64 b.fin,.int .i64 b.tlo,.int .i64 b.thi,.int .i64 b.slo,.int .i64 b.shi,.int .i64 b.notice,.lst .ro 3 (plsU b.players)]]:=⟨_,rfl⟩
  refine k_loop (fun kk s2=>∃(i:Nat) (kd:Kd),(kk:Int)+i+1=b.parts∧(kd=.full∨kd=.own)∧(∃e,s2.st=V++e)∧Holds s2 [(1,.lst .ro 1 (intsU bits)),(2,.box 0 0),(5,.lst kd 1 (intsU (choL b bits (i+1)))),(6,.int .i64 (i+1))]) (fun kk s2 hI=>?_) (b.parts - 1).toNat _ ⟨0,.full,by omega,.inl rfl,⟨[],by rw[hV];rfl⟩,.cons rfl (.cons rfl (.cons rfl (.cons rfl (.nil rfl))))⟩
  obtain⟨i,kd,hk,hkd,⟨e,hst2⟩,hs2⟩:=hI
  generalize hY:V++e=Y at hst2
  have y0:Y[0]? =some (SB.box [.int .i64 b.parts,.int .i64 b.size,.lst .ro 1 (intsU b.beats),.int .i64 b.start,.int .i64 b.fin,.int .i64 b.tlo,.int .i64 b.thi,.int .i64 b.slo,.int .i64 b.shi,.int .i64 b.notice,.lst .ro 3 (plsU b.players)]):=by rw[←hY,hV];rfl
  have hlen:=choL_len b bits (i+1)
  have hat:=choL_at (b:=b) (bits:=bits) (show i<i+1 by omega)
  have hb:=choI_b h bits i
  have hsu:=choL_succ b bits (i+1)
  have hn:choI b bits (i+1)=drawI (max 0 (choI b bits i - 1)) (min 3 (choI b bits i+1)) (nthI bits (i+1)):=rfl
  refine k_gen _ _ hs2 hst2 fun fr2=>?_
  by_cases hin:(i:Int)+1<b.parts
  · generalize choL b bits (i+1)=A at hlen hat hsu ⊢
    generalize choI b bits i=c at hat hb hn
    rcases hkd with rfl|rfl
    · refine k_seq ?_
      refine k_seq (k_region ?_)
      refine o_move rfl ?_
      refine o_faddr rfl rfl fld27_0 ?_
      refine o_load1 rfl rfl y0 sh3 rfl ?_
      refine o_lss rfl rfl rfl ?_
      refine o_nil ?_
      refine k_cT rfl (decide_eq_true (by omega)) ?_
      refine k_skip ?_
      refine k_seq ?_
      refine k_block ?_
      refine k_seq (k_region ?_)
      refine o_move rfl ?_
      refine o_move rfl ?_
      refine o_sub rfl rfl rfl (by unfold I64;omega) ?_
      refine o_idx (u:=.int .i64 (c)) rfl ty22 rfl rfl (by omega) (by simp[hat]) cl3 ?_
      refine o_loadR1 rfl rfl sh3 rfl ?_
      refine o_assign rfl ?_
      refine o_nil ?_
      refine k_region ?_
      refine o_move rfl ?_
      refine o_move rfl ?_
      refine o_sub rfl rfl rfl (by unfold I64;omega) ?_
      refine o_max rfl rfl rfl ?_
      refine o_move rfl ?_
      refine o_add rfl rfl rfl (by unfold I64;omega) ?_
      refine o_min rfl rfl rfl ?_
      refine o_call rfl (ret48 hi (max 0 (c - 1)) (min 3 (c+1))) (.lrefl _) ?_
      refine o_move rfl ?_
      refine o_genA [(1,U.lst Kd.ro 1 (intsU bits)),(2,U.box 0 0),(6,.int .i64 (↑i+(1:Int))),(22,U.lst Kd.full 1 (intsU A)),(29,U.agg [.int .i64 (Max.max (0:Int) (c - (1:Int))),.int .i64 (Min.min (3:Int) (c+(1:Int)))]),(30,U.lst Kd.ro 1 (intsU bits))] [] (Y) (.cons rfl (.cons rfl (.cons rfl (.cons rfl (.cons rfl (.cons rfl (.nil rfl))))))) rfl rfl fun fr=>?_
      refine o_move rfl ?_
      refine o_call rfl (ret53 hi bits (i+1)) (.lrefl _) ?_
      refine o_call rfl (ret88 hi (max 0 (c - 1)) (min 3 (c+1)) (nthI bits (i+1)) (by omega) (by omega)) (.lrefl _) ?_
      refine o_lit (es:=[.int .i64 (drawI (Max.max (0:Int) (c - (1:Int))) (Min.min (3:Int) (c+(1:Int))) (nthI bits (i+1)))]) rfl ty22 ze3 cl3 rfl rfl rfl rfl rfl rfl rfl rfl ?_
      refine o_appendF rfl ap22_22 rfl rfl (by simp) (by simp) (by simp[flatU,cellsU,oneU]) (by simp;omega) ?_
      refine o_assign rfl ?_
      refine o_nil ?_
      refine k_gen [(1,U.lst Kd.ro 1 (intsU bits)),(2,U.box 0 0),(5,U.lst Kd.own 1 (intsU A++[.int .i64 (drawI (Max.max (0:Int) (c - (1:Int))) (Min.min (3:Int) (c+(1:Int))) (nthI bits (i+1)))])),(6,.int .i64 (↑i+(1:Int)))] (Y) (.cons rfl (.cons rfl (.cons rfl (.cons rfl (.nil rfl))))) rfl fun fr=>?_
      refine k_region ?_
      refine o_move rfl ?_
      refine o_add rfl rfl rfl (by unfold I64;omega) ?_
      refine o_assign rfl ?_
      refine o_nil ?_
      refine⟨kk - 1,by omega,i+1,.own,by omega,.inr rfl,⟨e,hY.symm⟩,.cons rfl (.cons rfl (.cons (by rw[hsu,hn];simp[intsU];rfl) (.cons rfl (.nil rfl))))⟩
    · refine k_seq ?_
      refine k_seq (k_region ?_)
      refine o_move rfl ?_
      refine o_faddr rfl rfl fld27_0 ?_
      refine o_load1 rfl rfl y0 sh3 rfl ?_
      refine o_lss rfl rfl rfl ?_
      refine o_nil ?_
      refine k_cT rfl (decide_eq_true (by omega)) ?_
      refine k_skip ?_
      refine k_seq ?_
      refine k_block ?_
      refine k_seq (k_region ?_)
      refine o_move rfl ?_
      refine o_move rfl ?_
      refine o_sub rfl rfl rfl (by unfold I64;omega) ?_
      refine o_idx (u:=.int .i64 (c)) rfl ty22 rfl rfl (by omega) (by simp[hat]) cl3 ?_
      refine o_loadR1 rfl rfl sh3 rfl ?_
      refine o_assign rfl ?_
      refine o_nil ?_
      refine k_region ?_
      refine o_move rfl ?_
      refine o_move rfl ?_
      refine o_sub rfl rfl rfl (by unfold I64;omega) ?_
      refine o_max rfl rfl rfl ?_
      refine o_move rfl ?_
      refine o_add rfl rfl rfl (by unfold I64;omega) ?_
      refine o_min rfl rfl rfl ?_
      refine o_call rfl (ret48 hi (max 0 (c - 1)) (min 3 (c+1))) (.lrefl _) ?_
      refine o_move rfl ?_
      refine o_move rfl ?_
      refine o_call rfl (ret53 hi bits (i+1)) (.lrefl _) ?_
      refine o_call rfl (ret88 hi (max 0 (c - 1)) (min 3 (c+1)) (nthI bits (i+1)) (by omega) (by omega)) (.lrefl _) ?_
      refine o_lit (es:=[.int .i64 (drawI (Max.max (0:Int) (c - (1:Int))) (Min.min (3:Int) (c+(1:Int))) (nthI bits (i+1)))]) rfl ty22 ze3 cl3 rfl rfl rfl rfl rfl rfl rfl rfl ?_
      refine o_appendS 5 rfl ap22_22 rfl rfl rfl (by simp) (by simp) (by simp[flatU,cellsU,oneU]) (by simp at hlen ⊢;omega) ?_
      refine o_assign rfl ?_
      refine o_nil ?_
      refine k_region ?_
      refine o_move rfl ?_
      refine o_add rfl rfl rfl (by unfold I64;omega) ?_
      refine o_assign rfl ?_
      refine o_nil ?_
      refine⟨kk - 1,by omega,i+1,.own,by omega,.inr rfl,⟨e,hY.symm⟩,.cons rfl (.cons rfl (.cons (by rw[hsu,hn];simp[intsU];rfl) (.cons rfl (.nil rfl))))⟩
  · have hie:b.parts.toNat=i+1:=by omega
    rw[hie]
    rcases hkd with rfl|rfl
    · refine k_seq ?_
      refine k_seq (k_region ?_)
      refine o_move rfl ?_
      refine o_faddr rfl rfl fld27_0 ?_
      refine o_load1 rfl rfl y0 sh3 rfl ?_
      refine o_lss rfl rfl rfl ?_
      refine o_nil ?_
      refine k_cF rfl (decide_eq_false (by omega)) ?_
      refine k_exit ?_
      refine k_seq (k_region ?_)
      refine o_move rfl ?_
      refine o_assign rfl ?_
      refine o_nil ?_
      refine k_ret ?_
      refine⟨.inr rfl,_,.cons _ _ _ _ (.tmp 4) .nil,?_⟩
      exact .ro _ _ _
    · refine k_seq ?_
      refine k_seq (k_region ?_)
      refine o_move rfl ?_
      refine o_faddr rfl rfl fld27_0 ?_
      refine o_load1 rfl rfl y0 sh3 rfl ?_
      refine o_lss rfl rfl rfl ?_
      refine o_nil ?_
      refine k_cF rfl (decide_eq_false (by omega)) ?_
      refine k_exit ?_
      refine k_seq (k_region ?_)
      refine o_move rfl ?_
      refine o_assign rfl ?_
      refine o_nil ?_
      refine k_ret ?_
      refine⟨.inr rfl,_,.cons _ _ _ _ (.tmp 4) .nil,?_⟩
      exact .refl _
end Go.Proofs.YtfbmlibilcjlgaaDoor.drumCued
