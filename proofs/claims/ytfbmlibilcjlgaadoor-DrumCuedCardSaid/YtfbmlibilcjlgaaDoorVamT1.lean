/- drum's functions, the specification's and the law's, by the logic of trees: what each gives back for all that it may be given. -/
import Derived.Test.YtfbmlibilcjlgaaDoorVamR
import Derived.Test.YtfbmlibilcjlgaaDoorProg
import Derived.KernelRfl
set_option linter.unusedVariables false
set_option linter.unusedSimpArgs false
set_option linter.constructorNameAsVariable false
/-! ### drum: small functions -/
namespace Go.Proofs.YtfbmlibilcjlgaaDoor.drumCued
open Vam
variable {is:FuncId→Bool}{orc:Known}
theorem dat_l1{k:Nat}{a:U}(h:Dat k a):∀v∈[a],Dat k v:=fun v hv=>by
  simp only[List.mem_cons,List.not_mem_nil,or_false]at hv
  subst hv;exact h
theorem dat_l2{k:Nat}{a b:U}(h:Dat k a)(h2:Dat k b):∀v∈[a,b],Dat k v:=fun v hv=>by
  simp only[List.mem_cons,List.not_mem_nil,or_false]at hv
  rcases hv with rfl|rfl<;>assumption
theorem dat_l3{k:Nat}{a b c:U}(h:Dat k a)(h2:Dat k b)(h3:Dat k c):∀v∈[a,b,c],Dat k v:=fun v hv=>by
  simp only[List.mem_cons,List.not_mem_nil,or_false]at hv
  rcases hv with rfl|rfl|rfl<;>assumption
abbrev spanU(a b:Int):U:=.agg [.int .i64 a,.int .i64 b]
theorem dat_span(a b:Int)(k:Nat):Dat (k+2) (spanU a b):=.agg _ _ (dat_l2 (.int _ _ _) (.int _ _ _))
theorem flat_span(a b:Int):FlatU (spanU a b):=.agg _ fun c hc=>by
  simp only[List.mem_cons,List.not_mem_nil,or_false]at hc
  rcases hc with rfl|rfl<;>exact .int _ _
abbrev intsU(l:List Int):List U:=l.map fun n=>.int .i64 n
structure Two where
  a:Int
  b:Int
abbrev Two.u(q:Two):U:=spanU q.a q.b
abbrev twosU(l:List Two):List U:=l.map Two.u
theorem dat_twos(l:List Two)(kd:Kd)(hk:kd≠.own)(k:Nat):Dat (k+2) (.lst kd 2 (twosU l)):=by
  refine .lst _ _ _ _ hk fun c hc=>?_
  obtain⟨e,h1,h2⟩:=List.mem_flatMap.1 hc
  obtain⟨q,_,rfl⟩:=List.mem_map.1 h1
  exact dat_l2 (.int _ _ _) (.int _ _ _) c h2
theorem all_take{α:Type}{p:α→Bool}{l:List α}{n:Nat}{x:α}(h:l[n]? =some x)(h1:(l.take n).all p=true)(h2:p x=true):(l.take (n+1)).all p=true:=by
  rw[List.take_add_one,List.all_append,h1,h]
  simpa using h2
theorem all_not{α:Type}{p:α→Bool}{l:List α}{n:Nat}{x:α}(h:l[n]? =some x)(h2:p x=false):l.all p=false:=by
  rw[List.all_eq_false]
  exact⟨x,List.mem_of_getElem? h,by simp[h2]⟩
theorem at_pre{l m:List SB}{i:Nat}{x:SB}(h:l[i]? =some x):(l++m)[i]? =some x:=by
  rw[List.getElem?_append_left (List.getElem?_eq_some_iff.1 h).1,h]
theorem set_end(l:List SB)(x y:SB):(l++[x]).set l.length y=l++[y]:=by
  rw[List.set_append_right _ _ (Nat.le_refl _),Nat.sub_self];rfl
abbrev Off(is:FuncId→Bool):Prop:=∀f,f≠24→is f=false
structure Pl where
  la:Int
  lb:Int
  cat:List Two
abbrev Pl.cs(p:Pl):List U:=[.int .i64 p.la,.int .i64 p.lb,.lst .ro 2 (twosU p.cat)]
abbrev Pl.u(p:Pl):U:=.agg p.cs
abbrev plsU(l:List Pl):List U:=l.map Pl.u
theorem dat_plcs(p:Pl)(k:Nat):∀c∈p.cs,Dat (k+2) c:=fun c hc=>by
  simp only[List.mem_cons,List.not_mem_nil,or_false]at hc
  rcases hc with rfl|rfl|rfl
  · exact .int _ _ _
  · exact .int _ _ _
  · exact dat_twos _ .ro (fun h=>by cases h) k
theorem dat_pl(p:Pl)(k:Nat):Dat (k+3) p.u:=.agg _ _ (dat_plcs p k)
theorem dat_pls(l:List Pl)(kd:Kd)(hk:kd≠.own)(k:Nat):Dat (k+3) (.lst kd 3 (plsU l)):=by
  refine .lst _ _ _ _ hk fun c hc=>?_
  obtain⟨e,h1,h2⟩:=List.mem_flatMap.1 hc
  obtain⟨q,_,rfl⟩:=List.mem_map.1 h1
  exact dat_plcs q k c h2
structure Bk where
  parts:Int
  size:Int
  beats:List Int
  start:Int
  fin:Int
  tlo:Int
  thi:Int
  slo:Int
  shi:Int
  notice:Int
  players:List Pl
abbrev Bk.cs(b:Bk):List U:=[.int .i64 b.parts,.int .i64 b.size,.lst .ro 1 (intsU b.beats),.int .i64 b.start,.int .i64 b.fin,.int .i64 b.tlo,.int .i64 b.thi,.int .i64 b.slo,.int .i64 b.shi,.int .i64 b.notice,.lst .ro 3 (plsU b.players)]
abbrev Bk.u(b:Bk):U:=.agg b.cs
theorem dat_bk(b:Bk)(k:Nat):Dat (k+4) b.u:=.agg _ _ fun c hc=>by
  simp only[List.mem_cons,List.not_mem_nil,or_false]at hc
  rcases hc with rfl|rfl|rfl|rfl|rfl|rfl|rfl|rfl|rfl|rfl|rfl
  · exact .int _ _ _
  · exact .int _ _ _
  · exact dat_ints _ .ro (fun h=>by cases h) 1 _
  · exact .int _ _ _
  · exact .int _ _ _
  · exact .int _ _ _
  · exact .int _ _ _
  · exact .int _ _ _
  · exact .int _ _ _
  · exact .int _ _ _
  · exact dat_pls _ .ro (fun h=>by cases h) k
-- 90 saron/drum.within params [24, 3] pure True
theorem fld24_0:fieldOf Tryd.prog 24 0=some (0,3):=by kernel_rfl
theorem fld24_1:fieldOf Tryd.prog 24 1=some (1,3):=by kernel_rfl
theorem sh3:shOf Tryd.prog 3=.one:=by kernel_rfl
noncomputable def b90:Code:=(Tryd.f90.body).getD .skip
theorem body90:bodyOf Tryd.prog 90=some (15,b90,[.tmp 4]):=by kernel_rfl
theorem pure90:pureFn Tryd.prog 90=true:=by kernel_rfl
-- 52 saron/saronref00.Sits params [3, 3, 3] pure True
noncomputable def b52:Code:=(Tryd.f52.body).getD .skip
theorem body52:bodyOf Tryd.prog 52=some (15,b52,[.tmp 6]):=by kernel_rfl
theorem pure52:pureFn Tryd.prog 52=true:=by kernel_rfl
-- 59 saron/saronref00.Good params [24, 3, 3] pure True
noncomputable def b59:Code:=(Tryd.f59.body).getD .skip
theorem body59:bodyOf Tryd.prog 59=some (24,b59,[.tmp 6]):=by kernel_rfl
theorem pure59:pureFn Tryd.prog 59=true:=by kernel_rfl
-- 48 saron/saronref00.Band params [3, 3] pure True
theorem pl24:plcOf Tryd.prog 24=some [(0,1),(1,1)]:=by kernel_rfl
theorem sh24:shOf Tryd.prog 24=.many 2:=by kernel_rfl
theorem ze24:zeroL Tryd.prog 24=some ((.cons (.int .i64 0) (.cons (.int .i64 0) .nil)):V):=by kernel_rfl
noncomputable def b48:Code:=(Tryd.f48.body).getD .skip
theorem body48:bodyOf Tryd.prog 48=some (8,b48,[.cell 4 24]):=by kernel_rfl
theorem pure48:pureFn Tryd.prog 48=true:=by kernel_rfl
-- 40 saron/saronref00.Bears params [24, 3] pure True
noncomputable def b40:Code:=(Tryd.f40.body).getD .skip
theorem body40:bodyOf Tryd.prog 40=some (11,b40,[.tmp 4]):=by kernel_rfl
theorem pure40:pureFn Tryd.prog 40=true:=by kernel_rfl
-- 92 saron/drum.areWithin params [24, 22] pure True
theorem cl3:Program.cellsOf Tryd.prog 3=1:=by kernel_rfl
theorem ty22:tyOf Tryd.prog 22=.slice 3:=by kernel_rfl
noncomputable def b92:Code:=(Tryd.f92.body).getD .skip
theorem body92:bodyOf Tryd.prog 92=some (18,b92,[.tmp 4]):=by kernel_rfl
theorem pure92:pureFn Tryd.prog 92=true:=by kernel_rfl
-- 93 saron/drum.areSpans params [24, 66] pure True
theorem cl24:Program.cellsOf Tryd.prog 24=2:=by kernel_rfl
theorem ty66:tyOf Tryd.prog 66=.slice 24:=by kernel_rfl
theorem ze3:zeroL Tryd.prog 3=some ((.cons (.int .i64 0) .nil):V):=by kernel_rfl
noncomputable def b93:Code:=(Tryd.f93.body).getD .skip
theorem body93:bodyOf Tryd.prog 93=some (29,b93,[.tmp 4]):=by kernel_rfl
theorem pure93:pureFn Tryd.prog 93=true:=by kernel_rfl
-- 91 saron/drum.isValidPlayer params [68] pure True
theorem fld68_0:fieldOf Tryd.prog 68 0=some (0,24):=by kernel_rfl
theorem fld68_1:fieldOf Tryd.prog 68 1=some (2,66):=by kernel_rfl
theorem sh66:shOf Tryd.prog 66=.one:=by kernel_rfl
theorem ty112:tyOf Tryd.prog 112=.array 10 24:=by kernel_rfl
noncomputable def b91:Code:=(Tryd.f91.body).getD .skip
theorem body91:bodyOf Tryd.prog 91=some (22,b91,[.tmp 2]):=by kernel_rfl
theorem pure91:pureFn Tryd.prog 91=true:=by kernel_rfl
def inS(a b n:Int):Bool:=decide (a≤n)&&decide (n≤b)
theorem ret90(hi:Off is)(a b n:Int):RetP Tryd.prog is orc 90 [spanU a b,.int .i64 n] (.bool (inS a b n)):=by
  refine ret_of body90 pure90 (hi 90 (by decide)) rfl rfl (dat_l2 (dat_span a b 6) (.int _ _ _)) (.inl (.bool _ _)) ?_
  unfold inS
  by_cases h:a≤n
  · rw[decide_eq_true h,Bool.true_and]
    refine k_seq (k_region ?_)
    refine o_box rfl rfl ?_
    refine o_assign rfl ?_
    refine o_nil ?_
    refine k_gen [(1,.int .i64 n),(2,U.box 0 0)] ([SB.box [.int .i64 a,.int .i64 b]]) (.cons rfl (.cons rfl (.nil rfl))) rfl fun fr=>?_
    refine k_seq (k_region ?_)
    refine o_faddr rfl rfl fld24_0 ?_
    refine o_load1 rfl rfl rfl sh3 rfl ?_
    refine o_move rfl ?_
    refine o_leq rfl rfl rfl ?_
    refine o_move rfl ?_
    refine o_gD rfl rfl rfl rfl (decide_eq_true (by omega)) ?_
    refine o_move rfl ?_
    refine o_gD rfl rfl rfl rfl (decide_eq_true (by omega)) ?_
    refine o_faddr rfl rfl fld24_1 ?_
    refine o_gD rfl rfl rfl rfl (decide_eq_true (by omega)) ?_
    refine o_load1 rfl rfl rfl sh3 rfl ?_
    refine o_gD rfl rfl rfl rfl (decide_eq_true (by omega)) ?_
    refine o_leq rfl rfl rfl ?_
    refine o_pickT rfl rfl (decide_eq_true (by omega)) ?_
    refine o_assign rfl ?_
    refine o_nil ?_
    refine k_ret ?_
    refine⟨.inr rfl,_,.cons _ _ _ _ (.tmp 4) .nil,?_⟩
    exact .refl _
  · rw[decide_eq_false h,Bool.false_and]
    refine k_seq (k_region ?_)
    refine o_box rfl rfl ?_
    refine o_assign rfl ?_
    refine o_nil ?_
    refine k_gen [(1,.int .i64 n),(2,U.box 0 0)] ([SB.box [.int .i64 a,.int .i64 b]]) (.cons rfl (.cons rfl (.nil rfl))) rfl fun fr=>?_
    refine k_seq (k_region ?_)
    refine o_faddr rfl rfl fld24_0 ?_
    refine o_load1 rfl rfl rfl sh3 rfl ?_
    refine o_move rfl ?_
    refine o_leq rfl rfl rfl ?_
    refine o_move rfl ?_
    refine o_gS rfl rfl rfl rfl (decide_eq_false (by omega)) ?_
    refine o_gS rfl rfl rfl rfl (decide_eq_false (by omega)) ?_
    refine o_gS rfl rfl rfl rfl (decide_eq_false (by omega)) ?_
    refine o_gS rfl rfl rfl rfl (decide_eq_false (by omega)) ?_
    refine o_pickF rfl rfl (decide_eq_false (by omega)) ?_
    refine o_assign rfl ?_
    refine o_nil ?_
    refine k_ret ?_
    refine⟨.inr rfl,_,.cons _ _ _ _ (.tmp 4) .nil,?_⟩
    exact .refl _
theorem ret52(hi:Off is)(n a b:Int):RetP Tryd.prog is orc 52 [.int .i64 n,.int .i64 a,.int .i64 b] (.bool (inS a b n)):=by
  refine ret_of body52 pure52 (hi 52 (by decide)) rfl rfl (dat_l3 (.int _ _ _) (.int _ _ _) (.int _ _ _)) (.inl (.bool _ _)) ?_
  unfold inS
  by_cases h:a≤n
  · rw[decide_eq_true h,Bool.true_and]
    refine k_seq (k_region ?_)
    refine o_assign rfl ?_
    refine o_nil ?_
    refine k_seq (k_region ?_)
    refine o_move rfl ?_
    refine o_move rfl ?_
    refine o_leq rfl rfl rfl ?_
    refine o_move rfl ?_
    refine o_gD rfl rfl rfl rfl (decide_eq_true (by omega)) ?_
    refine o_move rfl ?_
    refine o_gD rfl rfl rfl rfl (decide_eq_true (by omega)) ?_
    refine o_move rfl ?_
    refine o_gD rfl rfl rfl rfl (decide_eq_true (by omega)) ?_
    refine o_leq rfl rfl rfl ?_
    refine o_pickT rfl rfl (decide_eq_true (by omega)) ?_
    refine o_assign rfl ?_
    refine o_nil ?_
    refine k_ret ?_
    refine⟨.inr rfl,_,.cons _ _ _ _ (.tmp 6) .nil,?_⟩
    exact .refl _
  · rw[decide_eq_false h,Bool.false_and]
    refine k_seq (k_region ?_)
    refine o_assign rfl ?_
    refine o_nil ?_
    refine k_seq (k_region ?_)
    refine o_move rfl ?_
    refine o_move rfl ?_
    refine o_leq rfl rfl rfl ?_
    refine o_move rfl ?_
    refine o_gS rfl rfl rfl rfl (decide_eq_false (by omega)) ?_
    refine o_gS rfl rfl rfl rfl (decide_eq_false (by omega)) ?_
    refine o_gS rfl rfl rfl rfl (decide_eq_false (by omega)) ?_
    refine o_pickF rfl rfl (decide_eq_false (by omega)) ?_
    refine o_assign rfl ?_
    refine o_nil ?_
    refine k_ret ?_
    refine⟨.inr rfl,_,.cons _ _ _ _ (.tmp 6) .nil,?_⟩
    exact .refl _
def goodB(a b lo hi:Int):Bool:=decide (lo≤a)&&(decide (a≤b)&&decide (b≤hi))
theorem ret59(hi:Off is)(a b lo up:Int):RetP Tryd.prog is orc 59 [spanU a b,.int .i64 lo,.int .i64 up] (.bool (goodB a b lo up)):=by
  refine ret_of body59 pure59 (hi 59 (by decide)) rfl rfl (dat_l3 (dat_span a b 6) (.int _ _ _) (.int _ _ _)) (.inl (.bool _ _)) ?_
  unfold goodB
  by_cases h:lo≤a
  · rw[decide_eq_true h,Bool.true_and]
    by_cases h2:a≤b
    · rw[decide_eq_true h2,Bool.true_and]
      refine k_seq (k_region ?_)
      refine o_box rfl rfl ?_
      refine o_assign rfl ?_
      refine o_nil ?_
      refine k_gen [(1,.int .i64 lo),(2,.int .i64 up),(3,U.box 0 0)] ([SB.box [.int .i64 a,.int .i64 b]]) (.cons rfl (.cons rfl (.cons rfl (.nil rfl)))) rfl fun fr=>?_
      refine k_seq (k_region ?_)
      refine o_move rfl ?_
      refine o_faddr rfl rfl fld24_0 ?_
      refine o_load1 rfl rfl rfl sh3 rfl ?_
      refine o_leq rfl rfl rfl ?_
      refine o_move rfl ?_
      refine o_gD rfl rfl rfl rfl (decide_eq_true (by omega)) ?_
      refine o_faddr rfl rfl fld24_0 ?_
      refine o_gD rfl rfl rfl rfl (decide_eq_true (by omega)) ?_
      refine o_load1 rfl rfl rfl sh3 rfl ?_
      refine o_gD rfl rfl rfl rfl (decide_eq_true (by omega)) ?_
      refine o_faddr rfl rfl fld24_1 ?_
      refine o_gD rfl rfl rfl rfl (decide_eq_true (by omega)) ?_
      refine o_load1 rfl rfl rfl sh3 rfl ?_
      refine o_genA [(2,.int .i64 up),(3,U.box 0 0),(11,U.bool (Decidable.decide (lo≤a))),(13,.int .i64 a),(15,.int .i64 b)] [] ([SB.box [.int .i64 a,.int .i64 b]]) (.cons rfl (.cons rfl (.cons rfl (.cons rfl (.cons rfl (.nil rfl)))))) rfl rfl fun fr=>?_
      refine o_gD rfl rfl rfl rfl (decide_eq_true (by omega)) ?_
      refine o_genA [(2,.int .i64 up),(3,U.box 0 0),(11,U.bool (Decidable.decide (lo≤a))),(13,.int .i64 a),(15,.int .i64 b)] [] ([SB.box [.int .i64 a,.int .i64 b]]) (.cons rfl (.cons rfl (.cons rfl (.cons rfl (.cons rfl (.nil rfl)))))) rfl rfl fun fr=>?_
      refine o_leq rfl rfl rfl ?_
      refine o_pickT rfl rfl (decide_eq_true (by omega)) ?_
      refine o_move rfl ?_
      refine o_gD rfl rfl rfl rfl (decide_eq_true (by omega)) ?_
      refine o_faddr rfl rfl fld24_1 ?_
      refine o_gD rfl rfl rfl rfl (decide_eq_true (by omega)) ?_
      refine o_load1 rfl rfl rfl sh3 rfl ?_
      refine o_gD rfl rfl rfl rfl (decide_eq_true (by omega)) ?_
      refine o_move rfl ?_
      refine o_gD rfl rfl rfl rfl (decide_eq_true (by omega)) ?_
      refine o_leq rfl rfl rfl ?_
      refine o_pickT rfl rfl (decide_eq_true (by omega)) ?_
      refine o_assign rfl ?_
      refine o_nil ?_
      refine k_ret ?_
      refine⟨.inr rfl,_,.cons _ _ _ _ (.tmp 6) .nil,?_⟩
      exact .refl _
    · rw[decide_eq_false h2,Bool.false_and]
      refine k_seq (k_region ?_)
      refine o_box rfl rfl ?_
      refine o_assign rfl ?_
      refine o_nil ?_
      refine k_gen [(1,.int .i64 lo),(2,.int .i64 up),(3,U.box 0 0)] ([SB.box [.int .i64 a,.int .i64 b]]) (.cons rfl (.cons rfl (.cons rfl (.nil rfl)))) rfl fun fr=>?_
      refine k_seq (k_region ?_)
      refine o_move rfl ?_
      refine o_faddr rfl rfl fld24_0 ?_
      refine o_load1 rfl rfl rfl sh3 rfl ?_
      refine o_leq rfl rfl rfl ?_
      refine o_move rfl ?_
      refine o_gD rfl rfl rfl rfl (decide_eq_true (by omega)) ?_
      refine o_faddr rfl rfl fld24_0 ?_
      refine o_gD rfl rfl rfl rfl (decide_eq_true (by omega)) ?_
      refine o_load1 rfl rfl rfl sh3 rfl ?_
      refine o_gD rfl rfl rfl rfl (decide_eq_true (by omega)) ?_
      refine o_faddr rfl rfl fld24_1 ?_
      refine o_gD rfl rfl rfl rfl (decide_eq_true (by omega)) ?_
      refine o_load1 rfl rfl rfl sh3 rfl ?_
      refine o_genA [(2,.int .i64 up),(3,U.box 0 0),(11,U.bool (Decidable.decide (lo≤a))),(13,.int .i64 a),(15,.int .i64 b)] [] ([SB.box [.int .i64 a,.int .i64 b]]) (.cons rfl (.cons rfl (.cons rfl (.cons rfl (.cons rfl (.nil rfl)))))) rfl rfl fun fr=>?_
      refine o_gD rfl rfl rfl rfl (decide_eq_true (by omega)) ?_
      refine o_genA [(2,.int .i64 up),(3,U.box 0 0),(11,U.bool (Decidable.decide (lo≤a))),(13,.int .i64 a),(15,.int .i64 b)] [] ([SB.box [.int .i64 a,.int .i64 b]]) (.cons rfl (.cons rfl (.cons rfl (.cons rfl (.cons rfl (.nil rfl)))))) rfl rfl fun fr=>?_
      refine o_leq rfl rfl rfl ?_
      refine o_pickT rfl rfl (decide_eq_true (by omega)) ?_
      refine o_move rfl ?_
      refine o_gS rfl rfl rfl rfl (decide_eq_false (by omega)) ?_
      refine o_gS rfl rfl rfl rfl (decide_eq_false (by omega)) ?_
      refine o_gS rfl rfl rfl rfl (decide_eq_false (by omega)) ?_
      refine o_gS rfl rfl rfl rfl (decide_eq_false (by omega)) ?_
      refine o_pickF rfl rfl (decide_eq_false (by omega)) ?_
      refine o_assign rfl ?_
      refine o_nil ?_
      refine k_ret ?_
      refine⟨.inr rfl,_,.cons _ _ _ _ (.tmp 6) .nil,?_⟩
      exact .refl _
  · rw[decide_eq_false h,Bool.false_and]
    refine k_seq (k_region ?_)
    refine o_box rfl rfl ?_
    refine o_assign rfl ?_
    refine o_nil ?_
    refine k_gen [(1,.int .i64 lo),(2,.int .i64 up),(3,U.box 0 0)] ([SB.box [.int .i64 a,.int .i64 b]]) (.cons rfl (.cons rfl (.cons rfl (.nil rfl)))) rfl fun fr=>?_
    refine k_seq (k_region ?_)
    refine o_move rfl ?_
    refine o_faddr rfl rfl fld24_0 ?_
    refine o_load1 rfl rfl rfl sh3 rfl ?_
    refine o_leq rfl rfl rfl ?_
    refine o_move rfl ?_
    refine o_gS rfl rfl rfl rfl (decide_eq_false (by omega)) ?_
    refine o_gS rfl rfl rfl rfl (decide_eq_false (by omega)) ?_
    refine o_gS rfl rfl rfl rfl (decide_eq_false (by omega)) ?_
    refine o_gS rfl rfl rfl rfl (decide_eq_false (by omega)) ?_
    refine o_genA [(2,.int .i64 up),(3,U.box 0 0),(11,U.bool (Decidable.decide (lo≤a))),(13,U.tup []),(15,U.tup [])] [] ([SB.box [.int .i64 a,.int .i64 b]]) (.cons rfl (.cons rfl (.cons rfl (.cons rfl (.cons rfl (.nil rfl)))))) rfl rfl fun fr=>?_
    refine o_gS rfl rfl rfl rfl (decide_eq_false (by omega)) ?_
    refine o_pickF rfl rfl (decide_eq_false (by omega)) ?_
    refine o_move rfl ?_
    refine o_gS rfl rfl rfl rfl rfl ?_
    refine o_gS rfl rfl rfl rfl rfl ?_
    refine o_gS rfl rfl rfl rfl rfl ?_
    refine o_gS rfl rfl rfl rfl rfl ?_
    refine o_pickF rfl rfl rfl ?_
    refine o_assign rfl ?_
    refine o_nil ?_
    refine k_ret ?_
    refine⟨.inr rfl,_,.cons _ _ _ _ (.tmp 6) .nil,?_⟩
    exact .refl _
theorem ret48(hi:Off is)(a b:Int):RetP Tryd.prog is orc 48 [.int .i64 a,.int .i64 b] (spanU a b):=by
  refine ret_of body48 pure48 (hi 48 (by decide)) rfl rfl (dat_l2 (.int _ _ _) (.int _ _ _)) (.inl (dat_span a b 6)) ?_
  refine k_seq (k_region ?_)
  refine o_alloc rfl ze24 ?_
  refine o_nil ?_
  refine k_gen [(0,.int .i64 a),(1,.int .i64 b),(4,U.box 0 0)] ([SB.box [.int .i64 0,.int .i64 0]]) (.cons rfl (.cons rfl (.cons rfl (.nil rfl)))) rfl fun fr=>?_
  refine k_seq (k_region ?_)
  refine o_move rfl ?_
  refine o_move rfl ?_
  refine o_build rfl ze24 pl24 rfl rfl ?_
  refine o_storeN rfl rfl sh24 rfl rfl rfl rfl rfl ?_
  refine o_nil ?_
  refine k_ret ?_
  refine⟨.inr rfl,_,.cons _ _ _ _ (.cellN 4 24 _ _ _ _ rfl rfl sh24 rfl) .nil,?_⟩
  exact .refl _
theorem ret40(hi:Off is)(a b n:Int):RetP Tryd.prog is orc 40 [spanU a b,.int .i64 n] (.bool (inS a b n)):=by
  have q52:=ret52 (orc:=orc) hi n a b
  refine ret_of body40 pure40 (hi 40 (by decide)) rfl rfl (dat_l2 (dat_span a b 6) (.int _ _ _)) (.inl (.bool _ _)) ?_
  refine k_seq (k_region ?_)
  refine o_box rfl rfl ?_
  refine o_assign rfl ?_
  refine o_nil ?_
  refine k_gen [(1,.int .i64 n),(2,U.box 0 0)] ([SB.box [.int .i64 a,.int .i64 b]]) (.cons rfl (.cons rfl (.nil rfl))) rfl fun fr=>?_
  refine k_seq (k_region ?_)
  refine o_move rfl ?_
  refine o_faddr rfl rfl fld24_0 ?_
  refine o_load1 rfl rfl rfl sh3 rfl ?_
  refine o_faddr rfl rfl fld24_1 ?_
  refine o_load1 rfl rfl rfl sh3 rfl ?_
  refine o_call rfl (q52) (.lrefl _) ?_
  refine o_assign rfl ?_
  refine o_nil ?_
  refine k_ret ?_
  refine⟨.inr rfl,_,.cons _ _ _ _ (.tmp 4) .nil,?_⟩
  exact .refl _
set_option maxHeartbeats 4000000 in
theorem ret92(hi:Off is)(a b:Int)(l:List Int)(hl:l.length≤4096):RetP Tryd.prog is orc 92 [spanU a b,.lst .ro 1 (intsU l)] (.bool (l.all (inS a b))):=by
  refine ret_of body92 pure92 (hi 92 (by decide)) rfl rfl (dat_l2 (dat_span a b 6) (dat_ints 6 .ro (fun h=>by cases h) 1 l)) (.inl (.bool _ _)) ?_
  refine k_seq (k_region ?_)
  refine o_box rfl rfl ?_
  refine o_assign rfl ?_
  refine o_nil ?_
  refine k_gen [(1,U.lst Kd.ro 1 (intsU l)),(2,U.box 0 0)] ([SB.box [.int .i64 a,.int .i64 b]]) (.cons rfl (.cons rfl (.nil rfl))) rfl fun fr=>?_
  refine k_seq ?_
  refine k_seq (k_region ?_)
  refine o_move rfl ?_
  refine o_len rfl ty22 rfl (List.length_map _) ?_
  refine o_move rfl ?_
  refine o_nil ?_
  refine k_block ?_
  refine k_loop (fun kk s2=>∃i:Nat,kk+i=l.length∧(l.take i).all (inS a b)=true∧s2.st=[.box [.int .i64 a,.int .i64 b]]∧Holds s2 [(2,.box 0 0),(7,.lst .ro 1 (intsU l)),(8,.int .i64 l.length),(9,.int .i64 i)]) (fun kk s2 hI=>?_) l.length _ ⟨0,rfl,rfl,rfl,.cons rfl (.cons rfl (.cons rfl (.cons rfl (.nil rfl))))⟩
  obtain⟨i,hk,hall,hst2,hs2⟩:=hI
  refine k_gen _ _ hs2 hst2 fun fr2=>?_
  by_cases hin:i<l.length
  · obtain⟨x,hx⟩:∃x,l[i]? =some x:=⟨l[i],List.getElem?_eq_getElem hin⟩
    have q90:=ret90 (orc:=orc) hi a b x
    cases hc:inS a b x with
    |true=>
      rw[hc]at q90
      refine k_seq (k_region ?_)
      refine o_lss rfl rfl rfl ?_
      refine o_nil ?_
      refine k_seq ?_
      refine k_cT rfl (decide_eq_true (by omega)) ?_
      refine k_skip ?_
      refine k_seq ?_
      refine k_block ?_
      refine k_seq (k_region ?_)
      refine o_idx (u:=.int .i64 (x)) rfl ty22 rfl rfl (Int.natCast_nonneg _) (by simp[hx]) cl3 ?_
      refine o_loadR1 rfl rfl sh3 rfl ?_
      refine o_assign rfl ?_
      refine o_nil ?_
      refine k_seq (k_region ?_)
      refine o_loadN rfl rfl rfl sh24 rfl ?_
      refine o_move rfl ?_
      refine o_call rfl (q90) (.lrefl _) ?_
      refine o_not rfl rfl ?_
      refine o_nil ?_
      refine k_cF rfl rfl ?_
      refine k_skip ?_
      refine k_region ?_
      refine o_add rfl rfl rfl (by unfold I64;omega) ?_
      refine o_move rfl ?_
      refine o_nil ?_
      exact⟨kk - 1,by omega,i+1,by omega,all_take hx hall hc,rfl,.cons rfl (.cons rfl (.cons rfl (.cons rfl (.nil rfl))))⟩
    |false=>
      rw[hc]at q90
      rw[all_not hx hc]
      refine k_seq (k_region ?_)
      refine o_lss rfl rfl rfl ?_
      refine o_nil ?_
      refine k_seq ?_
      refine k_cT rfl (decide_eq_true (by omega)) ?_
      refine k_skip ?_
      refine k_seq ?_
      refine k_block ?_
      refine k_seq (k_region ?_)
      refine o_idx (u:=.int .i64 (x)) rfl ty22 rfl rfl (Int.natCast_nonneg _) (by simp[hx]) cl3 ?_
      refine o_loadR1 rfl rfl sh3 rfl ?_
      refine o_assign rfl ?_
      refine o_nil ?_
      refine k_seq (k_region ?_)
      refine o_loadN rfl rfl rfl sh24 rfl ?_
      refine o_move rfl ?_
      refine o_call rfl (q90) (.lrefl _) ?_
      refine o_not rfl rfl ?_
      refine o_nil ?_
      refine k_cT rfl rfl ?_
      refine k_seq (k_region ?_)
      refine o_assign rfl ?_
      refine o_nil ?_
      refine k_ret ?_
      refine⟨.inr rfl,_,.cons _ _ _ _ (.tmp 4) .nil,?_⟩
      exact .refl _
  · have hiN:i=l.length:=by omega
    subst hiN
    rw[List.take_length]at hall
    rw[hall]
    refine k_seq (k_region ?_)
    refine o_lss rfl rfl rfl ?_
    refine o_nil ?_
    refine k_seq ?_
    refine k_cF rfl (decide_eq_false (by omega)) ?_
    refine k_exit ?_
    refine k_seq (k_region ?_)
    refine o_assign rfl ?_
    refine o_nil ?_
    refine k_ret ?_
    refine⟨.inr rfl,_,.cons _ _ _ _ (.tmp 4) .nil,?_⟩
    exact .refl _
def spB(a b:Int)(q:Two):Bool:=decide (q.a≤q.b)&&[q.a,q.b].all (inS a b)
theorem grow{V Y e e2:List SB}(h:V++e=Y):Y++e2=V++(e++e2):=by rw[←h,List.append_assoc]
set_option maxHeartbeats 4000000 in
theorem ret93(hi:Off is)(a b:Int)(l:List Two)(hl:l.length≤4096):RetP Tryd.prog is orc 93 [spanU a b,.lst .ro 2 (twosU l)] (.bool (l.all (spB a b))):=by
  refine ret_of body93 pure93 (hi 93 (by decide)) rfl rfl (dat_l2 (dat_span a b 6) (dat_twos l .ro (fun h=>by cases h) 6)) (.inl (.bool _ _)) ?_
  refine k_seq (k_region ?_)
  refine o_box rfl rfl ?_
  refine o_assign rfl ?_
  refine o_nil ?_
  refine k_gen [(1,U.lst Kd.ro 2 (twosU l)),(2,U.box 0 0)] ([SB.box [.int .i64 a,.int .i64 b]]) (.cons rfl (.cons rfl (.nil rfl))) rfl fun fr=>?_
  refine k_seq ?_
  refine k_seq (k_region ?_)
  refine o_move rfl ?_
  refine o_len rfl ty66 rfl (List.length_map _) ?_
  refine o_move rfl ?_
  refine o_nil ?_
  refine k_block ?_
  obtain⟨V,hV⟩:∃V:List SB,V=[.box [.int .i64 a,.int .i64 b]]:=⟨_,rfl⟩
  refine k_loop (fun kk s2=>∃i:Nat,kk+i=l.length∧(l.take i).all (spB a b)=true∧(∃e,s2.st=V++e)∧Holds s2 [(2,.box 0 0),(7,.lst .ro 2 (twosU l)),(8,.int .i64 l.length),(9,.int .i64 i)]) (fun kk s2 hI=>?_) l.length _ ⟨0,rfl,rfl,⟨[],by rw[hV];rfl⟩,.cons rfl (.cons rfl (.cons rfl (.cons rfl (.nil rfl))))⟩
  obtain⟨i,hk,hall,⟨e,hst2⟩,hs2⟩:=hI
  generalize hY:V++e=Y at hst2
  have y0:Y[0]? =some (.box [.int .i64 a,.int .i64 b]):=by rw[←hY,hV];rfl
  refine k_gen _ _ hs2 hst2 fun fr2=>?_
  by_cases hin:i<l.length
  · obtain⟨x,hx⟩:∃x,l[i]? =some x:=⟨l[i],List.getElem?_eq_getElem hin⟩
    have q92:=ret92 (orc:=orc) hi a b [x.a,x.b] (by simp)
    cases hc:spB a b x with
    |true=>
      have hc':=hc
      unfold spB at hc'
      rw[Bool.and_eq_true,decide_eq_true_eq]at hc'
      have h1:=hc'.1
      rw[hc'.2]at q92
      refine k_seq (k_region ?_)
      refine o_lss rfl rfl rfl ?_
      refine o_nil ?_
      refine k_seq ?_
      refine k_cT rfl (decide_eq_true (by omega)) ?_
      refine k_skip ?_
      refine k_seq ?_
      refine k_block ?_
      refine k_seq (k_region ?_)
      refine o_idx (u:=(x).u) rfl ty66 rfl rfl (Int.natCast_nonneg _) (by simp[hx]) cl24 ?_
      refine o_loadRN rfl rfl sh24 rfl ?_
      refine o_alloc rfl ze24 ?_
      refine o_storeN rfl (at_new _ _) sh24 rfl rfl rfl rfl rfl ?_
      refine o_nil ?_
      refine k_gen [(2,U.box 0 0),(6,U.box (List.length Y) 0),(7,U.lst Kd.ro 2 (twosU l)),(8,.int .i64 ↑(List.length l)),(9,.int .i64 ↑i)] (Y++[SB.box [.int .i64 (Two.a x),.int .i64 (Two.b x)]]) (.cons rfl (.cons rfl (.cons rfl (.cons rfl (.cons rfl (.nil rfl)))))) (set_end _ _ _) fun fr=>?_
      refine k_seq (k_region ?_)
      refine o_faddr rfl rfl fld24_0 ?_
      refine o_load1 rfl rfl (at_new _ _) sh3 rfl ?_
      refine o_faddr rfl rfl fld24_1 ?_
      refine o_load1 rfl rfl (at_new _ _) sh3 rfl ?_
      refine o_gtr rfl rfl rfl ?_
      refine o_move rfl ?_
      refine o_gD rfl rfl rfl rfl (decide_eq_false (by omega)) ?_
      refine o_loadN rfl rfl (at_pre y0) sh24 rfl ?_
      refine o_gD rfl rfl rfl rfl (decide_eq_false (by omega)) ?_
      refine o_faddr rfl rfl fld24_0 ?_
      refine o_gD rfl rfl rfl rfl (decide_eq_false (by omega)) ?_
      refine o_load1 rfl rfl (at_new _ _) sh3 rfl ?_
      refine o_genA [(2,U.box 0 0),(6,U.box (List.length Y) 0),(7,U.lst Kd.ro 2 (twosU l)),(8,.int .i64 ↑(List.length l)),(9,.int .i64 ↑i),(18,U.bool (Decidable.decide (Two.b x<Two.a x))),(19,U.agg [.int .i64 a,.int .i64 b]),(20,U.box (List.length Y) 0),(21,.int .i64 (Two.a x))] [] (Y++[SB.box [.int .i64 (Two.a x),.int .i64 (Two.b x)]]) (.cons rfl (.cons rfl (.cons rfl (.cons rfl (.cons rfl (.cons rfl (.cons rfl (.cons rfl (.cons rfl (.nil rfl)))))))))) rfl rfl fun fr=>?_
      refine o_gD rfl rfl rfl rfl (decide_eq_false (by omega)) ?_
      refine o_genA [(2,U.box 0 0),(6,U.box (List.length Y) 0),(7,U.lst Kd.ro 2 (twosU l)),(8,.int .i64 ↑(List.length l)),(9,.int .i64 ↑i),(18,U.bool (Decidable.decide (Two.b x<Two.a x))),(19,U.agg [.int .i64 a,.int .i64 b]),(20,U.box (List.length Y) 0),(21,.int .i64 (Two.a x))] [] (Y++[SB.box [.int .i64 (Two.a x),.int .i64 (Two.b x)]]) (.cons rfl (.cons rfl (.cons rfl (.cons rfl (.cons rfl (.cons rfl (.cons rfl (.cons rfl (.cons rfl (.nil rfl)))))))))) rfl rfl fun fr=>?_
      refine o_faddr rfl rfl fld24_1 ?_
      refine o_gD rfl rfl rfl rfl (decide_eq_false (by omega)) ?_
      refine o_load1 rfl rfl (at_new _ _) sh3 rfl ?_
      refine o_gD rfl rfl rfl rfl (decide_eq_false (by omega)) ?_
      refine o_lit (es:=[.int .i64 (Two.a x),.int .i64 (Two.b x)]) rfl ty22 ze3 cl3 rfl rfl rfl rfl rfl rfl rfl rfl ?_
      refine o_gD rfl rfl rfl rfl (decide_eq_false (by omega)) ?_
      refine o_call rfl (q92) (.lcons _ _ _ _ (.refl _) (.lcons _ _ _ _ (.ro _ _ _) (.lrefl _))) ?_
      refine o_gD rfl rfl rfl rfl (decide_eq_false (by omega)) ?_
      refine o_not rfl rfl ?_
      refine o_pickF rfl rfl (decide_eq_false (by omega)) ?_
      refine o_nil ?_
      refine k_gen [(2,U.box 0 0),(7,U.lst Kd.ro 2 (twosU l)),(8,.int .i64 ↑(List.length l)),(9,.int .i64 ↑i),(19,U.agg [.int .i64 a,.int .i64 b]),(20,U.box (List.length Y) 0),(21,.int .i64 (Two.a x)),(22,U.box (List.length Y) 1),(23,.int .i64 (Two.b x)),(24,U.lst Kd.full 1 [.int .i64 (Two.a x),.int .i64 (Two.b x)]),(25,U.bool Bool.true),(26,U.bool !Bool.true),(27,U.bool !Bool.true)] (Y++[SB.box [.int .i64 (Two.a x),.int .i64 (Two.b x)]]) (.cons rfl (.cons rfl (.cons rfl (.cons rfl (.cons rfl (.cons rfl (.cons rfl (.cons rfl (.cons rfl (.cons rfl (.cons rfl (.cons rfl (.cons rfl (.nil rfl)))))))))))))) rfl fun fr=>?_
      refine k_cF rfl rfl ?_
      refine k_skip ?_
      refine k_region ?_
      refine o_add rfl rfl rfl (by unfold I64;omega) ?_
      refine o_move rfl ?_
      refine o_nil ?_
      exact⟨kk - 1,by omega,i+1,by omega,all_take hx hall hc,⟨_,by show Y++_=_;exact grow hY⟩,.cons rfl (.cons rfl (.cons rfl (.cons rfl (.nil rfl))))⟩
    |false=>
      rw[all_not hx hc]
      unfold spB at hc
      by_cases h1:x.a≤x.b
      · rw[decide_eq_true h1,Bool.true_and]at hc
        rw[hc]at q92
        refine k_seq (k_region ?_)
        refine o_lss rfl rfl rfl ?_
        refine o_nil ?_
        refine k_seq ?_
        refine k_cT rfl (decide_eq_true (by omega)) ?_
        refine k_skip ?_
        refine k_seq ?_
        refine k_block ?_
        refine k_seq (k_region ?_)
        refine o_idx (u:=(x).u) rfl ty66 rfl rfl (Int.natCast_nonneg _) (by simp[hx]) cl24 ?_
        refine o_loadRN rfl rfl sh24 rfl ?_
        refine o_alloc rfl ze24 ?_
        refine o_storeN rfl (at_new _ _) sh24 rfl rfl rfl rfl rfl ?_
        refine o_nil ?_
        refine k_gen [(2,U.box 0 0),(6,U.box (List.length Y) 0),(7,U.lst Kd.ro 2 (twosU l)),(8,.int .i64 ↑(List.length l)),(9,.int .i64 ↑i)] (Y++[SB.box [.int .i64 (Two.a x),.int .i64 (Two.b x)]]) (.cons rfl (.cons rfl (.cons rfl (.cons rfl (.cons rfl (.nil rfl)))))) (set_end _ _ _) fun fr=>?_
        refine k_seq (k_region ?_)
        refine o_faddr rfl rfl fld24_0 ?_
        refine o_load1 rfl rfl (at_new _ _) sh3 rfl ?_
        refine o_faddr rfl rfl fld24_1 ?_
        refine o_load1 rfl rfl (at_new _ _) sh3 rfl ?_
        refine o_gtr rfl rfl rfl ?_
        refine o_move rfl ?_
        refine o_gD rfl rfl rfl rfl (decide_eq_false (by omega)) ?_
        refine o_loadN rfl rfl (at_pre y0) sh24 rfl ?_
        refine o_gD rfl rfl rfl rfl (decide_eq_false (by omega)) ?_
        refine o_faddr rfl rfl fld24_0 ?_
        refine o_gD rfl rfl rfl rfl (decide_eq_false (by omega)) ?_
        refine o_load1 rfl rfl (at_new _ _) sh3 rfl ?_
        refine o_genA [(2,U.box 0 0),(6,U.box (List.length Y) 0),(7,U.lst Kd.ro 2 (twosU l)),(8,.int .i64 ↑(List.length l)),(9,.int .i64 ↑i),(18,U.bool (Decidable.decide (Two.b x<Two.a x))),(19,U.agg [.int .i64 a,.int .i64 b]),(20,U.box (List.length Y) 0),(21,.int .i64 (Two.a x))] [] (Y++[SB.box [.int .i64 (Two.a x),.int .i64 (Two.b x)]]) (.cons rfl (.cons rfl (.cons rfl (.cons rfl (.cons rfl (.cons rfl (.cons rfl (.cons rfl (.cons rfl (.nil rfl)))))))))) rfl rfl fun fr=>?_
        refine o_gD rfl rfl rfl rfl (decide_eq_false (by omega)) ?_
        refine o_genA [(2,U.box 0 0),(6,U.box (List.length Y) 0),(7,U.lst Kd.ro 2 (twosU l)),(8,.int .i64 ↑(List.length l)),(9,.int .i64 ↑i),(18,U.bool (Decidable.decide (Two.b x<Two.a x))),(19,U.agg [.int .i64 a,.int .i64 b]),(20,U.box (List.length Y) 0),(21,.int .i64 (Two.a x))] [] (Y++[SB.box [.int .i64 (Two.a x),.int .i64 (Two.b x)]]) (.cons rfl (.cons rfl (.cons rfl (.cons rfl (.cons rfl (.cons rfl (.cons rfl (.cons rfl (.cons rfl (.nil rfl)))))))))) rfl rfl fun fr=>?_
        refine o_faddr rfl rfl fld24_1 ?_
        refine o_gD rfl rfl rfl rfl (decide_eq_false (by omega)) ?_
        refine o_load1 rfl rfl (at_new _ _) sh3 rfl ?_
        refine o_gD rfl rfl rfl rfl (decide_eq_false (by omega)) ?_
        refine o_lit (es:=[.int .i64 (Two.a x),.int .i64 (Two.b x)]) rfl ty22 ze3 cl3 rfl rfl rfl rfl rfl rfl rfl rfl ?_
        refine o_gD rfl rfl rfl rfl (decide_eq_false (by omega)) ?_
        refine o_call rfl (q92) (.lcons _ _ _ _ (.refl _) (.lcons _ _ _ _ (.ro _ _ _) (.lrefl _))) ?_
        refine o_gD rfl rfl rfl rfl (decide_eq_false (by omega)) ?_
        refine o_not rfl rfl ?_
        refine o_pickF rfl rfl (decide_eq_false (by omega)) ?_
        refine o_nil ?_
        refine k_gen [(2,U.box 0 0),(7,U.lst Kd.ro 2 (twosU l)),(8,.int .i64 ↑(List.length l)),(9,.int .i64 ↑i),(19,U.agg [.int .i64 a,.int .i64 b]),(20,U.box (List.length Y) 0),(21,.int .i64 (Two.a x)),(22,U.box (List.length Y) 1),(23,.int .i64 (Two.b x)),(24,U.lst Kd.full 1 [.int .i64 (Two.a x),.int .i64 (Two.b x)]),(25,U.bool Bool.false),(26,U.bool !Bool.false),(27,U.bool !Bool.false)] (Y++[SB.box [.int .i64 (Two.a x),.int .i64 (Two.b x)]]) (.cons rfl (.cons rfl (.cons rfl (.cons rfl (.cons rfl (.cons rfl (.cons rfl (.cons rfl (.cons rfl (.cons rfl (.cons rfl (.cons rfl (.cons rfl (.nil rfl)))))))))))))) rfl fun fr=>?_
        refine k_cT rfl rfl ?_
        refine k_seq (k_region ?_)
        refine o_assign rfl ?_
        refine o_nil ?_
        refine k_ret ?_
        refine⟨.inr rfl,_,.cons _ _ _ _ (.tmp 4) .nil,?_⟩
        exact .refl _
      · refine k_seq (k_region ?_)
        refine o_lss rfl rfl rfl ?_
        refine o_nil ?_
        refine k_seq ?_
        refine k_cT rfl (decide_eq_true (by omega)) ?_
        refine k_skip ?_
        refine k_seq ?_
        refine k_block ?_
        refine k_seq (k_region ?_)
        refine o_idx (u:=(x).u) rfl ty66 rfl rfl (Int.natCast_nonneg _) (by simp[hx]) cl24 ?_
        refine o_loadRN rfl rfl sh24 rfl ?_
        refine o_alloc rfl ze24 ?_
        refine o_storeN rfl (at_new _ _) sh24 rfl rfl rfl rfl rfl ?_
        refine o_nil ?_
        refine k_gen [(2,U.box 0 0),(6,U.box (List.length Y) 0),(7,U.lst Kd.ro 2 (twosU l)),(8,.int .i64 ↑(List.length l)),(9,.int .i64 ↑i)] (Y++[SB.box [.int .i64 (Two.a x),.int .i64 (Two.b x)]]) (.cons rfl (.cons rfl (.cons rfl (.cons rfl (.cons rfl (.nil rfl)))))) (set_end _ _ _) fun fr=>?_
        refine k_seq (k_region ?_)
        refine o_faddr rfl rfl fld24_0 ?_
        refine o_load1 rfl rfl (at_new _ _) sh3 rfl ?_
        refine o_faddr rfl rfl fld24_1 ?_
        refine o_load1 rfl rfl (at_new _ _) sh3 rfl ?_
        refine o_gtr rfl rfl rfl ?_
        refine o_move rfl ?_
        refine o_gS rfl rfl rfl rfl (decide_eq_true (by omega)) ?_
        refine o_gS rfl rfl rfl rfl (decide_eq_true (by omega)) ?_
        refine o_gS rfl rfl rfl rfl (decide_eq_true (by omega)) ?_
        refine o_genA [(2,U.box 0 0),(6,U.box (List.length Y) 0),(7,U.lst Kd.ro 2 (twosU l)),(8,.int .i64 ↑(List.length l)),(9,.int .i64 ↑i),(18,U.bool (Decidable.decide (Two.b x<Two.a x))),(19,U.tup []),(20,U.tup []),(21,U.tup [])] [] (Y++[SB.box [.int .i64 (Two.a x),.int .i64 (Two.b x)]]) (.cons rfl (.cons rfl (.cons rfl (.cons rfl (.cons rfl (.cons rfl (.cons rfl (.cons rfl (.cons rfl (.nil rfl)))))))))) rfl rfl fun fr=>?_
        refine o_gS rfl rfl rfl rfl (decide_eq_true (by omega)) ?_
        refine o_gS rfl rfl rfl rfl (decide_eq_true (by omega)) ?_
        refine o_gS rfl rfl rfl rfl (decide_eq_true (by omega)) ?_
        refine o_gS rfl rfl rfl rfl (decide_eq_true (by omega)) ?_
        refine o_gS rfl rfl rfl rfl (decide_eq_true (by omega)) ?_
        refine o_pickT rfl rfl (decide_eq_true (by omega)) ?_
        refine o_nil ?_
        refine k_gen [(2,U.box 0 0),(7,U.lst Kd.ro 2 (twosU l)),(8,.int .i64 ↑(List.length l)),(9,.int .i64 ↑i),(19,U.tup []),(20,U.tup []),(21,U.tup []),(22,U.tup []),(23,U.tup []),(24,U.tup []),(25,U.tup []),(26,U.tup []),(27,U.bool Bool.true)] (Y++[SB.box [.int .i64 (Two.a x),.int .i64 (Two.b x)]]) (.cons rfl (.cons rfl (.cons rfl (.cons rfl (.cons rfl (.cons rfl (.cons rfl (.cons rfl (.cons rfl (.cons rfl (.cons rfl (.cons rfl (.cons rfl (.nil rfl)))))))))))))) rfl fun fr=>?_
        refine k_cT rfl rfl ?_
        refine k_seq (k_region ?_)
        refine o_assign rfl ?_
        refine o_nil ?_
        refine k_ret ?_
        refine⟨.inr rfl,_,.cons _ _ _ _ (.tmp 4) .nil,?_⟩
        exact .refl _
  · have hiN:i=l.length:=by omega
    subst hiN
    rw[List.take_length]at hall
    rw[hall]
    refine k_seq (k_region ?_)
    refine o_lss rfl rfl rfl ?_
    refine o_nil ?_
    refine k_seq ?_
    refine k_cF rfl (decide_eq_false (by omega)) ?_
    refine k_exit ?_
    refine k_seq (k_region ?_)
    refine o_assign rfl ?_
    refine o_nil ?_
    refine k_ret ?_
    refine⟨.inr rfl,_,.cons _ _ _ _ (.tmp 4) .nil,?_⟩
    exact .refl _
def plB(p:Pl):Bool:=spB 0 500 ⟨p.la,p.lb⟩&&(decide (p.cat.length=4)&&p.cat.all (spB 0 100))
set_option maxHeartbeats 4000000 in
theorem ret91(hi:Off is)(p:Pl):RetP Tryd.prog is orc 91 [p.u] (.bool (plB p)):=by
  have q1:=ret93 (orc:=orc) hi 0 500 [⟨p.la,p.lb⟩] (by simp)
  refine ret_of body91 pure91 (hi 91 (by decide)) rfl rfl (dat_l1 (dat_pl p 5)) (.inl (.bool _ _)) ?_
  unfold plB
  rw[show [(⟨p.la,p.lb⟩:Two)].all (spB 0 500)=spB 0 500 ⟨p.la,p.lb⟩ by simp]at q1
  cases h1:spB 0 500 ⟨p.la,p.lb⟩with
  |false=>
    rw[h1]at q1
    rw[Bool.false_and]
    refine k_seq (k_region ?_)
    refine o_box rfl rfl ?_
    refine o_assign rfl ?_
    refine o_nil ?_
    refine k_gen [(1,U.box 0 0)] ([SB.box [.int .i64 (Pl.la p),.int .i64 (Pl.lb p),U.lst Kd.ro 2 (twosU (Pl.cat p))]]) (.cons rfl (.nil rfl)) rfl fun fr=>?_
    refine k_seq (k_region ?_)
    refine o_gpair (i:=7) (c:=2) (n:=10) sh24 rfl rfl ty112 cl24 rfl rfl rfl (gatB 7 (by decide)) rfl ?_
    refine o_faddr rfl rfl fld68_0 ?_
    refine o_loadN rfl rfl rfl sh24 rfl ?_
    refine o_lit (es:=[U.agg [.int .i64 (Pl.la p),.int .i64 (Pl.lb p)]]) rfl ty66 ze24 cl24 rfl rfl rfl rfl rfl rfl rfl rfl ?_
    refine o_call rfl (q1) (.lcons _ _ _ _ (.refl _) (.lcons _ _ _ _ (.ro _ _ _) (.lrefl _))) ?_
    refine o_move rfl ?_
    refine o_gS rfl rfl rfl rfl rfl ?_
    refine o_gS rfl rfl rfl rfl rfl ?_
    refine o_genA [(1,U.box 0 0),(9,U.bool Bool.false),(11,U.tup [])] [] ([SB.box [.int .i64 (Pl.la p),.int .i64 (Pl.lb p),U.lst Kd.ro 2 (twosU (Pl.cat p))]]) (.cons rfl (.cons rfl (.cons rfl (.nil rfl)))) rfl rfl fun fr=>?_
    refine o_gS rfl rfl rfl rfl rfl ?_
    refine o_gS rfl rfl rfl rfl rfl ?_
    refine o_pickF rfl rfl rfl ?_
    refine o_move rfl ?_
    refine o_gS rfl rfl rfl rfl rfl ?_
    refine o_gS rfl rfl rfl rfl rfl ?_
    refine o_gS rfl rfl rfl rfl rfl ?_
    refine o_gS rfl rfl rfl rfl rfl ?_
    refine o_gS rfl rfl rfl rfl rfl ?_
    refine o_genA [(15,U.bool Bool.false),(20,U.tup [])] [] ([SB.box [.int .i64 (Pl.la p),.int .i64 (Pl.lb p),U.lst Kd.ro 2 (twosU (Pl.cat p))]]) (.cons rfl (.cons rfl (.nil rfl))) rfl rfl fun fr=>?_
    refine o_pickF rfl rfl rfl ?_
    refine o_assign rfl ?_
    refine o_nil ?_
    refine k_ret ?_
    refine⟨.inr rfl,_,.cons _ _ _ _ (.tmp 2) .nil,?_⟩
    exact .refl _
  |true=>
    rw[h1]at q1
    rw[Bool.true_and]
    by_cases h4:p.cat.length=4
    · have q2:=ret93 (orc:=orc) hi 0 100 p.cat (by omega)
      rw[decide_eq_true h4,Bool.true_and]
      generalize p.cat.all (spB 0 100)=c at q2
      refine k_seq (k_region ?_)
      refine o_box rfl rfl ?_
      refine o_assign rfl ?_
      refine o_nil ?_
      refine k_gen [(1,U.box 0 0)] ([SB.box [.int .i64 (Pl.la p),.int .i64 (Pl.lb p),U.lst Kd.ro 2 (twosU (Pl.cat p))]]) (.cons rfl (.nil rfl)) rfl fun fr=>?_
      refine k_seq (k_region ?_)
      refine o_gpair (i:=7) (c:=2) (n:=10) sh24 rfl rfl ty112 cl24 rfl rfl rfl (gatB 7 (by decide)) rfl ?_
      refine o_faddr rfl rfl fld68_0 ?_
      refine o_loadN rfl rfl rfl sh24 rfl ?_
      refine o_lit (es:=[U.agg [.int .i64 (Pl.la p),.int .i64 (Pl.lb p)]]) rfl ty66 ze24 cl24 rfl rfl rfl rfl rfl rfl rfl rfl ?_
      refine o_call rfl (q1) (.lcons _ _ _ _ (.refl _) (.lcons _ _ _ _ (.ro _ _ _) (.lrefl _))) ?_
      refine o_move rfl ?_
      refine o_gD rfl rfl rfl rfl rfl ?_
      refine o_faddr rfl rfl fld68_1 ?_
      refine o_gD rfl rfl rfl rfl rfl ?_
      refine o_load1 rfl rfl rfl sh66 rfl ?_
      refine o_genA [(1,U.box 0 0),(9,U.bool Bool.true),(11,U.lst Kd.ro 2 (twosU (Pl.cat p)))] [] ([SB.box [.int .i64 (Pl.la p),.int .i64 (Pl.lb p),U.lst Kd.ro 2 (twosU (Pl.cat p))]]) (.cons rfl (.cons rfl (.cons rfl (.nil rfl)))) rfl rfl fun fr=>?_
      refine o_gD rfl rfl rfl rfl rfl ?_
      refine o_genA [(1,U.box 0 0),(9,U.bool Bool.true),(11,U.lst Kd.ro 2 (twosU (Pl.cat p)))] [] ([SB.box [.int .i64 (Pl.la p),.int .i64 (Pl.lb p),U.lst Kd.ro 2 (twosU (Pl.cat p))]]) (.cons rfl (.cons rfl (.cons rfl (.nil rfl)))) rfl rfl fun fr=>?_
      refine o_len rfl ty66 rfl (List.length_map _) ?_
      refine o_gD rfl rfl rfl rfl rfl ?_
      refine o_eql rfl rfl rfl ?_
      refine o_pickT rfl rfl rfl ?_
      refine o_move rfl ?_
      refine o_gD rfl rfl rfl rfl (decide_eq_true (by omega)) ?_
      refine o_gpairG (i:=8) (c:=2) (n:=10) sh24 rfl rfl rfl (decide_eq_true (by omega)) rfl rfl ty112 cl24 rfl rfl rfl (gatB 8 (by decide)) rfl ?_
      refine o_gD rfl rfl rfl rfl (decide_eq_true (by omega)) ?_
      refine o_faddr rfl rfl fld68_1 ?_
      refine o_gD rfl rfl rfl rfl (decide_eq_true (by omega)) ?_
      refine o_load1 rfl rfl rfl sh66 rfl ?_
      refine o_gD rfl rfl rfl rfl (decide_eq_true (by omega)) ?_
      refine o_call rfl (q2) (.lrefl _) ?_
      refine o_genA [(15,U.bool (Decidable.decide (↑(List.length (Pl.cat p))=(4:Int)))),(20,U.bool c)] [] ([SB.box [.int .i64 (Pl.la p),.int .i64 (Pl.lb p),U.lst Kd.ro 2 (twosU (Pl.cat p))]]) (.cons rfl (.cons rfl (.nil rfl))) rfl rfl fun fr=>?_
      refine o_pickT rfl rfl (decide_eq_true (by omega)) ?_
      refine o_assign rfl ?_
      refine o_nil ?_
      refine k_ret ?_
      refine⟨.inr rfl,_,.cons _ _ _ _ (.tmp 2) .nil,?_⟩
      exact .refl _
    · rw[decide_eq_false h4,Bool.false_and]
      refine k_seq (k_region ?_)
      refine o_box rfl rfl ?_
      refine o_assign rfl ?_
      refine o_nil ?_
      refine k_gen [(1,U.box 0 0)] ([SB.box [.int .i64 (Pl.la p),.int .i64 (Pl.lb p),U.lst Kd.ro 2 (twosU (Pl.cat p))]]) (.cons rfl (.nil rfl)) rfl fun fr=>?_
      refine k_seq (k_region ?_)
      refine o_gpair (i:=7) (c:=2) (n:=10) sh24 rfl rfl ty112 cl24 rfl rfl rfl (gatB 7 (by decide)) rfl ?_
      refine o_faddr rfl rfl fld68_0 ?_
      refine o_loadN rfl rfl rfl sh24 rfl ?_
      refine o_lit (es:=[U.agg [.int .i64 (Pl.la p),.int .i64 (Pl.lb p)]]) rfl ty66 ze24 cl24 rfl rfl rfl rfl rfl rfl rfl rfl ?_
      refine o_call rfl (q1) (.lcons _ _ _ _ (.refl _) (.lcons _ _ _ _ (.ro _ _ _) (.lrefl _))) ?_
      refine o_move rfl ?_
      refine o_gD rfl rfl rfl rfl rfl ?_
      refine o_faddr rfl rfl fld68_1 ?_
      refine o_gD rfl rfl rfl rfl rfl ?_
      refine o_load1 rfl rfl rfl sh66 rfl ?_
      refine o_genA [(1,U.box 0 0),(9,U.bool Bool.true),(11,U.lst Kd.ro 2 (twosU (Pl.cat p)))] [] ([SB.box [.int .i64 (Pl.la p),.int .i64 (Pl.lb p),U.lst Kd.ro 2 (twosU (Pl.cat p))]]) (.cons rfl (.cons rfl (.cons rfl (.nil rfl)))) rfl rfl fun fr=>?_
      refine o_gD rfl rfl rfl rfl rfl ?_
      refine o_genA [(1,U.box 0 0),(9,U.bool Bool.true),(11,U.lst Kd.ro 2 (twosU (Pl.cat p)))] [] ([SB.box [.int .i64 (Pl.la p),.int .i64 (Pl.lb p),U.lst Kd.ro 2 (twosU (Pl.cat p))]]) (.cons rfl (.cons rfl (.cons rfl (.nil rfl)))) rfl rfl fun fr=>?_
      refine o_len rfl ty66 rfl (List.length_map _) ?_
      refine o_gD rfl rfl rfl rfl rfl ?_
      refine o_eql rfl rfl rfl ?_
      refine o_pickT rfl rfl rfl ?_
      refine o_move rfl ?_
      refine o_gS rfl rfl rfl rfl (decide_eq_false (by omega)) ?_
      refine o_gS rfl rfl rfl rfl (decide_eq_false (by omega)) ?_
      refine o_gS rfl rfl rfl rfl (decide_eq_false (by omega)) ?_
      refine o_gS rfl rfl rfl rfl (decide_eq_false (by omega)) ?_
      refine o_gS rfl rfl rfl rfl (decide_eq_false (by omega)) ?_
      refine o_genA [(15,U.bool (Decidable.decide (↑(List.length (Pl.cat p))=(4:Int)))),(20,U.tup [])] [] ([SB.box [.int .i64 (Pl.la p),.int .i64 (Pl.lb p),U.lst Kd.ro 2 (twosU (Pl.cat p))]]) (.cons rfl (.cons rfl (.nil rfl))) rfl rfl fun fr=>?_
      refine o_pickF rfl rfl (decide_eq_false (by omega)) ?_
      refine o_assign rfl ?_
      refine o_nil ?_
      refine k_ret ?_
      refine⟨.inr rfl,_,.cons _ _ _ _ (.tmp 2) .nil,?_⟩
      exact .refl _
end Go.Proofs.YtfbmlibilcjlgaaDoor.drumCued
