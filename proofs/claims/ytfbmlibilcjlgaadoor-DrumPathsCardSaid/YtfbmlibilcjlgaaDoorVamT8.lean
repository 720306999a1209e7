import Derived.Test.YtfbmlibilcjlgaaDoorVamT7
set_option linter.unusedVariables false
set_option linter.unusedSimpArgs false
set_option linter.constructorNameAsVariable false
namespace Go.Proofs.YtfbmlibilcjlgaaDoor.drumPaths
open Vam
variable {is:FuncId→Bool}{orc:Known}
theorem ret116g(hi:Off is){b:Bk}{l:List Int}{i:Nat}{x:Int}(hx:l[i]? =some x)(hl:l.length≤4096):RetP Tryd.prog is orc 116 [b.u,.lst .ro 1 (zE l),.int .i64 i] (.bool (decide (0<i)||decide (x=b.start))):=by
 refine yC body116 pure116 (hi 116 (by decide)) rfl rfl (fun u hu=>by
  simp only[List.mem_cons,List.not_mem_nil,or_false]at hu
  rcases hu with rfl|rfl|rfl
  ·exact yZ b 4
  ·exact zi 6 .ro (fun h=>by cases h) 1 l
  ·exact .int _ _ _) (.inl (.bool _ _)) ?_
 have h1:=(List.getElem?_eq_some_iff.1 hx).1
 by_cases hz:i=0
 ·subst hz
  have q101:RetP Tryd.prog is orc 101 [.lst .ro 1 (zE l),.int .i64 0] (wA 0 x):=ret101 (orc:=orc) hi hx hl
  have eb:=spn_eq 0 x 0 b.start
  rw[decide_eq_true (rfl:(0:Int)=0),Bool.true_and]at eb
  rw[show decide (0<0)=false from rfl,Bool.false_or]
  generalize decide (x=b.start)=z at*
  refine kQ (ze rfl rfl (zC rfl (zA ?_)))
  refine zL [(1,.lst .ro 1 (zE l)),(2,.int .i64 ↑0),(3,U.box 0 0)] ([SB.box [.int .i64 (Bk.parts b),.int .i64 (Bk.size b),.lst .ro 1 (zE (Bk.beats b)),.int .i64 (Bk.start b),.int .i64 (Bk.fin b),.int .i64 (Bk.tlo b),.int .i64 (Bk.thi b),.int .i64 (Bk.slo b),.int .i64 (Bk.shi b),.int .i64 (Bk.notice b),.lst .ro 3 (plsU (Bk.players b))]]) (.cons rfl (.cons rfl (.cons rfl (.nil rfl)))) rfl fun fr=>?_
  refine k_seq (ym [.plain,.plain,.plain,.plain,.plain,.read false,.read true,.plain,.plain,.plain,.plain] (by kernel_rfl) (by kernel_rfl) (by kernel_rfl) ?_)
  refine zD (zB rfl (zA rfl)) (zD (zCF rfl rfl rfl (zA rfl)) ?_)
  refine zD (zB rfl (zA rfl)) (d_gD rfl rfl rfl rfl rfl (zD (zB rfl (zA rfl)) (d_gD rfl rfl rfl rfl rfl (zD (zB rfl (zA rfl)) (d_gD rfl rfl rfl rfl rfl (d_callR rfl (q101) (flat_span _ _) (.lrefl _) ?_))))))
  refine d_gD rfl rfl rfl rfl rfl (zX rfl (zJ rfl rfl rfl sh75 rfl (zA rfl)) ?_)
  refine d_gD rfl rfl rfl rfl rfl (zD (zO rfl (ret128 hi b) (.lrefl _) (zA rfl)) ?_)
  refine d_gD rfl rfl rfl rfl rfl (zD (o_binK rfl rfl rfl rfl rfl eb (zA rfl)) ?_)
  refine zD (zK rfl rfl rfl (zA rfl)) ?_
  refine zD (zC rfl (zA rfl)) ?_
  refine zAA ?_
  refine zY ?_
  refine⟨.inr rfl,_,.cons _ _ _ _ (.tmp 6) .nil,?_⟩
  exact .refl _
 ·rw[decide_eq_true (show 0<i by omega),Bool.true_or]
  refine kQ (ze rfl rfl (zC rfl (zA ?_)))
  refine zL [(1,.lst .ro 1 (zE l)),(2,.int .i64 ↑i),(3,U.box 0 0)] ([SB.box [.int .i64 (Bk.parts b),.int .i64 (Bk.size b),.lst .ro 1 (zE (Bk.beats b)),.int .i64 (Bk.start b),.int .i64 (Bk.fin b),.int .i64 (Bk.tlo b),.int .i64 (Bk.thi b),.int .i64 (Bk.slo b),.int .i64 (Bk.shi b),.int .i64 (Bk.notice b),.lst .ro 3 (plsU (Bk.players b))]]) (.cons rfl (.cons rfl (.cons rfl (.nil rfl)))) rfl fun fr=>?_
  refine k_seq (ym [.plain,.plain,.plain,.plain,.plain,.read false,.read true,.plain,.plain,.plain,.plain] (by kernel_rfl) (by kernel_rfl) (by kernel_rfl) ?_)
  refine zD (zB rfl (zA rfl)) (zD (zCF rfl rfl rfl (zA rfl)) ?_)
  refine zD (zB rfl (zA rfl)) (d_gS rfl rfl rfl rfl (decide_eq_true (by omega)) ?_)
  refine d_gS rfl rfl rfl rfl (decide_eq_true (by omega)) ?_
  refine d_gS rfl rfl rfl rfl (decide_eq_true (by omega)) ?_
  refine d_gS rfl rfl rfl rfl (decide_eq_true (by omega)) ?_
  refine d_gS rfl rfl rfl rfl (decide_eq_true (by omega)) ?_
  refine d_gS rfl rfl rfl rfl (decide_eq_true (by omega)) ?_
  refine zD (zV rfl rfl (decide_eq_true (by omega)) (zA rfl)) ?_
  refine zD (zC rfl (zA rfl)) ?_
  refine zAA ?_
  refine zY ?_
  refine⟨.inr rfl,_,.cons _ _ _ _ (.tmp 6) .nil,?_⟩
  exact .refl _
variable {N A:Nat}{lp:Lp}{stop:List Int→Bool}{X:List (List Int)→List SB}{D:List SB}{b:Bk}
end Go.Proofs.YtfbmlibilcjlgaaDoor.drumPaths
