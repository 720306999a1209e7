import Derived.Test.YtfbmlibilcjlgaaDoorVamT2
set_option linter.unusedVariables false
set_option linter.unusedSimpArgs false
set_option linter.constructorNameAsVariable false
namespace Go.Proofs.YtfbmlibilcjlgaaDoor.drumBound
open Vam
section
variable {is:FuncId→Bool}{orc:Known}
theorem pl118:zFe Tryd.prog 118=some [(0,1),(1,1),(2,1)]:=by kernel_rfl
theorem sh118:shOf Tryd.prog 118=.many 3:=by kernel_rfl
theorem ze118:yP Tryd.prog 118=some ((.cons .nilf (.cons .nilf (.cons .nilf .nil))):V):=by kernel_rfl
noncomputable def b94:Code:=(Tryd.f94.body).getD .skip
theorem body94:bodyOf Tryd.prog 94=some (6,b94,[.cell 2 118]):=by kernel_rfl
theorem pure94:pureFn Tryd.prog 94=false:=by kernel_rfl
theorem cl117:Program.cellsOf Tryd.prog 117=1:=by kernel_rfl
theorem sh117:shOf Tryd.prog 117=.one:=by kernel_rfl
theorem ty118:tyOf Tryd.prog 118=.array 3 117:=by kernel_rfl
theorem cl83:Program.cellsOf Tryd.prog 83=1:=by kernel_rfl
theorem pl75:zFe Tryd.prog 75=some [(0,11)]:=by kernel_rfl
theorem sh83:shOf Tryd.prog 83=.one:=by kernel_rfl
theorem ty116:tyOf Tryd.prog 116=.slice 83:=by kernel_rfl
theorem ze75:yP Tryd.prog 75=some ((.cons (.int .i64 0) (.cons (.int .i64 0) (.cons .nils (.cons (.int .i64 0) (.cons (.int .i64 0) (.cons (.int .i64 0) (.cons (.int .i64 0) (.cons (.int .i64 0) (.cons (.int .i64 0) (.cons (.int .i64 0) (.cons .nils .nil))))))))))):V):=by kernel_rfl
noncomputable def b60:Code:=(Tryd.f60.body).getD .skip
theorem body60:bodyOf Tryd.prog 60=some (31,b60,[.cell 4 75,.tmp 5]):=by kernel_rfl
theorem pure60:pureFn Tryd.prog 60=false:=by kernel_rfl
theorem ze83:yP Tryd.prog 83=some ((.cons .nilf .nil):V):=by kernel_rfl
theorem ret128(hi:Off is)(b:Bk):RetP Tryd.prog is orc 128 [b.u] (wp 0 b.start):=by
 refine yS body128 pure128 (hi 128 (by decide)) rfl rfl (zAh (yq b 4)) (.inl (wS _ _ 6)) ?_
 refine kQ (yB rfl rfl (zt rfl ze125 ?_))
 refine zA ?_
 refine zN [(1,U.box 0 0),(2,U.box 1 0)] ([SB.box [.int .i64 (Bk.parts b),.int .i64 (Bk.size b),.lst .ro 1 (zF (Bk.beats b)),.int .i64 (Bk.start b),.int .i64 (Bk.fin b),.int .i64 (Bk.tlo b),.int .i64 (Bk.thi b),.int .i64 (Bk.slo b),.int .i64 (Bk.shi b),.int .i64 (Bk.notice b),.lst .ro 3 (plsU (Bk.players b))],SB.box [.int .i64 0,.int .i64 0]]) (.cons rfl (.cons rfl (.nil rfl))) rfl fun fr=>?_
 refine kQ (zE rfl rfl yQ (zE rfl rfl fld27_3 (zG rfl rfl rfl sh3 rfl (zAN rfl ze125 pl125 rfl rfl ?_))))
 refine zj rfl rfl sh125 rfl rfl rfl rfl rfl ?_
 refine zA (za ?_)
 refine⟨.inr rfl,_,.cons _ _ _ _ (.cellN 2 125 _ _ _ _ rfl rfl sh125 rfl) .nil,?_⟩
 exact .refl _
def rulesU(b:Bk):U:=.agg [.fn 115 [] [],.fn 116 [b.u] [],.fn 117 [] []]
theorem ret94(hi:Off is)(b:Bk):RetP Tryd.prog is orc 94 [b.u] (rulesU b):=by
 refine zAm body94 pure94 rfl rfl (fun u hu=>?_) ?_ ?_
 ·have hd:=zAh (yq b 4) u hu
  exact⟨hd.nb,NoOwn.of fun z es h=>by
   simp only[List.mem_cons,List.not_mem_nil,or_false]at hu
   rw[hu]at h;cases h⟩
 ·refine NB.agg fun c hc=>?_
  simp only[List.mem_cons,List.not_mem_nil,or_false]at hc
  rcases hc with rfl|rfl|rfl
  ·exact NB.fn (fun u hu=>by cases hu) (fun u hu=>by cases hu)
  ·exact NB.fn (fun u hu=>(zAh (yq b 4) u hu).nb) (fun u hu=>by cases hu)
  ·exact NB.fn (fun u hu=>by cases hu) (fun u hu=>by cases hu)
 refine kQ (yB rfl rfl (zt rfl ze118 ?_))
 refine zA ?_
 refine zN [(1,U.box 0 0),(2,U.box 1 0)] ([SB.box [.int .i64 (Bk.parts b),.int .i64 (Bk.size b),.lst .ro 1 (zF (Bk.beats b)),.int .i64 (Bk.start b),.int .i64 (Bk.fin b),.int .i64 (Bk.tlo b),.int .i64 (Bk.thi b),.int .i64 (Bk.slo b),.int .i64 (Bk.shi b),.int .i64 (Bk.notice b),.lst .ro 3 (plsU (Bk.players b))],SB.box [U.nilf,U.nilf,U.nilf]]) (.cons rfl (.cons rfl (.nil rfl))) rfl fun fr=>?_
 refine kQ (zM rfl rfl rfl sh75 rfl ?_)
 refine zEi rfl ?_
 refine zAN rfl ze118 pl118 rfl rfl ?_
 refine zj rfl rfl sh118 rfl rfl rfl rfl rfl ?_
 refine zA (za ?_)
 refine⟨.inr rfl,_,.cons _ _ _ _ (.cellN 2 118 _ _ _ _ rfl rfl sh118 rfl) .nil,?_⟩
 exact .refl _
structure POk(b:Bk)(l:List Int):Prop where
 len:(l.length:Int)=b.parts
 rg:∀x∈l,0≤x∧x≤3
 st:l[0]? =some b.start
 nr:∀i x y,l[i]? =some x→l[i+1]? =some y→x - 1≤y∧y≤x+1
end
section
variable {is:FuncId→Bool}{orc:Known}
theorem zGp{st X:List SB}{k:Nat}{x:SB}(h:X[k]? =some x):(st++X)[st.length+k]? =some x:=by
 rw[List.getElem?_append_right (by omega),Nat.add_sub_cancel_left];exact h
theorem set_off{st X:List SB}{k:Nat}{x:SB}:(st++X).set (st.length+k) x=st++X.set k x:=by
 rw[List.set_append_right _ _ (by omega),Nat.add_sub_cancel_left]
end
section
variable {is:FuncId→Bool}{orc:Known}
theorem nb_fn0(f:Nat):NB (.fn f [] []):=NB.fn (fun u hu=>by cases hu) (fun u hu=>by cases hu)
def chgI(p:Nat→Int):Nat→Int
 |0=>0
 |k+1=>chgI p k+if p (k+1)=p k then 0 else 1
theorem chgI_b(p:Nat→Int)(k:Nat):0≤chgI p k∧chgI p k≤k:=by
 induction k with
 |zero=>exact⟨Int.le_refl _,Int.le_refl _⟩
 |succ k ih=>
  have e:chgI p (k+1)=chgI p k+if p (k+1)=p k then 0 else 1:=rfl
  rw[e]
  split<;>omega
end
end Go.Proofs.YtfbmlibilcjlgaaDoor.drumBound
