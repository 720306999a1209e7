import Derived.Test.YtfbmlibilcjlgaaDoorVamR
import Derived.Test.YtfbmlibilcjlgaaDoorProg
import Derived.KernelRfl
set_option linter.unusedVariables false
set_option linter.unusedSimpArgs false
set_option linter.constructorNameAsVariable false
theorem Vam.Holds.c4{s:Vam.St}{a b c d:Nat}{x y z w:Vam.U}{l:List (Nat×Vam.U)}(h1:s.fr a=x)(h2:s.fr b=y)(h3:s.fr c=z)(h4:s.fr d=w)(h:Vam.Holds s l):Vam.Holds s ((a,x)::(b,y)::(c,z)::(d,w)::l):=.cons h1 (.cons h2 (.cons h3 (.cons h4 h)))
theorem Vam.kQ{P:Go.Program}{is:Go.FuncId→Bool}{orc:Vam.Known}{s:Vam.St}{i:Nat}{ops:Array Go.Oper}{b:Go.Code}{Q:Vam.Ex→Vam.St→Prop}(h:Vam.WpO P is orc ops.toList ops.toList s fun s'=>Vam.Wp P is orc b {s' with al:=[]} Q):Vam.Wp P is orc (.seq (.region i ops false) b) s Q:=Vam.k_seq (Vam.k_region h)
namespace Go.Proofs.YtfbmlibilcjlgaaDoor.drumListens
open Vam
section
variable {is:FuncId→Bool}{orc:Known}
theorem zAA{k:Nat}{a:U}(h:Dat k a):∀v∈[a],Dat k v:=fun v hv=>by
 simp only[List.mem_cons,List.not_mem_nil,or_false]at hv
 subst hv;exact h
theorem yj{k:Nat}{a b:U}(h:Dat k a)(h2:Dat k b):∀v∈[a,b],Dat k v:=fun v hv=>by
 simp only[List.mem_cons,List.not_mem_nil,or_false]at hv
 rcases hv with rfl|rfl<;>assumption
theorem dat_l3{k:Nat}{a b c:U}(h:Dat k a)(h2:Dat k b)(h3:Dat k c):∀v∈[a,b,c],Dat k v:=fun v hv=>by
 simp only[List.mem_cons,List.not_mem_nil,or_false]at hv
 rcases hv with rfl|rfl|rfl<;>assumption
abbrev yD(a b:Int):U:=.agg [.int .i64 a,.int .i64 b]
theorem yk(a b:Int)(k:Nat):Dat (k+2) (yD a b):=.agg _ _ (yj (.int _ _ _) (.int _ _ _))
theorem zCm(a b:Int):FlatU (yD a b):=.agg _ fun c hc=>by
 simp only[List.mem_cons,List.not_mem_nil,or_false]at hc
 rcases hc with rfl|rfl<;>exact .int _ _
abbrev zD(l:List Int):List U:=l.map fun n=>.int .i64 n
structure Two where
 a:Int
 b:Int
abbrev Two.u(q:Two):U:=yD q.a q.b
abbrev ym(l:List Two):List U:=l.map Two.u
theorem dat_twos(l:List Two)(kd:Kd)(hk:kd≠.own)(k:Nat):Dat (k+2) (.lst kd 2 (ym l)):=by
 refine .lst _ _ _ _ hk fun c hc=>?_
 obtain⟨e,h1,h2⟩:=List.mem_flatMap.1 hc
 obtain⟨q,_,rfl⟩:=List.mem_map.1 h1
 exact yj (.int _ _ _) (.int _ _ _) c h2
theorem all_take{α:Type}{p:α→Bool}{l:List α}{n:Nat}{x:α}(h:l[n]? =some x)(h1:(l.take n).all p=true)(h2:p x=true):(l.take (n+1)).all p=true:=by
 rw[List.take_add_one,List.all_append,h1,h]
 simpa using h2
theorem all_not{α:Type}{p:α→Bool}{l:List α}{n:Nat}{x:α}(h:l[n]? =some x)(h2:p x=false):l.all p=false:=by
 rw[List.all_eq_false]
 exact⟨x,List.mem_of_getElem? h,by simp[h2]⟩
theorem yE{l m:List SB}{i:Nat}{x:SB}(h:l[i]? =some x):(l++m)[i]? =some x:=by
 rw[List.getElem?_append_left (List.getElem?_eq_some_iff.1 h).1,h]
theorem wD(l:List SB)(x y:SB):(l++[x]).set l.length y=l++[y]:=by
 rw[List.set_append_right _ _ (Nat.le_refl _),Nat.sub_self];rfl
abbrev Off(is:FuncId→Bool):Prop:=∀f,f≠24→is f=false
structure Pl where
 la:Int
 lb:Int
 cat:List Two
abbrev Pl.cs(p:Pl):List U:=[.int .i64 p.la,.int .i64 p.lb,.lst .ro 2 (ym p.cat)]
abbrev Pl.u(p:Pl):U:=.agg p.cs
abbrev plsU(l:List Pl):List U:=l.map Pl.u
theorem dat_plcs(p:Pl)(k:Nat):∀c∈p.cs,Dat (k+2) c:=fun c hc=>by
 simp only[List.mem_cons,List.not_mem_nil,or_false]at hc
 rcases hc with rfl|rfl|rfl
 ·exact .int _ _ _
 ·exact .int _ _ _
 ·exact dat_twos _ .ro (fun h=>by cases h) k
theorem dat_pl(p:Pl)(k:Nat):Dat (k+3) p.u:=.agg _ _ (dat_plcs p k)
theorem dat_pls(l:List Pl)(kd:Kd)(hk:kd≠.own)(k:Nat):Dat (k+3) (.lst kd 3 (plsU l)):=by
 refine .lst _ _ _ _ hk fun c hc=>?_
 obtain⟨e,h1,h2⟩:=List.mem_flatMap.1 hc
 obtain⟨q,_,rfl⟩:=List.mem_map.1 h1
 exact dat_plcs q k c h2
structure Bk where
 parts:Int
 size:Int
 beats:List Int
 start:Int
 fin:Int
 tlo:Int
 thi:Int
 slo:Int
 shi:Int
 notice:Int
 players:List Pl
abbrev Bk.cs(b:Bk):List U:=[.int .i64 b.parts,.int .i64 b.size,.lst .ro 1 (zD b.beats),.int .i64 b.start,.int .i64 b.fin,.int .i64 b.tlo,.int .i64 b.thi,.int .i64 b.slo,.int .i64 b.shi,.int .i64 b.notice,.lst .ro 3 (plsU b.players)]
abbrev Bk.u(b:Bk):U:=.agg b.cs
theorem yg(b:Bk)(k:Nat):Dat (k+4) b.u:=.agg _ _ fun c hc=>by
 simp only[List.mem_cons,List.not_mem_nil,or_false]at hc
 rcases hc with rfl|rfl|rfl|rfl|rfl|rfl|rfl|rfl|rfl|rfl|rfl
 ·exact .int _ _ _
 ·exact .int _ _ _
 ·exact zg _ .ro (fun h=>by cases h) 1 _
 ·exact .int _ _ _
 ·exact .int _ _ _
 ·exact .int _ _ _
 ·exact .int _ _ _
 ·exact .int _ _ _
 ·exact .int _ _ _
 ·exact .int _ _ _
 ·exact dat_pls _ .ro (fun h=>by cases h) k
theorem wU:zx Tryd.prog 24 0=some (0,3):=by kernel_rfl
theorem zAc:zx Tryd.prog 24 1=some (1,3):=by kernel_rfl
theorem sh3:shOf Tryd.prog 3=.one:=by kernel_rfl
noncomputable def b90:Code:=(Tryd.f90.body).getD .skip
theorem body90:bodyOf Tryd.prog 90=some (15,b90,[.tmp 4]):=by kernel_rfl
theorem pure90:pureFn Tryd.prog 90=true:=by kernel_rfl
noncomputable def b52:Code:=(Tryd.f52.body).getD .skip
theorem body52:bodyOf Tryd.prog 52=some (15,b52,[.tmp 6]):=by kernel_rfl
theorem pure52:pureFn Tryd.prog 52=true:=by kernel_rfl
noncomputable def b59:Code:=(Tryd.f59.body).getD .skip
theorem body59:bodyOf Tryd.prog 59=some (24,b59,[.tmp 6]):=by kernel_rfl
theorem pure59:pureFn Tryd.prog 59=true:=by kernel_rfl
theorem pl24:zEx Tryd.prog 24=some [(0,1),(1,1)]:=by kernel_rfl
theorem sh24:shOf Tryd.prog 24=.many 2:=by kernel_rfl
theorem ze24:yQ Tryd.prog 24=some ((.cons (.int .i64 0) (.cons (.int .i64 0) .nil)):V):=by kernel_rfl
noncomputable def b48:Code:=(Tryd.f48.body).getD .skip
theorem body48:bodyOf Tryd.prog 48=some (8,b48,[.cell 4 24]):=by kernel_rfl
theorem pure48:pureFn Tryd.prog 48=true:=by kernel_rfl
theorem cl3:Program.cellsOf Tryd.prog 3=1:=by kernel_rfl
theorem ty22:tyOf Tryd.prog 22=.slice 3:=by kernel_rfl
noncomputable def b92:Code:=(Tryd.f92.body).getD .skip
theorem body92:bodyOf Tryd.prog 92=some (18,b92,[.tmp 4]):=by kernel_rfl
theorem pure92:pureFn Tryd.prog 92=true:=by kernel_rfl
theorem cl24:Program.cellsOf Tryd.prog 24=2:=by kernel_rfl
theorem ty66:tyOf Tryd.prog 66=.slice 24:=by kernel_rfl
theorem ze3:yQ Tryd.prog 3=some ((.cons (.int .i64 0) .nil):V):=by kernel_rfl
noncomputable def b93:Code:=(Tryd.f93.body).getD .skip
theorem body93:bodyOf Tryd.prog 93=some (29,b93,[.tmp 4]):=by kernel_rfl
theorem pure93:pureFn Tryd.prog 93=true:=by kernel_rfl
theorem zGI:zx Tryd.prog 68 0=some (0,24):=by kernel_rfl
theorem zCl:zx Tryd.prog 68 1=some (2,66):=by kernel_rfl
theorem sh66:shOf Tryd.prog 66=.one:=by kernel_rfl
theorem zDd:tyOf Tryd.prog 112=.array 10 24:=by kernel_rfl
noncomputable def b91:Code:=(Tryd.f91.body).getD .skip
theorem body91:bodyOf Tryd.prog 91=some (22,b91,[.tmp 2]):=by kernel_rfl
theorem pure91:pureFn Tryd.prog 91=true:=by kernel_rfl
def inS(a b n:Int):Bool:=decide (a≤n)&&decide (n≤b)
theorem ret90(hi:Off is)(a b n:Int):RetP Tryd.prog is orc 90 [yD a b,.int .i64 n] (.bool (inS a b n)):=by
 refine zw body90 pure90 (hi 90 (by decide)) rfl rfl (yj (yk a b 6) (.int _ _ _)) (.inl (.bool _ _)) ?_
 unfold inS
 by_cases h:a≤n
 ·rw[decide_eq_true h,Bool.true_and]
  refine kQ (zr rfl rfl (zC rfl (zB ?_)))
  refine zK [(1,.int .i64 n),(2,U.box 0 0)] ([SB.box [.int .i64 a,.int .i64 b]]) (.cons rfl (.cons rfl (.nil rfl))) rfl fun fr=>?_
  refine kQ (zF rfl rfl wU (zG rfl rfl rfl sh3 rfl (zA rfl (zCh rfl rfl rfl (zA rfl (o_gD rfl rfl rfl rfl (decide_eq_true (by omega)) ?_))))))
  refine zA rfl (o_gD rfl rfl rfl rfl (decide_eq_true (by omega)) ?_)
  refine zF rfl rfl zAc (o_gD rfl rfl rfl rfl (decide_eq_true (by omega)) ?_)
  refine zG rfl rfl rfl sh3 rfl (o_gD rfl rfl rfl rfl (decide_eq_true (by omega)) ?_)
  refine zCh rfl rfl rfl (zX rfl rfl (decide_eq_true (by omega)) ?_)
  refine zC rfl (zB (zU ?_))
  refine⟨.inr rfl,_,.cons _ _ _ _ (.tmp 4) .nil,?_⟩
  exact .refl _
 ·rw[decide_eq_false h,Bool.false_and]
  refine kQ (zr rfl rfl (zC rfl (zB ?_)))
  refine zK [(1,.int .i64 n),(2,U.box 0 0)] ([SB.box [.int .i64 a,.int .i64 b]]) (.cons rfl (.cons rfl (.nil rfl))) rfl fun fr=>?_
  refine kQ (zF rfl rfl wU (zG rfl rfl rfl sh3 rfl (zA rfl (zCh rfl rfl rfl (zA rfl (o_gS rfl rfl rfl rfl (decide_eq_false (by omega)) ?_))))))
  refine o_gS rfl rfl rfl rfl (decide_eq_false (by omega)) ?_
  refine o_gS rfl rfl rfl rfl (decide_eq_false (by omega)) ?_
  refine o_gS rfl rfl rfl rfl (decide_eq_false (by omega)) ?_
  refine zR rfl rfl (decide_eq_false (by omega)) ?_
  refine zC rfl (zB (zU ?_))
  refine⟨.inr rfl,_,.cons _ _ _ _ (.tmp 4) .nil,?_⟩
  exact .refl _
theorem ret52(hi:Off is)(n a b:Int):RetP Tryd.prog is orc 52 [.int .i64 n,.int .i64 a,.int .i64 b] (.bool (inS a b n)):=by
 refine zw body52 pure52 (hi 52 (by decide)) rfl rfl (dat_l3 (.int _ _ _) (.int _ _ _) (.int _ _ _)) (.inl (.bool _ _)) ?_
 unfold inS
 by_cases h:a≤n
 ·rw[decide_eq_true h,Bool.true_and]
  refine kQ (zC rfl (zB (kQ (zA rfl (zA rfl (zCh rfl rfl rfl (zA rfl (o_gD rfl rfl rfl rfl (decide_eq_true (by omega)) ?_))))))))
  refine zA rfl (o_gD rfl rfl rfl rfl (decide_eq_true (by omega)) ?_)
  refine zA rfl (o_gD rfl rfl rfl rfl (decide_eq_true (by omega)) ?_)
  refine zCh rfl rfl rfl (zX rfl rfl (decide_eq_true (by omega)) ?_)
  refine zC rfl (zB (zU ?_))
  refine⟨.inr rfl,_,.cons _ _ _ _ (.tmp 6) .nil,?_⟩
  exact .refl _
 ·rw[decide_eq_false h,Bool.false_and]
  refine kQ (zC rfl (zB (kQ (zA rfl (zA rfl (zCh rfl rfl rfl (zA rfl (o_gS rfl rfl rfl rfl (decide_eq_false (by omega)) ?_))))))))
  refine o_gS rfl rfl rfl rfl (decide_eq_false (by omega)) ?_
  refine o_gS rfl rfl rfl rfl (decide_eq_false (by omega)) ?_
  refine zR rfl rfl (decide_eq_false (by omega)) ?_
  refine zC rfl (zB (zU ?_))
  refine⟨.inr rfl,_,.cons _ _ _ _ (.tmp 6) .nil,?_⟩
  exact .refl _
def goodB(a b lo hi:Int):Bool:=decide (lo≤a)&&(decide (a≤b)&&decide (b≤hi))
theorem ret59(hi:Off is)(a b lo up:Int):RetP Tryd.prog is orc 59 [yD a b,.int .i64 lo,.int .i64 up] (.bool (goodB a b lo up)):=by
 refine zw body59 pure59 (hi 59 (by decide)) rfl rfl (dat_l3 (yk a b 6) (.int _ _ _) (.int _ _ _)) (.inl (.bool _ _)) ?_
 unfold goodB
 by_cases h:lo≤a
 ·rw[decide_eq_true h,Bool.true_and]
  by_cases h2:a≤b
  ·rw[decide_eq_true h2,Bool.true_and]
   refine kQ (zr rfl rfl (zC rfl (zB ?_)))
   refine zK [(1,.int .i64 lo),(2,.int .i64 up),(3,U.box 0 0)] ([SB.box [.int .i64 a,.int .i64 b]]) (.cons rfl (.cons rfl (.cons rfl (.nil rfl)))) rfl fun fr=>?_
   refine kQ (zA rfl (zF rfl rfl wU (zG rfl rfl rfl sh3 rfl (zCh rfl rfl rfl (zA rfl (o_gD rfl rfl rfl rfl (decide_eq_true (by omega)) ?_))))))
   refine zF rfl rfl wU (o_gD rfl rfl rfl rfl (decide_eq_true (by omega)) ?_)
   refine zG rfl rfl rfl sh3 rfl (o_gD rfl rfl rfl rfl (decide_eq_true (by omega)) ?_)
   refine zF rfl rfl zAc (o_gD rfl rfl rfl rfl (decide_eq_true (by omega)) ?_)
   refine zG rfl rfl rfl sh3 rfl ?_
   refine zV [(2,.int .i64 up),(3,U.box 0 0),(11,U.bool (decide (lo≤a))),(13,.int .i64 a),(15,.int .i64 b)] [] ([SB.box [.int .i64 a,.int .i64 b]]) (.c4 rfl rfl rfl rfl (.cons rfl (.nil rfl))) rfl rfl fun fr=>?_
   refine o_gD rfl rfl rfl rfl (decide_eq_true (by omega)) ?_
   refine zV [(2,.int .i64 up),(3,U.box 0 0),(11,U.bool (decide (lo≤a))),(13,.int .i64 a),(15,.int .i64 b)] [] ([SB.box [.int .i64 a,.int .i64 b]]) (.c4 rfl rfl rfl rfl (.cons rfl (.nil rfl))) rfl rfl fun fr=>?_
   refine zCh rfl rfl rfl (zX rfl rfl (decide_eq_true (by omega)) ?_)
   refine zA rfl (o_gD rfl rfl rfl rfl (decide_eq_true (by omega)) ?_)
   refine zF rfl rfl zAc (o_gD rfl rfl rfl rfl (decide_eq_true (by omega)) ?_)
   refine zG rfl rfl rfl sh3 rfl (o_gD rfl rfl rfl rfl (decide_eq_true (by omega)) ?_)
   refine zA rfl (o_gD rfl rfl rfl rfl (decide_eq_true (by omega)) ?_)
   refine zCh rfl rfl rfl (zX rfl rfl (decide_eq_true (by omega)) ?_)
   refine zC rfl (zB (zU ?_))
   refine⟨.inr rfl,_,.cons _ _ _ _ (.tmp 6) .nil,?_⟩
   exact .refl _
  ·rw[decide_eq_false h2,Bool.false_and]
   refine kQ (zr rfl rfl (zC rfl (zB ?_)))
   refine zK [(1,.int .i64 lo),(2,.int .i64 up),(3,U.box 0 0)] ([SB.box [.int .i64 a,.int .i64 b]]) (.cons rfl (.cons rfl (.cons rfl (.nil rfl)))) rfl fun fr=>?_
   refine kQ (zA rfl (zF rfl rfl wU (zG rfl rfl rfl sh3 rfl (zCh rfl rfl rfl (zA rfl (o_gD rfl rfl rfl rfl (decide_eq_true (by omega)) ?_))))))
   refine zF rfl rfl wU (o_gD rfl rfl rfl rfl (decide_eq_true (by omega)) ?_)
   refine zG rfl rfl rfl sh3 rfl (o_gD rfl rfl rfl rfl (decide_eq_true (by omega)) ?_)
   refine zF rfl rfl zAc (o_gD rfl rfl rfl rfl (decide_eq_true (by omega)) ?_)
   refine zG rfl rfl rfl sh3 rfl ?_
   refine zV [(2,.int .i64 up),(3,U.box 0 0),(11,U.bool (decide (lo≤a))),(13,.int .i64 a),(15,.int .i64 b)] [] ([SB.box [.int .i64 a,.int .i64 b]]) (.c4 rfl rfl rfl rfl (.cons rfl (.nil rfl))) rfl rfl fun fr=>?_
   refine o_gD rfl rfl rfl rfl (decide_eq_true (by omega)) ?_
   refine zV [(2,.int .i64 up),(3,U.box 0 0),(11,U.bool (decide (lo≤a))),(13,.int .i64 a),(15,.int .i64 b)] [] ([SB.box [.int .i64 a,.int .i64 b]]) (.c4 rfl rfl rfl rfl (.cons rfl (.nil rfl))) rfl rfl fun fr=>?_
   refine zCh rfl rfl rfl (zX rfl rfl (decide_eq_true (by omega)) ?_)
   refine zA rfl (o_gS rfl rfl rfl rfl (decide_eq_false (by omega)) ?_)
   refine o_gS rfl rfl rfl rfl (decide_eq_false (by omega)) ?_
   refine o_gS rfl rfl rfl rfl (decide_eq_false (by omega)) ?_
   refine o_gS rfl rfl rfl rfl (decide_eq_false (by omega)) ?_
   refine zR rfl rfl (decide_eq_false (by omega)) ?_
   refine zC rfl (zB (zU ?_))
   refine⟨.inr rfl,_,.cons _ _ _ _ (.tmp 6) .nil,?_⟩
   exact .refl _
 ·rw[decide_eq_false h,Bool.false_and]
  refine kQ (zr rfl rfl (zC rfl (zB ?_)))
  refine zK [(1,.int .i64 lo),(2,.int .i64 up),(3,U.box 0 0)] ([SB.box [.int .i64 a,.int .i64 b]]) (.cons rfl (.cons rfl (.cons rfl (.nil rfl)))) rfl fun fr=>?_
  refine kQ (zA rfl (zF rfl rfl wU (zG rfl rfl rfl sh3 rfl (zCh rfl rfl rfl (zA rfl (o_gS rfl rfl rfl rfl (decide_eq_false (by omega)) ?_))))))
  refine o_gS rfl rfl rfl rfl (decide_eq_false (by omega)) ?_
  refine o_gS rfl rfl rfl rfl (decide_eq_false (by omega)) ?_
  refine o_gS rfl rfl rfl rfl (decide_eq_false (by omega)) ?_
  refine zV [(2,.int .i64 up),(3,U.box 0 0),(11,U.bool (decide (lo≤a))),(13,U.tup []),(15,U.tup [])] [] ([SB.box [.int .i64 a,.int .i64 b]]) (.c4 rfl rfl rfl rfl (.cons rfl (.nil rfl))) rfl rfl fun fr=>?_
  refine o_gS rfl rfl rfl rfl (decide_eq_false (by omega)) ?_
  refine zR rfl rfl (decide_eq_false (by omega)) ?_
  refine zA rfl (o_gS rfl rfl rfl rfl rfl (o_gS rfl rfl rfl rfl rfl (o_gS rfl rfl rfl rfl rfl (o_gS rfl rfl rfl rfl rfl (zR rfl rfl rfl ?_)))))
  refine zC rfl (zB (zU ?_))
  refine⟨.inr rfl,_,.cons _ _ _ _ (.tmp 6) .nil,?_⟩
  exact .refl _
theorem ret48(hi:Off is)(a b:Int):RetP Tryd.prog is orc 48 [.int .i64 a,.int .i64 b] (yD a b):=by
 refine zw body48 pure48 (hi 48 (by decide)) rfl rfl (yj (.int _ _ _) (.int _ _ _)) (.inl (yk a b 6)) ?_
 refine kQ (zu rfl ze24 ?_)
 refine zB ?_
 refine zK [(0,.int .i64 a),(1,.int .i64 b),(4,U.box 0 0)] ([SB.box [.int .i64 0,.int .i64 0]]) (.cons rfl (.cons rfl (.cons rfl (.nil rfl)))) rfl fun fr=>?_
 refine kQ (zA rfl (zA rfl (wT rfl ze24 pl24 rfl rfl ?_)))
 refine zl rfl rfl sh24 rfl rfl rfl rfl rfl ?_
 refine zB (zU ?_)
 refine⟨.inr rfl,_,.cons _ _ _ _ (.cellN 4 24 _ _ _ _ rfl rfl sh24 rfl) .nil,?_⟩
 exact .refl _
set_option maxHeartbeats 4000000 in
theorem ret92(hi:Off is)(a b:Int)(l:List Int)(hl:l.length≤4096):RetP Tryd.prog is orc 92 [yD a b,.lst .ro 1 (zD l)] (.bool (l.all (inS a b))):=by
 refine zw body92 pure92 (hi 92 (by decide)) rfl rfl (yj (yk a b 6) (zg 6 .ro (fun h=>by cases h) 1 l)) (.inl (.bool _ _)) ?_
 refine kQ (zr rfl rfl (zC rfl (zB ?_)))
 refine zK [(1,.lst .ro 1 (zD l)),(2,U.box 0 0)] ([SB.box [.int .i64 a,.int .i64 b]]) (.cons rfl (.cons rfl (.nil rfl))) rfl fun fr=>?_
 refine k_seq (kQ (zA rfl (yB rfl ty22 rfl (List.length_map _) ?_)))
 refine zA rfl (zB (zM ?_))
 refine yi (fun kk s2=>∃i:Nat,kk+i=l.length∧(l.take i).all (inS a b)=true∧s2.st=[.box [.int .i64 a,.int .i64 b]]∧Holds s2 [(2,.box 0 0),(7,.lst .ro 1 (zD l)),(8,.int .i64 l.length),(9,.int .i64 i)]) (fun kk s2 hI=>?_) l.length _ ⟨0,rfl,rfl,rfl,.c4 rfl rfl rfl rfl (.nil rfl)⟩
 obtain⟨i,hk,hall,hst2,hs2⟩:=hI
 refine zK _ _ hs2 hst2 fun fr2=>?_
 by_cases hin:i<l.length
 ·obtain⟨x,hx⟩:∃x,l[i]? =some x:=⟨l[i],List.getElem?_eq_getElem hin⟩
  have q90:=ret90 (orc:=orc) hi a b x
  cases hc:inS a b x with
  |true=>
   rw[hc]at q90
   refine kQ (zc rfl rfl rfl (zB (k_seq (k_cT rfl (decide_eq_true (by omega)) (zQ (k_seq (zM (kQ ?_))))))))
   refine yb (u:=.int .i64 (x)) rfl ty22 rfl rfl (Int.natCast_nonneg _) (by simp[hx]) cl3 ?_
   refine zZ rfl rfl sh3 rfl ?_
   refine zC rfl (zB (kQ (zO rfl rfl rfl sh24 rfl (zA rfl (zN rfl (q90) (.lrefl _) (wI rfl rfl (zB (k_cF rfl rfl ?_))))))))
   refine zQ (k_region ?_)
   refine yU rfl rfl rfl (by unfold I64;omega) (zA rfl (zB ?_))
   exact⟨kk - 1,by omega,i+1,by omega,all_take hx hall hc,rfl,.c4 rfl rfl rfl rfl (.nil rfl)⟩
  |false=>
   rw[hc]at q90
   rw[all_not hx hc]
   refine kQ (zc rfl rfl rfl (zB (k_seq (k_cT rfl (decide_eq_true (by omega)) (zQ (k_seq (zM (kQ ?_))))))))
   refine yb (u:=.int .i64 (x)) rfl ty22 rfl rfl (Int.natCast_nonneg _) (by simp[hx]) cl3 ?_
   refine zZ rfl rfl sh3 rfl ?_
   refine zC rfl (zB (kQ (zO rfl rfl rfl sh24 rfl (zA rfl (zN rfl (q90) (.lrefl _) (wI rfl rfl (zB (k_cT rfl rfl ?_))))))))
   refine kQ (zC rfl (zB (zU ?_)))
   refine⟨.inr rfl,_,.cons _ _ _ _ (.tmp 4) .nil,?_⟩
   exact .refl _
 ·have hiN:i=l.length:=by omega
  subst hiN
  rw[List.take_length]at hall
  rw[hall]
  refine kQ (zc rfl rfl rfl (zB (k_seq (k_cF rfl (decide_eq_false (by omega)) (yX (kQ (zC rfl (zB ?_))))))))
  refine zU ?_
  refine⟨.inr rfl,_,.cons _ _ _ _ (.tmp 4) .nil,?_⟩
  exact .refl _
def spB(a b:Int)(q:Two):Bool:=decide (q.a≤q.b)&&[q.a,q.b].all (inS a b)
theorem grow{V Y e e2:List SB}(h:V++e=Y):Y++e2=V++(e++e2):=by rw[←h,List.append_assoc]
set_option maxHeartbeats 4000000 in
theorem ret93(hi:Off is)(a b:Int)(l:List Two)(hl:l.length≤4096):RetP Tryd.prog is orc 93 [yD a b,.lst .ro 2 (ym l)] (.bool (l.all (spB a b))):=by
 refine zw body93 pure93 (hi 93 (by decide)) rfl rfl (yj (yk a b 6) (dat_twos l .ro (fun h=>by cases h) 6)) (.inl (.bool _ _)) ?_
 refine kQ (zr rfl rfl (zC rfl (zB ?_)))
 refine zK [(1,.lst .ro 2 (ym l)),(2,U.box 0 0)] ([SB.box [.int .i64 a,.int .i64 b]]) (.cons rfl (.cons rfl (.nil rfl))) rfl fun fr=>?_
 refine k_seq (kQ (zA rfl (yB rfl ty66 rfl (List.length_map _) ?_)))
 refine zA rfl (zB (zM ?_))
 obtain⟨V,hV⟩:∃V:List SB,V=[.box [.int .i64 a,.int .i64 b]]:=⟨_,rfl⟩
 refine yi (fun kk s2=>∃i:Nat,kk+i=l.length∧(l.take i).all (spB a b)=true∧(∃e,s2.st=V++e)∧Holds s2 [(2,.box 0 0),(7,.lst .ro 2 (ym l)),(8,.int .i64 l.length),(9,.int .i64 i)]) (fun kk s2 hI=>?_) l.length _ ⟨0,rfl,rfl,⟨[],by rw[hV];rfl⟩,.c4 rfl rfl rfl rfl (.nil rfl)⟩
 obtain⟨i,hk,hall,⟨e,hst2⟩,hs2⟩:=hI
 generalize hY:V++e=Y at hst2
 have y0:Y[0]? =some (.box [.int .i64 a,.int .i64 b]):=by rw[←hY,hV];rfl
 refine zK _ _ hs2 hst2 fun fr2=>?_
 by_cases hin:i<l.length
 ·obtain⟨x,hx⟩:∃x,l[i]? =some x:=⟨l[i],List.getElem?_eq_getElem hin⟩
  have q92:=ret92 (orc:=orc) hi a b [x.a,x.b] (by simp)
  cases hc:spB a b x with
  |true=>
   have hc':=hc
   unfold spB at hc'
   rw[Bool.and_eq_true,decide_eq_true_eq]at hc'
   have h1:=hc'.1
   rw[hc'.2]at q92
   refine kQ (zc rfl rfl rfl (zB (k_seq (k_cT rfl (decide_eq_true (by omega)) (zQ (k_seq (zM (kQ ?_))))))))
   refine yb (u:=(x).u) rfl ty66 rfl rfl (Int.natCast_nonneg _) (by simp[hx]) cl24 ?_
   refine zAf rfl rfl sh24 rfl ?_
   refine zu rfl ze24 ?_
   refine zl rfl (zq _ _) sh24 rfl rfl rfl rfl rfl ?_
   refine zB ?_
   refine zK [(2,U.box 0 0),(6,U.box (List.length Y) 0),(7,.lst .ro 2 (ym l)),(8,.int .i64 ↑(List.length l)),(9,.int .i64 ↑i)] (Y++[SB.box [.int .i64 x.a,.int .i64 x.b]]) (.c4 rfl rfl rfl rfl (.cons rfl (.nil rfl))) (wD _ _ _) fun fr=>?_
   refine kQ (zF rfl rfl wU (zG rfl rfl (zq _ _) sh3 rfl ?_))
   refine zF rfl rfl zAc (zG rfl rfl (zq _ _) sh3 rfl ?_)
   refine o_gtr rfl rfl rfl (zA rfl (o_gD rfl rfl rfl rfl (decide_eq_false (by omega)) (zO rfl rfl (yE y0) sh24 rfl ?_)))
   refine o_gD rfl rfl rfl rfl (decide_eq_false (by omega)) (zF rfl rfl wU (o_gD rfl rfl rfl rfl (decide_eq_false (by omega)) (zG rfl rfl (zq _ _) sh3 rfl ?_)))
   refine zV [(2,U.box 0 0),(6,U.box (List.length Y) 0),(7,.lst .ro 2 (ym l)),(8,.int .i64 ↑(List.length l)),(9,.int .i64 ↑i),(18,U.bool (decide (Two.b x<Two.a x))),(19,U.agg [.int .i64 a,.int .i64 b]),(20,U.box (List.length Y) 0),(21,.int .i64 x.a)] [] (Y++[SB.box [.int .i64 x.a,.int .i64 x.b]]) (.c4 rfl rfl rfl rfl (.c4 rfl rfl rfl rfl (.cons rfl (.nil rfl)))) rfl rfl fun fr=>?_
   refine o_gD rfl rfl rfl rfl (decide_eq_false (by omega)) ?_
   refine zV [(2,U.box 0 0),(6,U.box (List.length Y) 0),(7,.lst .ro 2 (ym l)),(8,.int .i64 ↑(List.length l)),(9,.int .i64 ↑i),(18,U.bool (decide (Two.b x<Two.a x))),(19,U.agg [.int .i64 a,.int .i64 b]),(20,U.box (List.length Y) 0),(21,.int .i64 x.a)] [] (Y++[SB.box [.int .i64 x.a,.int .i64 x.b]]) (.c4 rfl rfl rfl rfl (.c4 rfl rfl rfl rfl (.cons rfl (.nil rfl)))) rfl rfl fun fr=>?_
   refine zF rfl rfl zAc (o_gD rfl rfl rfl rfl (decide_eq_false (by omega)) (zG rfl rfl (zq _ _) sh3 rfl ?_))
   refine o_gD rfl rfl rfl rfl (decide_eq_false (by omega)) (wX (es:=[.int .i64 (Two.a x),.int .i64 (Two.b x)]) rfl ty22 ze3 cl3 rfl rfl rfl rfl rfl rfl rfl rfl ?_)
   refine o_gD rfl rfl rfl rfl (decide_eq_false (by omega)) (zN rfl (q92) (.lcons _ _ _ _ (.refl _) (.lcons _ _ _ _ (.ro _ _ _) (.lrefl _))) ?_)
   refine o_gD rfl rfl rfl rfl (decide_eq_false (by omega)) (wI rfl rfl (zR rfl rfl (decide_eq_false (by omega)) ?_))
   refine zB ?_
   refine zK [(2,U.box 0 0),(7,.lst .ro 2 (ym l)),(8,.int .i64 ↑(List.length l)),(9,.int .i64 ↑i),(19,U.agg [.int .i64 a,.int .i64 b]),(20,U.box (List.length Y) 0),(21,.int .i64 x.a),(22,U.box (List.length Y) 1),(23,.int .i64 x.b),(24,.lst .full 1 [.int .i64 x.a,.int .i64 x.b]),(25,.bool true),(26,U.bool !Bool.true),(27,U.bool !Bool.true)] (Y++[SB.box [.int .i64 x.a,.int .i64 x.b]]) (.c4 rfl rfl rfl rfl (.c4 rfl rfl rfl rfl (.c4 rfl rfl rfl rfl (.cons rfl (.nil rfl))))) rfl fun fr=>?_
   refine k_cF rfl rfl ?_
   refine zQ (k_region ?_)
   refine yU rfl rfl rfl (by unfold I64;omega) (zA rfl (zB ?_))
   exact⟨kk - 1,by omega,i+1,by omega,all_take hx hall hc,⟨_,by show Y++_=_;exact grow hY⟩,.c4 rfl rfl rfl rfl (.nil rfl)⟩
  |false=>
   rw[all_not hx hc]
   unfold spB at hc
   by_cases h1:x.a≤x.b
   ·rw[decide_eq_true h1,Bool.true_and]at hc
    rw[hc]at q92
    refine kQ (zc rfl rfl rfl (zB (k_seq (k_cT rfl (decide_eq_true (by omega)) (zQ (k_seq (zM (kQ ?_))))))))
    refine yb (u:=(x).u) rfl ty66 rfl rfl (Int.natCast_nonneg _) (by simp[hx]) cl24 ?_
    refine zAf rfl rfl sh24 rfl ?_
    refine zu rfl ze24 ?_
    refine zl rfl (zq _ _) sh24 rfl rfl rfl rfl rfl ?_
    refine zB ?_
    refine zK [(2,U.box 0 0),(6,U.box (List.length Y) 0),(7,.lst .ro 2 (ym l)),(8,.int .i64 ↑(List.length l)),(9,.int .i64 ↑i)] (Y++[SB.box [.int .i64 x.a,.int .i64 x.b]]) (.c4 rfl rfl rfl rfl (.cons rfl (.nil rfl))) (wD _ _ _) fun fr=>?_
    refine kQ (zF rfl rfl wU (zG rfl rfl (zq _ _) sh3 rfl ?_))
    refine zF rfl rfl zAc (zG rfl rfl (zq _ _) sh3 rfl ?_)
    refine o_gtr rfl rfl rfl (zA rfl (o_gD rfl rfl rfl rfl (decide_eq_false (by omega)) (zO rfl rfl (yE y0) sh24 rfl ?_)))
    refine o_gD rfl rfl rfl rfl (decide_eq_false (by omega)) (zF rfl rfl wU (o_gD rfl rfl rfl rfl (decide_eq_false (by omega)) (zG rfl rfl (zq _ _) sh3 rfl ?_)))
    refine zV [(2,U.box 0 0),(6,U.box (List.length Y) 0),(7,.lst .ro 2 (ym l)),(8,.int .i64 ↑(List.length l)),(9,.int .i64 ↑i),(18,U.bool (decide (Two.b x<Two.a x))),(19,U.agg [.int .i64 a,.int .i64 b]),(20,U.box (List.length Y) 0),(21,.int .i64 x.a)] [] (Y++[SB.box [.int .i64 x.a,.int .i64 x.b]]) (.c4 rfl rfl rfl rfl (.c4 rfl rfl rfl rfl (.cons rfl (.nil rfl)))) rfl rfl fun fr=>?_
    refine o_gD rfl rfl rfl rfl (decide_eq_false (by omega)) ?_
    refine zV [(2,U.box 0 0),(6,U.box (List.length Y) 0),(7,.lst .ro 2 (ym l)),(8,.int .i64 ↑(List.length l)),(9,.int .i64 ↑i),(18,U.bool (decide (Two.b x<Two.a x))),(19,U.agg [.int .i64 a,.int .i64 b]),(20,U.box (List.length Y) 0),(21,.int .i64 x.a)] [] (Y++[SB.box [.int .i64 x.a,.int .i64 x.b]]) (.c4 rfl rfl rfl rfl (.c4 rfl rfl rfl rfl (.cons rfl (.nil rfl)))) rfl rfl fun fr=>?_
    refine zF rfl rfl zAc (o_gD rfl rfl rfl rfl (decide_eq_false (by omega)) (zG rfl rfl (zq _ _) sh3 rfl ?_))
    refine o_gD rfl rfl rfl rfl (decide_eq_false (by omega)) (wX (es:=[.int .i64 (Two.a x),.int .i64 (Two.b x)]) rfl ty22 ze3 cl3 rfl rfl rfl rfl rfl rfl rfl rfl ?_)
    refine o_gD rfl rfl rfl rfl (decide_eq_false (by omega)) (zN rfl (q92) (.lcons _ _ _ _ (.refl _) (.lcons _ _ _ _ (.ro _ _ _) (.lrefl _))) ?_)
    refine o_gD rfl rfl rfl rfl (decide_eq_false (by omega)) (wI rfl rfl (zR rfl rfl (decide_eq_false (by omega)) ?_))
    refine zB ?_
    refine zK [(2,U.box 0 0),(7,.lst .ro 2 (ym l)),(8,.int .i64 ↑(List.length l)),(9,.int .i64 ↑i),(19,U.agg [.int .i64 a,.int .i64 b]),(20,U.box (List.length Y) 0),(21,.int .i64 x.a),(22,U.box (List.length Y) 1),(23,.int .i64 x.b),(24,.lst .full 1 [.int .i64 x.a,.int .i64 x.b]),(25,.bool false),(26,U.bool !Bool.false),(27,U.bool !Bool.false)] (Y++[SB.box [.int .i64 x.a,.int .i64 x.b]]) (.c4 rfl rfl rfl rfl (.c4 rfl rfl rfl rfl (.c4 rfl rfl rfl rfl (.cons rfl (.nil rfl))))) rfl fun fr=>?_
    refine k_cT rfl rfl ?_
    refine kQ (zC rfl (zB (zU ?_)))
    refine⟨.inr rfl,_,.cons _ _ _ _ (.tmp 4) .nil,?_⟩
    exact .refl _
   ·refine kQ ?_
    refine zc rfl rfl rfl (zB (k_seq (k_cT rfl (decide_eq_true (by omega)) (zQ (k_seq (zM (kQ (yb (u:=(x).u) rfl ty66 rfl rfl (Int.natCast_nonneg _) (by simp[hx]) cl24 ?_))))))))
    refine zAf rfl rfl sh24 rfl ?_
    refine zu rfl ze24 ?_
    refine zl rfl (zq _ _) sh24 rfl rfl rfl rfl rfl ?_
    refine zB ?_
    refine zK [(2,U.box 0 0),(6,U.box (List.length Y) 0),(7,.lst .ro 2 (ym l)),(8,.int .i64 ↑(List.length l)),(9,.int .i64 ↑i)] (Y++[SB.box [.int .i64 x.a,.int .i64 x.b]]) (.c4 rfl rfl rfl rfl (.cons rfl (.nil rfl))) (wD _ _ _) fun fr=>?_
    refine kQ (zF rfl rfl wU (zG rfl rfl (zq _ _) sh3 rfl ?_))
    refine zF rfl rfl zAc (zG rfl rfl (zq _ _) sh3 rfl ?_)
    refine o_gtr rfl rfl rfl (zA rfl (o_gS rfl rfl rfl rfl (decide_eq_true (by omega)) (o_gS rfl rfl rfl rfl (decide_eq_true (by omega)) (o_gS rfl rfl rfl rfl (decide_eq_true (by omega)) ?_))))
    refine zV [(2,U.box 0 0),(6,U.box (List.length Y) 0),(7,.lst .ro 2 (ym l)),(8,.int .i64 ↑(List.length l)),(9,.int .i64 ↑i),(18,U.bool (decide (Two.b x<Two.a x))),(19,U.tup []),(20,U.tup []),(21,U.tup [])] [] (Y++[SB.box [.int .i64 x.a,.int .i64 x.b]]) (.c4 rfl rfl rfl rfl (.c4 rfl rfl rfl rfl (.cons rfl (.nil rfl)))) rfl rfl fun fr=>?_
    refine o_gS rfl rfl rfl rfl (decide_eq_true (by omega)) (o_gS rfl rfl rfl rfl (decide_eq_true (by omega)) (o_gS rfl rfl rfl rfl (decide_eq_true (by omega)) (o_gS rfl rfl rfl rfl (decide_eq_true (by omega)) (o_gS rfl rfl rfl rfl (decide_eq_true (by omega)) (zX rfl rfl (decide_eq_true (by omega)) ?_)))))
    refine zB ?_
    refine zK [(2,U.box 0 0),(7,.lst .ro 2 (ym l)),(8,.int .i64 ↑(List.length l)),(9,.int .i64 ↑i),(19,U.tup []),(20,U.tup []),(21,U.tup []),(22,U.tup []),(23,U.tup []),(24,U.tup []),(25,U.tup []),(26,U.tup []),(27,.bool true)] (Y++[SB.box [.int .i64 x.a,.int .i64 x.b]]) (.c4 rfl rfl rfl rfl (.c4 rfl rfl rfl rfl (.c4 rfl rfl rfl rfl (.cons rfl (.nil rfl))))) rfl fun fr=>?_
    refine k_cT rfl rfl ?_
    refine kQ (zC rfl (zB (zU ?_)))
    refine⟨.inr rfl,_,.cons _ _ _ _ (.tmp 4) .nil,?_⟩
    exact .refl _
 ·have hiN:i=l.length:=by omega
  subst hiN
  rw[List.take_length]at hall
  rw[hall]
  refine kQ (zc rfl rfl rfl (zB (k_seq (k_cF rfl (decide_eq_false (by omega)) (yX (kQ (zC rfl (zB ?_))))))))
  refine zU ?_
  refine⟨.inr rfl,_,.cons _ _ _ _ (.tmp 4) .nil,?_⟩
  exact .refl _
def plB(p:Pl):Bool:=spB 0 500 ⟨p.la,p.lb⟩&&(decide (p.cat.length=4)&&p.cat.all (spB 0 100))
set_option maxHeartbeats 4000000 in
theorem ret91(hi:Off is)(p:Pl):RetP Tryd.prog is orc 91 [p.u] (.bool (plB p)):=by
 have q1:=ret93 (orc:=orc) hi 0 500 [⟨p.la,p.lb⟩] (by simp)
 refine zw body91 pure91 (hi 91 (by decide)) rfl rfl (zAA (dat_pl p 5)) (.inl (.bool _ _)) ?_
 unfold plB
 rw[show [(⟨p.la,p.lb⟩:Two)].all (spB 0 500)=spB 0 500 ⟨p.la,p.lb⟩ by simp]at q1
 cases h1:spB 0 500 ⟨p.la,p.lb⟩with
 |false=>
  rw[h1]at q1
  rw[Bool.false_and]
  refine kQ (zr rfl rfl (zC rfl (zB ?_)))
  refine zK [(1,U.box 0 0)] ([SB.box [.int .i64 (Pl.la p),.int .i64 (Pl.lb p),.lst .ro 2 (ym (Pl.cat p))]]) (.cons rfl (.nil rfl)) rfl fun fr=>?_
  refine kQ (o_gpair (i:=7) (c:=2) (n:=10) sh24 rfl rfl zDd cl24 rfl rfl rfl (gatB 7 (by decide)) rfl ?_)
  refine zF rfl rfl zGI (zO rfl rfl rfl sh24 rfl (wX (es:=[U.agg [.int .i64 (Pl.la p),.int .i64 (Pl.lb p)]]) rfl ty66 ze24 cl24 rfl rfl rfl rfl rfl rfl rfl rfl ?_))
  refine zN rfl (q1) (.lcons _ _ _ _ (.refl _) (.lcons _ _ _ _ (.ro _ _ _) (.lrefl _))) ?_
  refine zA rfl (o_gS rfl rfl rfl rfl rfl (o_gS rfl rfl rfl rfl rfl ?_))
  refine zV [(1,U.box 0 0),(9,.bool false),(11,U.tup [])] [] ([SB.box [.int .i64 (Pl.la p),.int .i64 (Pl.lb p),.lst .ro 2 (ym (Pl.cat p))]]) (.cons rfl (.cons rfl (.cons rfl (.nil rfl)))) rfl rfl fun fr=>?_
  refine o_gS rfl rfl rfl rfl rfl (o_gS rfl rfl rfl rfl rfl (zR rfl rfl rfl ?_))
  refine zA rfl (o_gS rfl rfl rfl rfl rfl (o_gS rfl rfl rfl rfl rfl (o_gS rfl rfl rfl rfl rfl (o_gS rfl rfl rfl rfl rfl (o_gS rfl rfl rfl rfl rfl ?_)))))
  refine zV [(15,.bool false),(20,U.tup [])] [] ([SB.box [.int .i64 (Pl.la p),.int .i64 (Pl.lb p),.lst .ro 2 (ym (Pl.cat p))]]) (.cons rfl (.cons rfl (.nil rfl))) rfl rfl fun fr=>?_
  refine zR rfl rfl rfl ?_
  refine zC rfl (zB (zU ?_))
  refine⟨.inr rfl,_,.cons _ _ _ _ (.tmp 2) .nil,?_⟩
  exact .refl _
 |true=>
  rw[h1]at q1
  rw[Bool.true_and]
  by_cases h4:p.cat.length=4
  ·have q2:=ret93 (orc:=orc) hi 0 100 p.cat (by omega)
   rw[decide_eq_true h4,Bool.true_and]
   generalize p.cat.all (spB 0 100)=c at q2
   refine kQ (zr rfl rfl (zC rfl (zB ?_)))
   refine zK [(1,U.box 0 0)] ([SB.box [.int .i64 (Pl.la p),.int .i64 (Pl.lb p),.lst .ro 2 (ym (Pl.cat p))]]) (.cons rfl (.nil rfl)) rfl fun fr=>?_
   refine kQ (o_gpair (i:=7) (c:=2) (n:=10) sh24 rfl rfl zDd cl24 rfl rfl rfl (gatB 7 (by decide)) rfl ?_)
   refine zF rfl rfl zGI (zO rfl rfl rfl sh24 rfl (wX (es:=[U.agg [.int .i64 (Pl.la p),.int .i64 (Pl.lb p)]]) rfl ty66 ze24 cl24 rfl rfl rfl rfl rfl rfl rfl rfl ?_))
   refine zN rfl (q1) (.lcons _ _ _ _ (.refl _) (.lcons _ _ _ _ (.ro _ _ _) (.lrefl _))) ?_
   refine zA rfl (o_gD rfl rfl rfl rfl rfl (zF rfl rfl zCl (o_gD rfl rfl rfl rfl rfl (zG rfl rfl rfl sh66 rfl ?_))))
   refine zV [(1,U.box 0 0),(9,.bool true),(11,.lst .ro 2 (ym (Pl.cat p)))] [] ([SB.box [.int .i64 (Pl.la p),.int .i64 (Pl.lb p),.lst .ro 2 (ym (Pl.cat p))]]) (.cons rfl (.cons rfl (.cons rfl (.nil rfl)))) rfl rfl fun fr=>?_
   refine o_gD rfl rfl rfl rfl rfl ?_
   refine zV [(1,U.box 0 0),(9,.bool true),(11,.lst .ro 2 (ym (Pl.cat p)))] [] ([SB.box [.int .i64 (Pl.la p),.int .i64 (Pl.lb p),.lst .ro 2 (ym (Pl.cat p))]]) (.cons rfl (.cons rfl (.cons rfl (.nil rfl)))) rfl rfl fun fr=>?_
   refine yB rfl ty66 rfl (List.length_map _) ?_
   refine o_gD rfl rfl rfl rfl rfl (wG rfl rfl rfl (zX rfl rfl rfl ?_))
   refine zA rfl (o_gD rfl rfl rfl rfl (decide_eq_true (by omega)) ?_)
   refine zAw (i:=8) (c:=2) (n:=10) sh24 rfl rfl rfl (decide_eq_true (by omega)) rfl rfl zDd cl24 rfl rfl rfl (gatB 8 (by decide)) rfl ?_
   refine o_gD rfl rfl rfl rfl (decide_eq_true (by omega)) ?_
   refine zF rfl rfl zCl (o_gD rfl rfl rfl rfl (decide_eq_true (by omega)) ?_)
   refine zG rfl rfl rfl sh66 rfl (o_gD rfl rfl rfl rfl (decide_eq_true (by omega)) ?_)
   refine zN rfl (q2) (.lrefl _) ?_
   refine zV [(15,U.bool (decide (↑(List.length (Pl.cat p))=(4:Int)))),(20,U.bool c)] [] ([SB.box [.int .i64 (Pl.la p),.int .i64 (Pl.lb p),.lst .ro 2 (ym (Pl.cat p))]]) (.cons rfl (.cons rfl (.nil rfl))) rfl rfl fun fr=>?_
   refine zX rfl rfl (decide_eq_true (by omega)) ?_
   refine zC rfl (zB (zU ?_))
   refine⟨.inr rfl,_,.cons _ _ _ _ (.tmp 2) .nil,?_⟩
   exact .refl _
  ·rw[decide_eq_false h4,Bool.false_and]
   refine kQ (zr rfl rfl (zC rfl (zB ?_)))
   refine zK [(1,U.box 0 0)] ([SB.box [.int .i64 (Pl.la p),.int .i64 (Pl.lb p),.lst .ro 2 (ym (Pl.cat p))]]) (.cons rfl (.nil rfl)) rfl fun fr=>?_
   refine kQ (o_gpair (i:=7) (c:=2) (n:=10) sh24 rfl rfl zDd cl24 rfl rfl rfl (gatB 7 (by decide)) rfl ?_)
   refine zF rfl rfl zGI (zO rfl rfl rfl sh24 rfl (wX (es:=[U.agg [.int .i64 (Pl.la p),.int .i64 (Pl.lb p)]]) rfl ty66 ze24 cl24 rfl rfl rfl rfl rfl rfl rfl rfl ?_))
   refine zN rfl (q1) (.lcons _ _ _ _ (.refl _) (.lcons _ _ _ _ (.ro _ _ _) (.lrefl _))) ?_
   refine zA rfl (o_gD rfl rfl rfl rfl rfl (zF rfl rfl zCl (o_gD rfl rfl rfl rfl rfl (zG rfl rfl rfl sh66 rfl ?_))))
   refine zV [(1,U.box 0 0),(9,.bool true),(11,.lst .ro 2 (ym (Pl.cat p)))] [] ([SB.box [.int .i64 (Pl.la p),.int .i64 (Pl.lb p),.lst .ro 2 (ym (Pl.cat p))]]) (.cons rfl (.cons rfl (.cons rfl (.nil rfl)))) rfl rfl fun fr=>?_
   refine o_gD rfl rfl rfl rfl rfl ?_
   refine zV [(1,U.box 0 0),(9,.bool true),(11,.lst .ro 2 (ym (Pl.cat p)))] [] ([SB.box [.int .i64 (Pl.la p),.int .i64 (Pl.lb p),.lst .ro 2 (ym (Pl.cat p))]]) (.cons rfl (.cons rfl (.cons rfl (.nil rfl)))) rfl rfl fun fr=>?_
   refine yB rfl ty66 rfl (List.length_map _) ?_
   refine o_gD rfl rfl rfl rfl rfl (wG rfl rfl rfl (zX rfl rfl rfl ?_))
   refine zA rfl (o_gS rfl rfl rfl rfl (decide_eq_false (by omega)) ?_)
   refine o_gS rfl rfl rfl rfl (decide_eq_false (by omega)) ?_
   refine o_gS rfl rfl rfl rfl (decide_eq_false (by omega)) ?_
   refine o_gS rfl rfl rfl rfl (decide_eq_false (by omega)) ?_
   refine o_gS rfl rfl rfl rfl (decide_eq_false (by omega)) ?_
   refine zV [(15,U.bool (decide (↑(List.length (Pl.cat p))=(4:Int)))),(20,U.tup [])] [] ([SB.box [.int .i64 (Pl.la p),.int .i64 (Pl.lb p),.lst .ro 2 (ym (Pl.cat p))]]) (.cons rfl (.cons rfl (.nil rfl))) rfl rfl fun fr=>?_
   refine zR rfl rfl (decide_eq_false (by omega)) ?_
   refine zC rfl (zB (zU ?_))
   refine⟨.inr rfl,_,.cons _ _ _ _ (.tmp 2) .nil,?_⟩
   exact .refl _
end
section
variable {is:FuncId→Bool}{orc:Known}
theorem cl68:Program.cellsOf Tryd.prog 68=3:=by kernel_rfl
theorem yp:zx Tryd.prog 27 0=some (0,3):=by kernel_rfl
theorem zAM:zx Tryd.prog 27 1=some (1,3):=by kernel_rfl
theorem zCD:zx Tryd.prog 27 2=some (2,22):=by kernel_rfl
theorem zGJ:zx Tryd.prog 27 3=some (3,3):=by kernel_rfl
theorem fld27_4:zx Tryd.prog 27 4=some (4,3):=by kernel_rfl
theorem fld27_5:zx Tryd.prog 27 5=some (5,24):=by kernel_rfl
theorem fld27_6:zx Tryd.prog 27 6=some (7,24):=by kernel_rfl
theorem fld27_7:zx Tryd.prog 27 7=some (9,3):=by kernel_rfl
theorem zCC:zx Tryd.prog 27 8=some (10,25):=by kernel_rfl
theorem sh22:shOf Tryd.prog 22=.one:=by kernel_rfl
theorem sh25:shOf Tryd.prog 25=.one:=by kernel_rfl
theorem sh68:shOf Tryd.prog 68=.many 3:=by kernel_rfl
theorem ty25:tyOf Tryd.prog 25=.slice 68:=by kernel_rfl
theorem ze68:yQ Tryd.prog 68=some ((.cons (.int .i64 0) (.cons (.int .i64 0) (.cons .nils .nil))):V):=by kernel_rfl
noncomputable def b58:Code:=(Tryd.f58.body).getD .skip
theorem body58:bodyOf Tryd.prog 58=some (82,b58,[.tmp 2]):=by kernel_rfl
theorem pure58:pureFn Tryd.prog 58=true:=by kernel_rfl
theorem sh27:shOf Tryd.prog 27=.many 11:=by kernel_rfl
noncomputable def b17:Code:=(Tryd.f17.body).getD .skip
theorem body17:bodyOf Tryd.prog 17=some (6,b17,[.tmp 2]):=by kernel_rfl
theorem pure17:pureFn Tryd.prog 17=true:=by kernel_rfl
def vlA(b:Bk):Bool:=decide (b.beats.length=4)&&inS 1 5 b.players.length
def vlB(b:Bk):Bool:=inS 1 8 b.parts&&(inS 1 16 b.size&&(b.beats.all (inS 1 1000)&&([b.start,b.fin].all (inS 0 3)&&(spB 0 128000 ⟨b.tlo,b.thi⟩&&(spB 0 100 ⟨b.slo,b.shi⟩&&inS 1 b.size b.notice)))))
def zDc(b:Bk):Bool:=vlA b&&(b.players.all plB&&vlB b)
set_option maxHeartbeats 16000000 in
theorem ret58(hi:Off is)(b:Bk):RetP Tryd.prog is orc 58 [b.u] (.bool (zDc b)):=by
 refine zw body58 pure58 (hi 58 (by decide)) rfl rfl (zAA (yg b 4)) (.inl (.bool _ _)) ?_
 unfold zDc vlA
 by_cases h4:b.beats.length=4
 ·rw[decide_eq_true h4,Bool.true_and]
  have q5:=ret90 (orc:=orc) hi 1 5 b.players.length
  cases h5:inS 1 5 b.players.length with
  |false=>
   rw[h5]at q5
   rw[Bool.false_and]
   refine kQ (zr rfl rfl (zC rfl (zB ?_)))
   refine zK [(1,U.box 0 0)] ([SB.box [.int .i64 (Bk.parts b),.int .i64 (Bk.size b),.lst .ro 1 (zD (Bk.beats b)),.int .i64 (Bk.start b),.int .i64 (Bk.fin b),.int .i64 (Bk.tlo b),.int .i64 (Bk.thi b),.int .i64 (Bk.slo b),.int .i64 (Bk.shi b),.int .i64 (Bk.notice b),.lst .ro 3 (plsU (Bk.players b))]]) (.cons rfl (.nil rfl)) rfl fun fr=>?_
   refine k_seq (kQ (zF rfl rfl zCD (zG rfl rfl rfl sh22 rfl (yB rfl ty22 rfl (List.length_map _) ?_))))
   refine zAr rfl rfl rfl (zA rfl (o_gD rfl rfl rfl rfl (decide_eq_false (by omega)) (zAw (i:=6) (c:=2) (n:=10) sh24 rfl rfl rfl (decide_eq_false (by omega)) rfl rfl zDd cl24 rfl rfl rfl (gatB 6 (by decide)) rfl ?_)))
   refine o_gD rfl rfl rfl rfl (decide_eq_false (by omega)) (zF rfl rfl zCC (o_gD rfl rfl rfl rfl (decide_eq_false (by omega)) (zG rfl rfl rfl sh25 rfl ?_)))
   refine zV [(1,U.box 0 0),(9,U.bool (decide (↑(List.length (Bk.beats b))≠(4:Int)))),(11,U.agg [.int .i64 (loB 6),.int .i64 (hiB 6)]),(13,.lst .ro 3 (plsU (Bk.players b)))] [] ([SB.box [.int .i64 (Bk.parts b),.int .i64 (Bk.size b),.lst .ro 1 (zD (Bk.beats b)),.int .i64 (Bk.start b),.int .i64 (Bk.fin b),.int .i64 (Bk.tlo b),.int .i64 (Bk.thi b),.int .i64 (Bk.slo b),.int .i64 (Bk.shi b),.int .i64 (Bk.notice b),.lst .ro 3 (plsU (Bk.players b))]]) (.c4 rfl rfl rfl rfl (.nil rfl)) rfl rfl fun fr=>?_
   refine o_gD rfl rfl rfl rfl (decide_eq_false (by omega)) ?_
   refine zV [(1,U.box 0 0),(9,U.bool (decide (↑(List.length (Bk.beats b))≠(4:Int)))),(11,U.agg [.int .i64 (loB 6),.int .i64 (hiB 6)]),(13,.lst .ro 3 (plsU (Bk.players b)))] [] ([SB.box [.int .i64 (Bk.parts b),.int .i64 (Bk.size b),.lst .ro 1 (zD (Bk.beats b)),.int .i64 (Bk.start b),.int .i64 (Bk.fin b),.int .i64 (Bk.tlo b),.int .i64 (Bk.thi b),.int .i64 (Bk.slo b),.int .i64 (Bk.shi b),.int .i64 (Bk.notice b),.lst .ro 3 (plsU (Bk.players b))]]) (.c4 rfl rfl rfl rfl (.nil rfl)) rfl rfl fun fr=>?_
   refine yB rfl ty25 rfl (List.length_map _) ?_
   refine o_gD rfl rfl rfl rfl (decide_eq_false (by omega)) (zN rfl (q5) (.lrefl _) (o_gD rfl rfl rfl rfl (decide_eq_false (by omega)) (wI rfl rfl (zR rfl rfl (decide_eq_false (by omega)) ?_))))
   refine zB ?_
   refine zK [(1,U.box 0 0),(17,U.bool !Bool.false)] ([SB.box [.int .i64 (Bk.parts b),.int .i64 (Bk.size b),.lst .ro 1 (zD (Bk.beats b)),.int .i64 (Bk.start b),.int .i64 (Bk.fin b),.int .i64 (Bk.tlo b),.int .i64 (Bk.thi b),.int .i64 (Bk.slo b),.int .i64 (Bk.shi b),.int .i64 (Bk.notice b),.lst .ro 3 (plsU (Bk.players b))]]) (.cons rfl (.cons rfl (.nil rfl))) rfl fun fr=>?_
   refine k_cT rfl rfl ?_
   refine kQ (zC rfl (zB (zU ?_)))
   refine⟨.inr rfl,_,.cons _ _ _ _ (.tmp 2) .nil,?_⟩
   exact .refl _
  |true=>
   rw[h5]at q5
   rw[Bool.true_and]
   have h5':=h5
   unfold inS at h5'
   rw[Bool.and_eq_true,decide_eq_true_eq,decide_eq_true_eq]at h5'
   refine kQ (zr rfl rfl (zC rfl (zB ?_)))
   refine zK [(1,U.box 0 0)] ([SB.box [.int .i64 (Bk.parts b),.int .i64 (Bk.size b),.lst .ro 1 (zD (Bk.beats b)),.int .i64 (Bk.start b),.int .i64 (Bk.fin b),.int .i64 (Bk.tlo b),.int .i64 (Bk.thi b),.int .i64 (Bk.slo b),.int .i64 (Bk.shi b),.int .i64 (Bk.notice b),.lst .ro 3 (plsU (Bk.players b))]]) (.cons rfl (.nil rfl)) rfl fun fr=>?_
   refine k_seq (kQ (zF rfl rfl zCD (zG rfl rfl rfl sh22 rfl (yB rfl ty22 rfl (List.length_map _) ?_))))
   refine zAr rfl rfl rfl (zA rfl (o_gD rfl rfl rfl rfl (decide_eq_false (by omega)) (zAw (i:=6) (c:=2) (n:=10) sh24 rfl rfl rfl (decide_eq_false (by omega)) rfl rfl zDd cl24 rfl rfl rfl (gatB 6 (by decide)) rfl ?_)))
   refine o_gD rfl rfl rfl rfl (decide_eq_false (by omega)) (zF rfl rfl zCC (o_gD rfl rfl rfl rfl (decide_eq_false (by omega)) (zG rfl rfl rfl sh25 rfl ?_)))
   refine zV [(1,U.box 0 0),(9,U.bool (decide (↑(List.length (Bk.beats b))≠(4:Int)))),(11,U.agg [.int .i64 (loB 6),.int .i64 (hiB 6)]),(13,.lst .ro 3 (plsU (Bk.players b)))] [] ([SB.box [.int .i64 (Bk.parts b),.int .i64 (Bk.size b),.lst .ro 1 (zD (Bk.beats b)),.int .i64 (Bk.start b),.int .i64 (Bk.fin b),.int .i64 (Bk.tlo b),.int .i64 (Bk.thi b),.int .i64 (Bk.slo b),.int .i64 (Bk.shi b),.int .i64 (Bk.notice b),.lst .ro 3 (plsU (Bk.players b))]]) (.c4 rfl rfl rfl rfl (.nil rfl)) rfl rfl fun fr=>?_
   refine o_gD rfl rfl rfl rfl (decide_eq_false (by omega)) ?_
   refine zV [(1,U.box 0 0),(9,U.bool (decide (↑(List.length (Bk.beats b))≠(4:Int)))),(11,U.agg [.int .i64 (loB 6),.int .i64 (hiB 6)]),(13,.lst .ro 3 (plsU (Bk.players b)))] [] ([SB.box [.int .i64 (Bk.parts b),.int .i64 (Bk.size b),.lst .ro 1 (zD (Bk.beats b)),.int .i64 (Bk.start b),.int .i64 (Bk.fin b),.int .i64 (Bk.tlo b),.int .i64 (Bk.thi b),.int .i64 (Bk.slo b),.int .i64 (Bk.shi b),.int .i64 (Bk.notice b),.lst .ro 3 (plsU (Bk.players b))]]) (.c4 rfl rfl rfl rfl (.nil rfl)) rfl rfl fun fr=>?_
   refine yB rfl ty25 rfl (List.length_map _) ?_
   refine o_gD rfl rfl rfl rfl (decide_eq_false (by omega)) (zN rfl (q5) (.lrefl _) (o_gD rfl rfl rfl rfl (decide_eq_false (by omega)) (wI rfl rfl (zR rfl rfl (decide_eq_false (by omega)) ?_))))
   refine zB ?_
   refine zK [(1,U.box 0 0),(17,U.bool !Bool.true)] ([SB.box [.int .i64 (Bk.parts b),.int .i64 (Bk.size b),.lst .ro 1 (zD (Bk.beats b)),.int .i64 (Bk.start b),.int .i64 (Bk.fin b),.int .i64 (Bk.tlo b),.int .i64 (Bk.thi b),.int .i64 (Bk.slo b),.int .i64 (Bk.shi b),.int .i64 (Bk.notice b),.lst .ro 3 (plsU (Bk.players b))]]) (.cons rfl (.cons rfl (.nil rfl))) rfl fun fr=>?_
   refine k_cF rfl rfl ?_
   refine zQ (k_seq (kQ (zF rfl rfl zCC (zG rfl rfl rfl sh25 rfl (yB rfl ty25 rfl (List.length_map _) ?_)))))
   refine zA rfl (zB (zM ?_))
   obtain⟨V,hV⟩:∃V:List SB,V=[.box b.cs]:=⟨_,rfl⟩
   refine yi (fun kk s2=>∃i:Nat,kk+i=b.players.length∧(b.players.take i).all plB=true∧(∃e,s2.st=V++e)∧Holds s2 [(1,.box 0 0),(19,.lst .ro 3 (plsU b.players)),(20,.int .i64 b.players.length),(21,.int .i64 i)]) (fun kk s2 hI=>?_) b.players.length _ ⟨0,rfl,rfl,⟨[],by rw[hV];rfl⟩,.c4 rfl rfl rfl rfl (.nil rfl)⟩
   obtain⟨i,hk,hall,⟨e,hst2⟩,hs2⟩:=hI
   generalize hY:V++e=Y at hst2
   have y0:Y[0]? =some (.box b.cs):=by rw[←hY,hV];rfl
   refine zK _ _ hs2 hst2 fun fr2=>?_
   by_cases hin:i<b.players.length
   ·obtain⟨p,hp⟩:∃p,b.players[i]? =some p:=⟨b.players[i],List.getElem?_eq_getElem hin⟩
    have q91:=ret91 (orc:=orc) hi p
    cases hc:plB p with
    |true=>
     rw[hc]at q91
     refine kQ (zc rfl rfl rfl (zB (k_seq (k_cT rfl (decide_eq_true (by omega)) (zQ (k_seq (zM (kQ ?_))))))))
     refine yb (u:=(p).u) rfl ty25 rfl rfl (Int.natCast_nonneg _) (by simp[hp]) cl68 ?_
     refine zAf rfl rfl sh68 rfl ?_
     refine zu rfl ze68 ?_
     refine zl rfl (zq _ _) sh68 rfl rfl rfl rfl rfl ?_
     refine zB ?_
     refine zK [(1,U.box 0 0),(4,U.box (List.length Y) 0),(19,.lst .ro 3 (plsU (Bk.players b))),(20,.int .i64 ↑(List.length (Bk.players b))),(21,.int .i64 ↑i)] (Y++[SB.box [.int .i64 (Pl.la p),.int .i64 (Pl.lb p),.lst .ro 2 (ym (Pl.cat p))]]) (.c4 rfl rfl rfl rfl (.cons rfl (.nil rfl))) (wD _ _ _) fun fr=>?_
     refine kQ (zO rfl rfl (zq _ _) sh68 rfl ?_)
     refine zN rfl (q91) (.lrefl _) (wI rfl rfl (zB (k_cF rfl rfl ?_)))
     refine zQ (k_region ?_)
     refine yU rfl rfl rfl (by unfold I64;omega) (zA rfl (zB ?_))
     exact⟨kk - 1,by omega,i+1,by omega,all_take hp hall hc,⟨_,by show Y++_=_;exact grow hY⟩,.c4 rfl rfl rfl rfl (.nil rfl)⟩
    |false=>
     rw[hc]at q91
     rw[all_not hp hc,Bool.false_and]
     refine kQ (zc rfl rfl rfl (zB (k_seq (k_cT rfl (decide_eq_true (by omega)) (zQ (k_seq (zM (kQ ?_))))))))
     refine yb (u:=(p).u) rfl ty25 rfl rfl (Int.natCast_nonneg _) (by simp[hp]) cl68 ?_
     refine zAf rfl rfl sh68 rfl ?_
     refine zu rfl ze68 ?_
     refine zl rfl (zq _ _) sh68 rfl rfl rfl rfl rfl ?_
     refine zB ?_
     refine zK [(1,U.box 0 0),(4,U.box (List.length Y) 0),(19,.lst .ro 3 (plsU (Bk.players b))),(20,.int .i64 ↑(List.length (Bk.players b))),(21,.int .i64 ↑i)] (Y++[SB.box [.int .i64 (Pl.la p),.int .i64 (Pl.lb p),.lst .ro 2 (ym (Pl.cat p))]]) (.c4 rfl rfl rfl rfl (.cons rfl (.nil rfl))) (wD _ _ _) fun fr=>?_
     refine kQ (zO rfl rfl (zq _ _) sh68 rfl ?_)
     refine zN rfl (q91) (.lrefl _) (wI rfl rfl (zB (k_cT rfl rfl ?_)))
     refine kQ (zC rfl (zB (zU ?_)))
     refine⟨.inr rfl,_,.cons _ _ _ _ (.tmp 2) .nil,?_⟩
     exact .refl _
   ·have hiN:i=b.players.length:=by omega
    subst hiN
    rw[List.take_length]at hall
    rw[hall,Bool.true_and]
    refine kQ (zc rfl rfl rfl (zB (k_seq (k_cF rfl (decide_eq_false (by omega)) (yX ?_)))))
    unfold vlB
    have c1:=ret90 (orc:=orc) hi 1 8 b.parts
    have c2:=ret90 (orc:=orc) hi 1 16 b.size
    have c3:=ret92 (orc:=orc) hi 1 1000 b.beats (by omega)
    have c4:=ret92 (orc:=orc) hi 0 3 [b.start,b.fin] (by simp)
    have c5:=ret93 (orc:=orc) hi 0 128000 [⟨b.tlo,b.thi⟩] (by simp)
    have c6:=ret93 (orc:=orc) hi 0 100 [⟨b.slo,b.shi⟩] (by simp)
    have c7:=ret90 (orc:=orc) hi 1 b.size b.notice
    rw[show [(⟨b.tlo,b.thi⟩:Two)].all (spB 0 128000)=spB 0 128000 ⟨b.tlo,b.thi⟩ by simp]at c5
    rw[show [(⟨b.slo,b.shi⟩:Two)].all (spB 0 100)=spB 0 100 ⟨b.slo,b.shi⟩ by simp]at c6
    generalize inS 1 8 b.parts=z1 at c1
    generalize inS 1 16 b.size=z2 at c2
    generalize b.beats.all (inS 1 1000)=z3 at c3
    generalize [b.start,b.fin].all (inS 0 3)=z4 at c4
    generalize spB 0 128000 ⟨b.tlo,b.thi⟩=z5 at c5
    generalize spB 0 100 ⟨b.slo,b.shi⟩=z6 at c6
    generalize inS 1 b.size b.notice=z7 at c7
    refine kQ (o_gpair (i:=0) (c:=2) (n:=10) sh24 rfl rfl zDd cl24 rfl rfl rfl (gatB 0 (by decide)) rfl ?_)
    refine zF rfl rfl yp (zG rfl rfl y0 sh3 rfl ?_)
    refine zN rfl (c1) (.lrefl _) (zA rfl ?_)
    refine zBy rfl rfl rfl rfl (fun h34=>?_) (fun h34=>?_)
    ·refine zAw (i:=1) (c:=2) (n:=10) sh24 rfl rfl rfl (by assumption) rfl rfl zDd cl24 rfl rfl rfl (gatB 1 (by decide)) rfl ?_
     refine o_gD rfl rfl rfl rfl (by assumption) (zF rfl rfl zAM ?_)
     refine zV [(1,U.box 0 0),(34,U.bool z1),(36,U.agg [.int .i64 (loB 1),.int .i64 (hiB 1)]),(37,U.box 0 1)] [] (Y) (.c4 rfl rfl rfl rfl (.nil rfl)) rfl rfl fun fr=>?_
     refine o_gD rfl rfl rfl rfl (by assumption) ?_
     refine zV [(1,U.box 0 0),(34,U.bool z1),(36,U.agg [.int .i64 (loB 1),.int .i64 (hiB 1)]),(37,U.box 0 1)] [] (Y) (.c4 rfl rfl rfl rfl (.nil rfl)) rfl rfl fun fr=>?_
     refine zG rfl rfl y0 sh3 rfl ?_
     refine o_gD rfl rfl rfl rfl (by assumption) (zN rfl (c2) (.lrefl _) (zX rfl rfl (by assumption) ?_))
     refine zA rfl ?_
     refine zBy rfl rfl rfl rfl (fun h41=>?_) (fun h41=>?_)
     ·refine zAw (i:=2) (c:=2) (n:=10) sh24 rfl rfl rfl (by assumption) rfl rfl zDd cl24 rfl rfl rfl (gatB 2 (by decide)) rfl ?_
      refine o_gD rfl rfl rfl rfl (by assumption) (zF rfl rfl zCD (o_gD rfl rfl rfl rfl (by assumption) (zG rfl rfl y0 sh22 rfl ?_)))
      refine o_gD rfl rfl rfl rfl (by assumption) (zN rfl (c3) (.lrefl _) ?_)
      refine zV [(1,U.box 0 0),(41,U.bool z2),(46,U.bool z3)] [] (Y) (.cons rfl (.cons rfl (.cons rfl (.nil rfl)))) rfl rfl fun fr=>?_
      refine zX rfl rfl (by assumption) ?_
      refine zA rfl ?_
      refine zBy rfl rfl rfl rfl (fun h48=>?_) (fun h48=>?_)
      ·refine zAw (i:=3) (c:=2) (n:=10) sh24 rfl rfl rfl (by assumption) rfl rfl zDd cl24 rfl rfl rfl (gatB 3 (by decide)) rfl ?_
       refine o_gD rfl rfl rfl rfl (by assumption) (zF rfl rfl zGJ (o_gD rfl rfl rfl rfl (by assumption) (zG rfl rfl y0 sh3 rfl ?_)))
       refine o_gD rfl rfl rfl rfl (by assumption) (zF rfl rfl fld27_4 (o_gD rfl rfl rfl rfl (by assumption) (zG rfl rfl y0 sh3 rfl ?_)))
       refine o_gD rfl rfl rfl rfl (by assumption) (wX (es:=[.int .i64 (Bk.start b),.int .i64 (Bk.fin b)]) rfl ty22 ze3 cl3 rfl rfl rfl rfl rfl rfl rfl rfl ?_)
       refine zV [(1,U.box 0 0),(48,U.bool z3),(50,U.agg [.int .i64 (loB 3),.int .i64 (hiB 3)]),(55,.lst .full 1 [.int .i64 (Bk.start b),.int .i64 (Bk.fin b)])] [] (Y) (.c4 rfl rfl rfl rfl (.nil rfl)) rfl rfl fun fr=>?_
       refine o_gD rfl rfl rfl rfl (by assumption) ?_
       refine zV [(1,U.box 0 0),(48,U.bool z3),(50,U.agg [.int .i64 (loB 3),.int .i64 (hiB 3)]),(55,.lst .full 1 [.int .i64 (Bk.start b),.int .i64 (Bk.fin b)])] [] (Y) (.c4 rfl rfl rfl rfl (.nil rfl)) rfl rfl fun fr=>?_
       refine zN rfl (c4) (.lcons _ _ _ _ (.refl _) (.lcons _ _ _ _ (.ro _ _ _) (.lrefl _))) ?_
       refine zX rfl rfl (by assumption) ?_
       refine zA rfl ?_
       refine zBy rfl rfl rfl rfl (fun h58=>?_) (fun h58=>?_)
       ·refine zAw (i:=4) (c:=2) (n:=10) sh24 rfl rfl rfl (by assumption) rfl rfl zDd cl24 rfl rfl rfl (gatB 4 (by decide)) rfl ?_
        refine o_gD rfl rfl rfl rfl (by assumption) (zF rfl rfl fld27_5 (o_gD rfl rfl rfl rfl (by assumption) (zO rfl rfl y0 sh24 rfl ?_)))
        refine o_gD rfl rfl rfl rfl (by assumption) (wX (es:=[U.agg [.int .i64 (Bk.tlo b),.int .i64 (Bk.thi b)]]) rfl ty66 ze24 cl24 rfl rfl rfl rfl rfl rfl rfl rfl ?_)
        refine o_gD rfl rfl rfl rfl (by assumption) (zN rfl (c5) (.lcons _ _ _ _ (.refl _) (.lcons _ _ _ _ (.ro _ _ _) (.lrefl _))) ?_)
        refine zV [(1,U.box 0 0),(58,U.bool z4),(64,U.bool z5)] [] (Y) (.cons rfl (.cons rfl (.cons rfl (.nil rfl)))) rfl rfl fun fr=>?_
        refine zX rfl rfl (by assumption) ?_
        refine zA rfl ?_
        refine zBy rfl rfl rfl rfl (fun h66=>?_) (fun h66=>?_)
        ·refine zAw (i:=5) (c:=2) (n:=10) sh24 rfl rfl rfl (by assumption) rfl rfl zDd cl24 rfl rfl rfl (gatB 5 (by decide)) rfl ?_
         refine o_gD rfl rfl rfl rfl (by assumption) (zF rfl rfl fld27_6 (o_gD rfl rfl rfl rfl (by assumption) (zO rfl rfl y0 sh24 rfl ?_)))
         refine o_gD rfl rfl rfl rfl (by assumption) (wX (es:=[U.agg [.int .i64 (Bk.slo b),.int .i64 (Bk.shi b)]]) rfl ty66 ze24 cl24 rfl rfl rfl rfl rfl rfl rfl rfl ?_)
         refine o_gD rfl rfl rfl rfl (by assumption) (zN rfl (c6) (.lcons _ _ _ _ (.refl _) (.lcons _ _ _ _ (.ro _ _ _) (.lrefl _))) ?_)
         refine zX rfl rfl (by assumption) ?_
         refine zV [(1,U.box 0 0),(73,U.bool z6)] [] (Y) (.cons rfl (.cons rfl (.nil rfl))) rfl rfl fun fr=>?_
         refine zA rfl ?_
         refine zBy rfl rfl rfl rfl (fun h74=>?_) (fun h74=>?_)
         ·refine zF rfl rfl zAM ?_
          refine o_gD rfl rfl rfl rfl (by assumption) (zG rfl rfl y0 sh3 rfl ?_)
          refine o_gD rfl rfl rfl rfl (by assumption) (wT rfl ze24 pl24 rfl rfl ?_)
          refine o_gD rfl rfl rfl rfl (by assumption) (zF rfl rfl fld27_7 (o_gD rfl rfl rfl rfl (by assumption) (zG rfl rfl y0 sh3 rfl ?_)))
          refine o_gD rfl rfl rfl rfl (by assumption) (zN rfl (c7) (.lrefl _) (zX rfl rfl (by assumption) ?_))
          refine zC rfl (zB (zU ?_))
          refine⟨.inr rfl,_,.cons _ _ _ _ (.tmp 2) .nil,?_⟩
          subst_vars;exact .refl _
         ·refine o_gS rfl rfl rfl rfl (by assumption) ?_
          refine o_gS rfl rfl rfl rfl (by assumption) (o_gS rfl rfl rfl rfl (by assumption) (o_gS rfl rfl rfl rfl (by assumption) (o_gS rfl rfl rfl rfl (by assumption) (zR rfl rfl (by assumption) ?_))))
          refine zC rfl (zB (zU ?_))
          refine⟨.inr rfl,_,.cons _ _ _ _ (.tmp 2) .nil,?_⟩
          subst_vars;exact .refl _
        ·refine o_gS rfl rfl rfl rfl (by assumption) ?_
         refine o_gS rfl rfl rfl rfl (by assumption) (o_gS rfl rfl rfl rfl (by assumption) (o_gS rfl rfl rfl rfl (by assumption) (o_gS rfl rfl rfl rfl (by assumption) (zR rfl rfl (by assumption) ?_))))
         refine zV [(1,U.box 0 0),(73,.bool false)] [] (Y) (.cons rfl (.cons rfl (.nil rfl))) rfl rfl fun fr=>?_
         refine zA rfl (o_gS rfl rfl rfl rfl rfl (o_gS rfl rfl rfl rfl rfl (o_gS rfl rfl rfl rfl rfl (o_gS rfl rfl rfl rfl rfl (o_gS rfl rfl rfl rfl rfl (o_gS rfl rfl rfl rfl rfl (zR rfl rfl rfl ?_)))))))
         refine zC rfl (zB (zU ?_))
         refine⟨.inr rfl,_,.cons _ _ _ _ (.tmp 2) .nil,?_⟩
         subst_vars;exact .refl _
       ·refine o_gS rfl rfl rfl rfl (by assumption) ?_
        refine o_gS rfl rfl rfl rfl (by assumption) (o_gS rfl rfl rfl rfl (by assumption) (o_gS rfl rfl rfl rfl (by assumption) (o_gS rfl rfl rfl rfl (by assumption) ?_)))
        refine zV [(1,U.box 0 0),(58,U.bool z4),(64,U.tup [])] [] (Y) (.cons rfl (.cons rfl (.cons rfl (.nil rfl)))) rfl rfl fun fr=>?_
        refine zR rfl rfl (by assumption) ?_
        refine zA rfl (o_gS rfl rfl rfl rfl rfl (o_gS rfl rfl rfl rfl rfl (o_gS rfl rfl rfl rfl rfl (o_gS rfl rfl rfl rfl rfl (o_gS rfl rfl rfl rfl rfl (o_gS rfl rfl rfl rfl rfl (zR rfl rfl rfl ?_)))))))
        refine zV [(1,U.box 0 0),(73,.bool false)] [] (Y) (.cons rfl (.cons rfl (.nil rfl))) rfl rfl fun fr=>?_
        refine zA rfl (o_gS rfl rfl rfl rfl rfl (o_gS rfl rfl rfl rfl rfl (o_gS rfl rfl rfl rfl rfl (o_gS rfl rfl rfl rfl rfl (o_gS rfl rfl rfl rfl rfl (o_gS rfl rfl rfl rfl rfl (zR rfl rfl rfl ?_)))))))
        refine zC rfl (zB (zU ?_))
        refine⟨.inr rfl,_,.cons _ _ _ _ (.tmp 2) .nil,?_⟩
        subst_vars;exact .refl _
      ·refine o_gS rfl rfl rfl rfl (by assumption) ?_
       refine o_gS rfl rfl rfl rfl (by assumption) (o_gS rfl rfl rfl rfl (by assumption) (o_gS rfl rfl rfl rfl (by assumption) (o_gS rfl rfl rfl rfl (by assumption) (o_gS rfl rfl rfl rfl (by assumption) ?_))))
       refine zV [(1,U.box 0 0),(48,U.bool z3),(50,U.tup []),(55,U.tup [])] [] (Y) (.c4 rfl rfl rfl rfl (.nil rfl)) rfl rfl fun fr=>?_
       refine o_gS rfl rfl rfl rfl (by assumption) (zR rfl rfl (by assumption) ?_)
       refine zA rfl (o_gS rfl rfl rfl rfl rfl (o_gS rfl rfl rfl rfl rfl (o_gS rfl rfl rfl rfl rfl (o_gS rfl rfl rfl rfl rfl (o_gS rfl rfl rfl rfl rfl (o_gS rfl rfl rfl rfl rfl ?_))))))
       refine zV [(1,U.box 0 0),(58,.bool false),(64,U.tup [])] [] (Y) (.cons rfl (.cons rfl (.cons rfl (.nil rfl)))) rfl rfl fun fr=>?_
       refine zR rfl rfl rfl ?_
       refine zA rfl (o_gS rfl rfl rfl rfl rfl (o_gS rfl rfl rfl rfl rfl (o_gS rfl rfl rfl rfl rfl (o_gS rfl rfl rfl rfl rfl (o_gS rfl rfl rfl rfl rfl (o_gS rfl rfl rfl rfl rfl (zR rfl rfl rfl ?_)))))))
       refine zV [(1,U.box 0 0),(73,.bool false)] [] (Y) (.cons rfl (.cons rfl (.nil rfl))) rfl rfl fun fr=>?_
       refine zA rfl (o_gS rfl rfl rfl rfl rfl (o_gS rfl rfl rfl rfl rfl (o_gS rfl rfl rfl rfl rfl (o_gS rfl rfl rfl rfl rfl (o_gS rfl rfl rfl rfl rfl (o_gS rfl rfl rfl rfl rfl (zR rfl rfl rfl ?_)))))))
       refine zC rfl (zB (zU ?_))
       refine⟨.inr rfl,_,.cons _ _ _ _ (.tmp 2) .nil,?_⟩
       subst_vars;exact .refl _
     ·refine o_gS rfl rfl rfl rfl (by assumption) ?_
      refine o_gS rfl rfl rfl rfl (by assumption) (o_gS rfl rfl rfl rfl (by assumption) (o_gS rfl rfl rfl rfl (by assumption) ?_))
      refine zV [(1,U.box 0 0),(41,U.bool z2),(46,U.tup [])] [] (Y) (.cons rfl (.cons rfl (.cons rfl (.nil rfl)))) rfl rfl fun fr=>?_
      refine zR rfl rfl (by assumption) ?_
      refine zA rfl (o_gS rfl rfl rfl rfl rfl (o_gS rfl rfl rfl rfl rfl (o_gS rfl rfl rfl rfl rfl (o_gS rfl rfl rfl rfl rfl (o_gS rfl rfl rfl rfl rfl (o_gS rfl rfl rfl rfl rfl (o_gS rfl rfl rfl rfl rfl ?_)))))))
      refine zV [(1,U.box 0 0),(48,.bool false),(50,U.tup []),(55,U.tup [])] [] (Y) (.c4 rfl rfl rfl rfl (.nil rfl)) rfl rfl fun fr=>?_
      refine o_gS rfl rfl rfl rfl rfl (zR rfl rfl rfl ?_)
      refine zA rfl (o_gS rfl rfl rfl rfl rfl (o_gS rfl rfl rfl rfl rfl (o_gS rfl rfl rfl rfl rfl (o_gS rfl rfl rfl rfl rfl (o_gS rfl rfl rfl rfl rfl (o_gS rfl rfl rfl rfl rfl ?_))))))
      refine zV [(1,U.box 0 0),(58,.bool false),(64,U.tup [])] [] (Y) (.cons rfl (.cons rfl (.cons rfl (.nil rfl)))) rfl rfl fun fr=>?_
      refine zR rfl rfl rfl ?_
      refine zA rfl (o_gS rfl rfl rfl rfl rfl (o_gS rfl rfl rfl rfl rfl (o_gS rfl rfl rfl rfl rfl (o_gS rfl rfl rfl rfl rfl (o_gS rfl rfl rfl rfl rfl (o_gS rfl rfl rfl rfl rfl (zR rfl rfl rfl ?_)))))))
      refine zV [(1,U.box 0 0),(73,.bool false)] [] (Y) (.cons rfl (.cons rfl (.nil rfl))) rfl rfl fun fr=>?_
      refine zA rfl (o_gS rfl rfl rfl rfl rfl (o_gS rfl rfl rfl rfl rfl (o_gS rfl rfl rfl rfl rfl (o_gS rfl rfl rfl rfl rfl (o_gS rfl rfl rfl rfl rfl (o_gS rfl rfl rfl rfl rfl (zR rfl rfl rfl ?_)))))))
      refine zC rfl (zB (zU ?_))
      refine⟨.inr rfl,_,.cons _ _ _ _ (.tmp 2) .nil,?_⟩
      subst_vars;exact .refl _
    ·refine o_gS rfl rfl rfl rfl (by assumption) ?_
     refine o_gS rfl rfl rfl rfl (by assumption) ?_
     refine zV [(1,U.box 0 0),(34,U.bool z1),(36,U.tup []),(37,U.tup [])] [] (Y) (.c4 rfl rfl rfl rfl (.nil rfl)) rfl rfl fun fr=>?_
     refine o_gS rfl rfl rfl rfl (by assumption) (o_gS rfl rfl rfl rfl (by assumption) (zR rfl rfl (by assumption) ?_))
     refine zA rfl (o_gS rfl rfl rfl rfl rfl (o_gS rfl rfl rfl rfl rfl (o_gS rfl rfl rfl rfl rfl (o_gS rfl rfl rfl rfl rfl (o_gS rfl rfl rfl rfl rfl ?_)))))
     refine zV [(1,U.box 0 0),(41,.bool false),(46,U.tup [])] [] (Y) (.cons rfl (.cons rfl (.cons rfl (.nil rfl)))) rfl rfl fun fr=>?_
     refine zR rfl rfl rfl ?_
     refine zA rfl (o_gS rfl rfl rfl rfl rfl (o_gS rfl rfl rfl rfl rfl (o_gS rfl rfl rfl rfl rfl (o_gS rfl rfl rfl rfl rfl (o_gS rfl rfl rfl rfl rfl (o_gS rfl rfl rfl rfl rfl (o_gS rfl rfl rfl rfl rfl ?_)))))))
     refine zV [(1,U.box 0 0),(48,.bool false),(50,U.tup []),(55,U.tup [])] [] (Y) (.c4 rfl rfl rfl rfl (.nil rfl)) rfl rfl fun fr=>?_
     refine o_gS rfl rfl rfl rfl rfl (zR rfl rfl rfl ?_)
     refine zA rfl (o_gS rfl rfl rfl rfl rfl (o_gS rfl rfl rfl rfl rfl (o_gS rfl rfl rfl rfl rfl (o_gS rfl rfl rfl rfl rfl (o_gS rfl rfl rfl rfl rfl (o_gS rfl rfl rfl rfl rfl ?_))))))
     refine zV [(1,U.box 0 0),(58,.bool false),(64,U.tup [])] [] (Y) (.cons rfl (.cons rfl (.cons rfl (.nil rfl)))) rfl rfl fun fr=>?_
     refine zR rfl rfl rfl ?_
     refine zA rfl (o_gS rfl rfl rfl rfl rfl (o_gS rfl rfl rfl rfl rfl (o_gS rfl rfl rfl rfl rfl (o_gS rfl rfl rfl rfl rfl (o_gS rfl rfl rfl rfl rfl (o_gS rfl rfl rfl rfl rfl (zR rfl rfl rfl ?_)))))))
     refine zV [(1,U.box 0 0),(73,.bool false)] [] (Y) (.cons rfl (.cons rfl (.nil rfl))) rfl rfl fun fr=>?_
     refine zA rfl (o_gS rfl rfl rfl rfl rfl (o_gS rfl rfl rfl rfl rfl (o_gS rfl rfl rfl rfl rfl (o_gS rfl rfl rfl rfl rfl (o_gS rfl rfl rfl rfl rfl (o_gS rfl rfl rfl rfl rfl (zR rfl rfl rfl ?_)))))))
     refine zC rfl (zB (zU ?_))
     refine⟨.inr rfl,_,.cons _ _ _ _ (.tmp 2) .nil,?_⟩
     subst_vars;exact .refl _
 ·rw[decide_eq_false h4,Bool.false_and]
  refine kQ (zr rfl rfl (zC rfl (zB ?_)))
  refine zK [(1,U.box 0 0)] ([SB.box [.int .i64 (Bk.parts b),.int .i64 (Bk.size b),.lst .ro 1 (zD (Bk.beats b)),.int .i64 (Bk.start b),.int .i64 (Bk.fin b),.int .i64 (Bk.tlo b),.int .i64 (Bk.thi b),.int .i64 (Bk.slo b),.int .i64 (Bk.shi b),.int .i64 (Bk.notice b),.lst .ro 3 (plsU (Bk.players b))]]) (.cons rfl (.nil rfl)) rfl fun fr=>?_
  refine k_seq (kQ (zF rfl rfl zCD (zG rfl rfl rfl sh22 rfl (yB rfl ty22 rfl (List.length_map _) ?_))))
  refine zAr rfl rfl rfl (zA rfl (o_gS rfl rfl rfl rfl (decide_eq_true (by omega)) (o_gS rfl rfl rfl rfl (decide_eq_true (by omega)) (o_gS rfl rfl rfl rfl (decide_eq_true (by omega)) (o_gS rfl rfl rfl rfl (decide_eq_true (by omega)) ?_)))))
  refine zV [(1,U.box 0 0),(9,U.bool (decide (↑(List.length (Bk.beats b))≠(4:Int)))),(11,U.tup []),(13,U.tup [])] [] ([SB.box [.int .i64 (Bk.parts b),.int .i64 (Bk.size b),.lst .ro 1 (zD (Bk.beats b)),.int .i64 (Bk.start b),.int .i64 (Bk.fin b),.int .i64 (Bk.tlo b),.int .i64 (Bk.thi b),.int .i64 (Bk.slo b),.int .i64 (Bk.shi b),.int .i64 (Bk.notice b),.lst .ro 3 (plsU (Bk.players b))]]) (.c4 rfl rfl rfl rfl (.nil rfl)) rfl rfl fun fr=>?_
  refine o_gS rfl rfl rfl rfl (decide_eq_true (by omega)) (o_gS rfl rfl rfl rfl (decide_eq_true (by omega)) (o_gS rfl rfl rfl rfl (decide_eq_true (by omega)) (zX rfl rfl (decide_eq_true (by omega)) ?_)))
  refine zB ?_
  refine zK [(1,U.box 0 0),(17,.bool true)] ([SB.box [.int .i64 (Bk.parts b),.int .i64 (Bk.size b),.lst .ro 1 (zD (Bk.beats b)),.int .i64 (Bk.start b),.int .i64 (Bk.fin b),.int .i64 (Bk.tlo b),.int .i64 (Bk.thi b),.int .i64 (Bk.slo b),.int .i64 (Bk.shi b),.int .i64 (Bk.notice b),.lst .ro 3 (plsU (Bk.players b))]]) (.cons rfl (.cons rfl (.nil rfl))) rfl fun fr=>?_
  refine k_cT rfl rfl ?_
  refine kQ (zC rfl (zB (zU ?_)))
  refine⟨.inr rfl,_,.cons _ _ _ _ (.tmp 2) .nil,?_⟩
  exact .refl _
theorem ret17(hi:Off is)(b:Bk):RetP Tryd.prog is orc 17 [b.u] (.int .i64 (if zDc b=true then 0 else 80)):=by
 have q58:=ret58 (orc:=orc) hi b
 refine zw body17 pure17 (hi 17 (by decide)) rfl rfl (zAA (yg b 4)) (.inl (.int _ _ _)) ?_
 cases hv:zDc b with
 |true=>
  rw[hv]at q58
  rw[if_pos rfl]
  refine kQ (zr rfl rfl (zC rfl (zB ?_)))
  refine zK [(1,U.box 0 0)] ([SB.box [.int .i64 (Bk.parts b),.int .i64 (Bk.size b),.lst .ro 1 (zD (Bk.beats b)),.int .i64 (Bk.start b),.int .i64 (Bk.fin b),.int .i64 (Bk.tlo b),.int .i64 (Bk.thi b),.int .i64 (Bk.slo b),.int .i64 (Bk.shi b),.int .i64 (Bk.notice b),.lst .ro 3 (plsU (Bk.players b))]]) (.cons rfl (.nil rfl)) rfl fun fr=>?_
  refine k_seq (kQ (zO rfl rfl rfl sh27 rfl (zN rfl (q58) (.lrefl _) (wI rfl rfl (zB (k_cF rfl rfl ?_))))))
  refine zQ (kQ (zC rfl (zB (zU ?_))))
  refine⟨.inr rfl,_,.cons _ _ _ _ (.tmp 2) .nil,?_⟩
  exact .refl _
 |false=>
  rw[hv]at q58
  rw[if_neg (by decide)]
  refine kQ (zr rfl rfl (zC rfl (zB ?_)))
  refine zK [(1,U.box 0 0)] ([SB.box [.int .i64 (Bk.parts b),.int .i64 (Bk.size b),.lst .ro 1 (zD (Bk.beats b)),.int .i64 (Bk.start b),.int .i64 (Bk.fin b),.int .i64 (Bk.tlo b),.int .i64 (Bk.thi b),.int .i64 (Bk.slo b),.int .i64 (Bk.shi b),.int .i64 (Bk.notice b),.lst .ro 3 (plsU (Bk.players b))]]) (.cons rfl (.nil rfl)) rfl fun fr=>?_
  refine k_seq (kQ (zO rfl rfl rfl sh27 rfl (zN rfl (q58) (.lrefl _) (wI rfl rfl (zB (k_cT rfl rfl ?_))))))
  refine kQ (zC rfl (zB (zU ?_)))
  refine⟨.inr rfl,_,.cons _ _ _ _ (.tmp 2) .nil,?_⟩
  exact .refl _
end
section
variable {is:FuncId→Bool}{orc:Known}
noncomputable def b38:Code:=(Tryd.f38.body).getD .skip
theorem body38:bodyOf Tryd.prog 38=some (117,b38,[.tmp 2]):=by kernel_rfl
theorem pure38:pureFn Tryd.prog 38=true:=by kernel_rfl
structure BOk(b:Bk):Prop where
 n4:b.beats.length=4
 pn:1≤b.players.length∧b.players.length≤5
 pl:∀p∈b.players,(0≤p.la∧p.la≤p.lb∧p.lb≤500)∧p.cat.length=4∧∀c∈p.cat,0≤c.a∧c.a≤c.b∧c.b≤100
 pa:1≤b.parts∧b.parts≤8
 sz:1≤b.size∧b.size≤16
 bt:∀x∈b.beats,1≤x∧x≤1000
 st:0≤b.start∧b.start≤3
 fi:0≤b.fin∧b.fin≤3
 ti:0≤b.tlo∧b.tlo≤b.thi∧b.thi≤128000
 sl:0≤b.slo∧b.slo≤b.shi∧b.shi≤100
 no:1≤b.notice∧b.notice≤b.size
theorem zDZ{a b n:Int}:inS a b n=true↔a≤n∧n≤b:=by
 unfold inS
 rw[Bool.and_eq_true,decide_eq_true_eq,decide_eq_true_eq]
theorem spB_iff{a b:Int}{q:Two}:spB a b q=true↔a≤q.a∧q.a≤q.b∧q.b≤b:=by
 unfold spB
 simp only[List.all_cons,List.all_nil,Bool.and_true,Bool.and_eq_true,decide_eq_true_eq,zDZ]
 omega
theorem plB_iff{p:Pl}:plB p=true↔(0≤p.la∧p.la≤p.lb∧p.lb≤500)∧p.cat.length=4∧∀c∈p.cat,0≤c.a∧c.a≤c.b∧c.b≤100:=by
 unfold plB
 rw[Bool.and_eq_true,Bool.and_eq_true,spB_iff,decide_eq_true_eq,List.all_eq_true]
 simp only[spB_iff]
theorem zCX(b:Bk):zDc b=true↔BOk b:=by
 unfold zDc vlA vlB
 simp only[Bool.and_eq_true,decide_eq_true_eq,List.all_eq_true,zDZ,plB_iff,spB_iff]
 constructor
 ·rintro⟨⟨h1,h2⟩,h3,h4,h5,h6,h7,h8,h9,h10⟩
  have h7a:=h7 b.start (by simp)
  have h7b:=h7 b.fin (by simp)
  exact⟨h1,by omega,h3,h4,h5,h6,h7a,h7b,h8,h9,h10⟩
 ·intro h
  refine⟨⟨h.n4,by have:=h.pn;omega⟩,h.pl,h.pa,h.sz,h.bt,fun x hx=>?_,h.ti,h.sl,h.no⟩
  simp only[List.mem_cons,List.not_mem_nil,or_false]at hx
  rcases hx with rfl|rfl
  ·exact h.st
  ·exact h.fi
theorem good_t{a b lo hi:Int}:goodB a b lo hi=true↔lo≤a∧a≤b∧b≤hi:=by
 unfold goodB
 simp only[Bool.and_eq_true,decide_eq_true_eq]
set_option maxHeartbeats 16000000 in
theorem ret38(hi:Off is)(b:Bk):RetP Tryd.prog is orc 38 [b.u] (.bool (zDc b)):=by
 have q17:=ret17 (orc:=orc) hi b
 refine zw body38 pure38 (hi 38 (by decide)) rfl rfl (zAA (yg b 4)) (.inl (.bool _ _)) ?_
 cases hv:zDc b with
 |false=>
  rw[hv,if_neg (by decide)]at q17
  refine kQ (zr rfl rfl (zC rfl (zB ?_)))
  refine zK [(1,U.box 0 0)] ([SB.box [.int .i64 (Bk.parts b),.int .i64 (Bk.size b),.lst .ro 1 (zD (Bk.beats b)),.int .i64 (Bk.start b),.int .i64 (Bk.fin b),.int .i64 (Bk.tlo b),.int .i64 (Bk.thi b),.int .i64 (Bk.slo b),.int .i64 (Bk.shi b),.int .i64 (Bk.notice b),.lst .ro 3 (plsU (Bk.players b))]]) (.cons rfl (.nil rfl)) rfl fun fr=>?_
  refine kQ (zO rfl rfl rfl sh27 rfl (zN rfl (q17) (.lrefl _) (wG rfl rfl rfl (zA rfl (o_gS rfl rfl rfl rfl rfl (o_gS rfl rfl rfl rfl rfl (o_gS rfl rfl rfl rfl rfl (zR rfl rfl rfl ?_))))))))
  refine zA rfl ?_
  refine zV [(1,U.box 0 0),(16,.bool false)] [] ([SB.box [.int .i64 (Bk.parts b),.int .i64 (Bk.size b),.lst .ro 1 (zD (Bk.beats b)),.int .i64 (Bk.start b),.int .i64 (Bk.fin b),.int .i64 (Bk.tlo b),.int .i64 (Bk.thi b),.int .i64 (Bk.slo b),.int .i64 (Bk.shi b),.int .i64 (Bk.notice b),.lst .ro 3 (plsU (Bk.players b))]]) (.cons rfl (.cons rfl (.nil rfl))) rfl rfl fun fr=>?_
  refine o_gS rfl rfl rfl rfl rfl (o_gS rfl rfl rfl rfl rfl (o_gS rfl rfl rfl rfl rfl (zR rfl rfl rfl ?_)))
  refine zA rfl (o_gS rfl rfl rfl rfl rfl (o_gS rfl rfl rfl rfl rfl (o_gS rfl rfl rfl rfl rfl (o_gS rfl rfl rfl rfl rfl ?_))))
  refine zV [(1,U.box 0 0),(21,.bool false),(25,U.tup [])] [] ([SB.box [.int .i64 (Bk.parts b),.int .i64 (Bk.size b),.lst .ro 1 (zD (Bk.beats b)),.int .i64 (Bk.start b),.int .i64 (Bk.fin b),.int .i64 (Bk.tlo b),.int .i64 (Bk.thi b),.int .i64 (Bk.slo b),.int .i64 (Bk.shi b),.int .i64 (Bk.notice b),.lst .ro 3 (plsU (Bk.players b))]]) (.cons rfl (.cons rfl (.cons rfl (.nil rfl)))) rfl rfl fun fr=>?_
  refine zR rfl rfl rfl ?_
  refine zA rfl (o_gS rfl rfl rfl rfl rfl (o_gS rfl rfl rfl rfl rfl (o_gS rfl rfl rfl rfl rfl (zR rfl rfl rfl ?_))))
  refine zA rfl (o_gS rfl rfl rfl rfl rfl (o_gS rfl rfl rfl rfl rfl ?_))
  refine zV [(1,U.box 0 0),(32,.bool false),(34,U.tup [])] [] ([SB.box [.int .i64 (Bk.parts b),.int .i64 (Bk.size b),.lst .ro 1 (zD (Bk.beats b)),.int .i64 (Bk.start b),.int .i64 (Bk.fin b),.int .i64 (Bk.tlo b),.int .i64 (Bk.thi b),.int .i64 (Bk.slo b),.int .i64 (Bk.shi b),.int .i64 (Bk.notice b),.lst .ro 3 (plsU (Bk.players b))]]) (.cons rfl (.cons rfl (.cons rfl (.nil rfl)))) rfl rfl fun fr=>?_
  refine o_gS rfl rfl rfl rfl rfl (zR rfl rfl rfl ?_)
  refine zA rfl (o_gS rfl rfl rfl rfl rfl (o_gS rfl rfl rfl rfl rfl (o_gS rfl rfl rfl rfl rfl (zR rfl rfl rfl ?_))))
  refine zA rfl (o_gS rfl rfl rfl rfl rfl ?_)
  refine zV [(1,U.box 0 0),(42,.bool false),(43,U.tup [])] [] ([SB.box [.int .i64 (Bk.parts b),.int .i64 (Bk.size b),.lst .ro 1 (zD (Bk.beats b)),.int .i64 (Bk.start b),.int .i64 (Bk.fin b),.int .i64 (Bk.tlo b),.int .i64 (Bk.thi b),.int .i64 (Bk.slo b),.int .i64 (Bk.shi b),.int .i64 (Bk.notice b),.lst .ro 3 (plsU (Bk.players b))]]) (.cons rfl (.cons rfl (.cons rfl (.nil rfl)))) rfl rfl fun fr=>?_
  refine o_gS rfl rfl rfl rfl rfl (o_gS rfl rfl rfl rfl rfl (zR rfl rfl rfl ?_))
  refine zA rfl (o_gS rfl rfl rfl rfl rfl (o_gS rfl rfl rfl rfl rfl (o_gS rfl rfl rfl rfl rfl (o_gS rfl rfl rfl rfl rfl (o_gS rfl rfl rfl rfl rfl ?_)))))
  refine zV [(1,U.box 0 0),(47,.bool false),(52,U.tup [])] [] ([SB.box [.int .i64 (Bk.parts b),.int .i64 (Bk.size b),.lst .ro 1 (zD (Bk.beats b)),.int .i64 (Bk.start b),.int .i64 (Bk.fin b),.int .i64 (Bk.tlo b),.int .i64 (Bk.thi b),.int .i64 (Bk.slo b),.int .i64 (Bk.shi b),.int .i64 (Bk.notice b),.lst .ro 3 (plsU (Bk.players b))]]) (.cons rfl (.cons rfl (.cons rfl (.nil rfl)))) rfl rfl fun fr=>?_
  refine zR rfl rfl rfl ?_
  refine zA rfl (o_gS rfl rfl rfl rfl rfl (o_gS rfl rfl rfl rfl rfl (o_gS rfl rfl rfl rfl rfl (o_gS rfl rfl rfl rfl rfl (zR rfl rfl rfl ?_)))))
  refine zC rfl (zB ?_)
  refine zK [(1,U.box 0 0),(3,.bool false)] ([SB.box [.int .i64 (Bk.parts b),.int .i64 (Bk.size b),.lst .ro 1 (zD (Bk.beats b)),.int .i64 (Bk.start b),.int .i64 (Bk.fin b),.int .i64 (Bk.tlo b),.int .i64 (Bk.thi b),.int .i64 (Bk.slo b),.int .i64 (Bk.shi b),.int .i64 (Bk.notice b),.lst .ro 3 (plsU (Bk.players b))]]) (.cons rfl (.cons rfl (.nil rfl))) rfl fun fr=>?_
  refine k_seq (kQ (zC rfl (zB (zM ?_))))
  obtain⟨V,hV⟩:∃V:List SB,V=[.box [.int .i64 b.parts,.int .i64 b.size,.lst .ro 1 (zD b.beats),.int .i64 b.start,.int .i64 b.fin,.int .i64 b.tlo,.int .i64 b.thi,.int .i64 b.slo,.int .i64 b.shi,.int .i64 b.notice,.lst .ro 3 (plsU b.players)]]:=⟨_,rfl⟩
  refine yi (fun _ s2=>s2.st=V∧Holds s2 [(1,.box 0 0),(3,.bool false),(4,.int .i64 0)]) (fun kk s2 hI=>?_) 0 _ ⟨hV.symm,.cons rfl (.cons rfl (.cons rfl (.nil rfl)))⟩
  obtain⟨hst2,hs2⟩:=hI
  rw[hV]at hst2
  refine zK _ _ hs2 hst2 fun fr2=>?_
  refine k_seq (kQ (zA rfl (zA rfl (o_gS rfl rfl rfl rfl rfl (o_gS rfl rfl rfl rfl rfl (o_gS rfl rfl rfl rfl rfl (o_gS rfl rfl rfl rfl rfl (o_gS rfl rfl rfl rfl rfl ?_))))))))
  refine zR rfl rfl rfl ?_
  refine zB (k_cF rfl rfl ?_)
  refine yX (k_seq (kQ (zC rfl (zB (zM ?_)))))
  refine yi (fun _ s2=>s2.st=V∧Holds s2 [(1,.box 0 0),(3,.bool false),(5,.int .i64 0)]) (fun kk s2 hI=>?_) 0 _ ⟨hV.symm,.cons rfl (.cons rfl (.cons rfl (.nil rfl)))⟩
  obtain⟨hst2,hs2⟩:=hI
  rw[hV]at hst2
  refine zK _ _ hs2 hst2 fun fr2=>?_
  refine k_seq (kQ (zA rfl (zA rfl (o_gS rfl rfl rfl rfl rfl (o_gS rfl rfl rfl rfl rfl (o_gS rfl rfl rfl rfl rfl (o_gS rfl rfl rfl rfl rfl (o_gS rfl rfl rfl rfl rfl ?_))))))))
  refine zR rfl rfl rfl ?_
  refine zB (k_cF rfl rfl ?_)
  refine yX (kQ (zA rfl (zC rfl (zB (zU ?_)))))
  refine⟨.inr rfl,_,.cons _ _ _ _ (.tmp 2) .nil,?_⟩
  exact .refl _
 |true=>
  have h:=(zCX b).1 hv
  rw[hv,if_pos rfl]at q17
  have h4:=h.n4
  have h5:=h.pn
  have q52:=fun(n a c:Int) (hn:a≤n∧n≤c)=>(zDZ.2 hn ▸ ret52 (orc:=orc) hi n a c:RetP Tryd.prog is orc 52 [.int .i64 n,.int .i64 a,.int .i64 c] (.bool true))
  have q59:=fun(x y a c:Int) (hn:a≤x∧x≤y∧y≤c)=>(good_t.2 hn ▸ ret59 (orc:=orc) hi x y a c:RetP Tryd.prog is orc 59 [yD x y,.int .i64 a,.int .i64 c] (.bool true))
  refine kQ (zr rfl rfl (zC rfl (zB ?_)))
  refine zK [(1,U.box 0 0)] ([SB.box [.int .i64 (Bk.parts b),.int .i64 (Bk.size b),.lst .ro 1 (zD (Bk.beats b)),.int .i64 (Bk.start b),.int .i64 (Bk.fin b),.int .i64 (Bk.tlo b),.int .i64 (Bk.thi b),.int .i64 (Bk.slo b),.int .i64 (Bk.shi b),.int .i64 (Bk.notice b),.lst .ro 3 (plsU (Bk.players b))]]) (.cons rfl (.nil rfl)) rfl fun fr=>?_
  refine kQ (zO rfl rfl rfl sh27 rfl (zN rfl (q17) (.lrefl _) (wG rfl rfl rfl (zA rfl (o_gD rfl rfl rfl rfl rfl (zF rfl rfl yp (o_gD rfl rfl rfl rfl rfl (zG rfl rfl rfl sh3 rfl ?_))))))))
  refine o_gD rfl rfl rfl rfl rfl (zN rfl ((q52 _ _ _ h.pa)) (.lrefl _) ?_)
  refine zX rfl rfl rfl ?_
  refine zA rfl ?_
  refine zV [(1,U.box 0 0),(16,.bool true)] [] ([SB.box [.int .i64 (Bk.parts b),.int .i64 (Bk.size b),.lst .ro 1 (zD (Bk.beats b)),.int .i64 (Bk.start b),.int .i64 (Bk.fin b),.int .i64 (Bk.tlo b),.int .i64 (Bk.thi b),.int .i64 (Bk.slo b),.int .i64 (Bk.shi b),.int .i64 (Bk.notice b),.lst .ro 3 (plsU (Bk.players b))]]) (.cons rfl (.cons rfl (.nil rfl))) rfl rfl fun fr=>?_
  refine o_gD rfl rfl rfl rfl rfl ?_
  refine zV [(1,U.box 0 0),(16,.bool true)] [] ([SB.box [.int .i64 (Bk.parts b),.int .i64 (Bk.size b),.lst .ro 1 (zD (Bk.beats b)),.int .i64 (Bk.start b),.int .i64 (Bk.fin b),.int .i64 (Bk.tlo b),.int .i64 (Bk.thi b),.int .i64 (Bk.slo b),.int .i64 (Bk.shi b),.int .i64 (Bk.notice b),.lst .ro 3 (plsU (Bk.players b))]]) (.cons rfl (.cons rfl (.nil rfl))) rfl rfl fun fr=>?_
  refine zF rfl rfl zAM (o_gD rfl rfl rfl rfl rfl (zG rfl rfl rfl sh3 rfl (o_gD rfl rfl rfl rfl rfl (zN rfl ((q52 _ _ _ h.sz)) (.lrefl _) ?_))))
  refine zX rfl rfl rfl ?_
  refine zA rfl (o_gD rfl rfl rfl rfl rfl (zF rfl rfl zCD (o_gD rfl rfl rfl rfl rfl (zG rfl rfl rfl sh22 rfl (o_gD rfl rfl rfl rfl rfl (yB rfl ty22 rfl (List.length_map _) ?_))))))
  refine o_gD rfl rfl rfl rfl rfl (wG rfl rfl rfl ?_)
  refine zV [(1,U.box 0 0),(21,.bool true),(25,U.bool (decide (↑(List.length (Bk.beats b))=(4:Int))))] [] ([SB.box [.int .i64 (Bk.parts b),.int .i64 (Bk.size b),.lst .ro 1 (zD (Bk.beats b)),.int .i64 (Bk.start b),.int .i64 (Bk.fin b),.int .i64 (Bk.tlo b),.int .i64 (Bk.thi b),.int .i64 (Bk.slo b),.int .i64 (Bk.shi b),.int .i64 (Bk.notice b),.lst .ro 3 (plsU (Bk.players b))]]) (.cons rfl (.cons rfl (.cons rfl (.nil rfl)))) rfl rfl fun fr=>?_
  refine zX rfl rfl rfl ?_
  refine zA rfl (o_gD rfl rfl rfl rfl (decide_eq_true (by omega)) ?_)
  refine zF rfl rfl zGJ (o_gD rfl rfl rfl rfl (decide_eq_true (by omega)) ?_)
  refine zG rfl rfl rfl sh3 rfl (o_gD rfl rfl rfl rfl (decide_eq_true (by omega)) ?_)
  refine zN rfl ((q52 _ _ _ h.st)) (.lrefl _) ?_
  refine zX rfl rfl (decide_eq_true (by omega)) ?_
  refine zA rfl (o_gD rfl rfl rfl rfl rfl (zF rfl rfl fld27_4 (o_gD rfl rfl rfl rfl rfl (zG rfl rfl rfl sh3 rfl ?_))))
  refine zV [(1,U.box 0 0),(32,.bool true),(34,.int .i64 (Bk.fin b))] [] ([SB.box [.int .i64 (Bk.parts b),.int .i64 (Bk.size b),.lst .ro 1 (zD (Bk.beats b)),.int .i64 (Bk.start b),.int .i64 (Bk.fin b),.int .i64 (Bk.tlo b),.int .i64 (Bk.thi b),.int .i64 (Bk.slo b),.int .i64 (Bk.shi b),.int .i64 (Bk.notice b),.lst .ro 3 (plsU (Bk.players b))]]) (.cons rfl (.cons rfl (.cons rfl (.nil rfl)))) rfl rfl fun fr=>?_
  refine o_gD rfl rfl rfl rfl rfl ?_
  refine zV [(1,U.box 0 0),(32,.bool true),(34,.int .i64 (Bk.fin b))] [] ([SB.box [.int .i64 (Bk.parts b),.int .i64 (Bk.size b),.lst .ro 1 (zD (Bk.beats b)),.int .i64 (Bk.start b),.int .i64 (Bk.fin b),.int .i64 (Bk.tlo b),.int .i64 (Bk.thi b),.int .i64 (Bk.slo b),.int .i64 (Bk.shi b),.int .i64 (Bk.notice b),.lst .ro 3 (plsU (Bk.players b))]]) (.cons rfl (.cons rfl (.cons rfl (.nil rfl)))) rfl rfl fun fr=>?_
  refine zN rfl ((q52 _ _ _ h.fi)) (.lrefl _) ?_
  refine zX rfl rfl rfl ?_
  refine zA rfl (o_gD rfl rfl rfl rfl rfl (zF rfl rfl fld27_5 (o_gD rfl rfl rfl rfl rfl (zO rfl rfl rfl sh24 rfl (o_gD rfl rfl rfl rfl rfl (zN rfl ((q59 _ _ _ _ h.ti)) (.lrefl _) ?_))))))
  refine zX rfl rfl rfl ?_
  refine zA rfl (o_gD rfl rfl rfl rfl rfl (zF rfl rfl fld27_6 ?_))
  refine zV [(1,U.box 0 0),(42,.bool true),(43,U.box 0 7)] [] ([SB.box [.int .i64 (Bk.parts b),.int .i64 (Bk.size b),.lst .ro 1 (zD (Bk.beats b)),.int .i64 (Bk.start b),.int .i64 (Bk.fin b),.int .i64 (Bk.tlo b),.int .i64 (Bk.thi b),.int .i64 (Bk.slo b),.int .i64 (Bk.shi b),.int .i64 (Bk.notice b),.lst .ro 3 (plsU (Bk.players b))]]) (.cons rfl (.cons rfl (.cons rfl (.nil rfl)))) rfl rfl fun fr=>?_
  refine o_gD rfl rfl rfl rfl rfl ?_
  refine zV [(1,U.box 0 0),(42,.bool true),(43,U.box 0 7)] [] ([SB.box [.int .i64 (Bk.parts b),.int .i64 (Bk.size b),.lst .ro 1 (zD (Bk.beats b)),.int .i64 (Bk.start b),.int .i64 (Bk.fin b),.int .i64 (Bk.tlo b),.int .i64 (Bk.thi b),.int .i64 (Bk.slo b),.int .i64 (Bk.shi b),.int .i64 (Bk.notice b),.lst .ro 3 (plsU (Bk.players b))]]) (.cons rfl (.cons rfl (.cons rfl (.nil rfl)))) rfl rfl fun fr=>?_
  refine zO rfl rfl rfl sh24 rfl (o_gD rfl rfl rfl rfl rfl (zN rfl ((q59 _ _ _ _ h.sl)) (.lrefl _) ?_))
  refine zX rfl rfl rfl ?_
  refine zA rfl (o_gD rfl rfl rfl rfl rfl (zF rfl rfl fld27_7 (o_gD rfl rfl rfl rfl rfl (zG rfl rfl rfl sh3 rfl (o_gD rfl rfl rfl rfl rfl (zF rfl rfl zAM (o_gD rfl rfl rfl rfl rfl (zG rfl rfl rfl sh3 rfl ?_))))))))
  refine o_gD rfl rfl rfl rfl rfl (zN rfl ((q52 _ _ _ h.no)) (.lrefl _) ?_)
  refine zV [(1,U.box 0 0),(47,.bool true),(52,.bool true)] [] ([SB.box [.int .i64 (Bk.parts b),.int .i64 (Bk.size b),.lst .ro 1 (zD (Bk.beats b)),.int .i64 (Bk.start b),.int .i64 (Bk.fin b),.int .i64 (Bk.tlo b),.int .i64 (Bk.thi b),.int .i64 (Bk.slo b),.int .i64 (Bk.shi b),.int .i64 (Bk.notice b),.lst .ro 3 (plsU (Bk.players b))]]) (.cons rfl (.cons rfl (.cons rfl (.nil rfl)))) rfl rfl fun fr=>?_
  refine zX rfl rfl rfl ?_
  refine zA rfl (o_gD rfl rfl rfl rfl rfl (zF rfl rfl zCC (o_gD rfl rfl rfl rfl rfl (zG rfl rfl rfl sh25 rfl (o_gD rfl rfl rfl rfl rfl (yB rfl ty25 rfl (List.length_map _) ?_))))))
  refine o_gD rfl rfl rfl rfl rfl (zN rfl ((q52 _ 1 5 (by omega))) (.lrefl _) ?_)
  refine zX rfl rfl rfl ?_
  refine zC rfl (zB ?_)
  refine zK [(1,U.box 0 0),(3,.bool true)] ([SB.box [.int .i64 (Bk.parts b),.int .i64 (Bk.size b),.lst .ro 1 (zD (Bk.beats b)),.int .i64 (Bk.start b),.int .i64 (Bk.fin b),.int .i64 (Bk.tlo b),.int .i64 (Bk.thi b),.int .i64 (Bk.slo b),.int .i64 (Bk.shi b),.int .i64 (Bk.notice b),.lst .ro 3 (plsU (Bk.players b))]]) (.cons rfl (.cons rfl (.nil rfl))) rfl fun fr=>?_
  refine k_seq (kQ (zC rfl (zB (zM ?_))))
  refine yi (fun kk s2=>∃i:Nat,kk+i=b.beats.length∧s2.st=[.box [.int .i64 b.parts,.int .i64 b.size,.lst .ro 1 (zD b.beats),.int .i64 b.start,.int .i64 b.fin,.int .i64 b.tlo,.int .i64 b.thi,.int .i64 b.slo,.int .i64 b.shi,.int .i64 b.notice,.lst .ro 3 (plsU b.players)]]∧Holds s2 [(1,.box 0 0),(3,.bool true),(4,.int .i64 i)]) (fun kk s2 hI=>?_) b.beats.length _ ⟨0,rfl,rfl,.cons rfl (.cons rfl (.cons rfl (.nil rfl)))⟩
  obtain⟨i,hk,hst2,hs2⟩:=hI
  refine zK _ _ hs2 hst2 fun fr2=>?_
  by_cases hin:i<b.beats.length
  ·obtain⟨x,hx⟩:∃x,b.beats[i]? =some x:=⟨b.beats[i],List.getElem?_eq_getElem hin⟩
   refine k_seq (kQ (zA rfl (zA rfl (o_gD rfl rfl rfl rfl rfl (zA rfl (o_gD rfl rfl rfl rfl rfl (zF rfl rfl zCD (o_gD rfl rfl rfl rfl rfl ?_))))))))
   refine zG rfl rfl rfl sh22 rfl (o_gD rfl rfl rfl rfl rfl (yB rfl ty22 rfl (List.length_map _) ?_))
   refine o_gD rfl rfl rfl rfl rfl (zc rfl rfl rfl (zX rfl rfl rfl ?_))
   refine zB (k_cT rfl (decide_eq_true (by omega)) (zQ (k_seq (zM (k_region (zF rfl rfl zCD (zG rfl rfl rfl sh22 rfl (zA rfl ?_))))))))
   refine yb (u:=.int .i64 (x)) rfl ty22 rfl rfl (Int.natCast_nonneg _) (by simp[hx]) cl3 ?_
   refine zZ rfl rfl sh3 rfl ?_
   refine zN rfl ((q52 _ _ _ (h.bt x (List.mem_of_getElem? hx)))) (.lrefl _) ?_
   refine zC rfl (zB (k_region (zA rfl ?_)))
   refine yU rfl rfl rfl (by unfold I64;omega) (zC rfl (zB ?_))
   exact⟨kk - 1,by omega,i+1,by omega,rfl,.cons rfl (.cons rfl (.cons rfl (.nil rfl)))⟩
  ·refine k_seq ?_
   refine kQ (zA rfl (zA rfl (o_gD rfl rfl rfl rfl rfl (zA rfl (o_gD rfl rfl rfl rfl rfl (zF rfl rfl zCD (o_gD rfl rfl rfl rfl rfl (zG rfl rfl rfl sh22 rfl ?_))))))))
   refine o_gD rfl rfl rfl rfl rfl (yB rfl ty22 rfl (List.length_map _) ?_)
   refine o_gD rfl rfl rfl rfl rfl (zc rfl rfl rfl (zX rfl rfl rfl ?_))
   refine zB (k_cF rfl (decide_eq_false (by omega)) (yX (k_seq (kQ (zC rfl (zB (zM ?_)))))))
   obtain⟨V,hV⟩:∃V:List SB,V=[.box [.int .i64 b.parts,.int .i64 b.size,.lst .ro 1 (zD b.beats),.int .i64 b.start,.int .i64 b.fin,.int .i64 b.tlo,.int .i64 b.thi,.int .i64 b.slo,.int .i64 b.shi,.int .i64 b.notice,.lst .ro 3 (plsU b.players)]]:=⟨_,rfl⟩
   refine yi (fun kk s2=>∃i:Nat,kk+i=b.players.length∧(∃e,s2.st=V++e)∧Holds s2 [(1,.box 0 0),(3,.bool true),(5,.int .i64 i)]) (fun kk s2 hI=>?_) b.players.length _ ⟨0,rfl,⟨[],by rw[hV];rfl⟩,.cons rfl (.cons rfl (.cons rfl (.nil rfl)))⟩
   obtain⟨i,hk,⟨e,hst2⟩,hs2⟩:=hI
   generalize hY:V++e=Y at hst2
   have y0:Y[0]? =some (SB.box [.int .i64 b.parts,.int .i64 b.size,.lst .ro 1 (zD b.beats),.int .i64 b.start,.int .i64 b.fin,.int .i64 b.tlo,.int .i64 b.thi,.int .i64 b.slo,.int .i64 b.shi,.int .i64 b.notice,.lst .ro 3 (plsU b.players)]):=by rw[←hY,hV];rfl
   refine zK _ _ hs2 hst2 fun fr2=>?_
   by_cases hin:i<b.players.length
   ·obtain⟨p,hp⟩:∃p,b.players[i]? =some p:=⟨b.players[i],List.getElem?_eq_getElem hin⟩
    have hg:=h.pl p (List.mem_of_getElem? hp)
    have hg2:=hg.2.1
    refine k_seq (kQ (zA rfl (zA rfl (o_gD rfl rfl rfl rfl rfl (zA rfl (o_gD rfl rfl rfl rfl rfl (zF rfl rfl zCC (o_gD rfl rfl rfl rfl rfl ?_))))))))
    refine zG rfl rfl y0 sh25 rfl ?_
    refine o_gD rfl rfl rfl rfl rfl (yB rfl ty25 rfl (List.length_map _) ?_)
    refine o_gD rfl rfl rfl rfl rfl (zc rfl rfl rfl (zX rfl rfl rfl ?_))
    refine zB (k_cT rfl (decide_eq_true (by omega)) (zQ (k_seq (zM (kQ (zF rfl rfl zCC (zG rfl rfl y0 sh25 rfl ?_)))))))
    refine zA rfl (yb (u:=(p).u) rfl ty25 rfl rfl (Int.natCast_nonneg _) (by simp[hp]) cl68 ?_)
    refine zAf rfl rfl sh68 rfl ?_
    refine zu rfl ze68 ?_
    refine zl rfl (zq _ _) sh68 rfl rfl rfl rfl rfl ?_
    refine zB (kQ (zF rfl rfl zGI (zO rfl rfl (at_set _ _ _) sh24 rfl ?_)))
    refine zN rfl ((q59 _ _ _ _ hg.1)) (.lrefl _) ?_
    refine zA rfl (o_gD rfl rfl rfl rfl rfl (zF rfl rfl zCl (o_gD rfl rfl rfl rfl rfl (zG rfl rfl (at_set _ _ _) sh66 rfl ?_))))
    refine o_gD rfl rfl rfl rfl rfl (yB rfl ty66 rfl (List.length_map _) ?_)
    refine o_gD rfl rfl rfl rfl rfl (wG rfl rfl rfl (zX rfl rfl rfl ?_))
    refine zC rfl (zB (kQ (zC rfl (zB (zM ?_)))))
    refine yi (fun mm s2=>∃j:Nat,mm+j=p.cat.length∧s2.st=Y++[.box [.int .i64 p.la,.int .i64 p.lb,.lst .ro 2 (ym p.cat)]]∧Holds s2 [(1,.box 0 0),(3,.bool true),(5,.int .i64 i),(6,.box Y.length 0),(7,.int .i64 j)]) (fun mm s2 hI=>?_) p.cat.length _ ⟨0,rfl,(by show(Y++[SB.box _]).set Y.length (SB.box _)=_;rw[wD];rfl),.cons rfl (.cons (show U.bool (decide ((p.cat.length:Int)=4))=.bool true by rw[hg2];rfl) (.cons rfl (.cons rfl (.cons rfl (.nil rfl)))))⟩
    obtain⟨j,hj,hst2,hs2⟩:=hI
    have y1:(Y++[SB.box [.int .i64 p.la,.int .i64 p.lb,.lst .ro 2 (ym p.cat)]])[Y.length]? =some (.box [.int .i64 p.la,.int .i64 p.lb,.lst .ro 2 (ym p.cat)]):=zq _ _
    refine zK _ _ hs2 hst2 fun fr2=>?_
    by_cases hjn:j<p.cat.length
    ·obtain⟨c,hc⟩:∃c,p.cat[j]? =some c:=⟨p.cat[j],List.getElem?_eq_getElem hjn⟩
     refine k_seq (kQ (zA rfl (zA rfl (o_gD rfl rfl rfl rfl rfl (zA rfl (o_gD rfl rfl rfl rfl rfl (zF rfl rfl zCl (o_gD rfl rfl rfl rfl rfl ?_))))))))
     refine zG rfl rfl y1 sh66 rfl ?_
     refine o_gD rfl rfl rfl rfl rfl (yB rfl ty66 rfl (List.length_map _) ?_)
     refine o_gD rfl rfl rfl rfl rfl (zc rfl rfl rfl (zX rfl rfl rfl ?_))
     refine zB (k_cT rfl (decide_eq_true (by omega)) (zQ (k_seq (zM (k_region (zF rfl rfl zCl (zG rfl rfl y1 sh66 rfl ?_)))))))
     refine zA rfl (yb (u:=(c).u) rfl ty66 rfl rfl (Int.natCast_nonneg _) (by simp[hc]) cl24 ?_)
     refine zAf rfl rfl sh24 rfl ?_
     refine zN rfl ((q59 _ _ _ _ (hg.2.2 c (List.mem_of_getElem? hc)))) (.lrefl _) ?_
     refine zC rfl (zB (k_region (zA rfl ?_)))
     refine yU rfl rfl rfl (by unfold I64;omega) (zC rfl (zB ?_))
     exact⟨mm - 1,by omega,j+1,by omega,rfl,.c4 rfl rfl rfl rfl (.cons rfl (.nil rfl))⟩
    ·refine k_seq ?_
     refine kQ (zA rfl (zA rfl (o_gD rfl rfl rfl rfl rfl (zA rfl (o_gD rfl rfl rfl rfl rfl (zF rfl rfl zCl (o_gD rfl rfl rfl rfl rfl (zG rfl rfl y1 sh66 rfl ?_))))))))
     refine o_gD rfl rfl rfl rfl rfl (yB rfl ty66 rfl (List.length_map _) ?_)
     refine o_gD rfl rfl rfl rfl rfl (zc rfl rfl rfl (zX rfl rfl rfl ?_))
     refine zB (k_cF rfl (decide_eq_false (by omega)) (yX (k_region (zA rfl ?_))))
     refine yU rfl rfl rfl (by unfold I64;omega) (zC rfl (zB ?_))
     exact⟨kk - 1,by omega,i+1,by omega,⟨_,grow hY⟩,.cons rfl (.cons rfl (.cons rfl (.nil rfl)))⟩
   ·refine k_seq ?_
    refine kQ (zA rfl (zA rfl (o_gD rfl rfl rfl rfl rfl (zA rfl (o_gD rfl rfl rfl rfl rfl (zF rfl rfl zCC (o_gD rfl rfl rfl rfl rfl (zG rfl rfl y0 sh25 rfl ?_))))))))
    refine o_gD rfl rfl rfl rfl rfl (yB rfl ty25 rfl (List.length_map _) ?_)
    refine o_gD rfl rfl rfl rfl rfl (zc rfl rfl rfl (zX rfl rfl rfl ?_))
    refine zB (k_cF rfl (decide_eq_false (by omega)) (yX (kQ (zA rfl (zC rfl (zB (zU ?_)))))))
    refine⟨.inr rfl,_,.cons _ _ _ _ (.tmp 2) .nil,?_⟩
    exact .refl _
end
end Go.Proofs.YtfbmlibilcjlgaaDoor.drumListens
