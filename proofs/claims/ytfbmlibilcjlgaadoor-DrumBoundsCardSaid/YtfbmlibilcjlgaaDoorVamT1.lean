import Derived.Test.YtfbmlibilcjlgaaDoorVamR
import Derived.Test.YtfbmlibilcjlgaaDoorProg
import Derived.KernelRfl
set_option linter.unusedVariables false
set_option linter.unusedSimpArgs false
set_option linter.constructorNameAsVariable false
theorem Vam.Holds.c4{s:Vam.St}{a b c d:Nat}{x y z w:Vam.U}{l:List (Nat×Vam.U)}(h1:s.fr a=x)(h2:s.fr b=y)(h3:s.fr c=z)(h4:s.fr d=w)(h:Vam.Holds s l):Vam.Holds s ((a,x)::(b,y)::(c,z)::(d,w)::l):=.cons h1 (.cons h2 (.cons h3 (.cons h4 h)))
theorem Vam.kQ{P:Go.Program}{is:Go.FuncId→Bool}{orc:Vam.Known}{s:Vam.St}{i:Nat}{ops:Array Go.Oper}{b:Go.Code}{Q:Vam.Ex→Vam.St→Prop}(h:Vam.WpO P is orc ops.toList ops.toList s fun s'=>Vam.Wp P is orc b {s' with al:=[]} Q):Vam.Wp P is orc (.seq (.region i ops false) b) s Q:=Vam.k_seq (Vam.k_region h)
namespace Go.Proofs.YtfbmlibilcjlgaaDoor.drumBounds
open Vam
section
variable {is:FuncId→Bool}{orc:Known}
theorem zAH{k:Nat}{a:U}(h:Dat k a):∀v∈[a],Dat k v:=fun v hv=>by
 simp only[List.mem_cons,List.not_mem_nil,or_false]at hv
 subst hv;exact h
theorem yM{k:Nat}{a b:U}(h:Dat k a)(h2:Dat k b):∀v∈[a,b],Dat k v:=fun v hv=>by
 simp only[List.mem_cons,List.not_mem_nil,or_false]at hv
 rcases hv with rfl|rfl<;>assumption
theorem dat_l3{k:Nat}{a b c:U}(h:Dat k a)(h2:Dat k b)(h3:Dat k c):∀v∈[a,b,c],Dat k v:=fun v hv=>by
 simp only[List.mem_cons,List.not_mem_nil,or_false]at hv
 rcases hv with rfl|rfl|rfl<;>assumption
abbrev wB(a b:Int):U:=.agg [.int .i64 a,.int .i64 b]
theorem yq(a b:Int)(k:Nat):Dat (k+2) (wB a b):=.agg _ _ (yM (.int _ _ _) (.int _ _ _))
theorem zCz(a b:Int):FlatU (wB a b):=.agg _ fun c hc=>by
 simp only[List.mem_cons,List.not_mem_nil,or_false]at hc
 rcases hc with rfl|rfl<;>exact .int _ _
abbrev zG(l:List Int):List U:=l.map fun n=>.int .i64 n
structure Two where
 a:Int
 b:Int
abbrev Two.u(q:Two):U:=wB q.a q.b
abbrev zu(l:List Two):List U:=l.map Two.u
theorem zBD(l:List Two)(kd:Kd)(hk:kd≠.own)(k:Nat):Dat (k+2) (.lst kd 2 (zu l)):=by
 refine .lst _ _ _ _ hk fun c hc=>?_
 obtain⟨e,h1,h2⟩:=List.mem_flatMap.1 hc
 obtain⟨q,_,rfl⟩:=List.mem_map.1 h1
 exact yM (.int _ _ _) (.int _ _ _) c h2
theorem all_take{α:Type}{p:α→Bool}{l:List α}{n:Nat}{x:α}(h:l[n]? =some x)(h1:(l.take n).all p=true)(h2:p x=true):(l.take (n+1)).all p=true:=by
 rw[List.take_add_one,List.all_append,h1,h]
 simpa using h2
theorem all_not{α:Type}{p:α→Bool}{l:List α}{n:Nat}{x:α}(h:l[n]? =some x)(h2:p x=false):l.all p=false:=by
 rw[List.all_eq_false]
 exact⟨x,List.mem_of_getElem? h,by simp[h2]⟩
theorem zo{l m:List SB}{i:Nat}{x:SB}(h:l[i]? =some x):(l++m)[i]? =some x:=by
 rw[List.getElem?_append_left (List.getElem?_eq_some_iff.1 h).1,h]
theorem yx(l:List SB)(x y:SB):(l++[x]).set l.length y=l++[y]:=by
 rw[List.set_append_right _ _ (Nat.le_refl _),Nat.sub_self];rfl
abbrev Off(is:FuncId→Bool):Prop:=∀f,f≠24→is f=false
structure Pl where
 la:Int
 lb:Int
 cat:List Two
abbrev Pl.cs(p:Pl):List U:=[.int .i64 p.la,.int .i64 p.lb,.lst .ro 2 (zu p.cat)]
abbrev Pl.u(p:Pl):U:=.agg p.cs
abbrev plsU(l:List Pl):List U:=l.map Pl.u
theorem dat_plcs(p:Pl)(k:Nat):∀c∈p.cs,Dat (k+2) c:=fun c hc=>by
 simp only[List.mem_cons,List.not_mem_nil,or_false]at hc
 rcases hc with rfl|rfl|rfl
 ·exact .int _ _ _
 ·exact .int _ _ _
 ·exact zBD _ .ro (fun h=>by cases h) k
theorem dat_pl(p:Pl)(k:Nat):Dat (k+3) p.u:=.agg _ _ (dat_plcs p k)
theorem dat_pls(l:List Pl)(kd:Kd)(hk:kd≠.own)(k:Nat):Dat (k+3) (.lst kd 3 (plsU l)):=by
 refine .lst _ _ _ _ hk fun c hc=>?_
 obtain⟨e,h1,h2⟩:=List.mem_flatMap.1 hc
 obtain⟨q,_,rfl⟩:=List.mem_map.1 h1
 exact dat_plcs q k c h2
structure Bk where
 parts:Int
 size:Int
 beats:List Int
 start:Int
 fin:Int
 tlo:Int
 thi:Int
 slo:Int
 shi:Int
 notice:Int
 players:List Pl
abbrev Bk.cs(b:Bk):List U:=[.int .i64 b.parts,.int .i64 b.size,.lst .ro 1 (zG b.beats),.int .i64 b.start,.int .i64 b.fin,.int .i64 b.tlo,.int .i64 b.thi,.int .i64 b.slo,.int .i64 b.shi,.int .i64 b.notice,.lst .ro 3 (plsU b.players)]
abbrev Bk.u(b:Bk):U:=.agg b.cs
theorem yK(b:Bk)(k:Nat):Dat (k+4) b.u:=.agg _ _ fun c hc=>by
 simp only[List.mem_cons,List.not_mem_nil,or_false]at hc
 rcases hc with rfl|rfl|rfl|rfl|rfl|rfl|rfl|rfl|rfl|rfl|rfl
 ·exact .int _ _ _
 ·exact .int _ _ _
 ·exact zr _ .ro (fun h=>by cases h) 1 _
 ·exact .int _ _ _
 ·exact .int _ _ _
 ·exact .int _ _ _
 ·exact .int _ _ _
 ·exact .int _ _ _
 ·exact .int _ _ _
 ·exact .int _ _ _
 ·exact dat_pls _ .ro (fun h=>by cases h) k
theorem wd:zz Tryd.prog 24 0=some (0,3):=by kernel_rfl
theorem wc:zz Tryd.prog 24 1=some (1,3):=by kernel_rfl
theorem sh3:shOf Tryd.prog 3=.one:=by kernel_rfl
noncomputable def b90:Code:=(Tryd.f90.body).getD .skip
theorem body90:bodyOf Tryd.prog 90=some (15,b90,[.tmp 4]):=by kernel_rfl
theorem pure90:pureFn Tryd.prog 90=true:=by kernel_rfl
noncomputable def b52:Code:=(Tryd.f52.body).getD .skip
theorem body52:bodyOf Tryd.prog 52=some (15,b52,[.tmp 6]):=by kernel_rfl
theorem pure52:pureFn Tryd.prog 52=true:=by kernel_rfl
noncomputable def b59:Code:=(Tryd.f59.body).getD .skip
theorem body59:bodyOf Tryd.prog 59=some (24,b59,[.tmp 6]):=by kernel_rfl
theorem pure59:pureFn Tryd.prog 59=true:=by kernel_rfl
theorem pl24:zDx Tryd.prog 24=some [(0,1),(1,1)]:=by kernel_rfl
theorem sh24:shOf Tryd.prog 24=.many 2:=by kernel_rfl
theorem ze24:yV Tryd.prog 24=some ((.cons (.int .i64 0) (.cons (.int .i64 0) .nil)):V):=by kernel_rfl
noncomputable def b48:Code:=(Tryd.f48.body).getD .skip
theorem body48:bodyOf Tryd.prog 48=some (8,b48,[.cell 4 24]):=by kernel_rfl
theorem pure48:pureFn Tryd.prog 48=true:=by kernel_rfl
noncomputable def b40:Code:=(Tryd.f40.body).getD .skip
theorem body40:bodyOf Tryd.prog 40=some (11,b40,[.tmp 4]):=by kernel_rfl
theorem pure40:pureFn Tryd.prog 40=true:=by kernel_rfl
theorem cl3:Program.cellsOf Tryd.prog 3=1:=by kernel_rfl
theorem ty22:tyOf Tryd.prog 22=.slice 3:=by kernel_rfl
noncomputable def b92:Code:=(Tryd.f92.body).getD .skip
theorem body92:bodyOf Tryd.prog 92=some (18,b92,[.tmp 4]):=by kernel_rfl
theorem pure92:pureFn Tryd.prog 92=true:=by kernel_rfl
theorem cl24:Program.cellsOf Tryd.prog 24=2:=by kernel_rfl
theorem ty66:tyOf Tryd.prog 66=.slice 24:=by kernel_rfl
theorem ze3:yV Tryd.prog 3=some ((.cons (.int .i64 0) .nil):V):=by kernel_rfl
noncomputable def b93:Code:=(Tryd.f93.body).getD .skip
theorem body93:bodyOf Tryd.prog 93=some (29,b93,[.tmp 4]):=by kernel_rfl
theorem pure93:pureFn Tryd.prog 93=true:=by kernel_rfl
theorem zCw:zz Tryd.prog 68 0=some (0,24):=by kernel_rfl
theorem zCv:zz Tryd.prog 68 1=some (2,66):=by kernel_rfl
theorem sh66:shOf Tryd.prog 66=.one:=by kernel_rfl
theorem zEV:tyOf Tryd.prog 112=.array 10 24:=by kernel_rfl
noncomputable def b91:Code:=(Tryd.f91.body).getD .skip
theorem body91:bodyOf Tryd.prog 91=some (22,b91,[.tmp 2]):=by kernel_rfl
theorem pure91:pureFn Tryd.prog 91=true:=by kernel_rfl
def inS(a b n:Int):Bool:=decide (a≤n)&&decide (n≤b)
theorem ret90(hi:Off is)(a b n:Int):RetP Tryd.prog is orc 90 [wB a b,.int .i64 n] (.bool (inS a b n)):=by
 refine zk body90 pure90 (hi 90 (by decide)) rfl rfl (yM (yq a b 6) (.int _ _ _)) (.inl (.bool _ _)) ?_
 unfold inS
 by_cases h:a≤n
 ·rw[decide_eq_true h,Bool.true_and]
  refine kQ (zc rfl rfl (zB rfl (zA ?_)))
  refine zH [(1,.int .i64 n),(2,U.box 0 0)] ([SB.box [.int .i64 a,.int .i64 b]]) (.cons rfl (.cons rfl (.nil rfl))) rfl fun fr=>?_
  refine kQ (zE rfl rfl wd (zF rfl rfl rfl sh3 rfl (zC rfl (zCh rfl rfl rfl (zC rfl (o_gD rfl rfl rfl rfl (decide_eq_true (by omega)) ?_))))))
  refine zC rfl (o_gD rfl rfl rfl rfl (decide_eq_true (by omega)) ?_)
  refine zE rfl rfl wc (o_gD rfl rfl rfl rfl (decide_eq_true (by omega)) ?_)
  refine zF rfl rfl rfl sh3 rfl (o_gD rfl rfl rfl rfl (decide_eq_true (by omega)) ?_)
  refine zCh rfl rfl rfl (za rfl rfl (decide_eq_true (by omega)) ?_)
  refine zB rfl (zA (zU ?_))
  refine⟨.inr rfl,_,.cons _ _ _ _ (.tmp 4) .nil,?_⟩
  exact .refl _
 ·rw[decide_eq_false h,Bool.false_and]
  refine kQ (zc rfl rfl (zB rfl (zA ?_)))
  refine zH [(1,.int .i64 n),(2,U.box 0 0)] ([SB.box [.int .i64 a,.int .i64 b]]) (.cons rfl (.cons rfl (.nil rfl))) rfl fun fr=>?_
  refine kQ (zE rfl rfl wd (zF rfl rfl rfl sh3 rfl (zC rfl (zCh rfl rfl rfl (zC rfl (o_gS rfl rfl rfl rfl (decide_eq_false (by omega)) ?_))))))
  refine o_gS rfl rfl rfl rfl (decide_eq_false (by omega)) ?_
  refine o_gS rfl rfl rfl rfl (decide_eq_false (by omega)) ?_
  refine o_gS rfl rfl rfl rfl (decide_eq_false (by omega)) ?_
  refine zN rfl rfl (decide_eq_false (by omega)) ?_
  refine zB rfl (zA (zU ?_))
  refine⟨.inr rfl,_,.cons _ _ _ _ (.tmp 4) .nil,?_⟩
  exact .refl _
theorem zFQ(hi:Off is)(n a b:Int):RetP Tryd.prog is orc 52 [.int .i64 n,.int .i64 a,.int .i64 b] (.bool (inS a b n)):=by
 refine zk body52 pure52 (hi 52 (by decide)) rfl rfl (dat_l3 (.int _ _ _) (.int _ _ _) (.int _ _ _)) (.inl (.bool _ _)) ?_
 unfold inS
 by_cases h:a≤n
 ·rw[decide_eq_true h,Bool.true_and]
  refine kQ (zB rfl (zA (kQ (zC rfl (zC rfl (zCh rfl rfl rfl (zC rfl (o_gD rfl rfl rfl rfl (decide_eq_true (by omega)) ?_))))))))
  refine zC rfl (o_gD rfl rfl rfl rfl (decide_eq_true (by omega)) ?_)
  refine zC rfl (o_gD rfl rfl rfl rfl (decide_eq_true (by omega)) ?_)
  refine zCh rfl rfl rfl (za rfl rfl (decide_eq_true (by omega)) ?_)
  refine zB rfl (zA (zU ?_))
  refine⟨.inr rfl,_,.cons _ _ _ _ (.tmp 6) .nil,?_⟩
  exact .refl _
 ·rw[decide_eq_false h,Bool.false_and]
  refine kQ (zB rfl (zA (kQ (zC rfl (zC rfl (zCh rfl rfl rfl (zC rfl (o_gS rfl rfl rfl rfl (decide_eq_false (by omega)) ?_))))))))
  refine o_gS rfl rfl rfl rfl (decide_eq_false (by omega)) ?_
  refine o_gS rfl rfl rfl rfl (decide_eq_false (by omega)) ?_
  refine zN rfl rfl (decide_eq_false (by omega)) ?_
  refine zB rfl (zA (zU ?_))
  refine⟨.inr rfl,_,.cons _ _ _ _ (.tmp 6) .nil,?_⟩
  exact .refl _
def zBp(a b lo hi:Int):Bool:=decide (lo≤a)&&(decide (a≤b)&&decide (b≤hi))
theorem ret59(hi:Off is)(a b lo up:Int):RetP Tryd.prog is orc 59 [wB a b,.int .i64 lo,.int .i64 up] (.bool (zBp a b lo up)):=by
 refine zk body59 pure59 (hi 59 (by decide)) rfl rfl (dat_l3 (yq a b 6) (.int _ _ _) (.int _ _ _)) (.inl (.bool _ _)) ?_
 unfold zBp
 by_cases h:lo≤a
 ·rw[decide_eq_true h,Bool.true_and]
  by_cases h2:a≤b
  ·rw[decide_eq_true h2,Bool.true_and]
   refine kQ (zc rfl rfl (zB rfl (zA ?_)))
   refine zH [(1,.int .i64 lo),(2,.int .i64 up),(3,U.box 0 0)] ([SB.box [.int .i64 a,.int .i64 b]]) (.cons rfl (.cons rfl (.cons rfl (.nil rfl)))) rfl fun fr=>?_
   refine kQ (zC rfl (zE rfl rfl wd (zF rfl rfl rfl sh3 rfl (zCh rfl rfl rfl (zC rfl (o_gD rfl rfl rfl rfl (decide_eq_true (by omega)) ?_))))))
   refine zE rfl rfl wd (o_gD rfl rfl rfl rfl (decide_eq_true (by omega)) ?_)
   refine zF rfl rfl rfl sh3 rfl (o_gD rfl rfl rfl rfl (decide_eq_true (by omega)) ?_)
   refine zE rfl rfl wc (o_gD rfl rfl rfl rfl (decide_eq_true (by omega)) ?_)
   refine zF rfl rfl rfl sh3 rfl ?_
   refine zV [(2,.int .i64 up),(3,U.box 0 0),(11,U.bool (decide (lo≤a))),(13,.int .i64 a),(15,.int .i64 b)] [] ([SB.box [.int .i64 a,.int .i64 b]]) (.c4 rfl rfl rfl rfl (.cons rfl (.nil rfl))) rfl rfl fun fr=>?_
   refine o_gD rfl rfl rfl rfl (decide_eq_true (by omega)) ?_
   refine zV [(2,.int .i64 up),(3,U.box 0 0),(11,U.bool (decide (lo≤a))),(13,.int .i64 a),(15,.int .i64 b)] [] ([SB.box [.int .i64 a,.int .i64 b]]) (.c4 rfl rfl rfl rfl (.cons rfl (.nil rfl))) rfl rfl fun fr=>?_
   refine zCh rfl rfl rfl (za rfl rfl (decide_eq_true (by omega)) ?_)
   refine zC rfl (o_gD rfl rfl rfl rfl (decide_eq_true (by omega)) ?_)
   refine zE rfl rfl wc (o_gD rfl rfl rfl rfl (decide_eq_true (by omega)) ?_)
   refine zF rfl rfl rfl sh3 rfl (o_gD rfl rfl rfl rfl (decide_eq_true (by omega)) ?_)
   refine zC rfl (o_gD rfl rfl rfl rfl (decide_eq_true (by omega)) ?_)
   refine zCh rfl rfl rfl (za rfl rfl (decide_eq_true (by omega)) ?_)
   refine zB rfl (zA (zU ?_))
   refine⟨.inr rfl,_,.cons _ _ _ _ (.tmp 6) .nil,?_⟩
   exact .refl _
  ·rw[decide_eq_false h2,Bool.false_and]
   refine kQ (zc rfl rfl (zB rfl (zA ?_)))
   refine zH [(1,.int .i64 lo),(2,.int .i64 up),(3,U.box 0 0)] ([SB.box [.int .i64 a,.int .i64 b]]) (.cons rfl (.cons rfl (.cons rfl (.nil rfl)))) rfl fun fr=>?_
   refine kQ (zC rfl (zE rfl rfl wd (zF rfl rfl rfl sh3 rfl (zCh rfl rfl rfl (zC rfl (o_gD rfl rfl rfl rfl (decide_eq_true (by omega)) ?_))))))
   refine zE rfl rfl wd (o_gD rfl rfl rfl rfl (decide_eq_true (by omega)) ?_)
   refine zF rfl rfl rfl sh3 rfl (o_gD rfl rfl rfl rfl (decide_eq_true (by omega)) ?_)
   refine zE rfl rfl wc (o_gD rfl rfl rfl rfl (decide_eq_true (by omega)) ?_)
   refine zF rfl rfl rfl sh3 rfl ?_
   refine zV [(2,.int .i64 up),(3,U.box 0 0),(11,U.bool (decide (lo≤a))),(13,.int .i64 a),(15,.int .i64 b)] [] ([SB.box [.int .i64 a,.int .i64 b]]) (.c4 rfl rfl rfl rfl (.cons rfl (.nil rfl))) rfl rfl fun fr=>?_
   refine o_gD rfl rfl rfl rfl (decide_eq_true (by omega)) ?_
   refine zV [(2,.int .i64 up),(3,U.box 0 0),(11,U.bool (decide (lo≤a))),(13,.int .i64 a),(15,.int .i64 b)] [] ([SB.box [.int .i64 a,.int .i64 b]]) (.c4 rfl rfl rfl rfl (.cons rfl (.nil rfl))) rfl rfl fun fr=>?_
   refine zCh rfl rfl rfl (za rfl rfl (decide_eq_true (by omega)) ?_)
   refine zC rfl (o_gS rfl rfl rfl rfl (decide_eq_false (by omega)) ?_)
   refine o_gS rfl rfl rfl rfl (decide_eq_false (by omega)) ?_
   refine o_gS rfl rfl rfl rfl (decide_eq_false (by omega)) ?_
   refine o_gS rfl rfl rfl rfl (decide_eq_false (by omega)) ?_
   refine zN rfl rfl (decide_eq_false (by omega)) ?_
   refine zB rfl (zA (zU ?_))
   refine⟨.inr rfl,_,.cons _ _ _ _ (.tmp 6) .nil,?_⟩
   exact .refl _
 ·rw[decide_eq_false h,Bool.false_and]
  refine kQ (zc rfl rfl (zB rfl (zA ?_)))
  refine zH [(1,.int .i64 lo),(2,.int .i64 up),(3,U.box 0 0)] ([SB.box [.int .i64 a,.int .i64 b]]) (.cons rfl (.cons rfl (.cons rfl (.nil rfl)))) rfl fun fr=>?_
  refine kQ (zC rfl (zE rfl rfl wd (zF rfl rfl rfl sh3 rfl (zCh rfl rfl rfl (zC rfl (o_gS rfl rfl rfl rfl (decide_eq_false (by omega)) ?_))))))
  refine o_gS rfl rfl rfl rfl (decide_eq_false (by omega)) ?_
  refine o_gS rfl rfl rfl rfl (decide_eq_false (by omega)) ?_
  refine o_gS rfl rfl rfl rfl (decide_eq_false (by omega)) ?_
  refine zV [(2,.int .i64 up),(3,U.box 0 0),(11,U.bool (decide (lo≤a))),(13,U.tup []),(15,U.tup [])] [] ([SB.box [.int .i64 a,.int .i64 b]]) (.c4 rfl rfl rfl rfl (.cons rfl (.nil rfl))) rfl rfl fun fr=>?_
  refine o_gS rfl rfl rfl rfl (decide_eq_false (by omega)) ?_
  refine zN rfl rfl (decide_eq_false (by omega)) ?_
  refine zC rfl (o_gS rfl rfl rfl rfl rfl (o_gS rfl rfl rfl rfl rfl (o_gS rfl rfl rfl rfl rfl (o_gS rfl rfl rfl rfl rfl (zN rfl rfl rfl ?_)))))
  refine zB rfl (zA (zU ?_))
  refine⟨.inr rfl,_,.cons _ _ _ _ (.tmp 6) .nil,?_⟩
  exact .refl _
theorem ret48(hi:Off is)(a b:Int):RetP Tryd.prog is orc 48 [.int .i64 a,.int .i64 b] (wB a b):=by
 refine zk body48 pure48 (hi 48 (by decide)) rfl rfl (yM (.int _ _ _) (.int _ _ _)) (.inl (yq a b 6)) ?_
 refine kQ (zi rfl ze24 ?_)
 refine zA ?_
 refine zH [(0,.int .i64 a),(1,.int .i64 b),(4,U.box 0 0)] ([SB.box [.int .i64 0,.int .i64 0]]) (.cons rfl (.cons rfl (.cons rfl (.nil rfl)))) rfl fun fr=>?_
 refine kQ (zC rfl (zC rfl (yp rfl ze24 pl24 rfl rfl ?_)))
 refine zZ rfl rfl sh24 rfl rfl rfl rfl rfl ?_
 refine zA (zU ?_)
 refine⟨.inr rfl,_,.cons _ _ _ _ (.cellN 4 24 _ _ _ _ rfl rfl sh24 rfl) .nil,?_⟩
 exact .refl _
theorem ret40(hi:Off is)(a b n:Int):RetP Tryd.prog is orc 40 [wB a b,.int .i64 n] (.bool (inS a b n)):=by
 have q52:=zFQ (orc:=orc) hi n a b
 refine zk body40 pure40 (hi 40 (by decide)) rfl rfl (yM (yq a b 6) (.int _ _ _)) (.inl (.bool _ _)) ?_
 refine kQ (zc rfl rfl (zB rfl (zA ?_)))
 refine zH [(1,.int .i64 n),(2,U.box 0 0)] ([SB.box [.int .i64 a,.int .i64 b]]) (.cons rfl (.cons rfl (.nil rfl))) rfl fun fr=>?_
 refine kQ (zC rfl (zE rfl rfl wd (zF rfl rfl rfl sh3 rfl (zE rfl rfl wc (zF rfl rfl rfl sh3 rfl (zP rfl (q52) (.lrefl _) (zB rfl (zA ?_))))))))
 refine zU ?_
 refine⟨.inr rfl,_,.cons _ _ _ _ (.tmp 4) .nil,?_⟩
 exact .refl _
set_option maxHeartbeats 4000000 in
theorem ret92(hi:Off is)(a b:Int)(l:List Int)(hl:l.length≤4096):RetP Tryd.prog is orc 92 [wB a b,.lst .ro 1 (zG l)] (.bool (l.all (inS a b))):=by
 refine zk body92 pure92 (hi 92 (by decide)) rfl rfl (yM (yq a b 6) (zr 6 .ro (fun h=>by cases h) 1 l)) (.inl (.bool _ _)) ?_
 refine kQ (zc rfl rfl (zB rfl (zA ?_)))
 refine zH [(1,.lst .ro 1 (zG l)),(2,U.box 0 0)] ([SB.box [.int .i64 a,.int .i64 b]]) (.cons rfl (.cons rfl (.nil rfl))) rfl fun fr=>?_
 refine k_seq (kQ (zC rfl (yF rfl ty22 rfl (List.length_map _) ?_)))
 refine zC rfl (zA (zL ?_))
 refine yh (fun kk s2=>∃i:Nat,kk+i=l.length∧(l.take i).all (inS a b)=true∧s2.st=[.box [.int .i64 a,.int .i64 b]]∧Holds s2 [(2,.box 0 0),(7,.lst .ro 1 (zG l)),(8,.int .i64 l.length),(9,.int .i64 i)]) (fun kk s2 hI=>?_) l.length _ ⟨0,rfl,rfl,rfl,.c4 rfl rfl rfl rfl (.nil rfl)⟩
 obtain⟨i,hk,hall,hst2,hs2⟩:=hI
 refine zH _ _ hs2 hst2 fun fr2=>?_
 by_cases hin:i<l.length
 ·obtain⟨x,hx⟩:∃x,l[i]? =some x:=⟨l[i],List.getElem?_eq_getElem hin⟩
  have q90:=ret90 (orc:=orc) hi a b x
  cases hc:inS a b x with
  |true=>
   rw[hc]at q90
   refine kQ (zf rfl rfl rfl (zA (k_seq (k_cT rfl (decide_eq_true (by omega)) (zQ (k_seq (zL (kQ ?_))))))))
   refine yD (u:=.int .i64 (x)) rfl ty22 rfl rfl (Int.natCast_nonneg _) (by simp[hx]) cl3 ?_
   refine zT rfl rfl sh3 rfl ?_
   refine zB rfl (zA (kQ (zJ rfl rfl rfl sh24 rfl (zC rfl (zP rfl (q90) (.lrefl _) (yu rfl rfl (zA (k_cF rfl rfl ?_))))))))
   refine zQ (k_region ?_)
   refine yO rfl rfl rfl (by unfold I64;omega) (zC rfl (zA ?_))
   exact⟨kk - 1,by omega,i+1,by omega,all_take hx hall hc,rfl,.c4 rfl rfl rfl rfl (.nil rfl)⟩
  |false=>
   rw[hc]at q90
   rw[all_not hx hc]
   refine kQ (zf rfl rfl rfl (zA (k_seq (k_cT rfl (decide_eq_true (by omega)) (zQ (k_seq (zL (kQ ?_))))))))
   refine yD (u:=.int .i64 (x)) rfl ty22 rfl rfl (Int.natCast_nonneg _) (by simp[hx]) cl3 ?_
   refine zT rfl rfl sh3 rfl ?_
   refine zB rfl (zA (kQ (zJ rfl rfl rfl sh24 rfl (zC rfl (zP rfl (q90) (.lrefl _) (yu rfl rfl (zA (k_cT rfl rfl ?_))))))))
   refine kQ (zB rfl (zA (zU ?_)))
   refine⟨.inr rfl,_,.cons _ _ _ _ (.tmp 4) .nil,?_⟩
   exact .refl _
 ·have hiN:i=l.length:=by omega
  subst hiN
  rw[List.take_length]at hall
  rw[hall]
  refine kQ (zf rfl rfl rfl (zA (k_seq (k_cF rfl (decide_eq_false (by omega)) (yP (kQ (zB rfl (zA ?_))))))))
  refine zU ?_
  refine⟨.inr rfl,_,.cons _ _ _ _ (.tmp 4) .nil,?_⟩
  exact .refl _
def spB(a b:Int)(q:Two):Bool:=decide (q.a≤q.b)&&[q.a,q.b].all (inS a b)
theorem grow{V Y e e2:List SB}(h:V++e=Y):Y++e2=V++(e++e2):=by rw[←h,List.append_assoc]
set_option maxHeartbeats 4000000 in
theorem ret93(hi:Off is)(a b:Int)(l:List Two)(hl:l.length≤4096):RetP Tryd.prog is orc 93 [wB a b,.lst .ro 2 (zu l)] (.bool (l.all (spB a b))):=by
 refine zk body93 pure93 (hi 93 (by decide)) rfl rfl (yM (yq a b 6) (zBD l .ro (fun h=>by cases h) 6)) (.inl (.bool _ _)) ?_
 refine kQ (zc rfl rfl (zB rfl (zA ?_)))
 refine zH [(1,.lst .ro 2 (zu l)),(2,U.box 0 0)] ([SB.box [.int .i64 a,.int .i64 b]]) (.cons rfl (.cons rfl (.nil rfl))) rfl fun fr=>?_
 refine k_seq (kQ (zC rfl (yF rfl ty66 rfl (List.length_map _) ?_)))
 refine zC rfl (zA (zL ?_))
 obtain⟨V,hV⟩:∃V:List SB,V=[.box [.int .i64 a,.int .i64 b]]:=⟨_,rfl⟩
 refine yh (fun kk s2=>∃i:Nat,kk+i=l.length∧(l.take i).all (spB a b)=true∧(∃e,s2.st=V++e)∧Holds s2 [(2,.box 0 0),(7,.lst .ro 2 (zu l)),(8,.int .i64 l.length),(9,.int .i64 i)]) (fun kk s2 hI=>?_) l.length _ ⟨0,rfl,rfl,⟨[],by rw[hV];rfl⟩,.c4 rfl rfl rfl rfl (.nil rfl)⟩
 obtain⟨i,hk,hall,⟨e,hst2⟩,hs2⟩:=hI
 generalize hY:V++e=Y at hst2
 have y0:Y[0]? =some (.box [.int .i64 a,.int .i64 b]):=by rw[←hY,hV];rfl
 refine zH _ _ hs2 hst2 fun fr2=>?_
 by_cases hin:i<l.length
 ·obtain⟨x,hx⟩:∃x,l[i]? =some x:=⟨l[i],List.getElem?_eq_getElem hin⟩
  have q92:=ret92 (orc:=orc) hi a b [x.a,x.b] (by simp)
  cases hc:spB a b x with
  |true=>
   have hc':=hc
   unfold spB at hc'
   rw[Bool.and_eq_true,decide_eq_true_eq]at hc'
   have h1:=hc'.1
   rw[hc'.2]at q92
   refine kQ (zf rfl rfl rfl (zA (k_seq (k_cT rfl (decide_eq_true (by omega)) (zQ (k_seq (zL (kQ ?_))))))))
   refine yD (u:=(x).u) rfl ty66 rfl rfl (Int.natCast_nonneg _) (by simp[hx]) cl24 ?_
   refine wJ rfl rfl sh24 rfl ?_
   refine zi rfl ze24 ?_
   refine zZ rfl (zp _ _) sh24 rfl rfl rfl rfl rfl ?_
   refine zA ?_
   refine zH [(2,U.box 0 0),(6,U.box (List.length Y) 0),(7,.lst .ro 2 (zu l)),(8,.int .i64 ↑(List.length l)),(9,.int .i64 ↑i)] (Y++[SB.box [.int .i64 x.a,.int .i64 x.b]]) (.c4 rfl rfl rfl rfl (.cons rfl (.nil rfl))) (yx _ _ _) fun fr=>?_
   refine kQ (zE rfl rfl wd (zF rfl rfl (zp _ _) sh3 rfl ?_))
   refine zE rfl rfl wc (zF rfl rfl (zp _ _) sh3 rfl ?_)
   refine zBj rfl rfl rfl (zC rfl (o_gD rfl rfl rfl rfl (decide_eq_false (by omega)) (zJ rfl rfl (zo y0) sh24 rfl ?_)))
   refine o_gD rfl rfl rfl rfl (decide_eq_false (by omega)) (zE rfl rfl wd (o_gD rfl rfl rfl rfl (decide_eq_false (by omega)) (zF rfl rfl (zp _ _) sh3 rfl ?_)))
   refine zV [(2,U.box 0 0),(6,U.box (List.length Y) 0),(7,.lst .ro 2 (zu l)),(8,.int .i64 ↑(List.length l)),(9,.int .i64 ↑i),(18,U.bool (decide (Two.b x<Two.a x))),(19,U.agg [.int .i64 a,.int .i64 b]),(20,U.box (List.length Y) 0),(21,.int .i64 x.a)] [] (Y++[SB.box [.int .i64 x.a,.int .i64 x.b]]) (.c4 rfl rfl rfl rfl (.c4 rfl rfl rfl rfl (.cons rfl (.nil rfl)))) rfl rfl fun fr=>?_
   refine o_gD rfl rfl rfl rfl (decide_eq_false (by omega)) ?_
   refine zV [(2,U.box 0 0),(6,U.box (List.length Y) 0),(7,.lst .ro 2 (zu l)),(8,.int .i64 ↑(List.length l)),(9,.int .i64 ↑i),(18,U.bool (decide (Two.b x<Two.a x))),(19,U.agg [.int .i64 a,.int .i64 b]),(20,U.box (List.length Y) 0),(21,.int .i64 x.a)] [] (Y++[SB.box [.int .i64 x.a,.int .i64 x.b]]) (.c4 rfl rfl rfl rfl (.c4 rfl rfl rfl rfl (.cons rfl (.nil rfl)))) rfl rfl fun fr=>?_
   refine zE rfl rfl wc (o_gD rfl rfl rfl rfl (decide_eq_false (by omega)) (zF rfl rfl (zp _ _) sh3 rfl ?_))
   refine o_gD rfl rfl rfl rfl (decide_eq_false (by omega)) (wb (es:=[.int .i64 (Two.a x),.int .i64 (Two.b x)]) rfl ty22 ze3 cl3 rfl rfl rfl rfl rfl rfl rfl rfl ?_)
   refine o_gD rfl rfl rfl rfl (decide_eq_false (by omega)) (zP rfl (q92) (.lcons _ _ _ _ (.refl _) (.lcons _ _ _ _ (.ro _ _ _) (.lrefl _))) ?_)
   refine o_gD rfl rfl rfl rfl (decide_eq_false (by omega)) (yu rfl rfl (zN rfl rfl (decide_eq_false (by omega)) ?_))
   refine zA ?_
   refine zH [(2,U.box 0 0),(7,.lst .ro 2 (zu l)),(8,.int .i64 ↑(List.length l)),(9,.int .i64 ↑i),(19,U.agg [.int .i64 a,.int .i64 b]),(20,U.box (List.length Y) 0),(21,.int .i64 x.a),(22,U.box (List.length Y) 1),(23,.int .i64 x.b),(24,.lst .full 1 [.int .i64 x.a,.int .i64 x.b]),(25,.bool true),(26,U.bool !Bool.true),(27,U.bool !Bool.true)] (Y++[SB.box [.int .i64 x.a,.int .i64 x.b]]) (.c4 rfl rfl rfl rfl (.c4 rfl rfl rfl rfl (.c4 rfl rfl rfl rfl (.cons rfl (.nil rfl))))) rfl fun fr=>?_
   refine k_cF rfl rfl ?_
   refine zQ (k_region ?_)
   refine yO rfl rfl rfl (by unfold I64;omega) (zC rfl (zA ?_))
   exact⟨kk - 1,by omega,i+1,by omega,all_take hx hall hc,⟨_,by show Y++_=_;exact grow hY⟩,.c4 rfl rfl rfl rfl (.nil rfl)⟩
  |false=>
   rw[all_not hx hc]
   unfold spB at hc
   by_cases h1:x.a≤x.b
   ·rw[decide_eq_true h1,Bool.true_and]at hc
    rw[hc]at q92
    refine kQ (zf rfl rfl rfl (zA (k_seq (k_cT rfl (decide_eq_true (by omega)) (zQ (k_seq (zL (kQ ?_))))))))
    refine yD (u:=(x).u) rfl ty66 rfl rfl (Int.natCast_nonneg _) (by simp[hx]) cl24 ?_
    refine wJ rfl rfl sh24 rfl ?_
    refine zi rfl ze24 ?_
    refine zZ rfl (zp _ _) sh24 rfl rfl rfl rfl rfl ?_
    refine zA ?_
    refine zH [(2,U.box 0 0),(6,U.box (List.length Y) 0),(7,.lst .ro 2 (zu l)),(8,.int .i64 ↑(List.length l)),(9,.int .i64 ↑i)] (Y++[SB.box [.int .i64 x.a,.int .i64 x.b]]) (.c4 rfl rfl rfl rfl (.cons rfl (.nil rfl))) (yx _ _ _) fun fr=>?_
    refine kQ (zE rfl rfl wd (zF rfl rfl (zp _ _) sh3 rfl ?_))
    refine zE rfl rfl wc (zF rfl rfl (zp _ _) sh3 rfl ?_)
    refine zBj rfl rfl rfl (zC rfl (o_gD rfl rfl rfl rfl (decide_eq_false (by omega)) (zJ rfl rfl (zo y0) sh24 rfl ?_)))
    refine o_gD rfl rfl rfl rfl (decide_eq_false (by omega)) (zE rfl rfl wd (o_gD rfl rfl rfl rfl (decide_eq_false (by omega)) (zF rfl rfl (zp _ _) sh3 rfl ?_)))
    refine zV [(2,U.box 0 0),(6,U.box (List.length Y) 0),(7,.lst .ro 2 (zu l)),(8,.int .i64 ↑(List.length l)),(9,.int .i64 ↑i),(18,U.bool (decide (Two.b x<Two.a x))),(19,U.agg [.int .i64 a,.int .i64 b]),(20,U.box (List.length Y) 0),(21,.int .i64 x.a)] [] (Y++[SB.box [.int .i64 x.a,.int .i64 x.b]]) (.c4 rfl rfl rfl rfl (.c4 rfl rfl rfl rfl (.cons rfl (.nil rfl)))) rfl rfl fun fr=>?_
    refine o_gD rfl rfl rfl rfl (decide_eq_false (by omega)) ?_
    refine zV [(2,U.box 0 0),(6,U.box (List.length Y) 0),(7,.lst .ro 2 (zu l)),(8,.int .i64 ↑(List.length l)),(9,.int .i64 ↑i),(18,U.bool (decide (Two.b x<Two.a x))),(19,U.agg [.int .i64 a,.int .i64 b]),(20,U.box (List.length Y) 0),(21,.int .i64 x.a)] [] (Y++[SB.box [.int .i64 x.a,.int .i64 x.b]]) (.c4 rfl rfl rfl rfl (.c4 rfl rfl rfl rfl (.cons rfl (.nil rfl)))) rfl rfl fun fr=>?_
    refine zE rfl rfl wc (o_gD rfl rfl rfl rfl (decide_eq_false (by omega)) (zF rfl rfl (zp _ _) sh3 rfl ?_))
    refine o_gD rfl rfl rfl rfl (decide_eq_false (by omega)) (wb (es:=[.int .i64 (Two.a x),.int .i64 (Two.b x)]) rfl ty22 ze3 cl3 rfl rfl rfl rfl rfl rfl rfl rfl ?_)
    refine o_gD rfl rfl rfl rfl (decide_eq_false (by omega)) (zP rfl (q92) (.lcons _ _ _ _ (.refl _) (.lcons _ _ _ _ (.ro _ _ _) (.lrefl _))) ?_)
    refine o_gD rfl rfl rfl rfl (decide_eq_false (by omega)) (yu rfl rfl (zN rfl rfl (decide_eq_false (by omega)) ?_))
    refine zA ?_
    refine zH [(2,U.box 0 0),(7,.lst .ro 2 (zu l)),(8,.int .i64 ↑(List.length l)),(9,.int .i64 ↑i),(19,U.agg [.int .i64 a,.int .i64 b]),(20,U.box (List.length Y) 0),(21,.int .i64 x.a),(22,U.box (List.length Y) 1),(23,.int .i64 x.b),(24,.lst .full 1 [.int .i64 x.a,.int .i64 x.b]),(25,.bool false),(26,U.bool !Bool.false),(27,U.bool !Bool.false)] (Y++[SB.box [.int .i64 x.a,.int .i64 x.b]]) (.c4 rfl rfl rfl rfl (.c4 rfl rfl rfl rfl (.c4 rfl rfl rfl rfl (.cons rfl (.nil rfl))))) rfl fun fr=>?_
    refine k_cT rfl rfl ?_
    refine kQ (zB rfl (zA (zU ?_)))
    refine⟨.inr rfl,_,.cons _ _ _ _ (.tmp 4) .nil,?_⟩
    exact .refl _
   ·refine kQ ?_
    refine zf rfl rfl rfl (zA (k_seq (k_cT rfl (decide_eq_true (by omega)) (zQ (k_seq (zL (kQ (yD (u:=(x).u) rfl ty66 rfl rfl (Int.natCast_nonneg _) (by simp[hx]) cl24 ?_))))))))
    refine wJ rfl rfl sh24 rfl ?_
    refine zi rfl ze24 ?_
    refine zZ rfl (zp _ _) sh24 rfl rfl rfl rfl rfl ?_
    refine zA ?_
    refine zH [(2,U.box 0 0),(6,U.box (List.length Y) 0),(7,.lst .ro 2 (zu l)),(8,.int .i64 ↑(List.length l)),(9,.int .i64 ↑i)] (Y++[SB.box [.int .i64 x.a,.int .i64 x.b]]) (.c4 rfl rfl rfl rfl (.cons rfl (.nil rfl))) (yx _ _ _) fun fr=>?_
    refine kQ (zE rfl rfl wd (zF rfl rfl (zp _ _) sh3 rfl ?_))
    refine zE rfl rfl wc (zF rfl rfl (zp _ _) sh3 rfl ?_)
    refine zBj rfl rfl rfl (zC rfl (o_gS rfl rfl rfl rfl (decide_eq_true (by omega)) (o_gS rfl rfl rfl rfl (decide_eq_true (by omega)) (o_gS rfl rfl rfl rfl (decide_eq_true (by omega)) ?_))))
    refine zV [(2,U.box 0 0),(6,U.box (List.length Y) 0),(7,.lst .ro 2 (zu l)),(8,.int .i64 ↑(List.length l)),(9,.int .i64 ↑i),(18,U.bool (decide (Two.b x<Two.a x))),(19,U.tup []),(20,U.tup []),(21,U.tup [])] [] (Y++[SB.box [.int .i64 x.a,.int .i64 x.b]]) (.c4 rfl rfl rfl rfl (.c4 rfl rfl rfl rfl (.cons rfl (.nil rfl)))) rfl rfl fun fr=>?_
    refine o_gS rfl rfl rfl rfl (decide_eq_true (by omega)) (o_gS rfl rfl rfl rfl (decide_eq_true (by omega)) (o_gS rfl rfl rfl rfl (decide_eq_true (by omega)) (o_gS rfl rfl rfl rfl (decide_eq_true (by omega)) (o_gS rfl rfl rfl rfl (decide_eq_true (by omega)) (za rfl rfl (decide_eq_true (by omega)) ?_)))))
    refine zA ?_
    refine zH [(2,U.box 0 0),(7,.lst .ro 2 (zu l)),(8,.int .i64 ↑(List.length l)),(9,.int .i64 ↑i),(19,U.tup []),(20,U.tup []),(21,U.tup []),(22,U.tup []),(23,U.tup []),(24,U.tup []),(25,U.tup []),(26,U.tup []),(27,.bool true)] (Y++[SB.box [.int .i64 x.a,.int .i64 x.b]]) (.c4 rfl rfl rfl rfl (.c4 rfl rfl rfl rfl (.c4 rfl rfl rfl rfl (.cons rfl (.nil rfl))))) rfl fun fr=>?_
    refine k_cT rfl rfl ?_
    refine kQ (zB rfl (zA (zU ?_)))
    refine⟨.inr rfl,_,.cons _ _ _ _ (.tmp 4) .nil,?_⟩
    exact .refl _
 ·have hiN:i=l.length:=by omega
  subst hiN
  rw[List.take_length]at hall
  rw[hall]
  refine kQ (zf rfl rfl rfl (zA (k_seq (k_cF rfl (decide_eq_false (by omega)) (yP (kQ (zB rfl (zA ?_))))))))
  refine zU ?_
  refine⟨.inr rfl,_,.cons _ _ _ _ (.tmp 4) .nil,?_⟩
  exact .refl _
def plB(p:Pl):Bool:=spB 0 500 ⟨p.la,p.lb⟩&&(decide (p.cat.length=4)&&p.cat.all (spB 0 100))
set_option maxHeartbeats 4000000 in
theorem ret91(hi:Off is)(p:Pl):RetP Tryd.prog is orc 91 [p.u] (.bool (plB p)):=by
 have q1:=ret93 (orc:=orc) hi 0 500 [⟨p.la,p.lb⟩] (by simp)
 refine zk body91 pure91 (hi 91 (by decide)) rfl rfl (zAH (dat_pl p 5)) (.inl (.bool _ _)) ?_
 unfold plB
 rw[show [(⟨p.la,p.lb⟩:Two)].all (spB 0 500)=spB 0 500 ⟨p.la,p.lb⟩ by simp]at q1
 cases h1:spB 0 500 ⟨p.la,p.lb⟩with
 |false=>
  rw[h1]at q1
  rw[Bool.false_and]
  refine kQ (zc rfl rfl (zB rfl (zA ?_)))
  refine zH [(1,U.box 0 0)] ([SB.box [.int .i64 (Pl.la p),.int .i64 (Pl.lb p),.lst .ro 2 (zu (Pl.cat p))]]) (.cons rfl (.nil rfl)) rfl fun fr=>?_
  refine kQ (o_gpair (i:=7) (c:=2) (n:=10) sh24 rfl rfl zEV cl24 rfl rfl rfl (gatB 7 (by decide)) rfl ?_)
  refine zE rfl rfl zCw (zJ rfl rfl rfl sh24 rfl (wb (es:=[U.agg [.int .i64 (Pl.la p),.int .i64 (Pl.lb p)]]) rfl ty66 ze24 cl24 rfl rfl rfl rfl rfl rfl rfl rfl ?_))
  refine zP rfl (q1) (.lcons _ _ _ _ (.refl _) (.lcons _ _ _ _ (.ro _ _ _) (.lrefl _))) ?_
  refine zC rfl (o_gS rfl rfl rfl rfl rfl (o_gS rfl rfl rfl rfl rfl ?_))
  refine zV [(1,U.box 0 0),(9,.bool false),(11,U.tup [])] [] ([SB.box [.int .i64 (Pl.la p),.int .i64 (Pl.lb p),.lst .ro 2 (zu (Pl.cat p))]]) (.cons rfl (.cons rfl (.cons rfl (.nil rfl)))) rfl rfl fun fr=>?_
  refine o_gS rfl rfl rfl rfl rfl (o_gS rfl rfl rfl rfl rfl (zN rfl rfl rfl ?_))
  refine zC rfl (o_gS rfl rfl rfl rfl rfl (o_gS rfl rfl rfl rfl rfl (o_gS rfl rfl rfl rfl rfl (o_gS rfl rfl rfl rfl rfl (o_gS rfl rfl rfl rfl rfl ?_)))))
  refine zV [(15,.bool false),(20,U.tup [])] [] ([SB.box [.int .i64 (Pl.la p),.int .i64 (Pl.lb p),.lst .ro 2 (zu (Pl.cat p))]]) (.cons rfl (.cons rfl (.nil rfl))) rfl rfl fun fr=>?_
  refine zN rfl rfl rfl ?_
  refine zB rfl (zA (zU ?_))
  refine⟨.inr rfl,_,.cons _ _ _ _ (.tmp 2) .nil,?_⟩
  exact .refl _
 |true=>
  rw[h1]at q1
  rw[Bool.true_and]
  by_cases h4:p.cat.length=4
  ·have q2:=ret93 (orc:=orc) hi 0 100 p.cat (by omega)
   rw[decide_eq_true h4,Bool.true_and]
   generalize p.cat.all (spB 0 100)=c at q2
   refine kQ (zc rfl rfl (zB rfl (zA ?_)))
   refine zH [(1,U.box 0 0)] ([SB.box [.int .i64 (Pl.la p),.int .i64 (Pl.lb p),.lst .ro 2 (zu (Pl.cat p))]]) (.cons rfl (.nil rfl)) rfl fun fr=>?_
   refine kQ (o_gpair (i:=7) (c:=2) (n:=10) sh24 rfl rfl zEV cl24 rfl rfl rfl (gatB 7 (by decide)) rfl ?_)
   refine zE rfl rfl zCw (zJ rfl rfl rfl sh24 rfl (wb (es:=[U.agg [.int .i64 (Pl.la p),.int .i64 (Pl.lb p)]]) rfl ty66 ze24 cl24 rfl rfl rfl rfl rfl rfl rfl rfl ?_))
   refine zP rfl (q1) (.lcons _ _ _ _ (.refl _) (.lcons _ _ _ _ (.ro _ _ _) (.lrefl _))) ?_
   refine zC rfl (o_gD rfl rfl rfl rfl rfl (zE rfl rfl zCv (o_gD rfl rfl rfl rfl rfl (zF rfl rfl rfl sh66 rfl ?_))))
   refine zV [(1,U.box 0 0),(9,.bool true),(11,.lst .ro 2 (zu (Pl.cat p)))] [] ([SB.box [.int .i64 (Pl.la p),.int .i64 (Pl.lb p),.lst .ro 2 (zu (Pl.cat p))]]) (.cons rfl (.cons rfl (.cons rfl (.nil rfl)))) rfl rfl fun fr=>?_
   refine o_gD rfl rfl rfl rfl rfl ?_
   refine zV [(1,U.box 0 0),(9,.bool true),(11,.lst .ro 2 (zu (Pl.cat p)))] [] ([SB.box [.int .i64 (Pl.la p),.int .i64 (Pl.lb p),.lst .ro 2 (zu (Pl.cat p))]]) (.cons rfl (.cons rfl (.cons rfl (.nil rfl)))) rfl rfl fun fr=>?_
   refine yF rfl ty66 rfl (List.length_map _) ?_
   refine o_gD rfl rfl rfl rfl rfl (zAt rfl rfl rfl (za rfl rfl rfl ?_))
   refine zC rfl (o_gD rfl rfl rfl rfl (decide_eq_true (by omega)) ?_)
   refine zBY (i:=8) (c:=2) (n:=10) sh24 rfl rfl rfl (decide_eq_true (by omega)) rfl rfl zEV cl24 rfl rfl rfl (gatB 8 (by decide)) rfl ?_
   refine o_gD rfl rfl rfl rfl (decide_eq_true (by omega)) ?_
   refine zE rfl rfl zCv (o_gD rfl rfl rfl rfl (decide_eq_true (by omega)) ?_)
   refine zF rfl rfl rfl sh66 rfl (o_gD rfl rfl rfl rfl (decide_eq_true (by omega)) ?_)
   refine zP rfl (q2) (.lrefl _) ?_
   refine zV [(15,U.bool (decide (↑(List.length (Pl.cat p))=(4:Int)))),(20,U.bool c)] [] ([SB.box [.int .i64 (Pl.la p),.int .i64 (Pl.lb p),.lst .ro 2 (zu (Pl.cat p))]]) (.cons rfl (.cons rfl (.nil rfl))) rfl rfl fun fr=>?_
   refine za rfl rfl (decide_eq_true (by omega)) ?_
   refine zB rfl (zA (zU ?_))
   refine⟨.inr rfl,_,.cons _ _ _ _ (.tmp 2) .nil,?_⟩
   exact .refl _
  ·rw[decide_eq_false h4,Bool.false_and]
   refine kQ (zc rfl rfl (zB rfl (zA ?_)))
   refine zH [(1,U.box 0 0)] ([SB.box [.int .i64 (Pl.la p),.int .i64 (Pl.lb p),.lst .ro 2 (zu (Pl.cat p))]]) (.cons rfl (.nil rfl)) rfl fun fr=>?_
   refine kQ (o_gpair (i:=7) (c:=2) (n:=10) sh24 rfl rfl zEV cl24 rfl rfl rfl (gatB 7 (by decide)) rfl ?_)
   refine zE rfl rfl zCw (zJ rfl rfl rfl sh24 rfl (wb (es:=[U.agg [.int .i64 (Pl.la p),.int .i64 (Pl.lb p)]]) rfl ty66 ze24 cl24 rfl rfl rfl rfl rfl rfl rfl rfl ?_))
   refine zP rfl (q1) (.lcons _ _ _ _ (.refl _) (.lcons _ _ _ _ (.ro _ _ _) (.lrefl _))) ?_
   refine zC rfl (o_gD rfl rfl rfl rfl rfl (zE rfl rfl zCv (o_gD rfl rfl rfl rfl rfl (zF rfl rfl rfl sh66 rfl ?_))))
   refine zV [(1,U.box 0 0),(9,.bool true),(11,.lst .ro 2 (zu (Pl.cat p)))] [] ([SB.box [.int .i64 (Pl.la p),.int .i64 (Pl.lb p),.lst .ro 2 (zu (Pl.cat p))]]) (.cons rfl (.cons rfl (.cons rfl (.nil rfl)))) rfl rfl fun fr=>?_
   refine o_gD rfl rfl rfl rfl rfl ?_
   refine zV [(1,U.box 0 0),(9,.bool true),(11,.lst .ro 2 (zu (Pl.cat p)))] [] ([SB.box [.int .i64 (Pl.la p),.int .i64 (Pl.lb p),.lst .ro 2 (zu (Pl.cat p))]]) (.cons rfl (.cons rfl (.cons rfl (.nil rfl)))) rfl rfl fun fr=>?_
   refine yF rfl ty66 rfl (List.length_map _) ?_
   refine o_gD rfl rfl rfl rfl rfl (zAt rfl rfl rfl (za rfl rfl rfl ?_))
   refine zC rfl (o_gS rfl rfl rfl rfl (decide_eq_false (by omega)) ?_)
   refine o_gS rfl rfl rfl rfl (decide_eq_false (by omega)) ?_
   refine o_gS rfl rfl rfl rfl (decide_eq_false (by omega)) ?_
   refine o_gS rfl rfl rfl rfl (decide_eq_false (by omega)) ?_
   refine o_gS rfl rfl rfl rfl (decide_eq_false (by omega)) ?_
   refine zV [(15,U.bool (decide (↑(List.length (Pl.cat p))=(4:Int)))),(20,U.tup [])] [] ([SB.box [.int .i64 (Pl.la p),.int .i64 (Pl.lb p),.lst .ro 2 (zu (Pl.cat p))]]) (.cons rfl (.cons rfl (.nil rfl))) rfl rfl fun fr=>?_
   refine zN rfl rfl (decide_eq_false (by omega)) ?_
   refine zB rfl (zA (zU ?_))
   refine⟨.inr rfl,_,.cons _ _ _ _ (.tmp 2) .nil,?_⟩
   exact .refl _
end
section
variable {is:FuncId→Bool}{orc:Known}
theorem cl68:Program.cellsOf Tryd.prog 68=3:=by kernel_rfl
theorem wU:zz Tryd.prog 27 0=some (0,3):=by kernel_rfl
theorem yZ:zz Tryd.prog 27 1=some (1,3):=by kernel_rfl
theorem zCy:zz Tryd.prog 27 2=some (2,22):=by kernel_rfl
theorem zEp:zz Tryd.prog 27 3=some (3,3):=by kernel_rfl
theorem zEo:zz Tryd.prog 27 4=some (4,3):=by kernel_rfl
theorem zGa:zz Tryd.prog 27 5=some (5,24):=by kernel_rfl
theorem zGZ:zz Tryd.prog 27 6=some (7,24):=by kernel_rfl
theorem zCx:zz Tryd.prog 27 7=some (9,3):=by kernel_rfl
theorem yd:zz Tryd.prog 27 8=some (10,25):=by kernel_rfl
theorem sh22:shOf Tryd.prog 22=.one:=by kernel_rfl
theorem sh25:shOf Tryd.prog 25=.one:=by kernel_rfl
theorem sh68:shOf Tryd.prog 68=.many 3:=by kernel_rfl
theorem ty25:tyOf Tryd.prog 25=.slice 68:=by kernel_rfl
theorem ze68:yV Tryd.prog 68=some ((.cons (.int .i64 0) (.cons (.int .i64 0) (.cons .nils .nil))):V):=by kernel_rfl
noncomputable def b58:Code:=(Tryd.f58.body).getD .skip
theorem body58:bodyOf Tryd.prog 58=some (82,b58,[.tmp 2]):=by kernel_rfl
theorem pure58:pureFn Tryd.prog 58=true:=by kernel_rfl
theorem sh27:shOf Tryd.prog 27=.many 11:=by kernel_rfl
noncomputable def b17:Code:=(Tryd.f17.body).getD .skip
theorem body17:bodyOf Tryd.prog 17=some (6,b17,[.tmp 2]):=by kernel_rfl
theorem pure17:pureFn Tryd.prog 17=true:=by kernel_rfl
def vlA(b:Bk):Bool:=decide (b.beats.length=4)&&inS 1 5 b.players.length
def vlB(b:Bk):Bool:=inS 1 8 b.parts&&(inS 1 16 b.size&&(b.beats.all (inS 1 1000)&&([b.start,b.fin].all (inS 0 3)&&(spB 0 128000 ⟨b.tlo,b.thi⟩&&(spB 0 100 ⟨b.slo,b.shi⟩&&inS 1 b.size b.notice)))))
def wl(b:Bk):Bool:=vlA b&&(b.players.all plB&&vlB b)
set_option maxHeartbeats 16000000 in
theorem ret58(hi:Off is)(b:Bk):RetP Tryd.prog is orc 58 [b.u] (.bool (wl b)):=by
 refine zk body58 pure58 (hi 58 (by decide)) rfl rfl (zAH (yK b 4)) (.inl (.bool _ _)) ?_
 unfold wl vlA
 by_cases h4:b.beats.length=4
 ·rw[decide_eq_true h4,Bool.true_and]
  have q5:=ret90 (orc:=orc) hi 1 5 b.players.length
  cases h5:inS 1 5 b.players.length with
  |false=>
   rw[h5]at q5
   rw[Bool.false_and]
   refine kQ (zc rfl rfl (zB rfl (zA ?_)))
   refine zH [(1,U.box 0 0)] ([SB.box (Bk.cs b)]) (.cons rfl (.nil rfl)) rfl fun fr=>?_
   refine k_seq (kQ (zE rfl rfl zCy (zF rfl rfl rfl sh22 rfl (yF rfl ty22 rfl (List.length_map _) ?_))))
   refine wC rfl rfl rfl (zC rfl (o_gD rfl rfl rfl rfl (decide_eq_false (by omega)) (zBY (i:=6) (c:=2) (n:=10) sh24 rfl rfl rfl (decide_eq_false (by omega)) rfl rfl zEV cl24 rfl rfl rfl (gatB 6 (by decide)) rfl ?_)))
   refine o_gD rfl rfl rfl rfl (decide_eq_false (by omega)) (zE rfl rfl yd (o_gD rfl rfl rfl rfl (decide_eq_false (by omega)) (zF rfl rfl rfl sh25 rfl ?_)))
   refine zV [(1,U.box 0 0),(9,U.bool (decide (↑(List.length (Bk.beats b))≠(4:Int)))),(11,U.agg [.int .i64 (loB 6),.int .i64 (hiB 6)]),(13,.lst .ro 3 (plsU (Bk.players b)))] [] ([SB.box (Bk.cs b)]) (.c4 rfl rfl rfl rfl (.nil rfl)) rfl rfl fun fr=>?_
   refine o_gD rfl rfl rfl rfl (decide_eq_false (by omega)) ?_
   refine zV [(1,U.box 0 0),(9,U.bool (decide (↑(List.length (Bk.beats b))≠(4:Int)))),(11,U.agg [.int .i64 (loB 6),.int .i64 (hiB 6)]),(13,.lst .ro 3 (plsU (Bk.players b)))] [] ([SB.box (Bk.cs b)]) (.c4 rfl rfl rfl rfl (.nil rfl)) rfl rfl fun fr=>?_
   refine yF rfl ty25 rfl (List.length_map _) ?_
   refine o_gD rfl rfl rfl rfl (decide_eq_false (by omega)) (zP rfl (q5) (.lrefl _) (o_gD rfl rfl rfl rfl (decide_eq_false (by omega)) (yu rfl rfl (zN rfl rfl (decide_eq_false (by omega)) ?_))))
   refine zA ?_
   refine zH [(1,U.box 0 0),(17,U.bool !Bool.false)] ([SB.box (Bk.cs b)]) (.cons rfl (.cons rfl (.nil rfl))) rfl fun fr=>?_
   refine k_cT rfl rfl ?_
   refine kQ (zB rfl (zA (zU ?_)))
   refine⟨.inr rfl,_,.cons _ _ _ _ (.tmp 2) .nil,?_⟩
   exact .refl _
  |true=>
   rw[h5]at q5
   rw[Bool.true_and]
   have h5':=h5
   unfold inS at h5'
   rw[Bool.and_eq_true,decide_eq_true_eq,decide_eq_true_eq]at h5'
   refine kQ (zc rfl rfl (zB rfl (zA ?_)))
   refine zH [(1,U.box 0 0)] ([SB.box (Bk.cs b)]) (.cons rfl (.nil rfl)) rfl fun fr=>?_
   refine k_seq (kQ (zE rfl rfl zCy (zF rfl rfl rfl sh22 rfl (yF rfl ty22 rfl (List.length_map _) ?_))))
   refine wC rfl rfl rfl (zC rfl (o_gD rfl rfl rfl rfl (decide_eq_false (by omega)) (zBY (i:=6) (c:=2) (n:=10) sh24 rfl rfl rfl (decide_eq_false (by omega)) rfl rfl zEV cl24 rfl rfl rfl (gatB 6 (by decide)) rfl ?_)))
   refine o_gD rfl rfl rfl rfl (decide_eq_false (by omega)) (zE rfl rfl yd (o_gD rfl rfl rfl rfl (decide_eq_false (by omega)) (zF rfl rfl rfl sh25 rfl ?_)))
   refine zV [(1,U.box 0 0),(9,U.bool (decide (↑(List.length (Bk.beats b))≠(4:Int)))),(11,U.agg [.int .i64 (loB 6),.int .i64 (hiB 6)]),(13,.lst .ro 3 (plsU (Bk.players b)))] [] ([SB.box (Bk.cs b)]) (.c4 rfl rfl rfl rfl (.nil rfl)) rfl rfl fun fr=>?_
   refine o_gD rfl rfl rfl rfl (decide_eq_false (by omega)) ?_
   refine zV [(1,U.box 0 0),(9,U.bool (decide (↑(List.length (Bk.beats b))≠(4:Int)))),(11,U.agg [.int .i64 (loB 6),.int .i64 (hiB 6)]),(13,.lst .ro 3 (plsU (Bk.players b)))] [] ([SB.box (Bk.cs b)]) (.c4 rfl rfl rfl rfl (.nil rfl)) rfl rfl fun fr=>?_
   refine yF rfl ty25 rfl (List.length_map _) ?_
   refine o_gD rfl rfl rfl rfl (decide_eq_false (by omega)) (zP rfl (q5) (.lrefl _) (o_gD rfl rfl rfl rfl (decide_eq_false (by omega)) (yu rfl rfl (zN rfl rfl (decide_eq_false (by omega)) ?_))))
   refine zA ?_
   refine zH [(1,U.box 0 0),(17,U.bool !Bool.true)] ([SB.box (Bk.cs b)]) (.cons rfl (.cons rfl (.nil rfl))) rfl fun fr=>?_
   refine k_cF rfl rfl ?_
   refine zQ (k_seq (kQ (zE rfl rfl yd (zF rfl rfl rfl sh25 rfl (yF rfl ty25 rfl (List.length_map _) ?_)))))
   refine zC rfl (zA (zL ?_))
   obtain⟨V,hV⟩:∃V:List SB,V=[.box b.cs]:=⟨_,rfl⟩
   refine yh (fun kk s2=>∃i:Nat,kk+i=b.players.length∧(b.players.take i).all plB=true∧(∃e,s2.st=V++e)∧Holds s2 [(1,.box 0 0),(19,.lst .ro 3 (plsU b.players)),(20,.int .i64 b.players.length),(21,.int .i64 i)]) (fun kk s2 hI=>?_) b.players.length _ ⟨0,rfl,rfl,⟨[],by rw[hV];rfl⟩,.c4 rfl rfl rfl rfl (.nil rfl)⟩
   obtain⟨i,hk,hall,⟨e,hst2⟩,hs2⟩:=hI
   generalize hY:V++e=Y at hst2
   have y0:Y[0]? =some (.box b.cs):=by rw[←hY,hV];rfl
   refine zH _ _ hs2 hst2 fun fr2=>?_
   by_cases hin:i<b.players.length
   ·obtain⟨p,hp⟩:∃p,b.players[i]? =some p:=⟨b.players[i],List.getElem?_eq_getElem hin⟩
    have q91:=ret91 (orc:=orc) hi p
    cases hc:plB p with
    |true=>
     rw[hc]at q91
     refine kQ (zf rfl rfl rfl (zA (k_seq (k_cT rfl (decide_eq_true (by omega)) (zQ (k_seq (zL (kQ ?_))))))))
     refine yD (u:=(p).u) rfl ty25 rfl rfl (Int.natCast_nonneg _) (by simp[hp]) cl68 ?_
     refine wJ rfl rfl sh68 rfl ?_
     refine zi rfl ze68 ?_
     refine zZ rfl (zp _ _) sh68 rfl rfl rfl rfl rfl ?_
     refine zA ?_
     refine zH [(1,U.box 0 0),(4,U.box (List.length Y) 0),(19,.lst .ro 3 (plsU (Bk.players b))),(20,.int .i64 ↑(List.length (Bk.players b))),(21,.int .i64 ↑i)] (Y++[SB.box [.int .i64 (Pl.la p),.int .i64 (Pl.lb p),.lst .ro 2 (zu (Pl.cat p))]]) (.c4 rfl rfl rfl rfl (.cons rfl (.nil rfl))) (yx _ _ _) fun fr=>?_
     refine kQ (zJ rfl rfl (zp _ _) sh68 rfl ?_)
     refine zP rfl (q91) (.lrefl _) (yu rfl rfl (zA (k_cF rfl rfl ?_)))
     refine zQ (k_region ?_)
     refine yO rfl rfl rfl (by unfold I64;omega) (zC rfl (zA ?_))
     exact⟨kk - 1,by omega,i+1,by omega,all_take hp hall hc,⟨_,by show Y++_=_;exact grow hY⟩,.c4 rfl rfl rfl rfl (.nil rfl)⟩
    |false=>
     rw[hc]at q91
     rw[all_not hp hc,Bool.false_and]
     refine kQ (zf rfl rfl rfl (zA (k_seq (k_cT rfl (decide_eq_true (by omega)) (zQ (k_seq (zL (kQ ?_))))))))
     refine yD (u:=(p).u) rfl ty25 rfl rfl (Int.natCast_nonneg _) (by simp[hp]) cl68 ?_
     refine wJ rfl rfl sh68 rfl ?_
     refine zi rfl ze68 ?_
     refine zZ rfl (zp _ _) sh68 rfl rfl rfl rfl rfl ?_
     refine zA ?_
     refine zH [(1,U.box 0 0),(4,U.box (List.length Y) 0),(19,.lst .ro 3 (plsU (Bk.players b))),(20,.int .i64 ↑(List.length (Bk.players b))),(21,.int .i64 ↑i)] (Y++[SB.box [.int .i64 (Pl.la p),.int .i64 (Pl.lb p),.lst .ro 2 (zu (Pl.cat p))]]) (.c4 rfl rfl rfl rfl (.cons rfl (.nil rfl))) (yx _ _ _) fun fr=>?_
     refine kQ (zJ rfl rfl (zp _ _) sh68 rfl ?_)
     refine zP rfl (q91) (.lrefl _) (yu rfl rfl (zA (k_cT rfl rfl ?_)))
     refine kQ (zB rfl (zA (zU ?_)))
     refine⟨.inr rfl,_,.cons _ _ _ _ (.tmp 2) .nil,?_⟩
     exact .refl _
   ·have hiN:i=b.players.length:=by omega
    subst hiN
    rw[List.take_length]at hall
    rw[hall,Bool.true_and]
    refine kQ (zf rfl rfl rfl (zA (k_seq (k_cF rfl (decide_eq_false (by omega)) (yP ?_)))))
    unfold vlB
    have c1:=ret90 (orc:=orc) hi 1 8 b.parts
    have c2:=ret90 (orc:=orc) hi 1 16 b.size
    have c3:=ret92 (orc:=orc) hi 1 1000 b.beats (by omega)
    have c4:=ret92 (orc:=orc) hi 0 3 [b.start,b.fin] (by simp)
    have c5:=ret93 (orc:=orc) hi 0 128000 [⟨b.tlo,b.thi⟩] (by simp)
    have c6:=ret93 (orc:=orc) hi 0 100 [⟨b.slo,b.shi⟩] (by simp)
    have c7:=ret90 (orc:=orc) hi 1 b.size b.notice
    rw[show [(⟨b.tlo,b.thi⟩:Two)].all (spB 0 128000)=spB 0 128000 ⟨b.tlo,b.thi⟩ by simp]at c5
    rw[show [(⟨b.slo,b.shi⟩:Two)].all (spB 0 100)=spB 0 100 ⟨b.slo,b.shi⟩ by simp]at c6
    generalize inS 1 8 b.parts=z1 at c1
    generalize inS 1 16 b.size=z2 at c2
    generalize b.beats.all (inS 1 1000)=z3 at c3
    generalize [b.start,b.fin].all (inS 0 3)=z4 at c4
    generalize spB 0 128000 ⟨b.tlo,b.thi⟩=z5 at c5
    generalize spB 0 100 ⟨b.slo,b.shi⟩=z6 at c6
    generalize inS 1 b.size b.notice=z7 at c7
    refine kQ (o_gpair (i:=0) (c:=2) (n:=10) sh24 rfl rfl zEV cl24 rfl rfl rfl (gatB 0 (by decide)) rfl ?_)
    refine zE rfl rfl wU (zF rfl rfl y0 sh3 rfl ?_)
    refine zP rfl (c1) (.lrefl _) (zC rfl ?_)
    refine wS rfl rfl rfl rfl (fun h34=>?_) (fun h34=>?_)
    ·refine zBY (i:=1) (c:=2) (n:=10) sh24 rfl rfl rfl (by assumption) rfl rfl zEV cl24 rfl rfl rfl (gatB 1 (by decide)) rfl ?_
     refine o_gD rfl rfl rfl rfl (by assumption) (zE rfl rfl yZ ?_)
     refine zV [(1,U.box 0 0),(34,U.bool z1),(36,U.agg [.int .i64 (loB 1),.int .i64 (hiB 1)]),(37,U.box 0 1)] [] (Y) (.c4 rfl rfl rfl rfl (.nil rfl)) rfl rfl fun fr=>?_
     refine o_gD rfl rfl rfl rfl (by assumption) ?_
     refine zV [(1,U.box 0 0),(34,U.bool z1),(36,U.agg [.int .i64 (loB 1),.int .i64 (hiB 1)]),(37,U.box 0 1)] [] (Y) (.c4 rfl rfl rfl rfl (.nil rfl)) rfl rfl fun fr=>?_
     refine zF rfl rfl y0 sh3 rfl ?_
     refine o_gD rfl rfl rfl rfl (by assumption) (zP rfl (c2) (.lrefl _) (za rfl rfl (by assumption) ?_))
     refine zC rfl ?_
     refine wS rfl rfl rfl rfl (fun h41=>?_) (fun h41=>?_)
     ·refine zBY (i:=2) (c:=2) (n:=10) sh24 rfl rfl rfl (by assumption) rfl rfl zEV cl24 rfl rfl rfl (gatB 2 (by decide)) rfl ?_
      refine o_gD rfl rfl rfl rfl (by assumption) (zE rfl rfl zCy (o_gD rfl rfl rfl rfl (by assumption) (zF rfl rfl y0 sh22 rfl ?_)))
      refine o_gD rfl rfl rfl rfl (by assumption) (zP rfl (c3) (.lrefl _) ?_)
      refine zV [(1,U.box 0 0),(41,U.bool z2),(46,U.bool z3)] [] (Y) (.cons rfl (.cons rfl (.cons rfl (.nil rfl)))) rfl rfl fun fr=>?_
      refine za rfl rfl (by assumption) ?_
      refine zC rfl ?_
      refine wS rfl rfl rfl rfl (fun h48=>?_) (fun h48=>?_)
      ·refine zBY (i:=3) (c:=2) (n:=10) sh24 rfl rfl rfl (by assumption) rfl rfl zEV cl24 rfl rfl rfl (gatB 3 (by decide)) rfl ?_
       refine o_gD rfl rfl rfl rfl (by assumption) (zE rfl rfl zEp (o_gD rfl rfl rfl rfl (by assumption) (zF rfl rfl y0 sh3 rfl ?_)))
       refine o_gD rfl rfl rfl rfl (by assumption) (zE rfl rfl zEo (o_gD rfl rfl rfl rfl (by assumption) (zF rfl rfl y0 sh3 rfl ?_)))
       refine o_gD rfl rfl rfl rfl (by assumption) (wb (es:=[.int .i64 (Bk.start b),.int .i64 (Bk.fin b)]) rfl ty22 ze3 cl3 rfl rfl rfl rfl rfl rfl rfl rfl ?_)
       refine zV [(1,U.box 0 0),(48,U.bool z3),(50,U.agg [.int .i64 (loB 3),.int .i64 (hiB 3)]),(55,.lst .full 1 [.int .i64 (Bk.start b),.int .i64 (Bk.fin b)])] [] (Y) (.c4 rfl rfl rfl rfl (.nil rfl)) rfl rfl fun fr=>?_
       refine o_gD rfl rfl rfl rfl (by assumption) ?_
       refine zV [(1,U.box 0 0),(48,U.bool z3),(50,U.agg [.int .i64 (loB 3),.int .i64 (hiB 3)]),(55,.lst .full 1 [.int .i64 (Bk.start b),.int .i64 (Bk.fin b)])] [] (Y) (.c4 rfl rfl rfl rfl (.nil rfl)) rfl rfl fun fr=>?_
       refine zP rfl (c4) (.lcons _ _ _ _ (.refl _) (.lcons _ _ _ _ (.ro _ _ _) (.lrefl _))) ?_
       refine za rfl rfl (by assumption) ?_
       refine zC rfl ?_
       refine wS rfl rfl rfl rfl (fun h58=>?_) (fun h58=>?_)
       ·refine zBY (i:=4) (c:=2) (n:=10) sh24 rfl rfl rfl (by assumption) rfl rfl zEV cl24 rfl rfl rfl (gatB 4 (by decide)) rfl ?_
        refine o_gD rfl rfl rfl rfl (by assumption) (zE rfl rfl zGa (o_gD rfl rfl rfl rfl (by assumption) (zJ rfl rfl y0 sh24 rfl ?_)))
        refine o_gD rfl rfl rfl rfl (by assumption) (wb (es:=[U.agg [.int .i64 (Bk.tlo b),.int .i64 (Bk.thi b)]]) rfl ty66 ze24 cl24 rfl rfl rfl rfl rfl rfl rfl rfl ?_)
        refine o_gD rfl rfl rfl rfl (by assumption) (zP rfl (c5) (.lcons _ _ _ _ (.refl _) (.lcons _ _ _ _ (.ro _ _ _) (.lrefl _))) ?_)
        refine zV [(1,U.box 0 0),(58,U.bool z4),(64,U.bool z5)] [] (Y) (.cons rfl (.cons rfl (.cons rfl (.nil rfl)))) rfl rfl fun fr=>?_
        refine za rfl rfl (by assumption) ?_
        refine zC rfl ?_
        refine wS rfl rfl rfl rfl (fun h66=>?_) (fun h66=>?_)
        ·refine zBY (i:=5) (c:=2) (n:=10) sh24 rfl rfl rfl (by assumption) rfl rfl zEV cl24 rfl rfl rfl (gatB 5 (by decide)) rfl ?_
         refine o_gD rfl rfl rfl rfl (by assumption) (zE rfl rfl zGZ (o_gD rfl rfl rfl rfl (by assumption) (zJ rfl rfl y0 sh24 rfl ?_)))
         refine o_gD rfl rfl rfl rfl (by assumption) (wb (es:=[U.agg [.int .i64 (Bk.slo b),.int .i64 (Bk.shi b)]]) rfl ty66 ze24 cl24 rfl rfl rfl rfl rfl rfl rfl rfl ?_)
         refine o_gD rfl rfl rfl rfl (by assumption) (zP rfl (c6) (.lcons _ _ _ _ (.refl _) (.lcons _ _ _ _ (.ro _ _ _) (.lrefl _))) ?_)
         refine za rfl rfl (by assumption) ?_
         refine zV [(1,U.box 0 0),(73,U.bool z6)] [] (Y) (.cons rfl (.cons rfl (.nil rfl))) rfl rfl fun fr=>?_
         refine zC rfl ?_
         refine wS rfl rfl rfl rfl (fun h74=>?_) (fun h74=>?_)
         ·refine zE rfl rfl yZ ?_
          refine o_gD rfl rfl rfl rfl (by assumption) (zF rfl rfl y0 sh3 rfl ?_)
          refine o_gD rfl rfl rfl rfl (by assumption) (yp rfl ze24 pl24 rfl rfl ?_)
          refine o_gD rfl rfl rfl rfl (by assumption) (zE rfl rfl zCx (o_gD rfl rfl rfl rfl (by assumption) (zF rfl rfl y0 sh3 rfl ?_)))
          refine o_gD rfl rfl rfl rfl (by assumption) (zP rfl (c7) (.lrefl _) (za rfl rfl (by assumption) ?_))
          refine zB rfl (zA (zU ?_))
          refine⟨.inr rfl,_,.cons _ _ _ _ (.tmp 2) .nil,?_⟩
          subst_vars;exact .refl _
         ·refine o_gS rfl rfl rfl rfl (by assumption) ?_
          refine o_gS rfl rfl rfl rfl (by assumption) (o_gS rfl rfl rfl rfl (by assumption) (o_gS rfl rfl rfl rfl (by assumption) (o_gS rfl rfl rfl rfl (by assumption) (zN rfl rfl (by assumption) ?_))))
          refine zB rfl (zA (zU ?_))
          refine⟨.inr rfl,_,.cons _ _ _ _ (.tmp 2) .nil,?_⟩
          subst_vars;exact .refl _
        ·refine o_gS rfl rfl rfl rfl (by assumption) ?_
         refine o_gS rfl rfl rfl rfl (by assumption) (o_gS rfl rfl rfl rfl (by assumption) (o_gS rfl rfl rfl rfl (by assumption) (o_gS rfl rfl rfl rfl (by assumption) (zN rfl rfl (by assumption) ?_))))
         refine zV [(1,U.box 0 0),(73,.bool false)] [] (Y) (.cons rfl (.cons rfl (.nil rfl))) rfl rfl fun fr=>?_
         refine zC rfl (o_gS rfl rfl rfl rfl rfl (o_gS rfl rfl rfl rfl rfl (o_gS rfl rfl rfl rfl rfl (o_gS rfl rfl rfl rfl rfl (o_gS rfl rfl rfl rfl rfl (o_gS rfl rfl rfl rfl rfl (zN rfl rfl rfl ?_)))))))
         refine zB rfl (zA (zU ?_))
         refine⟨.inr rfl,_,.cons _ _ _ _ (.tmp 2) .nil,?_⟩
         subst_vars;exact .refl _
       ·refine o_gS rfl rfl rfl rfl (by assumption) ?_
        refine o_gS rfl rfl rfl rfl (by assumption) (o_gS rfl rfl rfl rfl (by assumption) (o_gS rfl rfl rfl rfl (by assumption) (o_gS rfl rfl rfl rfl (by assumption) ?_)))
        refine zV [(1,U.box 0 0),(58,U.bool z4),(64,U.tup [])] [] (Y) (.cons rfl (.cons rfl (.cons rfl (.nil rfl)))) rfl rfl fun fr=>?_
        refine zN rfl rfl (by assumption) ?_
        refine zC rfl (o_gS rfl rfl rfl rfl rfl (o_gS rfl rfl rfl rfl rfl (o_gS rfl rfl rfl rfl rfl (o_gS rfl rfl rfl rfl rfl (o_gS rfl rfl rfl rfl rfl (o_gS rfl rfl rfl rfl rfl (zN rfl rfl rfl ?_)))))))
        refine zV [(1,U.box 0 0),(73,.bool false)] [] (Y) (.cons rfl (.cons rfl (.nil rfl))) rfl rfl fun fr=>?_
        refine zC rfl (o_gS rfl rfl rfl rfl rfl (o_gS rfl rfl rfl rfl rfl (o_gS rfl rfl rfl rfl rfl (o_gS rfl rfl rfl rfl rfl (o_gS rfl rfl rfl rfl rfl (o_gS rfl rfl rfl rfl rfl (zN rfl rfl rfl ?_)))))))
        refine zB rfl (zA (zU ?_))
        refine⟨.inr rfl,_,.cons _ _ _ _ (.tmp 2) .nil,?_⟩
        subst_vars;exact .refl _
      ·refine o_gS rfl rfl rfl rfl (by assumption) ?_
       refine o_gS rfl rfl rfl rfl (by assumption) (o_gS rfl rfl rfl rfl (by assumption) (o_gS rfl rfl rfl rfl (by assumption) (o_gS rfl rfl rfl rfl (by assumption) (o_gS rfl rfl rfl rfl (by assumption) ?_))))
       refine zV [(1,U.box 0 0),(48,U.bool z3),(50,U.tup []),(55,U.tup [])] [] (Y) (.c4 rfl rfl rfl rfl (.nil rfl)) rfl rfl fun fr=>?_
       refine o_gS rfl rfl rfl rfl (by assumption) (zN rfl rfl (by assumption) ?_)
       refine zC rfl (o_gS rfl rfl rfl rfl rfl (o_gS rfl rfl rfl rfl rfl (o_gS rfl rfl rfl rfl rfl (o_gS rfl rfl rfl rfl rfl (o_gS rfl rfl rfl rfl rfl (o_gS rfl rfl rfl rfl rfl ?_))))))
       refine zV [(1,U.box 0 0),(58,.bool false),(64,U.tup [])] [] (Y) (.cons rfl (.cons rfl (.cons rfl (.nil rfl)))) rfl rfl fun fr=>?_
       refine zN rfl rfl rfl ?_
       refine zC rfl (o_gS rfl rfl rfl rfl rfl (o_gS rfl rfl rfl rfl rfl (o_gS rfl rfl rfl rfl rfl (o_gS rfl rfl rfl rfl rfl (o_gS rfl rfl rfl rfl rfl (o_gS rfl rfl rfl rfl rfl (zN rfl rfl rfl ?_)))))))
       refine zV [(1,U.box 0 0),(73,.bool false)] [] (Y) (.cons rfl (.cons rfl (.nil rfl))) rfl rfl fun fr=>?_
       refine zC rfl (o_gS rfl rfl rfl rfl rfl (o_gS rfl rfl rfl rfl rfl (o_gS rfl rfl rfl rfl rfl (o_gS rfl rfl rfl rfl rfl (o_gS rfl rfl rfl rfl rfl (o_gS rfl rfl rfl rfl rfl (zN rfl rfl rfl ?_)))))))
       refine zB rfl (zA (zU ?_))
       refine⟨.inr rfl,_,.cons _ _ _ _ (.tmp 2) .nil,?_⟩
       subst_vars;exact .refl _
     ·refine o_gS rfl rfl rfl rfl (by assumption) ?_
      refine o_gS rfl rfl rfl rfl (by assumption) (o_gS rfl rfl rfl rfl (by assumption) (o_gS rfl rfl rfl rfl (by assumption) ?_))
      refine zV [(1,U.box 0 0),(41,U.bool z2),(46,U.tup [])] [] (Y) (.cons rfl (.cons rfl (.cons rfl (.nil rfl)))) rfl rfl fun fr=>?_
      refine zN rfl rfl (by assumption) ?_
      refine zC rfl (o_gS rfl rfl rfl rfl rfl (o_gS rfl rfl rfl rfl rfl (o_gS rfl rfl rfl rfl rfl (o_gS rfl rfl rfl rfl rfl (o_gS rfl rfl rfl rfl rfl (o_gS rfl rfl rfl rfl rfl (o_gS rfl rfl rfl rfl rfl ?_)))))))
      refine zV [(1,U.box 0 0),(48,.bool false),(50,U.tup []),(55,U.tup [])] [] (Y) (.c4 rfl rfl rfl rfl (.nil rfl)) rfl rfl fun fr=>?_
      refine o_gS rfl rfl rfl rfl rfl (zN rfl rfl rfl ?_)
      refine zC rfl (o_gS rfl rfl rfl rfl rfl (o_gS rfl rfl rfl rfl rfl (o_gS rfl rfl rfl rfl rfl (o_gS rfl rfl rfl rfl rfl (o_gS rfl rfl rfl rfl rfl (o_gS rfl rfl rfl rfl rfl ?_))))))
      refine zV [(1,U.box 0 0),(58,.bool false),(64,U.tup [])] [] (Y) (.cons rfl (.cons rfl (.cons rfl (.nil rfl)))) rfl rfl fun fr=>?_
      refine zN rfl rfl rfl ?_
      refine zC rfl (o_gS rfl rfl rfl rfl rfl (o_gS rfl rfl rfl rfl rfl (o_gS rfl rfl rfl rfl rfl (o_gS rfl rfl rfl rfl rfl (o_gS rfl rfl rfl rfl rfl (o_gS rfl rfl rfl rfl rfl (zN rfl rfl rfl ?_)))))))
      refine zV [(1,U.box 0 0),(73,.bool false)] [] (Y) (.cons rfl (.cons rfl (.nil rfl))) rfl rfl fun fr=>?_
      refine zC rfl (o_gS rfl rfl rfl rfl rfl (o_gS rfl rfl rfl rfl rfl (o_gS rfl rfl rfl rfl rfl (o_gS rfl rfl rfl rfl rfl (o_gS rfl rfl rfl rfl rfl (o_gS rfl rfl rfl rfl rfl (zN rfl rfl rfl ?_)))))))
      refine zB rfl (zA (zU ?_))
      refine⟨.inr rfl,_,.cons _ _ _ _ (.tmp 2) .nil,?_⟩
      subst_vars;exact .refl _
    ·refine o_gS rfl rfl rfl rfl (by assumption) ?_
     refine o_gS rfl rfl rfl rfl (by assumption) ?_
     refine zV [(1,U.box 0 0),(34,U.bool z1),(36,U.tup []),(37,U.tup [])] [] (Y) (.c4 rfl rfl rfl rfl (.nil rfl)) rfl rfl fun fr=>?_
     refine o_gS rfl rfl rfl rfl (by assumption) (o_gS rfl rfl rfl rfl (by assumption) (zN rfl rfl (by assumption) ?_))
     refine zC rfl (o_gS rfl rfl rfl rfl rfl (o_gS rfl rfl rfl rfl rfl (o_gS rfl rfl rfl rfl rfl (o_gS rfl rfl rfl rfl rfl (o_gS rfl rfl rfl rfl rfl ?_)))))
     refine zV [(1,U.box 0 0),(41,.bool false),(46,U.tup [])] [] (Y) (.cons rfl (.cons rfl (.cons rfl (.nil rfl)))) rfl rfl fun fr=>?_
     refine zN rfl rfl rfl ?_
     refine zC rfl (o_gS rfl rfl rfl rfl rfl (o_gS rfl rfl rfl rfl rfl (o_gS rfl rfl rfl rfl rfl (o_gS rfl rfl rfl rfl rfl (o_gS rfl rfl rfl rfl rfl (o_gS rfl rfl rfl rfl rfl (o_gS rfl rfl rfl rfl rfl ?_)))))))
     refine zV [(1,U.box 0 0),(48,.bool false),(50,U.tup []),(55,U.tup [])] [] (Y) (.c4 rfl rfl rfl rfl (.nil rfl)) rfl rfl fun fr=>?_
     refine o_gS rfl rfl rfl rfl rfl (zN rfl rfl rfl ?_)
     refine zC rfl (o_gS rfl rfl rfl rfl rfl (o_gS rfl rfl rfl rfl rfl (o_gS rfl rfl rfl rfl rfl (o_gS rfl rfl rfl rfl rfl (o_gS rfl rfl rfl rfl rfl (o_gS rfl rfl rfl rfl rfl ?_))))))
     refine zV [(1,U.box 0 0),(58,.bool false),(64,U.tup [])] [] (Y) (.cons rfl (.cons rfl (.cons rfl (.nil rfl)))) rfl rfl fun fr=>?_
     refine zN rfl rfl rfl ?_
     refine zC rfl (o_gS rfl rfl rfl rfl rfl (o_gS rfl rfl rfl rfl rfl (o_gS rfl rfl rfl rfl rfl (o_gS rfl rfl rfl rfl rfl (o_gS rfl rfl rfl rfl rfl (o_gS rfl rfl rfl rfl rfl (zN rfl rfl rfl ?_)))))))
     refine zV [(1,U.box 0 0),(73,.bool false)] [] (Y) (.cons rfl (.cons rfl (.nil rfl))) rfl rfl fun fr=>?_
     refine zC rfl (o_gS rfl rfl rfl rfl rfl (o_gS rfl rfl rfl rfl rfl (o_gS rfl rfl rfl rfl rfl (o_gS rfl rfl rfl rfl rfl (o_gS rfl rfl rfl rfl rfl (o_gS rfl rfl rfl rfl rfl (zN rfl rfl rfl ?_)))))))
     refine zB rfl (zA (zU ?_))
     refine⟨.inr rfl,_,.cons _ _ _ _ (.tmp 2) .nil,?_⟩
     subst_vars;exact .refl _
 ·rw[decide_eq_false h4,Bool.false_and]
  refine kQ (zc rfl rfl (zB rfl (zA ?_)))
  refine zH [(1,U.box 0 0)] ([SB.box (Bk.cs b)]) (.cons rfl (.nil rfl)) rfl fun fr=>?_
  refine k_seq (kQ (zE rfl rfl zCy (zF rfl rfl rfl sh22 rfl (yF rfl ty22 rfl (List.length_map _) ?_))))
  refine wC rfl rfl rfl (zC rfl (o_gS rfl rfl rfl rfl (decide_eq_true (by omega)) (o_gS rfl rfl rfl rfl (decide_eq_true (by omega)) (o_gS rfl rfl rfl rfl (decide_eq_true (by omega)) (o_gS rfl rfl rfl rfl (decide_eq_true (by omega)) ?_)))))
  refine zV [(1,U.box 0 0),(9,U.bool (decide (↑(List.length (Bk.beats b))≠(4:Int)))),(11,U.tup []),(13,U.tup [])] [] ([SB.box (Bk.cs b)]) (.c4 rfl rfl rfl rfl (.nil rfl)) rfl rfl fun fr=>?_
  refine o_gS rfl rfl rfl rfl (decide_eq_true (by omega)) (o_gS rfl rfl rfl rfl (decide_eq_true (by omega)) (o_gS rfl rfl rfl rfl (decide_eq_true (by omega)) (za rfl rfl (decide_eq_true (by omega)) ?_)))
  refine zA ?_
  refine zH [(1,U.box 0 0),(17,.bool true)] ([SB.box (Bk.cs b)]) (.cons rfl (.cons rfl (.nil rfl))) rfl fun fr=>?_
  refine k_cT rfl rfl ?_
  refine kQ (zB rfl (zA (zU ?_)))
  refine⟨.inr rfl,_,.cons _ _ _ _ (.tmp 2) .nil,?_⟩
  exact .refl _
theorem ret17(hi:Off is)(b:Bk):RetP Tryd.prog is orc 17 [b.u] (.int .i64 (if wl b=true then 0 else 80)):=by
 have q58:=ret58 (orc:=orc) hi b
 refine zk body17 pure17 (hi 17 (by decide)) rfl rfl (zAH (yK b 4)) (.inl (.int _ _ _)) ?_
 cases hv:wl b with
 |true=>
  rw[hv]at q58
  rw[if_pos rfl]
  refine kQ (zc rfl rfl (zB rfl (zA ?_)))
  refine zH [(1,U.box 0 0)] ([SB.box (Bk.cs b)]) (.cons rfl (.nil rfl)) rfl fun fr=>?_
  refine k_seq (kQ (zJ rfl rfl rfl sh27 rfl (zP rfl (q58) (.lrefl _) (yu rfl rfl (zA (k_cF rfl rfl ?_))))))
  refine zQ (kQ (zB rfl (zA (zU ?_))))
  refine⟨.inr rfl,_,.cons _ _ _ _ (.tmp 2) .nil,?_⟩
  exact .refl _
 |false=>
  rw[hv]at q58
  rw[if_neg (by decide)]
  refine kQ (zc rfl rfl (zB rfl (zA ?_)))
  refine zH [(1,U.box 0 0)] ([SB.box (Bk.cs b)]) (.cons rfl (.nil rfl)) rfl fun fr=>?_
  refine k_seq (kQ (zJ rfl rfl rfl sh27 rfl (zP rfl (q58) (.lrefl _) (yu rfl rfl (zA (k_cT rfl rfl ?_))))))
  refine kQ (zB rfl (zA (zU ?_)))
  refine⟨.inr rfl,_,.cons _ _ _ _ (.tmp 2) .nil,?_⟩
  exact .refl _
end
section
variable {is:FuncId→Bool}{orc:Known}
structure BOk(b:Bk):Prop where
 n4:b.beats.length=4
 pn:1≤b.players.length∧b.players.length≤5
 pl:∀p∈b.players,(0≤p.la∧p.la≤p.lb∧p.lb≤500)∧p.cat.length=4∧∀c∈p.cat,0≤c.a∧c.a≤c.b∧c.b≤100
 pa:1≤b.parts∧b.parts≤8
 sz:1≤b.size∧b.size≤16
 bt:∀x∈b.beats,1≤x∧x≤1000
 st:0≤b.start∧b.start≤3
 fi:0≤b.fin∧b.fin≤3
 ti:0≤b.tlo∧b.tlo≤b.thi∧b.thi≤128000
 sl:0≤b.slo∧b.slo≤b.shi∧b.shi≤100
 no:1≤b.notice∧b.notice≤b.size
theorem zBn{a b n:Int}:inS a b n=true↔a≤n∧n≤b:=by
 unfold inS
 rw[Bool.and_eq_true,decide_eq_true_eq,decide_eq_true_eq]
theorem spB_iff{a b:Int}{q:Two}:spB a b q=true↔a≤q.a∧q.a≤q.b∧q.b≤b:=by
 unfold spB
 simp only[List.all_cons,List.all_nil,Bool.and_true,Bool.and_eq_true,decide_eq_true_eq,zBn]
 omega
theorem plB_iff{p:Pl}:plB p=true↔(0≤p.la∧p.la≤p.lb∧p.lb≤500)∧p.cat.length=4∧∀c∈p.cat,0≤c.a∧c.a≤c.b∧c.b≤100:=by
 unfold plB
 rw[Bool.and_eq_true,Bool.and_eq_true,spB_iff,decide_eq_true_eq,List.all_eq_true]
 simp only[spB_iff]
theorem wZ(b:Bk):wl b=true↔BOk b:=by
 unfold wl vlA vlB
 simp only[Bool.and_eq_true,decide_eq_true_eq,List.all_eq_true,zBn,plB_iff,spB_iff]
 constructor
 ·rintro⟨⟨h1,h2⟩,h3,h4,h5,h6,h7,h8,h9,h10⟩
  have h7a:=h7 b.start (by simp)
  have h7b:=h7 b.fin (by simp)
  exact⟨h1,by omega,h3,h4,h5,h6,h7a,h7b,h8,h9,h10⟩
 ·intro h
  refine⟨⟨h.n4,by have:=h.pn;omega⟩,h.pl,h.pa,h.sz,h.bt,fun x hx=>?_,h.ti,h.sl,h.no⟩
  simp only[List.mem_cons,List.not_mem_nil,or_false]at hx
  rcases hx with rfl|rfl
  ·exact h.st
  ·exact h.fi
end
end Go.Proofs.YtfbmlibilcjlgaaDoor.drumBounds
