import Derived.Test.YtlknfhjfkcboiaaDoorVamT8
set_option linter.unusedVariables false
set_option linter.unusedSimpArgs false
set_option linter.constructorNameAsVariable false
namespace Go.Proofs.YtlknfhjfkcboiaaDoor.nightLeast
open Vam
variable {is:FuncId→Bool}{orc:Known}
theorem cl82:Program.cellsOf Tryd.prog 82=1:=by kernel_rfl
theorem pl70:zFx Tryd.prog 70=some [(0,10)]:=by kernel_rfl
theorem sh82:shOf Tryd.prog 82=.one:=by kernel_rfl
theorem ty104:tyOf Tryd.prog 104=.slice 82:=by kernel_rfl
theorem ze70:yX Tryd.prog 70=some ((.cons (.int .i64 0) (.cons .nils (.cons .nils (.cons .nils (.cons (.int .i64 0) (.cons .nils (.cons (.int .i64 0) (.cons (.int .i64 0) (.cons (.int .i64 0) (.cons .nils .nil)))))))))):V):=by kernel_rfl
noncomputable def b60:Code:=(Tryd.f60.body).getD .skip
theorem body60:bodyOf Tryd.prog 60=some (31,b60,[.cell 4 70,.tmp 5]):=by kernel_rfl
theorem pure60:pureFn Tryd.prog 60=false:=by kernel_rfl
noncomputable def b61:Code:=(Tryd.f61.body).getD .skip
theorem body61:bodyOf Tryd.prog 61=some (7,b61,[.tmp 3]):=by kernel_rfl
theorem pure61:pureFn Tryd.prog 61=false:=by kernel_rfl
noncomputable def b77:Code:=(Tryd.f77.body).getD .skip
theorem body77:bodyOf Tryd.prog 77=some (7,b77,[.tmp 3]):=by kernel_rfl
theorem pure77:pureFn Tryd.prog 77=false:=by kernel_rfl
theorem pl72:zFx Tryd.prog 72=some [(0,10),(10,1)]:=by kernel_rfl
theorem ze72:yX Tryd.prog 72=some ((.cons (.int .i64 0) (.cons .nils (.cons .nils (.cons .nils (.cons (.int .i64 0) (.cons .nils (.cons (.int .i64 0) (.cons (.int .i64 0) (.cons (.int .i64 0) (.cons .nils (.cons .nils .nil))))))))))):V):=by kernel_rfl
theorem ze82:yX Tryd.prog 82=some ((.cons .nilf .nil):V):=by kernel_rfl
noncomputable def b51:Code:=(Tryd.f51.body).getD .skip
theorem body51:bodyOf Tryd.prog 51=some (18,b51,[.cell 4 72,.tmp 5]):=by kernel_rfl
theorem pure51:pureFn Tryd.prog 51=true:=by kernel_rfl
noncomputable def b19:Code:=(Tryd.f19.body).getD .skip
theorem body19:bodyOf Tryd.prog 19=some (20,b19,[.tmp 4,.tmp 5]):=by kernel_rfl
theorem pure19:pureFn Tryd.prog 19=true:=by kernel_rfl
noncomputable def b25:Code:=(Tryd.f25.body).getD .skip
theorem body25:bodyOf Tryd.prog 25=some (30,b25,[.tmp 4,.tmp 5]):=by kernel_rfl
theorem pure25:pureFn Tryd.prog 25=true:=by kernel_rfl
noncomputable def b21:Code:=(Tryd.f21.body).getD .skip
theorem body21:bodyOf Tryd.prog 21=some (8,b21,[.tmp 2,.tmp 3]):=by kernel_rfl
theorem pure21:pureFn Tryd.prog 21=true:=by kernel_rfl
theorem wpc77(hi:Off is){b:Bk}(h:BOk b){L:List Int}{st:List SB}{j:Nat}(hj:st[j]? =some (.box [.lst .ro 1 (zA L)])):WpC Tryd.prog is orc 77 [b.u,.box j 0] st fun u st'=>u=.bool (chF b (-1) L)∧∃e,st'=st++e:=by
 refine zGE body77 pure77 rfl rfl ?_
 have q78:=ret78 (orc:=orc) hi h L
 generalize chF b (-1) L=z at*
 refine kQ (yI rfl rfl (zC rfl (zD ?_)))
 refine zN [(1,U.box j 0),(2,U.box (List.length st) 0)] (st++[SB.box [.int .i64 (Bk.bg b),.lst .ro 1 (zA (Bk.opens b)),.lst .ro 1 (zA (Bk.ends b)),.lst .ro 5 (scsU (Bk.scenes b)),.int .i64 (Bk.fee b),.lst .ro 1 (zA (Bk.loads b)),.int .i64 (Bk.cart b),.int .i64 (Bk.cost b),.int .i64 (Bk.feast b),.lst .ro 1 (zA (Bk.shares b))]]) (.cons rfl (.cons rfl (.nil rfl))) rfl fun fr=>?_
 refine kQ (zR rfl rfl (yA _ _) sh70 rfl ?_)
 refine zF rfl rfl (ye hj) sh83 rfl ?_
 refine zL rfl (q78) (.lrefl _) (zC rfl (zD (zY ?_)))
 refine⟨.inr rfl,_,.cons _ _ _ _ (.tmp 3) .nil,?_⟩
 exact⟨_,.refl _,rfl,_,rfl⟩
theorem wpc61(hi:Off is){b:Bk}(h:BOk b){d:List Int}{st:List SB}{j:Nat}(hj:st[j]? =some (.box [.lst .ro 1 (zA d)])):WpC Tryd.prog is orc 61 [b.u,.box j 0] st fun u st'=>u=.bool (zEQ b d)∧∃e,st'=st++e:=by
 refine zGE body61 pure61 rfl rfl ?_
 have q62:=ret62 (orc:=orc) hi h d
 generalize zEQ b d=z at*
 refine kQ (yI rfl rfl (zC rfl (zD ?_)))
 refine zN [(1,U.box j 0),(2,U.box (List.length st) 0)] (st++[SB.box [.int .i64 (Bk.bg b),.lst .ro 1 (zA (Bk.opens b)),.lst .ro 1 (zA (Bk.ends b)),.lst .ro 5 (scsU (Bk.scenes b)),.int .i64 (Bk.fee b),.lst .ro 1 (zA (Bk.loads b)),.int .i64 (Bk.cart b),.int .i64 (Bk.cost b),.int .i64 (Bk.feast b),.lst .ro 1 (zA (Bk.shares b))]]) (.cons rfl (.cons rfl (.nil rfl))) rfl fun fr=>?_
 refine kQ (zR rfl rfl (yA _ _) sh70 rfl ?_)
 refine zF rfl rfl (ye hj) sh22 rfl ?_
 refine zL rfl (q62) (.lrefl _) (zC rfl (zD (zY ?_)))
 refine⟨.inr rfl,_,.cons _ _ _ _ (.tmp 3) .nil,?_⟩
 exact⟨_,.refl _,rfl,_,rfl⟩
abbrev zerU:U:=.agg [.int .i64 0,.lst .full 0 [],.lst .full 0 [],.lst .full 0 [],.int .i64 0,.lst .full 0 [],.int .i64 0,.int .i64 0,.int .i64 0,.lst .full 0 []]
def askU(b:Bk)(z:Bool):U:=if z=true then .tup [b.u,.int .i64 0]else .tup [zerU,.int .i64 101]
set_option maxHeartbeats 16000000 in
theorem wpc60(hi:Off is){b:Bk}(hb:BOk b){g j:Nat}{z:Bool}{st:List SB}(hg:∀E,WpC Tryd.prog is orc g [b.u,.box j 0] (st++E) fun u st'=>u=.bool z∧∃e,st'=(st++E)++e):WpC Tryd.prog is orc 60 [b.u,.lst .ro 1 [.fn g [] [.box j 0]]] st fun u st'=>u=askU b z∧∃e,st'=st++e:=by
 refine zGE body60 pure60 rfl rfl ?_
 have q17:=ret17 (orc:=orc) hi b
 rw[if_pos ((zFF b).2 hb)]at q17
 refine kQ (yI rfl rfl (yH rfl ze70 ?_))
 refine zC rfl (zD ?_)
 refine zN [(1,.lst .ro 1 [U.fn g [] [U.box j 0]]),(2,U.box (List.length st) 0),(4,U.box (List.length (st++[SB.box [.int .i64 (Bk.bg b),.lst .ro 1 (zA (Bk.opens b)),.lst .ro 1 (zA (Bk.ends b)),.lst .ro 5 (scsU (Bk.scenes b)),.int .i64 (Bk.fee b),.lst .ro 1 (zA (Bk.loads b)),.int .i64 (Bk.cart b),.int .i64 (Bk.cost b),.int .i64 (Bk.feast b),.lst .ro 1 (zA (Bk.shares b))]])) 0)] (st++[SB.box [.int .i64 (Bk.bg b),.lst .ro 1 (zA (Bk.opens b)),.lst .ro 1 (zA (Bk.ends b)),.lst .ro 5 (scsU (Bk.scenes b)),.int .i64 (Bk.fee b),.lst .ro 1 (zA (Bk.loads b)),.int .i64 (Bk.cart b),.int .i64 (Bk.cost b),.int .i64 (Bk.feast b),.lst .ro 1 (zA (Bk.shares b))]]++[SB.box [.int .i64 0,.lst .full 0 [],.lst .full 0 [],.lst .full 0 [],.int .i64 0,.lst .full 0 [],.int .i64 0,.int .i64 0,.int .i64 0,.lst .full 0 []]]) (.cons rfl (.cons rfl (.cons rfl (.nil rfl)))) rfl fun fr=>?_
 refine k_seq (kQ (zR rfl rfl (ye (yA _ _)) sh25 rfl ?_))
 refine zL rfl (q17) (.lrefl _) (zC rfl (zD (kQ (zB rfl (yy rfl rfl rfl (zD (k_cF rfl rfl ?_)))))))
 refine zO (kQ (zR rfl rfl (ye (yA _ _)) sh25 rfl ?_))
 refine zAL rfl ze70 pl70 rfl rfl ?_
 refine yH rfl ze70 ?_
 refine zw rfl (yA _ _) sh70 rfl rfl rfl rfl rfl ?_
 refine zD ?_
 refine zN [(1,.lst .ro 1 [U.fn g [] [U.box j 0]]),(4,U.box (List.length (st++[SB.box [.int .i64 (Bk.bg b),.lst .ro 1 (zA (Bk.opens b)),.lst .ro 1 (zA (Bk.ends b)),.lst .ro 5 (scsU (Bk.scenes b)),.int .i64 (Bk.fee b),.lst .ro 1 (zA (Bk.loads b)),.int .i64 (Bk.cart b),.int .i64 (Bk.cost b),.int .i64 (Bk.feast b),.lst .ro 1 (zA (Bk.shares b))]])) 0),(7,U.box (List.length (st++[SB.box [.int .i64 (Bk.bg b),.lst .ro 1 (zA (Bk.opens b)),.lst .ro 1 (zA (Bk.ends b)),.lst .ro 5 (scsU (Bk.scenes b)),.int .i64 (Bk.fee b),.lst .ro 1 (zA (Bk.loads b)),.int .i64 (Bk.cart b),.int .i64 (Bk.cost b),.int .i64 (Bk.feast b),.lst .ro 1 (zA (Bk.shares b))]]++[SB.box [.int .i64 0,.lst .full 0 [],.lst .full 0 [],.lst .full 0 [],.int .i64 0,.lst .full 0 [],.int .i64 0,.int .i64 0,.int .i64 0,.lst .full 0 []]])) 0)] (st++[SB.box [.int .i64 (Bk.bg b),.lst .ro 1 (zA (Bk.opens b)),.lst .ro 1 (zA (Bk.ends b)),.lst .ro 5 (scsU (Bk.scenes b)),.int .i64 (Bk.fee b),.lst .ro 1 (zA (Bk.loads b)),.int .i64 (Bk.cart b),.int .i64 (Bk.cost b),.int .i64 (Bk.feast b),.lst .ro 1 (zA (Bk.shares b))]]++[SB.box [.int .i64 0,.lst .full 0 [],.lst .full 0 [],.lst .full 0 [],.int .i64 0,.lst .full 0 [],.int .i64 0,.int .i64 0,.int .i64 0,.lst .full 0 []]]++[SB.box [.int .i64 (Bk.bg b),.lst .ro 1 (zA (Bk.opens b)),.lst .ro 1 (zA (Bk.ends b)),.lst .ro 5 (scsU (Bk.scenes b)),.int .i64 (Bk.fee b),.lst .ro 1 (zA (Bk.loads b)),.int .i64 (Bk.cart b),.int .i64 (Bk.cost b),.int .i64 (Bk.feast b),.lst .ro 1 (zA (Bk.shares b))]]) (.cons rfl (.cons rfl (.cons rfl (.nil rfl)))) (wJ _ _ _) fun fr=>?_
 refine k_seq (kQ (zB rfl (zb rfl ty104 rfl rfl ?_)))
 refine zB rfl (zD (zM ?_))
 refine ym (fun kk s2=>∃X:List SB,s2.st=st++X∧X[1]? =some (.box [.int .i64 0,.lst .full 0 [],.lst .full 0 [],.lst .full 0 [],.int .i64 0,.lst .full 0 [],.int .i64 0,.int .i64 0,.int .i64 0,.lst .full 0 []])∧X[2]? =some (.box [.int .i64 b.bg,.lst .ro 1 (zA b.opens),.lst .ro 1 (zA b.ends),.lst .ro 5 (scsU b.scenes),.int .i64 b.fee,.lst .ro 1 (zA b.loads),.int .i64 b.cart,.int .i64 b.cost,.int .i64 b.feast,.lst .ro 1 (zA b.shares)])∧((kk=1∧Holds s2 [(4,.box (st.length+1) 0),(7,.box (st.length+2) 0),(18,.lst .ro 1 [.fn g [] [.box j 0]]),(19,.int .i64 1),(20,.int .i64 0)])∨(kk=0∧z=true∧Holds s2 [(4,.box (st.length+1) 0),(7,.box (st.length+2) 0),(18,.lst .ro 1 [.fn g [] [.box j 0]]),(19,.int .i64 1),(20,.int .i64 1)]))) (fun kk s2 hI=>?_) 1 _ ⟨[.box [.int .i64 b.bg,.lst .ro 1 (zA b.opens),.lst .ro 1 (zA b.ends),.lst .ro 5 (scsU b.scenes),.int .i64 b.fee,.lst .ro 1 (zA b.loads),.int .i64 b.cart,.int .i64 b.cost,.int .i64 b.feast,.lst .ro 1 (zA b.shares)],.box [.int .i64 0,.lst .full 0 [],.lst .full 0 [],.lst .full 0 [],.int .i64 0,.lst .full 0 [],.int .i64 0,.int .i64 0,.int .i64 0,.lst .full 0 []],.box [.int .i64 b.bg,.lst .ro 1 (zA b.opens),.lst .ro 1 (zA b.ends),.lst .ro 5 (scsU b.scenes),.int .i64 b.fee,.lst .ro 1 (zA b.loads),.int .i64 b.cart,.int .i64 b.cost,.int .i64 b.feast,.lst .ro 1 (zA b.shares)]],(by show((st++[SB.box _])++[SB.box _])++[SB.box _]=_;rw[List.append_assoc,List.append_assoc];rfl),rfl,rfl,.inl ⟨rfl,.cons (by show U.box (st++[SB.box _]).length 0=_;simp) (.cons (by show U.box ((st++[SB.box _])++[SB.box _]).length 0=_;simp) (.cons rfl (.cons rfl (.cons rfl (.nil rfl)))))⟩⟩
 obtain⟨X,hst2,x1,x2,⟨hk,hs2⟩|⟨hk,hz,hs2⟩⟩:=hI
 ·have y1:=at_off (st:=st) x1
  have y2:=at_off (st:=st) x2
  refine zN _ _ hs2 hst2 fun fr2=>?_
  have hl:st.length+1<(st++X).length:=(List.getElem?_eq_some_iff.1 y1).1
  refine kQ (zX rfl rfl rfl (zD (k_seq (k_cT rfl rfl ?_))))
  refine zO (k_seq (zM (kQ (zp rfl ty104 rfl rfl (by decide) rfl cl82 ?_))))
  refine zU rfl rfl sh82 rfl ?_
  refine zC rfl (zD (kQ (zB rfl (zR rfl rfl y2 sh70 rfl ?_))))
  refine o_callV rfl rfl (hg X) (.lrefl _) (fun u st1 hM=>?_)
  obtain⟨rfl,e,rfl⟩:=hM
  cases z with
  |true=>
   refine zt rfl rfl (zD (k_cF rfl rfl ?_))
   refine zO (k_region ?_)
   refine yZ rfl rfl rfl (by unfold I64;omega) (zB rfl (zD ?_))
   exact⟨0,by omega,X++e,(by show(st++X)++e=_;rw[List.append_assoc]),ye x1,ye x2,.inr ⟨rfl,rfl,.c4 rfl rfl rfl rfl (.cons rfl (.nil rfl))⟩⟩
  |false=>
   have y3:((st++X)++e)[st.length+1]? =some (.box [.int .i64 0,.lst .full 0 [],.lst .full 0 [],.lst .full 0 [],.int .i64 0,.lst .full 0 [],.int .i64 0,.int .i64 0,.int .i64 0,.lst .full 0 []]):=ye y1
   have hl3:st.length+1<((st++X)++e).length:=(List.getElem?_eq_some_iff.1 y3).1
   refine zt rfl rfl (zD (k_cT rfl rfl ?_))
   refine kQ (zAL rfl ze70 pl70 rfl rfl ?_)
   refine zw rfl y3 sh70 rfl rfl rfl rfl rfl ?_
   refine zC rfl (zD (zY ?_))
   refine⟨.inr rfl,_,.cons _ _ _ _ (.cellN 4 70 (st.length+1) 0 10 [.int .i64 0,.lst .full 0 [],.lst .full 0 [],.lst .full 0 [],.int .i64 0,.lst .full 0 [],.int .i64 0,.int .i64 0,.int .i64 0,.lst .full 0 []] rfl (List.getElem?_set_self hl3) sh70 rfl) (.cons _ _ _ _ (.tmp 5) .nil),_,.refl _,rfl,X.set 1 (.box [.int .i64 0,.lst .full 0 [],.lst .full 0 [],.lst .full 0 [],.int .i64 0,.lst .full 0 [],.int .i64 0,.int .i64 0,.int .i64 0,.lst .full 0 []])++e,?_⟩
   show((st++X)++e).set (st.length+1) _=_
   have hX:1<X.length:=(List.getElem?_eq_some_iff.1 x1).1
   rw[List.append_assoc,set_off,List.set_append_left _ _ hX];rfl
 ·have y1:=at_off (st:=st) x1
  have y2:=at_off (st:=st) x2
  refine zN _ _ hs2 hst2 fun fr2=>?_
  have hl:st.length+1<(st++X).length:=(List.getElem?_eq_some_iff.1 y1).1
  subst hz
  refine kQ (zX rfl rfl rfl (zD (k_seq (k_cF rfl rfl ?_))))
  refine yV (kQ (zR rfl rfl y2 sh70 rfl ?_))
  refine zw rfl y1 sh70 rfl rfl rfl rfl rfl ?_
  refine zC rfl (zD (zY ?_))
  refine⟨.inr rfl,_,.cons _ _ _ _ (.cellN 4 70 (st.length+1) 0 10 [.int .i64 b.bg,.lst .ro 1 (zA b.opens),.lst .ro 1 (zA b.ends),.lst .ro 5 (scsU b.scenes),.int .i64 b.fee,.lst .ro 1 (zA b.loads),.int .i64 b.cart,.int .i64 b.cost,.int .i64 b.feast,.lst .ro 1 (zA b.shares)] rfl (List.getElem?_set_self hl) sh70 rfl) (.cons _ _ _ _ (.tmp 5) .nil),_,.refl _,rfl,_,set_off⟩
theorem chF_iff{b:Bk}:∀(L:List Int) (q:Int),chF b q L=true↔L.Pairwise (fun x y=>x<y)∧∀x∈L,q<x∧x<b.scenes.length∧zBs b x.toNat=false:=by
 intro L
 induction L with
 |nil=>intro q;exact⟨(fun _=>⟨List.Pairwise.nil,fun x hx=>by cases hx⟩),(fun _=>rfl)⟩
 |cons x L ih=>
  intro q
  unfold chF
  rw[Bool.and_eq_true,Bool.and_eq_true,Bool.and_eq_true,ih,decide_eq_true_eq,decide_eq_true_eq]
  constructor
  ·rintro⟨h1,h2,h3,h4,h5⟩
   refine⟨List.pairwise_cons.2 ⟨fun y hy=>(h5 y hy).1,h4⟩,fun y hy=>?_⟩
   rcases List.mem_cons.1 hy with rfl|hy
   ·exact⟨h1,h2,by simpa using h3⟩
   ·have:=h5 y hy;exact⟨by omega,this.2⟩
  ·rintro⟨h1,h2⟩
   obtain⟨h3,h4⟩:=List.pairwise_cons.1 h1
   have hx:=h2 x List.mem_cons_self
   exact⟨hx.1,hx.2.1,by simp[hx.2.2],h4,fun y hy=>⟨h3 y hy,(h2 y (List.mem_cons_of_mem _ hy)).2⟩⟩
theorem cho_iff{b:Bk}{L:List Int}:chF b (-1) L=true↔Cho b L:=by
 rw[chF_iff]
 constructor
 ·rintro⟨h1,h2⟩
  exact⟨h1,fun x hx=>by have:=h2 x hx;omega,fun x hx=>(h2 x hx).2.2⟩
 ·intro h
  exact⟨h.pw,fun x hx=>⟨by have:=h.rg x hx;omega,(h.rg x hx).2,h.mu x hx⟩⟩
theorem dok_nil(b:Bk):DOk b []:=⟨Nat.zero_le _,fun x hx=>by cases hx⟩
abbrev zcrU:U:=.agg [.int .i64 0,.lst .full 0 [],.lst .full 0 [],.lst .full 0 [],.int .i64 0,.lst .full 0 [],.int .i64 0,.int .i64 0,.int .i64 0,.lst .full 0 [],.lst .full 0 []]
theorem dat_zcr(k:Nat):Dat (k+4) zcrU:=.agg _ _ fun c hc=>by
 have hn:Dat (k+3) (.lst .full 0 []):=zd (k+1) .full (fun h=>by cases h) 0 []
 simp only[List.mem_cons,List.not_mem_nil,or_false]at hc
 rcases hc with rfl|rfl|rfl|rfl|rfl|rfl|rfl|rfl|rfl|rfl|rfl<;>first|exact hn|exact .int _ _ _
def ac51(b:Bk)(z:Bool):U:=if z=true then .tup [crU b [],.int .i64 0]else .tup [zcrU,.int .i64 101]
set_option maxHeartbeats 8000000 in
theorem ret51(hi:Off is){b:Bk}(h:BOk b)(L:List Int):RetP Tryd.prog is orc 51 [b.u,.lst .ro 1 (zA L)] (ac51 b (chF b (-1) L)):=by
 have hw:=fun(st:List SB) (j:Nat) (hj:st[j]? =some (.box [.lst .ro 1 (zA L)]))=>wpc60 (orc:=orc) hi h (g:=77) (j:=j) (z:=chF b (-1) L) (st:=st) (fun E=>wpc77 hi h (ye hj))
 generalize chF b (-1) L=z at*
 refine yD body51 pure51 (hi 51 (by decide)) rfl rfl (yb (zAb b 4) (zd 6 .ro (fun h=>by cases h) 1 L)) (by
  cases z with
  |true=>exact .inr ⟨_,rfl,yb (k:=7) (zBj b [] 3) (.int _ _ _)⟩
  |false=>exact .inr ⟨_,rfl,yb (k:=7) (dat_zcr 3) (.int _ _ _)⟩) ?_
 refine kQ (yI rfl rfl (yI rfl rfl (yH rfl ze72 ?_)))
 refine zC rfl (zD ?_)
 refine zN [(2,U.box 0 0),(3,U.box 1 0),(4,U.box 2 0)] ([SB.box [.int .i64 (Bk.bg b),.lst .ro 1 (zA (Bk.opens b)),.lst .ro 1 (zA (Bk.ends b)),.lst .ro 5 (scsU (Bk.scenes b)),.int .i64 (Bk.fee b),.lst .ro 1 (zA (Bk.loads b)),.int .i64 (Bk.cart b),.int .i64 (Bk.cost b),.int .i64 (Bk.feast b),.lst .ro 1 (zA (Bk.shares b))],SB.box [.lst .ro 1 (zA L)],SB.box [.int .i64 0,.lst .full 0 [],.lst .full 0 [],.lst .full 0 [],.int .i64 0,.lst .full 0 [],.int .i64 0,.int .i64 0,.int .i64 0,.lst .full 0 [],.lst .full 0 []]]) (.cons rfl (.cons rfl (.cons rfl (.nil rfl)))) rfl fun fr=>?_
 refine kQ (zR rfl rfl rfl sh25 rfl ?_)
 refine zGN rfl ?_
 refine zCN (es:=[U.fn 77 [] [U.box 1 0]]) rfl ty104 ze82 cl82 rfl rfl rfl rfl rfl rfl rfl rfl ?_
 refine o_callW rfl (hw _ 1 rfl) (.lcons _ _ _ _ (.refl _) (.lcons _ _ _ _ (.ro _ _ _) (.lrefl _))) (fun u st1 hM=>?_)
 obtain⟨rfl,e,rfl⟩:=hM
 cases z with
 |true=>
  refine zB rfl (zV rfl rfl rfl (zV rfl rfl rfl (yH rfl ze70 ?_)))
  refine zw rfl (yA _ _) sh70 rfl rfl rfl rfl rfl ?_
  refine zC rfl (zD ?_)
  refine zN [(4,U.box 2 0),(6,U.box (List.length (SB.box [.int .i64 (Bk.bg b),.lst .ro 1 (zA (Bk.opens b)),.lst .ro 1 (zA (Bk.ends b)),.lst .ro 5 (scsU (Bk.scenes b)),.int .i64 (Bk.fee b),.lst .ro 1 (zA (Bk.loads b)),.int .i64 (Bk.cart b),.int .i64 (Bk.cost b),.int .i64 (Bk.feast b),.lst .ro 1 (zA (Bk.shares b))]::SB.box [.lst .ro 1 (zA L)]::SB.box [.int .i64 0,.lst .full 0 [],.lst .full 0 [],.lst .full 0 [],.int .i64 0,.lst .full 0 [],.int .i64 0,.int .i64 0,.int .i64 0,.lst .full 0 [],.lst .full 0 []]::List.append [] e)) 0),(7,.int .i64 0)] (SB.box [.int .i64 (Bk.bg b),.lst .ro 1 (zA (Bk.opens b)),.lst .ro 1 (zA (Bk.ends b)),.lst .ro 5 (scsU (Bk.scenes b)),.int .i64 (Bk.fee b),.lst .ro 1 (zA (Bk.loads b)),.int .i64 (Bk.cart b),.int .i64 (Bk.cost b),.int .i64 (Bk.feast b),.lst .ro 1 (zA (Bk.shares b))]::SB.box [.lst .ro 1 (zA L)]::SB.box [.int .i64 0,.lst .full 0 [],.lst .full 0 [],.lst .full 0 [],.int .i64 0,.lst .full 0 [],.int .i64 0,.int .i64 0,.int .i64 0,.lst .full 0 [],.lst .full 0 []]::List.set (List.append (List.append [] e) [SB.box (zAy (V.cons (V.int .i64 (0:Int)) (V.cons V.nils (V.cons V.nils (V.cons V.nils (V.cons (V.int .i64 (0:Int)) (V.cons V.nils (V.cons (V.int .i64 (0:Int)) (V.cons (V.int .i64 (0:Int)) (V.cons (V.int .i64 (0:Int)) (V.cons V.nils V.nil)))))))))))]) (List.length (List.append [] e)) (SB.box [.int .i64 (Bk.bg b),.lst .ro 1 (zA (Bk.opens b)),.lst .ro 1 (zA (Bk.ends b)),.lst .ro 5 (scsU (Bk.scenes b)),.int .i64 (Bk.fee b),.lst .ro 1 (zA (Bk.loads b)),.int .i64 (Bk.cart b),.int .i64 (Bk.cost b),.int .i64 (Bk.feast b),.lst .ro 1 (zA (Bk.shares b))])) (.cons rfl (.cons rfl (.cons rfl (.nil rfl)))) rfl fun fr=>?_
  refine kQ (zR rfl rfl (zCk _ _ _) sh70 rfl ?_)
  refine zAL rfl ze72 pl72 rfl rfl ?_
  refine zB rfl (zw rfl rfl sh72 rfl rfl rfl rfl rfl ?_)
  refine zC rfl (zD (zY ?_))
  refine⟨.inr rfl,_,.cons _ _ _ _ (.cellN 4 72 _ _ _ _ rfl rfl sh72 rfl) (.cons _ _ _ _ (.tmp 5) .nil),?_⟩
  exact .tup _ _ (.lcons _ _ _ _ (.agg _ _ (.lcons _ _ _ _ (.refl _) (.lcons _ _ _ _ (.refl _) (.lcons _ _ _ _ (.refl _) (.lcons _ _ _ _ (.refl _) (.lcons _ _ _ _ (.refl _) (.lcons _ _ _ _ (.refl _) (.lcons _ _ _ _ (.refl _) (.lcons _ _ _ _ (.refl _) (.lcons _ _ _ _ (.refl _) (.lcons _ _ _ _ (.refl _) (.lcons _ _ _ _ (.nil _ _ _) (.lrefl _))))))))))))) (.lrefl _))
 |false=>
  refine zB rfl (zV rfl rfl rfl (zV rfl rfl rfl (yH rfl ze70 ?_)))
  refine zw rfl (yA _ _) sh70 rfl rfl rfl rfl rfl ?_
  refine zC rfl (zD ?_)
  refine zN [(4,U.box 2 0),(6,U.box (List.length (SB.box [.int .i64 (Bk.bg b),.lst .ro 1 (zA (Bk.opens b)),.lst .ro 1 (zA (Bk.ends b)),.lst .ro 5 (scsU (Bk.scenes b)),.int .i64 (Bk.fee b),.lst .ro 1 (zA (Bk.loads b)),.int .i64 (Bk.cart b),.int .i64 (Bk.cost b),.int .i64 (Bk.feast b),.lst .ro 1 (zA (Bk.shares b))]::SB.box [.lst .ro 1 (zA L)]::SB.box [.int .i64 0,.lst .full 0 [],.lst .full 0 [],.lst .full 0 [],.int .i64 0,.lst .full 0 [],.int .i64 0,.int .i64 0,.int .i64 0,.lst .full 0 [],.lst .full 0 []]::List.append [] e)) 0),(7,.int .i64 101)] (SB.box [.int .i64 (Bk.bg b),.lst .ro 1 (zA (Bk.opens b)),.lst .ro 1 (zA (Bk.ends b)),.lst .ro 5 (scsU (Bk.scenes b)),.int .i64 (Bk.fee b),.lst .ro 1 (zA (Bk.loads b)),.int .i64 (Bk.cart b),.int .i64 (Bk.cost b),.int .i64 (Bk.feast b),.lst .ro 1 (zA (Bk.shares b))]::SB.box [.lst .ro 1 (zA L)]::SB.box [.int .i64 0,.lst .full 0 [],.lst .full 0 [],.lst .full 0 [],.int .i64 0,.lst .full 0 [],.int .i64 0,.int .i64 0,.int .i64 0,.lst .full 0 [],.lst .full 0 []]::List.set (List.append (List.append [] e) [SB.box (zAy (V.cons (V.int .i64 (0:Int)) (V.cons V.nils (V.cons V.nils (V.cons V.nils (V.cons (V.int .i64 (0:Int)) (V.cons V.nils (V.cons (V.int .i64 (0:Int)) (V.cons (V.int .i64 (0:Int)) (V.cons (V.int .i64 (0:Int)) (V.cons V.nils V.nil)))))))))))]) (List.length (List.append [] e)) (SB.box [.int .i64 0,.lst .full 0 [],.lst .full 0 [],.lst .full 0 [],.int .i64 0,.lst .full 0 [],.int .i64 0,.int .i64 0,.int .i64 0,.lst .full 0 []])) (.cons rfl (.cons rfl (.cons rfl (.nil rfl)))) rfl fun fr=>?_
  refine kQ (zR rfl rfl (zCk _ _ _) sh70 rfl ?_)
  refine zAL rfl ze72 pl72 rfl rfl ?_
  refine zB rfl (zw rfl rfl sh72 rfl rfl rfl rfl rfl ?_)
  refine zC rfl (zD (zY ?_))
  refine⟨.inr rfl,_,.cons _ _ _ _ (.cellN 4 72 _ _ _ _ rfl rfl sh72 rfl) (.cons _ _ _ _ (.tmp 5) .nil),?_⟩
  exact .refl _
theorem ret19(hi:Off is){b:Bk}(h:BOk b)(L:List Int):RetP Tryd.prog is orc 19 [b.u,.lst .ro 1 (zA L)] (.tup [.bool (chF b (-1) L&&fitB b [] L),.int .i64 (if chF b (-1) L=true then 0 else 101)]):=by
 have hn:=h.sn
 have q51:=ret51 (orc:=orc) hi h L
 refine yD body19 pure19 (hi 19 (by decide)) rfl rfl (yb (zAb b 4) (zd 6 .ro (fun h=>by cases h) 1 L)) (.inr ⟨_,rfl,yb (k:=7) (.bool _ _) (.int _ _ _)⟩) ?_
 cases hz:chF b (-1) L with
 |true=>
  have hc:=cho_iff.1 hz
  have hl:=hc.len
  rw[hz]at q51
  have q51:RetP Tryd.prog is orc 51 [b.u,.lst .ro 1 (zA L)] (.tup [crU b [],.int .i64 0]):=q51
  have q58:=ret58 (orc:=orc) hi h (dok_nil b) (L:=L) (by omega)
  generalize fitB b [] L=f at*
  refine kQ (yI rfl rfl (zC rfl (zC rfl (zD ?_))))
  refine zN [(1,.lst .ro 1 (zA L)),(2,U.box 0 0)] ([SB.box [.int .i64 (Bk.bg b),.lst .ro 1 (zA (Bk.opens b)),.lst .ro 1 (zA (Bk.ends b)),.lst .ro 5 (scsU (Bk.scenes b)),.int .i64 (Bk.fee b),.lst .ro 1 (zA (Bk.loads b)),.int .i64 (Bk.cart b),.int .i64 (Bk.cost b),.int .i64 (Bk.feast b),.lst .ro 1 (zA (Bk.shares b))]]) (.cons rfl (.cons rfl (.nil rfl))) rfl fun fr=>?_
  refine kQ (zR rfl rfl rfl sh25 rfl (zB rfl (zL rfl (q51) (.lrefl _) (zB rfl (zV rfl rfl rfl (zV rfl rfl rfl (yH rfl ze72 ?_)))))))
  refine zw rfl rfl sh72 rfl rfl rfl rfl rfl ?_
  refine zC rfl (zD ?_)
  refine zN [(1,.lst .ro 1 (zA L)),(6,U.box 1 0),(7,.int .i64 0)] ([SB.box [.int .i64 (Bk.bg b),.lst .ro 1 (zA (Bk.opens b)),.lst .ro 1 (zA (Bk.ends b)),.lst .ro 5 (scsU (Bk.scenes b)),.int .i64 (Bk.fee b),.lst .ro 1 (zA (Bk.loads b)),.int .i64 (Bk.cart b),.int .i64 (Bk.cost b),.int .i64 (Bk.feast b),.lst .ro 1 (zA (Bk.shares b))],SB.box [.int .i64 (Bk.bg b),.lst .ro 1 (zA (Bk.opens b)),.lst .ro 1 (zA (Bk.ends b)),.lst .ro 5 (scsU (Bk.scenes b)),.int .i64 (Bk.fee b),.lst .ro 1 (zA (Bk.loads b)),.int .i64 (Bk.cart b),.int .i64 (Bk.cost b),.int .i64 (Bk.feast b),.lst .ro 1 (zA (Bk.shares b)),.lst .ro 1 (zA [])]]) (.cons rfl (.cons rfl (.cons rfl (.nil rfl)))) rfl fun fr=>?_
  refine k_seq (kQ (zB rfl (yy rfl rfl rfl (zD (k_cF rfl rfl ?_)))))
  refine zO (kQ (zR rfl rfl rfl sh72 rfl (zB rfl (zL rfl (q58) (.lrefl _) (zC rfl (zC rfl (zD (zY ?_))))))))
  refine⟨.inr rfl,_,.cons _ _ _ _ (.tmp 4) (.cons _ _ _ _ (.tmp 5) .nil),?_⟩
  exact .refl _
  done
 |false=>
  rw[hz]at q51
  have q51:RetP Tryd.prog is orc 51 [b.u,.lst .ro 1 (zA L)] (.tup [zcrU,.int .i64 101]):=q51
  refine kQ (yI rfl rfl (zC rfl (zC rfl (zD ?_))))
  refine zN [(1,.lst .ro 1 (zA L)),(2,U.box 0 0)] ([SB.box [.int .i64 (Bk.bg b),.lst .ro 1 (zA (Bk.opens b)),.lst .ro 1 (zA (Bk.ends b)),.lst .ro 5 (scsU (Bk.scenes b)),.int .i64 (Bk.fee b),.lst .ro 1 (zA (Bk.loads b)),.int .i64 (Bk.cart b),.int .i64 (Bk.cost b),.int .i64 (Bk.feast b),.lst .ro 1 (zA (Bk.shares b))]]) (.cons rfl (.cons rfl (.nil rfl))) rfl fun fr=>?_
  refine kQ (zR rfl rfl rfl sh25 rfl (zB rfl (zL rfl (q51) (.lrefl _) (zB rfl (zV rfl rfl rfl (zV rfl rfl rfl (yH rfl ze72 ?_)))))))
  refine zw rfl rfl sh72 rfl rfl rfl rfl rfl ?_
  refine zC rfl (zD ?_)
  refine zN [(1,.lst .ro 1 (zA L)),(6,U.box 1 0),(7,.int .i64 101)] ([SB.box [.int .i64 (Bk.bg b),.lst .ro 1 (zA (Bk.opens b)),.lst .ro 1 (zA (Bk.ends b)),.lst .ro 5 (scsU (Bk.scenes b)),.int .i64 (Bk.fee b),.lst .ro 1 (zA (Bk.loads b)),.int .i64 (Bk.cart b),.int .i64 (Bk.cost b),.int .i64 (Bk.feast b),.lst .ro 1 (zA (Bk.shares b))],SB.box [.int .i64 0,.lst .full 0 [],.lst .full 0 [],.lst .full 0 [],.int .i64 0,.lst .full 0 [],.int .i64 0,.int .i64 0,.int .i64 0,.lst .full 0 [],.lst .full 0 []]]) (.cons rfl (.cons rfl (.cons rfl (.nil rfl)))) rfl fun fr=>?_
  refine k_seq (kQ (zB rfl (yy rfl rfl rfl (zD (k_cT rfl rfl ?_)))))
  refine kQ (zB rfl (zC rfl (zC rfl (zD (zY ?_)))))
  refine⟨.inr rfl,_,.cons _ _ _ _ (.tmp 4) (.cons _ _ _ _ (.tmp 5) .nil),?_⟩
  exact .refl _
  done
theorem dnF_at{b:Bk}:∀(l:List Int) (i:Nat),dnF b i l=true↔ ∀(j:Nat) (x:Int),l[j]? =some x→dnB b (i+j) x=true:=by
 intro l
 induction l with
 |nil=>intro i;exact⟨(fun _ j x h=>by simp at h),(fun _=>rfl)⟩
 |cons y l ih=>
  intro i
  unfold dnF
  rw[Bool.and_eq_true,ih]
  constructor
  ·rintro⟨h1,h2⟩ j x hx
   cases j with
   |zero=>cases hx;exact h1
   |succ j=>have:=h2 j x (by simpa using hx);rw[show i+(j+1)=i+1+j by omega];exact this
  ·intro h
   refine⟨h 0 y rfl,fun j x hx=>?_⟩
   have:=h (j+1) x (by simpa using hx)
   rw[show i+(j+1)=i+1+j by omega]at this;exact this
theorem done_at{b:Bk}{d:List Int}(h:zEQ b d=true){i:Nat}{x:Int}(hx:d[i]? =some x):dnB b i x=true:=by
 unfold zEQ at h
 rw[Bool.and_eq_true]at h
 have:=(dnF_at d 0).1 h.2 i x hx
 rw[Nat.zero_add]at this;exact this
theorem done_ok{b:Bk}(h:BOk b){d:List Int}(hd:zEQ b d=true):DOk b d:=by
 have h2:=hd
 unfold zEQ at h2
 rw[Bool.and_eq_true,decide_eq_true_eq]at h2
 refine⟨h2.1,fun x hx=>?_⟩
 obtain⟨i,hi⟩:=List.getElem?_of_mem hx
 have:=done_at hd hi
 unfold dnB at this
 rw[Bool.or_eq_true,Bool.and_eq_true,decide_eq_true_eq]at this
 rcases this with h3|h3
 ·omega
 ·cases hq:b.scenes[i]? with
  |none=>rw[hq]at h3;cases h3
  |some q=>
   rw[hq]at h3
   have:=inS_iff.1 h3
   have:=h.sc i q hq
   omega
def cueR(b:Bk)(d:List Int):U:=if zEQ b d=true then .tup [optU (cueO b d),.int .i64 (if(lgt b d).isSome=true then 0 else 4)]else .tup [.lst .full 0 [],.int .i64 101]
theorem dat_fe(k:Nat):Dat (k+2) (.lst .full 0 []):=zd k .full (fun h=>by cases h) 0 []
set_option maxHeartbeats 8000000 in
theorem ret25(hi:Off is){b:Bk}(h:BOk b)(d:List Int):RetP Tryd.prog is orc 25 [b.u,.lst .ro 1 (zA d)] (cueR b d):=by
 have hw:=fun(st:List SB) (j:Nat) (hj:st[j]? =some (.box [.lst .ro 1 (zA d)]))=>wpc60 (orc:=orc) hi h (g:=61) (j:=j) (z:=zEQ b d) (st:=st) (fun E=>wpc61 hi h (ye hj))
 unfold cueR
 refine yD body25 pure25 (hi 25 (by decide)) rfl rfl (yb (zAb b 4) (zd 6 .ro (fun h=>by cases h) 1 d)) (by
  split
  ·exact .inr ⟨_,rfl,yb (k:=7) (dat_opt _ 5) (.int _ _ _)⟩
  ·exact .inr ⟨_,rfl,yb (k:=7) (dat_fe 5) (.int _ _ _)⟩) ?_
 refine kQ (yI rfl rfl (yI rfl rfl (zC rfl (zC rfl (zD ?_)))))
 refine zN [(2,U.box 0 0),(3,U.box 1 0)] ([SB.box [.int .i64 (Bk.bg b),.lst .ro 1 (zA (Bk.opens b)),.lst .ro 1 (zA (Bk.ends b)),.lst .ro 5 (scsU (Bk.scenes b)),.int .i64 (Bk.fee b),.lst .ro 1 (zA (Bk.loads b)),.int .i64 (Bk.cart b),.int .i64 (Bk.cost b),.int .i64 (Bk.feast b),.lst .ro 1 (zA (Bk.shares b))],SB.box [.lst .ro 1 (zA d)]]) (.cons rfl (.cons rfl (.nil rfl))) rfl fun fr=>?_
 refine kQ (zR rfl rfl rfl sh25 rfl ?_)
 refine zGN rfl ?_
 refine zCN (es:=[U.fn 61 [] [U.box 1 0]]) rfl ty104 ze82 cl82 rfl rfl rfl rfl rfl rfl rfl rfl ?_
 refine o_callW rfl (hw _ 1 rfl) (.lcons _ _ _ _ (.refl _) (.lcons _ _ _ _ (.ro _ _ _) (.lrefl _))) (fun u st1 hM=>?_)
 obtain⟨rfl,e,rfl⟩:=hM
 cases hz:zEQ b d with
 |true=>
  have hd:=done_ok h hz
  have q63:=ret63 (orc:=orc) hi h hd
  rw[if_pos rfl]
  cases ho:lgt b d with
  |none=>
   have hc:cueO b d=none:=by unfold cueO;rw[ho];rfl
   rw[ho,hc]at q63
   rw[hc]
   refine zB rfl (zV rfl rfl rfl (zV rfl rfl rfl (yH rfl ze70 ?_)))
   refine zw rfl (yA _ _) sh70 rfl rfl rfl rfl rfl ?_
   refine zC rfl (zD ?_)
   refine zN [(3,U.box 1 0),(6,U.box (List.length (SB.box [.int .i64 (Bk.bg b),.lst .ro 1 (zA (Bk.opens b)),.lst .ro 1 (zA (Bk.ends b)),.lst .ro 5 (scsU (Bk.scenes b)),.int .i64 (Bk.fee b),.lst .ro 1 (zA (Bk.loads b)),.int .i64 (Bk.cart b),.int .i64 (Bk.cost b),.int .i64 (Bk.feast b),.lst .ro 1 (zA (Bk.shares b))]::SB.box [.lst .ro 1 (zA d)]::List.append [] e)) 0),(7,.int .i64 0)] (SB.box [.int .i64 (Bk.bg b),.lst .ro 1 (zA (Bk.opens b)),.lst .ro 1 (zA (Bk.ends b)),.lst .ro 5 (scsU (Bk.scenes b)),.int .i64 (Bk.fee b),.lst .ro 1 (zA (Bk.loads b)),.int .i64 (Bk.cart b),.int .i64 (Bk.cost b),.int .i64 (Bk.feast b),.lst .ro 1 (zA (Bk.shares b))]::SB.box [.lst .ro 1 (zA d)]::List.set (List.append (List.append [] e) [SB.box (zAy (V.cons (V.int .i64 (0:Int)) (V.cons V.nils (V.cons V.nils (V.cons V.nils (V.cons (V.int .i64 (0:Int)) (V.cons V.nils (V.cons (V.int .i64 (0:Int)) (V.cons (V.int .i64 (0:Int)) (V.cons (V.int .i64 (0:Int)) (V.cons V.nils V.nil)))))))))))]) (List.length (List.append [] e)) (SB.box [.int .i64 (Bk.bg b),.lst .ro 1 (zA (Bk.opens b)),.lst .ro 1 (zA (Bk.ends b)),.lst .ro 5 (scsU (Bk.scenes b)),.int .i64 (Bk.fee b),.lst .ro 1 (zA (Bk.loads b)),.int .i64 (Bk.cart b),.int .i64 (Bk.cost b),.int .i64 (Bk.feast b),.lst .ro 1 (zA (Bk.shares b))])) (.cons rfl (.cons rfl (.cons rfl (.nil rfl)))) rfl fun fr=>?_
   refine k_seq (kQ (zB rfl (yy rfl rfl rfl (zD ?_))))
   refine zN [(3,U.box 1 0),(6,U.box (List.length (SB.box [.int .i64 (Bk.bg b),.lst .ro 1 (zA (Bk.opens b)),.lst .ro 1 (zA (Bk.ends b)),.lst .ro 5 (scsU (Bk.scenes b)),.int .i64 (Bk.fee b),.lst .ro 1 (zA (Bk.loads b)),.int .i64 (Bk.cart b),.int .i64 (Bk.cost b),.int .i64 (Bk.feast b),.lst .ro 1 (zA (Bk.shares b))]::SB.box [.lst .ro 1 (zA d)]::List.append [] e)) 0),(7,.int .i64 0),(18,U.bool (decide ((0:Int)≠(0:Int))))] (SB.box [.int .i64 (Bk.bg b),.lst .ro 1 (zA (Bk.opens b)),.lst .ro 1 (zA (Bk.ends b)),.lst .ro 5 (scsU (Bk.scenes b)),.int .i64 (Bk.fee b),.lst .ro 1 (zA (Bk.loads b)),.int .i64 (Bk.cart b),.int .i64 (Bk.cost b),.int .i64 (Bk.feast b),.lst .ro 1 (zA (Bk.shares b))]::SB.box [.lst .ro 1 (zA d)]::List.set (List.append (List.append [] e) [SB.box (zAy (V.cons (V.int .i64 (0:Int)) (V.cons V.nils (V.cons V.nils (V.cons V.nils (V.cons (V.int .i64 (0:Int)) (V.cons V.nils (V.cons (V.int .i64 (0:Int)) (V.cons (V.int .i64 (0:Int)) (V.cons (V.int .i64 (0:Int)) (V.cons V.nils V.nil)))))))))))]) (List.length (List.append [] e)) (SB.box [.int .i64 (Bk.bg b),.lst .ro 1 (zA (Bk.opens b)),.lst .ro 1 (zA (Bk.ends b)),.lst .ro 5 (scsU (Bk.scenes b)),.int .i64 (Bk.fee b),.lst .ro 1 (zA (Bk.loads b)),.int .i64 (Bk.cart b),.int .i64 (Bk.cost b),.int .i64 (Bk.feast b),.lst .ro 1 (zA (Bk.shares b))])) (.c4 rfl rfl rfl rfl (.nil rfl)) rfl fun fr=>?_
   refine k_cF rfl rfl ?_
   refine zO (kQ (zR rfl rfl (zCk _ _ _) sh70 rfl ?_))
   refine zF rfl rfl rfl sh22 rfl (zAL rfl ze72 pl72 rfl rfl ?_)
   refine zL rfl (q63) (.lrefl _) (zB rfl (zV rfl rfl rfl (zV rfl rfl rfl (zC rfl (zC rfl (zD ?_))))))
   refine zN [(8,.lst .full 0 []),(9,U.bool (Option.isSome Option.none))] (SB.box [.int .i64 (Bk.bg b),.lst .ro 1 (zA (Bk.opens b)),.lst .ro 1 (zA (Bk.ends b)),.lst .ro 5 (scsU (Bk.scenes b)),.int .i64 (Bk.fee b),.lst .ro 1 (zA (Bk.loads b)),.int .i64 (Bk.cart b),.int .i64 (Bk.cost b),.int .i64 (Bk.feast b),.lst .ro 1 (zA (Bk.shares b))]::SB.box [.lst .ro 1 (zA d)]::List.set (List.append (List.append [] e) [SB.box (zAy (V.cons (V.int .i64 (0:Int)) (V.cons V.nils (V.cons V.nils (V.cons V.nils (V.cons (V.int .i64 (0:Int)) (V.cons V.nils (V.cons (V.int .i64 (0:Int)) (V.cons (V.int .i64 (0:Int)) (V.cons (V.int .i64 (0:Int)) (V.cons V.nils V.nil)))))))))))]) (List.length (List.append [] e)) (SB.box [.int .i64 (Bk.bg b),.lst .ro 1 (zA (Bk.opens b)),.lst .ro 1 (zA (Bk.ends b)),.lst .ro 5 (scsU (Bk.scenes b)),.int .i64 (Bk.fee b),.lst .ro 1 (zA (Bk.loads b)),.int .i64 (Bk.cart b),.int .i64 (Bk.cost b),.int .i64 (Bk.feast b),.lst .ro 1 (zA (Bk.shares b))])) (.cons rfl (.cons rfl (.nil rfl))) rfl fun fr=>?_
   refine k_seq (kQ (zB rfl (zt rfl rfl (zD ?_))))
   refine zN [(8,.lst .full 0 []),(28,U.bool !Option.isSome Option.none)] (SB.box [.int .i64 (Bk.bg b),.lst .ro 1 (zA (Bk.opens b)),.lst .ro 1 (zA (Bk.ends b)),.lst .ro 5 (scsU (Bk.scenes b)),.int .i64 (Bk.fee b),.lst .ro 1 (zA (Bk.loads b)),.int .i64 (Bk.cart b),.int .i64 (Bk.cost b),.int .i64 (Bk.feast b),.lst .ro 1 (zA (Bk.shares b))]::SB.box [.lst .ro 1 (zA d)]::List.set (List.append (List.append [] e) [SB.box (zAy (V.cons (V.int .i64 (0:Int)) (V.cons V.nils (V.cons V.nils (V.cons V.nils (V.cons (V.int .i64 (0:Int)) (V.cons V.nils (V.cons (V.int .i64 (0:Int)) (V.cons (V.int .i64 (0:Int)) (V.cons (V.int .i64 (0:Int)) (V.cons V.nils V.nil)))))))))))]) (List.length (List.append [] e)) (SB.box [.int .i64 (Bk.bg b),.lst .ro 1 (zA (Bk.opens b)),.lst .ro 1 (zA (Bk.ends b)),.lst .ro 5 (scsU (Bk.scenes b)),.int .i64 (Bk.fee b),.lst .ro 1 (zA (Bk.loads b)),.int .i64 (Bk.cart b),.int .i64 (Bk.cost b),.int .i64 (Bk.feast b),.lst .ro 1 (zA (Bk.shares b))])) (.cons rfl (.cons rfl (.nil rfl))) rfl fun fr=>?_
   refine k_cT rfl rfl ?_
   refine kQ (zC rfl (zC rfl (zD (zY ?_))))
   refine⟨.inr rfl,_,.cons _ _ _ _ (.tmp 4) (.cons _ _ _ _ (.tmp 5) .nil),?_⟩
   exact .refl _
   done
  |some m=>
   obtain⟨r,hc⟩:∃r,cueO b d=some r:=by unfold cueO;rw[ho];exact⟨_,rfl⟩
   rw[ho,hc]at q63
   rw[hc]
   refine zB rfl (zV rfl rfl rfl (zV rfl rfl rfl (yH rfl ze70 ?_)))
   refine zw rfl (yA _ _) sh70 rfl rfl rfl rfl rfl ?_
   refine zC rfl (zD ?_)
   refine zN [(3,U.box 1 0),(6,U.box (List.length (SB.box [.int .i64 (Bk.bg b),.lst .ro 1 (zA (Bk.opens b)),.lst .ro 1 (zA (Bk.ends b)),.lst .ro 5 (scsU (Bk.scenes b)),.int .i64 (Bk.fee b),.lst .ro 1 (zA (Bk.loads b)),.int .i64 (Bk.cart b),.int .i64 (Bk.cost b),.int .i64 (Bk.feast b),.lst .ro 1 (zA (Bk.shares b))]::SB.box [.lst .ro 1 (zA d)]::List.append [] e)) 0),(7,.int .i64 0)] (SB.box [.int .i64 (Bk.bg b),.lst .ro 1 (zA (Bk.opens b)),.lst .ro 1 (zA (Bk.ends b)),.lst .ro 5 (scsU (Bk.scenes b)),.int .i64 (Bk.fee b),.lst .ro 1 (zA (Bk.loads b)),.int .i64 (Bk.cart b),.int .i64 (Bk.cost b),.int .i64 (Bk.feast b),.lst .ro 1 (zA (Bk.shares b))]::SB.box [.lst .ro 1 (zA d)]::List.set (List.append (List.append [] e) [SB.box (zAy (V.cons (V.int .i64 (0:Int)) (V.cons V.nils (V.cons V.nils (V.cons V.nils (V.cons (V.int .i64 (0:Int)) (V.cons V.nils (V.cons (V.int .i64 (0:Int)) (V.cons (V.int .i64 (0:Int)) (V.cons (V.int .i64 (0:Int)) (V.cons V.nils V.nil)))))))))))]) (List.length (List.append [] e)) (SB.box [.int .i64 (Bk.bg b),.lst .ro 1 (zA (Bk.opens b)),.lst .ro 1 (zA (Bk.ends b)),.lst .ro 5 (scsU (Bk.scenes b)),.int .i64 (Bk.fee b),.lst .ro 1 (zA (Bk.loads b)),.int .i64 (Bk.cart b),.int .i64 (Bk.cost b),.int .i64 (Bk.feast b),.lst .ro 1 (zA (Bk.shares b))])) (.cons rfl (.cons rfl (.cons rfl (.nil rfl)))) rfl fun fr=>?_
   refine k_seq (kQ (zB rfl (yy rfl rfl rfl (zD ?_))))
   refine zN [(3,U.box 1 0),(6,U.box (List.length (SB.box [.int .i64 (Bk.bg b),.lst .ro 1 (zA (Bk.opens b)),.lst .ro 1 (zA (Bk.ends b)),.lst .ro 5 (scsU (Bk.scenes b)),.int .i64 (Bk.fee b),.lst .ro 1 (zA (Bk.loads b)),.int .i64 (Bk.cart b),.int .i64 (Bk.cost b),.int .i64 (Bk.feast b),.lst .ro 1 (zA (Bk.shares b))]::SB.box [.lst .ro 1 (zA d)]::List.append [] e)) 0),(7,.int .i64 0),(18,U.bool (decide ((0:Int)≠(0:Int))))] (SB.box [.int .i64 (Bk.bg b),.lst .ro 1 (zA (Bk.opens b)),.lst .ro 1 (zA (Bk.ends b)),.lst .ro 5 (scsU (Bk.scenes b)),.int .i64 (Bk.fee b),.lst .ro 1 (zA (Bk.loads b)),.int .i64 (Bk.cart b),.int .i64 (Bk.cost b),.int .i64 (Bk.feast b),.lst .ro 1 (zA (Bk.shares b))]::SB.box [.lst .ro 1 (zA d)]::List.set (List.append (List.append [] e) [SB.box (zAy (V.cons (V.int .i64 (0:Int)) (V.cons V.nils (V.cons V.nils (V.cons V.nils (V.cons (V.int .i64 (0:Int)) (V.cons V.nils (V.cons (V.int .i64 (0:Int)) (V.cons (V.int .i64 (0:Int)) (V.cons (V.int .i64 (0:Int)) (V.cons V.nils V.nil)))))))))))]) (List.length (List.append [] e)) (SB.box [.int .i64 (Bk.bg b),.lst .ro 1 (zA (Bk.opens b)),.lst .ro 1 (zA (Bk.ends b)),.lst .ro 5 (scsU (Bk.scenes b)),.int .i64 (Bk.fee b),.lst .ro 1 (zA (Bk.loads b)),.int .i64 (Bk.cart b),.int .i64 (Bk.cost b),.int .i64 (Bk.feast b),.lst .ro 1 (zA (Bk.shares b))])) (.c4 rfl rfl rfl rfl (.nil rfl)) rfl fun fr=>?_
   refine k_cF rfl rfl ?_
   refine zO (kQ (zR rfl rfl (zCk _ _ _) sh70 rfl ?_))
   refine zF rfl rfl rfl sh22 rfl (zAL rfl ze72 pl72 rfl rfl ?_)
   refine zL rfl (q63) (.lrefl _) (zB rfl (zV rfl rfl rfl (zV rfl rfl rfl (zC rfl (zC rfl (zD ?_))))))
   refine zN [(8,.lst .ro 1 (zA r)),(9,U.bool (Option.isSome (Option.some m)))] (SB.box [.int .i64 (Bk.bg b),.lst .ro 1 (zA (Bk.opens b)),.lst .ro 1 (zA (Bk.ends b)),.lst .ro 5 (scsU (Bk.scenes b)),.int .i64 (Bk.fee b),.lst .ro 1 (zA (Bk.loads b)),.int .i64 (Bk.cart b),.int .i64 (Bk.cost b),.int .i64 (Bk.feast b),.lst .ro 1 (zA (Bk.shares b))]::SB.box [.lst .ro 1 (zA d)]::List.set (List.append (List.append [] e) [SB.box (zAy (V.cons (V.int .i64 (0:Int)) (V.cons V.nils (V.cons V.nils (V.cons V.nils (V.cons (V.int .i64 (0:Int)) (V.cons V.nils (V.cons (V.int .i64 (0:Int)) (V.cons (V.int .i64 (0:Int)) (V.cons (V.int .i64 (0:Int)) (V.cons V.nils V.nil)))))))))))]) (List.length (List.append [] e)) (SB.box [.int .i64 (Bk.bg b),.lst .ro 1 (zA (Bk.opens b)),.lst .ro 1 (zA (Bk.ends b)),.lst .ro 5 (scsU (Bk.scenes b)),.int .i64 (Bk.fee b),.lst .ro 1 (zA (Bk.loads b)),.int .i64 (Bk.cart b),.int .i64 (Bk.cost b),.int .i64 (Bk.feast b),.lst .ro 1 (zA (Bk.shares b))])) (.cons rfl (.cons rfl (.nil rfl))) rfl fun fr=>?_
   refine k_seq (kQ (zB rfl (zt rfl rfl (zD ?_))))
   refine zN [(8,.lst .ro 1 (zA r)),(28,U.bool !Option.isSome (Option.some m))] (SB.box [.int .i64 (Bk.bg b),.lst .ro 1 (zA (Bk.opens b)),.lst .ro 1 (zA (Bk.ends b)),.lst .ro 5 (scsU (Bk.scenes b)),.int .i64 (Bk.fee b),.lst .ro 1 (zA (Bk.loads b)),.int .i64 (Bk.cart b),.int .i64 (Bk.cost b),.int .i64 (Bk.feast b),.lst .ro 1 (zA (Bk.shares b))]::SB.box [.lst .ro 1 (zA d)]::List.set (List.append (List.append [] e) [SB.box (zAy (V.cons (V.int .i64 (0:Int)) (V.cons V.nils (V.cons V.nils (V.cons V.nils (V.cons (V.int .i64 (0:Int)) (V.cons V.nils (V.cons (V.int .i64 (0:Int)) (V.cons (V.int .i64 (0:Int)) (V.cons (V.int .i64 (0:Int)) (V.cons V.nils V.nil)))))))))))]) (List.length (List.append [] e)) (SB.box [.int .i64 (Bk.bg b),.lst .ro 1 (zA (Bk.opens b)),.lst .ro 1 (zA (Bk.ends b)),.lst .ro 5 (scsU (Bk.scenes b)),.int .i64 (Bk.fee b),.lst .ro 1 (zA (Bk.loads b)),.int .i64 (Bk.cart b),.int .i64 (Bk.cost b),.int .i64 (Bk.feast b),.lst .ro 1 (zA (Bk.shares b))])) (.cons rfl (.cons rfl (.nil rfl))) rfl fun fr=>?_
   refine k_cF rfl rfl ?_
   refine zO (kQ (zB rfl (zC rfl (zC rfl (zD (zY ?_))))))
   refine⟨.inr rfl,_,.cons _ _ _ _ (.tmp 4) (.cons _ _ _ _ (.tmp 5) .nil),?_⟩
   exact .refl _
   done
 |false=>
  rw[if_neg (by decide)]
  refine zB rfl (zV rfl rfl rfl (zV rfl rfl rfl (yH rfl ze70 ?_)))
  refine zw rfl (yA _ _) sh70 rfl rfl rfl rfl rfl ?_
  refine zC rfl (zD ?_)
  refine zN [(3,U.box 1 0),(6,U.box (List.length (SB.box [.int .i64 (Bk.bg b),.lst .ro 1 (zA (Bk.opens b)),.lst .ro 1 (zA (Bk.ends b)),.lst .ro 5 (scsU (Bk.scenes b)),.int .i64 (Bk.fee b),.lst .ro 1 (zA (Bk.loads b)),.int .i64 (Bk.cart b),.int .i64 (Bk.cost b),.int .i64 (Bk.feast b),.lst .ro 1 (zA (Bk.shares b))]::SB.box [.lst .ro 1 (zA d)]::List.append [] e)) 0),(7,.int .i64 101)] (SB.box [.int .i64 (Bk.bg b),.lst .ro 1 (zA (Bk.opens b)),.lst .ro 1 (zA (Bk.ends b)),.lst .ro 5 (scsU (Bk.scenes b)),.int .i64 (Bk.fee b),.lst .ro 1 (zA (Bk.loads b)),.int .i64 (Bk.cart b),.int .i64 (Bk.cost b),.int .i64 (Bk.feast b),.lst .ro 1 (zA (Bk.shares b))]::SB.box [.lst .ro 1 (zA d)]::List.set (List.append (List.append [] e) [SB.box (zAy (V.cons (V.int .i64 (0:Int)) (V.cons V.nils (V.cons V.nils (V.cons V.nils (V.cons (V.int .i64 (0:Int)) (V.cons V.nils (V.cons (V.int .i64 (0:Int)) (V.cons (V.int .i64 (0:Int)) (V.cons (V.int .i64 (0:Int)) (V.cons V.nils V.nil)))))))))))]) (List.length (List.append [] e)) (SB.box [.int .i64 0,.lst .full 0 [],.lst .full 0 [],.lst .full 0 [],.int .i64 0,.lst .full 0 [],.int .i64 0,.int .i64 0,.int .i64 0,.lst .full 0 []])) (.cons rfl (.cons rfl (.cons rfl (.nil rfl)))) rfl fun fr=>?_
  refine k_seq (kQ (zB rfl (yy rfl rfl rfl (zD ?_))))
  refine zN [(3,U.box 1 0),(6,U.box (List.length (SB.box [.int .i64 (Bk.bg b),.lst .ro 1 (zA (Bk.opens b)),.lst .ro 1 (zA (Bk.ends b)),.lst .ro 5 (scsU (Bk.scenes b)),.int .i64 (Bk.fee b),.lst .ro 1 (zA (Bk.loads b)),.int .i64 (Bk.cart b),.int .i64 (Bk.cost b),.int .i64 (Bk.feast b),.lst .ro 1 (zA (Bk.shares b))]::SB.box [.lst .ro 1 (zA d)]::List.append [] e)) 0),(7,.int .i64 101),(18,U.bool (decide ((101:Int)≠(0:Int))))] (SB.box [.int .i64 (Bk.bg b),.lst .ro 1 (zA (Bk.opens b)),.lst .ro 1 (zA (Bk.ends b)),.lst .ro 5 (scsU (Bk.scenes b)),.int .i64 (Bk.fee b),.lst .ro 1 (zA (Bk.loads b)),.int .i64 (Bk.cart b),.int .i64 (Bk.cost b),.int .i64 (Bk.feast b),.lst .ro 1 (zA (Bk.shares b))]::SB.box [.lst .ro 1 (zA d)]::List.set (List.append (List.append [] e) [SB.box (zAy (V.cons (V.int .i64 (0:Int)) (V.cons V.nils (V.cons V.nils (V.cons V.nils (V.cons (V.int .i64 (0:Int)) (V.cons V.nils (V.cons (V.int .i64 (0:Int)) (V.cons (V.int .i64 (0:Int)) (V.cons (V.int .i64 (0:Int)) (V.cons V.nils V.nil)))))))))))]) (List.length (List.append [] e)) (SB.box [.int .i64 0,.lst .full 0 [],.lst .full 0 [],.lst .full 0 [],.int .i64 0,.lst .full 0 [],.int .i64 0,.int .i64 0,.int .i64 0,.lst .full 0 []])) (.c4 rfl rfl rfl rfl (.nil rfl)) rfl fun fr=>?_
  refine k_cT rfl rfl ?_
  refine kQ (zB rfl (zC rfl (zC rfl (zD (zY ?_)))))
  refine⟨.inr rfl,_,.cons _ _ _ _ (.tmp 4) (.cons _ _ _ _ (.tmp 5) .nil),?_⟩
  exact .refl _
  done
theorem ret21(hi:Off is){b:Bk}(h:BOk b):RetP Tryd.prog is orc 21 [b.u] (.tup [optU (lgt b []),.int .i64 (if(lgt b []).isSome=true then 0 else 4)]):=by
 have q25:=ret25 (orc:=orc) hi h []
 have e:cueR b []=.tup [optU (lgt b []),.int .i64 (if(lgt b []).isSome=true then 0 else 4)]:=by
  have hd:zEQ b []=true:=by unfold zEQ;simp[dnF]
  have hc:cueO b []=lgt b []:=by
   unfold cueO
   cases lgt b []with
   |none=>rfl
   |some m=>show some (m.drop 0)=_;rw[List.drop_zero]
  unfold cueR
  rw[if_pos hd,hc]
 rw[e]at q25
 refine yD body21 pure21 (hi 21 (by decide)) rfl rfl (zBi (zAb b 4)) (.inr ⟨_,rfl,yb (k:=7) (dat_opt _ 5) (.int _ _ _)⟩) ?_
 generalize lgt b []=o at*
 cases o with
 |none=>
  refine kQ (yI rfl rfl (zC rfl (zC rfl (zD ?_))))
  refine zN [(1,U.box 0 0)] ([SB.box [.int .i64 (Bk.bg b),.lst .ro 1 (zA (Bk.opens b)),.lst .ro 1 (zA (Bk.ends b)),.lst .ro 5 (scsU (Bk.scenes b)),.int .i64 (Bk.fee b),.lst .ro 1 (zA (Bk.loads b)),.int .i64 (Bk.cart b),.int .i64 (Bk.cost b),.int .i64 (Bk.feast b),.lst .ro 1 (zA (Bk.shares b))]]) (.cons rfl (.nil rfl)) rfl fun fr=>?_
  refine kQ (zR rfl rfl rfl sh25 rfl (zL rfl (q25) (.lcons _ _ _ _ (.refl _) (.lcons _ _ _ _ (.nil _ _ _) (.lrefl _))) ?_))
  refine zV rfl rfl rfl (zV rfl rfl rfl (zC rfl (zC rfl (zD (zY ?_)))))
  refine⟨.inr rfl,_,.cons _ _ _ _ (.tmp 2) (.cons _ _ _ _ (.tmp 3) .nil),?_⟩
  exact .refl _
 |some m=>
  refine kQ (yI rfl rfl (zC rfl (zC rfl (zD ?_))))
  refine zN [(1,U.box 0 0)] ([SB.box [.int .i64 (Bk.bg b),.lst .ro 1 (zA (Bk.opens b)),.lst .ro 1 (zA (Bk.ends b)),.lst .ro 5 (scsU (Bk.scenes b)),.int .i64 (Bk.fee b),.lst .ro 1 (zA (Bk.loads b)),.int .i64 (Bk.cart b),.int .i64 (Bk.cost b),.int .i64 (Bk.feast b),.lst .ro 1 (zA (Bk.shares b))]]) (.cons rfl (.nil rfl)) rfl fun fr=>?_
  refine kQ (zR rfl rfl rfl sh25 rfl (zL rfl (q25) (.lcons _ _ _ _ (.refl _) (.lcons _ _ _ _ (.nil _ _ _) (.lrefl _))) ?_))
  refine zV rfl rfl rfl (zV rfl rfl rfl (zC rfl (zC rfl (zD (zY ?_)))))
  refine⟨.inr rfl,_,.cons _ _ _ _ (.tmp 2) (.cons _ _ _ _ (.tmp 3) .nil),?_⟩
  exact .refl _
end Go.Proofs.YtlknfhjfkcboiaaDoor.nightLeast
