import Derived.Test.YtlknfhjfkcboiaaDoorVamT8
set_option linter.unusedVariables false
set_option linter.unusedSimpArgs false
set_option linter.constructorNameAsVariable false
namespace Go.Proofs.YtlknfhjfkcboiaaDoor.night
open Vam
variable {is:FuncId→Bool}{orc:Known}
theorem cl82:Program.cellsOf Tryd.prog 82=1:=by kernel_rfl
theorem pl70:zGR Tryd.prog 70=some [(0,10)]:=by kernel_rfl
theorem sh82:shOf Tryd.prog 82=.one:=by kernel_rfl
theorem ty104:tyOf Tryd.prog 104=.slice 82:=by kernel_rfl
theorem ze70:yZ Tryd.prog 70=some ((.cons (.int .i64 0) (.cons .nils (.cons .nils (.cons .nils (.cons (.int .i64 0) (.cons .nils (.cons (.int .i64 0) (.cons (.int .i64 0) (.cons (.int .i64 0) (.cons .nils .nil)))))))))):V):=by kernel_rfl
noncomputable def b60:Code:=(Tryd.f60.body).getD .skip
theorem body60:bodyOf Tryd.prog 60=some (31,b60,[.cell 4 70,.tmp 5]):=by kernel_rfl
theorem pure60:pureFn Tryd.prog 60=false:=by kernel_rfl
noncomputable def b61:Code:=(Tryd.f61.body).getD .skip
theorem body61:bodyOf Tryd.prog 61=some (7,b61,[.tmp 3]):=by kernel_rfl
theorem pure61:pureFn Tryd.prog 61=false:=by kernel_rfl
theorem pl72:zGR Tryd.prog 72=some [(0,10),(10,1)]:=by kernel_rfl
theorem ze72:yZ Tryd.prog 72=some ((.cons (.int .i64 0) (.cons .nils (.cons .nils (.cons .nils (.cons (.int .i64 0) (.cons .nils (.cons (.int .i64 0) (.cons (.int .i64 0) (.cons (.int .i64 0) (.cons .nils (.cons .nils .nil))))))))))):V):=by kernel_rfl
theorem ze82:yZ Tryd.prog 82=some ((.cons .nilf .nil):V):=by kernel_rfl
noncomputable def b25:Code:=(Tryd.f25.body).getD .skip
theorem body25:bodyOf Tryd.prog 25=some (30,b25,[.tmp 4,.tmp 5]):=by kernel_rfl
theorem pure25:pureFn Tryd.prog 25=true:=by kernel_rfl
theorem wpc61(hi:Off is){b:Bk}(h:BOk b){d:List Int}{st:List SB}{j:Nat}(hj:st[j]? =some (.box [.lst .ro 1 (zE d)])):WpC Tryd.prog is orc 61 [b.u,.box j 0] st fun u st'=>u=.bool (wZ b d)∧∃e,st'=st++e:=by
 refine zFX body61 pure61 rfl rfl ?_
 have q62:=ret62 (orc:=orc) hi h d
 generalize wZ b d=z at*
 refine kQ (yB rfl rfl (zB rfl (zC ?_)))
 refine zF [(1,U.box j 0),(2,U.box (List.length st) 0)] (st++[SB.box (Bk.cs b)]) (.n2 rfl) rfl fun fr=>?_
 refine kQ (yK rfl rfl (za _ _) sh70 rfl ?_)
 refine zQ rfl rfl (yL hj) sh22 rfl ?_
 refine zG rfl (q62) (.lrefl _) (zB rfl (zC (zS ?_)))
 refine⟨.inr rfl,_,.cons _ _ _ _ (.tmp 3) .nil,?_⟩
 exact⟨_,.refl _,rfl,_,rfl⟩
abbrev zerU:U:=.agg [.int .i64 0,.lst .full 0 [],.lst .full 0 [],.lst .full 0 [],.int .i64 0,.lst .full 0 [],.int .i64 0,.int .i64 0,.int .i64 0,.lst .full 0 []]
def askU(b:Bk)(z:Bool):U:=if z=true then .tup [b.u,.int .i64 0]else .tup [zerU,.int .i64 101]
set_option maxHeartbeats 16000000 in
theorem wpc60(hi:Off is){b:Bk}(hb:VOk b){g j:Nat}{z:Bool}{st:List SB}(hg:∀E,WpC Tryd.prog is orc g [b.u,.box j 0] (st++E) fun u st'=>u=.bool z∧∃e,st'=(st++E)++e):WpC Tryd.prog is orc 60 [b.u,.lst .ro 1 [.fn g [] [.box j 0]]] st fun u st'=>u=askU b z∧∃e,st'=st++e:=by
 refine zFX body60 pure60 rfl rfl ?_
 have q17:=ret17 (orc:=orc) hi b
 rw[if_pos ((zCY b).2 hb)]at q17
 refine kQ (yB rfl rfl (zq rfl ze70 ?_))
 refine zB rfl (zC ?_)
 refine zF [(1,.lst .ro 1 [U.fn g [] [U.box j 0]]),(2,U.box (List.length st) 0),(4,U.box (List.length (st++[SB.box (Bk.cs b)])) 0)] (st++[SB.box (Bk.cs b)]++[SB.box [.int .i64 0,.lst .full 0 [],.lst .full 0 [],.lst .full 0 [],.int .i64 0,.lst .full 0 [],.int .i64 0,.int .i64 0,.int .i64 0,.lst .full 0 []]]) (.n3 rfl) rfl fun fr=>?_
 refine k_seq (kQ (yK rfl rfl (yL (za _ _)) sh25 rfl ?_))
 refine zG rfl (q17) (.lrefl _) (zB rfl (zC (kQ (zA rfl (ku rfl (zC (k_cF rfl rfl ?_)))))))
 refine zJ (kQ (yK rfl rfl (yL (za _ _)) sh25 rfl ?_))
 refine wk rfl ze70 pl70 rfl rfl ?_
 refine zq rfl ze70 ?_
 refine zZ rfl (za _ _) sh70 rfl rfl rfl rfl rfl ?_
 refine zC ?_
 refine zF [(1,.lst .ro 1 [U.fn g [] [U.box j 0]]),(4,U.box (List.length (st++[SB.box (Bk.cs b)])) 0),(7,U.box (List.length (st++[SB.box (Bk.cs b)]++[SB.box [.int .i64 0,.lst .full 0 [],.lst .full 0 [],.lst .full 0 [],.int .i64 0,.lst .full 0 [],.int .i64 0,.int .i64 0,.int .i64 0,.lst .full 0 []]])) 0)] (st++[SB.box (Bk.cs b)]++[SB.box [.int .i64 0,.lst .full 0 [],.lst .full 0 [],.lst .full 0 [],.int .i64 0,.lst .full 0 [],.int .i64 0,.int .i64 0,.int .i64 0,.lst .full 0 []]]++[SB.box (Bk.cs b)]) (.n3 rfl) (yc _ _ _) fun fr=>?_
 refine k_seq (kQ (zA rfl (zP rfl ty104 rfl rfl ?_)))
 refine zA rfl (zC (zH ?_))
 refine yR (fun kk s2=>∃X:List SB,s2.st=st++X∧X[1]? =some (.box [.int .i64 0,.lst .full 0 [],.lst .full 0 [],.lst .full 0 [],.int .i64 0,.lst .full 0 [],.int .i64 0,.int .i64 0,.int .i64 0,.lst .full 0 []])∧X[2]? =some (.box (Bk.cs b))∧((kk=1∧Holds s2 [(4,.box (st.length+1) 0),(7,.box (st.length+2) 0),(18,.lst .ro 1 [.fn g [] [.box j 0]]),(19,.int .i64 1),(20,.int .i64 0)])∨(kk=0∧z=true∧Holds s2 [(4,.box (st.length+1) 0),(7,.box (st.length+2) 0),(18,.lst .ro 1 [.fn g [] [.box j 0]]),(19,.int .i64 1),(20,.int .i64 1)]))) (fun kk s2 hI=>?_) 1 _ ⟨[.box (Bk.cs b),.box [.int .i64 0,.lst .full 0 [],.lst .full 0 [],.lst .full 0 [],.int .i64 0,.lst .full 0 [],.int .i64 0,.int .i64 0,.int .i64 0,.lst .full 0 []],.box (Bk.cs b)],(by show((st++[SB.box _])++[SB.box _])++[SB.box _]=_;rw[List.append_assoc,List.append_assoc];rfl),rfl,rfl,.inl ⟨rfl,.cons (by show U.box (st++[SB.box _]).length 0=_;simp) (.cons (by show U.box ((st++[SB.box _])++[SB.box _]).length 0=_;simp) (.n3 rfl))⟩⟩
 obtain⟨X,hst2,x1,x2,⟨hk,hs2⟩|⟨hk,hz,hs2⟩⟩:=hI
 ·have y1:=at_off (st:=st) x1
  have y2:=at_off (st:=st) x2
  refine zF _ _ hs2 hst2 fun fr2=>?_
  have hl:st.length+1<(st++X).length:=(List.getElem?_eq_some_iff.1 y1).1
  refine kQ (kq rfl (zC (k_seq (k_cT rfl rfl ?_))))
  refine zJ (k_seq (zH (kQ (zX rfl ty104 rfl rfl (by decide) rfl cl82 ?_))))
  refine kE sh82 rfl ?_
  refine zB rfl (zC (kQ (zA rfl (yK rfl rfl y2 sh70 rfl ?_))))
  refine o_callV rfl rfl (hg X) (.lrefl _) (fun u st1 hM=>?_)
  obtain⟨rfl,e,rfl⟩:=hM
  cases z with
  |true=>
   refine zh rfl rfl (zC (k_cF rfl rfl ?_))
   refine zJ (k_region ?_)
   refine kB rfl (by unfold I64;omega) (zA rfl (zC ?_))
   exact⟨0,by omega,X++e,(by show(st++X)++e=_;rw[List.append_assoc]),yL x1,yL x2,.inr ⟨rfl,rfl,.c4 rfl rfl rfl rfl (.n1 rfl)⟩⟩
  |false=>
   have y3:((st++X)++e)[st.length+1]? =some (.box [.int .i64 0,.lst .full 0 [],.lst .full 0 [],.lst .full 0 [],.int .i64 0,.lst .full 0 [],.int .i64 0,.int .i64 0,.int .i64 0,.lst .full 0 []]):=yL y1
   have hl3:st.length+1<((st++X)++e).length:=(List.getElem?_eq_some_iff.1 y3).1
   refine zh rfl rfl (zC (k_cT rfl rfl ?_))
   refine kQ (wk rfl ze70 pl70 rfl rfl ?_)
   refine zZ rfl y3 sh70 rfl rfl rfl rfl rfl ?_
   refine zB rfl (zC (zS ?_))
   refine⟨.inr rfl,_,.cons _ _ _ _ (.cellN 4 70 (st.length+1) 0 10 [.int .i64 0,.lst .full 0 [],.lst .full 0 [],.lst .full 0 [],.int .i64 0,.lst .full 0 [],.int .i64 0,.int .i64 0,.int .i64 0,.lst .full 0 []] rfl (List.getElem?_set_self hl3) sh70 rfl) (.cons _ _ _ _ (.tmp 5) .nil),_,.refl _,rfl,X.set 1 (.box [.int .i64 0,.lst .full 0 [],.lst .full 0 [],.lst .full 0 [],.int .i64 0,.lst .full 0 [],.int .i64 0,.int .i64 0,.int .i64 0,.lst .full 0 []])++e,?_⟩
   show((st++X)++e).set (st.length+1) _=_
   have hX:1<X.length:=(List.getElem?_eq_some_iff.1 x1).1
   rw[List.append_assoc,set_off,List.set_append_left _ _ hX];rfl
 ·have y1:=at_off (st:=st) x1
  have y2:=at_off (st:=st) x2
  refine zF _ _ hs2 hst2 fun fr2=>?_
  have hl:st.length+1<(st++X).length:=(List.getElem?_eq_some_iff.1 y1).1
  subst hz
  refine kQ (kq rfl (zC (k_seq (k_cF rfl rfl ?_))))
  refine zr (kQ (yK rfl rfl y2 sh70 rfl ?_))
  refine zZ rfl y1 sh70 rfl rfl rfl rfl rfl ?_
  refine zB rfl (zC (zS ?_))
  refine⟨.inr rfl,_,.cons _ _ _ _ (.cellN 4 70 (st.length+1) 0 10 (Bk.cs b) rfl (List.getElem?_set_self hl) sh70 rfl) (.cons _ _ _ _ (.tmp 5) .nil),_,.refl _,rfl,_,set_off⟩
theorem chF_iff{b:Bk}:∀(L:List Int) (q:Int),chF b q L=true↔L.Pairwise (fun x y=>x<y)∧∀x∈L,q<x∧x<b.scenes.length∧zAT b x.toNat=false:=by
 intro L
 induction L with
 |nil=>intro q;exact⟨(fun _=>⟨List.Pairwise.nil,fun x hx=>by cases hx⟩),(fun _=>rfl)⟩
 |cons x L ih=>
  intro q
  unfold chF
  rw[Bool.and_eq_true,Bool.and_eq_true,Bool.and_eq_true,ih,decide_eq_true_eq,decide_eq_true_eq]
  constructor
  ·rintro⟨h1,h2,h3,h4,h5⟩
   refine⟨List.pairwise_cons.2 ⟨fun y hy=>(h5 y hy).1,h4⟩,fun y hy=>?_⟩
   rcases List.mem_cons.1 hy with rfl|hy
   ·exact⟨h1,h2,by simpa using h3⟩
   ·have:=h5 y hy;exact⟨by omega,this.2⟩
  ·rintro⟨h1,h2⟩
   obtain⟨h3,h4⟩:=List.pairwise_cons.1 h1
   have hx:=h2 x List.mem_cons_self
   exact⟨hx.1,hx.2.1,by simp[hx.2.2],h4,fun y hy=>⟨h3 y hy,(h2 y (List.mem_cons_of_mem _ hy)).2⟩⟩
theorem cho_iff{b:Bk}{L:List Int}:chF b (-1) L=true↔Cho b L:=by
 rw[chF_iff]
 constructor
 ·rintro⟨h1,h2⟩
  exact⟨h1,fun x hx=>by have:=h2 x hx;omega,fun x hx=>(h2 x hx).2.2⟩
 ·intro h
  exact⟨h.pw,fun x hx=>⟨by have:=h.rg x hx;omega,(h.rg x hx).2,h.mu x hx⟩⟩
theorem dok_nil(b:Bk):DOk b []:=⟨Nat.zero_le _,fun x hx=>by cases hx⟩
abbrev zcrU:U:=.agg [.int .i64 0,.lst .full 0 [],.lst .full 0 [],.lst .full 0 [],.int .i64 0,.lst .full 0 [],.int .i64 0,.int .i64 0,.int .i64 0,.lst .full 0 [],.lst .full 0 []]
theorem dat_zcr(k:Nat):Dat (k+4) zcrU:=.agg _ _ fun c hc=>by
 have hn:Dat (k+3) (.lst .full 0 []):=zR (k+1) .full (fun h=>by cases h) 0 []
 simp only[List.mem_cons,List.not_mem_nil,or_false]at hc
 rcases hc with rfl|rfl|rfl|rfl|rfl|rfl|rfl|rfl|rfl|rfl|rfl<;>first|exact hn|exact .int _ _ _
theorem dnF_at{b:Bk}:∀(l:List Int) (i:Nat),dnF b i l=true↔ ∀(j:Nat) (x:Int),l[j]? =some x→dnB b (i+j) x=true:=by
 intro l
 induction l with
 |nil=>intro i;exact⟨(fun _ j x h=>by simp at h),(fun _=>rfl)⟩
 |cons y l ih=>
  intro i
  unfold dnF
  rw[Bool.and_eq_true,ih]
  constructor
  ·rintro⟨h1,h2⟩ j x hx
   cases j with
   |zero=>cases hx;exact h1
   |succ j=>have:=h2 j x (by simpa using hx);rw[show i+(j+1)=i+1+j by omega];exact this
  ·intro h
   refine⟨h 0 y rfl,fun j x hx=>?_⟩
   have:=h (j+1) x (by simpa using hx)
   rw[show i+(j+1)=i+1+j by omega]at this;exact this
theorem done_at{b:Bk}{d:List Int}(h:wZ b d=true){i:Nat}{x:Int}(hx:d[i]? =some x):dnB b i x=true:=by
 unfold wZ at h
 rw[Bool.and_eq_true]at h
 have:=(dnF_at d 0).1 h.2 i x hx
 rw[Nat.zero_add]at this;exact this
theorem zDe{b:Bk}(h:BOk b){d:List Int}(hd:wZ b d=true):DOk b d:=by
 have h2:=hd
 unfold wZ at h2
 rw[Bool.and_eq_true,decide_eq_true_eq]at h2
 refine⟨h2.1,fun x hx=>?_⟩
 obtain⟨i,hi⟩:=List.getElem?_of_mem hx
 have:=done_at hd hi
 unfold dnB at this
 rw[Bool.or_eq_true,Bool.and_eq_true,decide_eq_true_eq]at this
 rcases this with h3|h3
 ·omega
 ·cases hq:b.scenes[i]? with
  |none=>rw[hq]at h3;cases h3
  |some q=>
   rw[hq]at h3
   have:=zAP.1 h3
   have:=h.sc i q hq
   omega
def cueR(b:Bk)(d:List Int):U:=if wZ b d=true then .tup [optU (cueO b d),.int .i64 (if(lgt b d).isSome=true then 0 else 4)]else .tup [.lst .full 0 [],.int .i64 101]
theorem zCs(k:Nat):Dat (k+2) (.lst .full 0 []):=zR k .full (fun h=>by cases h) 0 []
set_option maxHeartbeats 8000000 in
theorem ret25(hi:Off is){b:Bk}(h:VOk b)(d:List Int):RetP Tryd.prog is orc 25 [b.u,.lst .ro 1 (zE d)] (cueR b d):=by
 have hw:=fun(st:List SB) (j:Nat) (hj:st[j]? =some (.box [.lst .ro 1 (zE d)]))=>wpc60 (orc:=orc) hi h (g:=61) (j:=j) (z:=wZ b d) (st:=st) (fun E=>wpc61 hi h.toBOk (yL hj))
 unfold cueR
 refine zp body25 pure25 (hi 25 (by decide)) rfl rfl (zu (wU b 4) (zR 6 .ro (fun h=>by cases h) 1 d)) (by
  split
  ·exact .inr ⟨_,rfl,zu (k:=7) (dat_opt _ 5) (.int _ _ _)⟩
  ·exact .inr ⟨_,rfl,zu (k:=7) (zCs 5) (.int _ _ _)⟩) ?_
 refine kQ (yB rfl rfl (yB rfl rfl (zB rfl (zB rfl (zC ?_)))))
 refine zF [(2,U.box 0 0),(3,U.box 1 0)] ([SB.box (Bk.cs b),SB.box [.lst .ro 1 (zE d)]]) (.n2 rfl) rfl fun fr=>?_
 refine kQ (kD sh25 rfl ?_)
 refine zDq rfl ?_
 refine wW (es:=[U.fn 61 [] [U.box 1 0]]) rfl ty104 ze82 cl82 rfl rfl rfl rfl rfl rfl rfl rfl ?_
 refine zDZ rfl (hw _ 1 rfl) (.lcons _ _ _ _ (.refl _) (.lcons _ _ _ _ (.ro _ _ _) (.lrefl _))) (fun u st1 hM=>?_)
 obtain⟨rfl,e,rfl⟩:=hM
 cases hz:wZ b d with
 |true=>
  have hd:=zDe h.toBOk hz
  have q63:=ret63 (orc:=orc) hi h.toBOk hd
  rw[if_pos rfl]
  cases ho:lgt b d with
  |none=>
   have hc:cueO b d=none:=by unfold cueO;rw[ho];rfl
   rw[ho,hc]at q63
   rw[hc]
   refine zA rfl (kz rfl (kz rfl (zq rfl ze70 ?_)))
   refine zZ rfl (za _ _) sh70 rfl rfl rfl rfl rfl ?_
   refine zB rfl (zC ?_)
   refine zF [(3,U.box 1 0),(6,U.box (List.length (SB.box (Bk.cs b)::SB.box [.lst .ro 1 (zE d)]::List.append [] e)) 0),(7,.int .i64 0)] (SB.box (Bk.cs b)::SB.box [.lst .ro 1 (zE d)]::List.set (List.append (List.append [] e) [SB.box (yk (V.cons (V.int .i64 (0:Int)) (V.cons V.nils (V.cons V.nils (V.cons V.nils (V.cons (V.int .i64 (0:Int)) (V.cons V.nils (V.cons (V.int .i64 (0:Int)) (V.cons (V.int .i64 (0:Int)) (V.cons (V.int .i64 (0:Int)) (V.cons V.nils V.nil)))))))))))]) (List.length (List.append [] e)) (SB.box (Bk.cs b))) (.n3 rfl) rfl fun fr=>?_
   refine k_seq (kQ (zA rfl (ku rfl (zC ?_))))
   refine zF [(3,U.box 1 0),(6,U.box (List.length (SB.box (Bk.cs b)::SB.box [.lst .ro 1 (zE d)]::List.append [] e)) 0),(7,.int .i64 0),(18,U.bool (decide ((0:Int)≠(0:Int))))] (SB.box (Bk.cs b)::SB.box [.lst .ro 1 (zE d)]::List.set (List.append (List.append [] e) [SB.box (yk (V.cons (V.int .i64 (0:Int)) (V.cons V.nils (V.cons V.nils (V.cons V.nils (V.cons (V.int .i64 (0:Int)) (V.cons V.nils (V.cons (V.int .i64 (0:Int)) (V.cons (V.int .i64 (0:Int)) (V.cons (V.int .i64 (0:Int)) (V.cons V.nils V.nil)))))))))))]) (List.length (List.append [] e)) (SB.box (Bk.cs b))) (.n4 rfl) rfl fun fr=>?_
   refine k_cF rfl rfl ?_
   refine zJ (kQ (yK rfl rfl (zBV _ _ _) sh70 rfl ?_))
   refine kC sh22 rfl (wk rfl ze72 pl72 rfl rfl ?_)
   refine zG rfl (q63) (.lrefl _) (zA rfl (kz rfl (kz rfl (zB rfl (zB rfl (zC ?_))))))
   refine zF [(8,.lst .full 0 []),(9,U.bool (Option.isSome Option.none))] (SB.box (Bk.cs b)::SB.box [.lst .ro 1 (zE d)]::List.set (List.append (List.append [] e) [SB.box (yk (V.cons (V.int .i64 (0:Int)) (V.cons V.nils (V.cons V.nils (V.cons V.nils (V.cons (V.int .i64 (0:Int)) (V.cons V.nils (V.cons (V.int .i64 (0:Int)) (V.cons (V.int .i64 (0:Int)) (V.cons (V.int .i64 (0:Int)) (V.cons V.nils V.nil)))))))))))]) (List.length (List.append [] e)) (SB.box (Bk.cs b))) (.n2 rfl) rfl fun fr=>?_
   refine k_seq (kQ (zA rfl (zh rfl rfl (zC ?_))))
   refine zF [(8,.lst .full 0 []),(28,U.bool !Option.isSome Option.none)] (SB.box (Bk.cs b)::SB.box [.lst .ro 1 (zE d)]::List.set (List.append (List.append [] e) [SB.box (yk (V.cons (V.int .i64 (0:Int)) (V.cons V.nils (V.cons V.nils (V.cons V.nils (V.cons (V.int .i64 (0:Int)) (V.cons V.nils (V.cons (V.int .i64 (0:Int)) (V.cons (V.int .i64 (0:Int)) (V.cons (V.int .i64 (0:Int)) (V.cons V.nils V.nil)))))))))))]) (List.length (List.append [] e)) (SB.box (Bk.cs b))) (.n2 rfl) rfl fun fr=>?_
   refine k_cT rfl rfl ?_
   refine kQ (zB rfl (zB rfl (zC (zS ?_))))
   refine⟨.inr rfl,_,.cons _ _ _ _ (.tmp 4) (.cons _ _ _ _ (.tmp 5) .nil),?_⟩
   exact .refl _
   done
  |some m=>
   obtain⟨r,hc⟩:∃r,cueO b d=some r:=by unfold cueO;rw[ho];exact⟨_,rfl⟩
   rw[ho,hc]at q63
   rw[hc]
   refine zA rfl (kz rfl (kz rfl (zq rfl ze70 ?_)))
   refine zZ rfl (za _ _) sh70 rfl rfl rfl rfl rfl ?_
   refine zB rfl (zC ?_)
   refine zF [(3,U.box 1 0),(6,U.box (List.length (SB.box (Bk.cs b)::SB.box [.lst .ro 1 (zE d)]::List.append [] e)) 0),(7,.int .i64 0)] (SB.box (Bk.cs b)::SB.box [.lst .ro 1 (zE d)]::List.set (List.append (List.append [] e) [SB.box (yk (V.cons (V.int .i64 (0:Int)) (V.cons V.nils (V.cons V.nils (V.cons V.nils (V.cons (V.int .i64 (0:Int)) (V.cons V.nils (V.cons (V.int .i64 (0:Int)) (V.cons (V.int .i64 (0:Int)) (V.cons (V.int .i64 (0:Int)) (V.cons V.nils V.nil)))))))))))]) (List.length (List.append [] e)) (SB.box (Bk.cs b))) (.n3 rfl) rfl fun fr=>?_
   refine k_seq (kQ (zA rfl (ku rfl (zC ?_))))
   refine zF [(3,U.box 1 0),(6,U.box (List.length (SB.box (Bk.cs b)::SB.box [.lst .ro 1 (zE d)]::List.append [] e)) 0),(7,.int .i64 0),(18,U.bool (decide ((0:Int)≠(0:Int))))] (SB.box (Bk.cs b)::SB.box [.lst .ro 1 (zE d)]::List.set (List.append (List.append [] e) [SB.box (yk (V.cons (V.int .i64 (0:Int)) (V.cons V.nils (V.cons V.nils (V.cons V.nils (V.cons (V.int .i64 (0:Int)) (V.cons V.nils (V.cons (V.int .i64 (0:Int)) (V.cons (V.int .i64 (0:Int)) (V.cons (V.int .i64 (0:Int)) (V.cons V.nils V.nil)))))))))))]) (List.length (List.append [] e)) (SB.box (Bk.cs b))) (.n4 rfl) rfl fun fr=>?_
   refine k_cF rfl rfl ?_
   refine zJ (kQ (yK rfl rfl (zBV _ _ _) sh70 rfl ?_))
   refine kC sh22 rfl (wk rfl ze72 pl72 rfl rfl ?_)
   refine zG rfl (q63) (.lrefl _) (zA rfl (kz rfl (kz rfl (zB rfl (zB rfl (zC ?_))))))
   refine zF [(8,.lst .ro 1 (zE r)),(9,U.bool (Option.isSome (Option.some m)))] (SB.box (Bk.cs b)::SB.box [.lst .ro 1 (zE d)]::List.set (List.append (List.append [] e) [SB.box (yk (V.cons (V.int .i64 (0:Int)) (V.cons V.nils (V.cons V.nils (V.cons V.nils (V.cons (V.int .i64 (0:Int)) (V.cons V.nils (V.cons (V.int .i64 (0:Int)) (V.cons (V.int .i64 (0:Int)) (V.cons (V.int .i64 (0:Int)) (V.cons V.nils V.nil)))))))))))]) (List.length (List.append [] e)) (SB.box (Bk.cs b))) (.n2 rfl) rfl fun fr=>?_
   refine k_seq (kQ (zA rfl (zh rfl rfl (zC ?_))))
   refine zF [(8,.lst .ro 1 (zE r)),(28,U.bool !Option.isSome (Option.some m))] (SB.box (Bk.cs b)::SB.box [.lst .ro 1 (zE d)]::List.set (List.append (List.append [] e) [SB.box (yk (V.cons (V.int .i64 (0:Int)) (V.cons V.nils (V.cons V.nils (V.cons V.nils (V.cons (V.int .i64 (0:Int)) (V.cons V.nils (V.cons (V.int .i64 (0:Int)) (V.cons (V.int .i64 (0:Int)) (V.cons (V.int .i64 (0:Int)) (V.cons V.nils V.nil)))))))))))]) (List.length (List.append [] e)) (SB.box (Bk.cs b))) (.n2 rfl) rfl fun fr=>?_
   refine k_cF rfl rfl ?_
   refine zJ (kQ (zA rfl (zB rfl (zB rfl (zC (zS ?_))))))
   refine⟨.inr rfl,_,.cons _ _ _ _ (.tmp 4) (.cons _ _ _ _ (.tmp 5) .nil),?_⟩
   exact .refl _
   done
 |false=>
  rw[if_neg (by decide)]
  refine zA rfl (kz rfl (kz rfl (zq rfl ze70 ?_)))
  refine zZ rfl (za _ _) sh70 rfl rfl rfl rfl rfl ?_
  refine zB rfl (zC ?_)
  refine zF [(3,U.box 1 0),(6,U.box (List.length (SB.box (Bk.cs b)::SB.box [.lst .ro 1 (zE d)]::List.append [] e)) 0),(7,.int .i64 101)] (SB.box (Bk.cs b)::SB.box [.lst .ro 1 (zE d)]::List.set (List.append (List.append [] e) [SB.box (yk (V.cons (V.int .i64 (0:Int)) (V.cons V.nils (V.cons V.nils (V.cons V.nils (V.cons (V.int .i64 (0:Int)) (V.cons V.nils (V.cons (V.int .i64 (0:Int)) (V.cons (V.int .i64 (0:Int)) (V.cons (V.int .i64 (0:Int)) (V.cons V.nils V.nil)))))))))))]) (List.length (List.append [] e)) (SB.box [.int .i64 0,.lst .full 0 [],.lst .full 0 [],.lst .full 0 [],.int .i64 0,.lst .full 0 [],.int .i64 0,.int .i64 0,.int .i64 0,.lst .full 0 []])) (.n3 rfl) rfl fun fr=>?_
  refine k_seq (kQ (zA rfl (ku rfl (zC ?_))))
  refine zF [(3,U.box 1 0),(6,U.box (List.length (SB.box (Bk.cs b)::SB.box [.lst .ro 1 (zE d)]::List.append [] e)) 0),(7,.int .i64 101),(18,U.bool (decide ((101:Int)≠(0:Int))))] (SB.box (Bk.cs b)::SB.box [.lst .ro 1 (zE d)]::List.set (List.append (List.append [] e) [SB.box (yk (V.cons (V.int .i64 (0:Int)) (V.cons V.nils (V.cons V.nils (V.cons V.nils (V.cons (V.int .i64 (0:Int)) (V.cons V.nils (V.cons (V.int .i64 (0:Int)) (V.cons (V.int .i64 (0:Int)) (V.cons (V.int .i64 (0:Int)) (V.cons V.nils V.nil)))))))))))]) (List.length (List.append [] e)) (SB.box [.int .i64 0,.lst .full 0 [],.lst .full 0 [],.lst .full 0 [],.int .i64 0,.lst .full 0 [],.int .i64 0,.int .i64 0,.int .i64 0,.lst .full 0 []])) (.n4 rfl) rfl fun fr=>?_
  refine k_cT rfl rfl ?_
  refine kQ (zA rfl (zB rfl (zB rfl (zC (zS ?_)))))
  refine⟨.inr rfl,_,.cons _ _ _ _ (.tmp 4) (.cons _ _ _ _ (.tmp 5) .nil),?_⟩
  exact .refl _
  done
end Go.Proofs.YtlknfhjfkcboiaaDoor.night
