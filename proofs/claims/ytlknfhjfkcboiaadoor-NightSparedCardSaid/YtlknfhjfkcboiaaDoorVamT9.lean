import Derived.Test.YtlknfhjfkcboiaaDoorVamT8
set_option linter.unusedVariables false
set_option linter.unusedSimpArgs false
set_option linter.constructorNameAsVariable false
namespace Go.Proofs.YtlknfhjfkcboiaaDoor.night
open Vam
section
variable {is:FuncId→Bool}{orc:Known}
theorem cl82:Program.cellsOf Tryd.prog 82=1:=by kernel_rfl
theorem pl70:zGH Tryd.prog 70=some [(0,10)]:=by kernel_rfl
theorem sh82:shOf Tryd.prog 82=.one:=by kernel_rfl
theorem ty104:tyOf Tryd.prog 104=.slice 82:=by kernel_rfl
theorem ze70:yT Tryd.prog 70=some ((.cons (.int .i64 0) (.cons .nils (.cons .nils (.cons .nils (.cons (.int .i64 0) (.cons .nils (.cons (.int .i64 0) (.cons (.int .i64 0) (.cons (.int .i64 0) (.cons .nils .nil)))))))))):V):=by kernel_rfl
noncomputable def b60:Code:=(Tryd.f60.body).getD .skip
theorem body60:bodyOf Tryd.prog 60=some (31,b60,[.cell 4 70,.tmp 5]):=by kernel_rfl
theorem pure60:pureFn Tryd.prog 60=false:=by kernel_rfl
noncomputable def b61:Code:=(Tryd.f61.body).getD .skip
theorem body61:bodyOf Tryd.prog 61=some (7,b61,[.tmp 3]):=by kernel_rfl
theorem pure61:pureFn Tryd.prog 61=false:=by kernel_rfl
theorem pl72:zGH Tryd.prog 72=some [(0,10),(10,1)]:=by kernel_rfl
theorem ze72:yT Tryd.prog 72=some ((.cons (.int .i64 0) (.cons .nils (.cons .nils (.cons .nils (.cons (.int .i64 0) (.cons .nils (.cons (.int .i64 0) (.cons (.int .i64 0) (.cons (.int .i64 0) (.cons .nils (.cons .nils .nil))))))))))):V):=by kernel_rfl
theorem ze82:yT Tryd.prog 82=some ((.cons .nilf .nil):V):=by kernel_rfl
noncomputable def b25:Code:=(Tryd.f25.body).getD .skip
theorem body25:bodyOf Tryd.prog 25=some (30,b25,[.tmp 4,.tmp 5]):=by kernel_rfl
theorem pure25:pureFn Tryd.prog 25=true:=by kernel_rfl
noncomputable def b21:Code:=(Tryd.f21.body).getD .skip
theorem body21:bodyOf Tryd.prog 21=some (8,b21,[.tmp 2,.tmp 3]):=by kernel_rfl
theorem pure21:pureFn Tryd.prog 21=true:=by kernel_rfl
theorem wpc61(hi:Off is){b:Bk}(h:BOk b){d:List Int}{st:List SB}{j:Nat}(hj:st[j]? =some (.box [.lst .ro 1 (zF d)])):WpC Tryd.prog is orc 61 [b.u,.box j 0] st fun u st'=>u=.bool (zEW b d)∧∃e,st'=st++e:=by
 refine zDH body61 pure61 rfl rfl ?_
 have q62:=ret62 (orc:=orc) hi h d
 generalize zEW b d=z at*
 refine kQ (yH rfl rfl (zA rfl (zC ?_)))
 refine zK [(1,U.box j 0),(2,U.box (List.length st) 0)] (st++[SB.box (Bk.cs b)]) (.cons rfl (.cons rfl (.nil rfl))) rfl fun fr=>?_
 refine kQ (zP rfl rfl (zc _ _) sh70 rfl ?_)
 refine zE rfl rfl (yP hj) sh22 rfl ?_
 refine zN rfl (q62) (.lrefl _) (zA rfl (zC (zZ ?_)))
 refine⟨.inr rfl,_,.cons _ _ _ _ (.tmp 3) .nil,?_⟩
 exact⟨_,.refl _,rfl,_,rfl⟩
abbrev zerU:U:=.agg [.int .i64 0,.lst .full 0 [],.lst .full 0 [],.lst .full 0 [],.int .i64 0,.lst .full 0 [],.int .i64 0,.int .i64 0,.int .i64 0,.lst .full 0 []]
def askU(b:Bk)(z:Bool):U:=if z=true then .tup [b.u,.int .i64 0]else .tup [zerU,.int .i64 101]
set_option maxHeartbeats 16000000 in
theorem wpc60(hi:Off is){b:Bk}(hb:VOk b){g j:Nat}{z:Bool}{st:List SB}(hg:∀E,WpC Tryd.prog is orc g [b.u,.box j 0] (st++E) fun u st'=>u=.bool z∧∃e,st'=(st++E)++e):WpC Tryd.prog is orc 60 [b.u,.lst .ro 1 [.fn g [] [.box j 0]]] st fun u st'=>u=askU b z∧∃e,st'=st++e:=by
 refine zDH body60 pure60 rfl rfl ?_
 have q17:=ret17 (orc:=orc) hi b
 rw[if_pos ((zDd b).2 hb)]at q17
 refine kQ (yH rfl rfl (zu rfl ze70 ?_))
 refine zA rfl (zC ?_)
 refine zK [(1,.lst .ro 1 [U.fn g [] [U.box j 0]]),(2,U.box (List.length st) 0),(4,U.box (List.length (st++[SB.box (Bk.cs b)])) 0)] (st++[SB.box (Bk.cs b)]++[SB.box [.int .i64 0,.lst .full 0 [],.lst .full 0 [],.lst .full 0 [],.int .i64 0,.lst .full 0 [],.int .i64 0,.int .i64 0,.int .i64 0,.lst .full 0 []]]) (.cons rfl (.cons rfl (.cons rfl (.nil rfl)))) rfl fun fr=>?_
 refine k_seq (kQ (zP rfl rfl (yP (zc _ _)) sh25 rfl ?_))
 refine zN rfl (q17) (.lrefl _) (zA rfl (zC (kQ (zB rfl (wF rfl rfl rfl (zC (k_cF rfl rfl ?_)))))))
 refine zU (kQ (zP rfl rfl (yP (zc _ _)) sh25 rfl ?_))
 refine wY rfl ze70 pl70 rfl rfl ?_
 refine zu rfl ze70 ?_
 refine zd rfl (zc _ _) sh70 rfl rfl rfl rfl rfl ?_
 refine zC ?_
 refine zK [(1,.lst .ro 1 [U.fn g [] [U.box j 0]]),(4,U.box (List.length (st++[SB.box (Bk.cs b)])) 0),(7,U.box (List.length (st++[SB.box (Bk.cs b)]++[SB.box [.int .i64 0,.lst .full 0 [],.lst .full 0 [],.lst .full 0 [],.int .i64 0,.lst .full 0 [],.int .i64 0,.int .i64 0,.int .i64 0,.lst .full 0 []]])) 0)] (st++[SB.box (Bk.cs b)]++[SB.box [.int .i64 0,.lst .full 0 [],.lst .full 0 [],.lst .full 0 [],.int .i64 0,.lst .full 0 [],.int .i64 0,.int .i64 0,.int .i64 0,.lst .full 0 []]]++[SB.box (Bk.cs b)]) (.cons rfl (.cons rfl (.cons rfl (.nil rfl)))) (yW _ _ _) fun fr=>?_
 refine k_seq (kQ (zB rfl (zp rfl ty104 rfl rfl ?_)))
 refine zB rfl (zC (zQ ?_))
 refine yr (fun kk s2=>∃X:List SB,s2.st=st++X∧X[1]? =some (.box [.int .i64 0,.lst .full 0 [],.lst .full 0 [],.lst .full 0 [],.int .i64 0,.lst .full 0 [],.int .i64 0,.int .i64 0,.int .i64 0,.lst .full 0 []])∧X[2]? =some (.box (Bk.cs b))∧((kk=1∧Holds s2 [(4,.box (st.length+1) 0),(7,.box (st.length+2) 0),(18,.lst .ro 1 [.fn g [] [.box j 0]]),(19,.int .i64 1),(20,.int .i64 0)])∨(kk=0∧z=true∧Holds s2 [(4,.box (st.length+1) 0),(7,.box (st.length+2) 0),(18,.lst .ro 1 [.fn g [] [.box j 0]]),(19,.int .i64 1),(20,.int .i64 1)]))) (fun kk s2 hI=>?_) 1 _ ⟨[.box (Bk.cs b),.box [.int .i64 0,.lst .full 0 [],.lst .full 0 [],.lst .full 0 [],.int .i64 0,.lst .full 0 [],.int .i64 0,.int .i64 0,.int .i64 0,.lst .full 0 []],.box (Bk.cs b)],(by show((st++[SB.box _])++[SB.box _])++[SB.box _]=_;rw[List.append_assoc,List.append_assoc];rfl),rfl,rfl,.inl ⟨rfl,.cons (by show U.box (st++[SB.box _]).length 0=_;simp) (.cons (by show U.box ((st++[SB.box _])++[SB.box _]).length 0=_;simp) (.cons rfl (.cons rfl (.cons rfl (.nil rfl)))))⟩⟩
 obtain⟨X,hst2,x1,x2,⟨hk,hs2⟩|⟨hk,hz,hs2⟩⟩:=hI
 ·have y1:=zGm (st:=st) x1
  have y2:=zGm (st:=st) x2
  refine zK _ _ hs2 hst2 fun fr2=>?_
  have hl:st.length+1<(st++X).length:=(List.getElem?_eq_some_iff.1 y1).1
  refine kQ (ze rfl rfl rfl (zC (k_seq (k_cT rfl rfl ?_))))
  refine zU (k_seq (zQ (kQ (yG rfl ty104 rfl rfl (by decide) rfl cl82 ?_))))
  refine zV rfl rfl sh82 rfl ?_
  refine zA rfl (zC (kQ (zB rfl (zP rfl rfl y2 sh70 rfl ?_))))
  refine o_callV rfl rfl (hg X) (.lrefl _) (fun u st1 hM=>?_)
  obtain⟨rfl,e,rfl⟩:=hM
  cases z with
  |true=>
   refine yB rfl rfl (zC (k_cF rfl rfl ?_))
   refine zU (k_region ?_)
   refine yV rfl rfl rfl (by unfold I64;omega) (zB rfl (zC ?_))
   exact⟨0,by omega,X++e,(by show(st++X)++e=_;rw[List.append_assoc]),yP x1,yP x2,.inr ⟨rfl,rfl,.c4 rfl rfl rfl rfl (.cons rfl (.nil rfl))⟩⟩
  |false=>
   have y3:((st++X)++e)[st.length+1]? =some (.box [.int .i64 0,.lst .full 0 [],.lst .full 0 [],.lst .full 0 [],.int .i64 0,.lst .full 0 [],.int .i64 0,.int .i64 0,.int .i64 0,.lst .full 0 []]):=yP y1
   have hl3:st.length+1<((st++X)++e).length:=(List.getElem?_eq_some_iff.1 y3).1
   refine yB rfl rfl (zC (k_cT rfl rfl ?_))
   refine kQ (wY rfl ze70 pl70 rfl rfl ?_)
   refine zd rfl y3 sh70 rfl rfl rfl rfl rfl ?_
   refine zA rfl (zC (zZ ?_))
   refine⟨.inr rfl,_,.cons _ _ _ _ (.cellN 4 70 (st.length+1) 0 10 [.int .i64 0,.lst .full 0 [],.lst .full 0 [],.lst .full 0 [],.int .i64 0,.lst .full 0 [],.int .i64 0,.int .i64 0,.int .i64 0,.lst .full 0 []] rfl (List.getElem?_set_self hl3) sh70 rfl) (.cons _ _ _ _ (.tmp 5) .nil),_,.refl _,rfl,X.set 1 (.box [.int .i64 0,.lst .full 0 [],.lst .full 0 [],.lst .full 0 [],.int .i64 0,.lst .full 0 [],.int .i64 0,.int .i64 0,.int .i64 0,.lst .full 0 []])++e,?_⟩
   show((st++X)++e).set (st.length+1) _=_
   have hX:1<X.length:=(List.getElem?_eq_some_iff.1 x1).1
   rw[List.append_assoc,set_off,List.set_append_left _ _ hX];rfl
 ·have y1:=zGm (st:=st) x1
  have y2:=zGm (st:=st) x2
  refine zK _ _ hs2 hst2 fun fr2=>?_
  have hl:st.length+1<(st++X).length:=(List.getElem?_eq_some_iff.1 y1).1
  subst hz
  refine kQ (ze rfl rfl rfl (zC (k_seq (k_cF rfl rfl ?_))))
  refine yf (kQ (zP rfl rfl y2 sh70 rfl ?_))
  refine zd rfl y1 sh70 rfl rfl rfl rfl rfl ?_
  refine zA rfl (zC (zZ ?_))
  refine⟨.inr rfl,_,.cons _ _ _ _ (.cellN 4 70 (st.length+1) 0 10 (Bk.cs b) rfl (List.getElem?_set_self hl) sh70 rfl) (.cons _ _ _ _ (.tmp 5) .nil),_,.refl _,rfl,_,set_off⟩
theorem dok_nil(b:Bk):DOk b []:=⟨Nat.zero_le _,fun x hx=>by cases hx⟩
theorem dnF_at{b:Bk}:∀(l:List Int) (i:Nat),dnF b i l=true↔ ∀(j:Nat) (x:Int),l[j]? =some x→dnB b (i+j) x=true:=by
 intro l
 induction l with
 |nil=>intro i;exact⟨(fun _ j x h=>by simp at h),(fun _=>rfl)⟩
 |cons y l ih=>
  intro i
  unfold dnF
  rw[Bool.and_eq_true,ih]
  constructor
  ·rintro⟨h1,h2⟩ j x hx
   cases j with
   |zero=>cases hx;exact h1
   |succ j=>have:=h2 j x (by simpa using hx);rw[show i+(j+1)=i+1+j by omega];exact this
  ·intro h
   refine⟨h 0 y rfl,fun j x hx=>?_⟩
   have:=h (j+1) x (by simpa using hx)
   rw[show i+(j+1)=i+1+j by omega]at this;exact this
theorem done_at{b:Bk}{d:List Int}(h:zEW b d=true){i:Nat}{x:Int}(hx:d[i]? =some x):dnB b i x=true:=by
 unfold zEW at h
 rw[Bool.and_eq_true]at h
 have:=(dnF_at d 0).1 h.2 i x hx
 rw[Nat.zero_add]at this;exact this
theorem done_ok{b:Bk}(h:BOk b){d:List Int}(hd:zEW b d=true):DOk b d:=by
 have h2:=hd
 unfold zEW at h2
 rw[Bool.and_eq_true,decide_eq_true_eq]at h2
 refine⟨h2.1,fun x hx=>?_⟩
 obtain⟨i,hi⟩:=List.getElem?_of_mem hx
 have:=done_at hd hi
 unfold dnB at this
 rw[Bool.or_eq_true,Bool.and_eq_true,decide_eq_true_eq]at this
 rcases this with h3|h3
 ·omega
 ·cases hq:b.scenes[i]? with
  |none=>rw[hq]at h3;cases h3
  |some q=>
   rw[hq]at h3
   have:=zFq.1 h3
   have:=h.sc i q hq
   omega
def cueR(b:Bk)(d:List Int):U:=if zEW b d=true then .tup [optU (cueO b d),.int .i64 (if(lgt b d).isSome=true then 0 else 4)]else .tup [.lst .full 0 [],.int .i64 101]
theorem dat_fe(k:Nat):Dat (k+2) (.lst .full 0 []):=zn k .full (fun h=>by cases h) 0 []
set_option maxHeartbeats 8000000 in
theorem ret25(hi:Off is){b:Bk}(h:VOk b)(d:List Int):RetP Tryd.prog is orc 25 [b.u,.lst .ro 1 (zF d)] (cueR b d):=by
 have hw:=fun(st:List SB) (j:Nat) (hj:st[j]? =some (.box [.lst .ro 1 (zF d)]))=>wpc60 (orc:=orc) hi h (g:=61) (j:=j) (z:=zEW b d) (st:=st) (fun E=>wpc61 hi h.toBOk (yP hj))
 unfold cueR
 refine yC body25 pure25 (hi 25 (by decide)) rfl rfl (yh (zAG b 4) (zn 6 .ro (fun h=>by cases h) 1 d)) (by
  split
  ·exact .inr ⟨_,rfl,yh (k:=7) (dat_opt _ 5) (.int _ _ _)⟩
  ·exact .inr ⟨_,rfl,yh (k:=7) (dat_fe 5) (.int _ _ _)⟩) ?_
 refine kQ (yH rfl rfl (yH rfl rfl (zA rfl (zA rfl (zC ?_)))))
 refine zK [(2,U.box 0 0),(3,U.box 1 0)] ([SB.box (Bk.cs b),SB.box [.lst .ro 1 (zF d)]]) (.cons rfl (.cons rfl (.nil rfl))) rfl fun fr=>?_
 refine kQ (zP rfl rfl rfl sh25 rfl ?_)
 refine zFd rfl ?_
 refine zDE (es:=[U.fn 61 [] [U.box 1 0]]) rfl ty104 ze82 cl82 rfl rfl rfl rfl rfl rfl rfl rfl ?_
 refine zCY rfl (hw _ 1 rfl) (.lcons _ _ _ _ (.refl _) (.lcons _ _ _ _ (.ro _ _ _) (.lrefl _))) (fun u st1 hM=>?_)
 obtain⟨rfl,e,rfl⟩:=hM
 cases hz:zEW b d with
 |true=>
  have hd:=done_ok h.toBOk hz
  have q63:=ret63 (orc:=orc) hi h.toBOk hd
  rw[if_pos rfl]
  cases ho:lgt b d with
  |none=>
   have hc:cueO b d=none:=by unfold cueO;rw[ho];rfl
   rw[ho,hc]at q63
   rw[hc]
   refine zB rfl (zR rfl rfl rfl (zR rfl rfl rfl (zu rfl ze70 ?_)))
   refine zd rfl (zc _ _) sh70 rfl rfl rfl rfl rfl ?_
   refine zA rfl (zC ?_)
   refine zK [(3,U.box 1 0),(6,U.box (List.length (SB.box (Bk.cs b)::SB.box [.lst .ro 1 (zF d)]::List.append [] e)) 0),(7,.int .i64 0)] (SB.box (Bk.cs b)::SB.box [.lst .ro 1 (zF d)]::List.set (List.append (List.append [] e) [SB.box (zAU (V.cons (V.int .i64 (0:Int)) (V.cons V.nils (V.cons V.nils (V.cons V.nils (V.cons (V.int .i64 (0:Int)) (V.cons V.nils (V.cons (V.int .i64 (0:Int)) (V.cons (V.int .i64 (0:Int)) (V.cons (V.int .i64 (0:Int)) (V.cons V.nils V.nil)))))))))))]) (List.length (List.append [] e)) (SB.box (Bk.cs b))) (.cons rfl (.cons rfl (.cons rfl (.nil rfl)))) rfl fun fr=>?_
   refine k_seq (kQ (zB rfl (wF rfl rfl rfl (zC ?_))))
   refine zK [(3,U.box 1 0),(6,U.box (List.length (SB.box (Bk.cs b)::SB.box [.lst .ro 1 (zF d)]::List.append [] e)) 0),(7,.int .i64 0),(18,U.bool (decide ((0:Int)≠(0:Int))))] (SB.box (Bk.cs b)::SB.box [.lst .ro 1 (zF d)]::List.set (List.append (List.append [] e) [SB.box (zAU (V.cons (V.int .i64 (0:Int)) (V.cons V.nils (V.cons V.nils (V.cons V.nils (V.cons (V.int .i64 (0:Int)) (V.cons V.nils (V.cons (V.int .i64 (0:Int)) (V.cons (V.int .i64 (0:Int)) (V.cons (V.int .i64 (0:Int)) (V.cons V.nils V.nil)))))))))))]) (List.length (List.append [] e)) (SB.box (Bk.cs b))) (.c4 rfl rfl rfl rfl (.nil rfl)) rfl fun fr=>?_
   refine k_cF rfl rfl ?_
   refine zU (kQ (zP rfl rfl (zDx _ _ _) sh70 rfl ?_))
   refine zE rfl rfl rfl sh22 rfl (wY rfl ze72 pl72 rfl rfl ?_)
   refine zN rfl (q63) (.lrefl _) (zB rfl (zR rfl rfl rfl (zR rfl rfl rfl (zA rfl (zA rfl (zC ?_))))))
   refine zK [(8,.lst .full 0 []),(9,U.bool (Option.isSome Option.none))] (SB.box (Bk.cs b)::SB.box [.lst .ro 1 (zF d)]::List.set (List.append (List.append [] e) [SB.box (zAU (V.cons (V.int .i64 (0:Int)) (V.cons V.nils (V.cons V.nils (V.cons V.nils (V.cons (V.int .i64 (0:Int)) (V.cons V.nils (V.cons (V.int .i64 (0:Int)) (V.cons (V.int .i64 (0:Int)) (V.cons (V.int .i64 (0:Int)) (V.cons V.nils V.nil)))))))))))]) (List.length (List.append [] e)) (SB.box (Bk.cs b))) (.cons rfl (.cons rfl (.nil rfl))) rfl fun fr=>?_
   refine k_seq (kQ (zB rfl (yB rfl rfl (zC ?_))))
   refine zK [(8,.lst .full 0 []),(28,U.bool !Option.isSome Option.none)] (SB.box (Bk.cs b)::SB.box [.lst .ro 1 (zF d)]::List.set (List.append (List.append [] e) [SB.box (zAU (V.cons (V.int .i64 (0:Int)) (V.cons V.nils (V.cons V.nils (V.cons V.nils (V.cons (V.int .i64 (0:Int)) (V.cons V.nils (V.cons (V.int .i64 (0:Int)) (V.cons (V.int .i64 (0:Int)) (V.cons (V.int .i64 (0:Int)) (V.cons V.nils V.nil)))))))))))]) (List.length (List.append [] e)) (SB.box (Bk.cs b))) (.cons rfl (.cons rfl (.nil rfl))) rfl fun fr=>?_
   refine k_cT rfl rfl ?_
   refine kQ (zA rfl (zA rfl (zC (zZ ?_))))
   refine⟨.inr rfl,_,.cons _ _ _ _ (.tmp 4) (.cons _ _ _ _ (.tmp 5) .nil),?_⟩
   exact .refl _
   done
  |some m=>
   obtain⟨r,hc⟩:∃r,cueO b d=some r:=by unfold cueO;rw[ho];exact⟨_,rfl⟩
   rw[ho,hc]at q63
   rw[hc]
   refine zB rfl (zR rfl rfl rfl (zR rfl rfl rfl (zu rfl ze70 ?_)))
   refine zd rfl (zc _ _) sh70 rfl rfl rfl rfl rfl ?_
   refine zA rfl (zC ?_)
   refine zK [(3,U.box 1 0),(6,U.box (List.length (SB.box (Bk.cs b)::SB.box [.lst .ro 1 (zF d)]::List.append [] e)) 0),(7,.int .i64 0)] (SB.box (Bk.cs b)::SB.box [.lst .ro 1 (zF d)]::List.set (List.append (List.append [] e) [SB.box (zAU (V.cons (V.int .i64 (0:Int)) (V.cons V.nils (V.cons V.nils (V.cons V.nils (V.cons (V.int .i64 (0:Int)) (V.cons V.nils (V.cons (V.int .i64 (0:Int)) (V.cons (V.int .i64 (0:Int)) (V.cons (V.int .i64 (0:Int)) (V.cons V.nils V.nil)))))))))))]) (List.length (List.append [] e)) (SB.box (Bk.cs b))) (.cons rfl (.cons rfl (.cons rfl (.nil rfl)))) rfl fun fr=>?_
   refine k_seq (kQ (zB rfl (wF rfl rfl rfl (zC ?_))))
   refine zK [(3,U.box 1 0),(6,U.box (List.length (SB.box (Bk.cs b)::SB.box [.lst .ro 1 (zF d)]::List.append [] e)) 0),(7,.int .i64 0),(18,U.bool (decide ((0:Int)≠(0:Int))))] (SB.box (Bk.cs b)::SB.box [.lst .ro 1 (zF d)]::List.set (List.append (List.append [] e) [SB.box (zAU (V.cons (V.int .i64 (0:Int)) (V.cons V.nils (V.cons V.nils (V.cons V.nils (V.cons (V.int .i64 (0:Int)) (V.cons V.nils (V.cons (V.int .i64 (0:Int)) (V.cons (V.int .i64 (0:Int)) (V.cons (V.int .i64 (0:Int)) (V.cons V.nils V.nil)))))))))))]) (List.length (List.append [] e)) (SB.box (Bk.cs b))) (.c4 rfl rfl rfl rfl (.nil rfl)) rfl fun fr=>?_
   refine k_cF rfl rfl ?_
   refine zU (kQ (zP rfl rfl (zDx _ _ _) sh70 rfl ?_))
   refine zE rfl rfl rfl sh22 rfl (wY rfl ze72 pl72 rfl rfl ?_)
   refine zN rfl (q63) (.lrefl _) (zB rfl (zR rfl rfl rfl (zR rfl rfl rfl (zA rfl (zA rfl (zC ?_))))))
   refine zK [(8,.lst .ro 1 (zF r)),(9,U.bool (Option.isSome (Option.some m)))] (SB.box (Bk.cs b)::SB.box [.lst .ro 1 (zF d)]::List.set (List.append (List.append [] e) [SB.box (zAU (V.cons (V.int .i64 (0:Int)) (V.cons V.nils (V.cons V.nils (V.cons V.nils (V.cons (V.int .i64 (0:Int)) (V.cons V.nils (V.cons (V.int .i64 (0:Int)) (V.cons (V.int .i64 (0:Int)) (V.cons (V.int .i64 (0:Int)) (V.cons V.nils V.nil)))))))))))]) (List.length (List.append [] e)) (SB.box (Bk.cs b))) (.cons rfl (.cons rfl (.nil rfl))) rfl fun fr=>?_
   refine k_seq (kQ (zB rfl (yB rfl rfl (zC ?_))))
   refine zK [(8,.lst .ro 1 (zF r)),(28,U.bool !Option.isSome (Option.some m))] (SB.box (Bk.cs b)::SB.box [.lst .ro 1 (zF d)]::List.set (List.append (List.append [] e) [SB.box (zAU (V.cons (V.int .i64 (0:Int)) (V.cons V.nils (V.cons V.nils (V.cons V.nils (V.cons (V.int .i64 (0:Int)) (V.cons V.nils (V.cons (V.int .i64 (0:Int)) (V.cons (V.int .i64 (0:Int)) (V.cons (V.int .i64 (0:Int)) (V.cons V.nils V.nil)))))))))))]) (List.length (List.append [] e)) (SB.box (Bk.cs b))) (.cons rfl (.cons rfl (.nil rfl))) rfl fun fr=>?_
   refine k_cF rfl rfl ?_
   refine zU (kQ (zB rfl (zA rfl (zA rfl (zC (zZ ?_))))))
   refine⟨.inr rfl,_,.cons _ _ _ _ (.tmp 4) (.cons _ _ _ _ (.tmp 5) .nil),?_⟩
   exact .refl _
   done
 |false=>
  rw[if_neg (by decide)]
  refine zB rfl (zR rfl rfl rfl (zR rfl rfl rfl (zu rfl ze70 ?_)))
  refine zd rfl (zc _ _) sh70 rfl rfl rfl rfl rfl ?_
  refine zA rfl (zC ?_)
  refine zK [(3,U.box 1 0),(6,U.box (List.length (SB.box (Bk.cs b)::SB.box [.lst .ro 1 (zF d)]::List.append [] e)) 0),(7,.int .i64 101)] (SB.box (Bk.cs b)::SB.box [.lst .ro 1 (zF d)]::List.set (List.append (List.append [] e) [SB.box (zAU (V.cons (V.int .i64 (0:Int)) (V.cons V.nils (V.cons V.nils (V.cons V.nils (V.cons (V.int .i64 (0:Int)) (V.cons V.nils (V.cons (V.int .i64 (0:Int)) (V.cons (V.int .i64 (0:Int)) (V.cons (V.int .i64 (0:Int)) (V.cons V.nils V.nil)))))))))))]) (List.length (List.append [] e)) (SB.box [.int .i64 0,.lst .full 0 [],.lst .full 0 [],.lst .full 0 [],.int .i64 0,.lst .full 0 [],.int .i64 0,.int .i64 0,.int .i64 0,.lst .full 0 []])) (.cons rfl (.cons rfl (.cons rfl (.nil rfl)))) rfl fun fr=>?_
  refine k_seq (kQ (zB rfl (wF rfl rfl rfl (zC ?_))))
  refine zK [(3,U.box 1 0),(6,U.box (List.length (SB.box (Bk.cs b)::SB.box [.lst .ro 1 (zF d)]::List.append [] e)) 0),(7,.int .i64 101),(18,U.bool (decide ((101:Int)≠(0:Int))))] (SB.box (Bk.cs b)::SB.box [.lst .ro 1 (zF d)]::List.set (List.append (List.append [] e) [SB.box (zAU (V.cons (V.int .i64 (0:Int)) (V.cons V.nils (V.cons V.nils (V.cons V.nils (V.cons (V.int .i64 (0:Int)) (V.cons V.nils (V.cons (V.int .i64 (0:Int)) (V.cons (V.int .i64 (0:Int)) (V.cons (V.int .i64 (0:Int)) (V.cons V.nils V.nil)))))))))))]) (List.length (List.append [] e)) (SB.box [.int .i64 0,.lst .full 0 [],.lst .full 0 [],.lst .full 0 [],.int .i64 0,.lst .full 0 [],.int .i64 0,.int .i64 0,.int .i64 0,.lst .full 0 []])) (.c4 rfl rfl rfl rfl (.nil rfl)) rfl fun fr=>?_
  refine k_cT rfl rfl ?_
  refine kQ (zB rfl (zA rfl (zA rfl (zC (zZ ?_)))))
  refine⟨.inr rfl,_,.cons _ _ _ _ (.tmp 4) (.cons _ _ _ _ (.tmp 5) .nil),?_⟩
  exact .refl _
  done
theorem ret21(hi:Off is){b:Bk}(h:VOk b):RetP Tryd.prog is orc 21 [b.u] (.tup [optU (lgt b []),.int .i64 (if(lgt b []).isSome=true then 0 else 4)]):=by
 have q25:=ret25 (orc:=orc) hi h []
 have e:cueR b []=.tup [optU (lgt b []),.int .i64 (if(lgt b []).isSome=true then 0 else 4)]:=by
  have hd:zEW b []=true:=by unfold zEW;simp[dnF]
  have hc:cueO b []=lgt b []:=by
   unfold cueO
   cases lgt b []with
   |none=>rfl
   |some m=>show some (m.drop 0)=_;rw[List.drop_zero]
  unfold cueR
  rw[if_pos hd,hc]
 rw[e]at q25
 refine yC body21 pure21 (hi 21 (by decide)) rfl rfl (zAe (zAG b 4)) (.inr ⟨_,rfl,yh (k:=7) (dat_opt _ 5) (.int _ _ _)⟩) ?_
 generalize lgt b []=o at*
 cases o with
 |none=>
  refine kQ (yH rfl rfl (zA rfl (zA rfl (zC ?_))))
  refine zK [(1,U.box 0 0)] ([SB.box (Bk.cs b)]) (.cons rfl (.nil rfl)) rfl fun fr=>?_
  refine kQ (zP rfl rfl rfl sh25 rfl (zN rfl (q25) (.lcons _ _ _ _ (.refl _) (.lcons _ _ _ _ (.nil _ _ _) (.lrefl _))) ?_))
  refine zR rfl rfl rfl (zR rfl rfl rfl (zA rfl (zA rfl (zC (zZ ?_)))))
  refine⟨.inr rfl,_,.cons _ _ _ _ (.tmp 2) (.cons _ _ _ _ (.tmp 3) .nil),?_⟩
  exact .refl _
 |some m=>
  refine kQ (yH rfl rfl (zA rfl (zA rfl (zC ?_))))
  refine zK [(1,U.box 0 0)] ([SB.box (Bk.cs b)]) (.cons rfl (.nil rfl)) rfl fun fr=>?_
  refine kQ (zP rfl rfl rfl sh25 rfl (zN rfl (q25) (.lcons _ _ _ _ (.refl _) (.lcons _ _ _ _ (.nil _ _ _) (.lrefl _))) ?_))
  refine zR rfl rfl rfl (zR rfl rfl rfl (zA rfl (zA rfl (zC (zZ ?_)))))
  refine⟨.inr rfl,_,.cons _ _ _ _ (.tmp 2) (.cons _ _ _ _ (.tmp 3) .nil),?_⟩
  exact .refl _
end
section
variable {is:FuncId→Bool}{orc:Known}
set_option maxHeartbeats 8000000 in
theorem wpc60j(hi:Off is){b:Bk}(hb:zBF b=false){st:List SB}{g:Nat}{B:List U}:WpC Tryd.prog is orc 60 [b.u,.lst .ro 1 [.fn g [] B]] st fun u st'=>u=.tup [zerU,.int .i64 100]∧∃e,st'=st++e:=by
 refine zDH body60 pure60 rfl rfl ?_
 have q17:=ret17 (orc:=orc) hi b
 rw[hb,if_neg (by decide)]at q17
 refine kQ (yH rfl rfl (zu rfl ze70 ?_))
 refine zA rfl (zC ?_)
 refine zK [(1,.lst .ro 1 [U.fn g [] B]),(2,U.box (List.length st) 0),(4,U.box (List.length (st++[SB.box (Bk.cs b)])) 0)] (st++[SB.box (Bk.cs b)]++[SB.box [.int .i64 0,.lst .full 0 [],.lst .full 0 [],.lst .full 0 [],.int .i64 0,.lst .full 0 [],.int .i64 0,.int .i64 0,.int .i64 0,.lst .full 0 []]]) (.cons rfl (.cons rfl (.cons rfl (.nil rfl)))) rfl fun fr=>?_
 refine k_seq (kQ (zP rfl rfl (yP (zc _ _)) sh25 rfl ?_))
 refine zN rfl (q17) (.lrefl _) (zA rfl (zC (kQ (zB rfl (wF rfl rfl rfl (zC (k_cT rfl rfl ?_)))))))
 refine kQ (wY rfl ze70 pl70 rfl rfl ?_)
 refine zB rfl (zd rfl (zc _ _) sh70 rfl rfl rfl rfl rfl ?_)
 refine zA rfl (zC (zZ ?_))
 refine⟨.inr rfl,_,.cons _ _ _ _ (.cellN 4 70 (st++[SB.box (Bk.cs b)]).length 0 10 [.int .i64 0,.lst .full 0 [],.lst .full 0 [],.lst .full 0 [],.int .i64 0,.lst .full 0 [],.int .i64 0,.int .i64 0,.int .i64 0,.lst .full 0 []] rfl (by show(((st++[SB.box (Bk.cs b)])++[SB.box _]).set (st++[SB.box (Bk.cs b)]).length (SB.box _))[(st++[SB.box (Bk.cs b)]).length]? =_;rw[yW];exact zc _ _) sh70 rfl) (.cons _ _ _ _ (.tmp 5) .nil),_,.refl _,rfl,[SB.box (Bk.cs b),.box _],(by show((st++[SB.box (Bk.cs b)])++[SB.box _]).set (st++[SB.box (Bk.cs b)]).length (SB.box _)=_;rw[yW,List.append_assoc];rfl)⟩
theorem ret25j(hi:Off is){b:Bk}(hv:zBF b=false)(d:List Int):RetP Tryd.prog is orc 25 [b.u,.lst .ro 1 (zF d)] (.tup [.lst .full 0 [],.int .i64 100]):=by
 refine yC body25 pure25 (hi 25 (by decide)) rfl rfl (yh (zAG b 4) (zn 6 .ro (fun h=>by cases h) 1 d)) (.inr ⟨_,rfl,yh (k:=7) (dat_fe 5) (.int _ _ _)⟩) ?_
 refine kQ (yH rfl rfl (yH rfl rfl (zA rfl (zA rfl (zC ?_)))))
 refine zK [(2,U.box 0 0),(3,U.box 1 0)] ([SB.box (Bk.cs b),SB.box [.lst .ro 1 (zF d)]]) (.cons rfl (.cons rfl (.nil rfl))) rfl fun fr=>?_
 refine kQ (zP rfl rfl rfl sh25 rfl ?_)
 refine zFd rfl ?_
 refine zDE (es:=[U.fn 61 [] [U.box 1 0]]) rfl ty104 ze82 cl82 rfl rfl rfl rfl rfl rfl rfl rfl ?_
 refine zCY rfl (wpc60j hi hv) (.lcons _ _ _ _ (.refl _) (.lcons _ _ _ _ (.ro _ _ _) (.lrefl _))) (fun u st1 hM=>?_)
 obtain⟨rfl,e,rfl⟩:=hM
 refine zB rfl (zR rfl rfl rfl (zR rfl rfl rfl (zu rfl ze70 ?_)))
 refine zd rfl (zc _ _) sh70 rfl rfl rfl rfl rfl ?_
 refine zA rfl (zC ?_)
 refine zK [(3,U.box 1 0),(6,U.box (List.length (SB.box (Bk.cs b)::SB.box [.lst .ro 1 (zF d)]::List.append [] e)) 0),(7,.int .i64 100)] (SB.box (Bk.cs b)::SB.box [.lst .ro 1 (zF d)]::List.set (List.append (List.append [] e) [SB.box (zAU (V.cons (V.int .i64 (0:Int)) (V.cons V.nils (V.cons V.nils (V.cons V.nils (V.cons (V.int .i64 (0:Int)) (V.cons V.nils (V.cons (V.int .i64 (0:Int)) (V.cons (V.int .i64 (0:Int)) (V.cons (V.int .i64 (0:Int)) (V.cons V.nils V.nil)))))))))))]) (List.length (List.append [] e)) (SB.box [.int .i64 0,.lst .full 0 [],.lst .full 0 [],.lst .full 0 [],.int .i64 0,.lst .full 0 [],.int .i64 0,.int .i64 0,.int .i64 0,.lst .full 0 []])) (.cons rfl (.cons rfl (.cons rfl (.nil rfl)))) rfl fun fr=>?_
 refine k_seq (kQ (zB rfl (wF rfl rfl rfl (zC ?_))))
 refine zK [(3,U.box 1 0),(6,U.box (List.length (SB.box (Bk.cs b)::SB.box [.lst .ro 1 (zF d)]::List.append [] e)) 0),(7,.int .i64 100),(18,U.bool (decide ((100:Int)≠(0:Int))))] (SB.box (Bk.cs b)::SB.box [.lst .ro 1 (zF d)]::List.set (List.append (List.append [] e) [SB.box (zAU (V.cons (V.int .i64 (0:Int)) (V.cons V.nils (V.cons V.nils (V.cons V.nils (V.cons (V.int .i64 (0:Int)) (V.cons V.nils (V.cons (V.int .i64 (0:Int)) (V.cons (V.int .i64 (0:Int)) (V.cons (V.int .i64 (0:Int)) (V.cons V.nils V.nil)))))))))))]) (List.length (List.append [] e)) (SB.box [.int .i64 0,.lst .full 0 [],.lst .full 0 [],.lst .full 0 [],.int .i64 0,.lst .full 0 [],.int .i64 0,.int .i64 0,.int .i64 0,.lst .full 0 []])) (.c4 rfl rfl rfl rfl (.nil rfl)) rfl fun fr=>?_
 refine k_cT rfl rfl ?_
 refine kQ (zB rfl (zA rfl (zA rfl (zC (zZ ?_)))))
 refine⟨.inr rfl,_,.cons _ _ _ _ (.tmp 4) (.cons _ _ _ _ (.tmp 5) .nil),?_⟩
 exact .refl _
theorem ret21j(hi:Off is){b:Bk}(hv:zBF b=false):RetP Tryd.prog is orc 21 [b.u] (.tup [.lst .full 0 [],.int .i64 100]):=by
 have q25:=ret25j (orc:=orc) hi hv []
 refine yC body21 pure21 (hi 21 (by decide)) rfl rfl (zAe (zAG b 4)) (.inr ⟨_,rfl,yh (k:=7) (dat_fe 5) (.int _ _ _)⟩) ?_
 refine kQ (yH rfl rfl (zA rfl (zA rfl (zC ?_))))
 refine zK [(1,U.box 0 0)] ([SB.box (Bk.cs b)]) (.cons rfl (.nil rfl)) rfl fun fr=>?_
 refine kQ (zP rfl rfl rfl sh25 rfl (zN rfl (q25) (.lcons _ _ _ _ (.refl _) (.lcons _ _ _ _ (.nil _ _ _) (.lrefl _))) ?_))
 refine zR rfl rfl rfl (zR rfl rfl rfl (zA rfl (zA rfl (zC (zZ ?_)))))
 refine⟨.inr rfl,_,.cons _ _ _ _ (.tmp 2) (.cons _ _ _ _ (.tmp 3) .nil),?_⟩
 exact .refl _
end
end Go.Proofs.YtlknfhjfkcboiaaDoor.night
