import Derived.Test.YtlknfhjfkcboiaaDoorVamT12
set_option linter.unusedVariables false
set_option linter.unusedSimpArgs false
set_option linter.constructorNameAsVariable false
namespace Go.Proofs.YtlknfhjfkcboiaaDoor.night
open Vam
variable {is:FuncId→Bool}{orc:Known}
theorem by48:Program.bytesOf Tryd.prog 48=16:=by kernel_rfl
theorem ty26:tyOf Tryd.prog 26=.slice 48:=by kernel_rfl
theorem ap26_26:AppT Tryd.prog 26 26 48 2 16 ((.cons (.int .i64 0) (.cons (.int .i64 0) .nil)):V):=⟨ty26,⟨_,ty26⟩,cl48,by decide,by48,ze48,rfl⟩
structure Two where
 a:Int
 b:Int
abbrev Two.u(q:Two):U:=wQ q.a q.b
abbrev twosU(l:List Two):List U:=l.map Two.u
theorem dat_twos(l:List Two)(kd:Kd)(hk:kd≠.own)(k:Nat):Dat (k+2) (.lst kd 2 (twosU l)):=by
 refine .lst _ _ _ _ hk fun c hc=>?_
 obtain⟨e,h1,h2⟩:=List.mem_flatMap.1 hc
 obtain⟨q,_,rfl⟩:=List.mem_map.1 h1
 exact zu (.int _ _ _) (.int _ _ _) c h2
def spL(b:Bk)(d L:List Int):List Two:=[⟨clS b d L false 1,clS b d L true 1⟩,⟨clS b d L false 2,clS b d L true 2⟩,⟨clS b d L false 3,clS b d L true 3⟩]
theorem playD_len{b:Bk}{t:List Int}:∀(k:Nat) (D:List Int),zAw b t k=some D→D.length=k:=by
 intro k
 induction k with
 |zero=>intro D h;cases h;rfl
 |succ k ih=>
  intro D h
  unfold zAw at h
  cases hp:zAw b t k with
  |none=>rw[hp]at h;cases h
  |some d=>
   rw[hp]at h
   cases hc:cueO b d with
   |none=>simp only[hc]at h;cases h
   |some r=>
    simp only[hc]at h
    cases h
    rw[List.length_append,ih d hp];rfl
theorem play_spec{b:Bk}(h:BOk b){t m0:List Int}(ht:zBw b t=true)(h0:lgt b []=some m0):∀k,k≤b.scenes.length→∃D m,zAw b t k=some D∧D.length=k∧wZ b D=true∧lgt b D=some m∧wt b m≤wt b m0∧∀(i:Nat) (x:Int),D[i]? =some x→x= -1∨t[i]? =some x:=by
 unfold zBw at ht
 rw[Bool.and_eq_true,decide_eq_true_eq]at ht
 intro k
 induction k with
 |zero=>intro _;exact⟨[],m0,rfl,rfl,by unfold wZ;simp[dnF],h0,Int.le_refl _,fun i x hx=>by simp at hx⟩
 |succ k ih=>
  intro hk
  obtain⟨D,m,h1,h2,h3,h4,h5,h6⟩:=ih (by omega)
  obtain⟨r,c1,c2,c3,c4⟩:=zFU (zDe h h3) h4
  obtain⟨q,hq⟩:∃q,b.scenes[k]? =some q:=⟨b.scenes[k]'(by omega),List.getElem?_eq_getElem (by omega)⟩
  obtain⟨x,hx⟩:∃x,t[k]? =some x:=⟨t[k]'(by omega),List.getElem?_eq_getElem (by omega)⟩
  obtain⟨q2,hq2,hx2⟩:=plF_at t 0 ht.2 k x hx
  rw[Nat.zero_add,hq]at hq2
  cases hq2
  obtain⟨y,hy⟩:∃y,y=if(k:Int)∈r then -1 else x:=⟨_,rfl⟩
  obtain⟨r2,n1,_,_,_,_,m2,n6,n7⟩:=cue_next (x:=y) h h3 h4 c2 c3 (by rw[h2];exact hq) (fun hr=>by rw[hy,if_pos (by rw[h2]at hr;exact hr)]) (fun hr=>by rw[hy,if_neg (by rw[h2]at hr;exact hr)];exact hx2)
  refine⟨D++[y],m2,?_,by simp[h2],n1,n6,by omega,fun i z hz=>?_⟩
  ·show(match zAw b t k with|none=>none|some d=>_)=_
   rw[h1]
   show(match cueO b D with|none=>none|some r=>some (D++[if(k:Int)∈r then -1 else(t[k]?).getD 0]))=_
   rw[c1,hx,hy];rfl
  ·by_cases hi:i<D.length
   ·rw[app_at hi]at hz;exact h6 i z hz
   ·have hl:=(List.getElem?_eq_some_iff.1 hz).1
    rw[List.length_append,List.length_singleton]at hl
    obtain rfl:i=k:=by omega
    have e:(D++[y])[i]? =some y:=by rw[←h2];simp
    rw[e]at hz
    cases hz
    by_cases hr:(i:Int)∈r
    ·rw[if_pos hr]at hy;exact .inl hy
    ·rw[if_neg hr]at hy;rw[hy];exact .inr hx
def playR(b:Bk)(t:List Int):U:=match zAw b t b.scenes.length with|none=>.tup [.lst .full 0 [],.int .i64 4]|some D=>.tup [.lst .ro 1 (zE (zAH D)),.int .i64 0]
set_option maxHeartbeats 8000000 in
theorem ret27(hi:Off is){b:Bk}(h:VOk b){t:List Int}(ht:zBw b t=true):RetP Tryd.prog is orc 27 [b.u,.lst .ro 1 (zE t)] (playR b t):=by
 have hw:=fun(st:List SB) (j:Nat) (hj:st[j]? =some (.box [.lst .ro 1 (zE t)]))=>wpc60 (orc:=orc) hi h (g:=65) (j:=j) (z:=zBw b t) (st:=st) (fun E=>wpc65 hi h.toBOk (yL hj))
 rw[ht]at hw
 have hn:=h.sn
 have ht2:=ht
 unfold zBw at ht2
 rw[Bool.and_eq_true,decide_eq_true_eq]at ht2
 have q67:=ret67 (orc:=orc) hi h.toBOk ht2.1 (fun x hx=>by
  obtain⟨i,hi⟩:=List.getElem?_of_mem hx
  obtain⟨q,hq,hb⟩:=plF_at t 0 ht2.2 i x hi
  have:=h.sc _ q hq
  omega)
 unfold playR
 refine zp body27 pure27 (hi 27 (by decide)) rfl rfl (zu (wU b 4) (zR 6 .ro (fun h=>by cases h) 1 t)) (by
  cases zAw b t b.scenes.length with
  |none=>exact .inr ⟨_,rfl,zu (k:=7) (zCs 5) (.int _ _ _)⟩
  |some D=>exact .inr ⟨_,rfl,zu (k:=7) (zR 5 .ro (fun h=>by cases h) 1 _) (.int _ _ _)⟩) ?_
 refine kQ (yB rfl rfl (yB rfl rfl (zB rfl (zB rfl (zC ?_)))))
 refine zF [(2,U.box 0 0),(3,U.box 1 0)] ([SB.box (Bk.cs b),SB.box [.lst .ro 1 (zE t)]]) (.n2 rfl) rfl fun fr=>?_
 refine kQ (kD sh25 rfl ?_)
 refine zDq rfl ?_
 refine wW (es:=[U.fn 65 [] [U.box 1 0]]) rfl ty104 ze82 cl82 rfl rfl rfl rfl rfl rfl rfl rfl ?_
 refine zDZ rfl (hw _ 1 rfl) (.lcons _ _ _ _ (.refl _) (.lcons _ _ _ _ (.ro _ _ _) (.lrefl _))) (fun u st1 hM=>?_)
 obtain⟨rfl,e,rfl⟩:=hM
 cases hp:zAw b t b.scenes.length with
 |none=>
  rw[hp]at q67
  have q67:RetP Tryd.prog is orc 67 [crN b,.lst .ro 1 (zE t)] (.tup [zcrU,.bool false]):=q67
  refine zA rfl (kz rfl (kz rfl (zq rfl ze70 ?_)))
  refine zZ rfl (za _ _) sh70 rfl rfl rfl rfl rfl ?_
  refine zB rfl (zC ?_)
  refine zF [(3,U.box 1 0),(6,U.box (List.length (SB.box (Bk.cs b)::SB.box [.lst .ro 1 (zE t)]::List.append [] e)) 0),(7,.int .i64 0)] (SB.box (Bk.cs b)::SB.box [.lst .ro 1 (zE t)]::List.set (List.append (List.append [] e) [SB.box (yk (V.cons (V.int .i64 (0:Int)) (V.cons V.nils (V.cons V.nils (V.cons V.nils (V.cons (V.int .i64 (0:Int)) (V.cons V.nils (V.cons (V.int .i64 (0:Int)) (V.cons (V.int .i64 (0:Int)) (V.cons (V.int .i64 (0:Int)) (V.cons V.nils V.nil)))))))))))]) (List.length (List.append [] e)) (SB.box (Bk.cs b))) (.n3 rfl) rfl fun fr=>?_
  refine k_seq (kQ (zA rfl (ku rfl (zC ?_))))
  refine zF [(3,U.box 1 0),(6,U.box (List.length (SB.box (Bk.cs b)::SB.box [.lst .ro 1 (zE t)]::List.append [] e)) 0),(7,.int .i64 0),(18,U.bool (decide ((0:Int)≠(0:Int))))] (SB.box (Bk.cs b)::SB.box [.lst .ro 1 (zE t)]::List.set (List.append (List.append [] e) [SB.box (yk (V.cons (V.int .i64 (0:Int)) (V.cons V.nils (V.cons V.nils (V.cons V.nils (V.cons (V.int .i64 (0:Int)) (V.cons V.nils (V.cons (V.int .i64 (0:Int)) (V.cons (V.int .i64 (0:Int)) (V.cons (V.int .i64 (0:Int)) (V.cons V.nils V.nil)))))))))))]) (List.length (List.append [] e)) (SB.box (Bk.cs b))) (.n4 rfl) rfl fun fr=>?_
  refine k_cF rfl rfl ?_
  refine zJ (kQ (yK rfl rfl (zBV _ _ _) sh70 rfl ?_))
  refine wk rfl ze72 pl72 rfl rfl ?_
  refine kC sh22 rfl (zG rfl (q67) (.lrefl _) (zA rfl (kz rfl (kz rfl (zq rfl ze72 ?_)))))
  refine zZ rfl (za _ _) sh72 rfl rfl rfl rfl rfl ?_
  refine zB rfl (zC ?_)
  refine zF [(8,U.box (List.length (SB.box (Bk.cs b)::SB.box [.lst .ro 1 (zE t)]::List.set (List.append (List.append [] e) [SB.box (yk (V.cons (V.int .i64 (0:Int)) (V.cons V.nils (V.cons V.nils (V.cons V.nils (V.cons (V.int .i64 (0:Int)) (V.cons V.nils (V.cons (V.int .i64 (0:Int)) (V.cons (V.int .i64 (0:Int)) (V.cons (V.int .i64 (0:Int)) (V.cons V.nils V.nil)))))))))))]) (List.length (List.append [] e)) (SB.box (Bk.cs b)))) 0),(9,.bool false)] (SB.box (Bk.cs b)::SB.box [.lst .ro 1 (zE t)]::List.set (List.append (List.set (List.append (List.append [] e) [SB.box (yk (V.cons (V.int .i64 (0:Int)) (V.cons V.nils (V.cons V.nils (V.cons V.nils (V.cons (V.int .i64 (0:Int)) (V.cons V.nils (V.cons (V.int .i64 (0:Int)) (V.cons (V.int .i64 (0:Int)) (V.cons (V.int .i64 (0:Int)) (V.cons V.nils V.nil)))))))))))]) (List.length (List.append [] e)) (SB.box (Bk.cs b))) [SB.box (yk (V.cons (V.int .i64 (0:Int)) (V.cons V.nils (V.cons V.nils (V.cons V.nils (V.cons (V.int .i64 (0:Int)) (V.cons V.nils (V.cons (V.int .i64 (0:Int)) (V.cons (V.int .i64 (0:Int)) (V.cons (V.int .i64 (0:Int)) (V.cons V.nils (V.cons V.nils V.nil))))))))))))]) (List.length (List.set (List.append (List.append [] e) [SB.box (yk (V.cons (V.int .i64 (0:Int)) (V.cons V.nils (V.cons V.nils (V.cons V.nils (V.cons (V.int .i64 (0:Int)) (V.cons V.nils (V.cons (V.int .i64 (0:Int)) (V.cons (V.int .i64 (0:Int)) (V.cons (V.int .i64 (0:Int)) (V.cons V.nils V.nil)))))))))))]) (List.length (List.append [] e)) (SB.box (Bk.cs b)))) (SB.box [.int .i64 0,.lst .full 0 [],.lst .full 0 [],.lst .full 0 [],.int .i64 0,.lst .full 0 [],.int .i64 0,.int .i64 0,.int .i64 0,.lst .full 0 [],.lst .full 0 []])) (.n2 rfl) rfl fun fr=>?_
  refine k_seq (kQ (zA rfl (zh rfl rfl (zC ?_))))
  refine zF [(8,U.box (List.length (SB.box (Bk.cs b)::SB.box [.lst .ro 1 (zE t)]::List.set (List.append (List.append [] e) [SB.box (yk (V.cons (V.int .i64 (0:Int)) (V.cons V.nils (V.cons V.nils (V.cons V.nils (V.cons (V.int .i64 (0:Int)) (V.cons V.nils (V.cons (V.int .i64 (0:Int)) (V.cons (V.int .i64 (0:Int)) (V.cons (V.int .i64 (0:Int)) (V.cons V.nils V.nil)))))))))))]) (List.length (List.append [] e)) (SB.box (Bk.cs b)))) 0),(28,U.bool !Bool.false)] (SB.box (Bk.cs b)::SB.box [.lst .ro 1 (zE t)]::List.set (List.append (List.set (List.append (List.append [] e) [SB.box (yk (V.cons (V.int .i64 (0:Int)) (V.cons V.nils (V.cons V.nils (V.cons V.nils (V.cons (V.int .i64 (0:Int)) (V.cons V.nils (V.cons (V.int .i64 (0:Int)) (V.cons (V.int .i64 (0:Int)) (V.cons (V.int .i64 (0:Int)) (V.cons V.nils V.nil)))))))))))]) (List.length (List.append [] e)) (SB.box (Bk.cs b))) [SB.box (yk (V.cons (V.int .i64 (0:Int)) (V.cons V.nils (V.cons V.nils (V.cons V.nils (V.cons (V.int .i64 (0:Int)) (V.cons V.nils (V.cons (V.int .i64 (0:Int)) (V.cons (V.int .i64 (0:Int)) (V.cons (V.int .i64 (0:Int)) (V.cons V.nils (V.cons V.nils V.nil))))))))))))]) (List.length (List.set (List.append (List.append [] e) [SB.box (yk (V.cons (V.int .i64 (0:Int)) (V.cons V.nils (V.cons V.nils (V.cons V.nils (V.cons (V.int .i64 (0:Int)) (V.cons V.nils (V.cons (V.int .i64 (0:Int)) (V.cons (V.int .i64 (0:Int)) (V.cons (V.int .i64 (0:Int)) (V.cons V.nils V.nil)))))))))))]) (List.length (List.append [] e)) (SB.box (Bk.cs b)))) (SB.box [.int .i64 0,.lst .full 0 [],.lst .full 0 [],.lst .full 0 [],.int .i64 0,.lst .full 0 [],.int .i64 0,.int .i64 0,.int .i64 0,.lst .full 0 [],.lst .full 0 []])) (.n2 rfl) rfl fun fr=>?_
  refine k_cT rfl rfl ?_
  refine kQ (zB rfl (zB rfl (zC (zS ?_))))
  refine⟨.inr rfl,_,.cons _ _ _ _ (.tmp 4) (.cons _ _ _ _ (.tmp 5) .nil),?_⟩
  exact .refl _
  done
 |some D=>
  rw[hp]at q67
  have q67:RetP Tryd.prog is orc 67 [crN b,.lst .ro 1 (zE t)] (.tup [crU b D,.bool true]):=q67
  have hl:=playD_len _ _ hp
  have q68:=ret68 (orc:=orc) hi b (d:=D) (by omega)
  refine zA rfl (kz rfl (kz rfl (zq rfl ze70 ?_)))
  refine zZ rfl (za _ _) sh70 rfl rfl rfl rfl rfl ?_
  refine zB rfl (zC ?_)
  refine zF [(3,U.box 1 0),(6,U.box (List.length (SB.box (Bk.cs b)::SB.box [.lst .ro 1 (zE t)]::List.append [] e)) 0),(7,.int .i64 0)] (SB.box (Bk.cs b)::SB.box [.lst .ro 1 (zE t)]::List.set (List.append (List.append [] e) [SB.box (yk (V.cons (V.int .i64 (0:Int)) (V.cons V.nils (V.cons V.nils (V.cons V.nils (V.cons (V.int .i64 (0:Int)) (V.cons V.nils (V.cons (V.int .i64 (0:Int)) (V.cons (V.int .i64 (0:Int)) (V.cons (V.int .i64 (0:Int)) (V.cons V.nils V.nil)))))))))))]) (List.length (List.append [] e)) (SB.box (Bk.cs b))) (.n3 rfl) rfl fun fr=>?_
  refine k_seq (kQ (zA rfl (ku rfl (zC ?_))))
  refine zF [(3,U.box 1 0),(6,U.box (List.length (SB.box (Bk.cs b)::SB.box [.lst .ro 1 (zE t)]::List.append [] e)) 0),(7,.int .i64 0),(18,U.bool (decide ((0:Int)≠(0:Int))))] (SB.box (Bk.cs b)::SB.box [.lst .ro 1 (zE t)]::List.set (List.append (List.append [] e) [SB.box (yk (V.cons (V.int .i64 (0:Int)) (V.cons V.nils (V.cons V.nils (V.cons V.nils (V.cons (V.int .i64 (0:Int)) (V.cons V.nils (V.cons (V.int .i64 (0:Int)) (V.cons (V.int .i64 (0:Int)) (V.cons (V.int .i64 (0:Int)) (V.cons V.nils V.nil)))))))))))]) (List.length (List.append [] e)) (SB.box (Bk.cs b))) (.n4 rfl) rfl fun fr=>?_
  refine k_cF rfl rfl ?_
  refine zJ (kQ (yK rfl rfl (zBV _ _ _) sh70 rfl ?_))
  refine wk rfl ze72 pl72 rfl rfl ?_
  refine kC sh22 rfl (zG rfl (q67) (.lrefl _) (zA rfl (kz rfl (kz rfl (zq rfl ze72 ?_)))))
  refine zZ rfl (za _ _) sh72 rfl rfl rfl rfl rfl ?_
  refine zB rfl (zC ?_)
  refine zF [(8,U.box (List.length (SB.box (Bk.cs b)::SB.box [.lst .ro 1 (zE t)]::List.set (List.append (List.append [] e) [SB.box (yk (V.cons (V.int .i64 (0:Int)) (V.cons V.nils (V.cons V.nils (V.cons V.nils (V.cons (V.int .i64 (0:Int)) (V.cons V.nils (V.cons (V.int .i64 (0:Int)) (V.cons (V.int .i64 (0:Int)) (V.cons (V.int .i64 (0:Int)) (V.cons V.nils V.nil)))))))))))]) (List.length (List.append [] e)) (SB.box (Bk.cs b)))) 0),(9,.bool true)] (SB.box (Bk.cs b)::SB.box [.lst .ro 1 (zE t)]::List.set (List.append (List.set (List.append (List.append [] e) [SB.box (yk (V.cons (V.int .i64 (0:Int)) (V.cons V.nils (V.cons V.nils (V.cons V.nils (V.cons (V.int .i64 (0:Int)) (V.cons V.nils (V.cons (V.int .i64 (0:Int)) (V.cons (V.int .i64 (0:Int)) (V.cons (V.int .i64 (0:Int)) (V.cons V.nils V.nil)))))))))))]) (List.length (List.append [] e)) (SB.box (Bk.cs b))) [SB.box (yk (V.cons (V.int .i64 (0:Int)) (V.cons V.nils (V.cons V.nils (V.cons V.nils (V.cons (V.int .i64 (0:Int)) (V.cons V.nils (V.cons (V.int .i64 (0:Int)) (V.cons (V.int .i64 (0:Int)) (V.cons (V.int .i64 (0:Int)) (V.cons V.nils (V.cons V.nils V.nil))))))))))))]) (List.length (List.set (List.append (List.append [] e) [SB.box (yk (V.cons (V.int .i64 (0:Int)) (V.cons V.nils (V.cons V.nils (V.cons V.nils (V.cons (V.int .i64 (0:Int)) (V.cons V.nils (V.cons (V.int .i64 (0:Int)) (V.cons (V.int .i64 (0:Int)) (V.cons (V.int .i64 (0:Int)) (V.cons V.nils V.nil)))))))))))]) (List.length (List.append [] e)) (SB.box (Bk.cs b)))) (SB.box (Bk.cd b D))) (.n2 rfl) rfl fun fr=>?_
  refine k_seq (kQ (zA rfl (zh rfl rfl (zC ?_))))
  refine zF [(8,U.box (List.length (SB.box (Bk.cs b)::SB.box [.lst .ro 1 (zE t)]::List.set (List.append (List.append [] e) [SB.box (yk (V.cons (V.int .i64 (0:Int)) (V.cons V.nils (V.cons V.nils (V.cons V.nils (V.cons (V.int .i64 (0:Int)) (V.cons V.nils (V.cons (V.int .i64 (0:Int)) (V.cons (V.int .i64 (0:Int)) (V.cons (V.int .i64 (0:Int)) (V.cons V.nils V.nil)))))))))))]) (List.length (List.append [] e)) (SB.box (Bk.cs b)))) 0),(28,U.bool !Bool.true)] (SB.box (Bk.cs b)::SB.box [.lst .ro 1 (zE t)]::List.set (List.append (List.set (List.append (List.append [] e) [SB.box (yk (V.cons (V.int .i64 (0:Int)) (V.cons V.nils (V.cons V.nils (V.cons V.nils (V.cons (V.int .i64 (0:Int)) (V.cons V.nils (V.cons (V.int .i64 (0:Int)) (V.cons (V.int .i64 (0:Int)) (V.cons (V.int .i64 (0:Int)) (V.cons V.nils V.nil)))))))))))]) (List.length (List.append [] e)) (SB.box (Bk.cs b))) [SB.box (yk (V.cons (V.int .i64 (0:Int)) (V.cons V.nils (V.cons V.nils (V.cons V.nils (V.cons (V.int .i64 (0:Int)) (V.cons V.nils (V.cons (V.int .i64 (0:Int)) (V.cons (V.int .i64 (0:Int)) (V.cons (V.int .i64 (0:Int)) (V.cons V.nils (V.cons V.nils V.nil))))))))))))]) (List.length (List.set (List.append (List.append [] e) [SB.box (yk (V.cons (V.int .i64 (0:Int)) (V.cons V.nils (V.cons V.nils (V.cons V.nils (V.cons (V.int .i64 (0:Int)) (V.cons V.nils (V.cons (V.int .i64 (0:Int)) (V.cons (V.int .i64 (0:Int)) (V.cons (V.int .i64 (0:Int)) (V.cons V.nils V.nil)))))))))))]) (List.length (List.append [] e)) (SB.box (Bk.cs b)))) (SB.box (Bk.cd b D))) (.n2 rfl) rfl fun fr=>?_
  refine k_cF rfl rfl ?_
  refine zJ (kQ (yK rfl rfl (zBV _ _ _) sh72 rfl ?_))
  refine zG rfl (q68) (.lrefl _) (zB rfl (zB rfl (zC (zS ?_))))
  refine⟨.inr rfl,_,.cons _ _ _ _ (.tmp 4) (.cons _ _ _ _ (.tmp 5) .nil),?_⟩
  exact .refl _
  done
end Go.Proofs.YtlknfhjfkcboiaaDoor.night
