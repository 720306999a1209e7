import Derived.Test.YtlknfhjfkcboiaaDoorVamT20
set_option linter.unusedVariables false
set_option linter.unusedSimpArgs false
set_option linter.constructorNameAsVariable false
namespace Go.Proofs.YtlknfhjfkcboiaaDoor.night
open Vam
section
variable {is:FuncId→Bool}{orc:Known}{b:Bk}
noncomputable def b28:Code:=(Tryd.f28.body).getD .skip
theorem body28:bodyOf Tryd.prog 28=some (81,b28,[.tmp 4,.tmp 5]):=by kernel_rfl
theorem pure28:pureFn Tryd.prog 28=true:=by kernel_rfl
noncomputable def b4:Code:=(Tryd.f4.body).getD .skip
theorem body4:bodyOf Tryd.prog 4=some (55,b4,[.tmp 6]):=by kernel_rfl
theorem pure4:pureFn Tryd.prog 4=true:=by kernel_rfl
theorem ret27n(hi:Off is)(h:VOk b){t:List Int}(ht:zBw b t=false):RetP Tryd.prog is orc 27 [b.u,.lst .ro 1 (zE t)] (.tup [.lst .full 0 [],.int .i64 101]):=by
 have hw:=fun(st:List SB) (j:Nat) (hj:st[j]? =some (.box [.lst .ro 1 (zE t)]))=>wpc60 (orc:=orc) hi h (g:=65) (j:=j) (z:=zBw b t) (st:=st) (fun E=>wpc65 hi h.toBOk (yL hj))
 rw[ht]at hw
 refine zp body27 pure27 (hi 27 (by decide)) rfl rfl (zu (wU b 4) (zR 6 .ro (fun h=>by cases h) 1 t)) (.inr ⟨_,rfl,zu (k:=7) (zCs 5) (.int _ _ _)⟩) ?_
 refine kQ (yB rfl rfl (yB rfl rfl (zB rfl (zB rfl (zC ?_)))))
 refine zF [(2,U.box 0 0),(3,U.box 1 0)] ([SB.box (Bk.cs b),SB.box [.lst .ro 1 (zE t)]]) (.n2 rfl) rfl fun fr=>?_
 refine kQ (kD sh25 rfl ?_)
 refine zDq rfl ?_
 refine wW (es:=[U.fn 65 [] [U.box 1 0]]) rfl ty104 ze82 cl82 rfl rfl rfl rfl rfl rfl rfl rfl ?_
 refine zDZ rfl (hw _ 1 rfl) (.lcons _ _ _ _ (.refl _) (.lcons _ _ _ _ (.ro _ _ _) (.lrefl _))) (fun u st1 hM=>?_)
 obtain⟨rfl,e,rfl⟩:=hM
 refine zA rfl (kz rfl (kz rfl (zq rfl ze70 ?_)))
 refine zZ rfl (za _ _) sh70 rfl rfl rfl rfl rfl ?_
 refine zB rfl (zC ?_)
 refine zF [(3,U.box 1 0),(6,U.box (List.length (SB.box (Bk.cs b)::SB.box [.lst .ro 1 (zE t)]::List.append [] e)) 0),(7,.int .i64 101)] (SB.box (Bk.cs b)::SB.box [.lst .ro 1 (zE t)]::List.set (List.append (List.append [] e) [SB.box (yk (V.cons (V.int .i64 (0:Int)) (V.cons V.nils (V.cons V.nils (V.cons V.nils (V.cons (V.int .i64 (0:Int)) (V.cons V.nils (V.cons (V.int .i64 (0:Int)) (V.cons (V.int .i64 (0:Int)) (V.cons (V.int .i64 (0:Int)) (V.cons V.nils V.nil)))))))))))]) (List.length (List.append [] e)) (SB.box [.int .i64 0,.lst .full 0 [],.lst .full 0 [],.lst .full 0 [],.int .i64 0,.lst .full 0 [],.int .i64 0,.int .i64 0,.int .i64 0,.lst .full 0 []])) (.n3 rfl) rfl fun fr=>?_
 refine k_seq (kQ (zA rfl (ku rfl (zC ?_))))
 refine zF [(3,U.box 1 0),(6,U.box (List.length (SB.box (Bk.cs b)::SB.box [.lst .ro 1 (zE t)]::List.append [] e)) 0),(7,.int .i64 101),(18,U.bool (decide ((101:Int)≠(0:Int))))] (SB.box (Bk.cs b)::SB.box [.lst .ro 1 (zE t)]::List.set (List.append (List.append [] e) [SB.box (yk (V.cons (V.int .i64 (0:Int)) (V.cons V.nils (V.cons V.nils (V.cons V.nils (V.cons (V.int .i64 (0:Int)) (V.cons V.nils (V.cons (V.int .i64 (0:Int)) (V.cons (V.int .i64 (0:Int)) (V.cons (V.int .i64 (0:Int)) (V.cons V.nils V.nil)))))))))))]) (List.length (List.append [] e)) (SB.box [.int .i64 0,.lst .full 0 [],.lst .full 0 [],.lst .full 0 [],.int .i64 0,.lst .full 0 [],.int .i64 0,.int .i64 0,.int .i64 0,.lst .full 0 []])) (.n4 rfl) rfl fun fr=>?_
 refine k_cT rfl rfl ?_
 refine kQ (zA rfl (zB rfl (zB rfl (zC (zS ?_)))))
 refine⟨.inr rfl,_,.cons _ _ _ _ (.tmp 4) (.cons _ _ _ _ (.tmp 5) .nil),?_⟩
 exact .refl _
theorem ret27j(hi:Off is)(hv:zAs b=false)(t:List Int):RetP Tryd.prog is orc 27 [b.u,.lst .ro 1 (zE t)] (.tup [.lst .full 0 [],.int .i64 100]):=by
 refine zp body27 pure27 (hi 27 (by decide)) rfl rfl (zu (wU b 4) (zR 6 .ro (fun h=>by cases h) 1 t)) (.inr ⟨_,rfl,zu (k:=7) (zCs 5) (.int _ _ _)⟩) ?_
 refine kQ (yB rfl rfl (yB rfl rfl (zB rfl (zB rfl (zC ?_)))))
 refine zF [(2,U.box 0 0),(3,U.box 1 0)] ([SB.box (Bk.cs b),SB.box [.lst .ro 1 (zE t)]]) (.n2 rfl) rfl fun fr=>?_
 refine kQ (kD sh25 rfl ?_)
 refine zDq rfl ?_
 refine wW (es:=[U.fn 65 [] [U.box 1 0]]) rfl ty104 ze82 cl82 rfl rfl rfl rfl rfl rfl rfl rfl ?_
 refine zDZ rfl (wpc60j hi hv) (.lcons _ _ _ _ (.refl _) (.lcons _ _ _ _ (.ro _ _ _) (.lrefl _))) (fun u st1 hM=>?_)
 obtain⟨rfl,e,rfl⟩:=hM
 refine zA rfl (kz rfl (kz rfl (zq rfl ze70 ?_)))
 refine zZ rfl (za _ _) sh70 rfl rfl rfl rfl rfl ?_
 refine zB rfl (zC ?_)
 refine zF [(3,U.box 1 0),(6,U.box (List.length (SB.box (Bk.cs b)::SB.box [.lst .ro 1 (zE t)]::List.append [] e)) 0),(7,.int .i64 100)] (SB.box (Bk.cs b)::SB.box [.lst .ro 1 (zE t)]::List.set (List.append (List.append [] e) [SB.box (yk (V.cons (V.int .i64 (0:Int)) (V.cons V.nils (V.cons V.nils (V.cons V.nils (V.cons (V.int .i64 (0:Int)) (V.cons V.nils (V.cons (V.int .i64 (0:Int)) (V.cons (V.int .i64 (0:Int)) (V.cons (V.int .i64 (0:Int)) (V.cons V.nils V.nil)))))))))))]) (List.length (List.append [] e)) (SB.box [.int .i64 0,.lst .full 0 [],.lst .full 0 [],.lst .full 0 [],.int .i64 0,.lst .full 0 [],.int .i64 0,.int .i64 0,.int .i64 0,.lst .full 0 []])) (.n3 rfl) rfl fun fr=>?_
 refine k_seq (kQ (zA rfl (ku rfl (zC ?_))))
 refine zF [(3,U.box 1 0),(6,U.box (List.length (SB.box (Bk.cs b)::SB.box [.lst .ro 1 (zE t)]::List.append [] e)) 0),(7,.int .i64 100),(18,U.bool (decide ((100:Int)≠(0:Int))))] (SB.box (Bk.cs b)::SB.box [.lst .ro 1 (zE t)]::List.set (List.append (List.append [] e) [SB.box (yk (V.cons (V.int .i64 (0:Int)) (V.cons V.nils (V.cons V.nils (V.cons V.nils (V.cons (V.int .i64 (0:Int)) (V.cons V.nils (V.cons (V.int .i64 (0:Int)) (V.cons (V.int .i64 (0:Int)) (V.cons (V.int .i64 (0:Int)) (V.cons V.nils V.nil)))))))))))]) (List.length (List.append [] e)) (SB.box [.int .i64 0,.lst .full 0 [],.lst .full 0 [],.lst .full 0 [],.int .i64 0,.lst .full 0 [],.int .i64 0,.int .i64 0,.int .i64 0,.lst .full 0 []])) (.n4 rfl) rfl fun fr=>?_
 refine k_cT rfl rfl ?_
 refine kQ (zA rfl (zB rfl (zB rfl (zC (zS ?_)))))
 refine⟨.inr rfl,_,.cons _ _ _ _ (.tmp 4) (.cons _ _ _ _ (.tmp 5) .nil),?_⟩
 exact .refl _
theorem plF_iff:∀(l:List Int) (i:Nat),plF b i l=true↔ ∀(j:Nat) (x:Int),l[j]? =some x→∃q,b.scenes[i+j]? =some q∧inS q.lo q.hi x=true:=by
 intro l
 induction l with
 |nil=>intro i;exact⟨fun _ j x h=>by simp at h,fun _=>rfl⟩
 |cons y l ih=>
  intro i
  unfold plF
  rw[Bool.and_eq_true,ih (i+1)]
  constructor
  ·rintro⟨h1,h2⟩ j x hx
   cases j with
   |zero=>
    cases hx
    cases hq:b.scenes[i]? with
    |none=>rw[hq]at h1;cases h1
    |some q=>rw[hq]at h1;exact⟨q,rfl,h1⟩
   |succ j=>
    obtain⟨q,hq,h3⟩:=h2 j x hx
    exact⟨q,by rw[←hq];congr 1;omega,h3⟩
  ·intro h
   refine⟨?_,fun j x hx=>?_⟩
   ·obtain⟨q,hq,h3⟩:=h 0 y rfl
    rw[Nat.add_zero]at hq
    rw[hq];exact h3
   ·obtain⟨q,hq,h3⟩:=h (j+1) x hx
    exact⟨q,by rw[←hq];congr 1;omega,h3⟩
def PlQ(b:Bk)(j:Nat)(x:Int):Prop:=∃q,b.scenes[j]? =some q∧inS q.lo q.hi x=true
def Pl(b:Bk)(t:List Int)(i:Nat):Prop:=t.length=b.scenes.length∧∀(j:Nat) (x:Int),j<i→t[j]? =some x→PlQ b j x
theorem Pl_succ{t:List Int}{i:Nat}{x:Int}(hx:t[i]? =some x):Pl b t (i+1)↔Pl b t i∧PlQ b i x:=zEH (Q:=PlQ b) hx
theorem Pl_mono{t:List Int}{i j:Nat}(h:i≤j):Pl b t j→Pl b t i:=fun⟨h1,h2⟩=>⟨h1,fun k q hk=>h2 k q (by omega)⟩
theorem Pl_all{t:List Int}:Pl b t t.length↔zBw b t=true:=by
 unfold zBw
 rw[Bool.and_eq_true,decide_eq_true_eq,plF_iff]
 simp only[Nat.zero_add]
 exact⟨fun h=>⟨h.1,fun j x hx=>h.2 j x (List.getElem?_eq_some_iff.1 hx).1 hx⟩,fun h=>⟨h.1,fun j x _ hx=>h.2 j x hx⟩⟩
theorem ret28j(hi:Off is)(hv:zAs b=false)(t:List Int):RetP Tryd.prog is orc 28 [b.u,.lst .ro 1 (zE t)] (.tup [.lst .full 0 [],.int .i64 100]):=by
 have q18:=ret18 (orc:=orc) hi b
 rw[if_neg (by rw[hv];decide)]at q18
 refine zp body28 pure28 (hi 28 (by decide)) rfl rfl (zu (wU b 4) (zR 6 .ro (fun h=>by cases h) 1 t)) (.inr ⟨_,rfl,zu (k:=7) (zCs 5) (.int _ _ _)⟩) ?_
 refine kQ (yB rfl rfl (zB rfl (zB rfl (zC ?_))))
 refine zF [(1,.lst .ro 1 (zE t)),(2,U.box 0 0)] ([SB.box (Bk.cs b)]) (.n2 rfl) rfl fun fr=>?_
 refine k_seq (kQ (kD sh25 rfl (zG rfl (q18) (.lrefl _) (zB rfl (zC (kQ (zA rfl (ku rfl (zC (k_cT rfl rfl ?_))))))))))
 refine kQ (zA rfl (zB rfl (zB rfl (zC (zS ?_)))))
 refine⟨.inr rfl,_,.cons _ _ _ _ (.tmp 4) (.cons _ _ _ _ (.tmp 5) .nil),?_⟩
 exact .refl _
def plyR(b:Bk)(t:List Int):U:=if zBw b t=true then playR b t else .tup [.lst .full 0 [],.int .i64 101]
theorem dat_play(b:Bk)(t:List Int):∃cs,plyR b t=.tup cs∧∀c∈cs,Dat 7 c:=by
 unfold plyR playR
 split
 ·cases zAw b t b.scenes.length with
  |none=>exact⟨_,rfl,zu (k:=7) (zCs 5) (.int _ _ _)⟩
  |some D=>exact⟨_,rfl,zu (k:=7) (zR 5 .ro (fun h=>by cases h) 1 _) (.int _ _ _)⟩
 ·exact⟨_,rfl,zu (k:=7) (zCs 5) (.int _ _ _)⟩
set_option maxHeartbeats 16000000 in
theorem ret28(hi:Off is)(h:VOk b)(t:List Int):RetP Tryd.prog is orc 28 [b.u,.lst .ro 1 (zE t)] (plyR b t):=by
 have q18:=ret18 (orc:=orc) hi b
 rw[if_pos ((zCY b).2 h)]at q18
 have hsn:=h.sn
 refine zp body28 pure28 (hi 28 (by decide)) rfl rfl (zu (wU b 4) (zR 6 .ro (fun h=>by cases h) 1 t)) (.inr (dat_play b t)) ?_
 refine kQ (yB rfl rfl (zB rfl (zB rfl (zC ?_))))
 refine zF [(1,.lst .ro 1 (zE t)),(2,U.box 0 0)] ([SB.box (Bk.cs b)]) (.n2 rfl) rfl fun fr=>?_
 refine k_seq (kQ (kD sh25 rfl (zG rfl (q18) (.lrefl _) (zB rfl (zC (kQ (zA rfl (ku rfl (zC (k_cF rfl rfl ?_))))))))))
 refine zJ (kQ (zA rfl (zP rfl ty22 rfl (List.length_map _) ?_)))
 refine kA rfl ze (kC sh23 rfl (zP rfl ty23 rfl (List.length_map _) ?_))
 refine kw rfl (zB rfl (zC ?_))
 refine k_cut (fun st=>∃z:Bool,(z=true↔zBw b t=true)∧st.st=[.box (Bk.cs b)]∧Holds st [(1,.lst .ro 1 (zE t)),(2,.box 0 0),(7,.bool z)]) ?_ (fun st hM=>?_)
 ·have hz0:(decide ((t.length:Int)=b.scenes.length))=true↔Pl b t 0:=by
   rw[decide_eq_true_eq]
   exact⟨fun h=>⟨by omega,fun j x hj=>by omega⟩,fun h=>by have:=h.1;omega⟩
  generalize decide ((t.length:Int)=b.scenes.length)=z at*
  refine kQ (zB rfl (zC (zH ?_)))
  refine yR (fun kk s2=>∃(i:Nat) (w:Bool),kk+i=t.length∧(w=true↔Pl b t i)∧s2.st=[.box (Bk.cs b)]∧Holds s2 [(1,.lst .ro 1 (zE t)),(2,.box 0 0),(7,.bool w),(8,.int .i64 i)]) (fun kk s2 hI=>?_) t.length _ ⟨0,z,by omega,hz0,rfl,.c4 rfl rfl rfl rfl (.nil rfl)⟩
  obtain⟨i,w,hk,hw,hst2,hs2⟩:=hI
  refine zF _ _ hs2 hst2 fun fr2=>?_
  cases w with
  |false=>
   have hn: ¬ Pl b t i:=fun hp=>by cases hw.2 hp
   refine k_seq (kQ (zA rfl (zA rfl (ke rfl (ke rfl (ke rfl (ke rfl (kF rfl ?_))))))))
   refine zC (k_cF rfl rfl ?_)
   refine zr ?_
   exact⟨rfl,false,zEB (fun hp=>hn (Pl_mono (by
    exact Nat.le_trans (Nat.le_add_left _ _) (Nat.le_of_eq hk)) (Pl_all.2 hp))),rfl,.cons rfl (.n2 rfl)⟩
  |true=>
   have hP:=hw.1 rfl
   have hdl:=hP.1
   by_cases hin:i<t.length
   ·obtain⟨x,hx⟩:∃x,t[i]? =some x:=⟨t[i],List.getElem?_eq_getElem hin⟩
    obtain⟨q,hq⟩:∃q,b.scenes[i]? =some q:=⟨b.scenes[i],List.getElem?_eq_getElem (by omega)⟩
    have hsu:=Pl_succ (b:=b) hx
    have hsu:Pl b t (i+1)↔inS q.lo q.hi x=true:=⟨fun h=>by
     obtain⟨q2,e1,e2⟩:=(hsu.1 h).2
     rw[hq]at e1;cases e1;exact e2,fun h=>hsu.2 ⟨hP,q,hq,h⟩⟩
    have q34:=ret34 (orc:=orc) hi q.lo q.hi x
    generalize inS q.lo q.hi x=v at*
    refine k_seq (kQ (zA rfl (zA rfl (kf rfl (zA rfl (kf rfl (zA rfl (kf rfl (zP rfl ty22 rfl (List.length_map _) ?_)))))))))
    refine kf rfl (kq rfl (kG rfl ?_))
    refine zC (k_cT rfl (kH (by omega)) (zJ (k_seq (zH (wH [.plain,.read true,.plain,.plain,.plain,.read true,.plain,.plain,.plain,.read true,.plain,.plain] (by kernel_rfl) (by kernel_rfl) (by kernel_rfl) ?_)))))
    refine zD (kA rfl ze (zC rfl)) ?_
    refine zV rfl (kC sh23 rfl (zC rfl)) (zD (zA rfl (zC rfl)) (zD (zX (u:=(q).u) rfl ty23 rfl rfl (Int.natCast_nonneg _) (by simp[hq]) cl50 (zC rfl)) ?_))
    refine zD (yV rfl rfl wM (zC rfl)) ?_
    refine zV rfl (yi rfl rfl sh48 rfl (zC rfl)) ?_
    refine zD (zA rfl (zC rfl)) (zD (zA rfl (zC rfl)) (zD (zX (u:=.int .i64 (x)) rfl ty22 rfl rfl (Int.natCast_nonneg _) (by simp[hx]) cl3 (zC rfl)) ?_))
    refine zV rfl (kE sh3 rfl (zC rfl)) ?_
    refine zD (zG rfl (q34) (.lrefl _) (zC rfl)) ?_
    refine zD (zB rfl (zC rfl)) ?_
    refine zAo ?_
    refine k_region (zA rfl ?_)
    refine kB rfl (by unfold I64;omega) (zB rfl (zC ?_))
    exact⟨kk - 1,by omega,i+1,v,by omega,hsu.symm,rfl,.c4 rfl rfl rfl rfl (.nil rfl)⟩
   ·have hie:i=t.length:=by omega
    subst hie
    refine k_seq (kQ (zA rfl (zA rfl (kf rfl (zA rfl (kf rfl (zA rfl (kf rfl (zP rfl ty22 rfl (List.length_map _) ?_)))))))))
    refine kf rfl (kq rfl (kG rfl ?_))
    refine zC (k_cF rfl (kI (by omega)) (zr ?_))
    exact⟨rfl,true,hw.trans Pl_all,rfl,.cons rfl (.n2 rfl)⟩
 obtain⟨z,hz,hst,hs⟩:=hM
 refine zF _ _ hs hst fun fr=>?_
 cases z with
 |false=>
  have hd:zBw b t=false:=by
   cases hd:zBw b t with
   |false=>rfl
   |true=>have:=hz.2 hd;cases this
  unfold plyR
  rw[hd,if_neg (by decide)]
  refine k_seq (kQ (zA rfl (zh rfl rfl (zC (k_cT rfl rfl ?_)))))
  refine kQ (zB rfl (zB rfl (zC (zS ?_))))
  refine⟨.inr rfl,_,.cons _ _ _ _ (.tmp 4) (.cons _ _ _ _ (.tmp 5) .nil),?_⟩
  exact .refl _
 |true=>
  have hp:=hz.1 rfl
  have hpl:=(Pl_all.2 hp)
  have htl:=hpl.1
  unfold plyR
  rw[if_pos hp]
  refine k_seq (kQ (zA rfl (zh rfl rfl (zC (k_cF rfl rfl ?_)))))
  refine zJ (kQ (zB rfl (zB rfl (zC (k_seq (kQ (zB rfl (zC (zH ?_)))))))))
  have hcR:∀D,wZ b D=true→cueR b D=.tup [optU (cueO b D),.int .i64 (if(lgt b D).isSome=true then 0 else 4)]:=fun D hd=>by unfold cueR;rw[if_pos hd]
  cases h0:lgt b []with
  |none=>
   have hd0:wZ b []=true:=by unfold wZ;simp[dnF]
   have q26:=ret26 (orc:=orc) hi h []
   have hcn:cueO b []=none:=by unfold cueO;rw[h0];rfl
   rw[hcR [] hd0,hcn,h0]at q26
   have q26:RetP Tryd.prog is orc 26 [b.u,.lst .ro 1 (zE [])] (.tup [.lst .full 0 [],.int .i64 4]):=q26
   have hpn:zAw b t 1=none:=by
    show(match cueO b []with|none=>none|some r=>_)=none
    rw[hcn]
   have hpn:=zGc hpn b.scenes.length hsn.1
   unfold playR
   rw[hpn]
   refine yR (fun kk s2=>s2.st=[.box (Bk.cs b)]∧Holds s2 [(1,.lst .ro 1 (zE t)),(2,.box 0 0),(9,.lst .full 0 []),(10,.lst .full 0 []),(11,.int .i64 0)]) (fun kk s2 hI=>?_) 0 _ ⟨rfl,.c4 rfl rfl rfl rfl (.n1 rfl)⟩
   obtain⟨hst2,hs2⟩:=hI
   refine zF _ _ hs2 hst2 fun fr2=>?_
   refine k_seq (kQ (zA rfl (zA rfl (zP rfl ty22 rfl (List.length_map _) ?_))))
   refine kq rfl (zC (k_cT rfl (kH (by omega)) (zJ (k_seq (zH (kQ (kD sh25 rfl (zA rfl (zG rfl (q26) (.lcons _ _ _ _ (.refl _) (.lcons _ _ _ _ (.nil _ _ _) (.lrefl _))) ?_)))))))))
   refine zA rfl (kz rfl (kz rfl (zB rfl (zB rfl (zC ?_)))))
   refine zF [(1,.lst .ro 1 (zE t)),(2,U.box 0 0),(9,.lst .full 0 []),(10,.lst .full 0 []),(11,.int .i64 0),(12,.lst .full 0 []),(13,.int .i64 4)] ([SB.box (Bk.cs b)]) (.n7 rfl) rfl fun fr=>?_
   refine k_seq (kQ (zA rfl (ku rfl (zC (k_cT rfl rfl ?_)))))
   refine kQ (zA rfl (zB rfl (zB rfl (zC (zS ?_)))))
   refine⟨.inr rfl,_,.cons _ _ _ _ (.tmp 4) (.cons _ _ _ _ (.tmp 5) .nil),?_⟩
   exact .refl _
  |some m0=>
   have hsp:=play_spec h.toBOk hp h0
   refine yR (fun kk s2=>∃(k:Nat) (D:List Int),kk+k=b.scenes.length∧zAw b t k=some D∧s2.st=[.box (Bk.cs b)]∧Holds s2 [(1,.lst .ro 1 (zE t)),(2,.box 0 0),(9,accI D),(10,accI (zAH D)),(11,.int .i64 k)]) (fun kk s2 hI=>?_) b.scenes.length _ ⟨0,[],by omega,rfl,rfl,.c4 rfl rfl rfl rfl (.n1 rfl)⟩
   obtain⟨k,D,hk,hpd,hst2,hs2⟩:=hI
   obtain⟨D',m,e1,hDl,hdn,hlm,_,_⟩:=hsp k (by omega)
   rw[hpd]at e1;cases e1
   have hll:(zAH D).length≤D.length:=zCA _ _
   by_cases hkn:k<b.scenes.length
   ·obtain⟨r,hcr,_,_,hch⟩:=zFU (zDe h.toBOk hdn) hlm
    obtain⟨x,hx⟩:∃x,t[k]? =some x:=⟨t[k]'(by omega),List.getElem?_eq_getElem (by omega)⟩
    obtain⟨q,hq,hxq⟩:=hpl.2 k x (by omega) hx
    have hqb:=h.sc _ q hq
    have hxb:=zAP.1 hxq
    have q26:=ret26 (orc:=orc) hi h D
    rw[hcR D hdn,hcr,hlm]at q26
    have q26:RetP Tryd.prog is orc 26 [b.u,.lst .ro 1 (zE D)] (.tup [.lst .ro 1 (zE r),.int .i64 0]):=q26
    have hrl:=hch.len
    have q39:=ret39 (orc:=orc) hi r k (by omega)
    have him:=idx_mem r k 0
    have hnx:zAw b t (k+1)=some (D++[if(k:Int)∈r then -1 else x]):=by
     show(match zAw b t k with|none=>none|some d=>match cueO b d with|none=>none|some r=>some (d++[if(k:Int)∈r then -1 else(t[k]?).getD 0]))=_
     rw[hpd]
     show(match cueO b D with|none=>none|some r=>some (D++[if(k:Int)∈r then -1 else(t[k]?).getD 0]))=_
     rw[hcr,hx];rfl
    have hls:=left_snoc D (if(k:Int)∈r then -1 else x)
    generalize idxI r k 0=w at*
    by_cases hkr:(k:Int)∈r
    ·rw[kH hkr]at him
     rw[if_pos hkr]at hnx hls
     rw[if_pos rfl,hDl]at hls
     have hlD:D.length≤10:=by omega
     have hlM:(zAH D).length≤10:=by omega
     generalize zAH D=M at*
     refine zF _ _ hs2 hst2 fun fr2=>?_
     cases D with
     |nil=>
      cases M with
      |nil=>
       refine k_seq (kQ (zA rfl (zA rfl (zP rfl ty22 rfl (List.length_map _) ?_))))
       refine kq rfl (zC (k_cT rfl (kH (by omega)) (zJ (k_seq (zH (kQ (kD sh25 rfl (zA rfl (zG rfl (q26) (.lcons _ _ _ _ (.refl _) (.lcons _ _ _ _ (.nil _ _ _) (.lrefl _))) ?_)))))))))
       refine zA rfl (kz rfl (kz rfl (zB rfl (zB rfl (zC ?_)))))
       refine zF [(1,.lst .ro 1 (zE t)),(2,U.box 0 0),(9,accI []),(10,accI []),(11,.int .i64 ↑k),(12,.lst .ro 1 (zE r)),(13,.int .i64 0)] ([SB.box (Bk.cs b)]) (.n7 rfl) rfl fun fr=>?_
       refine k_seq (kQ (zA rfl (ku rfl (zC (k_cF rfl rfl ?_)))))
       refine zJ (kQ (zA rfl (zA rfl (zG rfl (q39) (.lrefl _) (zFo rfl rfl rfl (zC (k_cT rfl (by assumption) (k_region (zA rfl (wW (es:=[_]) rfl ty22 ze3 cl3 rfl rfl rfl rfl rfl rfl rfl rfl ?_))))))))))
       refine wC rfl wF rfl rfl (by simp) (by simp) rfl (by simp) ?_
       refine zA rfl (zA rfl (wW (es:=[.int .i64 ↑k]) rfl ty22 ze3 cl3 rfl rfl rfl rfl rfl rfl rfl rfl ?_))
       refine wC rfl wF rfl rfl (by simp) (by simp) (by simp[yF,zg,oneU]) (by simp) ?_
       refine zB rfl (zB rfl (zC ?_))
       refine zF [(1,.lst .ro 1 (zE t)),(2,U.box 0 0),(9,U.lst Kd.own 1 [.int .i64 (-1:Int)]),(10,U.lst Kd.own 1 [.int .i64 ↑k]),(11,.int .i64 ↑k)] ([SB.box (Bk.cs b)]) (.n5 rfl) rfl fun fr=>?_
       refine k_region (zA rfl ?_)
       refine kB rfl (by unfold I64;omega) (zB rfl (zC ?_))
       exact⟨kk - 1,by omega,k+1,_,by omega,hnx,rfl,.cons rfl (.cons rfl (.cons rfl (.cons (by rw[hls];rfl) (.n1 rfl))))⟩
      |cons y M=>exact absurd hll (by simp)
     |cons z D=>
      cases M with
      |nil=>
       refine k_seq (kQ (zA rfl (zA rfl (zP rfl ty22 rfl (List.length_map _) ?_))))
       refine kq rfl (zC (k_cT rfl (kH (by omega)) (zJ (k_seq (zH (kQ (kD sh25 rfl (zA rfl (zG rfl (q26) (.lrefl _) (zA rfl (kz rfl (kz rfl (zB rfl (zB rfl (zC ?_)))))))))))))))
       refine k_seq (kQ (zA rfl (ku rfl (zC (k_cF rfl rfl ?_)))))
       refine zJ (kQ (zA rfl (zA rfl (zG rfl (q39) (.lrefl _) (zFo rfl rfl rfl (zC (k_cT rfl (by assumption) (k_region (zA rfl (wW (es:=[_]) rfl ty22 ze3 cl3 rfl rfl rfl rfl rfl rfl rfl rfl ?_))))))))))
       refine wX 9 rfl wF rfl rfl rfl (by simp) (by simp) rfl (by simp at hlD ⊢;omega) ?_
       refine zA rfl (zA rfl (wW (es:=[.int .i64 ↑k]) rfl ty22 ze3 cl3 rfl rfl rfl rfl rfl rfl rfl rfl ?_))
       refine wC rfl wF rfl rfl (by simp) (by simp) (by simp[yF,zg,oneU]) (by simp) ?_
       refine zB rfl (zB rfl (zC (k_region (zA rfl ?_))))
       refine kB rfl (by unfold I64;omega) (zB rfl (zC ?_))
       exact⟨kk - 1,by omega,k+1,_,by omega,hnx,rfl,.cons rfl (.cons rfl (.cons (by rw[wO];rfl) (.cons (by rw[hls];rfl) (.n1 rfl))))⟩
      |cons y M=>
       refine k_seq (kQ (zA rfl (zA rfl (zP rfl ty22 rfl (List.length_map _) ?_))))
       refine kq rfl (zC (k_cT rfl (kH (by omega)) (zJ (k_seq (zH (kQ (kD sh25 rfl (zA rfl (zG rfl (q26) (.lrefl _) (zA rfl (kz rfl (kz rfl (zB rfl (zB rfl (zC ?_)))))))))))))))
       refine k_seq (kQ (zA rfl (ku rfl (zC (k_cF rfl rfl ?_)))))
       refine zJ (kQ (zA rfl (zA rfl (zG rfl (q39) (.lrefl _) (zFo rfl rfl rfl (zC (k_cT rfl (by assumption) (k_region (zA rfl (wW (es:=[_]) rfl ty22 ze3 cl3 rfl rfl rfl rfl rfl rfl rfl rfl ?_))))))))))
       refine wX 9 rfl wF rfl rfl rfl (by simp) (by simp) rfl (by simp at hlD ⊢;omega) ?_
       refine zA rfl (zA rfl (wW (es:=[.int .i64 ↑k]) rfl ty22 ze3 cl3 rfl rfl rfl rfl rfl rfl rfl rfl ?_))
       refine wX 10 rfl wF rfl rfl rfl (by simp) (by simp) (by simp[yF,zg,oneU]) (by simp at hlM ⊢;omega) ?_
       refine zB rfl (zB rfl (zC (k_region (zA rfl ?_))))
       refine kB rfl (by unfold I64;omega) (zB rfl (zC ?_))
       exact⟨kk - 1,by omega,k+1,_,by omega,hnx,rfl,.cons rfl (.cons rfl (.cons (by rw[wO];rfl) (.cons (by rw[hls,wO];rfl) (.n1 rfl))))⟩
    ·rw[kI hkr]at him
     rw[if_neg hkr]at hnx hls
     rw[if_neg (by omega),List.append_nil]at hls
     have hlD:D.length≤10:=by omega
     rw[←hls]at hs2
     obtain⟨M,hM⟩:∃M,M=zAH (D++[x]):=⟨_,rfl⟩
     rw[←hM]at hs2
     refine zF _ _ hs2 hst2 fun fr2=>?_
     cases D with
     |nil=>
      refine k_seq (kQ (zA rfl (zA rfl (zP rfl ty22 rfl (List.length_map _) ?_))))
      refine kq rfl (zC (k_cT rfl (kH (by omega)) (zJ (k_seq (zH (kQ (kD sh25 rfl (zA rfl (zG rfl (q26) (.lcons _ _ _ _ (.refl _) (.lcons _ _ _ _ (.nil _ _ _) (.lrefl _))) ?_)))))))))
      refine zA rfl (kz rfl (kz rfl (zB rfl (zB rfl (zC ?_)))))
      refine zF [(1,.lst .ro 1 (zE t)),(2,U.box 0 0),(9,accI []),(10,accI M),(11,.int .i64 ↑k),(12,.lst .ro 1 (zE r)),(13,.int .i64 0)] ([SB.box (Bk.cs b)]) (.n7 rfl) rfl fun fr=>?_
      refine k_seq (kQ (zA rfl (ku rfl (zC (k_cF rfl rfl ?_)))))
      refine zJ (kQ (zA rfl (zA rfl (zG rfl (q39) (.lrefl _) (zFo rfl rfl rfl (zC (k_cF rfl (by assumption) (k_region (zA rfl (zA rfl (zA rfl (zX (u:=.int .i64 (x)) rfl ty22 rfl rfl (Int.natCast_nonneg _) (by simp[hx]) cl3 ?_))))))))))))
      refine kE sh3 rfl ?_
      refine wW (es:=[.int .i64 x]) rfl ty22 ze3 cl3 rfl rfl rfl rfl rfl rfl rfl rfl ?_
      refine wC rfl wF rfl rfl (by simp) (by simp) (by simp[yF,zg,oneU]) (by simp) ?_
      refine zB rfl (zC ?_)
      refine zF [(1,.lst .ro 1 (zE t)),(2,U.box 0 0),(9,U.lst Kd.own 1 [.int .i64 x]),(10,accI M),(11,.int .i64 ↑k)] ([SB.box (Bk.cs b)]) (.n5 rfl) rfl fun fr=>?_
      refine k_region (zA rfl ?_)
      refine kB rfl (by unfold I64;omega) (zB rfl (zC ?_))
      exact⟨kk - 1,by omega,k+1,_,by omega,hnx,rfl,.cons rfl (.cons rfl (.cons rfl (.cons (by rw[←hM];rfl) (.n1 rfl))))⟩
     |cons z D=>
      refine k_seq (kQ (zA rfl (zA rfl (zP rfl ty22 rfl (List.length_map _) ?_))))
      refine kq rfl (zC (k_cT rfl (kH (by omega)) (zJ (k_seq (zH (kQ (kD sh25 rfl (zA rfl (zG rfl (q26) (.lrefl _) (zA rfl (kz rfl (kz rfl (zB rfl (zB rfl (zC ?_)))))))))))))))
      refine k_seq (kQ (zA rfl (ku rfl (zC (k_cF rfl rfl ?_)))))
      refine zJ (kQ (zA rfl (zA rfl (zG rfl (q39) (.lrefl _) (zFo rfl rfl rfl (zC (k_cF rfl (by assumption) (k_region (zA rfl (zA rfl (zA rfl (zX (u:=.int .i64 (x)) rfl ty22 rfl rfl (Int.natCast_nonneg _) (by simp[hx]) cl3 ?_))))))))))))
      refine kE sh3 rfl ?_
      refine wW (es:=[.int .i64 x]) rfl ty22 ze3 cl3 rfl rfl rfl rfl rfl rfl rfl rfl ?_
      refine wX 9 rfl wF rfl rfl rfl (by simp) (by simp) (by simp[yF,zg,oneU]) (by simp at hlD ⊢;omega) ?_
      refine zB rfl (zC (k_region (zA rfl ?_)))
      refine kB rfl (by unfold I64;omega) (zB rfl (zC ?_))
      exact⟨kk - 1,by omega,k+1,_,by omega,hnx,rfl,.cons rfl (.cons rfl (.cons (by rw[wO];rfl) (.cons (by rw[←hM];rfl) (.n1 rfl))))⟩
   ·have hke:k=b.scenes.length:=by omega
    subst hke
    have hpr:playR b t=.tup [.lst .ro 1 (zE (zAH D)),.int .i64 0]:=by unfold playR;rw[hpd]
    rw[hpr]
    generalize zAH D=M at*
    refine zF _ _ hs2 hst2 fun fr2=>?_
    cases M with
    |nil=>
     refine k_seq (kQ (zA rfl (zA rfl (zP rfl ty22 rfl (List.length_map _) ?_))))
     refine kq rfl (zC (k_cF rfl (kI (by omega)) (zr (kQ (zA rfl (zB rfl (zB rfl (zC (zS ?_)))))))))
     refine⟨.inr rfl,_,.cons _ _ _ _ (.tmp 4) (.cons _ _ _ _ (.tmp 5) .nil),?_⟩
     exact .tup [.lst .full 0 [],.int .i64 0] _ (.lcons _ _ _ _ (.nil _ _ _) (.lrefl _))
    |cons y M=>
     refine k_seq (kQ (zA rfl (zA rfl (zP rfl ty22 rfl (List.length_map _) ?_))))
     refine kq rfl (zC (k_cF rfl (kI (by omega)) (zr (kQ (zA rfl (zB rfl (zB rfl (zC (zS ?_)))))))))
     refine⟨.inr rfl,_,.cons _ _ _ _ (.tmp 4) (.cons _ _ _ _ (.tmp 5) .nil),?_⟩
     exact .refl _
set_option maxHeartbeats 16000000 in
theorem ret4(hi:Off is)(b:Bk)(d t:List Int)(r24:RetP Tryd.prog is orc 24 [] (.bool true)):RetP Tryd.prog is orc 4 [b.u,.lst .ro 1 (zE d),.lst .ro 1 (zE t)] (.bool true):=by
 refine zp body4 pure4 (hi 4 (by decide)) rfl rfl (zCr (wU b 4) (zR 6 .ro (fun h=>by cases h) 1 d) (zR 6 .ro (fun h=>by cases h) 1 t)) (.inl (.bool _ _)) ?_
 have q23n:=ret23 (orc:=orc) hi [] (by decide)
 cases hv:zAs b with
 |false=>
  have q25:=ret25j (orc:=orc) hi hv d
  have q26:=ret26j (orc:=orc) hi hv d
  have q27:=ret27j (orc:=orc) hi hv t
  have q28:=ret28j (orc:=orc) hi hv t
  refine kQ (yB rfl rfl (zB rfl (zC ?_)))
  refine zF [(1,.lst .ro 1 (zE d)),(2,.lst .ro 1 (zE t)),(3,U.box 0 0)] ([SB.box (Bk.cs b)]) (.n3 rfl) rfl fun fr=>?_
  refine kQ (kD sh25 rfl (zA rfl (zG rfl (q25) (.lrefl _) (zA rfl (kz rfl (kz rfl (zB rfl (zB rfl (zC (kQ (kD sh25 rfl (zA rfl (zG rfl (q26) (.lrefl _) (zA rfl (kz rfl ?_)))))))))))))))
  refine kz rfl (zB rfl (zB rfl (zC ?_)))
  refine zF [(2,.lst .ro 1 (zE t)),(3,U.box 0 0),(7,.lst .full 0 []),(8,.int .i64 100),(9,.lst .full 0 []),(10,.int .i64 100)] ([SB.box (Bk.cs b)]) (.n6 rfl) rfl fun fr=>?_
  refine k_seq (kQ (zA rfl (zA rfl (zG rfl (q23n) (.lcons _ _ _ _ (.nil _ _ _) (.lcons _ _ _ _ (.nil _ _ _) (.lrefl _))) ?_))))
  refine zh rfl rfl (zA rfl (kf rfl (zA rfl (kf rfl (zA rfl (kf rfl (ku rfl (kF rfl ?_))))))))
  refine zC (k_cF rfl rfl ?_)
  refine zJ (kQ (kD sh25 rfl (zA rfl (zG rfl (q27) (.lrefl _) (zA rfl (kz rfl (kz rfl (zB rfl (zB rfl (zC ?_))))))))))
  refine zF [(2,.lst .ro 1 (zE t)),(3,U.box 0 0),(7,.lst .full 0 []),(8,.int .i64 100)] ([SB.box (Bk.cs b)]) (.n4 rfl) rfl fun fr=>?_
  refine kQ (kD sh25 rfl (zA rfl (zG rfl (q28) (.lrefl _) (zA rfl (kz rfl (kz rfl (zB rfl (zB rfl (zC (kQ (zA rfl (zA rfl (zG rfl (q23n) (.lcons _ _ _ _ (.nil _ _ _) (.lcons _ _ _ _ (.nil _ _ _) (.lrefl _))) ?_)))))))))))))
  refine zA rfl (kf rfl (zA rfl (kf rfl (zA rfl (kf rfl (kw rfl (kG rfl ?_)))))))
  refine zA rfl (kf rfl (zG rfl (r24) (.lrefl _) (kG rfl ?_)))
  refine zB rfl (zC (zS ?_))
  refine⟨.inr rfl,_,.cons _ _ _ _ (.tmp 6) .nil,?_⟩
  exact .refl _
 |true=>
  have h:=(zCY b).1 hv
  have hsn:=h.sn
  have q25:=ret25 (orc:=orc) hi h d
  have q26:=ret26 (orc:=orc) hi h d
  have q28:=ret28 (orc:=orc) hi h t
  have q27:RetP Tryd.prog is orc 27 [b.u,.lst .ro 1 (zE t)] (plyR b t):=by
   unfold plyR
   cases hp:zBw b t with
   |true=>rw[if_pos rfl];exact ret27 hi h hp
   |false=>rw[if_neg (by decide)];exact ret27n hi h hp
  have key:∀(P:List Int→Prop) (u:U),(∃(l:List Int) (e:Int),(u=.tup [.lst .full 0 [],.int .i64 e])∨(u=.tup [.lst .ro 1 (zE l),.int .i64 e]∧l.length≤64))→(∃e:Int,u=.tup [.lst .full 0 [],.int .i64 e])∨∃(l:List Int) (e:Int),u=.tup [.lst .ro 1 (zE l),.int .i64 e]∧l.length≤64:=fun _ u ⟨l,e,h⟩=>by
   rcases h with h|⟨h,h2⟩
   ·exact .inl ⟨e,h⟩
   ·exact .inr ⟨l,e,h,h2⟩
  have kc:(∃e:Int,cueR b d=.tup [.lst .full 0 [],.int .i64 e])∨∃(l:List Int) (e:Int),cueR b d=.tup [.lst .ro 1 (zE l),.int .i64 e]∧l.length≤64:=by
   unfold cueR
   cases hd:wZ b d with
   |false=>exact .inl ⟨101,by rw[if_neg (by decide)]⟩
   |true=>
    rw[if_pos rfl]
    cases hl:lgt b d with
    |none=>exact .inl ⟨4,by unfold cueO;rw[hl];rfl⟩
    |some m=>
     have hm:=(lgt_ok hl).2
     exact .inr ⟨m.drop (zAH d).length,0,by unfold cueO;rw[hl];rfl,by rw[List.length_drop];omega⟩
  have kp:(∃e:Int,plyR b t=.tup [.lst .full 0 [],.int .i64 e])∨∃(l:List Int) (e:Int),plyR b t=.tup [.lst .ro 1 (zE l),.int .i64 e]∧l.length≤64:=by
   unfold plyR playR
   cases hd:zBw b t with
   |false=>exact .inl ⟨101,by rw[if_neg (by decide)]⟩
   |true=>
    rw[if_pos rfl]
    cases hl:zAw b t b.scenes.length with
    |none=>exact .inl ⟨4,rfl⟩
    |some D=>
     have h1:=playD_len _ _ hl
     have h2:(zAH D).length≤D.length:=zCA _ _
     exact .inr ⟨zAH D,0,rfl,by omega⟩
  clear key
  generalize cueR b d=uc at*
  generalize plyR b t=up at*
  rcases kc with ⟨e1,rfl⟩|⟨l1,e1,rfl,hl1⟩
  ·have kee:decide (e1≠e1)=false:=by simp
   rcases kp with ⟨e2,rfl⟩|⟨l2,e2,rfl,hl2⟩
   ·have kff:decide (e2=e2)=true:=by simp
    refine kQ (yB rfl rfl (zB rfl (zC ?_)))
    refine zF [(1,.lst .ro 1 (zE d)),(2,.lst .ro 1 (zE t)),(3,U.box 0 0)] ([SB.box (Bk.cs b)]) (.n3 rfl) rfl fun fr=>?_
    refine kQ (kD sh25 rfl (zA rfl (zG rfl (q25) (.lrefl _) (zA rfl (kz rfl (kz rfl (zB rfl (zB rfl (zC (kQ (kD sh25 rfl (zA rfl (zG rfl (q26) (.lrefl _) (zA rfl (kz rfl ?_)))))))))))))))
    refine kz rfl (zB rfl (zB rfl (zC ?_)))
    refine zF [(2,.lst .ro 1 (zE t)),(3,U.box 0 0),(7,.lst .full 0 []),(8,.int .i64 e1),(9,.lst .full 0 []),(10,.int .i64 e1)] ([SB.box (Bk.cs b)]) (.n6 rfl) rfl fun fr=>?_
    refine k_seq (kQ (zA rfl (zA rfl (zG rfl (q23n) (.lcons _ _ _ _ (.nil _ _ _) (.lcons _ _ _ _ (.nil _ _ _) (.lrefl _))) ?_))))
    refine zh rfl rfl (zA rfl (kf rfl (zA rfl (kf rfl (zA rfl (kf rfl (ku rfl (kF rfl ?_))))))))
    refine zC (k_cF rfl (by assumption) (zJ (kQ (kD sh25 rfl (zA rfl (zG rfl (q27) (.lrefl _) (zA rfl (kz rfl (kz rfl (zB rfl (zB rfl (zC ?_))))))))))))
    refine zF [(2,.lst .ro 1 (zE t)),(3,U.box 0 0),(7,.lst .full 0 []),(8,.int .i64 e2)] ([SB.box (Bk.cs b)]) (.n4 rfl) rfl fun fr=>?_
    refine kQ (kD sh25 rfl (zA rfl (zG rfl (q28) (.lrefl _) (zA rfl (kz rfl (kz rfl (zB rfl (zB rfl (zC (kQ (zA rfl (zA rfl (zG rfl (q23n) (.lcons _ _ _ _ (.nil _ _ _) (.lcons _ _ _ _ (.nil _ _ _) (.lrefl _))) ?_)))))))))))))
    refine zA rfl (kf rfl (zA rfl (kf rfl (zA rfl (kf rfl (kw rfl (kG rfl ?_)))))))
    refine zA rfl (kh rfl (by assumption) (zG rfl (r24) (.lrefl _) (zc rfl rfl (by assumption) ?_)))
    refine zB rfl (zC (zS ?_))
    refine⟨.inr rfl,_,.cons _ _ _ _ (.tmp 6) .nil,?_⟩
    exact .refl _
   ·have kff:decide (e2=e2)=true:=by simp
    have q23:=ret23 (orc:=orc) hi l2 (by omega)
    refine kQ (yB rfl rfl (zB rfl (zC ?_)))
    refine zF [(1,.lst .ro 1 (zE d)),(2,.lst .ro 1 (zE t)),(3,U.box 0 0)] ([SB.box (Bk.cs b)]) (.n3 rfl) rfl fun fr=>?_
    refine kQ (kD sh25 rfl (zA rfl (zG rfl (q25) (.lrefl _) (zA rfl (kz rfl (kz rfl (zB rfl (zB rfl (zC (kQ (kD sh25 rfl (zA rfl (zG rfl (q26) (.lrefl _) (zA rfl (kz rfl ?_)))))))))))))))
    refine kz rfl (zB rfl (zB rfl (zC ?_)))
    refine zF [(2,.lst .ro 1 (zE t)),(3,U.box 0 0),(7,.lst .full 0 []),(8,.int .i64 e1),(9,.lst .full 0 []),(10,.int .i64 e1)] ([SB.box (Bk.cs b)]) (.n6 rfl) rfl fun fr=>?_
    refine k_seq (kQ (zA rfl (zA rfl (zG rfl (q23n) (.lcons _ _ _ _ (.nil _ _ _) (.lcons _ _ _ _ (.nil _ _ _) (.lrefl _))) ?_))))
    refine zh rfl rfl (zA rfl (kf rfl (zA rfl (kf rfl (zA rfl (kf rfl (ku rfl (kF rfl ?_))))))))
    refine zC (k_cF rfl (by assumption) (zJ (kQ (kD sh25 rfl (zA rfl (zG rfl (q27) (.lrefl _) (zA rfl (kz rfl (kz rfl (zB rfl (zB rfl (zC (kQ (kD sh25 rfl (zA rfl ?_)))))))))))))))
    refine zG rfl (q28) (.lrefl _) (zA rfl (kz rfl (kz rfl (zB rfl (zB rfl (zC ?_))))))
    refine zF [(7,.lst .ro 1 (zE l2)),(8,.int .i64 e2),(9,.lst .ro 1 (zE l2)),(10,.int .i64 e2)] ([SB.box (Bk.cs b)]) (.n4 rfl) rfl fun fr=>?_
    refine kQ (zA rfl (zA rfl (zG rfl (q23) (.lrefl _) (zA rfl (kf rfl (zA rfl (kf rfl (zA rfl (kf rfl (kw rfl (kG rfl ?_)))))))))))
    refine zA rfl (kh rfl (by assumption) (zG rfl (r24) (.lrefl _) (zc rfl rfl (by assumption) ?_)))
    refine zB rfl (zC (zS ?_))
    refine⟨.inr rfl,_,.cons _ _ _ _ (.tmp 6) .nil,?_⟩
    exact .refl _
  ·have kee:decide (e1≠e1)=false:=by simp
   have q23b:=ret23 (orc:=orc) hi l1 (by omega)
   rcases kp with ⟨e2,rfl⟩|⟨l2,e2,rfl,hl2⟩
   ·have kff:decide (e2=e2)=true:=by simp
    refine kQ (yB rfl rfl (zB rfl (zC ?_)))
    refine zF [(1,.lst .ro 1 (zE d)),(2,.lst .ro 1 (zE t)),(3,U.box 0 0)] ([SB.box (Bk.cs b)]) (.n3 rfl) rfl fun fr=>?_
    refine kQ (kD sh25 rfl (zA rfl (zG rfl (q25) (.lrefl _) (zA rfl (kz rfl (kz rfl (zB rfl (zB rfl (zC (kQ (kD sh25 rfl (zA rfl (zG rfl (q26) (.lrefl _) (zA rfl (kz rfl ?_)))))))))))))))
    refine kz rfl (zB rfl (zB rfl (zC ?_)))
    refine zF [(2,.lst .ro 1 (zE t)),(3,U.box 0 0),(7,.lst .ro 1 (zE l1)),(8,.int .i64 e1),(9,.lst .ro 1 (zE l1)),(10,.int .i64 e1)] ([SB.box (Bk.cs b)]) (.n6 rfl) rfl fun fr=>?_
    refine k_seq (kQ (zA rfl (zA rfl (zG rfl (q23b) (.lrefl _) (zh rfl rfl (zA rfl (kf rfl (zA rfl (kf rfl (zA rfl (kf rfl (ku rfl (kF rfl ?_)))))))))))))
    refine zC (k_cF rfl (by assumption) (zJ (kQ (kD sh25 rfl (zA rfl (zG rfl (q27) (.lrefl _) (zA rfl (kz rfl (kz rfl (zB rfl (zB rfl (zC (kQ (kD sh25 rfl (zA rfl ?_)))))))))))))))
    refine zG rfl (q28) (.lrefl _) (zA rfl (kz rfl (kz rfl (zB rfl (zB rfl (zC ?_))))))
    refine zF [(7,.lst .full 0 []),(8,.int .i64 e2),(9,.lst .full 0 []),(10,.int .i64 e2)] ([SB.box (Bk.cs b)]) (.n4 rfl) rfl fun fr=>?_
    refine kQ (zA rfl (zA rfl (zG rfl (q23n) (.lcons _ _ _ _ (.nil _ _ _) (.lcons _ _ _ _ (.nil _ _ _) (.lrefl _))) ?_)))
    refine zA rfl (kf rfl (zA rfl (kf rfl (zA rfl (kf rfl (kw rfl (kG rfl ?_)))))))
    refine zA rfl (kh rfl (by assumption) (zG rfl (r24) (.lrefl _) (zc rfl rfl (by assumption) ?_)))
    refine zB rfl (zC (zS ?_))
    refine⟨.inr rfl,_,.cons _ _ _ _ (.tmp 6) .nil,?_⟩
    exact .refl _
   ·have kff:decide (e2=e2)=true:=by simp
    have q23:=ret23 (orc:=orc) hi l2 (by omega)
    refine kQ (yB rfl rfl (zB rfl (zC ?_)))
    refine zF [(1,.lst .ro 1 (zE d)),(2,.lst .ro 1 (zE t)),(3,U.box 0 0)] ([SB.box (Bk.cs b)]) (.n3 rfl) rfl fun fr=>?_
    refine kQ (kD sh25 rfl (zA rfl (zG rfl (q25) (.lrefl _) (zA rfl (kz rfl (kz rfl (zB rfl (zB rfl (zC (kQ (kD sh25 rfl (zA rfl (zG rfl (q26) (.lrefl _) (zA rfl (kz rfl ?_)))))))))))))))
    refine kz rfl (zB rfl (zB rfl (zC ?_)))
    refine zF [(2,.lst .ro 1 (zE t)),(3,U.box 0 0),(7,.lst .ro 1 (zE l1)),(8,.int .i64 e1),(9,.lst .ro 1 (zE l1)),(10,.int .i64 e1)] ([SB.box (Bk.cs b)]) (.n6 rfl) rfl fun fr=>?_
    refine k_seq (kQ (zA rfl (zA rfl (zG rfl (q23b) (.lrefl _) (zh rfl rfl (zA rfl (kf rfl (zA rfl (kf rfl (zA rfl (kf rfl (ku rfl (kF rfl ?_)))))))))))))
    refine zC (k_cF rfl (by assumption) (zJ (kQ (kD sh25 rfl (zA rfl (zG rfl (q27) (.lrefl _) (zA rfl (kz rfl (kz rfl (zB rfl (zB rfl (zC (kQ (kD sh25 rfl (zA rfl ?_)))))))))))))))
    refine zG rfl (q28) (.lrefl _) (zA rfl (kz rfl (kz rfl (zB rfl (zB rfl (zC ?_))))))
    refine zF [(7,.lst .ro 1 (zE l2)),(8,.int .i64 e2),(9,.lst .ro 1 (zE l2)),(10,.int .i64 e2)] ([SB.box (Bk.cs b)]) (.n4 rfl) rfl fun fr=>?_
    refine kQ (zA rfl (zA rfl (zG rfl (q23) (.lrefl _) (zA rfl (kf rfl (zA rfl (kf rfl (zA rfl (kf rfl (kw rfl (kG rfl ?_)))))))))))
    refine zA rfl (kh rfl (by assumption) (zG rfl (r24) (.lrefl _) (zc rfl rfl (by assumption) ?_)))
    refine zB rfl (zC (zS ?_))
    refine⟨.inr rfl,_,.cons _ _ _ _ (.tmp 6) .nil,?_⟩
    exact .refl _
end
section
variable {is:FuncId→Bool}{orc:Known}
theorem ret4_all(hi:Off is)(r24:RetP Tryd.prog is orc 24 [] (.bool true)):∀us,ShpAs Tryd.prog [25,22,22] us→RetP Tryd.prog is orc 4 us (.bool true):=by
 intro us h
 cases h with
 |cons _ _ u us h1 h=>cases h with
 |cons _ _ v us h2 h=>cases h with
 |cons _ _ w us h3 h=>
 cases h
 obtain⟨fs,hu⟩:=und25
 unfold ShpA at h1 h2 h3
 rw[hu]at h1
 rw[u22]at h2 h3
 obtain⟨b,rfl⟩:=arg_bk h1
 obtain⟨l,rfl⟩:=arg_ints h2
 obtain⟨m,rfl⟩:=arg_ints h3
 exact ret4 hi b l m r24
end
end Go.Proofs.YtlknfhjfkcboiaaDoor.night
