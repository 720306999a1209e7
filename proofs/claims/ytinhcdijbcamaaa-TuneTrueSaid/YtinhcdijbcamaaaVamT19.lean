import Derived.Test.YtinhcdijbcamaaaVamT18
set_option linter.unusedVariables false
set_option linter.unusedSimpArgs false
set_option linter.constructorNameAsVariable false
namespace Go.Proofs.Ytinhcdijbcamaaa.tuneTrue
open Vam
section
variable {is:FuncId→Bool}{orc:Known}
noncomputable def b96:Code:=(Try.f96.body).getD .skip
theorem body96:bodyOf Try.prog 96=some (11,b96,[.cell 4 84]):=by kernel_rfl
theorem pure96:pureFn Try.prog 96=true:=by kernel_rfl
noncomputable def b70:Code:=(Try.f70.body).getD .skip
theorem body70:bodyOf Try.prog 70=some (46,b70,[.cell 2 26]):=by kernel_rfl
theorem pure70:pureFn Try.prog 70=true:=by kernel_rfl
noncomputable def b28:Code:=(Try.f28.body).getD .skip
theorem body28:bodyOf Try.prog 28=some (29,b28,[.cell 2 26,.tmp 3]):=by kernel_rfl
theorem pure28:pureFn Try.prog 28=true:=by kernel_rfl
variable {t:Ts}{J:List Jn}{v x y a b c d:Int}{st Y Z:List SB}
def zFR(t:Ts)(a b:Int):Ts:={t with lo:=a,hi:=b}
theorem beat_sh(h:Sh t)(a b:Int):Sh (zFR t a b):=⟨h.ns,h.np,h.sc⟩
theorem beat_ac(t:Ts)(a b:Int):EJ (zc (zFR t a b))=EJ (zc t):=by
 unfold EJ zc
 rw[List.map_append,List.map_append,List.map_map,List.map_map]
 rfl
theorem zDm{j:Jn}:j∈zc (zFR t a b)↔j∈zAT t.scales∨∃q∈t.pairs,j=⟨2,q.a,q.b,a,b⟩:=by
 unfold zc
 rw[List.mem_append,List.mem_map]
 exact⟨fun h=>h.imp_right fun⟨q,h1,h2⟩=>⟨q,h1,h2.symm⟩,fun h=>h.imp_right fun⟨q,h1,h2⟩=>⟨q,h1,h2.symm⟩⟩
theorem join_mem{j:Jn}:j∈zc t↔j∈zAT t.scales∨∃q∈t.pairs,j=⟨2,q.a,q.b,t.lo,t.hi⟩:=zDm (t:=t) (a:=t.lo) (b:=t.hi)
theorem beat_sok(h:TOk t)(h1:0≤a)(h2:a≤b+1)(h3:b≤60):SOk (zFR t a b) (zc (zFR t a b)):=by
 refine⟨h.n1,h.n8,h.hd,fun j hj=>?_,fun j hj=>?_,by have:=zEd (beat_sh h.sh a b);omega,by rw[beat_ac];exact h.ac⟩
 ·rcases zDm.1 hj with hj|⟨q,hq,rfl⟩
  ·exact h.sok.jv j (List.mem_append_left _ hj)
  ·exact .inr ⟨.inl rfl,h1,h2,h3⟩
 ·rcases zDm.1 hj with hj|⟨q,hq,rfl⟩
  ·exact h.sok.jr j (List.mem_append_left _ hj)
  ·exact(h.pr q hq).2
def BandE(t:Ts)(a b:Int):Prop:=∃p:Int→Int,(∀v,Key t v→InH t v (p v))∧(∀j∈zAT t.scales,Fit j (p j.one) (p j.two))∧∀q∈t.pairs,a≤p q.b - p q.a∧p q.b - p q.a≤b
theorem fit_pair{q:Two}{p:Int→Int}:Fit ⟨2,q.a,q.b,a,b⟩ (p q.a) (p q.b)↔a≤p q.b - p q.a∧p q.b - p q.a≤b:=by
 unfold Fit Jn.alo Jn.ahi
 rw[if_neg (show ¬ (2:Int)=0 by decide),if_neg (show ¬ (2:Int)=1 by decide),if_pos rfl,if_neg (show ¬ (2:Int)=0 by decide),if_neg (show ¬ (2:Int)=1 by decide),if_pos rfl]
 simp only
 omega
theorem bandE_iff:TunE (zFR t a b) (zc (zFR t a b))↔BandE t a b:=by
 constructor
 ·rintro⟨p,h1,h2⟩
  exact⟨p,fun v hv=>h1 v hv.1 hv.2,fun j hj=>h2 j (zDm.2 (.inl hj)),fun q hq=>fit_pair.1 (h2 _ (zDm.2 (.inr ⟨q,hq,rfl⟩)))⟩
 ·rintro⟨p,h1,h2,h3⟩
  refine⟨p,fun v h4 h5=>h1 v ⟨h4,h5⟩,fun j hj=>?_⟩
  rcases zDm.1 hj with hj|⟨q,hq,rfl⟩
  ·exact h2 j hj
  ·exact fit_pair.2 (h3 q hq)
theorem bandE_own:TunE t (zc t)↔BandE t t.lo t.hi:=bandE_iff (t:=t) (a:=t.lo) (b:=t.hi)
theorem BandE.mono(h:BandE t a b)(h1:c≤a)(h2:b≤d):BandE t c d:=by
 obtain⟨p,q1,q2,q3⟩:=h
 exact⟨p,q1,q2,fun q hq=>by have:=q3 q hq;omega⟩
theorem BandE.le(h:BandE t a b)(hp:t.pairs≠[]):a≤b:=by
 obtain⟨p,q1,q2,q3⟩:=h
 cases hq:t.pairs with
 |nil=>exact absurd hq hp
 |cons q l=>have:=q3 q (by rw[hq];exact List.mem_cons_self);omega
structure EvenS(t:Ts)(a b:Int):Prop where
 lo:t.lo≤a
 hi:b≤t.hi
 tun:BandE t a b
 min:∀c d,t.lo≤c→d≤t.hi→BandE t c d→b - a<d - c∨b - a=d - c∧a≤c
theorem EvenS.uniq(h:EvenS t a b)(k:EvenS t c d):a=c∧b=d:=by
 have h1:=h.min c d k.lo k.hi k.tun
 have h2:=k.min a b h.lo h.hi h.tun
 omega
open Classical in
noncomputable def evA(t:Ts):Int×Int:=if h:∃q:Int×Int,EvenS t q.1 q.2 then Classical.choose h else(0,0)
theorem evA_eq(h:EvenS t a b):evA t=(a,b):=by
 have hx:∃q:Int×Int,EvenS t q.1 q.2:=⟨(a,b),h⟩
 unfold evA
 rw[dif_pos hx]
 have:=(Classical.choose_spec hx).uniq h
 exact Prod.ext this.1 this.2
set_option maxHeartbeats 8000000 in
theorem ret96(hi:Off is)(h:Sh t)(a b:Int):RetP Try.prog is orc 96 [.agg (setC t J),yz a b] (.agg (setC (zFR t a b) (zc (zFR t a b)))):=by
 have q72:RetP Try.prog is orc 72 [.agg (setC t J |>.take 3 |>.append [.int .i64 a,.int .i64 b])] (.agg (setC (zFR t a b) (zc (zFR t a b)))):=ret72 hi (beat_sh h a b)
 refine yE body96 pure96 (hi 96 (by decide)) rfl rfl (yZ (zBJ t J 4) (yV a b 6)) (.inl (zBJ _ _ 4)) ?_
 refine kQ (yA rfl rfl (yA rfl rfl (zT rfl ze84 ?_)))
 refine zA ?_
 refine zK [(2,U.box 0 0),(3,U.box 1 0),(4,U.box 2 0)] ([SB.box [.lst .ro 2 (zV t.heard),.lst .ro 2 (yn t.scales),.lst .ro 2 (zV t.pairs),.int .i64 t.lo,.int .i64 t.hi,.lst .ro 5 (jnsU J)],SB.box [.int .i64 a,.int .i64 b],SB.box [.lst .full 0 [],.lst .full 0 [],.lst .full 0 [],.int .i64 0,.int .i64 0,.lst .full 0 []]]) (.cons rfl (.cons rfl (.cons rfl (.nil rfl)))) rfl fun fr=>?_
 refine kQ (zH rfl rfl rfl sh26 rfl (zE rfl rfl wB (zE rfl rfl zAD (zJ rfl rfl sh26 rfl rfl rfl rfl rfl ?_))))
 refine zA (kQ (zE rfl rfl wB (zH rfl rfl rfl sh28 rfl (zP rfl (q72) (.lrefl _) (zJ rfl rfl sh84 rfl rfl rfl rfl rfl ?_)))))
 refine zA (zb ?_)
 refine⟨.inr rfl,_,.cons _ _ _ _ (.cellN 4 84 _ _ _ _ rfl rfl sh84 rfl) .nil,?_⟩
 exact .refl _
structure EvI(t:Ts)(c d L H:Int):Prop where
 l0:t.lo≤L
 lh:L≤H+1
 h1:H≤t.hi+1
 lo:t.lo≤c
 hi:d≤t.hi
 cl:c≤L
 tun:BandE t c d
 min:∀lo hi,t.lo≤lo→lo<L→hi≤t.hi→BandE t lo hi→d - c<hi - lo∨d - c=hi - lo∧c≤lo
 nar:∀hi,hi<H→ ¬ BandE t L hi
set_option maxHeartbeats 8000000 in
theorem ret70(hi:Off is)(hok:TOk t)(hp:t.pairs≠[])(ht:TunE t (zc t)):RetP Try.prog is orc 70 [.agg (setC t (zc t))] (yz (evA t).1 (evA t).2):=by
 refine yE body70 pure70 (hi 70 (by decide)) rfl rfl (zAh (zBJ t _ 4)) (.inl (yV _ _ 6)) ?_
 have q92:=ret92 (orc:=orc) hi t.lo
 have hbt:=hok.bt
 refine kQ (yA rfl rfl (zT rfl ze26 ?_))
 refine zA ?_
 refine zK [(1,U.box 0 0),(2,U.box 1 0)] ([SB.box [.lst .ro 2 (zV t.heard),.lst .ro 2 (yn t.scales),.lst .ro 2 (zV t.pairs),.int .i64 t.lo,.int .i64 t.hi,.lst .ro 5 (jnsU (zc t))],SB.box [.int .i64 0,.int .i64 0]]) (.cons rfl (.cons rfl (.nil rfl))) rfl fun fr=>?_
 refine k_seq (yr [.plain,.plain,.read true,.plain,.plain,.plain,.read true,.read false,.pre,.pre,.plain,.plain] (by kernel_rfl) (by kernel_rfl) (by kernel_rfl) ?_)
 refine zD (zE rfl rfl wB (zA rfl)) ?_
 refine zD (zE rfl rfl zAD (zA rfl)) ?_
 refine zS rfl (zH rfl rfl rfl sh26 rfl (zA rfl)) ?_
 refine zD (zE rfl rfl wB (zA rfl)) ?_
 refine zD (zE rfl rfl zAD (zA rfl)) ?_
 refine zD (zE rfl rfl zk (zA rfl)) ?_
 refine zS rfl (zF rfl rfl rfl sh3 rfl (zA rfl)) (wF rfl (q92) (zBG _ _) (.lrefl _) ?_)
 refine d_pre rfl ze26 ?_
 refine d_pre rfl ze26 ?_
 refine zD (zJ rfl rfl sh26 rfl rfl rfl rfl rfl (zA rfl)) ?_
 refine zD (zJ rfl rfl sh26 rfl rfl rfl rfl rfl (zA rfl)) ?_
 refine wc ?_
 refine zK [(1,U.box 0 0),(2,U.box 1 0),(3,U.box 2 0),(4,U.box 3 0)] ([SB.box [.lst .ro 2 (zV t.heard),.lst .ro 2 (yn t.scales),.lst .ro 2 (zV t.pairs),.int .i64 t.lo,.int .i64 t.hi,.lst .ro 5 (jnsU (zc t))],SB.box [.int .i64 0,.int .i64 0],SB.box [.int .i64 t.lo,.int .i64 t.hi],SB.box [.int .i64 t.lo,.int .i64 t.lo]]) (.c4 rfl rfl rfl rfl (.nil rfl)) rfl fun fr=>?_
 refine k_seq (zN ?_)
 refine yg (fun kk s2=>∃c d L H:Int,((kk:Nat):Int)=(t.hi+1 - H)+(t.hi+3 - L)∧EvI t c d L H∧s2.st=[.box (setC t (zc t)),.box [.int .i64 0,.int .i64 0],.box [.int .i64 c,.int .i64 d],.box [.int .i64 L,.int .i64 H]]∧Holds s2 [(1,.box 0 0),(2,.box 1 0),(3,.box 2 0),(4,.box 3 0)]) (fun kk s2 hI=>?_) ((t.hi+1 - t.lo)+(t.hi+3 - t.lo)).toNat _ ⟨t.lo,t.hi,t.lo,t.lo,by omega,⟨Int.le_refl _,by omega,by omega,Int.le_refl _,Int.le_refl _,Int.le_refl _,bandE_own.1 ht,fun lo hi h1 h2=>by omega,fun hi h1 h2=>by have:=h2.le hp;omega⟩,rfl,.c4 rfl rfl rfl rfl (.nil rfl)⟩
 obtain⟨c,d,L,H,hk,hE,hst2,hs2⟩:=hI
 have e0:=hE.l0
 have e1:=hE.lh
 have e2:=hE.h1
 have e3:=hE.lo
 have e4:=hE.hi
 have e5:=hE.cl
 have e6:=hE.tun.le hp
 refine zK _ _ hs2 hst2 fun fr2=>?_
 by_cases hH:H≤t.hi
 ·have hso:=beat_sok hok (a:=L) (b:=H) (by omega) (by omega) (by omega)
  have q96:=ret96 (orc:=orc) (J:=zc t) hi hok.sh L H
  have q65:=ret65 (orc:=orc) hi hso
  have hiff:=(zBh hso).trans bandE_iff
  cases hc:tunB (zFR t L H) (zc (zFR t L H))with
  |false=>
   rw[hc]at q65
   have hno: ¬ BandE t L H:=fun h=>by rw[hiff.2 h]at hc;cases hc
   refine k_seq (kQ (zE rfl rfl zp (zF rfl rfl rfl sh3 rfl (zE rfl rfl wB (zE rfl rfl zAD (zE rfl rfl zp (zF rfl rfl rfl sh3 rfl (wq rfl rfl rfl ?_))))))))
   refine zA (k_cT rfl (decide_eq_true (by omega)) (zQ (zN (k_seq (kQ (zH rfl rfl rfl sh84 rfl (zH rfl rfl rfl sh26 rfl (zP rfl (q96) (.lrefl _) ?_))))))))
   refine zP rfl (q65) (.lrefl _) (wS rfl rfl (zA ?_))
   refine zK [(1,U.box 0 0),(2,U.box 1 0),(3,U.box 2 0),(4,U.box 3 0),(24,U.bool !Bool.false)] ([SB.box (setC t (zc t)),SB.box [.int .i64 0,.int .i64 0],SB.box [.int .i64 c,.int .i64 d],SB.box [.int .i64 L,.int .i64 H]]) (.c4 rfl rfl rfl rfl (.cons rfl (.nil rfl))) rfl fun fr=>?_
   refine k_cT rfl rfl ?_
   refine kQ (zE rfl rfl zp (zF rfl rfl rfl sh3 rfl ?_))
   refine yT rfl rfl rfl (by unfold I64;omega) (zE rfl rfl zp (yU rfl rfl sh3 rfl rfl (zA ?_)))
   refine zK [(1,U.box 0 0),(2,U.box 1 0),(3,U.box 2 0),(4,U.box 3 0)] ([SB.box (setC t (zc t)),SB.box [.int .i64 0,.int .i64 0],SB.box [.int .i64 c,.int .i64 d],SB.box [.int .i64 L,.int .i64 (H+(1:Int))]]) (.c4 rfl rfl rfl rfl (.nil rfl)) rfl fun fr=>?_
   refine yO ?_
   refine⟨kk - 1,by omega,c,d,L,H+1,by omega,⟨e0,by omega,by omega,e3,e4,e5,hE.tun,hE.min,fun hi h1 h2=>?_⟩,rfl,.c4 rfl rfl rfl rfl (.nil rfl)⟩
   by_cases e:hi=H
   ·subst e;exact hno h2
   ·exact hE.nar hi (by omega) h2
  |true=>
   rw[hc]at q65
   have hyes:BandE t L H:=hiff.1 hc
   have hLH:=hyes.le hp
   have hnar:∀hi,hi<H→ ¬ BandE t (L+1) hi:=fun hi h1 h2=>hE.nar hi h1 (h2.mono (by omega) (Int.le_refl _))
   by_cases hw:H - L<d - c
   ·refine k_seq ?_
    refine kQ (zE rfl rfl zp (zF rfl rfl rfl sh3 rfl (zE rfl rfl wB (zE rfl rfl zAD (zE rfl rfl zp (zF rfl rfl rfl sh3 rfl (wq rfl rfl rfl (zA ?_))))))))
    refine k_cT rfl (decide_eq_true (by omega)) (zQ (zN (k_seq (kQ (zH rfl rfl rfl sh84 rfl (zH rfl rfl rfl sh26 rfl (zP rfl (q96) (.lrefl _) (zP rfl (q65) (.lrefl _) ?_))))))))
    refine wS rfl rfl (zA ?_)
    refine zK [(1,U.box 0 0),(2,U.box 1 0),(3,U.box 2 0),(4,U.box 3 0),(24,U.bool !Bool.true)] ([SB.box (setC t (zc t)),SB.box [.int .i64 0,.int .i64 0],SB.box [.int .i64 c,.int .i64 d],SB.box [.int .i64 L,.int .i64 H]]) (.c4 rfl rfl rfl rfl (.cons rfl (.nil rfl))) rfl fun fr=>?_
    refine k_cF rfl rfl ?_
    refine zQ (k_seq (kQ (zE rfl rfl zp (zF rfl rfl rfl sh3 rfl (zE rfl rfl zk (zF rfl rfl rfl sh3 rfl ?_))))))
    refine zAW rfl rfl rfl (by unfold I64;omega) (zE rfl rfl zp (zF rfl rfl rfl sh3 rfl (zE rfl rfl zk (zF rfl rfl rfl sh3 rfl ?_))))
    refine zAW rfl rfl rfl (by unfold I64;omega) (zf rfl rfl rfl (zA (k_cT rfl (decide_eq_true (by omega)) (k_region (zH rfl rfl rfl sh26 rfl (zJ rfl rfl sh26 rfl rfl rfl rfl rfl ?_))))))
    refine zA ?_
    refine zK [(1,U.box 0 0),(2,U.box 1 0),(3,U.box 2 0),(4,U.box 3 0)] ([SB.box (setC t (zc t)),SB.box [.int .i64 0,.int .i64 0],SB.box [.int .i64 L,.int .i64 H],SB.box [.int .i64 L,.int .i64 H]]) (.c4 rfl rfl rfl rfl (.nil rfl)) rfl fun fr=>?_
    refine k_region (zE rfl rfl zk (zF rfl rfl rfl sh3 rfl ?_))
    refine yT rfl rfl rfl (by unfold I64;omega) (zE rfl rfl zk (yU rfl rfl sh3 rfl rfl (zA ?_)))
    refine⟨kk - 1,by omega,L,H,L+1,H,by omega,⟨by omega,by omega,e2,e0,hH,by omega,hyes,fun lo hi h1 h2 h3 h4=>?_,hnar⟩,rfl,.c4 rfl rfl rfl rfl (.nil rfl)⟩
    by_cases e:lo=L
    ·subst e
     have: ¬ hi<H:=fun h=>hE.nar hi h h4
     omega
    ·have:=hE.min lo hi h1 (by omega) h3 h4
     omega
   ·refine k_seq ?_
    refine kQ (zE rfl rfl zp (zF rfl rfl rfl sh3 rfl (zE rfl rfl wB (zE rfl rfl zAD (zE rfl rfl zp (zF rfl rfl rfl sh3 rfl (wq rfl rfl rfl (zA ?_))))))))
    refine k_cT rfl (decide_eq_true (by omega)) (zQ (zN (k_seq (kQ (zH rfl rfl rfl sh84 rfl (zH rfl rfl rfl sh26 rfl (zP rfl (q96) (.lrefl _) (zP rfl (q65) (.lrefl _) ?_))))))))
    refine wS rfl rfl (zA ?_)
    refine zK [(1,U.box 0 0),(2,U.box 1 0),(3,U.box 2 0),(4,U.box 3 0),(24,U.bool !Bool.true)] ([SB.box (setC t (zc t)),SB.box [.int .i64 0,.int .i64 0],SB.box [.int .i64 c,.int .i64 d],SB.box [.int .i64 L,.int .i64 H]]) (.c4 rfl rfl rfl rfl (.cons rfl (.nil rfl))) rfl fun fr=>?_
    refine k_cF rfl rfl ?_
    refine zQ (k_seq (kQ (zE rfl rfl zp (zF rfl rfl rfl sh3 rfl (zE rfl rfl zk (zF rfl rfl rfl sh3 rfl ?_))))))
    refine zAW rfl rfl rfl (by unfold I64;omega) (zE rfl rfl zp (zF rfl rfl rfl sh3 rfl (zE rfl rfl zk (zF rfl rfl rfl sh3 rfl ?_))))
    refine zAW rfl rfl rfl (by unfold I64;omega) (zf rfl rfl rfl (zA (k_cF rfl (decide_eq_false (by omega)) (zQ (k_region (zE rfl rfl zk (zF rfl rfl rfl sh3 rfl ?_)))))))
    refine yT rfl rfl rfl (by unfold I64;omega) (zE rfl rfl zk (yU rfl rfl sh3 rfl rfl (zA ?_)))
    refine⟨kk - 1,by omega,c,d,L+1,H,by omega,⟨by omega,by omega,e2,e3,e4,by omega,hE.tun,fun lo hi h1 h2 h3 h4=>?_,hnar⟩,rfl,.c4 rfl rfl rfl rfl (.nil rfl)⟩
    by_cases e:lo=L
    ·subst e
     have: ¬ hi<H:=fun h=>hE.nar hi h h4
     omega
    ·exact hE.min lo hi h1 (by omega) h3 h4
 ·have hev:EvenS t c d:=⟨e3,e4,hE.tun,fun lo hi h1 h2 h3=>by
   by_cases e:lo<L
   ·exact hE.min lo hi h1 e h2 h3
   ·exact absurd (h3.mono (by omega) (Int.le_refl _)) (hE.nar hi (by omega))⟩
  rw[evA_eq hev]
  refine k_seq (kQ (zE rfl rfl zp (zF rfl rfl rfl sh3 rfl (zE rfl rfl wB (zE rfl rfl zAD (zE rfl rfl zp (zF rfl rfl rfl sh3 rfl (wq rfl rfl rfl ?_))))))))
  refine zA (k_cF rfl (decide_eq_false (by omega)) (yO (kQ (zH rfl rfl rfl sh26 rfl (zJ rfl rfl sh26 rfl rfl rfl rfl rfl ?_)))))
  refine zA (zb ?_)
  refine⟨.inr rfl,_,.cons _ _ _ _ (.cellN 2 26 _ _ _ _ rfl rfl sh26 rfl) .nil,?_⟩
  exact .refl _
end
section
variable {is:FuncId→Bool}{orc:Known}
variable {t:Ts}{J:List Jn}{v x y a b c d:Int}{st Y Z:List SB}
noncomputable def evE(t:Ts):Int:=if ym t=true then(if t.pairs.length=0 then 4 else errT t)else 10
noncomputable def evP(t:Ts):Int×Int:=if evE t=0 then evA t else(0,0)
set_option maxHeartbeats 8000000 in
theorem ret28(hi:Off is)(t:Ts):RetP Try.prog is orc 28 [t.u] (.tup [yz (evP t).1 (evP t).2,.int .i64 (evE t)]):=by
 have q17:=ret17 (orc:=orc) hi t
 refine yE body28 pure28 (hi 28 (by decide)) rfl rfl (zAh (zAg t 4)) (.inr ⟨_,rfl,yZ (yV _ _ 5) (.int _ _ _)⟩) ?_
 cases hv:ym t with
 |false=>
  have e:evE t=10:=by unfold evE;rw[hv];rfl
  have e2:evP t=(0,0):=by unfold evP;rw[e];rfl
  rw[hv,if_neg (by decide)]at q17
  rw[e,e2]
  refine kQ (yA rfl rfl (zT rfl ze26 ?_))
  refine zC rfl (zA ?_)
  refine zK [(1,U.box 0 0),(2,U.box 1 0)] ([SB.box t.cs,SB.box [.int .i64 0,.int .i64 0]]) (.cons rfl (.cons rfl (.nil rfl))) rfl fun fr=>?_
  refine k_seq (kQ (zH rfl rfl rfl sh28 rfl (zP rfl (q17) (.lrefl _) (zC rfl (zA (kQ (zB rfl (zAd rfl rfl rfl ?_))))))))
  refine zA (k_cT rfl rfl ?_)
  refine kQ (yK rfl ze26 pl26 rfl rfl ?_)
  refine zB rfl (zJ rfl rfl sh26 rfl rfl rfl rfl rfl ?_)
  refine zC rfl (zA (zb ?_))
  refine⟨.inr rfl,_,.cons _ _ _ _ (.cellN 2 26 _ _ _ _ rfl rfl sh26 rfl) (.cons _ _ _ _ (.tmp 3) .nil),?_⟩
  exact .refl _
 |true=>
  have hok:=(zAS t).1 hv
  rw[hv,if_pos rfl]at q17
  by_cases hp:t.pairs.length=0
  ·have e:evE t=4:=by unfold evE;rw[if_pos hv,if_pos hp]
   have e2:evP t=(0,0):=by unfold evP;rw[e];rfl
   rw[e,e2]
   refine kQ (yA rfl rfl (zT rfl ze26 ?_))
   refine zC rfl (zA ?_)
   refine zK [(1,U.box 0 0),(2,U.box 1 0)] ([SB.box t.cs,SB.box [.int .i64 0,.int .i64 0]]) (.cons rfl (.cons rfl (.nil rfl))) rfl fun fr=>?_
   refine k_seq (kQ (zH rfl rfl rfl sh28 rfl (zP rfl (q17) (.lrefl _) (zC rfl (zA (kQ (zB rfl (zAd rfl rfl rfl ?_))))))))
   refine zA (k_cF rfl rfl ?_)
   refine zQ (k_seq (kQ (zE rfl rfl wE (zF rfl rfl rfl sh24 rfl (zw rfl ty24 rfl (List.length_map _) ?_)))))
   refine zBB rfl rfl rfl (zA (k_cT rfl (decide_eq_true (by omega)) (kQ (yK rfl ze26 pl26 rfl rfl ?_))))
   refine zJ rfl rfl sh26 rfl rfl rfl rfl rfl ?_
   refine zC rfl (zA (zb ?_))
   refine⟨.inr rfl,_,.cons _ _ _ _ (.cellN 2 26 _ _ _ _ rfl rfl sh26 rfl) (.cons _ _ _ _ (.tmp 3) .nil),?_⟩
   exact .refl _
  ·have e:evE t=errT t:=by unfold evE;rw[if_pos hv,if_neg hp]
   have q59:=ret59 (orc:=orc) hi t [] (by decide)
   have ha:askE t []=errT t:=ask_nil hv
   unfold askC at q59
   rw[ha]at q59
   cases htn:tunB t (zc t)with
   |false=>
    have he:errT t=12:=by unfold errT;rw[htn];rfl
    have e2:evP t=(0,0):=by unfold evP;rw[e,he];rfl
    rw[e2,e]
    rw[he]at q59 ⊢
    rw[if_neg (by decide)]at q59
    refine kQ (yA rfl rfl (zT rfl ze26 ?_))
    refine zC rfl (zA ?_)
    refine zK [(1,U.box 0 0),(2,U.box 1 0)] ([SB.box t.cs,SB.box [.int .i64 0,.int .i64 0]]) (.cons rfl (.cons rfl (.nil rfl))) rfl fun fr=>?_
    refine k_seq (kQ (zH rfl rfl rfl sh28 rfl (zP rfl (q17) (.lrefl _) (zC rfl (zA (kQ (zB rfl (zAd rfl rfl rfl ?_))))))))
    refine zA (k_cF rfl rfl ?_)
    refine zQ (k_seq (kQ (zE rfl rfl wE (zF rfl rfl rfl sh24 rfl (zw rfl ty24 rfl (List.length_map _) ?_)))))
    refine zBB rfl rfl rfl (zA (k_cF rfl (decide_eq_false (by omega)) (zQ (kQ (zH rfl rfl rfl sh28 rfl (zP rfl (q59) (.lcons _ _ _ _ (.refl _) (.lcons _ _ _ _ (.nil .full .ro 1) (.lrefl _))) ?_))))))
    refine zB rfl (zY rfl rfl rfl (zY rfl rfl rfl (zT rfl ze84 ?_)))
    refine zJ rfl rfl sh84 rfl rfl rfl rfl rfl ?_
    refine zC rfl (zA ?_)
    refine zK [(2,U.box 1 0),(5,U.box 2 0),(6,.int .i64 12)] ([SB.box t.cs,SB.box [.int .i64 0,.int .i64 0],SB.box [.lst .full 0 [],.lst .full 0 [],.lst .full 0 [],.int .i64 0,.int .i64 0,.lst .full 0 []]]) (.cons rfl (.cons rfl (.cons rfl (.nil rfl)))) rfl fun fr=>?_
    refine k_seq (kQ (zB rfl (zAd rfl rfl rfl (zA (k_cT rfl rfl ?_)))))
    refine kQ (yK rfl ze26 pl26 rfl rfl ?_)
    refine zB rfl (zJ rfl rfl sh26 rfl rfl rfl rfl rfl ?_)
    refine zC rfl (zA (zb ?_))
    refine⟨.inr rfl,_,.cons _ _ _ _ (.cellN 2 26 _ _ _ _ rfl rfl sh26 rfl) (.cons _ _ _ _ (.tmp 3) .nil),?_⟩
    exact .refl _
   |true=>
    have he:errT t=0:=by unfold errT;rw[htn];rfl
    have e2:evP t=evA t:=by unfold evP;rw[e,he];rfl
    have q70:=ret70 (orc:=orc) hi hok (fun h=>hp (by rw[h];rfl)) ((zBh hok.sok).1 htn)
    rw[e2,e]
    rw[he]at q59 ⊢
    rw[if_pos rfl]at q59
    refine kQ (yA rfl rfl (zT rfl ze26 ?_))
    refine zC rfl (zA ?_)
    refine zK [(1,U.box 0 0),(2,U.box 1 0)] ([SB.box t.cs,SB.box [.int .i64 0,.int .i64 0]]) (.cons rfl (.cons rfl (.nil rfl))) rfl fun fr=>?_
    refine k_seq (kQ (zH rfl rfl rfl sh28 rfl (zP rfl (q17) (.lrefl _) (zC rfl (zA (kQ (zB rfl (zAd rfl rfl rfl ?_))))))))
    refine zA (k_cF rfl rfl ?_)
    refine zQ (k_seq (kQ (zE rfl rfl wE (zF rfl rfl rfl sh24 rfl (zw rfl ty24 rfl (List.length_map _) ?_)))))
    refine zBB rfl rfl rfl (zA (k_cF rfl (decide_eq_false (by omega)) (zQ (kQ (zH rfl rfl rfl sh28 rfl (zP rfl (q59) (.lcons _ _ _ _ (.refl _) (.lcons _ _ _ _ (.nil .full .ro 1) (.lrefl _))) ?_))))))
    refine zB rfl (zY rfl rfl rfl (zY rfl rfl rfl (zT rfl ze84 ?_)))
    refine zJ rfl rfl sh84 rfl rfl rfl rfl rfl ?_
    refine zC rfl (zA ?_)
    refine zK [(2,U.box 1 0),(5,U.box 2 0),(6,.int .i64 0)] ([SB.box t.cs,SB.box [.int .i64 0,.int .i64 0],SB.box [.lst .ro 2 (zV t.heard),.lst .ro 2 (yn t.scales),.lst .ro 2 (zV t.pairs),.int .i64 t.lo,.int .i64 t.hi,.lst .ro 5 (jnsU (zc t))]]) (.cons rfl (.cons rfl (.cons rfl (.nil rfl)))) rfl fun fr=>?_
    refine k_seq (kQ (zB rfl (zAd rfl rfl rfl (zA (k_cF rfl rfl ?_)))))
    refine zQ (kQ (zH rfl rfl rfl sh84 rfl (zP rfl (q70) (.lrefl _) (zJ rfl rfl sh26 rfl rfl rfl rfl rfl ?_))))
    refine zC rfl (zA (zb ?_))
    refine⟨.inr rfl,_,.cons _ _ _ _ (.cellN 2 26 _ _ _ _ rfl rfl sh26 rfl) (.cons _ _ _ _ (.tmp 3) .nil),?_⟩
    exact .refl _
theorem errT_iff(h:TOk t):errT t=0↔BandE t t.lo t.hi:=by
 rw[zHG,zBh h.sok,bandE_own]
theorem even_ex(hok:TOk t)(hp:t.pairs≠[]):∀(m:Nat) (c d:Int),t.lo≤c→d≤t.hi→BandE t c d→(d - c)*100+(c - t.lo)≤(m:Int)→∃a b,EvenS t a b:=by
 have hbt:=hok.bt
 intro m
 induction m with
 |zero=>
  intro c d h1 h2 h3 h4
  have h5:=h3.le hp
  exact⟨c,d,h1,h2,h3,fun c' d' q1 q2 q3=>by have:=q3.le hp;omega⟩
 |succ m ih=>
  intro c d h1 h2 h3 h4
  have h5:=h3.le hp
  by_cases hc:∀c' d',t.lo≤c'→d'≤t.hi→BandE t c' d'→d - c<d' - c'∨d - c=d' - c'∧c≤c'
  ·exact⟨c,d,h1,h2,h3,hc⟩
  ·simp only[Classical.not_forall]at hc
   obtain⟨c',d',q1,q2,q3,q4⟩:=hc
   have:=q3.le hp
   exact ih c' d' q1 q2 q3 (by omega)
theorem ev_ex(h:TOk t)(hp:t.pairs.length≠0)(he:errT t=0):EvenS t (evA t).1 (evA t).2:=by
 have hpn:t.pairs≠[]:=fun e=>hp (by rw[e];rfl)
 obtain⟨a,b,hab⟩:=even_ex h hpn ((t.hi - t.lo)*100+(t.lo - t.lo)).toNat t.lo t.hi (Int.le_refl _) (Int.le_refl _) ((errT_iff h).1 he) (by have:=h.bt;omega)
 rw[evA_eq hab]
 exact hab
end
end Go.Proofs.Ytinhcdijbcamaaa.tuneTrue
