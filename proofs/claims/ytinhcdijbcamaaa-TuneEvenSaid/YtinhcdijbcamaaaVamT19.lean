import Derived.Test.YtinhcdijbcamaaaVamT18
set_option linter.unusedVariables false
set_option linter.unusedSimpArgs false
set_option linter.constructorNameAsVariable false
namespace Go.Proofs.Ytinhcdijbcamaaa.tuneEven
open Vam
section
variable {is:FuncId→Bool}{orc:Known}
noncomputable def b96:Code:=(Try.f96.body).getD .skip
theorem body96:bodyOf Try.prog 96=some (11,b96,[.cell 4 84]):=by kernel_rfl
theorem pure96:pureFn Try.prog 96=true:=by kernel_rfl
noncomputable def b70:Code:=(Try.f70.body).getD .skip
theorem body70:bodyOf Try.prog 70=some (46,b70,[.cell 2 26]):=by kernel_rfl
theorem pure70:pureFn Try.prog 70=true:=by kernel_rfl
noncomputable def b28:Code:=(Try.f28.body).getD .skip
theorem body28:bodyOf Try.prog 28=some (29,b28,[.cell 2 26,.tmp 3]):=by kernel_rfl
theorem pure28:pureFn Try.prog 28=true:=by kernel_rfl
variable {t:Ts}{J:List Jn}{v x y a b c d:Int}{st Y Z:List SB}
def beatT(t:Ts)(a b:Int):Ts:={t with lo:=a,hi:=b}
theorem beat_sh(h:Sh t)(a b:Int):Sh (beatT t a b):=⟨h.ns,h.np,h.sc⟩
theorem beat_ac(t:Ts)(a b:Int):EJ (yC (beatT t a b))=EJ (yC t):=by
 unfold EJ yC
 rw[List.map_append,List.map_append,List.map_map,List.map_map]
 rfl
theorem beat_mem{j:Jn}:j∈yC (beatT t a b)↔j∈scalesJ t.scales∨∃q∈t.pairs,j=⟨2,q.a,q.b,a,b⟩:=by
 unfold yC
 rw[List.mem_append,List.mem_map]
 exact⟨fun h=>h.imp_right fun⟨q,h1,h2⟩=>⟨q,h1,h2.symm⟩,fun h=>h.imp_right fun⟨q,h1,h2⟩=>⟨q,h1,h2.symm⟩⟩
theorem beat_sok(h:TOk t)(h1:0≤a)(h2:a≤b+1)(h3:b≤60):SOk (beatT t a b) (yC (beatT t a b)):=by
 refine⟨h.n1,h.n8,h.hd,fun j hj=>?_,fun j hj=>?_,by have:=joins_len (beat_sh h.sh a b);omega,by rw[beat_ac];exact h.ac⟩
 ·rcases beat_mem.1 hj with hj|⟨q,hq,rfl⟩
  ·exact h.sok.jv j (List.mem_append_left _ hj)
  ·exact .inr ⟨.inl rfl,h1,h2,h3⟩
 ·rcases beat_mem.1 hj with hj|⟨q,hq,rfl⟩
  ·exact h.sok.jr j (List.mem_append_left _ hj)
  ·exact(h.pr q hq).2
def BandE(t:Ts)(a b:Int):Prop:=∃p:Int→Int,(∀v,Key t v→InH t v (p v))∧(∀j∈scalesJ t.scales,Fit j (p j.one) (p j.two))∧∀q∈t.pairs,a≤p q.b - p q.a∧p q.b - p q.a≤b
theorem fit_pair{q:Two}{p:Int→Int}:Fit ⟨2,q.a,q.b,a,b⟩ (p q.a) (p q.b)↔a≤p q.b - p q.a∧p q.b - p q.a≤b:=by
 unfold Fit Jn.alo Jn.ahi
 rw[if_neg (show ¬ (2:Int)=0 by decide),if_neg (show ¬ (2:Int)=1 by decide),if_pos rfl,if_neg (show ¬ (2:Int)=0 by decide),if_neg (show ¬ (2:Int)=1 by decide),if_pos rfl]
 simp only
 omega
theorem bandE_iff:TunE (beatT t a b) (yC (beatT t a b))↔BandE t a b:=by
 constructor
 ·rintro⟨p,h1,h2⟩
  exact⟨p,fun v hv=>h1 v hv.1 hv.2,fun j hj=>h2 j (beat_mem.2 (.inl hj)),fun q hq=>fit_pair.1 (h2 _ (beat_mem.2 (.inr ⟨q,hq,rfl⟩)))⟩
 ·rintro⟨p,h1,h2,h3⟩
  refine⟨p,fun v h4 h5=>h1 v ⟨h4,h5⟩,fun j hj=>?_⟩
  rcases beat_mem.1 hj with hj|⟨q,hq,rfl⟩
  ·exact h2 j hj
  ·exact fit_pair.2 (h3 q hq)
theorem bandE_own:TunE t (yC t)↔BandE t t.lo t.hi:=bandE_iff (t:=t) (a:=t.lo) (b:=t.hi)
theorem BandE.mono(h:BandE t a b)(h1:c≤a)(h2:b≤d):BandE t c d:=by
 obtain⟨p,q1,q2,q3⟩:=h
 exact⟨p,q1,q2,fun q hq=>by have:=q3 q hq;omega⟩
theorem BandE.le(h:BandE t a b)(hp:t.pairs≠[]):a≤b:=by
 obtain⟨p,q1,q2,q3⟩:=h
 cases hq:t.pairs with
 |nil=>exact absurd hq hp
 |cons q l=>have:=q3 q (by rw[hq];exact List.mem_cons_self);omega
structure EvenS(t:Ts)(a b:Int):Prop where
 lo:t.lo≤a
 hi:b≤t.hi
 tun:BandE t a b
 min:∀c d,t.lo≤c→d≤t.hi→BandE t c d→b - a<d - c∨b - a=d - c∧a≤c
theorem EvenS.uniq(h:EvenS t a b)(k:EvenS t c d):a=c∧b=d:=by
 have h1:=h.min c d k.lo k.hi k.tun
 have h2:=k.min a b h.lo h.hi h.tun
 omega
open Classical in
noncomputable def evA(t:Ts):Int×Int:=if h:∃q:Int×Int,EvenS t q.1 q.2 then Classical.choose h else(0,0)
theorem evA_eq(h:EvenS t a b):evA t=(a,b):=by
 have hx:∃q:Int×Int,EvenS t q.1 q.2:=⟨(a,b),h⟩
 unfold evA
 rw[dif_pos hx]
 have:=(Classical.choose_spec hx).uniq h
 exact Prod.ext this.1 this.2
set_option maxHeartbeats 8000000 in
theorem ret96(hi:Off is)(h:Sh t)(a b:Int):RetP Try.prog is orc 96 [.agg (setC t J),spanU a b] (.agg (setC (beatT t a b) (yC (beatT t a b)))):=by
 have q72:RetP Try.prog is orc 72 [.agg (setC t J |>.take 3 |>.append [.int .i64 a,.int .i64 b])] (.agg (setC (beatT t a b) (yC (beatT t a b)))):=ret72 hi (beat_sh h a b)
 refine yQ body96 pure96 (hi 96 (by decide)) rfl rfl (dat_l2 (dat_set t J 4) (yl a b 6)) (.inl (dat_set _ _ 4)) ?_
 refine kQ (yH rfl rfl (yH rfl rfl (zX rfl ze84 ?_)))
 refine zA ?_
 refine zN [(2,U.box 0 0),(3,U.box 1 0),(4,U.box 2 0)] ([SB.box [.lst .ro 2 (zS t.heard),.lst .ro 2 (yS t.scales),.lst .ro 2 (zS t.pairs),.int .i64 t.lo,.int .i64 t.hi,.lst .ro 5 (jnsU J)],SB.box [.int .i64 a,.int .i64 b],SB.box [.lst .full 0 [],.lst .full 0 [],.lst .full 0 [],.int .i64 0,.int .i64 0,.lst .full 0 []]]) (.cons rfl (.cons rfl (.cons rfl (.nil rfl)))) rfl fun fr=>?_
 refine kQ (zJ rfl rfl rfl sh26 rfl (zD rfl rfl fld84_0 (zD rfl rfl fld28_3 (zL rfl rfl sh26 rfl rfl rfl rfl rfl ?_))))
 refine zA (kQ (zD rfl rfl fld84_0 (zJ rfl rfl rfl sh28 rfl (zQ rfl (q72) (.lrefl _) (zL rfl rfl sh84 rfl rfl rfl rfl rfl ?_)))))
 refine zA (zd ?_)
 refine⟨.inr rfl,_,.cons _ _ _ _ (.cellN 4 84 _ _ _ _ rfl rfl sh84 rfl) .nil,?_⟩
 exact .refl _
structure EvI(t:Ts)(c d L H:Int):Prop where
 l0:t.lo≤L
 lh:L≤H+1
 h1:H≤t.hi+1
 lo:t.lo≤c
 hi:d≤t.hi
 cl:c≤L
 tun:BandE t c d
 min:∀lo hi,t.lo≤lo→lo<L→hi≤t.hi→BandE t lo hi→d - c<hi - lo∨d - c=hi - lo∧c≤lo
 nar:∀hi,hi<H→ ¬ BandE t L hi
set_option maxHeartbeats 8000000 in
theorem ret70(hi:Off is)(hok:TOk t)(hp:t.pairs≠[])(ht:TunE t (yC t)):RetP Try.prog is orc 70 [.agg (setC t (yC t))] (spanU (evA t).1 (evA t).2):=by
 refine yQ body70 pure70 (hi 70 (by decide)) rfl rfl (dat_l1 (dat_set t _ 4)) (.inl (yl _ _ 6)) ?_
 have q92:=ret92 (orc:=orc) hi t.lo
 have hbt:=hok.bt
 refine kQ (yH rfl rfl (zX rfl ze26 ?_))
 refine zA ?_
 refine zN [(1,U.box 0 0),(2,U.box 1 0)] ([SB.box [.lst .ro 2 (zS t.heard),.lst .ro 2 (yS t.scales),.lst .ro 2 (zS t.pairs),.int .i64 t.lo,.int .i64 t.hi,.lst .ro 5 (jnsU (yC t))],SB.box [.int .i64 0,.int .i64 0]]) (.cons rfl (.cons rfl (.nil rfl))) rfl fun fr=>?_
 refine k_seq (k_draw [.plain,.plain,.read true,.plain,.plain,.plain,.read true,.read false,.pre,.pre,.plain,.plain] (by kernel_rfl) (by kernel_rfl) (by kernel_rfl) ?_)
 refine zG (zD rfl rfl fld84_0 (zA rfl)) ?_
 refine zG (zD rfl rfl fld28_3 (zA rfl)) ?_
 refine zq rfl (zJ rfl rfl rfl sh26 rfl (zA rfl)) ?_
 refine zG (zD rfl rfl fld84_0 (zA rfl)) ?_
 refine zG (zD rfl rfl fld28_3 (zA rfl)) ?_
 refine zG (zD rfl rfl zg (zA rfl)) ?_
 refine zq rfl (zE rfl rfl rfl sh3 rfl (zA rfl)) (d_callR rfl (q92) (flat_span _ _) (.lrefl _) ?_)
 refine d_pre rfl ze26 ?_
 refine d_pre rfl ze26 ?_
 refine zG (zL rfl rfl sh26 rfl rfl rfl rfl rfl (zA rfl)) ?_
 refine zG (zL rfl rfl sh26 rfl rfl rfl rfl rfl (zA rfl)) ?_
 refine d_nil ?_
 refine zN [(1,U.box 0 0),(2,U.box 1 0),(3,U.box 2 0),(4,U.box 3 0)] ([SB.box [.lst .ro 2 (zS t.heard),.lst .ro 2 (yS t.scales),.lst .ro 2 (zS t.pairs),.int .i64 t.lo,.int .i64 t.hi,.lst .ro 5 (jnsU (yC t))],SB.box [.int .i64 0,.int .i64 0],SB.box [.int .i64 t.lo,.int .i64 t.hi],SB.box [.int .i64 t.lo,.int .i64 t.lo]]) (.c4 rfl rfl rfl rfl (.nil rfl)) rfl fun fr=>?_
 refine k_seq (zP ?_)
 refine k_loop (fun kk s2=>∃c d L H:Int,((kk:Nat):Int)=(t.hi+1 - H)+(t.hi+3 - L)∧EvI t c d L H∧s2.st=[.box (setC t (yC t)),.box [.int .i64 0,.int .i64 0],.box [.int .i64 c,.int .i64 d],.box [.int .i64 L,.int .i64 H]]∧Holds s2 [(1,.box 0 0),(2,.box 1 0),(3,.box 2 0),(4,.box 3 0)]) (fun kk s2 hI=>?_) ((t.hi+1 - t.lo)+(t.hi+3 - t.lo)).toNat _ ⟨t.lo,t.hi,t.lo,t.lo,by omega,⟨Int.le_refl _,by omega,by omega,Int.le_refl _,Int.le_refl _,Int.le_refl _,bandE_own.1 ht,fun lo hi h1 h2=>by omega,fun hi h1 h2=>by have:=h2.le hp;omega⟩,rfl,.c4 rfl rfl rfl rfl (.nil rfl)⟩
 obtain⟨c,d,L,H,hk,hE,hst2,hs2⟩:=hI
 have e0:=hE.l0
 have e1:=hE.lh
 have e2:=hE.h1
 have e3:=hE.lo
 have e4:=hE.hi
 have e5:=hE.cl
 have e6:=hE.tun.le hp
 refine zN _ _ hs2 hst2 fun fr2=>?_
 by_cases hH:H≤t.hi
 ·have hso:=beat_sok hok (a:=L) (b:=H) (by omega) (by omega) (by omega)
  have q96:=ret96 (orc:=orc) (J:=yC t) hi hok.sh L H
  have q65:=ret65 (orc:=orc) hi hso
  have hiff:=(tunB_iff hso).trans bandE_iff
  cases hc:tunB (beatT t L H) (yC (beatT t L H))with
  |false=>
   rw[hc]at q65
   have hno: ¬ BandE t L H:=fun h=>by rw[hiff.2 h]at hc;cases hc
   refine k_seq (kQ (zD rfl rfl zj (zE rfl rfl rfl sh3 rfl (zD rfl rfl fld84_0 (zD rfl rfl fld28_3 (zD rfl rfl zj (zE rfl rfl rfl sh3 rfl (o_leq rfl rfl rfl ?_))))))))
   refine zA (k_cT rfl (decide_eq_true (by omega)) (zR (zP (k_seq (kQ (zJ rfl rfl rfl sh84 rfl (zJ rfl rfl rfl sh26 rfl (zQ rfl (q96) (.lrefl _) ?_))))))))
   refine zQ rfl (q65) (.lrefl _) (o_not rfl rfl (zA ?_))
   refine zN [(1,U.box 0 0),(2,U.box 1 0),(3,U.box 2 0),(4,U.box 3 0),(24,U.bool !Bool.false)] ([SB.box (setC t (yC t)),SB.box [.int .i64 0,.int .i64 0],SB.box [.int .i64 c,.int .i64 d],SB.box [.int .i64 L,.int .i64 H]]) (.c4 rfl rfl rfl rfl (.cons rfl (.nil rfl))) rfl fun fr=>?_
   refine k_cT rfl rfl ?_
   refine kQ (zD rfl rfl zj (zE rfl rfl rfl sh3 rfl ?_))
   refine yq rfl rfl rfl (by unfold I64;omega) (zD rfl rfl zj (o_store1 rfl rfl sh3 rfl rfl (zA ?_)))
   refine zN [(1,U.box 0 0),(2,U.box 1 0),(3,U.box 2 0),(4,U.box 3 0)] ([SB.box (setC t (yC t)),SB.box [.int .i64 0,.int .i64 0],SB.box [.int .i64 c,.int .i64 d],SB.box [.int .i64 L,.int .i64 (H+(1:Int))]]) (.c4 rfl rfl rfl rfl (.nil rfl)) rfl fun fr=>?_
   refine yg ?_
   refine⟨kk - 1,by omega,c,d,L,H+1,by omega,⟨e0,by omega,by omega,e3,e4,e5,hE.tun,hE.min,fun hi h1 h2=>?_⟩,rfl,.c4 rfl rfl rfl rfl (.nil rfl)⟩
   by_cases e:hi=H
   ·subst e;exact hno h2
   ·exact hE.nar hi (by omega) h2
  |true=>
   rw[hc]at q65
   have hyes:BandE t L H:=hiff.1 hc
   have hLH:=hyes.le hp
   have hnar:∀hi,hi<H→ ¬ BandE t (L+1) hi:=fun hi h1 h2=>hE.nar hi h1 (h2.mono (by omega) (Int.le_refl _))
   by_cases hw:H - L<d - c
   ·refine k_seq ?_
    refine kQ (zD rfl rfl zj (zE rfl rfl rfl sh3 rfl (zD rfl rfl fld84_0 (zD rfl rfl fld28_3 (zD rfl rfl zj (zE rfl rfl rfl sh3 rfl (o_leq rfl rfl rfl (zA ?_))))))))
    refine k_cT rfl (decide_eq_true (by omega)) (zR (zP (k_seq (kQ (zJ rfl rfl rfl sh84 rfl (zJ rfl rfl rfl sh26 rfl (zQ rfl (q96) (.lrefl _) (zQ rfl (q65) (.lrefl _) ?_))))))))
    refine o_not rfl rfl (zA ?_)
    refine zN [(1,U.box 0 0),(2,U.box 1 0),(3,U.box 2 0),(4,U.box 3 0),(24,U.bool !Bool.true)] ([SB.box (setC t (yC t)),SB.box [.int .i64 0,.int .i64 0],SB.box [.int .i64 c,.int .i64 d],SB.box [.int .i64 L,.int .i64 H]]) (.c4 rfl rfl rfl rfl (.cons rfl (.nil rfl))) rfl fun fr=>?_
    refine k_cF rfl rfl ?_
    refine zR (k_seq (kQ (zD rfl rfl zj (zE rfl rfl rfl sh3 rfl (zD rfl rfl zg (zE rfl rfl rfl sh3 rfl ?_))))))
    refine o_sub rfl rfl rfl (by unfold I64;omega) (zD rfl rfl zj (zE rfl rfl rfl sh3 rfl (zD rfl rfl zg (zE rfl rfl rfl sh3 rfl ?_))))
    refine o_sub rfl rfl rfl (by unfold I64;omega) (zo rfl rfl rfl (zA (k_cT rfl (decide_eq_true (by omega)) (k_region (zJ rfl rfl rfl sh26 rfl (zL rfl rfl sh26 rfl rfl rfl rfl rfl ?_))))))
    refine zA ?_
    refine zN [(1,U.box 0 0),(2,U.box 1 0),(3,U.box 2 0),(4,U.box 3 0)] ([SB.box (setC t (yC t)),SB.box [.int .i64 0,.int .i64 0],SB.box [.int .i64 L,.int .i64 H],SB.box [.int .i64 L,.int .i64 H]]) (.c4 rfl rfl rfl rfl (.nil rfl)) rfl fun fr=>?_
    refine k_region (zD rfl rfl zg (zE rfl rfl rfl sh3 rfl ?_))
    refine yq rfl rfl rfl (by unfold I64;omega) (zD rfl rfl zg (o_store1 rfl rfl sh3 rfl rfl (zA ?_)))
    refine⟨kk - 1,by omega,L,H,L+1,H,by omega,⟨by omega,by omega,e2,e0,hH,by omega,hyes,fun lo hi h1 h2 h3 h4=>?_,hnar⟩,rfl,.c4 rfl rfl rfl rfl (.nil rfl)⟩
    by_cases e:lo=L
    ·subst e
     have: ¬ hi<H:=fun h=>hE.nar hi h h4
     omega
    ·have:=hE.min lo hi h1 (by omega) h3 h4
     omega
   ·refine k_seq ?_
    refine kQ (zD rfl rfl zj (zE rfl rfl rfl sh3 rfl (zD rfl rfl fld84_0 (zD rfl rfl fld28_3 (zD rfl rfl zj (zE rfl rfl rfl sh3 rfl (o_leq rfl rfl rfl (zA ?_))))))))
    refine k_cT rfl (decide_eq_true (by omega)) (zR (zP (k_seq (kQ (zJ rfl rfl rfl sh84 rfl (zJ rfl rfl rfl sh26 rfl (zQ rfl (q96) (.lrefl _) (zQ rfl (q65) (.lrefl _) ?_))))))))
    refine o_not rfl rfl (zA ?_)
    refine zN [(1,U.box 0 0),(2,U.box 1 0),(3,U.box 2 0),(4,U.box 3 0),(24,U.bool !Bool.true)] ([SB.box (setC t (yC t)),SB.box [.int .i64 0,.int .i64 0],SB.box [.int .i64 c,.int .i64 d],SB.box [.int .i64 L,.int .i64 H]]) (.c4 rfl rfl rfl rfl (.cons rfl (.nil rfl))) rfl fun fr=>?_
    refine k_cF rfl rfl ?_
    refine zR (k_seq (kQ (zD rfl rfl zj (zE rfl rfl rfl sh3 rfl (zD rfl rfl zg (zE rfl rfl rfl sh3 rfl ?_))))))
    refine o_sub rfl rfl rfl (by unfold I64;omega) (zD rfl rfl zj (zE rfl rfl rfl sh3 rfl (zD rfl rfl zg (zE rfl rfl rfl sh3 rfl ?_))))
    refine o_sub rfl rfl rfl (by unfold I64;omega) (zo rfl rfl rfl (zA (k_cF rfl (decide_eq_false (by omega)) (zR (k_region (zD rfl rfl zg (zE rfl rfl rfl sh3 rfl ?_)))))))
    refine yq rfl rfl rfl (by unfold I64;omega) (zD rfl rfl zg (o_store1 rfl rfl sh3 rfl rfl (zA ?_)))
    refine⟨kk - 1,by omega,c,d,L+1,H,by omega,⟨by omega,by omega,e2,e3,e4,by omega,hE.tun,fun lo hi h1 h2 h3 h4=>?_,hnar⟩,rfl,.c4 rfl rfl rfl rfl (.nil rfl)⟩
    by_cases e:lo=L
    ·subst e
     have: ¬ hi<H:=fun h=>hE.nar hi h h4
     omega
    ·exact hE.min lo hi h1 (by omega) h3 h4
 ·have hev:EvenS t c d:=⟨e3,e4,hE.tun,fun lo hi h1 h2 h3=>by
   by_cases e:lo<L
   ·exact hE.min lo hi h1 e h2 h3
   ·exact absurd (h3.mono (by omega) (Int.le_refl _)) (hE.nar hi (by omega))⟩
  rw[evA_eq hev]
  refine k_seq (kQ (zD rfl rfl zj (zE rfl rfl rfl sh3 rfl (zD rfl rfl fld84_0 (zD rfl rfl fld28_3 (zD rfl rfl zj (zE rfl rfl rfl sh3 rfl (o_leq rfl rfl rfl ?_))))))))
  refine zA (k_cF rfl (decide_eq_false (by omega)) (yg (kQ (zJ rfl rfl rfl sh26 rfl (zL rfl rfl sh26 rfl rfl rfl rfl rfl ?_)))))
  refine zA (zd ?_)
  refine⟨.inr rfl,_,.cons _ _ _ _ (.cellN 2 26 _ _ _ _ rfl rfl sh26 rfl) .nil,?_⟩
  exact .refl _
end
section
variable {is:FuncId→Bool}{orc:Known}
noncomputable def b11:Code:=(Try.f11.body).getD .skip
theorem body11:bodyOf Try.prog 11=some (163,b11,[.tmp 4]):=by kernel_rfl
theorem pure11:pureFn Try.prog 11=true:=by kernel_rfl
variable {t:Ts}{J:List Jn}{v x y a b c d:Int}{st Y Z:List SB}
noncomputable def evE(t:Ts):Int:=if validI t=true then(if t.pairs.length=0 then 4 else errT t)else 10
noncomputable def evP(t:Ts):Int×Int:=if evE t=0 then evA t else(0,0)
set_option maxHeartbeats 8000000 in
theorem ret28(hi:Off is)(t:Ts):RetP Try.prog is orc 28 [t.u] (.tup [spanU (evP t).1 (evP t).2,.int .i64 (evE t)]):=by
 have q17:=ret17 (orc:=orc) hi t
 refine yQ body28 pure28 (hi 28 (by decide)) rfl rfl (dat_l1 (dat_ts t 4)) (.inr ⟨_,rfl,dat_l2 (yl _ _ 5) (.int _ _ _)⟩) ?_
 cases hv:validI t with
 |false=>
  have e:evE t=10:=by unfold evE;rw[hv];rfl
  have e2:evP t=(0,0):=by unfold evP;rw[e];rfl
  rw[hv,if_neg (by decide)]at q17
  rw[e,e2]
  refine kQ (yH rfl rfl (zX rfl ze26 ?_))
  refine zC rfl (zA ?_)
  refine zN [(1,U.box 0 0),(2,U.box 1 0)] ([SB.box t.cs,SB.box [.int .i64 0,.int .i64 0]]) (.cons rfl (.cons rfl (.nil rfl))) rfl fun fr=>?_
  refine k_seq (kQ (zJ rfl rfl rfl sh28 rfl (zQ rfl (q17) (.lrefl _) (zC rfl (zA (kQ (zB rfl (o_neq rfl rfl rfl ?_))))))))
  refine zA (k_cT rfl rfl ?_)
  refine kQ (yP rfl ze26 pl26 rfl rfl ?_)
  refine zB rfl (zL rfl rfl sh26 rfl rfl rfl rfl rfl ?_)
  refine zC rfl (zA (zd ?_))
  refine⟨.inr rfl,_,.cons _ _ _ _ (.cellN 2 26 _ _ _ _ rfl rfl sh26 rfl) (.cons _ _ _ _ (.tmp 3) .nil),?_⟩
  exact .refl _
 |true=>
  have hok:=(valid_iff t).1 hv
  rw[hv,if_pos rfl]at q17
  by_cases hp:t.pairs.length=0
  ·have e:evE t=4:=by unfold evE;rw[if_pos hv,if_pos hp]
   have e2:evP t=(0,0):=by unfold evP;rw[e];rfl
   rw[e,e2]
   refine kQ (yH rfl rfl (zX rfl ze26 ?_))
   refine zC rfl (zA ?_)
   refine zN [(1,U.box 0 0),(2,U.box 1 0)] ([SB.box t.cs,SB.box [.int .i64 0,.int .i64 0]]) (.cons rfl (.cons rfl (.nil rfl))) rfl fun fr=>?_
   refine k_seq (kQ (zJ rfl rfl rfl sh28 rfl (zQ rfl (q17) (.lrefl _) (zC rfl (zA (kQ (zB rfl (o_neq rfl rfl rfl ?_))))))))
   refine zA (k_cF rfl rfl ?_)
   refine zR (k_seq (kQ (zD rfl rfl fld28_2 (zE rfl rfl rfl sh24 rfl (yW rfl ty24 rfl (List.length_map _) ?_)))))
   refine o_eql rfl rfl rfl (zA (k_cT rfl (decide_eq_true (by omega)) (kQ (yP rfl ze26 pl26 rfl rfl ?_))))
   refine zL rfl rfl sh26 rfl rfl rfl rfl rfl ?_
   refine zC rfl (zA (zd ?_))
   refine⟨.inr rfl,_,.cons _ _ _ _ (.cellN 2 26 _ _ _ _ rfl rfl sh26 rfl) (.cons _ _ _ _ (.tmp 3) .nil),?_⟩
   exact .refl _
  ·have e:evE t=errT t:=by unfold evE;rw[if_pos hv,if_neg hp]
   have q59:=ret59 (orc:=orc) hi t [] (by decide)
   have ha:askE t []=errT t:=ask_nil hv
   unfold askC at q59
   rw[ha]at q59
   cases htn:tunB t (yC t)with
   |false=>
    have he:errT t=12:=by unfold errT;rw[htn];rfl
    have e2:evP t=(0,0):=by unfold evP;rw[e,he];rfl
    rw[e2,e]
    rw[he]at q59 ⊢
    rw[if_neg (by decide)]at q59
    refine kQ (yH rfl rfl (zX rfl ze26 ?_))
    refine zC rfl (zA ?_)
    refine zN [(1,U.box 0 0),(2,U.box 1 0)] ([SB.box t.cs,SB.box [.int .i64 0,.int .i64 0]]) (.cons rfl (.cons rfl (.nil rfl))) rfl fun fr=>?_
    refine k_seq (kQ (zJ rfl rfl rfl sh28 rfl (zQ rfl (q17) (.lrefl _) (zC rfl (zA (kQ (zB rfl (o_neq rfl rfl rfl ?_))))))))
    refine zA (k_cF rfl rfl ?_)
    refine zR (k_seq (kQ (zD rfl rfl fld28_2 (zE rfl rfl rfl sh24 rfl (yW rfl ty24 rfl (List.length_map _) ?_)))))
    refine o_eql rfl rfl rfl (zA (k_cF rfl (decide_eq_false (by omega)) (zR (kQ (zJ rfl rfl rfl sh28 rfl (zQ rfl (q59) (.lcons _ _ _ _ (.refl _) (.lcons _ _ _ _ (.nil .full .ro 1) (.lrefl _))) ?_))))))
    refine zB rfl (zV rfl rfl rfl (zV rfl rfl rfl (zX rfl ze84 ?_)))
    refine zL rfl rfl sh84 rfl rfl rfl rfl rfl ?_
    refine zC rfl (zA ?_)
    refine zN [(2,U.box 1 0),(5,U.box 2 0),(6,.int .i64 12)] ([SB.box t.cs,SB.box [.int .i64 0,.int .i64 0],SB.box [.lst .full 0 [],.lst .full 0 [],.lst .full 0 [],.int .i64 0,.int .i64 0,.lst .full 0 []]]) (.cons rfl (.cons rfl (.cons rfl (.nil rfl)))) rfl fun fr=>?_
    refine k_seq (kQ (zB rfl (o_neq rfl rfl rfl (zA (k_cT rfl rfl ?_)))))
    refine kQ (yP rfl ze26 pl26 rfl rfl ?_)
    refine zB rfl (zL rfl rfl sh26 rfl rfl rfl rfl rfl ?_)
    refine zC rfl (zA (zd ?_))
    refine⟨.inr rfl,_,.cons _ _ _ _ (.cellN 2 26 _ _ _ _ rfl rfl sh26 rfl) (.cons _ _ _ _ (.tmp 3) .nil),?_⟩
    exact .refl _
   |true=>
    have he:errT t=0:=by unfold errT;rw[htn];rfl
    have e2:evP t=evA t:=by unfold evP;rw[e,he];rfl
    have q70:=ret70 (orc:=orc) hi hok (fun h=>hp (by rw[h];rfl)) ((tunB_iff hok.sok).1 htn)
    rw[e2,e]
    rw[he]at q59 ⊢
    rw[if_pos rfl]at q59
    refine kQ (yH rfl rfl (zX rfl ze26 ?_))
    refine zC rfl (zA ?_)
    refine zN [(1,U.box 0 0),(2,U.box 1 0)] ([SB.box t.cs,SB.box [.int .i64 0,.int .i64 0]]) (.cons rfl (.cons rfl (.nil rfl))) rfl fun fr=>?_
    refine k_seq (kQ (zJ rfl rfl rfl sh28 rfl (zQ rfl (q17) (.lrefl _) (zC rfl (zA (kQ (zB rfl (o_neq rfl rfl rfl ?_))))))))
    refine zA (k_cF rfl rfl ?_)
    refine zR (k_seq (kQ (zD rfl rfl fld28_2 (zE rfl rfl rfl sh24 rfl (yW rfl ty24 rfl (List.length_map _) ?_)))))
    refine o_eql rfl rfl rfl (zA (k_cF rfl (decide_eq_false (by omega)) (zR (kQ (zJ rfl rfl rfl sh28 rfl (zQ rfl (q59) (.lcons _ _ _ _ (.refl _) (.lcons _ _ _ _ (.nil .full .ro 1) (.lrefl _))) ?_))))))
    refine zB rfl (zV rfl rfl rfl (zV rfl rfl rfl (zX rfl ze84 ?_)))
    refine zL rfl rfl sh84 rfl rfl rfl rfl rfl ?_
    refine zC rfl (zA ?_)
    refine zN [(2,U.box 1 0),(5,U.box 2 0),(6,.int .i64 0)] ([SB.box t.cs,SB.box [.int .i64 0,.int .i64 0],SB.box [.lst .ro 2 (zS t.heard),.lst .ro 2 (yS t.scales),.lst .ro 2 (zS t.pairs),.int .i64 t.lo,.int .i64 t.hi,.lst .ro 5 (jnsU (yC t))]]) (.cons rfl (.cons rfl (.cons rfl (.nil rfl)))) rfl fun fr=>?_
    refine k_seq (kQ (zB rfl (o_neq rfl rfl rfl (zA (k_cF rfl rfl ?_)))))
    refine zR (kQ (zJ rfl rfl rfl sh84 rfl (zQ rfl (q70) (.lrefl _) (zL rfl rfl sh26 rfl rfl rfl rfl rfl ?_))))
    refine zC rfl (zA (zd ?_))
    refine⟨.inr rfl,_,.cons _ _ _ _ (.cellN 2 26 _ _ _ _ rfl rfl sh26 rfl) (.cons _ _ _ _ (.tmp 3) .nil),?_⟩
    exact .refl _
theorem beat_ok(h:TOk t)(h1:0≤a)(h2:a≤b)(h3:b≤60):TOk (beatT t a b):=
 ⟨h.n1,h.n8,h.hd,beat_sh h.sh a b,h.sk,h.ss,h.pr,⟨h1,h2,h3⟩,by rw[beat_ac];exact h.ac⟩
theorem errT_iff(h:TOk t):errT t=0↔BandE t t.lo t.hi:=by
 rw[errT_0,tunB_iff h.sok,bandE_own]
theorem even_ex(hok:TOk t)(hp:t.pairs≠[]):∀(m:Nat) (c d:Int),t.lo≤c→d≤t.hi→BandE t c d→(d - c)*100+(c - t.lo)≤(m:Int)→∃a b,EvenS t a b:=by
 have hbt:=hok.bt
 intro m
 induction m with
 |zero=>
  intro c d h1 h2 h3 h4
  have h5:=h3.le hp
  exact⟨c,d,h1,h2,h3,fun c' d' q1 q2 q3=>by have:=q3.le hp;omega⟩
 |succ m ih=>
  intro c d h1 h2 h3 h4
  have h5:=h3.le hp
  by_cases hc:∀c' d',t.lo≤c'→d'≤t.hi→BandE t c' d'→d - c<d' - c'∨d - c=d' - c'∧c≤c'
  ·exact⟨c,d,h1,h2,h3,hc⟩
  ·simp only[Classical.not_forall]at hc
   obtain⟨c',d',q1,q2,q3,q4⟩:=hc
   have:=q3.le hp
   exact ih c' d' q1 q2 q3 (by omega)
theorem ev_ex(h:TOk t)(hp:t.pairs.length≠0)(he:errT t=0):EvenS t (evA t).1 (evA t).2:=by
 have hpn:t.pairs≠[]:=fun e=>hp (by rw[e];rfl)
 obtain⟨a,b,hab⟩:=even_ex h hpn ((t.hi - t.lo)*100+(t.lo - t.lo)).toNat t.lo t.hi (Int.le_refl _) (Int.le_refl _) ((errT_iff h).1 he) (by have:=h.bt;omega)
 rw[evA_eq hab]
 exact hab
theorem spn_neq(a b:Int):binV Try.prog 26 .neq (valK (spanU a b)) (valK (spanU a b))=some (.bool false):=by
 have h:binV Try.prog 26 .neq (valK (spanU a b)) (valK (spanU a b))=opt none (fun x=>some (V.bool (not x))) (Vam.cond (ieq a a) (Vam.cond (ieq b b) (some true) (some false)) (some false)):=by kernel_rfl
 rw[h,ieq_eq,ieq_eq,show(a==a)=true by simp,show(b==b)=true by simp];rfl
theorem tun_err(hv:validI t=true):askE t []=errT t:=ask_nil hv
set_option maxHeartbeats 16000000 in
theorem ret11(hi:Off is)(t:Ts)(n0 n1:Int)(r21:RetP Try.prog is orc 21 [] (.bool true)):RetP Try.prog is orc 11 [t.u,.agg [.int .i64 n0,.int .i64 n1]] (.bool true):=by
 have q28:=ret28 (orc:=orc) hi t
 have q35:=ret35 (orc:=orc) hi t
 have q41:=ret41 (orc:=orc) hi 0 0
 refine yQ body11 pure11 (hi 11 (by decide)) rfl rfl (dat_l2 (dat_ts t 4) (.agg _ _ (dat_l2 (.int _ _ _) (.int _ _ _)))) (.inl (.bool _ _)) ?_
 cases hv:validI t with
 |false=>
  have e:evE t=10:=by unfold evE;rw[hv];rfl
  have e2:evP t=(0,0):=by unfold evP;rw[e];rfl
  rw[e,e2]at q28
  rw[hv]at q35
  refine kQ (yH rfl rfl (yH rfl rfl (zC rfl (zA ?_))))
  refine zN [(2,U.box 0 0),(3,U.box 1 0)] ([SB.box t.cs,SB.box [.int .i64 n0,.int .i64 n1]]) (.cons rfl (.cons rfl (.nil rfl))) rfl fun fr=>?_
  refine kQ (zJ rfl rfl rfl sh28 rfl (zQ rfl (q28) (.lrefl _) (zB rfl (zV rfl rfl rfl (zV rfl rfl rfl (zX rfl ze26 ?_))))))
  refine zL rfl rfl sh26 rfl rfl rfl rfl rfl ?_
  refine zC rfl (zA ?_)
  refine zN [(2,U.box 0 0),(3,U.box 1 0),(5,U.box 2 0),(6,.int .i64 10)] ([SB.box t.cs,SB.box [.int .i64 n0,.int .i64 n1],SB.box [.int .i64 (Prod.fst ((0:Int),(0:Int))),.int .i64 (Prod.snd ((0:Int),(0:Int)))]]) (.c4 rfl rfl rfl rfl (.nil rfl)) rfl fun fr=>?_
  refine k_seq (kQ (zJ rfl rfl rfl sh28 rfl (zQ rfl (q35) (.lrefl _) (o_not rfl rfl (zA (k_cT rfl rfl ?_))))))
  refine k_seq (k_draw [.plain,.plain,.plain,.read true,.read false,.plain,.plain,.plain,.plain,.plain,.plain] (by kernel_rfl) (by kernel_rfl) (by kernel_rfl) ?_)
  refine zG (zB rfl (zA rfl)) (zG (o_eql rfl rfl rfl (zA rfl)) ?_)
  refine zG (zB rfl (zA rfl)) (d_gD rfl rfl rfl rfl rfl (zq rfl (zJ rfl rfl rfl sh26 rfl (zA rfl)) ?_))
  refine d_gD rfl rfl rfl rfl rfl (d_callR rfl (q41) (flat_span _ _) (.lrefl _) ?_)
  refine d_gD rfl rfl rfl rfl rfl (zG (o_binK rfl rfl rfl rfl rfl (spn_same _ _) (zA rfl)) ?_)
  refine zG (zW rfl rfl rfl (zA rfl)) ?_
  refine zG (zB rfl (zA rfl)) (d_gD rfl rfl rfl rfl rfl (zG (zQ rfl (r21) (.lrefl _) (zA rfl)) ?_))
  refine zG (zW rfl rfl rfl (zA rfl)) ?_
  refine zG (zC rfl (zA rfl)) ?_
  refine d_nil ?_
  refine zd ?_
  refine⟨.inr rfl,_,.cons _ _ _ _ (.tmp 4) .nil,?_⟩
  exact .refl _
 |true=>
  have hok:=(valid_iff t).1 hv
  rw[hv]at q35
  have q19:=ret19 (orc:=orc) hi t
  rw[tun_err hv]at q19
  by_cases hp:t.pairs.length=0
  ·have e:evE t=4:=by unfold evE;rw[if_pos hv,if_pos hp]
   have e2:evP t=(0,0):=by unfold evP;rw[e];rfl
   rw[e,e2]at q28
   refine kQ (yH rfl rfl (yH rfl rfl (zC rfl (zA ?_))))
   refine zN [(2,U.box 0 0),(3,U.box 1 0)] ([SB.box t.cs,SB.box [.int .i64 n0,.int .i64 n1]]) (.cons rfl (.cons rfl (.nil rfl))) rfl fun fr=>?_
   refine kQ (zJ rfl rfl rfl sh28 rfl (zQ rfl (q28) (.lrefl _) (zB rfl (zV rfl rfl rfl (zV rfl rfl rfl (zX rfl ze26 ?_))))))
   refine zL rfl rfl sh26 rfl rfl rfl rfl rfl ?_
   refine zC rfl (zA ?_)
   refine zN [(2,U.box 0 0),(3,U.box 1 0),(5,U.box 2 0),(6,.int .i64 4)] ([SB.box t.cs,SB.box [.int .i64 n0,.int .i64 n1],SB.box [.int .i64 (Prod.fst ((0:Int),(0:Int))),.int .i64 (Prod.snd ((0:Int),(0:Int)))]]) (.c4 rfl rfl rfl rfl (.nil rfl)) rfl fun fr=>?_
   refine k_seq (kQ (zJ rfl rfl rfl sh28 rfl (zQ rfl (q35) (.lrefl _) (o_not rfl rfl (zA (k_cF rfl rfl ?_))))))
   refine zR (kQ (zJ rfl rfl rfl sh28 rfl (zQ rfl (q19) (.lrefl _) (zB rfl (zV rfl rfl rfl (zV rfl rfl rfl (zC rfl (zC rfl ?_))))))))
   refine zA (k_seq (kQ (zD rfl rfl fld28_2 (zE rfl rfl rfl sh24 rfl (yW rfl ty24 rfl (List.length_map _) ?_)))))
   refine o_eql rfl rfl rfl (zA ?_)
   refine zN [(2,U.box 0 0),(3,U.box 1 0),(5,U.box 2 0),(6,.int .i64 4),(8,.int .i64 (errT t)),(42,U.bool (decide (↑(List.length t.pairs)=(0:Int))))] ([SB.box t.cs,SB.box [.int .i64 n0,.int .i64 n1],SB.box [.int .i64 (Prod.fst ((0:Int),(0:Int))),.int .i64 (Prod.snd ((0:Int),(0:Int)))]]) (.c4 rfl rfl rfl rfl (.cons rfl (.cons rfl (.nil rfl)))) rfl fun fr=>?_
   refine k_cT rfl (decide_eq_true (by omega)) (k_seq (k_draw [.plain,.plain,.plain,.read true,.read false,.plain,.plain,.plain,.plain,.plain,.plain] (by kernel_rfl) (by kernel_rfl) (by kernel_rfl) ?_))
   refine zG (zB rfl (zA rfl)) (zG (o_eql rfl rfl rfl (zA rfl)) ?_)
   refine zG (zB rfl (zA rfl)) (d_gD rfl rfl rfl rfl rfl (zq rfl (zJ rfl rfl rfl sh26 rfl (zA rfl)) ?_))
   refine d_gD rfl rfl rfl rfl rfl (d_callR rfl (q41) (flat_span _ _) (.lrefl _) ?_)
   refine d_gD rfl rfl rfl rfl rfl (zG (o_binK rfl rfl rfl rfl rfl (spn_same _ _) (zA rfl)) ?_)
   refine zG (zW rfl rfl rfl (zA rfl)) ?_
   refine zG (zB rfl (zA rfl)) (d_gD rfl rfl rfl rfl rfl (zG (zQ rfl (r21) (.lrefl _) (zA rfl)) ?_))
   refine zG (zW rfl rfl rfl (zA rfl)) ?_
   refine zG (zC rfl (zA rfl)) ?_
   refine d_nil ?_
   refine zd ?_
   refine⟨.inr rfl,_,.cons _ _ _ _ (.tmp 4) .nil,?_⟩
   exact .refl _
  ·have e:evE t=errT t:=by unfold evE;rw[if_pos hv,if_neg hp]
   rcases errT_01 t with he|he
   ·have e2:evP t=evA t:=by unfold evP;rw[e,he];rfl
    rw[e,e2,he]at q28
    rw[he]at q19
    have hev:=ev_ex hok hp he
    obtain⟨A,B,hAB⟩:∃A B,evA t=(A,B):=⟨_,_,rfl⟩
    rw[hAB]at hev q28
    simp only at hev q28
    have hbt:=hok.bt
    have hpn:t.pairs≠[]:=fun h=>hp (by rw[h];rfl)
    have hle:=hev.tun.le hpn
    have hlo:=hev.lo
    have hhi:=hev.hi
    have hok2:=beat_ok hok (a:=A) (b:=B) (by omega) hle (by omega)
    have hv2:=(valid_iff _).2 hok2
    have he2:errT (beatT t A B)=0:=(errT_iff hok2).2 hev.tun
    have e3:evE (beatT t A B)=0:=by unfold evE;rw[if_pos hv2,if_neg (show ¬ (beatT t A B).pairs.length=0 from hp),he2]
    have hev2:EvenS (beatT t A B) A B:=⟨Int.le_refl _,Int.le_refl _,hev.tun,fun c d (h1:A≤c) (h2:d≤B) h3=>hev.min c d (by omega) (by omega) h3⟩
    have e4:evP (beatT t A B)=(A,B):=by unfold evP;rw[e3,if_pos rfl];exact evA_eq hev2
    have p19:=ret19 (orc:=orc) hi (beatT t A B)
    have p28:=ret28 (orc:=orc) hi (beatT t A B)
    rw[tun_err hv2,he2]at p19
    rw[e3,e4]at p28
    have q45:=ret45 (orc:=orc) hi A B t.lo t.hi
    have hg:goodB A B t.lo t.hi=true:=goodB_t.2 ⟨hlo,hle,hhi⟩
    rw[hg]at q45
    have q44:=ret44 (orc:=orc) hi t.lo t.hi n0 (by omega) (by omega)
    have hl:=drawI_b n0 hbt.2.1
    generalize drawI t.lo t.hi n0=L at q44 hl
    have q41b:=ret41 (orc:=orc) hi L t.hi
    have p44:=ret44 (orc:=orc) hi L t.hi n1 (by omega) (by omega)
    have hh:=drawI_b n1 hl.2
    generalize drawI L t.hi n1=H at p44 hh
    have q41c:=ret41 (orc:=orc) hi L H
    refine kQ (yH rfl rfl (yH rfl rfl (zC rfl (zA ?_))))
    refine zN [(2,U.box 0 0),(3,U.box 1 0)] ([SB.box t.cs,SB.box [.int .i64 n0,.int .i64 n1]]) (.cons rfl (.cons rfl (.nil rfl))) rfl fun fr=>?_
    refine kQ (zJ rfl rfl rfl sh28 rfl (zQ rfl (q28) (.lrefl _) (zB rfl (zV rfl rfl rfl (zV rfl rfl rfl (zX rfl ze26 ?_))))))
    refine zL rfl rfl sh26 rfl rfl rfl rfl rfl ?_
    refine zC rfl (zA ?_)
    refine zN [(2,U.box 0 0),(3,U.box 1 0),(5,U.box 2 0),(6,.int .i64 0)] ([SB.box t.cs,SB.box [.int .i64 n0,.int .i64 n1],SB.box [.int .i64 A,.int .i64 B]]) (.c4 rfl rfl rfl rfl (.nil rfl)) rfl fun fr=>?_
    refine k_seq (kQ (zJ rfl rfl rfl sh28 rfl (zQ rfl (q35) (.lrefl _) (o_not rfl rfl (zA (k_cF rfl rfl ?_))))))
    refine zR (kQ (zJ rfl rfl rfl sh28 rfl (zQ rfl (q19) (.lrefl _) (zB rfl (zV rfl rfl rfl (zV rfl rfl rfl (zC rfl (zC rfl ?_))))))))
    refine zA (k_seq (kQ (zD rfl rfl fld28_2 (zE rfl rfl rfl sh24 rfl (yW rfl ty24 rfl (List.length_map _) ?_)))))
    refine o_eql rfl rfl rfl (zA ?_)
    refine zN [(2,U.box 0 0),(3,U.box 1 0),(5,U.box 2 0),(6,.int .i64 0),(8,.int .i64 0),(42,U.bool (decide (↑(List.length t.pairs)=(0:Int))))] ([SB.box t.cs,SB.box [.int .i64 n0,.int .i64 n1],SB.box [.int .i64 A,.int .i64 B]]) (.c4 rfl rfl rfl rfl (.cons rfl (.cons rfl (.nil rfl)))) rfl fun fr=>?_
    refine k_cF rfl (decide_eq_false (by omega)) (zR (k_seq (kQ (zB rfl (o_neq rfl rfl rfl (zA (k_cF rfl rfl ?_)))))))
    refine zR (kQ (zJ rfl rfl rfl sh28 rfl (zX rfl ze28 ?_)))
    refine zL rfl rfl sh28 rfl rfl rfl rfl rfl ?_
    refine zA ?_
    refine zN [(2,U.box 0 0),(3,U.box 1 0),(5,U.box 2 0),(8,.int .i64 0),(9,U.box 3 0)] ([SB.box t.cs,SB.box [.int .i64 n0,.int .i64 n1],SB.box [.int .i64 A,.int .i64 B],SB.box t.cs]) (.c4 rfl rfl rfl rfl (.cons rfl (.nil rfl))) rfl fun fr=>?_
    refine kQ (zJ rfl rfl rfl sh26 rfl (zD rfl rfl fld28_3 (zL rfl rfl sh26 rfl rfl rfl rfl rfl ?_)))
    refine zA (kQ (zJ rfl rfl rfl sh28 rfl (zQ rfl (p19) (.lrefl _) (zB rfl (zV rfl rfl rfl (zV rfl rfl rfl (zC rfl (zC rfl ?_))))))))
    refine zA (kQ (zJ rfl rfl rfl sh28 rfl (zQ rfl (p28) (.lrefl _) (zB rfl (zV rfl rfl rfl (zV rfl rfl rfl (zX rfl ze26 ?_)))))))
    refine zL rfl rfl sh26 rfl rfl rfl rfl rfl ?_
    refine zC rfl (zA ?_)
    refine zN [(2,U.box 0 0),(3,U.box 1 0),(5,U.box 2 0),(8,.int .i64 0),(9,U.box 3 0),(11,.int .i64 0),(12,U.box 4 0),(13,.int .i64 0)] ([SB.box t.cs,SB.box [.int .i64 n0,.int .i64 n1],SB.box [.int .i64 A,.int .i64 B],SB.box [.lst .ro 2 (zS t.heard),.lst .ro 2 (yS t.scales),.lst .ro 2 (zS t.pairs),.int .i64 A,.int .i64 B],SB.box [.int .i64 (Prod.fst (A,B)),.int .i64 (Prod.snd (A,B))]]) (.c4 rfl rfl rfl rfl (.c4 rfl rfl rfl rfl (.nil rfl))) rfl fun fr=>?_
    refine k_seq (kQ (zB rfl (o_neq rfl rfl rfl (zB rfl (o_gD rfl rfl rfl rfl rfl (zB rfl (o_gD rfl rfl rfl rfl rfl (o_neq rfl rfl rfl ?_))))))))
    refine zb rfl rfl rfl ?_
    refine zB rfl (o_gD rfl rfl rfl rfl rfl (zB rfl (o_gD rfl rfl rfl rfl rfl (o_neq rfl rfl rfl ?_))))
    refine zz [(2,U.box 0 0),(3,U.box 1 0),(5,U.box 2 0),(9,U.box 3 0),(12,U.box 4 0),(89,U.bool (decide ((0:Int)≠(0:Int)))),(91,U.bool (decide ((0:Int)≠(0:Int))))] [] ([SB.box t.cs,SB.box [.int .i64 n0,.int .i64 n1],SB.box [.int .i64 A,.int .i64 B],SB.box [.lst .ro 2 (zS t.heard),.lst .ro 2 (yS t.scales),.lst .ro 2 (zS t.pairs),.int .i64 A,.int .i64 B],SB.box [.int .i64 (Prod.fst (A,B)),.int .i64 (Prod.snd (A,B))]]) (.c4 rfl rfl rfl rfl (.cons rfl (.cons rfl (.cons rfl (.nil rfl))))) rfl rfl fun fr=>?_
    refine zb rfl rfl rfl ?_
    refine zB rfl (o_gD rfl rfl rfl rfl rfl (zJ rfl rfl rfl sh26 rfl (o_gD rfl rfl rfl rfl rfl (zJ rfl rfl rfl sh26 rfl (o_gD rfl rfl rfl rfl rfl (o_binK rfl rfl rfl rfl rfl (spn_neq _ _) ?_))))))
    refine zb rfl rfl rfl ?_
    refine zB rfl (o_gD rfl rfl rfl rfl rfl (zJ rfl rfl rfl sh26 rfl (o_gD rfl rfl rfl rfl rfl (zD rfl rfl fld28_3 ?_))))
    refine zz [(2,U.box 0 0),(3,U.box 1 0),(5,U.box 2 0),(9,U.box 3 0),(98,.bool false),(99,U.agg [.int .i64 A,.int .i64 B]),(100,U.box 0 3)] [] ([SB.box t.cs,SB.box [.int .i64 n0,.int .i64 n1],SB.box [.int .i64 A,.int .i64 B],SB.box [.lst .ro 2 (zS t.heard),.lst .ro 2 (yS t.scales),.lst .ro 2 (zS t.pairs),.int .i64 A,.int .i64 B],SB.box [.int .i64 (Prod.fst (A,B)),.int .i64 (Prod.snd (A,B))]]) (.c4 rfl rfl rfl rfl (.cons rfl (.cons rfl (.cons rfl (.nil rfl))))) rfl rfl fun fr=>?_
    refine o_gD rfl rfl rfl rfl rfl ?_
    refine zz [(2,U.box 0 0),(3,U.box 1 0),(5,U.box 2 0),(9,U.box 3 0),(98,.bool false),(99,U.agg [.int .i64 A,.int .i64 B]),(100,U.box 0 3)] [] ([SB.box t.cs,SB.box [.int .i64 n0,.int .i64 n1],SB.box [.int .i64 A,.int .i64 B],SB.box [.lst .ro 2 (zS t.heard),.lst .ro 2 (yS t.scales),.lst .ro 2 (zS t.pairs),.int .i64 A,.int .i64 B],SB.box [.int .i64 (Prod.fst (A,B)),.int .i64 (Prod.snd (A,B))]]) (.c4 rfl rfl rfl rfl (.cons rfl (.cons rfl (.cons rfl (.nil rfl))))) rfl rfl fun fr=>?_
    refine zD rfl rfl zg (o_gD rfl rfl rfl rfl rfl (zE rfl rfl rfl sh3 rfl (o_gD rfl rfl rfl rfl rfl (zD rfl rfl fld28_3 (o_gD rfl rfl rfl rfl rfl (zD rfl rfl zj (o_gD rfl rfl rfl rfl rfl (zE rfl rfl rfl sh3 rfl ?_))))))))
    refine o_gD rfl rfl rfl rfl rfl (zQ rfl (q45) (.lrefl _) (o_gD rfl rfl rfl rfl rfl (o_not rfl rfl (zb rfl rfl rfl ?_))))
    refine zA ?_
    refine zN [(2,U.box 0 0),(3,U.box 1 0),(5,U.box 2 0),(9,U.box 3 0),(108,U.bool !Bool.true)] ([SB.box t.cs,SB.box [.int .i64 n0,.int .i64 n1],SB.box [.int .i64 A,.int .i64 B],SB.box [.lst .ro 2 (zS t.heard),.lst .ro 2 (yS t.scales),.lst .ro 2 (zS t.pairs),.int .i64 A,.int .i64 B],SB.box [.int .i64 (Prod.fst (A,B)),.int .i64 (Prod.snd (A,B))]]) (.c4 rfl rfl rfl rfl (.cons rfl (.nil rfl))) rfl fun fr=>?_
    refine k_cF rfl rfl ?_
    refine zR (kQ (zD rfl rfl fld28_3 (zJ rfl rfl rfl sh26 rfl (o_idxA rfl ty48 rfl rfl (by omega) (by omega) cl3 ?_))))
    refine zE rfl rfl rfl sh3 rfl (zQ rfl (q44) (.lrefl _) (zC rfl (zA (k_seq (k_draw [.plain,.plain,.plain,.read true,.read false,.plain,.read true,.plain,.plain] (by kernel_rfl) (by kernel_rfl) (by kernel_rfl) ?_)))))
    refine zG (zB rfl (zA rfl)) (zG (zD rfl rfl fld28_3 (zA rfl)) ?_)
    refine zG (zD rfl rfl zj (zA rfl)) ?_
    refine zq rfl (zE rfl rfl rfl sh3 rfl (zA rfl)) (d_callR rfl (q41b) (flat_span _ _) (.lrefl _) ?_)
    refine zG (o_idxA rfl ty48 rfl rfl (by omega) (by omega) cl3 (zA rfl)) ?_
    refine zq rfl (zE rfl rfl rfl sh3 rfl (zA rfl)) (zG (zQ rfl (p44) (.lrefl _) (zA rfl)) ?_)
    refine zG (zC rfl (zA rfl)) ?_
    refine d_nil ?_
    refine zN [(5,U.box 2 0),(9,U.box 3 0),(14,.int .i64 L),(15,.int .i64 H)] ([SB.box t.cs,SB.box [.int .i64 n0,.int .i64 n1],SB.box [.int .i64 A,.int .i64 B],SB.box [.lst .ro 2 (zS t.heard),.lst .ro 2 (yS t.scales),.lst .ro 2 (zS t.pairs),.int .i64 A,.int .i64 B],SB.box [.int .i64 (Prod.fst (A,B)),.int .i64 (Prod.snd (A,B))]]) (.c4 rfl rfl rfl rfl (.nil rfl)) rfl fun fr=>?_
    by_cases hc1:H - L > B - A
    ·refine k_seq ?_
     refine kQ (zB rfl (zB rfl ?_))
     refine o_sub rfl rfl rfl (by unfold I64;omega) (zD rfl rfl zj (zE rfl rfl rfl sh3 rfl (zD rfl rfl zg (zE rfl rfl rfl sh3 rfl ?_))))
     refine o_sub rfl rfl rfl (by unfold I64;omega) (o_gtr rfl rfl rfl ?_)
     refine zz [(5,U.box 2 0),(9,U.box 3 0),(14,.int .i64 L),(15,.int .i64 H),(130,U.bool (decide (B - A<H - L)))] [] ([SB.box t.cs,SB.box [.int .i64 n0,.int .i64 n1],SB.box [.int .i64 A,.int .i64 B],SB.box [.lst .ro 2 (zS t.heard),.lst .ro 2 (yS t.scales),.lst .ro 2 (zS t.pairs),.int .i64 A,.int .i64 B],SB.box [.int .i64 (Prod.fst (A,B)),.int .i64 (Prod.snd (A,B))]]) (.c4 rfl rfl rfl rfl (.cons rfl (.nil rfl))) rfl rfl fun fr=>?_
     refine zB rfl (o_gS rfl rfl rfl rfl (decide_eq_true (by omega)) (o_gS rfl rfl rfl rfl (decide_eq_true (by omega)) (o_gS rfl rfl rfl rfl (decide_eq_true (by omega)) (o_gS rfl rfl rfl rfl (decide_eq_true (by omega)) (o_gS rfl rfl rfl rfl (decide_eq_true (by omega)) (o_gS rfl rfl rfl rfl (decide_eq_true (by omega)) (o_gS rfl rfl rfl rfl (decide_eq_true (by omega)) (o_gS rfl rfl rfl rfl (decide_eq_true (by omega)) ?_))))))))
     refine zz [(5,U.box 2 0),(9,U.box 3 0),(14,.int .i64 L),(15,.int .i64 H),(131,U.bool (decide (B - A<H - L))),(134,U.tup []),(139,U.tup [])] [] ([SB.box t.cs,SB.box [.int .i64 n0,.int .i64 n1],SB.box [.int .i64 A,.int .i64 B],SB.box [.lst .ro 2 (zS t.heard),.lst .ro 2 (yS t.scales),.lst .ro 2 (zS t.pairs),.int .i64 A,.int .i64 B],SB.box [.int .i64 (Prod.fst (A,B)),.int .i64 (Prod.snd (A,B))]]) (.c4 rfl rfl rfl rfl (.cons rfl (.cons rfl (.cons rfl (.nil rfl))))) rfl rfl fun fr=>?_
     refine o_gS rfl rfl rfl rfl (decide_eq_true (by omega)) (o_gS rfl rfl rfl rfl (decide_eq_true (by omega)) (o_dead rfl rfl rfl rfl ?_))
     refine o_dead rfl rfl rfl rfl ?_
     refine o_dead rfl rfl rfl rfl ?_
     refine o_dead rfl rfl rfl rfl ?_
     refine o_gS rfl rfl rfl rfl (decide_eq_true (by omega)) (zW rfl rfl (decide_eq_true (by omega)) ?_)
     refine zA ?_
     refine zN [(9,U.box 3 0),(14,.int .i64 L),(15,.int .i64 H),(147,.bool true)] ([SB.box t.cs,SB.box [.int .i64 n0,.int .i64 n1],SB.box [.int .i64 A,.int .i64 B],SB.box [.lst .ro 2 (zS t.heard),.lst .ro 2 (yS t.scales),.lst .ro 2 (zS t.pairs),.int .i64 A,.int .i64 B],SB.box [.int .i64 (Prod.fst (A,B)),.int .i64 (Prod.snd (A,B))]]) (.c4 rfl rfl rfl rfl (.nil rfl)) rfl fun fr=>?_
     refine k_cT rfl rfl ?_
     refine kQ (zQ rfl (r21) (.lrefl _) (zC rfl (zA (zd ?_))))
     refine⟨.inr rfl,_,.cons _ _ _ _ (.tmp 4) .nil,?_⟩
     exact .refl _
    ·by_cases hc2:H - L=B - A
     ·by_cases hc3:L ≥ A
      ·refine k_seq ?_
       refine kQ (zB rfl (zB rfl ?_))
       refine o_sub rfl rfl rfl (by unfold I64;omega) (zD rfl rfl zj (zE rfl rfl rfl sh3 rfl (zD rfl rfl zg (zE rfl rfl rfl sh3 rfl ?_))))
       refine o_sub rfl rfl rfl (by unfold I64;omega) (o_gtr rfl rfl rfl ?_)
       refine zz [(5,U.box 2 0),(9,U.box 3 0),(14,.int .i64 L),(15,.int .i64 H),(130,U.bool (decide (B - A<H - L)))] [] ([SB.box t.cs,SB.box [.int .i64 n0,.int .i64 n1],SB.box [.int .i64 A,.int .i64 B],SB.box [.lst .ro 2 (zS t.heard),.lst .ro 2 (yS t.scales),.lst .ro 2 (zS t.pairs),.int .i64 A,.int .i64 B],SB.box [.int .i64 (Prod.fst (A,B)),.int .i64 (Prod.snd (A,B))]]) (.c4 rfl rfl rfl rfl (.cons rfl (.nil rfl))) rfl rfl fun fr=>?_
       refine zB rfl (o_gD rfl rfl rfl rfl (decide_eq_false (by omega)) (zB rfl (o_gD rfl rfl rfl rfl (decide_eq_false (by omega)) (zB rfl (o_gD rfl rfl rfl rfl (decide_eq_false (by omega)) ?_)))))
       refine o_sub rfl rfl rfl (by unfold I64;omega) (o_gD rfl rfl rfl rfl (decide_eq_false (by omega)) (zD rfl rfl zj (o_gD rfl rfl rfl rfl (decide_eq_false (by omega)) (zE rfl rfl rfl sh3 rfl (o_gD rfl rfl rfl rfl (decide_eq_false (by omega)) (zD rfl rfl zg (o_gD rfl rfl rfl rfl (decide_eq_false (by omega)) (zE rfl rfl rfl sh3 rfl ?_))))))))
       refine o_gD rfl rfl rfl rfl (decide_eq_false (by omega)) ?_
       refine o_sub rfl rfl rfl (by unfold I64;omega) ?_
       refine zz [(5,U.box 2 0),(9,U.box 3 0),(14,.int .i64 L),(15,.int .i64 H),(131,U.bool (decide (B - A<H - L))),(134,.int .i64 (H - L)),(139,.int .i64 (B - A))] [] ([SB.box t.cs,SB.box [.int .i64 n0,.int .i64 n1],SB.box [.int .i64 A,.int .i64 B],SB.box [.lst .ro 2 (zS t.heard),.lst .ro 2 (yS t.scales),.lst .ro 2 (zS t.pairs),.int .i64 A,.int .i64 B],SB.box [.int .i64 (Prod.fst (A,B)),.int .i64 (Prod.snd (A,B))]]) (.c4 rfl rfl rfl rfl (.cons rfl (.cons rfl (.cons rfl (.nil rfl))))) rfl rfl fun fr=>?_
       refine o_gD rfl rfl rfl rfl (decide_eq_false (by omega)) ?_
       refine zz [(5,U.box 2 0),(9,U.box 3 0),(14,.int .i64 L),(15,.int .i64 H),(131,U.bool (decide (B - A<H - L))),(134,.int .i64 (H - L)),(139,.int .i64 (B - A))] [] ([SB.box t.cs,SB.box [.int .i64 n0,.int .i64 n1],SB.box [.int .i64 A,.int .i64 B],SB.box [.lst .ro 2 (zS t.heard),.lst .ro 2 (yS t.scales),.lst .ro 2 (zS t.pairs),.int .i64 A,.int .i64 B],SB.box [.int .i64 (Prod.fst (A,B)),.int .i64 (Prod.snd (A,B))]]) (.c4 rfl rfl rfl rfl (.cons rfl (.cons rfl (.cons rfl (.nil rfl))))) rfl rfl fun fr=>?_
       refine o_eql rfl rfl rfl (o_gD rfl rfl rfl rfl (decide_eq_false (by omega)) (zB rfl (o_gD rfl rfl rfl rfl (decide_eq_true (by omega)) ?_)))
       refine zB rfl (o_gD rfl rfl rfl rfl (decide_eq_true (by omega)) ?_)
       refine zD rfl rfl zg (o_gD rfl rfl rfl rfl (decide_eq_true (by omega)) ?_)
       refine zE rfl rfl rfl sh3 rfl (o_gD rfl rfl rfl rfl (decide_eq_true (by omega)) ?_)
       refine o_geq rfl rfl rfl (o_gD rfl rfl rfl rfl (decide_eq_false (by omega)) (zW rfl rfl (decide_eq_true (by omega)) ?_))
       refine zb rfl rfl (decide_eq_false (by omega)) ?_
       refine zA ?_
       refine zN [(9,U.box 3 0),(14,.int .i64 L),(15,.int .i64 H),(147,U.bool (decide (A≤L)))] ([SB.box t.cs,SB.box [.int .i64 n0,.int .i64 n1],SB.box [.int .i64 A,.int .i64 B],SB.box [.lst .ro 2 (zS t.heard),.lst .ro 2 (yS t.scales),.lst .ro 2 (zS t.pairs),.int .i64 A,.int .i64 B],SB.box [.int .i64 (Prod.fst (A,B)),.int .i64 (Prod.snd (A,B))]]) (.c4 rfl rfl rfl rfl (.nil rfl)) rfl fun fr=>?_
       refine k_cT rfl (decide_eq_true (by omega)) (kQ (zQ rfl (r21) (.lrefl _) (zC rfl (zA (zd ?_)))))
       refine⟨.inr rfl,_,.cons _ _ _ _ (.tmp 4) .nil,?_⟩
       exact .refl _
      ·have hok3:=beat_ok hok (a:=L) (b:=H) (by omega) (by omega) (by omega)
       have hv3:=(valid_iff _).2 hok3
       have hno: ¬ BandE t L H:=fun h=>by have:=hev.min L H (by omega) (by omega) h;omega
       have he3:errT (beatT t L H)=12:=by
        rcases errT_01 (beatT t L H)with h|h
        ·exact absurd ((errT_iff hok3).1 h) hno
        ·exact h
       have r19:=ret19 (orc:=orc) hi (beatT t L H)
       rw[tun_err hv3,he3]at r19
       refine k_seq (kQ (zB rfl (zB rfl ?_)))
       refine o_sub rfl rfl rfl (by unfold I64;omega) (zD rfl rfl zj (zE rfl rfl rfl sh3 rfl (zD rfl rfl zg (zE rfl rfl rfl sh3 rfl ?_))))
       refine o_sub rfl rfl rfl (by unfold I64;omega) (o_gtr rfl rfl rfl ?_)
       refine zz [(5,U.box 2 0),(9,U.box 3 0),(14,.int .i64 L),(15,.int .i64 H),(130,U.bool (decide (B - A<H - L)))] [] ([SB.box t.cs,SB.box [.int .i64 n0,.int .i64 n1],SB.box [.int .i64 A,.int .i64 B],SB.box [.lst .ro 2 (zS t.heard),.lst .ro 2 (yS t.scales),.lst .ro 2 (zS t.pairs),.int .i64 A,.int .i64 B],SB.box [.int .i64 (Prod.fst (A,B)),.int .i64 (Prod.snd (A,B))]]) (.c4 rfl rfl rfl rfl (.cons rfl (.nil rfl))) rfl rfl fun fr=>?_
       refine zB rfl (o_gD rfl rfl rfl rfl (decide_eq_false (by omega)) (zB rfl (o_gD rfl rfl rfl rfl (decide_eq_false (by omega)) (zB rfl (o_gD rfl rfl rfl rfl (decide_eq_false (by omega)) ?_)))))
       refine o_sub rfl rfl rfl (by unfold I64;omega) (o_gD rfl rfl rfl rfl (decide_eq_false (by omega)) (zD rfl rfl zj (o_gD rfl rfl rfl rfl (decide_eq_false (by omega)) (zE rfl rfl rfl sh3 rfl (o_gD rfl rfl rfl rfl (decide_eq_false (by omega)) (zD rfl rfl zg (o_gD rfl rfl rfl rfl (decide_eq_false (by omega)) (zE rfl rfl rfl sh3 rfl ?_))))))))
       refine o_gD rfl rfl rfl rfl (decide_eq_false (by omega)) ?_
       refine o_sub rfl rfl rfl (by unfold I64;omega) ?_
       refine zz [(5,U.box 2 0),(9,U.box 3 0),(14,.int .i64 L),(15,.int .i64 H),(131,U.bool (decide (B - A<H - L))),(134,.int .i64 (H - L)),(139,.int .i64 (B - A))] [] ([SB.box t.cs,SB.box [.int .i64 n0,.int .i64 n1],SB.box [.int .i64 A,.int .i64 B],SB.box [.lst .ro 2 (zS t.heard),.lst .ro 2 (yS t.scales),.lst .ro 2 (zS t.pairs),.int .i64 A,.int .i64 B],SB.box [.int .i64 (Prod.fst (A,B)),.int .i64 (Prod.snd (A,B))]]) (.c4 rfl rfl rfl rfl (.cons rfl (.cons rfl (.cons rfl (.nil rfl))))) rfl rfl fun fr=>?_
       refine o_gD rfl rfl rfl rfl (decide_eq_false (by omega)) ?_
       refine zz [(5,U.box 2 0),(9,U.box 3 0),(14,.int .i64 L),(15,.int .i64 H),(131,U.bool (decide (B - A<H - L))),(134,.int .i64 (H - L)),(139,.int .i64 (B - A))] [] ([SB.box t.cs,SB.box [.int .i64 n0,.int .i64 n1],SB.box [.int .i64 A,.int .i64 B],SB.box [.lst .ro 2 (zS t.heard),.lst .ro 2 (yS t.scales),.lst .ro 2 (zS t.pairs),.int .i64 A,.int .i64 B],SB.box [.int .i64 (Prod.fst (A,B)),.int .i64 (Prod.snd (A,B))]]) (.c4 rfl rfl rfl rfl (.cons rfl (.cons rfl (.cons rfl (.nil rfl))))) rfl rfl fun fr=>?_
       refine o_eql rfl rfl rfl (o_gD rfl rfl rfl rfl (decide_eq_false (by omega)) (zB rfl (o_gD rfl rfl rfl rfl (decide_eq_true (by omega)) ?_)))
       refine zB rfl (o_gD rfl rfl rfl rfl (decide_eq_true (by omega)) ?_)
       refine zD rfl rfl zg (o_gD rfl rfl rfl rfl (decide_eq_true (by omega)) ?_)
       refine zE rfl rfl rfl sh3 rfl (o_gD rfl rfl rfl rfl (decide_eq_true (by omega)) ?_)
       refine o_geq rfl rfl rfl (o_gD rfl rfl rfl rfl (decide_eq_false (by omega)) (zW rfl rfl (decide_eq_true (by omega)) ?_))
       refine zb rfl rfl (decide_eq_false (by omega)) ?_
       refine zA ?_
       refine zN [(9,U.box 3 0),(14,.int .i64 L),(15,.int .i64 H),(147,U.bool (decide (A≤L)))] ([SB.box t.cs,SB.box [.int .i64 n0,.int .i64 n1],SB.box [.int .i64 A,.int .i64 B],SB.box [.lst .ro 2 (zS t.heard),.lst .ro 2 (yS t.scales),.lst .ro 2 (zS t.pairs),.int .i64 A,.int .i64 B],SB.box [.int .i64 (Prod.fst (A,B)),.int .i64 (Prod.snd (A,B))]]) (.c4 rfl rfl rfl rfl (.nil rfl)) rfl fun fr=>?_
       refine k_cF rfl (decide_eq_false (by omega)) (zR (kQ (zB rfl (zB rfl (zQ rfl (q41c) (.lrefl _) (zD rfl rfl fld28_3 (zL rfl rfl sh26 rfl rfl rfl rfl rfl ?_)))))))
       refine zA (kQ (zJ rfl rfl rfl sh28 rfl (zQ rfl (r19) (.lrefl _) (zB rfl (zV rfl rfl rfl (zV rfl rfl rfl (zC rfl (zA ?_))))))))
       refine kQ (zB rfl (o_eql rfl rfl rfl (zB rfl (o_gD rfl rfl rfl rfl rfl (zQ rfl (r21) (.lrefl _) (zW rfl rfl rfl ?_))))))
       refine zC rfl (zA (zd ?_))
       refine⟨.inr rfl,_,.cons _ _ _ _ (.tmp 4) .nil,?_⟩
       exact .refl _
     ·have hok3:=beat_ok hok (a:=L) (b:=H) (by omega) (by omega) (by omega)
      have hv3:=(valid_iff _).2 hok3
      have hno: ¬ BandE t L H:=fun h=>by have:=hev.min L H (by omega) (by omega) h;omega
      have he3:errT (beatT t L H)=12:=by
       rcases errT_01 (beatT t L H)with h|h
       ·exact absurd ((errT_iff hok3).1 h) hno
       ·exact h
      have r19:=ret19 (orc:=orc) hi (beatT t L H)
      rw[tun_err hv3,he3]at r19
      refine k_seq (kQ (zB rfl (zB rfl ?_)))
      refine o_sub rfl rfl rfl (by unfold I64;omega) (zD rfl rfl zj (zE rfl rfl rfl sh3 rfl (zD rfl rfl zg (zE rfl rfl rfl sh3 rfl ?_))))
      refine o_sub rfl rfl rfl (by unfold I64;omega) (o_gtr rfl rfl rfl ?_)
      refine zz [(5,U.box 2 0),(9,U.box 3 0),(14,.int .i64 L),(15,.int .i64 H),(130,U.bool (decide (B - A<H - L)))] [] ([SB.box t.cs,SB.box [.int .i64 n0,.int .i64 n1],SB.box [.int .i64 A,.int .i64 B],SB.box [.lst .ro 2 (zS t.heard),.lst .ro 2 (yS t.scales),.lst .ro 2 (zS t.pairs),.int .i64 A,.int .i64 B],SB.box [.int .i64 (Prod.fst (A,B)),.int .i64 (Prod.snd (A,B))]]) (.c4 rfl rfl rfl rfl (.cons rfl (.nil rfl))) rfl rfl fun fr=>?_
      refine zB rfl (o_gD rfl rfl rfl rfl (decide_eq_false (by omega)) (zB rfl (o_gD rfl rfl rfl rfl (decide_eq_false (by omega)) (zB rfl (o_gD rfl rfl rfl rfl (decide_eq_false (by omega)) ?_)))))
      refine o_sub rfl rfl rfl (by unfold I64;omega) (o_gD rfl rfl rfl rfl (decide_eq_false (by omega)) (zD rfl rfl zj (o_gD rfl rfl rfl rfl (decide_eq_false (by omega)) (zE rfl rfl rfl sh3 rfl (o_gD rfl rfl rfl rfl (decide_eq_false (by omega)) (zD rfl rfl zg (o_gD rfl rfl rfl rfl (decide_eq_false (by omega)) (zE rfl rfl rfl sh3 rfl ?_))))))))
      refine o_gD rfl rfl rfl rfl (decide_eq_false (by omega)) ?_
      refine o_sub rfl rfl rfl (by unfold I64;omega) ?_
      refine zz [(5,U.box 2 0),(9,U.box 3 0),(14,.int .i64 L),(15,.int .i64 H),(131,U.bool (decide (B - A<H - L))),(134,.int .i64 (H - L)),(139,.int .i64 (B - A))] [] ([SB.box t.cs,SB.box [.int .i64 n0,.int .i64 n1],SB.box [.int .i64 A,.int .i64 B],SB.box [.lst .ro 2 (zS t.heard),.lst .ro 2 (yS t.scales),.lst .ro 2 (zS t.pairs),.int .i64 A,.int .i64 B],SB.box [.int .i64 (Prod.fst (A,B)),.int .i64 (Prod.snd (A,B))]]) (.c4 rfl rfl rfl rfl (.cons rfl (.cons rfl (.cons rfl (.nil rfl))))) rfl rfl fun fr=>?_
      refine o_gD rfl rfl rfl rfl (decide_eq_false (by omega)) ?_
      refine zz [(5,U.box 2 0),(9,U.box 3 0),(14,.int .i64 L),(15,.int .i64 H),(131,U.bool (decide (B - A<H - L))),(134,.int .i64 (H - L)),(139,.int .i64 (B - A))] [] ([SB.box t.cs,SB.box [.int .i64 n0,.int .i64 n1],SB.box [.int .i64 A,.int .i64 B],SB.box [.lst .ro 2 (zS t.heard),.lst .ro 2 (yS t.scales),.lst .ro 2 (zS t.pairs),.int .i64 A,.int .i64 B],SB.box [.int .i64 (Prod.fst (A,B)),.int .i64 (Prod.snd (A,B))]]) (.c4 rfl rfl rfl rfl (.cons rfl (.cons rfl (.cons rfl (.nil rfl))))) rfl rfl fun fr=>?_
      refine o_eql rfl rfl rfl (o_gD rfl rfl rfl rfl (decide_eq_false (by omega)) (zB rfl (o_gS rfl rfl rfl rfl (decide_eq_false (by omega)) ?_)))
      refine o_gS rfl rfl rfl rfl (decide_eq_false (by omega)) ?_
      refine o_gS rfl rfl rfl rfl (decide_eq_false (by omega)) ?_
      refine o_gS rfl rfl rfl rfl (decide_eq_false (by omega)) ?_
      refine o_gD rfl rfl rfl rfl (decide_eq_false (by omega)) (zb rfl rfl (decide_eq_false (by omega)) ?_)
      refine zb rfl rfl (decide_eq_false (by omega)) ?_
      refine zA ?_
      refine zN [(9,U.box 3 0),(14,.int .i64 L),(15,.int .i64 H),(147,.bool false)] ([SB.box t.cs,SB.box [.int .i64 n0,.int .i64 n1],SB.box [.int .i64 A,.int .i64 B],SB.box [.lst .ro 2 (zS t.heard),.lst .ro 2 (yS t.scales),.lst .ro 2 (zS t.pairs),.int .i64 A,.int .i64 B],SB.box [.int .i64 (Prod.fst (A,B)),.int .i64 (Prod.snd (A,B))]]) (.c4 rfl rfl rfl rfl (.nil rfl)) rfl fun fr=>?_
      refine k_cF rfl rfl ?_
      refine zR (kQ (zB rfl (zB rfl (zQ rfl (q41c) (.lrefl _) (zD rfl rfl fld28_3 (zL rfl rfl sh26 rfl rfl rfl rfl rfl ?_))))))
      refine zA (kQ (zJ rfl rfl rfl sh28 rfl (zQ rfl (r19) (.lrefl _) (zB rfl (zV rfl rfl rfl (zV rfl rfl rfl (zC rfl (zA ?_))))))))
      refine kQ (zB rfl (o_eql rfl rfl rfl (zB rfl (o_gD rfl rfl rfl rfl rfl (zQ rfl (r21) (.lrefl _) (zW rfl rfl rfl ?_))))))
      refine zC rfl (zA (zd ?_))
      refine⟨.inr rfl,_,.cons _ _ _ _ (.tmp 4) .nil,?_⟩
      exact .refl _
   ·have e2:evP t=(0,0):=by unfold evP;rw[e,he];rfl
    rw[e,e2,he]at q28
    rw[he]at q19
    refine kQ (yH rfl rfl (yH rfl rfl (zC rfl (zA ?_))))
    refine zN [(2,U.box 0 0),(3,U.box 1 0)] ([SB.box t.cs,SB.box [.int .i64 n0,.int .i64 n1]]) (.cons rfl (.cons rfl (.nil rfl))) rfl fun fr=>?_
    refine kQ (zJ rfl rfl rfl sh28 rfl (zQ rfl (q28) (.lrefl _) (zB rfl (zV rfl rfl rfl (zV rfl rfl rfl (zX rfl ze26 ?_))))))
    refine zL rfl rfl sh26 rfl rfl rfl rfl rfl ?_
    refine zC rfl (zA ?_)
    refine zN [(2,U.box 0 0),(3,U.box 1 0),(5,U.box 2 0),(6,.int .i64 12)] ([SB.box t.cs,SB.box [.int .i64 n0,.int .i64 n1],SB.box [.int .i64 (Prod.fst ((0:Int),(0:Int))),.int .i64 (Prod.snd ((0:Int),(0:Int)))]]) (.c4 rfl rfl rfl rfl (.nil rfl)) rfl fun fr=>?_
    refine k_seq (kQ (zJ rfl rfl rfl sh28 rfl (zQ rfl (q35) (.lrefl _) (o_not rfl rfl (zA (k_cF rfl rfl ?_))))))
    refine zR (kQ (zJ rfl rfl rfl sh28 rfl (zQ rfl (q19) (.lrefl _) (zB rfl (zV rfl rfl rfl (zV rfl rfl rfl (zC rfl (zC rfl ?_))))))))
    refine zA (k_seq (kQ (zD rfl rfl fld28_2 (zE rfl rfl rfl sh24 rfl (yW rfl ty24 rfl (List.length_map _) ?_)))))
    refine o_eql rfl rfl rfl (zA ?_)
    refine zN [(2,U.box 0 0),(3,U.box 1 0),(5,U.box 2 0),(6,.int .i64 12),(8,.int .i64 12),(42,U.bool (decide (↑(List.length t.pairs)=(0:Int))))] ([SB.box t.cs,SB.box [.int .i64 n0,.int .i64 n1],SB.box [.int .i64 (Prod.fst ((0:Int),(0:Int))),.int .i64 (Prod.snd ((0:Int),(0:Int)))]]) (.c4 rfl rfl rfl rfl (.cons rfl (.cons rfl (.nil rfl)))) rfl fun fr=>?_
    refine k_cF rfl (decide_eq_false (by omega)) (zR (k_seq (kQ (zB rfl (o_neq rfl rfl rfl (zA (k_cT rfl rfl ?_)))))))
    refine k_seq (k_draw [.plain,.plain,.plain,.plain,.plain,.plain,.plain,.plain,.read true,.read false,.plain,.plain,.plain,.plain,.plain,.plain] (by kernel_rfl) (by kernel_rfl) (by kernel_rfl) ?_)
    refine zG (zB rfl (zA rfl)) (zG (o_eql rfl rfl rfl (zA rfl)) ?_)
    refine zG (zB rfl (zA rfl)) (d_gD rfl rfl rfl rfl rfl (zG (zB rfl (zA rfl)) (d_gD rfl rfl rfl rfl rfl (zG (zB rfl (zA rfl)) (d_gD rfl rfl rfl rfl rfl (zG (o_eql rfl rfl rfl (zA rfl)) ?_))))))
    refine zG (zW rfl rfl rfl (zA rfl)) ?_
    refine zG (zB rfl (zA rfl)) (d_gD rfl rfl rfl rfl rfl (zq rfl (zJ rfl rfl rfl sh26 rfl (zA rfl)) ?_))
    refine d_genA [(62,U.bool (decide ((12:Int)=(12:Int)))),(63,U.agg [.int .i64 (Prod.fst ((0:Int),(0:Int))),.int .i64 (Prod.snd ((0:Int),(0:Int)))])] [] ([SB.box t.cs,SB.box [.int .i64 n0,.int .i64 n1],SB.box [.int .i64 (Prod.fst ((0:Int),(0:Int))),.int .i64 (Prod.snd ((0:Int),(0:Int)))]]) (.cons rfl (.cons rfl (.nil rfl))) rfl rfl fun fr=>?_
    refine d_gD rfl rfl rfl rfl rfl ?_
    refine d_genA [(62,U.bool (decide ((12:Int)=(12:Int)))),(63,U.agg [.int .i64 (Prod.fst ((0:Int),(0:Int))),.int .i64 (Prod.snd ((0:Int),(0:Int)))])] [] ([SB.box t.cs,SB.box [.int .i64 n0,.int .i64 n1],SB.box [.int .i64 (Prod.fst ((0:Int),(0:Int))),.int .i64 (Prod.snd ((0:Int),(0:Int)))]]) (.cons rfl (.cons rfl (.nil rfl))) rfl rfl fun fr=>?_
    refine d_callR rfl (q41) (flat_span _ _) (.lrefl _) ?_
    refine d_gD rfl rfl rfl rfl rfl (zG (o_binK rfl rfl rfl rfl rfl (spn_same _ _) (zA rfl)) ?_)
    refine zG (zW rfl rfl rfl (zA rfl)) ?_
    refine zG (zB rfl (zA rfl)) (d_gD rfl rfl rfl rfl rfl (zG (zQ rfl (r21) (.lrefl _) (zA rfl)) ?_))
    refine zG (zW rfl rfl rfl (zA rfl)) ?_
    refine zG (zC rfl (zA rfl)) ?_
    refine d_nil ?_
    refine zd ?_
    refine⟨.inr rfl,_,.cons _ _ _ _ (.tmp 4) .nil,?_⟩
    exact .refl _
end
section
variable {is:FuncId→Bool}{orc:Known}
theorem ret11_all(hi:Off is)(r21:RetP Try.prog is orc 21 [] (.bool true)):∀us,ShpAs Try.prog [28,48] us→RetP Try.prog is orc 11 us (.bool true):=by
 intro us h
 cases h with
 |cons _ _ u us h1 h=>cases h with
 |cons _ _ v us h2 h=>
 cases h
 obtain⟨fs,hu⟩:=und28
 unfold ShpA at h1 h2
 rw[hu]at h1
 rw[u48]at h2
 obtain⟨t,rfl⟩:=arg_set h1
 obtain⟨a,b,rfl⟩:=arg_two h2
 exact ret11 hi t a b r21
end
end Go.Proofs.Ytinhcdijbcamaaa.tuneEven
