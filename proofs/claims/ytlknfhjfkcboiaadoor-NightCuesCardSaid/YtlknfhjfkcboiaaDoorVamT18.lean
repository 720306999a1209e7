import Derived.Test.YtlknfhjfkcboiaaDoorVamT17
set_option linter.unusedVariables false
set_option linter.unusedSimpArgs false
set_option linter.constructorNameAsVariable false
namespace Go.Proofs.YtlknfhjfkcboiaaDoor.night
open Vam
variable {is:FuncId→Bool}{orc:Known}{b:Bk}
noncomputable def b26:Code:=(Tryd.f26.body).getD .skip
theorem body26:bodyOf Tryd.prog 26=some (67,b26,[.tmp 4,.tmp 5]):=by kernel_rfl
theorem pure26:pureFn Tryd.prog 26=true:=by kernel_rfl
theorem done_iff{d:List Int}:wZ b d=true↔d.length≤b.scenes.length∧∀(j:Nat) (x:Int),d[j]? =some x→dnB b j x=true:=by
 unfold wZ
 rw[Bool.and_eq_true,decide_eq_true_eq,dnF_at]
 simp only[Nat.zero_add]
def Dn(b:Bk)(d:List Int)(i:Nat):Prop:=d.length≤b.scenes.length∧∀(j:Nat) (x:Int),j<i→d[j]? =some x→dnB b j x=true
theorem Dn_succ{d:List Int}{i:Nat}{x:Int}(hx:d[i]? =some x):Dn b d (i+1)↔Dn b d i∧dnB b i x=true:=zEH (Q:=fun j x=>dnB b j x=true) hx
theorem Dn_mono{d:List Int}{i j:Nat}(h:i≤j):Dn b d j→Dn b d i:=fun⟨h1,h2⟩=>⟨h1,fun k q hk=>h2 k q (by omega)⟩
theorem Dn_all{d:List Int}:Dn b d d.length↔wZ b d=true:=by
 rw[done_iff]
 exact⟨fun h=>⟨h.1,fun j x hx=>h.2 j x (List.getElem?_eq_some_iff.1 hx).1 hx⟩,fun h=>⟨h.1,fun j x _ hx=>h.2 j x hx⟩⟩
set_option maxHeartbeats 16000000 in
theorem ret26(hi:Off is)(h:VOk b)(d:List Int):RetP Tryd.prog is orc 26 [b.u,.lst .ro 1 (zE d)] (cueR b d):=by
 have q18:=ret18 (orc:=orc) hi b
 rw[if_pos ((zCY b).2 h)]at q18
 have hc:wZ b d=true→cueR b d=.tup [optU (cueO b d),.int .i64 (if(lgt b d).isSome=true then 0 else 4)]:=fun hd=>by unfold cueR;rw[if_pos hd]
 have hn:wZ b d=false→cueR b d=.tup [.lst .full 0 [],.int .i64 101]:=fun hd=>by unfold cueR;rw[if_neg (by rw[hd];decide)]
 have hso:(lgt b d).isSome=(cueO b d).isSome:=by unfold cueO;cases lgt b d<;>rfl
 have q64:=fun hd=>ret64 (orc:=orc) hi h.toBOk (d:=d) hd
 refine zp body26 pure26 (hi 26 (by decide)) rfl rfl (zu (wU b 4) (zR 6 .ro (fun h=>by cases h) 1 d)) (by
  cases hd:wZ b d with
  |true=>rw[hc hd];exact .inr ⟨_,rfl,zu (k:=7) (dat_opt _ 5) (.int _ _ _)⟩
  |false=>rw[hn hd];exact .inr ⟨_,rfl,zu (k:=7) (zCs 5) (.int _ _ _)⟩) ?_
 rw[hso]at hc q64
 refine kQ (yB rfl rfl (zB rfl (zB rfl (zC ?_))))
 refine zF [(1,.lst .ro 1 (zE d)),(2,U.box 0 0)] ([SB.box (Bk.cs b)]) (.n2 rfl) rfl fun fr=>?_
 refine k_seq (kQ (kD sh25 rfl (zG rfl (q18) (.lrefl _) (zB rfl (zC (kQ (zA rfl (ku rfl (zC (k_cF rfl rfl ?_))))))))))
 refine zJ (kQ (zA rfl (zP rfl ty22 rfl (List.length_map _) ?_)))
 refine kA rfl ze (kC sh23 rfl (zP rfl ty23 rfl (List.length_map _) ?_))
 refine ks rfl (zB rfl (zC ?_))
 refine k_cut (fun st=>∃(z:Bool) (e:List SB),(z=true↔wZ b d=true)∧st.st=[.box (Bk.cs b)]++e∧Holds st [(1,.lst .ro 1 (zE d)),(2,.box 0 0),(7,.bool z)]) ?_ (fun st hM=>?_)
 ·have hz0:(decide ((d.length:Int)≤b.scenes.length))=true↔Dn b d 0:=by
   rw[decide_eq_true_eq]
   exact⟨fun h=>⟨by omega,fun j x hj=>by omega⟩,fun h=>by have:=h.1;omega⟩
  generalize decide ((d.length:Int)≤b.scenes.length)=z at*
  refine kQ (zB rfl (zC (zH ?_)))
  refine yR (fun kk s2=>∃(i:Nat) (w:Bool) (e:List SB),kk+i=d.length∧(w=true↔Dn b d i)∧s2.st=[.box (Bk.cs b)]++e∧Holds s2 [(1,.lst .ro 1 (zE d)),(2,.box 0 0),(7,.bool w),(8,.int .i64 i)]) (fun kk s2 hI=>?_) d.length _ ⟨0,z,[],by omega,hz0,rfl,.c4 rfl rfl rfl rfl (.nil rfl)⟩
  obtain⟨i,w,e,hk,hw,hst2,hs2⟩:=hI
  obtain⟨Y,hY⟩:∃Y:List SB,Y=[.box (Bk.cs b)]++e:=⟨_,rfl⟩
  have y0:Y[0]? =some (.box (Bk.cs b)):=by rw[hY];rfl
  rw[←hY]at hst2
  refine zF _ _ hs2 hst2 fun fr2=>?_
  cases w with
  |false=>
   have hn: ¬ Dn b d i:=fun hp=>by cases hw.2 hp
   refine k_seq (kQ (zA rfl (zA rfl (ke rfl (ke rfl (ke rfl (ke rfl (kF rfl ?_))))))))
   refine zC (k_cF rfl rfl ?_)
   refine zr ?_
   exact⟨rfl,false,e,zEB (fun hp=>hn (Dn_mono (by
    exact Nat.le_trans (Nat.le_add_left _ _) (Nat.le_of_eq hk)) (Dn_all.2 hp))),hY,.cons rfl (.n2 rfl)⟩
  |true=>
   have hP:=hw.1 rfl
   have hdl:=hP.1
   have hsn:=h.sn
   by_cases hin:i<d.length
   ·obtain⟨x,hx⟩:∃x,d[i]? =some x:=⟨d[i],List.getElem?_eq_getElem hin⟩
    obtain⟨q,hq⟩:∃q,b.scenes[i]? =some q:=⟨b.scenes[i],List.getElem?_eq_getElem (by omega)⟩
    have hm:zAT b i=q.must:=by unfold zAT;rw[hq];rfl
    have hdn:dnB b i x=((decide (x= -1)&& !q.must)||inS q.lo q.hi x):=by unfold dnB;rw[hq,hm]
    have hsu:=Dn_succ (b:=b) hx
    have hsu:Dn b d (i+1)↔dnB b i x=true:=⟨fun h=>(hsu.1 h).2,fun h=>hsu.2 ⟨hP,h⟩⟩
    have q34:=ret34 (orc:=orc) hi q.lo q.hi x
    have hYe:Y++[SB.box [.int .i64 q.part,.int .i64 q.wt,.int .i64 q.lo,.int .i64 q.hi,.bool q.must]]=[.box (Bk.cs b)]++(e++[SB.box [.int .i64 q.part,.int .i64 q.wt,.int .i64 q.lo,.int .i64 q.hi,.bool q.must]]):=by rw[hY,List.append_assoc]
    refine k_seq (kQ (zA rfl (zA rfl (kf rfl (zA rfl (kf rfl (zA rfl (kf rfl (zP rfl ty22 rfl (List.length_map _) ?_)))))))))
    refine kf rfl (kq rfl (kG rfl ?_))
    refine zC (k_cT rfl (kH (by omega)) (zJ (k_seq (zH (kQ (kA rfl ze (zQ rfl rfl y0 sh23 rfl ?_)))))))
    refine zA rfl (zX (u:=(q).u) rfl ty23 rfl rfl (Int.natCast_nonneg _) (by simp[hq]) cl50 ?_)
    refine yi rfl rfl sh50 rfl ?_
    refine zq rfl ze50 ?_
    refine zZ rfl (za _ _) sh50 rfl rfl rfl rfl rfl ?_
    refine zC ?_
    refine zF [(1,.lst .ro 1 (zE d)),(2,.box 0 0),(7,.bool true),(8,.int .i64 i),(9,.box Y.length 0)] (Y++[SB.box [.int .i64 q.part,.int .i64 q.wt,.int .i64 q.lo,.int .i64 q.hi,.bool q.must]]) (.n5 rfl) (by show(Y++[SB.box _]).set Y.length (SB.box _)=_;rw[yc];rfl) fun fr3=>?_
    rw[hdn]at hsu
    cases c1:inS q.lo q.hi x with
    |true=>
     rw[c1]at q34 hsu
     rw[Bool.or_true]at hsu
     refine wH [.plain,.read true,.plain,.plain,.plain,.read true,.plain,.plain,.plain,.plain,.plain,.plain,.plain,.plain,.plain,.plain,.plain,.plain,.plain,.plain] (by kernel_rfl) (by kernel_rfl) (by kernel_rfl) ?_
     refine zD (kA rfl wM (zC rfl)) ?_
     refine zV rfl (yK rfl rfl (za _ _) sh48 rfl (zC rfl)) ?_
     refine zD (zA rfl (zC rfl)) (zD (zA rfl (zC rfl)) (zD (zX (u:=.int .i64 (x)) rfl ty22 rfl rfl (Int.natCast_nonneg _) (by simp[hx]) cl3 (zC rfl)) ?_))
     refine zV rfl (kE sh3 rfl (zC rfl)) ?_
     refine zD (zG rfl (q34) (.lrefl _) (zC rfl)) ?_
     refine zD (zA rfl (zC rfl)) (kj rfl ?_)
     refine yY [(1,.lst .ro 1 (zE d)),(2,U.box 0 0),(8,.int .i64 ↑i),(9,U.box (List.length Y) 0),(44,.bool true),(45,U.tup [])] [] (Y++[SB.box [.int .i64 (Sc.part q),.int .i64 (Sc.wt q),.int .i64 (Sc.lo q),.int .i64 (Sc.hi q),U.bool (Sc.must q)]]) (.n6 rfl) rfl rfl fun fr=>?_
     refine kj rfl (kj rfl (kj rfl (kj rfl (kj rfl (d_dead rfl rfl rfl rfl ?_)))))
     refine d_dead rfl rfl rfl rfl ?_
     refine d_dead rfl rfl rfl rfl ?_
     refine kj rfl ?_
     refine yY [(1,.lst .ro 1 (zE d)),(2,U.box 0 0),(8,.int .i64 ↑i),(44,.bool true),(45,U.tup []),(46,U.tup []),(47,U.tup []),(48,U.tup []),(49,U.tup []),(50,U.tup []),(51,U.tup []),(52,U.tup []),(53,U.tup []),(54,U.tup [])] [] (Y++[SB.box [.int .i64 (Sc.part q),.int .i64 (Sc.wt q),.int .i64 (Sc.lo q),.int .i64 (Sc.hi q),U.bool (Sc.must q)]]) (.c4 rfl rfl rfl rfl (.n10 rfl)) rfl rfl fun fr=>?_
     refine zD (kG rfl (zC rfl)) ?_
     refine zD (zB rfl (zC rfl)) ?_
     refine zAo ?_
     refine zF [(1,.lst .ro 1 (zE d)),(2,U.box 0 0),(7,.bool true),(8,.int .i64 ↑i),(45,U.tup []),(46,U.tup []),(47,U.tup []),(48,U.tup []),(49,U.tup []),(50,U.tup []),(51,U.tup []),(52,U.tup []),(53,U.tup []),(54,U.tup [])] (Y++[SB.box [.int .i64 (Sc.part q),.int .i64 (Sc.wt q),.int .i64 (Sc.lo q),.int .i64 (Sc.hi q),U.bool (Sc.must q)]]) (.c4 rfl rfl rfl rfl (.n10 rfl)) rfl fun fr=>?_
     refine k_region (zA rfl ?_)
     refine kB rfl (by unfold I64;omega) (zB rfl (zC ?_))
     exact⟨kk - 1,by omega,i+1,true,e++[SB.box [.int .i64 q.part,.int .i64 q.wt,.int .i64 q.lo,.int .i64 q.hi,.bool q.must]],by omega,hsu.symm,hYe,.c4 rfl rfl rfl rfl (.nil rfl)⟩
    |false=>
     rw[c1]at q34 hsu
     rw[Bool.or_false]at hsu
     by_cases c2:x= -1
     ·rw[kH c2,Bool.true_and]at hsu
      refine wH [.plain,.read true,.plain,.plain,.plain,.read true,.plain,.plain,.plain,.plain,.plain,.plain,.plain,.plain,.plain,.plain,.plain,.plain,.plain,.plain] (by kernel_rfl) (by kernel_rfl) (by kernel_rfl) ?_
      refine zD (kA rfl wM (zC rfl)) ?_
      refine zV rfl (yK rfl rfl (za _ _) sh48 rfl (zC rfl)) ?_
      refine zD (zA rfl (zC rfl)) (zD (zA rfl (zC rfl)) (zD (zX (u:=.int .i64 (x)) rfl ty22 rfl rfl (Int.natCast_nonneg _) (by simp[hx]) cl3 (zC rfl)) ?_))
      refine zV rfl (kE sh3 rfl (zC rfl)) ?_
      refine zD (zG rfl (q34) (.lrefl _) (zC rfl)) ?_
      refine zD (zA rfl (zC rfl)) (kl rfl (zD (zA rfl (zC rfl)) ?_))
      refine yY [(1,.lst .ro 1 (zE d)),(2,U.box 0 0),(8,.int .i64 ↑i),(9,U.box (List.length Y) 0),(44,.bool false),(45,.lst .ro 1 (zE d))] [] (Y++[SB.box [.int .i64 (Sc.part q),.int .i64 (Sc.wt q),.int .i64 (Sc.lo q),.int .i64 (Sc.hi q),U.bool (Sc.must q)]]) (.n6 rfl) rfl rfl fun fr=>?_
      refine kl rfl ?_
      refine yY [(1,.lst .ro 1 (zE d)),(2,U.box 0 0),(8,.int .i64 ↑i),(9,U.box (List.length Y) 0),(44,.bool false),(45,.lst .ro 1 (zE d))] [] (Y++[SB.box [.int .i64 (Sc.part q),.int .i64 (Sc.wt q),.int .i64 (Sc.lo q),.int .i64 (Sc.hi q),U.bool (Sc.must q)]]) (.n6 rfl) rfl rfl fun fr=>?_
      refine zD (zA rfl (zC rfl)) (kl rfl (zD (zX (u:=.int .i64 (x)) rfl ty22 rfl rfl (Int.natCast_nonneg _) (by simp[hx]) cl3 (zC rfl)) ?_))
      refine kl rfl (zD (kE sh3 rfl (zC rfl)) ?_)
      refine kl rfl (zD (kw rfl (zC rfl)) ?_)
      refine kl rfl (zD (zA rfl (zC rfl)) (kn rfl (kH (by omega)) ?_))
      refine zD (kA rfl zEY (zC rfl)) ?_
      refine kn rfl (kH (by omega)) ?_
      refine zD (zQ rfl rfl (za _ _) sh4 rfl (zC rfl)) ?_
      refine kn rfl (kH (by omega)) ?_
      refine zD (zh rfl rfl (zC rfl)) ?_
      refine kl rfl (zD (zc rfl rfl (kH (by omega)) (zC rfl)) ?_)
      refine yY [(1,.lst .ro 1 (zE d)),(2,U.box 0 0),(8,.int .i64 ↑i),(44,.bool false),(45,.lst .ro 1 (zE d)),(46,.int .i64 ↑i),(47,U.eref [.int .i64 x] 0),(48,.int .i64 x),(49,U.bool (decide (x=(-1:Int)))),(50,U.bool (decide (x=(-1:Int)))),(51,U.box (List.length Y) 4),(52,U.bool (Sc.must q)),(53,U.bool !Sc.must q),(54,U.bool !Sc.must q)] [] (Y++[SB.box [.int .i64 (Sc.part q),.int .i64 (Sc.wt q),.int .i64 (Sc.lo q),.int .i64 (Sc.hi q),U.bool (Sc.must q)]]) (.c4 rfl rfl rfl rfl (.n10 rfl)) rfl rfl fun fr=>?_
      refine zD (kF rfl (zC rfl)) ?_
      refine zD (zB rfl (zC rfl)) ?_
      refine zAo ?_
      refine zF [(1,.lst .ro 1 (zE d)),(2,U.box 0 0),(7,U.bool !Sc.must q),(8,.int .i64 ↑i),(45,.lst .ro 1 (zE d)),(46,.int .i64 ↑i),(47,U.eref [.int .i64 x] 0),(48,.int .i64 x),(49,U.bool (decide (x=(-1:Int)))),(50,U.bool (decide (x=(-1:Int)))),(51,U.box (List.length Y) 4),(52,U.bool (Sc.must q)),(53,U.bool !Sc.must q),(54,U.bool !Sc.must q)] (Y++[SB.box [.int .i64 (Sc.part q),.int .i64 (Sc.wt q),.int .i64 (Sc.lo q),.int .i64 (Sc.hi q),U.bool (Sc.must q)]]) (.c4 rfl rfl rfl rfl (.n10 rfl)) rfl fun fr=>?_
      refine k_region (zA rfl ?_)
      refine kB rfl (by unfold I64;omega) (zB rfl (zC ?_))
      exact⟨kk - 1,by omega,i+1, !q.must,e++[SB.box [.int .i64 q.part,.int .i64 q.wt,.int .i64 q.lo,.int .i64 q.hi,.bool q.must]],by omega,hsu.symm,hYe,.c4 rfl rfl rfl rfl (.nil rfl)⟩
     ·rw[kI c2,Bool.false_and]at hsu
      refine wH [.plain,.read true,.plain,.plain,.plain,.read true,.plain,.plain,.plain,.plain,.plain,.plain,.plain,.plain,.plain,.plain,.plain,.plain,.plain,.plain] (by kernel_rfl) (by kernel_rfl) (by kernel_rfl) ?_
      refine zD (kA rfl wM (zC rfl)) ?_
      refine zV rfl (yK rfl rfl (za _ _) sh48 rfl (zC rfl)) ?_
      refine zD (zA rfl (zC rfl)) (zD (zA rfl (zC rfl)) (zD (zX (u:=.int .i64 (x)) rfl ty22 rfl rfl (Int.natCast_nonneg _) (by simp[hx]) cl3 (zC rfl)) ?_))
      refine zV rfl (kE sh3 rfl (zC rfl)) ?_
      refine zD (zG rfl (q34) (.lrefl _) (zC rfl)) ?_
      refine zD (zA rfl (zC rfl)) (kl rfl (zD (zA rfl (zC rfl)) ?_))
      refine yY [(1,.lst .ro 1 (zE d)),(2,U.box 0 0),(8,.int .i64 ↑i),(9,U.box (List.length Y) 0),(44,.bool false),(45,.lst .ro 1 (zE d))] [] (Y++[SB.box [.int .i64 (Sc.part q),.int .i64 (Sc.wt q),.int .i64 (Sc.lo q),.int .i64 (Sc.hi q),U.bool (Sc.must q)]]) (.n6 rfl) rfl rfl fun fr=>?_
      refine kl rfl ?_
      refine yY [(1,.lst .ro 1 (zE d)),(2,U.box 0 0),(8,.int .i64 ↑i),(9,U.box (List.length Y) 0),(44,.bool false),(45,.lst .ro 1 (zE d))] [] (Y++[SB.box [.int .i64 (Sc.part q),.int .i64 (Sc.wt q),.int .i64 (Sc.lo q),.int .i64 (Sc.hi q),U.bool (Sc.must q)]]) (.n6 rfl) rfl rfl fun fr=>?_
      refine zD (zA rfl (zC rfl)) (kl rfl (zD (zX (u:=.int .i64 (x)) rfl ty22 rfl rfl (Int.natCast_nonneg _) (by simp[hx]) cl3 (zC rfl)) ?_))
      refine kl rfl (zD (kE sh3 rfl (zC rfl)) ?_)
      refine kl rfl (zD (kw rfl (zC rfl)) ?_)
      refine kl rfl (zD (zA rfl (zC rfl)) (km rfl (kI (by omega)) ?_))
      refine km rfl (kI (by omega)) ?_
      refine km rfl (kI (by omega)) ?_
      refine kl rfl (zD (zW rfl rfl (kI (by omega)) (zC rfl)) ?_)
      refine yY [(1,.lst .ro 1 (zE d)),(2,U.box 0 0),(8,.int .i64 ↑i),(44,.bool false),(45,.lst .ro 1 (zE d)),(46,.int .i64 ↑i),(47,U.eref [.int .i64 x] 0),(48,.int .i64 x),(49,U.bool (decide (x=(-1:Int)))),(50,U.bool (decide (x=(-1:Int)))),(51,U.tup []),(52,U.tup []),(53,U.tup []),(54,.bool false)] [] (Y++[SB.box [.int .i64 (Sc.part q),.int .i64 (Sc.wt q),.int .i64 (Sc.lo q),.int .i64 (Sc.hi q),U.bool (Sc.must q)]]) (.c4 rfl rfl rfl rfl (.n10 rfl)) rfl rfl fun fr=>?_
      refine zD (kF rfl (zC rfl)) ?_
      refine zD (zB rfl (zC rfl)) ?_
      refine zAo ?_
      refine zF [(1,.lst .ro 1 (zE d)),(2,U.box 0 0),(7,.bool false),(8,.int .i64 ↑i),(45,.lst .ro 1 (zE d)),(46,.int .i64 ↑i),(47,U.eref [.int .i64 x] 0),(48,.int .i64 x),(49,U.bool (decide (x=(-1:Int)))),(50,U.bool (decide (x=(-1:Int)))),(51,U.tup []),(52,U.tup []),(53,U.tup []),(54,.bool false)] (Y++[SB.box [.int .i64 (Sc.part q),.int .i64 (Sc.wt q),.int .i64 (Sc.lo q),.int .i64 (Sc.hi q),U.bool (Sc.must q)]]) (.c4 rfl rfl rfl rfl (.n10 rfl)) rfl fun fr=>?_
      refine k_region (zA rfl ?_)
      refine kB rfl (by unfold I64;omega) (zB rfl (zC ?_))
      exact⟨kk - 1,by omega,i+1,false,e++[SB.box [.int .i64 q.part,.int .i64 q.wt,.int .i64 q.lo,.int .i64 q.hi,.bool q.must]],by omega,hsu.symm,hYe,.c4 rfl rfl rfl rfl (.nil rfl)⟩
   ·have hie:i=d.length:=by omega
    subst hie
    refine k_seq (kQ (zA rfl (zA rfl (kf rfl (zA rfl (kf rfl (zA rfl (kf rfl (zP rfl ty22 rfl (List.length_map _) ?_)))))))))
    refine kf rfl (kq rfl (kG rfl ?_))
    refine zC (k_cF rfl (kI (by omega)) (zr ?_))
    exact⟨rfl,true,e,hw.trans Dn_all,hY,.cons rfl (.n2 rfl)⟩
 obtain⟨z,e,hz,hst,hs⟩:=hM
 obtain⟨Y,hY⟩:∃Y:List SB,Y=[.box (Bk.cs b)]++e:=⟨_,rfl⟩
 have y0:Y[0]? =some (.box (Bk.cs b)):=by rw[hY];rfl
 rw[←hY]at hst
 clear hY
 refine zF _ _ hs hst fun fr=>?_
 cases z with
 |false=>
  have hd:wZ b d=false:=by
   cases hd:wZ b d with
   |false=>rfl
   |true=>have:=hz.2 hd;cases this
  rw[hn hd]
  refine k_seq (kQ (zA rfl (zh rfl rfl (zC (k_cT rfl rfl ?_)))))
  refine kQ (zB rfl (zB rfl (zC (zS ?_))))
  refine⟨.inr rfl,_,.cons _ _ _ _ (.tmp 4) (.cons _ _ _ _ (.tmp 5) .nil),?_⟩
  exact .refl _
 |true=>
  have hd:=hz.1 rfl
  rw[hc hd]
  have q64:=q64 hd
  generalize cueO b d=o at*
  cases o with
  |none=>
   have q64:RetP Tryd.prog is orc 64 [b.u,.lst .ro 1 (zE d)] (.tup [.lst .ro 1 (zE []),.bool false]):=q64
   refine k_seq (kQ (zA rfl (zh rfl rfl (zC (k_cF rfl rfl ?_)))))
   refine zJ (kQ (yK rfl rfl y0 sh25 rfl ?_))
   refine zA rfl (zG rfl (q64) (.lrefl _) (zA rfl (kz rfl (kz rfl (zB rfl (zB rfl (zC (k_seq (kQ (zA rfl (zh rfl rfl (zC ?_))))))))))))
   refine zF [(10,.lst .ro 1 (zE [])),(65,U.bool !Bool.false)] (Y) (.n2 rfl) rfl fun fr=>?_
   refine k_cT rfl rfl ?_
   refine kQ (zB rfl (zB rfl (zC (zS ?_))))
   refine⟨.inr rfl,_,.cons _ _ _ _ (.tmp 4) (.cons _ _ _ _ (.tmp 5) .nil),?_⟩
   exact .refl _
  |some m=>
   have q64:RetP Tryd.prog is orc 64 [b.u,.lst .ro 1 (zE d)] (.tup [.lst .ro 1 (zE m),.bool true]):=q64
   refine k_seq (kQ (zA rfl (zh rfl rfl (zC (k_cF rfl rfl ?_)))))
   refine zJ (kQ (yK rfl rfl y0 sh25 rfl ?_))
   refine zA rfl (zG rfl (q64) (.lrefl _) (zA rfl (kz rfl (kz rfl (zB rfl (zB rfl (zC (k_seq (kQ (zA rfl (zh rfl rfl (zC ?_))))))))))))
   refine zF [(10,.lst .ro 1 (zE m)),(65,U.bool !Bool.true)] (Y) (.n2 rfl) rfl fun fr=>?_
   refine k_cF rfl rfl ?_
   refine zJ (kQ (zA rfl (zB rfl (zB rfl (zC (zS ?_))))))
   refine⟨.inr rfl,_,.cons _ _ _ _ (.tmp 4) (.cons _ _ _ _ (.tmp 5) .nil),?_⟩
   exact .refl _
theorem ret26j(hi:Off is)(hv:zAs b=false)(d:List Int):RetP Tryd.prog is orc 26 [b.u,.lst .ro 1 (zE d)] (.tup [.lst .full 0 [],.int .i64 100]):=by
 have q18:=ret18 (orc:=orc) hi b
 rw[if_neg (by rw[hv];decide)]at q18
 refine zp body26 pure26 (hi 26 (by decide)) rfl rfl (zu (wU b 4) (zR 6 .ro (fun h=>by cases h) 1 d)) (.inr ⟨_,rfl,zu (k:=7) (zCs 5) (.int _ _ _)⟩) ?_
 refine kQ (yB rfl rfl (zB rfl (zB rfl (zC ?_))))
 refine zF [(1,.lst .ro 1 (zE d)),(2,U.box 0 0)] ([SB.box (Bk.cs b)]) (.n2 rfl) rfl fun fr=>?_
 refine k_seq (kQ (kD sh25 rfl (zG rfl (q18) (.lrefl _) (zB rfl (zC (kQ (zA rfl (ku rfl (zC (k_cT rfl rfl ?_))))))))))
 refine kQ (zA rfl (zB rfl (zB rfl (zC (zS ?_)))))
 refine⟨.inr rfl,_,.cons _ _ _ _ (.tmp 4) (.cons _ _ _ _ (.tmp 5) .nil),?_⟩
 exact .refl _
end Go.Proofs.YtlknfhjfkcboiaaDoor.night
