import Derived.Test.YtlknfhjfkcboiaaDoorVamT17
set_option linter.unusedVariables false
set_option linter.unusedSimpArgs false
set_option linter.constructorNameAsVariable false
namespace Go.Proofs.YtlknfhjfkcboiaaDoor.night
open Vam
variable {is:FuncId→Bool}{orc:Known}{b:Bk}
noncomputable def b16:Code:=(Tryd.f16.body).getD .skip
theorem body16:bodyOf Tryd.prog 16=some (31,b16,[.tmp 4]):=by kernel_rfl
theorem pure16:pureFn Tryd.prog 16=true:=by kernel_rfl
noncomputable def b26:Code:=(Tryd.f26.body).getD .skip
theorem body26:bodyOf Tryd.prog 26=some (67,b26,[.tmp 4,.tmp 5]):=by kernel_rfl
theorem pure26:pureFn Tryd.prog 26=true:=by kernel_rfl
noncomputable def b22:Code:=(Tryd.f22.body).getD .skip
theorem body22:bodyOf Tryd.prog 22=some (8,b22,[.tmp 2,.tmp 3]):=by kernel_rfl
theorem pure22:pureFn Tryd.prog 22=true:=by kernel_rfl
noncomputable def b15:Code:=(Tryd.f15.body).getD .skip
theorem body15:bodyOf Tryd.prog 15=some (20,b15,[.tmp 4,.tmp 5]):=by kernel_rfl
theorem pure15:pureFn Tryd.prog 15=true:=by kernel_rfl
noncomputable def b20:Code:=(Tryd.f20.body).getD .skip
theorem body20:bodyOf Tryd.prog 20=some (21,b20,[.tmp 4,.tmp 5]):=by kernel_rfl
theorem pure20:pureFn Tryd.prog 20=true:=by kernel_rfl
theorem spn48(x y u v:Int):binV Tryd.prog 48 .eql (valK (yk x y)) (valK (yk u v))=some (.bool (decide (x=u)&&decide (y=v))):=by
 have h:binV Tryd.prog 48 .eql (valK (yk x y)) (valK (yk u v))=opt none (fun x=>some (V.bool x)) (Vam.cond (ieq x u) (Vam.cond (ieq y v) (some true) (some false)) (some false)):=by kernel_rfl
 rw[h]
 simp only[zDM,dec_beq]
 cases decide (x=u)<;>cases decide (y=v)<;>rfl
set_option maxHeartbeats 8000000 in
theorem ret16(hi:Off is)(A:List Two)(hl:A.length≤4096):RetP Tryd.prog is orc 16 [.lst .ro 2 (zDQ A),.lst .ro 2 (zDQ A)] (.bool true):=by
 refine zc body16 pure16 (hi 16 (by decide)) rfl rfl (zb (zDH A .ro (fun h=>by cases h) 6) (zDH A .ro (fun h=>by cases h) 6)) (.inl (.bool _ _)) ?_
 refine kQ (zB rfl (zC (kQ (zA rfl (zS rfl ty26 rfl (List.length_map _) ?_)))))
 refine zA rfl (zS rfl ty26 rfl (List.length_map _) ?_)
 refine ku rfl (zB rfl (zC (k_seq (kQ (zB rfl (zC (zJ ?_)))))))
 refine yX (fun kk s2=>∃i:Nat,kk+i=A.length∧s2.st=[]∧Holds s2 [(0,.lst .ro 2 (zDQ A)),(1,.lst .ro 2 (zDQ A)),(5,.bool true),(6,.int .i64 i)]) (fun kk s2 hI=>?_) A.length _ ⟨0,rfl,rfl,.cons rfl (.cons rfl (.cons (by show U.bool (decide ((A.length:Int)=A.length))=_;rw[kG rfl]) (.n1 rfl)))⟩
 obtain⟨i,hk,hst2,hs2⟩:=hI
 refine zF _ _ hs2 hst2 fun fr2=>?_
 by_cases hin:i<A.length
 ·obtain⟨q,hq⟩:∃q,A[i]? =some q:=⟨A[i],List.getElem?_eq_getElem hin⟩
  have ea:=spn48 q.a q.b q.a q.b
  rw[show(decide (q.a=q.a)&&decide (q.b=q.b))=true by simp]at ea
  refine k_seq (kQ (zA rfl (zA rfl (kf rfl (zA rfl (kf rfl (zA rfl (kf rfl (zS rfl ty26 rfl (List.length_map _) ?_)))))))))
  refine kf rfl (kp rfl (kF rfl ?_))
  refine zC (k_cT rfl (kG (by omega)) (zL (k_seq (zJ (yY [.plain,.plain,.plain,.read true,.plain,.plain,.plain,.read true,.plain,.plain] (by kernel_rfl) (by kernel_rfl) (by kernel_rfl) ?_)))))
  refine zD (zA rfl (zC rfl)) (zD (zA rfl (zC rfl)) (zD (zY (u:=(q).u) rfl ty26 rfl rfl (Int.natCast_nonneg _) (by simp[hq]) cl48 (zC rfl)) ?_))
  refine zT rfl (yg rfl rfl sh48 rfl (zC rfl)) ?_
  refine zD (zA rfl (zC rfl)) (zD (zA rfl (zC rfl)) (zD (zY (u:=(q).u) rfl ty26 rfl rfl (Int.natCast_nonneg _) (by simp[hq]) cl48 (zC rfl)) ?_))
  refine zT rfl (yg rfl rfl sh48 rfl (zC rfl)) ?_
  refine zD (o_binK rfl rfl rfl rfl rfl ea (zC rfl)) ?_
  refine zD (zB rfl (zC rfl)) ?_
  refine wS ?_
  refine k_region (zA rfl ?_)
  refine kA rfl (by unfold I64;omega) (zB rfl (zC ?_))
  exact⟨kk - 1,by omega,i+1,by omega,rfl,.c4 rfl rfl rfl rfl (.nil rfl)⟩
 ·refine k_seq ?_
  refine kQ (zA rfl (zA rfl (kf rfl (zA rfl (kf rfl (zA rfl (kf rfl (zS rfl ty26 rfl (List.length_map _) ?_))))))))
  refine kf rfl (kp rfl (kF rfl ?_))
  refine zC (k_cF rfl (kH (by omega)) (zx (kQ (zA rfl (zB rfl (zC (zR ?_)))))))
  refine⟨.inr rfl,_,.cons _ _ _ _ (.tmp 4) .nil,?_⟩
  exact .refl _
theorem done_iff{d:List Int}:zAO b d=true↔d.length≤b.scenes.length∧∀(j:Nat) (x:Int),d[j]? =some x→dnB b j x=true:=by
 unfold zAO
 rw[Bool.and_eq_true,decide_eq_true_eq,dnF_at]
 simp only[Nat.zero_add]
def Dn(b:Bk)(d:List Int)(i:Nat):Prop:=d.length≤b.scenes.length∧∀(j:Nat) (x:Int),j<i→d[j]? =some x→dnB b j x=true
theorem Dn_succ{d:List Int}{i:Nat}{x:Int}(hx:d[i]? =some x):Dn b d (i+1)↔Dn b d i∧dnB b i x=true:=zFQ (Q:=fun j x=>dnB b j x=true) hx
theorem Dn_mono{d:List Int}{i j:Nat}(h:i≤j):Dn b d j→Dn b d i:=fun⟨h1,h2⟩=>⟨h1,fun k q hk=>h2 k q (by omega)⟩
theorem Dn_all{d:List Int}:Dn b d d.length↔zAO b d=true:=by
 rw[done_iff]
 exact⟨fun h=>⟨h.1,fun j x hx=>h.2 j x (List.getElem?_eq_some_iff.1 hx).1 hx⟩,fun h=>⟨h.1,fun j x _ hx=>h.2 j x hx⟩⟩
set_option maxHeartbeats 16000000 in
theorem ret26(hi:Off is)(h:VOk b)(d:List Int):RetP Tryd.prog is orc 26 [b.u,.lst .ro 1 (zE d)] (cueR b d):=by
 have q18:=ret18 (orc:=orc) hi b
 rw[if_pos ((zCU b).2 h)]at q18
 have hc:zAO b d=true→cueR b d=.tup [optU (cueO b d),.int .i64 (if(lgt b d).isSome=true then 0 else 4)]:=fun hd=>by unfold cueR;rw[if_pos hd]
 have hn:zAO b d=false→cueR b d=.tup [.lst .full 0 [],.int .i64 101]:=fun hd=>by unfold cueR;rw[if_neg (by rw[hd];decide)]
 have hso:(lgt b d).isSome=(cueO b d).isSome:=by unfold cueO;cases lgt b d<;>rfl
 have q64:=fun hd=>ret64 (orc:=orc) hi h.toBOk (d:=d) hd
 refine zc body26 pure26 (hi 26 (by decide)) rfl rfl (zb (yZ b 4) (zP 6 .ro (fun h=>by cases h) 1 d)) (by
  cases hd:zAO b d with
  |true=>rw[hc hd];exact .inr ⟨_,rfl,zb (k:=7) (zEY _ 5) (.int _ _ _)⟩
  |false=>rw[hn hd];exact .inr ⟨_,rfl,zb (k:=7) (zDP 5) (.int _ _ _)⟩) ?_
 rw[hso]at hc q64
 refine kQ (zq rfl rfl (zB rfl (zB rfl (zC ?_))))
 refine zF [(1,.lst .ro 1 (zE d)),(2,U.box 0 0)] ([SB.box (Bk.cs b)]) (.n2 rfl) rfl fun fr=>?_
 refine k_seq (kQ (kC rfl sh25 (zG rfl (q18) (.lrefl _) (zB rfl (zC (kQ (zA rfl (ks rfl (zC (k_cF rfl rfl ?_))))))))))
 refine zL (kQ (zA rfl (zS rfl ty22 rfl (List.length_map _) ?_)))
 refine kz rfl ze (kB rfl sh23 (zS rfl ty23 rfl (List.length_map _) ?_))
 refine kq rfl (zB rfl (zC ?_))
 refine k_cut (fun st=>∃(z:Bool) (e:List SB),(z=true↔zAO b d=true)∧st.st=[.box (Bk.cs b)]++e∧Holds st [(1,.lst .ro 1 (zE d)),(2,.box 0 0),(7,.bool z)]) ?_ (fun st hM=>?_)
 ·have hz0:(decide ((d.length:Int)≤b.scenes.length))=true↔Dn b d 0:=by
   rw[decide_eq_true_eq]
   exact⟨fun h=>⟨by omega,fun j x hj=>by omega⟩,fun h=>by have:=h.1;omega⟩
  generalize decide ((d.length:Int)≤b.scenes.length)=z at*
  refine kQ (zB rfl (zC (zJ ?_)))
  refine yX (fun kk s2=>∃(i:Nat) (w:Bool) (e:List SB),kk+i=d.length∧(w=true↔Dn b d i)∧s2.st=[.box (Bk.cs b)]++e∧Holds s2 [(1,.lst .ro 1 (zE d)),(2,.box 0 0),(7,.bool w),(8,.int .i64 i)]) (fun kk s2 hI=>?_) d.length _ ⟨0,z,[],by omega,hz0,rfl,.c4 rfl rfl rfl rfl (.nil rfl)⟩
  obtain⟨i,w,e,hk,hw,hst2,hs2⟩:=hI
  obtain⟨Y,hY⟩:∃Y:List SB,Y=[.box (Bk.cs b)]++e:=⟨_,rfl⟩
  have y0:Y[0]? =some (.box (Bk.cs b)):=by rw[hY];rfl
  rw[←hY]at hst2
  refine zF _ _ hs2 hst2 fun fr2=>?_
  cases w with
  |false=>
   have hn: ¬ Dn b d i:=fun hp=>by cases hw.2 hp
   refine k_seq (kQ (zA rfl (zA rfl (ke rfl (ke rfl (ke rfl (ke rfl (kE rfl ?_))))))))
   refine zC (k_cF rfl rfl ?_)
   refine zx ?_
   exact⟨rfl,false,e,zEm (fun hp=>hn (Dn_mono (by
    exact Nat.le_trans (Nat.le_add_left _ _) (Nat.le_of_eq hk)) (Dn_all.2 hp))),hY,.cons rfl (.n2 rfl)⟩
  |true=>
   have hP:=hw.1 rfl
   have hdl:=hP.1
   have hsn:=h.sn
   by_cases hin:i<d.length
   ·obtain⟨x,hx⟩:∃x,d[i]? =some x:=⟨d[i],List.getElem?_eq_getElem hin⟩
    obtain⟨q,hq⟩:∃q,b.scenes[i]? =some q:=⟨b.scenes[i],List.getElem?_eq_getElem (by omega)⟩
    have hm:wu b i=q.must:=by unfold wu;rw[hq];rfl
    have hdn:dnB b i x=((decide (x= -1)&& !q.must)||inS q.lo q.hi x):=by unfold dnB;rw[hq,hm]
    have hsu:=Dn_succ (b:=b) hx
    have hsu:Dn b d (i+1)↔dnB b i x=true:=⟨fun h=>(hsu.1 h).2,fun h=>hsu.2 ⟨hP,h⟩⟩
    have q34:=ret34 (orc:=orc) hi q.lo q.hi x
    have hYe:Y++[SB.box [.int .i64 q.part,.int .i64 q.wt,.int .i64 q.lo,.int .i64 q.hi,.bool q.must]]=[.box (Bk.cs b)]++(e++[SB.box [.int .i64 q.part,.int .i64 q.wt,.int .i64 q.lo,.int .i64 q.hi,.bool q.must]]):=by rw[hY,List.append_assoc]
    refine k_seq (kQ (zA rfl (zA rfl (kf rfl (zA rfl (kf rfl (zA rfl (kf rfl (zS rfl ty22 rfl (List.length_map _) ?_)))))))))
    refine kf rfl (kp rfl (kF rfl ?_))
    refine zC (k_cT rfl (kG (by omega)) (zL (k_seq (zJ (kQ (kz rfl ze (zQ rfl rfl y0 sh23 rfl ?_)))))))
    refine zA rfl (zY (u:=(q).u) rfl ty23 rfl rfl (Int.natCast_nonneg _) (by simp[hq]) cl50 ?_)
    refine yg rfl rfl sh50 rfl ?_
    refine zi rfl ze50 ?_
    refine zW rfl (zf _ _) sh50 rfl rfl rfl rfl rfl ?_
    refine zC ?_
    refine zF [(1,.lst .ro 1 (zE d)),(2,.box 0 0),(7,.bool true),(8,.int .i64 i),(9,.box Y.length 0)] (Y++[SB.box [.int .i64 q.part,.int .i64 q.wt,.int .i64 q.lo,.int .i64 q.hi,.bool q.must]]) (.n5 rfl) (by show(Y++[SB.box _]).set Y.length (SB.box _)=_;rw[ye];rfl) fun fr3=>?_
    rw[hdn]at hsu
    cases c1:inS q.lo q.hi x with
    |true=>
     rw[c1]at q34 hsu
     rw[Bool.or_true]at hsu
     refine yY [.plain,.read true,.plain,.plain,.plain,.read true,.plain,.plain,.plain,.plain,.plain,.plain,.plain,.plain,.plain,.plain,.plain,.plain,.plain,.plain] (by kernel_rfl) (by kernel_rfl) (by kernel_rfl) ?_
     refine zD (kz rfl wN (zC rfl)) ?_
     refine zT rfl (yK rfl rfl (zf _ _) sh48 rfl (zC rfl)) ?_
     refine zD (zA rfl (zC rfl)) (zD (zA rfl (zC rfl)) (zD (zY (u:=.int .i64 (x)) rfl ty22 rfl rfl (Int.natCast_nonneg _) (by simp[hx]) cl3 (zC rfl)) ?_))
     refine zT rfl (kD rfl sh3 (zC rfl)) ?_
     refine zD (zG rfl (q34) (.lrefl _) (zC rfl)) ?_
     refine zD (zA rfl (zC rfl)) (kj rfl ?_)
     refine yR [(1,.lst .ro 1 (zE d)),(2,U.box 0 0),(8,.int .i64 ↑i),(9,U.box (List.length Y) 0),(44,.bool true),(45,U.tup [])] [] (Y++[SB.box [.int .i64 (Sc.part q),.int .i64 (Sc.wt q),.int .i64 (Sc.lo q),.int .i64 (Sc.hi q),U.bool (Sc.must q)]]) (.n6 rfl) rfl rfl fun fr=>?_
     refine kj rfl (kj rfl (kj rfl (kj rfl (kj rfl (d_dead rfl rfl rfl rfl ?_)))))
     refine d_dead rfl rfl rfl rfl ?_
     refine d_dead rfl rfl rfl rfl ?_
     refine kj rfl ?_
     refine yR [(1,.lst .ro 1 (zE d)),(2,U.box 0 0),(8,.int .i64 ↑i),(44,.bool true),(45,U.tup []),(46,U.tup []),(47,U.tup []),(48,U.tup []),(49,U.tup []),(50,U.tup []),(51,U.tup []),(52,U.tup []),(53,U.tup []),(54,U.tup [])] [] (Y++[SB.box [.int .i64 (Sc.part q),.int .i64 (Sc.wt q),.int .i64 (Sc.lo q),.int .i64 (Sc.hi q),U.bool (Sc.must q)]]) (.c4 rfl rfl rfl rfl (.n10 rfl)) rfl rfl fun fr=>?_
     refine zD (kF rfl (zC rfl)) ?_
     refine zD (zB rfl (zC rfl)) ?_
     refine wS ?_
     refine zF [(1,.lst .ro 1 (zE d)),(2,U.box 0 0),(7,.bool true),(8,.int .i64 ↑i),(45,U.tup []),(46,U.tup []),(47,U.tup []),(48,U.tup []),(49,U.tup []),(50,U.tup []),(51,U.tup []),(52,U.tup []),(53,U.tup []),(54,U.tup [])] (Y++[SB.box [.int .i64 (Sc.part q),.int .i64 (Sc.wt q),.int .i64 (Sc.lo q),.int .i64 (Sc.hi q),U.bool (Sc.must q)]]) (.c4 rfl rfl rfl rfl (.n10 rfl)) rfl fun fr=>?_
     refine k_region (zA rfl ?_)
     refine kA rfl (by unfold I64;omega) (zB rfl (zC ?_))
     exact⟨kk - 1,by omega,i+1,true,e++[SB.box [.int .i64 q.part,.int .i64 q.wt,.int .i64 q.lo,.int .i64 q.hi,.bool q.must]],by omega,hsu.symm,hYe,.c4 rfl rfl rfl rfl (.nil rfl)⟩
    |false=>
     rw[c1]at q34 hsu
     rw[Bool.or_false]at hsu
     by_cases c2:x= -1
     ·rw[kG c2,Bool.true_and]at hsu
      refine yY [.plain,.read true,.plain,.plain,.plain,.read true,.plain,.plain,.plain,.plain,.plain,.plain,.plain,.plain,.plain,.plain,.plain,.plain,.plain,.plain] (by kernel_rfl) (by kernel_rfl) (by kernel_rfl) ?_
      refine zD (kz rfl wN (zC rfl)) ?_
      refine zT rfl (yK rfl rfl (zf _ _) sh48 rfl (zC rfl)) ?_
      refine zD (zA rfl (zC rfl)) (zD (zA rfl (zC rfl)) (zD (zY (u:=.int .i64 (x)) rfl ty22 rfl rfl (Int.natCast_nonneg _) (by simp[hx]) cl3 (zC rfl)) ?_))
      refine zT rfl (kD rfl sh3 (zC rfl)) ?_
      refine zD (zG rfl (q34) (.lrefl _) (zC rfl)) ?_
      refine zD (zA rfl (zC rfl)) (kl rfl (zD (zA rfl (zC rfl)) ?_))
      refine yR [(1,.lst .ro 1 (zE d)),(2,U.box 0 0),(8,.int .i64 ↑i),(9,U.box (List.length Y) 0),(44,.bool false),(45,.lst .ro 1 (zE d))] [] (Y++[SB.box [.int .i64 (Sc.part q),.int .i64 (Sc.wt q),.int .i64 (Sc.lo q),.int .i64 (Sc.hi q),U.bool (Sc.must q)]]) (.n6 rfl) rfl rfl fun fr=>?_
      refine kl rfl ?_
      refine yR [(1,.lst .ro 1 (zE d)),(2,U.box 0 0),(8,.int .i64 ↑i),(9,U.box (List.length Y) 0),(44,.bool false),(45,.lst .ro 1 (zE d))] [] (Y++[SB.box [.int .i64 (Sc.part q),.int .i64 (Sc.wt q),.int .i64 (Sc.lo q),.int .i64 (Sc.hi q),U.bool (Sc.must q)]]) (.n6 rfl) rfl rfl fun fr=>?_
      refine zD (zA rfl (zC rfl)) (kl rfl (zD (zY (u:=.int .i64 (x)) rfl ty22 rfl rfl (Int.natCast_nonneg _) (by simp[hx]) cl3 (zC rfl)) ?_))
      refine kl rfl (zD (kD rfl sh3 (zC rfl)) ?_)
      refine kl rfl (zD (ku rfl (zC rfl)) ?_)
      refine kl rfl (zD (zA rfl (zC rfl)) (kn rfl (kG (by omega)) ?_))
      refine zD (kz rfl zCl (zC rfl)) ?_
      refine kn rfl (kG (by omega)) ?_
      refine zD (zQ rfl rfl (zf _ _) sh4 rfl (zC rfl)) ?_
      refine kn rfl (kG (by omega)) ?_
      refine zD (zw rfl rfl (zC rfl)) ?_
      refine kl rfl (zD (zg rfl rfl (kG (by omega)) (zC rfl)) ?_)
      refine yR [(1,.lst .ro 1 (zE d)),(2,U.box 0 0),(8,.int .i64 ↑i),(44,.bool false),(45,.lst .ro 1 (zE d)),(46,.int .i64 ↑i),(47,U.eref [.int .i64 x] 0),(48,.int .i64 x),(49,U.bool (decide (x=(-1:Int)))),(50,U.bool (decide (x=(-1:Int)))),(51,U.box (List.length Y) 4),(52,U.bool (Sc.must q)),(53,U.bool !Sc.must q),(54,U.bool !Sc.must q)] [] (Y++[SB.box [.int .i64 (Sc.part q),.int .i64 (Sc.wt q),.int .i64 (Sc.lo q),.int .i64 (Sc.hi q),U.bool (Sc.must q)]]) (.c4 rfl rfl rfl rfl (.n10 rfl)) rfl rfl fun fr=>?_
      refine zD (kE rfl (zC rfl)) ?_
      refine zD (zB rfl (zC rfl)) ?_
      refine wS ?_
      refine zF [(1,.lst .ro 1 (zE d)),(2,U.box 0 0),(7,U.bool !Sc.must q),(8,.int .i64 ↑i),(45,.lst .ro 1 (zE d)),(46,.int .i64 ↑i),(47,U.eref [.int .i64 x] 0),(48,.int .i64 x),(49,U.bool (decide (x=(-1:Int)))),(50,U.bool (decide (x=(-1:Int)))),(51,U.box (List.length Y) 4),(52,U.bool (Sc.must q)),(53,U.bool !Sc.must q),(54,U.bool !Sc.must q)] (Y++[SB.box [.int .i64 (Sc.part q),.int .i64 (Sc.wt q),.int .i64 (Sc.lo q),.int .i64 (Sc.hi q),U.bool (Sc.must q)]]) (.c4 rfl rfl rfl rfl (.n10 rfl)) rfl fun fr=>?_
      refine k_region (zA rfl ?_)
      refine kA rfl (by unfold I64;omega) (zB rfl (zC ?_))
      exact⟨kk - 1,by omega,i+1, !q.must,e++[SB.box [.int .i64 q.part,.int .i64 q.wt,.int .i64 q.lo,.int .i64 q.hi,.bool q.must]],by omega,hsu.symm,hYe,.c4 rfl rfl rfl rfl (.nil rfl)⟩
     ·rw[kH c2,Bool.false_and]at hsu
      refine yY [.plain,.read true,.plain,.plain,.plain,.read true,.plain,.plain,.plain,.plain,.plain,.plain,.plain,.plain,.plain,.plain,.plain,.plain,.plain,.plain] (by kernel_rfl) (by kernel_rfl) (by kernel_rfl) ?_
      refine zD (kz rfl wN (zC rfl)) ?_
      refine zT rfl (yK rfl rfl (zf _ _) sh48 rfl (zC rfl)) ?_
      refine zD (zA rfl (zC rfl)) (zD (zA rfl (zC rfl)) (zD (zY (u:=.int .i64 (x)) rfl ty22 rfl rfl (Int.natCast_nonneg _) (by simp[hx]) cl3 (zC rfl)) ?_))
      refine zT rfl (kD rfl sh3 (zC rfl)) ?_
      refine zD (zG rfl (q34) (.lrefl _) (zC rfl)) ?_
      refine zD (zA rfl (zC rfl)) (kl rfl (zD (zA rfl (zC rfl)) ?_))
      refine yR [(1,.lst .ro 1 (zE d)),(2,U.box 0 0),(8,.int .i64 ↑i),(9,U.box (List.length Y) 0),(44,.bool false),(45,.lst .ro 1 (zE d))] [] (Y++[SB.box [.int .i64 (Sc.part q),.int .i64 (Sc.wt q),.int .i64 (Sc.lo q),.int .i64 (Sc.hi q),U.bool (Sc.must q)]]) (.n6 rfl) rfl rfl fun fr=>?_
      refine kl rfl ?_
      refine yR [(1,.lst .ro 1 (zE d)),(2,U.box 0 0),(8,.int .i64 ↑i),(9,U.box (List.length Y) 0),(44,.bool false),(45,.lst .ro 1 (zE d))] [] (Y++[SB.box [.int .i64 (Sc.part q),.int .i64 (Sc.wt q),.int .i64 (Sc.lo q),.int .i64 (Sc.hi q),U.bool (Sc.must q)]]) (.n6 rfl) rfl rfl fun fr=>?_
      refine zD (zA rfl (zC rfl)) (kl rfl (zD (zY (u:=.int .i64 (x)) rfl ty22 rfl rfl (Int.natCast_nonneg _) (by simp[hx]) cl3 (zC rfl)) ?_))
      refine kl rfl (zD (kD rfl sh3 (zC rfl)) ?_)
      refine kl rfl (zD (ku rfl (zC rfl)) ?_)
      refine kl rfl (zD (zA rfl (zC rfl)) (km rfl (kH (by omega)) ?_))
      refine km rfl (kH (by omega)) ?_
      refine km rfl (kH (by omega)) ?_
      refine kl rfl (zD (zV rfl rfl (kH (by omega)) (zC rfl)) ?_)
      refine yR [(1,.lst .ro 1 (zE d)),(2,U.box 0 0),(8,.int .i64 ↑i),(44,.bool false),(45,.lst .ro 1 (zE d)),(46,.int .i64 ↑i),(47,U.eref [.int .i64 x] 0),(48,.int .i64 x),(49,U.bool (decide (x=(-1:Int)))),(50,U.bool (decide (x=(-1:Int)))),(51,U.tup []),(52,U.tup []),(53,U.tup []),(54,.bool false)] [] (Y++[SB.box [.int .i64 (Sc.part q),.int .i64 (Sc.wt q),.int .i64 (Sc.lo q),.int .i64 (Sc.hi q),U.bool (Sc.must q)]]) (.c4 rfl rfl rfl rfl (.n10 rfl)) rfl rfl fun fr=>?_
      refine zD (kE rfl (zC rfl)) ?_
      refine zD (zB rfl (zC rfl)) ?_
      refine wS ?_
      refine zF [(1,.lst .ro 1 (zE d)),(2,U.box 0 0),(7,.bool false),(8,.int .i64 ↑i),(45,.lst .ro 1 (zE d)),(46,.int .i64 ↑i),(47,U.eref [.int .i64 x] 0),(48,.int .i64 x),(49,U.bool (decide (x=(-1:Int)))),(50,U.bool (decide (x=(-1:Int)))),(51,U.tup []),(52,U.tup []),(53,U.tup []),(54,.bool false)] (Y++[SB.box [.int .i64 (Sc.part q),.int .i64 (Sc.wt q),.int .i64 (Sc.lo q),.int .i64 (Sc.hi q),U.bool (Sc.must q)]]) (.c4 rfl rfl rfl rfl (.n10 rfl)) rfl fun fr=>?_
      refine k_region (zA rfl ?_)
      refine kA rfl (by unfold I64;omega) (zB rfl (zC ?_))
      exact⟨kk - 1,by omega,i+1,false,e++[SB.box [.int .i64 q.part,.int .i64 q.wt,.int .i64 q.lo,.int .i64 q.hi,.bool q.must]],by omega,hsu.symm,hYe,.c4 rfl rfl rfl rfl (.nil rfl)⟩
   ·have hie:i=d.length:=by omega
    subst hie
    refine k_seq (kQ (zA rfl (zA rfl (kf rfl (zA rfl (kf rfl (zA rfl (kf rfl (zS rfl ty22 rfl (List.length_map _) ?_)))))))))
    refine kf rfl (kp rfl (kF rfl ?_))
    refine zC (k_cF rfl (kH (by omega)) (zx ?_))
    exact⟨rfl,true,e,hw.trans Dn_all,hY,.cons rfl (.n2 rfl)⟩
 obtain⟨z,e,hz,hst,hs⟩:=hM
 obtain⟨Y,hY⟩:∃Y:List SB,Y=[.box (Bk.cs b)]++e:=⟨_,rfl⟩
 have y0:Y[0]? =some (.box (Bk.cs b)):=by rw[hY];rfl
 rw[←hY]at hst
 clear hY
 refine zF _ _ hs hst fun fr=>?_
 cases z with
 |false=>
  have hd:zAO b d=false:=by
   cases hd:zAO b d with
   |false=>rfl
   |true=>have:=hz.2 hd;cases this
  rw[hn hd]
  refine k_seq (kQ (zA rfl (zw rfl rfl (zC (k_cT rfl rfl ?_)))))
  refine kQ (zB rfl (zB rfl (zC (zR ?_))))
  refine⟨.inr rfl,_,.cons _ _ _ _ (.tmp 4) (.cons _ _ _ _ (.tmp 5) .nil),?_⟩
  exact .refl _
 |true=>
  have hd:=hz.1 rfl
  rw[hc hd]
  have q64:=q64 hd
  generalize cueO b d=o at*
  cases o with
  |none=>
   have q64:RetP Tryd.prog is orc 64 [b.u,.lst .ro 1 (zE d)] (.tup [.lst .ro 1 (zE []),.bool false]):=q64
   refine k_seq (kQ (zA rfl (zw rfl rfl (zC (k_cF rfl rfl ?_)))))
   refine zL (kQ (yK rfl rfl y0 sh25 rfl ?_))
   refine zA rfl (zG rfl (q64) (.lrefl _) (zA rfl (kw rfl (kw rfl (zB rfl (zB rfl (zC (k_seq (kQ (zA rfl (zw rfl rfl (zC ?_))))))))))))
   refine zF [(10,.lst .ro 1 (zE [])),(65,U.bool !Bool.false)] (Y) (.n2 rfl) rfl fun fr=>?_
   refine k_cT rfl rfl ?_
   refine kQ (zB rfl (zB rfl (zC (zR ?_))))
   refine⟨.inr rfl,_,.cons _ _ _ _ (.tmp 4) (.cons _ _ _ _ (.tmp 5) .nil),?_⟩
   exact .refl _
  |some m=>
   have q64:RetP Tryd.prog is orc 64 [b.u,.lst .ro 1 (zE d)] (.tup [.lst .ro 1 (zE m),.bool true]):=q64
   refine k_seq (kQ (zA rfl (zw rfl rfl (zC (k_cF rfl rfl ?_)))))
   refine zL (kQ (yK rfl rfl y0 sh25 rfl ?_))
   refine zA rfl (zG rfl (q64) (.lrefl _) (zA rfl (kw rfl (kw rfl (zB rfl (zB rfl (zC (k_seq (kQ (zA rfl (zw rfl rfl (zC ?_))))))))))))
   refine zF [(10,.lst .ro 1 (zE m)),(65,U.bool !Bool.true)] (Y) (.n2 rfl) rfl fun fr=>?_
   refine k_cF rfl rfl ?_
   refine zL (kQ (zA rfl (zB rfl (zB rfl (zC (zR ?_))))))
   refine⟨.inr rfl,_,.cons _ _ _ _ (.tmp 4) (.cons _ _ _ _ (.tmp 5) .nil),?_⟩
   exact .refl _
theorem ret22(hi:Off is)(h:VOk b):RetP Tryd.prog is orc 22 [b.u] (.tup [optU (lgt b []),.int .i64 (if(lgt b []).isSome=true then 0 else 4)]):=by
 have q26:=ret26 (orc:=orc) hi h []
 have e:cueR b []=.tup [optU (lgt b []),.int .i64 (if(lgt b []).isSome=true then 0 else 4)]:=by
  have hd:zAO b []=true:=by unfold zAO;simp[dnF]
  have hc:cueO b []=lgt b []:=by
   unfold cueO
   cases lgt b []with
   |none=>rfl
   |some m=>show some (m.drop 0)=_;rw[List.drop_zero]
  unfold cueR
  rw[if_pos hd,hc]
 rw[e]at q26
 refine zc body22 pure22 (hi 22 (by decide)) rfl rfl (zAm (yZ b 4)) (.inr ⟨_,rfl,zb (k:=7) (zEY _ 5) (.int _ _ _)⟩) ?_
 generalize lgt b []=o at*
 cases o with
 |none=>
  refine kQ (zq rfl rfl (zB rfl (zB rfl (zC ?_))))
  refine zF [(1,U.box 0 0)] ([SB.box (Bk.cs b)]) (.n1 rfl) rfl fun fr=>?_
  refine kQ (kC rfl sh25 (zG rfl (q26) (.lcons _ _ _ _ (.refl _) (.lcons _ _ _ _ (.nil _ _ _) (.lrefl _))) ?_))
  refine kw rfl (kw rfl (zB rfl (zB rfl (zC (zR ?_)))))
  refine⟨.inr rfl,_,.cons _ _ _ _ (.tmp 2) (.cons _ _ _ _ (.tmp 3) .nil),?_⟩
  exact .refl _
 |some m=>
  refine kQ (zq rfl rfl (zB rfl (zB rfl (zC ?_))))
  refine zF [(1,U.box 0 0)] ([SB.box (Bk.cs b)]) (.n1 rfl) rfl fun fr=>?_
  refine kQ (kC rfl sh25 (zG rfl (q26) (.lcons _ _ _ _ (.refl _) (.lcons _ _ _ _ (.nil _ _ _) (.lrefl _))) ?_))
  refine kw rfl (kw rfl (zB rfl (zB rfl (zC (zR ?_)))))
  refine⟨.inr rfl,_,.cons _ _ _ _ (.tmp 2) (.cons _ _ _ _ (.tmp 3) .nil),?_⟩
  exact .refl _
def endR(b:Bk)(L:List Int):U:=if chF b (-1) L=true then .tup [.lst .ro 2 (zDQ (spL b [] L)),.int .i64 0]else .tup [.lst .full 0 [],.int .i64 101]
set_option maxHeartbeats 8000000 in
theorem ret15(hi:Off is)(h:VOk b)(L:List Int):RetP Tryd.prog is orc 15 [b.u,.lst .ro 1 (zE L)] (endR b L):=by
 have q18:=ret18 (orc:=orc) hi b
 rw[if_pos ((zCU b).2 h)]at q18
 have q53:=ret53 (orc:=orc) hi h.toBOk L
 have hn:=h.sn
 unfold endR
 cases hc:chF b (-1) L with
 |false=>
  rw[hc]at q53
  rw[if_neg (by decide)]
  refine zc body15 pure15 (hi 15 (by decide)) rfl rfl (zb (yZ b 4) (zP 6 .ro (fun h=>by cases h) 1 L)) (.inr ⟨_,rfl,zb (k:=7) (zDP 5) (.int _ _ _)⟩) ?_
  refine kQ (zq rfl rfl (zB rfl (zB rfl (zC ?_))))
  refine zF [(1,.lst .ro 1 (zE L)),(2,U.box 0 0)] ([SB.box (Bk.cs b)]) (.n2 rfl) rfl fun fr=>?_
  refine k_seq (kQ (kC rfl sh25 (zG rfl (q18) (.lrefl _) (zB rfl (zC (kQ (zA rfl (ks rfl (zC (k_cF rfl rfl ?_))))))))))
  refine zL (k_seq (kQ (kC rfl sh25 (zA rfl (zG rfl (q53) (.lrefl _) (zw rfl rfl (zC (k_cT rfl rfl ?_))))))))
  refine kQ (zB rfl (zB rfl (zC (zR ?_))))
  refine⟨.inr rfl,_,.cons _ _ _ _ (.tmp 4) (.cons _ _ _ _ (.tmp 5) .nil),?_⟩
  exact .refl _
 |true=>
  rw[hc]at q53
  rw[if_pos rfl]
  have hcc:=zEb.1 hc
  have hl:=hcc.len
  have hr:=hcc.rg
  have q55:=ret55 (orc:=orc) hi (L:=L) (by omega) (fun x hx=>by have:=hr x hx;omega)
  have hul:=unN_lt (n:=10) (L:=L) (fun x hx=>by have:=hr x hx;omega)
  have q54:=ret54 (orc:=orc) hi h.toBOk (dok_nil b) (s:=unN L) (L:=L) (by omega) (fun i _=>(unN_bit fun x hx=>(hr x hx).1).symm)
  refine zc body15 pure15 (hi 15 (by decide)) rfl rfl (zb (yZ b 4) (zP 6 .ro (fun h=>by cases h) 1 L)) (.inr ⟨_,rfl,zb (k:=7) (zDH _ .ro (fun h=>by cases h) 5) (.int _ _ _)⟩) ?_
  generalize spL b [] L=S at*
  refine kQ (zq rfl rfl (zB rfl (zB rfl (zC ?_))))
  refine zF [(1,.lst .ro 1 (zE L)),(2,U.box 0 0)] ([SB.box (Bk.cs b)]) (.n2 rfl) rfl fun fr=>?_
  refine k_seq (kQ (kC rfl sh25 (zG rfl (q18) (.lrefl _) (zB rfl (zC (kQ (zA rfl (ks rfl (zC (k_cF rfl rfl ?_))))))))))
  refine zL (k_seq (kQ (kC rfl sh25 (zA rfl (zG rfl (q53) (.lrefl _) (zw rfl rfl (zC (k_cF rfl rfl ?_))))))))
  refine zL (k_seq (yY [.read true,.plain,.read false,.plain,.plain,.plain] (by kernel_rfl) (by kernel_rfl) (by kernel_rfl) ?_))
  refine zT rfl (kC rfl sh25 (zC rfl)) ?_
  refine zD (zA rfl (zC rfl)) (zAM rfl (q55) (.int _ _) (.lrefl _) ?_)
  refine zD (zG rfl (q54) (.lcons _ _ _ _ (.refl _) (.lcons _ _ _ _ (.refl _) (.lcons _ _ _ _ (.nil _ _ _) (.lrefl _)))) (zC rfl)) ?_
  refine zD (zB rfl (zC rfl)) ?_
  refine zD (zB rfl (zC rfl)) ?_
  refine wS ?_
  refine zR ?_
  refine⟨.inr rfl,_,.cons _ _ _ _ (.tmp 4) (.cons _ _ _ _ (.tmp 5) .nil),?_⟩
  exact .refl _
set_option maxHeartbeats 8000000 in
theorem ret20(hi:Off is)(h:VOk b)(L:List Int):RetP Tryd.prog is orc 20 [b.u,.lst .ro 1 (zE L)] (.tup [.bool (chF b (-1) L&&fitB b [] L),.int .i64 (if chF b (-1) L=true then 0 else 101)]):=by
 have q15:=ret15 (orc:=orc) hi h L
 have hn:=h.sn
 unfold endR at q15
 refine zc body20 pure20 (hi 20 (by decide)) rfl rfl (zb (yZ b 4) (zP 6 .ro (fun h=>by cases h) 1 L)) (.inr ⟨_,rfl,zb (k:=7) (.bool _ _) (.int _ _ _)⟩) ?_
 cases hc:chF b (-1) L with
 |false=>
  rw[hc,if_neg (by decide)]at q15
  refine kQ (zq rfl rfl (zB rfl (zB rfl (zC ?_))))
  refine zF [(1,.lst .ro 1 (zE L)),(2,U.box 0 0)] ([SB.box (Bk.cs b)]) (.n2 rfl) rfl fun fr=>?_
  refine k_seq (kQ (kC rfl sh25 (zA rfl (zG rfl (q15) (.lrefl _) (zA rfl (kw rfl (kw rfl (zB rfl (zB rfl (zC (kQ (zA rfl (ks rfl (zC (k_cT rfl rfl ?_)))))))))))))))
  refine kQ (zA rfl (zB rfl (zB rfl (zC (zR ?_)))))
  refine⟨.inr rfl,_,.cons _ _ _ _ (.tmp 4) (.cons _ _ _ _ (.tmp 5) .nil),?_⟩
  exact .refl _
 |true=>
  rw[hc,if_pos rfl]at q15
  rw[Bool.true_and]
  have hcc:=zEb.1 hc
  have hl:=hcc.len
  have hr:=hcc.rg
  have q55:=ret55 (orc:=orc) hi (L:=L) (by omega) (fun x hx=>by have:=hr x hx;omega)
  have hul:=unN_lt (n:=10) (L:=L) (fun x hx=>by have:=hr x hx;omega)
  have q59:=ret59 (orc:=orc) hi h.toBOk (dok_nil b) (s:=unN L) (L:=L) (by omega) (fun i _=>(unN_bit fun x hx=>(hr x hx).1).symm)
  generalize spL b [] L=S at*
  generalize fitB b [] L=f at*
  refine kQ (zq rfl rfl (zB rfl (zB rfl (zC ?_))))
  refine zF [(1,.lst .ro 1 (zE L)),(2,U.box 0 0)] ([SB.box (Bk.cs b)]) (.n2 rfl) rfl fun fr=>?_
  refine k_seq (kQ (kC rfl sh25 (zA rfl (zG rfl (q15) (.lrefl _) (zA rfl (kw rfl (kw rfl (zB rfl (zB rfl (zC (kQ (zA rfl (ks rfl (zC (k_cF rfl rfl ?_)))))))))))))))
  refine zL (k_seq (yY [.read true,.plain,.read false,.plain,.plain,.plain] (by kernel_rfl) (by kernel_rfl) (by kernel_rfl) ?_))
  refine zT rfl (kC rfl sh25 (zC rfl)) ?_
  refine zD (zA rfl (zC rfl)) (zAM rfl (q55) (.int _ _) (.lrefl _) ?_)
  refine zD (zG rfl (q59) (.lcons _ _ _ _ (.refl _) (.lcons _ _ _ _ (.refl _) (.lcons _ _ _ _ (.nil _ _ _) (.lrefl _)))) (zC rfl)) ?_
  refine zD (zB rfl (zC rfl)) ?_
  refine zD (zB rfl (zC rfl)) ?_
  refine wS ?_
  refine zR ?_
  refine⟨.inr rfl,_,.cons _ _ _ _ (.tmp 4) (.cons _ _ _ _ (.tmp 5) .nil),?_⟩
  exact .refl _
theorem ret14g(hi:Off is)(h:VOk b)(L:List Int):RetP Tryd.prog is orc 14 [b.u,.lst .ro 1 (zE L)] (endR b L):=by
 unfold endR
 cases hc:chF b (-1) L with
 |true=>rw[if_pos rfl];exact ret14 hi h (zEb.1 hc)
 |false=>
  rw[if_neg (by decide)]
  have q51:=ret51 (orc:=orc) hi h L
  rw[hc]at q51
  have q51:RetP Tryd.prog is orc 51 [b.u,.lst .ro 1 (zE L)] (.tup [zcrU,.int .i64 101]):=q51
  refine zc body14 pure14 (hi 14 (by decide)) rfl rfl (zb (yZ b 4) (zP 6 .ro (fun h=>by cases h) 1 L)) (.inr ⟨_,rfl,zb (k:=7) (zDP 5) (.int _ _ _)⟩) ?_
  refine kQ (zq rfl rfl (zB rfl (zB rfl (zC ?_))))
  refine zF [(1,.lst .ro 1 (zE L)),(2,U.box 0 0)] ([SB.box (Bk.cs b)]) (.n2 rfl) rfl fun fr=>?_
  refine kQ (kC rfl sh25 (zA rfl (zG rfl (q51) (.lrefl _) (zA rfl (kw rfl (kw rfl (zi rfl ze72 ?_)))))))
  refine zW rfl rfl sh72 rfl rfl rfl rfl rfl ?_
  refine zB rfl (zC ?_)
  refine zF [(1,.lst .ro 1 (zE L)),(6,U.box 1 0),(7,.int .i64 101)] ([SB.box (Bk.cs b),SB.box [.int .i64 0,.lst .full 0 [],.lst .full 0 [],.lst .full 0 [],.int .i64 0,.lst .full 0 [],.int .i64 0,.int .i64 0,.int .i64 0,.lst .full 0 [],.lst .full 0 []]]) (.n3 rfl) rfl fun fr=>?_
  refine k_seq (kQ (zA rfl (ks rfl (zC (k_cT rfl rfl ?_)))))
  refine kQ (zA rfl (zB rfl (zB rfl (zC (zR ?_)))))
  refine⟨.inr rfl,_,.cons _ _ _ _ (.tmp 4) (.cons _ _ _ _ (.tmp 5) .nil),?_⟩
  exact .refl _
theorem ret51j(hi:Off is)(hv:we b=false)(L:List Int):RetP Tryd.prog is orc 51 [b.u,.lst .ro 1 (zE L)] (.tup [zcrU,.int .i64 100]):=by
 refine zc body51 pure51 (hi 51 (by decide)) rfl rfl (zb (yZ b 4) (zP 6 .ro (fun h=>by cases h) 1 L)) (.inr ⟨_,rfl,zb (k:=7) (dat_zcr 3) (.int _ _ _)⟩) ?_
 refine kQ (zq rfl rfl (zq rfl rfl (zi rfl ze72 ?_)))
 refine zB rfl (zC ?_)
 refine zF [(2,U.box 0 0),(3,U.box 1 0),(4,U.box 2 0)] ([SB.box (Bk.cs b),SB.box [.lst .ro 1 (zE L)],SB.box [.int .i64 0,.lst .full 0 [],.lst .full 0 [],.lst .full 0 [],.int .i64 0,.lst .full 0 [],.int .i64 0,.int .i64 0,.int .i64 0,.lst .full 0 [],.lst .full 0 []]]) (.n3 rfl) rfl fun fr=>?_
 refine kQ (kC rfl sh25 ?_)
 refine zEi rfl ?_
 refine zAo (es:=[U.fn 77 [] [U.box 1 0]]) rfl ty104 ze82 cl82 rfl rfl rfl rfl rfl rfl rfl rfl ?_
 refine zEI rfl (wpc60j hi hv) (.lcons _ _ _ _ (.refl _) (.lcons _ _ _ _ (.ro _ _ _) (.lrefl _))) (fun u st1 hM=>?_)
 obtain⟨rfl,e,rfl⟩:=hM
 refine zA rfl (kw rfl (kw rfl (zi rfl ze70 ?_)))
 refine zW rfl (zf _ _) sh70 rfl rfl rfl rfl rfl ?_
 refine zB rfl (zC ?_)
 refine zF [(4,U.box 2 0),(6,U.box (List.length (SB.box (Bk.cs b)::SB.box [.lst .ro 1 (zE L)]::SB.box [.int .i64 0,.lst .full 0 [],.lst .full 0 [],.lst .full 0 [],.int .i64 0,.lst .full 0 [],.int .i64 0,.int .i64 0,.int .i64 0,.lst .full 0 [],.lst .full 0 []]::List.append [] e)) 0),(7,.int .i64 100)] (SB.box (Bk.cs b)::SB.box [.lst .ro 1 (zE L)]::SB.box [.int .i64 0,.lst .full 0 [],.lst .full 0 [],.lst .full 0 [],.int .i64 0,.lst .full 0 [],.int .i64 0,.int .i64 0,.int .i64 0,.lst .full 0 [],.lst .full 0 []]::List.set (List.append (List.append [] e) [SB.box (zAP (V.cons (V.int .i64 (0:Int)) (V.cons V.nils (V.cons V.nils (V.cons V.nils (V.cons (V.int .i64 (0:Int)) (V.cons V.nils (V.cons (V.int .i64 (0:Int)) (V.cons (V.int .i64 (0:Int)) (V.cons (V.int .i64 (0:Int)) (V.cons V.nils V.nil)))))))))))]) (List.length (List.append [] e)) (SB.box [.int .i64 0,.lst .full 0 [],.lst .full 0 [],.lst .full 0 [],.int .i64 0,.lst .full 0 [],.int .i64 0,.int .i64 0,.int .i64 0,.lst .full 0 []])) (.n3 rfl) rfl fun fr=>?_
 refine kQ (yK rfl rfl (zBV _ _ _) sh70 rfl ?_)
 refine wI rfl ze72 pl72 rfl rfl ?_
 refine zA rfl (zW rfl rfl sh72 rfl rfl rfl rfl rfl ?_)
 refine zB rfl (zC (zR ?_))
 refine⟨.inr rfl,_,.cons _ _ _ _ (.cellN 4 72 _ _ _ _ rfl rfl sh72 rfl) (.cons _ _ _ _ (.tmp 5) .nil),?_⟩
 exact .refl _
theorem ret14j(hi:Off is)(hv:we b=false)(L:List Int):RetP Tryd.prog is orc 14 [b.u,.lst .ro 1 (zE L)] (.tup [.lst .full 0 [],.int .i64 100]):=by
 have q51:=ret51j (orc:=orc) hi hv L
 refine zc body14 pure14 (hi 14 (by decide)) rfl rfl (zb (yZ b 4) (zP 6 .ro (fun h=>by cases h) 1 L)) (.inr ⟨_,rfl,zb (k:=7) (zDP 5) (.int _ _ _)⟩) ?_
 refine kQ (zq rfl rfl (zB rfl (zB rfl (zC ?_))))
 refine zF [(1,.lst .ro 1 (zE L)),(2,U.box 0 0)] ([SB.box (Bk.cs b)]) (.n2 rfl) rfl fun fr=>?_
 refine kQ (kC rfl sh25 (zA rfl (zG rfl (q51) (.lrefl _) (zA rfl (kw rfl (kw rfl (zi rfl ze72 ?_)))))))
 refine zW rfl rfl sh72 rfl rfl rfl rfl rfl ?_
 refine zB rfl (zC ?_)
 refine zF [(1,.lst .ro 1 (zE L)),(6,U.box 1 0),(7,.int .i64 100)] ([SB.box (Bk.cs b),SB.box [.int .i64 0,.lst .full 0 [],.lst .full 0 [],.lst .full 0 [],.int .i64 0,.lst .full 0 [],.int .i64 0,.int .i64 0,.int .i64 0,.lst .full 0 [],.lst .full 0 []]]) (.n3 rfl) rfl fun fr=>?_
 refine k_seq (kQ (zA rfl (ks rfl (zC (k_cT rfl rfl ?_)))))
 refine kQ (zA rfl (zB rfl (zB rfl (zC (zR ?_)))))
 refine⟨.inr rfl,_,.cons _ _ _ _ (.tmp 4) (.cons _ _ _ _ (.tmp 5) .nil),?_⟩
 exact .refl _
theorem ret19j(hi:Off is)(hv:we b=false)(L:List Int):RetP Tryd.prog is orc 19 [b.u,.lst .ro 1 (zE L)] (.tup [.bool false,.int .i64 100]):=by
 have q51:=ret51j (orc:=orc) hi hv L
 refine zc body19 pure19 (hi 19 (by decide)) rfl rfl (zb (yZ b 4) (zP 6 .ro (fun h=>by cases h) 1 L)) (.inr ⟨_,rfl,zb (k:=7) (.bool _ _) (.int _ _ _)⟩) ?_
 refine kQ (zq rfl rfl (zB rfl (zB rfl (zC ?_))))
 refine zF [(1,.lst .ro 1 (zE L)),(2,U.box 0 0)] ([SB.box (Bk.cs b)]) (.n2 rfl) rfl fun fr=>?_
 refine kQ (kC rfl sh25 (zA rfl (zG rfl (q51) (.lrefl _) (zA rfl (kw rfl (kw rfl (zi rfl ze72 ?_)))))))
 refine zW rfl rfl sh72 rfl rfl rfl rfl rfl ?_
 refine zB rfl (zC ?_)
 refine zF [(1,.lst .ro 1 (zE L)),(6,U.box 1 0),(7,.int .i64 100)] ([SB.box (Bk.cs b),SB.box [.int .i64 0,.lst .full 0 [],.lst .full 0 [],.lst .full 0 [],.int .i64 0,.lst .full 0 [],.int .i64 0,.int .i64 0,.int .i64 0,.lst .full 0 [],.lst .full 0 []]]) (.n3 rfl) rfl fun fr=>?_
 refine k_seq (kQ (zA rfl (ks rfl (zC (k_cT rfl rfl ?_)))))
 refine kQ (zA rfl (zB rfl (zB rfl (zC (zR ?_)))))
 refine⟨.inr rfl,_,.cons _ _ _ _ (.tmp 4) (.cons _ _ _ _ (.tmp 5) .nil),?_⟩
 exact .refl _
theorem ret26j(hi:Off is)(hv:we b=false)(d:List Int):RetP Tryd.prog is orc 26 [b.u,.lst .ro 1 (zE d)] (.tup [.lst .full 0 [],.int .i64 100]):=by
 have q18:=ret18 (orc:=orc) hi b
 rw[if_neg (by rw[hv];decide)]at q18
 refine zc body26 pure26 (hi 26 (by decide)) rfl rfl (zb (yZ b 4) (zP 6 .ro (fun h=>by cases h) 1 d)) (.inr ⟨_,rfl,zb (k:=7) (zDP 5) (.int _ _ _)⟩) ?_
 refine kQ (zq rfl rfl (zB rfl (zB rfl (zC ?_))))
 refine zF [(1,.lst .ro 1 (zE d)),(2,U.box 0 0)] ([SB.box (Bk.cs b)]) (.n2 rfl) rfl fun fr=>?_
 refine k_seq (kQ (kC rfl sh25 (zG rfl (q18) (.lrefl _) (zB rfl (zC (kQ (zA rfl (ks rfl (zC (k_cT rfl rfl ?_))))))))))
 refine kQ (zA rfl (zB rfl (zB rfl (zC (zR ?_)))))
 refine⟨.inr rfl,_,.cons _ _ _ _ (.tmp 4) (.cons _ _ _ _ (.tmp 5) .nil),?_⟩
 exact .refl _
theorem ret22j(hi:Off is)(hv:we b=false):RetP Tryd.prog is orc 22 [b.u] (.tup [.lst .full 0 [],.int .i64 100]):=by
 have q26:=ret26j (orc:=orc) hi hv []
 refine zc body22 pure22 (hi 22 (by decide)) rfl rfl (zAm (yZ b 4)) (.inr ⟨_,rfl,zb (k:=7) (zDP 5) (.int _ _ _)⟩) ?_
 refine kQ (zq rfl rfl (zB rfl (zB rfl (zC ?_))))
 refine zF [(1,U.box 0 0)] ([SB.box (Bk.cs b)]) (.n1 rfl) rfl fun fr=>?_
 refine kQ (kC rfl sh25 (zG rfl (q26) (.lcons _ _ _ _ (.refl _) (.lcons _ _ _ _ (.nil _ _ _) (.lrefl _))) ?_))
 refine kw rfl (kw rfl (zB rfl (zB rfl (zC (zR ?_)))))
 refine⟨.inr rfl,_,.cons _ _ _ _ (.tmp 2) (.cons _ _ _ _ (.tmp 3) .nil),?_⟩
 exact .refl _
theorem ret15j(hi:Off is)(hv:we b=false)(L:List Int):RetP Tryd.prog is orc 15 [b.u,.lst .ro 1 (zE L)] (.tup [.lst .full 0 [],.int .i64 100]):=by
 have q18:=ret18 (orc:=orc) hi b
 rw[if_neg (by rw[hv];decide)]at q18
 refine zc body15 pure15 (hi 15 (by decide)) rfl rfl (zb (yZ b 4) (zP 6 .ro (fun h=>by cases h) 1 L)) (.inr ⟨_,rfl,zb (k:=7) (zDP 5) (.int _ _ _)⟩) ?_
 refine kQ (zq rfl rfl (zB rfl (zB rfl (zC ?_))))
 refine zF [(1,.lst .ro 1 (zE L)),(2,U.box 0 0)] ([SB.box (Bk.cs b)]) (.n2 rfl) rfl fun fr=>?_
 refine k_seq (kQ (kC rfl sh25 (zG rfl (q18) (.lrefl _) (zB rfl (zC (kQ (zA rfl (ks rfl (zC (k_cT rfl rfl ?_))))))))))
 refine kQ (zA rfl (zB rfl (zB rfl (zC (zR ?_)))))
 refine⟨.inr rfl,_,.cons _ _ _ _ (.tmp 4) (.cons _ _ _ _ (.tmp 5) .nil),?_⟩
 exact .refl _
theorem ret20j(hi:Off is)(hv:we b=false)(L:List Int):RetP Tryd.prog is orc 20 [b.u,.lst .ro 1 (zE L)] (.tup [.bool false,.int .i64 100]):=by
 have q15:=ret15j (orc:=orc) hi hv L
 refine zc body20 pure20 (hi 20 (by decide)) rfl rfl (zb (yZ b 4) (zP 6 .ro (fun h=>by cases h) 1 L)) (.inr ⟨_,rfl,zb (k:=7) (.bool _ _) (.int _ _ _)⟩) ?_
 refine kQ (zq rfl rfl (zB rfl (zB rfl (zC ?_))))
 refine zF [(1,.lst .ro 1 (zE L)),(2,U.box 0 0)] ([SB.box (Bk.cs b)]) (.n2 rfl) rfl fun fr=>?_
 refine k_seq (kQ (kC rfl sh25 (zA rfl (zG rfl (q15) (.lrefl _) (zA rfl (kw rfl (kw rfl (zB rfl (zB rfl (zC (kQ (zA rfl (ks rfl (zC (k_cT rfl rfl ?_)))))))))))))))
 refine kQ (zA rfl (zB rfl (zB rfl (zC (zR ?_)))))
 refine⟨.inr rfl,_,.cons _ _ _ _ (.tmp 4) (.cons _ _ _ _ (.tmp 5) .nil),?_⟩
 exact .refl _
end Go.Proofs.YtlknfhjfkcboiaaDoor.night
