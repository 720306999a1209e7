import Derived.Test.YthhbfbmfhldbaaaDoorVamT23
set_option linter.unusedVariables false
set_option linter.unusedSimpArgs false
set_option linter.constructorNameAsVariable false
namespace Go.Proofs.YthhbfbmfhldbaaaDoor.locks
open Vam
variable {is:FuncId→Bool}{orc:Known}{l:Ln}
theorem ze24:yP Tryd.prog 24=some ((.cons .nils (.cons (.int .i64 0) (.cons (.int .i64 0) (.cons (.int .i64 0) .nil)))):V):=by kernel_rfl
noncomputable def b7:Code:=(Tryd.f7.body).getD .skip
theorem body7:bodyOf Tryd.prog 7=some (225,b7,[.tmp 6]):=by kernel_rfl
theorem pure7:pureFn Tryd.prog 7=false:=by kernel_rfl
def bI(b:Bool):Int:=if b=true then 1 else 0
theorem bI_b(b:Bool):0≤bI b∧bI b≤1:=by cases b<;>decide
def cW(A0 A1:Bool):Nat→Int
 |0=>0
 |1=>bI A0
 |_=>bI A0+bI A1
set_option maxHeartbeats 32000000 in
theorem ret7(hi:Off is)(l:Ln)(bits:List Int)(k:Int)(r26:RetP Tryd.prog is orc 26 [] (.bool true)):RetP Tryd.prog is orc 7 [l.u,.lst .ro 1 (zE bits),.int .i64 k] (.bool true):=by
 have hda:∀u∈[l.u,.lst .ro 1 (zE bits),.int .i64 k],Dat 8 u:=dat_l3 (wj l 5) (wI 6 .ro (fun h=>by cases h) 1 bits) (.int _ _ _)
 refine zAe body7 pure7 rfl rfl (fun u hu=>⟨(hda u hu).nb,(hda u hu).own⟩) (Dat.bool 8 true).nb ?_
 have q41:=ret41 (orc:=orc) hi l
 have q24:=ret24 (orc:=orc) hi l
 have hE:forE l=if yu l=true then if(splL l).length=0 then 4 else 0 else 70:=rfl
 have hR:forR l=if forE l=0 then memP (fcF l) 16 else []:=rfl
 cases hv:yu l with
 |false=>
  rw[hv]at q41
  rw[hv,if_neg (by decide)]at hE
  rw[hE,if_neg (by decide)]at hR
  rw[hE,hR]at q24
  refine kQ (yK rfl rfl (zC rfl (zA ?_)))
  refine zH [(1,.lst .ro 1 (zE bits)),(2,.int .i64 k),(3,U.box 0 0)] ([SB.box [.lst .ro 1 (zE (Ln.slots l)),.int .i64 (Ln.left l),.int .i64 (Ln.right l),.int .i64 (Ln.run l)]]) (.n3 rfl) rfl fun fr=>?_
  refine kQ (kC sh24 rfl (zP rfl (q24) (.lrefl _) (zB rfl (kw rfl (kw rfl (zC rfl (zC rfl (zA (k_seq (kQ (kC sh24 rfl (zP rfl (q41) (.lrefl _) (yj rfl rfl (zA (k_cT rfl rfl ?_)))))))))))))))
  refine kQ (zB rfl (ku rfl (zB rfl (kf rfl (zB rfl (kf rfl (yG rfl ty22 rfl (List.length_map _) ?_)))))))
  refine kf rfl (ku rfl (kF rfl ?_))
  refine zB rfl (kf rfl (zP rfl (r26) (.lrefl _) (kF rfl ?_)))
  refine zC rfl (zA (za ?_))
  refine⟨.inr rfl,_,.cons _ _ _ _ (.tmp 6) .nil,?_⟩
  exact .refl _
 |true=>
  have h:=zAp.1 hv
  have hn:=h.n
  rw[hv]at q41
  rw[hv,if_pos rfl]at hE
  have q21:=ret21 (orc:=orc) hi l
  have sE:splE l=if yu l=true then if(bstO (splL l)).isSome=true then 0 else 4 else 70:=rfl
  have sR:splR l=if splE l=0 then(bstO (splL l)).getD []else []:=rfl
  rw[hv,if_pos rfl]at sE
  cases hb:bstO (splL l)with
  |none=>
   have hs0:=none_spl h hb
   have sE:splE l=4:=by rw[sE,hb];rfl
   rw[sE,if_neg (by decide)]at sR
   rw[sE,sR]at q21
   rw[hs0,if_pos (show([]:List (List Int)).length=0 from rfl)]at hE
   rw[hE,if_neg (by decide)]at hR
   rw[hE,hR]at q24
   refine kQ (yK rfl rfl (zC rfl (zA ?_)))
   refine zH [(1,.lst .ro 1 (zE bits)),(2,.int .i64 k),(3,U.box 0 0)] ([SB.box [.lst .ro 1 (zE (Ln.slots l)),.int .i64 (Ln.left l),.int .i64 (Ln.right l),.int .i64 (Ln.run l)]]) (.n3 rfl) rfl fun fr=>?_
   refine kQ (kC sh24 rfl (zP rfl (q24) (.lrefl _) (zB rfl (kw rfl (kw rfl (zC rfl (zC rfl (zA (k_seq (kQ (kC sh24 rfl (zP rfl (q41) (.lrefl _) (yj rfl rfl (zA (k_cF rfl rfl ?_)))))))))))))))
   refine zN (kQ (kC sh24 rfl (zP rfl (q21) (.lrefl _) (zB rfl (kw rfl (kw rfl (zC rfl (zC rfl (zA ?_)))))))))
   refine zH [(1,.lst .ro 1 (zE bits)),(2,.int .i64 k),(3,U.box 0 0),(7,.lst .ro 1 (zE [])),(8,.int .i64 4),(9,.lst .ro 1 (zE [])),(10,.int .i64 4)] ([SB.box [.lst .ro 1 (zE (Ln.slots l)),.int .i64 (Ln.left l),.int .i64 (Ln.right l),.int .i64 (Ln.run l)]]) (.n7 rfl) rfl fun fr=>?_
   refine k_seq (kQ (zB rfl (zB rfl (ks rfl (zA (k_cF rfl rfl ?_))))))
   refine zN (k_seq (kQ (zB rfl (ks rfl (zA (k_cT rfl rfl ?_))))))
   refine kQ (zB rfl (ku rfl (zB rfl (kf rfl (zB rfl (kf rfl (yG rfl ty22 rfl (List.length_map _) ?_)))))))
   refine kf rfl (ku rfl (kF rfl ?_))
   refine zB rfl (kf rfl (zP rfl (r26) (.lrefl _) (kF rfl ?_)))
   refine zC rfl (zA (za ?_))
   refine⟨.inr rfl,_,.cons _ _ _ _ (.tmp 6) .nil,?_⟩
   exact .refl _
  |some b=>
   obtain⟨hbm,_⟩:=some_spl hb
   have hpos:0<(splL l).length:=List.length_pos_of_mem hbm
   have sE:splE l=0:=by rw[sE,hb];rfl
   rw[sE,if_pos rfl,hb]at sR
   have sR:splR l=b:=sR
   rw[sE,sR]at q21
   rw[if_neg (by omega)]at hE
   rw[hE,if_pos rfl]at hR
   rw[hE,hR]at q24
   have hbl:=spl_len h hbm
   have q47:=ret47 (orc:=orc) hi (n:=l.slots.length) (by omega) (memP (fcF l) 16)
   rw[for_grow h]at q47
   have q42:=ret42 (orc:=orc) hi h bits
   have hxl:=drw_len l bits l.slots.length
   generalize drwL l bits l.slots.length=X at*
   have q43:=ret43 (orc:=orc) hi h X
   have hsame:divB l X=true→∀x∈memP (fcF l) 16,at' X x.toNat=at' b x.toNat:=fun e x hx=>for_same h ((zCJ h).2 e) hbm hx
   have hrg:∀x∈memP (fcF l) 16,0≤x∧x<l.slots.length:=fun x hx=>by
    have:=((grw_iff _ _).1 (for_grow h)).2 x hx
    omega
   have hboth:=fun(j:Nat) (hs:at' l.slots j≠ -1)=>for_both h (List.ne_nil_of_length_pos hpos) hs
   have hfl:=zDd (fcF l) 16
   have hstr:∀x∈memP (fcF l) 16,at' l.slots x.toNat≠ -1:=fun x hx=>by
    obtain⟨j,_,rfl,hj⟩:=for_mem.1 hx
    exact(fc_iff.1 hj).1
   have q48:=ret48 (orc:=orc) hi k l.slots.length (by omega)
   have hat:=turnI_b (n:=k) (b:=(l.slots.length:Int)) (by omega)
   generalize zEe k l.slots.length=at0 at*
   obtain⟨j,rfl⟩:∃j:Nat,at0=j:=⟨at0.toNat,by omega⟩
   have q49j:=ret49 (orc:=orc) hi (memP (fcF l) 16) j (by omega)
   have hixj:=idx_mem (memP (fcF l) 16) j 0
   generalize memP (fcF l) 16=F at*
   refine kQ (yK rfl rfl (zC rfl (zA ?_)))
   refine zH [(1,.lst .ro 1 (zE bits)),(2,.int .i64 k),(3,U.box 0 0)] ([SB.box [.lst .ro 1 (zE (Ln.slots l)),.int .i64 (Ln.left l),.int .i64 (Ln.right l),.int .i64 (Ln.run l)]]) (.n3 rfl) rfl fun fr=>?_
   refine kQ (kC sh24 rfl (zP rfl (q24) (.lrefl _) (zB rfl (kw rfl (kw rfl (zC rfl (zC rfl (zA (k_seq (kQ (kC sh24 rfl (zP rfl (q41) (.lrefl _) (yj rfl rfl (zA (k_cF rfl rfl ?_)))))))))))))))
   refine zN (kQ (kC sh24 rfl (zP rfl (q21) (.lrefl _) (zB rfl (kw rfl (kw rfl (zC rfl (zC rfl (zA ?_)))))))))
   refine zH [(1,.lst .ro 1 (zE bits)),(2,.int .i64 k),(3,U.box 0 0),(7,.lst .ro 1 (zE F)),(8,.int .i64 0),(9,.lst .ro 1 (zE b)),(10,.int .i64 0)] ([SB.box [.lst .ro 1 (zE (Ln.slots l)),.int .i64 (Ln.left l),.int .i64 (Ln.right l),.int .i64 (Ln.run l)]]) (.n7 rfl) rfl fun fr=>?_
   refine k_seq (kQ (zB rfl (zB rfl (ks rfl (zA (k_cF rfl rfl ?_))))))
   refine zN (k_seq (kQ (zB rfl (ks rfl (zA (k_cF rfl rfl ?_))))))
   refine zN (k_seq (kQ (zB rfl (kz rfl zQ (kB sh22 rfl (yG rfl ty22 rfl (List.length_map _) ?_))))))
   refine zP rfl (q47) (.lrefl _) (yj rfl rfl (zB rfl (kf rfl (zB rfl (kf rfl (yG rfl ty22 rfl (List.length_map _) ?_))))))
   refine zj [(1,.lst .ro 1 (zE bits)),(2,.int .i64 k),(3,U.box 0 0),(7,.lst .ro 1 (zE F)),(9,.lst .ro 1 (zE b)),(66,U.bool !Bool.true),(68,.int .i64 ↑(List.length b))] [] ([SB.box [.lst .ro 1 (zE (Ln.slots l)),.int .i64 (Ln.left l),.int .i64 (Ln.right l),.int .i64 (Ln.run l)]]) (.n7 rfl) rfl rfl fun fr=>?_
   refine kf rfl ?_
   refine zj [(1,.lst .ro 1 (zE bits)),(2,.int .i64 k),(3,U.box 0 0),(7,.lst .ro 1 (zE F)),(9,.lst .ro 1 (zE b)),(66,U.bool !Bool.true),(68,.int .i64 ↑(List.length b))] [] ([SB.box [.lst .ro 1 (zE (Ln.slots l)),.int .i64 (Ln.left l),.int .i64 (Ln.right l),.int .i64 (Ln.run l)]]) (.n7 rfl) rfl rfl fun fr=>?_
   refine kz rfl zQ (kf rfl (kB sh22 rfl (kf rfl (yG rfl ty22 rfl (List.length_map _) ?_))))
   refine kf rfl (ks rfl (kE rfl ?_))
   refine zA (k_cF rfl (kH (by omega)) (zN (kQ (kC sh24 rfl (zB rfl (zP rfl (q42) (.lrefl _) (zC rfl (zA ?_))))))))
   refine zH [(2,.int .i64 k),(3,U.box 0 0),(7,.lst .ro 1 (zE F)),(9,.lst .ro 1 (zE b)),(11,.lst .ro 1 (zE X))] ([SB.box [.lst .ro 1 (zE (Ln.slots l)),.int .i64 (Ln.left l),.int .i64 (Ln.right l),.int .i64 (Ln.run l)]]) (.n5 rfl) rfl fun fr=>?_
   refine kQ (zC rfl (zA (k_seq (kQ (zC rfl (zA (zK ?_)))))))
   refine wD (fun kk s3=>∃(i:Nat) (sm:Bool),kk+i=F.length∧(divB l X=true→sm=true)∧s3.st=[.box l.cs]∧Holds s3 [(2,.int .i64 k),(3,.box 0 0),(7,.lst .ro 1 (zE F)),(9,.lst .ro 1 (zE b)),(11,.lst .ro 1 (zE X)),(12,.bool sm),(13,.int .i64 i)]) (fun kk s3 hJ=>?_) F.length _ ⟨0,true,rfl,fun _=>rfl,rfl,.c4 rfl rfl rfl rfl (.n3 rfl)⟩
   obtain⟨i,sm,hk,hsm,hst3,hs3⟩:=hJ
   by_cases hin:i<F.length
   ·obtain⟨x,hx⟩:∃x,F[i]? =some x:=⟨F[i],List.getElem?_eq_getElem hin⟩
    have hxm:x∈F:=List.mem_of_getElem? hx
    have hxr:=hrg x hxm
    have hxs:=fun e=>hsame e x hxm
    obtain⟨j,rfl⟩:∃j:Nat,x=j:=⟨x.toNat,by omega⟩
    obtain⟨u,hu⟩:∃u,X[j]? =some u:=⟨X[j],List.getElem?_eq_getElem (by omega)⟩
    obtain⟨v,hw⟩:∃v,b[j]? =some v:=⟨b[j],List.getElem?_eq_getElem (by omega)⟩
    have hxs:divB l X=true→u=v:=fun e=>by
     have:=hxs e
     unfold at' at this
     rw[show((j:Int)).toNat=j by omega,hu,hw]at this
     exact this
    refine zH _ _ hs3 hst3 fun fr3=>?_
    cases sm with
    |false=>
     refine k_seq (kQ (zB rfl (zB rfl (yG rfl ty22 rfl (List.length_map _) ?_))))
     refine kq rfl (zA (k_cT rfl (kG (by omega)) (zN (k_seq (zK (yU [.plain,.plain,.plain,.plain,.plain,.plain,.read true,.plain,.read true,.plain,.plain,.plain,.plain,.read true,.plain,.read true,.plain,.plain,.plain] (by kernel_rfl) (by kernel_rfl) (by kernel_rfl) ?_))))))
     refine zD (zB rfl (zA rfl)) (zD (zB rfl (zA rfl)) (kj rfl (kj rfl (kj rfl (kj rfl (kj rfl (kj rfl (kj rfl ?_))))))))
     refine yf [(2,.int .i64 k),(3,U.box 0 0),(7,.lst .ro 1 (zE F)),(9,.lst .ro 1 (zE b)),(11,.lst .ro 1 (zE X)),(13,.int .i64 ↑i),(84,.bool false)] [] ([SB.box (Ln.cs l)]) (.n7 rfl) rfl rfl fun fr=>?_
     refine kj rfl (kj rfl (kj rfl (kj rfl (kj rfl (kj rfl (kj rfl (kj rfl (zD (kE rfl (zA rfl)) ?_))))))))
     refine yf [(2,.int .i64 k),(3,U.box 0 0),(7,.lst .ro 1 (zE F)),(9,.lst .ro 1 (zE b)),(11,.lst .ro 1 (zE X)),(13,.int .i64 ↑i),(100,.bool false)] [] ([SB.box (Ln.cs l)]) (.n7 rfl) rfl rfl fun fr=>?_
     refine zD (zC rfl (zA rfl)) ?_
     refine wK ?_
     refine zH [(2,.int .i64 k),(3,U.box 0 0),(7,.lst .ro 1 (zE F)),(9,.lst .ro 1 (zE b)),(11,.lst .ro 1 (zE X)),(12,.bool false),(13,.int .i64 ↑i)] ([SB.box (Ln.cs l)]) (.n7 rfl) rfl fun fr=>?_
     refine k_region (zB rfl ?_)
     refine kA rfl (by unfold I64;omega) (zC rfl (zA ?_))
     exact⟨kk - 1,by omega,i+1,false,by omega,hsm,rfl,.c4 rfl rfl rfl rfl (.n3 rfl)⟩
    |true=>
     refine k_seq (kQ (zB rfl (zB rfl (yG rfl ty22 rfl (List.length_map _) ?_))))
     refine kq rfl (zA (k_cT rfl (kG (by omega)) (zN (k_seq (zK (yU [.plain,.plain,.plain,.plain,.plain,.plain,.read true,.plain,.read true,.plain,.plain,.plain,.plain,.read true,.plain,.read true,.plain,.plain,.plain] (by kernel_rfl) (by kernel_rfl) (by kernel_rfl) ?_))))))
     refine zD (zB rfl (zA rfl)) (zD (zB rfl (zA rfl)) (kl rfl (zD (zB rfl (zA rfl)) (kl rfl (zD (zB rfl (zA rfl)) (kl rfl (zD (zB rfl (zA rfl)) (kl rfl (zD (yT (u:=.int .i64 (↑j)) rfl ty22 rfl rfl (Int.natCast_nonneg _) (by simp[hx]) cl3 (zA rfl)) ?_)))))))))
     refine kl rfl (zV rfl (kD sh3 rfl (zA rfl)) ?_)
     refine kl rfl (zD (yT (u:=.int .i64 (u)) rfl ty22 rfl rfl (Int.natCast_nonneg _) (by simp[hu]) cl3 (zA rfl)) ?_)
     refine kl rfl (zV rfl (kD sh3 rfl (zA rfl)) ?_)
     refine yf [(2,.int .i64 k),(3,U.box 0 0),(7,.lst .ro 1 (zE F)),(9,.lst .ro 1 (zE b)),(11,.lst .ro 1 (zE X)),(13,.int .i64 ↑i),(84,.bool true),(91,.int .i64 u)] [] ([SB.box (Ln.cs l)]) (.n8 rfl) rfl rfl fun fr=>?_
     refine kl rfl ?_
     refine yf [(2,.int .i64 k),(3,U.box 0 0),(7,.lst .ro 1 (zE F)),(9,.lst .ro 1 (zE b)),(11,.lst .ro 1 (zE X)),(13,.int .i64 ↑i),(84,.bool true),(91,.int .i64 u)] [] ([SB.box (Ln.cs l)]) (.n8 rfl) rfl rfl fun fr=>?_
     refine zD (zB rfl (zA rfl)) (kl rfl (zD (zB rfl (zA rfl)) (kl rfl (zD (zB rfl (zA rfl)) (kl rfl (zD (yT (u:=.int .i64 (↑j)) rfl ty22 rfl rfl (Int.natCast_nonneg _) (by simp[hx]) cl3 (zA rfl)) ?_))))))
     refine kl rfl (zV rfl (kD sh3 rfl (zA rfl)) ?_)
     refine kl rfl (zD (yT (u:=.int .i64 (v)) rfl ty22 rfl rfl (Int.natCast_nonneg _) (by simp[hw]) cl3 (zA rfl)) ?_)
     refine kl rfl (zV rfl (kD sh3 rfl (zA rfl)) ?_)
     refine kl rfl (zD (ku rfl (zA rfl)) ?_)
     refine zD (kF rfl (zA rfl)) ?_
     refine yf [(2,.int .i64 k),(3,U.box 0 0),(7,.lst .ro 1 (zE F)),(9,.lst .ro 1 (zE b)),(11,.lst .ro 1 (zE X)),(13,.int .i64 ↑i),(100,U.bool (decide (u=v)))] [] ([SB.box (Ln.cs l)]) (.n7 rfl) rfl rfl fun fr=>?_
     refine zD (zC rfl (zA rfl)) ?_
     refine wK ?_
     refine zH [(2,.int .i64 k),(3,U.box 0 0),(7,.lst .ro 1 (zE F)),(9,.lst .ro 1 (zE b)),(11,.lst .ro 1 (zE X)),(12,U.bool (decide (u=v))),(13,.int .i64 ↑i)] ([SB.box (Ln.cs l)]) (.n7 rfl) rfl fun fr=>?_
     refine k_region (zB rfl ?_)
     refine kA rfl (by unfold I64;omega) (zC rfl (zA ?_))
     exact⟨kk - 1,by omega,i+1,decide (u=v),by omega,fun e=>kG (hxs e),rfl,.c4 rfl rfl rfl rfl (.n3 rfl)⟩
   ·have hie:i=F.length:=by omega
    subst hie
    clear hsame
    refine zH _ _ hs3 hst3 fun fr3=>?_
    refine k_seq (kQ (zB rfl (zB rfl (yG rfl ty22 rfl (List.length_map _) ?_))))
    refine kq rfl (zA (k_cF rfl (kH (by omega)) (yD ?_)))
    refine k_cut (fun s5=>s5.st=[.box l.cs]∧Holds s5 [(2,.int .i64 k),(3,.box 0 0),(7,.lst .ro 1 (zE F)),(107,.bool false)]) ?_ ?_
    ·cases hd:divB l X with
     |false=>
      rw[hd]at q43
      refine kQ (kC sh24 rfl (zB rfl (zP rfl (q43) (.lrefl _) (zB rfl (ke rfl (ke rfl (kE rfl ?_)))))))
      refine zA (k_cF rfl rfl ?_)
      refine zN ?_
      exact⟨rfl,rfl,.c4 rfl rfl rfl rfl (.nil rfl)⟩
     |true=>
      rw[hd]at q43
      rw[hsm hd]
      refine kQ (kC sh24 rfl (zB rfl (zP rfl (q43) (.lrefl _) (zB rfl (kf rfl (zB rfl (kf rfl (yj rfl rfl (kF rfl ?_)))))))))
      refine zA (k_cF rfl rfl ?_)
      refine zN ?_
      exact⟨rfl,rfl,.c4 rfl rfl rfl rfl (.nil rfl)⟩
    ·rintro s5 ⟨hst5,hs5⟩
     clear hsm hrg q43
     refine zH _ _ hs5 hst5 fun fr5=>?_
     obtain⟨t,ht⟩:∃t,l.slots[j]? =some t:=⟨l.slots[j],List.getElem?_eq_getElem (by omega)⟩
     have hat':at' l.slots j=t:=by unfold at';rw[ht];rfl
     have htn:=h.tn t (List.mem_of_getElem? ht)
     by_cases c:t<0
     ·have hnj:(j:Int) ∉ F:=fun e=>hstr _ e (by rw[show((j:Int)).toNat=j by omega,hat'];omega)
      rw[kH hnj,decide_eq_false_iff_not]at hixj
      generalize idxI F j 0=ix at*
      have kn:decide (ix<0)=true:=kG (by omega)
      refine kQ (zB rfl (kz rfl zQ (kB sh22 rfl (yG rfl ty22 rfl (List.length_map _) ?_))))
      refine zP rfl (q48) (.lrefl _) (zC rfl (zA (k_seq (kQ (kz rfl zQ (kB sh22 rfl (zB rfl (yT (u:=.int .i64 (t)) rfl ty22 rfl rfl (Int.natCast_nonneg _) (by simp[ht]) cl3 ?_))))))))
      refine kD sh3 rfl ?_
      refine kq rfl (zA ?_)
      refine zH [(3,U.box 0 0),(7,.lst .ro 1 (zE F)),(14,.int .i64 ↑j),(118,U.bool (decide (t<(0:Int))))] ([SB.box (Ln.cs l)]) (.n4 rfl) rfl fun fr=>?_
      refine k_cT rfl (kG (by omega)) (kQ (zB rfl (zB rfl (zP rfl (q49j) (.lrefl _) (kq rfl (zB rfl (kh rfl (by assumption) (zP rfl (r26) (.lrefl _) (zo rfl rfl (by assumption) ?_)))))))))
      refine zC rfl (zA (za ?_))
      refine⟨.inr rfl,_,.cons _ _ _ _ (.tmp 6) .nil,?_⟩
      exact .refl _
     ·have hs:at' l.slots j≠ -1:=by rw[hat'];omega
      obtain⟨hb1,hb2⟩:=hboth j hs
      obtain⟨A0,hA0⟩:∃A0:Bool,A0=true↔ ∃p∈splL l,at' p j=0:=⟨@decide _ (Classical.propDecidable _),@decide_eq_true_iff _ (Classical.propDecidable _)⟩
      obtain⟨A1,hA1⟩:∃A1:Bool,A1=true↔ ∃p∈splL l,at' p j=1:=⟨@decide _ (Classical.propDecidable _),@decide_eq_true_iff _ (Classical.propDecidable _)⟩
      rw[←hA0,←hA1]at hb1 hb2
      clear hboth hstr
      refine kQ (zB rfl (kz rfl zQ (kB sh22 rfl (yG rfl ty22 rfl (List.length_map _) ?_))))
      refine zP rfl (q48) (.lrefl _) (zC rfl (zA (k_seq (kQ (kz rfl zQ (kB sh22 rfl (zB rfl (yT (u:=.int .i64 (t)) rfl ty22 rfl rfl (Int.natCast_nonneg _) (by simp[ht]) cl3 ?_))))))))
      refine kD sh3 rfl ?_
      refine kq rfl (zA ?_)
      refine zH [(3,U.box 0 0),(7,.lst .ro 1 (zE F)),(14,.int .i64 ↑j),(118,U.bool (decide (t<(0:Int))))] ([SB.box (Ln.cs l)]) (.n4 rfl) rfl fun fr=>?_
      refine k_cF rfl (kH (by omega)) (zN (kQ (zC rfl (zA (k_seq (zK ?_))))))
      refine wD (fun kk s6=>∃o:Nat,kk+o=8∧s6.st=[.box l.cs]∧Holds s6 [(3,.box 0 0),(7,.lst .ro 1 (zE F)),(14,.int .i64 j),(15,.int .i64 o)]) (fun kk s6 hJ=>?_) 8 _ ⟨0,rfl,rfl,.c4 rfl rfl rfl rfl (.nil rfl)⟩
      obtain⟨o,hk6,hst6,hs6⟩:=hJ
      have q49o:=ret49 (orc:=orc) hi l.slots o (by omega)
      have hixo:=idx_mem l.slots (o:Int) 0
      refine zH _ _ hs6 hst6 fun fr6=>?_
      by_cases ho:o<8
      ·by_cases hmo:(o:Int)∈l.slots
       ·rw[kG hmo,decide_eq_true_iff]at hixo
        generalize idxI l.slots (o:Int) 0=ix2 at*
        have kn:decide (ix2 ≥ 0)=true:=kG (by omega)
        refine k_seq (kQ (zB rfl (kq rfl (zB rfl (kh rfl (kG (by omega)) ?_)))))
        refine kz rfl zQ (kh rfl (kG (by omega)) ?_)
        refine kB sh22 rfl (kh rfl (kG (by omega)) ?_)
        refine zB rfl (kh rfl (kG (by omega)) ?_)
        refine zP rfl (q49o) (.lrefl _) (kh rfl (kG (by omega)) ?_)
        refine zBj rfl rfl rfl (zo rfl rfl (kG (by omega)) ?_)
        refine zA (k_cT rfl (by assumption) (zN (zK (k_region (zB rfl ?_)))))
        refine kA rfl (by unfold I64;omega) (zC rfl (zA ?_))
        exact⟨kk - 1,by omega,o+1,by omega,rfl,.c4 rfl rfl rfl rfl (.nil rfl)⟩
       ·rw[kH hmo,decide_eq_false_iff_not]at hixo
        have hmany:=fun(w:Int) (hw:w=0∨w=1)=>own_many h hs ho hmo hw
        generalize idxI l.slots (o:Int) 0=ix2 at*
        have kn:decide (ix2 ≥ 0)=false:=kH (by omega)
        refine k_seq (kQ (zB rfl (kq rfl (zB rfl (kh rfl (kG (by omega)) ?_)))))
        refine kz rfl zQ (kh rfl (kG (by omega)) ?_)
        refine kB sh22 rfl (kh rfl (kG (by omega)) ?_)
        refine zB rfl (kh rfl (kG (by omega)) ?_)
        refine zP rfl (q49o) (.lrefl _) (kh rfl (kG (by omega)) ?_)
        refine zBj rfl rfl rfl (zo rfl rfl (kG (by omega)) ?_)
        refine zA (k_cF rfl (by assumption) (yD (k_seq (kQ (zB rfl (ku rfl (zA (k_cF rfl (kH (by omega)) (zN (kQ (zC rfl (zA ?_))))))))))))
        refine zH [(3,U.box 0 0),(7,.lst .ro 1 (zE F)),(14,.int .i64 ↑j),(15,.int .i64 ↑o),(16,.int .i64 0)] ([SB.box (Ln.cs l)]) (.n5 rfl) rfl fun fr=>?_
        refine k_seq (kQ (zC rfl (zA (zK ?_))))
        refine wD (fun kk s7=>∃w:Nat,kk+w=2∧((w=0∧s7.st=[.box l.cs])∨(w=1∧∃B1 B2,s7.st=[.box l.cs,B1,B2])∨(w=2∧∃E,s7.st=.box l.cs::E))∧Holds s7 [(3,.box 0 0),(7,.lst .ro 1 (zE F)),(14,.int .i64 j),(15,.int .i64 o),(16,.int .i64 (cW A0 A1 w)),(17,.int .i64 w)]) (fun kk s7 hJ=>?_) 2 _ ⟨0,rfl,.inl ⟨rfl,rfl⟩,.c4 rfl rfl rfl rfl (.n2 rfl)⟩
        obtain⟨w,hk7,hw7,hs7⟩:=hJ
        have q50a:=ret50 (orc:=orc) hi (s:=l.left) (t:=t) (by have:=h.lf;omega) (by omega)
        have q50b:=ret50 (orc:=orc) hi (s:=l.right) (t:=t) (by have:=h.rt;omega) (by omega)
        rcases hw7 with ⟨rfl,hst7⟩|⟨rfl,B1,B2,hst7⟩|⟨rfl,E,hst7⟩
        ·obtain⟨m1,m2⟩:=hmany 0 (.inl rfl)
         have q19:=ret19 (orc:=orc) hi (ownL l j o 0)
         rw[m1]at q19
         rw[←hA0,hat',show zDV l 0=l.left from rfl]at m2
         generalize manN (ownL l j o 0)=m at*
         rw[show cW A0 A1 0=0 from rfl]at hs7
         refine zH _ _ hs7 hst7 fun fr7=>?_
         refine k_seq (kQ (zB rfl (kq rfl (zA (k_cT rfl rfl ?_)))))
         refine zN (k_seq (zK (kQ (kC sh24 rfl (yM rfl ze24 ?_)))))
         refine yk rfl rfl sh24 rfl rfl rfl rfl rfl ?_
         refine zA ?_
         refine zH [(3,U.box 0 0),(7,.lst .ro 1 (zE F)),(14,.int .i64 ↑j),(15,.int .i64 ↑o),(16,.int .i64 0),(17,.int .i64 ↑0),(18,U.box 1 0)] ([SB.box (Ln.cs l),SB.box [.lst .ro 1 (zE (Ln.slots l)),.int .i64 (Ln.left l),.int .i64 (Ln.right l),.int .i64 (Ln.run l)]]) (.n7 rfl) rfl fun fr=>?_
         refine kQ (zDM (es:=[]) rfl ty22 ze3 cl3 rfl rfl rfl rfl rfl rfl rfl rfl ?_)
         refine kz rfl zQ (kB sh22 rfl (o_appendB rfl wz rfl rfl (by simp) (by simp) (int_one _) (by rw[zFC,int_dg]) (List.length_map _) (by omega) (by omega) ?_))
         refine kz rfl zQ (yR rfl rfl sh22 rfl rfl (zA ?_))
         refine zH [(3,U.box 0 0),(7,.lst .ro 1 (zE F)),(14,.int .i64 ↑j),(15,.int .i64 ↑o),(16,.int .i64 0),(17,.int .i64 0),(18,U.box 1 0)] ([SB.box (Ln.cs l),SB.box [U.sl 2 0 (List.length (Ln.slots l)) 1,.int .i64 (Ln.left l),.int .i64 (Ln.right l),.int .i64 (Ln.run l)],SB.box (zE (Ln.slots l))]) (.n7 rfl) rfl fun fr=>?_
         refine kQ (kz rfl zQ (kB sh22 rfl (zB rfl (zB rfl (o_idxS rfl ty22 rfl rfl (Int.natCast_nonneg _) (by omega) cl3 ?_)))))
         refine o_store1W rfl rfl sh3 (by rw[List.length_map];omega) rfl (int_put _ _ _ (by omega)) ?_
         refine zA ?_
         refine zH [(3,U.box 0 0),(7,.lst .ro 1 (zE F)),(14,.int .i64 ↑j),(15,.int .i64 ↑o),(16,.int .i64 0),(17,.int .i64 0),(18,U.box 1 0)] ([SB.box (Ln.cs l),SB.box [U.sl 2 0 (List.length (Ln.slots l)) 1,.int .i64 (Ln.left l),.int .i64 (Ln.right l),.int .i64 (Ln.run l)],SB.box (zE (List.set (Ln.slots l) j ↑o))]) (.n7 rfl) rfl fun fr=>?_
         refine k_seq (k_drawA [.plain,.read true,.plain,.plain,.plain,.plain,.read true,.plain,.plain,.plain,.plain,.plain,.plain,.plain] [(160,165)] (by kernel_rfl) (by kernel_rfl) (by kernel_rfl) ?_)
         refine zD (kz rfl yp (zA rfl)) ?_
         refine zV rfl (kB sh3 rfl (zA rfl)) (zD (zB rfl (zA rfl)) (zD (zCj (n:=o) rfl rfl rfl (by omega) (zA rfl)) ?_))
         refine zD (o_ndI rfl rfl rfl (zA rfl)) ?_
         refine zD (kz rfl wM (zA rfl)) ?_
         refine zV rfl (kB sh3 rfl (zA rfl)) (zD (zB rfl (zA rfl)) (zD (zCj (n:=o) rfl rfl rfl (by omega) (zA rfl)) ?_))
         refine zD (o_ndI rfl rfl rfl (zA rfl)) ?_
         refine zD (kz rfl yp (zA rfl)) ?_
         refine zD (yR rfl rfl sh3 rfl rfl (zA rfl)) ?_
         refine zD (kz rfl wM (zA rfl)) ?_
         refine zD (yR rfl rfl sh3 rfl rfl (zA rfl)) ?_
         refine wK ⟨fun p hp=>by simp only[List.mem_cons,List.not_mem_nil,or_false]at hp;rcases hp with rfl<;>exact⟨_,_,_,_,_,rfl,rfl,Nat.ne_of_beq_eq_false rfl,rfl⟩,?_⟩
         refine zH [(3,U.box 0 0),(7,.lst .ro 1 (zE F)),(14,.int .i64 ↑j),(15,.int .i64 ↑o),(16,.int .i64 0),(17,.int .i64 0),(18,U.box 1 0)] ([SB.box (Ln.cs l),SB.box [U.sl 2 0 (List.length (Ln.slots l)) 1,.int .i64 (ndI (Ln.left l) ((2:Int) ^ o)),.int .i64 (ndI (Ln.right l) ((2:Int) ^ o)),.int .i64 (Ln.run l)],SB.box (zE (List.set (Ln.slots l) j ↑o))]) (.n7 rfl) rfl fun fr=>?_
         refine kQ (zC rfl (zA ?_))
         refine zH [(3,U.box 0 0),(7,.lst .ro 1 (zE F)),(14,.int .i64 ↑j),(15,.int .i64 ↑o),(16,.int .i64 0),(17,.int .i64 0),(18,U.box 1 0)] ([SB.box (Ln.cs l),SB.box [U.sl 2 0 (List.length (Ln.slots l)) 1,.int .i64 (ndI (Ln.left l) ((2:Int) ^ o)),.int .i64 (ndI (Ln.right l) ((2:Int) ^ o)),.int .i64 (Ln.run l)],SB.box (zE (List.set (Ln.slots l) j ↑o))]) (.n7 rfl) rfl fun fr=>?_
         refine k_seq (kQ (zB rfl (ku rfl (zA ?_))))
         refine zH [(3,U.box 0 0),(7,.lst .ro 1 (zE F)),(14,.int .i64 ↑j),(15,.int .i64 ↑o),(16,.int .i64 0),(17,.int .i64 0),(18,U.box 1 0),(168,U.bool (decide ((0:Int)=(0:Int))))] ([SB.box (Ln.cs l),SB.box [U.sl 2 0 (List.length (Ln.slots l)) 1,.int .i64 (ndI (Ln.left l) ((2:Int) ^ o)),.int .i64 (ndI (Ln.right l) ((2:Int) ^ o)),.int .i64 (Ln.run l)],SB.box (zE (List.set (Ln.slots l) j ↑o))]) (.n8 rfl) rfl fun fr=>?_
         refine k_cT rfl rfl ?_
         refine k_seq (yU [.plain,.read true,.plain,.read true,.plain,.plain,.read true,.plain,.plain] (by kernel_rfl) (by kernel_rfl) (by kernel_rfl) ?_)
         refine zD (kz rfl yp (zA rfl)) ?_
         refine zV rfl (kB sh3 rfl (zA rfl)) (zD (kz rfl zQ (zA rfl)) ?_)
         refine zV rfl (kB sh22 rfl (zA rfl)) (zD (zB rfl (zA rfl)) (zD (yT (u:=.int .i64 (t)) rfl ty22 rfl rfl (Int.natCast_nonneg _) (by simp[ht]) cl3 (zA rfl)) ?_))
         refine zV rfl (kD sh3 rfl (zA rfl)) ?_
         refine zD (zP rfl (q50a) (.lrefl _) (zA rfl)) ?_
         refine zD (zC rfl (zA rfl)) ?_
         refine wK ?_
         refine zH [(3,U.box 0 0),(7,.lst .ro 1 (zE F)),(14,.int .i64 ↑j),(15,.int .i64 ↑o),(16,.int .i64 0),(17,.int .i64 0),(18,U.box 1 0),(19,U.bool (bitI (Ln.left l) t))] ([SB.box (Ln.cs l),SB.box [U.sl 2 0 (List.length (Ln.slots l)) 1,.int .i64 (ndI (Ln.left l) ((2:Int) ^ o)),.int .i64 (ndI (Ln.right l) ((2:Int) ^ o)),.int .i64 (Ln.run l)],SB.box (zE (List.set (Ln.slots l) j ↑o))]) (.n8 rfl) rfl fun fr=>?_
         refine yU [.plain,.plain,.plain,.plain,.plain,.plain,.plain] (by kernel_rfl) (by kernel_rfl) (by kernel_rfl) ?_
         refine zD (kz rfl yp (zA rfl)) ?_
         refine zD (kB sh3 rfl (zA rfl)) ?_
         refine zD (zB rfl (zA rfl)) (zD (zCj (n:=o) rfl rfl rfl (by omega) (zA rfl)) ?_)
         refine zD (o_orZ rfl rfl rfl (zA rfl)) ?_
         refine zD (kz rfl yp (zA rfl)) ?_
         refine zD (yR rfl rfl sh3 rfl rfl (zA rfl)) ?_
         refine wK ?_
         refine zH [(3,U.box 0 0),(7,.lst .ro 1 (zE F)),(14,.int .i64 ↑j),(15,.int .i64 ↑o),(16,.int .i64 0),(17,.int .i64 0),(18,U.box 1 0),(19,U.bool (bitI (Ln.left l) t))] ([SB.box (Ln.cs l),SB.box [U.sl 2 0 (List.length (Ln.slots l)) 1,.int .i64 (orZ (ndI (Ln.left l) ((2:Int) ^ o)) ((2:Int) ^ o)),.int .i64 (ndI (Ln.right l) ((2:Int) ^ o)),.int .i64 (Ln.run l)],SB.box (zE (List.set (Ln.slots l) j ↑o))]) (.n8 rfl) rfl fun fr=>?_
         refine kQ (kC sh24 rfl (o_frz (a:=2) rfl ?_))
         refine o_see 198 (u:=(ownL l j o 0).u) rfl (fun _=>rfl) (.agg _ _ (.lcons _ _ _ _ (ints_us rfl List.length_set) (.lrefl _))) ?_
         refine zP rfl (q19) (.lrefl _) (zB rfl (kw rfl (kw rfl (zC rfl (zC rfl (zA ?_))))))
         cases hbt:bitI l.left t with
         |false=>
          have e:A0=false:=by
           rw[hbt]at m2
           cases A0 with
           |false=>rfl
           |true=>cases(m2.2 rfl).1
          subst e
          refine k_seq (kQ (zB rfl (ks rfl (zA ?_))))
          refine zH [(3,U.box 0 0),(7,.lst .ro 1 (zE F)),(14,.int .i64 ↑j),(15,.int .i64 ↑o),(16,.int .i64 0),(17,.int .i64 0),(19,.bool false),(20,.int .i64 ↑m),(203,U.bool (decide ((0:Int)≠(0:Int))))] ([SB.box (Ln.cs l),SB.box [U.sl 2 0 (List.length (Ln.slots l)) 1,.int .i64 (orZ (ndI (Ln.left l) ((2:Int) ^ o)) ((2:Int) ^ o)),.int .i64 (ndI (Ln.right l) ((2:Int) ^ o)),.int .i64 (Ln.run l)],SB.froz (List.map dg (zE (List.set (Ln.slots l) j ↑o)))]) (.n9 rfl) rfl fun fr=>?_
          refine k_cF rfl rfl ?_
          refine zN (kQ (zB rfl (zB rfl (ke rfl (ke rfl (kE rfl ?_))))))
          refine zA ?_
          refine zH [(3,U.box 0 0),(7,.lst .ro 1 (zE F)),(14,.int .i64 ↑j),(15,.int .i64 ↑o),(16,.int .i64 0),(17,.int .i64 0),(208,.bool false)] ([SB.box (Ln.cs l),SB.box [U.sl 2 0 (List.length (Ln.slots l)) 1,.int .i64 (orZ (ndI (Ln.left l) ((2:Int) ^ o)) ((2:Int) ^ o)),.int .i64 (ndI (Ln.right l) ((2:Int) ^ o)),.int .i64 (Ln.run l)],SB.froz (List.map dg (zE (List.set (Ln.slots l) j ↑o)))]) (.n7 rfl) rfl fun fr=>?_
          refine k_cF rfl rfl ?_
          refine zN (k_region (zB rfl ?_))
          refine kA rfl (by unfold I64;omega) (zC rfl (zA ?_))
          exact⟨kk - 1,by omega,1,by omega,.inr (.inl ⟨rfl,_,_,rfl⟩),.c4 rfl rfl rfl rfl (.n2 rfl)⟩
         |true=>
          rw[hbt]at m2
          by_cases hm:(m:Int) > 0
          ·have e:A0=true:=m2.1 ⟨rfl,hm⟩
           subst e
           refine k_seq (kQ (zB rfl (ks rfl (zA ?_))))
           refine zH [(3,U.box 0 0),(7,.lst .ro 1 (zE F)),(14,.int .i64 ↑j),(15,.int .i64 ↑o),(16,.int .i64 0),(17,.int .i64 0),(19,.bool true),(20,.int .i64 ↑m),(203,U.bool (decide ((0:Int)≠(0:Int))))] ([SB.box (Ln.cs l),SB.box [U.sl 2 0 (List.length (Ln.slots l)) 1,.int .i64 (orZ (ndI (Ln.left l) ((2:Int) ^ o)) ((2:Int) ^ o)),.int .i64 (ndI (Ln.right l) ((2:Int) ^ o)),.int .i64 (Ln.run l)],SB.froz (List.map dg (zE (List.set (Ln.slots l) j ↑o)))]) (.n9 rfl) rfl fun fr=>?_
           refine k_cF rfl rfl ?_
           refine zN (kQ (zB rfl (zB rfl (kf rfl (zB rfl (kf rfl (o_gtr rfl rfl rfl (kF rfl ?_))))))))
           refine zA ?_
           refine zH [(3,U.box 0 0),(7,.lst .ro 1 (zE F)),(14,.int .i64 ↑j),(15,.int .i64 ↑o),(16,.int .i64 0),(17,.int .i64 0),(208,U.bool (decide ((0:Int)< ↑m)))] ([SB.box (Ln.cs l),SB.box [U.sl 2 0 (List.length (Ln.slots l)) 1,.int .i64 (orZ (ndI (Ln.left l) ((2:Int) ^ o)) ((2:Int) ^ o)),.int .i64 (ndI (Ln.right l) ((2:Int) ^ o)),.int .i64 (Ln.run l)],SB.froz (List.map dg (zE (List.set (Ln.slots l) j ↑o)))]) (.n7 rfl) rfl fun fr=>?_
           refine k_cT rfl (kG (by omega)) (k_region (zB rfl ?_))
           refine kA rfl (by unfold I64;omega) (zC rfl (zA ?_))
           refine zH [(3,U.box 0 0),(7,.lst .ro 1 (zE F)),(14,.int .i64 ↑j),(15,.int .i64 ↑o),(16,.int .i64 ((0:Int)+(1:Int))),(17,.int .i64 0)] ([SB.box (Ln.cs l),SB.box [U.sl 2 0 (List.length (Ln.slots l)) 1,.int .i64 (orZ (ndI (Ln.left l) ((2:Int) ^ o)) ((2:Int) ^ o)),.int .i64 (ndI (Ln.right l) ((2:Int) ^ o)),.int .i64 (Ln.run l)],SB.froz (List.map dg (zE (List.set (Ln.slots l) j ↑o)))]) (.n6 rfl) rfl fun fr=>?_
           refine k_region (zB rfl ?_)
           refine kA rfl (by unfold I64;omega) (zC rfl (zA ?_))
           exact⟨kk - 1,by omega,1,by omega,.inr (.inl ⟨rfl,_,_,rfl⟩),.c4 rfl rfl rfl rfl (.n2 rfl)⟩
          ·have e:A0=false:=by
            cases A0 with
            |false=>rfl
            |true=>exact absurd (m2.2 rfl).2 hm
           subst e
           refine k_seq (kQ (zB rfl (ks rfl (zA ?_))))
           refine zH [(3,U.box 0 0),(7,.lst .ro 1 (zE F)),(14,.int .i64 ↑j),(15,.int .i64 ↑o),(16,.int .i64 0),(17,.int .i64 0),(19,.bool true),(20,.int .i64 ↑m),(203,U.bool (decide ((0:Int)≠(0:Int))))] ([SB.box (Ln.cs l),SB.box [U.sl 2 0 (List.length (Ln.slots l)) 1,.int .i64 (orZ (ndI (Ln.left l) ((2:Int) ^ o)) ((2:Int) ^ o)),.int .i64 (ndI (Ln.right l) ((2:Int) ^ o)),.int .i64 (Ln.run l)],SB.froz (List.map dg (zE (List.set (Ln.slots l) j ↑o)))]) (.n9 rfl) rfl fun fr=>?_
           refine k_cF rfl rfl ?_
           refine zN (kQ (zB rfl (zB rfl (kf rfl (zB rfl (kf rfl (o_gtr rfl rfl rfl (kF rfl ?_))))))))
           refine zA ?_
           refine zH [(3,U.box 0 0),(7,.lst .ro 1 (zE F)),(14,.int .i64 ↑j),(15,.int .i64 ↑o),(16,.int .i64 0),(17,.int .i64 0),(208,U.bool (decide ((0:Int)< ↑m)))] ([SB.box (Ln.cs l),SB.box [U.sl 2 0 (List.length (Ln.slots l)) 1,.int .i64 (orZ (ndI (Ln.left l) ((2:Int) ^ o)) ((2:Int) ^ o)),.int .i64 (ndI (Ln.right l) ((2:Int) ^ o)),.int .i64 (Ln.run l)],SB.froz (List.map dg (zE (List.set (Ln.slots l) j ↑o)))]) (.n7 rfl) rfl fun fr=>?_
           refine k_cF rfl (kH (by omega)) (zN (k_region (zB rfl ?_)))
           refine kA rfl (by unfold I64;omega) (zC rfl (zA ?_))
           exact⟨kk - 1,by omega,1,by omega,.inr (.inl ⟨rfl,_,_,rfl⟩),.c4 rfl rfl rfl rfl (.n2 rfl)⟩
        ·obtain⟨m1,m2⟩:=hmany 1 (.inr rfl)
         have q19:=ret19 (orc:=orc) hi (ownL l j o 1)
         rw[m1]at q19
         rw[←hA1,hat',show zDV l 1=l.right from rfl]at m2
         generalize manN (ownL l j o 1)=m at*
         rw[show cW A0 A1 1=bI A0 from rfl]at hs7
         have hbI:=bI_b A0
         refine zH _ _ hs7 hst7 fun fr7=>?_
         refine k_seq (kQ (zB rfl (kq rfl (zA (k_cT rfl rfl ?_)))))
         refine zN (k_seq (zK (kQ (kC sh24 rfl (yM rfl ze24 ?_)))))
         refine yk rfl rfl sh24 rfl rfl rfl rfl rfl ?_
         refine zA ?_
         refine zH [(3,U.box 0 0),(7,.lst .ro 1 (zE F)),(14,.int .i64 ↑j),(15,.int .i64 ↑o),(16,.int .i64 (bI A0)),(17,.int .i64 ↑1),(18,U.box 3 0)] ([SB.box (Ln.cs l),B1,B2,SB.box [.lst .ro 1 (zE (Ln.slots l)),.int .i64 (Ln.left l),.int .i64 (Ln.right l),.int .i64 (Ln.run l)]]) (.n7 rfl) rfl fun fr=>?_
         refine kQ (zDM (es:=[]) rfl ty22 ze3 cl3 rfl rfl rfl rfl rfl rfl rfl rfl ?_)
         refine kz rfl zQ (kB sh22 rfl (o_appendB rfl wz rfl rfl (by simp) (by simp) (int_one _) (by rw[zFC,int_dg]) (List.length_map _) (by omega) (by omega) ?_))
         refine kz rfl zQ (yR rfl rfl sh22 rfl rfl (zA ?_))
         refine zH [(3,U.box 0 0),(7,.lst .ro 1 (zE F)),(14,.int .i64 ↑j),(15,.int .i64 ↑o),(16,.int .i64 (bI A0)),(17,.int .i64 1),(18,U.box 3 0)] ([SB.box (Ln.cs l),B1,B2,SB.box [U.sl 4 0 (List.length (Ln.slots l)) 1,.int .i64 (Ln.left l),.int .i64 (Ln.right l),.int .i64 (Ln.run l)],SB.box (zE (Ln.slots l))]) (.n7 rfl) rfl fun fr=>?_
         refine kQ (kz rfl zQ (kB sh22 rfl (zB rfl (zB rfl (o_idxS rfl ty22 rfl rfl (Int.natCast_nonneg _) (by omega) cl3 ?_)))))
         refine o_store1W rfl rfl sh3 (by rw[List.length_map];omega) rfl (int_put _ _ _ (by omega)) ?_
         refine zA ?_
         refine zH [(3,U.box 0 0),(7,.lst .ro 1 (zE F)),(14,.int .i64 ↑j),(15,.int .i64 ↑o),(16,.int .i64 (bI A0)),(17,.int .i64 1),(18,U.box 3 0)] ([SB.box (Ln.cs l),B1,B2,SB.box [U.sl 4 0 (List.length (Ln.slots l)) 1,.int .i64 (Ln.left l),.int .i64 (Ln.right l),.int .i64 (Ln.run l)],SB.box (zE (List.set (Ln.slots l) j ↑o))]) (.n7 rfl) rfl fun fr=>?_
         refine k_seq (k_drawA [.plain,.read true,.plain,.plain,.plain,.plain,.read true,.plain,.plain,.plain,.plain,.plain,.plain,.plain] [(160,165)] (by kernel_rfl) (by kernel_rfl) (by kernel_rfl) ?_)
         refine zD (kz rfl yp (zA rfl)) ?_
         refine zV rfl (kB sh3 rfl (zA rfl)) (zD (zB rfl (zA rfl)) (zD (zCj (n:=o) rfl rfl rfl (by omega) (zA rfl)) ?_))
         refine zD (o_ndI rfl rfl rfl (zA rfl)) ?_
         refine zD (kz rfl wM (zA rfl)) ?_
         refine zV rfl (kB sh3 rfl (zA rfl)) (zD (zB rfl (zA rfl)) (zD (zCj (n:=o) rfl rfl rfl (by omega) (zA rfl)) ?_))
         refine zD (o_ndI rfl rfl rfl (zA rfl)) ?_
         refine zD (kz rfl yp (zA rfl)) ?_
         refine zD (yR rfl rfl sh3 rfl rfl (zA rfl)) ?_
         refine zD (kz rfl wM (zA rfl)) ?_
         refine zD (yR rfl rfl sh3 rfl rfl (zA rfl)) ?_
         refine wK ⟨fun p hp=>by simp only[List.mem_cons,List.not_mem_nil,or_false]at hp;rcases hp with rfl<;>exact⟨_,_,_,_,_,rfl,rfl,Nat.ne_of_beq_eq_false rfl,rfl⟩,?_⟩
         refine zH [(3,U.box 0 0),(7,.lst .ro 1 (zE F)),(14,.int .i64 ↑j),(15,.int .i64 ↑o),(16,.int .i64 (bI A0)),(17,.int .i64 1),(18,U.box 3 0)] ([SB.box (Ln.cs l),B1,B2,SB.box [U.sl 4 0 (List.length (Ln.slots l)) 1,.int .i64 (ndI (Ln.left l) ((2:Int) ^ o)),.int .i64 (ndI (Ln.right l) ((2:Int) ^ o)),.int .i64 (Ln.run l)],SB.box (zE (List.set (Ln.slots l) j ↑o))]) (.n7 rfl) rfl fun fr=>?_
         refine kQ (zC rfl (zA ?_))
         refine zH [(3,U.box 0 0),(7,.lst .ro 1 (zE F)),(14,.int .i64 ↑j),(15,.int .i64 ↑o),(16,.int .i64 (bI A0)),(17,.int .i64 1),(18,U.box 3 0)] ([SB.box (Ln.cs l),B1,B2,SB.box [U.sl 4 0 (List.length (Ln.slots l)) 1,.int .i64 (ndI (Ln.left l) ((2:Int) ^ o)),.int .i64 (ndI (Ln.right l) ((2:Int) ^ o)),.int .i64 (Ln.run l)],SB.box (zE (List.set (Ln.slots l) j ↑o))]) (.n7 rfl) rfl fun fr=>?_
         refine k_seq (kQ (zB rfl (ku rfl (zA ?_))))
         refine zH [(3,U.box 0 0),(7,.lst .ro 1 (zE F)),(14,.int .i64 ↑j),(15,.int .i64 ↑o),(16,.int .i64 (bI A0)),(17,.int .i64 1),(18,U.box 3 0),(168,U.bool (decide ((1:Int)=(0:Int))))] ([SB.box (Ln.cs l),B1,B2,SB.box [U.sl 4 0 (List.length (Ln.slots l)) 1,.int .i64 (ndI (Ln.left l) ((2:Int) ^ o)),.int .i64 (ndI (Ln.right l) ((2:Int) ^ o)),.int .i64 (Ln.run l)],SB.box (zE (List.set (Ln.slots l) j ↑o))]) (.n8 rfl) rfl fun fr=>?_
         refine k_cF rfl rfl ?_
         refine k_seq (yU [.plain,.read true,.plain,.read true,.plain,.plain,.read true,.plain,.plain] (by kernel_rfl) (by kernel_rfl) (by kernel_rfl) ?_)
         refine zD (kz rfl wM (zA rfl)) ?_
         refine zV rfl (kB sh3 rfl (zA rfl)) (zD (kz rfl zQ (zA rfl)) ?_)
         refine zV rfl (kB sh22 rfl (zA rfl)) (zD (zB rfl (zA rfl)) (zD (yT (u:=.int .i64 (t)) rfl ty22 rfl rfl (Int.natCast_nonneg _) (by simp[ht]) cl3 (zA rfl)) ?_))
         refine zV rfl (kD sh3 rfl (zA rfl)) ?_
         refine zD (zP rfl (q50b) (.lrefl _) (zA rfl)) ?_
         refine zD (zC rfl (zA rfl)) ?_
         refine wK ?_
         refine zH [(3,U.box 0 0),(7,.lst .ro 1 (zE F)),(14,.int .i64 ↑j),(15,.int .i64 ↑o),(16,.int .i64 (bI A0)),(17,.int .i64 1),(18,U.box 3 0),(19,U.bool (bitI (Ln.right l) t))] ([SB.box (Ln.cs l),B1,B2,SB.box [U.sl 4 0 (List.length (Ln.slots l)) 1,.int .i64 (ndI (Ln.left l) ((2:Int) ^ o)),.int .i64 (ndI (Ln.right l) ((2:Int) ^ o)),.int .i64 (Ln.run l)],SB.box (zE (List.set (Ln.slots l) j ↑o))]) (.n8 rfl) rfl fun fr=>?_
         refine yU [.plain,.plain,.plain,.plain,.plain,.plain,.plain] (by kernel_rfl) (by kernel_rfl) (by kernel_rfl) ?_
         refine zD (kz rfl wM (zA rfl)) ?_
         refine zD (kB sh3 rfl (zA rfl)) ?_
         refine zD (zB rfl (zA rfl)) (zD (zCj (n:=o) rfl rfl rfl (by omega) (zA rfl)) ?_)
         refine zD (o_orZ rfl rfl rfl (zA rfl)) ?_
         refine zD (kz rfl wM (zA rfl)) ?_
         refine zD (yR rfl rfl sh3 rfl rfl (zA rfl)) ?_
         refine wK ?_
         refine zH [(3,U.box 0 0),(7,.lst .ro 1 (zE F)),(14,.int .i64 ↑j),(15,.int .i64 ↑o),(16,.int .i64 (bI A0)),(17,.int .i64 1),(18,U.box 3 0),(19,U.bool (bitI (Ln.right l) t))] ([SB.box (Ln.cs l),B1,B2,SB.box [U.sl 4 0 (List.length (Ln.slots l)) 1,.int .i64 (ndI (Ln.left l) ((2:Int) ^ o)),.int .i64 (orZ (ndI (Ln.right l) ((2:Int) ^ o)) ((2:Int) ^ o)),.int .i64 (Ln.run l)],SB.box (zE (List.set (Ln.slots l) j ↑o))]) (.n8 rfl) rfl fun fr=>?_
         refine kQ (kC sh24 rfl (o_frz (a:=4) rfl ?_))
         refine o_see 198 (u:=(ownL l j o 1).u) rfl (fun _=>rfl) (.agg _ _ (.lcons _ _ _ _ (ints_us rfl List.length_set) (.lrefl _))) ?_
         refine zP rfl (q19) (.lrefl _) (zB rfl (kw rfl (kw rfl (zC rfl (zC rfl (zA ?_))))))
         cases hbt:bitI l.right t with
         |false=>
          have e:A1=false:=by
           rw[hbt]at m2
           cases A1 with
           |false=>rfl
           |true=>cases(m2.2 rfl).1
          subst e
          refine k_seq (kQ (zB rfl (ks rfl (zA ?_))))
          refine zH [(3,U.box 0 0),(7,.lst .ro 1 (zE F)),(14,.int .i64 ↑j),(15,.int .i64 ↑o),(16,.int .i64 (bI A0)),(17,.int .i64 1),(19,.bool false),(20,.int .i64 ↑m),(203,U.bool (decide ((0:Int)≠(0:Int))))] ([SB.box (Ln.cs l),B1,B2,SB.box [U.sl 4 0 (List.length (Ln.slots l)) 1,.int .i64 (ndI (Ln.left l) ((2:Int) ^ o)),.int .i64 (orZ (ndI (Ln.right l) ((2:Int) ^ o)) ((2:Int) ^ o)),.int .i64 (Ln.run l)],SB.froz (List.map dg (zE (List.set (Ln.slots l) j ↑o)))]) (.n9 rfl) rfl fun fr=>?_
          refine k_cF rfl rfl ?_
          refine zN (kQ (zB rfl (zB rfl (ke rfl (ke rfl (kE rfl ?_))))))
          refine zA ?_
          refine zH [(3,U.box 0 0),(7,.lst .ro 1 (zE F)),(14,.int .i64 ↑j),(15,.int .i64 ↑o),(16,.int .i64 (bI A0)),(17,.int .i64 1),(208,.bool false)] ([SB.box (Ln.cs l),B1,B2,SB.box [U.sl 4 0 (List.length (Ln.slots l)) 1,.int .i64 (ndI (Ln.left l) ((2:Int) ^ o)),.int .i64 (orZ (ndI (Ln.right l) ((2:Int) ^ o)) ((2:Int) ^ o)),.int .i64 (Ln.run l)],SB.froz (List.map dg (zE (List.set (Ln.slots l) j ↑o)))]) (.n7 rfl) rfl fun fr=>?_
          refine k_cF rfl rfl ?_
          refine zN (k_region (zB rfl ?_))
          refine kA rfl (by unfold I64;omega) (zC rfl (zA ?_))
          exact⟨kk - 1,by omega,2,by omega,.inr (.inr ⟨rfl,_,rfl⟩),.c4 rfl rfl rfl rfl (.cons (by rw[show cW A0 false 2=bI A0 from Int.add_zero _];rfl) (.n1 rfl))⟩
         |true=>
          rw[hbt]at m2
          by_cases hm:(m:Int) > 0
          ·have e:A1=true:=m2.1 ⟨rfl,hm⟩
           subst e
           refine k_seq (kQ (zB rfl (ks rfl (zA ?_))))
           refine zH [(3,U.box 0 0),(7,.lst .ro 1 (zE F)),(14,.int .i64 ↑j),(15,.int .i64 ↑o),(16,.int .i64 (bI A0)),(17,.int .i64 1),(19,.bool true),(20,.int .i64 ↑m),(203,U.bool (decide ((0:Int)≠(0:Int))))] ([SB.box (Ln.cs l),B1,B2,SB.box [U.sl 4 0 (List.length (Ln.slots l)) 1,.int .i64 (ndI (Ln.left l) ((2:Int) ^ o)),.int .i64 (orZ (ndI (Ln.right l) ((2:Int) ^ o)) ((2:Int) ^ o)),.int .i64 (Ln.run l)],SB.froz (List.map dg (zE (List.set (Ln.slots l) j ↑o)))]) (.n9 rfl) rfl fun fr=>?_
           refine k_cF rfl rfl ?_
           refine zN (kQ (zB rfl (zB rfl (kf rfl (zB rfl (kf rfl (o_gtr rfl rfl rfl (kF rfl ?_))))))))
           refine zA ?_
           refine zH [(3,U.box 0 0),(7,.lst .ro 1 (zE F)),(14,.int .i64 ↑j),(15,.int .i64 ↑o),(16,.int .i64 (bI A0)),(17,.int .i64 1),(208,U.bool (decide ((0:Int)< ↑m)))] ([SB.box (Ln.cs l),B1,B2,SB.box [U.sl 4 0 (List.length (Ln.slots l)) 1,.int .i64 (ndI (Ln.left l) ((2:Int) ^ o)),.int .i64 (orZ (ndI (Ln.right l) ((2:Int) ^ o)) ((2:Int) ^ o)),.int .i64 (Ln.run l)],SB.froz (List.map dg (zE (List.set (Ln.slots l) j ↑o)))]) (.n7 rfl) rfl fun fr=>?_
           refine k_cT rfl (kG (by omega)) (k_region (zB rfl ?_))
           refine kA rfl (by unfold I64;omega) (zC rfl (zA ?_))
           refine zH [(3,U.box 0 0),(7,.lst .ro 1 (zE F)),(14,.int .i64 ↑j),(15,.int .i64 ↑o),(16,.int .i64 (bI A0+(1:Int))),(17,.int .i64 1)] ([SB.box (Ln.cs l),B1,B2,SB.box [U.sl 4 0 (List.length (Ln.slots l)) 1,.int .i64 (ndI (Ln.left l) ((2:Int) ^ o)),.int .i64 (orZ (ndI (Ln.right l) ((2:Int) ^ o)) ((2:Int) ^ o)),.int .i64 (Ln.run l)],SB.froz (List.map dg (zE (List.set (Ln.slots l) j ↑o)))]) (.n6 rfl) rfl fun fr=>?_
           refine k_region (zB rfl ?_)
           refine kA rfl (by unfold I64;omega) (zC rfl (zA ?_))
           exact⟨kk - 1,by omega,2,by omega,.inr (.inr ⟨rfl,_,rfl⟩),.c4 rfl rfl rfl rfl (.n2 rfl)⟩
          ·have e:A1=false:=by
            cases A1 with
            |false=>rfl
            |true=>exact absurd (m2.2 rfl).2 hm
           subst e
           refine k_seq (kQ (zB rfl (ks rfl (zA ?_))))
           refine zH [(3,U.box 0 0),(7,.lst .ro 1 (zE F)),(14,.int .i64 ↑j),(15,.int .i64 ↑o),(16,.int .i64 (bI A0)),(17,.int .i64 1),(19,.bool true),(20,.int .i64 ↑m),(203,U.bool (decide ((0:Int)≠(0:Int))))] ([SB.box (Ln.cs l),B1,B2,SB.box [U.sl 4 0 (List.length (Ln.slots l)) 1,.int .i64 (ndI (Ln.left l) ((2:Int) ^ o)),.int .i64 (orZ (ndI (Ln.right l) ((2:Int) ^ o)) ((2:Int) ^ o)),.int .i64 (Ln.run l)],SB.froz (List.map dg (zE (List.set (Ln.slots l) j ↑o)))]) (.n9 rfl) rfl fun fr=>?_
           refine k_cF rfl rfl ?_
           refine zN (kQ (zB rfl (zB rfl (kf rfl (zB rfl (kf rfl (o_gtr rfl rfl rfl (kF rfl ?_))))))))
           refine zA ?_
           refine zH [(3,U.box 0 0),(7,.lst .ro 1 (zE F)),(14,.int .i64 ↑j),(15,.int .i64 ↑o),(16,.int .i64 (bI A0)),(17,.int .i64 1),(208,U.bool (decide ((0:Int)< ↑m)))] ([SB.box (Ln.cs l),B1,B2,SB.box [U.sl 4 0 (List.length (Ln.slots l)) 1,.int .i64 (ndI (Ln.left l) ((2:Int) ^ o)),.int .i64 (orZ (ndI (Ln.right l) ((2:Int) ^ o)) ((2:Int) ^ o)),.int .i64 (Ln.run l)],SB.froz (List.map dg (zE (List.set (Ln.slots l) j ↑o)))]) (.n7 rfl) rfl fun fr=>?_
           refine k_cF rfl (kH (by omega)) (zN (k_region (zB rfl ?_)))
           refine kA rfl (by unfold I64;omega) (zC rfl (zA ?_))
           exact⟨kk - 1,by omega,2,by omega,.inr (.inr ⟨rfl,_,rfl⟩),.c4 rfl rfl rfl rfl (.cons (by rw[show cW A0 false 2=bI A0 from Int.add_zero _];rfl) (.n1 rfl))⟩
        ·clear hmany q50a q50b
         refine zH _ _ hs7 hst7 fun fr7=>?_
         cases A0 with
         |false=>
          cases A1 with
          |false=>rcases hb2 with e|e<;>cases e
          |true=>
           have hj:(j:Int)∈F:=hb1.2 fun e=>by cases e.1
           rw[kG hj,decide_eq_true_iff]at hixj
           generalize idxI F j 0=ix at*
           have kn:decide (decide (cW false true 2=1)=decide (ix ≥ 0))=true:=by rw[kG (show ix ≥ 0 by omega)];rfl
           refine k_seq (kQ (zB rfl (kq rfl (zA (k_cF rfl rfl ?_)))))
           refine yD (kQ (zB rfl (zBj rfl rfl rfl (zB rfl (kf rfl (zB rfl (kf rfl (ku rfl (kf rfl (zB rfl (kf rfl (zB rfl (kf rfl (zP rfl (q49j) (.lrefl _) (kf rfl ?_)))))))))))))))
           refine zBj rfl rfl rfl ?_
           refine zj [(213,U.bool (decide ((1:Int)≤cW Bool.false Bool.true 2))),(215,U.bool (decide (cW Bool.false Bool.true 2=(1:Int)))),(219,U.bool (decide ((0:Int)≤ix)))] [] (SB.box (Ln.cs l)::E) (.n3 rfl) rfl rfl fun fr=>?_
           refine kf rfl ?_
           refine zj [(213,U.bool (decide ((1:Int)≤cW Bool.false Bool.true 2))),(215,U.bool (decide (cW Bool.false Bool.true 2=(1:Int)))),(219,U.bool (decide ((0:Int)≤ix)))] [] (SB.box (Ln.cs l)::E) (.n3 rfl) rfl rfl fun fr=>?_
           refine o_eqlB rfl ty4 rfl rfl ?_
           refine kF rfl ?_
           refine zB rfl (kh rfl (by assumption) (zP rfl (r26) (.lrefl _) (zo rfl rfl (by assumption) ?_)))
           refine zC rfl (zA (za ?_))
           refine⟨.inr rfl,_,.cons _ _ _ _ (.tmp 6) .nil,?_⟩
           exact .refl _
         |true=>
          cases A1 with
          |false=>
           have hj:(j:Int)∈F:=hb1.2 fun e=>by cases e.2
           rw[kG hj,decide_eq_true_iff]at hixj
           generalize idxI F j 0=ix at*
           have kn:decide (decide (cW true false 2=1)=decide (ix ≥ 0))=true:=by rw[kG (show ix ≥ 0 by omega)];rfl
           refine k_seq (kQ (zB rfl (kq rfl (zA (k_cF rfl rfl ?_)))))
           refine yD (kQ (zB rfl (zBj rfl rfl rfl (zB rfl (kf rfl (zB rfl (kf rfl (ku rfl (kf rfl (zB rfl (kf rfl (zB rfl (kf rfl (zP rfl (q49j) (.lrefl _) (kf rfl ?_)))))))))))))))
           refine zBj rfl rfl rfl ?_
           refine zj [(213,U.bool (decide ((1:Int)≤cW Bool.true Bool.false 2))),(215,U.bool (decide (cW Bool.true Bool.false 2=(1:Int)))),(219,U.bool (decide ((0:Int)≤ix)))] [] (SB.box (Ln.cs l)::E) (.n3 rfl) rfl rfl fun fr=>?_
           refine kf rfl ?_
           refine zj [(213,U.bool (decide ((1:Int)≤cW Bool.true Bool.false 2))),(215,U.bool (decide (cW Bool.true Bool.false 2=(1:Int)))),(219,U.bool (decide ((0:Int)≤ix)))] [] (SB.box (Ln.cs l)::E) (.n3 rfl) rfl rfl fun fr=>?_
           refine o_eqlB rfl ty4 rfl rfl ?_
           refine kF rfl ?_
           refine zB rfl (kh rfl (by assumption) (zP rfl (r26) (.lrefl _) (zo rfl rfl (by assumption) ?_)))
           refine zC rfl (zA (za ?_))
           refine⟨.inr rfl,_,.cons _ _ _ _ (.tmp 6) .nil,?_⟩
           exact .refl _
          |true=>
           have hj:(j:Int) ∉ F:=fun e=>hb1.1 e ⟨rfl,rfl⟩
           rw[kH hj,decide_eq_false_iff_not]at hixj
           generalize idxI F j 0=ix at*
           have kn:decide (decide (cW true true 2=1)=decide (ix ≥ 0))=true:=by rw[kH (show ¬ ix ≥ 0 by omega)];rfl
           refine k_seq (kQ (zB rfl (kq rfl (zA (k_cF rfl rfl ?_)))))
           refine yD (kQ (zB rfl (zBj rfl rfl rfl (zB rfl (kf rfl (zB rfl (kf rfl (ku rfl (kf rfl (zB rfl (kf rfl (zB rfl (kf rfl (zP rfl (q49j) (.lrefl _) (kf rfl ?_)))))))))))))))
           refine zBj rfl rfl rfl ?_
           refine zj [(213,U.bool (decide ((1:Int)≤cW Bool.true Bool.true 2))),(215,U.bool (decide (cW Bool.true Bool.true 2=(1:Int)))),(219,U.bool (decide ((0:Int)≤ix)))] [] (SB.box (Ln.cs l)::E) (.n3 rfl) rfl rfl fun fr=>?_
           refine kf rfl ?_
           refine zj [(213,U.bool (decide ((1:Int)≤cW Bool.true Bool.true 2))),(215,U.bool (decide (cW Bool.true Bool.true 2=(1:Int)))),(219,U.bool (decide ((0:Int)≤ix)))] [] (SB.box (Ln.cs l)::E) (.n3 rfl) rfl rfl fun fr=>?_
           refine o_eqlB rfl ty4 rfl rfl ?_
           refine kF rfl ?_
           refine zB rfl (kh rfl (by assumption) (zP rfl (r26) (.lrefl _) (zo rfl rfl (by assumption) ?_)))
           refine zC rfl (zA (za ?_))
           refine⟨.inr rfl,_,.cons _ _ _ _ (.tmp 6) .nil,?_⟩
           exact .refl _
      ·have hoe:o=8:=by omega
       subst hoe
       refine k_seq (kQ (zB rfl (kq rfl (zB rfl (ke rfl (ke rfl (ke rfl (ke rfl (ke rfl (kE rfl ?_))))))))))
       refine zA (k_cF rfl rfl ?_)
       refine yD (k_seq (kQ (zB rfl (ku rfl (zA (k_cT rfl rfl ?_))))))
       refine kQ (zP rfl (r26) (.lrefl _) (zC rfl (zA (za ?_))))
       refine⟨.inr rfl,_,.cons _ _ _ _ (.tmp 6) .nil,?_⟩
       exact .refl _
end Go.Proofs.YthhbfbmfhldbaaaDoor.locks
