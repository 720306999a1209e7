import Derived.Test.YthhbfbmfhldbaaaDoorVamT2
set_option linter.unusedVariables false
set_option linter.unusedSimpArgs false
set_option linter.constructorNameAsVariable false
namespace Go.Proofs.YthhbfbmfhldbaaaDoor.locks
open Vam
variable {is:FuncId→Bool}{orc:Known}{l:Ln}
theorem by3:Program.bytesOf Tryd.prog 3=8:=by kernel_rfl
theorem ze3:yP Tryd.prog 3=some ((.cons (.int .i64 0) .nil):V):=by kernel_rfl
theorem wz:AppT Tryd.prog 22 22 3 1 8 ((.cons (.int .i64 0) .nil):V):=⟨ty22,⟨_,ty22⟩,cl3,by decide,by3,ze3,rfl⟩
noncomputable def b42:Code:=(Tryd.f42.body).getD .skip
theorem body42:bodyOf Tryd.prog 42=some (58,b42,[.tmp 4]):=by kernel_rfl
theorem pure42:pureFn Tryd.prog 42=true:=by kernel_rfl
noncomputable def b43:Code:=(Tryd.f43.body).getD .skip
theorem body43:bodyOf Tryd.prog 43=some (98,b43,[.tmp 4]):=by kernel_rfl
theorem pure43:pureFn Tryd.prog 43=true:=by kernel_rfl
def drwI(l:Ln)(bits:List Int)(i:Nat):Int:=if at' l.slots i<0 then -1 else if bitI l.left (at' l.slots i)=false then 1 else if bitI l.right (at' l.slots i)=false then 0 else zEe (nthI bits i) 2
def drwL(l:Ln)(bits:List Int)(n:Nat):List Int:=(List.range n).map (drwI l bits)
theorem drw_succ(l:Ln)(bits:List Int)(n:Nat):drwL l bits (n+1)=drwL l bits n++[drwI l bits n]:=by simp[drwL,List.range_succ]
theorem drw_len(l:Ln)(bits:List Int)(n:Nat):(drwL l bits n).length=n:=by simp[drwL]
theorem VL.at(h:VL l){i:Nat}(hi:i<l.slots.length):∃t,l.slots[i]? =some t∧at' l.slots i=t∧ -1≤t∧t≤7:=by
 have hx:l.slots[i]? =some l.slots[i]:=List.getElem?_eq_getElem hi
 exact⟨_,hx,by unfold at';rw[hx];rfl,h.tn _ (List.getElem_mem hi)⟩
set_option maxHeartbeats 8000000 in
theorem ret42(hi:Off is)(h:VL l)(bits:List Int):RetP Tryd.prog is orc 42 [l.u,.lst .ro 1 (zE bits)] (.lst .ro 1 (zE (drwL l bits l.slots.length))):=by
 refine yW body42 pure42 (hi 42 (by decide)) rfl rfl (ww (wj l 5) (wI 6 .ro (fun h=>by cases h) 1 bits)) (.inl (wI 6 .ro (fun h=>by cases h) 1 _)) ?_
 have hn:=h.n
 have hlf:=h.lf
 have hrt:=h.rt
 refine kQ (yK rfl rfl (zC rfl (zA ?_)))
 refine zH [(1,.lst .ro 1 (zE bits)),(2,U.box 0 0)] ([SB.box [.lst .ro 1 (zE (Ln.slots l)),.int .i64 (Ln.left l),.int .i64 (Ln.right l),.int .i64 (Ln.run l)]]) (.n2 rfl) rfl fun fr=>?_
 refine kQ (zC rfl (zA (k_seq (kQ (zC rfl (zA (zK ?_)))))))
 refine wD (fun kk s2=>∃i:Nat,kk+i=l.slots.length∧s2.st=[.box l.cs]∧Holds s2 [(1,.lst .ro 1 (zE bits)),(2,.box 0 0),(5,accI (drwL l bits i)),(6,.int .i64 i)]) (fun kk s2 hI=>?_) l.slots.length _ ⟨0,rfl,rfl,.c4 rfl rfl rfl rfl (.nil rfl)⟩
 obtain⟨i,hk,hst2,hs2⟩:=hI
 have hsu:=drw_succ l bits i
 have hlen:=drw_len l bits i
 obtain⟨M,hM⟩:∃M,M=drwL l bits i:=⟨_,rfl⟩
 rw[←hM]at hsu hlen hs2
 by_cases hin:i<l.slots.length
 ·obtain⟨t,hx,ha,ht⟩:=h.at hin
  have q52:=ret52 (orc:=orc) hi bits i
  have q48:=ret48 (orc:=orc) hi (nthI bits i) 2 (by decide)
  have he:drwI l bits i=if t<0 then -1 else if bitI l.left t=false then 1 else if bitI l.right t=false then 0 else zEe (nthI bits i) 2:=by unfold drwI;rw[ha]
  generalize zEe (nthI bits i) 2=w at*
  refine zH _ _ hs2 hst2 fun fr2=>?_
  by_cases c1:t<0
  ·rw[he,if_pos c1]at hsu
   cases M with
   |nil=>
    refine k_seq (kQ (zB rfl (kz rfl zQ (kB sh22 rfl (yG rfl ty22 rfl (List.length_map _) ?_)))))
    refine kq rfl (zA (k_cT rfl (kG (by omega)) (zN (k_seq (zK (zK (kQ (kz rfl zQ (kB sh22 rfl (zB rfl (yT (u:=.int .i64 (t)) rfl ty22 rfl rfl (Int.natCast_nonneg _) (by simp[hx]) cl3 ?_)))))))))))
    refine kD sh3 rfl ?_
    refine kq rfl (zC rfl (zA ?_))
    refine zH [(1,.lst .ro 1 (zE bits)),(2,U.box 0 0),(5,accI []),(6,.int .i64 ↑i),(21,U.bool (decide (t<(0:Int))))] ([SB.box (Ln.cs l)]) (.n5 rfl) rfl fun fr=>?_
    refine k_cT rfl (kG (by omega)) (k_region (zB rfl (zDM (es:=[_]) rfl ty22 ze3 cl3 rfl rfl rfl rfl rfl rfl rfl rfl ?_)))
    refine zBY rfl wz rfl rfl (by simp) (by simp) rfl (by simp) ?_
    refine zC rfl (zA (k_region (zB rfl ?_)))
    refine kA rfl (by unfold I64;omega) (zC rfl (zA ?_))
    exact⟨kk - 1,by omega,i+1,by omega,rfl,.cons rfl (.cons rfl (.cons (by rw[hsu];rfl) (.n1 rfl)))⟩
   |cons y M=>
    refine k_seq (kQ (zB rfl (kz rfl zQ (kB sh22 rfl (yG rfl ty22 rfl (List.length_map _) ?_)))))
    refine kq rfl (zA (k_cT rfl (kG (by omega)) (zN (k_seq (zK (zK (kQ (kz rfl zQ (kB sh22 rfl (zB rfl (yT (u:=.int .i64 (t)) rfl ty22 rfl rfl (Int.natCast_nonneg _) (by simp[hx]) cl3 ?_)))))))))))
    refine kD sh3 rfl ?_
    refine kq rfl (zC rfl (zA (k_cT rfl (kG (by omega)) (k_region (zB rfl (zDM (es:=[_]) rfl ty22 ze3 cl3 rfl rfl rfl rfl rfl rfl rfl rfl ?_))))))
    refine zBX 5 rfl wz rfl rfl rfl (by simp) (by simp) rfl (by simp at hlen ⊢;omega) ?_
    refine zC rfl (zA (k_region (zB rfl ?_)))
    refine kA rfl (by unfold I64;omega) (zC rfl (zA ?_))
    exact⟨kk - 1,by omega,i+1,by omega,rfl,.cons rfl (.cons rfl (.cons (by rw[hsu,zBd];rfl) (.n1 rfl)))⟩
  ·have qa:=ret50 (orc:=orc) hi (s:=l.left) (t:=t) (by omega) (by omega)
   have qb:=ret50 (orc:=orc) hi (s:=l.right) (t:=t) (by omega) (by omega)
   rw[he,if_neg c1]at hsu
   cases z1:bitI l.left t with
   |false=>
    rw[z1]at qa
    rw[z1,if_pos rfl]at hsu
    cases M with
    |nil=>
     refine k_seq (kQ (zB rfl (kz rfl zQ (kB sh22 rfl (yG rfl ty22 rfl (List.length_map _) ?_)))))
     refine kq rfl (zA (k_cT rfl (kG (by omega)) (zN (k_seq (zK (zK (kQ (kz rfl zQ (kB sh22 rfl (zB rfl (yT (u:=.int .i64 (t)) rfl ty22 rfl rfl (Int.natCast_nonneg _) (by simp[hx]) cl3 ?_)))))))))))
     refine kD sh3 rfl ?_
     refine kq rfl (zC rfl (zA ?_))
     refine zH [(1,.lst .ro 1 (zE bits)),(2,U.box 0 0),(5,accI []),(6,.int .i64 ↑i),(21,U.bool (decide (t<(0:Int))))] ([SB.box (Ln.cs l)]) (.n5 rfl) rfl fun fr=>?_
     refine k_cF rfl (kH (by omega)) (k_seq (yU [.plain,.read true,.plain,.read true,.plain,.plain,.read true,.plain,.plain,.plain] (by kernel_rfl) (by kernel_rfl) (by kernel_rfl) ?_))
     refine zD (kz rfl yp (zA rfl)) ?_
     refine zV rfl (kB sh3 rfl (zA rfl)) (zD (kz rfl zQ (zA rfl)) ?_)
     refine zV rfl (kB sh22 rfl (zA rfl)) (zD (zB rfl (zA rfl)) (zD (yT (u:=.int .i64 (t)) rfl ty22 rfl rfl (Int.natCast_nonneg _) (by simp[hx]) cl3 (zA rfl)) ?_))
     refine zV rfl (kD sh3 rfl (zA rfl)) ?_
     refine zD (zP rfl (qa) (.lrefl _) (zA rfl)) ?_
     refine zD (yj rfl rfl (zA rfl)) ?_
     refine zD (zC rfl (zA rfl)) ?_
     refine wK ?_
     refine k_cT rfl rfl ?_
     refine k_region (zB rfl (zDM (es:=[_]) rfl ty22 ze3 cl3 rfl rfl rfl rfl rfl rfl rfl rfl ?_))
     refine zBY rfl wz rfl rfl (by simp) (by simp) rfl (by simp) ?_
     refine zC rfl (zA ?_)
     refine zH [(1,.lst .ro 1 (zE bits)),(2,U.box 0 0),(5,U.lst Kd.own 1 [.int .i64 1]),(6,.int .i64 ↑i)] ([SB.box (Ln.cs l)]) (.n4 rfl) rfl fun fr=>?_
     refine k_region (zB rfl ?_)
     refine kA rfl (by unfold I64;omega) (zC rfl (zA ?_))
     exact⟨kk - 1,by omega,i+1,by omega,rfl,.cons rfl (.cons rfl (.cons (by rw[hsu];rfl) (.n1 rfl)))⟩
    |cons y M=>
     refine k_seq (kQ (zB rfl (kz rfl zQ (kB sh22 rfl (yG rfl ty22 rfl (List.length_map _) ?_)))))
     refine kq rfl (zA (k_cT rfl (kG (by omega)) (zN (k_seq (zK (zK (kQ (kz rfl zQ (kB sh22 rfl (zB rfl (yT (u:=.int .i64 (t)) rfl ty22 rfl rfl (Int.natCast_nonneg _) (by simp[hx]) cl3 ?_)))))))))))
     refine kD sh3 rfl ?_
     refine kq rfl (zC rfl (zA (k_cF rfl (kH (by omega)) (k_seq (yU [.plain,.read true,.plain,.read true,.plain,.plain,.read true,.plain,.plain,.plain] (by kernel_rfl) (by kernel_rfl) (by kernel_rfl) ?_)))))
     refine zD (kz rfl yp (zA rfl)) ?_
     refine zV rfl (kB sh3 rfl (zA rfl)) (zD (kz rfl zQ (zA rfl)) ?_)
     refine zV rfl (kB sh22 rfl (zA rfl)) (zD (zB rfl (zA rfl)) (zD (yT (u:=.int .i64 (t)) rfl ty22 rfl rfl (Int.natCast_nonneg _) (by simp[hx]) cl3 (zA rfl)) ?_))
     refine zV rfl (kD sh3 rfl (zA rfl)) ?_
     refine zD (zP rfl (qa) (.lrefl _) (zA rfl)) ?_
     refine zD (yj rfl rfl (zA rfl)) ?_
     refine zD (zC rfl (zA rfl)) ?_
     refine wK ?_
     refine k_cT rfl rfl ?_
     refine k_region (zB rfl (zDM (es:=[_]) rfl ty22 ze3 cl3 rfl rfl rfl rfl rfl rfl rfl rfl ?_))
     refine zBX 5 rfl wz rfl rfl rfl (by simp) (by simp) rfl (by simp at hlen ⊢;omega) ?_
     refine zC rfl (zA (k_region (zB rfl ?_)))
     refine kA rfl (by unfold I64;omega) (zC rfl (zA ?_))
     exact⟨kk - 1,by omega,i+1,by omega,rfl,.cons rfl (.cons rfl (.cons (by rw[hsu,zBd];rfl) (.n1 rfl)))⟩
   |true=>
    rw[z1]at qa
    rw[z1,if_neg (by decide)]at hsu
    cases z2:bitI l.right t with
    |false=>
     rw[z2]at qb
     rw[z2,if_pos rfl]at hsu
     cases M with
     |nil=>
      refine k_seq (kQ (zB rfl (kz rfl zQ (kB sh22 rfl (yG rfl ty22 rfl (List.length_map _) ?_)))))
      refine kq rfl (zA (k_cT rfl (kG (by omega)) (zN (k_seq (zK (zK (kQ (kz rfl zQ (kB sh22 rfl (zB rfl (yT (u:=.int .i64 (t)) rfl ty22 rfl rfl (Int.natCast_nonneg _) (by simp[hx]) cl3 ?_)))))))))))
      refine kD sh3 rfl ?_
      refine kq rfl (zC rfl (zA ?_))
      refine zH [(1,.lst .ro 1 (zE bits)),(2,U.box 0 0),(5,accI []),(6,.int .i64 ↑i),(21,U.bool (decide (t<(0:Int))))] ([SB.box (Ln.cs l)]) (.n5 rfl) rfl fun fr=>?_
      refine k_cF rfl (kH (by omega)) (k_seq (yU [.plain,.read true,.plain,.read true,.plain,.plain,.read true,.plain,.plain,.plain] (by kernel_rfl) (by kernel_rfl) (by kernel_rfl) ?_))
      refine zD (kz rfl yp (zA rfl)) ?_
      refine zV rfl (kB sh3 rfl (zA rfl)) (zD (kz rfl zQ (zA rfl)) ?_)
      refine zV rfl (kB sh22 rfl (zA rfl)) (zD (zB rfl (zA rfl)) (zD (yT (u:=.int .i64 (t)) rfl ty22 rfl rfl (Int.natCast_nonneg _) (by simp[hx]) cl3 (zA rfl)) ?_))
      refine zV rfl (kD sh3 rfl (zA rfl)) ?_
      refine zD (zP rfl (qa) (.lrefl _) (zA rfl)) ?_
      refine zD (yj rfl rfl (zA rfl)) ?_
      refine zD (zC rfl (zA rfl)) ?_
      refine wK ?_
      refine k_cF rfl rfl ?_
      refine k_seq (yU [.plain,.read true,.plain,.read true,.plain,.plain,.read true,.plain,.plain,.plain] (by kernel_rfl) (by kernel_rfl) (by kernel_rfl) ?_)
      refine zD (kz rfl wM (zA rfl)) ?_
      refine zV rfl (kB sh3 rfl (zA rfl)) (zD (kz rfl zQ (zA rfl)) ?_)
      refine zV rfl (kB sh22 rfl (zA rfl)) (zD (zB rfl (zA rfl)) (zD (yT (u:=.int .i64 (t)) rfl ty22 rfl rfl (Int.natCast_nonneg _) (by simp[hx]) cl3 (zA rfl)) ?_))
      refine zV rfl (kD sh3 rfl (zA rfl)) ?_
      refine zD (zP rfl (qb) (.lrefl _) (zA rfl)) ?_
      refine zD (yj rfl rfl (zA rfl)) ?_
      refine zD (zC rfl (zA rfl)) ?_
      refine wK ?_
      refine zH [(1,.lst .ro 1 (zE bits)),(2,U.box 0 0),(5,accI []),(6,.int .i64 ↑i),(44,U.bool !Bool.false)] ([SB.box (Ln.cs l)]) (.n5 rfl) rfl fun fr=>?_
      refine k_cT rfl rfl ?_
      refine k_region (zB rfl (zDM (es:=[_]) rfl ty22 ze3 cl3 rfl rfl rfl rfl rfl rfl rfl rfl ?_))
      refine zBY rfl wz rfl rfl (by simp) (by simp) rfl (by simp) ?_
      refine zC rfl (zA (k_region (zB rfl ?_)))
      refine kA rfl (by unfold I64;omega) (zC rfl (zA ?_))
      exact⟨kk - 1,by omega,i+1,by omega,rfl,.cons rfl (.cons rfl (.cons (by rw[hsu];rfl) (.n1 rfl)))⟩
     |cons y M=>
      refine k_seq (kQ (zB rfl (kz rfl zQ (kB sh22 rfl (yG rfl ty22 rfl (List.length_map _) ?_)))))
      refine kq rfl (zA (k_cT rfl (kG (by omega)) (zN (k_seq (zK (zK (kQ (kz rfl zQ (kB sh22 rfl (zB rfl (yT (u:=.int .i64 (t)) rfl ty22 rfl rfl (Int.natCast_nonneg _) (by simp[hx]) cl3 ?_)))))))))))
      refine kD sh3 rfl ?_
      refine kq rfl (zC rfl (zA (k_cF rfl (kH (by omega)) (k_seq (yU [.plain,.read true,.plain,.read true,.plain,.plain,.read true,.plain,.plain,.plain] (by kernel_rfl) (by kernel_rfl) (by kernel_rfl) ?_)))))
      refine zD (kz rfl yp (zA rfl)) ?_
      refine zV rfl (kB sh3 rfl (zA rfl)) (zD (kz rfl zQ (zA rfl)) ?_)
      refine zV rfl (kB sh22 rfl (zA rfl)) (zD (zB rfl (zA rfl)) (zD (yT (u:=.int .i64 (t)) rfl ty22 rfl rfl (Int.natCast_nonneg _) (by simp[hx]) cl3 (zA rfl)) ?_))
      refine zV rfl (kD sh3 rfl (zA rfl)) ?_
      refine zD (zP rfl (qa) (.lrefl _) (zA rfl)) ?_
      refine zD (yj rfl rfl (zA rfl)) ?_
      refine zD (zC rfl (zA rfl)) ?_
      refine wK ?_
      refine k_cF rfl rfl ?_
      refine k_seq (yU [.plain,.read true,.plain,.read true,.plain,.plain,.read true,.plain,.plain,.plain] (by kernel_rfl) (by kernel_rfl) (by kernel_rfl) ?_)
      refine zD (kz rfl wM (zA rfl)) ?_
      refine zV rfl (kB sh3 rfl (zA rfl)) (zD (kz rfl zQ (zA rfl)) ?_)
      refine zV rfl (kB sh22 rfl (zA rfl)) (zD (zB rfl (zA rfl)) (zD (yT (u:=.int .i64 (t)) rfl ty22 rfl rfl (Int.natCast_nonneg _) (by simp[hx]) cl3 (zA rfl)) ?_))
      refine zV rfl (kD sh3 rfl (zA rfl)) ?_
      refine zD (zP rfl (qb) (.lrefl _) (zA rfl)) ?_
      refine zD (yj rfl rfl (zA rfl)) ?_
      refine zD (zC rfl (zA rfl)) ?_
      refine wK ?_
      refine k_cT rfl rfl ?_
      refine k_region (zB rfl (zDM (es:=[_]) rfl ty22 ze3 cl3 rfl rfl rfl rfl rfl rfl rfl rfl ?_))
      refine zBX 5 rfl wz rfl rfl rfl (by simp) (by simp) rfl (by simp at hlen ⊢;omega) ?_
      refine zC rfl (zA (k_region (zB rfl ?_)))
      refine kA rfl (by unfold I64;omega) (zC rfl (zA ?_))
      exact⟨kk - 1,by omega,i+1,by omega,rfl,.cons rfl (.cons rfl (.cons (by rw[hsu,zBd];rfl) (.n1 rfl)))⟩
    |true=>
     rw[z2]at qb
     rw[z2,if_neg (by decide)]at hsu
     cases M with
     |nil=>
      refine k_seq (kQ (zB rfl (kz rfl zQ (kB sh22 rfl (yG rfl ty22 rfl (List.length_map _) ?_)))))
      refine kq rfl (zA (k_cT rfl (kG (by omega)) (zN (k_seq (zK (zK (kQ (kz rfl zQ (kB sh22 rfl (zB rfl (yT (u:=.int .i64 (t)) rfl ty22 rfl rfl (Int.natCast_nonneg _) (by simp[hx]) cl3 ?_)))))))))))
      refine kD sh3 rfl ?_
      refine kq rfl (zC rfl (zA ?_))
      refine zH [(1,.lst .ro 1 (zE bits)),(2,U.box 0 0),(5,accI []),(6,.int .i64 ↑i),(21,U.bool (decide (t<(0:Int))))] ([SB.box (Ln.cs l)]) (.n5 rfl) rfl fun fr=>?_
      refine k_cF rfl (kH (by omega)) (k_seq (yU [.plain,.read true,.plain,.read true,.plain,.plain,.read true,.plain,.plain,.plain] (by kernel_rfl) (by kernel_rfl) (by kernel_rfl) ?_))
      refine zD (kz rfl yp (zA rfl)) ?_
      refine zV rfl (kB sh3 rfl (zA rfl)) (zD (kz rfl zQ (zA rfl)) ?_)
      refine zV rfl (kB sh22 rfl (zA rfl)) (zD (zB rfl (zA rfl)) (zD (yT (u:=.int .i64 (t)) rfl ty22 rfl rfl (Int.natCast_nonneg _) (by simp[hx]) cl3 (zA rfl)) ?_))
      refine zV rfl (kD sh3 rfl (zA rfl)) ?_
      refine zD (zP rfl (qa) (.lrefl _) (zA rfl)) ?_
      refine zD (yj rfl rfl (zA rfl)) ?_
      refine zD (zC rfl (zA rfl)) ?_
      refine wK ?_
      refine k_cF rfl rfl ?_
      refine k_seq (yU [.plain,.read true,.plain,.read true,.plain,.plain,.read true,.plain,.plain,.plain] (by kernel_rfl) (by kernel_rfl) (by kernel_rfl) ?_)
      refine zD (kz rfl wM (zA rfl)) ?_
      refine zV rfl (kB sh3 rfl (zA rfl)) (zD (kz rfl zQ (zA rfl)) ?_)
      refine zV rfl (kB sh22 rfl (zA rfl)) (zD (zB rfl (zA rfl)) (zD (yT (u:=.int .i64 (t)) rfl ty22 rfl rfl (Int.natCast_nonneg _) (by simp[hx]) cl3 (zA rfl)) ?_))
      refine zV rfl (kD sh3 rfl (zA rfl)) ?_
      refine zD (zP rfl (qb) (.lrefl _) (zA rfl)) ?_
      refine zD (yj rfl rfl (zA rfl)) ?_
      refine zD (zC rfl (zA rfl)) ?_
      refine wK ?_
      refine zH [(1,.lst .ro 1 (zE bits)),(2,U.box 0 0),(5,accI []),(6,.int .i64 ↑i),(44,U.bool !Bool.true)] ([SB.box (Ln.cs l)]) (.n5 rfl) rfl fun fr=>?_
      refine k_cF rfl rfl ?_
      refine k_region (zB rfl (zB rfl (zB rfl (zP rfl (q52) (.lrefl _) (zP rfl (q48) (.lrefl _) (zDM (es:=[.int .i64 w]) rfl ty22 ze3 cl3 rfl rfl rfl rfl rfl rfl rfl rfl ?_))))))
      refine zBY rfl wz rfl rfl (by simp) (by simp) (by simp[zw,zc,oneU]) (by simp) ?_
      refine zC rfl (zA (k_region (zB rfl ?_)))
      refine kA rfl (by unfold I64;omega) (zC rfl (zA ?_))
      exact⟨kk - 1,by omega,i+1,by omega,rfl,.cons rfl (.cons rfl (.cons (by rw[hsu];rfl) (.n1 rfl)))⟩
     |cons y M=>
      refine k_seq (kQ (zB rfl (kz rfl zQ (kB sh22 rfl (yG rfl ty22 rfl (List.length_map _) ?_)))))
      refine kq rfl (zA (k_cT rfl (kG (by omega)) (zN (k_seq (zK (zK (kQ (kz rfl zQ (kB sh22 rfl (zB rfl (yT (u:=.int .i64 (t)) rfl ty22 rfl rfl (Int.natCast_nonneg _) (by simp[hx]) cl3 ?_)))))))))))
      refine kD sh3 rfl ?_
      refine kq rfl (zC rfl (zA (k_cF rfl (kH (by omega)) (k_seq (yU [.plain,.read true,.plain,.read true,.plain,.plain,.read true,.plain,.plain,.plain] (by kernel_rfl) (by kernel_rfl) (by kernel_rfl) ?_)))))
      refine zD (kz rfl yp (zA rfl)) ?_
      refine zV rfl (kB sh3 rfl (zA rfl)) (zD (kz rfl zQ (zA rfl)) ?_)
      refine zV rfl (kB sh22 rfl (zA rfl)) (zD (zB rfl (zA rfl)) (zD (yT (u:=.int .i64 (t)) rfl ty22 rfl rfl (Int.natCast_nonneg _) (by simp[hx]) cl3 (zA rfl)) ?_))
      refine zV rfl (kD sh3 rfl (zA rfl)) ?_
      refine zD (zP rfl (qa) (.lrefl _) (zA rfl)) ?_
      refine zD (yj rfl rfl (zA rfl)) ?_
      refine zD (zC rfl (zA rfl)) ?_
      refine wK ?_
      refine k_cF rfl rfl ?_
      refine k_seq (yU [.plain,.read true,.plain,.read true,.plain,.plain,.read true,.plain,.plain,.plain] (by kernel_rfl) (by kernel_rfl) (by kernel_rfl) ?_)
      refine zD (kz rfl wM (zA rfl)) ?_
      refine zV rfl (kB sh3 rfl (zA rfl)) (zD (kz rfl zQ (zA rfl)) ?_)
      refine zV rfl (kB sh22 rfl (zA rfl)) (zD (zB rfl (zA rfl)) (zD (yT (u:=.int .i64 (t)) rfl ty22 rfl rfl (Int.natCast_nonneg _) (by simp[hx]) cl3 (zA rfl)) ?_))
      refine zV rfl (kD sh3 rfl (zA rfl)) ?_
      refine zD (zP rfl (qb) (.lrefl _) (zA rfl)) ?_
      refine zD (yj rfl rfl (zA rfl)) ?_
      refine zD (zC rfl (zA rfl)) ?_
      refine wK ?_
      refine k_cF rfl rfl ?_
      refine k_region (zB rfl (zB rfl (zB rfl (zP rfl (q52) (.lrefl _) (zP rfl (q48) (.lrefl _) (zDM (es:=[.int .i64 w]) rfl ty22 ze3 cl3 rfl rfl rfl rfl rfl rfl rfl rfl ?_))))))
      refine zBX 5 rfl wz rfl rfl rfl (by simp) (by simp) (by simp[zw,zc,oneU]) (by simp at hlen ⊢;omega) ?_
      refine zC rfl (zA (k_region (zB rfl ?_)))
      refine kA rfl (by unfold I64;omega) (zC rfl (zA ?_))
      exact⟨kk - 1,by omega,i+1,by omega,rfl,.cons rfl (.cons rfl (.cons (by rw[hsu,zBd];rfl) (.n1 rfl)))⟩
 ·have hie:l.slots.length=i:=by omega
  rw[hie,←hM]
  refine zH _ _ hs2 hst2 fun fr2=>?_
  cases M with
  |nil=>
   refine k_seq (kQ (zB rfl (kz rfl zQ (kB sh22 rfl (yG rfl ty22 rfl (List.length_map _) ?_)))))
   refine kq rfl (zA (k_cF rfl (kH (by omega)) (yD (kQ (zB rfl (zC rfl (zA (za ?_))))))))
   refine⟨.inr rfl,_,.cons _ _ _ _ (.tmp 4) .nil,?_⟩
   exact .nil _ _ _
  |cons y M=>
   refine k_seq (kQ (zB rfl (kz rfl zQ (kB sh22 rfl (yG rfl ty22 rfl (List.length_map _) ?_)))))
   refine kq rfl (zA (k_cF rfl (kH (by omega)) (yD (kQ (zB rfl (zC rfl (zA (za ?_))))))))
   refine⟨.inr rfl,_,.cons _ _ _ _ (.tmp 4) .nil,?_⟩
   exact .refl _
end Go.Proofs.YthhbfbmfhldbaaaDoor.locks
