import Derived.Test.YtpckmojdekdbbaaGreatVamT8
set_option linter.unusedVariables false
set_option linter.unusedSimpArgs false
set_option linter.constructorNameAsVariable false
namespace Go.Proofs.YtpckmojdekdbbaaGreat.settles
open Vam
section
variable {is:FuncId→Bool}{orc:Known}{z:Zt}
noncomputable def b36:Code:=(Tryz.f36.body).getD .skip
theorem body36:bodyOf Tryz.prog 36=some (171,b36,[.tmp 2]):=by kernel_rfl
theorem pure36:pureFn Tryz.prog 36=true:=by kernel_rfl
noncomputable def b40:Code:=(Tryz.f40.body).getD .skip
theorem body40:bodyOf Tryz.prog 40=some (17,b40,[.tmp 4]):=by kernel_rfl
theorem pure40:pureFn Tryz.prog 40=true:=by kernel_rfl
theorem ret40(hi:Off is)(n b:Int)(hb:1≤b∧b≤1000000):RetP Tryz.prog is orc 40 [.int .i64 n,.int .i64 b] (.int .i64 (n % b)):=by
 refine wD body40 pure40 (hi 40 (by decide)) rfl rfl (wp (.int _ _ _) (.int _ _ _)) (.inl (.int _ _ _)) ?_
 have h1:=Int.emod_nonneg n (show b≠0 by omega)
 have h2:=Int.emod_lt_of_pos n (show 0<b by omega)
 by_cases hn:n.tmod b<0
 ·have e:n % b=n.tmod b+b:=by
   rw[Int.tmod_eq_emod]at hn ⊢
   split at hn
   ·omega
   ·rename_i h;rw[if_neg h];omega
  rw[e]
  refine kQ (zE rfl (zA (k_seq (kQ (zC rfl (kq rfl (zA (k_cF rfl (kH (by omega)) (zz (kQ (zC rfl (zC rfl (o_rem rfl rfl rfl (by omega) ?_)))))))))))))
  refine zE rfl (zA (k_seq (kQ (zC rfl (kq rfl (zA (k_cT rfl (kG (by omega)) (k_region (zC rfl (zC rfl ?_))))))))))
  refine kA rfl (by unfold I64;omega) (zE rfl (zA ?_))
  refine zO [(5,.int .i64 (Int.tmod n b+b))] ([]) (.n1 rfl) rfl fun fr=>?_
  refine kQ (zC rfl (zE rfl (zA (yP ?_))))
  refine⟨.inr rfl,_,.cons _ _ _ _ (.tmp 4) .nil,?_⟩
  exact .refl _
 ·have e:n % b=n.tmod b:=by
   rw[Int.tmod_eq_emod]at hn ⊢
   split at hn
   ·rename_i h;rw[if_pos h];simp
   ·rename_i h;rw[if_neg h];omega
  rw[e]
  refine kQ (zE rfl (zA (k_seq (kQ (zC rfl (kq rfl (zA (k_cF rfl (kH (by omega)) (zz (kQ (zC rfl (zC rfl (o_rem rfl rfl rfl (by omega) ?_)))))))))))))
  refine zE rfl (zA (k_seq (kQ (zC rfl (kq rfl (zA (k_cF rfl (kH (by omega)) (zz (kQ (zC rfl (zE rfl (zA (yP ?_)))))))))))))
  refine⟨.inr rfl,_,.cons _ _ _ _ (.tmp 4) .nil,?_⟩
  exact .refl _
theorem good_t{a b:Int}{x:Sp}(h:ww a b x):zEt a b x.1 x.2=true:=good_iff.2 h
set_option maxHeartbeats 16000000 in
theorem ret36(hi:Off is)(z:Zt):RetP Tryz.prog is orc 36 [z.u] (.bool (zAR z)):=by
 refine wD body36 pure36 (hi 36 (by decide)) rfl rfl (zDh (dat_z z 5)) (.inl (.bool _ _)) ?_
 have q17:=ret17 (orc:=orc) hi z
 cases hv:zAR z with
 |false=>
  rw[hv,if_neg (by decide)]at q17
  refine kQ (yl rfl rfl (zE rfl (zA ?_)))
  refine zO [(1,U.box 0 0)] ([SB.box [.int .i64 (Zt.yrs z),.lst .ro 7 (kysU (Zt.keys z)),.lst .ro 2 (spsU (Zt.steps z)),.lst .ro 4 (flsU (Zt.files z)),.lst .ro 4 (lksU (Zt.looks z))]]) (.n1 rfl) rfl fun fr=>?_
  refine kQ (kC sh27 rfl (za rfl (q17) (.lrefl _) (ku rfl (zC rfl (ke rfl (ke rfl (ke rfl (kE rfl ?_))))))))
  refine zC rfl ?_
  refine zt [(1,U.box 0 0),(19,.bool false)] [] ([SB.box [.int .i64 (Zt.yrs z),.lst .ro 7 (kysU (Zt.keys z)),.lst .ro 2 (spsU (Zt.steps z)),.lst .ro 4 (flsU (Zt.files z)),.lst .ro 4 (lksU (Zt.looks z))]]) (.n2 rfl) rfl rfl fun fr=>?_
  refine ke rfl (ke rfl (ke rfl (ke rfl (kE rfl ?_))))
  refine zC rfl (ke rfl (ke rfl (ke rfl ?_)))
  refine zt [(1,U.box 0 0),(25,.bool false),(28,U.tup [])] [] ([SB.box [.int .i64 (Zt.yrs z),.lst .ro 7 (kysU (Zt.keys z)),.lst .ro 2 (spsU (Zt.steps z)),.lst .ro 4 (flsU (Zt.files z)),.lst .ro 4 (lksU (Zt.looks z))]]) (.n3 rfl) rfl rfl fun fr=>?_
  refine ke rfl (ke rfl (ke rfl (ke rfl (ke rfl (kE rfl ?_)))))
  refine zC rfl (ke rfl (ke rfl ?_))
  refine zt [(1,U.box 0 0),(35,.bool false),(37,U.tup [])] [] ([SB.box [.int .i64 (Zt.yrs z),.lst .ro 7 (kysU (Zt.keys z)),.lst .ro 2 (spsU (Zt.steps z)),.lst .ro 4 (flsU (Zt.files z)),.lst .ro 4 (lksU (Zt.looks z))]]) (.n3 rfl) rfl rfl fun fr=>?_
  refine ke rfl (ke rfl (kE rfl ?_))
  refine zC rfl (ke rfl (ke rfl (ke rfl (ke rfl (kE rfl ?_)))))
  refine zt [(1,U.box 0 0),(46,.bool false)] [] ([SB.box [.int .i64 (Zt.yrs z),.lst .ro 7 (kysU (Zt.keys z)),.lst .ro 2 (spsU (Zt.steps z)),.lst .ro 4 (flsU (Zt.files z)),.lst .ro 4 (lksU (Zt.looks z))]]) (.n2 rfl) rfl rfl fun fr=>?_
  refine zE rfl (zA ?_)
  refine zO [(1,U.box 0 0),(3,.bool false)] ([SB.box [.int .i64 (Zt.yrs z),.lst .ro 7 (kysU (Zt.keys z)),.lst .ro 2 (spsU (Zt.steps z)),.lst .ro 4 (flsU (Zt.files z)),.lst .ro 4 (lksU (Zt.looks z))]]) (.n2 rfl) rfl fun fr=>?_
  refine k_seq (kQ (zE rfl (zA (zU ?_))))
  refine wI (fun kk s1=>s1.st=[SB.box z.cs]∧Holds s1 [(1,.box 0 0),(3,.bool false),(4,.int .i64 0)]) (fun kk s1 hs=>?_) 0 _ ⟨rfl,.cons rfl (.n2 rfl)⟩
  obtain⟨hst,hs⟩:=hs
  refine zO _ _ hs hst fun fr0=>?_
  refine k_seq (kQ (zC rfl (zC rfl (ke rfl (ke rfl (ke rfl (ke rfl (ke rfl (kE rfl ?_)))))))))
  refine zA (k_cF rfl rfl ?_)
  refine wJ (k_seq (kQ (zE rfl (zA (zU ?_)))))
  clear hst hs
  refine wI (fun kk s1=>s1.st=[SB.box z.cs]∧Holds s1 [(1,.box 0 0),(3,.bool false),(6,.int .i64 0)]) (fun kk s1 hs=>?_) 0 _ ⟨rfl,.cons rfl (.n2 rfl)⟩
  obtain⟨hst,hs⟩:=hs
  refine zO _ _ hs hst fun fr1=>?_
  refine k_seq (kQ (zC rfl (zC rfl (ke rfl (ke rfl (ke rfl (ke rfl (ke rfl (kE rfl ?_)))))))))
  refine zA (k_cF rfl rfl ?_)
  refine wJ (k_seq (kQ (zE rfl (zA (zU ?_)))))
  clear hst hs
  refine wI (fun kk s1=>s1.st=[SB.box z.cs]∧Holds s1 [(1,.box 0 0),(3,.bool false),(7,.int .i64 0)]) (fun kk s1 hs=>?_) 0 _ ⟨rfl,.cons rfl (.n2 rfl)⟩
  obtain⟨hst,hs⟩:=hs
  refine zO _ _ hs hst fun fr2=>?_
  refine k_seq (kQ (zC rfl (zC rfl (ke rfl (ke rfl (ke rfl (ke rfl (ke rfl (kE rfl ?_)))))))))
  refine zA (k_cF rfl rfl ?_)
  refine wJ (k_seq (kQ (zE rfl (zA (zU ?_)))))
  clear hst hs
  refine wI (fun kk s1=>s1.st=[SB.box z.cs]∧Holds s1 [(1,.box 0 0),(3,.bool false),(9,.int .i64 0)]) (fun kk s1 hs=>?_) 0 _ ⟨rfl,.cons rfl (.n2 rfl)⟩
  obtain⟨hst,hs⟩:=hs
  refine zO _ _ hs hst fun fr3=>?_
  refine k_seq (kQ (zC rfl (zC rfl (ke rfl (ke rfl (ke rfl (ke rfl (ke rfl (kE rfl ?_)))))))))
  refine zA (k_cF rfl rfl ?_)
  refine wJ (kQ (zC rfl (zE rfl (zA (yP ?_)))))
  refine⟨.inr rfl,_,.cons _ _ _ _ (.tmp 2) .nil,?_⟩
  exact .refl _
 |true=>
  rw[hv,if_pos rfl]at q17
  have h:=zBq.1 hv
  have hy:=h.y
  have hk:=h.k
  have hs1:=h.s
  have hf:=h.f
  have hl:=h.l
  have p1:=zHJ (orc:=orc) hi z.yrs 1 40
  have p2:=zHJ (orc:=orc) hi z.keys.length 1 7
  rw[zBj.2 hy]at p1
  rw[zBj.2 (by omega)]at p2
  refine kQ (yl rfl rfl (zE rfl (zA ?_)))
  refine zO [(1,U.box 0 0)] ([SB.box [.int .i64 (Zt.yrs z),.lst .ro 7 (kysU (Zt.keys z)),.lst .ro 2 (spsU (Zt.steps z)),.lst .ro 4 (flsU (Zt.files z)),.lst .ro 4 (lksU (Zt.looks z))]]) (.n1 rfl) rfl fun fr=>?_
  refine kQ (kC sh27 rfl (za rfl (q17) (.lrefl _) (ku rfl (zC rfl (kf rfl (kz rfl wl (kf rfl (kB sh3 rfl (kf rfl (za rfl (p1) (.lrefl _) (kF rfl ?_)))))))))))
  refine zC rfl ?_
  refine zt [(1,U.box 0 0),(19,.bool true)] [] ([SB.box [.int .i64 (Zt.yrs z),.lst .ro 7 (kysU (Zt.keys z)),.lst .ro 2 (spsU (Zt.steps z)),.lst .ro 4 (flsU (Zt.files z)),.lst .ro 4 (lksU (Zt.looks z))]]) (.n2 rfl) rfl rfl fun fr=>?_
  refine kf rfl ?_
  refine zt [(1,U.box 0 0),(19,.bool true)] [] ([SB.box [.int .i64 (Zt.yrs z),.lst .ro 7 (kysU (Zt.keys z)),.lst .ro 2 (spsU (Zt.steps z)),.lst .ro 4 (flsU (Zt.files z)),.lst .ro 4 (lksU (Zt.looks z))]]) (.n2 rfl) rfl rfl fun fr=>?_
  refine kz rfl yF (kf rfl (kB sh22 rfl (kf rfl (yO rfl ty22 rfl (List.length_map _) ?_))))
  refine kf rfl (za rfl (p2) (.lrefl _) (kF rfl ?_))
  refine zC rfl (kf rfl (kz rfl zDB (kf rfl (kB sh23 rfl (kf rfl (yO rfl ty23 rfl (List.length_map _) ?_))))))
  refine zt [(1,U.box 0 0),(25,.bool true),(28,.int .i64 ↑(List.length (Zt.steps z)))] [] ([SB.box [.int .i64 (Zt.yrs z),.lst .ro 7 (kysU (Zt.keys z)),.lst .ro 2 (spsU (Zt.steps z)),.lst .ro 4 (flsU (Zt.files z)),.lst .ro 4 (lksU (Zt.looks z))]]) (.n3 rfl) rfl rfl fun fr=>?_
  refine kf rfl ?_
  refine zt [(1,U.box 0 0),(25,.bool true),(28,.int .i64 ↑(List.length (Zt.steps z)))] [] ([SB.box [.int .i64 (Zt.yrs z),.lst .ro 7 (kysU (Zt.keys z)),.lst .ro 2 (spsU (Zt.steps z)),.lst .ro 4 (flsU (Zt.files z)),.lst .ro 4 (lksU (Zt.looks z))]]) (.n3 rfl) rfl rfl fun fr=>?_
  refine kz rfl yF (kf rfl (kB sh22 rfl (kf rfl (yO rfl ty22 rfl (List.length_map _) ?_))))
  refine kf rfl ?_
  refine zDr rfl rfl rfl (by unfold I64;omega) (kf rfl (ku rfl (kF rfl ?_)))
  refine zC rfl (kh rfl (kG (by omega)) ?_)
  refine kz rfl wZ (kh rfl (kG (by omega)) ?_)
  refine kB sh24 rfl ?_
  refine zt [(1,U.box 0 0),(35,U.bool (decide (↑(List.length (Zt.steps z))= ↑(List.length (Zt.keys z)) - (1:Int)))),(37,.lst .ro 4 (flsU (Zt.files z)))] [] ([SB.box [.int .i64 (Zt.yrs z),.lst .ro 7 (kysU (Zt.keys z)),.lst .ro 2 (spsU (Zt.steps z)),.lst .ro 4 (flsU (Zt.files z)),.lst .ro 4 (lksU (Zt.looks z))]]) (.n3 rfl) rfl rfl fun fr=>?_
  refine kh rfl (kG (by omega)) ?_
  refine zt [(1,U.box 0 0),(35,U.bool (decide (↑(List.length (Zt.steps z))= ↑(List.length (Zt.keys z)) - (1:Int)))),(37,.lst .ro 4 (flsU (Zt.files z)))] [] ([SB.box [.int .i64 (Zt.yrs z),.lst .ro 7 (kysU (Zt.keys z)),.lst .ro 2 (spsU (Zt.steps z)),.lst .ro 4 (flsU (Zt.files z)),.lst .ro 4 (lksU (Zt.looks z))]]) (.n3 rfl) rfl rfl fun fr=>?_
  refine yO rfl ty24 rfl (List.length_map _) ?_
  refine kh rfl (kG (by omega)) ?_
  refine kr rfl (wF rfl rfl (kG (by omega)) ?_)
  refine zC rfl (kh rfl (kG (by omega)) ?_)
  refine kz rfl yu (kh rfl (kG (by omega)) ?_)
  refine kB sh25 rfl (kh rfl (kG (by omega)) ?_)
  refine yO rfl ty25 rfl (List.length_map _) ?_
  refine kh rfl (kG (by omega)) ?_
  refine kr rfl (wF rfl rfl (kG (by omega)) ?_)
  refine zt [(1,U.box 0 0),(46,U.bool (decide (↑(List.length (Zt.looks z))≤(12:Int))))] [] ([SB.box [.int .i64 (Zt.yrs z),.lst .ro 7 (kysU (Zt.keys z)),.lst .ro 2 (spsU (Zt.steps z)),.lst .ro 4 (flsU (Zt.files z)),.lst .ro 4 (lksU (Zt.looks z))]]) (.n2 rfl) rfl rfl fun fr=>?_
  refine zE rfl (zA ?_)
  refine zO [(1,U.box 0 0),(3,U.bool (decide (↑(List.length (Zt.looks z))≤(12:Int))))] ([SB.box [.int .i64 (Zt.yrs z),.lst .ro 7 (kysU (Zt.keys z)),.lst .ro 2 (spsU (Zt.steps z)),.lst .ro 4 (flsU (Zt.files z)),.lst .ro 4 (lksU (Zt.looks z))]]) (.n2 rfl) rfl fun fr=>?_
  refine k_seq (kQ (zE rfl (zA (zU ?_))))
  refine wI (fun kk s1=>∃i:Nat,kk+i=z.keys.length∧(∃e,s1.st=SB.box z.cs::e)∧Holds s1 [(1,.box 0 0),(3,.bool true),(4,.int .i64 i)]) (fun kk s1 hI=>?_) z.keys.length _ ⟨0,rfl,⟨[],rfl⟩,.cons rfl (.cons (congrArg U.bool (kG (by omega))) (.n1 rfl))⟩
  obtain⟨i,hkk,⟨e,hst⟩,hs⟩:=hI
  by_cases hin:i<z.keys.length
  ·obtain⟨x,hx⟩:∃x,z.keys[i]? =some x:=⟨z.keys[i],List.getElem?_eq_getElem hin⟩
   have a:=h.kk x (List.mem_of_getElem? hx)
   have c0:=ret55 (orc:=orc) hi x.bg.1 x.bg.2 5000 20000
   rw[good_t a.1]at c0
   have c1:=ret55 (orc:=orc) hi x.rt.1 x.rt.2 (-50) 50
   rw[good_t a.2.1]at c1
   have c2:=zHJ (orc:=orc) hi x.dn 0 1000
   rw[zBj.2 a.2.2.1]at c2
   have c3:=zHJ (orc:=orc) hi x.up 0 1000
   rw[zBj.2 a.2.2.2]at c3
   generalize hY:SB.box z.cs::e=Y at hst
   have y0:Y[0]? =some (.box z.cs):=by rw[←hY];rfl
   refine zO _ _ hs hst fun fr=>?_
   refine k_seq (kQ (zC rfl (zC rfl (kf rfl (zC rfl (kf rfl (kz rfl yF (kf rfl (zP rfl rfl y0 sh22 rfl ?_)))))))))
   refine kf rfl (yO rfl ty22 rfl (List.length_map _) ?_)
   refine kf rfl (kq rfl (kF rfl ?_))
   refine zA (k_cT rfl (kG (by omega)) (zz (k_seq (zU (kQ (kz rfl yF (zP rfl rfl y0 sh22 rfl ?_)))))))
   refine zC rfl (zAJ (u:=(x).u) rfl ty22 rfl rfl (Int.natCast_nonneg _) (by simp[hx]) cl62 ?_)
   refine yG rfl rfl sh62 rfl ?_
   refine zl rfl ze62 ?_
   refine zR rfl (ze _ _) sh62 rfl rfl rfl rfl rfl ?_
   refine zA (k_region (kz rfl zEy (zu rfl rfl (wt _ _ _) sh35 rfl ?_)))
   refine za rfl (c0) (.lrefl _) (zC rfl (kf rfl (kz rfl zEx (kf rfl (zu rfl rfl (wt _ _ _) sh35 rfl ?_)))))
   refine kf rfl (za rfl (c1) (.lrefl _) (kF rfl ?_))
   refine zC rfl (kf rfl (kz rfl fld62_3 (kf rfl (zP rfl rfl (wt _ _ _) sh3 rfl ?_))))
   refine kf rfl (za rfl (c2) (.lrefl _) (kF rfl ?_))
   refine zC rfl (kf rfl (kz rfl fld62_4 (kf rfl (zP rfl rfl (wt _ _ _) sh3 rfl ?_))))
   refine kf rfl (za rfl (c3) (.lrefl _) (kF rfl ?_))
   refine zE rfl (zA (k_region (zC rfl ?_)))
   refine kA rfl (by unfold I64;omega) (zE rfl (zA ?_))
   exact⟨kk - 1,by omega,i+1,by omega,(by rw[←hY];exact⟨_,rfl⟩),.cons rfl (.n2 rfl)⟩
  ·obtain rfl:i=z.keys.length:=by omega
   refine zO _ _ hs hst fun fr=>?_
   refine k_seq (kQ (zC rfl (zC rfl (kf rfl (zC rfl (kf rfl (kz rfl yF (kf rfl (kB sh22 rfl (kf rfl (yO rfl ty22 rfl (List.length_map _) ?_)))))))))))
   refine kf rfl (kq rfl (kF rfl ?_))
   refine zA (k_cF rfl (kH (by omega)) (wJ (k_seq (kQ (zE rfl (zA (zU ?_)))))))
   refine wI (fun kk s1=>∃i:Nat,kk+i=z.steps.length∧(∃e,s1.st=SB.box z.cs::e)∧Holds s1 [(1,.box 0 0),(3,.bool true),(6,.int .i64 i)]) (fun kk s1 hI=>?_) z.steps.length _ ⟨0,rfl,⟨e,rfl⟩,.cons rfl (.n2 rfl)⟩
   obtain⟨i,hkk,⟨e,hst⟩,hs⟩:=hI
   by_cases hin:i<z.steps.length
   ·obtain⟨x,hx⟩:∃x,z.steps[i]? =some x:=⟨z.steps[i],List.getElem?_eq_getElem hin⟩
    have a:=h.ss x (List.mem_of_getElem? hx)
    have c0:=ret55 (orc:=orc) hi x.1 x.2 0 30000
    rw[good_t a]at c0
    have hxu:(spsU z.steps)[i]? =some (spU x):=by rw[List.getElem?_map,hx];rfl
    generalize hY:SB.box z.cs::e=Y at hst
    have y0:Y[0]? =some (.box z.cs):=by rw[←hY];rfl
    refine zO _ _ hs hst fun fr=>?_
    refine k_seq (kQ (zC rfl (zC rfl (kf rfl (zC rfl (kf rfl (kz rfl zDB (kf rfl (zP rfl rfl y0 sh23 rfl ?_)))))))))
    refine kf rfl (yO rfl ty23 rfl (List.length_map _) ?_)
    refine kf rfl (kq rfl (kF rfl ?_))
    refine zA (k_cT rfl (kG (by omega)) (zz (k_seq (zU (k_region (kz rfl zDB (zP rfl rfl y0 sh23 rfl ?_)))))))
    refine zC rfl (zAJ (u:=spU x) rfl ty23 rfl rfl (Int.natCast_nonneg _) hxu cl35 ?_)
    refine yG rfl rfl sh35 rfl ?_
    refine za rfl (c0) (.lrefl _) (zE rfl (zA (k_region (zC rfl ?_))))
    refine kA rfl (by unfold I64;omega) (zE rfl (zA ?_))
    exact⟨kk - 1,by omega,i+1,by omega,(by rw[←hY];exact⟨_,rfl⟩),.cons rfl (.n2 rfl)⟩
   ·obtain rfl:i=z.steps.length:=by omega
    refine zO _ _ hs hst fun fr=>?_
    refine k_seq (kQ (zC rfl (zC rfl (kf rfl (zC rfl (kf rfl (kz rfl zDB (kf rfl (kB sh23 rfl (kf rfl (yO rfl ty23 rfl (List.length_map _) ?_)))))))))))
    refine kf rfl (kq rfl (kF rfl ?_))
    refine zA (k_cF rfl (kH (by omega)) (wJ (k_seq (kQ (zE rfl (zA (zU ?_)))))))
    refine wI (fun kk s1=>∃i:Nat,kk+i=z.files.length∧(∃e,s1.st=SB.box z.cs::e)∧Holds s1 [(1,.box 0 0),(3,.bool true),(7,.int .i64 i)]) (fun kk s1 hI=>?_) z.files.length _ ⟨0,rfl,⟨e,rfl⟩,.cons rfl (.n2 rfl)⟩
    obtain⟨i,hkk,⟨e,hst⟩,hs⟩:=hI
    by_cases hin:i<z.files.length
    ·obtain⟨x,hx⟩:∃x,z.files[i]? =some x:=⟨z.files[i],List.getElem?_eq_getElem hin⟩
     have a:=h.ff x (List.mem_of_getElem? hx)
     have c0:=zHJ (orc:=orc) hi x.yr 0 (z.yrs - 1)
     rw[zBj.2 a.1]at c0
     have c1:=zHJ (orc:=orc) hi x.ky 0 ((z.keys.length:Int) - 1)
     rw[zBj.2 a.2.1]at c1
     have c2:=ret55 (orc:=orc) hi x.bs.1 x.bs.2 (-200) 200
     rw[good_t a.2.2]at c2
     generalize hY:SB.box z.cs::e=Y at hst
     have y0:Y[0]? =some (.box z.cs):=by rw[←hY];rfl
     refine zO _ _ hs hst fun fr=>?_
     refine k_seq (kQ (zC rfl (zC rfl (kf rfl (zC rfl (kf rfl (kz rfl wZ (kf rfl (zP rfl rfl y0 sh24 rfl ?_)))))))))
     refine kf rfl (yO rfl ty24 rfl (List.length_map _) ?_)
     refine kf rfl (kq rfl (kF rfl ?_))
     refine zA (k_cT rfl (kG (by omega)) (zz (k_seq (zU (kQ (kz rfl wZ (zP rfl rfl y0 sh24 rfl ?_)))))))
     refine zC rfl (zAJ (u:=(x).u) rfl ty24 rfl rfl (Int.natCast_nonneg _) (by simp[hx]) cl64 ?_)
     refine yG rfl rfl sh64 rfl ?_
     refine zl rfl ze64 ?_
     refine zR rfl (ze _ _) sh64 rfl rfl rfl rfl rfl ?_
     refine zA (k_region (kz rfl fld64_0 (zP rfl rfl (wt _ _ _) sh3 rfl ?_)))
     refine kz rfl wl (zP rfl rfl (at_ps y0) sh3 rfl ?_)
     refine zDr rfl rfl rfl (by unfold I64;omega) (za rfl (c0) (.lrefl _) (zC rfl (kf rfl (kz rfl fld64_1 (kf rfl (zP rfl rfl (wt _ _ _) sh3 rfl ?_))))))
     refine kf rfl (kz rfl yF (kf rfl (zP rfl rfl (at_ps y0) sh22 rfl ?_)))
     refine kf rfl (yO rfl ty22 rfl (List.length_map _) ?_)
     refine kf rfl ?_
     refine zDr rfl rfl rfl (by unfold I64;omega) (kf rfl (za rfl (c1) (.lrefl _) (kF rfl ?_)))
     refine zC rfl (kf rfl (kz rfl zEw (kf rfl (zu rfl rfl (wt _ _ _) sh35 rfl ?_))))
     refine kf rfl (za rfl (c2) (.lrefl _) (kF rfl ?_))
     refine zE rfl (zA (k_region (zC rfl ?_)))
     refine kA rfl (by unfold I64;omega) (zE rfl (zA ?_))
     exact⟨kk - 1,by omega,i+1,by omega,(by rw[←hY];exact⟨_,rfl⟩),.cons rfl (.n2 rfl)⟩
    ·obtain rfl:i=z.files.length:=by omega
     refine zO _ _ hs hst fun fr=>?_
     refine k_seq (kQ (zC rfl (zC rfl (kf rfl (zC rfl (kf rfl (kz rfl wZ (kf rfl (kB sh24 rfl (kf rfl (yO rfl ty24 rfl (List.length_map _) ?_)))))))))))
     refine kf rfl (kq rfl (kF rfl ?_))
     refine zA (k_cF rfl (kH (by omega)) (wJ (k_seq (kQ (zE rfl (zA (zU ?_)))))))
     refine wI (fun kk s1=>∃i:Nat,kk+i=z.looks.length∧(∃e,s1.st=SB.box z.cs::e)∧Holds s1 [(1,.box 0 0),(3,.bool true),(9,.int .i64 i)]) (fun kk s1 hI=>?_) z.looks.length _ ⟨0,rfl,⟨e,rfl⟩,.cons rfl (.n2 rfl)⟩
     obtain⟨i,hkk,⟨e,hst⟩,hs⟩:=hI
     by_cases hin:i<z.looks.length
     ·obtain⟨x,hx⟩:∃x,z.looks[i]? =some x:=⟨z.looks[i],List.getElem?_eq_getElem hin⟩
      have a:=h.ll x (List.mem_of_getElem? hx)
      have c0:=zHJ (orc:=orc) hi x.yr 0 z.yrs
      rw[zBj.2 a.1]at c0
      have c1:=zHJ (orc:=orc) hi x.ky 0 ((z.keys.length:Int) - 1)
      rw[zBj.2 a.2.1]at c1
      have c2:=zHJ (orc:=orc) hi x.rd 0 30000
      rw[zBj.2 a.2.2.1]at c2
      have c3:=zHJ (orc:=orc) hi x.er 0 500
      rw[zBj.2 a.2.2.2]at c3
      generalize hY:SB.box z.cs::e=Y at hst
      have y0:Y[0]? =some (.box z.cs):=by rw[←hY];rfl
      refine zO _ _ hs hst fun fr=>?_
      refine k_seq (kQ (zC rfl (zC rfl (kf rfl (zC rfl (kf rfl (kz rfl yu (kf rfl (zP rfl rfl y0 sh25 rfl ?_)))))))))
      refine kf rfl (yO rfl ty25 rfl (List.length_map _) ?_)
      refine kf rfl (kq rfl (kF rfl ?_))
      refine zA (k_cT rfl (kG (by omega)) (zz (k_seq (zU (kQ (kz rfl yu (zP rfl rfl y0 sh25 rfl ?_)))))))
      refine zC rfl (zAJ (u:=(x).u) rfl ty25 rfl rfl (Int.natCast_nonneg _) (by simp[hx]) cl68 ?_)
      refine yG rfl rfl sh68 rfl ?_
      refine zl rfl ze68 ?_
      refine zR rfl (ze _ _) sh68 rfl rfl rfl rfl rfl ?_
      refine zA (k_region (kz rfl fld68_0 (zP rfl rfl (wt _ _ _) sh3 rfl ?_)))
      refine kz rfl wl (zP rfl rfl (at_ps y0) sh3 rfl ?_)
      refine za rfl (c0) (.lrefl _) (zC rfl (kf rfl (kz rfl zEv (kf rfl (zP rfl rfl (wt _ _ _) sh3 rfl ?_)))))
      refine kf rfl (kz rfl yF (kf rfl (zP rfl rfl (at_ps y0) sh22 rfl ?_)))
      refine kf rfl (yO rfl ty22 rfl (List.length_map _) ?_)
      refine kf rfl ?_
      refine zDr rfl rfl rfl (by unfold I64;omega) (kf rfl (za rfl (c1) (.lrefl _) (kF rfl ?_)))
      refine zC rfl (kf rfl (kz rfl fld68_2 (kf rfl (zP rfl rfl (wt _ _ _) sh3 rfl ?_))))
      refine kf rfl (za rfl (c2) (.lrefl _) (kF rfl ?_))
      refine zC rfl (kf rfl (kz rfl zDA (kf rfl (zP rfl rfl (wt _ _ _) sh3 rfl ?_))))
      refine kf rfl (za rfl (c3) (.lrefl _) (kF rfl ?_))
      refine zE rfl (zA (k_region (zC rfl ?_)))
      refine kA rfl (by unfold I64;omega) (zE rfl (zA ?_))
      exact⟨kk - 1,by omega,i+1,by omega,(by rw[←hY];exact⟨_,rfl⟩),.cons rfl (.n2 rfl)⟩
     ·obtain rfl:i=z.looks.length:=by omega
      refine zO _ _ hs hst fun fr=>?_
      refine k_seq (kQ (zC rfl (zC rfl (kf rfl (zC rfl (kf rfl (kz rfl yu (kf rfl (kB sh25 rfl (kf rfl (yO rfl ty25 rfl (List.length_map _) ?_)))))))))))
      refine kf rfl (kq rfl (kF rfl ?_))
      refine zA (k_cF rfl (kH (by omega)) (wJ (kQ (zC rfl (zE rfl (zA (yP ?_)))))))
      refine⟨.inr rfl,_,.cons _ _ _ _ (.tmp 2) .nil,?_⟩
      exact .refl _
end
section
section app
variable {Pr:Prt}{φ:BMap}{S:SMap}{s:St}{tm:TT}{H:CH}{P:Program}{is:FuncId→Bool}{orc:Known}{all:List Oper}{d:Nat}{x y:Operand}{t1 t2 t el:TypeId}{p:String}{e:Array Edge}{Q:St→Prop}{z zy c bb:Nat}{ky:Kd}{zv:V}
end app
end
end Go.Proofs.YtpckmojdekdbbaaGreat.settles
