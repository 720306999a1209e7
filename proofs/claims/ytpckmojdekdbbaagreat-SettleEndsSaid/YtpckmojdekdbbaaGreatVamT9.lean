import Derived.Test.YtpckmojdekdbbaaGreatVamT8
set_option linter.unusedVariables false
set_option linter.unusedSimpArgs false
set_option linter.constructorNameAsVariable false
namespace Go.Proofs.YtpckmojdekdbbaaGreat.settles
open Vam
section
variable {is:FuncId→Bool}{orc:Known}{z:Zt}
noncomputable def b36:Code:=(Tryz.f36.body).getD .skip
theorem body36:bodyOf Tryz.prog 36=some (171,b36,[.tmp 2]):=by kernel_rfl
theorem pure36:pureFn Tryz.prog 36=true:=by kernel_rfl
noncomputable def b40:Code:=(Tryz.f40.body).getD .skip
theorem body40:bodyOf Tryz.prog 40=some (17,b40,[.tmp 4]):=by kernel_rfl
theorem pure40:pureFn Tryz.prog 40=true:=by kernel_rfl
theorem ret40(hi:Off is)(n b:Int)(hb:1≤b∧b≤1000000):RetP Tryz.prog is orc 40 [.int .i64 n,.int .i64 b] (.int .i64 (n % b)):=by
 refine yp body40 pure40 (hi 40 (by decide)) rfl rfl (wQ (.int _ _ _) (.int _ _ _)) (.inl (.int _ _ _)) ?_
 have h1:=Int.emod_nonneg n (show b≠0 by omega)
 have h2:=Int.emod_lt_of_pos n (show 0<b by omega)
 by_cases hn:n.tmod b<0
 ·have e:n % b=n.tmod b+b:=by
   rw[Int.tmod_eq_emod]at hn ⊢
   split at hn
   ·omega
   ·rename_i h;rw[if_neg h];omega
  rw[e]
  refine kQ (zE rfl (zA (k_seq (kQ (zD rfl (kp rfl (zA (k_cF rfl (kG (by omega)) (zV (kQ (zD rfl (zD rfl (o_rem rfl rfl rfl (by omega) ?_)))))))))))))
  refine zE rfl (zA (k_seq (kQ (zD rfl (kp rfl (zA (k_cT rfl (kF (by omega)) (k_region (zD rfl (zD rfl ?_))))))))))
  refine kz rfl (by unfold I64;omega) (zE rfl (zA ?_))
  refine zL [(5,.int .i64 (Int.tmod n b+b))] ([]) (.n1 rfl) rfl fun fr=>?_
  refine kQ (zD rfl (zE rfl (zA (zw ?_))))
  refine⟨.inr rfl,_,.cons _ _ _ _ (.tmp 4) .nil,?_⟩
  exact .refl _
 ·have e:n % b=n.tmod b:=by
   rw[Int.tmod_eq_emod]at hn ⊢
   split at hn
   ·rename_i h;rw[if_pos h];simp
   ·rename_i h;rw[if_neg h];omega
  rw[e]
  refine kQ (zE rfl (zA (k_seq (kQ (zD rfl (kp rfl (zA (k_cF rfl (kG (by omega)) (zV (kQ (zD rfl (zD rfl (o_rem rfl rfl rfl (by omega) ?_)))))))))))))
  refine zE rfl (zA (k_seq (kQ (zD rfl (kp rfl (zA (k_cF rfl (kG (by omega)) (zV (kQ (zD rfl (zE rfl (zA (zw ?_)))))))))))))
  refine⟨.inr rfl,_,.cons _ _ _ _ (.tmp 4) .nil,?_⟩
  exact .refl _
theorem good_t{a b:Int}{x:Sp}(h:zCF a b x):zFA a b x.1 x.2=true:=good_iff.2 h
set_option maxHeartbeats 16000000 in
theorem ret36(hi:Off is)(z:Zt):RetP Tryz.prog is orc 36 [z.u] (.bool (zAZ z)):=by
 refine yp body36 pure36 (hi 36 (by decide)) rfl rfl (zCl (zFh z 5)) (.inl (.bool _ _)) ?_
 have q17:=ret17 (orc:=orc) hi z
 cases hv:zAZ z with
 |false=>
  rw[hv,if_neg (by decide)]at q17
  refine kQ (ya rfl rfl (zE rfl (zA ?_)))
  refine zL [(1,U.box 0 0)] ([SB.box [.int .i64 (Zt.yrs z),.lst .ro 7 (kysU (Zt.keys z)),.lst .ro 2 (spsU (Zt.steps z)),.lst .ro 4 (flsU (Zt.files z)),.lst .ro 4 (lksU (Zt.looks z))]]) (.n1 rfl) rfl fun fr=>?_
  refine kQ (kB sh27 rfl (zY rfl (q17) (.lrefl _) (ks rfl (zD rfl (ke rfl (ke rfl (ke rfl (kD rfl ?_))))))))
  refine zD rfl ?_
  refine yJ [(1,U.box 0 0),(19,.bool false)] [] ([SB.box [.int .i64 (Zt.yrs z),.lst .ro 7 (kysU (Zt.keys z)),.lst .ro 2 (spsU (Zt.steps z)),.lst .ro 4 (flsU (Zt.files z)),.lst .ro 4 (lksU (Zt.looks z))]]) (.n2 rfl) rfl rfl fun fr=>?_
  refine ke rfl (ke rfl (ke rfl (ke rfl (kD rfl ?_))))
  refine zD rfl (ke rfl (ke rfl (ke rfl ?_)))
  refine yJ [(1,U.box 0 0),(25,.bool false),(28,U.tup [])] [] ([SB.box [.int .i64 (Zt.yrs z),.lst .ro 7 (kysU (Zt.keys z)),.lst .ro 2 (spsU (Zt.steps z)),.lst .ro 4 (flsU (Zt.files z)),.lst .ro 4 (lksU (Zt.looks z))]]) (.n3 rfl) rfl rfl fun fr=>?_
  refine ke rfl (ke rfl (ke rfl (ke rfl (ke rfl (kD rfl ?_)))))
  refine zD rfl (ke rfl (ke rfl ?_))
  refine yJ [(1,U.box 0 0),(35,.bool false),(37,U.tup [])] [] ([SB.box [.int .i64 (Zt.yrs z),.lst .ro 7 (kysU (Zt.keys z)),.lst .ro 2 (spsU (Zt.steps z)),.lst .ro 4 (flsU (Zt.files z)),.lst .ro 4 (lksU (Zt.looks z))]]) (.n3 rfl) rfl rfl fun fr=>?_
  refine ke rfl (ke rfl (kD rfl ?_))
  refine zD rfl (ke rfl (ke rfl (ke rfl (ke rfl (kD rfl ?_)))))
  refine yJ [(1,U.box 0 0),(46,.bool false)] [] ([SB.box [.int .i64 (Zt.yrs z),.lst .ro 7 (kysU (Zt.keys z)),.lst .ro 2 (spsU (Zt.steps z)),.lst .ro 4 (flsU (Zt.files z)),.lst .ro 4 (lksU (Zt.looks z))]]) (.n2 rfl) rfl rfl fun fr=>?_
  refine zE rfl (zA ?_)
  refine zL [(1,U.box 0 0),(3,.bool false)] ([SB.box [.int .i64 (Zt.yrs z),.lst .ro 7 (kysU (Zt.keys z)),.lst .ro 2 (spsU (Zt.steps z)),.lst .ro 4 (flsU (Zt.files z)),.lst .ro 4 (lksU (Zt.looks z))]]) (.n2 rfl) rfl fun fr=>?_
  refine k_seq (kQ (zE rfl (zA (zR ?_))))
  refine yq (fun kk s1=>s1.st=[SB.box z.cs]∧Holds s1 [(1,.box 0 0),(3,.bool false),(4,.int .i64 0)]) (fun kk s1 hs=>?_) 0 _ ⟨rfl,.cons rfl (.n2 rfl)⟩
  obtain⟨hst,hs⟩:=hs
  refine zL _ _ hs hst fun fr0=>?_
  refine k_seq (kQ (zD rfl (zD rfl (ke rfl (ke rfl (ke rfl (ke rfl (ke rfl (kD rfl ?_)))))))))
  refine zA (k_cF rfl rfl ?_)
  refine yj (k_seq (kQ (zE rfl (zA (zR ?_)))))
  clear hst hs
  refine yq (fun kk s1=>s1.st=[SB.box z.cs]∧Holds s1 [(1,.box 0 0),(3,.bool false),(6,.int .i64 0)]) (fun kk s1 hs=>?_) 0 _ ⟨rfl,.cons rfl (.n2 rfl)⟩
  obtain⟨hst,hs⟩:=hs
  refine zL _ _ hs hst fun fr1=>?_
  refine k_seq (kQ (zD rfl (zD rfl (ke rfl (ke rfl (ke rfl (ke rfl (ke rfl (kD rfl ?_)))))))))
  refine zA (k_cF rfl rfl ?_)
  refine yj (k_seq (kQ (zE rfl (zA (zR ?_)))))
  clear hst hs
  refine yq (fun kk s1=>s1.st=[SB.box z.cs]∧Holds s1 [(1,.box 0 0),(3,.bool false),(7,.int .i64 0)]) (fun kk s1 hs=>?_) 0 _ ⟨rfl,.cons rfl (.n2 rfl)⟩
  obtain⟨hst,hs⟩:=hs
  refine zL _ _ hs hst fun fr2=>?_
  refine k_seq (kQ (zD rfl (zD rfl (ke rfl (ke rfl (ke rfl (ke rfl (ke rfl (kD rfl ?_)))))))))
  refine zA (k_cF rfl rfl ?_)
  refine yj (k_seq (kQ (zE rfl (zA (zR ?_)))))
  clear hst hs
  refine yq (fun kk s1=>s1.st=[SB.box z.cs]∧Holds s1 [(1,.box 0 0),(3,.bool false),(9,.int .i64 0)]) (fun kk s1 hs=>?_) 0 _ ⟨rfl,.cons rfl (.n2 rfl)⟩
  obtain⟨hst,hs⟩:=hs
  refine zL _ _ hs hst fun fr3=>?_
  refine k_seq (kQ (zD rfl (zD rfl (ke rfl (ke rfl (ke rfl (ke rfl (ke rfl (kD rfl ?_)))))))))
  refine zA (k_cF rfl rfl ?_)
  refine yj (kQ (zD rfl (zE rfl (zA (zw ?_)))))
  refine⟨.inr rfl,_,.cons _ _ _ _ (.tmp 2) .nil,?_⟩
  exact .refl _
 |true=>
  rw[hv,if_pos rfl]at q17
  have h:=zBR.1 hv
  have hy:=h.y
  have hk:=h.k
  have hs1:=h.s
  have hf:=h.f
  have hl:=h.l
  have p1:=zHM (orc:=orc) hi z.yrs 1 40
  have p2:=zHM (orc:=orc) hi z.keys.length 1 7
  rw[zBC.2 hy]at p1
  rw[zBC.2 (by omega)]at p2
  refine kQ (ya rfl rfl (zE rfl (zA ?_)))
  refine zL [(1,U.box 0 0)] ([SB.box [.int .i64 (Zt.yrs z),.lst .ro 7 (kysU (Zt.keys z)),.lst .ro 2 (spsU (Zt.steps z)),.lst .ro 4 (flsU (Zt.files z)),.lst .ro 4 (lksU (Zt.looks z))]]) (.n1 rfl) rfl fun fr=>?_
  refine kQ (kB sh27 rfl (zY rfl (q17) (.lrefl _) (ks rfl (zD rfl (kf rfl (kw rfl wA (kf rfl (kA sh3 rfl (kf rfl (zY rfl (p1) (.lrefl _) (kE rfl ?_)))))))))))
  refine zD rfl ?_
  refine yJ [(1,U.box 0 0),(19,.bool true)] [] ([SB.box [.int .i64 (Zt.yrs z),.lst .ro 7 (kysU (Zt.keys z)),.lst .ro 2 (spsU (Zt.steps z)),.lst .ro 4 (flsU (Zt.files z)),.lst .ro 4 (lksU (Zt.looks z))]]) (.n2 rfl) rfl rfl fun fr=>?_
  refine kf rfl ?_
  refine yJ [(1,U.box 0 0),(19,.bool true)] [] ([SB.box [.int .i64 (Zt.yrs z),.lst .ro 7 (kysU (Zt.keys z)),.lst .ro 2 (spsU (Zt.steps z)),.lst .ro 4 (flsU (Zt.files z)),.lst .ro 4 (lksU (Zt.looks z))]]) (.n2 rfl) rfl rfl fun fr=>?_
  refine kw rfl yT (kf rfl (kA sh22 rfl (kf rfl (zz rfl ty22 rfl (List.length_map _) ?_))))
  refine kf rfl (zY rfl (p2) (.lrefl _) (kE rfl ?_))
  refine zD rfl (kf rfl (kw rfl zDE (kf rfl (kA sh23 rfl (kf rfl (zz rfl ty23 rfl (List.length_map _) ?_))))))
  refine yJ [(1,U.box 0 0),(25,.bool true),(28,.int .i64 ↑(List.length (Zt.steps z)))] [] ([SB.box [.int .i64 (Zt.yrs z),.lst .ro 7 (kysU (Zt.keys z)),.lst .ro 2 (spsU (Zt.steps z)),.lst .ro 4 (flsU (Zt.files z)),.lst .ro 4 (lksU (Zt.looks z))]]) (.n3 rfl) rfl rfl fun fr=>?_
  refine kf rfl ?_
  refine yJ [(1,U.box 0 0),(25,.bool true),(28,.int .i64 ↑(List.length (Zt.steps z)))] [] ([SB.box [.int .i64 (Zt.yrs z),.lst .ro 7 (kysU (Zt.keys z)),.lst .ro 2 (spsU (Zt.steps z)),.lst .ro 4 (flsU (Zt.files z)),.lst .ro 4 (lksU (Zt.looks z))]]) (.n3 rfl) rfl rfl fun fr=>?_
  refine kw rfl yT (kf rfl (kA sh22 rfl (kf rfl (zz rfl ty22 rfl (List.length_map _) ?_))))
  refine kf rfl ?_
  refine zDc rfl rfl rfl (by unfold I64;omega) (kf rfl (ks rfl (kE rfl ?_)))
  refine zD rfl (kh rfl (kF (by omega)) ?_)
  refine kw rfl wo (kh rfl (kF (by omega)) ?_)
  refine kA sh24 rfl ?_
  refine yJ [(1,U.box 0 0),(35,U.bool (decide (↑(List.length (Zt.steps z))= ↑(List.length (Zt.keys z)) - (1:Int)))),(37,.lst .ro 4 (flsU (Zt.files z)))] [] ([SB.box [.int .i64 (Zt.yrs z),.lst .ro 7 (kysU (Zt.keys z)),.lst .ro 2 (spsU (Zt.steps z)),.lst .ro 4 (flsU (Zt.files z)),.lst .ro 4 (lksU (Zt.looks z))]]) (.n3 rfl) rfl rfl fun fr=>?_
  refine kh rfl (kF (by omega)) ?_
  refine yJ [(1,U.box 0 0),(35,U.bool (decide (↑(List.length (Zt.steps z))= ↑(List.length (Zt.keys z)) - (1:Int)))),(37,.lst .ro 4 (flsU (Zt.files z)))] [] ([SB.box [.int .i64 (Zt.yrs z),.lst .ro 7 (kysU (Zt.keys z)),.lst .ro 2 (spsU (Zt.steps z)),.lst .ro 4 (flsU (Zt.files z)),.lst .ro 4 (lksU (Zt.looks z))]]) (.n3 rfl) rfl rfl fun fr=>?_
  refine zz rfl ty24 rfl (List.length_map _) ?_
  refine kh rfl (kF (by omega)) ?_
  refine kq rfl (wD rfl rfl (kF (by omega)) ?_)
  refine zD rfl (kh rfl (kF (by omega)) ?_)
  refine kw rfl zCW (kh rfl (kF (by omega)) ?_)
  refine kA sh25 rfl (kh rfl (kF (by omega)) ?_)
  refine zz rfl ty25 rfl (List.length_map _) ?_
  refine kh rfl (kF (by omega)) ?_
  refine kq rfl (wD rfl rfl (kF (by omega)) ?_)
  refine yJ [(1,U.box 0 0),(46,U.bool (decide (↑(List.length (Zt.looks z))≤(12:Int))))] [] ([SB.box [.int .i64 (Zt.yrs z),.lst .ro 7 (kysU (Zt.keys z)),.lst .ro 2 (spsU (Zt.steps z)),.lst .ro 4 (flsU (Zt.files z)),.lst .ro 4 (lksU (Zt.looks z))]]) (.n2 rfl) rfl rfl fun fr=>?_
  refine zE rfl (zA ?_)
  refine zL [(1,U.box 0 0),(3,U.bool (decide (↑(List.length (Zt.looks z))≤(12:Int))))] ([SB.box [.int .i64 (Zt.yrs z),.lst .ro 7 (kysU (Zt.keys z)),.lst .ro 2 (spsU (Zt.steps z)),.lst .ro 4 (flsU (Zt.files z)),.lst .ro 4 (lksU (Zt.looks z))]]) (.n2 rfl) rfl fun fr=>?_
  refine k_seq (kQ (zE rfl (zA (zR ?_))))
  refine yq (fun kk s1=>∃i:Nat,kk+i=z.keys.length∧(∃e,s1.st=SB.box z.cs::e)∧Holds s1 [(1,.box 0 0),(3,.bool true),(4,.int .i64 i)]) (fun kk s1 hI=>?_) z.keys.length _ ⟨0,rfl,⟨[],rfl⟩,.cons rfl (.cons (congrArg U.bool (kF (by omega))) (.n1 rfl))⟩
  obtain⟨i,hkk,⟨e,hst⟩,hs⟩:=hI
  by_cases hin:i<z.keys.length
  ·obtain⟨x,hx⟩:∃x,z.keys[i]? =some x:=⟨z.keys[i],List.getElem?_eq_getElem hin⟩
   have a:=h.kk x (List.mem_of_getElem? hx)
   have c0:=ret55 (orc:=orc) hi x.bg.1 x.bg.2 5000 20000
   rw[good_t a.1]at c0
   have c1:=ret55 (orc:=orc) hi x.rt.1 x.rt.2 (-50) 50
   rw[good_t a.2.1]at c1
   have c2:=zHM (orc:=orc) hi x.dn 0 1000
   rw[zBC.2 a.2.2.1]at c2
   have c3:=zHM (orc:=orc) hi x.up 0 1000
   rw[zBC.2 a.2.2.2]at c3
   generalize hY:SB.box z.cs::e=Y at hst
   have y0:Y[0]? =some (.box z.cs):=by rw[←hY];rfl
   refine zL _ _ hs hst fun fr=>?_
   refine k_seq (kQ (zD rfl (zD rfl (kf rfl (zD rfl (kf rfl (kw rfl yT (kf rfl (zI rfl rfl y0 sh22 rfl ?_)))))))))
   refine kf rfl (zz rfl ty22 rfl (List.length_map _) ?_)
   refine kf rfl (kp rfl (kE rfl ?_))
   refine zA (k_cT rfl (kF (by omega)) (zV (k_seq (zR (kQ (kw rfl yT (zI rfl rfl y0 sh22 rfl ?_)))))))
   refine zD rfl (wb (u:=(x).u) rfl ty22 rfl rfl (Int.natCast_nonneg _) (by simp[hx]) cl62 ?_)
   refine yL rfl rfl sh62 rfl ?_
   refine zi rfl ze62 ?_
   refine zS rfl (zT _ _) sh62 rfl rfl rfl rfl rfl ?_
   refine zA (k_region (kw rfl fld62_0 (zg rfl rfl (wz _ _ _) sh35 rfl ?_)))
   refine zY rfl (c0) (.lrefl _) (zD rfl (kf rfl (kw rfl fld62_1 (kf rfl (zg rfl rfl (wz _ _ _) sh35 rfl ?_)))))
   refine kf rfl (zY rfl (c1) (.lrefl _) (kE rfl ?_))
   refine zD rfl (kf rfl (kw rfl fld62_3 (kf rfl (zI rfl rfl (wz _ _ _) sh3 rfl ?_))))
   refine kf rfl (zY rfl (c2) (.lrefl _) (kE rfl ?_))
   refine zD rfl (kf rfl (kw rfl fld62_4 (kf rfl (zI rfl rfl (wz _ _ _) sh3 rfl ?_))))
   refine kf rfl (zY rfl (c3) (.lrefl _) (kE rfl ?_))
   refine zE rfl (zA (k_region (zD rfl ?_)))
   refine kz rfl (by unfold I64;omega) (zE rfl (zA ?_))
   exact⟨kk - 1,by omega,i+1,by omega,(by rw[←hY];exact⟨_,rfl⟩),.cons rfl (.n2 rfl)⟩
  ·obtain rfl:i=z.keys.length:=by omega
   refine zL _ _ hs hst fun fr=>?_
   refine k_seq (kQ (zD rfl (zD rfl (kf rfl (zD rfl (kf rfl (kw rfl yT (kf rfl (kA sh22 rfl (kf rfl (zz rfl ty22 rfl (List.length_map _) ?_)))))))))))
   refine kf rfl (kp rfl (kE rfl ?_))
   refine zA (k_cF rfl (kG (by omega)) (yj (k_seq (kQ (zE rfl (zA (zR ?_)))))))
   refine yq (fun kk s1=>∃i:Nat,kk+i=z.steps.length∧(∃e,s1.st=SB.box z.cs::e)∧Holds s1 [(1,.box 0 0),(3,.bool true),(6,.int .i64 i)]) (fun kk s1 hI=>?_) z.steps.length _ ⟨0,rfl,⟨e,rfl⟩,.cons rfl (.n2 rfl)⟩
   obtain⟨i,hkk,⟨e,hst⟩,hs⟩:=hI
   by_cases hin:i<z.steps.length
   ·obtain⟨x,hx⟩:∃x,z.steps[i]? =some x:=⟨z.steps[i],List.getElem?_eq_getElem hin⟩
    have a:=h.ss x (List.mem_of_getElem? hx)
    have c0:=ret55 (orc:=orc) hi x.1 x.2 0 30000
    rw[good_t a]at c0
    have hxu:(spsU z.steps)[i]? =some (spU x):=by rw[List.getElem?_map,hx];rfl
    generalize hY:SB.box z.cs::e=Y at hst
    have y0:Y[0]? =some (.box z.cs):=by rw[←hY];rfl
    refine zL _ _ hs hst fun fr=>?_
    refine k_seq (kQ (zD rfl (zD rfl (kf rfl (zD rfl (kf rfl (kw rfl zDE (kf rfl (zI rfl rfl y0 sh23 rfl ?_)))))))))
    refine kf rfl (zz rfl ty23 rfl (List.length_map _) ?_)
    refine kf rfl (kp rfl (kE rfl ?_))
    refine zA (k_cT rfl (kF (by omega)) (zV (k_seq (zR (k_region (kw rfl zDE (zI rfl rfl y0 sh23 rfl ?_)))))))
    refine zD rfl (wb (u:=spU x) rfl ty23 rfl rfl (Int.natCast_nonneg _) hxu cl35 ?_)
    refine yL rfl rfl sh35 rfl ?_
    refine zY rfl (c0) (.lrefl _) (zE rfl (zA (k_region (zD rfl ?_))))
    refine kz rfl (by unfold I64;omega) (zE rfl (zA ?_))
    exact⟨kk - 1,by omega,i+1,by omega,(by rw[←hY];exact⟨_,rfl⟩),.cons rfl (.n2 rfl)⟩
   ·obtain rfl:i=z.steps.length:=by omega
    refine zL _ _ hs hst fun fr=>?_
    refine k_seq (kQ (zD rfl (zD rfl (kf rfl (zD rfl (kf rfl (kw rfl zDE (kf rfl (kA sh23 rfl (kf rfl (zz rfl ty23 rfl (List.length_map _) ?_)))))))))))
    refine kf rfl (kp rfl (kE rfl ?_))
    refine zA (k_cF rfl (kG (by omega)) (yj (k_seq (kQ (zE rfl (zA (zR ?_)))))))
    refine yq (fun kk s1=>∃i:Nat,kk+i=z.files.length∧(∃e,s1.st=SB.box z.cs::e)∧Holds s1 [(1,.box 0 0),(3,.bool true),(7,.int .i64 i)]) (fun kk s1 hI=>?_) z.files.length _ ⟨0,rfl,⟨e,rfl⟩,.cons rfl (.n2 rfl)⟩
    obtain⟨i,hkk,⟨e,hst⟩,hs⟩:=hI
    by_cases hin:i<z.files.length
    ·obtain⟨x,hx⟩:∃x,z.files[i]? =some x:=⟨z.files[i],List.getElem?_eq_getElem hin⟩
     have a:=h.ff x (List.mem_of_getElem? hx)
     have c0:=zHM (orc:=orc) hi x.yr 0 (z.yrs - 1)
     rw[zBC.2 a.1]at c0
     have c1:=zHM (orc:=orc) hi x.ky 0 ((z.keys.length:Int) - 1)
     rw[zBC.2 a.2.1]at c1
     have c2:=ret55 (orc:=orc) hi x.bs.1 x.bs.2 (-200) 200
     rw[good_t a.2.2]at c2
     generalize hY:SB.box z.cs::e=Y at hst
     have y0:Y[0]? =some (.box z.cs):=by rw[←hY];rfl
     refine zL _ _ hs hst fun fr=>?_
     refine k_seq (kQ (zD rfl (zD rfl (kf rfl (zD rfl (kf rfl (kw rfl wo (kf rfl (zI rfl rfl y0 sh24 rfl ?_)))))))))
     refine kf rfl (zz rfl ty24 rfl (List.length_map _) ?_)
     refine kf rfl (kp rfl (kE rfl ?_))
     refine zA (k_cT rfl (kF (by omega)) (zV (k_seq (zR (kQ (kw rfl wo (zI rfl rfl y0 sh24 rfl ?_)))))))
     refine zD rfl (wb (u:=(x).u) rfl ty24 rfl rfl (Int.natCast_nonneg _) (by simp[hx]) cl64 ?_)
     refine yL rfl rfl sh64 rfl ?_
     refine zi rfl ze64 ?_
     refine zS rfl (zT _ _) sh64 rfl rfl rfl rfl rfl ?_
     refine zA (k_region (kw rfl zGw (zI rfl rfl (wz _ _ _) sh3 rfl ?_)))
     refine kw rfl wA (zI rfl rfl (at_ps y0) sh3 rfl ?_)
     refine zDc rfl rfl rfl (by unfold I64;omega) (zY rfl (c0) (.lrefl _) (zD rfl (kf rfl (kw rfl zFC (kf rfl (zI rfl rfl (wz _ _ _) sh3 rfl ?_))))))
     refine kf rfl (kw rfl yT (kf rfl (zI rfl rfl (at_ps y0) sh22 rfl ?_)))
     refine kf rfl (zz rfl ty22 rfl (List.length_map _) ?_)
     refine kf rfl ?_
     refine zDc rfl rfl rfl (by unfold I64;omega) (kf rfl (zY rfl (c1) (.lrefl _) (kE rfl ?_)))
     refine zD rfl (kf rfl (kw rfl zGv (kf rfl (zg rfl rfl (wz _ _ _) sh35 rfl ?_))))
     refine kf rfl (zY rfl (c2) (.lrefl _) (kE rfl ?_))
     refine zE rfl (zA (k_region (zD rfl ?_)))
     refine kz rfl (by unfold I64;omega) (zE rfl (zA ?_))
     exact⟨kk - 1,by omega,i+1,by omega,(by rw[←hY];exact⟨_,rfl⟩),.cons rfl (.n2 rfl)⟩
    ·obtain rfl:i=z.files.length:=by omega
     refine zL _ _ hs hst fun fr=>?_
     refine k_seq (kQ (zD rfl (zD rfl (kf rfl (zD rfl (kf rfl (kw rfl wo (kf rfl (kA sh24 rfl (kf rfl (zz rfl ty24 rfl (List.length_map _) ?_)))))))))))
     refine kf rfl (kp rfl (kE rfl ?_))
     refine zA (k_cF rfl (kG (by omega)) (yj (k_seq (kQ (zE rfl (zA (zR ?_)))))))
     refine yq (fun kk s1=>∃i:Nat,kk+i=z.looks.length∧(∃e,s1.st=SB.box z.cs::e)∧Holds s1 [(1,.box 0 0),(3,.bool true),(9,.int .i64 i)]) (fun kk s1 hI=>?_) z.looks.length _ ⟨0,rfl,⟨e,rfl⟩,.cons rfl (.n2 rfl)⟩
     obtain⟨i,hkk,⟨e,hst⟩,hs⟩:=hI
     by_cases hin:i<z.looks.length
     ·obtain⟨x,hx⟩:∃x,z.looks[i]? =some x:=⟨z.looks[i],List.getElem?_eq_getElem hin⟩
      have a:=h.ll x (List.mem_of_getElem? hx)
      have c0:=zHM (orc:=orc) hi x.yr 0 z.yrs
      rw[zBC.2 a.1]at c0
      have c1:=zHM (orc:=orc) hi x.ky 0 ((z.keys.length:Int) - 1)
      rw[zBC.2 a.2.1]at c1
      have c2:=zHM (orc:=orc) hi x.rd 0 30000
      rw[zBC.2 a.2.2.1]at c2
      have c3:=zHM (orc:=orc) hi x.er 0 500
      rw[zBC.2 a.2.2.2]at c3
      generalize hY:SB.box z.cs::e=Y at hst
      have y0:Y[0]? =some (.box z.cs):=by rw[←hY];rfl
      refine zL _ _ hs hst fun fr=>?_
      refine k_seq (kQ (zD rfl (zD rfl (kf rfl (zD rfl (kf rfl (kw rfl zCW (kf rfl (zI rfl rfl y0 sh25 rfl ?_)))))))))
      refine kf rfl (zz rfl ty25 rfl (List.length_map _) ?_)
      refine kf rfl (kp rfl (kE rfl ?_))
      refine zA (k_cT rfl (kF (by omega)) (zV (k_seq (zR (kQ (kw rfl zCW (zI rfl rfl y0 sh25 rfl ?_)))))))
      refine zD rfl (wb (u:=(x).u) rfl ty25 rfl rfl (Int.natCast_nonneg _) (by simp[hx]) cl68 ?_)
      refine yL rfl rfl sh68 rfl ?_
      refine zi rfl ze68 ?_
      refine zS rfl (zT _ _) sh68 rfl rfl rfl rfl rfl ?_
      refine zA (k_region (kw rfl fld68_0 (zI rfl rfl (wz _ _ _) sh3 rfl ?_)))
      refine kw rfl wA (zI rfl rfl (at_ps y0) sh3 rfl ?_)
      refine zY rfl (c0) (.lrefl _) (zD rfl (kf rfl (kw rfl fld68_1 (kf rfl (zI rfl rfl (wz _ _ _) sh3 rfl ?_)))))
      refine kf rfl (kw rfl yT (kf rfl (zI rfl rfl (at_ps y0) sh22 rfl ?_)))
      refine kf rfl (zz rfl ty22 rfl (List.length_map _) ?_)
      refine kf rfl ?_
      refine zDc rfl rfl rfl (by unfold I64;omega) (kf rfl (zY rfl (c1) (.lrefl _) (kE rfl ?_)))
      refine zD rfl (kf rfl (kw rfl fld68_2 (kf rfl (zI rfl rfl (wz _ _ _) sh3 rfl ?_))))
      refine kf rfl (zY rfl (c2) (.lrefl _) (kE rfl ?_))
      refine zD rfl (kf rfl (kw rfl fld68_3 (kf rfl (zI rfl rfl (wz _ _ _) sh3 rfl ?_))))
      refine kf rfl (zY rfl (c3) (.lrefl _) (kE rfl ?_))
      refine zE rfl (zA (k_region (zD rfl ?_)))
      refine kz rfl (by unfold I64;omega) (zE rfl (zA ?_))
      exact⟨kk - 1,by omega,i+1,by omega,(by rw[←hY];exact⟨_,rfl⟩),.cons rfl (.n2 rfl)⟩
     ·obtain rfl:i=z.looks.length:=by omega
      refine zL _ _ hs hst fun fr=>?_
      refine k_seq (kQ (zD rfl (zD rfl (kf rfl (zD rfl (kf rfl (kw rfl zCW (kf rfl (kA sh25 rfl (kf rfl (zz rfl ty25 rfl (List.length_map _) ?_)))))))))))
      refine kf rfl (kp rfl (kE rfl ?_))
      refine zA (k_cF rfl (kG (by omega)) (yj (kQ (zD rfl (zE rfl (zA (zw ?_)))))))
      refine⟨.inr rfl,_,.cons _ _ _ _ (.tmp 2) .nil,?_⟩
      exact .refl _
end
section
section app
variable {Pr:Prt}{φ:BMap}{S:SMap}{s:St}{tm:TT}{H:CH}{P:Program}{is:FuncId→Bool}{orc:Known}{all:List Oper}{d:Nat}{x y:Operand}{t1 t2 t el:TypeId}{p:String}{e:Array Edge}{Q:St→Prop}{z zy c bb:Nat}{ky:Kd}{zv:V}
end app
end
end Go.Proofs.YtpckmojdekdbbaaGreat.settles
