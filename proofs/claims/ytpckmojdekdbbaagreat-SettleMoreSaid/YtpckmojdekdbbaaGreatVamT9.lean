import Derived.Test.YtpckmojdekdbbaaGreatVamT8
set_option linter.unusedVariables false
set_option linter.unusedSimpArgs false
set_option linter.constructorNameAsVariable false
namespace Go.Proofs.YtpckmojdekdbbaaGreat.settles
open Vam
section
variable {is:FuncId→Bool}{orc:Known}{z:Zt}
noncomputable def b36:Code:=(Tryz.f36.body).getD .skip
theorem body36:bodyOf Tryz.prog 36=some (171,b36,[.tmp 2]):=by kernel_rfl
theorem pure36:pureFn Tryz.prog 36=true:=by kernel_rfl
noncomputable def b40:Code:=(Tryz.f40.body).getD .skip
theorem body40:bodyOf Tryz.prog 40=some (17,b40,[.tmp 4]):=by kernel_rfl
theorem pure40:pureFn Tryz.prog 40=true:=by kernel_rfl
theorem ret40(hi:Off is)(n b:Int)(hb:1≤b∧b≤1000000):RetP Tryz.prog is orc 40 [.int .i64 n,.int .i64 b] (.int .i64 (n % b)):=by
 refine wG body40 pure40 (hi 40 (by decide)) rfl rfl (wt (.int _ _ _) (.int _ _ _)) (.inl (.int _ _ _)) ?_
 have h1:=Int.emod_nonneg n (show b≠0 by omega)
 have h2:=Int.emod_lt_of_pos n (show 0<b by omega)
 by_cases hn:n.tmod b<0
 ·have e:n % b=n.tmod b+b:=by
   rw[Int.tmod_eq_emod]at hn ⊢
   split at hn
   ·omega
   ·rename_i h;rw[if_neg h];omega
  rw[e]
  refine kQ (zF rfl (zA (k_seq (kQ (zD rfl (kp rfl (zA (k_cF rfl (kG (by omega)) (zr (kQ (zD rfl (zD rfl (o_rem rfl rfl rfl (by omega) ?_)))))))))))))
  refine zF rfl (zA (k_seq (kQ (zD rfl (kp rfl (zA (k_cT rfl (kF (by omega)) (k_region (zD rfl (zD rfl ?_))))))))))
  refine kz rfl (by unfold I64;omega) (zF rfl (zA ?_))
  refine zQ [(5,.int .i64 (Int.tmod n b+b))] ([]) (.n1 rfl) rfl fun fr=>?_
  refine kQ (zD rfl (zF rfl (zA (yJ ?_))))
  refine⟨.inr rfl,_,.cons _ _ _ _ (.tmp 4) .nil,?_⟩
  exact .refl _
 ·have e:n % b=n.tmod b:=by
   rw[Int.tmod_eq_emod]at hn ⊢
   split at hn
   ·rename_i h;rw[if_pos h];simp
   ·rename_i h;rw[if_neg h];omega
  rw[e]
  refine kQ (zF rfl (zA (k_seq (kQ (zD rfl (kp rfl (zA (k_cF rfl (kG (by omega)) (zr (kQ (zD rfl (zD rfl (o_rem rfl rfl rfl (by omega) ?_)))))))))))))
  refine zF rfl (zA (k_seq (kQ (zD rfl (kp rfl (zA (k_cF rfl (kG (by omega)) (zr (kQ (zD rfl (zF rfl (zA (yJ ?_)))))))))))))
  refine⟨.inr rfl,_,.cons _ _ _ _ (.tmp 4) .nil,?_⟩
  exact .refl _
theorem good_t{a b:Int}{x:Sp}(h:zCm a b x):zEr a b x.1 x.2=true:=good_iff.2 h
set_option maxHeartbeats 16000000 in
theorem ret36(hi:Off is)(z:Zt):RetP Tryz.prog is orc 36 [z.u] (.bool (zAB z)):=by
 refine wG body36 pure36 (hi 36 (by decide)) rfl rfl (zDi (dat_z z 5)) (.inl (.bool _ _)) ?_
 have q17:=ret17 (orc:=orc) hi z
 cases hv:zAB z with
 |false=>
  rw[hv,if_neg (by decide)]at q17
  refine kQ (yf rfl rfl (zF rfl (zA ?_)))
  refine zQ [(1,U.box 0 0)] ([SB.box [.int .i64 (Zt.yrs z),.lst .ro 7 (kysU (Zt.keys z)),.lst .ro 2 (spsU (Zt.steps z)),.lst .ro 4 (flsU (Zt.files z)),.lst .ro 4 (lksU (Zt.looks z))]]) (.n1 rfl) rfl fun fr=>?_
  refine kQ (kB sh27 rfl (zd rfl (q17) (.lrefl _) (ks rfl (zD rfl (ke rfl (ke rfl (ke rfl (kD rfl ?_))))))))
  refine zD rfl ?_
  refine zk [(1,U.box 0 0),(19,.bool false)] [] ([SB.box [.int .i64 (Zt.yrs z),.lst .ro 7 (kysU (Zt.keys z)),.lst .ro 2 (spsU (Zt.steps z)),.lst .ro 4 (flsU (Zt.files z)),.lst .ro 4 (lksU (Zt.looks z))]]) (.n2 rfl) rfl rfl fun fr=>?_
  refine ke rfl (ke rfl (ke rfl (ke rfl (kD rfl ?_))))
  refine zD rfl (ke rfl (ke rfl (ke rfl ?_)))
  refine zk [(1,U.box 0 0),(25,.bool false),(28,U.tup [])] [] ([SB.box [.int .i64 (Zt.yrs z),.lst .ro 7 (kysU (Zt.keys z)),.lst .ro 2 (spsU (Zt.steps z)),.lst .ro 4 (flsU (Zt.files z)),.lst .ro 4 (lksU (Zt.looks z))]]) (.n3 rfl) rfl rfl fun fr=>?_
  refine ke rfl (ke rfl (ke rfl (ke rfl (ke rfl (kD rfl ?_)))))
  refine zD rfl (ke rfl (ke rfl ?_))
  refine zk [(1,U.box 0 0),(35,.bool false),(37,U.tup [])] [] ([SB.box [.int .i64 (Zt.yrs z),.lst .ro 7 (kysU (Zt.keys z)),.lst .ro 2 (spsU (Zt.steps z)),.lst .ro 4 (flsU (Zt.files z)),.lst .ro 4 (lksU (Zt.looks z))]]) (.n3 rfl) rfl rfl fun fr=>?_
  refine ke rfl (ke rfl (kD rfl ?_))
  refine zD rfl (ke rfl (ke rfl (ke rfl (ke rfl (kD rfl ?_)))))
  refine zk [(1,U.box 0 0),(46,.bool false)] [] ([SB.box [.int .i64 (Zt.yrs z),.lst .ro 7 (kysU (Zt.keys z)),.lst .ro 2 (spsU (Zt.steps z)),.lst .ro 4 (flsU (Zt.files z)),.lst .ro 4 (lksU (Zt.looks z))]]) (.n2 rfl) rfl rfl fun fr=>?_
  refine zF rfl (zA ?_)
  refine zQ [(1,U.box 0 0),(3,.bool false)] ([SB.box [.int .i64 (Zt.yrs z),.lst .ro 7 (kysU (Zt.keys z)),.lst .ro 2 (spsU (Zt.steps z)),.lst .ro 4 (flsU (Zt.files z)),.lst .ro 4 (lksU (Zt.looks z))]]) (.n2 rfl) rfl fun fr=>?_
  refine k_seq (kQ (zF rfl (zA (zS ?_))))
  refine wJ (fun kk s1=>s1.st=[SB.box z.cs]∧Holds s1 [(1,.box 0 0),(3,.bool false),(4,.int .i64 0)]) (fun kk s1 hs=>?_) 0 _ ⟨rfl,.cons rfl (.n2 rfl)⟩
  obtain⟨hst,hs⟩:=hs
  refine zQ _ _ hs hst fun fr0=>?_
  refine k_seq (kQ (zD rfl (zD rfl (ke rfl (ke rfl (ke rfl (ke rfl (ke rfl (kD rfl ?_)))))))))
  refine zA (k_cF rfl rfl ?_)
  refine wK (k_seq (kQ (zF rfl (zA (zS ?_)))))
  clear hst hs
  refine wJ (fun kk s1=>s1.st=[SB.box z.cs]∧Holds s1 [(1,.box 0 0),(3,.bool false),(6,.int .i64 0)]) (fun kk s1 hs=>?_) 0 _ ⟨rfl,.cons rfl (.n2 rfl)⟩
  obtain⟨hst,hs⟩:=hs
  refine zQ _ _ hs hst fun fr1=>?_
  refine k_seq (kQ (zD rfl (zD rfl (ke rfl (ke rfl (ke rfl (ke rfl (ke rfl (kD rfl ?_)))))))))
  refine zA (k_cF rfl rfl ?_)
  refine wK (k_seq (kQ (zF rfl (zA (zS ?_)))))
  clear hst hs
  refine wJ (fun kk s1=>s1.st=[SB.box z.cs]∧Holds s1 [(1,.box 0 0),(3,.bool false),(7,.int .i64 0)]) (fun kk s1 hs=>?_) 0 _ ⟨rfl,.cons rfl (.n2 rfl)⟩
  obtain⟨hst,hs⟩:=hs
  refine zQ _ _ hs hst fun fr2=>?_
  refine k_seq (kQ (zD rfl (zD rfl (ke rfl (ke rfl (ke rfl (ke rfl (ke rfl (kD rfl ?_)))))))))
  refine zA (k_cF rfl rfl ?_)
  refine wK (k_seq (kQ (zF rfl (zA (zS ?_)))))
  clear hst hs
  refine wJ (fun kk s1=>s1.st=[SB.box z.cs]∧Holds s1 [(1,.box 0 0),(3,.bool false),(9,.int .i64 0)]) (fun kk s1 hs=>?_) 0 _ ⟨rfl,.cons rfl (.n2 rfl)⟩
  obtain⟨hst,hs⟩:=hs
  refine zQ _ _ hs hst fun fr3=>?_
  refine k_seq (kQ (zD rfl (zD rfl (ke rfl (ke rfl (ke rfl (ke rfl (ke rfl (kD rfl ?_)))))))))
  refine zA (k_cF rfl rfl ?_)
  refine wK (kQ (zD rfl (zF rfl (zA (yJ ?_)))))
  refine⟨.inr rfl,_,.cons _ _ _ _ (.tmp 2) .nil,?_⟩
  exact .refl _
 |true=>
  rw[hv,if_pos rfl]at q17
  have h:=zBL.1 hv
  have hy:=h.y
  have hk:=h.k
  have hs1:=h.s
  have hf:=h.f
  have hl:=h.l
  have p1:=zHD (orc:=orc) hi z.yrs 1 40
  have p2:=zHD (orc:=orc) hi z.keys.length 1 7
  rw[zBk.2 hy]at p1
  rw[zBk.2 (by omega)]at p2
  refine kQ (yf rfl rfl (zF rfl (zA ?_)))
  refine zQ [(1,U.box 0 0)] ([SB.box [.int .i64 (Zt.yrs z),.lst .ro 7 (kysU (Zt.keys z)),.lst .ro 2 (spsU (Zt.steps z)),.lst .ro 4 (flsU (Zt.files z)),.lst .ro 4 (lksU (Zt.looks z))]]) (.n1 rfl) rfl fun fr=>?_
  refine kQ (kB sh27 rfl (zd rfl (q17) (.lrefl _) (ks rfl (zD rfl (kf rfl (kw rfl wm (kf rfl (kA sh3 rfl (kf rfl (zd rfl (p1) (.lrefl _) (kE rfl ?_)))))))))))
  refine zD rfl ?_
  refine zk [(1,U.box 0 0),(19,.bool true)] [] ([SB.box [.int .i64 (Zt.yrs z),.lst .ro 7 (kysU (Zt.keys z)),.lst .ro 2 (spsU (Zt.steps z)),.lst .ro 4 (flsU (Zt.files z)),.lst .ro 4 (lksU (Zt.looks z))]]) (.n2 rfl) rfl rfl fun fr=>?_
  refine kf rfl ?_
  refine zk [(1,U.box 0 0),(19,.bool true)] [] ([SB.box [.int .i64 (Zt.yrs z),.lst .ro 7 (kysU (Zt.keys z)),.lst .ro 2 (spsU (Zt.steps z)),.lst .ro 4 (flsU (Zt.files z)),.lst .ro 4 (lksU (Zt.looks z))]]) (.n2 rfl) rfl rfl fun fr=>?_
  refine kw rfl yi (kf rfl (kA sh22 rfl (kf rfl (yV rfl ty22 rfl (List.length_map _) ?_))))
  refine kf rfl (zd rfl (p2) (.lrefl _) (kE rfl ?_))
  refine zD rfl (kf rfl (kw rfl zDF (kf rfl (kA sh23 rfl (kf rfl (yV rfl ty23 rfl (List.length_map _) ?_))))))
  refine zk [(1,U.box 0 0),(25,.bool true),(28,.int .i64 ↑(List.length (Zt.steps z)))] [] ([SB.box [.int .i64 (Zt.yrs z),.lst .ro 7 (kysU (Zt.keys z)),.lst .ro 2 (spsU (Zt.steps z)),.lst .ro 4 (flsU (Zt.files z)),.lst .ro 4 (lksU (Zt.looks z))]]) (.n3 rfl) rfl rfl fun fr=>?_
  refine kf rfl ?_
  refine zk [(1,U.box 0 0),(25,.bool true),(28,.int .i64 ↑(List.length (Zt.steps z)))] [] ([SB.box [.int .i64 (Zt.yrs z),.lst .ro 7 (kysU (Zt.keys z)),.lst .ro 2 (spsU (Zt.steps z)),.lst .ro 4 (flsU (Zt.files z)),.lst .ro 4 (lksU (Zt.looks z))]]) (.n3 rfl) rfl rfl fun fr=>?_
  refine kw rfl yi (kf rfl (kA sh22 rfl (kf rfl (yV rfl ty22 rfl (List.length_map _) ?_))))
  refine kf rfl ?_
  refine zDt rfl rfl rfl (by unfold I64;omega) (kf rfl (ks rfl (kE rfl ?_)))
  refine zD rfl (kh rfl (kF (by omega)) ?_)
  refine kw rfl zCV (kh rfl (kF (by omega)) ?_)
  refine kA sh24 rfl ?_
  refine zk [(1,U.box 0 0),(35,U.bool (decide (↑(List.length (Zt.steps z))= ↑(List.length (Zt.keys z)) - (1:Int)))),(37,.lst .ro 4 (flsU (Zt.files z)))] [] ([SB.box [.int .i64 (Zt.yrs z),.lst .ro 7 (kysU (Zt.keys z)),.lst .ro 2 (spsU (Zt.steps z)),.lst .ro 4 (flsU (Zt.files z)),.lst .ro 4 (lksU (Zt.looks z))]]) (.n3 rfl) rfl rfl fun fr=>?_
  refine kh rfl (kF (by omega)) ?_
  refine zk [(1,U.box 0 0),(35,U.bool (decide (↑(List.length (Zt.steps z))= ↑(List.length (Zt.keys z)) - (1:Int)))),(37,.lst .ro 4 (flsU (Zt.files z)))] [] ([SB.box [.int .i64 (Zt.yrs z),.lst .ro 7 (kysU (Zt.keys z)),.lst .ro 2 (spsU (Zt.steps z)),.lst .ro 4 (flsU (Zt.files z)),.lst .ro 4 (lksU (Zt.looks z))]]) (.n3 rfl) rfl rfl fun fr=>?_
  refine yV rfl ty24 rfl (List.length_map _) ?_
  refine kh rfl (kF (by omega)) ?_
  refine kq rfl (wI rfl rfl (kF (by omega)) ?_)
  refine zD rfl (kh rfl (kF (by omega)) ?_)
  refine kw rfl yq (kh rfl (kF (by omega)) ?_)
  refine kA sh25 rfl (kh rfl (kF (by omega)) ?_)
  refine yV rfl ty25 rfl (List.length_map _) ?_
  refine kh rfl (kF (by omega)) ?_
  refine kq rfl (wI rfl rfl (kF (by omega)) ?_)
  refine zk [(1,U.box 0 0),(46,U.bool (decide (↑(List.length (Zt.looks z))≤(12:Int))))] [] ([SB.box [.int .i64 (Zt.yrs z),.lst .ro 7 (kysU (Zt.keys z)),.lst .ro 2 (spsU (Zt.steps z)),.lst .ro 4 (flsU (Zt.files z)),.lst .ro 4 (lksU (Zt.looks z))]]) (.n2 rfl) rfl rfl fun fr=>?_
  refine zF rfl (zA ?_)
  refine zQ [(1,U.box 0 0),(3,U.bool (decide (↑(List.length (Zt.looks z))≤(12:Int))))] ([SB.box [.int .i64 (Zt.yrs z),.lst .ro 7 (kysU (Zt.keys z)),.lst .ro 2 (spsU (Zt.steps z)),.lst .ro 4 (flsU (Zt.files z)),.lst .ro 4 (lksU (Zt.looks z))]]) (.n2 rfl) rfl fun fr=>?_
  refine k_seq (kQ (zF rfl (zA (zS ?_))))
  refine wJ (fun kk s1=>∃i:Nat,kk+i=z.keys.length∧(∃e,s1.st=SB.box z.cs::e)∧Holds s1 [(1,.box 0 0),(3,.bool true),(4,.int .i64 i)]) (fun kk s1 hI=>?_) z.keys.length _ ⟨0,rfl,⟨[],rfl⟩,.cons rfl (.cons (congrArg U.bool (kF (by omega))) (.n1 rfl))⟩
  obtain⟨i,hkk,⟨e,hst⟩,hs⟩:=hI
  by_cases hin:i<z.keys.length
  ·obtain⟨x,hx⟩:∃x,z.keys[i]? =some x:=⟨z.keys[i],List.getElem?_eq_getElem hin⟩
   have a:=h.kk x (List.mem_of_getElem? hx)
   have c0:=ret55 (orc:=orc) hi x.bg.1 x.bg.2 5000 20000
   rw[good_t a.1]at c0
   have c1:=ret55 (orc:=orc) hi x.rt.1 x.rt.2 (-50) 50
   rw[good_t a.2.1]at c1
   have c2:=zHD (orc:=orc) hi x.dn 0 1000
   rw[zBk.2 a.2.2.1]at c2
   have c3:=zHD (orc:=orc) hi x.up 0 1000
   rw[zBk.2 a.2.2.2]at c3
   generalize hY:SB.box z.cs::e=Y at hst
   have y0:Y[0]? =some (.box z.cs):=by rw[←hY];rfl
   refine zQ _ _ hs hst fun fr=>?_
   refine k_seq (kQ (zD rfl (zD rfl (kf rfl (zD rfl (kf rfl (kw rfl yi (kf rfl (zP rfl rfl y0 sh22 rfl ?_)))))))))
   refine kf rfl (yV rfl ty22 rfl (List.length_map _) ?_)
   refine kf rfl (kp rfl (kE rfl ?_))
   refine zA (k_cT rfl (kF (by omega)) (zr (k_seq (zS (kQ (kw rfl yi (zP rfl rfl y0 sh22 rfl ?_)))))))
   refine zD rfl (zBE (u:=(x).u) rfl ty22 rfl rfl (Int.natCast_nonneg _) (by simp[hx]) cl62 ?_)
   refine ya rfl rfl sh62 rfl ?_
   refine yF rfl ze62 ?_
   refine zU rfl (zh _ _) sh62 rfl rfl rfl rfl rfl ?_
   refine zA (k_region (kw rfl fld62_0 (zx rfl rfl (zAH _ _ _) sh35 rfl ?_)))
   refine zd rfl (c0) (.lrefl _) (zD rfl (kf rfl (kw rfl fld62_1 (kf rfl (zx rfl rfl (zAH _ _ _) sh35 rfl ?_)))))
   refine kf rfl (zd rfl (c1) (.lrefl _) (kE rfl ?_))
   refine zD rfl (kf rfl (kw rfl fld62_3 (kf rfl (zP rfl rfl (zAH _ _ _) sh3 rfl ?_))))
   refine kf rfl (zd rfl (c2) (.lrefl _) (kE rfl ?_))
   refine zD rfl (kf rfl (kw rfl fld62_4 (kf rfl (zP rfl rfl (zAH _ _ _) sh3 rfl ?_))))
   refine kf rfl (zd rfl (c3) (.lrefl _) (kE rfl ?_))
   refine zF rfl (zA (k_region (zD rfl ?_)))
   refine kz rfl (by unfold I64;omega) (zF rfl (zA ?_))
   exact⟨kk - 1,by omega,i+1,by omega,(by rw[←hY];exact⟨_,rfl⟩),.cons rfl (.n2 rfl)⟩
  ·obtain rfl:i=z.keys.length:=by omega
   refine zQ _ _ hs hst fun fr=>?_
   refine k_seq (kQ (zD rfl (zD rfl (kf rfl (zD rfl (kf rfl (kw rfl yi (kf rfl (kA sh22 rfl (kf rfl (yV rfl ty22 rfl (List.length_map _) ?_)))))))))))
   refine kf rfl (kp rfl (kE rfl ?_))
   refine zA (k_cF rfl (kG (by omega)) (wK (k_seq (kQ (zF rfl (zA (zS ?_)))))))
   refine wJ (fun kk s1=>∃i:Nat,kk+i=z.steps.length∧(∃e,s1.st=SB.box z.cs::e)∧Holds s1 [(1,.box 0 0),(3,.bool true),(6,.int .i64 i)]) (fun kk s1 hI=>?_) z.steps.length _ ⟨0,rfl,⟨e,rfl⟩,.cons rfl (.n2 rfl)⟩
   obtain⟨i,hkk,⟨e,hst⟩,hs⟩:=hI
   by_cases hin:i<z.steps.length
   ·obtain⟨x,hx⟩:∃x,z.steps[i]? =some x:=⟨z.steps[i],List.getElem?_eq_getElem hin⟩
    have a:=h.ss x (List.mem_of_getElem? hx)
    have c0:=ret55 (orc:=orc) hi x.1 x.2 0 30000
    rw[good_t a]at c0
    have hxu:(spsU z.steps)[i]? =some (spU x):=by rw[List.getElem?_map,hx];rfl
    generalize hY:SB.box z.cs::e=Y at hst
    have y0:Y[0]? =some (.box z.cs):=by rw[←hY];rfl
    refine zQ _ _ hs hst fun fr=>?_
    refine k_seq (kQ (zD rfl (zD rfl (kf rfl (zD rfl (kf rfl (kw rfl zDF (kf rfl (zP rfl rfl y0 sh23 rfl ?_)))))))))
    refine kf rfl (yV rfl ty23 rfl (List.length_map _) ?_)
    refine kf rfl (kp rfl (kE rfl ?_))
    refine zA (k_cT rfl (kF (by omega)) (zr (k_seq (zS (k_region (kw rfl zDF (zP rfl rfl y0 sh23 rfl ?_)))))))
    refine zD rfl (zBE (u:=spU x) rfl ty23 rfl rfl (Int.natCast_nonneg _) hxu cl35 ?_)
    refine ya rfl rfl sh35 rfl ?_
    refine zd rfl (c0) (.lrefl _) (zF rfl (zA (k_region (zD rfl ?_))))
    refine kz rfl (by unfold I64;omega) (zF rfl (zA ?_))
    exact⟨kk - 1,by omega,i+1,by omega,(by rw[←hY];exact⟨_,rfl⟩),.cons rfl (.n2 rfl)⟩
   ·obtain rfl:i=z.steps.length:=by omega
    refine zQ _ _ hs hst fun fr=>?_
    refine k_seq (kQ (zD rfl (zD rfl (kf rfl (zD rfl (kf rfl (kw rfl zDF (kf rfl (kA sh23 rfl (kf rfl (yV rfl ty23 rfl (List.length_map _) ?_)))))))))))
    refine kf rfl (kp rfl (kE rfl ?_))
    refine zA (k_cF rfl (kG (by omega)) (wK (k_seq (kQ (zF rfl (zA (zS ?_)))))))
    refine wJ (fun kk s1=>∃i:Nat,kk+i=z.files.length∧(∃e,s1.st=SB.box z.cs::e)∧Holds s1 [(1,.box 0 0),(3,.bool true),(7,.int .i64 i)]) (fun kk s1 hI=>?_) z.files.length _ ⟨0,rfl,⟨e,rfl⟩,.cons rfl (.n2 rfl)⟩
    obtain⟨i,hkk,⟨e,hst⟩,hs⟩:=hI
    by_cases hin:i<z.files.length
    ·obtain⟨x,hx⟩:∃x,z.files[i]? =some x:=⟨z.files[i],List.getElem?_eq_getElem hin⟩
     have a:=h.ff x (List.mem_of_getElem? hx)
     have c0:=zHD (orc:=orc) hi x.yr 0 (z.yrs - 1)
     rw[zBk.2 a.1]at c0
     have c1:=zHD (orc:=orc) hi x.ky 0 ((z.keys.length:Int) - 1)
     rw[zBk.2 a.2.1]at c1
     have c2:=ret55 (orc:=orc) hi x.bs.1 x.bs.2 (-200) 200
     rw[good_t a.2.2]at c2
     generalize hY:SB.box z.cs::e=Y at hst
     have y0:Y[0]? =some (.box z.cs):=by rw[←hY];rfl
     refine zQ _ _ hs hst fun fr=>?_
     refine k_seq (kQ (zD rfl (zD rfl (kf rfl (zD rfl (kf rfl (kw rfl zCV (kf rfl (zP rfl rfl y0 sh24 rfl ?_)))))))))
     refine kf rfl (yV rfl ty24 rfl (List.length_map _) ?_)
     refine kf rfl (kp rfl (kE rfl ?_))
     refine zA (k_cT rfl (kF (by omega)) (zr (k_seq (zS (kQ (kw rfl zCV (zP rfl rfl y0 sh24 rfl ?_)))))))
     refine zD rfl (zBE (u:=(x).u) rfl ty24 rfl rfl (Int.natCast_nonneg _) (by simp[hx]) cl64 ?_)
     refine ya rfl rfl sh64 rfl ?_
     refine yF rfl ze64 ?_
     refine zU rfl (zh _ _) sh64 rfl rfl rfl rfl rfl ?_
     refine zA (k_region (kw rfl fld64_0 (zP rfl rfl (zAH _ _ _) sh3 rfl ?_)))
     refine kw rfl wm (zP rfl rfl (at_ps y0) sh3 rfl ?_)
     refine zDt rfl rfl rfl (by unfold I64;omega) (zd rfl (c0) (.lrefl _) (zD rfl (kf rfl (kw rfl fld64_1 (kf rfl (zP rfl rfl (zAH _ _ _) sh3 rfl ?_))))))
     refine kf rfl (kw rfl yi (kf rfl (zP rfl rfl (at_ps y0) sh22 rfl ?_)))
     refine kf rfl (yV rfl ty22 rfl (List.length_map _) ?_)
     refine kf rfl ?_
     refine zDt rfl rfl rfl (by unfold I64;omega) (kf rfl (zd rfl (c1) (.lrefl _) (kE rfl ?_)))
     refine zD rfl (kf rfl (kw rfl fld64_2 (kf rfl (zx rfl rfl (zAH _ _ _) sh35 rfl ?_))))
     refine kf rfl (zd rfl (c2) (.lrefl _) (kE rfl ?_))
     refine zF rfl (zA (k_region (zD rfl ?_)))
     refine kz rfl (by unfold I64;omega) (zF rfl (zA ?_))
     exact⟨kk - 1,by omega,i+1,by omega,(by rw[←hY];exact⟨_,rfl⟩),.cons rfl (.n2 rfl)⟩
    ·obtain rfl:i=z.files.length:=by omega
     refine zQ _ _ hs hst fun fr=>?_
     refine k_seq (kQ (zD rfl (zD rfl (kf rfl (zD rfl (kf rfl (kw rfl zCV (kf rfl (kA sh24 rfl (kf rfl (yV rfl ty24 rfl (List.length_map _) ?_)))))))))))
     refine kf rfl (kp rfl (kE rfl ?_))
     refine zA (k_cF rfl (kG (by omega)) (wK (k_seq (kQ (zF rfl (zA (zS ?_)))))))
     refine wJ (fun kk s1=>∃i:Nat,kk+i=z.looks.length∧(∃e,s1.st=SB.box z.cs::e)∧Holds s1 [(1,.box 0 0),(3,.bool true),(9,.int .i64 i)]) (fun kk s1 hI=>?_) z.looks.length _ ⟨0,rfl,⟨e,rfl⟩,.cons rfl (.n2 rfl)⟩
     obtain⟨i,hkk,⟨e,hst⟩,hs⟩:=hI
     by_cases hin:i<z.looks.length
     ·obtain⟨x,hx⟩:∃x,z.looks[i]? =some x:=⟨z.looks[i],List.getElem?_eq_getElem hin⟩
      have a:=h.ll x (List.mem_of_getElem? hx)
      have c0:=zHD (orc:=orc) hi x.yr 0 z.yrs
      rw[zBk.2 a.1]at c0
      have c1:=zHD (orc:=orc) hi x.ky 0 ((z.keys.length:Int) - 1)
      rw[zBk.2 a.2.1]at c1
      have c2:=zHD (orc:=orc) hi x.rd 0 30000
      rw[zBk.2 a.2.2.1]at c2
      have c3:=zHD (orc:=orc) hi x.er 0 500
      rw[zBk.2 a.2.2.2]at c3
      generalize hY:SB.box z.cs::e=Y at hst
      have y0:Y[0]? =some (.box z.cs):=by rw[←hY];rfl
      refine zQ _ _ hs hst fun fr=>?_
      refine k_seq (kQ (zD rfl (zD rfl (kf rfl (zD rfl (kf rfl (kw rfl yq (kf rfl (zP rfl rfl y0 sh25 rfl ?_)))))))))
      refine kf rfl (yV rfl ty25 rfl (List.length_map _) ?_)
      refine kf rfl (kp rfl (kE rfl ?_))
      refine zA (k_cT rfl (kF (by omega)) (zr (k_seq (zS (kQ (kw rfl yq (zP rfl rfl y0 sh25 rfl ?_)))))))
      refine zD rfl (zBE (u:=(x).u) rfl ty25 rfl rfl (Int.natCast_nonneg _) (by simp[hx]) cl68 ?_)
      refine ya rfl rfl sh68 rfl ?_
      refine yF rfl ze68 ?_
      refine zU rfl (zh _ _) sh68 rfl rfl rfl rfl rfl ?_
      refine zA (k_region (kw rfl fld68_0 (zP rfl rfl (zAH _ _ _) sh3 rfl ?_)))
      refine kw rfl wm (zP rfl rfl (at_ps y0) sh3 rfl ?_)
      refine zd rfl (c0) (.lrefl _) (zD rfl (kf rfl (kw rfl zEt (kf rfl (zP rfl rfl (zAH _ _ _) sh3 rfl ?_)))))
      refine kf rfl (kw rfl yi (kf rfl (zP rfl rfl (at_ps y0) sh22 rfl ?_)))
      refine kf rfl (yV rfl ty22 rfl (List.length_map _) ?_)
      refine kf rfl ?_
      refine zDt rfl rfl rfl (by unfold I64;omega) (kf rfl (zd rfl (c1) (.lrefl _) (kE rfl ?_)))
      refine zD rfl (kf rfl (kw rfl fld68_2 (kf rfl (zP rfl rfl (zAH _ _ _) sh3 rfl ?_))))
      refine kf rfl (zd rfl (c2) (.lrefl _) (kE rfl ?_))
      refine zD rfl (kf rfl (kw rfl fld68_3 (kf rfl (zP rfl rfl (zAH _ _ _) sh3 rfl ?_))))
      refine kf rfl (zd rfl (c3) (.lrefl _) (kE rfl ?_))
      refine zF rfl (zA (k_region (zD rfl ?_)))
      refine kz rfl (by unfold I64;omega) (zF rfl (zA ?_))
      exact⟨kk - 1,by omega,i+1,by omega,(by rw[←hY];exact⟨_,rfl⟩),.cons rfl (.n2 rfl)⟩
     ·obtain rfl:i=z.looks.length:=by omega
      refine zQ _ _ hs hst fun fr=>?_
      refine k_seq (kQ (zD rfl (zD rfl (kf rfl (zD rfl (kf rfl (kw rfl yq (kf rfl (kA sh25 rfl (kf rfl (yV rfl ty25 rfl (List.length_map _) ?_)))))))))))
      refine kf rfl (kp rfl (kE rfl ?_))
      refine zA (k_cF rfl (kG (by omega)) (wK (kQ (zD rfl (zF rfl (zA (yJ ?_)))))))
      refine⟨.inr rfl,_,.cons _ _ _ _ (.tmp 2) .nil,?_⟩
      exact .refl _
end
section
section app
variable {Pr:Prt}{φ:BMap}{S:SMap}{s:St}{tm:TT}{H:CH}{P:Program}{is:FuncId→Bool}{orc:Known}{all:List Oper}{d:Nat}{x y:Operand}{t1 t2 t el:TypeId}{p:String}{e:Array Edge}{Q:St→Prop}{z zy c bb:Nat}{ky:Kd}{zv:V}
theorem append0_run{K:CH}(hK:∀b m,S b=some m→zBr (K.get b) m){v w:V}(hv:VU φ S v (.lst .full z []))(hw:VU φ S w (.lst ky zy []))
  (hc:P.cellsOf el=c) (h0:0<c) (hz:z=c∨z=0) (hzy:zy=c∨zy=0):yx P el K v w=.ok v K:=by
 obtain⟨nm,n1,n2,n3⟩:=zHb hK hw (c:=c) hzy
 have hnm:nm=[]:=by
  have:=n2.len
  exact List.eq_nil_of_length_eq_zero this
 subst hnm
 have hrun:yx P el K v w=yZ .no (zBA P K el c 0 (zE [])) (yU P K el c 0 (zE [])) v:=by
  unfold yx
  rw[zCE hw,zCE hv]
  show Vam.cond (Nat.ble ((0+0)*(P.bytesOf el+P.cellsOf el)) zAj) _ _=_
  rw[hc,Nat.add_zero,Nat.zero_mul]
  obtain⟨c1,rfl⟩:∃c1,c=c1+1:=⟨c - 1,by omega⟩
  show opt R.no (fun new=>yZ .no (zBA P K el (Nat.succ c1) 0 new) (yU P K el (Nat.succ c1) 0 new) v) (firstCells K (Nat.succ c1) 0 w)=_
  rw[show firstCells K (Nat.succ c1) 0 w=some (zE [])from n1];rfl
 rw[hrun]
 rcases zDE hv with ⟨_,h1|⟨hz0,cc0,hcc,h1⟩⟩|⟨b,off,cc,m,l1,l2,h1,h2,h3,h4,h5,h6,h7⟩
 ·rw[h1];rfl
 ·have hzc':z=c:=by rcases hz with h|h<;>omega
  subst hzc'
  rw[h1]
  show Vam.cond (Nat.beq z z) (Vam.cond (Nat.ble 0 (capN cc0)) (R.ok (.slice .over 0 0 cc0 z) K) _) R.no=_
  rw[Nat.beq_refl,show Nat.ble 0 (capN cc0)=true by rw[Nat.ble_eq];omega];rfl
 ·have hzc':z=c:=by rcases hz with h|h<;>omega
  subst hzc'
  rw[h1]
  show Vam.cond (Nat.beq z z) (Vam.cond (Nat.ble 0 (capN cc)) (R.ok (.slice b off 0 cc z) K) _) R.no=_
  rw[Nat.beq_refl,show Nat.ble 0 (capN cc)=true by rw[Nat.ble_eq];omega];rfl
theorem d_appendQ0{l:List (Oper×M0)}(hd:Nat.blt d 1024=true)(hT:AppT P t1 t2 el c bb zv)(hx:zO s x=.lst .full z [])(hy:zO s y=.lst ky zy [])(hz:z=c∨z=0)(hzy:zy=c∨zy=0)(k:WpD P is orc all l (s.put d (.lst .full z [])) Q):
  WpD P is orc all ((⟨some d,.call ⟨.builtin .append, #[x,y], #[t1,t2]⟩,t,p,e,none⟩,.quiet)::l) s Q:=by
 intro Pr φ S tm H m0 hm hp hs
 cases hm with
 |quiet _ _ m hm=>
  have e0:pend ((⟨some d,.call ⟨.builtin .append, #[x,y], #[t1,t2]⟩,t,p,e,none⟩,Md.quiet)::m)=pend m:=rfl
  rw[e0]at hp hs
  have hxr:=zI hs x
  rw[hx]at hxr
  have hyr:=zI hs y
  rw[hy]at hyr
  have r1:=append0_run (P:=P) (el:=el) (K:=H.freeze) (fun b m h=>by rw[zAe];exact(hs.mem b m h).2.2.2) hxr hyr hT.hc hT.h0 hz hzy
  refine zCh ⟨0,fun n hn=>?_⟩ φ.le_refl S.le_refl (Kept.refl _ _) hm hp (hs.put' (by rw[Nat.blt_eq]at hd;exact hd) hxr rfl) k
  show wB (some d) tm (zGz H.fz (wF P [t1,t2] H.freeze (zG tm x) (zG tm y)))=_
  unfold wF
  obtain⟨e2,h2⟩:=hT.h2
  simp only[hT.h1,h2]
  rw[r1];rfl
end app
end
end Go.Proofs.YtpckmojdekdbbaaGreat.settles
