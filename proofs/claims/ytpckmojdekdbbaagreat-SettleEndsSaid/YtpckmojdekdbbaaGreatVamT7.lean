import Derived.Test.YtpckmojdekdbbaaGreatVamT6
set_option linter.unusedVariables false
set_option linter.unusedSimpArgs false
set_option linter.constructorNameAsVariable false
namespace Go.Proofs.YtpckmojdekdbbaaGreat.settles
open Vam
section
variable {is:FuncId→Bool}{orc:Known}{z:Zt}
theorem sh123:shOf Tryz.prog 123=.many 8:=by kernel_rfl
noncomputable def b85:Code:=(Tryz.f85.body).getD .skip
theorem body85:bodyOf Tryz.prog 85=some (11,b85,[.cell 4 92]):=by kernel_rfl
theorem pure85:pureFn Tryz.prog 85=false:=by kernel_rfl
noncomputable def b52:Code:=(Tryz.f52.body).getD .skip
theorem body52:bodyOf Tryz.prog 52=some (18,b52,[.cell 4 83,.tmp 5]):=by kernel_rfl
theorem pure52:pureFn Tryz.prog 52=false:=by kernel_rfl
theorem zDw:zc Tryz.prog 90 0=some (0,3):=by kernel_rfl
theorem fld90_1:zc Tryz.prog 90 1=some (1,3):=by kernel_rfl
noncomputable def b57:Code:=(Tryz.f57.body).getD .skip
theorem body57:bodyOf Tryz.prog 57=some (28,b57,[.tmp 4]):=by kernel_rfl
theorem pure57:pureFn Tryz.prog 57=true:=by kernel_rfl
theorem by92:Program.bytesOf Tryz.prog 92=656:=by kernel_rfl
theorem cl92:Program.cellsOf Tryz.prog 92=82:=by kernel_rfl
theorem zDx:zc Tryz.prog 83 2=some (6,81):=by kernel_rfl
theorem pl123:zHN Tryz.prog 123=some [(0,7),(7,1)]:=by kernel_rfl
theorem sh81:shOf Tryz.prog 81=.one:=by kernel_rfl
theorem ty81:tyOf Tryz.prog 81=.slice 92:=by kernel_rfl
theorem ze123:yf Tryz.prog 123=some ((.cons (.int .i64 0) (.cons .nils (.cons .nils (.cons .nils (.cons .nils (.cons .nilm (.cons .nils (.cons (.int .i64 0) .nil)))))))):V):=by kernel_rfl
theorem ap81_81:AppT Tryz.prog 81 81 92 82 656 ((.cons (.int .i64 0) (.cons (.int .i64 0) (.cons (.int .i64 0) (.cons (.int .i64 0) (.cons (.int .i64 0) (.cons (.int .i64 0) (.cons (.int .i64 0) (.cons (.int .i64 0) (.cons (.int .i64 0) (.cons (.int .i64 0) (.cons (.int .i64 0) (.cons (.int .i64 0) (.cons (.int .i64 0) (.cons (.int .i64 0) (.cons (.int .i64 0) (.cons (.int .i64 0) (.cons (.int .i64 0) (.cons (.int .i64 0) (.cons (.int .i64 0) (.cons (.int .i64 0) (.cons (.int .i64 0) (.cons (.int .i64 0) (.cons (.int .i64 0) (.cons (.int .i64 0) (.cons (.int .i64 0) (.cons (.int .i64 0) (.cons (.int .i64 0) (.cons (.int .i64 0) (.cons (.int .i64 0) (.cons (.int .i64 0) (.cons (.int .i64 0) (.cons (.int .i64 0) (.cons (.int .i64 0) (.cons (.int .i64 0) (.cons (.int .i64 0) (.cons (.int .i64 0) (.cons (.int .i64 0) (.cons (.int .i64 0) (.cons (.int .i64 0) (.cons (.int .i64 0) (.cons (.int .i64 0) (.cons (.int .i64 0) (.cons (.int .i64 0) (.cons (.int .i64 0) (.cons (.int .i64 0) (.cons (.int .i64 0) (.cons (.int .i64 0) (.cons (.int .i64 0) (.cons (.int .i64 0) (.cons (.int .i64 0) (.cons (.int .i64 0) (.cons (.int .i64 0) (.cons (.int .i64 0) (.cons (.int .i64 0) (.cons (.int .i64 0) (.cons (.int .i64 0) (.cons (.int .i64 0) (.cons (.int .i64 0) (.cons (.int .i64 0) (.cons (.int .i64 0) (.cons (.int .i64 0) (.cons (.int .i64 0) (.cons (.int .i64 0) (.cons (.int .i64 0) (.cons (.int .i64 0) (.cons (.int .i64 0) (.cons (.int .i64 0) (.cons (.int .i64 0) (.cons (.int .i64 0) (.cons (.int .i64 0) (.cons (.int .i64 0) (.cons (.int .i64 0) (.cons (.int .i64 0) (.cons (.int .i64 0) (.cons (.int .i64 0) (.cons (.int .i64 0) (.cons (.int .i64 0) (.cons (.int .i64 0) (.cons (.int .i64 0) (.cons (.int .i64 0) (.cons (.int .i64 0) (.cons (.int .i64 0) .nil)))))))))))))))))))))))))))))))))))))))))))))))))))))))))))))))))))))))))))))))))):V):=⟨ty81,⟨_,ty81⟩,cl92,by decide,by92,ze92,rfl⟩
noncomputable def b56:Code:=(Tryz.f56.body).getD .skip
theorem body56:bodyOf Tryz.prog 56=some (46,b56,[.cell 4 83,.tmp 5]):=by kernel_rfl
theorem pure56:pureFn Tryz.prog 56=false:=by kernel_rfl
theorem forth_congr{n:Nat}{S T T':Nat→Sp}(h:∀i,i<n→T i=T' i):zr n S T=zr n S T':=by
 funext i
 by_cases hi:i≤n
 ·induction i with
  |zero=>rw[zCH,zCH]
  |succ i ih=>rw[zBQ _ _ (by omega),zBQ _ _ (by omega),ih (by omega),h i (by omega)]
 ·rw[zEc _ _ (by omega),zEc _ _ (by omega)]
theorem back_congr{n:Nat}{S T T':Nat→Sp}(h:∀i,i<n→T i=T' i):zBO n S T=zBO n S T':=by
 funext i
 by_cases hi:i≤n
 ·obtain⟨k,hk⟩:∃k,i+k=n:=⟨n - i,by omega⟩
  induction k generalizing i with
  |zero=>
   obtain rfl:i=n:=hk
   rw[zBY,zBY]
  |succ k ih=>rw[zBX S T (show i<n by omega),zBX S T' (show i<n by omega),ih (i+1) (by omega) (by omega),h i (by omega)]
 ·rw[zGG _ _ (by omega),zGG _ _ (by omega)]
theorem setl_congr{n:Nat}{S T T':Nat→Sp}(h:∀i,i<n→T i=T' i):yP n S T=yP n S T':=by
 unfold yP;rw[forth_congr h,back_congr h]
abbrev wasU(l:List (Nat→Sp)):List U:=l.map fun F=>.agg (arrC F)
theorem zDz(kd:Kd)(hk:kd≠.own)(l:List (Nat→Sp))(k:Nat):Dat (k+2) (.lst kd 82 (wasU l)):=by
 refine .lst _ kd _ _ hk fun c hc=>?_
 obtain⟨e,he,hc⟩:=List.mem_flatMap.1 hc
 obtain⟨x,_,rfl⟩:=List.mem_map.1 he
 obtain⟨n,rfl⟩:=zCd hc
 exact .int _ _ _
theorem rep_bd(n:Nat):∀x∈List.replicate n SB.dead,BdS (List.replicate n SB.dead).length x:=fun x hx=>by
 obtain rfl:=List.eq_of_mem_replicate hx
 trivial
theorem nb_crs(z:Zt)(k:Int):NB (.agg (crsC z .junk .junk k)):=NB.agg fun c hc=>by
 simp only[List.mem_cons,List.not_mem_nil,or_false]at hc
 rcases hc with rfl|rfl|rfl|rfl|rfl|rfl|rfl|rfl
 ·exact NB.int _ _
 ·exact(zEB _ 3).nb
 ·exact(zBD _ 3).nb
 ·exact(zEC _ 3).nb
 ·exact(zEA _ 3).nb
 ·exact NB.junk
 ·exact NB.junk
 ·exact NB.int _ _
theorem zAv(z:Nat):NB (.lst .full z []):=(Dat.lst 0 .full z [] (fun h=>by cases h) fun c hc=>by cases hc).nb
theorem zGT(z:Zt){m n:Nat}(hm:m<n){w:U}(hw:Bd n w):∀c∈setC z (.mp m) w,Bd n c:=fun c hc=>by
 simp only[List.mem_cons,List.not_mem_nil,or_false]at hc
 rcases hc with rfl|rfl|rfl|rfl|rfl|rfl|rfl
 ·exact Bd.int _ _ _
 ·exact(zEB _ 3).bd _
 ·exact(zBD _ 3).bd _
 ·exact(zEC _ 3).bd _
 ·exact(zEA _ 3).bd _
 ·exact Bd.mp hm
 ·exact hw
theorem crs_bd(z:Zt){m n:Nat}(hm:m<n){w:U}(hw:Bd n w)(k:Int):BdS n (.box (crsC z (.mp m) w k)):=fun c hc=>by
 have hc:c∈setC z (.mp m) w++[.int .i64 k]:=hc
 rcases List.mem_append.1 hc with hc|hc
 ·exact zGT z hm hw c hc
 ·rcases List.mem_singleton.1 hc with rfl;exact Bd.int _ _ _
theorem le_crs(z:Zt)(m w:U)(k:Int)(l:List U):UW (.l (.agg (crsC z m w k)::l)) (.l (.agg (crsC z .junk .junk k)::l)):=
 .lcons _ _ _ _ (.agg _ _ (.lcons _ _ _ _ (.refl _) (.lcons _ _ _ _ (.refl _) (.lcons _ _ _ _ (.refl _) (.lcons _ _ _ _ (.refl _) (.lcons _ _ _ _ (.refl _) (.lcons _ _ _ _ (.junk _) (.lcons _ _ _ _ (.junk _) (.lrefl _))))))))) (.lrefl _)
set_option maxHeartbeats 16000000 in
theorem wpc85(hi:Off is)(h:ZOk z){k:Nat}(hk:k<z.keys.length){m:Nat}{es:List (U×U)}(hm:MapOk es z.files){w:List (Nat→Sp)}{st:List SB}(hst0:st[m]? =some (.map es))(hb:∀x∈st,BdS st.length x):WpC Tryz.prog is orc 85 [.agg (crsC z (.mp m) (.lst .ro 82 (wasU w)) k),.lst .full 0 []] st fun u st'=>u=.agg (arrC (pitS z k))∧st'=st:=by
 refine zDk body85 pure85 rfl rfl ?_
 have hy:=h.y
 have hml:=(List.getElem?_eq_some_iff.1 hst0).1
 obtain⟨L,hL⟩:∃L,L=(List.range z.yrs.toNat).map (grwS z k):=⟨_,rfl⟩
 have hLl:L.length=z.yrs.toNat:=by rw[hL];simp
 have hLT:∀i,i<z.yrs.toNat→zh L i=grwS z k i:=fun i hi=>by
  unfold zh;rw[hL,List.getElem?_map,List.getElem?_range hi];rfl
 have hok:StOk L:=⟨by omega,fun x hx=>by
  rw[hL]at hx
  obtain⟨i,_,rfl⟩:=List.mem_map.1 hx
  have:=grw_top h hk i
  omega⟩
 have q107:=ret107 (orc:=orc) hi (begS z k) L hok (by rw[hLl];intro i hi;rw[hLT i hi];exact(grw_ok h hk i).1) (by rw[hLl];exact zCc (beg_bnd h hk) (by decide))
 rw[hLl,setl_congr hLT]at q107
 have q107:RetP Tryz.prog is orc 107 [.agg (arrC (begS z k)),.lst .ro 2 (spsU L)] (.agg (arrC (pitS z k))):=q107
 refine kQ (ya rfl rfl (zAQ rfl ze92 zAL ?_))
 refine zA ?_
 refine zL [(1,.lst .full 0 []),(2,U.box (List.length st) 0),(4,U.box (List.length (st++[SB.box [.int .i64 (Zt.yrs z),.lst .ro 7 (kysU (Zt.keys z)),.lst .ro 2 (spsU (Zt.steps z)),.lst .ro 4 (flsU (Zt.files z)),.lst .ro 4 (lksU (Zt.looks z)),U.mp m,.lst .ro 82 (wasU w),.int .i64 ↑k]])) 0)] (st++[SB.box [.int .i64 (Zt.yrs z),.lst .ro 7 (kysU (Zt.keys z)),.lst .ro 2 (spsU (Zt.steps z)),.lst .ro 4 (flsU (Zt.files z)),.lst .ro 4 (lksU (Zt.looks z)),U.mp m,.lst .ro 82 (wasU w),.int .i64 ↑k]]++[SB.box (arrC wc)]) (.n3 rfl) rfl fun fr=>?_
 obtain⟨Y,hY⟩:∃Y,Y=st++[SB.box (crsC z (.mp m) (.lst .ro 82 (wasU w)) k),.box (arrC wc)]:=⟨_,rfl⟩
 have hYl:Y.length=st.length+2:=by rw[hY];simp
 have yA:Y[st.length]? =some (.box (crsC z (.mp m) (.lst .ro 82 (wasU w)) k)):=by rw[hY];exact zAb (j:=0) rfl
 have yB:Y[st.length+1]? =some (.box (arrC wc)):=by rw[hY];exact zAb (j:=1) rfl
 have yM:Y[m]? =some (.map es):=by rw[hY];exact zn hst0
 have hYb:∀x∈Y,BdS Y.length x:=fun x hx=>by
  rw[hY]at hx
  rw[hYl]
  rcases List.mem_append.1 hx with hx|hx
  ·exact BdS.mono (hb x hx) (by omega)
  ·simp only[List.mem_cons,List.not_mem_nil,or_false]at hx
   rcases hx with rfl|rfl
   ·exact crs_bd z (by omega) ((zDz .ro (fun h=>by cases h) w 0).bd _) _
   ·exact zFX _ _
 refine zL [(1,.lst .full 0 []),(2,.box st.length 0),(4,.box (st.length+1) 0)] Y (.cons rfl (.cons rfl (.cons (by show U.box _ 0=_;simp) (.nil rfl)))) (by show(st++[_])++[_]=_;rw[hY];simp) fun fr=>?_
 have w104:WpC Tryz.prog is orc 104 [.agg (crsC z .junk .junk k),.lst .full 0 []] (List.replicate (st.length+2) .dead) fun u st'=>∃new,st'=List.replicate (st.length+2) .dead++new∧Fwd (st.length+2) u∧(∀x∈new,FwdS (st.length+2) x)∧(u=.agg (arrC (begS z k))∧new=[]):=
  (wpc104 hi h hk (rep_bd _)).mono fun u st' hM=>by
   obtain⟨rfl,rfl⟩:=hM
   exact⟨[],by rw[List.append_nil],(zBE _ 0).nb.fwd _,(fun x hx=>by cases hx),rfl,rfl⟩
 have hnb:∀u∈[U.agg (crsC z .junk .junk k),.lst .full 0 []],NB u:=fun u hu=>by
  simp only[List.mem_cons,List.not_mem_nil,or_false]at hu
  rcases hu with rfl|rfl
  ·exact nb_crs _ _
  ·exact zAv _
 have w105:=wpc105 (orc:=orc) hi h hk hm (w:=wasU w) (.inl yM) hYb
 rw[←hL]at w105
 refine k_seq (wM [.read true,.plain,.quiet,.read true,.plain,.plain,.plain] (by kernel_rfl) (by kernel_rfl) (by kernel_rfl) ?_)
 refine zJ rfl (zg rfl rfl yA sh123 rfl (zA rfl)) ?_
 refine zC (zD rfl (zA rfl)) ?_
 refine zGF (n:=st.length+2) hYl rfl hnb w104 (le_crs z _ _ _ _) (fun u new hM=>?_)
 obtain⟨rfl,rfl⟩:=hM
 refine zp [(2,.box st.length 0),(4,.box (st.length+1) 0),(7,.agg (arrC (begS z k)))] [] Y (.n3 rfl) (by show Y++[]=Y;rw[List.append_nil]) rfl fun fr2=>?_
 refine zJ rfl (zg rfl rfl yA sh123 rfl (zA rfl)) ?_
 refine d_callWE rfl w105 (.lrefl _) (fun u Y2 hM=>?_)
 obtain⟨rfl,rfl⟩:=hM
 refine zC (zY rfl (q107) (.lcons _ _ _ _ (.refl _) (.lcons _ _ _ _ (.ro _ _ _) (.lrefl _))) (zA rfl)) ?_
 refine zC (zEu (F:=pitS z k) (G:=wc) rfl yB sh92 rfl (zA rfl)) ?_
 refine zAK ?_
 refine zw ?_
 have hlen:(Y2.set (st.length+1) (.box (arrC (pitS z k)))).take st.length=st:=by
  rw[List.take_set_of_le (by omega),hY,zBH rfl]
 refine⟨.inr rfl,_,.cons _ _ _ _ (.cellN 4 92 _ _ _ _ rfl (zFi yB) sh92 rfl) .nil,.agg (arrC (pitS z k)),.refl _,(zBE _ 0).bd _,?_,?_,rfl,?_⟩
 ·show st.length≤(Y2.set _ _).length
  rw[List.length_set,hYl];omega
 ·show ∀x∈(Y2.set (st.length+1) (.box (arrC (pitS z k)))).take st.length,_
  rw[hlen];exact hb
 ·exact hlen
end
section
variable {is:FuncId→Bool}{orc:Known}{z:Zt}
theorem ret57(hi:Off is)(z:Zt)(k y:Int):RetP Tryz.prog is orc 57 [z.u,yQ k y] (.bool (decide (0≤k)&&(decide (k<z.keys.length)&&(decide (0≤y)&&decide (y≤z.yrs))))):=by
 refine yp body57 pure57 (hi 57 (by decide)) rfl rfl (wQ (zFh z 5) (yO _ _ 6)) (.inl (.bool _ _)) ?_
 by_cases c1:0≤k
 ·rw[kF c1,Bool.true_and]
  by_cases c2:k<z.keys.length
  ·rw[kF c2,Bool.true_and]
   by_cases c3:0≤y
   ·rw[kF c3,Bool.true_and]
    refine kQ (ya rfl rfl (ya rfl rfl (zE rfl (zA ?_))))
    refine zL [(2,U.box 0 0),(3,U.box 1 0)] ([SB.box [.int .i64 (Zt.yrs z),.lst .ro 7 (kysU (Zt.keys z)),.lst .ro 2 (spsU (Zt.steps z)),.lst .ro 4 (flsU (Zt.files z)),.lst .ro 4 (lksU (Zt.looks z))],SB.box [.int .i64 k,.int .i64 y]]) (.n2 rfl) rfl fun fr=>?_
    refine kQ (kw rfl zDw (kA sh3 rfl (kq rfl (zD rfl (kh rfl (kF (by omega)) ?_)))))
    refine kw rfl zDw (kh rfl (kF (by omega)) ?_)
    refine kA sh3 rfl (kh rfl (kF (by omega)) ?_)
    refine kw rfl yT (kh rfl (kF (by omega)) ?_)
    refine kA sh22 rfl (kh rfl (kF (by omega)) ?_)
    refine zz rfl ty22 rfl (List.length_map _) ?_
    refine yJ [(2,U.box 0 0),(3,U.box 1 0),(8,U.bool (decide ((0:Int)≤k))),(10,.int .i64 k),(13,.int .i64 ↑(List.length (Zt.keys z)))] [] ([SB.box [.int .i64 (Zt.yrs z),.lst .ro 7 (kysU (Zt.keys z)),.lst .ro 2 (spsU (Zt.steps z)),.lst .ro 4 (flsU (Zt.files z)),.lst .ro 4 (lksU (Zt.looks z))],SB.box [.int .i64 k,.int .i64 y]]) (.n5 rfl) rfl rfl fun fr=>?_
    refine kh rfl (kF (by omega)) ?_
    refine yJ [(2,U.box 0 0),(3,U.box 1 0),(8,U.bool (decide ((0:Int)≤k))),(10,.int .i64 k),(13,.int .i64 ↑(List.length (Zt.keys z)))] [] ([SB.box [.int .i64 (Zt.yrs z),.lst .ro 7 (kysU (Zt.keys z)),.lst .ro 2 (spsU (Zt.steps z)),.lst .ro 4 (flsU (Zt.files z)),.lst .ro 4 (lksU (Zt.looks z))],SB.box [.int .i64 k,.int .i64 y]]) (.n5 rfl) rfl rfl fun fr=>?_
    refine kp rfl (wD rfl rfl (kF (by omega)) ?_)
    refine zD rfl (kh rfl (kF (by omega)) ?_)
    refine kw rfl fld90_1 (kh rfl (kF (by omega)) ?_)
    refine kA sh3 rfl (kh rfl (kF (by omega)) ?_)
    refine kq rfl (wD rfl rfl (kF (by omega)) ?_)
    refine zD rfl (kh rfl (kF (by omega)) ?_)
    refine kw rfl fld90_1 ?_
    refine yJ [(2,U.box 0 0),(21,U.bool (decide ((0:Int)≤y))),(22,U.box 1 1)] [] ([SB.box [.int .i64 (Zt.yrs z),.lst .ro 7 (kysU (Zt.keys z)),.lst .ro 2 (spsU (Zt.steps z)),.lst .ro 4 (flsU (Zt.files z)),.lst .ro 4 (lksU (Zt.looks z))],SB.box [.int .i64 k,.int .i64 y]]) (.n3 rfl) rfl rfl fun fr=>?_
    refine kh rfl (kF (by omega)) ?_
    refine yJ [(2,U.box 0 0),(21,U.bool (decide ((0:Int)≤y))),(22,U.box 1 1)] [] ([SB.box [.int .i64 (Zt.yrs z),.lst .ro 7 (kysU (Zt.keys z)),.lst .ro 2 (spsU (Zt.steps z)),.lst .ro 4 (flsU (Zt.files z)),.lst .ro 4 (lksU (Zt.looks z))],SB.box [.int .i64 k,.int .i64 y]]) (.n3 rfl) rfl rfl fun fr=>?_
    refine kA sh3 rfl (kh rfl (kF (by omega)) ?_)
    refine kw rfl wA (kh rfl (kF (by omega)) ?_)
    refine kA sh3 rfl (kh rfl (kF (by omega)) ?_)
    refine kq rfl (wD rfl rfl (kF (by omega)) ?_)
    refine zE rfl (zA (zw ?_))
    refine⟨.inr rfl,_,.cons _ _ _ _ (.tmp 4) .nil,?_⟩
    exact .refl _
   ·rw[kG c3,Bool.false_and]
    refine kQ (ya rfl rfl (ya rfl rfl (zE rfl (zA ?_))))
    refine zL [(2,U.box 0 0),(3,U.box 1 0)] ([SB.box [.int .i64 (Zt.yrs z),.lst .ro 7 (kysU (Zt.keys z)),.lst .ro 2 (spsU (Zt.steps z)),.lst .ro 4 (flsU (Zt.files z)),.lst .ro 4 (lksU (Zt.looks z))],SB.box [.int .i64 k,.int .i64 y]]) (.n2 rfl) rfl fun fr=>?_
    refine kQ (kw rfl zDw (kA sh3 rfl (kq rfl (zD rfl (kh rfl (kF (by omega)) ?_)))))
    refine kw rfl zDw (kh rfl (kF (by omega)) ?_)
    refine kA sh3 rfl (kh rfl (kF (by omega)) ?_)
    refine kw rfl yT (kh rfl (kF (by omega)) ?_)
    refine kA sh22 rfl (kh rfl (kF (by omega)) ?_)
    refine zz rfl ty22 rfl (List.length_map _) ?_
    refine yJ [(2,U.box 0 0),(3,U.box 1 0),(8,U.bool (decide ((0:Int)≤k))),(10,.int .i64 k),(13,.int .i64 ↑(List.length (Zt.keys z)))] [] ([SB.box [.int .i64 (Zt.yrs z),.lst .ro 7 (kysU (Zt.keys z)),.lst .ro 2 (spsU (Zt.steps z)),.lst .ro 4 (flsU (Zt.files z)),.lst .ro 4 (lksU (Zt.looks z))],SB.box [.int .i64 k,.int .i64 y]]) (.n5 rfl) rfl rfl fun fr=>?_
    refine kh rfl (kF (by omega)) ?_
    refine yJ [(2,U.box 0 0),(3,U.box 1 0),(8,U.bool (decide ((0:Int)≤k))),(10,.int .i64 k),(13,.int .i64 ↑(List.length (Zt.keys z)))] [] ([SB.box [.int .i64 (Zt.yrs z),.lst .ro 7 (kysU (Zt.keys z)),.lst .ro 2 (spsU (Zt.steps z)),.lst .ro 4 (flsU (Zt.files z)),.lst .ro 4 (lksU (Zt.looks z))],SB.box [.int .i64 k,.int .i64 y]]) (.n5 rfl) rfl rfl fun fr=>?_
    refine kp rfl (wD rfl rfl (kF (by omega)) ?_)
    refine zD rfl (kh rfl (kF (by omega)) ?_)
    refine kw rfl fld90_1 (kh rfl (kF (by omega)) ?_)
    refine kA sh3 rfl (kh rfl (kF (by omega)) ?_)
    refine kq rfl (wD rfl rfl (kF (by omega)) ?_)
    refine zD rfl (kg rfl (kG (by omega)) ?_)
    refine yJ [(2,U.box 0 0),(21,U.bool (decide ((0:Int)≤y))),(22,U.tup [])] [] ([SB.box [.int .i64 (Zt.yrs z),.lst .ro 7 (kysU (Zt.keys z)),.lst .ro 2 (spsU (Zt.steps z)),.lst .ro 4 (flsU (Zt.files z)),.lst .ro 4 (lksU (Zt.looks z))],SB.box [.int .i64 k,.int .i64 y]]) (.n3 rfl) rfl rfl fun fr=>?_
    refine kg rfl (kG (by omega)) ?_
    refine kg rfl (kG (by omega)) ?_
    refine kg rfl (kG (by omega)) ?_
    refine kg rfl (kG (by omega)) ?_
    refine wY rfl rfl (kG (by omega)) ?_
    refine zE rfl (zA (zw ?_))
    refine⟨.inr rfl,_,.cons _ _ _ _ (.tmp 4) .nil,?_⟩
    exact .refl _
  ·rw[kG c2,Bool.false_and]
   refine kQ (ya rfl rfl (ya rfl rfl (zE rfl (zA ?_))))
   refine zL [(2,U.box 0 0),(3,U.box 1 0)] ([SB.box [.int .i64 (Zt.yrs z),.lst .ro 7 (kysU (Zt.keys z)),.lst .ro 2 (spsU (Zt.steps z)),.lst .ro 4 (flsU (Zt.files z)),.lst .ro 4 (lksU (Zt.looks z))],SB.box [.int .i64 k,.int .i64 y]]) (.n2 rfl) rfl fun fr=>?_
   refine kQ (kw rfl zDw (kA sh3 rfl (kq rfl (zD rfl (kh rfl (kF (by omega)) ?_)))))
   refine kw rfl zDw (kh rfl (kF (by omega)) ?_)
   refine kA sh3 rfl (kh rfl (kF (by omega)) ?_)
   refine kw rfl yT (kh rfl (kF (by omega)) ?_)
   refine kA sh22 rfl (kh rfl (kF (by omega)) ?_)
   refine zz rfl ty22 rfl (List.length_map _) ?_
   refine yJ [(2,U.box 0 0),(3,U.box 1 0),(8,U.bool (decide ((0:Int)≤k))),(10,.int .i64 k),(13,.int .i64 ↑(List.length (Zt.keys z)))] [] ([SB.box [.int .i64 (Zt.yrs z),.lst .ro 7 (kysU (Zt.keys z)),.lst .ro 2 (spsU (Zt.steps z)),.lst .ro 4 (flsU (Zt.files z)),.lst .ro 4 (lksU (Zt.looks z))],SB.box [.int .i64 k,.int .i64 y]]) (.n5 rfl) rfl rfl fun fr=>?_
   refine kh rfl (kF (by omega)) ?_
   refine yJ [(2,U.box 0 0),(3,U.box 1 0),(8,U.bool (decide ((0:Int)≤k))),(10,.int .i64 k),(13,.int .i64 ↑(List.length (Zt.keys z)))] [] ([SB.box [.int .i64 (Zt.yrs z),.lst .ro 7 (kysU (Zt.keys z)),.lst .ro 2 (spsU (Zt.steps z)),.lst .ro 4 (flsU (Zt.files z)),.lst .ro 4 (lksU (Zt.looks z))],SB.box [.int .i64 k,.int .i64 y]]) (.n5 rfl) rfl rfl fun fr=>?_
   refine kp rfl (wD rfl rfl (kF (by omega)) ?_)
   refine zD rfl (kg rfl (kG (by omega)) ?_)
   refine kg rfl (kG (by omega)) ?_
   refine kg rfl (kG (by omega)) ?_
   refine wY rfl rfl (kG (by omega)) ?_
   refine zD rfl (ke rfl ?_)
   refine yJ [(2,U.box 0 0),(21,.bool false),(22,U.tup [])] [] ([SB.box [.int .i64 (Zt.yrs z),.lst .ro 7 (kysU (Zt.keys z)),.lst .ro 2 (spsU (Zt.steps z)),.lst .ro 4 (flsU (Zt.files z)),.lst .ro 4 (lksU (Zt.looks z))],SB.box [.int .i64 k,.int .i64 y]]) (.n3 rfl) rfl rfl fun fr=>?_
   refine ke rfl (ke rfl (ke rfl (ke rfl (kD rfl ?_))))
   refine zE rfl (zA (zw ?_))
   refine⟨.inr rfl,_,.cons _ _ _ _ (.tmp 4) .nil,?_⟩
   exact .refl _
 ·rw[kG c1,Bool.false_and]
  refine kQ (ya rfl rfl (ya rfl rfl (zE rfl (zA ?_))))
  refine zL [(2,U.box 0 0),(3,U.box 1 0)] ([SB.box [.int .i64 (Zt.yrs z),.lst .ro 7 (kysU (Zt.keys z)),.lst .ro 2 (spsU (Zt.steps z)),.lst .ro 4 (flsU (Zt.files z)),.lst .ro 4 (lksU (Zt.looks z))],SB.box [.int .i64 k,.int .i64 y]]) (.n2 rfl) rfl fun fr=>?_
  refine kQ (kw rfl zDw (kA sh3 rfl (kq rfl (zD rfl (kg rfl (kG (by omega)) ?_)))))
  refine kg rfl (kG (by omega)) ?_
  refine kg rfl (kG (by omega)) ?_
  refine kg rfl (kG (by omega)) ?_
  refine kg rfl (kG (by omega)) ?_
  refine yJ [(2,U.box 0 0),(3,U.box 1 0),(8,U.bool (decide ((0:Int)≤k))),(10,U.tup []),(13,U.tup [])] [] ([SB.box [.int .i64 (Zt.yrs z),.lst .ro 7 (kysU (Zt.keys z)),.lst .ro 2 (spsU (Zt.steps z)),.lst .ro 4 (flsU (Zt.files z)),.lst .ro 4 (lksU (Zt.looks z))],SB.box [.int .i64 k,.int .i64 y]]) (.n5 rfl) rfl rfl fun fr=>?_
  refine kg rfl (kG (by omega)) ?_
  refine wY rfl rfl (kG (by omega)) ?_
  refine zD rfl (ke rfl (ke rfl (ke rfl (kD rfl ?_))))
  refine zD rfl (ke rfl ?_)
  refine yJ [(2,U.box 0 0),(21,.bool false),(22,U.tup [])] [] ([SB.box [.int .i64 (Zt.yrs z),.lst .ro 7 (kysU (Zt.keys z)),.lst .ro 2 (spsU (Zt.steps z)),.lst .ro 4 (flsU (Zt.files z)),.lst .ro 4 (lksU (Zt.looks z))],SB.box [.int .i64 k,.int .i64 y]]) (.n3 rfl) rfl rfl fun fr=>?_
  refine ke rfl (ke rfl (ke rfl (ke rfl (kD rfl ?_))))
  refine zE rfl (zA (zw ?_))
  refine⟨.inr rfl,_,.cons _ _ _ _ (.tmp 4) .nil,?_⟩
  exact .refl _
def NewB(st new:List SB):Prop:=∀x∈new,BdS (st.length+new.length) x∧FwdS st.length x
theorem zCR(z:Zt):Pln (.box z.cs):=zEs (dat_zcs z 3)
theorem nb_nilm:NB .nilm:=fun _ _ _ hv=>by cases hv;exact .nilm
theorem zAA:Pln (.box zset):=fun n=>⟨fun c hc=>by
 simp only[List.mem_cons,List.not_mem_nil,or_false]at hc
 rcases hc with rfl|rfl|rfl|rfl|rfl|rfl|rfl
 ·exact Bd.int _ _ _
 ·exact(zAv 0).bd _
 ·exact(zAv 0).bd _
 ·exact(zAv 0).bd _
 ·exact(zAv 0).bd _
 ·exact(nb_nilm).bd _
 ·exact(zAv 0).bd _,fun c hc=>by
 simp only[List.mem_cons,List.not_mem_nil,or_false]at hc
 rcases hc with rfl|rfl|rfl|rfl|rfl|rfl|rfl
 ·exact(NB.int _ _).fwd _
 ·exact(zAv 0).fwd _
 ·exact(zAv 0).fwd _
 ·exact(zAv 0).fwd _
 ·exact(zAv 0).fwd _
 ·exact(nb_nilm).fwd _
 ·exact(zAv 0).fwd _⟩
theorem zGS(z:Zt){m n:Nat}(hm:n≤m){w:U}(hw:Fwd n w):∀c∈setC z (.mp m) w,Fwd n c:=fun c hc=>by
 simp only[List.mem_cons,List.not_mem_nil,or_false]at hc
 rcases hc with rfl|rfl|rfl|rfl|rfl|rfl|rfl
 ·exact(NB.int _ _).fwd _
 ·exact(zEB _ 3).nb.fwd _
 ·exact(zBD _ 3).nb.fwd _
 ·exact(zEC _ 3).nb.fwd _
 ·exact(zEA _ 3).nb.fwd _
 ·exact Fwd.mp hm
 ·exact hw
theorem pln_new{st new:List SB}(h:∀x∈new,Pln x):NewB st new:=fun x hx=>⟨(h x hx _).1,(h x hx _).2⟩
noncomputable def askV(z:Zt)(q:Bool):Int:=if zAZ z=true then if q=true then 0 else 41 else 40
set_option maxHeartbeats 16000000 in
theorem wpc52(hi:Off is)(z:Zt)(q:Bool)(st:List SB):WpC Tryz.prog is orc 52 [z.u,.bool q] st fun u st'=>∃new,st'=st++new∧NewB st new∧
  ((askV z q=0∧∃m es,MapOk es z.files∧st.length≤m∧st'[m]? =some (.map es)∧u=.tup [.agg (setC z (.mp m) (.lst .full 0 [])),.int .i64 0])∨(askV z q≠0∧u=.tup [.agg zset,.int .i64 (askV z q)])):=by
 refine zGI body52 pure52 rfl rfl ?_
 have q17:=ret17 (orc:=orc) hi z
 obtain⟨Y,hY⟩:∃Y,Y=st++[SB.box z.cs,.box zset]:=⟨_,rfl⟩
 have hYl:Y.length=st.length+2:=by rw[hY];simp
 have yA:Y[st.length]? =some (.box z.cs):=by rw[hY];exact zAb (j:=0) rfl
 have yB:Y[st.length+1]? =some (.box zset):=by rw[hY];exact zAb (j:=1) rfl
 have hset:∀x,Y.set (st.length+1) x=st++[SB.box z.cs,x]:=fun x=>by rw[hY,zEp];rfl
 refine kQ (ya rfl rfl (zi rfl ze83 ?_))
 refine zE rfl (zA ?_)
 refine zL [(1,U.bool q),(2,U.box (List.length st) 0),(4,U.box (List.length (st++[SB.box [.int .i64 (Zt.yrs z),.lst .ro 7 (kysU (Zt.keys z)),.lst .ro 2 (spsU (Zt.steps z)),.lst .ro 4 (flsU (Zt.files z)),.lst .ro 4 (lksU (Zt.looks z))]])) 0)] (st++[SB.box [.int .i64 (Zt.yrs z),.lst .ro 7 (kysU (Zt.keys z)),.lst .ro 2 (spsU (Zt.steps z)),.lst .ro 4 (flsU (Zt.files z)),.lst .ro 4 (lksU (Zt.looks z))]]++[SB.box [.int .i64 0,.lst .full 0 [],.lst .full 0 [],.lst .full 0 [],.lst .full 0 [],U.nilm,.lst .full 0 []]]) (.n3 rfl) rfl fun fr=>?_
 refine zL [(1,.bool q),(2,.box st.length 0),(4,.box (st.length+1) 0)] Y (.cons rfl (.cons rfl (.cons (by show U.box _ 0=_;simp) (.nil rfl)))) (by show(st++[_])++[_]=_;rw[hY];simp) fun fr=>?_
 have hpl:∀x∈[SB.box z.cs,.box zset],Pln x:=fun x hx=>by
  simp only[List.mem_cons,List.not_mem_nil,or_false]at hx
  rcases hx with rfl|rfl
  ·exact zCR z
  ·exact zAA
 have sV:askV z q=if zAZ z=true then if q=true then 0 else 41 else 40:=rfl
 cases hv:zAZ z with
 |false=>
  rw[hv,if_neg (by decide)]at q17 sV
  refine k_seq (kQ (zg rfl rfl yA sh27 rfl ?_))
  refine zY rfl (q17) (.lrefl _) (zE rfl (zA (kQ (zD rfl (kr rfl (zA (k_cT rfl rfl ?_)))))))
  refine kQ (zZ rfl ze83 pl83 rfl rfl ?_)
  refine zD rfl (zS rfl yB sh83 rfl rfl rfl rfl rfl ?_)
  refine zE rfl (zA (zw ?_))
  exact⟨.inr rfl,_,.cons _ _ _ _ (.cellN 4 83 _ _ _ _ rfl (zFi yB) sh83 rfl) (.cons _ _ _ _ (.tmp 5) .nil),.tup [.agg zset,.int .i64 40],.refl _,[.box z.cs,.box zset],hset _,pln_new hpl,.inr ⟨by rw[sV];decide,by rw[sV];rfl⟩⟩
 |true=>
  rw[hv,if_pos rfl]at q17 sV
  have h:=zBR.1 hv
  cases q with
  |false=>
   rw[if_neg (by decide)]at sV
   refine k_seq (kQ (zg rfl rfl yA sh27 rfl ?_))
   refine zY rfl (q17) (.lrefl _) (zE rfl (zA (kQ (zD rfl (kr rfl (zA (k_cF rfl rfl ?_)))))))
   refine zV (k_seq (kQ (zD rfl (zCp rfl rfl (zA (k_cT rfl rfl ?_))))))
   refine kQ (zZ rfl ze83 pl83 rfl rfl ?_)
   refine zS rfl yB sh83 rfl rfl rfl rfl rfl ?_
   refine zE rfl (zA (zw ?_))
   exact⟨.inr rfl,_,.cons _ _ _ _ (.cellN 4 83 _ _ _ _ rfl (zFi yB) sh83 rfl) (.cons _ _ _ _ (.tmp 5) .nil),.tup [.agg zset,.int .i64 41],.refl _,[.box z.cs,.box zset],hset _,pln_new hpl,.inr ⟨by rw[sV];decide,by rw[sV];rfl⟩⟩
  |true=>
   refine k_seq (kQ (zg rfl rfl yA sh27 rfl ?_))
   refine zY rfl (q17) (.lrefl _) (zE rfl (zA (kQ (zD rfl (kr rfl (zA (k_cF rfl rfl ?_)))))))
   refine zV (k_seq (kQ (zD rfl (zCp rfl rfl (zA (k_cF rfl rfl ?_))))))
   refine zV (kQ (zg rfl rfl yA sh27 rfl ?_))
   refine zAO rfl (wpc79 hi h _) (.lrefl _) (fun u st1 hM=>?_)
   obtain⟨rfl,es,e,hm,he,rfl⟩:=hM
   rw[if_pos rfl]at sV
   have hY2:(nsV z Y es++e).set (Y.length+1) (.box (setC z (.mp (Y.length+2)) (.lst .full 0 [])))=st++([SB.box z.cs,.box zset,.box z.cs,.box (setC z (.mp (st.length+4)) (.lst .full 0 [])),.map es,.box (setC z (.mp (st.length+4)) (.lst .full 0 []))]++e):=by
    unfold nsV
    rw[List.append_assoc,zEp,show Y.length+2=st.length+4 by omega,hY,List.append_assoc]
    try rfl
   have y2:((nsV z Y es++e).set (Y.length+1) (.box (setC z (.mp (Y.length+2)) (.lst .full 0 []))))[st.length+1]? =some (.box zset):=by rw[hY2];exact zAb (j:=1) rfl
   refine zS rfl y2 sh83 rfl rfl rfl rfl rfl ?_
   refine zE rfl (zA (zw ?_))
   have hY3:((nsV z Y es++e).set (Y.length+1) (.box (setC z (.mp (Y.length+2)) (.lst .full 0 [])))).set (st.length+1) (.box (setC z (.mp (Y.length+2)) (.lst .full 0 [])))=st++([SB.box z.cs,.box (setC z (.mp (st.length+4)) (.lst .full 0 [])),.box z.cs,.box (setC z (.mp (st.length+4)) (.lst .full 0 [])),.map es,.box (setC z (.mp (st.length+4)) (.lst .full 0 []))]++e):=by
    rw[hY2,zEp,show Y.length+2=st.length+4 by omega]
    try rfl
   refine⟨.inr rfl,_,.cons _ _ _ _ (.cellN 4 83 _ _ _ _ rfl (zFi y2) sh83 rfl) (.cons _ _ _ _ (.tmp 5) .nil),.tup [.agg (setC z (.mp (st.length+4)) (.lst .full 0 [])),.int .i64 0],(by rw[←show Y.length+2=st.length+4 by omega];exact .refl _),_,hY3,fun x hx=>?_,.inl ⟨sV,st.length+4,es,hm,by omega,?_,rfl⟩⟩
   ·rcases List.mem_append.1 hx with hx|hx
    ·have hC:BdS (st.length+([SB.box z.cs,.box (setC z (.mp (st.length+4)) (.lst .full 0 [])),.box z.cs,.box (setC z (.mp (st.length+4)) (.lst .full 0 [])),.map es,.box (setC z (.mp (st.length+4)) (.lst .full 0 []))]++e).length) (.box (setC z (.mp (st.length+4)) (.lst .full 0 [])))∧FwdS st.length (.box (setC z (.mp (st.length+4)) (.lst .full 0 []))):=
      ⟨zGT z (by simp<;>omega) ((zAv 0).bd _),zGS z (by omega) ((zAv 0).fwd _)⟩
     simp only[List.mem_cons,List.not_mem_nil,or_false]at hx
     rcases hx with rfl|rfl|rfl|rfl|rfl|rfl
     ·exact⟨(zCR z _).1,(zCR z _).2⟩
     ·exact hC
     ·exact⟨(zCR z _).1,(zCR z _).2⟩
     ·exact hC
     ·exact⟨(mapOk_bd hm _).1,(mapOk_bd hm _).2⟩
     ·exact hC
    ·exact⟨(he x hx _).1,(he x hx _).2⟩
   ·show(((nsV z Y es++e).set (Y.length+1) (.box (setC z (.mp (Y.length+2)) (.lst .full 0 [])))).set (st.length+1) (.box (setC z (.mp (Y.length+2)) (.lst .full 0 []))))[st.length+4]? =_
    rw[hY3];exact zAb (j:=4) rfl
end
end Go.Proofs.YtpckmojdekdbbaaGreat.settles
