import Derived.Test.YtpckmojdekdbbaaGreatVamT13
set_option linter.unusedVariables false
set_option linter.unusedSimpArgs false
set_option linter.constructorNameAsVariable false
namespace Go.Proofs.YtpckmojdekdbbaaGreat.settles
open Vam
section
variable {is:FuncId→Bool}{orc:Known}{z:Zt}
noncomputable def b80:Code:=(Tryz.f80.body).getD .skip
theorem body80:bodyOf Tryz.prog 80=some (54,b80,[.tmp 4]):=by kernel_rfl
theorem pure80:pureFn Tryz.prog 80=false:=by kernel_rfl
theorem cl40:Program.cellsOf Tryz.prog 40=1:=by kernel_rfl
theorem ty28:tyOf Tryz.prog 28=.slice 40:=by kernel_rfl
noncomputable def b53:Code:=(Tryz.f53.body).getD .skip
theorem body53:bodyOf Tryz.prog 53=some (28,b53,[.tmp 4]):=by kernel_rfl
theorem pure53:pureFn Tryz.prog 53=false:=by kernel_rfl
noncomputable def b15:Code:=(Tryz.f15.body).getD .skip
theorem body15:bodyOf Tryz.prog 15=some (19,b15,[.tmp 4,.tmp 5]):=by kernel_rfl
theorem pure15:pureFn Tryz.prog 15=true:=by kernel_rfl
def oldM(n m:Nat)(es:List (U×U)):List SB:=(List.replicate n .dead).set m (.fmap es)
theorem oldM_at{n m:Nat}{es:List (U×U)}(h:m<n):(oldM n m es)[m]? =some (.fmap es):=by unfold oldM;rw[List.getElem?_set_self (by simpa using h)]
theorem oldM_len(n m:Nat)(es:List (U×U)):(oldM n m es).length=n:=by unfold oldM;simp
theorem oldM_mem{n m:Nat}{es:List (U×U)}{x:SB}{a:Nat}(h:(oldM n m es)[a]? =some x):x=.dead∨(a=m∧x=.fmap es):=by
 unfold oldM at h
 by_cases e:a=m
 ·subst e
  by_cases c:a<n
  ·rw[List.getElem?_set_self (by simpa using c)]at h;exact .inr ⟨rfl,(Option.some.inj h).symm⟩
  ·rw[List.getElem?_eq_none (by simpa using c)]at h;cases h
 ·rw[List.getElem?_set_ne (Ne.symm e),List.getElem?_replicate]at h
  split at h
  ·exact .inl (Option.some.inj h).symm
  ·cases h
theorem mapOk_nb{es:List (U×U)}{fs:List Fl}(h:MapOk es fs):∀p∈es,NB p.1∧NB p.2:=fun p hp=>by
 obtain⟨k,y,a,b,rfl⟩:=h.e p hp
 exact⟨(yO k y 0).nb,(yO a b 0).nb⟩
theorem oldM_ok{st:List SB}{m:Nat}{es:List (U×U)}{fs:List Fl}(h:MapOk es fs)(hm:st[m]? =some (.map es)):OldOk st (oldM st.length m es):=⟨oldM_len _ _ _,fun a x hx=>by
 rcases oldM_mem hx with rfl|⟨rfl,rfl⟩
 ·exact .inl rfl
 ·exact .inr ⟨es,rfl,.inl hm,mapOk_nb h⟩⟩
theorem oldM_bd{n m:Nat}{es:List (U×U)}{fs:List Fl}(h:MapOk es fs):∀x∈oldM n m es,BdS (oldM n m es).length x:=fun x hx=>by
 obtain⟨a,ha⟩:=List.mem_iff_getElem?.1 hx
 rcases oldM_mem ha with rfl|⟨rfl,rfl⟩
 ·trivial
 ·exact fun p hp=>⟨(mapOk_nb h p hp).1.bd _,(mapOk_nb h p hp).2.bd _⟩
theorem arg_mp{old:List SB}{m:Nat}{es:List (U×U)}(ho:old[m]? =some (.fmap es)){cs:List U}(hc:∀c∈cs,NB c∨c=.mp m):∀(φ:BMap) (S:SMap) (v:V),VU φ S v (.agg cs)→VU (mapM old φ) S v (.agg cs):=fun φ S v hv=>by
 cases hv with
 |agg l _ h=>
  refine .agg _ _ (zDM h fun v u hu hv=>?_)
  rcases hc u hu with hn|rfl
  ·exact(hn _ _ _ hv).mono (fun a b h=>by cases h) S.le_refl
  ·obtain⟨b,h1,rfl⟩:=mp_of hv
   exact .mp _ _ (by unfold mapM;rw[ho];exact h1)
set_option maxHeartbeats 16000000 in
theorem wpc80(hi:Off is)(h:ZOk z){k:Nat}(hk:k<z.keys.length){m:Nat}{es:List (U×U)}(hm:MapOk es z.files){w:List (Nat→Sp)}{st:List SB}(hst0:st[m]? =some (.map es))(hb:∀x∈st,BdS st.length x)(l:List Int)(hl:l.length=z.yrs.toNat+1)(hrow:Row z k fun i=>(l[i]?).getD 0):WpC Tryz.prog is orc 80 [.agg (crsC z (.mp m) (.lst .ro 82 (wasU w)) k),.lst .ro 1 (zb l)] st fun u st'=>u=.bool true∧st'=st:=by
 refine zDk body80 pure80 rfl rfl ?_
 have hy:=h.y
 have hml:=(List.getElem?_eq_some_iff.1 hst0).1
 have k1:decide (((zb l).length:Int)≠z.yrs+1)=false:=kG (by simp[hl];omega)
 have ho:=(okc_row h hk).2 hrow
 refine kQ (ya rfl rfl (zE rfl (zA ?_)))
 refine zL [(1,.lst .ro 1 (zb l)),(2,U.box (List.length st) 0)] (st++[SB.box [.int .i64 (Zt.yrs z),.lst .ro 7 (kysU (Zt.keys z)),.lst .ro 2 (spsU (Zt.steps z)),.lst .ro 4 (flsU (Zt.files z)),.lst .ro 4 (lksU (Zt.looks z)),U.mp m,.lst .ro 82 (wasU w),.int .i64 ↑k]]) (.n2 rfl) rfl fun fr=>?_
 refine k_seq (kQ (zD rfl (zz rfl ty40 rfl (List.length_map _) ?_)))
 refine kw rfl zCX (kw rfl zAV (kw rfl wA (zI rfl rfl (zT _ _) sh3 rfl ?_)))
 refine kz rfl (by unfold I64;omega) (kr rfl (zA (k_cF rfl (kG (by omega)) (zV ?_))))
 obtain⟨Y,hY⟩:∃Y,Y=st++[SB.box (crsC z (.mp m) (.lst .ro 82 (wasU w)) k)]:=⟨_,rfl⟩
 have hYl:Y.length=st.length+1:=by rw[hY];simp
 have yA:Y[st.length]? =some (.box (crsC z (.mp m) (.lst .ro 82 (wasU w)) k)):=by rw[hY];exact zT _ _
 have yM:Y[m]? =some (.map es):=by rw[hY];exact zn hst0
 refine zL [(1,.lst .ro 1 (zb l)),(2,.box st.length 0)] Y (.n2 rfl) (by rw[hY];rfl) fun fr=>?_
 have w104:WpC Tryz.prog is orc 104 [.agg (crsC z .junk .junk k),.lst .full 0 []] (List.replicate (st.length+1) .dead) fun u st'=>∃new,st'=List.replicate (st.length+1) .dead++new∧Fwd (st.length+1) u∧(∀x∈new,FwdS (st.length+1) x)∧(u=.agg (arrC (begS z k))∧new=[]):=
  (wpc104 hi h hk (rep_bd _)).mono fun u st' hM=>by
   obtain⟨rfl,rfl⟩:=hM
   exact⟨[],by rw[List.append_nil],(zBE _ 0).nb.fwd _,(fun x hx=>by cases hx),rfl,rfl⟩
 have hnb:∀u∈[U.agg (crsC z .junk .junk k),.lst .full 0 []],NB u:=fun u hu=>by
  simp only[List.mem_cons,List.not_mem_nil,or_false]at hu
  rcases hu with rfl|rfl
  ·exact nb_crs _ _
  ·exact zAv _
 have w105:WpC Tryz.prog is orc 105 [.agg (crsC z (.mp m) (.lst .ro 82 (wasU w)) k)] (oldM Y.length m es) fun u st'=>∃new,st'=oldM Y.length m es++new∧Fwd Y.length u∧(∀x∈new,FwdS Y.length x)∧(u=.lst .full 2 (spsU ((List.range z.yrs.toNat).map (grwS z k)))∧new=[]):=
  (wpc105 hi h hk hm (w:=wasU w) (.inr (oldM_at (by omega))) (oldM_bd hm)).mono fun u st' hM=>by
   obtain⟨rfl,rfl⟩:=hM
   exact⟨[],by rw[List.append_nil],(dat_spsF _ 0).nb.fwd _,(fun x hx=>by cases hx),rfl,rfl⟩
 have hargs:∀u∈[U.agg (crsC z (.mp m) (.lst .ro 82 (wasU w)) k)],∀φ S v,VU φ S v u→VU (mapM (oldM Y.length m es) φ) S v u:=fun u hu=>by
  rcases List.mem_singleton.1 hu with rfl
  refine arg_mp (oldM_at (by omega)) fun c hc=>?_
  simp only[List.mem_cons,List.not_mem_nil,or_false]at hc
  rcases hc with rfl|rfl|rfl|rfl|rfl|rfl|rfl|rfl
  ·exact .inl (NB.int _ _)
  ·exact .inl (zEB _ 3).nb
  ·exact .inl (zBD _ 3).nb
  ·exact .inl (zEC _ 3).nb
  ·exact .inl (zEA _ 3).nb
  ·exact .inr rfl
  ·exact .inl (zDz .ro (fun h=>by cases h) _ 0).nb
  ·exact .inl (NB.int _ _)
 refine k_seq (wM [.read true,.quiet,.read true,.quiet,.pre,.plain,.plain] (by kernel_rfl) (by kernel_rfl) (by kernel_rfl) ?_)
 refine zJ rfl (zg rfl rfl yA sh123 rfl (zA rfl)) ?_
 refine zGF (n:=st.length+1) hYl rfl hnb w104 (le_crs z _ _ _ _) (fun u new hM=>?_)
 obtain⟨rfl,rfl⟩:=hM
 refine zp [(1,.lst .ro 1 (zb l)),(2,.box st.length 0),(18,.agg (arrC (begS z k)))] [] Y (.n3 rfl) (by show Y++[]=Y;rw[List.append_nil]) rfl fun fr2=>?_
 refine zJ rfl (zg rfl rfl yA sh123 rfl (zA rfl)) ?_
 refine d_callQM (n:=Y.length) (old:=oldM Y.length m es) rfl (oldM_ok hm yM) rfl hargs w105 (.lrefl _) (fun u new hM=>?_)
 obtain⟨rfl,rfl⟩:=hM
 refine zp [(1,.lst .ro 1 (zb l)),(2,.box st.length 0),(18,.agg (arrC (begS z k))),(20,.lst .full 2 (spsU ((List.range z.yrs.toNat).map (grwS z k))))] [] Y (.n4 rfl) (by show Y++[]=Y;rw[List.append_nil]) rfl fun fr3=>?_
 refine d_pre rfl ze92 ?_
 refine zC (zEu (F:=begS z k) (G:=wc) rfl (zT _ _) sh92 rfl (zA rfl)) ?_
 refine zC (zE rfl (zA rfl)) ?_
 refine zAK ?_
 obtain⟨T,hT⟩:∃T,T=(List.range z.yrs.toNat).map (grwS z k):=⟨_,rfl⟩
 have hTat:∀j,j<z.yrs.toNat→T[j]? =some (grwS z k j):=fun j hj=>by rw[hT,List.getElem?_map,List.getElem?_range hj];rfl
 obtain⟨Z,hZ⟩:∃Z,Z=Y++[SB.box (arrC (begS z k))]:=⟨_,rfl⟩
 have yF:Z[Y.length]? =some (.box (arrC (begS z k))):=by rw[hZ];exact zT _ _
 have hZt:Z.take st.length=st:=by rw[hZ,hY,List.append_assoc,zBH rfl]
 refine zL [(1,.lst .ro 1 (zb l)),(5,.box Y.length 0),(6,.lst .full 2 (spsU T))] Z (.cons rfl (.cons rfl (.cons (by rw[hT];rfl) (.nil rfl)))) (by rw[hZ];exact yK Y _ _) fun fr4=>?_
 refine k_seq (kQ (zD rfl (zz rfl ty40 rfl (List.length_map _) ?_)))
 refine zD rfl (zA (zR ?_))
 refine yq (fun kk s1=>∃i:Nat,kk+i=l.length∧s1.st=Z∧Holds s1 [(1,.lst .ro 1 (zb l)),(5,.box Y.length 0),(6,.lst .full 2 (spsU T)),(21,.lst .ro 1 (zb l)),(22,.int .i64 l.length),(23,.int .i64 i)]) (fun kk s1 hI=>?_) l.length _ ⟨0,rfl,rfl,.c4 rfl rfl rfl rfl (.n2 rfl)⟩
 obtain⟨i,hkk,hst,hs⟩:=hI
 by_cases hin:i<l.length
 ·obtain⟨x,hx⟩:∃x,l[i]? =some x:=⟨l[i],List.getElem?_eq_getElem hin⟩
  have hxu:(zb l)[i]? =some (.int .i64 x):=by rw[List.getElem?_map,hx];rfl
  have ha:=ho.at' i (by omega)
  simp only[hx,Option.getD_some]at ha
  have q96:=ret96 (orc:=orc) hi (begS z k i).1 (begS z k i).2 x
  rw[zBC.2 ha]at q96
  by_cases hi0:i=0
  ·have k2:decide ((0:Int)<i)=false:=kG (by omega)
   refine zL _ _ hs hst fun fr5=>?_
   refine kQ (kp rfl (zA (k_seq (k_cT rfl (kF (by omega)) (zV (k_seq (zR (kQ (zD rfl (wb (u:=.int .i64 x) rfl ty40 rfl rfl (Int.natCast_nonneg _) hxu cl3 ?_))))))))))
   refine kC sh3 rfl ?_
   refine zE rfl (zE rfl (zA (k_seq (kQ (zD rfl (zAt rfl ty92 rfl rfl (by omega) (by omega) cl35 ?_))))))
   refine o_ldA (F:=begS z k) i (by omega) rfl rfl (by omega) yF sh35 ?_
   refine zD rfl (zY rfl (q96) (.lrefl _) (zCp rfl rfl (zA ?_)))
   refine zL [(1,.lst .ro 1 (zb l)),(5,U.box (List.length Y) 0),(6,.lst .full 2 (spsU T)),(7,.int .i64 ↑i),(8,.int .i64 x),(21,.lst .ro 1 (zb l)),(22,.int .i64 ↑(List.length l)),(23,.int .i64 ↑i),(33,U.bool !Bool.true)] (Z) (.n9 rfl) rfl fun fr=>?_
   refine k_cF rfl rfl ?_
   refine zV (k_seq (wM [.plain,.plain,.plain,.plain,.plain,.plain,.plain,.read true,.read false,.plain,.plain,.plain,.plain,.read true,.plain,.plain,.plain,.plain,.plain] (by kernel_rfl) (by kernel_rfl) (by kernel_rfl) ?_))
   refine zC (zD rfl (zA rfl)) (zC (o_gtr rfl rfl rfl (zA rfl)) ?_)
   refine zC (zD rfl (zA rfl)) (km rfl (by assumption) ?_)
   refine km rfl (by assumption) ?_
   refine km rfl (by assumption) ?_
   refine km rfl (by assumption) ?_
   refine km rfl (by assumption) ?_
   refine km rfl (by assumption) ?_
   refine zp [(1,.lst .ro 1 (zb l)),(5,U.box (List.length Y) 0),(6,.lst .full 2 (spsU T)),(7,.int .i64 ↑i),(8,.int .i64 x),(21,.lst .ro 1 (zb l)),(22,.int .i64 ↑(List.length l)),(23,.int .i64 ↑i),(36,U.bool (decide ((0:Int)< ↑i))),(37,U.tup []),(38,U.tup []),(39,U.tup []),(40,U.tup []),(41,U.tup []),(42,U.tup [])] [] (Z) (.c4 rfl rfl rfl rfl (.c4 rfl rfl rfl rfl (.n7 rfl))) rfl rfl fun fr=>?_
   refine km rfl (by assumption) ?_
   refine km rfl (by assumption) ?_
   refine km rfl (by assumption) ?_
   refine km rfl (by assumption) ?_
   refine km rfl (by assumption) ?_
   refine km rfl (by assumption) ?_
   refine km rfl (by assumption) ?_
   refine km rfl (by assumption) ?_
   refine km rfl (by assumption) ?_
   refine zp [(1,.lst .ro 1 (zb l)),(5,U.box (List.length Y) 0),(6,.lst .full 2 (spsU T)),(21,.lst .ro 1 (zb l)),(22,.int .i64 ↑(List.length l)),(23,.int .i64 ↑i),(36,U.bool (decide ((0:Int)< ↑i))),(37,U.tup []),(38,U.tup []),(39,U.tup []),(40,U.tup []),(41,U.tup []),(42,U.tup []),(43,U.tup []),(44,U.tup []),(45,U.tup []),(46,U.tup []),(47,U.tup []),(48,U.tup []),(49,U.tup []),(50,U.tup []),(51,U.tup [])] [] (Z) (.c4 rfl rfl rfl rfl (.c4 rfl rfl rfl rfl (.c4 rfl rfl rfl rfl (.n10 rfl)))) rfl rfl fun fr=>?_
   refine zC (wY rfl rfl (by assumption) (zA rfl)) ?_
   refine zAK ?_
   refine zL [(1,.lst .ro 1 (zb l)),(5,U.box (List.length Y) 0),(6,.lst .full 2 (spsU T)),(21,.lst .ro 1 (zb l)),(22,.int .i64 ↑(List.length l)),(23,.int .i64 ↑i),(37,U.tup []),(38,U.tup []),(39,U.tup []),(40,U.tup []),(41,U.tup []),(42,U.tup []),(43,U.tup []),(44,U.tup []),(45,U.tup []),(46,U.tup []),(47,U.tup []),(48,U.tup []),(49,U.tup []),(50,U.tup []),(51,U.tup []),(52,.bool false)] (Z) (.c4 rfl rfl rfl rfl (.c4 rfl rfl rfl rfl (.c4 rfl rfl rfl rfl (.n10 rfl)))) rfl fun fr=>?_
   refine k_cF rfl rfl ?_
   refine zV (k_region ?_)
   refine kz rfl (by unfold I64;omega) (zD rfl (zA ?_))
   exact⟨kk - 1,by omega,i+1,by omega,rfl,.c4 rfl rfl rfl rfl (.n2 rfl)⟩
  ·have k2:decide ((0:Int)<i)=true:=kF (by omega)
   obtain⟨y,hyx⟩:∃y,l[i - 1]? =some y:=⟨l[i - 1]'(by omega),List.getElem?_eq_getElem (by omega)⟩
   have hyu:(zb l)[((i:Int) - 1).toNat]? =some (.int .i64 y):=by rw[show((i:Int) - 1).toNat=i - 1 by omega,List.getElem?_map,hyx];rfl
   have hgu:(spsU T)[((i:Int) - 1).toNat]? =some (spU (grwS z k (i - 1))):=by rw[show((i:Int) - 1).toNat=i - 1 by omega,List.getElem?_map,hTat _ (by omega)];rfl
   have hg:=ho.st (i - 1) (by omega)
   rw[show i - 1+1=i by omega]at hg
   simp only[hx,hyx,Option.getD_some]at hg
   have ha2:=ho.at' (i - 1) (by omega)
   simp only[hyx,Option.getD_some]at ha2
   have hbb:=beg_bnd h hk (i - 1) (by omega)
   have hgt:=grw_top h hk (i - 1)
   generalize grwS z k (i - 1)=g at*
   have q81:=zEN (orc:=orc) hi y
   have q103:=ret103 (orc:=orc) hi y y g.1 g.2 (by unfold I64;omega) (by unfold I64;omega)
   have q96b:=ret96 (orc:=orc) hi (y+g.1) (y+g.2) x
   rw[zBC.2 (by omega)]at q96b
   refine zL _ _ hs hst fun fr5=>?_
   refine kQ (kp rfl (zA (k_seq (k_cT rfl (kF (by omega)) (zV (k_seq (zR (kQ (zD rfl (wb (u:=.int .i64 x) rfl ty40 rfl rfl (Int.natCast_nonneg _) hxu cl3 ?_))))))))))
   refine kC sh3 rfl ?_
   refine zE rfl (zE rfl (zA (k_seq (kQ (zD rfl (zAt rfl ty92 rfl rfl (by omega) (by omega) cl35 ?_))))))
   refine o_ldA (F:=begS z k) i (by omega) rfl rfl (by omega) yF sh35 ?_
   refine zD rfl (zY rfl (q96) (.lrefl _) (zCp rfl rfl (zA ?_)))
   refine zL [(1,.lst .ro 1 (zb l)),(5,U.box (List.length Y) 0),(6,.lst .full 2 (spsU T)),(7,.int .i64 ↑i),(8,.int .i64 x),(21,.lst .ro 1 (zb l)),(22,.int .i64 ↑(List.length l)),(23,.int .i64 ↑i),(33,U.bool !Bool.true)] (Z) (.n9 rfl) rfl fun fr=>?_
   refine k_cF rfl rfl ?_
   refine zV (k_seq (wM [.plain,.plain,.plain,.plain,.plain,.plain,.plain,.read true,.read false,.plain,.plain,.plain,.plain,.read true,.plain,.plain,.plain,.plain,.plain] (by kernel_rfl) (by kernel_rfl) (by kernel_rfl) ?_))
   refine zC (zD rfl (zA rfl)) (zC (o_gtr rfl rfl rfl (zA rfl)) ?_)
   refine zC (zD rfl (zA rfl)) (kn rfl (by assumption) ?_)
   refine zC (zD rfl (zA rfl)) (kn rfl (by assumption) ?_)
   refine zC (zD rfl (zA rfl)) (kn rfl (by assumption) ?_)
   refine zC (zDc rfl rfl rfl (by unfold I64;omega) (zA rfl)) ?_
   refine kn rfl (by assumption) ?_
   refine zC (wb (u:=.int .i64 y) rfl ty40 rfl rfl (by omega) hyu cl3 (zA rfl)) ?_
   refine kn rfl (by assumption) ?_
   refine zJ rfl (kC sh3 rfl (zA rfl)) ?_
   refine kn rfl (by assumption) ?_
   refine yH rfl (q81) (zf _ _) (.lrefl _) ?_
   refine zp [(1,.lst .ro 1 (zb l)),(5,U.box (List.length Y) 0),(6,.lst .full 2 (spsU T)),(7,.int .i64 ↑i),(8,.int .i64 x),(21,.lst .ro 1 (zb l)),(22,.int .i64 ↑(List.length l)),(23,.int .i64 ↑i),(36,U.bool (decide ((0:Int)< ↑i))),(37,.lst .ro 1 (zb l)),(38,.int .i64 ↑i),(39,.int .i64 (↑i - (1:Int))),(40,U.eref [.int .i64 y] 0),(41,.int .i64 y),(42,yQ y y)] [] (Z) (.c4 rfl rfl rfl rfl (.c4 rfl rfl rfl rfl (.n7 rfl))) rfl rfl fun fr=>?_
   refine kn rfl (by assumption) ?_
   refine zp [(1,.lst .ro 1 (zb l)),(5,U.box (List.length Y) 0),(6,.lst .full 2 (spsU T)),(7,.int .i64 ↑i),(8,.int .i64 x),(21,.lst .ro 1 (zb l)),(22,.int .i64 ↑(List.length l)),(23,.int .i64 ↑i),(36,U.bool (decide ((0:Int)< ↑i))),(37,.lst .ro 1 (zb l)),(38,.int .i64 ↑i),(39,.int .i64 (↑i - (1:Int))),(40,U.eref [.int .i64 y] 0),(41,.int .i64 y),(42,yQ y y)] [] (Z) (.c4 rfl rfl rfl rfl (.c4 rfl rfl rfl rfl (.n7 rfl))) rfl rfl fun fr=>?_
   refine zC (zD rfl (zA rfl)) (kn rfl (by assumption) ?_)
   refine zC (zD rfl (zA rfl)) (kn rfl (by assumption) ?_)
   refine zC (zDc rfl rfl rfl (by unfold I64;omega) (zA rfl)) ?_
   refine kn rfl (by assumption) ?_
   refine zC (wb (u:=spU g) rfl ty23 rfl rfl (by omega) hgu cl35 (zA rfl)) ?_
   refine kn rfl (by assumption) ?_
   refine zJ rfl (yL rfl rfl sh35 rfl (zA rfl)) ?_
   refine kn rfl (by assumption) ?_
   refine zC (zY rfl (q103) (.lrefl _) (zA rfl)) ?_
   refine kn rfl (by assumption) ?_
   refine zC (zD rfl (zA rfl)) (kn rfl (by assumption) ?_)
   refine zC (zY rfl (q96b) (.lrefl _) (zA rfl)) ?_
   refine kn rfl (by assumption) ?_
   refine zC (zCp rfl rfl (zA rfl)) ?_
   refine zp [(1,.lst .ro 1 (zb l)),(5,U.box (List.length Y) 0),(6,.lst .full 2 (spsU T)),(21,.lst .ro 1 (zb l)),(22,.int .i64 ↑(List.length l)),(23,.int .i64 ↑i),(36,U.bool (decide ((0:Int)< ↑i))),(37,.lst .ro 1 (zb l)),(38,.int .i64 ↑i),(39,.int .i64 (↑i - (1:Int))),(40,U.eref [.int .i64 y] 0),(41,.int .i64 y),(42,yQ y y),(43,.lst .full 2 (spsU T)),(44,.int .i64 ↑i),(45,.int .i64 (↑i - (1:Int))),(46,U.eref [.int .i64 (Prod.fst g),.int .i64 (Prod.snd g)] 0),(47,U.agg [.int .i64 (Prod.fst g),.int .i64 (Prod.snd g)]),(48,U.agg [.int .i64 (y+Prod.fst g),.int .i64 (y+Prod.snd g)]),(49,.int .i64 x),(50,.bool true),(51,U.bool !Bool.true)] [] (Z) (.c4 rfl rfl rfl rfl (.c4 rfl rfl rfl rfl (.c4 rfl rfl rfl rfl (.n10 rfl)))) rfl rfl fun fr=>?_
   refine zC (wD rfl rfl (by assumption) (zA rfl)) ?_
   refine zAK ?_
   refine zL [(1,.lst .ro 1 (zb l)),(5,U.box (List.length Y) 0),(6,.lst .full 2 (spsU T)),(21,.lst .ro 1 (zb l)),(22,.int .i64 ↑(List.length l)),(23,.int .i64 ↑i),(37,.lst .ro 1 (zb l)),(38,.int .i64 ↑i),(39,.int .i64 (↑i - (1:Int))),(40,U.eref [.int .i64 y] 0),(41,.int .i64 y),(42,yQ y y),(43,.lst .full 2 (spsU T)),(44,.int .i64 ↑i),(45,.int .i64 (↑i - (1:Int))),(46,U.eref [.int .i64 (Prod.fst g),.int .i64 (Prod.snd g)] 0),(47,U.agg [.int .i64 (Prod.fst g),.int .i64 (Prod.snd g)]),(48,U.agg [.int .i64 (y+Prod.fst g),.int .i64 (y+Prod.snd g)]),(49,.int .i64 x),(50,.bool true),(51,U.bool !Bool.true),(52,U.bool !Bool.true)] (Z) (.c4 rfl rfl rfl rfl (.c4 rfl rfl rfl rfl (.c4 rfl rfl rfl rfl (.n10 rfl)))) rfl fun fr=>?_
   refine k_cF rfl rfl ?_
   refine zV (k_region ?_)
   refine kz rfl (by unfold I64;omega) (zD rfl (zA ?_))
   exact⟨kk - 1,by omega,i+1,by omega,rfl,.c4 rfl rfl rfl rfl (.n2 rfl)⟩
 ·obtain rfl:i=l.length:=by omega
  refine zL _ _ hs hst fun fr5=>?_
  refine kQ (kp rfl (zA (k_seq (k_cF rfl (kG (by omega)) (yj (kQ (zE rfl (zA (zw ?_)))))))))
  refine⟨.inr rfl,_,.cons _ _ _ _ (.tmp 4) .nil,?_⟩
  refine⟨.bool true,.refl _,Bd.bool _ _,?_,?_,rfl,hZt⟩
  ·show st.length≤Z.length
   rw[hZ,List.length_append,hYl];omega
  ·show ∀x∈Z.take st.length,_
   rw[hZt];exact hb
end
section
variable {is:FuncId→Bool}{orc:Known}{z:Zt}
abbrev rowU(r:List Int):U:=.lst .ro 1 (zb r)
abbrev zDm(rs:List (List Int)):List U:=rs.map rowU
def Rws(z:Zt)(rs:List (List Int)):Prop:=rs.length=z.keys.length∧∀i r,rs[i]? =some r→r.length=z.yrs.toNat+1∧Row z i fun j=>(r[j]?).getD 0
theorem dat_rows(rs:List (List Int))(k:Nat):Dat (k+3) (.lst .ro 1 (zDm rs)):=zFK rowU rs 1 fun r c hc=>by
 rcases List.mem_singleton.1 (show c∈[rowU r]from hc)with rfl
 exact zEf k .ro (fun h=>by cases h) _ _
set_option maxHeartbeats 16000000 in
theorem wpc53(hi:Off is)(h:ZOk z){m:Nat}{es:List (U×U)}(hm:MapOk es z.files){w:List (Nat→Sp)}{st:List SB}(hst0:st[m]? =some (.map es))(hb:∀x∈st,BdS st.length x){rs:List (List Int)}(hr:Rws z rs):WpC Tryz.prog is orc 53 [.agg (setC z (.mp m) (.lst .ro 82 (wasU w))),.lst .ro 1 (zDm rs)] st fun u st'=>u=.bool true∧st'=st:=by
 refine zDk body53 pure53 rfl rfl ?_
 have hy:=h.y
 have hk7:=h.k
 have hml:=(List.getElem?_eq_some_iff.1 hst0).1
 have k1:decide ((rs.length:Int)≠(z.keys.length:Int))=false:=kG (by simp[hr.1])
 refine kQ (ya rfl rfl (zE rfl (zA ?_)))
 refine zL [(1,.lst .ro 1 (zDm rs)),(2,U.box (List.length st) 0)] (st++[SB.box [.int .i64 (Zt.yrs z),.lst .ro 7 (kysU (Zt.keys z)),.lst .ro 2 (spsU (Zt.steps z)),.lst .ro 4 (flsU (Zt.files z)),.lst .ro 4 (lksU (Zt.looks z)),U.mp m,.lst .ro 82 (wasU w)]]) (.n2 rfl) rfl fun fr=>?_
 refine k_seq (kQ (zD rfl (zz rfl ty28 rfl (List.length_map _) ?_)))
 refine kw rfl zAV (kw rfl yT (zI rfl rfl (zT _ _) sh22 rfl ?_))
 refine zz rfl ty22 rfl (List.length_map _) ?_
 refine kr rfl (zA (k_cF rfl (by assumption) (zV (k_seq (kQ (zD rfl (zz rfl ty28 rfl (List.length_map _) ?_)))))))
 refine zD rfl (zA (zR ?_))
 obtain⟨Z,hZ⟩:∃Z,Z=st++[SB.box (setC z (.mp m) (.lst .ro 82 (wasU w)))]:=⟨_,rfl⟩
 have hZl:Z.length=st.length+1:=by rw[hZ];simp
 have yA:Z[st.length]? =some (.box (setC z (.mp m) (.lst .ro 82 (wasU w)))):=by rw[hZ];exact zT _ _
 have yM:Z[m]? =some (.map es):=by rw[hZ];exact zn hst0
 have hZt:Z.take st.length=st:=by rw[hZ,zBH rfl]
 have hZb:∀x∈Z,BdS Z.length x:=fun x hx=>by
  rw[hZl]
  rw[hZ]at hx
  rcases List.mem_append.1 hx with hx|hx
  ·exact BdS.mono (hb x hx) (by omega)
  ·rcases List.mem_singleton.1 hx with rfl
   exact zGT z (by omega) ((zDz .ro (fun h=>by cases h) w 0).bd _)
 refine yq (fun kk s1=>∃i:Nat,kk+i=rs.length∧s1.st=Z∧Holds s1 [(2,.box st.length 0),(14,.lst .ro 1 (zDm rs)),(15,.int .i64 rs.length),(16,.int .i64 i)]) (fun kk s1 hI=>?_) rs.length _ ⟨0,rfl,hZ.symm,.c4 rfl rfl rfl rfl (.nil rfl)⟩
 obtain⟨i,hkk,hst,hs⟩:=hI
 have hrl:=hr.1
 by_cases hin:i<rs.length
 ·obtain⟨r,hx⟩:∃r,rs[i]? =some r:=⟨rs[i],List.getElem?_eq_getElem hin⟩
  have hxu:(zDm rs)[i]? =some (rowU r):=by rw[List.getElem?_map,hx];rfl
  obtain⟨h1,h2⟩:=hr.2 i r hx
  have w80:=wpc80 (is:=is) (orc:=orc) hi h (k:=i) (by omega) hm (w:=w) yM hZb r h1 h2
  refine zL _ _ hs hst fun fr=>?_
  refine kQ (kp rfl (zA (k_seq (k_cT rfl (kF (by omega)) (zV (k_seq (zR (kQ (zD rfl (wb (u:=rowU r) rfl ty28 rfl rfl (Int.natCast_nonneg _) hxu cl40 ?_))))))))))
  refine kC sh40 rfl ?_
  refine zE rfl (zE rfl (zA (kQ (zg rfl rfl yA sh83 rfl ?_))))
  refine zD rfl (zZ rfl ze123 pl123 rfl rfl ?_)
  refine zD rfl ?_
  refine zAO rfl w80 (.lrefl _) (fun u st1 hM=>?_)
  obtain⟨rfl,rfl⟩:=hM
  refine zCp rfl rfl (zA (k_cF rfl rfl ?_))
  refine zV (k_region ?_)
  refine kz rfl (by unfold I64;omega) (zD rfl (zA ?_))
  exact⟨kk - 1,by omega,i+1,by omega,rfl,.c4 rfl rfl rfl rfl (.nil rfl)⟩
 ·obtain rfl:i=rs.length:=by omega
  refine zL _ _ hs hst fun fr=>?_
  refine kQ (kp rfl (zA (k_seq (k_cF rfl (kG (by omega)) (yj (kQ (zE rfl (zA (zw ?_)))))))))
  refine⟨.inr rfl,_,.cons _ _ _ _ (.tmp 4) .nil,?_⟩
  refine⟨.bool true,.refl _,Bd.bool _ _,?_,?_,rfl,hZt⟩
  ·show st.length≤Z.length
   omega
  ·show ∀x∈Z.take st.length,_
   rw[hZt];exact hb
set_option maxHeartbeats 16000000 in
theorem ret15(hi:Off is)(h:ZOk z){rs:List (List Int)}(hr:Rws z rs):RetP Tryz.prog is orc 15 [z.u,.lst .ro 1 (zDm rs)] (.tup [.bool true,.int .i64 0]):=by
 refine yp body15 pure15 (hi 15 (by decide)) rfl rfl (wQ (zFh z 5) (dat_rows rs 5)) (.inr ⟨_,rfl,wQ (.bool _ _) (.int _ _ _)⟩) ?_
 have hv:askV z true=0:=by unfold askV;rw[zBR.2 h];rfl
 refine kQ (ya rfl rfl (zE rfl (zE rfl (zA ?_))))
 refine zL [(1,.lst .ro 1 (zDm rs)),(2,U.box 0 0)] ([SB.box [.int .i64 (Zt.yrs z),.lst .ro 7 (kysU (Zt.keys z)),.lst .ro 2 (spsU (Zt.steps z)),.lst .ro 4 (flsU (Zt.files z)),.lst .ro 4 (lksU (Zt.looks z))]]) (.n2 rfl) rfl fun fr=>?_
 refine kQ (kB sh27 rfl ?_)
 refine zAO rfl (wpc52 hi z true _) (.lrefl _) (fun u st1 hM=>?_)
 refine zD rfl ?_
 obtain⟨new,rfl,hnb,hM⟩:=hM
 rcases hM with ⟨_,m,es,hm,hml,hmm,rfl⟩|⟨hne,_⟩
 ·have hnb:∀x∈new,BdS (1+new.length) x:=fun x hx=>(hnb x hx).1
  have hmm:([SB.box z.cs]++new)[m]? =some (.map es):=hmm
  have hml2:m<1+new.length:=by
   have:=(List.getElem?_eq_some_iff.1 hmm).1
   rw[List.length_append]at this;exact this
  refine ku rfl (ku rfl (zi rfl ze83 ?_))
  refine zS rfl (zT _ _) sh83 rfl rfl rfl rfl rfl ?_
  refine zE rfl (zA (k_seq (kQ (zD rfl (kr rfl (zA (k_cF rfl rfl ?_)))))))
  refine zV ?_
  obtain⟨Z,hZ⟩:∃Z,Z=([SB.box z.cs]++new)++[SB.box (setC z (.mp m) (.lst .full 0 []))]:=⟨_,rfl⟩
  have hZl:Z.length=new.length+2:=by rw[hZ];simp
  have hat:Z[new.length+1]? =some (.box (setC z (.mp m) (.lst .full 0 []))):=by rw[hZ];exact zT _ _
  have hat2:Z[m]? =some (.map es):=by rw[hZ];exact zn hmm
  have hZb:∀x∈Z,BdS Z.length x:=fun x hx=>by
   rw[hZl]
   rw[hZ]at hx
   rcases List.mem_append.1 hx with hx|hx
   ·rcases List.mem_append.1 hx with hx|hx
    ·rcases List.mem_singleton.1 hx with rfl;exact(zCR z _).1
    ·exact BdS.mono (hnb x hx) (by omega)
   ·rcases List.mem_singleton.1 hx with rfl
    exact zGT z (by omega) ((zAv 0).bd _)
  have w53:=wpc53 (is:=is) (orc:=orc) hi h hm (w:=[]) hat2 hZb hr
  have le0:∀l,UW (.l (.agg (setC z (.mp m) (.lst .full 0 []))::l)) (.l (.agg (setC z (.mp m) (.lst .ro 82 (wasU [])))::l)):=fun l=>
   .lcons _ _ _ _ (.agg _ _ (.lcons _ _ _ _ (.refl _) (.lcons _ _ _ _ (.refl _) (.lcons _ _ _ _ (.refl _) (.lcons _ _ _ _ (.refl _) (.lcons _ _ _ _ (.refl _) (.lcons _ _ _ _ (.refl _) (.lcons _ _ _ _ (.nil .full .ro 82) (.lrefl _))))))))) (.lrefl _)
  refine zL [(1,.lst .ro 1 (zDm rs)),(6,.box (new.length+1) 0)] Z (.n2 rfl) (by rw[hZ];exact yK ([SB.box z.cs]++new) _ _) fun fr=>?_
  refine kQ (zg rfl rfl hat sh83 rfl ?_)
  refine zD rfl ?_
  refine zAO rfl w53 (le0 _) (fun u st1 hM=>?_)
  refine zE rfl (zE rfl (zA (zw ?_)))
  refine⟨.inr rfl,_,.cons _ _ _ _ (.tmp 4) (.cons _ _ _ _ (.tmp 5) .nil),?_⟩
  obtain⟨rfl,rfl⟩:=hM
  exact .refl _
 ·exact absurd hv hne
end
end Go.Proofs.YtpckmojdekdbbaaGreat.settles
