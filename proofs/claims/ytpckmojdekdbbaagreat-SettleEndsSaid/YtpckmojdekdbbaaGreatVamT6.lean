import Derived.Test.YtpckmojdekdbbaaGreatVamT5
set_option linter.unusedVariables false
set_option linter.unusedSimpArgs false
set_option linter.constructorNameAsVariable false
namespace Go.Proofs.YtpckmojdekdbbaaGreat.settles
open Vam
section
variable {is:FuncId→Bool}{orc:Known}{z:Zt}
noncomputable def b111:Code:=(Tryz.f111.body).getD .skip
theorem body111:bodyOf Tryz.prog 111=some (6,b111,[.tmp 4]):=by kernel_rfl
theorem pure111:pureFn Tryz.prog 111=false:=by kernel_rfl
noncomputable def b125:Code:=(Tryz.f125.body).getD .skip
theorem body125:bodyOf Tryz.prog 125=some (30,b125,[]):=by kernel_rfl
theorem pure125:pureFn Tryz.prog 125=false:=by kernel_rfl
noncomputable def b121:Code:=(Tryz.f121.body).getD .skip
theorem body121:bodyOf Tryz.prog 121=some (9,b121,[.tmp 4]):=by kernel_rfl
theorem pure121:pureFn Tryz.prog 121=true:=by kernel_rfl
noncomputable def b138:Code:=(Tryz.f138.body).getD .skip
theorem body138:bodyOf Tryz.prog 138=some (19,b138,[.tmp 4]):=by kernel_rfl
theorem pure138:pureFn Tryz.prog 138=true:=by kernel_rfl
def lkL(ls:List Lk)(k y:Int)(n:Nat):List (Nat×Lk):=(List.range n).filterMap fun i=>match ls[i]? with
 |some x=>if x.ky=k∧x.yr=y then some (i,x)else none
 |none=>none
theorem lkL_succ{ls:List Lk}{k y:Int}{n:Nat}{x:Lk}(h:ls[n]? =some x):lkL ls k y (n+1)=if x.ky=k∧x.yr=y then lkL ls k y n++[(n,x)]else lkL ls k y n:=by
 unfold lkL
 rw[List.range_succ,List.filterMap_append]
 simp only[List.filterMap_cons,List.filterMap_nil,h]
 by_cases c:x.ky=k∧x.yr=y
 ·rw[if_pos c,if_pos c]
 ·rw[if_neg c,if_neg c,List.append_nil]
theorem lkL_pre(ls:List Lk)(k y:Int){i:Nat}:∀{n:Nat},i≤n→∃r,lkL ls k y n=lkL ls k y i++r:=by
 intro n
 induction n with
 | zero => intro h; obtain rfl : i = 0 := by omega
           exact⟨[],by simp⟩
 |succ n ih=>
  intro h
  by_cases e:i=n+1
  ·subst e;exact⟨[],by simp⟩
  ·obtain⟨r,hr⟩:=ih (by omega)
   unfold lkL at hr ⊢
   rw[List.range_succ,List.filterMap_append,hr,List.append_assoc]
   exact⟨_,rfl⟩
def encL(q:Nat×Lk):List U:=[.int .i64 q.1,q.2.u]
theorem eqb90(a c x y:Int):binV Tryz.prog 90 .eql (valK (yQ a c)) (valK (yQ x y))=some (.bool ((a==x)&&(c==y))):=by
 have h:binV Tryz.prog 90 .eql (valK (yQ a c)) (valK (yQ x y))=opt none (fun b=>some (V.bool b)) (Vam.cond (ieq a x) (Vam.cond (ieq c y) (some true) (some false)) (some false)):=by kernel_rfl
 rw[h,zAT,zAT]
 cases a==x<;>cases c==y<;>rfl
theorem wpc111(hi:Off is)(z:Zt)(k y:Int)(st:List SB):WpC Tryz.prog is orc 111 [.agg (setC z .junk .junk),yQ k y] st fun u st'=>u=.fn 125 [] [.box st.length 0,.box (st.length+1) 0]∧st'=st++[.box (setC z .junk .junk),.box [.int .i64 k,.int .i64 y]]:=by
 refine zGI body111 pure111 rfl rfl ?_
 refine kQ (ya rfl rfl (ya rfl rfl (zE rfl (zA ?_))))
 refine zL [(2,U.box (List.length st) 0),(3,U.box (List.length (st++[SB.box [.int .i64 (Zt.yrs z),.lst .ro 7 (kysU (Zt.keys z)),.lst .ro 2 (spsU (Zt.steps z)),.lst .ro 4 (flsU (Zt.files z)),.lst .ro 4 (lksU (Zt.looks z)),U.junk,U.junk]])) 0)] (st++[SB.box [.int .i64 (Zt.yrs z),.lst .ro 7 (kysU (Zt.keys z)),.lst .ro 2 (spsU (Zt.steps z)),.lst .ro 4 (flsU (Zt.files z)),.lst .ro 4 (lksU (Zt.looks z)),U.junk,U.junk]]++[SB.box [.int .i64 k,.int .i64 y]]) (.n2 rfl) rfl fun fr=>?_
 refine kQ ?_
 refine o_func rfl ?_
 refine zE rfl (zA (zw ?_))
 refine⟨.inr rfl,_,.cons _ _ _ _ (.tmp 4) .nil,?_⟩
 exact⟨_,.refl _,(by show U.fn 125 [] [.box st.length 0,.box (st++[_]).length 0]=_;simp),(by show(st++[_])++[_]=_;simp)⟩
theorem bd_lk(x:Lk)(m:Nat):BdS m (.box [.int .i64 x.yr,.int .i64 x.ky,.int .i64 x.rd,.int .i64 x.er]):=((zEs (zHC (.int 0 _ _) (.int 0 _ _) (.int 0 _ _) (.int 0 _ _))) m).1
set_option maxHeartbeats 16000000 in
theorem gen125(h:ZOk z)(k y:Int)(ci ai:Nat):GenN encL 2 125 [.box ci 0,.box ai 0] (fun st=>st[ci]? =some (.box (setC z .junk .junk))∧st[ai]? =some (.box [.int .i64 k,.int .i64 y])) (lkL z.looks k y z.looks.length):=by
 intro is orc hi N A lp I hc st0 hl0 hI0 hcap
 have hl:=h.l
 have fin:∀st3:List SB,N≤st3.length→(∀x∈st3.take N,BdS N x)→st0.length≤st3.length∧(∀x∈st3.take st0.length,BdS st0.length x)∧(st3.take st0.length).length=N∧st3.take st0.length=st3.take N:=fun st3 h1 h2=>by
  rw[hl0]
  exact⟨h1,h2,by rw[List.length_take];omega,rfl⟩
 obtain⟨c0,a0⟩:=hcap _ _ hI0
 refine zDk body125 pure125 rfl rfl ?_
 refine kQ (kw rfl zAV (kw rfl zCW (zI rfl rfl c0 sh25 rfl ?_)))
 refine zz rfl ty25 rfl (List.length_map _) ?_
 refine zD rfl (zA (zR ?_))
 refine yq (fun kk s2=>∃(i:Nat) (st1:List SB),kk+i=z.looks.length∧I (lkL z.looks k y i) st1∧s2.st=st1∧Holds s2 [(0,.yld A),(2,.box ai 0),(8,.lst .ro 4 (lksU z.looks)),(9,.int .i64 z.looks.length),(10,.int .i64 i)]) (fun kk s2 hJ=>?_) z.looks.length _ ⟨0,st0,rfl,hI0,rfl,.c4 rfl rfl rfl rfl (.n1 rfl)⟩
 obtain⟨i,st1,hk,hI1,hst2,hs2⟩:=hJ
 obtain⟨c1,a1⟩:=hcap _ _ hI1
 refine zL _ _ hs2 hst2 fun fr2=>?_
 by_cases hin:i<z.looks.length
 ·obtain⟨x,hx⟩:∃x,z.looks[i]? =some x:=⟨z.looks[i],List.getElem?_eq_getElem hin⟩
  have hsn:=lkL_succ (k:=k) (y:=y) hx
  have hI2:=hc.ap _ _ _ hI1 (bd_lk x)
  have e90:=eqb90 x.ky x.yr k y
  by_cases c:x.ky=k∧x.yr=y
  ·rw[if_pos c]at hsn
   rw[show((x.ky==k)&&(x.yr==y))=true by simp[c]]at e90
   obtain⟨r,hr0⟩:=lkL_pre z.looks k y (show i+1≤z.looks.length by omega)
   have hr:=hc.run is orc hi _ (i,x) r _ (by rw[hr0,hsn,List.append_assoc];rfl) hI2
   rw[←hsn]at hr
   have hbl:=hc.bl _ _ hI2
   refine kQ (kp rfl (zA (k_seq (k_cT rfl (kF (by omega)) (zV (k_seq (zR (kQ (zD rfl (wb (u:=(x).u) rfl ty25 rfl rfl (Int.natCast_nonneg _) (by simp[hx]) cl68 ?_))))))))))
   refine yL rfl rfl sh68 rfl ?_
   refine zi rfl ze68 ?_
   refine zE rfl (zS rfl (zT _ _) sh68 rfl rfl rfl rfl rfl ?_)
   refine zA ?_
   refine zL [(0,U.yld A),(2,U.box ai 0),(4,.int .i64 ↑i),(5,U.box (List.length st1) 0),(8,.lst .ro 4 (lksU (Zt.looks z))),(9,.int .i64 ↑(List.length (Zt.looks z))),(10,.int .i64 ↑i)] (st1++[SB.box [.int .i64 (Lk.yr x),.int .i64 (Lk.ky x),.int .i64 (Lk.rd x),.int .i64 (Lk.er x)]]) (.n7 rfl) (yK _ _ _) fun fr=>?_
   refine kQ (kw rfl fld68_1 (zI rfl rfl (zT _ _) sh3 rfl ?_))
   refine kw rfl fld68_0 (zI rfl rfl (zT _ _) sh3 rfl ?_)
   refine zZ rfl ze90 pl90 rfl rfl ?_
   refine zg rfl rfl (zn a1) sh90 rfl ?_
   refine o_binK rfl rfl rfl rfl rfl e90 ?_
   refine zD rfl (kf rfl (zD rfl ?_))
   refine yJ [(0,U.yld A),(2,U.box ai 0),(4,.int .i64 ↑i),(5,U.box (List.length st1) 0),(8,.lst .ro 4 (lksU (Zt.looks z))),(9,.int .i64 ↑(List.length (Zt.looks z))),(10,.int .i64 ↑i),(22,.bool true),(23,U.yld A)] [] (st1++[SB.box [.int .i64 (Lk.yr x),.int .i64 (Lk.ky x),.int .i64 (Lk.rd x),.int .i64 (Lk.er x)]]) (.n9 rfl) rfl rfl fun fr=>?_
   refine kf rfl ?_
   refine yJ [(0,U.yld A),(2,U.box ai 0),(4,.int .i64 ↑i),(5,U.box (List.length st1) 0),(8,.lst .ro 4 (lksU (Zt.looks z))),(9,.int .i64 ↑(List.length (Zt.looks z))),(10,.int .i64 ↑i),(22,.bool true),(23,U.yld A)] [] (st1++[SB.box [.int .i64 (Lk.yr x),.int .i64 (Lk.ky x),.int .i64 (Lk.rd x),.int .i64 (Lk.er x)]]) (.n9 rfl) rfl rfl fun fr=>?_
   refine zD rfl (kf rfl (zg rfl rfl (zT _ _) sh68 rfl ?_))
   refine kf rfl ?_
   refine o_yield (a:=A) rfl rfl hbl hc.own hc.ps.2 (by exact hc.ps.1) (.lrefl _) hr (fun u st3 hM=>?_)
   refine kf rfl ?_
   obtain⟨rfl,hI3⟩:=hM
   refine zCp rfl rfl (kE rfl ?_)
   refine zA ?_
   refine zL [(0,U.yld A),(2,U.box ai 0),(8,.lst .ro 4 (lksU (Zt.looks z))),(9,.int .i64 ↑(List.length (Zt.looks z))),(10,.int .i64 ↑i),(23,U.yld A),(24,.int .i64 ↑i),(25,U.agg [.int .i64 (Lk.yr x),.int .i64 (Lk.ky x),.int .i64 (Lk.rd x),.int .i64 (Lk.er x)]),(26,.bool true),(27,U.bool !Bool.true),(28,U.bool !Bool.true)] (st3) (.c4 rfl rfl rfl rfl (.n7 rfl)) rfl fun fr=>?_
   refine k_cF rfl rfl ?_
   refine zV (k_region ?_)
   refine kz rfl (by unfold I64;omega) (zD rfl (zA ?_))
   exact⟨kk - 1,by omega,i+1,st3,by omega,hI3,rfl,.c4 rfl rfl rfl rfl (.n1 rfl)⟩
  ·rw[if_neg c]at hsn
   rw[show((x.ky==k)&&(x.yr==y))=false by simpa using c]at e90
   refine kQ (kp rfl (zA (k_seq (k_cT rfl (kF (by omega)) (zV (k_seq (zR (kQ (zD rfl (wb (u:=(x).u) rfl ty25 rfl rfl (Int.natCast_nonneg _) (by simp[hx]) cl68 ?_))))))))))
   refine yL rfl rfl sh68 rfl ?_
   refine zi rfl ze68 ?_
   refine zE rfl (zS rfl (zT _ _) sh68 rfl rfl rfl rfl rfl ?_)
   refine zA ?_
   refine zL [(0,U.yld A),(2,U.box ai 0),(4,.int .i64 ↑i),(5,U.box (List.length st1) 0),(8,.lst .ro 4 (lksU (Zt.looks z))),(9,.int .i64 ↑(List.length (Zt.looks z))),(10,.int .i64 ↑i)] (st1++[SB.box [.int .i64 (Lk.yr x),.int .i64 (Lk.ky x),.int .i64 (Lk.rd x),.int .i64 (Lk.er x)]]) (.n7 rfl) (yK _ _ _) fun fr=>?_
   refine kQ (kw rfl fld68_1 (zI rfl rfl (zT _ _) sh3 rfl ?_))
   refine kw rfl fld68_0 (zI rfl rfl (zT _ _) sh3 rfl ?_)
   refine zZ rfl ze90 pl90 rfl rfl ?_
   refine zg rfl rfl (zn a1) sh90 rfl ?_
   refine o_binK rfl rfl rfl rfl rfl e90 ?_
   refine zD rfl (ke rfl ?_)
   refine yJ [(0,U.yld A),(2,U.box ai 0),(4,.int .i64 ↑i),(5,U.box (List.length st1) 0),(8,.lst .ro 4 (lksU (Zt.looks z))),(9,.int .i64 ↑(List.length (Zt.looks z))),(10,.int .i64 ↑i),(22,.bool false),(23,U.tup [])] [] (st1++[SB.box [.int .i64 (Lk.yr x),.int .i64 (Lk.ky x),.int .i64 (Lk.rd x),.int .i64 (Lk.er x)]]) (.n9 rfl) rfl rfl fun fr=>?_
   refine ke rfl (ke rfl (ke rfl (ke rfl (kD rfl ?_))))
   refine zA ?_
   refine zL [(0,U.yld A),(2,U.box ai 0),(8,.lst .ro 4 (lksU (Zt.looks z))),(9,.int .i64 ↑(List.length (Zt.looks z))),(10,.int .i64 ↑i),(23,U.tup []),(24,U.tup []),(25,U.tup []),(26,U.tup []),(27,U.tup []),(28,.bool false)] (st1++[SB.box [.int .i64 (Lk.yr x),.int .i64 (Lk.ky x),.int .i64 (Lk.rd x),.int .i64 (Lk.er x)]]) (.c4 rfl rfl rfl rfl (.n7 rfl)) rfl fun fr=>?_
   refine k_cF rfl rfl ?_
   refine zV (k_region ?_)
   refine kz rfl (by unfold I64;omega) (zD rfl (zA ?_))
   exact⟨kk - 1,by omega,i+1,_,by omega,by rw[hsn];exact hI2,rfl,.c4 rfl rfl rfl rfl (.n1 rfl)⟩
 ·obtain rfl:i=z.looks.length:=by omega
  refine kQ (kp rfl (zA (k_seq (k_cF rfl (kG (by omega)) (yj ?_)))))
  obtain⟨f1,f2,f4,f3⟩:=fin st1 (hc.len _ _ hI1) (hc.bd _ _ hI1)
  exact⟨.inl rfl,_,.nil,_,.refl _,Bd.tup (fun c hc=>by cases hc),f1,f2,f4,(by show I _ (st1.take st0.length);rw[f3];exact hc.tk _ _ hI1)⟩
theorem ret138n(hi:Off is)(n:Int):RetP Tryz.prog is orc 138 [.lst .full 0 [],.int .i64 n] (.int .i64 (-1)):=by
 refine yp body138 pure138 (hi 138 (by decide)) rfl rfl (wQ (.lst _ .full _ _ (fun h=>by cases h) fun c hc=>by cases hc) (.int _ _ _)) (.inl (.int _ _ _)) ?_
 refine kQ (zE rfl (zA (k_seq (kQ (zD rfl (zz rfl ty40 rfl rfl ?_))))))
 refine zD rfl (zA (zR ?_))
 refine yq (fun kk s2=>Holds s2 [(7,.int .i64 0),(8,.int .i64 0)]) (fun kk s2 hs=>?_) 0 _ (.n2 rfl)
 obtain⟨Y,hY⟩:∃Y,s2.st=Y:=⟨_,rfl⟩
 refine zL _ _ hs hY fun fr=>?_
 refine kQ (kp rfl (zA (k_seq (k_cF rfl rfl ?_))))
 refine yj (kQ (zE rfl (zA (zw ?_))))
 refine⟨.inr rfl,_,.cons _ _ _ _ (.tmp 4) .nil,?_⟩
 exact .refl _
theorem ret121n(hi:Off is)(n:Int):RetP Tryz.prog is orc 121 [.lst .full 0 [],.int .i64 n] (.bool false):=by
 refine yp body121 pure121 (hi 121 (by decide)) rfl rfl (wQ (.lst _ .full _ _ (fun h=>by cases h) fun c hc=>by cases hc) (.int _ _ _)) (.inl (.bool _ _)) ?_
 have q:=ret138n (orc:=orc) hi n
 refine kQ (zE rfl (zA (kQ (zD rfl (zD rfl (zY rfl (q) (.lrefl _) (o_geq rfl rfl rfl (zE rfl (zA (zw ?_))))))))))
 refine⟨.inr rfl,_,.cons _ _ _ _ (.tmp 4) .nil,?_⟩
 exact .refl _
end
section
variable {is:FuncId→Bool}{orc:Known}{z:Zt}
theorem sh40:shOf Tryz.prog 40=.one:=by kernel_rfl
noncomputable def b104:Code:=(Tryz.f104.body).getD .skip
theorem body104:bodyOf Tryz.prog 104=some (65,b104,[.cell 4 92]):=by kernel_rfl
theorem pure104:pureFn Tryz.prog 104=false:=by kernel_rfl
def fldS(l:List (Nat×Lk))(a:Sp):Sp:=l.foldl (fun a q=>zAj a (q.2.rd - q.2.er,q.2.rd+q.2.er)) a
theorem fld_snoc(l:List (Nat×Lk))(q:Nat×Lk)(a:Sp):fldS (l++[q]) a=zAj (fldS l a) (q.2.rd - q.2.er,q.2.rd+q.2.er):=by
 unfold fldS;rw[List.foldl_append];rfl
theorem lk_snoc(ls:List Lk)(x:Lk)(k y:Int)(a:Sp):lkS (ls++[x]) k y a=if x.ky=k∧x.yr=y then zAj (lkS ls k y a) (x.rd - x.er,x.rd+x.er)else lkS ls k y a:=by
 unfold lkS;rw[List.foldl_append];rfl
theorem fld_lk(ls:List Lk)(k y:Int)(a:Sp):∀n,n≤ls.length→fldS (lkL ls k y n) a=lkS (ls.take n) k y a:=by
 intro n
 induction n with
 |zero=>intro _;simp[lkL,fldS,lkS]
 |succ n ih=>
  intro h
  have hx:ls[n]? =some (ls[n]'(by omega)):=List.getElem?_eq_getElem (by omega)
  rw[lkL_succ hx,zGN hx,lk_snoc]
  by_cases c:(ls[n]'(by omega)).ky=k∧(ls[n]'(by omega)).yr=y
  ·rw[if_pos c,if_pos c,fld_snoc,ih (by omega)]
  ·rw[if_neg c,if_neg c,ih (by omega)]
theorem lkL_mem{ls:List Lk}{k y:Int}{n:Nat}{q:Nat×Lk}(h:q∈lkL ls k y n):q.2∈ls:=by
 unfold lkL at h
 obtain⟨i,_,h⟩:=List.mem_filterMap.1 h
 cases hx:ls[i]? with
 |none=>rw[hx]at h;cases h
 |some x=>
  rw[hx]at h
  simp only at h
  split at h
  ·cases h;exact List.mem_of_getElem? hx
  ·cases h
theorem updS_updS(F:Nat→Sp)(j:Nat)(a b:Sp):updS (updS F j a) j b=updS F j b:=by
 funext k
 unfold updS
 by_cases c:k=j
 ·rw[if_pos c,if_pos c]
 ·rw[if_neg c,if_neg c,if_neg c]
def bgF(z:Zt)(k:Nat)(n:Nat):Nat→Sp:=fun j=>if j<n then lkS z.looks k j (1800,23200)else(0,0)
theorem bgF_succ(z:Zt)(k n:Nat):bgF z k (n+1)=updS (bgF z k n) n (lkS z.looks k n (1800,23200)):=by
 funext j
 show(if j<n+1 then lkS z.looks k j (1800,23200)else(0,0))=if j=n then _ else if j<n then lkS z.looks k j (1800,23200)else(0,0)
 by_cases c:j=n
 ·subst c;rw[if_pos rfl,if_pos (by omega)]
 ·rw[if_neg c]
  by_cases c2:j<n
  ·rw[if_pos c2,if_pos (by omega)]
  ·rw[if_neg c2,if_neg (by omega)]
def bgV(z:Zt)(k:Nat)(st:List SB)(F:Nat→Sp):List SB:=st++[.box (crsC z .junk .junk k),.box [.lst .full 0 []],.box (arrC wc),.box (arrC F)]
theorem zHE(z:Zt)(k:Nat)(st:List SB)(F:Nat→Sp)(e:List SB):(bgV z k st F++e)[st.length]? =some (.box (crsC z .junk .junk k))∧(bgV z k st F++e)[st.length+1]? =some (.box [.lst .full 0 []])∧(bgV z k st F++e)[st.length+2]? =some (.box (arrC wc))∧(bgV z k st F++e)[st.length+3]? =some (.box (arrC F)):=by
 unfold bgV
 rw[List.append_assoc]
 exact⟨zAb (j:=0) rfl,zAb (j:=1) rfl,zAb (j:=2) rfl,zAb (j:=3) rfl⟩
theorem bgV_set(z:Zt)(k:Nat)(st:List SB)(F G:Nat→Sp)(e:List SB):(bgV z k st F++e).set (st.length+3) (.box (arrC G))=bgV z k st G++e:=by
 unfold bgV
 rw[List.append_assoc,zEp,List.append_assoc];rfl
theorem bgV_len(z:Zt)(k:Nat)(st:List SB)(F:Nat→Sp):(bgV z k st F).length=st.length+4:=by simp[bgV]
theorem junk_pln{cs:List U}(h:∀c∈cs,c=.junk∨Dat 5 c):Pln (.box cs):=fun n=>⟨fun c hc=>by
 rcases h c hc with rfl|h
 ·exact Bd.junk _
 ·exact h.bd _,fun c hc=>by
 rcases h c hc with rfl|h
 ·exact NB.junk.fwd _
 ·exact h.nb.fwd _⟩
theorem pln_set(z:Zt):Pln (.box (setC z .junk .junk)):=junk_pln fun c hc=>by
 simp only[List.mem_cons,List.not_mem_nil,or_false]at hc
 rcases hc with rfl|rfl|rfl|rfl|rfl|rfl|rfl
 ·exact .inr (.int _ _ _)
 ·exact .inr (zEB _ 3)
 ·exact .inr (zBD _ 3)
 ·exact .inr (zEC _ 3)
 ·exact .inr (zEA _ 3)
 ·exact .inl rfl
 ·exact .inl rfl
theorem pln_crs(z:Zt)(k:Int):Pln (.box (crsC z .junk .junk k)):=junk_pln fun c hc=>by
 simp only[List.mem_cons,List.not_mem_nil,or_false]at hc
 rcases hc with rfl|rfl|rfl|rfl|rfl|rfl|rfl|rfl
 ·exact .inr (.int _ _ _)
 ·exact .inr (zEB _ 3)
 ·exact .inr (zBD _ 3)
 ·exact .inr (zEC _ 3)
 ·exact .inr (zEA _ 3)
 ·exact .inl rfl
 ·exact .inl rfl
 ·exact .inr (.int _ _ _)
theorem bgV_bd(z:Zt)(k:Nat){st:List SB}(hb:∀x∈st,BdS st.length x)(F:Nat→Sp){n:Nat}(hn:st.length≤n):∀x∈bgV z k st F,BdS n x:=fun x hx=>by
 rcases List.mem_append.1 hx with hx|hx
 ·exact BdS.mono (hb x hx) hn
 ·simp only[List.mem_cons,List.not_mem_nil,or_false]at hx
  rcases hx with rfl|rfl|rfl|rfl
  ·exact(pln_crs z k n).1
  ·exact bd_lst (k:=2) (.lst _ .full _ _ (fun h=>by cases h) fun c hc=>by cases hc) _
  ·exact zFX _ _
  ·exact zFX _ _
set_option maxHeartbeats 16000000 in
theorem wpc104(hi:Off is)(h:ZOk z){k:Nat}(hk:k<z.keys.length){st:List SB}(hb:∀x∈st,BdS st.length x):WpC Tryz.prog is orc 104 [.agg (crsC z .junk .junk k),.lst .full 0 []] st fun u st'=>u=.agg (arrC (begS z k))∧st'=st:=by
 refine zDk body104 pure104 rfl rfl ?_
 have hy:=h.y
 refine kQ (ya rfl rfl (ya rfl rfl (zAQ rfl ze92 zAL ?_)))
 refine zA ?_
 refine zL [(2,U.box (List.length st) 0),(3,U.box (List.length (st++[SB.box [.int .i64 (Zt.yrs z),.lst .ro 7 (kysU (Zt.keys z)),.lst .ro 2 (spsU (Zt.steps z)),.lst .ro 4 (flsU (Zt.files z)),.lst .ro 4 (lksU (Zt.looks z)),U.junk,U.junk,.int .i64 ↑k]])) 0),(4,U.box (List.length (st++[SB.box [.int .i64 (Zt.yrs z),.lst .ro 7 (kysU (Zt.keys z)),.lst .ro 2 (spsU (Zt.steps z)),.lst .ro 4 (flsU (Zt.files z)),.lst .ro 4 (lksU (Zt.looks z)),U.junk,U.junk,.int .i64 ↑k]]++[SB.box [.lst .full 0 []]])) 0)] (st++[SB.box [.int .i64 (Zt.yrs z),.lst .ro 7 (kysU (Zt.keys z)),.lst .ro 2 (spsU (Zt.steps z)),.lst .ro 4 (flsU (Zt.files z)),.lst .ro 4 (lksU (Zt.looks z)),U.junk,U.junk,.int .i64 ↑k]]++[SB.box [.lst .full 0 []]]++[SB.box (arrC wc)]) (.n3 rfl) rfl fun fr=>?_
 refine kQ (zAQ rfl ze92 zAL ?_)
 refine zA ?_
 refine zL [(2,U.box (List.length st) 0),(3,U.box (List.length (st++[SB.box [.int .i64 (Zt.yrs z),.lst .ro 7 (kysU (Zt.keys z)),.lst .ro 2 (spsU (Zt.steps z)),.lst .ro 4 (flsU (Zt.files z)),.lst .ro 4 (lksU (Zt.looks z)),U.junk,U.junk,.int .i64 ↑k]])) 0),(4,U.box (List.length (st++[SB.box [.int .i64 (Zt.yrs z),.lst .ro 7 (kysU (Zt.keys z)),.lst .ro 2 (spsU (Zt.steps z)),.lst .ro 4 (flsU (Zt.files z)),.lst .ro 4 (lksU (Zt.looks z)),U.junk,U.junk,.int .i64 ↑k]]++[SB.box [.lst .full 0 []]])) 0),(5,U.box (List.length (st++[SB.box [.int .i64 (Zt.yrs z),.lst .ro 7 (kysU (Zt.keys z)),.lst .ro 2 (spsU (Zt.steps z)),.lst .ro 4 (flsU (Zt.files z)),.lst .ro 4 (lksU (Zt.looks z)),U.junk,U.junk,.int .i64 ↑k]]++[SB.box [.lst .full 0 []]]++[SB.box (arrC wc)])) 0)] (st++[SB.box [.int .i64 (Zt.yrs z),.lst .ro 7 (kysU (Zt.keys z)),.lst .ro 2 (spsU (Zt.steps z)),.lst .ro 4 (flsU (Zt.files z)),.lst .ro 4 (lksU (Zt.looks z)),U.junk,U.junk,.int .i64 ↑k]]++[SB.box [.lst .full 0 []]]++[SB.box (arrC wc)]++[SB.box (arrC wc)]) (.n4 rfl) rfl fun fr=>?_
 refine zL [(2,.box st.length 0),(3,.box (st.length+1) 0),(4,.box (st.length+2) 0),(5,.box (st.length+3) 0)] (bgV z k st (bgF z k 0)) (.cons rfl (.cons (by show U.box _ 0=_;simp) (.cons (by show U.box _ 0=_;simp) (.cons (by show U.box _ 0=_;simp) (.nil rfl))))) (by show _=_;unfold bgV;simp;rfl) fun fr=>?_
 obtain⟨yA,_,_,_⟩:=zHE z k st (bgF z k 0) []
 rw[List.append_nil]at yA
 refine k_seq (kQ (kw rfl zCX (kw rfl zAV (kw rfl wA (zI rfl rfl yA sh3 rfl ?_)))))
 refine kz rfl (by unfold I64;omega) (zD rfl (zA (zR ?_)))
 refine yq (fun kk s1=>∃(y:Nat) (e:List SB),kk+y=z.yrs.toNat+1∧(∀x∈e,Pln x)∧s1.st=bgV z k st (bgF z k y)++e∧Holds s1 [(2,.box st.length 0),(3,.box (st.length+1) 0),(4,.box (st.length+2) 0),(5,.box (st.length+3) 0),(13,.int .i64 (z.yrs+1)),(14,.int .i64 y)]) (fun kk s1 hI=>?_) (z.yrs.toNat+1) _ ⟨0,[],rfl,(fun x hx=>by cases hx),(by rw[List.append_nil];rfl),.c4 rfl rfl rfl rfl (.n2 rfl)⟩
 obtain⟨y,e,hkk,he,hst,hs⟩:=hI
 by_cases hin:y<z.yrs.toNat+1
 ·obtain⟨N,hN⟩:∃N,N=st.length+4+e.length:=⟨_,rfl⟩
  obtain⟨Y,hY⟩:∃Y,Y=bgV z k st (bgF z k y)++e:=⟨_,rfl⟩
  have hYN:Y.length=N:=by rw[hY,List.length_append,bgV_len,hN]
  rw[←hY]at hst
  refine zL _ _ hs hst fun fr2=>?_
  refine kQ (kp rfl (zA (k_seq (k_cT rfl (kF (by omega)) (zV (k_seq (zR (kQ (zD rfl (zi rfl ze3 ?_))))))))))
  refine o_store1 rfl (zT _ _) sh3 rfl rfl ?_
  refine zA ?_
  refine zL [(2,U.box (List.length st) 0),(3,U.box (List.length st+1) 0),(4,U.box (List.length st+2) 0),(5,U.box (List.length st+3) 0),(6,U.box (List.length Y) 0),(13,.int .i64 (Zt.yrs z+(1:Int))),(14,.int .i64 ↑y)] (Y++[SB.box [.int .i64 ↑y]]) (.n7 rfl) (yK _ _ _) fun fr=>?_
  have pN:∀F:Nat→Sp,(bgV z k st F++e).length=N:=fun F=>by rw[List.length_append,bgV_len,hN]
  have atN:∀(F:Nat→Sp) (B:List SB) (j:Nat) (x:SB),B[j]? =some x→(bgV z k st F++(e++B))[N+j]? =some x:=fun F B j x hx=>by
   rw[←List.append_assoc,←pN F];exact zAb hx
  obtain⟨Y1,hY1⟩:∃Y,Y=bgV z k st (bgF z k y)++(e++[SB.box [.int .i64 y]]):=⟨_,rfl⟩
  refine zL [(2,.box st.length 0),(3,.box (st.length+1) 0),(4,.box (st.length+2) 0),(5,.box (st.length+3) 0),(6,.box N 0),(13,.int .i64 (z.yrs+1)),(14,.int .i64 y)] Y1 (.c4 rfl rfl rfl rfl (.cons (by rw[←hYN];rfl) (.n2 rfl))) (by show Y++[SB.box [.int .i64 (y:Int)]]=_;rw[hY,hY1,List.append_assoc]) fun fr3=>?_
  have u3:Y1[st.length+3]? =some (.box (arrC (bgF z k y))):=by rw[hY1];exact(zHE _ _ _ _ _).2.2.2
  have u6:Y1[N]? =some (.box [.int .i64 y]):=by rw[hY1];exact atN _ _ 0 _ rfl
  refine kQ (zI rfl rfl u6 sh3 rfl ?_)
  refine zZ rfl ze35 pl35 rfl rfl ?_
  refine zAt rfl ty92 rfl rfl (by omega) (by omega) cl35 ?_
  refine o_stA (F:=bgF z k y) y (v:=(1800,23200)) (by omega) rfl (by omega) u3 sh35 rfl ?_
  refine zA ?_
  obtain⟨Y2,hY2⟩:∃Y,Y=bgV z k st (updS (bgF z k y) y (1800,23200))++(e++[SB.box [.int .i64 y]]):=⟨_,rfl⟩
  refine zL [(2,.box st.length 0),(3,.box (st.length+1) 0),(4,.box (st.length+2) 0),(5,.box (st.length+3) 0),(6,.box N 0),(13,.int .i64 (z.yrs+1)),(14,.int .i64 y)] Y2 (.n7 rfl) (by show Y1.set (st.length+3) _=_;rw[hY1,bgV_set,hY2]) fun fr4=>?_
  have v0:Y2[st.length]? =some (.box (crsC z .junk .junk k)):=by rw[hY2];exact(zHE _ _ _ _ _).1
  have v6:Y2[N]? =some (.box [.int .i64 y]):=by rw[hY2];exact atN _ _ 0 _ rfl
  refine kQ (kw rfl zCX (zg rfl rfl v0 sh83 rfl ?_))
  refine kw rfl zGD (zI rfl rfl v0 sh3 rfl ?_)
  refine zI rfl rfl v6 sh3 rfl ?_
  refine zZ rfl ze90 pl90 rfl rfl ?_
  refine zAO rfl (wpc111 hi z k y _) (.lrefl _) (fun u st1 hM=>?_)
  refine zA (zR ?_)
  obtain⟨rfl,rfl⟩:=hM
  have hY2N:Y2.length=N+1:=by rw[hY2,←List.append_assoc,List.length_append,pN];rfl
  have bN:∀F:Nat→Sp,(bgV z k st F++(e++[SB.box [.int .i64 y],.box (setC z .junk .junk),.box [.int .i64 k,.int .i64 y]])).length=N+3:=fun F=>by
   rw[←List.append_assoc,List.length_append,pN];rfl
  have bB:∀F:Nat→Sp,∀x∈bgV z k st F++(e++[SB.box [.int .i64 y],.box (setC z .junk .junk),.box [.int .i64 k,.int .i64 y]]),BdS (N+3) x:=fun F x hx=>by
   rcases List.mem_append.1 hx with hx|hx
   ·exact bgV_bd z k hb F (by omega) x hx
   ·rcases List.mem_append.1 hx with hx|hx
    ·exact(he x hx _).1
    ·simp only[List.mem_cons,List.not_mem_nil,or_false]at hx
     rcases hx with rfl|rfl|rfl
     ·exact bd_lst (.int 0 _ _) _
     ·exact(pln_set z _).1
     ·exact bd_ints2 _ _ _
  refine k_forget [(2,.box st.length 0),(3,.box (st.length+1) 0),(4,.box (st.length+2) 0),(5,.box (st.length+3) 0),(6,.box N 0),(13,.int .i64 (z.yrs+1)),(14,.int .i64 y),(26,.fn 125 [] [.box (N+1) 0,.box (N+1+1) 0])] (bgV z k st (updS (bgF z k y) y (fldS [] (1800,23200)))++(e++[SB.box [.int .i64 y],.box (setC z .junk .junk),.box [.int .i64 k,.int .i64 y]])) (.c4 rfl rfl rfl rfl (.cons rfl (.cons rfl (.cons rfl (.cons (by rw[←hY2N];rfl) (.nil rfl)))))) (by show Y2++_=_;rw[hY2];simp[fldS]) ?_
  refine k_rangeN (n:=N+3) (I:=fun l Z=>Z=bgV z k st (updS (bgF z k y) y (fldS l (1800,23200)))++(e++[SB.box [.int .i64 y],.box (setC z .junk .junk),.box [.int .i64 k,.int .i64 y]])) hi (gen125 h k y (N+1) (N+1+1)) rfl (cns_of ?_ ?_ (fun i=>zDZ _) ⟨rfl,rfl⟩ ?_) ?_ ?_ rfl (bN _) rfl ?_
  ·rintro l Z rfl _;exact bB _
  ·intro i
   refine lookU_all (p:=fun u=>Bd (N+3+1) (dg u)) (l:=[(2,.box st.length 0),(3,.box (st.length+1) 0),(4,.box (st.length+2) 0),(5,.box (st.length+3) 0),(6,.box N 0),(13,.int .i64 (z.yrs+1)),(14,.int .i64 y),(26,.fn 125 [] [.box (N+1) 0,.box (N+1+1) 0])]) ?_ (Bd.junk _) i
   intro x hx
   simp only[List.mem_cons,List.not_mem_nil,or_false]at hx
   rcases hx with rfl|rfl|rfl|rfl|rfl|rfl|rfl|rfl
   ·exact Bd.box (by omega)
   ·exact Bd.box (by omega)
   ·exact Bd.box (by omega)
   ·exact Bd.box (by omega)
   ·exact Bd.box (by omega)
   ·exact Bd.int _ _ _
   ·exact Bd.int _ _ _
   ·exact Bd.fn (fun u hu=>by cases hu) fun u hu=>by
     simp only[List.mem_cons,List.not_mem_nil,or_false]at hu
     rcases hu with rfl|rfl<;>exact Bd.box (by omega)
  ·generalize hlp:lpOf _ _ _ _=lp
   rintro is orc hi l q r Z e2 hels rfl hZl hbe
   have hxm:q.2∈z.looks:=lkL_mem (by rw[hels];simp)
   have hxb:=(h.ll _ hxm).2.2
   dsimp only[Inv]
   rw[fld_snoc,←updS_updS (bgF z k y) y (fldS l (1800,23200)) (zAj (fldS l (1800,23200)) (q.2.rd - q.2.er,q.2.rd+q.2.er))]
   obtain⟨G,hG⟩:∃G,updS (bgF z k y) y (fldS l (1800,23200))=G:=⟨_,rfl⟩
   have hGy:G y=fldS l (1800,23200):=by rw[←hG];unfold updS;rw[if_pos rfl]
   rw[hG,←hGy]
   rw[hG]at hZl
   clear hG hGy hels
   obtain⟨i,x⟩:=q
   simp only at hxb hxm
   obtain⟨g,hg⟩:∃g,G y=g:=⟨_,rfl⟩
   rw[hg]
   obtain⟨g1,g2⟩:=g
   have q1:=ret122 (orc:=orc) hi g1 g2 (x.rd - x.er) (x.rd+x.er)
   have q2:=ret121n (orc:=orc) hi i
   unfold WpY
   rw[←congrArg Lp.assign hlp,←congrArg Lp.body hlp,←congrArg Lp.ps hlp,←congrArg Lp.fr hlp]
   obtain⟨T,hT⟩:∃T,T=[SB.box [.int .i64 y],.box (setC z .junk .junk),.box [.int .i64 k,.int .i64 y]]:=⟨_,rfl⟩
   rw[←hT]at hZl
   rw[←hT]
   obtain⟨Y1,hY1⟩:∃Y,Y=(bgV z k st G++(e++T))++(SB.loop .ready lp::e2):=⟨_,rfl⟩
   rw[←hY1]
   refine kQ (zE rfl (zA (k_region (zi rfl ze68 ?_))))
   refine zS rfl (zT _ _) sh68 rfl rfl rfl rfl rfl ?_
   refine zA ?_
   have hYl:Y1.length=N+3+1+e2.length:=by rw[hY1,List.length_append,hZl,List.length_cons];omega
   refine⟨rfl,?_,?_⟩
   ·show((Y1++[SB.box _]).set Y1.length (SB.box _))[N+3]? =_
    rw[yK,hY1];exact zn (at_n hZl)
   ·obtain⟨Y2,hY2⟩:∃Y,Y=(bgV z k st G++(e++T))++(SB.loop .busy lp::(e2++[SB.box [.int .i64 x.yr,.int .i64 x.ky,.int .i64 x.rd,.int .i64 x.er]])):=⟨_,rfl⟩
    have w1:Y2[st.length+1]? =some (.box [.lst .full 0 []]):=by rw[hY2,List.append_assoc];exact(zHE _ _ _ _ _).2.1
    have w3:Y2[st.length+3]? =some (.box (arrC G)):=by rw[hY2,List.append_assoc];exact(zHE _ _ _ _ _).2.2.2
    have w6:Y2[N]? =some (.box [.int .i64 y]):=by rw[hY2,List.append_assoc,List.append_assoc,hT];exact atN _ _ 0 _ rfl
    have w8:Y2[Y1.length]? =some (.box [.int .i64 x.yr,.int .i64 x.ky,.int .i64 x.rd,.int .i64 x.er]):=by
     rw[hY2,hYl,show(bgV z k st G++(e++T))++(SB.loop .busy lp::(e2++[SB.box [.int .i64 x.yr,.int .i64 x.ky,.int .i64 x.rd,.int .i64 x.er]]))=((bgV z k st G++(e++T))++(SB.loop .busy lp::e2))++[SB.box [.int .i64 x.yr,.int .i64 x.ky,.int .i64 x.rd,.int .i64 x.er]] by simp]
     rw[List.getElem?_append_right (by rw[List.length_append,hZl,List.length_cons];omega),List.length_append,hZl,List.length_cons,show N+3+1+e2.length - (N+3+(e2.length+1))=0 by omega];rfl
    refine zL [(2,.box st.length 0),(3,.box (st.length+1) 0),(4,.box (st.length+2) 0),(5,.box (st.length+3) 0),(6,.box N 0),(7,.int .i64 (i:Int)),(8,.box Y1.length 0)] Y2 (.n7 rfl) (by
     show(((Y1++[SB.box _]).set Y1.length (SB.box _)).set (N+3) (.loop .busy lp))=_
     rw[yK,hY1,hY2,List.append_assoc,List.cons_append,set_n hZl];rfl) fun fr=>?_
    refine zR (kQ (zI rfl rfl w1 sh40 rfl ?_))
    refine zD rfl (zY rfl (q2) (.lrefl _) (zCp rfl rfl (zA (k_cT rfl rfl ?_))))
    refine wM [.read true,.read true,.plain,.read true,.plain,.read true,.plain,.read true,.plain,.plain,.read true,.plain,.read true,.plain,.plain,.read false,.plain,.plain] (by kernel_rfl) (by kernel_rfl) (by kernel_rfl) ?_
    refine zJ rfl (zI rfl rfl w6 sh3 rfl (zA rfl)) ?_
    refine zJ rfl (zI rfl rfl w6 sh3 rfl (zA rfl)) ?_
    refine zC (zAt rfl ty92 rfl rfl (by omega) (by omega) cl35 (zA rfl)) ?_
    refine zJ rfl (o_ldA (F:=G) y (by omega) rfl rfl (by omega) w3 sh35 (by rw[hg];exact zA rfl)) ?_
    refine zC (kw rfl fld68_2 (zA rfl)) ?_
    refine zJ rfl (zI rfl rfl w8 sh3 rfl (zA rfl)) ?_
    refine zC (kw rfl fld68_3 (zA rfl)) ?_
    refine zJ rfl (zI rfl rfl w8 sh3 rfl (zA rfl)) ?_
    refine zC (zDc rfl rfl rfl (by unfold I64;omega) (zA rfl)) ?_
    refine zp [(2,U.box (List.length st) 0),(3,U.box (List.length st+1) 0),(4,U.box (List.length st+2) 0),(5,U.box (List.length st+3) 0),(6,U.box N 0),(7,.int .i64 ↑i),(8,U.box (List.length Y1) 0),(29,.lst .full 0 []),(30,.int .i64 ↑i),(31,.bool false),(33,.int .i64 ↑y),(34,.int .i64 ↑y),(35,U.box (List.length st+3) (0+Int.toNat ↑y*2)),(36,spU (g1,g2)),(37,U.box (List.length Y1) 2),(38,.int .i64 (Lk.rd x)),(39,U.box (List.length Y1) 3),(40,.int .i64 (Lk.er x)),(41,.int .i64 (Lk.rd x - Lk.er x))] [] (Y2) (.c4 rfl rfl rfl rfl (.c4 rfl rfl rfl rfl (.c4 rfl rfl rfl rfl (.n7 rfl)))) rfl rfl fun fr=>?_
    refine zC (kw rfl fld68_2 (zA rfl)) ?_
    refine zJ rfl (zI rfl rfl w8 sh3 rfl (zA rfl)) ?_
    refine zC (kw rfl fld68_3 (zA rfl)) ?_
    refine zJ rfl (zI rfl rfl w8 sh3 rfl (zA rfl)) ?_
    refine zC (kz rfl (by unfold I64;omega) (zA rfl)) ?_
    refine zC (zZ rfl ze35 pl35 rfl rfl (zA rfl)) ?_
    refine yH rfl (q1) (zf _ _) (.lrefl _) ?_
    refine zC (zAt rfl ty92 rfl rfl (by omega) (by omega) cl35 (zA rfl)) ?_
    refine zC (o_stA (F:=G) y (v:=(max g1 (x.rd - x.er),min g2 (x.rd+x.er))) (by omega) rfl (by omega) w3 sh35 rfl (zA rfl)) ?_
    refine zAK ?_
    have hset:∀(lq:Lq) (E:List SB),((bgV z k st G++(e++T))++(SB.loop lq lp::E)).set (st.length+3) (.box (arrC (updS G y (max g1 (x.rd - x.er),min g2 (x.rd+x.er)))))=(bgV z k st (updS G y (max g1 (x.rd - x.er),min g2 (x.rd+x.er)))++(e++T))++(SB.loop lq lp::E):=fun lq E=>by
     rw[List.append_assoc,bgV_set];simp
    have hZ2:(bgV z k st (updS G y (max g1 (x.rd - x.er),min g2 (x.rd+x.er)))++(e++T)).length=N+3:=by rw[hT];exact bN _
    refine⟨?_,rfl,bgV z k st (updS G y (max g1 (x.rd - x.er),min g2 (x.rd+x.er)))++(e++T),e2++[SB.box [.int .i64 x.yr,.int .i64 x.ky,.int .i64 x.rd,.int .i64 x.er]],rfl,hZ2,bd_e hbe (bd_lk x),?_⟩
    ·show(Y2.set (st.length+3) _)[N+3]? =_
     rw[hY2,hset];exact at_n hZ2
    ·show(Y2.set (st.length+3) _).set (N+3) (.loop .ready lp)=_
     rw[hY2,hset,set_n hZ2]
  ·rintro l Z r rfl _
   rw[List.append_assoc,List.append_assoc]
   exact⟨atN _ _ 1 _ rfl,atN _ _ 2 _ rfl⟩
  ·rintro l Z rfl _;exact bB _
  ·rintro Z rfl _
   rw[fld_lk _ _ _ _ _ (Nat.le_refl _),List.take_length,←bgF_succ]
   show Wp Tryz.prog is orc _ _ _
   refine k_region ?_
   refine kz rfl (by unfold I64;omega) (zD rfl (zA ?_))
   refine⟨kk - 1,by omega,y+1,_,by omega,fun x hx=>?_,rfl,.c4 rfl rfl rfl rfl (.n2 rfl)⟩
   rcases List.mem_append.1 hx with hx|hx
   ·exact he x hx
   ·simp only[List.mem_cons,List.not_mem_nil,or_false]at hx
    rcases hx with rfl|rfl|rfl
    ·exact zEs (zCl (.int 0 _ _))
    ·exact pln_set z
    ·exact zEs (wQ (.int 0 _ _) (.int 0 _ _))
 ·obtain rfl:y=z.yrs.toNat+1:=by omega
  obtain⟨Y,hY⟩:∃Y,Y=bgV z k st (bgF z k (z.yrs.toNat+1))++e:=⟨_,rfl⟩
  obtain⟨yA,yB,yC,yD⟩:=zHE z k st (bgF z k (z.yrs.toNat+1)) e
  have yE:=fun G=>bgV_set z k st (bgF z k (z.yrs.toNat+1)) G e
  rw[←hY]at hst yA yB yC yD yE
  obtain⟨ky,hky⟩:∃x,z.keys[k]? =some x:=⟨z.keys[k],List.getElem?_eq_getElem hk⟩
  have hkz:z.key k=ky:=by unfold Zt.key;rw[hky];rfl
  have hkyu:(kysU z.keys)[k]? =some ky.u:=by rw[List.getElem?_map,hky];rfl
  have hfin:arrC (updS (bgF z k (z.yrs.toNat+1)) 0 (zAj (bgF z k (z.yrs.toNat+1) 0) ky.bg))=arrC (begS z k):=arr_congr fun j _=>by
   unfold updS begS bgF
   by_cases c:j=0
   ·subst c
    rw[if_pos rfl,if_pos rfl,if_pos (by omega),hkz];rfl
   ·rw[if_neg c,if_neg c]
    by_cases c2:j≤z.yrs.toNat
    ·rw[if_pos c2,if_pos (by omega)]
    ·rw[if_neg c2,if_neg (by omega)]
  generalize bgF z k (z.yrs.toNat+1)=G at*
  obtain⟨g,hg⟩:∃g,G 0=g:=⟨_,rfl⟩
  rw[hg]at hfin
  obtain⟨g1,g2⟩:=g
  have q1:=ret122 (orc:=orc) hi g1 g2 ky.bg.1 ky.bg.2
  refine zL _ _ hs hst fun fr2=>?_
  refine kQ (kp rfl (zA (k_seq (k_cF rfl (kG (by omega)) (yj (k_seq (wM [.plain,.read true,.plain,.plain,.plain,.read true,.plain,.read true,.plain,.plain,.read true,.plain,.plain,.plain] (by kernel_rfl) (by kernel_rfl) (by kernel_rfl) ?_)))))))
  refine zC (zAt rfl ty92 rfl rfl (by omega) (by omega) cl35 (zA rfl)) ?_
  refine zJ rfl (o_ldA (F:=G) 0 (by omega) rfl rfl (by omega) yD sh35 (by rw[hg];exact zA rfl)) ?_
  refine zC (kw rfl zCX (zA rfl)) ?_
  refine zC (kw rfl zAV (zA rfl)) ?_
  refine zC (kw rfl yT (zA rfl)) ?_
  refine zJ rfl (zI rfl rfl yA sh22 rfl (zA rfl)) ?_
  refine zC (kw rfl zGD (zA rfl)) ?_
  refine zJ rfl (zI rfl rfl yA sh3 rfl (zA rfl)) ?_
  refine zC (wb (u:=ky.u) rfl ty22 rfl rfl (Int.natCast_nonneg _) hkyu cl62 (zA rfl)) ?_
  refine zp [(4,U.box (List.length st+2) 0),(5,U.box (List.length st+3) 0),(52,spU (g1,g2)),(59,U.eref [.int .i64 (Prod.fst (Ky.bg ky)),.int .i64 (Prod.snd (Ky.bg ky)),.int .i64 (Prod.fst (Ky.rt ky)),.int .i64 (Prod.snd (Ky.rt ky)),U.bool (Ky.fx ky),.int .i64 (Ky.dn ky),.int .i64 (Ky.up ky)] 0)] [] (Y) (.n4 rfl) rfl rfl fun fr=>?_
  refine zC (o_faddrR rfl rfl fld62_0 (zA rfl)) ?_
  refine zJ rfl (yL rfl rfl sh35 rfl (zA rfl)) ?_
  refine zC (zY rfl (q1) (.lrefl _) (zA rfl)) ?_
  refine zC (zAt rfl ty92 rfl rfl (by omega) (by omega) cl35 (zA rfl)) ?_
  refine zC (o_stA (F:=G) 0 (v:=zAj (g1,g2) ky.bg) (by omega) rfl (by omega) yD sh35 rfl (zA rfl)) ?_
  refine zAK ?_
  refine zL [(4,U.box (List.length st+2) 0),(5,U.box (List.length st+3) 0)] (List.set Y (List.length st+3) (SB.box (arrC (updS G 0 (zAj (g1,g2) (Ky.bg ky)))))) (.n2 rfl) rfl fun fr=>?_
  refine zL [(4,.box (st.length+2) 0),(5,.box (st.length+3) 0)] (bgV z k st (updS G 0 (zAj (g1,g2) ky.bg))++e) (.n2 rfl) (by show Y.set (st.length+3) _=_;exact yE _) fun fr3=>?_
  generalize updS G 0 (zAj (g1,g2) ky.bg)=W at*
  obtain⟨_,_,z4,z5⟩:=zHE z k st W e
  rw[←hfin]
  refine kQ (zDC (F:=W) rfl rfl z5 sh92 ?_)
  refine zEu (F:=W) (G:=wc) rfl z4 sh92 rfl ?_
  refine zA (zw ?_)
  have hlen:((bgV z k st W++e).set (st.length+2) (.box (arrC W))).take st.length=st:=by
   rw[List.take_set_of_le (by omega)]
   unfold bgV
   rw[List.append_assoc,zBH rfl]
  refine⟨.inr rfl,_,.cons _ _ _ _ (.cellN 4 92 _ _ _ _ rfl (zFi z4) sh92 rfl) .nil,.agg (arrC W),.refl _,(zBE W 0).bd _,?_,?_,rfl,?_⟩
  ·show st.length≤((bgV z k st W++e).set _ _).length
   rw[List.length_set,List.length_append,bgV_len];omega
  ·show ∀x∈((bgV z k st W++e).set (st.length+2) (.box (arrC W))).take st.length,_
   rw[hlen];exact hb
  ·exact hlen
end
end Go.Proofs.YtpckmojdekdbbaaGreat.settles
