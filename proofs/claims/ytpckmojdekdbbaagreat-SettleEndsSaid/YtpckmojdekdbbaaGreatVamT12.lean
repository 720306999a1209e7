import Derived.Test.YtpckmojdekdbbaaGreatVamT11
set_option linter.unusedVariables false
set_option linter.unusedSimpArgs false
set_option linter.constructorNameAsVariable false
namespace Go.Proofs.YtpckmojdekdbbaaGreat.settles
open Vam
section
variable {is:FuncId→Bool}{orc:Known}{z:Zt}
theorem set_end2(l:List SB)(x y w:SB):((l++[x]).set l.length y).set l.length w=l++[w]:=by rw[yK,yK]
section rules
variable {P:Program}{is:FuncId→Bool}{orc:Known}{s:St}{all L:List Oper}{d:Nat}{x:Operand}{t' t:TypeId}{p:String}{e:Array Edge}{Q:St→Prop}{F:Nat→Sp}
theorem o_ldRW(hd:Nat.blt d 1024=true)(hx:zQ s x=.eref (arrC F) 0)(hsh:shOf P t'=.many 82)(k:WpO P is orc all L (s.put d (.agg (arrC F))) Q):WpO P is orc all (⟨some d,.load t' x,t,p,e,none⟩::L) s Q:=by
 refine yL hd hx hsh (by rw[Nat.ble_eq,zDJ];omega) ?_
 rw[List.drop_zero,List.take_of_length_le (by rw[zDJ];omega)]
 exact k
end rules
noncomputable def b87:Code:=(Tryz.f87.body).getD .skip
theorem body87:bodyOf Tryz.prog 87=some (5,b87,[.tmp 2]):=by kernel_rfl
theorem pure87:pureFn Tryz.prog 87=true:=by kernel_rfl
noncomputable def b88:Code:=(Tryz.f88.body).getD .skip
theorem body88:bodyOf Tryz.prog 88=some (5,b88,[.tmp 2]):=by kernel_rfl
theorem pure88:pureFn Tryz.prog 88=true:=by kernel_rfl
theorem pl101:zHN Tryz.prog 101=some [(0,1)]:=by kernel_rfl
theorem sh101:shOf Tryz.prog 101=.many 1:=by kernel_rfl
theorem ze101:yf Tryz.prog 101=some ((.cons .nilf .nil):V):=by kernel_rfl
noncomputable def b62:Code:=(Tryz.f62.body).getD .skip
theorem body62:bodyOf Tryz.prog 62=some (2,b62,[.cell 0 101]):=by kernel_rfl
theorem pure62:pureFn Tryz.prog 62=false:=by kernel_rfl
noncomputable def b63:Code:=(Tryz.f63.body).getD .skip
theorem body63:bodyOf Tryz.prog 63=some (2,b63,[.cell 0 101]):=by kernel_rfl
theorem pure63:pureFn Tryz.prog 63=false:=by kernel_rfl
theorem by3:Program.bytesOf Tryz.prog 3=8:=by kernel_rfl
theorem fld101_0:zc Tryz.prog 101 0=some (0,99):=by kernel_rfl
theorem sh99:shOf Tryz.prog 99=.one:=by kernel_rfl
theorem ap40_40:AppT Tryz.prog 40 40 3 1 8 ((.cons (.int .i64 0) .nil):V):=⟨ty40,⟨_,ty40⟩,cl3,by decide,by3,ze3,rfl⟩
noncomputable def b64:Code:=(Tryz.f64.body).getD .skip
theorem body64:bodyOf Tryz.prog 64=some (32,b64,[.tmp 6]):=by kernel_rfl
theorem pure64:pureFn Tryz.prog 64=false:=by kernel_rfl
noncomputable def b22:Code:=(Tryz.f22.body).getD .skip
theorem body22:bodyOf Tryz.prog 22=some (40,b22,[.tmp 8,.tmp 9]):=by kernel_rfl
theorem pure22:pureFn Tryz.prog 22=true:=by kernel_rfl
theorem ret87(hi:Off is)(x:Sp):RetP Tryz.prog is orc 87 [spU x] (.int .i64 x.1):=by
 refine yp body87 pure87 (hi 87 (by decide)) rfl rfl (zCl (yO _ _ 6)) (.inl (.int _ _ _)) ?_
 refine kQ (ya rfl rfl (zE rfl (zA ?_)))
 refine zL [(1,U.box 0 0)] ([SB.box [.int .i64 (Prod.fst x),.int .i64 (Prod.snd x)]]) (.n1 rfl) rfl fun fr=>?_
 refine kQ (kw rfl yX (kA sh3 rfl (zE rfl (zA (zw ?_)))))
 refine⟨.inr rfl,_,.cons _ _ _ _ (.tmp 2) .nil,?_⟩
 exact .refl _
theorem ret88(hi:Off is)(x:Sp):RetP Tryz.prog is orc 88 [spU x] (.int .i64 x.2):=by
 refine yp body88 pure88 (hi 88 (by decide)) rfl rfl (zCl (yO _ _ 6)) (.inl (.int _ _ _)) ?_
 refine kQ (ya rfl rfl (zE rfl (zA ?_)))
 refine zL [(1,U.box 0 0)] ([SB.box [.int .i64 (Prod.fst x),.int .i64 (Prod.snd x)]]) (.n1 rfl) rfl fun fr=>?_
 refine kQ (kw rfl yz (kA sh3 rfl (zE rfl (zA (zw ?_)))))
 refine⟨.inr rfl,_,.cons _ _ _ _ (.tmp 2) .nil,?_⟩
 exact .refl _
theorem nb_afn(f:Nat):NB (.agg [.fn f [] []]):=NB.agg fun u hu=>by
  simp only[List.mem_cons,List.not_mem_nil,or_false]at hu
  subst hu;exact nb_fn0 _
theorem ret62(hi:Off is):RetP Tryz.prog is orc 62 [] (.agg [.fn 87 [] []]):=by
 refine zBJ body62 pure62 rfl rfl (fun u hu=>by cases hu) (nb_afn _) ?_
 refine kQ (zi rfl ze101 ?_)
 refine zA ?_
 refine zL [(0,U.box 0 0)] ([SB.box [U.nilf]]) (.n1 rfl) rfl fun fr=>?_
 refine kQ (zZ rfl ze101 pl101 rfl rfl ?_)
 refine zS rfl rfl sh101 rfl rfl rfl rfl rfl ?_
 refine zA (zw ?_)
 refine⟨.inr rfl,_,.cons _ _ _ _ (.cellN 0 101 _ _ _ _ rfl rfl sh101 rfl) .nil,?_⟩
 exact .refl _
theorem ret63(hi:Off is):RetP Tryz.prog is orc 63 [] (.agg [.fn 88 [] []]):=by
 refine zBJ body63 pure63 rfl rfl (fun u hu=>by cases hu) (nb_afn _) ?_
 refine kQ (zi rfl ze101 ?_)
 refine zA ?_
 refine zL [(0,U.box 0 0)] ([SB.box [U.nilf]]) (.n1 rfl) rfl fun fr=>?_
 refine kQ (zZ rfl ze101 pl101 rfl rfl ?_)
 refine zS rfl rfl sh101 rfl rfl rfl rfl rfl ?_
 refine zA (zw ?_)
 refine⟨.inr rfl,_,.cons _ _ _ _ (.cellN 0 101 _ _ _ _ rfl rfl sh101 rfl) .nil,?_⟩
 exact .refl _
set_option maxHeartbeats 8000000 in
theorem ret64(hi:Off is)(F:Nat→Sp){n:Nat}(hn:n≤41){g:Nat}{h:Sp→Int}(hg:∀x,RetP Tryz.prog is orc g [spU x] (.int .i64 (h x))):RetP Tryz.prog is orc 64 [.agg (arrC F),.int .i64 n,.agg [.fn g [] []]] (.lst .ro 1 (zb ((List.range n).map fun i=>h (F i)))):=by
 refine zBJ body64 pure64 rfl rfl (fun u hu=>by
  simp only[List.mem_cons,List.not_mem_nil,or_false]at hu
  rcases hu with rfl|rfl|rfl
  ·exact⟨(zBE F 6).nb,fun v=>rfl⟩
  ·exact⟨NB.int _ _,fun v=>rfl⟩
  ·exact⟨nb_afn _,fun v=>rfl⟩) ((zEf 3 .ro (fun h=>by cases h) _ _).nb) ?_
 have hl:(spsU ((List.range n).map F)).length=n:=by simp
 have hes:yW (spsU ((List.range n).map F))=(((arrC F).map dg).drop (0+0*2)).take ((n - 0)*2):=by
  rw[arr_dg,Nat.zero_mul,Nat.add_zero,List.drop_zero,Nat.sub_zero,←arr_take F hn]
  unfold spsU
  rw[List.map_map];rfl
 refine kQ (o_boxA rfl rfl ?_)
 refine ya rfl rfl ?_
 refine zAP 1 rfl (fun _=>rfl) ?_
 refine zA ?_
 refine zL [(1,.int .i64 ↑n),(3,U.box 0 0),(5,U.box 1 0)] ([SB.box (arrC F),SB.box [U.fn g [] []]]) (.n3 rfl) rfl fun fr=>?_
 refine kQ ?_
 refine zAP 1 rfl (fun _=>rfl) ?_
 refine zA (k_seq (kQ (zD rfl (zD rfl ?_))))
 refine o_sliceA (n:=41) (c:=2) (l1:=0) (h1:=n) (m1:=n) (es:=spsU ((List.range n).map F)) rfl ty92 cl35 rfl rfl rfl (by rw[Nat.ble_eq,zDJ];omega) ⟨_,rfl⟩ ⟨_,rfl⟩ rfl (.inr (by simp)) (by omega) (by omega) (by omega) hes (by simp[zx]) hl ?_
 refine zz rfl ty23 rfl (List.length_map _) ?_
 refine zD rfl (zA (zR ?_))
 refine yq (fun kk s1=>∃(i:Nat) (e:List SB),kk+i=n∧s1.st=[SB.froz (arrC F),.box [.fn g [] []]]++e∧Holds s1 [(5,.box 1 0),(7,.lst .own 1 (zb ((List.range i).map fun i=>h (F i)))),(12,.lst .ro 2 (spsU ((List.range n).map F))),(13,.int .i64 n),(14,.int .i64 i)]) (fun kk s1 hI=>?_) n _ ⟨0,[],by omega,(by show List.set _ _ _=_;rw[arr_dg];rfl),.cons rfl (.cons rfl (.cons rfl (.cons (congrArg (fun m:Nat=>U.int .i64 m) (show(List.map F (List.range n)).length=n by simp)) (.n1 rfl))))⟩
 obtain⟨i,e,hkk,hst,hs⟩:=hI
 have hL:(zb ((List.range i).map fun i=>h (F i))).length=i:=by simp
 by_cases hin:i<n
 ·have hsn:zb ((List.range (i+1)).map fun i=>h (F i))=zb ((List.range i).map fun i=>h (F i))++[.int .i64 (h (F i))]:=by
   unfold zb
   rw[List.range_succ,List.map_append,List.map_append];rfl
  have hju:(spsU ((List.range n).map F))[i]? =some (spU (F i)):=by
   unfold spsU
   rw[List.getElem?_map,List.getElem?_map,List.getElem?_range hin];rfl
  generalize zb ((List.range i).map fun i=>h (F i))=L at*
  generalize spsU ((List.range n).map F)=W at*
  obtain⟨x,hx⟩:∃x,x=F i:=⟨_,rfl⟩
  have hgx:=hg x
  rw[←hx]at hju hsn
  refine zL _ _ hs hst fun fr3=>?_
  refine kQ (kp rfl (zA (k_seq (k_cT rfl (kF (by omega)) (zV (k_seq (zR (kQ (wb (u:=spU x) rfl ty23 rfl rfl (Int.natCast_nonneg _) hju cl35 ?_)))))))))
  refine yL rfl rfl sh35 rfl ?_
  refine zi rfl ze35 ?_
  refine zS rfl (zT _ _) sh35 rfl rfl rfl rfl rfl ?_
  refine zA ?_
  refine zL [(5,U.box 1 0),(7,U.lst Kd.own 1 L),(9,U.box (List.length (SB.froz (arrC F)::SB.box [U.fn g [] []]::List.append [] e)) 0),(12,.lst .ro 2 W),(13,.int .i64 ↑n),(14,.int .i64 ↑i)] (SB.froz (arrC F)::SB.box [U.fn g [] []]::List.set (List.append (List.append [] e) [SB.box (zBu (V.cons (V.int .i64 (0:Int)) (V.cons (V.int .i64 (0:Int)) V.nil)))]) (List.length (List.append [] e)) (SB.box [.int .i64 (Prod.fst x),.int .i64 (Prod.snd x)])) (.n6 rfl) rfl fun fr=>?_
  refine k_region (zD rfl (kw rfl fld101_0 (kA sh99 rfl (zg rfl rfl (wz _ _ _) sh35 rfl ?_))))
  refine zER rfl rfl hgx (.lrefl _) ?_
  refine zEv (es:=[.int .i64 (h x)]) rfl ty40 ze3 cl3 rfl rfl rfl rfl rfl rfl rfl rfl ?_
  refine zAu 7 rfl ap40_40 rfl rfl rfl (by simp) (by simp) (by simp[yW,zx,oneU]) (by show(L.length+1)*_≤_;omega) ?_
  refine zE rfl (zA ?_)
  refine zL [(5,U.box 1 0),(7,U.lst Kd.own 1 (L++[.int .i64 (h x)])),(12,.lst .ro 2 W),(13,.int .i64 ↑n),(14,.int .i64 ↑i)] (SB.froz (arrC F)::SB.box [U.fn g [] []]::List.set (List.append (List.append [] e) [SB.box (zBu (V.cons (V.int .i64 (0:Int)) (V.cons (V.int .i64 (0:Int)) V.nil)))]) (List.length (List.append [] e)) (SB.box [.int .i64 (Prod.fst x),.int .i64 (Prod.snd x)])) (.n5 rfl) rfl fun fr=>?_
  refine k_region ?_
  refine kz rfl (by unfold I64;omega) (zD rfl (zA ?_))
  exact⟨kk - 1,by omega,i+1,e++[SB.box [.int .i64 x.1,.int .i64 x.2]],by omega,(by rw[←List.append_assoc];exact yK ([SB.froz (arrC F),.box [.fn g [] []]]++e) (.box [.int .i64 0,.int .i64 0]) (.box [.int .i64 x.1,.int .i64 x.2])),.cons rfl (.cons (congrArg (U.lst .own 1) hsn.symm) (.n3 rfl))⟩
 ·obtain rfl:i=n:=by omega
  generalize zb ((List.range i).map fun i=>h (F i))=L at*
  generalize spsU ((List.range i).map F)=W at*
  refine zL _ _ hs hst fun fr3=>?_
  refine kQ (kp rfl (zA (k_seq (k_cF rfl (kG (by omega)) (yj (kQ (zD rfl (zD rfl (zz rfl ty40 rfl rfl ?_)))))))))
  refine zD rfl (zz rfl ty40 rfl rfl ?_)
  refine o_slice0 rfl ty40 cl3 rfl (by simp) rfl rfl (Nat.le_refl _) ?_
  refine zE rfl (zA (zw ?_))
  refine⟨.inr rfl,_,.cons _ _ _ _ (.tmp 6) .nil,?_⟩
  show UW (.u (.lst .full 1 (L.take L.length))) _
  rw[List.take_length];exact .ro _ _ _
noncomputable def pastR(z:Zt)(k y:Int)(up:Bool):List Int:=if wasE z k y=0 then(List.range (z.yrs.toNat+1)).map fun i=>if up=true then(pitS z k.toNat i).2 else(pitS z k.toNat i).1 else []
set_option maxHeartbeats 16000000 in
theorem ret22(hi:Off is)(z:Zt)(k y:Int)(up:Bool):RetP Tryz.prog is orc 22 [z.u,.int .i64 k,.int .i64 y,.bool up] (.tup [.lst .ro 1 (zb (pastR z k y up)),.int .i64 (wasE z k y)]):=by
 refine yp body22 pure22 (hi 22 (by decide)) rfl rfl (zHC (zFh z 5) (.int _ _ _) (.int _ _ _) (.bool _ _)) (.inr ⟨_,rfl,wQ (zEf 5 .ro (fun h=>by cases h) _ _) (.int _ _ _)⟩) ?_
 have q57:=ret57 (orc:=orc) hi z k y
 have hE:wasE z k y=askT z (zGR z k y):=rfl
 have hR:pastR z k y up=if wasE z k y=0 then(List.range (z.yrs.toNat+1)).map fun i=>if up=true then(pitS z k.toNat i).2 else(pitS z k.toNat i).1 else []:=rfl
 have hz:=wasE_zero (z:=z) (k:=k) (y:=y)
 have w56:=wpc56 (is:=is) (orc:=orc) hi z (zGR z k y) (st:=List.replicate 1 .dead) (rep_bd 1)
 rw[←hE]at w56
 have q57:RetP Tryz.prog is orc 57 [z.u,yQ k y] (.bool (zGR z k y)):=q57
 generalize zGR z k y=q at*
 have w56b:WpC Tryz.prog is orc 56 [z.u,.bool q] (List.replicate 1 .dead) fun u st'=>∃new,st'=List.replicate 1 .dead++new∧Fwd 1 u∧(∀x∈new,FwdS 1 x)∧
   ((wasE z k y=0∧∃m,u=.tup [.agg (setC z (.mp m) (.lst .ro 82 (wasU (zAC z z.keys.length)))),.int .i64 0])∨(wasE z k y≠0∧u=.tup [.agg zset,.int .i64 (wasE z k y)])):=w56.mono fun u st' hM=>by
  obtain⟨new,rfl,hnb,hM⟩:=hM
  have hml:(List.replicate 1 SB.dead).length=1:=rfl
  refine⟨new,rfl,?_,fun x hx=>(hnb x hx).2,?_⟩
  ·rcases hM with ⟨_,m,es,_,hm,_,rfl⟩|⟨_,rfl⟩
   ·refine Fwd.tup fun c hc=>?_
    simp only[List.mem_cons,List.not_mem_nil,or_false]at hc
    rcases hc with rfl|rfl
    ·exact Fwd.agg (zGS z hm ((zDz .ro (fun h=>by cases h) _ 0).nb.fwd _))
    ·exact(NB.int _ _).fwd _
   ·refine Fwd.tup fun c hc=>?_
    simp only[List.mem_cons,List.not_mem_nil,or_false]at hc
    rcases hc with rfl|rfl
    ·exact Fwd.agg (zAA 1).2
    ·exact(NB.int _ _).fwd _
  ·rcases hM with ⟨h1,m,_,_,_,_,h2⟩|h
   ·exact .inl ⟨h1,m,h2⟩
   ·exact .inr h
 have hnb:∀u∈[z.u,U.bool q],NB u:=fun u hu=>by
  simp only[List.mem_cons,List.not_mem_nil,or_false]at hu
  rcases hu with rfl|rfl
  ·exact(zFh z 5).nb
  ·exact NB.bool _
 refine kQ (ya rfl rfl (zE rfl (zE rfl (zA ?_))))
 refine zL [(1,.int .i64 k),(2,.int .i64 y),(3,U.bool up),(4,U.box 0 0)] ([SB.box [.int .i64 (Zt.yrs z),.lst .ro 7 (kysU (Zt.keys z)),.lst .ro 2 (spsU (Zt.steps z)),.lst .ro 4 (flsU (Zt.files z)),.lst .ro 4 (lksU (Zt.looks z))]]) (.n4 rfl) rfl fun fr=>?_
 refine k_seq (wM [.read true,.read true,.plain,.plain,.plain,.read false,.quiet,.plain,.plain,.plain,.pre,.plain,.plain] (by kernel_rfl) (by kernel_rfl) (by kernel_rfl) ?_)
 refine zJ rfl (kB sh27 rfl (zA rfl)) ?_
 refine zJ rfl (kB sh27 rfl (zA rfl)) ?_
 refine zC (zD rfl (zA rfl)) (zC (zD rfl (zA rfl)) (zC (zZ rfl ze90 pl90 rfl rfl (zA rfl)) ?_))
 refine yH rfl (q57) (.bool _) (.lrefl _) ?_
 refine zGF (n:=1) rfl rfl hnb w56b (.lrefl _) (fun u new hM=>?_)
 refine zC (zD rfl (zA rfl)) ?_
 rcases hM with ⟨h0,m,rfl⟩|⟨h0,rfl⟩
 ·rw[if_pos h0]at hR
  obtain⟨hok,⟨⟨hk0,hk1⟩,hy0,hy1⟩,_⟩:=hz.1 h0
  have hy2:=hok.y
  rw[hR,h0]
  obtain⟨k',rfl⟩:∃n:Nat,k=n:=⟨k.toNat,by omega⟩
  rw[Int.toNat_natCast]
  have hwk:(wasU (zAC z z.keys.length))[k']? =some (.agg (arrC (pitS z k'))):=by
   unfold wasU zAC
   rw[List.getElem?_map,List.getElem?_map,List.getElem?_range (by omega)];rfl
  have q62:=ret62 (orc:=orc) hi
  have q63:=ret63 (orc:=orc) hi
  have qL:=ret64 (orc:=orc) hi (pitS z k') (n:=z.yrs.toNat+1) (by omega) (fun x=>ret87 hi x)
  have qH:=ret64 (orc:=orc) hi (pitS z k') (n:=z.yrs.toNat+1) (by omega) (fun x=>ret88 hi x)
  rw[show((z.yrs.toNat+1:Nat):Int)=z.yrs+1 by omega]at qL qH
  generalize pitS z k'=P at*
  generalize wasU (zAC z z.keys.length)=W at*
  clear hz w56 w56b hR hE q57 hnb
  refine zC (ku rfl (zA rfl)) ?_
  refine zC (ku rfl (zA rfl)) ?_
  refine d_pre rfl ze83 ?_
  refine zC (zS rfl (zT _ _) sh83 rfl rfl rfl rfl rfl (zA rfl)) ?_
  refine zC (zE rfl (zA rfl)) ?_
  refine zAK ?_
  refine k_seq (kQ (zD rfl (kr rfl (zA (k_cF rfl rfl ?_)))))
  refine zV ?_
  refine zL [(1,.int .i64 k'),(3,.bool up),(4,.box 0 0),(10,.box (new.length+1) 0)] (([SB.box z.cs]++new)++[SB.box (setC z (.mp m) (.lst .ro 82 W))]) (.n4 rfl) (by exact yK ([SB.box z.cs]++new) _ _) fun fr=>?_
  have hat:(([SB.box z.cs]++new)++[SB.box (setC z (.mp m) (.lst .ro 82 W))])[new.length+1]? =some (.box (setC z (.mp m) (.lst .ro 82 W))):=zT _ _
  obtain⟨Z,hZ⟩:∃Z,Z=(([SB.box z.cs]++new)++[SB.box (setC z (.mp m) (.lst .ro 82 W))]):=⟨_,rfl⟩
  rw[←hZ]at hat ⊢
  cases up with
  |false=>
   refine kQ (zY rfl (q62) (.lrefl _) (zi rfl ze101 ?_))
   refine zS rfl (zT _ _) sh101 rfl rfl rfl rfl rfl ?_
   refine zA (k_seq (kQ (zD rfl (zA (k_cF rfl rfl ?_)))))
   refine zV ?_
   refine zL [(1,.int .i64 k'),(10,.box (new.length+1) 0),(12,.box Z.length 0)] (Z++[SB.box [.fn 87 [] []]]) (.n3 rfl) (by exact yK Z _ _) fun fr=>?_
   refine k_seq (wM [.plain,.read true,.plain,.plain,.read true,.plain,.plain,.read true,.plain,.read true,.plain,.plain,.plain] (by kernel_rfl) (by kernel_rfl) (by kernel_rfl) ?_)
   refine zC (kw rfl zDx (zA rfl)) ?_
   refine zJ rfl (zI rfl rfl (zn hat) sh81 rfl (zA rfl)) ?_
   refine zC (zD rfl (zA rfl)) (zC (wb (u:=.agg (arrC P)) rfl ty81 rfl rfl (Int.natCast_nonneg _) hwk cl92 (zA rfl)) ?_)
   refine zJ rfl (o_ldRW (F:=P) rfl rfl sh92 (zA rfl)) ?_
   refine zC (kw rfl zAV (zA rfl)) ?_
   refine zC (kw rfl wA (zA rfl)) ?_
   refine zJ rfl (zI rfl rfl (zn hat) sh3 rfl (zA rfl)) ?_
   refine zC (kz rfl (by unfold I64;omega) (zA rfl)) ?_
   refine zp [(12,U.box (List.length Z) 0),(33,U.agg (arrC P)),(37,.int .i64 (Zt.yrs z+(1:Int)))] [] (Z++[SB.box [U.fn 87 [] []]]) (.n3 rfl) rfl rfl fun fr=>?_
   refine zJ rfl (zg rfl rfl (zT _ _) sh101 rfl (zA rfl)) ?_
   refine zC (zY rfl (qL) (.lrefl _) (zA rfl)) ?_
   refine zC (zE rfl (zA rfl)) ?_
   refine zC (zE rfl (zA rfl)) ?_
   refine zAK ?_
   refine zw ?_
   refine⟨.inr rfl,_,.cons _ _ _ _ (.tmp 8) (.cons _ _ _ _ (.tmp 9) .nil),?_⟩
   exact .refl _
  |true=>
   refine kQ (zY rfl (q62) (.lrefl _) (zi rfl ze101 ?_))
   refine zS rfl (zT _ _) sh101 rfl rfl rfl rfl rfl ?_
   refine zA (k_seq (kQ (zD rfl (zA (k_cT rfl rfl ?_)))))
   refine k_region (zY rfl (q63) (.lrefl _) (zS rfl (zFi (zT _ _)) sh101 rfl rfl rfl rfl rfl ?_))
   refine zA ?_
   refine zL [(1,.int .i64 k'),(10,.box (new.length+1) 0),(12,.box Z.length 0)] (Z++[SB.box [.fn 88 [] []]]) (.n3 rfl) (by exact set_end2 Z _ _ _) fun fr=>?_
   refine k_seq (wM [.plain,.read true,.plain,.plain,.read true,.plain,.plain,.read true,.plain,.read true,.plain,.plain,.plain] (by kernel_rfl) (by kernel_rfl) (by kernel_rfl) ?_)
   refine zC (kw rfl zDx (zA rfl)) ?_
   refine zJ rfl (zI rfl rfl (zn hat) sh81 rfl (zA rfl)) ?_
   refine zC (zD rfl (zA rfl)) (zC (wb (u:=.agg (arrC P)) rfl ty81 rfl rfl (Int.natCast_nonneg _) hwk cl92 (zA rfl)) ?_)
   refine zJ rfl (o_ldRW (F:=P) rfl rfl sh92 (zA rfl)) ?_
   refine zC (kw rfl zAV (zA rfl)) ?_
   refine zC (kw rfl wA (zA rfl)) ?_
   refine zJ rfl (zI rfl rfl (zn hat) sh3 rfl (zA rfl)) ?_
   refine zC (kz rfl (by unfold I64;omega) (zA rfl)) ?_
   refine zp [(12,U.box (List.length Z) 0),(33,U.agg (arrC P)),(37,.int .i64 (Zt.yrs z+(1:Int)))] [] (Z++[SB.box [U.fn 88 [] []]]) (.n3 rfl) rfl rfl fun fr=>?_
   refine zJ rfl (zg rfl rfl (zT _ _) sh101 rfl (zA rfl)) ?_
   refine zC (zY rfl (qH) (.lrefl _) (zA rfl)) ?_
   refine zC (zE rfl (zA rfl)) ?_
   refine zC (zE rfl (zA rfl)) ?_
   refine zAK ?_
   refine zw ?_
   refine⟨.inr rfl,_,.cons _ _ _ _ (.tmp 8) (.cons _ _ _ _ (.tmp 9) .nil),?_⟩
   exact .refl _
 ·rw[if_neg h0]at hR
  rw[hR]
  have hd:decide (wasE z k y≠0)=true:=kF h0
  generalize wasE z k y=E at*
  refine zC (ku rfl (zA rfl)) ?_
  refine zp [(1,.int .i64 k),(3,U.bool up),(13,U.tup [U.agg zset,.int .i64 E]),(21,U.agg zset)] [] (SB.box [.int .i64 (Zt.yrs z),.lst .ro 7 (kysU (Zt.keys z)),.lst .ro 2 (spsU (Zt.steps z)),.lst .ro 4 (flsU (Zt.files z)),.lst .ro 4 (lksU (Zt.looks z))]::List.append [] new) (.n4 rfl) rfl rfl fun fr=>?_
  refine zC (ku rfl (zA rfl)) ?_
  refine d_pre rfl ze83 ?_
  refine zC (zS rfl (zT _ _) sh83 rfl rfl rfl rfl rfl (zA rfl)) ?_
  refine zC (zE rfl (zA rfl)) ?_
  refine zAK ?_
  refine zL [(1,.int .i64 k),(3,U.bool up),(10,U.box (List.length (SB.box [.int .i64 (Zt.yrs z),.lst .ro 7 (kysU (Zt.keys z)),.lst .ro 2 (spsU (Zt.steps z)),.lst .ro 4 (flsU (Zt.files z)),.lst .ro 4 (lksU (Zt.looks z))]::List.append [] new)) 0),(11,.int .i64 E)] (SB.box [.int .i64 (Zt.yrs z),.lst .ro 7 (kysU (Zt.keys z)),.lst .ro 2 (spsU (Zt.steps z)),.lst .ro 4 (flsU (Zt.files z)),.lst .ro 4 (lksU (Zt.looks z))]::List.set (List.append (List.append [] new) [SB.box (zBu (V.cons (V.int .i64 (0:Int)) (V.cons V.nils (V.cons V.nils (V.cons V.nils (V.cons V.nils (V.cons V.nilm (V.cons V.nils V.nil))))))))]) (List.length (List.append [] new)) (SB.box [.int .i64 0,.lst .full 0 [],.lst .full 0 [],.lst .full 0 [],.lst .full 0 [],U.nilm,.lst .full 0 []])) (.n4 rfl) rfl fun fr=>?_
  refine k_seq (kQ (zD rfl (kr rfl (zA ?_))))
  refine zL [(1,.int .i64 k),(3,U.bool up),(10,U.box (List.length (SB.box [.int .i64 (Zt.yrs z),.lst .ro 7 (kysU (Zt.keys z)),.lst .ro 2 (spsU (Zt.steps z)),.lst .ro 4 (flsU (Zt.files z)),.lst .ro 4 (lksU (Zt.looks z))]::List.append [] new)) 0),(11,.int .i64 E),(24,U.bool (decide (E≠(0:Int))))] (SB.box [.int .i64 (Zt.yrs z),.lst .ro 7 (kysU (Zt.keys z)),.lst .ro 2 (spsU (Zt.steps z)),.lst .ro 4 (flsU (Zt.files z)),.lst .ro 4 (lksU (Zt.looks z))]::List.set (List.append (List.append [] new) [SB.box (zBu (V.cons (V.int .i64 (0:Int)) (V.cons V.nils (V.cons V.nils (V.cons V.nils (V.cons V.nils (V.cons V.nilm (V.cons V.nils V.nil))))))))]) (List.length (List.append [] new)) (SB.box [.int .i64 0,.lst .full 0 [],.lst .full 0 [],.lst .full 0 [],.lst .full 0 [],U.nilm,.lst .full 0 []])) (.n5 rfl) rfl fun fr=>?_
  refine k_cT rfl (by assumption) (kQ (zD rfl (zE rfl (zE rfl (zA (zw ?_))))))
  refine⟨.inr rfl,_,.cons _ _ _ _ (.tmp 8) (.cons _ _ _ _ (.tmp 9) .nil),?_⟩
  exact .tup _ _ (.lcons _ _ _ _ (.nil _ _ _) (.lrefl _))
end
section
variable {is:FuncId→Bool}{orc:Known}{z:Zt}
end
end Go.Proofs.YtpckmojdekdbbaaGreat.settles
