import Derived.Test.YthhbfbmfhldbaaaDoorVamT22
set_option linter.unusedVariables false
set_option linter.unusedSimpArgs false
set_option linter.constructorNameAsVariable false
namespace Go.Proofs.YthhbfbmfhldbaaaDoor.locks
open Vam
variable {is:FuncId→Bool}{orc:Known}{l:Ln}
theorem sh36:shOf Tryd.prog 36=.many 2:=by kernel_rfl
noncomputable def b10:Code:=(Tryd.f10.body).getD .skip
theorem body10:bodyOf Tryd.prog 10=some (210,b10,[.tmp 6]):=by kernel_rfl
theorem pure10:pureFn Tryd.prog 10=true:=by kernel_rfl
theorem turn_fr{n b i:Nat}(hn:1≤n):zCk ((i:Int) - b) n=(frN n b i:Nat):=by
 unfold zCk
 rw[if_neg (by omega),frN_eq hn]
theorem eq36(a c x y:Int):binV Tryd.prog 36 .eql (valK (zBP a c)) (valK (zBP x y))=some (.bool (decide (a=x)&&decide (c=y))):=by
 have h:binV Tryd.prog 36 .eql (valK (zBP a c)) (valK (zBP x y))=opt none (fun x=>some (V.bool x)) (Vam.cond (ieq a x) (Vam.cond (ieq c y) (some true) (some false)) (some false)):=by kernel_rfl
 rw[h,zAF,zAF]
 by_cases e1:a=x
 ·subst e1
  rw[show(a==a)=true by simp,kF rfl]
  by_cases e2:c=y
  ·subst e2
   rw[show(c==c)=true by simp,kF rfl];rfl
  ·rw[show(c==y)=false by simp;omega,kG e2];rfl
 ·rw[show(a==x)=false by simp;omega,kG e1];rfl
theorem found_take{L:List (Nat×Nat)}{y x:Nat×Nat}{j:Nat}(h:L[j]? =some x):(L.take (j+1)).any (fun z=>decide (z=y))=((L.take j).any (fun z=>decide (z=y))||decide (x=y)):=by
 rw[List.take_add_one,h,List.any_append];simp
set_option maxHeartbeats 32000000 in
theorem ret10(hi:Off is)(l:Ln)(bits:List Int)(n0 n1:Int)(r26:RetP Tryd.prog is orc 26 [] (.bool true)):RetP Tryd.prog is orc 10 [l.u,.lst .ro 1 (zE bits),zBP n0 n1] (.bool true):=by
 refine yH body10 pure10 (hi 10 (by decide)) rfl rfl (dat_l3 (wa l 5) (yK 6 .ro (fun h=>by cases h) 1 bits) (zEO n0 n1 6)) (.inl (.bool _ _)) ?_
 have q41:=ret41 (orc:=orc) hi l
 cases hv:wL l with
 |false=>
  rw[hv]at q41
  refine kQ (yB rfl rfl (yB rfl rfl (zC rfl (zB ?_))))
  refine zH [(1,.lst .ro 1 (zE bits)),(3,U.box 0 0),(5,U.box 1 0)] ([SB.box [.lst .ro 1 (zE (Ln.slots l)),.int .i64 (Ln.left l),.int .i64 (Ln.right l),.int .i64 (Ln.run l)],SB.box [.int .i64 n0,.int .i64 n1]]) (.n3 rfl) rfl fun fr=>?_
  refine k_seq (kQ (kB sh24 rfl (zN rfl (q41) (.lrefl _) (yN rfl rfl (zB (k_cT rfl rfl ?_))))))
  refine kQ (zN rfl (r26) (.lrefl _) (zC rfl (zB (zY ?_))))
  refine⟨.inr rfl,_,.cons _ _ _ _ (.tmp 6) .nil,?_⟩
  exact .refl _
 |true=>
  have h:=zBG.1 hv
  have hn:=h.n
  rw[hv]at q41
  have q42:=ret42 (orc:=orc) hi h bits
  generalize drwL l bits l.slots.length=X0 at*
  have q43:=ret43 (orc:=orc) hi h X0
  have q21:=ret21 (orc:=orc) hi l
  have hE:splE l=if wL l=true then if(bstO (splL l)).isSome=true then 0 else 4 else 70:=rfl
  have hR:splR l=if splE l=0 then(bstO (splL l)).getD []else []:=rfl
  rw[hv,if_pos rfl]at hE
  refine kQ (yB rfl rfl (yB rfl rfl (zC rfl (zB ?_))))
  refine zH [(1,.lst .ro 1 (zE bits)),(3,U.box 0 0),(5,U.box 1 0)] ([SB.box [.lst .ro 1 (zE (Ln.slots l)),.int .i64 (Ln.left l),.int .i64 (Ln.right l),.int .i64 (Ln.run l)],SB.box [.int .i64 n0,.int .i64 n1]]) (.n3 rfl) rfl fun fr=>?_
  refine k_seq (kQ (kB sh24 rfl (zN rfl (q41) (.lrefl _) (yN rfl rfl (zB (k_cF rfl rfl ?_))))))
  refine zK (kQ (kB sh24 rfl (zA rfl (zN rfl (q42) (.lrefl _) (zC rfl (zB ?_))))))
  refine k_cutR (fun s2=>∃p,divB l p=true∧s2.st=[.box l.cs,.box [.int .i64 n0,.int .i64 n1]]∧Holds s2 [(3,.box 0 0),(5,.box 1 0),(7,.lst .ro 1 (zE p))]) ?_ ?_
  ·cases hd:divB l X0 with
   |true=>
    rw[hd]at q43
    refine kQ (kB sh24 rfl (zA rfl (zN rfl (q43) (.lrefl _) (yN rfl rfl (zB (k_cF rfl rfl ?_))))))
    refine zK ?_
    exact .inl ⟨rfl,X0,hd,rfl,.cons rfl (.n2 rfl)⟩
   |false=>
    rw[hd]at q43
    cases hb:bstO (splL l)with
    |none=>
     rw[hb]at hE hR
     have hE:splE l=4:=hE
     rw[hE,if_neg (by decide)]at hR
     rw[hE,hR]at q21
     refine kQ (kB sh24 rfl (zA rfl (zN rfl (q43) (.lrefl _) (yN rfl rfl (zB (k_cT rfl rfl ?_))))))
     refine kQ (zC rfl (zB (kQ (kB sh24 rfl (zN rfl (q21) (.lrefl _) (zA rfl (ku rfl (ku rfl (zC rfl (zC rfl (zB ?_)))))))))))
     refine zH [(3,U.box 0 0),(5,U.box 1 0),(7,.lst .ro 1 (zE [])),(8,.int .i64 4)] ([SB.box [.lst .ro 1 (zE (Ln.slots l)),.int .i64 (Ln.left l),.int .i64 (Ln.right l),.int .i64 (Ln.run l)],SB.box [.int .i64 n0,.int .i64 n1]]) (.n4 rfl) rfl fun fr=>?_
     refine k_seq (kQ (zA rfl (kr rfl (zB (k_cT rfl rfl ?_)))))
     refine kQ (zA rfl (ks rfl (zA rfl (kf rfl (zN rfl (r26) (.lrefl _) (kE rfl ?_))))))
     refine zC rfl (zB (zY ?_))
     exact .inr ⟨(fun e=>by cases e),.inr rfl,_,.cons _ _ _ _ (.tmp 6) .nil,.refl _⟩
    |some b=>
     rw[hb]at hE hR
     have hE:splE l=0:=hE
     rw[hE,if_pos rfl]at hR
     have hR:splR l=b:=hR
     rw[hE,hR]at q21
     have hdb:=bst_div h hb
     have q43b:=ret43 (orc:=orc) hi h b
     rw[hdb]at q43b
     refine kQ (kB sh24 rfl (zA rfl (zN rfl (q43) (.lrefl _) (yN rfl rfl (zB (k_cT rfl rfl ?_))))))
     refine kQ (zC rfl (zB (kQ (kB sh24 rfl (zN rfl (q21) (.lrefl _) (zA rfl (ku rfl (ku rfl (zC rfl (zC rfl (zB ?_)))))))))))
     refine zH [(3,U.box 0 0),(5,U.box 1 0),(7,.lst .ro 1 (zE b)),(8,.int .i64 0)] ([SB.box [.lst .ro 1 (zE (Ln.slots l)),.int .i64 (Ln.left l),.int .i64 (Ln.right l),.int .i64 (Ln.run l)],SB.box [.int .i64 n0,.int .i64 n1]]) (.n4 rfl) rfl fun fr=>?_
     refine k_seq (kQ (zA rfl (kr rfl (zB (k_cF rfl rfl ?_)))))
     refine zK (kQ (kB sh24 rfl (zA rfl (zN rfl (q43b) (.lrefl _) (yN rfl rfl (zB (k_cF rfl rfl ?_)))))))
     refine zK ?_
     exact .inl ⟨rfl,b,hdb,rfl,.cons rfl (.n2 rfl)⟩
  ·rintro s2 ⟨p,hd,hst2,hs2⟩
   refine zH _ _ hs2 hst2 fun fr2=>?_
   clear q43 q42 q21 hE hR q41
   have hp:=(zAZ.1 hd).1
   have q48a:=ret48 (orc:=orc) hi n0 2 (by decide)
   have q48b:=ret48 (orc:=orc) hi n1 9 (by decide)
   have hwb:=turnI_b (n:=n0) (b:=2) (by decide)
   have hbb:=turnI_b (n:=n1) (b:=9) (by decide)
   obtain⟨w,hwe⟩:∃w:Nat,zCk n0 2=w:=⟨(zCk n0 2).toNat,by omega⟩
   obtain⟨b,hbe⟩:∃b:Nat,zCk n1 9=b:=⟨(zCk n1 9).toNat,by omega⟩
   rw[hwe]at q48a hwb
   rw[hbe]at q48b hbb
   clear hwe hbe
   have hb8:b≤8:=by omega
   have hw2:(w:Int)=0∨(w:Int)=1:=by omega
   have q33:=ret33 (orc:=orc) hi h hd (w:=(w:Int)) hw2 (b:=b) hb8
   have q36:=ret36 (orc:=orc) hi h hd (tones_heard h p (w:Int) b)
   rw[sounds_heard h hp (w:Int) b]at q36
   have hsw:i16 (hrN l p (w:Int) b p.length)=sndL l p (w,b):=rfl
   rw[hsw]at q36
   have q39:=ret39 (orc:=orc) hi l p
   have hE:toldE l p=0:=by unfold toldE;rw[hv,if_pos rfl,hd,if_pos rfl]
   have hN:toldN l p=tdO l p (preL 18):=by unfold toldN;rw[hE,if_pos rfl]
   rw[hE,hN]at q39
   have htr:0≤tdO l p (preL 18)∧tdO l p (preL 18)≤8:=tdO_rg (l:=l) (p:=p) (preL 18) 8 (by omega)
   have hlc:=fun t ht hbt=>least_cnt h hd (w:=w) (b:=b) (by omega) hb8 (t:=t) ht hbt
   have hin:=who_in l p (w:=w) (b:=b) (by omega) hb8
   have hwl:=whoL_len l p (sndL l p (w,b))
   have hrow:=fun i (hi:i<l.slots.length)=>row_cnd h hd hw2 b hi
   obtain⟨T,hT⟩:∃T:Nat,tdO l p (preL 18)=T:=⟨(tdO l p (preL 18)).toNat,by omega⟩
   rw[hT]at q39 hlc htr
   have hlc:=hlc T rfl
   clear hT
   have q51:=ret51 (orc:=orc) hi T 0 8
   rw[zAW.2 htr]at q51
   have hRe:zFB l p w b=zCF (hrN l p w b l.slots.length) l.slots.length:=by unfold zFB;rw[hp]
   rw[hRe]at q33 q36
   have hRl:=zDw (hrN l p w b l.slots.length) l.slots.length
   have hRat:∀i,i<l.slots.length→(zq (zCF (hrN l p w b l.slots.length) l.slots.length))[i]? =some (.lst .ro 1 (zE (memP (cndB l p w b i) 8))):=fun i hi=>by
    show(List.map _ (zCF _ _))[i]? =_
    rw[List.getElem?_map]
    unfold zCF
    rw[List.getElem?_map,List.getElem?_range hi,←hrow i hi];rfl
   clear hrow hRe hsw
   generalize zCF (hrN l p w b l.slots.length) l.slots.length=R at*
   generalize whoL l p (sndL l p (w,b)) (preL 18)=W at*
   have q23:=fun i=>ret23 (orc:=orc) hi (memP (cndB l p w b i) 8) (by have:=zCO (cndB l p w b i) 8;omega)
   have hpl:(zE p).length=l.slots.length:=by rw[List.length_map];exact hp
   refine k_seq (yI [.plain,.read true,.read false,.plain,.read true,.plain,.plain,.plain] (by kernel_rfl) (by kernel_rfl) (by kernel_rfl) ?_)
   refine zD (ym rfl ty36 rfl rfl (by omega) (by omega) cl3 (zB rfl)) ?_
   refine zP rfl (kA sh3 rfl (zB rfl)) (zDm rfl (q48a) (.int _ _) (.lrefl _) ?_)
   refine zD (ym rfl ty36 rfl rfl (by omega) (by omega) cl3 (zB rfl)) ?_
   refine zP rfl (kA sh3 rfl (zB rfl)) (zD (zN rfl (q48b) (.lrefl _) (zB rfl)) ?_)
   refine zD (zC rfl (zB rfl)) ?_
   refine zD (zC rfl (zB rfl)) ?_
   refine yu ?_
   refine kQ (kB sh24 rfl (zA rfl (zA rfl (zA rfl (zN rfl (q33) (.lrefl _) (zA rfl (ku rfl (ku rfl (zC rfl (zC rfl (zB ?_)))))))))))
   refine zH [(3,U.box 0 0),(7,.lst .ro 1 (zE p)),(9,.int .i64 ↑w),(10,.int .i64 ↑b),(11,.lst .ro 1 (zq R)),(12,.int .i64 0)] ([SB.box (Ln.cs l),SB.box [.int .i64 n0,.int .i64 n1]]) (.n6 rfl) rfl fun fr=>?_
   refine kQ (kB sh24 rfl (zA rfl (zA rfl (zN rfl (q36) (.lrefl _) (zA rfl (ku rfl (ku rfl (zC rfl (zC rfl (zB (kQ (kB sh24 rfl (zA rfl (zN rfl (q39) (.lrefl _) (zA rfl ?_)))))))))))))))
   refine ku rfl (ku rfl (zC rfl (zC rfl (zB ?_))))
   refine zH [(3,U.box 0 0),(7,.lst .ro 1 (zE p)),(9,.int .i64 ↑w),(10,.int .i64 ↑b),(11,.lst .ro 1 (zq R)),(12,.int .i64 0),(13,.lst .ro 2 (prsU W)),(14,.int .i64 0),(15,.int .i64 ↑T),(16,.int .i64 0)] ([SB.box (Ln.cs l),SB.box [.int .i64 n0,.int .i64 n1]]) (.n10 rfl) rfl fun fr=>?_
   refine k_seq (kQ (zA rfl (kr rfl (zA rfl (kf rfl (zA rfl (kf rfl (kr rfl (kD rfl ?_)))))))))
   refine zA rfl (kf rfl (zA rfl (kf rfl (kr rfl ?_))))
   refine zT [(3,U.box 0 0),(7,.lst .ro 1 (zE p)),(9,.int .i64 ↑w),(10,.int .i64 ↑b),(11,.lst .ro 1 (zq R)),(13,.lst .ro 2 (prsU W)),(15,.int .i64 ↑T),(84,U.bool (decide ((0:Int)≠(0:Int)))),(86,U.bool (decide ((0:Int)≠(0:Int))))] [] ([SB.box (Ln.cs l),SB.box [.int .i64 n0,.int .i64 n1]]) (.n9 rfl) rfl rfl fun fr=>?_
   refine kD rfl ?_
   refine zA rfl (kf rfl (zA rfl (kf rfl (zk rfl ty42 rfl (List.length_map _) ?_))))
   refine kf rfl (kw rfl zQ (kf rfl (kA sh22 rfl (kf rfl (zk rfl ty22 rfl (List.length_map _) ?_)))))
   refine kf rfl (kr rfl (kD rfl ?_))
   refine zA rfl (kh rfl (kG (by omega)) (zA rfl (kh rfl (kG (by omega)) (zN rfl (q51) (.lrefl _) (kh rfl (kG (by omega)) (yN rfl rfl (zx rfl rfl (kG (by omega)) ?_)))))))
   refine zB ?_
   refine zH [(3,U.box 0 0),(7,.lst .ro 1 (zE p)),(9,.int .i64 ↑w),(10,.int .i64 ↑b),(11,.lst .ro 1 (zq R)),(13,.lst .ro 2 (prsU W)),(15,.int .i64 ↑T),(100,U.bool !Bool.true)] ([SB.box (Ln.cs l),SB.box [.int .i64 n0,.int .i64 n1]]) (.n8 rfl) rfl fun fr=>?_
   refine k_cF rfl rfl ?_
   refine zK (k_seq (kQ (zC rfl (zB (zG ?_)))))
   refine yZ (fun kk s3=>∃i:Nat,kk+i=l.slots.length∧s3.st=[.box l.cs,.box [.int .i64 n0,.int .i64 n1]]∧Holds s3 [(3,.box 0 0),(7,.lst .ro 1 (zE p)),(9,.int .i64 w),(10,.int .i64 b),(11,.lst .ro 1 (zq R)),(13,.lst .ro 2 (prsU W)),(15,.int .i64 T),(17,.int .i64 i)]) (fun kk s3 hJ=>?_) l.slots.length _ ⟨0,rfl,rfl,.c4 rfl rfl rfl rfl (.n4 rfl)⟩
   obtain⟨i,hk,hst3,hs3⟩:=hJ
   by_cases hin2:i<l.slots.length
   ·obtain⟨t1,hx1,ha1,ht1⟩:=h.at hin2
    have hfl:=frN_lt (n:=l.slots.length) (b:=b) (i:=i) hn.1
    obtain⟨t2,hx2,ha2,ht2⟩:=h.at hfl
    obtain⟨p1,hp1⟩:∃x,p[i]? =some x:=⟨p[i],List.getElem?_eq_getElem (by omega)⟩
    obtain⟨p2,hp2⟩:∃x,p[frN l.slots.length b i]? =some x:=⟨p[frN l.slots.length b i],List.getElem?_eq_getElem (by omega)⟩
    have hap1:at' p i=p1:=by unfold at';rw[hp1];rfl
    have hap2:at' p (frN l.slots.length b i)=p2:=by unfold at';rw[hp2];rfl
    have hcnd:∀t,cndB l p w b i t=((decide (p1=1 - (w:Int))&&decide (t1=(t:Int)))||(decide (p2=(w:Int))&&decide (t2=(t:Int)))):=fun t=>by unfold cndB;rw[ha1,ha2,hap1,hap2]
    have q48:=ret48 (orc:=orc) hi ((i:Int) - b) l.slots.length (by omega)
    rw[turn_fr hn.1]at q48
    have q48:RetP Tryd.prog is orc 48 [.int .i64 ((i:Int) - b),.int .i64 p.length] (.int .i64 (frN l.slots.length b i:Nat)):=by rw[hp];exact q48
    have hR1:(zq R)[((i:Nat):Int).toNat]? =some (.lst .ro 1 (zE (memP (cndB l p w b i) 8))):=by rw[Int.toNat_natCast];exact hRat i hin2
    have q23:=q23 i
    have hsu:=fun j=>zED (cndB l p w b i) j
    have hml:=fun j=>zCO (cndB l p w b i) j
    have hpl2:p.length=l.slots.length:=hp
    generalize cndB l p w b i=C at*
    generalize frN l.slots.length b i=fr0 at*
    refine zH _ _ hs3 hst3 fun fr3=>?_
    refine k_seq (kQ (zA rfl (zA rfl (zk rfl ty42 rfl (List.length_map _) ?_))))
    refine kp rfl (zB (k_cT rfl (kF (by omega)) (zK (k_seq (zG (kQ (zC rfl (zB (k_seq (kQ (zC rfl (zB (zG ?_)))))))))))))
    refine yZ (fun mm s4=>∃t:Nat,mm+t=8∧s4.st=[.box l.cs,.box [.int .i64 n0,.int .i64 n1]]∧Holds s4 [(3,.box 0 0),(7,.lst .ro 1 (zE p)),(9,.int .i64 w),(10,.int .i64 b),(11,.lst .ro 1 (zq R)),(13,.lst .ro 2 (prsU W)),(15,.int .i64 T),(17,.int .i64 i),(18,accI (memP C t)),(19,.int .i64 t)]) (fun mm s4 hJ=>?_) 8 _ ⟨0,rfl,rfl,.c4 rfl rfl rfl rfl (.n6 rfl)⟩
    obtain⟨t,hm,hst4,hs4⟩:=hJ
    by_cases ht8:t<8
    ·have hsu:=hsu t
     have hml:=hml t
     have hcnd:=hcnd t
     refine zH _ _ hs4 hst4 fun fr4=>?_
     refine k_seq (kQ (zA rfl (kp rfl (zB (k_cT rfl (kF (by omega)) (zK (k_seq (zG (kQ (zA rfl (zA rfl ?_)))))))))))
     refine zGJ rfl rfl rfl (by unfold I64;omega) (zA rfl (zk rfl ty22 rfl (List.length_map _) ?_))
     refine zN rfl (q48) (.lrefl _) (zC rfl (zB ?_))
     refine k_cut (fun s5=>s5.st=[.box l.cs,.box [.int .i64 n0,.int .i64 n1]]∧Holds s5 [(3,.box 0 0),(7,.lst .ro 1 (zE p)),(9,.int .i64 w),(10,.int .i64 b),(11,.lst .ro 1 (zq R)),(13,.lst .ro 2 (prsU W)),(15,.int .i64 T),(17,.int .i64 i),(18,accI (memP C t)),(19,.int .i64 t),(149,.bool (C t))]) ?_ ?_
     ·clear hsu hml hs4 hst4 hs3 hst3
      generalize accI (memP C t)=AA
      by_cases c1:p1=1 - (w:Int)
      ·by_cases c2:t1=(t:Int)
       ·rw[hcnd]
        refine k_region (zA rfl (zA rfl (zf (u:=.int .i64 (p1)) rfl ty22 rfl rfl (Int.natCast_nonneg _) (by simp[hp1]) cl3 ?_)))
        refine kC sh3 rfl ?_
        refine zA rfl ?_
        refine zGJ rfl rfl rfl (by unfold I64;omega) (ks rfl (zA rfl (kh rfl (kF (by omega)) ?_)))
        refine kw rfl zQ ?_
        refine zT [(3,U.box 0 0),(7,.lst .ro 1 (zE p)),(9,.int .i64 ↑w),(10,.int .i64 ↑b),(11,.lst .ro 1 (zq R)),(13,.lst .ro 2 (prsU W)),(15,.int .i64 ↑T),(17,.int .i64 ↑i),(18,AA),(19,.int .i64 ↑t),(20,.int .i64 ↑fr0),(124,U.bool (decide (p1=(1:Int) - ↑w))),(125,U.box 0 0)] [] ([SB.box (Ln.cs l),SB.box [.int .i64 n0,.int .i64 n1]]) (.c4 rfl rfl rfl rfl (.n9 rfl)) rfl rfl fun fr=>?_
        refine kh rfl (kF (by omega)) ?_
        refine zT [(3,U.box 0 0),(7,.lst .ro 1 (zE p)),(9,.int .i64 ↑w),(10,.int .i64 ↑b),(11,.lst .ro 1 (zq R)),(13,.lst .ro 2 (prsU W)),(15,.int .i64 ↑T),(17,.int .i64 ↑i),(18,AA),(19,.int .i64 ↑t),(20,.int .i64 ↑fr0),(124,U.bool (decide (p1=(1:Int) - ↑w))),(125,U.box 0 0)] [] ([SB.box (Ln.cs l),SB.box [.int .i64 n0,.int .i64 n1]]) (.c4 rfl rfl rfl rfl (.n9 rfl)) rfl rfl fun fr=>?_
        refine kA sh22 rfl (kh rfl (kF (by omega)) ?_)
        refine zA rfl (kh rfl (kF (by omega)) ?_)
        refine zf (u:=.int .i64 (t1)) rfl ty22 rfl rfl (Int.natCast_nonneg _) (by simp[hx1]) cl3 ?_
        refine kh rfl (kF (by omega)) ?_
        refine kC sh3 rfl ?_
        refine kh rfl (kF (by omega)) ?_
        refine zA rfl (kh rfl (kF (by omega)) ?_)
        refine ks rfl (zj rfl rfl (kF (by omega)) ?_)
        refine zA rfl (kg rfl (kF (by omega)) ?_)
        refine zT [(3,U.box 0 0),(7,.lst .ro 1 (zE p)),(9,.int .i64 ↑w),(10,.int .i64 ↑b),(11,.lst .ro 1 (zq R)),(13,.lst .ro 2 (prsU W)),(15,.int .i64 ↑T),(17,.int .i64 ↑i),(18,AA),(19,.int .i64 ↑t),(20,.int .i64 ↑fr0),(125,U.box 0 0),(126,.lst .ro 1 (zE (Ln.slots l))),(127,.int .i64 ↑i),(128,U.eref [.int .i64 t1] 0),(129,.int .i64 t1),(130,.int .i64 ↑t),(131,U.bool (decide (t1= ↑t))),(133,U.bool (decide (t1= ↑t))),(134,U.tup [])] [] ([SB.box (Ln.cs l),SB.box [.int .i64 n0,.int .i64 n1]]) (.c4 rfl rfl rfl rfl (.c4 rfl rfl rfl rfl (.c4 rfl rfl rfl rfl (.n8 rfl)))) rfl rfl fun fr=>?_
        refine kg rfl (kF (by omega)) (kg rfl (kF (by omega)) (kg rfl (kF (by omega)) (kg rfl (kF (by omega)) (kg rfl (kF (by omega)) (kg rfl (kF (by omega)) (zAO rfl rfl rfl rfl ?_))))))
        refine zAO rfl rfl rfl rfl ?_
        refine zAO rfl rfl rfl rfl ?_
        refine zT [(3,U.box 0 0),(7,.lst .ro 1 (zE p)),(9,.int .i64 ↑w),(10,.int .i64 ↑b),(11,.lst .ro 1 (zq R)),(13,.lst .ro 2 (prsU W)),(15,.int .i64 ↑T),(17,.int .i64 ↑i),(18,AA),(19,.int .i64 ↑t),(125,U.box 0 0),(126,.lst .ro 1 (zE (Ln.slots l))),(127,.int .i64 ↑i),(128,U.eref [.int .i64 t1] 0),(129,.int .i64 t1),(130,.int .i64 ↑t),(131,U.bool (decide (t1= ↑t))),(133,U.bool (decide (t1= ↑t))),(134,U.tup []),(135,U.tup []),(136,U.tup []),(137,U.tup []),(138,U.tup []),(139,U.tup []),(140,U.tup []),(141,U.tup []),(142,U.tup []),(143,U.tup [])] [] ([SB.box (Ln.cs l),SB.box [.int .i64 n0,.int .i64 n1]]) (.c4 rfl rfl rfl rfl (.c4 rfl rfl rfl rfl (.c4 rfl rfl rfl rfl (.c4 rfl rfl rfl rfl (.c4 rfl rfl rfl rfl (.n8 rfl)))))) rfl rfl fun fr=>?_
        refine zAO rfl rfl rfl rfl ?_
        refine zAO rfl rfl rfl rfl ?_
        refine zAO rfl rfl rfl rfl ?_
        refine zAO rfl rfl rfl rfl ?_
        refine kg rfl (kF (by omega)) (zj rfl rfl (kF (by omega)) ?_)
        refine zB ?_
        exact⟨rfl,rfl,.c4 rfl rfl rfl rfl (.c4 rfl rfl rfl rfl (.cons rfl (.cons rfl (.cons (by show U.bool true=U.bool _;simp[*]) (.nil rfl)))))⟩
       ·by_cases c3:p2=(w:Int)
        ·by_cases c4:t2=(t:Int)
         ·rw[hcnd]
          refine k_region (zA rfl (zA rfl (zf (u:=.int .i64 (p1)) rfl ty22 rfl rfl (Int.natCast_nonneg _) (by simp[hp1]) cl3 ?_)))
          refine kC sh3 rfl ?_
          refine zA rfl ?_
          refine zGJ rfl rfl rfl (by unfold I64;omega) (ks rfl (zA rfl (kh rfl (kF (by omega)) ?_)))
          refine kw rfl zQ ?_
          refine zT [(3,U.box 0 0),(7,.lst .ro 1 (zE p)),(9,.int .i64 ↑w),(10,.int .i64 ↑b),(11,.lst .ro 1 (zq R)),(13,.lst .ro 2 (prsU W)),(15,.int .i64 ↑T),(17,.int .i64 ↑i),(18,AA),(19,.int .i64 ↑t),(20,.int .i64 ↑fr0),(124,U.bool (decide (p1=(1:Int) - ↑w))),(125,U.box 0 0)] [] ([SB.box (Ln.cs l),SB.box [.int .i64 n0,.int .i64 n1]]) (.c4 rfl rfl rfl rfl (.n9 rfl)) rfl rfl fun fr=>?_
          refine kh rfl (kF (by omega)) ?_
          refine zT [(3,U.box 0 0),(7,.lst .ro 1 (zE p)),(9,.int .i64 ↑w),(10,.int .i64 ↑b),(11,.lst .ro 1 (zq R)),(13,.lst .ro 2 (prsU W)),(15,.int .i64 ↑T),(17,.int .i64 ↑i),(18,AA),(19,.int .i64 ↑t),(20,.int .i64 ↑fr0),(124,U.bool (decide (p1=(1:Int) - ↑w))),(125,U.box 0 0)] [] ([SB.box (Ln.cs l),SB.box [.int .i64 n0,.int .i64 n1]]) (.c4 rfl rfl rfl rfl (.n9 rfl)) rfl rfl fun fr=>?_
          refine kA sh22 rfl (kh rfl (kF (by omega)) ?_)
          refine zA rfl (kh rfl (kF (by omega)) ?_)
          refine zf (u:=.int .i64 (t1)) rfl ty22 rfl rfl (Int.natCast_nonneg _) (by simp[hx1]) cl3 ?_
          refine kh rfl (kF (by omega)) ?_
          refine kC sh3 rfl ?_
          refine kh rfl (kF (by omega)) ?_
          refine zA rfl (kh rfl (kF (by omega)) ?_)
          refine ks rfl (zj rfl rfl (kF (by omega)) ?_)
          refine zA rfl (kh rfl (kG (by omega)) (zA rfl ?_))
          refine zT [(3,U.box 0 0),(7,.lst .ro 1 (zE p)),(9,.int .i64 ↑w),(10,.int .i64 ↑b),(11,.lst .ro 1 (zq R)),(13,.lst .ro 2 (prsU W)),(15,.int .i64 ↑T),(17,.int .i64 ↑i),(18,AA),(19,.int .i64 ↑t),(20,.int .i64 ↑fr0),(125,U.box 0 0),(126,.lst .ro 1 (zE (Ln.slots l))),(127,.int .i64 ↑i),(128,U.eref [.int .i64 t1] 0),(129,.int .i64 t1),(130,.int .i64 ↑t),(131,U.bool (decide (t1= ↑t))),(133,U.bool (decide (t1= ↑t))),(134,.lst .ro 1 (zE p))] [] ([SB.box (Ln.cs l),SB.box [.int .i64 n0,.int .i64 n1]]) (.c4 rfl rfl rfl rfl (.c4 rfl rfl rfl rfl (.c4 rfl rfl rfl rfl (.n8 rfl)))) rfl rfl fun fr=>?_
          refine kh rfl (kG (by omega)) ?_
          refine zT [(3,U.box 0 0),(7,.lst .ro 1 (zE p)),(9,.int .i64 ↑w),(10,.int .i64 ↑b),(11,.lst .ro 1 (zq R)),(13,.lst .ro 2 (prsU W)),(15,.int .i64 ↑T),(17,.int .i64 ↑i),(18,AA),(19,.int .i64 ↑t),(20,.int .i64 ↑fr0),(125,U.box 0 0),(126,.lst .ro 1 (zE (Ln.slots l))),(127,.int .i64 ↑i),(128,U.eref [.int .i64 t1] 0),(129,.int .i64 t1),(130,.int .i64 ↑t),(131,U.bool (decide (t1= ↑t))),(133,U.bool (decide (t1= ↑t))),(134,.lst .ro 1 (zE p))] [] ([SB.box (Ln.cs l),SB.box [.int .i64 n0,.int .i64 n1]]) (.c4 rfl rfl rfl rfl (.c4 rfl rfl rfl rfl (.c4 rfl rfl rfl rfl (.n8 rfl)))) rfl rfl fun fr=>?_
          refine zA rfl (kh rfl (kG (by omega)) (zf (u:=.int .i64 (p2)) rfl ty22 rfl rfl (Int.natCast_nonneg _) (by simp[hp2]) cl3 ?_))
          refine kh rfl (kG (by omega)) (kC sh3 rfl ?_)
          refine kh rfl (kG (by omega)) (zA rfl (kh rfl (kG (by omega)) (ks rfl (kh rfl (kG (by omega)) (zA rfl (kh rfl (kF (by omega)) ?_))))))
          refine kw rfl zQ (kh rfl (kF (by omega)) ?_)
          refine kA sh22 rfl (kh rfl (kF (by omega)) ?_)
          refine zA rfl ?_
          refine zT [(3,U.box 0 0),(7,.lst .ro 1 (zE p)),(9,.int .i64 ↑w),(10,.int .i64 ↑b),(11,.lst .ro 1 (zq R)),(13,.lst .ro 2 (prsU W)),(15,.int .i64 ↑T),(17,.int .i64 ↑i),(18,AA),(19,.int .i64 ↑t),(125,U.box 0 0),(126,.lst .ro 1 (zE (Ln.slots l))),(127,.int .i64 ↑i),(128,U.eref [.int .i64 t1] 0),(129,.int .i64 t1),(130,.int .i64 ↑t),(131,U.bool (decide (t1= ↑t))),(133,U.bool (decide (t1= ↑t))),(134,.lst .ro 1 (zE p)),(135,.int .i64 ↑fr0),(136,U.eref [.int .i64 p2] 0),(137,.int .i64 p2),(138,.int .i64 ↑w),(139,U.bool (decide (p2= ↑w))),(140,U.bool (decide (p2= ↑w))),(141,U.box 0 0),(142,.lst .ro 1 (zE (Ln.slots l))),(143,.int .i64 ↑fr0)] [] ([SB.box (Ln.cs l),SB.box [.int .i64 n0,.int .i64 n1]]) (.c4 rfl rfl rfl rfl (.c4 rfl rfl rfl rfl (.c4 rfl rfl rfl rfl (.c4 rfl rfl rfl rfl (.c4 rfl rfl rfl rfl (.n8 rfl)))))) rfl rfl fun fr=>?_
          refine kh rfl (kF (by omega)) ?_
          refine zT [(3,U.box 0 0),(7,.lst .ro 1 (zE p)),(9,.int .i64 ↑w),(10,.int .i64 ↑b),(11,.lst .ro 1 (zq R)),(13,.lst .ro 2 (prsU W)),(15,.int .i64 ↑T),(17,.int .i64 ↑i),(18,AA),(19,.int .i64 ↑t),(125,U.box 0 0),(126,.lst .ro 1 (zE (Ln.slots l))),(127,.int .i64 ↑i),(128,U.eref [.int .i64 t1] 0),(129,.int .i64 t1),(130,.int .i64 ↑t),(131,U.bool (decide (t1= ↑t))),(133,U.bool (decide (t1= ↑t))),(134,.lst .ro 1 (zE p)),(135,.int .i64 ↑fr0),(136,U.eref [.int .i64 p2] 0),(137,.int .i64 p2),(138,.int .i64 ↑w),(139,U.bool (decide (p2= ↑w))),(140,U.bool (decide (p2= ↑w))),(141,U.box 0 0),(142,.lst .ro 1 (zE (Ln.slots l))),(143,.int .i64 ↑fr0)] [] ([SB.box (Ln.cs l),SB.box [.int .i64 n0,.int .i64 n1]]) (.c4 rfl rfl rfl rfl (.c4 rfl rfl rfl rfl (.c4 rfl rfl rfl rfl (.c4 rfl rfl rfl rfl (.c4 rfl rfl rfl rfl (.n8 rfl)))))) rfl rfl fun fr=>?_
          refine zf (u:=.int .i64 (t2)) rfl ty22 rfl rfl (Int.natCast_nonneg _) (by simp[hx2]) cl3 ?_
          refine kh rfl (kF (by omega)) ?_
          refine kC sh3 rfl ?_
          refine kh rfl (kF (by omega)) ?_
          refine zA rfl (kh rfl (kF (by omega)) ?_)
          refine ks rfl (kh rfl (kG (by omega)) (zj rfl rfl (kF (by omega)) ?_))
          refine zx rfl rfl (kG (by omega)) ?_
          refine zB ?_
          exact⟨rfl,rfl,.c4 rfl rfl rfl rfl (.c4 rfl rfl rfl rfl (.cons rfl (.cons rfl (.cons (by show U.bool (decide (t2=(t:Int)))=U.bool _;simp[*]) (.nil rfl)))))⟩
         ·rw[hcnd]
          refine k_region (zA rfl (zA rfl (zf (u:=.int .i64 (p1)) rfl ty22 rfl rfl (Int.natCast_nonneg _) (by simp[hp1]) cl3 ?_)))
          refine kC sh3 rfl ?_
          refine zA rfl ?_
          refine zGJ rfl rfl rfl (by unfold I64;omega) (ks rfl (zA rfl (kh rfl (kF (by omega)) ?_)))
          refine kw rfl zQ ?_
          refine zT [(3,U.box 0 0),(7,.lst .ro 1 (zE p)),(9,.int .i64 ↑w),(10,.int .i64 ↑b),(11,.lst .ro 1 (zq R)),(13,.lst .ro 2 (prsU W)),(15,.int .i64 ↑T),(17,.int .i64 ↑i),(18,AA),(19,.int .i64 ↑t),(20,.int .i64 ↑fr0),(124,U.bool (decide (p1=(1:Int) - ↑w))),(125,U.box 0 0)] [] ([SB.box (Ln.cs l),SB.box [.int .i64 n0,.int .i64 n1]]) (.c4 rfl rfl rfl rfl (.n9 rfl)) rfl rfl fun fr=>?_
          refine kh rfl (kF (by omega)) ?_
          refine zT [(3,U.box 0 0),(7,.lst .ro 1 (zE p)),(9,.int .i64 ↑w),(10,.int .i64 ↑b),(11,.lst .ro 1 (zq R)),(13,.lst .ro 2 (prsU W)),(15,.int .i64 ↑T),(17,.int .i64 ↑i),(18,AA),(19,.int .i64 ↑t),(20,.int .i64 ↑fr0),(124,U.bool (decide (p1=(1:Int) - ↑w))),(125,U.box 0 0)] [] ([SB.box (Ln.cs l),SB.box [.int .i64 n0,.int .i64 n1]]) (.c4 rfl rfl rfl rfl (.n9 rfl)) rfl rfl fun fr=>?_
          refine kA sh22 rfl (kh rfl (kF (by omega)) ?_)
          refine zA rfl (kh rfl (kF (by omega)) ?_)
          refine zf (u:=.int .i64 (t1)) rfl ty22 rfl rfl (Int.natCast_nonneg _) (by simp[hx1]) cl3 ?_
          refine kh rfl (kF (by omega)) ?_
          refine kC sh3 rfl ?_
          refine kh rfl (kF (by omega)) ?_
          refine zA rfl (kh rfl (kF (by omega)) ?_)
          refine ks rfl (zj rfl rfl (kF (by omega)) ?_)
          refine zA rfl (kh rfl (kG (by omega)) (zA rfl ?_))
          refine zT [(3,U.box 0 0),(7,.lst .ro 1 (zE p)),(9,.int .i64 ↑w),(10,.int .i64 ↑b),(11,.lst .ro 1 (zq R)),(13,.lst .ro 2 (prsU W)),(15,.int .i64 ↑T),(17,.int .i64 ↑i),(18,AA),(19,.int .i64 ↑t),(20,.int .i64 ↑fr0),(125,U.box 0 0),(126,.lst .ro 1 (zE (Ln.slots l))),(127,.int .i64 ↑i),(128,U.eref [.int .i64 t1] 0),(129,.int .i64 t1),(130,.int .i64 ↑t),(131,U.bool (decide (t1= ↑t))),(133,U.bool (decide (t1= ↑t))),(134,.lst .ro 1 (zE p))] [] ([SB.box (Ln.cs l),SB.box [.int .i64 n0,.int .i64 n1]]) (.c4 rfl rfl rfl rfl (.c4 rfl rfl rfl rfl (.c4 rfl rfl rfl rfl (.n8 rfl)))) rfl rfl fun fr=>?_
          refine kh rfl (kG (by omega)) ?_
          refine zT [(3,U.box 0 0),(7,.lst .ro 1 (zE p)),(9,.int .i64 ↑w),(10,.int .i64 ↑b),(11,.lst .ro 1 (zq R)),(13,.lst .ro 2 (prsU W)),(15,.int .i64 ↑T),(17,.int .i64 ↑i),(18,AA),(19,.int .i64 ↑t),(20,.int .i64 ↑fr0),(125,U.box 0 0),(126,.lst .ro 1 (zE (Ln.slots l))),(127,.int .i64 ↑i),(128,U.eref [.int .i64 t1] 0),(129,.int .i64 t1),(130,.int .i64 ↑t),(131,U.bool (decide (t1= ↑t))),(133,U.bool (decide (t1= ↑t))),(134,.lst .ro 1 (zE p))] [] ([SB.box (Ln.cs l),SB.box [.int .i64 n0,.int .i64 n1]]) (.c4 rfl rfl rfl rfl (.c4 rfl rfl rfl rfl (.c4 rfl rfl rfl rfl (.n8 rfl)))) rfl rfl fun fr=>?_
          refine zA rfl (kh rfl (kG (by omega)) (zf (u:=.int .i64 (p2)) rfl ty22 rfl rfl (Int.natCast_nonneg _) (by simp[hp2]) cl3 ?_))
          refine kh rfl (kG (by omega)) (kC sh3 rfl ?_)
          refine kh rfl (kG (by omega)) (zA rfl (kh rfl (kG (by omega)) (ks rfl (kh rfl (kG (by omega)) (zA rfl (kh rfl (kF (by omega)) ?_))))))
          refine kw rfl zQ (kh rfl (kF (by omega)) ?_)
          refine kA sh22 rfl (kh rfl (kF (by omega)) ?_)
          refine zA rfl ?_
          refine zT [(3,U.box 0 0),(7,.lst .ro 1 (zE p)),(9,.int .i64 ↑w),(10,.int .i64 ↑b),(11,.lst .ro 1 (zq R)),(13,.lst .ro 2 (prsU W)),(15,.int .i64 ↑T),(17,.int .i64 ↑i),(18,AA),(19,.int .i64 ↑t),(125,U.box 0 0),(126,.lst .ro 1 (zE (Ln.slots l))),(127,.int .i64 ↑i),(128,U.eref [.int .i64 t1] 0),(129,.int .i64 t1),(130,.int .i64 ↑t),(131,U.bool (decide (t1= ↑t))),(133,U.bool (decide (t1= ↑t))),(134,.lst .ro 1 (zE p)),(135,.int .i64 ↑fr0),(136,U.eref [.int .i64 p2] 0),(137,.int .i64 p2),(138,.int .i64 ↑w),(139,U.bool (decide (p2= ↑w))),(140,U.bool (decide (p2= ↑w))),(141,U.box 0 0),(142,.lst .ro 1 (zE (Ln.slots l))),(143,.int .i64 ↑fr0)] [] ([SB.box (Ln.cs l),SB.box [.int .i64 n0,.int .i64 n1]]) (.c4 rfl rfl rfl rfl (.c4 rfl rfl rfl rfl (.c4 rfl rfl rfl rfl (.c4 rfl rfl rfl rfl (.c4 rfl rfl rfl rfl (.n8 rfl)))))) rfl rfl fun fr=>?_
          refine kh rfl (kF (by omega)) ?_
          refine zT [(3,U.box 0 0),(7,.lst .ro 1 (zE p)),(9,.int .i64 ↑w),(10,.int .i64 ↑b),(11,.lst .ro 1 (zq R)),(13,.lst .ro 2 (prsU W)),(15,.int .i64 ↑T),(17,.int .i64 ↑i),(18,AA),(19,.int .i64 ↑t),(125,U.box 0 0),(126,.lst .ro 1 (zE (Ln.slots l))),(127,.int .i64 ↑i),(128,U.eref [.int .i64 t1] 0),(129,.int .i64 t1),(130,.int .i64 ↑t),(131,U.bool (decide (t1= ↑t))),(133,U.bool (decide (t1= ↑t))),(134,.lst .ro 1 (zE p)),(135,.int .i64 ↑fr0),(136,U.eref [.int .i64 p2] 0),(137,.int .i64 p2),(138,.int .i64 ↑w),(139,U.bool (decide (p2= ↑w))),(140,U.bool (decide (p2= ↑w))),(141,U.box 0 0),(142,.lst .ro 1 (zE (Ln.slots l))),(143,.int .i64 ↑fr0)] [] ([SB.box (Ln.cs l),SB.box [.int .i64 n0,.int .i64 n1]]) (.c4 rfl rfl rfl rfl (.c4 rfl rfl rfl rfl (.c4 rfl rfl rfl rfl (.c4 rfl rfl rfl rfl (.c4 rfl rfl rfl rfl (.n8 rfl)))))) rfl rfl fun fr=>?_
          refine zf (u:=.int .i64 (t2)) rfl ty22 rfl rfl (Int.natCast_nonneg _) (by simp[hx2]) cl3 ?_
          refine kh rfl (kF (by omega)) ?_
          refine kC sh3 rfl ?_
          refine kh rfl (kF (by omega)) ?_
          refine zA rfl (kh rfl (kF (by omega)) ?_)
          refine ks rfl (kh rfl (kG (by omega)) (zj rfl rfl (kF (by omega)) ?_))
          refine zx rfl rfl (kG (by omega)) ?_
          refine zB ?_
          exact⟨rfl,rfl,.c4 rfl rfl rfl rfl (.c4 rfl rfl rfl rfl (.cons rfl (.cons rfl (.cons (by show U.bool (decide (t2=(t:Int)))=U.bool _;simp[*]) (.nil rfl)))))⟩
        ·rw[hcnd]
         refine k_region (zA rfl (zA rfl (zf (u:=.int .i64 (p1)) rfl ty22 rfl rfl (Int.natCast_nonneg _) (by simp[hp1]) cl3 ?_)))
         refine kC sh3 rfl ?_
         refine zA rfl ?_
         refine zGJ rfl rfl rfl (by unfold I64;omega) (ks rfl (zA rfl (kh rfl (kF (by omega)) ?_)))
         refine kw rfl zQ ?_
         refine zT [(3,U.box 0 0),(7,.lst .ro 1 (zE p)),(9,.int .i64 ↑w),(10,.int .i64 ↑b),(11,.lst .ro 1 (zq R)),(13,.lst .ro 2 (prsU W)),(15,.int .i64 ↑T),(17,.int .i64 ↑i),(18,AA),(19,.int .i64 ↑t),(20,.int .i64 ↑fr0),(124,U.bool (decide (p1=(1:Int) - ↑w))),(125,U.box 0 0)] [] ([SB.box (Ln.cs l),SB.box [.int .i64 n0,.int .i64 n1]]) (.c4 rfl rfl rfl rfl (.n9 rfl)) rfl rfl fun fr=>?_
         refine kh rfl (kF (by omega)) ?_
         refine zT [(3,U.box 0 0),(7,.lst .ro 1 (zE p)),(9,.int .i64 ↑w),(10,.int .i64 ↑b),(11,.lst .ro 1 (zq R)),(13,.lst .ro 2 (prsU W)),(15,.int .i64 ↑T),(17,.int .i64 ↑i),(18,AA),(19,.int .i64 ↑t),(20,.int .i64 ↑fr0),(124,U.bool (decide (p1=(1:Int) - ↑w))),(125,U.box 0 0)] [] ([SB.box (Ln.cs l),SB.box [.int .i64 n0,.int .i64 n1]]) (.c4 rfl rfl rfl rfl (.n9 rfl)) rfl rfl fun fr=>?_
         refine kA sh22 rfl (kh rfl (kF (by omega)) ?_)
         refine zA rfl (kh rfl (kF (by omega)) ?_)
         refine zf (u:=.int .i64 (t1)) rfl ty22 rfl rfl (Int.natCast_nonneg _) (by simp[hx1]) cl3 ?_
         refine kh rfl (kF (by omega)) ?_
         refine kC sh3 rfl ?_
         refine kh rfl (kF (by omega)) ?_
         refine zA rfl (kh rfl (kF (by omega)) ?_)
         refine ks rfl (zj rfl rfl (kF (by omega)) ?_)
         refine zA rfl (kh rfl (kG (by omega)) (zA rfl ?_))
         refine zT [(3,U.box 0 0),(7,.lst .ro 1 (zE p)),(9,.int .i64 ↑w),(10,.int .i64 ↑b),(11,.lst .ro 1 (zq R)),(13,.lst .ro 2 (prsU W)),(15,.int .i64 ↑T),(17,.int .i64 ↑i),(18,AA),(19,.int .i64 ↑t),(20,.int .i64 ↑fr0),(125,U.box 0 0),(126,.lst .ro 1 (zE (Ln.slots l))),(127,.int .i64 ↑i),(128,U.eref [.int .i64 t1] 0),(129,.int .i64 t1),(130,.int .i64 ↑t),(131,U.bool (decide (t1= ↑t))),(133,U.bool (decide (t1= ↑t))),(134,.lst .ro 1 (zE p))] [] ([SB.box (Ln.cs l),SB.box [.int .i64 n0,.int .i64 n1]]) (.c4 rfl rfl rfl rfl (.c4 rfl rfl rfl rfl (.c4 rfl rfl rfl rfl (.n8 rfl)))) rfl rfl fun fr=>?_
         refine kh rfl (kG (by omega)) ?_
         refine zT [(3,U.box 0 0),(7,.lst .ro 1 (zE p)),(9,.int .i64 ↑w),(10,.int .i64 ↑b),(11,.lst .ro 1 (zq R)),(13,.lst .ro 2 (prsU W)),(15,.int .i64 ↑T),(17,.int .i64 ↑i),(18,AA),(19,.int .i64 ↑t),(20,.int .i64 ↑fr0),(125,U.box 0 0),(126,.lst .ro 1 (zE (Ln.slots l))),(127,.int .i64 ↑i),(128,U.eref [.int .i64 t1] 0),(129,.int .i64 t1),(130,.int .i64 ↑t),(131,U.bool (decide (t1= ↑t))),(133,U.bool (decide (t1= ↑t))),(134,.lst .ro 1 (zE p))] [] ([SB.box (Ln.cs l),SB.box [.int .i64 n0,.int .i64 n1]]) (.c4 rfl rfl rfl rfl (.c4 rfl rfl rfl rfl (.c4 rfl rfl rfl rfl (.n8 rfl)))) rfl rfl fun fr=>?_
         refine zA rfl (kh rfl (kG (by omega)) (zf (u:=.int .i64 (p2)) rfl ty22 rfl rfl (Int.natCast_nonneg _) (by simp[hp2]) cl3 ?_))
         refine kh rfl (kG (by omega)) (kC sh3 rfl ?_)
         refine kh rfl (kG (by omega)) (zA rfl (kh rfl (kG (by omega)) (ks rfl (kh rfl (kG (by omega)) (zA rfl (kg rfl (kG (by omega)) ?_))))))
         refine kg rfl (kG (by omega)) ?_
         refine kg rfl (kG (by omega)) ?_
         refine zT [(3,U.box 0 0),(7,.lst .ro 1 (zE p)),(9,.int .i64 ↑w),(10,.int .i64 ↑b),(11,.lst .ro 1 (zq R)),(13,.lst .ro 2 (prsU W)),(15,.int .i64 ↑T),(17,.int .i64 ↑i),(18,AA),(19,.int .i64 ↑t),(125,U.box 0 0),(126,.lst .ro 1 (zE (Ln.slots l))),(127,.int .i64 ↑i),(128,U.eref [.int .i64 t1] 0),(129,.int .i64 t1),(130,.int .i64 ↑t),(131,U.bool (decide (t1= ↑t))),(133,U.bool (decide (t1= ↑t))),(134,.lst .ro 1 (zE p)),(135,.int .i64 ↑fr0),(136,U.eref [.int .i64 p2] 0),(137,.int .i64 p2),(138,.int .i64 ↑w),(139,U.bool (decide (p2= ↑w))),(140,U.bool (decide (p2= ↑w))),(141,U.tup []),(142,U.tup []),(143,U.tup [])] [] ([SB.box (Ln.cs l),SB.box [.int .i64 n0,.int .i64 n1]]) (.c4 rfl rfl rfl rfl (.c4 rfl rfl rfl rfl (.c4 rfl rfl rfl rfl (.c4 rfl rfl rfl rfl (.c4 rfl rfl rfl rfl (.n8 rfl)))))) rfl rfl fun fr=>?_
         refine kg rfl (kG (by omega)) ?_
         refine kg rfl (kG (by omega)) ?_
         refine kg rfl (kG (by omega)) ?_
         refine kg rfl (kG (by omega)) ?_
         refine kh rfl (kG (by omega)) (zx rfl rfl (kG (by omega)) ?_)
         refine zx rfl rfl (kG (by omega)) ?_
         refine zB ?_
         exact⟨rfl,rfl,.c4 rfl rfl rfl rfl (.c4 rfl rfl rfl rfl (.cons rfl (.cons rfl (.cons (by show U.bool false=U.bool _;simp[*]) (.nil rfl)))))⟩
      ·by_cases c3:p2=(w:Int)
       ·by_cases c4:t2=(t:Int)
        ·rw[hcnd]
         refine k_region (zA rfl (zA rfl (zf (u:=.int .i64 (p1)) rfl ty22 rfl rfl (Int.natCast_nonneg _) (by simp[hp1]) cl3 ?_)))
         refine kC sh3 rfl ?_
         refine zA rfl ?_
         refine zGJ rfl rfl rfl (by unfold I64;omega) (ks rfl (zA rfl (kg rfl (kG (by omega)) ?_)))
         refine zT [(3,U.box 0 0),(7,.lst .ro 1 (zE p)),(9,.int .i64 ↑w),(10,.int .i64 ↑b),(11,.lst .ro 1 (zq R)),(13,.lst .ro 2 (prsU W)),(15,.int .i64 ↑T),(17,.int .i64 ↑i),(18,AA),(19,.int .i64 ↑t),(20,.int .i64 ↑fr0),(124,U.bool (decide (p1=(1:Int) - ↑w))),(125,U.tup [])] [] ([SB.box (Ln.cs l),SB.box [.int .i64 n0,.int .i64 n1]]) (.c4 rfl rfl rfl rfl (.n9 rfl)) rfl rfl fun fr=>?_
         refine kg rfl (kG (by omega)) ?_
         refine kg rfl (kG (by omega)) ?_
         refine kg rfl (kG (by omega)) ?_
         refine kg rfl (kG (by omega)) ?_
         refine kg rfl (kG (by omega)) ?_
         refine kg rfl (kG (by omega)) ?_
         refine zx rfl rfl (kG (by omega)) ?_
         refine zA rfl (kf rfl (zA rfl ?_))
         refine zT [(3,U.box 0 0),(7,.lst .ro 1 (zE p)),(9,.int .i64 ↑w),(10,.int .i64 ↑b),(11,.lst .ro 1 (zq R)),(13,.lst .ro 2 (prsU W)),(15,.int .i64 ↑T),(17,.int .i64 ↑i),(18,AA),(19,.int .i64 ↑t),(20,.int .i64 ↑fr0),(125,U.tup []),(126,U.tup []),(127,U.tup []),(128,U.tup []),(129,U.tup []),(130,U.tup []),(131,U.tup []),(133,.bool false),(134,.lst .ro 1 (zE p))] [] ([SB.box (Ln.cs l),SB.box [.int .i64 n0,.int .i64 n1]]) (.c4 rfl rfl rfl rfl (.c4 rfl rfl rfl rfl (.c4 rfl rfl rfl rfl (.n8 rfl)))) rfl rfl fun fr=>?_
         refine kf rfl ?_
         refine zT [(3,U.box 0 0),(7,.lst .ro 1 (zE p)),(9,.int .i64 ↑w),(10,.int .i64 ↑b),(11,.lst .ro 1 (zq R)),(13,.lst .ro 2 (prsU W)),(15,.int .i64 ↑T),(17,.int .i64 ↑i),(18,AA),(19,.int .i64 ↑t),(20,.int .i64 ↑fr0),(125,U.tup []),(126,U.tup []),(127,U.tup []),(128,U.tup []),(129,U.tup []),(130,U.tup []),(131,U.tup []),(133,.bool false),(134,.lst .ro 1 (zE p))] [] ([SB.box (Ln.cs l),SB.box [.int .i64 n0,.int .i64 n1]]) (.c4 rfl rfl rfl rfl (.c4 rfl rfl rfl rfl (.c4 rfl rfl rfl rfl (.n8 rfl)))) rfl rfl fun fr=>?_
         refine zA rfl (kf rfl (zf (u:=.int .i64 (p2)) rfl ty22 rfl rfl (Int.natCast_nonneg _) (by simp[hp2]) cl3 ?_))
         refine kf rfl (kC sh3 rfl ?_)
         refine kf rfl (zA rfl (kf rfl (ks rfl (kf rfl (zA rfl (kh rfl (kF (by omega)) ?_))))))
         refine kw rfl zQ (kh rfl (kF (by omega)) ?_)
         refine kA sh22 rfl (kh rfl (kF (by omega)) ?_)
         refine zA rfl ?_
         refine zT [(3,U.box 0 0),(7,.lst .ro 1 (zE p)),(9,.int .i64 ↑w),(10,.int .i64 ↑b),(11,.lst .ro 1 (zq R)),(13,.lst .ro 2 (prsU W)),(15,.int .i64 ↑T),(17,.int .i64 ↑i),(18,AA),(19,.int .i64 ↑t),(125,U.tup []),(126,U.tup []),(127,U.tup []),(128,U.tup []),(129,U.tup []),(130,U.tup []),(131,U.tup []),(133,.bool false),(134,.lst .ro 1 (zE p)),(135,.int .i64 ↑fr0),(136,U.eref [.int .i64 p2] 0),(137,.int .i64 p2),(138,.int .i64 ↑w),(139,U.bool (decide (p2= ↑w))),(140,U.bool (decide (p2= ↑w))),(141,U.box 0 0),(142,.lst .ro 1 (zE (Ln.slots l))),(143,.int .i64 ↑fr0)] [] ([SB.box (Ln.cs l),SB.box [.int .i64 n0,.int .i64 n1]]) (.c4 rfl rfl rfl rfl (.c4 rfl rfl rfl rfl (.c4 rfl rfl rfl rfl (.c4 rfl rfl rfl rfl (.c4 rfl rfl rfl rfl (.n8 rfl)))))) rfl rfl fun fr=>?_
         refine kh rfl (kF (by omega)) ?_
         refine zT [(3,U.box 0 0),(7,.lst .ro 1 (zE p)),(9,.int .i64 ↑w),(10,.int .i64 ↑b),(11,.lst .ro 1 (zq R)),(13,.lst .ro 2 (prsU W)),(15,.int .i64 ↑T),(17,.int .i64 ↑i),(18,AA),(19,.int .i64 ↑t),(125,U.tup []),(126,U.tup []),(127,U.tup []),(128,U.tup []),(129,U.tup []),(130,U.tup []),(131,U.tup []),(133,.bool false),(134,.lst .ro 1 (zE p)),(135,.int .i64 ↑fr0),(136,U.eref [.int .i64 p2] 0),(137,.int .i64 p2),(138,.int .i64 ↑w),(139,U.bool (decide (p2= ↑w))),(140,U.bool (decide (p2= ↑w))),(141,U.box 0 0),(142,.lst .ro 1 (zE (Ln.slots l))),(143,.int .i64 ↑fr0)] [] ([SB.box (Ln.cs l),SB.box [.int .i64 n0,.int .i64 n1]]) (.c4 rfl rfl rfl rfl (.c4 rfl rfl rfl rfl (.c4 rfl rfl rfl rfl (.c4 rfl rfl rfl rfl (.c4 rfl rfl rfl rfl (.n8 rfl)))))) rfl rfl fun fr=>?_
         refine zf (u:=.int .i64 (t2)) rfl ty22 rfl rfl (Int.natCast_nonneg _) (by simp[hx2]) cl3 ?_
         refine kh rfl (kF (by omega)) ?_
         refine kC sh3 rfl ?_
         refine kh rfl (kF (by omega)) ?_
         refine zA rfl (kh rfl (kF (by omega)) ?_)
         refine ks rfl (kf rfl (zj rfl rfl (kF (by omega)) ?_))
         refine kD rfl ?_
         refine zB ?_
         exact⟨rfl,rfl,.c4 rfl rfl rfl rfl (.c4 rfl rfl rfl rfl (.cons rfl (.cons rfl (.cons (by show U.bool (decide (t2=(t:Int)))=U.bool _;simp[*]) (.nil rfl)))))⟩
        ·rw[hcnd]
         refine k_region (zA rfl (zA rfl (zf (u:=.int .i64 (p1)) rfl ty22 rfl rfl (Int.natCast_nonneg _) (by simp[hp1]) cl3 ?_)))
         refine kC sh3 rfl ?_
         refine zA rfl ?_
         refine zGJ rfl rfl rfl (by unfold I64;omega) (ks rfl (zA rfl (kg rfl (kG (by omega)) ?_)))
         refine zT [(3,U.box 0 0),(7,.lst .ro 1 (zE p)),(9,.int .i64 ↑w),(10,.int .i64 ↑b),(11,.lst .ro 1 (zq R)),(13,.lst .ro 2 (prsU W)),(15,.int .i64 ↑T),(17,.int .i64 ↑i),(18,AA),(19,.int .i64 ↑t),(20,.int .i64 ↑fr0),(124,U.bool (decide (p1=(1:Int) - ↑w))),(125,U.tup [])] [] ([SB.box (Ln.cs l),SB.box [.int .i64 n0,.int .i64 n1]]) (.c4 rfl rfl rfl rfl (.n9 rfl)) rfl rfl fun fr=>?_
         refine kg rfl (kG (by omega)) ?_
         refine kg rfl (kG (by omega)) ?_
         refine kg rfl (kG (by omega)) ?_
         refine kg rfl (kG (by omega)) ?_
         refine kg rfl (kG (by omega)) ?_
         refine kg rfl (kG (by omega)) ?_
         refine zx rfl rfl (kG (by omega)) ?_
         refine zA rfl (kf rfl (zA rfl ?_))
         refine zT [(3,U.box 0 0),(7,.lst .ro 1 (zE p)),(9,.int .i64 ↑w),(10,.int .i64 ↑b),(11,.lst .ro 1 (zq R)),(13,.lst .ro 2 (prsU W)),(15,.int .i64 ↑T),(17,.int .i64 ↑i),(18,AA),(19,.int .i64 ↑t),(20,.int .i64 ↑fr0),(125,U.tup []),(126,U.tup []),(127,U.tup []),(128,U.tup []),(129,U.tup []),(130,U.tup []),(131,U.tup []),(133,.bool false),(134,.lst .ro 1 (zE p))] [] ([SB.box (Ln.cs l),SB.box [.int .i64 n0,.int .i64 n1]]) (.c4 rfl rfl rfl rfl (.c4 rfl rfl rfl rfl (.c4 rfl rfl rfl rfl (.n8 rfl)))) rfl rfl fun fr=>?_
         refine kf rfl ?_
         refine zT [(3,U.box 0 0),(7,.lst .ro 1 (zE p)),(9,.int .i64 ↑w),(10,.int .i64 ↑b),(11,.lst .ro 1 (zq R)),(13,.lst .ro 2 (prsU W)),(15,.int .i64 ↑T),(17,.int .i64 ↑i),(18,AA),(19,.int .i64 ↑t),(20,.int .i64 ↑fr0),(125,U.tup []),(126,U.tup []),(127,U.tup []),(128,U.tup []),(129,U.tup []),(130,U.tup []),(131,U.tup []),(133,.bool false),(134,.lst .ro 1 (zE p))] [] ([SB.box (Ln.cs l),SB.box [.int .i64 n0,.int .i64 n1]]) (.c4 rfl rfl rfl rfl (.c4 rfl rfl rfl rfl (.c4 rfl rfl rfl rfl (.n8 rfl)))) rfl rfl fun fr=>?_
         refine zA rfl (kf rfl (zf (u:=.int .i64 (p2)) rfl ty22 rfl rfl (Int.natCast_nonneg _) (by simp[hp2]) cl3 ?_))
         refine kf rfl (kC sh3 rfl ?_)
         refine kf rfl (zA rfl (kf rfl (ks rfl (kf rfl (zA rfl (kh rfl (kF (by omega)) ?_))))))
         refine kw rfl zQ (kh rfl (kF (by omega)) ?_)
         refine kA sh22 rfl (kh rfl (kF (by omega)) ?_)
         refine zA rfl ?_
         refine zT [(3,U.box 0 0),(7,.lst .ro 1 (zE p)),(9,.int .i64 ↑w),(10,.int .i64 ↑b),(11,.lst .ro 1 (zq R)),(13,.lst .ro 2 (prsU W)),(15,.int .i64 ↑T),(17,.int .i64 ↑i),(18,AA),(19,.int .i64 ↑t),(125,U.tup []),(126,U.tup []),(127,U.tup []),(128,U.tup []),(129,U.tup []),(130,U.tup []),(131,U.tup []),(133,.bool false),(134,.lst .ro 1 (zE p)),(135,.int .i64 ↑fr0),(136,U.eref [.int .i64 p2] 0),(137,.int .i64 p2),(138,.int .i64 ↑w),(139,U.bool (decide (p2= ↑w))),(140,U.bool (decide (p2= ↑w))),(141,U.box 0 0),(142,.lst .ro 1 (zE (Ln.slots l))),(143,.int .i64 ↑fr0)] [] ([SB.box (Ln.cs l),SB.box [.int .i64 n0,.int .i64 n1]]) (.c4 rfl rfl rfl rfl (.c4 rfl rfl rfl rfl (.c4 rfl rfl rfl rfl (.c4 rfl rfl rfl rfl (.c4 rfl rfl rfl rfl (.n8 rfl)))))) rfl rfl fun fr=>?_
         refine kh rfl (kF (by omega)) ?_
         refine zT [(3,U.box 0 0),(7,.lst .ro 1 (zE p)),(9,.int .i64 ↑w),(10,.int .i64 ↑b),(11,.lst .ro 1 (zq R)),(13,.lst .ro 2 (prsU W)),(15,.int .i64 ↑T),(17,.int .i64 ↑i),(18,AA),(19,.int .i64 ↑t),(125,U.tup []),(126,U.tup []),(127,U.tup []),(128,U.tup []),(129,U.tup []),(130,U.tup []),(131,U.tup []),(133,.bool false),(134,.lst .ro 1 (zE p)),(135,.int .i64 ↑fr0),(136,U.eref [.int .i64 p2] 0),(137,.int .i64 p2),(138,.int .i64 ↑w),(139,U.bool (decide (p2= ↑w))),(140,U.bool (decide (p2= ↑w))),(141,U.box 0 0),(142,.lst .ro 1 (zE (Ln.slots l))),(143,.int .i64 ↑fr0)] [] ([SB.box (Ln.cs l),SB.box [.int .i64 n0,.int .i64 n1]]) (.c4 rfl rfl rfl rfl (.c4 rfl rfl rfl rfl (.c4 rfl rfl rfl rfl (.c4 rfl rfl rfl rfl (.c4 rfl rfl rfl rfl (.n8 rfl)))))) rfl rfl fun fr=>?_
         refine zf (u:=.int .i64 (t2)) rfl ty22 rfl rfl (Int.natCast_nonneg _) (by simp[hx2]) cl3 ?_
         refine kh rfl (kF (by omega)) ?_
         refine kC sh3 rfl ?_
         refine kh rfl (kF (by omega)) ?_
         refine zA rfl (kh rfl (kF (by omega)) ?_)
         refine ks rfl (kf rfl (zj rfl rfl (kF (by omega)) ?_))
         refine kD rfl ?_
         refine zB ?_
         exact⟨rfl,rfl,.c4 rfl rfl rfl rfl (.c4 rfl rfl rfl rfl (.cons rfl (.cons rfl (.cons (by show U.bool (decide (t2=(t:Int)))=U.bool _;simp[*]) (.nil rfl)))))⟩
       ·rw[hcnd]
        refine k_region (zA rfl (zA rfl (zf (u:=.int .i64 (p1)) rfl ty22 rfl rfl (Int.natCast_nonneg _) (by simp[hp1]) cl3 ?_)))
        refine kC sh3 rfl ?_
        refine zA rfl ?_
        refine zGJ rfl rfl rfl (by unfold I64;omega) (ks rfl (zA rfl (kg rfl (kG (by omega)) ?_)))
        refine zT [(3,U.box 0 0),(7,.lst .ro 1 (zE p)),(9,.int .i64 ↑w),(10,.int .i64 ↑b),(11,.lst .ro 1 (zq R)),(13,.lst .ro 2 (prsU W)),(15,.int .i64 ↑T),(17,.int .i64 ↑i),(18,AA),(19,.int .i64 ↑t),(20,.int .i64 ↑fr0),(124,U.bool (decide (p1=(1:Int) - ↑w))),(125,U.tup [])] [] ([SB.box (Ln.cs l),SB.box [.int .i64 n0,.int .i64 n1]]) (.c4 rfl rfl rfl rfl (.n9 rfl)) rfl rfl fun fr=>?_
        refine kg rfl (kG (by omega)) ?_
        refine kg rfl (kG (by omega)) ?_
        refine kg rfl (kG (by omega)) ?_
        refine kg rfl (kG (by omega)) ?_
        refine kg rfl (kG (by omega)) ?_
        refine kg rfl (kG (by omega)) ?_
        refine zx rfl rfl (kG (by omega)) ?_
        refine zA rfl (kf rfl (zA rfl ?_))
        refine zT [(3,U.box 0 0),(7,.lst .ro 1 (zE p)),(9,.int .i64 ↑w),(10,.int .i64 ↑b),(11,.lst .ro 1 (zq R)),(13,.lst .ro 2 (prsU W)),(15,.int .i64 ↑T),(17,.int .i64 ↑i),(18,AA),(19,.int .i64 ↑t),(20,.int .i64 ↑fr0),(125,U.tup []),(126,U.tup []),(127,U.tup []),(128,U.tup []),(129,U.tup []),(130,U.tup []),(131,U.tup []),(133,.bool false),(134,.lst .ro 1 (zE p))] [] ([SB.box (Ln.cs l),SB.box [.int .i64 n0,.int .i64 n1]]) (.c4 rfl rfl rfl rfl (.c4 rfl rfl rfl rfl (.c4 rfl rfl rfl rfl (.n8 rfl)))) rfl rfl fun fr=>?_
        refine kf rfl ?_
        refine zT [(3,U.box 0 0),(7,.lst .ro 1 (zE p)),(9,.int .i64 ↑w),(10,.int .i64 ↑b),(11,.lst .ro 1 (zq R)),(13,.lst .ro 2 (prsU W)),(15,.int .i64 ↑T),(17,.int .i64 ↑i),(18,AA),(19,.int .i64 ↑t),(20,.int .i64 ↑fr0),(125,U.tup []),(126,U.tup []),(127,U.tup []),(128,U.tup []),(129,U.tup []),(130,U.tup []),(131,U.tup []),(133,.bool false),(134,.lst .ro 1 (zE p))] [] ([SB.box (Ln.cs l),SB.box [.int .i64 n0,.int .i64 n1]]) (.c4 rfl rfl rfl rfl (.c4 rfl rfl rfl rfl (.c4 rfl rfl rfl rfl (.n8 rfl)))) rfl rfl fun fr=>?_
        refine zA rfl (kf rfl (zf (u:=.int .i64 (p2)) rfl ty22 rfl rfl (Int.natCast_nonneg _) (by simp[hp2]) cl3 ?_))
        refine kf rfl (kC sh3 rfl ?_)
        refine kf rfl (zA rfl (kf rfl (ks rfl (kf rfl (zA rfl (kg rfl (kG (by omega)) ?_))))))
        refine kg rfl (kG (by omega)) ?_
        refine kg rfl (kG (by omega)) ?_
        refine zT [(3,U.box 0 0),(7,.lst .ro 1 (zE p)),(9,.int .i64 ↑w),(10,.int .i64 ↑b),(11,.lst .ro 1 (zq R)),(13,.lst .ro 2 (prsU W)),(15,.int .i64 ↑T),(17,.int .i64 ↑i),(18,AA),(19,.int .i64 ↑t),(125,U.tup []),(126,U.tup []),(127,U.tup []),(128,U.tup []),(129,U.tup []),(130,U.tup []),(131,U.tup []),(133,.bool false),(134,.lst .ro 1 (zE p)),(135,.int .i64 ↑fr0),(136,U.eref [.int .i64 p2] 0),(137,.int .i64 p2),(138,.int .i64 ↑w),(139,U.bool (decide (p2= ↑w))),(140,U.bool (decide (p2= ↑w))),(141,U.tup []),(142,U.tup []),(143,U.tup [])] [] ([SB.box (Ln.cs l),SB.box [.int .i64 n0,.int .i64 n1]]) (.c4 rfl rfl rfl rfl (.c4 rfl rfl rfl rfl (.c4 rfl rfl rfl rfl (.c4 rfl rfl rfl rfl (.c4 rfl rfl rfl rfl (.n8 rfl)))))) rfl rfl fun fr=>?_
        refine kg rfl (kG (by omega)) ?_
        refine kg rfl (kG (by omega)) ?_
        refine kg rfl (kG (by omega)) ?_
        refine kg rfl (kG (by omega)) ?_
        refine kf rfl (zx rfl rfl (kG (by omega)) ?_)
        refine kD rfl ?_
        refine zB ?_
        exact⟨rfl,rfl,.c4 rfl rfl rfl rfl (.c4 rfl rfl rfl rfl (.cons rfl (.cons rfl (.cons (by show U.bool false=U.bool _;simp[*]) (.nil rfl)))))⟩
     ·rintro s5 ⟨hst5,hs5⟩
      cases hct:C t with
      |true=>
       rw[hct,if_pos rfl]at hsu
       rw[hct]at hs5
       generalize memP C t=M at*
       cases M with
       |nil=>
        refine zH _ _ hs5 hst5 fun fr5=>?_
        refine k_cT rfl rfl ?_
        refine k_region (zA rfl (zA rfl (wv (es:=[.int .i64 ↑t]) rfl ty22 ze3 cl3 rfl rfl rfl rfl rfl rfl rfl rfl ?_)))
        refine wg rfl zAM rfl rfl (by simp) (by simp) (by simp[yC,za,oneU]) (by simp) ?_
        refine zC rfl (zB (k_region (zA rfl ?_)))
        refine kz rfl (by unfold I64;omega) (zC rfl (zB ?_))
        exact⟨mm - 1,by omega,t+1,by omega,rfl,.c4 rfl rfl rfl rfl (.c4 rfl rfl rfl rfl (.cons (by rw[hsu];rfl) (.n1 rfl)))⟩
       |cons y M=>
        refine zH _ _ hs5 hst5 fun fr5=>?_
        refine k_cT rfl rfl ?_
        refine k_region (zA rfl (zA rfl (wv (es:=[.int .i64 ↑t]) rfl ty22 ze3 cl3 rfl rfl rfl rfl rfl rfl rfl rfl ?_)))
        refine zAC 18 rfl zAM rfl rfl rfl (by simp) (by simp) (by simp[yC,za,oneU]) (by simp at hml ⊢;omega) ?_
        refine zC rfl (zB (k_region (zA rfl ?_)))
        refine kz rfl (by unfold I64;omega) (zC rfl (zB ?_))
        exact⟨mm - 1,by omega,t+1,by omega,rfl,.c4 rfl rfl rfl rfl (.c4 rfl rfl rfl rfl (.cons (by rw[hsu,zBO];rfl) (.n1 rfl)))⟩
      |false=>
       rw[hct,if_neg (by decide),List.append_nil]at hsu
       rw[hct]at hs5
       refine zH _ _ hs5 hst5 fun fr5=>?_
       refine k_cF rfl rfl ?_
       refine zK (k_region (zA rfl ?_))
       refine kz rfl (by unfold I64;omega) (zC rfl (zB ?_))
       exact⟨mm - 1,by omega,t+1,by omega,rfl,.c4 rfl rfl rfl rfl (.c4 rfl rfl rfl rfl (.cons (by rw[hsu];rfl) (.n1 rfl)))⟩
    ·have ht8:t=8:=by omega
     subst ht8
     generalize memP C 8=M at*
     cases M with
     |nil=>
      refine zH _ _ hs4 hst4 fun fr4=>?_
      refine k_seq (kQ (zA rfl (kp rfl (zB (k_cF rfl rfl ?_)))))
      refine zp (kQ (zA rfl (zA rfl (zf rfl ty42 rfl rfl (by omega) hR1 cl22 ?_))))
      refine kC sh22 rfl ?_
      refine zA rfl (zN rfl (q23) (.lcons _ _ _ _ (.refl _) (.lcons _ _ _ _ (.nil .full .ro 1) (.lrefl _))) ?_)
      refine yN rfl rfl (zB (k_cF rfl rfl ?_))
      refine zK (k_region (zA rfl ?_))
      refine kz rfl (by unfold I64;omega) (zC rfl (zB ?_))
      exact⟨kk - 1,by omega,i+1,by omega,rfl,.c4 rfl rfl rfl rfl (.n4 rfl)⟩
     |cons y M=>
      refine zH _ _ hs4 hst4 fun fr4=>?_
      refine k_seq (kQ (zA rfl (kp rfl (zB (k_cF rfl rfl ?_)))))
      refine zp (kQ (zA rfl (zA rfl (zf rfl ty42 rfl rfl (by omega) hR1 cl22 ?_))))
      refine kC sh22 rfl ?_
      refine zA rfl (zN rfl (q23) (.lrefl _) (yN rfl rfl (zB (k_cF rfl rfl ?_))))
      refine zK (k_region (zA rfl ?_))
      refine kz rfl (by unfold I64;omega) (zC rfl (zB ?_))
      exact⟨kk - 1,by omega,i+1,by omega,rfl,.c4 rfl rfl rfl rfl (.n4 rfl)⟩
   ·have hie:i=l.slots.length:=by omega
    subst hie
    have hin3:W.any (fun z=>decide (z=(w,b)))=true:=List.any_eq_true.2 ⟨_,hin,kF rfl⟩
    refine zH _ _ hs3 hst3 fun fr3=>?_
    refine k_seq (kQ (zA rfl (zA rfl (zk rfl ty42 rfl (List.length_map _) ?_))))
    refine kp rfl (zB (k_cF rfl (kG (by omega)) (zp (kQ (zC rfl (zC rfl (zB (k_seq (kQ (zC rfl (zB (zG ?_))))))))))))
    refine yZ (fun mm s4=>∃j:Nat,mm+j=W.length∧s4.st=[.box l.cs,.box [.int .i64 n0,.int .i64 n1]]∧Holds s4 [(9,.int .i64 w),(10,.int .i64 b),(13,.lst .ro 2 (prsU W)),(15,.int .i64 T),(21,.bool ((W.take j).any fun z=>decide (z=(w,b)))),(22,.int .i64 (((W.take j).filter fun x=>decide (x.2≤T)).length)),(23,.int .i64 j)]) (fun mm s4 hJ=>?_) W.length _ ⟨0,rfl,rfl,.c4 rfl rfl rfl rfl (.n3 rfl)⟩
    obtain⟨j,hm,hst4,hs4⟩:=hJ
    by_cases hj:j<W.length
    ·obtain⟨x,hx⟩:∃x,W[j]? =some x:=⟨W[j],List.getElem?_eq_getElem hj⟩
     have hct:=cnt_take (b:=T) hx
     have hft:=found_take (y:=(w,b)) hx
     obtain⟨xw,xb⟩:=x
     have en:=eq36 xw xb w b
     have he:(decide ((xw,xb)=(w,b)))=(decide ((xw:Int)=(w:Int))&&decide ((xb:Int)=(b:Int))):=by
      rw[Bool.eq_iff_iff,Bool.and_eq_true,decide_eq_true_eq,decide_eq_true_eq,decide_eq_true_eq,Prod.mk.injEq]
      omega
     rw[←he]at en
     have hxU:(prsU W)[((j:Nat):Int).toNat]? =some (latU (xw,xb)):=by
      show(W.map latU)[((j:Nat):Int).toNat]? =_
      rw[Int.toNat_natCast,List.getElem?_map,hx];rfl
     have hcl:((W.take j).filter fun x=>decide (x.2≤T)).length≤18:=by
      have:=List.length_filter_le (fun x:Nat×Nat=>decide (x.2≤T)) (W.take j)
      have:=List.length_take_le j W
      omega
     generalize ((W.take j).filter fun x=>decide (x.2≤T)).length=C at*
     generalize (W.take j).any (fun z=>decide (z=(w,b)))=F at*
     generalize decide ((xw,xb)=(w,b))=z1 at*
     clear he
     refine zH _ _ hs4 hst4 fun fr4=>?_
     refine k_seq (kQ (zA rfl (zA rfl (zk rfl ty46 rfl (List.length_map _) ?_))))
     refine kp rfl (zB (k_cT rfl (kF (by omega)) (zK (k_seq (zG ?_)))))
     refine k_cut (fun s5=>s5.st=[.box l.cs,.box [.int .i64 n0,.int .i64 n1]]∧Holds s5 [(9,.int .i64 w),(10,.int .i64 b),(13,.lst .ro 2 (prsU W)),(15,.int .i64 T),(21,.bool (F||z1)),(22,.int .i64 C),(23,.int .i64 j)]) ?_ ?_
     ·cases F with
      |true=>
       refine k_region (zA rfl (zA rfl (ke rfl (ke rfl (ke rfl (ke rfl (ke rfl (ke rfl (ke rfl (ke rfl (kE rfl ?_)))))))))))
       refine zC rfl (zB ?_)
       exact⟨rfl,rfl,.c4 rfl rfl rfl rfl (.n3 rfl)⟩
      |false=>
       rw[Bool.false_or]
       refine k_region (zA rfl (zA rfl (kf rfl (zA rfl (kf rfl (zA rfl (kf rfl (zf rfl ty46 rfl rfl (by omega) hxU cl36 ?_))))))))
       refine kf rfl (o_loadRN rfl rfl sh36 rfl ?_)
       refine kf rfl (zA rfl (kf rfl (zA rfl (kf rfl (wN rfl ze36 pl36 rfl rfl ?_)))))
       refine kf rfl (zCx rfl rfl rfl rfl rfl en ?_)
       refine kD rfl ?_
       refine zC rfl (zB ?_)
       exact⟨rfl,rfl,.c4 rfl rfl rfl rfl (.n3 rfl)⟩
     ·rintro s5 ⟨hst5,hs5⟩
      refine zH _ _ hs5 hst5 fun fr5=>?_
      by_cases cb:xb≤T
      ·rw[if_pos cb]at hct
       refine kQ (zA rfl (zA rfl (zf rfl ty46 rfl rfl (by omega) hxU cl36 ?_)))
       refine o_idxE rfl ty36 rfl rfl (by omega) (by omega) cl3 ?_
       refine kC sh3 rfl ?_
       refine zA rfl (kq rfl (zB (k_cT rfl (kF (by omega)) (k_region (zA rfl ?_)))))
       refine kz rfl (by unfold I64;omega) (zC rfl (zB (k_region (zA rfl ?_))))
       refine kz rfl (by unfold I64;omega) (zC rfl (zB ?_))
       exact⟨mm - 1,by omega,j+1,by omega,rfl,.c4 rfl rfl rfl rfl (.cons (by rw[hft];rfl) (.cons (by rw[hct];rfl) (.n1 rfl)))⟩
      ·rw[if_neg cb]at hct
       refine kQ (zA rfl (zA rfl (zf rfl ty46 rfl rfl (by omega) hxU cl36 ?_)))
       refine o_idxE rfl ty36 rfl rfl (by omega) (by omega) cl3 ?_
       refine kC sh3 rfl ?_
       refine zA rfl (kq rfl (zB (k_cF rfl (kG (by omega)) (zK (k_region (zA rfl ?_))))))
       refine kz rfl (by unfold I64;omega) (zC rfl (zB ?_))
       exact⟨mm - 1,by omega,j+1,by omega,rfl,.c4 rfl rfl rfl rfl (.cons (by rw[hft];rfl) (.cons (by rw[hct];rfl) (.n1 rfl)))⟩
    ·have hje:j=W.length:=by omega
     subst hje
     rw[List.take_length,hin3]at hs4
     by_cases hbt:b≤T
     ·have hlc:=hlc hbt
      rw[hlc]at hs4
      refine zH _ _ hs4 hst4 fun fr4=>?_
      by_cases hb0:b=0
      ·subst hb0
       refine k_seq (kQ (zA rfl (zA rfl (zk rfl ty46 rfl (List.length_map _) ?_))))
       refine kp rfl (zB (k_cF rfl (kG (by omega)) (zp (k_seq (kQ (zA rfl (yN rfl rfl (zB (k_cF rfl rfl ?_)))))))))
       refine zK (k_seq (kQ (zA rfl (zA rfl (o_gtr rfl rfl rfl (zB (k_cF rfl (kG (by omega)) (zK (kQ (zA rfl (ks rfl (zA rfl (kf rfl (zA rfl (kf rfl ?_)))))))))))))))
       refine ks rfl (kE rfl ?_)
       refine zA rfl (ke rfl (ke rfl ?_))
       refine zT [(22,.int .i64 ↑(if 0=0 then 2 else 1)),(199,U.bool (decide (↑(if 0=0 then 2 else 1)=(2:Int)))),(201,U.tup [])] [] ([SB.box (Ln.cs l),SB.box [.int .i64 n0,.int .i64 n1]]) (.n3 rfl) rfl rfl fun fr=>?_
       refine ke rfl (zAO rfl rfl rfl rfl ?_)
       refine zAO rfl rfl rfl rfl ?_
       refine ke rfl (kE rfl ?_)
       refine zA rfl (kf rfl (zN rfl (r26) (.lrefl _) (kE rfl ?_)))
       refine zC rfl (zB (zY ?_))
       refine⟨.inr rfl,_,.cons _ _ _ _ (.tmp 6) .nil,?_⟩
       exact .refl _
      ·rw[if_neg hb0]
       refine k_seq (kQ (zA rfl (zA rfl (zk rfl ty46 rfl (List.length_map _) ?_))))
       refine kp rfl (zB (k_cF rfl (kG (by omega)) (zp (k_seq (kQ (zA rfl (yN rfl rfl (zB (k_cF rfl rfl ?_)))))))))
       refine zK (k_seq (kQ (zA rfl (zA rfl (o_gtr rfl rfl rfl (zB (k_cF rfl (kG (by omega)) (zK (kQ (zA rfl (ks rfl (zA rfl (kg rfl (kG (by omega)) ?_)))))))))))))
       refine kg rfl (kG (by omega)) ?_
       refine zx rfl rfl (kG (by omega)) ?_
       refine zA rfl (kf rfl (zA rfl (kf rfl (o_gtr rfl rfl rfl ?_))))
       refine zT [(22,.int .i64 ↑1),(199,.bool false),(201,U.bool (decide ((0:Int)< ↑b)))] [] ([SB.box (Ln.cs l),SB.box [.int .i64 n0,.int .i64 n1]]) (.n3 rfl) rfl rfl fun fr=>?_
       refine kf rfl ?_
       refine zT [(22,.int .i64 1),(199,.bool false),(201,U.bool (decide ((0:Int)< ↑b)))] [] ([SB.box (Ln.cs l),SB.box [.int .i64 n0,.int .i64 n1]]) (.n3 rfl) rfl rfl fun fr=>?_
       refine zA rfl (kh rfl (kF (by omega)) ?_)
       refine zA rfl (kh rfl (kF (by omega)) ?_)
       refine ks rfl (kf rfl (zj rfl rfl (kF (by omega)) ?_))
       refine kD rfl ?_
       refine zA rfl (kf rfl (zN rfl (r26) (.lrefl _) (kE rfl ?_)))
       refine zC rfl (zB (zY ?_))
       refine⟨.inr rfl,_,.cons _ _ _ _ (.tmp 6) .nil,?_⟩
       exact .refl _
     ·refine zH _ _ hs4 hst4 fun fr4=>?_
      refine k_seq (kQ (zA rfl (zA rfl (zk rfl ty46 rfl (List.length_map _) ?_))))
      refine kp rfl (zB (k_cF rfl (kG (by omega)) (zp (k_seq (kQ (zA rfl (yN rfl rfl (zB (k_cF rfl rfl ?_)))))))))
      refine zK (k_seq (kQ (zA rfl (zA rfl (o_gtr rfl rfl rfl (zB (k_cT rfl (kF (by omega)) (kQ (zN rfl (r26) (.lrefl _) (zC rfl (zB (zY ?_))))))))))))
      refine⟨.inr rfl,_,.cons _ _ _ _ (.tmp 6) .nil,?_⟩
      exact .refl _
end Go.Proofs.YthhbfbmfhldbaaaDoor.locks
