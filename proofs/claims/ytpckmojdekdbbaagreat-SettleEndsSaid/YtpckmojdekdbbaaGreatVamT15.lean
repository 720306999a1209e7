import Derived.Test.YtpckmojdekdbbaaGreatVamT14
set_option linter.unusedVariables false
set_option linter.unusedSimpArgs false
set_option linter.constructorNameAsVariable false
namespace Go.Proofs.YtpckmojdekdbbaaGreat.settles
open Vam
variable {is:FuncId→Bool}{orc:Known}{z:Zt}
theorem by40:Program.bytesOf Tryz.prog 40=24:=by kernel_rfl
theorem ze40:yf Tryz.prog 40=some ((.cons .nils .nil):V):=by kernel_rfl
theorem ap28_28:AppT Tryz.prog 28 28 40 1 24 ((.cons .nils .nil):V):=⟨ty28,⟨_,ty28⟩,cl40,by decide,by40,ze40,rfl⟩
noncomputable def b8:Code:=(Tryz.f8.body).getD .skip
theorem body8:bodyOf Tryz.prog 8=some (244,b8,[.tmp 4]):=by kernel_rfl
theorem pure8:pureFn Tryz.prog 8=true:=by kernel_rfl
theorem zGK{k y:Int}(hk:0≤k∧k<z.keys.length)(hy:0≤y∧y≤z.yrs):wasE z k y=askT z true:=by
 unfold wasE;rw[spot_iff.2 ⟨hk,hy⟩]
def endR(z:Zt)(j:Nat)(up:Bool):List Int:=(List.range (z.yrs.toNat+1)).map fun i=>if up=true then(pitS z j i).2 else(pitS z j i).1
theorem endR_len(z:Zt)(j:Nat)(up:Bool):(endR z j up).length=z.yrs.toNat+1:=by simp[endR]
theorem endR_at(z:Zt)(j:Nat)(up:Bool){y:Nat}(hy:y≤z.yrs.toNat):(endR z j up)[y]? =some (if up=true then(pitS z j y).2 else(pitS z j y).1):=by
 unfold endR;rw[List.getElem?_map,List.getElem?_range (by omega)];rfl
theorem row_eq(h:ZOk z){k:Nat}{r r':Nat→Int}(hr:Row z k r)(e:∀y,y≤z.yrs.toNat→r y=r' y):Row z k r':=by
 refine⟨by rw[←e 0 (by omega)];exact hr.b,fun y hy=>by rw[←e y (by omega),←e (y+1) (by omega)];exact hr.g y hy,fun x hx hk=>?_⟩
 have:=(h.ll x hx).1
 rw[←e x.yr.toNat (by omega)];exact hr.l x hx hk
theorem endR_row(h:ZOk z){j:Nat}(hj:j<z.keys.length)(ht:trueK z j)(up:Bool):Row z j fun y=>((endR z j up)[y]?).getD 0:=by
 cases up with
 |false=>exact row_eq h (low_row h hj ht) fun y hy=>by rw[endR_at z j false hy];rfl
 |true=>exact row_eq h (high_row h hj ht) fun y hy=>by rw[endR_at z j true hy];rfl
theorem fil_start(k y:Int):∀(fs:List Fl) (a:Sp),filS fs k y a=zBT a (filS fs k y (0,0)):=by
 intro fs
 induction fs with
 |nil=>intro a;show a=zBT a (0,0);unfold zBT;simp
 |cons f fs ih=>
  intro a
  show filS fs k y (if f.ky=k∧f.yr=y then zBT a f.bs else a)=zBT a (filS fs k y (if f.ky=k∧f.yr=y then zBT (0,0) f.bs else(0,0)))
  by_cases c:f.ky=k∧f.yr=y
  ·rw[if_pos c,if_pos c,ih,ih (zBT (0,0) f.bs)]
   unfold zBT
   simp only[Int.zero_add,Int.add_assoc]
  ·rw[if_neg c,if_neg c,ih a]
set_option maxHeartbeats 16000000 in
theorem ret8(hi:Off is)(z:Zt)(n1 n2:Int)(r21:RetP Tryz.prog is orc 21 [] (.bool true)):RetP Tryz.prog is orc 8 [z.u,.agg [.int .i64 n1,.int .i64 n2]] (.bool true):=by
 refine yp body8 pure8 (hi 8 (by decide)) rfl rfl (wQ (zFh z 5) (yO _ _ 6)) (.inl (.bool _ _)) ?_
 have q36:=ret36 (orc:=orc) hi z
 cases hv:zAZ z with
 |false=>
  rw[hv]at q36
  refine kQ (ya rfl rfl (ya rfl rfl (zE rfl (zA ?_))))
  refine zL [(2,U.box 0 0),(3,U.box 1 0)] ([SB.box [.int .i64 (Zt.yrs z),.lst .ro 7 (kysU (Zt.keys z)),.lst .ro 2 (spsU (Zt.steps z)),.lst .ro 4 (flsU (Zt.files z)),.lst .ro 4 (lksU (Zt.looks z))],SB.box [.int .i64 n1,.int .i64 n2]]) (.n2 rfl) rfl fun fr=>?_
  refine k_seq (kQ (kB sh27 rfl (zY rfl (q36) (.lrefl _) (zCp rfl rfl (zA (k_cT rfl rfl ?_))))))
  refine kQ (zY rfl (r21) (.lrefl _) (zE rfl (zA (zw ?_))))
  refine⟨.inr rfl,_,.cons _ _ _ _ (.tmp 4) .nil,?_⟩
  exact .refl _
 |true=>
  rw[hv]at q36
  have h:=zBR.1 hv
  have hy:=h.y
  have hk7:=h.k
  have q40a:=ret40 (orc:=orc) hi n1 z.keys.length (by omega)
  have q40b:=ret40 (orc:=orc) hi n2 (z.yrs+1) (by omega)
  have hk0:=Int.emod_nonneg n1 (show(z.keys.length:Int)≠0 by omega)
  have hk1:=Int.emod_lt_of_pos n1 (show(0:Int)<z.keys.length by omega)
  have hy0:=Int.emod_nonneg n2 (show z.yrs+1≠0 by omega)
  have hy1:=Int.emod_lt_of_pos n2 (show 0<z.yrs+1 by omega)
  obtain⟨k,hkn⟩:∃k:Nat,n1 % (z.keys.length:Int)=k:=⟨(n1 % (z.keys.length:Int)).toNat,by omega⟩
  obtain⟨y,hyn⟩:∃y:Nat,n2 % (z.yrs+1)=y:=⟨(n2 % (z.yrs+1)).toNat,by omega⟩
  rw[hkn]at q40a hk0 hk1
  rw[hyn]at q40b hy0 hy1
  have q19:=ret19 (orc:=orc) hi z k y
  have hE:=wasE_ok h (k:=k) (y:=y) ⟨by omega,hk1⟩ ⟨by omega,by omega⟩
  have hR:wasR z k y=if wasE z k y=0 then pitS z k y else(0,0):=rfl
  have hP:∀up,pastR z k y up=if wasE z k y=0 then(List.range (z.yrs.toNat+1)).map fun i=>if up=true then(pitS z k i).2 else(pitS z k i).1 else []:=fun up=>rfl
  have q22:=fun up=>ret22 (orc:=orc) hi z k y up
  rcases hE with hE|hE
  ·have hes:=hE
   rw[zGK ⟨by omega,hk1⟩ ⟨by omega,by omega⟩]at hes
   rw[if_pos hE]at hR
   have htr:=(tru_iff h).1 (askT_zero.1 hes).2.2
   have hP2:∀up,pastR z k y up=endR z k up:=fun up=>by rw[hP,if_pos hE];rfl
   have hstb:=zEM (begS z k) (grw_ups h (k:=k) (by omega))
   rw[hR,hE]at q19
   have q22:∀up,RetP Tryz.prog is orc 22 [z.u,.int .i64 k,.int .i64 y,.bool up] (.tup [.lst .ro 1 (zb (endR z k up)),.int .i64 0]):=fun up=>by
    have:=q22 up
    rw[hP2,hE]at this;exact this
   have q22j:∀j:Nat,j<z.keys.length→RetP Tryz.prog is orc 22 [z.u,.int .i64 j,.int .i64 0,.bool false] (.tup [.lst .ro 1 (zb (endR z j false)),.int .i64 0]):=fun j hj=>by
    have he:wasE z j 0=0:=by rw[zGK ⟨by omega,by omega⟩ ⟨by omega,by omega⟩];exact hes
    have:=ret22 (is:=is) (orc:=orc) hi z j 0 false
    rw[he,show pastR z j 0 false=endR z j false by unfold pastR;rw[if_pos he];rfl]at this
    exact this
   obtain⟨R,hRe⟩:∃R,pitS z k y=R:=⟨_,rfl⟩
   rw[hRe]at q19
   obtain⟨R1,R2⟩:=R
   refine kQ (ya rfl rfl (ya rfl rfl (zE rfl (zA ?_))))
   refine zL [(2,U.box 0 0),(3,U.box 1 0)] ([SB.box [.int .i64 (Zt.yrs z),.lst .ro 7 (kysU (Zt.keys z)),.lst .ro 2 (spsU (Zt.steps z)),.lst .ro 4 (flsU (Zt.files z)),.lst .ro 4 (lksU (Zt.looks z))],SB.box [.int .i64 n1,.int .i64 n2]]) (.n2 rfl) rfl fun fr=>?_
   refine k_seq (kQ (kB sh27 rfl (zY rfl (q36) (.lrefl _) (zCp rfl rfl (zA (k_cF rfl rfl ?_))))))
   refine zV (k_seq (wM [.plain,.read true,.plain,.read true,.read true,.read false,.plain,.read true,.plain,.read true,.plain,.plain,.plain,.plain] (by kernel_rfl) (by kernel_rfl) (by kernel_rfl) ?_))
   refine zC (zAt rfl ty29 rfl rfl (by omega) (by omega) cl3 (zA rfl)) ?_
   refine zJ rfl (kA sh3 rfl (zA rfl)) (zC (kw rfl yT (zA rfl)) ?_)
   refine zJ rfl (kA sh22 rfl (zA rfl)) (zJ rfl (zz rfl ty22 rfl (List.length_map _) (zA rfl)) ?_)
   refine yH rfl (q40a) (.int _ _) (.lrefl _) ?_
   refine zC (zAt rfl ty29 rfl rfl (by omega) (by omega) cl3 (zA rfl)) ?_
   refine zJ rfl (kA sh3 rfl (zA rfl)) (zC (kw rfl wA (zA rfl)) ?_)
   refine zp [(2,U.box 0 0),(32,.int .i64 ↑k),(34,.int .i64 n2),(35,U.box 0 0)] [] ([SB.box [.int .i64 (Zt.yrs z),.lst .ro 7 (kysU (Zt.keys z)),.lst .ro 2 (spsU (Zt.steps z)),.lst .ro 4 (flsU (Zt.files z)),.lst .ro 4 (lksU (Zt.looks z))],SB.box [.int .i64 n1,.int .i64 n2]]) (.n4 rfl) rfl rfl fun fr=>?_
   refine zJ rfl (kA sh3 rfl (zA rfl)) ?_
   refine zC (kz rfl (by unfold I64;omega) (zA rfl)) ?_
   refine zC (zY rfl (q40b) (.lrefl _) (zA rfl)) ?_
   refine zC (zE rfl (zA rfl)) ?_
   refine zC (zE rfl (zA rfl)) ?_
   refine zAK ?_
   refine zL [(2,U.box 0 0),(5,.int .i64 ↑k),(6,.int .i64 ↑y)] ([SB.box [.int .i64 (Zt.yrs z),.lst .ro 7 (kysU (Zt.keys z)),.lst .ro 2 (spsU (Zt.steps z)),.lst .ro 4 (flsU (Zt.files z)),.lst .ro 4 (lksU (Zt.looks z))],SB.box [.int .i64 n1,.int .i64 n2]]) (.n3 rfl) rfl fun fr=>?_
   refine kQ (kB sh27 rfl (zD rfl (zD rfl (zY rfl (q19) (.lrefl _) (zD rfl (ku rfl (ku rfl (zi rfl ze35 ?_))))))))
   refine zS rfl rfl sh35 rfl rfl rfl rfl rfl ?_
   refine zE rfl (zA ?_)
   refine zL [(2,U.box 0 0),(5,.int .i64 ↑k),(6,.int .i64 ↑y),(7,U.box 2 0),(8,.int .i64 0)] ([SB.box [.int .i64 (Zt.yrs z),.lst .ro 7 (kysU (Zt.keys z)),.lst .ro 2 (spsU (Zt.steps z)),.lst .ro 4 (flsU (Zt.files z)),.lst .ro 4 (lksU (Zt.looks z))],SB.box [.int .i64 n1,.int .i64 n2],SB.box [.int .i64 (Prod.fst (R1,R2)),.int .i64 (Prod.snd (R1,R2))]]) (.n5 rfl) rfl fun fr=>?_
   refine k_seq (kQ (zE rfl (zA (zR ?_))))
   refine yq (fun kk s1=>∃i:Nat,kk+i=2∧s1.st=[SB.box z.cs,.box [.int .i64 n1,.int .i64 n2],.box [.int .i64 R1,.int .i64 R2]]∧Holds s1 [(2,.box 0 0),(5,.int .i64 k),(6,.int .i64 y),(7,.box 2 0),(8,.int .i64 0),(9,.int .i64 i)]) (fun kk s1 hI=>?_) 2 _ ⟨0,rfl,rfl,.c4 rfl rfl rfl rfl (.n2 rfl)⟩
   obtain⟨i,hkk,hst,hs⟩:=hI
   by_cases hin:i<2
   ·have k2:decide ((i:Int)<2)=true:=kF (by omega)
    have q22i:=q22 (decide ((i:Int)=1))
    have hWl:=endR_len z k (decide ((i:Int)=1))
    have hWr:=endR_row h (j:=k) (by omega) (htr k (by omega)) (decide ((i:Int)=1))
    have hWy:=endR_at z k (decide ((i:Int)=1)) (y:=y) (by omega)
    rw[hRe]at hWy
    generalize endR z k (decide ((i:Int)=1))=W at*
    have hWu:(zb W)[y]? =some (.int .i64 (if decide ((i:Int)=1)=true then R2 else R1)):=by rw[List.getElem?_map,hWy];rfl
    have k3:decide ((W.length:Int)≠z.yrs+1)=false:=kG (by omega)
    obtain⟨G,hG⟩:∃G:Nat→List Int,G=fun j=>if j=k then W else endR z j false:=⟨_,rfl⟩
    have hrws:Rws z ((List.range z.keys.length).map G):=⟨by simp,fun j r hr=>by
     rw[List.getElem?_map]at hr
     obtain⟨j',hj',rfl⟩:=Option.map_eq_some_iff.1 hr
     obtain⟨hj1,hj2⟩:=List.getElem?_eq_some_iff.1 hj'
     rw[List.getElem_range]at hj2
     subst hj2
     rw[List.length_range]at hj1
     rw[hG]
     by_cases c:j=k
     ·subst c;simp only[if_true];exact⟨hWl,hWr⟩
     ·simp only[if_neg c];exact⟨endR_len _ _ _,endR_row h hj1 (htr j hj1) false⟩⟩
    have q15:=ret15 (is:=is) (orc:=orc) hi h hrws
    refine zL _ _ hs hst fun fr=>?_
    refine k_seq (kQ (zD rfl (kp rfl (zA (k_cT rfl (by assumption) (zV (k_seq (zR (kQ (kB sh27 rfl (zD rfl (zD rfl (zD rfl (ks rfl (zY rfl (q22i) (.lrefl _) ?_)))))))))))))))
    refine zD rfl (ku rfl (ku rfl (zE rfl (zE rfl (zA ?_)))))
    refine zL [(2,U.box 0 0),(5,.int .i64 ↑k),(6,.int .i64 ↑y),(7,U.box 2 0),(8,.int .i64 0),(9,.int .i64 ↑i),(10,.lst .ro 1 (zb W)),(11,.int .i64 0)] ([SB.box (Zt.cs z),SB.box [.int .i64 n1,.int .i64 n2],SB.box [.int .i64 R1,.int .i64 R2]]) (.n8 rfl) rfl fun fr=>?_
    refine k_seq (k_seq (wM [.plain,.plain,.plain,.plain,.plain,.plain,.plain,.plain,.plain,.plain,.plain,.plain,.plain,.plain,.plain,.read true,.read false,.plain,.plain,.plain,.plain] (by kernel_rfl) (by kernel_rfl) (by kernel_rfl) ?_))
    refine zC (zD rfl (zA rfl)) (zC (zD rfl (zA rfl)) (zC (kr rfl (zA rfl)) ?_))
    refine zC (zD rfl (zA rfl)) (kl rfl (zC (zD rfl (zA rfl)) (kl rfl (zC (kr rfl (zA rfl)) ?_))))
    refine kl rfl (zC (zD rfl (zA rfl)) (kj rfl (kj rfl ?_)))
    refine zp [(2,U.box 0 0),(5,.int .i64 ↑k),(6,.int .i64 ↑y),(7,U.box 2 0),(8,.int .i64 0),(9,.int .i64 ↑i),(10,.lst .ro 1 (zb W)),(62,U.bool (decide ((0:Int)≠(0:Int)))),(63,.int .i64 0),(64,U.bool (decide ((0:Int)≠(0:Int)))),(65,U.bool (decide ((0:Int)≠(0:Int)))),(66,U.tup []),(67,U.tup [])] [] ([SB.box (Zt.cs z),SB.box [.int .i64 n1,.int .i64 n2],SB.box [.int .i64 R1,.int .i64 R2]]) (.c4 rfl rfl rfl rfl (.n9 rfl)) rfl rfl fun fr=>?_
    refine kj rfl (zHl rfl rfl rfl rfl ?_)
    refine zHl rfl rfl rfl rfl ?_
    refine zHl rfl rfl rfl rfl ?_
    refine kj rfl (kj rfl (zHl rfl rfl rfl rfl ?_))
    refine zHl rfl rfl rfl rfl ?_
    refine zHl rfl rfl rfl rfl ?_
    refine zp [(2,U.box 0 0),(5,.int .i64 ↑k),(6,.int .i64 ↑y),(7,U.box 2 0),(8,.int .i64 0),(9,.int .i64 ↑i),(10,.lst .ro 1 (zb W)),(62,U.bool (decide ((0:Int)≠(0:Int)))),(63,.int .i64 0),(64,U.bool (decide ((0:Int)≠(0:Int)))),(65,U.bool (decide ((0:Int)≠(0:Int)))),(66,U.tup []),(67,U.tup []),(68,U.tup []),(69,U.tup []),(70,U.tup []),(71,U.tup []),(72,U.tup []),(73,U.tup []),(74,U.tup []),(75,U.tup []),(76,U.tup [])] [] ([SB.box (Zt.cs z),SB.box [.int .i64 n1,.int .i64 n2],SB.box [.int .i64 R1,.int .i64 R2]]) (.c4 rfl rfl rfl rfl (.c4 rfl rfl rfl rfl (.c4 rfl rfl rfl rfl (.n10 rfl)))) rfl rfl fun fr=>?_
    refine kj rfl (kl rfl (zC (kD rfl (zA rfl)) ?_))
    refine zC (kD rfl (zA rfl)) ?_
    refine zAK ?_
    refine zL [(2,U.box 0 0),(5,.int .i64 ↑k),(6,.int .i64 ↑y),(7,U.box 2 0),(8,.int .i64 0),(9,.int .i64 ↑i),(10,.lst .ro 1 (zb W)),(63,.int .i64 0),(64,U.bool (decide ((0:Int)≠(0:Int)))),(65,U.bool (decide ((0:Int)≠(0:Int)))),(66,U.tup []),(67,U.tup []),(68,U.tup []),(69,U.tup []),(70,U.tup []),(71,U.tup []),(72,U.tup []),(73,U.tup []),(74,U.tup []),(75,U.tup []),(76,U.tup []),(77,U.tup []),(78,.bool false),(79,.bool false)] ([SB.box (Zt.cs z),SB.box [.int .i64 n1,.int .i64 n2],SB.box [.int .i64 R1,.int .i64 R2]]) (.c4 rfl rfl rfl rfl (.c4 rfl rfl rfl rfl (.c4 rfl rfl rfl rfl (.c4 rfl rfl rfl rfl (.n8 rfl))))) rfl fun fr=>?_
    refine k_cF rfl rfl ?_
    refine zV (k_seq (kQ (zD rfl (kr rfl (zA (k_cF rfl rfl ?_))))))
    refine zV (kQ ?_)
    refine zAP 1 rfl (fun _=>rfl) ?_
    refine zA (k_seq (kQ (zE rfl (zA (zR ?_)))))
    clear hs hst
    refine yq (fun kk2 s1=>∃j:Nat,kk2+j=z.keys.length∧s1.st=[SB.box z.cs,.box [.int .i64 n1,.int .i64 n2],.box [.int .i64 R1,.int .i64 R2]]∧Holds s1 [(2,.box 0 0),(5,.int .i64 k),(6,.int .i64 y),(7,.box 2 0),(8,.int .i64 0),(9,.int .i64 i),(10,.lst .ro 1 (zb W)),(12,.lst .own 1 (zDm ((List.range j).map G))),(13,.int .i64 j)]) (fun kk2 s2 hI2=>?_) z.keys.length _ ⟨0,by omega,rfl,.c4 rfl rfl rfl rfl (.n5 rfl)⟩
    obtain⟨j,hkk2,hst,hs⟩:=hI2
    by_cases hjn:j<z.keys.length
    ·have q22jj:=q22j j hjn
     have hsn:zDm ((List.range (j+1)).map G)=zDm ((List.range j).map G)++[rowU (G j)]:=by
      unfold zDm;rw[List.range_succ,List.map_append,List.map_append];rfl
     have hL:(zDm ((List.range j).map G)).length≤7:=by simp;omega
     generalize zDm ((List.range j).map G)=L at*
     by_cases c:j=k
     ·have hGj:G j=W:=by rw[hG];exact if_pos c
      have k4:decide ((j:Int)=k)=true:=kF (by omega)
      rw[hGj]at hsn
      refine zL _ _ hs hst fun fr2=>?_
      refine k_seq (kQ (zD rfl (kw rfl yT (kA sh22 rfl (zz rfl ty22 rfl (List.length_map _) ?_)))))
      refine kp rfl (zA (k_cT rfl (kF (by omega)) (zV (k_seq (zR (kQ (kB sh27 rfl (zD rfl (zY rfl (q22jj) (.lrefl _) (zD rfl (ku rfl (ku rfl (zE rfl (zE rfl (zA ?_)))))))))))))))
      refine zL [(2,U.box 0 0),(5,.int .i64 ↑k),(6,.int .i64 ↑y),(7,U.box 2 0),(8,.int .i64 0),(9,.int .i64 ↑i),(10,.lst .ro 1 (zb W)),(12,U.lst Kd.own 1 L),(13,.int .i64 ↑j),(14,.lst .ro 1 (zb (endR z j Bool.false))),(15,.int .i64 0)] ([SB.box (Zt.cs z),SB.box [.int .i64 n1,.int .i64 n2],SB.box [.int .i64 R1,.int .i64 R2]]) (.c4 rfl rfl rfl rfl (.n7 rfl)) rfl fun fr=>?_
      refine k_seq (kQ (zD rfl (kr rfl (zA (k_cF rfl rfl ?_)))))
      refine zV (k_seq (kQ (zD rfl (zD rfl (ks rfl (zA (k_cT rfl (by assumption) (k_region (zD rfl (zE rfl (zA (k_region (zD rfl (zD rfl (zEv (es:=[U.lst Kd.ro 1 (zb W)]) rfl ty28 ze40 cl40 rfl rfl rfl rfl rfl rfl rfl rfl ?_)))))))))))))))
      refine zAu 12 rfl ap28_28 rfl rfl rfl (by simp) (by simp) (by simp[yW,zx,oneU]) (by show(L.length+1)*_≤_;omega) ?_
      refine zE rfl (zA ?_)
      refine zL [(2,U.box 0 0),(5,.int .i64 ↑k),(6,.int .i64 ↑y),(7,U.box 2 0),(8,.int .i64 0),(9,.int .i64 ↑i),(10,.lst .ro 1 (zb W)),(12,U.lst Kd.own 1 (L++[.lst .ro 1 (zb W)])),(13,.int .i64 ↑j)] ([SB.box (Zt.cs z),SB.box [.int .i64 n1,.int .i64 n2],SB.box [.int .i64 R1,.int .i64 R2]]) (.n9 rfl) rfl fun fr=>?_
      refine k_region (zD rfl ?_)
      refine kz rfl (by unfold I64;omega) (zE rfl (zA ?_))
      exact⟨kk2 - 1,by omega,j+1,by omega,rfl,.c4 rfl rfl rfl rfl (.cons rfl (.cons rfl (.cons rfl (.cons (congrArg (U.lst .own 1) hsn.symm) (.n1 rfl)))))⟩
     ·have hGj:G j=endR z j false:=by rw[hG];exact if_neg c
      have k4:decide ((j:Int)=k)=false:=kG (by omega)
      rw[hGj]at hsn
      refine zL _ _ hs hst fun fr2=>?_
      refine k_seq (kQ (zD rfl (kw rfl yT (kA sh22 rfl (zz rfl ty22 rfl (List.length_map _) ?_)))))
      refine kp rfl (zA (k_cT rfl (kF (by omega)) (zV (k_seq (zR (kQ (kB sh27 rfl (zD rfl (zY rfl (q22jj) (.lrefl _) (zD rfl (ku rfl (ku rfl (zE rfl (zE rfl (zA ?_)))))))))))))))
      refine zL [(2,U.box 0 0),(5,.int .i64 ↑k),(6,.int .i64 ↑y),(7,U.box 2 0),(8,.int .i64 0),(9,.int .i64 ↑i),(10,.lst .ro 1 (zb W)),(12,U.lst Kd.own 1 L),(13,.int .i64 ↑j),(14,.lst .ro 1 (zb (endR z j Bool.false))),(15,.int .i64 0)] ([SB.box (Zt.cs z),SB.box [.int .i64 n1,.int .i64 n2],SB.box [.int .i64 R1,.int .i64 R2]]) (.c4 rfl rfl rfl rfl (.n7 rfl)) rfl fun fr=>?_
      refine k_seq (kQ (zD rfl (kr rfl (zA (k_cF rfl rfl ?_)))))
      refine zV (k_seq (kQ (zD rfl (zD rfl (ks rfl (zA (k_cF rfl (by assumption) (zV (k_region (zD rfl (zD rfl (zEv (es:=[U.lst Kd.ro 1 (zb (endR z j Bool.false))]) rfl ty28 ze40 cl40 rfl rfl rfl rfl rfl rfl rfl rfl ?_))))))))))))
      refine zAu 12 rfl ap28_28 rfl rfl rfl (by simp) (by simp) (by simp[yW,zx,oneU]) (by show(L.length+1)*_≤_;omega) ?_
      refine zE rfl (zA (k_region (zD rfl ?_)))
      refine kz rfl (by unfold I64;omega) (zE rfl (zA ?_))
      exact⟨kk2 - 1,by omega,j+1,by omega,rfl,.c4 rfl rfl rfl rfl (.cons rfl (.cons rfl (.cons rfl (.cons (congrArg (U.lst .own 1) hsn.symm) (.n1 rfl)))))⟩
    ·obtain rfl:j=z.keys.length:=by omega
     generalize zDm ((List.range z.keys.length).map G)=L at*
     refine zL _ _ hs hst fun fr2=>?_
     by_cases hi0:i=0
     ·have k5:decide ((i:Int)=0)=true:=kF (by omega)
      have k6:decide ((i:Int)=1)=false:=kG (by omega)
      have k7:decide (R1≠R1)=false:=kG (fun q=>q rfl)
      rw[k6,if_neg (by decide)]at hWu
      refine k_seq (kQ (zD rfl (kw rfl yT (kA sh22 rfl (zz rfl ty22 rfl (List.length_map _) ?_)))))
      refine kp rfl (zA (k_cF rfl (kG (by omega)) (yj (kQ (kB sh27 rfl (zD rfl (zY rfl (q15) (.lrefl _) (zD rfl (ku rfl (ku rfl (zE rfl (zE rfl (zA ?_)))))))))))))
      refine zL [(2,U.box 0 0),(5,.int .i64 ↑k),(6,.int .i64 ↑y),(7,U.box 2 0),(8,.int .i64 0),(9,.int .i64 ↑i),(10,.lst .ro 1 (zb W)),(16,.bool true),(17,.int .i64 0)] ([SB.box (Zt.cs z),SB.box [.int .i64 n1,.int .i64 n2],SB.box [.int .i64 R1,.int .i64 R2]]) (.n9 rfl) rfl fun fr=>?_
      refine k_seq (wM [.plain,.plain,.plain,.plain,.plain,.plain,.plain,.plain,.read true,.plain,.read true,.plain,.plain,.plain,.plain,.plain,.plain,.plain,.plain,.plain,.plain,.read true,.plain,.read true,.plain,.plain,.plain,.plain,.plain,.plain,.plain,.plain,.plain,.plain,.read true,.plain,.read true,.plain,.plain,.plain] (by kernel_rfl) (by kernel_rfl) (by kernel_rfl) ?_)
      refine zC (zD rfl (zA rfl)) (zC (kr rfl (zA rfl)) ?_)
      refine zC (zD rfl (zA rfl)) (kl rfl (zC (zD rfl (zA rfl)) (kl rfl (zC (zCp rfl rfl (zA rfl)) ?_))))
      refine zC (kD rfl (zA rfl)) ?_
      refine zC (zD rfl (zA rfl)) (kl rfl (zC (zD rfl (zA rfl)) (kl rfl (zJ rfl (zz rfl ty40 rfl (List.length_map _) (zA rfl)) ?_))))
      refine zp [(2,U.box 0 0),(5,.int .i64 ↑k),(6,.int .i64 ↑y),(7,U.box 2 0),(8,.int .i64 0),(9,.int .i64 ↑i),(10,.lst .ro 1 (zb W)),(114,.bool true),(115,U.bool !Bool.true),(117,U.bool !Bool.true),(118,.lst .ro 1 (zb W)),(119,.int .i64 ↑(List.length W))] [] ([SB.box (Zt.cs z),SB.box [.int .i64 n1,.int .i64 n2],SB.box [.int .i64 R1,.int .i64 R2]]) (.c4 rfl rfl rfl rfl (.n8 rfl)) rfl rfl fun fr=>?_
      refine kl rfl ?_
      refine zp [(2,U.box 0 0),(5,.int .i64 ↑k),(6,.int .i64 ↑y),(7,U.box 2 0),(8,.int .i64 0),(9,.int .i64 ↑i),(10,.lst .ro 1 (zb W)),(114,.bool true),(115,U.bool !Bool.true),(117,U.bool !Bool.true),(118,.lst .ro 1 (zb W)),(119,.int .i64 ↑(List.length W))] [] ([SB.box (Zt.cs z),SB.box [.int .i64 n1,.int .i64 n2],SB.box [.int .i64 R1,.int .i64 R2]]) (.c4 rfl rfl rfl rfl (.n8 rfl)) rfl rfl fun fr=>?_
      refine zC (kw rfl wA (zA rfl)) ?_
      refine kl rfl (zJ rfl (kA sh3 rfl (zA rfl)) (kl rfl ?_))
      refine zC (kz rfl (by unfold I64;omega) (zA rfl)) ?_
      refine kl rfl (zC (kr rfl (zA rfl)) ?_)
      refine zC (kD rfl (zA rfl)) ?_
      refine zC (zD rfl (zA rfl)) (kn rfl (by assumption) ?_)
      refine zC (zD rfl (zA rfl)) (kn rfl (by assumption) ?_)
      refine zC (ks rfl (zA rfl)) ?_
      refine kn rfl (by assumption) ?_
      refine zC (zD rfl (zA rfl)) ?_
      refine zp [(2,U.box 0 0),(5,.int .i64 ↑k),(6,.int .i64 ↑y),(7,U.box 2 0),(8,.int .i64 0),(9,.int .i64 ↑i),(10,.lst .ro 1 (zb W)),(114,.bool true),(115,U.bool !Bool.true),(118,.lst .ro 1 (zb W)),(119,.int .i64 ↑(List.length W)),(120,U.box 0 0),(121,.int .i64 (Zt.yrs z)),(122,.int .i64 (Zt.yrs z+(1:Int))),(123,U.bool (decide (↑(List.length W)≠Zt.yrs z+(1:Int)))),(125,U.bool (decide (↑(List.length W)≠Zt.yrs z+(1:Int)))),(126,.int .i64 ↑i),(127,U.bool (decide (↑i=(0:Int)))),(128,U.bool (decide (↑i=(0:Int))))] [] ([SB.box (Zt.cs z),SB.box [.int .i64 n1,.int .i64 n2],SB.box [.int .i64 R1,.int .i64 R2]]) (.c4 rfl rfl rfl rfl (.c4 rfl rfl rfl rfl (.c4 rfl rfl rfl rfl (.n7 rfl)))) rfl rfl fun fr=>?_
      refine kn rfl (by assumption) ?_
      refine zp [(2,U.box 0 0),(5,.int .i64 ↑k),(6,.int .i64 ↑y),(7,U.box 2 0),(8,.int .i64 0),(9,.int .i64 ↑i),(10,.lst .ro 1 (zb W)),(114,.bool true),(115,U.bool !Bool.true),(118,.lst .ro 1 (zb W)),(119,.int .i64 ↑(List.length W)),(120,U.box 0 0),(121,.int .i64 (Zt.yrs z)),(122,.int .i64 (Zt.yrs z+(1:Int))),(123,U.bool (decide (↑(List.length W)≠Zt.yrs z+(1:Int)))),(125,U.bool (decide (↑(List.length W)≠Zt.yrs z+(1:Int)))),(126,.int .i64 ↑i),(127,U.bool (decide (↑i=(0:Int)))),(128,U.bool (decide (↑i=(0:Int))))] [] ([SB.box (Zt.cs z),SB.box [.int .i64 n1,.int .i64 n2],SB.box [.int .i64 R1,.int .i64 R2]]) (.c4 rfl rfl rfl rfl (.c4 rfl rfl rfl rfl (.c4 rfl rfl rfl rfl (.n7 rfl)))) rfl rfl fun fr=>?_
      refine zC (zD rfl (zA rfl)) (kn rfl (by assumption) ?_)
      refine zC (zD rfl (zA rfl)) (kn rfl (by assumption) ?_)
      refine zC (wb (u:=.int .i64 R1) rfl ty40 rfl rfl (Int.natCast_nonneg _) hWu cl3 (zA rfl)) ?_
      refine kn rfl (by assumption) ?_
      refine zJ rfl (kC sh3 rfl (zA rfl)) ?_
      refine kn rfl (by assumption) ?_
      refine zC (kw rfl yX (zA rfl)) ?_
      refine kn rfl (by assumption) ?_
      refine zJ rfl (kA sh3 rfl (zA rfl)) (kn rfl (by assumption) ?_)
      refine zC (kr rfl (zA rfl)) ?_
      refine kn rfl (by assumption) ?_
      refine zC (wD rfl rfl (by assumption) (zA rfl)) ?_
      refine zC (wY rfl rfl (by assumption) (zA rfl)) ?_
      refine zp [(2,U.box 0 0),(5,.int .i64 ↑k),(6,.int .i64 ↑y),(7,U.box 2 0),(8,.int .i64 0),(9,.int .i64 ↑i),(10,.lst .ro 1 (zb W)),(114,.bool true),(115,U.bool !Bool.true),(118,.lst .ro 1 (zb W)),(119,.int .i64 ↑(List.length W)),(120,U.box 0 0),(121,.int .i64 (Zt.yrs z)),(122,.int .i64 (Zt.yrs z+(1:Int))),(123,U.bool (decide (↑(List.length W)≠Zt.yrs z+(1:Int)))),(126,.int .i64 ↑i),(127,U.bool (decide (↑i=(0:Int)))),(128,U.bool (decide (↑i=(0:Int)))),(129,.lst .ro 1 (zb W)),(130,.int .i64 ↑y),(131,U.eref [.int .i64 R1] 0),(132,.int .i64 R1),(133,U.box 2 0),(134,.int .i64 R1),(135,U.bool (decide (R1≠R1))),(136,U.bool (decide (R1≠R1))),(137,U.bool (decide (R1≠R1)))] [] ([SB.box (Zt.cs z),SB.box [.int .i64 n1,.int .i64 n2],SB.box [.int .i64 R1,.int .i64 R2]]) (.c4 rfl rfl rfl rfl (.c4 rfl rfl rfl rfl (.c4 rfl rfl rfl rfl (.c4 rfl rfl rfl rfl (.c4 rfl rfl rfl rfl (.n7 rfl)))))) rfl rfl fun fr=>?_
      refine zC (zD rfl (zA rfl)) (kn rfl (by assumption) ?_)
      refine zC (zD rfl (zA rfl)) (kn rfl (by assumption) ?_)
      refine zC (ks rfl (zA rfl)) ?_
      refine kn rfl (by assumption) ?_
      refine zC (zD rfl (zA rfl)) (km rfl (by assumption) ?_)
      refine km rfl (by assumption) ?_
      refine km rfl (by assumption) ?_
      refine km rfl (by assumption) ?_
      refine km rfl (by assumption) ?_
      refine zp [(2,U.box 0 0),(5,.int .i64 ↑k),(6,.int .i64 ↑y),(7,U.box 2 0),(8,.int .i64 0),(9,.int .i64 ↑i),(114,.bool true),(115,U.bool !Bool.true),(118,.lst .ro 1 (zb W)),(119,.int .i64 ↑(List.length W)),(120,U.box 0 0),(121,.int .i64 (Zt.yrs z)),(122,.int .i64 (Zt.yrs z+(1:Int))),(123,U.bool (decide (↑(List.length W)≠Zt.yrs z+(1:Int)))),(126,.int .i64 ↑i),(127,U.bool (decide (↑i=(0:Int)))),(128,U.bool (decide (↑i=(0:Int)))),(129,.lst .ro 1 (zb W)),(130,.int .i64 ↑y),(131,U.eref [.int .i64 R1] 0),(132,.int .i64 R1),(133,U.box 2 0),(134,.int .i64 R1),(135,U.bool (decide (R1≠R1))),(136,U.bool (decide (R1≠R1))),(138,U.bool (decide (R1≠R1))),(139,.int .i64 ↑i),(140,U.bool (decide (↑i=(1:Int)))),(141,U.bool (decide (↑i=(1:Int)))),(142,U.tup []),(143,U.tup []),(144,U.tup []),(145,U.tup []),(146,U.tup [])] [] ([SB.box (Zt.cs z),SB.box [.int .i64 n1,.int .i64 n2],SB.box [.int .i64 R1,.int .i64 R2]]) (.c4 rfl rfl rfl rfl (.c4 rfl rfl rfl rfl (.c4 rfl rfl rfl rfl (.c4 rfl rfl rfl rfl (.c4 rfl rfl rfl rfl (.c4 rfl rfl rfl rfl (.n10 rfl))))))) rfl rfl fun fr=>?_
      refine km rfl (by assumption) ?_
      refine km rfl (by assumption) ?_
      refine kn rfl (by assumption) ?_
      refine zC (wY rfl rfl (by assumption) (zA rfl)) ?_
      refine zC (wY rfl rfl (by assumption) (zA rfl)) ?_
      refine zAK ?_
      refine zL [(2,U.box 0 0),(5,.int .i64 ↑k),(6,.int .i64 ↑y),(7,U.box 2 0),(8,.int .i64 0),(9,.int .i64 ↑i),(114,.bool true),(115,U.bool !Bool.true),(118,.lst .ro 1 (zb W)),(119,.int .i64 ↑(List.length W)),(120,U.box 0 0),(121,.int .i64 (Zt.yrs z)),(122,.int .i64 (Zt.yrs z+(1:Int))),(123,U.bool (decide (↑(List.length W)≠Zt.yrs z+(1:Int)))),(126,.int .i64 ↑i),(127,U.bool (decide (↑i=(0:Int)))),(128,U.bool (decide (↑i=(0:Int)))),(129,.lst .ro 1 (zb W)),(130,.int .i64 ↑y),(131,U.eref [.int .i64 R1] 0),(132,.int .i64 R1),(133,U.box 2 0),(134,.int .i64 R1),(135,U.bool (decide (R1≠R1))),(136,U.bool (decide (R1≠R1))),(139,.int .i64 ↑i),(140,U.bool (decide (↑i=(1:Int)))),(141,U.bool (decide (↑i=(1:Int)))),(142,U.tup []),(143,U.tup []),(144,U.tup []),(145,U.tup []),(146,U.tup []),(147,U.tup []),(148,U.tup []),(149,.bool false),(150,.bool false)] ([SB.box (Zt.cs z),SB.box [.int .i64 n1,.int .i64 n2],SB.box [.int .i64 R1,.int .i64 R2]]) (.c4 rfl rfl rfl rfl (.c4 rfl rfl rfl rfl (.c4 rfl rfl rfl rfl (.c4 rfl rfl rfl rfl (.c4 rfl rfl rfl rfl (.c4 rfl rfl rfl rfl (.c4 rfl rfl rfl rfl (.n9 rfl)))))))) rfl fun fr=>?_
      refine k_cF rfl rfl ?_
      refine zV (k_region (zD rfl ?_))
      refine kz rfl (by unfold I64;omega) (zE rfl (zA ?_))
      exact⟨kk - 1,by omega,i+1,by omega,rfl,.c4 rfl rfl rfl rfl (.n2 rfl)⟩
     ·have k5:decide ((i:Int)=0)=false:=kG (by omega)
      have k6:decide ((i:Int)=1)=true:=kF (by omega)
      have k7:decide (R2≠R2)=false:=kG (fun q=>q rfl)
      rw[k6,if_pos rfl]at hWu
      refine k_seq (kQ (zD rfl (kw rfl yT (kA sh22 rfl (zz rfl ty22 rfl (List.length_map _) ?_)))))
      refine kp rfl (zA (k_cF rfl (kG (by omega)) (yj (kQ (kB sh27 rfl (zD rfl (zY rfl (q15) (.lrefl _) (zD rfl (ku rfl (ku rfl (zE rfl (zE rfl (zA ?_)))))))))))))
      refine zL [(2,U.box 0 0),(5,.int .i64 ↑k),(6,.int .i64 ↑y),(7,U.box 2 0),(8,.int .i64 0),(9,.int .i64 ↑i),(10,.lst .ro 1 (zb W)),(16,.bool true),(17,.int .i64 0)] ([SB.box (Zt.cs z),SB.box [.int .i64 n1,.int .i64 n2],SB.box [.int .i64 R1,.int .i64 R2]]) (.n9 rfl) rfl fun fr=>?_
      refine k_seq (wM [.plain,.plain,.plain,.plain,.plain,.plain,.plain,.plain,.read true,.plain,.read true,.plain,.plain,.plain,.plain,.plain,.plain,.plain,.plain,.plain,.plain,.read true,.plain,.read true,.plain,.plain,.plain,.plain,.plain,.plain,.plain,.plain,.plain,.plain,.read true,.plain,.read true,.plain,.plain,.plain] (by kernel_rfl) (by kernel_rfl) (by kernel_rfl) ?_)
      refine zC (zD rfl (zA rfl)) (zC (kr rfl (zA rfl)) ?_)
      refine zC (zD rfl (zA rfl)) (kl rfl (zC (zD rfl (zA rfl)) (kl rfl (zC (zCp rfl rfl (zA rfl)) ?_))))
      refine zC (kD rfl (zA rfl)) ?_
      refine zC (zD rfl (zA rfl)) (kl rfl (zC (zD rfl (zA rfl)) (kl rfl (zJ rfl (zz rfl ty40 rfl (List.length_map _) (zA rfl)) ?_))))
      refine zp [(2,U.box 0 0),(5,.int .i64 ↑k),(6,.int .i64 ↑y),(7,U.box 2 0),(8,.int .i64 0),(9,.int .i64 ↑i),(10,.lst .ro 1 (zb W)),(114,.bool true),(115,U.bool !Bool.true),(117,U.bool !Bool.true),(118,.lst .ro 1 (zb W)),(119,.int .i64 ↑(List.length W))] [] ([SB.box (Zt.cs z),SB.box [.int .i64 n1,.int .i64 n2],SB.box [.int .i64 R1,.int .i64 R2]]) (.c4 rfl rfl rfl rfl (.n8 rfl)) rfl rfl fun fr=>?_
      refine kl rfl ?_
      refine zp [(2,U.box 0 0),(5,.int .i64 ↑k),(6,.int .i64 ↑y),(7,U.box 2 0),(8,.int .i64 0),(9,.int .i64 ↑i),(10,.lst .ro 1 (zb W)),(114,.bool true),(115,U.bool !Bool.true),(117,U.bool !Bool.true),(118,.lst .ro 1 (zb W)),(119,.int .i64 ↑(List.length W))] [] ([SB.box (Zt.cs z),SB.box [.int .i64 n1,.int .i64 n2],SB.box [.int .i64 R1,.int .i64 R2]]) (.c4 rfl rfl rfl rfl (.n8 rfl)) rfl rfl fun fr=>?_
      refine zC (kw rfl wA (zA rfl)) ?_
      refine kl rfl (zJ rfl (kA sh3 rfl (zA rfl)) (kl rfl ?_))
      refine zC (kz rfl (by unfold I64;omega) (zA rfl)) ?_
      refine kl rfl (zC (kr rfl (zA rfl)) ?_)
      refine zC (kD rfl (zA rfl)) ?_
      refine zC (zD rfl (zA rfl)) (kn rfl (by assumption) ?_)
      refine zC (zD rfl (zA rfl)) (kn rfl (by assumption) ?_)
      refine zC (ks rfl (zA rfl)) ?_
      refine kn rfl (by assumption) ?_
      refine zC (zD rfl (zA rfl)) ?_
      refine zp [(2,U.box 0 0),(5,.int .i64 ↑k),(6,.int .i64 ↑y),(7,U.box 2 0),(8,.int .i64 0),(9,.int .i64 ↑i),(10,.lst .ro 1 (zb W)),(114,.bool true),(115,U.bool !Bool.true),(118,.lst .ro 1 (zb W)),(119,.int .i64 ↑(List.length W)),(120,U.box 0 0),(121,.int .i64 (Zt.yrs z)),(122,.int .i64 (Zt.yrs z+(1:Int))),(123,U.bool (decide (↑(List.length W)≠Zt.yrs z+(1:Int)))),(125,U.bool (decide (↑(List.length W)≠Zt.yrs z+(1:Int)))),(126,.int .i64 ↑i),(127,U.bool (decide (↑i=(0:Int)))),(128,U.bool (decide (↑i=(0:Int))))] [] ([SB.box (Zt.cs z),SB.box [.int .i64 n1,.int .i64 n2],SB.box [.int .i64 R1,.int .i64 R2]]) (.c4 rfl rfl rfl rfl (.c4 rfl rfl rfl rfl (.c4 rfl rfl rfl rfl (.n7 rfl)))) rfl rfl fun fr=>?_
      refine km rfl (by assumption) ?_
      refine km rfl (by assumption) ?_
      refine km rfl (by assumption) ?_
      refine km rfl (by assumption) ?_
      refine km rfl (by assumption) ?_
      refine km rfl (by assumption) ?_
      refine km rfl (by assumption) ?_
      refine kn rfl (by assumption) ?_
      refine zC (wY rfl rfl (by assumption) (zA rfl)) ?_
      refine zC (wY rfl rfl (by assumption) (zA rfl)) ?_
      refine zp [(2,U.box 0 0),(5,.int .i64 ↑k),(6,.int .i64 ↑y),(7,U.box 2 0),(8,.int .i64 0),(9,.int .i64 ↑i),(10,.lst .ro 1 (zb W)),(114,.bool true),(115,U.bool !Bool.true),(118,.lst .ro 1 (zb W)),(119,.int .i64 ↑(List.length W)),(120,U.box 0 0),(121,.int .i64 (Zt.yrs z)),(122,.int .i64 (Zt.yrs z+(1:Int))),(123,U.bool (decide (↑(List.length W)≠Zt.yrs z+(1:Int)))),(126,.int .i64 ↑i),(127,U.bool (decide (↑i=(0:Int)))),(128,U.bool (decide (↑i=(0:Int)))),(129,U.tup []),(130,U.tup []),(131,U.tup []),(132,U.tup []),(133,U.tup []),(134,U.tup []),(135,U.tup []),(136,.bool false),(137,.bool false)] [] ([SB.box (Zt.cs z),SB.box [.int .i64 n1,.int .i64 n2],SB.box [.int .i64 R1,.int .i64 R2]]) (.c4 rfl rfl rfl rfl (.c4 rfl rfl rfl rfl (.c4 rfl rfl rfl rfl (.c4 rfl rfl rfl rfl (.c4 rfl rfl rfl rfl (.n7 rfl)))))) rfl rfl fun fr=>?_
      refine zC (zD rfl (zA rfl)) (kl rfl (zC (zD rfl (zA rfl)) (kl rfl (zC (ks rfl (zA rfl)) ?_))))
      refine kl rfl (zC (zD rfl (zA rfl)) (kn rfl (by assumption) ?_))
      refine zC (zD rfl (zA rfl)) (kn rfl (by assumption) ?_)
      refine zC (zD rfl (zA rfl)) (kn rfl (by assumption) ?_)
      refine zC (wb (u:=.int .i64 R2) rfl ty40 rfl rfl (Int.natCast_nonneg _) hWu cl3 (zA rfl)) ?_
      refine kn rfl (by assumption) ?_
      refine zJ rfl (kC sh3 rfl (zA rfl)) ?_
      refine kn rfl (by assumption) ?_
      refine zC (kw rfl yz (zA rfl)) ?_
      refine zp [(2,U.box 0 0),(5,.int .i64 ↑k),(6,.int .i64 ↑y),(7,U.box 2 0),(8,.int .i64 0),(9,.int .i64 ↑i),(114,.bool true),(115,U.bool !Bool.true),(118,.lst .ro 1 (zb W)),(119,.int .i64 ↑(List.length W)),(120,U.box 0 0),(121,.int .i64 (Zt.yrs z)),(122,.int .i64 (Zt.yrs z+(1:Int))),(123,U.bool (decide (↑(List.length W)≠Zt.yrs z+(1:Int)))),(126,.int .i64 ↑i),(127,U.bool (decide (↑i=(0:Int)))),(128,U.bool (decide (↑i=(0:Int)))),(129,U.tup []),(130,U.tup []),(131,U.tup []),(132,U.tup []),(133,U.tup []),(134,U.tup []),(135,U.tup []),(136,.bool false),(138,.bool false),(139,.int .i64 ↑i),(140,U.bool (decide (↑i=(1:Int)))),(141,U.bool (decide (↑i=(1:Int)))),(142,.lst .ro 1 (zb W)),(143,.int .i64 ↑y),(144,U.eref [.int .i64 R2] 0),(145,.int .i64 R2),(146,U.box 2 1)] [] ([SB.box (Zt.cs z),SB.box [.int .i64 n1,.int .i64 n2],SB.box [.int .i64 R1,.int .i64 R2]]) (.c4 rfl rfl rfl rfl (.c4 rfl rfl rfl rfl (.c4 rfl rfl rfl rfl (.c4 rfl rfl rfl rfl (.c4 rfl rfl rfl rfl (.c4 rfl rfl rfl rfl (.n10 rfl))))))) rfl rfl fun fr=>?_
      refine kn rfl (by assumption) ?_
      refine zp [(2,U.box 0 0),(5,.int .i64 ↑k),(6,.int .i64 ↑y),(7,U.box 2 0),(8,.int .i64 0),(9,.int .i64 ↑i),(114,.bool true),(115,U.bool !Bool.true),(118,.lst .ro 1 (zb W)),(119,.int .i64 ↑(List.length W)),(120,U.box 0 0),(121,.int .i64 (Zt.yrs z)),(122,.int .i64 (Zt.yrs z+(1:Int))),(123,U.bool (decide (↑(List.length W)≠Zt.yrs z+(1:Int)))),(126,.int .i64 ↑i),(127,U.bool (decide (↑i=(0:Int)))),(128,U.bool (decide (↑i=(0:Int)))),(129,U.tup []),(130,U.tup []),(131,U.tup []),(132,U.tup []),(133,U.tup []),(134,U.tup []),(135,U.tup []),(136,.bool false),(138,.bool false),(139,.int .i64 ↑i),(140,U.bool (decide (↑i=(1:Int)))),(141,U.bool (decide (↑i=(1:Int)))),(142,.lst .ro 1 (zb W)),(143,.int .i64 ↑y),(144,U.eref [.int .i64 R2] 0),(145,.int .i64 R2),(146,U.box 2 1)] [] ([SB.box (Zt.cs z),SB.box [.int .i64 n1,.int .i64 n2],SB.box [.int .i64 R1,.int .i64 R2]]) (.c4 rfl rfl rfl rfl (.c4 rfl rfl rfl rfl (.c4 rfl rfl rfl rfl (.c4 rfl rfl rfl rfl (.c4 rfl rfl rfl rfl (.c4 rfl rfl rfl rfl (.n10 rfl))))))) rfl rfl fun fr=>?_
      refine zJ rfl (kA sh3 rfl (zA rfl)) (kn rfl (by assumption) ?_)
      refine zC (kr rfl (zA rfl)) ?_
      refine kl rfl (zC (wD rfl rfl (by assumption) (zA rfl)) ?_)
      refine zC (kD rfl (zA rfl)) ?_
      refine zAK ?_
      refine zL [(2,U.box 0 0),(5,.int .i64 ↑k),(6,.int .i64 ↑y),(7,U.box 2 0),(8,.int .i64 0),(9,.int .i64 ↑i),(114,.bool true),(115,U.bool !Bool.true),(118,.lst .ro 1 (zb W)),(119,.int .i64 ↑(List.length W)),(120,U.box 0 0),(121,.int .i64 (Zt.yrs z)),(122,.int .i64 (Zt.yrs z+(1:Int))),(123,U.bool (decide (↑(List.length W)≠Zt.yrs z+(1:Int)))),(126,.int .i64 ↑i),(127,U.bool (decide (↑i=(0:Int)))),(128,U.bool (decide (↑i=(0:Int)))),(129,U.tup []),(130,U.tup []),(131,U.tup []),(132,U.tup []),(133,U.tup []),(134,U.tup []),(135,U.tup []),(136,.bool false),(139,.int .i64 ↑i),(140,U.bool (decide (↑i=(1:Int)))),(141,U.bool (decide (↑i=(1:Int)))),(142,.lst .ro 1 (zb W)),(143,.int .i64 ↑y),(144,U.eref [.int .i64 R2] 0),(145,.int .i64 R2),(146,U.box 2 1),(147,.int .i64 R2),(148,U.bool (decide (R2≠R2))),(149,U.bool (decide (R2≠R2))),(150,U.bool (decide (R2≠R2)))] ([SB.box (Zt.cs z),SB.box [.int .i64 n1,.int .i64 n2],SB.box [.int .i64 R1,.int .i64 R2]]) (.c4 rfl rfl rfl rfl (.c4 rfl rfl rfl rfl (.c4 rfl rfl rfl rfl (.c4 rfl rfl rfl rfl (.c4 rfl rfl rfl rfl (.c4 rfl rfl rfl rfl (.c4 rfl rfl rfl rfl (.n9 rfl)))))))) rfl fun fr=>?_
      refine k_cF rfl (by assumption) (zV (k_region (zD rfl ?_)))
      refine kz rfl (by unfold I64;omega) (zE rfl (zA ?_))
      exact⟨kk - 1,by omega,i+1,by omega,rfl,.c4 rfl rfl rfl rfl (.n2 rfl)⟩
   ·have k2:decide ((i:Int)<2)=false:=kG (by omega)
    refine zL _ _ hs hst fun fr=>?_
    by_cases hyl:(y:Int)=z.yrs
    ·have k3:decide ((y:Int)=z.yrs)=true:=kF hyl
     refine k_seq (kQ (zD rfl (kp rfl (zA (k_cF rfl (by assumption) (yj (k_seq (kQ (zD rfl (kr rfl (zD rfl (kf rfl (zD rfl (kf rfl (kw rfl wA ?_)))))))))))))))
     refine kf rfl (kA sh3 rfl (kf rfl (ks rfl (kD rfl ?_))))
     refine zA (k_cT rfl (by assumption) (kQ (zY rfl (r21) (.lrefl _) (zE rfl (zA (zw ?_))))))
     refine⟨.inr rfl,_,.cons _ _ _ _ (.tmp 4) .nil,?_⟩
     exact .refl _
    ·have k3:decide ((y:Int)=z.yrs)=false:=kG hyl
     obtain⟨ky,hky⟩:∃x,z.keys[k]? =some x:=⟨z.keys[k]'(by omega),List.getElem?_eq_getElem (by omega)⟩
     have hkz:z.key k=ky:=by unfold Zt.key;rw[hky];rfl
     have hkyu:(kysU z.keys)[k]? =some ky.u:=by rw[List.getElem?_map,hky];rfl
     refine k_seq (kQ (zD rfl (kp rfl (zA (k_cF rfl (by assumption) (yj (k_seq (kQ (zD rfl (kr rfl (zD rfl (kf rfl (zD rfl (kf rfl (kw rfl wA ?_)))))))))))))))
     refine kf rfl (kA sh3 rfl (kf rfl (ks rfl (kD rfl ?_))))
     refine zA (k_cF rfl (by assumption) (zV (kQ (kw rfl yT (kA sh22 rfl (zD rfl (wb (u:=ky.u) rfl ty22 rfl rfl (Int.natCast_nonneg _) hkyu cl62 ?_)))))))
     refine o_faddrR rfl rfl fld62_1 ?_
     refine yL rfl rfl sh35 rfl ?_
     refine zi rfl ze35 ?_
     refine zS rfl rfl sh35 rfl rfl rfl rfl rfl ?_
     refine zA ?_
     refine zL [(2,U.box 0 0),(5,.int .i64 ↑k),(6,.int .i64 ↑y),(7,U.box 2 0),(18,U.box 3 0)] ([SB.box (Zt.cs z),SB.box [.int .i64 n1,.int .i64 n2],SB.box [.int .i64 R1,.int .i64 R2],SB.box [.int .i64 (Prod.fst (Ky.rt ky)),.int .i64 (Prod.snd (Ky.rt ky))]]) (.n5 rfl) rfl fun fr=>?_
     refine k_seq (kQ (zE rfl (zA (zR ?_))))
     clear hs hst
     have hfl:∀i, -1250≤(filS (z.files.take i) k y ky.rt).1∧(filS (z.files.take i) k y ky.rt).1≤1250∧ -1250≤(filS (z.files.take i) k y ky.rt).2∧(filS (z.files.take i) k y ky.rt).2≤1250:=fun i=>by
      have h1:=fil_bnd (k:=k) (y:=y) (z.files.take i) ky.rt (fun x hx=>(h.ff x (List.mem_of_mem_take hx)).2.2)
      have h2:=nfl_le (z.files.take i) k y
      have h3:=(h.at (k:=k) (by omega)).2.1
      rw[hkz]at h3
      unfold zCF at h3
      have h4:=h1.2.2 (by omega)
      have h5:(z.files.take i).length≤6:=by rw[List.length_take];have:=h.f;omega
      omega
     refine yq (fun kk2 s1=>∃(i:Nat) (e:List SB),kk2+i=z.files.length∧s1.st=[SB.box z.cs,.box [.int .i64 n1,.int .i64 n2],.box [.int .i64 R1,.int .i64 R2],.box [.int .i64 (filS (z.files.take i) k y ky.rt).1,.int .i64 (filS (z.files.take i) k y ky.rt).2]]++e∧Holds s1 [(2,.box 0 0),(5,.int .i64 k),(6,.int .i64 y),(7,.box 2 0),(18,.box 3 0),(19,.int .i64 i)]) (fun kk2 s2 hI2=>?_) z.files.length _ ⟨0,[],by omega,rfl,.c4 rfl rfl rfl rfl (.n2 rfl)⟩
     obtain⟨j,e,hkk2,hst,hs⟩:=hI2
     have hab:=hfl j
     have hf6:=h.f
     by_cases hjn:j<z.files.length
     ·obtain⟨x,hx⟩:∃x,z.files[j]? =some x:=⟨z.files[j],List.getElem?_eq_getElem hjn⟩
      have hxu:(flsU z.files)[j]? =some x.u:=by rw[List.getElem?_map,hx];rfl
      have hxb:=(h.ff x (List.mem_of_getElem? hx)).2.2
      unfold zCF at hxb
      have hsn:filS (z.files.take (j+1)) k y ky.rt=if x.ky=k∧x.yr=y then zBT (filS (z.files.take j) k y ky.rt) x.bs else filS (z.files.take j) k y ky.rt:=by
       unfold filS;rw[zGO hx]
      generalize filS (z.files.take j) k y ky.rt=a at*
      obtain⟨a1,a2⟩:=a
      simp only at hab
      generalize hY:[SB.box z.cs,.box [.int .i64 n1,.int .i64 n2],.box [.int .i64 R1,.int .i64 R2],.box [.int .i64 (a1,a2).1,.int .i64 (a1,a2).2]]++e=Y at hst
      have hY0:Y[0]? =some (.box z.cs):=by rw[←hY];rfl
      have hY3:Y[3]? =some (.box [.int .i64 a1,.int .i64 a2]):=by rw[←hY];rfl
      have q41:=ret41 (orc:=orc) hi (a1+x.bs.1) (a2+x.bs.2)
      refine zL _ _ hs hst fun fr2=>?_
      by_cases c1:x.ky=k
      ·have k4:=kF c1
       by_cases c2:x.yr=y
       ·have k5:=kF c2
        rw[if_pos ⟨c1,c2⟩]at hsn
        refine k_seq (kQ (zD rfl (kw rfl wo (zI rfl rfl hY0 sh24 rfl ?_))))
        refine zz rfl ty24 rfl (List.length_map _) ?_
        refine kp rfl (zA (k_cT rfl (kF (by omega)) (zV (k_seq (zR (kQ (kw rfl wo (zI rfl rfl hY0 sh24 rfl ?_))))))))
        refine zD rfl (wb (u:=x.u) rfl ty24 rfl rfl (Int.natCast_nonneg _) hxu cl64 ?_)
        refine yL rfl rfl sh64 rfl ?_
        refine zi rfl ze64 ?_
        refine zS rfl (zT _ _) sh64 rfl rfl rfl rfl rfl ?_
        refine zA ?_
        refine zL [(2,U.box 0 0),(5,.int .i64 ↑k),(6,.int .i64 ↑y),(7,U.box 2 0),(18,U.box 3 0),(19,.int .i64 ↑j),(20,U.box (List.length Y) 0)] (Y++[SB.box [.int .i64 (Fl.yr x),.int .i64 (Fl.ky x),.int .i64 (Prod.fst (Fl.bs x)),.int .i64 (Prod.snd (Fl.bs x))]]) (.n7 rfl) (yK _ _ _) fun fr=>?_
        refine kQ (kw rfl zFC (zI rfl rfl (zT _ _) sh3 rfl ?_))
        refine zD rfl (ks rfl (zD rfl (kh rfl (by assumption) (kw rfl zGw (kh rfl (by assumption) (zI rfl rfl (zT _ _) sh3 rfl ?_))))))
        refine kh rfl (by assumption) (zD rfl (kh rfl (by assumption) (ks rfl (wD rfl rfl (by assumption) ?_))))
        refine zA (k_cT rfl (by assumption) (k_region (kw rfl yX (zI rfl rfl (zn hY3) sh3 rfl ?_))))
        refine kw rfl zGv (kw rfl yX (zI rfl rfl (zT _ _) sh3 rfl ?_))
        refine kz rfl (by unfold I64;omega) (kw rfl yz (zI rfl rfl (zn hY3) sh3 rfl ?_))
        refine kw rfl zGv ?_
        refine yJ [(2,U.box 0 0),(5,.int .i64 ↑k),(6,.int .i64 ↑y),(7,U.box 2 0),(18,U.box 3 0),(19,.int .i64 ↑j),(183,U.box (List.length Y) 0),(184,.int .i64 (Fl.yr x)),(185,.int .i64 ↑y),(186,U.bool (decide (Fl.yr x= ↑y))),(193,.int .i64 (a1+Prod.fst (Fl.bs x))),(195,.int .i64 a2),(196,U.box (List.length Y) 2)] [] (Y++[SB.box [.int .i64 (Fl.yr x),.int .i64 (Fl.ky x),.int .i64 (Prod.fst (Fl.bs x)),.int .i64 (Prod.snd (Fl.bs x))]]) (.c4 rfl rfl rfl rfl (.n9 rfl)) rfl rfl fun fr=>?_
        refine kw rfl yz (zI rfl rfl (zT _ _) sh3 rfl ?_)
        refine kz rfl (by unfold I64;omega) (zY rfl (q41) (.lrefl _) (zS rfl (zn hY3) sh35 rfl rfl rfl rfl rfl ?_))
        refine zA ?_
        refine zL [(2,U.box 0 0),(5,.int .i64 ↑k),(6,.int .i64 ↑y),(7,U.box 2 0),(18,U.box 3 0),(19,.int .i64 ↑j),(183,U.box (List.length Y) 0),(184,.int .i64 (Fl.yr x)),(185,.int .i64 ↑y),(186,U.bool (decide (Fl.yr x= ↑y)))] (List.set (Y++[SB.box [.int .i64 (Fl.yr x),.int .i64 (Fl.ky x),.int .i64 (Prod.fst (Fl.bs x)),.int .i64 (Prod.snd (Fl.bs x))]]) 3 (SB.box [.int .i64 (a1+Prod.fst (Fl.bs x)),.int .i64 (a2+Prod.snd (Fl.bs x))])) (.n10 rfl) rfl fun fr=>?_
        refine k_region (zD rfl ?_)
        refine kz rfl (by unfold I64;omega) (zE rfl (zA ?_))
        exact⟨kk2 - 1,by omega,j+1,e++[SB.box [.int .i64 x.yr,.int .i64 x.ky,.int .i64 x.bs.1,.int .i64 x.bs.2]],by omega,(by rw[hsn,←hY];rfl),.c4 rfl rfl rfl rfl (.n2 rfl)⟩
       ·have k5:=kG c2
        rw[if_neg (fun q=>c2 q.2)]at hsn
        refine k_seq (kQ (zD rfl (kw rfl wo (zI rfl rfl hY0 sh24 rfl ?_))))
        refine zz rfl ty24 rfl (List.length_map _) ?_
        refine kp rfl (zA (k_cT rfl (kF (by omega)) (zV (k_seq (zR (kQ (kw rfl wo (zI rfl rfl hY0 sh24 rfl ?_))))))))
        refine zD rfl (wb (u:=x.u) rfl ty24 rfl rfl (Int.natCast_nonneg _) hxu cl64 ?_)
        refine yL rfl rfl sh64 rfl ?_
        refine zi rfl ze64 ?_
        refine zS rfl (zT _ _) sh64 rfl rfl rfl rfl rfl ?_
        refine zA ?_
        refine zL [(2,U.box 0 0),(5,.int .i64 ↑k),(6,.int .i64 ↑y),(7,U.box 2 0),(18,U.box 3 0),(19,.int .i64 ↑j),(20,U.box (List.length Y) 0)] (Y++[SB.box [.int .i64 (Fl.yr x),.int .i64 (Fl.ky x),.int .i64 (Prod.fst (Fl.bs x)),.int .i64 (Prod.snd (Fl.bs x))]]) (.n7 rfl) (yK _ _ _) fun fr=>?_
        refine kQ (kw rfl zFC (zI rfl rfl (zT _ _) sh3 rfl ?_))
        refine zD rfl (ks rfl (zD rfl (kh rfl (by assumption) (kw rfl zGw (kh rfl (by assumption) (zI rfl rfl (zT _ _) sh3 rfl ?_))))))
        refine kh rfl (by assumption) (zD rfl (kh rfl (by assumption) (ks rfl (wD rfl rfl (by assumption) ?_))))
        refine zA (k_cF rfl (by assumption) (zV (k_region (zD rfl ?_))))
        refine kz rfl (by unfold I64;omega) (zE rfl (zA ?_))
        exact⟨kk2 - 1,by omega,j+1,e++[SB.box [.int .i64 x.yr,.int .i64 x.ky,.int .i64 x.bs.1,.int .i64 x.bs.2]],by omega,(by rw[hsn,←hY];rfl),.c4 rfl rfl rfl rfl (.n2 rfl)⟩
      ·have k4:=kG c1
       rw[if_neg (fun q=>c1 q.1)]at hsn
       refine k_seq (kQ (zD rfl (kw rfl wo (zI rfl rfl hY0 sh24 rfl ?_))))
       refine zz rfl ty24 rfl (List.length_map _) ?_
       refine kp rfl (zA (k_cT rfl (kF (by omega)) (zV (k_seq (zR (kQ (kw rfl wo (zI rfl rfl hY0 sh24 rfl ?_))))))))
       refine zD rfl (wb (u:=x.u) rfl ty24 rfl rfl (Int.natCast_nonneg _) hxu cl64 ?_)
       refine yL rfl rfl sh64 rfl ?_
       refine zi rfl ze64 ?_
       refine zS rfl (zT _ _) sh64 rfl rfl rfl rfl rfl ?_
       refine zA ?_
       refine zL [(2,U.box 0 0),(5,.int .i64 ↑k),(6,.int .i64 ↑y),(7,U.box 2 0),(18,U.box 3 0),(19,.int .i64 ↑j),(20,U.box (List.length Y) 0)] (Y++[SB.box [.int .i64 (Fl.yr x),.int .i64 (Fl.ky x),.int .i64 (Prod.fst (Fl.bs x)),.int .i64 (Prod.snd (Fl.bs x))]]) (.n7 rfl) (yK _ _ _) fun fr=>?_
       refine kQ (kw rfl zFC (zI rfl rfl (zT _ _) sh3 rfl ?_))
       refine zD rfl (ks rfl (zD rfl (kg rfl (by assumption) (kg rfl (by assumption) (kg rfl (by assumption) (kg rfl (by assumption) (wY rfl rfl (by assumption) ?_)))))))
       refine zA (k_cF rfl rfl ?_)
       refine zV (k_region (zD rfl ?_))
       refine kz rfl (by unfold I64;omega) (zE rfl (zA ?_))
       exact⟨kk2 - 1,by omega,j+1,e++[SB.box [.int .i64 x.yr,.int .i64 x.ky,.int .i64 x.bs.1,.int .i64 x.bs.2]],by omega,(by rw[hsn,←hY];rfl),.c4 rfl rfl rfl rfl (.n2 rfl)⟩
     ·obtain rfl:j=z.files.length:=by omega
      have hg:filS (z.files.take z.files.length) k y ky.rt=grwS z k y:=by
       rw[List.take_length,fil_start];unfold grwS;rw[hkz]
      rw[hg]at hst hab
      have hsa:=hstb.a y (by omega)
      have hsb:=hstb.b y (by omega)
      have hsc:=hstb.c y (by omega)
      have hsd:=hstb.d y (by omega)
      rw[show yP z.yrs.toNat (begS z k) (grwS z k)=pitS z k from rfl,hRe]at hsa hsb hsc hsd
      have hb1:=pits_bnd h (pitS z k) (List.mem_map.2 ⟨k,List.mem_range.2 (by omega),rfl⟩) y (by omega)
      have hb2:=pits_bnd h (pitS z k) (List.mem_map.2 ⟨k,List.mem_range.2 (by omega),rfl⟩) (y+1) (by omega)
      rw[hRe]at hb1
      have q19c:=ret19 (orc:=orc) hi z k ((y:Int)+1)
      have he:wasE z k ((y:Int)+1)=0:=by rw[zGK ⟨by omega,by omega⟩ ⟨by omega,by omega⟩];exact hes
      have hr2:wasR z k ((y:Int)+1)=pitS z k (y+1):=by
       unfold wasR;rw[if_pos he];rfl
      rw[hr2,he]at q19c
      generalize grwS z k y=g at*
      generalize pitS z k (y+1)=R' at*
      obtain⟨g1,g2⟩:=g
      obtain⟨p1,p2⟩:=R'
      simp only at hab hsa hsb hsc hsd hb1 hb2
      have q41a:=ret41 (orc:=orc) hi (R1+g1) (R2+g2)
      have q41b:=ret41 (orc:=orc) hi (p1 - g2) (p2 - g1)
      have q42a:=ret42 (orc:=orc) hi p1 p2 (R1+g1) (R2+g2)
      have q42b:=ret42 (orc:=orc) hi R1 R2 (p1 - g2) (p2 - g1)
      rw[kF hsa,kF hsb]at q42a
      rw[kF hsc,kF hsd]at q42b
      have q42a:RetP Tryz.prog is orc 42 [yQ p1 p2,yQ (R1+g1) (R2+g2)] (.bool true):=q42a
      have q42b:RetP Tryz.prog is orc 42 [yQ R1 R2,yQ (p1 - g2) (p2 - g1)] (.bool true):=q42b
      generalize hY:[SB.box z.cs,.box [.int .i64 n1,.int .i64 n2],.box [.int .i64 R1,.int .i64 R2],.box [.int .i64 (g1,g2).1,.int .i64 (g1,g2).2]]++e=Y at hst
      have hY0:Y[0]? =some (.box z.cs):=by rw[←hY];rfl
      have hY2:Y[2]? =some (.box [.int .i64 R1,.int .i64 R2]):=by rw[←hY];rfl
      have hY3:Y[3]? =some (.box [.int .i64 g1,.int .i64 g2]):=by rw[←hY];rfl
      refine zL _ _ hs hst fun fr2=>?_
      refine k_seq (kQ (zD rfl (kw rfl wo (zI rfl rfl hY0 sh24 rfl ?_))))
      refine zz rfl ty24 rfl (List.length_map _) ?_
      refine kp rfl (zA (k_cF rfl (kG (by omega)) (yj (kQ (zg rfl rfl hY0 sh27 rfl ?_)))))
      refine zD rfl (zD rfl ?_)
      refine kz rfl (by unfold I64;omega) (zY rfl (q19c) (.lrefl _) (zD rfl (ku rfl (ku rfl (zi rfl ze35 ?_)))))
      refine zS rfl (zT _ _) sh35 rfl rfl rfl rfl rfl ?_
      refine zE rfl (zA ?_)
      refine zL [(7,U.box 2 0),(18,U.box 3 0),(21,U.box (List.length Y) 0),(22,.int .i64 0)] (Y++[SB.box [.int .i64 (Prod.fst (p1,p2)),.int .i64 (Prod.snd (p1,p2))]]) (.n4 rfl) (yK _ _ _) fun fr=>?_
      refine k_seq (wM [.plain,.plain,.plain,.read true,.plain,.read true,.plain,.read true,.plain,.plain,.read true,.plain,.read true,.plain,.read false,.plain,.plain,.plain,.read true,.plain,.read true,.plain,.read true,.plain,.plain,.read true,.plain,.read true,.plain,.read false,.plain,.plain,.plain,.plain,.plain,.plain] (by kernel_rfl) (by kernel_rfl) (by kernel_rfl) ?_)
      refine zC (zD rfl (zA rfl)) (zC (ks rfl (zA rfl)) ?_)
      refine zC (zD rfl (zA rfl)) (kl rfl (zJ rfl (zg rfl rfl (zT _ _) sh35 rfl (zA rfl)) ?_))
      refine kl rfl (zC (kw rfl yX (zA rfl)) ?_)
      refine kl rfl (zJ rfl (zI rfl rfl (zn hY2) sh3 rfl (zA rfl)) ?_)
      refine kl rfl (zC (kw rfl yX (zA rfl)) ?_)
      refine kl rfl (zJ rfl (zI rfl rfl (zn hY3) sh3 rfl (zA rfl)) ?_)
      refine kl rfl ?_
      refine zC (kz rfl (by unfold I64;omega) (zA rfl)) ?_
      refine zp [(7,U.box 2 0),(18,U.box 3 0),(21,U.box (List.length Y) 0),(211,U.bool (decide ((0:Int)=(0:Int)))),(212,U.agg [.int .i64 (Prod.fst (p1,p2)),.int .i64 (Prod.snd (p1,p2))]),(217,.int .i64 (R1+g1))] [] (Y++[SB.box [.int .i64 (Prod.fst (p1,p2)),.int .i64 (Prod.snd (p1,p2))]]) (.n6 rfl) rfl rfl fun fr=>?_
      refine kl rfl ?_
      refine zp [(7,U.box 2 0),(18,U.box 3 0),(21,U.box (List.length Y) 0),(211,U.bool (decide ((0:Int)=(0:Int)))),(212,U.agg [.int .i64 (Prod.fst (p1,p2)),.int .i64 (Prod.snd (p1,p2))]),(217,.int .i64 (R1+g1))] [] (Y++[SB.box [.int .i64 (Prod.fst (p1,p2)),.int .i64 (Prod.snd (p1,p2))]]) (.n6 rfl) rfl rfl fun fr=>?_
      refine zC (kw rfl yz (zA rfl)) ?_
      refine kl rfl (zJ rfl (zI rfl rfl (zn hY2) sh3 rfl (zA rfl)) ?_)
      refine kl rfl (zC (kw rfl yz (zA rfl)) ?_)
      refine kl rfl (zJ rfl (zI rfl rfl (zn hY3) sh3 rfl (zA rfl)) ?_)
      refine kl rfl ?_
      refine zC (kz rfl (by unfold I64;omega) (zA rfl)) ?_
      refine kl rfl (yH rfl (q41a) (zf _ _) (.lrefl _) ?_)
      refine kl rfl (zC (zY rfl (q42a) (.lrefl _) (zA rfl)) ?_)
      refine zC (kE rfl (zA rfl)) ?_
      refine zC (zD rfl (zA rfl)) ?_
      refine zp [(7,U.box 2 0),(18,U.box 3 0),(21,U.box (List.length Y) 0),(226,.bool true)] [] (Y++[SB.box [.int .i64 (Prod.fst (p1,p2)),.int .i64 (Prod.snd (p1,p2))]]) (.n4 rfl) rfl rfl fun fr=>?_
      refine kl rfl ?_
      refine zp [(7,U.box 2 0),(18,U.box 3 0),(21,U.box (List.length Y) 0),(226,.bool true)] [] (Y++[SB.box [.int .i64 (Prod.fst (p1,p2)),.int .i64 (Prod.snd (p1,p2))]]) (.n4 rfl) rfl rfl fun fr=>?_
      refine zJ rfl (zg rfl rfl (zn hY2) sh35 rfl (zA rfl)) ?_
      refine kl rfl (zC (kw rfl yX (zA rfl)) ?_)
      refine kl rfl (zJ rfl (zI rfl rfl (zT _ _) sh3 rfl (zA rfl)) ?_)
      refine kl rfl (zC (kw rfl yz (zA rfl)) ?_)
      refine kl rfl (zJ rfl (zI rfl rfl (zn hY3) sh3 rfl (zA rfl)) ?_)
      refine kl rfl ?_
      refine zC (zDc rfl rfl rfl (by unfold I64;omega) (zA rfl)) ?_
      refine kl rfl (zC (kw rfl yz (zA rfl)) ?_)
      refine kl rfl (zJ rfl (zI rfl rfl (zT _ _) sh3 rfl (zA rfl)) ?_)
      refine kl rfl (zC (kw rfl yX (zA rfl)) ?_)
      refine zp [(226,.bool true),(227,U.agg [.int .i64 R1,.int .i64 R2]),(232,.int .i64 (Prod.fst (p1,p2) - g2)),(234,.int .i64 (Prod.snd (p1,p2))),(235,U.box 3 0)] [] (Y++[SB.box [.int .i64 (Prod.fst (p1,p2)),.int .i64 (Prod.snd (p1,p2))]]) (.n5 rfl) rfl rfl fun fr=>?_
      refine kl rfl ?_
      refine zp [(226,.bool true),(227,U.agg [.int .i64 R1,.int .i64 R2]),(232,.int .i64 (Prod.fst (p1,p2) - g2)),(234,.int .i64 (Prod.snd (p1,p2))),(235,U.box 3 0)] [] (Y++[SB.box [.int .i64 (Prod.fst (p1,p2)),.int .i64 (Prod.snd (p1,p2))]]) (.n5 rfl) rfl rfl fun fr=>?_
      refine zJ rfl (zI rfl rfl (zn hY3) sh3 rfl (zA rfl)) ?_
      refine kl rfl ?_
      refine zC (zDc rfl rfl rfl (by unfold I64;omega) (zA rfl)) ?_
      refine kl rfl (yH rfl (q41b) (zf _ _) (.lrefl _) ?_)
      refine kl rfl (zC (zY rfl (q42b) (.lrefl _) (zA rfl)) ?_)
      refine zC (kE rfl (zA rfl)) ?_
      refine zC (zD rfl (zA rfl)) (kl rfl (zC (zY rfl (r21) (.lrefl _) (zA rfl)) ?_))
      refine zC (kE rfl (zA rfl)) ?_
      refine zC (zE rfl (zA rfl)) ?_
      refine zAK ?_
      refine zw ?_
      refine⟨.inr rfl,_,.cons _ _ _ _ (.tmp 4) .nil,?_⟩
      exact .refl _
  ·have hPn:∀up,pastR z k y up=[]:=fun up=>by rw[hP,hE,if_neg (by decide)]
   rw[hE,if_neg (by decide)]at hR
   rw[hR,hE]at q19
   have q22:∀up,RetP Tryz.prog is orc 22 [z.u,.int .i64 k,.int .i64 y,.bool up] (.tup [.lst .ro 1 (zb []),.int .i64 42]):=fun up=>by
    have:=q22 up
    rw[hPn,hE]at this;exact this
   have q41:=ret41 (orc:=orc) hi 0 0
   have k1:=spn_ne (0,0) (0,0)
   refine kQ (ya rfl rfl (ya rfl rfl (zE rfl (zA ?_))))
   refine zL [(2,U.box 0 0),(3,U.box 1 0)] ([SB.box [.int .i64 (Zt.yrs z),.lst .ro 7 (kysU (Zt.keys z)),.lst .ro 2 (spsU (Zt.steps z)),.lst .ro 4 (flsU (Zt.files z)),.lst .ro 4 (lksU (Zt.looks z))],SB.box [.int .i64 n1,.int .i64 n2]]) (.n2 rfl) rfl fun fr=>?_
   refine k_seq (kQ (kB sh27 rfl (zY rfl (q36) (.lrefl _) (zCp rfl rfl (zA (k_cF rfl rfl ?_))))))
   refine zV (k_seq (wM [.plain,.read true,.plain,.read true,.read true,.read false,.plain,.read true,.plain,.read true,.plain,.plain,.plain,.plain] (by kernel_rfl) (by kernel_rfl) (by kernel_rfl) ?_))
   refine zC (zAt rfl ty29 rfl rfl (by omega) (by omega) cl3 (zA rfl)) ?_
   refine zJ rfl (kA sh3 rfl (zA rfl)) (zC (kw rfl yT (zA rfl)) ?_)
   refine zJ rfl (kA sh22 rfl (zA rfl)) (zJ rfl (zz rfl ty22 rfl (List.length_map _) (zA rfl)) ?_)
   refine yH rfl (q40a) (.int _ _) (.lrefl _) ?_
   refine zC (zAt rfl ty29 rfl rfl (by omega) (by omega) cl3 (zA rfl)) ?_
   refine zJ rfl (kA sh3 rfl (zA rfl)) (zC (kw rfl wA (zA rfl)) ?_)
   refine zp [(2,U.box 0 0),(32,.int .i64 ↑k),(34,.int .i64 n2),(35,U.box 0 0)] [] ([SB.box [.int .i64 (Zt.yrs z),.lst .ro 7 (kysU (Zt.keys z)),.lst .ro 2 (spsU (Zt.steps z)),.lst .ro 4 (flsU (Zt.files z)),.lst .ro 4 (lksU (Zt.looks z))],SB.box [.int .i64 n1,.int .i64 n2]]) (.n4 rfl) rfl rfl fun fr=>?_
   refine zJ rfl (kA sh3 rfl (zA rfl)) ?_
   refine zC (kz rfl (by unfold I64;omega) (zA rfl)) ?_
   refine zC (zY rfl (q40b) (.lrefl _) (zA rfl)) ?_
   refine zC (zE rfl (zA rfl)) ?_
   refine zC (zE rfl (zA rfl)) ?_
   refine zAK ?_
   refine zL [(2,U.box 0 0),(5,.int .i64 ↑k),(6,.int .i64 ↑y)] ([SB.box [.int .i64 (Zt.yrs z),.lst .ro 7 (kysU (Zt.keys z)),.lst .ro 2 (spsU (Zt.steps z)),.lst .ro 4 (flsU (Zt.files z)),.lst .ro 4 (lksU (Zt.looks z))],SB.box [.int .i64 n1,.int .i64 n2]]) (.n3 rfl) rfl fun fr=>?_
   refine kQ (kB sh27 rfl (zD rfl (zD rfl (zY rfl (q19) (.lrefl _) (zD rfl (ku rfl (ku rfl (zi rfl ze35 ?_))))))))
   refine zS rfl rfl sh35 rfl rfl rfl rfl rfl ?_
   refine zE rfl (zA ?_)
   refine zL [(2,U.box 0 0),(5,.int .i64 ↑k),(6,.int .i64 ↑y),(7,U.box 2 0),(8,.int .i64 42)] ([SB.box [.int .i64 (Zt.yrs z),.lst .ro 7 (kysU (Zt.keys z)),.lst .ro 2 (spsU (Zt.steps z)),.lst .ro 4 (flsU (Zt.files z)),.lst .ro 4 (lksU (Zt.looks z))],SB.box [.int .i64 n1,.int .i64 n2],SB.box [.int .i64 (Prod.fst ((0:Int),(0:Int))),.int .i64 (Prod.snd ((0:Int),(0:Int)))]]) (.n5 rfl) rfl fun fr=>?_
   refine k_seq (kQ (zE rfl (zA (zR ?_))))
   refine yq (fun kk s1=>∃i:Nat,kk+i=2∧s1.st=[SB.box z.cs,.box [.int .i64 n1,.int .i64 n2],.box [.int .i64 0,.int .i64 0]]∧Holds s1 [(2,.box 0 0),(5,.int .i64 k),(6,.int .i64 y),(7,.box 2 0),(8,.int .i64 42),(9,.int .i64 i)]) (fun kk s1 hI=>?_) 2 _ ⟨0,rfl,rfl,.c4 rfl rfl rfl rfl (.n2 rfl)⟩
   obtain⟨i,hkk,hst,hs⟩:=hI
   by_cases hin:i<2
   ·have k2:decide ((i:Int)<2)=true:=kF (by omega)
    have q22i:=q22 (decide ((i:Int)=1))
    refine zL _ _ hs hst fun fr=>?_
    refine k_seq (kQ (zD rfl (kp rfl (zA (k_cT rfl (by assumption) (zV (k_seq (zR (kQ (kB sh27 rfl (zD rfl (zD rfl (zD rfl (ks rfl (zY rfl (q22i) (.lrefl _) ?_)))))))))))))))
    refine zD rfl (ku rfl (ku rfl (zE rfl (zE rfl (zA ?_)))))
    refine zL [(2,U.box 0 0),(5,.int .i64 ↑k),(6,.int .i64 ↑y),(7,U.box 2 0),(8,.int .i64 42),(9,.int .i64 ↑i),(10,.lst .ro 1 (zb [])),(11,.int .i64 42)] ([SB.box (Zt.cs z),SB.box [.int .i64 n1,.int .i64 n2],SB.box [.int .i64 0,.int .i64 0]]) (.n8 rfl) rfl fun fr=>?_
    refine k_seq (k_seq (wM [.plain,.plain,.plain,.plain,.plain,.plain,.plain,.plain,.plain,.plain,.plain,.plain,.plain,.plain,.plain,.read true,.read false,.plain,.plain,.plain,.plain] (by kernel_rfl) (by kernel_rfl) (by kernel_rfl) ?_))
    refine zC (zD rfl (zA rfl)) (zC (zD rfl (zA rfl)) (zC (kr rfl (zA rfl)) ?_))
    refine zC (zD rfl (zA rfl)) (kl rfl (zC (zD rfl (zA rfl)) (kl rfl (zC (kr rfl (zA rfl)) ?_))))
    refine kl rfl (zC (zD rfl (zA rfl)) (kl rfl (zC (zD rfl (zA rfl)) (kl rfl (zC (kr rfl (zA rfl)) ?_)))))
    refine zp [(2,U.box 0 0),(5,.int .i64 ↑k),(6,.int .i64 ↑y),(7,U.box 2 0),(8,.int .i64 42),(9,.int .i64 ↑i),(10,.lst .ro 1 (zb [])),(62,U.bool (decide ((42:Int)≠(42:Int)))),(63,.int .i64 42),(64,U.bool (decide ((42:Int)≠(0:Int)))),(65,U.bool (decide ((42:Int)≠(0:Int)))),(66,.int .i64 42),(67,U.bool (decide ((42:Int)≠(42:Int))))] [] ([SB.box (Zt.cs z),SB.box [.int .i64 n1,.int .i64 n2],SB.box [.int .i64 0,.int .i64 0]]) (.c4 rfl rfl rfl rfl (.n9 rfl)) rfl rfl fun fr=>?_
    refine kl rfl ?_
    refine zp [(2,U.box 0 0),(5,.int .i64 ↑k),(6,.int .i64 ↑y),(7,U.box 2 0),(8,.int .i64 42),(9,.int .i64 ↑i),(10,.lst .ro 1 (zb [])),(62,U.bool (decide ((42:Int)≠(42:Int)))),(63,.int .i64 42),(64,U.bool (decide ((42:Int)≠(0:Int)))),(65,U.bool (decide ((42:Int)≠(0:Int)))),(66,.int .i64 42),(67,U.bool (decide ((42:Int)≠(42:Int))))] [] ([SB.box (Zt.cs z),SB.box [.int .i64 n1,.int .i64 n2],SB.box [.int .i64 0,.int .i64 0]]) (.c4 rfl rfl rfl rfl (.n9 rfl)) rfl rfl fun fr=>?_
    refine zC (zD rfl (zA rfl)) (kl rfl (zC (zD rfl (zA rfl)) (kl rfl (zC (zz rfl ty40 rfl (List.length_map _) (zA rfl)) ?_))))
    refine kl rfl (zC (kr rfl (zA rfl)) ?_)
    refine kl rfl (zC (kD rfl (zA rfl)) ?_)
    refine kl rfl (zC (zD rfl (zA rfl)) (kl rfl (zJ rfl (kB sh35 rfl (zA rfl)) ?_)))
    refine kl rfl (yH rfl (q41) (zf _ _) (.lrefl _) ?_)
    refine kl rfl (zC (o_binK rfl rfl rfl rfl rfl k1 (zA rfl)) ?_)
    refine zp [(2,U.box 0 0),(5,.int .i64 ↑k),(6,.int .i64 ↑y),(7,U.box 2 0),(8,.int .i64 42),(9,.int .i64 ↑i),(10,.lst .ro 1 (zb [])),(62,U.bool (decide ((42:Int)≠(42:Int)))),(63,.int .i64 42),(64,U.bool (decide ((42:Int)≠(0:Int)))),(65,U.bool (decide ((42:Int)≠(0:Int)))),(66,.int .i64 42),(67,U.bool (decide ((42:Int)≠(42:Int)))),(68,U.bool (decide ((42:Int)≠(42:Int)))),(69,.lst .ro 1 (zb [])),(70,.int .i64 ↑(List.length [])),(71,U.bool (decide (↑(List.length [])≠(0:Int)))),(72,U.bool (decide (↑(List.length [])≠(0:Int)))),(73,U.bool (decide (↑(List.length [])≠(0:Int)))),(74,U.agg [.int .i64 0,.int .i64 0]),(75,yQ (0:Int) (0:Int)),(76,U.bool !decide (((0:Int),(0:Int))=((0:Int),(0:Int))))] [] ([SB.box (Zt.cs z),SB.box [.int .i64 n1,.int .i64 n2],SB.box [.int .i64 0,.int .i64 0]]) (.c4 rfl rfl rfl rfl (.c4 rfl rfl rfl rfl (.c4 rfl rfl rfl rfl (.n10 rfl)))) rfl rfl fun fr=>?_
    refine kl rfl ?_
    refine zp [(2,U.box 0 0),(5,.int .i64 ↑k),(6,.int .i64 ↑y),(7,U.box 2 0),(8,.int .i64 42),(9,.int .i64 ↑i),(10,.lst .ro 1 (zb [])),(62,U.bool (decide ((42:Int)≠(42:Int)))),(63,.int .i64 42),(64,U.bool (decide ((42:Int)≠(0:Int)))),(65,U.bool (decide ((42:Int)≠(0:Int)))),(66,.int .i64 42),(67,U.bool (decide ((42:Int)≠(42:Int)))),(68,U.bool (decide ((42:Int)≠(42:Int)))),(69,.lst .ro 1 (zb [])),(70,.int .i64 ↑(List.length [])),(71,U.bool (decide (↑(List.length [])≠(0:Int)))),(72,U.bool (decide (↑(List.length [])≠(0:Int)))),(73,U.bool (decide (↑(List.length [])≠(0:Int)))),(74,U.agg [.int .i64 0,.int .i64 0]),(75,yQ (0:Int) (0:Int)),(76,U.bool !decide (((0:Int),(0:Int))=((0:Int),(0:Int))))] [] ([SB.box (Zt.cs z),SB.box [.int .i64 n1,.int .i64 n2],SB.box [.int .i64 0,.int .i64 0]]) (.c4 rfl rfl rfl rfl (.c4 rfl rfl rfl rfl (.c4 rfl rfl rfl rfl (.n10 rfl)))) rfl rfl fun fr=>?_
    refine zC (kD rfl (zA rfl)) ?_
    refine kl rfl (zC (kE rfl (zA rfl)) ?_)
    refine zC (kD rfl (zA rfl)) ?_
    refine zAK ?_
    refine zL [(2,U.box 0 0),(5,.int .i64 ↑k),(6,.int .i64 ↑y),(7,U.box 2 0),(8,.int .i64 42),(9,.int .i64 ↑i),(10,.lst .ro 1 (zb [])),(63,.int .i64 42),(64,U.bool (decide ((42:Int)≠(0:Int)))),(65,U.bool (decide ((42:Int)≠(0:Int)))),(66,.int .i64 42),(67,U.bool (decide ((42:Int)≠(42:Int)))),(68,U.bool (decide ((42:Int)≠(42:Int)))),(69,.lst .ro 1 (zb [])),(70,.int .i64 ↑(List.length [])),(71,U.bool (decide (↑(List.length [])≠(0:Int)))),(72,U.bool (decide (↑(List.length [])≠(0:Int)))),(73,U.bool (decide (↑(List.length [])≠(0:Int)))),(74,U.agg [.int .i64 0,.int .i64 0]),(75,yQ (0:Int) (0:Int)),(76,U.bool !decide (((0:Int),(0:Int))=((0:Int),(0:Int)))),(77,U.bool !decide (((0:Int),(0:Int))=((0:Int),(0:Int)))),(78,U.bool !decide (((0:Int),(0:Int))=((0:Int),(0:Int)))),(79,U.bool !decide (((0:Int),(0:Int))=((0:Int),(0:Int))))] ([SB.box (Zt.cs z),SB.box [.int .i64 n1,.int .i64 n2],SB.box [.int .i64 0,.int .i64 0]]) (.c4 rfl rfl rfl rfl (.c4 rfl rfl rfl rfl (.c4 rfl rfl rfl rfl (.c4 rfl rfl rfl rfl (.n8 rfl))))) rfl fun fr=>?_
    refine k_cF rfl rfl ?_
    refine zV (k_seq (kQ (zD rfl (kr rfl (zA (k_cT rfl rfl ?_))))))
    refine yj (k_region (zD rfl ?_))
    refine kz rfl (by unfold I64;omega) (zE rfl (zA ?_))
    exact⟨kk - 1,by omega,i+1,by omega,rfl,.c4 rfl rfl rfl rfl (.n2 rfl)⟩
   ·have k2:decide ((i:Int)<2)=false:=kG (by omega)
    refine zL _ _ hs hst fun fr=>?_
    refine k_seq (kQ (zD rfl (kp rfl (zA (k_cF rfl (by assumption) (yj (k_seq (kQ (zD rfl (kr rfl (zD rfl (ke rfl (ke rfl (ke rfl (ke rfl ?_)))))))))))))))
    refine kE rfl ?_
    refine zA (k_cT rfl rfl ?_)
    refine kQ (zY rfl (r21) (.lrefl _) (zE rfl (zA (zw ?_))))
    refine⟨.inr rfl,_,.cons _ _ _ _ (.tmp 4) .nil,?_⟩
    exact .refl _
end Go.Proofs.YtpckmojdekdbbaaGreat.settles
