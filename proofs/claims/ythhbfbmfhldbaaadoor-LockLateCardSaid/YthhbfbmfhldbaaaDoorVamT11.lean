import Derived.Test.YthhbfbmfhldbaaaDoorVamT10
set_option linter.unusedVariables false
set_option linter.unusedSimpArgs false
set_option linter.constructorNameAsVariable false
namespace Go.Proofs.YthhbfbmfhldbaaaDoor.locks
open Vam
variable {is:FuncId→Bool}{orc:Known}{l:Ln}
theorem cl22:Program.cellsOf Tryd.prog 22=1:=by kernel_rfl
theorem ty42:tyOf Tryd.prog 42=.slice 22:=by kernel_rfl
noncomputable def b87:Code:=(Tryd.f87.body).getD .skip
theorem body87:bodyOf Tryd.prog 87=some (24,b87,[.tmp 4]):=by kernel_rfl
theorem pure87:pureFn Tryd.prog 87=true:=by kernel_rfl
noncomputable def b89:Code:=(Tryd.f89.body).getD .skip
theorem body89:bodyOf Tryd.prog 89=some (31,b89,[.cell 2 108]):=by kernel_rfl
theorem pure89:pureFn Tryd.prog 89=true:=by kernel_rfl
abbrev zq(R:List (List Int)):List U:=R.map fun r=>.lst .ro 1 (zE r)
theorem zEP(R:List (List Int))(k:Nat):Dat (k+3) (.lst .ro 1 (zq R)):=by
 refine .lst _ .ro _ _ (fun h=>by cases h) fun c hc=>?_
 obtain⟨e,he,hc⟩:=List.mem_flatMap.1 hc
 obtain⟨r,_,rfl⟩:=List.mem_map.1 he
 rcases List.mem_singleton.1 hc with rfl
 exact yK k .ro (fun h=>by cases h) 1 r
def zDr(l:Ln)(R:List (List Int)):Bool:=decide (R.length=l.slots.length)&&R.all (grwB (-1) 8)
set_option maxHeartbeats 8000000 in
theorem ret87(hi:Off is)(h:VL l)(R:List (List Int)):RetP Tryd.prog is orc 87 [l.u,.lst .ro 1 (zq R)] (.bool (zDr l R)):=by
 refine yH body87 pure87 (hi 87 (by decide)) rfl rfl (wE (wa l 5) (zEP R 5)) (.inl (.bool _ _)) ?_
 have hn:=h.n
 unfold zDr
 by_cases hl:R.length=l.slots.length
 ·rw[kF hl,Bool.true_and]
  generalize hz:R.all (grwB (-1) 8)=z
  refine kQ (yB rfl rfl (zC rfl (zB ?_)))
  refine zH [(1,.lst .ro 1 (zq R)),(2,U.box 0 0)] ([SB.box [.lst .ro 1 (zE (Ln.slots l)),.int .i64 (Ln.left l),.int .i64 (Ln.right l),.int .i64 (Ln.run l)]]) (.n2 rfl) rfl fun fr=>?_
  refine k_seq (kQ (zA rfl (zk rfl ty42 rfl (List.length_map _) ?_)))
  refine kw rfl yQ (kw rfl zQ (kA sh22 rfl (zk rfl ty22 rfl (List.length_map _) ?_)))
  refine kr rfl (zB (k_cF rfl (kG (by omega)) (zK (k_seq (kQ (zA rfl (zk rfl ty42 rfl (List.length_map _) ?_)))))))
  refine zA rfl (zB (zG ?_))
  refine yZ (fun kk s2=>∃i:Nat,kk+i=R.length∧z=(R.drop i).all (grwB (-1) 8)∧s2.st=[.box l.cs]∧Holds s2 [(14,.lst .ro 1 (zq R)),(15,.int .i64 R.length),(16,.int .i64 i)]) (fun kk s2 hI=>?_) R.length _ ⟨0,rfl,hz.symm,rfl,.cons rfl (.n2 rfl)⟩
  obtain⟨i,hk,hw,hst2,hs2⟩:=hI
  clear hz
  refine zH _ _ hs2 hst2 fun fr2=>?_
  by_cases hin:i<R.length
  ·obtain⟨r,hx⟩:∃r,R[i]? =some r:=⟨R[i],List.getElem?_eq_getElem hin⟩
   have qx:=ret99 (orc:=orc) hi (n:=8) (by decide) r
   have hxu:(zq R)[i]? =some (.lst .ro 1 (zE r)):=by rw[List.getElem?_map,hx];rfl
   rw[drop_at hx,List.all_cons]at hw
   have hw:z=(grwB (-1) ((8:Nat):Int) r&&(R.drop (i+1)).all (grwB (-1) 8)):=hw
   generalize grwB (-1) ((8:Nat):Int) r=z1 at*
   cases z1 with
   |false=>
    obtain rfl:z=false:=hw
    refine kQ (kp rfl (zB (k_seq (k_cT rfl (kF (by omega)) (zK (k_seq (zG (kQ (zf (u:=.lst .ro 1 (zE r)) rfl ty42 rfl rfl (Int.natCast_nonneg _) (by simpa using hxu) cl22 ?_)))))))))
    refine kC sh22 rfl ?_
    refine zC rfl (zB (kQ (zA rfl (zN rfl (qx) (.lrefl _) (yN rfl rfl (zB (k_cT rfl rfl ?_)))))))
    refine kQ (zC rfl (zB (zY ?_)))
    refine⟨.inr rfl,_,.cons _ _ _ _ (.tmp 4) .nil,?_⟩
    exact .refl _
   |true=>
    rw[Bool.true_and]at hw
    refine kQ (kp rfl (zB (k_seq (k_cT rfl (kF (by omega)) (zK (k_seq (zG (kQ (zf (u:=.lst .ro 1 (zE r)) rfl ty42 rfl rfl (Int.natCast_nonneg _) (by simpa using hxu) cl22 ?_)))))))))
    refine kC sh22 rfl ?_
    refine zC rfl (zB (kQ (zA rfl (zN rfl (qx) (.lrefl _) (yN rfl rfl (zB (k_cF rfl rfl ?_)))))))
    refine zK (k_region ?_)
    refine kz rfl (by unfold I64;omega) (zA rfl (zB ?_))
    exact⟨kk - 1,by omega,i+1,by omega,hw,rfl,.cons rfl (.n2 rfl)⟩
  ·rw[List.drop_eq_nil_of_le (by omega)]at hw
   obtain rfl:z=true:=hw
   refine kQ (kp rfl (zB (k_seq (k_cF rfl (kG (by omega)) (zp (kQ (zC rfl (zB (zY ?_)))))))))
   refine⟨.inr rfl,_,.cons _ _ _ _ (.tmp 4) .nil,?_⟩
   exact .refl _
 ·rw[kG hl,Bool.false_and]
  refine kQ (yB rfl rfl (zC rfl (zB ?_)))
  refine zH [(1,.lst .ro 1 (zq R)),(2,U.box 0 0)] ([SB.box [.lst .ro 1 (zE (Ln.slots l)),.int .i64 (Ln.left l),.int .i64 (Ln.right l),.int .i64 (Ln.run l)]]) (.n2 rfl) rfl fun fr=>?_
  refine k_seq (kQ (zA rfl (zk rfl ty42 rfl (List.length_map _) ?_)))
  refine kw rfl yQ (kw rfl zQ (kA sh22 rfl (zk rfl ty22 rfl (List.length_map _) ?_)))
  refine kr rfl (zB (k_cT rfl (kF (by omega)) (kQ (zC rfl (zB (zY ?_))))))
  refine⟨.inr rfl,_,.cons _ _ _ _ (.tmp 4) .nil,?_⟩
  exact .refl _
def setN(r:List Int):Nat:=r.foldl (fun a t=>a ||| 2 ^ t.toNat) 0
theorem setN_snoc{r:List Int}{j:Nat}{t:Int}(h:r[j]? =some t):setN (r.take (j+1))=setN (r.take j) ||| 2 ^ t.toNat:=by
 unfold setN
 rw[List.take_add_one,h,List.foldl_append];rfl
theorem setN_lt{r:List Int}(h:∀t∈r,0≤t∧t<8):∀j,setN (r.take j)<2 ^ 8:=by
 intro j
 induction j with
 |zero=>exact Nat.zero_lt_succ _
 |succ j ih=>
  cases hx:r[j]? with
  |none=>rw[List.take_of_length_le (by have:=List.getElem?_eq_none_iff.1 hx;omega)];rw[List.take_of_length_le (List.getElem?_eq_none_iff.1 hx)]at ih;exact ih
  |some t=>
   rw[setN_snoc hx]
   have:=h t (List.mem_of_getElem? hx)
   exact Nat.or_lt_two_pow ih (Nat.pow_lt_pow_right (by decide) (by omega))
def rwN(R:List (List Int))(k:Nat):Nat:=setN ((R[k]?).getD [])
def upN(R:List (List Int))(i v k:Nat):Nat:=if k<i then rwN R k else if k=i then v else 0
theorem up0(R:List (List Int))(i:Nat):i16 (upN R i 0)=i16 fun k=>if k<i then rwN R k else 0:=zAn fun k _=>by
 unfold upN;split
 ·rfl
 ·split<;>rfl
theorem up1{R:List (List Int)}{i:Nat}{r:List Int}(h:R[i]? =some r):i16 (upN R i (setN r))=i16 fun k=>if k<i+1 then rwN R k else 0:=zAn fun k _=>by
 unfold upN
 by_cases e:k<i
 ·rw[if_pos e,if_pos (by omega)]
 ·rw[if_neg e]
  by_cases e2:k=i
  ·subst e2;rw[if_pos rfl,if_pos (by omega)];unfold rwN;rw[h];rfl
  ·rw[if_neg e2,if_neg (by omega)]
set_option maxHeartbeats 16000000 in
theorem ret89(hi:Off is){R:List (List Int)}(hl:R.length≤16)(hR:∀r∈R,r.length≤8∧∀t∈r,0≤t∧t<8):RetP Tryd.prog is orc 89 [.lst .ro 1 (zq R)] (.agg (zE (i16 (rwN R)))):=by
 refine yH body89 pure89 (hi 89 (by decide)) rfl rfl (wk (zEP R 5)) (.inl (dat_i16 _ 6)) ?_
 refine kQ (zo rfl ze108 ?_)
 refine zB ?_
 refine zH [(0,.lst .ro 1 (zq R)),(2,U.box 0 0)] ([SB.box [.int .i64 0,.int .i64 0,.int .i64 0,.int .i64 0,.int .i64 0,.int .i64 0,.int .i64 0,.int .i64 0,.int .i64 0,.int .i64 0,.int .i64 0,.int .i64 0,.int .i64 0,.int .i64 0,.int .i64 0,.int .i64 0]]) (.n2 rfl) rfl fun fr=>?_
 refine kQ (zo rfl ze108 ?_)
 refine zB ?_
 refine zH [(0,.lst .ro 1 (zq R)),(2,U.box 0 0),(3,U.box 1 0)] ([SB.box [.int .i64 0,.int .i64 0,.int .i64 0,.int .i64 0,.int .i64 0,.int .i64 0,.int .i64 0,.int .i64 0,.int .i64 0,.int .i64 0,.int .i64 0,.int .i64 0,.int .i64 0,.int .i64 0,.int .i64 0,.int .i64 0],SB.box [.int .i64 0,.int .i64 0,.int .i64 0,.int .i64 0,.int .i64 0,.int .i64 0,.int .i64 0,.int .i64 0,.int .i64 0,.int .i64 0,.int .i64 0,.int .i64 0,.int .i64 0,.int .i64 0,.int .i64 0,.int .i64 0]]) (.n3 rfl) rfl fun fr=>?_
 refine k_seq (kQ (zA rfl (zk rfl ty42 rfl (List.length_map _) ?_)))
 refine zA rfl (zB (zG ?_))
 refine yZ (fun kk s2=>∃i:Nat,kk+i=R.length∧s2.st=[.box (zE (i16 fun _=>0)),.box (zE (i16 fun k=>if k<i then rwN R k else 0))]∧Holds s2 [(2,.box 0 0),(3,.box 1 0),(8,.lst .ro 1 (zq R)),(9,.int .i64 R.length),(10,.int .i64 i)]) (fun kk s2 hI=>?_) R.length _ ⟨0,rfl,rfl,.c4 rfl rfl rfl rfl (.n1 rfl)⟩
 obtain⟨i,hk,hst2,hs2⟩:=hI
 by_cases hin:i<R.length
 ·obtain⟨r,hx⟩:∃r,R[i]? =some r:=⟨R[i],List.getElem?_eq_getElem hin⟩
  obtain⟨hrl,hrt⟩:=hR r (List.mem_of_getElem? hx)
  have hxu:(zq R)[i]? =some (.lst .ro 1 (zE r)):=by rw[List.getElem?_map,hx];rfl
  rw[←up0]at hst2
  refine zH _ _ hs2 hst2 fun fr2=>?_
  refine kQ (kp rfl (zB (k_seq (k_cT rfl (kF (by omega)) (zK (k_seq (zG (kQ (zA rfl (zf (u:=.lst .ro 1 (zE r)) rfl ty42 rfl rfl (Int.natCast_nonneg _) (by simpa using hxu) cl22 ?_))))))))))
  refine kC sh22 rfl ?_
  refine zC rfl (zC rfl (zB (kQ (zA rfl (zk rfl ty22 rfl (List.length_map _) ?_)))))
  refine zA rfl (zB (zG ?_))
  refine yZ (fun mm s3=>∃j:Nat,mm+j=r.length∧s3.st=[.box (zE (i16 fun _=>0)),.box (zE (i16 (upN R i (setN (r.take j)))))]∧Holds s3 [(2,.box 0 0),(3,.box 1 0),(4,.int .i64 i),(8,.lst .ro 1 (zq R)),(9,.int .i64 R.length),(10,.int .i64 i),(15,.lst .ro 1 (zE r)),(16,.int .i64 r.length),(17,.int .i64 j)]) (fun mm s3 hJ=>?_) r.length _ ⟨0,rfl,rfl,.c4 rfl rfl rfl rfl (.n5 rfl)⟩
  obtain⟨j,hj,hst3,hs3⟩:=hJ
  by_cases hjn:j<r.length
  ·obtain⟨t,ht⟩:∃t,r[j]? =some t:=⟨r[j],List.getElem?_eq_getElem hjn⟩
   have htr:=hrt t (List.mem_of_getElem? ht)
   have hsn:=setN_snoc ht
   obtain⟨n,rfl⟩:∃n:Nat,t=n:=⟨t.toNat,by omega⟩
   rw[Int.toNat_natCast]at hsn
   have hlt:=setN_lt hrt j
   have hv:upN R i (setN (r.take j)) i=setN (r.take j):=by unfold upN;rw[if_neg (by omega),if_pos rfl]
   have hq:=ints_at (i16_at (f:=upN R i (setN (r.take j))) (i:=i) (by omega))
   rw[hv]at hq
   have hor:orZ (setN (r.take j):Int) ((2:Int) ^ n)=((setN (r.take (j+1)):Nat):Int):=by
    have h2:(2:Nat) ^ n≤2 ^ 7:=Nat.pow_le_pow_right (by decide) (by omega)
    have:=orZ_nat (a:=setN (r.take j)) (c:=2 ^ n) (by omega) (by omega) (by omega) (by omega)
    rw[hsn,←this];push_cast;rfl
   have hsu:(i16 (upN R i (setN (r.take j)))).set i (orZ (setN (r.take j):Int) ((2:Int) ^ n))=i16 (upN R i (setN (r.take (j+1)))):=by
    rw[hor,i16_set]
    refine zAn fun k _=>?_
    unfold upN
    by_cases e:k=i
    ·rw[if_pos e,if_neg (by omega),if_pos e]
    ·rw[if_neg e]
     by_cases e2:k<i
     ·rw[if_pos e2,if_pos e2]
     ·rw[if_neg e2,if_neg e2,if_neg e,if_neg e]
   have hSl:=zAG (upN R i (setN (r.take j)))
   generalize setN (r.take j)=v at*
   generalize i16 (upN R i v)=S at*
   have hbl:Nat.blt (0+(i:Int).toNat*1) (zE S).length=true:=by rw[Nat.blt_eq];simp[hSl];omega
   refine zH _ _ hs3 hst3 fun fr3=>?_
   refine kQ (kp rfl (zB (k_seq (k_cT rfl (kF (by omega)) (zK (k_seq (zG (kQ (zf (u:=.int .i64 (n:Int)) rfl ty22 rfl rfl (Int.natCast_nonneg _) (by simp[ht]) cl3 ?_)))))))))
   refine kC sh3 rfl ?_
   refine zC rfl (zB (yI [.plain,.plain,.plain,.plain,.plain,.plain,.plain,.plain] (by kernel_rfl) (by kernel_rfl) (by kernel_rfl) ?_))
   refine zD (zA rfl (zB rfl)) (zD (ym rfl ty108 rfl rfl (by omega) (by omega) cl3 (zB rfl)) ?_)
   refine zD (zV rfl rfl rfl sh3 hq (zB rfl)) ?_
   refine zD (zA rfl (zB rfl)) (zD (o_shlOne rfl rfl rfl (by omega) (zB rfl)) ?_)
   refine zD (o_orZ rfl rfl rfl (zB rfl)) ?_
   refine zD (ym rfl ty108 rfl rfl (by omega) (by omega) cl3 (zB rfl)) ?_
   refine zD (yl rfl rfl sh3 hbl rfl (zB rfl)) ?_
   refine yu ?_
   refine zH [(2,U.box 0 0),(3,U.box 1 0),(4,.int .i64 ↑i),(8,.lst .ro 1 (zq R)),(9,.int .i64 ↑(List.length R)),(10,.int .i64 ↑i),(15,.lst .ro 1 (zE r)),(16,.int .i64 ↑(List.length r)),(17,.int .i64 ↑j)] ([SB.box (zE (i16 fun x ↦ 0)),SB.box (List.set (zE S) (0+Int.toNat ↑i*1) (.int .i64 (orZ (↑v) ((2:Int) ^ n))))]) (.n9 rfl) rfl fun fr=>?_
   refine k_region ?_
   refine kz rfl (by unfold I64;omega) (zA rfl (zB ?_))
   exact⟨mm - 1,by omega,j+1,by omega,(by show [_,SB.box ((zE S).set (0+(i:Int).toNat*1) (.int .i64 (orZ v (2 ^ n))))]=_;rw[ints_st,hsu]),.c4 rfl rfl rfl rfl (.n5 rfl)⟩
  ·have hje:r.take j=r:=List.take_of_length_le (by omega)
   rw[hje,up1 hx]at hst3
   refine zH _ _ hs3 hst3 fun fr3=>?_
   refine kQ (kp rfl (zB (k_seq (k_cF rfl (kG (by omega)) (zp (k_region ?_))))))
   refine kz rfl (by unfold I64;omega) (zA rfl (zB ?_))
   exact⟨kk - 1,by omega,i+1,by omega,rfl,.c4 rfl rfl rfl rfl (.n1 rfl)⟩
 ·have he:(i16 fun k=>if k<i then rwN R k else 0)=i16 (rwN R):=zAn fun k _=>by
   by_cases e:k<i
   ·rw[if_pos e]
   ·rw[if_neg e];unfold rwN;rw[List.getElem?_eq_none (by omega)];rfl
  rw[he]at hst2
  have hSl:=zAG (rwN R)
  generalize i16 (rwN R)=S at*
  obtain⟨a0,a1,a2,a3,a4,a5,a6,a7,a8,a9,a10,a11,a12,a13,a14,a15,rfl⟩:=zEF hSl
  refine zH _ _ hs2 hst2 fun fr2=>?_
  refine kQ (kp rfl (zB (k_seq (k_cF rfl (kG (by omega)) (zp (kQ (kB sh108 rfl (zt rfl rfl sh108 rfl rfl rfl rfl rfl ?_))))))))
  refine zB (zY ?_)
  refine⟨.inr rfl,_,.cons _ _ _ _ (.cellN 2 108 _ _ _ _ rfl rfl sh108 rfl) .nil,?_⟩
  exact .refl _
  done
end Go.Proofs.YthhbfbmfhldbaaaDoor.locks
