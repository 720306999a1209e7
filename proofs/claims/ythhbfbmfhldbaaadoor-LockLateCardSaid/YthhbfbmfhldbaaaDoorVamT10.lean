import Derived.Test.YthhbfbmfhldbaaaDoorVamT9
set_option linter.unusedVariables false
set_option linter.unusedSimpArgs false
set_option linter.constructorNameAsVariable false
namespace Go.Proofs.YthhbfbmfhldbaaaDoor.locks
open Vam
section
variable {is:FuncId→Bool}{orc:Known}{l:Ln}
theorem ze34:yU Tryd.prog 34=some ((.cons .nilf .nil):V):=by kernel_rfl
theorem memP_more{P:Nat→Bool}{n:Nat}:∀m:Nat,n≤m→(∀k,n≤k→k<m→P k=false)→memP P m=memP P n:=by
 intro m
 induction m with
 |zero=>intro h _;rw[show n=0 by omega]
 |succ m ih=>
  intro h hf
  by_cases e:n=m+1
  ·rw[e]
  ·rw[zED,hf m (by omega) (by omega),if_neg (by decide),List.append_nil]
   exact ih (by omega) fun k h1 h2=>hf k h1 (by omega)
theorem prt16{p:List Int}(hp:p.length≤16){w:Int}(hw:w≠ -1):memP (plF p w) 16=prtL p w:=by
 unfold prtL
 refine memP_more (P:=plF p w) 16 hp fun k h1 _=>?_
 unfold plF at'
 rw[List.getElem?_eq_none h1]
 exact kG fun h=>hw h.symm
end
section
variable {is:FuncId→Bool}{orc:Known}{l:Ln}
theorem zDQ:yG Tryd.prog 107 0=some (0,3):=by kernel_rfl
theorem wn:yG Tryd.prog 107 1=some (1,3):=by kernel_rfl
theorem sh108:shOf Tryd.prog 108=.many 16:=by kernel_rfl
theorem ty108:tyOf Tryd.prog 108=.array 16 3:=by kernel_rfl
theorem ze108:yU Tryd.prog 108=some ((.cons (.int .i64 0) (.cons (.int .i64 0) (.cons (.int .i64 0) (.cons (.int .i64 0) (.cons (.int .i64 0) (.cons (.int .i64 0) (.cons (.int .i64 0) (.cons (.int .i64 0) (.cons (.int .i64 0) (.cons (.int .i64 0) (.cons (.int .i64 0) (.cons (.int .i64 0) (.cons (.int .i64 0) (.cons (.int .i64 0) (.cons (.int .i64 0) (.cons (.int .i64 0) .nil)))))))))))))))):V):=by kernel_rfl
noncomputable def b83:Code:=(Tryd.f83.body).getD .skip
theorem body83:bodyOf Tryd.prog 83=some (46,b83,[.cell 4 108]):=by kernel_rfl
theorem pure83:pureFn Tryd.prog 83=true:=by kernel_rfl
noncomputable def b57:Code:=(Tryd.f57.body).getD .skip
theorem body57:bodyOf Tryd.prog 57=some (9,b57,[.cell 4 75]):=by kernel_rfl
theorem pure57:pureFn Tryd.prog 57=true:=by kernel_rfl
theorem ofI_nat{a:Nat}(ha:a<1000000):(BitVec.ofInt 64 (a:Int)).toNat=a:=by rw[BitVec.toNat_ofInt];omega
def orZ(x y:Int):Int:=IntKind.i64.wrap (((BitVec.ofInt 64 x) ||| (BitVec.ofInt 64 y)).toNat:Int)
section ops
variable {P:Program}{s:St}{all l:List Oper}{d:Nat}{x y:Operand}{xt yt t:TypeId}{p:String}{e:Array Edge}{Q:St→Prop}{a c:Int}
theorem o_orZ(hd:Nat.blt d 1024=true)(hx:zO s x=.int .i64 a)(hy:zO s y=.int .i64 c)(hk:WpO P is orc all l (s.put d (.int .i64 (orZ a c))) Q):WpO P is orc all (⟨some d,.binOp .or xt x y yt,t,p,e,none⟩::l) s Q:=
 zDh hd hx hy (v:=.int .i64 (orZ a c)) rfl rfl hk
end ops
theorem wrap_nat{n:Nat}(h:n<2 ^ 20):IntKind.i64.wrap (n:Int)=n:=by
 have h1:zEU .i64 (n:Int)=n:=wrap64 (by unfold I64;omega)
 rw[zCB]at h1;exact h1
theorem orZ_nat{a c:Nat}(ha:a<2 ^ 20)(hc:c<2 ^ 20)(h1:a<1000000)(h2:c<1000000):orZ a c=((a ||| c:Nat):Int):=by
 unfold orZ
 rw[BitVec.toNat_or,ofI_nat h1,ofI_nat h2]
 exact wrap_nat (Nat.or_lt_two_pow ha hc)
def i16(f:Nat→Nat):List Int:=(List.range 16).map fun k=>(f k:Int)
theorem zAG(f:Nat→Nat):(i16 f).length=16:=by simp[i16]
theorem i16_at{f:Nat→Nat}{i:Nat}(h:i<16):(i16 f)[i]? =some (f i:Int):=by
 unfold i16;rw[List.getElem?_map,List.getElem?_range h];rfl
theorem zAn{f g:Nat→Nat}(h:∀i,i<16→f i=g i):i16 f=i16 g:=List.map_congr_left fun i hi=>by rw[h i (List.mem_range.1 hi)]
theorem i16_set{f:Nat→Nat}{i v:Nat}:(i16 f).set i (v:Int)=i16 fun k=>if k=i then v else f k:=by
 apply List.ext_getElem?
 intro k
 by_cases hk:k<16
 ·rw[i16_at hk]
  by_cases e:k=i
  ·subst e
   rw[List.getElem?_set_self (by rw[zAG];exact hk),if_pos rfl]
  ·rw[List.getElem?_set_ne (fun h=>e h.symm),i16_at hk,if_neg e]
 ·rw[List.getElem?_eq_none (by rw[List.length_set,zAG];omega),List.getElem?_eq_none (by rw[zAG];omega)]
theorem ints_st{S:List Int}{i:Nat}{v:Int}:(zE S).set (0+(i:Int).toNat*1) (.int .i64 v)=zE (S.set i v):=by
 rw[show 0+(i:Int).toNat*1=i by omega]
 exact(List.map_set (f:=fun n=>U.int .i64 n)).symm
theorem ints_at{S:List Int}{i:Nat}{v:Int}(h:S[i]? =some v):(zE S)[0+(i:Int).toNat*1]? =some (.int .i64 v):=by
 rw[show 0+(i:Int).toNat*1=i by omega]
 show(S.map _)[i]? =_;rw[List.getElem?_map,h];rfl
theorem zEF{S:List Int}(h:S.length=16):∃a0 a1 a2 a3 a4 a5 a6 a7 a8 a9 a10 a11 a12 a13 a14 a15:Int,S=[a0,a1,a2,a3,a4,a5,a6,a7,a8,a9,a10,a11,a12,a13,a14,a15]:=by
 match S,h with
 |[a0,a1,a2,a3,a4,a5,a6,a7,a8,a9,a10,a11,a12,a13,a14,a15],_=>exact⟨a0,a1,a2,a3,a4,a5,a6,a7,a8,a9,a10,a11,a12,a13,a14,a15,rfl⟩
theorem zGd(S:List Int):FlatU (.agg (zE S)):=.agg _ fun c hc=>by
 obtain⟨x,_,rfl⟩:=List.mem_map.1 hc
 exact .int _ _
theorem dat_i16(S:List Int)(k:Nat):Dat (k+2) (.agg (zE S)):=.agg _ _ fun c hc=>by
 obtain⟨x,_,rfl⟩:=List.mem_map.1 hc
 exact .int _ _ _
def posN(l:Ln)(p:List Int)(who:Int)(b i:Nat):Nat:=if at' p i=who then(i+b) % l.slots.length else i
def hrN(l:Ln)(p:List Int)(who:Int)(b:Nat):Nat→Nat→Nat
 |0,_=>0
 |i+1,k=>if at' p i≠ -1∧k=posN l p who b i then hrN l p who b i k ||| 2 ^ (at' l.slots i).toNat else hrN l p who b i k
theorem hrN_lt(h:VL l)(p:List Int)(who:Int)(b:Nat):∀i,i≤l.slots.length→∀k,hrN l p who b i k<2 ^ 8:=by
 intro i
 induction i with
 |zero=>intro _ k;exact Nat.zero_lt_succ _
 |succ i ih=>
  intro hi k
  unfold hrN
  split
  ·obtain⟨t,_,ha,ht⟩:=h.at (show i<l.slots.length by omega)
   refine Nat.or_lt_two_pow (ih (by omega) k) ?_
   rw[ha]
   exact Nat.pow_lt_pow_right (by decide) (by omega)
  ·exact ih (by omega) k
theorem ret57(hi:Off is)(l:Ln)(p:List Int):RetP Tryd.prog is orc 57 [l.u,.lst .ro 1 (zE p)] (zCh l p):=by
 refine yH body57 pure57 (hi 57 (by decide)) rfl rfl (wE (wa l 5) (yK 6 .ro (fun h=>by cases h) 1 p)) (.inl (zBb l p 5)) ?_
 refine kQ (yB rfl rfl (zo rfl ze75 ?_))
 refine zB ?_
 refine zH [(1,.lst .ro 1 (zE p)),(2,U.box 0 0),(4,U.box 1 0)] ([SB.box [.lst .ro 1 (zE (Ln.slots l)),.int .i64 (Ln.left l),.int .i64 (Ln.right l),.int .i64 (Ln.run l)],SB.box [.lst .full 0 [],.int .i64 0,.int .i64 0,.int .i64 0,.lst .full 0 []]]) (.n3 rfl) rfl fun fr=>?_
 refine kQ (kB sh24 rfl (wN rfl ze73 pl73 rfl rfl ?_))
 refine zA rfl (wN rfl ze75 pl75 rfl rfl ?_)
 refine zt rfl rfl sh75 rfl rfl rfl rfl rfl ?_
 refine zB (zY ?_)
 refine⟨.inr rfl,_,.cons _ _ _ _ (.cellN 4 75 _ _ _ _ rfl rfl sh75 rfl) .nil,?_⟩
 exact .refl _
set_option maxHeartbeats 16000000 in
theorem ret83(hi:Off is)(h:VL l){p:List Int}(hd:divB l p=true){who:Int}{b:Nat}(hb:b≤8):RetP Tryd.prog is orc 83 [zCh l p,zBP who b] (.agg (zE (i16 (hrN l p who b p.length)))):=by
 refine yH body83 pure83 (hi 83 (by decide)) rfl rfl (wE (zBb l p 5) (zEO _ _ 6)) (.inl (dat_i16 _ 6)) ?_
 have hn:=h.n
 obtain⟨hp,htok,_⟩:=zAZ.1 hd
 refine kQ (yB rfl rfl (yB rfl rfl (zo rfl ze108 ?_)))
 refine zB ?_
 refine zH [(2,U.box 0 0),(3,U.box 1 0),(4,U.box 2 0)] ([SB.box [.lst .ro 1 (zE (Ln.slots l)),.int .i64 (Ln.left l),.int .i64 (Ln.right l),.int .i64 (Ln.run l),.lst .ro 1 (zE p)],SB.box [.int .i64 who,.int .i64 ↑b],SB.box [.int .i64 0,.int .i64 0,.int .i64 0,.int .i64 0,.int .i64 0,.int .i64 0,.int .i64 0,.int .i64 0,.int .i64 0,.int .i64 0,.int .i64 0,.int .i64 0,.int .i64 0,.int .i64 0,.int .i64 0,.int .i64 0]]) (.n3 rfl) rfl fun fr=>?_
 refine kQ (zo rfl ze108 ?_)
 refine zB ?_
 refine zH [(2,U.box 0 0),(3,U.box 1 0),(4,U.box 2 0),(5,U.box 3 0)] ([SB.box [.lst .ro 1 (zE (Ln.slots l)),.int .i64 (Ln.left l),.int .i64 (Ln.right l),.int .i64 (Ln.run l),.lst .ro 1 (zE p)],SB.box [.int .i64 who,.int .i64 ↑b],SB.box [.int .i64 0,.int .i64 0,.int .i64 0,.int .i64 0,.int .i64 0,.int .i64 0,.int .i64 0,.int .i64 0,.int .i64 0,.int .i64 0,.int .i64 0,.int .i64 0,.int .i64 0,.int .i64 0,.int .i64 0,.int .i64 0],SB.box [.int .i64 0,.int .i64 0,.int .i64 0,.int .i64 0,.int .i64 0,.int .i64 0,.int .i64 0,.int .i64 0,.int .i64 0,.int .i64 0,.int .i64 0,.int .i64 0,.int .i64 0,.int .i64 0,.int .i64 0,.int .i64 0]]) (.n4 rfl) rfl fun fr=>?_
 refine k_seq (kQ (kw rfl zGc (kA sh22 rfl (zk rfl ty22 rfl (List.length_map _) ?_))))
 refine zA rfl (zB (zG ?_))
 refine yZ (fun kk s2=>∃i:Nat,kk+i=p.length∧s2.st=[.box [.lst .ro 1 (zE l.slots),.int .i64 l.left,.int .i64 l.right,.int .i64 l.run,.lst .ro 1 (zE p)],.box [.int .i64 who,.int .i64 b],.box (zE (i16 fun _=>0)),.box (zE (i16 (hrN l p who b i)))]∧Holds s2 [(2,.box 0 0),(3,.box 1 0),(4,.box 2 0),(5,.box 3 0),(10,.lst .ro 1 (zE p)),(11,.int .i64 p.length),(12,.int .i64 i)]) (fun kk s2 hI=>?_) p.length _ ⟨0,rfl,rfl,.c4 rfl rfl rfl rfl (.n3 rfl)⟩
 obtain⟨i,hk,hst2,hs2⟩:=hI
 by_cases hin:i<p.length
 ·obtain⟨t,hx,ha,ht⟩:=h.at (show i<l.slots.length by omega)
  obtain⟨x,hw⟩:∃x,p[i]? =some x:=⟨p[i],List.getElem?_eq_getElem hin⟩
  have hpx:at' p i=x:=by unfold at';rw[hw];rfl
  have htk:=zBq (htok i (by omega))
  rw[hpx,ha]at htk
  have hst:∀k,hrN l p who b (i+1) k=if x≠ -1∧k=posN l p who b i then hrN l p who b i k ||| 2 ^ t.toNat else hrN l p who b i k:=fun k=>by rw[←hpx,←ha];rfl
  by_cases c1:x= -1
  ·have hsu:i16 (hrN l p who b (i+1))=i16 (hrN l p who b i):=zAn fun k _=>by rw[hst,if_neg (fun e=>e.1 c1)]
   rw[←hsu]at hst2
   refine zH _ _ hs2 hst2 fun fr2=>?_
   refine kQ (kp rfl (zB (k_seq (k_cT rfl (kF (by omega)) (zK (k_seq (zG (kQ (zA rfl (zf (u:=.int .i64 (x)) rfl ty22 rfl rfl (Int.natCast_nonneg _) (by simp[hw]) cl3 ?_))))))))))
   refine kC sh3 rfl ?_
   refine zC rfl (zC rfl (zB (k_seq (kQ (zA rfl (ks rfl (zB (k_cT rfl (kF (by omega)) (zp (k_region ?_))))))))))
   refine kz rfl (by unfold I64;omega) (zA rfl (zB ?_))
   exact⟨kk - 1,by omega,i+1,by omega,rfl,.c4 rfl rfl rfl rfl (.n3 rfl)⟩
  ·obtain⟨n,rfl⟩:∃n:Nat,t=n:=⟨t.toNat,by omega⟩
   have hn7:n≤7:=by omega
   simp only[Int.toNat_natCast]at hst
   obtain⟨m,hm⟩:∃m,m=posN l p who b i:=⟨_,rfl⟩
   have hml:m<16:=by
    rw[hm];unfold posN
    split
    ·have:=Nat.mod_lt (i+b) (show 0<l.slots.length by omega);omega
    ·omega
   have hlt:=hrN_lt h p who b i (by omega) m
   have hor:orZ (hrN l p who b i m:Int) ((2:Int) ^ n)=((hrN l p who b i m ||| 2 ^ n:Nat):Int):=by
    have h2:(2:Nat) ^ n≤2 ^ 7:=Nat.pow_le_pow_right (by decide) (by omega)
    have:=orZ_nat (a:=hrN l p who b i m) (c:=2 ^ n) (by omega) (by omega) (by omega) (by omega)
    rw[←this];push_cast;rfl
   have hq:=ints_at (i16_at (f:=hrN l p who b i) hml)
   have hsu:(i16 (hrN l p who b i)).set m (orZ (hrN l p who b i m:Int) ((2:Int) ^ n))=i16 (hrN l p who b (i+1)):=by
    rw[hor,i16_set]
    refine zAn fun k _=>?_
    rw[hst]
    by_cases e:k=m
    ·rw[if_pos e,if_pos ⟨c1,e.trans hm⟩,e]
    ·rw[if_neg e,if_neg (fun y=>e (y.2.trans hm.symm))]
   have hSl:=zAG (hrN l p who b i)
   generalize hrN l p who b i m=v at*
   generalize i16 (hrN l p who b i)=S at*
   have hbl:Nat.blt (0+(m:Int).toNat*1) (zE S).length=true:=by rw[Nat.blt_eq];simp[hSl];omega
   refine zH _ _ hs2 hst2 fun fr2=>?_
   by_cases c2:x=who
   ·have hme:((i:Int)+b) % (l.slots.length:Int)=m:=by rw[hm];unfold posN;rw[if_pos (hpx.trans c2)];push_cast;rfl
    have q103:=ret103 (orc:=orc) hi h ((i:Int)+b)
    rw[hme]at q103
    refine kQ (kp rfl (zB (k_seq (k_cT rfl (kF (by omega)) (zK (k_seq (zG (kQ (zA rfl (zf (u:=.int .i64 (x)) rfl ty22 rfl rfl (Int.natCast_nonneg _) (by simp[hw]) cl3 ?_))))))))))
    refine kC sh3 rfl ?_
    refine zC rfl (zC rfl (zB (k_seq (kQ (zA rfl (ks rfl (zB (k_cF rfl (kG (by omega)) (zK (kQ (zA rfl (zC rfl (zB ?_)))))))))))))
    refine zH [(2,U.box 0 0),(3,U.box 1 0),(4,U.box 2 0),(5,U.box 3 0),(6,.int .i64 ↑i),(7,.int .i64 x),(8,.int .i64 ↑i),(10,.lst .ro 1 (zE p)),(11,.int .i64 ↑(List.length p)),(12,.int .i64 ↑i)] ([SB.box [.lst .ro 1 (zE (Ln.slots l)),.int .i64 (Ln.left l),.int .i64 (Ln.right l),.int .i64 (Ln.run l),.lst .ro 1 (zE p)],SB.box [.int .i64 who,.int .i64 ↑b],SB.box (zE (i16 fun x ↦ 0)),SB.box (zE S)]) (.n10 rfl) rfl fun fr=>?_
    refine k_seq (kQ (zA rfl (kw rfl zDQ (kA sh3 rfl (ks rfl (zB (k_cT rfl (kF (by omega)) (k_region (kw rfl zDA (kB sh73 rfl (zA rfl (kw rfl wn (kA sh3 rfl ?_)))))))))))))
    refine kz rfl (by unfold I64;omega) (zN rfl (q103) (.lrefl _) (zC rfl (zB ?_)))
    refine zH [(2,U.box 0 0),(3,U.box 1 0),(4,U.box 2 0),(5,U.box 3 0),(6,.int .i64 ↑i),(8,.int .i64 ↑m),(10,.lst .ro 1 (zE p)),(11,.int .i64 ↑(List.length p)),(12,.int .i64 ↑i)] ([SB.box [.lst .ro 1 (zE (Ln.slots l)),.int .i64 (Ln.left l),.int .i64 (Ln.right l),.int .i64 (Ln.run l),.lst .ro 1 (zE p)],SB.box [.int .i64 who,.int .i64 ↑b],SB.box (zE (i16 fun x ↦ 0)),SB.box (zE S)]) (.n9 rfl) rfl fun fr=>?_
    refine yI [.plain,.plain,.read true,.plain,.plain,.plain,.read true,.plain,.plain,.read true,.plain,.plain,.plain,.plain] (by kernel_rfl) (by kernel_rfl) (by kernel_rfl) ?_
    refine zD (zA rfl (zB rfl)) (zD (ym rfl ty108 rfl rfl (by omega) (by omega) cl3 (zB rfl)) ?_)
    refine zP rfl (zV rfl rfl rfl sh3 hq (zB rfl)) ?_
    refine zD (kw rfl zDA (zB rfl)) ?_
    refine zD (kw rfl yQ (zB rfl)) ?_
    refine zD (kw rfl zQ (zB rfl)) ?_
    refine zP rfl (kA sh22 rfl (zB rfl)) (zD (zA rfl (zB rfl)) (zD (zf (u:=.int .i64 (↑n)) rfl ty22 rfl rfl (Int.natCast_nonneg _) (by simp[hx]) cl3 (zB rfl)) ?_))
    refine wA [(2,U.box 0 0),(3,U.box 1 0),(4,U.box 2 0),(5,U.box 3 0),(10,.lst .ro 1 (zE p)),(11,.int .i64 ↑(List.length p)),(12,.int .i64 ↑i),(31,.int .i64 ↑m),(33,.int .i64 ↑v),(39,U.eref [.int .i64 ↑n] 0)] [] ([SB.box [.lst .ro 1 (zE (Ln.slots l)),.int .i64 (Ln.left l),.int .i64 (Ln.right l),.int .i64 (Ln.run l),.lst .ro 1 (zE p)],SB.box [.int .i64 who,.int .i64 ↑b],SB.box (zE (i16 fun x ↦ 0)),SB.box (zE S)]) (.n10 rfl) rfl rfl fun fr=>?_
    refine zP rfl (kC sh3 rfl (zB rfl)) ?_
    refine zD (o_shlOne rfl rfl rfl (by omega) (zB rfl)) ?_
    refine zD (o_orZ rfl rfl rfl (zB rfl)) ?_
    refine zD (ym rfl ty108 rfl rfl (by omega) (by omega) cl3 (zB rfl)) ?_
    refine zD (yl rfl rfl sh3 hbl rfl (zB rfl)) ?_
    refine yu ?_
    refine zH [(2,U.box 0 0),(3,U.box 1 0),(4,U.box 2 0),(5,U.box 3 0),(10,.lst .ro 1 (zE p)),(11,.int .i64 ↑(List.length p)),(12,.int .i64 ↑i)] ([SB.box [.lst .ro 1 (zE (Ln.slots l)),.int .i64 (Ln.left l),.int .i64 (Ln.right l),.int .i64 (Ln.run l),.lst .ro 1 (zE p)],SB.box [.int .i64 who,.int .i64 ↑b],SB.box (zE (i16 fun x ↦ 0)),SB.box (List.set (zE S) (0+Int.toNat ↑m*1) (.int .i64 (orZ (↑v) ((2:Int) ^ n))))]) (.n7 rfl) rfl fun fr=>?_
    refine k_region ?_
    refine kz rfl (by unfold I64;omega) (zA rfl (zB ?_))
    exact⟨kk - 1,by omega,i+1,by omega,(by show [_,_,_,SB.box ((zE S).set (0+(m:Int).toNat*1) (.int .i64 (orZ v (2 ^ n))))]=_;rw[ints_st,hsu]),.c4 rfl rfl rfl rfl (.n3 rfl)⟩
   ·have hme:m=i:=by rw[hm];unfold posN;rw[if_neg (fun e=>c2 (hpx.symm.trans e))]
    rw[hme]at hq hbl hsu
    refine kQ (kp rfl (zB (k_seq (k_cT rfl (kF (by omega)) (zK (k_seq (zG (kQ (zA rfl (zf (u:=.int .i64 (x)) rfl ty22 rfl rfl (Int.natCast_nonneg _) (by simp[hw]) cl3 ?_))))))))))
    refine kC sh3 rfl ?_
    refine zC rfl (zC rfl (zB (k_seq (kQ (zA rfl (ks rfl (zB (k_cF rfl (kG (by omega)) (zK (kQ (zA rfl (zC rfl (zB ?_)))))))))))))
    refine zH [(2,U.box 0 0),(3,U.box 1 0),(4,U.box 2 0),(5,U.box 3 0),(6,.int .i64 ↑i),(7,.int .i64 x),(8,.int .i64 ↑i),(10,.lst .ro 1 (zE p)),(11,.int .i64 ↑(List.length p)),(12,.int .i64 ↑i)] ([SB.box [.lst .ro 1 (zE (Ln.slots l)),.int .i64 (Ln.left l),.int .i64 (Ln.right l),.int .i64 (Ln.run l),.lst .ro 1 (zE p)],SB.box [.int .i64 who,.int .i64 ↑b],SB.box (zE (i16 fun x ↦ 0)),SB.box (zE S)]) (.n10 rfl) rfl fun fr=>?_
    refine k_seq (kQ (zA rfl (kw rfl zDQ (kA sh3 rfl (ks rfl (zB (k_cF rfl (kG (by omega)) (zK (yI [.plain,.plain,.read true,.plain,.plain,.plain,.read true,.plain,.plain,.read true,.plain,.plain,.plain,.plain] (by kernel_rfl) (by kernel_rfl) (by kernel_rfl) ?_)))))))))
    refine zD (zA rfl (zB rfl)) (zD (ym rfl ty108 rfl rfl (by omega) (by omega) cl3 (zB rfl)) ?_)
    refine zP rfl (zV rfl rfl rfl sh3 hq (zB rfl)) ?_
    refine zD (kw rfl zDA (zB rfl)) ?_
    refine zD (kw rfl yQ (zB rfl)) ?_
    refine zD (kw rfl zQ (zB rfl)) ?_
    refine zP rfl (kA sh22 rfl (zB rfl)) (zD (zA rfl (zB rfl)) (zD (zf (u:=.int .i64 (↑n)) rfl ty22 rfl rfl (Int.natCast_nonneg _) (by simp[hx]) cl3 (zB rfl)) ?_))
    refine wA [(2,U.box 0 0),(3,U.box 1 0),(4,U.box 2 0),(5,U.box 3 0),(10,.lst .ro 1 (zE p)),(11,.int .i64 ↑(List.length p)),(12,.int .i64 ↑i),(31,.int .i64 ↑i),(33,.int .i64 ↑v),(39,U.eref [.int .i64 ↑n] 0)] [] ([SB.box [.lst .ro 1 (zE (Ln.slots l)),.int .i64 (Ln.left l),.int .i64 (Ln.right l),.int .i64 (Ln.run l),.lst .ro 1 (zE p)],SB.box [.int .i64 who,.int .i64 ↑b],SB.box (zE (i16 fun x ↦ 0)),SB.box (zE S)]) (.n10 rfl) rfl rfl fun fr=>?_
    refine zP rfl (kC sh3 rfl (zB rfl)) ?_
    refine zD (o_shlOne rfl rfl rfl (by omega) (zB rfl)) ?_
    refine zD (o_orZ rfl rfl rfl (zB rfl)) ?_
    refine zD (ym rfl ty108 rfl rfl (by omega) (by omega) cl3 (zB rfl)) ?_
    refine zD (yl rfl rfl sh3 hbl rfl (zB rfl)) ?_
    refine yu ?_
    refine zH [(2,U.box 0 0),(3,U.box 1 0),(4,U.box 2 0),(5,U.box 3 0),(10,.lst .ro 1 (zE p)),(11,.int .i64 ↑(List.length p)),(12,.int .i64 ↑i)] ([SB.box [.lst .ro 1 (zE (Ln.slots l)),.int .i64 (Ln.left l),.int .i64 (Ln.right l),.int .i64 (Ln.run l),.lst .ro 1 (zE p)],SB.box [.int .i64 who,.int .i64 ↑b],SB.box (zE (i16 fun x ↦ 0)),SB.box (List.set (zE S) (0+Int.toNat ↑i*1) (.int .i64 (orZ (↑v) ((2:Int) ^ n))))]) (.n7 rfl) rfl fun fr=>?_
    refine k_region ?_
    refine kz rfl (by unfold I64;omega) (zA rfl (zB ?_))
    exact⟨kk - 1,by omega,i+1,by omega,(by show [_,_,_,SB.box ((zE S).set (0+(i:Int).toNat*1) (.int .i64 (orZ v (2 ^ n))))]=_;rw[ints_st,hsu]),.c4 rfl rfl rfl rfl (.n3 rfl)⟩
 ·have hie:i=p.length:=by omega
  rw[hie]at hst2
  have hSl:=zAG (hrN l p who b p.length)
  generalize i16 (hrN l p who b p.length)=S at*
  obtain⟨a0,a1,a2,a3,a4,a5,a6,a7,a8,a9,a10,a11,a12,a13,a14,a15,rfl⟩:=zEF hSl
  refine zH _ _ hs2 hst2 fun fr2=>?_
  refine kQ (kp rfl (zB (k_seq (k_cF rfl (kG (by omega)) (zp (kQ (kB sh108 rfl (zt rfl rfl sh108 rfl rfl rfl rfl rfl ?_))))))))
  refine zB (zY ?_)
  refine⟨.inr rfl,_,.cons _ _ _ _ (.cellN 4 108 _ _ _ _ rfl rfl sh108 rfl) .nil,?_⟩
  exact .refl _
  done
end
end Go.Proofs.YthhbfbmfhldbaaaDoor.locks
