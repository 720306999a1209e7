import Derived.Test.YthhbfbmfhldbaaaDoorVamT6
set_option linter.unusedVariables false
set_option linter.unusedSimpArgs false
set_option linter.constructorNameAsVariable false
namespace Go.Proofs.YthhbfbmfhldbaaaDoor.locks
open Vam
variable {is:FuncId→Bool}{orc:Known}{l:Ln}
def onF(L:List Int)(k:Nat):Bool:=decide ((k:Int)∈L)
set_option maxHeartbeats 8000000 in
theorem ret100(hi:Off is){L:List Int}(hL:∀x∈L,0≤x∧x<16)(hlen:L.length≤4096):RetP Tryd.prog is orc 100 [.lst .ro 1 (zE L)] (.agg (zU (b16 (onF L)))):=by
 refine yJ body100 pure100 (hi 100 (by decide)) rfl rfl (zAQ (zw 6 .ro (fun h=>by cases h) 1 L)) (.inl (zAC _ 6)) ?_
 refine kQ (yL rfl ze83 ?_)
 refine zB ?_
 refine zI [(0,.lst .ro 1 (zE L)),(2,U.box 0 0)] ([SB.box [.bool false,.bool false,.bool false,.bool false,.bool false,.bool false,.bool false,.bool false,.bool false,.bool false,.bool false,.bool false,.bool false,.bool false,.bool false,.bool false]]) (.n2 rfl) rfl fun fr=>?_
 refine kQ (yL rfl ze83 ?_)
 refine zB ?_
 refine zI [(0,.lst .ro 1 (zE L)),(2,U.box 0 0),(3,U.box 1 0)] ([SB.box [.bool false,.bool false,.bool false,.bool false,.bool false,.bool false,.bool false,.bool false,.bool false,.bool false,.bool false,.bool false,.bool false,.bool false,.bool false,.bool false],SB.box [.bool false,.bool false,.bool false,.bool false,.bool false,.bool false,.bool false,.bool false,.bool false,.bool false,.bool false,.bool false,.bool false,.bool false,.bool false,.bool false]]) (.n3 rfl) rfl fun fr=>?_
 refine k_seq (kQ (zA rfl (zi rfl ty22 rfl (List.length_map _) ?_)))
 refine zA rfl (zB (zH ?_))
 refine yu (fun kk s2=>∃i:Nat,kk+i=L.length∧s2.st=[.box (zU (b16 fun _=>false)),.box (zU (b16 (onF (L.take i))))]∧Holds s2 [(2,.box 0 0),(3,.box 1 0),(6,.lst .ro 1 (zE L)),(7,.int .i64 L.length),(8,.int .i64 i)]) (fun kk s2 hI=>?_) L.length _ ⟨0,rfl,rfl,.c4 rfl rfl rfl rfl (.n1 rfl)⟩
 obtain⟨i,hk,hst2,hs2⟩:=hI
 obtain⟨S,hS⟩:∃S,S=b16 (onF (L.take i)):=⟨_,rfl⟩
 have hSl:S.length=16:=by rw[hS,zt]
 rw[←hS]at hst2
 refine zI _ _ hs2 hst2 fun fr2=>?_
 by_cases hin:i<L.length
 ·obtain⟨x,hx⟩:∃x,L[i]? =some x:=⟨L[i],List.getElem?_eq_getElem hin⟩
  have hxr:=hL x (List.mem_of_getElem? hx)
  obtain⟨n,rfl⟩:∃n:Nat,x=n:=⟨x.toNat,by omega⟩
  have hbl:Nat.blt (0+(n:Int).toNat*1) (zU S).length=true:=by rw[Nat.blt_eq];simp[hSl];omega
  have hsu:S.set n true=b16 (onF (L.take (i+1))):=by
   rw[hS,zFa]
   refine zCF fun k _=>?_
   unfold onF
   rw[List.take_add_one,hx]
   by_cases e:k=n
   ·subst e;rw[if_pos rfl];exact(kF (by simp)).symm
   ·rw[if_neg e]
    refine decide_eq_decide.2 ?_
    rw[List.mem_append,Option.toList_some,List.mem_singleton]
    exact⟨.inl,fun h=>h.resolve_right (by omega)⟩
  refine kQ (kp rfl (zB (k_seq (k_cT rfl (kF (by omega)) (zJ (k_seq (zH (kQ (zx (u:=.int .i64 (↑n)) rfl ty22 rfl rfl (Int.natCast_nonneg _) (by simp[hx]) cl3 ?_)))))))))
  refine kC sh3 rfl ?_
  refine zC rfl (zB (k_region (zA rfl (ye rfl ty83 rfl rfl (by omega) (by omega) cl4 ?_))))
  refine zCP rfl rfl sh4 hbl rfl ?_
  refine zB ?_
  refine zI [(2,U.box 0 0),(3,U.box 1 0),(6,.lst .ro 1 (zE L)),(7,.int .i64 ↑(List.length L)),(8,.int .i64 ↑i)] ([SB.box (zU (b16 fun x ↦ Bool.false)),SB.box (List.set (zU S) (0+Int.toNat ↑n*1) (.bool true))]) (.n5 rfl) rfl fun fr=>?_
  refine k_region ?_
  refine kz rfl (by unfold I64;omega) (zA rfl (zB ?_))
  exact⟨kk - 1,by omega,i+1,by omega,(by show [_,SB.box ((zU S).set (0+(n:Int).toNat*1) (.bool true))]=[_,_];rw[bols_st,hsu]),.c4 rfl rfl rfl rfl (.n1 rfl)⟩
 ·have hSe:S=b16 (onF L):=by rw[hS,List.take_of_length_le (by omega)]
  rw[←hSe]
  clear hS hSe
  obtain⟨a0,a1,a2,a3,a4,a5,a6,a7,a8,a9,a10,a11,a12,a13,a14,a15,rfl⟩:=zAm hSl
  refine kQ (kp rfl (zB (k_seq (k_cF rfl (kG (by omega)) (yI (kQ (kB sh83 rfl (zp rfl rfl sh83 rfl rfl rfl rfl rfl ?_))))))))
  refine zB (za ?_)
  refine⟨.inr rfl,_,.cons _ _ _ _ (.cellN 2 83 _ _ _ _ rfl rfl sh83 rfl) .nil,?_⟩
  exact .refl _
  done
def woF(f g:Nat→Bool)(k:Nat):Bool:=f k&& !g k
set_option maxHeartbeats 8000000 in
theorem ret67(hi:Off is)(f g:Nat→Bool):RetP Tryd.prog is orc 67 [.agg (zU (b16 f)),.agg (zU (b16 g))] (.agg (zU (b16 (woF f g)))):=by
 refine yJ body67 pure67 (hi 67 (by decide)) rfl rfl (zAP (zAC _ 6) (zAC _ 6)) (.inl (zAC _ 6)) ?_
 refine kQ (yb rfl rfl (yb rfl rfl (yL rfl ze83 ?_)))
 refine zB ?_
 refine zI [(2,U.box 0 0),(3,U.box 1 0),(4,U.box 2 0)] ([SB.box [U.bool (f (nat_lit 0)),U.bool (f (nat_lit 1)),U.bool (f (nat_lit 2)),U.bool (f (nat_lit 3)),U.bool (f (nat_lit 4)),U.bool (f (nat_lit 5)),U.bool (f (nat_lit 6)),U.bool (f (nat_lit 7)),U.bool (f (nat_lit 8)),U.bool (f (nat_lit 9)),U.bool (f (nat_lit 10)),U.bool (f (nat_lit 11)),U.bool (f (nat_lit 12)),U.bool (f (nat_lit 13)),U.bool (f (nat_lit 14)),U.bool (f (nat_lit 15))],SB.box [U.bool (g (nat_lit 0)),U.bool (g (nat_lit 1)),U.bool (g (nat_lit 2)),U.bool (g (nat_lit 3)),U.bool (g (nat_lit 4)),U.bool (g (nat_lit 5)),U.bool (g (nat_lit 6)),U.bool (g (nat_lit 7)),U.bool (g (nat_lit 8)),U.bool (g (nat_lit 9)),U.bool (g (nat_lit 10)),U.bool (g (nat_lit 11)),U.bool (g (nat_lit 12)),U.bool (g (nat_lit 13)),U.bool (g (nat_lit 14)),U.bool (g (nat_lit 15))],SB.box [.bool false,.bool false,.bool false,.bool false,.bool false,.bool false,.bool false,.bool false,.bool false,.bool false,.bool false,.bool false,.bool false,.bool false,.bool false,.bool false]]) (.n3 rfl) rfl fun fr=>?_
 refine k_seq (kQ (zA rfl (zB (zH ?_))))
 refine yu (fun kk s2=>∃i:Nat,kk+i=16∧s2.st=[.box (zU (b16 fun k=>if k<i then woF f g k else f k)),.box (zU (b16 g)),.box (zU (b16 fun _=>false))]∧Holds s2 [(2,.box 0 0),(3,.box 1 0),(4,.box 2 0),(6,.int .i64 i)]) (fun kk s2 hI=>?_) 16 _ ⟨0,rfl,rfl,.c4 rfl rfl rfl rfl (.nil rfl)⟩
 obtain⟨i,hk,hst2,hs2⟩:=hI
 have hat:i<16→(b16 fun k=>if k<i then woF f g k else f k)[i]? =some (f i):=fun h=>by rw[zDR h,if_neg (by omega)]
 have hag:i<16→(b16 g)[i]? =some (g i):=fun h=>zDR h
 have hsu:∀v,v=woF f g i→(b16 fun k=>if k<i then woF f g k else f k).set i v=b16 fun k=>if k<i+1 then woF f g k else f k:=fun v hv=>by
  rw[zFa]
  refine zCF fun k _=>?_
  by_cases e:k=i
  ·subst e;rw[if_pos rfl,if_pos (by omega),hv]
  ·rw[if_neg e]
   by_cases h:k<i
   ·rw[if_pos h,if_pos (by omega)]
   ·rw[if_neg h,if_neg (by omega)]
 obtain⟨T,hT⟩:∃T,T=b16 g:=⟨_,rfl⟩
 have hSe:i=16→(b16 fun k=>if k<i then woF f g k else f k)=b16 (woF f g):=fun h=>zCF fun k hk=>by rw[if_pos (by omega)]
 obtain⟨S,hS⟩:∃S,S=b16 fun k=>if k<i then woF f g k else f k:=⟨_,rfl⟩
 have hSl:S.length=16:=by rw[hS,zt]
 have hTl:T.length=16:=by rw[hT,zt]
 rw[←hS,←hT]at hst2
 rw[←hS]at hat hsu hSe
 rw[←hT]at hag
 refine zI _ _ hs2 hst2 fun fr2=>?_
 by_cases hin:i<16
 ·have h1:=zCt (hat hin)
  have h2:=zCt (hag hin)
  have hbl:Nat.blt (0+(i:Int).toNat*1) (zU S).length=true:=by rw[Nat.blt_eq];simp[hSl];omega
  have h1':(zU S)[0+(i:Int).toNat*1]? =some (.bool (f i)):=by rw[show 0+(i:Int).toNat*1=i by omega];exact h1
  have h2':(zU T)[0+(i:Int).toNat*1]? =some (.bool (g i)):=by rw[show 0+(i:Int).toNat*1=i by omega];exact h2
  have hw:woF f g i=(f i&& !g i):=rfl
  have hgo:∀v,v=woF f g i→([SB.box ((zU S).set (0+(i:Int).toNat*1) (.bool v)),.box (zU T),.box (zU (b16 fun _=>false))]:List SB)=[.box (zU (b16 fun k=>if k<i+1 then woF f g k else f k)),.box (zU (b16 g)),.box (zU (b16 fun _=>false))]:=fun v hv=>by rw[bols_st,hsu v hv,hT]
  clear hsu hSe hat hag h1 h2
  generalize f i=z1 at*
  generalize g i=z2 at*
  cases z1 with
  |false=>
   refine kQ (kp rfl (zB (k_seq (k_cT rfl (kF (by omega)) (zJ (k_seq (zH (kQ (zA rfl (zC rfl (zB (k_region (zA rfl (zA rfl (ye rfl ty83 rfl rfl (by omega) (by omega) cl4 ?_)))))))))))))))
   refine zAS rfl rfl rfl sh4 h1' ?_
   refine zA rfl (ke rfl (ke rfl (ke rfl (ke rfl (kD rfl ?_)))))
   refine ye rfl ty83 rfl rfl (by omega) (by omega) cl4 ?_
   refine zCP rfl rfl sh4 hbl rfl ?_
   refine zB ?_
   refine zI [(2,U.box 0 0),(3,U.box 1 0),(4,U.box 2 0),(6,.int .i64 ↑i)] ([SB.box (List.set (zU S) (0+Int.toNat ↑i*1) (.bool false)),SB.box (zU T),SB.box (zU (b16 fun x ↦ Bool.false))]) (.n4 rfl) rfl fun fr=>?_
   refine k_region ?_
   refine kz rfl (by unfold I64;omega) (zA rfl (zB ?_))
   exact⟨kk - 1,by omega,i+1,by omega,hgo _ hw.symm,.c4 rfl rfl rfl rfl (.nil rfl)⟩
  |true=>
   refine kQ (kp rfl (zB (k_seq (k_cT rfl (kF (by omega)) (zJ (k_seq (zH (kQ (zA rfl (zC rfl (zB (k_region (zA rfl (zA rfl (ye rfl ty83 rfl rfl (by omega) (by omega) cl4 ?_)))))))))))))))
   refine zAS rfl rfl rfl sh4 h1' ?_
   refine zA rfl (kf rfl (zA rfl (kf rfl (ye rfl ty83 rfl rfl (by omega) (by omega) cl4 ?_))))
   refine kf rfl (zAS rfl rfl rfl sh4 h2' ?_)
   refine kf rfl (yW rfl rfl (kE rfl ?_))
   refine ye rfl ty83 rfl rfl (by omega) (by omega) cl4 ?_
   refine zCP rfl rfl sh4 hbl rfl ?_
   refine zB ?_
   refine zI [(2,U.box 0 0),(3,U.box 1 0),(4,U.box 2 0),(6,.int .i64 ↑i)] ([SB.box (List.set (zU S) (0+Int.toNat ↑i*1) (U.bool !z2)),SB.box (zU T),SB.box (zU (b16 fun x ↦ Bool.false))]) (.n4 rfl) rfl fun fr=>?_
   refine k_region ?_
   refine kz rfl (by unfold I64;omega) (zA rfl (zB ?_))
   exact⟨kk - 1,by omega,i+1,by omega,hgo _ hw.symm,.c4 rfl rfl rfl rfl (.nil rfl)⟩
 ·rw[←hSe (by omega)]
  clear hS hT hsu hSe hat hag
  obtain⟨a0,a1,a2,a3,a4,a5,a6,a7,a8,a9,a10,a11,a12,a13,a14,a15,rfl⟩:=zAm hSl
  refine kQ (kp rfl (zB (k_seq (k_cF rfl (kG (by omega)) (yI (kQ (kB sh83 rfl (zp rfl rfl sh83 rfl rfl rfl rfl rfl ?_))))))))
  refine zB (za ?_)
  refine⟨.inr rfl,_,.cons _ _ _ _ (.cellN 4 83 _ _ _ _ rfl rfl sh83 rfl) .nil,?_⟩
  exact .refl _
  done
end Go.Proofs.YthhbfbmfhldbaaaDoor.locks
