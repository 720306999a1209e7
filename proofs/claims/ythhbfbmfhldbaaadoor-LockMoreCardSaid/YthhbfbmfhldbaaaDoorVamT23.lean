import Derived.Test.YthhbfbmfhldbaaaDoorVamT22
set_option linter.unusedVariables false
set_option linter.unusedSimpArgs false
set_option linter.constructorNameAsVariable false
namespace Go.Proofs.YthhbfbmfhldbaaaDoor.locks
open Vam
section
variable {is:FuncId→Bool}{orc:Known}{l:Ln}
theorem sh77:shOf Tryd.prog 77=.many 16:=by kernel_rfl
noncomputable def b68:Code:=(Tryd.f68.body).getD .skip
theorem body68:bodyOf Tryd.prog 68=some (24,b68,[.cell 2 83]):=by kernel_rfl
theorem pure68:pureFn Tryd.prog 68=true:=by kernel_rfl
noncomputable def b79:Code:=(Tryd.f79.body).getD .skip
theorem body79:bodyOf Tryd.prog 79=some (20,b79,[.cell 2 83]):=by kernel_rfl
theorem pure79:pureFn Tryd.prog 79=true:=by kernel_rfl
theorem tl_parts(n:Nat)(c:Nat→Nat):tlC n c=[.int .i64 n]++(zD (i16 c)++[]):=by rw[List.append_nil];rfl
def tilF(P:Nat→Bool)(i k:Nat):Bool:=decide (k<i)&&P k
theorem til_zero(P:Nat→Bool):tilF P 0=fun _=>false:=by funext k;unfold tilF;rw[kG (by omega)];rfl
theorem til_up{P:Nat→Bool}{i:Nat}:(fun k=>if k=i then P i else tilF P i k)=tilF P (i+1):=by
 funext k
 unfold tilF
 by_cases e:k=i
 ·subst e;rw[if_pos rfl,kF (by omega)];rfl
 ·rw[if_neg e,decide_eq_decide.2 (show k<i↔k<i+1 by omega)]
theorem til_all(P:Nat→Bool):b16 (tilF P 16)=b16 P:=zBX fun k hk=>by unfold tilF;rw[kF hk];rfl
def allF(n:Nat)(c:Nat→Nat)(k:Nat):Bool:=decide (c k=n)
def somF(n:Nat)(c:Nat→Nat)(k:Nat):Bool:=decide (0<c k)&&decide (c k<n)
set_option maxHeartbeats 16000000 in
theorem ret79(hi:Off is)(n:Nat)(c:Nat→Nat):RetP Tryd.prog is orc 79 [.agg (tlC n c)] (.agg (zL (b16 (allF n c)))):=by
 refine yi body79 pure79 (hi 79 (by decide)) rfl rfl (zAV (dat_tl _ _ 6)) (.inl (wp _ 6)) ?_
 have hp:=tl_parts n c
 have hli:(zD (i16 c)).length=16:=by rw[List.length_map,zDs]
 have hdg:=tl_dg n c
 have h0:(tlC n c)[0]? =some (.int .i64 n):=rfl
 have hat:∀i,i<16→(zD (i16 c))[((i:Nat):Int).toNat*1]? =some (.int .i64 (c i:Nat)):=fun i h=>by
  have:=ints_at (i16_at (f:=c) h)
  rw[show 0+((i:Nat):Int).toNat*1=((i:Nat):Int).toNat*1 by omega]at this;exact this
 have hst:∀i,((zL (b16 (tilF (allF n c) i))).set (0+((i:Nat):Int).toNat*1) (.bool (decide (((c i:Nat):Int)=(n:Int)))))=zL (b16 (tilF (allF n c) (i+1))):=fun i=>by
  rw[zFq,zDG,←til_up]
  rw[show decide (((c i:Nat):Int)=(n:Int))=allF n c i from decide_eq_decide.2 (by omega)]
 have hll:∀i,(zL (b16 (tilF (allF n c) i))).length=16:=fun i=>by unfold zL;rw[List.length_map,yG]
 generalize zD (i16 c)=C at*
 generalize hT:tlC n c=T at*
 have y0:([.box T,.box (zL (b16 fun _=>false)),.box (zL (b16 (tilF (allF n c) 0)))]:List SB)[0]? =some (.box ([.int .i64 n]++(C++[]))):=by rw[hp];rfl
 refine kQ (zx rfl rfl (zo rfl ze83 ?_))
 refine zC ?_
 refine zI [(1,U.box 0 0),(2,U.box 1 0)] ([SB.box (List.map dg (zd (zN (St.init [U.agg T]) (Go.Operand.tmp 0)))),SB.box [.bool false,.bool false,.bool false,.bool false,.bool false,.bool false,.bool false,.bool false,.bool false,.bool false,.bool false,.bool false,.bool false,.bool false,.bool false,.bool false]]) (.n2 rfl) rfl fun fr=>?_
 refine kQ (zo rfl ze83 ?_)
 refine zC ?_
 refine zI [(1,U.box 0 0),(2,U.box 1 0),(3,U.box 2 0)] ([SB.box (List.map dg (zd (zN (St.init [U.agg T]) (Go.Operand.tmp (0:Go.Tmp))))),SB.box [.bool false,.bool false,.bool false,.bool false,.bool false,.bool false,.bool false,.bool false,.bool false,.bool false,.bool false,.bool false,.bool false,.bool false,.bool false,.bool false],SB.box [.bool false,.bool false,.bool false,.bool false,.bool false,.bool false,.bool false,.bool false,.bool false,.bool false,.bool false,.bool false,.bool false,.bool false,.bool false,.bool false]]) (.n3 rfl) rfl fun fr=>?_
 refine zI [(1,.box 0 0),(2,.box 1 0),(3,.box 2 0)] [.box T,.box (zL (b16 fun _=>false)),.box (zL (b16 (tilF (allF n c) 0)))] (.n3 rfl) (by
  show [SB.box (List.map dg T),_,_]=_
  rw[hdg,til_zero];rfl) fun fr=>?_
 refine k_seq (kQ (kw rfl fld79_1 (o_loadP rfl rfl y0 sh77 rfl hli ?_)))
 refine zA rfl (zC (zM ?_))
 refine wC (fun kk s2=>∃i:Nat,kk+i=16∧s2.st=[.box T,.box (zL (b16 fun _=>false)),.box (zL (b16 (tilF (allF n c) i)))]∧Holds s2 [(1,.box 0 0),(2,.box 1 0),(3,.box 2 0),(7,.agg C),(8,.int .i64 i)]) (fun kk s2 hI=>?_) 16 _ ⟨0,rfl,rfl,.c4 rfl rfl rfl rfl (.n1 rfl)⟩
 obtain⟨i,hk,hst2,hs2⟩:=hI
 by_cases hin:i<16
 ·have ha:=hat i hin
  have hs:=hst i
  have hl:=hll i
  have hbl:Nat.blt (0+((i:Nat):Int).toNat*1) (zL (b16 (tilF (allF n c) i))).length=true:=by rw[Nat.blt_eq,hl];simp;omega
  generalize c i=v at*
  generalize zL (b16 (tilF (allF n c) i))=D at*
  refine zI _ _ hs2 hst2 fun fr2=>?_
  refine kQ (kp rfl (zC (k_seq (k_cT rfl (kF (by omega)) (zQ (k_seq (zM (kQ (zA rfl (wt rfl ty77 rfl rfl (Int.natCast_nonneg _) (by omega) cl3 sh3 ha ?_))))))))))
  refine zB rfl (zB rfl (zC (k_region (zA rfl (zA rfl (kw rfl zDv (zf rfl rfl rfl sh3 h0 ?_)))))))
  refine ks rfl (yV rfl ty83 rfl rfl (by omega) (by omega) cl4 ?_)
  refine yd rfl rfl sh4 hbl rfl ?_
  refine zC (k_region ?_)
  refine kz rfl (by unfold I64;omega) (zA rfl (zC ?_))
  exact⟨kk - 1,by omega,i+1,by omega,(by show [_,_,SB.box (D.set (0+((i:Nat):Int).toNat*1) (.bool (decide ((v:Int)=(n:Int)))))]=_;rw[hs]),.c4 rfl rfl rfl rfl (.n1 rfl)⟩
 ·have hie:i=16:=by omega
  subst hie
  have hl:=hll 16
  rw[til_all]at hst2 hl
  have ho:=zBn (b16 (allF n c))
  have hd:=zBo (b16 (allF n c))
  refine zI _ _ hs2 hst2 fun fr2=>?_
  refine kQ (kp rfl (zC (k_seq (k_cF rfl rfl ?_))))
  refine yW (kQ (yD rfl rfl rfl sh83 hl ?_))
  refine wh rfl rfl sh83 rfl hl rfl rfl ho hd ?_
  refine zC (zg ?_)
  refine⟨.inr rfl,_,.cons _ _ _ _ (.cellN 2 83 _ _ _ _ rfl rfl sh83 rfl) .nil,?_⟩
  exact .refl _
set_option maxHeartbeats 16000000 in
theorem ret68(hi:Off is)(n:Nat)(c:Nat→Nat):RetP Tryd.prog is orc 68 [.agg (tlC n c)] (.agg (zL (b16 (somF n c)))):=by
 refine yi body68 pure68 (hi 68 (by decide)) rfl rfl (zAV (dat_tl _ _ 6)) (.inl (wp _ 6)) ?_
 have hp:=tl_parts n c
 have hli:(zD (i16 c)).length=16:=by rw[List.length_map,zDs]
 have hdg:=tl_dg n c
 have h0:(tlC n c)[0]? =some (.int .i64 n):=rfl
 have hat:∀i,i<16→(zD (i16 c))[((i:Nat):Int).toNat*1]? =some (.int .i64 (c i:Nat)):=fun i h=>by
  have:=ints_at (i16_at (f:=c) h)
  rw[show 0+((i:Nat):Int).toNat*1=((i:Nat):Int).toNat*1 by omega]at this;exact this
 have hst:∀i,((zL (b16 (tilF (somF n c) i))).set (0+((i:Nat):Int).toNat*1) (.bool (decide (0<((c i:Nat):Int))&&decide (((c i:Nat):Int)<(n:Int)))))=zL (b16 (tilF (somF n c) (i+1))):=fun i=>by
  rw[zFq,zDG,←til_up]
  rw[show(decide (0<((c i:Nat):Int))&&decide (((c i:Nat):Int)<(n:Int)))=somF n c i by unfold somF;rw[decide_eq_decide.2 (show 0<((c i:Nat):Int)↔0<c i by omega),decide_eq_decide.2 (show((c i:Nat):Int)<(n:Int)↔c i<n by omega)]]
 have hll:∀i,(zL (b16 (tilF (somF n c) i))).length=16:=fun i=>by unfold zL;rw[List.length_map,yG]
 generalize zD (i16 c)=C at*
 generalize hT:tlC n c=T at*
 have y0:([.box T,.box (zL (b16 fun _=>false)),.box (zL (b16 (tilF (somF n c) 0)))]:List SB)[0]? =some (.box ([.int .i64 n]++(C++[]))):=by rw[hp];rfl
 refine kQ (zx rfl rfl (zo rfl ze83 ?_))
 refine zC ?_
 refine zI [(1,U.box 0 0),(2,U.box 1 0)] ([SB.box (List.map dg (zd (zN (St.init [U.agg T]) (Go.Operand.tmp 0)))),SB.box [.bool false,.bool false,.bool false,.bool false,.bool false,.bool false,.bool false,.bool false,.bool false,.bool false,.bool false,.bool false,.bool false,.bool false,.bool false,.bool false]]) (.n2 rfl) rfl fun fr=>?_
 refine kQ (zo rfl ze83 ?_)
 refine zC ?_
 refine zI [(1,U.box 0 0),(2,U.box 1 0),(3,U.box 2 0)] ([SB.box (List.map dg (zd (zN (St.init [U.agg T]) (Go.Operand.tmp (0:Go.Tmp))))),SB.box [.bool false,.bool false,.bool false,.bool false,.bool false,.bool false,.bool false,.bool false,.bool false,.bool false,.bool false,.bool false,.bool false,.bool false,.bool false,.bool false],SB.box [.bool false,.bool false,.bool false,.bool false,.bool false,.bool false,.bool false,.bool false,.bool false,.bool false,.bool false,.bool false,.bool false,.bool false,.bool false,.bool false]]) (.n3 rfl) rfl fun fr=>?_
 refine zI [(1,.box 0 0),(2,.box 1 0),(3,.box 2 0)] [.box T,.box (zL (b16 fun _=>false)),.box (zL (b16 (tilF (somF n c) 0)))] (.n3 rfl) (by
  show [SB.box (List.map dg T),_,_]=_
  rw[hdg,til_zero];rfl) fun fr=>?_
 refine k_seq (kQ (kw rfl fld79_1 (o_loadP rfl rfl y0 sh77 rfl hli ?_)))
 refine zA rfl (zC (zM ?_))
 refine wC (fun kk s2=>∃i:Nat,kk+i=16∧s2.st=[.box T,.box (zL (b16 fun _=>false)),.box (zL (b16 (tilF (somF n c) i)))]∧Holds s2 [(1,.box 0 0),(2,.box 1 0),(3,.box 2 0),(7,.agg C),(8,.int .i64 i)]) (fun kk s2 hI=>?_) 16 _ ⟨0,rfl,rfl,.c4 rfl rfl rfl rfl (.n1 rfl)⟩
 obtain⟨i,hk,hst2,hs2⟩:=hI
 by_cases hin:i<16
 ·have ha:=hat i hin
  have hs:=hst i
  have hl:=hll i
  have hbl:Nat.blt (0+((i:Nat):Int).toNat*1) (zL (b16 (tilF (somF n c) i))).length=true:=by rw[Nat.blt_eq,hl];simp;omega
  generalize c i=v at*
  generalize zL (b16 (tilF (somF n c) i))=D at*
  refine zI _ _ hs2 hst2 fun fr2=>?_
  by_cases cz:0<(v:Int)
  ·rw[kF cz,Bool.true_and]at hs
   refine kQ (kp rfl (zC (k_seq (k_cT rfl (kF (by omega)) (zQ (k_seq (zM (kQ (zA rfl (wt rfl ty77 rfl rfl (Int.natCast_nonneg _) (by omega) cl3 sh3 ha ?_))))))))))
   refine zB rfl (zB rfl (zC (k_region (zA rfl (zA rfl (kp rfl (zA rfl (kh rfl (kF (by omega)) ?_))))))))
   refine zA rfl (kh rfl (kF (by omega)) ?_)
   refine kw rfl zDv (kh rfl (kF (by omega)) ?_)
   refine zf rfl rfl rfl sh3 h0 ?_
   refine kh rfl (kF (by omega)) ?_
   refine kp rfl (wj rfl rfl (kF (by omega)) ?_)
   refine yV rfl ty83 rfl rfl (by omega) (by omega) cl4 ?_
   refine yd rfl rfl sh4 hbl rfl ?_
   refine zC (k_region ?_)
   refine kz rfl (by unfold I64;omega) (zA rfl (zC ?_))
   exact⟨kk - 1,by omega,i+1,by omega,(by show [_,_,SB.box (D.set (0+((i:Nat):Int).toNat*1) (.bool (decide ((v:Int)<(n:Int)))))]=_;rw[hs]),.c4 rfl rfl rfl rfl (.n1 rfl)⟩
  ·rw[kG cz,Bool.false_and]at hs
   refine kQ (kp rfl (zC (k_seq (k_cT rfl (kF (by omega)) (zQ (k_seq (zM (kQ (zA rfl (wt rfl ty77 rfl rfl (Int.natCast_nonneg _) (by omega) cl3 sh3 ha ?_))))))))))
   refine zB rfl (zB rfl (zC (k_region (zA rfl (zA rfl (kp rfl (zA rfl (kg rfl (kG (by omega)) ?_))))))))
   refine kg rfl (kG (by omega)) ?_
   refine kg rfl (kG (by omega)) ?_
   refine kg rfl (kG (by omega)) ?_
   refine wA rfl rfl (kG (by omega)) ?_
   refine yV rfl ty83 rfl rfl (by omega) (by omega) cl4 ?_
   refine yd rfl rfl sh4 hbl rfl ?_
   refine zC ?_
   refine zI [(1,U.box 0 0),(2,U.box 1 0),(3,U.box 2 0),(7,U.agg C),(8,.int .i64 ↑i)] ([SB.box T,SB.box (zL (b16 fun x ↦ Bool.false)),SB.box (List.set D (0+Int.toNat ↑i*1) (.bool false))]) (.n5 rfl) rfl fun fr=>?_
   refine k_region ?_
   refine kz rfl (by unfold I64;omega) (zA rfl (zC ?_))
   exact⟨kk - 1,by omega,i+1,by omega,(by show [_,_,SB.box (D.set (0+((i:Nat):Int).toNat*1) (.bool false))]=_;rw[hs]),.c4 rfl rfl rfl rfl (.n1 rfl)⟩
 ·have hie:i=16:=by omega
  subst hie
  have hl:=hll 16
  rw[til_all]at hst2 hl
  have ho:=zBn (b16 (somF n c))
  have hd:=zBo (b16 (somF n c))
  refine zI _ _ hs2 hst2 fun fr2=>?_
  refine kQ (kp rfl (zC (k_seq (k_cF rfl rfl ?_))))
  refine yW (kQ (yD rfl rfl rfl sh83 hl ?_))
  refine wh rfl rfl sh83 rfl hl rfl rfl ho hd ?_
  refine zC (zg ?_)
  refine⟨.inr rfl,_,.cons _ _ _ _ (.cellN 2 83 _ _ _ _ rfl rfl sh83 rfl) .nil,?_⟩
  exact .refl _
end
section
variable {is:FuncId→Bool}{orc:Known}{l:Ln}
end
end Go.Proofs.YthhbfbmfhldbaaaDoor.locks
