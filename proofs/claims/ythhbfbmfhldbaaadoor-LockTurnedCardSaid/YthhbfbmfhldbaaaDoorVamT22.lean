import Derived.Test.YthhbfbmfhldbaaaDoorVamT21
set_option linter.unusedVariables false
set_option linter.unusedSimpArgs false
set_option linter.constructorNameAsVariable false
namespace Go.Proofs.YthhbfbmfhldbaaaDoor.locks
open Vam
section
variable {is:FuncId→Bool}{orc:Known}{l:Ln}
theorem sh77:shOf Tryd.prog 77=.many 16:=by kernel_rfl
noncomputable def b68:Code:=(Tryd.f68.body).getD .skip
theorem body68:bodyOf Tryd.prog 68=some (24,b68,[.cell 2 83]):=by kernel_rfl
theorem pure68:pureFn Tryd.prog 68=true:=by kernel_rfl
theorem tl_parts(n:Nat)(c:Nat→Nat):tlC n c=[.int .i64 n]++(zF (i16 c)++[]):=by rw[List.append_nil];rfl
def tilF(P:Nat→Bool)(i k:Nat):Bool:=decide (k<i)&&P k
theorem til_zero(P:Nat→Bool):tilF P 0=fun _=>false:=by funext k;unfold tilF;rw[kG (by omega)];rfl
theorem til_up{P:Nat→Bool}{i:Nat}:(fun k=>if k=i then P i else tilF P i k)=tilF P (i+1):=by
 funext k
 unfold tilF
 by_cases e:k=i
 ·subst e;rw[if_pos rfl,kF (by omega)];rfl
 ·rw[if_neg e,decide_eq_decide.2 (show k<i↔k<i+1 by omega)]
theorem til_all(P:Nat→Bool):b16 (tilF P 16)=b16 P:=zCZ fun k hk=>by unfold tilF;rw[kF hk];rfl
def somF(n:Nat)(c:Nat→Nat)(k:Nat):Bool:=decide (0<c k)&&decide (c k<n)
set_option maxHeartbeats 16000000 in
theorem ret68(hi:Off is)(n:Nat)(c:Nat→Nat):RetP Tryd.prog is orc 68 [.agg (tlC n c)] (.agg (zJ (b16 (somF n c)))):=by
 refine yY body68 pure68 (hi 68 (by decide)) rfl rfl (wt (dat_tl _ _ 6)) (.inl (wE _ 6)) ?_
 have hp:=tl_parts n c
 have hli:(zF (i16 c)).length=16:=by rw[List.length_map,zFl]
 have hdg:=tl_dg n c
 have h0:(tlC n c)[0]? =some (.int .i64 n):=rfl
 have hat:∀i,i<16→(zF (i16 c))[((i:Nat):Int).toNat*1]? =some (.int .i64 (c i:Nat)):=fun i h=>by
  have:=ints_at (i16_at (f:=c) h)
  rw[show 0+((i:Nat):Int).toNat*1=((i:Nat):Int).toNat*1 by omega]at this;exact this
 have hst:∀i,((zJ (b16 (tilF (somF n c) i))).set (0+((i:Nat):Int).toNat*1) (.bool (decide (0<((c i:Nat):Int))&&decide (((c i:Nat):Int)<(n:Int)))))=zJ (b16 (tilF (somF n c) (i+1))):=fun i=>by
  rw[bols_st,zFw,←til_up]
  rw[show(decide (0<((c i:Nat):Int))&&decide (((c i:Nat):Int)<(n:Int)))=somF n c i by unfold somF;rw[decide_eq_decide.2 (show 0<((c i:Nat):Int)↔0<c i by omega),decide_eq_decide.2 (show((c i:Nat):Int)<(n:Int)↔c i<n by omega)]]
 have hll:∀i,(zJ (b16 (tilF (somF n c) i))).length=16:=fun i=>by unfold zJ;rw[List.length_map,zw]
 generalize zF (i16 c)=C at*
 generalize hT:tlC n c=T at*
 have y0:([.box T,.box (zJ (b16 fun _=>false)),.box (zJ (b16 (tilF (somF n c) 0)))]:List SB)[0]? =some (.box ([.int .i64 n]++(C++[]))):=by rw[hp];rfl
 refine kQ (yG rfl rfl (yQ rfl ze83 ?_))
 refine zA ?_
 refine zM [(1,U.box 0 0),(2,U.box 1 0)] ([SB.box (List.map dg (zZ (zL (St.init [U.agg T]) (Go.Operand.tmp 0)))),SB.box [.bool false,.bool false,.bool false,.bool false,.bool false,.bool false,.bool false,.bool false,.bool false,.bool false,.bool false,.bool false,.bool false,.bool false,.bool false,.bool false]]) (.n2 rfl) rfl fun fr=>?_
 refine kQ (yQ rfl ze83 ?_)
 refine zA ?_
 refine zM [(1,U.box 0 0),(2,U.box 1 0),(3,U.box 2 0)] ([SB.box (List.map dg (zZ (zL (St.init [U.agg T]) (Go.Operand.tmp (0:Go.Tmp))))),SB.box [.bool false,.bool false,.bool false,.bool false,.bool false,.bool false,.bool false,.bool false,.bool false,.bool false,.bool false,.bool false,.bool false,.bool false,.bool false,.bool false],SB.box [.bool false,.bool false,.bool false,.bool false,.bool false,.bool false,.bool false,.bool false,.bool false,.bool false,.bool false,.bool false,.bool false,.bool false,.bool false,.bool false]]) (.n3 rfl) rfl fun fr=>?_
 refine zM [(1,.box 0 0),(2,.box 1 0),(3,.box 2 0)] [.box T,.box (zJ (b16 fun _=>false)),.box (zJ (b16 (tilF (somF n c) 0)))] (.n3 rfl) (by
  show [SB.box (List.map dg T),_,_]=_
  rw[hdg,til_zero];rfl) fun fr=>?_
 refine k_seq (kQ (kw rfl fld79_1 (o_loadP rfl rfl y0 sh77 rfl hli ?_)))
 refine zC rfl (zA (zO ?_))
 refine wZ (fun kk s2=>∃i:Nat,kk+i=16∧s2.st=[.box T,.box (zJ (b16 fun _=>false)),.box (zJ (b16 (tilF (somF n c) i)))]∧Holds s2 [(1,.box 0 0),(2,.box 1 0),(3,.box 2 0),(7,.agg C),(8,.int .i64 i)]) (fun kk s2 hI=>?_) 16 _ ⟨0,rfl,rfl,.c4 rfl rfl rfl rfl (.n1 rfl)⟩
 obtain⟨i,hk,hst2,hs2⟩:=hI
 by_cases hin:i<16
 ·have ha:=hat i hin
  have hs:=hst i
  have hl:=hll i
  have hbl:Nat.blt (0+((i:Nat):Int).toNat*1) (zJ (b16 (tilF (somF n c) i))).length=true:=by rw[Nat.blt_eq,hl];simp;omega
  generalize c i=v at*
  generalize zJ (b16 (tilF (somF n c) i))=D at*
  refine zM _ _ hs2 hst2 fun fr2=>?_
  by_cases cz:0<(v:Int)
  ·rw[kF cz,Bool.true_and]at hs
   refine kQ (kp rfl (zA (k_seq (k_cT rfl (kF (by omega)) (zU (k_seq (zO (kQ (zC rfl (zAS rfl ty77 rfl rfl (Int.natCast_nonneg _) (by omega) cl3 sh3 ha ?_))))))))))
   refine zB rfl (zB rfl (zA (k_region (zC rfl (zC rfl (kp rfl (zC rfl (kh rfl (kF (by omega)) ?_))))))))
   refine zC rfl (kh rfl (kF (by omega)) ?_)
   refine kw rfl zEE (kh rfl (kF (by omega)) ?_)
   refine zo rfl rfl rfl sh3 h0 ?_
   refine kh rfl (kF (by omega)) ?_
   refine kp rfl (wj rfl rfl (kF (by omega)) ?_)
   refine yV rfl ty83 rfl rfl (by omega) (by omega) cl4 ?_
   refine ye rfl rfl sh4 hbl rfl ?_
   refine zA (k_region ?_)
   refine kz rfl (by unfold I64;omega) (zC rfl (zA ?_))
   exact⟨kk - 1,by omega,i+1,by omega,(by show [_,_,SB.box (D.set (0+((i:Nat):Int).toNat*1) (.bool (decide ((v:Int)<(n:Int)))))]=_;rw[hs]),.c4 rfl rfl rfl rfl (.n1 rfl)⟩
  ·rw[kG cz,Bool.false_and]at hs
   refine kQ (kp rfl (zA (k_seq (k_cT rfl (kF (by omega)) (zU (k_seq (zO (kQ (zC rfl (zAS rfl ty77 rfl rfl (Int.natCast_nonneg _) (by omega) cl3 sh3 ha ?_))))))))))
   refine zB rfl (zB rfl (zA (k_region (zC rfl (zC rfl (kp rfl (zC rfl (kg rfl (kG (by omega)) ?_))))))))
   refine kg rfl (kG (by omega)) ?_
   refine kg rfl (kG (by omega)) ?_
   refine kg rfl (kG (by omega)) ?_
   refine zBJ rfl rfl (kG (by omega)) ?_
   refine yV rfl ty83 rfl rfl (by omega) (by omega) cl4 ?_
   refine ye rfl rfl sh4 hbl rfl ?_
   refine zA ?_
   refine zM [(1,U.box 0 0),(2,U.box 1 0),(3,U.box 2 0),(7,U.agg C),(8,.int .i64 ↑i)] ([SB.box T,SB.box (zJ (b16 fun x ↦ Bool.false)),SB.box (List.set D (0+Int.toNat ↑i*1) (.bool false))]) (.n5 rfl) rfl fun fr=>?_
   refine k_region ?_
   refine kz rfl (by unfold I64;omega) (zC rfl (zA ?_))
   exact⟨kk - 1,by omega,i+1,by omega,(by show [_,_,SB.box (D.set (0+((i:Nat):Int).toNat*1) (.bool false))]=_;rw[hs]),.c4 rfl rfl rfl rfl (.n1 rfl)⟩
 ·have hie:i=16:=by omega
  subst hie
  have hl:=hll 16
  rw[til_all]at hst2 hl
  have ho:=zCt (b16 (somF n c))
  have hd:=zBO (b16 (somF n c))
  refine zM _ _ hs2 hst2 fun fr2=>?_
  refine kQ (kp rfl (zA (k_seq (k_cF rfl rfl ?_))))
  refine yW (kQ (yg rfl rfl rfl sh83 hl ?_))
  refine zBB rfl rfl sh83 rfl hl rfl rfl ho hd ?_
  refine zA (zk ?_)
  refine⟨.inr rfl,_,.cons _ _ _ _ (.cellN 2 83 _ _ _ _ rfl rfl sh83 rfl) .nil,?_⟩
  exact .refl _
end
section
variable {is:FuncId→Bool}{orc:Known}{l:Ln}
noncomputable def b24:Code:=(Tryd.f24.body).getD .skip
theorem body24:bodyOf Tryd.prog 24=some (24,b24,[.tmp 2,.tmp 3]):=by kernel_rfl
theorem pure24:pureFn Tryd.prog 24=true:=by kernel_rfl
noncomputable def fcF(l:Ln):Nat→Bool:=woF (strF l) (somF (splL l).length (cntL (splL l)))
noncomputable def forE(l:Ln):Int:=if yz l=true then if(splL l).length=0 then 4 else 0 else 70
noncomputable def forR(l:Ln):List Int:=if forE l=0 then memP (fcF l) 16 else []
theorem flat_tl(n:Nat)(c:Nat→Nat):FlatU (.agg (tlC n c)):=.agg _ fun x hx=>by
 rcases List.mem_cons.1 hx with rfl|hx
 ·exact .int _ _
 ·obtain⟨b,_,rfl⟩:=List.mem_map.1 hx;exact .int _ _
set_option maxHeartbeats 16000000 in
theorem ret24(hi:Off is)(l:Ln):RetP Tryd.prog is orc 24 [l.u] (.tup [.lst .ro 1 (zF (forR l)),.int .i64 (forE l)]):=by
 refine yY body24 pure24 (hi 24 (by decide)) rfl rfl (wt (wq l 5)) (.inr ⟨_,rfl,zAs (wp 5 .ro (fun h=>by cases h) 1 _) (.int _ _ _)⟩) ?_
 have q56:=ask0 (orc:=orc) hi l
 have hE:forE l=if yz l=true then if(splL l).length=0 then 4 else 0 else 70:=rfl
 have hR:forR l=if forE l=0 then memP (fcF l) 16 else []:=rfl
 cases hv:yz l with
 |false=>
  rw[hv,if_neg (by decide)]at hE q56
  rw[hE,if_neg (by decide)]at hR
  rw[hE,hR]
  refine kQ (yG rfl rfl (zB rfl (zB rfl (zA ?_))))
  refine zM [(1,U.box 0 0)] ([SB.box [.lst .ro 1 (zF (Ln.slots l)),.int .i64 (Ln.left l),.int .i64 (Ln.right l),.int .i64 (Ln.run l)]]) (.n1 rfl) rfl fun fr=>?_
  refine k_seq (kQ (kB sh24 rfl (zQ rfl (q56) (.lcons _ _ _ _ (.refl _) (.lcons _ _ _ _ (.nil .full .ro 1) (.lrefl _))) ?_)))
  refine zB rfl (zA (kQ (zC rfl (kr rfl (zA (k_cT rfl rfl ?_))))))
  refine kQ (zC rfl (zB rfl (zB rfl (zA (zk ?_)))))
  refine⟨.inr rfl,_,.cons _ _ _ _ (.tmp 2) (.cons _ _ _ _ (.tmp 3) .nil),?_⟩
  exact .tup _ _ (.lcons _ _ _ _ (.nil .full .ro 1) (.lrefl _))
 |true=>
  have h:=wF.1 hv
  have hn:=h.n
  rw[hv,if_pos rfl]at hE q56
  have q61:=ret61 (orc:=orc) hi h
  have q66:=ret66 (orc:=orc) (l:=l) hi hn.2
  have q68:=ret68 (orc:=orc) hi (splL l).length (cntL (splL l))
  have q69:=ret69 (orc:=orc) hi (fcF l)
  have hl:=tl_len (splL l).length (cntL (splL l))
  have ho:=tl_one (splL l).length (cntL (splL l))
  have hd:=tl_dg (splL l).length (cntL (splL l))
  have hz:(tlC (splL l).length (cntL (splL l)))[0]? =some (.int .i64 ((splL l).length:Nat)):=rfl
  have fl:=flat_tl (splL l).length (cntL (splL l))
  have q67:RetP Tryd.prog is orc 67 [.agg (zJ (b16 (strF l))),.agg (zJ (b16 (somF (splL l).length (cntL (splL l)))))] (.agg (zJ (b16 (fcF l)))):=ret67 hi (strF l) (somF (splL l).length (cntL (splL l)))
  have fs:=zFp (b16 (strF l))
  generalize tlC (splL l).length (cntL (splL l))=K at*
  generalize zJ (b16 (somF (splL l).length (cntL (splL l))))=A1 at*
  generalize zJ (b16 (strF l))=A2 at*
  generalize zJ (b16 (fcF l))=A3 at*
  generalize memP (fcF l) 16=F at*
  generalize (splL l).length=n at*
  by_cases c:n=0
  ·subst c
   rw[if_pos rfl]at hE
   rw[hE,if_neg (by decide)]at hR
   rw[hE,hR]
   refine kQ (yG rfl rfl (zB rfl (zB rfl (zA ?_))))
   refine zM [(1,U.box 0 0)] ([SB.box [.lst .ro 1 (zF (Ln.slots l)),.int .i64 (Ln.left l),.int .i64 (Ln.right l),.int .i64 (Ln.run l)]]) (.n1 rfl) rfl fun fr=>?_
   refine k_seq (kQ (kB sh24 rfl (zQ rfl (q56) (.lcons _ _ _ _ (.refl _) (.lcons _ _ _ _ (.nil .full .ro 1) (.lrefl _))) ?_)))
   refine zB rfl (zA (kQ (zC rfl (kr rfl (zA (k_cF rfl rfl ?_))))))
   refine zU (kQ (kB sh24 rfl (zAE rfl ze73 pl73 rfl rfl ?_)))
   refine zQ rfl (q61) (.lrefl _) (yQ rfl ze79 ?_)
   refine zBB rfl (wJ _ _) sh79 rfl hl rfl rfl ho hd ?_
   refine zA ?_
   refine zM [(1,U.box 0 0),(5,U.box 1 0)] ([SB.box [.lst .ro 1 (zF (Ln.slots l)),.int .i64 (Ln.left l),.int .i64 (Ln.right l),.int .i64 (Ln.run l)],SB.box K]) (.n2 rfl) rfl fun fr=>?_
   refine k_seq (kQ (kw rfl zEE (zo rfl rfl rfl sh3 hz ?_)))
   refine ks rfl (zA (k_cT rfl rfl ?_))
   refine kQ (zB rfl (zB rfl (zA (zk ?_))))
   refine⟨.inr rfl,_,.cons _ _ _ _ (.tmp 2) (.cons _ _ _ _ (.tmp 3) .nil),?_⟩
   exact .tup _ _ (.lcons _ _ _ _ (.nil .full .ro 1) (.lrefl _))
  ·rw[if_neg c]at hE
   rw[hE,if_pos rfl]at hR
   rw[hE,hR]
   refine kQ (yG rfl rfl (zB rfl (zB rfl (zA ?_))))
   refine zM [(1,U.box 0 0)] ([SB.box [.lst .ro 1 (zF (Ln.slots l)),.int .i64 (Ln.left l),.int .i64 (Ln.right l),.int .i64 (Ln.run l)]]) (.n1 rfl) rfl fun fr=>?_
   refine k_seq (kQ (kB sh24 rfl (zQ rfl (q56) (.lcons _ _ _ _ (.refl _) (.lcons _ _ _ _ (.nil .full .ro 1) (.lrefl _))) ?_)))
   refine zB rfl (zA (kQ (zC rfl (kr rfl (zA (k_cF rfl rfl ?_))))))
   refine zU (kQ (kB sh24 rfl (zAE rfl ze73 pl73 rfl rfl ?_)))
   refine zQ rfl (q61) (.lrefl _) (yQ rfl ze79 ?_)
   refine zBB rfl (wJ _ _) sh79 rfl hl rfl rfl ho hd ?_
   refine zA ?_
   refine zM [(1,U.box 0 0),(5,U.box 1 0)] ([SB.box [.lst .ro 1 (zF (Ln.slots l)),.int .i64 (Ln.left l),.int .i64 (Ln.right l),.int .i64 (Ln.run l)],SB.box K]) (.n2 rfl) rfl fun fr=>?_
   refine k_seq (kQ (kw rfl zEE (zo rfl rfl rfl sh3 hz ?_)))
   refine ks rfl (zA (k_cF rfl (kG (by omega)) (zU (k_seq (wa [.read true,.plain,.read false,.read true,.plain,.plain,.plain,.plain,.plain] (by kernel_rfl) (by kernel_rfl) (by kernel_rfl) ?_)))))
   refine yM rfl (kB sh24 rfl (zA rfl)) ?_
   refine zD (zAE rfl ze73 pl73 rfl rfl (zA rfl)) ?_
   refine zFu rfl (q66) fs (.lrefl _) ?_
   refine yM rfl (yg rfl rfl rfl sh79 hl (zA rfl)) ?_
   refine zD (zQ rfl (q68) (.lrefl _) (zA rfl)) ?_
   refine zD (zQ rfl (q67) (.lrefl _) (zA rfl)) ?_
   refine zD (zQ rfl (q69) (.lrefl _) (zA rfl)) ?_
   refine zD (zB rfl (zA rfl)) ?_
   refine zD (zB rfl (zA rfl)) ?_
   refine zAt ?_
   refine zk ?_
   refine⟨.inr rfl,_,.cons _ _ _ _ (.tmp 2) (.cons _ _ _ _ (.tmp 3) .nil),?_⟩
   exact .refl _
end
end Go.Proofs.YthhbfbmfhldbaaaDoor.locks
