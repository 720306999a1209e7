import Derived.Test.YthhbfbmfhldbaaaDoorVamT21
set_option linter.unusedVariables false
set_option linter.unusedSimpArgs false
set_option linter.constructorNameAsVariable false
namespace Go.Proofs.YthhbfbmfhldbaaaDoor.locks
open Vam
section
variable {is:FuncId→Bool}{orc:Known}{l:Ln}
theorem sh77:shOf Tryd.prog 77=.many 16:=by kernel_rfl
noncomputable def b68:Code:=(Tryd.f68.body).getD .skip
theorem body68:bodyOf Tryd.prog 68=some (24,b68,[.cell 2 83]):=by kernel_rfl
theorem pure68:pureFn Tryd.prog 68=true:=by kernel_rfl
theorem tl_parts(n:Nat)(c:Nat→Nat):tlC n c=[.int .i64 n]++(zE (i16 c)++[]):=by rw[List.append_nil];rfl
def tilF(P:Nat→Bool)(i k:Nat):Bool:=decide (k<i)&&P k
theorem til_zero(P:Nat→Bool):tilF P 0=fun _=>false:=by funext k;unfold tilF;rw[kG (by omega)];rfl
theorem til_up{P:Nat→Bool}{i:Nat}:(fun k=>if k=i then P i else tilF P i k)=tilF P (i+1):=by
 funext k
 unfold tilF
 by_cases e:k=i
 ·subst e;rw[if_pos rfl,kF (by omega)];rfl
 ·rw[if_neg e,decide_eq_decide.2 (show k<i↔k<i+1 by omega)]
theorem til_all(P:Nat→Bool):b16 (tilF P 16)=b16 P:=zCa fun k hk=>by unfold tilF;rw[kF hk];rfl
def somF(n:Nat)(c:Nat→Nat)(k:Nat):Bool:=decide (0<c k)&&decide (c k<n)
set_option maxHeartbeats 16000000 in
theorem ret68(hi:Off is)(n:Nat)(c:Nat→Nat):RetP Tryd.prog is orc 68 [.agg (tlC n c)] (.agg (zK (b16 (somF n c)))):=by
 refine zw body68 pure68 (hi 68 (by decide)) rfl rfl (wA (dat_tl _ _ 6)) (.inl (yy _ 6)) ?_
 have hp:=tl_parts n c
 have hli:(zE (i16 c)).length=16:=by rw[List.length_map,zFo]
 have hdg:=tl_dg n c
 have h0:(tlC n c)[0]? =some (.int .i64 n):=rfl
 have hat:∀i,i<16→(zE (i16 c))[((i:Nat):Int).toNat*1]? =some (.int .i64 (c i:Nat)):=fun i h=>by
  have:=ints_at (i16_at (f:=c) h)
  rw[show 0+((i:Nat):Int).toNat*1=((i:Nat):Int).toNat*1 by omega]at this;exact this
 have hst:∀i,((zK (b16 (tilF (somF n c) i))).set (0+((i:Nat):Int).toNat*1) (.bool (decide (0<((c i:Nat):Int))&&decide (((c i:Nat):Int)<(n:Int)))))=zK (b16 (tilF (somF n c) (i+1))):=fun i=>by
  rw[bols_st,zFz,←til_up]
  rw[show(decide (0<((c i:Nat):Int))&&decide (((c i:Nat):Int)<(n:Int)))=somF n c i by unfold somF;rw[decide_eq_decide.2 (show 0<((c i:Nat):Int)↔0<c i by omega),decide_eq_decide.2 (show((c i:Nat):Int)<(n:Int)↔c i<n by omega)]]
 have hll:∀i,(zK (b16 (tilF (somF n c) i))).length=16:=fun i=>by unfold zK;rw[List.length_map,zl]
 generalize zE (i16 c)=C at*
 generalize hT:tlC n c=T at*
 have y0:([.box T,.box (zK (b16 fun _=>false)),.box (zK (b16 (tilF (somF n c) 0)))]:List SB)[0]? =some (.box ([.int .i64 n]++(C++[]))):=by rw[hp];rfl
 refine kQ (zk rfl rfl (yL rfl ze83 ?_))
 refine zB ?_
 refine zH [(1,U.box 0 0),(2,U.box 1 0)] ([SB.box (List.map dg (zZ (zP (St.init [U.agg T]) (Go.Operand.tmp 0)))),SB.box [.bool false,.bool false,.bool false,.bool false,.bool false,.bool false,.bool false,.bool false,.bool false,.bool false,.bool false,.bool false,.bool false,.bool false,.bool false,.bool false]]) (.n2 rfl) rfl fun fr=>?_
 refine kQ (yL rfl ze83 ?_)
 refine zB ?_
 refine zH [(1,U.box 0 0),(2,U.box 1 0),(3,U.box 2 0)] ([SB.box (List.map dg (zZ (zP (St.init [U.agg T]) (Go.Operand.tmp (0:Go.Tmp))))),SB.box [.bool false,.bool false,.bool false,.bool false,.bool false,.bool false,.bool false,.bool false,.bool false,.bool false,.bool false,.bool false,.bool false,.bool false,.bool false,.bool false],SB.box [.bool false,.bool false,.bool false,.bool false,.bool false,.bool false,.bool false,.bool false,.bool false,.bool false,.bool false,.bool false,.bool false,.bool false,.bool false,.bool false]]) (.n3 rfl) rfl fun fr=>?_
 refine zH [(1,.box 0 0),(2,.box 1 0),(3,.box 2 0)] [.box T,.box (zK (b16 fun _=>false)),.box (zK (b16 (tilF (somF n c) 0)))] (.n3 rfl) (by
  show [SB.box (List.map dg T),_,_]=_
  rw[hdg,til_zero];rfl) fun fr=>?_
 refine k_seq (kQ (kw rfl fld79_1 (o_loadP rfl rfl y0 sh77 rfl hli ?_)))
 refine zC rfl (zB (zI ?_))
 refine yX (fun kk s2=>∃i:Nat,kk+i=16∧s2.st=[.box T,.box (zK (b16 fun _=>false)),.box (zK (b16 (tilF (somF n c) i)))]∧Holds s2 [(1,.box 0 0),(2,.box 1 0),(3,.box 2 0),(7,.agg C),(8,.int .i64 i)]) (fun kk s2 hI=>?_) 16 _ ⟨0,rfl,rfl,.c4 rfl rfl rfl rfl (.n1 rfl)⟩
 obtain⟨i,hk,hst2,hs2⟩:=hI
 by_cases hin:i<16
 ·have ha:=hat i hin
  have hs:=hst i
  have hl:=hll i
  have hbl:Nat.blt (0+((i:Nat):Int).toNat*1) (zK (b16 (tilF (somF n c) i))).length=true:=by rw[Nat.blt_eq,hl];simp;omega
  generalize c i=v at*
  generalize zK (b16 (tilF (somF n c) i))=D at*
  refine zH _ _ hs2 hst2 fun fr2=>?_
  by_cases cz:0<(v:Int)
  ·rw[kF cz,Bool.true_and]at hs
   refine kQ (kp rfl (zB (k_seq (k_cT rfl (kF (by omega)) (zL (k_seq (zI (kQ (zC rfl (wX rfl ty77 rfl rfl (Int.natCast_nonneg _) (by omega) cl3 sh3 ha ?_))))))))))
   refine zA rfl (zA rfl (zB (k_region (zC rfl (zC rfl (kp rfl (zC rfl (kh rfl (kF (by omega)) ?_))))))))
   refine zC rfl (kh rfl (kF (by omega)) ?_)
   refine kw rfl zEF (kh rfl (kF (by omega)) ?_)
   refine zx rfl rfl rfl sh3 h0 ?_
   refine kh rfl (kF (by omega)) ?_
   refine kp rfl (wq rfl rfl (kF (by omega)) ?_)
   refine yW rfl ty83 rfl rfl (by omega) (by omega) cl4 ?_
   refine wO rfl rfl sh4 hbl rfl ?_
   refine zB (k_region ?_)
   refine kz rfl (by unfold I64;omega) (zC rfl (zB ?_))
   exact⟨kk - 1,by omega,i+1,by omega,(by show [_,_,SB.box (D.set (0+((i:Nat):Int).toNat*1) (.bool (decide ((v:Int)<(n:Int)))))]=_;rw[hs]),.c4 rfl rfl rfl rfl (.n1 rfl)⟩
  ·rw[kG cz,Bool.false_and]at hs
   refine kQ (kp rfl (zB (k_seq (k_cT rfl (kF (by omega)) (zL (k_seq (zI (kQ (zC rfl (wX rfl ty77 rfl rfl (Int.natCast_nonneg _) (by omega) cl3 sh3 ha ?_))))))))))
   refine zA rfl (zA rfl (zB (k_region (zC rfl (zC rfl (kp rfl (zC rfl (kg rfl (kG (by omega)) ?_))))))))
   refine kg rfl (kG (by omega)) ?_
   refine kg rfl (kG (by omega)) ?_
   refine kg rfl (kG (by omega)) ?_
   refine zAO rfl rfl (kG (by omega)) ?_
   refine yW rfl ty83 rfl rfl (by omega) (by omega) cl4 ?_
   refine wO rfl rfl sh4 hbl rfl ?_
   refine zB ?_
   refine zH [(1,U.box 0 0),(2,U.box 1 0),(3,U.box 2 0),(7,U.agg C),(8,.int .i64 ↑i)] ([SB.box T,SB.box (zK (b16 fun x ↦ Bool.false)),SB.box (List.set D (0+Int.toNat ↑i*1) (.bool false))]) (.n5 rfl) rfl fun fr=>?_
   refine k_region ?_
   refine kz rfl (by unfold I64;omega) (zC rfl (zB ?_))
   exact⟨kk - 1,by omega,i+1,by omega,(by show [_,_,SB.box (D.set (0+((i:Nat):Int).toNat*1) (.bool false))]=_;rw[hs]),.c4 rfl rfl rfl rfl (.n1 rfl)⟩
 ·have hie:i=16:=by omega
  subst hie
  have hl:=hll 16
  rw[til_all]at hst2 hl
  have ho:=zCv (b16 (somF n c))
  have hd:=zBU (b16 (somF n c))
  refine zH _ _ hs2 hst2 fun fr2=>?_
  refine kQ (kp rfl (zB (k_seq (k_cF rfl rfl ?_))))
  refine zj (kQ (yn rfl rfl rfl sh83 hl ?_))
  refine zBE rfl rfl sh83 rfl hl rfl rfl ho hd ?_
  refine zB (zV ?_)
  refine⟨.inr rfl,_,.cons _ _ _ _ (.cellN 2 83 _ _ _ _ rfl rfl sh83 rfl) .nil,?_⟩
  exact .refl _
end
section
variable {is:FuncId→Bool}{orc:Known}{l:Ln}
noncomputable def b24:Code:=(Tryd.f24.body).getD .skip
theorem body24:bodyOf Tryd.prog 24=some (24,b24,[.tmp 2,.tmp 3]):=by kernel_rfl
theorem pure24:pureFn Tryd.prog 24=true:=by kernel_rfl
noncomputable def fcF(l:Ln):Nat→Bool:=woF (strF l) (somF (splL l).length (cntL (splL l)))
noncomputable def forE(l:Ln):Int:=if zz l=true then if(splL l).length=0 then 4 else 0 else 70
noncomputable def forR(l:Ln):List Int:=if forE l=0 then memP (fcF l) 16 else []
theorem flat_tl(n:Nat)(c:Nat→Nat):FlatU (.agg (tlC n c)):=.agg _ fun x hx=>by
 rcases List.mem_cons.1 hx with rfl|hx
 ·exact .int _ _
 ·obtain⟨b,_,rfl⟩:=List.mem_map.1 hx;exact .int _ _
set_option maxHeartbeats 16000000 in
theorem ret24(hi:Off is)(l:Ln):RetP Tryd.prog is orc 24 [l.u] (.tup [.lst .ro 1 (zE (forR l)),.int .i64 (forE l)]):=by
 refine zw body24 pure24 (hi 24 (by decide)) rfl rfl (wA (yk l 5)) (.inr ⟨_,rfl,yq (yG 5 .ro (fun h=>by cases h) 1 _) (.int _ _ _)⟩) ?_
 have q56:=ask0 (orc:=orc) hi l
 have hE:forE l=if zz l=true then if(splL l).length=0 then 4 else 0 else 70:=rfl
 have hR:forR l=if forE l=0 then memP (fcF l) 16 else []:=rfl
 cases hv:zz l with
 |false=>
  rw[hv,if_neg (by decide)]at hE q56
  rw[hE,if_neg (by decide)]at hR
  rw[hE,hR]
  refine kQ (zk rfl rfl (zA rfl (zA rfl (zB ?_))))
  refine zH [(1,U.box 0 0)] ([SB.box [.lst .ro 1 (zE (Ln.slots l)),.int .i64 (Ln.left l),.int .i64 (Ln.right l),.int .i64 (Ln.run l)]]) (.n1 rfl) rfl fun fr=>?_
  refine k_seq (kQ (kB sh24 rfl (zN rfl (q56) (.lcons _ _ _ _ (.refl _) (.lcons _ _ _ _ (.nil .full .ro 1) (.lrefl _))) ?_)))
  refine zA rfl (zB (kQ (zC rfl (kr rfl (zB (k_cT rfl rfl ?_))))))
  refine kQ (zC rfl (zA rfl (zA rfl (zB (zV ?_)))))
  refine⟨.inr rfl,_,.cons _ _ _ _ (.tmp 2) (.cons _ _ _ _ (.tmp 3) .nil),?_⟩
  exact .tup _ _ (.lcons _ _ _ _ (.nil .full .ro 1) (.lrefl _))
 |true=>
  have h:=yl.1 hv
  have hn:=h.n
  rw[hv,if_pos rfl]at hE q56
  have q61:=ret61 (orc:=orc) hi h
  have q66:=ret66 (orc:=orc) (l:=l) hi hn.2
  have q68:=ret68 (orc:=orc) hi (splL l).length (cntL (splL l))
  have q69:=ret69 (orc:=orc) hi (fcF l)
  have hl:=tl_len (splL l).length (cntL (splL l))
  have ho:=tl_one (splL l).length (cntL (splL l))
  have hd:=tl_dg (splL l).length (cntL (splL l))
  have hz:(tlC (splL l).length (cntL (splL l)))[0]? =some (.int .i64 ((splL l).length:Nat)):=rfl
  have fl:=flat_tl (splL l).length (cntL (splL l))
  have q67:RetP Tryd.prog is orc 67 [.agg (zK (b16 (strF l))),.agg (zK (b16 (somF (splL l).length (cntL (splL l)))))] (.agg (zK (b16 (fcF l)))):=ret67 hi (strF l) (somF (splL l).length (cntL (splL l)))
  have fs:=zDh (b16 (strF l))
  generalize tlC (splL l).length (cntL (splL l))=K at*
  generalize zK (b16 (somF (splL l).length (cntL (splL l))))=A1 at*
  generalize zK (b16 (strF l))=A2 at*
  generalize zK (b16 (fcF l))=A3 at*
  generalize memP (fcF l) 16=F at*
  generalize (splL l).length=n at*
  by_cases c:n=0
  ·subst c
   rw[if_pos rfl]at hE
   rw[hE,if_neg (by decide)]at hR
   rw[hE,hR]
   refine kQ (zk rfl rfl (zA rfl (zA rfl (zB ?_))))
   refine zH [(1,U.box 0 0)] ([SB.box [.lst .ro 1 (zE (Ln.slots l)),.int .i64 (Ln.left l),.int .i64 (Ln.right l),.int .i64 (Ln.run l)]]) (.n1 rfl) rfl fun fr=>?_
   refine k_seq (kQ (kB sh24 rfl (zN rfl (q56) (.lcons _ _ _ _ (.refl _) (.lcons _ _ _ _ (.nil .full .ro 1) (.lrefl _))) ?_)))
   refine zA rfl (zB (kQ (zC rfl (kr rfl (zB (k_cF rfl rfl ?_))))))
   refine zL (kQ (kB sh24 rfl (we rfl ze73 pl73 rfl rfl ?_)))
   refine zN rfl (q61) (.lrefl _) (yL rfl ze79 ?_)
   refine zBE rfl (wI _ _) sh79 rfl hl rfl rfl ho hd ?_
   refine zB ?_
   refine zH [(1,U.box 0 0),(5,U.box 1 0)] ([SB.box [.lst .ro 1 (zE (Ln.slots l)),.int .i64 (Ln.left l),.int .i64 (Ln.right l),.int .i64 (Ln.run l)],SB.box K]) (.n2 rfl) rfl fun fr=>?_
   refine k_seq (kQ (kw rfl zEF (zx rfl rfl rfl sh3 hz ?_)))
   refine ks rfl (zB (k_cT rfl rfl ?_))
   refine kQ (zA rfl (zA rfl (zB (zV ?_))))
   refine⟨.inr rfl,_,.cons _ _ _ _ (.tmp 2) (.cons _ _ _ _ (.tmp 3) .nil),?_⟩
   exact .tup _ _ (.lcons _ _ _ _ (.nil .full .ro 1) (.lrefl _))
  ·rw[if_neg c]at hE
   rw[hE,if_pos rfl]at hR
   rw[hE,hR]
   refine kQ (zk rfl rfl (zA rfl (zA rfl (zB ?_))))
   refine zH [(1,U.box 0 0)] ([SB.box [.lst .ro 1 (zE (Ln.slots l)),.int .i64 (Ln.left l),.int .i64 (Ln.right l),.int .i64 (Ln.run l)]]) (.n1 rfl) rfl fun fr=>?_
   refine k_seq (kQ (kB sh24 rfl (zN rfl (q56) (.lcons _ _ _ _ (.refl _) (.lcons _ _ _ _ (.nil .full .ro 1) (.lrefl _))) ?_)))
   refine zA rfl (zB (kQ (zC rfl (kr rfl (zB (k_cF rfl rfl ?_))))))
   refine zL (kQ (kB sh24 rfl (we rfl ze73 pl73 rfl rfl ?_)))
   refine zN rfl (q61) (.lrefl _) (yL rfl ze79 ?_)
   refine zBE rfl (wI _ _) sh79 rfl hl rfl rfl ho hd ?_
   refine zB ?_
   refine zH [(1,U.box 0 0),(5,U.box 1 0)] ([SB.box [.lst .ro 1 (zE (Ln.slots l)),.int .i64 (Ln.left l),.int .i64 (Ln.right l),.int .i64 (Ln.run l)],SB.box K]) (.n2 rfl) rfl fun fr=>?_
   refine k_seq (kQ (kw rfl zEF (zx rfl rfl rfl sh3 hz ?_)))
   refine ks rfl (zB (k_cF rfl (kG (by omega)) (zL (k_seq (yf [.read true,.plain,.read false,.read true,.plain,.plain,.plain,.plain,.plain] (by kernel_rfl) (by kernel_rfl) (by kernel_rfl) ?_)))))
   refine zf rfl (kB sh24 rfl (zB rfl)) ?_
   refine zD (we rfl ze73 pl73 rfl rfl (zB rfl)) ?_
   refine zCY rfl (q66) fs (.lrefl _) ?_
   refine zf rfl (yn rfl rfl rfl sh79 hl (zB rfl)) ?_
   refine zD (zN rfl (q68) (.lrefl _) (zB rfl)) ?_
   refine zD (zN rfl (q67) (.lrefl _) (zB rfl)) ?_
   refine zD (zN rfl (q69) (.lrefl _) (zB rfl)) ?_
   refine zD (zA rfl (zB rfl)) ?_
   refine zD (zA rfl (zB rfl)) ?_
   refine wm ?_
   refine zV ?_
   refine⟨.inr rfl,_,.cons _ _ _ _ (.tmp 2) (.cons _ _ _ _ (.tmp 3) .nil),?_⟩
   exact .refl _
end
end Go.Proofs.YthhbfbmfhldbaaaDoor.locks
