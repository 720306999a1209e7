import Derived.Test.YthhbfbmfhldbaaaDoorVamT20
set_option linter.unusedVariables false
set_option linter.unusedSimpArgs false
set_option linter.constructorNameAsVariable false
namespace Go.Proofs.YthhbfbmfhldbaaaDoor.locks
open Vam
section
variable {is:FuncId→Bool}{orc:Known}{l:Ln}
end
section
variable {is:FuncId→Bool}{orc:Known}{l:Ln}
theorem zDv:zr Tryd.prog 79 0=some (0,3):=by kernel_rfl
theorem fld79_1:zr Tryd.prog 79 1=some (1,77):=by kernel_rfl
theorem ty77:tyOf Tryd.prog 77=.array 16 3:=by kernel_rfl
noncomputable def b96:Code:=(Tryd.f96.body).getD .skip
theorem body96:bodyOf Tryd.prog 96=some (30,b96,[]):=by kernel_rfl
theorem pure96:pureFn Tryd.prog 96=false:=by kernel_rfl
def tlC(n:Nat)(c:Nat→Nat):List U:=.int .i64 n::zD (i16 c)
theorem tl_len(n:Nat)(c:Nat→Nat):(tlC n c).length=17:=by unfold tlC;rw[List.length_cons,List.length_map,zDs]
theorem tl_at{n:Nat}{c:Nat→Nat}{i:Nat}(h:i<16):(tlC n c)[1+((i:Nat):Int).toNat*1]? =some (.int .i64 (c i:Nat)):=by
 unfold tlC
 rw[show 1+((i:Nat):Int).toNat*1=i+1 by simp;omega,List.getElem?_cons_succ]
 have:=ints_at (i16_at (f:=c) h)
 rw[show 0+((i:Nat):Int).toNat*1=i by simp]at this
 exact this
theorem tl_set{n:Nat}{c:Nat→Nat}{i v:Nat}:(tlC n c).set (1+((i:Nat):Int).toNat*1) (.int .i64 (v:Nat))=tlC n (fun k=>if k=i then v else c k):=by
 unfold tlC
 rw[show 1+((i:Nat):Int).toNat*1=i+1 by simp;omega,List.set_cons_succ,←i16_set]
 have:=ints_st (S:=i16 c) (i:=i) (v:=(v:Nat))
 rw[show 0+((i:Nat):Int).toNat*1=i by simp]at this
 rw[this]
theorem tl_dg(n:Nat)(c:Nat→Nat):(tlC n c).map dg=tlC n c:=by
 unfold tlC
 rw[List.map_cons,ints_dg];rfl
theorem tl_one(n:Nat)(c:Nat→Nat):(tlC n c).all oneU=true:=by
 rw[List.all_eq_true]
 intro x hx
 rcases List.mem_cons.1 hx with rfl|hx
 ·rfl
 ·obtain⟨b,_,rfl⟩:=List.mem_map.1 hx;rfl
def upC(f:Nat→Bool)(c:Nat→Nat)(i k:Nat):Nat:=if k<i∧f k=true then c k+1 else c k
theorem upC_zero(f:Nat→Bool)(c:Nat→Nat):upC f c 0=c:=by
 funext k;unfold upC;rw[if_neg (by omega)]
theorem upC_yes{f:Nat→Bool}{c:Nat→Nat}{i:Nat}(h:f i=true):(fun k=>if k=i then c i+1 else upC f c i k)=upC f c (i+1):=by
 funext k
 unfold upC
 by_cases e:k=i
 ·subst e;rw[if_pos rfl,if_pos ⟨by omega,h⟩]
 ·rw[if_neg e]
  by_cases e2:k<i∧f k=true
  ·rw[if_pos e2,if_pos ⟨by omega,e2.2⟩]
  ·rw[if_neg e2,if_neg (fun h3=>e2 ⟨by omega,h3.2⟩)]
theorem upC_no{f:Nat→Bool}{c:Nat→Nat}{i:Nat}(h:f i=false):upC f c (i+1)=upC f c i:=by
 funext k
 unfold upC
 by_cases e2:k<i∧f k=true
 ·rw[if_pos e2,if_pos ⟨by omega,e2.2⟩]
 ·rw[if_neg e2,if_neg]
  rintro⟨h1,h2⟩
  by_cases e:k=i
  ·subst e;rw[h]at h2;cases h2
  ·exact e2 ⟨by omega,h2⟩
set_option maxHeartbeats 16000000 in
theorem wpc96(hi:Off is){n:Nat}{c:Nat→Nat}{f:Nat→Bool}(hn:n<1000000)(hc:∀k,c k<1000000){ci:Nat}{st:List SB}(hb:st[ci]? =some (.box (tlC n c))):
  WpC Tryd.prog is orc 96 [.box ci 0,.agg (zL (b16 f))] st fun _ st'=>∃e,st'=(st.set ci (.box (tlC (n+1) (upC f c 16))))++e:=by
 have hci:=(List.getElem?_eq_some_iff.1 hb).1
 have hBd:=zBo (b16 f)
 have hl:(zL (b16 f)).length=16:=by unfold zL;rw[List.length_map,yG]
 have hat:∀i,i<16→(zL (b16 f))[((i:Nat):Int).toNat*1]? =some (.bool (f i)):=fun i h=>by
  rw[show((i:Nat):Int).toNat*1=i by simp];exact zDF (zDe h)
 obtain⟨B,hB⟩:∃B,B=zL (b16 f):=⟨_,rfl⟩
 rw[←hB]at hBd hl hat ⊢
 have hb2:(st++[SB.box B])[ci]? =some (.box (tlC n c)):=yp hb
 have hb3:(st.set ci (.box (tlC (n+1) c))++[SB.box B])[ci]? =some (.box (tlC (n+1) c)):=yp (at_eq hb)
 refine zEH body96 pure96 rfl rfl ?_
 refine kQ (zx rfl rfl (zC ?_))
 refine zI [(0,U.box ci 0),(3,U.box (List.length st) 0)] (st++[SB.box (List.map dg (zd (zN (initF (List.map dg [U.box ci 0,U.agg B]) st) (Go.Operand.tmp 1))))]) (.n2 rfl) rfl fun fr=>?_
 refine zI [(0,.box ci 0),(3,.box st.length 0)] (st++[.box B]) (.n2 rfl) (by show st++[SB.box (List.map dg B)]=_;rw[hBd]) fun fr=>?_
 have z0:(tlC n c)[0]? =some (.int .i64 n):=rfl
 refine kQ (zA rfl (zEo rfl rfl ?_))
 refine kw rfl zDv (zf rfl rfl hb2 sh3 z0 ?_)
 refine kz rfl (by unfold I64;omega) (zEo rfl rfl ?_)
 refine kw rfl zDv (yd rfl hb2 sh3 rfl rfl ?_)
 refine zC ?_
 refine zI [(0,U.box ci 0),(3,U.box (List.length st) 0)] (List.set (st++[SB.box B]) ci (SB.box (List.set (tlC n c) (0+0) (.int .i64 (↑n+(1:Int)))))) (.n2 rfl) rfl fun fr=>?_
 have hBat:∀x,(st.set ci x++[SB.box B])[st.length]? =some (.box B):=fun x=>by
  rw[List.getElem?_append_right (by rw[List.length_set];exact Nat.le_refl _),List.length_set,Nat.sub_self];rfl
 have hTat:∀i,(st.set ci (.box (tlC (n+1) (upC f c i)))++[SB.box B])[ci]? =some (.box (tlC (n+1) (upC f c i))):=fun i=>yp (at_eq hb)
 refine zI [(0,.box ci 0),(3,.box st.length 0)] (st.set ci (.box (tlC (n+1) (upC f c 0)))++[.box B]) (.n2 rfl) (by
  show(st++[SB.box B]).set ci (.box ((tlC n c).set 0 (.int .i64 ((n:Int)+1))))=_
  rw[List.set_append_left _ _ hci,upC_zero];rfl) fun fr=>?_
 have hB0:=hBat (.box (tlC (n+1) (upC f c 0)))
 refine kQ (yD rfl rfl hB0 sh83 hl ?_)
 refine zA rfl (zC ?_)
 refine zI [(0,U.box ci 0),(13,U.agg B),(14,.int .i64 0)] (List.set st ci (SB.box (tlC (n+1) (upC f c 0)))++[SB.box B]) (.n3 rfl) rfl fun fr=>?_
 refine zM ?_
 refine wC (fun kk s2=>∃i:Nat,kk+i=16∧s2.st=st.set ci (.box (tlC (n+1) (upC f c i)))++[.box B]∧Holds s2 [(0,.box ci 0),(13,.agg B),(14,.int .i64 i)]) (fun kk s2 hI=>?_) 16 _ ⟨0,rfl,rfl,.cons rfl (.n2 rfl)⟩
 obtain⟨i,hk,hst2,hs2⟩:=hI
 refine zI _ _ hs2 hst2 fun fr2=>?_
 by_cases hi16:i<16
 ·have hbi:=hat i hi16
  have hT:=hTat i
  have hta:=tl_at (n:=n+1) (c:=upC f c i) hi16
  have hbl:Nat.blt (1+((i:Nat):Int).toNat*1) (tlC (n+1) (upC f c i)).length=true:=by rw[Nat.blt_eq,tl_len];simp;omega
  have hup:upC f c i i=c i:=by unfold upC;rw[if_neg (by omega)]
  rw[hup]at hta
  have hci2:=hc i
  have hset:=tl_set (n:=n+1) (c:=upC f c i) (i:=i) (v:=c i+1)
  cases hf:f i with
  |true=>
   rw[hf]at hbi
   rw[upC_yes hf]at hset
   refine kQ (kp rfl (zC ?_))
   refine zI [(0,U.box ci 0),(13,U.agg B),(14,.int .i64 ↑i),(15,U.bool (decide (↑i<(16:Int))))] (List.set st ci (SB.box (tlC (n+1) (upC f c i)))++[SB.box B]) (.n4 rfl) rfl fun fr=>?_
   refine k_seq (k_cT rfl (kF (by omega)) (zQ (k_seq (zM (kQ (zA rfl (wt rfl ty83 rfl rfl (Int.natCast_nonneg _) (by omega) cl4 sh4 hbi ?_)))))))
   refine zB rfl (zB rfl (zC ?_))
   refine zI [(0,U.box ci 0),(4,.int .i64 ↑i),(5,.bool true),(13,U.agg B),(14,.int .i64 ↑i)] (List.set st ci (SB.box (tlC (n+1) (upC f c i)))++[SB.box B]) (.n5 rfl) rfl fun fr=>?_
   refine kQ (zA rfl (zC ?_))
   refine zI [(0,U.box ci 0),(4,.int .i64 ↑i),(13,U.agg B),(14,.int .i64 ↑i),(18,.bool true)] (List.set st ci (SB.box (tlC (n+1) (upC f c i)))++[SB.box B]) (.n5 rfl) rfl fun fr=>?_
   refine k_cT rfl rfl ?_
   refine zAR [.plain,.plain,.plain,.plain,.plain,.plain,.plain,.plain,.plain,.plain,.plain] (by kernel_rfl) (by kernel_rfl) (by kernel_rfl) ?_
   refine zE (zA rfl (zC rfl)) (zE (zA rfl (zC rfl)) (zE (zEo rfl rfl (zC rfl)) ?_))
   refine zE (kw rfl fld79_1 (zC rfl)) ?_
   refine zE (yV rfl ty77 rfl rfl (by omega) (by omega) cl3 (zC rfl)) ?_
   refine zE (zf rfl rfl hT sh3 hta (zC rfl)) ?_
   refine zE (kz rfl (by unfold I64;omega) (zC rfl)) ?_
   refine zE (zEo rfl rfl (zC rfl)) ?_
   refine zE (kw rfl fld79_1 (zC rfl)) ?_
   refine zE (yV rfl ty77 rfl rfl (by omega) (by omega) cl3 (zC rfl)) ?_
   refine zE (yd rfl hT sh3 hbl rfl (zC rfl)) ?_
   refine zBk ?_
   refine zI [(0,U.box ci 0),(13,U.agg B),(14,.int .i64 ↑i)] (List.set (List.set st ci (SB.box (tlC (n+1) (upC f c i)))++[SB.box B]) ci (SB.box (List.set (tlC (n+1) (upC f c i)) (0+1+Int.toNat ↑i*1) (.int .i64 (↑(c i)+(1:Int)))))) (.n3 rfl) rfl fun fr=>?_
   refine k_region ?_
   refine kz rfl (by unfold I64;omega) (zA rfl (zC ?_))
   exact⟨kk - 1,by omega,i+1,by omega,(by
    show(st.set ci (.box (tlC (n+1) (upC f c i)))++[SB.box B]).set ci (.box ((tlC (n+1) (upC f c i)).set (1+((i:Nat):Int).toNat*1) (.int .i64 ((c i+1:Nat):Int))))=_
    rw[hset,List.set_append_left _ _ (by rw[List.length_set];exact hci),List.set_set]),.cons rfl (.n2 rfl)⟩
  |false=>
   rw[hf]at hbi
   refine kQ (kp rfl (zC ?_))
   refine zI [(0,U.box ci 0),(13,U.agg B),(14,.int .i64 ↑i),(15,U.bool (decide (↑i<(16:Int))))] (List.set st ci (SB.box (tlC (n+1) (upC f c i)))++[SB.box B]) (.n4 rfl) rfl fun fr=>?_
   refine k_seq (k_cT rfl (kF (by omega)) (zQ (k_seq (zM (kQ (zA rfl (wt rfl ty83 rfl rfl (Int.natCast_nonneg _) (by omega) cl4 sh4 hbi ?_)))))))
   refine zB rfl (zB rfl (zC ?_))
   refine zI [(0,U.box ci 0),(4,.int .i64 ↑i),(5,.bool false),(13,U.agg B),(14,.int .i64 ↑i)] (List.set st ci (SB.box (tlC (n+1) (upC f c i)))++[SB.box B]) (.n5 rfl) rfl fun fr=>?_
   refine kQ (zA rfl (zC ?_))
   refine zI [(0,U.box ci 0),(4,.int .i64 ↑i),(13,U.agg B),(14,.int .i64 ↑i),(18,.bool false)] (List.set st ci (SB.box (tlC (n+1) (upC f c i)))++[SB.box B]) (.n5 rfl) rfl fun fr=>?_
   refine k_cF rfl rfl ?_
   refine zQ (k_region ?_)
   refine kz rfl (by unfold I64;omega) (zA rfl (zC ?_))
   exact⟨kk - 1,by omega,i+1,by omega,(by rw[upC_no hf];rfl),.cons rfl (.n2 rfl)⟩
 ·have hie:i=16:=by omega
  subst hie
  refine kQ (kp rfl (zC ?_))
  refine zI [(0,U.box ci 0),(13,U.agg B),(14,.int .i64 ↑16),(15,U.bool (decide (↑16<(16:Int))))] (List.set st ci (SB.box (tlC (n+1) (upC f c 16)))++[SB.box B]) (.n4 rfl) rfl fun fr=>?_
  refine k_seq (k_cF rfl rfl ?_)
  refine yW ?_
  exact⟨.inl rfl,_,.nil,_,.refl _,[.box B],rfl⟩
end
section
variable {is:FuncId→Bool}{orc:Known}{l:Ln}
theorem sh79:shOf Tryd.prog 79=.many 17:=by kernel_rfl
theorem ze79:yK Tryd.prog 79=some ((.cons (.int .i64 0) (.cons (.int .i64 0) (.cons (.int .i64 0) (.cons (.int .i64 0) (.cons (.int .i64 0) (.cons (.int .i64 0) (.cons (.int .i64 0) (.cons (.int .i64 0) (.cons (.int .i64 0) (.cons (.int .i64 0) (.cons (.int .i64 0) (.cons (.int .i64 0) (.cons (.int .i64 0) (.cons (.int .i64 0) (.cons (.int .i64 0) (.cons (.int .i64 0) (.cons (.int .i64 0) .nil))))))))))))))))):V):=by kernel_rfl
theorem bd_tl(n:Nat)(c:Nat→Nat)(m:Nat):BdS m (.box (tlC n c)):=fun x hx=>by
 rcases List.mem_cons.1 hx with rfl|hx
 ·exact Bd.int _ _ _
 ·obtain⟨b,_,rfl⟩:=List.mem_map.1 hx;exact Bd.int _ _ _
theorem spl_few(h:VL l):(splL l).length≤65536:=by
 have h1:=spl_len2 l l.slots.length []
 have h2:=Nat.pow_le_pow_right (show 0<2 by decide) h.n.2
 unfold splL
 omega
theorem dat_tl(n:Nat)(c:Nat→Nat)(k:Nat):Dat (k+2) (.agg (tlC n c)):=.agg _ _ fun x hx=>by
 rcases List.mem_cons.1 hx with rfl|hx
 ·exact .int _ _ _
 ·obtain⟨b,_,rfl⟩:=List.mem_map.1 hx;exact .int _ _ _
end
end Go.Proofs.YthhbfbmfhldbaaaDoor.locks
