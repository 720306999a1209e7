import Derived.Test.YthhbfbmfhldbaaaDoorVamT6
set_option linter.unusedVariables false
set_option linter.unusedSimpArgs false
set_option linter.constructorNameAsVariable false
namespace Go.Proofs.YthhbfbmfhldbaaaDoor.locks
open Vam
section
variable {is:FuncId→Bool}{orc:Known}{l:Ln}
end
section
variable {is:FuncId→Bool}{orc:Known}{l:Ln}
theorem cl83:Program.cellsOf Tryd.prog 83=16:=by kernel_rfl
theorem sh85:shOf Tryd.prog 85=.many 32:=by kernel_rfl
theorem ty85:tyOf Tryd.prog 85=.array 2 83:=by kernel_rfl
abbrev spU(f g:Nat→Bool):U:=.agg (zx (b16 f++b16 g))
end
section
variable {is:FuncId→Bool}{orc:Known}{l:Ln}
theorem zGB:yG Tryd.prog 75 1=some (4,22):=by kernel_rfl
theorem ze85:yM Tryd.prog 85=some ((.cons (.bool false) (.cons (.bool false) (.cons (.bool false) (.cons (.bool false) (.cons (.bool false) (.cons (.bool false) (.cons (.bool false) (.cons (.bool false) (.cons (.bool false) (.cons (.bool false) (.cons (.bool false) (.cons (.bool false) (.cons (.bool false) (.cons (.bool false) (.cons (.bool false) (.cons (.bool false) (.cons (.bool false) (.cons (.bool false) (.cons (.bool false) (.cons (.bool false) (.cons (.bool false) (.cons (.bool false) (.cons (.bool false) (.cons (.bool false) (.cons (.bool false) (.cons (.bool false) (.cons (.bool false) (.cons (.bool false) (.cons (.bool false) (.cons (.bool false) (.cons (.bool false) (.cons (.bool false) .nil)))))))))))))))))))))))))))))))):V):=by kernel_rfl
noncomputable def b73:Code:=(Tryd.f73.body).getD .skip
theorem body73:bodyOf Tryd.prog 73=some (28,b73,[.cell 2 85]):=by kernel_rfl
theorem pure73:pureFn Tryd.prog 73=true:=by kernel_rfl
abbrev zCM(l:Ln)(p:List Int):U:=.agg [.lst .ro 1 (zE l.slots),.int .i64 l.left,.int .i64 l.right,.int .i64 l.run,.lst .ro 1 (zE p)]
theorem zBJ(l:Ln)(p:List Int)(k:Nat):Dat (k+3) (zCM l p):=.agg _ _ fun c hc=>by
 simp only[List.mem_cons,List.not_mem_nil,or_false]at hc
 rcases hc with rfl|rfl|rfl|rfl|rfl
 ·exact ya k .ro (fun h=>by cases h) 1 _
 ·exact .int _ _ _
 ·exact .int _ _ _
 ·exact .int _ _ _
 ·exact ya k .ro (fun h=>by cases h) 1 _
def plF(p:List Int)(w:Int)(k:Nat):Bool:=decide (at' p k=w)
def upF(f:Nat→Bool)(i:Nat)(v:Bool)(k:Nat):Bool:=if k=i then v else f k
theorem set0{f g:Nat→Bool}{i:Nat}{v:Bool}(h:i<16):(b16 f++b16 g).set i v=b16 (upF f i v)++b16 g:=by
 rw[List.set_append_left _ _ (by rw[yp];exact h),b16_set];rfl
theorem set1{f g:Nat→Bool}{i:Nat}{v:Bool}:(b16 f++b16 g).set (16+i) v=b16 f++b16 (upF g i v):=by
 rw[List.set_append_right _ _ (by rw[yp];omega),yp,show 16+i - 16=i by omega,b16_set];rfl
def toF(p:List Int)(w:Int)(i k:Nat):Bool:=decide (k<i)&&plF p w k
theorem to_up{p:List Int}{w:Int}{i:Nat}:upF (toF p w i) i (plF p w i)=toF p w (i+1):=by
 funext k
 unfold upF toF
 by_cases e:k=i
 ·subst e;rw[if_pos rfl,kF (by omega),Bool.true_and]
 ·rw[if_neg e];congr 1;exact decide_eq_decide.2 (by omega)
theorem to_all{p:List Int}{w:Int}(hw:w≠ -1):toF p w p.length=plF p w:=by
 funext k
 unfold toF
 by_cases e:k<p.length
 ·rw[kF e,Bool.true_and]
 ·rw[kG e,Bool.false_and]
  unfold plF at'
  rw[List.getElem?_eq_none (by omega)]
  exact(kG fun h=>hw h.symm).symm
set_option maxHeartbeats 16000000 in
theorem ret73(hi:Off is)(l:Ln){p:List Int}(hp:p.length≤16):RetP Tryd.prog is orc 73 [zCM l p] (spU (plF p 0) (plF p 1)):=by
 refine yQ body73 pure73 (hi 73 (by decide)) rfl rfl (zAY (zBJ l p 5)) (.inl (zFS _ 6)) ?_
 refine kQ (yO rfl rfl (yP rfl ze85 ?_))
 refine zB ?_
 refine zH [(1,U.box 0 0),(2,U.box 1 0)] ([SB.box [.lst .ro 1 (zE (Ln.slots l)),.int .i64 (Ln.left l),.int .i64 (Ln.right l),.int .i64 (Ln.run l),.lst .ro 1 (zE p)],SB.box [.bool false,.bool false,.bool false,.bool false,.bool false,.bool false,.bool false,.bool false,.bool false,.bool false,.bool false,.bool false,.bool false,.bool false,.bool false,.bool false,.bool false,.bool false,.bool false,.bool false,.bool false,.bool false,.bool false,.bool false,.bool false,.bool false,.bool false,.bool false,.bool false,.bool false,.bool false,.bool false]]) (.n2 rfl) rfl fun fr=>?_
 refine kQ (yP rfl ze85 ?_)
 refine zB ?_
 refine zH [(1,U.box 0 0),(2,U.box 1 0),(3,U.box 2 0)] ([SB.box [.lst .ro 1 (zE (Ln.slots l)),.int .i64 (Ln.left l),.int .i64 (Ln.right l),.int .i64 (Ln.run l),.lst .ro 1 (zE p)],SB.box [.bool false,.bool false,.bool false,.bool false,.bool false,.bool false,.bool false,.bool false,.bool false,.bool false,.bool false,.bool false,.bool false,.bool false,.bool false,.bool false,.bool false,.bool false,.bool false,.bool false,.bool false,.bool false,.bool false,.bool false,.bool false,.bool false,.bool false,.bool false,.bool false,.bool false,.bool false,.bool false],SB.box [.bool false,.bool false,.bool false,.bool false,.bool false,.bool false,.bool false,.bool false,.bool false,.bool false,.bool false,.bool false,.bool false,.bool false,.bool false,.bool false,.bool false,.bool false,.bool false,.bool false,.bool false,.bool false,.bool false,.bool false,.bool false,.bool false,.bool false,.bool false,.bool false,.bool false,.bool false,.bool false]]) (.n3 rfl) rfl fun fr=>?_
 refine k_seq (kQ (kw rfl zGB (kA sh22 rfl (zw rfl ty22 rfl (List.length_map _) ?_))))
 refine zA rfl (zB (zI ?_))
 refine ym (fun kk s2=>∃i:Nat,kk+i=p.length∧s2.st=[.box [.lst .ro 1 (zE l.slots),.int .i64 l.left,.int .i64 l.right,.int .i64 l.run,.lst .ro 1 (zE p)],.box (zx (b16 (fun _=>false)++b16 fun _=>false)),.box (zx (b16 (toF p 0 i)++b16 (toF p 1 i)))]∧Holds s2 [(2,.box 1 0),(3,.box 2 0),(8,.lst .ro 1 (zE p)),(9,.int .i64 p.length),(10,.int .i64 i)]) (fun kk s2 hI=>?_) p.length _ ⟨0,rfl,rfl,.c4 rfl rfl rfl rfl (.n1 rfl)⟩
 obtain⟨i,hk,hst2,hs2⟩:=hI
 by_cases hin:i<p.length
 ·obtain⟨x,hx⟩:∃x,p[i]? =some x:=⟨p[i],List.getElem?_eq_getElem hin⟩
  have ha:at' p i=x:=by unfold at';rw[hx];rfl
  have hb0:(fun v=>v=decide (x=0)) (plF p 0 i):=by show plF p 0 i=_;unfold plF;rw[ha]
  have hb1:(fun v=>v=decide (x=1)) (plF p 1 i):=by show plF p 1 i=_;unfold plF;rw[ha]
  have hC0:(b16 (toF p 0 i)++b16 (toF p 1 i)).length=32:=by rw[List.length_append,yp,yp]
  obtain⟨C,hC⟩:∃C,C=b16 (toF p 0 i)++b16 (toF p 1 i):=⟨_,rfl⟩
  rw[←hC]at hst2 hC0
  refine zH _ _ hs2 hst2 fun fr2=>?_
  refine kQ (kp rfl (zB (k_seq (k_cT rfl (kF (by omega)) (zL (k_seq (zI (kQ (zA rfl (yJ (u:=.int .i64 (x)) rfl ty22 rfl rfl (Int.natCast_nonneg _) (by simp[hx]) cl3 ?_))))))))))
  refine kC sh3 rfl ?_
  refine zC rfl (zC rfl (zB (kQ (zA rfl (zB (zI ?_))))))
  refine ym (fun mm s3=>∃(j:Nat) (D:List Bool),mm+j=2∧D.length=32∧D=(if j=0 then C else if j=1 then C.set i (decide (x=0))else(C.set i (decide (x=0))).set (16+i) (decide (x=1)))∧s3.st=[.box [.lst .ro 1 (zE l.slots),.int .i64 l.left,.int .i64 l.right,.int .i64 l.run,.lst .ro 1 (zE p)],.box (zx (b16 (fun _=>false)++b16 fun _=>false)),.box (zx D)]∧Holds s3 [(2,.box 1 0),(3,.box 2 0),(4,.int .i64 i),(5,.int .i64 x),(8,.lst .ro 1 (zE p)),(9,.int .i64 p.length),(10,.int .i64 i),(15,.int .i64 j)]) (fun mm s3 hJ=>?_) 2 _ ⟨0,C,rfl,hC0,rfl,rfl,.c4 rfl rfl rfl rfl (.n4 rfl)⟩
  obtain⟨j,D,hj,hD,hDe,hst3,hs3⟩:=hJ
  have hj3:j=0∨j=1∨j=2:=by omega
  rcases hj3 with rfl|rfl|rfl
  ·have hbl:Nat.blt (0+((0:Nat):Int).toNat*16+(i:Int).toNat*1) (zx D).length=true:=by rw[Nat.blt_eq];simp[hD];omega
   have hgo:(zx D).set (0+((0:Nat):Int).toNat*16+(i:Int).toNat*1) (.bool (decide (x=((0:Nat):Int))))=zx (D.set i (decide (x=0))):=by
    rw[show 0+((0:Nat):Int).toNat*16+(i:Int).toNat*1=i by simp,bols_set];rfl
   refine zH _ _ hs3 hst3 fun fr3=>?_
   refine kQ (kp rfl (zB (k_seq (k_cT rfl rfl ?_))))
   refine zL (k_seq (zI (kQ (zA rfl (zC rfl (zB (k_region (zA rfl (zA rfl (zA rfl (zA rfl (ks rfl (wn rfl ty85 rfl rfl (by omega) (by omega) cl83 ?_)))))))))))))
   refine wn rfl ty83 rfl rfl (by omega) (by omega) cl4 ?_
   refine wL rfl rfl sh4 hbl rfl ?_
   refine zB ?_
   refine zH [(2,U.box 1 0),(3,U.box 2 0),(4,.int .i64 ↑i),(5,.int .i64 x),(8,.lst .ro 1 (zE p)),(9,.int .i64 ↑(List.length p)),(10,.int .i64 ↑i),(15,.int .i64 ↑0)] ([SB.box [.lst .ro 1 (zE (Ln.slots l)),.int .i64 (Ln.left l),.int .i64 (Ln.right l),.int .i64 (Ln.run l),.lst .ro 1 (zE p)],SB.box (zx ((b16 fun x ↦ Bool.false)++b16 fun x ↦ Bool.false)),SB.box (List.set (zx D) (0+Int.toNat ↑0*16+Int.toNat ↑i*1) (U.bool (decide (x= ↑0))))]) (.n8 rfl) rfl fun fr=>?_
   refine k_region ?_
   refine kz rfl (by unfold I64;omega) (zA rfl (zB ?_))
   exact⟨mm - 1,by omega,1,D.set i (decide (x=0)),by omega,by rw[List.length_set];exact hD,by rw[hDe];rfl,(by show [_,_,SB.box ((zx D).set (0+((0:Nat):Int).toNat*16+(i:Int).toNat*1) (.bool (decide (x=((0:Nat):Int)))))]=[_,_,_];rw[hgo]),.c4 rfl rfl rfl rfl (.n4 rfl)⟩
  ·have hbl:Nat.blt (0+((1:Nat):Int).toNat*16+(i:Int).toNat*1) (zx D).length=true:=by rw[Nat.blt_eq];simp[hD];omega
   have hgo:(zx D).set (0+((1:Nat):Int).toNat*16+(i:Int).toNat*1) (.bool (decide (x=((1:Nat):Int))))=zx (D.set (16+i) (decide (x=1))):=by
    rw[show 0+((1:Nat):Int).toNat*16+(i:Int).toNat*1=16+i by simp,bols_set];rfl
   refine zH _ _ hs3 hst3 fun fr3=>?_
   refine kQ (kp rfl (zB (k_seq (k_cT rfl rfl ?_))))
   refine zL (k_seq (zI (kQ (zA rfl (zC rfl (zB (k_region (zA rfl (zA rfl (zA rfl (zA rfl (ks rfl (wn rfl ty85 rfl rfl (by omega) (by omega) cl83 ?_)))))))))))))
   refine wn rfl ty83 rfl rfl (by omega) (by omega) cl4 ?_
   refine wL rfl rfl sh4 hbl rfl ?_
   refine zB ?_
   refine zH [(2,U.box 1 0),(3,U.box 2 0),(4,.int .i64 ↑i),(5,.int .i64 x),(8,.lst .ro 1 (zE p)),(9,.int .i64 ↑(List.length p)),(10,.int .i64 ↑i),(15,.int .i64 ↑1)] ([SB.box [.lst .ro 1 (zE (Ln.slots l)),.int .i64 (Ln.left l),.int .i64 (Ln.right l),.int .i64 (Ln.run l),.lst .ro 1 (zE p)],SB.box (zx ((b16 fun x ↦ Bool.false)++b16 fun x ↦ Bool.false)),SB.box (List.set (zx D) (0+Int.toNat ↑1*16+Int.toNat ↑i*1) (U.bool (decide (x= ↑1))))]) (.n8 rfl) rfl fun fr=>?_
   refine k_region ?_
   refine kz rfl (by unfold I64;omega) (zA rfl (zB ?_))
   exact⟨mm - 1,by omega,2,D.set (16+i) (decide (x=1)),by omega,by rw[List.length_set];exact hD,by rw[hDe];rfl,(by show [_,_,SB.box ((zx D).set (0+((1:Nat):Int).toNat*16+(i:Int).toNat*1) (.bool (decide (x=((1:Nat):Int)))))]=[_,_,_];rw[hgo]),.c4 rfl rfl rfl rfl (.n4 rfl)⟩
  ·have hDf:D=b16 (toF p 0 (i+1))++b16 (toF p 1 (i+1)):=by
    have hDe:D=(C.set i (decide (x=0))).set (16+i) (decide (x=1)):=hDe
    rw[hDe,hC,←hb0,←hb1,set0 (by omega),set1,to_up,to_up]
   refine zH _ _ hs3 hst3 fun fr3=>?_
   refine kQ (kp rfl (zB (k_seq (k_cF rfl rfl ?_))))
   refine yK (k_region ?_)
   refine kz rfl (by unfold I64;omega) (zA rfl (zB ?_))
   exact⟨kk - 1,by omega,i+1,by omega,(by show [_,_,SB.box (zx D)]=_;rw[hDf]),.c4 rfl rfl rfl rfl (.n1 rfl)⟩
 ·have hie:i=p.length:=by omega
  have e0:toF p 0 i=plF p 0:=by rw[hie];exact to_all (by decide)
  have e1:toF p 1 i=plF p 1:=by rw[hie];exact to_all (by decide)
  rw[e0,e1]at hst2
  clear e0 e1
  unfold spU
  have hs0:=yp (plF p 0)
  have hs1:=yp (plF p 1)
  generalize b16 (plF p 0)=S0 at*
  generalize b16 (plF p 1)=S1 at*
  obtain⟨a0,a1,a2,a3,a4,a5,a6,a7,a8,a9,a10,a11,a12,a13,a14,a15,rfl⟩:=len16 hs0
  obtain⟨b0,b1,b2,b3,b4,b5,b6,b7,b8,b9,b10,b11,b12,b13,b14,b15,rfl⟩:=len16 hs1
  refine zH _ _ hs2 hst2 fun fr2=>?_
  refine kQ (kp rfl (zB (k_seq (k_cF rfl (kG (by omega)) (yK (kQ (kB sh85 rfl (yX rfl rfl sh85 rfl rfl rfl rfl rfl ?_))))))))
  refine zB (zc ?_)
  refine⟨.inr rfl,_,.cons _ _ _ _ (.cellN 2 85 _ _ _ _ rfl rfl sh85 rfl) .nil,?_⟩
  exact .refl _
  done
end
section
variable {is:FuncId→Bool}{orc:Known}{l:Ln}
theorem pl75:zGS Tryd.prog 75=some [(0,4),(4,1)]:=by kernel_rfl
theorem sh73:shOf Tryd.prog 73=.many 4:=by kernel_rfl
theorem sh75:shOf Tryd.prog 75=.many 5:=by kernel_rfl
theorem ze75:yM Tryd.prog 75=some ((.cons .nils (.cons (.int .i64 0) (.cons (.int .i64 0) (.cons (.int .i64 0) (.cons .nils .nil))))):V):=by kernel_rfl
theorem flat_bols(S:List Bool):FlatU (.agg (zx S)):=.agg _ fun c hc=>by
 obtain⟨x,_,rfl⟩:=List.mem_map.1 hc
 exact .bool _
end
end Go.Proofs.YthhbfbmfhldbaaaDoor.locks
