import Derived.Test.YthhbfbmfhldbaaaDoorVamT1
set_option linter.unusedVariables false
set_option linter.unusedSimpArgs false
set_option linter.constructorNameAsVariable false
namespace Go.Proofs.YthhbfbmfhldbaaaDoor.locks
open Vam
variable {is:FuncId→Bool}{orc:Known}{l:Ln}
theorem cl4:Program.cellsOf Tryd.prog 4=1:=by kernel_rfl
theorem zS:zp Tryd.prog 24 0=some (0,22):=by kernel_rfl
theorem yR:zp Tryd.prog 73 0=some (0,24):=by kernel_rfl
theorem sh22:shOf Tryd.prog 22=.one:=by kernel_rfl
theorem sh4:shOf Tryd.prog 4=.one:=by kernel_rfl
theorem sh83:shOf Tryd.prog 83=.many 16:=by kernel_rfl
theorem ty83:tyOf Tryd.prog 83=.array 16 4:=by kernel_rfl
theorem ze83:yM Tryd.prog 83=some ((.cons (.bool false) (.cons (.bool false) (.cons (.bool false) (.cons (.bool false) (.cons (.bool false) (.cons (.bool false) (.cons (.bool false) (.cons (.bool false) (.cons (.bool false) (.cons (.bool false) (.cons (.bool false) (.cons (.bool false) (.cons (.bool false) (.cons (.bool false) (.cons (.bool false) (.cons (.bool false) .nil)))))))))))))))):V):=by kernel_rfl
noncomputable def b66:Code:=(Tryd.f66.body).getD .skip
theorem body66:bodyOf Tryd.prog 66=some (21,b66,[.cell 2 83]):=by kernel_rfl
theorem pure66:pureFn Tryd.prog 66=true:=by kernel_rfl
theorem cl99:Program.cellsOf Tryd.prog 99=2:=by kernel_rfl
theorem zCW:zp Tryd.prog 24 1=some (1,3):=by kernel_rfl
theorem zEG:zp Tryd.prog 24 2=some (2,3):=by kernel_rfl
theorem zAA:zp Tryd.prog 24 3=some (3,3):=by kernel_rfl
theorem pl73:zFV Tryd.prog 73=some [(0,4)]:=by kernel_rfl
theorem pl83:zFV Tryd.prog 83=some [(0,1),(1,1),(2,1),(3,1),(4,1),(5,1),(6,1),(7,1),(8,1),(9,1),(10,1),(11,1),(12,1),(13,1),(14,1),(15,1)]:=by kernel_rfl
theorem sh24:shOf Tryd.prog 24=.many 4:=by kernel_rfl
theorem sh99:shOf Tryd.prog 99=.many 2:=by kernel_rfl
theorem zDo:tyOf Tryd.prog 100=.array 7 99:=by kernel_rfl
theorem ze73:yM Tryd.prog 73=some ((.cons .nils (.cons (.int .i64 0) (.cons (.int .i64 0) (.cons (.int .i64 0) .nil)))):V):=by kernel_rfl
noncomputable def b60:Code:=(Tryd.f60.body).getD .skip
theorem body60:bodyOf Tryd.prog 60=some (52,b60,[.tmp 2]):=by kernel_rfl
theorem pure60:pureFn Tryd.prog 60=true:=by kernel_rfl
noncomputable def b17:Code:=(Tryd.f17.body).getD .skip
theorem body17:bodyOf Tryd.prog 17=some (6,b17,[.tmp 2]):=by kernel_rfl
theorem pure17:pureFn Tryd.prog 17=true:=by kernel_rfl
abbrev zK(S:List Bool):List U:=S.map fun b=>.bool b
theorem yy(S:List Bool)(k:Nat):Dat (k+2) (.agg (zK S)):=.agg _ _ fun c hc=>by
 obtain⟨x,_,rfl⟩:=List.mem_map.1 hc
 exact .bool _ _
abbrev Ln.cs(l:Ln):List U:=[.lst .ro 1 (zE l.slots),.int .i64 l.left,.int .i64 l.right,.int .i64 l.run]
abbrev Ln.u(l:Ln):U:=.agg l.cs
theorem dat_lncs(l:Ln)(k:Nat):∀c∈l.cs,Dat (k+2) c:=dat_l4 (yG k .ro (fun h=>by cases h) 1 _) (.int _ _ _) (.int _ _ _) (.int _ _ _)
theorem yk(l:Ln)(k:Nat):Dat (k+3) l.u:=.agg _ _ (dat_lncs l k)
def b16(f:Nat→Bool):List Bool:=(List.range 16).map f
theorem zl(f:Nat→Bool):(b16 f).length=16:=by simp[b16]
theorem zCb{f:Nat→Bool}{i:Nat}(h:i<16):(b16 f)[i]? =some (f i):=by
 unfold b16;rw[List.getElem?_map,List.getElem?_range h];rfl
theorem zCa{f g:Nat→Bool}(h:∀i,i<16→f i=g i):b16 f=b16 g:=List.map_congr_left fun i hi=>h i (List.mem_range.1 hi)
theorem zFz{f:Nat→Bool}{i:Nat}{v:Bool}:(b16 f).set i v=b16 fun k=>if k=i then v else f k:=by
 apply List.ext_getElem?
 intro k
 by_cases hk:k<16
 ·rw[zCb hk]
  by_cases e:k=i
  ·subst e
   rw[List.getElem?_set_self (by rw[zl];exact hk),if_pos rfl]
  ·rw[List.getElem?_set_ne (fun h=>e h.symm),zCb hk,if_neg e]
 ·rw[List.getElem?_eq_none (by rw[List.length_set,zl];omega),List.getElem?_eq_none (by rw[zl];omega)]
theorem zFI{S:List Bool}{i:Nat}{v:Bool}:(zK S).set i (.bool v)=zK (S.set i v):=by
 exact(List.map_set (f:=fun b=>U.bool b)).symm
theorem bols_st{S:List Bool}{i:Nat}{v:Bool}:(zK S).set (0+(i:Int).toNat*1) (.bool v)=zK (S.set i v):=by
 rw[show 0+(i:Int).toNat*1=i by omega,zFI]
theorem zBw{S:List Bool}{i:Nat}{v:Bool}(h:S[i]? =some v):(zK S)[i]? =some (.bool v):=by
 show(S.map _)[i]? =_;rw[List.getElem?_map,h];rfl
theorem zDb{S:List Bool}(h:S.length=16):∃a0 a1 a2 a3 a4 a5 a6 a7 a8 a9 a10 a11 a12 a13 a14 a15:Bool,S=[a0,a1,a2,a3,a4,a5,a6,a7,a8,a9,a10,a11,a12,a13,a14,a15]:=by
 match S,h with
 |[a0,a1,a2,a3,a4,a5,a6,a7,a8,a9,a10,a11,a12,a13,a14,a15],_=>exact⟨a0,a1,a2,a3,a4,a5,a6,a7,a8,a9,a10,a11,a12,a13,a14,a15,rfl⟩
def strF(l:Ln)(i:Nat):Bool:= !decide (at' l.slots i= -1)
set_option maxHeartbeats 8000000 in
theorem ret66(hi:Off is)(hn:l.slots.length≤16):RetP Tryd.prog is orc 66 [l.u] (.agg (zK (b16 (strF l)))):=by
 refine zw body66 pure66 (hi 66 (by decide)) rfl rfl (wA (yk l 5)) (.inl (yy _ 6)) ?_
 refine kQ (zk rfl rfl (yL rfl ze83 ?_))
 refine zB ?_
 refine zH [(1,U.box 0 0),(2,U.box 1 0)] ([SB.box [.lst .ro 1 (zE (Ln.slots l)),.int .i64 (Ln.left l),.int .i64 (Ln.right l),.int .i64 (Ln.run l)],SB.box [.bool false,.bool false,.bool false,.bool false,.bool false,.bool false,.bool false,.bool false,.bool false,.bool false,.bool false,.bool false,.bool false,.bool false,.bool false,.bool false]]) (.n2 rfl) rfl fun fr=>?_
 refine kQ (yL rfl ze83 ?_)
 refine zB ?_
 refine zH [(1,U.box 0 0),(2,U.box 1 0),(3,U.box 2 0)] ([SB.box [.lst .ro 1 (zE (Ln.slots l)),.int .i64 (Ln.left l),.int .i64 (Ln.right l),.int .i64 (Ln.run l)],SB.box [.bool false,.bool false,.bool false,.bool false,.bool false,.bool false,.bool false,.bool false,.bool false,.bool false,.bool false,.bool false,.bool false,.bool false,.bool false,.bool false],SB.box [.bool false,.bool false,.bool false,.bool false,.bool false,.bool false,.bool false,.bool false,.bool false,.bool false,.bool false,.bool false,.bool false,.bool false,.bool false,.bool false]]) (.n3 rfl) rfl fun fr=>?_
 refine k_seq (kQ (kw rfl yR (kw rfl zS (kA sh22 rfl (zq rfl ty22 rfl (List.length_map _) ?_)))))
 refine zC rfl (zB (zI ?_))
 refine yX (fun kk s2=>∃i:Nat,kk+i=l.slots.length∧s2.st=[.box l.cs,.box (zK (b16 fun _=>false)),.box (zK (b16 fun k=>decide (k<i)&&strF l k))]∧Holds s2 [(2,.box 1 0),(3,.box 2 0),(8,.lst .ro 1 (zE l.slots)),(9,.int .i64 l.slots.length),(10,.int .i64 i)]) (fun kk s2 hI=>?_) l.slots.length _ ⟨0,rfl,rfl,.c4 rfl rfl rfl rfl (.n1 rfl)⟩
 obtain⟨i,hk,hst2,hs2⟩:=hI
 obtain⟨S,hS⟩:∃S,S=b16 fun k=>decide (k<i)&&strF l k:=⟨_,rfl⟩
 have hSl:S.length=16:=by rw[hS,zl]
 rw[←hS]at hst2
 refine zH _ _ hs2 hst2 fun fr2=>?_
 by_cases hin:i<l.slots.length
 ·obtain⟨x,hx⟩:∃x,l.slots[i]? =some x:=⟨l.slots[i],List.getElem?_eq_getElem hin⟩
  have hsx:strF l i= !decide (x= -1):=by unfold strF at';rw[hx];rfl
  have hbl:Nat.blt (0+(i:Int).toNat*1) (zK S).length=true:=by rw[Nat.blt_eq];simp[hSl];omega
  have hsu:S.set i (decide (x≠ -1))=b16 fun k=>decide (k<i+1)&&strF l k:=by
   rw[hS,zFz]
   refine zCa fun k _=>?_
   by_cases e:k=i
   ·subst e;rw[if_pos rfl,hsx,kF (show k<k+1 by omega),Bool.true_and];simp
   ·rw[if_neg e];congr 1;exact decide_eq_decide.2 (by omega)
  refine kQ (kp rfl (zB (k_seq (k_cT rfl (kF (by omega)) (zL (k_seq (zI (kQ (zC rfl (yA (u:=.int .i64 (x)) rfl ty22 rfl rfl (Int.natCast_nonneg _) (by simp[hx]) cl3 ?_))))))))))
  refine kC sh3 rfl ?_
  refine zA rfl (zA rfl (zB (k_region (zC rfl (zC rfl (kr rfl (yW rfl ty83 rfl rfl (by omega) (by omega) cl4 ?_)))))))
  refine wO rfl rfl sh4 hbl rfl ?_
  refine zB ?_
  refine zH [(2,U.box 1 0),(3,U.box 2 0),(8,.lst .ro 1 (zE (Ln.slots l))),(9,.int .i64 ↑(List.length (Ln.slots l))),(10,.int .i64 ↑i)] ([SB.box (Ln.cs l),SB.box (zK (b16 fun x ↦ Bool.false)),SB.box (List.set (zK S) (0+Int.toNat ↑i*1) (U.bool (decide (x≠(-1:Int)))))]) (.n5 rfl) rfl fun fr=>?_
  refine k_region ?_
  refine kz rfl (by unfold I64;omega) (zC rfl (zB ?_))
  exact⟨kk - 1,by omega,i+1,by omega,(by show [_,_,SB.box ((zK S).set (0+(i:Int).toNat*1) (.bool (decide (x≠ -1))))]=[_,_,_];rw[bols_st,hsu]),.c4 rfl rfl rfl rfl (.n1 rfl)⟩
 ·have hie:i=l.slots.length:=by omega
  have hSe:S=b16 (strF l):=by
   rw[hS]
   refine zCa fun k _=>?_
   by_cases e:k<i
   ·rw[kF e,Bool.true_and]
   ·rw[kG e,Bool.false_and]
    unfold strF at'
    rw[List.getElem?_eq_none (by omega)];rfl
  rw[←hSe]
  clear hS hSe
  obtain⟨a0,a1,a2,a3,a4,a5,a6,a7,a8,a9,a10,a11,a12,a13,a14,a15,rfl⟩:=zDb hSl
  refine kQ (kp rfl (zB (k_seq (k_cF rfl (kG (by omega)) (zj (kQ (kB sh83 rfl (yY rfl rfl sh83 rfl rfl rfl rfl rfl ?_))))))))
  refine zB (zV ?_)
  refine⟨.inr rfl,_,.cons _ _ _ _ (.cellN 2 83 _ _ _ _ rfl rfl sh83 rfl) .nil,?_⟩
  exact .refl _
  done
noncomputable def chn:List Bool→Option Bool
 |[]=>some true
 |b::l=>Vam.cond (bEq b false) (chn l) (some false)
theorem chn_eq:∀S:List Bool,chn S=some (!S.any id):=by
 intro S
 induction S with
 |nil=>rfl
 |cons b S ih=>
  unfold chn
  rw[ih]
  cases b<;>rfl
theorem ne16{S:List Bool}(h:S.length=16):binV Tryd.prog 83 .neq (valK (.agg (zK S))) (valK (.agg (zK (b16 fun _=>false))))=some (.bool (S.any id)):=by
 obtain⟨a0,a1,a2,a3,a4,a5,a6,a7,a8,a9,a10,a11,a12,a13,a14,a15,rfl⟩:=zDb h
 have h:binV Tryd.prog 83 .neq (valK (.agg (zK [a0,a1,a2,a3,a4,a5,a6,a7,a8,a9,a10,a11,a12,a13,a14,a15]))) (valK (.agg (zK (b16 fun _=>false))))=opt none (fun x=>some (V.bool (!x))) (chn [a0,a1,a2,a3,a4,a5,a6,a7,a8,a9,a10,a11,a12,a13,a14,a15]):=by kernel_rfl
 rw[h,chn_eq]
 show some (V.bool (!(!_)))=_
 rw[Bool.not_not]
theorem any16(f:Nat→Bool):(b16 f).any id=true↔ ∃i,i<16∧f i=true:=by
 unfold b16
 rw[List.any_eq_true]
 constructor
 ·rintro⟨x,hx,h⟩
  obtain⟨i,hi,rfl⟩:=List.mem_map.1 hx
  exact⟨i,List.mem_range.1 hi,h⟩
 ·rintro⟨i,hi,h⟩
  exact⟨_,List.mem_map.2 ⟨i,List.mem_range.2 hi,rfl⟩,h⟩
structure VL(l:Ln):Prop where
 n:1≤l.slots.length∧l.slots.length≤16
 rn:1≤l.run∧l.run≤16
 tn:∀x∈l.slots, -1≤x∧x≤7
 lf:0≤l.left∧l.left≤255
 rt:0≤l.right∧l.right≤255
 st:∃i,i<16∧strF l i=true
def vlA(l:Ln):Bool:=inS 1 16 l.slots.length&&inS 1 16 l.run
def vlB(l:Ln):Bool:=inS 0 255 l.left&&(inS 0 255 l.right&&(b16 (strF l)).any id)
def zz(l:Ln):Bool:=vlA l&&(l.slots.all (inS (-1) 7)&&vlB l)
theorem yl:zz l=true↔VL l:=by
 unfold zz vlA vlB
 simp only[Bool.and_eq_true,wg,List.all_eq_true,any16]
 constructor
 ·rintro⟨⟨h1,h2⟩,h3,h4,h5,h6⟩
  exact⟨by omega,h2,h3,h4,h5,h6⟩
 ·intro h
  have:=h.n
  exact⟨⟨by omega,h.rn⟩,h.tn,h.lf,h.rt,h.st⟩
set_option maxHeartbeats 16000000 in
theorem ret60(hi:Off is)(l:Ln):RetP Tryd.prog is orc 60 [l.u] (.bool (zz l)):=by
 refine zw body60 pure60 (hi 60 (by decide)) rfl rfl (wA (yk l 5)) (.inl (.bool _ _)) ?_
 have q1:=ret77 (orc:=orc) hi 1 16 l.slots.length
 have q2:=ret77 (orc:=orc) hi 1 16 l.run
 cases hA:vlA l with
 |false=>
  rw[show zz l=false by unfold zz;rw[hA];rfl]
  unfold vlA at hA
  generalize inS 1 16 l.slots.length=z1 at*
  generalize inS 1 16 l.run=z2 at*
  cases z1 with
  |false=>
   refine kQ (zk rfl rfl (zA rfl (zB ?_)))
   refine zH [(1,U.box 0 0)] ([SB.box [.lst .ro 1 (zE (Ln.slots l)),.int .i64 (Ln.left l),.int .i64 (Ln.right l),.int .i64 (Ln.run l)]]) (.n1 rfl) rfl fun fr=>?_
   refine k_seq (kQ (zBo (i:=0) (c:=2) (n:=7) sh99 rfl rfl zDo cl99 rfl rfl rfl (gatB 0 (by decide)) rfl ?_))
   refine kw rfl zS (kA sh22 rfl (zq rfl ty22 rfl (List.length_map _) ?_))
   refine zN rfl (q1) (.lrefl _) (yc rfl rfl (zC rfl (ke rfl ?_)))
   refine zAa [(1,U.box 0 0),(12,U.bool !Bool.false)] [] ([SB.box [.lst .ro 1 (zE (Ln.slots l)),.int .i64 (Ln.left l),.int .i64 (Ln.right l),.int .i64 (Ln.run l)]]) (.n2 rfl) rfl rfl fun fr=>?_
   refine ke rfl (ke rfl (ke rfl (ke rfl (ke rfl (kE rfl ?_)))))
   refine zB ?_
   refine zH [(1,U.box 0 0),(19,.bool true)] ([SB.box [.lst .ro 1 (zE (Ln.slots l)),.int .i64 (Ln.left l),.int .i64 (Ln.right l),.int .i64 (Ln.run l)]]) (.n2 rfl) rfl fun fr=>?_
   refine k_cT rfl rfl ?_
   refine kQ (zA rfl (zB (zV ?_)))
   refine⟨.inr rfl,_,.cons _ _ _ _ (.tmp 2) .nil,?_⟩
   exact .refl _
  |true=>
   cases z2 with
   |false=>
    refine kQ (zk rfl rfl (zA rfl (zB ?_)))
    refine zH [(1,U.box 0 0)] ([SB.box [.lst .ro 1 (zE (Ln.slots l)),.int .i64 (Ln.left l),.int .i64 (Ln.right l),.int .i64 (Ln.run l)]]) (.n1 rfl) rfl fun fr=>?_
    refine k_seq (kQ (zBo (i:=0) (c:=2) (n:=7) sh99 rfl rfl zDo cl99 rfl rfl rfl (gatB 0 (by decide)) rfl ?_))
    refine kw rfl zS (kA sh22 rfl (zq rfl ty22 rfl (List.length_map _) ?_))
    refine zN rfl (q1) (.lrefl _) (yc rfl rfl (zC rfl (kf rfl (zEz (i:=3) (c:=2) (n:=7) sh99 rfl rfl rfl rfl rfl rfl zDo cl99 rfl rfl rfl (gatB 3 (by decide)) rfl ?_))))
    refine kf rfl (kw rfl zAA (kf rfl (kA sh3 rfl (kf rfl (zN rfl (q2) (.lrefl _) (kf rfl (yc rfl rfl (kD rfl ?_))))))))
    refine zB ?_
    refine zH [(1,U.box 0 0),(19,U.bool !Bool.false)] ([SB.box [.lst .ro 1 (zE (Ln.slots l)),.int .i64 (Ln.left l),.int .i64 (Ln.right l),.int .i64 (Ln.run l)]]) (.n2 rfl) rfl fun fr=>?_
    refine k_cT rfl rfl ?_
    refine kQ (zA rfl (zB (zV ?_)))
    refine⟨.inr rfl,_,.cons _ _ _ _ (.tmp 2) .nil,?_⟩
    exact .refl _
   |true=>cases hA
 |true=>
  unfold zz
  rw[hA,Bool.true_and]
  unfold vlA at hA
  rw[Bool.and_eq_true]at hA
  rw[hA.1]at q1
  rw[hA.2]at q2
  have hn:=wg.1 hA.1
  generalize hz:(l.slots.all (inS (-1) 7)&&vlB l)=z
  refine kQ (zk rfl rfl (zA rfl (zB ?_)))
  refine zH [(1,U.box 0 0)] ([SB.box [.lst .ro 1 (zE (Ln.slots l)),.int .i64 (Ln.left l),.int .i64 (Ln.right l),.int .i64 (Ln.run l)]]) (.n1 rfl) rfl fun fr=>?_
  refine k_seq (kQ (zBo (i:=0) (c:=2) (n:=7) sh99 rfl rfl zDo cl99 rfl rfl rfl (gatB 0 (by decide)) rfl ?_))
  refine kw rfl zS (kA sh22 rfl (zq rfl ty22 rfl (List.length_map _) ?_))
  refine zN rfl (q1) (.lrefl _) (yc rfl rfl (zC rfl (kf rfl (zEz (i:=3) (c:=2) (n:=7) sh99 rfl rfl rfl rfl rfl rfl zDo cl99 rfl rfl rfl (gatB 3 (by decide)) rfl ?_))))
  refine kf rfl (kw rfl zAA (kf rfl (kA sh3 rfl (kf rfl (zN rfl (q2) (.lrefl _) (kf rfl (yc rfl rfl (kD rfl ?_))))))))
  refine zB ?_
  refine zH [(1,U.box 0 0),(19,U.bool !Bool.true)] ([SB.box [.lst .ro 1 (zE (Ln.slots l)),.int .i64 (Ln.left l),.int .i64 (Ln.right l),.int .i64 (Ln.run l)]]) (.n2 rfl) rfl fun fr=>?_
  refine k_cF rfl rfl ?_
  refine zL (k_seq (kQ (kw rfl zS (kA sh22 rfl (zq rfl ty22 rfl (List.length_map _) ?_)))))
  refine zC rfl (zB (zI ?_))
  refine yX (fun kk s2=>∃i:Nat,kk+i=l.slots.length∧z=((l.slots.drop i).all (inS (-1) 7)&&vlB l)∧s2.st=[.box l.cs]∧Holds s2 [(1,.box 0 0),(21,.lst .ro 1 (zE l.slots)),(22,.int .i64 l.slots.length),(23,.int .i64 i)]) (fun kk s2 hI=>?_) l.slots.length _ ⟨0,rfl,hz.symm,rfl,.c4 rfl rfl rfl rfl (.nil rfl)⟩
  obtain⟨i,hk,hw,hst2,hs2⟩:=hI
  clear hz
  by_cases hin:i<l.slots.length
  ·obtain⟨x,hx⟩:∃x,l.slots[i]? =some x:=⟨l.slots[i],List.getElem?_eq_getElem hin⟩
   have qx:=ret77 (orc:=orc) hi (-1) 7 x
   rw[drop_at hx,List.all_cons]at hw
   refine zH _ _ hs2 hst2 fun fr2=>?_
   cases c1:inS (-1) 7 x with
   |false=>
    rw[c1]at qx hw
    obtain rfl:z=false:=hw
    refine kQ (kp rfl (zB (k_seq (k_cT rfl (kF (by omega)) (zL (k_seq (zI (kQ (yA (u:=.int .i64 (x)) rfl ty22 rfl rfl (Int.natCast_nonneg _) (by simp[hx]) cl3 ?_)))))))))
    refine kC sh3 rfl ?_
    refine zA rfl (zB (kQ (zBo (i:=1) (c:=2) (n:=7) sh99 rfl rfl zDo cl99 rfl rfl rfl (gatB 1 (by decide)) rfl ?_)))
    refine zC rfl (zN rfl (qx) (.lrefl _) (yc rfl rfl (zB (k_cT rfl rfl ?_))))
    refine kQ (zA rfl (zB (zV ?_)))
    refine⟨.inr rfl,_,.cons _ _ _ _ (.tmp 2) .nil,?_⟩
    exact .refl _
   |true=>
    rw[c1]at qx hw
    rw[Bool.true_and]at hw
    refine kQ (kp rfl (zB (k_seq (k_cT rfl (kF (by omega)) (zL (k_seq (zI (kQ (yA (u:=.int .i64 (x)) rfl ty22 rfl rfl (Int.natCast_nonneg _) (by simp[hx]) cl3 ?_)))))))))
    refine kC sh3 rfl ?_
    refine zA rfl (zB (kQ (zBo (i:=1) (c:=2) (n:=7) sh99 rfl rfl zDo cl99 rfl rfl rfl (gatB 1 (by decide)) rfl ?_)))
    refine zC rfl (zN rfl (qx) (.lrefl _) (yc rfl rfl (zB (k_cF rfl rfl ?_))))
    refine zL (k_region ?_)
    refine kz rfl (by unfold I64;omega) (zC rfl (zB ?_))
    exact⟨kk - 1,by omega,i+1,by omega,hw,rfl,.c4 rfl rfl rfl rfl (.nil rfl)⟩
  ·rw[List.drop_eq_nil_of_le (by omega)]at hw
   obtain rfl:z=vlB l:=hw
   have q3:=ret77 (orc:=orc) hi 0 255 l.left
   have q4:=ret77 (orc:=orc) hi 0 255 l.right
   have q66:=ret66 (orc:=orc) hi (l:=l) (by omega)
   have en:=ne16 (zl (strF l))
   have hSl:=zl (strF l)
   unfold vlB
   generalize inS 0 255 l.left=z3 at*
   generalize inS 0 255 l.right=z4 at*
   generalize (b16 (strF l)).any id=z5 at*
   generalize b16 (strF l)=S at*
   obtain⟨a0,a1,a2,a3,a4,a5,a6,a7,a8,a9,a10,a11,a12,a13,a14,a15,rfl⟩:=zDb hSl
   have en:binV Tryd.prog 83 .neq (valK (.agg (zK [a0,a1,a2,a3,a4,a5,a6,a7,a8,a9,a10,a11,a12,a13,a14,a15]))) (valK (.agg [.bool false,.bool false,.bool false,.bool false,.bool false,.bool false,.bool false,.bool false,.bool false,.bool false,.bool false,.bool false,.bool false,.bool false,.bool false,.bool false]))=some (.bool z5):=en
   refine zH _ _ hs2 hst2 fun fr2=>?_
   cases z3 with
   |false=>
    refine kQ (kp rfl (zB (k_seq (k_cF rfl (kG (by omega)) (zj (kQ (zBo (i:=2) (c:=2) (n:=7) sh99 rfl rfl zDo cl99 rfl rfl rfl (gatB 2 (by decide)) rfl ?_)))))))
    refine kw rfl zCW (kA sh3 rfl (zN rfl (q3) (.lrefl _) (zC rfl (ke rfl (ke rfl (ke rfl ?_))))))
    refine zAa [(1,U.box 0 0),(38,.bool false)] [] ([SB.box (Ln.cs l)]) (.n2 rfl) rfl rfl fun fr=>?_
    refine ke rfl (ke rfl (kD rfl ?_))
    refine zC rfl (ke rfl (ke rfl (ke rfl (ke rfl (ke rfl ?_)))))
    refine zAa [(45,.bool false)] [] ([SB.box (Ln.cs l)]) (.n1 rfl) rfl rfl fun fr=>?_
    refine kD rfl ?_
    refine zA rfl (zB (zV ?_))
    refine⟨.inr rfl,_,.cons _ _ _ _ (.tmp 2) .nil,?_⟩
    exact .refl _
   |true=>
    cases z4 with
    |false=>
     refine kQ (kp rfl (zB (k_seq (k_cF rfl (kG (by omega)) (zj (kQ (zBo (i:=2) (c:=2) (n:=7) sh99 rfl rfl zDo cl99 rfl rfl rfl (gatB 2 (by decide)) rfl ?_)))))))
     refine kw rfl zCW (kA sh3 rfl (zN rfl (q3) (.lrefl _) (zC rfl (kf rfl (zEz (i:=2) (c:=2) (n:=7) sh99 rfl rfl rfl rfl rfl rfl zDo cl99 rfl rfl rfl (gatB 2 (by decide)) rfl ?_)))))
     refine kf rfl (kw rfl zEG ?_)
     refine zAa [(1,U.box 0 0),(38,.bool true),(40,U.agg [.int .i64 (loB 2),.int .i64 (hiB 2)]),(41,U.box 0 2)] [] ([SB.box (Ln.cs l)]) (.n4 rfl) rfl rfl fun fr=>?_
     refine kf rfl ?_
     refine zAa [(1,U.box 0 0),(38,.bool true),(40,U.agg [.int .i64 (loB 2),.int .i64 (hiB 2)]),(41,U.box 0 2)] [] ([SB.box (Ln.cs l)]) (.n4 rfl) rfl rfl fun fr=>?_
     refine kA sh3 rfl (kf rfl (zN rfl (q4) (.lrefl _) (kE rfl ?_)))
     refine zC rfl (ke rfl (ke rfl (ke rfl (ke rfl (ke rfl ?_)))))
     refine zAa [(45,.bool false)] [] ([SB.box (Ln.cs l)]) (.n1 rfl) rfl rfl fun fr=>?_
     refine kD rfl ?_
     refine zA rfl (zB (zV ?_))
     refine⟨.inr rfl,_,.cons _ _ _ _ (.tmp 2) .nil,?_⟩
     exact .refl _
    |true=>
     refine kQ (kp rfl (zB (k_seq (k_cF rfl (kG (by omega)) (zj (kQ (zBo (i:=2) (c:=2) (n:=7) sh99 rfl rfl zDo cl99 rfl rfl rfl (gatB 2 (by decide)) rfl ?_)))))))
     refine kw rfl zCW (kA sh3 rfl (zN rfl (q3) (.lrefl _) (zC rfl (kf rfl (zEz (i:=2) (c:=2) (n:=7) sh99 rfl rfl rfl rfl rfl rfl zDo cl99 rfl rfl rfl (gatB 2 (by decide)) rfl ?_)))))
     refine kf rfl (kw rfl zEG ?_)
     refine zAa [(1,U.box 0 0),(38,.bool true),(40,U.agg [.int .i64 (loB 2),.int .i64 (hiB 2)]),(41,U.box 0 2)] [] ([SB.box (Ln.cs l)]) (.n4 rfl) rfl rfl fun fr=>?_
     refine kf rfl ?_
     refine zAa [(1,U.box 0 0),(38,.bool true),(40,U.agg [.int .i64 (loB 2),.int .i64 (hiB 2)]),(41,U.box 0 2)] [] ([SB.box (Ln.cs l)]) (.n4 rfl) rfl rfl fun fr=>?_
     refine kA sh3 rfl (kf rfl (zN rfl (q4) (.lrefl _) (kE rfl ?_)))
     refine zC rfl (kf rfl (kB sh24 rfl (kf rfl (we rfl ze73 pl73 rfl rfl ?_))))
     refine kf rfl (zN rfl (q66) (.lrefl _) (kf rfl (we rfl ze83 pl83 rfl rfl ?_)))
     refine kf rfl (o_binK rfl rfl rfl rfl rfl en ?_)
     refine zAa [(45,.bool true),(50,U.bool z5)] [] ([SB.box (Ln.cs l)]) (.n2 rfl) rfl rfl fun fr=>?_
     refine kE rfl ?_
     refine zA rfl (zB (zV ?_))
     refine⟨.inr rfl,_,.cons _ _ _ _ (.tmp 2) .nil,?_⟩
     exact .refl _
theorem ret17(hi:Off is)(l:Ln):RetP Tryd.prog is orc 17 [l.u] (.int .i64 (if zz l=true then 0 else 70)):=by
 have q60:=ret60 (orc:=orc) hi l
 refine zw body17 pure17 (hi 17 (by decide)) rfl rfl (wA (yk l 5)) (.inl (.int _ _ _)) ?_
 generalize zz l=z at*
 cases z with
 |false=>
  refine kQ (zk rfl rfl (zA rfl (zB ?_)))
  refine zH [(1,U.box 0 0)] ([SB.box [.lst .ro 1 (zE (Ln.slots l)),.int .i64 (Ln.left l),.int .i64 (Ln.right l),.int .i64 (Ln.run l)]]) (.n1 rfl) rfl fun fr=>?_
  refine k_seq (kQ (kB sh24 rfl (zN rfl (q60) (.lrefl _) (yc rfl rfl (zB (k_cT rfl rfl ?_))))))
  refine kQ (zA rfl (zB (zV ?_)))
  refine⟨.inr rfl,_,.cons _ _ _ _ (.tmp 2) .nil,?_⟩
  exact .refl _
 |true=>
  refine kQ (zk rfl rfl (zA rfl (zB ?_)))
  refine zH [(1,U.box 0 0)] ([SB.box [.lst .ro 1 (zE (Ln.slots l)),.int .i64 (Ln.left l),.int .i64 (Ln.right l),.int .i64 (Ln.run l)]]) (.n1 rfl) rfl fun fr=>?_
  refine k_seq (kQ (kB sh24 rfl (zN rfl (q60) (.lrefl _) (yc rfl rfl (zB (k_cF rfl rfl ?_))))))
  refine zL (kQ (zA rfl (zB (zV ?_))))
  refine⟨.inr rfl,_,.cons _ _ _ _ (.tmp 2) .nil,?_⟩
  exact .refl _
end Go.Proofs.YthhbfbmfhldbaaaDoor.locks
