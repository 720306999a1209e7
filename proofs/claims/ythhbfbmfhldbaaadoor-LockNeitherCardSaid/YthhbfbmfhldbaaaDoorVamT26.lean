import Derived.Test.YthhbfbmfhldbaaaDoorVamT25
set_option linter.unusedVariables false
set_option linter.unusedSimpArgs false
set_option linter.constructorNameAsVariable false
namespace Go.Proofs.YthhbfbmfhldbaaaDoor.locks
open Vam
section
variable {is:FuncId→Bool}{orc:Known}{l:Ln}
noncomputable def b46:Code:=(Tryd.f46.body).getD .skip
theorem body46:bodyOf Tryd.prog 46=some (41,b46,[.tmp 4]):=by kernel_rfl
theorem pure46:pureFn Tryd.prog 46=true:=by kernel_rfl
noncomputable def b44:Code:=(Tryd.f44.body).getD .skip
theorem body44:bodyOf Tryd.prog 44=some (8,b44,[.tmp 2]):=by kernel_rfl
theorem pure44:pureFn Tryd.prog 44=true:=by kernel_rfl
noncomputable def b15:Code:=(Tryd.f15.body).getD .skip
theorem body15:bodyOf Tryd.prog 15=some (16,b15,[.tmp 4,.tmp 5]):=by kernel_rfl
theorem pure15:pureFn Tryd.prog 15=true:=by kernel_rfl
set_option maxHeartbeats 8000000 in
theorem ret46(hi:Off is)(l m:List Int)(hl:l.length≤4096)(hm:m.length≤4096):RetP Tryd.prog is orc 46 [.lst .ro 1 (zE l),.lst .ro 1 (zE m)] (.bool (wu l m)):=by
 refine yH body46 pure46 (hi 46 (by decide)) rfl rfl (wW (yZ 6 .ro (fun h=>by cases h) 1 l) (yZ 6 .ro (fun h=>by cases h) 1 m)) (.inl (.bool _ _)) ?_
 generalize hz:wu l m=z
 refine kQ (zC rfl (zB (k_seq (kQ (zC rfl (zB (zL ?_)))))))
 refine wD (fun kk s2=>∃i:Nat,kk+i=l.length∧i≤m.length∧z=wu (l.drop i) (m.drop i)∧s2.st=[]∧Holds s2 [(0,.lst .ro 1 (zE l)),(1,.lst .ro 1 (zE m)),(5,.int .i64 i)]) (fun kk s2 hI=>?_) l.length _ ⟨0,rfl,Nat.zero_le _,hz.symm,rfl,.cons rfl (.n2 rfl)⟩
 obtain⟨i,hk,him,hw,hst2,hs2⟩:=hI
 clear hz
 refine zH _ _ hs2 hst2 fun fr2=>?_
 by_cases hin:i<l.length
 ·obtain⟨x,hx⟩:∃x,l[i]? =some x:=⟨l[i],List.getElem?_eq_getElem hin⟩
  rw[drop_at hx]at hw
  by_cases hin2:i<m.length
  ·obtain⟨y,hy⟩:∃y,m[i]? =some y:=⟨m[i],List.getElem?_eq_getElem hin2⟩
   rw[drop_at hy]at hw
   have es:wu (x::l.drop (i+1)) (y::m.drop (i+1))=if x≠y then decide (x<y)else wu (l.drop (i+1)) (m.drop (i+1)):=rfl
   by_cases e:x=y
   ·rw[es,if_neg (by simp[e])]at hw
    refine k_seq (kQ (zA rfl (zA rfl (zl rfl ty22 rfl (List.length_map _) ?_))))
    refine kq rfl (zA rfl (kh rfl (kG (by omega)) ?_))
    refine zA rfl (kh rfl (kG (by omega)) ?_)
    refine zA rfl (kh rfl (kG (by omega)) ?_)
    refine zl rfl ty22 rfl (List.length_map _) ?_
    refine kh rfl (kG (by omega)) ?_
    refine kq rfl (zr rfl rfl (kG (by omega)) ?_)
    refine zB (k_cT rfl (kG (by omega)) (zN (k_seq (zL (k_seq (yc [.plain,.plain,.plain,.read true,.plain,.plain,.plain,.read true,.plain] (by kernel_rfl) (by kernel_rfl) (by kernel_rfl) ?_))))))
    refine zD (zA rfl (zB rfl)) (zD (zA rfl (zB rfl)) (zD (yR (u:=.int .i64 (x)) rfl ty22 rfl rfl (Int.natCast_nonneg _) (by simp[hx]) cl3 (zB rfl)) ?_))
    refine zX rfl (kD sh3 rfl (zB rfl)) ?_
    refine zD (zA rfl (zB rfl)) (zD (zA rfl (zB rfl)) (zD (yR (u:=.int .i64 (y)) rfl ty22 rfl rfl (Int.natCast_nonneg _) (by simp[hy]) cl3 (zB rfl)) ?_))
    refine zX rfl (kD sh3 rfl (zB rfl)) ?_
    refine zD (ks rfl (zB rfl)) ?_
    refine wc ?_
    refine k_cF rfl (kH (by omega)) (zN (k_region (zA rfl ?_)))
    refine kA rfl (by unfold I64;omega) (zC rfl (zB ?_))
    exact⟨kk - 1,by omega,i+1,by omega,by omega,hw,rfl,.cons rfl (.n2 rfl)⟩
   ·rw[es,if_pos e]at hw
    subst hw
    refine k_seq (kQ (zA rfl (zA rfl (zl rfl ty22 rfl (List.length_map _) ?_))))
    refine kq rfl (zA rfl (kh rfl (kG (by omega)) ?_))
    refine zA rfl (kh rfl (kG (by omega)) ?_)
    refine zA rfl (kh rfl (kG (by omega)) ?_)
    refine zl rfl ty22 rfl (List.length_map _) ?_
    refine kh rfl (kG (by omega)) ?_
    refine kq rfl (zr rfl rfl (kG (by omega)) ?_)
    refine zB (k_cT rfl (kG (by omega)) (zN (k_seq (zL (k_seq (yc [.plain,.plain,.plain,.read true,.plain,.plain,.plain,.read true,.plain] (by kernel_rfl) (by kernel_rfl) (by kernel_rfl) ?_))))))
    refine zD (zA rfl (zB rfl)) (zD (zA rfl (zB rfl)) (zD (yR (u:=.int .i64 (x)) rfl ty22 rfl rfl (Int.natCast_nonneg _) (by simp[hx]) cl3 (zB rfl)) ?_))
    refine zX rfl (kD sh3 rfl (zB rfl)) ?_
    refine zD (zA rfl (zB rfl)) (zD (zA rfl (zB rfl)) (zD (yR (u:=.int .i64 (y)) rfl ty22 rfl rfl (Int.natCast_nonneg _) (by simp[hy]) cl3 (zB rfl)) ?_))
    refine zX rfl (kD sh3 rfl (zB rfl)) ?_
    refine zD (ks rfl (zB rfl)) ?_
    refine wc ?_
    refine k_cT rfl (kG (by omega)) (k_seq (yc [.plain,.plain,.plain,.read true,.plain,.plain,.plain,.read true,.plain,.plain] (by kernel_rfl) (by kernel_rfl) (by kernel_rfl) ?_))
    refine zD (zA rfl (zB rfl)) (zD (zA rfl (zB rfl)) (zD (yR (u:=.int .i64 (x)) rfl ty22 rfl rfl (Int.natCast_nonneg _) (by simp[hx]) cl3 (zB rfl)) ?_))
    refine zX rfl (kD sh3 rfl (zB rfl)) ?_
    refine zD (zA rfl (zB rfl)) (zD (zA rfl (zB rfl)) (zD (yR (u:=.int .i64 (y)) rfl ty22 rfl rfl (Int.natCast_nonneg _) (by simp[hy]) cl3 (zB rfl)) ?_))
    refine zX rfl (kD sh3 rfl (zB rfl)) ?_
    refine zD (kq rfl (zB rfl)) ?_
    refine zD (zC rfl (zB rfl)) ?_
    refine wc ?_
    refine za ?_
    refine⟨.inr rfl,_,.cons _ _ _ _ (.tmp 4) .nil,?_⟩
    exact .refl _
  ·have hd:m.drop i=[]:=List.drop_eq_nil_of_le (by omega)
   rw[hd]at hw
   change z=false at hw
   subst hw
   have hk40:decide ((l.length:Int)<m.length)=false:=kH (by omega)
   refine k_seq (kQ (zA rfl (zA rfl (zl rfl ty22 rfl (List.length_map _) ?_))))
   refine kq rfl (zA rfl (kh rfl (kG (by omega)) ?_))
   refine zA rfl (kh rfl (kG (by omega)) ?_)
   refine zA rfl (kh rfl (kG (by omega)) ?_)
   refine zl rfl ty22 rfl (List.length_map _) ?_
   refine kh rfl (kG (by omega)) ?_
   refine kq rfl (zr rfl rfl (kG (by omega)) ?_)
   refine zB (k_cF rfl (kH (by omega)) (yJ (kQ (zA rfl (zl rfl ty22 rfl (List.length_map _) ?_)))))
   refine zA rfl (zl rfl ty22 rfl (List.length_map _) ?_)
   refine kq rfl (zC rfl (zB (za ?_)))
   refine⟨.inr rfl,_,.cons _ _ _ _ (.tmp 4) .nil,?_⟩
   rw[hk40];exact .refl _
 ·have hie:i=l.length:=by omega
  have hd:l.drop i=[]:=List.drop_eq_nil_of_le (by omega)
  rw[hd]at hw
  have es:wu [] (m.drop i)=decide ((l.length:Int)<m.length):=by
   show decide (0<(m.drop i).length)=_
   rw[List.length_drop]
   exact decide_eq_decide.2 (by omega)
  rw[es]at hw
  subst hw
  refine k_seq (kQ (zA rfl (zA rfl (zl rfl ty22 rfl (List.length_map _) ?_))))
  refine kq rfl (zA rfl (kg rfl (kH (by omega)) ?_))
  refine kg rfl (kH (by omega)) ?_
  refine kg rfl (kH (by omega)) ?_
  refine kg rfl (kH (by omega)) ?_
  refine yI rfl rfl (kH (by omega)) ?_
  refine zB (k_cF rfl rfl ?_)
  refine yJ (kQ (zA rfl (zl rfl ty22 rfl (List.length_map _) ?_)))
  refine zA rfl (zl rfl ty22 rfl (List.length_map _) ?_)
  refine kq rfl (zC rfl (zB (za ?_)))
  refine⟨.inr rfl,_,.cons _ _ _ _ (.tmp 4) .nil,?_⟩
  exact .refl _
def plainI(n:Int):Int:=if n<0 then -n else n
theorem plain_df(p:List Int):plainI (((prtL p 0).length:Int) - (prtL p 1).length)=dfI p:=by
 unfold plainI dfI
 split<;>omega
theorem ret44(hi:Off is){n:Int}(hn: -1000000≤n∧n≤1000000):RetP Tryd.prog is orc 44 [.int .i64 n] (.int .i64 (plainI n)):=by
 refine yH body44 pure44 (hi 44 (by decide)) rfl rfl (wv (.int _ _ _)) (.inl (.int _ _ _)) ?_
 unfold plainI
 by_cases c:n<0
 ·rw[if_pos c]
  refine kQ (zC rfl (zB (k_seq (kQ (zA rfl (kq rfl (zB (k_cT rfl (kG (by omega)) (kQ (zA rfl ?_))))))))))
  refine o_neg rfl rfl (by unfold I64;omega) ?_
  refine zC rfl (zB (za ?_))
  refine⟨.inr rfl,_,.cons _ _ _ _ (.tmp 2) .nil,?_⟩
  exact .refl _
 ·rw[if_neg c]
  refine kQ (zC rfl (zB (k_seq (kQ (zA rfl (kq rfl (zB (k_cF rfl (kH (by omega)) (zN (kQ (zA rfl (zC rfl (zB (za ?_))))))))))))))
  refine⟨.inr rfl,_,.cons _ _ _ _ (.tmp 2) .nil,?_⟩
  exact .refl _
set_option maxHeartbeats 8000000 in
theorem ret15(hi:Off is)(h:VL l)(p:List Int):RetP Tryd.prog is orc 15 [l.u,.lst .ro 1 (zE p)] (.tup [.bool (divB l p),.int .i64 0]):=by
 refine yH body15 pure15 (hi 15 (by decide)) rfl rfl (wW (wV l 5) (yZ 6 .ro (fun h=>by cases h) 1 p)) (.inr ⟨_,rfl,wW (.bool _ _) (.int _ _ _)⟩) ?_
 have q56:=ask0 (orc:=orc) hi l
 rw[zCG.2 h,if_pos rfl]at q56
 have q57:=ret57 (orc:=orc) hi l p
 have q58:=ret58 (orc:=orc) hi h p
 generalize divB l p=z at*
 refine kQ (yG rfl rfl (zC rfl (zC rfl (zB ?_))))
 refine zH [(1,.lst .ro 1 (zE p)),(2,U.box 0 0)] ([SB.box [.lst .ro 1 (zE (Ln.slots l)),.int .i64 (Ln.left l),.int .i64 (Ln.right l),.int .i64 (Ln.run l)]]) (.n2 rfl) rfl fun fr=>?_
 refine k_seq (kQ (kC sh24 rfl (zK rfl (q56) (.lcons _ _ _ _ (.refl _) (.lcons _ _ _ _ (.nil .full .ro 1) (.lrefl _))) ?_)))
 refine zC rfl (zB (kQ (zA rfl (ks rfl (zB (k_cF rfl rfl ?_))))))
 refine zN (kQ (kC sh24 rfl (zA rfl (zK rfl (q57) (.lrefl _) (zK rfl (q58) (.lrefl _) (zC rfl (zC rfl (zB (za ?_)))))))))
 refine⟨.inr rfl,_,.cons _ _ _ _ (.tmp 4) (.cons _ _ _ _ (.tmp 5) .nil),?_⟩
 exact .refl _
end
section
variable {is:FuncId→Bool}{orc:Known}{l:Ln}
theorem ty4:tyOf Tryd.prog 4=.bool:=by kernel_rfl
noncomputable def b6:Code:=(Tryd.f6.body).getD .skip
theorem body6:bodyOf Tryd.prog 6=some (122,b6,[.tmp 4]):=by kernel_rfl
theorem pure6:pureFn Tryd.prog 6=true:=by kernel_rfl
theorem none_spl(h:VL l)(hb:bstO (splL l)=none):splL l=[]:=by
 rcases bst_spec (spl_pair l l.slots.length [])with ⟨e,_⟩|⟨b,e,_⟩
 ·exact e
 ·have e:bstO (splL l)=some b:=e
  rw[hb]at e;cases e
theorem some_spl{b:List Int}(hb:bstO (splL l)=some b):b∈splL l∧∀s∈splL l,dfI b≤dfI s∧(dfI s=dfI b→wu s b=false):=by
 rcases bst_spec (spl_pair l l.slots.length [])with ⟨_,e⟩|⟨c,e,h1,h2⟩
 ·have e:bstO (splL l)=none:=e
  rw[hb]at e;cases e
 ·have e:bstO (splL l)=some c:=e
  rw[hb]at e
  cases e
  exact⟨h1,h2⟩
theorem prt_len(p:List Int)(w:Int):(prtL p w).length≤p.length:=zDS _ _
set_option maxHeartbeats 32000000 in
theorem ret6(hi:Off is)(l:Ln)(bits:List Int)(r26:RetP Tryd.prog is orc 26 [] (.bool true)):RetP Tryd.prog is orc 6 [l.u,.lst .ro 1 (zE bits)] (.bool true):=by
 refine yH body6 pure6 (hi 6 (by decide)) rfl rfl (wW (wV l 5) (yZ 6 .ro (fun h=>by cases h) 1 bits)) (.inl (.bool _ _)) ?_
 have q41:=ret41 (orc:=orc) hi l
 cases hv:wN l with
 |false=>
  rw[hv]at q41
  refine kQ (yG rfl rfl (zC rfl (zB ?_)))
  refine zH [(1,.lst .ro 1 (zE bits)),(2,U.box 0 0)] ([SB.box [.lst .ro 1 (zE (Ln.slots l)),.int .i64 (Ln.left l),.int .i64 (Ln.right l),.int .i64 (Ln.run l)]]) (.n2 rfl) rfl fun fr=>?_
  refine k_seq (kQ (kC sh24 rfl (zK rfl (q41) (.lrefl _) (yE rfl rfl (zB (k_cT rfl rfl ?_))))))
  refine kQ (zK rfl (r26) (.lrefl _) (zC rfl (zB (za ?_))))
  refine⟨.inr rfl,_,.cons _ _ _ _ (.tmp 4) .nil,?_⟩
  exact .refl _
 |true=>
  have h:=zCG.1 hv
  have hn:=h.n
  rw[hv]at q41
  have q42:=ret42 (orc:=orc) hi h bits
  have hxl:=drw_len l bits l.slots.length
  generalize drwL l bits l.slots.length=X at*
  have q43:=ret43 (orc:=orc) hi h X
  have q15:=ret15 (orc:=orc) hi h X
  have q19:=ret19 (orc:=orc) hi l
  rw[show manE l=0 by unfold manE;rw[hv];rfl,show manN l=(splL l).length by unfold manN;rw[hv];rfl]at q19
  have q21:=ret21 (orc:=orc) hi l
  have hE:splE l=if wN l=true then if(bstO (splL l)).isSome=true then 0 else 4 else 70:=rfl
  have hR:splR l=if splE l=0 then(bstO (splL l)).getD []else []:=rfl
  rw[hv,if_pos rfl]at hE
  have hdx:=spl_div h (q:=X)
  cases hb:bstO (splL l)with
  |none=>
   have hs0:=none_spl h hb
   have hE:splE l=4:=by rw[hE,hb];rfl
   rw[hE,if_neg (by decide)]at hR
   rw[hE,hR]at q21
   have hdf:divB l X=false:=by
    cases c:divB l X with
    |false=>rfl
    |true=>have:=hdx.2 c;rw[show spl l l.slots.length []=[]from hs0]at this;cases this
   rw[hdf]at q43 q15
   rw[hs0]at q19
   refine kQ (yG rfl rfl (zC rfl (zB ?_)))
   refine zH [(1,.lst .ro 1 (zE bits)),(2,U.box 0 0)] ([SB.box [.lst .ro 1 (zE (Ln.slots l)),.int .i64 (Ln.left l),.int .i64 (Ln.right l),.int .i64 (Ln.run l)]]) (.n2 rfl) rfl fun fr=>?_
   refine k_seq (kQ (kC sh24 rfl (zK rfl (q41) (.lrefl _) (yE rfl rfl (zB (k_cF rfl rfl ?_))))))
   refine zN (kQ (kC sh24 rfl (zA rfl (zK rfl (q42) (.lrefl _) (zC rfl (zB (kQ (kC sh24 rfl (zA rfl (zK rfl (q15) (.lrefl _) (zA rfl (kw rfl (kw rfl (zC rfl (zC rfl ?_)))))))))))))))
   refine zB ?_
   refine zH [(2,U.box 0 0),(5,.lst .ro 1 (zE X)),(6,.bool false),(7,.int .i64 0)] ([SB.box [.lst .ro 1 (zE (Ln.slots l)),.int .i64 (Ln.left l),.int .i64 (Ln.right l),.int .i64 (Ln.run l)]]) (.n4 rfl) rfl fun fr=>?_
   refine kQ (kC sh24 rfl (zK rfl (q21) (.lrefl _) (zA rfl (kw rfl (kw rfl (zC rfl (zC rfl (zB (kQ (kC sh24 rfl (zK rfl (q19) (.lrefl _) (zA rfl (kw rfl (kw rfl (zC rfl ?_)))))))))))))))
   refine zC rfl (zB ?_)
   refine zH [(2,U.box 0 0),(5,.lst .ro 1 (zE X)),(6,.bool false),(7,.int .i64 0),(8,.lst .ro 1 (zE [])),(9,.int .i64 4),(10,.int .i64 ↑(List.length [])),(11,.int .i64 0)] ([SB.box [.lst .ro 1 (zE (Ln.slots l)),.int .i64 (Ln.left l),.int .i64 (Ln.right l),.int .i64 (Ln.run l)]]) (.n8 rfl) rfl fun fr=>?_
   refine k_seq (kQ (zA rfl (ks rfl (zA rfl (kf rfl (zA rfl (kf rfl (ks rfl (kE rfl ?_)))))))))
   refine zA rfl (kf rfl (zA rfl (kf rfl (kC sh24 rfl ?_))))
   refine zT [(2,U.box 0 0),(5,.lst .ro 1 (zE X)),(6,.bool false),(8,.lst .ro 1 (zE [])),(9,.int .i64 4),(10,.int .i64 ↑(List.length [])),(43,U.bool (decide ((0:Int)≠(0:Int)))),(44,.bool false),(45,U.agg [.lst .ro 1 (zE (Ln.slots l)),.int .i64 (Ln.left l),.int .i64 (Ln.right l),.int .i64 (Ln.run l)])] [] ([SB.box [.lst .ro 1 (zE (Ln.slots l)),.int .i64 (Ln.left l),.int .i64 (Ln.right l),.int .i64 (Ln.run l)]]) (.n9 rfl) rfl rfl fun fr=>?_
   refine kf rfl ?_
   refine zT [(2,U.box 0 0),(5,.lst .ro 1 (zE X)),(6,.bool false),(8,.lst .ro 1 (zE [])),(9,.int .i64 4),(10,.int .i64 ↑(List.length [])),(43,U.bool (decide ((0:Int)≠(0:Int)))),(44,.bool false),(45,U.agg [.lst .ro 1 (zE (Ln.slots l)),.int .i64 (Ln.left l),.int .i64 (Ln.right l),.int .i64 (Ln.run l)])] [] ([SB.box [.lst .ro 1 (zE (Ln.slots l)),.int .i64 (Ln.left l),.int .i64 (Ln.right l),.int .i64 (Ln.run l)]]) (.n9 rfl) rfl rfl fun fr=>?_
   refine zA rfl (kf rfl (zK rfl (q43) (.lrefl _) (kf rfl (zEP rfl ty4 rfl rfl ?_))))
   refine kE rfl ?_
   refine zA rfl (kf rfl (zA rfl (kf rfl (kq rfl (kE rfl ?_)))))
   refine zA rfl ?_
   refine zT [(2,U.box 0 0),(5,.lst .ro 1 (zE X)),(6,.bool false),(8,.lst .ro 1 (zE [])),(9,.int .i64 4),(10,.int .i64 ↑(List.length [])),(54,U.bool (decide (↑(List.length [])<(0:Int))))] [] ([SB.box [.lst .ro 1 (zE (Ln.slots l)),.int .i64 (Ln.left l),.int .i64 (Ln.right l),.int .i64 (Ln.run l)]]) (.n7 rfl) rfl rfl fun fr=>?_
   refine kf rfl ?_
   refine zT [(2,U.box 0 0),(5,.lst .ro 1 (zE X)),(6,.bool false),(8,.lst .ro 1 (zE [])),(9,.int .i64 4),(10,.int .i64 ↑(List.length [])),(54,U.bool (decide (↑(List.length [])<(0:Int))))] [] ([SB.box [.lst .ro 1 (zE (Ln.slots l)),.int .i64 (Ln.left l),.int .i64 (Ln.right l),.int .i64 (Ln.run l)]]) (.n7 rfl) rfl rfl fun fr=>?_
   refine zA rfl (kf rfl (ku rfl (kf rfl (zA rfl (kf rfl (o_gtr rfl rfl rfl (kf rfl (zEP rfl ty4 rfl rfl ?_))))))))
   refine kE rfl ?_
   refine zA rfl (kf rfl (zA rfl (kf rfl (ks rfl ?_))))
   refine zT [(2,U.box 0 0),(5,.lst .ro 1 (zE X)),(6,.bool false),(8,.lst .ro 1 (zE [])),(9,.int .i64 4),(61,U.bool (decide (decide ((4:Int)=(0:Int))≠decide ((0:Int)< ↑(List.length []))))),(63,U.bool (decide ((4:Int)≠(0:Int))))] [] ([SB.box [.lst .ro 1 (zE (Ln.slots l)),.int .i64 (Ln.left l),.int .i64 (Ln.right l),.int .i64 (Ln.run l)]]) (.n7 rfl) rfl rfl fun fr=>?_
   refine kf rfl ?_
   refine zT [(2,U.box 0 0),(5,.lst .ro 1 (zE X)),(6,.bool false),(8,.lst .ro 1 (zE [])),(9,.int .i64 4),(61,U.bool (decide (decide ((4:Int)=(0:Int))≠decide ((0:Int)< ↑(List.length []))))),(63,U.bool (decide ((4:Int)≠(0:Int))))] [] ([SB.box [.lst .ro 1 (zE (Ln.slots l)),.int .i64 (Ln.left l),.int .i64 (Ln.right l),.int .i64 (Ln.run l)]]) (.n7 rfl) rfl rfl fun fr=>?_
   refine zA rfl (kf rfl (zA rfl (kf rfl (ks rfl (kf rfl (kF rfl ?_))))))
   refine kE rfl ?_
   refine zB ?_
   refine zH [(2,U.box 0 0),(5,.lst .ro 1 (zE X)),(6,.bool false),(8,.lst .ro 1 (zE [])),(9,.int .i64 4),(68,U.bool (decide ((4:Int)≠(4:Int))))] ([SB.box [.lst .ro 1 (zE (Ln.slots l)),.int .i64 (Ln.left l),.int .i64 (Ln.right l),.int .i64 (Ln.run l)]]) (.n6 rfl) rfl fun fr=>?_
   refine k_cF rfl rfl ?_
   refine zN (k_seq (kQ (zA rfl (ks rfl (zB (k_cT rfl rfl ?_))))))
   refine kQ (zA rfl (yE rfl rfl (zA rfl (kf rfl (zA rfl (kf rfl (zl rfl ty22 rfl (List.length_map _) ?_)))))))
   refine kf rfl (ku rfl (kF rfl ?_))
   refine zA rfl (kf rfl (zK rfl (r26) (.lrefl _) (kF rfl ?_)))
   refine zC rfl (zB (za ?_))
   refine⟨.inr rfl,_,.cons _ _ _ _ (.tmp 4) .nil,?_⟩
   exact .refl _
  |some b=>
   obtain⟨hbm,hbl⟩:=some_spl hb
   have hE:splE l=0:=by rw[hE,hb];rfl
   rw[hE,if_pos rfl,hb]at hR
   have hR:splR l=b:=hR
   rw[hE,hR]at q21
   have hdb:=bst_div h hb
   have q43b:=ret43 (orc:=orc) hi h b
   rw[hdb]at q43b
   have hbl2:=spl_len h hbm
   have hpos:0<(splL l).length:=List.length_pos_of_mem hbm
   have q45a:=ret45 (orc:=orc) hi (p:=b) (by omega) 0
   have q45b:=ret45 (orc:=orc) hi (p:=b) (by omega) 1
   have q45c:=ret45 (orc:=orc) hi (p:=X) (by omega) 0
   have q45d:=ret45 (orc:=orc) hi (p:=X) (by omega) 1
   have l1:=prt_len b 0
   have l2:=prt_len b 1
   have l3:=prt_len X 0
   have l4:=prt_len X 1
   have q44a:=ret44 (orc:=orc) hi (n:=((prtL b 0).length:Int) - (prtL b 1).length) (by omega)
   have q44b:=ret44 (orc:=orc) hi (n:=((prtL X 0).length:Int) - (prtL X 1).length) (by omega)
   rw[plain_df]at q44a q44b
   have q46:=ret46 (orc:=orc) hi X b (by omega) (by omega)
   have hcmp:divB l X=true→dfI b≤dfI X∧(dfI X=dfI b→wu X b=false):=fun e=>hbl X (hdx.2 e)
   clear hbl
   generalize (splL l).length=n at*
   have kn:decide (decide ((0:Int)=0)≠decide ((n:Int) > 0))=false:=by
    rw[kG (rfl:(0:Int)=0),kG (show(n:Int) > 0 by omega)];rfl
   generalize dfI b=d1 at*
   generalize dfI X=d2 at*
   generalize wu X b=z2 at*
   generalize prtL b 0=P1 at*
   generalize prtL b 1=P2 at*
   generalize prtL X 0=P3 at*
   generalize prtL X 1=P4 at*
   cases hd:divB l X with
   |false=>
    rw[hd]at q43 q15
    refine kQ (yG rfl rfl (zC rfl (zB ?_)))
    refine zH [(1,.lst .ro 1 (zE bits)),(2,U.box 0 0)] ([SB.box [.lst .ro 1 (zE (Ln.slots l)),.int .i64 (Ln.left l),.int .i64 (Ln.right l),.int .i64 (Ln.run l)]]) (.n2 rfl) rfl fun fr=>?_
    refine k_seq (kQ (kC sh24 rfl (zK rfl (q41) (.lrefl _) (yE rfl rfl (zB (k_cF rfl rfl ?_))))))
    refine zN (kQ (kC sh24 rfl (zA rfl (zK rfl (q42) (.lrefl _) (zC rfl (zB (kQ (kC sh24 rfl (zA rfl (zK rfl (q15) (.lrefl _) (zA rfl (kw rfl (kw rfl (zC rfl (zC rfl ?_)))))))))))))))
    refine zB ?_
    refine zH [(2,U.box 0 0),(5,.lst .ro 1 (zE X)),(6,.bool false),(7,.int .i64 0)] ([SB.box [.lst .ro 1 (zE (Ln.slots l)),.int .i64 (Ln.left l),.int .i64 (Ln.right l),.int .i64 (Ln.run l)]]) (.n4 rfl) rfl fun fr=>?_
    refine kQ (kC sh24 rfl (zK rfl (q21) (.lrefl _) (zA rfl (kw rfl (kw rfl (zC rfl (zC rfl (zB (kQ (kC sh24 rfl (zK rfl (q19) (.lrefl _) (zA rfl (kw rfl (kw rfl (zC rfl ?_)))))))))))))))
    refine zC rfl (zB ?_)
    refine zH [(2,U.box 0 0),(5,.lst .ro 1 (zE X)),(6,.bool false),(7,.int .i64 0),(8,.lst .ro 1 (zE b)),(9,.int .i64 0),(10,.int .i64 ↑n),(11,.int .i64 0)] ([SB.box [.lst .ro 1 (zE (Ln.slots l)),.int .i64 (Ln.left l),.int .i64 (Ln.right l),.int .i64 (Ln.run l)]]) (.n8 rfl) rfl fun fr=>?_
    refine k_seq (kQ (zA rfl (ks rfl (zA rfl (kf rfl (zA rfl (kf rfl (ks rfl (kE rfl ?_)))))))))
    refine zA rfl (kf rfl (zA rfl (kf rfl (kC sh24 rfl ?_))))
    refine zT [(2,U.box 0 0),(5,.lst .ro 1 (zE X)),(6,.bool false),(8,.lst .ro 1 (zE b)),(9,.int .i64 0),(10,.int .i64 ↑n),(43,U.bool (decide ((0:Int)≠(0:Int)))),(44,.bool false),(45,U.agg [.lst .ro 1 (zE (Ln.slots l)),.int .i64 (Ln.left l),.int .i64 (Ln.right l),.int .i64 (Ln.run l)])] [] ([SB.box [.lst .ro 1 (zE (Ln.slots l)),.int .i64 (Ln.left l),.int .i64 (Ln.right l),.int .i64 (Ln.run l)]]) (.n9 rfl) rfl rfl fun fr=>?_
    refine kf rfl ?_
    refine zT [(2,U.box 0 0),(5,.lst .ro 1 (zE X)),(6,.bool false),(8,.lst .ro 1 (zE b)),(9,.int .i64 0),(10,.int .i64 ↑n),(43,U.bool (decide ((0:Int)≠(0:Int)))),(44,.bool false),(45,U.agg [.lst .ro 1 (zE (Ln.slots l)),.int .i64 (Ln.left l),.int .i64 (Ln.right l),.int .i64 (Ln.run l)])] [] ([SB.box [.lst .ro 1 (zE (Ln.slots l)),.int .i64 (Ln.left l),.int .i64 (Ln.right l),.int .i64 (Ln.run l)]]) (.n9 rfl) rfl rfl fun fr=>?_
    refine zA rfl (kf rfl (zK rfl (q43) (.lrefl _) (kf rfl (zEP rfl ty4 rfl rfl ?_))))
    refine kE rfl ?_
    refine zA rfl (kf rfl (zA rfl (kf rfl (kq rfl (kE rfl ?_)))))
    refine zA rfl ?_
    refine zT [(2,U.box 0 0),(5,.lst .ro 1 (zE X)),(6,.bool false),(8,.lst .ro 1 (zE b)),(9,.int .i64 0),(10,.int .i64 ↑n),(54,U.bool (decide (↑n<(0:Int))))] [] ([SB.box [.lst .ro 1 (zE (Ln.slots l)),.int .i64 (Ln.left l),.int .i64 (Ln.right l),.int .i64 (Ln.run l)]]) (.n7 rfl) rfl rfl fun fr=>?_
    refine kh rfl (kH (by omega)) ?_
    refine zT [(2,U.box 0 0),(5,.lst .ro 1 (zE X)),(6,.bool false),(8,.lst .ro 1 (zE b)),(9,.int .i64 0),(10,.int .i64 ↑n),(54,U.bool (decide (↑n<(0:Int))))] [] ([SB.box [.lst .ro 1 (zE (Ln.slots l)),.int .i64 (Ln.left l),.int .i64 (Ln.right l),.int .i64 (Ln.run l)]]) (.n7 rfl) rfl rfl fun fr=>?_
    refine zA rfl (kh rfl (kH (by omega)) (ku rfl (kh rfl (kH (by omega)) (zA rfl (kh rfl (kH (by omega)) (o_gtr rfl rfl rfl (kh rfl (kH (by omega)) (zEP rfl ty4 rfl rfl ?_))))))))
    refine kE rfl ?_
    refine zA rfl (kh rfl (by assumption) (zA rfl (kh rfl (by assumption) (ks rfl ?_))))
    refine zT [(2,U.box 0 0),(5,.lst .ro 1 (zE X)),(6,.bool false),(8,.lst .ro 1 (zE b)),(9,.int .i64 0),(61,U.bool (decide (decide ((0:Int)=(0:Int))≠decide ((0:Int)< ↑n)))),(63,U.bool (decide ((0:Int)≠(0:Int))))] [] ([SB.box [.lst .ro 1 (zE (Ln.slots l)),.int .i64 (Ln.left l),.int .i64 (Ln.right l),.int .i64 (Ln.run l)]]) (.n7 rfl) rfl rfl fun fr=>?_
    refine kh rfl (by assumption) ?_
    refine zT [(2,U.box 0 0),(5,.lst .ro 1 (zE X)),(6,.bool false),(8,.lst .ro 1 (zE b)),(9,.int .i64 0),(61,U.bool (decide (decide ((0:Int)=(0:Int))≠decide ((0:Int)< ↑n)))),(63,U.bool (decide ((0:Int)≠(0:Int))))] [] ([SB.box [.lst .ro 1 (zE (Ln.slots l)),.int .i64 (Ln.left l),.int .i64 (Ln.right l),.int .i64 (Ln.run l)]]) (.n7 rfl) rfl rfl fun fr=>?_
    refine zA rfl (ke rfl (ke rfl (kh rfl (by assumption) (kE rfl ?_))))
    refine yI rfl rfl (by assumption) ?_
    refine zB ?_
    refine zH [(2,U.box 0 0),(5,.lst .ro 1 (zE X)),(6,.bool false),(8,.lst .ro 1 (zE b)),(9,.int .i64 0),(68,.bool false)] ([SB.box [.lst .ro 1 (zE (Ln.slots l)),.int .i64 (Ln.left l),.int .i64 (Ln.right l),.int .i64 (Ln.run l)]]) (.n6 rfl) rfl fun fr=>?_
    refine k_cF rfl rfl ?_
    refine zN (k_seq (kQ (zA rfl (ks rfl (zB (k_cF rfl rfl ?_))))))
    refine zN (k_seq (kQ (kC sh24 rfl (zA rfl (zK rfl (q43b) (.lrefl _) (yE rfl rfl (zB (k_cF rfl rfl ?_))))))))
    refine zN (kQ (zA rfl (zK rfl (q45a) (.lrefl _) (zl rfl ty22 rfl (List.length_map _) ?_))))
    refine zA rfl (zK rfl (q45b) (.lrefl _) (zl rfl ty22 rfl (List.length_map _) ?_))
    refine o_sub rfl rfl rfl (by unfold I64;omega) (zK rfl (q44a) (.lrefl _) (zA rfl ?_))
    refine zT [(5,.lst .ro 1 (zE X)),(6,.bool false),(8,.lst .ro 1 (zE b)),(92,.int .i64 d1),(93,.lst .ro 1 (zE X))] [] ([SB.box [.lst .ro 1 (zE (Ln.slots l)),.int .i64 (Ln.left l),.int .i64 (Ln.right l),.int .i64 (Ln.run l)]]) (.n5 rfl) rfl rfl fun fr=>?_
    refine zK rfl (q45c) (.lrefl _) (zl rfl ty22 rfl (List.length_map _) ?_)
    refine zA rfl (zK rfl (q45d) (.lrefl _) (zl rfl ty22 rfl (List.length_map _) ?_))
    refine o_sub rfl rfl rfl (by unfold I64;omega) (zK rfl (q44b) (.lrefl _) (zC rfl (zC rfl (zB ?_))))
    refine zH [(5,.lst .ro 1 (zE X)),(6,.bool false),(8,.lst .ro 1 (zE b)),(12,.int .i64 d1),(13,.int .i64 d2)] ([SB.box [.lst .ro 1 (zE (Ln.slots l)),.int .i64 (Ln.left l),.int .i64 (Ln.right l),.int .i64 (Ln.run l)]]) (.n5 rfl) rfl fun fr=>?_
    refine kQ (zA rfl (yE rfl rfl (zA rfl (ke rfl (ke rfl (ke rfl (kF rfl ?_)))))))
    refine zA rfl (ke rfl ?_)
    refine zT [(5,.lst .ro 1 (zE X)),(8,.lst .ro 1 (zE b)),(13,.int .i64 d2),(108,.bool true),(109,U.tup [])] [] ([SB.box [.lst .ro 1 (zE (Ln.slots l)),.int .i64 (Ln.left l),.int .i64 (Ln.right l),.int .i64 (Ln.run l)]]) (.n5 rfl) rfl rfl fun fr=>?_
    refine ke rfl (ke rfl (ke rfl (zAT rfl rfl rfl rfl ?_)))
    refine zAT rfl rfl rfl rfl ?_
    refine zAT rfl rfl rfl rfl ?_
    refine zAT rfl rfl rfl rfl ?_
    refine ke rfl (kF rfl ?_)
    refine zT [(118,.bool true)] [] ([SB.box [.lst .ro 1 (zE (Ln.slots l)),.int .i64 (Ln.left l),.int .i64 (Ln.right l),.int .i64 (Ln.run l)]]) (.n1 rfl) rfl rfl fun fr=>?_
    refine zA rfl (kf rfl (zK rfl (r26) (.lrefl _) (kF rfl ?_)))
    refine zC rfl (zB (za ?_))
    refine⟨.inr rfl,_,.cons _ _ _ _ (.tmp 4) .nil,?_⟩
    exact .refl _
   |true=>
    rw[hd]at q43 q15
    obtain⟨hc1,hc2⟩:=hcmp hd
    by_cases c:d1<d2
    ·refine kQ ?_
     refine yG rfl rfl (zC rfl (zB ?_))
     refine zH [(1,.lst .ro 1 (zE bits)),(2,U.box 0 0)] ([SB.box [.lst .ro 1 (zE (Ln.slots l)),.int .i64 (Ln.left l),.int .i64 (Ln.right l),.int .i64 (Ln.run l)]]) (.n2 rfl) rfl fun fr=>?_
     refine k_seq (kQ (kC sh24 rfl (zK rfl (q41) (.lrefl _) (yE rfl rfl (zB (k_cF rfl rfl ?_))))))
     refine zN (kQ (kC sh24 rfl (zA rfl (zK rfl (q42) (.lrefl _) (zC rfl (zB (kQ (kC sh24 rfl (zA rfl (zK rfl (q15) (.lrefl _) (zA rfl (kw rfl (kw rfl (zC rfl (zC rfl ?_)))))))))))))))
     refine zB ?_
     refine zH [(2,U.box 0 0),(5,.lst .ro 1 (zE X)),(6,.bool true),(7,.int .i64 0)] ([SB.box [.lst .ro 1 (zE (Ln.slots l)),.int .i64 (Ln.left l),.int .i64 (Ln.right l),.int .i64 (Ln.run l)]]) (.n4 rfl) rfl fun fr=>?_
     refine kQ (kC sh24 rfl (zK rfl (q21) (.lrefl _) (zA rfl (kw rfl (kw rfl (zC rfl (zC rfl (zB (kQ (kC sh24 rfl (zK rfl (q19) (.lrefl _) (zA rfl (kw rfl (kw rfl (zC rfl ?_)))))))))))))))
     refine zC rfl (zB ?_)
     refine zH [(2,U.box 0 0),(5,.lst .ro 1 (zE X)),(6,.bool true),(7,.int .i64 0),(8,.lst .ro 1 (zE b)),(9,.int .i64 0),(10,.int .i64 ↑n),(11,.int .i64 0)] ([SB.box [.lst .ro 1 (zE (Ln.slots l)),.int .i64 (Ln.left l),.int .i64 (Ln.right l),.int .i64 (Ln.run l)]]) (.n8 rfl) rfl fun fr=>?_
     refine k_seq (kQ (zA rfl (ks rfl (zA rfl (kf rfl (zA rfl (kf rfl (ks rfl (kE rfl ?_)))))))))
     refine zA rfl (kf rfl (zA rfl (kf rfl (kC sh24 rfl ?_))))
     refine zT [(2,U.box 0 0),(5,.lst .ro 1 (zE X)),(6,.bool true),(8,.lst .ro 1 (zE b)),(9,.int .i64 0),(10,.int .i64 ↑n),(43,U.bool (decide ((0:Int)≠(0:Int)))),(44,.bool true),(45,U.agg [.lst .ro 1 (zE (Ln.slots l)),.int .i64 (Ln.left l),.int .i64 (Ln.right l),.int .i64 (Ln.run l)])] [] ([SB.box [.lst .ro 1 (zE (Ln.slots l)),.int .i64 (Ln.left l),.int .i64 (Ln.right l),.int .i64 (Ln.run l)]]) (.n9 rfl) rfl rfl fun fr=>?_
     refine kf rfl ?_
     refine zT [(2,U.box 0 0),(5,.lst .ro 1 (zE X)),(6,.bool true),(8,.lst .ro 1 (zE b)),(9,.int .i64 0),(10,.int .i64 ↑n),(43,U.bool (decide ((0:Int)≠(0:Int)))),(44,.bool true),(45,U.agg [.lst .ro 1 (zE (Ln.slots l)),.int .i64 (Ln.left l),.int .i64 (Ln.right l),.int .i64 (Ln.run l)])] [] ([SB.box [.lst .ro 1 (zE (Ln.slots l)),.int .i64 (Ln.left l),.int .i64 (Ln.right l),.int .i64 (Ln.run l)]]) (.n9 rfl) rfl rfl fun fr=>?_
     refine zA rfl (kf rfl (zK rfl (q43) (.lrefl _) (kf rfl (zEP rfl ty4 rfl rfl ?_))))
     refine kE rfl ?_
     refine zA rfl (kf rfl (zA rfl (kf rfl (kq rfl (kE rfl ?_)))))
     refine zA rfl ?_
     refine zT [(2,U.box 0 0),(5,.lst .ro 1 (zE X)),(6,.bool true),(8,.lst .ro 1 (zE b)),(9,.int .i64 0),(10,.int .i64 ↑n),(54,U.bool (decide (↑n<(0:Int))))] [] ([SB.box [.lst .ro 1 (zE (Ln.slots l)),.int .i64 (Ln.left l),.int .i64 (Ln.right l),.int .i64 (Ln.run l)]]) (.n7 rfl) rfl rfl fun fr=>?_
     refine kh rfl (kH (by omega)) ?_
     refine zT [(2,U.box 0 0),(5,.lst .ro 1 (zE X)),(6,.bool true),(8,.lst .ro 1 (zE b)),(9,.int .i64 0),(10,.int .i64 ↑n),(54,U.bool (decide (↑n<(0:Int))))] [] ([SB.box [.lst .ro 1 (zE (Ln.slots l)),.int .i64 (Ln.left l),.int .i64 (Ln.right l),.int .i64 (Ln.run l)]]) (.n7 rfl) rfl rfl fun fr=>?_
     refine zA rfl (kh rfl (kH (by omega)) (ku rfl (kh rfl (kH (by omega)) (zA rfl (kh rfl (kH (by omega)) (o_gtr rfl rfl rfl (kh rfl (kH (by omega)) (zEP rfl ty4 rfl rfl ?_))))))))
     refine kE rfl ?_
     refine zA rfl (kh rfl (by assumption) (zA rfl (kh rfl (by assumption) (ks rfl ?_))))
     refine zT [(2,U.box 0 0),(5,.lst .ro 1 (zE X)),(6,.bool true),(8,.lst .ro 1 (zE b)),(9,.int .i64 0),(61,U.bool (decide (decide ((0:Int)=(0:Int))≠decide ((0:Int)< ↑n)))),(63,U.bool (decide ((0:Int)≠(0:Int))))] [] ([SB.box [.lst .ro 1 (zE (Ln.slots l)),.int .i64 (Ln.left l),.int .i64 (Ln.right l),.int .i64 (Ln.run l)]]) (.n7 rfl) rfl rfl fun fr=>?_
     refine kh rfl (by assumption) ?_
     refine zT [(2,U.box 0 0),(5,.lst .ro 1 (zE X)),(6,.bool true),(8,.lst .ro 1 (zE b)),(9,.int .i64 0),(61,U.bool (decide (decide ((0:Int)=(0:Int))≠decide ((0:Int)< ↑n)))),(63,U.bool (decide ((0:Int)≠(0:Int))))] [] ([SB.box [.lst .ro 1 (zE (Ln.slots l)),.int .i64 (Ln.left l),.int .i64 (Ln.right l),.int .i64 (Ln.run l)]]) (.n7 rfl) rfl rfl fun fr=>?_
     refine zA rfl (ke rfl (ke rfl (kh rfl (by assumption) (kE rfl ?_))))
     refine yI rfl rfl (by assumption) ?_
     refine zB ?_
     refine zH [(2,U.box 0 0),(5,.lst .ro 1 (zE X)),(6,.bool true),(8,.lst .ro 1 (zE b)),(9,.int .i64 0),(68,.bool false)] ([SB.box [.lst .ro 1 (zE (Ln.slots l)),.int .i64 (Ln.left l),.int .i64 (Ln.right l),.int .i64 (Ln.run l)]]) (.n6 rfl) rfl fun fr=>?_
     refine k_cF rfl rfl ?_
     refine zN (k_seq (kQ (zA rfl (ks rfl (zB (k_cF rfl rfl ?_))))))
     refine zN (k_seq (kQ (kC sh24 rfl (zA rfl (zK rfl (q43b) (.lrefl _) (yE rfl rfl (zB (k_cF rfl rfl ?_))))))))
     refine zN (kQ (zA rfl (zK rfl (q45a) (.lrefl _) (zl rfl ty22 rfl (List.length_map _) ?_))))
     refine zA rfl (zK rfl (q45b) (.lrefl _) (zl rfl ty22 rfl (List.length_map _) ?_))
     refine o_sub rfl rfl rfl (by unfold I64;omega) (zK rfl (q44a) (.lrefl _) (zA rfl ?_))
     refine zT [(5,.lst .ro 1 (zE X)),(6,.bool true),(8,.lst .ro 1 (zE b)),(92,.int .i64 d1),(93,.lst .ro 1 (zE X))] [] ([SB.box [.lst .ro 1 (zE (Ln.slots l)),.int .i64 (Ln.left l),.int .i64 (Ln.right l),.int .i64 (Ln.run l)]]) (.n5 rfl) rfl rfl fun fr=>?_
     refine zK rfl (q45c) (.lrefl _) (zl rfl ty22 rfl (List.length_map _) ?_)
     refine zA rfl (zK rfl (q45d) (.lrefl _) (zl rfl ty22 rfl (List.length_map _) ?_))
     refine o_sub rfl rfl rfl (by unfold I64;omega) (zK rfl (q44b) (.lrefl _) (zC rfl (zC rfl (zB ?_))))
     refine zH [(5,.lst .ro 1 (zE X)),(6,.bool true),(8,.lst .ro 1 (zE b)),(12,.int .i64 d1),(13,.int .i64 d2)] ([SB.box [.lst .ro 1 (zE (Ln.slots l)),.int .i64 (Ln.left l),.int .i64 (Ln.right l),.int .i64 (Ln.run l)]]) (.n5 rfl) rfl fun fr=>?_
     refine kQ (zA rfl (yE rfl rfl (zA rfl (kf rfl (zA rfl (kf rfl (zA rfl (kf rfl (kq rfl (kE rfl ?_))))))))))
     refine zA rfl (kg rfl (kG (by omega)) ?_)
     refine zT [(5,.lst .ro 1 (zE X)),(8,.lst .ro 1 (zE b)),(13,.int .i64 d2),(108,U.bool (decide (d1<d2))),(109,U.tup [])] [] ([SB.box [.lst .ro 1 (zE (Ln.slots l)),.int .i64 (Ln.left l),.int .i64 (Ln.right l),.int .i64 (Ln.run l)]]) (.n5 rfl) rfl rfl fun fr=>?_
     refine kg rfl (kG (by omega)) (kg rfl (kG (by omega)) (kg rfl (kG (by omega)) (zAT rfl rfl rfl rfl ?_)))
     refine zAT rfl rfl rfl rfl ?_
     refine zAT rfl rfl rfl rfl ?_
     refine zAT rfl rfl rfl rfl ?_
     refine kg rfl (kG (by omega)) (zr rfl rfl (kG (by omega)) ?_)
     refine zT [(118,.bool true)] [] ([SB.box [.lst .ro 1 (zE (Ln.slots l)),.int .i64 (Ln.left l),.int .i64 (Ln.right l),.int .i64 (Ln.run l)]]) (.n1 rfl) rfl rfl fun fr=>?_
     refine zA rfl (kf rfl (zK rfl (r26) (.lrefl _) (kF rfl ?_)))
     refine zC rfl (zB (za ?_))
     refine⟨.inr rfl,_,.cons _ _ _ _ (.tmp 4) .nil,?_⟩
     exact .refl _
    ·have hc3:d1=d2:=by omega
     subst hc3
     have hz:=hc2 rfl
     subst hz
     refine kQ (yG rfl rfl (zC rfl (zB ?_)))
     refine zH [(1,.lst .ro 1 (zE bits)),(2,U.box 0 0)] ([SB.box [.lst .ro 1 (zE (Ln.slots l)),.int .i64 (Ln.left l),.int .i64 (Ln.right l),.int .i64 (Ln.run l)]]) (.n2 rfl) rfl fun fr=>?_
     refine k_seq (kQ (kC sh24 rfl (zK rfl (q41) (.lrefl _) (yE rfl rfl (zB (k_cF rfl rfl ?_))))))
     refine zN (kQ (kC sh24 rfl (zA rfl (zK rfl (q42) (.lrefl _) (zC rfl (zB (kQ (kC sh24 rfl (zA rfl (zK rfl (q15) (.lrefl _) (zA rfl (kw rfl (kw rfl (zC rfl (zC rfl ?_)))))))))))))))
     refine zB ?_
     refine zH [(2,U.box 0 0),(5,.lst .ro 1 (zE X)),(6,.bool true),(7,.int .i64 0)] ([SB.box [.lst .ro 1 (zE (Ln.slots l)),.int .i64 (Ln.left l),.int .i64 (Ln.right l),.int .i64 (Ln.run l)]]) (.n4 rfl) rfl fun fr=>?_
     refine kQ (kC sh24 rfl (zK rfl (q21) (.lrefl _) (zA rfl (kw rfl (kw rfl (zC rfl (zC rfl (zB (kQ (kC sh24 rfl (zK rfl (q19) (.lrefl _) (zA rfl (kw rfl (kw rfl (zC rfl ?_)))))))))))))))
     refine zC rfl (zB ?_)
     refine zH [(2,U.box 0 0),(5,.lst .ro 1 (zE X)),(6,.bool true),(7,.int .i64 0),(8,.lst .ro 1 (zE b)),(9,.int .i64 0),(10,.int .i64 ↑n),(11,.int .i64 0)] ([SB.box [.lst .ro 1 (zE (Ln.slots l)),.int .i64 (Ln.left l),.int .i64 (Ln.right l),.int .i64 (Ln.run l)]]) (.n8 rfl) rfl fun fr=>?_
     refine k_seq (kQ (zA rfl (ks rfl (zA rfl (kf rfl (zA rfl (kf rfl (ks rfl (kE rfl ?_)))))))))
     refine zA rfl (kf rfl (zA rfl (kf rfl (kC sh24 rfl ?_))))
     refine zT [(2,U.box 0 0),(5,.lst .ro 1 (zE X)),(6,.bool true),(8,.lst .ro 1 (zE b)),(9,.int .i64 0),(10,.int .i64 ↑n),(43,U.bool (decide ((0:Int)≠(0:Int)))),(44,.bool true),(45,U.agg [.lst .ro 1 (zE (Ln.slots l)),.int .i64 (Ln.left l),.int .i64 (Ln.right l),.int .i64 (Ln.run l)])] [] ([SB.box [.lst .ro 1 (zE (Ln.slots l)),.int .i64 (Ln.left l),.int .i64 (Ln.right l),.int .i64 (Ln.run l)]]) (.n9 rfl) rfl rfl fun fr=>?_
     refine kf rfl ?_
     refine zT [(2,U.box 0 0),(5,.lst .ro 1 (zE X)),(6,.bool true),(8,.lst .ro 1 (zE b)),(9,.int .i64 0),(10,.int .i64 ↑n),(43,U.bool (decide ((0:Int)≠(0:Int)))),(44,.bool true),(45,U.agg [.lst .ro 1 (zE (Ln.slots l)),.int .i64 (Ln.left l),.int .i64 (Ln.right l),.int .i64 (Ln.run l)])] [] ([SB.box [.lst .ro 1 (zE (Ln.slots l)),.int .i64 (Ln.left l),.int .i64 (Ln.right l),.int .i64 (Ln.run l)]]) (.n9 rfl) rfl rfl fun fr=>?_
     refine zA rfl (kf rfl (zK rfl (q43) (.lrefl _) (kf rfl (zEP rfl ty4 rfl rfl ?_))))
     refine kE rfl ?_
     refine zA rfl (kf rfl (zA rfl (kf rfl (kq rfl (kE rfl ?_)))))
     refine zA rfl ?_
     refine zT [(2,U.box 0 0),(5,.lst .ro 1 (zE X)),(6,.bool true),(8,.lst .ro 1 (zE b)),(9,.int .i64 0),(10,.int .i64 ↑n),(54,U.bool (decide (↑n<(0:Int))))] [] ([SB.box [.lst .ro 1 (zE (Ln.slots l)),.int .i64 (Ln.left l),.int .i64 (Ln.right l),.int .i64 (Ln.run l)]]) (.n7 rfl) rfl rfl fun fr=>?_
     refine kh rfl (kH (by omega)) ?_
     refine zT [(2,U.box 0 0),(5,.lst .ro 1 (zE X)),(6,.bool true),(8,.lst .ro 1 (zE b)),(9,.int .i64 0),(10,.int .i64 ↑n),(54,U.bool (decide (↑n<(0:Int))))] [] ([SB.box [.lst .ro 1 (zE (Ln.slots l)),.int .i64 (Ln.left l),.int .i64 (Ln.right l),.int .i64 (Ln.run l)]]) (.n7 rfl) rfl rfl fun fr=>?_
     refine zA rfl (kh rfl (kH (by omega)) (ku rfl (kh rfl (kH (by omega)) (zA rfl (kh rfl (kH (by omega)) (o_gtr rfl rfl rfl (kh rfl (kH (by omega)) (zEP rfl ty4 rfl rfl ?_))))))))
     refine kE rfl ?_
     refine zA rfl (kh rfl (by assumption) (zA rfl (kh rfl (by assumption) (ks rfl ?_))))
     refine zT [(2,U.box 0 0),(5,.lst .ro 1 (zE X)),(6,.bool true),(8,.lst .ro 1 (zE b)),(9,.int .i64 0),(61,U.bool (decide (decide ((0:Int)=(0:Int))≠decide ((0:Int)< ↑n)))),(63,U.bool (decide ((0:Int)≠(0:Int))))] [] ([SB.box [.lst .ro 1 (zE (Ln.slots l)),.int .i64 (Ln.left l),.int .i64 (Ln.right l),.int .i64 (Ln.run l)]]) (.n7 rfl) rfl rfl fun fr=>?_
     refine kh rfl (by assumption) ?_
     refine zT [(2,U.box 0 0),(5,.lst .ro 1 (zE X)),(6,.bool true),(8,.lst .ro 1 (zE b)),(9,.int .i64 0),(61,U.bool (decide (decide ((0:Int)=(0:Int))≠decide ((0:Int)< ↑n)))),(63,U.bool (decide ((0:Int)≠(0:Int))))] [] ([SB.box [.lst .ro 1 (zE (Ln.slots l)),.int .i64 (Ln.left l),.int .i64 (Ln.right l),.int .i64 (Ln.run l)]]) (.n7 rfl) rfl rfl fun fr=>?_
     refine zA rfl (ke rfl (ke rfl (kh rfl (by assumption) (kE rfl ?_))))
     refine yI rfl rfl (by assumption) ?_
     refine zB ?_
     refine zH [(2,U.box 0 0),(5,.lst .ro 1 (zE X)),(6,.bool true),(8,.lst .ro 1 (zE b)),(9,.int .i64 0),(68,.bool false)] ([SB.box [.lst .ro 1 (zE (Ln.slots l)),.int .i64 (Ln.left l),.int .i64 (Ln.right l),.int .i64 (Ln.run l)]]) (.n6 rfl) rfl fun fr=>?_
     refine k_cF rfl rfl ?_
     refine zN (k_seq (kQ (zA rfl (ks rfl (zB (k_cF rfl rfl ?_))))))
     refine zN (k_seq (kQ (kC sh24 rfl (zA rfl (zK rfl (q43b) (.lrefl _) (yE rfl rfl (zB (k_cF rfl rfl ?_))))))))
     refine zN (kQ (zA rfl (zK rfl (q45a) (.lrefl _) (zl rfl ty22 rfl (List.length_map _) ?_))))
     refine zA rfl (zK rfl (q45b) (.lrefl _) (zl rfl ty22 rfl (List.length_map _) ?_))
     refine o_sub rfl rfl rfl (by unfold I64;omega) (zK rfl (q44a) (.lrefl _) (zA rfl ?_))
     refine zT [(5,.lst .ro 1 (zE X)),(6,.bool true),(8,.lst .ro 1 (zE b)),(92,.int .i64 d1),(93,.lst .ro 1 (zE X))] [] ([SB.box [.lst .ro 1 (zE (Ln.slots l)),.int .i64 (Ln.left l),.int .i64 (Ln.right l),.int .i64 (Ln.run l)]]) (.n5 rfl) rfl rfl fun fr=>?_
     refine zK rfl (q45c) (.lrefl _) (zl rfl ty22 rfl (List.length_map _) ?_)
     refine zA rfl (zK rfl (q45d) (.lrefl _) (zl rfl ty22 rfl (List.length_map _) ?_))
     refine o_sub rfl rfl rfl (by unfold I64;omega) (zK rfl (q44b) (.lrefl _) (zC rfl (zC rfl (zB ?_))))
     refine zH [(5,.lst .ro 1 (zE X)),(6,.bool true),(8,.lst .ro 1 (zE b)),(12,.int .i64 d1),(13,.int .i64 d1)] ([SB.box [.lst .ro 1 (zE (Ln.slots l)),.int .i64 (Ln.left l),.int .i64 (Ln.right l),.int .i64 (Ln.run l)]]) (.n5 rfl) rfl fun fr=>?_
     refine kQ (zA rfl (yE rfl rfl (zA rfl (kf rfl (zA rfl (kf rfl (zA rfl (kf rfl (kq rfl (kE rfl ?_))))))))))
     refine zA rfl (kh rfl (kH (by omega)) (zA rfl ?_))
     refine zT [(5,.lst .ro 1 (zE X)),(8,.lst .ro 1 (zE b)),(13,.int .i64 d1),(108,U.bool (decide (d1<d1))),(109,.int .i64 d1)] [] ([SB.box [.lst .ro 1 (zE (Ln.slots l)),.int .i64 (Ln.left l),.int .i64 (Ln.right l),.int .i64 (Ln.run l)]]) (.n5 rfl) rfl rfl fun fr=>?_
     refine kh rfl (kH (by omega)) ?_
     refine zT [(5,.lst .ro 1 (zE X)),(8,.lst .ro 1 (zE b)),(13,.int .i64 d1),(108,U.bool (decide (d1<d1))),(109,.int .i64 d1)] [] ([SB.box [.lst .ro 1 (zE (Ln.slots l)),.int .i64 (Ln.left l),.int .i64 (Ln.right l),.int .i64 (Ln.run l)]]) (.n5 rfl) rfl rfl fun fr=>?_
     refine zA rfl (kh rfl (kH (by omega)) (ku rfl (kh rfl (kH (by omega)) (zA rfl (kh rfl (kG (by omega)) ?_)))))
     refine zA rfl (kh rfl (kG (by omega)) ?_)
     refine zA rfl (kh rfl (kG (by omega)) ?_)
     refine zK rfl (q46) (.lrefl _) (kh rfl (kG (by omega)) ?_)
     refine yE rfl rfl (kh rfl (kH (by omega)) (zr rfl rfl (kG (by omega)) ?_))
     refine yI rfl rfl (kH (by omega)) ?_
     refine zT [(118,U.bool !Bool.false)] [] ([SB.box [.lst .ro 1 (zE (Ln.slots l)),.int .i64 (Ln.left l),.int .i64 (Ln.right l),.int .i64 (Ln.run l)]]) (.n1 rfl) rfl rfl fun fr=>?_
     refine zA rfl (kf rfl (zK rfl (r26) (.lrefl _) (kF rfl ?_)))
     refine zC rfl (zB (za ?_))
     refine⟨.inr rfl,_,.cons _ _ _ _ (.tmp 4) .nil,?_⟩
     exact .refl _
end
section
variable {is:FuncId→Bool}{orc:Known}
theorem ret6_all(hi:Off is)(r26:RetP Tryd.prog is orc 26 [] (.bool true)):∀us,ShpAs Tryd.prog [24,22] us→RetP Tryd.prog is orc 6 us (.bool true):=by
 intro us h
 cases h with
 |cons _ _ u us h1 h=>cases h with
 |cons _ _ v us h2 h=>
 cases h
 obtain⟨fs,hu⟩:=und24
 unfold ShpA at h1 h2
 rw[hu]at h1
 rw[u22]at h2
 obtain⟨l,rfl⟩:=arg_ln h1
 obtain⟨a,rfl⟩:=arg_ints h2
 exact ret6 hi l a r26
end
end Go.Proofs.YthhbfbmfhldbaaaDoor.locks
