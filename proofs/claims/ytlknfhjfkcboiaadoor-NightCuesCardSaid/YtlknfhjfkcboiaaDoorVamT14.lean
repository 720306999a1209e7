import Derived.Test.YtlknfhjfkcboiaaDoorVamT13
set_option linter.unusedVariables false
set_option linter.unusedSimpArgs false
set_option linter.constructorNameAsVariable false
namespace Go.Proofs.YtlknfhjfkcboiaaDoor.night
open Vam
section
variable {is:FuncId→Bool}{orc:Known}{b:Bk}
noncomputable def b44:Code:=(Tryd.f44.body).getD .skip
theorem body44:bodyOf Tryd.prog 44=some (10,b44,[.tmp 4]):=by kernel_rfl
theorem pure44:pureFn Tryd.prog 44=true:=by kernel_rfl
noncomputable def b85:Code:=(Tryd.f85.body).getD .skip
theorem body85:bodyOf Tryd.prog 85=some (20,b85,[.tmp 4]):=by kernel_rfl
theorem pure85:pureFn Tryd.prog 85=true:=by kernel_rfl
noncomputable def b53:Code:=(Tryd.f53.body).getD .skip
theorem body53:bodyOf Tryd.prog 53=some (32,b53,[.tmp 4]):=by kernel_rfl
theorem pure53:pureFn Tryd.prog 53=true:=by kernel_rfl
noncomputable def b86:Code:=(Tryd.f86.body).getD .skip
theorem body86:bodyOf Tryd.prog 86=some (25,b86,[.tmp 4]):=by kernel_rfl
theorem pure86:pureFn Tryd.prog 86=true:=by kernel_rfl
theorem ofI_nat{a:Nat}(ha:a<1000000):(BitVec.ofInt 64 (a:Int)).toNat=a:=by rw[BitVec.toNat_ofInt];omega
def anZ(x y:Int):Int:=IntKind.i64.wrap (((BitVec.ofInt 64 x) &&& (BitVec.ofInt 64 y)).toNat:Int)
section ops
variable {P:Program}{s:St}{all l:List Oper}{d:Nat}{x y:Operand}{xt yt t:TypeId}{p:String}{e:Array Edge}{Q:St→Prop}{a c:Int}
theorem o_anZ(hd:Nat.blt d 1024=true)(hx:zT s x=.int .i64 a)(hy:zT s y=.int .i64 c)(hk:WpO P is orc all l (s.put d (.int .i64 (anZ a c))) Q):WpO P is orc all (⟨some d,.binOp .and xt x y yt,t,p,e,none⟩::l) s Q:=
 zEz hd hx hy (v:=.int .i64 (anZ a c)) rfl rfl hk
end ops
theorem wrap_nat{n:Nat}(h:n<2 ^ 20):IntKind.i64.wrap (n:Int)=n:=by
 have h1:zFW .i64 (n:Int)=n:=wrap64 (by unfold I64;omega)
 rw[zBq]at h1;exact h1
theorem anZ_nat{a c:Nat}(ha:a<2 ^ 20)(h1:a<1000000)(h2:c<1000000):anZ a c=((a &&& c:Nat):Int):=by
 unfold anZ
 rw[BitVec.toNat_and,ofI_nat h1,ofI_nat h2]
 exact wrap_nat (Nat.lt_of_le_of_lt Nat.and_le_left ha)
theorem ret44(hi:Off is){s i:Nat}(hs:s≤1000000)(hl:i≤60):RetP Tryd.prog is orc 44 [.int .i64 s,.int .i64 i] (.bool (bt s i)):=by
 have hbt:=bt_eq s i
 have hfd:=fdiv_b (n:=(s:Int)) i (by omega)
 refine zp body44 pure44 (hi 44 (by decide)) rfl rfl (zu (.int _ _ _) (.int _ _ _)) (.inl (.bool _ _)) ?_
 rw[←hbt]
 refine kQ (zB rfl (zC (kQ (zA rfl (zA rfl (o_shr rfl rfl rfl (by omega) ?_))))))
 refine o_andOne rfl rfl rfl hfd ?_
 refine kw rfl (zB rfl (zC (zS ?_)))
 refine⟨.inr rfl,_,.cons _ _ _ _ (.tmp 4) .nil,?_⟩
 exact .refl _
set_option maxHeartbeats 8000000 in
theorem ret85(hi:Off is){s n:Nat}(hs:s≤1000000)(hn:n≤16):RetP Tryd.prog is orc 85 [.int .i64 s,.int .i64 n] (.lst .ro 1 (zE (memP (bt s) n))):=by
 refine zp body85 pure85 (hi 85 (by decide)) rfl rfl (zu (.int _ _ _) (.int _ _ _)) (.inl (zR 6 .ro (fun h=>by cases h) 1 _)) ?_
 refine kQ (zB rfl (zC (kQ (zB rfl (zC (k_seq (kQ (zB rfl (zC (zH ?_))))))))))
 refine yR (fun kk s2=>∃i:Nat,kk+i=n∧s2.st=[]∧Holds s2 [(0,.int .i64 s),(1,.int .i64 n),(5,accI (memP (bt s) i)),(6,.int .i64 i)]) (fun kk s2 hI=>?_) n _ ⟨0,rfl,rfl,.c4 rfl rfl rfl rfl (.nil rfl)⟩
 obtain⟨i,hk,hst2,hs2⟩:=hI
 have hsu:=zBH (bt s) i
 have hlen:=zCA (bt s) i
 obtain⟨M,hM⟩:∃M,M=memP (bt s) i:=⟨_,rfl⟩
 rw[←hM]at hsu hlen hs2
 by_cases hin:i<n
 ·have q44:=ret44 (orc:=orc) hi (s:=s) (i:=i) hs (by omega)
  refine zF _ _ hs2 hst2 fun fr2=>?_
  cases hb:bt s i with
  |true=>
   rw[hb]at q44
   rw[hb,if_pos rfl]at hsu
   cases M with
   |nil=>
    refine k_seq (kQ (zA rfl (zA rfl (kq rfl (zC (k_cT rfl (kH (by omega)) (zJ (k_seq (zH (kQ (zA rfl (zA rfl (zG rfl (q44) (.lrefl _) (zC (k_cT rfl rfl ?_)))))))))))))))
    refine k_region (zA rfl (zA rfl (wW (es:=[.int .i64 ↑i]) rfl ty22 ze3 cl3 rfl rfl rfl rfl rfl rfl rfl rfl ?_)))
    refine wC rfl wF rfl rfl (by simp) (by simp) (by simp[yF,zg,oneU]) (by simp) ?_
    refine zB rfl (zC ?_)
    refine zF [(0,.int .i64 ↑s),(1,.int .i64 ↑n),(5,U.lst Kd.own 1 [.int .i64 ↑i]),(6,.int .i64 ↑i)] ([]) (.n4 rfl) rfl fun fr=>?_
    refine k_region (zA rfl ?_)
    refine kB rfl (by unfold I64;omega) (zB rfl (zC ?_))
    exact⟨kk - 1,by omega,i+1,by omega,rfl,.cons rfl (.cons rfl (.cons (by rw[hsu];rfl) (.n1 rfl)))⟩
   |cons y M=>
    refine k_seq (kQ (zA rfl (zA rfl (kq rfl (zC (k_cT rfl (kH (by omega)) (zJ (k_seq (zH (kQ (zA rfl (zA rfl (zG rfl (q44) (.lrefl _) (zC (k_cT rfl rfl ?_)))))))))))))))
    refine k_region (zA rfl (zA rfl (wW (es:=[.int .i64 ↑i]) rfl ty22 ze3 cl3 rfl rfl rfl rfl rfl rfl rfl rfl ?_)))
    refine wX 5 rfl wF rfl rfl rfl (by simp) (by simp) (by simp[yF,zg,oneU]) (by simp at hlen ⊢;omega) ?_
    refine zB rfl (zC (k_region (zA rfl ?_)))
    refine kB rfl (by unfold I64;omega) (zB rfl (zC ?_))
    exact⟨kk - 1,by omega,i+1,by omega,rfl,.cons rfl (.cons rfl (.cons (by rw[hsu,wO];rfl) (.n1 rfl)))⟩
  |false=>
   rw[hb]at q44
   rw[hb,if_neg (by decide),List.append_nil]at hsu
   refine k_seq (kQ (zA rfl (zA rfl (kq rfl (zC (k_cT rfl (kH (by omega)) (zJ (k_seq (zH (kQ (zA rfl (zA rfl (zG rfl (q44) (.lrefl _) (zC (k_cF rfl rfl ?_)))))))))))))))
   refine zJ (k_region (zA rfl ?_))
   refine kB rfl (by unfold I64;omega) (zB rfl (zC ?_))
   exact⟨kk - 1,by omega,i+1,by omega,rfl,.cons rfl (.cons rfl (.cons (congrArg accI hsu.symm) (.n1 rfl)))⟩
 ·have hie:n=i:=by omega
  rw[hie,←hM]
  refine zF _ _ hs2 hst2 fun fr2=>?_
  cases M with
  |nil=>
   refine k_seq (kQ (zA rfl (zA rfl (kq rfl (zC (k_cF rfl (kI (by omega)) (zr (kQ (zA rfl (zB rfl (zC (zS ?_))))))))))))
   refine⟨.inr rfl,_,.cons _ _ _ _ (.tmp 4) .nil,?_⟩
   exact .nil _ _ _
  |cons y M=>
   refine k_seq (kQ (zA rfl (zA rfl (kq rfl (zC (k_cF rfl (kI (by omega)) (zr (kQ (zA rfl (zB rfl (zC (zS ?_))))))))))))
   refine⟨.inr rfl,_,.cons _ _ _ _ (.tmp 4) .nil,?_⟩
   exact .refl _
def grwB:Int→Int→List Int→Bool
 |_,_,[]=>true
 |q,n,x::l=>decide (q<x)&&(decide (x<n)&&grwB x n l)
theorem grw_iff{n:Int}:∀(L:List Int) (q:Int),grwB q n L=true↔L.Pairwise (fun x y=>x<y)∧∀x∈L,q<x∧x<n:=by
 intro L
 induction L with
 |nil=>intro q;exact⟨fun _=>⟨List.Pairwise.nil,(fun x h=>by cases h)⟩,fun _=>rfl⟩
 |cons y L ih=>
  intro q
  unfold grwB
  rw[Bool.and_eq_true,Bool.and_eq_true,decide_eq_true_eq,decide_eq_true_eq,ih y,List.pairwise_cons]
  constructor
  ·rintro⟨h1,h2,h3,h4⟩
   refine⟨⟨fun z hz=>(h4 z hz).1,h3⟩,fun z hz=>?_⟩
   rcases List.mem_cons.1 hz with rfl|hz
   ·exact⟨h1,h2⟩
   ·have:=h4 z hz;exact⟨by omega,this.2⟩
  ·rintro⟨⟨h1,h2⟩,h3⟩
   exact⟨(h3 y List.mem_cons_self).1,(h3 y List.mem_cons_self).2,h2,fun z hz=>⟨h1 z hz,(h3 z (List.mem_cons_of_mem _ hz)).2⟩⟩
theorem chF_grw{b:Bk}:∀(L:List Int) (q:Int),chF b q L=(grwB q b.scenes.length L&&L.all fun x=> !zAT b x.toNat):=by
 intro L
 induction L with
 |nil=>intro q;rfl
 |cons y L ih=>
  intro q
  show(decide (q<y)&&(decide (y<b.scenes.length)&&(!zAT b y.toNat&&chF b y L)))=((decide (q<y)&&(decide (y<b.scenes.length)&&grwB y b.scenes.length L))&&(!zAT b y.toNat&&L.all fun x=> !zAT b x.toNat))
  rw[ih y]
  cases decide (q<y)<;>cases decide (y<b.scenes.length)<;>cases zAT b y.toNat<;>simp
set_option maxHeartbeats 8000000 in
theorem ret43g(hi:Off is){n:Nat}(hn:n≤16)(L:List Int):RetP Tryd.prog is orc 43 [.lst .ro 1 (zE L),.int .i64 n] (.bool (grwB (-1) n L)):=by
 refine zp body43 pure43 (hi 43 (by decide)) rfl rfl (zu (zR 6 .ro (fun h=>by cases h) 1 L) (.int _ _ _)) (.inl (.bool _ _)) ?_
 generalize hz:grwB (-1) n L=z
 refine kQ (zB rfl (zC (kQ (zB rfl (zC (k_seq (kQ (zB rfl (zC (zH ?_))))))))))
 refine yR (fun kk s2=>∃i:Nat,kk+i=L.length∧z=grwB (lstI L i) n (L.drop i)∧(i:Int)≤lstI L i+1∧lstI L i<16∧s2.st=[]∧Holds s2 [(0,.lst .ro 1 (zE L)),(1,.int .i64 n),(5,.int .i64 (lstI L i)),(6,.int .i64 i)]) (fun kk s2 hI=>?_) L.length _ ⟨0,rfl,hz.symm,(by show(0:Int)≤ -1+1;omega),(by show(-1:Int)<16;omega),rfl,.c4 rfl rfl rfl rfl (.nil rfl)⟩
 obtain⟨i,hk,hw,hb1,hb2,hst2,hs2⟩:=hI
 clear hz
 have hln:∀x,L[i]? =some x→lstI L (i+1)=x:=fun x hx=>by show(L[i]?).getD 0=x;rw[hx];rfl
 generalize lstI L i=p at*
 refine zF _ _ hs2 hst2 fun fr2=>?_
 by_cases hin:i<L.length
 ·obtain⟨x,hx⟩:∃x,L[i]? =some x:=⟨L[i],List.getElem?_eq_getElem hin⟩
  have hl2:=hln x hx
  rw[zAr hx]at hw
  have hw:z=(decide (p<x)&&(decide (x<(n:Int))&&grwB x n (L.drop (i+1)))):=hw
  by_cases c1:p<x
  ·rw[kH c1,Bool.true_and]at hw
   by_cases c2:x<n
   ·rw[kH c2,Bool.true_and]at hw
    refine k_seq (kQ (zA rfl (zA rfl (zP rfl ty22 rfl (List.length_map _) ?_))))
    refine kq rfl (zC (k_cT rfl (kH (by omega)) (zJ (k_seq (zH (k_seq (kQ (zA rfl (zA rfl (zX (u:=.int .i64 (x)) rfl ty22 rfl rfl (Int.natCast_nonneg _) (by simp[hx]) cl3 ?_))))))))))
    refine kE sh3 rfl ?_
    refine zA rfl (ks rfl (zA rfl (kh rfl (kI (by omega)) (zA rfl (kh rfl (kI (by omega)) (zA rfl ?_))))))
    refine zL [(0,.lst .ro 1 (zE L)),(1,.int .i64 ↑n),(6,.int .i64 ↑i),(19,U.bool (decide (x≤p))),(20,.lst .ro 1 (zE L)),(21,.int .i64 ↑i)] [] ([]) (.n6 rfl) rfl rfl fun fr=>?_
    refine kh rfl (kI (by omega)) ?_
    refine zL [(0,.lst .ro 1 (zE L)),(1,.int .i64 ↑n),(6,.int .i64 ↑i),(19,U.bool (decide (x≤p))),(20,.lst .ro 1 (zE L)),(21,.int .i64 ↑i)] [] ([]) (.n6 rfl) rfl rfl fun fr=>?_
    refine zX (u:=.int .i64 (x)) rfl ty22 rfl rfl (Int.natCast_nonneg _) (by simp[hx]) cl3 ?_
    refine kh rfl (kI (by omega)) (kE sh3 rfl ?_)
    refine kh rfl (kI (by omega)) (zA rfl (kh rfl (kI (by omega)) (zFo rfl rfl rfl (zW rfl rfl (kI (by omega)) ?_))))
    refine zC ?_
    refine zF [(0,.lst .ro 1 (zE L)),(1,.int .i64 ↑n),(6,.int .i64 ↑i),(26,U.bool (decide (↑n≤x)))] ([]) (.n4 rfl) rfl fun fr=>?_
    refine k_cF rfl (kI (by omega)) (zJ (k_region (zA rfl (zA rfl (zX (u:=.int .i64 (x)) rfl ty22 rfl rfl (Int.natCast_nonneg _) (by simp[hx]) cl3 ?_)))))
    refine kE sh3 rfl ?_
    refine zB rfl (zC (k_region (zA rfl ?_)))
    refine kB rfl (by unfold I64;omega) (zB rfl (zC ?_))
    exact⟨kk - 1,by omega,i+1,by omega,by rw[hl2];exact hw,by omega,by omega,rfl,.cons rfl (.cons rfl (.cons (by rw[hl2];rfl) (.n1 rfl)))⟩
   ·rw[kI c2,Bool.false_and]at hw
    obtain rfl:z=false:=hw
    refine k_seq (kQ (zA rfl (zA rfl (zP rfl ty22 rfl (List.length_map _) ?_))))
    refine kq rfl (zC (k_cT rfl (kH (by omega)) (zJ (k_seq (zH (k_seq (kQ (zA rfl (zA rfl (zX (u:=.int .i64 (x)) rfl ty22 rfl rfl (Int.natCast_nonneg _) (by simp[hx]) cl3 ?_))))))))))
    refine kE sh3 rfl ?_
    refine zA rfl (ks rfl (zA rfl (kh rfl (kI (by omega)) (zA rfl (kh rfl (kI (by omega)) (zA rfl ?_))))))
    refine zL [(0,.lst .ro 1 (zE L)),(1,.int .i64 ↑n),(6,.int .i64 ↑i),(19,U.bool (decide (x≤p))),(20,.lst .ro 1 (zE L)),(21,.int .i64 ↑i)] [] ([]) (.n6 rfl) rfl rfl fun fr=>?_
    refine kh rfl (kI (by omega)) ?_
    refine zL [(0,.lst .ro 1 (zE L)),(1,.int .i64 ↑n),(6,.int .i64 ↑i),(19,U.bool (decide (x≤p))),(20,.lst .ro 1 (zE L)),(21,.int .i64 ↑i)] [] ([]) (.n6 rfl) rfl rfl fun fr=>?_
    refine zX (u:=.int .i64 (x)) rfl ty22 rfl rfl (Int.natCast_nonneg _) (by simp[hx]) cl3 ?_
    refine kh rfl (kI (by omega)) (kE sh3 rfl ?_)
    refine kh rfl (kI (by omega)) (zA rfl (kh rfl (kI (by omega)) (zFo rfl rfl rfl (zW rfl rfl (kI (by omega)) ?_))))
    refine zC ?_
    refine zF [(0,.lst .ro 1 (zE L)),(1,.int .i64 ↑n),(6,.int .i64 ↑i),(26,U.bool (decide (↑n≤x)))] ([]) (.n4 rfl) rfl fun fr=>?_
    refine k_cT rfl (kH (by omega)) (kQ (zB rfl (zC (zS ?_))))
    refine⟨.inr rfl,_,.cons _ _ _ _ (.tmp 4) .nil,?_⟩
    exact .refl _
  ·rw[kI c1,Bool.false_and]at hw
   obtain rfl:z=false:=hw
   refine k_seq (kQ (zA rfl (zA rfl (zP rfl ty22 rfl (List.length_map _) ?_))))
   refine kq rfl (zC (k_cT rfl (kH (by omega)) (zJ (k_seq (zH (k_seq (kQ (zA rfl (zA rfl (zX (u:=.int .i64 (x)) rfl ty22 rfl rfl (Int.natCast_nonneg _) (by simp[hx]) cl3 ?_))))))))))
   refine kE sh3 rfl ?_
   refine zA rfl (ks rfl (zA rfl (kg rfl (kH (by omega)) (kg rfl (kH (by omega)) ?_))))
   refine zL [(0,.lst .ro 1 (zE L)),(1,.int .i64 ↑n),(6,.int .i64 ↑i),(19,U.bool (decide (x≤p)))] [] ([]) (.n4 rfl) rfl rfl fun fr=>?_
   refine kg rfl (kH (by omega)) (kg rfl (kH (by omega)) (kg rfl (kH (by omega)) (kg rfl (kH (by omega)) (zc rfl rfl (kH (by omega)) ?_))))
   refine zC ?_
   refine zF [(0,.lst .ro 1 (zE L)),(1,.int .i64 ↑n),(6,.int .i64 ↑i),(26,.bool true)] ([]) (.n4 rfl) rfl fun fr=>?_
   refine k_cT rfl rfl ?_
   refine kQ (zB rfl (zC (zS ?_)))
   refine⟨.inr rfl,_,.cons _ _ _ _ (.tmp 4) .nil,?_⟩
   exact .refl _
 ·have hd:L.drop i=[]:=List.drop_eq_nil_of_le (by omega)
  rw[hd]at hw
  obtain rfl:z=true:=hw
  refine k_seq (kQ (zA rfl (zA rfl (zP rfl ty22 rfl (List.length_map _) ?_))))
  refine kq rfl (zC (k_cF rfl (kI (by omega)) (zr (kQ (zB rfl (zC (zS ?_)))))))
  refine⟨.inr rfl,_,.cons _ _ _ _ (.tmp 4) .nil,?_⟩
  exact .refl _
end
section
variable {is:FuncId→Bool}{orc:Known}{b:Bk}
noncomputable def b54:Code:=(Tryd.f54.body).getD .skip
theorem body54:bodyOf Tryd.prog 54=some (93,b54,[.tmp 6]):=by kernel_rfl
theorem pure54:pureFn Tryd.prog 54=true:=by kernel_rfl
noncomputable def b59:Code:=(Tryd.f59.body).getD .skip
theorem body59:bodyOf Tryd.prog 59=some (43,b59,[.tmp 6]):=by kernel_rfl
theorem pure59:pureFn Tryd.prog 59=true:=by kernel_rfl
set_option maxHeartbeats 8000000 in
theorem ret53(hi:Off is)(h:BOk b)(L:List Int):RetP Tryd.prog is orc 53 [b.u,.lst .ro 1 (zE L)] (.bool (chF b (-1) L)):=by
 have hn:=h.sn
 have q43:=ret43g (orc:=orc) hi (n:=b.scenes.length) (by omega) L
 have hcg:=chF_grw (b:=b) L (-1)
 refine zp body53 pure53 (hi 53 (by decide)) rfl rfl (zu (wU b 4) (zR 6 .ro (fun h=>by cases h) 1 L)) (.inl (.bool _ _)) ?_
 rw[hcg]
 cases hg:grwB (-1) b.scenes.length L with
 |false=>
  rw[hg]at q43
  rw[Bool.false_and]
  refine kQ (yB rfl rfl (zB rfl (zC ?_)))
  refine zF [(1,.lst .ro 1 (zE L)),(2,U.box 0 0)] ([SB.box (Bk.cs b)]) (.n2 rfl) rfl fun fr=>?_
  refine kQ (zA rfl (kA rfl ze (kC sh23 rfl (zP rfl ty23 rfl (List.length_map _) ?_))))
  refine zG rfl (q43) (.lrefl _) (zB rfl (zC (k_seq (kQ (zB rfl (zC (zH ?_)))))))
  refine yR (fun kk s2=>s2.st=[.box (Bk.cs b)]∧Holds s2 [(1,.lst .ro 1 (zE L)),(2,.box 0 0),(5,.bool false),(6,.int .i64 0)]) (fun kk s2 hI=>?_) 0 _ ⟨rfl,.c4 rfl rfl rfl rfl (.nil rfl)⟩
  obtain⟨hst2,hs2⟩:=hI
  refine zF _ _ hs2 hst2 fun fr2=>?_
  refine k_seq (kQ (zA rfl (zA rfl (ke rfl (ke rfl (ke rfl (ke rfl (kF rfl ?_))))))))
  refine zC (k_cF rfl rfl ?_)
  refine zr (kQ (zA rfl (zB rfl (zC (zS ?_)))))
  refine⟨.inr rfl,_,.cons _ _ _ _ (.tmp 4) .nil,?_⟩
  exact .refl _
 |true=>
  rw[hg]at q43
  obtain⟨hp,hr⟩:=(grw_iff L (-1)).1 hg
  have hl:=pw_len (n:=b.scenes.length) hp fun x hx=>by have:=hr x hx;omega
  rw[Bool.true_and]
  refine kQ (yB rfl rfl (zB rfl (zC ?_)))
  refine zF [(1,.lst .ro 1 (zE L)),(2,U.box 0 0)] ([SB.box (Bk.cs b)]) (.n2 rfl) rfl fun fr=>?_
  refine kQ (zA rfl (kA rfl ze (kC sh23 rfl (zP rfl ty23 rfl (List.length_map _) ?_))))
  refine zG rfl (q43) (.lrefl _) (zB rfl (zC (k_seq (kQ (zB rfl (zC (zH ?_)))))))
  refine yR (fun kk s2=>∃i:Nat,kk+i=L.length∧s2.st=[.box (Bk.cs b)]∧Holds s2 [(1,.lst .ro 1 (zE L)),(2,.box 0 0),(5,.bool ((L.take i).all fun x=> !zAT b x.toNat)),(6,.int .i64 i)]) (fun kk s2 hI=>?_) L.length _ ⟨0,rfl,rfl,.c4 rfl rfl rfl rfl (.nil rfl)⟩
  obtain⟨i,hk,hst2,hs2⟩:=hI
  have hmono:((L.take i).all fun x=> !zAT b x.toNat)=false→(L.all fun x=> !zAT b x.toNat)=false:=fun h1=>by
   rw[List.all_eq_false]at h1 ⊢
   obtain⟨x,hx,h2⟩:=h1
   exact⟨x,List.mem_of_mem_take hx,h2⟩
  by_cases hin:i<L.length
  ·obtain⟨x,hx⟩:∃x,L[i]? =some x:=⟨L[i],List.getElem?_eq_getElem hin⟩
   have hxr:=hr x (List.mem_of_getElem? hx)
   obtain⟨q,hq⟩:∃q,b.scenes[x.toNat]? =some q:=⟨b.scenes[x.toNat],List.getElem?_eq_getElem (by omega)⟩
   have hqm:zAT b x.toNat=q.must:=by unfold zAT;rw[hq];rfl
   have hsu:((L.take (i+1)).all fun x=> !zAT b x.toNat)=(((L.take i).all fun x=> !zAT b x.toNat)&& !q.must):=by rw[List.take_add_one,hx,List.all_append,←hqm];simp
   generalize (L.take i).all (fun x=> !zAT b x.toNat)=z at*
   refine zF _ _ hs2 hst2 fun fr2=>?_
   cases z with
   |false=>
    rw[hmono rfl]
    refine k_seq (kQ (zA rfl (zA rfl (ke rfl (ke rfl (ke rfl (ke rfl (kF rfl ?_))))))))
    refine zC (k_cF rfl rfl ?_)
    refine zr (kQ (zA rfl (zB rfl (zC (zS ?_)))))
    refine⟨.inr rfl,_,.cons _ _ _ _ (.tmp 4) .nil,?_⟩
    exact .refl _
   |true=>
    refine k_seq (kQ (zA rfl (zA rfl (kf rfl (zA rfl (kf rfl (zA rfl (kf rfl (zP rfl ty22 rfl (List.length_map _) ?_)))))))))
    refine kf rfl (kq rfl (kG rfl ?_))
    refine zC (k_cT rfl (kH (by omega)) (zJ (k_seq (zH (wH [.plain,.read true,.plain,.plain,.plain,.read true,.plain,.plain,.plain,.plain,.plain] (by kernel_rfl) (by kernel_rfl) (by kernel_rfl) ?_)))))
    refine zD (kA rfl ze (zC rfl)) ?_
    refine zV rfl (kC sh23 rfl (zC rfl)) (zD (zA rfl (zC rfl)) (zD (zA rfl (zC rfl)) (zD (zX (u:=.int .i64 (x)) rfl ty22 rfl rfl (Int.natCast_nonneg _) (by simp[hx]) cl3 (zC rfl)) ?_)))
    refine zV rfl (kE sh3 rfl (zC rfl)) ?_
    refine zD (zX (u:=(q).u) rfl ty23 rfl rfl (by omega) (by simp[hq]) cl50 (zC rfl)) ?_
    refine zD (yV rfl rfl zEY (zC rfl)) ?_
    refine zD (kE sh4 rfl (zC rfl)) ?_
    refine zD (zh rfl rfl (zC rfl)) ?_
    refine zD (zB rfl (zC rfl)) ?_
    refine zAo ?_
    refine k_region (zA rfl ?_)
    refine kB rfl (by unfold I64;omega) (zB rfl (zC ?_))
    exact⟨kk - 1,by omega,i+1,by omega,rfl,.cons rfl (.cons rfl (.cons (by rw[hsu];rfl) (.n1 rfl)))⟩
  ·have hie:i=L.length:=by omega
   subst hie
   rw[List.take_length]at*
   generalize L.all (fun x=> !zAT b x.toNat)=z at*
   refine zF _ _ hs2 hst2 fun fr2=>?_
   cases z with
   |false=>
    refine k_seq (kQ (zA rfl (zA rfl (ke rfl (ke rfl (ke rfl (ke rfl (kF rfl ?_))))))))
    refine zC (k_cF rfl rfl ?_)
    refine zr (kQ (zA rfl (zB rfl (zC (zS ?_)))))
    refine⟨.inr rfl,_,.cons _ _ _ _ (.tmp 4) .nil,?_⟩
    exact .refl _
   |true=>
    refine k_seq (kQ (zA rfl (zA rfl (kf rfl (zA rfl (kf rfl (zA rfl (kf rfl (zP rfl ty22 rfl (List.length_map _) ?_)))))))))
    refine kf rfl (kq rfl (kG rfl ?_))
    refine zC (k_cF rfl (kI (by omega)) (zr (kQ (zA rfl (zB rfl (zC (zS ?_)))))))
    refine⟨.inr rfl,_,.cons _ _ _ _ (.tmp 4) .nil,?_⟩
    exact .refl _
set_option maxHeartbeats 8000000 in
theorem ret86(hi:Off is)(h:BOk b){L:List Int}(hl:L.length≤64)(hr:∀x∈L,0≤x∧x<b.scenes.length):RetP Tryd.prog is orc 86 [b.u,.lst .ro 1 (zE L)] (.int .i64 (wt b L)):=by
 refine zp body86 pure86 (hi 86 (by decide)) rfl rfl (zu (wU b 4) (zR 6 .ro (fun h=>by cases h) 1 L)) (.inl (.int _ _ _)) ?_
 refine kQ (yB rfl rfl (zB rfl (zC ?_)))
 refine zF [(1,.lst .ro 1 (zE L)),(2,U.box 0 0)] ([SB.box (Bk.cs b)]) (.n2 rfl) rfl fun fr=>?_
 refine kQ (zB rfl (zC (k_seq (kQ (zB rfl (zC (zH ?_)))))))
 refine yR (fun kk s2=>∃i:Nat,kk+i=L.length∧s2.st=[.box (Bk.cs b)]∧Holds s2 [(1,.lst .ro 1 (zE L)),(2,.box 0 0),(5,.int .i64 (wt b (L.take i))),(6,.int .i64 i)]) (fun kk s2 hI=>?_) L.length _ ⟨0,rfl,rfl,.c4 rfl rfl rfl rfl (.nil rfl)⟩
 obtain⟨i,hk,hst2,hs2⟩:=hI
 have hsb:=wt_sb h (L.take i)
 rw[List.length_take]at hsb
 by_cases hin:i<L.length
 ·obtain⟨x,hx⟩:∃x,L[i]? =some x:=⟨L[i],List.getElem?_eq_getElem hin⟩
  have hsu:=wt_take (b:=b) hx
  have hxr:=hr x (List.mem_of_getElem? hx)
  have hxb:=wt_b h x
  obtain⟨q,hq⟩:∃q,b.scenes[x.toNat]? =some q:=⟨b.scenes[x.toNat],List.getElem?_eq_getElem (by omega)⟩
  have hqw:wtA b x=q.wt:=by unfold wtA;rw[hq];rfl
  rw[hqw]at hsu hxb
  generalize wt b (L.take i)=S at*
  refine zF _ _ hs2 hst2 fun fr2=>?_
  refine k_seq (kQ (zA rfl (zA rfl (zP rfl ty22 rfl (List.length_map _) ?_))))
  refine kq rfl (zC (k_cT rfl (kH (by omega)) (zJ (k_seq (zH (wH [.plain,.plain,.read true,.plain,.plain,.plain,.read true,.plain,.plain,.plain,.plain,.plain] (by kernel_rfl) (by kernel_rfl) (by kernel_rfl) ?_))))))
  refine zD (zA rfl (zC rfl)) (zD (kA rfl ze (zC rfl)) ?_)
  refine zV rfl (kC sh23 rfl (zC rfl)) (zD (zA rfl (zC rfl)) (zD (zA rfl (zC rfl)) (zD (zX (u:=.int .i64 (x)) rfl ty22 rfl rfl (Int.natCast_nonneg _) (by simp[hx]) cl3 (zC rfl)) ?_)))
  refine zV rfl (kE sh3 rfl (zC rfl)) ?_
  refine zD (zX (u:=(q).u) rfl ty23 rfl rfl (by omega) (by simp[hq]) cl50 (zC rfl)) ?_
  refine zD (yV rfl rfl zCE (zC rfl)) ?_
  refine zD (kE sh3 rfl (zC rfl)) ?_
  refine zD (kB rfl (by unfold I64;omega) (zC rfl)) ?_
  refine zD (zB rfl (zC rfl)) ?_
  refine zAo ?_
  refine zF [(1,.lst .ro 1 (zE L)),(2,U.box 0 0),(5,.int .i64 (S+Sc.wt q)),(6,.int .i64 ↑i)] ([SB.box (Bk.cs b)]) (.n4 rfl) rfl fun fr=>?_
  refine k_region (zA rfl ?_)
  refine kB rfl (by unfold I64;omega) (zB rfl (zC ?_))
  exact⟨kk - 1,by omega,i+1,by omega,rfl,.cons rfl (.cons rfl (.cons (by rw[hsu];rfl) (.n1 rfl)))⟩
 ·have hie:i=L.length:=by omega
  subst hie
  rw[List.take_length]at*
  refine zF _ _ hs2 hst2 fun fr2=>?_
  refine k_seq (kQ (zA rfl (zA rfl (zP rfl ty22 rfl (List.length_map _) ?_))))
  refine kq rfl (zC (k_cF rfl (kI (by omega)) (zr (kQ (zA rfl (zB rfl (zC (zS ?_))))))))
  refine⟨.inr rfl,_,.cons _ _ _ _ (.tmp 4) .nil,?_⟩
  exact .refl _
def accS(l:List Two):U:=match l with
 |[]=>.lst .full 0 []
 |l=>.lst .own 2 (twosU l)
theorem accS_snoc(x:Two)(l:List Two):accS (l++[x])=.lst .own 2 (twosU l++[x.u]):=by
 cases l with
 |nil=>rfl
 |cons y l=>show U.lst .own 2 (twosU ((y::l)++[x]))=_;simp[twosU]
set_option maxHeartbeats 16000000 in
theorem ret54(hi:Off is)(h:BOk b){d L:List Int}(hd:DOk b d){s:Nat}(hs:s≤1000000)(hL:∀i,i<b.scenes.length→((i:Int)∈L↔bt s i=true)):RetP Tryd.prog is orc 54 [b.u,.int .i64 s,.lst .ro 1 (zE d)] (.lst .ro 2 (twosU (spL b d L))):=by
 refine zp body54 pure54 (hi 54 (by decide)) rfl rfl (zCr (wU b 4) (.int _ _ _) (zR 6 .ro (fun h=>by cases h) 1 d)) (.inl (dat_twos _ .ro (fun h=>by cases h) 6)) ?_
 have hop:=h.op
 have hsn:=h.sn
 have hdl:=hd.len
 refine kQ (yB rfl rfl (zB rfl (zC ?_)))
 refine zF [(1,.int .i64 ↑s),(2,.lst .ro 1 (zE d)),(3,U.box 0 0)] ([SB.box (Bk.cs b)]) (.n3 rfl) rfl fun fr=>?_
 refine kQ (zB rfl (zC (kQ (kA rfl zGE (kC sh3 rfl (kA rfl zGE (kC sh3 rfl (zG rfl (ret36 hi ..) (.lrefl _) ?_))))))))
 refine zq rfl ze48 ?_
 refine zZ rfl rfl sh48 rfl rfl rfl rfl rfl ?_
 refine zC ?_
 refine zF [(1,.int .i64 ↑s),(2,.lst .ro 1 (zE d)),(3,U.box 0 0),(7,.lst .full 0 []),(8,U.box 1 0)] ([SB.box (Bk.cs b),SB.box [.int .i64 (Bk.bg b),.int .i64 (Bk.bg b)]]) (.n5 rfl) rfl fun fr=>?_
 refine k_seq (kQ (zB rfl (zC (zH ?_))))
 refine yR (fun kk s2=>∃(p:Nat) (e:List SB),kk+p=3∧s2.st=[.box (Bk.cs b),.box [.int .i64 (clS b d L false p),.int .i64 (clS b d L true p)]]++e∧Holds s2 [(1,.int .i64 s),(2,.lst .ro 1 (zE d)),(3,.box 0 0),(7,accS ((spL b d L).take p)),(8,.box 1 0),(9,.int .i64 p)]) (fun kk s2 hI=>?_) 3 _ ⟨0,[],rfl,rfl,.c4 rfl rfl rfl rfl (.n2 rfl)⟩
 obtain⟨p,e,hk,hst2,hs2⟩:=hI
 obtain⟨kk',hkk⟩:∃k',k'=kk:=⟨_,rfl⟩
 rw[←hkk]
 by_cases hp:p<3
 ·obtain⟨o,ho⟩:∃o,b.opens[p]? =some o:=⟨b.opens[p],List.getElem?_eq_getElem (by omega)⟩
  have c0:=clS_b h hd L false p
  have c1:=clS_b h hd L true p
  have go:=h.ops o (List.mem_of_getElem? ho)
  have n0:clS b d L false (p+1)=max (clS b d L false p) o+sumI (mnS b d L p false b.scenes.length):=by show max _ ((b.opens[p]?).getD 0)+_=_;rw[ho];rfl
  have n1:clS b d L true (p+1)=max (clS b d L true p) o+sumI (mnS b d L p true b.scenes.length):=by show max _ ((b.opens[p]?).getD 0)+_=_;rw[ho];rfl
  have hsp:(spL b d L).take (p+1)=(spL b d L).take p++[⟨clS b d L false (p+1),clS b d L true (p+1)⟩]:=by
   have:p=0∨p=1∨p=2:=by omega
   rcases this with rfl|rfl|rfl<;>rfl
  have hsl:((spL b d L).take p).length≤3:=by rw[List.length_take];omega
  generalize (spL b d L).take p=M at*
  generalize clS b d L false p=C0 at*
  generalize clS b d L true p=C1 at*
  refine zF _ _ hs2 hst2 fun fr2=>?_
  obtain⟨A0,hA0⟩:∃A,A=max C0 o:=⟨_,rfl⟩
  obtain⟨A1,hA1⟩:∃A,A=max C1 o:=⟨_,rfl⟩
  refine k_seq (kQ (zA rfl (kq rfl (zC (k_cT rfl (kH (by omega)) (zJ (k_seq (zH (k_seq (wH [.plain,.read true,.plain,.read true,.plain,.plain,.read true,.read true,.plain,.read true,.plain,.read true,.plain,.plain,.read true,.read true,.plain,.plain] (by kernel_rfl) (by kernel_rfl) (by kernel_rfl) ?_))))))))))
  refine zD (kA rfl wD (zC rfl)) ?_
  refine zV rfl (kC sh3 rfl (zC rfl)) (zD (kA rfl zAD (zC rfl)) ?_)
  refine zV rfl (kC sh22 rfl (zC rfl)) (zD (zA rfl (zC rfl)) (zD (zX (u:=.int .i64 (o)) rfl ty22 rfl rfl (Int.natCast_nonneg _) (by simp[ho]) cl3 (zC rfl)) ?_))
  refine zV rfl (kE sh3 rfl (zC rfl)) ?_
  refine zV rfl (o_max rfl rfl rfl (zC rfl)) ?_
  refine zD (kA rfl ym (zC rfl)) ?_
  refine yY [(1,.int .i64 ↑s),(2,.lst .ro 1 (zE d)),(3,U.box 0 0),(7,accS M),(8,U.box 1 0),(9,.int .i64 ↑p),(28,.int .i64 (Max.max C0 o)),(29,U.box 1 1)] [] (SB.box (Bk.cs b)::SB.box [.int .i64 C0,.int .i64 C1]::List.append [] e) (.n8 rfl) rfl rfl fun fr=>?_
  refine zV rfl (kC sh3 rfl (zC rfl)) (zD (kA rfl zAD (zC rfl)) ?_)
  refine zV rfl (kC sh22 rfl (zC rfl)) (zD (zA rfl (zC rfl)) (zD (zX (u:=.int .i64 (o)) rfl ty22 rfl rfl (Int.natCast_nonneg _) (by simp[ho]) cl3 (zC rfl)) ?_))
  refine zV rfl (kE sh3 rfl (zC rfl)) ?_
  refine zV rfl (o_max rfl rfl rfl (zC rfl)) ?_
  refine zD (zG rfl (ret36 hi ..) (.lrefl _) (zC rfl)) ?_
  refine zD (zZ rfl rfl sh48 rfl rfl rfl rfl rfl (zC rfl)) ?_
  refine zAo ?_
  refine zF [(1,.int .i64 ↑s),(2,.lst .ro 1 (zE d)),(3,U.box 0 0),(7,accS M),(8,U.box 1 0),(9,.int .i64 ↑p)] (SB.box (Bk.cs b)::SB.box [.int .i64 (Max.max C0 o),.int .i64 (Max.max C1 o)]::List.append [] e) (.n6 rfl) rfl fun fr=>?_
  refine k_seq (kQ (zB rfl (zC (zH ?_))))
  rw[←hA0]at n0
  rw[←hA1]at n1
  refine yR (fun kk s3=>∃(i:Nat) (e:List SB),kk+i=b.scenes.length∧s3.st=[.box (Bk.cs b),.box [.int .i64 (A0+sumI (mnS b d L p false i)),.int .i64 (A1+sumI (mnS b d L p true i))]]++e∧Holds s3 [(1,.int .i64 s),(2,.lst .ro 1 (zE d)),(3,.box 0 0),(7,accS M),(8,.box 1 0),(9,.int .i64 p),(10,.int .i64 i)]) (fun kk s3 hI=>?_) b.scenes.length _ ⟨0,e,by omega,(by show _=SB.box _::SB.box [.int .i64 (A0+0),.int .i64 (A1+0)]::e;rw[hA0,hA1,Int.add_zero,Int.add_zero];rfl),.c4 rfl rfl rfl rfl (.n3 rfl)⟩
  obtain⟨i,e,hki,hst3,hs3⟩:=hI
  by_cases hin:i<b.scenes.length
  ·obtain⟨q,hq⟩:∃q,b.scenes[i]? =some q:=⟨b.scenes[i],List.getElem?_eq_getElem hin⟩
   have m0:=mnS_b (L:=L) h hd p false i
   have m1:=mnS_b (L:=L) h hd p true i
   have s0:=sum_b (l:=mnS b d L p false i) (B:=600) (by omega) fun x hx=>by have:=m0.2 x hx;omega
   have s1:=sum_b (l:=mnS b d L p true i) (B:=600) (by omega) fun x hx=>by have:=m1.2 x hx;omega
   have e0:=mnS_at (b:=b) (d:=d) (L:=L) (p:=p) (e:=false) hq
   have e1:=mnS_at (b:=b) (d:=d) (L:=L) (p:=p) (e:=true) hq
   have q44:=ret44 (orc:=orc) hi (s:=s) (i:=i) hs (by omega)
   have hqb:=h.sc _ q hq
   have hb:(i:Int)∈L↔bt s i=true:=hL i hin
   obtain⟨S0,hS0⟩:∃S,S=sumI (mnS b d L p false i):=⟨_,rfl⟩
   obtain⟨S1,hS1⟩:∃S,S=sumI (mnS b d L p true i):=⟨_,rfl⟩
   rw[←hS0]at s0 hst3
   rw[←hS1]at s1 hst3
   have f0:sumI (mnS b d L p false (i+1))=S0+sumI (elM d L p false i q):=by rw[e0,zEJ,hS0]
   have f1:sumI (mnS b d L p true (i+1))=S1+sumI (elM d L p true i q):=by rw[e1,zEJ,hS1]
   refine zF _ _ hs3 hst3 fun fr3=>?_
   by_cases hpt:q.part=p
   ·cases hbt:bt s i with
    |true=>
     rw[hbt]at q44 hb
     have hl0:∀e,elM d L p e i q=[]:=fun e=>by unfold elM;rw[if_pos (.inr (hb.2 rfl))]
     rw[hl0]at f0 f1
     have z0:sumI []=0:=rfl
     refine k_seq (kQ (zA rfl (kA rfl ze (kC sh23 rfl (zP rfl ty23 rfl (List.length_map _) ?_)))))
     refine kq rfl (zC (k_cT rfl (kH (by omega)) (zJ (k_seq (zH (k_seq (kQ (kA rfl ze (kC sh23 rfl (zA rfl (zX (u:=(q).u) rfl ty23 rfl rfl (Int.natCast_nonneg _) (by simp[hq]) cl50 ?_)))))))))))
     refine yV rfl rfl yx ?_
     refine kE sh3 rfl ?_
     refine zA rfl (ku rfl (zA rfl ?_))
     refine zL [(1,.int .i64 ↑s),(2,.lst .ro 1 (zE d)),(3,U.box 0 0),(7,accS M),(8,U.box 1 0),(9,.int .i64 ↑p),(10,.int .i64 ↑i),(53,U.bool (decide (Sc.part q≠ ↑p)))] [] (SB.box (Bk.cs b)::SB.box [.int .i64 (A0+S0),.int .i64 (A1+S1)]::List.append [] e) (.n8 rfl) rfl rfl fun fr=>?_
     refine kh rfl (kI (by omega)) ?_
     refine zL [(1,.int .i64 ↑s),(2,.lst .ro 1 (zE d)),(3,U.box 0 0),(7,accS M),(8,U.box 1 0),(9,.int .i64 ↑p),(10,.int .i64 ↑i),(53,U.bool (decide (Sc.part q≠ ↑p)))] [] (SB.box (Bk.cs b)::SB.box [.int .i64 (A0+S0),.int .i64 (A1+S1)]::List.append [] e) (.n8 rfl) rfl rfl fun fr=>?_
     refine zA rfl (kh rfl (kI (by omega)) (zA rfl (kh rfl (kI (by omega)) (zG rfl (q44) (.lrefl _) (zW rfl rfl (kI (by omega)) ?_)))))
     refine zC ?_
     refine zF [(1,.int .i64 ↑s),(2,.lst .ro 1 (zE d)),(3,U.box 0 0),(7,accS M),(8,U.box 1 0),(9,.int .i64 ↑p),(10,.int .i64 ↑i),(57,.bool true)] (SB.box (Bk.cs b)::SB.box [.int .i64 (A0+S0),.int .i64 (A1+S1)]::List.append [] e) (.n8 rfl) rfl fun fr=>?_
     refine k_cT rfl rfl ?_
     refine zr (k_region (zA rfl ?_))
     refine kB rfl (by unfold I64;omega) (zB rfl (zC ?_))
     exact⟨kk - 1,by omega,i+1,e,by omega,(by show _=SB.box _::SB.box [.int .i64 (A0+sumI (mnS b d L p false (i+1))),.int .i64 (A1+sumI (mnS b d L p true (i+1)))]::e;rw[f0,f1,z0,Int.add_zero,Int.add_zero];rfl),.c4 rfl rfl rfl rfl (.n3 rfl)⟩
    |false=>
     rw[hbt]at q44 hb
     have hl0:∀e,elM d L p e i q=[tkI d e i q]:=fun e=>by unfold elM;rw[if_neg (by rintro(h1|h1);exact h1 hpt;cases hb.1 h1)]
     rw[hl0]at f0 f1
     have z1:∀x:Int,sumI [x]=x:=fun x=>by show x+0=x;omega
     rw[z1]at f0 f1
     obtain⟨Y,hY⟩:∃Y:List SB,Y=[.box (Bk.cs b),.box [.int .i64 (A0+S0),.int .i64 (A1+S1)]]++e:=⟨_,rfl⟩
     have y0:Y[0]? =some (.box (Bk.cs b)):=by rw[hY];rfl
     have y1:Y[1]? =some (.box [.int .i64 (A0+S0),.int .i64 (A1+S1)]):=by rw[hY];rfl
     rw[←hY]
     refine k_seq (kQ (zA rfl (kA rfl ze (zQ rfl rfl y0 sh23 rfl ?_))))
     refine zP rfl ty23 rfl (List.length_map _) ?_
     refine kq rfl (zC (k_cT rfl (kH (by omega)) (zJ (k_seq (zH (k_seq (kQ (kA rfl ze (zQ rfl rfl y0 sh23 rfl ?_)))))))))
     refine zA rfl (zX (u:=(q).u) rfl ty23 rfl rfl (Int.natCast_nonneg _) (by simp[hq]) cl50 ?_)
     refine yV rfl rfl yx ?_
     refine kE sh3 rfl ?_
     refine zA rfl (ku rfl (zA rfl ?_))
     refine zL [(1,.int .i64 ↑s),(2,.lst .ro 1 (zE d)),(3,U.box 0 0),(7,accS M),(8,U.box 1 0),(9,.int .i64 ↑p),(10,.int .i64 ↑i),(53,U.bool (decide (Sc.part q≠ ↑p)))] [] (Y) (.n8 rfl) rfl rfl fun fr=>?_
     refine kh rfl (kI (by omega)) ?_
     refine zL [(1,.int .i64 ↑s),(2,.lst .ro 1 (zE d)),(3,U.box 0 0),(7,accS M),(8,U.box 1 0),(9,.int .i64 ↑p),(10,.int .i64 ↑i),(53,U.bool (decide (Sc.part q≠ ↑p)))] [] (Y) (.n8 rfl) rfl rfl fun fr=>?_
     refine zA rfl (kh rfl (kI (by omega)) (zA rfl (kh rfl (kI (by omega)) (zG rfl (q44) (.lrefl _) (zW rfl rfl (kI (by omega)) ?_)))))
     refine zC ?_
     refine zF [(1,.int .i64 ↑s),(2,.lst .ro 1 (zE d)),(3,U.box 0 0),(7,accS M),(8,U.box 1 0),(9,.int .i64 ↑p),(10,.int .i64 ↑i),(57,.bool false)] (Y) (.n8 rfl) rfl fun fr=>?_
     refine k_cF rfl rfl ?_
     refine zJ (kQ (kA rfl ze (zQ rfl rfl y0 sh23 rfl ?_)))
     refine zA rfl (zX (u:=(q).u) rfl ty23 rfl rfl (Int.natCast_nonneg _) (by simp[hq]) cl50 ?_)
     refine yV rfl rfl wM ?_
     refine yi rfl rfl sh48 rfl ?_
     refine zq rfl ze48 ?_
     refine zZ rfl (za _ _) sh48 rfl rfl rfl rfl rfl ?_
     refine zC ?_
     refine zF [(1,.int .i64 ↑s),(2,.lst .ro 1 (zE d)),(3,U.box 0 0),(7,accS M),(8,U.box 1 0),(9,.int .i64 ↑p),(10,.int .i64 ↑i),(11,U.box (List.length Y) 0)] (Y++[SB.box [.int .i64 (Sc.lo q),.int .i64 (Sc.hi q)]]) (.n8 rfl) (yc _ _ _) fun fr=>?_
     refine zF [(1,.int .i64 s),(2,.lst .ro 1 (zE d)),(3,.box 0 0),(7,accS M),(8,.box 1 0),(9,.int .i64 p),(10,.int .i64 i),(11,.box Y.length 0)] (Y++[.box [.int .i64 q.lo,.int .i64 q.hi]]) (.n8 rfl) rfl fun fr4=>?_
     have y2:(Y++[SB.box [.int .i64 q.lo,.int .i64 q.hi]])[Y.length]? =some (.box [.int .i64 q.lo,.int .i64 q.hi]):=za _ _
     by_cases hid:i<d.length
     ·obtain⟨x,hx⟩:∃x,d[i]? =some x:=⟨d[i],List.getElem?_eq_getElem hid⟩
      have hxr:=hd.rg x (List.mem_of_getElem? hx)
      have t0:∀e,tkI d e i q=x:=fun e=>by unfold tkI;rw[if_pos hid,hx];rfl
      rw[t0]at f0 f1
      have y3:(Y++[SB.box [.int .i64 x,.int .i64 x]])[Y.length]? =some (.box [.int .i64 x,.int .i64 x]):=za _ _
      refine k_seq (kQ (zA rfl (zA rfl (zP rfl ty22 rfl (List.length_map _) ?_))))
      refine kq rfl (zC (k_cT rfl (kH (by omega)) (wH [.plain,.plain,.plain,.read true,.plain,.plain,.plain,.read true,.plain,.plain] (by kernel_rfl) (by kernel_rfl) (by kernel_rfl) ?_)))
      refine zD (zA rfl (zC rfl)) (zD (zA rfl (zC rfl)) (zD (zX (u:=.int .i64 (x)) rfl ty22 rfl rfl (Int.natCast_nonneg _) (by simp[hx]) cl3 (zC rfl)) ?_))
      refine zV rfl (kE sh3 rfl (zC rfl)) ?_
      refine zD (zA rfl (zC rfl)) (zD (zA rfl (zC rfl)) (zD (zX (u:=.int .i64 (x)) rfl ty22 rfl rfl (Int.natCast_nonneg _) (by simp[hx]) cl3 (zC rfl)) ?_))
      refine zV rfl (kE sh3 rfl (zC rfl)) ?_
      refine zD (zG rfl (ret36 hi ..) (.lrefl _) (zC rfl)) ?_
      refine zD (zZ rfl y2 sh48 rfl rfl rfl rfl rfl (zC rfl)) ?_
      refine zAo ?_
      refine zF [(1,.int .i64 ↑s),(2,.lst .ro 1 (zE d)),(3,U.box 0 0),(7,accS M),(8,U.box 1 0),(9,.int .i64 ↑p),(10,.int .i64 ↑i),(11,U.box (List.length Y) 0)] (Y++[SB.box [.int .i64 x,.int .i64 x]]) (.n8 rfl) (yc _ _ _) fun fr=>?_
      refine k_region (kA rfl wD (zQ rfl rfl (yL y1) sh3 rfl ?_))
      refine kA rfl wD (zQ rfl rfl y3 sh3 rfl ?_)
      refine kB rfl (by unfold I64;omega) (kA rfl ym (zQ rfl rfl (yL y1) sh3 rfl ?_))
      refine kA rfl ym (zQ rfl rfl y3 sh3 rfl ?_)
      refine kB rfl (by unfold I64;omega) (zG rfl (ret36 hi ..) (.lrefl _) ?_)
      refine zZ rfl (yL y1) sh48 rfl rfl rfl rfl rfl ?_
      refine zC (k_region (zA rfl ?_))
      refine kB rfl (by unfold I64;omega) (zB rfl (zC ?_))
      exact⟨kk - 1,by omega,i+1,e++[.box [.int .i64 x,.int .i64 x]],by omega,(by show(Y++[SB.box _]).set 1 (SB.box _)=[_,SB.box [.int .i64 (A0+sumI (mnS b d L p false (i+1))),.int .i64 (A1+sumI (mnS b d L p true (i+1)))]]++(e++[_]);rw[f0,f1,hY,←Int.add_assoc,←Int.add_assoc];rfl),.c4 rfl rfl rfl rfl (.n3 rfl)⟩
     ·have t0:∀e,tkI d e i q=endI e q:=fun e=>by unfold tkI;rw[if_neg hid]
      rw[t0]at f0 f1
      refine k_seq (kQ (zA rfl (zA rfl (zP rfl ty22 rfl (List.length_map _) ?_))))
      refine kq rfl (zC (k_cF rfl (kI (by omega)) (zJ (k_region (kA rfl wD (zQ rfl rfl (yL y1) sh3 rfl ?_))))))
      refine kA rfl wD (zQ rfl rfl y2 sh3 rfl ?_)
      refine kB rfl (by unfold I64;omega) (kA rfl ym (zQ rfl rfl (yL y1) sh3 rfl ?_))
      refine kA rfl ym (zQ rfl rfl y2 sh3 rfl ?_)
      refine kB rfl (by unfold I64;omega) (zG rfl (ret36 hi ..) (.lrefl _) ?_)
      refine zZ rfl (yL y1) sh48 rfl rfl rfl rfl rfl ?_
      refine zC ?_
      refine zF [(1,.int .i64 ↑s),(2,.lst .ro 1 (zE d)),(3,U.box 0 0),(7,accS M),(8,U.box 1 0),(9,.int .i64 ↑p),(10,.int .i64 ↑i)] (List.set (Y++[SB.box [.int .i64 (Sc.lo q),.int .i64 (Sc.hi q)]]) 1 (SB.box [.int .i64 (A0+S0+Sc.lo q),.int .i64 (A1+S1+Sc.hi q)])) (.n7 rfl) rfl fun fr=>?_
      refine k_region (zA rfl ?_)
      refine kB rfl (by unfold I64;omega) (zB rfl (zC ?_))
      exact⟨kk - 1,by omega,i+1,e++[.box [.int .i64 q.lo,.int .i64 q.hi]],by omega,(by show(Y++[SB.box _]).set 1 (SB.box _)=[_,SB.box [.int .i64 (A0+sumI (mnS b d L p false (i+1))),.int .i64 (A1+sumI (mnS b d L p true (i+1)))]]++(e++[_]);rw[f0,f1,hY,←Int.add_assoc,←Int.add_assoc];rfl),.c4 rfl rfl rfl rfl (.n3 rfl)⟩
   ·have hl0:∀e,elM d L p e i q=[]:=fun e=>by unfold elM;rw[if_pos (.inl hpt)]
    rw[hl0]at f0 f1
    have z0:sumI []=0:=rfl
    refine k_seq (kQ (zA rfl (kA rfl ze (kC sh23 rfl (zP rfl ty23 rfl (List.length_map _) ?_)))))
    refine kq rfl (zC (k_cT rfl (kH (by omega)) (zJ (k_seq (zH (k_seq (kQ (kA rfl ze (kC sh23 rfl (zA rfl (zX (u:=(q).u) rfl ty23 rfl rfl (Int.natCast_nonneg _) (by simp[hq]) cl50 ?_)))))))))))
    refine yV rfl rfl yx ?_
    refine kE sh3 rfl ?_
    refine zA rfl (ku rfl (zA rfl ?_))
    refine zL [(1,.int .i64 ↑s),(2,.lst .ro 1 (zE d)),(3,U.box 0 0),(7,accS M),(8,U.box 1 0),(9,.int .i64 ↑p),(10,.int .i64 ↑i),(53,U.bool (decide (Sc.part q≠ ↑p)))] [] (SB.box (Bk.cs b)::SB.box [.int .i64 (A0+S0),.int .i64 (A1+S1)]::List.append [] e) (.n8 rfl) rfl rfl fun fr=>?_
    refine kg rfl (kH (by omega)) (kg rfl (kH (by omega)) (kg rfl (kH (by omega)) (zc rfl rfl (kH (by omega)) ?_)))
    refine zC ?_
    refine zF [(1,.int .i64 ↑s),(2,.lst .ro 1 (zE d)),(3,U.box 0 0),(7,accS M),(8,U.box 1 0),(9,.int .i64 ↑p),(10,.int .i64 ↑i),(57,.bool true)] (SB.box (Bk.cs b)::SB.box [.int .i64 (A0+S0),.int .i64 (A1+S1)]::List.append [] e) (.n8 rfl) rfl fun fr=>?_
    refine k_cT rfl rfl ?_
    refine zr (k_region (zA rfl ?_))
    refine kB rfl (by unfold I64;omega) (zB rfl (zC ?_))
    exact⟨kk - 1,by omega,i+1,e,by omega,(by show _=SB.box _::SB.box [.int .i64 (A0+sumI (mnS b d L p false (i+1))),.int .i64 (A1+sumI (mnS b d L p true (i+1)))]::e;rw[f0,f1,z0,Int.add_zero,Int.add_zero];rfl),.c4 rfl rfl rfl rfl (.n3 rfl)⟩
  ·have hie:i=b.scenes.length:=by omega
   subst hie
   rw[←n0,←n1]at hst3
   refine zF _ _ hs3 hst3 fun fr3=>?_
   cases M with
   |nil=>
    refine k_seq (kQ (zA rfl (kA rfl ze (kC sh23 rfl (zP rfl ty23 rfl (List.length_map _) ?_)))))
    refine kq rfl (zC (k_cF rfl (kI (by omega)) (zr (k_region (zA rfl (kD sh48 rfl (wW (es:=[U.agg [.int .i64 (clS b d L Bool.false (p+1)),.int .i64 (clS b d L Bool.true (p+1))]]) rfl ty26 ze48 cl48 rfl rfl rfl rfl rfl rfl rfl rfl ?_)))))))
    refine wC rfl ap26_26 rfl rfl (by simp) (by simp) (by simp[yF,zg,oneU]) (by simp) ?_
    refine zB rfl (zC (k_region (zA rfl ?_)))
    refine kB rfl (by unfold I64;omega) (zB rfl (zC ?_))
    exact⟨kk' - 1,by omega,p+1,e,by omega,rfl,.cons rfl (.cons rfl (.cons rfl (.cons (by rw[hsp];rfl) (.n2 rfl))))⟩
   |cons y M=>
    refine k_seq (kQ (zA rfl (kA rfl ze (kC sh23 rfl (zP rfl ty23 rfl (List.length_map _) ?_)))))
    refine kq rfl (zC (k_cF rfl (kI (by omega)) (zr (k_region (zA rfl (kD sh48 rfl (wW (es:=[U.agg [.int .i64 (clS b d L Bool.false (p+1)),.int .i64 (clS b d L Bool.true (p+1))]]) rfl ty26 ze48 cl48 rfl rfl rfl rfl rfl rfl rfl rfl ?_)))))))
    refine wX 7 rfl ap26_26 rfl rfl rfl (by simp) (by simp) (by simp[yF,zg,oneU]) (by simp at hsl ⊢;omega) ?_
    refine zB rfl (zC (k_region (zA rfl ?_)))
    refine kB rfl (by unfold I64;omega) (zB rfl (zC ?_))
    exact⟨kk' - 1,by omega,p+1,e,by omega,rfl,.cons rfl (.cons rfl (.cons rfl (.cons (by rw[hsp,accS_snoc];rfl) (.n2 rfl))))⟩
 ·have hpe:p=3:=by omega
  subst hpe
  refine zF _ _ hs2 hst2 fun fr2=>?_
  refine k_seq (kQ (zA rfl (kq rfl (zC (k_cF rfl rfl ?_)))))
  refine zr (kQ (zA rfl (zB rfl (zC (zS ?_)))))
  refine⟨.inr rfl,_,.cons _ _ _ _ (.tmp 6) .nil,?_⟩
  exact .refl _
  done
end
end Go.Proofs.YtlknfhjfkcboiaaDoor.night
