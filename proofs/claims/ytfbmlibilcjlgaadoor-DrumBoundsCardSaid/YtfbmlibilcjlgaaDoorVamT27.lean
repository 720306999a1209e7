import Derived.Test.YtfbmlibilcjlgaaDoorVamT26
set_option linter.unusedVariables false
set_option linter.unusedSimpArgs false
set_option linter.constructorNameAsVariable false
namespace Go.Proofs.YtfbmlibilcjlgaaDoor.drumBounds
open Vam
variable {is:FuncId→Bool}{orc:Known}{b:Bk}
noncomputable def b120:Code:=(Tryd.f120.body).getD .skip
theorem body120:bodyOf Tryd.prog 120=some (13,b120,[.tmp 4]):=by kernel_rfl
theorem pure120:pureFn Tryd.prog 120=true:=by kernel_rfl
theorem by22:Program.bytesOf Tryd.prog 22=24:=by kernel_rfl
theorem cl22:Program.cellsOf Tryd.prog 22=1:=by kernel_rfl
theorem ty96:tyOf Tryd.prog 96=.slice 22:=by kernel_rfl
theorem ze22:yV Tryd.prog 22=some ((.cons .nils .nil):V):=by kernel_rfl
theorem ap96_96:AppT Tryd.prog 96 96 22 1 24 ((.cons .nils .nil):V):=⟨ty96,⟨_,ty96⟩,cl22,by decide,by22,ze22,rfl⟩
noncomputable def b104:Code:=(Tryd.f104.body).getD .skip
theorem body104:bodyOf Tryd.prog 104=some (59,b104,[.tmp 2]):=by kernel_rfl
theorem pure104:pureFn Tryd.prog 104=true:=by kernel_rfl
abbrev llU(l:List (List Int)):List U:=l.map fun p=>U.lst .ro 1 (zG p)
theorem flat_ll(l:List (List Int)):yG (llU l)=llU l:=by
 induction l with
 |nil=>rfl
 |cons p l ih=>show [U.lst .ro 1 (zG p)]++yG (llU l)=_;rw[ih];rfl
theorem dat_ll(l:List (List Int))(k:Nat):Dat (k+3) (.lst .ro 1 (llU l)):=by
 refine .lst _ _ _ _ (fun h=>by cases h) fun c hc=>?_
 rw[flat_ll]at hc
 obtain⟨p,_,rfl⟩:=List.mem_map.1 hc
 exact zr k .ro (fun h=>by cases h) 1 p
theorem ret120(hi:Off is)(p:List Int)(v:Int)(hp:p.length≤4096):RetP Tryd.prog is orc 120 [.lst .ro 1 (zG p),.int .i64 v] (.lst .ro 1 (zG (p++[v]))):=by
 refine zk body120 pure120 (hi 120 (by decide)) rfl rfl (yM (zr 6 .ro (fun h=>by cases h) 1 p) (.int _ _ _)) (.inl (zr 6 .ro (fun h=>by cases h) 1 _)) ?_
 have e:∀p:List Int,zG (p++[v])=[]++zG p++[.int .i64 v]:=fun p=>by simp[zG]
 cases p with
 |nil=>
  refine kQ (zB rfl (zA (kQ (wb (es:=[]) rfl ty22 ze3 cl3 rfl rfl rfl rfl rfl rfl rfl rfl ?_))))
  refine zC rfl (zAQ rfl zFB rfl rfl (by simp) (by simp) (by simp[yG,zq,oneU]) (by simp) ?_)
  refine zB rfl (zA (kQ (zC rfl (zC rfl (wb (es:=[.int .i64 v]) rfl ty22 ze3 cl3 rfl rfl rfl rfl rfl rfl rfl rfl ?_)))))
  refine zBx 5 rfl zFB rfl rfl rfl (by simp) (by simp) (by simp[yG,zq,oneU]) (by simp) ?_
  refine zB rfl (zA (zU ?_))
  refine⟨.inr rfl,_,.cons _ _ _ _ (.tmp 4) .nil,?_⟩
  rw[e];exact .ro _ _ _
 |cons a p=>
  refine kQ (zB rfl (zA (kQ (wb (es:=[]) rfl ty22 ze3 cl3 rfl rfl rfl rfl rfl rfl rfl rfl ?_))))
  refine zC rfl ?_
  refine zAQ rfl zFB rfl rfl (by simp) (by simp) (by simp[yG,zq,oneU]) (by simp at*;omega) ?_
  refine zB rfl (zA (kQ (zC rfl (zC rfl (wb (es:=[.int .i64 v]) rfl ty22 ze3 cl3 rfl rfl rfl rfl rfl rfl rfl rfl ?_)))))
  refine zBx 5 rfl zFB rfl rfl rfl (by simp) (by simp) (by simp[yG,zq,oneU]) (by simp at*;omega) ?_
  refine zB rfl (zA (zU ?_))
  refine⟨.inr rfl,_,.cons _ _ _ _ (.tmp 4) .nil,?_⟩
  rw[e];exact .ro _ _ _
theorem lvP_step(b:Bk):∀(k:Nat) (p:List Int),lvP b (k+1) p=(lvP b k p).flatMap (lvP b 1):=by
 intro k
 induction k with
 |zero=>intro p;show _=[p].flatMap _;simp
 |succ k ih=>
  intro p
  show((List.range 4).flatMap fun d:Nat=>if exB b p d=true then lvP b (k+1) (p++[(d:Int)])else [])=((List.range 4).flatMap fun d:Nat=>if exB b p d=true then lvP b k (p++[(d:Int)])else []).flatMap (lvP b 1)
  rw[List.flatMap_assoc]
  congr 1
  funext d
  split
  ·exact ih _
  ·rfl
theorem lvP_rg(b:Bk):∀(r:Nat) (p L:List Int),(∀x∈p,0≤x∧x≤3)→L∈lvP b r p→∀x∈L,0≤x∧x≤3:=by
 intro r
 induction r with
 |zero=>intro p L hp hL;rcases List.mem_singleton.1 (show L∈[p]from hL)with rfl;exact hp
 |succ r ih=>
  intro p L hp hL
  obtain⟨d,hd,h⟩:=List.mem_flatMap.1 (show L∈(List.range 4).flatMap _ from hL)
  have hd:=List.mem_range.1 hd
  split at h
  ·refine ih _ L (fun x hx=>?_) h
   rcases List.mem_append.1 hx with hx|hx
   ·exact hp x hx
   ·rcases List.mem_singleton.1 hx with rfl;omega
  ·cases h
theorem lv1_len(b:Bk)(q:List Int):(lvP b 1 q).length≤4:=lvP_len b 1 q
theorem flat1_len(b:Bk)(l:List (List Int)):(l.flatMap (lvP b 1)).length≤4*l.length:=by
 induction l with
 |nil=>simp
 |cons q l ih=>
  rw[List.flatMap_cons,List.length_append,List.length_cons]
  have:=lv1_len b q
  omega
theorem exB_at(b:Bk){q:List Int}{x:Int}(hx:q[q.length - 1]? =some x)(d:Int):exB b q d=decide (d≤x+1∧x - 1≤d):=by
 have hl:=(List.getElem?_eq_some_iff.1 hx).1
 unfold exB zCe
 rw[hx,Bool.eq_iff_iff]
 simp only[Bool.and_eq_true,Bool.or_eq_true,decide_eq_true_eq,Option.getD_some]
 omega
theorem ptP_lo(b:Bk){q:List Int}{x:Int}(hx:q[q.length - 1]? =some x):∀v:Nat,(v:Int)≤max 0 (x - 1)→ptP b 0 q v=[]:=by
 intro v
 induction v with
 |zero=>intro _;rfl
 |succ v ih=>
  intro h
  rw[zDJ,ih (by omega),exB_at b hx,if_neg (by rw[decide_eq_true_iff];omega)];rfl
theorem ptP_hi(b:Bk){q:List Int}{x:Int}(hx:q[q.length - 1]? =some x):∀(n v:Nat),min 3 (x+1)+1≤(v:Int)→v+n=4→ptP b 0 q 4=ptP b 0 q v:=by
 intro n
 induction n with
 |zero=>intro v _ h;rw[show v=4 by omega]
 |succ n ih=>
  intro v h1 h2
  rw[ih (v+1) (by omega) (by omega),zDJ,exB_at b hx,if_neg (by rw[decide_eq_true_iff];omega),List.append_nil]
set_option maxHeartbeats 8000000 in
theorem ret104(hi:Off is)(hb:BOk b):RetP Tryd.prog is orc 104 [b.u] (.lst .ro 1 (llU (paths b))):=by
 refine zk body104 pure104 (hi 104 (by decide)) rfl rfl (zAH (yK b 4)) (.inl (dat_ll _ 5)) ?_
 have hpa:=hb.pa
 have hst:=hb.st
 refine kQ (zc rfl rfl (zB rfl (zA ?_)))
 refine zH [(1,U.box 0 0)] ([SB.box (Bk.cs b)]) (.cons rfl (.nil rfl)) rfl fun fr=>?_
 refine kQ (zE rfl rfl zEp (zF rfl rfl rfl sh3 rfl (wb (es:=[.int .i64 (Bk.start b)]) rfl ty22 ze3 cl3 rfl rfl rfl rfl rfl rfl rfl rfl ?_)))
 refine wb (es:=[U.lst Kd.full 1 [.int .i64 (Bk.start b)]]) rfl ty96 ze22 cl22 rfl rfl rfl rfl rfl rfl rfl rfl ?_
 refine zB rfl ?_
 refine o_weak 3 rfl (fun _=>rfl) (u:=.lst .ro 1 (llU [[b.start]])) (.lst .full 1 _ _ (.lcons _ _ _ _ (.ro .full 1 _) (.lrefl _)) rfl) ?_
 refine zA (k_seq (kQ (zB rfl (zA (zL ?_)))))
 have h1:lvP b 1 []=[[b.start]]:=by
  have e:∀d:Nat,exB b [] d=decide ((d:Int)=b.start):=fun d=>by unfold exB;simp
  show((List.range 4).flatMap fun d:Nat=>if exB b [] d=true then lvP b 0 ([]++[(d:Int)])else [])=_
  simp only[e]
  have h4:b.start=0∨b.start=1∨b.start=2∨b.start=3:=by omega
  rcases h4 with h|h|h|h<;>rw[h]<;>rfl
 refine yh (fun kk s2=>∃k:Nat,kk+k=b.parts.toNat∧1≤k∧s2.st=[.box (Bk.cs b)]∧Holds s2 [(1,.box 0 0),(3,.lst .ro 1 (llU (lvP b k []))),(4,.int .i64 k)]) (fun kk s2 hI=>?_) (b.parts.toNat - 1) _ ⟨1,by omega,Nat.le_refl _,rfl,.cons rfl (.cons (by rw[h1];rfl) (.cons rfl (.nil rfl)))⟩
 obtain⟨k,hk,hk1,hst2,hs2⟩:=hI
 by_cases hkp:(k:Int)<b.parts
 ·have hnext:=lvP_step b k []
  have hll:=lvP_len b k []
  have hl4:4 ^ k≤4 ^ 8:=Nat.pow_le_pow_right (by omega) (by omega)
  have h48:(4:Nat) ^ 8=65536:=rfl
  have hel:∀q∈lvP b k [],q.length=k∧∀x∈q,0≤x∧x≤3:=fun q hq=>by
   obtain⟨q',e,hq'⟩:=mem_lvP k [] q hq
   refine⟨by rw[e,List.nil_append];exact hq',lvP_rg b k [] q (fun x hx=>by cases hx) hq⟩
  generalize lvP b k []=W at*
  refine zH _ _ hs2 hst2 fun fr2=>?_
  refine k_seq (kQ (zC rfl (zE rfl rfl wU (zF rfl rfl rfl sh3 rfl (zf rfl rfl rfl (zA (k_cT rfl (decide_eq_true (by omega)) (zQ ?_))))))))
  refine k_seq (zL (kQ (zB rfl (zA (k_seq (kQ (zB rfl (zA ?_))))))))
  refine zL ?_
  refine yh (fun mm s2=>∃(i:Nat) (kd:Kd) (z:Nat),mm+i=W.length∧((kd=.full∧z=0∧(W.take i).flatMap (lvP b 1)=[])∨(kd=.own∧z=1))∧s2.st=[.box (Bk.cs b)]∧Holds s2 [(1,.box 0 0),(3,.lst .ro 1 (llU W)),(4,.int .i64 k),(5,.lst kd z (llU ((W.take i).flatMap (lvP b 1)))),(6,.int .i64 i)]) (fun mm s2 hI=>?_) W.length _ ⟨0,.full,0,by omega,.inl ⟨rfl,rfl,rfl⟩,rfl,.c4 rfl rfl rfl rfl (.cons rfl (.nil rfl))⟩
  obtain⟨i,kd,z,hi2,hkd,hst3,hs3⟩:=hI
  by_cases hil:i<W.length
  ·obtain⟨q,hq⟩:∃q,W[i]? =some q:=⟨W[i]'hil,List.getElem?_eq_getElem hil⟩
   obtain⟨hql,hqr⟩:=hel q (List.mem_of_getElem? hq)
   obtain⟨x,hx⟩:∃x,q[k - 1]? =some x:=⟨q[k - 1]'(by omega),List.getElem?_eq_getElem (by omega)⟩
   have hxr:=hqr x (List.mem_of_getElem? hx)
   have hx2:q[((k:Int) - 1).toNat]? =some x:=by rw[show((k:Int) - 1).toNat=k - 1 by omega];exact hx
   have hx3:q[q.length - 1]? =some x:=by rw[hql];exact hx
   have hnx:(W.take (i+1)).flatMap (lvP b 1)=(W.take i).flatMap (lvP b 1)++lvP b 1 q:=by rw[List.take_add_one,hq,List.flatMap_append];simp
   have hal:=flat1_len b (W.take i)
   rw[List.length_take]at hal
   generalize (W.take i).flatMap (lvP b 1)=A at*
   refine zH _ _ hs3 hst3 fun fr3=>?_
   refine k_seq (kQ (zC rfl (zC rfl (yF rfl ty96 rfl (List.length_map _) ?_))))
   refine zf rfl rfl rfl (zA (k_cT rfl (decide_eq_true (by omega)) (zQ (k_seq (zL (kQ (zC rfl (zC rfl ?_))))))))
   refine yD (u:=.lst .ro 1 (zG q)) rfl ty96 rfl rfl (Int.natCast_nonneg _) (by rw[List.getElem?_map,Int.toNat_natCast,hq];rfl) cl22 ?_
   refine zT rfl rfl sh22 rfl ?_
   refine zC rfl ?_
   refine yn rfl rfl rfl (by unfold I64;omega) ?_
   refine yD (u:=.int .i64 x) rfl ty22 rfl rfl (by omega) (by rw[List.getElem?_map,hx2];rfl) cl3 ?_
   refine zT rfl rfl sh3 rfl ?_
   refine yn rfl rfl rfl (by unfold I64;omega) (o_max rfl rfl rfl ?_)
   refine zB rfl (zA ?_)
   refine zH [(1,U.box 0 0),(3,.lst .ro 1 (llU W)),(4,.int .i64 ↑k),(5,U.lst kd z (llU A)),(6,.int .i64 ↑i),(7,.int .i64 (Max.max (0:Int) (x - (1:Int))))] ([SB.box (Bk.cs b)]) (.c4 rfl rfl rfl rfl (.cons rfl (.cons rfl (.nil rfl)))) rfl fun fr=>?_
   refine zL ?_
   refine yh (fun nn s2=>∃(v:Nat) (kd:Kd) (z:Nat),nn+v=4∧max 0 (x - 1)≤(v:Int)∧(v:Int)≤min 3 (x+1)+1∧((kd=.full∧z=0∧A++ptP b 0 q v=[])∨(kd=.own∧z=1))∧s2.st=[.box (Bk.cs b)]∧Holds s2 [(1,.box 0 0),(3,.lst .ro 1 (llU W)),(4,.int .i64 k),(5,.lst kd z (llU (A++ptP b 0 q v))),(6,.int .i64 i),(7,.int .i64 v)]) (fun nn s2 hI=>?_) (4 - (max 0 (x - 1)).toNat) _ ⟨(max 0 (x - 1)).toNat,kd,z,by omega,by omega,by omega,by rw[ptP_lo b hx3 _ (by omega),List.append_nil];exact hkd,rfl,.cons rfl (.cons rfl (.cons rfl (.cons (by rw[ptP_lo b hx3 _ (by omega),List.append_nil];rfl) (.cons rfl (.cons (by rw[show(((max 0 (x - 1)).toNat:Nat):Int)=max 0 (x - 1) by omega];rfl) (.nil rfl))))))⟩
   obtain⟨v,kd,z,hv,hv1,hv2,hkd,hst4,hs4⟩:=hI
   by_cases hvm:(v:Int)≤min 3 (x+1)
   ·have hps:=zDJ b 0 q v
    have hexb:exB b q v=true:=by rw[exB_at b hx3,decide_eq_true_iff];omega
    rw[if_pos hexb]at hps
    change ptP b 0 q (v+1)=ptP b 0 q v++[q++[(v:Int)]]at hps
    have hpl:(ptP b 0 q v).length≤4:=by
     have h1:∀j,(ptP b 0 q j).length≤j:=by
      intro j
      induction j with
      |zero=>exact Nat.le_refl _
      |succ j ih=>
       rw[zDJ,List.length_append]
       have:(if exB b q j=true then lvP b 0 (q++[(j:Int)])else []).length≤1:=by split<;>simp[lvP]
       omega
     have:=h1 v
     omega
    have q120:=ret120 (orc:=orc) hi q v (by omega)
    have hnew:A++ptP b 0 q (v+1)=(A++ptP b 0 q v)++[q++[(v:Int)]]:=by rw[hps,List.append_assoc]
    have hBl:(A++ptP b 0 q v).length≤300000:=by rw[List.length_append];omega
    generalize A++ptP b 0 q v=B at*
    have k45:decide ((v:Int)≤min 3 (x+1))=true:=decide_eq_true hvm
    rcases hkd with ⟨rfl,rfl,rfl⟩|⟨rfl,rfl⟩
    ·refine zH _ _ hs4 hst4 fun fr4=>?_
     refine k_seq (kQ (zC rfl (zC rfl (zC rfl ?_))))
     refine yD (u:=.lst .ro 1 (zG q)) rfl ty96 rfl rfl (Int.natCast_nonneg _) (by rw[List.getElem?_map,Int.toNat_natCast,hq];rfl) cl22 ?_
     refine zT rfl rfl sh22 rfl ?_
     refine zC rfl ?_
     refine yn rfl rfl rfl (by unfold I64;omega) ?_
     refine yD (u:=.int .i64 x) rfl ty22 rfl rfl (by omega) (by rw[List.getElem?_map,hx2];rfl) cl3 ?_
     refine zT rfl rfl sh3 rfl ?_
     refine yO rfl rfl rfl (by unfold I64;omega) (o_min rfl rfl rfl ?_)
     refine zCh rfl rfl rfl (zA (k_cT rfl (by assumption) (zQ (k_seq (zL (k_region (zC rfl (zC rfl ?_))))))))
     refine zC rfl ?_
     refine yD (u:=.lst .ro 1 (zG q)) rfl ty96 rfl rfl (Int.natCast_nonneg _) (by rw[List.getElem?_map,Int.toNat_natCast,hq];rfl) cl22 ?_
     refine zT rfl rfl sh22 rfl ?_
     refine zC rfl (zP rfl (q120) (.lrefl _) (wb rfl ty96 ze22 cl22 rfl rfl rfl rfl rfl rfl rfl rfl ?_))
     refine zAQ rfl ap96_96 rfl rfl (by simp) (by simp) rfl (by simp) ?_
     refine zB rfl (zA (k_region (zC rfl ?_)))
     refine yO rfl rfl rfl (by unfold I64;omega) (zB rfl (zA ?_))
     exact⟨nn - 1,by omega,v+1,.own,1,by omega,by omega,by omega,.inr ⟨rfl,rfl⟩,rfl,.cons rfl (.cons rfl (.cons rfl (.cons (by rw[hnew];rfl) (.cons rfl (.cons rfl (.nil rfl))))))⟩
    ·refine zH _ _ hs4 hst4 fun fr4=>?_
     refine k_seq (kQ (zC rfl (zC rfl (zC rfl ?_))))
     refine yD (u:=.lst .ro 1 (zG q)) rfl ty96 rfl rfl (Int.natCast_nonneg _) (by rw[List.getElem?_map,Int.toNat_natCast,hq];rfl) cl22 ?_
     refine zT rfl rfl sh22 rfl ?_
     refine zC rfl ?_
     refine yn rfl rfl rfl (by unfold I64;omega) ?_
     refine yD (u:=.int .i64 x) rfl ty22 rfl rfl (by omega) (by rw[List.getElem?_map,hx2];rfl) cl3 ?_
     refine zT rfl rfl sh3 rfl ?_
     refine yO rfl rfl rfl (by unfold I64;omega) (o_min rfl rfl rfl ?_)
     refine zCh rfl rfl rfl (zA (k_cT rfl (by assumption) (zQ (k_seq (zL (k_region (zC rfl (zC rfl ?_))))))))
     refine zC rfl ?_
     refine yD (u:=.lst .ro 1 (zG q)) rfl ty96 rfl rfl (Int.natCast_nonneg _) (by rw[List.getElem?_map,Int.toNat_natCast,hq];rfl) cl22 ?_
     refine zT rfl rfl sh22 rfl ?_
     refine zC rfl (zP rfl (q120) (.lrefl _) (wb rfl ty96 ze22 cl22 rfl rfl rfl rfl rfl rfl rfl rfl ?_))
     refine zBx 5 rfl ap96_96 rfl rfl rfl (by simp) (by simp) rfl (by simp at hBl ⊢;omega) ?_
     refine zB rfl (zA (k_region (zC rfl ?_)))
     refine yO rfl rfl rfl (by unfold I64;omega) (zB rfl (zA ?_))
     exact⟨nn - 1,by omega,v+1,.own,1,by omega,by omega,by omega,.inr ⟨rfl,rfl⟩,rfl,.cons rfl (.cons rfl (.cons rfl (.cons (by rw[hnew];simp[llU];rfl) (.cons rfl (.cons rfl (.nil rfl))))))⟩
   ·have hfull:ptP b 0 q v=lvP b 1 q:=(ptP_hi b hx3 (4 - v) v (by omega) (by omega)).symm
    rw[hfull]at hkd hs4
    rw[←hnx]at hkd hs4
    have k45:decide ((v:Int)≤min 3 (x+1))=false:=decide_eq_false hvm
    refine zH _ _ hs4 hst4 fun fr4=>?_
    refine k_seq (kQ (zC rfl (zC rfl (zC rfl ?_))))
    refine yD (u:=.lst .ro 1 (zG q)) rfl ty96 rfl rfl (Int.natCast_nonneg _) (by rw[List.getElem?_map,Int.toNat_natCast,hq];rfl) cl22 ?_
    refine zT rfl rfl sh22 rfl ?_
    refine zC rfl ?_
    refine yn rfl rfl rfl (by unfold I64;omega) ?_
    refine yD (u:=.int .i64 x) rfl ty22 rfl rfl (by omega) (by rw[List.getElem?_map,hx2];rfl) cl3 ?_
    refine zT rfl rfl sh3 rfl ?_
    refine yO rfl rfl rfl (by unfold I64;omega) (o_min rfl rfl rfl ?_)
    refine zCh rfl rfl rfl (zA (k_cF rfl (by assumption) (yP (k_region (zC rfl ?_)))))
    refine yO rfl rfl rfl (by unfold I64;omega) (zB rfl (zA ?_))
    exact⟨mm - 1,by omega,i+1,kd,z,by omega,hkd,rfl,.c4 rfl rfl rfl rfl (.cons rfl (.nil rfl))⟩
  ·have hie:i=W.length:=by omega
   subst hie
   rw[List.take_length]at hkd hs3
   have hu:UW (.u (.lst kd z (llU (W.flatMap (lvP b 1))))) (.u (.lst .ro 1 (llU (lvP b (k+1) [])))):=by
    rw[hnext]
    rcases hkd with ⟨rfl,rfl,h0⟩|⟨rfl,rfl⟩
    ·rw[h0];exact .nil _ _ _
    ·exact .ro _ _ _
   refine zH _ _ hs3 hst3 fun fr3=>?_
   refine k_seq (kQ ?_)
   refine o_weak 5 rfl (fun _=>rfl) hu ?_
   refine zC rfl (zC rfl (yF rfl ty96 rfl (List.length_map _) ?_))
   refine zf rfl rfl rfl (zA (k_cF rfl (decide_eq_false (by omega)) (yP (k_region (zC rfl (zB rfl (zA (k_region ?_))))))))
   refine zC rfl ?_
   refine yO rfl rfl rfl (by unfold I64;omega) (zB rfl (zA ?_))
   exact⟨kk - 1,by omega,k+1,by omega,by omega,rfl,.cons rfl (.cons rfl (.cons rfl (.nil rfl)))⟩
 ·have hke:k=b.parts.toNat:=by omega
  subst hke
  refine zH _ _ hs2 hst2 fun fr2=>?_
  refine k_seq (kQ (zC rfl (zE rfl rfl wU (zF rfl rfl rfl sh3 rfl (zf rfl rfl rfl (zA (k_cF rfl (decide_eq_false (by omega)) (yP ?_))))))))
  refine kQ (zC rfl (zB rfl (zA (zU ?_))))
  refine⟨.inr rfl,_,.cons _ _ _ _ (.tmp 2) .nil,?_⟩
  exact .refl _
  done
end Go.Proofs.YtfbmlibilcjlgaaDoor.drumBounds
