import Derived.Test.YtfbmlibilcjlgaaDoorVamT1
set_option linter.unusedVariables false
set_option linter.unusedSimpArgs false
set_option linter.constructorNameAsVariable false
namespace Go.Proofs.YtfbmlibilcjlgaaDoor.drumGong
open Vam
section
variable {is:FuncId→Bool}{orc:Known}
noncomputable def b46:Code:=(Tryd.f46.body).getD .skip
theorem body46:bodyOf Tryd.prog 46=some (17,b46,[.tmp 4]):=by kernel_rfl
theorem pure46:pureFn Tryd.prog 46=true:=by kernel_rfl
noncomputable def b53:Code:=(Tryd.f53.body).getD .skip
theorem body53:bodyOf Tryd.prog 53=some (15,b53,[.tmp 4]):=by kernel_rfl
theorem pure53:pureFn Tryd.prog 53=true:=by kernel_rfl
noncomputable def b88:Code:=(Tryd.f88.body).getD .skip
theorem body88:bodyOf Tryd.prog 88=some (34,b88,[.tmp 4]):=by kernel_rfl
theorem pure88:pureFn Tryd.prog 88=true:=by kernel_rfl
theorem by3:Program.bytesOf Tryd.prog 3=8:=by kernel_rfl
theorem ap22_22:AppT Tryd.prog 22 22 3 1 8 ((.cons (.int .i64 0) .nil):V):=⟨ty22,⟨_,ty22⟩,cl3,by decide,by3,ze3,rfl⟩
def nthI(l:List Int)(i:Nat):Int:=(l[i % l.length]?).getD 0
theorem tmod_n{n m:Int}(hn:0≤n):n.tmod m=n % m:=Int.tmod_eq_emod_of_nonneg hn
set_option maxHeartbeats 4000000 in
theorem ret46n(hi:Off is)(n m:Int)(hm:0<m)(hn:0≤n):RetP Tryd.prog is orc 46 [.int .i64 n,.int .i64 m] (.int .i64 (n % m)):=by
 refine zw body46 pure46 (hi 46 (by decide)) rfl rfl (yV (.int _ _ _) (.int _ _ _)) (.inl (.int _ _ _)) ?_
 rw[←tmod_n hn]
 have h2:=Int.tmod_nonneg m hn
 refine kQ (zC rfl (zA (k_seq (kQ (zB rfl (zt rfl rfl rfl (zA (k_cF rfl (decide_eq_false (by omega)) ?_))))))))
 refine zR (kQ (zB rfl (zB rfl (zGM rfl rfl rfl (by omega) ?_))))
 refine zC rfl (zA (k_seq (kQ (zB rfl (zt rfl rfl rfl (zA (k_cF rfl (decide_eq_false (by omega)) (zR ?_))))))))
 refine kQ (zB rfl (zC rfl (zA (zZ ?_))))
 refine⟨.inr rfl,_,.cons _ _ _ _ (.tmp 4) .nil,?_⟩
 exact .refl _
def turnI(n b:Int):Int:=if b<1 then 0 else n % b
theorem turnI_b{n b:Int}(h:1≤b):0≤turnI n b∧turnI n b<b:=by
 unfold turnI;rw[if_neg (by omega)]
 exact⟨Int.emod_nonneg _ (by omega),Int.emod_lt_of_pos _ (by omega)⟩
set_option maxHeartbeats 4000000 in
theorem ret46(hi:Off is)(n b:Int)(hb:b≤1000000):RetP Tryd.prog is orc 46 [.int .i64 n,.int .i64 b] (.int .i64 (turnI n b)):=by
 refine zw body46 pure46 (hi 46 (by decide)) rfl rfl (yV (.int _ _ _) (.int _ _ _)) (.inl (.int _ _ _)) ?_
 by_cases h:b<1
 ·have e:turnI n b=0:=by unfold turnI;rw[if_pos h]
  rw[e]
  refine kQ (zC rfl (zA (k_seq (kQ (zB rfl (zt rfl rfl rfl (zA (k_cT rfl (decide_eq_true (by omega)) ?_))))))))
  refine kQ (zC rfl (zA (zZ ?_)))
  refine⟨.inr rfl,_,.cons _ _ _ _ (.tmp 4) .nil,?_⟩
  exact .refl _
 ·have hb0:0<b:=by omega
  have e:turnI n b=n % b:=by unfold turnI;rw[if_neg h]
  have t1:n.tmod b<b:=Int.tmod_lt_of_pos n hb0
  have t2: -b<n.tmod b:=by have:=Int.lt_tmod_of_pos n hb0;omega
  by_cases hn:n.tmod b<0
  ·have e2:n % b=n.tmod b+b:=by
    rw[Int.emod_eq_tmod]
    have h0: ¬ (0≤n):=fun h0=>by have:=Int.tmod_nonneg b h0;omega
    have h3: ¬ (b ∣ n):=fun h3=>by have:=(Int.dvd_iff_tmod_eq_zero).1 h3;omega
    simp[h0,h3];omega
   rw[e,e2]
   refine kQ (zC rfl (zA (k_seq (kQ (zB rfl (zt rfl rfl rfl (zA (k_cF rfl (decide_eq_false (by omega)) ?_))))))))
   refine zR (kQ (zB rfl (zB rfl (zGM rfl rfl rfl (by omega) ?_))))
   refine zC rfl (zA (k_seq (kQ (zB rfl (zt rfl rfl rfl (zA (k_cT rfl (decide_eq_true (by omega)) (k_region ?_))))))))
   refine zB rfl (zB rfl ?_)
   refine yr rfl rfl rfl (by unfold I64;omega) (zC rfl (zA ?_))
   refine zL [(5,.int .i64 (Int.tmod n b+b))] ([]) (.cons rfl (.nil rfl)) rfl fun fr=>?_
   refine kQ (zB rfl (zC rfl (zA (zZ ?_))))
   refine⟨.inr rfl,_,.cons _ _ _ _ (.tmp 4) .nil,?_⟩
   exact .refl _
  ·have e2:n % b=n.tmod b:=by
    rw[Int.emod_eq_tmod]
    by_cases h0:0≤n
    ·simp[h0]
    ·have h3:n.tmod b=0:=by
      have:=Int.tmod_nonneg b (show 0≤ -n by omega)
      rw[Int.neg_tmod]at this
      omega
     have:b ∣ n:=(Int.dvd_iff_tmod_eq_zero).2 h3
     simp[h0,this]
   rw[e,e2]
   refine kQ (zC rfl (zA (k_seq (kQ (zB rfl (zt rfl rfl rfl (zA (k_cF rfl (decide_eq_false (by omega)) ?_))))))))
   refine zR (kQ (zB rfl (zB rfl (zGM rfl rfl rfl (by omega) ?_))))
   refine zC rfl (zA (k_seq (kQ (zB rfl (zt rfl rfl rfl (zA (k_cF rfl (decide_eq_false (by omega)) (zR ?_))))))))
   refine kQ (zB rfl (zC rfl (zA (zZ ?_))))
   refine⟨.inr rfl,_,.cons _ _ _ _ (.tmp 4) .nil,?_⟩
   exact .refl _
def zDo(a b n:Int):Int:=if b≤a then a else a+turnI n (b - a+1)
theorem zGD{a b:Int}(n:Int)(h:a≤b):a≤zDo a b n∧zDo a b n≤b:=by
 unfold zDo
 split
 ·omega
 ·have:=turnI_b (n:=n) (b:=b - a+1) (by omega)
  omega
set_option maxHeartbeats 4000000 in
theorem ret88(hi:Off is)(a b n:Int)(ha: -100000≤a∧a≤100000)(hb: -100000≤b∧b≤100000):RetP Tryd.prog is orc 88 [wP a b,.int .i64 n] (.int .i64 (zDo a b n)):=by
 refine zw body88 pure88 (hi 88 (by decide)) rfl rfl (yV (wO a b 6) (.int _ _ _)) (.inl (.int _ _ _)) ?_
 unfold zDo
 by_cases h:b≤a
 ·rw[if_pos h]
  refine kQ (zx rfl rfl (zC rfl (zA ?_)))
  refine zL [(1,.int .i64 n),(2,U.box 0 0)] ([SB.box [.int .i64 a,.int .i64 b]]) (.cons rfl (.cons rfl (.nil rfl))) rfl fun fr=>?_
  refine k_seq (kQ (zF rfl rfl zAE (zG rfl rfl rfl sh3 rfl (zF rfl rfl wG (zG rfl rfl rfl sh3 rfl (zDR rfl rfl rfl (zA (k_cT rfl (decide_eq_true (by omega)) ?_))))))))
  refine kQ (zF rfl rfl wG (zG rfl rfl rfl sh3 rfl (zC rfl (zA (zZ ?_)))))
  refine⟨.inr rfl,_,.cons _ _ _ _ (.tmp 4) .nil,?_⟩
  exact .refl _
 ·rw[if_neg h]
  have ht:=turnI_b (n:=n) (b:=b - a+1) (by omega)
  refine kQ (zx rfl rfl (zC rfl (zA ?_)))
  refine zL [(1,.int .i64 n),(2,U.box 0 0)] ([SB.box [.int .i64 a,.int .i64 b]]) (.cons rfl (.cons rfl (.nil rfl))) rfl fun fr=>?_
  refine k_seq (kQ (zF rfl rfl zAE (zG rfl rfl rfl sh3 rfl (zF rfl rfl wG (zG rfl rfl rfl sh3 rfl (zDR rfl rfl rfl (zA (k_cF rfl (decide_eq_false (by omega)) ?_))))))))
  refine zR (kQ (zF rfl rfl zAE (zG rfl rfl rfl sh3 rfl (zF rfl rfl wG (zG rfl rfl rfl sh3 rfl ?_)))))
  refine zCP rfl rfl rfl (by unfold I64;omega) ?_
  refine yr rfl rfl rfl (by unfold I64;omega) (zC rfl (zA ?_))
  refine zL [(1,.int .i64 n),(2,U.box 0 0),(5,.int .i64 (b - a+(1:Int)))] ([SB.box [.int .i64 a,.int .i64 b]]) (.cons rfl (.cons rfl (.cons rfl (.nil rfl)))) rfl fun fr=>?_
  refine k_seq (kQ (zB rfl (zt rfl rfl rfl (zA (k_cF rfl (decide_eq_false (by omega)) (zR (k_seq (yu [.plain,.read true,.plain,.plain,.read false,.plain,.plain] (by kernel_rfl) (by kernel_rfl) (by kernel_rfl) ?_))))))))
  refine zD (zF rfl rfl wG (zA rfl)) ?_
  refine zi rfl (zG rfl rfl rfl sh3 rfl (zA rfl)) (zD (zB rfl (zA rfl)) (zD (zB rfl (zA rfl)) (zAU rfl (ret46 hi n (b - a+1) (by omega)) (.int _ _) (.lrefl _) ?_)))
  refine zD (yr rfl rfl rfl (by unfold I64;omega) (zA rfl)) ?_
  refine zD (zC rfl (zA rfl)) ?_
  refine zAI ?_
  refine zZ ?_
  refine⟨.inr rfl,_,.cons _ _ _ _ (.tmp 4) .nil,?_⟩
  exact .refl _
set_option maxHeartbeats 4000000 in
theorem ret53(hi:Off is)(l:List Int)(i:Nat):RetP Tryd.prog is orc 53 [.lst .ro 1 (zE l),.int .i64 i] (.int .i64 (nthI l i)):=by
 refine zw body53 pure53 (hi 53 (by decide)) rfl rfl (yV (zh 6 .ro (fun h=>by cases h) 1 l) (.int _ _ _)) (.inl (.int _ _ _)) ?_
 by_cases h0:l.length=0
 ·have hl:l=[]:=List.eq_nil_of_length_eq_zero h0
  subst hl
  refine kQ (zC rfl (zA (k_seq (kQ (zB rfl (yM rfl ty22 rfl (List.length_map _) ?_))))))
  refine we rfl rfl rfl (zA (k_cT rfl rfl ?_))
  refine kQ (zC rfl (zA (zZ ?_)))
  refine⟨.inr rfl,_,.cons _ _ _ _ (.tmp 4) .nil,?_⟩
  exact .refl _
 ·have hl:0<l.length:=by omega
  obtain⟨q,hq⟩:∃q,l[i % l.length]? =some q:=⟨_,List.getElem?_eq_getElem (Nat.mod_lt i hl)⟩
  have q46:RetP Tryd.prog is orc 46 [.int .i64 i,.int .i64 l.length] (.int .i64 ((i % l.length:Nat):Int)):=by
   have:=ret46n (orc:=orc) hi (i:Int) l.length (by omega) (by omega)
   rw[←Int.natCast_emod]at this
   exact this
  rw[show nthI l i=q by unfold nthI;rw[hq];rfl]
  generalize hm:i % l.length=m at q46 hq
  have hml:m<l.length:=by rw[←hm];exact Nat.mod_lt i hl
  refine kQ (zC rfl (zA (k_seq (kQ (zB rfl (yM rfl ty22 rfl (List.length_map _) ?_))))))
  refine we rfl rfl rfl (zA (k_cF rfl (decide_eq_false (by omega)) (zR (kQ (zB rfl (zB rfl (zB rfl (yM rfl ty22 rfl (List.length_map _) ?_))))))))
  refine zQ rfl (q46) (.lrefl _) (wJ (u:=.int .i64 (q)) rfl ty22 rfl rfl (Int.natCast_nonneg _) (by simp[hq]) cl3 ?_)
  refine yD rfl rfl sh3 rfl ?_
  refine zC rfl (zA (zZ ?_))
  refine⟨.inr rfl,_,.cons _ _ _ _ (.tmp 4) .nil,?_⟩
  exact .refl _
end
section
variable {is:FuncId→Bool}{orc:Known}
theorem pl135:zGL Tryd.prog 135=some [(0,1),(1,1)]:=by kernel_rfl
theorem sh135:shOf Tryd.prog 135=.many 2:=by kernel_rfl
theorem ty94:tyOf Tryd.prog 94=.slice 3:=by kernel_rfl
theorem ze135:yR Tryd.prog 135=some ((.cons (.int .i64 0) (.cons (.int .i64 0) .nil)):V):=by kernel_rfl
noncomputable def b118:Code:=(Tryd.f118.body).getD .skip
theorem body118:bodyOf Tryd.prog 118=some (15,b118,[.cell 4 135]):=by kernel_rfl
theorem pure118:pureFn Tryd.prog 118=true:=by kernel_rfl
theorem fld135_0:zz Tryd.prog 135 0=some (0,3):=by kernel_rfl
theorem fld135_1:zz Tryd.prog 135 1=some (1,3):=by kernel_rfl
noncomputable def b119:Code:=(Tryd.f119.body).getD .skip
theorem body119:bodyOf Tryd.prog 119=some (8,b119,[.tmp 2]):=by kernel_rfl
theorem pure119:pureFn Tryd.prog 119=true:=by kernel_rfl
noncomputable def b99:Code:=(Tryd.f99.body).getD .skip
theorem body99:bodyOf Tryd.prog 99=some (18,b99,[.tmp 4]):=by kernel_rfl
theorem pure99:pureFn Tryd.prog 99=true:=by kernel_rfl
noncomputable def b129:Code:=(Tryd.f129.body).getD .skip
theorem body129:bodyOf Tryd.prog 129=some (15,b129,[.tmp 2]):=by kernel_rfl
theorem pure129:pureFn Tryd.prog 129=true:=by kernel_rfl
noncomputable def b115:Code:=(Tryd.f115.body).getD .skip
theorem body115:bodyOf Tryd.prog 115=some (12,b115,[.tmp 4]):=by kernel_rfl
theorem pure115:pureFn Tryd.prog 115=true:=by kernel_rfl
noncomputable def b117:Code:=(Tryd.f117.body).getD .skip
theorem body117:bodyOf Tryd.prog 117=some (15,b117,[.tmp 4]):=by kernel_rfl
theorem pure117:pureFn Tryd.prog 117=true:=by kernel_rfl
theorem pl125:zGL Tryd.prog 125=some [(0,1),(1,1)]:=by kernel_rfl
theorem sh125:shOf Tryd.prog 125=.many 2:=by kernel_rfl
theorem ze125:yR Tryd.prog 125=some ((.cons (.int .i64 0) (.cons (.int .i64 0) .nil)):V):=by kernel_rfl
noncomputable def b101:Code:=(Tryd.f101.body).getD .skip
theorem body101:bodyOf Tryd.prog 101=some (11,b101,[.cell 4 125]):=by kernel_rfl
theorem pure101:pureFn Tryd.prog 101=true:=by kernel_rfl
theorem yW:zz Tryd.prog 75 0=some (0,27):=by kernel_rfl
noncomputable def b128:Code:=(Tryd.f128.body).getD .skip
theorem body128:bodyOf Tryd.prog 128=some (7,b128,[.cell 2 125]):=by kernel_rfl
theorem pure128:pureFn Tryd.prog 128=true:=by kernel_rfl
theorem sh75:shOf Tryd.prog 75=.many 11:=by kernel_rfl
noncomputable def b116:Code:=(Tryd.f116.body).getD .skip
theorem body116:bodyOf Tryd.prog 116=some (17,b116,[.tmp 6]):=by kernel_rfl
theorem pure116:pureFn Tryd.prog 116=true:=by kernel_rfl
set_option maxHeartbeats 4000000 in
theorem ret118(hi:Off is){l:List Int}{i:Nat}{x y:Int}(hx:l[i]? =some x)(hy:l[i+1]? =some y)(hl:l.length≤4096):RetP Tryd.prog is orc 118 [.lst .ro 1 (zE l),.int .i64 i] (wP x y):=by
 refine zw body118 pure118 (hi 118 (by decide)) rfl rfl (yV (zh 6 .ro (fun h=>by cases h) 1 l) (.int _ _ _)) (.inl (wO _ _ 6)) ?_
 have h1:=(List.getElem?_eq_some_iff.1 hx).1
 refine kQ (zk rfl ze135 ?_)
 refine zA ?_
 refine zL [(0,.lst .ro 1 (zE l)),(1,.int .i64 ↑i),(4,U.box 0 0)] ([SB.box [.int .i64 0,.int .i64 0]]) (.cons rfl (.cons rfl (.cons rfl (.nil rfl)))) rfl fun fr=>?_
 refine k_seq (yu [.plain,.plain,.plain,.read true,.plain,.plain,.plain,.plain,.read true,.plain,.plain] (by kernel_rfl) (by kernel_rfl) (by kernel_rfl) ?_)
 refine zD (zB rfl (zA rfl)) (zD (zB rfl (zA rfl)) (zD (wJ (u:=.int .i64 (x)) rfl ty94 rfl rfl (Int.natCast_nonneg _) (by simp[hx]) cl3 (zA rfl)) ?_))
 refine zi rfl (yD rfl rfl sh3 rfl (zA rfl)) ?_
 refine zD (zB rfl (zA rfl)) (zD (zB rfl (zA rfl)) ?_)
 refine zD (yr rfl rfl rfl (by unfold I64;omega) (zA rfl)) ?_
 refine zD (wJ (u:=.int .i64 (y)) rfl ty94 rfl rfl (Int.natCast_nonneg _) (by simp[hy]) cl3 (zA rfl)) ?_
 refine zi rfl (yD rfl rfl sh3 rfl (zA rfl)) ?_
 refine zD (zAi rfl ze135 pl135 rfl rfl (zA rfl)) ?_
 refine zD (zd rfl rfl sh135 rfl rfl rfl rfl rfl (zA rfl)) ?_
 refine zAI ?_
 refine zZ ?_
 refine⟨.inr rfl,_,.cons _ _ _ _ (.cellN 4 135 _ _ _ _ rfl rfl sh135 rfl) .nil,?_⟩
 exact .refl _
theorem ret119(hi:Off is)(x y:Int):RetP Tryd.prog is orc 119 [wP x y] (.bool (decide (y=x))):=by
 refine zw body119 pure119 (hi 119 (by decide)) rfl rfl (wq (wO x y 6)) (.inl (.bool _ _)) ?_
 refine kQ (zx rfl rfl (zC rfl (zA ?_)))
 refine zL [(1,U.box 0 0)] ([SB.box [.int .i64 x,.int .i64 y]]) (.cons rfl (.nil rfl)) rfl fun fr=>?_
 refine kQ (zF rfl rfl fld135_1 (zG rfl rfl rfl sh3 rfl (zF rfl rfl fld135_0 (zG rfl rfl rfl sh3 rfl (we rfl rfl rfl (zC rfl (zA (zZ ?_))))))))
 refine⟨.inr rfl,_,.cons _ _ _ _ (.tmp 2) .nil,?_⟩
 exact .refl _
set_option maxHeartbeats 4000000 in
theorem ret99(hi:Off is)(x y:Int):RetP Tryd.prog is orc 99 [.int .i64 x,.lst .ro 1 (zE [y])] (.int .i64 (max x y)):=by
 refine zw body99 pure99 (hi 99 (by decide)) rfl rfl (yV (.int _ _ _) (zh 6 .ro (fun h=>by cases h) 1 [y])) (.inl (.int _ _ _)) ?_
 refine kQ (zC rfl (zA (k_seq (kQ (zB rfl (yM rfl ty22 rfl (List.length_map _) ?_))))))
 refine zB rfl (zA (zP ?_))
 refine wD (fun kk s2=>s2.st=[]∧((kk=1∧Holds s2 [(0,.int .i64 x),(7,.lst .ro 1 (zE [y])),(8,.int .i64 1),(9,.int .i64 0)])∨(kk=0∧Holds s2 [(0,.int .i64 (max x y)),(7,.lst .ro 1 (zE [y])),(8,.int .i64 1),(9,.int .i64 1)]))) (fun kk s2 hI=>?_) 1 _ ⟨rfl,.inl ⟨rfl,.c4 rfl rfl rfl rfl (.nil rfl)⟩⟩
 obtain⟨hst2,⟨hk,hs2⟩|⟨hk,hs2⟩⟩:=hI
 ·refine zL _ _ hs2 hst2 fun fr2=>?_
  refine kQ (zt rfl rfl rfl (zA (k_seq (k_cT rfl rfl ?_))))
  refine zR (k_seq (zP (kQ (wJ rfl ty22 rfl rfl (by decide) rfl cl3 ?_))))
  refine yD rfl rfl sh3 rfl ?_
  refine zC rfl (zA (k_region (zB rfl (zB rfl (o_max rfl rfl rfl ?_)))))
  refine zC rfl (zA (k_region ?_))
  refine yr rfl rfl rfl (by unfold I64;omega) (zB rfl (zA ?_))
  exact⟨0,by omega,rfl,.inr ⟨rfl,.c4 rfl rfl rfl rfl (.nil rfl)⟩⟩
 ·refine zL _ _ hs2 hst2 fun fr2=>?_
  refine kQ (zt rfl rfl rfl (zA (k_seq (k_cF rfl rfl ?_))))
  refine yj (kQ (zB rfl (zC rfl (zA (zZ ?_)))))
  refine⟨.inr rfl,_,.cons _ _ _ _ (.tmp 4) .nil,?_⟩
  exact .refl _
def zFR(x y:Int):Int:=max (y - x) (x - y)
theorem ret129(hi:Off is){x y:Int}(hx:0≤x∧x≤3)(hy:0≤y∧y≤3):RetP Tryd.prog is orc 129 [wP x y] (.int .i64 (zFR x y)):=by
 refine zw body129 pure129 (hi 129 (by decide)) rfl rfl (wq (wO x y 6)) (.inl (.int _ _ _)) ?_
 refine kQ (zx rfl rfl (zC rfl (zA ?_)))
 refine zL [(1,U.box 0 0)] ([SB.box [.int .i64 x,.int .i64 y]]) (.cons rfl (.nil rfl)) rfl fun fr=>?_
 refine kQ (zF rfl rfl fld135_1 (zG rfl rfl rfl sh3 rfl (zF rfl rfl fld135_0 (zG rfl rfl rfl sh3 rfl ?_))))
 refine zCP rfl rfl rfl (by unfold I64;omega) (zF rfl rfl fld135_0 (zG rfl rfl rfl sh3 rfl (zF rfl rfl fld135_1 (zG rfl rfl rfl sh3 rfl ?_))))
 refine zU [(7,.int .i64 (y - x)),(9,.int .i64 x),(11,.int .i64 y)] [] ([SB.box [.int .i64 x,.int .i64 y]]) (.cons rfl (.cons rfl (.cons rfl (.nil rfl)))) rfl rfl fun fr=>?_
 refine zCP rfl rfl rfl (by unfold I64;omega) (zCz (es:=[.int .i64 (x - y)]) rfl ty22 ze3 cl3 rfl rfl rfl rfl rfl rfl rfl rfl ?_)
 refine zQ rfl (ret99 hi (y - x) (x - y)) (.lcons _ _ _ _ (.refl _) (.lcons _ _ _ _ (.ro _ _ _) (.lrefl _))) ?_
 refine zC rfl (zA (zZ ?_))
 refine⟨.inr rfl,_,.cons _ _ _ _ (.tmp 2) .nil,?_⟩
 exact .refl _
theorem ret115(hi:Off is){l:List Int}{i:Nat}{x:Int}(hx:l[i]? =some x)(hl:l.length≤4096):RetP Tryd.prog is orc 115 [.lst .ro 1 (zE l),.int .i64 i] (.bool (inS 0 3 x)):=by
 refine zw body115 pure115 (hi 115 (by decide)) rfl rfl (yV (zh 6 .ro (fun h=>by cases h) 1 l) (.int _ _ _)) (.inl (.bool _ _)) ?_
 have q90:=ret90 (orc:=orc) hi 0 3 x
 refine kQ (zC rfl (zA (k_seq (yu [.plain,.read true,.plain,.plain,.plain,.read true,.plain,.plain] (by kernel_rfl) (by kernel_rfl) (by kernel_rfl) ?_))))
 refine d_gpair (i:=3) (c:=2) (n:=10) sh24 rfl rfl zDx cl24 rfl rfl rfl (gatB 3 (by decide)) rfl ?_
 refine zD (zB rfl (zA rfl)) (zD (zB rfl (zA rfl)) (zD (wJ (u:=.int .i64 (x)) rfl ty94 rfl rfl (Int.natCast_nonneg _) (by simp[hx]) cl3 (zA rfl)) ?_))
 refine zi rfl (yD rfl rfl sh3 rfl (zA rfl)) ?_
 refine zD (zQ rfl (q90) (.lrefl _) (zA rfl)) ?_
 refine zD (zC rfl (zA rfl)) ?_
 refine zAI ?_
 refine zZ ?_
 refine⟨.inr rfl,_,.cons _ _ _ _ (.tmp 4) .nil,?_⟩
 exact .refl _
theorem ret101(hi:Off is){l:List Int}{i:Nat}{x:Int}(hx:l[i]? =some x)(hl:l.length≤4096):RetP Tryd.prog is orc 101 [.lst .ro 1 (zE l),.int .i64 i] (wP i x):=by
 refine zw body101 pure101 (hi 101 (by decide)) rfl rfl (yV (zh 6 .ro (fun h=>by cases h) 1 l) (.int _ _ _)) (.inl (wO _ _ 6)) ?_
 refine kQ (zk rfl ze125 ?_)
 refine zA ?_
 refine zL [(0,.lst .ro 1 (zE l)),(1,.int .i64 ↑i),(4,U.box 0 0)] ([SB.box [.int .i64 0,.int .i64 0]]) (.cons rfl (.cons rfl (.cons rfl (.nil rfl)))) rfl fun fr=>?_
 refine kQ (zB rfl (zB rfl (zB rfl (wJ (u:=.int .i64 (x)) rfl ty94 rfl rfl (Int.natCast_nonneg _) (by simp[hx]) cl3 ?_))))
 refine yD rfl rfl sh3 rfl ?_
 refine zAi rfl ze125 pl125 rfl rfl ?_
 refine zd rfl rfl sh125 rfl rfl rfl rfl rfl ?_
 refine zA (zZ ?_)
 refine⟨.inr rfl,_,.cons _ _ _ _ (.cellN 4 125 _ _ _ _ rfl rfl sh125 rfl) .nil,?_⟩
 exact .refl _
set_option maxHeartbeats 4000000 in
theorem ret117(hi:Off is){l:List Int}{i:Nat}{x:Int}(hx:l[i]? =some x)(hr:∀y∈l.take (i+1),0≤y∧y≤3)(hl:l.length≤4096):RetP Tryd.prog is orc 117 [.lst .ro 1 (zE l),.int .i64 i] (.bool (decide (i=0)||decide (zFR ((l[i - 1]?).getD 0) x≤1))):=by
 refine zw body117 pure117 (hi 117 (by decide)) rfl rfl (yV (zh 6 .ro (fun h=>by cases h) 1 l) (.int _ _ _)) (.inl (.bool _ _)) ?_
 have h1:=(List.getElem?_eq_some_iff.1 hx).1
 cases i with
 |zero=>
  refine kQ (zC rfl (zA (kQ (zB rfl (we rfl rfl rfl (zB rfl (o_gS rfl rfl rfl rfl rfl (o_gS rfl rfl rfl rfl rfl ?_))))))))
  refine o_gS rfl rfl rfl rfl rfl (o_gS rfl rfl rfl rfl rfl (o_gS rfl rfl rfl rfl rfl (o_gS rfl rfl rfl rfl rfl (zT rfl rfl rfl ?_))))
  refine zC rfl (zA (zZ ?_))
  refine⟨.inr rfl,_,.cons _ _ _ _ (.tmp 4) .nil,?_⟩
  exact .refl _
  done
 |succ i=>
  obtain⟨w,hw⟩:∃w,l[i]? =some w:=⟨l[i],List.getElem?_eq_getElem (by omega)⟩
  have e:((l[i+1 - 1]?).getD 0)=w:=by rw[Nat.add_sub_cancel,hw];rfl
  rw[e]
  have hwr:=hr w (by rw[List.mem_take_iff_getElem];exact⟨i,by omega,(List.getElem?_eq_some_iff.1 hw).2⟩)
  have hxr:=hr x (by rw[List.mem_take_iff_getElem];exact⟨i+1,by omega,(List.getElem?_eq_some_iff.1 hx).2⟩)
  have q118:RetP Tryd.prog is orc 118 [.lst .ro 1 (zE l),.int .i64 (((i+1:Nat):Int) - 1)] (wP w x):=by
   have:=ret118 (orc:=orc) hi hw hx hl
   rw[show((i+1:Nat):Int) - 1=i by omega];exact this
  rw[show(decide (i+1=0)||decide (zFR w x≤1))=decide (zFR w x≤1) by simp]
  refine kQ (zC rfl (zA (kQ (zB rfl (we rfl rfl rfl (zB rfl (o_gD rfl rfl rfl rfl (decide_eq_false (by omega)) (zB rfl ?_))))))))
  refine o_gD rfl rfl rfl rfl (decide_eq_false (by omega)) (zB rfl (o_gD rfl rfl rfl rfl (decide_eq_false (by omega)) ?_))
  refine zCP rfl rfl rfl (by unfold I64;omega) (o_gD rfl rfl rfl rfl (decide_eq_false (by omega)) (zQ rfl (q118) (.lrefl _) (o_gD rfl rfl rfl rfl (decide_eq_false (by omega)) (zQ rfl (ret129 hi hwr hxr) (.lrefl _) ?_))))
  refine o_gD rfl rfl rfl rfl (decide_eq_false (by omega)) (zDR rfl rfl rfl (zO rfl rfl rfl ?_))
  refine zC rfl (zA (zZ ?_))
  refine⟨.inr rfl,_,.cons _ _ _ _ (.tmp 4) .nil,?_⟩
  exact .refl _
  done
end
end Go.Proofs.YtfbmlibilcjlgaaDoor.drumGong
