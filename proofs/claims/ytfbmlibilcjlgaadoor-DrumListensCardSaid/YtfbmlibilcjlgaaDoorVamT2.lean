import Derived.Test.YtfbmlibilcjlgaaDoorVamT1
set_option linter.unusedVariables false
set_option linter.unusedSimpArgs false
set_option linter.constructorNameAsVariable false
namespace Go.Proofs.YtfbmlibilcjlgaaDoor.drumListens
open Vam
section
variable {is:FuncId→Bool}{orc:Known}
noncomputable def b46:Code:=(Tryd.f46.body).getD .skip
theorem body46:bodyOf Tryd.prog 46=some (17,b46,[.tmp 4]):=by kernel_rfl
theorem pure46:pureFn Tryd.prog 46=true:=by kernel_rfl
noncomputable def b53:Code:=(Tryd.f53.body).getD .skip
theorem body53:bodyOf Tryd.prog 53=some (15,b53,[.tmp 4]):=by kernel_rfl
theorem pure53:pureFn Tryd.prog 53=true:=by kernel_rfl
noncomputable def b88:Code:=(Tryd.f88.body).getD .skip
theorem body88:bodyOf Tryd.prog 88=some (34,b88,[.tmp 4]):=by kernel_rfl
theorem pure88:pureFn Tryd.prog 88=true:=by kernel_rfl
theorem by3:Program.bytesOf Tryd.prog 3=8:=by kernel_rfl
theorem ap22_22:AppT Tryd.prog 22 22 3 1 8 ((.cons (.int .i64 0) .nil):V):=⟨ty22,⟨_,ty22⟩,cl3,by decide,by3,ze3,rfl⟩
noncomputable def b43:Code:=(Tryd.f43.body).getD .skip
theorem body43:bodyOf Tryd.prog 43=some (37,b43,[.tmp 4]):=by kernel_rfl
theorem pure43:pureFn Tryd.prog 43=true:=by kernel_rfl
def nthI(l:List Int)(i:Nat):Int:=(l[i % l.length]?).getD 0
theorem tmod_n{n m:Int}(hn:0≤n):n.tmod m=n % m:=Int.tmod_eq_emod_of_nonneg hn
set_option maxHeartbeats 4000000 in
theorem ret46n(hi:Off is)(n m:Int)(hm:0<m)(hn:0≤n):RetP Tryd.prog is orc 46 [.int .i64 n,.int .i64 m] (.int .i64 (n % m)):=by
 refine zw body46 pure46 (hi 46 (by decide)) rfl rfl (yj (.int _ _ _) (.int _ _ _)) (.inl (.int _ _ _)) ?_
 rw[←tmod_n hn]
 have h2:=Int.tmod_nonneg m hn
 refine kQ (zC rfl (zB (k_seq (kQ (zA rfl (zc rfl rfl rfl (zB (k_cF rfl (decide_eq_false (by omega)) ?_))))))))
 refine zQ (kQ (zA rfl (zA rfl (o_rem rfl rfl rfl (by omega) ?_))))
 refine zC rfl (zB (k_seq (kQ (zA rfl (zc rfl rfl rfl (zB (k_cF rfl (decide_eq_false (by omega)) (zQ ?_))))))))
 refine kQ (zA rfl (zC rfl (zB (zU ?_))))
 refine⟨.inr rfl,_,.cons _ _ _ _ (.tmp 4) .nil,?_⟩
 exact .refl _
def zEI(n b:Int):Int:=if b<1 then 0 else n % b
theorem turnI_b{n b:Int}(h:1≤b):0≤zEI n b∧zEI n b<b:=by
 unfold zEI;rw[if_neg (by omega)]
 exact⟨Int.emod_nonneg _ (by omega),Int.emod_lt_of_pos _ (by omega)⟩
set_option maxHeartbeats 4000000 in
theorem ret46(hi:Off is)(n b:Int)(hb:b≤1000000):RetP Tryd.prog is orc 46 [.int .i64 n,.int .i64 b] (.int .i64 (zEI n b)):=by
 refine zw body46 pure46 (hi 46 (by decide)) rfl rfl (yj (.int _ _ _) (.int _ _ _)) (.inl (.int _ _ _)) ?_
 by_cases h:b<1
 ·have e:zEI n b=0:=by unfold zEI;rw[if_pos h]
  rw[e]
  refine kQ (zC rfl (zB (k_seq (kQ (zA rfl (zc rfl rfl rfl (zB (k_cT rfl (decide_eq_true (by omega)) ?_))))))))
  refine kQ (zC rfl (zB (zU ?_)))
  refine⟨.inr rfl,_,.cons _ _ _ _ (.tmp 4) .nil,?_⟩
  exact .refl _
 ·have hb0:0<b:=by omega
  have e:zEI n b=n % b:=by unfold zEI;rw[if_neg h]
  have t1:n.tmod b<b:=Int.tmod_lt_of_pos n hb0
  have t2: -b<n.tmod b:=by have:=Int.lt_tmod_of_pos n hb0;omega
  by_cases hn:n.tmod b<0
  ·have e2:n % b=n.tmod b+b:=by
    rw[Int.emod_eq_tmod]
    have h0: ¬ (0≤n):=fun h0=>by have:=Int.tmod_nonneg b h0;omega
    have h3: ¬ (b ∣ n):=fun h3=>by have:=(Int.dvd_iff_tmod_eq_zero).1 h3;omega
    simp[h0,h3];omega
   rw[e,e2]
   refine kQ (zC rfl (zB (k_seq (kQ (zA rfl (zc rfl rfl rfl (zB (k_cF rfl (decide_eq_false (by omega)) ?_))))))))
   refine zQ (kQ (zA rfl (zA rfl (o_rem rfl rfl rfl (by omega) ?_))))
   refine zC rfl (zB (k_seq (kQ (zA rfl (zc rfl rfl rfl (zB (k_cT rfl (decide_eq_true (by omega)) (k_region ?_))))))))
   refine zA rfl (zA rfl ?_)
   refine yU rfl rfl rfl (by unfold I64;omega) (zC rfl (zB ?_))
   refine zK [(5,.int .i64 (Int.tmod n b+b))] ([]) (.cons rfl (.nil rfl)) rfl fun fr=>?_
   refine kQ (zA rfl (zC rfl (zB (zU ?_))))
   refine⟨.inr rfl,_,.cons _ _ _ _ (.tmp 4) .nil,?_⟩
   exact .refl _
  ·have e2:n % b=n.tmod b:=by
    rw[Int.emod_eq_tmod]
    by_cases h0:0≤n
    ·simp[h0]
    ·have h3:n.tmod b=0:=by
      have:=Int.tmod_nonneg b (show 0≤ -n by omega)
      rw[Int.neg_tmod]at this
      omega
     have:b ∣ n:=(Int.dvd_iff_tmod_eq_zero).2 h3
     simp[h0,this]
   rw[e,e2]
   refine kQ (zC rfl (zB (k_seq (kQ (zA rfl (zc rfl rfl rfl (zB (k_cF rfl (decide_eq_false (by omega)) ?_))))))))
   refine zQ (kQ (zA rfl (zA rfl (o_rem rfl rfl rfl (by omega) ?_))))
   refine zC rfl (zB (k_seq (kQ (zA rfl (zc rfl rfl rfl (zB (k_cF rfl (decide_eq_false (by omega)) (zQ ?_))))))))
   refine kQ (zA rfl (zC rfl (zB (zU ?_))))
   refine⟨.inr rfl,_,.cons _ _ _ _ (.tmp 4) .nil,?_⟩
   exact .refl _
def zDz(a b n:Int):Int:=if b≤a then a else a+zEI n (b - a+1)
theorem drawI_b{a b:Int}(n:Int)(h:a≤b):a≤zDz a b n∧zDz a b n≤b:=by
 unfold zDz
 split
 ·omega
 ·have:=turnI_b (n:=n) (b:=b - a+1) (by omega)
  omega
set_option maxHeartbeats 4000000 in
theorem ret88(hi:Off is)(a b n:Int)(ha: -100000≤a∧a≤100000)(hb: -100000≤b∧b≤100000):RetP Tryd.prog is orc 88 [yD a b,.int .i64 n] (.int .i64 (zDz a b n)):=by
 refine zw body88 pure88 (hi 88 (by decide)) rfl rfl (yj (yk a b 6) (.int _ _ _)) (.inl (.int _ _ _)) ?_
 unfold zDz
 by_cases h:b≤a
 ·rw[if_pos h]
  refine kQ (zr rfl rfl (zC rfl (zB ?_)))
  refine zK [(1,.int .i64 n),(2,U.box 0 0)] ([SB.box [.int .i64 a,.int .i64 b]]) (.cons rfl (.cons rfl (.nil rfl))) rfl fun fr=>?_
  refine k_seq (kQ (zF rfl rfl zAc (zG rfl rfl rfl sh3 rfl (zF rfl rfl wU (zG rfl rfl rfl sh3 rfl (zCh rfl rfl rfl (zB (k_cT rfl (decide_eq_true (by omega)) ?_))))))))
  refine kQ (zF rfl rfl wU (zG rfl rfl rfl sh3 rfl (zC rfl (zB (zU ?_)))))
  refine⟨.inr rfl,_,.cons _ _ _ _ (.tmp 4) .nil,?_⟩
  exact .refl _
 ·rw[if_neg h]
  have ht:=turnI_b (n:=n) (b:=b - a+1) (by omega)
  refine kQ (zr rfl rfl (zC rfl (zB ?_)))
  refine zK [(1,.int .i64 n),(2,U.box 0 0)] ([SB.box [.int .i64 a,.int .i64 b]]) (.cons rfl (.cons rfl (.nil rfl))) rfl fun fr=>?_
  refine k_seq (kQ (zF rfl rfl zAc (zG rfl rfl rfl sh3 rfl (zF rfl rfl wU (zG rfl rfl rfl sh3 rfl (zCh rfl rfl rfl (zB (k_cF rfl (decide_eq_false (by omega)) ?_))))))))
  refine zQ (kQ (zF rfl rfl zAc (zG rfl rfl rfl sh3 rfl (zF rfl rfl wU (zG rfl rfl rfl sh3 rfl ?_)))))
  refine wF rfl rfl rfl (by unfold I64;omega) ?_
  refine yU rfl rfl rfl (by unfold I64;omega) (zC rfl (zB ?_))
  refine zK [(1,.int .i64 n),(2,U.box 0 0),(5,.int .i64 (b - a+(1:Int)))] ([SB.box [.int .i64 a,.int .i64 b]]) (.cons rfl (.cons rfl (.cons rfl (.nil rfl)))) rfl fun fr=>?_
  refine k_seq (kQ (zA rfl (zc rfl rfl rfl (zB (k_cF rfl (decide_eq_false (by omega)) (zQ (k_seq (ya [.plain,.read true,.plain,.plain,.read false,.plain,.plain] (by kernel_rfl) (by kernel_rfl) (by kernel_rfl) ?_))))))))
  refine zE (zF rfl rfl wU (zB rfl)) ?_
  refine zb rfl (zG rfl rfl rfl sh3 rfl (zB rfl)) (zE (zA rfl (zB rfl)) (zE (zA rfl (zB rfl)) (zCG rfl (ret46 hi n (b - a+1) (by omega)) (.int _ _) (.lrefl _) ?_)))
  refine zE (yU rfl rfl rfl (by unfold I64;omega) (zB rfl)) ?_
  refine zE (zC rfl (zB rfl)) ?_
  refine wb ?_
  refine zU ?_
  refine⟨.inr rfl,_,.cons _ _ _ _ (.tmp 4) .nil,?_⟩
  exact .refl _
set_option maxHeartbeats 4000000 in
theorem ret53(hi:Off is)(l:List Int)(i:Nat):RetP Tryd.prog is orc 53 [.lst .ro 1 (zD l),.int .i64 i] (.int .i64 (nthI l i)):=by
 refine zw body53 pure53 (hi 53 (by decide)) rfl rfl (yj (zg 6 .ro (fun h=>by cases h) 1 l) (.int _ _ _)) (.inl (.int _ _ _)) ?_
 by_cases h0:l.length=0
 ·have hl:l=[]:=List.eq_nil_of_length_eq_zero h0
  subst hl
  refine kQ (zC rfl (zB (k_seq (kQ (zA rfl (yB rfl ty22 rfl (List.length_map _) ?_))))))
  refine wG rfl rfl rfl (zB (k_cT rfl rfl ?_))
  refine kQ (zC rfl (zB (zU ?_)))
  refine⟨.inr rfl,_,.cons _ _ _ _ (.tmp 4) .nil,?_⟩
  exact .refl _
 ·have hl:0<l.length:=by omega
  obtain⟨q,hq⟩:∃q,l[i % l.length]? =some q:=⟨_,List.getElem?_eq_getElem (Nat.mod_lt i hl)⟩
  have q46:RetP Tryd.prog is orc 46 [.int .i64 i,.int .i64 l.length] (.int .i64 ((i % l.length:Nat):Int)):=by
   have:=ret46n (orc:=orc) hi (i:Int) l.length (by omega) (by omega)
   rw[←Int.natCast_emod]at this
   exact this
  rw[show nthI l i=q by unfold nthI;rw[hq];rfl]
  generalize hm:i % l.length=m at q46 hq
  have hml:m<l.length:=by rw[←hm];exact Nat.mod_lt i hl
  refine kQ (zC rfl (zB (k_seq (kQ (zA rfl (yB rfl ty22 rfl (List.length_map _) ?_))))))
  refine wG rfl rfl rfl (zB (k_cF rfl (decide_eq_false (by omega)) (zQ (kQ (zA rfl (zA rfl (zA rfl (yB rfl ty22 rfl (List.length_map _) ?_))))))))
  refine zN rfl (q46) (.lrefl _) (yb (u:=.int .i64 (q)) rfl ty22 rfl rfl (Int.natCast_nonneg _) (by simp[hq]) cl3 ?_)
  refine zZ rfl rfl sh3 rfl ?_
  refine zC rfl (zB (zU ?_))
  refine⟨.inr rfl,_,.cons _ _ _ _ (.tmp 4) .nil,?_⟩
  exact .refl _
def choI(b:Bk)(bits:List Int):Nat→Int
 |0=>b.start
 |k+1=>zDz (max 0 (choI b bits k - 1)) (min 3 (choI b bits k+1)) (nthI bits (k+1))
theorem choI_b{b:Bk}(h:BOk b)(bits:List Int)(k:Nat):0≤choI b bits k∧choI b bits k≤3:=by
 induction k with
 |zero=>exact h.st
 |succ k ih=>
  have:=drawI_b (a:=max 0 (choI b bits k - 1)) (b:=min 3 (choI b bits k+1)) (nthI bits (k+1)) (by omega)
  show 0≤zDz _ _ _∧zDz _ _ _≤3
  omega
theorem choI_n{b:Bk}(h:BOk b)(bits:List Int)(k:Nat):choI b bits k - 1≤choI b bits (k+1)∧choI b bits (k+1)≤choI b bits k+1:=by
 have hb:=choI_b h bits k
 have:=drawI_b (a:=max 0 (choI b bits k - 1)) (b:=min 3 (choI b bits k+1)) (nthI bits (k+1)) (by omega)
 show _≤zDz _ _ _∧zDz _ _ _≤_
 omega
def choL(b:Bk)(bits:List Int)(n:Nat):List Int:=(List.range n).map (choI b bits)
theorem choL_len(b:Bk)(bits:List Int)(n:Nat):(choL b bits n).length=n:=by simp[choL]
theorem choL_at{b:Bk}{bits:List Int}{n i:Nat}(h:i<n):(choL b bits n)[i]? =some (choI b bits i):=by simp[choL,h]
theorem choL_succ(b:Bk)(bits:List Int)(n:Nat):choL b bits (n+1)=choL b bits n++[choI b bits n]:=by simp[choL,List.range_succ]
set_option maxHeartbeats 4000000 in
theorem ret43(hi:Off is){b:Bk}(h:BOk b)(bits:List Int):RetP Tryd.prog is orc 43 [b.u,.lst .ro 1 (zD bits)] (.lst .ro 1 (zD (choL b bits b.parts.toNat))):=by
 refine zw body43 pure43 (hi 43 (by decide)) rfl rfl (yj (yg b 4) (zg 6 .ro (fun h=>by cases h) 1 bits)) (.inl (zg 6 .ro (fun h=>by cases h) 1 _)) ?_
 have hp:=h.pa
 have hs:=h.st
 refine kQ (zr rfl rfl (zC rfl (zB ?_)))
 refine zK [(1,.lst .ro 1 (zD bits)),(2,U.box 0 0)] ([SB.box [.int .i64 (Bk.parts b),.int .i64 (Bk.size b),.lst .ro 1 (zD (Bk.beats b)),.int .i64 (Bk.start b),.int .i64 (Bk.fin b),.int .i64 (Bk.tlo b),.int .i64 (Bk.thi b),.int .i64 (Bk.slo b),.int .i64 (Bk.shi b),.int .i64 (Bk.notice b),.lst .ro 3 (plsU (Bk.players b))]]) (.cons rfl (.cons rfl (.nil rfl))) rfl fun fr=>?_
 refine kQ (zF rfl rfl zGJ (zG rfl rfl rfl sh3 rfl (wX (es:=[.int .i64 (Bk.start b)]) rfl ty22 ze3 cl3 rfl rfl rfl rfl rfl rfl rfl rfl ?_)))
 refine zC rfl (zB (k_seq (kQ (zC rfl (zB (zM ?_))))))
 obtain⟨V,hV⟩:∃V:List SB,V=[.box [.int .i64 b.parts,.int .i64 b.size,.lst .ro 1 (zD b.beats),.int .i64 b.start,.int .i64 b.fin,.int .i64 b.tlo,.int .i64 b.thi,.int .i64 b.slo,.int .i64 b.shi,.int .i64 b.notice,.lst .ro 3 (plsU b.players)]]:=⟨_,rfl⟩
 refine yi (fun kk s2=>∃(i:Nat) (kd:Kd),(kk:Int)+i+1=b.parts∧(kd=.full∨kd=.own)∧(∃e,s2.st=V++e)∧Holds s2 [(1,.lst .ro 1 (zD bits)),(2,.box 0 0),(5,.lst kd 1 (zD (choL b bits (i+1)))),(6,.int .i64 (i+1))]) (fun kk s2 hI=>?_) (b.parts - 1).toNat _ ⟨0,.full,by omega,.inl rfl,⟨[],by rw[hV];rfl⟩,.c4 rfl rfl rfl rfl (.nil rfl)⟩
 obtain⟨i,kd,hk,hkd,⟨e,hst2⟩,hs2⟩:=hI
 generalize hY:V++e=Y at hst2
 have y0:Y[0]? =some (SB.box [.int .i64 b.parts,.int .i64 b.size,.lst .ro 1 (zD b.beats),.int .i64 b.start,.int .i64 b.fin,.int .i64 b.tlo,.int .i64 b.thi,.int .i64 b.slo,.int .i64 b.shi,.int .i64 b.notice,.lst .ro 3 (plsU b.players)]):=by rw[←hY,hV];rfl
 have hlen:=choL_len b bits (i+1)
 have hat:=choL_at (b:=b) (bits:=bits) (show i<i+1 by omega)
 have hb:=choI_b h bits i
 have hsu:=choL_succ b bits (i+1)
 have hn:choI b bits (i+1)=zDz (max 0 (choI b bits i - 1)) (min 3 (choI b bits i+1)) (nthI bits (i+1)):=rfl
 refine zK _ _ hs2 hst2 fun fr2=>?_
 by_cases hin:(i:Int)+1<b.parts
 ·generalize choL b bits (i+1)=A at hlen hat hsu ⊢
  generalize choI b bits i=c at hat hb hn
  rcases hkd with rfl|rfl
  ·refine k_seq ?_
   refine kQ (zA rfl (zF rfl rfl yp (zG rfl rfl y0 sh3 rfl ?_)))
   refine zc rfl rfl rfl (zB (k_cT rfl (decide_eq_true (by omega)) (zQ (k_seq (zM (kQ (zA rfl (zA rfl ?_))))))))
   refine wF rfl rfl rfl (by unfold I64;omega) (yb (u:=.int .i64 (c)) rfl ty22 rfl rfl (by omega) (by simp[hat]) cl3 ?_)
   refine zZ rfl rfl sh3 rfl ?_
   refine zC rfl (zB (k_region (zA rfl (zA rfl ?_))))
   refine wF rfl rfl rfl (by unfold I64;omega) (o_max rfl rfl rfl ?_)
   refine zA rfl ?_
   refine yU rfl rfl rfl (by unfold I64;omega) (o_min rfl rfl rfl ?_)
   refine zN rfl (ret48 hi (max 0 (c - 1)) (min 3 (c+1))) (.lrefl _) ?_
   refine zA rfl ?_
   refine zV [(1,.lst .ro 1 (zD bits)),(2,U.box 0 0),(6,.int .i64 (↑i+(1:Int))),(22,.lst .full 1 (zD A)),(29,U.agg [.int .i64 (Max.max (0:Int) (c - (1:Int))),.int .i64 (Min.min (3:Int) (c+(1:Int)))]),(30,.lst .ro 1 (zD bits))] [] (Y) (.c4 rfl rfl rfl rfl (.cons rfl (.cons rfl (.nil rfl)))) rfl rfl fun fr=>?_
   refine zA rfl (zN rfl (ret53 hi bits (i+1)) (.lrefl _) ?_)
   refine zN rfl (ret88 hi (max 0 (c - 1)) (min 3 (c+1)) (nthI bits (i+1)) (by omega) (by omega)) (.lrefl _) ?_
   refine wX (es:=[.int .i64 (zDz (Max.max (0:Int) (c - (1:Int))) (Min.min (3:Int) (c+(1:Int))) (nthI bits (i+1)))]) rfl ty22 ze3 cl3 rfl rfl rfl rfl rfl rfl rfl rfl ?_
   refine wP rfl ap22_22 rfl rfl (by simp) (by simp) (by simp[yK,zn,oneU]) (by simp;omega) ?_
   refine zC rfl (zB ?_)
   refine zK [(1,.lst .ro 1 (zD bits)),(2,U.box 0 0),(5,U.lst Kd.own 1 (zD A++[.int .i64 (zDz (Max.max (0:Int) (c - (1:Int))) (Min.min (3:Int) (c+(1:Int))) (nthI bits (i+1)))])),(6,.int .i64 (↑i+(1:Int)))] (Y) (.c4 rfl rfl rfl rfl (.nil rfl)) rfl fun fr=>?_
   refine k_region (zA rfl ?_)
   refine yU rfl rfl rfl (by unfold I64;omega) (zC rfl (zB ?_))
   refine⟨kk - 1,by omega,i+1,.own,by omega,.inr rfl,⟨e,hY.symm⟩,.cons rfl (.cons rfl (.cons (by rw[hsu,hn];simp[zD];rfl) (.cons rfl (.nil rfl))))⟩
  ·refine k_seq ?_
   refine kQ (zA rfl (zF rfl rfl yp (zG rfl rfl y0 sh3 rfl ?_)))
   refine zc rfl rfl rfl (zB (k_cT rfl (decide_eq_true (by omega)) (zQ (k_seq (zM (kQ (zA rfl (zA rfl ?_))))))))
   refine wF rfl rfl rfl (by unfold I64;omega) (yb (u:=.int .i64 (c)) rfl ty22 rfl rfl (by omega) (by simp[hat]) cl3 ?_)
   refine zZ rfl rfl sh3 rfl ?_
   refine zC rfl (zB (k_region (zA rfl (zA rfl ?_))))
   refine wF rfl rfl rfl (by unfold I64;omega) (o_max rfl rfl rfl ?_)
   refine zA rfl ?_
   refine yU rfl rfl rfl (by unfold I64;omega) (o_min rfl rfl rfl ?_)
   refine zN rfl (ret48 hi (max 0 (c - 1)) (min 3 (c+1))) (.lrefl _) ?_
   refine zA rfl (zA rfl (zN rfl (ret53 hi bits (i+1)) (.lrefl _) ?_))
   refine zN rfl (ret88 hi (max 0 (c - 1)) (min 3 (c+1)) (nthI bits (i+1)) (by omega) (by omega)) (.lrefl _) ?_
   refine wX (es:=[.int .i64 (zDz (Max.max (0:Int) (c - (1:Int))) (Min.min (3:Int) (c+(1:Int))) (nthI bits (i+1)))]) rfl ty22 ze3 cl3 rfl rfl rfl rfl rfl rfl rfl rfl ?_
   refine wY 5 rfl ap22_22 rfl rfl rfl (by simp) (by simp) (by simp[yK,zn,oneU]) (by simp at hlen ⊢;omega) ?_
   refine zC rfl (zB (k_region (zA rfl ?_)))
   refine yU rfl rfl rfl (by unfold I64;omega) (zC rfl (zB ?_))
   refine⟨kk - 1,by omega,i+1,.own,by omega,.inr rfl,⟨e,hY.symm⟩,.cons rfl (.cons rfl (.cons (by rw[hsu,hn];simp[zD];rfl) (.cons rfl (.nil rfl))))⟩
 ·have hie:b.parts.toNat=i+1:=by omega
  rw[hie]
  rcases hkd with rfl|rfl
  ·refine k_seq ?_
   refine kQ (zA rfl (zF rfl rfl yp (zG rfl rfl y0 sh3 rfl ?_)))
   refine zc rfl rfl rfl (zB (k_cF rfl (decide_eq_false (by omega)) (yX (kQ (zA rfl (zC rfl (zB (zU ?_))))))))
   refine⟨.inr rfl,_,.cons _ _ _ _ (.tmp 4) .nil,?_⟩
   exact .ro _ _ _
  ·refine k_seq ?_
   refine kQ (zA rfl (zF rfl rfl yp (zG rfl rfl y0 sh3 rfl ?_)))
   refine zc rfl rfl rfl (zB (k_cF rfl (decide_eq_false (by omega)) (yX (kQ (zA rfl (zC rfl (zB (zU ?_))))))))
   refine⟨.inr rfl,_,.cons _ _ _ _ (.tmp 4) .nil,?_⟩
   exact .refl _
end
section
variable {is:FuncId→Bool}{orc:Known}
theorem pl135:zEx Tryd.prog 135=some [(0,1),(1,1)]:=by kernel_rfl
theorem zEt:shOf Tryd.prog 135=.many 2:=by kernel_rfl
theorem ty94:tyOf Tryd.prog 94=.slice 3:=by kernel_rfl
theorem ze135:yQ Tryd.prog 135=some ((.cons (.int .i64 0) (.cons (.int .i64 0) .nil)):V):=by kernel_rfl
noncomputable def b118:Code:=(Tryd.f118.body).getD .skip
theorem body118:bodyOf Tryd.prog 118=some (15,b118,[.cell 4 135]):=by kernel_rfl
theorem pure118:pureFn Tryd.prog 118=true:=by kernel_rfl
theorem zDx:zx Tryd.prog 135 0=some (0,3):=by kernel_rfl
theorem zDw:zx Tryd.prog 135 1=some (1,3):=by kernel_rfl
noncomputable def b119:Code:=(Tryd.f119.body).getD .skip
theorem body119:bodyOf Tryd.prog 119=some (8,b119,[.tmp 2]):=by kernel_rfl
theorem pure119:pureFn Tryd.prog 119=true:=by kernel_rfl
noncomputable def b99:Code:=(Tryd.f99.body).getD .skip
theorem body99:bodyOf Tryd.prog 99=some (18,b99,[.tmp 4]):=by kernel_rfl
theorem pure99:pureFn Tryd.prog 99=true:=by kernel_rfl
noncomputable def b129:Code:=(Tryd.f129.body).getD .skip
theorem body129:bodyOf Tryd.prog 129=some (15,b129,[.tmp 2]):=by kernel_rfl
theorem pure129:pureFn Tryd.prog 129=true:=by kernel_rfl
noncomputable def b130:Code:=(Tryd.f130.body).getD .skip
theorem body130:bodyOf Tryd.prog 130=some (3,b130,[.tmp 2]):=by kernel_rfl
theorem pure130:pureFn Tryd.prog 130=true:=by kernel_rfl
noncomputable def b131:Code:=(Tryd.f131.body).getD .skip
theorem body131:bodyOf Tryd.prog 131=some (8,b131,[.tmp 2]):=by kernel_rfl
theorem pure131:pureFn Tryd.prog 131=true:=by kernel_rfl
noncomputable def b132:Code:=(Tryd.f132.body).getD .skip
theorem body132:bodyOf Tryd.prog 132=some (8,b132,[.tmp 2]):=by kernel_rfl
theorem pure132:pureFn Tryd.prog 132=true:=by kernel_rfl
noncomputable def b115:Code:=(Tryd.f115.body).getD .skip
theorem body115:bodyOf Tryd.prog 115=some (12,b115,[.tmp 4]):=by kernel_rfl
theorem pure115:pureFn Tryd.prog 115=true:=by kernel_rfl
noncomputable def b117:Code:=(Tryd.f117.body).getD .skip
theorem body117:bodyOf Tryd.prog 117=some (15,b117,[.tmp 4]):=by kernel_rfl
theorem pure117:pureFn Tryd.prog 117=true:=by kernel_rfl
theorem pl125:zEx Tryd.prog 125=some [(0,1),(1,1)]:=by kernel_rfl
theorem sh125:shOf Tryd.prog 125=.many 2:=by kernel_rfl
theorem ze125:yQ Tryd.prog 125=some ((.cons (.int .i64 0) (.cons (.int .i64 0) .nil)):V):=by kernel_rfl
noncomputable def b101:Code:=(Tryd.f101.body).getD .skip
theorem body101:bodyOf Tryd.prog 101=some (11,b101,[.cell 4 125]):=by kernel_rfl
theorem pure101:pureFn Tryd.prog 101=true:=by kernel_rfl
theorem yW:zx Tryd.prog 75 0=some (0,27):=by kernel_rfl
noncomputable def b128:Code:=(Tryd.f128.body).getD .skip
theorem body128:bodyOf Tryd.prog 128=some (7,b128,[.cell 2 125]):=by kernel_rfl
theorem pure128:pureFn Tryd.prog 128=true:=by kernel_rfl
theorem sh75:shOf Tryd.prog 75=.many 11:=by kernel_rfl
noncomputable def b116:Code:=(Tryd.f116.body).getD .skip
theorem body116:bodyOf Tryd.prog 116=some (17,b116,[.tmp 6]):=by kernel_rfl
theorem pure116:pureFn Tryd.prog 116=true:=by kernel_rfl
set_option maxHeartbeats 4000000 in
theorem ret118(hi:Off is){l:List Int}{i:Nat}{x y:Int}(hx:l[i]? =some x)(hy:l[i+1]? =some y)(hl:l.length≤4096):RetP Tryd.prog is orc 118 [.lst .ro 1 (zD l),.int .i64 i] (yD x y):=by
 refine zw body118 pure118 (hi 118 (by decide)) rfl rfl (yj (zg 6 .ro (fun h=>by cases h) 1 l) (.int _ _ _)) (.inl (yk _ _ 6)) ?_
 have h1:=(List.getElem?_eq_some_iff.1 hx).1
 refine kQ (zu rfl ze135 ?_)
 refine zB ?_
 refine zK [(0,.lst .ro 1 (zD l)),(1,.int .i64 ↑i),(4,U.box 0 0)] ([SB.box [.int .i64 0,.int .i64 0]]) (.cons rfl (.cons rfl (.cons rfl (.nil rfl)))) rfl fun fr=>?_
 refine k_seq (ya [.plain,.plain,.plain,.read true,.plain,.plain,.plain,.plain,.read true,.plain,.plain] (by kernel_rfl) (by kernel_rfl) (by kernel_rfl) ?_)
 refine zE (zA rfl (zB rfl)) (zE (zA rfl (zB rfl)) (zE (yb (u:=.int .i64 (x)) rfl ty94 rfl rfl (Int.natCast_nonneg _) (by simp[hx]) cl3 (zB rfl)) ?_))
 refine zb rfl (zZ rfl rfl sh3 rfl (zB rfl)) ?_
 refine zE (zA rfl (zB rfl)) (zE (zA rfl (zB rfl)) ?_)
 refine zE (yU rfl rfl rfl (by unfold I64;omega) (zB rfl)) ?_
 refine zE (yb (u:=.int .i64 (y)) rfl ty94 rfl rfl (Int.natCast_nonneg _) (by simp[hy]) cl3 (zB rfl)) ?_
 refine zb rfl (zZ rfl rfl sh3 rfl (zB rfl)) ?_
 refine zE (wT rfl ze135 pl135 rfl rfl (zB rfl)) ?_
 refine zE (zl rfl rfl zEt rfl rfl rfl rfl rfl (zB rfl)) ?_
 refine wb ?_
 refine zU ?_
 refine⟨.inr rfl,_,.cons _ _ _ _ (.cellN 4 135 _ _ _ _ rfl rfl zEt rfl) .nil,?_⟩
 exact .refl _
theorem ret119(hi:Off is)(x y:Int):RetP Tryd.prog is orc 119 [yD x y] (.bool (decide (y=x))):=by
 refine zw body119 pure119 (hi 119 (by decide)) rfl rfl (zAA (yk x y 6)) (.inl (.bool _ _)) ?_
 refine kQ (zr rfl rfl (zC rfl (zB ?_)))
 refine zK [(1,U.box 0 0)] ([SB.box [.int .i64 x,.int .i64 y]]) (.cons rfl (.nil rfl)) rfl fun fr=>?_
 refine kQ (zF rfl rfl zDw (zG rfl rfl rfl sh3 rfl (zF rfl rfl zDx (zG rfl rfl rfl sh3 rfl (wG rfl rfl rfl (zC rfl (zB (zU ?_))))))))
 refine⟨.inr rfl,_,.cons _ _ _ _ (.tmp 2) .nil,?_⟩
 exact .refl _
theorem ret130(hi:Off is)(x y:Int):RetP Tryd.prog is orc 130 [yD x y] (.bool true):=by
 refine zw body130 pure130 (hi 130 (by decide)) rfl rfl (zAA (yk x y 6)) (.inl (.bool _ _)) ?_
 refine kQ (zr rfl rfl (zC rfl (zB ?_)))
 refine zK [] ([SB.box [.int .i64 x,.int .i64 y]]) (.nil rfl) rfl fun fr=>?_
 refine kQ (zC rfl (zB (zU ?_)))
 refine⟨.inr rfl,_,.cons _ _ _ _ (.tmp 2) .nil,?_⟩
 exact .refl _
theorem ret131(hi:Off is)(x y:Int):RetP Tryd.prog is orc 131 [yD x y] (.bool (decide (y<x))):=by
 refine zw body131 pure131 (hi 131 (by decide)) rfl rfl (zAA (yk x y 6)) (.inl (.bool _ _)) ?_
 refine kQ (zr rfl rfl (zC rfl (zB ?_)))
 refine zK [(1,U.box 0 0)] ([SB.box [.int .i64 x,.int .i64 y]]) (.cons rfl (.nil rfl)) rfl fun fr=>?_
 refine kQ (zF rfl rfl zDw (zG rfl rfl rfl sh3 rfl (zF rfl rfl zDx (zG rfl rfl rfl sh3 rfl (zc rfl rfl rfl (zC rfl (zB (zU ?_))))))))
 refine⟨.inr rfl,_,.cons _ _ _ _ (.tmp 2) .nil,?_⟩
 exact .refl _
theorem ret132(hi:Off is)(x y:Int):RetP Tryd.prog is orc 132 [yD x y] (.bool (decide (x<y))):=by
 refine zw body132 pure132 (hi 132 (by decide)) rfl rfl (zAA (yk x y 6)) (.inl (.bool _ _)) ?_
 refine kQ (zr rfl rfl (zC rfl (zB ?_)))
 refine zK [(1,U.box 0 0)] ([SB.box [.int .i64 x,.int .i64 y]]) (.cons rfl (.nil rfl)) rfl fun fr=>?_
 refine kQ (zF rfl rfl zDw (zG rfl rfl rfl sh3 rfl (zF rfl rfl zDx (zG rfl rfl rfl sh3 rfl (o_gtr rfl rfl rfl (zC rfl (zB (zU ?_))))))))
 refine⟨.inr rfl,_,.cons _ _ _ _ (.tmp 2) .nil,?_⟩
 exact .refl _
set_option maxHeartbeats 4000000 in
theorem ret99(hi:Off is)(x y:Int):RetP Tryd.prog is orc 99 [.int .i64 x,.lst .ro 1 (zD [y])] (.int .i64 (max x y)):=by
 refine zw body99 pure99 (hi 99 (by decide)) rfl rfl (yj (.int _ _ _) (zg 6 .ro (fun h=>by cases h) 1 [y])) (.inl (.int _ _ _)) ?_
 refine kQ (zC rfl (zB (k_seq (kQ (zA rfl (yB rfl ty22 rfl (List.length_map _) ?_))))))
 refine zA rfl (zB (zM ?_))
 refine yi (fun kk s2=>s2.st=[]∧((kk=1∧Holds s2 [(0,.int .i64 x),(7,.lst .ro 1 (zD [y])),(8,.int .i64 1),(9,.int .i64 0)])∨(kk=0∧Holds s2 [(0,.int .i64 (max x y)),(7,.lst .ro 1 (zD [y])),(8,.int .i64 1),(9,.int .i64 1)]))) (fun kk s2 hI=>?_) 1 _ ⟨rfl,.inl ⟨rfl,.c4 rfl rfl rfl rfl (.nil rfl)⟩⟩
 obtain⟨hst2,⟨hk,hs2⟩|⟨hk,hs2⟩⟩:=hI
 ·refine zK _ _ hs2 hst2 fun fr2=>?_
  refine kQ (zc rfl rfl rfl (zB (k_seq (k_cT rfl rfl ?_))))
  refine zQ (k_seq (zM (kQ (yb rfl ty22 rfl rfl (by decide) rfl cl3 ?_))))
  refine zZ rfl rfl sh3 rfl ?_
  refine zC rfl (zB (k_region (zA rfl (zA rfl (o_max rfl rfl rfl ?_)))))
  refine zC rfl (zB (k_region ?_))
  refine yU rfl rfl rfl (by unfold I64;omega) (zA rfl (zB ?_))
  exact⟨0,by omega,rfl,.inr ⟨rfl,.c4 rfl rfl rfl rfl (.nil rfl)⟩⟩
 ·refine zK _ _ hs2 hst2 fun fr2=>?_
  refine kQ (zc rfl rfl rfl (zB (k_seq (k_cF rfl rfl ?_))))
  refine yX (kQ (zA rfl (zC rfl (zB (zU ?_)))))
  refine⟨.inr rfl,_,.cons _ _ _ _ (.tmp 4) .nil,?_⟩
  exact .refl _
def zFb(x y:Int):Int:=max (y - x) (x - y)
theorem ret129(hi:Off is){x y:Int}(hx:0≤x∧x≤3)(hy:0≤y∧y≤3):RetP Tryd.prog is orc 129 [yD x y] (.int .i64 (zFb x y)):=by
 refine zw body129 pure129 (hi 129 (by decide)) rfl rfl (zAA (yk x y 6)) (.inl (.int _ _ _)) ?_
 refine kQ (zr rfl rfl (zC rfl (zB ?_)))
 refine zK [(1,U.box 0 0)] ([SB.box [.int .i64 x,.int .i64 y]]) (.cons rfl (.nil rfl)) rfl fun fr=>?_
 refine kQ (zF rfl rfl zDw (zG rfl rfl rfl sh3 rfl (zF rfl rfl zDx (zG rfl rfl rfl sh3 rfl ?_))))
 refine wF rfl rfl rfl (by unfold I64;omega) (zF rfl rfl zDx (zG rfl rfl rfl sh3 rfl (zF rfl rfl zDw (zG rfl rfl rfl sh3 rfl ?_))))
 refine zV [(7,.int .i64 (y - x)),(9,.int .i64 x),(11,.int .i64 y)] [] ([SB.box [.int .i64 x,.int .i64 y]]) (.cons rfl (.cons rfl (.cons rfl (.nil rfl)))) rfl rfl fun fr=>?_
 refine wF rfl rfl rfl (by unfold I64;omega) (wX (es:=[.int .i64 (x - y)]) rfl ty22 ze3 cl3 rfl rfl rfl rfl rfl rfl rfl rfl ?_)
 refine zN rfl (ret99 hi (y - x) (x - y)) (.lcons _ _ _ _ (.refl _) (.lcons _ _ _ _ (.ro _ _ _) (.lrefl _))) ?_
 refine zC rfl (zB (zU ?_))
 refine⟨.inr rfl,_,.cons _ _ _ _ (.tmp 2) .nil,?_⟩
 exact .refl _
theorem ret115(hi:Off is){l:List Int}{i:Nat}{x:Int}(hx:l[i]? =some x)(hl:l.length≤4096):RetP Tryd.prog is orc 115 [.lst .ro 1 (zD l),.int .i64 i] (.bool (inS 0 3 x)):=by
 refine zw body115 pure115 (hi 115 (by decide)) rfl rfl (yj (zg 6 .ro (fun h=>by cases h) 1 l) (.int _ _ _)) (.inl (.bool _ _)) ?_
 have q90:=ret90 (orc:=orc) hi 0 3 x
 refine kQ (zC rfl (zB (k_seq (ya [.plain,.read true,.plain,.plain,.plain,.read true,.plain,.plain] (by kernel_rfl) (by kernel_rfl) (by kernel_rfl) ?_))))
 refine d_gpair (i:=3) (c:=2) (n:=10) sh24 rfl rfl zDd cl24 rfl rfl rfl (gatB 3 (by decide)) rfl ?_
 refine zE (zA rfl (zB rfl)) (zE (zA rfl (zB rfl)) (zE (yb (u:=.int .i64 (x)) rfl ty94 rfl rfl (Int.natCast_nonneg _) (by simp[hx]) cl3 (zB rfl)) ?_))
 refine zb rfl (zZ rfl rfl sh3 rfl (zB rfl)) ?_
 refine zE (zN rfl (q90) (.lrefl _) (zB rfl)) ?_
 refine zE (zC rfl (zB rfl)) ?_
 refine wb ?_
 refine zU ?_
 refine⟨.inr rfl,_,.cons _ _ _ _ (.tmp 4) .nil,?_⟩
 exact .refl _
theorem ret101(hi:Off is){l:List Int}{i:Nat}{x:Int}(hx:l[i]? =some x)(hl:l.length≤4096):RetP Tryd.prog is orc 101 [.lst .ro 1 (zD l),.int .i64 i] (yD i x):=by
 refine zw body101 pure101 (hi 101 (by decide)) rfl rfl (yj (zg 6 .ro (fun h=>by cases h) 1 l) (.int _ _ _)) (.inl (yk _ _ 6)) ?_
 refine kQ (zu rfl ze125 ?_)
 refine zB ?_
 refine zK [(0,.lst .ro 1 (zD l)),(1,.int .i64 ↑i),(4,U.box 0 0)] ([SB.box [.int .i64 0,.int .i64 0]]) (.cons rfl (.cons rfl (.cons rfl (.nil rfl)))) rfl fun fr=>?_
 refine kQ (zA rfl (zA rfl (zA rfl (yb (u:=.int .i64 (x)) rfl ty94 rfl rfl (Int.natCast_nonneg _) (by simp[hx]) cl3 ?_))))
 refine zZ rfl rfl sh3 rfl ?_
 refine wT rfl ze125 pl125 rfl rfl ?_
 refine zl rfl rfl sh125 rfl rfl rfl rfl rfl ?_
 refine zB (zU ?_)
 refine⟨.inr rfl,_,.cons _ _ _ _ (.cellN 4 125 _ _ _ _ rfl rfl sh125 rfl) .nil,?_⟩
 exact .refl _
set_option maxHeartbeats 4000000 in
theorem ret117(hi:Off is){l:List Int}{i:Nat}{x:Int}(hx:l[i]? =some x)(hr:∀y∈l.take (i+1),0≤y∧y≤3)(hl:l.length≤4096):RetP Tryd.prog is orc 117 [.lst .ro 1 (zD l),.int .i64 i] (.bool (decide (i=0)||decide (zFb ((l[i - 1]?).getD 0) x≤1))):=by
 refine zw body117 pure117 (hi 117 (by decide)) rfl rfl (yj (zg 6 .ro (fun h=>by cases h) 1 l) (.int _ _ _)) (.inl (.bool _ _)) ?_
 have h1:=(List.getElem?_eq_some_iff.1 hx).1
 cases i with
 |zero=>
  refine kQ (zC rfl (zB (kQ (zA rfl (wG rfl rfl rfl (zA rfl (o_gS rfl rfl rfl rfl rfl (o_gS rfl rfl rfl rfl rfl ?_))))))))
  refine o_gS rfl rfl rfl rfl rfl (o_gS rfl rfl rfl rfl rfl (o_gS rfl rfl rfl rfl rfl (o_gS rfl rfl rfl rfl rfl (zX rfl rfl rfl ?_))))
  refine zC rfl (zB (zU ?_))
  refine⟨.inr rfl,_,.cons _ _ _ _ (.tmp 4) .nil,?_⟩
  exact .refl _
  done
 |succ i=>
  obtain⟨w,hw⟩:∃w,l[i]? =some w:=⟨l[i],List.getElem?_eq_getElem (by omega)⟩
  have e:((l[i+1 - 1]?).getD 0)=w:=by rw[Nat.add_sub_cancel,hw];rfl
  rw[e]
  have hwr:=hr w (by rw[List.mem_take_iff_getElem];exact⟨i,by omega,(List.getElem?_eq_some_iff.1 hw).2⟩)
  have hxr:=hr x (by rw[List.mem_take_iff_getElem];exact⟨i+1,by omega,(List.getElem?_eq_some_iff.1 hx).2⟩)
  have q118:RetP Tryd.prog is orc 118 [.lst .ro 1 (zD l),.int .i64 (((i+1:Nat):Int) - 1)] (yD w x):=by
   have:=ret118 (orc:=orc) hi hw hx hl
   rw[show((i+1:Nat):Int) - 1=i by omega];exact this
  rw[show(decide (i+1=0)||decide (zFb w x≤1))=decide (zFb w x≤1) by simp]
  refine kQ (zC rfl (zB (kQ (zA rfl (wG rfl rfl rfl (zA rfl (o_gD rfl rfl rfl rfl (decide_eq_false (by omega)) (zA rfl ?_))))))))
  refine o_gD rfl rfl rfl rfl (decide_eq_false (by omega)) (zA rfl (o_gD rfl rfl rfl rfl (decide_eq_false (by omega)) ?_))
  refine wF rfl rfl rfl (by unfold I64;omega) (o_gD rfl rfl rfl rfl (decide_eq_false (by omega)) (zN rfl (q118) (.lrefl _) (o_gD rfl rfl rfl rfl (decide_eq_false (by omega)) (zN rfl (ret129 hi hwr hxr) (.lrefl _) ?_))))
  refine o_gD rfl rfl rfl rfl (decide_eq_false (by omega)) (zCh rfl rfl rfl (zR rfl rfl rfl ?_))
  refine zC rfl (zB (zU ?_))
  refine⟨.inr rfl,_,.cons _ _ _ _ (.tmp 4) .nil,?_⟩
  exact .refl _
  done
end
end Go.Proofs.YtfbmlibilcjlgaaDoor.drumListens
