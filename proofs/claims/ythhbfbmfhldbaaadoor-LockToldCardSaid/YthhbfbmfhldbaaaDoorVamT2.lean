import Derived.Test.YthhbfbmfhldbaaaDoorVamT1
set_option linter.unusedVariables false
set_option linter.unusedSimpArgs false
set_option linter.constructorNameAsVariable false
namespace Go.Proofs.YthhbfbmfhldbaaaDoor.locks
open Vam
variable {is:FuncId→Bool}{orc:Known}
theorem zAY{k:Nat}{a:U}(h:Dat k a):∀v∈[a],Dat k v:=fun v hv=>by
 simp only[List.mem_cons,List.not_mem_nil,or_false]at hv
 subst hv;exact h
theorem wW{k:Nat}{a b:U}(h:Dat k a)(h2:Dat k b):∀v∈[a,b],Dat k v:=fun v hv=>by
 simp only[List.mem_cons,List.not_mem_nil,or_false]at hv
 rcases hv with rfl|rfl<;>assumption
theorem dat_l3{k:Nat}{a b c:U}(h:Dat k a)(h2:Dat k b)(h3:Dat k c):∀v∈[a,b,c],Dat k v:=fun v hv=>by
 simp only[List.mem_cons,List.not_mem_nil,or_false]at hv
 rcases hv with rfl|rfl|rfl<;>assumption
theorem dat_l4{k:Nat}{a b c d:U}(h:Dat k a)(h2:Dat k b)(h3:Dat k c)(h4:Dat k d):∀v∈[a,b,c,d],Dat k v:=fun v hv=>by
 simp only[List.mem_cons,List.not_mem_nil,or_false]at hv
 rcases hv with rfl|rfl|rfl|rfl<;>assumption
abbrev zDA(a b:Int):U:=.agg [.int .i64 a,.int .i64 b]
theorem zFR(a b:Int)(k:Nat):Dat (k+2) (zDA a b):=.agg _ _ (wW (.int _ _ _) (.int _ _ _))
abbrev zE(l:List Int):List U:=l.map fun n=>.int .i64 n
theorem take_all{α:Type}(f:α→Bool){l:List α}{i:Nat}{x:α}(h:l[i]? =some x):(l.take (i+1)).all f=((l.take i).all f&&f x):=by
 rw[List.take_add_one,h,List.all_append];simp
theorem zEA{l m:List SB}{i:Nat}{x:SB}(h:l[i]? =some x):(l++m)[i]? =some x:=by
 rw[List.getElem?_append_left (List.getElem?_eq_some_iff.1 h).1,h]
theorem zBl(l:List SB)(x y:SB):(l++[x]).set l.length y=l++[y]:=by
 rw[List.set_append_right _ _ (Nat.le_refl _),Nat.sub_self];rfl
theorem drop_at{α:Type}{l:List α}{n:Nat}{x:α}(h:l[n]? =some x):l.drop n=x::l.drop (n+1):=by
 obtain⟨h1,h2⟩:=List.getElem?_eq_some_iff.1 h
 rw[←h2];exact List.drop_eq_getElem_cons h1
abbrev Off(is:FuncId→Bool):Prop:=∀f,f≠26→is f=false
noncomputable def b51:Code:=(Tryd.f51.body).getD .skip
theorem body51:bodyOf Tryd.prog 51=some (15,b51,[.tmp 6]):=by kernel_rfl
theorem pure51:pureFn Tryd.prog 51=true:=by kernel_rfl
theorem fld99_0:yG Tryd.prog 99 0=some (0,3):=by kernel_rfl
theorem fld99_1:yG Tryd.prog 99 1=some (1,3):=by kernel_rfl
theorem sh3:shOf Tryd.prog 3=.one:=by kernel_rfl
noncomputable def b77:Code:=(Tryd.f77.body).getD .skip
theorem body77:bodyOf Tryd.prog 77=some (15,b77,[.tmp 4]):=by kernel_rfl
theorem pure77:pureFn Tryd.prog 77=true:=by kernel_rfl
noncomputable def b48:Code:=(Tryd.f48.body).getD .skip
theorem body48:bodyOf Tryd.prog 48=some (17,b48,[.tmp 4]):=by kernel_rfl
theorem pure48:pureFn Tryd.prog 48=true:=by kernel_rfl
theorem cl3:Program.cellsOf Tryd.prog 3=1:=by kernel_rfl
theorem ty22:tyOf Tryd.prog 22=.slice 3:=by kernel_rfl
noncomputable def b52:Code:=(Tryd.f52.body).getD .skip
theorem body52:bodyOf Tryd.prog 52=some (15,b52,[.tmp 4]):=by kernel_rfl
theorem pure52:pureFn Tryd.prog 52=true:=by kernel_rfl
noncomputable def b50:Code:=(Tryd.f50.body).getD .skip
theorem body50:bodyOf Tryd.prog 50=some (10,b50,[.tmp 4]):=by kernel_rfl
theorem pure50:pureFn Tryd.prog 50=true:=by kernel_rfl
def inS(a b n:Int):Bool:=decide (a≤n)&&decide (n≤b)
theorem zAH{a b n:Int}:inS a b n=true↔a≤n∧n≤b:=by
 unfold inS
 rw[Bool.and_eq_true,decide_eq_true_eq,decide_eq_true_eq]
theorem ret51(hi:Off is)(n a b:Int):RetP Tryd.prog is orc 51 [.int .i64 n,.int .i64 a,.int .i64 b] (.bool (inS a b n)):=by
 refine yQ body51 pure51 (hi 51 (by decide)) rfl rfl (dat_l3 (.int _ _ _) (.int _ _ _) (.int _ _ _)) (.inl (.bool _ _)) ?_
 unfold inS
 by_cases h:a≤n
 ·rw[kF h,Bool.true_and]
  refine kQ (zC rfl (zB (kQ (zA rfl (zA rfl (kq rfl (zA rfl (kh rfl (kF (by omega)) ?_))))))))
  refine zA rfl (kh rfl (kF (by omega)) ?_)
  refine zA rfl (kh rfl (kF (by omega)) ?_)
  refine kq rfl (zU rfl rfl (kF (by omega)) ?_)
  refine zC rfl (zB (zc ?_))
  refine⟨.inr rfl,_,.cons _ _ _ _ (.tmp 6) .nil,?_⟩
  exact .refl _
 ·rw[kG h,Bool.false_and]
  refine kQ (zC rfl (zB (kQ (zA rfl (zA rfl (kq rfl (zA rfl (kg rfl (kG (by omega)) ?_))))))))
  refine kg rfl (kG (by omega)) ?_
  refine kg rfl (kG (by omega)) ?_
  refine zf rfl rfl (kG (by omega)) ?_
  refine zC rfl (zB (zc ?_))
  refine⟨.inr rfl,_,.cons _ _ _ _ (.tmp 6) .nil,?_⟩
  exact .refl _
theorem ret77(hi:Off is)(a b n:Int):RetP Tryd.prog is orc 77 [zDA a b,.int .i64 n] (.bool (inS a b n)):=by
 refine yQ body77 pure77 (hi 77 (by decide)) rfl rfl (wW (zFR a b 6) (.int _ _ _)) (.inl (.bool _ _)) ?_
 unfold inS
 by_cases h:a≤n
 ·rw[kF h,Bool.true_and]
  refine kQ (yO rfl rfl (zC rfl (zB ?_)))
  refine zH [(1,.int .i64 n),(2,U.box 0 0)] ([SB.box [.int .i64 a,.int .i64 b]]) (.n2 rfl) rfl fun fr=>?_
  refine kQ (kw rfl fld99_0 (kA sh3 rfl (zA rfl (kq rfl (zA rfl (kh rfl (kF (by omega)) ?_))))))
  refine zA rfl (kh rfl (kF (by omega)) ?_)
  refine kw rfl fld99_1 (kh rfl (kF (by omega)) ?_)
  refine kA sh3 rfl (kh rfl (kF (by omega)) ?_)
  refine kq rfl (zU rfl rfl (kF (by omega)) ?_)
  refine zC rfl (zB (zc ?_))
  refine⟨.inr rfl,_,.cons _ _ _ _ (.tmp 4) .nil,?_⟩
  exact .refl _
 ·rw[kG h,Bool.false_and]
  refine kQ (yO rfl rfl (zC rfl (zB ?_)))
  refine zH [(1,.int .i64 n),(2,U.box 0 0)] ([SB.box [.int .i64 a,.int .i64 b]]) (.n2 rfl) rfl fun fr=>?_
  refine kQ (kw rfl fld99_0 (kA sh3 rfl (zA rfl (kq rfl (zA rfl (kg rfl (kG (by omega)) ?_))))))
  refine kg rfl (kG (by omega)) ?_
  refine kg rfl (kG (by omega)) ?_
  refine kg rfl (kG (by omega)) ?_
  refine zf rfl rfl (kG (by omega)) ?_
  refine zC rfl (zB (zc ?_))
  refine⟨.inr rfl,_,.cons _ _ _ _ (.tmp 4) .nil,?_⟩
  exact .refl _
def accI(l:List Int):U:=match l with
 |[]=>.lst .full 0 []
 |l=>.lst .own 1 (zE l)
theorem zCh(x:Int)(l:List Int):accI (l++[x])=.lst .own 1 (zE l++[.int .i64 x]):=by
 cases l with
 |nil=>rfl
 |cons y l=>show U.lst .own 1 (zE ((y::l)++[x]))=_;simp[zE]
def nthI(l:List Int)(i:Nat):Int:=(l[i % l.length]?).getD 0
theorem tmod_n{n m:Int}(hn:0≤n):n.tmod m=n % m:=Int.tmod_eq_emod_of_nonneg hn
theorem tmod_neg{n b:Int}(hb0:0<b)(hn:n.tmod b<0):n % b=n.tmod b+b:=by
 rw[Int.emod_eq_tmod]
 have h0: ¬ (0≤n):=fun h0=>by have:=Int.tmod_nonneg b h0;omega
 have h3: ¬ (b ∣ n):=fun h3=>by have:=(Int.dvd_iff_tmod_eq_zero).1 h3;omega
 simp[h0,h3];omega
theorem tmod_pos{n b:Int}(hb0:0<b)(hn: ¬ n.tmod b<0):n % b=n.tmod b:=by
 rw[Int.emod_eq_tmod]
 by_cases h0:0≤n
 ·simp[h0]
 ·have h3:n.tmod b=0:=by
   have:=Int.tmod_nonneg b (show 0≤ -n by omega)
   rw[Int.neg_tmod]at this
   omega
  have:b ∣ n:=(Int.dvd_iff_tmod_eq_zero).2 h3
  simp[h0,this]
def turnI(n b:Int):Int:=if b<1 then 0 else n % b
set_option maxHeartbeats 4000000 in
theorem ret48(hi:Off is)(n b:Int)(hb:b≤1000000):RetP Tryd.prog is orc 48 [.int .i64 n,.int .i64 b] (.int .i64 (turnI n b)):=by
 refine yQ body48 pure48 (hi 48 (by decide)) rfl rfl (wW (.int _ _ _) (.int _ _ _)) (.inl (.int _ _ _)) ?_
 by_cases h:b<1
 ·have e:turnI n b=0:=by unfold turnI;rw[if_pos h]
  rw[e]
  refine kQ (zC rfl (zB (k_seq (kQ (zA rfl (kp rfl (zB (k_cT rfl (kF (by omega)) (kQ (zC rfl (zB (zc ?_))))))))))))
  refine⟨.inr rfl,_,.cons _ _ _ _ (.tmp 4) .nil,?_⟩
  exact .refl _
 ·have hb0:0<b:=by omega
  have e:turnI n b=n % b:=by unfold turnI;rw[if_neg h]
  have t1:n.tmod b<b:=Int.tmod_lt_of_pos n hb0
  have t2: -b<n.tmod b:=by have:=Int.lt_tmod_of_pos n hb0;omega
  by_cases hn:n.tmod b<0
  ·have e2:=tmod_neg hb0 hn
   rw[e,e2]
   refine kQ (zC rfl (zB (k_seq (kQ (zA rfl (kp rfl (zB (k_cF rfl (kG (by omega)) (zL (kQ (zA rfl (zA rfl (o_rem rfl rfl rfl (by omega) ?_)))))))))))))
   refine zC rfl (zB (k_seq (kQ (zA rfl (kp rfl (zB (k_cT rfl (kF (by omega)) (k_region (zA rfl (zA rfl ?_))))))))))
   refine kz rfl (by unfold I64;omega) (zC rfl (zB ?_))
   refine zH [(5,.int .i64 (Int.tmod n b+b))] ([]) (.n1 rfl) rfl fun fr=>?_
   refine kQ (zA rfl (zC rfl (zB (zc ?_))))
   refine⟨.inr rfl,_,.cons _ _ _ _ (.tmp 4) .nil,?_⟩
   exact .refl _
  ·have e2:=tmod_pos hb0 hn
   rw[e,e2]
   refine kQ (zC rfl (zB (k_seq (kQ (zA rfl (kp rfl (zB (k_cF rfl (kG (by omega)) (zL (kQ (zA rfl (zA rfl (o_rem rfl rfl rfl (by omega) ?_)))))))))))))
   refine zC rfl (zB (k_seq (kQ (zA rfl (kp rfl (zB (k_cF rfl (kG (by omega)) (zL (kQ (zA rfl (zC rfl (zB (zc ?_)))))))))))))
   refine⟨.inr rfl,_,.cons _ _ _ _ (.tmp 4) .nil,?_⟩
   exact .refl _
set_option maxHeartbeats 4000000 in
theorem ret48_n(hi:Off is)(n m:Int)(hm:0<m)(hn:0≤n):RetP Tryd.prog is orc 48 [.int .i64 n,.int .i64 m] (.int .i64 (n % m)):=by
 refine yQ body48 pure48 (hi 48 (by decide)) rfl rfl (wW (.int _ _ _) (.int _ _ _)) (.inl (.int _ _ _)) ?_
 rw[←tmod_n hn]
 have h2:=Int.tmod_nonneg m hn
 refine kQ (zC rfl (zB (k_seq (kQ (zA rfl (kp rfl (zB (k_cF rfl (kG (by omega)) (zL (kQ (zA rfl (zA rfl (o_rem rfl rfl rfl (by omega) ?_)))))))))))))
 refine zC rfl (zB (k_seq (kQ (zA rfl (kp rfl (zB (k_cF rfl (kG (by omega)) (zL (kQ (zA rfl (zC rfl (zB (zc ?_)))))))))))))
 refine⟨.inr rfl,_,.cons _ _ _ _ (.tmp 4) .nil,?_⟩
 exact .refl _
set_option maxHeartbeats 4000000 in
theorem ret52(hi:Off is)(l:List Int)(i:Nat):RetP Tryd.prog is orc 52 [.lst .ro 1 (zE l),.int .i64 i] (.int .i64 (nthI l i)):=by
 refine yQ body52 pure52 (hi 52 (by decide)) rfl rfl (wW (ya 6 .ro (fun h=>by cases h) 1 l) (.int _ _ _)) (.inl (.int _ _ _)) ?_
 by_cases h0:l.length=0
 ·have hl:l=[]:=List.eq_nil_of_length_eq_zero h0
  subst hl
  refine kQ (zC rfl (zB (k_seq (kQ (zA rfl (zw rfl ty22 rfl (List.length_map _) ?_))))))
  refine ks rfl (zB (k_cT rfl rfl ?_))
  refine kQ (zC rfl (zB (zc ?_)))
  refine⟨.inr rfl,_,.cons _ _ _ _ (.tmp 4) .nil,?_⟩
  exact .refl _
 ·have hl:0<l.length:=by omega
  obtain⟨q,hq⟩:∃q,l[i % l.length]? =some q:=⟨_,List.getElem?_eq_getElem (Nat.mod_lt i hl)⟩
  have q46:RetP Tryd.prog is orc 48 [.int .i64 i,.int .i64 l.length] (.int .i64 ((i % l.length:Nat):Int)):=by
   have:=ret48_n (orc:=orc) hi (i:Int) l.length (by omega) (by omega)
   rw[←Int.natCast_emod]at this
   exact this
  rw[show nthI l i=q by unfold nthI;rw[hq];rfl]
  generalize hm:i % l.length=m at q46 hq
  have hml:m<l.length:=by rw[←hm];exact Nat.mod_lt i hl
  refine kQ (zC rfl (zB (k_seq (kQ (zA rfl (zw rfl ty22 rfl (List.length_map _) ?_))))))
  refine ks rfl (zB (k_cF rfl (kG (by omega)) (zL (kQ (zA rfl (zA rfl (zA rfl (zw rfl ty22 rfl (List.length_map _) ?_))))))))
  refine zN rfl (q46) (.lrefl _) (yJ (u:=.int .i64 (q)) rfl ty22 rfl rfl (Int.natCast_nonneg _) (by simp[hq]) cl3 ?_)
  refine kC sh3 rfl ?_
  refine zC rfl (zB (zc ?_))
  refine⟨.inr rfl,_,.cons _ _ _ _ (.tmp 4) .nil,?_⟩
  exact .refl _
theorem fdiv_b{n:Int}(k:Nat)(h:0≤n∧n≤1000000):0≤n.fdiv (2 ^ k)∧n.fdiv (2 ^ k)≤9223372036854775807:=by
 rw[Int.fdiv_eq_ediv_of_nonneg _ (Int.le_of_lt (Int.pow_pos (by decide)))]
 have h1:n / 2 ^ k≤n:=Int.ediv_le_self _ h.1
 exact⟨Int.ediv_nonneg h.1 (Int.le_of_lt (Int.pow_pos (by decide))),by omega⟩
theorem ret50(hi:Off is){s t:Int}(hs:0≤s∧s≤1000000)(ht:0≤t∧t≤60):RetP Tryd.prog is orc 50 [.int .i64 s,.int .i64 t] (.bool (bitI s t)):=by
 have hfd:=fdiv_b t.toNat hs
 refine yQ body50 pure50 (hi 50 (by decide)) rfl rfl (wW (.int _ _ _) (.int _ _ _)) (.inl (.bool _ _)) ?_
 unfold bitI
 refine kQ (zC rfl (zB (kQ (zA rfl (zA rfl (o_shr rfl rfl rfl (by omega) ?_))))))
 refine zCp rfl rfl rfl hfd ?_
 refine ks rfl (zC rfl (zB (zc ?_)))
 refine⟨.inr rfl,_,.cons _ _ _ _ (.tmp 4) .nil,?_⟩
 exact .refl _
def lstI(L:List Int):Nat→Int
 |0=> -1
 |i+1=>(L[i]?).getD 0
def grwB:Int→Int→List Int→Bool
 |_,_,[]=>true
 |q,n,x::l=>decide (q<x)&&(decide (x<n)&&grwB x n l)
theorem grw_iff{n:Int}:∀(L:List Int) (q:Int),grwB q n L=true↔L.Pairwise (fun x y=>x<y)∧∀x∈L,q<x∧x<n:=by
 intro L
 induction L with
 |nil=>intro q;exact⟨fun _=>⟨List.Pairwise.nil,(fun x h=>by cases h)⟩,fun _=>rfl⟩
 |cons y L ih=>
  intro q
  unfold grwB
  rw[Bool.and_eq_true,Bool.and_eq_true,decide_eq_true_eq,decide_eq_true_eq,ih y,List.pairwise_cons]
  constructor
  ·rintro⟨h1,h2,h3,h4⟩
   refine⟨⟨fun z hz=>(h4 z hz).1,h3⟩,fun z hz=>?_⟩
   rcases List.mem_cons.1 hz with rfl|hz
   ·exact⟨h1,h2⟩
   ·have:=h4 z hz;exact⟨by omega,this.2⟩
  ·rintro⟨⟨h1,h2⟩,h3⟩
   exact⟨(h3 y List.mem_cons_self).1,(h3 y List.mem_cons_self).2,h2,fun z hz=>⟨h1 z hz,(h3 z (List.mem_cons_of_mem _ hz)).2⟩⟩
end Go.Proofs.YthhbfbmfhldbaaaDoor.locks
