import Derived.Test.YtfbmlibilcjlgaaDoorVamT16
set_option linter.unusedVariables false
set_option linter.unusedSimpArgs false
set_option linter.constructorNameAsVariable false
namespace Go.Proofs.YtfbmlibilcjlgaaDoor.drumListens
open Vam
variable {is:FuncId→Bool}{orc:Known}{b:Bk}
noncomputable def b23:Code:=(Tryd.f23.body).getD .skip
theorem body23:bodyOf Tryd.prog 23=some (31,b23,[.tmp 4]):=by kernel_rfl
theorem pure23:pureFn Tryd.prog 23=true:=by kernel_rfl
def dfI(L:List Int)(k:Nat):Int:=(L[k+1]?).getD 0 - (L[k]?).getD 0
def heaL(F:Nat→Int)(n:Nat):List Int:=(List.range n).map F
theorem zGD(F:Nat→Int)(n:Nat):heaL F (n+1)=heaL F n++[F n]:=by unfold heaL;rw[List.range_succ,List.map_append];rfl
theorem zFS(F:Nat→Int)(n:Nat):(heaL F n).length=n:=by simp[heaL]
theorem heaL_at{F:Nat→Int}{n k:Nat}(h:k<n):(heaL F n)[k]? =some (F k):=by simp[heaL,h]
theorem df_rg{L:List Int}(h:POk b L){k:Nat}(hk:k<L.length - 1): -1≤dfI L k∧dfI L k≤1:=by
 have h1:L[k]? =some (L[k]'(by omega)):=List.getElem?_eq_getElem (by omega)
 have h2:L[k+1]? =some (L[k+1]'(by omega)):=List.getElem?_eq_getElem (by omega)
 have:=h.nr k _ _ h1 h2
 unfold dfI
 rw[h1,h2]
 simp only[Option.getD_some]
 omega
theorem does_df(x y:Int)(h: -1≤y - x∧y - x≤1):zGO x y (y - x)=true:=by
 unfold zGO
 rw[if_neg (by omega)]
 by_cases h1:y - x= -1
 ·rw[if_pos h1];exact decide_eq_true (by omega)
 ·rw[if_neg h1]
  by_cases h2:y - x=0
  ·rw[if_pos h2];exact decide_eq_true (by omega)
  ·rw[if_neg h2];exact decide_eq_true (by omega)
theorem does_un(x y d:Int)(hd: -1≤d∧d≤1)(h: -1≤y - x∧y - x≤1)(hk:zGO x y d=true):y - x=d:=by
 unfold zGO at hk
 rw[if_neg (by omega)]at hk
 by_cases h1:d= -1
 ·rw[if_pos h1]at hk;have:=of_decide_eq_true hk;omega
 ·rw[if_neg h1]at hk
  by_cases h2:d=0
  ·rw[if_pos h2]at hk;have:=of_decide_eq_true hk;omega
  ·rw[if_neg h2]at hk;have:=of_decide_eq_true hk;omega
theorem fit_iff{q:List Int}{F:Nat→Int}:fitB q (heaL F (q.length - 1))=true↔ ∀k,k<q.length - 1→zGO ((q[k]?).getD 0) ((q[k+1]?).getD 0) (F k)=true:=by
 unfold fitB
 rw[List.all_eq_true]
 constructor
 ·intro h k hk
  have:=h k (List.mem_range.2 hk)
  rw[heaL_at hk]at this;exact this
 ·intro h k hk
  have hk:=List.mem_range.1 hk
  rw[heaL_at hk];exact h k hk
theorem fit_own{L:List Int}(h:POk b L){F:Nat→Int}(hF:∀k,k<L.length - 1→F k= -2∨F k=dfI L k):fitB L (heaL F (L.length - 1))=true:=by
 rw[fit_iff]
 intro k hk
 rcases hF k hk with h1|h1
 ·rw[h1];rfl
 ·rw[h1];exact does_df _ _ (df_rg h hk)
theorem fit_less{q:List Int}{F G:Nat→Int}{n:Nat}(hn:n=q.length - 1)(h:∀k,k<n→F k= -2∨F k=G k)(hg:fitB q (heaL G n)=true):fitB q (heaL F n)=true:=by
 subst hn
 rw[fit_iff]at hg ⊢
 intro k hk
 rcases h k hk with h1|h1
 ·rw[h1];rfl
 ·rw[h1];exact hg k hk
theorem fit_all{q L:List Int}(hq:POk b q)(hL:POk b L)(hb:BOk b)(h:fitB q (heaL (dfI L) (L.length - 1))=true):q=L:=by
 have hl:q.length=L.length:=by have:=hq.len;have:=hL.len;omega
 have hpa:=hb.pa
 have hlen:=hL.len
 rw[←hl]at h
 rw[fit_iff]at h
 have key:∀k,k<L.length→q[k]? =L[k]? :=by
  intro k
  induction k with
  |zero=>intro _;rw[hq.st,hL.st]
  |succ k ih=>
   intro hk
   have ih:=ih (by omega)
   have h1:L[k]? =some (L[k]'(by omega)):=List.getElem?_eq_getElem (by omega)
   have h2:L[k+1]? =some (L[k+1]'(by omega)):=List.getElem?_eq_getElem (by omega)
   have h3:q[k+1]? =some (q[k+1]'(by omega)):=List.getElem?_eq_getElem (by omega)
   have hd:=df_rg hL (k:=k) (by omega)
   have hf:=h k (by omega)
   have hn:=hq.nr k _ _ (ih.trans h1) h3
   rw[ih,h1,h3]at hf
   have:=does_un _ _ _ hd (by simp only[Option.getD_some];omega) hf
   unfold dfI at this
   rw[h1,h2]at this
   simp only[Option.getD_some]at this
   rw[h2,h3]
   congr 1
   omega
 refine List.ext_getElem? fun k=>?_
 rcases Nat.lt_or_ge k L.length with h1|h1
 ·exact key k h1
 ·rw[List.getElem?_eq_none h1,List.getElem?_eq_none (by omega)]
theorem zGE{H:List Int}{part d:Int}:hasB b H part d=true↔ ∃q,q∈wS b∧fitB q H=true∧q[part.toNat]? =some d:=by
 unfold hasB
 rw[List.any_eq_true]
 constructor
 ·rintro⟨q,h1,h2⟩
  obtain⟨h3,h4⟩:=List.mem_filter.1 h1
  exact⟨q,h3,h4,of_decide_eq_true h2⟩
 ·rintro⟨q,h1,h2,h3⟩
  exact⟨q,List.mem_filter.2 ⟨h1,h2⟩,decide_eq_true h3⟩
theorem mem_knJ{H:List Int}{part d:Int}:∀n:Nat,d∈knJ b H part n↔(0≤d∧d<n)∧hasB b H part d=true:=by
 intro n
 induction n with
 |zero=>
  constructor
  ·intro h;cases h
  ·rintro⟨h1,_⟩;omega
 |succ n ih=>
  show d∈knJ b H part n++_↔_
  rw[List.mem_append,ih]
  by_cases h:hasB b H part n=true
  ·rw[if_pos h,List.mem_singleton]
   constructor
   ·rintro(⟨h1,h2⟩|rfl)
    ·exact⟨by omega,h2⟩
    ·exact⟨by omega,h⟩
   ·rintro⟨h1,h2⟩
    by_cases h3:d=n
    ·exact .inr h3
    ·exact .inl ⟨by omega,h2⟩
  ·rw[if_neg h]
   constructor
   ·rintro(⟨h1,h2⟩|h2)
    ·exact⟨by omega,h2⟩
    ·cases h2
   ·rintro⟨h1,h2⟩
    by_cases h3:d=n
    ·subst h3;exact absurd h2 h
    ·exact .inl ⟨by omega,h2⟩
theorem knJ_one{H:List Int}{part d:Int}(h:∀y,hasB b H part y=true↔y=d)(hd:0≤d):∀n:Nat,knJ b H part n=if d<n then [d]else []:=by
 intro n
 induction n with
 |zero=>rw[if_neg (by omega)];rfl
 |succ n ih=>
  show knJ b H part n++_=_
  rw[ih]
  by_cases h1:d<n
  ·rw[if_pos h1,if_neg (fun h2=>by have:=(h n).1 h2;omega),if_pos (by omega)];rfl
  ·rw[if_neg h1]
   by_cases h2:d=n
   ·rw[if_pos ((h n).2 h2.symm),if_pos (by omega),h2];rfl
   ·rw[if_neg (fun h3=>h2 ((h n).1 h3).symm),if_neg (by omega)];rfl
theorem knows_own{L:List Int}(hb:BOk b)(hL:L∈wS b){F:Nat→Int}(hF:∀k,k<L.length - 1→F k= -2∨F k=dfI L k){i:Nat}{x:Int}(hx:L[i]? =some x):x∈knJ b (heaL F (L.length - 1)) i 4:=by
 have hp:=((zAH hb).1 hL).1
 have:=hp.rg x (List.mem_of_getElem? hx)
 exact(mem_knJ 4).2 ⟨by omega,zGE.2 ⟨L,hL,fit_own hp hF,hx⟩⟩
theorem knows_all{L:List Int}(hb:BOk b)(hL:L∈wS b){i:Nat}{x:Int}(hx:L[i]? =some x):knJ b (heaL (dfI L) (L.length - 1)) i 4=[x]:=by
 have hp:=((zAH hb).1 hL).1
 have hr:=hp.rg x (List.mem_of_getElem? hx)
 have h:∀y,hasB b (heaL (dfI L) (L.length - 1)) i y=true↔y=x:=by
  intro y
  rw[zGE]
  constructor
  ·rintro⟨q,h1,h2,h3⟩
   rw[fit_all ((zAH hb).1 h1).1 hp hb h2,Int.toNat_natCast,hx]at h3
   exact(Option.some.inj h3).symm
  ·rintro rfl
   exact⟨L,hL,fit_own hp (fun k _=>.inr rfl),hx⟩
 rw[knJ_one h hr.1,if_pos (by omega)]
theorem knows_less{L:List Int}(hb:BOk b)(hL:L∈wS b){F G:Nat→Int}(h:∀k,k<L.length - 1→F k= -2∨F k=G k){i:Nat}{y:Int}(hy:y∈knJ b (heaL G (L.length - 1)) i 4):y∈knJ b (heaL F (L.length - 1)) i 4:=by
 have hp:=((zAH hb).1 hL).1
 obtain⟨h1,h2⟩:=(mem_knJ 4).1 hy
 obtain⟨q,h3,h4,h5⟩:=zGE.1 h2
 have hq:=((zAH hb).1 h3).1
 exact(mem_knJ 4).2 ⟨h1,zGE.2 ⟨q,h3,fit_less (by have:=hq.len;have:=hp.len;omega) h h4,h5⟩⟩
theorem knows_none(h:wS b=[])(H:List Int)(part:Int)(n:Nat):knJ b H part n=[]:=by
 induction n with
 |zero=>rfl
 |succ n ih=>
  show knJ b H part n++_=_
  rw[ih,if_neg]
  ·rfl
  ·rw[zGE,h];rintro⟨q,h1,_⟩;cases h1
set_option maxHeartbeats 8000000 in
theorem ret23(hi:Off is)(A:List Int)(hl:A.length≤4096):RetP Tryd.prog is orc 23 [.lst .ro 1 (zD A),.lst .ro 1 (zD A)] (.bool true):=by
 refine zw body23 pure23 (hi 23 (by decide)) rfl rfl (yj (zg 6 .ro (fun h=>by cases h) 1 A) (zg 6 .ro (fun h=>by cases h) 1 A)) (.inl (.bool _ _)) ?_
 refine kQ (zC rfl (zB (kQ (zA rfl (yB rfl ty22 rfl (List.length_map _) ?_)))))
 refine zA rfl (yB rfl ty22 rfl (List.length_map _) ?_)
 refine wG rfl rfl rfl (zC rfl (zB (k_seq (kQ (zC rfl (zB (zM ?_)))))))
 refine yi (fun kk s2=>∃i:Nat,kk+i=A.length∧s2.st=[]∧Holds s2 [(0,.lst .ro 1 (zD A)),(1,.lst .ro 1 (zD A)),(5,.bool true),(6,.int .i64 i)]) (fun kk s2 hI=>?_) A.length _ ⟨0,by omega,rfl,.cons rfl (.cons rfl (.cons (by show U.bool (decide _)=_;simp) (.cons rfl (.nil rfl))))⟩
 obtain⟨i,hk,hst2,hs2⟩:=hI
 refine zK _ _ hs2 hst2 fun fr2=>?_
 by_cases hj:i<A.length
 ·have hx:A[i]? =some (A[i]'hj):=List.getElem?_eq_getElem hj
  generalize A[i]'hj=x at hx
  refine k_seq (kQ (zA rfl (zA rfl (o_gD rfl rfl rfl rfl rfl (zA rfl (o_gD rfl rfl rfl rfl rfl (zA rfl (o_gD rfl rfl rfl rfl rfl ?_))))))))
  refine yB rfl ty22 rfl (List.length_map _) ?_
  refine o_gD rfl rfl rfl rfl rfl (zc rfl rfl rfl (zX rfl rfl rfl ?_))
  refine zB (k_cT rfl (decide_eq_true (by omega)) (zQ (k_seq (zM (ya [.plain,.plain,.plain,.read true,.plain,.plain,.plain,.read true,.plain,.plain] (by kernel_rfl) (by kernel_rfl) (by kernel_rfl) ?_)))))
  refine zE (zA rfl (zB rfl)) (zE (zA rfl (zB rfl)) (zE (yb (u:=.int .i64 (x)) rfl ty22 rfl rfl (Int.natCast_nonneg _) (by simp[hx]) cl3 (zB rfl)) ?_))
  refine zb rfl (zZ rfl rfl sh3 rfl (zB rfl)) ?_
  refine zE (zA rfl (zB rfl)) (zE (zA rfl (zB rfl)) (zE (yb (u:=.int .i64 (x)) rfl ty22 rfl rfl (Int.natCast_nonneg _) (by simp[hx]) cl3 (zB rfl)) ?_))
  refine zb rfl (zZ rfl rfl sh3 rfl (zB rfl)) ?_
  refine zE (wG rfl rfl rfl (zB rfl)) ?_
  refine zE (zC rfl (zB rfl)) ?_
  refine wb ?_
  refine k_region (zA rfl ?_)
  refine yU rfl rfl rfl (by unfold I64;omega) (zC rfl (zB ?_))
  exact⟨kk - 1,by omega,i+1,by omega,rfl,.cons rfl (.cons rfl (.cons (by show U.bool (decide _)=_;simp) (.cons rfl (.nil rfl))))⟩
 ·refine k_seq ?_
  refine kQ (zA rfl (zA rfl (o_gD rfl rfl rfl rfl rfl (zA rfl (o_gD rfl rfl rfl rfl rfl (zA rfl (o_gD rfl rfl rfl rfl rfl (yB rfl ty22 rfl (List.length_map _) ?_))))))))
  refine o_gD rfl rfl rfl rfl rfl (zc rfl rfl rfl (zX rfl rfl rfl ?_))
  refine zB (k_cF rfl (decide_eq_false (by omega)) (yX (kQ (zA rfl (zC rfl (zB (zU ?_)))))))
  refine⟨.inr rfl,_,.cons _ _ _ _ (.tmp 4) .nil,?_⟩
  exact .refl _
  done
end Go.Proofs.YtfbmlibilcjlgaaDoor.drumListens
