import Derived.Test.YtfbmlibilcjlgaaDoorVamT6
set_option linter.unusedVariables false
set_option linter.unusedSimpArgs false
set_option linter.constructorNameAsVariable false
namespace Go.Proofs.YtfbmlibilcjlgaaDoor.drumTrue
open Vam
variable {is:FuncId→Bool}{orc:Known}
noncomputable def b45:Code:=(Tryd.f45.body).getD .skip
theorem body45:bodyOf Tryd.prog 45=some (19,b45,[.tmp 4]):=by kernel_rfl
theorem pure45:pureFn Tryd.prog 45=true:=by kernel_rfl
noncomputable def b44:Code:=(Tryd.f44.body).getD .skip
theorem body44:bodyOf Tryd.prog 44=some (31,b44,[.tmp 4]):=by kernel_rfl
theorem pure44:pureFn Tryd.prog 44=true:=by kernel_rfl
noncomputable def b42:Code:=(Tryd.f42.body).getD .skip
theorem body42:bodyOf Tryd.prog 42=some (95,b42,[.tmp 8]):=by kernel_rfl
theorem pure42:pureFn Tryd.prog 42=true:=by kernel_rfl
def whrF(n:Int):List Int→Int→Int
 |[],_=> -1
 |x::l,k=>if x=n then k else whrF n l (k+1)
def whrI(l:List Int)(n:Int):Int:=whrF n l 0
theorem whrF_neg(n:Int):∀(l:List Int) (k:Int),0≤k→(whrF n l k<0↔n ∉ l):=by
 intro l
 induction l with
 |nil=>intro k hk;unfold whrF;simp
 |cons x l ih=>
  intro k hk
  unfold whrF
  by_cases e:x=n
  ·subst e;rw[if_pos rfl];simp;omega
  ·rw[if_neg e,ih (k+1) (by omega)]
   simp only[List.mem_cons,not_or]
   exact⟨fun h=>⟨fun e2=>e e2.symm,h⟩,fun h=>h.2⟩
theorem whr_neg(l:List Int)(n:Int):whrI l n<0↔n ∉ l:=whrF_neg n l 0 (Int.le_refl _)
theorem drop_at{α:Type}{l:List α}{i:Nat}{x:α}(h:l[i]? =some x):l.drop i=x::l.drop (i+1):=by
 obtain⟨h1,h2⟩:=List.getElem?_eq_some_iff.1 h
 rw[List.drop_eq_getElem_cons h1,h2]
set_option maxHeartbeats 4000000 in
theorem ret45(hi:Off is)(l:List Int)(n:Int)(hl:l.length≤4096):RetP Tryd.prog is orc 45 [.lst .ro 1 (zD l),.int .i64 n] (.int .i64 (whrI l n)):=by
 refine yF body45 pure45 (hi 45 (by decide)) rfl rfl (yj (zz 6 .ro (fun h=>by cases h) 1 l) (.int _ _ _)) (.inl (.int _ _ _)) ?_
 refine kQ (zC rfl (zB (k_seq (kQ (zC rfl (zB (zS ?_)))))))
 refine wJ (fun kk s2=>∃i:Nat,kk+i=l.length∧whrI l n=whrF n (l.drop i) i∧s2.st=[]∧Holds s2 [(0,.lst .ro 1 (zD l)),(1,.int .i64 n),(5,.int .i64 i)]) (fun kk s2 hI=>?_) l.length _ ⟨0,rfl,rfl,rfl,.cons rfl (.cons rfl (.cons rfl (.nil rfl)))⟩
 obtain⟨i,hk,hw,hst2,hs2⟩:=hI
 refine zM _ _ hs2 hst2 fun fr2=>?_
 by_cases hin:i<l.length
 ·obtain⟨x,hx⟩:∃x,l[i]? =some x:=⟨l[i],List.getElem?_eq_getElem hin⟩
  rw[drop_at hx]at hw
  unfold whrF at hw
  by_cases e:x=n
  ·rw[if_pos e]at hw
   rw[hw]
   refine k_seq (kQ (zA rfl (zA rfl (yT rfl ty22 rfl (List.length_map _) ?_))))
   refine zu rfl rfl rfl (zB (k_cT rfl (decide_eq_true (by omega)) (zU (k_seq (zS (kQ (zA rfl (zA rfl ?_))))))))
   refine yn (u:=.int .i64 (x)) rfl ty22 rfl rfl (Int.natCast_nonneg _) (by simp[hx]) cl3 ?_
   refine zk rfl rfl sh3 rfl ?_
   refine zA rfl (zBF rfl rfl rfl (zB (k_cT rfl (decide_eq_true (by omega)) (kQ (zA rfl (zC rfl (zB (zd ?_))))))))
   refine⟨.inr rfl,_,.cons _ _ _ _ (.tmp 4) .nil,?_⟩
   exact .refl _
  ·rw[if_neg e]at hw
   refine k_seq (kQ (zA rfl (zA rfl (yT rfl ty22 rfl (List.length_map _) ?_))))
   refine zu rfl rfl rfl (zB (k_cT rfl (decide_eq_true (by omega)) (zU (k_seq (zS (kQ (zA rfl (zA rfl ?_))))))))
   refine yn (u:=.int .i64 (x)) rfl ty22 rfl rfl (Int.natCast_nonneg _) (by simp[hx]) cl3 ?_
   refine zk rfl rfl sh3 rfl ?_
   refine zA rfl (zBF rfl rfl rfl (zB (k_cF rfl (decide_eq_false (by omega)) (zU (k_region (zA rfl ?_))))))
   refine yw rfl rfl rfl (by unfold I64;omega) (zC rfl (zB ?_))
   exact⟨kk - 1,by omega,i+1,by omega,hw,rfl,.cons rfl (.cons rfl (.cons rfl (.nil rfl)))⟩
 ·have hiN:i=l.length:=by omega
  subst hiN
  rw[List.drop_length]at hw
  rw[hw]
  refine k_seq (kQ (zA rfl (zA rfl (yT rfl ty22 rfl (List.length_map _) ?_))))
  refine zu rfl rfl rfl (zB (k_cF rfl (decide_eq_false (by omega)) (yr (kQ (zC rfl (zB (zd ?_)))))))
  refine⟨.inr rfl,_,.cons _ _ _ _ (.tmp 4) .nil,?_⟩
  exact .refl _
def grwF(n:Int):Int→List Int→Bool
 |_,[]=>true
 |k,x::l=>if x≤k∨x ≥ n then false else grwF n x l
set_option maxHeartbeats 4000000 in
theorem ret44(hi:Off is)(l:List Int)(n:Int)(hl:l.length≤4096):RetP Tryd.prog is orc 44 [.lst .ro 1 (zD l),.int .i64 n] (.bool (grwF n (-1) l)):=by
 refine yF body44 pure44 (hi 44 (by decide)) rfl rfl (yj (zz 6 .ro (fun h=>by cases h) 1 l) (.int _ _ _)) (.inl (.bool _ _)) ?_
 refine kQ (zC rfl (zB (kQ (zC rfl (zB (k_seq (kQ (zC rfl ?_))))))))
 refine zB (zS ?_)
 refine wJ (fun kk s2=>∃(i:Nat) (k:Int),kk+i=l.length∧grwF n (-1) l=grwF n k (l.drop i)∧s2.st=[]∧Holds s2 [(0,.lst .ro 1 (zD l)),(1,.int .i64 n),(5,.int .i64 k),(6,.int .i64 i)]) (fun kk s2 hI=>?_) l.length _ ⟨0, -1,rfl,rfl,rfl,.c4 rfl rfl rfl rfl (.nil rfl)⟩
 obtain⟨i,k,hk,hw,hst2,hs2⟩:=hI
 refine zM _ _ hs2 hst2 fun fr2=>?_
 by_cases hin:i<l.length
 ·obtain⟨x,hx⟩:∃x,l[i]? =some x:=⟨l[i],List.getElem?_eq_getElem hin⟩
  rw[drop_at hx,show grwF n k (x::l.drop (i+1))=if x≤k∨x ≥ n then false else grwF n x (l.drop (i+1))from rfl]at hw
  by_cases e1:x≤k
  ·rw[if_pos (.inl e1)]at hw
   rw[hw]
   refine k_seq (kQ (zA rfl (zA rfl (yT rfl ty22 rfl (List.length_map _) ?_))))
   refine zu rfl rfl rfl (zB (k_cT rfl (decide_eq_true (by omega)) (zU (k_seq (zS (k_seq (kQ (zA rfl ?_))))))))
   refine zA rfl (yn (u:=.int .i64 (x)) rfl ty22 rfl rfl (Int.natCast_nonneg _) (by simp[hx]) cl3 ?_)
   refine zk rfl rfl sh3 rfl ?_
   refine zA rfl (zAm rfl rfl rfl (zA rfl (o_gS rfl rfl rfl rfl (decide_eq_true (by omega)) (o_gS rfl rfl rfl rfl (decide_eq_true (by omega)) ?_))))
   refine zP [(0,.lst .ro 1 (zD l)),(1,.int .i64 n),(6,.int .i64 ↑i),(19,U.bool (decide (x≤k))),(20,U.tup []),(21,U.tup [])] [] ([]) (.c4 rfl rfl rfl rfl (.cons rfl (.cons rfl (.nil rfl)))) rfl rfl fun fr=>?_
   refine o_gS rfl rfl rfl rfl (decide_eq_true (by omega)) (o_gS rfl rfl rfl rfl (decide_eq_true (by omega)) (o_gS rfl rfl rfl rfl (decide_eq_true (by omega)) (o_gS rfl rfl rfl rfl (decide_eq_true (by omega)) (zY rfl rfl (decide_eq_true (by omega)) ?_))))
   refine zB ?_
   refine zM [(0,.lst .ro 1 (zD l)),(1,.int .i64 n),(6,.int .i64 ↑i),(20,U.tup []),(21,U.tup []),(22,U.tup []),(23,U.tup []),(24,U.tup []),(25,U.tup []),(26,.bool true)] ([]) (.c4 rfl rfl rfl rfl (.c4 rfl rfl rfl rfl (.cons rfl (.cons rfl (.nil rfl))))) rfl fun fr=>?_
   refine k_cT rfl rfl ?_
   refine kQ (zC rfl (zB (zd ?_)))
   refine⟨.inr rfl,_,.cons _ _ _ _ (.tmp 4) .nil,?_⟩
   exact .refl _
  ·by_cases e2:x ≥ n
   ·rw[if_pos (.inr e2)]at hw
    rw[hw]
    refine k_seq (kQ (zA rfl (zA rfl (yT rfl ty22 rfl (List.length_map _) ?_))))
    refine zu rfl rfl rfl (zB (k_cT rfl (decide_eq_true (by omega)) (zU (k_seq (zS (k_seq (kQ (zA rfl ?_))))))))
    refine zA rfl (yn (u:=.int .i64 (x)) rfl ty22 rfl rfl (Int.natCast_nonneg _) (by simp[hx]) cl3 ?_)
    refine zk rfl rfl sh3 rfl ?_
    refine zA rfl (zAm rfl rfl rfl (zA rfl (o_gD rfl rfl rfl rfl (decide_eq_false (by omega)) (zA rfl (o_gD rfl rfl rfl rfl (decide_eq_false (by omega)) (zA rfl ?_))))))
    refine zP [(0,.lst .ro 1 (zD l)),(1,.int .i64 n),(6,.int .i64 ↑i),(19,U.bool (decide (x≤k))),(20,.lst .ro 1 (zD l)),(21,.int .i64 ↑i)] [] ([]) (.c4 rfl rfl rfl rfl (.cons rfl (.cons rfl (.nil rfl)))) rfl rfl fun fr=>?_
    refine o_gD rfl rfl rfl rfl (decide_eq_false (by omega)) ?_
    refine zP [(0,.lst .ro 1 (zD l)),(1,.int .i64 n),(6,.int .i64 ↑i),(19,U.bool (decide (x≤k))),(20,.lst .ro 1 (zD l)),(21,.int .i64 ↑i)] [] ([]) (.c4 rfl rfl rfl rfl (.cons rfl (.cons rfl (.nil rfl)))) rfl rfl fun fr=>?_
    refine yn (u:=.int .i64 (x)) rfl ty22 rfl rfl (Int.natCast_nonneg _) (by simp[hx]) cl3 ?_
    refine o_gD rfl rfl rfl rfl (decide_eq_false (by omega)) (zk rfl rfl sh3 rfl ?_)
    refine o_gD rfl rfl rfl rfl (decide_eq_false (by omega)) (zA rfl (o_gD rfl rfl rfl rfl (decide_eq_false (by omega)) (o_geq rfl rfl rfl (zN rfl rfl (decide_eq_false (by omega)) ?_))))
    refine zB ?_
    refine zM [(0,.lst .ro 1 (zD l)),(1,.int .i64 n),(6,.int .i64 ↑i),(20,.lst .ro 1 (zD l)),(21,.int .i64 ↑i),(22,U.eref [.int .i64 x] 0),(23,.int .i64 x),(24,.int .i64 n),(25,U.bool (decide (n≤x))),(26,U.bool (decide (n≤x)))] ([]) (.c4 rfl rfl rfl rfl (.c4 rfl rfl rfl rfl (.cons rfl (.cons rfl (.nil rfl))))) rfl fun fr=>?_
    refine k_cT rfl (decide_eq_true (by omega)) (kQ (zC rfl (zB (zd ?_))))
    refine⟨.inr rfl,_,.cons _ _ _ _ (.tmp 4) .nil,?_⟩
    exact .refl _
   ·rw[if_neg (by omega)]at hw
    refine k_seq (kQ (zA rfl (zA rfl (yT rfl ty22 rfl (List.length_map _) ?_))))
    refine zu rfl rfl rfl (zB (k_cT rfl (decide_eq_true (by omega)) (zU (k_seq (zS (k_seq (kQ (zA rfl ?_))))))))
    refine zA rfl (yn (u:=.int .i64 (x)) rfl ty22 rfl rfl (Int.natCast_nonneg _) (by simp[hx]) cl3 ?_)
    refine zk rfl rfl sh3 rfl ?_
    refine zA rfl (zAm rfl rfl rfl (zA rfl (o_gD rfl rfl rfl rfl (decide_eq_false (by omega)) (zA rfl (o_gD rfl rfl rfl rfl (decide_eq_false (by omega)) (zA rfl ?_))))))
    refine zP [(0,.lst .ro 1 (zD l)),(1,.int .i64 n),(6,.int .i64 ↑i),(19,U.bool (decide (x≤k))),(20,.lst .ro 1 (zD l)),(21,.int .i64 ↑i)] [] ([]) (.c4 rfl rfl rfl rfl (.cons rfl (.cons rfl (.nil rfl)))) rfl rfl fun fr=>?_
    refine o_gD rfl rfl rfl rfl (decide_eq_false (by omega)) ?_
    refine zP [(0,.lst .ro 1 (zD l)),(1,.int .i64 n),(6,.int .i64 ↑i),(19,U.bool (decide (x≤k))),(20,.lst .ro 1 (zD l)),(21,.int .i64 ↑i)] [] ([]) (.c4 rfl rfl rfl rfl (.cons rfl (.cons rfl (.nil rfl)))) rfl rfl fun fr=>?_
    refine yn (u:=.int .i64 (x)) rfl ty22 rfl rfl (Int.natCast_nonneg _) (by simp[hx]) cl3 ?_
    refine o_gD rfl rfl rfl rfl (decide_eq_false (by omega)) (zk rfl rfl sh3 rfl ?_)
    refine o_gD rfl rfl rfl rfl (decide_eq_false (by omega)) (zA rfl (o_gD rfl rfl rfl rfl (decide_eq_false (by omega)) (o_geq rfl rfl rfl (zN rfl rfl (decide_eq_false (by omega)) ?_))))
    refine zB ?_
    refine zM [(0,.lst .ro 1 (zD l)),(1,.int .i64 n),(6,.int .i64 ↑i),(20,.lst .ro 1 (zD l)),(21,.int .i64 ↑i),(22,U.eref [.int .i64 x] 0),(23,.int .i64 x),(24,.int .i64 n),(25,U.bool (decide (n≤x))),(26,U.bool (decide (n≤x)))] ([]) (.c4 rfl rfl rfl rfl (.c4 rfl rfl rfl rfl (.cons rfl (.cons rfl (.nil rfl))))) rfl fun fr=>?_
    refine k_cF rfl (decide_eq_false (by omega)) (zU (k_region (zA rfl (zA rfl (yn (u:=.int .i64 (x)) rfl ty22 rfl rfl (Int.natCast_nonneg _) (by simp[hx]) cl3 ?_)))))
    refine zk rfl rfl sh3 rfl ?_
    refine zC rfl (zB (k_region (zA rfl ?_)))
    refine yw rfl rfl rfl (by unfold I64;omega) (zC rfl (zB ?_))
    exact⟨kk - 1,by omega,i+1,x,by omega,hw,rfl,.c4 rfl rfl rfl rfl (.nil rfl)⟩
 ·have hiN:i=l.length:=by omega
  subst hiN
  rw[List.drop_length]at hw
  rw[hw]
  refine k_seq (kQ (zA rfl (zA rfl (yT rfl ty22 rfl (List.length_map _) ?_))))
  refine zu rfl rfl rfl (zB (k_cF rfl (decide_eq_false (by omega)) (yr (kQ (zC rfl (zB (zd ?_)))))))
  refine⟨.inr rfl,_,.cons _ _ _ _ (.tmp 4) .nil,?_⟩
  exact .refl _
def slD(b:Bk)(L bits:List Int)(i n:Nat):Int:=
 if n / b.size.toNat=0∨n % b.size.toNat≠0∨L[n / b.size.toNat]? =L[n / b.size.toNat - 1]? then 0 else zAr b.slo b.shi (nthI bits (n+i))
def caD(p:Pl)(x:Int)(bits:List Int)(i n:Nat):Int:=zAr ((p.cat[x.toNat]?).getD ⟨0,0⟩).a ((p.cat[x.toNat]?).getD ⟨0,0⟩).b (nthI bits (n+2*i+1))
def truI(b:Bk)(L bits:List Int)(p:Pl)(i:Nat):Nat→Int
 |0=>zAr p.la p.lb (nthI bits i)
 |n+1=>max 0 (truI b L bits p i n+slD b L bits i n - caD p ((L[n / b.size.toNat]?).getD 0) bits i n)
theorem sl_in{b:Bk}(hb:BOk b)(L bits:List Int)(i n:Nat):zDK b false L n≤slD b L bits i n∧slD b L bits i n≤zDK b true L n:=by
 have:=hb.sl
 unfold zDK slD
 split
 ·omega
 ·have:=zDB (nthI bits (n+i)) this.2.1
  show b.slo≤_∧_≤b.shi
  exact this
theorem ca_in{p:Pl}(h:p.cat.length=4∧∀c∈p.cat,0≤c.a∧c.a≤c.b∧c.b≤100){x:Int}(hx:0≤x∧x≤3)(bits:List Int)(i n:Nat):catI false p x≤caD p x bits i n∧caD p x bits i n≤catI true p x:=by
 have hm:=h.2 _ (List.getElem_mem (show x.toNat<p.cat.length by omega))
 unfold catI caD
 rw[List.getElem?_eq_getElem (show x.toNat<p.cat.length by omega),Option.getD_some]
 exact zDB _ hm.2.1
theorem rg_at{L:List Int}(hL:∀x∈L,0≤x∧x≤3)(q:Nat):0≤(L[q]?).getD 0∧(L[q]?).getD 0≤3:=by
 cases hq:L[q]? with
 |none=>exact⟨Int.le_refl _,by decide⟩
 |some q=>exact hL q (List.mem_of_getElem? hq)
theorem tru_in{b:Bk}(hb:BOk b){L:List Int}(hL:∀x∈L,0≤x∧x≤3)(bits:List Int){p:Pl}(hp:(0≤p.la∧p.la≤p.lb∧p.lb≤500)∧p.cat.length=4∧∀c∈p.cat,0≤c.a∧c.a≤c.b∧c.b≤100)(i n:Nat):aftI b false L p n≤truI b L bits p i n∧truI b L bits p i n≤aftI b true L p n:=by
 induction n with
 |zero=>exact zDB _ hp.1.2.1
 |succ n ih=>
  have e1:aftI b false L p (n+1)=max 0 (aftI b false L p n+zDK b false L n - catI true p ((L[n / b.size.toNat]?).getD 0)):=rfl
  have e2:aftI b true L p (n+1)=max 0 (aftI b true L p n+zDK b true L n - catI false p ((L[n / b.size.toNat]?).getD 0)):=rfl
  have e3:truI b L bits p i (n+1)=max 0 (truI b L bits p i n+slD b L bits i n - caD p ((L[n / b.size.toNat]?).getD 0) bits i n):=rfl
  have h1:=sl_in hb L bits i n
  have h2:=ca_in hp.2 (rg_at hL (n / b.size.toNat)) bits i n
  rw[e1,e2,e3]
  omega
def truL(b:Bk)(L bits:List Int)(p:Pl)(i n:Nat):List Int:=(List.range n).map (truI b L bits p i)
theorem truL_len(b:Bk)(L bits:List Int)(p:Pl)(i n:Nat):(truL b L bits p i n).length=n:=by simp[truL]
theorem truL_at{b:Bk}{L bits:List Int}{p:Pl}{i n k:Nat}(h:k<n):(truL b L bits p i n)[k]? =some (truI b L bits p i k):=by simp[truL,h]
theorem truL_succ(b:Bk)(L bits:List Int)(p:Pl)(i n:Nat):truL b L bits p i (n+1)=truL b L bits p i n++[truI b L bits p i n]:=by simp[truL,List.range_succ]
set_option maxHeartbeats 16000000 in
theorem ret42(hi:Off is){b:Bk}{L:List Int}(hb:BOk b)(h:POk b L)(bits:List Int){i:Nat}{p:Pl}(hp1:b.players[i]? =some p):RetP Tryd.prog is orc 42 [b.u,.lst .ro 1 (zD L),.int .i64 i,.lst .ro 1 (zD bits)] (.lst .ro 1 (zD (truL b L bits p i ((b.parts*b.size).toNat+1)))):=by
 refine yF body42 pure42 (hi 42 (by decide)) rfl rfl (fun u hu=>?_) (.inl (zz 6 .ro (fun h=>by cases h) 1 _)) ?_
 ·simp only[List.mem_cons,List.not_mem_nil,or_false]at hu
  rcases hu with rfl|rfl|rfl|rfl
  ·exact wb b 4
  ·exact zz 6 .ro (fun h=>by cases h) 1 L
  ·exact .int _ _ _
  ·exact zz 6 .ro (fun h=>by cases h) 1 bits
 have hil:=(List.getElem?_eq_some_iff.1 hp1).1
 have hpn:=hb.pn
 have hs:=hb.sz
 have hp:=hb.pa
 have hl:=h.len
 have hpo:=pl_ok hb hp1
 have hps:=toNat_ps hb
 have hmp:=mul_ps hb
 have hsl:=hb.sl
 have hd0:=zDB (nthI bits i) hpo.1.2.1
 refine kQ (yK rfl rfl (zC rfl (zB ?_)))
 refine zM [(1,.lst .ro 1 (zD L)),(2,.int .i64 ↑i),(3,.lst .ro 1 (zD bits)),(4,U.box 0 0)] ([SB.box [.int .i64 (Bk.parts b),.int .i64 (Bk.size b),.lst .ro 1 (zD (Bk.beats b)),.int .i64 (Bk.start b),.int .i64 (Bk.fin b),.int .i64 (Bk.tlo b),.int .i64 (Bk.thi b),.int .i64 (Bk.slo b),.int .i64 (Bk.shi b),.int .i64 (Bk.notice b),.lst .ro 3 (plsU (Bk.players b))]]) (.c4 rfl rfl rfl rfl (.nil rfl)) rfl fun fr=>?_
 refine kQ (zF rfl rfl wh (zG rfl rfl rfl sh25 rfl (zA rfl (yn (u:=(p).u) rfl ty25 rfl rfl (Int.natCast_nonneg _) (by simp[hp1]) cl68 ?_))))
 refine wd rfl rfl sh68 rfl ?_
 refine yC rfl ze68 ?_
 refine ze rfl rfl sh68 rfl rfl rfl rfl rfl ?_
 refine zB ?_
 refine zM [(1,.lst .ro 1 (zD L)),(2,.int .i64 ↑i),(3,.lst .ro 1 (zD bits)),(4,U.box 0 0),(9,U.box 1 0)] ([SB.box [.int .i64 (Bk.parts b),.int .i64 (Bk.size b),.lst .ro 1 (zD (Bk.beats b)),.int .i64 (Bk.start b),.int .i64 (Bk.fin b),.int .i64 (Bk.tlo b),.int .i64 (Bk.thi b),.int .i64 (Bk.slo b),.int .i64 (Bk.shi b),.int .i64 (Bk.notice b),.lst .ro 3 (plsU (Bk.players b))],SB.box [.int .i64 (Pl.la p),.int .i64 (Pl.lb p),.lst .ro 2 (yb (Pl.cat p))]]) (.c4 rfl rfl rfl rfl (.cons rfl (.nil rfl))) rfl fun fr=>?_
 refine k_seq (wa [.plain,.read true,.plain,.plain,.read false,.plain,.plain] (by kernel_rfl) (by kernel_rfl) (by kernel_rfl) ?_)
 refine zE (zF rfl rfl zDt (zB rfl)) ?_
 refine yI rfl (zO rfl rfl rfl sh24 rfl (zB rfl)) ?_
 refine zE (zA rfl (zB rfl)) (zE (zA rfl (zB rfl)) (zBj rfl (ret53 hi bits i) (.int _ _) (.lrefl _) ?_))
 refine zE (zR rfl (ret88 hi p.la p.lb (nthI bits i) (by omega) (by omega)) (.lrefl _) (zB rfl)) ?_
 refine zE (zC rfl (zB rfl)) ?_
 refine zBK ?_
 refine kQ (zA rfl (zBc (es:=[.int .i64 (zAr (Pl.la p) (Pl.lb p) (nthI bits i))]) rfl ty22 ze3 cl3 rfl rfl rfl rfl rfl rfl rfl rfl ?_))
 refine zC rfl (zB (k_seq (kQ (zC rfl (zB ?_)))))
 refine zM [(1,.lst .ro 1 (zD L)),(2,.int .i64 ↑i),(3,.lst .ro 1 (zD bits)),(4,U.box 0 0),(9,U.box 1 0),(10,.int .i64 (zAr (Pl.la p) (Pl.lb p) (nthI bits i))),(11,.lst .full 1 [.int .i64 (zAr (Pl.la p) (Pl.lb p) (nthI bits i))]),(12,.int .i64 0)] ([SB.box [.int .i64 (Bk.parts b),.int .i64 (Bk.size b),.lst .ro 1 (zD (Bk.beats b)),.int .i64 (Bk.start b),.int .i64 (Bk.fin b),.int .i64 (Bk.tlo b),.int .i64 (Bk.thi b),.int .i64 (Bk.slo b),.int .i64 (Bk.shi b),.int .i64 (Bk.notice b),.lst .ro 3 (plsU (Bk.players b))],SB.box [.int .i64 (Pl.la p),.int .i64 (Pl.lb p),.lst .ro 2 (yb (Pl.cat p))]]) (.c4 rfl rfl rfl rfl (.c4 rfl rfl rfl rfl (.nil rfl))) rfl fun fr=>?_
 refine zS ?_
 refine wJ (fun kk s2=>∃(n:Nat) (kd:Kd),(kk:Int)+n=b.parts*b.size∧(kd=.full∨kd=.own)∧s2.st=[.box [.int .i64 b.parts,.int .i64 b.size,.lst .ro 1 (zD b.beats),.int .i64 b.start,.int .i64 b.fin,.int .i64 b.tlo,.int .i64 b.thi,.int .i64 b.slo,.int .i64 b.shi,.int .i64 b.notice,.lst .ro 3 (plsU b.players)],.box p.cs]∧Holds s2 [(1,.lst .ro 1 (zD L)),(2,.int .i64 i),(3,.lst .ro 1 (zD bits)),(4,.box 0 0),(9,.box 1 0),(10,.int .i64 (truI b L bits p i n)),(11,.lst kd 1 (zD (truL b L bits p i (n+1)))),(12,.int .i64 n)]) (fun kk s2 hI=>?_) (b.parts*b.size).toNat _ ⟨0,.full,by omega,.inl rfl,rfl,.c4 rfl rfl rfl rfl (.c4 rfl rfl rfl rfl (.nil rfl))⟩
 obtain⟨n,kd,hk,hkd,hst2,hs2⟩:=hI
 have hti:=tru_in hb h.rg bits hpo i n
 have hab:=aft_b hb true L h.rg hpo n
 have hab0:=aft_b hb false L h.rg hpo n
 have hlen:=truL_len b L bits p i (n+1)
 have hsu:=truL_succ b L bits p i (n+1)
 by_cases hin:(n:Int)<b.parts*b.size
 ·obtain⟨d1,d2⟩:=div_n hb n
  have hq:=part_lt hb hin
  obtain⟨x,hx,hxr⟩:=at_ok h hq
  have hs0:=sl_in hb L bits i n
  have hs1:=slip_b hb true L n
  have hs2':=slip_b hb false L n
  have etr:truI b L bits p i (n+1)=max 0 (truI b L bits p i n+slD b L bits i n - caD p x bits i n):=by
   show max 0 (_+_ - caD p ((L[n / b.size.toNat]?).getD 0) bits i n)=_
   rw[hx];rfl
  have hsD:slD b L bits i n=if n / b.size.toNat=0∨n % b.size.toNat≠0∨L[n / b.size.toNat]? =L[n / b.size.toNat - 1]? then 0 else zAr b.slo b.shi (nthI bits (n+i)):=rfl
  obtain⟨c,hc1⟩:∃c,p.cat[x.toNat]? =some c:=⟨p.cat[x.toNat]'(by omega),List.getElem?_eq_getElem (by omega)⟩
  have hcr:=hpo.2.2 c (List.mem_of_getElem? hc1)
  have eca:caD p x bits i n=zAr c.a c.b (nthI bits (n+2*i+1)):=by unfold caD;rw[hc1];rfl
  have hcd:=zDB (nthI bits (n+2*i+1)) hcr.2.1
  generalize truL b L bits p i (n+1)=A at*
  generalize slD b L bits i n=sl at*
  generalize n / b.size.toNat=q at*
  generalize n % b.size.toNat=r at*
  generalize truI b L bits p i n=now at*
  refine zM _ _ hs2 hst2 fun fr2=>?_
  refine k_seq (kQ (zA rfl (zF rfl rfl wz (zG rfl rfl rfl sh3 rfl (zF rfl rfl ya (zG rfl rfl rfl sh3 rfl ?_))))))
  refine o_mul rfl rfl rfl (by unfold I64;omega) ?_
  refine zu rfl rfl rfl (zB (k_cT rfl (decide_eq_true (by omega)) (zU (k_seq (zS (kQ (zA rfl (zF rfl rfl ya ?_))))))))
  refine zG rfl rfl rfl sh3 rfl ?_
  refine o_quo rfl rfl rfl (by omega) (by unfold I64;omega) ?_
  refine zC rfl (zB ?_)
  refine zM [(1,.lst .ro 1 (zD L)),(2,.int .i64 ↑i),(3,.lst .ro 1 (zD bits)),(4,U.box 0 0),(9,U.box 1 0),(10,.int .i64 now),(11,U.lst kd 1 (zD A)),(12,.int .i64 ↑n),(13,.int .i64 (Int.tdiv (↑n) (Bk.size b)))] ([SB.box [.int .i64 (Bk.parts b),.int .i64 (Bk.size b),.lst .ro 1 (zD (Bk.beats b)),.int .i64 (Bk.start b),.int .i64 (Bk.fin b),.int .i64 (Bk.tlo b),.int .i64 (Bk.thi b),.int .i64 (Bk.slo b),.int .i64 (Bk.shi b),.int .i64 (Bk.notice b),.lst .ro 3 (plsU (Bk.players b))],SB.box (Pl.cs p)]) (.c4 rfl rfl rfl rfl (.c4 rfl rfl rfl rfl (.cons rfl (.nil rfl)))) rfl fun fr=>?_
  refine zM [(1,.lst .ro 1 (zD L)),(2,.int .i64 i),(3,.lst .ro 1 (zD bits)),(4,.box 0 0),(9,.box 1 0),(10,.int .i64 now),(11,.lst kd 1 (zD A)),(12,.int .i64 n),(13,.int .i64 q)] [.box [.int .i64 b.parts,.int .i64 b.size,.lst .ro 1 (zD b.beats),.int .i64 b.start,.int .i64 b.fin,.int .i64 b.tlo,.int .i64 b.thi,.int .i64 b.slo,.int .i64 b.shi,.int .i64 b.notice,.lst .ro 3 (plsU b.players)],.box p.cs] (.c4 rfl rfl rfl rfl (.c4 rfl rfl rfl rfl (.cons (by show U.int .i64 _=_;rw[d1]) (.nil rfl)))) rfl fun fr3=>?_
  refine k_cut (fun st=>st.st=[.box [.int .i64 b.parts,.int .i64 b.size,.lst .ro 1 (zD b.beats),.int .i64 b.start,.int .i64 b.fin,.int .i64 b.tlo,.int .i64 b.thi,.int .i64 b.slo,.int .i64 b.shi,.int .i64 b.notice,.lst .ro 3 (plsU b.players)],.box p.cs]∧Holds st [(1,.lst .ro 1 (zD L)),(2,.int .i64 i),(3,.lst .ro 1 (zD bits)),(4,.box 0 0),(9,.box 1 0),(10,.int .i64 (now+sl)),(11,.lst kd 1 (zD A)),(12,.int .i64 n),(13,.int .i64 q)]) ?_ (fun st hM=>?_)
  ·by_cases c1:r≠0
   ·rw[if_pos (.inr (.inl c1))]at hsD
    refine k_seq (wa [.plain,.plain,.plain,.plain,.plain,.plain,.plain,.plain,.plain,.plain,.plain,.plain,.plain,.read true,.plain,.plain,.plain,.plain,.read true,.plain,.plain] (by kernel_rfl) (by kernel_rfl) (by kernel_rfl) ?_)
    refine zE (zA rfl (zB rfl)) (zE (zF rfl rfl ya (zB rfl)) ?_)
    refine zE (zG rfl rfl rfl sh3 rfl (zB rfl)) ?_
    refine zE (zFs rfl rfl rfl (by omega) (zB rfl)) ?_
    refine zE (zBF rfl rfl rfl (zB rfl)) ?_
    refine zE (zA rfl (zB rfl)) (d_gS rfl rfl rfl rfl (decide_eq_false (by omega)) ?_)
    refine d_gS rfl rfl rfl rfl (decide_eq_false (by omega)) ?_
    refine zE (zN rfl rfl (decide_eq_false (by omega)) (zB rfl)) ?_
    refine zAs [(1,.lst .ro 1 (zD L)),(2,.int .i64 ↑i),(3,.lst .ro 1 (zD bits)),(4,U.box 0 0),(9,U.box 1 0),(10,.int .i64 now),(11,U.lst kd 1 (zD A)),(12,.int .i64 ↑n),(13,.int .i64 ↑q),(46,U.tup []),(47,U.tup []),(48,.bool false)] [] ([SB.box [.int .i64 (Bk.parts b),.int .i64 (Bk.size b),.lst .ro 1 (zD (Bk.beats b)),.int .i64 (Bk.start b),.int .i64 (Bk.fin b),.int .i64 (Bk.tlo b),.int .i64 (Bk.thi b),.int .i64 (Bk.slo b),.int .i64 (Bk.shi b),.int .i64 (Bk.notice b),.lst .ro 3 (plsU (Bk.players b))],SB.box (Pl.cs p)]) (.c4 rfl rfl rfl rfl (.c4 rfl rfl rfl rfl (.c4 rfl rfl rfl rfl (.nil rfl)))) rfl rfl fun fr=>?_
    refine zE (zA rfl (zB rfl)) (d_gS rfl rfl rfl rfl rfl (d_gS rfl rfl rfl rfl rfl (d_gS rfl rfl rfl rfl rfl (d_gS rfl rfl rfl rfl rfl (d_gS rfl rfl rfl rfl rfl (d_gS rfl rfl rfl rfl rfl (d_gS rfl rfl rfl rfl rfl (d_gS rfl rfl rfl rfl rfl ?_))))))))
    refine zAs [(1,.lst .ro 1 (zD L)),(2,.int .i64 ↑i),(3,.lst .ro 1 (zD bits)),(4,U.box 0 0),(9,U.box 1 0),(10,.int .i64 now),(11,U.lst kd 1 (zD A)),(12,.int .i64 ↑n),(13,.int .i64 ↑q),(46,U.tup []),(47,U.tup []),(49,.bool false),(50,U.tup []),(51,U.tup []),(52,U.tup []),(53,U.tup []),(54,U.tup []),(55,U.tup []),(56,U.tup []),(57,U.tup [])] [] ([SB.box [.int .i64 (Bk.parts b),.int .i64 (Bk.size b),.lst .ro 1 (zD (Bk.beats b)),.int .i64 (Bk.start b),.int .i64 (Bk.fin b),.int .i64 (Bk.tlo b),.int .i64 (Bk.thi b),.int .i64 (Bk.slo b),.int .i64 (Bk.shi b),.int .i64 (Bk.notice b),.lst .ro 3 (plsU (Bk.players b))],SB.box (Pl.cs p)]) (.c4 rfl rfl rfl rfl (.c4 rfl rfl rfl rfl (.c4 rfl rfl rfl rfl (.c4 rfl rfl rfl rfl (.c4 rfl rfl rfl rfl (.nil rfl)))))) rfl rfl fun fr=>?_
    refine d_gS rfl rfl rfl rfl rfl (d_gS rfl rfl rfl rfl rfl (zE (zN rfl rfl rfl (zB rfl)) ?_))
    refine zBK ?_
    refine zM [(1,.lst .ro 1 (zD L)),(2,.int .i64 ↑i),(3,.lst .ro 1 (zD bits)),(4,U.box 0 0),(9,U.box 1 0),(10,.int .i64 now),(11,U.lst kd 1 (zD A)),(12,.int .i64 ↑n),(13,.int .i64 ↑q),(46,U.tup []),(47,U.tup []),(50,U.tup []),(51,U.tup []),(52,U.tup []),(53,U.tup []),(54,U.tup []),(55,U.tup []),(56,U.tup []),(57,U.tup []),(58,U.tup []),(59,U.tup []),(60,.bool false)] ([SB.box [.int .i64 (Bk.parts b),.int .i64 (Bk.size b),.lst .ro 1 (zD (Bk.beats b)),.int .i64 (Bk.start b),.int .i64 (Bk.fin b),.int .i64 (Bk.tlo b),.int .i64 (Bk.thi b),.int .i64 (Bk.slo b),.int .i64 (Bk.shi b),.int .i64 (Bk.notice b),.lst .ro 3 (plsU (Bk.players b))],SB.box (Pl.cs p)]) (.c4 rfl rfl rfl rfl (.c4 rfl rfl rfl rfl (.c4 rfl rfl rfl rfl (.c4 rfl rfl rfl rfl (.c4 rfl rfl rfl rfl (.cons rfl (.cons rfl (.nil rfl)))))))) rfl fun fr=>?_
    refine k_cF rfl rfl ?_
    refine zU ?_
    exact⟨rfl,rfl,.c4 rfl rfl rfl rfl (.cons rfl (.cons (by rw[hsD,Int.add_zero];rfl) (.cons rfl (.cons rfl (.cons rfl (.nil rfl))))))⟩
   by_cases c2:q=0
   ·rw[if_pos (.inl c2)]at hsD
    refine k_seq (wa [.plain,.plain,.plain,.plain,.plain,.plain,.plain,.plain,.plain,.plain,.plain,.plain,.plain,.read true,.plain,.plain,.plain,.plain,.read true,.plain,.plain] (by kernel_rfl) (by kernel_rfl) (by kernel_rfl) ?_)
    refine zE (zA rfl (zB rfl)) (zE (zF rfl rfl ya (zB rfl)) ?_)
    refine zE (zG rfl rfl rfl sh3 rfl (zB rfl)) ?_
    refine zE (zFs rfl rfl rfl (by omega) (zB rfl)) ?_
    refine zE (zBF rfl rfl rfl (zB rfl)) ?_
    refine zE (zA rfl (zB rfl)) (d_gD rfl rfl rfl rfl (decide_eq_true (by omega)) ?_)
    refine zE (zA rfl (zB rfl)) (d_gD rfl rfl rfl rfl (decide_eq_true (by omega)) ?_)
    refine zE (zCj rfl rfl rfl (zB rfl)) ?_
    refine zE (zY rfl rfl (decide_eq_true (by omega)) (zB rfl)) ?_
    refine zAs [(1,.lst .ro 1 (zD L)),(2,.int .i64 ↑i),(3,.lst .ro 1 (zD bits)),(4,U.box 0 0),(9,U.box 1 0),(10,.int .i64 now),(11,U.lst kd 1 (zD A)),(12,.int .i64 ↑n),(13,.int .i64 ↑q),(46,.int .i64 ↑q),(47,U.bool (decide ((0:Int)< ↑q))),(48,U.bool (decide ((0:Int)< ↑q)))] [] ([SB.box [.int .i64 (Bk.parts b),.int .i64 (Bk.size b),.lst .ro 1 (zD (Bk.beats b)),.int .i64 (Bk.start b),.int .i64 (Bk.fin b),.int .i64 (Bk.tlo b),.int .i64 (Bk.thi b),.int .i64 (Bk.slo b),.int .i64 (Bk.shi b),.int .i64 (Bk.notice b),.lst .ro 3 (plsU (Bk.players b))],SB.box (Pl.cs p)]) (.c4 rfl rfl rfl rfl (.c4 rfl rfl rfl rfl (.c4 rfl rfl rfl rfl (.nil rfl)))) rfl rfl fun fr=>?_
    refine zE (zA rfl (zB rfl)) (d_gS rfl rfl rfl rfl (decide_eq_false (by omega)) ?_)
    refine d_gS rfl rfl rfl rfl (decide_eq_false (by omega)) ?_
    refine d_gS rfl rfl rfl rfl (decide_eq_false (by omega)) ?_
    refine d_gS rfl rfl rfl rfl (decide_eq_false (by omega)) ?_
    refine d_gS rfl rfl rfl rfl (decide_eq_false (by omega)) ?_
    refine d_gS rfl rfl rfl rfl (decide_eq_false (by omega)) ?_
    refine d_gS rfl rfl rfl rfl (decide_eq_false (by omega)) ?_
    refine d_gS rfl rfl rfl rfl (decide_eq_false (by omega)) ?_
    refine zAs [(1,.lst .ro 1 (zD L)),(2,.int .i64 ↑i),(3,.lst .ro 1 (zD bits)),(4,U.box 0 0),(9,U.box 1 0),(10,.int .i64 now),(11,U.lst kd 1 (zD A)),(12,.int .i64 ↑n),(13,.int .i64 ↑q),(46,.int .i64 ↑q),(47,U.bool (decide ((0:Int)< ↑q))),(49,U.bool (decide ((0:Int)< ↑q))),(50,U.tup []),(51,U.tup []),(52,U.tup []),(53,U.tup []),(54,U.tup []),(55,U.tup []),(56,U.tup []),(57,U.tup [])] [] ([SB.box [.int .i64 (Bk.parts b),.int .i64 (Bk.size b),.lst .ro 1 (zD (Bk.beats b)),.int .i64 (Bk.start b),.int .i64 (Bk.fin b),.int .i64 (Bk.tlo b),.int .i64 (Bk.thi b),.int .i64 (Bk.slo b),.int .i64 (Bk.shi b),.int .i64 (Bk.notice b),.lst .ro 3 (plsU (Bk.players b))],SB.box (Pl.cs p)]) (.c4 rfl rfl rfl rfl (.c4 rfl rfl rfl rfl (.c4 rfl rfl rfl rfl (.c4 rfl rfl rfl rfl (.c4 rfl rfl rfl rfl (.nil rfl)))))) rfl rfl fun fr=>?_
    refine d_gS rfl rfl rfl rfl (decide_eq_false (by omega)) ?_
    refine d_gS rfl rfl rfl rfl (decide_eq_false (by omega)) ?_
    refine zE (zN rfl rfl (decide_eq_false (by omega)) (zB rfl)) ?_
    refine zBK ?_
    refine zM [(1,.lst .ro 1 (zD L)),(2,.int .i64 ↑i),(3,.lst .ro 1 (zD bits)),(4,U.box 0 0),(9,U.box 1 0),(10,.int .i64 now),(11,U.lst kd 1 (zD A)),(12,.int .i64 ↑n),(13,.int .i64 ↑q),(46,.int .i64 ↑q),(47,U.bool (decide ((0:Int)< ↑q))),(50,U.tup []),(51,U.tup []),(52,U.tup []),(53,U.tup []),(54,U.tup []),(55,U.tup []),(56,U.tup []),(57,U.tup []),(58,U.tup []),(59,U.tup []),(60,.bool false)] ([SB.box [.int .i64 (Bk.parts b),.int .i64 (Bk.size b),.lst .ro 1 (zD (Bk.beats b)),.int .i64 (Bk.start b),.int .i64 (Bk.fin b),.int .i64 (Bk.tlo b),.int .i64 (Bk.thi b),.int .i64 (Bk.slo b),.int .i64 (Bk.shi b),.int .i64 (Bk.notice b),.lst .ro 3 (plsU (Bk.players b))],SB.box (Pl.cs p)]) (.c4 rfl rfl rfl rfl (.c4 rfl rfl rfl rfl (.c4 rfl rfl rfl rfl (.c4 rfl rfl rfl rfl (.c4 rfl rfl rfl rfl (.cons rfl (.cons rfl (.nil rfl)))))))) rfl fun fr=>?_
    refine k_cF rfl rfl ?_
    refine zU ?_
    exact⟨rfl,rfl,.c4 rfl rfl rfl rfl (.cons rfl (.cons (by rw[hsD,Int.add_zero];rfl) (.cons rfl (.cons rfl (.cons rfl (.nil rfl))))))⟩
   obtain⟨y,hy,_⟩:=at_ok h (show((q - 1:Nat):Int)<b.parts by omega)
   have hy2:L[((q:Int) - 1).toNat]? =some y:=by rw[show((q:Int) - 1).toNat=q - 1 by omega];exact hy
   by_cases c3:x=y
   ·rw[if_pos (.inr (.inr (by rw[hx,hy,c3])))]at hsD
    refine k_seq (wa [.plain,.plain,.plain,.plain,.plain,.plain,.plain,.plain,.plain,.plain,.plain,.plain,.plain,.read true,.plain,.plain,.plain,.plain,.read true,.plain,.plain] (by kernel_rfl) (by kernel_rfl) (by kernel_rfl) ?_)
    refine zE (zA rfl (zB rfl)) (zE (zF rfl rfl ya (zB rfl)) ?_)
    refine zE (zG rfl rfl rfl sh3 rfl (zB rfl)) ?_
    refine zE (zFs rfl rfl rfl (by omega) (zB rfl)) ?_
    refine zE (zBF rfl rfl rfl (zB rfl)) ?_
    refine zE (zA rfl (zB rfl)) (d_gD rfl rfl rfl rfl (decide_eq_true (by omega)) ?_)
    refine zE (zA rfl (zB rfl)) (d_gD rfl rfl rfl rfl (decide_eq_true (by omega)) ?_)
    refine zE (zCj rfl rfl rfl (zB rfl)) ?_
    refine zE (zY rfl rfl (decide_eq_true (by omega)) (zB rfl)) ?_
    refine zAs [(1,.lst .ro 1 (zD L)),(2,.int .i64 ↑i),(3,.lst .ro 1 (zD bits)),(4,U.box 0 0),(9,U.box 1 0),(10,.int .i64 now),(11,U.lst kd 1 (zD A)),(12,.int .i64 ↑n),(13,.int .i64 ↑q),(46,.int .i64 ↑q),(47,U.bool (decide ((0:Int)< ↑q))),(48,U.bool (decide ((0:Int)< ↑q)))] [] ([SB.box [.int .i64 (Bk.parts b),.int .i64 (Bk.size b),.lst .ro 1 (zD (Bk.beats b)),.int .i64 (Bk.start b),.int .i64 (Bk.fin b),.int .i64 (Bk.tlo b),.int .i64 (Bk.thi b),.int .i64 (Bk.slo b),.int .i64 (Bk.shi b),.int .i64 (Bk.notice b),.lst .ro 3 (plsU (Bk.players b))],SB.box (Pl.cs p)]) (.c4 rfl rfl rfl rfl (.c4 rfl rfl rfl rfl (.c4 rfl rfl rfl rfl (.nil rfl)))) rfl rfl fun fr=>?_
    refine zE (zA rfl (zB rfl)) (d_gD rfl rfl rfl rfl (decide_eq_true (by omega)) ?_)
    refine zE (zA rfl (zB rfl)) (d_gD rfl rfl rfl rfl (decide_eq_true (by omega)) ?_)
    refine zE (zA rfl (zB rfl)) (d_gD rfl rfl rfl rfl (decide_eq_true (by omega)) ?_)
    refine zE (yn (u:=.int .i64 (x)) rfl ty22 rfl rfl (Int.natCast_nonneg _) (by simp[hx]) cl3 (zB rfl)) ?_
    refine d_gD rfl rfl rfl rfl (decide_eq_true (by omega)) ?_
    refine yI rfl (zk rfl rfl sh3 rfl (zB rfl)) ?_
    refine d_gD rfl rfl rfl rfl (decide_eq_true (by omega)) ?_
    refine zE (zA rfl (zB rfl)) (d_gD rfl rfl rfl rfl (decide_eq_true (by omega)) ?_)
    refine zE (zA rfl (zB rfl)) (d_gD rfl rfl rfl rfl (decide_eq_true (by omega)) ?_)
    refine zE (zCi rfl rfl rfl (by unfold I64;omega) (zB rfl)) ?_
    refine d_gD rfl rfl rfl rfl (decide_eq_true (by omega)) ?_
    refine zE (yn (u:=.int .i64 (y)) rfl ty22 rfl rfl (by omega) (by simp[hy]) cl3 (zB rfl)) ?_
    refine zAs [(1,.lst .ro 1 (zD L)),(2,.int .i64 ↑i),(3,.lst .ro 1 (zD bits)),(4,U.box 0 0),(9,U.box 1 0),(10,.int .i64 now),(11,U.lst kd 1 (zD A)),(12,.int .i64 ↑n),(13,.int .i64 ↑q),(46,.int .i64 ↑q),(47,U.bool (decide ((0:Int)< ↑q))),(49,U.bool (decide ((0:Int)< ↑q))),(50,.lst .ro 1 (zD L)),(51,.int .i64 ↑q),(52,U.eref [.int .i64 x] 0),(53,.int .i64 x),(54,.lst .ro 1 (zD L)),(55,.int .i64 ↑q),(56,.int .i64 (↑q - (1:Int))),(57,U.eref [.int .i64 y] 0)] [] ([SB.box [.int .i64 (Bk.parts b),.int .i64 (Bk.size b),.lst .ro 1 (zD (Bk.beats b)),.int .i64 (Bk.start b),.int .i64 (Bk.fin b),.int .i64 (Bk.tlo b),.int .i64 (Bk.thi b),.int .i64 (Bk.slo b),.int .i64 (Bk.shi b),.int .i64 (Bk.notice b),.lst .ro 3 (plsU (Bk.players b))],SB.box (Pl.cs p)]) (.c4 rfl rfl rfl rfl (.c4 rfl rfl rfl rfl (.c4 rfl rfl rfl rfl (.c4 rfl rfl rfl rfl (.c4 rfl rfl rfl rfl (.nil rfl)))))) rfl rfl fun fr=>?_
    refine d_gD rfl rfl rfl rfl (decide_eq_true (by omega)) ?_
    refine zAs [(1,.lst .ro 1 (zD L)),(2,.int .i64 ↑i),(3,.lst .ro 1 (zD bits)),(4,U.box 0 0),(9,U.box 1 0),(10,.int .i64 now),(11,U.lst kd 1 (zD A)),(12,.int .i64 ↑n),(13,.int .i64 ↑q),(46,.int .i64 ↑q),(47,U.bool (decide ((0:Int)< ↑q))),(49,U.bool (decide ((0:Int)< ↑q))),(50,.lst .ro 1 (zD L)),(51,.int .i64 ↑q),(52,U.eref [.int .i64 x] 0),(53,.int .i64 x),(54,.lst .ro 1 (zD L)),(55,.int .i64 ↑q),(56,.int .i64 (↑q - (1:Int))),(57,U.eref [.int .i64 y] 0)] [] ([SB.box [.int .i64 (Bk.parts b),.int .i64 (Bk.size b),.lst .ro 1 (zD (Bk.beats b)),.int .i64 (Bk.start b),.int .i64 (Bk.fin b),.int .i64 (Bk.tlo b),.int .i64 (Bk.thi b),.int .i64 (Bk.slo b),.int .i64 (Bk.shi b),.int .i64 (Bk.notice b),.lst .ro 3 (plsU (Bk.players b))],SB.box (Pl.cs p)]) (.c4 rfl rfl rfl rfl (.c4 rfl rfl rfl rfl (.c4 rfl rfl rfl rfl (.c4 rfl rfl rfl rfl (.c4 rfl rfl rfl rfl (.nil rfl)))))) rfl rfl fun fr=>?_
    refine yI rfl (zk rfl rfl sh3 rfl (zB rfl)) ?_
    refine d_gD rfl rfl rfl rfl (decide_eq_true (by omega)) ?_
    refine zE (zCA rfl rfl rfl (zB rfl)) ?_
    refine zE (zY rfl rfl (decide_eq_true (by omega)) (zB rfl)) ?_
    refine zBK ?_
    refine zM [(1,.lst .ro 1 (zD L)),(2,.int .i64 ↑i),(3,.lst .ro 1 (zD bits)),(4,U.box 0 0),(9,U.box 1 0),(10,.int .i64 now),(11,U.lst kd 1 (zD A)),(12,.int .i64 ↑n),(13,.int .i64 ↑q),(46,.int .i64 ↑q),(47,U.bool (decide ((0:Int)< ↑q))),(50,.lst .ro 1 (zD L)),(51,.int .i64 ↑q),(52,U.eref [.int .i64 x] 0),(53,.int .i64 x),(54,.lst .ro 1 (zD L)),(55,.int .i64 ↑q),(56,.int .i64 (↑q - (1:Int))),(57,U.eref [.int .i64 y] 0),(58,.int .i64 y),(59,U.bool (decide (x≠y))),(60,U.bool (decide (x≠y)))] ([SB.box [.int .i64 (Bk.parts b),.int .i64 (Bk.size b),.lst .ro 1 (zD (Bk.beats b)),.int .i64 (Bk.start b),.int .i64 (Bk.fin b),.int .i64 (Bk.tlo b),.int .i64 (Bk.thi b),.int .i64 (Bk.slo b),.int .i64 (Bk.shi b),.int .i64 (Bk.notice b),.lst .ro 3 (plsU (Bk.players b))],SB.box (Pl.cs p)]) (.c4 rfl rfl rfl rfl (.c4 rfl rfl rfl rfl (.c4 rfl rfl rfl rfl (.c4 rfl rfl rfl rfl (.c4 rfl rfl rfl rfl (.cons rfl (.cons rfl (.nil rfl)))))))) rfl fun fr=>?_
    refine k_cF rfl (decide_eq_false (by omega)) (zU ?_)
    exact⟨rfl,rfl,.c4 rfl rfl rfl rfl (.cons rfl (.cons (by rw[hsD,Int.add_zero];rfl) (.cons rfl (.cons rfl (.cons rfl (.nil rfl))))))⟩
   ·rw[if_neg (by rw[hx,hy];rintro(e|e|e);exact c2 e;exact c1 e;exact c3 (Option.some.inj e))]at hsD
    have q53:RetP Tryd.prog is orc 53 [.lst .ro 1 (zD bits),.int .i64 ((n:Int)+i)] (.int .i64 (nthI bits (n+i))):=ret53 hi bits (n+i)
    refine k_seq (wa [.plain,.plain,.plain,.plain,.plain,.plain,.plain,.plain,.plain,.plain,.plain,.plain,.plain,.read true,.plain,.plain,.plain,.plain,.read true,.plain,.plain] (by kernel_rfl) (by kernel_rfl) (by kernel_rfl) ?_)
    refine zE (zA rfl (zB rfl)) (zE (zF rfl rfl ya (zB rfl)) ?_)
    refine zE (zG rfl rfl rfl sh3 rfl (zB rfl)) ?_
    refine zE (zFs rfl rfl rfl (by omega) (zB rfl)) ?_
    refine zE (zBF rfl rfl rfl (zB rfl)) ?_
    refine zE (zA rfl (zB rfl)) (d_gD rfl rfl rfl rfl (decide_eq_true (by omega)) ?_)
    refine zE (zA rfl (zB rfl)) (d_gD rfl rfl rfl rfl (decide_eq_true (by omega)) ?_)
    refine zE (zCj rfl rfl rfl (zB rfl)) ?_
    refine zE (zY rfl rfl (decide_eq_true (by omega)) (zB rfl)) ?_
    refine zAs [(1,.lst .ro 1 (zD L)),(2,.int .i64 ↑i),(3,.lst .ro 1 (zD bits)),(4,U.box 0 0),(9,U.box 1 0),(10,.int .i64 now),(11,U.lst kd 1 (zD A)),(12,.int .i64 ↑n),(13,.int .i64 ↑q),(46,.int .i64 ↑q),(47,U.bool (decide ((0:Int)< ↑q))),(48,U.bool (decide ((0:Int)< ↑q)))] [] ([SB.box [.int .i64 (Bk.parts b),.int .i64 (Bk.size b),.lst .ro 1 (zD (Bk.beats b)),.int .i64 (Bk.start b),.int .i64 (Bk.fin b),.int .i64 (Bk.tlo b),.int .i64 (Bk.thi b),.int .i64 (Bk.slo b),.int .i64 (Bk.shi b),.int .i64 (Bk.notice b),.lst .ro 3 (plsU (Bk.players b))],SB.box (Pl.cs p)]) (.c4 rfl rfl rfl rfl (.c4 rfl rfl rfl rfl (.c4 rfl rfl rfl rfl (.nil rfl)))) rfl rfl fun fr=>?_
    refine zE (zA rfl (zB rfl)) (d_gD rfl rfl rfl rfl (decide_eq_true (by omega)) ?_)
    refine zE (zA rfl (zB rfl)) (d_gD rfl rfl rfl rfl (decide_eq_true (by omega)) ?_)
    refine zE (zA rfl (zB rfl)) (d_gD rfl rfl rfl rfl (decide_eq_true (by omega)) ?_)
    refine zE (yn (u:=.int .i64 (x)) rfl ty22 rfl rfl (Int.natCast_nonneg _) (by simp[hx]) cl3 (zB rfl)) ?_
    refine d_gD rfl rfl rfl rfl (decide_eq_true (by omega)) ?_
    refine yI rfl (zk rfl rfl sh3 rfl (zB rfl)) ?_
    refine d_gD rfl rfl rfl rfl (decide_eq_true (by omega)) ?_
    refine zE (zA rfl (zB rfl)) (d_gD rfl rfl rfl rfl (decide_eq_true (by omega)) ?_)
    refine zE (zA rfl (zB rfl)) (d_gD rfl rfl rfl rfl (decide_eq_true (by omega)) ?_)
    refine zE (zCi rfl rfl rfl (by unfold I64;omega) (zB rfl)) ?_
    refine d_gD rfl rfl rfl rfl (decide_eq_true (by omega)) ?_
    refine zE (yn (u:=.int .i64 (y)) rfl ty22 rfl rfl (by omega) (by simp[hy]) cl3 (zB rfl)) ?_
    refine zAs [(1,.lst .ro 1 (zD L)),(2,.int .i64 ↑i),(3,.lst .ro 1 (zD bits)),(4,U.box 0 0),(9,U.box 1 0),(10,.int .i64 now),(11,U.lst kd 1 (zD A)),(12,.int .i64 ↑n),(13,.int .i64 ↑q),(46,.int .i64 ↑q),(47,U.bool (decide ((0:Int)< ↑q))),(49,U.bool (decide ((0:Int)< ↑q))),(50,.lst .ro 1 (zD L)),(51,.int .i64 ↑q),(52,U.eref [.int .i64 x] 0),(53,.int .i64 x),(54,.lst .ro 1 (zD L)),(55,.int .i64 ↑q),(56,.int .i64 (↑q - (1:Int))),(57,U.eref [.int .i64 y] 0)] [] ([SB.box [.int .i64 (Bk.parts b),.int .i64 (Bk.size b),.lst .ro 1 (zD (Bk.beats b)),.int .i64 (Bk.start b),.int .i64 (Bk.fin b),.int .i64 (Bk.tlo b),.int .i64 (Bk.thi b),.int .i64 (Bk.slo b),.int .i64 (Bk.shi b),.int .i64 (Bk.notice b),.lst .ro 3 (plsU (Bk.players b))],SB.box (Pl.cs p)]) (.c4 rfl rfl rfl rfl (.c4 rfl rfl rfl rfl (.c4 rfl rfl rfl rfl (.c4 rfl rfl rfl rfl (.c4 rfl rfl rfl rfl (.nil rfl)))))) rfl rfl fun fr=>?_
    refine d_gD rfl rfl rfl rfl (decide_eq_true (by omega)) ?_
    refine zAs [(1,.lst .ro 1 (zD L)),(2,.int .i64 ↑i),(3,.lst .ro 1 (zD bits)),(4,U.box 0 0),(9,U.box 1 0),(10,.int .i64 now),(11,U.lst kd 1 (zD A)),(12,.int .i64 ↑n),(13,.int .i64 ↑q),(46,.int .i64 ↑q),(47,U.bool (decide ((0:Int)< ↑q))),(49,U.bool (decide ((0:Int)< ↑q))),(50,.lst .ro 1 (zD L)),(51,.int .i64 ↑q),(52,U.eref [.int .i64 x] 0),(53,.int .i64 x),(54,.lst .ro 1 (zD L)),(55,.int .i64 ↑q),(56,.int .i64 (↑q - (1:Int))),(57,U.eref [.int .i64 y] 0)] [] ([SB.box [.int .i64 (Bk.parts b),.int .i64 (Bk.size b),.lst .ro 1 (zD (Bk.beats b)),.int .i64 (Bk.start b),.int .i64 (Bk.fin b),.int .i64 (Bk.tlo b),.int .i64 (Bk.thi b),.int .i64 (Bk.slo b),.int .i64 (Bk.shi b),.int .i64 (Bk.notice b),.lst .ro 3 (plsU (Bk.players b))],SB.box (Pl.cs p)]) (.c4 rfl rfl rfl rfl (.c4 rfl rfl rfl rfl (.c4 rfl rfl rfl rfl (.c4 rfl rfl rfl rfl (.c4 rfl rfl rfl rfl (.nil rfl)))))) rfl rfl fun fr=>?_
    refine yI rfl (zk rfl rfl sh3 rfl (zB rfl)) ?_
    refine d_gD rfl rfl rfl rfl (decide_eq_true (by omega)) ?_
    refine zE (zCA rfl rfl rfl (zB rfl)) ?_
    refine zE (zY rfl rfl (decide_eq_true (by omega)) (zB rfl)) ?_
    refine zBK ?_
    refine zM [(1,.lst .ro 1 (zD L)),(2,.int .i64 ↑i),(3,.lst .ro 1 (zD bits)),(4,U.box 0 0),(9,U.box 1 0),(10,.int .i64 now),(11,U.lst kd 1 (zD A)),(12,.int .i64 ↑n),(13,.int .i64 ↑q),(46,.int .i64 ↑q),(47,U.bool (decide ((0:Int)< ↑q))),(50,.lst .ro 1 (zD L)),(51,.int .i64 ↑q),(52,U.eref [.int .i64 x] 0),(53,.int .i64 x),(54,.lst .ro 1 (zD L)),(55,.int .i64 ↑q),(56,.int .i64 (↑q - (1:Int))),(57,U.eref [.int .i64 y] 0),(58,.int .i64 y),(59,U.bool (decide (x≠y))),(60,U.bool (decide (x≠y)))] ([SB.box [.int .i64 (Bk.parts b),.int .i64 (Bk.size b),.lst .ro 1 (zD (Bk.beats b)),.int .i64 (Bk.start b),.int .i64 (Bk.fin b),.int .i64 (Bk.tlo b),.int .i64 (Bk.thi b),.int .i64 (Bk.slo b),.int .i64 (Bk.shi b),.int .i64 (Bk.notice b),.lst .ro 3 (plsU (Bk.players b))],SB.box (Pl.cs p)]) (.c4 rfl rfl rfl rfl (.c4 rfl rfl rfl rfl (.c4 rfl rfl rfl rfl (.c4 rfl rfl rfl rfl (.c4 rfl rfl rfl rfl (.cons rfl (.cons rfl (.nil rfl)))))))) rfl fun fr=>?_
    refine k_cT rfl (decide_eq_true (by omega)) (wa [.plain,.plain,.read true,.plain,.plain,.plain,.plain,.read false,.plain,.plain,.plain] (by kernel_rfl) (by kernel_rfl) (by kernel_rfl) ?_)
    refine zE (zA rfl (zB rfl)) (zE (zF rfl rfl fld27_6 (zB rfl)) ?_)
    refine yI rfl (zO rfl rfl rfl sh24 rfl (zB rfl)) ?_
    refine zE (zA rfl (zB rfl)) (zE (zA rfl (zB rfl)) (zE (zA rfl (zB rfl)) ?_))
    refine zE (yw rfl rfl rfl (by unfold I64;omega) (zB rfl)) ?_
    refine zBj rfl (q53) (.int _ _) (.lrefl _) ?_
    refine zE (zR rfl (ret88 hi b.slo b.shi (nthI bits (n+i)) (by omega) (by omega)) (.lrefl _) (zB rfl)) ?_
    refine zE (yw rfl rfl rfl (by unfold I64;omega) (zB rfl)) ?_
    refine zE (zC rfl (zB rfl)) ?_
    refine zBK ?_
    exact⟨rfl,rfl,.c4 rfl rfl rfl rfl (.cons rfl (.cons (by rw[hsD];rfl) (.cons rfl (.cons rfl (.cons rfl (.nil rfl))))))⟩
  obtain⟨hst4,hs4⟩:=hM
  have q53:RetP Tryd.prog is orc 53 [.lst .ro 1 (zD bits),.int .i64 ((n:Int)+2*i+1)] (.int .i64 (nthI bits (n+2*i+1))):=by
   have:=ret53 (orc:=orc) hi bits (n+2*i+1)
   rw[show((n+2*i+1:Nat):Int)=(n:Int)+2*i+1 by omega]at this;exact this
  have q88:=ret88 (orc:=orc) hi c.a c.b (nthI bits (n+2*i+1)) (by omega) (by omega)
  rw[eca]at etr
  generalize zAr c.a c.b (nthI bits (n+2*i+1))=ca at*
  refine zM _ _ hs4 hst4 fun fr4=>?_
  refine k_seq (wa [.plain,.plain,.read true,.plain,.plain,.plain,.read true,.plain,.read true,.plain,.plain,.plain,.plain,.plain,.plain,.read false,.plain,.plain,.plain,.plain] (by kernel_rfl) (by kernel_rfl) (by kernel_rfl) ?_)
  refine zE (zA rfl (zB rfl)) (zE (zF rfl rfl zBg (zB rfl)) ?_)
  refine yI rfl (zG rfl rfl rfl sh66 rfl (zB rfl)) (zE (zA rfl (zB rfl)) (zE (zA rfl (zB rfl)) (zE (yn (u:=.int .i64 (x)) rfl ty22 rfl rfl (Int.natCast_nonneg _) (by simp[hx]) cl3 (zB rfl)) ?_)))
  refine yI rfl (zk rfl rfl sh3 rfl (zB rfl)) ?_
  refine zE (yn (u:=(c).u) rfl ty66 rfl rfl (by omega) (by simp[hc1]) cl24 (zB rfl)) ?_
  refine yI rfl (wd rfl rfl sh24 rfl (zB rfl)) ?_
  refine zAs [(1,.lst .ro 1 (zD L)),(2,.int .i64 ↑i),(3,.lst .ro 1 (zD bits)),(4,U.box 0 0),(9,U.box 1 0),(11,U.lst kd 1 (zD A)),(12,.int .i64 ↑n),(71,.int .i64 (now+sl)),(79,U.agg [.int .i64 c.a,.int .i64 c.b])] [] ([SB.box [.int .i64 (Bk.parts b),.int .i64 (Bk.size b),.lst .ro 1 (zD (Bk.beats b)),.int .i64 (Bk.start b),.int .i64 (Bk.fin b),.int .i64 (Bk.tlo b),.int .i64 (Bk.thi b),.int .i64 (Bk.slo b),.int .i64 (Bk.shi b),.int .i64 (Bk.notice b),.lst .ro 3 (plsU (Bk.players b))],SB.box (Pl.cs p)]) (.c4 rfl rfl rfl rfl (.c4 rfl rfl rfl rfl (.cons rfl (.nil rfl)))) rfl rfl fun fr=>?_
  refine zE (zA rfl (zB rfl)) (zE (zA rfl (zB rfl)) (zE (zA rfl (zB rfl)) ?_))
  refine zE (o_mul rfl rfl rfl (by unfold I64;omega) (zB rfl)) ?_
  refine zE (yw rfl rfl rfl (by unfold I64;omega) (zB rfl)) ?_
  refine zE (yw rfl rfl rfl (by unfold I64;omega) (zB rfl)) ?_
  refine zBj rfl (q53) (.int _ _) (.lrefl _) ?_
  refine zE (zR rfl (q88) (.lrefl _) (zB rfl)) ?_
  refine zE (zCi rfl rfl rfl (by unfold I64;omega) (zB rfl)) ?_
  refine zAs [(1,.lst .ro 1 (zD L)),(2,.int .i64 ↑i),(3,.lst .ro 1 (zD bits)),(4,U.box 0 0),(9,U.box 1 0),(11,U.lst kd 1 (zD A)),(12,.int .i64 ↑n),(88,.int .i64 (now+sl - ca))] [] ([SB.box [.int .i64 (Bk.parts b),.int .i64 (Bk.size b),.lst .ro 1 (zD (Bk.beats b)),.int .i64 (Bk.start b),.int .i64 (Bk.fin b),.int .i64 (Bk.tlo b),.int .i64 (Bk.thi b),.int .i64 (Bk.slo b),.int .i64 (Bk.shi b),.int .i64 (Bk.notice b),.lst .ro 3 (plsU (Bk.players b))],SB.box (Pl.cs p)]) (.c4 rfl rfl rfl rfl (.c4 rfl rfl rfl rfl (.nil rfl))) rfl rfl fun fr=>?_
  refine zE (o_max rfl rfl rfl (zB rfl)) ?_
  refine zE (zC rfl (zB rfl)) ?_
  refine zBK ?_
  refine zM [(1,.lst .ro 1 (zD L)),(2,.int .i64 ↑i),(3,.lst .ro 1 (zD bits)),(4,U.box 0 0),(9,U.box 1 0),(10,.int .i64 (Max.max (0:Int) (now+sl - ca))),(11,U.lst kd 1 (zD A)),(12,.int .i64 ↑n)] ([SB.box [.int .i64 (Bk.parts b),.int .i64 (Bk.size b),.lst .ro 1 (zD (Bk.beats b)),.int .i64 (Bk.start b),.int .i64 (Bk.fin b),.int .i64 (Bk.tlo b),.int .i64 (Bk.thi b),.int .i64 (Bk.slo b),.int .i64 (Bk.shi b),.int .i64 (Bk.notice b),.lst .ro 3 (plsU (Bk.players b))],SB.box (Pl.cs p)]) (.c4 rfl rfl rfl rfl (.c4 rfl rfl rfl rfl (.nil rfl))) rfl fun fr=>?_
  refine k_region (zA rfl (zA rfl (zBc (es:=[.int .i64 (Max.max (0:Int) (now+sl - ca))]) rfl ty22 ze3 cl3 rfl rfl rfl rfl rfl rfl rfl rfl ?_)))
  rcases hkd with rfl|rfl
  ·refine zFQ rfl zEE rfl rfl (by simp) (by simp) (by simp[yV,yB,oneU]) (by simp;omega) ?_
   refine zC rfl (zB (k_region (zA rfl ?_)))
   refine yw rfl rfl rfl (by unfold I64;omega) (zC rfl (zB ?_))
   refine⟨kk - 1,by omega,n+1,.own,by omega,.inr rfl,rfl,.c4 rfl rfl rfl rfl (.cons rfl (.cons (by rw[etr];rfl) (.cons (by rw[hsu,etr];simp[zD];rfl) (.cons rfl (.nil rfl)))))⟩
  ·refine zFP 11 rfl zEE rfl rfl rfl (by simp) (by simp) (by simp[yV,yB,oneU]) (by simp at hlen ⊢;omega) ?_
   refine zC rfl (zB (k_region (zA rfl ?_)))
   refine yw rfl rfl rfl (by unfold I64;omega) (zC rfl (zB ?_))
   refine⟨kk - 1,by omega,n+1,.own,by omega,.inr rfl,rfl,.c4 rfl rfl rfl rfl (.cons rfl (.cons (by rw[etr];rfl) (.cons (by rw[hsu,etr];simp[zD];rfl) (.cons rfl (.nil rfl)))))⟩
 ·have hie:(b.parts*b.size).toNat=n:=by omega
  rw[hie]
  refine zM _ _ hs2 hst2 fun fr2=>?_
  rcases hkd with rfl|rfl
  ·refine k_seq ?_
   refine kQ (zA rfl (zF rfl rfl wz (zG rfl rfl rfl sh3 rfl (zF rfl rfl ya (zG rfl rfl rfl sh3 rfl ?_)))))
   refine o_mul rfl rfl rfl (by unfold I64;omega) ?_
   refine zu rfl rfl rfl (zB (k_cF rfl (decide_eq_false (by omega)) (yr (kQ (zA rfl (zC rfl (zB (zd ?_))))))))
   refine⟨.inr rfl,_,.cons _ _ _ _ (.tmp 8) .nil,?_⟩
   exact .ro _ _ _
  ·refine k_seq ?_
   refine kQ (zA rfl (zF rfl rfl wz (zG rfl rfl rfl sh3 rfl (zF rfl rfl ya (zG rfl rfl rfl sh3 rfl ?_)))))
   refine o_mul rfl rfl rfl (by unfold I64;omega) ?_
   refine zu rfl rfl rfl (zB (k_cF rfl (decide_eq_false (by omega)) (yr (kQ (zA rfl (zC rfl (zB (zd ?_))))))))
   refine⟨.inr rfl,_,.cons _ _ _ _ (.tmp 8) .nil,?_⟩
   exact .refl _
end Go.Proofs.YtfbmlibilcjlgaaDoor.drumTrue
