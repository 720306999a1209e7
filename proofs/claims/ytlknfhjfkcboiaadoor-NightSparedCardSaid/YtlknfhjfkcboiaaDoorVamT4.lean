import Derived.Test.YtlknfhjfkcboiaaDoorVamT3
set_option linter.unusedVariables false
set_option linter.unusedSimpArgs false
set_option linter.constructorNameAsVariable false
namespace Go.Proofs.YtlknfhjfkcboiaaDoor.night
open Vam
section
variable {is:FuncId→Bool}{orc:Known}
noncomputable def b93:Code:=(Tryd.f93.body).getD .skip
theorem body93:bodyOf Tryd.prog 93=some (17,b93,[.tmp 2]):=by kernel_rfl
theorem pure93:pureFn Tryd.prog 93=true:=by kernel_rfl
theorem wD:zo Tryd.prog 70 0=some (0,25):=by kernel_rfl
theorem ty83:tyOf Tryd.prog 83=.slice 3:=by kernel_rfl
noncomputable def b72:Code:=(Tryd.f72.body).getD .skip
theorem body72:bodyOf Tryd.prog 72=some (27,b72,[.tmp 4]):=by kernel_rfl
theorem pure72:pureFn Tryd.prog 72=true:=by kernel_rfl
def sumI:List Int→Int
 |[]=>0
 |x::l=>x+sumI l
theorem sum_app:∀(l m:List Int),sumI (l++m)=sumI l+sumI m:=by
 intro l m
 induction l with
 |nil=>simp[sumI]
 |cons x l ih=>show x+sumI (l++m)=x+sumI l+sumI m;rw[ih];omega
theorem sum_take{l:List Int}{i:Nat}{x:Int}(h:l[i]? =some x):sumI (l.take (i+1))=sumI (l.take i)+x:=by
 rw[List.take_add_one,h,sum_app]
 show _+(x+0)=_
 omega
theorem sum_b{l:List Int}{B:Int}(hB:0≤B)(h:∀x∈l, -B≤x∧x≤B): -(B*l.length)≤sumI l∧sumI l≤B*l.length:=by
 induction l with
 |nil=>simp[sumI]
 |cons x l ih=>
  have h1:=h x List.mem_cons_self
  have h2:=ih fun y hy=>h y (List.mem_cons_of_mem _ hy)
  have e:B*((x::l).length:Int)=B*l.length+B:=by rw[List.length_cons,Int.natCast_add,Int.mul_add];simp
  rw[e]
  show -(B*l.length+B)≤x+sumI l∧x+sumI l≤_
  omega
set_option maxHeartbeats 8000000 in
theorem ret93(hi:Off is){l:List Int}(hl:l.length≤4096)(hb:∀x∈l, -1000000≤x∧x≤1000000):RetP Tryd.prog is orc 93 [.lst .ro 1 (zF l)] (.int .i64 (sumI l)):=by
 refine yC body93 pure93 (hi 93 (by decide)) rfl rfl (zAe (zn 6 .ro (fun h=>by cases h) 1 l)) (.inl (.int _ _ _)) ?_
 refine kQ (zA rfl (zC (kQ (zA rfl (zC (k_seq (kQ (zB rfl ?_))))))))
 refine zp rfl ty22 rfl (List.length_map _) ?_
 refine zB rfl (zC (zQ ?_))
 refine yr (fun kk s2=>∃i:Nat,kk+i=l.length∧s2.st=[]∧Holds s2 [(3,.int .i64 (sumI (l.take i))),(6,.lst .ro 1 (zF l)),(7,.int .i64 l.length),(8,.int .i64 i)]) (fun kk s2 hI=>?_) l.length _ ⟨0,rfl,rfl,.c4 rfl rfl rfl rfl (.nil rfl)⟩
 obtain⟨i,hk,hst2,hs2⟩:=hI
 have hsb:=sum_b (l:=l.take i) (B:=1000000) (by omega) fun x hx=>hb x (List.mem_of_mem_take hx)
 rw[List.length_take]at hsb
 by_cases hin:i<l.length
 ·obtain⟨x,hx⟩:∃x,l[i]? =some x:=⟨l[i],List.getElem?_eq_getElem hin⟩
  have hsu:=sum_take hx
  have hxb:=hb x (List.mem_of_getElem? hx)
  generalize sumI (l.take i)=S at*
  refine zK _ _ hs2 hst2 fun fr2=>?_
  refine kQ (ze rfl rfl rfl (zC (k_seq (k_cT rfl (decide_eq_true (by omega)) (zU (k_seq (zQ (kQ ?_))))))))
  refine yG (u:=.int .i64 (x)) rfl ty22 rfl rfl (Int.natCast_nonneg _) (by simp[hx]) cl3 ?_
  refine zV rfl rfl sh3 rfl ?_
  refine zA rfl (zC (k_region (zB rfl (zB rfl ?_))))
  refine yV rfl rfl rfl (by unfold I64;omega) (zA rfl (zC (k_region ?_)))
  refine yV rfl rfl rfl (by unfold I64;omega) (zB rfl (zC ?_))
  exact⟨kk - 1,by omega,i+1,by omega,rfl,.cons (by rw[hsu];rfl) (.cons rfl (.cons rfl (.cons rfl (.nil rfl))))⟩
 ·have hie:i=l.length:=by omega
  subst hie
  rw[List.take_length]at*
  refine zK _ _ hs2 hst2 fun fr2=>?_
  refine kQ (ze rfl rfl rfl (zC (k_seq (k_cF rfl (decide_eq_false (by omega)) (yf (kQ (zB rfl (zA rfl ?_))))))))
  refine zC (zZ ?_)
  refine⟨.inr rfl,_,.cons _ _ _ _ (.tmp 2) .nil,?_⟩
  exact .refl _
theorem memP_pair(P:Nat→Bool)(n:Nat):(memP P n).Pairwise (fun x y=>x<y):=by
 induction n with
 |zero=>exact List.Pairwise.nil
 |succ n ih=>
  unfold memP
  refine List.pairwise_append.2 ⟨ih,?_,fun x hx y hy=>?_⟩
  ·split
   ·exact List.pairwise_singleton _ _
   ·exact List.Pairwise.nil
  ·obtain⟨i,hi,rfl,_⟩:=mem_memP.1 hx
   split at hy
   ·rcases List.mem_singleton.1 hy with rfl;omega
   ·cases hy
theorem memP_rg{P:Nat→Bool}{n:Nat}{x:Int}(h:x∈memP P n):0≤x∧x<n:=by
 obtain⟨i,hi,rfl,_⟩:=mem_memP.1 h
 omega
def lstI(L:List Int):Nat→Int
 |0=> -1
 |i+1=>(L[i]?).getD 0
theorem lst_lt{L:List Int}(hp:L.Pairwise (fun x y=>x<y))(h0:∀x∈L,0≤x){i:Nat}{x:Int}(hx:L[i]? =some x):lstI L i<x:=by
 cases i with
 |zero=>have:=h0 x (List.mem_of_getElem? hx);show -1<x;omega
 |succ i=>
  obtain⟨h1,h2⟩:=List.getElem?_eq_some_iff.1 hx
  have:=List.pairwise_iff_getElem.1 hp i (i+1) (by omega) h1 (by omega)
  show(L[i]?).getD 0<x
  rw[List.getElem?_eq_getElem (by omega),←h2];exact this
set_option maxHeartbeats 8000000 in
theorem ret43(hi:Off is){L:List Int}{n:Int}(hl:L.length≤4096)(hp:L.Pairwise (fun x y=>x<y))(hr:∀x∈L,0≤x∧x<n):RetP Tryd.prog is orc 43 [.lst .ro 1 (zF L),.int .i64 n] (.bool true):=by
 refine yC body43 pure43 (hi 43 (by decide)) rfl rfl (yh (zn 6 .ro (fun h=>by cases h) 1 L) (.int _ _ _)) (.inl (.bool _ _)) ?_
 refine kQ (zA rfl (zC (kQ (zA rfl (zC (k_seq (kQ (zA rfl ?_))))))))
 refine zC (zQ ?_)
 refine yr (fun kk s2=>∃i:Nat,kk+i=L.length∧s2.st=[]∧Holds s2 [(0,.lst .ro 1 (zF L)),(1,.int .i64 n),(5,.int .i64 (lstI L i)),(6,.int .i64 i)]) (fun kk s2 hI=>?_) L.length _ ⟨0,rfl,rfl,.c4 rfl rfl rfl rfl (.nil rfl)⟩
 obtain⟨i,hk,hst2,hs2⟩:=hI
 refine zK _ _ hs2 hst2 fun fr2=>?_
 by_cases hin:i<L.length
 ·obtain⟨x,hx⟩:∃x,L[i]? =some x:=⟨L[i],List.getElem?_eq_getElem hin⟩
  have h1:=lst_lt hp (fun x h=>(hr x h).1) hx
  have h2:=hr x (List.mem_of_getElem? hx)
  have hn:lstI L (i+1)=x:=by show(L[i]?).getD 0=x;rw[hx];rfl
  generalize lstI L i=q at*
  refine k_seq (kQ (zB rfl (zB rfl (zp rfl ty22 rfl (List.length_map _) ?_))))
  refine ze rfl rfl rfl (zC (k_cT rfl (decide_eq_true (by omega)) (zU (k_seq (zQ (k_seq (kQ (zB rfl ?_))))))))
  refine zB rfl (yG (u:=.int .i64 (x)) rfl ty22 rfl rfl (Int.natCast_nonneg _) (by simp[hx]) cl3 ?_)
  refine zV rfl rfl sh3 rfl ?_
  refine zB rfl (zDF rfl rfl rfl (zB rfl (o_gD rfl rfl rfl rfl (decide_eq_false (by omega)) (zB rfl (o_gD rfl rfl rfl rfl (decide_eq_false (by omega)) (zB rfl ?_))))))
  refine zM [(0,.lst .ro 1 (zF L)),(1,.int .i64 n),(6,.int .i64 ↑i),(19,U.bool (decide (x≤q))),(20,.lst .ro 1 (zF L)),(21,.int .i64 ↑i)] [] ([]) (.c4 rfl rfl rfl rfl (.cons rfl (.cons rfl (.nil rfl)))) rfl rfl fun fr=>?_
  refine o_gD rfl rfl rfl rfl (decide_eq_false (by omega)) ?_
  refine zM [(0,.lst .ro 1 (zF L)),(1,.int .i64 n),(6,.int .i64 ↑i),(19,U.bool (decide (x≤q))),(20,.lst .ro 1 (zF L)),(21,.int .i64 ↑i)] [] ([]) (.c4 rfl rfl rfl rfl (.cons rfl (.cons rfl (.nil rfl)))) rfl rfl fun fr=>?_
  refine yG (u:=.int .i64 (x)) rfl ty22 rfl rfl (Int.natCast_nonneg _) (by simp[hx]) cl3 ?_
  refine o_gD rfl rfl rfl rfl (decide_eq_false (by omega)) (zV rfl rfl sh3 rfl ?_)
  refine o_gD rfl rfl rfl rfl (decide_eq_false (by omega)) (zB rfl (o_gD rfl rfl rfl rfl (decide_eq_false (by omega)) (o_geq rfl rfl rfl (zL rfl rfl (decide_eq_false (by omega)) ?_))))
  refine zC ?_
  refine zK [(0,.lst .ro 1 (zF L)),(1,.int .i64 n),(6,.int .i64 ↑i),(20,.lst .ro 1 (zF L)),(21,.int .i64 ↑i),(22,U.eref [.int .i64 x] 0),(23,.int .i64 x),(24,.int .i64 n),(25,U.bool (decide (n≤x))),(26,U.bool (decide (n≤x)))] ([]) (.c4 rfl rfl rfl rfl (.c4 rfl rfl rfl rfl (.cons rfl (.cons rfl (.nil rfl))))) rfl fun fr=>?_
  refine k_cF rfl (decide_eq_false (by omega)) (zU (k_region (zB rfl (zB rfl (yG (u:=.int .i64 (x)) rfl ty22 rfl rfl (Int.natCast_nonneg _) (by simp[hx]) cl3 ?_)))))
  refine zV rfl rfl sh3 rfl ?_
  refine zA rfl (zC (k_region (zB rfl ?_)))
  refine yV rfl rfl rfl (by unfold I64;omega) (zA rfl (zC ?_))
  exact⟨kk - 1,by omega,i+1,by omega,rfl,.cons rfl (.cons rfl (.cons (by rw[hn];rfl) (.cons rfl (.nil rfl))))⟩
 ·refine k_seq ?_
  refine kQ (zB rfl (zB rfl (zp rfl ty22 rfl (List.length_map _) ?_)))
  refine ze rfl rfl rfl (zC (k_cF rfl (decide_eq_false (by omega)) (yf (kQ (zA rfl (zC (zZ ?_)))))))
  refine⟨.inr rfl,_,.cons _ _ _ _ (.tmp 4) .nil,?_⟩
  exact .refl _
structure Cho(b:Bk)(L:List Int):Prop where
 pw:L.Pairwise (fun x y=>x<y)
 rg:∀x∈L,0≤x∧x<b.scenes.length
 mu:∀x∈L,zEs b x.toNat=false
theorem cho_mem{b:Bk}{P:Nat→Bool}(h:∀i,i<b.scenes.length→P i=true→zEs b i=false):Cho b (memP P b.scenes.length):=by
 refine⟨memP_pair _ _,fun x hx=>memP_rg hx,fun x hx=>?_⟩
 obtain⟨i,h1,rfl,h2⟩:=mem_memP.1 hx
 exact h i h1 h2
theorem pw_len{L:List Int}{n:Nat}(hp:L.Pairwise (fun x y=>x<y))(hr:∀x∈L,0≤x∧x<n):L.length≤n:=by
 have key:∀(i:Nat) (x:Int),L[i]? =some x→(i:Int)≤x:=by
  intro i
  induction i with
  |zero=>intro x hx;exact(hr x (List.mem_of_getElem? hx)).1
  |succ i ih=>
   intro x hx
   have h1:=lst_lt hp (fun x h=>(hr x h).1) hx
   have hl:=(List.getElem?_eq_some_iff.1 hx).1
   have h2:L[i]? =some L[i]:=List.getElem?_eq_getElem (by omega)
   have h3:=ih _ h2
   have h4:lstI L (i+1)=L[i]:=by show(L[i]?).getD 0=_;rw[h2];rfl
   rw[h4]at h1
   omega
 cases h:L.length with
 |zero=>omega
 |succ k=>
  have h2:L[k]? =some (L[k]'(by omega)):=List.getElem?_eq_getElem (by omega)
  have h3:=key k _ h2
  have:=hr _ (List.mem_of_getElem? h2)
  omega
theorem Cho.len{b:Bk}{L:List Int}(h:Cho b L):L.length≤b.scenes.length:=pw_len h.pw h.rg
set_option maxHeartbeats 8000000 in
theorem ret31(hi:Off is){b:Bk}(h:BOk b){L:List Int}(hL:Cho b L):RetP Tryd.prog is orc 31 [b.u,.lst .ro 1 (zF L)] (.bool true):=by
 have hn:=h.sn
 have hl:=hL.len
 have q43:=ret43 (orc:=orc) hi (n:=b.scenes.length) (by omega) hL.pw hL.rg
 refine yC body31 pure31 (hi 31 (by decide)) rfl rfl (yh (zAG b 4) (zn 6 .ro (fun h=>by cases h) 1 L)) (.inl (.bool _ _)) ?_
 refine kQ (yH rfl rfl (zA rfl (zC ?_)))
 refine zK [(1,.lst .ro 1 (zF L)),(2,U.box 0 0)] ([SB.box (Bk.cs b)]) (.cons rfl (.cons rfl (.nil rfl))) rfl fun fr=>?_
 refine kQ (zB rfl (zD rfl rfl yd (zE rfl rfl rfl sh23 rfl (zp rfl ty23 rfl (List.length_map _) ?_))))
 refine zN rfl (q43) (.lrefl _) (zA rfl (zC (k_seq (kQ (zA rfl (zC (zQ ?_)))))))
 refine yr (fun kk s2=>∃i:Nat,kk+i=L.length∧s2.st=[.box (Bk.cs b)]∧Holds s2 [(1,.lst .ro 1 (zF L)),(2,.box 0 0),(5,.bool true),(6,.int .i64 i)]) (fun kk s2 hI=>?_) L.length _ ⟨0,rfl,rfl,.c4 rfl rfl rfl rfl (.nil rfl)⟩
 obtain⟨i,hk,hst2,hs2⟩:=hI
 refine zK _ _ hs2 hst2 fun fr2=>?_
 by_cases hin:i<L.length
 ·obtain⟨x,hx⟩:∃x,L[i]? =some x:=⟨L[i],List.getElem?_eq_getElem hin⟩
  have hr:=hL.rg x (List.mem_of_getElem? hx)
  have hm:=hL.mu x (List.mem_of_getElem? hx)
  obtain⟨q,hq⟩:∃q,b.scenes[x.toNat]? =some q:=⟨b.scenes[x.toNat],List.getElem?_eq_getElem (by omega)⟩
  have hqm:q.must=false:=by unfold zEs at hm;rw[hq]at hm;exact hm
  have k30:(!q.must)=true:=by rw[hqm];rfl
  refine k_seq (kQ (zB rfl (zB rfl (o_gD rfl rfl rfl rfl rfl (zB rfl (o_gD rfl rfl rfl rfl rfl (zB rfl (o_gD rfl rfl rfl rfl rfl ?_))))))))
  refine zp rfl ty22 rfl (List.length_map _) ?_
  refine o_gD rfl rfl rfl rfl rfl (ze rfl rfl rfl (zT rfl rfl rfl ?_))
  refine zC (k_cT rfl (decide_eq_true (by omega)) (zU (k_seq (zQ (zAz [.plain,.read true,.plain,.plain,.plain,.read true,.plain,.plain,.plain,.plain,.plain] (by kernel_rfl) (by kernel_rfl) (by kernel_rfl) ?_)))))
  refine zG (zD rfl rfl yd (zC rfl)) ?_
  refine yM rfl (zE rfl rfl rfl sh23 rfl (zC rfl)) (zG (zB rfl (zC rfl)) (zG (zB rfl (zC rfl)) (zG (yG (u:=.int .i64 (x)) rfl ty22 rfl rfl (Int.natCast_nonneg _) (by simp[hx]) cl3 (zC rfl)) ?_)))
  refine yM rfl (zV rfl rfl sh3 rfl (zC rfl)) ?_
  refine zG (yG (u:=(q).u) rfl ty23 rfl rfl (by omega) (by simp[hq]) cl50 (zC rfl)) ?_
  refine zG (zAl rfl rfl zFu (zC rfl)) ?_
  refine zG (zV rfl rfl sh4 rfl (zC rfl)) ?_
  refine zG (yB rfl rfl (zC rfl)) ?_
  refine zG (zA rfl (zC rfl)) ?_
  refine zCg ?_
  refine k_region (zB rfl ?_)
  refine yV rfl rfl rfl (by unfold I64;omega) (zA rfl (zC ?_))
  exact⟨kk - 1,by omega,i+1,by omega,rfl,.cons rfl (.cons rfl (.cons (by show U.bool (!q.must)=_;rw[k30]) (.cons rfl (.nil rfl))))⟩
 ·refine k_seq ?_
  refine kQ (zB rfl (zB rfl (o_gD rfl rfl rfl rfl rfl (zB rfl (o_gD rfl rfl rfl rfl rfl (zB rfl (o_gD rfl rfl rfl rfl rfl (zp rfl ty22 rfl (List.length_map _) ?_))))))))
  refine o_gD rfl rfl rfl rfl rfl (ze rfl rfl rfl (zT rfl rfl rfl ?_))
  refine zC (k_cF rfl (decide_eq_false (by omega)) (yf (kQ (zB rfl (zA rfl (zC (zZ ?_)))))))
  refine⟨.inr rfl,_,.cons _ _ _ _ (.tmp 4) .nil,?_⟩
  exact .refl _
def wtA(b:Bk)(x:Int):Int:=((b.scenes[x.toNat]?).map Sc.wt).getD 0
def wt(b:Bk)(L:List Int):Int:=sumI (L.map (wtA b))
theorem wt_b{b:Bk}(h:BOk b)(x:Int):0≤wtA b x∧wtA b x≤100:=by
 unfold wtA
 cases hq:b.scenes[x.toNat]? with
 |none=>simp
 |some q=>exact(h.sc _ q hq).2.1
theorem wt_sb{b:Bk}(h:BOk b)(L:List Int): -(100*(L.length:Int))≤wt b L∧wt b L≤100*L.length:=by
 have:=sum_b (l:=L.map (wtA b)) (B:=100) (by omega) fun y hy=>by
  obtain⟨x,_,rfl⟩:=List.mem_map.1 hy
  have:=wt_b h x;omega
 rw[List.length_map]at this
 exact this
theorem wt_take{b:Bk}{L:List Int}{i:Nat}{x:Int}(h:L[i]? =some x):wt b (L.take (i+1))=wt b (L.take i)+wtA b x:=by
 unfold wt
 rw[List.map_take,List.map_take]
 exact sum_take (by rw[List.getElem?_map,h];rfl)
set_option maxHeartbeats 8000000 in
theorem ret32(hi:Off is){b:Bk}(h:BOk b){L:List Int}(hl:L.length≤64)(hr:∀x∈L,0≤x∧x<b.scenes.length):RetP Tryd.prog is orc 32 [b.u,.lst .ro 1 (zF L)] (.int .i64 (wt b L)):=by
 refine yC body32 pure32 (hi 32 (by decide)) rfl rfl (yh (zAG b 4) (zn 6 .ro (fun h=>by cases h) 1 L)) (.inl (.int _ _ _)) ?_
 refine kQ (yH rfl rfl (zA rfl (zC ?_)))
 refine zK [(1,.lst .ro 1 (zF L)),(2,U.box 0 0)] ([SB.box (Bk.cs b)]) (.cons rfl (.cons rfl (.nil rfl))) rfl fun fr=>?_
 refine kQ (zA rfl (zC (k_seq (kQ (zA rfl (zC (zQ ?_)))))))
 refine yr (fun kk s2=>∃i:Nat,kk+i=L.length∧s2.st=[.box (Bk.cs b)]∧Holds s2 [(1,.lst .ro 1 (zF L)),(2,.box 0 0),(5,.int .i64 (wt b (L.take i))),(6,.int .i64 i)]) (fun kk s2 hI=>?_) L.length _ ⟨0,rfl,rfl,.c4 rfl rfl rfl rfl (.nil rfl)⟩
 obtain⟨i,hk,hst2,hs2⟩:=hI
 have hsb:=wt_sb h (L.take i)
 rw[List.length_take]at hsb
 by_cases hin:i<L.length
 ·obtain⟨x,hx⟩:∃x,L[i]? =some x:=⟨L[i],List.getElem?_eq_getElem hin⟩
  have hsu:=wt_take (b:=b) hx
  have hxr:=hr x (List.mem_of_getElem? hx)
  have hxb:=wt_b h x
  obtain⟨q,hq⟩:∃q,b.scenes[x.toNat]? =some q:=⟨b.scenes[x.toNat],List.getElem?_eq_getElem (by omega)⟩
  have hqw:wtA b x=q.wt:=by unfold wtA;rw[hq];rfl
  rw[hqw]at hsu hxb
  generalize wt b (L.take i)=S at*
  refine zK _ _ hs2 hst2 fun fr2=>?_
  refine k_seq (kQ (zB rfl (zB rfl (zp rfl ty22 rfl (List.length_map _) ?_))))
  refine ze rfl rfl rfl (zC (k_cT rfl (decide_eq_true (by omega)) (zU (k_seq (zQ (zAz [.plain,.plain,.read true,.plain,.plain,.plain,.read true,.plain,.plain,.plain,.plain,.plain] (by kernel_rfl) (by kernel_rfl) (by kernel_rfl) ?_))))))
  refine zG (zB rfl (zC rfl)) (zG (zD rfl rfl yd (zC rfl)) ?_)
  refine yM rfl (zE rfl rfl rfl sh23 rfl (zC rfl)) (zG (zB rfl (zC rfl)) (zG (zB rfl (zC rfl)) (zG (yG (u:=.int .i64 (x)) rfl ty22 rfl rfl (Int.natCast_nonneg _) (by simp[hx]) cl3 (zC rfl)) ?_)))
  refine yM rfl (zV rfl rfl sh3 rfl (zC rfl)) ?_
  refine zG (yG (u:=(q).u) rfl ty23 rfl rfl (by omega) (by simp[hq]) cl50 (zC rfl)) ?_
  refine zG (zAl rfl rfl zCe (zC rfl)) ?_
  refine zG (zV rfl rfl sh3 rfl (zC rfl)) ?_
  refine zG (yV rfl rfl rfl (by unfold I64;omega) (zC rfl)) ?_
  refine zG (zA rfl (zC rfl)) ?_
  refine zCg ?_
  refine zK [(1,.lst .ro 1 (zF L)),(2,U.box 0 0),(5,.int .i64 (S+Sc.wt q)),(6,.int .i64 ↑i)] ([SB.box (Bk.cs b)]) (.c4 rfl rfl rfl rfl (.nil rfl)) rfl fun fr=>?_
  refine k_region (zB rfl ?_)
  refine yV rfl rfl rfl (by unfold I64;omega) (zA rfl (zC ?_))
  exact⟨kk - 1,by omega,i+1,by omega,rfl,.cons rfl (.cons rfl (.cons (by rw[hsu];rfl) (.cons rfl (.nil rfl))))⟩
 ·have hie:i=L.length:=by omega
  subst hie
  rw[List.take_length]at*
  refine zK _ _ hs2 hst2 fun fr2=>?_
  refine k_seq (kQ (zB rfl (zB rfl (zp rfl ty22 rfl (List.length_map _) ?_))))
  refine ze rfl rfl rfl (zC (k_cF rfl (decide_eq_false (by omega)) (yf (kQ (zB rfl (zA rfl (zC (zZ ?_))))))))
  refine⟨.inr rfl,_,.cons _ _ _ _ (.tmp 4) .nil,?_⟩
  exact .refl _
set_option maxHeartbeats 8000000 in
theorem ret72(hi:Off is){b:Bk}(h:BOk b){L:List Int}(hl:L.length≤64)(hr:∀x∈L,0≤x∧x<b.scenes.length):RetP Tryd.prog is orc 72 [b.u,.lst .ro 1 (zF L)] (.int .i64 (wt b L)):=by
 refine yC body72 pure72 (hi 72 (by decide)) rfl rfl (yh (zAG b 4) (zn 6 .ro (fun h=>by cases h) 1 L)) (.inl (.int _ _ _)) ?_
 refine kQ (yH rfl rfl (zA rfl (zC ?_)))
 refine zK [(1,.lst .ro 1 (zF L)),(2,U.box 0 0)] ([SB.box (Bk.cs b)]) (.cons rfl (.cons rfl (.nil rfl))) rfl fun fr=>?_
 refine kQ (zA rfl (zC (k_seq (kQ (zB rfl (zp rfl ty83 rfl (List.length_map _) ?_))))))
 refine zB rfl (zC (zQ ?_))
 refine yr (fun kk s2=>∃i:Nat,kk+i=L.length∧s2.st=[.box (Bk.cs b)]∧Holds s2 [(2,.box 0 0),(5,accI ((L.take i).map (wtA b))),(8,.lst .ro 1 (zF L)),(9,.int .i64 L.length),(10,.int .i64 i)]) (fun kk s2 hI=>?_) L.length _ ⟨0,rfl,rfl,.c4 rfl rfl rfl rfl (.cons rfl (.nil rfl))⟩
 obtain⟨i,hk,hst2,hs2⟩:=hI
 by_cases hin:i<L.length
 ·obtain⟨x,hx⟩:∃x,L[i]? =some x:=⟨L[i],List.getElem?_eq_getElem hin⟩
  have hxr:=hr x (List.mem_of_getElem? hx)
  obtain⟨q,hq⟩:∃q,b.scenes[x.toNat]? =some q:=⟨b.scenes[x.toNat],List.getElem?_eq_getElem (by omega)⟩
  have hqw:wtA b x=q.wt:=by unfold wtA;rw[hq];rfl
  have hsu:(L.take (i+1)).map (wtA b)=(L.take i).map (wtA b)++[q.wt]:=by rw[List.take_add_one,hx,List.map_append,←hqw];rfl
  have hlen:((L.take i).map (wtA b)).length≤64:=by simp;omega
  generalize (L.take i).map (wtA b)=M at*
  refine zK _ _ hs2 hst2 fun fr2=>?_
  cases M with
  |nil=>
   refine kQ (ze rfl rfl rfl (zC (k_seq (k_cT rfl (decide_eq_true (by omega)) (zU (k_seq (zQ (kQ ?_))))))))
   refine yG (u:=.int .i64 (x)) rfl ty83 rfl rfl (Int.natCast_nonneg _) (by simp[hx]) cl3 ?_
   refine zV rfl rfl sh3 rfl ?_
   refine zA rfl (zC (k_region (zB rfl (zD rfl rfl wD (zD rfl rfl yd (zE rfl rfl rfl sh23 rfl (zB rfl (yG (u:=(q).u) rfl ty23 rfl rfl (by omega) (by simp[hq]) cl50 ?_))))))))
   refine zAl rfl rfl zCe ?_
   refine zV rfl rfl sh3 rfl ?_
   refine zDE (es:=[.int .i64 (Sc.wt q)]) rfl ty22 ze3 cl3 rfl rfl rfl rfl rfl rfl rfl rfl ?_
   refine zCa rfl zEZ rfl rfl (by simp) (by simp) (by simp[yR,zz,oneU]) (by simp) ?_
   refine zA rfl (zC ?_)
   refine zK [(2,U.box 0 0),(5,U.lst Kd.own 1 [.int .i64 (Sc.wt q)]),(8,.lst .ro 1 (zF L)),(9,.int .i64 ↑(List.length L)),(10,.int .i64 ↑i)] ([SB.box (Bk.cs b)]) (.c4 rfl rfl rfl rfl (.cons rfl (.nil rfl))) rfl fun fr=>?_
   refine k_region ?_
   refine yV rfl rfl rfl (by unfold I64;omega) (zB rfl (zC ?_))
   exact⟨kk - 1,by omega,i+1,by omega,rfl,.cons rfl (.cons (by rw[hsu];rfl) (.cons rfl (.cons rfl (.cons rfl (.nil rfl)))))⟩
  |cons y M=>
   refine kQ (ze rfl rfl rfl (zC (k_seq (k_cT rfl (decide_eq_true (by omega)) (zU (k_seq (zQ (kQ ?_))))))))
   refine yG (u:=.int .i64 (x)) rfl ty83 rfl rfl (Int.natCast_nonneg _) (by simp[hx]) cl3 ?_
   refine zV rfl rfl sh3 rfl ?_
   refine zA rfl (zC (k_region (zB rfl (zD rfl rfl wD (zD rfl rfl yd (zE rfl rfl rfl sh23 rfl (zB rfl (yG (u:=(q).u) rfl ty23 rfl rfl (by omega) (by simp[hq]) cl50 ?_))))))))
   refine zAl rfl rfl zCe ?_
   refine zV rfl rfl sh3 rfl ?_
   refine zDE (es:=[.int .i64 (Sc.wt q)]) rfl ty22 ze3 cl3 rfl rfl rfl rfl rfl rfl rfl rfl ?_
   refine zCZ 5 rfl zEZ rfl rfl rfl (by simp) (by simp) (by simp[yR,zz,oneU]) (by simp at hlen ⊢;omega) ?_
   refine zA rfl (zC (k_region ?_))
   refine yV rfl rfl rfl (by unfold I64;omega) (zB rfl (zC ?_))
   exact⟨kk - 1,by omega,i+1,by omega,rfl,.cons rfl (.cons (by rw[hsu,zCl];rfl) (.cons rfl (.cons rfl (.cons rfl (.nil rfl)))))⟩
 ·have hie:i=L.length:=by omega
  subst hie
  rw[List.take_length]at*
  have q93:=ret93 (orc:=orc) hi (l:=L.map (wtA b)) (by simp;omega) (fun y hy=>by
   obtain⟨x,_,rfl⟩:=List.mem_map.1 hy
   have:=wt_b h x;omega)
  change RetP _ _ _ _ _ (.int .i64 (wt b L))at q93
  have hu:=uw_accI (L.map (wtA b))
  generalize L.map (wtA b)=M at*
  refine zK _ _ hs2 hst2 fun fr2=>?_
  cases M with
  |nil=>
   refine kQ (ze rfl rfl rfl (zC (k_seq (k_cF rfl (decide_eq_false (by omega)) (yf (kQ (zB rfl (zN rfl (q93) (.lcons _ _ _ _ (.nil _ _ _) (.lrefl _)) ?_))))))))
   refine zA rfl (zC (zZ ?_))
   refine⟨.inr rfl,_,.cons _ _ _ _ (.tmp 4) .nil,?_⟩
   exact .refl _
  |cons y M=>
   refine kQ (ze rfl rfl rfl (zC (k_seq (k_cF rfl (decide_eq_false (by omega)) (yf (kQ (zB rfl (zN rfl (q93) (.lrefl _) ?_))))))))
   refine zA rfl (zC (zZ ?_))
   refine⟨.inr rfl,_,.cons _ _ _ _ (.tmp 4) .nil,?_⟩
   exact .refl _
end
section
variable {is:FuncId→Bool}{orc:Known}
noncomputable def b111:Code:=(Tryd.f111.body).getD .skip
theorem body111:bodyOf Tryd.prog 111=some (6,b111,[.tmp 2]):=by kernel_rfl
theorem pure111:pureFn Tryd.prog 111=true:=by kernel_rfl
noncomputable def b100:Code:=(Tryd.f100.body).getD .skip
theorem body100:bodyOf Tryd.prog 100=some (20,b100,[.tmp 4]):=by kernel_rfl
theorem pure100:pureFn Tryd.prog 100=true:=by kernel_rfl
noncomputable def b101:Code:=(Tryd.f101.body).getD .skip
theorem body101:bodyOf Tryd.prog 101=some (36,b101,[.tmp 4]):=by kernel_rfl
theorem pure101:pureFn Tryd.prog 101=true:=by kernel_rfl
noncomputable def b99:Code:=(Tryd.f99.body).getD .skip
theorem body99:bodyOf Tryd.prog 99=some (18,b99,[.tmp 2]):=by kernel_rfl
theorem pure99:pureFn Tryd.prog 99=true:=by kernel_rfl
theorem sh70:shOf Tryd.prog 70=.many 10:=by kernel_rfl
noncomputable def b88:Code:=(Tryd.f88.body).getD .skip
theorem body88:bodyOf Tryd.prog 88=some (25,b88,[.tmp 6]):=by kernel_rfl
theorem pure88:pureFn Tryd.prog 88=true:=by kernel_rfl
noncomputable def b110:Code:=(Tryd.f110.body).getD .skip
theorem body110:bodyOf Tryd.prog 110=some (19,b110,[.tmp 4]):=by kernel_rfl
theorem pure110:pureFn Tryd.prog 110=true:=by kernel_rfl
noncomputable def b98:Code:=(Tryd.f98.body).getD .skip
theorem body98:bodyOf Tryd.prog 98=some (9,b98,[.tmp 4]):=by kernel_rfl
theorem pure98:pureFn Tryd.prog 98=true:=by kernel_rfl
noncomputable def b87:Code:=(Tryd.f87.body).getD .skip
theorem body87:bodyOf Tryd.prog 87=some (8,b87,[.tmp 4]):=by kernel_rfl
theorem pure87:pureFn Tryd.prog 87=true:=by kernel_rfl
def cmpI(a b:Int):Int:=if a<b then -1 else if b<a then 1 else 0
theorem ret111(hi:Off is)(a:Int):RetP Tryd.prog is orc 111 [.int .i64 a] (.bool false):=by
 refine yC body111 pure111 (hi 111 (by decide)) rfl rfl (zAe (.int _ _ _)) (.inl (.bool _ _)) ?_
 have k5:decide (a≠a)=false:=by simp
 refine kQ (zA rfl (zC (kQ (zB rfl (zB rfl (wF rfl rfl rfl (zA rfl (zC ?_))))))))
 refine zZ ?_
 refine⟨.inr rfl,_,.cons _ _ _ _ (.tmp 2) .nil,?_⟩
 show UW (.u (.bool (decide (a≠a)))) _
 rw[k5];exact .refl _
theorem ret100(hi:Off is)(a b:Int):RetP Tryd.prog is orc 100 [.int .i64 a,.int .i64 b] (.int .i64 (cmpI a b)):=by
 have q1:=ret111 (orc:=orc) hi a
 have q2:=ret111 (orc:=orc) hi b
 refine yC body100 pure100 (hi 100 (by decide)) rfl rfl (yh (.int _ _ _) (.int _ _ _)) (.inl (.int _ _ _)) ?_
 unfold cmpI
 by_cases h1:a<b
 ·rw[if_pos h1]
  refine kQ (zA rfl (zC (kQ (zB rfl (zN rfl (q1) (.lrefl _) (zA rfl (zC (kQ ?_))))))))
  refine zB rfl (zN rfl (q2) (.lrefl _) (zA rfl (zC (k_seq (kQ (zB rfl (zC (k_cF rfl rfl ?_))))))))
  refine zU (k_seq (kQ (zB rfl (zC ?_))))
  refine zK [(0,.int .i64 a),(1,.int .i64 b),(13,.bool false)] ([]) (.cons rfl (.cons rfl (.cons rfl (.nil rfl)))) rfl fun fr=>?_
  refine k_cF rfl rfl ?_
  refine zU (k_seq (kQ (zB rfl (zB rfl (ze rfl rfl rfl (zC (k_cT rfl (decide_eq_true (by omega)) (kQ ?_))))))))
  refine zA rfl (zC (zZ ?_))
  refine⟨.inr rfl,_,.cons _ _ _ _ (.tmp 4) .nil,?_⟩
  exact .refl _
 ·rw[if_neg h1]
  by_cases h2:b<a
  ·rw[if_pos h2]
   refine kQ (zA rfl (zC (kQ (zB rfl (zN rfl (q1) (.lrefl _) (zA rfl (zC (kQ ?_))))))))
   refine zB rfl (zN rfl (q2) (.lrefl _) (zA rfl (zC (k_seq (kQ (zB rfl (zC (k_cF rfl rfl ?_))))))))
   refine zU (k_seq (kQ (zB rfl (zC ?_))))
   refine zK [(0,.int .i64 a),(1,.int .i64 b),(13,.bool false)] ([]) (.cons rfl (.cons rfl (.cons rfl (.nil rfl)))) rfl fun fr=>?_
   refine k_cF rfl rfl ?_
   refine zU (k_seq (kQ (zB rfl (zB rfl (ze rfl rfl rfl (zC (k_cF rfl (decide_eq_false (by omega)) (zU ?_))))))))
   refine k_seq (kQ (zB rfl (zB rfl (zEq rfl rfl rfl (zC (k_cT rfl (decide_eq_true (by omega)) (kQ (zA rfl ?_))))))))
   refine zC (zZ ?_)
   refine⟨.inr rfl,_,.cons _ _ _ _ (.tmp 4) .nil,?_⟩
   exact .refl _
  ·rw[if_neg h2]
   refine kQ (zA rfl (zC (kQ (zB rfl (zN rfl (q1) (.lrefl _) (zA rfl (zC (kQ ?_))))))))
   refine zB rfl (zN rfl (q2) (.lrefl _) (zA rfl (zC (k_seq (kQ (zB rfl (zC (k_cF rfl rfl ?_))))))))
   refine zU (k_seq (kQ (zB rfl (zC ?_))))
   refine zK [(0,.int .i64 a),(1,.int .i64 b),(13,.bool false)] ([]) (.cons rfl (.cons rfl (.cons rfl (.nil rfl)))) rfl fun fr=>?_
   refine k_cF rfl rfl ?_
   refine zU (k_seq (kQ (zB rfl (zB rfl (ze rfl rfl rfl (zC (k_cF rfl (decide_eq_false (by omega)) (zU ?_))))))))
   refine k_seq (kQ (zB rfl (zB rfl (zEq rfl rfl rfl (zC (k_cF rfl (decide_eq_false (by omega)) (zU (kQ ?_))))))))
   refine zA rfl (zC (zZ ?_))
   refine⟨.inr rfl,_,.cons _ _ _ _ (.tmp 4) .nil,?_⟩
   exact .refl _
def cmpL:List Int→List Int→Int
 |[],[]=>0
 |[],_::_=> -1
 |_::_,[]=>1
 |x::a,y::c=>if x=y then cmpL a c else cmpI x y
theorem cmpL_soon:∀(a c:List Int),decide (cmpL a c<0)=zDP a c:=by
 intro a
 induction a with
 |nil=>intro c;cases c<;>rfl
 |cons x a ih=>
  intro c
  cases c with
  |nil=>rfl
  |cons y c=>
   unfold cmpL zDP
   by_cases e:x=y
   ·rw[if_pos e,if_neg (by simp[e])];exact ih c
   ·rw[if_neg e,if_pos e]
    unfold cmpI
    by_cases h:x<y
    ·rw[if_pos h,decide_eq_true h];rfl
    ·rw[if_neg h,if_pos (by omega),decide_eq_false h];rfl
set_option maxHeartbeats 8000000 in
theorem ret101(hi:Off is)(l m:List Int)(hl:l.length≤4096)(hm:m.length≤4096):RetP Tryd.prog is orc 101 [.lst .ro 1 (zF l),.lst .ro 1 (zF m)] (.int .i64 (cmpL l m)):=by
 refine yC body101 pure101 (hi 101 (by decide)) rfl rfl (yh (zn 6 .ro (fun h=>by cases h) 1 l) (zn 6 .ro (fun h=>by cases h) 1 m)) (.inl (.int _ _ _)) ?_
 generalize hz:cmpL l m=z
 refine kQ (zA rfl (zC (k_seq (kQ (zB rfl (zp rfl ty83 rfl (List.length_map _) ?_))))))
 refine zB rfl (zC (zQ ?_))
 refine yr (fun kk s2=>∃i:Nat,kk+i=l.length∧i≤m.length∧z=cmpL (l.drop i) (m.drop i)∧s2.st=[]∧Holds s2 [(0,.lst .ro 1 (zF l)),(1,.lst .ro 1 (zF m)),(9,.lst .ro 1 (zF l)),(10,.int .i64 l.length),(11,.int .i64 i)]) (fun kk s2 hI=>?_) l.length _ ⟨0,rfl,Nat.zero_le _,hz.symm,rfl,.c4 rfl rfl rfl rfl (.cons rfl (.nil rfl))⟩
 obtain⟨i,hk,him,hw,hst2,hs2⟩:=hI
 clear hz
 refine zK _ _ hs2 hst2 fun fr2=>?_
 by_cases hin:i<l.length
 ·obtain⟨x,hx⟩:∃x,l[i]? =some x:=⟨l[i],List.getElem?_eq_getElem hin⟩
  rw[zDZ hx]at hw
  by_cases hin2:i<m.length
  ·obtain⟨y,hy⟩:∃y,m[i]? =some y:=⟨m[i],List.getElem?_eq_getElem hin2⟩
   rw[zDZ hy]at hw
   have es:cmpL (x::l.drop (i+1)) (y::m.drop (i+1))=if x=y then cmpL (l.drop (i+1)) (m.drop (i+1))else cmpI x y:=rfl
   have q100:=ret100 (orc:=orc) hi x y
   by_cases e:x=y
   ·rw[es,if_pos e]at hw
    have hc:cmpI x y=0:=by unfold cmpI;rw[if_neg (by omega),if_neg (by omega)]
    rw[hc]at q100
    refine kQ (ze rfl rfl rfl (zC (k_seq (k_cT rfl (decide_eq_true (by omega)) (zU (k_seq (zQ (kQ ?_))))))))
    refine zB rfl (yG (u:=.int .i64 (x)) rfl ty83 rfl rfl (Int.natCast_nonneg _) (by simp[hx]) cl3 ?_)
    refine zV rfl rfl sh3 rfl ?_
    refine zA rfl (zA rfl (zC (k_seq (kQ (zB rfl (zB rfl (zp rfl ty83 rfl (List.length_map _) ?_)))))))
    refine o_geq rfl rfl rfl (zC (k_cF rfl (decide_eq_false (by omega)) (zU (kQ (zB rfl (zB rfl (yG (u:=.int .i64 (y)) rfl ty83 rfl rfl (Int.natCast_nonneg _) (by simp[hy]) cl3 ?_)))))))
    refine zV rfl rfl sh3 rfl ?_
    refine zA rfl (zC ?_)
    refine zK [(0,.lst .ro 1 (zF l)),(1,.lst .ro 1 (zF m)),(6,.int .i64 x),(7,.int .i64 y),(9,.lst .ro 1 (zF l)),(10,.int .i64 ↑(List.length l)),(11,.int .i64 ↑i)] ([]) (.c4 rfl rfl rfl rfl (.cons rfl (.cons rfl (.cons rfl (.nil rfl))))) rfl fun fr=>?_
    refine kQ (zB rfl (zB rfl (zN rfl (q100) (.lrefl _) (zA rfl (zC (kQ (zB rfl (wF rfl rfl rfl ?_))))))))
    refine zC (k_cF rfl rfl ?_)
    refine zU (k_region ?_)
    refine yV rfl rfl rfl (by unfold I64;omega) (zB rfl (zC ?_))
    exact⟨kk - 1,by omega,i+1,by omega,by omega,hw,rfl,.c4 rfl rfl rfl rfl (.cons rfl (.nil rfl))⟩
   ·rw[es,if_neg e]at hw
    have hc:cmpI x y≠0:=by unfold cmpI;by_cases h:x<y;rw[if_pos h];decide;rw[if_neg h,if_pos (by omega)];decide
    subst hw
    generalize cmpI x y=c at*
    refine kQ (ze rfl rfl rfl (zC (k_seq (k_cT rfl (decide_eq_true (by omega)) (zU (k_seq (zQ (kQ ?_))))))))
    refine zB rfl (yG (u:=.int .i64 (x)) rfl ty83 rfl rfl (Int.natCast_nonneg _) (by simp[hx]) cl3 ?_)
    refine zV rfl rfl sh3 rfl ?_
    refine zA rfl (zA rfl (zC (k_seq (kQ (zB rfl (zB rfl (zp rfl ty83 rfl (List.length_map _) ?_)))))))
    refine o_geq rfl rfl rfl (zC (k_cF rfl (decide_eq_false (by omega)) (zU (kQ (zB rfl (zB rfl (yG (u:=.int .i64 (y)) rfl ty83 rfl rfl (Int.natCast_nonneg _) (by simp[hy]) cl3 ?_)))))))
    refine zV rfl rfl sh3 rfl ?_
    refine zA rfl (zC ?_)
    refine zK [(0,.lst .ro 1 (zF l)),(1,.lst .ro 1 (zF m)),(6,.int .i64 x),(7,.int .i64 y),(9,.lst .ro 1 (zF l)),(10,.int .i64 ↑(List.length l)),(11,.int .i64 ↑i)] ([]) (.c4 rfl rfl rfl rfl (.cons rfl (.cons rfl (.cons rfl (.nil rfl))))) rfl fun fr=>?_
    refine kQ (zB rfl (zB rfl (zN rfl (q100) (.lrefl _) (zA rfl (zC (kQ (zB rfl (wF rfl rfl rfl ?_))))))))
    refine zC (k_cT rfl (decide_eq_true (by omega)) (kQ (zB rfl (zA rfl (zC (zZ ?_))))))
    refine⟨.inr rfl,_,.cons _ _ _ _ (.tmp 4) .nil,?_⟩
    exact .refl _
  ·have hd:m.drop i=[]:=List.drop_eq_nil_of_le (by omega)
   rw[hd]at hw
   change z=1 at hw
   subst hw
   refine kQ (ze rfl rfl rfl (zC (k_seq (k_cT rfl (decide_eq_true (by omega)) (zU (k_seq (zQ (kQ ?_))))))))
   refine zB rfl (yG (u:=.int .i64 (x)) rfl ty83 rfl rfl (Int.natCast_nonneg _) (by simp[hx]) cl3 ?_)
   refine zV rfl rfl sh3 rfl ?_
   refine zA rfl (zA rfl (zC (k_seq (kQ (zB rfl (zB rfl (zp rfl ty83 rfl (List.length_map _) ?_)))))))
   refine o_geq rfl rfl rfl (zC (k_cT rfl (decide_eq_true (by omega)) (kQ (zA rfl (zC (zZ ?_))))))
   refine⟨.inr rfl,_,.cons _ _ _ _ (.tmp 4) .nil,?_⟩
   exact .refl _
 ·have hie:i=l.length:=by omega
  have hd:l.drop i=[]:=List.drop_eq_nil_of_le (by omega)
  rw[hd]at hw
  by_cases hin2:i<m.length
  ·obtain⟨y,hy⟩:∃y,m[i]? =some y:=⟨m[i],List.getElem?_eq_getElem hin2⟩
   rw[zDZ hy]at hw
   change z= -1 at hw
   subst hw
   refine kQ (ze rfl rfl rfl (zC (k_seq (k_cF rfl (decide_eq_false (by omega)) (yf (k_seq (kQ (zB rfl ?_))))))))
   refine zp rfl ty83 rfl (List.length_map _) ?_
   refine zB rfl (zp rfl ty83 rfl (List.length_map _) ?_)
   refine ze rfl rfl rfl (zC (k_cT rfl (decide_eq_true (by omega)) (kQ (zA rfl (zC (zZ ?_))))))
   refine⟨.inr rfl,_,.cons _ _ _ _ (.tmp 4) .nil,?_⟩
   exact .refl _
  ·have hd2:m.drop i=[]:=List.drop_eq_nil_of_le (by omega)
   rw[hd2]at hw
   change z=0 at hw
   subst hw
   refine kQ (ze rfl rfl rfl (zC (k_seq (k_cF rfl (decide_eq_false (by omega)) (yf (k_seq (kQ (zB rfl ?_))))))))
   refine zp rfl ty83 rfl (List.length_map _) ?_
   refine zB rfl (zp rfl ty83 rfl (List.length_map _) ?_)
   refine ze rfl rfl rfl (zC (k_cF rfl (decide_eq_false (by omega)) (zU (kQ (zA rfl (zC (zZ ?_)))))))
   refine⟨.inr rfl,_,.cons _ _ _ _ (.tmp 4) .nil,?_⟩
   exact .refl _
def orI:List Int→Int
 |[]=>0
 |x::l=>if x≠0 then x else orI l
set_option maxHeartbeats 8000000 in
theorem ret99(hi:Off is)(l:List Int)(hl:l.length≤4096):RetP Tryd.prog is orc 99 [.lst .ro 1 (zF l)] (.int .i64 (orI l)):=by
 refine yC body99 pure99 (hi 99 (by decide)) rfl rfl (zAe (zn 6 .ro (fun h=>by cases h) 1 l)) (.inl (.int _ _ _)) ?_
 generalize hz:orI l=z
 refine kQ (zA rfl (zC (kQ (zA rfl (zC (k_seq (kQ (zB rfl ?_))))))))
 refine zp rfl ty22 rfl (List.length_map _) ?_
 refine zB rfl (zC (zQ ?_))
 refine yr (fun kk s2=>∃i:Nat,kk+i=l.length∧z=orI (l.drop i)∧s2.st=[]∧Holds s2 [(3,.int .i64 0),(6,.lst .ro 1 (zF l)),(7,.int .i64 l.length),(8,.int .i64 i)]) (fun kk s2 hI=>?_) l.length _ ⟨0,rfl,hz.symm,rfl,.c4 rfl rfl rfl rfl (.nil rfl)⟩
 obtain⟨i,hk,hw,hst2,hs2⟩:=hI
 clear hz
 refine zK _ _ hs2 hst2 fun fr2=>?_
 by_cases hin:i<l.length
 ·obtain⟨x,hx⟩:∃x,l[i]? =some x:=⟨l[i],List.getElem?_eq_getElem hin⟩
  rw[zDZ hx]at hw
  have es:orI (x::l.drop (i+1))=if x≠0 then x else orI (l.drop (i+1)):=rfl
  by_cases e:x≠0
  ·rw[es,if_pos e]at hw
   subst hw
   refine kQ (ze rfl rfl rfl (zC (k_seq (k_cT rfl (decide_eq_true (by omega)) (zU (k_seq (zQ (kQ ?_))))))))
   refine yG (u:=.int .i64 (z)) rfl ty22 rfl rfl (Int.natCast_nonneg _) (by simp[hx]) cl3 ?_
   refine zV rfl rfl sh3 rfl ?_
   refine zA rfl (zC (kQ (zB rfl (zB rfl (wF rfl rfl rfl (zC (k_cT rfl (decide_eq_true (by omega)) (kQ ?_))))))))
   refine zB rfl (zA rfl (zC (zZ ?_)))
   refine⟨.inr rfl,_,.cons _ _ _ _ (.tmp 2) .nil,?_⟩
   exact .refl _
  ·rw[es,if_neg e]at hw
   refine kQ (ze rfl rfl rfl (zC (k_seq (k_cT rfl (decide_eq_true (by omega)) (zU (k_seq (zQ (kQ ?_))))))))
   refine yG (u:=.int .i64 (x)) rfl ty22 rfl rfl (Int.natCast_nonneg _) (by simp[hx]) cl3 ?_
   refine zV rfl rfl sh3 rfl ?_
   refine zA rfl (zC (kQ (zB rfl (zB rfl (wF rfl rfl rfl (zC (k_cF rfl (decide_eq_false (by omega)) (zU ?_))))))))
   refine k_region ?_
   refine yV rfl rfl rfl (by unfold I64;omega) (zB rfl (zC ?_))
   exact⟨kk - 1,by omega,i+1,by omega,hw,rfl,.c4 rfl rfl rfl rfl (.nil rfl)⟩
 ·have hd:l.drop i=[]:=List.drop_eq_nil_of_le (by omega)
  rw[hd]at hw
  change z=0 at hw
  subst hw
  refine kQ (ze rfl rfl rfl (zC (k_seq (k_cF rfl (decide_eq_false (by omega)) (yf (kQ (zB rfl (zA rfl ?_))))))))
  refine zC (zZ ?_)
  refine⟨.inr rfl,_,.cons _ _ _ _ (.tmp 2) .nil,?_⟩
  exact .refl _
theorem or_lt(w:List Int→Int)(a c:List Int):decide (orI [cmpI (w a) (w c),cmpI a.length c.length,cmpL a c]<0)=ltB w a c:=by
 unfold ltB orI orI orI cmpI
 rw[←cmpL_soon a c]
 generalize cmpL a c=z
 generalize w a=x
 generalize w c=y
 by_cases h1:x<y
 ·rw[if_pos h1,if_pos (by decide),decide_eq_true h1];rfl
 ·rw[if_neg h1,decide_eq_false h1,Bool.false_or]
  by_cases h2:y<x
  ·rw[if_pos h2,if_pos (by decide),decide_eq_false (show ¬ x=y by omega)];rfl
  ·rw[if_neg h2,if_neg (by decide),decide_eq_true (show x=y by omega),Bool.true_and]
   by_cases h3:(a.length:Int)<c.length
   ·rw[if_pos h3,if_pos (by decide),decide_eq_true (show a.length<c.length by omega)];rfl
   ·rw[if_neg h3,decide_eq_false (show ¬ a.length<c.length by omega),Bool.false_or]
    by_cases h4:(c.length:Int)<a.length
    ·rw[if_pos h4,if_pos (by decide),decide_eq_false (show ¬ a.length=c.length by omega)];rfl
    ·rw[if_neg h4,if_neg (by decide),decide_eq_true (show a.length=c.length by omega),Bool.true_and]
     unfold orI
     by_cases h5:z≠0
     ·rw[if_pos h5]
     ·have:z=0:=by omega
      subst this;rfl
set_option maxHeartbeats 8000000 in
theorem ret88(hi:Off is){b:Bk}(h:BOk b){L M:List Int}(hl:L.length≤64)(hr:∀x∈L,0≤x∧x<b.scenes.length)(hl2:M.length≤64)(hr2:∀x∈M,0≤x∧x<b.scenes.length):RetP Tryd.prog is orc 88 [b.u,.lst .ro 1 (zF L),.lst .ro 1 (zF M)] (.bool (ltB (wt b) L M)):=by
 have q1:=ret72 (orc:=orc) hi h hl hr
 have q2:=ret72 (orc:=orc) hi h hl2 hr2
 have q3:=ret100 (orc:=orc) hi (wt b L) (wt b M)
 have q4:=ret100 (orc:=orc) hi L.length M.length
 have q5:=ret101 (orc:=orc) hi L M (by omega) (by omega)
 have q6:=ret99 (orc:=orc) hi [cmpI (wt b L) (wt b M),cmpI L.length M.length,cmpL L M] (by simp)
 rw[←or_lt]
 refine yC body88 pure88 (hi 88 (by decide)) rfl rfl (zEi (zAG b 4) (zn 6 .ro (fun h=>by cases h) 1 L) (zn 6 .ro (fun h=>by cases h) 1 M)) (.inl (.bool _ _)) ?_
 generalize orI [cmpI (wt b L) (wt b M),cmpI L.length M.length,cmpL L M]=o at*
 refine kQ (yH rfl rfl (zA rfl (zC ?_)))
 refine zK [(1,.lst .ro 1 (zF L)),(2,.lst .ro 1 (zF M)),(3,U.box 0 0)] ([SB.box (Bk.cs b)]) (.cons rfl (.cons rfl (.cons rfl (.nil rfl)))) rfl fun fr=>?_
 refine k_seq (zAz [.read true,.plain,.read false,.read true,.plain,.read false,.read false,.plain,.read true,.plain,.read true,.plain,.plain,.plain,.plain,.plain,.plain,.plain,.plain] (by kernel_rfl) (by kernel_rfl) (by kernel_rfl) ?_)
 refine yM rfl (zP rfl rfl rfl sh70 rfl (zC rfl)) ?_
 refine zG (zB rfl (zC rfl)) (zBD rfl (q1) (.int _ _) (.lrefl _) ?_)
 refine yM rfl (zP rfl rfl rfl sh70 rfl (zC rfl)) ?_
 refine zG (zB rfl (zC rfl)) (zBD rfl (q2) (.int _ _) (.lrefl _) ?_)
 refine zBD rfl (q3) (.int _ _) (.lrefl _) ?_
 refine zG (zB rfl (zC rfl)) (yM rfl (zp rfl ty83 rfl (List.length_map _) (zC rfl)) ?_)
 refine zBj [(1,.lst .ro 1 (zF L)),(2,.lst .ro 1 (zF M)),(13,.int .i64 (cmpI (wt b L) (wt b M))),(15,.int .i64 ↑(List.length L))] [] ([SB.box (Bk.cs b)]) (.c4 rfl rfl rfl rfl (.nil rfl)) rfl rfl fun fr=>?_
 refine zG (zB rfl (zC rfl)) (yM rfl (zp rfl ty83 rfl (List.length_map _) (zC rfl)) ?_)
 refine zG (zN rfl (q4) (.lrefl _) (zC rfl)) ?_
 refine zG (zB rfl (zC rfl)) (zG (zB rfl (zC rfl)) (zG (zN rfl (q5) (.lrefl _) (zC rfl)) ?_))
 refine zG (zDE (es:=[.int .i64 (cmpI (wt b L) (wt b M)),.int .i64 (cmpI ↑(List.length L) ↑(List.length M)),.int .i64 (cmpL L M)]) rfl ty22 ze3 cl3 rfl rfl rfl rfl rfl rfl rfl rfl (zC rfl)) ?_
 refine zG (zN rfl (q6) (.lcons _ _ _ _ (.ro _ _ _) (.lrefl _)) (zC rfl)) ?_
 refine zG (ze rfl rfl rfl (zC rfl)) ?_
 refine zBj [(24,U.bool (decide (o<(0:Int))))] [] ([SB.box (Bk.cs b)]) (.cons rfl (.nil rfl)) rfl rfl fun fr=>?_
 refine zG (zA rfl (zC rfl)) ?_
 refine zCg ?_
 refine zZ ?_
 refine⟨.inr rfl,_,.cons _ _ _ _ (.tmp 6) .nil,?_⟩
 exact .refl _
def idxI:List Int→Int→Nat→Int
 |[],_,_=> -1
 |y::l,x,k=>if x=y then k else idxI l x (k+1)
theorem idx_mem:∀(l:List Int) (x:Int) (k:Nat),decide (0≤idxI l x k)=decide (x∈l):=by
 intro l
 induction l with
 |nil=>intro x k;simp[idxI]
 |cons y l ih=>
  intro x k
  unfold idxI
  by_cases e:x=y
  ·rw[if_pos e,decide_eq_true (show(0:Int)≤k by omega),decide_eq_true (by rw[e];exact List.mem_cons_self)]
  ·rw[if_neg e,ih]
   exact decide_eq_decide.2 ⟨fun h=>List.mem_cons_of_mem _ h,fun h=>by rcases List.mem_cons.1 h with h|h;exact absurd h e;exact h⟩
set_option maxHeartbeats 8000000 in
theorem ret110(hi:Off is)(l:List Int)(x:Int)(hl:l.length≤4096):RetP Tryd.prog is orc 110 [.lst .ro 1 (zF l),.int .i64 x] (.int .i64 (idxI l x 0)):=by
 refine yC body110 pure110 (hi 110 (by decide)) rfl rfl (yh (zn 6 .ro (fun h=>by cases h) 1 l) (.int _ _ _)) (.inl (.int _ _ _)) ?_
 generalize hz:idxI l x 0=z
 refine kQ (zA rfl (zC (k_seq (kQ (zB rfl (zp rfl ty83 rfl (List.length_map _) ?_))))))
 refine zB rfl (zC (zQ ?_))
 refine yr (fun kk s2=>∃i:Nat,kk+i=l.length∧z=idxI (l.drop i) x i∧s2.st=[]∧Holds s2 [(0,.lst .ro 1 (zF l)),(1,.int .i64 x),(7,.int .i64 l.length),(8,.int .i64 i)]) (fun kk s2 hI=>?_) l.length _ ⟨0,rfl,hz.symm,rfl,.c4 rfl rfl rfl rfl (.nil rfl)⟩
 obtain⟨i,hk,hw,hst2,hs2⟩:=hI
 clear hz
 refine zK _ _ hs2 hst2 fun fr2=>?_
 by_cases hin:i<l.length
 ·obtain⟨y,hy⟩:∃y,l[i]? =some y:=⟨l[i],List.getElem?_eq_getElem hin⟩
  rw[zDZ hy]at hw
  have es:idxI (y::l.drop (i+1)) x i=if x=y then(i:Int)else idxI (l.drop (i+1)) x (i+1):=rfl
  by_cases e:x=y
  ·rw[es,if_pos e]at hw
   subst hw
   refine kQ (ze rfl rfl rfl (zC (k_seq (k_cT rfl (decide_eq_true (by omega)) (zU (k_seq (zQ (kQ ?_))))))))
   refine zB rfl (zA rfl (zC (kQ (zB rfl (zB rfl (zB rfl (yG (u:=.int .i64 (y)) rfl ty83 rfl rfl (Int.natCast_nonneg _) (by simp[hy]) cl3 ?_)))))))
   refine zV rfl rfl sh3 rfl ?_
   refine wn rfl rfl rfl (zC (k_cT rfl (decide_eq_true (by omega)) (kQ (zB rfl (zA rfl (zC (zZ ?_)))))))
   refine⟨.inr rfl,_,.cons _ _ _ _ (.tmp 4) .nil,?_⟩
   exact .refl _
  ·rw[es,if_neg e]at hw
   refine kQ (ze rfl rfl rfl (zC (k_seq (k_cT rfl (decide_eq_true (by omega)) (zU (k_seq (zQ (kQ ?_))))))))
   refine zB rfl (zA rfl (zC (kQ (zB rfl (zB rfl (zB rfl (yG (u:=.int .i64 (y)) rfl ty83 rfl rfl (Int.natCast_nonneg _) (by simp[hy]) cl3 ?_)))))))
   refine zV rfl rfl sh3 rfl ?_
   refine wn rfl rfl rfl (zC (k_cF rfl (decide_eq_false (by omega)) (zU (k_region ?_))))
   refine yV rfl rfl rfl (by unfold I64;omega) (zB rfl (zC ?_))
   exact⟨kk - 1,by omega,i+1,by omega,hw,rfl,.c4 rfl rfl rfl rfl (.nil rfl)⟩
 ·have hd:l.drop i=[]:=List.drop_eq_nil_of_le (by omega)
  rw[hd]at hw
  change z= -1 at hw
  subst hw
  refine kQ (ze rfl rfl rfl (zC (k_seq (k_cF rfl (decide_eq_false (by omega)) (yf (kQ (zA rfl (zC ?_))))))))
  refine zZ ?_
  refine⟨.inr rfl,_,.cons _ _ _ _ (.tmp 4) .nil,?_⟩
  exact .refl _
theorem ret98(hi:Off is)(l:List Int)(x:Int)(hl:l.length≤4096):RetP Tryd.prog is orc 98 [.lst .ro 1 (zF l),.int .i64 x] (.bool (decide (x∈l))):=by
 have q:=ret110 (orc:=orc) hi l x hl
 rw[←idx_mem l x 0]
 refine yC body98 pure98 (hi 98 (by decide)) rfl rfl (yh (zn 6 .ro (fun h=>by cases h) 1 l) (.int _ _ _)) (.inl (.bool _ _)) ?_
 refine kQ (zA rfl (zC (kQ (zB rfl (zB rfl (zN rfl (q) (.lrefl _) (o_geq rfl rfl rfl (zA rfl ?_))))))))
 refine zC (zZ ?_)
 refine⟨.inr rfl,_,.cons _ _ _ _ (.tmp 4) .nil,?_⟩
 exact .refl _
theorem ret87(hi:Off is)(l:List Int)(x:Int)(hl:l.length≤4096):RetP Tryd.prog is orc 87 [.lst .ro 1 (zF l),.int .i64 x] (.bool (decide (x∈l))):=by
 have q:=ret98 (orc:=orc) hi l x hl
 refine yC body87 pure87 (hi 87 (by decide)) rfl rfl (yh (zn 6 .ro (fun h=>by cases h) 1 l) (.int _ _ _)) (.inl (.bool _ _)) ?_
 refine kQ (zA rfl (zC (kQ (zB rfl (zB rfl (zN rfl (q) (.lrefl _) (zA rfl (zC ?_))))))))
 refine zZ ?_
 refine⟨.inr rfl,_,.cons _ _ _ _ (.tmp 4) .nil,?_⟩
 exact .refl _
end
end Go.Proofs.YtlknfhjfkcboiaaDoor.night
