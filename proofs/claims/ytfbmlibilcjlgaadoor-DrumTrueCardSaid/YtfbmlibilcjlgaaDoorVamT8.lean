import Derived.Test.YtfbmlibilcjlgaaDoorVamT7
set_option linter.unusedVariables false
set_option linter.unusedSimpArgs false
set_option linter.constructorNameAsVariable false
namespace Go.Proofs.YtfbmlibilcjlgaaDoor.drumTrue
open Vam
section
variable {is:FuncId→Bool}{orc:Known}
theorem ty4:tyOf Tryd.prog 4=.bool:=by kernel_rfl
noncomputable def b8:Code:=(Tryd.f8.body).getD .skip
theorem body8:bodyOf Tryd.prog 8=some (113,b8,[.tmp 4]):=by kernel_rfl
theorem pure8:pureFn Tryd.prog 8=true:=by kernel_rfl
theorem mem_lat{f:Nat→Int}{n i:Nat}:(i:Int)∈latS f n↔i<n∧0<f i:=by
 induction n with
 |zero=>simp[latS]
 |succ n ih=>
  have e:latS f (n+1)=latS f n++if 0<f n then [(n:Int)]else []:=rfl
  rw[e,List.mem_append,ih]
  constructor
  ·rintro(h|h)
   ·exact⟨by omega,h.2⟩
   ·split at h
    ·have:=List.mem_singleton.1 h
     have:i=n:=by omega
     subst this
     exact⟨by omega,by assumption⟩
    ·cases h
  ·rintro⟨h1,h2⟩
   by_cases hn:i=n
   ·subst hn;right;rw[if_pos h2];exact List.mem_singleton.2 rfl
   ·exact .inl ⟨by omega,h2⟩
theorem grwF_snoc(n z:Int):∀(l:List Int) (k:Int),grwF n k l=true→(∀x∈l,x<z)→k<z→z<n→grwF n k (l++[z])=true:=by
 intro l
 induction l with
 |nil=>intro k _ _ h1 h2;show(if z≤k∨z ≥ n then false else grwF n z [])=true;rw[if_neg (by omega)];rfl
 |cons x l ih=>
  intro k h hx h1 h2
  have e:grwF n k (x::l)=if x≤k∨x ≥ n then false else grwF n x l:=rfl
  have e2:grwF n k (x::l++[z])=if x≤k∨x ≥ n then false else grwF n x (l++[z]):=rfl
  rw[e]at h
  rw[e2]
  by_cases c:x≤k∨x ≥ n
  ·rw[if_pos c]at h;cases h
  ·rw[if_neg c]at h ⊢
   exact ih x h (fun y hy=>hx y (List.mem_cons_of_mem _ hy)) (hx x List.mem_cons_self) h2
theorem lat_lt{f:Nat→Int}{n:Nat}:∀x∈latS f n,0≤x∧x<n:=by
 induction n with
 |zero=>intro x hx;cases hx
 |succ n ih=>
  intro x hx
  have e:latS f (n+1)=latS f n++if 0<f n then [(n:Int)]else []:=rfl
  rw[e]at hx
  rcases List.mem_append.1 hx with h|h
  ·have:=ih x h;omega
  ·split at h
   ·have:=List.mem_singleton.1 h;omega
   ·cases h
theorem lat_grw(f:Nat→Int)(m:Nat):∀n,n≤m→grwF m (-1) (latS f n)=true:=by
 intro n
 induction n with
 |zero=>intro _;rfl
 |succ n ih=>
  intro h
  have e:latS f (n+1)=latS f n++if 0<f n then [(n:Int)]else []:=rfl
  rw[e]
  split
  ·exact grwF_snoc m n _ _ (ih (by omega)) (fun x hx=>(lat_lt x hx).2) (by omega) (by omega)
  ·rw[List.append_nil];exact ih (by omega)
set_option maxHeartbeats 16000000 in
set_option maxRecDepth 20000 in
theorem ret8(hi:Off is)(b:Bk)(bits:List Int)(r24:RetP Tryd.prog is orc 24 [] (.bool true)):RetP Tryd.prog is orc 8 [b.u,.lst .ro 1 (zD bits)] (.bool true):=by
 have q38:=ret38 (orc:=orc) hi b
 refine yF body8 pure8 (hi 8 (by decide)) rfl rfl (yj (wb b 4) (zz 6 .ro (fun h=>by cases h) 1 bits)) (.inl (.bool _ _)) ?_
 cases hv:zDG b with
 |false=>
  rw[hv]at q38
  refine kQ (yK rfl rfl (zC rfl (zB ?_)))
  refine zM [(1,.lst .ro 1 (zD bits)),(2,U.box 0 0)] ([SB.box [.int .i64 (Bk.parts b),.int .i64 (Bk.size b),.lst .ro 1 (zD (Bk.beats b)),.int .i64 (Bk.start b),.int .i64 (Bk.fin b),.int .i64 (Bk.tlo b),.int .i64 (Bk.thi b),.int .i64 (Bk.slo b),.int .i64 (Bk.shi b),.int .i64 (Bk.notice b),.lst .ro 3 (plsU (Bk.players b))]]) (.cons rfl (.cons rfl (.nil rfl))) rfl fun fr=>?_
  refine k_seq (kQ (zO rfl rfl rfl sh27 rfl (zR rfl (q38) (.lrefl _) (zBb rfl rfl (zB (k_cT rfl rfl ?_))))))
  refine kQ (zR rfl (r24) (.lrefl _) (zC rfl (zB (zd ?_))))
  refine⟨.inr rfl,_,.cons _ _ _ _ (.tmp 4) .nil,?_⟩
  exact .refl _
 |true=>
  rw[hv]at q38
  have h:=(zDF b).1 hv
  have hpn:=h.pn
  have hps:=toNat_ps h
  have hmp:=mul_ps h
  have hpa:=h.pa
  have hsz:=h.sz
  have q43:=ret43 (orc:=orc) hi h bits
  have hok:=chol_ok h bits
  generalize choL b bits b.parts.toNat=L at*
  have q21:=ret21 (orc:=orc) hi h hok
  generalize hN:(b.parts*b.size).toNat=N at*
  have hgr:=lat_grw (aftF b true L N) b.players.length b.players.length (Nat.le_refl _)
  have hll:=lat_len (aftF b true L N) b.players.length
  have q44:=ret44 (orc:=orc) hi (latS (aftF b true L N) b.players.length) b.players.length (by omega)
  rw[hgr]at q44
  have hmem:∀i:Nat,i<b.players.length→(whrI (latS (aftF b true L N) b.players.length) i<0↔ ¬ 0<aftF b true L N i):=fun i hi=>by
   rw[whr_neg,mem_lat]
   exact⟨fun h h2=>h ⟨hi,h2⟩,fun h h2=>h h2.2⟩
  generalize latS (aftF b true L N) b.players.length=A at*
  refine kQ (yK rfl rfl (zC rfl (zB ?_)))
  refine zM [(1,.lst .ro 1 (zD bits)),(2,U.box 0 0)] ([SB.box [.int .i64 (Bk.parts b),.int .i64 (Bk.size b),.lst .ro 1 (zD (Bk.beats b)),.int .i64 (Bk.start b),.int .i64 (Bk.fin b),.int .i64 (Bk.tlo b),.int .i64 (Bk.thi b),.int .i64 (Bk.slo b),.int .i64 (Bk.shi b),.int .i64 (Bk.notice b),.lst .ro 3 (plsU (Bk.players b))]]) (.cons rfl (.cons rfl (.nil rfl))) rfl fun fr=>?_
  refine k_seq (kQ (zO rfl rfl rfl sh27 rfl (zR rfl (q38) (.lrefl _) (zBb rfl rfl (zB (k_cF rfl rfl ?_))))))
  refine zU (kQ (zO rfl rfl rfl sh27 rfl (zA rfl (zR rfl (q43) (.lrefl _) (zC rfl (zB (kQ (zO rfl rfl rfl sh27 rfl ?_))))))))
  refine zA rfl (zR rfl (q21) (.lrefl _) (zA rfl (yU rfl rfl rfl (yU rfl rfl rfl (zC rfl (zC rfl (zB ?_)))))))
  refine zM [(1,.lst .ro 1 (zD bits)),(2,U.box 0 0),(5,.lst .ro 1 (zD L)),(6,.lst .ro 1 (zD A)),(7,.int .i64 0)] ([SB.box [.int .i64 (Bk.parts b),.int .i64 (Bk.size b),.lst .ro 1 (zD (Bk.beats b)),.int .i64 (Bk.start b),.int .i64 (Bk.fin b),.int .i64 (Bk.tlo b),.int .i64 (Bk.thi b),.int .i64 (Bk.slo b),.int .i64 (Bk.shi b),.int .i64 (Bk.notice b),.lst .ro 3 (plsU (Bk.players b))]]) (.c4 rfl rfl rfl rfl (.cons rfl (.nil rfl))) rfl fun fr=>?_
  refine k_seq (kQ (zA rfl (zCA rfl rfl rfl (zA rfl (o_gD rfl rfl rfl rfl rfl (zA rfl (o_gD rfl rfl rfl rfl rfl (zF rfl rfl wh ?_))))))))
  refine o_gD rfl rfl rfl rfl rfl (zG rfl rfl rfl sh25 rfl (o_gD rfl rfl rfl rfl rfl (yT rfl ty25 rfl (List.length_map _) ?_)))
  refine o_gD rfl rfl rfl rfl rfl (zR rfl (q44) (.lrefl _) (o_gD rfl rfl rfl rfl rfl (zBb rfl rfl (zN rfl rfl rfl ?_))))
  refine zB (k_cF rfl rfl ?_)
  refine zU (k_seq (kQ (zC rfl (zB (zS ?_)))))
  refine wJ (fun kk s2=>∃i:Nat,kk+i=b.players.length∧(∃e,s2.st=[.box [.int .i64 b.parts,.int .i64 b.size,.lst .ro 1 (zD b.beats),.int .i64 b.start,.int .i64 b.fin,.int .i64 b.tlo,.int .i64 b.thi,.int .i64 b.slo,.int .i64 b.shi,.int .i64 b.notice,.lst .ro 3 (plsU b.players)]]++e)∧Holds s2 [(1,.lst .ro 1 (zD bits)),(2,.box 0 0),(5,.lst .ro 1 (zD L)),(6,.lst .ro 1 (zD A)),(8,.int .i64 i)]) (fun kk s2 hI=>?_) b.players.length _ ⟨0,rfl,⟨[],rfl⟩,.c4 rfl rfl rfl rfl (.cons rfl (.nil rfl))⟩
  obtain⟨i,hk,⟨e,hst2⟩,hs2⟩:=hI
  generalize hY:[.box [.int .i64 b.parts,.int .i64 b.size,.lst .ro 1 (zD b.beats),.int .i64 b.start,.int .i64 b.fin,.int .i64 b.tlo,.int .i64 b.thi,.int .i64 b.slo,.int .i64 b.shi,.int .i64 b.notice,.lst .ro 3 (plsU b.players)]]++e=Y at hst2
  have y0:Y[0]? =some (.box [.int .i64 b.parts,.int .i64 b.size,.lst .ro 1 (zD b.beats),.int .i64 b.start,.int .i64 b.fin,.int .i64 b.tlo,.int .i64 b.thi,.int .i64 b.slo,.int .i64 b.shi,.int .i64 b.notice,.lst .ro 3 (plsU b.players)]):=by rw[←hY];rfl
  refine zM _ _ hs2 hst2 fun fr2=>?_
  by_cases hin:i<b.players.length
  ·obtain⟨p,hp1⟩:∃p,b.players[i]? =some p:=⟨b.players[i],List.getElem?_eq_getElem hin⟩
   have hpo:=pl_ok h hp1
   have q42:=ret42 (orc:=orc) hi h hok bits hp1
   rw[hN]at q42
   have hlen:=truL_len b L bits p i (N+1)
   have hat:∀n,n<N+1→(truL b L bits p i (N+1))[n]? =some (truI b L bits p i n):=fun n hn=>truL_at hn
   have hbt:∀n,aftF b false L n i≤truI b L bits p i n∧truI b L bits p i n≤aftF b true L n i:=fun n=>by
    unfold aftF;rw[hp1];exact tru_in h hok.rg bits hpo i n
   have q19:∀n:Nat,(n:Int)≤b.parts*b.size→RetP Tryd.prog is orc 19 [b.u,.lst .ro 1 (zD L),.int .i64 i,.int .i64 n] (.tup [wV (aftF b false L n i) (aftF b true L n i),.int .i64 0]):=fun n hn=>ret19 hi h hok hin hn
   generalize truL b L bits p i (N+1)=R at*
   generalize truI b L bits p i=tr at*
   refine k_seq (kQ (zA rfl (zF rfl rfl wh (zG rfl rfl y0 sh25 rfl ?_))))
   refine yT rfl ty25 rfl (List.length_map _) ?_
   refine zu rfl rfl rfl (zB (k_cT rfl (decide_eq_true (by omega)) (zU (k_seq (zS (kQ (zO rfl rfl y0 sh27 rfl ?_)))))))
   refine zA rfl (zA rfl (zA rfl (zR rfl (q42) (.lrefl _) (zC rfl (zB (k_seq (kQ (zC rfl ?_))))))))
   refine zB ?_
   refine zM [(1,.lst .ro 1 (zD bits)),(2,U.box 0 0),(5,.lst .ro 1 (zD L)),(6,.lst .ro 1 (zD A)),(8,.int .i64 ↑i),(9,.lst .ro 1 (zD R)),(10,.int .i64 0)] (Y) (.c4 rfl rfl rfl rfl (.cons rfl (.cons rfl (.cons rfl (.nil rfl))))) rfl fun fr=>?_
   refine zS ?_
   refine wJ (fun km s2=>∃n:Nat,km+n=N+1∧(∃e,s2.st=[.box [.int .i64 b.parts,.int .i64 b.size,.lst .ro 1 (zD b.beats),.int .i64 b.start,.int .i64 b.fin,.int .i64 b.tlo,.int .i64 b.thi,.int .i64 b.slo,.int .i64 b.shi,.int .i64 b.notice,.lst .ro 3 (plsU b.players)]]++e)∧Holds s2 [(1,.lst .ro 1 (zD bits)),(2,.box 0 0),(5,.lst .ro 1 (zD L)),(6,.lst .ro 1 (zD A)),(8,.int .i64 i),(9,.lst .ro 1 (zD R)),(10,.int .i64 n)]) (fun km s2 hI=>?_) (N+1) _ ⟨0,rfl,⟨e,hY.symm⟩,.c4 rfl rfl rfl rfl (.cons rfl (.cons rfl (.cons rfl (.nil rfl))))⟩
   obtain⟨n,hkn,⟨e3,hst3⟩,hs3⟩:=hI
   generalize hY3:[.box [.int .i64 b.parts,.int .i64 b.size,.lst .ro 1 (zD b.beats),.int .i64 b.start,.int .i64 b.fin,.int .i64 b.tlo,.int .i64 b.thi,.int .i64 b.slo,.int .i64 b.shi,.int .i64 b.notice,.lst .ro 3 (plsU b.players)]]++e3=Z at hst3
   have z0:Z[0]? =some (.box [.int .i64 b.parts,.int .i64 b.size,.lst .ro 1 (zD b.beats),.int .i64 b.start,.int .i64 b.fin,.int .i64 b.tlo,.int .i64 b.thi,.int .i64 b.slo,.int .i64 b.shi,.int .i64 b.notice,.lst .ro 3 (plsU b.players)]):=by rw[←hY3];rfl
   refine zM _ _ hs3 hst3 fun fr3=>?_
   by_cases hnn:n<N+1
   ·have q19n:=q19 n (by omega)
    have hbn:=hbt n
    have hrn:=hat n hnn
    have q40:=ret40 (orc:=orc) hi (aftF b false L n i) (aftF b true L n i) (tr n)
    rw[zFc.2 hbn]at q40
    refine k_seq (kQ (zA rfl (zA rfl (yT rfl ty22 rfl (List.length_map _) ?_))))
    refine zu rfl rfl rfl (zB (k_cT rfl (decide_eq_true (by omega)) (zU (k_seq (zS (kQ (zO rfl rfl z0 sh27 rfl ?_)))))))
    refine zA rfl (zA rfl (zA rfl (zR rfl (q19n) (.lrefl _) (zA rfl (yU rfl rfl rfl (yU rfl rfl rfl (yC rfl ze24 ?_)))))))
    refine ze rfl (zw _ _) sh24 rfl rfl rfl rfl rfl ?_
    refine zC rfl (zB ?_)
    refine zM [(1,.lst .ro 1 (zD bits)),(2,U.box 0 0),(5,.lst .ro 1 (zD L)),(6,.lst .ro 1 (zD A)),(8,.int .i64 ↑i),(9,.lst .ro 1 (zD R)),(10,.int .i64 ↑n),(11,U.box (List.length Z) 0),(12,.int .i64 0)] (Z++[SB.box [.int .i64 (aftF b Bool.false L n i),.int .i64 (aftF b Bool.true L n i)]]) (.c4 rfl rfl rfl rfl (.c4 rfl rfl rfl rfl (.cons rfl (.nil rfl)))) (wg _ _ _) fun fr=>?_
    refine k_seq (wa [.plain,.plain,.plain,.read true,.plain,.plain,.plain,.read true,.plain,.plain,.plain] (by kernel_rfl) (by kernel_rfl) (by kernel_rfl) ?_)
    refine zE (zA rfl (zB rfl)) (zE (zCA rfl rfl rfl (zB rfl)) ?_)
    refine zE (zA rfl (zB rfl)) (d_gD rfl rfl rfl rfl rfl (yI rfl (zO rfl rfl (zw _ _) sh24 rfl (zB rfl)) ?_))
    refine d_gD rfl rfl rfl rfl rfl (zE (zA rfl (zB rfl)) (d_gD rfl rfl rfl rfl rfl (zE (zA rfl (zB rfl)) (d_gD rfl rfl rfl rfl rfl (zE (yn (u:=.int .i64 (tr n)) rfl ty22 rfl rfl (Int.natCast_nonneg _) (by simp[hrn]) cl3 (zB rfl)) ?_)))))
    refine d_gD rfl rfl rfl rfl rfl (yI rfl (zk rfl rfl sh3 rfl (zB rfl)) ?_)
    refine d_gD rfl rfl rfl rfl rfl (zE (zR rfl (q40) (.lrefl _) (zB rfl)) ?_)
    refine d_gD rfl rfl rfl rfl rfl (zE (zBb rfl rfl (zB rfl)) ?_)
    refine zE (zN rfl rfl rfl (zB rfl)) ?_
    refine zBK ?_
    refine k_cF rfl rfl ?_
    refine zU (k_region (zA rfl ?_))
    refine yw rfl rfl rfl (by unfold I64;omega) (zC rfl (zB ?_))
    refine⟨km - 1,by omega,n+1,by omega,⟨_,grow hY3⟩,.c4 rfl rfl rfl rfl (.cons rfl (.cons rfl (.cons rfl (.nil rfl))))⟩
   ·have q19n:=q19 N (by omega)
    rw[hps]at q19n
    have hbn:=hbt N
    have hrn:=hat N (by omega)
    have q45:=ret45 (orc:=orc) hi A i (by omega)
    have hmi:=hmem i hin
    generalize whrI A i=wi at*
    have k111:decide (decide (0<aftF b true L N i)≠decide (0≤wi))=false:=by
     have e:decide (0<aftF b true L N i)=decide (0≤wi):=decide_eq_decide.2 (by omega)
     rw[e];simp
    by_cases hf:0<aftF b true L N i
    ·refine k_seq ?_
     refine kQ (zA rfl (zA rfl (yT rfl ty22 rfl (List.length_map _) ?_)))
     refine zu rfl rfl rfl (zB (k_cF rfl (decide_eq_false (by omega)) (yr (k_seq (kQ (zA rfl (zA rfl (yT rfl ty22 rfl (List.length_map _) ?_))))))))
     refine zCi rfl rfl rfl (by unfold I64;omega) ?_
     refine yn (u:=.int .i64 (tr N)) rfl ty22 rfl rfl (by omega) (by rw[show(((R.length:Nat):Int) - 1).toNat=N by omega];simp[hrn]) cl3 ?_
     refine zk rfl rfl sh3 rfl ?_
     refine zCj rfl rfl rfl (zA rfl ?_)
     refine zAx rfl rfl rfl rfl (fun h82=>?_) (fun h82=>?_)
     ·refine zA rfl ?_
      refine zP [(1,.lst .ro 1 (zD bits)),(2,U.box 0 0),(5,.lst .ro 1 (zD L)),(6,.lst .ro 1 (zD A)),(8,.int .i64 ↑i),(82,U.bool (decide ((0:Int)<tr N))),(83,.lst .ro 1 (zD A))] [] (Z) (.c4 rfl rfl rfl rfl (.cons rfl (.cons rfl (.cons rfl (.nil rfl))))) rfl rfl fun fr=>?_
      refine o_gD rfl rfl rfl rfl (by assumption) ?_
      refine zP [(1,.lst .ro 1 (zD bits)),(2,U.box 0 0),(5,.lst .ro 1 (zD L)),(6,.lst .ro 1 (zD A)),(8,.int .i64 ↑i),(82,U.bool (decide ((0:Int)<tr N))),(83,.lst .ro 1 (zD A))] [] (Z) (.c4 rfl rfl rfl rfl (.cons rfl (.cons rfl (.cons rfl (.nil rfl))))) rfl rfl fun fr=>?_
      refine zA rfl (o_gD rfl rfl rfl rfl (by assumption) (zR rfl (q45) (.lrefl _) (o_gD rfl rfl rfl rfl (by assumption) (zu rfl rfl rfl (zY rfl rfl (by assumption) ?_)))))
      refine zB ?_
      refine zM [(1,.lst .ro 1 (zD bits)),(2,U.box 0 0),(5,.lst .ro 1 (zD L)),(6,.lst .ro 1 (zD A)),(8,.int .i64 ↑i),(83,.lst .ro 1 (zD A)),(84,.int .i64 ↑i),(85,.int .i64 wi),(86,U.bool (decide (wi<(0:Int)))),(87,U.bool (decide (wi<(0:Int))))] (Z) (.c4 rfl rfl rfl rfl (.c4 rfl rfl rfl rfl (.cons rfl (.cons rfl (.nil rfl))))) rfl fun fr=>?_
      refine k_cF rfl (decide_eq_false (by omega)) (zU (kQ (zO rfl rfl z0 sh27 rfl ?_)))
      refine zA rfl (zA rfl (zF rfl rfl wz (zG rfl rfl z0 sh3 rfl ?_)))
      refine zF rfl rfl ya (zG rfl rfl z0 sh3 rfl ?_)
      refine o_mul rfl rfl rfl (by unfold I64;omega) ?_
      refine zR rfl (q19n) (.lrefl _) ?_
      refine zP [(1,.lst .ro 1 (zD bits)),(2,U.box 0 0),(5,.lst .ro 1 (zD L)),(6,.lst .ro 1 (zD A)),(8,.int .i64 ↑i),(83,.lst .ro 1 (zD A)),(84,.int .i64 ↑i),(85,.int .i64 wi),(86,U.bool (decide (wi<(0:Int)))),(97,U.tup [wV (aftF b Bool.false L N i) (aftF b Bool.true L N i),.int .i64 0])] [] (Z) (.c4 rfl rfl rfl rfl (.c4 rfl rfl rfl rfl (.cons rfl (.cons rfl (.nil rfl))))) rfl rfl fun fr=>?_
      refine zA rfl (yU rfl rfl rfl (yU rfl rfl rfl (yC rfl ze24 ?_)))
      refine ze rfl (zw _ _) sh24 rfl rfl rfl rfl rfl ?_
      refine zC rfl (zB ?_)
      refine zM [(1,.lst .ro 1 (zD bits)),(2,U.box 0 0),(5,.lst .ro 1 (zD L)),(6,.lst .ro 1 (zD A)),(8,.int .i64 ↑i),(13,U.box (List.length Z) 0),(14,.int .i64 0),(83,.lst .ro 1 (zD A)),(84,.int .i64 ↑i),(85,.int .i64 wi),(86,U.bool (decide (wi<(0:Int))))] (Z++[SB.box [.int .i64 (aftF b Bool.false L N i),.int .i64 (aftF b Bool.true L N i)]]) (.c4 rfl rfl rfl rfl (.c4 rfl rfl rfl rfl (.cons rfl (.cons rfl (.cons rfl (.nil rfl)))))) (wg _ _ _) fun fr=>?_
      refine k_seq (wa [.plain,.plain,.plain,.plain,.read true,.plain,.plain,.plain,.read false,.plain,.plain,.plain] (by kernel_rfl) (by kernel_rfl) (by kernel_rfl) ?_)
      refine zE (zA rfl (zB rfl)) (zE (zCA rfl rfl rfl (zB rfl)) ?_)
      refine zE (zA rfl (zB rfl)) (d_gD rfl rfl rfl rfl rfl (zE (zF rfl rfl wL (zB rfl)) ?_))
      refine d_gD rfl rfl rfl rfl rfl (yI rfl (zG rfl rfl (zw _ _) sh3 rfl (zB rfl)) ?_)
      refine d_gD rfl rfl rfl rfl rfl (zE (zCj rfl rfl rfl (zB rfl)) ?_)
      refine d_gD rfl rfl rfl rfl rfl (zE (zA rfl (zB rfl)) (d_gD rfl rfl rfl rfl rfl (zE (zA rfl (zB rfl)) (d_gD rfl rfl rfl rfl rfl (zBj rfl (q45) (.int _ _) (.lrefl _) ?_)))))
      refine d_gD rfl rfl rfl rfl rfl (zE (o_geq rfl rfl rfl (zB rfl)) ?_)
      refine d_gD rfl rfl rfl rfl rfl (zE (o_neqB rfl ty4 rfl rfl (zB rfl)) ?_)
      refine zE (zN rfl rfl rfl (zB rfl)) ?_
      refine zBK ?_
      refine k_cF rfl (by assumption) (zU (k_region (zA rfl ?_)))
      refine yw rfl rfl rfl (by unfold I64;omega) (zC rfl (zB ?_))
      refine⟨kk - 1,by omega,i+1,by omega,⟨_,grow hY3⟩,.c4 rfl rfl rfl rfl (.cons rfl (.nil rfl))⟩
     ·refine zP [(1,.lst .ro 1 (zD bits)),(2,U.box 0 0),(5,.lst .ro 1 (zD L)),(6,.lst .ro 1 (zD A)),(8,.int .i64 ↑i),(82,U.bool (decide ((0:Int)<tr N))),(83,U.tup [])] [] (Z) (.c4 rfl rfl rfl rfl (.cons rfl (.cons rfl (.cons rfl (.nil rfl))))) rfl rfl fun fr=>?_
      refine o_gS rfl rfl rfl rfl (by assumption) (o_gS rfl rfl rfl rfl (by assumption) (o_gS rfl rfl rfl rfl (by assumption) (zN rfl rfl (by assumption) ?_)))
      refine zB ?_
      refine zM [(1,.lst .ro 1 (zD bits)),(2,U.box 0 0),(5,.lst .ro 1 (zD L)),(6,.lst .ro 1 (zD A)),(8,.int .i64 ↑i),(83,U.tup []),(84,U.tup []),(85,U.tup []),(86,U.tup []),(87,.bool false)] (Z) (.c4 rfl rfl rfl rfl (.c4 rfl rfl rfl rfl (.cons rfl (.cons rfl (.nil rfl))))) rfl fun fr=>?_
      refine k_cF rfl rfl ?_
      refine zU (kQ (zO rfl rfl z0 sh27 rfl ?_))
      refine zA rfl (zA rfl (zF rfl rfl wz (zG rfl rfl z0 sh3 rfl ?_)))
      refine zF rfl rfl ya (zG rfl rfl z0 sh3 rfl ?_)
      refine o_mul rfl rfl rfl (by unfold I64;omega) ?_
      refine zR rfl (q19n) (.lrefl _) ?_
      refine zP [(1,.lst .ro 1 (zD bits)),(2,U.box 0 0),(5,.lst .ro 1 (zD L)),(6,.lst .ro 1 (zD A)),(8,.int .i64 ↑i),(83,U.tup []),(84,U.tup []),(85,U.tup []),(86,U.tup []),(97,U.tup [wV (aftF b Bool.false L N i) (aftF b Bool.true L N i),.int .i64 0])] [] (Z) (.c4 rfl rfl rfl rfl (.c4 rfl rfl rfl rfl (.cons rfl (.cons rfl (.nil rfl))))) rfl rfl fun fr=>?_
      refine zA rfl (yU rfl rfl rfl (yU rfl rfl rfl (yC rfl ze24 ?_)))
      refine ze rfl (zw _ _) sh24 rfl rfl rfl rfl rfl ?_
      refine zC rfl (zB ?_)
      refine zM [(1,.lst .ro 1 (zD bits)),(2,U.box 0 0),(5,.lst .ro 1 (zD L)),(6,.lst .ro 1 (zD A)),(8,.int .i64 ↑i),(13,U.box (List.length Z) 0),(14,.int .i64 0),(83,U.tup []),(84,U.tup []),(85,U.tup []),(86,U.tup [])] (Z++[SB.box [.int .i64 (aftF b Bool.false L N i),.int .i64 (aftF b Bool.true L N i)]]) (.c4 rfl rfl rfl rfl (.c4 rfl rfl rfl rfl (.cons rfl (.cons rfl (.cons rfl (.nil rfl)))))) (wg _ _ _) fun fr=>?_
      refine k_seq (wa [.plain,.plain,.plain,.plain,.read true,.plain,.plain,.plain,.read false,.plain,.plain,.plain] (by kernel_rfl) (by kernel_rfl) (by kernel_rfl) ?_)
      refine zE (zA rfl (zB rfl)) (zE (zCA rfl rfl rfl (zB rfl)) ?_)
      refine zE (zA rfl (zB rfl)) (d_gD rfl rfl rfl rfl rfl (zE (zF rfl rfl wL (zB rfl)) ?_))
      refine d_gD rfl rfl rfl rfl rfl (yI rfl (zG rfl rfl (zw _ _) sh3 rfl (zB rfl)) ?_)
      refine d_gD rfl rfl rfl rfl rfl (zE (zCj rfl rfl rfl (zB rfl)) ?_)
      refine d_gD rfl rfl rfl rfl rfl (zE (zA rfl (zB rfl)) (d_gD rfl rfl rfl rfl rfl (zE (zA rfl (zB rfl)) (d_gD rfl rfl rfl rfl rfl (zBj rfl (q45) (.int _ _) (.lrefl _) ?_)))))
      refine d_gD rfl rfl rfl rfl rfl (zE (o_geq rfl rfl rfl (zB rfl)) ?_)
      refine d_gD rfl rfl rfl rfl rfl (zE (o_neqB rfl ty4 rfl rfl (zB rfl)) ?_)
      refine zE (zN rfl rfl rfl (zB rfl)) ?_
      refine zBK ?_
      refine k_cF rfl (by assumption) (zU (k_region (zA rfl ?_)))
      refine yw rfl rfl rfl (by unfold I64;omega) (zC rfl (zB ?_))
      refine⟨kk - 1,by omega,i+1,by omega,⟨_,grow hY3⟩,.c4 rfl rfl rfl rfl (.cons rfl (.nil rfl))⟩
    ·refine k_seq ?_
     refine kQ (zA rfl (zA rfl (yT rfl ty22 rfl (List.length_map _) ?_)))
     refine zu rfl rfl rfl (zB (k_cF rfl (decide_eq_false (by omega)) (yr (k_seq (kQ (zA rfl (zA rfl (yT rfl ty22 rfl (List.length_map _) ?_))))))))
     refine zCi rfl rfl rfl (by unfold I64;omega) ?_
     refine yn (u:=.int .i64 (tr N)) rfl ty22 rfl rfl (by omega) (by rw[show(((R.length:Nat):Int) - 1).toNat=N by omega];simp[hrn]) cl3 ?_
     refine zk rfl rfl sh3 rfl ?_
     refine zCj rfl rfl rfl (zA rfl (o_gS rfl rfl rfl rfl (decide_eq_false (by omega)) ?_))
     refine zP [(1,.lst .ro 1 (zD bits)),(2,U.box 0 0),(5,.lst .ro 1 (zD L)),(6,.lst .ro 1 (zD A)),(8,.int .i64 ↑i),(82,U.bool (decide ((0:Int)<tr N))),(83,U.tup [])] [] (Z) (.c4 rfl rfl rfl rfl (.cons rfl (.cons rfl (.cons rfl (.nil rfl))))) rfl rfl fun fr=>?_
     refine o_gS rfl rfl rfl rfl (decide_eq_false (by omega)) ?_
     refine o_gS rfl rfl rfl rfl (decide_eq_false (by omega)) ?_
     refine o_gS rfl rfl rfl rfl (decide_eq_false (by omega)) ?_
     refine zN rfl rfl (decide_eq_false (by omega)) ?_
     refine zB ?_
     refine zM [(1,.lst .ro 1 (zD bits)),(2,U.box 0 0),(5,.lst .ro 1 (zD L)),(6,.lst .ro 1 (zD A)),(8,.int .i64 ↑i),(83,U.tup []),(84,U.tup []),(85,U.tup []),(86,U.tup []),(87,.bool false)] (Z) (.c4 rfl rfl rfl rfl (.c4 rfl rfl rfl rfl (.cons rfl (.cons rfl (.nil rfl))))) rfl fun fr=>?_
     refine k_cF rfl rfl ?_
     refine zU (kQ (zO rfl rfl z0 sh27 rfl ?_))
     refine zA rfl (zA rfl (zF rfl rfl wz (zG rfl rfl z0 sh3 rfl ?_)))
     refine zF rfl rfl ya (zG rfl rfl z0 sh3 rfl ?_)
     refine o_mul rfl rfl rfl (by unfold I64;omega) ?_
     refine zR rfl (q19n) (.lrefl _) ?_
     refine zP [(1,.lst .ro 1 (zD bits)),(2,U.box 0 0),(5,.lst .ro 1 (zD L)),(6,.lst .ro 1 (zD A)),(8,.int .i64 ↑i),(83,U.tup []),(84,U.tup []),(85,U.tup []),(86,U.tup []),(97,U.tup [wV (aftF b Bool.false L N i) (aftF b Bool.true L N i),.int .i64 0])] [] (Z) (.c4 rfl rfl rfl rfl (.c4 rfl rfl rfl rfl (.cons rfl (.cons rfl (.nil rfl))))) rfl rfl fun fr=>?_
     refine zA rfl (yU rfl rfl rfl (yU rfl rfl rfl (yC rfl ze24 ?_)))
     refine ze rfl (zw _ _) sh24 rfl rfl rfl rfl rfl ?_
     refine zC rfl (zB ?_)
     refine zM [(1,.lst .ro 1 (zD bits)),(2,U.box 0 0),(5,.lst .ro 1 (zD L)),(6,.lst .ro 1 (zD A)),(8,.int .i64 ↑i),(13,U.box (List.length Z) 0),(14,.int .i64 0),(83,U.tup []),(84,U.tup []),(85,U.tup []),(86,U.tup [])] (Z++[SB.box [.int .i64 (aftF b Bool.false L N i),.int .i64 (aftF b Bool.true L N i)]]) (.c4 rfl rfl rfl rfl (.c4 rfl rfl rfl rfl (.cons rfl (.cons rfl (.cons rfl (.nil rfl)))))) (wg _ _ _) fun fr=>?_
     refine k_seq (wa [.plain,.plain,.plain,.plain,.read true,.plain,.plain,.plain,.read false,.plain,.plain,.plain] (by kernel_rfl) (by kernel_rfl) (by kernel_rfl) ?_)
     refine zE (zA rfl (zB rfl)) (zE (zCA rfl rfl rfl (zB rfl)) ?_)
     refine zE (zA rfl (zB rfl)) (d_gD rfl rfl rfl rfl rfl (zE (zF rfl rfl wL (zB rfl)) ?_))
     refine d_gD rfl rfl rfl rfl rfl (yI rfl (zG rfl rfl (zw _ _) sh3 rfl (zB rfl)) ?_)
     refine d_gD rfl rfl rfl rfl rfl (zE (zCj rfl rfl rfl (zB rfl)) ?_)
     refine d_gD rfl rfl rfl rfl rfl (zE (zA rfl (zB rfl)) (d_gD rfl rfl rfl rfl rfl (zE (zA rfl (zB rfl)) (d_gD rfl rfl rfl rfl rfl (zBj rfl (q45) (.int _ _) (.lrefl _) ?_)))))
     refine d_gD rfl rfl rfl rfl rfl (zE (o_geq rfl rfl rfl (zB rfl)) ?_)
     refine d_gD rfl rfl rfl rfl rfl (zE (o_neqB rfl ty4 rfl rfl (zB rfl)) ?_)
     refine zE (zN rfl rfl rfl (zB rfl)) ?_
     refine zBK ?_
     refine k_cF rfl (by assumption) (zU (k_region (zA rfl ?_)))
     refine yw rfl rfl rfl (by unfold I64;omega) (zC rfl (zB ?_))
     refine⟨kk - 1,by omega,i+1,by omega,⟨_,grow hY3⟩,.c4 rfl rfl rfl rfl (.cons rfl (.nil rfl))⟩
  ·refine k_seq ?_
   refine kQ (zA rfl (zF rfl rfl wh (zG rfl rfl y0 sh25 rfl ?_)))
   refine yT rfl ty25 rfl (List.length_map _) ?_
   refine zu rfl rfl rfl (zB (k_cF rfl (decide_eq_false (by omega)) (yr (kQ (zR rfl (r24) (.lrefl _) (zC rfl (zB (zd ?_))))))))
   refine⟨.inr rfl,_,.cons _ _ _ _ (.tmp 4) .nil,?_⟩
   exact .refl _
end
section
variable {is:FuncId→Bool}{orc:Known}
theorem zDb{P:Program}{t:TypeId}(n:Nat)(h:(match P.underlying t with|some (.struct fs)=>Nat.beq fs.size n|_=>false)=true):∃fs,P.underlying t=some (.struct fs):=by
 cases hu:P.underlying t with
 |none=>rw[hu]at h;cases h
 |some ty=>rw[hu]at h;cases ty<;>first|exact⟨_,rfl⟩|cases h
theorem u3:Tryd.prog.underlying 3=some (.int .i64):=by kernel_rfl
theorem u22:Tryd.prog.underlying 22=some (.slice 3):=by kernel_rfl
theorem u66:Tryd.prog.underlying 66=some (.slice 24):=by kernel_rfl
theorem u25:Tryd.prog.underlying 25=some (.slice 68):=by kernel_rfl
def fts(P:Program)(t:TypeId):List TypeId:=match P.underlying t with|some (.struct fs)=>fs.toList.map (·.type)|_=>[]
theorem f27:fts Tryd.prog 27=[3,3,22,3,3,24,24,3,25]:=by kernel_rfl
theorem f24:fts Tryd.prog 24=[3,3]:=by kernel_rfl
theorem f68:fts Tryd.prog 68=[24,66]:=by kernel_rfl
theorem clq24:Program.cellsOf Tryd.prog 24=2:=by kernel_rfl
theorem clq68:Program.cellsOf Tryd.prog 68=3:=by kernel_rfl
theorem clq3:Program.cellsOf Tryd.prog 3=1:=by kernel_rfl
theorem zCE{cs:List U}(h:Shp Tryd.prog 3 cs):∃n:Int,cs=[.int .i64 n]:=by
 cases h with
 |int _ k n hu _=>rw[u3]at hu;cases hu;exact⟨n,rfl⟩
 |bool _ _ hu=>rw[u3]at hu;cases hu
 |str _ _ hu=>rw[u3]at hu;cases hu
 |slice _ _ _ hu=>rw[u3]at hu;cases hu
 |struct _ _ _ hu=>rw[u3]at hu;cases hu
 |array _ _ _ _ hu=>rw[u3]at hu;cases hu
theorem zDg{P:Program}{t:TypeId}{cs:List U}(h:Shp P t cs)(hne:fts P t≠[]):∃fs:List Field,fs.map (·.type)=fts P t∧ShpF P fs cs:=by
 have no:∀{ty},P.underlying t=some ty→(∀fs,ty≠.struct fs)→False:=fun hu hn=>hne (by unfold fts;rw[hu];split<;>simp_all)
 cases h with
 |struct _ fs _ hu hf=>exact⟨fs.toList,by unfold fts;rw[hu],hf⟩
 |int _ k n hu _=>exact(no hu (by intro fs h;cases h)).elim
 |bool _ _ hu=>exact(no hu (by intro fs h;cases h)).elim
 |str _ _ hu=>exact(no hu (by intro fs h;cases h)).elim
 |slice _ _ _ hu=>exact(no hu (by intro fs h;cases h)).elim
 |array _ _ _ _ hu=>exact(no hu (by intro fs h;cases h)).elim
theorem yp{P:Program}{fs:List Field}{t:TypeId}{ts:List TypeId}{cs:List U}(h:ShpF P fs cs)(e:fs.map (·.type)=t::ts):∃gs xs ys,cs=xs++ys∧Shp P t xs∧ShpF P gs ys∧gs.map (·.type)=ts:=by
 cases h with
 |nil=>cases e
 |cons f fs xs ys h1 h2=>
  simp only[List.map_cons,List.cons.injEq]at e
  obtain⟨rfl,rfl⟩:=e
  exact⟨fs,xs,ys,rfl,h1,h2,rfl⟩
theorem shpF_nil{P:Program}{fs:List Field}{cs:List U}(h:ShpF P fs cs)(e:fs.map (·.type)=[]):cs=[]:=by
 cases h with
 |nil=>rfl
 |cons=>cases e
theorem zEg{cs:List U}(h:Shp Tryd.prog 24 cs):∃a b:Int,cs=[.int .i64 a,.int .i64 b]:=by
 obtain⟨fs,e,hf⟩:=zDg h (by rw[f24];simp)
 rw[f24]at e
 obtain⟨g1,a1,b1,rfl,k1,r1,e1⟩:=yp hf e
 obtain⟨g2,a2,b2,rfl,k2,r2,e2⟩:=yp r1 e1
 obtain rfl:=shpF_nil r2 e2
 obtain⟨x,rfl⟩:=zCE k1
 obtain⟨y,rfl⟩:=zCE k2
 exact⟨x,y,rfl⟩
theorem shpL_map{P:Program}{e:TypeId}{α:Type}{f:α→List U}{css:List (List U)}(h:ShpL P e css)(k:∀cs,Shp P e cs→∃q,cs=f q):∃l:List α,css=l.map f:=by
 induction css with
 |nil=>exact⟨[],rfl⟩
 |cons cs css ih=>
  cases h with
  |cons _ _ _ h1 h2=>
   obtain⟨q,rfl⟩:=k _ h1
   obtain⟨l,rfl⟩:=ih h2
   exact⟨q::l,rfl⟩
theorem zFA{P:Program}{t e:TypeId}{cs:List U}(hu:P.underlying t=some (.slice e))(h:Shp P t cs):∃css,ShpL P e css∧cs=[.lst .ro (P.cellsOf e) (css.map (eU P e))]:=by
 cases h with
 |slice _ e' css hu' hl=>rw[hu]at hu';cases hu';exact⟨css,hl,rfl⟩
 |int _ k n hu' _=>rw[hu]at hu';cases hu'
 |bool _ _ hu'=>rw[hu]at hu';cases hu'
 |str _ _ hu'=>rw[hu]at hu';cases hu'
 |struct _ _ _ hu'=>rw[hu]at hu';cases hu'
 |array _ _ _ _ hu'=>rw[hu]at hu';cases hu'
theorem eu68:∀cs,eU Tryd.prog 68 cs=.agg cs:=by
 obtain⟨fs,h⟩:=zDb (P:=Tryd.prog) (t:=68) 2 (by kernel_rfl)
 intro cs;unfold eU;rw[h]
theorem eu24:∀cs,eU Tryd.prog 24 cs=.agg cs:=by
 obtain⟨fs,h⟩:=zDb (P:=Tryd.prog) (t:=24) 2 (by kernel_rfl)
 intro cs;unfold eU;rw[h]
theorem eu3:∀cs,eU Tryd.prog 3 cs=cs.headD .junk:=by
 intro cs;unfold eU;rw[u3]
theorem map_ints{F:List U→U}(he:∀cs,F cs=cs.headD .junk)(l:List Int):(l.map fun n:Int=>[U.int .i64 n]).map F=zD l:=by
 rw[List.map_map]
 exact List.map_congr_left fun q _=>he _
theorem shp_ints{cs:List U}(h:Shp Tryd.prog 22 cs):∃l:List Int,cs=[.lst .ro 1 (zD l)]:=by
 obtain⟨css,hl,rfl⟩:=zFA u22 h
 obtain⟨l,rfl⟩:=shpL_map (f:=fun n:Int=>[.int .i64 n]) hl fun cs hcs=>zCE hcs
 refine⟨l,?_⟩
 rw[clq3,map_ints eu3]
theorem map_twos{F:List U→U}(he:∀cs,F cs=.agg cs)(l:List Two):(l.map fun q:Two=>[U.int .i64 q.a,.int .i64 q.b]).map F=yb l:=by
 rw[List.map_map]
 exact List.map_congr_left fun q _=>he _
theorem shp_spans{cs:List U}(h:Shp Tryd.prog 66 cs):∃l:List Two,cs=[.lst .ro 2 (yb l)]:=by
 obtain⟨css,hl,rfl⟩:=zFA u66 h
 obtain⟨l,rfl⟩:=shpL_map (f:=fun q:Two=>[.int .i64 q.a,.int .i64 q.b]) hl fun cs hcs=>by obtain⟨x,y,rfl⟩:=zEg hcs;exact⟨⟨x,y⟩,rfl⟩
 refine⟨l,?_⟩
 rw[clq24,map_twos eu24]
theorem shp_player{cs:List U}(h:Shp Tryd.prog 68 cs):∃p:Pl,cs=p.cs:=by
 obtain⟨fs,e,hf⟩:=zDg h (by rw[f68];simp)
 rw[f68]at e
 obtain⟨g1,a1,b1,rfl,k1,r1,e1⟩:=yp hf e
 obtain⟨g2,a2,b2,rfl,k2,r2,e2⟩:=yp r1 e1
 obtain rfl:=shpF_nil r2 e2
 obtain⟨x,y,rfl⟩:=zEg k1
 obtain⟨l,rfl⟩:=shp_spans k2
 exact⟨⟨x,y,l⟩,rfl⟩
theorem map_pls{F:List U→U}(he:∀cs,F cs=.agg cs)(l:List Pl):(l.map fun q:Pl=>q.cs).map F=plsU l:=by
 rw[List.map_map]
 exact List.map_congr_left fun q _=>he _
theorem shp_players{cs:List U}(h:Shp Tryd.prog 25 cs):∃l:List Pl,cs=[.lst .ro 3 (plsU l)]:=by
 obtain⟨css,hl,rfl⟩:=zFA u25 h
 obtain⟨l,rfl⟩:=shpL_map (f:=fun q:Pl=>q.cs) hl fun cs hcs=>shp_player hcs
 refine⟨l,?_⟩
 rw[clq68,map_pls eu68]
theorem shp_bk{cs:List U}(h:Shp Tryd.prog 27 cs):∃b:Bk,cs=b.cs:=by
 obtain⟨fs,e,hf⟩:=zDg h (by rw[f27];simp)
 rw[f27]at e
 obtain⟨g1,a1,b1,rfl,k1,r1,e1⟩:=yp hf e
 obtain⟨g2,a2,b2,rfl,k2,r2,e2⟩:=yp r1 e1
 obtain⟨g3,a3,b3,rfl,k3,r3,e3⟩:=yp r2 e2
 obtain⟨g4,a4,b4,rfl,k4,r4,e4⟩:=yp r3 e3
 obtain⟨g5,a5,b5,rfl,k5,r5,e5⟩:=yp r4 e4
 obtain⟨g6,a6,b6,rfl,k6,r6,e6⟩:=yp r5 e5
 obtain⟨g7,a7,b7,rfl,k7,r7,e7⟩:=yp r6 e6
 obtain⟨g8,a8,b8,rfl,k8,r8,e8⟩:=yp r7 e7
 obtain⟨g9,a9,b9,rfl,k9,r9,e9⟩:=yp r8 e8
 obtain rfl:=shpF_nil r9 e9
 obtain⟨parts,rfl⟩:=zCE k1
 obtain⟨size,rfl⟩:=zCE k2
 obtain⟨beats,rfl⟩:=shp_ints k3
 obtain⟨start,rfl⟩:=zCE k4
 obtain⟨fin,rfl⟩:=zCE k5
 obtain⟨tlo,thi,rfl⟩:=zEg k6
 obtain⟨slo,shi,rfl⟩:=zEg k7
 obtain⟨notice,rfl⟩:=zCE k8
 obtain⟨players,rfl⟩:=shp_players k9
 exact⟨⟨parts,size,beats,start,fin,tlo,thi,slo,shi,notice,players⟩,rfl⟩
theorem und27:∃fs,Tryd.prog.underlying 27=some (.struct fs):=zDb (P:=Tryd.prog) (t:=27) 9 (by kernel_rfl)
theorem arg_bk{u:U}(h:∃cs,u=.agg cs∧Shp Tryd.prog 27 cs):∃b:Bk,u=b.u:=by
 obtain⟨cs,rfl,h⟩:=h
 obtain⟨b,rfl⟩:=shp_bk h
 exact⟨b,rfl⟩
theorem arg_ints{u:U}(h:Shp Tryd.prog 22 [u]):∃l:List Int,u=.lst .ro 1 (zD l):=by
 obtain⟨l,e⟩:=shp_ints h
 cases e
 exact⟨l,rfl⟩
end
section
variable {is:FuncId→Bool}{orc:Known}
theorem ret8_all(hi:Off is)(r24:RetP Tryd.prog is orc 24 [] (.bool true)):∀us,ShpAs Tryd.prog [27,22] us→RetP Tryd.prog is orc 8 us (.bool true):=by
 intro us h
 cases h with
 |cons _ _ u us h1 h=>cases h with
 |cons _ _ v us h2 h=>
 cases h
 obtain⟨fs,hu⟩:=und27
 unfold ShpA at h1 h2
 rw[hu]at h1
 rw[u22]at h2
 obtain⟨b,rfl⟩:=arg_bk h1
 obtain⟨l,rfl⟩:=arg_ints h2
 exact ret8 hi b l r24
end
end Go.Proofs.YtfbmlibilcjlgaaDoor.drumTrue
