import Derived.Test.YtinhcdijbcamaaaVamT20
set_option linter.unusedVariables false
set_option linter.unusedSimpArgs false
set_option linter.constructorNameAsVariable false
namespace Go.Proofs.Ytinhcdijbcamaaa.tuneTrue
open Vam
section
variable {is:FuncId→Bool}{orc:Known}
noncomputable def b7:Code:=(Try.f7.body).getD .skip
theorem body7:bodyOf Try.prog 7=some (229,b7,[.tmp 6]):=by kernel_rfl
theorem pure7:pureFn Try.prog 7=true:=by kernel_rfl
variable {t:Ts}{J:List Jn}{v x y a b c d:Int}{st Y Z:List SB}{l:List Int}
theorem zDi(l:List Int):∀(ps:List Two) (m:Int),zBg l ps m≤m∧(∀q∈ps,zBg l ps m≤pL l q.b - pL l q.a)∧(zBg l ps m=m∨∃q∈ps,zBg l ps m=pL l q.b - pL l q.a):=by
 intro ps
 induction ps with
 |nil=>intro m;exact⟨Int.le_refl _,fun q hq=>(by cases hq),.inl rfl⟩
 |cons q ps ih=>
  intro m
  obtain⟨h1,h2,h3⟩:=ih (min m (pL l q.b - pL l q.a))
  have e:zBg l (q::ps) m=zBg l ps (min m (pL l q.b - pL l q.a)):=rfl
  rw[e]
  refine⟨by omega,fun r hr=>?_,?_⟩
  ·rcases List.mem_cons.1 hr with rfl|hr
   ·omega
   ·exact h2 r hr
  ·rcases h3 with h3|⟨r,hr,h3⟩
   ·by_cases c:m≤pL l q.b - pL l q.a
    ·exact .inl (by omega)
    ·exact .inr ⟨q,List.mem_cons_self,by omega⟩
   ·exact .inr ⟨r,List.mem_cons_of_mem _ hr,h3⟩
theorem zDh(l:List Int):∀(ps:List Two) (m:Int),m≤zBf l ps m∧(∀q∈ps,pL l q.b - pL l q.a≤zBf l ps m)∧(zBf l ps m=m∨∃q∈ps,zBf l ps m=pL l q.b - pL l q.a):=by
 intro ps
 induction ps with
 |nil=>intro m;exact⟨Int.le_refl _,fun q hq=>(by cases hq),.inl rfl⟩
 |cons q ps ih=>
  intro m
  obtain⟨h1,h2,h3⟩:=ih (max m (pL l q.b - pL l q.a))
  have e:zBf l (q::ps) m=zBf l ps (max m (pL l q.b - pL l q.a)):=rfl
  rw[e]
  refine⟨by omega,fun r hr=>?_,?_⟩
  ·rcases List.mem_cons.1 hr with rfl|hr
   ·omega
   ·exact h2 r hr
  ·rcases h3 with h3|⟨r,hr,h3⟩
   ·by_cases c:pL l q.b - pL l q.a≤m
    ·exact .inl (by omega)
    ·exact .inr ⟨q,List.mem_cons_self,by omega⟩
   ·exact .inr ⟨r,List.mem_cons_of_mem _ hr,h3⟩
theorem ease_fit(hok:TOk t)(hb:∀v,Key t v→1≤pL l v∧pL l v≤4000)(hx:TOk (zCg t l)){j:Jn}(hj:j∈zc (zCg t l)):Fit j (pL l j.one) (pL l j.two):=by
 have hr:=hx.sok.jr j hj
 have hj1:=hb j.one hr.1
 rw[fit_kd (hx.sok.jv j hj) hj1.1]
 rcases join_mem.1 hj with hj|⟨q,hq,rfl⟩
 ·obtain⟨q',hq',hjq⟩:=List.mem_flatMap.1 hj
  obtain⟨q,hq,rfl⟩:=List.mem_map.1 hq'
  obtain⟨k,hk,rfl⟩:=List.mem_map.1 hjq
  have hk:=List.mem_range.1 hk
  have hk : k < q.steps.length := by have e : (zEh l q).steps.length = q.steps.length := by unfold zEh zHI; simp
                                     omega
  refine .inl ⟨rfl,?_⟩
  have e:(zEh l q).steps[k]? =some (easeK l q k):=by
   show(zHI l q q.steps.length)[k]? =_
   unfold zHI
   rw[List.getElem?_map,List.getElem?_range hk];rfl
  have hone:0<pL l ((q.keys[k]?).getD 0):=by
   have:=hj1.1
   show 0<pL l (((zEh l q).keys[k]?).getD 0)
   exact this
  show(((zEh l q).steps[k]?).map Two.a).getD 0*pL l ((q.keys[k]?).getD 0)≤1000*pL l ((q.keys[k+1]?).getD 0)∧1000*pL l ((q.keys[k+1]?).getD 0)≤(((zEh l q).steps[k]?).map Two.b).getD 0*pL l ((q.keys[k]?).getD 0)
  rw[e]
  unfold easeK
  simp only[Option.map_some,Option.getD_some]
  generalize pL l ((q.keys[k]?).getD 0)=one at hone
  generalize 1000*pL l ((q.keys[k+1]?).getD 0)=two
  generalize ((q.steps[k]?).map Two.a).getD 0=A
  generalize ((q.steps[k]?).map Two.b).getD 0=B
  constructor
  ·have h1:two / one*one≤two:=Int.ediv_mul_le _ (by omega)
   exact Int.le_trans (Int.mul_le_mul_of_nonneg_right (Int.min_le_right _ _) (by omega)) h1
  ·have h1:(-two) / one*one≤ -two:=Int.ediv_mul_le _ (by omega)
   have h2:two≤ -((-two) / one)*one:=by rw[Int.neg_mul];omega
   exact Int.le_trans h2 (Int.mul_le_mul_of_nonneg_right (Int.le_max_right _ _) (by omega))
 ·refine .inr (.inr (.inl ⟨rfl,?_⟩))
  have h1:=(zDi l t.pairs t.lo).2.1 q hq
  have h2:=(zDh l t.pairs t.hi).2.1 q hq
  show pL l q.a+zBg l t.pairs t.lo≤pL l q.b∧pL l q.b≤pL l q.a+zBf l t.pairs t.hi
  omega
theorem ease_band(hx:TOk (zCg t l))(hp:t.pairs≠[])(hin:∀v,Key t v→InH t v (pL l v))(hf:∀j∈zc (zCg t l),Fit j (pL l j.one) (pL l j.two))(hev:EvenS (zCg t l) a b):b - a≤zBf l t.pairs 0 - zBg l t.pairs 60:=by
 have hbt:=hx.bt
 obtain⟨a1,a2,a3⟩:=zDi l t.pairs 60
 obtain⟨b1,b2,b3⟩:=zDh l t.pairs 0
 obtain⟨c1,c2,c3⟩:=zDi l t.pairs t.lo
 obtain⟨d1,d2,d3⟩:=zDh l t.pairs t.hi
 have e1:(zCg t l).lo=zBg l t.pairs t.lo:=rfl
 have e2:(zCg t l).hi=zBf l t.pairs t.hi:=rfl
 rw[e1,e2]at hbt
 have hlo:zBg l t.pairs t.lo≤zBg l t.pairs 60:=by
  rcases a3 with h|⟨q,hq,h⟩
  ·rw[h];omega
  ·rw[h];exact c2 q hq
 have hhi:zBf l t.pairs 0≤zBf l t.pairs t.hi:=by
  rcases b3 with h|⟨q,hq,h⟩
  ·rw[h];omega
  ·rw[h];exact d2 q hq
 have hB:BandE (zCg t l) (zBg l t.pairs 60) (zBf l t.pairs 0):=⟨pL l,hin,fun j hj=>hf j (join_mem.2 (.inl hj)),fun q hq=>⟨a2 q hq,b2 q hq⟩⟩
 have:=hev.min _ _ (by rw[e1];exact hlo) (by rw[e2];exact hhi) hB
 omega
set_option maxHeartbeats 16000000 in
theorem ret7(hi:Off is)(t:Ts)(bits:List Int)(n0 n1:Int)(r21:RetP Try.prog is orc 21 [] (.bool true)):RetP Try.prog is orc 7 [t.u,.lst .ro 1 (zO bits),.agg [.int .i64 n0,.int .i64 n1]] (.bool true):=by
 have q35:=ret35 (orc:=orc) hi t
 refine yE body7 pure7 (hi 7 (by decide)) rfl rfl (zHL (zAg t 4) (wT 6 .ro (fun h=>by cases h) 1 bits) (.agg _ _ (yZ (.int _ _ _) (.int _ _ _)))) (.inl (.bool _ _)) ?_
 cases hv:ym t with
 |false=>
  rw[hv]at q35
  refine kQ (yA rfl rfl (yA rfl rfl (zC rfl (zA ?_))))
  refine zK [(1,.lst .ro 1 (zO bits)),(3,U.box 0 0),(5,U.box 1 0)] ([SB.box t.cs,SB.box [.int .i64 n0,.int .i64 n1]]) (.cons rfl (.cons rfl (.cons rfl (.nil rfl)))) rfl fun fr=>?_
  refine k_seq (kQ (zH rfl rfl rfl sh28 rfl (zP rfl (q35) (.lrefl _) (wS rfl rfl (zA (k_cT rfl rfl ?_))))))
  refine kQ (zP rfl (r21) (.lrefl _) (zC rfl (zA (zb ?_))))
  refine⟨.inr rfl,_,.cons _ _ _ _ (.tmp 6) .nil,?_⟩
  exact .refl _
 |true=>
  rw[hv]at q35
  have hok:=(zAS t).1 hv
  have hn1:=hok.n1
  have hn8:=hok.n8
  have q36:=ret36 (orc:=orc) hi hok bits
  have hin:∀v,Key t v→InH t v (pL (drwL t bits t.heard.length) v):=fun v hv=>drw_in hok bits hv
  have hll:=drw_len t bits t.heard.length
  generalize drwL t bits t.heard.length=l at q36 hin hll
  have hb:∀v,Key t v→1≤pL l v∧pL l v≤4000:=fun v hv=>zHs hok.sok hv (hin v hv)
  have q37:=ret37 (orc:=orc) hi hok hll hb
  cases hvx:ym (zCg t l)with
  |false=>
   rw[hvx]at q37
   refine kQ (yA rfl rfl (yA rfl rfl (zC rfl (zA ?_))))
   refine zK [(1,.lst .ro 1 (zO bits)),(3,U.box 0 0),(5,U.box 1 0)] ([SB.box t.cs,SB.box [.int .i64 n0,.int .i64 n1]]) (.cons rfl (.cons rfl (.cons rfl (.nil rfl)))) rfl fun fr=>?_
   refine k_seq (kQ (zH rfl rfl rfl sh28 rfl (zP rfl (q35) (.lrefl _) (wS rfl rfl (zA (k_cF rfl rfl ?_))))))
   refine zQ (kQ (zH rfl rfl rfl sh28 rfl (zB rfl (zP rfl (q36) (.lrefl _) (zC rfl (zA (kQ (zH rfl rfl rfl sh28 rfl ?_))))))))
   refine zB rfl (zP rfl (q37) (.lrefl _) (zB rfl (zY rfl rfl rfl (zY rfl rfl rfl (zT rfl ze28 ?_)))))
   refine zJ rfl rfl sh28 rfl rfl rfl rfl rfl ?_
   refine zC rfl (zA ?_)
   refine zK [(3,U.box 0 0),(5,U.box 1 0),(7,.lst .ro 1 (zO l)),(8,U.box 2 0),(9,.bool false)] ([SB.box t.cs,SB.box [.int .i64 n0,.int .i64 n1],SB.box [.lst .ro 2 (zV (Ts.heard (zCg t l))),.lst .ro 2 (yn (Ts.scales (zCg t l))),.lst .ro 2 (zV (Ts.pairs (zCg t l))),.int .i64 (Ts.lo (zCg t l)),.int .i64 (Ts.hi (zCg t l))]]) (.c4 rfl rfl rfl rfl (.cons rfl (.nil rfl))) rfl fun fr=>?_
   refine k_seq (kQ (zB rfl (wS rfl rfl (zA (k_cT rfl rfl ?_)))))
   refine kQ (zP rfl (r21) (.lrefl _) (zC rfl (zA (zb ?_))))
   refine⟨.inr rfl,_,.cons _ _ _ _ (.tmp 6) .nil,?_⟩
   exact .refl _
  |true=>
   rw[hvx]at q37
   have hx:=(zAS _).1 hvx
   have hf:∀j∈zc (zCg t l),Fit j (pL l j.one) (pL l j.two):=fun j hj=>ease_fit hok hb hx hj
   obtain⟨X,hX⟩:∃X,X=zCg t l:=⟨_,rfl⟩
   have hXh:X.heard=t.heard:=by rw[hX];rfl
   have hXp:X.pairs=t.pairs:=by rw[hX];rfl
   rw[←hX]at hvx hx hf q37
   have hKX:∀v,Key X v↔Key t v:=fun v=>by unfold Key;rw[hXh]
   have hIX:∀v y,InH X v y↔InH t v y:=fun v y=>by unfold InH hloT hhiT;rw[hXh]
   have htun:TunT X (zc X) (pL l):=⟨fun v h1 h2=>(hIX v _).2 (hin v ((hKX v).1 ⟨h1,h2⟩)),hf⟩
   have htE:TunE X (zc X):=⟨_,htun⟩
   have htB:tunB X (zc X)=true:=(zBh hx.sok).2 htE
   have heX:errT X=0:=(zHG X).2 htB
   have q38a:=ret38 (orc:=orc) hi n0 t.heard.length (by omega)
   have q38b:=ret38 (orc:=orc) hi n1 t.heard.length (by omega)
   have ha:Key t (zAi n0 t.heard.length):=zEq (by omega)
   have hbk:Key t (zAi n1 t.heard.length):=zEq (by omega)
   generalize zAi n0 t.heard.length=a at q38a ha
   generalize zAi n1 t.heard.length=b at q38b hbk
   have haX:=(hKX a).2 ha
   have hbX:=(hKX b).2 hbk
   have hlX:l.length=X.heard.length:=by rw[hll,hXh]
   have q15:=ret15 (orc:=orc) hi hx l hlX
   have hbr:(zc X).any (brkB l)=false:=List.any_eq_false.2 fun j hj=>by rw[brk_iff.2 (hf j hj)];decide
   rw[(inB_iff hlX).2 (fun v hv=>(hIX v _).2 (hin v ((hKX v).1 hv))),hbr]at q15
   have p22:=ret22 (orc:=orc) hi X a
   have p24:=ret24 (orc:=orc) hi X a (pL l a)
   have p26:=ret26 (orc:=orc) hi X a b
   have p32:=ret32 (orc:=orc) hi X
   have p28:=ret28 (orc:=orc) hi X
   unfold pitU at p22
   unfold apaU at p26
   rw[ask_one hvx haX,heX]at p22 p24
   rw[ask_two hvx haX hbX,heX]at p26
   rw[if_pos rfl]at p22 p26
   have hin2:InH X a (pL l a):=(hIX a _).2 (hin a ha)
   have hcan:canB X a (pL l a)=true:=by
    rw[canB_just hx hvx htB haX hin2,decide_eq_true_eq]
    exact(just_tun hx haX hin2).2 ⟨pL l,htun,rfl⟩
   rw[hcan]at p24
   have hw:wrongL X=[]:=by unfold wrongL;rw[if_pos hvx];exact wro_none hx.sok htE
   rw[hw,hvx,if_pos rfl]at p32
   obtain⟨⟨p1,k1,k2⟩,k3⟩:=ut_low hx.sok htE haX
   obtain⟨⟨p2,k4,k5⟩,k6⟩:=ut_high hx.sok htE haX
   have e1:=k3 _ htun
   have e2:=k6 _ htun
   have i1:=k1.1 a haX.1 haX.2
   have i2:=k4.1 a haX.1 haX.2
   simp only at k2 k5 e1 e2
   have f1:=(ap_low hx.sok htE haX hbX).2 _ htun
   have f2:=(ap_high hx.sok htE haX hbX).2 _ htun
   simp only at f1 f2
   have eLo:hloT X a=hloT t a:=by unfold hloT;rw[hXh]
   have eHi:hhiT X a=hhiT t a:=by unfold hhiT;rw[hXh]
   rw[eLo,eHi]at i1 i2
   rw[k2]at i1
   rw[k5]at i2
   generalize utP X (zc X) false a=P1 at p22 e1 i1
   generalize utP X (zc X) true a=P2 at p22 e2 i2
   generalize apI X (zc X) a b false=D1 at p26 f1
   generalize apI X (zc X) a b true=D2 at p26 f2
   obtain⟨h,hh,ea1,ea2,hhb⟩:=hok.sok.key ha
   rw[ea1,ea2]at i1 i2
   have la:l[a.toNat]? =some (pL l a):=by unfold pL;rw[List.getElem?_eq_getElem (by have:=ha.1;have:=ha.2;omega)];rfl
   have lb:l[b.toNat]? =some (pL l b):=by unfold pL;rw[List.getElem?_eq_getElem (by have:=hbk.1;have:=hbk.2;omega)];rfl
   have ba:=hb a ha
   have bb:=hb b hbk
   have q39a:=ret39 (orc:=orc) hi P1 P2 (pL l a)
   rw[decide_eq_true (show P1≤pL l a from e1),decide_eq_true (show pL l a≤P2 from e2)]at q39a
   have q39b:=ret39 (orc:=orc) hi D1 D2 (pL l b - pL l a)
   rw[decide_eq_true f1,decide_eq_true f2]at q39b
   have q40:=ret40 (orc:=orc) hi P1 P2 h.a h.b
   rw[decide_eq_true i1.1,decide_eq_true i2.2]at q40
   have hlen:l.length≤8:=by omega
   rw[←hll]at q38a q38b
   have hbt:=hx.bt
   have q41:=ret41 (orc:=orc) hi 0 0
   refine kQ (yA rfl rfl (yA rfl rfl (zC rfl (zA ?_))))
   refine zK [(1,.lst .ro 1 (zO bits)),(3,U.box 0 0),(5,U.box 1 0)] ([SB.box t.cs,SB.box [.int .i64 n0,.int .i64 n1]]) (.cons rfl (.cons rfl (.cons rfl (.nil rfl)))) rfl fun fr=>?_
   refine k_seq (kQ (zH rfl rfl rfl sh28 rfl (zP rfl (q35) (.lrefl _) (wS rfl rfl (zA (k_cF rfl rfl ?_))))))
   refine zQ (kQ (zH rfl rfl rfl sh28 rfl (zB rfl (zP rfl (q36) (.lrefl _) (zC rfl (zA (kQ (zH rfl rfl rfl sh28 rfl ?_))))))))
   refine zB rfl (zP rfl (q37) (.lrefl _) (zB rfl (zY rfl rfl rfl (zY rfl rfl rfl (zT rfl ze28 ?_)))))
   refine zJ rfl rfl sh28 rfl rfl rfl rfl rfl ?_
   refine zC rfl (zA ?_)
   refine zK [(3,U.box 0 0),(5,U.box 1 0),(7,.lst .ro 1 (zO l)),(8,U.box 2 0),(9,.bool true)] ([SB.box t.cs,SB.box [.int .i64 n0,.int .i64 n1],SB.box X.cs]) (.c4 rfl rfl rfl rfl (.cons rfl (.nil rfl))) rfl fun fr=>?_
   refine k_seq (kQ (zB rfl (wS rfl rfl (zA (k_cF rfl rfl ?_)))))
   refine zQ (k_seq (yr [.plain,.read true,.plain,.read true,.read false,.plain,.read true,.plain,.read true,.plain,.plain,.plain] (by kernel_rfl) (by kernel_rfl) (by kernel_rfl) ?_))
   refine zD (wC rfl ty48 rfl rfl (by omega) (by omega) cl3 (zA rfl)) ?_
   refine zS rfl (zF rfl rfl rfl sh3 rfl (zA rfl)) (zD (zB rfl (zA rfl)) (zS rfl (zw rfl ty29 rfl (List.length_map _) (zA rfl)) ?_))
   refine wF rfl (q38a) (.int _ _) (.lrefl _) ?_
   refine zD (wC rfl ty48 rfl rfl (by omega) (by omega) cl3 (zA rfl)) ?_
   refine zS rfl (zF rfl rfl rfl sh3 rfl (zA rfl)) (zD (zB rfl (zA rfl)) (zS rfl (zw rfl ty29 rfl (List.length_map _) (zA rfl)) ?_))
   refine zD (zP rfl (q38b) (.lrefl _) (zA rfl)) ?_
   refine zD (zC rfl (zA rfl)) ?_
   refine zD (zC rfl (zA rfl)) ?_
   refine wc ?_
   refine zK [(3,U.box 0 0),(7,.lst .ro 1 (zO l)),(8,U.box 2 0),(10,.int .i64 a),(11,.int .i64 b)] ([SB.box t.cs,SB.box [.int .i64 n0,.int .i64 n1],SB.box X.cs]) (.c4 rfl rfl rfl rfl (.cons rfl (.nil rfl))) rfl fun fr=>?_
   refine kQ (zH rfl rfl rfl sh28 rfl (zB rfl (zP rfl (q15) (.lrefl _) (zB rfl (zY rfl rfl rfl (zY rfl rfl rfl (zC rfl (zC rfl ?_))))))))
   refine zA (kQ (zH rfl rfl rfl sh28 rfl (zB rfl (zP rfl (p22) (.lrefl _) (zB rfl (zY rfl rfl rfl (zY rfl rfl rfl (zT rfl ze26 ?_))))))))
   refine zJ rfl rfl sh26 rfl rfl rfl rfl rfl ?_
   refine zC rfl (zA ?_)
   refine zK [(3,U.box 0 0),(7,.lst .ro 1 (zO l)),(8,U.box 2 0),(10,.int .i64 a),(11,.int .i64 b),(12,U.bool (Bool.true&& !Bool.false)),(13,.int .i64 0),(14,U.box 3 0),(15,.int .i64 0)] ([SB.box t.cs,SB.box [.int .i64 n0,.int .i64 n1],SB.box X.cs,SB.box [.int .i64 P1,.int .i64 P2]]) (.c4 rfl rfl rfl rfl (.c4 rfl rfl rfl rfl (.cons rfl (.nil rfl)))) rfl fun fr=>?_
   refine k_seq (yr [.read true,.plain,.plain,.plain,.plain,.read true,.plain,.plain,.plain,.plain,.plain,.plain] (by kernel_rfl) (by kernel_rfl) (by kernel_rfl) ?_)
   refine zS rfl (zH rfl rfl rfl sh28 rfl (zA rfl)) ?_
   refine zD (zB rfl (zA rfl)) (zD (zB rfl (zA rfl)) (zD (zB rfl (zA rfl)) ?_))
   refine zD (zq (u:=.int .i64 (pL l a)) rfl ty29 rfl rfl (by omega) (by rw[List.getElem?_map,la];rfl) cl3 (zA rfl)) ?_
   refine zS rfl (zW rfl rfl sh3 rfl (zA rfl)) ?_
   refine zD (zP rfl (p24) (.lrefl _) (zA rfl)) ?_
   refine zD (zB rfl (zA rfl)) (zD (zY rfl rfl rfl (zA rfl)) ?_)
   refine zD (zY rfl rfl rfl (zA rfl)) ?_
   refine zD (zC rfl (zA rfl)) ?_
   refine zD (zC rfl (zA rfl)) ?_
   refine wc ?_
   refine kQ (zH rfl rfl rfl sh28 rfl (zB rfl (zB rfl (zP rfl (p26) (.lrefl _) (zB rfl (zY rfl rfl rfl (zY rfl rfl rfl (zT rfl ze26 ?_))))))))
   refine zJ rfl rfl sh26 rfl rfl rfl rfl rfl ?_
   refine zC rfl (zA ?_)
   refine zK [(3,U.box 0 0),(7,.lst .ro 1 (zO l)),(8,U.box 2 0),(10,.int .i64 a),(11,.int .i64 b),(12,U.bool (Bool.true&& !Bool.false)),(13,.int .i64 0),(14,U.box 3 0),(15,.int .i64 0),(16,.bool true),(17,.int .i64 0),(18,U.box 4 0),(19,.int .i64 0)] ([SB.box t.cs,SB.box [.int .i64 n0,.int .i64 n1],SB.box X.cs,SB.box [.int .i64 P1,.int .i64 P2],SB.box [.int .i64 D1,.int .i64 D2]]) (.c4 rfl rfl rfl rfl (.c4 rfl rfl rfl rfl (.c4 rfl rfl rfl rfl (.cons rfl (.nil rfl))))) rfl fun fr=>?_
   refine kQ (zH rfl rfl rfl sh28 rfl (zP rfl (p32) (.lrefl _) (zB rfl (zY rfl rfl rfl (zY rfl rfl rfl (zC rfl (zC rfl (zA ?_))))))))
   refine k_seq (k_seq (yr [.plain,.plain,.plain,.plain,.plain,.plain,.plain,.plain,.plain,.plain,.plain,.plain,.plain,.plain,.plain,.plain,.plain,.plain,.plain,.plain,.plain,.plain,.plain,.plain,.plain,.plain,.plain,.read true,.plain,.plain,.plain,.read true,.plain,.plain,.plain,.plain,.read true,.plain,.plain,.plain,.read true,.plain,.plain,.plain,.read true,.plain,.plain,.plain,.plain,.plain,.plain,.plain,.plain,.plain,.plain,.read true,.plain,.read true,.plain,.plain,.read true,.plain,.plain,.plain] (by kernel_rfl) (by kernel_rfl) (by kernel_rfl) ?_))
   refine zD (zB rfl (zA rfl)) (zD (zAd rfl rfl rfl (zA rfl)) ?_)
   refine zD (zB rfl (zA rfl)) (d_gD rfl rfl rfl rfl rfl (zD (zB rfl (zA rfl)) (d_gD rfl rfl rfl rfl rfl (zD (zAd rfl rfl rfl (zA rfl)) ?_))))
   refine zD (zh rfl rfl rfl (zA rfl)) ?_
   refine zD (zB rfl (zA rfl)) (d_gD rfl rfl rfl rfl rfl (zD (zB rfl (zA rfl)) (d_gD rfl rfl rfl rfl rfl (zD (zAd rfl rfl rfl (zA rfl)) ?_))))
   refine wI [(3,U.box 0 0),(7,.lst .ro 1 (zO l)),(8,U.box 2 0),(10,.int .i64 a),(11,.int .i64 b),(12,U.bool (Bool.true&& !Bool.false)),(14,U.box 3 0),(16,.bool true),(18,U.box 4 0),(19,.int .i64 0),(20,.lst .ro 1 (zO [])),(21,.int .i64 0),(92,U.bool (decide ((0:Int)≠(0:Int)))),(94,U.bool (decide ((0:Int)≠(0:Int))))] [] ([SB.box t.cs,SB.box [.int .i64 n0,.int .i64 n1],SB.box X.cs,SB.box [.int .i64 P1,.int .i64 P2],SB.box [.int .i64 D1,.int .i64 D2]]) (.c4 rfl rfl rfl rfl (.c4 rfl rfl rfl rfl (.c4 rfl rfl rfl rfl (.cons rfl (.cons rfl (.nil rfl)))))) rfl rfl fun fr=>?_
   refine zD (zh rfl rfl rfl (zA rfl)) ?_
   refine zD (zB rfl (zA rfl)) (d_gD rfl rfl rfl rfl rfl (zD (zB rfl (zA rfl)) (d_gD rfl rfl rfl rfl rfl (zD (zAd rfl rfl rfl (zA rfl)) ?_))))
   refine zD (zh rfl rfl rfl (zA rfl)) ?_
   refine zD (zB rfl (zA rfl)) (d_gD rfl rfl rfl rfl rfl (zD (zB rfl (zA rfl)) (d_gD rfl rfl rfl rfl rfl (zD (zAd rfl rfl rfl (zA rfl)) ?_))))
   refine zD (zh rfl rfl rfl (zA rfl)) ?_
   refine wI [(3,U.box 0 0),(7,.lst .ro 1 (zO l)),(8,U.box 2 0),(10,.int .i64 a),(11,.int .i64 b),(12,U.bool (Bool.true&& !Bool.false)),(14,U.box 3 0),(16,.bool true),(18,U.box 4 0),(20,.lst .ro 1 (zO [])),(103,U.bool (decide ((0:Int)≠(0:Int))))] [] ([SB.box t.cs,SB.box [.int .i64 n0,.int .i64 n1],SB.box X.cs,SB.box [.int .i64 P1,.int .i64 P2],SB.box [.int .i64 D1,.int .i64 D2]]) (.c4 rfl rfl rfl rfl (.c4 rfl rfl rfl rfl (.cons rfl (.cons rfl (.cons rfl (.nil rfl)))))) rfl rfl fun fr=>?_
   refine zD (zB rfl (zA rfl)) (d_gD rfl rfl rfl rfl rfl (zD (zB rfl (zA rfl)) (d_gD rfl rfl rfl rfl rfl (zD (wS rfl rfl (zA rfl)) ?_))))
   refine zD (zh rfl rfl rfl (zA rfl)) ?_
   refine zD (zB rfl (zA rfl)) (d_gD rfl rfl rfl rfl rfl (zD (zB rfl (zA rfl)) (d_gD rfl rfl rfl rfl rfl (zD (wS rfl rfl (zA rfl)) ?_))))
   refine zD (zh rfl rfl rfl (zA rfl)) ?_
   refine zD (zB rfl (zA rfl)) ?_
   refine wI [(3,U.box 0 0),(7,.lst .ro 1 (zO l)),(8,U.box 2 0),(10,.int .i64 a),(11,.int .i64 b),(14,U.box 3 0),(18,U.box 4 0),(20,.lst .ro 1 (zO [])),(112,U.bool !Bool.true)] [] ([SB.box t.cs,SB.box [.int .i64 n0,.int .i64 n1],SB.box X.cs,SB.box [.int .i64 P1,.int .i64 P2],SB.box [.int .i64 D1,.int .i64 D2]]) (.c4 rfl rfl rfl rfl (.c4 rfl rfl rfl rfl (.cons rfl (.nil rfl)))) rfl rfl fun fr=>?_
   refine d_gD rfl rfl rfl rfl rfl ?_
   refine wI [(3,U.box 0 0),(7,.lst .ro 1 (zO l)),(8,U.box 2 0),(10,.int .i64 a),(11,.int .i64 b),(14,U.box 3 0),(18,U.box 4 0),(20,.lst .ro 1 (zO [])),(112,U.bool !Bool.true)] [] ([SB.box t.cs,SB.box [.int .i64 n0,.int .i64 n1],SB.box X.cs,SB.box [.int .i64 P1,.int .i64 P2],SB.box [.int .i64 D1,.int .i64 D2]]) (.c4 rfl rfl rfl rfl (.c4 rfl rfl rfl rfl (.cons rfl (.nil rfl)))) rfl rfl fun fr=>?_
   refine zS rfl (zH rfl rfl rfl sh26 rfl (zA rfl)) ?_
   refine d_gD rfl rfl rfl rfl rfl (zD (zB rfl (zA rfl)) (d_gD rfl rfl rfl rfl rfl (zD (zB rfl (zA rfl)) (d_gD rfl rfl rfl rfl rfl ?_))))
   refine zD (zq (u:=.int .i64 (pL l a)) rfl ty29 rfl rfl (by omega) (by rw[List.getElem?_map,la];rfl) cl3 (zA rfl)) ?_
   refine d_gD rfl rfl rfl rfl rfl (zS rfl (zW rfl rfl sh3 rfl (zA rfl)) ?_)
   refine d_gD rfl rfl rfl rfl rfl (zD (zP rfl (q39a) (.lrefl _) (zA rfl)) ?_)
   refine d_gD rfl rfl rfl rfl rfl (zD (wS rfl rfl (zA rfl)) ?_)
   refine zD (zh rfl rfl rfl (zA rfl)) ?_
   refine zD (zB rfl (zA rfl)) ?_
   refine wI [(3,U.box 0 0),(7,.lst .ro 1 (zO l)),(8,U.box 2 0),(10,.int .i64 a),(11,.int .i64 b),(14,U.box 3 0),(18,U.box 4 0),(20,.lst .ro 1 (zO [])),(121,U.bool !(Bool.true&&Bool.true))] [] ([SB.box t.cs,SB.box [.int .i64 n0,.int .i64 n1],SB.box X.cs,SB.box [.int .i64 P1,.int .i64 P2],SB.box [.int .i64 D1,.int .i64 D2]]) (.c4 rfl rfl rfl rfl (.c4 rfl rfl rfl rfl (.cons rfl (.nil rfl)))) rfl rfl fun fr=>?_
   refine d_gD rfl rfl rfl rfl rfl ?_
   refine wI [(3,U.box 0 0),(7,.lst .ro 1 (zO l)),(8,U.box 2 0),(10,.int .i64 a),(11,.int .i64 b),(14,U.box 3 0),(18,U.box 4 0),(20,.lst .ro 1 (zO [])),(121,U.bool !(Bool.true&&Bool.true))] [] ([SB.box t.cs,SB.box [.int .i64 n0,.int .i64 n1],SB.box X.cs,SB.box [.int .i64 P1,.int .i64 P2],SB.box [.int .i64 D1,.int .i64 D2]]) (.c4 rfl rfl rfl rfl (.c4 rfl rfl rfl rfl (.cons rfl (.nil rfl)))) rfl rfl fun fr=>?_
   refine zS rfl (zH rfl rfl rfl sh26 rfl (zA rfl)) ?_
   refine d_gD rfl rfl rfl rfl rfl (zD (zB rfl (zA rfl)) (d_gD rfl rfl rfl rfl rfl (zD (zB rfl (zA rfl)) (d_gD rfl rfl rfl rfl rfl ?_))))
   refine zD (zq (u:=.int .i64 (pL l b)) rfl ty29 rfl rfl (by omega) (by rw[List.getElem?_map,lb];rfl) cl3 (zA rfl)) ?_
   refine d_gD rfl rfl rfl rfl rfl (zS rfl (zW rfl rfl sh3 rfl (zA rfl)) ?_)
   refine d_gD rfl rfl rfl rfl rfl (zD (zB rfl (zA rfl)) (d_gD rfl rfl rfl rfl rfl (zD (zB rfl (zA rfl)) (d_gD rfl rfl rfl rfl rfl ?_))))
   refine zD (zq (u:=.int .i64 (pL l a)) rfl ty29 rfl rfl (by omega) (by rw[List.getElem?_map,la];rfl) cl3 (zA rfl)) ?_
   refine d_gD rfl rfl rfl rfl rfl (zS rfl (zW rfl rfl sh3 rfl (zA rfl)) ?_)
   refine wI [(3,U.box 0 0),(7,.lst .ro 1 (zO l)),(8,U.box 2 0),(10,.int .i64 a),(14,U.box 3 0),(20,.lst .ro 1 (zO [])),(121,U.bool !(Bool.true&&Bool.true)),(122,U.agg [.int .i64 D1,.int .i64 D2]),(126,.int .i64 (pL l b)),(130,.int .i64 (pL l a))] [] ([SB.box t.cs,SB.box [.int .i64 n0,.int .i64 n1],SB.box X.cs,SB.box [.int .i64 P1,.int .i64 P2],SB.box [.int .i64 D1,.int .i64 D2]]) (.c4 rfl rfl rfl rfl (.c4 rfl rfl rfl rfl (.cons rfl (.cons rfl (.nil rfl))))) rfl rfl fun fr=>?_
   refine d_gD rfl rfl rfl rfl rfl ?_
   refine wI [(3,U.box 0 0),(7,.lst .ro 1 (zO l)),(8,U.box 2 0),(10,.int .i64 a),(14,U.box 3 0),(20,.lst .ro 1 (zO [])),(121,U.bool !(Bool.true&&Bool.true)),(122,U.agg [.int .i64 D1,.int .i64 D2]),(126,.int .i64 (pL l b)),(130,.int .i64 (pL l a))] [] ([SB.box t.cs,SB.box [.int .i64 n0,.int .i64 n1],SB.box X.cs,SB.box [.int .i64 P1,.int .i64 P2],SB.box [.int .i64 D1,.int .i64 D2]]) (.c4 rfl rfl rfl rfl (.c4 rfl rfl rfl rfl (.cons rfl (.cons rfl (.nil rfl))))) rfl rfl fun fr=>?_
   refine zD (zAW rfl rfl rfl (by unfold I64;omega) (zA rfl)) ?_
   refine d_gD rfl rfl rfl rfl rfl (zD (zP rfl (q39b) (.lrefl _) (zA rfl)) ?_)
   refine d_gD rfl rfl rfl rfl rfl (zD (wS rfl rfl (zA rfl)) ?_)
   refine zD (zh rfl rfl rfl (zA rfl)) ?_
   refine zD (zB rfl (zA rfl)) (d_gD rfl rfl rfl rfl rfl (zD (zB rfl (zA rfl)) (d_gD rfl rfl rfl rfl rfl (zD (zw rfl ty29 rfl (List.length_map _) (zA rfl)) ?_))))
   refine d_gD rfl rfl rfl rfl rfl (zD (zAd rfl rfl rfl (zA rfl)) ?_)
   refine zD (zh rfl rfl rfl (zA rfl)) ?_
   refine wI [(3,U.box 0 0),(7,.lst .ro 1 (zO l)),(8,U.box 2 0),(10,.int .i64 a),(14,U.box 3 0),(139,U.bool (decide (↑(List.length [])≠(0:Int))))] [] ([SB.box t.cs,SB.box [.int .i64 n0,.int .i64 n1],SB.box X.cs,SB.box [.int .i64 P1,.int .i64 P2],SB.box [.int .i64 D1,.int .i64 D2]]) (.c4 rfl rfl rfl rfl (.cons rfl (.cons rfl (.nil rfl)))) rfl rfl fun fr=>?_
   refine zD (zB rfl (zA rfl)) (d_gD rfl rfl rfl rfl rfl (zS rfl (zH rfl rfl rfl sh26 rfl (zA rfl)) ?_))
   refine d_gD rfl rfl rfl rfl rfl (zD (zE rfl rfl yG (zA rfl)) ?_)
   refine d_gD rfl rfl rfl rfl rfl (zS rfl (zF rfl rfl rfl sh22 rfl (zA rfl)) (d_gD rfl rfl rfl rfl rfl (zD (zB rfl (zA rfl)) (d_gD rfl rfl rfl rfl rfl ?_))))
   refine zD (zq (u:=h.u) rfl ty22 rfl rfl (by omega) (by rw[List.getElem?_map,hh];rfl) cl26 (zA rfl)) ?_
   refine d_gD rfl rfl rfl rfl rfl (zS rfl (zo rfl rfl sh26 rfl (zA rfl)) ?_)
   refine d_gD rfl rfl rfl rfl rfl (zD (zP rfl (q40) (.lrefl _) (zA rfl)) ?_)
   refine d_gD rfl rfl rfl rfl rfl (zD (wS rfl rfl (zA rfl)) ?_)
   refine wI [(7,.lst .ro 1 (zO l)),(8,U.box 2 0),(140,U.bool (decide (↑(List.length [])≠(0:Int)))),(148,U.bool !(Bool.true&&Bool.true))] [] ([SB.box t.cs,SB.box [.int .i64 n0,.int .i64 n1],SB.box X.cs,SB.box [.int .i64 P1,.int .i64 P2],SB.box [.int .i64 D1,.int .i64 D2]]) (.c4 rfl rfl rfl rfl (.nil rfl)) rfl rfl fun fr=>?_
   refine zD (zh rfl rfl rfl (zA rfl)) ?_
   refine wc ?_
   refine zK [(7,.lst .ro 1 (zO l)),(8,U.box 2 0),(149,U.bool !(Bool.true&&Bool.true))] ([SB.box t.cs,SB.box [.int .i64 n0,.int .i64 n1],SB.box X.cs,SB.box [.int .i64 P1,.int .i64 P2],SB.box [.int .i64 D1,.int .i64 D2]]) (.cons rfl (.cons rfl (.cons rfl (.nil rfl)))) rfl fun fr=>?_
   refine k_cF rfl rfl ?_
   refine zQ ?_
   by_cases hp:X.pairs.length=0
   ·have e:evE X=4:=by unfold evE;rw[if_pos hvx,if_pos hp]
    have e2':evP X=(0,0):=by unfold evP;rw[e];rfl
    rw[e,e2']at p28
    refine kQ (zH rfl rfl rfl sh28 rfl (zP rfl (p28) (.lrefl _) (zB rfl (zY rfl rfl rfl (zY rfl rfl rfl (zT rfl ze26 ?_))))))
    refine zJ rfl rfl sh26 rfl rfl rfl rfl rfl ?_
    refine zC rfl (zA ?_)
    refine zK [(7,.lst .ro 1 (zO l)),(8,U.box 2 0),(13,.int .i64 4),(22,U.box 5 0)] ([SB.box t.cs,SB.box [.int .i64 n0,.int .i64 n1],SB.box X.cs,SB.box [.int .i64 P1,.int .i64 P2],SB.box [.int .i64 D1,.int .i64 D2],SB.box [.int .i64 (Prod.fst ((0:Int),(0:Int))),.int .i64 (Prod.snd ((0:Int),(0:Int)))]]) (.c4 rfl rfl rfl rfl (.nil rfl)) rfl fun fr=>?_
    refine k_seq (kQ (zE rfl rfl wE (zF rfl rfl rfl sh24 rfl (zw rfl ty24 rfl (List.length_map _) ?_))))
    refine zBB rfl rfl rfl (zA (k_cT rfl (decide_eq_true (by omega)) (k_seq (yr [.plain,.plain,.plain,.read true,.read false,.plain,.plain,.plain,.plain,.plain,.plain] (by kernel_rfl) (by kernel_rfl) (by kernel_rfl) ?_))))
    refine zD (zB rfl (zA rfl)) (zD (zBB rfl rfl rfl (zA rfl)) ?_)
    refine zD (zB rfl (zA rfl)) (d_gD rfl rfl rfl rfl rfl (zS rfl (zH rfl rfl rfl sh26 rfl (zA rfl)) ?_))
    refine d_gD rfl rfl rfl rfl rfl (wF rfl (q41) (zBG _ _) (.lrefl _) ?_)
    refine d_gD rfl rfl rfl rfl rfl (zD (o_binK rfl rfl rfl rfl rfl (spn_same _ _) (zA rfl)) ?_)
    refine zD (zd rfl rfl rfl (zA rfl)) ?_
    refine zD (zB rfl (zA rfl)) (d_gD rfl rfl rfl rfl rfl (zD (zP rfl (r21) (.lrefl _) (zA rfl)) ?_))
    refine zD (zd rfl rfl rfl (zA rfl)) ?_
    refine zD (zC rfl (zA rfl)) ?_
    refine wc ?_
    refine zb ?_
    refine⟨.inr rfl,_,.cons _ _ _ _ (.tmp 6) .nil,?_⟩
    exact .refl _
   ·have e:evE X=0:=by unfold evE;rw[if_pos hvx,if_neg hp,heX]
    have e2':evP X=evA X:=by unfold evP;rw[e];rfl
    have hev:=ev_ex hx hp heX
    rw[e,e2']at p28
    obtain⟨A,B,hAB⟩:∃A B,evA X=(A,B):=⟨_,_,rfl⟩
    rw[hAB]at hev p28
    simp only at hev p28
    have q41z:=ret41 (orc:=orc) hi 60 0
    have hpn:X.pairs≠[]:=fun h=>hp (by rw[h];rfl)
    have hwid:B - A≤zBf l X.pairs 0 - zBg l X.pairs 60:=by
     rw[hXp]
     rw[hX]at hev
     exact ease_band (by rw[←hX];exact hx) (by rw[←hXp];exact hpn) hin (by rw[←hX];exact hf) hev
    have hnp:=hx.sh.np
    have hlo:=hev.lo
    have hhi:=hev.hi
    have hAB2:=hev.tun.le hpn
    have q40b:=ret40 (orc:=orc) hi A B X.lo X.hi
    rw[decide_eq_true hlo,decide_eq_true hhi]at q40b
    refine kQ (zH rfl rfl rfl sh28 rfl (zP rfl (p28) (.lrefl _) (zB rfl (zY rfl rfl rfl (zY rfl rfl rfl (zT rfl ze26 ?_))))))
    refine zJ rfl rfl sh26 rfl rfl rfl rfl rfl ?_
    refine zC rfl (zA ?_)
    refine zK [(7,.lst .ro 1 (zO l)),(8,U.box 2 0),(13,.int .i64 0),(22,U.box 5 0)] ([SB.box t.cs,SB.box [.int .i64 n0,.int .i64 n1],SB.box X.cs,SB.box [.int .i64 P1,.int .i64 P2],SB.box [.int .i64 D1,.int .i64 D2],SB.box [.int .i64 A,.int .i64 B]]) (.c4 rfl rfl rfl rfl (.nil rfl)) rfl fun fr=>?_
    refine k_seq (kQ (zE rfl rfl wE (zF rfl rfl rfl sh24 rfl (zw rfl ty24 rfl (List.length_map _) ?_))))
    refine zBB rfl rfl rfl (zA (k_cF rfl (decide_eq_false (by omega)) (zQ (kQ (zP rfl (q41z) (.lrefl _) (zT rfl ze26 ?_))))))
    refine zJ rfl rfl sh26 rfl rfl rfl rfl rfl ?_
    refine zA ?_
    refine zK [(7,.lst .ro 1 (zO l)),(8,U.box 2 0),(13,.int .i64 0),(22,U.box 5 0),(23,U.box 6 0)] ([SB.box t.cs,SB.box [.int .i64 n0,.int .i64 n1],SB.box X.cs,SB.box [.int .i64 P1,.int .i64 P2],SB.box [.int .i64 D1,.int .i64 D2],SB.box [.int .i64 A,.int .i64 B],SB.box [.int .i64 60,.int .i64 0]]) (.c4 rfl rfl rfl rfl (.cons rfl (.nil rfl))) rfl fun fr=>?_
    refine k_seq (kQ (zC rfl (zA (zN ?_))))
    obtain⟨V,hV⟩:∃V:List SB,V=[.box t.cs,.box [.int .i64 n0,.int .i64 n1],.box X.cs,.box [.int .i64 P1,.int .i64 P2],.box [.int .i64 D1,.int .i64 D2],.box [.int .i64 A,.int .i64 B]]:=⟨_,rfl⟩
    refine yg (fun k3 s3=>∃(m:Nat),k3+m=X.pairs.length∧s3.st=V++[.box [.int .i64 (zBg l (X.pairs.take m) 60),.int .i64 (zBf l (X.pairs.take m) 0)]]∧Holds s3 [(7,.lst .ro 1 (zO l)),(8,.box 2 0),(13,.int .i64 0),(22,.box 5 0),(23,.box 6 0),(24,.int .i64 m)]) (fun k3 s3 hI3=>?_) X.pairs.length _ ⟨0,rfl,by rw[hV];rfl,.c4 rfl rfl rfl rfl (.cons rfl (.cons rfl (.nil rfl)))⟩
    obtain⟨m,hk3,hst3,hs3⟩:=hI3
    obtain⟨LA,hLA⟩:∃LA,LA=zBg l (X.pairs.take m) 60:=⟨_,rfl⟩
    obtain⟨LB,hLB⟩:∃LB,LB=zBf l (X.pairs.take m) 0:=⟨_,rfl⟩
    rw[←hLA,←hLB,hV]at hst3
    refine zK _ _ hs3 hst3 fun fr3=>?_
    by_cases hm:m<X.pairs.length
    ·obtain⟨q,hq⟩:∃q,X.pairs[m]? =some q:=⟨X.pairs[m],List.getElem?_eq_getElem hm⟩
     obtain⟨_,ra,rb⟩:=hx.pr q (List.mem_of_getElem? hq)
     have la:l[q.a.toNat]? =some (pL l q.a):=by unfold pL;rw[List.getElem?_eq_getElem (by omega)];rfl
     have lb:l[q.b.toNat]? =some (pL l q.b):=by unfold pL;rw[List.getElem?_eq_getElem (by omega)];rfl
     have pa:=hb q.a ((hKX _).1 ra)
     have pb:=hb q.b ((hKX _).1 rb)
     have sa:zBg l (X.pairs.take (m+1)) 60=min LA (pL l q.b - pL l q.a):=by rw[hLA];unfold zBg;rw[List.take_add_one,hq,List.foldl_append];rfl
     have sb:zBf l (X.pairs.take (m+1)) 0=max LB (pL l q.b - pL l q.a):=by rw[hLB];unfold zBf;rw[List.take_add_one,hq,List.foldl_append];rfl
     rw[←hlX]at ra rb
     generalize pL l q.a=pa0 at pa la sa sb
     generalize pL l q.b=pb0 at pb lb sa sb
     have r41:=ret41 (orc:=orc) hi (min LA (pb0 - pa0)) (max LB (pb0 - pa0))
     refine k_seq (kQ (zB rfl (zE rfl rfl wE (zF rfl rfl rfl sh24 rfl (zw rfl ty24 rfl (List.length_map _) ?_)))))
     refine zf rfl rfl rfl (zA (k_cT rfl (decide_eq_true (by omega)) (zQ (k_seq (zN (k_seq (yr [.plain,.plain,.read true,.plain,.plain,.plain,.read true,.plain,.read true,.plain,.plain,.read true,.plain,.plain,.plain,.read true,.plain,.read true,.plain,.plain] (by kernel_rfl) (by kernel_rfl) (by kernel_rfl) ?_)))))))
     refine zD (zB rfl (zA rfl)) (zD (zE rfl rfl wE (zA rfl)) ?_)
     refine zS rfl (zF rfl rfl rfl sh24 rfl (zA rfl)) (zD (zB rfl (zA rfl)) (zD (zq (u:=(q).u) rfl ty24 rfl rfl (Int.natCast_nonneg _) (by simp[hq]) cl48 (zA rfl)) ?_))
     refine zD (zHo rfl ty48 rfl rfl (by omega) (by omega) cl3 (zA rfl)) ?_
     refine zS rfl (zW rfl rfl sh3 rfl (zA rfl)) ?_
     refine zD (zq (u:=.int .i64 pb0) rfl ty29 rfl rfl (by omega) (by rw[List.getElem?_map,lb];rfl) cl3 (zA rfl)) ?_
     refine zS rfl (zW rfl rfl sh3 rfl (zA rfl)) ?_
     refine wI [(7,.lst .ro 1 (zO l)),(8,U.box 2 0),(13,.int .i64 0),(22,U.box 5 0),(23,U.box 6 0),(24,.int .i64 ↑m),(185,.int .i64 pb0)] [] ([SB.box t.cs,SB.box [.int .i64 n0,.int .i64 n1],SB.box X.cs,SB.box [.int .i64 P1,.int .i64 P2],SB.box [.int .i64 D1,.int .i64 D2],SB.box [.int .i64 A,.int .i64 B],SB.box [.int .i64 LA,.int .i64 LB]]) (.c4 rfl rfl rfl rfl (.cons rfl (.cons rfl (.cons rfl (.nil rfl))))) rfl rfl fun fr=>?_
     refine zD (zB rfl (zA rfl)) (zD (zE rfl rfl wE (zA rfl)) ?_)
     refine zS rfl (zF rfl rfl rfl sh24 rfl (zA rfl)) (zD (zB rfl (zA rfl)) (zD (zq (u:=(q).u) rfl ty24 rfl rfl (Int.natCast_nonneg _) (by simp[hq]) cl48 (zA rfl)) ?_))
     refine zD (zHo rfl ty48 rfl rfl (by omega) (by omega) cl3 (zA rfl)) ?_
     refine zS rfl (zW rfl rfl sh3 rfl (zA rfl)) ?_
     refine zD (zq (u:=.int .i64 pa0) rfl ty29 rfl rfl (by omega) (by rw[List.getElem?_map,la];rfl) cl3 (zA rfl)) ?_
     refine zS rfl (zW rfl rfl sh3 rfl (zA rfl)) ?_
     refine wI [(7,.lst .ro 1 (zO l)),(8,U.box 2 0),(13,.int .i64 0),(22,U.box 5 0),(23,U.box 6 0),(24,.int .i64 ↑m),(185,.int .i64 pb0),(194,.int .i64 pa0)] [] ([SB.box t.cs,SB.box [.int .i64 n0,.int .i64 n1],SB.box X.cs,SB.box [.int .i64 P1,.int .i64 P2],SB.box [.int .i64 D1,.int .i64 D2],SB.box [.int .i64 A,.int .i64 B],SB.box [.int .i64 LA,.int .i64 LB]]) (.c4 rfl rfl rfl rfl (.c4 rfl rfl rfl rfl (.nil rfl))) rfl rfl fun fr=>?_
     refine zD (zAW rfl rfl rfl (by unfold I64;omega) (zA rfl)) ?_
     refine zD (zC rfl (zA rfl)) ?_
     refine wc ?_
     refine zK [(7,.lst .ro 1 (zO l)),(8,U.box 2 0),(13,.int .i64 0),(22,U.box 5 0),(23,U.box 6 0),(24,.int .i64 ↑m),(25,.int .i64 (pb0 - pa0))] ([SB.box t.cs,SB.box [.int .i64 n0,.int .i64 n1],SB.box X.cs,SB.box [.int .i64 P1,.int .i64 P2],SB.box [.int .i64 D1,.int .i64 D2],SB.box [.int .i64 A,.int .i64 B],SB.box [.int .i64 LA,.int .i64 LB]]) (.c4 rfl rfl rfl rfl (.cons rfl (.cons rfl (.cons rfl (.nil rfl))))) rfl fun fr=>?_
     refine k_region (zE rfl rfl zk (zF rfl rfl rfl sh3 rfl (zB rfl (o_min rfl rfl rfl ?_))))
     refine zE rfl rfl zp (zF rfl rfl rfl sh3 rfl (zB rfl (o_max rfl rfl rfl ?_)))
     refine zP rfl (r41) (.lrefl _) (zJ rfl rfl sh26 rfl rfl rfl rfl rfl ?_)
     refine zA (k_region (zB rfl ?_))
     refine yT rfl rfl rfl (by unfold I64;omega) (zC rfl (zA ?_))
     exact⟨k3 - 1,by omega,m+1,by omega,(by rw[sa,sb,hV];rfl),.c4 rfl rfl rfl rfl (.cons rfl (.cons rfl (.nil rfl)))⟩
    ·have hmN:m=X.pairs.length:=by omega
     subst hmN
     rw[List.take_length]at hLA hLB
     rw[←hLA,←hLB]at hwid
     obtain⟨a1,a2,a3⟩:=zDi l X.pairs 60
     obtain⟨b1,b2,b3⟩:=zDh l X.pairs 0
     rw[←hLA]at a1 a3
     rw[←hLB]at b1 b3
     have hLAb: -4000≤LA:=by
      rcases a3 with h|⟨q,hq,h⟩
      ·omega
      ·obtain⟨_,ra,rb⟩:=hx.pr q hq
       have:=hb q.a ((hKX _).1 ra)
       have:=hb q.b ((hKX _).1 rb)
       omega
     have hLBb:LB≤4000:=by
      rcases b3 with h|⟨q,hq,h⟩
      ·omega
      ·obtain⟨_,ra,rb⟩:=hx.pr q hq
       have:=hb q.a ((hKX _).1 ra)
       have:=hb q.b ((hKX _).1 rb)
       omega
     refine k_seq (kQ (zB rfl (zE rfl rfl wE (zF rfl rfl rfl sh24 rfl (zw rfl ty24 rfl (List.length_map _) ?_)))))
     refine zf rfl rfl rfl (zA (k_cF rfl (decide_eq_false (by omega)) (yO (kQ (zB rfl (zBB rfl rfl rfl (zB rfl (o_gD rfl rfl rfl rfl rfl ?_))))))))
     refine zE rfl rfl zp (o_gD rfl rfl rfl rfl rfl (zF rfl rfl rfl sh3 rfl (o_gD rfl rfl rfl rfl rfl (zE rfl rfl zk (o_gD rfl rfl rfl rfl rfl (zF rfl rfl rfl sh3 rfl (o_gD rfl rfl rfl rfl rfl ?_)))))))
     refine zAW rfl rfl rfl (by unfold I64;omega) (o_gD rfl rfl rfl rfl rfl (zE rfl rfl zp ?_))
     refine yR [(8,U.box 2 0),(22,U.box 5 0),(23,U.box 6 0),(207,U.bool (decide ((0:Int)=(0:Int)))),(212,.int .i64 (B - A)),(213,U.box 6 1)] [] ([SB.box t.cs,SB.box [.int .i64 n0,.int .i64 n1],SB.box X.cs,SB.box [.int .i64 P1,.int .i64 P2],SB.box [.int .i64 D1,.int .i64 D2],SB.box [.int .i64 A,.int .i64 B],SB.box [.int .i64 LA,.int .i64 LB]]) (.c4 rfl rfl rfl rfl (.cons rfl (.cons rfl (.nil rfl)))) rfl rfl fun fr=>?_
     refine o_gD rfl rfl rfl rfl rfl ?_
     refine yR [(8,U.box 2 0),(22,U.box 5 0),(23,U.box 6 0),(207,U.bool (decide ((0:Int)=(0:Int)))),(212,.int .i64 (B - A)),(213,U.box 6 1)] [] ([SB.box t.cs,SB.box [.int .i64 n0,.int .i64 n1],SB.box X.cs,SB.box [.int .i64 P1,.int .i64 P2],SB.box [.int .i64 D1,.int .i64 D2],SB.box [.int .i64 A,.int .i64 B],SB.box [.int .i64 LA,.int .i64 LB]]) (.c4 rfl rfl rfl rfl (.cons rfl (.cons rfl (.nil rfl)))) rfl rfl fun fr=>?_
     refine zF rfl rfl rfl sh3 rfl (o_gD rfl rfl rfl rfl rfl (zE rfl rfl zk (o_gD rfl rfl rfl rfl rfl (zF rfl rfl rfl sh3 rfl (o_gD rfl rfl rfl rfl rfl ?_)))))
     refine zAW rfl rfl rfl (by unfold I64;omega) (o_gD rfl rfl rfl rfl rfl (wq rfl rfl rfl (zd rfl rfl rfl ?_)))
     refine zB rfl (o_gD rfl rfl rfl rfl (decide_eq_true (by omega)) ?_)
     refine zH rfl rfl rfl sh26 rfl (o_gD rfl rfl rfl rfl (decide_eq_true (by omega)) ?_)
     refine zE rfl rfl zAD ?_
     refine yR [(220,U.bool (decide (B - A≤LB - LA))),(221,U.agg [.int .i64 A,.int .i64 B]),(222,U.box 2 3)] [] ([SB.box t.cs,SB.box [.int .i64 n0,.int .i64 n1],SB.box X.cs,SB.box [.int .i64 P1,.int .i64 P2],SB.box [.int .i64 D1,.int .i64 D2],SB.box [.int .i64 A,.int .i64 B],SB.box [.int .i64 LA,.int .i64 LB]]) (.cons rfl (.cons rfl (.cons rfl (.nil rfl)))) rfl rfl fun fr=>?_
     refine o_gD rfl rfl rfl rfl (decide_eq_true (by omega)) ?_
     refine yR [(220,U.bool (decide (B - A≤LB - LA))),(221,U.agg [.int .i64 A,.int .i64 B]),(222,U.box 2 3)] [] ([SB.box t.cs,SB.box [.int .i64 n0,.int .i64 n1],SB.box X.cs,SB.box [.int .i64 P1,.int .i64 P2],SB.box [.int .i64 D1,.int .i64 D2],SB.box [.int .i64 A,.int .i64 B],SB.box [.int .i64 LA,.int .i64 LB]]) (.cons rfl (.cons rfl (.cons rfl (.nil rfl)))) rfl rfl fun fr=>?_
     refine zH rfl rfl rfl sh26 rfl (o_gD rfl rfl rfl rfl (decide_eq_true (by omega)) ?_)
     refine zP rfl (q40b) (.lrefl _) (zd rfl rfl (decide_eq_true (by omega)) ?_)
     refine zB rfl (o_gD rfl rfl rfl rfl rfl (zP rfl (r21) (.lrefl _) (zd rfl rfl rfl ?_)))
     refine zC rfl (zA (zb ?_))
     refine⟨.inr rfl,_,.cons _ _ _ _ (.tmp 6) .nil,?_⟩
     exact .refl _
end
section
variable {is:FuncId→Bool}{orc:Known}
theorem ret7_all(hi:Off is)(r21:RetP Try.prog is orc 21 [] (.bool true)):∀us,ShpAs Try.prog [28,29,48] us→RetP Try.prog is orc 7 us (.bool true):=by
 intro us h
 cases h with
 |cons _ _ u us h1 h=>cases h with
 |cons _ _ v us h2 h=>cases h with
 |cons _ _ w us h3 h=>
 cases h
 obtain⟨fs,hu⟩:=und28
 unfold ShpA at h1 h2 h3
 rw[hu]at h1
 rw[u29]at h2
 rw[u48]at h3
 obtain⟨t,rfl⟩:=arg_set h1
 obtain⟨l,rfl⟩:=arg_ints h2
 obtain⟨a,b,rfl⟩:=arg_two h3
 exact ret7 hi t l a b r21
end
end Go.Proofs.Ytinhcdijbcamaaa.tuneTrue
