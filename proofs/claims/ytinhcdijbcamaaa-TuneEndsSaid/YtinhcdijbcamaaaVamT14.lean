import Derived.Test.YtinhcdijbcamaaaVamT13
set_option linter.unusedVariables false
set_option linter.unusedSimpArgs false
set_option linter.constructorNameAsVariable false
namespace Go.Proofs.Ytinhcdijbcamaaa.tuneEnds
open Vam
section
variable {is:FuncId→Bool}{orc:Known}
variable {t:Ts}{J:List Jn}{v x:Int}
theorem just_tun(h:TOk t)(hv:Key t v)(hx:InH t v x):errT (putS t v ⟨x,x⟩)=0↔ ∃p,TunT t (zP t) p∧p v=x:=by
 have hb:=in_pos h.sok hv hx
 have hk:TOk (putS t v ⟨x,x⟩):=put_ok h (show 1≤x∧x≤x∧x≤4000∧x - x≤40 by omega)
 rw[errT_0,tunB_iff hk.sok]
 constructor
 ·rintro⟨p,hp⟩
  exact⟨p,(wD (J:=zP t) hv hx p).1 hp⟩
 ·rintro⟨p,hp⟩
  exact⟨p,(wD (J:=zP t) hv hx p).2 hp⟩
theorem fit_S(h:TOk t){j:Jn}(hj:j∈zP t){p:Int→Int}(hp:∀v,Key t v→1≤p v∧p v≤4000)(hf:Fit j (p j.one) (p j.two)):fitS p j=true:=by
 have hr:=h.sok.jr j hj
 have h1:=hp j.one hr.1
 unfold fitS
 rcases List.mem_append.1 hj with hj|hj
 ·obtain⟨q,hq,hjq⟩:=List.mem_flatMap.1 hj
  obtain⟨k0,_,_,s,hs,e1,e2⟩:=mem_sclJ (h.sh.sc q hq).1 hjq
  have hsb:=h.ss q hq s hs
  have m1:=mul_c (a:=j.lo) (b:=p j.one) (n:=5000) (m:=4000) (by omega) (by omega)
  have m2:=mul_c (a:=j.hi) (b:=p j.one) (n:=5000) (m:=4000) (by omega) (by omega)
  unfold Fit Jn.alo Jn.ahi at hf
  rw[if_pos k0,if_pos k0]at hf
  rw[if_pos k0,Bool.and_eq_true,decide_eq_true_eq,decide_eq_true_eq]
  have f1:=(up_le (b:=1000) (by omega) m1.1).1 hf.1
  have f2:=hf.2
  rw[Int.tdiv_eq_ediv_of_nonneg m2.1]at f2
  omega
 ·obtain⟨q,hq,rfl⟩:=List.mem_map.1 hj
  unfold Fit Jn.alo Jn.ahi at hf
  rw[if_neg (show ¬ (pairJ t q).kd=0 from by show ¬ (2:Int)=0;decide),if_neg (show ¬ (pairJ t q).kd=1 from by show ¬ (2:Int)=1;decide),if_pos (show(pairJ t q).kd=2 from rfl),if_neg (show ¬ (pairJ t q).kd=0 from by show ¬ (2:Int)=0;decide),if_neg (show ¬ (pairJ t q).kd=1 from by show ¬ (2:Int)=1;decide),if_pos (show(pairJ t q).kd=2 from rfl)]at hf
  rw[if_neg (show ¬ (pairJ t q).kd=0 from by show ¬ (2:Int)=0;decide),Bool.and_eq_true,decide_eq_true_eq,decide_eq_true_eq]
  omega
theorem tun_L(h:SOk t J)(ht:TunE t J):∃p,TunT t J p∧∀v,Key t v→(tunL t J t.heard.length)[v.toNat]? =some (p v):=by
 obtain⟨_,⟨p,hp⟩,hq⟩:=nrw_ok h ht t.heard.length (Nat.le_refl _)
 obtain⟨h1,h2⟩:=(hq p).1 hp
 refine⟨p,h1,fun v hv=>?_⟩
 have hlt:v.toNat<t.heard.length:=by have:=hv.1;have:=hv.2;omega
 unfold tunL
 rw[List.getElem?_map,List.getElem?_range hlt]
 have:=h2 v.toNat hlt
 rw[show((v.toNat:Nat):Int)=v by have:=hv.1;omega]at this
 rw[this];rfl
theorem fits_congr{p q:Int→Int}{j:Jn}(h1:p j.one=q j.one)(h2:p j.two=q j.two):fitS p j=fitS q j:=by unfold fitS;rw[h1,h2]
theorem tun_fits(h:TOk t)(ht:TunE t (zP t)):∃p,TunT t (zP t) p∧(∀v,Key t v→(tunL t (zP t) t.heard.length)[v.toNat]? =some (p v))∧(zP t).all (fitS (pL (tunL t (zP t) t.heard.length)))=true:=by
 obtain⟨p,hp,hL⟩:=tun_L h.sok ht
 refine⟨p,hp,hL,?_⟩
 rw[List.all_eq_true]
 intro j hj
 have hr:=h.sok.jr j hj
 have e:∀v,Key t v→pL (tunL t (zP t) t.heard.length) v=p v:=fun v hv=>by unfold pL;rw[hL v hv];rfl
 rw[fits_congr (e _ hr.1) (e _ hr.2)]
 exact fit_S h hj (fun v hv=>tun_in h.sok hp hv) (hp.2 j hj)
theorem just_band(h:TOk t)(ht:TunE t (zP t)){a b:Int}(ha:Key t a)(hb:Key t b)(hx:InH t a x)(he:errT (putS t a ⟨x,x⟩)=0):
  apI t (zP t) a b false≤utP (putS t a ⟨x,x⟩) (zP t) false b - x∧utP (putS t a ⟨x,x⟩) (zP t) true b - x≤apI t (zP t) a b true:=by
 have hbb:=in_pos h.sok ha hx
 have hk:TOk (putS t a ⟨x,x⟩):=put_ok h (show 1≤x∧x≤x∧x≤4000∧x - x≤40 by omega)
 have hte:=(tunB_iff hk.sok).1 ((errT_0 _).1 he)
 have hb':Key (putS t a ⟨x,x⟩) b:=by unfold Key putS;simpa using hb
 obtain⟨⟨p1,hp1,e1⟩,_⟩:=ut_low hk.sok hte hb'
 obtain⟨⟨p2,hp2,e2⟩,_⟩:=ut_high hk.sok hte hb'
 obtain⟨g1,g2⟩:=(wD (J:=zP t) ha hx p1).1 hp1
 obtain⟨g3,g4⟩:=(wD (J:=zP t) ha hx p2).1 hp2
 have l1:=(ap_low h.sok ht ha hb).2 p1 g1
 have l2:=(ap_high h.sok ht ha hb).2 p2 g3
 have e1:p1 b=utP (putS t a ⟨x,x⟩) (zP t) false b:=e1
 have e2:p2 b=utP (putS t a ⟨x,x⟩) (zP t) true b:=e2
 simp only at l1 l2
 omega
theorem just_reach(h:TOk t)(ht:TunE t (zP t)){a b:Int}(ha:Key t a)(hb:Key t b)(w:Bool):∃x,(utP t (zP t) false a≤x∧x≤utP t (zP t) true a)∧errT (putS t a ⟨x,x⟩)=0∧utP (putS t a ⟨x,x⟩) (zP t) w b - x=apI t (zP t) a b w:=by
 have key:∃p,TunT t (zP t) p∧p b - p a=apI t (zP t) a b w:=by
  cases w with
  |false=>exact(ap_low h.sok ht ha hb).1
  |true=>exact(ap_high h.sok ht ha hb).1
 obtain⟨p,hp,e⟩:=key
 have hin:InH t a (p a):=hp.1 a ha.1 ha.2
 have he:errT (putS t a ⟨p a,p a⟩)=0:=(just_tun h ha hin).2 ⟨p,hp,rfl⟩
 refine⟨p a,⟨(ut_low h.sok ht ha).2 p hp,(ut_high h.sok ht ha).2 p hp⟩,he,?_⟩
 have hbb:=in_pos h.sok ha hin
 have hk:TOk (putS t a ⟨p a,p a⟩):=put_ok h (show 1≤p a∧p a≤p a∧p a≤4000∧p a - p a≤40 by omega)
 have hte:=(tunB_iff hk.sok).1 ((errT_0 _).1 he)
 have hb':Key (putS t a ⟨p a,p a⟩) b:=by unfold Key putS;simpa using hb
 have hpn:TunT (putS t a ⟨p a,p a⟩) (zP (putS t a ⟨p a,p a⟩)) p:=(wD (J:=zP t) ha hin p).2 ⟨hp,rfl⟩
 obtain⟨b1,b2⟩:=just_band h ht ha hb hin he
 cases w with
 |false=>
  have:=(ut_low hk.sok hte hb').2 p hpn
  have this:utP (putS t a ⟨p a,p a⟩) (zP t) false b≤p b:=this
  omega
 |true=>
  have:=(ut_high hk.sok hte hb').2 p hpn
  have this:p b≤utP (putS t a ⟨p a,p a⟩) (zP t) true b:=this
  omega
end
section
variable {is:FuncId→Bool}{orc:Known}
noncomputable def b8:Code:=(Try.f8.body).getD .skip
theorem body8:bodyOf Try.prog 8=some (257,b8,[.tmp 4]):=by kernel_rfl
theorem pure8:pureFn Try.prog 8=true:=by kernel_rfl
variable {t:Ts}{J:List Jn}{v x:Int}
noncomputable def farB(t:Ts)(a b:Int)(w:Bool)(i:Nat):Bool:=(List.range i).any fun j:Nat=>decide (errT (putS t a ⟨utP t (zP t) false a+j,utP t (zP t) false a+j⟩)=0)&&decide (utP (putS t a ⟨utP t (zP t) false a+j,utP t (zP t) false a+j⟩) (zP t) w b - (utP t (zP t) false a+j)=apI t (zP t) a b w)
theorem farB_succ(t:Ts)(a b:Int)(w:Bool)(i:Nat):farB t a b w (i+1)=(farB t a b w i||(decide (errT (putS t a ⟨utP t (zP t) false a+i,utP t (zP t) false a+i⟩)=0)&&decide (utP (putS t a ⟨utP t (zP t) false a+i,utP t (zP t) false a+i⟩) (zP t) w b - (utP t (zP t) false a+i)=apI t (zP t) a b w))):=by
 unfold farB;rw[List.range_succ,List.any_append];simp
theorem farB_all{a b:Int}{w:Bool}{N:Nat}(hN:N=(utP t (zP t) true a+1 - utP t (zP t) false a).toNat)(h:∃x,(utP t (zP t) false a≤x∧x≤utP t (zP t) true a)∧errT (putS t a ⟨x,x⟩)=0∧utP (putS t a ⟨x,x⟩) (zP t) w b - x=apI t (zP t) a b w):farB t a b w N=true:=by
 obtain⟨x,⟨h1,h2⟩,h3,h4⟩:=h
 unfold farB
 rw[List.any_eq_true]
 refine⟨(x - utP t (zP t) false a).toNat,List.mem_range.2 (by omega),?_⟩
 rw[show utP t (zP t) false a+((x - utP t (zP t) false a).toNat:Int)=x by omega,decide_eq_true h3,decide_eq_true h4];rfl
theorem canB_just(hok:TOk t)(hv:validI t=true)(ht:tunB t (zP t)=true)(ha:Key t v)(hx:InH t v x):canB t v x=decide (errT (putS t v ⟨x,x⟩)=0):=by
 rw[canB_val hv ha,ht,decide_eq_true (show hloT t v≤x∧x≤hhiT t v from hx),Bool.true_and,Bool.true_and]
 have hn:tunB (yB t v x) (zP t)=tunB (putS t v ⟨x,x⟩) (zP (putS t v ⟨x,x⟩)):=rfl
 rw[hn]
 cases hrb:tunB (putS t v ⟨x,x⟩) (zP (putS t v ⟨x,x⟩))with
 |false=>rw[decide_eq_false (fun h=>by rw[(errT_0 _).1 h]at hrb;cases hrb)]
 |true=>rw[decide_eq_true ((errT_0 _).2 hrb)]
set_option maxHeartbeats 16000000 in
theorem ret8(hi:Off is)(t:Ts)(n0 n1:Int)(r21:RetP Try.prog is orc 21 [] (.bool true)):RetP Try.prog is orc 8 [t.u,.agg [.int .i64 n0,.int .i64 n1]] (.bool true):=by
 have q35:=ret35 (orc:=orc) hi t
 refine yR body8 pure8 (hi 8 (by decide)) rfl rfl (wB (dat_ts t 4) (.agg _ _ (wB (.int _ _ _) (.int _ _ _)))) (.inl (.bool _ _)) ?_
 cases hv:validI t with
 |false=>
  rw[hv]at q35
  refine kQ (yK rfl rfl (yK rfl rfl (zD rfl (zA ?_))))
  refine zL [(2,U.box 0 0),(3,U.box 1 0)] ([SB.box t.cs,SB.box [.int .i64 n0,.int .i64 n1]]) (.cons rfl (.cons rfl (.nil rfl))) rfl fun fr=>?_
  refine k_seq (kQ (zJ rfl rfl rfl sh28 rfl (zT rfl (q35) (.lrefl _) (o_not rfl rfl (zA (k_cT rfl rfl ?_))))))
  refine kQ (zT rfl (r21) (.lrefl _) (zD rfl (zA (ze ?_))))
  refine⟨.inr rfl,_,.cons _ _ _ _ (.tmp 4) .nil,?_⟩
  exact .refl _
 |true=>
  rw[hv]at q35
  have hok:=(valid_iff t).1 hv
  have hs:=hok.sok
  have hn1:=hok.n1
  have hn8:=hok.n8
  have q1:=ret38 (orc:=orc) hi n0 t.heard.length (by omega)
  have q2:=ret38 (orc:=orc) hi n1 t.heard.length (by omega)
  have ha:Key t (turnI n0 t.heard.length):=turnI_b (by omega)
  have hb:Key t (turnI n1 t.heard.length):=turnI_b (by omega)
  generalize turnI n0 t.heard.length=a at q1 ha
  generalize turnI n1 t.heard.length=b at q2 hb
  have p22:=ret22 (orc:=orc) hi t a
  have p26:=ret26 (orc:=orc) hi t a b
  have p19:=ret19 (orc:=orc) hi t
  unfold pitU at p22
  unfold apaU at p26
  unfold tunR at p19
  rw[ask_one hv ha]at p22
  rw[ask_two hv ha hb]at p26
  rw[ask_nil hv]at p19
  have q41:=ret41 (orc:=orc) hi 0 0
  cases htb:tunB t (zP t)with
  |false=>
   have he:errT t=12:=by unfold errT;rw[htb];rfl
   rw[he,if_neg (by decide)]at p22 p26 p19
   refine kQ (yK rfl rfl (yK rfl rfl (zD rfl (zA ?_))))
   refine zL [(2,U.box 0 0),(3,U.box 1 0)] ([SB.box t.cs,SB.box [.int .i64 n0,.int .i64 n1]]) (.cons rfl (.cons rfl (.nil rfl))) rfl fun fr=>?_
   refine k_seq (kQ (zJ rfl rfl rfl sh28 rfl (zT rfl (q35) (.lrefl _) (o_not rfl rfl (zA (k_cF rfl rfl ?_))))))
   refine zU (k_seq (yr [.plain,.read true,.plain,.read true,.read true,.read false,.plain,.read true,.plain,.read true,.read true,.plain,.plain,.plain] (by kernel_rfl) (by kernel_rfl) (by kernel_rfl) ?_))
   refine zC (wA rfl ty48 rfl rfl (by omega) (by omega) cl3 (zA rfl)) ?_
   refine zM rfl (zF rfl rfl rfl sh3 rfl (zA rfl)) (zC (zE rfl rfl zx (zA rfl)) ?_)
   refine zM rfl (zF rfl rfl rfl sh22 rfl (zA rfl)) (zM rfl (yP rfl ty22 rfl (List.length_map _) (zA rfl)) ?_)
   refine d_callR rfl (q1) (.int _ _) (.lrefl _) ?_
   refine zC (wA rfl ty48 rfl rfl (by omega) (by omega) cl3 (zA rfl)) ?_
   refine zM rfl (zF rfl rfl rfl sh3 rfl (zA rfl)) (zC (zE rfl rfl zx (zA rfl)) ?_)
   refine yk [(2,U.box 0 0),(32,.int .i64 a),(34,.int .i64 n1),(35,U.box 0 0)] [] ([SB.box t.cs,SB.box [.int .i64 n0,.int .i64 n1]]) (.c4 rfl rfl rfl rfl (.nil rfl)) rfl rfl fun fr=>?_
   refine zM rfl (zF rfl rfl rfl sh22 rfl (zA rfl)) (zM rfl (yP rfl ty22 rfl (List.length_map _) (zA rfl)) ?_)
   refine zC (zT rfl (q2) (.lrefl _) (zA rfl)) ?_
   refine zC (zD rfl (zA rfl)) ?_
   refine zC (zD rfl (zA rfl)) ?_
   refine d_nil ?_
   refine zL [(2,U.box 0 0),(5,.int .i64 a),(6,.int .i64 b)] ([SB.box t.cs,SB.box [.int .i64 n0,.int .i64 n1]]) (.cons rfl (.cons rfl (.cons rfl (.nil rfl)))) rfl fun fr=>?_
   refine kQ (zJ rfl rfl rfl sh28 rfl (zB rfl (zT rfl (p22) (.lrefl _) (zB rfl (zS rfl rfl rfl (zS rfl rfl rfl (zV rfl ze26 ?_)))))))
   refine zN rfl rfl sh26 rfl rfl rfl rfl rfl ?_
   refine zD rfl (zA ?_)
   refine zL [(2,U.box 0 0),(5,.int .i64 a),(6,.int .i64 b),(7,U.box 2 0),(8,.int .i64 12)] ([SB.box t.cs,SB.box [.int .i64 n0,.int .i64 n1],SB.box [.int .i64 0,.int .i64 0]]) (.c4 rfl rfl rfl rfl (.cons rfl (.nil rfl))) rfl fun fr=>?_
   refine kQ (zJ rfl rfl rfl sh28 rfl (zB rfl (zB rfl (zT rfl (p26) (.lrefl _) (zB rfl (zS rfl rfl rfl (zS rfl rfl rfl (zV rfl ze26 ?_))))))))
   refine zN rfl rfl sh26 rfl rfl rfl rfl rfl ?_
   refine zD rfl (zA ?_)
   refine zL [(2,U.box 0 0),(5,.int .i64 a),(6,.int .i64 b),(7,U.box 2 0),(8,.int .i64 12),(9,U.box 3 0),(10,.int .i64 12)] ([SB.box t.cs,SB.box [.int .i64 n0,.int .i64 n1],SB.box [.int .i64 0,.int .i64 0],SB.box [.int .i64 0,.int .i64 0]]) (.c4 rfl rfl rfl rfl (.cons rfl (.cons rfl (.cons rfl (.nil rfl))))) rfl fun fr=>?_
   refine kQ (zJ rfl rfl rfl sh28 rfl (zT rfl (p19) (.lrefl _) (zB rfl (zS rfl rfl rfl (zS rfl rfl rfl (zD rfl (zD rfl (zA ?_))))))))
   refine k_seq (kQ (zB rfl (zB rfl (o_neq rfl rfl rfl (zB rfl (o_gD rfl rfl rfl rfl rfl (zB rfl (o_gD rfl rfl rfl rfl rfl ?_))))))))
   refine zB rfl (o_gD rfl rfl rfl rfl rfl (o_neq rfl rfl rfl (zd rfl rfl rfl ?_)))
   refine zA ?_
   refine zL [(2,U.box 0 0),(5,.int .i64 a),(6,.int .i64 b),(7,U.box 2 0),(8,.int .i64 12),(9,U.box 3 0),(11,.lst .ro 1 (zg [])),(64,U.bool (decide ((12:Int)≠(12:Int))))] ([SB.box t.cs,SB.box [.int .i64 n0,.int .i64 n1],SB.box [.int .i64 0,.int .i64 0],SB.box [.int .i64 0,.int .i64 0]]) (.c4 rfl rfl rfl rfl (.c4 rfl rfl rfl rfl (.nil rfl))) rfl fun fr=>?_
   refine k_cF rfl rfl ?_
   refine zU (k_seq (kQ (zB rfl (o_neq rfl rfl rfl (zA (k_cT rfl rfl ?_))))))
   refine k_seq (yr [.plain,.plain,.plain,.read true,.read false,.plain,.plain,.plain,.read true,.read true,.plain,.plain,.plain,.plain,.plain,.plain,.plain,.plain,.plain,.plain,.plain] (by kernel_rfl) (by kernel_rfl) (by kernel_rfl) ?_)
   refine zC (zB rfl (zA rfl)) (zC (o_eql rfl rfl rfl (zA rfl)) ?_)
   refine zC (zB rfl (zA rfl)) (d_gD rfl rfl rfl rfl rfl (zM rfl (zJ rfl rfl rfl sh26 rfl (zA rfl)) ?_))
   refine d_gD rfl rfl rfl rfl rfl (d_callR rfl (q41) (flat_span _ _) (.lrefl _) ?_)
   refine d_gD rfl rfl rfl rfl rfl (zC (o_binK rfl rfl rfl rfl rfl (spn_same _ _) (zA rfl)) ?_)
   refine zC (za rfl rfl rfl (zA rfl)) ?_
   refine zC (zB rfl (zA rfl)) (d_gD rfl rfl rfl rfl rfl (zM rfl (zJ rfl rfl rfl sh26 rfl (zA rfl)) ?_))
   refine yk [(7,U.box 2 0),(11,.lst .ro 1 (zg [])),(74,.bool true),(75,U.agg [.int .i64 0,.int .i64 0])] [] ([SB.box t.cs,SB.box [.int .i64 n0,.int .i64 n1],SB.box [.int .i64 0,.int .i64 0],SB.box [.int .i64 0,.int .i64 0]]) (.c4 rfl rfl rfl rfl (.nil rfl)) rfl rfl fun fr=>?_
   refine d_gD rfl rfl rfl rfl rfl ?_
   refine yk [(7,U.box 2 0),(11,.lst .ro 1 (zg [])),(74,.bool true),(75,U.agg [.int .i64 0,.int .i64 0])] [] ([SB.box t.cs,SB.box [.int .i64 n0,.int .i64 n1],SB.box [.int .i64 0,.int .i64 0],SB.box [.int .i64 0,.int .i64 0]]) (.c4 rfl rfl rfl rfl (.nil rfl)) rfl rfl fun fr=>?_
   refine zM rfl (zJ rfl rfl rfl sh26 rfl (zA rfl)) ?_
   refine d_gD rfl rfl rfl rfl rfl (zC (o_binK rfl rfl rfl rfl rfl (spn_same _ _) (zA rfl)) ?_)
   refine zC (za rfl rfl rfl (zA rfl)) ?_
   refine zC (zB rfl (zA rfl)) (d_gD rfl rfl rfl rfl rfl (zC (zB rfl (zA rfl)) (d_gD rfl rfl rfl rfl rfl (zC (yP rfl ty29 rfl (List.length_map _) (zA rfl)) ?_))))
   refine d_gD rfl rfl rfl rfl rfl (zC (o_eql rfl rfl rfl (zA rfl)) ?_)
   refine zC (za rfl rfl rfl (zA rfl)) ?_
   refine zC (zB rfl (zA rfl)) ?_
   refine yk [(84,U.bool (decide (↑(List.length [])=(0:Int))))] [] ([SB.box t.cs,SB.box [.int .i64 n0,.int .i64 n1],SB.box [.int .i64 0,.int .i64 0],SB.box [.int .i64 0,.int .i64 0]]) (.cons rfl (.nil rfl)) rfl rfl fun fr=>?_
   refine d_gD rfl rfl rfl rfl rfl ?_
   refine yk [(84,U.bool (decide (↑(List.length [])=(0:Int))))] [] ([SB.box t.cs,SB.box [.int .i64 n0,.int .i64 n1],SB.box [.int .i64 0,.int .i64 0],SB.box [.int .i64 0,.int .i64 0]]) (.cons rfl (.nil rfl)) rfl rfl fun fr=>?_
   refine zC (zT rfl (r21) (.lrefl _) (zA rfl)) ?_
   refine zC (za rfl rfl rfl (zA rfl)) ?_
   refine zC (zD rfl (zA rfl)) ?_
   refine d_nil ?_
   refine ze ?_
   refine⟨.inr rfl,_,.cons _ _ _ _ (.tmp 4) .nil,?_⟩
   exact .refl _
  |true=>
   have ht:=(tunB_iff hs).1 htb
   have he:errT t=0:=by unfold errT;rw[htb];rfl
   rw[he,if_pos rfl]at p22 p26 p19
   obtain⟨p,hp,hL,hfits⟩:=tun_fits hok ht
   have hLa:=hL a ha
   have hLb:=hL b hb
   have hll:(tunL t (zP t) t.heard.length).length=t.heard.length:=by unfold tunL;simp
   have hpl:∀y∈tunL t (zP t) t.heard.length,0≤y∧y≤4010:=fun y hy=>by
    obtain⟨k,hk,e⟩:=List.getElem_of_mem hy
    have hk2:Key t (k:Int):=by unfold Key;omega
    have:=hL k hk2
    rw[Int.toNat_natCast,List.getElem?_eq_getElem hk,e]at this
    have:=tun_in hs hp hk2
    simp_all
    omega
   have q42:=ret42 (orc:=orc) hi hok _ hll hpl
   rw[hfits]at q42
   have pa:=tun_in hs hp ha
   have pb:=tun_in hs hp hb
   obtain⟨q,hq,ea1,ea2,hqb⟩:=hs.key ha
   have plo:=(ut_low hs ht ha).2 p hp
   have phi:=(ut_high hs ht ha).2 p hp
   have dlo:=(ap_low hs ht ha hb).2 p hp
   have dhi:=(ap_high hs ht ha hb).2 p hp
   obtain⟨⟨p1,hp1,f1⟩,g1⟩:=ut_low hs ht ha
   obtain⟨⟨p2,hp2,f2⟩,g2⟩:=ut_high hs ht ha
   have r1:=hp1.1 a ha.1 ha.2
   have r2:=hp2.1 a ha.1 ha.2
   have bd1:=ap_b hs ht ha hb false
   have bd2:=ap_b hs ht ha hb true
   have jt:=fun x (hx:InH t a x)=>just_tun hok ha hx
   have jb:=fun x (hx:InH t a x) (h0:errT (putS t a ⟨x,x⟩)=0)=>just_band hok ht ha hb hx h0
   have fr0:=just_reach hok ht ha hb false
   have fr1:=just_reach hok ht ha hb true
   simp only at plo phi dlo dhi f1 g1 f2 g2
   have ff0:farB t a b false _=true:=farB_all rfl fr0
   have ff1:farB t a b true _=true:=farB_all rfl fr1
   have fs0:=farB_succ t a b false
   have fs1:=farB_succ t a b true
   generalize hPL:utP t (zP t) false a=PL at*
   generalize hPH:utP t (zP t) true a=PH at*
   generalize hDL:apI t (zP t) a b false=DL at*
   generalize hDH:apI t (zP t) a b true=DH at*
   generalize hT:tunL t (zP t) t.heard.length=T at*
   have q39a:=ret39 (orc:=orc) hi PL PH (p a)
   rw[decide_eq_true plo,decide_eq_true phi]at q39a
   have q39b:=ret39 (orc:=orc) hi DL DH (p b - p a)
   rw[decide_eq_true dlo,decide_eq_true dhi]at q39b
   have q40:=ret40 (orc:=orc) hi PL PH q.a q.b
   rw[decide_eq_true (show q.a≤PL by omega),decide_eq_true (show PH≤q.b by omega)]at q40
   refine kQ (yK rfl rfl (yK rfl rfl (zD rfl (zA ?_))))
   refine zL [(2,U.box 0 0),(3,U.box 1 0)] ([SB.box t.cs,SB.box [.int .i64 n0,.int .i64 n1]]) (.cons rfl (.cons rfl (.nil rfl))) rfl fun fr=>?_
   refine k_seq (kQ (zJ rfl rfl rfl sh28 rfl (zT rfl (q35) (.lrefl _) (o_not rfl rfl (zA (k_cF rfl rfl ?_))))))
   refine zU (k_seq (yr [.plain,.read true,.plain,.read true,.read true,.read false,.plain,.read true,.plain,.read true,.read true,.plain,.plain,.plain] (by kernel_rfl) (by kernel_rfl) (by kernel_rfl) ?_))
   refine zC (wA rfl ty48 rfl rfl (by omega) (by omega) cl3 (zA rfl)) ?_
   refine zM rfl (zF rfl rfl rfl sh3 rfl (zA rfl)) (zC (zE rfl rfl zx (zA rfl)) ?_)
   refine zM rfl (zF rfl rfl rfl sh22 rfl (zA rfl)) (zM rfl (yP rfl ty22 rfl (List.length_map _) (zA rfl)) ?_)
   refine d_callR rfl (q1) (.int _ _) (.lrefl _) ?_
   refine zC (wA rfl ty48 rfl rfl (by omega) (by omega) cl3 (zA rfl)) ?_
   refine zM rfl (zF rfl rfl rfl sh3 rfl (zA rfl)) (zC (zE rfl rfl zx (zA rfl)) ?_)
   refine yk [(2,U.box 0 0),(32,.int .i64 a),(34,.int .i64 n1),(35,U.box 0 0)] [] ([SB.box t.cs,SB.box [.int .i64 n0,.int .i64 n1]]) (.c4 rfl rfl rfl rfl (.nil rfl)) rfl rfl fun fr=>?_
   refine zM rfl (zF rfl rfl rfl sh22 rfl (zA rfl)) (zM rfl (yP rfl ty22 rfl (List.length_map _) (zA rfl)) ?_)
   refine zC (zT rfl (q2) (.lrefl _) (zA rfl)) ?_
   refine zC (zD rfl (zA rfl)) ?_
   refine zC (zD rfl (zA rfl)) ?_
   refine d_nil ?_
   refine zL [(2,U.box 0 0),(5,.int .i64 a),(6,.int .i64 b)] ([SB.box t.cs,SB.box [.int .i64 n0,.int .i64 n1]]) (.cons rfl (.cons rfl (.cons rfl (.nil rfl)))) rfl fun fr=>?_
   refine kQ (zJ rfl rfl rfl sh28 rfl (zB rfl (zT rfl (p22) (.lrefl _) (zB rfl (zS rfl rfl rfl (zS rfl rfl rfl (zV rfl ze26 ?_)))))))
   refine zN rfl rfl sh26 rfl rfl rfl rfl rfl ?_
   refine zD rfl (zA ?_)
   refine zL [(2,U.box 0 0),(5,.int .i64 a),(6,.int .i64 b),(7,U.box 2 0),(8,.int .i64 0)] ([SB.box t.cs,SB.box [.int .i64 n0,.int .i64 n1],SB.box [.int .i64 PL,.int .i64 PH]]) (.c4 rfl rfl rfl rfl (.cons rfl (.nil rfl))) rfl fun fr=>?_
   refine kQ (zJ rfl rfl rfl sh28 rfl (zB rfl (zB rfl (zT rfl (p26) (.lrefl _) (zB rfl (zS rfl rfl rfl (zS rfl rfl rfl (zV rfl ze26 ?_))))))))
   refine zN rfl rfl sh26 rfl rfl rfl rfl rfl ?_
   refine zD rfl (zA ?_)
   refine zL [(2,U.box 0 0),(5,.int .i64 a),(6,.int .i64 b),(7,U.box 2 0),(8,.int .i64 0),(9,U.box 3 0),(10,.int .i64 0)] ([SB.box t.cs,SB.box [.int .i64 n0,.int .i64 n1],SB.box [.int .i64 PL,.int .i64 PH],SB.box [.int .i64 DL,.int .i64 DH]]) (.c4 rfl rfl rfl rfl (.cons rfl (.cons rfl (.cons rfl (.nil rfl))))) rfl fun fr=>?_
   refine kQ (zJ rfl rfl rfl sh28 rfl (zT rfl (p19) (.lrefl _) (zB rfl (zS rfl rfl rfl (zS rfl rfl rfl (zD rfl (zD rfl (zA ?_))))))))
   refine k_seq (kQ (zB rfl (zB rfl (o_neq rfl rfl rfl (zB rfl (o_gD rfl rfl rfl rfl rfl (zB rfl (o_gD rfl rfl rfl rfl rfl ?_))))))))
   refine zB rfl (o_gD rfl rfl rfl rfl rfl (o_neq rfl rfl rfl (zd rfl rfl rfl ?_)))
   refine zA ?_
   refine zL [(2,U.box 0 0),(5,.int .i64 a),(6,.int .i64 b),(7,U.box 2 0),(8,.int .i64 0),(9,U.box 3 0),(11,.lst .ro 1 (zg T)),(64,U.bool (decide ((0:Int)≠(0:Int))))] ([SB.box t.cs,SB.box [.int .i64 n0,.int .i64 n1],SB.box [.int .i64 PL,.int .i64 PH],SB.box [.int .i64 DL,.int .i64 DH]]) (.c4 rfl rfl rfl rfl (.c4 rfl rfl rfl rfl (.nil rfl))) rfl fun fr=>?_
   refine k_cF rfl rfl ?_
   refine zU (k_seq (kQ (zB rfl (o_neq rfl rfl rfl (zA (k_cF rfl rfl ?_))))))
   refine zU (k_seq (k_seq (yr [.plain,.read true,.plain,.read true,.read true,.plain,.plain,.plain,.plain,.plain,.plain,.plain,.plain,.read true,.plain,.plain,.plain,.read true,.plain,.plain,.plain,.plain,.read true,.plain,.plain,.plain,.read true,.plain,.plain,.plain,.read true,.plain,.plain,.plain,.plain,.plain,.read true,.plain,.read true,.plain,.plain,.read true,.plain,.plain,.plain] (by kernel_rfl) (by kernel_rfl) (by kernel_rfl) ?_)))
   refine zC (zB rfl (zA rfl)) (zM rfl (yP rfl ty29 rfl (List.length_map _) (zA rfl)) ?_)
   refine zC (zE rfl rfl zx (zA rfl)) ?_
   refine zM rfl (zF rfl rfl rfl sh22 rfl (zA rfl)) (zM rfl (yP rfl ty22 rfl (List.length_map _) (zA rfl)) ?_)
   refine zC (o_neq rfl rfl rfl (zA rfl)) ?_
   refine zC (zB rfl (zA rfl)) (d_gD rfl rfl rfl rfl (decide_eq_false (by omega)) ?_)
   refine zC (zJ rfl rfl rfl sh28 rfl (zA rfl)) ?_
   refine d_gD rfl rfl rfl rfl (decide_eq_false (by omega)) ?_
   refine zC (zB rfl (zA rfl)) (d_gD rfl rfl rfl rfl (decide_eq_false (by omega)) ?_)
   refine zC (zT rfl (q42) (.lrefl _) (zA rfl)) ?_
   refine d_gD rfl rfl rfl rfl (decide_eq_false (by omega)) ?_
   refine zC (o_not rfl rfl (zA rfl)) ?_
   refine zC (zd rfl rfl (decide_eq_false (by omega)) (zA rfl)) ?_
   refine zC (zB rfl (zA rfl)) (d_gD rfl rfl rfl rfl rfl (zM rfl (zJ rfl rfl rfl sh26 rfl (zA rfl)) ?_))
   refine d_gD rfl rfl rfl rfl rfl (zC (zB rfl (zA rfl)) (d_gD rfl rfl rfl rfl rfl (zC (zB rfl (zA rfl)) (d_gD rfl rfl rfl rfl rfl ?_))))
   refine zC (zr (u:=.int .i64 (p a)) rfl ty29 rfl rfl (by omega) (by rw[List.getElem?_map,hLa];rfl) cl3 (zA rfl)) ?_
   refine d_gD rfl rfl rfl rfl rfl (zM rfl (zW rfl rfl sh3 rfl (zA rfl)) ?_)
   refine yk [(2,U.box 0 0),(5,.int .i64 a),(6,.int .i64 b),(7,U.box 2 0),(9,U.box 3 0),(11,.lst .ro 1 (zg T)),(99,U.bool !Bool.true),(100,U.agg [.int .i64 PL,.int .i64 PH]),(104,.int .i64 (p a))] [] ([SB.box t.cs,SB.box [.int .i64 n0,.int .i64 n1],SB.box [.int .i64 PL,.int .i64 PH],SB.box [.int .i64 DL,.int .i64 DH]]) (.c4 rfl rfl rfl rfl (.c4 rfl rfl rfl rfl (.cons rfl (.nil rfl)))) rfl rfl fun fr=>?_
   refine d_gD rfl rfl rfl rfl rfl ?_
   refine yk [(2,U.box 0 0),(5,.int .i64 a),(6,.int .i64 b),(7,U.box 2 0),(9,U.box 3 0),(11,.lst .ro 1 (zg T)),(99,U.bool !Bool.true),(100,U.agg [.int .i64 PL,.int .i64 PH]),(104,.int .i64 (p a))] [] ([SB.box t.cs,SB.box [.int .i64 n0,.int .i64 n1],SB.box [.int .i64 PL,.int .i64 PH],SB.box [.int .i64 DL,.int .i64 DH]]) (.c4 rfl rfl rfl rfl (.c4 rfl rfl rfl rfl (.cons rfl (.nil rfl)))) rfl rfl fun fr=>?_
   refine zC (zT rfl (q39a) (.lrefl _) (zA rfl)) ?_
   refine d_gD rfl rfl rfl rfl rfl (zC (o_not rfl rfl (zA rfl)) ?_)
   refine zC (zd rfl rfl rfl (zA rfl)) ?_
   refine zC (zB rfl (zA rfl)) (d_gD rfl rfl rfl rfl rfl (zM rfl (zJ rfl rfl rfl sh26 rfl (zA rfl)) ?_))
   refine d_gD rfl rfl rfl rfl rfl (zC (zB rfl (zA rfl)) (d_gD rfl rfl rfl rfl rfl (zC (zB rfl (zA rfl)) (d_gD rfl rfl rfl rfl rfl ?_))))
   refine zC (zr (u:=.int .i64 (p b)) rfl ty29 rfl rfl (by omega) (by rw[List.getElem?_map,hLb];rfl) cl3 (zA rfl)) ?_
   refine d_gD rfl rfl rfl rfl rfl (zM rfl (zW rfl rfl sh3 rfl (zA rfl)) ?_)
   refine yk [(2,U.box 0 0),(5,.int .i64 a),(6,.int .i64 b),(7,U.box 2 0),(9,U.box 3 0),(11,.lst .ro 1 (zg T)),(108,U.bool !(Bool.true&&Bool.true)),(109,U.agg [.int .i64 DL,.int .i64 DH]),(113,.int .i64 (p b))] [] ([SB.box t.cs,SB.box [.int .i64 n0,.int .i64 n1],SB.box [.int .i64 PL,.int .i64 PH],SB.box [.int .i64 DL,.int .i64 DH]]) (.c4 rfl rfl rfl rfl (.c4 rfl rfl rfl rfl (.cons rfl (.nil rfl)))) rfl rfl fun fr=>?_
   refine d_gD rfl rfl rfl rfl rfl ?_
   refine yk [(2,U.box 0 0),(5,.int .i64 a),(6,.int .i64 b),(7,U.box 2 0),(9,U.box 3 0),(11,.lst .ro 1 (zg T)),(108,U.bool !(Bool.true&&Bool.true)),(109,U.agg [.int .i64 DL,.int .i64 DH]),(113,.int .i64 (p b))] [] ([SB.box t.cs,SB.box [.int .i64 n0,.int .i64 n1],SB.box [.int .i64 PL,.int .i64 PH],SB.box [.int .i64 DL,.int .i64 DH]]) (.c4 rfl rfl rfl rfl (.c4 rfl rfl rfl rfl (.cons rfl (.nil rfl)))) rfl rfl fun fr=>?_
   refine zC (zB rfl (zA rfl)) (d_gD rfl rfl rfl rfl rfl (zC (zB rfl (zA rfl)) (d_gD rfl rfl rfl rfl rfl ?_)))
   refine zC (zr (u:=.int .i64 (p a)) rfl ty29 rfl rfl (by omega) (by rw[List.getElem?_map,hLa];rfl) cl3 (zA rfl)) ?_
   refine d_gD rfl rfl rfl rfl rfl (zM rfl (zW rfl rfl sh3 rfl (zA rfl)) ?_)
   refine d_gD rfl rfl rfl rfl rfl ?_
   refine zC (o_sub rfl rfl rfl (by unfold I64;omega) (zA rfl)) ?_
   refine d_gD rfl rfl rfl rfl rfl (zC (zT rfl (q39b) (.lrefl _) (zA rfl)) ?_)
   refine d_gD rfl rfl rfl rfl rfl (zC (o_not rfl rfl (zA rfl)) ?_)
   refine zC (zd rfl rfl rfl (zA rfl)) ?_
   refine zC (zB rfl (zA rfl)) ?_
   refine yk [(2,U.box 0 0),(5,.int .i64 a),(6,.int .i64 b),(7,U.box 2 0),(9,U.box 3 0),(122,U.bool !(Bool.true&&Bool.true))] [] ([SB.box t.cs,SB.box [.int .i64 n0,.int .i64 n1],SB.box [.int .i64 PL,.int .i64 PH],SB.box [.int .i64 DL,.int .i64 DH]]) (.c4 rfl rfl rfl rfl (.cons rfl (.cons rfl (.nil rfl)))) rfl rfl fun fr=>?_
   refine d_gD rfl rfl rfl rfl rfl ?_
   refine yk [(2,U.box 0 0),(5,.int .i64 a),(6,.int .i64 b),(7,U.box 2 0),(9,U.box 3 0),(122,U.bool !(Bool.true&&Bool.true))] [] ([SB.box t.cs,SB.box [.int .i64 n0,.int .i64 n1],SB.box [.int .i64 PL,.int .i64 PH],SB.box [.int .i64 DL,.int .i64 DH]]) (.c4 rfl rfl rfl rfl (.cons rfl (.cons rfl (.nil rfl)))) rfl rfl fun fr=>?_
   refine zM rfl (zJ rfl rfl rfl sh26 rfl (zA rfl)) ?_
   refine d_gD rfl rfl rfl rfl rfl (zC (zE rfl rfl zx (zA rfl)) ?_)
   refine d_gD rfl rfl rfl rfl rfl (zM rfl (zF rfl rfl rfl sh22 rfl (zA rfl)) (d_gD rfl rfl rfl rfl rfl (zC (zB rfl (zA rfl)) (d_gD rfl rfl rfl rfl rfl ?_))))
   refine zC (zr (u:=q.u) rfl ty22 rfl rfl (by omega) (by rw[List.getElem?_map,hq];rfl) cl26 (zA rfl)) ?_
   refine d_gD rfl rfl rfl rfl rfl (zM rfl (yA rfl rfl sh26 rfl (zA rfl)) ?_)
   refine d_gD rfl rfl rfl rfl rfl (zC (zT rfl (q40) (.lrefl _) (zA rfl)) ?_)
   refine d_gD rfl rfl rfl rfl rfl (zC (o_not rfl rfl (zA rfl)) ?_)
   refine zC (zd rfl rfl rfl (zA rfl)) ?_
   refine d_nil ?_
   refine zL [(2,U.box 0 0),(5,.int .i64 a),(6,.int .i64 b),(7,U.box 2 0),(9,U.box 3 0),(131,U.bool !(Bool.true&&Bool.true))] ([SB.box t.cs,SB.box [.int .i64 n0,.int .i64 n1],SB.box [.int .i64 PL,.int .i64 PH],SB.box [.int .i64 DL,.int .i64 DH]]) (.c4 rfl rfl rfl rfl (.cons rfl (.cons rfl (.nil rfl)))) rfl fun fr=>?_
   refine k_cF rfl rfl ?_
   refine zU ?_
   obtain⟨V,hV⟩:∃V:List SB,V=[.box t.cs,.box [.int .i64 n0,.int .i64 n1],.box [.int .i64 PL,.int .i64 PH],.box [.int .i64 DL,.int .i64 DH]]:=⟨_,rfl⟩
   have v0:V[0]? =some (.box t.cs):=by rw[hV];rfl
   have v2:V[2]? =some (.box [.int .i64 PL,.int .i64 PH]):=by rw[hV];rfl
   have v3:V[3]? =some (.box [.int .i64 DL,.int .i64 DH]):=by rw[hV];rfl
   refine zL [(2,.box 0 0),(5,.int .i64 a),(6,.int .i64 b),(7,.box 2 0),(9,.box 3 0)] V (.c4 rfl rfl rfl rfl (.cons rfl (.nil rfl))) hV.symm fun fr1=>?_
   clear hV p22 p26 p19 q42 q39a q39b q40 q35 q1 q2
   refine kQ (zE rfl rfl yC (zF rfl rfl v2 sh3 rfl ?_))
   refine zE rfl rfl yF (zF rfl rfl v2 sh3 rfl ?_)
   refine zE rfl rfl yC (zF rfl rfl v2 sh3 rfl ?_)
   refine o_sub rfl rfl rfl (by unfold I64;omega) (zE rfl rfl yF (zF rfl rfl v2 sh3 rfl ?_))
   refine ye rfl rfl rfl (by unfold I64;omega) (o_lit (es:=[.int .i64 PL,.int .i64 PH,.int .i64 (PL - (1:Int)),.int .i64 (PH+(1:Int))]) rfl ty29 ze3 cl3 rfl rfl rfl rfl rfl rfl rfl rfl ?_)
   refine zD rfl (zA (k_seq (kQ (zD rfl (zA ?_)))))
   refine zL [(2,U.box 0 0),(5,.int .i64 a),(6,.int .i64 b),(7,U.box 2 0),(9,U.box 3 0),(13,.lst .full 1 [.int .i64 PL,.int .i64 PH,.int .i64 (PL - (1:Int)),.int .i64 (PH+(1:Int))]),(14,.int .i64 0)] (V) (.c4 rfl rfl rfl rfl (.cons rfl (.cons rfl (.cons rfl (.nil rfl))))) rfl fun fr=>?_
   refine zQ ?_
   obtain⟨EL,hEL⟩:∃EL,EL=[PL,PH,PL - 1,PH+1]:=⟨_,rfl⟩
   refine yq (fun kk s2=>∃i:Nat,kk+i=4∧s2.st=V∧Holds s2 [(2,.box 0 0),(5,.int .i64 a),(6,.int .i64 b),(7,.box 2 0),(9,.box 3 0),(13,.lst .full 1 (zg EL)),(14,.int .i64 i)]) (fun kk s2 hI=>?_) 4 _ ⟨0,rfl,rfl,.c4 rfl rfl rfl rfl (.cons rfl (.cons (by rw[hEL];rfl) (.cons rfl (.nil rfl))))⟩
   obtain⟨i,hki,hst2,hs2⟩:=hI
   refine zL _ _ hs2 hst2 fun fr2=>?_
   by_cases hin:i<4
   ·obtain⟨y,hy,hyE,hyb⟩:∃y,EL[i]? =some y∧(InH t a y→errT (putS t a ⟨y,y⟩)=if i<2 then 0 else 12)∧(-10≤y∧y≤4010):=by
     have no:∀y,InH t a y→(∀p,TunT t (zP t) p→p a≠y)→errT (putS t a ⟨y,y⟩)=12:=fun y hy hn=>by
      rcases errT_01 (putS t a ⟨y,y⟩)with h|h
      ·obtain⟨p',h1,h2⟩:=(jt y hy).1 h
       exact absurd h2 (hn p' h1)
      ·exact h
     match i,hin with
     |0,_=>exact⟨PL,by rw[hEL];rfl,fun h=>(jt _ h).2 ⟨p1,hp1,f1⟩,by omega⟩
     |1,_=>exact⟨PH,by rw[hEL];rfl,fun h=>(jt _ h).2 ⟨p2,hp2,f2⟩,by omega⟩
     |2,_=>exact⟨PL - 1,by rw[hEL];rfl,fun h=>no _ h fun p' h1 h2=>by have:=g1 p' h1;omega,by omega⟩
     |3,_=>exact⟨PH+1,by rw[hEL];rfl,fun h=>no _ h fun p' h1 h2=>by have:=g2 p' h1;omega,by omega⟩
    have q39:=ret39 (orc:=orc) hi q.a q.b y
    by_cases hr:q.a≤y∧y≤q.b
    ·rw[decide_eq_true hr.1,decide_eq_true hr.2]at q39
     have hyE:=hyE ⟨by omega,by omega⟩
     have hrk:TOk (putS t a ⟨y,y⟩):=put_ok hok (show 1≤y∧y≤y∧y≤4000∧y - y≤40 by omega)
     have p43:=ret43 (orc:=orc) (x:=y) hi hn1 hn8 ha
     have p19:=ret19 (orc:=orc) hi (putS t a ⟨y,y⟩)
     rw[ask_nil ((valid_iff _).2 hrk),hyE]at p19
     generalize tunR (putS t a ⟨y,y⟩)=R at p19
     by_cases hi2:i<2
     ·rw[if_pos hi2]at p19
      have hk2:decide ((i:Int)<2)=true:=decide_eq_true (by omega)
      have hk3:decide ((true:Bool)≠decide ((i:Int)<2))=false:=by rw[hk2];rfl
      refine k_seq (kQ (zB rfl (zj rfl rfl rfl (zA (k_cT rfl (decide_eq_true (by omega)) (zU (k_seq (zQ ?_))))))))
      refine k_seq (k_seq (yr [.plain,.read true,.plain,.plain,.read true,.plain,.plain,.plain,.read true,.plain,.plain] (by kernel_rfl) (by kernel_rfl) (by kernel_rfl) ?_))
      refine zC (zE rfl rfl zx (zA rfl)) ?_
      refine zM rfl (zF rfl rfl v0 sh22 rfl (zA rfl)) ?_
      refine zC (zB rfl (zA rfl)) ?_
      refine zC (zr (u:=q.u) rfl ty22 rfl rfl (by omega) (by rw[List.getElem?_map,hq];rfl) cl26 (zA rfl)) ?_
      refine zM rfl (yA rfl rfl sh26 rfl (zA rfl)) ?_
      refine zC (zB rfl (zA rfl)) (zC (zB rfl (zA rfl)) ?_)
      refine zC (zr (u:=.int .i64 y) rfl ty29 rfl rfl (Int.natCast_nonneg _) (by rw[Int.toNat_natCast,List.getElem?_map,hy];rfl) cl3 (zA rfl)) ?_
      refine zM rfl (zW rfl rfl sh3 rfl (zA rfl)) ?_
      refine zC (zT rfl (q39) (.lrefl _) (zA rfl)) ?_
      refine zC (o_not rfl rfl (zA rfl)) ?_
      refine d_nil ?_
      refine zL [(2,U.box 0 0),(5,.int .i64 a),(6,.int .i64 b),(7,U.box 2 0),(9,U.box 3 0),(13,.lst .full 1 (zg EL)),(14,.int .i64 ↑i),(157,U.bool !(Bool.true&&Bool.true))] (V) (.c4 rfl rfl rfl rfl (.c4 rfl rfl rfl rfl (.nil rfl))) rfl fun fr=>?_
      refine k_cF rfl rfl ?_
      refine zU (k_seq (yr [.read true,.plain,.plain,.plain,.plain,.read true,.plain,.plain,.plain,.plain,.plain,.plain,.plain] (by kernel_rfl) (by kernel_rfl) (by kernel_rfl) ?_))
      refine zM rfl (zJ rfl rfl v0 sh28 rfl (zA rfl)) ?_
      refine zC (zB rfl (zA rfl)) (zC (zB rfl (zA rfl)) (zC (zB rfl (zA rfl)) ?_))
      refine zC (zr (u:=.int .i64 y) rfl ty29 rfl rfl (Int.natCast_nonneg _) (by rw[Int.toNat_natCast,List.getElem?_map,hy];rfl) cl3 (zA rfl)) ?_
      refine zM rfl (zW rfl rfl sh3 rfl (zA rfl)) ?_
      refine zC (zT rfl (p43) (.lrefl _) (zA rfl)) ?_
      refine zC (zT rfl (p19) (.lrefl _) (zA rfl)) ?_
      refine zC (zB rfl (zA rfl)) ?_
      refine yk [(2,U.box 0 0),(5,.int .i64 a),(6,.int .i64 b),(7,U.box 2 0),(9,U.box 3 0),(13,.lst .full 1 (zg EL)),(14,.int .i64 ↑i),(158,U.tup [.lst .ro 1 (zg R),.int .i64 0])] [] (V) (.c4 rfl rfl rfl rfl (.c4 rfl rfl rfl rfl (.nil rfl))) rfl rfl fun fr=>?_
      refine zC (zS rfl rfl rfl (zA rfl)) ?_
      refine zC (zS rfl rfl rfl (zA rfl)) ?_
      refine zC (zD rfl (zA rfl)) ?_
      refine zC (zD rfl (zA rfl)) ?_
      refine d_nil ?_
      refine zL [(2,U.box 0 0),(5,.int .i64 a),(6,.int .i64 b),(7,U.box 2 0),(9,U.box 3 0),(13,.lst .full 1 (zg EL)),(14,.int .i64 ↑i),(16,.int .i64 0)] (V) (.c4 rfl rfl rfl rfl (.c4 rfl rfl rfl rfl (.nil rfl))) rfl fun fr=>?_
      refine kQ (zB rfl (o_eql rfl rfl rfl (zB rfl (zj rfl rfl rfl (o_neqB rfl ty4 rfl rfl ?_)))))
      refine zB rfl (o_gD rfl rfl rfl rfl (by assumption) (zB rfl (o_gD rfl rfl rfl rfl (by assumption) (o_neq rfl rfl rfl (o_gD rfl rfl rfl rfl (by assumption) (zB rfl ?_))))))
      refine yN [(2,U.box 0 0),(5,.int .i64 a),(6,.int .i64 b),(7,U.box 2 0),(9,U.box 3 0),(13,.lst .full 1 (zg EL)),(14,.int .i64 ↑i),(16,.int .i64 0),(174,U.bool (decide (decide ((0:Int)=(0:Int))≠decide (↑i<(2:Int))))),(175,.int .i64 0),(176,U.bool (decide ((0:Int)≠(0:Int)))),(177,U.bool (decide ((0:Int)≠(0:Int))))] [] (V) (.c4 rfl rfl rfl rfl (.c4 rfl rfl rfl rfl (.c4 rfl rfl rfl rfl (.nil rfl)))) rfl rfl fun fr=>?_
      refine o_gS rfl rfl rfl rfl rfl (o_gS rfl rfl rfl rfl rfl (o_gD rfl rfl rfl rfl (by assumption) (zd rfl rfl rfl ?_)))
      refine zd rfl rfl (by assumption) ?_
      refine zA ?_
      refine zL [(2,U.box 0 0),(5,.int .i64 a),(6,.int .i64 b),(7,U.box 2 0),(9,U.box 3 0),(13,.lst .full 1 (zg EL)),(14,.int .i64 ↑i),(175,.int .i64 0),(176,U.bool (decide ((0:Int)≠(0:Int)))),(177,U.bool (decide ((0:Int)≠(0:Int)))),(178,U.tup []),(179,U.tup []),(180,.bool false),(181,.bool false)] (V) (.c4 rfl rfl rfl rfl (.c4 rfl rfl rfl rfl (.c4 rfl rfl rfl rfl (.cons rfl (.cons rfl (.nil rfl)))))) rfl fun fr=>?_
      refine k_cF rfl rfl ?_
      refine zU (k_region (zB rfl ?_))
      refine ye rfl rfl rfl (by unfold I64;omega) (zD rfl (zA ?_))
      exact⟨kk - 1,by omega,i+1,by omega,rfl,.c4 rfl rfl rfl rfl (.cons rfl (.cons rfl (.cons rfl (.nil rfl))))⟩
     ·rw[if_neg hi2]at p19
      have hk2:decide ((i:Int)<2)=false:=decide_eq_false (by omega)
      have hk3:decide ((false:Bool)≠decide ((i:Int)<2))=false:=by rw[hk2];rfl
      refine k_seq (kQ (zB rfl (zj rfl rfl rfl (zA (k_cT rfl (decide_eq_true (by omega)) (zU (k_seq (zQ ?_))))))))
      refine k_seq (k_seq (yr [.plain,.read true,.plain,.plain,.read true,.plain,.plain,.plain,.read true,.plain,.plain] (by kernel_rfl) (by kernel_rfl) (by kernel_rfl) ?_))
      refine zC (zE rfl rfl zx (zA rfl)) ?_
      refine zM rfl (zF rfl rfl v0 sh22 rfl (zA rfl)) ?_
      refine zC (zB rfl (zA rfl)) ?_
      refine zC (zr (u:=q.u) rfl ty22 rfl rfl (by omega) (by rw[List.getElem?_map,hq];rfl) cl26 (zA rfl)) ?_
      refine zM rfl (yA rfl rfl sh26 rfl (zA rfl)) ?_
      refine zC (zB rfl (zA rfl)) (zC (zB rfl (zA rfl)) ?_)
      refine zC (zr (u:=.int .i64 y) rfl ty29 rfl rfl (Int.natCast_nonneg _) (by rw[Int.toNat_natCast,List.getElem?_map,hy];rfl) cl3 (zA rfl)) ?_
      refine zM rfl (zW rfl rfl sh3 rfl (zA rfl)) ?_
      refine zC (zT rfl (q39) (.lrefl _) (zA rfl)) ?_
      refine zC (o_not rfl rfl (zA rfl)) ?_
      refine d_nil ?_
      refine zL [(2,U.box 0 0),(5,.int .i64 a),(6,.int .i64 b),(7,U.box 2 0),(9,U.box 3 0),(13,.lst .full 1 (zg EL)),(14,.int .i64 ↑i),(157,U.bool !(Bool.true&&Bool.true))] (V) (.c4 rfl rfl rfl rfl (.c4 rfl rfl rfl rfl (.nil rfl))) rfl fun fr=>?_
      refine k_cF rfl rfl ?_
      refine zU (k_seq (yr [.read true,.plain,.plain,.plain,.plain,.read true,.plain,.plain,.plain,.plain,.plain,.plain,.plain] (by kernel_rfl) (by kernel_rfl) (by kernel_rfl) ?_))
      refine zM rfl (zJ rfl rfl v0 sh28 rfl (zA rfl)) ?_
      refine zC (zB rfl (zA rfl)) (zC (zB rfl (zA rfl)) (zC (zB rfl (zA rfl)) ?_))
      refine zC (zr (u:=.int .i64 y) rfl ty29 rfl rfl (Int.natCast_nonneg _) (by rw[Int.toNat_natCast,List.getElem?_map,hy];rfl) cl3 (zA rfl)) ?_
      refine zM rfl (zW rfl rfl sh3 rfl (zA rfl)) ?_
      refine zC (zT rfl (p43) (.lrefl _) (zA rfl)) ?_
      refine zC (zT rfl (p19) (.lrefl _) (zA rfl)) ?_
      refine zC (zB rfl (zA rfl)) ?_
      refine yk [(2,U.box 0 0),(5,.int .i64 a),(6,.int .i64 b),(7,U.box 2 0),(9,U.box 3 0),(13,.lst .full 1 (zg EL)),(14,.int .i64 ↑i),(158,U.tup [.lst .ro 1 (zg R),.int .i64 12])] [] (V) (.c4 rfl rfl rfl rfl (.c4 rfl rfl rfl rfl (.nil rfl))) rfl rfl fun fr=>?_
      refine zC (zS rfl rfl rfl (zA rfl)) ?_
      refine zC (zS rfl rfl rfl (zA rfl)) ?_
      refine zC (zD rfl (zA rfl)) ?_
      refine zC (zD rfl (zA rfl)) ?_
      refine d_nil ?_
      refine zL [(2,U.box 0 0),(5,.int .i64 a),(6,.int .i64 b),(7,U.box 2 0),(9,U.box 3 0),(13,.lst .full 1 (zg EL)),(14,.int .i64 ↑i),(16,.int .i64 12)] (V) (.c4 rfl rfl rfl rfl (.c4 rfl rfl rfl rfl (.nil rfl))) rfl fun fr=>?_
      refine kQ (zB rfl (o_eql rfl rfl rfl (zB rfl (zj rfl rfl rfl (o_neqB rfl ty4 rfl rfl ?_)))))
      refine zB rfl (o_gD rfl rfl rfl rfl (by assumption) (zB rfl (o_gD rfl rfl rfl rfl (by assumption) (o_neq rfl rfl rfl (o_gD rfl rfl rfl rfl (by assumption) (zB rfl ?_))))))
      refine yN [(2,U.box 0 0),(5,.int .i64 a),(6,.int .i64 b),(7,U.box 2 0),(9,U.box 3 0),(13,.lst .full 1 (zg EL)),(14,.int .i64 ↑i),(16,.int .i64 12),(174,U.bool (decide (decide ((12:Int)=(0:Int))≠decide (↑i<(2:Int))))),(175,.int .i64 12),(176,U.bool (decide ((12:Int)≠(0:Int)))),(177,U.bool (decide ((12:Int)≠(0:Int))))] [] (V) (.c4 rfl rfl rfl rfl (.c4 rfl rfl rfl rfl (.c4 rfl rfl rfl rfl (.nil rfl)))) rfl rfl fun fr=>?_
      refine o_gD rfl rfl rfl rfl rfl ?_
      refine yN [(2,U.box 0 0),(5,.int .i64 a),(6,.int .i64 b),(7,U.box 2 0),(9,U.box 3 0),(13,.lst .full 1 (zg EL)),(14,.int .i64 ↑i),(16,.int .i64 12),(174,U.bool (decide (decide ((12:Int)=(0:Int))≠decide (↑i<(2:Int))))),(175,.int .i64 12),(176,U.bool (decide ((12:Int)≠(0:Int)))),(177,U.bool (decide ((12:Int)≠(0:Int))))] [] (V) (.c4 rfl rfl rfl rfl (.c4 rfl rfl rfl rfl (.c4 rfl rfl rfl rfl (.nil rfl)))) rfl rfl fun fr=>?_
      refine zB rfl (o_gD rfl rfl rfl rfl rfl (o_neq rfl rfl rfl (o_gD rfl rfl rfl rfl (by assumption) (za rfl rfl rfl ?_))))
      refine zd rfl rfl (by assumption) ?_
      refine zA ?_
      refine zL [(2,U.box 0 0),(5,.int .i64 a),(6,.int .i64 b),(7,U.box 2 0),(9,U.box 3 0),(13,.lst .full 1 (zg EL)),(14,.int .i64 ↑i),(175,.int .i64 12),(176,U.bool (decide ((12:Int)≠(0:Int)))),(177,U.bool (decide ((12:Int)≠(0:Int)))),(178,.int .i64 12),(179,U.bool (decide ((12:Int)≠(12:Int)))),(180,U.bool (decide ((12:Int)≠(12:Int)))),(181,U.bool (decide ((12:Int)≠(12:Int))))] (V) (.c4 rfl rfl rfl rfl (.c4 rfl rfl rfl rfl (.c4 rfl rfl rfl rfl (.cons rfl (.cons rfl (.nil rfl)))))) rfl fun fr=>?_
      refine k_cF rfl rfl ?_
      refine zU (k_region (zB rfl ?_))
      refine ye rfl rfl rfl (by unfold I64;omega) (zD rfl (zA ?_))
      exact⟨kk - 1,by omega,i+1,by omega,rfl,.c4 rfl rfl rfl rfl (.cons rfl (.cons rfl (.cons rfl (.nil rfl))))⟩
    ·have q39:RetP Try.prog is orc 39 [spanU q.a q.b,.int .i64 y] (.bool false):=by
      have e:(decide (q.a≤y)&&decide (y≤q.b))=false:=by
       rw[←Bool.not_eq_true,Bool.and_eq_true,decide_eq_true_eq,decide_eq_true_eq];exact hr
      rwa [e]at q39
     refine k_seq (kQ (zB rfl (zj rfl rfl rfl (zA (k_cT rfl (decide_eq_true (by omega)) (zU (k_seq (zQ ?_))))))))
     refine k_seq (k_seq (yr [.plain,.read true,.plain,.plain,.read true,.plain,.plain,.plain,.read true,.plain,.plain] (by kernel_rfl) (by kernel_rfl) (by kernel_rfl) ?_))
     refine zC (zE rfl rfl zx (zA rfl)) ?_
     refine zM rfl (zF rfl rfl v0 sh22 rfl (zA rfl)) ?_
     refine zC (zB rfl (zA rfl)) ?_
     refine zC (zr (u:=q.u) rfl ty22 rfl rfl (by omega) (by rw[List.getElem?_map,hq];rfl) cl26 (zA rfl)) ?_
     refine zM rfl (yA rfl rfl sh26 rfl (zA rfl)) ?_
     refine zC (zB rfl (zA rfl)) (zC (zB rfl (zA rfl)) ?_)
     refine zC (zr (u:=.int .i64 y) rfl ty29 rfl rfl (Int.natCast_nonneg _) (by rw[Int.toNat_natCast,List.getElem?_map,hy];rfl) cl3 (zA rfl)) ?_
     refine zM rfl (zW rfl rfl sh3 rfl (zA rfl)) ?_
     refine zC (zT rfl (q39) (.lrefl _) (zA rfl)) ?_
     refine zC (o_not rfl rfl (zA rfl)) ?_
     refine d_nil ?_
     refine zL [(2,U.box 0 0),(5,.int .i64 a),(6,.int .i64 b),(7,U.box 2 0),(9,U.box 3 0),(13,.lst .full 1 (zg EL)),(14,.int .i64 ↑i),(157,U.bool !Bool.false)] (V) (.c4 rfl rfl rfl rfl (.c4 rfl rfl rfl rfl (.nil rfl))) rfl fun fr=>?_
     refine k_cT rfl rfl ?_
     refine yX (k_region (zB rfl ?_))
     refine ye rfl rfl rfl (by unfold I64;omega) (zD rfl (zA ?_))
     exact⟨kk - 1,by omega,i+1,by omega,rfl,.c4 rfl rfl rfl rfl (.cons rfl (.cons rfl (.cons rfl (.nil rfl))))⟩
   ·have hiN:i=4:=by omega
    subst hiN
    refine k_seq (kQ (zB rfl (zj rfl rfl rfl (zA (k_cF rfl rfl ?_)))))
    refine yX (kQ (zD rfl (zD rfl (zA (k_seq (kQ (zE rfl rfl yC (zF rfl rfl v2 sh3 rfl ?_))))))))
    refine zD rfl (zA (zQ ?_))
    refine yq (fun kk s2=>∃i:Nat,kk+i=(PH+1 - PL).toNat∧(∃e,s2.st=V++e)∧Holds s2 [(2,.box 0 0),(5,.int .i64 a),(6,.int .i64 b),(7,.box 2 0),(9,.box 3 0),(17,.bool (farB t a b false i)),(18,.bool (farB t a b true i)),(19,.int .i64 (PL+i))]) (fun kk s2 hI=>?_) (PH+1 - PL).toNat _ ⟨0,rfl,⟨[],(List.append_nil _).symm⟩,.c4 rfl rfl rfl rfl (.cons rfl (.cons rfl (.cons rfl (.cons (congrArg (U.int .i64) (by simp)) (.nil rfl)))))⟩
    obtain⟨i,hki,⟨e,hst2⟩,hs2⟩:=hI
    generalize hY:V++e=Y at hst2
    have y0:Y[0]? =some (.box t.cs):=by rw[←hY];exact zw v0
    have y2:Y[2]? =some (.box [.int .i64 PL,.int .i64 PH]):=by rw[←hY];exact zw v2
    have y3:Y[3]? =some (.box [.int .i64 DL,.int .i64 DH]):=by rw[←hY];exact zw v3
    refine zL _ _ hs2 hst2 fun fr2=>?_
    by_cases hin:i<(PH+1 - PL).toNat
    ·obtain⟨y,hy⟩:∃y,y=PL+(i:Int):=⟨_,rfl⟩
     have hyI:InH t a y:=by unfold InH;omega
     have hf0:=fs0 i
     have hf1:=fs1 i
     have p24:=ret24 (orc:=orc) hi t a y
     rw[ask_one hv ha,he,canB_just hok hv htb ha hyI]at p24
     rw[←hy]at hf0 hf1
     rw[←hy]
     generalize farB t a b false i=Lo at hf0
     generalize farB t a b true i=Hi at hf1
     by_cases h0:errT (putS t a ⟨y,y⟩)=0
     ·rw[decide_eq_true h0]at p24 hf0 hf1
      have hrk:TOk (putS t a ⟨y,y⟩):=put_ok hok (show 1≤y∧y≤y∧y≤4000∧y - y≤40 by omega)
      have hb':Key (putS t a ⟨y,y⟩) b:=by unfold Key putS;simpa using hb
      have p43:=ret43 (orc:=orc) (x:=y) hi hn1 hn8 ha
      have p22:=ret22 (orc:=orc) hi (putS t a ⟨y,y⟩) b
      unfold pitU at p22
      rw[ask_one ((valid_iff _).2 hrk) hb',h0,if_pos rfl,show zP (putS t a ⟨y,y⟩)=zP t from rfl]at p22
      obtain⟨c1,c2⟩:=jb y hyI h0
      have b1:=ut_b hrk.sok false hb'
      have b2:=ut_b hrk.sok true hb'
      rw[show zP (putS t a ⟨y,y⟩)=zP t from rfl]at b1 b2
      rw[Bool.true_and]at hf0 hf1
      generalize utP (putS t a ⟨y,y⟩) (zP t) false b=QL at*
      generalize utP (putS t a ⟨y,y⟩) (zP t) true b=QH at*
      have g3:decide (QL - y<DL)=false:=decide_eq_false (by omega)
      have g4:decide (DH<QH - y)=false:=decide_eq_false (by omega)
      refine k_seq (kQ (zB rfl (zE rfl rfl yF (zF rfl rfl y2 sh3 rfl ?_))))
      refine o_leq rfl rfl rfl (zA (k_cT rfl (decide_eq_true (by omega)) (zU (k_seq (zQ (kQ (zJ rfl rfl y0 sh28 rfl ?_)))))))
      refine zB rfl (zB rfl (zT rfl (p24) (.lrefl _) (zB rfl (zS rfl rfl rfl (zS rfl rfl rfl (zD rfl (zD rfl (zA ?_))))))))
      refine zL [(2,U.box 0 0),(5,.int .i64 a),(6,.int .i64 b),(7,U.box 2 0),(9,U.box 3 0),(17,U.bool Lo),(18,U.bool Hi),(19,.int .i64 y),(20,.bool true),(21,.int .i64 0)] (Y) (.c4 rfl rfl rfl rfl (.c4 rfl rfl rfl rfl (.cons rfl (.cons rfl (.nil rfl))))) rfl fun fr=>?_
      refine k_seq (kQ (zB rfl (o_neq rfl rfl rfl (zA (k_cF rfl rfl ?_)))))
      refine zU (k_seq (kQ (zB rfl (o_not rfl rfl (zA (k_cF rfl rfl ?_))))))
      refine zU (kQ (zJ rfl rfl y0 sh28 rfl ?_))
      refine zB rfl (zB rfl (zT rfl (p43) (.lrefl _) (zB rfl (zT rfl (p22) (.lrefl _) (zB rfl (zS rfl rfl rfl (zS rfl rfl rfl (zV rfl ze26 ?_))))))))
      refine zN rfl (zY _ _) sh26 rfl rfl rfl rfl rfl ?_
      refine zD rfl (zA ?_)
      refine zL [(2,U.box 0 0),(5,.int .i64 a),(6,.int .i64 b),(7,U.box 2 0),(9,U.box 3 0),(17,U.bool Lo),(18,U.bool Hi),(19,.int .i64 y),(21,.int .i64 0),(22,U.box (List.length Y) 0)] (Y++[SB.box [.int .i64 QL,.int .i64 QH]]) (.c4 rfl rfl rfl rfl (.c4 rfl rfl rfl rfl (.cons rfl (.cons rfl (.nil rfl))))) (yL _ _ _) fun fr=>?_
      refine k_seq (kQ (zB rfl (o_neq rfl rfl rfl (zB rfl (o_gD rfl rfl rfl rfl rfl (zE rfl rfl yC (o_gD rfl rfl rfl rfl rfl (zF rfl rfl (zY _ _) sh3 rfl ?_))))))))
      refine o_gD rfl rfl rfl rfl rfl (zB rfl (o_gD rfl rfl rfl rfl rfl ?_))
      refine o_sub rfl rfl rfl (by unfold I64;omega) (o_gD rfl rfl rfl rfl rfl (zE rfl rfl yC (o_gD rfl rfl rfl rfl rfl (zF rfl rfl (zw y3) sh3 rfl ?_))))
      refine yN [(2,U.box 0 0),(5,.int .i64 a),(6,.int .i64 b),(7,U.box 2 0),(9,U.box 3 0),(17,U.bool Lo),(18,U.bool Hi),(19,.int .i64 y),(22,U.box (List.length Y) 0),(212,U.bool (decide ((0:Int)≠(0:Int)))),(213,U.box (List.length Y) 0),(214,.int .i64 QL),(215,.int .i64 y),(216,.int .i64 (QL - y)),(217,U.box 3 0),(218,.int .i64 DL)] [] (Y++[SB.box [.int .i64 QL,.int .i64 QH]]) (.c4 rfl rfl rfl rfl (.c4 rfl rfl rfl rfl (.c4 rfl rfl rfl rfl (.c4 rfl rfl rfl rfl (.nil rfl))))) rfl rfl fun fr=>?_
      refine o_gD rfl rfl rfl rfl rfl ?_
      refine yN [(2,U.box 0 0),(5,.int .i64 a),(6,.int .i64 b),(7,U.box 2 0),(9,U.box 3 0),(17,U.bool Lo),(18,U.bool Hi),(19,.int .i64 y),(22,U.box (List.length Y) 0),(212,U.bool (decide ((0:Int)≠(0:Int)))),(213,U.box (List.length Y) 0),(214,.int .i64 QL),(215,.int .i64 y),(216,.int .i64 (QL - y)),(217,U.box 3 0),(218,.int .i64 DL)] [] (Y++[SB.box [.int .i64 QL,.int .i64 QH]]) (.c4 rfl rfl rfl rfl (.c4 rfl rfl rfl rfl (.c4 rfl rfl rfl rfl (.c4 rfl rfl rfl rfl (.nil rfl))))) rfl rfl fun fr=>?_
      refine zj rfl rfl rfl (zd rfl rfl rfl ?_)
      refine zB rfl (o_gD rfl rfl rfl rfl (by assumption) (zE rfl rfl yF (o_gD rfl rfl rfl rfl (by assumption) (zF rfl rfl (zY _ _) sh3 rfl ?_))))
      refine o_gD rfl rfl rfl rfl (by assumption) (zB rfl (o_gD rfl rfl rfl rfl (by assumption) ?_))
      refine o_sub rfl rfl rfl (by unfold I64;omega) (o_gD rfl rfl rfl rfl (by assumption) (zE rfl rfl yF (o_gD rfl rfl rfl rfl (by assumption) (zF rfl rfl (zw y3) sh3 rfl ?_))))
      refine yN [(2,U.box 0 0),(5,.int .i64 a),(6,.int .i64 b),(7,U.box 2 0),(9,U.box 3 0),(17,U.bool Lo),(18,U.bool Hi),(19,.int .i64 y),(22,U.box (List.length Y) 0),(213,U.box (List.length Y) 0),(214,.int .i64 QL),(215,.int .i64 y),(216,.int .i64 (QL - y)),(217,U.box 3 0),(218,.int .i64 DL),(219,U.bool (decide (QL - y<DL))),(221,U.bool (decide (QL - y<DL))),(222,U.box (List.length Y) 1),(223,.int .i64 QH),(224,.int .i64 y),(225,.int .i64 (QH - y)),(226,U.box 3 1),(227,.int .i64 DH)] [] (Y++[SB.box [.int .i64 QL,.int .i64 QH]]) (.c4 rfl rfl rfl rfl (.c4 rfl rfl rfl rfl (.c4 rfl rfl rfl rfl (.c4 rfl rfl rfl rfl (.c4 rfl rfl rfl rfl (.cons rfl (.cons rfl (.cons rfl (.nil rfl))))))))) rfl rfl fun fr=>?_
      refine o_gD rfl rfl rfl rfl (by assumption) ?_
      refine yN [(2,U.box 0 0),(5,.int .i64 a),(6,.int .i64 b),(7,U.box 2 0),(9,U.box 3 0),(17,U.bool Lo),(18,U.bool Hi),(19,.int .i64 y),(22,U.box (List.length Y) 0),(213,U.box (List.length Y) 0),(214,.int .i64 QL),(215,.int .i64 y),(216,.int .i64 (QL - y)),(217,U.box 3 0),(218,.int .i64 DL),(219,U.bool (decide (QL - y<DL))),(221,U.bool (decide (QL - y<DL))),(222,U.box (List.length Y) 1),(223,.int .i64 QH),(224,.int .i64 y),(225,.int .i64 (QH - y)),(226,U.box 3 1),(227,.int .i64 DH)] [] (Y++[SB.box [.int .i64 QL,.int .i64 QH]]) (.c4 rfl rfl rfl rfl (.c4 rfl rfl rfl rfl (.c4 rfl rfl rfl rfl (.c4 rfl rfl rfl rfl (.c4 rfl rfl rfl rfl (.cons rfl (.cons rfl (.cons rfl (.nil rfl))))))))) rfl rfl fun fr=>?_
      refine o_gtr rfl rfl rfl (zd rfl rfl (by assumption) ?_)
      refine zA ?_
      refine zL [(2,U.box 0 0),(5,.int .i64 a),(6,.int .i64 b),(7,U.box 2 0),(9,U.box 3 0),(17,U.bool Lo),(18,U.bool Hi),(19,.int .i64 y),(22,U.box (List.length Y) 0),(213,U.box (List.length Y) 0),(214,.int .i64 QL),(215,.int .i64 y),(216,.int .i64 (QL - y)),(217,U.box 3 0),(218,.int .i64 DL),(219,U.bool (decide (QL - y<DL))),(222,U.box (List.length Y) 1),(223,.int .i64 QH),(224,.int .i64 y),(225,.int .i64 (QH - y)),(226,U.box 3 1),(227,.int .i64 DH),(228,U.bool (decide (DH<QH - y))),(229,U.bool (decide (DH<QH - y)))] (Y++[SB.box [.int .i64 QL,.int .i64 QH]]) (.c4 rfl rfl rfl rfl (.c4 rfl rfl rfl rfl (.c4 rfl rfl rfl rfl (.c4 rfl rfl rfl rfl (.c4 rfl rfl rfl rfl (.c4 rfl rfl rfl rfl (.nil rfl))))))) rfl fun fr=>?_
      refine k_cF rfl (by assumption) (zU (yr [.plain,.plain,.plain,.read true,.plain,.plain,.plain,.read true,.plain,.plain,.plain,.plain,.plain,.read true,.plain,.plain,.plain,.read true,.plain,.plain,.plain,.plain] (by kernel_rfl) (by kernel_rfl) (by kernel_rfl) ?_))
      refine zC (zB rfl (zA rfl)) (zC (zB rfl (zA rfl)) ?_)
      refine d_guardX rfl rfl rfl rfl (fun h231=>?_) (fun h231=>?_)
      ·refine zC (zE rfl rfl yC (zA rfl)) ?_
       refine d_gD rfl rfl rfl rfl (by assumption) ?_
       refine zM rfl (zF rfl rfl (zY _ _) sh3 rfl (zA rfl)) ?_
       refine d_gD rfl rfl rfl rfl (by assumption) ?_
       refine zC (zB rfl (zA rfl)) (d_gD rfl rfl rfl rfl (by assumption) ?_)
       refine zC (o_sub rfl rfl rfl (by unfold I64;omega) (zA rfl)) ?_
       refine d_gD rfl rfl rfl rfl (by assumption) ?_
       refine zC (zE rfl rfl yC (zA rfl)) ?_
       refine d_gD rfl rfl rfl rfl (by assumption) ?_
       refine zM rfl (zF rfl rfl (zw y3) sh3 rfl (zA rfl)) ?_
       refine d_gD rfl rfl rfl rfl (by assumption) ?_
       refine zC (o_eql rfl rfl rfl (zA rfl)) ?_
       refine yk [(2,U.box 0 0),(5,.int .i64 a),(6,.int .i64 b),(7,U.box 2 0),(9,U.box 3 0),(18,U.bool Hi),(19,.int .i64 y),(22,U.box (List.length Y) 0),(213,U.box (List.length Y) 0),(214,.int .i64 QL),(215,.int .i64 y),(216,.int .i64 (QL - y)),(217,U.box 3 0),(218,.int .i64 DL),(219,U.bool (decide (QL - y<DL))),(222,U.box (List.length Y) 1),(223,.int .i64 QH),(224,.int .i64 y),(225,.int .i64 (QH - y)),(226,U.box 3 1),(227,.int .i64 DH),(228,U.bool (decide (DH<QH - y))),(231,U.bool Lo),(232,U.box (List.length Y) 0),(233,.int .i64 QL),(234,.int .i64 y),(235,.int .i64 (QL - y)),(236,U.box 3 0),(237,.int .i64 DL),(238,U.bool (decide (QL - y=DL)))] [] (Y++[SB.box [.int .i64 QL,.int .i64 QH]]) (.c4 rfl rfl rfl rfl (.c4 rfl rfl rfl rfl (.c4 rfl rfl rfl rfl (.c4 rfl rfl rfl rfl (.c4 rfl rfl rfl rfl (.c4 rfl rfl rfl rfl (.c4 rfl rfl rfl rfl (.cons rfl (.cons rfl (.nil rfl)))))))))) rfl rfl fun fr=>?_
       refine zC (zd rfl rfl (by assumption) (zA rfl)) ?_
       refine zC (zB rfl (zA rfl)) (zC (zB rfl (zA rfl)) ?_)
       refine d_guardX rfl rfl rfl rfl (fun h241=>?_) (fun h241=>?_)
       ·refine zC (zE rfl rfl yF (zA rfl)) ?_
        refine d_gD rfl rfl rfl rfl (by assumption) ?_
        refine zM rfl (zF rfl rfl (zY _ _) sh3 rfl (zA rfl)) ?_
        refine d_gD rfl rfl rfl rfl (by assumption) ?_
        refine zC (zB rfl (zA rfl)) (d_gD rfl rfl rfl rfl (by assumption) ?_)
        refine zC (o_sub rfl rfl rfl (by unfold I64;omega) (zA rfl)) ?_
        refine d_gD rfl rfl rfl rfl (by assumption) ?_
        refine zC (zE rfl rfl yF (zA rfl)) ?_
        refine d_gD rfl rfl rfl rfl (by assumption) ?_
        refine zM rfl (zF rfl rfl (zw y3) sh3 rfl (zA rfl)) ?_
        refine yk [(2,U.box 0 0),(5,.int .i64 a),(6,.int .i64 b),(7,U.box 2 0),(9,U.box 3 0),(19,.int .i64 y),(213,U.box (List.length Y) 0),(214,.int .i64 QL),(215,.int .i64 y),(216,.int .i64 (QL - y)),(217,U.box 3 0),(218,.int .i64 DL),(219,U.bool (decide (QL - y<DL))),(222,U.box (List.length Y) 1),(223,.int .i64 QH),(224,.int .i64 y),(225,.int .i64 (QH - y)),(226,U.box 3 1),(227,.int .i64 DH),(228,U.bool (decide (DH<QH - y))),(232,U.box (List.length Y) 0),(233,.int .i64 QL),(234,.int .i64 y),(235,.int .i64 (QL - y)),(236,U.box 3 0),(237,.int .i64 DL),(238,U.bool (decide (QL - y=DL))),(239,U.bool (decide (QL - y=DL))),(241,U.bool Hi),(242,U.box (List.length Y) 1),(243,.int .i64 QH),(244,.int .i64 y),(245,.int .i64 (QH - y)),(246,U.box 3 1),(247,.int .i64 DH)] [] (Y++[SB.box [.int .i64 QL,.int .i64 QH]]) (.c4 rfl rfl rfl rfl (.c4 rfl rfl rfl rfl (.c4 rfl rfl rfl rfl (.c4 rfl rfl rfl rfl (.c4 rfl rfl rfl rfl (.c4 rfl rfl rfl rfl (.c4 rfl rfl rfl rfl (.c4 rfl rfl rfl rfl (.cons rfl (.cons rfl (.cons rfl (.nil rfl)))))))))))) rfl rfl fun fr=>?_
        refine d_gD rfl rfl rfl rfl (by assumption) ?_
        refine yk [(2,U.box 0 0),(5,.int .i64 a),(6,.int .i64 b),(7,U.box 2 0),(9,U.box 3 0),(19,.int .i64 y),(213,U.box (List.length Y) 0),(214,.int .i64 QL),(215,.int .i64 y),(216,.int .i64 (QL - y)),(217,U.box 3 0),(218,.int .i64 DL),(219,U.bool (decide (QL - y<DL))),(222,U.box (List.length Y) 1),(223,.int .i64 QH),(224,.int .i64 y),(225,.int .i64 (QH - y)),(226,U.box 3 1),(227,.int .i64 DH),(228,U.bool (decide (DH<QH - y))),(232,U.box (List.length Y) 0),(233,.int .i64 QL),(234,.int .i64 y),(235,.int .i64 (QL - y)),(236,U.box 3 0),(237,.int .i64 DL),(238,U.bool (decide (QL - y=DL))),(239,U.bool (decide (QL - y=DL))),(241,U.bool Hi),(242,U.box (List.length Y) 1),(243,.int .i64 QH),(244,.int .i64 y),(245,.int .i64 (QH - y)),(246,U.box 3 1),(247,.int .i64 DH)] [] (Y++[SB.box [.int .i64 QL,.int .i64 QH]]) (.c4 rfl rfl rfl rfl (.c4 rfl rfl rfl rfl (.c4 rfl rfl rfl rfl (.c4 rfl rfl rfl rfl (.c4 rfl rfl rfl rfl (.c4 rfl rfl rfl rfl (.c4 rfl rfl rfl rfl (.c4 rfl rfl rfl rfl (.cons rfl (.cons rfl (.cons rfl (.nil rfl)))))))))))) rfl rfl fun fr=>?_
        refine zC (o_eql rfl rfl rfl (zA rfl)) ?_
        refine zC (zd rfl rfl (by assumption) (zA rfl)) ?_
        refine zC (zD rfl (zA rfl)) ?_
        refine zC (zD rfl (zA rfl)) ?_
        refine d_nil ?_
        refine zL [(2,U.box 0 0),(5,.int .i64 a),(6,.int .i64 b),(7,U.box 2 0),(9,U.box 3 0),(17,U.bool (decide (QL - y=DL))),(18,U.bool (decide (QH - y=DH))),(19,.int .i64 y),(213,U.box (List.length Y) 0),(214,.int .i64 QL),(215,.int .i64 y),(216,.int .i64 (QL - y)),(217,U.box 3 0),(218,.int .i64 DL),(219,U.bool (decide (QL - y<DL))),(222,U.box (List.length Y) 1),(223,.int .i64 QH),(224,.int .i64 y),(225,.int .i64 (QH - y)),(226,U.box 3 1),(227,.int .i64 DH),(228,U.bool (decide (DH<QH - y))),(232,U.box (List.length Y) 0),(233,.int .i64 QL),(234,.int .i64 y),(235,.int .i64 (QL - y)),(236,U.box 3 0),(237,.int .i64 DL),(238,U.bool (decide (QL - y=DL))),(242,U.box (List.length Y) 1),(243,.int .i64 QH),(244,.int .i64 y),(245,.int .i64 (QH - y)),(246,U.box 3 1),(247,.int .i64 DH),(248,U.bool (decide (QH - y=DH)))] (Y++[SB.box [.int .i64 QL,.int .i64 QH]]) (.c4 rfl rfl rfl rfl (.c4 rfl rfl rfl rfl (.c4 rfl rfl rfl rfl (.c4 rfl rfl rfl rfl (.c4 rfl rfl rfl rfl (.c4 rfl rfl rfl rfl (.c4 rfl rfl rfl rfl (.c4 rfl rfl rfl rfl (.c4 rfl rfl rfl rfl (.nil rfl)))))))))) rfl fun fr=>?_
        refine k_region (zB rfl ?_)
        refine ye rfl rfl rfl (by unfold I64;omega) (zD rfl (zA ?_))
        exact⟨kk - 1,by omega,i+1,by omega,⟨_,by show Y++[_]=_;rw[←hY,List.append_assoc]⟩,.c4 rfl rfl rfl rfl (.cons rfl (.cons (congrArg U.bool (by rw[hf0];simp_all)) (.cons (congrArg U.bool (by rw[hf1];simp_all)) (.cons (congrArg (U.int .i64) (by omega)) (.nil rfl)))))⟩
       ·refine d_gS rfl rfl rfl rfl (by assumption) ?_
        refine d_gS rfl rfl rfl rfl (by assumption) ?_
        refine d_gS rfl rfl rfl rfl (by assumption) ?_
        refine d_gS rfl rfl rfl rfl (by assumption) ?_
        refine d_gS rfl rfl rfl rfl (by assumption) ?_
        refine yk [(2,U.box 0 0),(5,.int .i64 a),(6,.int .i64 b),(7,U.box 2 0),(9,U.box 3 0),(19,.int .i64 y),(213,U.box (List.length Y) 0),(214,.int .i64 QL),(215,.int .i64 y),(216,.int .i64 (QL - y)),(217,U.box 3 0),(218,.int .i64 DL),(219,U.bool (decide (QL - y<DL))),(222,U.box (List.length Y) 1),(223,.int .i64 QH),(224,.int .i64 y),(225,.int .i64 (QH - y)),(226,U.box 3 1),(227,.int .i64 DH),(228,U.bool (decide (DH<QH - y))),(232,U.box (List.length Y) 0),(233,.int .i64 QL),(234,.int .i64 y),(235,.int .i64 (QL - y)),(236,U.box 3 0),(237,.int .i64 DL),(238,U.bool (decide (QL - y=DL))),(239,U.bool (decide (QL - y=DL))),(241,U.bool Hi),(242,U.tup []),(243,U.tup []),(244,U.tup []),(245,U.tup []),(246,U.tup []),(247,U.tup [])] [] (Y++[SB.box [.int .i64 QL,.int .i64 QH]]) (.c4 rfl rfl rfl rfl (.c4 rfl rfl rfl rfl (.c4 rfl rfl rfl rfl (.c4 rfl rfl rfl rfl (.c4 rfl rfl rfl rfl (.c4 rfl rfl rfl rfl (.c4 rfl rfl rfl rfl (.c4 rfl rfl rfl rfl (.cons rfl (.cons rfl (.cons rfl (.nil rfl)))))))))))) rfl rfl fun fr=>?_
        refine d_gS rfl rfl rfl rfl (by assumption) ?_
        refine zC (za rfl rfl (by assumption) (zA rfl)) ?_
        refine zC (zD rfl (zA rfl)) ?_
        refine zC (zD rfl (zA rfl)) ?_
        refine d_nil ?_
        refine zL [(2,U.box 0 0),(5,.int .i64 a),(6,.int .i64 b),(7,U.box 2 0),(9,U.box 3 0),(17,U.bool (decide (QL - y=DL))),(18,.bool true),(19,.int .i64 y),(213,U.box (List.length Y) 0),(214,.int .i64 QL),(215,.int .i64 y),(216,.int .i64 (QL - y)),(217,U.box 3 0),(218,.int .i64 DL),(219,U.bool (decide (QL - y<DL))),(222,U.box (List.length Y) 1),(223,.int .i64 QH),(224,.int .i64 y),(225,.int .i64 (QH - y)),(226,U.box 3 1),(227,.int .i64 DH),(228,U.bool (decide (DH<QH - y))),(232,U.box (List.length Y) 0),(233,.int .i64 QL),(234,.int .i64 y),(235,.int .i64 (QL - y)),(236,U.box 3 0),(237,.int .i64 DL),(238,U.bool (decide (QL - y=DL))),(242,U.tup []),(243,U.tup []),(244,U.tup []),(245,U.tup []),(246,U.tup []),(247,U.tup []),(248,U.tup [])] (Y++[SB.box [.int .i64 QL,.int .i64 QH]]) (.c4 rfl rfl rfl rfl (.c4 rfl rfl rfl rfl (.c4 rfl rfl rfl rfl (.c4 rfl rfl rfl rfl (.c4 rfl rfl rfl rfl (.c4 rfl rfl rfl rfl (.c4 rfl rfl rfl rfl (.c4 rfl rfl rfl rfl (.c4 rfl rfl rfl rfl (.nil rfl)))))))))) rfl fun fr=>?_
        refine k_region (zB rfl ?_)
        refine ye rfl rfl rfl (by unfold I64;omega) (zD rfl (zA ?_))
        exact⟨kk - 1,by omega,i+1,by omega,⟨_,by show Y++[_]=_;rw[←hY,List.append_assoc]⟩,.c4 rfl rfl rfl rfl (.cons rfl (.cons (congrArg U.bool (by rw[hf0];simp_all)) (.cons (congrArg U.bool (by rw[hf1];simp_all)) (.cons (congrArg (U.int .i64) (by omega)) (.nil rfl)))))⟩
      ·refine d_gS rfl rfl rfl rfl (by assumption) ?_
       refine d_gS rfl rfl rfl rfl (by assumption) ?_
       refine d_gS rfl rfl rfl rfl (by assumption) ?_
       refine d_gS rfl rfl rfl rfl (by assumption) ?_
       refine d_gS rfl rfl rfl rfl (by assumption) ?_
       refine d_gS rfl rfl rfl rfl (by assumption) ?_
       refine yk [(2,U.box 0 0),(5,.int .i64 a),(6,.int .i64 b),(7,U.box 2 0),(9,U.box 3 0),(18,U.bool Hi),(19,.int .i64 y),(22,U.box (List.length Y) 0),(213,U.box (List.length Y) 0),(214,.int .i64 QL),(215,.int .i64 y),(216,.int .i64 (QL - y)),(217,U.box 3 0),(218,.int .i64 DL),(219,U.bool (decide (QL - y<DL))),(222,U.box (List.length Y) 1),(223,.int .i64 QH),(224,.int .i64 y),(225,.int .i64 (QH - y)),(226,U.box 3 1),(227,.int .i64 DH),(228,U.bool (decide (DH<QH - y))),(231,U.bool Lo),(232,U.tup []),(233,U.tup []),(234,U.tup []),(235,U.tup []),(236,U.tup []),(237,U.tup []),(238,U.tup [])] [] (Y++[SB.box [.int .i64 QL,.int .i64 QH]]) (.c4 rfl rfl rfl rfl (.c4 rfl rfl rfl rfl (.c4 rfl rfl rfl rfl (.c4 rfl rfl rfl rfl (.c4 rfl rfl rfl rfl (.c4 rfl rfl rfl rfl (.c4 rfl rfl rfl rfl (.cons rfl (.cons rfl (.nil rfl)))))))))) rfl rfl fun fr=>?_
       refine zC (za rfl rfl (by assumption) (zA rfl)) ?_
       refine zC (zB rfl (zA rfl)) (zC (zB rfl (zA rfl)) ?_)
       refine d_guardX rfl rfl rfl rfl (fun h241=>?_) (fun h241=>?_)
       ·refine zC (zE rfl rfl yF (zA rfl)) ?_
        refine d_gD rfl rfl rfl rfl (by assumption) ?_
        refine zM rfl (zF rfl rfl (zY _ _) sh3 rfl (zA rfl)) ?_
        refine d_gD rfl rfl rfl rfl (by assumption) ?_
        refine zC (zB rfl (zA rfl)) (d_gD rfl rfl rfl rfl (by assumption) ?_)
        refine zC (o_sub rfl rfl rfl (by unfold I64;omega) (zA rfl)) ?_
        refine d_gD rfl rfl rfl rfl (by assumption) ?_
        refine zC (zE rfl rfl yF (zA rfl)) ?_
        refine d_gD rfl rfl rfl rfl (by assumption) ?_
        refine zM rfl (zF rfl rfl (zw y3) sh3 rfl (zA rfl)) ?_
        refine yk [(2,U.box 0 0),(5,.int .i64 a),(6,.int .i64 b),(7,U.box 2 0),(9,U.box 3 0),(19,.int .i64 y),(213,U.box (List.length Y) 0),(214,.int .i64 QL),(215,.int .i64 y),(216,.int .i64 (QL - y)),(217,U.box 3 0),(218,.int .i64 DL),(219,U.bool (decide (QL - y<DL))),(222,U.box (List.length Y) 1),(223,.int .i64 QH),(224,.int .i64 y),(225,.int .i64 (QH - y)),(226,U.box 3 1),(227,.int .i64 DH),(228,U.bool (decide (DH<QH - y))),(232,U.tup []),(233,U.tup []),(234,U.tup []),(235,U.tup []),(236,U.tup []),(237,U.tup []),(238,U.tup []),(239,.bool true),(241,U.bool Hi),(242,U.box (List.length Y) 1),(243,.int .i64 QH),(244,.int .i64 y),(245,.int .i64 (QH - y)),(246,U.box 3 1),(247,.int .i64 DH)] [] (Y++[SB.box [.int .i64 QL,.int .i64 QH]]) (.c4 rfl rfl rfl rfl (.c4 rfl rfl rfl rfl (.c4 rfl rfl rfl rfl (.c4 rfl rfl rfl rfl (.c4 rfl rfl rfl rfl (.c4 rfl rfl rfl rfl (.c4 rfl rfl rfl rfl (.c4 rfl rfl rfl rfl (.cons rfl (.cons rfl (.cons rfl (.nil rfl)))))))))))) rfl rfl fun fr=>?_
        refine d_gD rfl rfl rfl rfl (by assumption) ?_
        refine yk [(2,U.box 0 0),(5,.int .i64 a),(6,.int .i64 b),(7,U.box 2 0),(9,U.box 3 0),(19,.int .i64 y),(213,U.box (List.length Y) 0),(214,.int .i64 QL),(215,.int .i64 y),(216,.int .i64 (QL - y)),(217,U.box 3 0),(218,.int .i64 DL),(219,U.bool (decide (QL - y<DL))),(222,U.box (List.length Y) 1),(223,.int .i64 QH),(224,.int .i64 y),(225,.int .i64 (QH - y)),(226,U.box 3 1),(227,.int .i64 DH),(228,U.bool (decide (DH<QH - y))),(232,U.tup []),(233,U.tup []),(234,U.tup []),(235,U.tup []),(236,U.tup []),(237,U.tup []),(238,U.tup []),(239,.bool true),(241,U.bool Hi),(242,U.box (List.length Y) 1),(243,.int .i64 QH),(244,.int .i64 y),(245,.int .i64 (QH - y)),(246,U.box 3 1),(247,.int .i64 DH)] [] (Y++[SB.box [.int .i64 QL,.int .i64 QH]]) (.c4 rfl rfl rfl rfl (.c4 rfl rfl rfl rfl (.c4 rfl rfl rfl rfl (.c4 rfl rfl rfl rfl (.c4 rfl rfl rfl rfl (.c4 rfl rfl rfl rfl (.c4 rfl rfl rfl rfl (.c4 rfl rfl rfl rfl (.cons rfl (.cons rfl (.cons rfl (.nil rfl)))))))))))) rfl rfl fun fr=>?_
        refine zC (o_eql rfl rfl rfl (zA rfl)) ?_
        refine zC (zd rfl rfl (by assumption) (zA rfl)) ?_
        refine zC (zD rfl (zA rfl)) ?_
        refine zC (zD rfl (zA rfl)) ?_
        refine d_nil ?_
        refine zL [(2,U.box 0 0),(5,.int .i64 a),(6,.int .i64 b),(7,U.box 2 0),(9,U.box 3 0),(17,.bool true),(18,U.bool (decide (QH - y=DH))),(19,.int .i64 y),(213,U.box (List.length Y) 0),(214,.int .i64 QL),(215,.int .i64 y),(216,.int .i64 (QL - y)),(217,U.box 3 0),(218,.int .i64 DL),(219,U.bool (decide (QL - y<DL))),(222,U.box (List.length Y) 1),(223,.int .i64 QH),(224,.int .i64 y),(225,.int .i64 (QH - y)),(226,U.box 3 1),(227,.int .i64 DH),(228,U.bool (decide (DH<QH - y))),(232,U.tup []),(233,U.tup []),(234,U.tup []),(235,U.tup []),(236,U.tup []),(237,U.tup []),(238,U.tup []),(242,U.box (List.length Y) 1),(243,.int .i64 QH),(244,.int .i64 y),(245,.int .i64 (QH - y)),(246,U.box 3 1),(247,.int .i64 DH),(248,U.bool (decide (QH - y=DH)))] (Y++[SB.box [.int .i64 QL,.int .i64 QH]]) (.c4 rfl rfl rfl rfl (.c4 rfl rfl rfl rfl (.c4 rfl rfl rfl rfl (.c4 rfl rfl rfl rfl (.c4 rfl rfl rfl rfl (.c4 rfl rfl rfl rfl (.c4 rfl rfl rfl rfl (.c4 rfl rfl rfl rfl (.c4 rfl rfl rfl rfl (.nil rfl)))))))))) rfl fun fr=>?_
        refine k_region (zB rfl ?_)
        refine ye rfl rfl rfl (by unfold I64;omega) (zD rfl (zA ?_))
        exact⟨kk - 1,by omega,i+1,by omega,⟨_,by show Y++[_]=_;rw[←hY,List.append_assoc]⟩,.c4 rfl rfl rfl rfl (.cons rfl (.cons (congrArg U.bool (by rw[hf0];simp_all)) (.cons (congrArg U.bool (by rw[hf1];simp_all)) (.cons (congrArg (U.int .i64) (by omega)) (.nil rfl)))))⟩
       ·refine d_gS rfl rfl rfl rfl (by assumption) ?_
        refine d_gS rfl rfl rfl rfl (by assumption) ?_
        refine d_gS rfl rfl rfl rfl (by assumption) ?_
        refine d_gS rfl rfl rfl rfl (by assumption) ?_
        refine d_gS rfl rfl rfl rfl (by assumption) ?_
        refine yk [(2,U.box 0 0),(5,.int .i64 a),(6,.int .i64 b),(7,U.box 2 0),(9,U.box 3 0),(19,.int .i64 y),(213,U.box (List.length Y) 0),(214,.int .i64 QL),(215,.int .i64 y),(216,.int .i64 (QL - y)),(217,U.box 3 0),(218,.int .i64 DL),(219,U.bool (decide (QL - y<DL))),(222,U.box (List.length Y) 1),(223,.int .i64 QH),(224,.int .i64 y),(225,.int .i64 (QH - y)),(226,U.box 3 1),(227,.int .i64 DH),(228,U.bool (decide (DH<QH - y))),(232,U.tup []),(233,U.tup []),(234,U.tup []),(235,U.tup []),(236,U.tup []),(237,U.tup []),(238,U.tup []),(239,.bool true),(241,U.bool Hi),(242,U.tup []),(243,U.tup []),(244,U.tup []),(245,U.tup []),(246,U.tup []),(247,U.tup [])] [] (Y++[SB.box [.int .i64 QL,.int .i64 QH]]) (.c4 rfl rfl rfl rfl (.c4 rfl rfl rfl rfl (.c4 rfl rfl rfl rfl (.c4 rfl rfl rfl rfl (.c4 rfl rfl rfl rfl (.c4 rfl rfl rfl rfl (.c4 rfl rfl rfl rfl (.c4 rfl rfl rfl rfl (.cons rfl (.cons rfl (.cons rfl (.nil rfl)))))))))))) rfl rfl fun fr=>?_
        refine d_gS rfl rfl rfl rfl (by assumption) ?_
        refine zC (za rfl rfl (by assumption) (zA rfl)) ?_
        refine zC (zD rfl (zA rfl)) ?_
        refine zC (zD rfl (zA rfl)) ?_
        refine d_nil ?_
        refine zL [(2,U.box 0 0),(5,.int .i64 a),(6,.int .i64 b),(7,U.box 2 0),(9,U.box 3 0),(17,.bool true),(18,.bool true),(19,.int .i64 y),(213,U.box (List.length Y) 0),(214,.int .i64 QL),(215,.int .i64 y),(216,.int .i64 (QL - y)),(217,U.box 3 0),(218,.int .i64 DL),(219,U.bool (decide (QL - y<DL))),(222,U.box (List.length Y) 1),(223,.int .i64 QH),(224,.int .i64 y),(225,.int .i64 (QH - y)),(226,U.box 3 1),(227,.int .i64 DH),(228,U.bool (decide (DH<QH - y))),(232,U.tup []),(233,U.tup []),(234,U.tup []),(235,U.tup []),(236,U.tup []),(237,U.tup []),(238,U.tup []),(242,U.tup []),(243,U.tup []),(244,U.tup []),(245,U.tup []),(246,U.tup []),(247,U.tup []),(248,U.tup [])] (Y++[SB.box [.int .i64 QL,.int .i64 QH]]) (.c4 rfl rfl rfl rfl (.c4 rfl rfl rfl rfl (.c4 rfl rfl rfl rfl (.c4 rfl rfl rfl rfl (.c4 rfl rfl rfl rfl (.c4 rfl rfl rfl rfl (.c4 rfl rfl rfl rfl (.c4 rfl rfl rfl rfl (.c4 rfl rfl rfl rfl (.nil rfl)))))))))) rfl fun fr=>?_
        refine k_region (zB rfl ?_)
        refine ye rfl rfl rfl (by unfold I64;omega) (zD rfl (zA ?_))
        exact⟨kk - 1,by omega,i+1,by omega,⟨_,by show Y++[_]=_;rw[←hY,List.append_assoc]⟩,.c4 rfl rfl rfl rfl (.cons rfl (.cons (congrArg U.bool (by rw[hf0];simp_all)) (.cons (congrArg U.bool (by rw[hf1];simp_all)) (.cons (congrArg (U.int .i64) (by omega)) (.nil rfl)))))⟩
     ·rw[decide_eq_false h0]at p24 hf0 hf1
      rw[Bool.false_and,Bool.or_false]at hf0 hf1
      refine k_seq (kQ (zB rfl (zE rfl rfl yF (zF rfl rfl y2 sh3 rfl ?_))))
      refine o_leq rfl rfl rfl (zA (k_cT rfl (decide_eq_true (by omega)) (zU (k_seq (zQ (kQ (zJ rfl rfl y0 sh28 rfl ?_)))))))
      refine zB rfl (zB rfl (zT rfl (p24) (.lrefl _) (zB rfl (zS rfl rfl rfl (zS rfl rfl rfl (zD rfl (zD rfl (zA ?_))))))))
      refine zL [(2,U.box 0 0),(5,.int .i64 a),(6,.int .i64 b),(7,U.box 2 0),(9,U.box 3 0),(17,U.bool Lo),(18,U.bool Hi),(19,.int .i64 y),(20,.bool false),(21,.int .i64 0)] (Y) (.c4 rfl rfl rfl rfl (.c4 rfl rfl rfl rfl (.cons rfl (.cons rfl (.nil rfl))))) rfl fun fr=>?_
      refine k_seq (kQ (zB rfl (o_neq rfl rfl rfl (zA (k_cF rfl rfl ?_)))))
      refine zU (k_seq (kQ (zB rfl (o_not rfl rfl (zA (k_cT rfl rfl ?_))))))
      refine yX (k_region (zB rfl ?_))
      refine ye rfl rfl rfl (by unfold I64;omega) (zD rfl (zA ?_))
      exact⟨kk - 1,by omega,i+1,by omega,⟨_,hY.symm⟩,.c4 rfl rfl rfl rfl (.cons rfl (.cons (congrArg U.bool (by rw[hf0])) (.cons (congrArg U.bool (by rw[hf1])) (.cons (congrArg (U.int .i64) (by omega)) (.nil rfl)))))⟩
    ·have hiN:i=(PH+1 - PL).toNat:=by omega
     subst hiN
     rw[ff0,ff1]
     refine k_seq (kQ (zB rfl (zE rfl rfl yF (zF rfl rfl y2 sh3 rfl ?_))))
     refine o_leq rfl rfl rfl (zA (k_cF rfl (decide_eq_false (by omega)) (yX (kQ (zB rfl (zB rfl (o_gD rfl rfl rfl rfl rfl (zB rfl ?_))))))))
     refine za rfl rfl rfl ?_
     refine zB rfl (o_gD rfl rfl rfl rfl rfl (zT rfl (r21) (.lrefl _) (za rfl rfl rfl ?_)))
     refine zD rfl (zA (ze ?_))
     refine⟨.inr rfl,_,.cons _ _ _ _ (.tmp 4) .nil,?_⟩
     exact .refl _
end
section
variable {is:FuncId→Bool}{orc:Known}
theorem ret8_all(hi:Off is)(r21:RetP Try.prog is orc 21 [] (.bool true)):∀us,ShpAs Try.prog [28,48] us→RetP Try.prog is orc 8 us (.bool true):=by
 intro us h
 cases h with
 |cons _ _ u us h1 h=>cases h with
 |cons _ _ v us h2 h=>
 cases h
 obtain⟨fs,hu⟩:=und28
 unfold ShpA at h1 h2
 rw[hu]at h1
 rw[u48]at h2
 obtain⟨t,rfl⟩:=arg_set h1
 obtain⟨a,b,rfl⟩:=arg_two h2
 exact ret8 hi t a b r21
end
end Go.Proofs.Ytinhcdijbcamaaa.tuneEnds
