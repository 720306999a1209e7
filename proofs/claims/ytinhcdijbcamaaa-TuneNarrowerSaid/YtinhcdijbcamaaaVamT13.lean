import Derived.Test.YtinhcdijbcamaaaVamT12
set_option linter.unusedVariables false
set_option linter.unusedSimpArgs false
set_option linter.constructorNameAsVariable false
namespace Go.Proofs.Ytinhcdijbcamaaa.tuneNarrower
open Vam
section
variable {is:FuncId→Bool}{orc:Known}
theorem ty38:tyOf Try.prog 38=.array 4 3:=by kernel_rfl
theorem ty4:tyOf Try.prog 4=.bool:=by kernel_rfl
noncomputable def b9:Code:=(Try.f9.body).getD .skip
theorem body9:bodyOf Try.prog 9=some (159,b9,[.tmp 4]):=by kernel_rfl
theorem pure9:pureFn Try.prog 9=false:=by kernel_rfl
variable {t:Ts}{J:List Jn}{v x:Int}
theorem tunE_put(h:TOk t)(hv:Key t v){q:Two}(h1:hloT t v≤q.a)(h2:q.b≤hhiT t v)(ht:TunE (putS t v q) J):TunE t J:=by
 obtain⟨p,hp⟩:=ht
 exact⟨p,uL hv h1 h2 hp⟩
theorem errT_01(t:Ts):errT t=0∨errT t=12:=by unfold errT;split<;>simp
theorem uG(t:Ts):errT t=0↔tunB t (zp t)=true:=by unfold errT;split<;>simp_all
theorem uO(hv:z7 t=true)(ha:Key t v):canB t v x=(tunB t (zp t)&&(decide (hloT t v≤x∧x≤hhiT t v)&&tunB (yn t v x) (zp t))):=by
 unfold canB
 rw[uC hv ha]
 cases htb:tunB t (zp t)with
 |true=>rw[decide_eq_true ((uG t).2 htb)]
 |false=>rw[decide_eq_false (fun h=>by rw[(uG t).1 h]at htb;cases htb)]
set_option maxHeartbeats 16000000 in
theorem ret9(hi:Off is)(t:Ts)(n0 n1 n2 n3:Int)(r21:RetP Try.prog is orc 21 [] (.bool true)):RetP Try.prog is orc 9 [t.u,.agg [.int .i64 n0,.int .i64 n1,.int .i64 n2,.int .i64 n3]] (.bool true):=by
 have q35:=ret35 (orc:=orc) hi t
 have hd4:∀u∈[t.u,.agg [.int .i64 n0,.int .i64 n1,.int .i64 n2,.int .i64 n3]],Dat 8 u:=z4 (wC t 4) (.agg _ _ fun c hc=>by
  simp only[List.mem_cons,List.not_mem_nil,or_false]at hc
  rcases hc with rfl|rfl|rfl|rfl<;>exact .int _ _ _)
 refine ret_of_shared body9 pure9 rfl rfl (fun u hu=>⟨(hd4 u hu).nb,(hd4 u hu).own⟩) (Dat.bool 8 true).nb ?_
 cases hv:z7 t with
 |false=>
  rw[hv]at q35
  refine kQ (yH rfl rfl (yH rfl rfl (zC rfl (zB ?_))))
  refine zM [(2,.box 0 0),(3,.box 1 0)] ([SB.box t.cs,SB.box [.int .i64 n0,.int .i64 n1,.int .i64 n2,.int .i64 n3]]) (.c2 rfl rfl (.nil rfl)) rfl fun fr=>?_
  refine k_seq (kQ (zK rfl rfl rfl sh28 rfl (zX rfl (q35) (.lrefl _) (o_not rfl rfl (zB (k_cT rfl rfl ?_))))))
  refine kQ (zX rfl (r21) (.lrefl _) (zC rfl (zB (ze ?_))))
  refine⟨.inr rfl,_,.cons _ _ _ _ (.tmp 4) .nil,?_⟩
  exact .refl _
 |true=>
  rw[hv]at q35
  have hok:=(y8 t).1 hv
  have hs:=hok.sok
  have hn1:=hok.n1
  have hn8:=hok.n8
  have q38a:=ret38 (orc:=orc) hi n0 t.heard.length (by omega)
  have q38b:=ret38 (orc:=orc) hi n2 t.heard.length (by omega)
  have ha:Key t (wg n0 t.heard.length):=uH (by omega)
  have hb:Key t (wg n2 t.heard.length):=uH (by omega)
  generalize wg n0 t.heard.length=a at q38a ha
  generalize wg n2 t.heard.length=b at q38b hb
  obtain⟨h,hh,ea1,ea2,hhb⟩:=hs.key ha
  obtain⟨g,hg,eb1,eb2,hgb⟩:=hs.key hb
  have d1:=uc (a:=h.a) (b:=h.b) n1 (by omega)
  have q44a:=ret44 (orc:=orc) hi h.a h.b n1 (by omega) (by omega)
  generalize uV h.a h.b n1=lo at d1 q44a
  have d2:=uc (a:=lo) (b:=h.b) n3 (by omega)
  have q44b:=ret44 (orc:=orc) hi lo h.b n3 (by omega) (by omega)
  have q41a:=ret41 (orc:=orc) hi lo h.b
  generalize uV lo h.b n3=up at d2 q44b
  have q41b:=ret41 (orc:=orc) hi lo up
  have d3:=uc (a:=g.a) (b:=g.b) n3 (by omega)
  have q44c:=ret44 (orc:=orc) hi g.a g.b n3 (by omega) (by omega)
  generalize uV g.a g.b n3=x at d3 q44c
  obtain⟨s,hs'⟩:∃s,s=putS t a ⟨lo,up⟩:=⟨_,rfl⟩
  have hsk:TOk s:=by rw[hs'];exact put_ok hok (show 1≤lo∧lo≤up∧up≤4000∧up - lo≤40 by omega)
  have hsv:=(y8 s).2 hsk
  have hsl:s.heard.length=t.heard.length:=by rw[hs'];unfold putS;simp
  have hsJ:zp s=zp t:=by rw[hs'];rfl
  have hsb:Key s b:=by unfold Key;rw[hsl];exact hb
  obtain⟨r,hr⟩:∃r,r=putS t b ⟨x,x⟩:=⟨_,rfl⟩
  have hrk:TOk r:=by rw[hr];exact put_ok hok (show 1≤x∧x≤x∧x≤4000∧x - x≤40 by omega)
  have hrv:=(y8 r).2 hrk
  have hrJ:zp r=zp t:=by rw[hr];rfl
  have p22:=ret22 (orc:=orc) hi t b
  have p22s:=ret22 (orc:=orc) hi s b
  have p24:=ret24 (orc:=orc) hi t b x
  have p24s:=ret24 (orc:=orc) hi s b x
  have p19:=ret19 (orc:=orc) hi r
  have p43:RetP Try.prog is orc 43 [t.u,.int .i64 b,.int .i64 x] r.u:=by rw[hr];exact ret43 (orc:=orc) hi hn1 hn8 hb
  rw[uC hv hb]at p22 p24
  rw[uC hsv hsb]at p22s p24s
  rw[ask_nil hrv]at p19
  have hl:hhiT t b=g.b:=eb2
  have k1:tunB s (zp s)=true→tunB t (zp t)=true:=fun h1=>by
   rw[y7 hs]
   have:=(y7 hsk.sok).1 h1
   rw[hsJ,hs']at this
   exact tunE_put hok ha (show hloT t a≤lo by omega) (show up≤hhiT t a by omega) this
  have k2:canB s b x=true→canB t b x=true:=fun h1=>by
   rw[uO hsv hsb,Bool.and_eq_true,Bool.and_eq_true,decide_eq_true_eq]at h1
   obtain⟨h1,h2,h3⟩:=h1
   have h3':=(y7 (wR hsk.sok (by omega))).1 h3
   rw[uO hv hb,k1 h1,decide_eq_true (by omega),Bool.true_and,Bool.true_and,y7 (wR hs (by omega))]
   obtain⟨p,hp⟩:=h3'
   rw[hsJ]at hp
   obtain⟨hp1,hp2⟩:=(wk hsb h2 p).1 hp
   refine⟨p,(wk hb (show hloT t b≤x∧x≤hhiT t b by omega) p).2 ⟨?_,hp2⟩⟩
   rw[hs']at hp1
   exact uL ha (show hloT t a≤lo by omega) (show up≤hhiT t a by omega) hp1
  have k3:canB t b x=decide (errT r=0):=by
   rw[uO hv hb,decide_eq_true (show hloT t b≤x∧x≤hhiT t b by omega),Bool.true_and]
   have hn:tunB (yn t b x) (zp t)=tunB r (zp r):=by rw[hrJ,hr];rfl
   rw[hn]
   cases hrb:tunB r (zp r)with
   |false=>rw[Bool.and_false,decide_eq_false (fun h=>by rw[(uG r).1 h]at hrb;cases hrb)]
   |true=>
    rw[Bool.and_true,decide_eq_true ((uG r).2 hrb),y7 hs]
    have:=(y7 hrk.sok).1 hrb
    rw[hrJ,hr]at this
    exact tunE_put hok hb (show hloT t b≤x by omega) (show x≤hhiT t b by omega) this
  have k4:errT s=0→errT t=0∧utP t (zp t) false b≤utP s (zp s) false b∧utP s (zp s) true b≤utP t (zp t) true b:=fun h1=>by
   have h2:=(uG s).1 h1
   have h3:=k1 h2
   have ht:=(y7 hs).1 h3
   have hts:=(y7 hsk.sok).1 h2
   obtain⟨⟨p1,hp1,e1⟩,_⟩:=ut_low hsk.sok hts hsb
   obtain⟨⟨p2,hp2,e2⟩,_⟩:=ut_high hsk.sok hts hsb
   rw[hsJ,hs']at hp1 hp2
   have m1:=(ut_low hs ht hb).2 p1 (uL ha (show hloT t a≤lo by omega) (show up≤hhiT t a by omega) hp1)
   have m2:=(ut_high hs ht hb).2 p2 (uL ha (show hloT t a≤lo by omega) (show up≤hhiT t a by omega) hp2)
   refine⟨(uG t).2 h3,?_,?_⟩
   ·rw[←e1];exact m1
   ·rw[←e2];exact m2
  obtain⟨P1,P2,hP,hP'⟩:∃P1 P2,pitU t b=z9 P1 P2∧(errT t=0→P1=utP t (zp t) false b∧P2=utP t (zp t) true b):=by
   unfold pitU
   rw[uC hv hb]
   split
   ·exact⟨_,_,rfl,fun _=>⟨rfl,rfl⟩⟩
   ·rename_i h0;exact⟨_,_,rfl,fun h=>absurd h h0⟩
  obtain⟨Q1,Q2,hQ,hQ'⟩:∃Q1 Q2,pitU s b=z9 Q1 Q2∧(errT s=0→Q1=utP s (zp s) false b∧Q2=utP s (zp s) true b):=by
   unfold pitU
   rw[uC hsv hsb]
   split
   ·exact⟨_,_,rfl,fun _=>⟨rfl,rfl⟩⟩
   ·rename_i h0;exact⟨_,_,rfl,fun h=>absurd h h0⟩
  have k5:errT s=0→errT t=0∧P1≤Q1∧Q2≤P2:=fun h1=>by
   obtain⟨a1,a2,a3⟩:=k4 h1
   obtain⟨b1,b2⟩:=hP' a1
   obtain⟨c1,c2⟩:=hQ' h1
   rw[b1,b2,c1,c2];exact⟨a1,a2,a3⟩
  have j1:=errT_01 t
  have j2:=errT_01 s
  rw[hP]at p22
  rw[hQ]at p22s
  clear hP hQ hP' hQ' k1 k4
  generalize errT t=e at p22 p24 j1 k5
  generalize errT s=f at p22s p24s j2 k5
  generalize errT r=w at p19 k3
  generalize canB t b x=C at p24 k2 k3
  generalize canB s b x=D at p24s k2
  generalize tunR r=R at p19
  subst hs'
  subst hr
  have hset:=wL t.heard a.toNat ⟨lo,up⟩ (by have:=ha.1;have:=ha.2;omega)
  have hfl:=yl t.heard
  have hfs:zf (zS (putS t a ⟨lo,up⟩).heard)=(((zf (zS (putS t a ⟨lo,up⟩).heard)).map dg).drop 0).take (t.heard.length*2):=by
   rw[z0,List.drop_zero,List.take_of_length_le (by rw[yl];omega)]
  have hez:∀e∈zS (putS t a ⟨lo,up⟩).heard,(zq e).length=2:=fun e he=>by
   obtain⟨q,_,rfl⟩:=List.mem_map.1 he;rfl
  have hel:(zS (putS t a ⟨lo,up⟩).heard).length=t.heard.length:=by rw[List.length_map];exact hsl
  have hle:0+t.heard.length*2≤((zf (zS (putS t a ⟨lo,up⟩).heard)).map dg).length:=by rw[z0,yl];omega
  have ha0:=ha.1
  have ha1:=ha.2
  have hb0:=hb.1
  have hb1:=hb.2
  refine kQ (yH rfl rfl (yH rfl rfl (zC rfl (zB ?_))))
  refine zM [(2,.box 0 0),(3,.box 1 0)] ([SB.box t.cs,SB.box [.int .i64 n0,.int .i64 n1,.int .i64 n2,.int .i64 n3]]) (.c2 rfl rfl (.nil rfl)) rfl fun fr=>?_
  refine k_seq (kQ (zK rfl rfl rfl sh28 rfl (zX rfl (q35) (.lrefl _) (o_not rfl rfl (zB (k_cF rfl rfl ?_))))))
  refine zW (k_seq (k_draw [.plain,.read true,.plain,.read true,.read true,.read false,.plain,.read true,.plain,.read true,.read true,.plain,.plain,.plain] (by kernel_rfl) (by kernel_rfl) (by kernel_rfl) ?_))
  refine zE (yu rfl ty38 rfl rfl (by omega) (by omega) cl3 (zB rfl)) ?_
  refine zi rfl (zF rfl rfl rfl sh3 rfl (zB rfl)) (zE (zG rfl rfl yA (zB rfl)) ?_)
  refine zi rfl (zF rfl rfl rfl sh22 rfl (zB rfl)) (zi rfl (yZ rfl ty22 rfl (List.length_map _) (zB rfl)) ?_)
  refine d_callR rfl (q38a) (.int _ _) (.lrefl _) ?_
  refine zE (yu rfl ty38 rfl rfl (by omega) (by omega) cl3 (zB rfl)) ?_
  refine zi rfl (zF rfl rfl rfl sh3 rfl (zB rfl)) (zE (zG rfl rfl yA (zB rfl)) ?_)
  refine d_genA [(2,.box 0 0),(3,.box 1 0),(30,.int .i64 a),(32,.int .i64 n2),(33,.box 0 0)] [] ([SB.box t.cs,SB.box [.int .i64 n0,.int .i64 n1,.int .i64 n2,.int .i64 n3]]) (.c4 rfl rfl rfl rfl (.cons rfl (.nil rfl))) rfl rfl fun fr=>?_
  refine zi rfl (zF rfl rfl rfl sh22 rfl (zB rfl)) (zi rfl (yZ rfl ty22 rfl (List.length_map _) (zB rfl)) ?_)
  refine zE (zX rfl (q38b) (.lrefl _) (zB rfl)) ?_
  refine zE (zC rfl (zB rfl)) ?_
  refine zE (zC rfl (zB rfl)) ?_
  refine d_nil ?_
  refine zM [(2,.box 0 0),(3,.box 1 0),(5,.int .i64 a),(6,.int .i64 b)] ([SB.box t.cs,SB.box [.int .i64 n0,.int .i64 n1,.int .i64 n2,.int .i64 n3]]) (.c4 rfl rfl rfl rfl (.nil rfl)) rfl fun fr=>?_
  refine kQ (zG rfl rfl yA (zF rfl rfl rfl sh22 rfl (zA rfl ?_)))
  refine yr (u:=h.u) rfl ty22 rfl rfl (by omega) (by rw[List.getElem?_map,hh];rfl) cl26 ?_
  refine yC rfl rfl sh26 rfl ?_
  refine zV rfl ze26 ?_
  refine zN rfl rfl sh26 rfl rfl rfl rfl rfl ?_
  refine zB ?_
  refine zM [(2,.box 0 0),(3,.box 1 0),(5,.int .i64 a),(6,.int .i64 b),(7,.box 2 0)] ([SB.box t.cs,SB.box [.int .i64 n0,.int .i64 n1,.int .i64 n2,.int .i64 n3],SB.box [.int .i64 h.a,.int .i64 h.b]]) (.c4 rfl rfl rfl rfl (.cons rfl (.nil rfl))) rfl fun fr=>?_
  refine kQ (zK rfl rfl rfl sh28 rfl (zV rfl ze28 ?_))
  refine zN rfl rfl sh28 rfl rfl rfl rfl rfl ?_
  refine zB ?_
  refine zM [(2,.box 0 0),(3,.box 1 0),(5,.int .i64 a),(6,.int .i64 b),(7,.box 2 0),(8,.box 3 0)] ([SB.box t.cs,SB.box [.int .i64 n0,.int .i64 n1,.int .i64 n2,.int .i64 n3],SB.box [.int .i64 h.a,.int .i64 h.b],SB.box t.cs]) (.c4 rfl rfl rfl rfl (.c2 rfl rfl (.nil rfl))) rfl fun fr=>?_
  refine kQ (o_lit (es:=[]) rfl ty22 ze26 cl26 rfl rfl rfl rfl rfl rfl rfl rfl ?_)
  refine zG rfl rfl yA (zF rfl rfl rfl sh22 rfl (o_appendB rfl uf rfl rfl (by simp) (by simp) (wM t.heard) (z0 t.heard) (List.length_map _) (by omega) (by omega) ?_))
  refine zG rfl rfl yA (o_store1 rfl rfl sh22 rfl rfl (zB ?_))
  refine zM [(2,.box 0 0),(3,.box 1 0),(5,.int .i64 a),(6,.int .i64 b),(7,.box 2 0),(8,.box 3 0)] ([SB.box t.cs,SB.box [.int .i64 n0,.int .i64 n1,.int .i64 n2,.int .i64 n3],SB.box [.int .i64 h.a,.int .i64 h.b],SB.box [U.sl 4 0 t.heard.length 2,.lst .ro 2 (yg t.scales),.lst .ro 2 (zS t.pairs),.int .i64 t.lo,.int .i64 t.hi],SB.box (zf (zS t.heard))]) (.c4 rfl rfl rfl rfl (.c2 rfl rfl (.nil rfl))) rfl fun fr=>?_
  refine kQ (zK rfl rfl rfl sh26 rfl (yu rfl ty38 rfl rfl (by omega) (by omega) cl3 ?_))
  refine zF rfl rfl rfl sh3 rfl (zX rfl (q44a) (.lrefl _) (zC rfl (zB (k_seq (k_draw [.plain,.read true,.plain,.plain,.plain,.plain,.read true,.read false,.plain,.read true,.read false,.read false,.plain,.plain] (by kernel_rfl) (by kernel_rfl) (by kernel_rfl) ?_)))))
  refine zE (zG rfl rfl yA (zB rfl)) ?_
  refine zi rfl (zF rfl rfl rfl sh22 rfl (zB rfl)) (zE (zA rfl (zB rfl)) (zE (zA rfl (zB rfl)) (zE (zA rfl (zB rfl)) (zE (zG rfl rfl yh (zB rfl)) ?_))))
  refine zi rfl (zF rfl rfl rfl sh3 rfl (zB rfl)) (d_callR rfl (q41a) (wH _ _) (.lrefl _) ?_)
  refine zE (yu rfl ty38 rfl rfl (by omega) (by omega) cl3 (zB rfl)) ?_
  refine d_genA [(2,.box 0 0),(3,.box 1 0),(6,.int .i64 b),(8,.box 3 0),(53,.sl 4 0 t.heard.length 2),(54,.int .i64 a),(55,.int .i64 lo),(59,z9 lo h.b),(60,.box 1 3)] [] ([SB.box t.cs,SB.box [.int .i64 n0,.int .i64 n1,.int .i64 n2,.int .i64 n3],SB.box [.int .i64 h.a,.int .i64 h.b],SB.box [U.sl 4 0 t.heard.length 2,.lst .ro 2 (yg t.scales),.lst .ro 2 (zS t.pairs),.int .i64 t.lo,.int .i64 t.hi],SB.box (zf (zS t.heard))]) (.c4 rfl rfl rfl rfl (.c4 rfl rfl rfl rfl (.cons rfl (.nil rfl)))) rfl rfl fun fr=>?_
  refine zi rfl (zF rfl rfl rfl sh3 rfl (zB rfl)) (d_callR rfl (q44b) (.int _ _) (.lrefl _) ?_)
  refine d_callR rfl (q41b) (wH _ _) (.lrefl _) ?_
  refine zE (o_idxS rfl ty22 rfl rfl (by omega) (by omega) cl26 (zB rfl)) ?_
  refine zE (o_storeNW rfl rfl sh26 rfl rfl rfl (by rw[hfl];omega) rfl hset (zB rfl)) ?_
  refine d_nil ?_
  refine zM [(2,.box 0 0),(3,.box 1 0),(6,.int .i64 b),(8,.box 3 0)] ([SB.box t.cs,SB.box [.int .i64 n0,.int .i64 n1,.int .i64 n2,.int .i64 n3],SB.box [.int .i64 h.a,.int .i64 h.b],SB.box [U.sl 4 0 t.heard.length 2,.lst .ro 2 (yg t.scales),.lst .ro 2 (zS t.pairs),.int .i64 t.lo,.int .i64 t.hi],SB.box (zf (zS (List.set t.heard (Int.toNat a) {a:=lo,b:=up})))]) (.c4 rfl rfl rfl rfl (.nil rfl)) rfl fun fr=>?_
  refine k_seq (k_draw [.plain,.read true,.plain,.plain,.read true,.plain,.read true,.plain,.plain] (by kernel_rfl) (by kernel_rfl) (by kernel_rfl) ?_)
  refine zE (zG rfl rfl yA (zB rfl)) ?_
  refine zi rfl (zF rfl rfl rfl sh22 rfl (zB rfl)) (zE (zA rfl (zB rfl)) ?_)
  refine zE (yr (u:=g.u) rfl ty22 rfl rfl (by omega) (by rw[List.getElem?_map,hg];rfl) cl26 (zB rfl)) ?_
  refine zi rfl (yC rfl rfl sh26 rfl (zB rfl)) ?_
  refine zE (yu rfl ty38 rfl rfl (by omega) (by omega) cl3 (zB rfl)) ?_
  refine zi rfl (zF rfl rfl rfl sh3 rfl (zB rfl)) (zE (zX rfl (q44c) (.lrefl _) (zB rfl)) ?_)
  refine zE (zC rfl (zB rfl)) ?_
  refine d_nil ?_
  refine zM [(2,.box 0 0),(6,.int .i64 b),(8,.box 3 0),(10,.int .i64 x)] ([SB.box t.cs,SB.box [.int .i64 n0,.int .i64 n1,.int .i64 n2,.int .i64 n3],SB.box [.int .i64 h.a,.int .i64 h.b],SB.box [U.sl 4 0 t.heard.length 2,.lst .ro 2 (yg t.scales),.lst .ro 2 (zS t.pairs),.int .i64 t.lo,.int .i64 t.hi],SB.box (zf (zS (List.set t.heard (Int.toNat a) {a:=lo,b:=up})))]) (.c4 rfl rfl rfl rfl (.nil rfl)) rfl fun fr=>?_
  refine kQ (zK rfl rfl rfl sh28 rfl (zA rfl (zX rfl (p22) (.lrefl _) (zA rfl (zY rfl rfl rfl (zY rfl rfl rfl (zV rfl ze26 ?_)))))))
  refine zN rfl rfl sh26 rfl rfl rfl rfl rfl ?_
  refine zC rfl (zB ?_)
  refine zM [(2,.box 0 0),(6,.int .i64 b),(8,.box 3 0),(10,.int .i64 x),(11,.box 5 0),(12,.int .i64 e)] ([SB.box t.cs,SB.box [.int .i64 n0,.int .i64 n1,.int .i64 n2,.int .i64 n3],SB.box [.int .i64 h.a,.int .i64 h.b],SB.box [U.sl 4 0 t.heard.length 2,.lst .ro 2 (yg t.scales),.lst .ro 2 (zS t.pairs),.int .i64 t.lo,.int .i64 t.hi],SB.box (zf (zS (List.set t.heard (Int.toNat a) {a:=lo,b:=up}))),SB.box [.int .i64 P1,.int .i64 P2]]) (.c4 rfl rfl rfl rfl (.c2 rfl rfl (.nil rfl))) rfl fun fr=>?_
  refine kQ (o_frz (a:=4) rfl ?_)
  refine zK rfl rfl rfl sh28 rfl ?_
  refine o_see 80 rfl (fun _=>rfl) (.agg _ _ (.lcons _ _ _ _ (.sl _ _ _ _ _ _ rfl hfs hez hel hle) (.lrefl _))) ?_
  refine zA rfl (zX rfl (p22s) (.lrefl _) (zA rfl (zY rfl rfl rfl (zY rfl rfl rfl (zV rfl ze26 ?_)))))
  refine zN rfl rfl sh26 rfl rfl rfl rfl rfl ?_
  refine zC rfl (zB ?_)
  refine zM [(2,.box 0 0),(6,.int .i64 b),(8,.box 3 0),(10,.int .i64 x),(11,.box 5 0),(12,.int .i64 e),(13,.box 6 0),(14,.int .i64 f)] ([SB.box t.cs,SB.box [.int .i64 n0,.int .i64 n1,.int .i64 n2,.int .i64 n3],SB.box [.int .i64 h.a,.int .i64 h.b],SB.box [U.sl 4 0 t.heard.length 2,.lst .ro 2 (yg t.scales),.lst .ro 2 (zS t.pairs),.int .i64 t.lo,.int .i64 t.hi],SB.froz (List.map dg (zf (zS (List.set t.heard (Int.toNat a) {a:=lo,b:=up})))),SB.box [.int .i64 P1,.int .i64 P2],SB.box [.int .i64 Q1,.int .i64 Q2]]) (.c4 rfl rfl rfl rfl (.c4 rfl rfl rfl rfl (.nil rfl))) rfl fun fr=>?_
  refine kQ (zK rfl rfl rfl sh28 rfl (zA rfl (zA rfl (zX rfl (p24) (.lrefl _) (zA rfl (zY rfl rfl rfl (zY rfl rfl rfl (zC rfl ?_))))))))
  refine zC rfl (zB ?_)
  refine zM [(2,.box 0 0),(6,.int .i64 b),(8,.box 3 0),(10,.int .i64 x),(11,.box 5 0),(12,.int .i64 e),(13,.box 6 0),(14,.int .i64 f),(15,.bool C),(16,.int .i64 e)] ([SB.box t.cs,SB.box [.int .i64 n0,.int .i64 n1,.int .i64 n2,.int .i64 n3],SB.box [.int .i64 h.a,.int .i64 h.b],SB.box [U.sl 4 0 t.heard.length 2,.lst .ro 2 (yg t.scales),.lst .ro 2 (zS t.pairs),.int .i64 t.lo,.int .i64 t.hi],SB.froz (List.map dg (zf (zS (List.set t.heard (Int.toNat a) {a:=lo,b:=up})))),SB.box [.int .i64 P1,.int .i64 P2],SB.box [.int .i64 Q1,.int .i64 Q2]]) (.c4 rfl rfl rfl rfl (.c4 rfl rfl rfl rfl (.c2 rfl rfl (.nil rfl)))) rfl fun fr=>?_
  refine kQ (zK rfl rfl rfl sh28 rfl ?_)
  refine o_see 93 rfl (fun _=>rfl) (.agg _ _ (.lcons _ _ _ _ (.sl _ _ _ _ _ _ rfl hfs hez hel hle) (.lrefl _))) ?_
  refine zA rfl (zA rfl (zX rfl (p24s) (.lrefl _) (zA rfl (zY rfl rfl rfl (zY rfl rfl rfl (zC rfl (zC rfl (zB ?_))))))))
  refine zM [(2,.box 0 0),(6,.int .i64 b),(10,.int .i64 x),(11,.box 5 0),(12,.int .i64 e),(13,.box 6 0),(14,.int .i64 f),(15,.bool C),(16,.int .i64 e),(17,.bool D),(18,.int .i64 f)] ([SB.box t.cs,SB.box [.int .i64 n0,.int .i64 n1,.int .i64 n2,.int .i64 n3],SB.box [.int .i64 h.a,.int .i64 h.b],SB.box [U.sl 4 0 t.heard.length 2,.lst .ro 2 (yg t.scales),.lst .ro 2 (zS t.pairs),.int .i64 t.lo,.int .i64 t.hi],SB.froz (List.map dg (zf (zS (List.set t.heard (Int.toNat a) {a:=lo,b:=up})))),SB.box [.int .i64 P1,.int .i64 P2],SB.box [.int .i64 Q1,.int .i64 Q2]]) (.c4 rfl rfl rfl rfl (.c4 rfl rfl rfl rfl (.c2 rfl rfl (.cons rfl (.nil rfl))))) rfl fun fr=>?_
  refine kQ (zK rfl rfl rfl sh28 rfl (zA rfl (zA rfl (zX rfl (p43) (.lrefl _) (zX rfl (p19) (.lrefl _) (zA rfl (zY rfl rfl rfl (zY rfl rfl rfl ?_))))))))
  refine zC rfl (zC rfl (zB ?_))
  refine zM [(11,.box 5 0),(12,.int .i64 e),(13,.box 6 0),(14,.int .i64 f),(15,.bool C),(16,.int .i64 e),(17,.bool D),(18,.int .i64 f),(20,.int .i64 w)] ([SB.box t.cs,SB.box [.int .i64 n0,.int .i64 n1,.int .i64 n2,.int .i64 n3],SB.box [.int .i64 h.a,.int .i64 h.b],SB.box [U.sl 4 0 t.heard.length 2,.lst .ro 2 (yg t.scales),.lst .ro 2 (zS t.pairs),.int .i64 t.lo,.int .i64 t.hi],SB.froz (List.map dg (zf (zS (List.set t.heard (Int.toNat a) {a:=lo,b:=up})))),SB.box [.int .i64 P1,.int .i64 P2],SB.box [.int .i64 Q1,.int .i64 Q2]]) (.c4 rfl rfl rfl rfl (.c4 rfl rfl rfl rfl (.cons rfl (.nil rfl)))) rfl fun fr=>?_
  obtain⟨W,hW⟩:∃W:List SB,W=[.box t.cs,.box [.int .i64 n0,.int .i64 n1,.int .i64 n2,.int .i64 n3],.box [.int .i64 h.a,.int .i64 h.b],.box (tsC t (.sl 4 0 t.heard.length 2)),.froz (List.map dg (zf (zS (t.heard.set a.toNat ⟨lo,up⟩)))),.box [.int .i64 P1,.int .i64 P2],.box [.int .i64 Q1,.int .i64 Q2]]:=⟨_,rfl⟩
  have h5:W[5]? =some (.box [.int .i64 P1,.int .i64 P2]):=by rw[hW];rfl
  have h6:W[6]? =some (.box [.int .i64 Q1,.int .i64 Q2]):=by rw[hW];rfl
  refine zM [(11,.box 5 0),(12,.int .i64 e),(13,.box 6 0),(14,.int .i64 f),(15,.bool C),(16,.int .i64 e),(17,.bool D),(18,.int .i64 f),(20,.int .i64 w)] W (.c4 rfl rfl rfl rfl (.c4 rfl rfl rfl rfl (.cons rfl (.nil rfl)))) hW.symm fun frx=>?_
  clear hW
  clear p22 p22s p24 p24s p43 p19 q35 q38a q38b q44a q44b q44c q41a q41b hset hfs hez hel hle hfl
  have hee:decide (e≠e)=false:=by simp
  have hff:decide (f≠f)=false:=by simp
  have hcw:decide (C≠decide (w=0))=false:=by rw[k3];simp
  refine k_cut (fun st=>st.st=W∧Holds st [(12,.int .i64 e),(14,.int .i64 f),(141,.bool false)]) ?_ (fun st hM=>?_)
  ·rcases j2 with rfl|rfl
   ·obtain⟨rfl,m1,m2⟩:=k5 rfl
    have q40:=ret40 (orc:=orc) hi Q1 Q2 P1 P2
    rw[decide_eq_true m1,decide_eq_true m2]at q40
    cases D with
    |true=>
     have hC:=k2 rfl
     subst hC
     refine kQ (zA rfl (zA rfl (o_neq rfl rfl rfl (zA rfl (o_gD rfl rfl rfl rfl rfl (zA rfl (o_gD rfl rfl rfl rfl rfl (zA rfl ?_))))))))
     refine o_gD rfl rfl rfl rfl rfl (o_neq rfl rfl rfl (zQ rfl rfl rfl ?_))
     refine zA rfl ?_
     refine zc [(11,.box 5 0),(12,.int .i64 0),(13,.box 6 0),(14,.int .i64 0),(15,.bool true),(17,.bool true),(20,.int .i64 w),(115,.bool (decide ((0:Int)≠(0:Int))))] [] (W) (.c4 rfl rfl rfl rfl (.c4 rfl rfl rfl rfl (.nil rfl))) rfl rfl fun fr=>?_
     refine o_gD rfl rfl rfl rfl rfl ?_
     refine zc [(11,.box 5 0),(12,.int .i64 0),(13,.box 6 0),(14,.int .i64 0),(15,.bool true),(17,.bool true),(20,.int .i64 w),(115,.bool (decide ((0:Int)≠(0:Int))))] [] (W) (.c4 rfl rfl rfl rfl (.c4 rfl rfl rfl rfl (.nil rfl))) rfl rfl fun fr=>?_
     refine zA rfl (o_gD rfl rfl rfl rfl rfl (o_eql rfl rfl rfl (o_gD rfl rfl rfl rfl rfl (zA rfl (o_gD rfl rfl rfl rfl rfl (zA rfl (o_gD rfl rfl rfl rfl rfl (o_neq rfl rfl rfl ?_))))))))
     refine o_gD rfl rfl rfl rfl rfl (zA rfl (o_gD rfl rfl rfl rfl rfl (zK rfl rfl h6 sh26 rfl ?_)))
     refine o_gD rfl rfl rfl rfl rfl (zK rfl rfl h5 sh26 rfl ?_)
     refine o_gD rfl rfl rfl rfl rfl (zX rfl (q40) (.lrefl _) ?_)
     refine zc [(12,.int .i64 0),(14,.int .i64 0),(15,.bool true),(17,.bool true),(20,.int .i64 w),(115,U.bool (decide ((0:Int)≠(0:Int)))),(118,U.bool (decide ((0:Int)=(0:Int)))),(121,U.bool (decide ((0:Int)≠(0:Int)))),(124,U.bool (Bool.true&&Bool.true))] [] (W) (.c4 rfl rfl rfl rfl (.c4 rfl rfl rfl rfl (.cons rfl (.nil rfl)))) rfl rfl fun fr=>?_
     refine o_gD rfl rfl rfl rfl rfl ?_
     refine zc [(12,.int .i64 0),(14,.int .i64 0),(15,.bool true),(17,.bool true),(20,.int .i64 w),(115,U.bool (decide ((0:Int)≠(0:Int)))),(118,U.bool (decide ((0:Int)=(0:Int)))),(121,U.bool (decide ((0:Int)≠(0:Int)))),(124,U.bool (Bool.true&&Bool.true))] [] (W) (.c4 rfl rfl rfl rfl (.c4 rfl rfl rfl rfl (.cons rfl (.nil rfl)))) rfl rfl fun fr=>?_
     refine o_not rfl rfl (o_gD rfl rfl rfl rfl rfl (zQ rfl rfl rfl ?_))
     refine o_gD rfl rfl rfl rfl rfl (zT rfl rfl rfl ?_)
     refine zQ rfl rfl rfl ?_
     refine zA rfl (o_gD rfl rfl rfl rfl rfl (zA rfl (o_gD rfl rfl rfl rfl rfl (zA rfl (o_gD rfl rfl rfl rfl rfl (zA rfl (o_gD rfl rfl rfl rfl rfl (o_not rfl rfl ?_))))))))
     refine zc [(12,.int .i64 0),(14,.int .i64 0),(15,.bool true),(20,.int .i64 w),(129,U.bool !(Bool.true&&Bool.true)),(131,.bool true),(133,U.bool !Bool.true)] [] (W) (.c4 rfl rfl rfl rfl (.c2 rfl rfl (.cons rfl (.nil rfl)))) rfl rfl fun fr=>?_
     refine o_gD rfl rfl rfl rfl rfl ?_
     refine zc [(12,.int .i64 0),(14,.int .i64 0),(15,.bool true),(20,.int .i64 w),(129,U.bool !(Bool.true&&Bool.true)),(131,.bool true),(133,U.bool !Bool.true)] [] (W) (.c4 rfl rfl rfl rfl (.c2 rfl rfl (.cons rfl (.nil rfl)))) rfl rfl fun fr=>?_
     refine zT rfl rfl rfl ?_
     refine zQ rfl rfl rfl ?_
     refine zA rfl (o_gD rfl rfl rfl rfl rfl (zA rfl (o_gD rfl rfl rfl rfl rfl (zA rfl (o_gD rfl rfl rfl rfl rfl (o_eql rfl rfl rfl (o_gD rfl rfl rfl rfl rfl (o_neqB rfl ty4 rfl rfl ?_))))))))
     refine zQ rfl rfl rfl ?_
     refine zB ?_
     refine zM [(12,.int .i64 0),(14,.int .i64 0),(141,U.bool (decide (Bool.true≠decide (w=(0:Int)))))] (W) (.c2 rfl rfl (.cons rfl (.nil rfl))) rfl fun fr=>?_
     refine k_cF rfl (by assumption) (zW ?_)
     exact⟨rfl,rfl,.c2 rfl rfl (.cons (congrArg U.bool hcw) (.nil rfl))⟩
    |false=>
     refine kQ (zA rfl (zA rfl (o_neq rfl rfl rfl (zA rfl (o_gD rfl rfl rfl rfl rfl (zA rfl (o_gD rfl rfl rfl rfl rfl (zA rfl ?_))))))))
     refine o_gD rfl rfl rfl rfl rfl (o_neq rfl rfl rfl (zQ rfl rfl rfl ?_))
     refine zA rfl ?_
     refine zc [(11,.box 5 0),(12,.int .i64 0),(13,.box 6 0),(14,.int .i64 0),(15,.bool C),(17,.bool false),(20,.int .i64 w),(115,.bool (decide ((0:Int)≠(0:Int))))] [] (W) (.c4 rfl rfl rfl rfl (.c4 rfl rfl rfl rfl (.nil rfl))) rfl rfl fun fr=>?_
     refine o_gD rfl rfl rfl rfl rfl ?_
     refine zc [(11,.box 5 0),(12,.int .i64 0),(13,.box 6 0),(14,.int .i64 0),(15,.bool C),(17,.bool false),(20,.int .i64 w),(115,.bool (decide ((0:Int)≠(0:Int))))] [] (W) (.c4 rfl rfl rfl rfl (.c4 rfl rfl rfl rfl (.nil rfl))) rfl rfl fun fr=>?_
     refine zA rfl (o_gD rfl rfl rfl rfl rfl (o_eql rfl rfl rfl (o_gD rfl rfl rfl rfl rfl (zA rfl (o_gD rfl rfl rfl rfl rfl (zA rfl (o_gD rfl rfl rfl rfl rfl (o_neq rfl rfl rfl ?_))))))))
     refine o_gD rfl rfl rfl rfl rfl (zA rfl (o_gD rfl rfl rfl rfl rfl (zK rfl rfl h6 sh26 rfl ?_)))
     refine o_gD rfl rfl rfl rfl rfl (zK rfl rfl h5 sh26 rfl ?_)
     refine o_gD rfl rfl rfl rfl rfl (zX rfl (q40) (.lrefl _) ?_)
     refine zc [(12,.int .i64 0),(14,.int .i64 0),(15,U.bool C),(17,.bool false),(20,.int .i64 w),(115,U.bool (decide ((0:Int)≠(0:Int)))),(118,U.bool (decide ((0:Int)=(0:Int)))),(121,U.bool (decide ((0:Int)≠(0:Int)))),(124,U.bool (Bool.true&&Bool.true))] [] (W) (.c4 rfl rfl rfl rfl (.c4 rfl rfl rfl rfl (.cons rfl (.nil rfl)))) rfl rfl fun fr=>?_
     refine o_gD rfl rfl rfl rfl rfl ?_
     refine zc [(12,.int .i64 0),(14,.int .i64 0),(15,U.bool C),(17,.bool false),(20,.int .i64 w),(115,U.bool (decide ((0:Int)≠(0:Int)))),(118,U.bool (decide ((0:Int)=(0:Int)))),(121,U.bool (decide ((0:Int)≠(0:Int)))),(124,U.bool (Bool.true&&Bool.true))] [] (W) (.c4 rfl rfl rfl rfl (.c4 rfl rfl rfl rfl (.cons rfl (.nil rfl)))) rfl rfl fun fr=>?_
     refine o_not rfl rfl (o_gD rfl rfl rfl rfl rfl (zQ rfl rfl rfl ?_))
     refine o_gD rfl rfl rfl rfl rfl (zT rfl rfl rfl ?_)
     refine zQ rfl rfl rfl ?_
     refine zA rfl (o_gD rfl rfl rfl rfl rfl (zA rfl (o_gD rfl rfl rfl rfl rfl (zA rfl (o_gS rfl rfl rfl rfl rfl (o_gS rfl rfl rfl rfl rfl ?_))))))
     refine zc [(12,.int .i64 0),(14,.int .i64 0),(15,U.bool C),(20,.int .i64 w),(129,U.bool !(Bool.true&&Bool.true)),(131,.bool false),(133,U.tup [])] [] (W) (.c4 rfl rfl rfl rfl (.c2 rfl rfl (.cons rfl (.nil rfl)))) rfl rfl fun fr=>?_
     refine o_gD rfl rfl rfl rfl rfl ?_
     refine zc [(12,.int .i64 0),(14,.int .i64 0),(15,U.bool C),(20,.int .i64 w),(129,U.bool !(Bool.true&&Bool.true)),(131,.bool false),(133,U.tup [])] [] (W) (.c4 rfl rfl rfl rfl (.c2 rfl rfl (.cons rfl (.nil rfl)))) rfl rfl fun fr=>?_
     refine zQ rfl rfl rfl ?_
     refine zQ rfl rfl rfl ?_
     refine zA rfl (o_gD rfl rfl rfl rfl rfl (zA rfl (o_gD rfl rfl rfl rfl rfl (zA rfl (o_gD rfl rfl rfl rfl rfl (o_eql rfl rfl rfl (o_gD rfl rfl rfl rfl rfl (o_neqB rfl ty4 rfl rfl ?_))))))))
     refine zQ rfl rfl rfl ?_
     refine zB ?_
     refine zM [(12,.int .i64 0),(14,.int .i64 0),(141,U.bool (decide (C≠decide (w=(0:Int)))))] (W) (.c2 rfl rfl (.cons rfl (.nil rfl))) rfl fun fr=>?_
     refine k_cF rfl (by assumption) (zW ?_)
     exact⟨rfl,rfl,.c2 rfl rfl (.cons (congrArg U.bool hcw) (.nil rfl))⟩
   ·cases D with
    |true=>
     have hC:=k2 rfl
     subst hC
     refine kQ (zA rfl (zA rfl (o_neq rfl rfl rfl (zA rfl (o_gD rfl rfl rfl rfl (by assumption) (zA rfl (o_gD rfl rfl rfl rfl (by assumption) (zA rfl ?_))))))))
     refine o_gD rfl rfl rfl rfl (by assumption) (o_neq rfl rfl rfl (zQ rfl rfl (by assumption) ?_))
     refine zA rfl ?_
     refine zc [(11,.box 5 0),(12,.int .i64 e),(13,.box 6 0),(14,.int .i64 12),(15,.bool true),(17,.bool true),(20,.int .i64 w),(115,.bool (decide ((12:Int)≠(12:Int))))] [] (W) (.c4 rfl rfl rfl rfl (.c4 rfl rfl rfl rfl (.nil rfl))) rfl rfl fun fr=>?_
     refine o_gD rfl rfl rfl rfl rfl ?_
     refine zc [(11,.box 5 0),(12,.int .i64 e),(13,.box 6 0),(14,.int .i64 12),(15,.bool true),(17,.bool true),(20,.int .i64 w),(115,.bool (decide ((12:Int)≠(12:Int))))] [] (W) (.c4 rfl rfl rfl rfl (.c4 rfl rfl rfl rfl (.nil rfl))) rfl rfl fun fr=>?_
     refine zA rfl (o_gD rfl rfl rfl rfl rfl (o_eql rfl rfl rfl (o_gD rfl rfl rfl rfl rfl (zA rfl (o_gS rfl rfl rfl rfl rfl (o_gS rfl rfl rfl rfl rfl (o_gS rfl rfl rfl rfl rfl (o_dead rfl rfl rfl rfl ?_))))))))
     refine o_dead rfl rfl rfl rfl ?_
     refine o_dead rfl rfl rfl rfl ?_
     refine zc [(12,.int .i64 e),(14,.int .i64 12),(15,.bool true),(17,.bool true),(20,.int .i64 w),(115,U.bool (decide ((12:Int)≠(12:Int)))),(118,U.bool (decide ((12:Int)=(0:Int)))),(121,U.tup []),(124,U.tup [])] [] (W) (.c4 rfl rfl rfl rfl (.c4 rfl rfl rfl rfl (.cons rfl (.nil rfl)))) rfl rfl fun fr=>?_
     refine o_dead rfl rfl rfl rfl ?_
     refine o_gS rfl rfl rfl rfl rfl (o_gD rfl rfl rfl rfl rfl (zQ rfl rfl rfl ?_))
     refine zQ rfl rfl rfl ?_
     refine zA rfl (o_gD rfl rfl rfl rfl rfl (zA rfl (o_gD rfl rfl rfl rfl rfl (zA rfl (o_gD rfl rfl rfl rfl rfl (zA rfl (o_gD rfl rfl rfl rfl rfl (o_not rfl rfl ?_))))))))
     refine zc [(12,.int .i64 e),(14,.int .i64 12),(15,.bool true),(20,.int .i64 w),(129,.bool false),(131,.bool true),(133,U.bool !Bool.true)] [] (W) (.c4 rfl rfl rfl rfl (.c2 rfl rfl (.cons rfl (.nil rfl)))) rfl rfl fun fr=>?_
     refine o_gD rfl rfl rfl rfl rfl ?_
     refine zc [(12,.int .i64 e),(14,.int .i64 12),(15,.bool true),(20,.int .i64 w),(129,.bool false),(131,.bool true),(133,U.bool !Bool.true)] [] (W) (.c4 rfl rfl rfl rfl (.c2 rfl rfl (.cons rfl (.nil rfl)))) rfl rfl fun fr=>?_
     refine zT rfl rfl rfl ?_
     refine zQ rfl rfl rfl ?_
     refine zA rfl (o_gD rfl rfl rfl rfl rfl (zA rfl (o_gD rfl rfl rfl rfl rfl (zA rfl (o_gD rfl rfl rfl rfl rfl (o_eql rfl rfl rfl (o_gD rfl rfl rfl rfl rfl (o_neqB rfl ty4 rfl rfl ?_))))))))
     refine zQ rfl rfl rfl ?_
     refine zB ?_
     refine zM [(12,.int .i64 e),(14,.int .i64 12),(141,U.bool (decide (Bool.true≠decide (w=(0:Int)))))] (W) (.c2 rfl rfl (.cons rfl (.nil rfl))) rfl fun fr=>?_
     refine k_cF rfl (by assumption) (zW ?_)
     exact⟨rfl,rfl,.c2 rfl rfl (.cons (congrArg U.bool hcw) (.nil rfl))⟩
    |false=>
     refine kQ (zA rfl (zA rfl (o_neq rfl rfl rfl (zA rfl (o_gD rfl rfl rfl rfl (by assumption) (zA rfl (o_gD rfl rfl rfl rfl (by assumption) (zA rfl ?_))))))))
     refine o_gD rfl rfl rfl rfl (by assumption) (o_neq rfl rfl rfl (zQ rfl rfl (by assumption) ?_))
     refine zA rfl ?_
     refine zc [(11,.box 5 0),(12,.int .i64 e),(13,.box 6 0),(14,.int .i64 12),(15,.bool C),(17,.bool false),(20,.int .i64 w),(115,.bool (decide ((12:Int)≠(12:Int))))] [] (W) (.c4 rfl rfl rfl rfl (.c4 rfl rfl rfl rfl (.nil rfl))) rfl rfl fun fr=>?_
     refine o_gD rfl rfl rfl rfl rfl ?_
     refine zc [(11,.box 5 0),(12,.int .i64 e),(13,.box 6 0),(14,.int .i64 12),(15,.bool C),(17,.bool false),(20,.int .i64 w),(115,.bool (decide ((12:Int)≠(12:Int))))] [] (W) (.c4 rfl rfl rfl rfl (.c4 rfl rfl rfl rfl (.nil rfl))) rfl rfl fun fr=>?_
     refine zA rfl (o_gD rfl rfl rfl rfl rfl (o_eql rfl rfl rfl (o_gD rfl rfl rfl rfl rfl (zA rfl (o_gS rfl rfl rfl rfl rfl (o_gS rfl rfl rfl rfl rfl (o_gS rfl rfl rfl rfl rfl (o_dead rfl rfl rfl rfl ?_))))))))
     refine o_dead rfl rfl rfl rfl ?_
     refine o_dead rfl rfl rfl rfl ?_
     refine zc [(12,.int .i64 e),(14,.int .i64 12),(15,U.bool C),(17,.bool false),(20,.int .i64 w),(115,U.bool (decide ((12:Int)≠(12:Int)))),(118,U.bool (decide ((12:Int)=(0:Int)))),(121,U.tup []),(124,U.tup [])] [] (W) (.c4 rfl rfl rfl rfl (.c4 rfl rfl rfl rfl (.cons rfl (.nil rfl)))) rfl rfl fun fr=>?_
     refine o_dead rfl rfl rfl rfl ?_
     refine o_gS rfl rfl rfl rfl rfl (o_gD rfl rfl rfl rfl rfl (zQ rfl rfl rfl ?_))
     refine zQ rfl rfl rfl ?_
     refine zA rfl (o_gD rfl rfl rfl rfl rfl (zA rfl (o_gD rfl rfl rfl rfl rfl (zA rfl (o_gS rfl rfl rfl rfl rfl (o_gS rfl rfl rfl rfl rfl ?_))))))
     refine zc [(12,.int .i64 e),(14,.int .i64 12),(15,U.bool C),(20,.int .i64 w),(129,.bool false),(131,.bool false),(133,U.tup [])] [] (W) (.c4 rfl rfl rfl rfl (.c2 rfl rfl (.cons rfl (.nil rfl)))) rfl rfl fun fr=>?_
     refine o_gD rfl rfl rfl rfl rfl ?_
     refine zc [(12,.int .i64 e),(14,.int .i64 12),(15,U.bool C),(20,.int .i64 w),(129,.bool false),(131,.bool false),(133,U.tup [])] [] (W) (.c4 rfl rfl rfl rfl (.c2 rfl rfl (.cons rfl (.nil rfl)))) rfl rfl fun fr=>?_
     refine zQ rfl rfl rfl ?_
     refine zQ rfl rfl rfl ?_
     refine zA rfl (o_gD rfl rfl rfl rfl rfl (zA rfl (o_gD rfl rfl rfl rfl rfl (zA rfl (o_gD rfl rfl rfl rfl rfl (o_eql rfl rfl rfl (o_gD rfl rfl rfl rfl rfl (o_neqB rfl ty4 rfl rfl ?_))))))))
     refine zQ rfl rfl rfl ?_
     refine zB ?_
     refine zM [(12,.int .i64 e),(14,.int .i64 12),(141,U.bool (decide (C≠decide (w=(0:Int)))))] (W) (.c2 rfl rfl (.cons rfl (.nil rfl))) rfl fun fr=>?_
     refine k_cF rfl (by assumption) (zW ?_)
     exact⟨rfl,rfl,.c2 rfl rfl (.cons (congrArg U.bool hcw) (.nil rfl))⟩
  ·obtain⟨hst,hs2⟩:=hM
   refine zM _ _ hs2 hst fun frx=>?_
   rcases j2 with rfl|rfl
   ·obtain⟨rfl,_,_⟩:=k5 rfl
    refine kQ (zA rfl (o_eql rfl rfl rfl (zA rfl (o_gS rfl rfl rfl rfl rfl (o_gS rfl rfl rfl rfl rfl (zT rfl rfl rfl ?_))))))
    refine zA rfl (o_gD rfl rfl rfl rfl rfl (zA rfl (o_gD rfl rfl rfl rfl rfl (o_eql rfl rfl rfl ?_))))
    refine zc [(14,.int .i64 0),(148,.bool true),(150,U.bool (decide ((0:Int)=(0:Int))))] [] (W) (.c2 rfl rfl (.cons rfl (.nil rfl))) rfl rfl fun fr=>?_
    refine o_gD rfl rfl rfl rfl rfl ?_
    refine zc [(14,.int .i64 0),(148,.bool true),(150,U.bool (decide ((0:Int)=(0:Int))))] [] (W) (.c2 rfl rfl (.cons rfl (.nil rfl))) rfl rfl fun fr=>?_
    refine zA rfl (o_gS rfl rfl rfl rfl rfl (o_gS rfl rfl rfl rfl rfl (o_gD rfl rfl rfl rfl rfl (zT rfl rfl rfl ?_))))
    refine zT rfl rfl rfl ?_
    refine zA rfl (o_gD rfl rfl rfl rfl rfl (zX rfl (r21) (.lrefl _) (zT rfl rfl rfl ?_)))
    refine zC rfl (zB (ze ?_))
    refine⟨.inr rfl,_,.cons _ _ _ _ (.tmp 4) .nil,?_⟩
    exact .refl _
   ·rcases j1 with rfl|rfl
    ·refine kQ ?_
     refine zA rfl (o_eql rfl rfl rfl (zA rfl (o_gS rfl rfl rfl rfl rfl (o_gS rfl rfl rfl rfl rfl (zT rfl rfl rfl ?_)))))
     refine zA rfl (o_gD rfl rfl rfl rfl rfl (zA rfl (o_gD rfl rfl rfl rfl rfl (o_eql rfl rfl rfl ?_))))
     refine zc [(14,.int .i64 12),(148,.bool true),(150,U.bool (decide ((12:Int)=(0:Int))))] [] (W) (.c2 rfl rfl (.cons rfl (.nil rfl))) rfl rfl fun fr=>?_
     refine o_gD rfl rfl rfl rfl rfl ?_
     refine zc [(14,.int .i64 12),(148,.bool true),(150,U.bool (decide ((12:Int)=(0:Int))))] [] (W) (.c2 rfl rfl (.cons rfl (.nil rfl))) rfl rfl fun fr=>?_
     refine zA rfl (o_gD rfl rfl rfl rfl rfl (zA rfl (o_gD rfl rfl rfl rfl rfl (o_eql rfl rfl rfl (o_gD rfl rfl rfl rfl rfl (zQ rfl rfl rfl ?_))))))
     refine zT rfl rfl rfl ?_
     refine zA rfl (o_gD rfl rfl rfl rfl rfl (zX rfl (r21) (.lrefl _) (zT rfl rfl rfl ?_)))
     refine zC rfl (zB (ze ?_))
     refine⟨.inr rfl,_,.cons _ _ _ _ (.tmp 4) .nil,?_⟩
     exact .refl _
    ·refine kQ ?_
     refine zA rfl (o_eql rfl rfl rfl (zA rfl (o_gD rfl rfl rfl rfl rfl (zA rfl (o_gD rfl rfl rfl rfl rfl (o_eql rfl rfl rfl (zQ rfl rfl rfl ?_)))))))
     refine zA rfl (o_gD rfl rfl rfl rfl rfl (zA rfl (o_gD rfl rfl rfl rfl rfl (o_eql rfl rfl rfl ?_))))
     refine zc [(14,.int .i64 12),(148,U.bool (decide ((12:Int)=(12:Int)))),(150,U.bool (decide ((12:Int)=(0:Int))))] [] (W) (.c2 rfl rfl (.cons rfl (.nil rfl))) rfl rfl fun fr=>?_
     refine o_gD rfl rfl rfl rfl rfl ?_
     refine zc [(14,.int .i64 12),(148,U.bool (decide ((12:Int)=(12:Int)))),(150,U.bool (decide ((12:Int)=(0:Int))))] [] (W) (.c2 rfl rfl (.cons rfl (.nil rfl))) rfl rfl fun fr=>?_
     refine zA rfl (o_gD rfl rfl rfl rfl rfl (zA rfl (o_gD rfl rfl rfl rfl rfl (o_eql rfl rfl rfl (o_gD rfl rfl rfl rfl rfl (zQ rfl rfl rfl ?_))))))
     refine zT rfl rfl rfl ?_
     refine zA rfl (o_gD rfl rfl rfl rfl rfl (zX rfl (r21) (.lrefl _) (zT rfl rfl rfl ?_)))
     refine zC rfl (zB (ze ?_))
     refine⟨.inr rfl,_,.cons _ _ _ _ (.tmp 4) .nil,?_⟩
     exact .refl _
end
section
variable {is:FuncId→Bool}{orc:Known}
theorem ret9_all(hi:Off is)(r21:RetP Try.prog is orc 21 [] (.bool true)):∀us,ShpAs Try.prog [28,38] us→RetP Try.prog is orc 9 us (.bool true):=by
 intro us h
 cases h with
 |cons _ _ u us h1 h=>cases h with
 |cons _ _ v us h2 h=>
 cases h
 obtain⟨fs,hu⟩:=und28
 unfold ShpA at h1 h2
 rw[hu]at h1
 rw[u38]at h2
 obtain⟨t,rfl⟩:=arg_set h1
 obtain⟨a,b,c,d,rfl⟩:=arg_four h2
 exact ret9 hi t a b c d r21
end
end Go.Proofs.Ytinhcdijbcamaaa.tuneNarrower
