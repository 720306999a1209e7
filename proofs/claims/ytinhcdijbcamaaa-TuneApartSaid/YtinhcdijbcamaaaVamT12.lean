import Derived.Test.YtinhcdijbcamaaaVamT11
set_option linter.unusedVariables false
set_option linter.unusedSimpArgs false
set_option linter.constructorNameAsVariable false
namespace Go.Proofs.Ytinhcdijbcamaaa.tuneApart
open Vam
variable {is:FuncId→Bool}{orc:Known}
theorem ty63:tyOf Try.prog 63=.array 3 3:=by kernel_rfl
noncomputable def b12:Code:=(Try.f12.body).getD .skip
theorem body12:bodyOf Try.prog 12=some (137,b12,[.tmp 4]):=by kernel_rfl
theorem pure12:pureFn Try.prog 12=true:=by kernel_rfl
variable {t:Ts}{J:List Jn}{v x:Int}
abbrev Key(t:Ts)(a:Int):Prop:=0≤a∧a<(t.heard.length:Int)
theorem ap_back(h:SOk t J)(ht:TunE t J){a b:Int}(ha:Key t a)(hb:Key t b):apI t J b a false= -apI t J a b true∧apI t J b a true= -apI t J a b false:=by
 obtain⟨⟨p1,hp1,e1⟩,l1⟩:=ap_low h ht ha hb
 obtain⟨⟨p2,hp2,e2⟩,l2⟩:=ap_high h ht ha hb
 obtain⟨⟨p3,hp3,e3⟩,l3⟩:=ap_low h ht hb ha
 obtain⟨⟨p4,hp4,e4⟩,l4⟩:=ap_high h ht hb ha
 have:=l1 p4 hp4
 have:=l2 p3 hp3
 have:=l3 p2 hp2
 have:=l4 p1 hp1
 simp only at*
 omega
theorem ap_own(h:SOk t J)(ht:TunE t J){a:Int}(ha:Key t a):apI t J a a false=0∧apI t J a a true=0:=by
 obtain⟨⟨p1,hp1,e1⟩,l1⟩:=ap_low h ht ha ha
 obtain⟨⟨p2,hp2,e2⟩,l2⟩:=ap_high h ht ha ha
 simp only at*
 omega
theorem ap_on(h:SOk t J)(ht:TunE t J){a b c:Int}(ha:Key t a)(hb:Key t b)(hc:Key t c):apI t J a b false+apI t J b c false≤apI t J a c false∧apI t J a c true≤apI t J a b true+apI t J b c true:=by
 obtain⟨⟨p1,hp1,e1⟩,l1⟩:=ap_low h ht ha hc
 obtain⟨⟨p2,hp2,e2⟩,l2⟩:=ap_high h ht ha hc
 have:=(ap_low h ht ha hb).2 p1 hp1
 have:=(ap_low h ht hb hc).2 p1 hp1
 have:=(ap_high h ht ha hb).2 p2 hp2
 have:=(ap_high h ht hb hc).2 p2 hp2
 simp only at*
 omega
theorem tun_in(h:SOk t J){p:Int→Int}(hp:TunT t J p){a:Int}(ha:Key t a):1≤p a∧p a≤4000:=in_pos h ha (hp.1 a ha.1 ha.2)
theorem ap_b(h:SOk t J)(ht:TunE t J){a b:Int}(ha:Key t a)(hb:Key t b)(s:Bool): -4000≤apI t J a b s∧apI t J a b s≤4000:=by
 cases s with
 |false=>
  obtain⟨⟨p1,hp1,e1⟩,_⟩:=ap_low h ht ha hb
  have:=tun_in h hp1 ha
  have:=tun_in h hp1 hb
  simp only at*
  omega
 |true=>
  obtain⟨⟨p1,hp1,e1⟩,_⟩:=ap_high h ht ha hb
  have:=tun_in h hp1 ha
  have:=tun_in h hp1 hb
  simp only at*
  omega
noncomputable def errT(t:Ts):Int:=if tunB t (joinsI t)=true then 0 else 12
theorem ask_two(hv:validI t=true){a b:Int}(ha:Key t a)(hb:Key t b):askE t [a,b]=errT t:=by
 have hk:keysB t [a,b]=true:=by unfold keysB;simp;omega
 unfold askE errT
 rw[if_pos hv,if_pos hk]
theorem spn_same(a b:Int):binV Try.prog 26 .eql (valK (spanU a b)) (valK (spanU a b))=some (.bool true):=by
 have h:binV Try.prog 26 .eql (valK (spanU a b)) (valK (spanU a b))=opt none (fun x=>some (V.bool x)) (Vam.cond (ieq a a) (Vam.cond (ieq b b) (some true) (some false)) (some false)):=by kernel_rfl
 rw[h,ieq_eq,ieq_eq,show(a==a)=true by simp,show(b==b)=true by simp];rfl
set_option maxHeartbeats 16000000 in
theorem ret12(hi:Off is)(t:Ts)(n1 n2 n3:Int)(r21:RetP Try.prog is orc 21 [] (.bool true)):RetP Try.prog is orc 12 [t.u,.agg [.int .i64 n1,.int .i64 n2,.int .i64 n3]] (.bool true):=by
 have q35:=ret35 (orc:=orc) hi t
 refine ret_of body12 pure12 (hi 12 (by decide)) rfl rfl (dat_l2 (dat_ts t 4) (.agg _ _ (dat_l3 (.int _ _ _) (.int _ _ _) (.int _ _ _)))) (.inl (.bool _ _)) ?_
 cases hv:validI t with
 |false=>
  rw[hv]at q35
  refine k_seq (k_region (o_box rfl rfl (o_box rfl rfl (o_assign rfl (o_nil ?_)))))
  refine k_gen [(2,U.box 0 0),(3,U.box 1 0)] ([SB.box t.cs,SB.box [.int .i64 n1,.int .i64 n2,.int .i64 n3]]) (.cons rfl (.cons rfl (.nil rfl))) rfl fun fr=>?_
  refine k_seq (k_seq (k_region (o_loadN rfl rfl rfl sh28 rfl (o_call rfl (q35) (.lrefl _) (o_not rfl rfl (o_nil (k_cT rfl rfl ?_)))))))
  refine k_seq (k_region (o_call rfl (r21) (.lrefl _) (o_assign rfl (o_nil (k_ret ?_)))))
  refine⟨.inr rfl,_,.cons _ _ _ _ (.tmp 4) .nil,?_⟩
  exact .refl _
 |true=>
  rw[hv]at q35
  have hok:=(valid_iff t).1 hv
  have hs:=hok.sok
  have hn1:=hok.n1
  have hn8:=hok.n8
  have q1:=ret38 (orc:=orc) hi n1 t.heard.length (by omega)
  have q2:=ret38 (orc:=orc) hi n2 t.heard.length (by omega)
  have q3:=ret38 (orc:=orc) hi n3 t.heard.length (by omega)
  have ha:Key t (turnI n1 t.heard.length):=turnI_b (by omega)
  have hb:Key t (turnI n2 t.heard.length):=turnI_b (by omega)
  have hc:Key t (turnI n3 t.heard.length):=turnI_b (by omega)
  generalize turnI n1 t.heard.length=a at q1 ha
  generalize turnI n2 t.heard.length=b at q2 hb
  generalize turnI n3 t.heard.length=c at q3 hc
  have p1:=ret26 (orc:=orc) hi t a b
  have p2:=ret26 (orc:=orc) hi t b a
  have p3:=ret26 (orc:=orc) hi t b c
  have p4:=ret26 (orc:=orc) hi t a c
  have p5:=ret26 (orc:=orc) hi t a a
  unfold apaU at p1 p2 p3 p4 p5
  rw[ask_two hv ha hb]at p1
  rw[ask_two hv hb ha]at p2
  rw[ask_two hv hb hc]at p3
  rw[ask_two hv ha hc]at p4
  rw[ask_two hv ha ha]at p5
  cases htb:tunB t (joinsI t)with
  |false=>
   have he:errT t=12:=by unfold errT;rw[htb];rfl
   rw[he,if_neg (by decide)]at p1 p2 p3 p4 p5
   have q41:=ret41 (orc:=orc) hi 0 0
   refine k_seq (k_region (o_box rfl rfl (o_box rfl rfl (o_assign rfl (o_nil ?_)))))
   refine k_gen [(2,U.box 0 0),(3,U.box 1 0)] ([SB.box t.cs,SB.box [.int .i64 n1,.int .i64 n2,.int .i64 n3]]) (.cons rfl (.cons rfl (.nil rfl))) rfl fun fr=>?_
   refine k_seq (k_seq (k_region (o_loadN rfl rfl rfl sh28 rfl (o_call rfl (q35) (.lrefl _) (o_not rfl rfl (o_nil (k_cF rfl rfl ?_)))))))
   refine k_skip (k_seq (k_draw [.plain,.read true,.plain,.read true,.read true,.read false,.plain,.read true,.plain,.read true,.read true,.read false,.plain,.read true,.plain,.read true,.read true,.plain,.plain,.plain,.plain] (by kernel_rfl) (by kernel_rfl) (by kernel_rfl) ?_))
   refine d_plain (o_idxA rfl ty63 rfl rfl (by omega) (by omega) cl3 (o_nil rfl)) ?_
   refine d_load rfl (o_load1 rfl rfl rfl sh3 rfl (o_nil rfl)) (d_plain (o_faddr rfl rfl fld28_0 (o_nil rfl)) ?_)
   refine d_load rfl (o_load1 rfl rfl rfl sh22 rfl (o_nil rfl)) (d_load rfl (o_len rfl ty22 rfl (List.length_map _) (o_nil rfl)) ?_)
   refine d_callR rfl (q1) (.int _ _) (.lrefl _) ?_
   refine d_plain (o_idxA rfl ty63 rfl rfl (by omega) (by omega) cl3 (o_nil rfl)) ?_
   refine d_load rfl (o_load1 rfl rfl rfl sh3 rfl (o_nil rfl)) (d_plain (o_faddr rfl rfl fld28_0 (o_nil rfl)) ?_)
   refine d_genA [(2,U.box 0 0),(3,U.box 1 0),(27,.int .i64 a),(29,.int .i64 n2),(30,U.box 0 0)] [] ([SB.box t.cs,SB.box [.int .i64 n1,.int .i64 n2,.int .i64 n3]]) (.c4 rfl rfl rfl rfl (.cons rfl (.nil rfl))) rfl rfl fun fr=>?_
   refine d_load rfl (o_load1 rfl rfl rfl sh22 rfl (o_nil rfl)) (d_load rfl (o_len rfl ty22 rfl (List.length_map _) (o_nil rfl)) ?_)
   refine d_callR rfl (q2) (.int _ _) (.lrefl _) ?_
   refine d_plain (o_idxA rfl ty63 rfl rfl (by omega) (by omega) cl3 (o_nil rfl)) ?_
   refine d_load rfl (o_load1 rfl rfl rfl sh3 rfl (o_nil rfl)) (d_plain (o_faddr rfl rfl fld28_0 (o_nil rfl)) ?_)
   refine d_load rfl (o_load1 rfl rfl rfl sh22 rfl (o_nil rfl)) (d_load rfl (o_len rfl ty22 rfl (List.length_map _) (o_nil rfl)) ?_)
   refine d_plain (o_call rfl (q3) (.lrefl _) (o_nil rfl)) ?_
   refine d_genA [(2,U.box 0 0),(27,.int .i64 a),(33,.int .i64 b),(39,.int .i64 c)] [] ([SB.box t.cs,SB.box [.int .i64 n1,.int .i64 n2,.int .i64 n3]]) (.c4 rfl rfl rfl rfl (.nil rfl)) rfl rfl fun fr=>?_
   refine d_plain (o_assign rfl (o_nil rfl)) ?_
   refine d_plain (o_assign rfl (o_nil rfl)) ?_
   refine d_plain (o_assign rfl (o_nil rfl)) ?_
   refine d_nil ?_
   refine k_gen [(2,U.box 0 0),(5,.int .i64 a),(6,.int .i64 b),(7,.int .i64 c)] ([SB.box t.cs,SB.box [.int .i64 n1,.int .i64 n2,.int .i64 n3]]) (.c4 rfl rfl rfl rfl (.nil rfl)) rfl fun fr=>?_
   refine k_seq (k_region (o_loadN rfl rfl rfl sh28 rfl (o_move rfl (o_move rfl (o_call rfl (p1) (.lrefl _) (o_move rfl (o_extract rfl rfl rfl (o_extract rfl rfl rfl (o_alloc rfl ze26 ?_)))))))))
   refine o_storeN rfl rfl sh26 rfl rfl rfl rfl rfl ?_
   refine o_assign rfl (o_nil ?_)
   refine k_gen [(2,U.box 0 0),(5,.int .i64 a),(6,.int .i64 b),(7,.int .i64 c),(8,U.box 2 0),(9,.int .i64 12)] ([SB.box t.cs,SB.box [.int .i64 n1,.int .i64 n2,.int .i64 n3],SB.box [.int .i64 0,.int .i64 0]]) (.c4 rfl rfl rfl rfl (.cons rfl (.cons rfl (.nil rfl)))) rfl fun fr=>?_
   refine k_seq (k_region (o_loadN rfl rfl rfl sh28 rfl (o_move rfl (o_move rfl (o_call rfl (p2) (.lrefl _) (o_move rfl (o_extract rfl rfl rfl (o_extract rfl rfl rfl (o_alloc rfl ze26 ?_)))))))))
   refine o_storeN rfl rfl sh26 rfl rfl rfl rfl rfl ?_
   refine o_assign rfl (o_nil ?_)
   refine k_gen [(2,U.box 0 0),(5,.int .i64 a),(6,.int .i64 b),(7,.int .i64 c),(8,U.box 2 0),(9,.int .i64 12),(10,U.box 3 0),(11,.int .i64 12)] ([SB.box t.cs,SB.box [.int .i64 n1,.int .i64 n2,.int .i64 n3],SB.box [.int .i64 0,.int .i64 0],SB.box [.int .i64 0,.int .i64 0]]) (.c4 rfl rfl rfl rfl (.c4 rfl rfl rfl rfl (.nil rfl))) rfl fun fr=>?_
   refine k_seq (k_region (o_loadN rfl rfl rfl sh28 rfl (o_move rfl (o_move rfl (o_call rfl (p3) (.lrefl _) (o_move rfl (o_extract rfl rfl rfl (o_extract rfl rfl rfl (o_alloc rfl ze26 ?_)))))))))
   refine o_storeN rfl rfl sh26 rfl rfl rfl rfl rfl ?_
   refine o_assign rfl (o_nil ?_)
   refine k_gen [(2,U.box 0 0),(5,.int .i64 a),(7,.int .i64 c),(8,U.box 2 0),(9,.int .i64 12),(10,U.box 3 0),(11,.int .i64 12),(12,U.box 4 0),(13,.int .i64 12)] ([SB.box t.cs,SB.box [.int .i64 n1,.int .i64 n2,.int .i64 n3],SB.box [.int .i64 0,.int .i64 0],SB.box [.int .i64 0,.int .i64 0],SB.box [.int .i64 0,.int .i64 0]]) (.c4 rfl rfl rfl rfl (.c4 rfl rfl rfl rfl (.cons rfl (.nil rfl)))) rfl fun fr=>?_
   refine k_seq (k_region (o_loadN rfl rfl rfl sh28 rfl (o_move rfl (o_move rfl (o_call rfl (p4) (.lrefl _) (o_move rfl (o_extract rfl rfl rfl (o_extract rfl rfl rfl (o_alloc rfl ze26 ?_)))))))))
   refine o_storeN rfl rfl sh26 rfl rfl rfl rfl rfl ?_
   refine o_assign rfl (o_nil ?_)
   refine k_gen [(2,U.box 0 0),(5,.int .i64 a),(8,U.box 2 0),(9,.int .i64 12),(10,U.box 3 0),(11,.int .i64 12),(12,U.box 4 0),(13,.int .i64 12),(14,U.box 5 0),(15,.int .i64 12)] ([SB.box t.cs,SB.box [.int .i64 n1,.int .i64 n2,.int .i64 n3],SB.box [.int .i64 0,.int .i64 0],SB.box [.int .i64 0,.int .i64 0],SB.box [.int .i64 0,.int .i64 0],SB.box [.int .i64 0,.int .i64 0]]) (.c4 rfl rfl rfl rfl (.c4 rfl rfl rfl rfl (.cons rfl (.cons rfl (.nil rfl))))) rfl fun fr=>?_
   refine k_seq (k_region (o_loadN rfl rfl rfl sh28 rfl (o_move rfl (o_move rfl (o_call rfl (p5) (.lrefl _) (o_move rfl (o_extract rfl rfl rfl (o_extract rfl rfl rfl (o_alloc rfl ze26 ?_)))))))))
   refine o_storeN rfl rfl sh26 rfl rfl rfl rfl rfl ?_
   refine o_assign rfl (o_nil ?_)
   refine k_gen [(8,U.box 2 0),(9,.int .i64 12),(10,U.box 3 0),(11,.int .i64 12),(12,U.box 4 0),(13,.int .i64 12),(14,U.box 5 0),(15,.int .i64 12),(16,U.box 6 0),(17,.int .i64 12)] ([SB.box t.cs,SB.box [.int .i64 n1,.int .i64 n2,.int .i64 n3],SB.box [.int .i64 0,.int .i64 0],SB.box [.int .i64 0,.int .i64 0],SB.box [.int .i64 0,.int .i64 0],SB.box [.int .i64 0,.int .i64 0],SB.box [.int .i64 0,.int .i64 0]]) (.c4 rfl rfl rfl rfl (.c4 rfl rfl rfl rfl (.cons rfl (.cons rfl (.nil rfl))))) rfl fun fr=>?_
   refine k_seq (k_seq (k_region (o_move rfl (o_move rfl (o_neq rfl rfl rfl (o_move rfl (o_gD rfl rfl rfl rfl rfl (o_move rfl (o_gD rfl rfl rfl rfl rfl ?_)))))))))
   refine o_move rfl (o_gD rfl rfl rfl rfl rfl (o_neq rfl rfl rfl (o_pickF rfl rfl rfl ?_)))
   refine o_move rfl ?_
   refine o_genA [(8,U.box 2 0),(9,.int .i64 12),(10,U.box 3 0),(12,U.box 4 0),(14,U.box 5 0),(15,.int .i64 12),(16,U.box 6 0),(17,.int .i64 12),(83,U.bool (decide ((12:Int)≠(12:Int))))] [] ([SB.box t.cs,SB.box [.int .i64 n1,.int .i64 n2,.int .i64 n3],SB.box [.int .i64 0,.int .i64 0],SB.box [.int .i64 0,.int .i64 0],SB.box [.int .i64 0,.int .i64 0],SB.box [.int .i64 0,.int .i64 0],SB.box [.int .i64 0,.int .i64 0]]) (.c4 rfl rfl rfl rfl (.c4 rfl rfl rfl rfl (.cons rfl (.nil rfl)))) rfl rfl fun fr=>?_
   refine o_gD rfl rfl rfl rfl rfl ?_
   refine o_genA [(8,U.box 2 0),(9,.int .i64 12),(10,U.box 3 0),(12,U.box 4 0),(14,U.box 5 0),(15,.int .i64 12),(16,U.box 6 0),(17,.int .i64 12),(83,U.bool (decide ((12:Int)≠(12:Int))))] [] ([SB.box t.cs,SB.box [.int .i64 n1,.int .i64 n2,.int .i64 n3],SB.box [.int .i64 0,.int .i64 0],SB.box [.int .i64 0,.int .i64 0],SB.box [.int .i64 0,.int .i64 0],SB.box [.int .i64 0,.int .i64 0],SB.box [.int .i64 0,.int .i64 0]]) (.c4 rfl rfl rfl rfl (.c4 rfl rfl rfl rfl (.cons rfl (.nil rfl)))) rfl rfl fun fr=>?_
   refine o_move rfl (o_gD rfl rfl rfl rfl rfl (o_move rfl (o_gD rfl rfl rfl rfl rfl (o_neq rfl rfl rfl (o_pickF rfl rfl rfl ?_)))))
   refine o_move rfl (o_gD rfl rfl rfl rfl rfl (o_move rfl (o_gD rfl rfl rfl rfl rfl (o_move rfl (o_gD rfl rfl rfl rfl rfl (o_neq rfl rfl rfl (o_pickF rfl rfl rfl ?_)))))))
   refine o_nil ?_
   refine k_gen [(8,U.box 2 0),(9,.int .i64 12),(10,U.box 3 0),(12,U.box 4 0),(14,U.box 5 0),(16,U.box 6 0),(92,U.bool (decide ((12:Int)≠(12:Int))))] ([SB.box t.cs,SB.box [.int .i64 n1,.int .i64 n2,.int .i64 n3],SB.box [.int .i64 0,.int .i64 0],SB.box [.int .i64 0,.int .i64 0],SB.box [.int .i64 0,.int .i64 0],SB.box [.int .i64 0,.int .i64 0],SB.box [.int .i64 0,.int .i64 0]]) (.c4 rfl rfl rfl rfl (.cons rfl (.cons rfl (.cons rfl (.nil rfl))))) rfl fun fr=>?_
   refine k_cF rfl rfl ?_
   refine k_skip (k_seq (k_seq (k_region (o_move rfl (o_neq rfl rfl rfl (o_nil (k_cT rfl rfl ?_)))))))
   refine k_seq (k_draw [.plain,.plain,.plain,.read true,.read false,.plain,.plain,.plain,.plain,.plain,.plain] (by kernel_rfl) (by kernel_rfl) (by kernel_rfl) ?_)
   refine d_plain (o_move rfl (o_nil rfl)) (d_plain (o_eql rfl rfl rfl (o_nil rfl)) ?_)
   refine d_plain (o_move rfl (o_nil rfl)) (d_gD rfl rfl rfl rfl rfl (d_load rfl (o_loadN rfl rfl rfl sh26 rfl (o_nil rfl)) ?_))
   refine d_gD rfl rfl rfl rfl rfl (d_callR rfl (q41) (flat_span _ _) (.lrefl _) ?_)
   refine d_gD rfl rfl rfl rfl rfl (d_plain (o_binK rfl rfl rfl rfl rfl (spn_same _ _) (o_nil rfl)) ?_)
   refine d_plain (o_pickT rfl rfl rfl (o_nil rfl)) ?_
   refine d_plain (o_move rfl (o_nil rfl)) (d_gD rfl rfl rfl rfl rfl (d_plain (o_call rfl (r21) (.lrefl _) (o_nil rfl)) ?_))
   refine d_plain (o_pickT rfl rfl rfl (o_nil rfl)) ?_
   refine d_plain (o_assign rfl (o_nil rfl)) ?_
   refine d_nil ?_
   refine k_ret ?_
   refine⟨.inr rfl,_,.cons _ _ _ _ (.tmp 4) .nil,?_⟩
   exact .refl _
  |true=>
   have ht:=(tunB_iff hs).1 htb
   have he:errT t=0:=by unfold errT;rw[htb];rfl
   rw[he,if_pos rfl]at p1 p2 p3 p4 p5
   obtain⟨e1,e2⟩:=ap_back hs ht ha hb
   obtain⟨e3,e4⟩:=ap_own hs ht ha
   obtain⟨e5,e6⟩:=ap_on hs ht ha hb hc
   rw[e1,e2]at p2
   rw[e3,e4]at p5
   have b1:=ap_b hs ht ha hb false
   have b2:=ap_b hs ht ha hb true
   have b3:=ap_b hs ht hb hc false
   have b4:=ap_b hs ht hb hc true
   generalize apI t (joinsI t) a b false=x1 at*
   generalize apI t (joinsI t) a b true=x2 at*
   generalize apI t (joinsI t) b c false=x3 at*
   generalize apI t (joinsI t) b c true=x4 at*
   generalize apI t (joinsI t) a c false=x5 at*
   generalize apI t (joinsI t) a c true=x6 at*
   have q40:=ret40 (orc:=orc) hi x5 x6 (x1+x3) (x2+x4)
   rw[decide_eq_true e5,decide_eq_true e6]at q40
   have q41:=ret41 (orc:=orc) hi 0 0
   have q41a:=ret41 (orc:=orc) hi (-x2) (-x1)
   have q41b:=ret41 (orc:=orc) hi (x1+x3) (x2+x4)
   refine k_seq (k_region (o_box rfl rfl (o_box rfl rfl (o_assign rfl (o_nil ?_)))))
   refine k_gen [(2,U.box 0 0),(3,U.box 1 0)] ([SB.box t.cs,SB.box [.int .i64 n1,.int .i64 n2,.int .i64 n3]]) (.cons rfl (.cons rfl (.nil rfl))) rfl fun fr=>?_
   refine k_seq (k_seq (k_region (o_loadN rfl rfl rfl sh28 rfl (o_call rfl (q35) (.lrefl _) (o_not rfl rfl (o_nil (k_cF rfl rfl ?_)))))))
   refine k_skip (k_seq (k_draw [.plain,.read true,.plain,.read true,.read true,.read false,.plain,.read true,.plain,.read true,.read true,.read false,.plain,.read true,.plain,.read true,.read true,.plain,.plain,.plain,.plain] (by kernel_rfl) (by kernel_rfl) (by kernel_rfl) ?_))
   refine d_plain (o_idxA rfl ty63 rfl rfl (by omega) (by omega) cl3 (o_nil rfl)) ?_
   refine d_load rfl (o_load1 rfl rfl rfl sh3 rfl (o_nil rfl)) (d_plain (o_faddr rfl rfl fld28_0 (o_nil rfl)) ?_)
   refine d_load rfl (o_load1 rfl rfl rfl sh22 rfl (o_nil rfl)) (d_load rfl (o_len rfl ty22 rfl (List.length_map _) (o_nil rfl)) ?_)
   refine d_callR rfl (q1) (.int _ _) (.lrefl _) ?_
   refine d_plain (o_idxA rfl ty63 rfl rfl (by omega) (by omega) cl3 (o_nil rfl)) ?_
   refine d_load rfl (o_load1 rfl rfl rfl sh3 rfl (o_nil rfl)) (d_plain (o_faddr rfl rfl fld28_0 (o_nil rfl)) ?_)
   refine d_genA [(2,U.box 0 0),(3,U.box 1 0),(27,.int .i64 a),(29,.int .i64 n2),(30,U.box 0 0)] [] ([SB.box t.cs,SB.box [.int .i64 n1,.int .i64 n2,.int .i64 n3]]) (.c4 rfl rfl rfl rfl (.cons rfl (.nil rfl))) rfl rfl fun fr=>?_
   refine d_load rfl (o_load1 rfl rfl rfl sh22 rfl (o_nil rfl)) (d_load rfl (o_len rfl ty22 rfl (List.length_map _) (o_nil rfl)) ?_)
   refine d_callR rfl (q2) (.int _ _) (.lrefl _) ?_
   refine d_plain (o_idxA rfl ty63 rfl rfl (by omega) (by omega) cl3 (o_nil rfl)) ?_
   refine d_load rfl (o_load1 rfl rfl rfl sh3 rfl (o_nil rfl)) (d_plain (o_faddr rfl rfl fld28_0 (o_nil rfl)) ?_)
   refine d_load rfl (o_load1 rfl rfl rfl sh22 rfl (o_nil rfl)) (d_load rfl (o_len rfl ty22 rfl (List.length_map _) (o_nil rfl)) ?_)
   refine d_plain (o_call rfl (q3) (.lrefl _) (o_nil rfl)) ?_
   refine d_genA [(2,U.box 0 0),(27,.int .i64 a),(33,.int .i64 b),(39,.int .i64 c)] [] ([SB.box t.cs,SB.box [.int .i64 n1,.int .i64 n2,.int .i64 n3]]) (.c4 rfl rfl rfl rfl (.nil rfl)) rfl rfl fun fr=>?_
   refine d_plain (o_assign rfl (o_nil rfl)) ?_
   refine d_plain (o_assign rfl (o_nil rfl)) ?_
   refine d_plain (o_assign rfl (o_nil rfl)) ?_
   refine d_nil ?_
   refine k_gen [(2,U.box 0 0),(5,.int .i64 a),(6,.int .i64 b),(7,.int .i64 c)] ([SB.box t.cs,SB.box [.int .i64 n1,.int .i64 n2,.int .i64 n3]]) (.c4 rfl rfl rfl rfl (.nil rfl)) rfl fun fr=>?_
   refine k_seq (k_region (o_loadN rfl rfl rfl sh28 rfl (o_move rfl (o_move rfl (o_call rfl (p1) (.lrefl _) (o_move rfl (o_extract rfl rfl rfl (o_extract rfl rfl rfl (o_alloc rfl ze26 ?_)))))))))
   refine o_storeN rfl rfl sh26 rfl rfl rfl rfl rfl ?_
   refine o_assign rfl (o_nil ?_)
   refine k_gen [(2,U.box 0 0),(5,.int .i64 a),(6,.int .i64 b),(7,.int .i64 c),(8,U.box 2 0),(9,.int .i64 0)] ([SB.box t.cs,SB.box [.int .i64 n1,.int .i64 n2,.int .i64 n3],SB.box [.int .i64 x1,.int .i64 x2]]) (.c4 rfl rfl rfl rfl (.cons rfl (.cons rfl (.nil rfl)))) rfl fun fr=>?_
   refine k_seq (k_region (o_loadN rfl rfl rfl sh28 rfl (o_move rfl (o_move rfl (o_call rfl (p2) (.lrefl _) (o_move rfl (o_extract rfl rfl rfl (o_extract rfl rfl rfl (o_alloc rfl ze26 ?_)))))))))
   refine o_storeN rfl rfl sh26 rfl rfl rfl rfl rfl ?_
   refine o_assign rfl (o_nil ?_)
   refine k_gen [(2,U.box 0 0),(5,.int .i64 a),(6,.int .i64 b),(7,.int .i64 c),(8,U.box 2 0),(9,.int .i64 0),(10,U.box 3 0),(11,.int .i64 0)] ([SB.box t.cs,SB.box [.int .i64 n1,.int .i64 n2,.int .i64 n3],SB.box [.int .i64 x1,.int .i64 x2],SB.box [.int .i64 (-x2),.int .i64 (-x1)]]) (.c4 rfl rfl rfl rfl (.c4 rfl rfl rfl rfl (.nil rfl))) rfl fun fr=>?_
   refine k_seq (k_region (o_loadN rfl rfl rfl sh28 rfl (o_move rfl (o_move rfl (o_call rfl (p3) (.lrefl _) (o_move rfl (o_extract rfl rfl rfl (o_extract rfl rfl rfl (o_alloc rfl ze26 ?_)))))))))
   refine o_storeN rfl rfl sh26 rfl rfl rfl rfl rfl ?_
   refine o_assign rfl (o_nil ?_)
   refine k_gen [(2,U.box 0 0),(5,.int .i64 a),(7,.int .i64 c),(8,U.box 2 0),(9,.int .i64 0),(10,U.box 3 0),(11,.int .i64 0),(12,U.box 4 0),(13,.int .i64 0)] ([SB.box t.cs,SB.box [.int .i64 n1,.int .i64 n2,.int .i64 n3],SB.box [.int .i64 x1,.int .i64 x2],SB.box [.int .i64 (-x2),.int .i64 (-x1)],SB.box [.int .i64 x3,.int .i64 x4]]) (.c4 rfl rfl rfl rfl (.c4 rfl rfl rfl rfl (.cons rfl (.nil rfl)))) rfl fun fr=>?_
   refine k_seq (k_region (o_loadN rfl rfl rfl sh28 rfl (o_move rfl (o_move rfl (o_call rfl (p4) (.lrefl _) (o_move rfl (o_extract rfl rfl rfl (o_extract rfl rfl rfl (o_alloc rfl ze26 ?_)))))))))
   refine o_storeN rfl rfl sh26 rfl rfl rfl rfl rfl ?_
   refine o_assign rfl (o_nil ?_)
   refine k_gen [(2,U.box 0 0),(5,.int .i64 a),(8,U.box 2 0),(9,.int .i64 0),(10,U.box 3 0),(11,.int .i64 0),(12,U.box 4 0),(13,.int .i64 0),(14,U.box 5 0),(15,.int .i64 0)] ([SB.box t.cs,SB.box [.int .i64 n1,.int .i64 n2,.int .i64 n3],SB.box [.int .i64 x1,.int .i64 x2],SB.box [.int .i64 (-x2),.int .i64 (-x1)],SB.box [.int .i64 x3,.int .i64 x4],SB.box [.int .i64 x5,.int .i64 x6]]) (.c4 rfl rfl rfl rfl (.c4 rfl rfl rfl rfl (.cons rfl (.cons rfl (.nil rfl))))) rfl fun fr=>?_
   refine k_seq (k_region (o_loadN rfl rfl rfl sh28 rfl (o_move rfl (o_move rfl (o_call rfl (p5) (.lrefl _) (o_move rfl (o_extract rfl rfl rfl (o_extract rfl rfl rfl (o_alloc rfl ze26 ?_)))))))))
   refine o_storeN rfl rfl sh26 rfl rfl rfl rfl rfl ?_
   refine o_assign rfl (o_nil ?_)
   refine k_gen [(8,U.box 2 0),(9,.int .i64 0),(10,U.box 3 0),(11,.int .i64 0),(12,U.box 4 0),(13,.int .i64 0),(14,U.box 5 0),(15,.int .i64 0),(16,U.box 6 0),(17,.int .i64 0)] ([SB.box t.cs,SB.box [.int .i64 n1,.int .i64 n2,.int .i64 n3],SB.box [.int .i64 x1,.int .i64 x2],SB.box [.int .i64 (-x2),.int .i64 (-x1)],SB.box [.int .i64 x3,.int .i64 x4],SB.box [.int .i64 x5,.int .i64 x6],SB.box [.int .i64 0,.int .i64 0]]) (.c4 rfl rfl rfl rfl (.c4 rfl rfl rfl rfl (.cons rfl (.cons rfl (.nil rfl))))) rfl fun fr=>?_
   refine k_seq (k_seq (k_region (o_move rfl (o_move rfl (o_neq rfl rfl rfl (o_move rfl (o_gD rfl rfl rfl rfl rfl (o_move rfl (o_gD rfl rfl rfl rfl rfl ?_)))))))))
   refine o_move rfl (o_gD rfl rfl rfl rfl rfl (o_neq rfl rfl rfl (o_pickF rfl rfl rfl ?_)))
   refine o_move rfl ?_
   refine o_genA [(8,U.box 2 0),(9,.int .i64 0),(10,U.box 3 0),(12,U.box 4 0),(14,U.box 5 0),(15,.int .i64 0),(16,U.box 6 0),(17,.int .i64 0),(83,U.bool (decide ((0:Int)≠(0:Int))))] [] ([SB.box t.cs,SB.box [.int .i64 n1,.int .i64 n2,.int .i64 n3],SB.box [.int .i64 x1,.int .i64 x2],SB.box [.int .i64 (-x2),.int .i64 (-x1)],SB.box [.int .i64 x3,.int .i64 x4],SB.box [.int .i64 x5,.int .i64 x6],SB.box [.int .i64 0,.int .i64 0]]) (.c4 rfl rfl rfl rfl (.c4 rfl rfl rfl rfl (.cons rfl (.nil rfl)))) rfl rfl fun fr=>?_
   refine o_gD rfl rfl rfl rfl rfl ?_
   refine o_genA [(8,U.box 2 0),(9,.int .i64 0),(10,U.box 3 0),(12,U.box 4 0),(14,U.box 5 0),(15,.int .i64 0),(16,U.box 6 0),(17,.int .i64 0),(83,U.bool (decide ((0:Int)≠(0:Int))))] [] ([SB.box t.cs,SB.box [.int .i64 n1,.int .i64 n2,.int .i64 n3],SB.box [.int .i64 x1,.int .i64 x2],SB.box [.int .i64 (-x2),.int .i64 (-x1)],SB.box [.int .i64 x3,.int .i64 x4],SB.box [.int .i64 x5,.int .i64 x6],SB.box [.int .i64 0,.int .i64 0]]) (.c4 rfl rfl rfl rfl (.c4 rfl rfl rfl rfl (.cons rfl (.nil rfl)))) rfl rfl fun fr=>?_
   refine o_move rfl (o_gD rfl rfl rfl rfl rfl (o_move rfl (o_gD rfl rfl rfl rfl rfl (o_neq rfl rfl rfl (o_pickF rfl rfl rfl ?_)))))
   refine o_move rfl (o_gD rfl rfl rfl rfl rfl (o_move rfl (o_gD rfl rfl rfl rfl rfl (o_move rfl (o_gD rfl rfl rfl rfl rfl (o_neq rfl rfl rfl (o_pickF rfl rfl rfl ?_)))))))
   refine o_nil ?_
   refine k_gen [(8,U.box 2 0),(9,.int .i64 0),(10,U.box 3 0),(12,U.box 4 0),(14,U.box 5 0),(16,U.box 6 0),(92,U.bool (decide ((0:Int)≠(0:Int))))] ([SB.box t.cs,SB.box [.int .i64 n1,.int .i64 n2,.int .i64 n3],SB.box [.int .i64 x1,.int .i64 x2],SB.box [.int .i64 (-x2),.int .i64 (-x1)],SB.box [.int .i64 x3,.int .i64 x4],SB.box [.int .i64 x5,.int .i64 x6],SB.box [.int .i64 0,.int .i64 0]]) (.c4 rfl rfl rfl rfl (.cons rfl (.cons rfl (.cons rfl (.nil rfl))))) rfl fun fr=>?_
   refine k_cF rfl rfl ?_
   refine k_skip (k_seq (k_seq (k_region (o_move rfl (o_neq rfl rfl rfl (o_nil (k_cF rfl rfl ?_)))))))
   refine k_skip (k_seq (k_draw [.read true,.plain,.read true,.plain,.plain,.read true,.plain,.read false,.plain,.plain,.read true,.plain,.read true,.plain,.read true,.plain,.plain,.read true,.plain,.read true,.plain,.read false,.plain,.plain,.plain,.read true,.read false,.plain,.plain,.plain,.plain,.plain,.plain] (by kernel_rfl) (by kernel_rfl) (by kernel_rfl) ?_))
   refine d_load rfl (o_loadN rfl rfl rfl sh26 rfl (o_nil rfl)) ?_
   refine d_plain (o_faddr rfl rfl fld26_1 (o_nil rfl)) ?_
   refine d_load rfl (o_load1 rfl rfl rfl sh3 rfl (o_nil rfl)) ?_
   refine d_plain (o_neg rfl rfl (by unfold I64;omega) (o_nil rfl)) ?_
   refine d_plain (o_faddr rfl rfl fld26_0 (o_nil rfl)) ?_
   refine d_load rfl (o_load1 rfl rfl rfl sh3 rfl (o_nil rfl)) ?_
   refine d_plain (o_neg rfl rfl (by unfold I64;omega) (o_nil rfl)) ?_
   refine d_callR rfl (q41a) (flat_span _ _) (.lrefl _) ?_
   refine d_plain (o_binK rfl rfl rfl rfl rfl (spn_same _ _) (o_nil rfl)) ?_
   refine d_genA [(8,U.box 2 0),(12,U.box 4 0),(14,U.box 5 0),(16,U.box 6 0),(113,.bool true)] [] ([SB.box t.cs,SB.box [.int .i64 n1,.int .i64 n2,.int .i64 n3],SB.box [.int .i64 x1,.int .i64 x2],SB.box [.int .i64 (-x2),.int .i64 (-x1)],SB.box [.int .i64 x3,.int .i64 x4],SB.box [.int .i64 x5,.int .i64 x6],SB.box [.int .i64 0,.int .i64 0]]) (.c4 rfl rfl rfl rfl (.cons rfl (.nil rfl))) rfl rfl fun fr=>?_
   refine d_plain (o_move rfl (o_nil rfl)) (d_gD rfl rfl rfl rfl rfl (d_load rfl (o_loadN rfl rfl rfl sh26 rfl (o_nil rfl)) ?_))
   refine d_gD rfl rfl rfl rfl rfl (d_plain (o_faddr rfl rfl fld26_0 (o_nil rfl)) ?_)
   refine d_gD rfl rfl rfl rfl rfl (d_load rfl (o_load1 rfl rfl rfl sh3 rfl (o_nil rfl)) (d_gD rfl rfl rfl rfl rfl (d_plain (o_faddr rfl rfl fld26_0 (o_nil rfl)) ?_)))
   refine d_gD rfl rfl rfl rfl rfl (d_load rfl (o_load1 rfl rfl rfl sh3 rfl (o_nil rfl)) (d_gD rfl rfl rfl rfl rfl ?_))
   refine d_plain (o_add rfl rfl rfl (by unfold I64;omega) (o_nil rfl)) ?_
   refine d_gD rfl rfl rfl rfl rfl (d_plain (o_faddr rfl rfl fld26_1 (o_nil rfl)) ?_)
   refine d_gD rfl rfl rfl rfl rfl (d_load rfl (o_load1 rfl rfl rfl sh3 rfl (o_nil rfl)) ?_)
   refine d_genA [(12,U.box 4 0),(16,U.box 6 0),(114,.bool true),(115,U.agg [.int .i64 x5,.int .i64 x6]),(120,.int .i64 (x1+x3)),(122,.int .i64 x2)] [] ([SB.box t.cs,SB.box [.int .i64 n1,.int .i64 n2,.int .i64 n3],SB.box [.int .i64 x1,.int .i64 x2],SB.box [.int .i64 (-x2),.int .i64 (-x1)],SB.box [.int .i64 x3,.int .i64 x4],SB.box [.int .i64 x5,.int .i64 x6],SB.box [.int .i64 0,.int .i64 0]]) (.c4 rfl rfl rfl rfl (.cons rfl (.cons rfl (.nil rfl)))) rfl rfl fun fr=>?_
   refine d_gD rfl rfl rfl rfl rfl ?_
   refine d_genA [(12,U.box 4 0),(16,U.box 6 0),(114,.bool true),(115,U.agg [.int .i64 x5,.int .i64 x6]),(120,.int .i64 (x1+x3)),(122,.int .i64 x2)] [] ([SB.box t.cs,SB.box [.int .i64 n1,.int .i64 n2,.int .i64 n3],SB.box [.int .i64 x1,.int .i64 x2],SB.box [.int .i64 (-x2),.int .i64 (-x1)],SB.box [.int .i64 x3,.int .i64 x4],SB.box [.int .i64 x5,.int .i64 x6],SB.box [.int .i64 0,.int .i64 0]]) (.c4 rfl rfl rfl rfl (.cons rfl (.cons rfl (.nil rfl)))) rfl rfl fun fr=>?_
   refine d_plain (o_faddr rfl rfl fld26_1 (o_nil rfl)) ?_
   refine d_gD rfl rfl rfl rfl rfl (d_load rfl (o_load1 rfl rfl rfl sh3 rfl (o_nil rfl)) (d_gD rfl rfl rfl rfl rfl ?_))
   refine d_plain (o_add rfl rfl rfl (by unfold I64;omega) (o_nil rfl)) ?_
   refine d_gD rfl rfl rfl rfl rfl (d_callR rfl (q41b) (flat_span _ _) (.lrefl _) ?_)
   refine d_gD rfl rfl rfl rfl rfl (d_plain (o_call rfl (q40) (.lrefl _) (o_nil rfl)) ?_)
   refine d_plain (o_pickT rfl rfl rfl (o_nil rfl)) ?_
   refine d_plain (o_move rfl (o_nil rfl)) (d_gD rfl rfl rfl rfl rfl (d_load rfl (o_loadN rfl rfl rfl sh26 rfl (o_nil rfl)) ?_))
   refine d_gD rfl rfl rfl rfl rfl (d_callR rfl (q41) (flat_span _ _) (.lrefl _) ?_)
   refine d_genA [(129,U.bool (Bool.true&&Bool.true)),(130,U.agg [.int .i64 0,.int .i64 0]),(131,spanU (0:Int) (0:Int))] [] ([SB.box t.cs,SB.box [.int .i64 n1,.int .i64 n2,.int .i64 n3],SB.box [.int .i64 x1,.int .i64 x2],SB.box [.int .i64 (-x2),.int .i64 (-x1)],SB.box [.int .i64 x3,.int .i64 x4],SB.box [.int .i64 x5,.int .i64 x6],SB.box [.int .i64 0,.int .i64 0]]) (.cons rfl (.cons rfl (.cons rfl (.nil rfl)))) rfl rfl fun fr=>?_
   refine d_gD rfl rfl rfl rfl rfl (d_plain (o_binK rfl rfl rfl rfl rfl (spn_same _ _) (o_nil rfl)) ?_)
   refine d_plain (o_pickT rfl rfl rfl (o_nil rfl)) ?_
   refine d_plain (o_move rfl (o_nil rfl)) (d_gD rfl rfl rfl rfl rfl (d_plain (o_call rfl (r21) (.lrefl _) (o_nil rfl)) ?_))
   refine d_plain (o_pickT rfl rfl rfl (o_nil rfl)) ?_
   refine d_plain (o_assign rfl (o_nil rfl)) ?_
   refine d_nil ?_
   refine k_ret ?_
   refine⟨.inr rfl,_,.cons _ _ _ _ (.tmp 4) .nil,?_⟩
   exact .refl _
end Go.Proofs.Ytinhcdijbcamaaa.tuneApart
namespace Go.Proofs.Ytinhcdijbcamaaa.tuneApart
open Vam
variable {is:FuncId→Bool}{orc:Known}
theorem ret12_all(hi:Off is)(r21:RetP Try.prog is orc 21 [] (.bool true)):∀us,ShpAs Try.prog [28,63] us→RetP Try.prog is orc 12 us (.bool true):=by
 intro us h
 cases h with
 |cons _ _ u us h1 h=>cases h with
 |cons _ _ v us h2 h=>
 cases h
 obtain⟨fs,hu⟩:=und28
 unfold ShpA at h1 h2
 rw[hu]at h1
 rw[u63]at h2
 obtain⟨t,rfl⟩:=arg_set h1
 obtain⟨a,b,c,rfl⟩:=arg_three h2
 exact ret12 hi t a b c r21
end Go.Proofs.Ytinhcdijbcamaaa.tuneApart
