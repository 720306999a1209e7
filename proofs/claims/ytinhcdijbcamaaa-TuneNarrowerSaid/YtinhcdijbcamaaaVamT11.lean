import Derived.Test.YtinhcdijbcamaaaVamT10
set_option linter.unusedVariables false
set_option linter.unusedSimpArgs false
set_option linter.constructorNameAsVariable false
namespace Go.Proofs.Ytinhcdijbcamaaa.tuneNarrower
open Vam
section
variable {is:FuncId→Bool}{orc:Known}
noncomputable def b35:Code:=(Try.f35.body).getD .skip
theorem body35:bodyOf Try.prog 35=some (159,b35,[.tmp 2]):=by kernel_rfl
theorem pure35:pureFn Try.prog 35=true:=by kernel_rfl
variable {t:Ts}{J:List Jn}{v x:Int}
theorem sits_t{n lo up:Int}(h:lo≤n∧n≤up):(decide (lo≤n)&&decide (n≤up))=true:=by simp;omega
set_option maxHeartbeats 16000000 in
theorem ret35(hi:Off is)(t:Ts):RetP Try.prog is orc 35 [t.u] (.bool (z7 t)):=by
 have q17:=ret17 (orc:=orc) hi t
 refine yQ body35 pure35 (hi 35 (by decide)) rfl rfl (y6 (wC t 4)) (.inl (.bool _ _)) ?_
 cases hv:z7 t with
 |false=>
  rw[hv,if_neg (by decide)]at q17
  refine kQ (yH rfl rfl (zC rfl (zB ?_)))
  refine zM [(1,.box 0 0)] ([SB.box t.cs]) (.cons rfl (.nil rfl)) rfl fun fr=>?_
  refine kQ (zG rfl rfl yA (zF rfl rfl rfl sh22 rfl (yZ rfl ty22 rfl (List.length_map _) ?_)))
  refine zC rfl (zB (kQ (zK rfl rfl rfl sh28 rfl (zX rfl (q17) (.lrefl _) (o_eql rfl rfl rfl (zA rfl (o_gS rfl rfl rfl rfl rfl (o_gS rfl rfl rfl rfl rfl ?_))))))))
  refine zQ rfl rfl rfl ?_
  refine zA rfl (o_gS rfl rfl rfl rfl rfl ?_)
  refine zc [(1,.box 0 0),(3,.int .i64 ↑t.heard.length),(20,.bool false),(21,.tup [])] [] ([SB.box t.cs]) (.c4 rfl rfl rfl rfl (.nil rfl)) rfl rfl fun fr=>?_
  refine o_gS rfl rfl rfl rfl rfl (o_gS rfl rfl rfl rfl rfl (o_gS rfl rfl rfl rfl rfl (zQ rfl rfl rfl ?_)))
  refine zA rfl (o_gS rfl rfl rfl rfl rfl (o_gS rfl rfl rfl rfl rfl (o_gS rfl rfl rfl rfl rfl (o_gS rfl rfl rfl rfl rfl ?_))))
  refine zc [(1,.box 0 0),(3,.int .i64 ↑t.heard.length),(26,.bool false),(30,.tup [])] [] ([SB.box t.cs]) (.c4 rfl rfl rfl rfl (.nil rfl)) rfl rfl fun fr=>?_
  refine zQ rfl rfl rfl ?_
  refine zA rfl (o_gS rfl rfl rfl rfl rfl (o_gS rfl rfl rfl rfl rfl (o_gS rfl rfl rfl rfl rfl (zQ rfl rfl rfl ?_))))
  refine zC rfl (zB ?_)
  refine zM [(1,.box 0 0),(3,.int .i64 ↑t.heard.length),(4,.bool false)] ([SB.box t.cs]) (.c2 rfl rfl (.cons rfl (.nil rfl))) rfl fun fr=>?_
  refine k_seq (kQ (zC rfl (zB (zP ?_))))
  refine k_loop (fun kk s2=>s2.st=[.box t.cs]∧Holds s2 [(1,.box 0 0),(3,.int .i64 t.heard.length),(4,.bool false),(5,.int .i64 0)]) (fun kk s2 hI=>?_) 0 _ ⟨rfl,.c4 rfl rfl rfl rfl (.nil rfl)⟩
  obtain⟨hst2,hs2⟩:=hI
  refine zM _ _ hs2 hst2 fun fr2=>?_
  refine k_seq (kQ (zA rfl (zA rfl (o_gS rfl rfl rfl rfl rfl (o_gS rfl rfl rfl rfl rfl (o_gS rfl rfl rfl rfl rfl (zQ rfl rfl rfl ?_)))))))
  refine zB (k_cF rfl rfl ?_)
  refine yp (k_seq (kQ (zC rfl (zB (zP ?_)))))
  refine k_loop (fun kk s2=>s2.st=[.box t.cs]∧Holds s2 [(1,.box 0 0),(3,.int .i64 t.heard.length),(4,.bool false),(6,.int .i64 0)]) (fun kk s2 hI=>?_) 0 _ ⟨rfl,.c4 rfl rfl rfl rfl (.nil rfl)⟩
  obtain⟨hst2,hs2⟩:=hI
  refine zM _ _ hs2 hst2 fun fr2=>?_
  refine k_seq (kQ (zA rfl (zA rfl (o_gS rfl rfl rfl rfl rfl (o_gS rfl rfl rfl rfl rfl (o_gS rfl rfl rfl rfl rfl (o_gS rfl rfl rfl rfl rfl (o_gS rfl rfl rfl rfl rfl ?_))))))))
  refine zQ rfl rfl rfl ?_
  refine zB (k_cF rfl rfl ?_)
  refine yp (k_seq (kQ (zC rfl (zB (zP ?_)))))
  refine k_loop (fun kk s2=>s2.st=[.box t.cs]∧Holds s2 [(1,.box 0 0),(3,.int .i64 t.heard.length),(4,.bool false),(9,.int .i64 0)]) (fun kk s2 hI=>?_) 0 _ ⟨rfl,.c4 rfl rfl rfl rfl (.nil rfl)⟩
  obtain⟨hst2,hs2⟩:=hI
  refine zM _ _ hs2 hst2 fun fr2=>?_
  refine k_seq (kQ (zA rfl (zA rfl (o_gS rfl rfl rfl rfl rfl (o_gS rfl rfl rfl rfl rfl (o_gS rfl rfl rfl rfl rfl (o_gS rfl rfl rfl rfl rfl (o_gS rfl rfl rfl rfl rfl ?_))))))))
  refine zQ rfl rfl rfl ?_
  refine zB (k_cF rfl rfl ?_)
  refine yp (kQ (zA rfl (zC rfl (zB (ze ?_)))))
  refine⟨.inr rfl,_,.cons _ _ _ _ (.tmp 2) .nil,?_⟩
  exact .refl _
 |true=>
  have hok:=(y8 t).1 hv
  rw[hv,if_pos rfl]at q17
  have n1:=hok.n1
  have n8:=hok.n8
  have hns:=hok.sh.ns
  have hnp:=hok.sh.np
  have q56:=ret56 (orc:=orc) hi t.heard.length 1 8
  rw[sits_t (by omega)]at q56
  have q45:=ret45 (orc:=orc) hi t.lo t.hi 0 60
  rw[wE.2 hok.bt]at q45
  refine kQ (yH rfl rfl (zC rfl (zB ?_)))
  refine zM [(1,.box 0 0)] ([SB.box t.cs]) (.cons rfl (.nil rfl)) rfl fun fr=>?_
  refine kQ (zG rfl rfl yA (zF rfl rfl rfl sh22 rfl (yZ rfl ty22 rfl (List.length_map _) ?_)))
  refine zC rfl (zB (kQ (zK rfl rfl rfl sh28 rfl (zX rfl (q17) (.lrefl _) (o_eql rfl rfl rfl (zA rfl (o_gD rfl rfl rfl rfl rfl (zA rfl ?_))))))))
  refine o_gD rfl rfl rfl rfl rfl (zX rfl (q56) (.lrefl _) (zT rfl rfl rfl ?_))
  refine zA rfl (o_gD rfl rfl rfl rfl rfl (zG rfl rfl wP ?_))
  refine zc [(1,.box 0 0),(3,.int .i64 ↑t.heard.length),(20,.bool true),(21,.box 0 1)] [] ([SB.box t.cs]) (.c4 rfl rfl rfl rfl (.nil rfl)) rfl rfl fun fr=>?_
  refine o_gD rfl rfl rfl rfl rfl ?_
  refine zc [(1,.box 0 0),(3,.int .i64 ↑t.heard.length),(20,.bool true),(21,.box 0 1)] [] ([SB.box t.cs]) (.c4 rfl rfl rfl rfl (.nil rfl)) rfl rfl fun fr=>?_
  refine zF rfl rfl rfl sh23 rfl (o_gD rfl rfl rfl rfl rfl (yZ rfl ty23 rfl (List.length_map _) ?_))
  refine o_gD rfl rfl rfl rfl rfl (o_leq rfl rfl rfl (zT rfl rfl rfl ?_))
  refine zA rfl (o_gD rfl rfl rfl rfl (decide_eq_true (by omega)) ?_)
  refine zG rfl rfl wK (o_gD rfl rfl rfl rfl (decide_eq_true (by omega)) ?_)
  refine zF rfl rfl rfl sh24 rfl (o_gD rfl rfl rfl rfl (decide_eq_true (by omega)) ?_)
  refine yZ rfl ty24 rfl (List.length_map _) ?_
  refine o_gD rfl rfl rfl rfl (decide_eq_true (by omega)) ?_
  refine o_leq rfl rfl rfl ?_
  refine zc [(1,.box 0 0),(3,.int .i64 ↑t.heard.length),(26,.bool (decide (↑(List.length t.scales)≤(2:Int)))),(30,.bool (decide (↑(List.length t.pairs)≤(4:Int))))] [] ([SB.box t.cs]) (.c4 rfl rfl rfl rfl (.nil rfl)) rfl rfl fun fr=>?_
  refine zT rfl rfl (decide_eq_true (by omega)) ?_
  refine zA rfl (o_gD rfl rfl rfl rfl (decide_eq_true (by omega)) ?_)
  refine zG rfl rfl w9 (o_gD rfl rfl rfl rfl (decide_eq_true (by omega)) ?_)
  refine zK rfl rfl rfl sh26 rfl (o_gD rfl rfl rfl rfl (decide_eq_true (by omega)) ?_)
  refine zX rfl (q45) (.lrefl _) (zT rfl rfl (decide_eq_true (by omega)) ?_)
  refine zC rfl (zB ?_)
  refine zM [(1,.box 0 0),(3,.int .i64 ↑t.heard.length),(4,.bool true)] ([SB.box t.cs]) (.c2 rfl rfl (.cons rfl (.nil rfl))) rfl fun fr=>?_
  refine k_seq (kQ (zC rfl (zB (zP ?_))))
  refine k_loop (fun kk s2=>∃i:Nat,kk+i=t.heard.length∧s2.st=[.box t.cs]∧Holds s2 [(1,.box 0 0),(3,.int .i64 t.heard.length),(4,.bool true),(5,.int .i64 i)]) (fun kk s2 hI=>?_) t.heard.length _ ⟨0,rfl,rfl,.c4 rfl rfl rfl rfl (.nil rfl)⟩
  obtain⟨i,hki,hst2,hs2⟩:=hI
  refine zM _ _ hs2 hst2 fun fr2=>?_
  by_cases hin:i<t.heard.length
  ·obtain⟨q,hq⟩:∃q,t.heard[i]? =some q:=⟨t.heard[i],List.getElem?_eq_getElem hin⟩
   have hb:=hok.hd q (List.mem_of_getElem? hq)
   have q45:=ret45 (orc:=orc) hi q.a q.b 1 4000
   rw[wE.2 (by omega)]at q45
   have hd:decide (q.b - q.a≤40)=true:=decide_eq_true (by omega)
   refine k_seq (kQ (zA rfl (zA rfl (o_gD rfl rfl rfl rfl rfl (zA rfl (o_gD rfl rfl rfl rfl rfl (zA rfl (o_gD rfl rfl rfl rfl rfl ?_))))))))
   refine zt rfl rfl rfl (zT rfl rfl rfl ?_)
   refine zB (k_cT rfl (decide_eq_true (by omega)) (zW (k_seq (zP (k_draw [.plain,.plain,.plain,.plain,.plain,.plain,.plain,.plain,.read true,.plain,.plain,.plain,.read true,.plain,.read true,.plain,.plain,.plain,.read true,.plain,.plain,.plain,.plain] (by kernel_rfl) (by kernel_rfl) (by kernel_rfl) ?_)))))
   refine zE (zG rfl rfl yA (zB rfl)) ?_
   refine zE (zF rfl rfl rfl sh22 rfl (zB rfl)) ?_
   refine zE (zA rfl (zB rfl)) (zE (yr (u:=(q).u) rfl ty22 rfl rfl (Int.natCast_nonneg _) (by simp[hq]) cl26 (zB rfl)) ?_)
   refine zE (yC rfl rfl sh26 rfl (zB rfl)) ?_
   refine zE (zX rfl (q45) (.lrefl _) (zB rfl)) ?_
   refine zE (zA rfl (zB rfl)) (d_gD rfl rfl rfl rfl rfl (zE (zG rfl rfl yA (zB rfl)) ?_))
   refine d_gD rfl rfl rfl rfl rfl (zi rfl (zF rfl rfl rfl sh22 rfl (zB rfl)) (d_gD rfl rfl rfl rfl rfl (zE (zA rfl (zB rfl)) (d_gD rfl rfl rfl rfl rfl (zE (yr (u:=(q).u) rfl ty22 rfl rfl (Int.natCast_nonneg _) (by simp[hq]) cl26 (zB rfl)) ?_)))))
   refine d_gD rfl rfl rfl rfl rfl (zE (o_faddrR rfl rfl yh (zB rfl)) ?_)
   refine d_gD rfl rfl rfl rfl rfl (zi rfl (yk rfl rfl sh3 rfl (zB rfl)) ?_)
   refine d_gD rfl rfl rfl rfl rfl (zE (zG rfl rfl yA (zB rfl)) ?_)
   refine d_gD rfl rfl rfl rfl rfl (zi rfl (zF rfl rfl rfl sh22 rfl (zB rfl)) (d_gD rfl rfl rfl rfl rfl (zE (zA rfl (zB rfl)) (d_gD rfl rfl rfl rfl rfl (zE (yr (u:=(q).u) rfl ty22 rfl rfl (Int.natCast_nonneg _) (by simp[hq]) cl26 (zB rfl)) ?_)))))
   refine d_gD rfl rfl rfl rfl rfl (zE (o_faddrR rfl rfl yJ (zB rfl)) ?_)
   refine d_gD rfl rfl rfl rfl rfl (zi rfl (yk rfl rfl sh3 rfl (zB rfl)) ?_)
   refine d_gD rfl rfl rfl rfl rfl ?_
   refine zE (o_sub rfl rfl rfl (by unfold I64;omega) (zB rfl)) ?_
   refine d_gD rfl rfl rfl rfl rfl (zE (o_leq rfl rfl rfl (zB rfl)) ?_)
   refine zE (zT rfl rfl rfl (zB rfl)) ?_
   refine zE (zC rfl (zB rfl)) ?_
   refine d_nil ?_
   refine k_region (zA rfl ?_)
   refine o_add rfl rfl rfl (by unfold I64;omega) (zC rfl (zB ?_))
   exact⟨kk - 1,by omega,i+1,by omega,rfl,.c2 rfl rfl (.cons (congrArg U.bool hd) (.cons rfl (.nil rfl)))⟩
  ·have hiN:i=t.heard.length:=by omega
   subst hiN
   refine k_seq (kQ (zA rfl (zA rfl (o_gD rfl rfl rfl rfl rfl (zA rfl (o_gD rfl rfl rfl rfl rfl (zA rfl (o_gD rfl rfl rfl rfl rfl ?_))))))))
   refine zt rfl rfl rfl (zT rfl rfl rfl ?_)
   refine zB (k_cF rfl (decide_eq_false (by omega)) (yp (k_seq (kQ (zC rfl (zB (zP ?_)))))))
   refine k_loop (fun kk s2=>∃i:Nat,kk+i=t.scales.length∧(∃e,s2.st=[.box t.cs]++e)∧Holds s2 [(1,.box 0 0),(3,.int .i64 t.heard.length),(4,.bool true),(6,.int .i64 i)]) (fun kk s2 hI=>?_) t.scales.length _ ⟨0,rfl,⟨[],rfl⟩,.c4 rfl rfl rfl rfl (.nil rfl)⟩
   obtain⟨i,hki,⟨e,hst2⟩,hs2⟩:=hI
   generalize hY:[SB.box t.cs]++e=Y at hst2
   have hY0:Y[0]? =some (SB.box t.cs):=by rw[←hY];rfl
   refine zM _ _ hs2 hst2 fun fr2=>?_
   by_cases hin:i<t.scales.length
   ·obtain⟨q,hq⟩:∃q,t.scales[i]? =some q:=⟨t.scales[i],List.getElem?_eq_getElem hin⟩
    have hqm:=List.mem_of_getElem? hq
    have hqs:=hok.sh.sc q hqm
    have hqk:=hok.sk q hqm
    have hqt:=hok.ss q hqm
    have hkl:q.keys.length≤t.heard.length:=wZ _ _ hqk.1 hqk.2
    have hd:decide ((q.steps.length:Int)+1=(q.keys.length:Int))=true:=decide_eq_true (by omega)
    refine k_seq (kQ (zA rfl (zA rfl (o_gD rfl rfl rfl rfl rfl (zA rfl (o_gD rfl rfl rfl rfl rfl (zG rfl rfl wP (o_gD rfl rfl rfl rfl rfl ?_))))))))
    refine zF rfl rfl hY0 sh23 rfl ?_
    refine o_gD rfl rfl rfl rfl rfl (yZ rfl ty23 rfl (List.length_map _) ?_)
    refine o_gD rfl rfl rfl rfl rfl (zt rfl rfl rfl (zT rfl rfl rfl ?_))
    refine zB (k_cT rfl (decide_eq_true (by omega)) (zW (k_seq (zP (kQ (zG rfl rfl wP (zF rfl rfl hY0 sh23 rfl ?_)))))))
    refine zA rfl (yr (u:=(q).u) rfl ty23 rfl rfl (Int.natCast_nonneg _) (by simp[hq]) cl61 ?_)
    refine yC rfl rfl sh61 rfl ?_
    refine zV rfl ze61 ?_
    refine zN rfl (za _ _) sh61 rfl rfl rfl rfl rfl ?_
    refine zB (kQ (zG rfl rfl yz (zF rfl rfl (at_set _ _ _) sh29 rfl ?_)))
    refine yZ rfl ty29 rfl (List.length_map _) ?_
    refine zA rfl (o_leq rfl rfl rfl (zA rfl (o_gD rfl rfl rfl rfl (decide_eq_true (by omega)) ?_)))
    refine zG rfl rfl wW (o_gD rfl rfl rfl rfl (decide_eq_true (by omega)) ?_)
    refine zF rfl rfl (at_set _ _ _) sh22 rfl ?_
    refine o_gD rfl rfl rfl rfl (decide_eq_true (by omega)) ?_
    refine yZ rfl ty22 rfl (List.length_map _) ?_
    refine o_gD rfl rfl rfl rfl (decide_eq_true (by omega)) ?_
    refine o_add rfl rfl rfl (by unfold I64;omega) (o_gD rfl rfl rfl rfl (decide_eq_true (by omega)) ?_)
    refine zG rfl rfl yz (o_gD rfl rfl rfl rfl (decide_eq_true (by omega)) ?_)
    refine zF rfl rfl (at_set _ _ _) sh29 rfl ?_
    refine o_gD rfl rfl rfl rfl (decide_eq_true (by omega)) ?_
    refine yZ rfl ty29 rfl (List.length_map _) ?_
    refine o_gD rfl rfl rfl rfl (decide_eq_true (by omega)) ?_
    refine o_eql rfl rfl rfl (zT rfl rfl (decide_eq_true (by omega)) ?_)
    refine zC rfl (zB (kQ (zC rfl (zB (zP ?_)))))
    refine k_loop (fun k3 s3=>∃m:Nat,k3+m=q.keys.length∧s3.st=Y++[.box [.lst .ro 1 (yc q.keys),.lst .ro 2 (zS q.steps)]]∧Holds s3 [(1,.box 0 0),(3,.int .i64 t.heard.length),(4,.bool true),(6,.int .i64 i),(7,.box Y.length 0),(8,.int .i64 m)]) (fun k3 s3 hI3=>?_) q.keys.length _ ⟨0,rfl,(by show(Y++[_]).set Y.length _=_;rw[yN];rfl),.c2 rfl rfl (.cons (congrArg U.bool hd) (.c2 rfl rfl (.cons rfl (.nil rfl))))⟩
    obtain⟨m,hkm,hst3,hs3⟩:=hI3
    have hZ0:(Y++[SB.box [.lst .ro 1 (yc q.keys),.lst .ro 2 (zS q.steps)]])[Y.length]? =some (SB.box [.lst .ro 1 (yc q.keys),.lst .ro 2 (zS q.steps)]):=za _ _
    generalize hZ:Y++[SB.box [.lst .ro 1 (yc q.keys),.lst .ro 2 (zS q.steps)]]=Z at hst3 hZ0
    refine zM _ _ hs3 hst3 fun fr3=>?_
    by_cases hm:m<q.keys.length
    ·obtain⟨a,ha⟩:∃a,q.keys[m]? =some a:=⟨q.keys[m],List.getElem?_eq_getElem hm⟩
     have hak:=hqk.2 a (List.mem_of_getElem? ha)
     have q56:=ret56 (orc:=orc) hi a 0 ((t.heard.length:Int) - 1)
     rw[sits_t (by omega)]at q56
     cases m with
     |zero=>
      refine k_seq (kQ (zA rfl (zA rfl (o_gD rfl rfl rfl rfl rfl (zA rfl (o_gD rfl rfl rfl rfl rfl (zG rfl rfl yz (o_gD rfl rfl rfl rfl rfl ?_))))))))
      refine zF rfl rfl hZ0 sh29 rfl ?_
      refine o_gD rfl rfl rfl rfl rfl (yZ rfl ty29 rfl (List.length_map _) ?_)
      refine o_gD rfl rfl rfl rfl rfl (zt rfl rfl rfl (zT rfl rfl rfl ?_))
      refine zB (k_cT rfl (decide_eq_true (by omega)) (zW (k_seq (zP (k_region (zG rfl rfl yz (zF rfl rfl hZ0 sh29 rfl ?_)))))))
      refine zA rfl (yr (u:=.int .i64 (a)) rfl ty29 rfl rfl (Int.natCast_nonneg _) (by simp[ha]) cl3 ?_)
      refine yk rfl rfl sh3 rfl ?_
      refine zA rfl ?_
      refine o_sub rfl rfl rfl (by unfold I64;omega) (zX rfl (q56) (.lrefl _) (zA rfl (o_gD rfl rfl rfl rfl rfl (zA rfl (o_gD rfl rfl rfl rfl rfl (o_eql rfl rfl rfl (o_gD rfl rfl rfl rfl rfl (zA rfl ?_))))))))
      refine o_gS rfl rfl rfl rfl rfl (o_gS rfl rfl rfl rfl rfl (o_gS rfl rfl rfl rfl rfl (o_gS rfl rfl rfl rfl rfl (o_gS rfl rfl rfl rfl rfl (o_gS rfl rfl rfl rfl rfl (o_gS rfl rfl rfl rfl rfl (o_gD rfl rfl rfl rfl rfl (zT rfl rfl rfl ?_))))))))
      refine zT rfl rfl rfl ?_
      refine zC rfl (zB (k_region (zA rfl ?_)))
      refine o_add rfl rfl rfl (by unfold I64;omega) (zC rfl (zB ?_))
      exact⟨k3 - 1,by omega,1,by omega,rfl,.c4 rfl rfl rfl rfl (.c2 rfl rfl (.nil rfl))⟩
     |succ m=>
      obtain⟨w,hw⟩:∃w,q.steps[m]? =some w:=⟨q.steps[m]'(by omega),List.getElem?_eq_getElem (by omega)⟩
      have hwb:=hqt w (List.mem_of_getElem? hw)
      have q45:=ret45 (orc:=orc) hi w.a w.b 1 5000
      rw[wE.2 (by omega)]at q45
      refine k_seq (kQ (zA rfl (zA rfl (o_gD rfl rfl rfl rfl rfl (zA rfl (o_gD rfl rfl rfl rfl rfl (zG rfl rfl yz (o_gD rfl rfl rfl rfl rfl ?_))))))))
      refine zF rfl rfl hZ0 sh29 rfl ?_
      refine o_gD rfl rfl rfl rfl rfl (yZ rfl ty29 rfl (List.length_map _) ?_)
      refine o_gD rfl rfl rfl rfl rfl (zt rfl rfl rfl (zT rfl rfl rfl ?_))
      refine zB (k_cT rfl (decide_eq_true (by omega)) (zW (k_seq (zP (k_region (zG rfl rfl yz (zF rfl rfl hZ0 sh29 rfl ?_)))))))
      refine zA rfl (yr (u:=.int .i64 (a)) rfl ty29 rfl rfl (Int.natCast_nonneg _) (by simp[ha]) cl3 ?_)
      refine yk rfl rfl sh3 rfl ?_
      refine zA rfl ?_
      refine o_sub rfl rfl rfl (by unfold I64;omega) (zX rfl (q56) (.lrefl _) (zA rfl (o_gD rfl rfl rfl rfl rfl (zA rfl (o_gD rfl rfl rfl rfl rfl (o_eql rfl rfl rfl (o_gD rfl rfl rfl rfl rfl (zA rfl ?_))))))))
      refine o_gD rfl rfl rfl rfl (decide_eq_false (by omega)) (zG rfl rfl wW (o_gD rfl rfl rfl rfl (decide_eq_false (by omega)) (zF rfl rfl hZ0 sh22 rfl ?_)))
      refine o_gD rfl rfl rfl rfl (decide_eq_false (by omega)) (zA rfl (o_gD rfl rfl rfl rfl (decide_eq_false (by omega)) ?_))
      refine o_sub rfl rfl rfl (by unfold I64;omega) (o_gD rfl rfl rfl rfl (decide_eq_false (by omega)) (yr (u:=(w).u) rfl ty22 rfl rfl (by omega) (by simp[hw]) cl26 ?_))
      refine o_gD rfl rfl rfl rfl (decide_eq_false (by omega)) (yC rfl rfl sh26 rfl ?_)
      refine o_gD rfl rfl rfl rfl (decide_eq_false (by omega)) (zX rfl (q45) (.lrefl _) (o_gD rfl rfl rfl rfl rfl (zQ rfl rfl rfl ?_)))
      refine zT rfl rfl rfl ?_
      refine zC rfl (zB (k_region (zA rfl ?_)))
      refine o_add rfl rfl rfl (by unfold I64;omega) (zC rfl (zB ?_))
      exact⟨k3 - 1,by omega,m+2,by omega,rfl,.c4 rfl rfl rfl rfl (.c2 rfl rfl (.nil rfl))⟩
    ·have hmN:m=q.keys.length:=by omega
     subst hmN
     refine k_seq (kQ (zA rfl (zA rfl (o_gD rfl rfl rfl rfl rfl (zA rfl (o_gD rfl rfl rfl rfl rfl (zG rfl rfl yz (o_gD rfl rfl rfl rfl rfl ?_))))))))
     refine zF rfl rfl hZ0 sh29 rfl ?_
     refine o_gD rfl rfl rfl rfl rfl (yZ rfl ty29 rfl (List.length_map _) ?_)
     refine o_gD rfl rfl rfl rfl rfl (zt rfl rfl rfl (zT rfl rfl rfl ?_))
     refine zB (k_cF rfl (decide_eq_false (by omega)) (yp (k_region (zA rfl ?_))))
     refine o_add rfl rfl rfl (by unfold I64;omega) (zC rfl (zB ?_))
     exact⟨kk - 1,by omega,i+1,by omega,⟨_,by show Z=_;rw[←hZ,←hY,List.append_assoc]⟩,.c4 rfl rfl rfl rfl (.nil rfl)⟩
   ·have hiN:i=t.scales.length:=by omega
    subst hiN
    refine k_seq (kQ (zA rfl (zA rfl (o_gD rfl rfl rfl rfl rfl (zA rfl (o_gD rfl rfl rfl rfl rfl (zG rfl rfl wP (o_gD rfl rfl rfl rfl rfl ?_))))))))
    refine zF rfl rfl hY0 sh23 rfl ?_
    refine o_gD rfl rfl rfl rfl rfl (yZ rfl ty23 rfl (List.length_map _) ?_)
    refine o_gD rfl rfl rfl rfl rfl (zt rfl rfl rfl (zT rfl rfl rfl ?_))
    refine zB (k_cF rfl (decide_eq_false (by omega)) (yp (k_seq (kQ (zC rfl (zB (zP ?_)))))))
    refine k_loop (fun k3 s3=>∃m:Nat,k3+m=t.pairs.length∧s3.st=Y∧Holds s3 [(1,.box 0 0),(3,.int .i64 t.heard.length),(4,.bool true),(9,.int .i64 m)]) (fun k3 s3 hI3=>?_) t.pairs.length _ ⟨0,rfl,rfl,.c4 rfl rfl rfl rfl (.nil rfl)⟩
    obtain⟨m,hkm,hst3,hs3⟩:=hI3
    refine zM _ _ hs3 hst3 fun fr3=>?_
    by_cases hm:m<t.pairs.length
    ·obtain⟨q,hq⟩:∃q,t.pairs[m]? =some q:=⟨t.pairs[m],List.getElem?_eq_getElem hm⟩
     have hqp:=hok.pr q (List.mem_of_getElem? hq)
     have q56:=ret56 (orc:=orc) hi q.a 0 ((t.heard.length:Int) - 1)
     rw[sits_t (by omega)]at q56
     have q56b:=ret56 (orc:=orc) hi q.b 0 ((t.heard.length:Int) - 1)
     rw[sits_t (by omega)]at q56b
     refine k_seq (kQ (zA rfl (zA rfl (o_gD rfl rfl rfl rfl rfl (zA rfl (o_gD rfl rfl rfl rfl rfl (zG rfl rfl wK (o_gD rfl rfl rfl rfl rfl ?_))))))))
     refine zF rfl rfl hY0 sh24 rfl ?_
     refine o_gD rfl rfl rfl rfl rfl (yZ rfl ty24 rfl (List.length_map _) ?_)
     refine o_gD rfl rfl rfl rfl rfl (zt rfl rfl rfl (zT rfl rfl rfl ?_))
     refine zB (k_cT rfl (decide_eq_true (by omega)) (zW (k_seq (zP (k_region (zG rfl rfl wK (zF rfl rfl hY0 sh24 rfl ?_)))))))
     refine zA rfl (yr (u:=(q).u) rfl ty24 rfl rfl (Int.natCast_nonneg _) (by simp[hq]) cl48 ?_)
     refine o_idxE rfl ty48 rfl rfl (by omega) (by omega) cl3 ?_
     refine yk rfl rfl sh3 rfl ?_
     refine zA rfl ?_
     refine o_sub rfl rfl rfl (by unfold I64;omega) (zX rfl (q56) (.lrefl _) (zA rfl (o_gD rfl rfl rfl rfl rfl (zG rfl rfl wK (o_gD rfl rfl rfl rfl rfl (zF rfl rfl hY0 sh24 rfl ?_))))))
     refine o_gD rfl rfl rfl rfl rfl (zA rfl (o_gD rfl rfl rfl rfl rfl (yr (u:=(q).u) rfl ty24 rfl rfl (Int.natCast_nonneg _) (by simp[hq]) cl48 ?_)))
     refine o_gD rfl rfl rfl rfl rfl (o_idxE rfl ty48 rfl rfl (by omega) (by omega) cl3 ?_)
     refine o_gD rfl rfl rfl rfl rfl (yk rfl rfl sh3 rfl ?_)
     refine o_gD rfl rfl rfl rfl rfl (zA rfl (o_gD rfl rfl rfl rfl rfl ?_))
     refine o_sub rfl rfl rfl (by unfold I64;omega) (o_gD rfl rfl rfl rfl rfl (zX rfl (q56b) (.lrefl _) (zT rfl rfl rfl ?_)))
     refine zC rfl (zB (k_region (zA rfl ?_)))
     refine o_add rfl rfl rfl (by unfold I64;omega) (zC rfl (zB ?_))
     exact⟨k3 - 1,by omega,m+1,by omega,rfl,.c4 rfl rfl rfl rfl (.nil rfl)⟩
    ·have hmN:m=t.pairs.length:=by omega
     subst hmN
     refine k_seq (kQ (zA rfl (zA rfl (o_gD rfl rfl rfl rfl rfl (zA rfl (o_gD rfl rfl rfl rfl rfl (zG rfl rfl wK (o_gD rfl rfl rfl rfl rfl ?_))))))))
     refine zF rfl rfl hY0 sh24 rfl ?_
     refine o_gD rfl rfl rfl rfl rfl (yZ rfl ty24 rfl (List.length_map _) ?_)
     refine o_gD rfl rfl rfl rfl rfl (zt rfl rfl rfl (zT rfl rfl rfl ?_))
     refine zB (k_cF rfl (decide_eq_false (by omega)) (yp (kQ (zA rfl (zC rfl (zB (ze ?_)))))))
     refine⟨.inr rfl,_,.cons _ _ _ _ (.tmp 2) .nil,?_⟩
     exact .refl _
end
section
variable {is:FuncId→Bool}{orc:Known}
theorem we{P:Program}{t:TypeId}(n:Nat)(h:(match P.underlying t with|some (.struct fs)=>Nat.beq fs.size n|_=>false)=true):∃fs,P.underlying t=some (.struct fs):=by
 cases hu:P.underlying t with
 |none=>rw[hu]at h;cases h
 |some ty=>rw[hu]at h;cases ty<;>first|exact⟨_,rfl⟩|cases h
theorem u3:Try.prog.underlying 3=some (.int .i64):=by kernel_rfl
theorem u22:Try.prog.underlying 22=some (.slice 26):=by kernel_rfl
theorem u23:Try.prog.underlying 23=some (.slice 61):=by kernel_rfl
theorem u24:Try.prog.underlying 24=some (.slice 48):=by kernel_rfl
theorem u29:Try.prog.underlying 29=some (.slice 3):=by kernel_rfl
theorem u48:Try.prog.underlying 48=some (.array 2 3):=by kernel_rfl
theorem u38:Try.prog.underlying 38=some (.array 4 3):=by kernel_rfl
def fts(P:Program)(t:TypeId):List TypeId:=match P.underlying t with|some (.struct fs)=>fs.toList.map (·.type)|_=>[]
theorem f28:fts Try.prog 28=[22,23,24,26]:=by kernel_rfl
theorem f26:fts Try.prog 26=[3,3]:=by kernel_rfl
theorem f61:fts Try.prog 61=[29,22]:=by kernel_rfl
theorem clq26:Program.cellsOf Try.prog 26=2:=by kernel_rfl
theorem clq61:Program.cellsOf Try.prog 61=2:=by kernel_rfl
theorem clq48:Program.cellsOf Try.prog 48=2:=by kernel_rfl
theorem clq3:Program.cellsOf Try.prog 3=1:=by kernel_rfl
theorem uI{cs:List U}(h:Shp Try.prog 3 cs):∃n:Int,cs=[.int .i64 n]:=by
 cases h with
 |int _ k n hu _=>rw[u3]at hu;cases hu;exact⟨n,rfl⟩
 |bool _ _ hu=>rw[u3]at hu;cases hu
 |str _ _ hu=>rw[u3]at hu;cases hu
 |slice _ _ _ hu=>rw[u3]at hu;cases hu
 |struct _ _ _ hu=>rw[u3]at hu;cases hu
 |array _ _ _ _ hu=>rw[u3]at hu;cases hu
theorem wh{P:Program}{t:TypeId}{cs:List U}(h:Shp P t cs)(hne:fts P t≠[]):∃fs:List Field,fs.map (·.type)=fts P t∧ShpF P fs cs:=by
 have no:∀{ty},P.underlying t=some ty→(∀fs,ty≠.struct fs)→False:=fun hu hn=>hne (by unfold fts;rw[hu];split<;>simp_all)
 cases h with
 |struct _ fs _ hu hf=>exact⟨fs.toList,by unfold fts;rw[hu],hf⟩
 |int _ k n hu _=>exact(no hu (by intro fs h;cases h)).elim
 |bool _ _ hu=>exact(no hu (by intro fs h;cases h)).elim
 |str _ _ hu=>exact(no hu (by intro fs h;cases h)).elim
 |slice _ _ _ hu=>exact(no hu (by intro fs h;cases h)).elim
 |array _ _ _ _ hu=>exact(no hu (by intro fs h;cases h)).elim
theorem y5{P:Program}{fs:List Field}{t:TypeId}{ts:List TypeId}{cs:List U}(h:ShpF P fs cs)(e:fs.map (·.type)=t::ts):∃gs xs ys,cs=xs++ys∧Shp P t xs∧ShpF P gs ys∧gs.map (·.type)=ts:=by
 cases h with
 |nil=>cases e
 |cons f fs xs ys h1 h2=>
  simp only[List.map_cons,List.cons.injEq]at e
  obtain⟨rfl,rfl⟩:=e
  exact⟨fs,xs,ys,rfl,h1,h2,rfl⟩
theorem uJ{P:Program}{fs:List Field}{cs:List U}(h:ShpF P fs cs)(e:fs.map (·.type)=[]):cs=[]:=by
 cases h with
 |nil=>rfl
 |cons=>cases e
theorem shp_span{cs:List U}(h:Shp Try.prog 26 cs):∃a b:Int,cs=[.int .i64 a,.int .i64 b]:=by
 obtain⟨fs,e,hf⟩:=wh h (by rw[f26];simp)
 rw[f26]at e
 obtain⟨g1,a1,b1,rfl,k1,r1,e1⟩:=y5 hf e
 obtain⟨g2,a2,b2,rfl,k2,r2,e2⟩:=y5 r1 e1
 obtain rfl:=uJ r2 e2
 obtain⟨x,rfl⟩:=uI k1
 obtain⟨y,rfl⟩:=uI k2
 exact⟨x,y,rfl⟩
theorem wY{P:Program}{e:TypeId}{α:Type}{f:α→List U}{css:List (List U)}(h:ShpL P e css)(k:∀cs,Shp P e cs→∃q,cs=f q):∃l:List α,css=l.map f:=by
 induction css with
 |nil=>exact⟨[],rfl⟩
 |cons cs css ih=>
  cases h with
  |cons _ _ _ h1 h2=>
   obtain⟨q,rfl⟩:=k _ h1
   obtain⟨l,rfl⟩:=ih h2
   exact⟨q::l,rfl⟩
theorem wX{P:Program}{t e:TypeId}{cs:List U}(hu:P.underlying t=some (.slice e))(h:Shp P t cs):∃css,ShpL P e css∧cs=[.lst .ro (P.cellsOf e) (css.map (eU P e))]:=by
 cases h with
 |slice _ e' css hu' hl=>rw[hu]at hu';cases hu';exact⟨css,hl,rfl⟩
 |int _ k n hu' _=>rw[hu]at hu';cases hu'
 |bool _ _ hu'=>rw[hu]at hu';cases hu'
 |str _ _ hu'=>rw[hu]at hu';cases hu'
 |struct _ _ _ hu'=>rw[hu]at hu';cases hu'
 |array _ _ _ _ hu'=>rw[hu]at hu';cases hu'
theorem eu61:∀cs,eU Try.prog 61 cs=.agg cs:=by
 obtain⟨fs,h⟩:=we (P:=Try.prog) (t:=61) 2 (by kernel_rfl)
 intro cs;unfold eU;rw[h]
theorem eu26:∀cs,eU Try.prog 26 cs=.agg cs:=by
 obtain⟨fs,h⟩:=we (P:=Try.prog) (t:=26) 2 (by kernel_rfl)
 intro cs;unfold eU;rw[h]
theorem eu48:∀cs,eU Try.prog 48 cs=.agg cs:=by
 intro cs;unfold eU;rw[u48]
theorem eu3:∀cs,eU Try.prog 3 cs=cs.headD .junk:=by
 intro cs;unfold eU;rw[u3]
theorem map_ints{F:List U→U}(he:∀cs,F cs=cs.headD .junk)(l:List Int):(l.map fun n:Int=>[U.int .i64 n]).map F=yc l:=by
 rw[List.map_map]
 exact List.map_congr_left fun q _=>he _
theorem shp_ints{cs:List U}(h:Shp Try.prog 29 cs):∃l:List Int,cs=[.lst .ro 1 (yc l)]:=by
 obtain⟨css,hl,rfl⟩:=wX u29 h
 obtain⟨l,rfl⟩:=wY (f:=fun n:Int=>[.int .i64 n]) hl fun cs hcs=>uI hcs
 refine⟨l,?_⟩
 rw[clq3,map_ints eu3]
theorem map_twos{F:List U→U}(he:∀cs,F cs=.agg cs)(l:List Two):(l.map fun q:Two=>[U.int .i64 q.a,.int .i64 q.b]).map F=zS l:=by
 rw[List.map_map]
 exact List.map_congr_left fun q _=>he _
theorem uS{cs:List U}(h:Shp Try.prog 22 cs):∃l:List Two,cs=[.lst .ro 2 (zS l)]:=by
 obtain⟨css,hl,rfl⟩:=wX u22 h
 obtain⟨l,rfl⟩:=wY (f:=fun q:Two=>[.int .i64 q.a,.int .i64 q.b]) hl fun cs hcs=>by obtain⟨x,y,rfl⟩:=shp_span hcs;exact⟨⟨x,y⟩,rfl⟩
 refine⟨l,?_⟩
 rw[clq26,map_twos eu26]
theorem shp_arr{t n:Nat}(hu:Try.prog.underlying t=some (.array n 3)){cs:List U}(h:Shp Try.prog t cs):∃l:List Int,l.length=n∧cs=(l.map fun n:Int=>[U.int .i64 n]).flatten:=by
 cases h with
 |array _ n e css hu' hl hn=>
  rw[hu]at hu';cases hu'
  obtain⟨l,rfl⟩:=wY (f:=fun n:Int=>[U.int .i64 n]) hl fun cs hcs=>uI hcs
  rw[List.length_map]at hn
  exact⟨l,hn,rfl⟩
 |int _ k n hu' _=>rw[hu]at hu';cases hu'
 |bool _ _ hu'=>rw[hu]at hu';cases hu'
 |str _ _ hu'=>rw[hu]at hu';cases hu'
 |slice _ _ _ hu'=>rw[hu]at hu';cases hu'
 |struct _ _ _ hu'=>rw[hu]at hu';cases hu'
theorem shp_two{cs:List U}(h:Shp Try.prog 48 cs):∃a b:Int,cs=[.int .i64 a,.int .i64 b]:=by
 obtain⟨l,hl,rfl⟩:=shp_arr u48 h
 match l,hl with
 |[a,b],_=>exact⟨a,b,rfl⟩
theorem shp_four{cs:List U}(h:Shp Try.prog 38 cs):∃a b c d:Int,cs=[.int .i64 a,.int .i64 b,.int .i64 c,.int .i64 d]:=by
 obtain⟨l,hl,rfl⟩:=shp_arr u38 h
 match l,hl with
 |[a,b,c,d],_=>exact⟨a,b,c,d,rfl⟩
theorem shp_pairs{cs:List U}(h:Shp Try.prog 24 cs):∃l:List Two,cs=[.lst .ro 2 (zS l)]:=by
 obtain⟨css,hl,rfl⟩:=wX u24 h
 obtain⟨l,rfl⟩:=wY (f:=fun q:Two=>[.int .i64 q.a,.int .i64 q.b]) hl fun cs hcs=>by obtain⟨x,y,rfl⟩:=shp_two hcs;exact⟨⟨x,y⟩,rfl⟩
 refine⟨l,?_⟩
 rw[clq48,map_twos eu48]
theorem shp_scale{cs:List U}(h:Shp Try.prog 61 cs):∃q:Scl,cs=[.lst .ro 1 (yc q.keys),.lst .ro 2 (zS q.steps)]:=by
 obtain⟨fs,e,hf⟩:=wh h (by rw[f61];simp)
 rw[f61]at e
 obtain⟨g1,a1,b1,rfl,k1,r1,e1⟩:=y5 hf e
 obtain⟨g2,a2,b2,rfl,k2,r2,e2⟩:=y5 r1 e1
 obtain rfl:=uJ r2 e2
 obtain⟨x,rfl⟩:=shp_ints k1
 obtain⟨y,rfl⟩:=uS k2
 exact⟨⟨x,y⟩,rfl⟩
theorem map_scls{F:List U→U}(he:∀cs,F cs=.agg cs)(l:List Scl):(l.map fun q:Scl=>[U.lst .ro 1 (yc q.keys),.lst .ro 2 (zS q.steps)]).map F=yg l:=by
 rw[List.map_map]
 exact List.map_congr_left fun q _=>he _
theorem shp_scales{cs:List U}(h:Shp Try.prog 23 cs):∃l:List Scl,cs=[.lst .ro 2 (yg l)]:=by
 obtain⟨css,hl,rfl⟩:=wX u23 h
 obtain⟨l,rfl⟩:=wY (f:=fun q:Scl=>[.lst .ro 1 (yc q.keys),.lst .ro 2 (zS q.steps)]) hl fun cs hcs=>shp_scale hcs
 refine⟨l,?_⟩
 rw[clq61,map_scls eu61]
theorem shp_set{cs:List U}(h:Shp Try.prog 28 cs):∃t:Ts,cs=t.cs:=by
 obtain⟨fs,e,hf⟩:=wh h (by rw[f28];simp)
 rw[f28]at e
 obtain⟨g1,a1,b1,rfl,k1,r1,e1⟩:=y5 hf e
 obtain⟨g2,a2,b2,rfl,k2,r2,e2⟩:=y5 r1 e1
 obtain⟨g3,a3,b3,rfl,k3,r3,e3⟩:=y5 r2 e2
 obtain⟨g4,a4,b4,rfl,k4,r4,e4⟩:=y5 r3 e3
 obtain rfl:=uJ r4 e4
 obtain⟨heard,rfl⟩:=uS k1
 obtain⟨scales,rfl⟩:=shp_scales k2
 obtain⟨pairs,rfl⟩:=shp_pairs k3
 obtain⟨lo,hi,rfl⟩:=shp_span k4
 exact⟨⟨heard,scales,pairs,lo,hi⟩,rfl⟩
theorem und28:∃fs,Try.prog.underlying 28=some (.struct fs):=we (P:=Try.prog) (t:=28) 4 (by kernel_rfl)
theorem arg_set{u:U}(h:∃cs,u=.agg cs∧Shp Try.prog 28 cs):∃t:Ts,u=t.u:=by
 obtain⟨cs,rfl,h⟩:=h
 obtain⟨t,rfl⟩:=shp_set h
 exact⟨t,rfl⟩
theorem arg_four{u:U}(h:∃cs,u=.agg cs∧Shp Try.prog 38 cs):∃a b c d:Int,u=.agg [.int .i64 a,.int .i64 b,.int .i64 c,.int .i64 d]:=by
 obtain⟨cs,rfl,h⟩:=h
 obtain⟨a,b,c,d,rfl⟩:=shp_four h
 exact⟨a,b,c,d,rfl⟩
end
end Go.Proofs.Ytinhcdijbcamaaa.tuneNarrower
