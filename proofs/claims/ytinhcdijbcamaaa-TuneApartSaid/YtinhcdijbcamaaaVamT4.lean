import Derived.Test.YtinhcdijbcamaaaVamT3
set_option linter.unusedVariables false
set_option linter.unusedSimpArgs false
set_option linter.constructorNameAsVariable false
namespace Go.Proofs.Ytinhcdijbcamaaa.tuneApart
open Vam
variable {is:FuncId→Bool}{orc:Known}
structure Scl where
 keys:List Int
 steps:List Two
abbrev Scl.u(q:Scl):U:=.agg [.lst .ro 1 (intsU q.keys),.lst .ro 2 (twosU q.steps)]
abbrev sclsU(l:List Scl):List U:=l.map Scl.u
theorem dat_scls(l:List Scl)(kd:Kd)(hk:kd≠.own)(k:Nat):Dat (k+3) (.lst kd 2 (sclsU l)):=by
 refine .lst _ _ _ _ hk fun c hc=>?_
 obtain⟨e,h1,h2⟩:=List.mem_flatMap.1 hc
 obtain⟨q,_,rfl⟩:=List.mem_map.1 h1
 simp only[cellsU,List.mem_cons,List.not_mem_nil,or_false]at h2
 rcases h2 with rfl|rfl
 ·exact dat_ints _ .ro (fun h=>by cases h) 1 _
 ·exact dat_twos _ .ro (fun h=>by cases h) _
structure Ts where
 heard:List Two
 scales:List Scl
 pairs:List Two
 lo:Int
 hi:Int
abbrev Ts.cs(t:Ts):List U:=[.lst .ro 2 (twosU t.heard),.lst .ro 2 (sclsU t.scales),.lst .ro 2 (twosU t.pairs),.int .i64 t.lo,.int .i64 t.hi]
abbrev Ts.u(t:Ts):U:=.agg t.cs
theorem dat_ts(t:Ts)(k:Nat):Dat (k+4) t.u:=.agg _ _ fun c hc=>by
 simp only[List.mem_cons,List.not_mem_nil,or_false]at hc
 rcases hc with rfl|rfl|rfl|rfl|rfl
 ·exact dat_twos _ .ro (fun h=>by cases h) _
 ·exact dat_scls _ .ro (fun h=>by cases h) _
 ·exact dat_twos _ .ro (fun h=>by cases h) _
 ·exact .int _ _ _
 ·exact .int _ _ _
def stepB(q:Two):Bool:=goodB q.a q.b 200 5000
noncomputable def scaleB(n:Int)(q:Scl):Bool:=decide ((q.steps.length:Int)=wrapF .i64 ((q.keys.length:Int) - 1))&&difB q.keys n&&q.steps.all stepB
set_option maxHeartbeats 8000000 in
theorem ret83(hi:Off is)(t:Ts)(hn8:t.heard.length≤8):RetP Try.prog is orc 83 [t.u] (.bool (decide (t.scales.length≤2)&&t.scales.all (scaleB t.heard.length))):=by
 refine ret_of body83 pure83 (hi 83 (by decide)) rfl rfl (dat_l1 (dat_ts t 4)) (.inl (.bool _ _)) ?_
 by_cases h1:t.scales.length > 2
 ·rw[show decide (t.scales.length≤2)=false from decide_eq_false (by omega),Bool.false_and]
  refine k_seq (k_region (o_box rfl rfl (o_assign rfl (o_nil ?_))))
  refine k_gen [(1,U.box 0 0)] ([SB.box t.cs]) (.cons rfl (.nil rfl)) rfl fun fr=>?_
  refine k_seq (k_seq (k_region (o_faddr rfl rfl fld28_1 (o_load1 rfl rfl rfl sh23 rfl (o_len rfl ty23 rfl (List.length_map _) ?_)))))
  refine o_gtr rfl rfl rfl (o_nil (k_cT rfl (decide_eq_true (by omega)) (k_seq (k_region (o_assign rfl (o_nil (k_ret ?_)))))))
  refine⟨.inr rfl,_,.cons _ _ _ _ (.tmp 2) .nil,?_⟩
  exact .refl _
 ·rw[show decide (t.scales.length≤2)=true from decide_eq_true (by omega),Bool.true_and]
  refine k_seq (k_region (o_box rfl rfl (o_assign rfl (o_nil ?_))))
  refine k_gen [(1,U.box 0 0)] ([SB.box t.cs]) (.cons rfl (.nil rfl)) rfl fun fr=>?_
  refine k_seq (k_seq (k_region (o_faddr rfl rfl fld28_1 (o_load1 rfl rfl rfl sh23 rfl (o_len rfl ty23 rfl (List.length_map _) ?_)))))
  refine o_gtr rfl rfl rfl (o_nil (k_cF rfl (decide_eq_false (by omega)) (k_skip (k_seq (k_seq (k_region (o_faddr rfl rfl fld28_1 (o_load1 rfl rfl rfl sh23 rfl (o_len rfl ty23 rfl (List.length_map _) ?_)))))))))
  refine o_move rfl (o_nil (k_block ?_))
  refine k_loop (fun k st=>∃(n:Nat) (e:List SB),k+n=t.scales.length∧(t.scales.take n).all (scaleB t.heard.length)=true∧st.st=[.box t.cs]++e∧Holds st [(1,.box 0 0),(12,.lst .ro 2 (sclsU t.scales)),(13,.int .i64 t.scales.length),(14,.int .i64 n)]) (fun k st hI=>?_) t.scales.length _ ?_
  ·obtain⟨n,e,hk,hall,hst,hs⟩:=hI
   generalize hY:[SB.box t.cs]++e=Y at hst
   have hY0:Y[0]? =some (SB.box t.cs):=by rw[←hY];rfl
   refine k_gen _ _ hs hst fun fr=>?_
   by_cases hn:n<t.scales.length
   ·obtain⟨q,hq⟩:∃q,t.scales[n]? =some q:=⟨t.scales[n],List.getElem?_eq_getElem hn⟩
    have q101:=ret101 (orc:=orc) hi q.keys t.heard.length (by omega)
    by_cases h2:(q.steps.length:Int)=wrapF .i64 ((q.keys.length:Int) - 1)
    ·cases h3:difB q.keys t.heard.length with
     |false=>
      have e0:t.scales.all (scaleB t.heard.length)=false:=all_not hq (by unfold scaleB;rw[h3];simp)
      rw[e0]
      rw[h3]at q101
      refine k_seq (k_region (o_lss rfl rfl rfl (o_nil (k_seq (k_cT rfl (decide_eq_true (by omega)) (k_skip (k_seq (k_block (k_seq (k_region ?_))))))))))
      refine o_idx (u:=(q).u) rfl ty23 rfl rfl (Int.natCast_nonneg _) (by simp[hq]) cl61 ?_
      refine o_loadRN rfl rfl sh61 rfl ?_
      refine o_alloc rfl ze61 ?_
      refine o_storeN rfl (at_new _ _) sh61 rfl rfl rfl rfl rfl ?_
      refine o_nil ?_
      refine k_gen [(1,U.box 0 0),(4,U.box (List.length Y) 0),(12,.lst .ro 2 (sclsU t.scales)),(13,.int .i64 ↑(List.length t.scales)),(14,.int .i64 ↑n)] (Y++[SB.box [.lst .ro 1 (intsU q.keys),.lst .ro 2 (twosU q.steps)]]) (.c4 rfl rfl rfl rfl (.cons rfl (.nil rfl))) (set_end _ _ _) fun fr=>?_
      refine k_seq (k_seq (k_region (o_faddr rfl rfl fld61_1 (o_load1 rfl rfl (at_new _ _) sh22 rfl ?_))))
      refine o_len rfl ty22 rfl (List.length_map _) ?_
      refine o_faddr rfl rfl fld61_0 (o_load1 rfl rfl (at_new _ _) sh29 rfl ?_)
      refine o_len rfl ty29 rfl (List.length_map _) ?_
      refine o_int (v:=.int .i64 (wrapF .i64 ((q.keys.length:Int) - 1))) rfl rfl rfl rfl rfl ?_
      refine o_neq rfl rfl rfl (o_move rfl ?_)
      refine o_genA [(1,U.box 0 0),(4,U.box (List.length Y) 0),(12,.lst .ro 2 (sclsU t.scales)),(13,.int .i64 ↑(List.length t.scales)),(14,.int .i64 ↑n),(26,U.bool (decide (↑(List.length q.steps)≠wrapF .i64 (↑(List.length q.keys) - (1:Int)))))] [] (Y++[SB.box [.lst .ro 1 (intsU q.keys),.lst .ro 2 (twosU q.steps)]]) (.c4 rfl rfl rfl rfl (.cons rfl (.cons rfl (.nil rfl)))) rfl rfl fun fr=>?_
      refine o_gD rfl rfl rfl rfl (decide_eq_false (by omega)) ?_
      refine o_genA [(1,U.box 0 0),(4,U.box (List.length Y) 0),(12,.lst .ro 2 (sclsU t.scales)),(13,.int .i64 ↑(List.length t.scales)),(14,.int .i64 ↑n),(26,U.bool (decide (↑(List.length q.steps)≠wrapF .i64 (↑(List.length q.keys) - (1:Int)))))] [] (Y++[SB.box [.lst .ro 1 (intsU q.keys),.lst .ro 2 (twosU q.steps)]]) (.c4 rfl rfl rfl rfl (.cons rfl (.cons rfl (.nil rfl)))) rfl rfl fun fr=>?_
      refine o_faddr rfl rfl fld61_0 (o_gD rfl rfl rfl rfl (decide_eq_false (by omega)) (o_load1 rfl rfl (at_new _ _) sh29 rfl ?_))
      refine o_gD rfl rfl rfl rfl (decide_eq_false (by omega)) (o_faddr rfl rfl fld28_0 (o_gD rfl rfl rfl rfl (decide_eq_false (by omega)) (o_load1 rfl rfl (at_pre hY0) sh22 rfl ?_)))
      refine o_gD rfl rfl rfl rfl (decide_eq_false (by omega)) (o_len rfl ty22 rfl (List.length_map _) ?_)
      refine o_gD rfl rfl rfl rfl (decide_eq_false (by omega)) (o_call rfl (q101) (.lrefl _) (o_gD rfl rfl rfl rfl (decide_eq_false (by omega)) (o_not rfl rfl (o_pickF rfl rfl (decide_eq_false (by omega)) ?_))))
      refine o_nil ?_
      refine k_gen [(1,U.box 0 0),(4,U.box (List.length Y) 0),(12,.lst .ro 2 (sclsU t.scales)),(13,.int .i64 ↑(List.length t.scales)),(14,.int .i64 ↑n),(27,U.box (List.length Y) 0),(28,.lst .ro 1 (intsU q.keys)),(29,U.box 0 0),(30,.lst .ro 2 (twosU t.heard)),(31,.int .i64 ↑t.heard.length),(32,.bool false),(33,U.bool !Bool.false),(34,U.bool !Bool.false)] (Y++[SB.box [.lst .ro 1 (intsU q.keys),.lst .ro 2 (twosU q.steps)]]) (.c4 rfl rfl rfl rfl (.c4 rfl rfl rfl rfl (.c4 rfl rfl rfl rfl (.cons rfl (.nil rfl))))) rfl fun fr=>?_
      refine k_cT rfl rfl ?_
      refine k_seq (k_region (o_assign rfl (o_nil (k_ret ?_))))
      refine⟨.inr rfl,_,.cons _ _ _ _ (.tmp 2) .nil,?_⟩
      exact .refl _
     |true=>
      have h4:=of_decide_eq_true h3
      have hl8:q.keys.length≤8:=nodup_le 8 _ h4.1 fun x hx=>by have:=h4.2 x hx;omega
      rw[h3]at q101
      have hw:wrapF .i64 ((q.keys.length:Int) - 1)=(q.keys.length:Int) - 1:=wrap64 (by unfold I64;omega)
      have hl7:q.steps.length≤7:=by omega
      refine k_seq (k_region (o_lss rfl rfl rfl (o_nil (k_seq (k_cT rfl (decide_eq_true (by omega)) (k_skip (k_seq (k_block (k_seq (k_region ?_))))))))))
      refine o_idx (u:=(q).u) rfl ty23 rfl rfl (Int.natCast_nonneg _) (by simp[hq]) cl61 ?_
      refine o_loadRN rfl rfl sh61 rfl ?_
      refine o_alloc rfl ze61 ?_
      refine o_storeN rfl (at_new _ _) sh61 rfl rfl rfl rfl rfl ?_
      refine o_nil ?_
      refine k_gen [(1,U.box 0 0),(4,U.box (List.length Y) 0),(12,.lst .ro 2 (sclsU t.scales)),(13,.int .i64 ↑(List.length t.scales)),(14,.int .i64 ↑n)] (Y++[SB.box [.lst .ro 1 (intsU q.keys),.lst .ro 2 (twosU q.steps)]]) (.c4 rfl rfl rfl rfl (.cons rfl (.nil rfl))) (set_end _ _ _) fun fr=>?_
      refine k_seq (k_seq (k_region (o_faddr rfl rfl fld61_1 (o_load1 rfl rfl (at_new _ _) sh22 rfl ?_))))
      refine o_len rfl ty22 rfl (List.length_map _) ?_
      refine o_faddr rfl rfl fld61_0 (o_load1 rfl rfl (at_new _ _) sh29 rfl ?_)
      refine o_len rfl ty29 rfl (List.length_map _) ?_
      refine o_int (v:=.int .i64 (wrapF .i64 ((q.keys.length:Int) - 1))) rfl rfl rfl rfl rfl ?_
      refine o_neq rfl rfl rfl (o_move rfl ?_)
      refine o_genA [(1,U.box 0 0),(4,U.box (List.length Y) 0),(12,.lst .ro 2 (sclsU t.scales)),(13,.int .i64 ↑(List.length t.scales)),(14,.int .i64 ↑n),(26,U.bool (decide (↑(List.length q.steps)≠wrapF .i64 (↑(List.length q.keys) - (1:Int)))))] [] (Y++[SB.box [.lst .ro 1 (intsU q.keys),.lst .ro 2 (twosU q.steps)]]) (.c4 rfl rfl rfl rfl (.cons rfl (.cons rfl (.nil rfl)))) rfl rfl fun fr=>?_
      refine o_gD rfl rfl rfl rfl (decide_eq_false (by omega)) ?_
      refine o_genA [(1,U.box 0 0),(4,U.box (List.length Y) 0),(12,.lst .ro 2 (sclsU t.scales)),(13,.int .i64 ↑(List.length t.scales)),(14,.int .i64 ↑n),(26,U.bool (decide (↑(List.length q.steps)≠wrapF .i64 (↑(List.length q.keys) - (1:Int)))))] [] (Y++[SB.box [.lst .ro 1 (intsU q.keys),.lst .ro 2 (twosU q.steps)]]) (.c4 rfl rfl rfl rfl (.cons rfl (.cons rfl (.nil rfl)))) rfl rfl fun fr=>?_
      refine o_faddr rfl rfl fld61_0 (o_gD rfl rfl rfl rfl (decide_eq_false (by omega)) (o_load1 rfl rfl (at_new _ _) sh29 rfl ?_))
      refine o_gD rfl rfl rfl rfl (decide_eq_false (by omega)) (o_faddr rfl rfl fld28_0 (o_gD rfl rfl rfl rfl (decide_eq_false (by omega)) (o_load1 rfl rfl (at_pre hY0) sh22 rfl ?_)))
      refine o_gD rfl rfl rfl rfl (decide_eq_false (by omega)) (o_len rfl ty22 rfl (List.length_map _) ?_)
      refine o_gD rfl rfl rfl rfl (decide_eq_false (by omega)) (o_call rfl (q101) (.lrefl _) (o_gD rfl rfl rfl rfl (decide_eq_false (by omega)) (o_not rfl rfl (o_pickF rfl rfl (decide_eq_false (by omega)) ?_))))
      refine o_nil ?_
      refine k_gen [(1,U.box 0 0),(4,U.box (List.length Y) 0),(12,.lst .ro 2 (sclsU t.scales)),(13,.int .i64 ↑(List.length t.scales)),(14,.int .i64 ↑n),(27,U.box (List.length Y) 0),(28,.lst .ro 1 (intsU q.keys)),(29,U.box 0 0),(30,.lst .ro 2 (twosU t.heard)),(31,.int .i64 ↑t.heard.length),(32,.bool true),(33,U.bool !Bool.true),(34,U.bool !Bool.true)] (Y++[SB.box [.lst .ro 1 (intsU q.keys),.lst .ro 2 (twosU q.steps)]]) (.c4 rfl rfl rfl rfl (.c4 rfl rfl rfl rfl (.c4 rfl rfl rfl rfl (.cons rfl (.nil rfl))))) rfl fun fr=>?_
      refine k_cF rfl rfl ?_
      refine k_skip (k_seq (k_region (o_faddr rfl rfl fld61_1 (o_load1 rfl rfl (at_new _ _) sh22 rfl ?_))))
      refine o_len rfl ty22 rfl (List.length_map _) ?_
      refine o_move rfl (o_nil (k_block ?_))
      refine k_loop (fun k2 st=>∃(m:Nat) (e2:List SB),k2+m=q.steps.length∧(q.steps.take m).all stepB=true∧st.st=Y++e2∧Holds st [(1,.box 0 0),(12,.lst .ro 2 (sclsU t.scales)),(13,.int .i64 t.scales.length),(14,.int .i64 n),(36,.lst .ro 2 (twosU q.steps)),(37,.int .i64 q.steps.length),(38,.int .i64 m)]) (fun k2 st2 hI2=>?_) q.steps.length _ ?_
      ·obtain⟨m,e2,hk2,hall2,hst2,hs2⟩:=hI2
       generalize hZ:Y++e2=Z at hst2
       refine k_gen _ _ hs2 hst2 fun fr=>?_
       by_cases hm:m<q.steps.length
       ·obtain⟨x,hx⟩:∃x,q.steps[m]? =some x:=⟨q.steps[m],List.getElem?_eq_getElem hm⟩
        have q85:=ret85 (orc:=orc) hi x.a x.b 200 5000
        cases hg:goodB x.a x.b 200 5000 with
        |false=>
         have e1:q.steps.all stepB=false:=all_not hx hg
         have e0:t.scales.all (scaleB t.heard.length)=false:=all_not hq (by unfold scaleB;rw[e1];simp)
         rw[e0]
         rw[hg]at q85
         refine k_seq (k_region (o_lss rfl rfl rfl (o_nil (k_seq (k_cT rfl (decide_eq_true (by omega)) (k_skip (k_seq (k_block (k_seq (k_region ?_))))))))))
         refine o_idx (u:=(x).u) rfl ty22 rfl rfl (Int.natCast_nonneg _) (by simp[hx]) cl26 ?_
         refine o_loadRN rfl rfl sh26 rfl ?_
         refine o_alloc rfl ze26 ?_
         refine o_storeN rfl (at_new _ _) sh26 rfl rfl rfl rfl rfl ?_
         refine o_nil ?_
         refine k_gen [(1,U.box 0 0),(6,U.box (List.length Z) 0),(12,.lst .ro 2 (sclsU t.scales)),(13,.int .i64 ↑(List.length t.scales)),(14,.int .i64 ↑n),(36,.lst .ro 2 (twosU q.steps)),(37,.int .i64 ↑(List.length q.steps)),(38,.int .i64 ↑m)] (Z++[SB.box [.int .i64 x.a,.int .i64 x.b]]) (.c4 rfl rfl rfl rfl (.c4 rfl rfl rfl rfl (.nil rfl))) (set_end _ _ _) fun fr=>?_
         refine k_seq (k_region (o_loadN rfl rfl (at_new _ _) sh26 rfl ?_))
         refine o_call rfl (q85) (.lrefl _) (o_not rfl rfl (o_nil (k_cT rfl rfl ?_)))
         refine k_seq (k_region (o_assign rfl (o_nil (k_ret ?_))))
         refine⟨.inr rfl,_,.cons _ _ _ _ (.tmp 2) .nil,?_⟩
         exact .refl _
        |true=>
         rw[hg]at q85
         refine k_seq (k_region (o_lss rfl rfl rfl (o_nil (k_seq (k_cT rfl (decide_eq_true (by omega)) (k_skip (k_seq (k_block (k_seq (k_region ?_))))))))))
         refine o_idx (u:=(x).u) rfl ty22 rfl rfl (Int.natCast_nonneg _) (by simp[hx]) cl26 ?_
         refine o_loadRN rfl rfl sh26 rfl ?_
         refine o_alloc rfl ze26 ?_
         refine o_storeN rfl (at_new _ _) sh26 rfl rfl rfl rfl rfl ?_
         refine o_nil ?_
         refine k_gen [(1,U.box 0 0),(6,U.box (List.length Z) 0),(12,.lst .ro 2 (sclsU t.scales)),(13,.int .i64 ↑(List.length t.scales)),(14,.int .i64 ↑n),(36,.lst .ro 2 (twosU q.steps)),(37,.int .i64 ↑(List.length q.steps)),(38,.int .i64 ↑m)] (Z++[SB.box [.int .i64 x.a,.int .i64 x.b]]) (.c4 rfl rfl rfl rfl (.c4 rfl rfl rfl rfl (.nil rfl))) (set_end _ _ _) fun fr=>?_
         refine k_seq (k_region (o_loadN rfl rfl (at_new _ _) sh26 rfl ?_))
         refine o_call rfl (q85) (.lrefl _) (o_not rfl rfl (o_nil (k_cF rfl rfl ?_)))
         refine k_skip (k_region ?_)
         refine o_add rfl rfl rfl (by unfold I64;omega) (o_move rfl (o_nil ?_))
         exact⟨k2 - 1,by omega,m+1,e2++[_],by omega,all_take hx hall2 hg,by rw[←List.append_assoc,hZ];rfl,.c4 rfl rfl rfl rfl (.cons rfl (.cons rfl (.cons rfl (.nil rfl))))⟩
       ·have hm:m=q.steps.length:=by omega
        subst hm
        rw[List.take_length]at hall2
        have hsc:scaleB t.heard.length q=true:=by unfold scaleB;rw[decide_eq_true h2,h3,hall2];rfl
        refine k_seq (k_region (o_lss rfl rfl rfl (o_nil (k_seq (k_cF rfl (decide_eq_false (by omega)) (k_exit (k_region ?_)))))))
        refine o_add rfl rfl rfl (by unfold I64;omega) (o_move rfl (o_nil ?_))
        exact⟨k - 1,by omega,n+1,e++e2,by omega,all_take hq hall hsc,(by show Z=_;rw[←List.append_assoc,hY,hZ]),.c4 rfl rfl rfl rfl (.nil rfl)⟩
      ·exact⟨0,[_],rfl,rfl,rfl,.c4 rfl rfl rfl rfl (.cons rfl (.cons rfl (.cons rfl (.nil rfl))))⟩
    ·have e0:t.scales.all (scaleB t.heard.length)=false:=all_not hq (by unfold scaleB;rw[decide_eq_false h2];simp)
     rw[e0]
     refine k_seq (k_region (o_lss rfl rfl rfl (o_nil (k_seq (k_cT rfl (decide_eq_true (by omega)) (k_skip (k_seq (k_block (k_seq (k_region ?_))))))))))
     refine o_idx (u:=(q).u) rfl ty23 rfl rfl (Int.natCast_nonneg _) (by simp[hq]) cl61 ?_
     refine o_loadRN rfl rfl sh61 rfl ?_
     refine o_alloc rfl ze61 ?_
     refine o_storeN rfl (at_new _ _) sh61 rfl rfl rfl rfl rfl ?_
     refine o_nil ?_
     refine k_gen [(1,U.box 0 0),(4,U.box (List.length Y) 0),(12,.lst .ro 2 (sclsU t.scales)),(13,.int .i64 ↑(List.length t.scales)),(14,.int .i64 ↑n)] (Y++[SB.box [.lst .ro 1 (intsU q.keys),.lst .ro 2 (twosU q.steps)]]) (.c4 rfl rfl rfl rfl (.cons rfl (.nil rfl))) (set_end _ _ _) fun fr=>?_
     refine k_seq (k_seq (k_region (o_faddr rfl rfl fld61_1 (o_load1 rfl rfl (at_new _ _) sh22 rfl ?_))))
     refine o_len rfl ty22 rfl (List.length_map _) ?_
     refine o_faddr rfl rfl fld61_0 (o_load1 rfl rfl (at_new _ _) sh29 rfl ?_)
     refine o_len rfl ty29 rfl (List.length_map _) ?_
     refine o_int (v:=.int .i64 (wrapF .i64 ((q.keys.length:Int) - 1))) rfl rfl rfl rfl rfl ?_
     refine o_neq rfl rfl rfl (o_move rfl ?_)
     refine o_genA [(1,U.box 0 0),(4,U.box (List.length Y) 0),(12,.lst .ro 2 (sclsU t.scales)),(13,.int .i64 ↑(List.length t.scales)),(14,.int .i64 ↑n),(26,U.bool (decide (↑(List.length q.steps)≠wrapF .i64 (↑(List.length q.keys) - (1:Int)))))] [] (Y++[SB.box [.lst .ro 1 (intsU q.keys),.lst .ro 2 (twosU q.steps)]]) (.c4 rfl rfl rfl rfl (.cons rfl (.cons rfl (.nil rfl)))) rfl rfl fun fr=>?_
     refine o_gS rfl rfl rfl rfl (decide_eq_true (by omega)) (o_gS rfl rfl rfl rfl (decide_eq_true (by omega)) (o_gS rfl rfl rfl rfl (decide_eq_true (by omega)) (o_gS rfl rfl rfl rfl (decide_eq_true (by omega)) (o_gS rfl rfl rfl rfl (decide_eq_true (by omega)) (o_gS rfl rfl rfl rfl (decide_eq_true (by omega)) (o_gS rfl rfl rfl rfl (decide_eq_true (by omega)) (o_pickT rfl rfl (decide_eq_true (by omega)) ?_)))))))
     refine o_nil ?_
     refine k_gen [(1,U.box 0 0),(4,U.box (List.length Y) 0),(12,.lst .ro 2 (sclsU t.scales)),(13,.int .i64 ↑(List.length t.scales)),(14,.int .i64 ↑n),(27,U.tup []),(28,U.tup []),(29,U.tup []),(30,U.tup []),(31,U.tup []),(32,U.tup []),(33,U.tup []),(34,.bool true)] (Y++[SB.box [.lst .ro 1 (intsU q.keys),.lst .ro 2 (twosU q.steps)]]) (.c4 rfl rfl rfl rfl (.c4 rfl rfl rfl rfl (.c4 rfl rfl rfl rfl (.cons rfl (.nil rfl))))) rfl fun fr=>?_
     refine k_cT rfl rfl ?_
     refine k_seq (k_region (o_assign rfl (o_nil (k_ret ?_))))
     refine⟨.inr rfl,_,.cons _ _ _ _ (.tmp 2) .nil,?_⟩
     exact .refl _
   ·have hn:n=t.scales.length:=by omega
    subst hn
    rw[List.take_length]at hall
    rw[hall]
    refine k_seq (k_region (o_lss rfl rfl rfl (o_nil (k_seq (k_cF rfl (decide_eq_false (by omega)) (k_exit (k_seq (k_region (o_assign rfl (o_nil ?_))))))))))
    refine k_ret ?_
    refine⟨.inr rfl,_,.cons _ _ _ _ (.tmp 2) .nil,?_⟩
    exact .refl _
  ·exact⟨0,[],rfl,rfl,rfl,.c4 rfl rfl rfl rfl (.nil rfl)⟩
theorem ty48:tyOf Try.prog 48=.array 2 3:=by kernel_rfl
set_option maxHeartbeats 8000000 in
theorem ret84(hi:Off is)(t:Ts)(hn8:t.heard.length≤8):RetP Try.prog is orc 84 [t.u] (.bool (decide (t.pairs.length≤4)&&t.pairs.all fun q=>difB [q.a,q.b] t.heard.length)):=by
 refine ret_of body84 pure84 (hi 84 (by decide)) rfl rfl (dat_l1 (dat_ts t 4)) (.inl (.bool _ _)) ?_
 by_cases h1:t.pairs.length > 4
 ·rw[show decide (t.pairs.length≤4)=false from decide_eq_false (by omega),Bool.false_and]
  refine k_seq (k_region (o_box rfl rfl (o_assign rfl (o_nil ?_))))
  refine k_gen [(1,U.box 0 0)] ([SB.box t.cs]) (.cons rfl (.nil rfl)) rfl fun fr=>?_
  refine k_seq (k_seq (k_region (o_faddr rfl rfl fld28_2 (o_load1 rfl rfl rfl sh24 rfl (o_len rfl ty24 rfl (List.length_map _) ?_)))))
  refine o_gtr rfl rfl rfl (o_nil (k_cT rfl (decide_eq_true (by omega)) (k_seq (k_region (o_assign rfl (o_nil (k_ret ?_)))))))
  refine⟨.inr rfl,_,.cons _ _ _ _ (.tmp 2) .nil,?_⟩
  exact .refl _
 ·rw[show decide (t.pairs.length≤4)=true from decide_eq_true (by omega),Bool.true_and]
  refine k_seq (k_region (o_box rfl rfl (o_assign rfl (o_nil ?_))))
  refine k_gen [(1,U.box 0 0)] ([SB.box t.cs]) (.cons rfl (.nil rfl)) rfl fun fr=>?_
  refine k_seq (k_seq (k_region (o_faddr rfl rfl fld28_2 (o_load1 rfl rfl rfl sh24 rfl (o_len rfl ty24 rfl (List.length_map _) ?_)))))
  refine o_gtr rfl rfl rfl (o_nil (k_cF rfl (decide_eq_false (by omega)) (k_skip (k_seq (k_seq (k_region (o_faddr rfl rfl fld28_2 (o_load1 rfl rfl rfl sh24 rfl (o_len rfl ty24 rfl (List.length_map _) ?_)))))))))
  refine o_move rfl (o_nil (k_block ?_))
  refine k_loop (fun k st=>∃(n:Nat) (e:List SB),k+n=t.pairs.length∧((t.pairs.take n).all fun q=>difB [q.a,q.b] t.heard.length)=true∧st.st=[.box t.cs]++e∧Holds st [(1,.box 0 0),(10,.lst .ro 2 (twosU t.pairs)),(11,.int .i64 t.pairs.length),(12,.int .i64 n)]) (fun k st hI=>?_) t.pairs.length _ ?_
  ·obtain⟨n,e,hk,hall,hst,hs⟩:=hI
   generalize hY:[SB.box t.cs]++e=Y at hst
   have hY0:Y[0]? =some (SB.box t.cs):=by rw[←hY];rfl
   refine k_gen _ _ hs hst fun fr=>?_
   by_cases hn:n<t.pairs.length
   ·obtain⟨q,hq⟩:∃q,t.pairs[n]? =some q:=⟨t.pairs[n],List.getElem?_eq_getElem hn⟩
    have q101:=ret101 (orc:=orc) hi [q.a,q.b] t.heard.length (by omega)
    refine k_seq (k_region (o_lss rfl rfl rfl (o_nil (k_seq (k_cT rfl (decide_eq_true (by omega)) (k_skip (k_seq (k_block (k_seq (k_region ?_))))))))))
    refine o_idx (u:=(q).u) rfl ty24 rfl rfl (Int.natCast_nonneg _) (by simp[hq]) cl48 ?_
    refine o_loadRN rfl rfl sh48 rfl ?_
    refine o_alloc rfl ze48 ?_
    refine o_storeN rfl (at_new _ _) sh48 rfl rfl rfl rfl rfl ?_
    refine o_nil ?_
    refine k_gen [(1,U.box 0 0),(4,U.box (List.length Y) 0),(10,.lst .ro 2 (twosU t.pairs)),(11,.int .i64 ↑(List.length t.pairs)),(12,.int .i64 ↑n)] (Y++[SB.box [.int .i64 q.a,.int .i64 q.b]]) (.c4 rfl rfl rfl rfl (.cons rfl (.nil rfl))) (set_end _ _ _) fun fr=>?_
    refine k_seq (k_draw [.plain,.plain,.plain,.plain,.plain,.plain] (by kernel_rfl) (by kernel_rfl) (by kernel_rfl) ?_)
    refine d_plain (o_sliceA (es:=intsU [q.a,q.b]) (cs:=[.int .i64 q.a,.int .i64 q.b]) rfl ty48 cl3 rfl rfl (at_new _ _) rfl (l1:=0) (h1:=2) (m1:=2) (by exact rfl) (by exact rfl) (by exact rfl) (.inl rfl) (by decide) (by decide) (by decide) rfl (by simp[cellsU]) rfl (o_nil rfl)) ?_
    refine d_genA [(1,.box 0 0),(10,.lst .ro 2 (twosU t.pairs)),(11,.int .i64 t.pairs.length),(12,.int .i64 n),(16,.lst .ro 1 (intsU [q.a,q.b]))] [] (Y++[.froz [.int .i64 q.a,.int .i64 q.b]]) (.c4 rfl rfl rfl rfl (.cons rfl (.nil rfl))) (by show(Y++[SB.box _]).set Y.length (SB.froz _)=_;exact set_end _ _ _) rfl fun fr=>?_
    cases hd:difB [q.a,q.b] t.heard.length with
    |false=>
     rw[hd]at q101
     have e0:(t.pairs.all fun q=>difB [q.a,q.b] t.heard.length)=false:=all_not hq hd
     rw[e0]
     refine d_plain (o_faddr rfl rfl fld28_0 (o_nil rfl)) ?_
     refine d_plain (o_load1 rfl rfl (at_pre hY0) sh22 rfl (o_nil rfl)) ?_
     refine d_plain (o_len rfl ty22 rfl (List.length_map _) (o_nil rfl)) ?_
     refine d_plain (o_call rfl (q101) (.lrefl _) (o_nil rfl)) ?_
     refine d_plain (o_not rfl rfl (o_nil rfl)) ?_
     refine d_nil ?_
     refine k_cT rfl rfl ?_
     refine k_seq (k_region (o_assign rfl (o_nil (k_ret ?_))))
     refine⟨.inr rfl,_,.cons _ _ _ _ (.tmp 2) .nil,?_⟩
     exact .refl _
    |true=>
     rw[hd]at q101
     refine d_plain (o_faddr rfl rfl fld28_0 (o_nil rfl)) ?_
     refine d_plain (o_load1 rfl rfl (at_pre hY0) sh22 rfl (o_nil rfl)) ?_
     refine d_plain (o_len rfl ty22 rfl (List.length_map _) (o_nil rfl)) ?_
     refine d_plain (o_call rfl (q101) (.lrefl _) (o_nil rfl)) ?_
     refine d_plain (o_not rfl rfl (o_nil rfl)) ?_
     refine d_nil ?_
     refine k_cF rfl rfl ?_
     refine k_skip (k_region ?_)
     refine o_add rfl rfl rfl (by unfold I64;omega) (o_move rfl (o_nil ?_))
     exact⟨k - 1,by omega,n+1,e++[_],by omega,all_take hq hall hd,by rw[←List.append_assoc,hY];rfl,.c4 rfl rfl rfl rfl (.nil rfl)⟩
   ·have hn:n=t.pairs.length:=by omega
    subst hn
    rw[List.take_length]at hall
    rw[hall]
    refine k_seq (k_region (o_lss rfl rfl rfl (o_nil (k_seq (k_cF rfl (decide_eq_false (by omega)) (k_exit (k_seq (k_region (o_assign rfl (o_nil ?_))))))))))
    refine k_ret ?_
    refine⟨.inr rfl,_,.cons _ _ _ _ (.tmp 2) .nil,?_⟩
    exact .refl _
  ·exact⟨0,[],rfl,rfl,rfl,.c4 rfl rfl rfl rfl (.nil rfl)⟩
end Go.Proofs.Ytinhcdijbcamaaa.tuneApart
namespace Go.Proofs.Ytinhcdijbcamaaa.tuneApart
open Vam
variable {is:FuncId→Bool}{orc:Known}
theorem by72:Program.bytesOf Try.prog 72=40:=by kernel_rfl
theorem cl72:Program.cellsOf Try.prog 72=5:=by kernel_rfl
theorem fld28_3:fieldOf Try.prog 28 3=some (3,26):=by kernel_rfl
theorem ty70:tyOf Try.prog 70=.slice 72:=by kernel_rfl
theorem ap70_70:AppT Try.prog 70 70 72 5 40 ((.cons (.int .i64 0) (.cons (.int .i64 0) (.cons (.int .i64 0) (.cons (.int .i64 0) (.cons (.int .i64 0) .nil))))):V):=⟨ty70,⟨_,ty70⟩,cl72,by decide,by72,ze72,rfl⟩
noncomputable def b51:Code:=(Try.f51.body).getD .skip
theorem body51:bodyOf Try.prog 51=some (62,b51,[.tmp 2]):=by kernel_rfl
theorem pure51:pureFn Try.prog 51=true:=by kernel_rfl
theorem sh122:shOf Try.prog 122=.many 8:=by kernel_rfl
noncomputable def b102:Code:=(Try.f102.body).getD .skip
theorem body102:bodyOf Try.prog 102=some (21,b102,[.cell 4 122]):=by kernel_rfl
theorem pure102:pureFn Try.prog 102=true:=by kernel_rfl
noncomputable def b103:Code:=(Try.f103.body).getD .skip
theorem body103:bodyOf Try.prog 103=some (21,b103,[.cell 4 122]):=by kernel_rfl
theorem pure103:pureFn Try.prog 103=true:=by kernel_rfl
def sclJ(q:Scl)(n:Nat):List Jn:=(List.range n).map fun i:Nat=>⟨0,(q.keys[i]?).getD 0,(q.keys[i+1]?).getD 0,((q.steps[i]?).map Two.a).getD 0,((q.steps[i]?).map Two.b).getD 0⟩
def scalesJ(l:List Scl):List Jn:=l.flatMap fun q=>sclJ q q.steps.length
def pairJ(t:Ts)(q:Two):Jn:=⟨2,q.a,q.b,t.lo,t.hi⟩
def joinsI(t:Ts):List Jn:=scalesJ t.scales++t.pairs.map (pairJ t)
theorem sclJ_succ{q:Scl}{n:Nat}{a b:Int}{s:Two}(h1:q.keys[n]? =some a)(h2:q.keys[n+1]? =some b)(h3:q.steps[n]? =some s):sclJ q (n+1)=sclJ q n++[⟨0,a,b,s.a,s.b⟩]:=by
 unfold sclJ
 rw[List.range_succ,List.map_append]
 simp[h1,h2,h3]
theorem scalesJ_take{l:List Scl}{n:Nat}{q:Scl}(h:l[n]? =some q):scalesJ (l.take (n+1))=scalesJ (l.take n)++sclJ q q.steps.length:=by
 unfold scalesJ
 rw[List.take_add_one,h,List.flatMap_append];simp
def accJ(l:List Jn):U:=match l with
 |[]=>.lst .full 0 []
 |l=>.lst .own 5 (jnsU l)
theorem accJ_snoc(x:Jn)(l:List Jn):accJ (l++[x])=.lst .own 5 (jnsU l++[x.u]):=by
 cases l with
 |nil=>rfl
 |cons y l=>show U.lst .own 5 (List.map Jn.u ((y::l)++[x]))=_;rw[List.map_append];rfl
theorem uw_accJ(l:List Jn):UW (.u (dg (accJ l))) (.u (.lst .ro 5 (jnsU l))):=by
 cases l with
 |nil=>exact .nil .full .ro 5
 |cons x l=>exact .refl _
theorem at_ps{l m:List SB}{i k:Nat}{x y:SB}(h:l[i]? =some x)(hk:l.length≤k):((l++m).set k y)[i]? =some x:=by
 have hi:=(List.getElem?_eq_some_iff.1 h).1
 rw[List.getElem?_set_ne (by omega),List.getElem?_append_left hi,h]
structure Sh(t:Ts):Prop where
 ns:t.scales.length≤2
 np:t.pairs.length≤4
 sc:∀q∈t.scales,q.steps.length+1=q.keys.length∧q.keys.length≤8
theorem sclJ_len(q:Scl)(n:Nat):(sclJ q n).length=n:=by unfold sclJ;simp
theorem scalesJ_len(l:List Scl)(h:∀q∈l,q.steps.length≤7):(scalesJ l).length≤7*l.length:=by
 induction l with
 |nil=>exact Nat.le_refl 0
 |cons q l ih=>
  have h1:=ih fun x hx=>h x (List.mem_cons_of_mem _ hx)
  have h2:=h q List.mem_cons_self
  unfold scalesJ at*
  rw[List.flatMap_cons,List.length_append,sclJ_len,List.length_cons]
  omega
theorem grow{t:Ts}{Y e e2:List SB}(h:[SB.box t.cs]++e=Y):Y++e2=[SB.box t.cs]++(e++e2):=by rw[←h,List.append_assoc]
set_option maxHeartbeats 8000000 in
theorem ret51(hi:Off is){t:Ts}(h:Sh t):RetP Try.prog is orc 51 [t.u] (.lst .ro 5 (jnsU (joinsI t))):=by
 have hns:=h.ns
 have hnp:=h.np
 have hsl:∀n,(scalesJ (t.scales.take n)).length≤14:=fun n=>by
  have:=scalesJ_len (t.scales.take n) fun q hq=>by have:=h.sc q (List.mem_of_mem_take hq);omega
  rw[List.length_take]at this
  omega
 refine ret_of body51 pure51 (hi 51 (by decide)) rfl rfl (dat_l1 (dat_ts t 4)) (.inl (dat_jns _ .ro (fun h=>by cases h) 6)) ?_
 refine k_seq (k_region (o_box rfl rfl (o_assign rfl (o_nil ?_))))
 refine k_gen [(1,U.box 0 0)] ([SB.box t.cs]) (.cons rfl (.nil rfl)) rfl fun fr=>?_
 refine k_seq (k_region (o_assign rfl (o_nil (k_seq (k_seq (k_region (o_faddr rfl rfl fld28_1 (o_load1 rfl rfl rfl sh23 rfl (o_len rfl ty23 rfl (List.length_map _) ?_)))))))))
 refine o_move rfl (o_nil (k_block ?_))
 refine k_loop (fun k st=>∃(n:Nat),k+n=t.scales.length∧(∃e,st.st=[.box t.cs]++e)∧Holds st [(1,.box 0 0),(3,accJ (scalesJ (t.scales.take n))),(11,.lst .ro 2 (sclsU t.scales)),(12,.int .i64 t.scales.length),(13,.int .i64 n)]) (fun k st hI=>?_) t.scales.length _ ?_
 ·obtain⟨n,hk,⟨e,hst⟩,hs⟩:=hI
  generalize hY:[SB.box t.cs]++e=Y at hst
  have hY0:Y[0]? =some (SB.box t.cs):=by rw[←hY];rfl
  refine k_gen _ _ hs hst fun fr=>?_
  by_cases hn:n<t.scales.length
  ·obtain⟨q,hq⟩:∃q,t.scales[n]? =some q:=⟨t.scales[n],List.getElem?_eq_getElem hn⟩
   have hqs:=h.sc q (List.mem_of_getElem? hq)
   obtain⟨L,hL⟩:∃L,L=scalesJ (t.scales.take n):=⟨_,rfl⟩
   have hLl:=hsl n
   rw[←hL]at hLl
   rw[←hL]
   refine k_seq (k_region (o_lss rfl rfl rfl (o_nil (k_seq (k_cT rfl (decide_eq_true (by omega)) (k_skip (k_seq (k_block (k_seq (k_region ?_))))))))))
   refine o_idx (u:=(q).u) rfl ty23 rfl rfl (Int.natCast_nonneg _) (by simp[hq]) cl61 ?_
   refine o_loadRN rfl rfl sh61 rfl ?_
   refine o_alloc rfl ze61 ?_
   refine o_storeN rfl (at_new _ _) sh61 rfl rfl rfl rfl rfl ?_
   refine o_nil ?_
   refine k_gen [(1,U.box 0 0),(3,accJ L),(5,U.box (List.length Y) 0),(11,.lst .ro 2 (sclsU t.scales)),(12,.int .i64 ↑(List.length t.scales)),(13,.int .i64 ↑n)] (Y++[SB.box [.lst .ro 1 (intsU q.keys),.lst .ro 2 (twosU q.steps)]]) (.c4 rfl rfl rfl rfl (.cons rfl (.cons rfl (.nil rfl)))) (set_end _ _ _) fun fr=>?_
   refine k_seq (k_region (o_faddr rfl rfl fld61_1 (o_load1 rfl rfl (at_new _ _) sh22 rfl ?_)))
   refine o_len rfl ty22 rfl (List.length_map _) ?_
   refine o_move rfl (o_nil (k_block ?_))
   refine k_loop (fun k2 st=>∃(m:Nat),k2+m=q.steps.length∧(∃e2,st.st=(Y++[.box [.lst .ro 1 (intsU q.keys),.lst .ro 2 (twosU q.steps)]])++e2)∧Holds st [(1,.box 0 0),(3,accJ (L++sclJ q m)),(5,.box Y.length 0),(11,.lst .ro 2 (sclsU t.scales)),(12,.int .i64 t.scales.length),(13,.int .i64 n),(18,.lst .ro 2 (twosU q.steps)),(19,.int .i64 q.steps.length),(20,.int .i64 m)]) (fun k2 st2 hI2=>?_) q.steps.length _ ?_
   ·obtain⟨m,hk2,⟨e2,hst2⟩,hs2⟩:=hI2
    generalize hZ:(Y++[SB.box [.lst .ro 1 (intsU q.keys),.lst .ro 2 (twosU q.steps)]])++e2=Z at hst2
    have hZ0:Z[Y.length]? =some (SB.box [.lst .ro 1 (intsU q.keys),.lst .ro 2 (twosU q.steps)]):=by rw[←hZ];exact at_pre (at_new _ _)
    refine k_gen _ _ hs2 hst2 fun fr=>?_
    by_cases hm:m<q.steps.length
    ·obtain⟨x,hx⟩:∃x,q.steps[m]? =some x:=⟨q.steps[m],List.getElem?_eq_getElem hm⟩
     obtain⟨a,ha⟩:∃a,q.keys[m]? =some a:=⟨q.keys[m]'(by omega),List.getElem?_eq_getElem (by omega)⟩
     obtain⟨b,hb⟩:∃b,q.keys[m+1]? =some b:=⟨q.keys[m+1]'(by omega),List.getElem?_eq_getElem (by omega)⟩
     have hsu:=sclJ_succ ha hb hx
     have hll:(L++sclJ q m).length≤21:=by rw[List.length_append,sclJ_len];omega
     obtain⟨M,hM⟩:∃M,M=L++sclJ q m:=⟨_,rfl⟩
     have hsM:L++sclJ q (m+1)=M++[⟨0,a,b,x.a,x.b⟩]:=by rw[hsu,←List.append_assoc,←hM]
     rw[←hM]at hll
     rw[←hM]
     cases M with
     |nil=>
      refine k_seq (k_region (o_lss rfl rfl rfl (o_nil (k_seq (k_cT rfl (decide_eq_true (by omega)) (k_skip (k_seq (k_block (k_seq (k_region ?_))))))))))
      refine o_move rfl (o_idx (u:=(x).u) rfl ty22 rfl rfl (Int.natCast_nonneg _) (by simp[hx]) cl26 ?_)
      refine o_loadRN rfl rfl sh26 rfl ?_
      refine o_alloc rfl ze26 ?_
      refine o_assign rfl (o_storeN rfl (at_new _ _) sh26 rfl rfl rfl rfl rfl ?_)
      refine o_nil ?_
      refine k_gen [(1,U.box 0 0),(3,accJ []),(5,U.box (List.length Y) 0),(6,.int .i64 ↑m),(7,U.box (List.length Z) 0),(11,.lst .ro 2 (sclsU t.scales)),(12,.int .i64 ↑(List.length t.scales)),(13,.int .i64 ↑n),(18,.lst .ro 2 (twosU q.steps)),(19,.int .i64 ↑(List.length q.steps)),(20,.int .i64 ↑m)] (Z++[SB.box [.int .i64 x.a,.int .i64 x.b]]) (.c4 rfl rfl rfl rfl (.c4 rfl rfl rfl rfl (.cons rfl (.cons rfl (.cons rfl (.nil rfl)))))) (set_end _ _ _) fun fr=>?_
      refine k_draw [.plain,.plain,.read true,.plain,.plain,.read true,.plain,.read true,.plain,.plain,.plain,.read true,.read true,.plain,.plain,.plain,.plain] (by kernel_rfl) (by kernel_rfl) (by kernel_rfl) ?_
      refine d_plain (o_move rfl (o_nil rfl)) (d_plain (o_faddr rfl rfl fld61_0 (o_nil rfl)) ?_)
      refine d_load rfl (o_load1 rfl rfl (at_pre hZ0) sh29 rfl (o_nil rfl)) ?_
      refine d_plain (o_move rfl (o_nil rfl)) (d_plain (o_idx (u:=.int .i64 (a)) rfl ty29 rfl rfl (Int.natCast_nonneg _) (by simp[ha]) cl3 (o_nil rfl)) ?_)
      refine d_load rfl (o_loadR1 rfl rfl sh3 rfl (o_nil rfl)) ?_
      refine d_plain (o_faddr rfl rfl fld61_0 (o_nil rfl)) ?_
      refine d_load rfl (o_load1 rfl rfl (at_pre hZ0) sh29 rfl (o_nil rfl)) ?_
      refine d_plain (o_move rfl (o_nil rfl)) ?_
      refine d_genA [(1,U.box 0 0),(5,U.box (List.length Y) 0),(7,U.box (List.length Z) 0),(11,.lst .ro 2 (sclsU t.scales)),(12,.int .i64 ↑(List.length t.scales)),(13,.int .i64 ↑n),(18,.lst .ro 2 (twosU q.steps)),(19,.int .i64 ↑(List.length q.steps)),(20,.int .i64 ↑m),(25,.lst .full 0 []),(30,.int .i64 a),(32,.lst .ro 1 (intsU q.keys)),(33,.int .i64 ↑m)] [] (Z++[SB.box [.int .i64 x.a,.int .i64 x.b]]) (.c4 rfl rfl rfl rfl (.c4 rfl rfl rfl rfl (.c4 rfl rfl rfl rfl (.cons rfl (.nil rfl))))) rfl rfl fun fr=>?_
      refine d_plain (o_add rfl rfl rfl (by unfold I64;omega) (o_nil rfl)) ?_
      refine d_plain (o_idx (u:=.int .i64 (b)) rfl ty29 rfl rfl (Int.natCast_nonneg _) (by simp[hb]) cl3 (o_nil rfl)) ?_
      refine d_load rfl (o_loadR1 rfl rfl sh3 rfl (o_nil rfl)) ?_
      refine d_load rfl (o_loadN rfl rfl (at_new _ _) sh26 rfl (o_nil rfl)) ?_
      refine d_plain (o_build rfl ze72 pl72 rfl rfl (o_nil rfl)) ?_
      refine d_plain (o_lit (es:=[U.agg [.int .i64 0,.int .i64 a,.int .i64 b,.int .i64 (Two.a x),.int .i64 (Two.b x)]]) rfl ty70 ze72 cl72 rfl rfl rfl rfl rfl rfl rfl rfl (o_nil rfl)) ?_
      refine d_plain (o_appendF rfl ap70_70 rfl rfl (by simp) (by simp) (by simp[flatU,cellsU,oneU]) (by simp) (o_nil rfl)) ?_
      refine d_plain (o_assign rfl (o_nil rfl)) ?_
      refine d_nil ?_
      refine k_gen [(1,U.box 0 0),(3,U.lst Kd.own 5 [U.agg [.int .i64 0,.int .i64 a,.int .i64 b,.int .i64 x.a,.int .i64 x.b]]),(5,U.box (List.length Y) 0),(11,.lst .ro 2 (sclsU t.scales)),(12,.int .i64 ↑(List.length t.scales)),(13,.int .i64 ↑n),(18,.lst .ro 2 (twosU q.steps)),(19,.int .i64 ↑(List.length q.steps)),(20,.int .i64 ↑m)] (Z++[SB.box [.int .i64 x.a,.int .i64 x.b]]) (.c4 rfl rfl rfl rfl (.c4 rfl rfl rfl rfl (.cons rfl (.nil rfl)))) rfl fun fr=>?_
      refine k_region ?_
      refine o_add rfl rfl rfl (by unfold I64;omega) (o_move rfl (o_nil ?_))
      exact⟨k2 - 1,by omega,m+1,by omega,⟨_,by show Z++_=_;rw[←hZ,List.append_assoc]⟩,.cons rfl (.cons (by rw[hsM];rfl) (.c4 rfl rfl rfl rfl (.cons rfl (.cons rfl (.cons rfl (.nil rfl))))))⟩
     |cons y M=>
      refine k_seq (k_region (o_lss rfl rfl rfl (o_nil (k_seq (k_cT rfl (decide_eq_true (by omega)) (k_skip (k_seq (k_block (k_seq (k_region ?_))))))))))
      refine o_move rfl (o_idx (u:=(x).u) rfl ty22 rfl rfl (Int.natCast_nonneg _) (by simp[hx]) cl26 ?_)
      refine o_loadRN rfl rfl sh26 rfl ?_
      refine o_alloc rfl ze26 ?_
      refine o_assign rfl (o_storeN rfl (at_new _ _) sh26 rfl rfl rfl rfl rfl ?_)
      refine o_nil (k_draw [.plain,.plain,.read true,.plain,.plain,.read true,.plain,.read true,.plain,.plain,.plain,.read true,.read true,.plain,.plain,.plain,.plain] (by kernel_rfl) (by kernel_rfl) (by kernel_rfl) ?_)
      refine d_plain (o_move rfl (o_nil rfl)) (d_plain (o_faddr rfl rfl fld61_0 (o_nil rfl)) ?_)
      refine d_load rfl (o_load1 rfl rfl (at_ps hZ0 (Nat.le_refl _)) sh29 rfl (o_nil rfl)) ?_
      refine d_plain (o_move rfl (o_nil rfl)) (d_plain (o_idx (u:=.int .i64 (a)) rfl ty29 rfl rfl (Int.natCast_nonneg _) (by simp[ha]) cl3 (o_nil rfl)) ?_)
      refine d_load rfl (o_loadR1 rfl rfl sh3 rfl (o_nil rfl)) ?_
      refine d_plain (o_faddr rfl rfl fld61_0 (o_nil rfl)) ?_
      refine d_load rfl (o_load1 rfl rfl (at_ps hZ0 (Nat.le_refl _)) sh29 rfl (o_nil rfl)) ?_
      refine d_plain (o_move rfl (o_nil rfl)) ?_
      refine d_plain (o_add rfl rfl rfl (by unfold I64;omega) (o_nil rfl)) ?_
      refine d_plain (o_idx (u:=.int .i64 (b)) rfl ty29 rfl rfl (Int.natCast_nonneg _) (by simp[hb]) cl3 (o_nil rfl)) ?_
      refine d_load rfl (o_loadR1 rfl rfl sh3 rfl (o_nil rfl)) ?_
      refine d_load rfl (o_loadN rfl rfl (at_set _ _ _) sh26 rfl (o_nil rfl)) ?_
      refine d_plain (o_build rfl ze72 pl72 rfl rfl (o_nil rfl)) ?_
      refine d_plain (o_lit (es:=[U.agg [.int .i64 0,.int .i64 a,.int .i64 b,.int .i64 (Two.a x),.int .i64 (Two.b x)]]) rfl ty70 ze72 cl72 rfl rfl rfl rfl rfl rfl rfl rfl (o_nil rfl)) ?_
      refine d_plain (o_appendS 3 rfl ap70_70 rfl rfl rfl (by simp) (by simp) (by simp[flatU,cellsU,oneU]) (by simp at hll ⊢;omega) (o_nil rfl)) ?_
      refine d_plain (o_assign rfl (o_nil rfl)) ?_
      refine d_nil ?_
      refine k_region ?_
      refine o_add rfl rfl rfl (by unfold I64;omega) (o_move rfl (o_nil ?_))
      exact⟨k2 - 1,by omega,m+1,by omega,⟨_,by show(Z++[_]).set Z.length _=_;rw[set_end,←hZ,List.append_assoc]⟩,.cons rfl (.cons (by rw[hsM,accJ_snoc];rfl) (.c4 rfl rfl rfl rfl (.cons rfl (.cons rfl (.cons rfl (.nil rfl))))))⟩
    ·have hm:m=q.steps.length:=by omega
     subst hm
     have hts:=scalesJ_take hq
     rw[←hL]at hts
     refine k_seq (k_region (o_lss rfl rfl rfl (o_nil (k_seq (k_cF rfl (decide_eq_false (by omega)) (k_exit (k_region ?_)))))))
     refine o_add rfl rfl rfl (by unfold I64;omega) (o_move rfl (o_nil ?_))
     exact⟨k - 1,by omega,n+1,by omega,⟨_,by show Z=_;rw[←hZ,List.append_assoc];exact grow hY⟩,.cons rfl (.cons (congrArg accJ hts.symm) (.cons rfl (.cons rfl (.cons rfl (.nil rfl)))))⟩
   ·exact⟨0,rfl,⟨[],(List.append_nil _).symm⟩,.cons rfl (.cons (congrArg accJ (List.append_nil L).symm) (.c4 rfl rfl rfl rfl (.cons rfl (.cons rfl (.cons rfl (.nil rfl))))))⟩
  ·have hn:n=t.scales.length:=by omega
   subst hn
   rw[List.take_length]
   have hsl2:=hsl t.scales.length
   rw[List.take_length]at hsl2
   obtain⟨L,hL⟩:∃L,L=scalesJ t.scales:=⟨_,rfl⟩
   rw[←hL]at hsl2
   have hLJ:joinsI t=L++t.pairs.map (pairJ t):=by rw[hL];rfl
   rw[hLJ,←hL]
   refine k_seq (k_region (o_lss rfl rfl rfl (o_nil (k_seq (k_cF rfl (decide_eq_false (by omega)) (k_exit (k_seq (k_seq (k_region (o_faddr rfl rfl fld28_2 ?_))))))))))
   refine o_load1 rfl rfl hY0 sh24 rfl ?_
   refine o_len rfl ty24 rfl (List.length_map _) ?_
   refine o_move rfl (o_nil (k_block ?_))
   refine k_loop (fun k2 st=>∃(m:Nat),k2+m=t.pairs.length∧(∃e2,st.st=Y++e2)∧Holds st [(1,.box 0 0),(3,accJ (L++(t.pairs.take m).map (pairJ t))),(44,.lst .ro 2 (twosU t.pairs)),(45,.int .i64 t.pairs.length),(46,.int .i64 m)]) (fun k2 st2 hI2=>?_) t.pairs.length _ ?_
   ·obtain⟨m,hk2,⟨e2,hst2⟩,hs2⟩:=hI2
    generalize hZ:Y++e2=Z at hst2
    have hZ0:Z[0]? =some (SB.box t.cs):=by rw[←hZ];exact at_pre hY0
    refine k_gen _ _ hs2 hst2 fun fr=>?_
    by_cases hm:m<t.pairs.length
    ·obtain⟨x,hx⟩:∃x,t.pairs[m]? =some x:=⟨t.pairs[m],List.getElem?_eq_getElem hm⟩
     have hll:(L++(t.pairs.take m).map (pairJ t)).length≤21:=by rw[List.length_append,List.length_map,List.length_take];omega
     obtain⟨M,hM⟩:∃M,M=L++(t.pairs.take m).map (pairJ t):=⟨_,rfl⟩
     have hsM:L++(t.pairs.take (m+1)).map (pairJ t)=M++[pairJ t x]:=by rw[List.take_add_one,hx,List.map_append,←List.append_assoc,←hM];rfl
     rw[←hM]at hll
     rw[←hM]
     cases M with
     |nil=>
      refine k_seq (k_region (o_lss rfl rfl rfl (o_nil (k_seq (k_cT rfl (decide_eq_true (by omega)) (k_skip (k_seq (k_block (k_seq (k_region ?_))))))))))
      refine o_idx (u:=(x).u) rfl ty24 rfl rfl (Int.natCast_nonneg _) (by simp[hx]) cl48 ?_
      refine o_loadRN rfl rfl sh48 rfl ?_
      refine o_alloc rfl ze48 ?_
      refine o_storeN rfl (at_new _ _) sh48 rfl rfl rfl rfl rfl ?_
      refine o_nil (k_region (o_move rfl (o_idxA rfl ty48 rfl rfl (by omega) (by omega) cl3 ?_)))
      refine o_load1 rfl rfl (at_set _ _ _) sh3 rfl ?_
      refine o_idxA rfl ty48 rfl rfl (by omega) (by omega) cl3 ?_
      refine o_load1 rfl rfl (at_set _ _ _) sh3 rfl ?_
      refine o_faddr rfl rfl fld28_3 (o_loadN rfl rfl (at_ps hZ0 (Nat.le_refl _)) sh26 rfl ?_)
      refine o_build rfl ze72 pl72 rfl rfl ?_
      refine o_lit (es:=[U.agg [.int .i64 2,.int .i64 (Two.a x),.int .i64 (Two.b x),.int .i64 (Ts.lo t),.int .i64 (Ts.hi t)]]) rfl ty70 ze72 cl72 rfl rfl rfl rfl rfl rfl rfl rfl ?_
      refine o_appendF rfl ap70_70 rfl rfl (by simp) (by simp) (by simp[flatU,cellsU,oneU]) (by simp) ?_
      refine o_assign rfl (o_nil (k_region ?_))
      refine o_add rfl rfl rfl (by unfold I64;omega) (o_move rfl (o_nil ?_))
      exact⟨k2 - 1,by omega,m+1,by omega,⟨_,by show(Z++[_]).set Z.length _=_;rw[set_end,←hZ,List.append_assoc]⟩,.cons rfl (.cons (by rw[hsM];rfl) (.cons rfl (.cons rfl (.cons rfl (.nil rfl)))))⟩
     |cons y M=>
      refine k_seq (k_region (o_lss rfl rfl rfl (o_nil (k_seq (k_cT rfl (decide_eq_true (by omega)) (k_skip (k_seq (k_block (k_seq (k_region ?_))))))))))
      refine o_idx (u:=(x).u) rfl ty24 rfl rfl (Int.natCast_nonneg _) (by simp[hx]) cl48 ?_
      refine o_loadRN rfl rfl sh48 rfl ?_
      refine o_alloc rfl ze48 ?_
      refine o_storeN rfl (at_new _ _) sh48 rfl rfl rfl rfl rfl ?_
      refine o_nil (k_region (o_move rfl (o_idxA rfl ty48 rfl rfl (by omega) (by omega) cl3 ?_)))
      refine o_load1 rfl rfl (at_set _ _ _) sh3 rfl ?_
      refine o_idxA rfl ty48 rfl rfl (by omega) (by omega) cl3 ?_
      refine o_load1 rfl rfl (at_set _ _ _) sh3 rfl ?_
      refine o_faddr rfl rfl fld28_3 (o_loadN rfl rfl (at_ps hZ0 (Nat.le_refl _)) sh26 rfl ?_)
      refine o_build rfl ze72 pl72 rfl rfl ?_
      refine o_lit (es:=[U.agg [.int .i64 2,.int .i64 (Two.a x),.int .i64 (Two.b x),.int .i64 (Ts.lo t),.int .i64 (Ts.hi t)]]) rfl ty70 ze72 cl72 rfl rfl rfl rfl rfl rfl rfl rfl ?_
      refine o_appendS 3 rfl ap70_70 rfl rfl rfl (by simp) (by simp) (by simp[flatU,cellsU,oneU]) (by simp at hll ⊢;omega) ?_
      refine o_assign rfl (o_nil (k_region ?_))
      refine o_add rfl rfl rfl (by unfold I64;omega) (o_move rfl (o_nil ?_))
      exact⟨k2 - 1,by omega,m+1,by omega,⟨_,by show(Z++[_]).set Z.length _=_;rw[set_end,←hZ,List.append_assoc]⟩,.cons rfl (.cons (by rw[hsM,accJ_snoc];rfl) (.cons rfl (.cons rfl (.cons rfl (.nil rfl)))))⟩
    ·have hm:m=t.pairs.length:=by omega
     subst hm
     rw[List.take_length]
     refine k_seq (k_region (o_lss rfl rfl rfl (o_nil (k_seq (k_cF rfl (decide_eq_false (by omega)) (k_exit (k_seq (k_region (o_move rfl (o_assign rfl ?_))))))))))
     refine o_nil (k_ret ?_)
     refine⟨.inr rfl,_,.cons _ _ _ _ (.tmp 2) .nil,?_⟩
     exact uw_accJ _
   ·exact⟨0,rfl,⟨[],(List.append_nil _).symm⟩,.cons rfl (.cons (congrArg accJ (List.append_nil L).symm) (.cons rfl (.cons rfl (.cons rfl (.nil rfl)))))⟩
 ·exact⟨0,rfl,⟨[],rfl⟩,.c4 rfl rfl rfl rfl (.cons rfl (.nil rfl))⟩
end Go.Proofs.Ytinhcdijbcamaaa.tuneApart
