import Derived.Test.YtinhcdijbcamaaaVamT3
set_option linter.unusedVariables false
set_option linter.unusedSimpArgs false
set_option linter.constructorNameAsVariable false
namespace Go.Proofs.Ytinhcdijbcamaaa.tuneTrue
open Vam
section
variable {is:FuncId→Bool}{orc:Known}
structure Scl where
 keys:List Int
 steps:List Two
abbrev Scl.u(q:Scl):U:=.agg [.lst .ro 1 (zO q.keys),.lst .ro 2 (zV q.steps)]
abbrev yn(l:List Scl):List U:=l.map Scl.u
theorem dat_scls(l:List Scl)(kd:Kd)(hk:kd≠.own)(k:Nat):Dat (k+3) (.lst kd 2 (yn l)):=by
 refine .lst _ _ _ _ hk fun c hc=>?_
 obtain⟨e,h1,h2⟩:=List.mem_flatMap.1 hc
 obtain⟨q,_,rfl⟩:=List.mem_map.1 h1
 simp only[zi,List.mem_cons,List.not_mem_nil,or_false]at h2
 rcases h2 with rfl|rfl
 ·exact wT _ .ro (fun h=>by cases h) 1 _
 ·exact zDk _ .ro (fun h=>by cases h) _
structure Ts where
 heard:List Two
 scales:List Scl
 pairs:List Two
 lo:Int
 hi:Int
abbrev Ts.cs(t:Ts):List U:=[.lst .ro 2 (zV t.heard),.lst .ro 2 (yn t.scales),.lst .ro 2 (zV t.pairs),.int .i64 t.lo,.int .i64 t.hi]
abbrev Ts.u(t:Ts):U:=.agg t.cs
theorem zAg(t:Ts)(k:Nat):Dat (k+4) t.u:=.agg _ _ fun c hc=>by
 simp only[List.mem_cons,List.not_mem_nil,or_false]at hc
 rcases hc with rfl|rfl|rfl|rfl|rfl
 ·exact zDk _ .ro (fun h=>by cases h) _
 ·exact dat_scls _ .ro (fun h=>by cases h) _
 ·exact zDk _ .ro (fun h=>by cases h) _
 ·exact .int _ _ _
 ·exact .int _ _ _
def stepB(q:Two):Bool:=zFE q.a q.b 200 5000
noncomputable def zBX(n:Int)(q:Scl):Bool:=decide ((q.steps.length:Int)=zBN .i64 ((q.keys.length:Int) - 1))&&difB q.keys n&&q.steps.all stepB
set_option maxHeartbeats 8000000 in
theorem ret83(hi:Off is)(t:Ts)(hn8:t.heard.length≤8):RetP Try.prog is orc 83 [t.u] (.bool (decide (t.scales.length≤2)&&t.scales.all (zBX t.heard.length))):=by
 refine yE body83 pure83 (hi 83 (by decide)) rfl rfl (zAh (zAg t 4)) (.inl (.bool _ _)) ?_
 by_cases h1:t.scales.length > 2
 ·rw[show decide (t.scales.length≤2)=false from decide_eq_false (by omega),Bool.false_and]
  refine kQ (yA rfl rfl (zC rfl (zA ?_)))
  refine zK [(1,U.box 0 0)] ([SB.box t.cs]) (.cons rfl (.nil rfl)) rfl fun fr=>?_
  refine k_seq (kQ (zE rfl rfl yl (zF rfl rfl rfl sh23 rfl (zw rfl ty23 rfl (List.length_map _) ?_))))
  refine zHY rfl rfl rfl (zA (k_cT rfl (decide_eq_true (by omega)) (kQ (zC rfl (zA (zb ?_))))))
  refine⟨.inr rfl,_,.cons _ _ _ _ (.tmp 2) .nil,?_⟩
  exact .refl _
 ·rw[show decide (t.scales.length≤2)=true from decide_eq_true (by omega),Bool.true_and]
  refine kQ (yA rfl rfl (zC rfl (zA ?_)))
  refine zK [(1,U.box 0 0)] ([SB.box t.cs]) (.cons rfl (.nil rfl)) rfl fun fr=>?_
  refine k_seq (kQ (zE rfl rfl yl (zF rfl rfl rfl sh23 rfl (zw rfl ty23 rfl (List.length_map _) ?_))))
  refine zHY rfl rfl rfl (zA (k_cF rfl (decide_eq_false (by omega)) (zQ (k_seq (kQ (zE rfl rfl yl (zF rfl rfl rfl sh23 rfl (zw rfl ty23 rfl (List.length_map _) ?_))))))))
  refine zB rfl (zA (zN ?_))
  refine yg (fun k st=>∃(n:Nat) (e:List SB),k+n=t.scales.length∧(t.scales.take n).all (zBX t.heard.length)=true∧st.st=[.box t.cs]++e∧Holds st [(1,.box 0 0),(12,.lst .ro 2 (yn t.scales)),(13,.int .i64 t.scales.length),(14,.int .i64 n)]) (fun k st hI=>?_) t.scales.length _ ?_
  ·obtain⟨n,e,hk,hall,hst,hs⟩:=hI
   generalize hY:[SB.box t.cs]++e=Y at hst
   have hY0:Y[0]? =some (SB.box t.cs):=by rw[←hY];rfl
   refine zK _ _ hs hst fun fr=>?_
   by_cases hn:n<t.scales.length
   ·obtain⟨q,hq⟩:∃q,t.scales[n]? =some q:=⟨t.scales[n],List.getElem?_eq_getElem hn⟩
    have q101:=ret101 (orc:=orc) hi q.keys t.heard.length (by omega)
    by_cases h2:(q.steps.length:Int)=zBN .i64 ((q.keys.length:Int) - 1)
    ·cases h3:difB q.keys t.heard.length with
     |false=>
      have e0:t.scales.all (zBX t.heard.length)=false:=zCl hq (by unfold zBX;rw[h3];simp)
      rw[e0]
      rw[h3]at q101
      refine kQ (zf rfl rfl rfl (zA (k_seq (k_cT rfl (decide_eq_true (by omega)) (zQ (k_seq (zN (kQ ?_))))))))
      refine zq (u:=(q).u) rfl ty23 rfl rfl (Int.natCast_nonneg _) (by simp[hq]) cl61 ?_
      refine zo rfl rfl sh61 rfl ?_
      refine zT rfl ze61 ?_
      refine zJ rfl (zX _ _) sh61 rfl rfl rfl rfl rfl ?_
      refine zA ?_
      refine zK [(1,U.box 0 0),(4,U.box (List.length Y) 0),(12,.lst .ro 2 (yn t.scales)),(13,.int .i64 ↑(List.length t.scales)),(14,.int .i64 ↑n)] (Y++[SB.box [.lst .ro 1 (zO q.keys),.lst .ro 2 (zV q.steps)]]) (.c4 rfl rfl rfl rfl (.cons rfl (.nil rfl))) (yC _ _ _) fun fr=>?_
      refine k_seq (kQ (zE rfl rfl wZ (zF rfl rfl (zX _ _) sh22 rfl ?_)))
      refine zw rfl ty22 rfl (List.length_map _) ?_
      refine zE rfl rfl wP (zF rfl rfl (zX _ _) sh29 rfl ?_)
      refine zw rfl ty29 rfl (List.length_map _) ?_
      refine zET (v:=.int .i64 (zBN .i64 ((q.keys.length:Int) - 1))) rfl rfl rfl rfl rfl ?_
      refine zAd rfl rfl rfl (zB rfl ?_)
      refine yR [(1,U.box 0 0),(4,U.box (List.length Y) 0),(12,.lst .ro 2 (yn t.scales)),(13,.int .i64 ↑(List.length t.scales)),(14,.int .i64 ↑n),(26,U.bool (decide (↑(List.length q.steps)≠zBN .i64 (↑(List.length q.keys) - (1:Int)))))] [] (Y++[SB.box [.lst .ro 1 (zO q.keys),.lst .ro 2 (zV q.steps)]]) (.c4 rfl rfl rfl rfl (.cons rfl (.cons rfl (.nil rfl)))) rfl rfl fun fr=>?_
      refine o_gD rfl rfl rfl rfl (decide_eq_false (by omega)) ?_
      refine yR [(1,U.box 0 0),(4,U.box (List.length Y) 0),(12,.lst .ro 2 (yn t.scales)),(13,.int .i64 ↑(List.length t.scales)),(14,.int .i64 ↑n),(26,U.bool (decide (↑(List.length q.steps)≠zBN .i64 (↑(List.length q.keys) - (1:Int)))))] [] (Y++[SB.box [.lst .ro 1 (zO q.keys),.lst .ro 2 (zV q.steps)]]) (.c4 rfl rfl rfl rfl (.cons rfl (.cons rfl (.nil rfl)))) rfl rfl fun fr=>?_
      refine zE rfl rfl wP (o_gD rfl rfl rfl rfl (decide_eq_false (by omega)) (zF rfl rfl (zX _ _) sh29 rfl ?_))
      refine o_gD rfl rfl rfl rfl (decide_eq_false (by omega)) (zE rfl rfl yG (o_gD rfl rfl rfl rfl (decide_eq_false (by omega)) (zF rfl rfl (zg hY0) sh22 rfl ?_)))
      refine o_gD rfl rfl rfl rfl (decide_eq_false (by omega)) (zw rfl ty22 rfl (List.length_map _) ?_)
      refine o_gD rfl rfl rfl rfl (decide_eq_false (by omega)) (zP rfl (q101) (.lrefl _) (o_gD rfl rfl rfl rfl (decide_eq_false (by omega)) (wS rfl rfl (zh rfl rfl (decide_eq_false (by omega)) ?_))))
      refine zA ?_
      refine zK [(1,U.box 0 0),(4,U.box (List.length Y) 0),(12,.lst .ro 2 (yn t.scales)),(13,.int .i64 ↑(List.length t.scales)),(14,.int .i64 ↑n),(27,U.box (List.length Y) 0),(28,.lst .ro 1 (zO q.keys)),(29,U.box 0 0),(30,.lst .ro 2 (zV t.heard)),(31,.int .i64 ↑t.heard.length),(32,.bool false),(33,U.bool !Bool.false),(34,U.bool !Bool.false)] (Y++[SB.box [.lst .ro 1 (zO q.keys),.lst .ro 2 (zV q.steps)]]) (.c4 rfl rfl rfl rfl (.c4 rfl rfl rfl rfl (.c4 rfl rfl rfl rfl (.cons rfl (.nil rfl))))) rfl fun fr=>?_
      refine k_cT rfl rfl ?_
      refine kQ (zC rfl (zA (zb ?_)))
      refine⟨.inr rfl,_,.cons _ _ _ _ (.tmp 2) .nil,?_⟩
      exact .refl _
     |true=>
      have h4:=of_decide_eq_true h3
      have hl8:q.keys.length≤8:=zDa 8 _ h4.1 fun x hx=>by have:=h4.2 x hx;omega
      rw[h3]at q101
      have hw:zBN .i64 ((q.keys.length:Int) - 1)=(q.keys.length:Int) - 1:=zFW (by unfold I64;omega)
      have hl7:q.steps.length≤7:=by omega
      refine kQ (zf rfl rfl rfl (zA (k_seq (k_cT rfl (decide_eq_true (by omega)) (zQ (k_seq (zN (kQ ?_))))))))
      refine zq (u:=(q).u) rfl ty23 rfl rfl (Int.natCast_nonneg _) (by simp[hq]) cl61 ?_
      refine zo rfl rfl sh61 rfl ?_
      refine zT rfl ze61 ?_
      refine zJ rfl (zX _ _) sh61 rfl rfl rfl rfl rfl ?_
      refine zA ?_
      refine zK [(1,U.box 0 0),(4,U.box (List.length Y) 0),(12,.lst .ro 2 (yn t.scales)),(13,.int .i64 ↑(List.length t.scales)),(14,.int .i64 ↑n)] (Y++[SB.box [.lst .ro 1 (zO q.keys),.lst .ro 2 (zV q.steps)]]) (.c4 rfl rfl rfl rfl (.cons rfl (.nil rfl))) (yC _ _ _) fun fr=>?_
      refine k_seq (kQ (zE rfl rfl wZ (zF rfl rfl (zX _ _) sh22 rfl ?_)))
      refine zw rfl ty22 rfl (List.length_map _) ?_
      refine zE rfl rfl wP (zF rfl rfl (zX _ _) sh29 rfl ?_)
      refine zw rfl ty29 rfl (List.length_map _) ?_
      refine zET (v:=.int .i64 (zBN .i64 ((q.keys.length:Int) - 1))) rfl rfl rfl rfl rfl ?_
      refine zAd rfl rfl rfl (zB rfl ?_)
      refine yR [(1,U.box 0 0),(4,U.box (List.length Y) 0),(12,.lst .ro 2 (yn t.scales)),(13,.int .i64 ↑(List.length t.scales)),(14,.int .i64 ↑n),(26,U.bool (decide (↑(List.length q.steps)≠zBN .i64 (↑(List.length q.keys) - (1:Int)))))] [] (Y++[SB.box [.lst .ro 1 (zO q.keys),.lst .ro 2 (zV q.steps)]]) (.c4 rfl rfl rfl rfl (.cons rfl (.cons rfl (.nil rfl)))) rfl rfl fun fr=>?_
      refine o_gD rfl rfl rfl rfl (decide_eq_false (by omega)) ?_
      refine yR [(1,U.box 0 0),(4,U.box (List.length Y) 0),(12,.lst .ro 2 (yn t.scales)),(13,.int .i64 ↑(List.length t.scales)),(14,.int .i64 ↑n),(26,U.bool (decide (↑(List.length q.steps)≠zBN .i64 (↑(List.length q.keys) - (1:Int)))))] [] (Y++[SB.box [.lst .ro 1 (zO q.keys),.lst .ro 2 (zV q.steps)]]) (.c4 rfl rfl rfl rfl (.cons rfl (.cons rfl (.nil rfl)))) rfl rfl fun fr=>?_
      refine zE rfl rfl wP (o_gD rfl rfl rfl rfl (decide_eq_false (by omega)) (zF rfl rfl (zX _ _) sh29 rfl ?_))
      refine o_gD rfl rfl rfl rfl (decide_eq_false (by omega)) (zE rfl rfl yG (o_gD rfl rfl rfl rfl (decide_eq_false (by omega)) (zF rfl rfl (zg hY0) sh22 rfl ?_)))
      refine o_gD rfl rfl rfl rfl (decide_eq_false (by omega)) (zw rfl ty22 rfl (List.length_map _) ?_)
      refine o_gD rfl rfl rfl rfl (decide_eq_false (by omega)) (zP rfl (q101) (.lrefl _) (o_gD rfl rfl rfl rfl (decide_eq_false (by omega)) (wS rfl rfl (zh rfl rfl (decide_eq_false (by omega)) ?_))))
      refine zA ?_
      refine zK [(1,U.box 0 0),(4,U.box (List.length Y) 0),(12,.lst .ro 2 (yn t.scales)),(13,.int .i64 ↑(List.length t.scales)),(14,.int .i64 ↑n),(27,U.box (List.length Y) 0),(28,.lst .ro 1 (zO q.keys)),(29,U.box 0 0),(30,.lst .ro 2 (zV t.heard)),(31,.int .i64 ↑t.heard.length),(32,.bool true),(33,U.bool !Bool.true),(34,U.bool !Bool.true)] (Y++[SB.box [.lst .ro 1 (zO q.keys),.lst .ro 2 (zV q.steps)]]) (.c4 rfl rfl rfl rfl (.c4 rfl rfl rfl rfl (.c4 rfl rfl rfl rfl (.cons rfl (.nil rfl))))) rfl fun fr=>?_
      refine k_cF rfl rfl ?_
      refine zQ (kQ (zE rfl rfl wZ (zF rfl rfl (zX _ _) sh22 rfl ?_)))
      refine zw rfl ty22 rfl (List.length_map _) ?_
      refine zB rfl (zA (zN ?_))
      refine yg (fun k2 st=>∃(m:Nat) (e2:List SB),k2+m=q.steps.length∧(q.steps.take m).all stepB=true∧st.st=Y++e2∧Holds st [(1,.box 0 0),(12,.lst .ro 2 (yn t.scales)),(13,.int .i64 t.scales.length),(14,.int .i64 n),(36,.lst .ro 2 (zV q.steps)),(37,.int .i64 q.steps.length),(38,.int .i64 m)]) (fun k2 st2 hI2=>?_) q.steps.length _ ?_
      ·obtain⟨m,e2,hk2,hall2,hst2,hs2⟩:=hI2
       generalize hZ:Y++e2=Z at hst2
       refine zK _ _ hs2 hst2 fun fr=>?_
       by_cases hm:m<q.steps.length
       ·obtain⟨x,hx⟩:∃x,q.steps[m]? =some x:=⟨q.steps[m],List.getElem?_eq_getElem hm⟩
        have q85:=ret85 (orc:=orc) hi x.a x.b 200 5000
        cases hg:zFE x.a x.b 200 5000 with
        |false=>
         have e1:q.steps.all stepB=false:=zCl hx hg
         have e0:t.scales.all (zBX t.heard.length)=false:=zCl hq (by unfold zBX;rw[e1];simp)
         rw[e0]
         rw[hg]at q85
         refine kQ (zf rfl rfl rfl (zA (k_seq (k_cT rfl (decide_eq_true (by omega)) (zQ (k_seq (zN (kQ ?_))))))))
         refine zq (u:=(x).u) rfl ty22 rfl rfl (Int.natCast_nonneg _) (by simp[hx]) cl26 ?_
         refine zo rfl rfl sh26 rfl ?_
         refine zT rfl ze26 ?_
         refine zJ rfl (zX _ _) sh26 rfl rfl rfl rfl rfl ?_
         refine zA ?_
         refine zK [(1,U.box 0 0),(6,U.box (List.length Z) 0),(12,.lst .ro 2 (yn t.scales)),(13,.int .i64 ↑(List.length t.scales)),(14,.int .i64 ↑n),(36,.lst .ro 2 (zV q.steps)),(37,.int .i64 ↑(List.length q.steps)),(38,.int .i64 ↑m)] (Z++[SB.box [.int .i64 x.a,.int .i64 x.b]]) (.c4 rfl rfl rfl rfl (.c4 rfl rfl rfl rfl (.nil rfl))) (yC _ _ _) fun fr=>?_
         refine kQ (zH rfl rfl (zX _ _) sh26 rfl ?_)
         refine zP rfl (q85) (.lrefl _) (wS rfl rfl (zA (k_cT rfl rfl ?_)))
         refine kQ (zC rfl (zA (zb ?_)))
         refine⟨.inr rfl,_,.cons _ _ _ _ (.tmp 2) .nil,?_⟩
         exact .refl _
        |true=>
         rw[hg]at q85
         refine kQ (zf rfl rfl rfl (zA (k_seq (k_cT rfl (decide_eq_true (by omega)) (zQ (k_seq (zN (kQ ?_))))))))
         refine zq (u:=(x).u) rfl ty22 rfl rfl (Int.natCast_nonneg _) (by simp[hx]) cl26 ?_
         refine zo rfl rfl sh26 rfl ?_
         refine zT rfl ze26 ?_
         refine zJ rfl (zX _ _) sh26 rfl rfl rfl rfl rfl ?_
         refine zA ?_
         refine zK [(1,U.box 0 0),(6,U.box (List.length Z) 0),(12,.lst .ro 2 (yn t.scales)),(13,.int .i64 ↑(List.length t.scales)),(14,.int .i64 ↑n),(36,.lst .ro 2 (zV q.steps)),(37,.int .i64 ↑(List.length q.steps)),(38,.int .i64 ↑m)] (Z++[SB.box [.int .i64 x.a,.int .i64 x.b]]) (.c4 rfl rfl rfl rfl (.c4 rfl rfl rfl rfl (.nil rfl))) (yC _ _ _) fun fr=>?_
         refine kQ (zH rfl rfl (zX _ _) sh26 rfl ?_)
         refine zP rfl (q85) (.lrefl _) (wS rfl rfl (zA (k_cF rfl rfl ?_)))
         refine zQ (k_region ?_)
         refine yT rfl rfl rfl (by unfold I64;omega) (zB rfl (zA ?_))
         exact⟨k2 - 1,by omega,m+1,e2++[_],by omega,zEn hx hall2 hg,by rw[←List.append_assoc,hZ];rfl,.c4 rfl rfl rfl rfl (.cons rfl (.cons rfl (.cons rfl (.nil rfl))))⟩
       ·have hm:m=q.steps.length:=by omega
        subst hm
        rw[List.take_length]at hall2
        have hsc:zBX t.heard.length q=true:=by unfold zBX;rw[decide_eq_true h2,h3,hall2];rfl
        refine kQ (zf rfl rfl rfl (zA (k_seq (k_cF rfl (decide_eq_false (by omega)) (yO (k_region ?_))))))
        refine yT rfl rfl rfl (by unfold I64;omega) (zB rfl (zA ?_))
        exact⟨k - 1,by omega,n+1,e++e2,by omega,zEn hq hall hsc,(by show Z=_;rw[←List.append_assoc,hY,hZ]),.c4 rfl rfl rfl rfl (.nil rfl)⟩
      ·exact⟨0,[_],rfl,rfl,rfl,.c4 rfl rfl rfl rfl (.cons rfl (.cons rfl (.cons rfl (.nil rfl))))⟩
    ·have e0:t.scales.all (zBX t.heard.length)=false:=zCl hq (by unfold zBX;rw[decide_eq_false h2];simp)
     rw[e0]
     refine kQ (zf rfl rfl rfl (zA (k_seq (k_cT rfl (decide_eq_true (by omega)) (zQ (k_seq (zN (kQ ?_))))))))
     refine zq (u:=(q).u) rfl ty23 rfl rfl (Int.natCast_nonneg _) (by simp[hq]) cl61 ?_
     refine zo rfl rfl sh61 rfl ?_
     refine zT rfl ze61 ?_
     refine zJ rfl (zX _ _) sh61 rfl rfl rfl rfl rfl ?_
     refine zA ?_
     refine zK [(1,U.box 0 0),(4,U.box (List.length Y) 0),(12,.lst .ro 2 (yn t.scales)),(13,.int .i64 ↑(List.length t.scales)),(14,.int .i64 ↑n)] (Y++[SB.box [.lst .ro 1 (zO q.keys),.lst .ro 2 (zV q.steps)]]) (.c4 rfl rfl rfl rfl (.cons rfl (.nil rfl))) (yC _ _ _) fun fr=>?_
     refine k_seq (kQ (zE rfl rfl wZ (zF rfl rfl (zX _ _) sh22 rfl ?_)))
     refine zw rfl ty22 rfl (List.length_map _) ?_
     refine zE rfl rfl wP (zF rfl rfl (zX _ _) sh29 rfl ?_)
     refine zw rfl ty29 rfl (List.length_map _) ?_
     refine zET (v:=.int .i64 (zBN .i64 ((q.keys.length:Int) - 1))) rfl rfl rfl rfl rfl ?_
     refine zAd rfl rfl rfl (zB rfl ?_)
     refine yR [(1,U.box 0 0),(4,U.box (List.length Y) 0),(12,.lst .ro 2 (yn t.scales)),(13,.int .i64 ↑(List.length t.scales)),(14,.int .i64 ↑n),(26,U.bool (decide (↑(List.length q.steps)≠zBN .i64 (↑(List.length q.keys) - (1:Int)))))] [] (Y++[SB.box [.lst .ro 1 (zO q.keys),.lst .ro 2 (zV q.steps)]]) (.c4 rfl rfl rfl rfl (.cons rfl (.cons rfl (.nil rfl)))) rfl rfl fun fr=>?_
     refine o_gS rfl rfl rfl rfl (decide_eq_true (by omega)) (o_gS rfl rfl rfl rfl (decide_eq_true (by omega)) (o_gS rfl rfl rfl rfl (decide_eq_true (by omega)) (o_gS rfl rfl rfl rfl (decide_eq_true (by omega)) (o_gS rfl rfl rfl rfl (decide_eq_true (by omega)) (o_gS rfl rfl rfl rfl (decide_eq_true (by omega)) (o_gS rfl rfl rfl rfl (decide_eq_true (by omega)) (zd rfl rfl (decide_eq_true (by omega)) ?_)))))))
     refine zA ?_
     refine zK [(1,U.box 0 0),(4,U.box (List.length Y) 0),(12,.lst .ro 2 (yn t.scales)),(13,.int .i64 ↑(List.length t.scales)),(14,.int .i64 ↑n),(27,U.tup []),(28,U.tup []),(29,U.tup []),(30,U.tup []),(31,U.tup []),(32,U.tup []),(33,U.tup []),(34,.bool true)] (Y++[SB.box [.lst .ro 1 (zO q.keys),.lst .ro 2 (zV q.steps)]]) (.c4 rfl rfl rfl rfl (.c4 rfl rfl rfl rfl (.c4 rfl rfl rfl rfl (.cons rfl (.nil rfl))))) rfl fun fr=>?_
     refine k_cT rfl rfl ?_
     refine kQ (zC rfl (zA (zb ?_)))
     refine⟨.inr rfl,_,.cons _ _ _ _ (.tmp 2) .nil,?_⟩
     exact .refl _
   ·have hn:n=t.scales.length:=by omega
    subst hn
    rw[List.take_length]at hall
    rw[hall]
    refine kQ (zf rfl rfl rfl (zA (k_seq (k_cF rfl (decide_eq_false (by omega)) (yO (kQ (zC rfl (zA ?_))))))))
    refine zb ?_
    refine⟨.inr rfl,_,.cons _ _ _ _ (.tmp 2) .nil,?_⟩
    exact .refl _
  ·exact⟨0,[],rfl,rfl,rfl,.c4 rfl rfl rfl rfl (.nil rfl)⟩
theorem ty48:tyOf Try.prog 48=.array 2 3:=by kernel_rfl
set_option maxHeartbeats 8000000 in
theorem ret84(hi:Off is)(t:Ts)(hn8:t.heard.length≤8):RetP Try.prog is orc 84 [t.u] (.bool (decide (t.pairs.length≤4)&&t.pairs.all fun q=>difB [q.a,q.b] t.heard.length)):=by
 refine yE body84 pure84 (hi 84 (by decide)) rfl rfl (zAh (zAg t 4)) (.inl (.bool _ _)) ?_
 by_cases h1:t.pairs.length > 4
 ·rw[show decide (t.pairs.length≤4)=false from decide_eq_false (by omega),Bool.false_and]
  refine kQ (yA rfl rfl (zC rfl (zA ?_)))
  refine zK [(1,U.box 0 0)] ([SB.box t.cs]) (.cons rfl (.nil rfl)) rfl fun fr=>?_
  refine k_seq (kQ (zE rfl rfl wE (zF rfl rfl rfl sh24 rfl (zw rfl ty24 rfl (List.length_map _) ?_))))
  refine zHY rfl rfl rfl (zA (k_cT rfl (decide_eq_true (by omega)) (kQ (zC rfl (zA (zb ?_))))))
  refine⟨.inr rfl,_,.cons _ _ _ _ (.tmp 2) .nil,?_⟩
  exact .refl _
 ·rw[show decide (t.pairs.length≤4)=true from decide_eq_true (by omega),Bool.true_and]
  refine kQ (yA rfl rfl (zC rfl (zA ?_)))
  refine zK [(1,U.box 0 0)] ([SB.box t.cs]) (.cons rfl (.nil rfl)) rfl fun fr=>?_
  refine k_seq (kQ (zE rfl rfl wE (zF rfl rfl rfl sh24 rfl (zw rfl ty24 rfl (List.length_map _) ?_))))
  refine zHY rfl rfl rfl (zA (k_cF rfl (decide_eq_false (by omega)) (zQ (k_seq (kQ (zE rfl rfl wE (zF rfl rfl rfl sh24 rfl (zw rfl ty24 rfl (List.length_map _) ?_))))))))
  refine zB rfl (zA (zN ?_))
  refine yg (fun k st=>∃(n:Nat) (e:List SB),k+n=t.pairs.length∧((t.pairs.take n).all fun q=>difB [q.a,q.b] t.heard.length)=true∧st.st=[.box t.cs]++e∧Holds st [(1,.box 0 0),(10,.lst .ro 2 (zV t.pairs)),(11,.int .i64 t.pairs.length),(12,.int .i64 n)]) (fun k st hI=>?_) t.pairs.length _ ?_
  ·obtain⟨n,e,hk,hall,hst,hs⟩:=hI
   generalize hY:[SB.box t.cs]++e=Y at hst
   have hY0:Y[0]? =some (SB.box t.cs):=by rw[←hY];rfl
   refine zK _ _ hs hst fun fr=>?_
   by_cases hn:n<t.pairs.length
   ·obtain⟨q,hq⟩:∃q,t.pairs[n]? =some q:=⟨t.pairs[n],List.getElem?_eq_getElem hn⟩
    have q101:=ret101 (orc:=orc) hi [q.a,q.b] t.heard.length (by omega)
    refine kQ (zf rfl rfl rfl (zA (k_seq (k_cT rfl (decide_eq_true (by omega)) (zQ (k_seq (zN (kQ ?_))))))))
    refine zq (u:=(q).u) rfl ty24 rfl rfl (Int.natCast_nonneg _) (by simp[hq]) cl48 ?_
    refine zo rfl rfl sh48 rfl ?_
    refine zT rfl ze48 ?_
    refine zJ rfl (zX _ _) sh48 rfl rfl rfl rfl rfl ?_
    refine zA ?_
    refine zK [(1,U.box 0 0),(4,U.box (List.length Y) 0),(10,.lst .ro 2 (zV t.pairs)),(11,.int .i64 ↑(List.length t.pairs)),(12,.int .i64 ↑n)] (Y++[SB.box [.int .i64 q.a,.int .i64 q.b]]) (.c4 rfl rfl rfl rfl (.cons rfl (.nil rfl))) (yC _ _ _) fun fr=>?_
    refine k_seq (yr [.plain,.plain,.plain,.plain,.plain,.plain] (by kernel_rfl) (by kernel_rfl) (by kernel_rfl) ?_)
    refine zD (o_sliceA (es:=zO [q.a,q.b]) (cs:=[.int .i64 q.a,.int .i64 q.b]) rfl ty48 cl3 rfl rfl (zX _ _) rfl (l1:=0) (h1:=2) (m1:=2) (by exact rfl) (by exact rfl) (by exact rfl) (.inl rfl) (by decide) (by decide) (by decide) rfl (by simp[zi]) rfl (zA rfl)) ?_
    refine wI [(1,.box 0 0),(10,.lst .ro 2 (zV t.pairs)),(11,.int .i64 t.pairs.length),(12,.int .i64 n),(16,.lst .ro 1 (zO [q.a,q.b]))] [] (Y++[.froz [.int .i64 q.a,.int .i64 q.b]]) (.c4 rfl rfl rfl rfl (.cons rfl (.nil rfl))) (by show(Y++[SB.box _]).set Y.length (SB.froz _)=_;exact yC _ _ _) rfl fun fr=>?_
    cases hd:difB [q.a,q.b] t.heard.length with
    |false=>
     rw[hd]at q101
     have e0:(t.pairs.all fun q=>difB [q.a,q.b] t.heard.length)=false:=zCl hq hd
     rw[e0]
     refine zD (zE rfl rfl yG (zA rfl)) ?_
     refine zD (zF rfl rfl (zg hY0) sh22 rfl (zA rfl)) ?_
     refine zD (zw rfl ty22 rfl (List.length_map _) (zA rfl)) ?_
     refine zD (zP rfl (q101) (.lrefl _) (zA rfl)) ?_
     refine zD (wS rfl rfl (zA rfl)) ?_
     refine wc ?_
     refine k_cT rfl rfl ?_
     refine kQ (zC rfl (zA (zb ?_)))
     refine⟨.inr rfl,_,.cons _ _ _ _ (.tmp 2) .nil,?_⟩
     exact .refl _
    |true=>
     rw[hd]at q101
     refine zD (zE rfl rfl yG (zA rfl)) ?_
     refine zD (zF rfl rfl (zg hY0) sh22 rfl (zA rfl)) ?_
     refine zD (zw rfl ty22 rfl (List.length_map _) (zA rfl)) ?_
     refine zD (zP rfl (q101) (.lrefl _) (zA rfl)) ?_
     refine zD (wS rfl rfl (zA rfl)) ?_
     refine wc ?_
     refine k_cF rfl rfl ?_
     refine zQ (k_region ?_)
     refine yT rfl rfl rfl (by unfold I64;omega) (zB rfl (zA ?_))
     exact⟨k - 1,by omega,n+1,e++[_],by omega,zEn hq hall hd,by rw[←List.append_assoc,hY];rfl,.c4 rfl rfl rfl rfl (.nil rfl)⟩
   ·have hn:n=t.pairs.length:=by omega
    subst hn
    rw[List.take_length]at hall
    rw[hall]
    refine kQ (zf rfl rfl rfl (zA (k_seq (k_cF rfl (decide_eq_false (by omega)) (yO (kQ (zC rfl (zA ?_))))))))
    refine zb ?_
    refine⟨.inr rfl,_,.cons _ _ _ _ (.tmp 2) .nil,?_⟩
    exact .refl _
  ·exact⟨0,[],rfl,rfl,rfl,.c4 rfl rfl rfl rfl (.nil rfl)⟩
end
section
variable {is:FuncId→Bool}{orc:Known}
theorem by72:Program.bytesOf Try.prog 72=40:=by kernel_rfl
theorem cl72:Program.cellsOf Try.prog 72=5:=by kernel_rfl
theorem zAD:yH Try.prog 28 3=some (3,26):=by kernel_rfl
theorem ty70:tyOf Try.prog 70=.slice 72:=by kernel_rfl
theorem zFU:AppT Try.prog 70 70 72 5 40 ((.cons (.int .i64 0) (.cons (.int .i64 0) (.cons (.int .i64 0) (.cons (.int .i64 0) (.cons (.int .i64 0) .nil))))):V):=⟨ty70,⟨_,ty70⟩,cl72,by decide,by72,ze72,rfl⟩
noncomputable def b51:Code:=(Try.f51.body).getD .skip
theorem body51:bodyOf Try.prog 51=some (62,b51,[.tmp 2]):=by kernel_rfl
theorem pure51:pureFn Try.prog 51=true:=by kernel_rfl
theorem zAc:shOf Try.prog 122=.many 8:=by kernel_rfl
noncomputable def b102:Code:=(Try.f102.body).getD .skip
theorem body102:bodyOf Try.prog 102=some (21,b102,[.cell 4 122]):=by kernel_rfl
theorem pure102:pureFn Try.prog 102=true:=by kernel_rfl
noncomputable def b103:Code:=(Try.f103.body).getD .skip
theorem body103:bodyOf Try.prog 103=some (21,b103,[.cell 4 122]):=by kernel_rfl
theorem pure103:pureFn Try.prog 103=true:=by kernel_rfl
def sclJ(q:Scl)(n:Nat):List Jn:=(List.range n).map fun i:Nat=>⟨0,(q.keys[i]?).getD 0,(q.keys[i+1]?).getD 0,((q.steps[i]?).map Two.a).getD 0,((q.steps[i]?).map Two.b).getD 0⟩
def zAT(l:List Scl):List Jn:=l.flatMap fun q=>sclJ q q.steps.length
def pairJ(t:Ts)(q:Two):Jn:=⟨2,q.a,q.b,t.lo,t.hi⟩
def zc(t:Ts):List Jn:=zAT t.scales++t.pairs.map (pairJ t)
theorem sclJ_succ{q:Scl}{n:Nat}{a b:Int}{s:Two}(h1:q.keys[n]? =some a)(h2:q.keys[n+1]? =some b)(h3:q.steps[n]? =some s):sclJ q (n+1)=sclJ q n++[⟨0,a,b,s.a,s.b⟩]:=by
 unfold sclJ
 rw[List.range_succ,List.map_append]
 simp[h1,h2,h3]
theorem scalesJ_take{l:List Scl}{n:Nat}{q:Scl}(h:l[n]? =some q):zAT (l.take (n+1))=zAT (l.take n)++sclJ q q.steps.length:=by
 unfold zAT
 rw[List.take_add_one,h,List.flatMap_append];simp
def accJ(l:List Jn):U:=match l with
 |[]=>.lst .full 0 []
 |l=>.lst .own 5 (jnsU l)
theorem zHR(x:Jn)(l:List Jn):accJ (l++[x])=.lst .own 5 (jnsU l++[x.u]):=by
 cases l with
 |nil=>rfl
 |cons y l=>show U.lst .own 5 (List.map Jn.u ((y::l)++[x]))=_;rw[List.map_append];rfl
theorem uw_accJ(l:List Jn):UW (.u (dg (accJ l))) (.u (.lst .ro 5 (jnsU l))):=by
 cases l with
 |nil=>exact .nil .full .ro 5
 |cons x l=>exact .refl _
theorem at_ps{l m:List SB}{i k:Nat}{x y:SB}(h:l[i]? =some x)(hk:l.length≤k):((l++m).set k y)[i]? =some x:=by
 have hi:=(List.getElem?_eq_some_iff.1 h).1
 rw[List.getElem?_set_ne (by omega),List.getElem?_append_left hi,h]
structure Sh(t:Ts):Prop where
 ns:t.scales.length≤2
 np:t.pairs.length≤4
 sc:∀q∈t.scales,q.steps.length+1=q.keys.length∧q.keys.length≤8
theorem sclJ_len(q:Scl)(n:Nat):(sclJ q n).length=n:=by unfold sclJ;simp
theorem zGY(l:List Scl)(h:∀q∈l,q.steps.length≤7):(zAT l).length≤7*l.length:=by
 induction l with
 |nil=>exact Nat.le_refl 0
 |cons q l ih=>
  have h1:=ih fun x hx=>h x (List.mem_cons_of_mem _ hx)
  have h2:=h q List.mem_cons_self
  unfold zAT at*
  rw[List.flatMap_cons,List.length_append,sclJ_len,List.length_cons]
  omega
theorem grow{t:Ts}{Y e e2:List SB}(h:[SB.box t.cs]++e=Y):Y++e2=[SB.box t.cs]++(e++e2):=by rw[←h,List.append_assoc]
set_option maxHeartbeats 8000000 in
theorem ret51(hi:Off is){t:Ts}(h:Sh t):RetP Try.prog is orc 51 [t.u] (.lst .ro 5 (jnsU (zc t))):=by
 have hns:=h.ns
 have hnp:=h.np
 have hsl:∀n,(zAT (t.scales.take n)).length≤14:=fun n=>by
  have:=zGY (t.scales.take n) fun q hq=>by have:=h.sc q (List.mem_of_mem_take hq);omega
  rw[List.length_take]at this
  omega
 refine yE body51 pure51 (hi 51 (by decide)) rfl rfl (zAh (zAg t 4)) (.inl (dat_jns _ .ro (fun h=>by cases h) 6)) ?_
 refine kQ (yA rfl rfl (zC rfl (zA ?_)))
 refine zK [(1,U.box 0 0)] ([SB.box t.cs]) (.cons rfl (.nil rfl)) rfl fun fr=>?_
 refine kQ (zC rfl (zA (k_seq (kQ (zE rfl rfl yl (zF rfl rfl rfl sh23 rfl (zw rfl ty23 rfl (List.length_map _) ?_)))))))
 refine zB rfl (zA (zN ?_))
 refine yg (fun k st=>∃(n:Nat),k+n=t.scales.length∧(∃e,st.st=[.box t.cs]++e)∧Holds st [(1,.box 0 0),(3,accJ (zAT (t.scales.take n))),(11,.lst .ro 2 (yn t.scales)),(12,.int .i64 t.scales.length),(13,.int .i64 n)]) (fun k st hI=>?_) t.scales.length _ ?_
 ·obtain⟨n,hk,⟨e,hst⟩,hs⟩:=hI
  generalize hY:[SB.box t.cs]++e=Y at hst
  have hY0:Y[0]? =some (SB.box t.cs):=by rw[←hY];rfl
  refine zK _ _ hs hst fun fr=>?_
  by_cases hn:n<t.scales.length
  ·obtain⟨q,hq⟩:∃q,t.scales[n]? =some q:=⟨t.scales[n],List.getElem?_eq_getElem hn⟩
   have hqs:=h.sc q (List.mem_of_getElem? hq)
   obtain⟨L,hL⟩:∃L,L=zAT (t.scales.take n):=⟨_,rfl⟩
   have hLl:=hsl n
   rw[←hL]at hLl
   rw[←hL]
   refine kQ (zf rfl rfl rfl (zA (k_seq (k_cT rfl (decide_eq_true (by omega)) (zQ (k_seq (zN (kQ ?_))))))))
   refine zq (u:=(q).u) rfl ty23 rfl rfl (Int.natCast_nonneg _) (by simp[hq]) cl61 ?_
   refine zo rfl rfl sh61 rfl ?_
   refine zT rfl ze61 ?_
   refine zJ rfl (zX _ _) sh61 rfl rfl rfl rfl rfl ?_
   refine zA ?_
   refine zK [(1,U.box 0 0),(3,accJ L),(5,U.box (List.length Y) 0),(11,.lst .ro 2 (yn t.scales)),(12,.int .i64 ↑(List.length t.scales)),(13,.int .i64 ↑n)] (Y++[SB.box [.lst .ro 1 (zO q.keys),.lst .ro 2 (zV q.steps)]]) (.c4 rfl rfl rfl rfl (.cons rfl (.cons rfl (.nil rfl)))) (yC _ _ _) fun fr=>?_
   refine kQ (zE rfl rfl wZ (zF rfl rfl (zX _ _) sh22 rfl ?_))
   refine zw rfl ty22 rfl (List.length_map _) ?_
   refine zB rfl (zA (zN ?_))
   refine yg (fun k2 st=>∃(m:Nat),k2+m=q.steps.length∧(∃e2,st.st=(Y++[.box [.lst .ro 1 (zO q.keys),.lst .ro 2 (zV q.steps)]])++e2)∧Holds st [(1,.box 0 0),(3,accJ (L++sclJ q m)),(5,.box Y.length 0),(11,.lst .ro 2 (yn t.scales)),(12,.int .i64 t.scales.length),(13,.int .i64 n),(18,.lst .ro 2 (zV q.steps)),(19,.int .i64 q.steps.length),(20,.int .i64 m)]) (fun k2 st2 hI2=>?_) q.steps.length _ ?_
   ·obtain⟨m,hk2,⟨e2,hst2⟩,hs2⟩:=hI2
    generalize hZ:(Y++[SB.box [.lst .ro 1 (zO q.keys),.lst .ro 2 (zV q.steps)]])++e2=Z at hst2
    have hZ0:Z[Y.length]? =some (SB.box [.lst .ro 1 (zO q.keys),.lst .ro 2 (zV q.steps)]):=by rw[←hZ];exact zg (zX _ _)
    refine zK _ _ hs2 hst2 fun fr=>?_
    by_cases hm:m<q.steps.length
    ·obtain⟨x,hx⟩:∃x,q.steps[m]? =some x:=⟨q.steps[m],List.getElem?_eq_getElem hm⟩
     obtain⟨a,ha⟩:∃a,q.keys[m]? =some a:=⟨q.keys[m]'(by omega),List.getElem?_eq_getElem (by omega)⟩
     obtain⟨b,hb⟩:∃b,q.keys[m+1]? =some b:=⟨q.keys[m+1]'(by omega),List.getElem?_eq_getElem (by omega)⟩
     have hsu:=sclJ_succ ha hb hx
     have hll:(L++sclJ q m).length≤21:=by rw[List.length_append,sclJ_len];omega
     obtain⟨M,hM⟩:∃M,M=L++sclJ q m:=⟨_,rfl⟩
     have hsM:L++sclJ q (m+1)=M++[⟨0,a,b,x.a,x.b⟩]:=by rw[hsu,←List.append_assoc,←hM]
     rw[←hM]at hll
     rw[←hM]
     cases M with
     |nil=>
      refine kQ (zf rfl rfl rfl (zA (k_seq (k_cT rfl (decide_eq_true (by omega)) (zQ (k_seq (zN (kQ ?_))))))))
      refine zB rfl (zq (u:=(x).u) rfl ty22 rfl rfl (Int.natCast_nonneg _) (by simp[hx]) cl26 ?_)
      refine zo rfl rfl sh26 rfl ?_
      refine zT rfl ze26 ?_
      refine zC rfl (zJ rfl (zX _ _) sh26 rfl rfl rfl rfl rfl ?_)
      refine zA ?_
      refine zK [(1,U.box 0 0),(3,accJ []),(5,U.box (List.length Y) 0),(6,.int .i64 ↑m),(7,U.box (List.length Z) 0),(11,.lst .ro 2 (yn t.scales)),(12,.int .i64 ↑(List.length t.scales)),(13,.int .i64 ↑n),(18,.lst .ro 2 (zV q.steps)),(19,.int .i64 ↑(List.length q.steps)),(20,.int .i64 ↑m)] (Z++[SB.box [.int .i64 x.a,.int .i64 x.b]]) (.c4 rfl rfl rfl rfl (.c4 rfl rfl rfl rfl (.cons rfl (.cons rfl (.cons rfl (.nil rfl)))))) (yC _ _ _) fun fr=>?_
      refine yr [.plain,.plain,.read true,.plain,.plain,.read true,.plain,.read true,.plain,.plain,.plain,.read true,.read true,.plain,.plain,.plain,.plain] (by kernel_rfl) (by kernel_rfl) (by kernel_rfl) ?_
      refine zD (zB rfl (zA rfl)) (zD (zE rfl rfl wP (zA rfl)) ?_)
      refine zS rfl (zF rfl rfl (zg hZ0) sh29 rfl (zA rfl)) ?_
      refine zD (zB rfl (zA rfl)) (zD (zq (u:=.int .i64 (a)) rfl ty29 rfl rfl (Int.natCast_nonneg _) (by simp[ha]) cl3 (zA rfl)) ?_)
      refine zS rfl (zW rfl rfl sh3 rfl (zA rfl)) ?_
      refine zD (zE rfl rfl wP (zA rfl)) ?_
      refine zS rfl (zF rfl rfl (zg hZ0) sh29 rfl (zA rfl)) ?_
      refine zD (zB rfl (zA rfl)) ?_
      refine wI [(1,U.box 0 0),(5,U.box (List.length Y) 0),(7,U.box (List.length Z) 0),(11,.lst .ro 2 (yn t.scales)),(12,.int .i64 ↑(List.length t.scales)),(13,.int .i64 ↑n),(18,.lst .ro 2 (zV q.steps)),(19,.int .i64 ↑(List.length q.steps)),(20,.int .i64 ↑m),(25,.lst .full 0 []),(30,.int .i64 a),(32,.lst .ro 1 (zO q.keys)),(33,.int .i64 ↑m)] [] (Z++[SB.box [.int .i64 x.a,.int .i64 x.b]]) (.c4 rfl rfl rfl rfl (.c4 rfl rfl rfl rfl (.c4 rfl rfl rfl rfl (.cons rfl (.nil rfl))))) rfl rfl fun fr=>?_
      refine zD (yT rfl rfl rfl (by unfold I64;omega) (zA rfl)) ?_
      refine zD (zq (u:=.int .i64 (b)) rfl ty29 rfl rfl (Int.natCast_nonneg _) (by simp[hb]) cl3 (zA rfl)) ?_
      refine zS rfl (zW rfl rfl sh3 rfl (zA rfl)) ?_
      refine zS rfl (zH rfl rfl (zX _ _) sh26 rfl (zA rfl)) ?_
      refine zD (yK rfl ze72 pl72 rfl rfl (zA rfl)) ?_
      refine zD (zBA (es:=[U.agg [.int .i64 0,.int .i64 a,.int .i64 b,.int .i64 (Two.a x),.int .i64 (Two.b x)]]) rfl ty70 ze72 cl72 rfl rfl rfl rfl rfl rfl rfl rfl (zA rfl)) ?_
      refine zD (wu rfl zFU rfl rfl (by simp) (by simp) (by simp[zn,zi,oneU]) (by simp) (zA rfl)) ?_
      refine zD (zC rfl (zA rfl)) ?_
      refine wc ?_
      refine zK [(1,U.box 0 0),(3,U.lst Kd.own 5 [U.agg [.int .i64 0,.int .i64 a,.int .i64 b,.int .i64 x.a,.int .i64 x.b]]),(5,U.box (List.length Y) 0),(11,.lst .ro 2 (yn t.scales)),(12,.int .i64 ↑(List.length t.scales)),(13,.int .i64 ↑n),(18,.lst .ro 2 (zV q.steps)),(19,.int .i64 ↑(List.length q.steps)),(20,.int .i64 ↑m)] (Z++[SB.box [.int .i64 x.a,.int .i64 x.b]]) (.c4 rfl rfl rfl rfl (.c4 rfl rfl rfl rfl (.cons rfl (.nil rfl)))) rfl fun fr=>?_
      refine k_region ?_
      refine yT rfl rfl rfl (by unfold I64;omega) (zB rfl (zA ?_))
      exact⟨k2 - 1,by omega,m+1,by omega,⟨_,by show Z++_=_;rw[←hZ,List.append_assoc]⟩,.cons rfl (.cons (by rw[hsM];rfl) (.c4 rfl rfl rfl rfl (.cons rfl (.cons rfl (.cons rfl (.nil rfl))))))⟩
     |cons y M=>
      refine kQ (zf rfl rfl rfl (zA (k_seq (k_cT rfl (decide_eq_true (by omega)) (zQ (k_seq (zN (kQ ?_))))))))
      refine zB rfl (zq (u:=(x).u) rfl ty22 rfl rfl (Int.natCast_nonneg _) (by simp[hx]) cl26 ?_)
      refine zo rfl rfl sh26 rfl ?_
      refine zT rfl ze26 ?_
      refine zC rfl (zJ rfl (zX _ _) sh26 rfl rfl rfl rfl rfl ?_)
      refine zA (yr [.plain,.plain,.read true,.plain,.plain,.read true,.plain,.read true,.plain,.plain,.plain,.read true,.read true,.plain,.plain,.plain,.plain] (by kernel_rfl) (by kernel_rfl) (by kernel_rfl) ?_)
      refine zD (zB rfl (zA rfl)) (zD (zE rfl rfl wP (zA rfl)) ?_)
      refine zS rfl (zF rfl rfl (at_ps hZ0 (Nat.le_refl _)) sh29 rfl (zA rfl)) ?_
      refine zD (zB rfl (zA rfl)) (zD (zq (u:=.int .i64 (a)) rfl ty29 rfl rfl (Int.natCast_nonneg _) (by simp[ha]) cl3 (zA rfl)) ?_)
      refine zS rfl (zW rfl rfl sh3 rfl (zA rfl)) ?_
      refine zD (zE rfl rfl wP (zA rfl)) ?_
      refine zS rfl (zF rfl rfl (at_ps hZ0 (Nat.le_refl _)) sh29 rfl (zA rfl)) ?_
      refine zD (zB rfl (zA rfl)) ?_
      refine zD (yT rfl rfl rfl (by unfold I64;omega) (zA rfl)) ?_
      refine zD (zq (u:=.int .i64 (b)) rfl ty29 rfl rfl (Int.natCast_nonneg _) (by simp[hb]) cl3 (zA rfl)) ?_
      refine zS rfl (zW rfl rfl sh3 rfl (zA rfl)) ?_
      refine zS rfl (zH rfl rfl (zCw _ _ _) sh26 rfl (zA rfl)) ?_
      refine zD (yK rfl ze72 pl72 rfl rfl (zA rfl)) ?_
      refine zD (zBA (es:=[U.agg [.int .i64 0,.int .i64 a,.int .i64 b,.int .i64 (Two.a x),.int .i64 (Two.b x)]]) rfl ty70 ze72 cl72 rfl rfl rfl rfl rfl rfl rfl rfl (zA rfl)) ?_
      refine zD (zCH 3 rfl zFU rfl rfl rfl (by simp) (by simp) (by simp[zn,zi,oneU]) (by simp at hll ⊢;omega) (zA rfl)) ?_
      refine zD (zC rfl (zA rfl)) ?_
      refine wc ?_
      refine k_region ?_
      refine yT rfl rfl rfl (by unfold I64;omega) (zB rfl (zA ?_))
      exact⟨k2 - 1,by omega,m+1,by omega,⟨_,by show(Z++[_]).set Z.length _=_;rw[yC,←hZ,List.append_assoc]⟩,.cons rfl (.cons (by rw[hsM,zHR];rfl) (.c4 rfl rfl rfl rfl (.cons rfl (.cons rfl (.cons rfl (.nil rfl))))))⟩
    ·have hm:m=q.steps.length:=by omega
     subst hm
     have hts:=scalesJ_take hq
     rw[←hL]at hts
     refine kQ (zf rfl rfl rfl (zA (k_seq (k_cF rfl (decide_eq_false (by omega)) (yO (k_region ?_))))))
     refine yT rfl rfl rfl (by unfold I64;omega) (zB rfl (zA ?_))
     exact⟨k - 1,by omega,n+1,by omega,⟨_,by show Z=_;rw[←hZ,List.append_assoc];exact grow hY⟩,.cons rfl (.cons (congrArg accJ hts.symm) (.cons rfl (.cons rfl (.cons rfl (.nil rfl)))))⟩
   ·exact⟨0,rfl,⟨[],(List.append_nil _).symm⟩,.cons rfl (.cons (congrArg accJ (List.append_nil L).symm) (.c4 rfl rfl rfl rfl (.cons rfl (.cons rfl (.cons rfl (.nil rfl))))))⟩
  ·have hn:n=t.scales.length:=by omega
   subst hn
   rw[List.take_length]
   have hsl2:=hsl t.scales.length
   rw[List.take_length]at hsl2
   obtain⟨L,hL⟩:∃L,L=zAT t.scales:=⟨_,rfl⟩
   rw[←hL]at hsl2
   have hLJ:zc t=L++t.pairs.map (pairJ t):=by rw[hL];rfl
   rw[hLJ,←hL]
   refine kQ (zf rfl rfl rfl (zA (k_seq (k_cF rfl (decide_eq_false (by omega)) (yO (k_seq (kQ (zE rfl rfl wE ?_))))))))
   refine zF rfl rfl hY0 sh24 rfl ?_
   refine zw rfl ty24 rfl (List.length_map _) ?_
   refine zB rfl (zA (zN ?_))
   refine yg (fun k2 st=>∃(m:Nat),k2+m=t.pairs.length∧(∃e2,st.st=Y++e2)∧Holds st [(1,.box 0 0),(3,accJ (L++(t.pairs.take m).map (pairJ t))),(44,.lst .ro 2 (zV t.pairs)),(45,.int .i64 t.pairs.length),(46,.int .i64 m)]) (fun k2 st2 hI2=>?_) t.pairs.length _ ?_
   ·obtain⟨m,hk2,⟨e2,hst2⟩,hs2⟩:=hI2
    generalize hZ:Y++e2=Z at hst2
    have hZ0:Z[0]? =some (SB.box t.cs):=by rw[←hZ];exact zg hY0
    refine zK _ _ hs2 hst2 fun fr=>?_
    by_cases hm:m<t.pairs.length
    ·obtain⟨x,hx⟩:∃x,t.pairs[m]? =some x:=⟨t.pairs[m],List.getElem?_eq_getElem hm⟩
     have hll:(L++(t.pairs.take m).map (pairJ t)).length≤21:=by rw[List.length_append,List.length_map,List.length_take];omega
     obtain⟨M,hM⟩:∃M,M=L++(t.pairs.take m).map (pairJ t):=⟨_,rfl⟩
     have hsM:L++(t.pairs.take (m+1)).map (pairJ t)=M++[pairJ t x]:=by rw[List.take_add_one,hx,List.map_append,←List.append_assoc,←hM];rfl
     rw[←hM]at hll
     rw[←hM]
     cases M with
     |nil=>
      refine kQ (zf rfl rfl rfl (zA (k_seq (k_cT rfl (decide_eq_true (by omega)) (zQ (k_seq (zN (kQ ?_))))))))
      refine zq (u:=(x).u) rfl ty24 rfl rfl (Int.natCast_nonneg _) (by simp[hx]) cl48 ?_
      refine zo rfl rfl sh48 rfl ?_
      refine zT rfl ze48 ?_
      refine zJ rfl (zX _ _) sh48 rfl rfl rfl rfl rfl ?_
      refine zA (k_region (zB rfl (wC rfl ty48 rfl rfl (by omega) (by omega) cl3 ?_)))
      refine zF rfl rfl (zCw _ _ _) sh3 rfl ?_
      refine wC rfl ty48 rfl rfl (by omega) (by omega) cl3 ?_
      refine zF rfl rfl (zCw _ _ _) sh3 rfl ?_
      refine zE rfl rfl zAD (zH rfl rfl (at_ps hZ0 (Nat.le_refl _)) sh26 rfl ?_)
      refine yK rfl ze72 pl72 rfl rfl ?_
      refine zBA (es:=[U.agg [.int .i64 2,.int .i64 (Two.a x),.int .i64 (Two.b x),.int .i64 (Ts.lo t),.int .i64 (Ts.hi t)]]) rfl ty70 ze72 cl72 rfl rfl rfl rfl rfl rfl rfl rfl ?_
      refine wu rfl zFU rfl rfl (by simp) (by simp) (by simp[zn,zi,oneU]) (by simp) ?_
      refine zC rfl (zA (k_region ?_))
      refine yT rfl rfl rfl (by unfold I64;omega) (zB rfl (zA ?_))
      exact⟨k2 - 1,by omega,m+1,by omega,⟨_,by show(Z++[_]).set Z.length _=_;rw[yC,←hZ,List.append_assoc]⟩,.cons rfl (.cons (by rw[hsM];rfl) (.cons rfl (.cons rfl (.cons rfl (.nil rfl)))))⟩
     |cons y M=>
      refine kQ (zf rfl rfl rfl (zA (k_seq (k_cT rfl (decide_eq_true (by omega)) (zQ (k_seq (zN (kQ ?_))))))))
      refine zq (u:=(x).u) rfl ty24 rfl rfl (Int.natCast_nonneg _) (by simp[hx]) cl48 ?_
      refine zo rfl rfl sh48 rfl ?_
      refine zT rfl ze48 ?_
      refine zJ rfl (zX _ _) sh48 rfl rfl rfl rfl rfl ?_
      refine zA (k_region (zB rfl (wC rfl ty48 rfl rfl (by omega) (by omega) cl3 ?_)))
      refine zF rfl rfl (zCw _ _ _) sh3 rfl ?_
      refine wC rfl ty48 rfl rfl (by omega) (by omega) cl3 ?_
      refine zF rfl rfl (zCw _ _ _) sh3 rfl ?_
      refine zE rfl rfl zAD (zH rfl rfl (at_ps hZ0 (Nat.le_refl _)) sh26 rfl ?_)
      refine yK rfl ze72 pl72 rfl rfl ?_
      refine zBA (es:=[U.agg [.int .i64 2,.int .i64 (Two.a x),.int .i64 (Two.b x),.int .i64 (Ts.lo t),.int .i64 (Ts.hi t)]]) rfl ty70 ze72 cl72 rfl rfl rfl rfl rfl rfl rfl rfl ?_
      refine zCH 3 rfl zFU rfl rfl rfl (by simp) (by simp) (by simp[zn,zi,oneU]) (by simp at hll ⊢;omega) ?_
      refine zC rfl (zA (k_region ?_))
      refine yT rfl rfl rfl (by unfold I64;omega) (zB rfl (zA ?_))
      exact⟨k2 - 1,by omega,m+1,by omega,⟨_,by show(Z++[_]).set Z.length _=_;rw[yC,←hZ,List.append_assoc]⟩,.cons rfl (.cons (by rw[hsM,zHR];rfl) (.cons rfl (.cons rfl (.cons rfl (.nil rfl)))))⟩
    ·have hm:m=t.pairs.length:=by omega
     subst hm
     rw[List.take_length]
     refine kQ (zf rfl rfl rfl (zA (k_seq (k_cF rfl (decide_eq_false (by omega)) (yO (kQ (zB rfl (zC rfl ?_))))))))
     refine zA (zb ?_)
     refine⟨.inr rfl,_,.cons _ _ _ _ (.tmp 2) .nil,?_⟩
     exact uw_accJ _
   ·exact⟨0,rfl,⟨[],(List.append_nil _).symm⟩,.cons rfl (.cons (congrArg accJ (List.append_nil L).symm) (.cons rfl (.cons rfl (.cons rfl (.nil rfl)))))⟩
 ·exact⟨0,rfl,⟨[],rfl⟩,.c4 rfl rfl rfl rfl (.cons rfl (.nil rfl))⟩
end
end Go.Proofs.Ytinhcdijbcamaaa.tuneTrue
