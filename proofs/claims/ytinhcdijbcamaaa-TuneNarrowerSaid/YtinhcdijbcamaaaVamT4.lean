import Derived.Test.YtinhcdijbcamaaaVamT3
set_option linter.unusedVariables false
set_option linter.unusedSimpArgs false
set_option linter.constructorNameAsVariable false
namespace Go.Proofs.Ytinhcdijbcamaaa.tuneNarrower
open Vam
section
variable {is:FuncId→Bool}{orc:Known}
structure Scl where
 keys:List Int
 steps:List Two
abbrev Scl.u(q:Scl):U:=.agg [.lst .ro 1 (yc q.keys),.lst .ro 2 (zS q.steps)]
abbrev yg(l:List Scl):List U:=l.map Scl.u
theorem dat_scls(l:List Scl)(kd:Kd)(hk:kd≠.own)(k:Nat):Dat (k+3) (.lst kd 2 (yg l)):=by
 refine .lst _ _ _ _ hk fun c hc=>?_
 obtain⟨e,h1,h2⟩:=List.mem_flatMap.1 hc
 obtain⟨q,_,rfl⟩:=List.mem_map.1 h1
 simp only[zq,List.mem_cons,List.not_mem_nil,or_false]at h2
 rcases h2 with rfl|rfl
 ·exact dat_ints _ .ro (fun h=>by cases h) 1 _
 ·exact wS _ .ro (fun h=>by cases h) _
structure Ts where
 heard:List Two
 scales:List Scl
 pairs:List Two
 lo:Int
 hi:Int
abbrev Ts.cs(t:Ts):List U:=[.lst .ro 2 (zS t.heard),.lst .ro 2 (yg t.scales),.lst .ro 2 (zS t.pairs),.int .i64 t.lo,.int .i64 t.hi]
abbrev Ts.u(t:Ts):U:=.agg t.cs
theorem wC(t:Ts)(k:Nat):Dat (k+4) t.u:=.agg _ _ fun c hc=>by
 simp only[List.mem_cons,List.not_mem_nil,or_false]at hc
 rcases hc with rfl|rfl|rfl|rfl|rfl
 ·exact wS _ .ro (fun h=>by cases h) _
 ·exact dat_scls _ .ro (fun h=>by cases h) _
 ·exact wS _ .ro (fun h=>by cases h) _
 ·exact .int _ _ _
 ·exact .int _ _ _
def stepB(q:Two):Bool:=wl q.a q.b 200 5000
noncomputable def wA(n:Int)(q:Scl):Bool:=decide ((q.steps.length:Int)=wrapF .i64 ((q.keys.length:Int) - 1))&&difB q.keys n&&q.steps.all stepB
set_option maxHeartbeats 8000000 in
theorem ret83(hi:Off is)(t:Ts)(hn8:t.heard.length≤8):RetP Try.prog is orc 83 [t.u] (.bool (decide (t.scales.length≤2)&&t.scales.all (wA t.heard.length))):=by
 refine yQ body83 pure83 (hi 83 (by decide)) rfl rfl (y6 (wC t 4)) (.inl (.bool _ _)) ?_
 by_cases h1:t.scales.length > 2
 ·rw[show decide (t.scales.length≤2)=false from decide_eq_false (by omega),Bool.false_and]
  refine kQ (yH rfl rfl (zC rfl (zB ?_)))
  refine zM [(1,.box 0 0)] ([SB.box t.cs]) (.cons rfl (.nil rfl)) rfl fun fr=>?_
  refine k_seq (kQ (zG rfl rfl wP (zF rfl rfl rfl sh23 rfl (yZ rfl ty23 rfl (List.length_map _) ?_))))
  refine o_gtr rfl rfl rfl (zB (k_cT rfl (decide_eq_true (by omega)) (kQ (zC rfl (zB (ze ?_))))))
  refine⟨.inr rfl,_,.cons _ _ _ _ (.tmp 2) .nil,?_⟩
  exact .refl _
 ·rw[show decide (t.scales.length≤2)=true from decide_eq_true (by omega),Bool.true_and]
  refine kQ (yH rfl rfl (zC rfl (zB ?_)))
  refine zM [(1,.box 0 0)] ([SB.box t.cs]) (.cons rfl (.nil rfl)) rfl fun fr=>?_
  refine k_seq (kQ (zG rfl rfl wP (zF rfl rfl rfl sh23 rfl (yZ rfl ty23 rfl (List.length_map _) ?_))))
  refine o_gtr rfl rfl rfl (zB (k_cF rfl (decide_eq_false (by omega)) (zW (k_seq (kQ (zG rfl rfl wP (zF rfl rfl rfl sh23 rfl (yZ rfl ty23 rfl (List.length_map _) ?_))))))))
  refine zA rfl (zB (zP ?_))
  refine k_loop (fun k st=>∃(n:Nat) (e:List SB),k+n=t.scales.length∧(t.scales.take n).all (wA t.heard.length)=true∧st.st=[.box t.cs]++e∧Holds st [(1,.box 0 0),(12,.lst .ro 2 (yg t.scales)),(13,.int .i64 t.scales.length),(14,.int .i64 n)]) (fun k st hI=>?_) t.scales.length _ ?_
  ·obtain⟨n,e,hk,hall,hst,hs⟩:=hI
   generalize hY:[SB.box t.cs]++e=Y at hst
   have hY0:Y[0]? =some (SB.box t.cs):=by rw[←hY];rfl
   refine zM _ _ hs hst fun fr=>?_
   by_cases hn:n<t.scales.length
   ·obtain⟨q,hq⟩:∃q,t.scales[n]? =some q:=⟨t.scales[n],List.getElem?_eq_getElem hn⟩
    have q101:=ret101 (orc:=orc) hi q.keys t.heard.length (by omega)
    by_cases h2:(q.steps.length:Int)=wrapF .i64 ((q.keys.length:Int) - 1)
    ·cases h3:difB q.keys t.heard.length with
     |false=>
      have e0:t.scales.all (wA t.heard.length)=false:=wN hq (by unfold wA;rw[h3];simp)
      rw[e0]
      rw[h3]at q101
      refine kQ (zt rfl rfl rfl (zB (k_seq (k_cT rfl (decide_eq_true (by omega)) (zW (k_seq (zP (kQ ?_))))))))
      refine yr (u:=(q).u) rfl ty23 rfl rfl (Int.natCast_nonneg _) (by simp[hq]) cl61 ?_
      refine yC rfl rfl sh61 rfl ?_
      refine zV rfl ze61 ?_
      refine zN rfl (za _ _) sh61 rfl rfl rfl rfl rfl ?_
      refine zB ?_
      refine zM [(1,.box 0 0),(4,.box (List.length Y) 0),(12,.lst .ro 2 (yg t.scales)),(13,.int .i64 ↑(List.length t.scales)),(14,.int .i64 ↑n)] (Y++[SB.box [.lst .ro 1 (yc q.keys),.lst .ro 2 (zS q.steps)]]) (.c4 rfl rfl rfl rfl (.cons rfl (.nil rfl))) (yN _ _ _) fun fr=>?_
      refine k_seq (kQ (zG rfl rfl wW (zF rfl rfl (za _ _) sh22 rfl ?_)))
      refine yZ rfl ty22 rfl (List.length_map _) ?_
      refine zG rfl rfl yz (zF rfl rfl (za _ _) sh29 rfl ?_)
      refine yZ rfl ty29 rfl (List.length_map _) ?_
      refine o_int (v:=.int .i64 (wrapF .i64 ((q.keys.length:Int) - 1))) rfl rfl rfl rfl rfl ?_
      refine o_neq rfl rfl rfl (zA rfl ?_)
      refine zc [(1,.box 0 0),(4,.box (List.length Y) 0),(12,.lst .ro 2 (yg t.scales)),(13,.int .i64 ↑(List.length t.scales)),(14,.int .i64 ↑n),(26,.bool (decide (↑(List.length q.steps)≠wrapF .i64 (↑(List.length q.keys) - (1:Int)))))] [] (Y++[SB.box [.lst .ro 1 (yc q.keys),.lst .ro 2 (zS q.steps)]]) (.c4 rfl rfl rfl rfl (.c2 rfl rfl (.nil rfl))) rfl rfl fun fr=>?_
      refine o_gD rfl rfl rfl rfl (decide_eq_false (by omega)) ?_
      refine zc [(1,.box 0 0),(4,.box (List.length Y) 0),(12,.lst .ro 2 (yg t.scales)),(13,.int .i64 ↑(List.length t.scales)),(14,.int .i64 ↑n),(26,.bool (decide (↑(List.length q.steps)≠wrapF .i64 (↑(List.length q.keys) - (1:Int)))))] [] (Y++[SB.box [.lst .ro 1 (yc q.keys),.lst .ro 2 (zS q.steps)]]) (.c4 rfl rfl rfl rfl (.c2 rfl rfl (.nil rfl))) rfl rfl fun fr=>?_
      refine zG rfl rfl yz (o_gD rfl rfl rfl rfl (decide_eq_false (by omega)) (zF rfl rfl (za _ _) sh29 rfl ?_))
      refine o_gD rfl rfl rfl rfl (decide_eq_false (by omega)) (zG rfl rfl yA (o_gD rfl rfl rfl rfl (decide_eq_false (by omega)) (zF rfl rfl (yF hY0) sh22 rfl ?_)))
      refine o_gD rfl rfl rfl rfl (decide_eq_false (by omega)) (yZ rfl ty22 rfl (List.length_map _) ?_)
      refine o_gD rfl rfl rfl rfl (decide_eq_false (by omega)) (zX rfl (q101) (.lrefl _) (o_gD rfl rfl rfl rfl (decide_eq_false (by omega)) (o_not rfl rfl (zQ rfl rfl (decide_eq_false (by omega)) ?_))))
      refine zB ?_
      refine zM [(1,.box 0 0),(4,.box (List.length Y) 0),(12,.lst .ro 2 (yg t.scales)),(13,.int .i64 ↑(List.length t.scales)),(14,.int .i64 ↑n),(27,.box (List.length Y) 0),(28,.lst .ro 1 (yc q.keys)),(29,.box 0 0),(30,.lst .ro 2 (zS t.heard)),(31,.int .i64 ↑t.heard.length),(32,.bool false),(33,.bool !Bool.false),(34,.bool !Bool.false)] (Y++[SB.box [.lst .ro 1 (yc q.keys),.lst .ro 2 (zS q.steps)]]) (.c4 rfl rfl rfl rfl (.c4 rfl rfl rfl rfl (.c4 rfl rfl rfl rfl (.cons rfl (.nil rfl))))) rfl fun fr=>?_
      refine k_cT rfl rfl ?_
      refine kQ (zC rfl (zB (ze ?_)))
      refine⟨.inr rfl,_,.cons _ _ _ _ (.tmp 2) .nil,?_⟩
      exact .refl _
     |true=>
      have h4:=of_decide_eq_true h3
      have hl8:q.keys.length≤8:=wZ 8 _ h4.1 fun x hx=>by have:=h4.2 x hx;omega
      rw[h3]at q101
      have hw:wrapF .i64 ((q.keys.length:Int) - 1)=(q.keys.length:Int) - 1:=wrap64 (by unfold I64;omega)
      have hl7:q.steps.length≤7:=by omega
      refine kQ (zt rfl rfl rfl (zB (k_seq (k_cT rfl (decide_eq_true (by omega)) (zW (k_seq (zP (kQ ?_))))))))
      refine yr (u:=(q).u) rfl ty23 rfl rfl (Int.natCast_nonneg _) (by simp[hq]) cl61 ?_
      refine yC rfl rfl sh61 rfl ?_
      refine zV rfl ze61 ?_
      refine zN rfl (za _ _) sh61 rfl rfl rfl rfl rfl ?_
      refine zB ?_
      refine zM [(1,.box 0 0),(4,.box (List.length Y) 0),(12,.lst .ro 2 (yg t.scales)),(13,.int .i64 ↑(List.length t.scales)),(14,.int .i64 ↑n)] (Y++[SB.box [.lst .ro 1 (yc q.keys),.lst .ro 2 (zS q.steps)]]) (.c4 rfl rfl rfl rfl (.cons rfl (.nil rfl))) (yN _ _ _) fun fr=>?_
      refine k_seq (kQ (zG rfl rfl wW (zF rfl rfl (za _ _) sh22 rfl ?_)))
      refine yZ rfl ty22 rfl (List.length_map _) ?_
      refine zG rfl rfl yz (zF rfl rfl (za _ _) sh29 rfl ?_)
      refine yZ rfl ty29 rfl (List.length_map _) ?_
      refine o_int (v:=.int .i64 (wrapF .i64 ((q.keys.length:Int) - 1))) rfl rfl rfl rfl rfl ?_
      refine o_neq rfl rfl rfl (zA rfl ?_)
      refine zc [(1,.box 0 0),(4,.box (List.length Y) 0),(12,.lst .ro 2 (yg t.scales)),(13,.int .i64 ↑(List.length t.scales)),(14,.int .i64 ↑n),(26,.bool (decide (↑(List.length q.steps)≠wrapF .i64 (↑(List.length q.keys) - (1:Int)))))] [] (Y++[SB.box [.lst .ro 1 (yc q.keys),.lst .ro 2 (zS q.steps)]]) (.c4 rfl rfl rfl rfl (.c2 rfl rfl (.nil rfl))) rfl rfl fun fr=>?_
      refine o_gD rfl rfl rfl rfl (decide_eq_false (by omega)) ?_
      refine zc [(1,.box 0 0),(4,.box (List.length Y) 0),(12,.lst .ro 2 (yg t.scales)),(13,.int .i64 ↑(List.length t.scales)),(14,.int .i64 ↑n),(26,.bool (decide (↑(List.length q.steps)≠wrapF .i64 (↑(List.length q.keys) - (1:Int)))))] [] (Y++[SB.box [.lst .ro 1 (yc q.keys),.lst .ro 2 (zS q.steps)]]) (.c4 rfl rfl rfl rfl (.c2 rfl rfl (.nil rfl))) rfl rfl fun fr=>?_
      refine zG rfl rfl yz (o_gD rfl rfl rfl rfl (decide_eq_false (by omega)) (zF rfl rfl (za _ _) sh29 rfl ?_))
      refine o_gD rfl rfl rfl rfl (decide_eq_false (by omega)) (zG rfl rfl yA (o_gD rfl rfl rfl rfl (decide_eq_false (by omega)) (zF rfl rfl (yF hY0) sh22 rfl ?_)))
      refine o_gD rfl rfl rfl rfl (decide_eq_false (by omega)) (yZ rfl ty22 rfl (List.length_map _) ?_)
      refine o_gD rfl rfl rfl rfl (decide_eq_false (by omega)) (zX rfl (q101) (.lrefl _) (o_gD rfl rfl rfl rfl (decide_eq_false (by omega)) (o_not rfl rfl (zQ rfl rfl (decide_eq_false (by omega)) ?_))))
      refine zB ?_
      refine zM [(1,.box 0 0),(4,.box (List.length Y) 0),(12,.lst .ro 2 (yg t.scales)),(13,.int .i64 ↑(List.length t.scales)),(14,.int .i64 ↑n),(27,.box (List.length Y) 0),(28,.lst .ro 1 (yc q.keys)),(29,.box 0 0),(30,.lst .ro 2 (zS t.heard)),(31,.int .i64 ↑t.heard.length),(32,.bool true),(33,.bool !Bool.true),(34,.bool !Bool.true)] (Y++[SB.box [.lst .ro 1 (yc q.keys),.lst .ro 2 (zS q.steps)]]) (.c4 rfl rfl rfl rfl (.c4 rfl rfl rfl rfl (.c4 rfl rfl rfl rfl (.cons rfl (.nil rfl))))) rfl fun fr=>?_
      refine k_cF rfl rfl ?_
      refine zW (kQ (zG rfl rfl wW (zF rfl rfl (za _ _) sh22 rfl ?_)))
      refine yZ rfl ty22 rfl (List.length_map _) ?_
      refine zA rfl (zB (zP ?_))
      refine k_loop (fun k2 st=>∃(m:Nat) (e2:List SB),k2+m=q.steps.length∧(q.steps.take m).all stepB=true∧st.st=Y++e2∧Holds st [(1,.box 0 0),(12,.lst .ro 2 (yg t.scales)),(13,.int .i64 t.scales.length),(14,.int .i64 n),(36,.lst .ro 2 (zS q.steps)),(37,.int .i64 q.steps.length),(38,.int .i64 m)]) (fun k2 st2 hI2=>?_) q.steps.length _ ?_
      ·obtain⟨m,e2,hk2,hall2,hst2,hs2⟩:=hI2
       generalize hZ:Y++e2=Z at hst2
       refine zM _ _ hs2 hst2 fun fr=>?_
       by_cases hm:m<q.steps.length
       ·obtain⟨x,hx⟩:∃x,q.steps[m]? =some x:=⟨q.steps[m],List.getElem?_eq_getElem hm⟩
        have q85:=ret85 (orc:=orc) hi x.a x.b 200 5000
        cases hg:wl x.a x.b 200 5000 with
        |false=>
         have e1:q.steps.all stepB=false:=wN hx hg
         have e0:t.scales.all (wA t.heard.length)=false:=wN hq (by unfold wA;rw[e1];simp)
         rw[e0]
         rw[hg]at q85
         refine kQ (zt rfl rfl rfl (zB (k_seq (k_cT rfl (decide_eq_true (by omega)) (zW (k_seq (zP (kQ ?_))))))))
         refine yr (u:=(x).u) rfl ty22 rfl rfl (Int.natCast_nonneg _) (by simp[hx]) cl26 ?_
         refine yC rfl rfl sh26 rfl ?_
         refine zV rfl ze26 ?_
         refine zN rfl (za _ _) sh26 rfl rfl rfl rfl rfl ?_
         refine zB ?_
         refine zM [(1,.box 0 0),(6,.box (List.length Z) 0),(12,.lst .ro 2 (yg t.scales)),(13,.int .i64 ↑(List.length t.scales)),(14,.int .i64 ↑n),(36,.lst .ro 2 (zS q.steps)),(37,.int .i64 ↑(List.length q.steps)),(38,.int .i64 ↑m)] (Z++[SB.box [.int .i64 x.a,.int .i64 x.b]]) (.c4 rfl rfl rfl rfl (.c4 rfl rfl rfl rfl (.nil rfl))) (yN _ _ _) fun fr=>?_
         refine kQ (zK rfl rfl (za _ _) sh26 rfl ?_)
         refine zX rfl (q85) (.lrefl _) (o_not rfl rfl (zB (k_cT rfl rfl ?_)))
         refine kQ (zC rfl (zB (ze ?_)))
         refine⟨.inr rfl,_,.cons _ _ _ _ (.tmp 2) .nil,?_⟩
         exact .refl _
        |true=>
         rw[hg]at q85
         refine kQ (zt rfl rfl rfl (zB (k_seq (k_cT rfl (decide_eq_true (by omega)) (zW (k_seq (zP (kQ ?_))))))))
         refine yr (u:=(x).u) rfl ty22 rfl rfl (Int.natCast_nonneg _) (by simp[hx]) cl26 ?_
         refine yC rfl rfl sh26 rfl ?_
         refine zV rfl ze26 ?_
         refine zN rfl (za _ _) sh26 rfl rfl rfl rfl rfl ?_
         refine zB ?_
         refine zM [(1,.box 0 0),(6,.box (List.length Z) 0),(12,.lst .ro 2 (yg t.scales)),(13,.int .i64 ↑(List.length t.scales)),(14,.int .i64 ↑n),(36,.lst .ro 2 (zS q.steps)),(37,.int .i64 ↑(List.length q.steps)),(38,.int .i64 ↑m)] (Z++[SB.box [.int .i64 x.a,.int .i64 x.b]]) (.c4 rfl rfl rfl rfl (.c4 rfl rfl rfl rfl (.nil rfl))) (yN _ _ _) fun fr=>?_
         refine kQ (zK rfl rfl (za _ _) sh26 rfl ?_)
         refine zX rfl (q85) (.lrefl _) (o_not rfl rfl (zB (k_cF rfl rfl ?_)))
         refine zW (k_region ?_)
         refine o_add rfl rfl rfl (by unfold I64;omega) (zA rfl (zB ?_))
         exact⟨k2 - 1,by omega,m+1,e2++[_],by omega,wd hx hall2 hg,by rw[←List.append_assoc,hZ];rfl,.c4 rfl rfl rfl rfl (.c2 rfl rfl (.cons rfl (.nil rfl)))⟩
       ·have hm:m=q.steps.length:=by omega
        subst hm
        rw[List.take_length]at hall2
        have hsc:wA t.heard.length q=true:=by unfold wA;rw[decide_eq_true h2,h3,hall2];rfl
        refine kQ (zt rfl rfl rfl (zB (k_seq (k_cF rfl (decide_eq_false (by omega)) (yp (k_region ?_))))))
        refine o_add rfl rfl rfl (by unfold I64;omega) (zA rfl (zB ?_))
        exact⟨k - 1,by omega,n+1,e++e2,by omega,wd hq hall hsc,(by show Z=_;rw[←List.append_assoc,hY,hZ]),.c4 rfl rfl rfl rfl (.nil rfl)⟩
      ·exact⟨0,[_],rfl,rfl,rfl,.c4 rfl rfl rfl rfl (.c2 rfl rfl (.cons rfl (.nil rfl)))⟩
    ·have e0:t.scales.all (wA t.heard.length)=false:=wN hq (by unfold wA;rw[decide_eq_false h2];simp)
     rw[e0]
     refine kQ (zt rfl rfl rfl (zB (k_seq (k_cT rfl (decide_eq_true (by omega)) (zW (k_seq (zP (kQ ?_))))))))
     refine yr (u:=(q).u) rfl ty23 rfl rfl (Int.natCast_nonneg _) (by simp[hq]) cl61 ?_
     refine yC rfl rfl sh61 rfl ?_
     refine zV rfl ze61 ?_
     refine zN rfl (za _ _) sh61 rfl rfl rfl rfl rfl ?_
     refine zB ?_
     refine zM [(1,.box 0 0),(4,.box (List.length Y) 0),(12,.lst .ro 2 (yg t.scales)),(13,.int .i64 ↑(List.length t.scales)),(14,.int .i64 ↑n)] (Y++[SB.box [.lst .ro 1 (yc q.keys),.lst .ro 2 (zS q.steps)]]) (.c4 rfl rfl rfl rfl (.cons rfl (.nil rfl))) (yN _ _ _) fun fr=>?_
     refine k_seq (kQ (zG rfl rfl wW (zF rfl rfl (za _ _) sh22 rfl ?_)))
     refine yZ rfl ty22 rfl (List.length_map _) ?_
     refine zG rfl rfl yz (zF rfl rfl (za _ _) sh29 rfl ?_)
     refine yZ rfl ty29 rfl (List.length_map _) ?_
     refine o_int (v:=.int .i64 (wrapF .i64 ((q.keys.length:Int) - 1))) rfl rfl rfl rfl rfl ?_
     refine o_neq rfl rfl rfl (zA rfl ?_)
     refine zc [(1,.box 0 0),(4,.box (List.length Y) 0),(12,.lst .ro 2 (yg t.scales)),(13,.int .i64 ↑(List.length t.scales)),(14,.int .i64 ↑n),(26,.bool (decide (↑(List.length q.steps)≠wrapF .i64 (↑(List.length q.keys) - (1:Int)))))] [] (Y++[SB.box [.lst .ro 1 (yc q.keys),.lst .ro 2 (zS q.steps)]]) (.c4 rfl rfl rfl rfl (.c2 rfl rfl (.nil rfl))) rfl rfl fun fr=>?_
     refine o_gS rfl rfl rfl rfl (decide_eq_true (by omega)) (o_gS rfl rfl rfl rfl (decide_eq_true (by omega)) (o_gS rfl rfl rfl rfl (decide_eq_true (by omega)) (o_gS rfl rfl rfl rfl (decide_eq_true (by omega)) (o_gS rfl rfl rfl rfl (decide_eq_true (by omega)) (o_gS rfl rfl rfl rfl (decide_eq_true (by omega)) (o_gS rfl rfl rfl rfl (decide_eq_true (by omega)) (zT rfl rfl (decide_eq_true (by omega)) ?_)))))))
     refine zB ?_
     refine zM [(1,.box 0 0),(4,.box (List.length Y) 0),(12,.lst .ro 2 (yg t.scales)),(13,.int .i64 ↑(List.length t.scales)),(14,.int .i64 ↑n),(27,.tup []),(28,.tup []),(29,.tup []),(30,.tup []),(31,.tup []),(32,.tup []),(33,.tup []),(34,.bool true)] (Y++[SB.box [.lst .ro 1 (yc q.keys),.lst .ro 2 (zS q.steps)]]) (.c4 rfl rfl rfl rfl (.c4 rfl rfl rfl rfl (.c4 rfl rfl rfl rfl (.cons rfl (.nil rfl))))) rfl fun fr=>?_
     refine k_cT rfl rfl ?_
     refine kQ (zC rfl (zB (ze ?_)))
     refine⟨.inr rfl,_,.cons _ _ _ _ (.tmp 2) .nil,?_⟩
     exact .refl _
   ·have hn:n=t.scales.length:=by omega
    subst hn
    rw[List.take_length]at hall
    rw[hall]
    refine kQ (zt rfl rfl rfl (zB (k_seq (k_cF rfl (decide_eq_false (by omega)) (yp (kQ (zC rfl (zB ?_))))))))
    refine ze ?_
    refine⟨.inr rfl,_,.cons _ _ _ _ (.tmp 2) .nil,?_⟩
    exact .refl _
  ·exact⟨0,[],rfl,rfl,rfl,.c4 rfl rfl rfl rfl (.nil rfl)⟩
theorem ty48:tyOf Try.prog 48=.array 2 3:=by kernel_rfl
set_option maxHeartbeats 8000000 in
theorem ret84(hi:Off is)(t:Ts)(hn8:t.heard.length≤8):RetP Try.prog is orc 84 [t.u] (.bool (decide (t.pairs.length≤4)&&t.pairs.all fun q=>difB [q.a,q.b] t.heard.length)):=by
 refine yQ body84 pure84 (hi 84 (by decide)) rfl rfl (y6 (wC t 4)) (.inl (.bool _ _)) ?_
 by_cases h1:t.pairs.length > 4
 ·rw[show decide (t.pairs.length≤4)=false from decide_eq_false (by omega),Bool.false_and]
  refine kQ (yH rfl rfl (zC rfl (zB ?_)))
  refine zM [(1,.box 0 0)] ([SB.box t.cs]) (.cons rfl (.nil rfl)) rfl fun fr=>?_
  refine k_seq (kQ (zG rfl rfl wK (zF rfl rfl rfl sh24 rfl (yZ rfl ty24 rfl (List.length_map _) ?_))))
  refine o_gtr rfl rfl rfl (zB (k_cT rfl (decide_eq_true (by omega)) (kQ (zC rfl (zB (ze ?_))))))
  refine⟨.inr rfl,_,.cons _ _ _ _ (.tmp 2) .nil,?_⟩
  exact .refl _
 ·rw[show decide (t.pairs.length≤4)=true from decide_eq_true (by omega),Bool.true_and]
  refine kQ (yH rfl rfl (zC rfl (zB ?_)))
  refine zM [(1,.box 0 0)] ([SB.box t.cs]) (.cons rfl (.nil rfl)) rfl fun fr=>?_
  refine k_seq (kQ (zG rfl rfl wK (zF rfl rfl rfl sh24 rfl (yZ rfl ty24 rfl (List.length_map _) ?_))))
  refine o_gtr rfl rfl rfl (zB (k_cF rfl (decide_eq_false (by omega)) (zW (k_seq (kQ (zG rfl rfl wK (zF rfl rfl rfl sh24 rfl (yZ rfl ty24 rfl (List.length_map _) ?_))))))))
  refine zA rfl (zB (zP ?_))
  refine k_loop (fun k st=>∃(n:Nat) (e:List SB),k+n=t.pairs.length∧((t.pairs.take n).all fun q=>difB [q.a,q.b] t.heard.length)=true∧st.st=[.box t.cs]++e∧Holds st [(1,.box 0 0),(10,.lst .ro 2 (zS t.pairs)),(11,.int .i64 t.pairs.length),(12,.int .i64 n)]) (fun k st hI=>?_) t.pairs.length _ ?_
  ·obtain⟨n,e,hk,hall,hst,hs⟩:=hI
   generalize hY:[SB.box t.cs]++e=Y at hst
   have hY0:Y[0]? =some (SB.box t.cs):=by rw[←hY];rfl
   refine zM _ _ hs hst fun fr=>?_
   by_cases hn:n<t.pairs.length
   ·obtain⟨q,hq⟩:∃q,t.pairs[n]? =some q:=⟨t.pairs[n],List.getElem?_eq_getElem hn⟩
    have q101:=ret101 (orc:=orc) hi [q.a,q.b] t.heard.length (by omega)
    refine kQ (zt rfl rfl rfl (zB (k_seq (k_cT rfl (decide_eq_true (by omega)) (zW (k_seq (zP (kQ ?_))))))))
    refine yr (u:=(q).u) rfl ty24 rfl rfl (Int.natCast_nonneg _) (by simp[hq]) cl48 ?_
    refine yC rfl rfl sh48 rfl ?_
    refine zV rfl ze48 ?_
    refine zN rfl (za _ _) sh48 rfl rfl rfl rfl rfl ?_
    refine zB ?_
    refine zM [(1,.box 0 0),(4,.box (List.length Y) 0),(10,.lst .ro 2 (zS t.pairs)),(11,.int .i64 ↑(List.length t.pairs)),(12,.int .i64 ↑n)] (Y++[SB.box [.int .i64 q.a,.int .i64 q.b]]) (.c4 rfl rfl rfl rfl (.cons rfl (.nil rfl))) (yN _ _ _) fun fr=>?_
    refine k_seq (k_draw [.plain,.plain,.plain,.plain,.plain,.plain] (by kernel_rfl) (by kernel_rfl) (by kernel_rfl) ?_)
    refine zE (o_sliceA (es:=yc [q.a,q.b]) (cs:=[.int .i64 q.a,.int .i64 q.b]) rfl ty48 cl3 rfl rfl (za _ _) rfl (l1:=0) (h1:=2) (m1:=2) (by exact rfl) (by exact rfl) (by exact rfl) (.inl rfl) (by decide) (by decide) (by decide) rfl (by simp[zq]) rfl (zB rfl)) ?_
    refine d_genA [(1,.box 0 0),(10,.lst .ro 2 (zS t.pairs)),(11,.int .i64 t.pairs.length),(12,.int .i64 n),(16,.lst .ro 1 (yc [q.a,q.b]))] [] (Y++[.froz [.int .i64 q.a,.int .i64 q.b]]) (.c4 rfl rfl rfl rfl (.cons rfl (.nil rfl))) (by show(Y++[SB.box _]).set Y.length (SB.froz _)=_;exact yN _ _ _) rfl fun fr=>?_
    cases hd:difB [q.a,q.b] t.heard.length with
    |false=>
     rw[hd]at q101
     have e0:(t.pairs.all fun q=>difB [q.a,q.b] t.heard.length)=false:=wN hq hd
     rw[e0]
     refine zE (zG rfl rfl yA (zB rfl)) ?_
     refine zE (zF rfl rfl (yF hY0) sh22 rfl (zB rfl)) ?_
     refine zE (yZ rfl ty22 rfl (List.length_map _) (zB rfl)) ?_
     refine zE (zX rfl (q101) (.lrefl _) (zB rfl)) ?_
     refine zE (o_not rfl rfl (zB rfl)) ?_
     refine d_nil ?_
     refine k_cT rfl rfl ?_
     refine kQ (zC rfl (zB (ze ?_)))
     refine⟨.inr rfl,_,.cons _ _ _ _ (.tmp 2) .nil,?_⟩
     exact .refl _
    |true=>
     rw[hd]at q101
     refine zE (zG rfl rfl yA (zB rfl)) ?_
     refine zE (zF rfl rfl (yF hY0) sh22 rfl (zB rfl)) ?_
     refine zE (yZ rfl ty22 rfl (List.length_map _) (zB rfl)) ?_
     refine zE (zX rfl (q101) (.lrefl _) (zB rfl)) ?_
     refine zE (o_not rfl rfl (zB rfl)) ?_
     refine d_nil ?_
     refine k_cF rfl rfl ?_
     refine zW (k_region ?_)
     refine o_add rfl rfl rfl (by unfold I64;omega) (zA rfl (zB ?_))
     exact⟨k - 1,by omega,n+1,e++[_],by omega,wd hq hall hd,by rw[←List.append_assoc,hY];rfl,.c4 rfl rfl rfl rfl (.nil rfl)⟩
   ·have hn:n=t.pairs.length:=by omega
    subst hn
    rw[List.take_length]at hall
    rw[hall]
    refine kQ (zt rfl rfl rfl (zB (k_seq (k_cF rfl (decide_eq_false (by omega)) (yp (kQ (zC rfl (zB ?_))))))))
    refine ze ?_
    refine⟨.inr rfl,_,.cons _ _ _ _ (.tmp 2) .nil,?_⟩
    exact .refl _
  ·exact⟨0,[],rfl,rfl,rfl,.c4 rfl rfl rfl rfl (.nil rfl)⟩
end
section
variable {is:FuncId→Bool}{orc:Known}
theorem by72:Program.bytesOf Try.prog 72=40:=by kernel_rfl
theorem cl72:Program.cellsOf Try.prog 72=5:=by kernel_rfl
theorem w9:zr Try.prog 28 3=some (3,26):=by kernel_rfl
theorem ty70:tyOf Try.prog 70=.slice 72:=by kernel_rfl
theorem uP:AppT Try.prog 70 70 72 5 40 ((.cons (.int .i64 0) (.cons (.int .i64 0) (.cons (.int .i64 0) (.cons (.int .i64 0) (.cons (.int .i64 0) .nil))))):V):=⟨ty70,⟨_,ty70⟩,cl72,by decide,by72,ze72,rfl⟩
noncomputable def b51:Code:=(Try.f51.body).getD .skip
theorem body51:bodyOf Try.prog 51=some (62,b51,[.tmp 2]):=by kernel_rfl
theorem pure51:pureFn Try.prog 51=true:=by kernel_rfl
theorem wF:shOf Try.prog 122=.many 8:=by kernel_rfl
noncomputable def b102:Code:=(Try.f102.body).getD .skip
theorem body102:bodyOf Try.prog 102=some (21,b102,[.cell 4 122]):=by kernel_rfl
theorem pure102:pureFn Try.prog 102=true:=by kernel_rfl
noncomputable def b103:Code:=(Try.f103.body).getD .skip
theorem body103:bodyOf Try.prog 103=some (21,b103,[.cell 4 122]):=by kernel_rfl
theorem pure103:pureFn Try.prog 103=true:=by kernel_rfl
def sclJ(q:Scl)(n:Nat):List Jn:=(List.range n).map fun i:Nat=>⟨0,(q.keys[i]?).getD 0,(q.keys[i+1]?).getD 0,((q.steps[i]?).map Two.a).getD 0,((q.steps[i]?).map Two.b).getD 0⟩
def y9(l:List Scl):List Jn:=l.flatMap fun q=>sclJ q q.steps.length
def uZ(t:Ts)(q:Two):Jn:=⟨2,q.a,q.b,t.lo,t.hi⟩
def zp(t:Ts):List Jn:=y9 t.scales++t.pairs.map (uZ t)
theorem sclJ_succ{q:Scl}{n:Nat}{a b:Int}{s:Two}(h1:q.keys[n]? =some a)(h2:q.keys[n+1]? =some b)(h3:q.steps[n]? =some s):sclJ q (n+1)=sclJ q n++[⟨0,a,b,s.a,s.b⟩]:=by
 unfold sclJ
 rw[List.range_succ,List.map_append]
 simp[h1,h2,h3]
theorem uT{l:List Scl}{n:Nat}{q:Scl}(h:l[n]? =some q):y9 (l.take (n+1))=y9 (l.take n)++sclJ q q.steps.length:=by
 unfold y9
 rw[List.take_add_one,h,List.flatMap_append];simp
def accJ(l:List Jn):U:=match l with
 |[]=>.lst .full 0 []
 |l=>.lst .own 5 (jnsU l)
theorem uX(x:Jn)(l:List Jn):accJ (l++[x])=.lst .own 5 (jnsU l++[x.u]):=by
 cases l with
 |nil=>rfl
 |cons y l=>show U.lst .own 5 (List.map Jn.u ((y::l)++[x]))=_;rw[List.map_append];rfl
theorem uw_accJ(l:List Jn):UW (.u (dg (accJ l))) (.u (.lst .ro 5 (jnsU l))):=by
 cases l with
 |nil=>exact .nil .full .ro 5
 |cons x l=>exact .refl _
theorem at_ps{l m:List SB}{i k:Nat}{x y:SB}(h:l[i]? =some x)(hk:l.length≤k):((l++m).set k y)[i]? =some x:=by
 have hi:=(List.getElem?_eq_some_iff.1 h).1
 rw[List.getElem?_set_ne (by omega),List.getElem?_append_left hi,h]
structure Sh(t:Ts):Prop where
 ns:t.scales.length≤2
 np:t.pairs.length≤4
 sc:∀q∈t.scales,q.steps.length+1=q.keys.length∧q.keys.length≤8
theorem sclJ_len(q:Scl)(n:Nat):(sclJ q n).length=n:=by unfold sclJ;simp
theorem wv(l:List Scl)(h:∀q∈l,q.steps.length≤7):(y9 l).length≤7*l.length:=by
 induction l with
 |nil=>exact Nat.le_refl 0
 |cons q l ih=>
  have h1:=ih fun x hx=>h x (List.mem_cons_of_mem _ hx)
  have h2:=h q List.mem_cons_self
  unfold y9 at*
  rw[List.flatMap_cons,List.length_append,sclJ_len,List.length_cons]
  omega
theorem grow{t:Ts}{Y e e2:List SB}(h:[SB.box t.cs]++e=Y):Y++e2=[SB.box t.cs]++(e++e2):=by rw[←h,List.append_assoc]
set_option maxHeartbeats 8000000 in
theorem ret51(hi:Off is){t:Ts}(h:Sh t):RetP Try.prog is orc 51 [t.u] (.lst .ro 5 (jnsU (zp t))):=by
 have hns:=h.ns
 have hnp:=h.np
 have hsl:∀n,(y9 (t.scales.take n)).length≤14:=fun n=>by
  have:=wv (t.scales.take n) fun q hq=>by have:=h.sc q (List.mem_of_mem_take hq);omega
  rw[List.length_take]at this
  omega
 refine yQ body51 pure51 (hi 51 (by decide)) rfl rfl (y6 (wC t 4)) (.inl (ud _ .ro (fun h=>by cases h) 6)) ?_
 refine kQ (yH rfl rfl (zC rfl (zB ?_)))
 refine zM [(1,.box 0 0)] ([SB.box t.cs]) (.cons rfl (.nil rfl)) rfl fun fr=>?_
 refine kQ (zC rfl (zB (k_seq (kQ (zG rfl rfl wP (zF rfl rfl rfl sh23 rfl (yZ rfl ty23 rfl (List.length_map _) ?_)))))))
 refine zA rfl (zB (zP ?_))
 refine k_loop (fun k st=>∃(n:Nat),k+n=t.scales.length∧(∃e,st.st=[.box t.cs]++e)∧Holds st [(1,.box 0 0),(3,accJ (y9 (t.scales.take n))),(11,.lst .ro 2 (yg t.scales)),(12,.int .i64 t.scales.length),(13,.int .i64 n)]) (fun k st hI=>?_) t.scales.length _ ?_
 ·obtain⟨n,hk,⟨e,hst⟩,hs⟩:=hI
  generalize hY:[SB.box t.cs]++e=Y at hst
  have hY0:Y[0]? =some (SB.box t.cs):=by rw[←hY];rfl
  refine zM _ _ hs hst fun fr=>?_
  by_cases hn:n<t.scales.length
  ·obtain⟨q,hq⟩:∃q,t.scales[n]? =some q:=⟨t.scales[n],List.getElem?_eq_getElem hn⟩
   have hqs:=h.sc q (List.mem_of_getElem? hq)
   obtain⟨L,hL⟩:∃L,L=y9 (t.scales.take n):=⟨_,rfl⟩
   have hLl:=hsl n
   rw[←hL]at hLl
   rw[←hL]
   refine kQ (zt rfl rfl rfl (zB (k_seq (k_cT rfl (decide_eq_true (by omega)) (zW (k_seq (zP (kQ ?_))))))))
   refine yr (u:=(q).u) rfl ty23 rfl rfl (Int.natCast_nonneg _) (by simp[hq]) cl61 ?_
   refine yC rfl rfl sh61 rfl ?_
   refine zV rfl ze61 ?_
   refine zN rfl (za _ _) sh61 rfl rfl rfl rfl rfl ?_
   refine zB ?_
   refine zM [(1,.box 0 0),(3,accJ L),(5,.box (List.length Y) 0),(11,.lst .ro 2 (yg t.scales)),(12,.int .i64 ↑(List.length t.scales)),(13,.int .i64 ↑n)] (Y++[SB.box [.lst .ro 1 (yc q.keys),.lst .ro 2 (zS q.steps)]]) (.c4 rfl rfl rfl rfl (.c2 rfl rfl (.nil rfl))) (yN _ _ _) fun fr=>?_
   refine kQ (zG rfl rfl wW (zF rfl rfl (za _ _) sh22 rfl ?_))
   refine yZ rfl ty22 rfl (List.length_map _) ?_
   refine zA rfl (zB (zP ?_))
   refine k_loop (fun k2 st=>∃(m:Nat),k2+m=q.steps.length∧(∃e2,st.st=(Y++[.box [.lst .ro 1 (yc q.keys),.lst .ro 2 (zS q.steps)]])++e2)∧Holds st [(1,.box 0 0),(3,accJ (L++sclJ q m)),(5,.box Y.length 0),(11,.lst .ro 2 (yg t.scales)),(12,.int .i64 t.scales.length),(13,.int .i64 n),(18,.lst .ro 2 (zS q.steps)),(19,.int .i64 q.steps.length),(20,.int .i64 m)]) (fun k2 st2 hI2=>?_) q.steps.length _ ?_
   ·obtain⟨m,hk2,⟨e2,hst2⟩,hs2⟩:=hI2
    generalize hZ:(Y++[SB.box [.lst .ro 1 (yc q.keys),.lst .ro 2 (zS q.steps)]])++e2=Z at hst2
    have hZ0:Z[Y.length]? =some (SB.box [.lst .ro 1 (yc q.keys),.lst .ro 2 (zS q.steps)]):=by rw[←hZ];exact yF (za _ _)
    refine zM _ _ hs2 hst2 fun fr=>?_
    by_cases hm:m<q.steps.length
    ·obtain⟨x,hx⟩:∃x,q.steps[m]? =some x:=⟨q.steps[m],List.getElem?_eq_getElem hm⟩
     obtain⟨a,ha⟩:∃a,q.keys[m]? =some a:=⟨q.keys[m]'(by omega),List.getElem?_eq_getElem (by omega)⟩
     obtain⟨b,hb⟩:∃b,q.keys[m+1]? =some b:=⟨q.keys[m+1]'(by omega),List.getElem?_eq_getElem (by omega)⟩
     have hsu:=sclJ_succ ha hb hx
     have hll:(L++sclJ q m).length≤21:=by rw[List.length_append,sclJ_len];omega
     obtain⟨M,hM⟩:∃M,M=L++sclJ q m:=⟨_,rfl⟩
     have hsM:L++sclJ q (m+1)=M++[⟨0,a,b,x.a,x.b⟩]:=by rw[hsu,←List.append_assoc,←hM]
     rw[←hM]at hll
     rw[←hM]
     cases M with
     |nil=>
      refine kQ (zt rfl rfl rfl (zB (k_seq (k_cT rfl (decide_eq_true (by omega)) (zW (k_seq (zP (kQ ?_))))))))
      refine zA rfl (yr (u:=(x).u) rfl ty22 rfl rfl (Int.natCast_nonneg _) (by simp[hx]) cl26 ?_)
      refine yC rfl rfl sh26 rfl ?_
      refine zV rfl ze26 ?_
      refine zC rfl (zN rfl (za _ _) sh26 rfl rfl rfl rfl rfl ?_)
      refine zB ?_
      refine zM [(1,.box 0 0),(3,accJ []),(5,.box (List.length Y) 0),(6,.int .i64 ↑m),(7,.box (List.length Z) 0),(11,.lst .ro 2 (yg t.scales)),(12,.int .i64 ↑(List.length t.scales)),(13,.int .i64 ↑n),(18,.lst .ro 2 (zS q.steps)),(19,.int .i64 ↑(List.length q.steps)),(20,.int .i64 ↑m)] (Z++[SB.box [.int .i64 x.a,.int .i64 x.b]]) (.c4 rfl rfl rfl rfl (.c4 rfl rfl rfl rfl (.c2 rfl rfl (.cons rfl (.nil rfl))))) (yN _ _ _) fun fr=>?_
      refine k_draw [.plain,.plain,.read true,.plain,.plain,.read true,.plain,.read true,.plain,.plain,.plain,.read true,.read true,.plain,.plain,.plain,.plain] (by kernel_rfl) (by kernel_rfl) (by kernel_rfl) ?_
      refine zE (zA rfl (zB rfl)) (zE (zG rfl rfl yz (zB rfl)) ?_)
      refine zi rfl (zF rfl rfl (yF hZ0) sh29 rfl (zB rfl)) ?_
      refine zE (zA rfl (zB rfl)) (zE (yr (u:=.int .i64 (a)) rfl ty29 rfl rfl (Int.natCast_nonneg _) (by simp[ha]) cl3 (zB rfl)) ?_)
      refine zi rfl (yk rfl rfl sh3 rfl (zB rfl)) ?_
      refine zE (zG rfl rfl yz (zB rfl)) ?_
      refine zi rfl (zF rfl rfl (yF hZ0) sh29 rfl (zB rfl)) ?_
      refine zE (zA rfl (zB rfl)) ?_
      refine d_genA [(1,.box 0 0),(5,.box (List.length Y) 0),(7,.box (List.length Z) 0),(11,.lst .ro 2 (yg t.scales)),(12,.int .i64 ↑(List.length t.scales)),(13,.int .i64 ↑n),(18,.lst .ro 2 (zS q.steps)),(19,.int .i64 ↑(List.length q.steps)),(20,.int .i64 ↑m),(25,.lst .full 0 []),(30,.int .i64 a),(32,.lst .ro 1 (yc q.keys)),(33,.int .i64 ↑m)] [] (Z++[SB.box [.int .i64 x.a,.int .i64 x.b]]) (.c4 rfl rfl rfl rfl (.c4 rfl rfl rfl rfl (.c4 rfl rfl rfl rfl (.cons rfl (.nil rfl))))) rfl rfl fun fr=>?_
      refine zE (o_add rfl rfl rfl (by unfold I64;omega) (zB rfl)) ?_
      refine zE (yr (u:=.int .i64 (b)) rfl ty29 rfl rfl (Int.natCast_nonneg _) (by simp[hb]) cl3 (zB rfl)) ?_
      refine zi rfl (yk rfl rfl sh3 rfl (zB rfl)) ?_
      refine zi rfl (zK rfl rfl (za _ _) sh26 rfl (zB rfl)) ?_
      refine zE (yP rfl ze72 pl72 rfl rfl (zB rfl)) ?_
      refine zE (o_lit (es:=[U.agg [.int .i64 0,.int .i64 a,.int .i64 b,.int .i64 (Two.a x),.int .i64 (Two.b x)]]) rfl ty70 ze72 cl72 rfl rfl rfl rfl rfl rfl rfl rfl (zB rfl)) ?_
      refine zE (o_appendF rfl uP rfl rfl (by simp) (by simp) (by simp[zf,zq,oneU]) (by simp) (zB rfl)) ?_
      refine zE (zC rfl (zB rfl)) ?_
      refine d_nil ?_
      refine zM [(1,.box 0 0),(3,.lst Kd.own 5 [U.agg [.int .i64 0,.int .i64 a,.int .i64 b,.int .i64 x.a,.int .i64 x.b]]),(5,.box (List.length Y) 0),(11,.lst .ro 2 (yg t.scales)),(12,.int .i64 ↑(List.length t.scales)),(13,.int .i64 ↑n),(18,.lst .ro 2 (zS q.steps)),(19,.int .i64 ↑(List.length q.steps)),(20,.int .i64 ↑m)] (Z++[SB.box [.int .i64 x.a,.int .i64 x.b]]) (.c4 rfl rfl rfl rfl (.c4 rfl rfl rfl rfl (.cons rfl (.nil rfl)))) rfl fun fr=>?_
      refine k_region ?_
      refine o_add rfl rfl rfl (by unfold I64;omega) (zA rfl (zB ?_))
      exact⟨k2 - 1,by omega,m+1,by omega,⟨_,by show Z++_=_;rw[←hZ,List.append_assoc]⟩,.cons rfl (.cons (by rw[hsM];rfl) (.c4 rfl rfl rfl rfl (.c2 rfl rfl (.cons rfl (.nil rfl)))))⟩
     |cons y M=>
      refine kQ (zt rfl rfl rfl (zB (k_seq (k_cT rfl (decide_eq_true (by omega)) (zW (k_seq (zP (kQ ?_))))))))
      refine zA rfl (yr (u:=(x).u) rfl ty22 rfl rfl (Int.natCast_nonneg _) (by simp[hx]) cl26 ?_)
      refine yC rfl rfl sh26 rfl ?_
      refine zV rfl ze26 ?_
      refine zC rfl (zN rfl (za _ _) sh26 rfl rfl rfl rfl rfl ?_)
      refine zB (k_draw [.plain,.plain,.read true,.plain,.plain,.read true,.plain,.read true,.plain,.plain,.plain,.read true,.read true,.plain,.plain,.plain,.plain] (by kernel_rfl) (by kernel_rfl) (by kernel_rfl) ?_)
      refine zE (zA rfl (zB rfl)) (zE (zG rfl rfl yz (zB rfl)) ?_)
      refine zi rfl (zF rfl rfl (at_ps hZ0 (Nat.le_refl _)) sh29 rfl (zB rfl)) ?_
      refine zE (zA rfl (zB rfl)) (zE (yr (u:=.int .i64 (a)) rfl ty29 rfl rfl (Int.natCast_nonneg _) (by simp[ha]) cl3 (zB rfl)) ?_)
      refine zi rfl (yk rfl rfl sh3 rfl (zB rfl)) ?_
      refine zE (zG rfl rfl yz (zB rfl)) ?_
      refine zi rfl (zF rfl rfl (at_ps hZ0 (Nat.le_refl _)) sh29 rfl (zB rfl)) ?_
      refine zE (zA rfl (zB rfl)) ?_
      refine zE (o_add rfl rfl rfl (by unfold I64;omega) (zB rfl)) ?_
      refine zE (yr (u:=.int .i64 (b)) rfl ty29 rfl rfl (Int.natCast_nonneg _) (by simp[hb]) cl3 (zB rfl)) ?_
      refine zi rfl (yk rfl rfl sh3 rfl (zB rfl)) ?_
      refine zi rfl (zK rfl rfl (at_set _ _ _) sh26 rfl (zB rfl)) ?_
      refine zE (yP rfl ze72 pl72 rfl rfl (zB rfl)) ?_
      refine zE (o_lit (es:=[U.agg [.int .i64 0,.int .i64 a,.int .i64 b,.int .i64 (Two.a x),.int .i64 (Two.b x)]]) rfl ty70 ze72 cl72 rfl rfl rfl rfl rfl rfl rfl rfl (zB rfl)) ?_
      refine zE (o_appendS 3 rfl uP rfl rfl rfl (by simp) (by simp) (by simp[zf,zq,oneU]) (by simp at hll ⊢;omega) (zB rfl)) ?_
      refine zE (zC rfl (zB rfl)) ?_
      refine d_nil ?_
      refine k_region ?_
      refine o_add rfl rfl rfl (by unfold I64;omega) (zA rfl (zB ?_))
      exact⟨k2 - 1,by omega,m+1,by omega,⟨_,by show(Z++[_]).set Z.length _=_;rw[yN,←hZ,List.append_assoc]⟩,.cons rfl (.cons (by rw[hsM,uX];rfl) (.c4 rfl rfl rfl rfl (.c2 rfl rfl (.cons rfl (.nil rfl)))))⟩
    ·have hm:m=q.steps.length:=by omega
     subst hm
     have hts:=uT hq
     rw[←hL]at hts
     refine kQ (zt rfl rfl rfl (zB (k_seq (k_cF rfl (decide_eq_false (by omega)) (yp (k_region ?_))))))
     refine o_add rfl rfl rfl (by unfold I64;omega) (zA rfl (zB ?_))
     exact⟨k - 1,by omega,n+1,by omega,⟨_,by show Z=_;rw[←hZ,List.append_assoc];exact grow hY⟩,.cons rfl (.cons (congrArg accJ hts.symm) (.c2 rfl rfl (.cons rfl (.nil rfl))))⟩
   ·exact⟨0,rfl,⟨[],(List.append_nil _).symm⟩,.cons rfl (.cons (congrArg accJ (List.append_nil L).symm) (.c4 rfl rfl rfl rfl (.c2 rfl rfl (.cons rfl (.nil rfl)))))⟩
  ·have hn:n=t.scales.length:=by omega
   subst hn
   rw[List.take_length]
   have hsl2:=hsl t.scales.length
   rw[List.take_length]at hsl2
   obtain⟨L,hL⟩:∃L,L=y9 t.scales:=⟨_,rfl⟩
   rw[←hL]at hsl2
   have hLJ:zp t=L++t.pairs.map (uZ t):=by rw[hL];rfl
   rw[hLJ,←hL]
   refine kQ (zt rfl rfl rfl (zB (k_seq (k_cF rfl (decide_eq_false (by omega)) (yp (k_seq (kQ (zG rfl rfl wK ?_))))))))
   refine zF rfl rfl hY0 sh24 rfl ?_
   refine yZ rfl ty24 rfl (List.length_map _) ?_
   refine zA rfl (zB (zP ?_))
   refine k_loop (fun k2 st=>∃(m:Nat),k2+m=t.pairs.length∧(∃e2,st.st=Y++e2)∧Holds st [(1,.box 0 0),(3,accJ (L++(t.pairs.take m).map (uZ t))),(44,.lst .ro 2 (zS t.pairs)),(45,.int .i64 t.pairs.length),(46,.int .i64 m)]) (fun k2 st2 hI2=>?_) t.pairs.length _ ?_
   ·obtain⟨m,hk2,⟨e2,hst2⟩,hs2⟩:=hI2
    generalize hZ:Y++e2=Z at hst2
    have hZ0:Z[0]? =some (SB.box t.cs):=by rw[←hZ];exact yF hY0
    refine zM _ _ hs2 hst2 fun fr=>?_
    by_cases hm:m<t.pairs.length
    ·obtain⟨x,hx⟩:∃x,t.pairs[m]? =some x:=⟨t.pairs[m],List.getElem?_eq_getElem hm⟩
     have hll:(L++(t.pairs.take m).map (uZ t)).length≤21:=by rw[List.length_append,List.length_map,List.length_take];omega
     obtain⟨M,hM⟩:∃M,M=L++(t.pairs.take m).map (uZ t):=⟨_,rfl⟩
     have hsM:L++(t.pairs.take (m+1)).map (uZ t)=M++[uZ t x]:=by rw[List.take_add_one,hx,List.map_append,←List.append_assoc,←hM];rfl
     rw[←hM]at hll
     rw[←hM]
     cases M with
     |nil=>
      refine kQ (zt rfl rfl rfl (zB (k_seq (k_cT rfl (decide_eq_true (by omega)) (zW (k_seq (zP (kQ ?_))))))))
      refine yr (u:=(x).u) rfl ty24 rfl rfl (Int.natCast_nonneg _) (by simp[hx]) cl48 ?_
      refine yC rfl rfl sh48 rfl ?_
      refine zV rfl ze48 ?_
      refine zN rfl (za _ _) sh48 rfl rfl rfl rfl rfl ?_
      refine zB (k_region (zA rfl (yu rfl ty48 rfl rfl (by omega) (by omega) cl3 ?_)))
      refine zF rfl rfl (at_set _ _ _) sh3 rfl ?_
      refine yu rfl ty48 rfl rfl (by omega) (by omega) cl3 ?_
      refine zF rfl rfl (at_set _ _ _) sh3 rfl ?_
      refine zG rfl rfl w9 (zK rfl rfl (at_ps hZ0 (Nat.le_refl _)) sh26 rfl ?_)
      refine yP rfl ze72 pl72 rfl rfl ?_
      refine o_lit (es:=[U.agg [.int .i64 2,.int .i64 (Two.a x),.int .i64 (Two.b x),.int .i64 (Ts.lo t),.int .i64 (Ts.hi t)]]) rfl ty70 ze72 cl72 rfl rfl rfl rfl rfl rfl rfl rfl ?_
      refine o_appendF rfl uP rfl rfl (by simp) (by simp) (by simp[zf,zq,oneU]) (by simp) ?_
      refine zC rfl (zB (k_region ?_))
      refine o_add rfl rfl rfl (by unfold I64;omega) (zA rfl (zB ?_))
      exact⟨k2 - 1,by omega,m+1,by omega,⟨_,by show(Z++[_]).set Z.length _=_;rw[yN,←hZ,List.append_assoc]⟩,.cons rfl (.cons (by rw[hsM];rfl) (.c2 rfl rfl (.cons rfl (.nil rfl))))⟩
     |cons y M=>
      refine kQ (zt rfl rfl rfl (zB (k_seq (k_cT rfl (decide_eq_true (by omega)) (zW (k_seq (zP (kQ ?_))))))))
      refine yr (u:=(x).u) rfl ty24 rfl rfl (Int.natCast_nonneg _) (by simp[hx]) cl48 ?_
      refine yC rfl rfl sh48 rfl ?_
      refine zV rfl ze48 ?_
      refine zN rfl (za _ _) sh48 rfl rfl rfl rfl rfl ?_
      refine zB (k_region (zA rfl (yu rfl ty48 rfl rfl (by omega) (by omega) cl3 ?_)))
      refine zF rfl rfl (at_set _ _ _) sh3 rfl ?_
      refine yu rfl ty48 rfl rfl (by omega) (by omega) cl3 ?_
      refine zF rfl rfl (at_set _ _ _) sh3 rfl ?_
      refine zG rfl rfl w9 (zK rfl rfl (at_ps hZ0 (Nat.le_refl _)) sh26 rfl ?_)
      refine yP rfl ze72 pl72 rfl rfl ?_
      refine o_lit (es:=[U.agg [.int .i64 2,.int .i64 (Two.a x),.int .i64 (Two.b x),.int .i64 (Ts.lo t),.int .i64 (Ts.hi t)]]) rfl ty70 ze72 cl72 rfl rfl rfl rfl rfl rfl rfl rfl ?_
      refine o_appendS 3 rfl uP rfl rfl rfl (by simp) (by simp) (by simp[zf,zq,oneU]) (by simp at hll ⊢;omega) ?_
      refine zC rfl (zB (k_region ?_))
      refine o_add rfl rfl rfl (by unfold I64;omega) (zA rfl (zB ?_))
      exact⟨k2 - 1,by omega,m+1,by omega,⟨_,by show(Z++[_]).set Z.length _=_;rw[yN,←hZ,List.append_assoc]⟩,.cons rfl (.cons (by rw[hsM,uX];rfl) (.c2 rfl rfl (.cons rfl (.nil rfl))))⟩
    ·have hm:m=t.pairs.length:=by omega
     subst hm
     rw[List.take_length]
     refine kQ (zt rfl rfl rfl (zB (k_seq (k_cF rfl (decide_eq_false (by omega)) (yp (kQ (zA rfl (zC rfl ?_))))))))
     refine zB (ze ?_)
     refine⟨.inr rfl,_,.cons _ _ _ _ (.tmp 2) .nil,?_⟩
     exact uw_accJ _
   ·exact⟨0,rfl,⟨[],(List.append_nil _).symm⟩,.cons rfl (.cons (congrArg accJ (List.append_nil L).symm) (.c2 rfl rfl (.cons rfl (.nil rfl))))⟩
 ·exact⟨0,rfl,⟨[],rfl⟩,.c4 rfl rfl rfl rfl (.cons rfl (.nil rfl))⟩
end
end Go.Proofs.Ytinhcdijbcamaaa.tuneNarrower
