import Derived.Test.YtinhcdijbcamaaaVamT9
set_option linter.unusedVariables false
set_option linter.unusedSimpArgs false
set_option linter.constructorNameAsVariable false
namespace Go.Proofs.Ytinhcdijbcamaaa.tuneTrue
open Vam
section
variable {is:FuncId→Bool}{orc:Known}
noncomputable def b22:Code:=(Try.f22.body).getD .skip
theorem body22:bodyOf Try.prog 22=some (22,b22,[.cell 4 26,.tmp 5]):=by kernel_rfl
theorem pure22:pureFn Try.prog 22=true:=by kernel_rfl
noncomputable def b24:Code:=(Try.f24.body).getD .skip
theorem body24:bodyOf Try.prog 24=some (34,b24,[.tmp 6,.tmp 7]):=by kernel_rfl
theorem pure24:pureFn Try.prog 24=true:=by kernel_rfl
variable {t:Ts}{J:List Jn}{v x:Int}
theorem ask_ok{l:List Int}(h:askE t l=0):TOk t∧zEa t l=true∧tunB t (zc t)=true:=by
 unfold askE at h
 split at h
 ·rename_i h1
  split at h
  ·rename_i h2
   split at h
   ·rename_i h3
    exact⟨(zAS t).1 h1,h2,h3⟩
   ·omega
  ·omega
 ·omega
theorem keys1(h:zEa t [v]=true):0≤v∧v<(t.heard.length:Int):=by
 unfold zEa at h;simp at h;exact h
noncomputable def pitU(t:Ts)(v:Int):U:=if askE t [v]=0 then yz (utP t (zc t) false v) (utP t (zc t) true v)else yz 0 0
theorem dat_pit(t:Ts)(v:Int)(k:Nat):Dat (k+2) (pitU t v):=by
 unfold pitU;split<;>exact yV _ _ _
set_option maxHeartbeats 8000000 in
theorem ret22(hi:Off is)(t:Ts)(v:Int):RetP Try.prog is orc 22 [t.u,.int .i64 v] (.tup [pitU t v,.int .i64 (askE t [v])]):=by
 have q59:=ret59 (orc:=orc) hi t [v] (by simp)
 refine yE body22 pure22 (hi 22 (by decide)) rfl rfl (yZ (zAg t 4) (.int _ _ _)) (.inr ⟨_,rfl,yZ (dat_pit t v 5) (.int _ _ _)⟩) ?_
 by_cases h0:askE t [v]=0
 ·obtain⟨hok,hk,_⟩:=ask_ok h0
  have hv:=keys1 hk
  have hp:pitU t v=yz (utP t (zc t) false v) (utP t (zc t) true v):=by unfold pitU;rw[if_pos h0]
  have hc:askC t [v]=setC t (zc t):=by unfold askC;rw[if_pos h0]
  rw[hc]at q59
  rw[hp]
  have q63:=ret63 (orc:=orc) hi hok.sok hv
  rw[h0]at q59 ⊢
  refine kQ (yA rfl rfl (zT rfl ze26 ?_))
  refine zC rfl (zA ?_)
  refine zK [(1,.int .i64 v),(2,U.box 0 0),(4,U.box 1 0)] ([SB.box t.cs,SB.box [.int .i64 0,.int .i64 0]]) (.cons rfl (.cons rfl (.cons rfl (.nil rfl)))) rfl fun fr=>?_
  refine kQ (zH rfl rfl rfl sh28 rfl (zB rfl (zBA (es:=[.int .i64 v]) rfl ty29 ze3 cl3 rfl rfl rfl rfl rfl rfl rfl rfl ?_)))
  refine zP rfl q59 (.lcons _ _ _ _ (.refl _) (.lcons _ _ _ _ (.ro _ _ _) (.lrefl _))) ?_
  refine zB rfl (zY rfl rfl rfl (zY rfl rfl rfl (zT rfl ze84 ?_)))
  refine zJ rfl rfl sh84 rfl rfl rfl rfl rfl ?_
  refine zC rfl (zA ?_)
  refine zK [(1,.int .i64 v),(4,U.box 1 0),(6,U.box 2 0),(7,.int .i64 0)] ([SB.box t.cs,SB.box [.int .i64 0,.int .i64 0],SB.box [.lst .ro 2 (zV t.heard),.lst .ro 2 (yn t.scales),.lst .ro 2 (zV t.pairs),.int .i64 t.lo,.int .i64 t.hi,.lst .ro 5 (jnsU (zc t))]]) (.c4 rfl rfl rfl rfl (.nil rfl)) rfl fun fr=>?_
  refine k_seq (kQ (zB rfl (zAd rfl rfl rfl (zA (k_cF rfl rfl ?_)))))
  refine zQ (kQ (zH rfl rfl rfl sh84 rfl (zB rfl (zP rfl (q63) (.lrefl _) (zJ rfl rfl sh26 rfl rfl rfl rfl rfl ?_)))))
  refine zC rfl (zA (zb ?_))
  refine⟨.inr rfl,_,.cons _ _ _ _ (.cellN 4 26 _ _ _ _ rfl rfl sh26 rfl) (.cons _ _ _ _ (.tmp 5) .nil),?_⟩
  exact .refl _
 ·have hp:pitU t v=yz 0 0:=by unfold pitU;rw[if_neg h0]
  have hc:askC t [v]=z6:=by unfold askC;rw[if_neg h0]
  rw[hc]at q59
  rw[hp]
  generalize askE t [v]=e at h0 q59
  refine kQ (yA rfl rfl (zT rfl ze26 ?_))
  refine zC rfl (zA ?_)
  refine zK [(1,.int .i64 v),(2,U.box 0 0),(4,U.box 1 0)] ([SB.box t.cs,SB.box [.int .i64 0,.int .i64 0]]) (.cons rfl (.cons rfl (.cons rfl (.nil rfl)))) rfl fun fr=>?_
  refine kQ (zH rfl rfl rfl sh28 rfl (zB rfl (zBA (es:=[.int .i64 v]) rfl ty29 ze3 cl3 rfl rfl rfl rfl rfl rfl rfl rfl ?_)))
  refine zP rfl q59 (.lcons _ _ _ _ (.refl _) (.lcons _ _ _ _ (.ro _ _ _) (.lrefl _))) ?_
  refine zB rfl (zY rfl rfl rfl (zY rfl rfl rfl (zT rfl ze84 ?_)))
  refine zJ rfl rfl sh84 rfl rfl rfl rfl rfl ?_
  refine zC rfl (zA ?_)
  refine zK [(1,.int .i64 v),(4,U.box 1 0),(6,U.box 2 0),(7,.int .i64 e)] ([SB.box t.cs,SB.box [.int .i64 0,.int .i64 0],SB.box [.lst .full 0 [],.lst .full 0 [],.lst .full 0 [],.int .i64 0,.int .i64 0,.lst .full 0 []]]) (.c4 rfl rfl rfl rfl (.nil rfl)) rfl fun fr=>?_
  refine k_seq (kQ (zB rfl (zAd rfl rfl rfl (zA (k_cT rfl (decide_eq_true (by omega)) (kQ (yK rfl ze26 pl26 rfl rfl ?_)))))))
  refine zB rfl (zJ rfl rfl sh26 rfl rfl rfl rfl rfl ?_)
  refine zC rfl (zA (zb ?_))
  refine⟨.inr rfl,_,.cons _ _ _ _ (.cellN 4 26 _ _ _ _ rfl rfl sh26 rfl) (.cons _ _ _ _ (.tmp 5) .nil),?_⟩
  exact .refl _
noncomputable def canB(t:Ts)(v x:Int):Bool:=decide (askE t [v]=0)&&(decide (hloT t v≤x∧x≤hhiT t v)&&tunB (yN t v x) (zc t))
theorem canB_f(h:askE t [v]≠0):canB t v x=false:=by unfold canB;rw[decide_eq_false h];rfl
theorem ret24(hi:Off is)(t:Ts)(v x:Int):RetP Try.prog is orc 24 [t.u,.int .i64 v,.int .i64 x] (.tup [.bool (canB t v x),.int .i64 (askE t [v])]):=by
 have q59:=ret59 (orc:=orc) hi t [v] (by simp)
 refine yE body24 pure24 (hi 24 (by decide)) rfl rfl (zHL (zAg t 4) (.int _ _ _) (.int _ _ _)) (.inr ⟨_,rfl,yZ (.bool _ _) (.int _ _ _)⟩) ?_
 by_cases h0:askE t [v]=0
 ·obtain⟨hok,hk,_⟩:=ask_ok h0
  have hv:=keys1 hk
  have hc:askC t [v]=setC t (zc t):=by unfold askC;rw[if_pos h0]
  rw[hc]at q59
  obtain⟨q,hq,e1,e2,hqb⟩:=hok.sok.key hv
  have q49:=ret49 (orc:=orc) hi q.a q.b x
  have hcb:canB t v x=((decide (q.a≤x)&&decide (x≤q.b))&&tunB (yN t v x) (zc t)):=by
   unfold canB;rw[decide_eq_true h0,e1,e2,Bool.true_and,Bool.decide_and]
  rw[hcb]
  rw[h0]at q59 ⊢
  cases hin:(decide (q.a≤x)&&decide (x≤q.b))with
  |false=>
   rw[hin]at q49
   refine kQ (yA rfl rfl (zC rfl (zC rfl (zA ?_))))
   refine zK [(1,.int .i64 v),(2,.int .i64 x),(3,U.box 0 0)] ([SB.box t.cs]) (.cons rfl (.cons rfl (.cons rfl (.nil rfl)))) rfl fun fr=>?_
   refine kQ (zH rfl rfl rfl sh28 rfl (zB rfl (zBA (es:=[.int .i64 v]) rfl ty29 ze3 cl3 rfl rfl rfl rfl rfl rfl rfl rfl ?_)))
   refine zP rfl q59 (.lcons _ _ _ _ (.refl _) (.lcons _ _ _ _ (.ro _ _ _) (.lrefl _))) ?_
   refine zB rfl (zY rfl rfl rfl (zY rfl rfl rfl (zT rfl ze84 ?_)))
   refine zJ rfl rfl sh84 rfl rfl rfl rfl rfl ?_
   refine zC rfl (zA ?_)
   refine zK [(1,.int .i64 v),(2,.int .i64 x),(8,U.box 1 0),(9,.int .i64 0)] ([SB.box t.cs,SB.box [.lst .ro 2 (zV t.heard),.lst .ro 2 (yn t.scales),.lst .ro 2 (zV t.pairs),.int .i64 t.lo,.int .i64 t.hi,.lst .ro 5 (jnsU (zc t))]]) (.c4 rfl rfl rfl rfl (.nil rfl)) rfl fun fr=>?_
   refine k_seq (kQ (zB rfl (zAd rfl rfl rfl (zA (k_cF rfl rfl ?_)))))
   refine zQ (k_seq (kQ (zE rfl rfl wB (zE rfl rfl yG (zF rfl rfl rfl sh22 rfl (zB rfl (zq (u:=(q).u) rfl ty22 rfl rfl (by omega) (by simp[hq]) cl26 ?_)))))))
   refine zo rfl rfl sh26 rfl ?_
   refine zB rfl (zP rfl (q49) (.lrefl _) (wS rfl rfl (zA (k_cT rfl rfl ?_))))
   refine kQ (zC rfl (zC rfl (zA (zb ?_))))
   refine⟨.inr rfl,_,.cons _ _ _ _ (.tmp 6) (.cons _ _ _ _ (.tmp 7) .nil),?_⟩
   exact .refl _
  |true=>
   rw[hin]at q49
   simp only[Bool.and_eq_true,decide_eq_true_eq]at hin
   have q64:=ret64 (orc:=orc) (J:=zc t) hi hok.n1 hok.n8 hv (x:=x)
   have q65:=ret65 (orc:=orc) hi (zDc (v:=v) hok.sok (x:=x) (by omega))
   refine kQ (yA rfl rfl (zC rfl (zC rfl (zA ?_))))
   refine zK [(1,.int .i64 v),(2,.int .i64 x),(3,U.box 0 0)] ([SB.box t.cs]) (.cons rfl (.cons rfl (.cons rfl (.nil rfl)))) rfl fun fr=>?_
   refine kQ (zH rfl rfl rfl sh28 rfl (zB rfl (zBA (es:=[.int .i64 v]) rfl ty29 ze3 cl3 rfl rfl rfl rfl rfl rfl rfl rfl ?_)))
   refine zP rfl q59 (.lcons _ _ _ _ (.refl _) (.lcons _ _ _ _ (.ro _ _ _) (.lrefl _))) ?_
   refine zB rfl (zY rfl rfl rfl (zY rfl rfl rfl (zT rfl ze84 ?_)))
   refine zJ rfl rfl sh84 rfl rfl rfl rfl rfl ?_
   refine zC rfl (zA ?_)
   refine zK [(1,.int .i64 v),(2,.int .i64 x),(8,U.box 1 0),(9,.int .i64 0)] ([SB.box t.cs,SB.box [.lst .ro 2 (zV t.heard),.lst .ro 2 (yn t.scales),.lst .ro 2 (zV t.pairs),.int .i64 t.lo,.int .i64 t.hi,.lst .ro 5 (jnsU (zc t))]]) (.c4 rfl rfl rfl rfl (.nil rfl)) rfl fun fr=>?_
   refine k_seq (kQ (zB rfl (zAd rfl rfl rfl (zA (k_cF rfl rfl ?_)))))
   refine zQ (k_seq (kQ (zE rfl rfl wB (zE rfl rfl yG (zF rfl rfl rfl sh22 rfl (zB rfl (zq (u:=(q).u) rfl ty22 rfl rfl (by omega) (by simp[hq]) cl26 ?_)))))))
   refine zo rfl rfl sh26 rfl ?_
   refine zB rfl (zP rfl (q49) (.lrefl _) (wS rfl rfl (zA (k_cF rfl rfl ?_))))
   refine zQ (kQ (zH rfl rfl rfl sh84 rfl (zB rfl (zB rfl (zP rfl (q64) (.lrefl _) (zP rfl (q65) (.lrefl _) (zC rfl (zC rfl ?_))))))))
   refine zA (zb ?_)
   refine⟨.inr rfl,_,.cons _ _ _ _ (.tmp 6) (.cons _ _ _ _ (.tmp 7) .nil),?_⟩
   exact .refl _
 ·rw[canB_f h0]
  have hc:askC t [v]=z6:=by unfold askC;rw[if_neg h0]
  rw[hc]at q59
  generalize askE t [v]=e at h0 q59
  refine kQ (yA rfl rfl (zC rfl (zC rfl (zA ?_))))
  refine zK [(1,.int .i64 v),(2,.int .i64 x),(3,U.box 0 0)] ([SB.box t.cs]) (.cons rfl (.cons rfl (.cons rfl (.nil rfl)))) rfl fun fr=>?_
  refine kQ (zH rfl rfl rfl sh28 rfl (zB rfl (zBA (es:=[.int .i64 v]) rfl ty29 ze3 cl3 rfl rfl rfl rfl rfl rfl rfl rfl ?_)))
  refine zP rfl q59 (.lcons _ _ _ _ (.refl _) (.lcons _ _ _ _ (.ro _ _ _) (.lrefl _))) ?_
  refine zB rfl (zY rfl rfl rfl (zY rfl rfl rfl (zT rfl ze84 ?_)))
  refine zJ rfl rfl sh84 rfl rfl rfl rfl rfl ?_
  refine zC rfl (zA ?_)
  refine zK [(1,.int .i64 v),(2,.int .i64 x),(8,U.box 1 0),(9,.int .i64 e)] ([SB.box t.cs,SB.box [.lst .full 0 [],.lst .full 0 [],.lst .full 0 [],.int .i64 0,.int .i64 0,.lst .full 0 []]]) (.c4 rfl rfl rfl rfl (.nil rfl)) rfl fun fr=>?_
  refine k_seq (kQ (zB rfl (zAd rfl rfl rfl (zA (k_cT rfl (decide_eq_true (by omega)) (kQ (zB rfl (zC rfl ?_))))))))
  refine zC rfl (zA (zb ?_))
  refine⟨.inr rfl,_,.cons _ _ _ _ (.tmp 6) (.cons _ _ _ _ (.tmp 7) .nil),?_⟩
  exact .refl _
end
section
variable {is:FuncId→Bool}{orc:Known}
theorem by3:Program.bytesOf Try.prog 3=8:=by kernel_rfl
theorem zCA:AppT Try.prog 29 29 3 1 8 ((.cons (.int .i64 0) .nil):V):=⟨ty29,⟨_,ty29⟩,cl3,by decide,by3,ze3,rfl⟩
noncomputable def b67:Code:=(Try.f67.body).getD .skip
theorem body67:bodyOf Try.prog 67=some (68,b67,[.cell 6 26]):=by kernel_rfl
theorem pure67:pureFn Try.prog 67=true:=by kernel_rfl
variable {t:Ts}{J:List Jn}{kn mp sv cn:Nat}{st Y Z:List SB}{v x fm:Int}
theorem ut_b(h:SOk t J)(s:Bool)(hv:0≤v∧v<(t.heard.length:Int)):0≤utP t J s v∧utP t J s v≤4000:=by
 unfold utP
 cases hu:utI t J s v with
 |none=>exact⟨Int.le_refl _,by show(0:Int)≤4000;omega⟩
 |some i=>
  have:=zHs h hv (pI_in (s:=s) (ut_some hu).1)
  exact⟨by show 0≤pI s _ _ i;omega,by show pI s _ _ i≤4000;omega⟩
def accI(l:List Int):U:=match l with
 |[]=>.lst .full 0 []
 |l=>.lst .own 1 (zO l)
theorem zHS(x:Int)(l:List Int):accI (l++[x])=.lst .own 1 (zO l++[.int .i64 x]):=by
 cases l with
 |nil=>rfl
 |cons y l=>show U.lst .own 1 (List.map _ ((y::l)++[x]))=_;rw[List.map_append];rfl
theorem apL_succ(t:Ts)(J:List Jn)(a b:Int)(s:Bool)(n:Nat):apL t J a b s (n+1)=apL t J a b s n++(if canS t J a (hloT t a+n) (-1)=true then [utP (yN t a (hloT t a+n)) J s b - (hloT t a+n)]else []):=by
 unfold apL xs0
 rw[List.range_succ,List.map_append,List.filter_append,List.map_append]
 congr 1
 simp only[List.map_cons,List.map_nil,List.filter_cons,List.filter_nil]
 split<;>rfl
theorem apL_len(t:Ts)(J:List Jn)(a b:Int)(s:Bool)(n:Nat):(apL t J a b s n).length≤n:=by
 induction n with
 |zero=>exact Nat.le_refl _
 |succ n ih=>
  rw[apL_succ,List.length_append]
  split<;>simp<;>omega
theorem apL_sm(t:Ts)(J:List Jn)(a b:Int)(n:Nat):(apL t J a b false n).length=(apL t J a b true n).length:=by unfold apL;simp
theorem nbs_two(a b:Int):NBS (.box [.int .i64 a,.int .i64 b]):=⟨_,rfl,fun c hc=>by
 simp only[List.mem_cons,List.not_mem_nil,or_false]at hc
 rcases hc with rfl|rfl<;>exact NB.int _ _⟩
set_option maxHeartbeats 16000000 in
theorem ret67(hi:Off is)(h:SOk t J)(ht:TunE t J){a b:Int}(ha:0≤a∧a<(t.heard.length:Int))(hb:0≤b∧b<(t.heard.length:Int)):RetP Try.prog is orc 67 [.agg (setC t J),.int .i64 a,.int .i64 b] (yz (apI t J a b false) (apI t J a b true)):=by
 have hn8:=h.n8
 obtain⟨q,hq,eq1,eq2,qb⟩:=h.key ha
 refine yE body67 pure67 (hi 67 (by decide)) rfl rfl (zHL (zBJ t J 4) (.int _ _ _) (.int _ _ _)) (.inl (yV _ _ _)) ?_
 refine kQ (yA rfl rfl (zT rfl ze26 ?_))
 refine zA ?_
 refine zK [(1,.int .i64 a),(2,.int .i64 b),(3,U.box 0 0),(6,U.box 1 0)] ([SB.box [.lst .ro 2 (zV t.heard),.lst .ro 2 (yn t.scales),.lst .ro 2 (zV t.pairs),.int .i64 t.lo,.int .i64 t.hi,.lst .ro 5 (jnsU J)],SB.box [.int .i64 0,.int .i64 0]]) (.c4 rfl rfl rfl rfl (.nil rfl)) rfl fun fr=>?_
 refine kQ (zC rfl (zC rfl (zA (kQ (zH rfl rfl rfl sh84 rfl ?_)))))
 (refine zCY rfl (wpc88 t J [.box (setC t J),.box [.int .i64 0,.int .i64 0]]) (.lrefl _) (fun u st1 hM=>?_);obtain⟨rfl,rfl⟩:=hM)
 refine zC rfl (zA (k_seq (kQ (zE rfl rfl wB (zE rfl rfl yG (zF rfl rfl rfl sh22 rfl (zB rfl ?_)))))))
 refine zq (u:=q.u) rfl ty22 rfl rfl (by omega) (by rw[List.getElem?_map,hq];rfl) cl26 ?_
 refine wk rfl rfl zk ?_
 refine zW rfl rfl sh3 rfl ?_
 refine zC rfl (zA ?_)
 refine zK [(1,.int .i64 a),(2,.int .i64 b),(3,U.box 0 0),(6,U.box 1 0),(7,.lst .full 0 []),(8,.lst .full 0 []),(9,U.fn 104 [] [U.box 4 0,U.box 2 0,U.box 5 0]),(10,.int .i64 q.a)] (SB.box (setC t J)::SB.box [.int .i64 0,.int .i64 0]::fnd t J (List.length [SB.box (setC t J),SB.box [.int .i64 0,.int .i64 0]])) (.c4 rfl rfl rfl rfl (.c4 rfl rfl rfl rfl (.nil rfl))) rfl fun fr=>?_
 refine zN ?_
 have hFS:FS t J 4 3 2 5 ([.box (setC t J),.box [.int .i64 0,.int .i64 0]]++fnd t J 2):=fnd_fs (st:=[.box (setC t J),.box [.int .i64 0,.int .i64 0]]) fun y hy=>by
  simp only[List.mem_cons,List.not_mem_nil,or_false]at hy
  rcases hy with rfl|rfl
  ·exact(zDN t J).bd _
  ·exact(nbs_two 0 0).bd _
 refine yg (fun kk s2=>∃(i:Nat),kk+i=apN t a∧FS t J 4 3 2 5 s2.st∧s2.st[0]? =some (.box (setC t J))∧s2.st[1]? =some (.box [.int .i64 0,.int .i64 0])∧
  Holds s2 [(1,.int .i64 a),(2,.int .i64 b),(3,.box 0 0),(6,.box 1 0),(7,accI (apL t J a b false i)),(8,accI (apL t J a b true i)),(9,.fn 104 [] [.box 4 0,.box 2 0,.box 5 0]),(10,.int .i64 (q.a+i))]) (fun kk s2 hI=>?_) (apN t a) _ ⟨0,rfl,hFS,rfl,rfl,.c4 rfl rfl rfl rfl (.cons rfl (.cons rfl (.cons rfl (.cons (congrArg (U.int .i64) (by simp)) (.nil rfl)))))⟩
 obtain⟨i,hki,hF,h0,h1,hs2⟩:=hI
 generalize hst2:s2.st=W at hF h0 h1
 refine zK _ _ hs2 hst2 fun fr2=>?_
 have hNq:apN t a=(q.b+1 - q.a).toNat:=by unfold apN;rw[eq1,eq2]
 by_cases hin:i<apN t a
 ·have hcall:WpC Try.prog is orc 104 [wt a (q.a+i) (-1),.box 4 0,.box 2 0,.box 5 0] W fun u st'=>u=.bool (canS t J a (q.a+i) (-1))∧Upd t J 3 W st':=wpc104 h 8 is orc hi a _ [] W (.one a) ha (by simp) (by omega) hF
  refine k_seq (kQ (zB rfl (zE rfl rfl wB (zE rfl rfl yG (zF rfl rfl h0 sh22 rfl ?_)))))
  refine zB rfl ?_
  refine zq (u:=q.u) rfl ty22 rfl rfl (by omega) (by rw[List.getElem?_map,hq];rfl) cl26 ?_
  refine wk rfl rfl zp ?_
  refine zW rfl rfl sh3 rfl ?_
  refine wq rfl rfl rfl (zA (k_cT rfl (decide_eq_true (by omega)) (zQ (k_seq (zN (kQ (zB rfl (zB rfl ?_))))))))
  refine zB rfl (yK rfl ze115 pl115 rfl rfl ?_)
  refine zEy rfl rfl hcall (.lrefl _) fun u st1 hM=>?_
  obtain⟨rfl,hU⟩:=hM
  have hF1:=hF.upd hU
  have h01:=hU.at (by decide) h0
  have h11:=hU.at (by decide) h1
  have hsf:=apL_succ t J a b false i
  have hst:=apL_succ t J a b true i
  rw[eq1]at hsf hst
  cases hc:canS t J a (q.a+i) (-1)with
  |false=>
   rw[hc,if_neg (by decide),List.append_nil]at hsf hst
   refine zA (k_cF rfl rfl ?_)
   refine zQ (k_region (zB rfl ?_))
   refine yT rfl rfl rfl (by unfold I64;omega) (zC rfl (zA ?_))
   exact⟨kk - 1,by omega,i+1,by omega,hF1,h01,h11,.c4 rfl rfl rfl rfl (.cons (congrArg accI hsf.symm) (.cons (congrArg accI hst.symm) (.cons rfl (.cons (congrArg (U.int .i64) (by omega)) (.nil rfl)))))⟩
  |true=>
   rw[hc,if_pos rfl]at hsf hst
   have q64:=ret64 (orc:=orc) (J:=J) hi h.n1 h.n8 ha (x:=q.a+i)
   have hnsk:=zDc (v:=a) h (x:=q.a+i) (by omega)
   have hnl:(yN t a (q.a+i)).heard.length=t.heard.length:=by unfold yN;simp
   have q63:=ret63 (orc:=orc) hi hnsk (v:=b) (by omega)
   have bl:=ut_b hnsk false (v:=b) (by omega)
   have bh:=ut_b hnsk true (v:=b) (by omega)
   generalize utP (yN t a (q.a+i)) J false b=u0 at hsf q63 bl
   generalize utP (yN t a (q.a+i)) J true b=u1 at hst q63 bh
   have hl0:=apL_len t J a b false i
   have hl1:=apL_len t J a b true i
   have hls:=apL_sm t J a b i
   obtain⟨L,hL⟩:∃L,L=apL t J a b false i:=⟨_,rfl⟩
   obtain⟨M,hM⟩:∃M,M=apL t J a b true i:=⟨_,rfl⟩
   have hF2:=hF1.snoc (nbs_two u0 u1)
   have h02:=zg (m:=[SB.box [.int .i64 u0,.int .i64 u1]]) h01
   have h12:=zg (m:=[SB.box [.int .i64 u0,.int .i64 u1]]) h11
   rw[←hL,←hM]at hls
   rw[←hL]at hsf hl0
   rw[←hM]at hst hl1
   rw[←hL,←hM]
   cases L with
   |nil=>
    cases M with
    |cons y M=>cases hls
    |nil=>
     refine zA (k_cT rfl rfl ?_)
     refine kQ (zH rfl rfl h01 sh84 rfl ?_)
     refine zB rfl (zB rfl (zP rfl (q64) (.lrefl _) (zB rfl (zP rfl (q63) (.lrefl _) (zT rfl ze26 ?_)))))
     refine zJ rfl (zX _ _) sh26 rfl rfl rfl rfl rfl ?_
     refine zA ?_
     refine zK [(1,.int .i64 a),(2,.int .i64 b),(3,U.box 0 0),(6,U.box 1 0),(7,accI []),(8,accI []),(9,U.fn 104 [] [U.box 4 0,U.box 2 0,U.box 5 0]),(10,.int .i64 (Two.a q+ ↑i)),(11,U.box (List.length st1) 0)] (st1++[SB.box [.int .i64 u0,.int .i64 u1]]) (.c4 rfl rfl rfl rfl (.c4 rfl rfl rfl rfl (.cons rfl (.nil rfl)))) (yC _ _ _) fun fr=>?_
     refine kQ (zB rfl (zE rfl rfl zk (zF rfl rfl (zX _ _) sh3 rfl ?_)))
     refine zB rfl ?_
     refine zAW rfl rfl rfl (by unfold I64;omega) (zBA (es:=[.int .i64 (u0 - (Two.a q+ ↑i))]) rfl ty29 ze3 cl3 rfl rfl rfl rfl rfl rfl rfl rfl ?_)
     refine wu rfl zCA rfl rfl (by simp) (by simp) (by simp[zn,zi,oneU]) (by simp) ?_
     refine zC rfl (zA (k_region (zB rfl (zE rfl rfl zp (zF rfl rfl (zX _ _) sh3 rfl ?_)))))
     refine zB rfl ?_
     refine zAW rfl rfl rfl (by unfold I64;omega) (zBA (es:=[.int .i64 (u1 - (Two.a q+ ↑i))]) rfl ty29 ze3 cl3 rfl rfl rfl rfl rfl rfl rfl rfl ?_)
     refine wu rfl zCA rfl rfl (by simp) (by simp) (by simp[zn,zi,oneU]) (by simp) ?_
     refine zC rfl (zA ?_)
     refine zK [(1,.int .i64 a),(2,.int .i64 b),(3,U.box 0 0),(6,U.box 1 0),(7,U.lst Kd.own 1 [.int .i64 (u0 - (Two.a q+ ↑i))]),(8,U.lst Kd.own 1 [.int .i64 (u1 - (Two.a q+ ↑i))]),(9,U.fn 104 [] [U.box 4 0,U.box 2 0,U.box 5 0]),(10,.int .i64 (Two.a q+ ↑i))] (st1++[SB.box [.int .i64 u0,.int .i64 u1]]) (.c4 rfl rfl rfl rfl (.c4 rfl rfl rfl rfl (.nil rfl))) rfl fun fr=>?_
     refine k_region (zB rfl ?_)
     refine yT rfl rfl rfl (by unfold I64;omega) (zC rfl (zA ?_))
     exact⟨kk - 1,by omega,i+1,by omega,hF2,h02,h12,.c4 rfl rfl rfl rfl (.cons (by rw[hsf];rfl) (.cons (by rw[hst];rfl) (.cons rfl (.cons (congrArg (U.int .i64) (by omega)) (.nil rfl)))))⟩
   |cons z L=>
    cases M with
    |nil=>cases hls
    |cons y M=>
     refine zA (k_cT rfl rfl ?_)
     refine kQ (zH rfl rfl h01 sh84 rfl ?_)
     refine zB rfl (zB rfl (zP rfl (q64) (.lrefl _) (zB rfl (zP rfl (q63) (.lrefl _) (zT rfl ze26 ?_)))))
     refine zJ rfl (zX _ _) sh26 rfl rfl rfl rfl rfl ?_
     refine zA ?_
     refine zK [(1,.int .i64 a),(2,.int .i64 b),(3,U.box 0 0),(6,U.box 1 0),(7,accI (z::L)),(8,accI (y::M)),(9,U.fn 104 [] [U.box 4 0,U.box 2 0,U.box 5 0]),(10,.int .i64 (Two.a q+ ↑i)),(11,U.box (List.length st1) 0)] (st1++[SB.box [.int .i64 u0,.int .i64 u1]]) (.c4 rfl rfl rfl rfl (.c4 rfl rfl rfl rfl (.cons rfl (.nil rfl)))) (yC _ _ _) fun fr=>?_
     refine kQ (zB rfl (zE rfl rfl zk (zF rfl rfl (zX _ _) sh3 rfl ?_)))
     refine zB rfl ?_
     refine zAW rfl rfl rfl (by unfold I64;omega) (zBA (es:=[.int .i64 (u0 - (Two.a q+ ↑i))]) rfl ty29 ze3 cl3 rfl rfl rfl rfl rfl rfl rfl rfl ?_)
     refine zCH 7 rfl zCA rfl rfl rfl (by simp) (by simp) (by simp[zn,zi,oneU]) (by simp at hl0 hl1 ⊢;omega) ?_
     refine zC rfl (zA (k_region (zB rfl (zE rfl rfl zp (zF rfl rfl (zX _ _) sh3 rfl ?_)))))
     refine zB rfl ?_
     refine zAW rfl rfl rfl (by unfold I64;omega) (zBA (es:=[.int .i64 (u1 - (Two.a q+ ↑i))]) rfl ty29 ze3 cl3 rfl rfl rfl rfl rfl rfl rfl rfl ?_)
     refine zCH 8 rfl zCA rfl rfl rfl (by simp) (by simp) (by simp[zn,zi,oneU]) (by simp at hl0 hl1 ⊢;omega) ?_
     refine zC rfl (zA ?_)
     refine zK [(1,.int .i64 a),(2,.int .i64 b),(3,U.box 0 0),(6,U.box 1 0),(7,U.lst Kd.own 1 (.int .i64 z::List.append (List.map (fun n ↦ .int .i64 n) L) [.int .i64 (u0 - (Two.a q+ ↑i))])),(8,U.lst Kd.own 1 (.int .i64 y::List.append (List.map (fun n ↦ .int .i64 n) M) [.int .i64 (u1 - (Two.a q+ ↑i))])),(9,U.fn 104 [] [U.box 4 0,U.box 2 0,U.box 5 0]),(10,.int .i64 (Two.a q+ ↑i))] (st1++[SB.box [.int .i64 u0,.int .i64 u1]]) (.c4 rfl rfl rfl rfl (.c4 rfl rfl rfl rfl (.nil rfl))) rfl fun fr=>?_
     refine k_region (zB rfl ?_)
     refine yT rfl rfl rfl (by unfold I64;omega) (zC rfl (zA ?_))
     exact⟨kk - 1,by omega,i+1,by omega,hF2,h02,h12,.c4 rfl rfl rfl rfl (.cons (by rw[hsf,zHS];rfl) (.cons (by rw[hst,zHS];rfl) (.cons rfl (.cons (congrArg (U.int .i64) (by omega)) (.nil rfl)))))⟩
 ·have hiN:i=apN t a:=by omega
  subst hiN
  obtain⟨p0,hp0⟩:=ht
  have hin0:InH t a (p0 a):=hp0.1 a ha.1 ha.2
  have hc0:=(zFr h ⟨p0,hp0⟩ ha hin0).2 ⟨p0,hp0,rfl⟩
  have hm0:p0 a∈xs0 t J a (apN t a):=zEG.2 ⟨hin0,hc0⟩
  have hl0:=apL_len t J a b false (apN t a)
  have hl1:=apL_len t J a b true (apN t a)
  have e0:apI t J a b false=(apL t J a b false (apN t a)).foldl min ((apL t J a b false (apN t a)).headD 0):=rfl
  have e1:apI t J a b true=(apL t J a b true (apN t a)).foldl max ((apL t J a b true (apN t a)).headD 0):=rfl
  have n0:apL t J a b false (apN t a)≠[]:=by
   have:utP (yN t a (p0 a)) J false b - p0 a∈apL t J a b false (apN t a):=List.mem_map.2 ⟨_,hm0,rfl⟩
   intro e;rw[e]at this;cases this
  have n1:apL t J a b true (apN t a)≠[]:=by
   have:utP (yN t a (p0 a)) J true b - p0 a∈apL t J a b true (apN t a):=List.mem_map.2 ⟨_,hm0,rfl⟩
   intro e;rw[e]at this;cases this
  rw[e0,e1]
  generalize apL t J a b false (apN t a)=L at n0 hl0
  generalize apL t J a b true (apN t a)=M at n1 hl1
  cases L with
  |nil=>exact absurd rfl n0
  |cons z L=>
   cases M with
   |nil=>exact absurd rfl n1
   |cons y M=>
    have q93:=ret93 (orc:=orc) hi z (z::L) (by omega)
    have q94:=ret94 (orc:=orc) hi y (y::M) (by omega)
    refine k_seq (kQ (zB rfl (zE rfl rfl wB (zE rfl rfl yG (zF rfl rfl h0 sh22 rfl ?_)))))
    refine zB rfl ?_
    refine zq (u:=q.u) rfl ty22 rfl rfl (by omega) (by rw[List.getElem?_map,hq];rfl) cl26 ?_
    refine wk rfl rfl zp ?_
    refine zW rfl rfl sh3 rfl ?_
    refine wq rfl rfl rfl (zA (k_cF rfl (decide_eq_false (by omega)) (yO (k_seq (yr [.plain,.plain,.read true,.plain,.read false,.plain,.plain,.read true,.plain,.plain,.plain,.plain] (by kernel_rfl) (by kernel_rfl) (by kernel_rfl) ?_)))))
    refine zD (zB rfl (zA rfl)) (zD (zq rfl ty29 rfl rfl (by decide) rfl cl3 (zA rfl)) ?_)
    refine zS rfl (zW rfl rfl sh3 rfl (zA rfl)) ?_
    refine zD (zB rfl (zA rfl)) (wF rfl (q93) (.int _ _) (.lrefl _) ?_)
    refine zD (zB rfl (zA rfl)) (zD (zq rfl ty29 rfl rfl (by decide) rfl cl3 (zA rfl)) ?_)
    refine zS rfl (zW rfl rfl sh3 rfl (zA rfl)) ?_
    refine zD (zB rfl (zA rfl)) (zD (zP rfl q94 (.lcons _ _ _ _ (.refl _) (.lcons _ _ _ _ (.ro _ _ _) (.lrefl _))) (zA rfl)) ?_)
    refine zD (yK rfl ze26 pl26 rfl rfl (zA rfl)) ?_
    refine zD (zJ rfl h1 sh26 rfl rfl rfl rfl rfl (zA rfl)) ?_
    refine wc ?_
    refine zb ?_
    refine⟨.inr rfl,_,.cons _ _ _ _ (.cellN 6 26 _ _ _ _ rfl (at_put h1) sh26 rfl) .nil,?_⟩
    exact .refl _
end
section
variable {is:FuncId→Bool}{orc:Known}
noncomputable def b26:Code:=(Try.f26.body).getD .skip
theorem body26:bodyOf Try.prog 26=some (26,b26,[.cell 6 26,.tmp 7]):=by kernel_rfl
theorem pure26:pureFn Try.prog 26=true:=by kernel_rfl
variable {t:Ts}{J:List Jn}{v x:Int}
theorem keys2{a b:Int}(h:zEa t [a,b]=true):(0≤a∧a<(t.heard.length:Int))∧(0≤b∧b<(t.heard.length:Int)):=by
 unfold zEa at h;simp at h;omega
noncomputable def apaU(t:Ts)(a b:Int):U:=if askE t [a,b]=0 then yz (apI t (zc t) a b false) (apI t (zc t) a b true)else yz 0 0
theorem dat_apa(t:Ts)(a b:Int)(k:Nat):Dat (k+2) (apaU t a b):=by
 unfold apaU;split<;>exact yV _ _ _
set_option maxHeartbeats 8000000 in
theorem ret26(hi:Off is)(t:Ts)(a b:Int):RetP Try.prog is orc 26 [t.u,.int .i64 a,.int .i64 b] (.tup [apaU t a b,.int .i64 (askE t [a,b])]):=by
 have q59:=ret59 (orc:=orc) hi t [a,b] (by simp)
 refine yE body26 pure26 (hi 26 (by decide)) rfl rfl (zHL (zAg t 4) (.int _ _ _) (.int _ _ _)) (.inr ⟨_,rfl,yZ (dat_apa t a b 5) (.int _ _ _)⟩) ?_
 by_cases h0:askE t [a,b]=0
 ·obtain⟨hok,hk,htb⟩:=ask_ok h0
  obtain⟨ha,hb⟩:=keys2 hk
  have hp:apaU t a b=yz (apI t (zc t) a b false) (apI t (zc t) a b true):=by unfold apaU;rw[if_pos h0]
  have hc:askC t [a,b]=setC t (zc t):=by unfold askC;rw[if_pos h0]
  rw[hc]at q59
  rw[hp]
  have q67:=ret67 (orc:=orc) hi hok.sok ((zBh hok.sok).1 htb) ha hb
  rw[h0]at q59 ⊢
  refine kQ (yA rfl rfl (zT rfl ze26 ?_))
  refine zC rfl (zA ?_)
  refine zK [(1,.int .i64 a),(2,.int .i64 b),(3,U.box 0 0),(6,U.box 1 0)] ([SB.box t.cs,SB.box [.int .i64 0,.int .i64 0]]) (.c4 rfl rfl rfl rfl (.nil rfl)) rfl fun fr=>?_
  refine kQ (zH rfl rfl rfl sh28 rfl (zB rfl (zB rfl (zBA (es:=[.int .i64 a,.int .i64 b]) rfl ty29 ze3 cl3 rfl rfl rfl rfl rfl rfl rfl rfl ?_))))
  refine zP rfl q59 (.lcons _ _ _ _ (.refl _) (.lcons _ _ _ _ (.ro _ _ _) (.lrefl _))) ?_
  refine zB rfl (zY rfl rfl rfl (zY rfl rfl rfl (zT rfl ze84 ?_)))
  refine zJ rfl rfl sh84 rfl rfl rfl rfl rfl ?_
  refine zC rfl (zA ?_)
  refine zK [(1,.int .i64 a),(2,.int .i64 b),(6,U.box 1 0),(8,U.box 2 0),(9,.int .i64 0)] ([SB.box t.cs,SB.box [.int .i64 0,.int .i64 0],SB.box [.lst .ro 2 (zV t.heard),.lst .ro 2 (yn t.scales),.lst .ro 2 (zV t.pairs),.int .i64 t.lo,.int .i64 t.hi,.lst .ro 5 (jnsU (zc t))]]) (.c4 rfl rfl rfl rfl (.cons rfl (.nil rfl))) rfl fun fr=>?_
  refine k_seq (kQ (zB rfl (zAd rfl rfl rfl (zA (k_cF rfl rfl ?_)))))
  refine zQ (kQ (zH rfl rfl rfl sh84 rfl (zB rfl (zB rfl (zP rfl (q67) (.lrefl _) (zJ rfl rfl sh26 rfl rfl rfl rfl rfl ?_))))))
  refine zC rfl (zA (zb ?_))
  refine⟨.inr rfl,_,.cons _ _ _ _ (.cellN 6 26 _ _ _ _ rfl rfl sh26 rfl) (.cons _ _ _ _ (.tmp 7) .nil),?_⟩
  exact .refl _
 ·have hp:apaU t a b=yz 0 0:=by unfold apaU;rw[if_neg h0]
  have hc:askC t [a,b]=z6:=by unfold askC;rw[if_neg h0]
  rw[hc]at q59
  rw[hp]
  generalize askE t [a,b]=e at h0 q59
  refine kQ (yA rfl rfl (zT rfl ze26 ?_))
  refine zC rfl (zA ?_)
  refine zK [(1,.int .i64 a),(2,.int .i64 b),(3,U.box 0 0),(6,U.box 1 0)] ([SB.box t.cs,SB.box [.int .i64 0,.int .i64 0]]) (.c4 rfl rfl rfl rfl (.nil rfl)) rfl fun fr=>?_
  refine kQ (zH rfl rfl rfl sh28 rfl (zB rfl (zB rfl (zBA (es:=[.int .i64 a,.int .i64 b]) rfl ty29 ze3 cl3 rfl rfl rfl rfl rfl rfl rfl rfl ?_))))
  refine zP rfl q59 (.lcons _ _ _ _ (.refl _) (.lcons _ _ _ _ (.ro _ _ _) (.lrefl _))) ?_
  refine zB rfl (zY rfl rfl rfl (zY rfl rfl rfl (zT rfl ze84 ?_)))
  refine zJ rfl rfl sh84 rfl rfl rfl rfl rfl ?_
  refine zC rfl (zA ?_)
  refine zK [(1,.int .i64 a),(2,.int .i64 b),(6,U.box 1 0),(8,U.box 2 0),(9,.int .i64 e)] ([SB.box t.cs,SB.box [.int .i64 0,.int .i64 0],SB.box [.lst .full 0 [],.lst .full 0 [],.lst .full 0 [],.int .i64 0,.int .i64 0,.lst .full 0 []]]) (.c4 rfl rfl rfl rfl (.cons rfl (.nil rfl))) rfl fun fr=>?_
  refine k_seq (kQ (zB rfl (zAd rfl rfl rfl (zA (k_cT rfl (decide_eq_true (by omega)) (kQ (yK rfl ze26 pl26 rfl rfl ?_)))))))
  refine zB rfl (zJ rfl rfl sh26 rfl rfl rfl rfl rfl ?_)
  refine zC rfl (zA (zb ?_))
  refine⟨.inr rfl,_,.cons _ _ _ _ (.cellN 6 26 _ _ _ _ rfl rfl sh26 rfl) (.cons _ _ _ _ (.tmp 7) .nil),?_⟩
  exact .refl _
end
end Go.Proofs.Ytinhcdijbcamaaa.tuneTrue
