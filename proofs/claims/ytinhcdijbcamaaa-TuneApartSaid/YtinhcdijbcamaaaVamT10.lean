import Derived.Test.YtinhcdijbcamaaaVamT9
set_option linter.unusedVariables false
set_option linter.unusedSimpArgs false
set_option linter.constructorNameAsVariable false
namespace Go.Proofs.Ytinhcdijbcamaaa.tuneApart
open Vam
variable {is:FuncId→Bool}{orc:Known}
variable {t:Ts}{J:List Jn}{v x:Int}
theorem ask_ok{l:List Int}(h:askE t l=0):TOk t∧keysB t l=true∧tunB t (joinsI t)=true:=by
 unfold askE at h
 split at h
 ·rename_i h1
  split at h
  ·rename_i h2
   split at h
   ·rename_i h3
    exact⟨(valid_iff t).1 h1,h2,h3⟩
   ·omega
  ·omega
 ·omega
end Go.Proofs.Ytinhcdijbcamaaa.tuneApart
namespace Go.Proofs.Ytinhcdijbcamaaa.tuneApart
open Vam
variable {is:FuncId→Bool}{orc:Known}
theorem by3:Program.bytesOf Try.prog 3=8:=by kernel_rfl
theorem ap29_29:AppT Try.prog 29 29 3 1 8 ((.cons (.int .i64 0) .nil):V):=⟨ty29,⟨_,ty29⟩,cl3,by decide,by3,ze3,rfl⟩
noncomputable def b67:Code:=(Try.f67.body).getD .skip
theorem body67:bodyOf Try.prog 67=some (68,b67,[.cell 6 26]):=by kernel_rfl
theorem pure67:pureFn Try.prog 67=true:=by kernel_rfl
variable {t:Ts}{J:List Jn}{kn mp sv cn:Nat}{st Y Z:List SB}{v x fm:Int}
theorem ut_b(h:SOk t J)(s:Bool)(hv:0≤v∧v<(t.heard.length:Int)):0≤utP t J s v∧utP t J s v≤4000:=by
 unfold utP
 cases hu:utI t J s v with
 |none=>exact⟨Int.le_refl _,by show(0:Int)≤4000;omega⟩
 |some i=>
  have:=in_pos h hv (pI_in (s:=s) (ut_some hu).1)
  exact⟨by show 0≤pI s _ _ i;omega,by show pI s _ _ i≤4000;omega⟩
def accI(l:List Int):U:=match l with
 |[]=>.lst .full 0 []
 |l=>.lst .own 1 (intsU l)
theorem accI_snoc(x:Int)(l:List Int):accI (l++[x])=.lst .own 1 (intsU l++[.int .i64 x]):=by
 cases l with
 |nil=>rfl
 |cons y l=>show U.lst .own 1 (List.map _ ((y::l)++[x]))=_;rw[List.map_append];rfl
theorem apL_succ(t:Ts)(J:List Jn)(a b:Int)(s:Bool)(n:Nat):apL t J a b s (n+1)=apL t J a b s n++(if canS t J a (hloT t a+n) (-1)=true then [utP (narrow t a (hloT t a+n)) J s b - (hloT t a+n)]else []):=by
 unfold apL xs0
 rw[List.range_succ,List.map_append,List.filter_append,List.map_append]
 congr 1
 simp only[List.map_cons,List.map_nil,List.filter_cons,List.filter_nil]
 split<;>rfl
theorem apL_len(t:Ts)(J:List Jn)(a b:Int)(s:Bool)(n:Nat):(apL t J a b s n).length≤n:=by
 induction n with
 |zero=>exact Nat.le_refl _
 |succ n ih=>
  rw[apL_succ,List.length_append]
  split<;>simp<;>omega
theorem apL_sm(t:Ts)(J:List Jn)(a b:Int)(n:Nat):(apL t J a b false n).length=(apL t J a b true n).length:=by unfold apL;simp
theorem nbs_two(a b:Int):NBS (.box [.int .i64 a,.int .i64 b]):=⟨_,rfl,fun c hc=>by
 simp only[List.mem_cons,List.not_mem_nil,or_false]at hc
 rcases hc with rfl|rfl<;>exact NB.int _ _⟩
set_option maxHeartbeats 16000000 in
theorem ret67(hi:Off is)(h:SOk t J)(ht:TunE t J){a b:Int}(ha:0≤a∧a<(t.heard.length:Int))(hb:0≤b∧b<(t.heard.length:Int)):RetP Try.prog is orc 67 [.agg (setC t J),.int .i64 a,.int .i64 b] (spanU (apI t J a b false) (apI t J a b true)):=by
 have hn8:=h.n8
 obtain⟨q,hq,eq1,eq2,qb⟩:=h.key ha
 refine ret_of body67 pure67 (hi 67 (by decide)) rfl rfl (dat_l3 (dat_set t J 4) (.int _ _ _) (.int _ _ _)) (.inl (dat_span _ _ _)) ?_
 refine k_seq (k_region (o_box rfl rfl (o_alloc rfl ze26 ?_)))
 refine o_nil ?_
 refine k_gen [(1,.int .i64 a),(2,.int .i64 b),(3,U.box 0 0),(6,U.box 1 0)] ([SB.box [.lst .ro 2 (twosU t.heard),.lst .ro 2 (sclsU t.scales),.lst .ro 2 (twosU t.pairs),.int .i64 t.lo,.int .i64 t.hi,.lst .ro 5 (jnsU J)],SB.box [.int .i64 0,.int .i64 0]]) (.c4 rfl rfl rfl rfl (.nil rfl)) rfl fun fr=>?_
 refine k_seq (k_region (o_assign rfl (o_assign rfl (o_nil (k_seq (k_region (o_loadN rfl rfl rfl sh84 rfl ?_)))))))
 (refine o_callW rfl (wpc88 t J [.box (setC t J),.box [.int .i64 0,.int .i64 0]]) (.lrefl _) (fun u st1 hM=>?_);obtain⟨rfl,rfl⟩:=hM)
 refine o_assign rfl (o_nil (k_seq (k_seq (k_region (o_faddr rfl rfl fld84_0 (o_faddr rfl rfl fld28_0 (o_load1 rfl rfl rfl sh22 rfl (o_move rfl ?_))))))))
 refine o_idx (u:=q.u) rfl ty22 rfl rfl (by omega) (by rw[List.getElem?_map,hq];rfl) cl26 ?_
 refine o_faddrR rfl rfl fld26_0 ?_
 refine o_loadR1 rfl rfl sh3 rfl ?_
 refine o_assign rfl (o_nil ?_)
 refine k_gen [(1,.int .i64 a),(2,.int .i64 b),(3,U.box 0 0),(6,U.box 1 0),(7,.lst .full 0 []),(8,.lst .full 0 []),(9,U.fn 104 [] [U.box 4 0,U.box 2 0,U.box 5 0]),(10,.int .i64 q.a)] (SB.box (setC t J)::SB.box [.int .i64 0,.int .i64 0]::fnd t J (List.length [SB.box (setC t J),SB.box [.int .i64 0,.int .i64 0]])) (.c4 rfl rfl rfl rfl (.c4 rfl rfl rfl rfl (.nil rfl))) rfl fun fr=>?_
 refine k_block ?_
 have hFS:FS t J 4 3 2 5 ([.box (setC t J),.box [.int .i64 0,.int .i64 0]]++fnd t J 2):=fnd_fs (st:=[.box (setC t J),.box [.int .i64 0,.int .i64 0]]) fun y hy=>by
  simp only[List.mem_cons,List.not_mem_nil,or_false]at hy
  rcases hy with rfl|rfl
  ·exact(nbs_set t J).bd _
  ·exact(nbs_two 0 0).bd _
 refine k_loop (fun kk s2=>∃(i:Nat),kk+i=apN t a∧FS t J 4 3 2 5 s2.st∧s2.st[0]? =some (.box (setC t J))∧s2.st[1]? =some (.box [.int .i64 0,.int .i64 0])∧
  Holds s2 [(1,.int .i64 a),(2,.int .i64 b),(3,.box 0 0),(6,.box 1 0),(7,accI (apL t J a b false i)),(8,accI (apL t J a b true i)),(9,.fn 104 [] [.box 4 0,.box 2 0,.box 5 0]),(10,.int .i64 (q.a+i))]) (fun kk s2 hI=>?_) (apN t a) _ ⟨0,rfl,hFS,rfl,rfl,.c4 rfl rfl rfl rfl (.cons rfl (.cons rfl (.cons rfl (.cons (congrArg (U.int .i64) (by simp)) (.nil rfl)))))⟩
 obtain⟨i,hki,hF,h0,h1,hs2⟩:=hI
 generalize hst2:s2.st=W at hF h0 h1
 refine k_gen _ _ hs2 hst2 fun fr2=>?_
 have hNq:apN t a=(q.b+1 - q.a).toNat:=by unfold apN;rw[eq1,eq2]
 by_cases hin:i<apN t a
 ·have hcall:WpC Try.prog is orc 104 [spotU a (q.a+i) (-1),.box 4 0,.box 2 0,.box 5 0] W fun u st'=>u=.bool (canS t J a (q.a+i) (-1))∧Upd t J 3 W st':=wpc104 h 8 is orc hi a _ [] W (.one a) ha (by simp) (by omega) hF
  refine k_seq (k_seq (k_region (o_move rfl (o_faddr rfl rfl fld84_0 (o_faddr rfl rfl fld28_0 (o_load1 rfl rfl h0 sh22 rfl ?_))))))
  refine o_move rfl ?_
  refine o_idx (u:=q.u) rfl ty22 rfl rfl (by omega) (by rw[List.getElem?_map,hq];rfl) cl26 ?_
  refine o_faddrR rfl rfl fld26_1 ?_
  refine o_loadR1 rfl rfl sh3 rfl ?_
  refine o_leq rfl rfl rfl (o_nil (k_cT rfl (decide_eq_true (by omega)) (k_skip (k_seq (k_block (k_seq (k_region (o_move rfl (o_move rfl ?_)))))))))
  refine o_move rfl (o_build rfl ze115 pl115 rfl rfl ?_)
  refine o_callV rfl rfl hcall (.lrefl _) fun u st1 hM=>?_
  obtain⟨rfl,hU⟩:=hM
  have hF1:=hF.upd hU
  have h01:=hU.at (by decide) h0
  have h11:=hU.at (by decide) h1
  have hsf:=apL_succ t J a b false i
  have hst:=apL_succ t J a b true i
  rw[eq1]at hsf hst
  cases hc:canS t J a (q.a+i) (-1)with
  |false=>
   rw[hc,if_neg (by decide),List.append_nil]at hsf hst
   refine o_nil (k_cF rfl rfl ?_)
   refine k_skip (k_region (o_move rfl ?_))
   refine o_add rfl rfl rfl (by unfold I64;omega) (o_assign rfl (o_nil ?_))
   exact⟨kk - 1,by omega,i+1,by omega,hF1,h01,h11,.c4 rfl rfl rfl rfl (.cons (congrArg accI hsf.symm) (.cons (congrArg accI hst.symm) (.cons rfl (.cons (congrArg (U.int .i64) (by omega)) (.nil rfl)))))⟩
  |true=>
   rw[hc,if_pos rfl]at hsf hst
   have q64:=ret64 (orc:=orc) (J:=J) hi h.n1 h.n8 ha (x:=q.a+i)
   have hnsk:=narrow_sok (v:=a) h (x:=q.a+i) (by omega)
   have hnl:(narrow t a (q.a+i)).heard.length=t.heard.length:=by unfold narrow;simp
   have q63:=ret63 (orc:=orc) hi hnsk (v:=b) (by omega)
   have bl:=ut_b hnsk false (v:=b) (by omega)
   have bh:=ut_b hnsk true (v:=b) (by omega)
   generalize utP (narrow t a (q.a+i)) J false b=u0 at hsf q63 bl
   generalize utP (narrow t a (q.a+i)) J true b=u1 at hst q63 bh
   have hl0:=apL_len t J a b false i
   have hl1:=apL_len t J a b true i
   have hls:=apL_sm t J a b i
   obtain⟨L,hL⟩:∃L,L=apL t J a b false i:=⟨_,rfl⟩
   obtain⟨M,hM⟩:∃M,M=apL t J a b true i:=⟨_,rfl⟩
   have hF2:=hF1.snoc (nbs_two u0 u1)
   have h02:=at_pre (m:=[SB.box [.int .i64 u0,.int .i64 u1]]) h01
   have h12:=at_pre (m:=[SB.box [.int .i64 u0,.int .i64 u1]]) h11
   rw[←hL,←hM]at hls
   rw[←hL]at hsf hl0
   rw[←hM]at hst hl1
   rw[←hL,←hM]
   cases L with
   |nil=>
    cases M with
    |cons y M=>cases hls
    |nil=>
     refine o_nil (k_cT rfl rfl ?_)
     refine k_seq (k_region (o_loadN rfl rfl h01 sh84 rfl ?_))
     refine o_move rfl (o_move rfl (o_call rfl (q64) (.lrefl _) (o_move rfl (o_call rfl (q63) (.lrefl _) (o_alloc rfl ze26 ?_)))))
     refine o_storeN rfl (at_new _ _) sh26 rfl rfl rfl rfl rfl ?_
     refine o_nil ?_
     refine k_gen [(1,.int .i64 a),(2,.int .i64 b),(3,U.box 0 0),(6,U.box 1 0),(7,accI []),(8,accI []),(9,U.fn 104 [] [U.box 4 0,U.box 2 0,U.box 5 0]),(10,.int .i64 (Two.a q+ ↑i)),(11,U.box (List.length st1) 0)] (st1++[SB.box [.int .i64 u0,.int .i64 u1]]) (.c4 rfl rfl rfl rfl (.c4 rfl rfl rfl rfl (.cons rfl (.nil rfl)))) (set_end _ _ _) fun fr=>?_
     refine k_seq (k_region (o_move rfl (o_faddr rfl rfl fld26_0 (o_load1 rfl rfl (at_new _ _) sh3 rfl ?_))))
     refine o_move rfl ?_
     refine o_sub rfl rfl rfl (by unfold I64;omega) (o_lit (es:=[.int .i64 (u0 - (Two.a q+ ↑i))]) rfl ty29 ze3 cl3 rfl rfl rfl rfl rfl rfl rfl rfl ?_)
     refine o_appendF rfl ap29_29 rfl rfl (by simp) (by simp) (by simp[flatU,cellsU,oneU]) (by simp) ?_
     refine o_assign rfl (o_nil (k_region (o_move rfl (o_faddr rfl rfl fld26_1 (o_load1 rfl rfl (at_new _ _) sh3 rfl ?_)))))
     refine o_move rfl ?_
     refine o_sub rfl rfl rfl (by unfold I64;omega) (o_lit (es:=[.int .i64 (u1 - (Two.a q+ ↑i))]) rfl ty29 ze3 cl3 rfl rfl rfl rfl rfl rfl rfl rfl ?_)
     refine o_appendF rfl ap29_29 rfl rfl (by simp) (by simp) (by simp[flatU,cellsU,oneU]) (by simp) ?_
     refine o_assign rfl (o_nil ?_)
     refine k_gen [(1,.int .i64 a),(2,.int .i64 b),(3,U.box 0 0),(6,U.box 1 0),(7,U.lst Kd.own 1 [.int .i64 (u0 - (Two.a q+ ↑i))]),(8,U.lst Kd.own 1 [.int .i64 (u1 - (Two.a q+ ↑i))]),(9,U.fn 104 [] [U.box 4 0,U.box 2 0,U.box 5 0]),(10,.int .i64 (Two.a q+ ↑i))] (st1++[SB.box [.int .i64 u0,.int .i64 u1]]) (.c4 rfl rfl rfl rfl (.c4 rfl rfl rfl rfl (.nil rfl))) rfl fun fr=>?_
     refine k_region (o_move rfl ?_)
     refine o_add rfl rfl rfl (by unfold I64;omega) (o_assign rfl (o_nil ?_))
     exact⟨kk - 1,by omega,i+1,by omega,hF2,h02,h12,.c4 rfl rfl rfl rfl (.cons (by rw[hsf];rfl) (.cons (by rw[hst];rfl) (.cons rfl (.cons (congrArg (U.int .i64) (by omega)) (.nil rfl)))))⟩
   |cons z L=>
    cases M with
    |nil=>cases hls
    |cons y M=>
     refine o_nil (k_cT rfl rfl ?_)
     refine k_seq (k_region (o_loadN rfl rfl h01 sh84 rfl ?_))
     refine o_move rfl (o_move rfl (o_call rfl (q64) (.lrefl _) (o_move rfl (o_call rfl (q63) (.lrefl _) (o_alloc rfl ze26 ?_)))))
     refine o_storeN rfl (at_new _ _) sh26 rfl rfl rfl rfl rfl ?_
     refine o_nil ?_
     refine k_gen [(1,.int .i64 a),(2,.int .i64 b),(3,U.box 0 0),(6,U.box 1 0),(7,accI (z::L)),(8,accI (y::M)),(9,U.fn 104 [] [U.box 4 0,U.box 2 0,U.box 5 0]),(10,.int .i64 (Two.a q+ ↑i)),(11,U.box (List.length st1) 0)] (st1++[SB.box [.int .i64 u0,.int .i64 u1]]) (.c4 rfl rfl rfl rfl (.c4 rfl rfl rfl rfl (.cons rfl (.nil rfl)))) (set_end _ _ _) fun fr=>?_
     refine k_seq (k_region (o_move rfl (o_faddr rfl rfl fld26_0 (o_load1 rfl rfl (at_new _ _) sh3 rfl ?_))))
     refine o_move rfl ?_
     refine o_sub rfl rfl rfl (by unfold I64;omega) (o_lit (es:=[.int .i64 (u0 - (Two.a q+ ↑i))]) rfl ty29 ze3 cl3 rfl rfl rfl rfl rfl rfl rfl rfl ?_)
     refine o_appendS 7 rfl ap29_29 rfl rfl rfl (by simp) (by simp) (by simp[flatU,cellsU,oneU]) (by simp at hl0 hl1 ⊢;omega) ?_
     refine o_assign rfl (o_nil (k_region (o_move rfl (o_faddr rfl rfl fld26_1 (o_load1 rfl rfl (at_new _ _) sh3 rfl ?_)))))
     refine o_move rfl ?_
     refine o_sub rfl rfl rfl (by unfold I64;omega) (o_lit (es:=[.int .i64 (u1 - (Two.a q+ ↑i))]) rfl ty29 ze3 cl3 rfl rfl rfl rfl rfl rfl rfl rfl ?_)
     refine o_appendS 8 rfl ap29_29 rfl rfl rfl (by simp) (by simp) (by simp[flatU,cellsU,oneU]) (by simp at hl0 hl1 ⊢;omega) ?_
     refine o_assign rfl (o_nil ?_)
     refine k_gen [(1,.int .i64 a),(2,.int .i64 b),(3,U.box 0 0),(6,U.box 1 0),(7,U.lst Kd.own 1 (.int .i64 z::List.append (List.map (fun n ↦ .int .i64 n) L) [.int .i64 (u0 - (Two.a q+ ↑i))])),(8,U.lst Kd.own 1 (.int .i64 y::List.append (List.map (fun n ↦ .int .i64 n) M) [.int .i64 (u1 - (Two.a q+ ↑i))])),(9,U.fn 104 [] [U.box 4 0,U.box 2 0,U.box 5 0]),(10,.int .i64 (Two.a q+ ↑i))] (st1++[SB.box [.int .i64 u0,.int .i64 u1]]) (.c4 rfl rfl rfl rfl (.c4 rfl rfl rfl rfl (.nil rfl))) rfl fun fr=>?_
     refine k_region (o_move rfl ?_)
     refine o_add rfl rfl rfl (by unfold I64;omega) (o_assign rfl (o_nil ?_))
     exact⟨kk - 1,by omega,i+1,by omega,hF2,h02,h12,.c4 rfl rfl rfl rfl (.cons (by rw[hsf,accI_snoc];rfl) (.cons (by rw[hst,accI_snoc];rfl) (.cons rfl (.cons (congrArg (U.int .i64) (by omega)) (.nil rfl)))))⟩
 ·have hiN:i=apN t a:=by omega
  subst hiN
  obtain⟨p0,hp0⟩:=ht
  have hin0:InH t a (p0 a):=hp0.1 a ha.1 ha.2
  have hc0:=(can_t h ⟨p0,hp0⟩ ha hin0).2 ⟨p0,hp0,rfl⟩
  have hm0:p0 a∈xs0 t J a (apN t a):=mem_xsN.2 ⟨hin0,hc0⟩
  have hl0:=apL_len t J a b false (apN t a)
  have hl1:=apL_len t J a b true (apN t a)
  have e0:apI t J a b false=(apL t J a b false (apN t a)).foldl min ((apL t J a b false (apN t a)).headD 0):=rfl
  have e1:apI t J a b true=(apL t J a b true (apN t a)).foldl max ((apL t J a b true (apN t a)).headD 0):=rfl
  have n0:apL t J a b false (apN t a)≠[]:=by
   have:utP (narrow t a (p0 a)) J false b - p0 a∈apL t J a b false (apN t a):=List.mem_map.2 ⟨_,hm0,rfl⟩
   intro e;rw[e]at this;cases this
  have n1:apL t J a b true (apN t a)≠[]:=by
   have:utP (narrow t a (p0 a)) J true b - p0 a∈apL t J a b true (apN t a):=List.mem_map.2 ⟨_,hm0,rfl⟩
   intro e;rw[e]at this;cases this
  rw[e0,e1]
  generalize apL t J a b false (apN t a)=L at n0 hl0
  generalize apL t J a b true (apN t a)=M at n1 hl1
  cases L with
  |nil=>exact absurd rfl n0
  |cons z L=>
   cases M with
   |nil=>exact absurd rfl n1
   |cons y M=>
    have q93:=ret93 (orc:=orc) hi z (z::L) (by omega)
    have q94:=ret94 (orc:=orc) hi y (y::M) (by omega)
    refine k_seq (k_seq (k_region (o_move rfl (o_faddr rfl rfl fld84_0 (o_faddr rfl rfl fld28_0 (o_load1 rfl rfl h0 sh22 rfl ?_))))))
    refine o_move rfl ?_
    refine o_idx (u:=q.u) rfl ty22 rfl rfl (by omega) (by rw[List.getElem?_map,hq];rfl) cl26 ?_
    refine o_faddrR rfl rfl fld26_1 ?_
    refine o_loadR1 rfl rfl sh3 rfl ?_
    refine o_leq rfl rfl rfl (o_nil (k_cF rfl (decide_eq_false (by omega)) (k_exit (k_seq (k_draw [.plain,.plain,.read true,.plain,.read false,.plain,.plain,.read true,.plain,.plain,.plain,.plain] (by kernel_rfl) (by kernel_rfl) (by kernel_rfl) ?_)))))
    refine d_plain (o_move rfl (o_nil rfl)) (d_plain (o_idx rfl ty29 rfl rfl (by decide) rfl cl3 (o_nil rfl)) ?_)
    refine d_load rfl (o_loadR1 rfl rfl sh3 rfl (o_nil rfl)) ?_
    refine d_plain (o_move rfl (o_nil rfl)) (d_callR rfl (q93) (.int _ _) (.lrefl _) ?_)
    refine d_plain (o_move rfl (o_nil rfl)) (d_plain (o_idx rfl ty29 rfl rfl (by decide) rfl cl3 (o_nil rfl)) ?_)
    refine d_load rfl (o_loadR1 rfl rfl sh3 rfl (o_nil rfl)) ?_
    refine d_plain (o_move rfl (o_nil rfl)) (d_plain (o_call rfl q94 (.lcons _ _ _ _ (.refl _) (.lcons _ _ _ _ (.ro _ _ _) (.lrefl _))) (o_nil rfl)) ?_)
    refine d_plain (o_build rfl ze26 pl26 rfl rfl (o_nil rfl)) ?_
    refine d_plain (o_storeN rfl h1 sh26 rfl rfl rfl rfl rfl (o_nil rfl)) ?_
    refine d_nil ?_
    refine k_ret ?_
    refine⟨.inr rfl,_,.cons _ _ _ _ (.cellN 6 26 _ _ _ _ rfl (at_put h1) sh26 rfl) .nil,?_⟩
    exact .refl _
end Go.Proofs.Ytinhcdijbcamaaa.tuneApart
namespace Go.Proofs.Ytinhcdijbcamaaa.tuneApart
open Vam
variable {is:FuncId→Bool}{orc:Known}
noncomputable def b26:Code:=(Try.f26.body).getD .skip
theorem body26:bodyOf Try.prog 26=some (26,b26,[.cell 6 26,.tmp 7]):=by kernel_rfl
theorem pure26:pureFn Try.prog 26=true:=by kernel_rfl
variable {t:Ts}{J:List Jn}{v x:Int}
theorem keys2{a b:Int}(h:keysB t [a,b]=true):(0≤a∧a<(t.heard.length:Int))∧(0≤b∧b<(t.heard.length:Int)):=by
 unfold keysB at h;simp at h;omega
noncomputable def apaU(t:Ts)(a b:Int):U:=if askE t [a,b]=0 then spanU (apI t (joinsI t) a b false) (apI t (joinsI t) a b true)else spanU 0 0
theorem dat_apa(t:Ts)(a b:Int)(k:Nat):Dat (k+2) (apaU t a b):=by
 unfold apaU;split<;>exact dat_span _ _ _
set_option maxHeartbeats 8000000 in
theorem ret26(hi:Off is)(t:Ts)(a b:Int):RetP Try.prog is orc 26 [t.u,.int .i64 a,.int .i64 b] (.tup [apaU t a b,.int .i64 (askE t [a,b])]):=by
 have q59:=ret59 (orc:=orc) hi t [a,b] (by simp)
 refine ret_of body26 pure26 (hi 26 (by decide)) rfl rfl (dat_l3 (dat_ts t 4) (.int _ _ _) (.int _ _ _)) (.inr ⟨_,rfl,dat_l2 (dat_apa t a b 5) (.int _ _ _)⟩) ?_
 by_cases h0:askE t [a,b]=0
 ·obtain⟨hok,hk,htb⟩:=ask_ok h0
  obtain⟨ha,hb⟩:=keys2 hk
  have hp:apaU t a b=spanU (apI t (joinsI t) a b false) (apI t (joinsI t) a b true):=by unfold apaU;rw[if_pos h0]
  have hc:askC t [a,b]=setC t (joinsI t):=by unfold askC;rw[if_pos h0]
  rw[hc]at q59
  rw[hp]
  have q67:=ret67 (orc:=orc) hi hok.sok ((tunB_iff hok.sok).1 htb) ha hb
  rw[h0]at q59 ⊢
  refine k_seq (k_region (o_box rfl rfl (o_alloc rfl ze26 ?_)))
  refine o_assign rfl (o_nil ?_)
  refine k_gen [(1,.int .i64 a),(2,.int .i64 b),(3,U.box 0 0),(6,U.box 1 0)] ([SB.box t.cs,SB.box [.int .i64 0,.int .i64 0]]) (.c4 rfl rfl rfl rfl (.nil rfl)) rfl fun fr=>?_
  refine k_seq (k_region (o_loadN rfl rfl rfl sh28 rfl (o_move rfl (o_move rfl (o_lit (es:=[.int .i64 a,.int .i64 b]) rfl ty29 ze3 cl3 rfl rfl rfl rfl rfl rfl rfl rfl ?_)))))
  refine o_call rfl q59 (.lcons _ _ _ _ (.refl _) (.lcons _ _ _ _ (.ro _ _ _) (.lrefl _))) ?_
  refine o_move rfl (o_extract rfl rfl rfl (o_extract rfl rfl rfl (o_alloc rfl ze84 ?_)))
  refine o_storeN rfl rfl sh84 rfl rfl rfl rfl rfl ?_
  refine o_assign rfl (o_nil ?_)
  refine k_gen [(1,.int .i64 a),(2,.int .i64 b),(6,U.box 1 0),(8,U.box 2 0),(9,.int .i64 0)] ([SB.box t.cs,SB.box [.int .i64 0,.int .i64 0],SB.box [.lst .ro 2 (twosU t.heard),.lst .ro 2 (sclsU t.scales),.lst .ro 2 (twosU t.pairs),.int .i64 t.lo,.int .i64 t.hi,.lst .ro 5 (jnsU (joinsI t))]]) (.c4 rfl rfl rfl rfl (.cons rfl (.nil rfl))) rfl fun fr=>?_
  refine k_seq (k_seq (k_region (o_move rfl (o_neq rfl rfl rfl (o_nil (k_cF rfl rfl ?_))))))
  refine k_skip (k_seq (k_region (o_loadN rfl rfl rfl sh84 rfl (o_move rfl (o_move rfl (o_call rfl (q67) (.lrefl _) (o_storeN rfl rfl sh26 rfl rfl rfl rfl rfl ?_)))))))
  refine o_assign rfl (o_nil (k_ret ?_))
  refine⟨.inr rfl,_,.cons _ _ _ _ (.cellN 6 26 _ _ _ _ rfl rfl sh26 rfl) (.cons _ _ _ _ (.tmp 7) .nil),?_⟩
  exact .refl _
 ·have hp:apaU t a b=spanU 0 0:=by unfold apaU;rw[if_neg h0]
  have hc:askC t [a,b]=z6:=by unfold askC;rw[if_neg h0]
  rw[hc]at q59
  rw[hp]
  generalize askE t [a,b]=e at h0 q59
  refine k_seq (k_region (o_box rfl rfl (o_alloc rfl ze26 ?_)))
  refine o_assign rfl (o_nil ?_)
  refine k_gen [(1,.int .i64 a),(2,.int .i64 b),(3,U.box 0 0),(6,U.box 1 0)] ([SB.box t.cs,SB.box [.int .i64 0,.int .i64 0]]) (.c4 rfl rfl rfl rfl (.nil rfl)) rfl fun fr=>?_
  refine k_seq (k_region (o_loadN rfl rfl rfl sh28 rfl (o_move rfl (o_move rfl (o_lit (es:=[.int .i64 a,.int .i64 b]) rfl ty29 ze3 cl3 rfl rfl rfl rfl rfl rfl rfl rfl ?_)))))
  refine o_call rfl q59 (.lcons _ _ _ _ (.refl _) (.lcons _ _ _ _ (.ro _ _ _) (.lrefl _))) ?_
  refine o_move rfl (o_extract rfl rfl rfl (o_extract rfl rfl rfl (o_alloc rfl ze84 ?_)))
  refine o_storeN rfl rfl sh84 rfl rfl rfl rfl rfl ?_
  refine o_assign rfl (o_nil ?_)
  refine k_gen [(1,.int .i64 a),(2,.int .i64 b),(6,U.box 1 0),(8,U.box 2 0),(9,.int .i64 e)] ([SB.box t.cs,SB.box [.int .i64 0,.int .i64 0],SB.box [.lst .full 0 [],.lst .full 0 [],.lst .full 0 [],.int .i64 0,.int .i64 0,.lst .full 0 []]]) (.c4 rfl rfl rfl rfl (.cons rfl (.nil rfl))) rfl fun fr=>?_
  refine k_seq (k_seq (k_region (o_move rfl (o_neq rfl rfl rfl (o_nil (k_cT rfl (decide_eq_true (by omega)) (k_seq (k_region (o_build rfl ze26 pl26 rfl rfl ?_)))))))))
  refine o_move rfl (o_storeN rfl rfl sh26 rfl rfl rfl rfl rfl ?_)
  refine o_assign rfl (o_nil (k_ret ?_))
  refine⟨.inr rfl,_,.cons _ _ _ _ (.cellN 6 26 _ _ _ _ rfl rfl sh26 rfl) (.cons _ _ _ _ (.tmp 7) .nil),?_⟩
  exact .refl _
end Go.Proofs.Ytinhcdijbcamaaa.tuneApart
