import Derived.Test.YtinhcdijbcamaaaVamT11
set_option linter.unusedVariables false
set_option linter.unusedSimpArgs false
set_option linter.constructorNameAsVariable false
namespace Go.Proofs.Ytinhcdijbcamaaa.tuneEven
open Vam
section
variable {is:FuncId→Bool}{orc:Known}
variable {t:Ts}{J:List Jn}{v x:Int}
abbrev Key(t:Ts)(a:Int):Prop:=0≤a∧a<(t.heard.length:Int)
noncomputable def errT(t:Ts):Int:=if tunB t (yC t)=true then 0 else 12
theorem spn_same(a b:Int):binV Try.prog 26 .eql (valK (spanU a b)) (valK (spanU a b))=some (.bool true):=by
 have h:binV Try.prog 26 .eql (valK (spanU a b)) (valK (spanU a b))=opt none (fun x=>some (V.bool x)) (Vam.cond (ieq a a) (Vam.cond (ieq b b) (some true) (some false)) (some false)):=by kernel_rfl
 rw[h,ieq_eq,ieq_eq,show(a==a)=true by simp,show(b==b)=true by simp];rfl
end
section
variable {is:FuncId→Bool}{orc:Known}
theorem ty75:tyOf Try.prog 75=.slice 3:=by kernel_rfl
theorem ap75_75:AppT Try.prog 75 75 3 1 8 ((.cons (.int .i64 0) .nil):V):=⟨ty75,⟨_,ty75⟩,cl3,by decide,by3,ze3,rfl⟩
noncomputable def b60:Code:=(Try.f60.body).getD .skip
theorem body60:bodyOf Try.prog 60=some (38,b60,[.tmp 2]):=by kernel_rfl
theorem pure60:pureFn Try.prog 60=true:=by kernel_rfl
variable {t:Ts}{J:List Jn}{v x:Int}
def nrw(t:Ts)(J:List Jn):Nat→Ts
 |0=>t
 |i+1=>narrow (nrw t J i) i (utP (nrw t J i) J false i)
def lowT(t:Ts)(J:List Jn)(i:Nat):Int:=utP (nrw t J i) J false i
def tunL(t:Ts)(J:List Jn)(n:Nat):List Int:=(List.range n).map (lowT t J)
theorem tunL_succ(t:Ts)(J:List Jn)(n:Nat):tunL t J (n+1)=tunL t J n++[lowT t J n]:=by unfold tunL;rw[List.range_succ,List.map_append];rfl
theorem nrw_len(t:Ts)(J:List Jn)(i:Nat):(nrw t J i).heard.length=t.heard.length:=by
 induction i with
 |zero=>rfl
 |succ i ih=>show(narrow _ _ _).heard.length=_;unfold narrow;simp only[List.length_set];exact ih
theorem nrw_ok(h:SOk t J)(ht:TunE t J):∀i,i≤t.heard.length→SOk (nrw t J i) J∧TunE (nrw t J i) J∧∀p,TunT (nrw t J i) J p↔TunT t J p∧∀j:Nat,j<i→p j=lowT t J j:=by
 intro i
 induction i with
 |zero=>intro _;exact⟨h,ht,fun p=>⟨fun hp=>⟨hp,fun j hj=>absurd hj (Nat.not_lt_zero _)⟩,fun hp=>hp.1⟩⟩
 |succ i ih=>
  intro hi
  obtain⟨h1,h2,h3⟩:=ih (by omega)
  have hk:Key (nrw t J i) (i:Int):=by unfold Key;rw[nrw_len];omega
  obtain⟨⟨p,hp,e⟩,_⟩:=ut_low h1 h2 hk
  have e:p (i:Int)=lowT t J i:=e
  have hin:InH (nrw t J i) (i:Int) (lowT t J i):=by rw[←e];exact hp.1 _ hk.1 hk.2
  have hnt:=narrow_tun (J:=J) hk hin
  refine⟨narrow_sok h1 (in_pos h1 hk hin),⟨p,(hnt p).2 ⟨hp,e⟩⟩,fun q=>?_⟩
  show TunT (narrow (nrw t J i) i (lowT t J i)) J q↔_
  rw[hnt q,h3 q]
  constructor
  ·rintro⟨⟨a,b⟩,c⟩
   refine⟨a,fun j hj=>?_⟩
   by_cases e:j=i
   ·subst e;exact c
   ·exact b j (by omega)
  ·rintro⟨a,b⟩
   exact⟨⟨a,fun j hj=>b j (by omega)⟩,b i (by omega)⟩
theorem q88(t:Ts)(J:List Jn)(n:Nat):WpC Try.prog is orc 88 [.agg (setC t J)] (List.replicate n .dead) fun u st'=>∃new,st'=List.replicate n .dead++new∧Fwd n u∧(∀x∈new,FwdS n x)∧(u=.fn 104 [] [.box (n+2) 0,.box n 0,.box (n+3) 0]∧new=fnd t J n):=by
 refine(wpc88 t J (List.replicate n .dead)).mono fun u st' hM=>?_
 rw[List.length_replicate]at hM
 obtain⟨rfl,rfl⟩:=hM
 refine⟨_,rfl,.fn (fun u hu=>by cases hu) fun u hu=>?_,fun x hx=>?_,rfl,rfl⟩
 ·simp only[List.mem_cons,List.not_mem_nil,or_false]at hu
  rcases hu with rfl|rfl|rfl<;>exact .box (by omega)
 ·simp only[List.mem_cons,List.not_mem_nil,or_false]at hx
  rcases hx with rfl|rfl|rfl|rfl
  ·intro c hc
   exact(dat_setC t J 0 c hc).nb.fwd n
  ·intro p hp;cases hp
  ·intro c hc
   rcases List.mem_singleton.1 hc with rfl
   exact .mp (by omega)
  ·intro c hc
   rcases List.mem_singleton.1 hc with rfl
   refine .fn (fun u hu=>by cases hu) fun u hu=>?_
   simp only[List.mem_cons,List.not_mem_nil,or_false]at hu
   rcases hu with rfl|rfl|rfl<;>exact .box (by omega)
set_option maxHeartbeats 16000000 in
theorem ret60(hi:Off is)(h:SOk t J)(ht:TunE t J):RetP Try.prog is orc 60 [.agg (setC t J)] (.lst .ro 1 (yd (tunL t J t.heard.length))):=by
 have hn8:=h.n8
 have hn1:=h.n1
 refine yQ body60 pure60 (hi 60 (by decide)) rfl rfl (dat_l1 (dat_set t J 4)) (.inl (dat_ints 6 .ro (fun h=>by cases h) 1 _)) ?_
 refine kQ (yH rfl rfl (zC rfl (zA ?_)))
 refine zN [(1,U.box 0 0)] ([SB.box [.lst .ro 2 (zS t.heard),.lst .ro 2 (yS t.scales),.lst .ro 2 (zS t.pairs),.int .i64 t.lo,.int .i64 t.hi,.lst .ro 5 (jnsU J)]]) (.cons rfl (.nil rfl)) rfl fun fr=>?_
 refine kQ (zC rfl (zA (k_seq (kQ (zD rfl rfl fld84_0 (zD rfl rfl yh (zE rfl rfl rfl sh22 rfl (yW rfl ty22 rfl (List.length_map _) ?_))))))))
 refine zB rfl (zA (zP ?_))
 refine k_loop (fun kk s2=>∃(i:Nat),kk+i=t.heard.length∧BdY s2.st∧s2.st[0]? =some (.box (setC (nrw t J i) J))∧
  Holds s2 [(1,.box 0 0),(3,accI (tunL t J i)),(10,.int .i64 t.heard.length),(11,.int .i64 i)]) (fun kk s2 hI=>?_) t.heard.length _ ⟨0,rfl,fun y hy=>by
   rcases List.mem_singleton.1 hy with rfl;exact(nbs_set t J).bd _,rfl,.c4 rfl rfl rfl rfl (.nil rfl)⟩
 obtain⟨i,hki,hbd,h0,hs2⟩:=hI
 generalize hst2:s2.st=W at hbd h0
 refine zN _ _ hs2 hst2 fun fr2=>?_
 by_cases hin:i<t.heard.length
 ·obtain⟨hs1,ht1,_⟩:=nrw_ok h ht i (by omega)
  have hl:=nrw_len t J i
  have hl2:=tunL_succ t J i
  have hll:(tunL t J i).length=i:=by unfold tunL;simp
  obtain⟨s,hs⟩:∃s,s=nrw t J i:=⟨_,rfl⟩
  have hlow:lowT t J i=utP s J false i:=by rw[hs];rfl
  have hnx:nrw t J (i+1)=narrow s i (utP s J false i):=by rw[hs];rfl
  rw[←hs]at hs1 ht1 hl h0
  have hk:Key s (i:Int):=by unfold Key;omega
  have hw:=wpc87 (orc:=orc) hi hs1 false hk (fnd_fs (t:=s) (J:=J) hbd)
  obtain⟨j,hj⟩:=ut_ex hs1 ht1 false hk
  have hutu:utU s J false i=.tup [.int .i64 (utP s J false i),.bool true]:=by unfold utU;rw[hj];rfl
  rw[hutu]at hw
  have q64:=ret64 (orc:=orc) (J:=J) hi hs1.n1 hs1.n8 hk (x:=utP s J false i)
  rw[←hnx]at q64
  rw[←hlow]at hw q64
  refine kQ (zo rfl rfl rfl (zA (k_seq (k_cT rfl (decide_eq_true (by omega)) (zR (k_seq (zP (kQ ?_))))))))
  refine zB rfl (zC rfl (zA (k_seq (k_draw [.read true,.read true,.quiet,.plain,.quiet,.plain,.plain,.plain,.plain,.plain,.plain] (by kernel_rfl) (by kernel_rfl) (by kernel_rfl) ?_))))
  refine zq rfl (zJ rfl rfl h0 sh84 rfl (zA rfl)) ?_
  refine zq rfl (zJ rfl rfl h0 sh84 rfl (zA rfl)) ?_
  (refine d_callQW (n:=W.length) rfl rfl (fun u hu=>by rcases List.mem_singleton.1 hu with rfl;exact nb_setC s J) (q88 s J W.length) (.lrefl _) (fun u new hM=>?_);obtain⟨rfl,rfl⟩:=hM)
  refine zG (zB rfl (zA rfl)) (d_callQ rfl (ret89 hi) (.lrefl _) ?_)
  refine d_callWE rfl hw (.lrefl _) fun u st1 hM=>?_
  obtain⟨rfl,hU⟩:=hM
  have hF1:=(fnd_fs (t:=s) (J:=J) hbd).upd hU
  have h01:=hU.at (i:=0) (by omega) (yF h0)
  have hb2:=hF1.bd.put ((nbs_set (nrw t J (i+1)) J).bd st1.length) (i:=0)
  have h02:(st1.set 0 (.box (setC (nrw t J (i+1)) J)))[0]? =some (.box (setC (nrw t J (i+1)) J)):=at_put h01
  obtain⟨L,hL⟩:∃L,L=tunL t J i:=⟨_,rfl⟩
  rw[←hL]at hl2 hll
  rw[←hL]
  cases L with
  |nil=>
   refine zG (zB rfl (zA rfl)) (zG (zV rfl rfl rfl (zA rfl)) ?_)
   refine zG (zV rfl rfl rfl (zA rfl)) ?_
   refine zG (zC rfl (zA rfl)) ?_
   refine zG (zC rfl (zA rfl)) ?_
   refine d_nil ?_
   refine kQ (zB rfl (zB rfl (o_lit (es:=[.int .i64 (lowT t J i)]) rfl ty75 ze3 cl3 rfl rfl rfl rfl rfl rfl rfl rfl ?_)))
   refine o_appendF rfl ap75_75 rfl rfl (by simp) (by simp) (by simp[zw,zr,oneU]) (by simp) ?_
   refine zC rfl (zA ?_)
   refine zN [(1,U.box 0 0),(3,U.lst Kd.own 1 [.int .i64 (lowT t J i)]),(4,.int .i64 ↑i),(5,.int .i64 (lowT t J i)),(10,.int .i64 ↑t.heard.length),(11,.int .i64 ↑i)] (st1) (.c4 rfl rfl rfl rfl (.cons rfl (.cons rfl (.nil rfl)))) rfl fun fr=>?_
   refine k_region (zJ rfl rfl h01 sh84 rfl ?_)
   refine zB rfl (zB rfl (zQ rfl (q64) (.lrefl _) (zL rfl h01 sh84 rfl rfl rfl rfl rfl ?_)))
   refine zA (k_region ?_)
   refine yq rfl rfl rfl (by unfold I64;omega) (zB rfl (zA ?_))
   exact⟨kk - 1,by omega,i+1,by omega,hb2,h02,.cons rfl (.cons (by rw[hl2];rfl) (.cons rfl (.cons rfl (.nil rfl))))⟩
  |cons y L=>
   refine zG (zB rfl (zA rfl)) (zG (zV rfl rfl rfl (zA rfl)) ?_)
   refine zG (zV rfl rfl rfl (zA rfl)) ?_
   refine zG (zC rfl (zA rfl)) ?_
   refine zG (zC rfl (zA rfl)) ?_
   refine d_nil ?_
   refine kQ (zB rfl (zB rfl (o_lit (es:=[.int .i64 (lowT t J i)]) rfl ty75 ze3 cl3 rfl rfl rfl rfl rfl rfl rfl rfl ?_)))
   refine o_appendS 3 rfl ap75_75 rfl rfl rfl (by simp) (by simp) (by simp[zw,zr,oneU]) (by simp at hll ⊢;omega) ?_
   refine zC rfl (zA ?_)
   refine zN [(1,U.box 0 0),(3,U.lst Kd.own 1 (.int .i64 y::List.append (List.map (fun n ↦ .int .i64 n) L) [.int .i64 (lowT t J i)])),(4,.int .i64 ↑i),(5,.int .i64 (lowT t J i)),(10,.int .i64 ↑t.heard.length),(11,.int .i64 ↑i)] (st1) (.c4 rfl rfl rfl rfl (.cons rfl (.cons rfl (.nil rfl)))) rfl fun fr=>?_
   refine k_region (zJ rfl rfl h01 sh84 rfl ?_)
   refine zB rfl (zB rfl (zQ rfl (q64) (.lrefl _) (zL rfl h01 sh84 rfl rfl rfl rfl rfl ?_)))
   refine zA (k_region ?_)
   refine yq rfl rfl rfl (by unfold I64;omega) (zB rfl (zA ?_))
   exact⟨kk - 1,by omega,i+1,by omega,hb2,h02,.cons rfl (.cons (by rw[hl2,accI_snoc];rfl) (.cons rfl (.cons rfl (.nil rfl))))⟩
 ·have hiN:i=t.heard.length:=by omega
  subst hiN
  have hll:(tunL t J t.heard.length).length=t.heard.length:=by unfold tunL;simp
  generalize tunL t J t.heard.length=L at hll
  cases L with
  |nil=>simp at hll;omega
  |cons y L=>
   have hle:(y::L).length≤8:=by omega
   refine kQ (zo rfl rfl rfl (zA (k_seq (k_cF rfl (decide_eq_false (by omega)) (yg (kQ (zB rfl (zB rfl ?_))))))))
   refine yW rfl ty75 rfl (List.length_map _) ?_
   refine zB rfl (yW rfl ty75 rfl (List.length_map _) ?_)
   refine o_slice0 rfl ty75 cl3 rfl (by simp) rfl rfl (by simp) ?_
   refine zC rfl (zA (zd ?_))
   refine⟨.inr rfl,_,.cons _ _ _ _ (.tmp 2) .nil,?_⟩
   rw[List.take_of_length_le (by simp)]
   exact .ro _ _ _
end
section
variable {is:FuncId→Bool}{orc:Known}
noncomputable def b19:Code:=(Try.f19.body).getD .skip
theorem body19:bodyOf Try.prog 19=some (16,b19,[.tmp 2,.tmp 3]):=by kernel_rfl
theorem pure19:pureFn Try.prog 19=true:=by kernel_rfl
theorem ze28:yR Try.prog 28=some ((.cons .nils (.cons .nils (.cons .nils (.cons (.int .i64 0) (.cons (.int .i64 0) .nil))))):V):=by kernel_rfl
variable {t:Ts}{J:List Jn}{v x:Int}
noncomputable def tunR(t:Ts):List Int:=if askE t []=0 then tunL t (yC t) t.heard.length else []
theorem ask_nil(hv:validI t=true):askE t []=errT t:=by
 unfold askE errT
 rw[if_pos hv,if_pos (show keysB t []=true from rfl)]
set_option maxHeartbeats 8000000 in
theorem ret19(hi:Off is)(t:Ts):RetP Try.prog is orc 19 [t.u] (.tup [.lst .ro 1 (yd (tunR t)),.int .i64 (askE t [])]):=by
 have q59:=ret59 (orc:=orc) hi t [] (by simp)
 refine yQ body19 pure19 (hi 19 (by decide)) rfl rfl (dat_l1 (dat_ts t 4)) (.inr ⟨_,rfl,dat_l2 (dat_ints 5 .ro (fun h=>by cases h) 1 _) (.int _ _ _)⟩) ?_
 by_cases h0:askE t []=0
 ·obtain⟨hok,_,htb⟩:=ask_ok h0
  have hp:tunR t=tunL t (yC t) t.heard.length:=by unfold tunR;rw[if_pos h0]
  have hc:askC t []=setC t (yC t):=by unfold askC;rw[if_pos h0]
  rw[hc]at q59
  rw[hp]
  have q60:=ret60 (orc:=orc) hi hok.sok ((tunB_iff hok.sok).1 htb)
  rw[h0]at q59 ⊢
  refine kQ (yH rfl rfl (zC rfl (zC rfl (zA ?_))))
  refine zN [(1,U.box 0 0)] ([SB.box t.cs]) (.cons rfl (.nil rfl)) rfl fun fr=>?_
  refine kQ (zJ rfl rfl rfl sh28 rfl (zQ rfl q59 (.lcons _ _ _ _ (.refl _) (.lcons _ _ _ _ (.nil _ _ _) (.lrefl _))) ?_))
  refine zB rfl (zV rfl rfl rfl (zV rfl rfl rfl (zX rfl ze84 ?_)))
  refine zL rfl rfl sh84 rfl rfl rfl rfl rfl ?_
  refine zC rfl (zA ?_)
  refine zN [(4,U.box 1 0),(5,.int .i64 0)] ([SB.box t.cs,SB.box [.lst .ro 2 (zS t.heard),.lst .ro 2 (yS t.scales),.lst .ro 2 (zS t.pairs),.int .i64 t.lo,.int .i64 t.hi,.lst .ro 5 (jnsU (yC t))]]) (.cons rfl (.cons rfl (.nil rfl))) rfl fun fr=>?_
  refine k_seq (kQ (zB rfl (o_neq rfl rfl rfl (zA (k_cF rfl rfl ?_)))))
  refine zR (kQ (zJ rfl rfl rfl sh84 rfl (zQ rfl (q60) (.lrefl _) (zC rfl (zC rfl (zA (zd ?_)))))))
  refine⟨.inr rfl,_,.cons _ _ _ _ (.tmp 2) (.cons _ _ _ _ (.tmp 3) .nil),?_⟩
  exact .refl _
 ·have hp:tunR t=[]:=by unfold tunR;rw[if_neg h0]
  have hc:askC t []=z6:=by unfold askC;rw[if_neg h0]
  rw[hc]at q59
  rw[hp]
  generalize askE t []=e at h0 q59
  refine kQ (yH rfl rfl (zC rfl (zC rfl (zA ?_))))
  refine zN [(1,U.box 0 0)] ([SB.box t.cs]) (.cons rfl (.nil rfl)) rfl fun fr=>?_
  refine kQ (zJ rfl rfl rfl sh28 rfl (zQ rfl q59 (.lcons _ _ _ _ (.refl _) (.lcons _ _ _ _ (.nil _ _ _) (.lrefl _))) ?_))
  refine zB rfl (zV rfl rfl rfl (zV rfl rfl rfl (zX rfl ze84 ?_)))
  refine zL rfl rfl sh84 rfl rfl rfl rfl rfl ?_
  refine zC rfl (zA ?_)
  refine zN [(4,U.box 1 0),(5,.int .i64 e)] ([SB.box t.cs,SB.box [.lst .full 0 [],.lst .full 0 [],.lst .full 0 [],.int .i64 0,.int .i64 0,.lst .full 0 []]]) (.cons rfl (.cons rfl (.nil rfl))) rfl fun fr=>?_
  refine k_seq (kQ (zB rfl (o_neq rfl rfl rfl (zA (k_cT rfl (decide_eq_true (by omega)) (kQ (zB rfl (zC rfl ?_))))))))
  refine zC rfl (zA (zd ?_))
  refine⟨.inr rfl,_,.cons _ _ _ _ (.tmp 2) (.cons _ _ _ _ (.tmp 3) .nil),?_⟩
  exact .tup _ _ (.lcons _ _ _ _ (.nil _ _ _) (.lrefl _))
end
end Go.Proofs.Ytinhcdijbcamaaa.tuneEven
