import Derived.Test.YtinhcdijbcamaaaVamT11
set_option linter.unusedVariables false
set_option linter.unusedSimpArgs false
set_option linter.constructorNameAsVariable false
namespace Go.Proofs.Ytinhcdijbcamaaa.tuneNarrower
open Vam
section
variable {is:FuncId→Bool}{orc:Known}
variable {t:Ts}{J:List Jn}{v x:Int}
abbrev Key(t:Ts)(a:Int):Prop:=0≤a∧a<(t.heard.length:Int)
noncomputable def errT(t:Ts):Int:=if tunB t (zp t)=true then 0 else 12
theorem uC(hv:z7 t=true){a:Int}(ha:Key t a):askE t [a]=errT t:=by
 have hk:uF t [a]=true:=by unfold uF;simp;omega
 unfold askE errT
 rw[if_pos hv,if_pos hk]
end
section
variable {is:FuncId→Bool}{orc:Known}
theorem ty75:tyOf Try.prog 75=.slice 3:=by kernel_rfl
theorem ap75_75:AppT Try.prog 75 75 3 1 8 ((.cons (.int .i64 0) .nil):V):=⟨ty75,⟨_,ty75⟩,cl3,by decide,by3,ze3,rfl⟩
noncomputable def b60:Code:=(Try.f60.body).getD .skip
theorem body60:bodyOf Try.prog 60=some (38,b60,[.tmp 2]):=by kernel_rfl
theorem pure60:pureFn Try.prog 60=true:=by kernel_rfl
variable {t:Ts}{J:List Jn}{v x:Int}
def nrw(t:Ts)(J:List Jn):Nat→Ts
 |0=>t
 |i+1=>yn (nrw t J i) i (utP (nrw t J i) J false i)
def lowT(t:Ts)(J:List Jn)(i:Nat):Int:=utP (nrw t J i) J false i
def tunL(t:Ts)(J:List Jn)(n:Nat):List Int:=(List.range n).map (lowT t J)
theorem tunL_succ(t:Ts)(J:List Jn)(n:Nat):tunL t J (n+1)=tunL t J n++[lowT t J n]:=by unfold tunL;rw[List.range_succ,List.map_append];rfl
theorem nrw_len(t:Ts)(J:List Jn)(i:Nat):(nrw t J i).heard.length=t.heard.length:=by
 induction i with
 |zero=>rfl
 |succ i ih=>show(yn _ _ _).heard.length=_;unfold yn;simp only[List.length_set];exact ih
theorem nrw_ok(h:SOk t J)(ht:TunE t J):∀i,i≤t.heard.length→SOk (nrw t J i) J∧TunE (nrw t J i) J∧∀p,TunT (nrw t J i) J p↔TunT t J p∧∀j:Nat,j<i→p j=lowT t J j:=by
 intro i
 induction i with
 |zero=>intro _;exact⟨h,ht,fun p=>⟨fun hp=>⟨hp,fun j hj=>absurd hj (Nat.not_lt_zero _)⟩,fun hp=>hp.1⟩⟩
 |succ i ih=>
  intro hi
  obtain⟨h1,h2,h3⟩:=ih (by omega)
  have hk:Key (nrw t J i) (i:Int):=by unfold Key;rw[nrw_len];omega
  obtain⟨⟨p,hp,e⟩,_⟩:=ut_low h1 h2 hk
  have e:p (i:Int)=lowT t J i:=e
  have hin:InH (nrw t J i) (i:Int) (lowT t J i):=by rw[←e];exact hp.1 _ hk.1 hk.2
  have hnt:=wk (J:=J) hk hin
  refine⟨wR h1 (in_pos h1 hk hin),⟨p,(hnt p).2 ⟨hp,e⟩⟩,fun q=>?_⟩
  show TunT (yn (nrw t J i) i (lowT t J i)) J q↔_
  rw[hnt q,h3 q]
  constructor
  ·rintro⟨⟨a,b⟩,c⟩
   refine⟨a,fun j hj=>?_⟩
   by_cases e:j=i
   ·subst e;exact c
   ·exact b j (by omega)
  ·rintro⟨a,b⟩
   exact⟨⟨a,fun j hj=>b j (by omega)⟩,b i (by omega)⟩
theorem q88(t:Ts)(J:List Jn)(n:Nat):WpC Try.prog is orc 88 [.agg (setC t J)] (List.replicate n .dead) fun u st'=>∃new,st'=List.replicate n .dead++new∧Fwd n u∧(∀x∈new,FwdS n x)∧(u=.fn 104 [] [.box (n+2) 0,.box n 0,.box (n+3) 0]∧new=fnd t J n):=by
 refine(wpc88 t J (List.replicate n .dead)).mono fun u st' hM=>?_
 rw[List.length_replicate]at hM
 obtain⟨rfl,rfl⟩:=hM
 refine⟨_,rfl,.fn (fun u hu=>by cases hu) fun u hu=>?_,fun x hx=>?_,rfl,rfl⟩
 ·simp only[List.mem_cons,List.not_mem_nil,or_false]at hu
  rcases hu with rfl|rfl|rfl<;>exact .box (by omega)
 ·simp only[List.mem_cons,List.not_mem_nil,or_false]at hx
  rcases hx with rfl|rfl|rfl|rfl
  ·intro c hc
   exact(uN t J 0 c hc).nb.fwd n
  ·intro p hp;cases hp
  ·intro c hc
   rcases List.mem_singleton.1 hc with rfl
   exact .mp (by omega)
  ·intro c hc
   rcases List.mem_singleton.1 hc with rfl
   refine .fn (fun u hu=>by cases hu) fun u hu=>?_
   simp only[List.mem_cons,List.not_mem_nil,or_false]at hu
   rcases hu with rfl|rfl|rfl<;>exact .box (by omega)
set_option maxHeartbeats 16000000 in
theorem ret60(hi:Off is)(h:SOk t J)(ht:TunE t J):RetP Try.prog is orc 60 [.agg (setC t J)] (.lst .ro 1 (yc (tunL t J t.heard.length))):=by
 have hn8:=h.n8
 have hn1:=h.n1
 refine yQ body60 pure60 (hi 60 (by decide)) rfl rfl (y6 (wm t J 4)) (.inl (dat_ints 6 .ro (fun h=>by cases h) 1 _)) ?_
 refine kQ (yH rfl rfl (zC rfl (zB ?_)))
 refine zM [(1,.box 0 0)] ([SB.box [.lst .ro 2 (zS t.heard),.lst .ro 2 (yg t.scales),.lst .ro 2 (zS t.pairs),.int .i64 t.lo,.int .i64 t.hi,.lst .ro 5 (jnsU J)]]) (.cons rfl (.nil rfl)) rfl fun fr=>?_
 refine kQ (zC rfl (zB (k_seq (kQ (zG rfl rfl wB (zG rfl rfl yA (zF rfl rfl rfl sh22 rfl (yZ rfl ty22 rfl (List.length_map _) ?_))))))))
 refine zA rfl (zB (zP ?_))
 refine k_loop (fun kk s2=>∃(i:Nat),kk+i=t.heard.length∧BdY s2.st∧s2.st[0]? =some (.box (setC (nrw t J i) J))∧
  Holds s2 [(1,.box 0 0),(3,accI (tunL t J i)),(10,.int .i64 t.heard.length),(11,.int .i64 i)]) (fun kk s2 hI=>?_) t.heard.length _ ⟨0,rfl,fun y hy=>by
   rcases List.mem_singleton.1 hy with rfl;exact(wO t J).bd _,rfl,.c4 rfl rfl rfl rfl (.nil rfl)⟩
 obtain⟨i,hki,hbd,h0,hs2⟩:=hI
 generalize hst2:s2.st=W at hbd h0
 refine zM _ _ hs2 hst2 fun fr2=>?_
 by_cases hin:i<t.heard.length
 ·obtain⟨hs1,ht1,_⟩:=nrw_ok h ht i (by omega)
  have hl:=nrw_len t J i
  have hl2:=tunL_succ t J i
  have hll:(tunL t J i).length=i:=by unfold tunL;simp
  obtain⟨s,hs⟩:∃s,s=nrw t J i:=⟨_,rfl⟩
  have hlow:lowT t J i=utP s J false i:=by rw[hs];rfl
  have hnx:nrw t J (i+1)=yn s i (utP s J false i):=by rw[hs];rfl
  rw[←hs]at hs1 ht1 hl h0
  have hk:Key s (i:Int):=by unfold Key;omega
  have hw:=wpc87 (orc:=orc) hi hs1 false hk (fnd_fs (t:=s) (J:=J) hbd)
  obtain⟨j,hj⟩:=ut_ex hs1 ht1 false hk
  have hutu:utU s J false i=.tup [.int .i64 (utP s J false i),.bool true]:=by unfold utU;rw[hj];rfl
  rw[hutu]at hw
  have q64:=ret64 (orc:=orc) (J:=J) hi hs1.n1 hs1.n8 hk (x:=utP s J false i)
  rw[←hnx]at q64
  rw[←hlow]at hw q64
  refine kQ (zt rfl rfl rfl (zB (k_seq (k_cT rfl (decide_eq_true (by omega)) (zW (k_seq (zP (kQ ?_))))))))
  refine zA rfl (zC rfl (zB (k_seq (k_draw [.read true,.read true,.quiet,.plain,.quiet,.plain,.plain,.plain,.plain,.plain,.plain] (by kernel_rfl) (by kernel_rfl) (by kernel_rfl) ?_))))
  refine zi rfl (zK rfl rfl h0 sh84 rfl (zB rfl)) ?_
  refine zi rfl (zK rfl rfl h0 sh84 rfl (zB rfl)) ?_
  (refine d_callQW (n:=W.length) rfl rfl (fun u hu=>by rcases List.mem_singleton.1 hu with rfl;exact ua s J) (q88 s J W.length) (.lrefl _) (fun u new hM=>?_);obtain⟨rfl,rfl⟩:=hM)
  refine zE (zA rfl (zB rfl)) (d_callQ rfl (ret89 hi) (.lrefl _) ?_)
  refine wp rfl hw (.lrefl _) fun u st1 hM=>?_
  obtain⟨rfl,hU⟩:=hM
  have hF1:=(fnd_fs (t:=s) (J:=J) hbd).upd hU
  have h01:=hU.at (i:=0) (by omega) (yF h0)
  have hb2:=hF1.bd.put ((wO (nrw t J (i+1)) J).bd st1.length) (i:=0)
  have h02:(st1.set 0 (.box (setC (nrw t J (i+1)) J)))[0]? =some (.box (setC (nrw t J (i+1)) J)):=at_put h01
  obtain⟨L,hL⟩:∃L,L=tunL t J i:=⟨_,rfl⟩
  rw[←hL]at hl2 hll
  rw[←hL]
  cases L with
  |nil=>
   refine zE (zA rfl (zB rfl)) (zE (zY rfl rfl rfl (zB rfl)) ?_)
   refine zE (zY rfl rfl rfl (zB rfl)) ?_
   refine zE (zC rfl (zB rfl)) ?_
   refine zE (zC rfl (zB rfl)) ?_
   refine d_nil ?_
   refine kQ (zA rfl (zA rfl (o_lit (es:=[.int .i64 (lowT t J i)]) rfl ty75 ze3 cl3 rfl rfl rfl rfl rfl rfl rfl rfl ?_)))
   refine o_appendF rfl ap75_75 rfl rfl (by simp) (by simp) (by simp[zf,zq,oneU]) (by simp) ?_
   refine zC rfl (zB ?_)
   refine zM [(1,.box 0 0),(3,.lst Kd.own 1 [.int .i64 (lowT t J i)]),(4,.int .i64 ↑i),(5,.int .i64 (lowT t J i)),(10,.int .i64 ↑t.heard.length),(11,.int .i64 ↑i)] (st1) (.c4 rfl rfl rfl rfl (.c2 rfl rfl (.nil rfl))) rfl fun fr=>?_
   refine k_region (zK rfl rfl h01 sh84 rfl ?_)
   refine zA rfl (zA rfl (zX rfl (q64) (.lrefl _) (zN rfl h01 sh84 rfl rfl rfl rfl rfl ?_)))
   refine zB (k_region ?_)
   refine o_add rfl rfl rfl (by unfold I64;omega) (zA rfl (zB ?_))
   exact⟨kk - 1,by omega,i+1,by omega,hb2,h02,.cons rfl (.cons (by rw[hl2];rfl) (.c2 rfl rfl (.nil rfl)))⟩
  |cons y L=>
   refine zE (zA rfl (zB rfl)) (zE (zY rfl rfl rfl (zB rfl)) ?_)
   refine zE (zY rfl rfl rfl (zB rfl)) ?_
   refine zE (zC rfl (zB rfl)) ?_
   refine zE (zC rfl (zB rfl)) ?_
   refine d_nil ?_
   refine kQ (zA rfl (zA rfl (o_lit (es:=[.int .i64 (lowT t J i)]) rfl ty75 ze3 cl3 rfl rfl rfl rfl rfl rfl rfl rfl ?_)))
   refine o_appendS 3 rfl ap75_75 rfl rfl rfl (by simp) (by simp) (by simp[zf,zq,oneU]) (by simp at hll ⊢;omega) ?_
   refine zC rfl (zB ?_)
   refine zM [(1,.box 0 0),(3,.lst Kd.own 1 (.int .i64 y::List.append (List.map (fun n ↦ .int .i64 n) L) [.int .i64 (lowT t J i)])),(4,.int .i64 ↑i),(5,.int .i64 (lowT t J i)),(10,.int .i64 ↑t.heard.length),(11,.int .i64 ↑i)] (st1) (.c4 rfl rfl rfl rfl (.c2 rfl rfl (.nil rfl))) rfl fun fr=>?_
   refine k_region (zK rfl rfl h01 sh84 rfl ?_)
   refine zA rfl (zA rfl (zX rfl (q64) (.lrefl _) (zN rfl h01 sh84 rfl rfl rfl rfl rfl ?_)))
   refine zB (k_region ?_)
   refine o_add rfl rfl rfl (by unfold I64;omega) (zA rfl (zB ?_))
   exact⟨kk - 1,by omega,i+1,by omega,hb2,h02,.cons rfl (.cons (by rw[hl2,accI_snoc];rfl) (.c2 rfl rfl (.nil rfl)))⟩
 ·have hiN:i=t.heard.length:=by omega
  subst hiN
  have hll:(tunL t J t.heard.length).length=t.heard.length:=by unfold tunL;simp
  generalize tunL t J t.heard.length=L at hll
  cases L with
  |nil=>simp at hll;omega
  |cons y L=>
   have hle:(y::L).length≤8:=by omega
   refine kQ (zt rfl rfl rfl (zB (k_seq (k_cF rfl (decide_eq_false (by omega)) (yp (kQ (zA rfl (zA rfl ?_))))))))
   refine yZ rfl ty75 rfl (List.length_map _) ?_
   refine zA rfl (yZ rfl ty75 rfl (List.length_map _) ?_)
   refine o_slice0 rfl ty75 cl3 rfl (by simp) rfl rfl (by simp) ?_
   refine zC rfl (zB (ze ?_))
   refine⟨.inr rfl,_,.cons _ _ _ _ (.tmp 2) .nil,?_⟩
   rw[List.take_of_length_le (by simp)]
   exact .ro _ _ _
end
section
variable {is:FuncId→Bool}{orc:Known}
noncomputable def b19:Code:=(Try.f19.body).getD .skip
theorem body19:bodyOf Try.prog 19=some (16,b19,[.tmp 2,.tmp 3]):=by kernel_rfl
theorem pure19:pureFn Try.prog 19=true:=by kernel_rfl
theorem ze28:yR Try.prog 28=some ((.cons .nils (.cons .nils (.cons .nils (.cons (.int .i64 0) (.cons (.int .i64 0) .nil))))):V):=by kernel_rfl
noncomputable def b43:Code:=(Try.f43.body).getD .skip
theorem body43:bodyOf Try.prog 43=some (22,b43,[.cell 6 28]):=by kernel_rfl
theorem pure43:pureFn Try.prog 43=false:=by kernel_rfl
variable {t:Ts}{J:List Jn}{v x:Int}
noncomputable def tunR(t:Ts):List Int:=if askE t []=0 then tunL t (zp t) t.heard.length else []
theorem ask_nil(hv:z7 t=true):askE t []=errT t:=by
 unfold askE errT
 rw[if_pos hv,if_pos (show uF t []=true from rfl)]
set_option maxHeartbeats 8000000 in
theorem ret19(hi:Off is)(t:Ts):RetP Try.prog is orc 19 [t.u] (.tup [.lst .ro 1 (yc (tunR t)),.int .i64 (askE t [])]):=by
 have q59:=ret59 (orc:=orc) hi t [] (by simp)
 refine yQ body19 pure19 (hi 19 (by decide)) rfl rfl (y6 (wC t 4)) (.inr ⟨_,rfl,z4 (dat_ints 5 .ro (fun h=>by cases h) 1 _) (.int _ _ _)⟩) ?_
 by_cases h0:askE t []=0
 ·obtain⟨hok,_,htb⟩:=ask_ok h0
  have hp:tunR t=tunL t (zp t) t.heard.length:=by unfold tunR;rw[if_pos h0]
  have hc:askC t []=setC t (zp t):=by unfold askC;rw[if_pos h0]
  rw[hc]at q59
  rw[hp]
  have q60:=ret60 (orc:=orc) hi hok.sok ((y7 hok.sok).1 htb)
  rw[h0]at q59 ⊢
  refine kQ (yH rfl rfl (zC rfl (zC rfl (zB ?_))))
  refine zM [(1,.box 0 0)] ([SB.box t.cs]) (.cons rfl (.nil rfl)) rfl fun fr=>?_
  refine kQ (zK rfl rfl rfl sh28 rfl (zX rfl q59 (.lcons _ _ _ _ (.refl _) (.lcons _ _ _ _ (.nil _ _ _) (.lrefl _))) ?_))
  refine zA rfl (zY rfl rfl rfl (zY rfl rfl rfl (zV rfl ze84 ?_)))
  refine zN rfl rfl sh84 rfl rfl rfl rfl rfl ?_
  refine zC rfl (zB ?_)
  refine zM [(4,.box 1 0),(5,.int .i64 0)] ([SB.box t.cs,SB.box [.lst .ro 2 (zS t.heard),.lst .ro 2 (yg t.scales),.lst .ro 2 (zS t.pairs),.int .i64 t.lo,.int .i64 t.hi,.lst .ro 5 (jnsU (zp t))]]) (.c2 rfl rfl (.nil rfl)) rfl fun fr=>?_
  refine k_seq (kQ (zA rfl (o_neq rfl rfl rfl (zB (k_cF rfl rfl ?_)))))
  refine zW (kQ (zK rfl rfl rfl sh84 rfl (zX rfl (q60) (.lrefl _) (zC rfl (zC rfl (zB (ze ?_)))))))
  refine⟨.inr rfl,_,.cons _ _ _ _ (.tmp 2) (.cons _ _ _ _ (.tmp 3) .nil),?_⟩
  exact .refl _
 ·have hp:tunR t=[]:=by unfold tunR;rw[if_neg h0]
  have hc:askC t []=z6:=by unfold askC;rw[if_neg h0]
  rw[hc]at q59
  rw[hp]
  generalize askE t []=e at h0 q59
  refine kQ (yH rfl rfl (zC rfl (zC rfl (zB ?_))))
  refine zM [(1,.box 0 0)] ([SB.box t.cs]) (.cons rfl (.nil rfl)) rfl fun fr=>?_
  refine kQ (zK rfl rfl rfl sh28 rfl (zX rfl q59 (.lcons _ _ _ _ (.refl _) (.lcons _ _ _ _ (.nil _ _ _) (.lrefl _))) ?_))
  refine zA rfl (zY rfl rfl rfl (zY rfl rfl rfl (zV rfl ze84 ?_)))
  refine zN rfl rfl sh84 rfl rfl rfl rfl rfl ?_
  refine zC rfl (zB ?_)
  refine zM [(4,.box 1 0),(5,.int .i64 e)] ([SB.box t.cs,SB.box [.lst .full 0 [],.lst .full 0 [],.lst .full 0 [],.int .i64 0,.int .i64 0,.lst .full 0 []]]) (.c2 rfl rfl (.nil rfl)) rfl fun fr=>?_
  refine k_seq (kQ (zA rfl (o_neq rfl rfl rfl (zB (k_cT rfl (decide_eq_true (by omega)) (kQ (zA rfl (zC rfl ?_))))))))
  refine zC rfl (zB (ze ?_))
  refine⟨.inr rfl,_,.cons _ _ _ _ (.tmp 2) (.cons _ _ _ _ (.tmp 3) .nil),?_⟩
  exact .tup _ _ (.lcons _ _ _ _ (.nil _ _ _) (.lrefl _))
def putS(t:Ts)(v:Int)(q:Two):Ts:={t with heard:=t.heard.set v.toNat q}
theorem put_ok(h:TOk t){q:Two}(hq:1≤q.a∧q.a≤q.b∧q.b≤4000∧q.b - q.a≤40):TOk (putS t v q):=by
 have hl:(putS t v q).heard.length=t.heard.length:=by unfold putS;simp
 refine⟨by rw[hl];exact h.n1,by rw[hl];exact h.n8,fun w hw=>?_,⟨h.sh.ns,h.sh.np,h.sh.sc⟩,by rw[hl];exact h.sk,h.ss,by rw[hl];exact h.pr,h.bt,h.ac⟩
 rcases List.mem_or_eq_of_mem_set hw with hw|rfl
 ·exact h.hd w hw
 ·exact hq
theorem put_lo(hv:Key t v)(q:Two)(u:Int)(hu:0≤u):hloT (putS t v q) u=if u=v then q.a else hloT t u:=by
 unfold hloT putS
 simp only[List.getElem?_set]
 by_cases e:u=v
 ·subst e;rw[if_pos rfl,if_pos rfl,if_pos (by have:=hv.1;have:=hv.2;omega)];rfl
 ·rw[if_neg e,if_neg (by have:=hv.1;omega)]
theorem put_hi(hv:Key t v)(q:Two)(u:Int)(hu:0≤u):hhiT (putS t v q) u=if u=v then q.b else hhiT t u:=by
 unfold hhiT putS
 simp only[List.getElem?_set]
 by_cases e:u=v
 ·subst e;rw[if_pos rfl,if_pos rfl,if_pos (by have:=hv.1;have:=hv.2;omega)];rfl
 ·rw[if_neg e,if_neg (by have:=hv.1;omega)]
theorem uL(hv:Key t v){q:Two}(h1:hloT t v≤q.a)(h2:q.b≤hhiT t v){p:Int→Int}(hp:TunT (putS t v q) J p):TunT t J p:=by
 have hl:(putS t v q).heard.length=t.heard.length:=by unfold putS;simp
 refine⟨fun u hu0 hu1=>?_,hp.2⟩
 have:=hp.1 u hu0 (by rw[hl];exact hu1)
 rw[put_lo hv q u hu0,put_hi hv q u hu0]at this
 by_cases e:u=v
 ·subst e;rw[if_pos rfl,if_pos rfl]at this;omega
 ·rwa [if_neg e,if_neg e]at this
abbrev tsC(t:Ts)(u:U):List U:=[u,.lst .ro 2 (yg t.scales),.lst .ro 2 (zS t.pairs),.int .i64 t.lo,.int .i64 t.hi]
set_option maxHeartbeats 8000000 in
theorem ret43(hi:Off is)(h1:1≤t.heard.length)(h8:t.heard.length≤8)(hv:Key t v):RetP Try.prog is orc 43 [t.u,.int .i64 v,.int .i64 x] (putS t v ⟨x,x⟩).u:=by
 refine ret_of_shared body43 pure43 rfl rfl (fun u hu=>by
  simp only[List.mem_cons,List.not_mem_nil,or_false]at hu
  rcases hu with rfl|rfl|rfl
  ·exact⟨(wC t 4).nb,fun _=>rfl⟩
  ·exact⟨NB.int _ _,fun _=>rfl⟩
  ·exact⟨NB.int _ _,fun _=>rfl⟩) (wC _ 4).nb ?_
 have q41:=ret41 (orc:=orc) hi x x
 have hset:=wL t.heard v.toNat ⟨x,x⟩ (by have:=hv.1;have:=hv.2;omega)
 have hfl:=yl t.heard
 have hl:(putS t v ⟨x,x⟩).heard.length=t.heard.length:=by unfold putS;simp
 have hfs:zf (zS (putS t v ⟨x,x⟩).heard)=(((zf (zS (putS t v ⟨x,x⟩).heard)).map dg).drop 0).take (t.heard.length*2):=by
  rw[z0,List.drop_zero,List.take_of_length_le (by rw[yl];omega)]
 have hez:∀e∈zS (putS t v ⟨x,x⟩).heard,(zq e).length=2:=fun e he=>by
  obtain⟨q,_,rfl⟩:=List.mem_map.1 he;rfl
 have hel:(zS (putS t v ⟨x,x⟩).heard).length=t.heard.length:=by rw[List.length_map];exact hl
 have hle:0+t.heard.length*2≤((zf (zS (putS t v ⟨x,x⟩).heard)).map dg).length:=by rw[z0,yl];omega
 have hvv:=hv.1
 have hvw:=hv.2
 refine kQ (yH rfl rfl (zV rfl ze28 ?_))
 refine zB ?_
 refine zM [(1,.int .i64 v),(2,.int .i64 x),(3,U.box 0 0),(6,U.box 1 0)] ([SB.box t.cs,SB.box [.lst .full 0 [],.lst .full 0 [],.lst .full 0 [],.int .i64 0,.int .i64 0]]) (.c4 rfl rfl rfl rfl (.nil rfl)) rfl fun fr=>?_
 refine kQ (zK rfl rfl rfl sh28 rfl (zV rfl ze28 ?_))
 refine zN rfl rfl sh28 rfl rfl rfl rfl rfl ?_
 refine zB ?_
 refine zM [(1,.int .i64 v),(2,.int .i64 x),(3,U.box 0 0),(6,U.box 1 0),(7,U.box 2 0)] ([SB.box t.cs,SB.box [.lst .full 0 [],.lst .full 0 [],.lst .full 0 [],.int .i64 0,.int .i64 0],SB.box t.cs]) (.c4 rfl rfl rfl rfl (.cons rfl (.nil rfl))) rfl fun fr=>?_
 refine kQ (o_lit (es:=[]) rfl ty22 ze26 cl26 rfl rfl rfl rfl rfl rfl rfl rfl ?_)
 refine zG rfl rfl yA (zF rfl rfl rfl sh22 rfl (o_appendB rfl uf rfl rfl (by simp) (by simp) (wM t.heard) (z0 t.heard) (List.length_map _) (by omega) (by omega) ?_))
 refine zG rfl rfl yA (o_store1 rfl rfl sh22 rfl rfl (zB ?_))
 refine zM [(1,.int .i64 v),(2,.int .i64 x),(6,U.box 1 0),(7,U.box 2 0)] ([SB.box t.cs,SB.box [.lst .full 0 [],.lst .full 0 [],.lst .full 0 [],.int .i64 0,.int .i64 0],SB.box [U.sl 3 0 t.heard.length 2,.lst .ro 2 (yg t.scales),.lst .ro 2 (zS t.pairs),.int .i64 t.lo,.int .i64 t.hi],SB.box (zf (zS t.heard))]) (.c4 rfl rfl rfl rfl (.nil rfl)) rfl fun fr=>?_
 refine k_seq (k_draw [.plain,.read true,.plain,.plain,.plain,.read false,.plain,.plain] (by kernel_rfl) (by kernel_rfl) (by kernel_rfl) ?_)
 refine zE (zG rfl rfl yA (zB rfl)) ?_
 refine zi rfl (zF rfl rfl rfl sh22 rfl (zB rfl)) (zE (zA rfl (zB rfl)) (zE (zA rfl (zB rfl)) (zE (zA rfl (zB rfl)) (d_callR rfl (q41) (wH _ _) (.lrefl _) ?_))))
 refine zE (o_idxS rfl ty22 rfl rfl (by omega) (by omega) cl26 (zB rfl)) ?_
 refine zE (o_storeNW rfl rfl sh26 rfl rfl rfl (by rw[hfl];omega) rfl hset (zB rfl)) ?_
 refine d_nil ?_
 refine zM [(6,.box 1 0),(7,.box 2 0)] ([SB.box t.cs,SB.box [.lst .full 0 [],.lst .full 0 [],.lst .full 0 [],.int .i64 0,.int .i64 0],SB.box [U.sl 3 0 t.heard.length 2,.lst .ro 2 (yg t.scales),.lst .ro 2 (zS t.pairs),.int .i64 t.lo,.int .i64 t.hi],SB.box (zf (zS (List.set t.heard (Int.toNat v) {a:=x,b:=x})))]) (.c2 rfl rfl (.nil rfl)) rfl fun fr=>?_
 refine zM [(6,.box 1 0),(7,.box 2 0)] [.box t.cs,.box [.lst .full 0 [],.lst .full 0 [],.lst .full 0 [],.int .i64 0,.int .i64 0],.box (tsC t (.sl 3 0 t.heard.length 2)),.box (zf (zS (putS t v ⟨x,x⟩).heard))] (.c2 rfl rfl (.nil rfl)) rfl fun frx=>?_
 refine kQ (o_frz (a:=3) rfl ?_)
 refine zK rfl rfl rfl sh28 rfl ?_
 have hus:US [.box t.cs,.box [.lst .full 0 [],.lst .full 0 [],.lst .full 0 [],.int .i64 0,.int .i64 0],.box (tsC t (.sl 3 0 t.heard.length 2)),.froz ((zf (zS (putS t v ⟨x,x⟩).heard)).map dg)] (.u (.agg (tsC t (.sl 3 0 t.heard.length 2)))) (.u (putS t v ⟨x,x⟩).u):=
  .agg _ _ (.lcons _ _ _ _ (.sl _ _ _ _ _ _ rfl hfs hez hel hle) (.lrefl _))
 refine o_seeE 21 (u:=(putS t v ⟨x,x⟩).u) rfl (fun _=>rfl) rfl rfl hus ?_
 refine zN rfl rfl sh28 rfl rfl rfl rfl rfl ?_
 refine zB (ze ?_)
 refine⟨.inr rfl,_,.cons _ _ _ _ (.cellN 6 28 _ _ _ _ rfl rfl sh28 rfl) .nil,?_⟩
 exact .refl _
end
end Go.Proofs.Ytinhcdijbcamaaa.tuneNarrower
