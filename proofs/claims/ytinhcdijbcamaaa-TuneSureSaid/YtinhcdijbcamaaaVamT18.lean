import Derived.Test.YtinhcdijbcamaaaVamT17
set_option linter.unusedVariables false
set_option linter.unusedSimpArgs false
set_option linter.constructorNameAsVariable false
namespace Go.Proofs.Ytinhcdijbcamaaa.tuneSure
open Vam
section
variable {is:FuncId→Bool}{orc:Known}
theorem ze120:yR Try.prog 120=some ((.cons .nilf .nil):V):=by kernel_rfl
theorem ze29:yR Try.prog 29=some ((.cons .nils .nil):V):=by kernel_rfl
noncomputable def b74:Code:=(Try.f74.body).getD .skip
theorem body74:bodyOf Try.prog 74=some (21,b74,[.tmp 2]):=by kernel_rfl
theorem pure74:pureFn Try.prog 74=true:=by kernel_rfl
noncomputable def b32:Code:=(Try.f32.body).getD .skip
theorem body32:bodyOf Try.prog 32=some (13,b32,[.tmp 2,.tmp 3]):=by kernel_rfl
theorem pure32:pureFn Try.prog 32=true:=by kernel_rfl
variable {t:Ts}{J:List Jn}{fo se le:Nat}{st Y Z:List SB}
def Inc:Int→List Int→Int→Prop
 |_,[],_=>True
 |a,x::M,n=>a≤x∧x<n∧Inc (x+1) M n
theorem leaveF_some:∀(m:Nat) (L:List Int) {K:List Int},leaveF t J m L=some K→∃M,K=L++M∧M.length=m∧Inc (fstK L) M t.heard.length∧outB t J K=true:=by
 intro m
 induction m with
 |zero=>
  intro L K h
  unfold leaveF at h
  by_cases hc:outB t J L=true
  ·rw[if_pos hc]at h;cases h;exact⟨[],(List.append_nil _).symm,rfl,trivial,hc⟩
  ·rw[if_neg hc]at h;cases h
 |succ m ih=>
  intro L K h
  unfold leaveF at h
  obtain⟨i,hi,h2⟩:=List.exists_of_findSome?_eq_some h
  have hi:=List.mem_range.1 hi
  obtain⟨M,rfl,e2,e3,e4⟩:=ih _ h2
  rw[fstK_snoc]at e3
  exact⟨(fstK L+(i:Int))::M,by rw[List.append_assoc];rfl,by rw[List.length_cons,e2],⟨by omega,by omega,e3⟩,e4⟩
theorem leaveF_none:∀(m:Nat) (L:List Int),leaveF t J m L=none→∀M,M.length=m→Inc (fstK L) M t.heard.length→outB t J (L++M)=false:=by
 intro m
 induction m with
 |zero=>
  intro L h M hM hI
  have:=List.length_eq_zero_iff.1 hM
  subst this
  rw[List.append_nil]
  unfold leaveF at h
  cases hc:outB t J L with
  |false=>rfl
  |true=>rw[if_pos hc]at h;cases h
 |succ m ih=>
  intro L h M hM hI
  cases M with
  |nil=>cases hM
  |cons x M=>
   unfold leaveF at h
   obtain⟨h1,h2,h3⟩:=hI
   have:=List.findSome?_eq_none_iff.1 h (x - fstK L).toNat (List.mem_range.2 (by omega))
   rw[show fstK L+(((x - fstK L).toNat:Nat):Int)=x by omega]at this
   have:=ih _ this M (by simpa using hM) (by rw[fstK_snoc];exact h3)
   rwa [List.append_assoc]at this
def upTo:Nat→Int→List Int
 |0,_=>[]
 |m+1,a=>a::upTo m (a+1)
theorem upTo_inc:∀(m:Nat) (a n:Int),a+m≤n→Inc a (upTo m a) n∧(upTo m a).length=m∧∀x,a≤x→x<a+m→x∈upTo m a:=by
 intro m
 induction m with
 |zero=>intro a n h;exact⟨trivial,rfl,fun x h1 h2=>by omega⟩
 |succ m ih=>
  intro a n h
  obtain⟨h1,h2,h3⟩:=ih (a+1) n (by omega)
  refine⟨⟨Int.le_refl _,by omega,h1⟩,by unfold upTo;rw[List.length_cons,h2],fun x h4 h5=>?_⟩
  unfold upTo
  by_cases e:x=a
  ·subst e;exact List.mem_cons_self
  ·exact List.mem_cons_of_mem _ (h3 x (by omega) (by omega))
theorem out_all(h:SOk t J):outB t J (upTo (t.heard.length - 1) 0)=true:=by
 have h1:=h.n1
 obtain⟨_,_,hin⟩:=upTo_inc (t.heard.length - 1) 0 t.heard.length (by omega)
 have hJ:outJ J (metB (upTo (t.heard.length - 1) 0))=[]:=by
  unfold outJ
  rw[List.filter_eq_nil_iff]
  intro j hj
  obtain⟨r1,r2⟩:=h.jr j hj
  have hne:j.one≠j.two:=fun e=>by
   have hs:List.Sublist [edJ j] (EJ J):=List.singleton_sublist.2 (List.mem_map_of_mem hj)
   have:=h.ac.sub hs
   have h2: ¬ Conn [] j.one j.two:=this.last (E:=[])
   rw[e]at h2
   exact h2 (.refl _)
  have hk:∀v:Int,0≤v→v<((t.heard.length - 1:Nat):Int)→metB (upTo (t.heard.length - 1) 0) v.toNat=true:=fun v h1 h2=>decide_eq_true (by rw[show((v.toNat:Nat):Int)=v by omega];exact hin v h1 (by omega))
  unfold keepB
  by_cases c:j.one<((t.heard.length - 1:Nat):Int)
  ·rw[hk _ r1.1 c];simp
  ·rw[hk j.two r2.1 (by omega)];simp
 unfold outB
 rw[hJ]
 have hs:SOk t []:=⟨h.n1,h.n8,h.hd,(fun j hj=>(by cases hj)),(fun j hj=>(by cases hj)),Nat.zero_le _,.nil⟩
 exact(tunB_iff hs).2 ⟨hloT t,fun v h1 h2=>by
  obtain⟨q,_,e1,e2,hq⟩:=hs.key ⟨h1,h2⟩
  omega,fun j hj=>by cases hj⟩
def wroO(t:Ts)(J:List Jn):Option (List Int):=(List.range t.heard.length).findSome? fun many=>leaveF t J many []
theorem wroO_ex(h:SOk t J):∃K,wroO t J=some K:=by
 cases hc:wroO t J with
 |some K=>exact⟨K,rfl⟩
 |none=>
  have h1:=h.n1
  have h2:=List.findSome?_eq_none_iff.1 hc (t.heard.length - 1) (List.mem_range.2 (by omega))
  obtain⟨i1,i2,_⟩:=upTo_inc (t.heard.length - 1) 0 t.heard.length (by omega)
  have:=leaveF_none _ _ h2 _ i2 i1
  rw[List.nil_append,out_all h]at this
  cases this
def wroL(t:Ts)(J:List Jn):List Int:=(wroO t J).getD []
theorem LK.nil(n:Nat):LK [] n:=⟨(fun x hx=>(by cases hx)),List.Pairwise.nil,Int.le_refl 0,(fun x hx=>(by cases hx))⟩
set_option maxHeartbeats 8000000 in
theorem ret74(hi:Off is)(h:SOk t J):RetP Try.prog is orc 74 [.agg (setC t J)] (.lst .ro 1 (zR (wroL t J))):=by
 obtain⟨K,hK⟩:=wroO_ex h
 have hwl:wroL t J=K:=by unfold wroL;rw[hK];rfl
 rw[hwl]
 refine yI body74 pure74 (hi 74 (by decide)) rfl rfl (dat_l1 (dat_set t J 4)) (.inl (dat_ints 6 .ro (fun h=>by cases h) 1 K)) ?_
 refine kQ (yJ rfl rfl (zC rfl (zA ?_)))
 refine zM [(1,U.box 0 0)] ([SB.box [.lst .ro 2 (yD t.heard),.lst .ro 2 (sclsU t.scales),.lst .ro 2 (yD t.pairs),.int .i64 t.lo,.int .i64 t.hi,.lst .ro 5 (jnsU J)]]) (.cons rfl (.nil rfl)) rfl fun fr=>?_
 refine kQ (zd rfl ze29 ?_)
 refine zA ?_
 refine zM [(1,U.box 0 0),(3,U.box 1 0)] ([SB.box [.lst .ro 2 (yD t.heard),.lst .ro 2 (sclsU t.scales),.lst .ro 2 (yD t.pairs),.int .i64 t.lo,.int .i64 t.hi,.lst .ro 5 (jnsU J)],SB.box [.lst .full 0 []]]) (.cons rfl (.cons rfl (.nil rfl))) rfl fun fr=>?_
 refine kQ (zd rfl ze120 ?_)
 refine zA ?_
 refine zM [(1,U.box 0 0),(3,U.box 1 0),(4,U.box 2 0)] ([SB.box [.lst .ro 2 (yD t.heard),.lst .ro 2 (sclsU t.scales),.lst .ro 2 (yD t.pairs),.int .i64 t.lo,.int .i64 t.hi,.lst .ro 5 (jnsU J)],SB.box [.lst .full 0 []],SB.box [U.nilf]]) (.cons rfl (.cons rfl (.cons rfl (.nil rfl)))) rfl fun fr=>?_
 refine kQ ?_
 refine o_func rfl ?_
 refine o_store1 rfl rfl sh120 rfl rfl (zA ?_)
 refine zM [(1,U.box 0 0),(3,U.box 1 0),(4,U.box 2 0)] ([SB.box [.lst .ro 2 (yD t.heard),.lst .ro 2 (sclsU t.scales),.lst .ro 2 (yD t.pairs),.int .i64 t.lo,.int .i64 t.hi,.lst .ro 5 (jnsU J)],SB.box [.lst .full 0 []],SB.box [U.fn 97 [] [U.box 1 0,U.box 0 0,U.box 2 0]]]) (.cons rfl (.cons rfl (.cons rfl (.nil rfl)))) rfl fun fr=>?_
 refine k_seq (kQ (zF rfl rfl fld84_0 (zF rfl rfl zo (zE rfl rfl rfl sh22 rfl (zw rfl ty22 rfl (List.length_map _) ?_)))))
 refine zB rfl (zA (zK ?_))
 obtain⟨V,hV⟩:∃V:List SB,V=[.box (setC t J),.box [.lst .full 0 []],.box [.fn 97 [] [.box 1 0,.box 0 0,.box 2 0]]]:=⟨_,rfl⟩
 have hLV:LV t J 1 0 2 V:=by
  rw[hV]
  refine⟨⟨_,rfl⟩,rfl,rfl,fun x hx=>?_,by decide,by decide⟩
  simp only[List.mem_cons,List.not_mem_nil,or_false]at hx
  rcases hx with rfl|rfl|rfl
  ·exact(nbs_set t J).bd _
  ·intro c hc;rcases List.mem_singleton.1 hc with rfl;exact(dat_ints 6 .full (fun h=>by cases h) 0 []).nb.bd _
  ·intro c hc
   rcases List.mem_singleton.1 hc with rfl
   refine Bd.fn (fun u hu=>by cases hu) fun u hu=>?_
   simp only[List.mem_cons,List.not_mem_nil,or_false]at hu
   rcases hu with rfl|rfl|rfl<;>exact Bd.box (by simp)
 have hb0:bl8 (metB [])=bl8 (fun _=>false):=bl8_congr fun i _=>decide_eq_false (by simp)
 refine yY (fun kk s2=>∃i:Nat,kk+i=t.heard.length∧(∀j,j<i→leaveF t J j []=none)∧Tk 1 V s2.st∧Holds s2 [(3,.box 1 0),(4,.box 2 0),(10,.int .i64 t.heard.length),(11,.int .i64 i)]) (fun kk s2 hI=>?_) t.heard.length _ ⟨0,rfl,fun j hj=>absurd hj (Nat.not_lt_zero _),.inl (by rw[hV];rfl),.c4 rfl rfl rfl rfl (.nil rfl)⟩
 obtain⟨i,hki,hno,hTk,hs2⟩:=hI
 generalize hY:s2.st=Y at hTk
 have hLY:=hTk.lv hLV
 have y2:=hLY.l
 have hn8:=h.n8
 refine zM _ _ hs2 hY fun fr2=>?_
 by_cases hin:i<t.heard.length
 ·have hcall:=wpc97 h i is orc hi (by omega) [] Y (LK.nil _) hLY
  rw[hb0]at hcall
  cases hlf:leaveF t J i []with
  |some K'=>
   have hcall2:=hcall.mono (Q':=fun u st'=>u=.bool true∧st'=Y.set 1 (.box [.lst .full 1 (zR K')])) fun u st' hq=>by unfold LvQ at hq;rw[hlf]at hq;exact hq
   obtain⟨M,e1,e2,_,_⟩:=leaveF_some i [] hlf
   have hl:K'.length≤4096:=by rw[e1,List.nil_append,e2];omega
   have hw:wroO t J=some K':=findS_some hin hlf hno
   have hKK:K=K':=by rw[hw]at hK;exact(Option.some.inj hK).symm
   subst hKK
   obtain⟨F,hF⟩:=hLY.f
   have z1:(Y.set 1 (.box [.lst .full 1 (zR K)]))[1]? =some (.box [.lst .full 1 (zR K)]):=at_put hF
   refine kQ (zb rfl rfl rfl (zA (k_seq (k_cT rfl (decide_eq_true (by omega)) (zQ (k_seq (zK (kQ ?_))))))))
   refine zB rfl (zC rfl (zA (kQ (zE rfl rfl y2 sh120 rfl ?_))))
   refine yk rfl ze122 pl122 rfl rfl ?_
   refine zB rfl ?_
   (refine o_callV rfl rfl hcall2 (.lcons _ _ _ _ (.nil .full .ro 1) (.lrefl _)) (fun u st1 hM=>?_);obtain⟨rfl,rfl⟩:=hM)
   refine zA ?_
   refine zM [(3,U.box 1 0),(4,U.box 2 0),(10,.int .i64 ↑t.heard.length),(11,.int .i64 ↑i),(17,.bool true)] (List.set Y 1 (SB.box [.lst .full 1 (zR K)])) (.c4 rfl rfl rfl rfl (.cons rfl (.nil rfl))) rfl fun fr=>?_
   refine k_cT rfl rfl ?_
   refine yO (kQ (zE rfl rfl z1 sh29 rfl ?_))
   (refine o_callW rfl (wpc99 K hl _) (.lcons _ _ _ _ (.ro _ _ _) (.lrefl _)) (fun u st1 hM=>?_);obtain⟨rfl,rfl⟩:=hM)
   refine zC rfl (zA (zc ?_))
   refine⟨.inr rfl,_,.cons _ _ _ _ (.tmp 2) .nil,?_⟩
   exact .refl _
  |none=>
   have hcall2:=hcall.mono (Q':=fun u st'=>u=.bool false∧Tk 1 Y st') fun u st' hq=>by unfold LvQ at hq;rw[hlf]at hq;exact hq
   refine kQ (zb rfl rfl rfl (zA (k_seq (k_cT rfl (decide_eq_true (by omega)) (zQ (k_seq (zK (kQ ?_))))))))
   refine zB rfl (zC rfl (zA (kQ (zE rfl rfl y2 sh120 rfl ?_))))
   refine yk rfl ze122 pl122 rfl rfl ?_
   refine zB rfl ?_
   (refine o_callV rfl rfl hcall2 (.lcons _ _ _ _ (.nil .full .ro 1) (.lrefl _)) (fun u st1 hM=>?_);obtain⟨rfl,hT2⟩:=hM)
   refine zA (k_cF rfl rfl ?_)
   refine zQ (k_region ?_)
   refine yT rfl rfl rfl (by unfold I64;omega) (zB rfl (zA ?_))
   exact⟨kk - 1,by omega,i+1,by omega,(fun j hj=>(by
    by_cases e:j=i
    ·subst e;exact hlf
    ·exact hno j (by omega))),hTk.trans hT2,.c4 rfl rfl rfl rfl (.nil rfl)⟩
 ·have hw:wroO t J=none:=findS_none fun j hj=>hno j (by omega)
  rw[hw]at hK
  cases hK
noncomputable def wrongL(t:Ts):List Int:=if yr t=true then wroL t (yZ t)else []
set_option maxHeartbeats 8000000 in
theorem ret32(hi:Off is)(t:Ts):RetP Try.prog is orc 32 [t.u] (.tup [.lst .ro 1 (zR (wrongL t)),.int .i64 (if yr t=true then 0 else 10)]):=by
 have q17:=ret17 (orc:=orc) hi t
 refine yI body32 pure32 (hi 32 (by decide)) rfl rfl (dat_l1 (dat_ts t 4)) (.inr ⟨_,rfl,yu (dat_ints 5 .ro (fun h=>by cases h) 1 _) (.int _ _ _)⟩) ?_
 unfold wrongL
 cases hv:yr t with
 |false=>
  rw[hv]at q17
  rw[if_neg (by decide)]at q17
  rw[if_neg (by decide),if_neg (by decide)]
  refine kQ (yJ rfl rfl (zC rfl (zC rfl (zA ?_))))
  refine zM [(1,U.box 0 0)] ([SB.box t.cs]) (.cons rfl (.nil rfl)) rfl fun fr=>?_
  refine k_seq (kQ (zL rfl rfl rfl sh28 rfl (zS rfl (q17) (.lrefl _) (zC rfl (zA (kQ (zB rfl (o_neq rfl rfl rfl ?_))))))))
  refine zA (k_cT rfl rfl ?_)
  refine kQ (zB rfl (zC rfl (zC rfl (zA (zc ?_)))))
  refine⟨.inr rfl,_,.cons _ _ _ _ (.tmp 2) (.cons _ _ _ _ (.tmp 3) .nil),?_⟩
  exact .tup _ _ (.lcons _ _ _ _ (.nil .full .ro 1) (.lrefl _))
 |true=>
  have hok:=(valid_iff t).1 hv
  rw[hv,if_pos rfl]at q17
  rw[if_pos rfl,if_pos rfl]
  have q72:=ret72 (orc:=orc) hi hok.sh
  have q74:=ret74 (orc:=orc) hi hok.sok
  refine kQ (yJ rfl rfl (zC rfl (zC rfl (zA ?_))))
  refine zM [(1,U.box 0 0)] ([SB.box t.cs]) (.cons rfl (.nil rfl)) rfl fun fr=>?_
  refine k_seq (kQ (zL rfl rfl rfl sh28 rfl (zS rfl (q17) (.lrefl _) (zC rfl (zA (kQ (zB rfl (o_neq rfl rfl rfl ?_))))))))
  refine zA (k_cF rfl rfl ?_)
  refine zQ (kQ (zL rfl rfl rfl sh28 rfl (zS rfl (q72) (.lrefl _) (zS rfl (q74) (.lrefl _) (zC rfl (zC rfl (zA (zc ?_))))))))
  refine⟨.inr rfl,_,.cons _ _ _ _ (.tmp 2) (.cons _ _ _ _ (.tmp 3) .nil),?_⟩
  exact .refl _
theorem wro_none(h:SOk t J)(ht:TunE t J):wroL t J=[]:=by
 have h1:=h.n1
 have hJ:outJ J (metB [])=J:=by
  unfold outJ
  rw[List.filter_eq_self]
  intro j _
  unfold keepB metB
  simp
 have h0:leaveF t J 0 []=some []:=by
  unfold leaveF outB
  rw[hJ,if_pos ((tunB_iff h).2 ht)]
 have:wroO t J=some []:=findS_some (i:=0) (by omega) h0 fun j hj=>absurd hj (Nat.not_lt_zero _)
 unfold wroL
 rw[this];rfl
end
section
variable {is:FuncId→Bool}{orc:Known}
noncomputable def b13:Code:=(Try.f13.body).getD .skip
theorem body13:bodyOf Try.prog 13=some (123,b13,[.tmp 4]):=by kernel_rfl
theorem pure13:pureFn Try.prog 13=true:=by kernel_rfl
variable {t:Ts}{J:List Jn}{v x y:Int}{st Y Z:List SB}
theorem fitS_iff(hok:TOk t){j:Jn}(hj:j∈yZ t){p:Int→Int}(hx:1≤p j.one):fitS p j=true↔Fit j (p j.one) (p j.two):=by
 rw[fit_kd (hok.sok.jv j hj) hx]
 unfold fitS
 rcases kd_02 hok hj with ⟨k0,_,_⟩|k0
 ·rw[if_pos k0]
  simp only[Bool.and_eq_true,decide_eq_true_eq]
  omega
 ·rw[if_neg (by omega)]
  simp only[Bool.and_eq_true,decide_eq_true_eq]
  omega
theorem brk_iff{l:List Int}{j:Jn}:brkB l j=false↔Fit j (pL l j.one) (pL l j.two):=by
 unfold brkB Fit
 rw[Bool.not_eq_false',Bool.and_eq_true,decide_eq_true_eq,decide_eq_true_eq]
theorem pL_map(f:Nat→Int){n:Nat}{v:Int}(hv:0≤v∧v<(n:Int)):pL ((List.range n).map f) v=f v.toNat:=by
 unfold pL
 rw[List.getElem?_map,List.getElem?_range (by omega)];rfl
theorem inB_iff{l:List Int}(hl:l.length=t.heard.length):inB t l=true↔ ∀v,Key t v→InH t v (pL l v):=by
 unfold inB InH Key
 rw[List.all_eq_true,hl]
 constructor
 ·intro h v hv
  have:=h v.toNat (List.mem_range.2 (by omega))
  simp only[Bool.and_eq_true,decide_eq_true_eq,show((v.toNat:Nat):Int)=v by omega]at this
  exact this
 ·intro h i hi
  have hi:=List.mem_range.1 hi
  have:=h (i:Int) ⟨by omega,by omega⟩
  simp only[Bool.and_eq_true,decide_eq_true_eq]
  exact this
theorem drw_in(hok:TOk t)(bits:List Int)(hv:Key t v):InH t v (pL (drwL t bits t.heard.length) v):=by
 unfold drwL
 rw[pL_map _ hv]
 obtain⟨q,_,e1,e2,hq⟩:=hok.sok.key hv
 show hloT t v≤drawI (hloT t ((v.toNat:Nat):Int)) (hhiT t ((v.toNat:Nat):Int)) _∧drawI (hloT t ((v.toNat:Nat):Int)) (hhiT t ((v.toNat:Nat):Int)) _≤hhiT t v
 rw[show((v.toNat:Nat):Int)=v from by have:=hv.1;omega]
 exact drawI_b _ (by omega)
theorem drw_len(t:Ts)(bits:List Int)(n:Nat):(drwL t bits n).length=n:=by unfold drwL;simp
theorem tun_of{l:List Int}(hin:∀v,Key t v→InH t v (pL l v))(hf:∀j∈yZ t,Fit j (pL l j.one) (pL l j.two)):TunE t (yZ t):=
 ⟨pL l,fun v h1 h2=>hin v ⟨h1,h2⟩,hf⟩
def endL(t:Ts)(c:Int)(n:Nat):List Int:=(List.range n).map fun v:Nat=>if bitI c v=true then hhiT t v else hloT t v
theorem endL_succ(t:Ts)(c:Int)(n:Nat):endL t c (n+1)=endL t c n++[if bitI c n=true then hhiT t n else hloT t n]:=by unfold endL;rw[List.range_succ,List.map_append];rfl
theorem endL_at{c:Int}(hv:Key t v):pL (endL t c t.heard.length) v=endT t (bitI c v.toNat) v:=by
 unfold endL
 rw[pL_map _ hv]
 show(if bitI c v.toNat=true then hhiT t ((v.toNat:Nat):Int)else hloT t ((v.toNat:Nat):Int))=_
 rw[show((v.toNat:Nat):Int)=v from by have:=hv.1;omega]
 unfold endT pI
 cases bitI c v.toNat<;>simp
theorem endT_in(hok:TOk t)(s:Bool)(hv:Key t v):InH t v (endT t s v):=by
 obtain⟨q,_,e1,e2,hq⟩:=hok.sok.key hv
 unfold InH endT pI
 rw[e1,e2]
 cases s<;>simp only<;>omega
theorem bits_two:∀a:Fin 8,∀b:Fin 8,∀s w:Bool,a≠b→(bitI ((if s=true then 2 ^ a.val else 0)+(if w=true then 2 ^ b.val else 0)) a.val=s∧bitI ((if s=true then 2 ^ a.val else 0)+(if w=true then 2 ^ b.val else 0)) b.val=w):=by decide+kernel
theorem pow_two:∀n:Fin 9,∀a:Fin 8,∀b:Fin 8,∀s w:Bool,a≠b→a.val<n.val→b.val<n.val→(0:Int)≤(if s=true then 2 ^ a.val else 0)+(if w=true then 2 ^ b.val else 0)∧(if s=true then(2:Int) ^ a.val else 0)+(if w=true then 2 ^ b.val else 0)<2 ^ n.val:=by decide+kernel
theorem ends_ex(hok:TOk t)(hv:yr t=true)(hs:sureB t=false):∃c:Nat,(c:Int)<2 ^ t.heard.length∧(yZ t).all (fitS (pL (endL t c t.heard.length)))=false:=by
 unfold sureB at hs
 rw[if_pos hv,Bool.not_eq_false',List.any_eq_true]at hs
 obtain⟨j,hj,hm⟩:=hs
 obtain⟨s,w,hc⟩:=may_yes hm
 obtain⟨r1,r2⟩:=hok.sok.jr j hj
 have hn8:=hok.n8
 have hne:j.one≠j.two:=fun e=>by
  have hs:List.Sublist [edJ j] (EJ (yZ t)):=List.singleton_sublist.2 (List.mem_map_of_mem hj)
  have:=hok.sok.ac.sub hs
  have h2: ¬ Conn [] j.one j.two:=this.last (E:=[])
  rw[e]at h2
  exact h2 (.refl _)
 have h1:=bits_two ⟨j.one.toNat,by omega⟩ ⟨j.two.toNat,by omega⟩ s w (fun e=>hne (by have:=congrArg Fin.val e;simp only at this;omega))
 have h2:=pow_two ⟨t.heard.length,by omega⟩ ⟨j.one.toNat,by omega⟩ ⟨j.two.toNat,by omega⟩ s w (fun e=>hne (by have:=congrArg Fin.val e;simp only at this;omega)) (by show j.one.toNat<t.heard.length;omega) (by show j.two.toNat<t.heard.length;omega)
 simp only at h1 h2
 obtain⟨c,hcc⟩:∃c:Int,c=(if s=true then 2 ^ j.one.toNat else 0)+(if w=true then 2 ^ j.two.toNat else 0):=⟨_,rfl⟩
 rw[←hcc]at h1 h2
 refine⟨c.toNat,by omega,all_no hj ?_⟩
 rw[show((c.toNat:Nat):Int)=c by omega]
 have p1:=endL_at (c:=c) r1
 have p2:=endL_at (c:=c) r2
 rw[h1.1]at p1
 rw[h1.2]at p2
 have hb:=(endT_b hok.sok s r1).1
 cases hq:fitS (pL (endL t c t.heard.length)) j with
 |false=>rfl
 |true=>
  have:=(fitS_iff hok hj (by rw[p1];exact hb)).1 hq
  rw[p1,p2]at this
  unfold mayC at hc
  unfold Fit at this
  rw[decide_eq_true this.1,decide_eq_true this.2]at hc
  cases hc
set_option maxHeartbeats 16000000 in
theorem ret13(hi:Off is)(t:Ts)(bits:List Int)(r21:RetP Try.prog is orc 21 [] (.bool true)):RetP Try.prog is orc 13 [t.u,.lst .ro 1 (zR bits)] (.bool true):=by
 have q30:=ret30 (orc:=orc) hi t
 have q35:=ret35 (orc:=orc) hi t
 refine yI body13 pure13 (hi 13 (by decide)) rfl rfl (yu (dat_ts t 4) (dat_ints 6 .ro (fun h=>by cases h) 1 bits)) (.inl (.bool _ _)) ?_
 cases hv:yr t with
 |false=>
  have hs:sureB t=false:=by unfold sureB;rw[hv];rfl
  rw[hv]at q30 q35
  rw[hs,if_neg (by decide)]at q30
  refine kQ (yJ rfl rfl (zC rfl (zA ?_)))
  refine zM [(1,.lst .ro 1 (zR bits)),(2,U.box 0 0)] ([SB.box t.cs]) (.cons rfl (.cons rfl (.nil rfl))) rfl fun fr=>?_
  refine kQ (zL rfl rfl rfl sh28 rfl (zS rfl (q30) (.lrefl _) (zB rfl (yS rfl rfl rfl (yS rfl rfl rfl (zC rfl (zC rfl (zA ?_))))))))
  refine k_seq (kQ (zL rfl rfl rfl sh28 rfl (zS rfl (q35) (.lrefl _) (o_not rfl rfl (zA (k_cT rfl rfl ?_))))))
  refine kQ (zB rfl (o_eql rfl rfl rfl (zB rfl (o_gD rfl rfl rfl rfl rfl (zB rfl (o_gD rfl rfl rfl rfl rfl (o_not rfl rfl (zY rfl rfl rfl ?_))))))))
  refine zB rfl (o_gD rfl rfl rfl rfl rfl (zS rfl (r21) (.lrefl _) (zY rfl rfl rfl ?_)))
  refine zC rfl (zA (zc ?_))
  refine⟨.inr rfl,_,.cons _ _ _ _ (.tmp 4) .nil,?_⟩
  exact .refl _
 |true=>
  have hok:=(valid_iff t).1 hv
  rw[hv]at q30 q35
  rw[if_pos rfl]at q30
  have hn8:=hok.n8
  have hn1:=hok.n1
  have q36:=ret36 (orc:=orc) hi hok bits
  have q32:=ret32 (orc:=orc) hi t
  rw[hv,if_pos rfl]at q32
  cases hs:sureB t with
  |true=>
   rw[hs]at q30
   have q15:=ret15 (orc:=orc) hi hok _ (drw_len t bits t.heard.length)
   have hin:∀v,Key t v→InH t v (pL (drwL t bits t.heard.length) v):=fun v hv=>drw_in hok bits hv
   have hsj:∀j∈yZ t,mayB t j=false:=by
    unfold sureB at hs
    rw[if_pos hv,Bool.not_eq_true',List.any_eq_false]at hs
    exact fun j hj=>by simpa using hs j hj
   have hfit:∀j∈yZ t,Fit j (pL (drwL t bits t.heard.length) j.one) (pL (drwL t bits t.heard.length) j.two):=fun j hj=>sure_fit hok hj (hsj j hj) (hin _ (hok.sok.jr j hj).1) (hin _ (hok.sok.jr j hj).2)
   have hbr:(yZ t).any (brkB (drwL t bits t.heard.length))=false:=List.any_eq_false.2 fun j hj=>by rw[brk_iff.2 (hfit j hj)];decide
   rw[(inB_iff (drw_len t bits _)).2 hin,hbr]at q15
   have hw:wrongL t=[]:=by
    unfold wrongL
    rw[if_pos hv]
    exact wro_none hok.sok (tun_of hin hfit)
   rw[hw]at q32
   refine kQ (yJ rfl rfl (zC rfl (zA ?_)))
   refine zM [(1,.lst .ro 1 (zR bits)),(2,U.box 0 0)] ([SB.box t.cs]) (.cons rfl (.cons rfl (.nil rfl))) rfl fun fr=>?_
   refine kQ (zL rfl rfl rfl sh28 rfl (zS rfl (q30) (.lrefl _) (zB rfl (yS rfl rfl rfl (yS rfl rfl rfl (zC rfl (zC rfl (zA ?_))))))))
   refine k_seq (kQ (zL rfl rfl rfl sh28 rfl (zS rfl (q35) (.lrefl _) (o_not rfl rfl (zA (k_cF rfl rfl ?_))))))
   refine zQ (k_seq (kQ (zB rfl (o_neq rfl rfl rfl (zA ?_)))))
   refine zM [(1,.lst .ro 1 (zR bits)),(2,U.box 0 0),(5,.bool true),(35,U.bool (decide ((0:Int)≠(0:Int))))] ([SB.box t.cs]) (.c4 rfl rfl rfl rfl (.nil rfl)) rfl fun fr=>?_
   refine k_cF rfl rfl ?_
   refine zQ (kQ (zL rfl rfl rfl sh28 rfl (zB rfl (zS rfl (q36) (.lrefl _) (zC rfl (zA (k_seq (kQ ?_))))))))
   refine zB rfl (zA (k_cT rfl rfl ?_))
   refine kQ (zL rfl rfl rfl sh28 rfl (zB rfl (zS rfl (q15) (.lrefl _) (zB rfl (yS rfl rfl rfl (yS rfl rfl rfl (zC rfl (zC rfl ?_))))))))
   refine zA ?_
   refine zM [(2,U.box 0 0),(8,U.bool (Bool.true&& !Bool.false)),(9,.int .i64 0)] ([SB.box t.cs]) (.cons rfl (.cons rfl (.cons rfl (.nil rfl)))) rfl fun fr=>?_
   refine kQ (zL rfl rfl rfl sh28 rfl (zS rfl (q32) (.lrefl _) (zB rfl (yS rfl rfl rfl (yS rfl rfl rfl (zC rfl (zC rfl (zA ?_))))))))
   refine kQ (zB rfl (o_eql rfl rfl rfl (zB rfl (o_gD rfl rfl rfl rfl rfl (zB rfl (o_gD rfl rfl rfl rfl rfl (o_eql rfl rfl rfl (zY rfl rfl rfl ?_))))))))
   refine zB rfl (o_gD rfl rfl rfl rfl rfl (zB rfl (zY rfl rfl rfl ?_)))
   refine yd [(10,.lst .ro 1 (zR [])),(59,U.bool (Bool.true&& !Bool.false))] [] ([SB.box t.cs]) (.cons rfl (.cons rfl (.nil rfl))) rfl rfl fun fr=>?_
   refine zB rfl (o_gD rfl rfl rfl rfl rfl (zB rfl (o_gD rfl rfl rfl rfl rfl (zw rfl ty29 rfl (List.length_map _) ?_))))
   refine o_gD rfl rfl rfl rfl rfl (o_eql rfl rfl rfl (zY rfl rfl rfl ?_))
   refine zB rfl (o_gD rfl rfl rfl rfl rfl (zS rfl (r21) (.lrefl _) (zY rfl rfl rfl ?_)))
   refine zC rfl (zA (zc ?_))
   refine⟨.inr rfl,_,.cons _ _ _ _ (.tmp 4) .nil,?_⟩
   exact .refl _
  |false=>
   rw[hs]at q30
   obtain⟨c0,hc0,hf0⟩:=ends_ex hok hv hs
   obtain⟨N,hN⟩:∃N:Nat,(2:Int) ^ t.heard.length=(N:Int):=⟨2 ^ t.heard.length,by rw[Int.natCast_pow];rfl⟩
   have hN256:N≤256:=by
    have h1:2 ^ t.heard.length≤2 ^ 8:=Nat.pow_le_pow_right (by decide) hn8
    have h2:((2 ^ t.heard.length:Nat):Int)=(N:Int):=by rw[←hN,Int.natCast_pow];rfl
    omega
   rw[hN]at hc0
   refine kQ (yJ rfl rfl (zC rfl (zA ?_)))
   refine zM [(1,.lst .ro 1 (zR bits)),(2,U.box 0 0)] ([SB.box t.cs]) (.cons rfl (.cons rfl (.nil rfl))) rfl fun fr=>?_
   refine kQ (zL rfl rfl rfl sh28 rfl (zS rfl (q30) (.lrefl _) (zB rfl (yS rfl rfl rfl (yS rfl rfl rfl (zC rfl (zC rfl (zA ?_))))))))
   refine k_seq (kQ (zL rfl rfl rfl sh28 rfl (zS rfl (q35) (.lrefl _) (o_not rfl rfl (zA (k_cF rfl rfl ?_))))))
   refine zQ (k_seq (kQ (zB rfl (o_neq rfl rfl rfl (zA ?_)))))
   refine zM [(1,.lst .ro 1 (zR bits)),(2,U.box 0 0),(5,.bool false),(35,U.bool (decide ((0:Int)≠(0:Int))))] ([SB.box t.cs]) (.c4 rfl rfl rfl rfl (.nil rfl)) rfl fun fr=>?_
   refine k_cF rfl rfl ?_
   refine zQ (kQ (zL rfl rfl rfl sh28 rfl (zB rfl (zS rfl (q36) (.lrefl _) (zC rfl (zA (k_seq (kQ ?_))))))))
   refine zB rfl (zA (k_cF rfl rfl ?_))
   refine zQ (k_seq (kQ (zC rfl (zA (zK ?_)))))
   refine yY (fun kk s2=>∃c:Nat,kk+c=N∧(∀d,d<c→(yZ t).all (fitS (pL (endL t (d:Int) t.heard.length)))=true)∧s2.st=[.box t.cs]∧Holds s2 [(2,.box 0 0),(12,.int .i64 c)]) (fun kk s2 hI=>?_) N _ ⟨0,rfl,fun d hd=>absurd hd (Nat.not_lt_zero _),rfl,.cons rfl (.cons rfl (.nil rfl))⟩
   obtain⟨c,hkc,hall,hst2,hs2⟩:=hI
   refine zM _ _ hs2 hst2 fun fr2=>?_
   by_cases hcN:c<N
   ·refine k_seq ?_
    refine kQ (zB rfl (zF rfl rfl zo (zE rfl rfl rfl sh22 rfl (zw rfl ty22 rfl (List.length_map _) ?_))))
    (refine o_shlOne rfl rfl rfl (by omega) ?_;rw[hN])
    refine zb rfl rfl rfl (zA (k_cT rfl (decide_eq_true (by omega)) (zQ (k_seq (zK (kQ (zC rfl (zA ?_))))))))
    refine k_seq (kQ (zC rfl (zA (zK ?_))))
    refine yY (fun k3 s3=>∃i:Nat,k3+i=t.heard.length∧s3.st=[.box t.cs]∧Holds s3 [(2,.box 0 0),(12,.int .i64 c),(13,accI (endL t c i)),(14,.int .i64 i)]) (fun k3 s3 hI3=>?_) t.heard.length _ ⟨0,rfl,rfl,.c4 rfl rfl rfl rfl (.nil rfl)⟩
    obtain⟨i,hki,hst3,hs3⟩:=hI3
    refine zM _ _ hs3 hst3 fun fr3=>?_
    by_cases hin:i<t.heard.length
    ·obtain⟨q,hq,e1,e2,hqb⟩:=hok.sok.key (v:=(i:Int)) (by omega)
     rw[Int.toNat_natCast]at hq
     have q46:=ret46 (orc:=orc) hi (c:Int) i (by omega) (by omega)
     have hsu:=endL_succ t (c:Int) i
     rw[e1,e2]at hsu
     have hll:(endL t (c:Int) i).length=i:=by unfold endL;simp
     generalize endL t (c:Int) i=L at hsu hll
     cases hb:bitI (c:Int) i with
     |true=>
      rw[hb]at q46 hsu
      rw[if_pos rfl]at hsu
      cases L with
      |nil=>
       refine k_seq (kQ (zB rfl (zF rfl rfl zo (zE rfl rfl rfl sh22 rfl (zw rfl ty22 rfl (List.length_map _) ?_)))))
       refine zb rfl rfl rfl (zA (k_cT rfl (decide_eq_true (by omega)) (zQ (k_seq (zK (kQ (zB rfl (zB rfl ?_))))))))
       refine zS rfl (q46) (.lrefl _) (zA (k_cT rfl rfl ?_))
       refine k_region (zB rfl (zF rfl rfl zo (zE rfl rfl rfl sh22 rfl (zB rfl (zp (u:=(q).u) rfl ty22 rfl rfl (Int.natCast_nonneg _) (by simp[hq]) cl26 ?_)))))
       refine o_faddrR rfl rfl yj ?_
       refine zX rfl rfl sh3 rfl ?_
       refine o_lit (es:=[.int .i64 (Two.b q)]) rfl ty29 ze3 cl3 rfl rfl rfl rfl rfl rfl rfl rfl ?_
       refine o_appendF rfl ap29_29 rfl rfl (by simp) (by simp) (by simp[yH,zl,oneU]) (by simp) ?_
       refine zC rfl (zA ?_)
       refine zM [(2,U.box 0 0),(12,.int .i64 ↑c),(13,U.lst Kd.own 1 [.int .i64 q.b]),(14,.int .i64 ↑i)] ([SB.box t.cs]) (.c4 rfl rfl rfl rfl (.nil rfl)) rfl fun fr=>?_
       refine k_region (zB rfl ?_)
       refine yT rfl rfl rfl (by unfold I64;omega) (zC rfl (zA ?_))
       exact⟨k3 - 1,by omega,i+1,by omega,rfl,.cons rfl (.cons rfl (.cons (by rw[hsu];rfl) (.cons rfl (.nil rfl))))⟩
      |cons z L=>
       refine k_seq (kQ (zB rfl (zF rfl rfl zo (zE rfl rfl rfl sh22 rfl (zw rfl ty22 rfl (List.length_map _) ?_)))))
       refine zb rfl rfl rfl (zA (k_cT rfl (decide_eq_true (by omega)) (zQ (k_seq (zK (kQ (zB rfl (zB rfl ?_))))))))
       refine zS rfl (q46) (.lrefl _) (zA (k_cT rfl rfl ?_))
       refine k_region (zB rfl (zF rfl rfl zo (zE rfl rfl rfl sh22 rfl (zB rfl (zp (u:=(q).u) rfl ty22 rfl rfl (Int.natCast_nonneg _) (by simp[hq]) cl26 ?_)))))
       refine o_faddrR rfl rfl yj ?_
       refine zX rfl rfl sh3 rfl ?_
       refine o_lit (es:=[.int .i64 (Two.b q)]) rfl ty29 ze3 cl3 rfl rfl rfl rfl rfl rfl rfl rfl ?_
       refine o_appendS 13 rfl ap29_29 rfl rfl rfl (by simp) (by simp) (by simp[yH,zl,oneU]) (by simp at hll ⊢;omega) ?_
       refine zC rfl (zA (k_region (zB rfl ?_)))
       refine yT rfl rfl rfl (by unfold I64;omega) (zC rfl (zA ?_))
       exact⟨k3 - 1,by omega,i+1,by omega,rfl,.cons rfl (.cons rfl (.cons (by rw[hsu,accI_snoc];rfl) (.cons rfl (.nil rfl))))⟩
     |false=>
      rw[hb]at q46 hsu
      rw[if_neg (by decide)]at hsu
      cases L with
      |nil=>
       refine k_seq (kQ (zB rfl (zF rfl rfl zo (zE rfl rfl rfl sh22 rfl (zw rfl ty22 rfl (List.length_map _) ?_)))))
       refine zb rfl rfl rfl (zA (k_cT rfl (decide_eq_true (by omega)) (zQ (k_seq (zK (kQ (zB rfl (zB rfl ?_))))))))
       refine zS rfl (q46) (.lrefl _) (zA (k_cF rfl rfl ?_))
       refine k_region (zB rfl (zF rfl rfl zo (zE rfl rfl rfl sh22 rfl (zB rfl (zp (u:=(q).u) rfl ty22 rfl rfl (Int.natCast_nonneg _) (by simp[hq]) cl26 ?_)))))
       refine o_faddrR rfl rfl yL ?_
       refine zX rfl rfl sh3 rfl ?_
       refine o_lit (es:=[.int .i64 (Two.a q)]) rfl ty29 ze3 cl3 rfl rfl rfl rfl rfl rfl rfl rfl ?_
       refine o_appendF rfl ap29_29 rfl rfl (by simp) (by simp) (by simp[yH,zl,oneU]) (by simp) ?_
       refine zC rfl (zA ?_)
       refine zM [(2,U.box 0 0),(12,.int .i64 ↑c),(13,U.lst Kd.own 1 [.int .i64 q.a]),(14,.int .i64 ↑i)] ([SB.box t.cs]) (.c4 rfl rfl rfl rfl (.nil rfl)) rfl fun fr=>?_
       refine k_region (zB rfl ?_)
       refine yT rfl rfl rfl (by unfold I64;omega) (zC rfl (zA ?_))
       exact⟨k3 - 1,by omega,i+1,by omega,rfl,.cons rfl (.cons rfl (.cons (by rw[hsu];rfl) (.cons rfl (.nil rfl))))⟩
      |cons z L=>
       refine k_seq (kQ (zB rfl (zF rfl rfl zo (zE rfl rfl rfl sh22 rfl (zw rfl ty22 rfl (List.length_map _) ?_)))))
       refine zb rfl rfl rfl (zA (k_cT rfl (decide_eq_true (by omega)) (zQ (k_seq (zK (kQ (zB rfl (zB rfl ?_))))))))
       refine zS rfl (q46) (.lrefl _) (zA (k_cF rfl rfl ?_))
       refine k_region (zB rfl (zF rfl rfl zo (zE rfl rfl rfl sh22 rfl (zB rfl (zp (u:=(q).u) rfl ty22 rfl rfl (Int.natCast_nonneg _) (by simp[hq]) cl26 ?_)))))
       refine o_faddrR rfl rfl yL ?_
       refine zX rfl rfl sh3 rfl ?_
       refine o_lit (es:=[.int .i64 (Two.a q)]) rfl ty29 ze3 cl3 rfl rfl rfl rfl rfl rfl rfl rfl ?_
       refine o_appendS 13 rfl ap29_29 rfl rfl rfl (by simp) (by simp) (by simp[yH,zl,oneU]) (by simp at hll ⊢;omega) ?_
       refine zC rfl (zA (k_region (zB rfl ?_)))
       refine yT rfl rfl rfl (by unfold I64;omega) (zC rfl (zA ?_))
       exact⟨k3 - 1,by omega,i+1,by omega,rfl,.cons rfl (.cons rfl (.cons (by rw[hsu,accI_snoc];rfl) (.cons rfl (.nil rfl))))⟩
    ·have hiN:i=t.heard.length:=by omega
     subst hiN
     have hll:(endL t (c:Int) t.heard.length).length=t.heard.length:=by unfold endL;simp
     have hin2:∀v,Key t v→InH t v (pL (endL t (c:Int) t.heard.length) v):=fun v hv=>by rw[endL_at hv];exact endT_in hok _ hv
     have hp:∀y∈endL t (c:Int) t.heard.length,0≤y∧y≤4010:=fun y hy=>by
      obtain⟨k,hk,e⟩:=List.getElem_of_mem hy
      have hkk:Key t (k:Int):=⟨by omega,by omega⟩
      have h1:=in_pos hok.sok hkk (hin2 _ hkk)
      have h2:pL (endL t (c:Int) t.heard.length) (k:Int)=y:=by unfold pL;rw[Int.toNat_natCast,List.getElem?_eq_getElem hk,e];rfl
      rw[h2]at h1
      omega
     have q42:=ret42 (orc:=orc) hi hok _ hll hp
     have q15:=ret15 (orc:=orc) hi hok _ hll
     rw[(inB_iff hll).2 hin2]at q15
     cases hf:(yZ t).all (fitS (pL (endL t (c:Int) t.heard.length)))with
     |true=>
      have hall2:∀d,d<c+1→(yZ t).all (fitS (pL (endL t (d:Int) t.heard.length)))=true:=fun d hd=>by
       by_cases e:d=c
       ·subst e;exact hf
       ·exact hall d (by omega)
      rw[hf]at q42
      generalize endL t (c:Int) t.heard.length=L at q42 hll
      cases L with
      |nil=>simp at hll;omega
      |cons z L=>
       refine k_seq (kQ (zB rfl (zF rfl rfl zo (zE rfl rfl rfl sh22 rfl (zw rfl ty22 rfl (List.length_map _) ?_)))))
       refine zb rfl rfl rfl (zA (k_cF rfl (decide_eq_false (by omega)) (yO (kQ (zL rfl rfl rfl sh28 rfl (zB rfl (zS rfl (q42) (.lrefl _) (o_not rfl rfl ?_))))))))
       refine zA (k_cF rfl rfl ?_)
       refine zQ (k_region (zB rfl ?_))
       refine yT rfl rfl rfl (by unfold I64;omega) (zC rfl (zA ?_))
       exact⟨kk - 1,by omega,c+1,by omega,hall2,rfl,.cons rfl (.cons rfl (.nil rfl))⟩
     |false=>
      have hbr:(yZ t).any (brkB (endL t (c:Int) t.heard.length))=true:=by
       obtain⟨j,hj,hjf⟩:=List.all_eq_false.1 hf
       refine List.any_eq_true.2 ⟨j,hj,?_⟩
       cases hb:brkB (endL t (c:Int) t.heard.length) j with
       |true=>rfl
       |false=>exact absurd ((fitS_iff hok hj (in_pos hok.sok (hok.sok.jr j hj).1 (hin2 _ (hok.sok.jr j hj).1)).1).2 (brk_iff.1 hb)) hjf
      rw[hbr]at q15
      rw[hf]at q42
      generalize endL t (c:Int) t.heard.length=L at q42 q15 hll
      cases L with
      |nil=>simp at hll;omega
      |cons z L=>
       refine k_seq (kQ (zB rfl (zF rfl rfl zo (zE rfl rfl rfl sh22 rfl (zw rfl ty22 rfl (List.length_map _) ?_)))))
       refine zb rfl rfl rfl (zA (k_cF rfl (decide_eq_false (by omega)) (yO (kQ (zL rfl rfl rfl sh28 rfl (zB rfl (zS rfl (q42) (.lrefl _) (o_not rfl rfl ?_))))))))
       refine zA (k_cT rfl rfl ?_)
       refine kQ (zL rfl rfl rfl sh28 rfl (zB rfl (zS rfl (q15) (.lrefl _) (zB rfl (yS rfl rfl rfl (yS rfl rfl rfl (zC rfl (zC rfl ?_))))))))
       refine zA ?_
       refine zM [(15,U.bool (Bool.true&& !Bool.true)),(16,.int .i64 0)] ([SB.box t.cs]) (.cons rfl (.cons rfl (.nil rfl))) rfl fun fr=>?_
       refine kQ (zB rfl (o_eql rfl rfl rfl (zB rfl (o_gD rfl rfl rfl rfl rfl (zB rfl (o_gD rfl rfl rfl rfl rfl (o_not rfl rfl (zY rfl rfl rfl ?_))))))))
       refine zB rfl (o_gD rfl rfl rfl rfl rfl (zS rfl (r21) (.lrefl _) (zY rfl rfl rfl ?_)))
       refine zC rfl (zA (zc ?_))
       refine⟨.inr rfl,_,.cons _ _ _ _ (.tmp 4) .nil,?_⟩
       exact .refl _
   ·have:=hall c0 (by omega)
    rw[hf0]at this
    cases this
end
section
variable {is:FuncId→Bool}{orc:Known}
theorem ret13_all(hi:Off is)(r21:RetP Try.prog is orc 21 [] (.bool true)):∀us,ShpAs Try.prog [28,29] us→RetP Try.prog is orc 13 us (.bool true):=by
 intro us h
 cases h with
 |cons _ _ u us h1 h=>cases h with
 |cons _ _ v us h2 h=>
 cases h
 obtain⟨fs,hu⟩:=und28
 unfold ShpA at h1 h2
 rw[hu]at h1
 rw[u29]at h2
 obtain⟨t,rfl⟩:=arg_set h1
 obtain⟨l,rfl⟩:=arg_ints h2
 exact ret13 hi t l r21
end
end Go.Proofs.Ytinhcdijbcamaaa.tuneSure
