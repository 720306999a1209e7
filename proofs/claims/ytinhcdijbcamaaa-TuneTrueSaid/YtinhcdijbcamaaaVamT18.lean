import Derived.Test.YtinhcdijbcamaaaVamT17
set_option linter.unusedVariables false
set_option linter.unusedSimpArgs false
set_option linter.constructorNameAsVariable false
namespace Go.Proofs.Ytinhcdijbcamaaa.tuneTrue
open Vam
section
variable {is:FuncId→Bool}{orc:Known}
theorem ze120:yc Try.prog 120=some ((.cons .nilf .nil):V):=by kernel_rfl
theorem ze29:yc Try.prog 29=some ((.cons .nils .nil):V):=by kernel_rfl
noncomputable def b74:Code:=(Try.f74.body).getD .skip
theorem body74:bodyOf Try.prog 74=some (21,b74,[.tmp 2]):=by kernel_rfl
theorem pure74:pureFn Try.prog 74=true:=by kernel_rfl
noncomputable def b32:Code:=(Try.f32.body).getD .skip
theorem body32:bodyOf Try.prog 32=some (13,b32,[.tmp 2,.tmp 3]):=by kernel_rfl
theorem pure32:pureFn Try.prog 32=true:=by kernel_rfl
variable {t:Ts}{J:List Jn}{fo se le:Nat}{st Y Z:List SB}
def Inc:Int→List Int→Int→Prop
 |_,[],_=>True
 |a,x::M,n=>a≤x∧x<n∧Inc (x+1) M n
theorem leaveF_some:∀(m:Nat) (L:List Int) {K:List Int},zAe t J m L=some K→∃M,K=L++M∧M.length=m∧Inc (fstK L) M t.heard.length∧outB t J K=true:=by
 intro m
 induction m with
 |zero=>
  intro L K h
  unfold zAe at h
  by_cases hc:outB t J L=true
  ·rw[if_pos hc]at h;cases h;exact⟨[],(List.append_nil _).symm,rfl,trivial,hc⟩
  ·rw[if_neg hc]at h;cases h
 |succ m ih=>
  intro L K h
  unfold zAe at h
  obtain⟨i,hi,h2⟩:=List.exists_of_findSome?_eq_some h
  have hi:=List.mem_range.1 hi
  obtain⟨M,rfl,e2,e3,e4⟩:=ih _ h2
  rw[zEe]at e3
  exact⟨(fstK L+(i:Int))::M,by rw[List.append_assoc];rfl,by rw[List.length_cons,e2],⟨by omega,by omega,e3⟩,e4⟩
theorem leaveF_none:∀(m:Nat) (L:List Int),zAe t J m L=none→∀M,M.length=m→Inc (fstK L) M t.heard.length→outB t J (L++M)=false:=by
 intro m
 induction m with
 |zero=>
  intro L h M hM hI
  have:=List.length_eq_zero_iff.1 hM
  subst this
  rw[List.append_nil]
  unfold zAe at h
  cases hc:outB t J L with
  |false=>rfl
  |true=>rw[if_pos hc]at h;cases h
 |succ m ih=>
  intro L h M hM hI
  cases M with
  |nil=>cases hM
  |cons x M=>
   unfold zAe at h
   obtain⟨h1,h2,h3⟩:=hI
   have:=List.findSome?_eq_none_iff.1 h (x - fstK L).toNat (List.mem_range.2 (by omega))
   rw[show fstK L+(((x - fstK L).toNat:Nat):Int)=x by omega]at this
   have:=ih _ this M (by simpa using hM) (by rw[zEe];exact h3)
   rwa [List.append_assoc]at this
def upTo:Nat→Int→List Int
 |0,_=>[]
 |m+1,a=>a::upTo m (a+1)
theorem upTo_inc:∀(m:Nat) (a n:Int),a+m≤n→Inc a (upTo m a) n∧(upTo m a).length=m∧∀x,a≤x→x<a+m→x∈upTo m a:=by
 intro m
 induction m with
 |zero=>intro a n h;exact⟨trivial,rfl,fun x h1 h2=>by omega⟩
 |succ m ih=>
  intro a n h
  obtain⟨h1,h2,h3⟩:=ih (a+1) n (by omega)
  refine⟨⟨Int.le_refl _,by omega,h1⟩,by unfold upTo;rw[List.length_cons,h2],fun x h4 h5=>?_⟩
  unfold upTo
  by_cases e:x=a
  ·subst e;exact List.mem_cons_self
  ·exact List.mem_cons_of_mem _ (h3 x (by omega) (by omega))
theorem out_all(h:SOk t J):outB t J (upTo (t.heard.length - 1) 0)=true:=by
 have h1:=h.n1
 obtain⟨_,_,hin⟩:=upTo_inc (t.heard.length - 1) 0 t.heard.length (by omega)
 have hJ:outJ J (metB (upTo (t.heard.length - 1) 0))=[]:=by
  unfold outJ
  rw[List.filter_eq_nil_iff]
  intro j hj
  obtain⟨r1,r2⟩:=h.jr j hj
  have hne:j.one≠j.two:=fun e=>by
   have hs:List.Sublist [edJ j] (EJ J):=List.singleton_sublist.2 (List.mem_map_of_mem hj)
   have:=h.ac.sub hs
   have h2: ¬ Conn [] j.one j.two:=this.last (E:=[])
   rw[e]at h2
   exact h2 (.refl _)
  have hk:∀v:Int,0≤v→v<((t.heard.length - 1:Nat):Int)→metB (upTo (t.heard.length - 1) 0) v.toNat=true:=fun v h1 h2=>decide_eq_true (by rw[show((v.toNat:Nat):Int)=v by omega];exact hin v h1 (by omega))
  unfold keepB
  by_cases c:j.one<((t.heard.length - 1:Nat):Int)
  ·rw[hk _ r1.1 c];simp
  ·rw[hk j.two r2.1 (by omega)];simp
 unfold outB
 rw[hJ]
 have hs:SOk t []:=⟨h.n1,h.n8,h.hd,(fun j hj=>(by cases hj)),(fun j hj=>(by cases hj)),Nat.zero_le _,.nil⟩
 exact(zBh hs).2 ⟨hloT t,fun v h1 h2=>by
  obtain⟨q,_,e1,e2,hq⟩:=hs.key ⟨h1,h2⟩
  omega,fun j hj=>by cases hj⟩
def wroO(t:Ts)(J:List Jn):Option (List Int):=(List.range t.heard.length).findSome? fun many=>zAe t J many []
theorem wroO_ex(h:SOk t J):∃K,wroO t J=some K:=by
 cases hc:wroO t J with
 |some K=>exact⟨K,rfl⟩
 |none=>
  have h1:=h.n1
  have h2:=List.findSome?_eq_none_iff.1 hc (t.heard.length - 1) (List.mem_range.2 (by omega))
  obtain⟨i1,i2,_⟩:=upTo_inc (t.heard.length - 1) 0 t.heard.length (by omega)
  have:=leaveF_none _ _ h2 _ i2 i1
  rw[List.nil_append,out_all h]at this
  cases this
def wroL(t:Ts)(J:List Jn):List Int:=(wroO t J).getD []
theorem LK.nil(n:Nat):LK [] n:=⟨(fun x hx=>(by cases hx)),List.Pairwise.nil,Int.le_refl 0,(fun x hx=>(by cases hx))⟩
set_option maxHeartbeats 8000000 in
theorem ret74(hi:Off is)(h:SOk t J):RetP Try.prog is orc 74 [.agg (setC t J)] (.lst .ro 1 (zO (wroL t J))):=by
 obtain⟨K,hK⟩:=wroO_ex h
 have hwl:wroL t J=K:=by unfold wroL;rw[hK];rfl
 rw[hwl]
 refine yE body74 pure74 (hi 74 (by decide)) rfl rfl (zAh (zBJ t J 4)) (.inl (wT 6 .ro (fun h=>by cases h) 1 K)) ?_
 refine kQ (yA rfl rfl (zC rfl (zA ?_)))
 refine zK [(1,U.box 0 0)] ([SB.box [.lst .ro 2 (zV t.heard),.lst .ro 2 (yn t.scales),.lst .ro 2 (zV t.pairs),.int .i64 t.lo,.int .i64 t.hi,.lst .ro 5 (jnsU J)]]) (.cons rfl (.nil rfl)) rfl fun fr=>?_
 refine kQ (zT rfl ze29 ?_)
 refine zA ?_
 refine zK [(1,U.box 0 0),(3,U.box 1 0)] ([SB.box [.lst .ro 2 (zV t.heard),.lst .ro 2 (yn t.scales),.lst .ro 2 (zV t.pairs),.int .i64 t.lo,.int .i64 t.hi,.lst .ro 5 (jnsU J)],SB.box [.lst .full 0 []]]) (.cons rfl (.cons rfl (.nil rfl))) rfl fun fr=>?_
 refine kQ (zT rfl ze120 ?_)
 refine zA ?_
 refine zK [(1,U.box 0 0),(3,U.box 1 0),(4,U.box 2 0)] ([SB.box [.lst .ro 2 (zV t.heard),.lst .ro 2 (yn t.scales),.lst .ro 2 (zV t.pairs),.int .i64 t.lo,.int .i64 t.hi,.lst .ro 5 (jnsU J)],SB.box [.lst .full 0 []],SB.box [U.nilf]]) (.cons rfl (.cons rfl (.cons rfl (.nil rfl)))) rfl fun fr=>?_
 refine kQ ?_
 refine o_func rfl ?_
 refine yU rfl rfl sh120 rfl rfl (zA ?_)
 refine zK [(1,U.box 0 0),(3,U.box 1 0),(4,U.box 2 0)] ([SB.box [.lst .ro 2 (zV t.heard),.lst .ro 2 (yn t.scales),.lst .ro 2 (zV t.pairs),.int .i64 t.lo,.int .i64 t.hi,.lst .ro 5 (jnsU J)],SB.box [.lst .full 0 []],SB.box [U.fn 97 [] [U.box 1 0,U.box 0 0,U.box 2 0]]]) (.cons rfl (.cons rfl (.cons rfl (.nil rfl)))) rfl fun fr=>?_
 refine k_seq (kQ (zE rfl rfl wB (zE rfl rfl yG (zF rfl rfl rfl sh22 rfl (zw rfl ty22 rfl (List.length_map _) ?_)))))
 refine zB rfl (zA (zN ?_))
 obtain⟨V,hV⟩:∃V:List SB,V=[.box (setC t J),.box [.lst .full 0 []],.box [.fn 97 [] [.box 1 0,.box 0 0,.box 2 0]]]:=⟨_,rfl⟩
 have hLV:LV t J 1 0 2 V:=by
  rw[hV]
  refine⟨⟨_,rfl⟩,rfl,rfl,fun x hx=>?_,by decide,by decide⟩
  simp only[List.mem_cons,List.not_mem_nil,or_false]at hx
  rcases hx with rfl|rfl|rfl
  ·exact(zDN t J).bd _
  ·intro c hc;rcases List.mem_singleton.1 hc with rfl;exact(wT 6 .full (fun h=>by cases h) 0 []).nb.bd _
  ·intro c hc
   rcases List.mem_singleton.1 hc with rfl
   refine Bd.fn (fun u hu=>by cases hu) fun u hu=>?_
   simp only[List.mem_cons,List.not_mem_nil,or_false]at hu
   rcases hu with rfl|rfl|rfl<;>exact Bd.box (by simp)
 have hb0:bl8 (metB [])=bl8 (fun _=>false):=zHN fun i _=>decide_eq_false (by simp)
 refine yg (fun kk s2=>∃i:Nat,kk+i=t.heard.length∧(∀j,j<i→zAe t J j []=none)∧Tk 1 V s2.st∧Holds s2 [(3,.box 1 0),(4,.box 2 0),(10,.int .i64 t.heard.length),(11,.int .i64 i)]) (fun kk s2 hI=>?_) t.heard.length _ ⟨0,rfl,fun j hj=>absurd hj (Nat.not_lt_zero _),.inl (by rw[hV];rfl),.c4 rfl rfl rfl rfl (.nil rfl)⟩
 obtain⟨i,hki,hno,hTk,hs2⟩:=hI
 generalize hY:s2.st=Y at hTk
 have hLY:=hTk.lv hLV
 have y2:=hLY.l
 have hn8:=h.n8
 refine zK _ _ hs2 hY fun fr2=>?_
 by_cases hin:i<t.heard.length
 ·have hcall:=wpc97 h i is orc hi (by omega) [] Y (LK.nil _) hLY
  rw[hb0]at hcall
  cases hlf:zAe t J i []with
  |some K'=>
   have hcall2:=hcall.mono (Q':=fun u st'=>u=.bool true∧st'=Y.set 1 (.box [.lst .full 1 (zO K')])) fun u st' hq=>by unfold LvQ at hq;rw[hlf]at hq;exact hq
   obtain⟨M,e1,e2,_,_⟩:=leaveF_some i [] hlf
   have hl:K'.length≤4096:=by rw[e1,List.nil_append,e2];omega
   have hw:wroO t J=some K':=zFI hin hlf hno
   have hKK:K=K':=by rw[hw]at hK;exact(Option.some.inj hK).symm
   subst hKK
   obtain⟨F,hF⟩:=hLY.f
   have z1:(Y.set 1 (.box [.lst .full 1 (zO K)]))[1]? =some (.box [.lst .full 1 (zO K)]):=at_put hF
   refine kQ (zf rfl rfl rfl (zA (k_seq (k_cT rfl (decide_eq_true (by omega)) (zQ (k_seq (zN (kQ ?_))))))))
   refine zB rfl (zC rfl (zA (kQ (zF rfl rfl y2 sh120 rfl ?_))))
   refine yK rfl zGO pl122 rfl rfl ?_
   refine zB rfl ?_
   (refine zEy rfl rfl hcall2 (.lcons _ _ _ _ (.nil .full .ro 1) (.lrefl _)) (fun u st1 hM=>?_);obtain⟨rfl,rfl⟩:=hM)
   refine zA ?_
   refine zK [(3,U.box 1 0),(4,U.box 2 0),(10,.int .i64 ↑t.heard.length),(11,.int .i64 ↑i),(17,.bool true)] (List.set Y 1 (SB.box [.lst .full 1 (zO K)])) (.c4 rfl rfl rfl rfl (.cons rfl (.nil rfl))) rfl fun fr=>?_
   refine k_cT rfl rfl ?_
   refine yO (kQ (zF rfl rfl z1 sh29 rfl ?_))
   (refine zCY rfl (wpc99 K hl _) (.lcons _ _ _ _ (.ro _ _ _) (.lrefl _)) (fun u st1 hM=>?_);obtain⟨rfl,rfl⟩:=hM)
   refine zC rfl (zA (zb ?_))
   refine⟨.inr rfl,_,.cons _ _ _ _ (.tmp 2) .nil,?_⟩
   exact .refl _
  |none=>
   have hcall2:=hcall.mono (Q':=fun u st'=>u=.bool false∧Tk 1 Y st') fun u st' hq=>by unfold LvQ at hq;rw[hlf]at hq;exact hq
   refine kQ (zf rfl rfl rfl (zA (k_seq (k_cT rfl (decide_eq_true (by omega)) (zQ (k_seq (zN (kQ ?_))))))))
   refine zB rfl (zC rfl (zA (kQ (zF rfl rfl y2 sh120 rfl ?_))))
   refine yK rfl zGO pl122 rfl rfl ?_
   refine zB rfl ?_
   (refine zEy rfl rfl hcall2 (.lcons _ _ _ _ (.nil .full .ro 1) (.lrefl _)) (fun u st1 hM=>?_);obtain⟨rfl,hT2⟩:=hM)
   refine zA (k_cF rfl rfl ?_)
   refine zQ (k_region ?_)
   refine yT rfl rfl rfl (by unfold I64;omega) (zB rfl (zA ?_))
   exact⟨kk - 1,by omega,i+1,by omega,(fun j hj=>(by
    by_cases e:j=i
    ·subst e;exact hlf
    ·exact hno j (by omega))),hTk.trans hT2,.c4 rfl rfl rfl rfl (.nil rfl)⟩
 ·have hw:wroO t J=none:=zHx fun j hj=>hno j (by omega)
  rw[hw]at hK
  cases hK
noncomputable def wrongL(t:Ts):List Int:=if ym t=true then wroL t (zc t)else []
set_option maxHeartbeats 8000000 in
theorem ret32(hi:Off is)(t:Ts):RetP Try.prog is orc 32 [t.u] (.tup [.lst .ro 1 (zO (wrongL t)),.int .i64 (if ym t=true then 0 else 10)]):=by
 have q17:=ret17 (orc:=orc) hi t
 refine yE body32 pure32 (hi 32 (by decide)) rfl rfl (zAh (zAg t 4)) (.inr ⟨_,rfl,yZ (wT 5 .ro (fun h=>by cases h) 1 _) (.int _ _ _)⟩) ?_
 unfold wrongL
 cases hv:ym t with
 |false=>
  rw[hv]at q17
  rw[if_neg (by decide)]at q17
  rw[if_neg (by decide),if_neg (by decide)]
  refine kQ (yA rfl rfl (zC rfl (zC rfl (zA ?_))))
  refine zK [(1,U.box 0 0)] ([SB.box t.cs]) (.cons rfl (.nil rfl)) rfl fun fr=>?_
  refine k_seq (kQ (zH rfl rfl rfl sh28 rfl (zP rfl (q17) (.lrefl _) (zC rfl (zA (kQ (zB rfl (zAd rfl rfl rfl ?_))))))))
  refine zA (k_cT rfl rfl ?_)
  refine kQ (zB rfl (zC rfl (zC rfl (zA (zb ?_)))))
  refine⟨.inr rfl,_,.cons _ _ _ _ (.tmp 2) (.cons _ _ _ _ (.tmp 3) .nil),?_⟩
  exact .tup _ _ (.lcons _ _ _ _ (.nil .full .ro 1) (.lrefl _))
 |true=>
  have hok:=(zAS t).1 hv
  rw[hv,if_pos rfl]at q17
  rw[if_pos rfl,if_pos rfl]
  have q72:=ret72 (orc:=orc) hi hok.sh
  have q74:=ret74 (orc:=orc) hi hok.sok
  refine kQ (yA rfl rfl (zC rfl (zC rfl (zA ?_))))
  refine zK [(1,U.box 0 0)] ([SB.box t.cs]) (.cons rfl (.nil rfl)) rfl fun fr=>?_
  refine k_seq (kQ (zH rfl rfl rfl sh28 rfl (zP rfl (q17) (.lrefl _) (zC rfl (zA (kQ (zB rfl (zAd rfl rfl rfl ?_))))))))
  refine zA (k_cF rfl rfl ?_)
  refine zQ (kQ (zH rfl rfl rfl sh28 rfl (zP rfl (q72) (.lrefl _) (zP rfl (q74) (.lrefl _) (zC rfl (zC rfl (zA (zb ?_))))))))
  refine⟨.inr rfl,_,.cons _ _ _ _ (.tmp 2) (.cons _ _ _ _ (.tmp 3) .nil),?_⟩
  exact .refl _
theorem wro_none(h:SOk t J)(ht:TunE t J):wroL t J=[]:=by
 have h1:=h.n1
 have hJ:outJ J (metB [])=J:=by
  unfold outJ
  rw[List.filter_eq_self]
  intro j _
  unfold keepB metB
  simp
 have h0:zAe t J 0 []=some []:=by
  unfold zAe outB
  rw[hJ,if_pos ((zBh h).2 ht)]
 have:wroO t J=some []:=zFI (i:=0) (by omega) h0 fun j hj=>absurd hj (Nat.not_lt_zero _)
 unfold wroL
 rw[this];rfl
end
section
variable {is:FuncId→Bool}{orc:Known}
variable {t:Ts}{J:List Jn}{v x y:Int}{st Y Z:List SB}
theorem brk_iff{l:List Int}{j:Jn}:brkB l j=false↔Fit j (pL l j.one) (pL l j.two):=by
 unfold brkB Fit
 rw[Bool.not_eq_false',Bool.and_eq_true,decide_eq_true_eq,decide_eq_true_eq]
theorem pL_map(f:Nat→Int){n:Nat}{v:Int}(hv:0≤v∧v<(n:Int)):pL ((List.range n).map f) v=f v.toNat:=by
 unfold pL
 rw[List.getElem?_map,List.getElem?_range (by omega)];rfl
theorem inB_iff{l:List Int}(hl:l.length=t.heard.length):inB t l=true↔ ∀v,Key t v→InH t v (pL l v):=by
 unfold inB InH Key
 rw[List.all_eq_true,hl]
 constructor
 ·intro h v hv
  have:=h v.toNat (List.mem_range.2 (by omega))
  simp only[Bool.and_eq_true,decide_eq_true_eq,show((v.toNat:Nat):Int)=v by omega]at this
  exact this
 ·intro h i hi
  have hi:=List.mem_range.1 hi
  have:=h (i:Int) ⟨by omega,by omega⟩
  simp only[Bool.and_eq_true,decide_eq_true_eq]
  exact this
theorem drw_in(hok:TOk t)(bits:List Int)(hv:Key t v):InH t v (pL (drwL t bits t.heard.length) v):=by
 unfold drwL
 rw[pL_map _ hv]
 obtain⟨q,_,e1,e2,hq⟩:=hok.sok.key hv
 show hloT t v≤zHd (hloT t ((v.toNat:Nat):Int)) (hhiT t ((v.toNat:Nat):Int)) _∧zHd (hloT t ((v.toNat:Nat):Int)) (hhiT t ((v.toNat:Nat):Int)) _≤hhiT t v
 rw[show((v.toNat:Nat):Int)=v from by have:=hv.1;omega]
 exact drawI_b _ (by omega)
theorem drw_len(t:Ts)(bits:List Int)(n:Nat):(drwL t bits n).length=n:=by unfold drwL;simp
end
end Go.Proofs.Ytinhcdijbcamaaa.tuneTrue
